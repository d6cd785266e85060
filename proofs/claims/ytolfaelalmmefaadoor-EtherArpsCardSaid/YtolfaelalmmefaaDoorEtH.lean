/-
  The document's own Put, PutArp, Get, GetArp.
-/
import Derived.Test.YtolfaelalmmefaaDoorEtG
set_option maxRecDepth 4000
set_option linter.unusedVariables false
set_option linter.unusedSimpArgs false
namespace Go.Proofs.YtolfaelalmmefaaDoor
open Go.RowKit

theorem refGetB_c {v : Value} {xs : List Int} (hl : xs.length ≤ 140737488355328) (w : World) (hb : Buf w v xs) :
    Calls Tryd.prog 33 #[v, .bool true] w fun e w' => e = .returned (.int .u64 (getV xs true)) ∧ Grew w w' :=
  (refGet_c true hb.ok (by omega) w hb.bytes).mono fun _ _ ⟨he, hw⟩ => ⟨he, by rw [hw]; exact Grew.refl w⟩

theorem refPut_0 {f : FR} {p1 : Option Addr} {k1 : Nat} {p2 : Option Addr} {k2 : Nat} {p3 : Option Addr} {k3 : Nat}  (h0 : ((f.d.length : Int) != 6) = true) (w : World) :
    Calls Tryd.prog 14 #[.agg #[.slice p1 f.d.length k1, .slice p2 f.s.length k2, .int .i64 f.t, .slice p3 f.x.length k3]] w fun e w' => e = .returned (.tuple #[.slice none 0 0, .int .i64 2]) ∧ Grew w w' := by
  go_enter Tryd.func14, Tryd.ntmps14
  go_upto_region 1 with fail
  have hB : Blk (w.alloc (.cells #[.slice p1 f.d.length k1, .slice p2 f.s.length k2, .int .i64 f.t, .slice p3 f.x.length k3] 25)) w.heap.size #[.slice p1 f.d.length k1, .slice p2 f.s.length k2, .int .i64 f.t, .slice p3 f.x.length k3] 25 := Blk.new _ _ _ _ rfl
  have g0 : Grew w (w.alloc (.cells #[.slice p1 f.d.length k1, .slice p2 f.s.length k2, .int .i64 f.t, .slice p3 f.x.length k3] 25)) := (Grew.refl _).alloc _
  generalize (w.alloc (.cells #[.slice p1 f.d.length k1, .slice p2 f.s.length k2, .int .i64 f.t, .slice p3 f.x.length k3] 25)) = w0 at *
  generalize hlB : w.heap.size = B at *
  have y0 := hB.cell 0
  have y1 := hB.cell 1
  have y2 := hB.cell 2
  have y3 := hB.cell 3
  go_wp2_with fail
  go_ret2
  exact ⟨rfl, g0⟩
theorem refPut_1 {f : FR} {p1 : Option Addr} {k1 : Nat} {p2 : Option Addr} {k2 : Nat} {p3 : Option Addr} {k3 : Nat} (h0 : ((f.d.length : Int) != 6) = false) (h1 : ((f.s.length : Int) != 6) = true) (w : World) :
    Calls Tryd.prog 14 #[.agg #[.slice p1 f.d.length k1, .slice p2 f.s.length k2, .int .i64 f.t, .slice p3 f.x.length k3]] w fun e w' => e = .returned (.tuple #[.slice none 0 0, .int .i64 2]) ∧ Grew w w' := by
  go_enter Tryd.func14, Tryd.ntmps14
  go_upto_region 1 with fail
  have hB : Blk (w.alloc (.cells #[.slice p1 f.d.length k1, .slice p2 f.s.length k2, .int .i64 f.t, .slice p3 f.x.length k3] 25)) w.heap.size #[.slice p1 f.d.length k1, .slice p2 f.s.length k2, .int .i64 f.t, .slice p3 f.x.length k3] 25 := Blk.new _ _ _ _ rfl
  have g0 : Grew w (w.alloc (.cells #[.slice p1 f.d.length k1, .slice p2 f.s.length k2, .int .i64 f.t, .slice p3 f.x.length k3] 25)) := (Grew.refl _).alloc _
  generalize (w.alloc (.cells #[.slice p1 f.d.length k1, .slice p2 f.s.length k2, .int .i64 f.t, .slice p3 f.x.length k3] 25)) = w0 at *
  generalize hlB : w.heap.size = B at *
  have y0 := hB.cell 0
  have y1 := hB.cell 1
  have y2 := hB.cell 2
  have y3 := hB.cell 3
  go_wp2_with fail
  go_ret2
  exact ⟨rfl, g0⟩
theorem refPut_2 {f : FR} {p1 : Option Addr} {k1 : Nat} {p2 : Option Addr} {k2 : Nat} {p3 : Option Addr} {k3 : Nat} (h0 : ((f.d.length : Int) != 6) = false) (h1 : ((f.s.length : Int) != 6) = false) (h2 : decide (f.t < 0) = true) (w : World) :
    Calls Tryd.prog 14 #[.agg #[.slice p1 f.d.length k1, .slice p2 f.s.length k2, .int .i64 f.t, .slice p3 f.x.length k3]] w fun e w' => e = .returned (.tuple #[.slice none 0 0, .int .i64 2]) ∧ Grew w w' := by
  go_enter Tryd.func14, Tryd.ntmps14
  go_upto_region 1 with fail
  have hB : Blk (w.alloc (.cells #[.slice p1 f.d.length k1, .slice p2 f.s.length k2, .int .i64 f.t, .slice p3 f.x.length k3] 25)) w.heap.size #[.slice p1 f.d.length k1, .slice p2 f.s.length k2, .int .i64 f.t, .slice p3 f.x.length k3] 25 := Blk.new _ _ _ _ rfl
  have g0 : Grew w (w.alloc (.cells #[.slice p1 f.d.length k1, .slice p2 f.s.length k2, .int .i64 f.t, .slice p3 f.x.length k3] 25)) := (Grew.refl _).alloc _
  generalize (w.alloc (.cells #[.slice p1 f.d.length k1, .slice p2 f.s.length k2, .int .i64 f.t, .slice p3 f.x.length k3] 25)) = w0 at *
  generalize hlB : w.heap.size = B at *
  have y0 := hB.cell 0
  have y1 := hB.cell 1
  have y2 := hB.cell 2
  have y3 := hB.cell 3
  go_wp2_with fail
  go_ret2
  exact ⟨rfl, g0⟩
theorem refPut_3 {f : FR} {p1 : Option Addr} {k1 : Nat} {p2 : Option Addr} {k2 : Nat} {p3 : Option Addr} {k3 : Nat} (h0 : ((f.d.length : Int) != 6) = false) (h1 : ((f.s.length : Int) != 6) = false) (h2 : decide (f.t < 0) = false) (h3 : decide ((65535 : Int) < f.t) = true) (w : World) :
    Calls Tryd.prog 14 #[.agg #[.slice p1 f.d.length k1, .slice p2 f.s.length k2, .int .i64 f.t, .slice p3 f.x.length k3]] w fun e w' => e = .returned (.tuple #[.slice none 0 0, .int .i64 2]) ∧ Grew w w' := by
  go_enter Tryd.func14, Tryd.ntmps14
  go_upto_region 1 with fail
  have hB : Blk (w.alloc (.cells #[.slice p1 f.d.length k1, .slice p2 f.s.length k2, .int .i64 f.t, .slice p3 f.x.length k3] 25)) w.heap.size #[.slice p1 f.d.length k1, .slice p2 f.s.length k2, .int .i64 f.t, .slice p3 f.x.length k3] 25 := Blk.new _ _ _ _ rfl
  have g0 : Grew w (w.alloc (.cells #[.slice p1 f.d.length k1, .slice p2 f.s.length k2, .int .i64 f.t, .slice p3 f.x.length k3] 25)) := (Grew.refl _).alloc _
  generalize (w.alloc (.cells #[.slice p1 f.d.length k1, .slice p2 f.s.length k2, .int .i64 f.t, .slice p3 f.x.length k3] 25)) = w0 at *
  generalize hlB : w.heap.size = B at *
  have y0 := hB.cell 0
  have y1 := hB.cell 1
  have y2 := hB.cell 2
  have y3 := hB.cell 3
  go_wp2_with fail
  go_ret2
  exact ⟨rfl, g0⟩
theorem refPut_4 {f : FR} {p1 : Option Addr} {k1 : Nat} {p2 : Option Addr} {k2 : Nat} {p3 : Option Addr} {k3 : Nat} (h0 : ((f.d.length : Int) != 6) = false) (h1 : ((f.s.length : Int) != 6) = false) (h2 : decide (f.t < 0) = false) (h3 : decide ((65535 : Int) < f.t) = false) (h4 : decide ((1500 : Int) < (f.x.length : Nat)) = true) (w : World) :
    Calls Tryd.prog 14 #[.agg #[.slice p1 f.d.length k1, .slice p2 f.s.length k2, .int .i64 f.t, .slice p3 f.x.length k3]] w fun e w' => e = .returned (.tuple #[.slice none 0 0, .int .i64 2]) ∧ Grew w w' := by
  go_enter Tryd.func14, Tryd.ntmps14
  go_upto_region 1 with fail
  have hB : Blk (w.alloc (.cells #[.slice p1 f.d.length k1, .slice p2 f.s.length k2, .int .i64 f.t, .slice p3 f.x.length k3] 25)) w.heap.size #[.slice p1 f.d.length k1, .slice p2 f.s.length k2, .int .i64 f.t, .slice p3 f.x.length k3] 25 := Blk.new _ _ _ _ rfl
  have g0 : Grew w (w.alloc (.cells #[.slice p1 f.d.length k1, .slice p2 f.s.length k2, .int .i64 f.t, .slice p3 f.x.length k3] 25)) := (Grew.refl _).alloc _
  generalize (w.alloc (.cells #[.slice p1 f.d.length k1, .slice p2 f.s.length k2, .int .i64 f.t, .slice p3 f.x.length k3] 25)) = w0 at *
  generalize hlB : w.heap.size = B at *
  have y0 := hB.cell 0
  have y1 := hB.cell 1
  have y2 := hB.cell 2
  have y3 := hB.cell 3
  go_wp2_with fail
  go_ret2
  exact ⟨rfl, g0⟩
set_option maxHeartbeats 2000000 in
theorem refPut_5 {f : FR} {p1 : Option Addr} {k1 : Nat} {p2 : Option Addr} {k2 : Nat} {p3 : Option Addr} {k3 : Nat} (h0 : ((f.d.length : Int) != 6) = false) (h1 : ((f.s.length : Int) != 6) = false) (h2 : decide (f.t < 0) = false) (h3 : decide ((65535 : Int) < f.t) = false) (h4 : decide ((1500 : Int) < (f.x.length : Nat)) = false) (hok : okF f = true) {w : World} (hb1 : Buf w (.slice p1 f.d.length k1) f.d) (hb2 : Buf w (.slice p2 f.s.length k2) f.s) (hb3 : Buf w (.slice p3 f.x.length k3) f.x) :
    Calls Tryd.prog 14 #[.agg #[.slice p1 f.d.length k1, .slice p2 f.s.length k2, .int .i64 f.t, .slice p3 f.x.length k3]] w fun e w' => ∃ u, e = .returned (.tuple #[u, .int .i64 0]) ∧ Buf w' u (putF f) ∧ Grew w w' := by
  have hk := of_decide_eq_true hok
  have ht0 : 0 ≤ f.t := hk.2.2.1
  have ht1 : f.t < 18446744073709551616 := by have := hk.2.2.2.1; omega
  have hw : IntKind.u64.wrap f.t = f.t := IntWalk.u64_in _ (by omega)
  have HW := Lib.hid hw
  have H1 := Lib.hid hb1
  have H2 := Lib.hid hb2
  have H3 := Lib.hid hb3
  have hl1 := Lib.hid (show f.d.length ≤ 140737488355328 by omega)
  have hl2 := Lib.hid (show f.d.length + f.s.length ≤ 140737488355328 by omega)
  have hl3 := Lib.hid (show (f.d ++ f.s).length + (putL f.t 2 true).length ≤ 140737488355328 by rw [List.length_append, putB_len]; omega)
  have hl4 := Lib.hid (show (f.d ++ f.s ++ putL f.t 2 true).length + f.x.length ≤ 140737488355328 by rw [List.length_append, List.length_append, putB_len]; omega)
  have hokb := Lib.hid (show AreBytes (f.d ++ f.s ++ putL f.t 2 true ++ f.x) from fun z hz => by
    simp only [List.mem_append] at hz
    rcases hz with ((hz | hz) | hz) | hz
    · exact hb1.ok z hz
    · exact hb2.ok z hz
    · exact putB_ok _ _ _ z hz
    · exact hb3.ok z hz)
  clear hb1 hb2 hb3 hk hok hw
  go_enter Tryd.func14, Tryd.ntmps14
  go_upto_region 1 with fail
  have hB : Blk (w.alloc (.cells #[.slice p1 f.d.length k1, .slice p2 f.s.length k2, .int .i64 f.t, .slice p3 f.x.length k3] 25)) w.heap.size #[.slice p1 f.d.length k1, .slice p2 f.s.length k2, .int .i64 f.t, .slice p3 f.x.length k3] 25 := Blk.new _ _ _ _ rfl
  have g0 : Grew w (w.alloc (.cells #[.slice p1 f.d.length k1, .slice p2 f.s.length k2, .int .i64 f.t, .slice p3 f.x.length k3] 25)) := (Grew.refl _).alloc _
  generalize (w.alloc (.cells #[.slice p1 f.d.length k1, .slice p2 f.s.length k2, .int .i64 f.t, .slice p3 f.x.length k3] 25)) = w0 at *
  generalize hlB : w.heap.size = B at *
  have y0 := hB.cell 0
  have y1 := hB.cell 1
  have y2 := hB.cell 2
  have y3 := hB.cell 3
  go_upto_region 3 with fail
  clear y0 y1 y2 y3
  refine wp_region_held_drew (S := fun w' => Grew w0 w') (by kernel_rfl) ((Grew.refl w0).drew1) (fun hHeld => ?_)
  replace hHeld : Grew w0 w0.drew := hHeld
  generalize w0.drew = wq0 at *
  refine wpAnyH_take (i := 0) (v := ?_) rfl (by kernel_rfl) (by kernel_rfl) (by kernel_rfl) (fun _ _ _ h => h) (Or.inl ⟨by rfl, ?_⟩) hHeld ?_
  rotate_left
  · intro wq hSw
    replace hSw : Grew w0 wq := hSw
    go_simp
    try with_reducible rfl
  try simp only [List.getElem_toArray, List.getElem_cons_succ, List.getElem_cons_zero, Act.put, List.setIfInBounds_toArray, List.set_cons_zero, List.set_cons_succ]
  refine wpAnyH_take (i := 1) (v := ?_) rfl (by kernel_rfl) (by kernel_rfl) (by kernel_rfl) (fun _ _ _ h => h) (Or.inl ⟨by rfl, ?_⟩) hHeld ?_
  rotate_left
  · intro wq hSw
    replace hSw : Grew w0 wq := hSw
    have y0 := (hB.grew hSw).cell 0
    go_simp
    try with_reducible rfl
  try simp only [List.getElem_toArray, List.getElem_cons_succ, List.getElem_cons_zero, Act.put, List.setIfInBounds_toArray, List.set_cons_zero, List.set_cons_succ]
  refine wpAnyH_take (i := 3) (v := ?_) rfl (by kernel_rfl) (by kernel_rfl) (by kernel_rfl) (fun _ _ _ h => h) (Or.inl ⟨by rfl, ?_⟩) hHeld ?_
  rotate_left
  · intro wq hSw
    replace hSw : Grew w0 wq := hSw
    go_simp
    try with_reducible rfl
  try simp only [List.getElem_toArray, List.getElem_cons_succ, List.getElem_cons_zero, Act.put, List.setIfInBounds_toArray, List.set_cons_zero, List.set_cons_succ]
  refine wpAnyH_take (i := 4) (v := ?_) rfl (by kernel_rfl) (by kernel_rfl) (by kernel_rfl) (fun _ _ _ h => h) (Or.inl ⟨by rfl, ?_⟩) hHeld ?_
  rotate_left
  · intro wq hSw
    replace hSw : Grew w0 wq := hSw
    have y1 := (hB.grew hSw).cell 1
    go_simp
    try with_reducible rfl
  try simp only [List.getElem_toArray, List.getElem_cons_succ, List.getElem_cons_zero, Act.put, List.setIfInBounds_toArray, List.set_cons_zero, List.set_cons_succ]
  refine wpAnyH_take (i := 6) (v := ?_) rfl (by kernel_rfl) (by kernel_rfl) (by kernel_rfl) (fun _ _ _ h => h) (Or.inl ⟨by rfl, ?_⟩) hHeld ?_
  rotate_left
  · intro wq hSw
    replace hSw : Grew w0 wq := hSw
    go_simp
    try with_reducible rfl
  try simp only [List.getElem_toArray, List.getElem_cons_succ, List.getElem_cons_zero, Act.put, List.setIfInBounds_toArray, List.set_cons_zero, List.set_cons_succ]
  refine wpAnyH_take (i := 7) (v := ?_) rfl (by kernel_rfl) (by kernel_rfl) (by kernel_rfl) (fun _ _ _ h => h) (Or.inl ⟨by rfl, ?_⟩) hHeld ?_
  rotate_left
  · intro wq hSw
    replace hSw : Grew w0 wq := hSw
    have y2 := (hB.grew hSw).cell 2
    go_simp
    try with_reducible rfl
  try simp only [List.getElem_toArray, List.getElem_cons_succ, List.getElem_cons_zero, Act.put, List.setIfInBounds_toArray, List.set_cons_zero, List.set_cons_succ]
  refine wpAnyH_take (i := 8) (v := ?_) rfl (by kernel_rfl) (by kernel_rfl) (by kernel_rfl) (fun _ _ _ h => h) (Or.inl ⟨by rfl, ?_⟩) hHeld ?_
  rotate_left
  · intro wq hSw
    replace hSw : Grew w0 wq := hSw
    have hw := HW.out
    go_simp
    try with_reducible rfl
  try simp only [List.getElem_toArray, List.getElem_cons_succ, List.getElem_cons_zero, Act.put, List.setIfInBounds_toArray, List.set_cons_zero, List.set_cons_succ]
  refine wpAnyH_take (i := 11) (v := ?_) rfl (by kernel_rfl) (by kernel_rfl) (by kernel_rfl) (fun _ _ _ h => h) (Or.inl ⟨by rfl, ?_⟩) hHeld ?_
  rotate_left
  · intro wq hSw
    replace hSw : Grew w0 wq := hSw
    go_simp
    try with_reducible rfl
  try simp only [List.getElem_toArray, List.getElem_cons_succ, List.getElem_cons_zero, Act.put, List.setIfInBounds_toArray, List.set_cons_zero, List.set_cons_succ]
  refine wpAnyH_take (i := 12) (v := ?_) rfl (by kernel_rfl) (by kernel_rfl) (by kernel_rfl) (fun _ _ _ h => h) (Or.inl ⟨by rfl, ?_⟩) hHeld ?_
  rotate_left
  · intro wq hSw
    replace hSw : Grew w0 wq := hSw
    have y3 := (hB.grew hSw).cell 3
    go_simp
    try with_reducible rfl
  try simp only [List.getElem_toArray, List.getElem_cons_succ, List.getElem_cons_zero, Act.put, List.setIfInBounds_toArray, List.set_cons_zero, List.set_cons_succ]
  refine wpAnyH_ready (rs := [2]) (by kernel_rfl) (by simp) ?_
  refine AllReadyH.cons rfl (fun K hK => ?_) AllReadyH.nil
  go_simp
  refine (own_c hl1.out (H1.out.grew (g0.trans hHeld))).mono ?_
  rintro e wk1 ⟨pa, ca, rfl, R1, hbuf, gk1⟩
  clear hbuf
  have lo := hHeld.size
  replace R1 := Lib.hid (R1.low lo)
  clear lo
  refine hK.out _ _ (hHeld.trans gk1) (fun hHeld => ?_)
  clear hK K
  try simp only [List.getElem_toArray, List.getElem_cons_succ, List.getElem_cons_zero, Act.put, List.setIfInBounds_toArray, List.set_cons_zero, List.set_cons_succ]
  refine wpAnyH_ready (rs := [5]) (by kernel_rfl) (by simp) ?_
  refine AllReadyH.cons rfl (fun K hK => ?_) AllReadyH.nil
  refine step_append_t rfl (.tmp 32) (.tmp 34) rfl hHeld (R1.out) (H2.out.grew (g0.trans hHeld)) (by rfl) (by rfl) (hl2.out) ?_
  intro vwk2 wk2 R2 gk2
  refine hK.out _ _ (gk2) (fun hHeld => ?_)
  clear hK K
  try simp only [List.getElem_toArray, List.getElem_cons_succ, List.getElem_cons_zero, Act.put, List.setIfInBounds_toArray, List.set_cons_zero, List.set_cons_succ]
  refine wpAnyH_ready (rs := [9]) (by kernel_rfl) (by simp) ?_
  refine AllReadyH.cons rfl (fun K hK => ?_) AllReadyH.nil
  go_simp
  refine (number_c f.t 2 2 rfl (by omega) ht0 ht1 wk2).mono ?_
  rintro e wk3 ⟨pn, cn, rfl, rn, HN, gk3⟩
  clear rn
  replace R2 := Lib.hid (R2.out.grew gk3)
  replace HN := Lib.hid HN
  refine hK.out _ _ (hHeld.trans gk3) (fun hHeld => ?_)
  clear hK K
  try simp only [List.getElem_toArray, List.getElem_cons_succ, List.getElem_cons_zero, Act.put, List.setIfInBounds_toArray, List.set_cons_zero, List.set_cons_succ]
  refine wpAnyH_ready (rs := [10]) (by kernel_rfl) (by simp) ?_
  refine AllReadyH.cons rfl (fun K hK => ?_) AllReadyH.nil
  refine step_append_t rfl (.tmp 35) (.tmp 39) rfl hHeld (R2.out) (HN.out) (by rfl) (by rfl) (hl3.out) ?_
  intro vwk4 wk4 R3 gk4
  refine hK.out _ _ (gk4) (fun hHeld => ?_)
  clear hK K
  try simp only [List.getElem_toArray, List.getElem_cons_succ, List.getElem_cons_zero, Act.put, List.setIfInBounds_toArray, List.set_cons_zero, List.set_cons_succ]
  refine wpAnyH_ready (rs := [13]) (by kernel_rfl) (by simp) ?_
  refine AllReadyH.cons rfl (fun K hK => ?_) AllReadyH.nil
  refine step_append_t rfl (.tmp 40) (.tmp 42) rfl hHeld (R3.out) (H3.out.grew (g0.trans hHeld)) (by rfl) (by rfl) (hl4.out) ?_
  intro vwk5 wk5 R4 gk5
  refine hK.out _ _ (gk5) (fun hHeld => ?_)
  clear hK K
  try simp only [List.getElem_toArray, List.getElem_cons_succ, List.getElem_cons_zero, Act.put, List.setIfInBounds_toArray, List.set_cons_zero, List.set_cons_succ]
  refine wpAnyH_take (i := 14) (v := ?_) rfl (by kernel_rfl) (by kernel_rfl) (by kernel_rfl) (fun _ _ _ h => h) (Or.inl ⟨by rfl, ?_⟩) hHeld ?_
  rotate_left
  · intro wq hSw
    replace hSw : Grew w0 wq := hSw
    go_simp
    try with_reducible rfl
  try simp only [List.getElem_toArray, List.getElem_cons_succ, List.getElem_cons_zero, Act.put, List.setIfInBounds_toArray, List.set_cons_zero, List.set_cons_succ]
  refine wpAnyH_take (i := 15) (v := ?_) rfl (by kernel_rfl) (by kernel_rfl) (by kernel_rfl) (fun _ _ _ h => h) (Or.inl ⟨by rfl, ?_⟩) hHeld ?_
  rotate_left
  · intro wq hSw
    replace hSw : Grew w0 wq := hSw
    go_simp
    try with_reducible rfl
  try simp only [List.getElem_toArray, List.getElem_cons_succ, List.getElem_cons_zero, Act.put, List.setIfInBounds_toArray, List.set_cons_zero, List.set_cons_succ]
  refine wpAnyH_done (by kernel_rfl) ?_ _
  try simp only [List.getElem_toArray, List.getElem_cons_succ, List.getElem_cons_zero, Act.put, List.setIfInBounds_toArray, List.set_cons_zero, List.set_cons_succ]
  go_wp2_with fail
  go_ret2
  refine ⟨_, rfl, ?_, g0.trans hHeld⟩
  have := R4.out.buf hokb.out
  rwa [show f.d ++ f.s ++ putL f.t 2 true ++ f.x = putF f by simp [putF]] at this
theorem refPut16_c {v : Value} {f : FR} {w : World} (hv : Fr w v f) :
    Calls Tryd.prog 14 #[v] w fun e w' => ∃ u, e = .returned (.tuple #[u, .int .i64 (putFE f)]) ∧ Buf w' u (putFB f) ∧ Grew w w' := by
  obtain ⟨p1, k1, p2, k2, p3, k3, rfl, b1, b2, b3⟩ := hv.shape
  unfold putFE putFB
  cases h0 : ((f.d.length : Int) != 6)
  · cases h1 : ((f.s.length : Int) != 6)
    · cases h2 : decide (f.t < 0)
      · cases h3 : decide ((65535 : Int) < f.t)
        · cases h4 : decide ((1500 : Int) < (f.x.length : Nat))
          · have ho : okF f = true := by unfold okF; simp at h0 h1 h2 h3 h4; exact decide_eq_true (by omega)
            rw [ho]
            exact refPut_5 h0 h1 h2 h3 h4 ho b1 b2 b3
          · rw [show okF f = false by unfold okF; simp at h4; exact decide_eq_false (by omega)]
            exact (refPut_4 h0 h1 h2 h3 h4 w).mono fun _ _ ⟨x1, x2⟩ => ⟨_, x1, Buf.nil _, x2⟩
        · rw [show okF f = false by unfold okF; simp at h3; exact decide_eq_false (by omega)]
          exact (refPut_3 h0 h1 h2 h3 w).mono fun _ _ ⟨x1, x2⟩ => ⟨_, x1, Buf.nil _, x2⟩
      · rw [show okF f = false by unfold okF; simp at h2; exact decide_eq_false (by omega)]
        exact (refPut_2 h0 h1 h2 w).mono fun _ _ ⟨x1, x2⟩ => ⟨_, x1, Buf.nil _, x2⟩
    · rw [show okF f = false by unfold okF; simp at h1; exact decide_eq_false (by omega)]
      exact (refPut_1 h0 h1 w).mono fun _ _ ⟨x1, x2⟩ => ⟨_, x1, Buf.nil _, x2⟩
  · rw [show okF f = false by unfold okF; simp at h0; exact decide_eq_false (by omega)]
    exact (refPut_0 h0 w).mono fun _ _ ⟨x1, x2⟩ => ⟨_, x1, Buf.nil _, x2⟩
theorem refPutA_0 {f : AR} {p1 : Option Addr} {k1 : Nat} {p2 : Option Addr} {k2 : Nat} (h0 : ((f.sm.length : Int) != 6) = true) (w : World) :
    Calls Tryd.prog 17 #[.agg #[.int .i64 f.op, .slice p1 f.sm.length k1, .int .u32 f.si, .slice p2 f.tm.length k2, .int .u32 f.ti]] w fun e w' => e = .returned (.tuple #[.slice none 0 0, .int .i64 2]) ∧ Grew w w' := by
  go_enter Tryd.func17, Tryd.ntmps17
  go_upto_region 1 with fail
  have hB : Blk (w.alloc (.cells #[.int .i64 f.op, .slice p1 f.sm.length k1, .int .u32 f.si, .slice p2 f.tm.length k2, .int .u32 f.ti] 34)) w.heap.size #[.int .i64 f.op, .slice p1 f.sm.length k1, .int .u32 f.si, .slice p2 f.tm.length k2, .int .u32 f.ti] 34 := Blk.new _ _ _ _ rfl
  have g0 : Grew w (w.alloc (.cells #[.int .i64 f.op, .slice p1 f.sm.length k1, .int .u32 f.si, .slice p2 f.tm.length k2, .int .u32 f.ti] 34)) := (Grew.refl _).alloc _
  generalize (w.alloc (.cells #[.int .i64 f.op, .slice p1 f.sm.length k1, .int .u32 f.si, .slice p2 f.tm.length k2, .int .u32 f.ti] 34)) = w0 at *
  generalize hlB : w.heap.size = B at *
  have y0 := hB.cell 0
  have y1 := hB.cell 1
  have y2 := hB.cell 2
  have y3 := hB.cell 3
  have y4 := hB.cell 4
  go_wp2_with fail
  go_ret2
  exact ⟨rfl, g0⟩
theorem refPutA_1 {f : AR} {p1 : Option Addr} {k1 : Nat} {p2 : Option Addr} {k2 : Nat} (h0 : ((f.sm.length : Int) != 6) = false) (h1 : ((f.tm.length : Int) != 6) = true) (w : World) :
    Calls Tryd.prog 17 #[.agg #[.int .i64 f.op, .slice p1 f.sm.length k1, .int .u32 f.si, .slice p2 f.tm.length k2, .int .u32 f.ti]] w fun e w' => e = .returned (.tuple #[.slice none 0 0, .int .i64 2]) ∧ Grew w w' := by
  go_enter Tryd.func17, Tryd.ntmps17
  go_upto_region 1 with fail
  have hB : Blk (w.alloc (.cells #[.int .i64 f.op, .slice p1 f.sm.length k1, .int .u32 f.si, .slice p2 f.tm.length k2, .int .u32 f.ti] 34)) w.heap.size #[.int .i64 f.op, .slice p1 f.sm.length k1, .int .u32 f.si, .slice p2 f.tm.length k2, .int .u32 f.ti] 34 := Blk.new _ _ _ _ rfl
  have g0 : Grew w (w.alloc (.cells #[.int .i64 f.op, .slice p1 f.sm.length k1, .int .u32 f.si, .slice p2 f.tm.length k2, .int .u32 f.ti] 34)) := (Grew.refl _).alloc _
  generalize (w.alloc (.cells #[.int .i64 f.op, .slice p1 f.sm.length k1, .int .u32 f.si, .slice p2 f.tm.length k2, .int .u32 f.ti] 34)) = w0 at *
  generalize hlB : w.heap.size = B at *
  have y0 := hB.cell 0
  have y1 := hB.cell 1
  have y2 := hB.cell 2
  have y3 := hB.cell 3
  have y4 := hB.cell 4
  go_wp2_with fail
  go_ret2
  exact ⟨rfl, g0⟩
theorem refPutA_2 {f : AR} {p1 : Option Addr} {k1 : Nat} {p2 : Option Addr} {k2 : Nat} (h0 : ((f.sm.length : Int) != 6) = false) (h1 : ((f.tm.length : Int) != 6) = false) (h2 : (f.op != 1) = true) (h3 : (f.op != 2) = true) (w : World) :
    Calls Tryd.prog 17 #[.agg #[.int .i64 f.op, .slice p1 f.sm.length k1, .int .u32 f.si, .slice p2 f.tm.length k2, .int .u32 f.ti]] w fun e w' => e = .returned (.tuple #[.slice none 0 0, .int .i64 2]) ∧ Grew w w' := by
  go_enter Tryd.func17, Tryd.ntmps17
  go_upto_region 1 with fail
  have hB : Blk (w.alloc (.cells #[.int .i64 f.op, .slice p1 f.sm.length k1, .int .u32 f.si, .slice p2 f.tm.length k2, .int .u32 f.ti] 34)) w.heap.size #[.int .i64 f.op, .slice p1 f.sm.length k1, .int .u32 f.si, .slice p2 f.tm.length k2, .int .u32 f.ti] 34 := Blk.new _ _ _ _ rfl
  have g0 : Grew w (w.alloc (.cells #[.int .i64 f.op, .slice p1 f.sm.length k1, .int .u32 f.si, .slice p2 f.tm.length k2, .int .u32 f.ti] 34)) := (Grew.refl _).alloc _
  generalize (w.alloc (.cells #[.int .i64 f.op, .slice p1 f.sm.length k1, .int .u32 f.si, .slice p2 f.tm.length k2, .int .u32 f.ti] 34)) = w0 at *
  generalize hlB : w.heap.size = B at *
  have y0 := hB.cell 0
  have y1 := hB.cell 1
  have y2 := hB.cell 2
  have y3 := hB.cell 3
  have y4 := hB.cell 4
  go_wp2_with fail
  go_ret2
  exact ⟨rfl, g0⟩
set_option maxHeartbeats 2000000 in
theorem refPutA_yes1 {f : AR} {p1 : Option Addr} {k1 : Nat} {p2 : Option Addr} {k2 : Nat} (h0 : ((f.sm.length : Int) != 6) = false) (h1 : ((f.tm.length : Int) != 6) = false) (hsi : u32I f.si) (hti : u32I f.ti) {w : World} (hb1 : Buf w (.slice p1 f.sm.length k1) f.sm) (hb2 : Buf w (.slice p2 f.tm.length k2) f.tm) :
    Calls Tryd.prog 17 #[.agg #[.int .i64 1, .slice p1 f.sm.length k1, .int .u32 f.si, .slice p2 f.tm.length k2, .int .u32 f.ti]] w fun e w' => ∃ u, e = .returned (.tuple #[u, .int .i64 0]) ∧ Buf w' u ([0, 1, 8, 0, 6, 4, 0, 1] ++ f.sm ++ putL f.si 4 true ++ f.tm ++ putL f.ti 4 true) ∧ Grew w w' := by
  have hs0 := hsi.1
  have hs1 : f.si < 18446744073709551616 := by have := hsi.2; omega
  have ht0 := hti.1
  have ht1 : f.ti < 18446744073709551616 := by have := hti.2; omega
  have hws : IntKind.u64.wrap f.si = f.si := IntWalk.u64_in _ (by omega)
  have hwt : IntKind.u64.wrap f.ti = f.ti := IntWalk.u64_in _ (by omega)
  have HWS := Lib.hid hws
  have HWT := Lib.hid hwt
  have h6 : f.sm.length = 6 ∧ f.tm.length = 6 := by simp at h0 h1; omega
  have H1 := Lib.hid hb1
  have H2 := Lib.hid hb2
  have hhd : AreBytes [0, 1, 8, 0, 6, 4, 0, 1] := by intro z hz; simp at hz; omega
  have hl1 := Lib.hid (show ([0, 1, 8, 0, 6, 4, 0, 1] : List Int).length + f.sm.length ≤ 140737488355328 by simp; omega)
  have hl2 := Lib.hid (show ([0, 1, 8, 0, 6, 4, 0, 1] ++ f.sm).length + (putL f.si 4 true).length ≤ 140737488355328 by rw [List.length_append, putB_len]; simp; omega)
  have hl3 := Lib.hid (show ([0, 1, 8, 0, 6, 4, 0, 1] ++ f.sm ++ putL f.si 4 true).length + f.tm.length ≤ 140737488355328 by rw [List.length_append, List.length_append, putB_len]; simp; omega)
  have hl4 := Lib.hid (show ([0, 1, 8, 0, 6, 4, 0, 1] ++ f.sm ++ putL f.si 4 true ++ f.tm).length + (putL f.ti 4 true).length ≤ 140737488355328 by rw [List.length_append, List.length_append, List.length_append, putB_len, putB_len]; simp; omega)
  have hokb := Lib.hid (show AreBytes ([0, 1, 8, 0, 6, 4, 0, 1] ++ f.sm ++ putL f.si 4 true ++ f.tm ++ putL f.ti 4 true) from fun z hz => by
    rcases List.mem_append.1 hz with hz | hz
    · rcases List.mem_append.1 hz with hz | hz
      · rcases List.mem_append.1 hz with hz | hz
        · rcases List.mem_append.1 hz with hz | hz
          · exact hhd z hz
          · exact hb1.ok z hz
        · exact putB_ok _ _ _ z hz
      · exact hb2.ok z hz
    · exact putB_ok _ _ _ z hz)
  clear hb1 hb2 hws hwt h6 hsi hti hhd
  go_enter Tryd.func17, Tryd.ntmps17
  go_upto_region 1 with fail
  have hB : Blk (w.alloc (.cells #[.int .i64 1, .slice p1 f.sm.length k1, .int .u32 f.si, .slice p2 f.tm.length k2, .int .u32 f.ti] 34)) w.heap.size #[.int .i64 1, .slice p1 f.sm.length k1, .int .u32 f.si, .slice p2 f.tm.length k2, .int .u32 f.ti] 34 := Blk.new _ _ _ _ rfl
  have g0 : Grew w (w.alloc (.cells #[.int .i64 1, .slice p1 f.sm.length k1, .int .u32 f.si, .slice p2 f.tm.length k2, .int .u32 f.ti] 34)) := (Grew.refl _).alloc _
  generalize (w.alloc (.cells #[.int .i64 1, .slice p1 f.sm.length k1, .int .u32 f.si, .slice p2 f.tm.length k2, .int .u32 f.ti] 34)) = w0 at *
  generalize hlB : w.heap.size = B at *
  have y0 := hB.cell 0
  have y1 := hB.cell 1
  have y2 := hB.cell 2
  have y3 := hB.cell 3
  have y4 := hB.cell 4
  go_upto_region 3 with fail
  have y9 := (hB.alloc (.cells #[.int .u8 0, .int .u8 1, .int .u8 8, .int .u8 0, .int .u8 6, .int .u8 4, .int .u8 0, .int .u8 1] 5)).cell 1
  go_upto_region 4 with (refine wpList_append_b rfl (.tmp 28) (.tmp 30) rfl ((Grew.refl w0).alloc _) (Row.lit w0 w0.heap.size (Nat.le_refl _) #[.int .u8 0, .int .u8 1, .int .u8 8, .int .u8 0, .int .u8 6, .int .u8 4, .int .u8 0, .int .u8 1] [0, 1, 8, 0, 6, 4, 0, 1] rfl (by unfold maxLen; simp) _ rfl 8 rfl) (H1.out.grew (g0.alloc _)) (by rfl) (by rfl) hl1.out ?_; intro v1 w1 R1 g1 x1; clear x1)
  clear y0 y1 y2 y3 y4 y9
  replace R1 := Lib.hid (R1.out.grew ((Grew.refl w1).drew1))
  refine wp_region_held_drew (S := fun w' => Grew w0 w') (by kernel_rfl) (by exact g1.drew1) (fun hHeld => ?_)
  replace hHeld : Grew w0 w1.drew := hHeld
  generalize w1.drew = wq0 at *
  refine wpAnyH_take (i := 0) (v := ?_) rfl (by kernel_rfl) (by kernel_rfl) (by kernel_rfl) (fun _ _ _ h => h) (Or.inl ⟨by rfl, ?_⟩) hHeld ?_
  rotate_left
  · intro wq hSw
    replace hSw : Grew w0 wq := hSw
    go_simp
    try with_reducible rfl
  try simp only [List.getElem_toArray, List.getElem_cons_succ, List.getElem_cons_zero, Act.put, List.setIfInBounds_toArray, List.set_cons_zero, List.set_cons_succ]
  refine wpAnyH_take (i := 1) (v := ?_) rfl (by kernel_rfl) (by kernel_rfl) (by kernel_rfl) (fun _ _ _ h => h) (Or.inl ⟨by rfl, ?_⟩) hHeld ?_
  rotate_left
  · intro wq hSw
    replace hSw : Grew w0 wq := hSw
    go_simp
    try with_reducible rfl
  try simp only [List.getElem_toArray, List.getElem_cons_succ, List.getElem_cons_zero, Act.put, List.setIfInBounds_toArray, List.set_cons_zero, List.set_cons_succ]
  refine wpAnyH_take (i := 2) (v := ?_) rfl (by kernel_rfl) (by kernel_rfl) (by kernel_rfl) (fun _ _ _ h => h) (Or.inl ⟨by rfl, ?_⟩) hHeld ?_
  rotate_left
  · intro wq hSw
    replace hSw : Grew w0 wq := hSw
    have y2 := (hB.grew hSw).cell 2
    go_simp
    try with_reducible rfl
  try simp only [List.getElem_toArray, List.getElem_cons_succ, List.getElem_cons_zero, Act.put, List.setIfInBounds_toArray, List.set_cons_zero, List.set_cons_succ]
  refine wpAnyH_take (i := 3) (v := ?_) rfl (by kernel_rfl) (by kernel_rfl) (by kernel_rfl) (fun _ _ _ h => h) (Or.inl ⟨by rfl, ?_⟩) hHeld ?_
  rotate_left
  · intro wq hSw
    replace hSw : Grew w0 wq := hSw
    have hw := HWS.out
    go_simp
    try with_reducible rfl
  try simp only [List.getElem_toArray, List.getElem_cons_succ, List.getElem_cons_zero, Act.put, List.setIfInBounds_toArray, List.set_cons_zero, List.set_cons_succ]
  refine wpAnyH_take (i := 6) (v := ?_) rfl (by kernel_rfl) (by kernel_rfl) (by kernel_rfl) (fun _ _ _ h => h) (Or.inl ⟨by rfl, ?_⟩) hHeld ?_
  rotate_left
  · intro wq hSw
    replace hSw : Grew w0 wq := hSw
    go_simp
    try with_reducible rfl
  try simp only [List.getElem_toArray, List.getElem_cons_succ, List.getElem_cons_zero, Act.put, List.setIfInBounds_toArray, List.set_cons_zero, List.set_cons_succ]
  refine wpAnyH_take (i := 7) (v := ?_) rfl (by kernel_rfl) (by kernel_rfl) (by kernel_rfl) (fun _ _ _ h => h) (Or.inl ⟨by rfl, ?_⟩) hHeld ?_
  rotate_left
  · intro wq hSw
    replace hSw : Grew w0 wq := hSw
    have y3 := (hB.grew hSw).cell 3
    go_simp
    try with_reducible rfl
  try simp only [List.getElem_toArray, List.getElem_cons_succ, List.getElem_cons_zero, Act.put, List.setIfInBounds_toArray, List.set_cons_zero, List.set_cons_succ]
  refine wpAnyH_ready (rs := [4]) (by kernel_rfl) (by simp) ?_
  refine AllReadyH.cons rfl (fun K hK => ?_) AllReadyH.nil
  go_simp
  refine (number_c f.si 4 4 rfl (by omega) hs0 hs1 wq0).mono ?_
  rintro e wk1 ⟨pn, cn, rfl, rn, HN, gk1⟩
  clear rn
  replace R1 := Lib.hid (R1.out.grew gk1)
  replace HN := Lib.hid HN
  refine hK.out _ _ (hHeld.trans gk1) (fun hHeld => ?_)
  clear hK K
  try simp only [List.getElem_toArray, List.getElem_cons_succ, List.getElem_cons_zero, Act.put, List.setIfInBounds_toArray, List.set_cons_zero, List.set_cons_succ]
  refine wpAnyH_ready (rs := [5]) (by kernel_rfl) (by simp) ?_
  refine AllReadyH.cons rfl (fun K hK => ?_) AllReadyH.nil
  refine step_append_t rfl (.tmp 32) (.tmp 36) rfl hHeld (R1.out) (HN.out) (by rfl) (by rfl) (hl2.out) ?_
  intro vwk2 wk2 R2 gk2
  refine hK.out _ _ (gk2) (fun hHeld => ?_)
  clear hK K
  try simp only [List.getElem_toArray, List.getElem_cons_succ, List.getElem_cons_zero, Act.put, List.setIfInBounds_toArray, List.set_cons_zero, List.set_cons_succ]
  refine wpAnyH_ready (rs := [8]) (by kernel_rfl) (by simp) ?_
  refine AllReadyH.cons rfl (fun K hK => ?_) AllReadyH.nil
  refine step_append_t rfl (.tmp 37) (.tmp 39) rfl hHeld (R2.out) (H2.out.grew (g0.trans hHeld)) (by rfl) (by rfl) (hl3.out) ?_
  intro vwk3 wk3 R3 gk3
  refine hK.out _ _ (gk3) (fun hHeld => ?_)
  clear hK K
  try simp only [List.getElem_toArray, List.getElem_cons_succ, List.getElem_cons_zero, Act.put, List.setIfInBounds_toArray, List.set_cons_zero, List.set_cons_succ]
  refine wpAnyH_take (i := 9) (v := ?_) rfl (by kernel_rfl) (by kernel_rfl) (by kernel_rfl) (fun _ _ _ h => h) (Or.inl ⟨by rfl, ?_⟩) hHeld ?_
  rotate_left
  · intro wq hSw
    replace hSw : Grew w0 wq := hSw
    go_simp
    try with_reducible rfl
  try simp only [List.getElem_toArray, List.getElem_cons_succ, List.getElem_cons_zero, Act.put, List.setIfInBounds_toArray, List.set_cons_zero, List.set_cons_succ]
  refine wpAnyH_done (by kernel_rfl) ?_ _
  try simp only [List.getElem_toArray, List.getElem_cons_succ, List.getElem_cons_zero, Act.put, List.setIfInBounds_toArray, List.set_cons_zero, List.set_cons_succ]
  have y4 := (hB.grew hHeld).cell 4
  have hw := HWT.out
  go_wp2_with fail
  refine (number_c f.ti 4 4 rfl (by omega) ht0 ht1 _).mono ?_
  rintro e w9 ⟨pq, cq, rfl, rq, bq, g9⟩
  have BQ := Lib.hid bq
  clear rq bq y4
  replace R3 := Lib.hid (R3.out.grew g9)
  go_wp2_with (refine wpList_append_b rfl (.tmp 41) (.tmp 45) rfl (hHeld.trans g9) R3.out BQ.out (by rfl) (by rfl) hl4.out ?_; intro v10 w10 R10 g10 x10; clear x10)
  go_ret2
  exact ⟨_, rfl, R10.out.buf hokb.out, g0.trans g10⟩
set_option maxHeartbeats 2000000 in
theorem refPutA_yes2 {f : AR} {p1 : Option Addr} {k1 : Nat} {p2 : Option Addr} {k2 : Nat} (h0 : ((f.sm.length : Int) != 6) = false) (h1 : ((f.tm.length : Int) != 6) = false) (hsi : u32I f.si) (hti : u32I f.ti) {w : World} (hb1 : Buf w (.slice p1 f.sm.length k1) f.sm) (hb2 : Buf w (.slice p2 f.tm.length k2) f.tm) :
    Calls Tryd.prog 17 #[.agg #[.int .i64 2, .slice p1 f.sm.length k1, .int .u32 f.si, .slice p2 f.tm.length k2, .int .u32 f.ti]] w fun e w' => ∃ u, e = .returned (.tuple #[u, .int .i64 0]) ∧ Buf w' u ([0, 1, 8, 0, 6, 4, 0, 2] ++ f.sm ++ putL f.si 4 true ++ f.tm ++ putL f.ti 4 true) ∧ Grew w w' := by
  have hs0 := hsi.1
  have hs1 : f.si < 18446744073709551616 := by have := hsi.2; omega
  have ht0 := hti.1
  have ht1 : f.ti < 18446744073709551616 := by have := hti.2; omega
  have hws : IntKind.u64.wrap f.si = f.si := IntWalk.u64_in _ (by omega)
  have hwt : IntKind.u64.wrap f.ti = f.ti := IntWalk.u64_in _ (by omega)
  have HWS := Lib.hid hws
  have HWT := Lib.hid hwt
  have h6 : f.sm.length = 6 ∧ f.tm.length = 6 := by simp at h0 h1; omega
  have H1 := Lib.hid hb1
  have H2 := Lib.hid hb2
  have hhd : AreBytes [0, 1, 8, 0, 6, 4, 0, 2] := by intro z hz; simp at hz; omega
  have hl1 := Lib.hid (show ([0, 1, 8, 0, 6, 4, 0, 2] : List Int).length + f.sm.length ≤ 140737488355328 by simp; omega)
  have hl2 := Lib.hid (show ([0, 1, 8, 0, 6, 4, 0, 2] ++ f.sm).length + (putL f.si 4 true).length ≤ 140737488355328 by rw [List.length_append, putB_len]; simp; omega)
  have hl3 := Lib.hid (show ([0, 1, 8, 0, 6, 4, 0, 2] ++ f.sm ++ putL f.si 4 true).length + f.tm.length ≤ 140737488355328 by rw [List.length_append, List.length_append, putB_len]; simp; omega)
  have hl4 := Lib.hid (show ([0, 1, 8, 0, 6, 4, 0, 2] ++ f.sm ++ putL f.si 4 true ++ f.tm).length + (putL f.ti 4 true).length ≤ 140737488355328 by rw [List.length_append, List.length_append, List.length_append, putB_len, putB_len]; simp; omega)
  have hokb := Lib.hid (show AreBytes ([0, 1, 8, 0, 6, 4, 0, 2] ++ f.sm ++ putL f.si 4 true ++ f.tm ++ putL f.ti 4 true) from fun z hz => by
    rcases List.mem_append.1 hz with hz | hz
    · rcases List.mem_append.1 hz with hz | hz
      · rcases List.mem_append.1 hz with hz | hz
        · rcases List.mem_append.1 hz with hz | hz
          · exact hhd z hz
          · exact hb1.ok z hz
        · exact putB_ok _ _ _ z hz
      · exact hb2.ok z hz
    · exact putB_ok _ _ _ z hz)
  clear hb1 hb2 hws hwt h6 hsi hti hhd
  go_enter Tryd.func17, Tryd.ntmps17
  go_upto_region 1 with fail
  have hB : Blk (w.alloc (.cells #[.int .i64 2, .slice p1 f.sm.length k1, .int .u32 f.si, .slice p2 f.tm.length k2, .int .u32 f.ti] 34)) w.heap.size #[.int .i64 2, .slice p1 f.sm.length k1, .int .u32 f.si, .slice p2 f.tm.length k2, .int .u32 f.ti] 34 := Blk.new _ _ _ _ rfl
  have g0 : Grew w (w.alloc (.cells #[.int .i64 2, .slice p1 f.sm.length k1, .int .u32 f.si, .slice p2 f.tm.length k2, .int .u32 f.ti] 34)) := (Grew.refl _).alloc _
  generalize (w.alloc (.cells #[.int .i64 2, .slice p1 f.sm.length k1, .int .u32 f.si, .slice p2 f.tm.length k2, .int .u32 f.ti] 34)) = w0 at *
  generalize hlB : w.heap.size = B at *
  have y0 := hB.cell 0
  have y1 := hB.cell 1
  have y2 := hB.cell 2
  have y3 := hB.cell 3
  have y4 := hB.cell 4
  go_upto_region 3 with fail
  have y9 := (hB.alloc (.cells #[.int .u8 0, .int .u8 1, .int .u8 8, .int .u8 0, .int .u8 6, .int .u8 4, .int .u8 0, .int .u8 2] 5)).cell 1
  go_upto_region 4 with (refine wpList_append_b rfl (.tmp 28) (.tmp 30) rfl ((Grew.refl w0).alloc _) (Row.lit w0 w0.heap.size (Nat.le_refl _) #[.int .u8 0, .int .u8 1, .int .u8 8, .int .u8 0, .int .u8 6, .int .u8 4, .int .u8 0, .int .u8 2] [0, 1, 8, 0, 6, 4, 0, 2] rfl (by unfold maxLen; simp) _ rfl 8 rfl) (H1.out.grew (g0.alloc _)) (by rfl) (by rfl) hl1.out ?_; intro v1 w1 R1 g1 x1; clear x1)
  clear y0 y1 y2 y3 y4 y9
  replace R1 := Lib.hid (R1.out.grew ((Grew.refl w1).drew1))
  refine wp_region_held_drew (S := fun w' => Grew w0 w') (by kernel_rfl) (by exact g1.drew1) (fun hHeld => ?_)
  replace hHeld : Grew w0 w1.drew := hHeld
  generalize w1.drew = wq0 at *
  refine wpAnyH_take (i := 0) (v := ?_) rfl (by kernel_rfl) (by kernel_rfl) (by kernel_rfl) (fun _ _ _ h => h) (Or.inl ⟨by rfl, ?_⟩) hHeld ?_
  rotate_left
  · intro wq hSw
    replace hSw : Grew w0 wq := hSw
    go_simp
    try with_reducible rfl
  try simp only [List.getElem_toArray, List.getElem_cons_succ, List.getElem_cons_zero, Act.put, List.setIfInBounds_toArray, List.set_cons_zero, List.set_cons_succ]
  refine wpAnyH_take (i := 1) (v := ?_) rfl (by kernel_rfl) (by kernel_rfl) (by kernel_rfl) (fun _ _ _ h => h) (Or.inl ⟨by rfl, ?_⟩) hHeld ?_
  rotate_left
  · intro wq hSw
    replace hSw : Grew w0 wq := hSw
    go_simp
    try with_reducible rfl
  try simp only [List.getElem_toArray, List.getElem_cons_succ, List.getElem_cons_zero, Act.put, List.setIfInBounds_toArray, List.set_cons_zero, List.set_cons_succ]
  refine wpAnyH_take (i := 2) (v := ?_) rfl (by kernel_rfl) (by kernel_rfl) (by kernel_rfl) (fun _ _ _ h => h) (Or.inl ⟨by rfl, ?_⟩) hHeld ?_
  rotate_left
  · intro wq hSw
    replace hSw : Grew w0 wq := hSw
    have y2 := (hB.grew hSw).cell 2
    go_simp
    try with_reducible rfl
  try simp only [List.getElem_toArray, List.getElem_cons_succ, List.getElem_cons_zero, Act.put, List.setIfInBounds_toArray, List.set_cons_zero, List.set_cons_succ]
  refine wpAnyH_take (i := 3) (v := ?_) rfl (by kernel_rfl) (by kernel_rfl) (by kernel_rfl) (fun _ _ _ h => h) (Or.inl ⟨by rfl, ?_⟩) hHeld ?_
  rotate_left
  · intro wq hSw
    replace hSw : Grew w0 wq := hSw
    have hw := HWS.out
    go_simp
    try with_reducible rfl
  try simp only [List.getElem_toArray, List.getElem_cons_succ, List.getElem_cons_zero, Act.put, List.setIfInBounds_toArray, List.set_cons_zero, List.set_cons_succ]
  refine wpAnyH_take (i := 6) (v := ?_) rfl (by kernel_rfl) (by kernel_rfl) (by kernel_rfl) (fun _ _ _ h => h) (Or.inl ⟨by rfl, ?_⟩) hHeld ?_
  rotate_left
  · intro wq hSw
    replace hSw : Grew w0 wq := hSw
    go_simp
    try with_reducible rfl
  try simp only [List.getElem_toArray, List.getElem_cons_succ, List.getElem_cons_zero, Act.put, List.setIfInBounds_toArray, List.set_cons_zero, List.set_cons_succ]
  refine wpAnyH_take (i := 7) (v := ?_) rfl (by kernel_rfl) (by kernel_rfl) (by kernel_rfl) (fun _ _ _ h => h) (Or.inl ⟨by rfl, ?_⟩) hHeld ?_
  rotate_left
  · intro wq hSw
    replace hSw : Grew w0 wq := hSw
    have y3 := (hB.grew hSw).cell 3
    go_simp
    try with_reducible rfl
  try simp only [List.getElem_toArray, List.getElem_cons_succ, List.getElem_cons_zero, Act.put, List.setIfInBounds_toArray, List.set_cons_zero, List.set_cons_succ]
  refine wpAnyH_ready (rs := [4]) (by kernel_rfl) (by simp) ?_
  refine AllReadyH.cons rfl (fun K hK => ?_) AllReadyH.nil
  go_simp
  refine (number_c f.si 4 4 rfl (by omega) hs0 hs1 wq0).mono ?_
  rintro e wk1 ⟨pn, cn, rfl, rn, HN, gk1⟩
  clear rn
  replace R1 := Lib.hid (R1.out.grew gk1)
  replace HN := Lib.hid HN
  refine hK.out _ _ (hHeld.trans gk1) (fun hHeld => ?_)
  clear hK K
  try simp only [List.getElem_toArray, List.getElem_cons_succ, List.getElem_cons_zero, Act.put, List.setIfInBounds_toArray, List.set_cons_zero, List.set_cons_succ]
  refine wpAnyH_ready (rs := [5]) (by kernel_rfl) (by simp) ?_
  refine AllReadyH.cons rfl (fun K hK => ?_) AllReadyH.nil
  refine step_append_t rfl (.tmp 32) (.tmp 36) rfl hHeld (R1.out) (HN.out) (by rfl) (by rfl) (hl2.out) ?_
  intro vwk2 wk2 R2 gk2
  refine hK.out _ _ (gk2) (fun hHeld => ?_)
  clear hK K
  try simp only [List.getElem_toArray, List.getElem_cons_succ, List.getElem_cons_zero, Act.put, List.setIfInBounds_toArray, List.set_cons_zero, List.set_cons_succ]
  refine wpAnyH_ready (rs := [8]) (by kernel_rfl) (by simp) ?_
  refine AllReadyH.cons rfl (fun K hK => ?_) AllReadyH.nil
  refine step_append_t rfl (.tmp 37) (.tmp 39) rfl hHeld (R2.out) (H2.out.grew (g0.trans hHeld)) (by rfl) (by rfl) (hl3.out) ?_
  intro vwk3 wk3 R3 gk3
  refine hK.out _ _ (gk3) (fun hHeld => ?_)
  clear hK K
  try simp only [List.getElem_toArray, List.getElem_cons_succ, List.getElem_cons_zero, Act.put, List.setIfInBounds_toArray, List.set_cons_zero, List.set_cons_succ]
  refine wpAnyH_take (i := 9) (v := ?_) rfl (by kernel_rfl) (by kernel_rfl) (by kernel_rfl) (fun _ _ _ h => h) (Or.inl ⟨by rfl, ?_⟩) hHeld ?_
  rotate_left
  · intro wq hSw
    replace hSw : Grew w0 wq := hSw
    go_simp
    try with_reducible rfl
  try simp only [List.getElem_toArray, List.getElem_cons_succ, List.getElem_cons_zero, Act.put, List.setIfInBounds_toArray, List.set_cons_zero, List.set_cons_succ]
  refine wpAnyH_done (by kernel_rfl) ?_ _
  try simp only [List.getElem_toArray, List.getElem_cons_succ, List.getElem_cons_zero, Act.put, List.setIfInBounds_toArray, List.set_cons_zero, List.set_cons_succ]
  have y4 := (hB.grew hHeld).cell 4
  have hw := HWT.out
  go_wp2_with fail
  refine (number_c f.ti 4 4 rfl (by omega) ht0 ht1 _).mono ?_
  rintro e w9 ⟨pq, cq, rfl, rq, bq, g9⟩
  have BQ := Lib.hid bq
  clear rq bq y4
  replace R3 := Lib.hid (R3.out.grew g9)
  go_wp2_with (refine wpList_append_b rfl (.tmp 41) (.tmp 45) rfl (hHeld.trans g9) R3.out BQ.out (by rfl) (by rfl) hl4.out ?_; intro v10 w10 R10 g10 x10; clear x10)
  go_ret2
  exact ⟨_, rfl, R10.out.buf hokb.out, g0.trans g10⟩
theorem putA_one {f : AR} (h : f.op = 1) : [0, 1, 8, 0, 6, 4, 0, 1] ++ f.sm ++ putL f.si 4 true ++ f.tm ++ putL f.ti 4 true = putA f := by
  unfold putA
  rw [h, show putL 1 2 true = [0, 1] by decide +kernel]
  simp [headL]
theorem putA_two {f : AR} (h : f.op = 2) : [0, 1, 8, 0, 6, 4, 0, 2] ++ f.sm ++ putL f.si 4 true ++ f.tm ++ putL f.ti 4 true = putA f := by
  unfold putA
  rw [h, show putL 2 2 true = [0, 2] by decide +kernel]
  simp [headL]
theorem refPutA16_c {v : Value} {f : AR} {w : World} (hv : Ar w v f) :
    Calls Tryd.prog 17 #[v] w fun e w' => ∃ u, e = .returned (.tuple #[u, .int .i64 (putAE f)]) ∧ Buf w' u (putAB f) ∧ Grew w w' := by
  have hs := hv.si
  have ht := hv.ti
  obtain ⟨p1, k1, p2, k2, rfl, b1, b2⟩ := hv.shape
  unfold putAE putAB
  cases h0 : ((f.sm.length : Int) != 6)
  · cases h1 : ((f.tm.length : Int) != 6)
    · by_cases ho1 : f.op = 1
      · rw [show okA f = true by unfold okA; simp at h0 h1; exact decide_eq_true (by omega)]
        have := refPutA_yes1 h0 h1 hs ht b1 b2
        rw [putA_one ho1] at this
        rw [← ho1] at this
        exact this
      · by_cases ho2 : f.op = 2
        · rw [show okA f = true by unfold okA; simp at h0 h1; exact decide_eq_true (by omega)]
          have := refPutA_yes2 h0 h1 hs ht b1 b2
          rw [putA_two ho2] at this
          rw [← ho2] at this
          exact this
        · rw [show okA f = false by unfold okA; exact decide_eq_false (by omega)]
          exact (refPutA_2 h0 h1 (by simpa using ho1) (by simpa using ho2) w).mono fun _ _ ⟨x1, x2⟩ => ⟨_, x1, Buf.nil _, x2⟩
    · rw [show okA f = false by unfold okA; simp at h1; exact decide_eq_false (by omega)]
      exact (refPutA_1 h0 h1 w).mono fun _ _ ⟨x1, x2⟩ => ⟨_, x1, Buf.nil _, x2⟩
  · rw [show okA f = false by unfold okA; simp at h0; exact decide_eq_false (by omega)]
    exact (refPutA_0 h0 w).mono fun _ _ ⟨x1, x2⟩ => ⟨_, x1, Buf.nil _, x2⟩
end Go.Proofs.YtolfaelalmmefaaDoor
