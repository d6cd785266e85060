/-
  The statement SegTells: which bytes segments are, and which segments bytes, as the document's own answer says, Len and Less. For every segment, right or not, addresses and bytes. Conditions: none but those of the statement's row.
-/
import Derived.Test.YtiaejlbkdgcfiaaSgH
import Derived.Test.YtiaejlbkdgcfiaaSgW
import Derived.Test.YtiaejlbkdgcfiaaSgQ
import Derived.Test.YtiaejlbkdgcfiaaSgP
import Derived.Test.YtiaejlbkdgcfiaaLaw
set_option maxRecDepth 4000
set_option linter.unusedVariables false
set_option linter.unusedSimpArgs false
namespace Go.Proofs.Ytiaejlbkdgcfiaa.segTells
open Go.ChangeShapes Go.WideShapes Go.ChangeAt Go.RowKit

theorem walk_far (hD : HeadC) {f : SGR} {p1 : Option Addr} {k1 : Nat} (src dst : Int) (a : Option Addr) (n c : Nat) {W : World} (h : ((70000 : Int) < (n : Nat)) ∨ (¬ ((70000 : Int) < (n : Nat)) ∧ (70000 : Int) < (f.x.length : Nat))) :
    Calls Try.prog 3 #[.agg #[.int .i64 f.s, .int .i64 f.d, .int .u32 f.q, .int .u32 f.a, .int .i64 f.fl, .int .i64 f.wn, .int .i64 f.m, .slice p1 f.x.length k1], .int .u32 src, .int .u32 dst, .slice a n c] W fun e w' => e = .returned (.bool true) ∧ Below W.heap.size W w' := by
  rcases h with h1 | ⟨h1, h2⟩
  all_goals
    go_enter Try.func3, Try.ntmps3
    go_upto_region 1 with fail
    have hB : Blk (W.alloc (.cells #[.int .i64 f.s, .int .i64 f.d, .int .u32 f.q, .int .u32 f.a, .int .i64 f.fl, .int .i64 f.wn, .int .i64 f.m, .slice p1 f.x.length k1] 25)) W.heap.size #[.int .i64 f.s, .int .i64 f.d, .int .u32 f.q, .int .u32 f.a, .int .i64 f.fl, .int .i64 f.wn, .int .i64 f.m, .slice p1 f.x.length k1] 25 := Blk.new _ _ _ _ rfl
    have g0 : Grew W (W.alloc (.cells #[.int .i64 f.s, .int .i64 f.d, .int .u32 f.q, .int .u32 f.a, .int .i64 f.fl, .int .i64 f.wn, .int .i64 f.m, .slice p1 f.x.length k1] 25)) := (Grew.refl _).alloc _
    generalize (W.alloc (.cells #[.int .i64 f.s, .int .i64 f.d, .int .u32 f.q, .int .u32 f.a, .int .i64 f.fl, .int .i64 f.wn, .int .i64 f.m, .slice p1 f.x.length k1] 25)) = w0 at *
    generalize hlB : W.heap.size = B at *
    have y0 := hB.cell 0
    have y1 := hB.cell 1
    have y2 := hB.cell 2
    have y3 := hB.cell 3
    have y4 := hB.cell 4
    have y5 := hB.cell 5
    have y6 := hB.cell 6
    have y7 := hB.cell 7
    go_wp2_with fail
    refine (hD (g0)).mono ?_
    rintro e wh ⟨rfl, gh⟩
    go_wp2_with fail
    go_ret
    exact ⟨rfl, gh⟩
set_option maxHeartbeats 4000000 in
theorem walk_near (hP : PutC) (hG : GetC) (hL : LessC) (hN : LenC) (hD : HeadC) {f : SGR} {p1 : Option Addr} {k1 : Nat} (src dst : Int) (hsr : 0 ≤ src ∧ src < 4294967296) (hdr : 0 ≤ dst ∧ dst < 4294967296) (a : Option Addr) (n c : Nat) (xs : List Int) {W : World} (h1 : ¬ ((70000 : Int) < (n : Nat))) (h2 : ¬ ((70000 : Int) < (f.x.length : Nat))) (hF : Sg W (.agg #[.int .i64 f.s, .int .i64 f.d, .int .u32 f.q, .int .u32 f.a, .int .i64 f.fl, .int .i64 f.wn, .int .i64 f.m, .slice p1 f.x.length k1]) f) (hb : Buf W (.slice a n c) xs) :
    Calls Try.prog 3 #[.agg #[.int .i64 f.s, .int .i64 f.d, .int .u32 f.q, .int .u32 f.a, .int .i64 f.fl, .int .i64 f.wn, .int .i64 f.m, .slice p1 f.x.length k1], .int .u32 src, .int .u32 dst, .slice a n c] W fun e w' => e = .returned (.bool true) ∧ Below W.heap.size W w' := by
  have h3 : ¬ ((70000 : Int) < (f.x.length : Nat)) := h2
  have HFX := Lib.hid (show f.x.length ≤ 140737488355328 by omega)
  have HXL := Lib.hid (show xs.length ≤ 140737488355328 by have := hb.lenEq.1; omega)
  have HF0 := Lib.hid hF
  have HX0 := Lib.hid hb
  clear hF hb
  go_enter Try.func3, Try.ntmps3
  go_upto_region 1 with fail
  have hB : Blk (W.alloc (.cells #[.int .i64 f.s, .int .i64 f.d, .int .u32 f.q, .int .u32 f.a, .int .i64 f.fl, .int .i64 f.wn, .int .i64 f.m, .slice p1 f.x.length k1] 25)) W.heap.size #[.int .i64 f.s, .int .i64 f.d, .int .u32 f.q, .int .u32 f.a, .int .i64 f.fl, .int .i64 f.wn, .int .i64 f.m, .slice p1 f.x.length k1] 25 := Blk.new _ _ _ _ rfl
  have g0 : Grew W (W.alloc (.cells #[.int .i64 f.s, .int .i64 f.d, .int .u32 f.q, .int .u32 f.a, .int .i64 f.fl, .int .i64 f.wn, .int .i64 f.m, .slice p1 f.x.length k1] 25)) := (Grew.refl _).alloc _
  generalize (W.alloc (.cells #[.int .i64 f.s, .int .i64 f.d, .int .u32 f.q, .int .u32 f.a, .int .i64 f.fl, .int .i64 f.wn, .int .i64 f.m, .slice p1 f.x.length k1] 25)) = w0 at *
  generalize hlB : W.heap.size = B at *
  have HF := Lib.hid (HF0.out.grew g0)
  have HX := Lib.hid (HX0.out.grew g0)
  have y0 := hB.cell 0
  have y1 := hB.cell 1
  have y2 := hB.cell 2
  have y3 := hB.cell 3
  have y4 := hB.cell 4
  have y5 := hB.cell 5
  have y6 := hB.cell 6
  have y7 := hB.cell 7
  go_wp2_with fail
  refine (hP src dst hsr hdr HFX.out HF.out).mono ?_
  rintro e w1 ⟨ua, rfl, Ha, g1⟩
  obtain ⟨pa, ka, rfl, _, _⟩ := Ha.shape
  replace HF := Lib.hid (HF.out.grew g1)
  replace HX := Lib.hid (HX.out.grew g1)
  replace hB := hB.grew g1
  replace Ha := Lib.hid Ha
  have G1 := g0.trans g1
  clear g1
  clear y0 y1 y2 y3 y4 y5 y6 y7
  have y0 := hB.cell 0
  have y1 := hB.cell 1
  have y2 := hB.cell 2
  have y3 := hB.cell 3
  have y4 := hB.cell 4
  have y5 := hB.cell 5
  have y6 := hB.cell 6
  have y7 := hB.cell 7
  go_wp2_with fail
  refine (refPut19_c src dst hsr hdr HF.out).mono ?_
  rintro e w2 ⟨ub, rfl, Hb, g2⟩
  obtain ⟨pb, kb, rfl, _, _⟩ := Hb.shape
  replace HF := Lib.hid (HF.out.grew g2)
  replace HX := Lib.hid (HX.out.grew g2)
  replace Ha := Lib.hid (Ha.out.grew g2)
  replace hB := hB.grew g2
  replace Hb := Lib.hid Hb
  have G2 := G1.trans g2
  clear g2
  clear y0 y1 y2 y3 y4 y5 y6 y7
  go_wp2_with fail
  refine (hG src dst hsr hdr HXL.out HX.out).mono ?_
  rintro e w3 ⟨uv, rfl, Hv, g3⟩
  have Ev := Hv.shape
  obtain ⟨vp1, vk1, rfl, _⟩ := Ev
  replace HF := Lib.hid (HF.out.grew g3)
  replace HX := Lib.hid (HX.out.grew g3)
  replace Ha := Lib.hid (Ha.out.grew g3)
  replace Hb := Lib.hid (Hb.out.grew g3)
  replace hB := hB.grew g3
  replace Hv := Lib.hid Hv
  have G3 := G2.trans g3
  clear g3
  go_upto_region 6 with fail
  have g4 : Grew w3 (w3.alloc (.cells #[.int .i64 (getSG xs src dst).s, .int .i64 (getSG xs src dst).d, .int .u32 (getSG xs src dst).q, .int .u32 (getSG xs src dst).a, .int .i64 (getSG xs src dst).fl, .int .i64 (getSG xs src dst).wn, .int .i64 (getSG xs src dst).m, .slice vp1 (getSG xs src dst).x.length vk1] 25)) := (Grew.refl _).alloc _
  have hX13 : Blk (w3.alloc (.cells #[.int .i64 (getSG xs src dst).s, .int .i64 (getSG xs src dst).d, .int .u32 (getSG xs src dst).q, .int .u32 (getSG xs src dst).a, .int .i64 (getSG xs src dst).fl, .int .i64 (getSG xs src dst).wn, .int .i64 (getSG xs src dst).m, .slice vp1 (getSG xs src dst).x.length vk1] 25)) w3.heap.size #[.int .i64 (getSG xs src dst).s, .int .i64 (getSG xs src dst).d, .int .u32 (getSG xs src dst).q, .int .u32 (getSG xs src dst).a, .int .i64 (getSG xs src dst).fl, .int .i64 (getSG xs src dst).wn, .int .i64 (getSG xs src dst).m, .slice vp1 (getSG xs src dst).x.length vk1] 25 := Blk.new _ _ _ _ rfl
  replace HF := Lib.hid (HF.out.grew g4)
  replace HX := Lib.hid (HX.out.grew g4)
  replace Ha := Lib.hid (Ha.out.grew g4)
  replace Hb := Lib.hid (Hb.out.grew g4)
  replace Hv := Lib.hid (Hv.out.grew g4)
  replace hB := hB.grew g4
  have G4 := G3.trans g4
  clear g4
  generalize (w3.alloc (.cells #[.int .i64 (getSG xs src dst).s, .int .i64 (getSG xs src dst).d, .int .u32 (getSG xs src dst).q, .int .u32 (getSG xs src dst).a, .int .i64 (getSG xs src dst).fl, .int .i64 (getSG xs src dst).wn, .int .i64 (getSG xs src dst).m, .slice vp1 (getSG xs src dst).x.length vk1] 25)) = w4 at *
  generalize w3.heap.size = X13 at *
  go_wp2_with fail
  refine (refGet19_c src dst hsr hdr HX.out).mono ?_
  rintro e w5 ⟨ut, rfl, Ht, g5⟩
  have Et := Ht.shape
  obtain ⟨tp1, tk1, rfl, _⟩ := Et
  replace HF := Lib.hid (HF.out.grew g5)
  replace HX := Lib.hid (HX.out.grew g5)
  replace Ha := Lib.hid (Ha.out.grew g5)
  replace Hb := Lib.hid (Hb.out.grew g5)
  replace Hv := Lib.hid (Hv.out.grew g5)
  replace hB := hB.grew g5
  replace hX13 := hX13.grew g5
  replace Ht := Lib.hid Ht
  have G5 := G4.trans g5
  clear g5
  go_upto_region 7 with fail
  have g6 : Grew w5 (w5.alloc (.cells #[.int .i64 (getSG xs src dst).s, .int .i64 (getSG xs src dst).d, .int .u32 (getSG xs src dst).q, .int .u32 (getSG xs src dst).a, .int .i64 (getSG xs src dst).fl, .int .i64 (getSG xs src dst).wn, .int .i64 (getSG xs src dst).m, .slice tp1 (getSG xs src dst).x.length tk1] 25)) := (Grew.refl _).alloc _
  have hX15 : Blk (w5.alloc (.cells #[.int .i64 (getSG xs src dst).s, .int .i64 (getSG xs src dst).d, .int .u32 (getSG xs src dst).q, .int .u32 (getSG xs src dst).a, .int .i64 (getSG xs src dst).fl, .int .i64 (getSG xs src dst).wn, .int .i64 (getSG xs src dst).m, .slice tp1 (getSG xs src dst).x.length tk1] 25)) w5.heap.size #[.int .i64 (getSG xs src dst).s, .int .i64 (getSG xs src dst).d, .int .u32 (getSG xs src dst).q, .int .u32 (getSG xs src dst).a, .int .i64 (getSG xs src dst).fl, .int .i64 (getSG xs src dst).wn, .int .i64 (getSG xs src dst).m, .slice tp1 (getSG xs src dst).x.length tk1] 25 := Blk.new _ _ _ _ rfl
  replace HF := Lib.hid (HF.out.grew g6)
  replace HX := Lib.hid (HX.out.grew g6)
  replace Ha := Lib.hid (Ha.out.grew g6)
  replace Hb := Lib.hid (Hb.out.grew g6)
  replace Hv := Lib.hid (Hv.out.grew g6)
  replace Ht := Lib.hid (Ht.out.grew g6)
  replace hB := hB.grew g6
  replace hX13 := hX13.grew g6
  have G6 := G5.trans g6
  clear g6
  generalize (w5.alloc (.cells #[.int .i64 (getSG xs src dst).s, .int .i64 (getSG xs src dst).d, .int .u32 (getSG xs src dst).q, .int .u32 (getSG xs src dst).a, .int .i64 (getSG xs src dst).fl, .int .i64 (getSG xs src dst).wn, .int .i64 (getSG xs src dst).m, .slice tp1 (getSG xs src dst).x.length tk1] 25)) = w6 at *
  generalize w5.heap.size = X15 at *
  have E1 := Lib.hid (show (putSGE f == putSGE f) = true by simp)
  have E2 := Lib.hid (show (getSGE xs src dst == getSGE xs src dst) = true by simp)
  have E3 := Lib.hid (show (lenSG f == lenSG f) = true by simp)
  have E4 := Lib.hid (show (lessSG src dst == lessSG src dst) = true by simp)
  obtain ⟨v1v, v2v, evv, hvv⟩ := Hv.out.shape
  simp only [sgV, Value.agg.injEq, Array.mk.injEq, List.cons.injEq, Value.slice.injEq, and_true, true_and] at evv
  obtain ⟨rfl, rfl⟩ := evv
  have HV1 := Lib.hid hvv
  clear hvv
  obtain ⟨v1t, v2t, evt, hvt⟩ := Ht.out.shape
  simp only [sgV, Value.agg.injEq, Array.mk.injEq, List.cons.injEq, Value.slice.injEq, and_true, true_and] at evt
  obtain ⟨rfl, rfl⟩ := evt
  have HW1 := Lib.hid hvt
  clear hvt
  clear h1 h2 h3
  go_upto_region 7 with fail
  have hst := (Grew.refl w6).drew1
  refine wp_region_held_drew (S := fun w' => Grew w6 w') (by kernel_rfl) (by exact hst) (fun hHeld => ?_)
  replace hHeld : Grew w6 w6.drew := hHeld
  generalize w6.drew = wq1 at *
  refine wpAnyH_take (i := 0) (v := ?_) rfl (by kernel_rfl) (by kernel_rfl) (by kernel_rfl) (fun _ _ _ h => h) (Or.inl ⟨by rfl, ?_⟩) hHeld ?_
  rotate_left
  · intro wq hSw
    replace hSw : Grew w6 wq := hSw
    go_simp
    try with_reducible rfl
  try simp only [List.getElem_toArray, List.getElem_cons_succ, List.getElem_cons_zero, Act.put, List.setIfInBounds_toArray, List.set_cons_zero, List.set_cons_succ]
  refine wpAnyH_take (i := 1) (v := ?_) rfl (by kernel_rfl) (by kernel_rfl) (by kernel_rfl) (fun _ _ _ h => h) (Or.inl ⟨by rfl, ?_⟩) hHeld ?_
  rotate_left
  · intro wq hSw
    replace hSw : Grew w6 wq := hSw
    go_simp
    try with_reducible rfl
  try simp only [List.getElem_toArray, List.getElem_cons_succ, List.getElem_cons_zero, Act.put, List.setIfInBounds_toArray, List.set_cons_zero, List.set_cons_succ]
  refine wpAnyH_ready (rs := [2]) (by kernel_rfl) (by simp) ?_
  refine AllReadyH.cons rfl (fun K hK => ?_) AllReadyH.nil
  go_simp
  refine (same_true19 (Ha.out.grew hHeld) (Hb.out.grew hHeld)).mono ?_
  rintro e wk2 ⟨rfl, gk2⟩
  refine hK.out _ _ (hHeld.trans gk2) (fun hHeld => ?_)
  clear hK K
  try simp only [List.getElem_toArray, List.getElem_cons_succ, List.getElem_cons_zero, Act.put, List.setIfInBounds_toArray, List.set_cons_zero, List.set_cons_succ]
  refine wpAnyH_take (i := 3) (v := ?_) rfl (by kernel_rfl) (by kernel_rfl) (by kernel_rfl) (fun _ _ _ h => h) (Or.inl ⟨by rfl, ?_⟩) hHeld ?_
  rotate_left
  · intro wq hSw
    replace hSw : Grew w6 wq := hSw
    go_simp
    try with_reducible rfl
  try simp only [List.getElem_toArray, List.getElem_cons_succ, List.getElem_cons_zero, Act.put, List.setIfInBounds_toArray, List.set_cons_zero, List.set_cons_succ]
  refine wpAnyH_take (i := 4) (v := ?_) rfl (by kernel_rfl) (by kernel_rfl) (by kernel_rfl) (fun _ _ _ h => h) (Or.inl ⟨by rfl, ?_⟩) hHeld ?_
  rotate_left
  · intro wq hSw
    replace hSw : Grew w6 wq := hSw
    go_simp
    try with_reducible rfl
  try simp only [List.getElem_toArray, List.getElem_cons_succ, List.getElem_cons_zero, Act.put, List.setIfInBounds_toArray, List.set_cons_zero, List.set_cons_succ]
  refine wpAnyH_take (i := 5) (v := ?_) rfl (by kernel_rfl) (by kernel_rfl) (by kernel_rfl) (fun _ _ _ h => h) (Or.inl ⟨by rfl, ?_⟩) hHeld ?_
  rotate_left
  · intro wq hSw
    replace hSw : Grew w6 wq := hSw
    go_simp
    try with_reducible rfl
  try simp only [List.getElem_toArray, List.getElem_cons_succ, List.getElem_cons_zero, Act.put, List.setIfInBounds_toArray, List.set_cons_zero, List.set_cons_succ]
  refine wpAnyH_take (i := 6) (v := ?_) rfl (by kernel_rfl) (by kernel_rfl) (by kernel_rfl) (fun _ _ _ h => h) (Or.inl ⟨by rfl, ?_⟩) hHeld ?_
  rotate_left
  · intro wq hSw
    replace hSw : Grew w6 wq := hSw
    have ew := E1.out
    go_simp
    try with_reducible rfl
  try simp only [List.getElem_toArray, List.getElem_cons_succ, List.getElem_cons_zero, Act.put, List.setIfInBounds_toArray, List.set_cons_zero, List.set_cons_succ]
  refine wpAnyH_take (i := 7) (v := ?_) rfl (by kernel_rfl) (by kernel_rfl) (by kernel_rfl) (fun _ _ _ h => h) (Or.inl ⟨by rfl, ?_⟩) hHeld ?_
  rotate_left
  · intro wq hSw
    replace hSw : Grew w6 wq := hSw
    go_simp
    try with_reducible rfl
  try simp only [List.getElem_toArray, List.getElem_cons_succ, List.getElem_cons_zero, Act.put, List.setIfInBounds_toArray, List.set_cons_zero, List.set_cons_succ]
  refine wpAnyH_take (i := 8) (v := ?_) rfl (by kernel_rfl) (by kernel_rfl) (by kernel_rfl) (fun _ _ _ h => h) (Or.inl ⟨by rfl, ?_⟩) hHeld ?_
  rotate_left
  · intro wq hSw
    replace hSw : Grew w6 wq := hSw
    go_simp
    try with_reducible rfl
  try simp only [List.getElem_toArray, List.getElem_cons_succ, List.getElem_cons_zero, Act.put, List.setIfInBounds_toArray, List.set_cons_zero, List.set_cons_succ]
  refine wpAnyH_take (i := 9) (v := ?_) rfl (by kernel_rfl) (by kernel_rfl) (by kernel_rfl) (fun _ _ _ h => h) (Or.inl ⟨by rfl, ?_⟩) hHeld ?_
  rotate_left
  · intro wq hSw
    replace hSw : Grew w6 wq := hSw
    have y0 := (hX13.grew hSw).cell 0
    have y1 := (hX13.grew hSw).cell 1
    have y2 := (hX13.grew hSw).cell 2
    have y3 := (hX13.grew hSw).cell 3
    have y4 := (hX13.grew hSw).cell 4
    have y5 := (hX13.grew hSw).cell 5
    have y6 := (hX13.grew hSw).cell 6
    have y7 := (hX13.grew hSw).cell 7
    go_simp
    try with_reducible rfl
  try simp only [List.getElem_toArray, List.getElem_cons_succ, List.getElem_cons_zero, Act.put, List.setIfInBounds_toArray, List.set_cons_zero, List.set_cons_succ]
  refine wpAnyH_take (i := 11) (v := ?_) rfl (by kernel_rfl) (by kernel_rfl) (by kernel_rfl) (fun _ _ _ h => h) (Or.inl ⟨by rfl, ?_⟩) hHeld ?_
  rotate_left
  · intro wq hSw
    replace hSw : Grew w6 wq := hSw
    have y0 := (hX15.grew hSw).cell 0
    have y1 := (hX15.grew hSw).cell 1
    have y2 := (hX15.grew hSw).cell 2
    have y3 := (hX15.grew hSw).cell 3
    have y4 := (hX15.grew hSw).cell 4
    have y5 := (hX15.grew hSw).cell 5
    have y6 := (hX15.grew hSw).cell 6
    have y7 := (hX15.grew hSw).cell 7
    go_simp
    try with_reducible rfl
  try simp only [List.getElem_toArray, List.getElem_cons_succ, List.getElem_cons_zero, Act.put, List.setIfInBounds_toArray, List.set_cons_zero, List.set_cons_succ]
  refine wpAnyH_ready (rs := [10]) (by kernel_rfl) (by simp) ?_
  refine AllReadyH.cons rfl (fun K hK => ?_) AllReadyH.nil
  go_simp
  refine (one_c (f := getSG xs src dst)).mono ?_
  rintro e wk3 ⟨A1, T1, rfl, HA1, gk3⟩
  replace HA1 := Lib.hid HA1
  refine hK.out _ _ (hHeld.trans gk3) (fun hHeld => ?_)
  clear hK K
  try simp only [List.getElem_toArray, List.getElem_cons_succ, List.getElem_cons_zero, Act.put, List.setIfInBounds_toArray, List.set_cons_zero, List.set_cons_succ]
  refine wpAnyH_ready (rs := [12]) (by kernel_rfl) (by simp) ?_
  refine AllReadyH.cons rfl (fun K hK => ?_) AllReadyH.nil
  go_simp
  refine (one_c (f := getSG xs src dst)).mono ?_
  rintro e wk4 ⟨B1, T2, rfl, HB1, gk4⟩
  replace HB1 := Lib.hid HB1
  replace HA1 := Lib.hid (HA1.out.grew gk4)
  refine hK.out _ _ (hHeld.trans gk4) (fun hHeld => ?_)
  clear hK K
  try simp only [List.getElem_toArray, List.getElem_cons_succ, List.getElem_cons_zero, Act.put, List.setIfInBounds_toArray, List.set_cons_zero, List.set_cons_succ]
  refine wpAnyH_ready (rs := [13]) (by kernel_rfl) (by simp) ?_
  refine AllReadyH.cons rfl (fun K hK => ?_) AllReadyH.nil
  go_simp
  refine (same19_c (f := getSG xs src dst) HA1.out HB1.out (HV1.out.grew hHeld) (HW1.out.grew hHeld)).mono ?_
  rintro e wk5 ⟨rfl, gk5⟩
  replace HA1 := Lib.hid (HA1.out.grew gk5)
  replace HB1 := Lib.hid (HB1.out.grew gk5)
  refine hK.out _ _ (hHeld.trans gk5) (fun hHeld => ?_)
  clear hK K
  try simp only [List.getElem_toArray, List.getElem_cons_succ, List.getElem_cons_zero, Act.put, List.setIfInBounds_toArray, List.set_cons_zero, List.set_cons_succ]
  refine wpAnyH_take (i := 14) (v := ?_) rfl (by kernel_rfl) (by kernel_rfl) (by kernel_rfl) (fun _ _ _ h => h) (Or.inl ⟨by rfl, ?_⟩) hHeld ?_
  rotate_left
  · intro wq hSw
    replace hSw : Grew w6 wq := hSw
    go_simp
    try with_reducible rfl
  try simp only [List.getElem_toArray, List.getElem_cons_succ, List.getElem_cons_zero, Act.put, List.setIfInBounds_toArray, List.set_cons_zero, List.set_cons_succ]
  refine wpAnyH_take (i := 15) (v := ?_) rfl (by kernel_rfl) (by kernel_rfl) (by kernel_rfl) (fun _ _ _ h => h) (Or.inl ⟨by rfl, ?_⟩) hHeld ?_
  rotate_left
  · intro wq hSw
    replace hSw : Grew w6 wq := hSw
    go_simp
    try with_reducible rfl
  try simp only [List.getElem_toArray, List.getElem_cons_succ, List.getElem_cons_zero, Act.put, List.setIfInBounds_toArray, List.set_cons_zero, List.set_cons_succ]
  refine wpAnyH_take (i := 16) (v := ?_) rfl (by kernel_rfl) (by kernel_rfl) (by kernel_rfl) (fun _ _ _ h => h) (Or.inl ⟨by rfl, ?_⟩) hHeld ?_
  rotate_left
  · intro wq hSw
    replace hSw : Grew w6 wq := hSw
    go_simp
    try with_reducible rfl
  try simp only [List.getElem_toArray, List.getElem_cons_succ, List.getElem_cons_zero, Act.put, List.setIfInBounds_toArray, List.set_cons_zero, List.set_cons_succ]
  refine wpAnyH_take (i := 17) (v := ?_) rfl (by kernel_rfl) (by kernel_rfl) (by kernel_rfl) (fun _ _ _ h => h) (Or.inl ⟨by rfl, ?_⟩) hHeld ?_
  rotate_left
  · intro wq hSw
    replace hSw : Grew w6 wq := hSw
    go_simp
    try with_reducible rfl
  try simp only [List.getElem_toArray, List.getElem_cons_succ, List.getElem_cons_zero, Act.put, List.setIfInBounds_toArray, List.set_cons_zero, List.set_cons_succ]
  refine wpAnyH_take (i := 18) (v := ?_) rfl (by kernel_rfl) (by kernel_rfl) (by kernel_rfl) (fun _ _ _ h => h) (Or.inl ⟨by rfl, ?_⟩) hHeld ?_
  rotate_left
  · intro wq hSw
    replace hSw : Grew w6 wq := hSw
    have ew := E2.out
    go_simp
    try with_reducible rfl
  try simp only [List.getElem_toArray, List.getElem_cons_succ, List.getElem_cons_zero, Act.put, List.setIfInBounds_toArray, List.set_cons_zero, List.set_cons_succ]
  refine wpAnyH_take (i := 19) (v := ?_) rfl (by kernel_rfl) (by kernel_rfl) (by kernel_rfl) (fun _ _ _ h => h) (Or.inl ⟨by rfl, ?_⟩) hHeld ?_
  rotate_left
  · intro wq hSw
    replace hSw : Grew w6 wq := hSw
    go_simp
    try with_reducible rfl
  try simp only [List.getElem_toArray, List.getElem_cons_succ, List.getElem_cons_zero, Act.put, List.setIfInBounds_toArray, List.set_cons_zero, List.set_cons_succ]
  refine wpAnyH_take (i := 20) (v := ?_) rfl (by kernel_rfl) (by kernel_rfl) (by kernel_rfl) (fun _ _ _ h => h) (Or.inl ⟨by rfl, ?_⟩) hHeld ?_
  rotate_left
  · intro wq hSw
    replace hSw : Grew w6 wq := hSw
    go_simp
    try with_reducible rfl
  try simp only [List.getElem_toArray, List.getElem_cons_succ, List.getElem_cons_zero, Act.put, List.setIfInBounds_toArray, List.set_cons_zero, List.set_cons_succ]
  refine wpAnyH_take (i := 21) (v := ?_) rfl (by kernel_rfl) (by kernel_rfl) (by kernel_rfl) (fun _ _ _ h => h) (Or.inl ⟨by rfl, ?_⟩) hHeld ?_
  rotate_left
  · intro wq hSw
    replace hSw : Grew w6 wq := hSw
    have y0 := (hB.grew hSw).cell 0
    have y1 := (hB.grew hSw).cell 1
    have y2 := (hB.grew hSw).cell 2
    have y3 := (hB.grew hSw).cell 3
    have y4 := (hB.grew hSw).cell 4
    have y5 := (hB.grew hSw).cell 5
    have y6 := (hB.grew hSw).cell 6
    have y7 := (hB.grew hSw).cell 7
    go_simp
    try with_reducible rfl
  try simp only [List.getElem_toArray, List.getElem_cons_succ, List.getElem_cons_zero, Act.put, List.setIfInBounds_toArray, List.set_cons_zero, List.set_cons_succ]
  refine wpAnyH_take (i := 23) (v := ?_) rfl (by kernel_rfl) (by kernel_rfl) (by kernel_rfl) (fun _ _ _ h => h) (Or.inl ⟨by rfl, ?_⟩) hHeld ?_
  rotate_left
  · intro wq hSw
    replace hSw : Grew w6 wq := hSw
    have y0 := (hB.grew hSw).cell 0
    have y1 := (hB.grew hSw).cell 1
    have y2 := (hB.grew hSw).cell 2
    have y3 := (hB.grew hSw).cell 3
    have y4 := (hB.grew hSw).cell 4
    have y5 := (hB.grew hSw).cell 5
    have y6 := (hB.grew hSw).cell 6
    have y7 := (hB.grew hSw).cell 7
    go_simp
    try with_reducible rfl
  try simp only [List.getElem_toArray, List.getElem_cons_succ, List.getElem_cons_zero, Act.put, List.setIfInBounds_toArray, List.set_cons_zero, List.set_cons_succ]
  refine wpAnyH_ready (rs := [22]) (by kernel_rfl) (by simp) ?_
  refine AllReadyH.cons rfl (fun K hK => ?_) AllReadyH.nil
  go_simp
  refine (hN HFX.out (HF.out.grew hHeld)).mono ?_
  rintro e wk6 ⟨rfl, gk6⟩
  replace HA1 := Lib.hid (HA1.out.grew gk6)
  replace HB1 := Lib.hid (HB1.out.grew gk6)
  refine hK.out _ _ (hHeld.trans gk6) (fun hHeld => ?_)
  clear hK K
  try simp only [List.getElem_toArray, List.getElem_cons_succ, List.getElem_cons_zero, Act.put, List.setIfInBounds_toArray, List.set_cons_zero, List.set_cons_succ]
  refine wpAnyH_ready (rs := [24]) (by kernel_rfl) (by simp) ?_
  refine AllReadyH.cons rfl (fun K hK => ?_) AllReadyH.nil
  go_simp
  refine (refLen_c HFX.out (HF.out.grew hHeld)).mono ?_
  rintro e wk7 ⟨rfl, gk7⟩
  replace HA1 := Lib.hid (HA1.out.grew gk7)
  replace HB1 := Lib.hid (HB1.out.grew gk7)
  refine hK.out _ _ (hHeld.trans gk7) (fun hHeld => ?_)
  clear hK K
  try simp only [List.getElem_toArray, List.getElem_cons_succ, List.getElem_cons_zero, Act.put, List.setIfInBounds_toArray, List.set_cons_zero, List.set_cons_succ]
  refine wpAnyH_take (i := 25) (v := ?_) rfl (by kernel_rfl) (by kernel_rfl) (by kernel_rfl) (fun _ _ _ h => h) (Or.inl ⟨by rfl, ?_⟩) hHeld ?_
  rotate_left
  · intro wq hSw
    replace hSw : Grew w6 wq := hSw
    have ew := E3.out
    go_simp
    try with_reducible rfl
  try simp only [List.getElem_toArray, List.getElem_cons_succ, List.getElem_cons_zero, Act.put, List.setIfInBounds_toArray, List.set_cons_zero, List.set_cons_succ]
  refine wpAnyH_take (i := 26) (v := ?_) rfl (by kernel_rfl) (by kernel_rfl) (by kernel_rfl) (fun _ _ _ h => h) (Or.inl ⟨by rfl, ?_⟩) hHeld ?_
  rotate_left
  · intro wq hSw
    replace hSw : Grew w6 wq := hSw
    go_simp
    try with_reducible rfl
  try simp only [List.getElem_toArray, List.getElem_cons_succ, List.getElem_cons_zero, Act.put, List.setIfInBounds_toArray, List.set_cons_zero, List.set_cons_succ]
  refine wpAnyH_take (i := 27) (v := ?_) rfl (by kernel_rfl) (by kernel_rfl) (by kernel_rfl) (fun _ _ _ h => h) (Or.inl ⟨by rfl, ?_⟩) hHeld ?_
  rotate_left
  · intro wq hSw
    replace hSw : Grew w6 wq := hSw
    go_simp
    try with_reducible rfl
  try simp only [List.getElem_toArray, List.getElem_cons_succ, List.getElem_cons_zero, Act.put, List.setIfInBounds_toArray, List.set_cons_zero, List.set_cons_succ]
  refine wpAnyH_take (i := 28) (v := ?_) rfl (by kernel_rfl) (by kernel_rfl) (by kernel_rfl) (fun _ _ _ h => h) (Or.inl ⟨by rfl, ?_⟩) hHeld ?_
  rotate_left
  · intro wq hSw
    replace hSw : Grew w6 wq := hSw
    go_simp
    try with_reducible rfl
  try simp only [List.getElem_toArray, List.getElem_cons_succ, List.getElem_cons_zero, Act.put, List.setIfInBounds_toArray, List.set_cons_zero, List.set_cons_succ]
  refine wpAnyH_take (i := 29) (v := ?_) rfl (by kernel_rfl) (by kernel_rfl) (by kernel_rfl) (fun _ _ _ h => h) (Or.inl ⟨by rfl, ?_⟩) hHeld ?_
  rotate_left
  · intro wq hSw
    replace hSw : Grew w6 wq := hSw
    go_simp
    try with_reducible rfl
  try simp only [List.getElem_toArray, List.getElem_cons_succ, List.getElem_cons_zero, Act.put, List.setIfInBounds_toArray, List.set_cons_zero, List.set_cons_succ]
  refine wpAnyH_take (i := 31) (v := ?_) rfl (by kernel_rfl) (by kernel_rfl) (by kernel_rfl) (fun _ _ _ h => h) (Or.inl ⟨by rfl, ?_⟩) hHeld ?_
  rotate_left
  · intro wq hSw
    replace hSw : Grew w6 wq := hSw
    go_simp
    try with_reducible rfl
  try simp only [List.getElem_toArray, List.getElem_cons_succ, List.getElem_cons_zero, Act.put, List.setIfInBounds_toArray, List.set_cons_zero, List.set_cons_succ]
  refine wpAnyH_take (i := 32) (v := ?_) rfl (by kernel_rfl) (by kernel_rfl) (by kernel_rfl) (fun _ _ _ h => h) (Or.inl ⟨by rfl, ?_⟩) hHeld ?_
  rotate_left
  · intro wq hSw
    replace hSw : Grew w6 wq := hSw
    go_simp
    try with_reducible rfl
  try simp only [List.getElem_toArray, List.getElem_cons_succ, List.getElem_cons_zero, Act.put, List.setIfInBounds_toArray, List.set_cons_zero, List.set_cons_succ]
  refine wpAnyH_ready (rs := [30]) (by kernel_rfl) (by simp) ?_
  refine AllReadyH.cons rfl (fun K hK => ?_) AllReadyH.nil
  go_simp
  refine (hL src dst hsr hdr wk7).mono ?_
  rintro e wk8 ⟨rfl, gk8⟩
  replace HA1 := Lib.hid (HA1.out.grew gk8)
  replace HB1 := Lib.hid (HB1.out.grew gk8)
  refine hK.out _ _ (hHeld.trans gk8) (fun hHeld => ?_)
  clear hK K
  try simp only [List.getElem_toArray, List.getElem_cons_succ, List.getElem_cons_zero, Act.put, List.setIfInBounds_toArray, List.set_cons_zero, List.set_cons_succ]
  refine wpAnyH_ready (rs := [33]) (by kernel_rfl) (by simp) ?_
  refine AllReadyH.cons rfl (fun K hK => ?_) AllReadyH.nil
  go_simp
  refine (refLessG_c src dst hsr hdr wk8).mono ?_
  rintro e wk9 ⟨rfl, gk9⟩
  replace HA1 := Lib.hid (HA1.out.grew gk9)
  replace HB1 := Lib.hid (HB1.out.grew gk9)
  refine hK.out _ _ (hHeld.trans gk9) (fun hHeld => ?_)
  clear hK K
  try simp only [List.getElem_toArray, List.getElem_cons_succ, List.getElem_cons_zero, Act.put, List.setIfInBounds_toArray, List.set_cons_zero, List.set_cons_succ]
  refine wpAnyH_take (i := 34) (v := ?_) rfl (by kernel_rfl) (by kernel_rfl) (by kernel_rfl) (fun _ _ _ h => h) (Or.inl ⟨by rfl, ?_⟩) hHeld ?_
  rotate_left
  · intro wq hSw
    replace hSw : Grew w6 wq := hSw
    have ew := E4.out
    go_simp
    try with_reducible rfl
  try simp only [List.getElem_toArray, List.getElem_cons_succ, List.getElem_cons_zero, Act.put, List.setIfInBounds_toArray, List.set_cons_zero, List.set_cons_succ]
  refine wpAnyH_take (i := 35) (v := ?_) rfl (by kernel_rfl) (by kernel_rfl) (by kernel_rfl) (fun _ _ _ h => h) (Or.inl ⟨by rfl, ?_⟩) hHeld ?_
  rotate_left
  · intro wq hSw
    replace hSw : Grew w6 wq := hSw
    go_simp
    try with_reducible rfl
  try simp only [List.getElem_toArray, List.getElem_cons_succ, List.getElem_cons_zero, Act.put, List.setIfInBounds_toArray, List.set_cons_zero, List.set_cons_succ]
  refine wpAnyH_take (i := 36) (v := ?_) rfl (by kernel_rfl) (by kernel_rfl) (by kernel_rfl) (fun _ _ _ h => h) (Or.inl ⟨by rfl, ?_⟩) hHeld ?_
  rotate_left
  · intro wq hSw
    replace hSw : Grew w6 wq := hSw
    go_simp
    try with_reducible rfl
  try simp only [List.getElem_toArray, List.getElem_cons_succ, List.getElem_cons_zero, Act.put, List.setIfInBounds_toArray, List.set_cons_zero, List.set_cons_succ]
  refine wpAnyH_ready (rs := [37]) (by kernel_rfl) (by simp) ?_
  refine AllReadyH.cons rfl (fun K hK => ?_) AllReadyH.nil
  go_simp
  refine (hD (Grew.refl wk9)).mono ?_
  rintro e wk10 ⟨rfl, gk10⟩
  replace HA1 := Lib.hid (HA1.out.grew gk10)
  replace HB1 := Lib.hid (HB1.out.grew gk10)
  refine hK.out _ _ (hHeld.trans gk10) (fun hHeld => ?_)
  clear hK K
  try simp only [List.getElem_toArray, List.getElem_cons_succ, List.getElem_cons_zero, Act.put, List.setIfInBounds_toArray, List.set_cons_zero, List.set_cons_succ]
  refine wpAnyH_take (i := 38) (v := ?_) rfl (by kernel_rfl) (by kernel_rfl) (by kernel_rfl) (fun _ _ _ h => h) (Or.inl ⟨by rfl, ?_⟩) hHeld ?_
  rotate_left
  · intro wq hSw
    replace hSw : Grew w6 wq := hSw
    go_simp
    try with_reducible rfl
  try simp only [List.getElem_toArray, List.getElem_cons_succ, List.getElem_cons_zero, Act.put, List.setIfInBounds_toArray, List.set_cons_zero, List.set_cons_succ]
  refine wpAnyH_take (i := 39) (v := ?_) rfl (by kernel_rfl) (by kernel_rfl) (by kernel_rfl) (fun _ _ _ h => h) (Or.inl ⟨by rfl, ?_⟩) hHeld ?_
  rotate_left
  · intro wq hSw
    replace hSw : Grew w6 wq := hSw
    go_simp
    try with_reducible rfl
  try simp only [List.getElem_toArray, List.getElem_cons_succ, List.getElem_cons_zero, Act.put, List.setIfInBounds_toArray, List.set_cons_zero, List.set_cons_succ]
  refine wpAnyH_done (by kernel_rfl) ?_ _
  try simp only [List.getElem_toArray, List.getElem_cons_succ, List.getElem_cons_zero, Act.put, List.setIfInBounds_toArray, List.set_cons_zero, List.set_cons_succ]
  go_wp2_with fail
  go_ret
  exact ⟨rfl, G6.trans hHeld⟩
theorem walk0 (hP : PutC) (hG : GetC) (hL : LessC) (hN : LenC) (hD : HeadC) (v : Value) (f : SGR) (src : Int) (hsr : 0 ≤ src ∧ src < 4294967296) (dst : Int) (hdr : 0 ≤ dst ∧ dst < 4294967296) (u : Value) (xs : List Int) {W : World} (hF : Sg W v f) (_ : f.x.length ≤ 140737488355328) (hb : Buf W u xs) :
    Calls Try.prog 3 #[v, .int .u32 src, .int .u32 dst, u] W fun e w' => e = .returned (.bool true) ∧ Below W.heap.size W w' := by
  have hF' := hF
  obtain ⟨p1, k1, rfl, _⟩ := hF'.shape
  obtain ⟨a, c, rfl, _, _⟩ := hb.shape
  by_cases h1 : (70000 : Int) < (xs.length : Nat)
  · exact walk_far hD src dst a _ c (.inl h1)
  · by_cases h2 : (70000 : Int) < (f.x.length : Nat)
    · exact walk_far hD src dst a _ c (.inr ⟨h1, h2⟩)
    · exact walk_near hP hG hL hN hD src dst hsr hdr a _ c xs h1 h2 hF hb
theorem walk (v : Value) (f : SGR) (src : Int) (hsr : 0 ≤ src ∧ src < 4294967296) (dst : Int) (hdr : 0 ≤ dst ∧ dst < 4294967296) (u : Value) (xs : List Int) (W : World) (hF : Sg W v f) (hl : f.x.length ≤ 140737488355328) (hb : Buf W u xs) :
    Calls Try.prog 3 #[v, .int .u32 src, .int .u32 dst, u] W fun e w' => e = .returned (.bool true) ∧ Below W.heap.size W w' :=
  walk0 put19_c get19_c less19_c len19_c heads_c v f src hsr dst hdr u xs hF hl hb
set_option maxRecDepth 100000 in
theorem lifted (os : Os) (started : os.Started) (H : Type) (enc : TypeId × Value → H) :
    ReturnsInHanded {} Try.checked os 3 .any (Rows.segTellsSpec.pre6 enc Try.prog Try.f3 Rows.segTellsRow.domain false) (Rows.segTellsSpec.post enc Try.prog Try.f3 false true false false) := by
  refine returnsInHanded_of_change_sized (C := Try.checked) own started (by kernel_rfl) Try.func3
    (ChangeSpec.witness6 (enc := enc) (C := Try.checked) false ⟨#[], #[.agg #[.int .i64 0, .int .i64 0, .int .u32 0, .int .u32 0, .int .i64 0, .int .i64 0, .int .i64 0, .slice none 0 0], .int .u32 0, .int .u32 0, .slice none 0 0], []⟩ 8 (by kernel_rfl) (by kernel_rfl) (by kernel_rfl) (by kernel_rfl)) ?_
  intro W base args ds gs before hval0 hW _ hz0 _
  have hval : ∀ (j : Nat) t v, Try.f3.params[j]? = some t → args[j]? = some v → Value.okWide Try.prog W .any base t v := hval0
  have hW' := hW
  obtain ⟨p, q, hA0, hV, rfl, hfz, hnd⟩ := hW
  have hA : DataW.TrodAll enc Try.prog W 0 (fun _ => true) true Try.f3.params.toList args.toList ds p := hA0
  rw [Try.params3] at hA hval
  obtain ⟨v0, vs0, d0, ds0, p0, q0, hargs, rfl, rfl, h0, r'0⟩ := trodAll_cons hA
  obtain ⟨v1, vs1, d1, ds1, p1, q1, rfl, rfl, rfl, h1, r'1⟩ := trodAll_cons r'0
  obtain ⟨v2, vs2, d2, ds2, p2, q2, rfl, rfl, rfl, h2, r'2⟩ := trodAll_cons r'1
  obtain ⟨v3, vs3, d3, ds3, p3, q3, rfl, rfl, rfl, h3, r'3⟩ := trodAll_cons r'2
  obtain ⟨rfl, rfl, rfl⟩ := trodAll_nil r'3
  obtain rfl : args = #[v0, v1, v2, v3] := by cases args; simp_all
  obtain ⟨f0, k0, z0⟩ := open_seg (hval 0 25 v0 rfl rfl) h0
  have fits0 := z0 (fun m hm => by simpa using List.all_eq_true.1 hz0 _ (DataW.weights_mem_each (j := 0) (t := 25) rfl rfl m hm))
  obtain ⟨a1, rfl, rfl, rfl, w1⟩ := open_int Try.underlying22 (hval 1 22 v1 rfl rfl) h1
  obtain ⟨a2, rfl, rfl, rfl, w2⟩ := open_int Try.underlying22 (hval 2 22 v2 rfl rfl) h2
  obtain ⟨x3, k3⟩ := open_buf Try.underlying23 Try.underlying5 (by kernel_rfl) (hval 3 23 v3 rfl rfl) h3
  refine (walk v0 f0 a1 (wf_u32 w1) a2 (wf_u32 w2) v3 x3 W k0 fits0 k3).mono fun e W' ⟨he, hb⟩ => ?_
  subst he
  exact ⟨_, rfl, law_post hW' rfl rfl laid (by kernel_rfl) rfl Try.underlying4 hb⟩

theorem over : Rows.segTellsRow.holds Try.pinned (OpenSpec.ofChange Rows.segTellsSpec) :=
  OpenClaim.holds_of_wide 3 Try.f3 rfl rfl rfl rfl rfl rfl rfl ⟨rfl, rfl, rfl, rfl, rfl⟩ rfl rfl rfl rfl rfl (by kernel_rfl) Try.func3 (by kernel_rfl)
    (of_decide_eq_true (by kernel_rfl)) (by unfold Func.isWrapper; first | (rw [if_pos (by decide +kernel)]; kernel_rfl) | (rw [if_neg (by decide +kernel)]; exact ⟨rfl, rfl⟩))
    (fun os started H enc _ => lifted os started H enc)

theorem proved : Rows.SegTellsSaid := over
#print axioms proved
end Go.Proofs.Ytiaejlbkdgcfiaa.segTells
