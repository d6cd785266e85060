/-
  The document's own Put of a packet.
-/
import Derived.Test.YtalbdeifkbfnbaaDoorIpR
import Derived.Test.YtalbdeifkbfnbaaDoorStep
set_option maxRecDepth 4000
set_option linter.unusedVariables false
set_option linter.unusedSimpArgs false
namespace Go.Proofs.YtalbdeifkbfnbaaDoor
open Go.RowKit

theorem patchL_len (xs : List Int) (at' : Int) : (patchV xs at').length = xs.length := by
  unfold patchV
  split
  · rename_i h
    unfold isPairV at h
    have := of_decide_eq_true h
    exact putTwo_len _ _ (by omega)
  · rfl
theorem patchL_ok {xs : List Int} (h : AreBytes xs) (at' : Int) : AreBytes (patchV xs at') := by
  unfold patchV
  split
  · have := sumV_lt (putTwo xs at'.toNat 0 0)
    exact putTwo_ok h _ (by omega) (by omega)
  · exact h
theorem refPutP_no {f : PK} {p1 : Option Addr} {k1 : Nat} {p2 : Option Addr} {k2 : Nat} (hok : okP f = false) {w : World} (hv : Pk w (.agg #[.int .i64 f.tos, .int .i64 f.id, .int .i64 f.fl, .int .i64 f.off, .int .i64 f.ttl, .int .i64 f.pr, .int .u32 f.si, .int .u32 f.di, .slice p1 f.o.length k1, .slice p2 f.x.length k2]) f) :
    Calls Tryd.prog 9 #[.agg #[.int .i64 f.tos, .int .i64 f.id, .int .i64 f.fl, .int .i64 f.off, .int .i64 f.ttl, .int .i64 f.pr, .int .u32 f.si, .int .u32 f.di, .slice p1 f.o.length k1, .slice p2 f.x.length k2]] w fun e w' => e = .returned (.tuple #[.slice none 0 0, .int .i64 2]) ∧ Grew w w' := by
  have HV := Lib.hid hv
  have HOK := Lib.hid hok
  clear hv hok
  go_enter Tryd.func9, Tryd.ntmps9
  go_upto_region 1 with fail
  have hB : Blk (w.alloc (.cells #[.int .i64 f.tos, .int .i64 f.id, .int .i64 f.fl, .int .i64 f.off, .int .i64 f.ttl, .int .i64 f.pr, .int .u32 f.si, .int .u32 f.di, .slice p1 f.o.length k1, .slice p2 f.x.length k2] 25)) w.heap.size #[.int .i64 f.tos, .int .i64 f.id, .int .i64 f.fl, .int .i64 f.off, .int .i64 f.ttl, .int .i64 f.pr, .int .u32 f.si, .int .u32 f.di, .slice p1 f.o.length k1, .slice p2 f.x.length k2] 25 := Blk.new _ _ _ _ rfl
  have g0 : Grew w (w.alloc (.cells #[.int .i64 f.tos, .int .i64 f.id, .int .i64 f.fl, .int .i64 f.off, .int .i64 f.ttl, .int .i64 f.pr, .int .u32 f.si, .int .u32 f.di, .slice p1 f.o.length k1, .slice p2 f.x.length k2] 25)) := (Grew.refl _).alloc _
  generalize (w.alloc (.cells #[.int .i64 f.tos, .int .i64 f.id, .int .i64 f.fl, .int .i64 f.off, .int .i64 f.ttl, .int .i64 f.pr, .int .u32 f.si, .int .u32 f.di, .slice p1 f.o.length k1, .slice p2 f.x.length k2] 25)) = w0 at *
  generalize hlB : w.heap.size = B at *
  have y0 := hB.cell 0
  have y1 := hB.cell 1
  have y2 := hB.cell 2
  have y3 := hB.cell 3
  have y4 := hB.cell 4
  have y5 := hB.cell 5
  have y6 := hB.cell 6
  have y7 := hB.cell 7
  have y8 := hB.cell 8
  have y9 := hB.cell 9
  go_wp2_with fail
  refine (refRight17_c (HV.out.grew g0)).mono ?_
  rintro e w1 ⟨rfl, g1⟩
  rw [HOK.out]
  go_wp2_with fail
  go_ret2
  exact ⟨rfl, g0.trans g1⟩
set_option maxHeartbeats 4000000 in
theorem refPutP_yes {f : PK} {p1 : Option Addr} {k1 : Nat} {p2 : Option Addr} {k2 : Nat} (hok : okP f = true) {w : World} (hv : Pk w (.agg #[.int .i64 f.tos, .int .i64 f.id, .int .i64 f.fl, .int .i64 f.off, .int .i64 f.ttl, .int .i64 f.pr, .int .u32 f.si, .int .u32 f.di, .slice p1 f.o.length k1, .slice p2 f.x.length k2]) f) (hb1 : Buf w (.slice p1 f.o.length k1) f.o) (hb2 : Buf w (.slice p2 f.x.length k2) f.x) :
    Calls Tryd.prog 9 #[.agg #[.int .i64 f.tos, .int .i64 f.id, .int .i64 f.fl, .int .i64 f.off, .int .i64 f.ttl, .int .i64 f.pr, .int .u32 f.si, .int .u32 f.di, .slice p1 f.o.length k1, .slice p2 f.x.length k2]] w fun e w' => ∃ u, e = .returned (.tuple #[u, .int .i64 0]) ∧ Buf w' u (putP f) ∧ Grew w w' := by
  have hk := okP_spec hok
  obtain ⟨⟨k1', k2', k3', k4', k5', k6'⟩, ho40, ho4, hox⟩ := hk
  have hsi := hv.si
  have hdi := hv.di
  have HOK := Lib.hid hok
  have HV := Lib.hid hv
  have H1 := Lib.hid hb1
  have H2 := Lib.hid hb2
  have HLO := Lib.hid ho40
  have hN : (hdN f : Int) = 20 + (f.o.length : Nat) := by unfold hdN; omega
  have EN0 := Lib.hid (show wrap64 (20 + (f.o.length : Int)) = (hdN f : Int) by rw [hN]; exact IntWalk.wrap64_in _ (by omega))
  have EN1 := Lib.hid (show IntKind.i64.wrap ((hdN f : Int) / 4) = (hdN f : Int) / 4 from IntWalk.i64_in _ (by omega))
  have EN2 := Lib.hid (show IntKind.i64.wrap (64 + (hdN f : Int) / 4) = 64 + (hdN f : Int) / 4 from IntWalk.i64_in _ (by omega))
  have EN3 := Lib.hid (show IntKind.u8.wrap (64 + (hdN f : Int) / 4) = 64 + (hdN f : Int) / 4 by rw [wrap_u8]; omega)
  have EN4 := Lib.hid (show IntKind.i64.wrap ((hdN f : Int) + (f.x.length : Int)) = (hdN f : Int) + (f.x.length : Int) from IntWalk.i64_in _ (by omega))
  have EM0 := Lib.hid (show IntKind.u8.wrap f.tos = f.tos by rw [wrap_u8]; omega)
  have EM1 := Lib.hid (show f.ttl % 256 = f.ttl by omega)
  have EM2 := Lib.hid (show f.pr % 256 = f.pr by omega)
  have EW1 := Lib.hid (show IntKind.i64.wrap (f.fl * 8192) = f.fl * 8192 from IntWalk.i64_in _ (by omega))
  have EW2 := Lib.hid (show IntKind.i64.wrap (f.fl * 8192 + f.off) = f.fl * 8192 + f.off from IntWalk.i64_in _ (by omega))
  have EW3 := Lib.hid (show IntKind.u64.wrap f.si = f.si from IntWalk.u64_in _ (by unfold u32I at hsi; omega))
  have EW4 := Lib.hid (show IntKind.u64.wrap f.di = f.di from IntWalk.u64_in _ (by unfold u32I at hdi; omega))
  have hn0 : (0 : Int) ≤ (hdN f : Int) + (f.x.length : Int) := by omega
  have hn1 : (hdN f : Int) + (f.x.length : Int) ≤ 9223372036854775807 := by omega
  have hi0 : 0 ≤ f.id := by omega
  have hi1 : f.id ≤ 9223372036854775807 := by omega
  have hf0 : 0 ≤ f.fl * 8192 + f.off := by omega
  have hf1 : f.fl * 8192 + f.off ≤ 9223372036854775807 := by omega
  have hqs0 : 0 ≤ f.si := hsi.1
  have hqs1 : f.si < 18446744073709551616 := by have := hsi.2; omega
  have hqd0 : 0 ≤ f.di := hdi.1
  have hqd1 : f.di < 18446744073709551616 := by have := hdi.2; omega
  have hxl : f.x.length ≤ 65515 := by omega
  have hl1 := Lib.hid (show ([64 + (hdN f : Int) / 4, f.tos]).length + (putL ((hdN f : Int) + (f.x.length : Int)) 2 true).length ≤ 140737488355328 by simp only [List.length_append, putB_len, List.length_cons, List.length_nil]; omega)
  have hl2 := Lib.hid (show ([64 + (hdN f : Int) / 4, f.tos] ++ putL ((hdN f : Int) + (f.x.length : Int)) 2 true).length + (putL f.id 2 true).length ≤ 140737488355328 by simp only [List.length_append, putB_len, List.length_cons, List.length_nil]; omega)
  have hl3 := Lib.hid (show ([64 + (hdN f : Int) / 4, f.tos] ++ putL ((hdN f : Int) + (f.x.length : Int)) 2 true ++ putL f.id 2 true).length + (putL (f.fl * 8192 + f.off) 2 true).length ≤ 140737488355328 by simp only [List.length_append, putB_len, List.length_cons, List.length_nil]; omega)
  have hl4 := Lib.hid (show ([64 + (hdN f : Int) / 4, f.tos] ++ putL ((hdN f : Int) + (f.x.length : Int)) 2 true ++ putL f.id 2 true ++ putL (f.fl * 8192 + f.off) 2 true).length + ([f.ttl, f.pr, 0, 0]).length ≤ 140737488355328 by simp only [List.length_append, putB_len, List.length_cons, List.length_nil]; omega)
  have hl5 := Lib.hid (show ([64 + (hdN f : Int) / 4, f.tos] ++ putL ((hdN f : Int) + (f.x.length : Int)) 2 true ++ putL f.id 2 true ++ putL (f.fl * 8192 + f.off) 2 true ++ [f.ttl, f.pr, 0, 0]).length + (putL f.si 4 true).length ≤ 140737488355328 by simp only [List.length_append, putB_len, List.length_cons, List.length_nil]; omega)
  have hl6 := Lib.hid (show ([64 + (hdN f : Int) / 4, f.tos] ++ putL ((hdN f : Int) + (f.x.length : Int)) 2 true ++ putL f.id 2 true ++ putL (f.fl * 8192 + f.off) 2 true ++ [f.ttl, f.pr, 0, 0] ++ putL f.si 4 true).length + (putL f.di 4 true).length ≤ 140737488355328 by simp only [List.length_append, putB_len, List.length_cons, List.length_nil]; omega)
  have hl7 := Lib.hid (show ([64 + (hdN f : Int) / 4, f.tos] ++ putL ((hdN f : Int) + (f.x.length : Int)) 2 true ++ putL f.id 2 true ++ putL (f.fl * 8192 + f.off) 2 true ++ [f.ttl, f.pr, 0, 0] ++ putL f.si 4 true ++ putL f.di 4 true).length + (f.o).length ≤ 140737488355328 by simp only [List.length_append, putB_len, List.length_cons, List.length_nil]; omega)
  have heq : [64 + (hdN f : Int) / 4, f.tos] ++ putL ((hdN f : Int) + (f.x.length : Int)) 2 true ++ putL f.id 2 true ++ putL (f.fl * 8192 + f.off) 2 true ++ [f.ttl, f.pr, 0, 0] ++ putL f.si 4 true ++ putL f.di 4 true ++ f.o = headP f := by unfold headP; simp only [List.append_assoc]
  have HEQ := Lib.hid heq
  have HO8 := Lib.hid (show AreBytes ([64 + (hdN f : Int) / 4, f.tos] ++ putL ((hdN f : Int) + (f.x.length : Int)) 2 true ++ putL f.id 2 true ++ putL (f.fl * 8192 + f.off) 2 true ++ [f.ttl, f.pr, 0, 0] ++ putL f.si 4 true ++ putL f.di 4 true ++ f.o) by rw [heq]; exact headP_ok hok hb1.ok)
  have HO4 := Lib.hid (show AreBytes [f.ttl, f.pr, 0, 0] from fun z hz => by simp only [List.mem_cons, List.not_mem_nil, or_false] at hz; omega)
  have hpl : (patchV (headP f) 10).length = hdN f := by rw [patchL_len, headP_len]
  have HL9 := Lib.hid (show (patchV (headP f) 10).length + f.x.length ≤ 140737488355328 by rw [hpl]; omega)
  have HO10 := Lib.hid (show AreBytes (patchV (headP f) 10 ++ f.x) from (patchL_ok (headP_ok hok hb1.ok) 10).app hb2.ok)
  clear hv hok hb1 hb2 k1' k2' k3' k4' k5' k6' ho40 ho4 hox hsi hdi hN heq hpl hxl
  go_enter Tryd.func9, Tryd.ntmps9
  go_upto_region 1 with fail
  have hB : Blk (w.alloc (.cells #[.int .i64 f.tos, .int .i64 f.id, .int .i64 f.fl, .int .i64 f.off, .int .i64 f.ttl, .int .i64 f.pr, .int .u32 f.si, .int .u32 f.di, .slice p1 f.o.length k1, .slice p2 f.x.length k2] 25)) w.heap.size #[.int .i64 f.tos, .int .i64 f.id, .int .i64 f.fl, .int .i64 f.off, .int .i64 f.ttl, .int .i64 f.pr, .int .u32 f.si, .int .u32 f.di, .slice p1 f.o.length k1, .slice p2 f.x.length k2] 25 := Blk.new _ _ _ _ rfl
  have g0 : Grew w (w.alloc (.cells #[.int .i64 f.tos, .int .i64 f.id, .int .i64 f.fl, .int .i64 f.off, .int .i64 f.ttl, .int .i64 f.pr, .int .u32 f.si, .int .u32 f.di, .slice p1 f.o.length k1, .slice p2 f.x.length k2] 25)) := (Grew.refl _).alloc _
  generalize (w.alloc (.cells #[.int .i64 f.tos, .int .i64 f.id, .int .i64 f.fl, .int .i64 f.off, .int .i64 f.ttl, .int .i64 f.pr, .int .u32 f.si, .int .u32 f.di, .slice p1 f.o.length k1, .slice p2 f.x.length k2] 25)) = w0 at *
  generalize hlB : w.heap.size = B at *
  have y0 := hB.cell 0
  have y1 := hB.cell 1
  have y2 := hB.cell 2
  have y3 := hB.cell 3
  have y4 := hB.cell 4
  have y5 := hB.cell 5
  have y6 := hB.cell 6
  have y7 := hB.cell 7
  have y8 := hB.cell 8
  have y9 := hB.cell 9
  go_wp2_with fail
  refine (refRight17_c (HV.out.grew g0)).mono ?_
  rintro e w1 ⟨rfl, g1⟩
  rw [HOK.out]
  have G1 := g0.trans g1
  have hB1 := hB.grew g1
  clear y0 y1 y2 y3 y4 y5 y6 y7 y8 y9 hB
  have y0 := hB1.cell 0
  have y1 := hB1.cell 1
  have y2 := hB1.cell 2
  have y3 := hB1.cell 3
  have y4 := hB1.cell 4
  have y5 := hB1.cell 5
  have y6 := hB1.cell 6
  have y7 := hB1.cell 7
  have y8 := hB1.cell 8
  have y9 := hB1.cell 9
  have en0 := EN0.out
  go_upto_region 4 with fail
  rw [EN0.out]
  clear y0 y1 y2 y3 y4 y5 y6 y7 y8 y9 en0
  have hst := (Grew.refl w1).drew1
  refine wp_region_held_drew (S := fun w' => Grew w1 w') (by kernel_rfl) (by exact hst) (fun hHeld => ?_)
  replace hHeld : Grew w1 w1.drew := hHeld
  generalize w1.drew = wq1 at *
  refine wpAnyH_take (i := 0) (v := ?_) rfl (by kernel_rfl) (by kernel_rfl) (by kernel_rfl) (fun _ _ _ h => h) (Or.inl ⟨by rfl, ?_⟩) hHeld ?_
  rotate_left
  · intro wq hSw
    replace hSw : Grew w1 wq := hSw
    go_simp
    try with_reducible rfl
  try simp only [List.getElem_toArray, List.getElem_cons_succ, List.getElem_cons_zero, Act.put, List.setIfInBounds_toArray, List.set_cons_zero, List.set_cons_succ]
  refine wpAnyH_take (i := 1) (v := ?_) rfl (by kernel_rfl) (by kernel_rfl) (by kernel_rfl) (fun _ _ _ h => h) (Or.inl ⟨by rfl, ?_⟩) hHeld ?_
  rotate_left
  · intro wq hSw
    replace hSw : Grew w1 wq := hSw
    have ew := EN1.out
    go_simp
    try with_reducible rfl
  try simp only [List.getElem_toArray, List.getElem_cons_succ, List.getElem_cons_zero, Act.put, List.setIfInBounds_toArray, List.set_cons_zero, List.set_cons_succ]
  refine wpAnyH_take (i := 2) (v := ?_) rfl (by kernel_rfl) (by kernel_rfl) (by kernel_rfl) (fun _ _ _ h => h) (Or.inl ⟨by rfl, ?_⟩) hHeld ?_
  rotate_left
  · intro wq hSw
    replace hSw : Grew w1 wq := hSw
    have ew := EN2.out
    go_simp
    try with_reducible rfl
  try simp only [List.getElem_toArray, List.getElem_cons_succ, List.getElem_cons_zero, Act.put, List.setIfInBounds_toArray, List.set_cons_zero, List.set_cons_succ]
  refine wpAnyH_take (i := 3) (v := ?_) rfl (by kernel_rfl) (by kernel_rfl) (by kernel_rfl) (fun _ _ _ h => h) (Or.inl ⟨by rfl, ?_⟩) hHeld ?_
  rotate_left
  · intro wq hSw
    replace hSw : Grew w1 wq := hSw
    have ew := EN3.out
    go_simp
    try with_reducible rfl
  try simp only [List.getElem_toArray, List.getElem_cons_succ, List.getElem_cons_zero, Act.put, List.setIfInBounds_toArray, List.set_cons_zero, List.set_cons_succ]
  refine wpAnyH_take (i := 4) (v := ?_) rfl (by kernel_rfl) (by kernel_rfl) (by kernel_rfl) (fun _ _ _ h => h) (Or.inl ⟨by rfl, ?_⟩) hHeld ?_
  rotate_left
  · intro wq hSw
    replace hSw : Grew w1 wq := hSw
    go_simp
    try with_reducible rfl
  try simp only [List.getElem_toArray, List.getElem_cons_succ, List.getElem_cons_zero, Act.put, List.setIfInBounds_toArray, List.set_cons_zero, List.set_cons_succ]
  refine wpAnyH_take (i := 5) (v := ?_) rfl (by kernel_rfl) (by kernel_rfl) (by kernel_rfl) (fun _ _ _ h => h) (Or.inl ⟨by rfl, ?_⟩) hHeld ?_
  rotate_left
  · intro wq hSw
    replace hSw : Grew w1 wq := hSw
    have y0 := (hB1.grew hSw).cell 0
    go_simp
    try with_reducible rfl
  try simp only [List.getElem_toArray, List.getElem_cons_succ, List.getElem_cons_zero, Act.put, List.setIfInBounds_toArray, List.set_cons_zero, List.set_cons_succ]
  refine wpAnyH_take (i := 6) (v := ?_) rfl (by kernel_rfl) (by kernel_rfl) (by kernel_rfl) (fun _ _ _ h => h) (Or.inl ⟨by rfl, ?_⟩) hHeld ?_
  rotate_left
  · intro wq hSw
    replace hSw : Grew w1 wq := hSw
    have em := EM0.out
    go_simp
    try with_reducible rfl
  try simp only [List.getElem_toArray, List.getElem_cons_succ, List.getElem_cons_zero, Act.put, List.setIfInBounds_toArray, List.set_cons_zero, List.set_cons_succ]
  refine wpAnyH_take (i := 8) (v := ?_) rfl (by kernel_rfl) (by kernel_rfl) (by kernel_rfl) (fun _ _ _ h => h) (Or.inl ⟨by rfl, ?_⟩) hHeld ?_
  rotate_left
  · intro wq hSw
    replace hSw : Grew w1 wq := hSw
    go_simp
    try with_reducible rfl
  try simp only [List.getElem_toArray, List.getElem_cons_succ, List.getElem_cons_zero, Act.put, List.setIfInBounds_toArray, List.set_cons_zero, List.set_cons_succ]
  refine wpAnyH_take (i := 9) (v := ?_) rfl (by kernel_rfl) (by kernel_rfl) (by kernel_rfl) (fun _ _ _ h => h) (Or.inl ⟨by rfl, ?_⟩) hHeld ?_
  rotate_left
  · intro wq hSw
    replace hSw : Grew w1 wq := hSw
    go_simp
    try with_reducible rfl
  try simp only [List.getElem_toArray, List.getElem_cons_succ, List.getElem_cons_zero, Act.put, List.setIfInBounds_toArray, List.set_cons_zero, List.set_cons_succ]
  refine wpAnyH_take (i := 10) (v := ?_) rfl (by kernel_rfl) (by kernel_rfl) (by kernel_rfl) (fun _ _ _ h => h) (Or.inl ⟨by rfl, ?_⟩) hHeld ?_
  rotate_left
  · intro wq hSw
    replace hSw : Grew w1 wq := hSw
    have y9 := (hB1.grew hSw).cell 9
    go_simp
    try with_reducible rfl
  try simp only [List.getElem_toArray, List.getElem_cons_succ, List.getElem_cons_zero, Act.put, List.setIfInBounds_toArray, List.set_cons_zero, List.set_cons_succ]
  refine wpAnyH_take (i := 11) (v := ?_) rfl (by kernel_rfl) (by kernel_rfl) (by kernel_rfl) (fun _ _ _ h => h) (Or.inl ⟨by rfl, ?_⟩) hHeld ?_
  rotate_left
  · intro wq hSw
    replace hSw : Grew w1 wq := hSw
    go_simp
    try with_reducible rfl
  try simp only [List.getElem_toArray, List.getElem_cons_succ, List.getElem_cons_zero, Act.put, List.setIfInBounds_toArray, List.set_cons_zero, List.set_cons_succ]
  refine wpAnyH_take (i := 12) (v := ?_) rfl (by kernel_rfl) (by kernel_rfl) (by kernel_rfl) (fun _ _ _ h => h) (Or.inl ⟨by rfl, ?_⟩) hHeld ?_
  rotate_left
  · intro wq hSw
    replace hSw : Grew w1 wq := hSw
    have ew := EN4.out
    go_simp
    try with_reducible rfl
  try simp only [List.getElem_toArray, List.getElem_cons_succ, List.getElem_cons_zero, Act.put, List.setIfInBounds_toArray, List.set_cons_zero, List.set_cons_succ]
  refine wpAnyH_ready (rs := [7, 13]) (by kernel_rfl) (by simp) ?_
  refine AllReadyH.cons rfl (fun K hK => ?_) (AllReadyH.cons rfl (fun K hK => ?_) AllReadyH.nil)
  · go_simp
    have lo := hHeld.size
    have R1 : Row (wq1.alloc (.cells #[.int .u8 (64 + (hdN f : Int) / 4), .int .u8 f.tos] 5)) wq1.heap.size (.slice (some ⟨wq1.heap.size, 0, none⟩) 2 2) [64 + (hdN f : Int) / 4, f.tos] := Row.lit wq1 wq1.heap.size (Nat.le_refl _) #[.int .u8 (64 + (hdN f : Int) / 4), .int .u8 f.tos] [64 + (hdN f : Int) / 4, f.tos] rfl (by unfold maxLen; simp) _ rfl 2 rfl
    replace R1 := Lib.hid (R1.low lo)
    have gk2 : Grew wq1 (wq1.alloc (.cells #[.int .u8 (64 + (hdN f : Int) / 4), .int .u8 f.tos] 5)) := (Grew.refl _).alloc _
    generalize (wq1.alloc (.cells #[.int .u8 (64 + (hdN f : Int) / 4), .int .u8 f.tos] 5)) = wk2 at *
    generalize wq1.heap.size = Qwk2 at *
    refine hK.out _ _ (hHeld.trans gk2) (fun hHeld => ?_)
    clear hK K
    try simp only [List.getElem_toArray, List.getElem_cons_succ, List.getElem_cons_zero, Act.put, List.setIfInBounds_toArray, List.set_cons_zero, List.set_cons_succ]
    refine wpAnyH_ready (rs := [13]) (by kernel_rfl) (by simp) ?_
    refine AllReadyH.cons rfl (fun K hK => ?_) AllReadyH.nil
    go_simp
    refine (refTwo_c ((hdN f : Int) + (f.x.length : Int)) hn0 hn1 wk2).mono ?_
    rintro e wk3 ⟨pn, cn, rfl, rr, Hn, gk3⟩
    clear rr
    replace Hn := Lib.hid Hn
    replace R1 := Lib.hid (R1.out.grew gk3)
    refine hK.out _ _ (hHeld.trans gk3) (fun hHeld => ?_)
    clear hK K
    try simp only [List.getElem_toArray, List.getElem_cons_succ, List.getElem_cons_zero, Act.put, List.setIfInBounds_toArray, List.set_cons_zero, List.set_cons_succ]
    refine wpAnyH_ready (rs := [14]) (by kernel_rfl) (by simp) ?_
    refine AllReadyH.cons rfl (fun K hK => ?_) AllReadyH.nil
    refine step_append_t rfl (.tmp 20) (.tmp 26) rfl hHeld (R1.out) (Hn.out) (by rfl) (by rfl) (hl1.out) ?_
    intro vwk4 wk4 R2 gk4
    refine hK.out _ _ (gk4) (fun hHeld => ?_)
    clear hK K
    try simp only [List.getElem_toArray, List.getElem_cons_succ, List.getElem_cons_zero, Act.put, List.setIfInBounds_toArray, List.set_cons_zero, List.set_cons_succ]
    refine wpAnyH_take (i := 15) (v := ?_) rfl (by kernel_rfl) (by kernel_rfl) (by kernel_rfl) (fun _ _ _ h => h) (Or.inl ⟨by rfl, ?_⟩) hHeld ?_
    rotate_left
    · intro wq hSw
      replace hSw : Grew w1 wq := hSw
      go_simp
      try with_reducible rfl
    try simp only [List.getElem_toArray, List.getElem_cons_succ, List.getElem_cons_zero, Act.put, List.setIfInBounds_toArray, List.set_cons_zero, List.set_cons_succ]
    refine wpAnyH_done (by kernel_rfl) ?_ _
    try simp only [List.getElem_toArray, List.getElem_cons_succ, List.getElem_cons_zero, Act.put, List.setIfInBounds_toArray, List.set_cons_zero, List.set_cons_succ]
    have hc4 := hHeld
    clear hHeld
    go_upto_region 5 with fail
    replace R2 := Lib.hid (R2.out.grew ((Grew.refl wk4).drew1))
    have hst := hc4.drew1
    refine wp_region_held_drew (S := fun w' => Grew w1 w') (by kernel_rfl) (by exact hst) (fun hHeld => ?_)
    replace hHeld : Grew w1 wk4.drew := hHeld
    generalize wk4.drew = wq5 at *
    refine wpAnyH_take (i := 0) (v := ?_) rfl (by kernel_rfl) (by kernel_rfl) (by kernel_rfl) (fun _ _ _ h => h) (Or.inl ⟨by rfl, ?_⟩) hHeld ?_
    rotate_left
    · intro wq hSw
      replace hSw : Grew w1 wq := hSw
      go_simp
      try with_reducible rfl
    try simp only [List.getElem_toArray, List.getElem_cons_succ, List.getElem_cons_zero, Act.put, List.setIfInBounds_toArray, List.set_cons_zero, List.set_cons_succ]
    refine wpAnyH_take (i := 1) (v := ?_) rfl (by kernel_rfl) (by kernel_rfl) (by kernel_rfl) (fun _ _ _ h => h) (Or.inl ⟨by rfl, ?_⟩) hHeld ?_
    rotate_left
    · intro wq hSw
      replace hSw : Grew w1 wq := hSw
      go_simp
      try with_reducible rfl
    try simp only [List.getElem_toArray, List.getElem_cons_succ, List.getElem_cons_zero, Act.put, List.setIfInBounds_toArray, List.set_cons_zero, List.set_cons_succ]
    refine wpAnyH_take (i := 2) (v := ?_) rfl (by kernel_rfl) (by kernel_rfl) (by kernel_rfl) (fun _ _ _ h => h) (Or.inl ⟨by rfl, ?_⟩) hHeld ?_
    rotate_left
    · intro wq hSw
      replace hSw : Grew w1 wq := hSw
      have y1 := (hB1.grew hSw).cell 1
      go_simp
      try with_reducible rfl
    try simp only [List.getElem_toArray, List.getElem_cons_succ, List.getElem_cons_zero, Act.put, List.setIfInBounds_toArray, List.set_cons_zero, List.set_cons_succ]
    refine wpAnyH_take (i := 5) (v := ?_) rfl (by kernel_rfl) (by kernel_rfl) (by kernel_rfl) (fun _ _ _ h => h) (Or.inl ⟨by rfl, ?_⟩) hHeld ?_
    rotate_left
    · intro wq hSw
      replace hSw : Grew w1 wq := hSw
      go_simp
      try with_reducible rfl
    try simp only [List.getElem_toArray, List.getElem_cons_succ, List.getElem_cons_zero, Act.put, List.setIfInBounds_toArray, List.set_cons_zero, List.set_cons_succ]
    refine wpAnyH_take (i := 6) (v := ?_) rfl (by kernel_rfl) (by kernel_rfl) (by kernel_rfl) (fun _ _ _ h => h) (Or.inl ⟨by rfl, ?_⟩) hHeld ?_
    rotate_left
    · intro wq hSw
      replace hSw : Grew w1 wq := hSw
      have y2 := (hB1.grew hSw).cell 2
      go_simp
      try with_reducible rfl
    try simp only [List.getElem_toArray, List.getElem_cons_succ, List.getElem_cons_zero, Act.put, List.setIfInBounds_toArray, List.set_cons_zero, List.set_cons_succ]
    refine wpAnyH_take (i := 7) (v := ?_) rfl (by kernel_rfl) (by kernel_rfl) (by kernel_rfl) (fun _ _ _ h => h) (Or.inl ⟨by rfl, ?_⟩) hHeld ?_
    rotate_left
    · intro wq hSw
      replace hSw : Grew w1 wq := hSw
      have ew := EW1.out
      go_simp
      try with_reducible rfl
    try simp only [List.getElem_toArray, List.getElem_cons_succ, List.getElem_cons_zero, Act.put, List.setIfInBounds_toArray, List.set_cons_zero, List.set_cons_succ]
    refine wpAnyH_take (i := 8) (v := ?_) rfl (by kernel_rfl) (by kernel_rfl) (by kernel_rfl) (fun _ _ _ h => h) (Or.inl ⟨by rfl, ?_⟩) hHeld ?_
    rotate_left
    · intro wq hSw
      replace hSw : Grew w1 wq := hSw
      go_simp
      try with_reducible rfl
    try simp only [List.getElem_toArray, List.getElem_cons_succ, List.getElem_cons_zero, Act.put, List.setIfInBounds_toArray, List.set_cons_zero, List.set_cons_succ]
    refine wpAnyH_take (i := 9) (v := ?_) rfl (by kernel_rfl) (by kernel_rfl) (by kernel_rfl) (fun _ _ _ h => h) (Or.inl ⟨by rfl, ?_⟩) hHeld ?_
    rotate_left
    · intro wq hSw
      replace hSw : Grew w1 wq := hSw
      have y3 := (hB1.grew hSw).cell 3
      go_simp
      try with_reducible rfl
    try simp only [List.getElem_toArray, List.getElem_cons_succ, List.getElem_cons_zero, Act.put, List.setIfInBounds_toArray, List.set_cons_zero, List.set_cons_succ]
    refine wpAnyH_take (i := 10) (v := ?_) rfl (by kernel_rfl) (by kernel_rfl) (by kernel_rfl) (fun _ _ _ h => h) (Or.inl ⟨by rfl, ?_⟩) hHeld ?_
    rotate_left
    · intro wq hSw
      replace hSw : Grew w1 wq := hSw
      have ew := EW2.out
      go_simp
      try with_reducible rfl
    try simp only [List.getElem_toArray, List.getElem_cons_succ, List.getElem_cons_zero, Act.put, List.setIfInBounds_toArray, List.set_cons_zero, List.set_cons_succ]
    refine wpAnyH_ready (rs := [3]) (by kernel_rfl) (by simp) ?_
    refine AllReadyH.cons rfl (fun K hK => ?_) AllReadyH.nil
    go_simp
    refine (refTwo_c (f.id) hi0 hi1 wq5).mono ?_
    rintro e wk6 ⟨pi, ci, rfl, rr, Hi, gk6⟩
    clear rr
    replace Hi := Lib.hid Hi
    replace R2 := Lib.hid (R2.out.grew gk6)
    refine hK.out _ _ (hHeld.trans gk6) (fun hHeld => ?_)
    clear hK K
    try simp only [List.getElem_toArray, List.getElem_cons_succ, List.getElem_cons_zero, Act.put, List.setIfInBounds_toArray, List.set_cons_zero, List.set_cons_succ]
    refine wpAnyH_ready (rs := [4]) (by kernel_rfl) (by simp) ?_
    refine AllReadyH.cons rfl (fun K hK => ?_) AllReadyH.nil
    refine step_append_t rfl (.tmp 28) (.tmp 31) rfl hHeld (R2.out) (Hi.out) (by rfl) (by rfl) (hl2.out) ?_
    intro vwk7 wk7 R3 gk7
    refine hK.out _ _ (gk7) (fun hHeld => ?_)
    clear hK K
    try simp only [List.getElem_toArray, List.getElem_cons_succ, List.getElem_cons_zero, Act.put, List.setIfInBounds_toArray, List.set_cons_zero, List.set_cons_succ]
    refine wpAnyH_ready (rs := [11]) (by kernel_rfl) (by simp) ?_
    refine AllReadyH.cons rfl (fun K hK => ?_) AllReadyH.nil
    go_simp
    refine (refTwo_c (f.fl * 8192 + f.off) hf0 hf1 wk7).mono ?_
    rintro e wk8 ⟨pf, cf, rfl, rr, Hf, gk8⟩
    clear rr
    replace Hf := Lib.hid Hf
    replace R3 := Lib.hid (R3.out.grew gk8)
    refine hK.out _ _ (hHeld.trans gk8) (fun hHeld => ?_)
    clear hK K
    try simp only [List.getElem_toArray, List.getElem_cons_succ, List.getElem_cons_zero, Act.put, List.setIfInBounds_toArray, List.set_cons_zero, List.set_cons_succ]
    refine wpAnyH_ready (rs := [12]) (by kernel_rfl) (by simp) ?_
    refine AllReadyH.cons rfl (fun K hK => ?_) AllReadyH.nil
    refine step_append_t rfl (.tmp 32) (.tmp 39) rfl hHeld (R3.out) (Hf.out) (by rfl) (by rfl) (hl3.out) ?_
    intro vwk9 wk9 R4 gk9
    refine hK.out _ _ (gk9) (fun hHeld => ?_)
    clear hK K
    try simp only [List.getElem_toArray, List.getElem_cons_succ, List.getElem_cons_zero, Act.put, List.setIfInBounds_toArray, List.set_cons_zero, List.set_cons_succ]
    refine wpAnyH_take (i := 13) (v := ?_) rfl (by kernel_rfl) (by kernel_rfl) (by kernel_rfl) (fun _ _ _ h => h) (Or.inl ⟨by rfl, ?_⟩) hHeld ?_
    rotate_left
    · intro wq hSw
      replace hSw : Grew w1 wq := hSw
      go_simp
      try with_reducible rfl
    try simp only [List.getElem_toArray, List.getElem_cons_succ, List.getElem_cons_zero, Act.put, List.setIfInBounds_toArray, List.set_cons_zero, List.set_cons_succ]
    refine wpAnyH_done (by kernel_rfl) ?_ _
    try simp only [List.getElem_toArray, List.getElem_cons_succ, List.getElem_cons_zero, Act.put, List.setIfInBounds_toArray, List.set_cons_zero, List.set_cons_succ]
    have hc5 := hHeld
    clear hHeld
    have hB5 := hB1.grew hc5
    have y0 := hB5.cell 0
    have y1 := hB5.cell 1
    have y2 := hB5.cell 2
    have y3 := hB5.cell 3
    have y4 := hB5.cell 4
    have y5 := hB5.cell 5
    have y6 := hB5.cell 6
    have y7 := hB5.cell 7
    have y8 := hB5.cell 8
    have y9 := hB5.cell 9
    have em1 := EM1.out
    have em2 := EM2.out
    go_upto_region 7 with (refine wpList_append_b (W := w1) rfl (.tmp 41) (.tmp 48) rfl (hc5.alloc _) (R4.out.alloc _) ((Row.lit wk9 wk9.heap.size (Nat.le_refl _) #[.int .u8 f.ttl, .int .u8 f.pr, .int .u8 0, .int .u8 0] [f.ttl, f.pr, 0, 0] rfl (by unfold maxLen; simp) _ rfl 4 rfl).buf HO4.out) (by rfl) (by rfl) hl4.out ?_; intro v6 w6 R5 hc6 x6; clear x6)
    clear y0 y1 y2 y3 y4 y5 y6 y7 y8 y9 em1 em2
    replace R5 := Lib.hid (R5.out.grew ((Grew.refl w6).drew1))
    have hst := hc6.drew1
    refine wp_region_held_drew (S := fun w' => Grew w1 w') (by kernel_rfl) (by exact hst) (fun hHeld => ?_)
    replace hHeld : Grew w1 w6.drew := hHeld
    generalize w6.drew = wq10 at *
    refine wpAnyH_take (i := 0) (v := ?_) rfl (by kernel_rfl) (by kernel_rfl) (by kernel_rfl) (fun _ _ _ h => h) (Or.inl ⟨by rfl, ?_⟩) hHeld ?_
    rotate_left
    · intro wq hSw
      replace hSw : Grew w1 wq := hSw
      go_simp
      try with_reducible rfl
    try simp only [List.getElem_toArray, List.getElem_cons_succ, List.getElem_cons_zero, Act.put, List.setIfInBounds_toArray, List.set_cons_zero, List.set_cons_succ]
    refine wpAnyH_take (i := 1) (v := ?_) rfl (by kernel_rfl) (by kernel_rfl) (by kernel_rfl) (fun _ _ _ h => h) (Or.inl ⟨by rfl, ?_⟩) hHeld ?_
    rotate_left
    · intro wq hSw
      replace hSw : Grew w1 wq := hSw
      go_simp
      try with_reducible rfl
    try simp only [List.getElem_toArray, List.getElem_cons_succ, List.getElem_cons_zero, Act.put, List.setIfInBounds_toArray, List.set_cons_zero, List.set_cons_succ]
    refine wpAnyH_take (i := 2) (v := ?_) rfl (by kernel_rfl) (by kernel_rfl) (by kernel_rfl) (fun _ _ _ h => h) (Or.inl ⟨by rfl, ?_⟩) hHeld ?_
    rotate_left
    · intro wq hSw
      replace hSw : Grew w1 wq := hSw
      have y6 := (hB1.grew hSw).cell 6
      go_simp
      try with_reducible rfl
    try simp only [List.getElem_toArray, List.getElem_cons_succ, List.getElem_cons_zero, Act.put, List.setIfInBounds_toArray, List.set_cons_zero, List.set_cons_succ]
    refine wpAnyH_take (i := 3) (v := ?_) rfl (by kernel_rfl) (by kernel_rfl) (by kernel_rfl) (fun _ _ _ h => h) (Or.inl ⟨by rfl, ?_⟩) hHeld ?_
    rotate_left
    · intro wq hSw
      replace hSw : Grew w1 wq := hSw
      have ew := EW3.out
      go_simp
      try with_reducible rfl
    try simp only [List.getElem_toArray, List.getElem_cons_succ, List.getElem_cons_zero, Act.put, List.setIfInBounds_toArray, List.set_cons_zero, List.set_cons_succ]
    refine wpAnyH_take (i := 6) (v := ?_) rfl (by kernel_rfl) (by kernel_rfl) (by kernel_rfl) (fun _ _ _ h => h) (Or.inl ⟨by rfl, ?_⟩) hHeld ?_
    rotate_left
    · intro wq hSw
      replace hSw : Grew w1 wq := hSw
      go_simp
      try with_reducible rfl
    try simp only [List.getElem_toArray, List.getElem_cons_succ, List.getElem_cons_zero, Act.put, List.setIfInBounds_toArray, List.set_cons_zero, List.set_cons_succ]
    refine wpAnyH_take (i := 7) (v := ?_) rfl (by kernel_rfl) (by kernel_rfl) (by kernel_rfl) (fun _ _ _ h => h) (Or.inl ⟨by rfl, ?_⟩) hHeld ?_
    rotate_left
    · intro wq hSw
      replace hSw : Grew w1 wq := hSw
      have y7 := (hB1.grew hSw).cell 7
      go_simp
      try with_reducible rfl
    try simp only [List.getElem_toArray, List.getElem_cons_succ, List.getElem_cons_zero, Act.put, List.setIfInBounds_toArray, List.set_cons_zero, List.set_cons_succ]
    refine wpAnyH_take (i := 8) (v := ?_) rfl (by kernel_rfl) (by kernel_rfl) (by kernel_rfl) (fun _ _ _ h => h) (Or.inl ⟨by rfl, ?_⟩) hHeld ?_
    rotate_left
    · intro wq hSw
      replace hSw : Grew w1 wq := hSw
      have ew := EW4.out
      go_simp
      try with_reducible rfl
    try simp only [List.getElem_toArray, List.getElem_cons_succ, List.getElem_cons_zero, Act.put, List.setIfInBounds_toArray, List.set_cons_zero, List.set_cons_succ]
    refine wpAnyH_ready (rs := [4]) (by kernel_rfl) (by simp) ?_
    refine AllReadyH.cons rfl (fun K hK => ?_) AllReadyH.nil
    go_simp
    refine (refPutB_c (f.si) _ 4 true (by rfl) (by omega) hqs0 hqs1 wq10).mono ?_
    rintro e wk11 ⟨us, rfl, rr, Hs, gk11⟩
    clear rr
    replace Hs := Lib.hid Hs
    replace R5 := Lib.hid (R5.out.grew gk11)
    refine hK.out _ _ (hHeld.trans gk11) (fun hHeld => ?_)
    clear hK K
    try simp only [List.getElem_toArray, List.getElem_cons_succ, List.getElem_cons_zero, Act.put, List.setIfInBounds_toArray, List.set_cons_zero, List.set_cons_succ]
    refine wpAnyH_ready (rs := [5]) (by kernel_rfl) (by simp) ?_
    refine AllReadyH.cons rfl (fun K hK => ?_) AllReadyH.nil
    refine step_append_t rfl (.tmp 50) (.tmp 54) rfl hHeld (R5.out) (Hs.out) (by rfl) (by rfl) (hl5.out) ?_
    intro vwk12 wk12 R6 gk12
    refine hK.out _ _ (gk12) (fun hHeld => ?_)
    clear hK K
    try simp only [List.getElem_toArray, List.getElem_cons_succ, List.getElem_cons_zero, Act.put, List.setIfInBounds_toArray, List.set_cons_zero, List.set_cons_succ]
    refine wpAnyH_ready (rs := [9]) (by kernel_rfl) (by simp) ?_
    refine AllReadyH.cons rfl (fun K hK => ?_) AllReadyH.nil
    go_simp
    refine (refPutB_c (f.di) _ 4 true (by rfl) (by omega) hqd0 hqd1 wk12).mono ?_
    rintro e wk13 ⟨ud, rfl, rr, Hd, gk13⟩
    clear rr
    replace Hd := Lib.hid Hd
    replace R6 := Lib.hid (R6.out.grew gk13)
    refine hK.out _ _ (hHeld.trans gk13) (fun hHeld => ?_)
    clear hK K
    try simp only [List.getElem_toArray, List.getElem_cons_succ, List.getElem_cons_zero, Act.put, List.setIfInBounds_toArray, List.set_cons_zero, List.set_cons_succ]
    refine wpAnyH_ready (rs := [10]) (by kernel_rfl) (by simp) ?_
    refine AllReadyH.cons rfl (fun K hK => ?_) AllReadyH.nil
    refine step_append_t rfl (.tmp 55) (.tmp 59) rfl hHeld (R6.out) (Hd.out) (by rfl) (by rfl) (hl6.out) ?_
    intro vwk14 wk14 R7 gk14
    refine hK.out _ _ (gk14) (fun hHeld => ?_)
    clear hK K
    try simp only [List.getElem_toArray, List.getElem_cons_succ, List.getElem_cons_zero, Act.put, List.setIfInBounds_toArray, List.set_cons_zero, List.set_cons_succ]
    refine wpAnyH_take (i := 11) (v := ?_) rfl (by kernel_rfl) (by kernel_rfl) (by kernel_rfl) (fun _ _ _ h => h) (Or.inl ⟨by rfl, ?_⟩) hHeld ?_
    rotate_left
    · intro wq hSw
      replace hSw : Grew w1 wq := hSw
      go_simp
      try with_reducible rfl
    try simp only [List.getElem_toArray, List.getElem_cons_succ, List.getElem_cons_zero, Act.put, List.setIfInBounds_toArray, List.set_cons_zero, List.set_cons_succ]
    refine wpAnyH_done (by kernel_rfl) ?_ _
    try simp only [List.getElem_toArray, List.getElem_cons_succ, List.getElem_cons_zero, Act.put, List.setIfInBounds_toArray, List.set_cons_zero, List.set_cons_succ]
    have hc7 := hHeld
    clear hHeld
    have hB7 := hB1.grew hc7
    have y0 := hB7.cell 0
    have y1 := hB7.cell 1
    have y2 := hB7.cell 2
    have y3 := hB7.cell 3
    have y4 := hB7.cell 4
    have y5 := hB7.cell 5
    have y6 := hB7.cell 6
    have y7 := hB7.cell 7
    have y8 := hB7.cell 8
    have y9 := hB7.cell 9
    go_wp2_with (refine wpList_append_b (W := w1) rfl (.tmp 61) (.tmp 63) rfl hc7 R7.out (H1.out.grew (G1.trans hc7)) (by rfl) (by rfl) hl7.out ?_; intro v8 w8 R8 hc8 x8; clear x8)
    have hb8 := R8.out.buf HO8.out
    rw [HEQ.out] at hb8
    refine (refPatch_c 10 (by omega) (by omega) w8 hb8 (by rw [headP_len]; have := HLO.out; unfold hdN; omega)).mono ?_
    rintro e w9 ⟨u9, rfl, r9, g9⟩
    have hc9 := hc8.trans g9
    have R9 := Lib.hid (r9.low hc8.size)
    clear y0 y1 y2 y3 y4 y5 y6 y7 y8 y9 r9 hb8
    have hB9 := hB1.grew hc9
    have y0 := hB9.cell 0
    have y1 := hB9.cell 1
    have y2 := hB9.cell 2
    have y3 := hB9.cell 3
    have y4 := hB9.cell 4
    have y5 := hB9.cell 5
    have y6 := hB9.cell 6
    have y7 := hB9.cell 7
    have y8 := hB9.cell 8
    have y9 := hB9.cell 9
    go_wp2_with (refine wpList_append_b (W := w1) rfl (.tmp 66) (.tmp 68) rfl hc9 R9.out (H2.out.grew (G1.trans hc9)) (by rfl) (by rfl) HL9.out ?_; intro v10 w10 R10 hc10 x10; clear x10)
    go_ret2
    exact ⟨_, rfl, R10.out.buf HO10.out, G1.trans hc10⟩
  · go_simp
    refine (refTwo_c ((hdN f : Int) + (f.x.length : Int)) hn0 hn1 wq1).mono ?_
    rintro e wk15 ⟨pn, cn, rfl, rr, Hn, gk15⟩
    clear rr
    replace Hn := Lib.hid Hn
    refine hK.out _ _ (hHeld.trans gk15) (fun hHeld => ?_)
    clear hK K
    try simp only [List.getElem_toArray, List.getElem_cons_succ, List.getElem_cons_zero, Act.put, List.setIfInBounds_toArray, List.set_cons_zero, List.set_cons_succ]
    refine wpAnyH_ready (rs := [7]) (by kernel_rfl) (by simp) ?_
    refine AllReadyH.cons rfl (fun K hK => ?_) AllReadyH.nil
    go_simp
    have lo := hHeld.size
    have R1 : Row (wk15.alloc (.cells #[.int .u8 (64 + (hdN f : Int) / 4), .int .u8 f.tos] 5)) wk15.heap.size (.slice (some ⟨wk15.heap.size, 0, none⟩) 2 2) [64 + (hdN f : Int) / 4, f.tos] := Row.lit wk15 wk15.heap.size (Nat.le_refl _) #[.int .u8 (64 + (hdN f : Int) / 4), .int .u8 f.tos] [64 + (hdN f : Int) / 4, f.tos] rfl (by unfold maxLen; simp) _ rfl 2 rfl
    replace R1 := Lib.hid (R1.low lo)
    have gk16 : Grew wk15 (wk15.alloc (.cells #[.int .u8 (64 + (hdN f : Int) / 4), .int .u8 f.tos] 5)) := (Grew.refl _).alloc _
    replace Hn := Lib.hid (Hn.out.grew gk16)
    generalize (wk15.alloc (.cells #[.int .u8 (64 + (hdN f : Int) / 4), .int .u8 f.tos] 5)) = wk16 at *
    generalize wk15.heap.size = Qwk16 at *
    refine hK.out _ _ (hHeld.trans gk16) (fun hHeld => ?_)
    clear hK K
    try simp only [List.getElem_toArray, List.getElem_cons_succ, List.getElem_cons_zero, Act.put, List.setIfInBounds_toArray, List.set_cons_zero, List.set_cons_succ]
    refine wpAnyH_ready (rs := [14]) (by kernel_rfl) (by simp) ?_
    refine AllReadyH.cons rfl (fun K hK => ?_) AllReadyH.nil
    refine step_append_t rfl (.tmp 20) (.tmp 26) rfl hHeld (R1.out) (Hn.out) (by rfl) (by rfl) (hl1.out) ?_
    intro vwk17 wk17 R2 gk17
    refine hK.out _ _ (gk17) (fun hHeld => ?_)
    clear hK K
    try simp only [List.getElem_toArray, List.getElem_cons_succ, List.getElem_cons_zero, Act.put, List.setIfInBounds_toArray, List.set_cons_zero, List.set_cons_succ]
    refine wpAnyH_take (i := 15) (v := ?_) rfl (by kernel_rfl) (by kernel_rfl) (by kernel_rfl) (fun _ _ _ h => h) (Or.inl ⟨by rfl, ?_⟩) hHeld ?_
    rotate_left
    · intro wq hSw
      replace hSw : Grew w1 wq := hSw
      go_simp
      try with_reducible rfl
    try simp only [List.getElem_toArray, List.getElem_cons_succ, List.getElem_cons_zero, Act.put, List.setIfInBounds_toArray, List.set_cons_zero, List.set_cons_succ]
    refine wpAnyH_done (by kernel_rfl) ?_ _
    try simp only [List.getElem_toArray, List.getElem_cons_succ, List.getElem_cons_zero, Act.put, List.setIfInBounds_toArray, List.set_cons_zero, List.set_cons_succ]
    have hc4 := hHeld
    clear hHeld
    go_upto_region 5 with fail
    replace R2 := Lib.hid (R2.out.grew ((Grew.refl wk17).drew1))
    have hst := hc4.drew1
    refine wp_region_held_drew (S := fun w' => Grew w1 w') (by kernel_rfl) (by exact hst) (fun hHeld => ?_)
    replace hHeld : Grew w1 wk17.drew := hHeld
    generalize wk17.drew = wq18 at *
    refine wpAnyH_take (i := 0) (v := ?_) rfl (by kernel_rfl) (by kernel_rfl) (by kernel_rfl) (fun _ _ _ h => h) (Or.inl ⟨by rfl, ?_⟩) hHeld ?_
    rotate_left
    · intro wq hSw
      replace hSw : Grew w1 wq := hSw
      go_simp
      try with_reducible rfl
    try simp only [List.getElem_toArray, List.getElem_cons_succ, List.getElem_cons_zero, Act.put, List.setIfInBounds_toArray, List.set_cons_zero, List.set_cons_succ]
    refine wpAnyH_take (i := 1) (v := ?_) rfl (by kernel_rfl) (by kernel_rfl) (by kernel_rfl) (fun _ _ _ h => h) (Or.inl ⟨by rfl, ?_⟩) hHeld ?_
    rotate_left
    · intro wq hSw
      replace hSw : Grew w1 wq := hSw
      go_simp
      try with_reducible rfl
    try simp only [List.getElem_toArray, List.getElem_cons_succ, List.getElem_cons_zero, Act.put, List.setIfInBounds_toArray, List.set_cons_zero, List.set_cons_succ]
    refine wpAnyH_take (i := 2) (v := ?_) rfl (by kernel_rfl) (by kernel_rfl) (by kernel_rfl) (fun _ _ _ h => h) (Or.inl ⟨by rfl, ?_⟩) hHeld ?_
    rotate_left
    · intro wq hSw
      replace hSw : Grew w1 wq := hSw
      have y1 := (hB1.grew hSw).cell 1
      go_simp
      try with_reducible rfl
    try simp only [List.getElem_toArray, List.getElem_cons_succ, List.getElem_cons_zero, Act.put, List.setIfInBounds_toArray, List.set_cons_zero, List.set_cons_succ]
    refine wpAnyH_take (i := 5) (v := ?_) rfl (by kernel_rfl) (by kernel_rfl) (by kernel_rfl) (fun _ _ _ h => h) (Or.inl ⟨by rfl, ?_⟩) hHeld ?_
    rotate_left
    · intro wq hSw
      replace hSw : Grew w1 wq := hSw
      go_simp
      try with_reducible rfl
    try simp only [List.getElem_toArray, List.getElem_cons_succ, List.getElem_cons_zero, Act.put, List.setIfInBounds_toArray, List.set_cons_zero, List.set_cons_succ]
    refine wpAnyH_take (i := 6) (v := ?_) rfl (by kernel_rfl) (by kernel_rfl) (by kernel_rfl) (fun _ _ _ h => h) (Or.inl ⟨by rfl, ?_⟩) hHeld ?_
    rotate_left
    · intro wq hSw
      replace hSw : Grew w1 wq := hSw
      have y2 := (hB1.grew hSw).cell 2
      go_simp
      try with_reducible rfl
    try simp only [List.getElem_toArray, List.getElem_cons_succ, List.getElem_cons_zero, Act.put, List.setIfInBounds_toArray, List.set_cons_zero, List.set_cons_succ]
    refine wpAnyH_take (i := 7) (v := ?_) rfl (by kernel_rfl) (by kernel_rfl) (by kernel_rfl) (fun _ _ _ h => h) (Or.inl ⟨by rfl, ?_⟩) hHeld ?_
    rotate_left
    · intro wq hSw
      replace hSw : Grew w1 wq := hSw
      have ew := EW1.out
      go_simp
      try with_reducible rfl
    try simp only [List.getElem_toArray, List.getElem_cons_succ, List.getElem_cons_zero, Act.put, List.setIfInBounds_toArray, List.set_cons_zero, List.set_cons_succ]
    refine wpAnyH_take (i := 8) (v := ?_) rfl (by kernel_rfl) (by kernel_rfl) (by kernel_rfl) (fun _ _ _ h => h) (Or.inl ⟨by rfl, ?_⟩) hHeld ?_
    rotate_left
    · intro wq hSw
      replace hSw : Grew w1 wq := hSw
      go_simp
      try with_reducible rfl
    try simp only [List.getElem_toArray, List.getElem_cons_succ, List.getElem_cons_zero, Act.put, List.setIfInBounds_toArray, List.set_cons_zero, List.set_cons_succ]
    refine wpAnyH_take (i := 9) (v := ?_) rfl (by kernel_rfl) (by kernel_rfl) (by kernel_rfl) (fun _ _ _ h => h) (Or.inl ⟨by rfl, ?_⟩) hHeld ?_
    rotate_left
    · intro wq hSw
      replace hSw : Grew w1 wq := hSw
      have y3 := (hB1.grew hSw).cell 3
      go_simp
      try with_reducible rfl
    try simp only [List.getElem_toArray, List.getElem_cons_succ, List.getElem_cons_zero, Act.put, List.setIfInBounds_toArray, List.set_cons_zero, List.set_cons_succ]
    refine wpAnyH_take (i := 10) (v := ?_) rfl (by kernel_rfl) (by kernel_rfl) (by kernel_rfl) (fun _ _ _ h => h) (Or.inl ⟨by rfl, ?_⟩) hHeld ?_
    rotate_left
    · intro wq hSw
      replace hSw : Grew w1 wq := hSw
      have ew := EW2.out
      go_simp
      try with_reducible rfl
    try simp only [List.getElem_toArray, List.getElem_cons_succ, List.getElem_cons_zero, Act.put, List.setIfInBounds_toArray, List.set_cons_zero, List.set_cons_succ]
    refine wpAnyH_ready (rs := [3]) (by kernel_rfl) (by simp) ?_
    refine AllReadyH.cons rfl (fun K hK => ?_) AllReadyH.nil
    go_simp
    refine (refTwo_c (f.id) hi0 hi1 wq18).mono ?_
    rintro e wk19 ⟨pi, ci, rfl, rr, Hi, gk19⟩
    clear rr
    replace Hi := Lib.hid Hi
    replace R2 := Lib.hid (R2.out.grew gk19)
    refine hK.out _ _ (hHeld.trans gk19) (fun hHeld => ?_)
    clear hK K
    try simp only [List.getElem_toArray, List.getElem_cons_succ, List.getElem_cons_zero, Act.put, List.setIfInBounds_toArray, List.set_cons_zero, List.set_cons_succ]
    refine wpAnyH_ready (rs := [4]) (by kernel_rfl) (by simp) ?_
    refine AllReadyH.cons rfl (fun K hK => ?_) AllReadyH.nil
    refine step_append_t rfl (.tmp 28) (.tmp 31) rfl hHeld (R2.out) (Hi.out) (by rfl) (by rfl) (hl2.out) ?_
    intro vwk20 wk20 R3 gk20
    refine hK.out _ _ (gk20) (fun hHeld => ?_)
    clear hK K
    try simp only [List.getElem_toArray, List.getElem_cons_succ, List.getElem_cons_zero, Act.put, List.setIfInBounds_toArray, List.set_cons_zero, List.set_cons_succ]
    refine wpAnyH_ready (rs := [11]) (by kernel_rfl) (by simp) ?_
    refine AllReadyH.cons rfl (fun K hK => ?_) AllReadyH.nil
    go_simp
    refine (refTwo_c (f.fl * 8192 + f.off) hf0 hf1 wk20).mono ?_
    rintro e wk21 ⟨pf, cf, rfl, rr, Hf, gk21⟩
    clear rr
    replace Hf := Lib.hid Hf
    replace R3 := Lib.hid (R3.out.grew gk21)
    refine hK.out _ _ (hHeld.trans gk21) (fun hHeld => ?_)
    clear hK K
    try simp only [List.getElem_toArray, List.getElem_cons_succ, List.getElem_cons_zero, Act.put, List.setIfInBounds_toArray, List.set_cons_zero, List.set_cons_succ]
    refine wpAnyH_ready (rs := [12]) (by kernel_rfl) (by simp) ?_
    refine AllReadyH.cons rfl (fun K hK => ?_) AllReadyH.nil
    refine step_append_t rfl (.tmp 32) (.tmp 39) rfl hHeld (R3.out) (Hf.out) (by rfl) (by rfl) (hl3.out) ?_
    intro vwk22 wk22 R4 gk22
    refine hK.out _ _ (gk22) (fun hHeld => ?_)
    clear hK K
    try simp only [List.getElem_toArray, List.getElem_cons_succ, List.getElem_cons_zero, Act.put, List.setIfInBounds_toArray, List.set_cons_zero, List.set_cons_succ]
    refine wpAnyH_take (i := 13) (v := ?_) rfl (by kernel_rfl) (by kernel_rfl) (by kernel_rfl) (fun _ _ _ h => h) (Or.inl ⟨by rfl, ?_⟩) hHeld ?_
    rotate_left
    · intro wq hSw
      replace hSw : Grew w1 wq := hSw
      go_simp
      try with_reducible rfl
    try simp only [List.getElem_toArray, List.getElem_cons_succ, List.getElem_cons_zero, Act.put, List.setIfInBounds_toArray, List.set_cons_zero, List.set_cons_succ]
    refine wpAnyH_done (by kernel_rfl) ?_ _
    try simp only [List.getElem_toArray, List.getElem_cons_succ, List.getElem_cons_zero, Act.put, List.setIfInBounds_toArray, List.set_cons_zero, List.set_cons_succ]
    have hc5 := hHeld
    clear hHeld
    have hB5 := hB1.grew hc5
    have y0 := hB5.cell 0
    have y1 := hB5.cell 1
    have y2 := hB5.cell 2
    have y3 := hB5.cell 3
    have y4 := hB5.cell 4
    have y5 := hB5.cell 5
    have y6 := hB5.cell 6
    have y7 := hB5.cell 7
    have y8 := hB5.cell 8
    have y9 := hB5.cell 9
    have em1 := EM1.out
    have em2 := EM2.out
    go_upto_region 7 with (refine wpList_append_b (W := w1) rfl (.tmp 41) (.tmp 48) rfl (hc5.alloc _) (R4.out.alloc _) ((Row.lit wk22 wk22.heap.size (Nat.le_refl _) #[.int .u8 f.ttl, .int .u8 f.pr, .int .u8 0, .int .u8 0] [f.ttl, f.pr, 0, 0] rfl (by unfold maxLen; simp) _ rfl 4 rfl).buf HO4.out) (by rfl) (by rfl) hl4.out ?_; intro v6 w6 R5 hc6 x6; clear x6)
    clear y0 y1 y2 y3 y4 y5 y6 y7 y8 y9 em1 em2
    replace R5 := Lib.hid (R5.out.grew ((Grew.refl w6).drew1))
    have hst := hc6.drew1
    refine wp_region_held_drew (S := fun w' => Grew w1 w') (by kernel_rfl) (by exact hst) (fun hHeld => ?_)
    replace hHeld : Grew w1 w6.drew := hHeld
    generalize w6.drew = wq23 at *
    refine wpAnyH_take (i := 0) (v := ?_) rfl (by kernel_rfl) (by kernel_rfl) (by kernel_rfl) (fun _ _ _ h => h) (Or.inl ⟨by rfl, ?_⟩) hHeld ?_
    rotate_left
    · intro wq hSw
      replace hSw : Grew w1 wq := hSw
      go_simp
      try with_reducible rfl
    try simp only [List.getElem_toArray, List.getElem_cons_succ, List.getElem_cons_zero, Act.put, List.setIfInBounds_toArray, List.set_cons_zero, List.set_cons_succ]
    refine wpAnyH_take (i := 1) (v := ?_) rfl (by kernel_rfl) (by kernel_rfl) (by kernel_rfl) (fun _ _ _ h => h) (Or.inl ⟨by rfl, ?_⟩) hHeld ?_
    rotate_left
    · intro wq hSw
      replace hSw : Grew w1 wq := hSw
      go_simp
      try with_reducible rfl
    try simp only [List.getElem_toArray, List.getElem_cons_succ, List.getElem_cons_zero, Act.put, List.setIfInBounds_toArray, List.set_cons_zero, List.set_cons_succ]
    refine wpAnyH_take (i := 2) (v := ?_) rfl (by kernel_rfl) (by kernel_rfl) (by kernel_rfl) (fun _ _ _ h => h) (Or.inl ⟨by rfl, ?_⟩) hHeld ?_
    rotate_left
    · intro wq hSw
      replace hSw : Grew w1 wq := hSw
      have y6 := (hB1.grew hSw).cell 6
      go_simp
      try with_reducible rfl
    try simp only [List.getElem_toArray, List.getElem_cons_succ, List.getElem_cons_zero, Act.put, List.setIfInBounds_toArray, List.set_cons_zero, List.set_cons_succ]
    refine wpAnyH_take (i := 3) (v := ?_) rfl (by kernel_rfl) (by kernel_rfl) (by kernel_rfl) (fun _ _ _ h => h) (Or.inl ⟨by rfl, ?_⟩) hHeld ?_
    rotate_left
    · intro wq hSw
      replace hSw : Grew w1 wq := hSw
      have ew := EW3.out
      go_simp
      try with_reducible rfl
    try simp only [List.getElem_toArray, List.getElem_cons_succ, List.getElem_cons_zero, Act.put, List.setIfInBounds_toArray, List.set_cons_zero, List.set_cons_succ]
    refine wpAnyH_take (i := 6) (v := ?_) rfl (by kernel_rfl) (by kernel_rfl) (by kernel_rfl) (fun _ _ _ h => h) (Or.inl ⟨by rfl, ?_⟩) hHeld ?_
    rotate_left
    · intro wq hSw
      replace hSw : Grew w1 wq := hSw
      go_simp
      try with_reducible rfl
    try simp only [List.getElem_toArray, List.getElem_cons_succ, List.getElem_cons_zero, Act.put, List.setIfInBounds_toArray, List.set_cons_zero, List.set_cons_succ]
    refine wpAnyH_take (i := 7) (v := ?_) rfl (by kernel_rfl) (by kernel_rfl) (by kernel_rfl) (fun _ _ _ h => h) (Or.inl ⟨by rfl, ?_⟩) hHeld ?_
    rotate_left
    · intro wq hSw
      replace hSw : Grew w1 wq := hSw
      have y7 := (hB1.grew hSw).cell 7
      go_simp
      try with_reducible rfl
    try simp only [List.getElem_toArray, List.getElem_cons_succ, List.getElem_cons_zero, Act.put, List.setIfInBounds_toArray, List.set_cons_zero, List.set_cons_succ]
    refine wpAnyH_take (i := 8) (v := ?_) rfl (by kernel_rfl) (by kernel_rfl) (by kernel_rfl) (fun _ _ _ h => h) (Or.inl ⟨by rfl, ?_⟩) hHeld ?_
    rotate_left
    · intro wq hSw
      replace hSw : Grew w1 wq := hSw
      have ew := EW4.out
      go_simp
      try with_reducible rfl
    try simp only [List.getElem_toArray, List.getElem_cons_succ, List.getElem_cons_zero, Act.put, List.setIfInBounds_toArray, List.set_cons_zero, List.set_cons_succ]
    refine wpAnyH_ready (rs := [4]) (by kernel_rfl) (by simp) ?_
    refine AllReadyH.cons rfl (fun K hK => ?_) AllReadyH.nil
    go_simp
    refine (refPutB_c (f.si) _ 4 true (by rfl) (by omega) hqs0 hqs1 wq23).mono ?_
    rintro e wk24 ⟨us, rfl, rr, Hs, gk24⟩
    clear rr
    replace Hs := Lib.hid Hs
    replace R5 := Lib.hid (R5.out.grew gk24)
    refine hK.out _ _ (hHeld.trans gk24) (fun hHeld => ?_)
    clear hK K
    try simp only [List.getElem_toArray, List.getElem_cons_succ, List.getElem_cons_zero, Act.put, List.setIfInBounds_toArray, List.set_cons_zero, List.set_cons_succ]
    refine wpAnyH_ready (rs := [5]) (by kernel_rfl) (by simp) ?_
    refine AllReadyH.cons rfl (fun K hK => ?_) AllReadyH.nil
    refine step_append_t rfl (.tmp 50) (.tmp 54) rfl hHeld (R5.out) (Hs.out) (by rfl) (by rfl) (hl5.out) ?_
    intro vwk25 wk25 R6 gk25
    refine hK.out _ _ (gk25) (fun hHeld => ?_)
    clear hK K
    try simp only [List.getElem_toArray, List.getElem_cons_succ, List.getElem_cons_zero, Act.put, List.setIfInBounds_toArray, List.set_cons_zero, List.set_cons_succ]
    refine wpAnyH_ready (rs := [9]) (by kernel_rfl) (by simp) ?_
    refine AllReadyH.cons rfl (fun K hK => ?_) AllReadyH.nil
    go_simp
    refine (refPutB_c (f.di) _ 4 true (by rfl) (by omega) hqd0 hqd1 wk25).mono ?_
    rintro e wk26 ⟨ud, rfl, rr, Hd, gk26⟩
    clear rr
    replace Hd := Lib.hid Hd
    replace R6 := Lib.hid (R6.out.grew gk26)
    refine hK.out _ _ (hHeld.trans gk26) (fun hHeld => ?_)
    clear hK K
    try simp only [List.getElem_toArray, List.getElem_cons_succ, List.getElem_cons_zero, Act.put, List.setIfInBounds_toArray, List.set_cons_zero, List.set_cons_succ]
    refine wpAnyH_ready (rs := [10]) (by kernel_rfl) (by simp) ?_
    refine AllReadyH.cons rfl (fun K hK => ?_) AllReadyH.nil
    refine step_append_t rfl (.tmp 55) (.tmp 59) rfl hHeld (R6.out) (Hd.out) (by rfl) (by rfl) (hl6.out) ?_
    intro vwk27 wk27 R7 gk27
    refine hK.out _ _ (gk27) (fun hHeld => ?_)
    clear hK K
    try simp only [List.getElem_toArray, List.getElem_cons_succ, List.getElem_cons_zero, Act.put, List.setIfInBounds_toArray, List.set_cons_zero, List.set_cons_succ]
    refine wpAnyH_take (i := 11) (v := ?_) rfl (by kernel_rfl) (by kernel_rfl) (by kernel_rfl) (fun _ _ _ h => h) (Or.inl ⟨by rfl, ?_⟩) hHeld ?_
    rotate_left
    · intro wq hSw
      replace hSw : Grew w1 wq := hSw
      go_simp
      try with_reducible rfl
    try simp only [List.getElem_toArray, List.getElem_cons_succ, List.getElem_cons_zero, Act.put, List.setIfInBounds_toArray, List.set_cons_zero, List.set_cons_succ]
    refine wpAnyH_done (by kernel_rfl) ?_ _
    try simp only [List.getElem_toArray, List.getElem_cons_succ, List.getElem_cons_zero, Act.put, List.setIfInBounds_toArray, List.set_cons_zero, List.set_cons_succ]
    have hc7 := hHeld
    clear hHeld
    have hB7 := hB1.grew hc7
    have y0 := hB7.cell 0
    have y1 := hB7.cell 1
    have y2 := hB7.cell 2
    have y3 := hB7.cell 3
    have y4 := hB7.cell 4
    have y5 := hB7.cell 5
    have y6 := hB7.cell 6
    have y7 := hB7.cell 7
    have y8 := hB7.cell 8
    have y9 := hB7.cell 9
    go_wp2_with (refine wpList_append_b (W := w1) rfl (.tmp 61) (.tmp 63) rfl hc7 R7.out (H1.out.grew (G1.trans hc7)) (by rfl) (by rfl) hl7.out ?_; intro v8 w8 R8 hc8 x8; clear x8)
    have hb8 := R8.out.buf HO8.out
    rw [HEQ.out] at hb8
    refine (refPatch_c 10 (by omega) (by omega) w8 hb8 (by rw [headP_len]; have := HLO.out; unfold hdN; omega)).mono ?_
    rintro e w9 ⟨u9, rfl, r9, g9⟩
    have hc9 := hc8.trans g9
    have R9 := Lib.hid (r9.low hc8.size)
    clear y0 y1 y2 y3 y4 y5 y6 y7 y8 y9 r9 hb8
    have hB9 := hB1.grew hc9
    have y0 := hB9.cell 0
    have y1 := hB9.cell 1
    have y2 := hB9.cell 2
    have y3 := hB9.cell 3
    have y4 := hB9.cell 4
    have y5 := hB9.cell 5
    have y6 := hB9.cell 6
    have y7 := hB9.cell 7
    have y8 := hB9.cell 8
    have y9 := hB9.cell 9
    go_wp2_with (refine wpList_append_b (W := w1) rfl (.tmp 66) (.tmp 68) rfl hc9 R9.out (H2.out.grew (G1.trans hc9)) (by rfl) (by rfl) HL9.out ?_; intro v10 w10 R10 hc10 x10; clear x10)
    go_ret2
    exact ⟨_, rfl, R10.out.buf HO10.out, G1.trans hc10⟩
theorem refPut17_c {v : Value} {f : PK} {w : World} (hv : Pk w v f) :
    Calls Tryd.prog 9 #[v] w fun e w' => ∃ u, e = .returned (.tuple #[u, .int .i64 (putPE f)]) ∧ Buf w' u (putPB f) ∧ Grew w w' := by
  have hv' := hv
  obtain ⟨p1, k1, p2, k2, rfl, b1, b2⟩ := hv'.shape
  unfold putPE putPB
  cases h : okP f
  · exact (refPutP_no h hv).mono fun _ _ ⟨h1, h2⟩ => ⟨_, h1, Buf.nil _, h2⟩
  · exact refPutP_yes h hv b1 b2
end Go.Proofs.YtalbdeifkbfnbaaDoor
