/-
  The statement SegBack: that a segment is there and back, and that one address with a bit turned finds its checksum wrong. For every segment and addresses. Conditions: none but those of the statement's row.
-/
import Derived.Test.YtiaejlbkdgcfiaaSgH
import Derived.Test.YtiaejlbkdgcfiaaSgW
import Derived.Test.YtiaejlbkdgcfiaaSgQ
import Derived.Test.YtiaejlbkdgcfiaaSgP
import Derived.Test.YtiaejlbkdgcfiaaLaw
set_option maxRecDepth 4000
set_option linter.unusedVariables false
set_option linter.unusedSimpArgs false
namespace Go.Proofs.Ytiaejlbkdgcfiaa.segBack
open Go.ChangeShapes Go.WideShapes Go.ChangeAt Go.RowKit

theorem walk_far (hD : HeadC) {f : SGR} {p1 : Option Addr} {k1 : Nat} (src dst : Int) {W : World} (h : (20000 : Int) < (f.x.length : Nat)) :
    Calls Try.prog 4 #[.agg #[.int .i64 f.s, .int .i64 f.d, .int .u32 f.q, .int .u32 f.a, .int .i64 f.fl, .int .i64 f.wn, .int .i64 f.m, .slice p1 f.x.length k1], .int .u32 src, .int .u32 dst] W fun e w' => e = .returned (.bool true) ∧ Below W.heap.size W w' := by
  go_enter Try.func4, Try.ntmps4
  go_upto_region 1 with fail
  have hB : Blk (W.alloc (.cells #[.int .i64 f.s, .int .i64 f.d, .int .u32 f.q, .int .u32 f.a, .int .i64 f.fl, .int .i64 f.wn, .int .i64 f.m, .slice p1 f.x.length k1] 25)) W.heap.size #[.int .i64 f.s, .int .i64 f.d, .int .u32 f.q, .int .u32 f.a, .int .i64 f.fl, .int .i64 f.wn, .int .i64 f.m, .slice p1 f.x.length k1] 25 := Blk.new _ _ _ _ rfl
  have g0 : Grew W (W.alloc (.cells #[.int .i64 f.s, .int .i64 f.d, .int .u32 f.q, .int .u32 f.a, .int .i64 f.fl, .int .i64 f.wn, .int .i64 f.m, .slice p1 f.x.length k1] 25)) := (Grew.refl _).alloc _
  generalize (W.alloc (.cells #[.int .i64 f.s, .int .i64 f.d, .int .u32 f.q, .int .u32 f.a, .int .i64 f.fl, .int .i64 f.wn, .int .i64 f.m, .slice p1 f.x.length k1] 25)) = w0 at *
  generalize hlB : W.heap.size = B at *
  have y0 := hB.cell 0
  have y1 := hB.cell 1
  have y2 := hB.cell 2
  have y3 := hB.cell 3
  have y4 := hB.cell 4
  have y5 := hB.cell 5
  have y6 := hB.cell 6
  have y7 := hB.cell 7
  go_wp2_with fail
  refine (hD (g0)).mono ?_
  rintro e wh ⟨rfl, gh⟩
  go_wp2_with fail
  go_ret
  exact ⟨rfl, gh⟩
set_option maxHeartbeats 1000000 in
theorem walk_no (hP : PutC) (hD : HeadC) {f : SGR} {p1 : Option Addr} {k1 : Nat} (src dst : Int) (hsr : 0 ≤ src ∧ src < 4294967296) (hdr : 0 ≤ dst ∧ dst < 4294967296) {W : World} (h1 : ¬ ((20000 : Int) < (f.x.length : Nat))) (hok : okSG f = false) (hF : Sg W (.agg #[.int .i64 f.s, .int .i64 f.d, .int .u32 f.q, .int .u32 f.a, .int .i64 f.fl, .int .i64 f.wn, .int .i64 f.m, .slice p1 f.x.length k1]) f) :
    Calls Try.prog 4 #[.agg #[.int .i64 f.s, .int .i64 f.d, .int .u32 f.q, .int .u32 f.a, .int .i64 f.fl, .int .i64 f.wn, .int .i64 f.m, .slice p1 f.x.length k1], .int .u32 src, .int .u32 dst] W fun e w' => e = .returned (.bool true) ∧ Below W.heap.size W w' := by
  have HFX := Lib.hid (show f.x.length ≤ 140737488355328 by omega)
  have HF0 := Lib.hid hF
  have HE := Lib.hid (show putSGE f = 2 by unfold putSGE; rw [hok]; rfl)
  have HP := Lib.hid (show putSGB f src dst = [] by unfold putSGB; rw [hok]; rfl)
  clear hF
  go_enter Try.func4, Try.ntmps4
  go_upto_region 1 with fail
  have hB : Blk (W.alloc (.cells #[.int .i64 f.s, .int .i64 f.d, .int .u32 f.q, .int .u32 f.a, .int .i64 f.fl, .int .i64 f.wn, .int .i64 f.m, .slice p1 f.x.length k1] 25)) W.heap.size #[.int .i64 f.s, .int .i64 f.d, .int .u32 f.q, .int .u32 f.a, .int .i64 f.fl, .int .i64 f.wn, .int .i64 f.m, .slice p1 f.x.length k1] 25 := Blk.new _ _ _ _ rfl
  have g0 : Grew W (W.alloc (.cells #[.int .i64 f.s, .int .i64 f.d, .int .u32 f.q, .int .u32 f.a, .int .i64 f.fl, .int .i64 f.wn, .int .i64 f.m, .slice p1 f.x.length k1] 25)) := (Grew.refl _).alloc _
  generalize (W.alloc (.cells #[.int .i64 f.s, .int .i64 f.d, .int .u32 f.q, .int .u32 f.a, .int .i64 f.fl, .int .i64 f.wn, .int .i64 f.m, .slice p1 f.x.length k1] 25)) = w0 at *
  generalize hlB : W.heap.size = B at *
  have HF := Lib.hid (HF0.out.grew g0)
  have y0 := hB.cell 0
  have y1 := hB.cell 1
  have y2 := hB.cell 2
  have y3 := hB.cell 3
  have y4 := hB.cell 4
  have y5 := hB.cell 5
  have y6 := hB.cell 6
  have y7 := hB.cell 7
  go_wp2_with fail
  refine (hP src dst hsr hdr HFX.out HF.out).mono ?_
  rintro e w1 ⟨ua, rfl, Ha, g1⟩
  rw [HE.out]
  rw [HP.out] at Ha
  obtain ⟨pa, ka, rfl, _, _⟩ := Ha.shape
  replace HF := Lib.hid (HF.out.grew g1)
  replace hB := hB.grew g1
  replace Ha := Lib.hid Ha
  have G1 := g0.trans g1
  clear g1
  clear y0 y1 y2 y3 y4 y5 y6 y7
  go_wp2_with fail
  refine (hD (G1)).mono ?_
  rintro e wh ⟨rfl, gh⟩
  go_wp2_with fail
  go_ret
  exact ⟨rfl, gh⟩
set_option maxHeartbeats 4000000 in
theorem walk_yes (hP : PutC) (hG : GetC) (hL : LessC) (hN : LenC) (hD : HeadC) {f : SGR} {p1 : Option Addr} {k1 : Nat} (src dst : Int) (hsr : 0 ≤ src ∧ src < 4294967296) (hdr : 0 ≤ dst ∧ dst < 4294967296) {W : World} (h1 : ¬ ((20000 : Int) < (f.x.length : Nat))) (hok : okSG f = true) (hF : Sg W (.agg #[.int .i64 f.s, .int .i64 f.d, .int .u32 f.q, .int .u32 f.a, .int .i64 f.fl, .int .i64 f.wn, .int .i64 f.m, .slice p1 f.x.length k1]) f) :
    Calls Try.prog 4 #[.agg #[.int .i64 f.s, .int .i64 f.d, .int .u32 f.q, .int .u32 f.a, .int .i64 f.fl, .int .i64 f.wn, .int .i64 f.m, .slice p1 f.x.length k1], .int .u32 src, .int .u32 dst] W fun e w' => e = .returned (.bool true) ∧ Below W.heap.size W w' := by
  obtain ⟨q1, r1, eq', hb1⟩ := hF.shape
  have hq := hF.q
  have ha := hF.a
  unfold u32I at hq ha
  have hgp := get_put19 hok hq ha hb1.ok src dst
  have hgo := get_other hok hb1.ok hsr dst
  have hxb := xor_u32 hsr
  have HXB := Lib.hid (show 0 ≤ bits .xor .u32 src 1 ∧ bits .xor .u32 src 1 < 4294967296 by rw [hxb]; split <;> omega)
  have ho := opSG_len f
  have HFX := Lib.hid (show f.x.length ≤ 140737488355328 by omega)
  have HE := Lib.hid (show putSGE f = 0 by unfold putSGE; rw [hok]; rfl)
  have HP := Lib.hid (show putSGB f src dst = putSG f src dst by unfold putSGB; rw [hok]; rfl)
  have HL3 := Lib.hid (show (putSG f src dst).length ≤ 140737488355328 by rw [putSG_len]; unfold slN; omega)
  have HG1 := Lib.hid hgp.1
  have HG2 := Lib.hid hgp.2
  have HG3 := Lib.hid hgo
  have HF0 := Lib.hid hF
  clear eq' hb1 hgp hgo hq ha hxb ho
  clear hF
  go_enter Try.func4, Try.ntmps4
  go_upto_region 1 with fail
  have hB : Blk (W.alloc (.cells #[.int .i64 f.s, .int .i64 f.d, .int .u32 f.q, .int .u32 f.a, .int .i64 f.fl, .int .i64 f.wn, .int .i64 f.m, .slice p1 f.x.length k1] 25)) W.heap.size #[.int .i64 f.s, .int .i64 f.d, .int .u32 f.q, .int .u32 f.a, .int .i64 f.fl, .int .i64 f.wn, .int .i64 f.m, .slice p1 f.x.length k1] 25 := Blk.new _ _ _ _ rfl
  have g0 : Grew W (W.alloc (.cells #[.int .i64 f.s, .int .i64 f.d, .int .u32 f.q, .int .u32 f.a, .int .i64 f.fl, .int .i64 f.wn, .int .i64 f.m, .slice p1 f.x.length k1] 25)) := (Grew.refl _).alloc _
  generalize (W.alloc (.cells #[.int .i64 f.s, .int .i64 f.d, .int .u32 f.q, .int .u32 f.a, .int .i64 f.fl, .int .i64 f.wn, .int .i64 f.m, .slice p1 f.x.length k1] 25)) = w0 at *
  generalize hlB : W.heap.size = B at *
  have HF := Lib.hid (HF0.out.grew g0)
  have y0 := hB.cell 0
  have y1 := hB.cell 1
  have y2 := hB.cell 2
  have y3 := hB.cell 3
  have y4 := hB.cell 4
  have y5 := hB.cell 5
  have y6 := hB.cell 6
  have y7 := hB.cell 7
  go_wp2_with fail
  refine (hP src dst hsr hdr HFX.out HF.out).mono ?_
  rintro e w1 ⟨ua, rfl, Ha, g1⟩
  rw [HE.out]
  rw [HP.out] at Ha
  obtain ⟨pa, ka, rfl, _, _⟩ := Ha.shape
  replace HF := Lib.hid (HF.out.grew g1)
  replace hB := hB.grew g1
  replace Ha := Lib.hid Ha
  have G1 := g0.trans g1
  clear g1
  clear y0 y1 y2 y3 y4 y5 y6 y7
  go_wp2_with fail
  refine (hG src dst hsr hdr HL3.out Ha.out).mono ?_
  rintro e w2 ⟨uv, rfl, Hv, g2⟩
  rw [HG1.out]
  rw [HG2.out] at Hv
  have Ev := Hv.shape
  obtain ⟨vp1, vk1, rfl, _⟩ := Ev
  replace HF := Lib.hid (HF.out.grew g2)
  replace Ha := Lib.hid (Ha.out.grew g2)
  replace hB := hB.grew g2
  replace Hv := Lib.hid Hv
  have G2 := G1.trans g2
  clear g2
  go_upto_region 7 with fail
  have g3 : Grew w2 (w2.alloc (.cells #[.int .i64 f.s, .int .i64 f.d, .int .u32 f.q, .int .u32 f.a, .int .i64 f.fl, .int .i64 f.wn, .int .i64 f.m, .slice vp1 f.x.length vk1] 25)) := (Grew.refl _).alloc _
  have hX9 : Blk (w2.alloc (.cells #[.int .i64 f.s, .int .i64 f.d, .int .u32 f.q, .int .u32 f.a, .int .i64 f.fl, .int .i64 f.wn, .int .i64 f.m, .slice vp1 f.x.length vk1] 25)) w2.heap.size #[.int .i64 f.s, .int .i64 f.d, .int .u32 f.q, .int .u32 f.a, .int .i64 f.fl, .int .i64 f.wn, .int .i64 f.m, .slice vp1 f.x.length vk1] 25 := Blk.new _ _ _ _ rfl
  replace HF := Lib.hid (HF.out.grew g3)
  replace Ha := Lib.hid (Ha.out.grew g3)
  replace Hv := Lib.hid (Hv.out.grew g3)
  replace hB := hB.grew g3
  have G3 := G2.trans g3
  clear g3
  generalize (w2.alloc (.cells #[.int .i64 f.s, .int .i64 f.d, .int .u32 f.q, .int .u32 f.a, .int .i64 f.fl, .int .i64 f.wn, .int .i64 f.m, .slice vp1 f.x.length vk1] 25)) = w3 at *
  generalize w2.heap.size = X9 at *
  go_wp2_with fail
  refine (hG (bits .xor .u32 src 1) dst HXB.out hdr HL3.out Ha.out).mono ?_
  rintro e w4 ⟨ut, rfl, Ht, g4⟩
  rw [HG3.out]
  have Et := Ht.shape
  obtain ⟨tp1, tk1, rfl, _⟩ := Et
  replace HF := Lib.hid (HF.out.grew g4)
  replace Ha := Lib.hid (Ha.out.grew g4)
  replace Hv := Lib.hid (Hv.out.grew g4)
  replace hB := hB.grew g4
  replace hX9 := hX9.grew g4
  replace Ht := Lib.hid Ht
  have G4 := G3.trans g4
  clear g4
  go_upto_region 8 with fail
  have g5 : Grew w4 (w4.alloc (.cells #[.int .i64 (getSG (putSG f src dst) (bits .xor .u32 src 1) dst).s, .int .i64 (getSG (putSG f src dst) (bits .xor .u32 src 1) dst).d, .int .u32 (getSG (putSG f src dst) (bits .xor .u32 src 1) dst).q, .int .u32 (getSG (putSG f src dst) (bits .xor .u32 src 1) dst).a, .int .i64 (getSG (putSG f src dst) (bits .xor .u32 src 1) dst).fl, .int .i64 (getSG (putSG f src dst) (bits .xor .u32 src 1) dst).wn, .int .i64 (getSG (putSG f src dst) (bits .xor .u32 src 1) dst).m, .slice tp1 (getSG (putSG f src dst) (bits .xor .u32 src 1) dst).x.length tk1] 25)) := (Grew.refl _).alloc _
  have hX11 : Blk (w4.alloc (.cells #[.int .i64 (getSG (putSG f src dst) (bits .xor .u32 src 1) dst).s, .int .i64 (getSG (putSG f src dst) (bits .xor .u32 src 1) dst).d, .int .u32 (getSG (putSG f src dst) (bits .xor .u32 src 1) dst).q, .int .u32 (getSG (putSG f src dst) (bits .xor .u32 src 1) dst).a, .int .i64 (getSG (putSG f src dst) (bits .xor .u32 src 1) dst).fl, .int .i64 (getSG (putSG f src dst) (bits .xor .u32 src 1) dst).wn, .int .i64 (getSG (putSG f src dst) (bits .xor .u32 src 1) dst).m, .slice tp1 (getSG (putSG f src dst) (bits .xor .u32 src 1) dst).x.length tk1] 25)) w4.heap.size #[.int .i64 (getSG (putSG f src dst) (bits .xor .u32 src 1) dst).s, .int .i64 (getSG (putSG f src dst) (bits .xor .u32 src 1) dst).d, .int .u32 (getSG (putSG f src dst) (bits .xor .u32 src 1) dst).q, .int .u32 (getSG (putSG f src dst) (bits .xor .u32 src 1) dst).a, .int .i64 (getSG (putSG f src dst) (bits .xor .u32 src 1) dst).fl, .int .i64 (getSG (putSG f src dst) (bits .xor .u32 src 1) dst).wn, .int .i64 (getSG (putSG f src dst) (bits .xor .u32 src 1) dst).m, .slice tp1 (getSG (putSG f src dst) (bits .xor .u32 src 1) dst).x.length tk1] 25 := Blk.new _ _ _ _ rfl
  replace HF := Lib.hid (HF.out.grew g5)
  replace Ha := Lib.hid (Ha.out.grew g5)
  replace Hv := Lib.hid (Hv.out.grew g5)
  replace Ht := Lib.hid (Ht.out.grew g5)
  replace hB := hB.grew g5
  replace hX9 := hX9.grew g5
  have G5 := G4.trans g5
  clear g5
  generalize (w4.alloc (.cells #[.int .i64 (getSG (putSG f src dst) (bits .xor .u32 src 1) dst).s, .int .i64 (getSG (putSG f src dst) (bits .xor .u32 src 1) dst).d, .int .u32 (getSG (putSG f src dst) (bits .xor .u32 src 1) dst).q, .int .u32 (getSG (putSG f src dst) (bits .xor .u32 src 1) dst).a, .int .i64 (getSG (putSG f src dst) (bits .xor .u32 src 1) dst).fl, .int .i64 (getSG (putSG f src dst) (bits .xor .u32 src 1) dst).wn, .int .i64 (getSG (putSG f src dst) (bits .xor .u32 src 1) dst).m, .slice tp1 (getSG (putSG f src dst) (bits .xor .u32 src 1) dst).x.length tk1] 25)) = w5 at *
  generalize w4.heap.size = X11 at *
  obtain ⟨v1v, v2v, evv, hvv⟩ := HF.out.shape
  simp only [sgV, Value.agg.injEq, Array.mk.injEq, List.cons.injEq, Value.slice.injEq, and_true, true_and] at evv
  obtain ⟨rfl, rfl⟩ := evv
  have HV1 := Lib.hid hvv
  clear hvv
  obtain ⟨v1t, v2t, evt, hvt⟩ := Hv.out.shape
  simp only [sgV, Value.agg.injEq, Array.mk.injEq, List.cons.injEq, Value.slice.injEq, and_true, true_and] at evt
  obtain ⟨rfl, rfl⟩ := evt
  have HW1 := Lib.hid hvt
  clear hvt
  clear h1
  have hst := (Grew.refl w5).drew1
  refine wp_region_held_drew (S := fun w' => Grew w5 w') (by kernel_rfl) (by exact hst) (fun hHeld => ?_)
  replace hHeld : Grew w5 w5.drew := hHeld
  generalize w5.drew = wq11 at *
  refine wpAnyH_take (i := 0) (v := ?_) rfl (by kernel_rfl) (by kernel_rfl) (by kernel_rfl) (fun _ _ _ h => h) (Or.inl ⟨by rfl, ?_⟩) hHeld ?_
  rotate_left
  · intro wq hSw
    replace hSw : Grew w5 wq := hSw
    go_simp
    try with_reducible rfl
  try simp only [List.getElem_toArray, List.getElem_cons_succ, List.getElem_cons_zero, Act.put, List.setIfInBounds_toArray, List.set_cons_zero, List.set_cons_succ]
  refine wpAnyH_take (i := 1) (v := ?_) rfl (by kernel_rfl) (by kernel_rfl) (by kernel_rfl) (fun _ _ _ h => h) (Or.inl ⟨by rfl, ?_⟩) hHeld ?_
  rotate_left
  · intro wq hSw
    replace hSw : Grew w5 wq := hSw
    go_simp
    try with_reducible rfl
  try simp only [List.getElem_toArray, List.getElem_cons_succ, List.getElem_cons_zero, Act.put, List.setIfInBounds_toArray, List.set_cons_zero, List.set_cons_succ]
  refine wpAnyH_take (i := 2) (v := ?_) rfl (by kernel_rfl) (by kernel_rfl) (by kernel_rfl) (fun _ _ _ h => h) (Or.inl ⟨by rfl, ?_⟩) hHeld ?_
  rotate_left
  · intro wq hSw
    replace hSw : Grew w5 wq := hSw
    go_simp
    try with_reducible rfl
  try simp only [List.getElem_toArray, List.getElem_cons_succ, List.getElem_cons_zero, Act.put, List.setIfInBounds_toArray, List.set_cons_zero, List.set_cons_succ]
  refine wpAnyH_take (i := 3) (v := ?_) rfl (by kernel_rfl) (by kernel_rfl) (by kernel_rfl) (fun _ _ _ h => h) (Or.inl ⟨by rfl, ?_⟩) hHeld ?_
  rotate_left
  · intro wq hSw
    replace hSw : Grew w5 wq := hSw
    have y0 := (hB.grew hSw).cell 0
    have y1 := (hB.grew hSw).cell 1
    have y2 := (hB.grew hSw).cell 2
    have y3 := (hB.grew hSw).cell 3
    have y4 := (hB.grew hSw).cell 4
    have y5 := (hB.grew hSw).cell 5
    have y6 := (hB.grew hSw).cell 6
    have y7 := (hB.grew hSw).cell 7
    go_simp
    try with_reducible rfl
  try simp only [List.getElem_toArray, List.getElem_cons_succ, List.getElem_cons_zero, Act.put, List.setIfInBounds_toArray, List.set_cons_zero, List.set_cons_succ]
  refine wpAnyH_take (i := 5) (v := ?_) rfl (by kernel_rfl) (by kernel_rfl) (by kernel_rfl) (fun _ _ _ h => h) (Or.inl ⟨by rfl, ?_⟩) hHeld ?_
  rotate_left
  · intro wq hSw
    replace hSw : Grew w5 wq := hSw
    have y0 := (hX9.grew hSw).cell 0
    have y1 := (hX9.grew hSw).cell 1
    have y2 := (hX9.grew hSw).cell 2
    have y3 := (hX9.grew hSw).cell 3
    have y4 := (hX9.grew hSw).cell 4
    have y5 := (hX9.grew hSw).cell 5
    have y6 := (hX9.grew hSw).cell 6
    have y7 := (hX9.grew hSw).cell 7
    go_simp
    try with_reducible rfl
  try simp only [List.getElem_toArray, List.getElem_cons_succ, List.getElem_cons_zero, Act.put, List.setIfInBounds_toArray, List.set_cons_zero, List.set_cons_succ]
  refine wpAnyH_ready (rs := [4]) (by kernel_rfl) (by simp) ?_
  refine AllReadyH.cons rfl (fun K hK => ?_) AllReadyH.nil
  go_simp
  refine (one_c (f := f)).mono ?_
  rintro e wk12 ⟨A1, T1, rfl, HA1, gk12⟩
  replace HA1 := Lib.hid HA1
  refine hK.out _ _ (hHeld.trans gk12) (fun hHeld => ?_)
  clear hK K
  try simp only [List.getElem_toArray, List.getElem_cons_succ, List.getElem_cons_zero, Act.put, List.setIfInBounds_toArray, List.set_cons_zero, List.set_cons_succ]
  refine wpAnyH_ready (rs := [6]) (by kernel_rfl) (by simp) ?_
  refine AllReadyH.cons rfl (fun K hK => ?_) AllReadyH.nil
  go_simp
  refine (one_c (f := f)).mono ?_
  rintro e wk13 ⟨B1, T2, rfl, HB1, gk13⟩
  replace HB1 := Lib.hid HB1
  replace HA1 := Lib.hid (HA1.out.grew gk13)
  refine hK.out _ _ (hHeld.trans gk13) (fun hHeld => ?_)
  clear hK K
  try simp only [List.getElem_toArray, List.getElem_cons_succ, List.getElem_cons_zero, Act.put, List.setIfInBounds_toArray, List.set_cons_zero, List.set_cons_succ]
  refine wpAnyH_ready (rs := [7]) (by kernel_rfl) (by simp) ?_
  refine AllReadyH.cons rfl (fun K hK => ?_) AllReadyH.nil
  go_simp
  refine (same19_c (f := f) HA1.out HB1.out (HV1.out.grew hHeld) (HW1.out.grew hHeld)).mono ?_
  rintro e wk14 ⟨rfl, gk14⟩
  replace HA1 := Lib.hid (HA1.out.grew gk14)
  replace HB1 := Lib.hid (HB1.out.grew gk14)
  refine hK.out _ _ (hHeld.trans gk14) (fun hHeld => ?_)
  clear hK K
  try simp only [List.getElem_toArray, List.getElem_cons_succ, List.getElem_cons_zero, Act.put, List.setIfInBounds_toArray, List.set_cons_zero, List.set_cons_succ]
  refine wpAnyH_take (i := 8) (v := ?_) rfl (by kernel_rfl) (by kernel_rfl) (by kernel_rfl) (fun _ _ _ h => h) (Or.inl ⟨by rfl, ?_⟩) hHeld ?_
  rotate_left
  · intro wq hSw
    replace hSw : Grew w5 wq := hSw
    go_simp
    try with_reducible rfl
  try simp only [List.getElem_toArray, List.getElem_cons_succ, List.getElem_cons_zero, Act.put, List.setIfInBounds_toArray, List.set_cons_zero, List.set_cons_succ]
  refine wpAnyH_take (i := 9) (v := ?_) rfl (by kernel_rfl) (by kernel_rfl) (by kernel_rfl) (fun _ _ _ h => h) (Or.inl ⟨by rfl, ?_⟩) hHeld ?_
  rotate_left
  · intro wq hSw
    replace hSw : Grew w5 wq := hSw
    go_simp
    try with_reducible rfl
  try simp only [List.getElem_toArray, List.getElem_cons_succ, List.getElem_cons_zero, Act.put, List.setIfInBounds_toArray, List.set_cons_zero, List.set_cons_succ]
  refine wpAnyH_take (i := 10) (v := ?_) rfl (by kernel_rfl) (by kernel_rfl) (by kernel_rfl) (fun _ _ _ h => h) (Or.inl ⟨by rfl, ?_⟩) hHeld ?_
  rotate_left
  · intro wq hSw
    replace hSw : Grew w5 wq := hSw
    go_simp
    try with_reducible rfl
  try simp only [List.getElem_toArray, List.getElem_cons_succ, List.getElem_cons_zero, Act.put, List.setIfInBounds_toArray, List.set_cons_zero, List.set_cons_succ]
  refine wpAnyH_take (i := 11) (v := ?_) rfl (by kernel_rfl) (by kernel_rfl) (by kernel_rfl) (fun _ _ _ h => h) (Or.inl ⟨by rfl, ?_⟩) hHeld ?_
  rotate_left
  · intro wq hSw
    replace hSw : Grew w5 wq := hSw
    go_simp
    try with_reducible rfl
  try simp only [List.getElem_toArray, List.getElem_cons_succ, List.getElem_cons_zero, Act.put, List.setIfInBounds_toArray, List.set_cons_zero, List.set_cons_succ]
  refine wpAnyH_take (i := 12) (v := ?_) rfl (by kernel_rfl) (by kernel_rfl) (by kernel_rfl) (fun _ _ _ h => h) (Or.inl ⟨by rfl, ?_⟩) hHeld ?_
  rotate_left
  · intro wq hSw
    replace hSw : Grew w5 wq := hSw
    go_simp
    try with_reducible rfl
  try simp only [List.getElem_toArray, List.getElem_cons_succ, List.getElem_cons_zero, Act.put, List.setIfInBounds_toArray, List.set_cons_zero, List.set_cons_succ]
  refine wpAnyH_take (i := 13) (v := ?_) rfl (by kernel_rfl) (by kernel_rfl) (by kernel_rfl) (fun _ _ _ h => h) (Or.inl ⟨by rfl, ?_⟩) hHeld ?_
  rotate_left
  · intro wq hSw
    replace hSw : Grew w5 wq := hSw
    go_simp
    try with_reducible rfl
  try simp only [List.getElem_toArray, List.getElem_cons_succ, List.getElem_cons_zero, Act.put, List.setIfInBounds_toArray, List.set_cons_zero, List.set_cons_succ]
  refine wpAnyH_ready (rs := [14]) (by kernel_rfl) (by simp) ?_
  refine AllReadyH.cons rfl (fun K hK => ?_) AllReadyH.nil
  go_simp
  refine (hD (Grew.refl wk14)).mono ?_
  rintro e wk15 ⟨rfl, gk15⟩
  replace HA1 := Lib.hid (HA1.out.grew gk15)
  replace HB1 := Lib.hid (HB1.out.grew gk15)
  refine hK.out _ _ (hHeld.trans gk15) (fun hHeld => ?_)
  clear hK K
  try simp only [List.getElem_toArray, List.getElem_cons_succ, List.getElem_cons_zero, Act.put, List.setIfInBounds_toArray, List.set_cons_zero, List.set_cons_succ]
  refine wpAnyH_take (i := 15) (v := ?_) rfl (by kernel_rfl) (by kernel_rfl) (by kernel_rfl) (fun _ _ _ h => h) (Or.inl ⟨by rfl, ?_⟩) hHeld ?_
  rotate_left
  · intro wq hSw
    replace hSw : Grew w5 wq := hSw
    go_simp
    try with_reducible rfl
  try simp only [List.getElem_toArray, List.getElem_cons_succ, List.getElem_cons_zero, Act.put, List.setIfInBounds_toArray, List.set_cons_zero, List.set_cons_succ]
  refine wpAnyH_take (i := 16) (v := ?_) rfl (by kernel_rfl) (by kernel_rfl) (by kernel_rfl) (fun _ _ _ h => h) (Or.inl ⟨by rfl, ?_⟩) hHeld ?_
  rotate_left
  · intro wq hSw
    replace hSw : Grew w5 wq := hSw
    go_simp
    try with_reducible rfl
  try simp only [List.getElem_toArray, List.getElem_cons_succ, List.getElem_cons_zero, Act.put, List.setIfInBounds_toArray, List.set_cons_zero, List.set_cons_succ]
  refine wpAnyH_done (by kernel_rfl) ?_ _
  try simp only [List.getElem_toArray, List.getElem_cons_succ, List.getElem_cons_zero, Act.put, List.setIfInBounds_toArray, List.set_cons_zero, List.set_cons_succ]
  go_wp2_with fail
  go_ret
  exact ⟨rfl, G5.trans hHeld⟩
theorem walk0 (hP : PutC) (hG : GetC) (hL : LessC) (hN : LenC) (hD : HeadC) (v : Value) (f : SGR) (src : Int) (hsr : 0 ≤ src ∧ src < 4294967296) (dst : Int) (hdr : 0 ≤ dst ∧ dst < 4294967296) {W : World} (hF : Sg W v f) (_ : f.x.length ≤ 140737488355328) :
    Calls Try.prog 4 #[v, .int .u32 src, .int .u32 dst] W fun e w' => e = .returned (.bool true) ∧ Below W.heap.size W w' := by
  have hF' := hF
  obtain ⟨p1, k1, rfl, _⟩ := hF'.shape
  by_cases h1 : (20000 : Int) < (f.x.length : Nat)
  · exact walk_far hD src dst h1
  · cases hok : okSG f
    · exact walk_no hP hD src dst hsr hdr h1 hok hF
    · exact walk_yes hP hG hL hN hD src dst hsr hdr h1 hok hF
theorem walk (v : Value) (f : SGR) (src : Int) (hsr : 0 ≤ src ∧ src < 4294967296) (dst : Int) (hdr : 0 ≤ dst ∧ dst < 4294967296) (W : World) (hF : Sg W v f) (hl : f.x.length ≤ 140737488355328) :
    Calls Try.prog 4 #[v, .int .u32 src, .int .u32 dst] W fun e w' => e = .returned (.bool true) ∧ Below W.heap.size W w' :=
  walk0 put19_c get19_c less19_c len19_c heads_c v f src hsr dst hdr hF hl
set_option maxRecDepth 100000 in
theorem lifted (os : Os) (started : os.Started) (H : Type) (enc : TypeId × Value → H) :
    ReturnsInHanded {} Try.checked os 4 .any (Rows.segBackSpec.pre6 enc Try.prog Try.f4 Rows.segBackRow.domain false) (Rows.segBackSpec.post enc Try.prog Try.f4 false true false false) := by
  refine returnsInHanded_of_change_sized (C := Try.checked) own started (by kernel_rfl) Try.func4
    (ChangeSpec.witness6 (enc := enc) (C := Try.checked) false ⟨#[], #[.agg #[.int .i64 0, .int .i64 0, .int .u32 0, .int .u32 0, .int .i64 0, .int .i64 0, .int .i64 0, .slice none 0 0], .int .u32 0, .int .u32 0], []⟩ 8 (by kernel_rfl) (by kernel_rfl) (by kernel_rfl) (by kernel_rfl)) ?_
  intro W base args ds gs before hval0 hW _ hz0 _
  have hval : ∀ (j : Nat) t v, Try.f4.params[j]? = some t → args[j]? = some v → Value.okWide Try.prog W .any base t v := hval0
  have hW' := hW
  obtain ⟨p, q, hA0, hV, rfl, hfz, hnd⟩ := hW
  have hA : DataW.TrodAll enc Try.prog W 0 (fun _ => true) true Try.f4.params.toList args.toList ds p := hA0
  rw [Try.params4] at hA hval
  obtain ⟨v0, vs0, d0, ds0, p0, q0, hargs, rfl, rfl, h0, r'0⟩ := trodAll_cons hA
  obtain ⟨v1, vs1, d1, ds1, p1, q1, rfl, rfl, rfl, h1, r'1⟩ := trodAll_cons r'0
  obtain ⟨v2, vs2, d2, ds2, p2, q2, rfl, rfl, rfl, h2, r'2⟩ := trodAll_cons r'1
  obtain ⟨rfl, rfl, rfl⟩ := trodAll_nil r'2
  obtain rfl : args = #[v0, v1, v2] := by cases args; simp_all
  obtain ⟨f0, k0, z0⟩ := open_seg (hval 0 25 v0 rfl rfl) h0
  have fits0 := z0 (fun m hm => by simpa using List.all_eq_true.1 hz0 _ (DataW.weights_mem_each (j := 0) (t := 25) rfl rfl m hm))
  obtain ⟨a1, rfl, rfl, rfl, w1⟩ := open_int Try.underlying22 (hval 1 22 v1 rfl rfl) h1
  obtain ⟨a2, rfl, rfl, rfl, w2⟩ := open_int Try.underlying22 (hval 2 22 v2 rfl rfl) h2
  refine (walk v0 f0 a1 (wf_u32 w1) a2 (wf_u32 w2) W k0 fits0).mono fun e W' ⟨he, hb⟩ => ?_
  subst he
  exact ⟨_, rfl, law_post hW' rfl rfl laid (by kernel_rfl) rfl Try.underlying4 hb⟩

theorem over : Rows.segBackRow.holds Try.pinned (OpenSpec.ofChange Rows.segBackSpec) :=
  OpenClaim.holds_of_wide 4 Try.f4 rfl rfl rfl rfl rfl rfl rfl ⟨rfl, rfl, rfl, rfl, rfl⟩ rfl rfl rfl rfl rfl (by kernel_rfl) Try.func4 (by kernel_rfl)
    (of_decide_eq_true (by kernel_rfl)) (by unfold Func.isWrapper; first | (rw [if_pos (by decide +kernel)]; kernel_rfl) | (rw [if_neg (by decide +kernel)]; exact ⟨rfl, rfl⟩))
    (fun os started H enc _ => lifted os started H enc)

theorem proved : Rows.SegBackSaid := over
#print axioms proved
end Go.Proofs.Ytiaejlbkdgcfiaa.segBack
