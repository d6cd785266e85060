/-
  The statement EtherAgain: that what is read is written as it was. For every bytes. Conditions: none but those of the statement's row (the package variables as the text lays them).
-/
import Derived.Test.YtolfaelalmmefaaDoorEtK
import Derived.Test.YtolfaelalmmefaaDoorEtL
import Derived.Test.YtolfaelalmmefaaDoorCards
import Derived.Test.YtolfaelalmmefaaDoorTie
import Derived.SevenTiedAt
set_option maxRecDepth 4000
set_option linter.unusedVariables false
set_option linter.unusedSimpArgs false
namespace Go.Proofs.YtolfaelalmmefaaDoor.etherAgain
open Go.ChangeShapes Go.WideShapes Go.ChangeAt Go.RowKit

theorem walk_far (a : Option Addr) (n c : Nat) {W : World} {a0 a1 a2 : Addr} (sn : Sen W a0 a1 a2) (h1 : (3000 : Int) < (n : Nat)) :
    Calls Tryd.prog 3 #[.slice a n c] W fun e w' => e = .returned (.bool true) ∧ Below W.heap.size W w' := by
  go_enter Tryd.func3, Tryd.ntmps3
  have g0 := Grew.refl W
  go_wp2_with fail
  refine (heads_c (g0) (sn.grew (g0))).mono ?_
  rintro e wh ⟨rfl, gh⟩
  go_wp2_with fail
  go_ret
  exact ⟨rfl, gh⟩
set_option maxHeartbeats 4000000 in
theorem walk_00 (a : Option Addr) (n c : Nat) (xs : List Int) {W : World} {a0 a1 a2 : Addr} (sn : Sen W a0 a1 a2) (h1 : ¬ ((3000 : Int) < (n : Nat))) (he1 : getFE xs ≠ 0) (he2 : getAE xs ≠ 0) (hb : Buf W (.slice a n c) xs) :
    Calls Tryd.prog 3 #[.slice a n c] W fun e w' => e = .returned (.bool true) ∧ Below W.heap.size W w' := by
  have HX := Lib.hid hb
  have HOK := Lib.hid hb.ok
  have hn := hb.lenEq.1
  have HN := Lib.hid hn
  have HE1 := Lib.hid he1
  have HE2 := Lib.hid he2
  clear hb hn
  have g0 := Grew.refl W
  go_enter Tryd.func3, Tryd.ntmps3
  go_upto_region 3 with fail
  go_wp2_with fail
  refine (Get_c (sn.grew g0) HX.out).mono ?_
  rintro e w1 ⟨uv, rfl, Hv, g1⟩
  obtain ⟨q1, hq1⟩ : ∃ q1, q1 = getFE xs := ⟨_, rfl⟩
  rw [← hq1]
  have hz1 : (q1 == 0) = false := by rw [hq1]; simpa using HE1.out
  clear hq1
  have Ev := Hv.shape
  obtain ⟨vp1, vk1, vp2, vk2, vp3, vk3, rfl, _, _, _⟩ := Ev
  replace HX := Lib.hid (HX.out.grew g1)
  replace Hv := Lib.hid Hv
  have G1 := g0.trans g1
  clear g1
  go_upto_region 4 with fail
  have g2 : Grew w1 (w1.alloc (.cells #[.slice vp1 (getF xs).d.length vk1, .slice vp2 (getF xs).s.length vk2, .int .i64 (getF xs).t, .slice vp3 (getF xs).x.length vk3] 25)) := (Grew.refl _).alloc _
  have hX3 : Blk (w1.alloc (.cells #[.slice vp1 (getF xs).d.length vk1, .slice vp2 (getF xs).s.length vk2, .int .i64 (getF xs).t, .slice vp3 (getF xs).x.length vk3] 25)) w1.heap.size #[.slice vp1 (getF xs).d.length vk1, .slice vp2 (getF xs).s.length vk2, .int .i64 (getF xs).t, .slice vp3 (getF xs).x.length vk3] 25 := Blk.new _ _ _ _ rfl
  replace HX := Lib.hid (HX.out.grew g2)
  replace Hv := Lib.hid (Hv.out.grew g2)
  have G2 := G1.trans g2
  clear g2
  generalize (w1.alloc (.cells #[.slice vp1 (getF xs).d.length vk1, .slice vp2 (getF xs).s.length vk2, .int .i64 (getF xs).t, .slice vp3 (getF xs).x.length vk3] 25)) = w2 at *
  generalize w1.heap.size = X3 at *
  go_wp2_with fail
  refine (GetArp_c (sn.grew G2) HX.out).mono ?_
  rintro e w3 ⟨uw, rfl, Hw, g3⟩
  obtain ⟨q2, hq2⟩ : ∃ q2, q2 = getAE xs := ⟨_, rfl⟩
  rw [← hq2]
  have hz2 : (q2 == 0) = false := by rw [hq2]; simpa using HE2.out
  clear hq2
  have Ew := Hw.shape
  obtain ⟨wp1, wk1, wp2, wk2, rfl, _, _⟩ := Ew
  replace HX := Lib.hid (HX.out.grew g3)
  replace Hv := Lib.hid (Hv.out.grew g3)
  replace hX3 := hX3.grew g3
  replace Hw := Lib.hid Hw
  have G3 := G2.trans g3
  clear g3
  go_upto_region 9 with fail
  have g4 : Grew w3 (w3.alloc (.cells #[.int .i64 (getA xs).op, .slice wp1 (getA xs).sm.length wk1, .int .u32 (getA xs).si, .slice wp2 (getA xs).tm.length wk2, .int .u32 (getA xs).ti] 34)) := (Grew.refl _).alloc _
  have hX7 : Blk (w3.alloc (.cells #[.int .i64 (getA xs).op, .slice wp1 (getA xs).sm.length wk1, .int .u32 (getA xs).si, .slice wp2 (getA xs).tm.length wk2, .int .u32 (getA xs).ti] 34)) w3.heap.size #[.int .i64 (getA xs).op, .slice wp1 (getA xs).sm.length wk1, .int .u32 (getA xs).si, .slice wp2 (getA xs).tm.length wk2, .int .u32 (getA xs).ti] 34 := Blk.new _ _ _ _ rfl
  replace HX := Lib.hid (HX.out.grew g4)
  replace Hv := Lib.hid (Hv.out.grew g4)
  replace Hw := Lib.hid (Hw.out.grew g4)
  replace hX3 := hX3.grew g4
  have G4 := G3.trans g4
  clear g4
  generalize (w3.alloc (.cells #[.int .i64 (getA xs).op, .slice wp1 (getA xs).sm.length wk1, .int .u32 (getA xs).si, .slice wp2 (getA xs).tm.length wk2, .int .u32 (getA xs).ti] 34)) = w4 at *
  generalize w3.heap.size = X7 at *
  go_wp2_with fail
  refine (heads_c (G4) (sn.grew (G4))).mono ?_
  rintro e wh ⟨rfl, gh⟩
  go_wp2_with fail
  go_ret
  exact ⟨rfl, gh⟩
set_option maxHeartbeats 4000000 in
theorem walk_01 (a : Option Addr) (n c : Nat) (xs : List Int) {W : World} {a0 a1 a2 : Addr} (sn : Sen W a0 a1 a2) (h1 : ¬ ((3000 : Int) < (n : Nat))) (he1 : getFE xs ≠ 0) (he2 : getAE xs = 0) (hb : Buf W (.slice a n c) xs) :
    Calls Tryd.prog 3 #[.slice a n c] W fun e w' => e = .returned (.bool true) ∧ Below W.heap.size W w' := by
  have HX := Lib.hid hb
  have HOK := Lib.hid hb.ok
  have hn := hb.lenEq.1
  have HN := Lib.hid hn
  have HE1 := Lib.hid he1
  have HE2 := Lib.hid he2
  have hf := putA_getA hb.ok he2
  have h28 : ¬ ((n : Int) < 28) := by omega
  have HF3 := Lib.hid (show putAE (getA xs) = 0 by unfold putAE; rw [hf.2.1]; rfl)
  have HF4 := Lib.hid (show putAB (getA xs) = cutL xs 0 28 by unfold putAB; rw [hf.2.1, if_pos rfl, hf.2.2])
  have HL28 := Lib.hid (cutL_length (xs := xs) (lo := 0) (hi := 28) (by omega) (by omega))
  obtain ⟨a6, c6, H6, x1, x2, x3, x4⟩ := hb.run_cut (lo := 0) (hi := 28) (by omega) (by omega)
  have r6 : ∀ w', (Instr.sliceAt 22 (.slice a n c) none (some (.int .i64 28)) none).run Tryd.prog w' = .ok (.slice a6 28 c6) w' := x3 rfl .i64
  replace H6 : Hid (Buf W (.slice a6 28 c6) (cutL xs 0 28)) := Lib.hid H6
  clear x1 x2 x3 x4 hf
  clear hb hn
  have g0 := Grew.refl W
  go_enter Tryd.func3, Tryd.ntmps3
  go_upto_region 3 with fail
  go_wp2_with fail
  refine (Get_c (sn.grew g0) HX.out).mono ?_
  rintro e w1 ⟨uv, rfl, Hv, g1⟩
  obtain ⟨q1, hq1⟩ : ∃ q1, q1 = getFE xs := ⟨_, rfl⟩
  rw [← hq1]
  have hz1 : (q1 == 0) = false := by rw [hq1]; simpa using HE1.out
  clear hq1
  have Ev := Hv.shape
  obtain ⟨vp1, vk1, vp2, vk2, vp3, vk3, rfl, _, _, _⟩ := Ev
  replace HX := Lib.hid (HX.out.grew g1)
  replace Hv := Lib.hid Hv
  have G1 := g0.trans g1
  clear g1
  go_upto_region 4 with fail
  have g2 : Grew w1 (w1.alloc (.cells #[.slice vp1 (getF xs).d.length vk1, .slice vp2 (getF xs).s.length vk2, .int .i64 (getF xs).t, .slice vp3 (getF xs).x.length vk3] 25)) := (Grew.refl _).alloc _
  have hX3 : Blk (w1.alloc (.cells #[.slice vp1 (getF xs).d.length vk1, .slice vp2 (getF xs).s.length vk2, .int .i64 (getF xs).t, .slice vp3 (getF xs).x.length vk3] 25)) w1.heap.size #[.slice vp1 (getF xs).d.length vk1, .slice vp2 (getF xs).s.length vk2, .int .i64 (getF xs).t, .slice vp3 (getF xs).x.length vk3] 25 := Blk.new _ _ _ _ rfl
  replace HX := Lib.hid (HX.out.grew g2)
  replace Hv := Lib.hid (Hv.out.grew g2)
  have G2 := G1.trans g2
  clear g2
  generalize (w1.alloc (.cells #[.slice vp1 (getF xs).d.length vk1, .slice vp2 (getF xs).s.length vk2, .int .i64 (getF xs).t, .slice vp3 (getF xs).x.length vk3] 25)) = w2 at *
  generalize w1.heap.size = X3 at *
  go_wp2_with fail
  refine (GetArp_c (sn.grew G2) HX.out).mono ?_
  rintro e w3 ⟨uw, rfl, Hw, g3⟩
  rw [HE2.out]
  have Ew := Hw.shape
  obtain ⟨wp1, wk1, wp2, wk2, rfl, _, _⟩ := Ew
  replace HX := Lib.hid (HX.out.grew g3)
  replace Hv := Lib.hid (Hv.out.grew g3)
  replace hX3 := hX3.grew g3
  replace Hw := Lib.hid Hw
  have G3 := G2.trans g3
  clear g3
  go_upto_region 9 with fail
  have g4 : Grew w3 (w3.alloc (.cells #[.int .i64 (getA xs).op, .slice wp1 (getA xs).sm.length wk1, .int .u32 (getA xs).si, .slice wp2 (getA xs).tm.length wk2, .int .u32 (getA xs).ti] 34)) := (Grew.refl _).alloc _
  have hX7 : Blk (w3.alloc (.cells #[.int .i64 (getA xs).op, .slice wp1 (getA xs).sm.length wk1, .int .u32 (getA xs).si, .slice wp2 (getA xs).tm.length wk2, .int .u32 (getA xs).ti] 34)) w3.heap.size #[.int .i64 (getA xs).op, .slice wp1 (getA xs).sm.length wk1, .int .u32 (getA xs).si, .slice wp2 (getA xs).tm.length wk2, .int .u32 (getA xs).ti] 34 := Blk.new _ _ _ _ rfl
  replace HX := Lib.hid (HX.out.grew g4)
  replace Hv := Lib.hid (Hv.out.grew g4)
  replace Hw := Lib.hid (Hw.out.grew g4)
  replace hX3 := hX3.grew g4
  have G4 := G3.trans g4
  clear g4
  generalize (w3.alloc (.cells #[.int .i64 (getA xs).op, .slice wp1 (getA xs).sm.length wk1, .int .u32 (getA xs).si, .slice wp2 (getA xs).tm.length wk2, .int .u32 (getA xs).ti] 34)) = w4 at *
  generalize w3.heap.size = X7 at *
  have y0 := hX7.cell 0
  have y1 := hX7.cell 1
  have y2 := hX7.cell 2
  have y3 := hX7.cell 3
  have y4 := hX7.cell 4
  go_wp2_with fail
  refine (PutArp_c Hw.out).mono ?_
  rintro e w5 ⟨ub, rfl, Hb, g5⟩
  rw [HF3.out]
  rw [HF4.out] at Hb
  obtain ⟨pb, kb, rfl, _, _⟩ := Hb.shape
  replace HX := Lib.hid (HX.out.grew g5)
  replace Hv := Lib.hid (Hv.out.grew g5)
  replace Hw := Lib.hid (Hw.out.grew g5)
  replace hX3 := hX3.grew g5
  replace hX7 := hX7.grew g5
  replace Hb := Lib.hid Hb
  have G5 := G4.trans g5
  clear g5
  clear y0 y1 y2 y3 y4
  have hsn := sameB_c w5 Hb.out (H6.out.grew G5)
  rw [decide_eq_true rfl, HL28.out] at hsn
  rw [HL28.out]
  have HS2 := Lib.hid hsn
  clear hsn
  go_wp2_with fail
  refine HS2.out.mono ?_
  rintro e wj ⟨rfl, hj⟩
  obtain rfl := hj.symm
  go_wp2_with fail
  refine (heads_c (G5) (sn.grew (G5))).mono ?_
  rintro e wh ⟨rfl, gh⟩
  go_wp2_with fail
  go_ret
  exact ⟨rfl, gh⟩
set_option maxHeartbeats 4000000 in
theorem walk_10 (a : Option Addr) (n c : Nat) (xs : List Int) {W : World} {a0 a1 a2 : Addr} (sn : Sen W a0 a1 a2) (h1 : ¬ ((3000 : Int) < (n : Nat))) (he1 : getFE xs = 0) (he2 : getAE xs ≠ 0) (hb : Buf W (.slice a n c) xs) :
    Calls Tryd.prog 3 #[.slice a n c] W fun e w' => e = .returned (.bool true) ∧ Below W.heap.size W w' := by
  have HX := Lib.hid hb
  have HOK := Lib.hid hb.ok
  have hn := hb.lenEq.1
  have HN := Lib.hid hn
  have HE1 := Lib.hid he1
  have HE2 := Lib.hid he2
  have hf := putF_getF hb.ok he1
  have HF1 := Lib.hid (show putFE (getF xs) = 0 by unfold putFE; rw [hf.1]; rfl)
  have HF2 := Lib.hid (show putFB (getF xs) = xs by unfold putFB; rw [hf.1, if_pos rfl, hf.2])
  clear hf
  clear hb hn
  have g0 := Grew.refl W
  go_enter Tryd.func3, Tryd.ntmps3
  go_upto_region 3 with fail
  go_wp2_with fail
  refine (Get_c (sn.grew g0) HX.out).mono ?_
  rintro e w1 ⟨uv, rfl, Hv, g1⟩
  rw [HE1.out]
  have Ev := Hv.shape
  obtain ⟨vp1, vk1, vp2, vk2, vp3, vk3, rfl, _, _, _⟩ := Ev
  replace HX := Lib.hid (HX.out.grew g1)
  replace Hv := Lib.hid Hv
  have G1 := g0.trans g1
  clear g1
  go_upto_region 4 with fail
  have g2 : Grew w1 (w1.alloc (.cells #[.slice vp1 (getF xs).d.length vk1, .slice vp2 (getF xs).s.length vk2, .int .i64 (getF xs).t, .slice vp3 (getF xs).x.length vk3] 25)) := (Grew.refl _).alloc _
  have hX3 : Blk (w1.alloc (.cells #[.slice vp1 (getF xs).d.length vk1, .slice vp2 (getF xs).s.length vk2, .int .i64 (getF xs).t, .slice vp3 (getF xs).x.length vk3] 25)) w1.heap.size #[.slice vp1 (getF xs).d.length vk1, .slice vp2 (getF xs).s.length vk2, .int .i64 (getF xs).t, .slice vp3 (getF xs).x.length vk3] 25 := Blk.new _ _ _ _ rfl
  replace HX := Lib.hid (HX.out.grew g2)
  replace Hv := Lib.hid (Hv.out.grew g2)
  have G2 := G1.trans g2
  clear g2
  generalize (w1.alloc (.cells #[.slice vp1 (getF xs).d.length vk1, .slice vp2 (getF xs).s.length vk2, .int .i64 (getF xs).t, .slice vp3 (getF xs).x.length vk3] 25)) = w2 at *
  generalize w1.heap.size = X3 at *
  have y0 := hX3.cell 0
  have y1 := hX3.cell 1
  have y2 := hX3.cell 2
  have y3 := hX3.cell 3
  go_wp2_with fail
  refine (Put_c Hv.out).mono ?_
  rintro e w3 ⟨ua, rfl, Ha, g3⟩
  rw [HF1.out]
  rw [HF2.out] at Ha
  obtain ⟨pa, ka, rfl, _, _⟩ := Ha.shape
  replace HX := Lib.hid (HX.out.grew g3)
  replace Hv := Lib.hid (Hv.out.grew g3)
  replace hX3 := hX3.grew g3
  replace Ha := Lib.hid Ha
  have G3 := G2.trans g3
  clear g3
  clear y0 y1 y2 y3
  have hsm := sameB_c w3 Ha.out HX.out
  rw [decide_eq_true rfl, ← HN.out] at hsm
  rw [← HN.out]
  have HS := Lib.hid hsm
  clear hsm
  go_wp2_with fail
  refine HS.out.mono ?_
  rintro e wi ⟨rfl, hi⟩
  obtain rfl := hi.symm
  go_wp2_with fail
  refine (GetArp_c (sn.grew G3) HX.out).mono ?_
  rintro e w4 ⟨uw, rfl, Hw, g4⟩
  obtain ⟨q2, hq2⟩ : ∃ q2, q2 = getAE xs := ⟨_, rfl⟩
  rw [← hq2]
  have hz2 : (q2 == 0) = false := by rw [hq2]; simpa using HE2.out
  clear hq2
  have Ew := Hw.shape
  obtain ⟨wp1, wk1, wp2, wk2, rfl, _, _⟩ := Ew
  replace HX := Lib.hid (HX.out.grew g4)
  replace Hv := Lib.hid (Hv.out.grew g4)
  replace Ha := Lib.hid (Ha.out.grew g4)
  replace hX3 := hX3.grew g4
  replace Hw := Lib.hid Hw
  have G4 := G3.trans g4
  clear g4
  go_upto_region 9 with fail
  have g5 : Grew w4 (w4.alloc (.cells #[.int .i64 (getA xs).op, .slice wp1 (getA xs).sm.length wk1, .int .u32 (getA xs).si, .slice wp2 (getA xs).tm.length wk2, .int .u32 (getA xs).ti] 34)) := (Grew.refl _).alloc _
  have hX7 : Blk (w4.alloc (.cells #[.int .i64 (getA xs).op, .slice wp1 (getA xs).sm.length wk1, .int .u32 (getA xs).si, .slice wp2 (getA xs).tm.length wk2, .int .u32 (getA xs).ti] 34)) w4.heap.size #[.int .i64 (getA xs).op, .slice wp1 (getA xs).sm.length wk1, .int .u32 (getA xs).si, .slice wp2 (getA xs).tm.length wk2, .int .u32 (getA xs).ti] 34 := Blk.new _ _ _ _ rfl
  replace HX := Lib.hid (HX.out.grew g5)
  replace Hv := Lib.hid (Hv.out.grew g5)
  replace Ha := Lib.hid (Ha.out.grew g5)
  replace Hw := Lib.hid (Hw.out.grew g5)
  replace hX3 := hX3.grew g5
  have G5 := G4.trans g5
  clear g5
  generalize (w4.alloc (.cells #[.int .i64 (getA xs).op, .slice wp1 (getA xs).sm.length wk1, .int .u32 (getA xs).si, .slice wp2 (getA xs).tm.length wk2, .int .u32 (getA xs).ti] 34)) = w5 at *
  generalize w4.heap.size = X7 at *
  go_wp2_with fail
  refine (heads_c (G5) (sn.grew (G5))).mono ?_
  rintro e wh ⟨rfl, gh⟩
  go_wp2_with fail
  go_ret
  exact ⟨rfl, gh⟩
set_option maxHeartbeats 4000000 in
theorem walk_11 (a : Option Addr) (n c : Nat) (xs : List Int) {W : World} {a0 a1 a2 : Addr} (sn : Sen W a0 a1 a2) (h1 : ¬ ((3000 : Int) < (n : Nat))) (he1 : getFE xs = 0) (he2 : getAE xs = 0) (hb : Buf W (.slice a n c) xs) :
    Calls Tryd.prog 3 #[.slice a n c] W fun e w' => e = .returned (.bool true) ∧ Below W.heap.size W w' := by
  have HX := Lib.hid hb
  have HOK := Lib.hid hb.ok
  have hn := hb.lenEq.1
  have HN := Lib.hid hn
  have HE1 := Lib.hid he1
  have HE2 := Lib.hid he2
  have hf := putF_getF hb.ok he1
  have HF1 := Lib.hid (show putFE (getF xs) = 0 by unfold putFE; rw [hf.1]; rfl)
  have HF2 := Lib.hid (show putFB (getF xs) = xs by unfold putFB; rw [hf.1, if_pos rfl, hf.2])
  clear hf
  have hf := putA_getA hb.ok he2
  have h28 : ¬ ((n : Int) < 28) := by omega
  have HF3 := Lib.hid (show putAE (getA xs) = 0 by unfold putAE; rw [hf.2.1]; rfl)
  have HF4 := Lib.hid (show putAB (getA xs) = cutL xs 0 28 by unfold putAB; rw [hf.2.1, if_pos rfl, hf.2.2])
  have HL28 := Lib.hid (cutL_length (xs := xs) (lo := 0) (hi := 28) (by omega) (by omega))
  obtain ⟨a6, c6, H6, x1, x2, x3, x4⟩ := hb.run_cut (lo := 0) (hi := 28) (by omega) (by omega)
  have r6 : ∀ w', (Instr.sliceAt 22 (.slice a n c) none (some (.int .i64 28)) none).run Tryd.prog w' = .ok (.slice a6 28 c6) w' := x3 rfl .i64
  replace H6 : Hid (Buf W (.slice a6 28 c6) (cutL xs 0 28)) := Lib.hid H6
  clear x1 x2 x3 x4 hf
  clear hb hn
  have g0 := Grew.refl W
  go_enter Tryd.func3, Tryd.ntmps3
  go_upto_region 3 with fail
  go_wp2_with fail
  refine (Get_c (sn.grew g0) HX.out).mono ?_
  rintro e w1 ⟨uv, rfl, Hv, g1⟩
  rw [HE1.out]
  have Ev := Hv.shape
  obtain ⟨vp1, vk1, vp2, vk2, vp3, vk3, rfl, _, _, _⟩ := Ev
  replace HX := Lib.hid (HX.out.grew g1)
  replace Hv := Lib.hid Hv
  have G1 := g0.trans g1
  clear g1
  go_upto_region 4 with fail
  have g2 : Grew w1 (w1.alloc (.cells #[.slice vp1 (getF xs).d.length vk1, .slice vp2 (getF xs).s.length vk2, .int .i64 (getF xs).t, .slice vp3 (getF xs).x.length vk3] 25)) := (Grew.refl _).alloc _
  have hX3 : Blk (w1.alloc (.cells #[.slice vp1 (getF xs).d.length vk1, .slice vp2 (getF xs).s.length vk2, .int .i64 (getF xs).t, .slice vp3 (getF xs).x.length vk3] 25)) w1.heap.size #[.slice vp1 (getF xs).d.length vk1, .slice vp2 (getF xs).s.length vk2, .int .i64 (getF xs).t, .slice vp3 (getF xs).x.length vk3] 25 := Blk.new _ _ _ _ rfl
  replace HX := Lib.hid (HX.out.grew g2)
  replace Hv := Lib.hid (Hv.out.grew g2)
  have G2 := G1.trans g2
  clear g2
  generalize (w1.alloc (.cells #[.slice vp1 (getF xs).d.length vk1, .slice vp2 (getF xs).s.length vk2, .int .i64 (getF xs).t, .slice vp3 (getF xs).x.length vk3] 25)) = w2 at *
  generalize w1.heap.size = X3 at *
  have y0 := hX3.cell 0
  have y1 := hX3.cell 1
  have y2 := hX3.cell 2
  have y3 := hX3.cell 3
  go_wp2_with fail
  refine (Put_c Hv.out).mono ?_
  rintro e w3 ⟨ua, rfl, Ha, g3⟩
  rw [HF1.out]
  rw [HF2.out] at Ha
  obtain ⟨pa, ka, rfl, _, _⟩ := Ha.shape
  replace HX := Lib.hid (HX.out.grew g3)
  replace Hv := Lib.hid (Hv.out.grew g3)
  replace hX3 := hX3.grew g3
  replace Ha := Lib.hid Ha
  have G3 := G2.trans g3
  clear g3
  clear y0 y1 y2 y3
  have hsm := sameB_c w3 Ha.out HX.out
  rw [decide_eq_true rfl, ← HN.out] at hsm
  rw [← HN.out]
  have HS := Lib.hid hsm
  clear hsm
  go_wp2_with fail
  refine HS.out.mono ?_
  rintro e wi ⟨rfl, hi⟩
  obtain rfl := hi.symm
  go_wp2_with fail
  refine (GetArp_c (sn.grew G3) HX.out).mono ?_
  rintro e w4 ⟨uw, rfl, Hw, g4⟩
  rw [HE2.out]
  have Ew := Hw.shape
  obtain ⟨wp1, wk1, wp2, wk2, rfl, _, _⟩ := Ew
  replace HX := Lib.hid (HX.out.grew g4)
  replace Hv := Lib.hid (Hv.out.grew g4)
  replace Ha := Lib.hid (Ha.out.grew g4)
  replace hX3 := hX3.grew g4
  replace Hw := Lib.hid Hw
  have G4 := G3.trans g4
  clear g4
  go_upto_region 9 with fail
  have g5 : Grew w4 (w4.alloc (.cells #[.int .i64 (getA xs).op, .slice wp1 (getA xs).sm.length wk1, .int .u32 (getA xs).si, .slice wp2 (getA xs).tm.length wk2, .int .u32 (getA xs).ti] 34)) := (Grew.refl _).alloc _
  have hX7 : Blk (w4.alloc (.cells #[.int .i64 (getA xs).op, .slice wp1 (getA xs).sm.length wk1, .int .u32 (getA xs).si, .slice wp2 (getA xs).tm.length wk2, .int .u32 (getA xs).ti] 34)) w4.heap.size #[.int .i64 (getA xs).op, .slice wp1 (getA xs).sm.length wk1, .int .u32 (getA xs).si, .slice wp2 (getA xs).tm.length wk2, .int .u32 (getA xs).ti] 34 := Blk.new _ _ _ _ rfl
  replace HX := Lib.hid (HX.out.grew g5)
  replace Hv := Lib.hid (Hv.out.grew g5)
  replace Ha := Lib.hid (Ha.out.grew g5)
  replace Hw := Lib.hid (Hw.out.grew g5)
  replace hX3 := hX3.grew g5
  have G5 := G4.trans g5
  clear g5
  generalize (w4.alloc (.cells #[.int .i64 (getA xs).op, .slice wp1 (getA xs).sm.length wk1, .int .u32 (getA xs).si, .slice wp2 (getA xs).tm.length wk2, .int .u32 (getA xs).ti] 34)) = w5 at *
  generalize w4.heap.size = X7 at *
  have y0 := hX7.cell 0
  have y1 := hX7.cell 1
  have y2 := hX7.cell 2
  have y3 := hX7.cell 3
  have y4 := hX7.cell 4
  go_wp2_with fail
  refine (PutArp_c Hw.out).mono ?_
  rintro e w6 ⟨ub, rfl, Hb, g6⟩
  rw [HF3.out]
  rw [HF4.out] at Hb
  obtain ⟨pb, kb, rfl, _, _⟩ := Hb.shape
  replace HX := Lib.hid (HX.out.grew g6)
  replace Hv := Lib.hid (Hv.out.grew g6)
  replace Ha := Lib.hid (Ha.out.grew g6)
  replace Hw := Lib.hid (Hw.out.grew g6)
  replace hX3 := hX3.grew g6
  replace hX7 := hX7.grew g6
  replace Hb := Lib.hid Hb
  have G6 := G5.trans g6
  clear g6
  clear y0 y1 y2 y3 y4
  have hsn := sameB_c w6 Hb.out (H6.out.grew G6)
  rw [decide_eq_true rfl, HL28.out] at hsn
  rw [HL28.out]
  have HS2 := Lib.hid hsn
  clear hsn
  go_wp2_with fail
  refine HS2.out.mono ?_
  rintro e wj ⟨rfl, hj⟩
  obtain rfl := hj.symm
  go_wp2_with fail
  refine (heads_c (G6) (sn.grew (G6))).mono ?_
  rintro e wh ⟨rfl, gh⟩
  go_wp2_with fail
  go_ret
  exact ⟨rfl, gh⟩
theorem walk (v : Value) (xs : List Int) {W : World} (sw : SenW W) (hb : Buf W v xs) :
    Calls Tryd.prog 3 #[v] W fun e w' => e = .returned (.bool true) ∧ Below W.heap.size W w' := by
  obtain ⟨a0, a1, a2, sn⟩ := sw
  obtain ⟨a, c, rfl, _, _⟩ := hb.shape
  by_cases h1 : (3000 : Int) < (xs.length : Nat)
  · exact walk_far a _ c sn h1
  · by_cases e1 : getFE xs = 0 <;> by_cases e2 : getAE xs = 0
    · exact walk_11 a _ c xs sn h1 e1 e2 hb
    · exact walk_10 a _ c xs sn h1 e1 e2 hb
    · exact walk_01 a _ c xs sn h1 e1 e2 hb
    · exact walk_00 a _ c xs sn h1 e1 e2 hb
set_option maxRecDepth 100000 in
theorem lifted (os : Os) (started : os.Started) (H : Type) (enc : TypeId × Value → H) :
    ReturnsInHanded {} Tryd.checked os 3 .any (fun w args => (Rows.etherAgainSpec.pre enc Tryd.prog Tryd.f3 [] false w args ∧ laidMetH Tryd.prog laid2 w) ∧ sizedMet enc Tryd.prog Tryd.f3 (OpenSpec.ofChange Rows.etherAgainSpec) false w args) (Rows.etherAgainSpec.post enc Tryd.prog Tryd.f3 false true false false) := by
  refine returnsInHanded_of_change_and (C := Tryd.checked) (X := fun w _ => laidMetH Tryd.prog laid2 w) (fun _ _ _ hh h => h.of_heap hh) own started (by kernel_rfl) Tryd.func3
    (ChangeSpec.witness_shaped (enc := enc) (C := Tryd.checked) (os := os) (X := fun w _ => laidMetH Tryd.prog laid2 w) false (World.doorLaid Tryd.prog 400 os) #[.slice none 0 0] 8 rfl (World.shaped_of_RefB (by kernel_rfl) (by kernel_rfl)) (by kernel_rfl) (by kernel_rfl) (by kernel_rfl) (door_met os _)) ?_
  intro W base args ds gs before hval0 hW _ hz0 hL _
  obtain ⟨a0, a1, sn⟩ := sen_of_laid hL
  have hval : ∀ (j : Nat) t v, Tryd.f3.params[j]? = some t → args[j]? = some v → Value.okWide Tryd.prog W .any base t v := hval0
  have hW' := hW
  obtain ⟨p, q, hA0, hV, rfl, hfz, hnd⟩ := hW
  have hA : DataW.TrodAll enc Tryd.prog W 0 (fun _ => true) true Tryd.f3.params.toList args.toList ds p := hA0
  rw [Tryd.params3] at hA hval
  obtain ⟨v0, vs0, d0, ds0, p0, q0, hargs, rfl, rfl, h0, r'0⟩ := trodAll_cons hA
  obtain ⟨rfl, rfl, rfl⟩ := trodAll_nil r'0
  obtain rfl : args = #[v0] := by cases args; simp_all
  obtain ⟨x0, k0⟩ := open_buf Tryd.underlying22 Tryd.underlying5 (by kernel_rfl) (hval 0 22 v0 rfl rfl) h0
  refine (walk v0 x0 sn k0).mono fun e W' ⟨he, hb⟩ => ?_
  subst he
  exact ⟨_, rfl, law_post hW' rfl rfl laid (by kernel_rfl) rfl Tryd.underlying4 hb⟩

theorem over : Rows.etherAgainRow.holds Tryd.pinned (OpenSpec.ofChange Rows.etherAgainSpec) :=
  OpenClaim.holds_of_wide 3 Tryd.f3 rfl rfl rfl rfl rfl rfl rfl ⟨rfl, rfl, rfl, rfl, rfl⟩ rfl rfl rfl rfl rfl (by kernel_rfl) Tryd.func3 (by kernel_rfl)
    (of_decide_eq_true (by kernel_rfl)) (by unfold Func.isWrapper; first | (rw [if_pos (by decide +kernel)]; kernel_rfl) | (rw [if_neg (by decide +kernel)]; exact ⟨rfl, rfl⟩))
    (fun os started H enc _ => lifted os started H enc)

theorem proved : Rows.EtherAgainCardSaid :=
  Claim7.holds_tied_plain_at .later [] Rows.etherAgainCard.laidKinds true Rows.etherAgainCard.stood.harness Rows.etherAgainCard.stood.looks
    over (fun _ h => by cases h) (by kernel_rfl) (fun _ h => by cases h) etherAgain_row_tie rfl ⟨rfl, rfl⟩ (by kernel_rfl) rfl
    (fun f fn hf hfn => by
      obtain rfl : f = 3 := Option.some.inj ((show Tryd.prog.funcNamed "drawbridge/drawbridgelaw16.EtherAgain" = some 3 by kernel_rfl).symm.trans hf) |>.symm
      obtain rfl : fn = Tryd.f3 := (Option.some.inj (Tryd.func3.symm.trans hfn)).symm
      exact ⟨by kernel_rfl, fun j t ht => by
        have hall : (Tryd.f3.params.toList.all fun u => !Tryd.prog.wantsStandIn u) = true := by kernel_rfl
        have hm : t ∈ Tryd.f3.params.toList := by simpa using Array.mem_of_getElem? ht
        exact (show Tryd.prog.wantsStandIn t = false by simpa using List.all_eq_true.1 hall t hm)⟩)
    (by kernel_rfl)
#print axioms proved
end Go.Proofs.YtolfaelalmmefaaDoor.etherAgain
