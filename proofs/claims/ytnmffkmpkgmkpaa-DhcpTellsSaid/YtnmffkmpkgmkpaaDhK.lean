/-
  What must come at any rate (law 20), from what the program's calls answer.
-/
import Derived.Test.YtnmffkmpkgmkpaaDhW
import Derived.Test.YtnmffkmpkgmkpaaDhQ
set_option maxRecDepth 4000
set_option linter.unusedVariables false
set_option linter.unusedSimpArgs false
namespace Go.Proofs.Ytnmffkmpkgmkpaa
open Go.RowKit

def dH : DHR := ⟨1, 7, 0, 0, [1, 2, 3, 4, 5, 6], 1, 0, 0, 0, 0, 0, 0⟩
theorem dH_ok : okDH dH = true := by kernel_rfl
theorem dH_len : (putDH dH).length = 244 := by kernel_rfl
theorem dH_of {w : World} {p : Option Addr} {k : Nat} (hb : Buf w (.slice p 6 k) [1, 2, 3, 4, 5, 6]) : Dh w (.agg #[.int .i64 1, .int .u32 7, .int .u32 0, .int .u32 0, .slice p 6 k, .int .i64 1, .int .u32 0, .int .u32 0, .int .u32 0, .int .u32 0, .int .u32 0, .int .u32 0]) dH :=
  Dh.of hb (by unfold intI; omega) (by unfold u32I; omega) (by unfold u32I; omega) (by unfold u32I; omega) (by unfold intI; omega) (by unfold u32I; omega) (by unfold u32I; omega) (by unfold u32I; omega) (by unfold u32I; omega) (by unfold u32I; omega) (by unfold u32I; omega)
theorem hd_put (hP : PutC) {p : Option Addr} {k : Nat} {w : World} (hb : Buf w (.slice p 6 k) [1, 2, 3, 4, 5, 6]) : Calls Try.prog 10 #[.agg #[.int .i64 1, .int .u32 7, .int .u32 0, .int .u32 0, .slice p 6 k, .int .i64 1, .int .u32 0, .int .u32 0, .int .u32 0, .int .u32 0, .int .u32 0, .int .u32 0]] w fun e w' => ∃ a c, e = .returned (.tuple #[.slice a 244 c, .int .i64 0]) ∧ Buf w' (.slice a 244 c) (putDH dH) ∧ Grew w w' := by
  have := hP (f := dH) (by decide) (w := w) (dH_of hb)
  rw [show putDHE dH = 0 by unfold putDHE; rw [dH_ok]; rfl, show putDHB dH = putDH dH by unfold putDHB; rw [dH_ok]; rfl] at this
  refine this.mono ?_
  rintro e w1 ⟨u, he, hb, g⟩
  obtain ⟨a, c, rfl, _, _⟩ := hb.shape
  rw [dH_len] at he hb
  exact ⟨a, c, he, hb, g⟩
theorem hd_nil (hP : PutC) {w : World} : Calls Try.prog 10 #[.agg #[.int .i64 0, .int .u32 0, .int .u32 0, .int .u32 0, .slice none 0 0, .int .i64 0, .int .u32 0, .int .u32 0, .int .u32 0, .int .u32 0, .int .u32 0, .int .u32 0]] w fun e w' => ∃ a c, e = .returned (.tuple #[.slice a 0 c, .int .i64 2]) ∧ Grew w w' := by
  have := hP (f := zDH) (by decide) (w := w) (Dh.zero w)
  rw [show putDHE zDH = 2 by kernel_rfl, show putDHB zDH = [] by kernel_rfl] at this
  refine this.mono ?_
  rintro e w1 ⟨u, he, hb, g⟩
  obtain ⟨a, c, rfl, _, _⟩ := hb.shape
  exact ⟨a, c, he, g⟩
theorem hdk_get (hG : GetC) {v : Value} {w : World} {p : Option Addr} {k : Nat} (hd : Buf w (.slice p 6 k) [1, 2, 3, 4, 5, 6]) (h : Buf w v (putDH dH)) : Calls Try.prog 8 #[v] w fun e w' => ∃ p1 k1, e = .returned (.tuple #[.agg #[.int .i64 1, .int .u32 7, .int .u32 0, .int .u32 0, .slice p1 6 k1, .int .i64 1, .int .u32 0, .int .u32 0, .int .u32 0, .int .u32 0, .int .u32 0, .int .u32 0], .int .i64 0]) ∧ Buf w' (.slice p1 6 k1) [1, 2, 3, 4, 5, 6] ∧ Grew w w' := by
  have hgp := get_put20 dH_ok (dH_of hd) []
  rw [List.append_nil] at hgp
  have := hG (xs := putDH dH) (w := w) (by rw [dH_len]; decide) h
  rw [hgp.1, hgp.2] at this
  refine this.mono ?_
  rintro e w1 ⟨u, he, hp, g⟩
  obtain ⟨p1, k1, rfl, hb⟩ := hp.shape
  exact ⟨p1, k1, he, hb, g⟩
theorem hd_half (hG : GetC) {v : Value} {w : World} (h : Buf w v (cutL (putDH dH) 0 122)) : Calls Try.prog 8 #[v] w fun e w' => ∃ p1 k1, e = .returned (.tuple #[.agg #[.int .i64 0, .int .u32 0, .int .u32 0, .int .u32 0, .slice p1 0 k1, .int .i64 0, .int .u32 0, .int .u32 0, .int .u32 0, .int .u32 0, .int .u32 0, .int .u32 0], .int .i64 160]) ∧ Grew w w' := by
  have hl : (cutL (putDH dH) 0 122).length = 122 := by rw [cutL_length (by omega) (by rw [dH_len]; omega)]
  have he1 : getDHE (cutL (putDH dH) 0 122) = 160 := by unfold getDHE; rw [if_pos (by rw [hl]; omega)]
  have he2 : getDH (cutL (putDH dH) 0 122) = zDH := by unfold getDH; rw [he1]; rfl
  have := hG (xs := cutL (putDH dH) 0 122) (w := w) (by rw [hl]; omega) h
  rw [he1, he2] at this
  refine this.mono ?_
  rintro e w1 ⟨u, he, hp, g⟩
  obtain ⟨p1, k1, rfl, hb⟩ := hp.shape
  exact ⟨p1, k1, he, g⟩
set_option maxHeartbeats 4000000 in
theorem heads_of (hP : PutC) (hG : GetC) : HeadC := by
  intro W w gW
  go_enter Try.func7, Try.ntmps7
  go_upto_region 2 with fail
  have g0 : Grew w (w.alloc (.cells #[.int .u8 1, .int .u8 2, .int .u8 3, .int .u8 4, .int .u8 5, .int .u8 6] 5)) := (Grew.refl _).alloc _
  have hs : Buf (w.alloc (.cells #[.int .u8 1, .int .u8 2, .int .u8 3, .int .u8 4, .int .u8 5, .int .u8 6] 5)) (.slice (some ⟨w.heap.size, 0, none⟩) 6 6) [1, 2, 3, 4, 5, 6] := (Row.lit w w.heap.size (Nat.le_refl _) #[.int .u8 1, .int .u8 2, .int .u8 3, .int .u8 4, .int .u8 5, .int .u8 6] [1, 2, 3, 4, 5, 6] rfl (by unfold maxLen; simp) _ rfl 6 rfl).buf (bytes_lit (by decide))
  have ga : Grew (w.alloc (.cells #[.int .u8 1, .int .u8 2, .int .u8 3, .int .u8 4, .int .u8 5, .int .u8 6] 5)) ((w.alloc (.cells #[.int .u8 1, .int .u8 2, .int .u8 3, .int .u8 4, .int .u8 5, .int .u8 6] 5)).alloc (.cells #[.int .i64 1, .int .u32 7, .int .u32 0, .int .u32 0, .slice (some ⟨w.heap.size, 0, none⟩) 6 6, .int .i64 1, .int .u32 0, .int .u32 0, .int .u32 0, .int .u32 0, .int .u32 0, .int .u32 0] 26)) := (Grew.refl _).alloc _
  have hX1 : Blk ((w.alloc (.cells #[.int .u8 1, .int .u8 2, .int .u8 3, .int .u8 4, .int .u8 5, .int .u8 6] 5)).alloc (.cells #[.int .i64 1, .int .u32 7, .int .u32 0, .int .u32 0, .slice (some ⟨w.heap.size, 0, none⟩) 6 6, .int .i64 1, .int .u32 0, .int .u32 0, .int .u32 0, .int .u32 0, .int .u32 0, .int .u32 0] 26)) (w.heap.size + 1) #[.int .i64 1, .int .u32 7, .int .u32 0, .int .u32 0, .slice (some ⟨w.heap.size, 0, none⟩) 6 6, .int .i64 1, .int .u32 0, .int .u32 0, .int .u32 0, .int .u32 0, .int .u32 0, .int .u32 0] 26 := Blk.new _ _ _ _ (by simp)
  have G1 := g0.trans ga
  have HS := Lib.hid (hs.grew ga)
  clear hs ga g0
  generalize ((w.alloc (.cells #[.int .u8 1, .int .u8 2, .int .u8 3, .int .u8 4, .int .u8 5, .int .u8 6] 5)).alloc (.cells #[.int .i64 1, .int .u32 7, .int .u32 0, .int .u32 0, .slice (some ⟨w.heap.size, 0, none⟩) 6 6, .int .i64 1, .int .u32 0, .int .u32 0, .int .u32 0, .int .u32 0, .int .u32 0, .int .u32 0] 26)) = w1 at *
  generalize w.heap.size + 1 = X1 at *
  generalize w.heap.size = D at *
  have y0 := hX1.cell 0
  have y1 := hX1.cell 1
  have y2 := hX1.cell 2
  have y3 := hX1.cell 3
  have y4 := hX1.cell 4
  have y5 := hX1.cell 5
  have y6 := hX1.cell 6
  have y7 := hX1.cell 7
  have y8 := hX1.cell 8
  have y9 := hX1.cell 9
  have y10 := hX1.cell 10
  have y11 := hX1.cell 11
  go_wp2_with fail
  refine (hd_put hP HS.out).mono ?_
  rintro e w2 ⟨pb, kb, rfl, hb, g2⟩
  have HB := Lib.hid hb
  clear hb y0 y1 y2 y3 y4 y5 y6 y7 y8 y9 y10 y11
  replace hX1 := hX1.grew g2
  replace HS := Lib.hid (HS.out.grew g2)
  have G2 := G1.trans g2
  clear g2 G1
  go_wp2_with fail
  refine (hdk_get hG HS.out HB.out).mono ?_
  rintro e w3 ⟨p1, k1, rfl, ht, g3⟩
  have HT := Lib.hid ht
  clear ht
  replace hX1 := hX1.grew g3
  replace HS := Lib.hid (HS.out.grew g3)
  replace HB := Lib.hid (HB.out.grew g3)
  have G3 := G2.trans g3
  clear g3 G2
  go_upto_region 4 with fail
  have ga : Grew w3 (w3.alloc (.cells #[.int .i64 1, .int .u32 7, .int .u32 0, .int .u32 0, .slice p1 6 k1, .int .i64 1, .int .u32 0, .int .u32 0, .int .u32 0, .int .u32 0, .int .u32 0, .int .u32 0] 26)) := (Grew.refl _).alloc _
  have hX4 : Blk (w3.alloc (.cells #[.int .i64 1, .int .u32 7, .int .u32 0, .int .u32 0, .slice p1 6 k1, .int .i64 1, .int .u32 0, .int .u32 0, .int .u32 0, .int .u32 0, .int .u32 0, .int .u32 0] 26)) w3.heap.size #[.int .i64 1, .int .u32 7, .int .u32 0, .int .u32 0, .slice p1 6 k1, .int .i64 1, .int .u32 0, .int .u32 0, .int .u32 0, .int .u32 0, .int .u32 0, .int .u32 0] 26 := Blk.new _ _ _ _ rfl
  replace hX1 := hX1.grew ga
  replace HS := Lib.hid (HS.out.grew ga)
  replace HB := Lib.hid (HB.out.grew ga)
  replace HT := Lib.hid (HT.out.grew ga)
  have G4 := G3.trans ga
  clear ga G3
  generalize (w3.alloc (.cells #[.int .i64 1, .int .u32 7, .int .u32 0, .int .u32 0, .slice p1 6 k1, .int .i64 1, .int .u32 0, .int .u32 0, .int .u32 0, .int .u32 0, .int .u32 0, .int .u32 0] 26)) = w4 at *
  generalize w3.heap.size = X4 at *
  obtain ⟨a60, k60, H60, x1, x2, hrun, x4⟩ := HB.out.run_cut (lo := 0) (hi := 122) (by decide) (by rw [dH_len]; decide)
  have hrun : ∀ w', (Instr.sliceAt 22 (.slice pb 244 kb) none (some (.int .i64 122)) none).run Try.prog w' = .ok (.slice a60 122 k60) w' := hrun rfl .i64
  have H6 := Lib.hid H60
  clear x1 x2 x4 H60
  go_wp2_with fail
  refine (hd_half hG (by exact H6.out)).mono ?_
  rintro e w5 ⟨p3, k3, rfl, g5⟩
  clear hrun H6
  replace hX1 := hX1.grew g5
  replace hX4 := hX4.grew g5
  replace HS := Lib.hid (HS.out.grew g5)
  replace HB := Lib.hid (HB.out.grew g5)
  replace HT := Lib.hid (HT.out.grew g5)
  have G5 := G4.trans g5
  clear g5 G4
  go_upto_region 5 with fail
  have ga : Grew w5 (w5.alloc (.cells #[.int .i64 0, .int .u32 0, .int .u32 0, .int .u32 0, .slice p3 0 k3, .int .i64 0, .int .u32 0, .int .u32 0, .int .u32 0, .int .u32 0, .int .u32 0, .int .u32 0] 26)) := (Grew.refl _).alloc _
  have hX6 : Blk (w5.alloc (.cells #[.int .i64 0, .int .u32 0, .int .u32 0, .int .u32 0, .slice p3 0 k3, .int .i64 0, .int .u32 0, .int .u32 0, .int .u32 0, .int .u32 0, .int .u32 0, .int .u32 0] 26)) w5.heap.size #[.int .i64 0, .int .u32 0, .int .u32 0, .int .u32 0, .slice p3 0 k3, .int .i64 0, .int .u32 0, .int .u32 0, .int .u32 0, .int .u32 0, .int .u32 0, .int .u32 0] 26 := Blk.new _ _ _ _ rfl
  replace hX1 := hX1.grew ga
  replace hX4 := hX4.grew ga
  replace HS := Lib.hid (HS.out.grew ga)
  replace HB := Lib.hid (HB.out.grew ga)
  replace HT := Lib.hid (HT.out.grew ga)
  have G6 := G5.trans ga
  clear ga G5
  generalize (w5.alloc (.cells #[.int .i64 0, .int .u32 0, .int .u32 0, .int .u32 0, .slice p3 0 k3, .int .i64 0, .int .u32 0, .int .u32 0, .int .u32 0, .int .u32 0, .int .u32 0, .int .u32 0] 26)) = w6 at *
  generalize w5.heap.size = X6 at *
  go_wp2_with fail
  refine (hd_nil hP).mono ?_
  rintro e w7 ⟨p8, k8, rfl, g7⟩
  replace hX1 := hX1.grew g7
  replace hX4 := hX4.grew g7
  replace HS := Lib.hid (HS.out.grew g7)
  replace HB := Lib.hid (HB.out.grew g7)
  replace HT := Lib.hid (HT.out.grew g7)
  have G7 := G6.trans g7
  clear g7 G6
  have y0 := hX1.cell 0
  have y1 := hX1.cell 1
  have y2 := hX1.cell 2
  have y3 := hX1.cell 3
  have y4 := hX1.cell 4
  have y5 := hX1.cell 5
  have y6 := hX1.cell 6
  have y7 := hX1.cell 7
  have y8 := hX1.cell 8
  have y9 := hX1.cell 9
  have y10 := hX1.cell 10
  have y11 := hX1.cell 11
  have z0 := hX4.cell 0
  have z1 := hX4.cell 1
  have z2 := hX4.cell 2
  have z3 := hX4.cell 3
  have z4 := hX4.cell 4
  have z5 := hX4.cell 5
  have z6 := hX4.cell 6
  have z7 := hX4.cell 7
  have z8 := hX4.cell 8
  have z9 := hX4.cell 9
  have z10 := hX4.cell 10
  have z11 := hX4.cell 11
  go_wp2_with fail
  refine (same20_c (f := dH) HT.out HS.out).mono ?_
  rintro e wa ⟨rfl, ga⟩
  go_wp2_with fail
  go_ret
  exact ⟨rfl, gW.trans (G7.trans ga)⟩
end Go.Proofs.Ytnmffkmpkgmkpaa
