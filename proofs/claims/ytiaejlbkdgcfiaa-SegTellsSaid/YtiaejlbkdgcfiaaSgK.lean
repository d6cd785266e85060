/-
  What must come at any rate (law 19), from what the program's calls answer.
-/
import Derived.Test.YtiaejlbkdgcfiaaSgW
import Derived.Test.YtiaejlbkdgcfiaaSgQ
set_option maxRecDepth 4000
set_option linter.unusedVariables false
set_option linter.unusedSimpArgs false
namespace Go.Proofs.Ytiaejlbkdgcfiaa
open Go.RowKit

def sH : SGR := ⟨80, 1024, 4294967295, 0, 2, 9, 1460, [7]⟩
def bS : List Int := [0, 80, 4, 0, 255, 255, 255, 255, 0, 0, 0, 0, 96, 2, 0, 9, 140, 202, 0, 0, 2, 4, 5, 180, 7]
theorem bS_put : putSGB sH 1 2 = bS := by kernel_rfl
theorem bS_putE : putSGE sH = 0 := by kernel_rfl
theorem bS_getE : getSGE bS 1 2 = 0 := by kernel_rfl
theorem bS_get : getSG bS 1 2 = sH := by kernel_rfl
theorem bS_sumE : getSGE bS 1 3 = 162 := by kernel_rfl
theorem bS_sum : getSG bS 1 3 = zSG := by unfold getSG; rw [bS_sumE]; rfl
theorem bS_halfE : getSGE (cutL bS 0 12) 1 2 = 160 := by kernel_rfl
theorem bS_half : getSG (cutL bS 0 12) 1 2 = zSG := by unfold getSG; rw [bS_halfE]; rfl
theorem sH_less : lessSG 4294967295 0 = true := by decide
theorem sH_less0 : lessSG 0 0 = false := by decide
theorem sH_len : lenSG sH = 2 := by kernel_rfl
theorem hd_put (hP : PutC) {p : Option Addr} {k : Nat} {w : World} (hb : Buf w (.slice p 1 k) [7]) : Calls Try.prog 8 #[.agg #[.int .i64 80, .int .i64 1024, .int .u32 4294967295, .int .u32 0, .int .i64 2, .int .i64 9, .int .i64 1460, .slice p 1 k], .int .u32 1, .int .u32 2] w fun e w' => ∃ a c, e = .returned (.tuple #[.slice a 25 c, .int .i64 0]) ∧ Buf w' (.slice a 25 c) bS ∧ Grew w w' := by
  have := hP (f := sH) 1 2 (by omega) (by omega) (by decide) (w := w) (Sg.of hb (by unfold intI; omega) (by unfold intI; omega) (by unfold u32I; omega) (by unfold u32I; omega) (by unfold intI; omega) (by unfold intI; omega) (by unfold intI; omega))
  rw [bS_put, bS_putE] at this
  refine this.mono ?_
  rintro e w1 ⟨u, he, hb, g⟩
  obtain ⟨a, c, rfl, _, _⟩ := hb.shape
  exact ⟨a, c, he, hb, g⟩
theorem hd_len (hN : LenC) {p : Option Addr} {k : Nat} {w : World} (hb : Buf w (.slice p 1 k) [7]) : Calls Try.prog 15 #[.agg #[.int .i64 80, .int .i64 1024, .int .u32 4294967295, .int .u32 0, .int .i64 2, .int .i64 9, .int .i64 1460, .slice p 1 k]] w fun e w' => e = .returned (.int .i64 2) ∧ Grew w w' := by
  have := hN (f := sH) (w := w) (by decide) (Sg.of hb (by unfold intI; omega) (by unfold intI; omega) (by unfold u32I; omega) (by unfold u32I; omega) (by unfold intI; omega) (by unfold intI; omega) (by unfold intI; omega))
  rw [sH_len] at this
  exact this
theorem hd_less (hL : LessC) (w : World) : Calls Try.prog 17 #[.int .u32 4294967295, .int .u32 0] w fun e w' => e = .returned (.bool true) ∧ Grew w w' := by
  have := hL 4294967295 0 (by omega) (by omega) w
  rw [sH_less] at this
  exact this
theorem hd_less0 (hL : LessC) (w : World) : Calls Try.prog 17 #[.int .u32 0, .int .u32 0] w fun e w' => e = .returned (.bool false) ∧ Grew w w' := by
  have := hL 0 0 (by omega) (by omega) w
  rw [sH_less0] at this
  exact this
theorem hd_get (hG : GetC) {v : Value} {w : World} (h : Buf w v bS) : Calls Try.prog 10 #[v, .int .u32 1, .int .u32 2] w fun e w' => ∃ p1 k1, e = .returned (.tuple #[.agg #[.int .i64 80, .int .i64 1024, .int .u32 4294967295, .int .u32 0, .int .i64 2, .int .i64 9, .int .i64 1460, .slice p1 1 k1], .int .i64 0]) ∧ Buf w' (.slice p1 1 k1) [7] ∧ Grew w w' := by
  have := hG 1 2 (by omega) (by omega) (by decide) h
  rw [bS_getE, bS_get] at this
  refine this.mono ?_
  rintro e w1 ⟨u, he, hp, g⟩
  obtain ⟨p1, k1, rfl, hb⟩ := hp.shape
  exact ⟨p1, k1, he, hb, g⟩
theorem hd_sum (hG : GetC) {v : Value} {w : World} (h : Buf w v bS) : Calls Try.prog 10 #[v, .int .u32 1, .int .u32 3] w fun e w' => ∃ p1 k1, e = .returned (.tuple #[.agg #[.int .i64 0, .int .i64 0, .int .u32 0, .int .u32 0, .int .i64 0, .int .i64 0, .int .i64 0, .slice p1 0 k1], .int .i64 162]) ∧ Buf w' (.slice p1 0 k1) [] ∧ Grew w w' := by
  have := hG 1 3 (by omega) (by omega) (by decide) h
  rw [bS_sumE, bS_sum] at this
  refine this.mono ?_
  rintro e w1 ⟨u, he, hp, g⟩
  obtain ⟨p1, k1, rfl, hb⟩ := hp.shape
  exact ⟨p1, k1, he, hb, g⟩
theorem hd_half (hG : GetC) {v : Value} {w : World} (h : Buf w v (cutL bS 0 12)) : Calls Try.prog 10 #[v, .int .u32 1, .int .u32 2] w fun e w' => ∃ p1 k1, e = .returned (.tuple #[.agg #[.int .i64 0, .int .i64 0, .int .u32 0, .int .u32 0, .int .i64 0, .int .i64 0, .int .i64 0, .slice p1 0 k1], .int .i64 160]) ∧ Buf w' (.slice p1 0 k1) [] ∧ Grew w w' := by
  have := hG 1 2 (by omega) (by omega) (by decide) h
  rw [bS_halfE, bS_half] at this
  refine this.mono ?_
  rintro e w1 ⟨u, he, hp, g⟩
  obtain ⟨p1, k1, rfl, hb⟩ := hp.shape
  exact ⟨p1, k1, he, hb, g⟩
set_option maxHeartbeats 4000000 in
theorem heads_of (hP : PutC) (hG : GetC) (hL : LessC) (hN : LenC) : HeadC := by
  intro W w gW
  go_enter Try.func7, Try.ntmps7
  go_upto_region 2 with fail
  have g0 : Grew w (w.alloc (.cells #[.int .u8 7] 5)) := (Grew.refl _).alloc _
  have hs : Buf (w.alloc (.cells #[.int .u8 7] 5)) (.slice (some ⟨w.heap.size, 0, none⟩) 1 1) [7] := (Row.lit w w.heap.size (Nat.le_refl _) #[.int .u8 7] [7] rfl (by unfold maxLen; simp) _ rfl 1 rfl).buf (bytes_lit (by decide))
  have ga : Grew (w.alloc (.cells #[.int .u8 7] 5)) ((w.alloc (.cells #[.int .u8 7] 5)).alloc (.cells #[.int .i64 80, .int .i64 1024, .int .u32 4294967295, .int .u32 0, .int .i64 2, .int .i64 9, .int .i64 1460, .slice (some ⟨w.heap.size, 0, none⟩) 1 1] 25)) := (Grew.refl _).alloc _
  have hX1 : Blk ((w.alloc (.cells #[.int .u8 7] 5)).alloc (.cells #[.int .i64 80, .int .i64 1024, .int .u32 4294967295, .int .u32 0, .int .i64 2, .int .i64 9, .int .i64 1460, .slice (some ⟨w.heap.size, 0, none⟩) 1 1] 25)) (w.heap.size + 1) #[.int .i64 80, .int .i64 1024, .int .u32 4294967295, .int .u32 0, .int .i64 2, .int .i64 9, .int .i64 1460, .slice (some ⟨w.heap.size, 0, none⟩) 1 1] 25 := Blk.new _ _ _ _ (by simp)
  have G1 := g0.trans ga
  have HS := Lib.hid (hs.grew ga)
  clear hs ga g0
  generalize ((w.alloc (.cells #[.int .u8 7] 5)).alloc (.cells #[.int .i64 80, .int .i64 1024, .int .u32 4294967295, .int .u32 0, .int .i64 2, .int .i64 9, .int .i64 1460, .slice (some ⟨w.heap.size, 0, none⟩) 1 1] 25)) = w1 at *
  generalize w.heap.size + 1 = X1 at *
  generalize w.heap.size = D at *
  have y0 := hX1.cell 0
  have y1 := hX1.cell 1
  have y2 := hX1.cell 2
  have y3 := hX1.cell 3
  have y4 := hX1.cell 4
  have y5 := hX1.cell 5
  have y6 := hX1.cell 6
  have y7 := hX1.cell 7
  go_wp2_with fail
  refine (hd_put hP HS.out).mono ?_
  rintro e w2 ⟨pb, kb, rfl, hb, g2⟩
  have HB := Lib.hid hb
  clear hb y0 y1 y2 y3 y4 y5 y6 y7
  replace hX1 := hX1.grew g2
  replace HS := Lib.hid (HS.out.grew g2)
  have G2 := G1.trans g2
  clear g2 G1
  go_wp2_with fail
  refine (hd_get hG HB.out).mono ?_
  rintro e w3 ⟨p1, k1, rfl, ht, g3⟩
  have HT := Lib.hid ht
  clear ht
  replace hX1 := hX1.grew g3
  replace HS := Lib.hid (HS.out.grew g3)
  replace HB := Lib.hid (HB.out.grew g3)
  have G3 := G2.trans g3
  clear g3 G2
  go_upto_region 4 with fail
  have ga : Grew w3 (w3.alloc (.cells #[.int .i64 80, .int .i64 1024, .int .u32 4294967295, .int .u32 0, .int .i64 2, .int .i64 9, .int .i64 1460, .slice p1 1 k1] 25)) := (Grew.refl _).alloc _
  have hX4 : Blk (w3.alloc (.cells #[.int .i64 80, .int .i64 1024, .int .u32 4294967295, .int .u32 0, .int .i64 2, .int .i64 9, .int .i64 1460, .slice p1 1 k1] 25)) w3.heap.size #[.int .i64 80, .int .i64 1024, .int .u32 4294967295, .int .u32 0, .int .i64 2, .int .i64 9, .int .i64 1460, .slice p1 1 k1] 25 := Blk.new _ _ _ _ rfl
  replace hX1 := hX1.grew ga
  replace HS := Lib.hid (HS.out.grew ga)
  replace HB := Lib.hid (HB.out.grew ga)
  replace HT := Lib.hid (HT.out.grew ga)
  have G4 := G3.trans ga
  clear ga G3
  generalize (w3.alloc (.cells #[.int .i64 80, .int .i64 1024, .int .u32 4294967295, .int .u32 0, .int .i64 2, .int .i64 9, .int .i64 1460, .slice p1 1 k1] 25)) = w4 at *
  generalize w3.heap.size = X4 at *
  go_wp2_with fail
  refine (hd_sum hG HB.out).mono ?_
  rintro e w5 ⟨p2, k2, rfl, hz, g5⟩
  clear hz
  replace hX1 := hX1.grew g5
  replace hX4 := hX4.grew g5
  replace HS := Lib.hid (HS.out.grew g5)
  replace HB := Lib.hid (HB.out.grew g5)
  replace HT := Lib.hid (HT.out.grew g5)
  have G5 := G4.trans g5
  clear g5 G4
  go_upto_region 5 with fail
  have ga : Grew w5 (w5.alloc (.cells #[.int .i64 0, .int .i64 0, .int .u32 0, .int .u32 0, .int .i64 0, .int .i64 0, .int .i64 0, .slice p2 0 k2] 25)) := (Grew.refl _).alloc _
  have hX6 : Blk (w5.alloc (.cells #[.int .i64 0, .int .i64 0, .int .u32 0, .int .u32 0, .int .i64 0, .int .i64 0, .int .i64 0, .slice p2 0 k2] 25)) w5.heap.size #[.int .i64 0, .int .i64 0, .int .u32 0, .int .u32 0, .int .i64 0, .int .i64 0, .int .i64 0, .slice p2 0 k2] 25 := Blk.new _ _ _ _ rfl
  replace hX1 := hX1.grew ga
  replace hX4 := hX4.grew ga
  replace HS := Lib.hid (HS.out.grew ga)
  replace HB := Lib.hid (HB.out.grew ga)
  replace HT := Lib.hid (HT.out.grew ga)
  have G6 := G5.trans ga
  clear ga G5
  generalize (w5.alloc (.cells #[.int .i64 0, .int .i64 0, .int .u32 0, .int .u32 0, .int .i64 0, .int .i64 0, .int .i64 0, .slice p2 0 k2] 25)) = w6 at *
  generalize w5.heap.size = X6 at *
  obtain ⟨a60, k60, H60, x1, x2, hrun, x4⟩ := HB.out.run_cut (lo := 0) (hi := 12) (by decide) (by decide)
  have hrun : ∀ w', (Instr.sliceAt 23 (.slice pb 25 kb) none (some (.int .i64 12)) none).run Try.prog w' = .ok (.slice a60 12 k60) w' := hrun rfl .i64
  have H6 := Lib.hid H60
  clear x1 x2 x4 H60
  go_wp2_with fail
  refine (hd_half hG (by exact H6.out)).mono ?_
  rintro e w8 ⟨p3, k3, rfl, hz, g8⟩
  clear hz hrun H6
  replace hX1 := hX1.grew g8
  replace hX4 := hX4.grew g8
  replace HS := Lib.hid (HS.out.grew g8)
  replace HB := Lib.hid (HB.out.grew g8)
  replace HT := Lib.hid (HT.out.grew g8)
  have G8 := G6.trans g8
  clear g8 G6
  go_upto_region 6 with fail
  have ga : Grew w8 (w8.alloc (.cells #[.int .i64 0, .int .i64 0, .int .u32 0, .int .u32 0, .int .i64 0, .int .i64 0, .int .i64 0, .slice p3 0 k3] 25)) := (Grew.refl _).alloc _
  have hX9 : Blk (w8.alloc (.cells #[.int .i64 0, .int .i64 0, .int .u32 0, .int .u32 0, .int .i64 0, .int .i64 0, .int .i64 0, .slice p3 0 k3] 25)) w8.heap.size #[.int .i64 0, .int .i64 0, .int .u32 0, .int .u32 0, .int .i64 0, .int .i64 0, .int .i64 0, .slice p3 0 k3] 25 := Blk.new _ _ _ _ rfl
  replace hX1 := hX1.grew ga
  replace hX4 := hX4.grew ga
  replace HS := Lib.hid (HS.out.grew ga)
  replace HB := Lib.hid (HB.out.grew ga)
  replace HT := Lib.hid (HT.out.grew ga)
  have G9 := G8.trans ga
  clear ga G8
  generalize (w8.alloc (.cells #[.int .i64 0, .int .i64 0, .int .u32 0, .int .u32 0, .int .i64 0, .int .i64 0, .int .i64 0, .slice p3 0 k3] 25)) = w9 at *
  generalize w8.heap.size = X9 at *
  have gA : Grew w9 (w9.alloc (.cells #[.int .i64 80, .int .i64 1024, .int .u32 4294967295, .int .u32 0, .int .i64 2, .int .i64 9, .int .i64 1460, .slice (some ⟨D, 0, none⟩) 1 1] 25)) := (Grew.refl _).alloc _
  have gB : Grew w9 ((w9.alloc (.cells #[.int .i64 80, .int .i64 1024, .int .u32 4294967295, .int .u32 0, .int .i64 2, .int .i64 9, .int .i64 1460, .slice (some ⟨D, 0, none⟩) 1 1] 25)).alloc (.cells #[.int .i64 80, .int .i64 1024, .int .u32 4294967295, .int .u32 0, .int .i64 2, .int .i64 9, .int .i64 1460, .slice p1 1 k1] 25)) := ((Grew.refl _).alloc _).alloc _
  have hA : Blk ((w9.alloc (.cells #[.int .i64 80, .int .i64 1024, .int .u32 4294967295, .int .u32 0, .int .i64 2, .int .i64 9, .int .i64 1460, .slice (some ⟨D, 0, none⟩) 1 1] 25)).alloc (.cells #[.int .i64 80, .int .i64 1024, .int .u32 4294967295, .int .u32 0, .int .i64 2, .int .i64 9, .int .i64 1460, .slice p1 1 k1] 25)) w9.heap.size #[.int .i64 80, .int .i64 1024, .int .u32 4294967295, .int .u32 0, .int .i64 2, .int .i64 9, .int .i64 1460, .slice (some ⟨D, 0, none⟩) 1 1] 25 := (Blk.new _ _ _ _ rfl).alloc _
  have hB : Blk ((w9.alloc (.cells #[.int .i64 80, .int .i64 1024, .int .u32 4294967295, .int .u32 0, .int .i64 2, .int .i64 9, .int .i64 1460, .slice (some ⟨D, 0, none⟩) 1 1] 25)).alloc (.cells #[.int .i64 80, .int .i64 1024, .int .u32 4294967295, .int .u32 0, .int .i64 2, .int .i64 9, .int .i64 1460, .slice p1 1 k1] 25)) (w9.heap.size + 1) #[.int .i64 80, .int .i64 1024, .int .u32 4294967295, .int .u32 0, .int .i64 2, .int .i64 9, .int .i64 1460, .slice p1 1 k1] 25 := Blk.new _ _ _ _ (by simp)
  have y0 := hX1.cell 0
  have z0 := (hX4.grew gA).cell 0
  have y1 := hX1.cell 1
  have z1 := (hX4.grew gA).cell 1
  have y2 := hX1.cell 2
  have z2 := (hX4.grew gA).cell 2
  have y3 := hX1.cell 3
  have z3 := (hX4.grew gA).cell 3
  have y4 := hX1.cell 4
  have z4 := (hX4.grew gA).cell 4
  have y5 := hX1.cell 5
  have z5 := (hX4.grew gA).cell 5
  have y6 := hX1.cell 6
  have z6 := (hX4.grew gA).cell 6
  have y7 := hX1.cell 7
  have z7 := (hX4.grew gA).cell 7
  go_wp2_with fail
  refine (same19_c (f := sH) hA hB (HS.out.grew gB) (HT.out.grew gB)).mono ?_
  rintro e wa ⟨rfl, ga⟩
  have Ga := gB.trans ga
  clear gA gB hA hB ga y0 z0 y1 z1 y2 z2 y3 z3 y4 z4 y5 z5 y6 z6 y7 z7
  go_wp2_with fail
  refine (hd_less hL wa).mono ?_
  rintro e wb ⟨rfl, gb⟩
  go_wp2_with fail
  refine (hd_less0 hL wb).mono ?_
  rintro e wc ⟨rfl, gc⟩
  have Gc := Ga.trans (gb.trans gc)
  have hX1c := hX1.grew Gc
  have y0 := hX1c.cell 0
  have y1 := hX1c.cell 1
  have y2 := hX1c.cell 2
  have y3 := hX1c.cell 3
  have y4 := hX1c.cell 4
  have y5 := hX1c.cell 5
  have y6 := hX1c.cell 6
  have y7 := hX1c.cell 7
  go_wp2_with fail
  refine (hd_len hN (HS.out.grew Gc)).mono ?_
  rintro e wd ⟨rfl, gd⟩
  go_wp2_with fail
  go_ret
  exact ⟨rfl, gW.trans (G9.trans (Gc.trans gd))⟩
end Go.Proofs.Ytiaejlbkdgcfiaa
