/-
  What must come at any rate (law 17).
-/
import Derived.Test.YtalbdeifkbfnbaaDoorIpD
import Derived.Test.YtalbdeifkbfnbaaDoorIpCu
import Derived.Test.YtalbdeifkbfnbaaDoorIpEc
import Derived.Test.YtalbdeifkbfnbaaDoorIpS
set_option maxRecDepth 4000
set_option linter.unusedVariables false
set_option linter.unusedSimpArgs false
namespace Go.Proofs.YtalbdeifkbfnbaaDoor
open Go.RowKit

def pH : PK := ⟨0, 5, 0, 0, 64, 17, 1, 2, [], List.replicate 100 0⟩
def bH : List Int := [69, 0, 0, 120, 0, 5, 0, 0, 64, 17, 122, 110, 0, 0, 0, 1, 0, 0, 0, 2] ++ List.replicate 100 0
theorem bH_put : putPB pH = bH := by kernel_rfl
theorem bH_putE : putPE pH = 0 := by kernel_rfl
theorem bH_len : bH.length = 120 := by kernel_rfl
theorem bH_getE : getPE (bH ++ [9]) = 0 := by kernel_rfl
theorem bH_get : getP (bH ++ [9]) = pH := by kernel_rfl
theorem bH_half : getPE (cutL bH 0 60) = 160 := by kernel_rfl
theorem bH_ok : AreBytes (bH ++ [9]) := bytes_lit (by kernel_rfl)
def q0 : PK := ⟨0, 5, 1, 0, 64, 17, 1, 2, [], List.replicate 48 0⟩
def q1 : PK := ⟨0, 5, 1, 6, 64, 17, 1, 2, [], List.replicate 48 0⟩
def q2 : PK := ⟨0, 5, 0, 12, 64, 17, 1, 2, [], List.replicate 4 0⟩
theorem qH_cutE : cutE pH 68 = 0 := by kernel_rfl
theorem qH_cut : cutP pH 68 = [q0, q1, q2] := by kernel_rfl
def e1 : List Int := [8, 0, 247, 254, 0, 0, 0, 1]
def e2 : List Int := [0, 0, 255, 254, 0, 0, 0, 1]
def e3 : List Int := [8, 0, 0, 0, 0, 0, 0, 1]
theorem eH_ok : echoOk e1 = true := by kernel_rfl
theorem eH_v : echoV e1 = e2 := by kernel_rfl
theorem eH_no : echoOk e3 = false := by kernel_rfl
theorem eH_nov : echoV e3 = [] := by kernel_rfl
theorem hd_put {v : Value} {w : World} (h : Pk w v pH) : Calls Tryd.prog 8 #[v] w fun e w' => ∃ a c, e = .returned (.tuple #[.slice a 120 c, .int .i64 0]) ∧ Buf w' (.slice a 120 c) bH ∧ Grew w w' := by
  have := Put17_c (by show 100 ≤ _; decide) h
  rw [bH_put, bH_putE] at this
  refine this.mono ?_
  rintro e w1 ⟨u, he, hb, g⟩
  obtain ⟨a, c, rfl, _, _⟩ := hb.shape
  exact ⟨a, c, he, hb, g⟩
theorem hd_get {v : Value} {w : World} (sn : SenW w) (h : Buf w v (bH ++ [9])) : Calls Tryd.prog 10 #[v] w fun e w' => ∃ p1 k1 p2 k2, e = .returned (.tuple #[.agg #[.int .i64 0, .int .i64 5, .int .i64 0, .int .i64 0, .int .i64 64, .int .i64 17, .int .u32 1, .int .u32 2, .slice p1 0 k1, .slice p2 100 k2], .int .i64 0]) ∧ Pk w' (.agg #[.int .i64 0, .int .i64 5, .int .i64 0, .int .i64 0, .int .i64 64, .int .i64 17, .int .u32 1, .int .u32 2, .slice p1 0 k1, .slice p2 100 k2]) pH ∧ Grew w w' := by
  have := Get17_c sn h
  rw [bH_getE, bH_get] at this
  refine this.mono ?_
  rintro e w1 ⟨u, he, hp, g⟩
  obtain ⟨p1, k1, p2, k2, rfl, _, _⟩ := hp.shape
  exact ⟨p1, k1, p2, k2, he, hp, g⟩
theorem hd_short {v : Value} {w : World} (sn : SenW w) (h : Buf w v (cutL bH 0 60)) : Calls Tryd.prog 10 #[v] w fun e w' => ∃ p1 k1 p2 k2, e = .returned (.tuple #[.agg #[.int .i64 0, .int .i64 0, .int .i64 0, .int .i64 0, .int .i64 0, .int .i64 0, .int .u32 0, .int .u32 0, .slice p1 0 k1, .slice p2 0 k2], .int .i64 160]) ∧ Grew w w' := by
  have := Get17_c sn h
  rw [bH_half, show getP (cutL bH 0 60) = zP by unfold getP; rw [bH_half]; rfl] at this
  refine this.mono ?_
  rintro e w1 ⟨u, he, hp, g⟩
  obtain ⟨p1, k1, p2, k2, rfl, _, _⟩ := hp.shape
  exact ⟨p1, k1, p2, k2, he, g⟩
theorem hd_cut {v : Value} {w : World} (h : Pk w v pH) : Calls Tryd.prog 15 #[v, .int .i64 68] w fun e w' => ∃ u, e = .returned (.tuple #[u, .int .i64 0]) ∧ Pks w' u [q0, q1, q2] ∧ Grew w w' := by
  have := Cut17_c 68 (by omega) (by omega) (by show 100 ≤ _; decide) h
  rw [qH_cutE, qH_cut] at this
  exact this
theorem hd_echo {v : Value} {w : World} (h : Buf w v e1) : Calls Tryd.prog 16 #[v] w fun e w' => ∃ u, e = .returned (.tuple #[u, .bool true]) ∧ Buf w' u e2 ∧ Grew w w' := by
  have := Echo_c (by decide) h
  rw [eH_ok, eH_v] at this
  exact this
theorem hd_echo_no {v : Value} {w : World} (h : Buf w v e3) : Calls Tryd.prog 16 #[v] w fun e w' => ∃ u, e = .returned (.tuple #[u, .bool false]) ∧ Buf w' u [] ∧ Grew w w' := by
  have := Echo_c (by decide) h
  rw [eH_no, eH_nov] at this
  exact this
set_option maxHeartbeats 4000000 in
theorem heads_c {W w : World} (gW : Grew W w) (sn : SenW w) : Calls Tryd.prog 7 #[] w fun e w' => e = .returned (.bool true) ∧ Grew W w' := by
  go_enter Tryd.func7, Tryd.ntmps7
  go_upto_region 2 with (refine wpList_make_b rfl (.const (.int .i64 100)) (.const (.int .i64 100)) rfl (Grew.refl _) .i64 .i64 _ _ 100 rfl rfl rfl rfl (by omega) ?_; intro w1 HR g1)
  have hm1 : Buf w1 (.slice (some ⟨w.heap.size, 0, none⟩) 100 100) (List.replicate 100 0) := HR.out.buf (bytes_lit (by kernel_rfl))
  clear HR
  generalize w.heap.size = B0 at *
  have hX1 := Blk.new w1 #[.int .i64 0, .int .i64 5, .int .i64 0, .int .i64 0, .int .i64 64, .int .i64 17, .int .u32 1, .int .u32 2, .slice none 0 0, .slice (some ⟨B0, 0, none⟩) 100 100] 25 w1.heap.size rfl
  have ga : Grew w1 (w1.alloc (.cells #[.int .i64 0, .int .i64 5, .int .i64 0, .int .i64 0, .int .i64 64, .int .i64 17, .int .u32 1, .int .u32 2, .slice none 0 0, .slice (some ⟨B0, 0, none⟩) 100 100] 25)) := (Grew.refl _).alloc _
  have hp2 : Pk (w1.alloc (.cells #[.int .i64 0, .int .i64 5, .int .i64 0, .int .i64 0, .int .i64 64, .int .i64 17, .int .u32 1, .int .u32 2, .slice none 0 0, .slice (some ⟨B0, 0, none⟩) 100 100] 25)) (.agg #[.int .i64 0, .int .i64 5, .int .i64 0, .int .i64 0, .int .i64 64, .int .i64 17, .int .u32 1, .int .u32 2, .slice none 0 0, .slice (some ⟨B0, 0, none⟩) 100 100]) pH := Pk.of (Buf.nil _) (hm1.grew ga) (by unfold intI; omega) (by unfold intI; omega) (by unfold intI; omega) (by unfold intI; omega) (by unfold intI; omega) (by unfold intI; omega) (by unfold u32I; omega) (by unfold u32I; omega)
  have G2 := g1.trans ga
  clear hm1 ga g1
  generalize (w1.alloc (.cells #[.int .i64 0, .int .i64 5, .int .i64 0, .int .i64 0, .int .i64 64, .int .i64 17, .int .u32 1, .int .u32 2, .slice none 0 0, .slice (some ⟨B0, 0, none⟩) 100 100] 25)) = w2 at *
  generalize w1.heap.size = X1 at *
  have HP := Lib.hid hp2
  clear hp2
  have y0 := hX1.cell 0
  have y1 := hX1.cell 1
  have y2 := hX1.cell 2
  have y3 := hX1.cell 3
  have y4 := hX1.cell 4
  have y5 := hX1.cell 5
  have y6 := hX1.cell 6
  have y7 := hX1.cell 7
  have y8 := hX1.cell 8
  have y9 := hX1.cell 9
  go_wp2_with fail
  refine (hd_put HP.out).mono ?_
  rintro e w3 ⟨pb, kb, rfl, hb3, g3⟩
  have G3 := G2.trans g3
  have hX3 := hX1.grew g3
  have HP3 := Lib.hid (HP.out.grew g3)
  have HB3 := Lib.hid hb3
  clear HP hX1 hb3 G2 y0 y1 y2 y3 y4 y5 y6 y7 y8 y9
  go_upto_region 3 with fail
  have ge : Grew w3 (w3.alloc (.cells #[] 5)) := (Grew.refl w3).alloc _
  have HE := Lib.hid (Row.lit w3 w3.heap.size (Nat.le_refl _) #[] [] rfl (by unfold maxLen; simp) w3.heap.size rfl 0 rfl)
  have HBE := Lib.hid (HB3.out.grew ge)
  go_upto_region 4 with (first
    | (refine wpList_append_b (W := w3) rfl (.tmp 22) (.tmp 23) rfl ge HE.out HBE.out (by rfl) (by rfl) (by rw [bH_len]; decide) ?_; intro v9 w9 R9 g9 y9; clear y9)
    | (refine wpList_append_b (W := w3) rfl (.tmp 24) (.tmp 25) rfl (g9.alloc _) (R9.out.alloc _) ((Row.lit w9 w9.heap.size (Nat.le_refl _) #[.int .u8 9] [9] rfl (by unfold maxLen; simp) _ rfl 1 rfl).buf (bytes_lit (by decide))) (by rfl) (by rfl) (by rw [List.length_append, bH_len]; decide) ?_; intro v10 w10 R10 g10 y10; clear y10; have hc10 : Buf w10 v10 (bH ++ [9]) := R10.out.buf bH_ok; have HC10 := Lib.hid hc10; clear hc10)
    | (go_at_call 10; refine (hd_get (sn.grew (G3.trans g10)) HC10.out).mono ?_; rintro e w4 ⟨p1, k1, p2, k2, rfl, hu4, g4⟩; have HU4 := Lib.hid hu4; clear hu4))
  have hX4 := Blk.new w4 #[.int .i64 0, .int .i64 5, .int .i64 0, .int .i64 0, .int .i64 64, .int .i64 17, .int .u32 1, .int .u32 2, .slice p1 0 k1, .slice p2 100 k2] 25 w4.heap.size rfl
  have ga : Grew w4 (w4.alloc (.cells #[.int .i64 0, .int .i64 5, .int .i64 0, .int .i64 0, .int .i64 64, .int .i64 17, .int .u32 1, .int .u32 2, .slice p1 0 k1, .slice p2 100 k2] 25)) := (Grew.refl _).alloc _
  have HQ5 : Hid (Pk (w4.alloc (.cells #[.int .i64 0, .int .i64 5, .int .i64 0, .int .i64 0, .int .i64 64, .int .i64 17, .int .u32 1, .int .u32 2, .slice p1 0 k1, .slice p2 100 k2] 25)) (.agg #[.int .i64 0, .int .i64 5, .int .i64 0, .int .i64 0, .int .i64 64, .int .i64 17, .int .u32 1, .int .u32 2, .slice p1 0 k1, .slice p2 100 k2]) pH) := Lib.hid (HU4.out.grew ga)
  have c35 := (g10.trans g4).trans ga
  have hX15 := hX3.grew c35
  have HP5 := Lib.hid (HP3.out.grew c35)
  have HB5 := Lib.hid (HB3.out.grew c35)
  have G5 := G3.trans c35
  clear R9 R10 HC10 g9 g10 g4 ga ge HE HBE hX3 HP3 HB3 HU4 c35
  generalize (w4.alloc (.cells #[.int .i64 0, .int .i64 5, .int .i64 0, .int .i64 0, .int .i64 64, .int .i64 17, .int .u32 1, .int .u32 2, .slice p1 0 k1, .slice p2 100 k2] 25)) = w5 at *
  generalize w4.heap.size = X4 at *
  have y0 := hX15.cell 0
  have y1 := hX15.cell 1
  have y2 := hX15.cell 2
  have y3 := hX15.cell 3
  have y4 := hX15.cell 4
  have y5 := hX15.cell 5
  have y6 := hX15.cell 6
  have y7 := hX15.cell 7
  have y8 := hX15.cell 8
  have y9 := hX15.cell 9
  go_wp2_with fail
  refine (hd_cut HP5.out).mono ?_
  rintro e w6 ⟨u6, rfl, hl6, g6⟩
  obtain ⟨al, cl, rfl, hat⟩ := hl6.shape
  obtain ⟨gl, rfl, hgl, hat⟩ := hat (by simp)
  obtain ⟨a1, a2, a3, a4, hj0, _⟩ := hat 0 q0 rfl
  obtain ⟨b1, b2, b3, b4, hj2, _⟩ := hat 2 q2 rfl
  have c2 : w6.cell? ⟨gl, 2, none⟩ = some (.int .i64 1) := hj0 2 (by omega)
  have c22 : w6.cell? ⟨gl, 22, none⟩ = some (.int .i64 0) := hj2 2 (by omega)
  have c23 : w6.cell? ⟨gl, 23, none⟩ = some (.int .i64 12) := hj2 3 (by omega)
  have c29 : w6.cell? ⟨gl, 29, none⟩ = some (.slice b3 4 b4) := hj2 9 (by omega)
  have HCS := Lib.hid (And.intro c2 (And.intro c22 (And.intro c23 c29)))
  have HGL := Lib.hid hgl
  clear c2 c22 c23 c29 hj0 hj2 hat hl6 hgl y0 y1 y2 y3 y4 y5 y6 y7 y8 y9
  obtain ⟨a60, k60, H60, x1, x2, hrun, x4⟩ := (HB5.out.grew g6).run_cut (lo := 0) (hi := 60) (by decide) (by rw [bH_len]; decide)
  have hrun : ∀ w', (Instr.sliceAt 23 (.slice pb 120 kb) none (some (.int .i64 60)) none).run Tryd.prog w' = .ok (.slice a60 60 k60) w' := hrun rfl .i64
  have H6 := Lib.hid H60
  clear x1 x2 x4 H60
  go_wp2_with fail
  refine (hd_short (sn.grew (G5.trans g6)) (by exact H6.out)).mono ?_
  rintro e w7 ⟨s1, m1, s2, m2, rfl, g7⟩
  clear hrun H6
  go_upto_region 6 with fail
  have g7a := g7.alloc (.cells #[.int .i64 0, .int .i64 0, .int .i64 0, .int .i64 0, .int .i64 0, .int .i64 0, .int .u32 0, .int .u32 0, .slice s1 0 m1, .slice s2 0 m2] 25)
  have g67 := g6.trans g7a
  generalize (w7.alloc (.cells #[.int .i64 0, .int .i64 0, .int .i64 0, .int .i64 0, .int .i64 0, .int .i64 0, .int .u32 0, .int .u32 0, .slice s1 0 m1, .slice s2 0 m2] 25)) = w8 at *
  generalize w7.heap.size = X8 at *
  go_wp2_with fail
  have be1 : Buf (w8.alloc (.cells #[.int .u8 8, .int .u8 0, .int .u8 247, .int .u8 254, .int .u8 0, .int .u8 0, .int .u8 0, .int .u8 1] 5)) (.slice (some ⟨w8.heap.size, 0, none⟩) 8 8) [8, 0, 247, 254, 0, 0, 0, 1] := (Row.lit w8 w8.heap.size (Nat.le_refl _) #[.int .u8 8, .int .u8 0, .int .u8 247, .int .u8 254, .int .u8 0, .int .u8 0, .int .u8 0, .int .u8 1] [8, 0, 247, 254, 0, 0, 0, 1] rfl (by unfold maxLen; simp) _ rfl 8 rfl).buf (bytes_lit (by decide))
  have g9 : Grew w8 (w8.alloc (.cells #[.int .u8 8, .int .u8 0, .int .u8 247, .int .u8 254, .int .u8 0, .int .u8 0, .int .u8 0, .int .u8 1] 5)) := (Grew.refl _).alloc _
  generalize (w8.alloc (.cells #[.int .u8 8, .int .u8 0, .int .u8 247, .int .u8 254, .int .u8 0, .int .u8 0, .int .u8 0, .int .u8 1] 5)) = w9 at *
  generalize w8.heap.size = B9 at *
  refine (hd_echo be1).mono ?_
  rintro e w10 ⟨u10, rfl, he2, g10⟩
  obtain ⟨pe, ke, rfl, _, _⟩ := he2.shape
  go_upto_region 7 with fail
  have HE2 := Lib.hid he2
  have g810 := g9.trans g10
  clear be1 he2 g9 g10
  go_wp2_with fail
  have be3 : Buf (w10.alloc (.cells #[.int .u8 8, .int .u8 0, .int .u8 0, .int .u8 0, .int .u8 0, .int .u8 0, .int .u8 0, .int .u8 1] 5)) (.slice (some ⟨w10.heap.size, 0, none⟩) 8 8) [8, 0, 0, 0, 0, 0, 0, 1] := (Row.lit w10 w10.heap.size (Nat.le_refl _) #[.int .u8 8, .int .u8 0, .int .u8 0, .int .u8 0, .int .u8 0, .int .u8 0, .int .u8 0, .int .u8 1] [8, 0, 0, 0, 0, 0, 0, 1] rfl (by unfold maxLen; simp) _ rfl 8 rfl).buf (bytes_lit (by decide))
  have g11 : Grew w10 (w10.alloc (.cells #[.int .u8 8, .int .u8 0, .int .u8 0, .int .u8 0, .int .u8 0, .int .u8 0, .int .u8 0, .int .u8 1] 5)) := (Grew.refl _).alloc _
  generalize (w10.alloc (.cells #[.int .u8 8, .int .u8 0, .int .u8 0, .int .u8 0, .int .u8 0, .int .u8 0, .int .u8 0, .int .u8 1] 5)) = w11 at *
  generalize w10.heap.size = B11 at *
  refine (hd_echo_no be3).mono ?_
  rintro e w12 ⟨u12, rfl, he4, g12⟩
  go_upto_region 8 with fail
  have g1012 := g11.trans g12
  have g512 := (g67.trans g810).trans g1012
  have g612 := (g7a.trans g810).trans g1012
  clear be3 he4 g11 g12
  have hA1 := hX15.grew g512
  have hA4 := hX4.grew (g512)
  have hA4a := hA4.alloc (.cells #[.int .i64 0, .int .i64 5, .int .i64 0, .int .i64 0, .int .i64 64, .int .i64 17, .int .u32 1, .int .u32 2, .slice none 0 0, .slice (some ⟨B0, 0, none⟩) 100 100] 25)
  have GA : Grew w12 (w12.alloc (.cells #[.int .i64 0, .int .i64 5, .int .i64 0, .int .i64 0, .int .i64 64, .int .i64 17, .int .u32 1, .int .u32 2, .slice none 0 0, .slice (some ⟨B0, 0, none⟩) 100 100] 25)) := (Grew.refl _).alloc _
  have GB : Grew w12 ((w12.alloc (.cells #[.int .i64 0, .int .i64 5, .int .i64 0, .int .i64 0, .int .i64 64, .int .i64 17, .int .u32 1, .int .u32 2, .slice none 0 0, .slice (some ⟨B0, 0, none⟩) 100 100] 25)).alloc (.cells #[.int .i64 0, .int .i64 5, .int .i64 0, .int .i64 0, .int .i64 64, .int .i64 17, .int .u32 1, .int .u32 2, .slice p1 0 k1, .slice p2 100 k2] 25)) := GA.alloc _
  have HPB := Lib.hid ((HP5.out.grew g512).grew GB)
  have HQB := Lib.hid ((HQ5.out.grew g512).grew GB)
  have HEB := Lib.hid ((HE2.out.grew g1012).grew GB)
  obtain ⟨r1, r2, r3, r4, er, hr1, hr2⟩ := HPB.out.shape
  obtain ⟨t1, t2, t3, t4, et, ht1, ht2⟩ := HQB.out.shape
  simp only [pkV, Value.agg.injEq, Array.mk.injEq, List.cons.injEq, Value.slice.injEq, and_true, true_and] at er et
  obtain ⟨-, -, -, -, -, -, -, -, ⟨rfl, -, rfl⟩, rfl, -, rfl⟩ := er
  obtain ⟨-, -, -, -, -, -, -, -, ⟨rfl, -, rfl⟩, rfl, -, rfl⟩ := et
  have HSM := Lib.hid (same17_c (f := pH) (A := w12.heap.size) (B := w12.heap.size + 1) (T1 := 25) (T2 := 25) ((Blk.new w12 #[.int .i64 0, .int .i64 5, .int .i64 0, .int .i64 0, .int .i64 64, .int .i64 17, .int .u32 1, .int .u32 2, .slice none 0 0, .slice (some ⟨B0, 0, none⟩) 100 100] 25 w12.heap.size rfl).alloc (.cells #[.int .i64 0, .int .i64 5, .int .i64 0, .int .i64 0, .int .i64 64, .int .i64 17, .int .u32 1, .int .u32 2, .slice p1 0 k1, .slice p2 100 k2] 25)) (Blk.new (w12.alloc (.cells #[.int .i64 0, .int .i64 5, .int .i64 0, .int .i64 0, .int .i64 64, .int .i64 17, .int .u32 1, .int .u32 2, .slice none 0 0, .slice (some ⟨B0, 0, none⟩) 100 100] 25)) #[.int .i64 0, .int .i64 5, .int .i64 0, .int .i64 0, .int .i64 64, .int .i64 17, .int .u32 1, .int .u32 2, .slice p1 0 k1, .slice p2 100 k2] 25 (w12.heap.size + 1) (by simp)) hr1 hr2 ht1 ht2)
  clear hr1 hr2 ht1 ht2 HPB HQB
  have y0 := hA1.cell 0
  have y1 := hA1.cell 1
  have y2 := hA1.cell 2
  have y3 := hA1.cell 3
  have y4 := hA1.cell 4
  have y5 := hA1.cell 5
  have y6 := hA1.cell 6
  have y7 := hA1.cell 7
  have y8 := hA1.cell 8
  have y9 := hA1.cell 9
  have z0 := hA4a.cell 0
  have z1 := hA4a.cell 1
  have z2 := hA4a.cell 2
  have z3 := hA4a.cell 3
  have z4 := hA4a.cell 4
  have z5 := hA4a.cell 5
  have z6 := hA4a.cell 6
  have z7 := hA4a.cell 7
  have z8 := hA4a.cell 8
  have z9 := hA4a.cell 9
  go_wp2_with (first
    | (go_at_call 13; refine HSM.out.mono ?_; rintro e w13 ⟨rfl, g13⟩; have gc := g612.trans (GB.trans g13); have c2 : w13.cell? ⟨gl, 2, none⟩ = some (.int .i64 1) := (by rw [(gcell gc).1 gl 2 HGL.out]; exact HCS.out.1); have c22 : w13.cell? ⟨gl, 22, none⟩ = some (.int .i64 0) := (by rw [(gcell gc).1 gl 22 HGL.out]; exact HCS.out.2.1); have c23 : w13.cell? ⟨gl, 23, none⟩ = some (.int .i64 12) := (by rw [(gcell gc).1 gl 23 HGL.out]; exact HCS.out.2.2.1); have c29 : w13.cell? ⟨gl, 29, none⟩ = some (.slice b3 4 b4) := (by rw [(gcell gc).1 gl 29 HGL.out]; exact HCS.out.2.2.2))
    | (go_at_call 12; refine (sameB_c _ ((HEB.out.grew g13).grew ((Grew.refl w13).alloc _)) ((Row.lit w13 w13.heap.size (Nat.le_refl _) #[.int .u8 0, .int .u8 0, .int .u8 255, .int .u8 254, .int .u8 0, .int .u8 0, .int .u8 0, .int .u8 1] e2 rfl (by unfold maxLen; decide) _ rfl 8 rfl).buf (bytes_lit (by decide)))).mono ?_; rintro e w14 ⟨rfl, h14⟩; subst h14; rw [decide_eq_true (show e2 = e2 from rfl)]))
  go_ret
  exact ⟨rfl, gW.trans (G5.trans (g512.trans (GB.trans (g13.alloc _))))⟩
end Go.Proofs.YtalbdeifkbfnbaaDoor
