/-
  What must come at any rate.
-/
import Derived.Test.YtolfaelalmmefaaDoorEtJ
set_option maxRecDepth 4000
set_option linter.unusedVariables false
set_option linter.unusedSimpArgs false
namespace Go.Proofs.YtolfaelalmmefaaDoor
open Go.RowKit

set_option maxHeartbeats 2000000 in
theorem heads_c {W w : World} {a0 a1 a2 : Addr} (gW : Grew W w) (sn : Sen w a0 a1 a2) : Calls Tryd.prog 8 #[] w fun e w' => e = .returned (.bool true) ∧ Grew W w' := by
  go_enter Tryd.func8, Tryd.ntmps8
  go_upto_region 2 with (refine wpList_make_b rfl (.const (.int .i64 6)) (.const (.int .i64 6)) rfl (Grew.refl _) .i64 .i64 _ _ 6 rfl rfl rfl rfl (by omega) ?_; intro w1 HR g1)
  have hm1 : Buf w1 (.slice (some ⟨w.heap.size, 0, none⟩) 6 6) z6 := HR.out.buf (bytes_lit (by decide))
  clear HR
  generalize w.heap.size = B0 at *
  go_wp2_with fail
  have b7 : Buf (w1.alloc (.cells #[.int .u8 7] 5)) (.slice (some ⟨w1.heap.size, 0, none⟩) 1 1) [7] := (Row.lit w1 w1.heap.size (Nat.le_refl _) #[.int .u8 7] [7] rfl (by unfold maxLen; simp) _ rfl 1 rfl).buf (bytes_lit (by decide))
  have g2 : Grew w1 (w1.alloc (.cells #[.int .u8 7] 5)) := (Grew.refl _).alloc _
  generalize (w1.alloc (.cells #[.int .u8 7] 5)) = w2 at *
  generalize w1.heap.size = B2 at *
  have hm2 := hm1.grew g2
  refine (hd_put (Fr.of hm2 hm2 b7 (by unfold intI; omega))).mono ?_
  rintro e w3 ⟨pb, kb, rfl, hb3, g3⟩
  have G3 := (g1.trans g2).trans g3
  have HM3 := Lib.hid (hm2.grew g3)
  have HB3 := Lib.hid hb3
  clear b7 hm1 hm2 hb3
  go_wp2_with fail
  refine (hd_get (sn.grew G3) HB3.out).mono ?_
  rintro e w4 ⟨p1, k1, p2, k2, p3, k3, rfl, g4⟩
  go_upto_region 4 with fail
  have hX4 : Blk (w4.alloc (.cells #[.slice p1 6 k1, .slice p2 6 k2, .int .i64 2054, .slice p3 1 k3] 25)) w4.heap.size #[.slice p1 6 k1, .slice p2 6 k2, .int .i64 2054, .slice p3 1 k3] 25 := Blk.new _ _ _ _ rfl
  have g5 : Grew w4 (w4.alloc (.cells #[.slice p1 6 k1, .slice p2 6 k2, .int .i64 2054, .slice p3 1 k3] 25)) := (Grew.refl _).alloc _
  generalize (w4.alloc (.cells #[.slice p1 6 k1, .slice p2 6 k2, .int .i64 2054, .slice p3 1 k3] 25)) = w5 at *
  generalize hlX4 : w4.heap.size = X4 at *
  have G5 := (G3.trans g4).trans g5
  have hb5 := HB3.out.grew (g4.trans g5)
  obtain ⟨a', c', hcut, x1, x2, hrun, x4⟩ := hb5.run_cut (lo := 0) (hi := 7) (by decide) (by decide)
  have hrun : ∀ w', (Instr.sliceAt 22 (.slice pb 15 kb) none (some (.int .i64 7)) none).run Tryd.prog w' = .ok (.slice a' 7 c') w' := hrun rfl .i64
  clear x1 x2 x4 hb5
  go_wp2_with fail
  refine (hd_short (sn.grew G5) (by exact hcut)).mono ?_
  rintro e w6 ⟨q1, l1, q2, l2, q3, l3, rfl, g6⟩
  clear hrun hcut
  go_upto_region 5 with fail
  have hX6 : Blk (w6.alloc (.cells #[.slice q1 0 l1, .slice q2 0 l2, .int .i64 0, .slice q3 0 l3] 25)) w6.heap.size #[.slice q1 0 l1, .slice q2 0 l2, .int .i64 0, .slice q3 0 l3] 25 := Blk.new _ _ _ _ rfl
  have g7 : Grew w6 (w6.alloc (.cells #[.slice q1 0 l1, .slice q2 0 l2, .int .i64 0, .slice q3 0 l3] 25)) := (Grew.refl _).alloc _
  generalize (w6.alloc (.cells #[.slice q1 0 l1, .slice q2 0 l2, .int .i64 0, .slice q3 0 l3] 25)) = w7 at *
  generalize hlX6 : w6.heap.size = X6 at *
  have G7 := (G5.trans g6).trans g7
  have hX47 := hX4.grew (g6.trans g7)
  have hm7 := HM3.out.grew ((g4.trans g5).trans (g6.trans g7))
  go_wp2_with fail
  refine (hd_putA (Ar.of hm7 hm7 (by unfold intI; omega) (by unfold u32I; omega) (by unfold u32I; omega))).mono ?_
  rintro e w8 ⟨pc, kc, rfl, hc8, g8⟩
  have G8 := G7.trans g8
  have HC8 := Lib.hid hc8
  clear hc8 hm7
  go_upto_region 6 with fail
  have hE : Row (w8.alloc (.cells #[] 5)) w8.heap.size (.slice (some ⟨w8.heap.size, 0, none⟩) 0 0) [] := Row.lit w8 w8.heap.size (Nat.le_refl _) #[] [] rfl (by unfold maxLen; simp) _ rfl 0 rfl
  have HE := Lib.hid hE
  have HC9 := Lib.hid (HC8.out.grew ((Grew.refl w8).alloc (.cells #[] 5)))
  have ge : Grew w8 (w8.alloc (.cells #[] 5)) := (Grew.refl w8).alloc _
  clear hE
  go_upto_region 7 with (first
    | (refine wpList_append_b (W := w8) rfl (.tmp 47) (.tmp 48) rfl ge HE.out HC9.out (by rfl) (by rfl) (by decide) ?_; intro v9 w9 R9 g9 y9; clear y9)
    | (refine wpList_append_b (W := w8) rfl (.tmp 49) (.tmp 50) rfl (g9.alloc _) (R9.out.alloc _) ((Row.lit w9 w9.heap.size (Nat.le_refl _) #[.int .u8 1] [1] rfl (by unfold maxLen; simp) _ rfl 1 rfl).buf (bytes_lit (by decide))) (by rfl) (by rfl) (by decide) ?_; intro v10 w10 R10 g10 y10; clear y10; have hc10 : Buf w10 v10 hC2 := R10.out.buf (bytes_lit (by decide)); have HC10 := Lib.hid hc10; clear hc10)
    | (go_at_call 12; refine (hd_getA (sn.grew (G8.trans g10)) HC10.out).mono ?_; rintro e w11 ⟨r1, n1, r2, n2, rfl, har, g11⟩))
  have har' := har.grew ((Grew.refl w11).alloc (.cells #[.int .i64 1, .slice r1 6 n1, .int .u32 0, .slice r2 6 n2, .int .u32 5] 34))
  have hX10 : Blk (w11.alloc (.cells #[.int .i64 1, .slice r1 6 n1, .int .u32 0, .slice r2 6 n2, .int .u32 5] 34)) w11.heap.size #[.int .i64 1, .slice r1 6 n1, .int .u32 0, .slice r2 6 n2, .int .u32 5] 34 := Blk.new _ _ _ _ rfl
  have g12 : Grew w11 (w11.alloc (.cells #[.int .i64 1, .slice r1 6 n1, .int .u32 0, .slice r2 6 n2, .int .u32 5] 34)) := (Grew.refl _).alloc _
  generalize (w11.alloc (.cells #[.int .i64 1, .slice r1 6 n1, .int .u32 0, .slice r2 6 n2, .int .u32 5] 34)) = w12 at *
  generalize hlX10 : w11.heap.size = X10 at *
  have g8c := (g10.trans g11).trans g12
  have G12 := G8.trans g8c
  have HAR := Lib.hid har'
  have hX412 := hX47.grew (g8.trans g8c)
  have HM12 := Lib.hid (HM3.out.grew (((g4.trans g5).trans (g6.trans g7)).trans (g8.trans g8c)))
  clear har har' HE HC9 ge R9 g9 R10 HC10 g10 g11 g12 hX6 hX47 hX4 HC8
  have y0 := hX10.cell 0
  have y1 := hX10.cell 1
  have y2 := hX10.cell 2
  have y3 := hX10.cell 3
  have y4 := hX10.cell 4
  go_wp2_with fail
  have b6 : Buf (w12.alloc (.cells #[.int .u8 1, .int .u8 2, .int .u8 3, .int .u8 4, .int .u8 5, .int .u8 6] 5)) (.slice (some ⟨w12.heap.size, 0, none⟩) 6 6) [1, 2, 3, 4, 5, 6] := (Row.lit w12 w12.heap.size (Nat.le_refl _) #[.int .u8 1, .int .u8 2, .int .u8 3, .int .u8 4, .int .u8 5, .int .u8 6] [1, 2, 3, 4, 5, 6] rfl (by unfold maxLen; simp) _ rfl 6 rfl).buf (bytes_lit (by decide))
  have g13 : Grew w12 (w12.alloc (.cells #[.int .u8 1, .int .u8 2, .int .u8 3, .int .u8 4, .int .u8 5, .int .u8 6] 5)) := (Grew.refl _).alloc _
  generalize (w12.alloc (.cells #[.int .u8 1, .int .u8 2, .int .u8 3, .int .u8 4, .int .u8 5, .int .u8 6] 5)) = w13 at *
  generalize w12.heap.size = B13 at *
  refine (hd_ans (HAR.out.grew g13) b6).mono ?_
  rintro e w14 ⟨s1, m1, s2, m2, rfl, has, g14⟩
  clear y0 y1 y2 y3 y4
  go_upto_region 8 with fail
  have has' := has.grew ((Grew.refl w14).alloc (.cells #[.int .i64 2, .slice s1 6 m1, .int .u32 5, .slice s2 6 m2, .int .u32 0] 34))
  have hX12 : Blk (w14.alloc (.cells #[.int .i64 2, .slice s1 6 m1, .int .u32 5, .slice s2 6 m2, .int .u32 0] 34)) w14.heap.size #[.int .i64 2, .slice s1 6 m1, .int .u32 5, .slice s2 6 m2, .int .u32 0] 34 := Blk.new _ _ _ _ rfl
  have g15 : Grew w14 (w14.alloc (.cells #[.int .i64 2, .slice s1 6 m1, .int .u32 5, .slice s2 6 m2, .int .u32 0] 34)) := (Grew.refl _).alloc _
  generalize (w14.alloc (.cells #[.int .i64 2, .slice s1 6 m1, .int .u32 5, .slice s2 6 m2, .int .u32 0] 34)) = w15 at *
  generalize hlX12 : w14.heap.size = X12 at *
  have g12c := (g13.trans g14).trans g15
  have HAS := Lib.hid has'
  clear has has' b6
  have y0 := hX12.cell 0
  have y1 := hX12.cell 1
  have y2 := hX12.cell 2
  have y3 := hX12.cell 3
  have y4 := hX12.cell 4
  go_wp2_with fail
  refine (hd_no HAS.out (HM12.out.grew g12c)).mono ?_
  rintro e w16 ⟨t1, o1, t2, o2, rfl, g16⟩
  clear y0 y1 y2 y3 y4
  go_upto_region 9 with fail
  have hX12' := hX12.grew (g16.alloc (.cells #[.int .i64 0, .slice t1 0 o1, .int .u32 0, .slice t2 0 o2, .int .u32 0] 34))
  have hX10' := hX10.grew (g12c.trans (g16.alloc (.cells #[.int .i64 0, .slice t1 0 o1, .int .u32 0, .slice t2 0 o2, .int .u32 0] 34)))
  have hX4' := hX412.grew (g12c.trans (g16.alloc (.cells #[.int .i64 0, .slice t1 0 o1, .int .u32 0, .slice t2 0 o2, .int .u32 0] 34)))
  have GE := ((gW.trans G12).trans g12c).trans (g16.alloc (.cells #[.int .i64 0, .slice t1 0 o1, .int .u32 0, .slice t2 0 o2, .int .u32 0] 34))
  generalize w16.alloc (.cells #[.int .i64 0, .slice t1 0 o1, .int .u32 0, .slice t2 0 o2, .int .u32 0] 34) = w17 at *
  clear hX12 hX10 hX412 G12 g12c g16
  have u1 := hX4'.cell 2
  have u2 := hX10'.cell 4
  have u3 := hX12'.cell 0
  have u4 := hX12'.cell 2
  go_wp2_with fail
  go_ret
  exact ⟨rfl, GE⟩
end Go.Proofs.YtolfaelalmmefaaDoor
