/-
  What must come at any rate (law 18), from what the program's Put and Get answer.
-/
import Derived.Test.YtcaafinjphionaaDoorUdW
import Derived.Test.YtcaafinjphionaaDoorUdQ
set_option maxRecDepth 4000
set_option linter.unusedVariables false
set_option linter.unusedSimpArgs false
namespace Go.Proofs.YtcaafinjphionaaDoor
open Go.RowKit

def uH : UD := ⟨53, 1024, []⟩
def bU : List Int := [0, 53, 4, 0, 0, 8, 251, 166]
theorem bU_put : putUB uH 1 2 = bU := by kernel_rfl
theorem bU_putE : putUE uH = 0 := by kernel_rfl
theorem bU_getE : getUE (bU ++ [7]) 1 2 = 0 := by kernel_rfl
theorem bU_get : getU (bU ++ [7]) 1 2 = uH := by kernel_rfl
theorem bU_sumE : getUE bU 1 3 = 162 := by kernel_rfl
theorem bU_sum : getU bU 1 3 = zU := by unfold getU; rw [bU_sumE]; rfl
theorem bU_halfE : getUE (cutL bU 0 4) 1 2 = 160 := by kernel_rfl
theorem bU_half : getU (cutL bU 0 4) 1 2 = zU := by unfold getU; rw [bU_halfE]; rfl
theorem bU_ok : AreBytes (bU ++ [7]) := bytes_lit (by kernel_rfl)
theorem bU_argE : putUE ⟨-1, 0, []⟩ = 2 := by kernel_rfl
theorem bU_arg : putUB ⟨-1, 0, []⟩ 0 0 = [] := by kernel_rfl
theorem hd_put (hP : PutC) {w : World} : Calls Tryd.prog 7 #[.agg #[.int .i64 53, .int .i64 1024, .slice none 0 0], .int .u32 1, .int .u32 2] w fun e w' => ∃ a c, e = .returned (.tuple #[.slice a 8 c, .int .i64 0]) ∧ Buf w' (.slice a 8 c) bU ∧ Grew w w' := by
  have := hP (f := uH) 1 2 (by omega) (by omega) (by decide) (w := w) (Ud.of (a1 := none) (n1 := 0) (c1 := 0) (Buf.nil _) (by unfold intI; omega) (by unfold intI; omega))
  rw [bU_put, bU_putE] at this
  refine this.mono ?_
  rintro e w1 ⟨u, he, hb, g⟩
  obtain ⟨a, c, rfl, _, _⟩ := hb.shape
  exact ⟨a, c, he, hb, g⟩
theorem hd_arg (hP : PutC) {w : World} : Calls Tryd.prog 7 #[.agg #[.int .i64 (-1), .int .i64 0, .slice none 0 0], .int .u32 0, .int .u32 0] w fun e w' => ∃ a c, e = .returned (.tuple #[.slice a 0 c, .int .i64 2]) ∧ Grew w w' := by
  have := hP (f := ⟨-1, 0, []⟩) 0 0 (by omega) (by omega) (by decide) (w := w) (Ud.of (a1 := none) (n1 := 0) (c1 := 0) (Buf.nil _) (by unfold intI; omega) (by unfold intI; omega))
  rw [bU_arg, bU_argE] at this
  refine this.mono ?_
  rintro e w1 ⟨u, he, hb, g⟩
  obtain ⟨a, c, rfl, _, _⟩ := hb.shape
  exact ⟨a, c, he, g⟩
theorem hd_get (hG : GetC) {v : Value} {w : World} (sn : SenW w) (h : Buf w v (bU ++ [7])) : Calls Tryd.prog 9 #[v, .int .u32 1, .int .u32 2] w fun e w' => ∃ p1 k1, e = .returned (.tuple #[.agg #[.int .i64 53, .int .i64 1024, .slice p1 0 k1], .int .i64 0]) ∧ Grew w w' := by
  have := hG 1 2 (by omega) (by omega) sn (by decide) h
  rw [bU_getE, bU_get] at this
  refine this.mono ?_
  rintro e w1 ⟨u, he, hp, g⟩
  obtain ⟨p1, k1, rfl, _⟩ := hp.shape
  exact ⟨p1, k1, he, g⟩
theorem hd_sum (hG : GetC) {v : Value} {w : World} (sn : SenW w) (h : Buf w v bU) : Calls Tryd.prog 9 #[v, .int .u32 1, .int .u32 3] w fun e w' => ∃ p1 k1, e = .returned (.tuple #[.agg #[.int .i64 0, .int .i64 0, .slice p1 0 k1], .int .i64 162]) ∧ Grew w w' := by
  have := hG 1 3 (by omega) (by omega) sn (by decide) h
  rw [bU_sumE, bU_sum] at this
  refine this.mono ?_
  rintro e w1 ⟨u, he, hp, g⟩
  obtain ⟨p1, k1, rfl, _⟩ := hp.shape
  exact ⟨p1, k1, he, g⟩
theorem hd_half (hG : GetC) {v : Value} {w : World} (sn : SenW w) (h : Buf w v (cutL bU 0 4)) : Calls Tryd.prog 9 #[v, .int .u32 1, .int .u32 2] w fun e w' => ∃ p1 k1, e = .returned (.tuple #[.agg #[.int .i64 0, .int .i64 0, .slice p1 0 k1], .int .i64 160]) ∧ Grew w w' := by
  have := hG 1 2 (by omega) (by omega) sn (by decide) h
  rw [bU_halfE, bU_half] at this
  refine this.mono ?_
  rintro e w1 ⟨u, he, hp, g⟩
  obtain ⟨p1, k1, rfl, _⟩ := hp.shape
  exact ⟨p1, k1, he, g⟩
set_option maxHeartbeats 4000000 in
theorem heads_of (hP : PutC) (hG : GetC) : HeadC := by
  intro W w gW sn
  go_enter Tryd.func6, Tryd.ntmps6
  go_wp2_with fail
  refine (hd_put hP).mono ?_
  rintro e w3 ⟨pb, kb, rfl, hb3, g3⟩
  have HB3 := Lib.hid hb3
  clear hb3
  go_upto_region 2 with fail
  have ge : Grew w3 (w3.alloc (.cells #[] 5)) := (Grew.refl w3).alloc _
  have HE := Lib.hid (Row.lit w3 w3.heap.size (Nat.le_refl _) #[] [] rfl (by unfold maxLen; simp) w3.heap.size rfl 0 rfl)
  have HBE := Lib.hid (HB3.out.grew ge)
  go_wp2_with (first
    | (refine wpList_append_b (W := w3) rfl (.tmp 17) (.tmp 18) rfl ge HE.out HBE.out (by rfl) (by rfl) (by decide) ?_; intro v9 w8 R9 g9 y9; clear y9)
    | (refine wpList_append_b (W := w3) rfl (.tmp 19) (.tmp 20) rfl (g9.alloc _) (R9.out.alloc _) ((Row.lit w8 w8.heap.size (Nat.le_refl _) #[.int .u8 7] [7] rfl (by unfold maxLen; simp) _ rfl 1 rfl).buf (bytes_lit (by decide))) (by rfl) (by rfl) (by decide) ?_; intro v10 w10 R10 g10 y10; clear y10; have hc10 : Buf w10 v10 (bU ++ [7]) := R10.out.buf bU_ok; have HC10 := Lib.hid hc10; clear hc10))
  refine (hd_get hG (sn.grew (g3.trans g10)) HC10.out).mono ?_
  rintro e w4 ⟨p1, k1, rfl, g4⟩
  go_upto_region 3 with fail
  have ga : Grew w4 (w4.alloc (.cells #[.int .i64 53, .int .i64 1024, .slice p1 0 k1] 24)) := (Grew.refl _).alloc _
  have hX3 := Blk.new w4 #[.int .i64 53, .int .i64 1024, .slice p1 0 k1] 24 w4.heap.size rfl
  have G5 := ((g10.trans g4).trans ga)
  have HB5 := Lib.hid (HB3.out.grew G5)
  replace G5 := g3.trans G5
  clear R9 R10 HC10 g9 g10 g4 ga ge HE HBE HB3 g3
  generalize (w4.alloc (.cells #[.int .i64 53, .int .i64 1024, .slice p1 0 k1] 24)) = w5 at *
  generalize w4.heap.size = X3 at *
  go_wp2_with fail
  refine (hd_sum hG (sn.grew G5) HB5.out).mono ?_
  rintro e w6 ⟨p2, k2, rfl, g6⟩
  go_upto_region 4 with fail
  have ga : Grew w6 (w6.alloc (.cells #[.int .i64 0, .int .i64 0, .slice p2 0 k2] 24)) := (Grew.refl _).alloc _
  have g7 := g6.trans ga
  have hX7 := hX3.grew g7
  have HB7 := Lib.hid (HB5.out.grew g7)
  have G7 := G5.trans g7
  clear g6 ga g7 hX3 HB5 G5
  generalize (w6.alloc (.cells #[.int .i64 0, .int .i64 0, .slice p2 0 k2] 24)) = w7 at *
  generalize w6.heap.size = Xw7 at *
  go_wp2_with fail
  refine (hd_arg hP).mono ?_
  rintro e w8 ⟨p8, k8, rfl, g8⟩
  have hX8 := hX7.grew g8
  have HB8 := Lib.hid (HB7.out.grew g8)
  have G8 := G7.trans g8
  clear hX7 HB7 G7 g8
  obtain ⟨a60, k60, H60, x1, x2, hrun, x4⟩ := HB8.out.run_cut (lo := 0) (hi := 4) (by decide) (by decide)
  have hrun : ∀ w', (Instr.sliceAt 22 (.slice pb 8 kb) none (some (.int .i64 4)) none).run Tryd.prog w' = .ok (.slice a60 4 k60) w' := hrun rfl .i64
  have H6 := Lib.hid H60
  clear x1 x2 x4 H60
  go_wp2_with fail
  refine (hd_half hG (sn.grew G8) (by exact H6.out)).mono ?_
  rintro e w9 ⟨p3, k3, rfl, g9⟩
  clear hrun H6
  go_upto_region 6 with fail
  have ga : Grew w9 (w9.alloc (.cells #[.int .i64 0, .int .i64 0, .slice p3 0 k3] 24)) := (Grew.refl _).alloc _
  have g11 := g9.trans ga
  have hX11 := hX8.grew g11
  have G11 := G8.trans g11
  clear g9 ga g11 hX8 HB8 G8
  generalize (w9.alloc (.cells #[.int .i64 0, .int .i64 0, .slice p3 0 k3] 24)) = w11 at *
  generalize w9.heap.size = Xw11 at *
  have y0 := hX11.cell 0
  have y1 := hX11.cell 1
  go_wp2_with fail
  go_ret
  exact ⟨rfl, gW.trans G11⟩
end Go.Proofs.YtcaafinjphionaaDoor
