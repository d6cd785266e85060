/-
  What must come at any rate ('heads' of the statements about package nic), walked.
-/
import Derived.Test.YtoehdhhodidehaaRows
import Derived.Test.YtoehdhhodidehaaNcW
import Derived.WalkKit
import Derived.Outline
import Derived.Handy
import Derived.StillTailTactics
import Derived.Deep.QuietTactic
import Derived.BigQuiet
import Derived.Deep.DeepCutAuto
import Derived.Deep.RegionHeld3
import Derived.Great.BuildSlice
import Derived.Deep.WholeRow
import Derived.Lib.SliceRun
import Derived.BigFrame
set_option maxRecDepth 4000
set_option linter.unusedVariables false
set_option linter.unusedSimpArgs false
namespace Go.Proofs.Ytoehdhhodidehaa
open Go.RowKit

set_option maxHeartbeats 8000000 in
theorem heads_c {W w : World} (g : Grew W w) : Calls Try.prog 10 #[] w fun e w' => e = .returned (.bool true) ∧ Grew W w' := by
  go_enter Try.func10, Try.ntmps10
  go_wp2_with fail
  refine (hd_1 (Row.buf (Row.lit w w.heap.size (Nat.le_refl _) #[.int .u8 1, .int .u8 2, .int .u8 3, .int .u8 4, .int .u8 5, .int .u8 6] hM rfl (by simp [maxLen, hM]) _ rfl 6 rfl) hM_ok)).mono ?_
  rintro e w1 ⟨b0, j0, rfl, H0, g1⟩
  have G1 := (g.alloc (.cells #[.int .u8 1, .int .u8 2, .int .u8 3, .int .u8 4, .int .u8 5, .int .u8 6] 5)).trans g1
  clear g1
  go_upto_region 2 with (first | (refine al_nc rfl rfl ?_; intro wa kA0 gA) | (refine st_nc rfl (.tmp 1) (.tmp 23) rfl rfl hc0 kA0 rfl (by rfl) (by rfl) ⟨_, _, _, rfl⟩ ?_; intro wb kA oA))
  have gA2 : Grew w1 wb := oA.grew gA (Nat.le_refl _)
  have HA := Lib.hid (H0.out.grew gA2)
  have G2 := G1.trans gA2
  have lA : W.heap.size ≤ w1.heap.size := G1.size
  clear kA0 gA oA gA2 H0 G1
  generalize w1.heap.size = A at *
  go_wp2_with fail
  refine hd_2.mono ?_
  rintro e w2 ⟨rfl, g2⟩
  replace kA := kA.grew g2
  replace HA := Lib.hid (HA.out.grew g2)
  replace G2 := G2.trans g2
  clear g2
  go_upto_region 3 with (first | (refine al_nc rfl rfl ?_; intro wc kB0 gB) | (refine st_nc rfl (.tmp 3) (.tmp 27) rfl rfl zeroC kB0 rfl (by rfl) (by rfl) ⟨_, _, _, rfl⟩ ?_; intro wd kB oB))
  have gB2 : Grew w2 wd := oB.grew gB (Nat.le_refl _)
  replace kA := kA.grew gB2
  replace HA := Lib.hid (HA.out.grew gB2)
  have G3 := G2.trans gB2
  clear kB0 gB oB gB2 G2 kB
  go_wp2_with (refine ld_nc rfl (.tmp 1) rfl _ rfl kA (by rfl) ?_)
  refine (hd_st hm0 0 5 (by decide) (by decide) (by kernel_rfl) HA.out).mono ?_
  rintro e w3 ⟨b3, j3, rfl, H3, g3⟩
  replace kA := kA.grew g3
  replace G3 := G3.trans g3
  clear g3 HA
  go_upto_region 4 with (refine st_nc rfl (.tmp 1) (.tmp 32) rfl rfl hc1 kA rfl (by rfl) (by rfl) ⟨_, _, _, rfl⟩ ?_; intro v3 kA' oA)
  have HA := Lib.hid (H3.out.only oA kA (nb_nc _ _ _ _))
  replace G3 := oA.grew G3 lA
  clear kA H3 oA
  have kA := kA'
  clear kA'
  go_wp2_with (refine ld_nc rfl (.tmp 1) rfl _ rfl kA (by rfl) ?_)
  refine (hd_st hm1 12 2147483648 (by decide) (by decide) (by kernel_rfl) HA.out).mono ?_
  rintro e w4 ⟨b4, j4, rfl, H4, g4⟩
  replace kA := kA.grew g4
  replace G3 := G3.trans g4
  clear g4 HA
  go_upto_region 5 with (refine st_nc rfl (.tmp 1) (.tmp 37) rfl rfl hc2 kA rfl (by rfl) (by rfl) ⟨_, _, _, rfl⟩ ?_; intro v4 kA' oA)
  have HA := Lib.hid (H4.out.only oA kA (nb_nc _ _ _ _))
  replace G3 := oA.grew G3 lA
  clear kA H4 oA
  have kA := kA'
  clear kA'
  go_wp2_with (refine ld_nc rfl (.tmp 1) rfl _ rfl kA (by rfl) ?_)
  refine (hd_st hm2 16 2 (by decide) (by decide) (by kernel_rfl) HA.out).mono ?_
  rintro e w5 ⟨b5, j5, rfl, H5, g5⟩
  replace kA := kA.grew g5
  replace G3 := G3.trans g5
  clear g5 HA
  go_upto_region 6 with (refine st_nc rfl (.tmp 1) (.tmp 42) rfl rfl hc3 kA rfl (by rfl) (by rfl) ⟨_, _, _, rfl⟩ ?_; intro v5 kA' oA)
  have HA := Lib.hid (H5.out.only oA kA (nb_nc _ _ _ _))
  replace G3 := oA.grew G3 lA
  clear kA H5 oA
  have kA := kA'
  clear kA'
  go_wp2_with (refine ld_nc rfl (.tmp 1) rfl _ rfl kA (by rfl) ?_)
  refine (hd_st hm3 24 1 (by decide) (by decide) (by kernel_rfl) HA.out).mono ?_
  rintro e w6 ⟨b6, j6, rfl, H6, g6⟩
  replace kA := kA.grew g6
  replace G3 := G3.trans g6
  clear g6 HA
  go_upto_region 7 with (refine st_nc rfl (.tmp 1) (.tmp 47) rfl rfl hc4 kA rfl (by rfl) (by rfl) ⟨_, _, _, rfl⟩ ?_; intro v6 kA' oA)
  have HA := Lib.hid (H6.out.only oA kA (nb_nc _ _ _ _))
  replace G3 := oA.grew G3 lA
  clear kA H6 oA
  have kA := kA'
  clear kA'
  have sz0 := G3.size
  go_upto_region 8 with (first | (refine wpList_make_b rfl (.const (.int .i64 64)) (.const (.int .i64 64)) rfl (Grew.refl _) .i64 .i64 _ _ 64 rfl rfl rfl rfl (by omega) ?_; intro w7 HR7 g7) | (refine al_rm rfl rfl ?_; intro we kM0 gM) | (refine st_rm rfl (.tmp 6) (.tmp 50) rfl rfl kM0 rfl (by rfl) (by rfl) ⟨_, _, _, rfl⟩ ?_; intro wf kM oM))
  have g8 : Grew w7 wf := oM.grew gM (Nat.le_refl _)
  have lA2 := kA.lt
  replace kA := kA.grew (g7.trans g8)
  replace HA := Lib.hid (HA.out.grew (g7.trans g8))
  have HX := Lib.hid ((HR7.out.buf (AreBytes.zeros 64)).grew g8)
  have lM : W.heap.size ≤ w7.heap.size := (G3.trans g7).size
  replace G3 := G3.trans (g7.trans g8)
  have nAM : A ≠ w7.heap.size := by have := g7.size; omega
  clear sz0 HR7 g7 kM0 gM oM g8 lA2
  generalize w7.heap.size = M at *
  go_wp2_with (refine ld_rm rfl (.tmp 6) rfl _ rfl kM (by rfl) ?_)
  have gl := (Grew.refl wf).alloc (.cells #[.int .u8 32, .int .u8 0, .int .u8 0, .int .u8 128, .int .u8 0, .int .u8 0, .int .u8 0, .int .u8 0, .int .u8 14, .int .u8 0, .int .u8 1, .int .u8 0, .int .u8 0, .int .u8 0, .int .u8 0, .int .u8 0] 5)
  refine (hd_fill (HX.out.grew gl) (Row.buf (Row.lit wf wf.heap.size (Nat.le_refl _) #[.int .u8 32, .int .u8 0, .int .u8 0, .int .u8 128, .int .u8 0, .int .u8 0, .int .u8 0, .int .u8 0, .int .u8 14, .int .u8 0, .int .u8 1, .int .u8 0, .int .u8 0, .int .u8 0, .int .u8 0, .int .u8 0] hD rfl (by simp [maxLen, hD]) _ rfl 16 rfl) hD_ok)).mono ?_
  rintro e w8 ⟨ra, rc, rfl, HX1, g8⟩
  replace g8 := gl.trans g8
  replace kA := kA.grew g8
  replace HA := Lib.hid (HA.out.grew g8)
  replace kM := kM.grew g8
  replace G3 := G3.trans g8
  clear g8 gl HX
  go_upto_region 9 with (refine st_rm rfl (.tmp 6) (.tmp 55) rfl rfl kM rfl (by rfl) (by rfl) ⟨_, _, _, rfl⟩ ?_; intro w9 kM9 o9)
  have kA9 := kA.only o9 nAM
  have HA9 := Lib.hid (HA.out.only o9 kM (nb_one _ (fun x h => by cases h)))
  have HX9 := Lib.hid (HX1.out.only o9 kM (nb_one _ (fun x h => by cases h)))
  replace G3 := o9.grew G3 lM
  clear kA HA HX1 kM o9
  go_wp2_with (first | (refine ld_nc rfl (.tmp 1) rfl _ rfl kA9 (by rfl) ?_) | (refine ld_rm rfl (.tmp 6) rfl _ rfl kM9 (by rfl) ?_))
  refine (hd_send1 HA9.out HX9.out).mono ?_
  rintro e wS ⟨s1, s2, s3, s5, s6, s8, rfl, P1, P2, P3, gS⟩
  replace G3 := G3.trans gS
  clear gS kA9 HA9 HX9 kM9
  go_upto_region 10 with (first | (refine al_nc rfl rfl ?_; intro wa kN0 gN) | (refine al_rm rfl rfl ?_; intro wb kQ0 gQ) | (refine st_nc rfl (.tmp 7) (.tmp 61) rfl rfl hS.c (kN0.grew gQ) rfl (by rfl) (by rfl) ⟨_, _, _, rfl⟩ ?_; intro wc kN oN) | (refine st_rm rfl (.tmp 8) (.tmp 62) rfl rfl (kQ0.only oN (by have := kN0.lt; omega)) rfl (by rfl) (by rfl) ⟨_, _, _, rfl⟩ ?_; intro wd kQ oQ))
  have nQN : wS.heap.size ≠ wa.heap.size := by have := kN0.lt; omega
  have gSd : Grew wS wd := oQ.grew (oN.grew (gN.trans gQ) (Nat.le_refl _)) gN.size
  have kN2 := kN.only oQ nQN
  have P1' := Lib.hid (P1.out.grew gSd)
  have P2' := Lib.hid (P2.out.grew gSd)
  have P3' := Lib.hid (P3.out.grew gSd)
  replace G3 := G3.trans gSd
  clear kN0 gN kQ0 gQ kN oN oQ P1 P2 P3 gSd nQN
  generalize wS.heap.size = N7 at *
  generalize wa.heap.size = M8 at *
  go_wp2_with (first | (refine ld_nc rfl (.tmp 7) rfl _ rfl kN2 (by rfl) ?_) | (refine ld_rm rfl (.tmp 8) rfl _ rfl kQ (by rfl) ?_))
  refine (hd_send2 P1'.out P2'.out).mono ?_
  rintro e wT ⟨c9, t1, t2, t3, t4, t5, t6, t7, t8, rfl, gT⟩
  replace kN2 := kN2.grew gT
  replace kQ := kQ.grew gT
  replace P1' := Lib.hid (P1'.out.grew gT)
  replace P2' := Lib.hid (P2'.out.grew gT)
  replace P3' := Lib.hid (P3'.out.grew gT)
  replace G3 := G3.trans gT
  clear gT
  go_upto_region 11 with (first | (refine al_nc rfl rfl ?_; intro we kU0 gU) | (refine al_rm rfl rfl ?_; intro wg kV0 gV) | (refine st_nc rfl (.tmp 11) (.tmp 69) rfl rfl c9 (kU0.grew gV) rfl (by rfl) (by rfl) ⟨_, _, _, rfl⟩ ?_; intro wh kU oU) | (refine st_rm rfl (.tmp 12) (.tmp 70) rfl rfl (kV0.only oU (by have := kU0.lt; omega)) rfl (by rfl) (by rfl) ⟨_, _, _, rfl⟩ ?_; intro wi kV oV))
  have gTi : Grew wT wi := oV.grew (oU.grew (gU.trans gV) (Nat.le_refl _)) gU.size
  replace kN2 := kN2.grew gTi
  replace kQ := kQ.grew gTi
  replace P1' := Lib.hid (P1'.out.grew gTi)
  replace P2' := Lib.hid (P2'.out.grew gTi)
  replace P3' := Lib.hid (P3'.out.grew gTi)
  replace G3 := G3.trans gTi
  clear gTi kU0 gU kV0 gV kU oU kV oV
  go_wp2_with (refine ld_nc rfl (.tmp 7) rfl _ rfl kN2 (by rfl) ?_)
  refine (hd_load P1'.out).mono ?_
  rintro e wj ⟨rfl, gj⟩
  replace kN2 := kN2.grew gj
  replace kQ := kQ.grew gj
  replace P1' := Lib.hid (P1'.out.grew gj)
  replace P2' := Lib.hid (P2'.out.grew gj)
  replace P3' := Lib.hid (P3'.out.grew gj)
  replace G3 := G3.trans gj
  clear gj
  go_upto_region 12 with fail
  go_wp2_with (first | (refine ld_nc rfl (.tmp 7) rfl _ rfl kN2 (by rfl) ?_) | (refine ld_rm rfl (.tmp 8) rfl _ rfl kQ (by rfl) ?_))
  refine (hd_recv P1'.out P2'.out P3'.out).mono ?_
  rintro e wk ⟨z1, z2, z3, z4, z5, rfl, gk⟩
  replace kN2 := kN2.grew gk
  replace kQ := kQ.grew gk
  replace P2' := Lib.hid (P2'.out.grew gk)
  replace G3 := G3.trans gk
  clear gk P1' P3'
  go_upto_region 13 with (first | (refine al_nc rfl rfl ?_; intro wl kW0 gW) | (refine al_rm rfl rfl ?_; intro wm kY0 gY) | (refine st_nc rfl (.tmp 17) (.tmp 83) rfl rfl hR.c (kW0.grew gY) rfl (by rfl) (by rfl) ⟨_, _, _, rfl⟩ ?_; intro wn kW oW) | (refine st_rm rfl (.tmp 18) (.tmp 84) rfl rfl (kY0.only oW (by have := kW0.lt; omega)) rfl (by rfl) (by rfl) ⟨_, _, _, rfl⟩ ?_; intro wo kY oY))
  have gko : Grew wk wo := oY.grew (oW.grew (gW.trans gY) (Nat.le_refl _)) gW.size
  have kW2 := kW.only oY (by have := kW0.lt; omega)
  replace kN2 := kN2.grew gko
  replace kQ := kQ.grew gko
  replace P2' := Lib.hid (P2'.out.grew gko)
  replace G3 := G3.trans gko
  clear gko kW0 gW kY0 gY kW oW kY oY
  generalize wk.heap.size = D17 at *
  obtain ⟨b, off, eb1, hx10, hb1⟩ := P2'.out.at 10 (by decide) 0 hS_10
  obtain ⟨b', off', eb2, hx12, hb2⟩ := P2'.out.at 12 (by decide) 1 hS_12
  subst eb1
  simp only [Option.some.injEq, Addr.mk.injEq, and_true] at eb2
  obtain ⟨rfl, rfl⟩ := eb2
  have yN : wo.cell? ⟨N7, 1, none⟩ = some (.int .i64 1) := (kN2.cell 1).trans (by rw [show (ncA hS.c (.slice s1 6 s2))[1]? = some (.int .i64 (hS.c 1)) from rfl, hS_1])
  have yQ := kQ.cell 0
  have yW : wo.cell? ⟨D17, 11, none⟩ = some (.int .i64 1) := (kW2.cell 11).trans (by rw [show (ncA hR.c (.slice z1 6 z2))[11]? = some (.int .i64 (hR.c 11)) from rfl, hR_11])
  go_wp2_with (refine lw_nc (by rfl) (.tmp 17) rfl _ rfl kW2 (by rfl) ?_)
  refine (hd_chk _ _ _).mono ?_
  rintro e wp ⟨rfl, gp⟩
  have kW3 := kW2.grew gp
  go_wp2_with (refine lw_nc (by rfl) (.tmp 17) rfl _ rfl kW3 (by rfl) ?_)
  refine (hd_line _ _ _).mono ?_
  rintro e wq ⟨rfl, gq⟩
  go_wp2_with fail
  go_ret
  exact ⟨rfl, (G3.trans gp).trans gq⟩
end Go.Proofs.Ytoehdhhodidehaa
