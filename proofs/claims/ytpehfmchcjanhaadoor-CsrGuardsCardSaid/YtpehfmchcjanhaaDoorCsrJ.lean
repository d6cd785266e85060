/-
  What must come at any rate ('heads' of the statements about package csr): true.
-/
import Derived.Test.YtpehfmchcjanhaaDoorCsrH
set_option linter.unusedVariables false
set_option linter.unusedSimpArgs false
namespace Go.Proofs.YtpehfmchcjanhaaDoor
open Go.RowKit

def zeroC : Nat → Int := fun _ => 0
def oneC : Nat → Int := upd zeroC 0 8264106
def supC : Nat → Int := upd zeroC 0 786722
def badC : Nat → Int := upd zeroC 7 1
theorem zero_ok : csOk zeroC := fun _ => ⟨by show (0 : Int) ≤ 0; decide, by show (0 : Int) < 18446744073709551616; decide⟩
theorem one_ok : csOk oneC := upd_ok zero_ok 0 _ (by decide) (by decide)
theorem bad_ok : csOk badC := upd_ok zero_ok 7 _ (by decide) (by decide)
theorem h_w1 : wrB zeroC 768 3 = true := by decide +kernel
theorem h_v1 : wrV zeroC 768 18446744073709551615 = oneC := by
  have : keptV 18446744073709551615 = 8264106 := by decide +kernel
  simp [wrV, this, oneC]
theorem h_r1 : rdB oneC (nmR 9) 3 = true := by decide +kernel
theorem h_x1 : valR oneC 9 = 42957937066 := by decide +kernel
theorem h_r2 : rdB oneC 768 1 = false := by decide +kernel
theorem h_w2 : wrB oneC 3072 3 = false := by decide +kernel
theorem h_w3 : wrB zeroC 256 1 = true := by decide +kernel
theorem h_v3 : wrV zeroC 256 18446744073709551615 = supC := by
  have : mrg (zeroC 0) 18446744073709551615 786722 = 786722 := by decide +kernel
  simp [wrV, this, supC]
theorem h_c1 : chkB oneC = true := by decide +kernel
theorem h_c2 : chkB badC = false := by decide +kernel

theorem chk_one {W w : World} (hg : Grew W w) : Calls Tryd.prog 8 #[csV oneC] w fun e w' => e = .returned (.bool true) ∧ Grew W w' := by
  have := check_c oneC one_ok hg
  rwa [h_c1] at this
theorem chk_bad {W w : World} (hg : Grew W w) : Calls Tryd.prog 8 #[csV badC] w fun e w' => e = .returned (.bool false) ∧ Grew W w' := by
  have := check_c badC bad_ok hg
  rwa [h_c2] at this
set_option maxRecDepth 100000 in
set_option maxHeartbeats 1000000 in
theorem heads_c {a0 a1 : Addr} {W w : World} (sn : Sen W a0 a1) (hg : Grew W w) : Calls Tryd.prog 9 #[] w fun e w' => e = .returned (.bool true) ∧ Grew W w' := by
  have hgs := hg.size
  go_enter Tryd.func9, Tryd.ntmps9
  go_wp2_with fail
  have c1 := Write_yes zeroC 768 3 18446744073709551615 (by decide) (by decide) h_w1 sn hg
  rw [h_v1] at c1
  refine c1.mono ?_
  rintro e w1 ⟨rfl, g1⟩
  clear c1
  have z1 := g1.size
  go_wp2_with (first
    | ((with_reducible refine st_csG rfl (.tmp 1) (.tmp 14) rfl rfl oneC (Blk.new w1 _ _ _ rfl) ?_ ?_ ?_ (g1.alloc _) z1 ?_); (rotate_left 3); intro w2 k2 g2 _ y2)
    | ((with_reducible refine ld_cs rfl (.tmp 1) rfl _ rfl k2 ?_ ?_); (rotate_left 1))
    | fail)
  have c2 := Read_yes oneC 9 (by decide) 3 h_r1 (sn.grew g2) (Grew.refl w2)
  rw [h_x1] at c2
  refine c2.mono ?_
  rintro e w3 ⟨rfl, g3'⟩
  clear c2 y2
  have g3 := g2.trans g3'
  have k3 := k2.grew g3'
  go_wp2_with (first
    | ((with_reducible refine ld_cs rfl (.tmp 1) rfl _ rfl k3 ?_ ?_); (rotate_left 1))
    | fail)
  refine (Read_no oneC 768 1 h_r2 (sn.grew g3) (Grew.refl w3)).mono ?_
  rintro e w4 ⟨rfl, g4'⟩
  have g4 := g3.trans g4'
  have k4 := k3.grew g4'
  go_wp2_with (first
    | ((with_reducible refine ld_cs rfl (.tmp 1) rfl _ rfl k4 ?_ ?_); (rotate_left 1))
    | fail)
  refine (Write_no oneC 3072 3 1 h_w2 (sn.grew g4) (Grew.refl w4)).mono ?_
  rintro e w5 ⟨rfl, g5'⟩
  have g5 := g4.trans g5'
  have k5 := k4.grew g5'
  have z5 := g5.size
  have n5 := k5.lt
  go_wp2_with (first
    | ((with_reducible refine st_csG rfl (.tmp 7) (.tmp 29) rfl rfl oneC (Blk.new w5 _ _ _ rfl) ?_ ?_ ?_ (g5.alloc _) z5 ?_); (rotate_left 3); intro w6 _ g6 o6 _; have k6 := o6 _ _ _ (by omega) (k5.alloc _); clear o6)
    | fail)
  have c3 := Write_yes zeroC 256 1 18446744073709551615 (by decide) (by decide) h_w3 (sn.grew g6) (Grew.refl w6)
  rw [h_v3] at c3
  refine c3.mono ?_
  rintro e w7 ⟨rfl, g7'⟩
  clear c3
  have g7 := g6.trans g7'
  have k7 := k6.grew g7'
  have z7 := g7.size
  have n7 := k7.lt
  go_wp2_with (first
    | ((with_reducible refine st_csG rfl (.tmp 9) (.tmp 34) rfl rfl supC (Blk.new w7 _ _ _ rfl) ?_ ?_ ?_ (g7.alloc _) z7 ?_); (rotate_left 3); intro w8 k8' g8 o8 _; have k8 := o8 _ _ _ (by omega) (k7.alloc _); clear o8; have hf : w8.cell? ⟨w7.heap.size, 0, none⟩ = some (.int .u64 786722) := (by rw [k8'.cell]; rfl); clear k8')
    | ((with_reducible refine lw_cs ?_ (.tmp 1) rfl _ rfl k8 ?_ ?_); rotate_left 2)
    | fail)
  refine (chk_one g8).mono ?_
  rintro e w9 ⟨rfl, g9⟩
  go_wp2_with fail
  refine (chk_bad g9).mono ?_
  rintro e w10 ⟨rfl, g10⟩
  go_wp2_with fail
  · go_ret
    exact ⟨rfl, g10⟩
  all_goals rfl
end Go.Proofs.YtpehfmchcjanhaaDoor
