/-
  What must come at any rate ('heads' of the statements about package trap): true.
-/
import Derived.Test.YtbkbbcfhmjodlaaDoorTrpJ
set_option linter.unusedVariables false
set_option linter.unusedSimpArgs false
namespace Go.Proofs.YtbkbbcfhmjodlaaDoor
open Go.RowKit

def zeroC : Nat → Int := fun _ => 0
theorem zero_ok : csOk zeroC := fun _ => ⟨by show (0 : Int) ≤ 0; decide, by show (0 : Int) < 18446744073709551616; decide⟩
def hA : Nat → Int := upd (upd zeroC 0 8) 5 257
def hB : Nat → Int := upd (upd (upd (upd hA 0 128) 8 8) 7 132) 9 5
def hP : Nat → Int := upd (upd (upd zeroC 0 8) 3 128) 4 128
def hQ : Nat → Int := upd (upd zeroC 3 128) 4 128
def hE : Nat → Int := upd zeroC 5 257
theorem hA_ok : csOk hA := upd_ok (upd_ok zero_ok 0 _ (by decide) (by decide)) 5 _ (by decide) (by decide)
theorem hB_ok : csOk hB := upd_ok (upd_ok (upd_ok (upd_ok hA_ok 0 _ (by decide) (by decide)) 8 _ (by decide) (by decide)) 7 _ (by decide) (by decide)) 9 _ (by decide) (by decide)
theorem hP_ok : csOk hP := upd_ok (upd_ok (upd_ok zero_ok 0 _ (by decide) (by decide)) 3 _ (by decide) (by decide)) 4 _ (by decide) (by decide)
theorem hQ_ok : csOk hQ := upd_ok (upd_ok zero_ok 3 _ (by decide) (by decide)) 4 _ (by decide) (by decide)
theorem hE_ok : csOk hE := upd_ok zero_ok 5 _ (by decide) (by decide)
theorem h_t : toS hA 0 8 false = false := by decide +kernel
theorem h_m : entM (stN hA) 0 = 128 := by decide +kernel
theorem h_y : whyV (kN 8) false = 8 := by decide +kernel
theorem h_x : pcV 132 = 132 := by decide +kernel
theorem h_a : entA hA 0 8 false = 256 := by decide +kernel
theorem h_e : entV hA 0 132 8 false 5 = .tuple #[csV hB, .int .i64 3, .int .u64 256] := by
  unfold entV entC entP
  rw [h_t, h_m, h_y, h_x, h_a]
  rfl
theorem h_s : stN hB = 128 := by decide +kernel
theorem h_r : mretN 128 = 136 := by decide +kernel
theorem h_p : penIc hP 3 = 7 := by decide +kernel
theorem h_b : penBc hP 3 = true := by decide +kernel
theorem h_q : penBc hQ 3 = false := by decide +kernel
theorem h_z : entA hE 3 7 true = 284 := by decide +kernel

set_option maxRecDepth 100000 in
set_option maxHeartbeats 2000000 in
theorem heads_c {W w : World} (so : Ord W) (hg : Grew W w) : Calls Tryd.prog 9 #[] w fun e w' => e = .returned (.bool true) ∧ Grew W w' := by
  have hgs := hg.size
  go_enter Tryd.func9, Tryd.ntmps9
  go_wp2_with fail
  have c1 := enter_p hA hA_ok 0 132 8 false 5 hg
  rw [h_e] at c1
  refine c1.mono ?_
  rintro e w1 ⟨rfl, g1⟩
  clear c1
  have z1 := g1.size
  go_wp2_with (first
    | ((with_reducible refine st_csG rfl (.tmp 1) (.tmp 17) rfl rfl hB (Blk.new w1 _ _ _ rfl) ?_ ?_ ?_ (g1.alloc _) z1 ?_); (rotate_left 3); intro w2 k2 g2 _ y2)
    | ((with_reducible refine ld_cs rfl (.tmp 1) rfl _ rfl k2 ?_ ?_); (rotate_left 1))
    | fail)
  have c2 := mret_p hB hB_ok (Grew.refl w2)
  rw [h_s, h_r] at c2
  refine c2.mono ?_
  rintro e w3 ⟨rfl, g3'⟩
  clear c2 y2
  have g3 := g2.trans g3'
  have k3 := k2.grew g3'
  have z3 := g3.size
  have n3 := k3.lt
  clear g3'
  go_wp2_with (first
    | ((with_reducible refine st_csG rfl (.tmp 4) (.tmp 23) rfl rfl (upd hB 0 136) (Blk.new w3 _ _ _ rfl) ?_ ?_ ?_ (g3.alloc _) z3 ?_); (rotate_left 3); intro w4 k4 g4 o4 _; have j4 := o4 _ _ _ (by omega) (k3.alloc _); clear o4)
    | fail)
  have c3 := pend_p hP hP_ok 3 (so.grew g4) (Grew.refl w4)
  rw [h_p, h_b] at c3
  refine c3.mono ?_
  rintro e w5 ⟨rfl, g5'⟩
  clear c3
  have g5 := g4.trans g5'
  have k5 := k4.grew g5'
  have j5 := j4.grew g5'
  clear g5' k4 j4 k2 k3 g4 g3 g2 g1 z3 z1 n3
  go_wp2_with fail
  have c4 := pend_p hQ hQ_ok 3 (so.grew g5) (Grew.refl w5)
  rw [h_q] at c4
  refine c4.mono ?_
  rintro e w6 ⟨rfl, g6'⟩
  clear c4
  have g6 := g5.trans g6'
  have k6 := k5.grew g6'
  have j6 := j5.grew g6'
  clear g6' k5 j5 g5
  go_wp2_with fail
  have c5 := enter_p hE hE_ok 3 0 7 true 0 (Grew.refl w6)
  unfold entV at c5
  rw [h_z] at c5
  generalize entC hE 3 0 7 true 0 = d at c5
  refine c5.mono ?_
  rintro e w7 ⟨rfl, g7'⟩
  clear c5
  have g7 := g6.trans g7'
  have k7 := k6.grew g7'
  have j7 := j6.grew g7'
  have z7 := g7.size
  have n7 := k7.lt
  have m7 := j7.lt
  clear g7' k6 j6 g6
  go_upto_region 6 with (first
    | ((with_reducible refine st_csG rfl (.tmp 11) (.tmp 39) rfl rfl d (Blk.new w7 _ _ _ rfl) ?_ ?_ ?_ (g7.alloc _) z7 ?_); (rotate_left 3); intro w8 k8 g8 o8 _; have i8 := o8 _ _ _ (by omega) (k7.alloc _); have j8 := o8 _ _ _ (by omega) (j7.alloc _); clear o8)
    | fail)
  have y8 : w8.cell? ⟨w1.heap.size, 8, none⟩ = some (.int .u64 8) := by rw [j8.cell]; rfl
  have y9 : w8.cell? ⟨w1.heap.size, 9, none⟩ = some (.int .u64 5) := by rw [j8.cell]; rfl
  have y0 : w8.cell? ⟨w1.heap.size, 0, none⟩ = some (.int .u64 128) := by rw [j8.cell]; rfl
  have x0 : w8.cell? ⟨w3.heap.size, 0, none⟩ = some (.int .u64 136) := by rw [i8.cell]; rfl
  clear k8 i8 j8 k7 j7
  go_wp2_with fail
  · go_ret
    exact ⟨rfl, g8⟩
  all_goals first | rfl | skip
end Go.Proofs.YtbkbbcfhmjodlaaDoor
