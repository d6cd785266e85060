/-
  Contracts of package rvc: the rows of the table.
-/
import Derived.Test.YtchogiglejnlhaaRvcB
namespace Go.Proofs.Ytchogiglejnlhaa
open Go.RowKit

theorem addStack_c (h : Nat) (hh : h < 65536) {W w : World} (hg : Grew W w) :
    Calls Try.prog 16 #[.int .u16 h] w fun e w' => e = .returned (.int .u32 (addStackN h : Nat)) ∧ Grew W w' := by
  by_cases e : gN h 12 [5, 4, 9, 8, 7, 6, 2, 3] = 0
  · skip
    have r : addStackN h = 0 := by unfold addStackN addStackI; rw [if_pos e]
    rw [r]
    clear r
    go_enter Try.func16, Try.ntmps16
    go_wp2_with fail
    refine (gather_l h hh 12 [5, 4, 9, 8, 7, 6, 2, 3] (by decide) (by decide) (by decide) _ rfl _ rfl hg _ rfl _).mono ?_
    rintro e w1 ⟨rfl, g1⟩
    go_wp2_with fail
    go_ret
    exact ⟨rfl, g1⟩
  · skip
    have r : addStackN h = imN 19 0 (loN h) 2 (gN h 12 [5, 4, 9, 8, 7, 6, 2, 3]) := by unfold addStackN addStackI; rw [if_neg e]
    rw [r]
    clear r
    go_enter Try.func16, Try.ntmps16
    go_wp2_with fail
    refine (gather_l h hh 12 [5, 4, 9, 8, 7, 6, 2, 3] (by decide) (by decide) (by decide) _ rfl _ rfl hg _ rfl _).mono ?_
    rintro e w1 ⟨rfl, g1⟩
    go_wp2_with fail
    refine (lo_c h hh g1).mono ?_
    rintro e w2 ⟨rfl, g2⟩
    go_wp2_with fail
    refine (immediate_n 19 0 (loN h) 2 (gN h 12 [5, 4, 9, 8, 7, 6, 2, 3]) (by decide) (by decide) (loN_lt h) (by decide) (gN_lt h 12 [5, 4, 9, 8, 7, 6, 2, 3] (Places.of _ (by decide))) g2).mono ?_
    rintro e w3 ⟨rfl, g3⟩
    go_wp2_with fail
    go_ret
    exact ⟨rfl, g3⟩
theorem loadWord_c (h : Nat) (hh : h < 65536) {W w : World} (hg : Grew W w) :
    Calls Try.prog 17 #[.int .u16 h] w fun e w' => e = .returned (.int .u32 (loadWordN h : Nat)) ∧ Grew W w' := by
  go_enter Try.func17, Try.ntmps17
  go_wp2_with fail
  refine (lo_c h hh hg).mono ?_
  rintro e w1 ⟨rfl, g1⟩
  go_wp2_with fail
  refine (up_c h hh g1).mono ?_
  rintro e w2 ⟨rfl, g2⟩
  go_wp2_with fail
  refine (word_c h hh g2).mono ?_
  rintro e w3 ⟨rfl, g3⟩
  go_wp2_with fail
  refine (immediate_n 3 2 (loN h) (upN h) (wordN h) (by decide) (by decide) (loN_lt h) (upN_lt h) (wordN_lt h) g3).mono ?_
  rintro e w4 ⟨rfl, g4⟩
  go_wp2_with fail
  go_ret
  exact ⟨rfl, g4⟩
theorem loadDouble_c (h : Nat) (hh : h < 65536) {W w : World} (hg : Grew W w) :
    Calls Try.prog 18 #[.int .u16 h] w fun e w' => e = .returned (.int .u32 (loadDoubleN h : Nat)) ∧ Grew W w' := by
  go_enter Try.func18, Try.ntmps18
  go_wp2_with fail
  refine (lo_c h hh hg).mono ?_
  rintro e w1 ⟨rfl, g1⟩
  go_wp2_with fail
  refine (up_c h hh g1).mono ?_
  rintro e w2 ⟨rfl, g2⟩
  go_wp2_with fail
  refine (double_c h hh g2).mono ?_
  rintro e w3 ⟨rfl, g3⟩
  go_wp2_with fail
  refine (immediate_n 3 3 (loN h) (upN h) (doubleN h) (by decide) (by decide) (loN_lt h) (upN_lt h) (doubleN_lt h) g3).mono ?_
  rintro e w4 ⟨rfl, g4⟩
  go_wp2_with fail
  go_ret
  exact ⟨rfl, g4⟩
theorem storeWord_c (h : Nat) (hh : h < 65536) {W w : World} (hg : Grew W w) :
    Calls Try.prog 19 #[.int .u16 h] w fun e w' => e = .returned (.int .u32 (storeWordN h : Nat)) ∧ Grew W w' := by
  go_enter Try.func19, Try.ntmps19
  go_wp2_with fail
  refine (up_c h hh hg).mono ?_
  rintro e w1 ⟨rfl, g1⟩
  go_wp2_with fail
  refine (lo_c h hh g1).mono ?_
  rintro e w2 ⟨rfl, g2⟩
  go_wp2_with fail
  refine (word_c h hh g2).mono ?_
  rintro e w3 ⟨rfl, g3⟩
  go_wp2_with fail
  refine (store_c 2 (upN h) (loN h) (wordN h) (by decide) (upN_lt h) (loN_lt h) (wordN_lt h) g3).mono ?_
  rintro e w4 ⟨rfl, g4⟩
  go_wp2_with fail
  go_ret
  exact ⟨rfl, g4⟩
theorem storeDouble_c (h : Nat) (hh : h < 65536) {W w : World} (hg : Grew W w) :
    Calls Try.prog 20 #[.int .u16 h] w fun e w' => e = .returned (.int .u32 (storeDoubleN h : Nat)) ∧ Grew W w' := by
  go_enter Try.func20, Try.ntmps20
  go_wp2_with fail
  refine (up_c h hh hg).mono ?_
  rintro e w1 ⟨rfl, g1⟩
  go_wp2_with fail
  refine (lo_c h hh g1).mono ?_
  rintro e w2 ⟨rfl, g2⟩
  go_wp2_with fail
  refine (double_c h hh g2).mono ?_
  rintro e w3 ⟨rfl, g3⟩
  go_wp2_with fail
  refine (store_c 3 (upN h) (loN h) (doubleN h) (by decide) (upN_lt h) (loN_lt h) (doubleN_lt h) g3).mono ?_
  rintro e w4 ⟨rfl, g4⟩
  go_wp2_with fail
  go_ret
  exact ⟨rfl, g4⟩
theorem addImm_c (h : Nat) (hh : h < 65536) {W w : World} (hg : Grew W w) :
    Calls Try.prog 21 #[.int .u16 h] w fun e w' => e = .returned (.int .u32 (addImmN h : Nat)) ∧ Grew W w' := by
  by_cases e1 : fN h 15 13 = 1
  · skip
    by_cases e2 : rdN h = 0
    · skip
      have r : addImmN h = 0 := by unfold addImmN; rw [if_pos e1, if_pos e2]
      rw [r]
      clear r
      go_enter Try.func21, Try.ntmps21
      go_wp2_with fail
      refine (hfield h hh 15 13 (by decide) (by decide) (by decide) hg).mono ?_
      rintro e w1 ⟨rfl, g1⟩
      go_wp2_with fail
      refine (rd_c h hh g1).mono ?_
      rintro e w2 ⟨rfl, g2⟩
      go_wp2_with fail
      go_ret
      exact ⟨rfl, g2⟩
    · skip
      have r : addImmN h = imN 27 0 (rdN h) (rdN h) (ssixN h) := by unfold addImmN; rw [if_pos e1, if_neg e2]
      rw [r]
      clear r
      go_enter Try.func21, Try.ntmps21
      go_wp2_with fail
      refine (hfield h hh 15 13 (by decide) (by decide) (by decide) hg).mono ?_
      rintro e w1 ⟨rfl, g1⟩
      go_wp2_with fail
      refine (rd_c h hh g1).mono ?_
      rintro e w2 ⟨rfl, g2⟩
      go_wp2_with fail
      refine (rd_c h hh g2).mono ?_
      rintro e w3 ⟨rfl, g3⟩
      go_wp2_with fail
      refine (rd_c h hh g3).mono ?_
      rintro e w4 ⟨rfl, g4⟩
      go_wp2_with fail
      refine (ssix_c h hh g4).mono ?_
      rintro e w5 ⟨rfl, g5⟩
      go_wp2_with fail
      refine (immediate_n 27 0 (rdN h) (rdN h) (ssixN h) (by decide) (by decide) (rdN_lt h) (rdN_lt h) (ssixN_lt h) g5).mono ?_
      rintro e w6 ⟨rfl, g6⟩
      go_wp2_with fail
      go_ret
      exact ⟨rfl, g6⟩
  · skip
    by_cases e2 : fN h 15 13 = 0
    · skip
      have r : addImmN h = imN 19 0 (rdN h) (rdN h) (ssixN h) := by unfold addImmN; rw [if_neg e1, if_pos e2]
      rw [r]
      clear r
      clear e1
      go_enter Try.func21, Try.ntmps21
      go_wp2_with fail
      refine (hfield h hh 15 13 (by decide) (by decide) (by decide) hg).mono ?_
      rintro e w1 ⟨rfl, g1⟩
      go_wp2_with fail
      refine (rd_c h hh g1).mono ?_
      rintro e w2 ⟨rfl, g2⟩
      go_wp2_with fail
      refine (rd_c h hh g2).mono ?_
      rintro e w3 ⟨rfl, g3⟩
      go_wp2_with fail
      refine (ssix_c h hh g3).mono ?_
      rintro e w4 ⟨rfl, g4⟩
      go_wp2_with fail
      refine (immediate_n 19 0 (rdN h) (rdN h) (ssixN h) (by decide) (by decide) (rdN_lt h) (rdN_lt h) (ssixN_lt h) g4).mono ?_
      rintro e w5 ⟨rfl, g5⟩
      go_wp2_with fail
      go_ret
      exact ⟨rfl, g5⟩
    · skip
      have r : addImmN h = imN 19 0 (rdN h) 0 (ssixN h) := by unfold addImmN; rw [if_neg e1, if_neg e2]
      rw [r]
      clear r
      go_enter Try.func21, Try.ntmps21
      go_wp2_with fail
      refine (hfield h hh 15 13 (by decide) (by decide) (by decide) hg).mono ?_
      rintro e w1 ⟨rfl, g1⟩
      go_wp2_with fail
      refine (rd_c h hh g1).mono ?_
      rintro e w2 ⟨rfl, g2⟩
      go_wp2_with fail
      refine (ssix_c h hh g2).mono ?_
      rintro e w3 ⟨rfl, g3⟩
      go_wp2_with fail
      refine (immediate_n 19 0 (rdN h) 0 (ssixN h) (by decide) (by decide) (rdN_lt h) (by decide) (ssixN_lt h) g3).mono ?_
      rintro e w4 ⟨rfl, g4⟩
      go_wp2_with fail
      go_ret
      exact ⟨rfl, g4⟩
theorem upper_c (h : Nat) (hh : h < 65536) {W w : World} (hg : Grew W w) :
    Calls Try.prog 22 #[.int .u16 h] w fun e w' => e = .returned (.int .u32 (upperN h : Nat)) ∧ Grew W w' := by
  by_cases e1 : sixN h = 0
  · skip
    have r : upperN h = 0 := by unfold upperN; rw [if_pos e1]
    rw [r]
    clear r
    go_enter Try.func22, Try.ntmps22
    go_wp2_with fail
    refine (six_c h hh hg).mono ?_
    rintro e w1 ⟨rfl, g1⟩
    go_wp2_with fail
    go_ret
    exact ⟨rfl, g1⟩
  · skip
    by_cases e2 : rdN h = 2
    · skip
      have r : upperN h = imN 19 0 2 2 (upper2I h) := by unfold upperN; rw [if_neg e1, if_pos e2]
      rw [r]
      clear r
      have o := pairN_or h 12 [9] 6 [4, 6, 8, 7, 5] (Places.of _ (by decide)) (Places.of _ (by decide))
      go_enter Try.func22, Try.ntmps22
      go_wp2_with fail
      refine (six_c h hh hg).mono ?_
      rintro e w1 ⟨rfl, g1⟩
      go_wp2_with fail
      refine (rd_c h hh g1).mono ?_
      rintro e w2 ⟨rfl, g2⟩
      go_wp2_with fail
      refine (gather_l h hh 12 [9] (by decide) (by decide) (by decide) _ rfl _ rfl g2 _ rfl _).mono ?_
      rintro e w3 ⟨rfl, g3⟩
      go_wp2_with fail
      refine (gather_l h hh 6 [4, 6, 8, 7, 5] (by decide) (by decide) (by decide) _ rfl _ rfl g3 _ rfl _).mono ?_
      rintro e w4 ⟨rfl, g4⟩
      go_wp2_with fail
      refine (bsext (pairN h 12 [9] 6 [4, 6, 8, 7, 5]) (pairN_lt h 12 [9] 6 [4, 6, 8, 7, 5] (Places.of _ (by decide)) (Places.of _ (by decide))) 10 (by decide) (by decide) g4).mono ?_
      rintro e w5 ⟨rfl, g5⟩
      go_wp2_with fail
      refine (immediate_n 19 0 2 2 (upper2I h) (by decide) (by decide) (by decide) (by decide) (sxN_lt _ _ (by decide) (by decide)) g5).mono ?_
      rintro e w6 ⟨rfl, g6⟩
      go_wp2_with fail
      go_ret
      exact ⟨rfl, g6⟩
    · skip
      have r : upperN h = luN (rdN h) (upperI h) := by unfold upperN; rw [if_neg e1, if_neg e2]
      rw [r]
      clear r
      have o := pairN_or h 12 [17] 6 [16, 15, 14, 13, 12] (Places.of _ (by decide)) (Places.of _ (by decide))
      go_enter Try.func22, Try.ntmps22
      go_wp2_with fail
      refine (six_c h hh hg).mono ?_
      rintro e w1 ⟨rfl, g1⟩
      go_wp2_with fail
      refine (rd_c h hh g1).mono ?_
      rintro e w2 ⟨rfl, g2⟩
      go_wp2_with fail
      refine (gather_l h hh 12 [17] (by decide) (by decide) (by decide) _ rfl _ rfl g2 _ rfl _).mono ?_
      rintro e w3 ⟨rfl, g3⟩
      go_wp2_with fail
      refine (gather_l h hh 6 [16, 15, 14, 13, 12] (by decide) (by decide) (by decide) _ rfl _ rfl g3 _ rfl _).mono ?_
      rintro e w4 ⟨rfl, g4⟩
      go_wp2_with fail
      refine (rd_c h hh g4).mono ?_
      rintro e w5 ⟨rfl, g5⟩
      go_wp2_with fail
      refine (bsext (pairN h 12 [17] 6 [16, 15, 14, 13, 12]) (pairN_lt h 12 [17] 6 [16, 15, 14, 13, 12] (Places.of _ (by decide)) (Places.of _ (by decide))) 18 (by decide) (by decide) g5).mono ?_
      rintro e w6 ⟨rfl, g6⟩
      go_wp2_with fail
      refine (lui_c (rdN h) (upperI h) (rdN_lt h) (sxN_lt _ _ (by decide) (by decide)) g6).mono ?_
      rintro e w7 ⟨rfl, g7⟩
      go_wp2_with fail
      go_ret
      exact ⟨rfl, g7⟩
theorem regs_c (h : Nat) (hh : h < 65536) {W w : World} (hg : Grew W w) :
    Calls Try.prog 53 #[.int .u16 h] w fun e w' => e = .returned (.int .u32 (regsN h : Nat)) ∧ Grew W w' := by
  by_cases e0 : selN h = 0
  · skip
    have r : regsN h = rgN 51 0 32 (upN h) (upN h) (loN h) := by unfold regsN; rw [if_pos e0]
    rw [r]
    clear r
    have o := pairN_or h 12 [2] 6 [1, 0] (Places.of _ (by decide)) (Places.of _ (by decide))
    rw [show pairN h 12 [2] 6 [1, 0] = selN h from rfl] at o
    go_enter Try.func53, Try.ntmps53
    go_wp2_with fail
    refine (gather_l h hh 12 [2] (by decide) (by decide) (by decide) _ rfl _ rfl hg _ rfl _).mono ?_
    rintro e w1 ⟨rfl, g1⟩
    go_wp2_with fail
    refine (gather_l h hh 6 [1, 0] (by decide) (by decide) (by decide) _ rfl _ rfl g1 _ rfl _).mono ?_
    rintro e w2 ⟨rfl, g2⟩
    go_wp2_with fail
    refine (up_c h hh g2).mono ?_
    rintro e w3 ⟨rfl, g3⟩
    go_wp2_with fail
    refine (up_c h hh g3).mono ?_
    rintro e w4 ⟨rfl, g4⟩
    go_wp2_with fail
    refine (lo_c h hh g4).mono ?_
    rintro e w5 ⟨rfl, g5⟩
    go_wp2_with fail
    refine (registers_c 51 0 32 (upN h) (upN h) (loN h) (by decide) (by decide) (by decide) (upN_lt h) (upN_lt h) (loN_lt h) g5).mono ?_
    rintro e w6 ⟨rfl, g6⟩
    go_wp2_with fail
    go_ret
    exact ⟨rfl, g6⟩
  · skip
    by_cases e1 : selN h = 1
    · skip
      have r : regsN h = rgN 51 4 0 (upN h) (upN h) (loN h) := by unfold regsN; rw [if_neg e0, if_pos e1]
      rw [r]
      clear r
      have o := pairN_or h 12 [2] 6 [1, 0] (Places.of _ (by decide)) (Places.of _ (by decide))
      rw [show pairN h 12 [2] 6 [1, 0] = selN h from rfl] at o
      clear e0
      go_enter Try.func53, Try.ntmps53
      go_wp2_with fail
      refine (gather_l h hh 12 [2] (by decide) (by decide) (by decide) _ rfl _ rfl hg _ rfl _).mono ?_
      rintro e w1 ⟨rfl, g1⟩
      go_wp2_with fail
      refine (gather_l h hh 6 [1, 0] (by decide) (by decide) (by decide) _ rfl _ rfl g1 _ rfl _).mono ?_
      rintro e w2 ⟨rfl, g2⟩
      go_wp2_with fail
      refine (up_c h hh g2).mono ?_
      rintro e w3 ⟨rfl, g3⟩
      go_wp2_with fail
      refine (up_c h hh g3).mono ?_
      rintro e w4 ⟨rfl, g4⟩
      go_wp2_with fail
      refine (lo_c h hh g4).mono ?_
      rintro e w5 ⟨rfl, g5⟩
      go_wp2_with fail
      refine (registers_c 51 4 0 (upN h) (upN h) (loN h) (by decide) (by decide) (by decide) (upN_lt h) (upN_lt h) (loN_lt h) g5).mono ?_
      rintro e w6 ⟨rfl, g6⟩
      go_wp2_with fail
      go_ret
      exact ⟨rfl, g6⟩
    · skip
      by_cases e2 : selN h = 2
      · skip
        have r : regsN h = rgN 51 6 0 (upN h) (upN h) (loN h) := by unfold regsN; rw [if_neg e0, if_neg e1, if_pos e2]
        rw [r]
        clear r
        have o := pairN_or h 12 [2] 6 [1, 0] (Places.of _ (by decide)) (Places.of _ (by decide))
        rw [show pairN h 12 [2] 6 [1, 0] = selN h from rfl] at o
        clear e0 e1
        go_enter Try.func53, Try.ntmps53
        go_wp2_with fail
        refine (gather_l h hh 12 [2] (by decide) (by decide) (by decide) _ rfl _ rfl hg _ rfl _).mono ?_
        rintro e w1 ⟨rfl, g1⟩
        go_wp2_with fail
        refine (gather_l h hh 6 [1, 0] (by decide) (by decide) (by decide) _ rfl _ rfl g1 _ rfl _).mono ?_
        rintro e w2 ⟨rfl, g2⟩
        go_wp2_with fail
        refine (up_c h hh g2).mono ?_
        rintro e w3 ⟨rfl, g3⟩
        go_wp2_with fail
        refine (up_c h hh g3).mono ?_
        rintro e w4 ⟨rfl, g4⟩
        go_wp2_with fail
        refine (lo_c h hh g4).mono ?_
        rintro e w5 ⟨rfl, g5⟩
        go_wp2_with fail
        refine (registers_c 51 6 0 (upN h) (upN h) (loN h) (by decide) (by decide) (by decide) (upN_lt h) (upN_lt h) (loN_lt h) g5).mono ?_
        rintro e w6 ⟨rfl, g6⟩
        go_wp2_with fail
        go_ret
        exact ⟨rfl, g6⟩
      · skip
        by_cases e3 : selN h = 3
        · skip
          have r : regsN h = rgN 51 7 0 (upN h) (upN h) (loN h) := by unfold regsN; rw [if_neg e0, if_neg e1, if_neg e2, if_pos e3]
          rw [r]
          clear r
          have o := pairN_or h 12 [2] 6 [1, 0] (Places.of _ (by decide)) (Places.of _ (by decide))
          rw [show pairN h 12 [2] 6 [1, 0] = selN h from rfl] at o
          clear e0 e1 e2
          go_enter Try.func53, Try.ntmps53
          go_wp2_with fail
          refine (gather_l h hh 12 [2] (by decide) (by decide) (by decide) _ rfl _ rfl hg _ rfl _).mono ?_
          rintro e w1 ⟨rfl, g1⟩
          go_wp2_with fail
          refine (gather_l h hh 6 [1, 0] (by decide) (by decide) (by decide) _ rfl _ rfl g1 _ rfl _).mono ?_
          rintro e w2 ⟨rfl, g2⟩
          go_wp2_with fail
          refine (up_c h hh g2).mono ?_
          rintro e w3 ⟨rfl, g3⟩
          go_wp2_with fail
          refine (up_c h hh g3).mono ?_
          rintro e w4 ⟨rfl, g4⟩
          go_wp2_with fail
          refine (lo_c h hh g4).mono ?_
          rintro e w5 ⟨rfl, g5⟩
          go_wp2_with fail
          refine (registers_c 51 7 0 (upN h) (upN h) (loN h) (by decide) (by decide) (by decide) (upN_lt h) (upN_lt h) (loN_lt h) g5).mono ?_
          rintro e w6 ⟨rfl, g6⟩
          go_wp2_with fail
          go_ret
          exact ⟨rfl, g6⟩
        · skip
          by_cases e4 : selN h = 4
          · skip
            have r : regsN h = rgN 59 0 32 (upN h) (upN h) (loN h) := by unfold regsN; rw [if_neg e0, if_neg e1, if_neg e2, if_neg e3, if_pos e4]
            rw [r]
            clear r
            have o := pairN_or h 12 [2] 6 [1, 0] (Places.of _ (by decide)) (Places.of _ (by decide))
            rw [show pairN h 12 [2] 6 [1, 0] = selN h from rfl] at o
            clear e0 e1 e2 e3
            go_enter Try.func53, Try.ntmps53
            go_wp2_with fail
            refine (gather_l h hh 12 [2] (by decide) (by decide) (by decide) _ rfl _ rfl hg _ rfl _).mono ?_
            rintro e w1 ⟨rfl, g1⟩
            go_wp2_with fail
            refine (gather_l h hh 6 [1, 0] (by decide) (by decide) (by decide) _ rfl _ rfl g1 _ rfl _).mono ?_
            rintro e w2 ⟨rfl, g2⟩
            go_wp2_with fail
            refine (up_c h hh g2).mono ?_
            rintro e w3 ⟨rfl, g3⟩
            go_wp2_with fail
            refine (up_c h hh g3).mono ?_
            rintro e w4 ⟨rfl, g4⟩
            go_wp2_with fail
            refine (lo_c h hh g4).mono ?_
            rintro e w5 ⟨rfl, g5⟩
            go_wp2_with fail
            refine (registers_c 59 0 32 (upN h) (upN h) (loN h) (by decide) (by decide) (by decide) (upN_lt h) (upN_lt h) (loN_lt h) g5).mono ?_
            rintro e w6 ⟨rfl, g6⟩
            go_wp2_with fail
            go_ret
            exact ⟨rfl, g6⟩
          · skip
            by_cases e5 : selN h = 5
            · skip
              have r : regsN h = rgN 59 0 0 (upN h) (upN h) (loN h) := by unfold regsN; rw [if_neg e0, if_neg e1, if_neg e2, if_neg e3, if_neg e4, if_pos e5]
              rw [r]
              clear r
              have o := pairN_or h 12 [2] 6 [1, 0] (Places.of _ (by decide)) (Places.of _ (by decide))
              rw [show pairN h 12 [2] 6 [1, 0] = selN h from rfl] at o
              clear e0 e1 e2 e3 e4
              go_enter Try.func53, Try.ntmps53
              go_wp2_with fail
              refine (gather_l h hh 12 [2] (by decide) (by decide) (by decide) _ rfl _ rfl hg _ rfl _).mono ?_
              rintro e w1 ⟨rfl, g1⟩
              go_wp2_with fail
              refine (gather_l h hh 6 [1, 0] (by decide) (by decide) (by decide) _ rfl _ rfl g1 _ rfl _).mono ?_
              rintro e w2 ⟨rfl, g2⟩
              go_wp2_with fail
              refine (up_c h hh g2).mono ?_
              rintro e w3 ⟨rfl, g3⟩
              go_wp2_with fail
              refine (up_c h hh g3).mono ?_
              rintro e w4 ⟨rfl, g4⟩
              go_wp2_with fail
              refine (lo_c h hh g4).mono ?_
              rintro e w5 ⟨rfl, g5⟩
              go_wp2_with fail
              refine (registers_c 59 0 0 (upN h) (upN h) (loN h) (by decide) (by decide) (by decide) (upN_lt h) (upN_lt h) (loN_lt h) g5).mono ?_
              rintro e w6 ⟨rfl, g6⟩
              go_wp2_with fail
              go_ret
              exact ⟨rfl, g6⟩
            · skip
              have r : regsN h = 0 := by unfold regsN; rw [if_neg e0, if_neg e1, if_neg e2, if_neg e3, if_neg e4, if_neg e5]
              rw [r]
              clear r
              have o := pairN_or h 12 [2] 6 [1, 0] (Places.of _ (by decide)) (Places.of _ (by decide))
              rw [show pairN h 12 [2] 6 [1, 0] = selN h from rfl] at o
              go_enter Try.func53, Try.ntmps53
              go_wp2_with fail
              refine (gather_l h hh 12 [2] (by decide) (by decide) (by decide) _ rfl _ rfl hg _ rfl _).mono ?_
              rintro e w1 ⟨rfl, g1⟩
              go_wp2_with fail
              refine (gather_l h hh 6 [1, 0] (by decide) (by decide) (by decide) _ rfl _ rfl g1 _ rfl _).mono ?_
              rintro e w2 ⟨rfl, g2⟩
              go_wp2_with fail
              go_ret
              exact ⟨rfl, g2⟩
theorem reckon_c (h : Nat) (hh : h < 65536) {W w : World} (hg : Grew W w) :
    Calls Try.prog 23 #[.int .u16 h] w fun e w' => e = .returned (.int .u32 (reckonN h : Nat)) ∧ Grew W w' := by
  by_cases e0 : fN h 11 10 = 0
  · skip
    have r : reckonN h = imN 19 5 (upN h) (upN h) (sixN h) := by unfold reckonN; rw [if_pos e0]
    rw [r]
    clear r
    go_enter Try.func23, Try.ntmps23
    go_wp2_with fail
    refine (up_c h hh hg).mono ?_
    rintro e w1 ⟨rfl, g1⟩
    go_wp2_with fail
    refine (six_c h hh g1).mono ?_
    rintro e w2 ⟨rfl, g2⟩
    go_wp2_with fail
    refine (hfield h hh 11 10 (by decide) (by decide) (by decide) g2).mono ?_
    rintro e w3 ⟨rfl, g3⟩
    go_wp2_with fail
    refine (immediate_n 19 5 (upN h) (upN h) (sixN h) (by decide) (by decide) (upN_lt h) (upN_lt h) (sixN_lt h) g3).mono ?_
    rintro e w4 ⟨rfl, g4⟩
    go_wp2_with fail
    go_ret
    exact ⟨rfl, g4⟩
  · skip
    by_cases e1 : fN h 11 10 = 1
    · skip
      have r : reckonN h = imN 19 5 (upN h) (upN h) (sixN h ||| 1024) := by unfold reckonN; rw [if_neg e0, if_pos e1]
      rw [r]
      clear r
      clear e0
      have o : bits .or .u64 (sixN h : Int) 1024 = ((sixN h ||| 1024 : Nat) : Int) := or64 _ 1024 (sixN_lt h) (by decide)
      go_enter Try.func23, Try.ntmps23
      go_wp2_with fail
      refine (up_c h hh hg).mono ?_
      rintro e w1 ⟨rfl, g1⟩
      go_wp2_with fail
      refine (six_c h hh g1).mono ?_
      rintro e w2 ⟨rfl, g2⟩
      go_wp2_with fail
      refine (hfield h hh 11 10 (by decide) (by decide) (by decide) g2).mono ?_
      rintro e w3 ⟨rfl, g3⟩
      go_wp2_with fail
      refine (immediate_n 19 5 (upN h) (upN h) (sixN h ||| 1024) (by decide) (by decide) (upN_lt h) (upN_lt h) (or64_lt (sixN_lt h) (by decide)) g3).mono ?_
      rintro e w4 ⟨rfl, g4⟩
      go_wp2_with fail
      go_ret
      exact ⟨rfl, g4⟩
    · skip
      by_cases e2 : fN h 11 10 = 2
      · skip
        have r : reckonN h = imN 19 7 (upN h) (upN h) (ssixN h) := by unfold reckonN; rw [if_neg e0, if_neg e1, if_pos e2]
        rw [r]
        clear r
        clear e0 e1
        go_enter Try.func23, Try.ntmps23
        go_wp2_with fail
        refine (up_c h hh hg).mono ?_
        rintro e w1 ⟨rfl, g1⟩
        go_wp2_with fail
        refine (six_c h hh g1).mono ?_
        rintro e w2 ⟨rfl, g2⟩
        go_wp2_with fail
        refine (hfield h hh 11 10 (by decide) (by decide) (by decide) g2).mono ?_
        rintro e w3 ⟨rfl, g3⟩
        go_wp2_with fail
        refine (ssix_c h hh g3).mono ?_
        rintro e w4 ⟨rfl, g4⟩
        go_wp2_with fail
        refine (immediate_n 19 7 (upN h) (upN h) (ssixN h) (by decide) (by decide) (upN_lt h) (upN_lt h) (ssixN_lt h) g4).mono ?_
        rintro e w5 ⟨rfl, g5⟩
        go_wp2_with fail
        go_ret
        exact ⟨rfl, g5⟩
      · skip
        have r : reckonN h = regsN h := by unfold reckonN; rw [if_neg e0, if_neg e1, if_neg e2]
        rw [r]
        clear r
        go_enter Try.func23, Try.ntmps23
        go_wp2_with fail
        refine (up_c h hh hg).mono ?_
        rintro e w1 ⟨rfl, g1⟩
        go_wp2_with fail
        refine (six_c h hh g1).mono ?_
        rintro e w2 ⟨rfl, g2⟩
        go_wp2_with fail
        refine (hfield h hh 11 10 (by decide) (by decide) (by decide) g2).mono ?_
        rintro e w3 ⟨rfl, g3⟩
        go_wp2_with fail
        refine (regs_c h hh g3).mono ?_
        rintro e w4 ⟨rfl, g4⟩
        go_wp2_with fail
        go_ret
        exact ⟨rfl, g4⟩
theorem jump_c (h : Nat) (hh : h < 65536) {W w : World} (hg : Grew W w) :
    Calls Try.prog 24 #[.int .u16 h] w fun e w' => e = .returned (.int .u32 (jumpN h : Nat)) ∧ Grew W w' := by
  go_enter Try.func24, Try.ntmps24
  go_wp2_with fail
  refine (gather_l h hh 12 [11, 4, 9, 8, 10, 6, 7, 3, 2, 1, 5] (by decide) (by decide) (by decide) _ rfl _ rfl hg _ rfl _).mono ?_
  rintro e w1 ⟨rfl, g1⟩
  go_wp2_with fail
  refine (bsext (gN h 12 [11, 4, 9, 8, 10, 6, 7, 3, 2, 1, 5]) (gN_lt h 12 [11, 4, 9, 8, 10, 6, 7, 3, 2, 1, 5] (Places.of _ (by decide))) 12 (by decide) (by decide) g1).mono ?_
  rintro e w2 ⟨rfl, g2⟩
  go_wp2_with fail
  refine (jal_c 0 (jumpI h) (by decide) (sxN_lt _ _ (by decide) (by decide)) g2).mono ?_
  rintro e w3 ⟨rfl, g3⟩
  go_wp2_with fail
  go_ret
  exact ⟨rfl, g3⟩
theorem branch_c (h : Nat) (hh : h < 65536) {W w : World} (hg : Grew W w) :
    Calls Try.prog 25 #[.int .u16 h] w fun e w' => e = .returned (.int .u32 (branchN h : Nat)) ∧ Grew W w' := by
  have o := pairN_or h 12 [8, 4, 3] 6 [7, 6, 2, 1, 5] (Places.of _ (by decide)) (Places.of _ (by decide))
  go_enter Try.func25, Try.ntmps25
  go_wp2_with fail
  refine (gather_l h hh 12 [8, 4, 3] (by decide) (by decide) (by decide) _ rfl _ rfl hg _ rfl _).mono ?_
  rintro e w1 ⟨rfl, g1⟩
  go_wp2_with fail
  refine (gather_l h hh 6 [7, 6, 2, 1, 5] (by decide) (by decide) (by decide) _ rfl _ rfl g1 _ rfl _).mono ?_
  rintro e w2 ⟨rfl, g2⟩
  go_wp2_with fail
  refine (hfield h hh 13 13 (by decide) (by decide) (by decide) g2).mono ?_
  rintro e w3 ⟨rfl, g3⟩
  go_wp2_with fail
  refine (up_c h hh g3).mono ?_
  rintro e w4 ⟨rfl, g4⟩
  go_wp2_with fail
  refine (bsext (pairN h 12 [8, 4, 3] 6 [7, 6, 2, 1, 5]) (pairN_lt h 12 [8, 4, 3] 6 [7, 6, 2, 1, 5] (Places.of _ (by decide)) (Places.of _ (by decide))) 9 (by decide) (by decide) g4).mono ?_
  rintro e w5 ⟨rfl, g5⟩
  go_wp2_with fail
  refine (branch_f (fN h 13 13) (upN h) 0 (branchI h) (fN_lt _ _ _ _ (by decide)) (upN_lt h) (by decide) (sxN_lt _ _ (by decide) (by decide)) g5).mono ?_
  rintro e w6 ⟨rfl, g6⟩
  go_wp2_with fail
  go_ret
  exact ⟨rfl, g6⟩
theorem shiftLeft_c (h : Nat) (hh : h < 65536) {W w : World} (hg : Grew W w) :
    Calls Try.prog 26 #[.int .u16 h] w fun e w' => e = .returned (.int .u32 (shiftLeftN h : Nat)) ∧ Grew W w' := by
  go_enter Try.func26, Try.ntmps26
  go_wp2_with fail
  refine (rd_c h hh hg).mono ?_
  rintro e w1 ⟨rfl, g1⟩
  go_wp2_with fail
  refine (rd_c h hh g1).mono ?_
  rintro e w2 ⟨rfl, g2⟩
  go_wp2_with fail
  refine (six_c h hh g2).mono ?_
  rintro e w3 ⟨rfl, g3⟩
  go_wp2_with fail
  refine (immediate_n 19 1 (rdN h) (rdN h) (sixN h) (by decide) (by decide) (rdN_lt h) (rdN_lt h) (sixN_lt h) g3).mono ?_
  rintro e w4 ⟨rfl, g4⟩
  go_wp2_with fail
  go_ret
  exact ⟨rfl, g4⟩
theorem unstack_c (h : Nat) (hh : h < 65536) (f imm : Nat) (hf : f < 8) (hi : imm < 18446744073709551616) {W w : World} (hg : Grew W w) :
    Calls Try.prog 56 #[.int .u16 h, .int .u64 f, .int .u64 imm] w fun e w' => e = .returned (.int .u32 (unstackN h f imm : Nat)) ∧ Grew W w' := by
  by_cases e : rdN h = 0
  · have r : unstackN h f imm = 0 := by unfold unstackN; rw [if_pos e]
    rw [r]
    clear r
    go_enter Try.func56, Try.ntmps56
    go_wp2_with fail
    refine (rd_c h hh hg).mono ?_
    rintro e w1 ⟨rfl, g1⟩
    go_wp2_with fail
    go_ret
    exact ⟨rfl, g1⟩
  · have r : unstackN h f imm = imN 3 f (rdN h) 2 imm := by unfold unstackN; rw [if_neg e]
    rw [r]
    clear r
    go_enter Try.func56, Try.ntmps56
    go_wp2_with fail
    refine (rd_c h hh hg).mono ?_
    rintro e w1 ⟨rfl, g1⟩
    go_wp2_with fail
    refine (rd_c h hh g1).mono ?_
    rintro e w2 ⟨rfl, g2⟩
    go_wp2_with fail
    refine (immediate_n 3 f (rdN h) 2 imm (by decide) hf (rdN_lt h) (by decide) hi g2).mono ?_
    rintro e w3 ⟨rfl, g3⟩
    go_wp2_with fail
    go_ret
    exact ⟨rfl, g3⟩
theorem unWord_c (h : Nat) (hh : h < 65536) {W w : World} (hg : Grew W w) :
    Calls Try.prog 27 #[.int .u16 h] w fun e w' => e = .returned (.int .u32 (unWordN h : Nat)) ∧ Grew W w' := by
  have o := pairN_or h 12 [5] 6 [4, 3, 2, 7, 6] (Places.of _ (by decide)) (Places.of _ (by decide))
  go_enter Try.func27, Try.ntmps27
  go_wp2_with fail
  refine (gather_l h hh 12 [5] (by decide) (by decide) (by decide) _ rfl _ rfl hg _ rfl _).mono ?_
  rintro e w1 ⟨rfl, g1⟩
  go_wp2_with fail
  refine (gather_l h hh 6 [4, 3, 2, 7, 6] (by decide) (by decide) (by decide) _ rfl _ rfl g1 _ rfl _).mono ?_
  rintro e w2 ⟨rfl, g2⟩
  go_wp2_with fail
  refine (unstack_c h hh 2 (unWordI h) (by decide) (pairN_lt h 12 [5] 6 [4, 3, 2, 7, 6] (Places.of _ (by decide)) (Places.of _ (by decide))) g2).mono ?_
  rintro e w3 ⟨rfl, g3⟩
  go_wp2_with fail
  go_ret
  exact ⟨rfl, g3⟩
theorem unDouble_c (h : Nat) (hh : h < 65536) {W w : World} (hg : Grew W w) :
    Calls Try.prog 28 #[.int .u16 h] w fun e w' => e = .returned (.int .u32 (unDoubleN h : Nat)) ∧ Grew W w' := by
  have o := pairN_or h 12 [5] 6 [4, 3, 8, 7, 6] (Places.of _ (by decide)) (Places.of _ (by decide))
  go_enter Try.func28, Try.ntmps28
  go_wp2_with fail
  refine (gather_l h hh 12 [5] (by decide) (by decide) (by decide) _ rfl _ rfl hg _ rfl _).mono ?_
  rintro e w1 ⟨rfl, g1⟩
  go_wp2_with fail
  refine (gather_l h hh 6 [4, 3, 8, 7, 6] (by decide) (by decide) (by decide) _ rfl _ rfl g1 _ rfl _).mono ?_
  rintro e w2 ⟨rfl, g2⟩
  go_wp2_with fail
  refine (unstack_c h hh 3 (unDoubleI h) (by decide) (pairN_lt h 12 [5] 6 [4, 3, 8, 7, 6] (Places.of _ (by decide)) (Places.of _ (by decide))) g2).mono ?_
  rintro e w3 ⟨rfl, g3⟩
  go_wp2_with fail
  go_ret
  exact ⟨rfl, g3⟩
theorem stWord_c (h : Nat) (hh : h < 65536) {W w : World} (hg : Grew W w) :
    Calls Try.prog 30 #[.int .u16 h] w fun e w' => e = .returned (.int .u32 (stWordN h : Nat)) ∧ Grew W w' := by
  go_enter Try.func30, Try.ntmps30
  go_wp2_with fail
  refine (rs2_c h hh hg).mono ?_
  rintro e w1 ⟨rfl, g1⟩
  go_wp2_with fail
  refine (gather_l h hh 12 [5, 4, 3, 2, 7, 6] (by decide) (by decide) (by decide) _ rfl _ rfl g1 _ rfl _).mono ?_
  rintro e w2 ⟨rfl, g2⟩
  go_wp2_with fail
  refine (store_c 2 2 (rs2N h) (gN h 12 [5, 4, 3, 2, 7, 6]) (by decide) (by decide) (rs2N_lt h) (gN_lt h 12 [5, 4, 3, 2, 7, 6] (Places.of _ (by decide))) g2).mono ?_
  rintro e w3 ⟨rfl, g3⟩
  go_wp2_with fail
  go_ret
  exact ⟨rfl, g3⟩
theorem stDouble_c (h : Nat) (hh : h < 65536) {W w : World} (hg : Grew W w) :
    Calls Try.prog 31 #[.int .u16 h] w fun e w' => e = .returned (.int .u32 (stDoubleN h : Nat)) ∧ Grew W w' := by
  go_enter Try.func31, Try.ntmps31
  go_wp2_with fail
  refine (rs2_c h hh hg).mono ?_
  rintro e w1 ⟨rfl, g1⟩
  go_wp2_with fail
  refine (gather_l h hh 12 [5, 4, 3, 8, 7, 6] (by decide) (by decide) (by decide) _ rfl _ rfl g1 _ rfl _).mono ?_
  rintro e w2 ⟨rfl, g2⟩
  go_wp2_with fail
  refine (store_c 3 2 (rs2N h) (gN h 12 [5, 4, 3, 8, 7, 6]) (by decide) (by decide) (rs2N_lt h) (gN_lt h 12 [5, 4, 3, 8, 7, 6] (Places.of _ (by decide))) g2).mono ?_
  rintro e w3 ⟨rfl, g3⟩
  go_wp2_with fail
  go_ret
  exact ⟨rfl, g3⟩
theorem move_c (h : Nat) (hh : h < 65536) {W w : World} (hg : Grew W w) :
    Calls Try.prog 29 #[.int .u16 h] w fun e w' => e = .returned (.int .u32 (moveN h : Nat)) ∧ Grew W w' := by
  by_cases e2 : rs2N h = 0
  · skip
    by_cases e1 : rdN h = 0
    · skip
      by_cases e : fN h 12 12 = 1
      · skip
        have r : moveN h = 1048691 := by unfold moveN; rw [if_pos e2, if_pos e1, if_pos e]
        rw [r]
        clear r
        go_enter Try.func29, Try.ntmps29
        go_wp2_with fail
        refine (hfield h hh 12 12 (by decide) (by decide) (by decide) hg).mono ?_
        rintro e w1 ⟨rfl, g1⟩
        go_wp2_with fail
        refine (rs2_c h hh g1).mono ?_
        rintro e w2 ⟨rfl, g2⟩
        go_wp2_with fail
        refine (rs2_c h hh g2).mono ?_
        rintro e w3 ⟨rfl, g3⟩
        go_wp2_with fail
        refine (rd_c h hh g3).mono ?_
        rintro e w4 ⟨rfl, g4⟩
        go_wp2_with fail
        refine (rd_c h hh g4).mono ?_
        rintro e w5 ⟨rfl, g5⟩
        go_wp2_with fail
        go_ret
        exact ⟨rfl, g5⟩
      · skip
        have r : moveN h = 0 := by unfold moveN; rw [if_pos e2, if_pos e1, if_neg e]
        rw [r]
        clear r
        have eb : (((fN h 12 12 : Nat) : Int) == 1) = false := by simp; omega
        go_enter Try.func29, Try.ntmps29
        go_wp2_with fail
        refine (hfield h hh 12 12 (by decide) (by decide) (by decide) hg).mono ?_
        rintro e w1 ⟨rfl, g1⟩
        go_wp2_with fail
        refine (rs2_c h hh g1).mono ?_
        rintro e w2 ⟨rfl, g2⟩
        go_wp2_with fail
        refine (rs2_c h hh g2).mono ?_
        rintro e w3 ⟨rfl, g3⟩
        go_wp2_with fail
        refine (rd_c h hh g3).mono ?_
        rintro e w4 ⟨rfl, g4⟩
        go_wp2_with fail
        refine (rd_c h hh g4).mono ?_
        rintro e w5 ⟨rfl, g5⟩
        go_wp2_with fail
        go_ret
        exact ⟨rfl, g5⟩
    · skip
      by_cases e : fN h 12 12 = 1
      · skip
        have r : moveN h = imN 103 0 1 (rdN h) 0 := by unfold moveN; rw [if_pos e2, if_neg e1, if_pos e]
        rw [r]
        clear r
        go_enter Try.func29, Try.ntmps29
        go_wp2_with fail
        refine (hfield h hh 12 12 (by decide) (by decide) (by decide) hg).mono ?_
        rintro e w1 ⟨rfl, g1⟩
        go_wp2_with fail
        refine (rs2_c h hh g1).mono ?_
        rintro e w2 ⟨rfl, g2⟩
        go_wp2_with fail
        refine (rs2_c h hh g2).mono ?_
        rintro e w3 ⟨rfl, g3⟩
        go_wp2_with fail
        refine (rd_c h hh g3).mono ?_
        rintro e w4 ⟨rfl, g4⟩
        go_wp2_with fail
        refine (rd_c h hh g4).mono ?_
        rintro e w5 ⟨rfl, g5⟩
        go_wp2_with fail
        refine (immediate_n 103 0 1 (rdN h) 0 (by decide) (by decide) (by decide) (rdN_lt h) (by decide) g5).mono ?_
        rintro e w6 ⟨rfl, g6⟩
        go_wp2_with fail
        go_ret
        exact ⟨rfl, g6⟩
      · skip
        have r : moveN h = imN 103 0 0 (rdN h) 0 := by unfold moveN; rw [if_pos e2, if_neg e1, if_neg e]
        rw [r]
        clear r
        have eb : (((fN h 12 12 : Nat) : Int) == 1) = false := by simp; omega
        go_enter Try.func29, Try.ntmps29
        go_wp2_with fail
        refine (hfield h hh 12 12 (by decide) (by decide) (by decide) hg).mono ?_
        rintro e w1 ⟨rfl, g1⟩
        go_wp2_with fail
        refine (rs2_c h hh g1).mono ?_
        rintro e w2 ⟨rfl, g2⟩
        go_wp2_with fail
        refine (rs2_c h hh g2).mono ?_
        rintro e w3 ⟨rfl, g3⟩
        go_wp2_with fail
        refine (rd_c h hh g3).mono ?_
        rintro e w4 ⟨rfl, g4⟩
        go_wp2_with fail
        refine (rd_c h hh g4).mono ?_
        rintro e w5 ⟨rfl, g5⟩
        go_wp2_with fail
        refine (rd_c h hh g5).mono ?_
        rintro e w6 ⟨rfl, g6⟩
        go_wp2_with fail
        refine (immediate_n 103 0 0 (rdN h) 0 (by decide) (by decide) (by decide) (rdN_lt h) (by decide) g6).mono ?_
        rintro e w7 ⟨rfl, g7⟩
        go_wp2_with fail
        go_ret
        exact ⟨rfl, g7⟩
  · skip
    by_cases e : fN h 12 12 = 1
    · skip
      have r : moveN h = rgN 51 0 0 (rdN h) (rdN h) (rs2N h) := by unfold moveN; rw [if_neg e2, if_pos e]
      rw [r]
      clear r
      have rb : (((rs2N h : Nat) : Int) != 0) = true := by simp; omega
      go_enter Try.func29, Try.ntmps29
      go_wp2_with fail
      refine (hfield h hh 12 12 (by decide) (by decide) (by decide) hg).mono ?_
      rintro e w1 ⟨rfl, g1⟩
      go_wp2_with fail
      refine (rs2_c h hh g1).mono ?_
      rintro e w2 ⟨rfl, g2⟩
      go_wp2_with fail
      refine (rd_c h hh g2).mono ?_
      rintro e w3 ⟨rfl, g3⟩
      go_wp2_with fail
      refine (rd_c h hh g3).mono ?_
      rintro e w4 ⟨rfl, g4⟩
      go_wp2_with fail
      refine (rs2_c h hh g4).mono ?_
      rintro e w5 ⟨rfl, g5⟩
      go_wp2_with fail
      refine (registers_c 51 0 0 (rdN h) (rdN h) (rs2N h) (by decide) (by decide) (by decide) (rdN_lt h) (rdN_lt h) (rs2N_lt h) g5).mono ?_
      rintro e w6 ⟨rfl, g6⟩
      go_wp2_with fail
      go_ret
      exact ⟨rfl, g6⟩
    · skip
      have r : moveN h = rgN 51 0 0 (rdN h) 0 (rs2N h) := by unfold moveN; rw [if_neg e2, if_neg e]
      rw [r]
      clear r
      have eb : (((fN h 12 12 : Nat) : Int) == 1) = false := by simp; omega
      have rb : (((rs2N h : Nat) : Int) != 0) = true := by simp; omega
      go_enter Try.func29, Try.ntmps29
      go_wp2_with fail
      refine (hfield h hh 12 12 (by decide) (by decide) (by decide) hg).mono ?_
      rintro e w1 ⟨rfl, g1⟩
      go_wp2_with fail
      refine (rs2_c h hh g1).mono ?_
      rintro e w2 ⟨rfl, g2⟩
      go_wp2_with fail
      refine (rs2_c h hh g2).mono ?_
      rintro e w3 ⟨rfl, g3⟩
      go_wp2_with fail
      refine (rd_c h hh g3).mono ?_
      rintro e w4 ⟨rfl, g4⟩
      go_wp2_with fail
      refine (rs2_c h hh g4).mono ?_
      rintro e w5 ⟨rfl, g5⟩
      go_wp2_with fail
      refine (registers_c 51 0 0 (rdN h) 0 (rs2N h) (by decide) (by decide) (by decide) (rdN_lt h) (by decide) (rs2N_lt h) g5).mono ?_
      rintro e w6 ⟨rfl, g6⟩
      go_wp2_with fail
      go_ret
      exact ⟨rfl, g6⟩
end Go.Proofs.Ytchogiglejnlhaa
