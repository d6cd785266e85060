/-
  Contracts: what must come at any rate ('heads' of the statements about package rvc), as the program's numbers say.
-/
import Derived.Test.YtchogiglejnlhaaRvcD
import Derived.Test.YtchogiglejnlhaaRvcAll
namespace Go.Proofs.Ytchogiglejnlhaa
open Go.RowKit

theorem n1 : expN 1 = 19 := by kernel_rfl
theorem o1 : okB 1 = true := by kernel_rfl
theorem n0 : expN 0 = 0 := by kernel_rfl
theorem o0 : okB 0 = false := by kernel_rfl
theorem n9 : expN 36866 = 1048691 := by kernel_rfl
theorem o9 : okB 36866 = true := by kernel_rfl
theorem na : expN 40961 = 111 := by kernel_rfl
theorem oa : okB 40961 = true := by kernel_rfl
theorem s1 : shB 1 = true := by kernel_rfl
theorem s3 : shB 3 = false := by kernel_rfl
theorem heads_c {W w : World} (hg : Grew W w) : Calls Try.prog 10 #[] w fun e w' => e = .returned (.bool true) ∧ Grew W w' := by
  go_enter Try.func10, Try.ntmps10
  go_wp2_with fail
  refine (expand_c 1 (by decide) hg).mono ?_
  rintro e w1 ⟨rfl, g1⟩
  rw [n1, o1]
  go_wp2_with fail
  refine (expand_c 0 (by decide) g1).mono ?_
  rintro e w2 ⟨rfl, g2⟩
  rw [n0, o0]
  go_wp2_with fail
  refine (expand_c 36866 (by decide) g2).mono ?_
  rintro e w3 ⟨rfl, g3⟩
  rw [n9, o9]
  go_wp2_with fail
  refine (expand_c 40961 (by decide) g3).mono ?_
  rintro e w4 ⟨rfl, g4⟩
  rw [na, oa]
  go_wp2_with fail
  refine (short_c 1 (by decide) g4).mono ?_
  rintro e w5 ⟨rfl, g5⟩
  rw [s1]
  go_wp2_with fail
  refine (short_c 3 (by decide) g5).mono ?_
  rintro e w6 ⟨rfl, g6⟩
  rw [s3]
  go_wp2_with fail
  go_ret
  exact ⟨rfl, g6⟩

theorem chk_eq (h : Nat) (hh : h < 65536) : expN h = (if refB h then refW h else 0) := by
  have := chk_all h hh
  simp only [chk, Bool.and_eq_true, beq_iff_eq] at this
  exact this.1.1.1
theorem okB_eq (h : Nat) : okB h = (expN h != 0) := by
  unfold okB
  rw [Bool.eq_iff_iff]
  simp
theorem chk_ok (h : Nat) (hh : h < 65536) : okB h = refB h := by
  have := chk_all h hh
  simp only [chk, Bool.and_eq_true, beq_iff_eq] at this
  rw [okB_eq]
  exact this.1.1.2
theorem chk_long (h : Nat) (hh : h < 65536) (hk : expN h ≠ 0) : expN h % 4 = 3 ∧ expN h < 4294967296 ∧ h % 4 ≠ 3 := by
  have := chk_all h hh
  simp only [chk, Bool.and_eq_true] at this
  have h2 := this.1.2
  rw [if_neg hk] at h2
  simp at h2
  exact ⟨h2.1.1, h2.1.2, h2.2⟩
theorem chk_apart (h : Nat) (hh : h < 65536) (h1 : h % 4 = 1) (h2 : h / 8192 = 0) : expN h / 1048576 % 64 = h / 4096 % 2 * 32 + h / 4 % 32 ∧ expN h ≠ 0 := by
  have := chk_all h hh
  simp only [chk, Bool.and_eq_true] at this
  have h3 := this.2
  rw [if_pos h1, if_pos h2] at h3
  simpa using h3
theorem shB_eq (h : Nat) : shB h = decide (h % 4 ≠ 3) := by
  unfold shB
  rw [show fN h 1 0 = h % 4 by unfold fN; simp]
  rw [Bool.eq_iff_iff]
  simp
  omega
end Go.Proofs.Ytchogiglejnlhaa
