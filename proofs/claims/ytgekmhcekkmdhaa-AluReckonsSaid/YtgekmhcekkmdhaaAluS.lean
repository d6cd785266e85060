/-
  Contracts of the document's own text of layer 4: each answers what package alu's does.
-/
import Derived.Test.YtgekmhcekkmdhaaAluR
set_option linter.unusedVariables false
set_option linter.unusedSimpArgs false
namespace Go.Proofs.Ytgekmhcekkmdhaa
open Go Go.RowKit

theorem one_c (x : Bool) (w : World) : Calls Try.prog 86 #[.bool x] w fun e w' => e = .returned (.int .u64 (flagV x)) ∧ w' = w := by
  cases x
  all_goals
    go_enter Try.func86, Try.ntmps86
    go_wp2_with fail
    go_ret
    exact ⟨rfl, rfl⟩
theorem high_c (a b : Int) (a0 : 0 ≤ a) (a1 : a < 18446744073709551616) (b0 : 0 ≤ b) (b1 : b < 18446744073709551616) (w : World) : Calls Try.prog 87 #[.int .u64 a, .int .u64 b] w fun e w' => e = .returned (.int .u64 (hiV a b)) ∧ w' = w := by
  have H := Lib.hid (high_val a b a0 a1 b0 b1)
  go_enter Try.func87, Try.ntmps87
  go_wp2_with fail
  go_ret
  exact ⟨ret_u64 (by rw [Int.tmod_eq_emod_of_nonneg (wrap_lt _).1]; exact H.out), rfl⟩
theorem abs_c (a : Int) (a0 : 0 ≤ a) (a1 : a < 18446744073709551616) (w : World) : Calls Try.prog 97 #[.int .u64 a] w fun e w' => e = .returned (.int .u64 (absV a)) ∧ w' = w := by
  by_cases h : 9223372036854775808 ≤ a
  · rw [show absV a = 18446744073709551616 - a from if_pos h]
    have hn := Lib.hid (negV_t a h)
    have H := Lib.hid (show IntKind.u64.wrap (0 - a) = 18446744073709551616 - a by rw [wrap_u64]; omega)
    go_enter Try.func97, Try.ntmps97
    go_wp2_with fail
    refine (neg_c a _).mono ?_
    rintro e w1 ⟨rfl, h1⟩
    obtain rfl := h1.symm
    rw [hn.out]
    go_wp2_with fail
    go_ret
    exact ⟨ret_u64 (by rw [← H.out]; simp), rfl⟩
  · rw [show absV a = a from if_neg h]
    have hn := Lib.hid (negV_f a (by omega))
    go_enter Try.func97, Try.ntmps97
    go_wp2_with fail
    refine (neg_c a _).mono ?_
    rintro e w1 ⟨rfl, h1⟩
    obtain rfl := h1.symm
    rw [hn.out]
    go_wp2_with fail
    go_ret
    exact ⟨rfl, rfl⟩
theorem rdiv_c (a b : Int) (a0 : 0 ≤ a) (a1 : a < 18446744073709551616) (b0 : 0 ≤ b) (b1 : b < 18446744073709551616) (hb : b ≠ 0) (w : World) : Calls Try.prog 96 #[.int .u64 a, .int .u64 b] w fun e w' => e = .returned (.int .u64 (divV a b)) ∧ w' = w := by
  have hv := div_val a b hb a0 a1 b0 b1
  have hA := absV_lt a a0 a1
  have hB := absV_lt b b0 b1
  have hB2 := absV_ne b b1 hb
  have hB3 : ¬ absV b = 0 := hB2
  have A0 := hA.1
  have A1 := hA.2
  have B0 := hB.1
  have B1 := hB.2
  clear hA hB hB2 hb
  cases ha : negV a <;> cases hb : negV b
  all_goals
    rw [ha, hb] at hv
    simp only [if_true, if_false, Bool.false_eq_true, bne_self_eq_false, Bool.true_bne, Bool.false_bne, Bool.not_false] at hv
    have HV := Lib.hid hv
    have HA := Lib.hid ha
    have HB := Lib.hid hb
    clear hv ha hb
    go_enter Try.func96, Try.ntmps96
    go_wp2_with fail
    refine (abs_c a a0 a1 _).mono ?_
    rintro e w1 ⟨rfl, h1⟩
    obtain rfl := h1.symm
    go_wp2_with fail
    refine (abs_c b b0 b1 _).mono ?_
    rintro e w1 ⟨rfl, h1⟩
    obtain rfl := h1.symm
    go_wp2_with fail
    refine (neg_c a _).mono ?_
    rintro e w1 ⟨rfl, h1⟩
    obtain rfl := h1.symm
    rw [HA.out]
    go_wp2_with fail
    refine (neg_c b _).mono ?_
    rintro e w1 ⟨rfl, h1⟩
    obtain rfl := h1.symm
    rw [HB.out]
    go_wp2_with fail
    go_ret
    exact ⟨ret_u64 (by rw [← HV.out]; try simp), rfl⟩
theorem rsra_c (a b : Int) (a0 : 0 ≤ a) (a1 : a < 18446744073709551616) (b0 : 0 ≤ b) (b1 : b < 64) (w : World) : Calls Try.prog 85 #[.int .u64 a, .int .u64 b] w fun e w' => e = .returned (.int .u64 (sraV a b)) ∧ w' = w := by
  by_cases h : 9223372036854775808 ≤ a
  · have hn := Lib.hid (negV_t a h)
    by_cases hb : b = 0
    · subst hb
      rw [sra_zero a a0 a1]
      go_enter Try.func85, Try.ntmps85
      go_wp2_with fail
      refine (neg_c a _).mono ?_
      rintro e w1 ⟨rfl, h1⟩
      obtain rfl := h1.symm
      rw [hn.out]
      go_wp2_with fail
      go_ret
      exact ⟨ret_u64 (by simp), rfl⟩
    · have hp : 0 < b := by omega
      have H := Lib.hid (sra_neg a b a1 h hp b1)
      go_enter Try.func85, Try.ntmps85
      go_wp2_with fail
      refine (neg_c a _).mono ?_
      rintro e w1 ⟨rfl, h1⟩
      obtain rfl := h1.symm
      rw [hn.out]
      go_wp2_with fail
      go_ret
      exact ⟨ret_u64 H.out, rfl⟩
  · rw [sra_pos a b a0 (by omega) b0 b1]
    have hn := Lib.hid (negV_f a (by omega))
    go_enter Try.func85, Try.ntmps85
    go_wp2_with fail
    refine (neg_c a _).mono ?_
    rintro e w1 ⟨rfl, h1⟩
    obtain rfl := h1.symm
    rw [hn.out]
    go_wp2_with fail
    go_ret
    exact ⟨rfl, rfl⟩
theorem quo_20 (a b : Int) (a0 : 0 ≤ a) (a1 : a < 18446744073709551616) (b0 : 0 ≤ b) (b1 : b < 18446744073709551616) (w : World) : Calls Try.prog 88 #[.int .i64 20, .int .u64 a, .int .u64 b] w fun e w' => e = .returned (.int .u64 (divV a b)) ∧ w' = w := by
  by_cases h : b = 0
  · subst h
    rw [show divV a 0 = 18446744073709551615 from if_pos rfl]
    go_enter Try.func88, Try.ntmps88
    go_wp2_with fail
    go_ret
    exact ⟨rfl, rfl⟩
  · have hne : (b == 0) = false := by simpa using h
    have hz : ¬ b = 0 := h
    go_enter Try.func88, Try.ntmps88
    go_wp2_with fail
    refine (rdiv_c a b a0 a1 b0 b1 h _).mono ?_
    rintro e w1 ⟨rfl, h1⟩
    obtain rfl := h1.symm
    go_wp2_with fail
    go_ret
    exact ⟨ret_u64 rfl, rfl⟩
theorem quo_21 (a b : Int) (a0 : 0 ≤ a) (a1 : a < 18446744073709551616) (b0 : 0 ≤ b) (b1 : b < 18446744073709551616) (w : World) : Calls Try.prog 88 #[.int .i64 21, .int .u64 a, .int .u64 b] w fun e w' => e = .returned (.int .u64 (divuV a b)) ∧ w' = w := by
  by_cases h : b = 0
  · subst h
    rw [show divuV a 0 = 18446744073709551615 from if_pos rfl]
    go_enter Try.func88, Try.ntmps88
    go_wp2_with fail
    go_ret
    exact ⟨rfl, rfl⟩
  · have hne : (b == 0) = false := by simpa using h
    have hz : ¬ b = 0 := h
    have H := Lib.hid (show divuV a b = a / b from if_neg h)
    go_enter Try.func88, Try.ntmps88
    go_wp2_with fail
    go_ret
    exact ⟨ret_u64 H.out.symm, rfl⟩
theorem quo_22 (a b : Int) (a0 : 0 ≤ a) (a1 : a < 18446744073709551616) (b0 : 0 ≤ b) (b1 : b < 18446744073709551616) (w : World) : Calls Try.prog 88 #[.int .i64 22, .int .u64 a, .int .u64 b] w fun e w' => e = .returned (.int .u64 (remV a b)) ∧ w' = w := by
  by_cases h : b = 0
  · subst h
    rw [show remV a 0 = a from if_pos rfl]
    go_enter Try.func88, Try.ntmps88
    go_wp2_with fail
    go_ret
    exact ⟨rfl, rfl⟩
  · have hne : (b == 0) = false := by simpa using h
    have hz : ¬ b = 0 := h
    have H := Lib.hid (rem_val a b h a0 a1 b0 b1)
    go_enter Try.func88, Try.ntmps88
    go_wp2_with fail
    refine (rdiv_c a b a0 a1 b0 b1 h _).mono ?_
    rintro e w1 ⟨rfl, h1⟩
    obtain rfl := h1.symm
    go_wp2_with fail
    go_ret
    exact ⟨ret_u64 H.out, rfl⟩
theorem quo_23 (a b : Int) (a0 : 0 ≤ a) (a1 : a < 18446744073709551616) (b0 : 0 ≤ b) (b1 : b < 18446744073709551616) (w : World) : Calls Try.prog 88 #[.int .i64 23, .int .u64 a, .int .u64 b] w fun e w' => e = .returned (.int .u64 (remuV a b)) ∧ w' = w := by
  by_cases h : b = 0
  · subst h
    rw [show remuV a 0 = a from if_pos rfl]
    go_enter Try.func88, Try.ntmps88
    go_wp2_with fail
    go_ret
    exact ⟨rfl, rfl⟩
  · have hne : (b == 0) = false := by simpa using h
    have hz : ¬ b = 0 := h
    have H := Lib.hid (remu_val a b h a0 a1 b0)
    go_enter Try.func88, Try.ntmps88
    go_wp2_with fail
    go_ret
    exact ⟨ret_u64 H.out, rfl⟩
end Go.Proofs.Ytgekmhcekkmdhaa
