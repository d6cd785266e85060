/-
  Contracts of package alu: what the methods of a pair answer.
-/
import Derived.Test.YtgekmhcekkmdhaaGrew
import Derived.Test.YtgekmhcekkmdhaaAluN
import Derived.Test.YtgekmhcekkmdhaaTail
import Derived.Deep.RegionHeld3
set_option linter.unusedVariables false
set_option linter.unusedSimpArgs false
namespace Go.Proofs.Ytgekmhcekkmdhaa
open Go.RowKit

abbrev pr (a b : Int) : Value := .agg #[.int .u64 a, .int .u64 b]

theorem m_add (a b : Int) (a0 : 0 ≤ a) (a1 : a < 18446744073709551616) (b0 : 0 ≤ b) (b1 : b < 18446744073709551616) {W w : World} (hg : Grew W w) :
    Calls Try.prog 64 #[pr a b] w fun e w' => e = .returned (.int .u64 (addV a b)) ∧ Grew W w' := by
  go_enter Try.func64, Try.ntmps64
  go_wp2
  go_ret
  exact ⟨ret_u64 rfl, hg.alloc _⟩

theorem m_sub (a b : Int) (a0 : 0 ≤ a) (a1 : a < 18446744073709551616) (b0 : 0 ≤ b) (b1 : b < 18446744073709551616) {W w : World} (hg : Grew W w) :
    Calls Try.prog 73 #[pr a b] w fun e w' => e = .returned (.int .u64 (subV a b)) ∧ Grew W w' := by
  go_enter Try.func73, Try.ntmps73
  go_wp2
  go_ret
  exact ⟨ret_u64 rfl, hg.alloc _⟩

theorem m_xor (a b : Int) (a0 : 0 ≤ a) (a1 : a < 18446744073709551616) (b0 : 0 ≤ b) (b1 : b < 18446744073709551616) {W w : World} (hg : Grew W w) :
    Calls Try.prog 69 #[pr a b] w fun e w' => e = .returned (.int .u64 (xorV a b)) ∧ Grew W w' := by
  go_enter Try.func69, Try.ntmps69
  go_wp2
  go_ret
  exact ⟨ret_u64 rfl, hg.alloc _⟩

theorem m_or (a b : Int) (a0 : 0 ≤ a) (a1 : a < 18446744073709551616) (b0 : 0 ≤ b) (b1 : b < 18446744073709551616) {W w : World} (hg : Grew W w) :
    Calls Try.prog 71 #[pr a b] w fun e w' => e = .returned (.int .u64 (orV a b)) ∧ Grew W w' := by
  go_enter Try.func71, Try.ntmps71
  go_wp2
  go_ret
  exact ⟨ret_u64 rfl, hg.alloc _⟩

theorem m_and (a b : Int) (a0 : 0 ≤ a) (a1 : a < 18446744073709551616) (b0 : 0 ≤ b) (b1 : b < 18446744073709551616) {W w : World} (hg : Grew W w) :
    Calls Try.prog 72 #[pr a b] w fun e w' => e = .returned (.int .u64 (andV a b)) ∧ Grew W w' := by
  go_enter Try.func72, Try.ntmps72
  go_wp2
  go_ret
  exact ⟨ret_u64 rfl, hg.alloc _⟩

theorem m_mul (a b : Int) (a0 : 0 ≤ a) (a1 : a < 18446744073709551616) (b0 : 0 ≤ b) (b1 : b < 18446744073709551616) {W w : World} (hg : Grew W w) :
    Calls Try.prog 76 #[pr a b] w fun e w' => e = .returned (.int .u64 (mulV a b)) ∧ Grew W w' := by
  go_enter Try.func76, Try.ntmps76
  go_wp2
  go_ret
  exact ⟨ret_u64 rfl, hg.alloc _⟩

theorem m_sll (a b : Int) (a0 : 0 ≤ a) (a1 : a < 18446744073709551616) (b0 : 0 ≤ b) (b1 : b < 18446744073709551616) {W w : World} (hg : Grew W w) :
    Calls Try.prog 65 #[pr a b] w fun e w' => e = .returned (.int .u64 (sllV a b)) ∧ Grew W w' := by
  go_enter Try.func65, Try.ntmps65
  go_wp2
  go_ret
  exact ⟨ret_u64 rfl, hg.alloc _⟩

theorem m_srl (a b : Int) (a0 : 0 ≤ a) (a1 : a < 18446744073709551616) (b0 : 0 ≤ b) (b1 : b < 18446744073709551616) {W w : World} (hg : Grew W w) :
    Calls Try.prog 70 #[pr a b] w fun e w' => e = .returned (.int .u64 (srlV a b)) ∧ Grew W w' := by
  go_enter Try.func70, Try.ntmps70
  go_wp2
  go_ret
  exact ⟨ret_u64 rfl, hg.alloc _⟩

theorem m_sra (a b : Int) (a0 : 0 ≤ a) (a1 : a < 18446744073709551616) (b0 : 0 ≤ b) (b1 : b < 18446744073709551616) {W w : World} (hg : Grew W w) :
    Calls Try.prog 74 #[pr a b] w fun e w' => e = .returned (.int .u64 (sraV a b)) ∧ Grew W w' := by
  go_enter Try.func74, Try.ntmps74
  go_wp2
  go_ret
  exact ⟨ret_u64 rfl, hg.alloc _⟩

theorem flag_c (x : Bool) (w : World) : Calls Try.prog 93 #[.bool x] w fun e w' => e = .returned (.int .u64 (flagV x)) ∧ w' = w := by
  cases x
  all_goals
    go_enter Try.func93, Try.ntmps93
    go_wp2
    go_ret
    exact ⟨rfl, rfl⟩

theorem m_slt (a b : Int) (a0 : 0 ≤ a) (a1 : a < 18446744073709551616) (b0 : 0 ≤ b) (b1 : b < 18446744073709551616) {W w : World} (hg : Grew W w) :
    Calls Try.prog 67 #[pr a b] w fun e w' => e = .returned (.int .u64 (sltV a b)) ∧ Grew W w' := by
  go_enter Try.func67, Try.ntmps67
  go_wp2_with fail
  refine (flag_c _ _).mono ?_
  rintro e w1 ⟨rfl, h1⟩
  obtain rfl := h1.symm
  go_wp2_with fail
  go_ret
  exact ⟨ret_u64 rfl, hg.alloc _⟩

theorem m_sltu (a b : Int) (a0 : 0 ≤ a) (a1 : a < 18446744073709551616) (b0 : 0 ≤ b) (b1 : b < 18446744073709551616) {W w : World} (hg : Grew W w) :
    Calls Try.prog 68 #[pr a b] w fun e w' => e = .returned (.int .u64 (sltuV a b)) ∧ Grew W w' := by
  go_enter Try.func68, Try.ntmps68
  go_wp2_with fail
  refine (flag_c _ _).mono ?_
  rintro e w1 ⟨rfl, h1⟩
  obtain rfl := h1.symm
  go_wp2_with fail
  go_ret
  exact ⟨ret_u64 rfl, hg.alloc _⟩

theorem signs_val (a : Int) (a0 : 0 ≤ a) (a1 : a < 18446744073709551616) : IntKind.u64.wrap (wrap64 a / 9223372036854775808) = signsV a := by
  rw [wrap64_val a a0 a1, wrap_u64]
  unfold signsV
  split <;> omega
theorem signs_c (a : Int) (a0 : 0 ≤ a) (a1 : a < 18446744073709551616) (w : World) : Calls Try.prog 94 #[.int .u64 a] w fun e w' => e = .returned (.int .u64 (signsV a)) ∧ w' = w := by
  have H := Lib.hid (signs_val a a0 a1)
  go_enter Try.func94, Try.ntmps94
  go_wp2
  go_ret
  exact ⟨ret_u64 H.out, rfl⟩

theorem low_c (a : Int) (a0 : 0 ≤ a) (a1 : a < 18446744073709551616) (w : World) : Calls Try.prog 37 #[.int .u64 a] w fun e w' => e = .returned (.int .u64 (fieldV a 31 0)) ∧ Drew w w' := by
  go_enter Try.func37, Try.ntmps37
  go_wp2_with fail
  refine (field_c a 31 0 a0 a1 _).mono ?_
  rintro e w1 ⟨rfl, n, rfl⟩
  go_wp2_with fail
  go_ret
  exact ⟨rfl, n, rfl⟩

theorem wrap64_ne (b : Int) (b0 : 0 ≤ b) (b1 : b < 18446744073709551616) (h : b ≠ 0) : ¬ wrap64 b = 0 := by
  rw [wrap64_val b b0 b1]
  split <;> omega

theorem m_div (a b : Int) (a0 : 0 ≤ a) (a1 : a < 18446744073709551616) (b0 : 0 ≤ b) (b1 : b < 18446744073709551616) {W w : World} (hg : Grew W w) :
    Calls Try.prog 80 #[pr a b] w fun e w' => e = .returned (.int .u64 (divV a b)) ∧ Grew W w' := by
  by_cases h : b = 0
  · subst h
    have e : divV a 0 = 18446744073709551615 := by unfold divV; rw [if_pos rfl]
    rw [e]
    clear e
    go_enter Try.func80, Try.ntmps80
    go_wp2
    go_ret
    exact ⟨rfl, hg.alloc _⟩
  · have hn := wrap64_ne b b0 b1 h
    have H := Lib.hid (show divV a b = _ from if_neg h)
    go_enter Try.func80, Try.ntmps80
    go_wp2
    go_ret
    exact ⟨ret_u64 H.out.symm, hg.alloc _⟩

theorem m_rem (a b : Int) (a0 : 0 ≤ a) (a1 : a < 18446744073709551616) (b0 : 0 ≤ b) (b1 : b < 18446744073709551616) {W w : World} (hg : Grew W w) :
    Calls Try.prog 83 #[pr a b] w fun e w' => e = .returned (.int .u64 (remV a b)) ∧ Grew W w' := by
  by_cases h : b = 0
  · subst h
    have e : remV a 0 = a := by unfold remV; rw [if_pos rfl]
    rw [e]
    clear e
    go_enter Try.func83, Try.ntmps83
    go_wp2
    go_ret
    exact ⟨rfl, hg.alloc _⟩
  · have hn := wrap64_ne b b0 b1 h
    have H := Lib.hid (show remV a b = _ from if_neg h)
    go_enter Try.func83, Try.ntmps83
    go_wp2
    go_ret
    exact ⟨ret_u64 H.out.symm, hg.alloc _⟩

theorem m_divu (a b : Int) (a0 : 0 ≤ a) (a1 : a < 18446744073709551616) (b0 : 0 ≤ b) (b1 : b < 18446744073709551616) {W w : World} (hg : Grew W w) :
    Calls Try.prog 81 #[pr a b] w fun e w' => e = .returned (.int .u64 (divuV a b)) ∧ Grew W w' := by
  by_cases h : b = 0
  · subst h
    have e : divuV a 0 = 18446744073709551615 := by unfold divuV; rw [if_pos rfl]
    rw [e]
    clear e
    go_enter Try.func81, Try.ntmps81
    go_wp2
    go_ret
    exact ⟨rfl, hg.alloc _⟩
  · have hn := wrap64_ne b b0 b1 h
    have H := Lib.hid (show divuV a b = _ from if_neg h)
    go_enter Try.func81, Try.ntmps81
    go_wp2
    go_ret
    exact ⟨ret_u64 H.out.symm, hg.alloc _⟩

theorem m_remu (a b : Int) (a0 : 0 ≤ a) (a1 : a < 18446744073709551616) (b0 : 0 ≤ b) (b1 : b < 18446744073709551616) {W w : World} (hg : Grew W w) :
    Calls Try.prog 84 #[pr a b] w fun e w' => e = .returned (.int .u64 (remuV a b)) ∧ Grew W w' := by
  by_cases h : b = 0
  · subst h
    have e : remuV a 0 = a := by unfold remuV; rw [if_pos rfl]
    rw [e]
    clear e
    go_enter Try.func84, Try.ntmps84
    go_wp2
    go_ret
    exact ⟨rfl, hg.alloc _⟩
  · have hn := wrap64_ne b b0 b1 h
    have H := Lib.hid (show remuV a b = _ from if_neg h)
    go_enter Try.func84, Try.ntmps84
    go_wp2
    go_ret
    exact ⟨ret_u64 H.out.symm, hg.alloc _⟩
end Go.Proofs.Ytgekmhcekkmdhaa
