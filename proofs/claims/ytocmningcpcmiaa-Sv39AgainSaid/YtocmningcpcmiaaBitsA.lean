/-
  Contracts of package bits, what answers numbers and bools: mask, Field, Sext, Align; and the document's own Field, Sext, Align.
-/
import Derived.Test.YtocmningcpcmiaaRows
import Derived.Test.YtocmningcpcmiaaMath
import Derived.WalkKit
import Derived.Outline
import Derived.Deep.QuietTactic
import Derived.BigQuiet
set_option linter.unusedVariables false
set_option linter.unusedSimpArgs false
namespace Go.Proofs.Ytocmningcpcmiaa
open Go.RowKit

theorem mask_c (n : Int) (h0 : 0 ≤ n) (h1 : n ≤ 64) (w : World) : Calls Try.prog 38 #[.int .i64 n] w fun e w' => e = .returned (.int .u64 (2 ^ n.toNat - 1)) ∧ w' = w := by
  go_enter Try.func38, Try.ntmps38
  go_wp2
  go_ret
  exact ⟨ret_u64 (mask_val n h0 h1), rfl⟩


theorem field_in (x hi lo : Int) (hx0 : 0 ≤ x) (hx1 : x < 18446744073709551616) (h0 : 0 ≤ lo) (h1 : lo ≤ hi) (h2 : hi ≤ 63) (w : World) :
    Calls Try.prog 17 #[.int .u64 x, .int .i64 hi, .int .i64 lo] w fun e w' => e = .returned (.int .u64 (fieldV x hi lo)) ∧ Drew w w' := by
  have e1 : IntKind.i64.wrap (hi - lo) = hi - lo := IntWalk.i64_in _ (by omega)
  have e2 : IntKind.i64.wrap (hi - lo + 1) = hi - lo + 1 := IntWalk.i64_in _ (by omega)
  have e3 : 0 ≤ hi - lo + 1 := by omega
  have e4 : hi - lo + 1 ≤ 64 := by omega
  go_enter Try.func17, Try.ntmps17
  go_wp2_with fail
  go_quiet ((go_at_call 38; exact Calls.quiet_of_same (mask_c _ (by omega) (by omega) _)))
  go_wp2
  go_ret
  exact ⟨ret_u64 (field_val x hi lo hx0 hx1 h0 h1 h2), _, rfl⟩
theorem fieldV_out {x hi lo : Int} (h : ¬ (0 ≤ lo ∧ lo ≤ hi ∧ hi ≤ 63)) : fieldV x hi lo = 0 := by unfold fieldV; rw [if_neg h]
theorem field_out (x hi lo : Int) (h : ¬ (0 ≤ lo ∧ lo ≤ hi ∧ hi ≤ 63)) (w : World) :
    Calls Try.prog 17 #[.int .u64 x, .int .i64 hi, .int .i64 lo] w fun e w' => e = .returned (.int .u64 (fieldV x hi lo)) ∧ Drew w w' := by
  rw [fieldV_out h]
  by_cases a : lo < 0
  · go_enter Try.func17, Try.ntmps17
    go_wp2
    go_ret
    exact ⟨rfl, Drew.refl _⟩
  · by_cases b : hi < lo
    · go_enter Try.func17, Try.ntmps17
      go_wp2
      go_ret
      exact ⟨rfl, Drew.refl _⟩
    · have c : 64 ≤ hi := by omega
      go_enter Try.func17, Try.ntmps17
      go_wp2
      go_ret
      exact ⟨rfl, Drew.refl _⟩
theorem field_c (x hi lo : Int) (hx0 : 0 ≤ x) (hx1 : x < 18446744073709551616) (w : World) :
    Calls Try.prog 17 #[.int .u64 x, .int .i64 hi, .int .i64 lo] w fun e w' => e = .returned (.int .u64 (fieldV x hi lo)) ∧ Drew w w' := by
  by_cases h : 0 ≤ lo ∧ lo ≤ hi ∧ hi ≤ 63
  · exact field_in x hi lo hx0 hx1 h.1 h.2.1 h.2.2 w
  · exact field_out x hi lo h w

theorem sext_c (x n : Int) (hx0 : 0 ≤ x) (_hx1 : x < 18446744073709551616) (w : World) :
    Calls Try.prog 19 #[.int .u64 x, .int .i64 n] w fun e w' => e = .returned (.int .u64 (sextV x n)) ∧ w' = w := by
  by_cases a : n < 1
  · have e : sextV x n = 0 := by unfold sextV; rw [if_pos a]
    rw [e]
    clear e
    go_enter Try.func19, Try.ntmps19
    go_wp2
    go_ret
    exact ⟨rfl, rfl⟩
  · by_cases b : 64 ≤ n
    · have e : sextV x n = x := by unfold sextV; rw [if_neg a, if_pos (by omega)]
      rw [e]
      clear e
      go_enter Try.func19, Try.ntmps19
      go_wp2
      go_ret
      exact ⟨rfl, rfl⟩
    · have e := sext_val x n (by omega) (by omega) hx0
      rw [IntWalk.i64_left] at e
      have H := Lib.hid e
      clear e
      go_enter Try.func19, Try.ntmps19
      go_wp2
      go_ret
      exact ⟨ret_u64 H.out, rfl⟩


/-! ### The document's own -/
theorem refField_c (x hi lo : Int) (hx0 : 0 ≤ x) (hx1 : x < 18446744073709551616) (w : World) :
    Calls Try.prog 52 #[.int .u64 x, .int .i64 hi, .int .i64 lo] w fun e w' => e = .returned (.int .u64 (fieldV x hi lo)) ∧ w' = w := by
  by_cases h : 0 ≤ lo ∧ lo ≤ hi ∧ hi ≤ 63
  · obtain ⟨h0, h1, h2⟩ := h
    have hd := div_pow_lt x lo.toNat hx0 hx1
    have e1 : IntKind.i64.wrap (hi - lo) = hi - lo := IntWalk.i64_in _ (by omega)
    have e2 : IntKind.i64.wrap (hi - lo + 1) = hi - lo + 1 := IntWalk.i64_in _ (by omega)
    have e3 : 0 ≤ hi - lo + 1 := by omega
    by_cases h3 : hi - lo + 1 = 64
    · obtain rfl : lo = 0 := by omega
      obtain rfl : hi = 63 := by omega
      have e : fieldV x 63 0 = x := by
        unfold fieldV; rw [if_pos ⟨h0, h1, h2⟩]
        simp; omega
      rw [e]
      clear e
      clear e1 e2 e3 h3 hd
      go_enter Try.func52, Try.ntmps52
      go_wp2
      go_ret
      exact ⟨rfl, rfl⟩
    · have hp := pow_le_63 (m := (hi - lo + 1).toNat) (by omega)
      have e4 : IntKind.u64.wrap (2 ^ (hi - lo + 1).toNat) = 2 ^ (hi - lo + 1).toNat := IntWalk.u64_in _ (by omega)
      have e : fieldV x hi lo = x / 2 ^ lo.toNat % 2 ^ (hi - lo + 1).toNat := by
        unfold fieldV; rw [if_pos ⟨h0, h1, h2⟩]
      have H := Lib.hid e
      clear e
      have h5 : ¬ (hi - lo + 1 = 64) := h3
      go_enter Try.func52, Try.ntmps52
      go_wp2
      go_ret
      exact ⟨ret_u64 H.out.symm, rfl⟩
  · rw [fieldV_out h]
    by_cases a : lo < 0
    · go_enter Try.func52, Try.ntmps52
      go_wp2
      go_ret
      exact ⟨rfl, rfl⟩
    · by_cases b : hi < lo
      · go_enter Try.func52, Try.ntmps52
        go_wp2
        go_ret
        exact ⟨rfl, rfl⟩
      · have c : 63 < hi := by omega
        go_enter Try.func52, Try.ntmps52
        go_wp2
        go_ret
        exact ⟨rfl, rfl⟩

theorem refAlign_c (x n : Int) (hx0 : 0 ≤ x) (hx1 : x < 18446744073709551616) (w : World) :
    Calls Try.prog 14 #[.int .u64 x, .int .i64 n] w fun e w' => e = .returned (.bool (alignV x n)) ∧ w' = w := by
  by_cases a : n = 1 ∨ n = 2 ∨ n = 4 ∨ n = 8
  · rcases a with rfl | rfl | rfl | rfl
    all_goals
      go_enter Try.func14, Try.ntmps14
      go_wp2
      go_ret
      exact ⟨ret_bool (by rw [Bool.eq_iff_iff]; simp [alignV]), rfl⟩
  · have h1 : n ≠ 1 := by omega
    have h2 : n ≠ 2 := by omega
    have h3 : n ≠ 4 := by omega
    have h4 : n ≠ 8 := by omega
    have e : alignV x n = false := by simp [alignV, a]
    rw [e]
    clear e a
    go_enter Try.func14, Try.ntmps14
    go_wp2
    go_ret
    exact ⟨rfl, rfl⟩

theorem refSext_c (x n : Int) (hx0 : 0 ≤ x) (hx1 : x < 18446744073709551616) (w : World) :
    Calls Try.prog 31 #[.int .u64 x, .int .i64 n] w fun e w' => e = .returned (.int .u64 (sextV x n)) ∧ w' = w := by
  by_cases a : n < 1
  · have e : sextV x n = 0 := by unfold sextV; rw [if_pos a]
    rw [e]
    clear e
    go_enter Try.func31, Try.ntmps31
    go_wp2
    go_ret
    exact ⟨rfl, rfl⟩
  · by_cases b : 63 < n
    · have e : sextV x n = x := by unfold sextV; rw [if_neg a, if_pos b]
      rw [e]
      clear e
      go_enter Try.func31, Try.ntmps31
      go_wp2
      go_ret
      exact ⟨rfl, rfl⟩
    · have hp := pow_le_63 (m := n.toNat) (by omega)
      have hp1 := pow_le_63 (m := n.toNat - 1) (by omega)
      have e1 : IntKind.u64.wrap (2 ^ n.toNat) = 2 ^ n.toNat := IntWalk.u64_in _ (by omega)
      have e2 : IntKind.u64.wrap (2 ^ (n - 1).toNat) = 2 ^ (n - 1).toNat := by rw [show (n - 1).toNat = n.toNat - 1 by omega]; exact IntWalk.u64_in _ (by omega)
      have hm0 := Int.emod_nonneg x (Int.ne_of_gt (pow_pos' n.toNat))
      have hm1 := Int.emod_lt_of_pos x (pow_pos' n.toNat)
      by_cases hlt : x % 2 ^ n.toNat < 2 ^ (n.toNat - 1)
      · have e : sextV x n = x % 2 ^ n.toNat := by
          unfold sextV; rw [if_neg a, if_neg b, if_pos hlt]
        have H := Lib.hid e
        clear e
        go_enter Try.func31, Try.ntmps31
        go_wp2
        go_ret
        exact ⟨ret_u64 H.out.symm, rfl⟩
      · have e : IntKind.u64.wrap (x % 2 ^ n.toNat - 2 ^ n.toNat) = sextV x n := by
          unfold sextV; rw [if_neg a, if_neg b, if_neg hlt, wrap_u64]
          omega
        have H := Lib.hid e
        clear e
        have hge : 2 ^ (n.toNat - 1) ≤ x % 2 ^ n.toNat := by omega
        clear hlt
        go_enter Try.func31, Try.ntmps31
        go_wp2
        go_ret
        exact ⟨ret_u64 H.out, rfl⟩
end Go.Proofs.Ytocmningcpcmiaa
