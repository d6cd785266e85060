/-
  The document's own text of layer 4: the upper half, shifts, quotients, do, Do: they answer what package alu's sums answer.
-/
import Derived.Test.YtgekmhcekkmdhaaAluM
set_option linter.unusedVariables false
set_option linter.unusedSimpArgs false
namespace Go.Proofs.Ytgekmhcekkmdhaa
open Go Go.RowKit

/-! ### Plain numbers -/
theorem high_val (a b : Int) (a0 : 0 ≤ a) (a1 : a < 18446744073709551616) (b0 : 0 ≤ b) (b1 : b < 18446744073709551616) :
    IntKind.u64.wrap (IntKind.u64.wrap (IntKind.u64.wrap (a / 4294967296 * (b / 4294967296)) +
        IntKind.u64.wrap (IntKind.u64.wrap (a / 4294967296 * (b % 4294967296)) + IntKind.u64.wrap (a % 4294967296 * (b % 4294967296)) / 4294967296) / 4294967296) +
      IntKind.u64.wrap (IntKind.u64.wrap (a % 4294967296 * (b / 4294967296)) + IntKind.u64.wrap (IntKind.u64.wrap (a / 4294967296 * (b % 4294967296)) + IntKind.u64.wrap (a % 4294967296 * (b % 4294967296)) / 4294967296) % 4294967296) / 4294967296) = hiV a b := by
  rw [Int.add_comm (IntKind.u64.wrap (a % 4294967296 * (b / 4294967296)))]
  exact mul64_val a b a0 a1 b0 b1
theorem negV_t (a : Int) (h : 9223372036854775808 ≤ a) : negV a = true := decide_eq_true h
theorem negV_f (a : Int) (h : a < 9223372036854775808) : negV a = false := decide_eq_false (by omega)
theorem sra_pos (a b : Int) (a0 : 0 ≤ a) (h : a < 9223372036854775808) (b0 : 0 ≤ b) (b1 : b < 64) : sraV a b = a / 2 ^ b.toNat := by
  unfold sraV
  rw [show b % 64 = b by omega, wrap64_val a a0 (by omega), if_pos h]
  have := div_pow_lt a b.toNat a0 (by omega)
  rw [IntWalk.u64_in _ (by omega)]
theorem sra_zero (a : Int) (a0 : 0 ≤ a) (a1 : a < 18446744073709551616) : sraV a 0 = a := by
  unfold sraV
  rw [show ((0 : Int) % 64).toNat = 0 by decide]
  simp only [Int.pow_zero, Int.ediv_one]
  exact u64_wrap64 a a0 a1
theorem sra_neg (a b : Int) (a1 : a < 18446744073709551616) (h : 9223372036854775808 ≤ a) (b0 : 0 < b) (b1 : b < 64) :
    bits .or .u64 (a / 2 ^ b.toNat) (IntKind.u64.wrap (18446744073709551615 * 2 ^ (64 - b).toNat)) = sraV a b := by
  have hb : b.toNat ≤ 64 := by omega
  have hsp : (18446744073709551616 : Int) = 2 ^ b.toNat * 2 ^ (64 - b.toNat) := by rw [← two64]; exact pow_split hb
  have hp := pow_pos' b.toNat
  have hq := pow_pos' (64 - b.toNat)
  have e64 : (64 - b).toNat = 64 - b.toNat := by omega
  have e1 : IntKind.u64.wrap (18446744073709551615 * 2 ^ (64 - b.toNat)) = (2 ^ b.toNat - 1) * 2 ^ (64 - b.toNat) := by
    rw [Int.sub_mul, ← hsp, wrap_u64]
    have h1 := (pow_le_64 (m := 64 - b.toNat) (by omega)).2
    omega
  have hd : a / 2 ^ b.toNat < 2 ^ (64 - b.toNat) := by
    refine Int.ediv_lt_of_lt_mul hp ?_
    rw [Int.mul_comm, ← hsp]
    exact a1
  have hd0 : 0 ≤ a / 2 ^ b.toNat := Int.ediv_nonneg (by omega) (Int.le_of_lt hp)
  have hsum : a / 2 ^ b.toNat + (2 ^ b.toNat - 1) * 2 ^ (64 - b.toNat) < 18446744073709551616 := by
    rw [Int.sub_mul, ← hsp]; omega
  rw [e64, e1, or_add _ _ _ hd0 hd (by omega) hsum]
  unfold sraV
  rw [show b % 64 = b by omega, wrap64_val a (by omega) a1, if_neg (by omega)]
  have e2 : (a - 18446744073709551616) / 2 ^ b.toNat = a / 2 ^ b.toNat - 2 ^ (64 - b.toNat) := by
    rw [hsp, Int.sub_eq_add_neg, ← Int.mul_neg, Int.add_mul_ediv_left _ _ (Int.ne_of_gt hp)]
    omega
  rw [e2, wrap_u64, Int.sub_mul, ← hsp]
  have h1 := (pow_le_64 (m := 64 - b.toNat) (by omega)).2
  omega
/-- Without its sign. -/
def absV (a : Int) : Int := if 9223372036854775808 ≤ a then 18446744073709551616 - a else a
theorem absV_eq (a : Int) (a0 : 0 ≤ a) (a1 : a < 18446744073709551616) : absV a = if wrap64 a < 0 then -wrap64 a else wrap64 a := by
  unfold absV
  rw [wrap64_val a a0 a1]
  split <;> split <;> omega
theorem absV_lt (a : Int) (a0 : 0 ≤ a) (a1 : a < 18446744073709551616) : 0 ≤ absV a ∧ absV a ≤ 9223372036854775808 := by unfold absV; split <;> omega
theorem absV_ne (a : Int) (a1 : a < 18446744073709551616) (h : a ≠ 0) : absV a ≠ 0 := by unfold absV; split <;> omega
theorem negV_eq (a : Int) (a0 : 0 ≤ a) (a1 : a < 18446744073709551616) : negV a = decide (wrap64 a < 0) := by
  unfold negV
  rw [wrap64_val a a0 a1]
  congr 1
  split <;> simp <;> omega
theorem wrapwrap (Q : Int) : IntKind.u64.wrap (wrap64 Q) = IntKind.u64.wrap Q := by
  rw [wrap_u64, wrap_u64]; unfold wrap64; omega
theorem div_val (a b : Int) (hb : b ≠ 0) (a0 : 0 ≤ a) (a1 : a < 18446744073709551616) (b0 : 0 ≤ b) (b1 : b < 18446744073709551616) :
    (if (negV a != negV b) = true then IntKind.u64.wrap (0 - absV a / absV b) else absV a / absV b) = divV a b := by
  unfold divV
  rw [if_neg hb, negV_eq a a0 a1, negV_eq b b0 b1, wrapwrap]
  have hA := absV_lt a a0 a1
  have hB := absV_lt b b0 b1
  have hB2 := absV_ne b b1 hb
  have hq : 0 ≤ absV a / absV b ∧ absV a / absV b ≤ 9223372036854775808 := by
    have h1 : 0 ≤ absV a / absV b := Int.ediv_nonneg hA.1 hB.1
    have h2 : absV a / absV b ≤ absV a := Int.ediv_le_self _ hA.1
    omega
  have eA := absV_eq a a0 a1
  have eB := absV_eq b b0 b1
  by_cases sa : wrap64 a < 0 <;> by_cases sb : wrap64 b < 0
  · rw [if_pos sa] at eA; rw [if_pos sb] at eB
    simp only [sa, sb, decide_true, bne_self_eq_false, Bool.false_eq_true, if_false]
    rw [show wrap64 a = -absV a by omega, show wrap64 b = -absV b by omega, Int.neg_tdiv, Int.tdiv_neg, Int.neg_neg, Int.tdiv_eq_ediv_of_nonneg hA.1, IntWalk.u64_in _ (by omega)]
  · rw [if_pos sa] at eA; rw [if_neg sb] at eB
    simp only [sa, sb, decide_true, decide_false, Bool.true_bne, Bool.not_false, if_true]
    rw [show wrap64 a = -absV a by omega, ← eB, Int.neg_tdiv, Int.tdiv_eq_ediv_of_nonneg hA.1, Int.zero_sub]
  · rw [if_neg sa] at eA; rw [if_pos sb] at eB
    simp only [sa, sb, decide_true, decide_false, Bool.false_bne, if_true]
    rw [show wrap64 b = -absV b by omega, ← eA, Int.tdiv_neg, Int.tdiv_eq_ediv_of_nonneg hA.1, Int.zero_sub]
  · rw [if_neg sa] at eA; rw [if_neg sb] at eB
    simp only [sa, sb, decide_false, bne_self_eq_false, Bool.false_eq_true, if_false]
    rw [← eA, ← eB, Int.tdiv_eq_ediv_of_nonneg hA.1, IntWalk.u64_in _ (by omega)]
theorem rem_val (a b : Int) (hb : b ≠ 0) (a0 : 0 ≤ a) (a1 : a < 18446744073709551616) (b0 : 0 ≤ b) (b1 : b < 18446744073709551616) : IntKind.u64.wrap (a - IntKind.u64.wrap (divV a b * b)) = remV a b := by
  have h := div_rem a b hb a0 a1 b0 b1
  have hr : 0 ≤ remV a b ∧ remV a b < 18446744073709551616 := by unfold remV; rw [if_neg hb]; exact wrap_lt _
  rw [wrap_u64, wrap_u64] at *
  omega
theorem remu_val (a b : Int) (hb : b ≠ 0) (a0 : 0 ≤ a) (a1 : a < 18446744073709551616) (b0 : 0 ≤ b) : IntKind.u64.wrap (a - IntKind.u64.wrap (a / b * b)) = remuV a b := by
  have h := (divu_rem a b hb a0 b0 a1).1
  have hr : 0 ≤ remuV a b ∧ remuV a b < 18446744073709551616 := by
    unfold remuV; rw [if_neg hb]
    have := Int.emod_nonneg a hb
    have := Int.emod_lt_of_pos a (show 0 < b by omega)
    have h3 := Int.mul_ediv_add_emod a b
    have h4 : 0 ≤ b * (a / b) := Int.mul_nonneg b0 (Int.ediv_nonneg a0 b0)
    omega
  rw [show divuV a b = a / b from if_neg hb] at h
  rw [wrap_u64, wrap_u64] at *
  omega
theorem him_val (a b : Int) (b0 : 0 ≤ b) (b1 : b < 18446744073709551616) : IntKind.u64.wrap (hiV a b - IntKind.u64.wrap (flagV (negV a) * b)) = himV a b := by
  unfold himV
  rw [and_signs b a b0 b1]
  rcases Int.lt_or_le a 9223372036854775808 with h | h
  · rw [negV_f a h, if_pos h, show flagV false = 0 from rfl, Int.zero_mul]; rfl
  · rw [negV_t a h, if_neg (by omega), show flagV true = 1 from rfl, Int.one_mul, IntWalk.u64_in b (by omega)]
theorem his_val2 (a b : Int) (a0 : 0 ≤ a) (a1 : a < 18446744073709551616) : IntKind.u64.wrap (himV a b - IntKind.u64.wrap (flagV (negV b) * a)) = hisV a b := by
  unfold hisV
  rw [and_signs a b a0 a1]
  rcases Int.lt_or_le b 9223372036854775808 with h | h
  · rw [negV_f b h, if_pos h, show flagV false = 0 from rfl, Int.zero_mul]; rfl
  · rw [negV_t b h, if_neg (by omega), show flagV true = 1 from rfl, Int.one_mul, IntWalk.u64_in a (by omega)]
end Go.Proofs.Ytgekmhcekkmdhaa
