/-
  Plain facts of numbers for the statements about package alu.
-/
import Derived.Test.YtgekmhcekkmdhaaAluE
set_option linter.unusedVariables false
set_option linter.unusedSimpArgs false
namespace Go.Proofs.Ytgekmhcekkmdhaa
open Go.RowKit

theorem doPV_n (f a b : Int) : doPV f false a b = opV f a b := by simp [doPV]
theorem opV_1 (a b : Int) : opV 1 a b = sllV a b := by simp [opV]
theorem opV_5 (a b : Int) : opV 5 a b = srlV a b := by simp [opV]
theorem opV_13 (a b : Int) : opV 13 a b = sraV a b := by simp [opV]
theorem opV_16 (a b : Int) : opV 16 a b = mulV a b := by simp [opV]
theorem opV_17 (a b : Int) : opV 17 a b = hisV a b := by simp [opV]
theorem opV_19 (a b : Int) : opV 19 a b = hiV a b := by simp [opV]
theorem opV_20 (a b : Int) : opV 20 a b = divV a b := by simp [opV]
theorem opV_21 (a b : Int) : opV 21 a b = divuV a b := by simp [opV]
theorem opV_22 (a b : Int) : opV 22 a b = remV a b := by simp [opV]
theorem opV_23 (a b : Int) : opV 23 a b = remuV a b := by simp [opV]

/-! ### Shifts -/
theorem ones_div (n : Nat) (h : n ≤ 64) : (18446744073709551615 : Int) / 2 ^ n = 2 ^ (64 - n) - 1 := by
  have hsp : (18446744073709551616 : Int) = 2 ^ n * 2 ^ (64 - n) := by rw [← two64]; exact pow_split h
  have hp := pow_pos' n
  rw [show (18446744073709551615 : Int) = (2 ^ n - 1) + 2 ^ n * (2 ^ (64 - n) - 1) by rw [Int.mul_sub, ← hsp]; omega, Int.add_mul_ediv_left _ _ (Int.ne_of_gt hp), Int.ediv_eq_zero_of_lt (by omega) (by omega)]
  omega
theorem shl_val (a : Int) (n : Nat) (h : n ≤ 64) : IntKind.u64.wrap (a * 2 ^ n) = a % 2 ^ (64 - n) * 2 ^ n := by
  have hsp : (18446744073709551616 : Int) = 2 ^ (64 - n) * 2 ^ n := by
    rw [← two64, Int.mul_comm]; exact pow_split h
  rw [wrap_u64, hsp, Int.mul_comm a, Int.mul_comm (2 ^ (64 - n)), Int.mul_emod_mul_of_pos _ _ (pow_pos' n), Int.mul_comm]
theorem sll_srl (a n : Int) (a0 : 0 ≤ a) (a1 : a < 18446744073709551616) (n0 : 0 ≤ n) (n1 : n ≤ 63) : srlV (sllV a n) n = bits .and .u64 a (18446744073709551615 / 2 ^ n.toNat) := by
  unfold srlV sllV
  rw [show n % 64 = n by omega, shl_val a n.toNat (by omega), Int.mul_ediv_cancel _ (Int.ne_of_gt (pow_pos' _)), ones_div _ (by omega), and_mask a _ a0 a1 (by omega)]
theorem wrap64_sra (a n : Int) (n0 : 0 ≤ n) (n1 : n ≤ 63) : wrap64 (sraV a n) = wrap64 a / 2 ^ n.toNat := by
  unfold sraV
  rw [show n % 64 = n by omega]
  have hb := wrap64_lt a
  have hp := pow_pos' n.toNat
  have h1 : -9223372036854775808 ≤ wrap64 a / 2 ^ n.toNat := by
    rw [Int.le_ediv_iff_mul_le hp]
    have : (1 : Int) ≤ 2 ^ n.toNat := hp
    have h2 : (9223372036854775808 : Int) * 1 ≤ 9223372036854775808 * 2 ^ n.toNat := Int.mul_le_mul_of_nonneg_left this (by decide)
    omega
  have h2 : wrap64 a / 2 ^ n.toNat ≤ 9223372036854775807 := by
    rcases Int.lt_or_le (wrap64 a) 0 with h | h
    · have := Int.ediv_neg_of_neg_of_pos h hp
      omega
    · have := Int.ediv_le_self (2 ^ n.toNat) h
      omega
  generalize wrap64 a / 2 ^ n.toNat = y at *
  rw [wrap_u64]
  unfold wrap64
  omega
theorem sra_sra (a n m : Int) (n0 : 0 ≤ n) (m0 : 0 ≤ m) (h : m ≤ 63 - n) : sraV (sraV a n) m = sraV a (n + m) := by
  have e := wrap64_sra a n n0 (by omega)
  rw [show sraV (sraV a n) m = IntKind.u64.wrap (wrap64 (sraV a n) / 2 ^ (m % 64).toNat) from rfl, e]
  unfold sraV
  rw [show m % 64 = m by omega, show (n + m) % 64 = n + m by omega, Int.ediv_ediv_of_nonneg (Int.le_of_lt (pow_pos' _)), ← Int.pow_add, show n.toNat + m.toNat = (n + m).toNat by omega]
theorem sll_64 (a n : Int) : sllV a (n + 64) = sllV a n := by unfold sllV; rw [show (n + 64) % 64 = n % 64 by omega]

/-! ### The upper half -/
theorem hi_pow (a k : Int) (_a0 : 0 ≤ a) (k0 : 1 ≤ k) (k1 : k ≤ 63) : hiV a (2 ^ k.toNat) = a / 2 ^ (64 - k).toNat := by
  unfold hiV
  have hsp : (18446744073709551616 : Int) = 2 ^ k.toNat * 2 ^ (64 - k).toNat := by
    rw [← two64, show (64 - k).toNat = 64 - k.toNat by omega]; exact pow_split (by omega)
  rw [hsp, Int.mul_comm, Int.mul_ediv_mul_of_pos _ _ (pow_pos' _)]
theorem hi_comm (a b : Int) : hiV a b = hiV b a := by unfold hiV; rw [Int.mul_comm]
theorem and_signs (b a : Int) (b0 : 0 ≤ b) (b1 : b < 18446744073709551616) : bits .and .u64 b (signsV a) = if a < 9223372036854775808 then 0 else b := by
  unfold signsV
  split
  · have h := and_mask b 0 b0 b1 (by decide)
    have e : (2 : Int) ^ 0 - 1 = 0 := by decide
    rw [e] at h
    rw [h]
    omega
  · have h := and_mask b 64 b0 b1 (by decide)
    have e : (2 : Int) ^ 64 - 1 = 18446744073709551615 := by decide
    rw [e, two64] at h
    rw [h]
    omega
theorem his_val (a b : Int) (a0 : 0 ≤ a) (a1 : a < 18446744073709551616) (b0 : 0 ≤ b) (b1 : b < 18446744073709551616) :
    hisV a b = (hiV a b - (if a < 9223372036854775808 then 0 else b) - (if b < 9223372036854775808 then 0 else a)) % 18446744073709551616 := by
  unfold hisV himV
  rw [and_signs b a b0 b1, and_signs a b a0 a1, wrap_u64, wrap_u64]
  omega
theorem his_comm (a b : Int) (a0 : 0 ≤ a) (a1 : a < 18446744073709551616) (b0 : 0 ≤ b) (b1 : b < 18446744073709551616) : hisV a b = hisV b a := by
  rw [his_val a b a0 a1 b0 b1, his_val b a b0 b1 a0 a1, hi_comm a b]
  congr 1
  omega

/-! ### Quotients -/
theorem divu_rem (a b : Int) (hb : b ≠ 0) (a0 : 0 ≤ a) (b0 : 0 ≤ b) (a1 : a < 18446744073709551616) : IntKind.u64.wrap (IntKind.u64.wrap (divuV a b * b) + remuV a b) = a ∧ remuV a b < b := by
  unfold divuV remuV
  rw [if_neg hb, if_neg hb]
  have h1 := Int.emod_lt_of_pos a (show 0 < b by omega)
  have h2 := Int.mul_ediv_add_emod a b
  have h3 := Int.emod_nonneg a hb
  rw [Int.mul_comm] at h2
  refine ⟨?_, h1⟩
  rw [wrap_u64, wrap_u64]
  omega
theorem div_rem (a b : Int) (hb : b ≠ 0) (a0 : 0 ≤ a) (a1 : a < 18446744073709551616) (b0 : 0 ≤ b) (b1 : b < 18446744073709551616) : IntKind.u64.wrap (IntKind.u64.wrap (divV a b * b) + remV a b) = a := by
  unfold divV remV
  rw [if_neg hb, if_neg hb]
  have h2 := Int.mul_tdiv_add_tmod (wrap64 a) (wrap64 b)
  have eA := wrap64_val a a0 a1
  have eB := wrap64_val b b0 b1
  generalize hQ : (wrap64 a).tdiv (wrap64 b) = Q at *
  generalize (wrap64 a).tmod (wrap64 b) = R at *
  have m1 : IntKind.u64.wrap (wrap64 Q) = Q % 18446744073709551616 := by
    rw [wrap_u64]; unfold wrap64; omega
  rw [m1, wrap_u64, wrap_u64, wrap_u64]
  have h3 : Q % 18446744073709551616 * b % 18446744073709551616 = wrap64 b * Q % 18446744073709551616 := by
    have h4 : wrap64 b % 18446744073709551616 = b % 18446744073709551616 := by rw [eB]; split <;> omega
    rw [Int.mul_comm (wrap64 b), Int.mul_emod Q (wrap64 b), h4, Int.mul_emod, Int.emod_emod]
  rw [h3]
  generalize wrap64 b * Q = P at *
  rw [← h2] at eA
  split at eA <;> omega
theorem rem_sign (a b : Int) (hb : b ≠ 0) (a0 : 0 ≤ a) (a1 : a < 18446744073709551616) (b0 : 0 ≤ b) (b1 : b < 18446744073709551616) : remV a b = 0 ∨ negV (remV a b) = negV a := by
  unfold remV negV
  rw [if_neg hb]
  have eA := wrap64_val a a0 a1
  have hl := wrap64_lt b
  have h1 : (wrap64 a).tmod (wrap64 b) < 9223372036854775808 ∧ -9223372036854775808 < (wrap64 a).tmod (wrap64 b) := by
    have hn := wrap64_ne b b0 b1 hb
    have h := Int.natAbs_tmod (wrap64 a) (wrap64 b)
    have h2 := Nat.mod_lt (wrap64 a).natAbs (show 0 < (wrap64 b).natAbs by omega)
    omega
  rcases Int.lt_or_le a 9223372036854775808 with h | h
  · rw [if_pos h] at eA
    have h3 := Int.tmod_nonneg (wrap64 b) (show 0 ≤ wrap64 a by omega)
    right
    rw [wrap_u64]
    have : ¬ 9223372036854775808 ≤ (wrap64 a).tmod (wrap64 b) % 18446744073709551616 := by omega
    rw [decide_eq_false this, decide_eq_false (by omega)]
  · rw [if_neg (by omega)] at eA
    have h3 : (wrap64 a).tmod (wrap64 b) ≤ 0 := by
      have h4 := Int.tmod_nonneg (wrap64 b) (show 0 ≤ -wrap64 a by omega)
      rw [Int.neg_tmod] at h4
      omega
    rcases Int.lt_or_le ((wrap64 a).tmod (wrap64 b)) 0 with h5 | h5
    · right
      rw [wrap_u64]
      have : 9223372036854775808 ≤ (wrap64 a).tmod (wrap64 b) % 18446744073709551616 := by omega
      rw [decide_eq_true this, decide_eq_true (by omega)]
    · left
      rw [show (wrap64 a).tmod (wrap64 b) = 0 by omega]
      decide

/-! ### Words -/
theorem field32 (a : Int) : fieldV a 31 0 = a % 4294967296 := by
  unfold fieldV
  rw [if_pos (by omega)]
  simp
theorem sext32 (a : Int) : sextV a 32 = if a % 4294967296 < 2147483648 then a % 4294967296 else a % 4294967296 + 18446744069414584320 := by
  unfold sextV
  rw [if_neg (by omega), if_neg (by omega)]
  simp
theorem nA_low (f a : Int) : nA f a = nA f (a % 4294967296) := by unfold nA; rw [field32, field32, sext32, sext32, Int.emod_emod]
theorem nB_low (f b : Int) : nB f b = nB f (b % 4294967296) := by
  unfold nB; rw [field32, field32, sext32, sext32, Int.emod_emod, show b % 4294967296 % 32 = b % 32 by omega]
theorem word_low (f a b c d : Int) (h1 : c % 4294967296 = a % 4294967296) (h2 : d % 4294967296 = b % 4294967296) : doPV f true c d = doPV f true a b := by
  unfold doPV
  rw [if_pos rfl, if_pos rfl, nA_low f c, nB_low f d, h1, h2, ← nA_low f a, ← nB_low f b]
theorem word_range (f a b : Int) : doPV f true a b < 2147483648 ∨ 18446744071562067968 ≤ doPV f true a b := by
  unfold doPV
  rw [if_pos rfl]
  split
  · rw [sext32]; split <;> omega
  · left; decide
theorem or_low (a p : Int) (a0 : 0 ≤ a) (a1 : a < 4294967296) (p0 : 0 ≤ p) (p1 : p < 18446744073709551616) : bits .or .u64 a (IntKind.u64.wrap (p * 4294967296)) % 4294967296 = a := by
  have e : IntKind.u64.wrap (p * 4294967296) = p % 4294967296 * 2 ^ 32 := by
    have e32 : (2 : Int) ^ 32 = 4294967296 := by decide
    rw [wrap_u64, e32]; omega
  rw [e, or_add a _ 32 a0 (by have e32 : (2 : Int) ^ 32 = 4294967296 := by decide
                              omega) (by omega) (by have e32 : (2 : Int) ^ 32 = 4294967296 := by decide
                                                    omega)]
  have e32 : (2 : Int) ^ 32 = 4294967296 := by decide
  rw [e32]
  omega

/-! ### Comparisons -/
theorem wrap64_inj (a b : Int) (a0 : 0 ≤ a) (a1 : a < 18446744073709551616) (b0 : 0 ≤ b) (b1 : b < 18446744073709551616) (h : wrap64 a = wrap64 b) : a = b := by
  rw [wrap64_val a a0 a1, wrap64_val b b0 b1] at h
  split at h <;> split at h <;> omega
theorem u64_wrap64 (a : Int) (a0 : 0 ≤ a) (a1 : a < 18446744073709551616) : IntKind.u64.wrap (wrap64 a) = a := by
  rw [wrap64_val a a0 a1, wrap_u64]
  split <;> omega
theorem AmoV_n (f a b : Int) : AmoV f false a b = amoPV f a b := by simp [AmoV]
theorem amo_16 (a b : Int) (a0 : 0 ≤ a) (a1 : a < 18446744073709551616) (b0 : 0 ≤ b) (b1 : b < 18446744073709551616) : AmoV 16 false a b = if wrap64 b < wrap64 a then b else a := by
  rw [AmoV_n, show amoPV 16 a b = IntKind.u64.wrap (pickV (wrap64 a) (wrap64 b) false) by simp [amoPV]]
  unfold pickV
  by_cases h : wrap64 b < wrap64 a
  · simp only [h, decide_true, if_true, reduceCtorEq, if_false]; exact u64_wrap64 b b0 b1
  · simp only [h, decide_false, if_true, if_false]; exact u64_wrap64 a a0 a1
theorem amo_20 (a b : Int) (a0 : 0 ≤ a) (a1 : a < 18446744073709551616) (b0 : 0 ≤ b) (b1 : b < 18446744073709551616) : AmoV 20 false a b = if wrap64 b < wrap64 a then a else b := by
  rw [AmoV_n, show amoPV 20 a b = IntKind.u64.wrap (pickV (wrap64 a) (wrap64 b) true) by simp [amoPV]]
  unfold pickV
  by_cases h : wrap64 b < wrap64 a
  · simp only [h, decide_true, if_true]; exact u64_wrap64 a a0 a1
  · simp only [h, decide_false, if_false, reduceCtorEq]; exact u64_wrap64 b b0 b1
theorem amo_24 (a b : Int) : AmoV 24 false a b = if b < a then b else a := by
  rw [AmoV_n, show amoPV 24 a b = pickV a b false by simp [amoPV]]
  unfold pickV
  by_cases h : b < a <;> simp [h]
theorem amo_28 (a b : Int) : AmoV 28 false a b = if b < a then a else b := by
  rw [AmoV_n, show amoPV 28 a b = pickV a b true by simp [amoPV]]
  unfold pickV
  by_cases h : b < a <;> simp [h]
end Go.Proofs.Ytgekmhcekkmdhaa
