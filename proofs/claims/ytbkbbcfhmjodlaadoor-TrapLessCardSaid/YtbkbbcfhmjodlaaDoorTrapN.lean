/-
  Plain mathematics of single bits of numbers of 64 bits. No program is looked at here.
-/
import Derived.Test.YtbkbbcfhmjodlaaDoorCsrM
set_option linter.unusedVariables false
set_option linter.unusedSimpArgs false
namespace Go.Proofs.YtbkbbcfhmjodlaaDoor
open Go.RowKit

/-- Bit n of x; x with bit n as b. -/
def bitN (x n : Nat) : Nat := x / 2 ^ n % 2
def setN (x n b : Nat) : Nat := ndn x (2 ^ n) ||| b * 2 ^ n
theorem bitN_lt (x n : Nat) : bitN x n < 2 := Nat.mod_lt _ (by decide)
theorem pow_lt64 {n : Nat} (hn : n < 64) : 2 ^ n < 2 ^ 64 := Nat.pow_lt_pow_right (by decide) hn
theorem shl_lt {n b : Nat} (hn : n < 64) (hb : b < 2) : b * 2 ^ n < 2 ^ 64 := by
  have := pow_lt64 hn
  obtain rfl | rfl : b = 0 ∨ b = 1 := by omega
  · omega
  · omega
theorem setN_lt (x n b : Nat) (hx : x < 2 ^ 64) (hn : n < 64) (hb : b < 2) : setN x n b < 2 ^ 64 := or_lt (ndn_lt _ _ hx) (shl_lt hn hb)
theorem tb_bit (x n : Nat) : (bitN x n == 1) = x.testBit n := by
  rw [Nat.testBit_eq_decide_div_mod_eq]
  unfold bitN
  rw [Bool.eq_iff_iff]
  simp
theorem bit_bool (x n : Nat) : bitN x n = if x.testBit n = true then 1 else 0 := by
  have h := tb_bit x n
  have := bitN_lt x n
  by_cases hb : x.testBit n = true
  · rw [if_pos hb]
    rw [hb] at h
    exact eq_of_beq h
  · rw [if_neg hb]
    have hb' : x.testBit n = false := by simpa using hb
    rw [hb', beq_eq_false_iff_ne] at h
    omega
theorem tb_set (x n b i : Nat) (hx : x < 2 ^ 64) (hn : n < 64) (hb : b < 2) : (setN x n b).testBit i = if i = n then decide (b = 1) else x.testBit i := by
  unfold setN
  rw [Nat.testBit_or, tb_ndn x _ i hx (pow_lt64 hn), Nat.testBit_two_pow, Nat.testBit_mul_two_pow]
  by_cases h : i = n
  · subst h
    obtain rfl | rfl : b = 0 ∨ b = 1 := by omega
    · simp
    · simp
  · rw [if_neg h]
    have h' : ¬ n = i := fun e => h e.symm
    obtain rfl | rfl : b = 0 ∨ b = 1 := by omega
    · simp [h']
    · have : Nat.testBit 1 (i - n) = decide (i - n = 0) := by rw [show (1 : Nat) = 2 ^ 0 by decide, Nat.testBit_two_pow]; simp [eq_comm]
      rw [this]
      by_cases hle : n ≤ i
      · simp [h', hle, show ¬ i - n = 0 by omega]
      · simp [h', hle]
end Go.Proofs.YtbkbbcfhmjodlaaDoor
