/-
  Package clint: plain numbers, the parts of registers (half, find, of, put), registers.
-/
import Derived.Test.YtgcfmijkggpemaaGreatRows
import Derived.Test.YtgcfmijkggpemaaGreatBitsA
import Derived.Test.YtgcfmijkggpemaaGreatGrew
import Derived.Test.YtgcfmijkggpemaaGreatClass
import Derived.WalkKit
import Derived.Outline
import Derived.Handy
import Derived.Deep.QuietTactic
import Derived.BigQuiet
import Derived.Deep.RegionHeld3
set_option maxRecDepth 4000
set_option linter.unusedVariables false
set_option linter.unusedSimpArgs false
namespace Go.Proofs.YtgcfmijkggpemaaGreat
open Go.RowKit

/-! ### Plain numbers -/
theorem wrap_lt (n : Int) : 0 ≤ IntKind.u64.wrap n ∧ IntKind.u64.wrap n < 18446744073709551616 := by rw [wrap_u64]; omega
theorem four_nat (X : Nat) : X &&& 4 = 4 * (X / 4 % 2) := by
  rw [show (4 : Nat) * (X / 4 % 2) = (X / 4 % 2) * 2 ^ 2 by omega, ← Nat.shiftLeft_eq]
  apply Nat.eq_of_testBit_eq
  intro i
  rw [Nat.testBit_and, Nat.testBit_shiftLeft]
  by_cases h : i = 2
  · subst h
    have : Nat.testBit 4 2 = true := by decide
    rw [this, Bool.and_true, show X.testBit 2 = decide (X / 4 % 2 = 1) by rw [Nat.testBit_eq_decide_div_mod_eq]]
    rcases (show X / 4 % 2 = 0 ∨ X / 4 % 2 = 1 by omega) with h | h <;> simp [h]
  · have h4 : Nat.testBit 4 i = false := by
      rw [show (4 : Nat) = 2 ^ 2 by decide, Nat.testBit_two_pow]
      simp; omega
    rw [h4, Bool.and_false]
    rcases (show X / 4 % 2 = 0 ∨ X / 4 % 2 = 1 by omega) with h' | h'
    · simp [h']
    · rw [h']
      by_cases h2 : 2 ≤ i
      · have : Nat.testBit 1 (i - 2) = false := by rw [show (1 : Nat) = 2 ^ 0 by decide, Nat.testBit_two_pow]; simp; omega
        simp [this]
      · simp [h2]
theorem and_four (x : Int) (h0 : 0 ≤ x) (h1 : x < 18446744073709551616) : bits .and .u64 x 4 = 4 * (x / 4 % 2) := by
  obtain ⟨X, rfl⟩ := Int.eq_ofNat_of_zero_le h0
  rw [show (4 : Int) = ((4 : Nat) : Int) from rfl, u64_and_nat X 4 (by omega) (by omega)]
  have := four_nat X
  omega
/-- What bits of a number become: count lowest ones of x, from the bit low on. -/
def putV (old x low count : Int) : Int := if count = 64 then x else if count = 1 then old / 2 * 2 + x % 2 else if low = 0 then old / 4294967296 * 4294967296 + x % 4294967296 else x % 4294967296 * 4294967296 + old % 4294967296
/-- The parts that there are. -/
def Kinds (low count : Int) : Prop := (low = 0 ∧ count = 1) ∨ (low = 0 ∧ count = 32) ∨ (low = 32 ∧ count = 32) ∨ (low = 0 ∧ count = 64)
theorem put_nat (old x : Nat) (_ho : old < 2 ^ 64) (_hx : x < 2 ^ 64) (l n : Nat) (_hl : l + n ≤ 64) :
    old &&& (18446744073709551615 - (2 ^ n - 1) * 2 ^ l) ||| (x * 2 ^ l % 18446744073709551616 &&& (2 ^ n - 1) * 2 ^ l) = old / 2 ^ (l + n) * 2 ^ (l + n) + x % 2 ^ n * 2 ^ l + old % 2 ^ l := by
  have hr : old / 2 ^ (l + n) * 2 ^ (l + n) + x % 2 ^ n * 2 ^ l + old % 2 ^ l = (old / 2 ^ (l + n) * 2 ^ n + x % 2 ^ n) * 2 ^ l + old % 2 ^ l := by
    rw [Nat.add_mul, Nat.mul_assoc, ← Nat.pow_add, Nat.add_comm n l]
  rw [hr]
  apply Nat.eq_of_testBit_eq
  intro i
  have hm : ∀ j, ((2 ^ n - 1) * 2 ^ l).testBit j = (decide (l ≤ j) && decide (j - l < n)) := fun j => by
    rw [← Nat.shiftLeft_eq, Nat.testBit_shiftLeft, Nat.testBit_two_pow_sub_one]
  have hmlt : (2 ^ n - 1) * 2 ^ l < 2 ^ 64 := by
    have h1 : (2 ^ n - 1) * 2 ^ l < 2 ^ n * 2 ^ l := Nat.mul_lt_mul_of_pos_right (by have := Nat.two_pow_pos n; omega) (Nat.two_pow_pos l)
    rw [← Nat.pow_add] at h1
    exact Nat.lt_of_lt_of_le h1 (Nat.pow_le_pow_right (by decide) (by omega))
  have hc : (18446744073709551615 - (2 ^ n - 1) * 2 ^ l).testBit i = (decide (i < 64) && !((2 ^ n - 1) * 2 ^ l).testBit i) := by
    have := Nat.testBit_two_pow_sub_succ hmlt i
    rw [← this]
    congr 1
    generalize (2 ^ n - 1) * 2 ^ l = M
    omega
  have hq : (old / 2 ^ (l + n) * 2 ^ n + x % 2 ^ n).testBit (i - l) = if i - l < n then x.testBit (i - l) else old.testBit (i - l - n + (l + n)) := by
    rw [Nat.mul_comm, Nat.testBit_two_pow_mul_add _ (Nat.mod_lt _ (Nat.two_pow_pos n))]
    by_cases h : i - l < n
    · rw [if_pos h, if_pos h, Nat.testBit_mod_two_pow]; simp [h]
    · rw [if_neg h, if_neg h, Nat.testBit_div_two_pow]
  rw [Nat.testBit_or, Nat.testBit_and, Nat.testBit_and, hc, hm, Nat.mul_comm (old / 2 ^ (l + n) * 2 ^ n + x % 2 ^ n) (2 ^ l), Nat.testBit_two_pow_mul_add _ (Nat.mod_lt _ (Nat.two_pow_pos l)), hq]
  have hx' : (x * 2 ^ l % 18446744073709551616).testBit i = (decide (i < 64) && (decide (l ≤ i) && x.testBit (i - l))) := by
    rw [show (18446744073709551616 : Nat) = 2 ^ 64 by decide, Nat.testBit_mod_two_pow, ← Nat.shiftLeft_eq, Nat.testBit_shiftLeft]
  rw [hx']
  by_cases h1 : i < l
  · rw [if_pos h1, Nat.testBit_mod_two_pow]
    simp [h1, show i < 64 by omega, show ¬ l ≤ i by omega]
  · rw [if_neg h1]
    by_cases h2 : i - l < n
    · rw [if_pos h2]
      simp [h2, show l ≤ i by omega, show i < 64 by omega]
    · rw [if_neg h2, show i - l - n + (l + n) = i by omega]
      by_cases h3 : i < 64
      · simp [h2, h3]
      · have : old.testBit i = false := Nat.testBit_lt_two_pow (Nat.lt_of_lt_of_le _ho (Nat.pow_le_pow_right (by decide) (by omega)))
        simp [h3, this]
theorem put_val (old x low count m : Int) (ho0 : 0 ≤ old) (ho1 : old < 18446744073709551616) (hx0 : 0 ≤ x) (hx1 : x < 18446744073709551616) (hk : Kinds low count) (hm : m = IntKind.u64.wrap ((2 ^ count.toNat - 1) * 2 ^ low.toNat)) :
    bits .or .u64 (bits .andNot .u64 old m) (bits .and .u64 (IntKind.u64.wrap (x * 2 ^ low.toNat)) m) = putV old x low count := by
  obtain ⟨O, rfl⟩ := Int.eq_ofNat_of_zero_le ho0
  obtain ⟨X, rfl⟩ := Int.eq_ofNat_of_zero_le hx0
  have hO : O < 18446744073709551616 := by omega
  have hX : X < 18446744073709551616 := by omega
  have key : ∀ l n : Nat, low = (l : Int) → count = (n : Int) → l + n ≤ 64 → 1 ≤ n → bits .or .u64 (bits .andNot .u64 (O : Int) m) (bits .and .u64 (IntKind.u64.wrap ((X : Int) * 2 ^ low.toNat)) m) = ((O / 2 ^ (l + n) * 2 ^ (l + n) + X % 2 ^ n * 2 ^ l + O % 2 ^ l : Nat) : Int) := by
    intro l n e1 e2 h1 h2
    have hmlt : (2 ^ n - 1) * 2 ^ l < 2 ^ 64 := by
      have h1' : (2 ^ n - 1) * 2 ^ l < 2 ^ n * 2 ^ l := Nat.mul_lt_mul_of_pos_right (by have := Nat.two_pow_pos n; omega) (Nat.two_pow_pos l)
      rw [← Nat.pow_add] at h1'
      exact Nat.lt_of_lt_of_le h1' (Nat.pow_le_pow_right (by decide) (by omega))
    have hmlt' : (2 ^ n - 1) * 2 ^ l < 18446744073709551616 := hmlt
    have em : m = (((2 ^ n - 1) * 2 ^ l : Nat) : Int) := by
      rw [hm, e1, e2, Int.toNat_natCast, Int.toNat_natCast]
      have hp : (((2 ^ n - 1 : Nat)) : Int) = 2 ^ n - 1 := by have := cast_pow n; have := Nat.two_pow_pos n; omega
      have : (((2 ^ n - 1) * 2 ^ l : Nat) : Int) = (2 ^ n - 1) * 2 ^ l := by rw [Int.natCast_mul, hp, cast_pow]
      rw [← this, wrap_u64]
      omega
    have ex : IntKind.u64.wrap ((X : Int) * 2 ^ low.toNat) = ((X * 2 ^ l % 18446744073709551616 : Nat) : Int) := by
      rw [wrap_u64, e1, Int.toNat_natCast]
      have : ((X * 2 ^ l : Nat) : Int) = (X : Int) * 2 ^ l := by rw [Int.natCast_mul, cast_pow]
      rw [← this]
      omega
    rw [em, ex, u64_andNot_nat O _ hO hmlt', u64_and_nat _ _ (Nat.mod_lt _ (by decide)) hmlt', u64_or_nat _ _ (Nat.lt_of_le_of_lt Nat.and_le_left hO) (Nat.lt_of_le_of_lt Nat.and_le_right hmlt'), put_nat O X hO hX l n h1]
  rcases hk with ⟨rfl, rfl⟩ | ⟨rfl, rfl⟩ | ⟨rfl, rfl⟩ | ⟨rfl, rfl⟩
  · rw [key 0 1 rfl rfl (by decide) (by decide)]; unfold putV; simp <;> omega
  · rw [key 0 32 rfl rfl (by decide) (by decide)]; unfold putV; simp <;> omega
  · rw [key 32 32 rfl rfl (by decide) (by decide)]; unfold putV; simp <;> omega
  · rw [key 0 64 rfl rfl (by decide) (by decide)]; unfold putV; simp <;> omega
theorem putV_lt (old x low count : Int) (ho0 : 0 ≤ old) (ho1 : old < 18446744073709551616) (hx0 : 0 ≤ x) (hx1 : x < 18446744073709551616) : 0 ≤ putV old x low count ∧ putV old x low count < 18446744073709551616 := by
  unfold putV
  repeat (first | split | omega)
end Go.Proofs.YtgcfmijkggpemaaGreat
