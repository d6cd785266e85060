/-
  Contracts of package bits, what makes and reads bytes: place, Put, Get.
-/
import Derived.Test.YtegncliegmknaaaRows
import Derived.Test.YtegncliegmknaaaMath
import Derived.WalkKit
import Derived.Outline
import Derived.StillTailTactics
import Derived.Deep.QuietTactic
import Derived.BigQuiet
import Derived.Deep.DeepCutAuto
import Derived.Deep.RegionWith
set_option linter.unusedVariables false
set_option linter.unusedSimpArgs false
namespace Go.Proofs.Ytegncliegmknaaa
open Go.RowKit

/-- Where the byte of rank i of n stands. -/
def placeV (i n : Int) (big : Bool) : Int := if big then n - 1 - i else i

/-- The byte of rank i. -/
def byteV (x : Int) (i : Nat) : Int := x / 2 ^ (8 * i) % 256
/-- What k rounds have written. -/
def putTo (x : Int) (n : Nat) (big : Bool) : Nat → List Int
  | 0 => List.replicate n 0
  | k + 1 => (putTo x n big k).set (placeV k n big).toNat (byteV x k)
theorem putTo_length (x : Int) (n : Nat) (big : Bool) (k : Nat) : (putTo x n big k).length = n := by
  induction k with
  | zero => simp [putTo]
  | succ k ih => simp [putTo, ih]
/-- Which bytes they are. -/
def putL (x : Int) (n : Nat) (big : Bool) : List Int := (List.range n).map fun i : Nat => byteV x (placeV i n big).toNat
theorem putTo_get (x : Int) (n : Nat) (big : Bool) (k : Nat) (hk : k ≤ n) (j : Nat) (hj : j < n) :
    (putTo x n big k)[j]? = some (if (placeV j n big).toNat < k then byteV x (placeV j n big).toNat else 0) := by
  induction k with
  | zero => simp [putTo, hj]
  | succ k ih =>
    have ih := ih (by omega)
    unfold putTo
    rw [List.getElem?_set, putTo_length]
    by_cases e : (placeV k n big).toNat = j
    · have e2 : (placeV j n big).toNat = k := by
        cases big <;> simp [placeV] at e ⊢ <;> omega
      rw [if_pos e, if_pos (by omega), e2, if_pos (by omega)]
    · have e2 : (placeV j n big).toNat ≠ k := by
        intro h; apply e
        cases big <;> simp [placeV] at h ⊢ <;> omega
      rw [if_neg e, ih]
      congr 1
      by_cases h : (placeV j n big).toNat < k
      · rw [if_pos h, if_pos (by omega)]
      · rw [if_neg h, if_neg (by omega)]
theorem putTo_full (x : Int) (n : Nat) (big : Bool) : putTo x n big n = putL x n big := by
  apply List.ext_getElem?
  intro j
  by_cases hj : j < n
  · rw [putTo_get x n big n (Nat.le_refl _) j hj]
    have e : (placeV j n big).toNat < n := by cases big <;> simp [placeV] <;> omega
    simp [putL, hj, e]
  · rw [List.getElem?_eq_none (by rw [putTo_length]; omega), List.getElem?_eq_none (by simp [putL]; omega)]

theorem u8_info : (Try.prog.info? 5).map (fun i => (i.zero, i.size, i.bytes)) = some (some (.int .u8 0), 1, 1) := by kernel_rfl


/-! ### Get -/
/-- The number of the bytes of rank 0 to k-1 of n. -/
def getTo (xs : List Int) (n : Nat) (big : Bool) : Nat → Int
  | 0 => 0
  | k + 1 => getTo xs n big k + xs.getD (placeV k n big).toNat 0 * 2 ^ (8 * k)
def getV (xs : List Int) (big : Bool) : Int := getTo xs (min xs.length 8) big (min xs.length 8)
theorem pow8_succ (k : Nat) : (2 : Int) ^ (8 * (k + 1)) = 2 ^ (8 * k) * 256 := by
  rw [show 8 * (k + 1) = 8 * k + 8 by omega, Int.pow_add]; rfl
theorem getTo_lt {xs : List Int} (h : AreBytes xs) (n : Nat) (big : Bool) (k : Nat) : 0 ≤ getTo xs n big k ∧ getTo xs n big k < 2 ^ (8 * k) := by
  induction k with
  | zero => simp [getTo]
  | succ k ih =>
    have hb := h.getD (placeV k n big).toNat
    have hp := pow_pos' (8 * k)
    rw [pow8_succ]
    unfold getTo
    generalize xs.getD (placeV k n big).toNat 0 = c at *
    have h1 : 0 ≤ c * 2 ^ (8 * k) := Int.mul_nonneg hb.1 (Int.le_of_lt hp)
    have h2 : (c + 1) * 2 ^ (8 * k) ≤ 256 * 2 ^ (8 * k) := Int.mul_le_mul_of_nonneg_right (by omega) (Int.le_of_lt hp)
    rw [Int.add_mul] at h2
    rw [Int.mul_comm (2 ^ (8 * k)) 256]
    omega
theorem getV_lt {xs : List Int} (h : AreBytes xs) (big : Bool) : 0 ≤ getV xs big ∧ getV xs big < 18446744073709551616 := by
  have h1 := getTo_lt h (min xs.length 8) big (min xs.length 8)
  have h2 := (pow_le_64 (m := 8 * min xs.length 8) (by omega)).2
  unfold getV
  omega
theorem get_step {xs : List Int} (h : AreBytes xs) (n k : Nat) (big : Bool) (hk : k < 8) :
    bits .or .u64 (getTo xs n big k) (xs.getD (placeV k n big).toNat 0 * 2 ^ (8 * k)) = getTo xs n big (k + 1) ∧
      IntKind.u64.wrap (xs.getD (placeV k n big).toNat 0 * 2 ^ (8 * k)) = xs.getD (placeV k n big).toNat 0 * 2 ^ (8 * k) := by
  have h1 := getTo_lt h n big k
  have h2 := getTo_lt h n big (k + 1)
  have h3 := (pow_le_64 (m := 8 * (k + 1)) (by omega)).2
  have hb := h.getD (placeV k n big).toNat
  have h0 : 0 ≤ xs.getD (placeV k n big).toNat 0 * 2 ^ (8 * k) := Int.mul_nonneg hb.1 (Int.le_of_lt (pow_pos' _))
  have e : getTo xs n big (k + 1) = getTo xs n big k + xs.getD (placeV k n big).toNat 0 * 2 ^ (8 * k) := rfl
  rw [e] at h2 ⊢
  exact ⟨or_add _ _ _ h1.1 h1.2 hb.1 (by omega), IntWalk.u64_in _ (by omega)⟩

end Go.Proofs.Ytegncliegmknaaa
