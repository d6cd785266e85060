/-
  Numbers and their bytes, either way round: what is put is got, what is got is put. For every later stage that writes and reads numbers. No program is looked at here.
-/
import Derived.Test.YtnafdgpkofffaaaDoorPutB
set_option maxRecDepth 4000
set_option linter.unusedVariables false
set_option linter.unusedSimpArgs false
namespace Go.Proofs.YtnafdgpkofffaaaDoor
open Go.RowKit

/-- The rank of a place. -/
def plN (i n : Nat) (big : Bool) : Nat := (placeV i n big).toNat
theorem placeV_lt {i n : Nat} (big : Bool) (h : i < n) : plN i n big < n := by unfold plN placeV; cases big <;> simp <;> omega
theorem placeV_twice {i n : Nat} (big : Bool) (h : i < n) : plN (plN i n big) n big = i := by
  cases big
  · simp [plN, placeV]
  · simp [plN, placeV]; omega
theorem putG_get (x : Int) (n : Nat) (big : Bool) (j : Nat) (hj : j < n) : (putL x n big)[j]? = some (byteV x (plN j n big)) := by simp [putL, hj, plN]
theorem byteG_getTo (ys : List Int) (h : AreBytes ys) (n : Nat) (big : Bool) (m i : Nat) (hi : i < m) : byteV (getTo ys n big m) i = ys.getD (plN i n big) 0 := by
  induction m with
  | zero => omega
  | succ m ih =>
    have hg := getTo_lt h n big m
    have hb := h.getD (plN m n big)
    have hp := pow_pos' (8 * m)
    have e : getTo ys n big (m + 1) = getTo ys n big m + ys.getD (plN m n big) 0 * 2 ^ (8 * m) := by simp [getTo, plN]
    rw [e]
    unfold byteV at *
    by_cases he : i = m
    · subst he
      rw [Int.add_mul_ediv_right _ _ (Int.ne_of_gt hp), Int.ediv_eq_zero_of_lt hg.1 hg.2, Int.zero_add]
      exact Int.emod_eq_of_lt hb.1 hb.2
    · rw [← ih (by omega)]
      have hq := pow_pos' (8 * i)
      have e2 : (2 : Int) ^ (8 * m) = 2 ^ (8 * (m - i - 1)) * 256 * 2 ^ (8 * i) := by
        rw [show (256 : Int) = 2 ^ 8 by decide, ← Int.pow_add, ← Int.pow_add]; congr 1; omega
      rw [e2, ← Int.mul_assoc, Int.add_mul_ediv_right _ _ (Int.ne_of_gt hq), ← Int.mul_assoc, Int.add_mul_emod_self_right]
/-- What is got is put as it was. -/
theorem putG_getV {ys : List Int} (h : AreBytes ys) (h8 : ys.length ≤ 8) (big : Bool) : putL (getV ys big) ys.length big = ys := by
  apply List.ext_getElem?
  intro i
  by_cases hi : i < ys.length
  · rw [putG_get _ _ _ _ hi]
    unfold getV
    rw [Nat.min_eq_left h8, byteG_getTo ys h _ _ _ _ (placeV_lt big hi), placeV_twice big hi, List.getD_eq_getElem?_getD, List.getElem?_eq_getElem hi]; rfl
  · rw [List.getElem?_eq_none (by rw [putB_len]; omega), List.getElem?_eq_none (by omega)]
theorem emodG_byte (x : Int) (k : Nat) : x % 2 ^ (8 * (k + 1)) = x % 2 ^ (8 * k) + byteV x k * 2 ^ (8 * k) := by
  rw [pow8_succ]
  unfold byteV
  have hp := pow_pos' (8 * k)
  generalize (2 : Int) ^ (8 * k) = m at *
  have h1 := Int.mul_ediv_add_emod x m
  have h2 := Int.mul_ediv_add_emod (x / m) 256
  have h3 := Int.emod_nonneg x (Int.ne_of_gt hp)
  have h4 := Int.emod_lt_of_pos x hp
  generalize x % m = r at *
  generalize x / m = q at *
  have hq : m * q = m * 256 * (q / 256) + q % 256 * m := by
    conv => lhs; rw [← h2]
    rw [Int.mul_add, Int.mul_assoc, Int.mul_comm (q % 256) m]
  have e : x = (r + q % 256 * m) + m * 256 * (q / 256) := by omega
  rw [e, Int.add_mul_emod_self_left]
  have h5 : 0 ≤ q % 256 * m := Int.mul_nonneg (by omega) (Int.le_of_lt hp)
  have h6 : (q % 256 + 1) * m ≤ 256 * m := Int.mul_le_mul_of_nonneg_right (by omega) (Int.le_of_lt hp)
  rw [Int.add_mul] at h6
  exact Int.emod_eq_of_lt (by omega) (by rw [Int.mul_comm m 256]; omega)
theorem getTo_putG (x : Int) (n : Nat) (big : Bool) (k : Nat) (hk : k ≤ n) : getTo (putL x n big) n big k = x % 2 ^ (8 * k) := by
  induction k with
  | zero => simp [getTo, Int.emod_one]
  | succ k ih =>
    have e : getTo (putL x n big) n big (k + 1) = getTo (putL x n big) n big k + (putL x n big).getD (plN k n big) 0 * 2 ^ (8 * k) := by simp [getTo, plN]
    rw [e, ih (by omega), List.getD_eq_getElem?_getD, putG_get x n big _ (placeV_lt big (by omega)), placeV_twice big (by omega), emodG_byte]
    rfl
/-- What is put is got as it was, as far as it has room. -/
theorem getV_putG (x : Int) (n : Nat) (hn : n ≤ 8) (big : Bool) : getV (putL x n big) big = x % 2 ^ (8 * n) := by
  unfold getV
  rw [putB_len, Nat.min_eq_left hn]
  exact getTo_putG x n big n (Nat.le_refl _)
theorem getV_putG_eq {x : Int} {n : Nat} (hn : n ≤ 8) (big : Bool) (h0 : 0 ≤ x) (h1 : x < 2 ^ (8 * n)) : getV (putL x n big) big = x := by
  rw [getV_putG x n hn big]; exact Int.emod_eq_of_lt h0 h1
theorem getG_lt {ys : List Int} (h : AreBytes ys) (big : Bool) {n : Nat} (hn : ys.length = n) (h8 : n ≤ 8) : 0 ≤ getV ys big ∧ getV ys big < 2 ^ (8 * n) := by
  unfold getV
  rw [hn, Nat.min_eq_left h8]
  exact getTo_lt h _ _ _
theorem putG_inj {x y : Int} {n : Nat} (hn : n ≤ 8) (big : Bool) (hx : 0 ≤ x ∧ x < 2 ^ (8 * n)) (hy : 0 ≤ y ∧ y < 2 ^ (8 * n)) (h : putL x n big = putL y n big) : x = y := by
  rw [← getV_putG_eq hn big hx.1 hx.2, h, getV_putG_eq hn big hy.1 hy.2]

/-! ### Cuts of what stands behind one another -/
theorem cutL_left (xs ys : List Int) (lo hi : Nat) (h : hi ≤ xs.length) : cutL (xs ++ ys) lo hi = cutL xs lo hi := by
  unfold cutL
  rcases Nat.le_total lo hi with h1 | h1
  · rw [List.drop_append_of_le_length (by omega), List.take_append_of_le_length (by simp; omega)]
  · rw [show hi - lo = 0 by omega]; simp
theorem cutL_right (xs ys : List Int) (lo hi : Nat) (h : xs.length ≤ lo) : cutL (xs ++ ys) lo hi = cutL ys (lo - xs.length) (hi - xs.length) := by
  unfold cutL
  rw [List.drop_append, List.drop_eq_nil_of_le h, List.nil_append, show hi - xs.length - (lo - xs.length) = hi - lo by omega]
theorem cutL_whole {xs : List Int} {n : Nat} (h : xs.length = n) : cutL xs 0 n = xs := by subst h; exact cutL_all xs
theorem cutL_take {xs : List Int} {n lo hi : Nat} (h : hi ≤ n) : cutL (xs.take n) lo hi = cutL xs lo hi := by
  unfold cutL
  rw [List.drop_take, List.take_take, Nat.min_eq_left (by omega)]
theorem cutL_join (xs : List Int) {lo mid hi : Nat} (h1 : lo ≤ mid) (h2 : mid ≤ hi) : cutL xs lo mid ++ cutL xs mid hi = cutL xs lo hi := by
  unfold cutL
  rw [show hi - lo = (mid - lo) + (hi - mid) by omega, List.take_add, List.drop_drop, show lo + (mid - lo) = mid by omega]
theorem cutL_zero (xs : List Int) (n : Nat) : cutL xs 0 n = xs.take n := by simp [cutL]
theorem cutL_rest (xs : List Int) (n : Nat) : cutL xs n xs.length = xs.drop n := by
  unfold cutL
  exact List.take_of_length_le (by simp)
end Go.Proofs.YtnafdgpkofffaaaDoor
