/-
  Plain facts of memory: what is read of what was written, and elsewhere. No program is looked at here.
-/
import Derived.Test.YtoehdhhodidehaaRamC
set_option maxRecDepth 4000
set_option linter.unusedVariables false
set_option linter.unusedSimpArgs false
namespace Go.Proofs.Ytoehdhhodidehaa
open Go.RowKit

/-! ### A number is its bytes -/
theorem byte_getTo (ys : List Int) (h : AreBytes ys) (n m i : Nat) (hi : i < m) : byteV (getTo ys n false m) i = ys.getD i 0 := by
  induction m with
  | zero => omega
  | succ m ih =>
    have hg := getTo_lt h n false m
    have hb := h.getD m
    have hp := pow_pos' (8 * m)
    have e : getTo ys n false (m + 1) = getTo ys n false m + ys.getD m 0 * 2 ^ (8 * m) := by simp [getTo, placeV]
    rw [e]
    unfold byteV at *
    by_cases he : i = m
    · subst he
      rw [Int.add_mul_ediv_right _ _ (Int.ne_of_gt hp), Int.ediv_eq_zero_of_lt hg.1 hg.2, Int.zero_add]
      exact Int.emod_eq_of_lt hb.1 hb.2
    · rw [← ih (by omega)]
      have hq := pow_pos' (8 * i)
      have e2 : (2 : Int) ^ (8 * m) = 2 ^ (8 * (m - i - 1)) * 256 * 2 ^ (8 * i) := by
        rw [show (256 : Int) = 2 ^ 8 by decide, ← Int.pow_add, ← Int.pow_add]; congr 1; omega
      rw [e2, ← Int.mul_assoc, Int.add_mul_ediv_right _ _ (Int.ne_of_gt hq), ← Int.mul_assoc, Int.add_mul_emod_self_right]
theorem putL_getV {ys : List Int} (h : AreBytes ys) (h8 : ys.length ≤ 8) : putL (getV ys false) ys.length false = ys := by
  apply List.ext_getElem?
  intro i
  by_cases hi : i < ys.length
  · rw [show (putL (getV ys false) ys.length false)[i]? = some (byteV (getV ys false) i) by simp [putL, placeV, hi]]
    unfold getV
    rw [Nat.min_eq_left h8, byte_getTo ys h _ _ i hi, List.getD_eq_getElem?_getD, List.getElem?_eq_getElem hi]; rfl
  · rw [List.getElem?_eq_none (by rw [putL_length]; omega), List.getElem?_eq_none (by omega)]
theorem emod_byte (x : Int) (k : Nat) : x % 2 ^ (8 * (k + 1)) = x % 2 ^ (8 * k) + byteV x k * 2 ^ (8 * k) := by
  rw [pow8_succ]
  unfold byteV
  have hp := pow_pos' (8 * k)
  generalize (2 : Int) ^ (8 * k) = m at *
  have h1 := Int.mul_ediv_add_emod x m
  have h2 := Int.mul_ediv_add_emod (x / m) 256
  have h3 := Int.emod_nonneg x (Int.ne_of_gt hp)
  have h4 := Int.emod_lt_of_pos x hp
  generalize x % m = r at *
  generalize x / m = q at *
  have hq : m * q = m * 256 * (q / 256) + q % 256 * m := by
    conv => lhs; rw [← h2]
    rw [Int.mul_add, Int.mul_assoc, Int.mul_comm (q % 256) m]
  have e : x = (r + q % 256 * m) + m * 256 * (q / 256) := by omega
  rw [e, Int.add_mul_emod_self_left]
  have h5 : 0 ≤ q % 256 * m := Int.mul_nonneg (by omega) (Int.le_of_lt hp)
  have h6 : (q % 256 + 1) * m ≤ 256 * m := Int.mul_le_mul_of_nonneg_right (by omega) (Int.le_of_lt hp)
  rw [Int.add_mul] at h6
  exact Int.emod_eq_of_lt (by omega) (by rw [Int.mul_comm m 256]; omega)
theorem putL_getElem (x : Int) (n j : Nat) (hj : j < n) : (putL x n false)[j]? = some (byteV x j) := by simp [putL, placeV, hj]
theorem getTo_putL (x : Int) (n k : Nat) (hk : k ≤ n) : getTo (putL x n false) n false k = x % 2 ^ (8 * k) := by
  induction k with
  | zero => simp [getTo, Int.emod_one]
  | succ k ih =>
    have e : getTo (putL x n false) n false (k + 1) = getTo (putL x n false) n false k + (putL x n false).getD k 0 * 2 ^ (8 * k) := by simp [getTo, placeV]
    rw [e, ih (by omega), List.getD_eq_getElem?_getD, putL_getElem x n k (by omega), emod_byte]
    rfl
theorem getV_putL (x : Int) (n : Nat) (hn : n ≤ 8) : getV (putL x n false) false = x % 2 ^ (8 * n) := by
  unfold getV
  rw [putL_length, Nat.min_eq_left hn]
  exact getTo_putL x n n (Nat.le_refl _)

/-! ### What is laid is there, and elsewhere all is as it was -/
theorem lay_self {xs : List Int} {lo hi : Nat} (h1 : lo ≤ hi) (h2 : hi ≤ xs.length) : lay xs lo (cutL xs lo hi) = xs := by
  have hl := cutL_length h1 h2
  apply List.ext_getElem?
  intro i
  rw [lay_get _ _ _ _ (by omega), hl]
  split
  · rfl
  · split
    · simp only [cutL]
      rw [List.getElem?_take_of_lt (by omega), List.getElem?_drop]
      congr 1; omega
    · rfl
theorem cut_lay_same {xs ys : List Int} {lo : Nat} (h : lo + ys.length ≤ xs.length) : cutL (lay xs lo ys) lo (lo + ys.length) = ys := by
  have hl := lay_length h
  apply List.ext_getElem?
  intro i
  simp only [cutL, show lo + ys.length - lo = ys.length by omega]
  by_cases hi : i < ys.length
  · rw [List.getElem?_take_of_lt hi, List.getElem?_drop, lay_get _ _ _ _ h, if_neg (by omega), if_pos (by omega)]
    congr 1; omega
  · rw [List.getElem?_eq_none (by simp; omega), List.getElem?_eq_none (by omega)]
theorem cut_lay_else {xs ys : List Int} {lo o m : Nat} (h : lo + ys.length ≤ xs.length) (hd : o + m ≤ lo ∨ lo + ys.length ≤ o) : cutL (lay xs lo ys) o (o + m) = cutL xs o (o + m) := by
  apply List.ext_getElem?
  intro i
  simp only [cutL, show o + m - o = m by omega]
  by_cases hi : i < m
  · rw [List.getElem?_take_of_lt hi, List.getElem?_take_of_lt hi, List.getElem?_drop, List.getElem?_drop, lay_get _ _ _ _ h]
    split
    · rfl
    · rw [if_neg (by omega)]
  · rw [List.getElem?_eq_none (by simp; omega), List.getElem?_eq_none (by simp; omega)]

/-! ### Numbers of eight bytes -/
theorem write8 {xs : List Int} {lo : Nat} (h : lo + 8 ≤ xs.length) (v : Int) : writeV xs (2147483648 + (lo : Int)) 8 v = lay xs lo (putL v 8 false) := by
  have hi : insideV xs.length (2147483648 + (lo : Int)) ((putL v 8 false).length : Nat) = true := by rw [putL_length, insideV_at]; exact decide_eq_true h
  unfold writeV fillV
  rw [show sizeV 8 = true from rfl, show (8 : Int).toNat = 8 from rfl, hi, show (2147483648 + (lo : Int) - 2147483648).toNat = lo by omega]
  rfl
theorem read8 {xs : List Int} {lo : Nat} (h : lo + 8 ≤ xs.length) : readV xs (2147483648 + (lo : Int)) 8 = getV (cutL xs lo (lo + 8)) false := by
  have := bytesV_in (xs := xs) (lo := lo) (k := 8) h
  unfold readV
  rw [show sizeV 8 = true from rfl, show (8 : Int) = ((8 : Nat) : Int) from rfl, this]
  rfl
theorem inside8 {m : Nat} {x : Int} (h : insideV m x 8 = true) : ∃ lo : Nat, x = 2147483648 + (lo : Int) ∧ lo + 8 ≤ m := by
  obtain ⟨lo, k, rfl, hk, hlo⟩ := insideV_no h
  exact ⟨lo, rfl, by omega⟩
theorem read_write8 {xs : List Int} {x v : Int} (h : insideV xs.length x 8 = true) (h0 : 0 ≤ v) (h1 : v < 18446744073709551616) : readV (writeV xs x 8 v) x 8 = v := by
  obtain ⟨lo, rfl, hlo⟩ := inside8 h
  have hl := lay_length (xs := xs) (ys := putL v 8 false) (off := lo) (by rw [putL_length]; exact hlo)
  rw [write8 hlo, read8 (by omega)]
  have hc := cut_lay_same (xs := xs) (ys := putL v 8 false) (lo := lo) (by rw [putL_length]; exact hlo)
  rw [putL_length] at hc
  rw [hc, getV_putL v 8 (by omega)]
  exact Int.emod_eq_of_lt h0 h1
theorem read_else8 {xs : List Int} {x y v : Int} (h : insideV xs.length x 8 = true) (hx : x % 8 = 0) (hy : y % 8 = 0) (hne : y ≠ x) : readV (writeV xs x 8 v) y 8 = readV xs y 8 := by
  obtain ⟨lo, rfl, hlo⟩ := inside8 h
  have hl := lay_length (xs := xs) (ys := putL v 8 false) (off := lo) (by rw [putL_length]; exact hlo)
  rw [write8 hlo]
  cases hi : insideV xs.length y 8
  · unfold readV
    rw [bytesV_out hi, bytesV_out (by rw [hl]; exact hi)]
  · obtain ⟨o, rfl, ho⟩ := inside8 hi
    rw [read8 (by omega), read8 ho, cut_lay_else (by rw [putL_length]; exact hlo) (by rw [putL_length]; omega)]
theorem write_read8 {xs : List Int} {x : Int} (hb : AreBytes xs) (h : insideV xs.length x 8 = true) : writeV xs x 8 (readV xs x 8) = xs := by
  obtain ⟨lo, rfl, hlo⟩ := inside8 h
  have hl : (cutL xs lo (lo + 8)).length = 8 := by rw [cutL_length (by omega) hlo]; omega
  rw [write8 hlo, read8 hlo]
  have hp := putL_getV (hb.cut lo (lo + 8)) (by omega)
  rw [hl] at hp
  rw [hp]
  exact lay_self (by omega) hlo
theorem insideV_same {xs ys : List Int} (h : ys.length = xs.length) (x n : Int) : insideV ys.length x n = insideV xs.length x n := by rw [h]
end Go.Proofs.Ytoehdhhodidehaa
