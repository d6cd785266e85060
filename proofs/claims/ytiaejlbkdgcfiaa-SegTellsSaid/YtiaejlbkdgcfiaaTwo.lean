/-
  What two bytes in a text's even place do to what it adds up to; a byte turned.
-/
import Derived.Test.YtiaejlbkdgcfiaaSmC
import Derived.Test.YtiaejlbkdgcfiaaPutG
set_option maxRecDepth 4000
set_option linter.unusedVariables false
set_option linter.unusedSimpArgs false
namespace Go.Proofs.Ytiaejlbkdgcfiaa
open Go.RowKit

/-! ### What two bytes in a text's even place do to what it adds up to -/
theorem sumV_two {xs : List Int} {m : Nat} (x y : Int) (h : 2 * m + 2 ≤ xs.length) : pairsV (putTwo xs (2 * m) x y) = pairsV (putTwo xs (2 * m) 0 0) + (x * 256 + y) := by
  unfold pairsV
  rw [putTwo_len _ _ h, putTwo_len _ _ h, putTwo_pairsTo x y h, if_pos (by omega)]
theorem putTwo_same {xs : List Int} {k : Nat} (h : k + 2 ≤ xs.length) : putTwo xs k (xs.getD k 0) (xs.getD (k + 1) 0) = xs := by
  apply List.ext_getElem?
  intro i
  by_cases hi : i < xs.length
  · have l1 : i < (putTwo xs k (xs.getD k 0) (xs.getD (k + 1) 0)).length := by rw [putTwo_len _ _ h]; exact hi
    have e := putTwo_get (xs.getD k 0) (xs.getD (k + 1) 0) h i
    rw [List.getD_eq_getElem?_getD, List.getD_eq_getElem?_getD (l := xs) (i := i), List.getElem?_eq_getElem l1, List.getElem?_eq_getElem hi] at e
    rw [List.getElem?_eq_getElem l1, List.getElem?_eq_getElem hi]
    simp only [Option.getD_some] at e
    rw [e]
    by_cases e1 : i = k
    · subst e1; rw [if_pos rfl, List.getD_eq_getElem?_getD, List.getElem?_eq_getElem hi]; rfl
    · by_cases e2 : i = k + 1
      · subst e2; rw [if_neg e1, if_pos rfl, List.getD_eq_getElem?_getD, List.getElem?_eq_getElem hi]; rfl
      · rw [if_neg e1, if_neg e2]
  · rw [List.getElem?_eq_none (by rw [putTwo_len _ _ h]; omega), List.getElem?_eq_none (by omega)]
theorem putTwo_right {a b : List Int} {k : Nat} (x y : Int) : putTwo (a ++ b) (a.length + k) x y = a ++ putTwo b k x y := by
  unfold putTwo lay
  simp only [List.length_cons, List.length_nil, List.append_assoc, List.take_append, List.drop_append]
  rw [List.take_of_length_le (by omega), List.drop_eq_nil_of_le (by omega), show a.length + k - a.length = k by omega, show a.length + k + 2 - a.length = k + 2 by omega, List.nil_append]
/-- One byte of another value: what the text adds up to differs by that, once or 256 times. -/
theorem pairsV_set (xs : List Int) (i : Nat) (v : Int) (h : i < xs.length) : pairsV (xs.set i v) = pairsV xs + (if i % 2 = 0 then 256 * (v - xs.getD i 0) else v - xs.getD i 0) := by
  have hs : ∀ j, (xs.set i v).getD j 0 = if j = i then v else xs.getD j 0 := fun j => by
    rw [List.getD_eq_getElem?_getD, List.getElem?_set]
    by_cases e : i = j
    · subst e; rw [if_pos rfl, if_pos rfl, if_pos h]; rfl
    · rw [if_neg e, if_neg (Ne.symm e), List.getD_eq_getElem?_getD]
  have hp : ∀ k, pairsTo (xs.set i v) k = pairsTo xs k + (if i / 2 < k then (if i % 2 = 0 then 256 * (v - xs.getD i 0) else v - xs.getD i 0) else 0) := fun k => by
    induction k with
    | zero => simp [pairsTo]
    | succ k ih =>
      simp only [pairsTo]
      rw [ih]
      unfold pairV
      rw [hs, hs]
      by_cases e1 : 2 * k = i
      · subst e1
        (repeat' split) <;> omega
      · by_cases e2 : 2 * k + 1 = i
        · subst e2
          (repeat' split) <;> omega
        · (repeat' split) <;> omega
  unfold pairsV
  rw [List.length_set, hp, if_pos (by omega)]
/-- A text that adds up right doesn't any more when one byte is another one (but for nought and 255, which no single bit turns into another). -/
theorem sumV_turned {xs : List Int} {i : Nat} {v : Int} (ok : AreBytes (xs.set i v)) (h : i < xs.length) (h0 : v - xs.getD i 0 ≠ 0) (h1 : v - xs.getD i 0 < 255) (h2 : -255 < v - xs.getD i 0) (hs : sumV xs = 0) : sumV (xs.set i v) ≠ 0 := by
  have hp := pairsV_set xs i v h
  have hn := (pairsTo_lt ok (((xs.set i v).length + 1) / 2)).1
  change 0 ≤ pairsV (xs.set i v) at hn
  unfold sumV at hs ⊢
  rw [hp] at hn ⊢
  generalize pairsV xs = P at *
  generalize v - xs.getD i 0 = d at *
  unfold foldV at hs ⊢
  by_cases e : i % 2 = 0
  · rw [if_pos e] at hn ⊢
    split at hs <;> split <;> omega
  · rw [if_neg e] at hn ⊢
    split at hs <;> split <;> omega

theorem AreBytes.setAt {xs : List Int} (h : AreBytes xs) (k : Nat) {y : Int} (hy : 0 ≤ y ∧ y < 256) : AreBytes (xs.set k y) := fun z hz => by
  rcases List.mem_or_eq_of_mem_set hz with h1 | h1
  · exact h z h1
  · subst h1; exact hy

theorem cut_mid (a b c : List Int) (lo hi : Nat) (h1 : lo = a.length) (h2 : hi = a.length + b.length) : cutL (a ++ (b ++ c)) lo hi = b := by
  subst h1 h2
  unfold cutL
  simp
theorem get_mid (a b : List Int) (k : Nat) (h : a.length ≤ k) : (a ++ b).getD k 0 = b.getD (k - a.length) 0 := by
  rw [List.getD_eq_getElem?_getD, List.getD_eq_getElem?_getD, List.getElem?_append_right h]
/-- A text with noughts in an even place adds up to nothing once its checksum stands there. -/
theorem sum_patched {xs : List Int} (ok : AreBytes xs) {m : Nat} (h : 2 * m + 2 ≤ xs.length) (e0 : xs.getD (2 * m) 0 = 0) (e1 : xs.getD (2 * m + 1) 0 = 0) : sumV (putTwo xs (2 * m) (sumV xs / 256) (sumV xs % 256)) = 0 := by
  have hz : putTwo xs (2 * m) 0 0 = xs := by
    have := putTwo_same h
    rwa [e0, e1] at this
  have hp : isPairV xs.length (((2 * m : Nat) : Int)) = true := by unfold isPairV; exact decide_eq_true (by omega)
  have := patch_right ok ((2 * m : Nat) : Int) hp
  rw [patchV_yes (2 * m) hp, hz] at this
  exact this
end Go.Proofs.Ytiaejlbkdgcfiaa
