/-
  Package sum: Pseudo, and the document's own; plain facts of sums; what must come at any rate.
-/
import Derived.Test.YtalbdeifkbfnbaaDoorSmB
import Derived.Test.YtalbdeifkbfnbaaDoorCat
set_option maxRecDepth 4000
set_option linter.unusedVariables false
set_option linter.unusedSimpArgs false
namespace Go.Proofs.YtalbdeifkbfnbaaDoor
open Go.RowKit

/-- What Pseudo answers. -/
def pseudoV (src dst proto n : Int) : List Int := putL src 4 true ++ putL dst 4 true ++ [0, proto % 256] ++ putL (n % 18446744073709551616) 2 true
theorem AreBytes.append {xs ys : List Int} (h1 : AreBytes xs) (h2 : AreBytes ys) : AreBytes (xs ++ ys) := fun x hx => by
  rcases List.mem_append.1 hx with hx | hx
  · exact h1 x hx
  · exact h2 x hx
theorem two_ok (x y : Int) (hx : 0 ≤ x ∧ x < 256) (hy : 0 ≤ y ∧ y < 256) : AreBytes [x, y] := fun z hz => by
  simp only [List.mem_cons, List.not_mem_nil, or_false] at hz
  rcases hz with rfl | rfl <;> assumption
theorem pseudoV_ok (src dst proto n : Int) : AreBytes (pseudoV src dst proto n) :=
  (((putB_ok _ _ _).append (putB_ok _ _ _)).append (two_ok _ _ (by omega) (by omega))).append (putB_ok _ _ _)
theorem pseudoV_len (src dst proto n : Int) : (pseudoV src dst proto n).length = 12 := by
  unfold pseudoV
  simp only [List.length_append, putB_len]
  rfl
theorem pseudo_flat (src dst proto n : Int) : [putL src 4 true, putL dst 4 true, [0, proto % 256], putL (n % 18446744073709551616) 2 true].flatten = pseudoV src dst proto n := by
  simp [pseudoV]


/-! ### Plain facts -/
theorem putTwo_get {xs : List Int} {k : Nat} (x y : Int) (h : k + 2 ≤ xs.length) (i : Nat) : (putTwo xs k x y).getD i 0 = if i = k then x else if i = k + 1 then y else xs.getD i 0 := by
  simp only [List.getD_eq_getElem?_getD]
  unfold putTwo
  rw [lay_get _ _ _ _ (by simpa using h)]
  by_cases h1 : i < k
  · rw [if_pos h1, if_neg (by omega), if_neg (by omega)]
  · rw [if_neg h1]
    by_cases h2 : i = k
    · subst h2; simp
    · by_cases h3 : i = k + 1
      · subst h3
        rw [if_pos (by simp), if_neg h2, if_pos rfl]
        simp
      · rw [if_neg (by simp; omega), if_neg h2, if_neg h3]
theorem putTwo_pair {xs : List Int} {m : Nat} (x y : Int) (h : 2 * m + 2 ≤ xs.length) (i : Nat) : pairV (putTwo xs (2 * m) x y) i = if i = m then x * 256 + y else pairV xs i := by
  unfold pairV
  rw [putTwo_get x y h, putTwo_get x y h]
  by_cases e : i = m
  · subst e
    rw [if_pos rfl, if_neg (by omega), if_pos rfl, if_pos rfl]
  · rw [if_neg (by omega), if_neg (by omega), if_neg (by omega), if_neg (by omega), if_neg e]
theorem putTwo_pairsTo {xs : List Int} {m : Nat} (x y : Int) (h : 2 * m + 2 ≤ xs.length) (j : Nat) : pairsTo (putTwo xs (2 * m) x y) j = pairsTo (putTwo xs (2 * m) 0 0) j + if m < j then x * 256 + y else 0 := by
  induction j with
  | zero => simp [pairsTo]
  | succ j ih =>
    simp only [pairsTo]
    rw [ih, putTwo_pair x y h, putTwo_pair 0 0 h]
    by_cases e : j = m
    · subst e
      rw [if_pos rfl, if_pos rfl, if_neg (by omega), if_pos (by omega)]
      omega
    · rw [if_neg e, if_neg e]
      by_cases h2 : m < j
      · rw [if_pos h2, if_pos (by omega)]; omega
      · rw [if_neg h2, if_neg (by omega)]; omega
/-- What is patched is right. -/
theorem patch_right {xs : List Int} (ok : AreBytes xs) (at' : Int) (h : isPairV xs.length at' = true) : sumV (patchV xs at') = 0 := by
  have h' := h
  unfold isPairV at h'
  have h' := of_decide_eq_true h'
  obtain ⟨m, rfl⟩ : ∃ m : Nat, at' = ((2 * m : Nat) : Int) := ⟨(at' / 2).toNat, by omega⟩
  rw [patchV_yes _ h]
  have hk : 2 * m + 2 ≤ xs.length := by omega
  have hz := pairsTo_lt (putTwo_ok ok (2 * m) (x := 0) (y := 0) (by omega) (by omega)) ((xs.length + 1) / 2)
  have e0 : sumV (putTwo xs (2 * m) 0 0) = 65535 - foldV (pairsTo (putTwo xs (2 * m) 0 0) ((xs.length + 1) / 2)) := by
    unfold sumV pairsV
    rw [putTwo_len _ _ hk]
  rw [e0]
  have e1 : ∀ s : Int, sumV (putTwo xs (2 * m) (s / 256) (s % 256)) = 65535 - foldV (pairsTo (putTwo xs (2 * m) 0 0) ((xs.length + 1) / 2) + s) := fun s => by
    unfold sumV pairsV
    rw [putTwo_len _ _ hk, putTwo_pairsTo _ _ hk, if_pos (by omega)]
    congr 2
    omega
  rw [e1]
  generalize pairsTo (putTwo xs (2 * m) 0 0) ((xs.length + 1) / 2) = T at *
  unfold foldV
  split <;> split <;> omega
/-- Two texts behind one another, the first one even, add up. -/
theorem pairV_left {a : List Int} (b : List Int) {m i : Nat} (h : a.length = 2 * m) (hi : i < m) : pairV (a ++ b) i = pairV a i := by
  unfold pairV
  simp only [List.getD_eq_getElem?_getD]
  rw [List.getElem?_append_left (by omega), List.getElem?_append_left (by omega)]
theorem pairV_right {a : List Int} (b : List Int) {m : Nat} (i : Nat) (h : a.length = 2 * m) : pairV (a ++ b) (m + i) = pairV b i := by
  unfold pairV
  simp only [List.getD_eq_getElem?_getD]
  rw [List.getElem?_append_right (by omega), List.getElem?_append_right (by omega), h, show 2 * (m + i) - 2 * m = 2 * i by omega, show 2 * (m + i) + 1 - 2 * m = 2 * i + 1 by omega]
theorem pairsTo_left {a : List Int} (b : List Int) {m : Nat} (h : a.length = 2 * m) : ∀ j, j ≤ m → pairsTo (a ++ b) j = pairsTo a j
  | 0, _ => rfl
  | j + 1, hj => by
    simp only [pairsTo]
    rw [pairsTo_left b h j (by omega), pairV_left b h (by omega)]
theorem pairsTo_right {a : List Int} (b : List Int) {m : Nat} (h : a.length = 2 * m) : ∀ j, pairsTo (a ++ b) (m + j) = pairsTo a m + pairsTo b j
  | 0 => by simp [pairsTo, pairsTo_left b h m (Nat.le_refl m)]
  | j + 1 => by
    rw [← Nat.add_assoc]
    simp only [pairsTo]
    rw [pairsTo_right b h j, pairV_right b j h]
    omega
theorem pairsV_append {a b : List Int} (h : a.length % 2 = 0) : pairsV (a ++ b) = pairsV a + pairsV b := by
  obtain ⟨m, hm⟩ : ∃ m, a.length = 2 * m := ⟨a.length / 2, by omega⟩
  unfold pairsV
  rw [List.length_append, hm, show (2 * m + b.length + 1) / 2 = m + (b.length + 1) / 2 by omega, pairsTo_right b hm, show (2 * m + 1) / 2 = m by omega]
theorem sumV_append {a b : List Int} (ha : AreBytes a) (hb : AreBytes b) (h : a.length % 2 = 0) : sumV (a ++ b) = 65535 - (if 65535 < (65535 - sumV a) + (65535 - sumV b) then (65535 - sumV a) + (65535 - sumV b) - 65535 else (65535 - sumV a) + (65535 - sumV b)) := by
  have h1 := (pairsTo_lt ha ((a.length + 1) / 2)).1
  have h2 := (pairsTo_lt hb ((b.length + 1) / 2)).1
  unfold sumV
  rw [pairsV_append h]
  unfold pairsV
  generalize pairsTo a ((a.length + 1) / 2) = x at *
  generalize pairsTo b ((b.length + 1) / 2) = y at *
  unfold foldV
  split <;> split <;> split <;> split <;> omega
theorem sumV_swap {a b : List Int} (h1 : a.length % 2 = 0) (h2 : b.length % 2 = 0) : sumV (a ++ b) = sumV (b ++ a) := by
  unfold sumV
  rw [pairsV_append h1, pairsV_append h2, Int.add_comm]

/-! ### What must come at any rate -/
def hdB : List Int := [0, 1, 242, 3, 244, 245, 246, 247]
def hdP : List Int := [0, 0, 0, 1, 0, 0, 0, 2, 0, 17, 1, 2]
theorem hd1 : sumV hdB = 8717 := by decide +kernel
theorem hd2 : sumV (patchV hdB 2) = 0 := by decide +kernel
theorem hd3 : pseudoV 1 2 17 258 = hdP := by decide +kernel
theorem hd4 : sumV [] = 65535 := by decide +kernel
theorem hd5 : isPairV 8 2 = true := by decide +kernel
theorem hdB_ok : AreBytes hdB := by
  intro x hx
  simp [hdB] at hx
  omega
theorem hdP_ok : AreBytes hdP := by
  intro x hx
  simp [hdP] at hx
  omega
theorem patch_ok {xs : List Int} (h : AreBytes xs) (at' : Int) : AreBytes (patchV xs at') := by
  unfold patchV
  split
  · have := sumV_lt (putTwo xs at'.toNat 0 0)
    exact putTwo_ok h _ (by omega) (by omega)
  · exact h
theorem patch_len (xs : List Int) (at' : Int) : (patchV xs at').length = xs.length := by
  unfold patchV
  split
  · rename_i h
    unfold isPairV at h
    have := of_decide_eq_true h
    exact putTwo_len _ _ (by omega)
  · rfl
end Go.Proofs.YtalbdeifkbfnbaaDoor
