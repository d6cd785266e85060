/-
  Options that stand in a map, as plain functions: what is taken of each option that comes, and what is written; that it is the first one of each kind.
-/
import Derived.Test.YtnmffkmpkgmkpaaDhN
import Derived.Test.YtnmffkmpkgmkpaaMap
set_option maxRecDepth 4000
set_option linter.unusedVariables false
set_option linter.unusedSimpArgs false
namespace Go.Proofs.Ytnmffkmpkgmkpaa
open Go.RowKit

/-- The kinds that count, in the order in which they are written: number, size, whether more may come. -/
def kN (i : Nat) : Int := [53, 50, 54, 51, 1, 3, 6].getD i 0
def kS (i : Nat) : Nat := [1, 4, 4, 4, 4, 4, 4].getD i 0
def kM (i : Nat) : Bool := [false, false, false, false, false, true, true].getD i false
/-- What one kind takes of an option. -/
def tk1 (n : Int) (d : List Int) (f : Int → Option Int) (i : Nat) : Int → Option Int :=
  if f n = none ∧ kN i = n ∧ fitsV (kS i) (kM i) d.length = true then updI f n (getV (d.take (kS i)) true) else f
/-- .. the first k kinds. -/
def tkTo (n : Int) (d : List Int) (f : Int → Option Int) : Nat → Int → Option Int
  | 0 => f
  | k + 1 => tk1 n d (tkTo n d f k) k
def tkV (f : Int → Option Int) (n : Int) (d : List Int) : Int → Option Int := tkTo n d f 7
def tkAll (f : Int → Option Int) (ps : List (Int × List Int)) : Int → Option Int := ps.foldl (fun f p => tkV f p.1 p.2) f
def noneI : Int → Option Int := fun _ => none
theorem tkAll_nil (f : Int → Option Int) : tkAll f [] = f := rfl
theorem tkAll_cons (f : Int → Option Int) (p : Int × List Int) (ps : List (Int × List Int)) : tkAll f (p :: ps) = tkAll (tkV f p.1 p.2) ps := rfl

theorem tk1_other {n m : Int} {d : List Int} {f : Int → Option Int} {i : Nat} (h : m ≠ n) : tk1 n d f i m = f m := by
  unfold tk1 updI
  split
  · exact if_neg h
  · rfl
theorem tkTo_other {n m : Int} {d : List Int} {f : Int → Option Int} (h : m ≠ n) : ∀ k, tkTo n d f k m = f m
  | 0 => rfl
  | k + 1 => by rw [tkTo, tk1_other h, tkTo_other h k]
theorem tk1_miss {n : Int} {d : List Int} {f : Int → Option Int} {i : Nat} (h : kN i ≠ n) : tk1 n d f i = f := by
  unfold tk1
  exact if_neg fun hh => h hh.2.1
theorem tk1_kept {n : Int} {d : List Int} {f : Int → Option Int} {i : Nat} (h : f n ≠ none) : tk1 n d f i = f := by
  unfold tk1
  exact if_neg fun hh => h hh.1
theorem tk1_long {n : Int} {d : List Int} {f : Int → Option Int} {i : Nat} (h : fitsV (kS i) (kM i) d.length = false) : tk1 n d f i = f := by
  unfold tk1
  exact if_neg fun hh => by rw [h] at hh; exact absurd hh.2.2 (by simp)
theorem tk1_hit {n : Int} {d : List Int} {f : Int → Option Int} {i : Nat} (h : f n = none) (h2 : kN i = n) (h1 : fitsV (kS i) (kM i) d.length = true) : tk1 n d f i = updI f n (getV (d.take (kS i)) true) := by
  unfold tk1
  exact if_pos ⟨h, h2, h1⟩
/-- Of one kind. -/
theorem tkV_at (f : Int → Option Int) (d : List Int) (j : Nat) (hj : j < 7) : tkV f (kN j) d (kN j) = if f (kN j) = none ∧ fitsV (kS j) (kM j) d.length = true then some (getV (d.take (kS j)) true) else f (kN j) := by
  have hk : ∀ i, i < 7 → i ≠ j → kN i ≠ kN j := by
    intro i hi hne
    match i, j, hi, hj, hne with
    | 0, 0, _, _, h | 1, 1, _, _, h | 2, 2, _, _, h | 3, 3, _, _, h | 4, 4, _, _, h | 5, 5, _, _, h | 6, 6, _, _, h => exact absurd rfl h
    | 0, 1, _, _, _ | 0, 2, _, _, _ | 0, 3, _, _, _ | 0, 4, _, _, _ | 0, 5, _, _, _ | 0, 6, _, _, _ => decide
    | 1, 0, _, _, _ | 1, 2, _, _, _ | 1, 3, _, _, _ | 1, 4, _, _, _ | 1, 5, _, _, _ | 1, 6, _, _, _ => decide
    | 2, 0, _, _, _ | 2, 1, _, _, _ | 2, 3, _, _, _ | 2, 4, _, _, _ | 2, 5, _, _, _ | 2, 6, _, _, _ => decide
    | 3, 0, _, _, _ | 3, 1, _, _, _ | 3, 2, _, _, _ | 3, 4, _, _, _ | 3, 5, _, _, _ | 3, 6, _, _, _ => decide
    | 4, 0, _, _, _ | 4, 1, _, _, _ | 4, 2, _, _, _ | 4, 3, _, _, _ | 4, 5, _, _, _ | 4, 6, _, _, _ => decide
    | 5, 0, _, _, _ | 5, 1, _, _, _ | 5, 2, _, _, _ | 5, 3, _, _, _ | 5, 4, _, _, _ | 5, 6, _, _, _ => decide
    | 6, 0, _, _, _ | 6, 1, _, _, _ | 6, 2, _, _, _ | 6, 3, _, _, _ | 6, 4, _, _, _ | 6, 5, _, _, _ => decide
  have key : ∀ k, k ≤ 7 → tkTo (kN j) d f k (kN j) = if j < k then (if f (kN j) = none ∧ fitsV (kS j) (kM j) d.length = true then some (getV (d.take (kS j)) true) else f (kN j)) else f (kN j) := by
    intro k
    induction k with
    | zero => intro _; rw [if_neg (by omega)]; rfl
    | succ k ih =>
      intro hk7
      have ih := ih (by omega)
      rw [tkTo]
      by_cases e : k = j
      · subst e
        rw [if_neg (by omega)] at ih
        rw [if_pos (show k < k + 1 by omega)]
        by_cases h : f (kN k) = none ∧ fitsV (kS k) (kM k) d.length = true
        · rw [tk1_hit (by rw [ih]; exact h.1) rfl h.2]
          rw [if_pos h]
          simp [updI]
        · rw [if_neg h]
          by_cases h1 : f (kN k) = none
          · rw [tk1_long (by simpa using fun hf => h ⟨h1, hf⟩), ih]
          · rw [tk1_kept (by rw [ih]; exact h1), ih]
      · rw [tk1_miss (hk k (by omega) e), ih]
        by_cases hlt : j < k
        · rw [if_pos hlt, if_pos (show j < k + 1 by omega)]
        · rw [if_neg hlt, if_neg (show ¬ j < k + 1 by omega)]
  have := key 7 (by omega)
  rw [if_pos hj] at this
  exact this
theorem tkV_other {f : Int → Option Int} {n m : Int} {d : List Int} (h : m ≠ n) : tkV f n d m = f m := tkTo_other h 7
/-- Of each kind the first option that is as long as it must be. -/
theorem tkAll_at (j : Nat) (hj : j < 7) : ∀ (ps : List (Int × List Int)) (f : Int → Option Int), tkAll f ps (kN j) = if f (kN j) = none then (fstV ps (kN j) (kS j) (kM j)).map (getV · true) else f (kN j)
  | [], f => by
    rw [tkAll_nil]
    split
    · rename_i h; rw [h]; rfl
    · rfl
  | p :: ps, f => by
    rw [tkAll_cons, tkAll_at j hj ps]
    unfold fstV
    by_cases hp : p.1 = kN j
    · have e1 : (p.1 == kN j) = true := by simpa using hp
      have e2 : tkV f p.1 p.2 (kN j) = tkV f (kN j) p.2 (kN j) := by rw [hp]
      have e3 := tkV_at f p.2 j hj
      rw [← e2] at e3
      rw [List.find?_cons, e1, Bool.true_and]
      by_cases hn : f (kN j) = none
      · rw [if_pos hn]
        cases hf : fitsV (kS j) (kM j) p.2.length
        · rw [if_neg (fun h => by rw [hf] at h; exact absurd h.2 (by simp)), hn] at e3
          rw [if_pos e3]
        · rw [if_pos ⟨hn, hf⟩] at e3
          rw [e3, if_neg (by simp)]
          rfl
      · rw [if_neg (fun h => hn h.1)] at e3
        rw [e3, if_neg hn, if_neg hn]
    · rw [tkV_other (fun h => hp h.symm)]
      have e1 : (p.1 == kN j) = false := by simpa using hp
      rw [List.find?_cons, e1, Bool.false_and]
theorem tkAll_none (j : Nat) (hj : j < 7) (ps : List (Int × List Int)) : tkAll noneI ps (kN j) = (fstV ps (kN j) (kS j) (kM j)).map (getV · true) := by
  rw [tkAll_at j hj]
  exact if_pos rfl
theorem getV_one (x : Int) : getV [x] true = x := by
  simp [getV, getTo, placeV]
/-- A message with what options tell. -/
def adD (m : DHR) (f : Int → Option Int) : DHR := { m with ty := (f 53).getD 0, wa := (f 50).getD 0, se := (f 54).getD 0, le := (f 51).getD 0, ma := (f 1).getD 0, ro := (f 3).getD 0, dn := (f 6).getD 0 }
/-- The message of a head. -/
def msD (b : List Int) : DHR := ⟨b.getD 0 0, getV (cutL b 4 8) true, getV (cutL b 12 16) true, getV (cutL b 16 20) true, cutL b 28 34, 0, 0, 0, 0, 0, 0, 0⟩
end Go.Proofs.Ytnmffkmpkgmkpaa
