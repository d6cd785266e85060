/-
  The document's own questions for names: labels gone through.
-/
import Derived.Test.YtnafdgpkofffaaaDoorDnR
set_option maxRecDepth 4000
set_option linter.unusedVariables false
set_option linter.unusedSimpArgs false
namespace Go.Proofs.YtnafdgpkofffaaaDoor
open Go.RowKit

/-- What a label's rest makes of what has been read of it. -/
def labC (m : Nat) (b : List Int) (pre : List Int) : List Int × Int := (pre ++ (labF (m - pre.length) (b.drop pre.length)).1, (labF (m - pre.length) (b.drop pre.length)).2)
theorem labC_start (m : Nat) (b : List Int) : labC m b [] = labF m b := by simp [labC]
theorem labC_done {m : Nat} {b pre : List Int} (h : pre.length = m) : labC m b pre = (pre, 0) := by
  unfold labC
  rw [h, Nat.sub_self]
  simp [labF]
theorem labC_short {m : Nat} {b pre : List Int} (h : pre.length < m) (h2 : b.length ≤ pre.length) : (labC m b pre).2 = 160 := by
  unfold labC
  rw [show m - pre.length = (m - pre.length - 1) + 1 by omega, List.drop_eq_nil_of_le h2]
  rfl
theorem drop_cons {b : List Int} {k : Nat} (h : k < b.length) : b.drop k = b.getD k 0 :: b.drop (k + 1) := by
  rw [List.drop_eq_getElem_cons h, List.getD_eq_getElem?_getD, List.getElem?_eq_getElem h]
  rfl
theorem labF_bad1 {c : Int} (h : (letV c).2 = false) (k : Nat) (r : List Int) : labF (k + 1) (c :: r) = ([], 161) := by
  unfold labF
  rw [if_pos h]
theorem labF_ok1 {c : Int} (h : (letV c).2 = true) (k : Nat) (r : List Int) : labF (k + 1) (c :: r) = ((letV c).1 :: (labF k r).1, (labF k r).2) := by
  conv => lhs; unfold labF
  rw [if_neg (by rw [h]; simp)]
theorem labC_bad {m : Nat} {b pre : List Int} (h : pre.length < m) (h2 : pre.length < b.length) (h3 : (letV (b.getD pre.length 0)).2 = false) : (labC m b pre).2 = 161 := by
  unfold labC
  rw [show m - pre.length = (m - pre.length - 1) + 1 by omega, drop_cons h2, labF_bad1 h3]
theorem labC_next {m : Nat} {b pre : List Int} (h : pre.length < m) (h2 : pre.length < b.length) (h3 : (letV (b.getD pre.length 0)).2 = true) : labC m b pre = labC m b (pre ++ [(letV (b.getD pre.length 0)).1]) := by
  unfold labC
  rw [show m - pre.length = (m - pre.length - 1) + 1 by omega, drop_cons h2, labF_ok1 h3, List.length_append, List.length_singleton, List.append_assoc, show m - (pre.length + 1) = m - pre.length - 1 by omega]
  rfl
theorem dotV_len (T : List Int) : (dotV T).length ≤ T.length + 1 := by
  unfold dotV
  split <;> simp
theorem dotV_ok {T : List Int} (h : AreBytes T) : AreBytes (dotV T) := by
  unfold dotV
  split
  · intro x hx; simp at hx
  · exact h.app (fun x hx => by simp only [List.mem_cons, List.not_mem_nil, or_false] at hx; omega)
end Go.Proofs.YtnafdgpkofffaaaDoor
