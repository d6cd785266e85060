/-
  The law's own text in small letters; a parameter that is a text.
-/
import Derived.Test.YtnafdgpkofffaaaGreatDoorDnQ
import Derived.WalkMore
import Derived.LoopTactic
import Derived.ChangeMaps5
set_option maxRecDepth 4000
set_option linter.unusedVariables false
set_option linter.unusedSimpArgs false
namespace Go.Proofs.YtnafdgpkofffaaaGreatDoor
open Go.RowKit

theorem lowL_ok {xs : List Int} (h : AreBytes xs) : AreBytes (lowL xs) := fun z hz => by
  obtain ⟨c, hc, rfl⟩ := List.mem_map.1 hz
  exact letV_lt (h c hc)
theorem lowL_snoc {xs : List Int} {k : Nat} (h : k < xs.length) : lowL (xs.take (k + 1)) = lowL (xs.take k) ++ [(letV (xs.getD k 0)).1] := by
  have e : xs.take (k + 1) = xs.take k ++ [xs.getD k 0] := by
    rw [List.take_add_one, List.getD_eq_getElem?_getD, List.getElem?_eq_getElem h]
    rfl
  rw [e, lowL_app]
  rfl
theorem lowL_last {xs : List Int} (h : 0 < xs.length) : (lowL xs).getD (xs.length - 1) 0 = (letV (xs.getD (xs.length - 1) 0)).1 := by
  simp only [lowL, List.getD_eq_getElem?_getD, List.getElem?_map, List.getElem?_eq_getElem (show xs.length - 1 < xs.length by omega)]
  rfl
theorem letV_dot (c : Int) : (letV c).1 = 46 ↔ c = 46 := by
  unfold letV
  split
  · constructor
    · intro h; simp only at h; omega
    · intro h; omega
  · exact Iff.rfl
theorem low_trim (xs : List Int) : lowL (trimV xs) = if 0 < (lowL xs).length ∧ (lowL xs).getD (xs.length - 1) 0 = 46 then cutL (lowL xs) 0 (xs.length - 1) else lowL xs := by
  unfold trimV
  rw [lowL_len]
  by_cases h : 0 < xs.length
  · rw [lowL_last h]
    by_cases h2 : xs.getD (xs.length - 1) 0 = 46
    · rw [if_pos ⟨h, h2⟩, if_pos ⟨h, (letV_dot _).2 h2⟩]
      simp [lowL, cutL, List.map_take]
    · rw [if_neg (fun hh => h2 hh.2), if_neg (fun hh => h2 ((letV_dot _).1 hh.2))]
  · rw [if_neg (fun hh => h hh.1), if_neg (fun hh => h hh.1)]
theorem open_str {H : Type} {enc : TypeId × Value → H} {W : World} {r : Reach} {b0 base : Nat} {spare : Nat → Bool} {held : Bool} {v : Value} {d : DataW H} {ps : List MemPlace} (hval : Value.okWide Tryz.prog W r b0 9 v) (h : DataW.Trod enc Tryz.prog W base spare held 9 v d ps) : ∃ xs : List Int, v = .string (strOfNums xs) ∧ AreBytes xs ∧ xs.length ≤ maxLen := by
  obtain ⟨s, rfl, _, _, hs⟩ := ChangeMaps.open_string Tryz.underlying9 hval h
  exact ⟨numsOf s, by rw [strOf_nums], numsOf_ok s, by rw [numsOf_len]; exact hs⟩
end Go.Proofs.YtnafdgpkofffaaaGreatDoor
