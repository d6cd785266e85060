/-
  Package sum: isPair, Patch, and the document's own Patch.
-/
import Derived.Test.YtcaafinjphionaaDoorSmA
import Derived.Test.YtcaafinjphionaaDoorRowSet
import Derived.Test.YtcaafinjphionaaDoorPutB
import Derived.Deep.RegionHeld3
set_option maxRecDepth 4000
set_option linter.unusedVariables false
set_option linter.unusedSimpArgs false
namespace Go.Proofs.YtcaafinjphionaaDoor
open Go.RowKit

/-- Does a pair with both its bytes stand at this place of n bytes? -/
def isPairV (n : Nat) (at' : Int) : Bool := decide (0 ≤ at' ∧ at' % 2 = 0 ∧ at' ≤ (n : Int) - 2)
/-- The bytes with two others at place k. -/
def putTwo (xs : List Int) (k : Nat) (x y : Int) : List Int := lay xs k [x, y]
/-- What Patch answers. -/
def patchV (xs : List Int) (at' : Int) : List Int :=
  if isPairV xs.length at' = true then putTwo xs at'.toNat (sumV (putTwo xs at'.toNat 0 0) / 256) (sumV (putTwo xs at'.toNat 0 0) % 256) else xs
theorem patchV_no {xs : List Int} {at' : Int} (h : isPairV xs.length at' = false) : patchV xs at' = xs := by
  unfold patchV; rw [if_neg (by rw [h]; simp)]
theorem patchV_yes {xs : List Int} (k : Nat) (h : isPairV xs.length (k : Int) = true) : patchV xs k = putTwo xs k (sumV (putTwo xs k 0 0) / 256) (sumV (putTwo xs k 0 0) % 256) := by
  unfold patchV; rw [if_pos h, Int.toNat_natCast]



theorem put_two (s : Int) (h0 : 0 ≤ s) (h1 : s ≤ 65535) : putL s 2 true = [s / 256, s % 256] := by
  simp [putL, placeV, byteV, List.range_succ]
  omega
theorem putTwo_len {xs : List Int} {k : Nat} (x y : Int) (h : k + 2 ≤ xs.length) : (putTwo xs k x y).length = xs.length := lay_length h
theorem putTwo_again (xs : List Int) (k : Nat) (x y z u : Int) (h : k + 2 ≤ xs.length) : lay (putTwo xs k x y) k [z, u] = putTwo xs k z u := by
  unfold putTwo lay
  have h1 : (List.take k xs).length = k := by rw [List.length_take]; omega
  rw [List.take_append_of_le_length (by omega), List.take_of_length_le (by omega)]
  congr 2
  rw [List.drop_append, h1, List.drop_eq_nil_of_le (by simp; omega)]
  simp
theorem putTwo_ok {xs : List Int} (h : AreBytes xs) (k : Nat) {x y : Int} (hx : 0 ≤ x ∧ x < 256) (hy : 0 ≤ y ∧ y < 256) : AreBytes (putTwo xs k x y) := by
  refine h.lay (fun z hz => ?_) k
  simp only [List.mem_cons, List.not_mem_nil, or_false] at hz
  rcases hz with rfl | rfl <;> assumption

/-! ### The document's own -/
theorem isPairV_no {n : Nat} {at' : Int} (h : isPairV n at' = false) : at' < 0 ∨ (0 ≤ at' ∧ at' % 2 ≠ 0) ∨ (0 ≤ at' ∧ at' % 2 = 0 ∧ (n : Int) - 1 ≤ at') := by
  unfold isPairV at h
  have := of_decide_eq_false h
  omega
end Go.Proofs.YtcaafinjphionaaDoor
