/-
  Parameters that are bytes, with what they weigh: a length below 2^47. For every later stage whose laws copy what came in, however long.
-/
import Derived.Test.YtnmffkmpkgmkpaaBuf
import Derived.SizedLaws
set_option maxRecDepth 4000
set_option linter.unusedVariables false
set_option linter.unusedSimpArgs false
namespace Go.Proofs.Ytnmffkmpkgmkpaa
open Go.RowKit Go.ChangeShapes Go.WideShapes

section
variable {H : Type} {enc : TypeId × Value → H} {P : Program}
theorem buf_of_trod_w {W : World} {base : Nat} {spare : Nat → Bool} {held : Bool} {t e : TypeId} {v : Value} {fuel : Nat} {x : DataW H × List MemPlace} (ht : P.underlying t = some (.slice e)) (he : P.underlying e = some (.int .u8)) (hc : P.cellsOf e = 1)
    (hd : DataW.trod enc P W base spare held fuel t [v] = some x) : ∃ xs, Buf W v xs ∧ ∀ n, (∀ m ∈ x.1.weights P t, m ≤ n) → xs.length * P.bytesOf e ≤ n := by
  rcases open_ints ht he hc hd with ⟨h1, _⟩ | ⟨a', len', cap', zs, h1, _, h3, h4, h5, hx, h7, h8⟩
  · obtain rfl : v = .slice none 0 0 := by simpa using h1
    exact ⟨[], Buf.nil W, fun n _ => by simp⟩
  · obtain ⟨xs, hb⟩ := buf_of_trod ht he hc hd
    obtain rfl : v = .slice (some a') len' cap' := by simpa using h1
    have hlz : len' ≤ zs.length := by rw [h5]; split <;> omega
    refine ⟨xs, hb, fun n hn => ?_⟩
    have h9 := hn (((lits (H := H) .u8 (zs.take len')).length + (lits (H := H) .u8 (zs.drop len')).length) * P.bytesOf e) (by rw [hx]; simp [DataW.weights, ht])
    have hlit : (lits (H := H) .u8 (zs.take len')).length = len' := by simp [lits]; omega
    rw [hlit] at h9
    rw [← hb.lenEq.1]
    exact Nat.le_trans (Nat.mul_le_mul_right _ (Nat.le_add_right _ _)) h9
end
section
variable {H : Type} {enc : TypeId × Value → H} {W : World} {base : Nat} {spare : Nat → Bool} {held : Bool}
theorem open_buf_w {r : Reach} {b0 : Nat} {v : Value} {d : DataW H} {ps : List MemPlace} (hval : Value.okWide Try.prog W r b0 22 v) (hd : DataW.Trod enc Try.prog W base spare held 22 v d ps) :
    ∃ xs, Buf W v xs ∧ ((∀ m ∈ d.weights Try.prog 22, m ≤ reachBytes) → xs.length ≤ 140737488355328) := by
  obtain ⟨a, len, cap, rfl⟩ := okWide_slice Try.underlying22 hval
  obtain ⟨fuel, hf⟩ := hd
  have hcs : (Value.slice a len cap).cells.toList = [.slice a len cap] := by simp [Value.cells]
  rw [hcs] at hf
  obtain ⟨xs, hb, hw⟩ := buf_of_trod_w Try.underlying22 Try.underlying5 (by kernel_rfl) hf
  refine ⟨xs, hb, fun hn => ?_⟩
  have := hw reachBytes hn
  rw [show Try.prog.bytesOf 5 = 1 by kernel_rfl] at this
  unfold reachBytes at this
  omega
end
end Go.Proofs.Ytnmffkmpkgmkpaa
