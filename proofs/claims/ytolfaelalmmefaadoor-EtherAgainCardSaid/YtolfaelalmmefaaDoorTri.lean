/-
  s[:k:k]: bytes cut at their end. For every later stage.
-/
import Derived.Test.YtolfaelalmmefaaDoorBuf
set_option maxRecDepth 4000
set_option linter.unusedVariables false
set_option linter.unusedSimpArgs false
namespace Go.Proofs.YtolfaelalmmefaaDoor
open Go.RowKit

theorem Buf.run_tri {w : World} {a : Option Addr} {n c : Nat} {xs : List Int} (h : Buf w (.slice a n c) xs) {k : Nat} (hk : k ≤ xs.length) :
    ∃ a', Buf w (.slice a' k k) (cutL xs 0 k) ∧ ∀ k2 k3 w', (Instr.sliceAt 22 (.slice a n c) none (some (.int k2 k)) (some (.int k3 k))).run Tryd.prog w' = .ok (.slice a' k k) w' := by
  obtain ⟨rfl, hc⟩ := h.lenEq
  have hu : Tryd.prog.underlying 22 = some (.slice (Tryd.prog.elem 22)) := by kernel_rfl
  have hl := cutL_length (Nat.zero_le k) hk
  obtain ⟨a0, c0, e, hc', ha⟩ := h.shape
  cases e
  refine ⟨if k = 0 then a else a.map (·.add (0 * 1)), ⟨⟨_, _, by rw [hl, Nat.sub_zero], by rw [hl]; omega, fun hne => ?_⟩, h.ok.cut 0 k, by have := h.len; omega⟩, fun k2 k3 w' => ?_⟩
  · have hk0 : 0 < k := by have := List.length_pos_iff.2 hne; omega
    obtain ⟨b, off, rfl, hb⟩ := ha (by intro he; subst he; simp at hk; omega)
    rw [if_neg (by omega)]
    refine ⟨b, off, by simp [Addr.add], fun i hi => ?_⟩
    rw [hl] at hi
    rw [cutL_getD (by omega), Nat.zero_add]
    exact hb i (by omega)
  · rw [run_sliceAt_slice w' _ _ _ _ _ hu, run_slice_hm w' _ a _ c hu k2 k3 _ _ (by omega) (by omega) (by omega), u8_size]
    simp only [Result.andThen_ok, sliced, Int.toNat_natCast, Nat.sub_zero]
end Go.Proofs.YtolfaelalmmefaaDoor
