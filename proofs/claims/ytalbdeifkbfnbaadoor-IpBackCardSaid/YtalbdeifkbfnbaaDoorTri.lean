/-
  s[:k:k]: bytes cut at their end. For every later stage.
-/
import Derived.Test.YtalbdeifkbfnbaaDoorBuf
set_option maxRecDepth 4000
set_option linter.unusedVariables false
set_option linter.unusedSimpArgs false
namespace Go.Proofs.YtalbdeifkbfnbaaDoor
open Go.RowKit

theorem Buf.run_tri {w : World} {a : Option Addr} {n c : Nat} {xs : List Int} (h : Buf w (.slice a n c) xs) {k : Nat} (hk : k ≤ xs.length) :
    ∃ a', Buf w (.slice a' k k) (cutL xs 0 k) ∧ ∀ k2 k3 w', (Instr.sliceAt 23 (.slice a n c) none (some (.int k2 k)) (some (.int k3 k))).run Tryd.prog w' = .ok (.slice a' k k) w' := by
  obtain ⟨rfl, hc⟩ := h.lenEq
  have hu : Tryd.prog.underlying 23 = some (.slice (Tryd.prog.elem 23)) := by kernel_rfl
  have hl := cutL_length (Nat.zero_le k) hk
  obtain ⟨a0, c0, e, hc', ha⟩ := h.shape
  cases e
  refine ⟨if k = 0 then a else a.map (·.add (0 * 1)), ⟨⟨_, _, by rw [hl, Nat.sub_zero], by rw [hl]; omega, fun hne => ?_⟩, h.ok.cut 0 k, by have := h.len; omega⟩, fun k2 k3 w' => ?_⟩
  · have hk0 : 0 < k := by have := List.length_pos_iff.2 hne; omega
    obtain ⟨b, off, rfl, hb⟩ := ha (by intro he; subst he; simp at hk; omega)
    rw [if_neg (by omega)]
    refine ⟨b, off, by simp [Addr.add], fun i hi => ?_⟩
    rw [hl] at hi
    rw [cutL_getD (by omega), Nat.zero_add]
    exact hb i (by omega)
  · rw [run_sliceAt_slice w' _ _ _ _ _ hu, run_slice_hm w' _ a _ c hu k2 k3 _ _ (by omega) (by omega) (by omega), u8_size]
    simp only [Result.andThen_ok, sliced, Int.toNat_natCast, Nat.sub_zero]
/-- s[lo:hi:hi] -/
theorem Buf.run_cut3 {w : World} {a : Option Addr} {n c : Nat} {xs : List Int} (h : Buf w (.slice a n c) xs) {lo hi : Nat} (h1 : lo ≤ hi) (h2 : hi ≤ xs.length) :
    ∃ a', Buf w (.slice a' (hi - lo) (hi - lo)) (cutL xs lo hi) ∧ (∀ m k, (Value.slice a' m k).ownBlock = (Value.slice a n c).ownBlock) ∧ ∀ k1 k2 k3 w', (Instr.sliceAt 23 (.slice a n c) (some (.int k1 lo)) (some (.int k2 hi)) (some (.int k3 hi))).run Tryd.prog w' = .ok (.slice a' (hi - lo) (hi - lo)) w' := by
  obtain ⟨rfl, hc⟩ := h.lenEq
  have hu : Tryd.prog.underlying 23 = some (.slice (Tryd.prog.elem 23)) := by kernel_rfl
  have hl := cutL_length h1 h2
  obtain ⟨a0, c0, e, hc', ha⟩ := h.shape
  cases e
  refine ⟨if hi = lo then a else a.map (·.add (lo * 1)), ⟨⟨_, _, by rw [hl], by rw [hl]; omega, fun hne => ?_⟩, h.ok.cut lo hi, by have := h.len; omega⟩, fun m k => ?_, fun k1 k2 k3 w' => ?_⟩
  · have hpos : 0 < hi - lo := by rw [← hl]; exact List.length_pos_iff.2 hne
    obtain ⟨b, off, rfl, hb⟩ := ha (by intro he; subst he; simp at h2; omega)
    rw [if_neg (by omega)]
    refine ⟨b, off + lo, by simp [Addr.add], fun i hi' => ?_⟩
    rw [hl] at hi'
    rw [cutL_getD (by omega), Nat.add_assoc]
    exact hb (lo + i) (by omega)
  · split
    · cases a <;> rfl
    · cases a with
      | none => rfl
      | some ad => simp only [Option.map_some, Value.ownBlock]; unfold Addr.add; split <;> rfl
  · rw [run_sliceAt_slice w' _ _ _ _ _ hu, run_slice_lhm w' _ a _ c hu k1 k2 k3 _ _ _ (by omega) (by omega) (by omega) (by omega), u8_size]
    simp only [Result.andThen_ok, sliced, Int.toNat_natCast]
end Go.Proofs.YtalbdeifkbfnbaaDoor
