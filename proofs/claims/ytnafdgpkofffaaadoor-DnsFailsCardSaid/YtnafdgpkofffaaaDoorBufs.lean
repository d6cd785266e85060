/-
  Rows of rows of bytes in memory (Bufs), and a parameter of that type, opened.
-/
import Derived.Test.YtnafdgpkofffaaaDoorBuf
import Derived.Deep.Slices
set_option maxRecDepth 4000
set_option linter.unusedVariables false
set_option linter.unusedSimpArgs false
namespace Go.Proofs.YtnafdgpkofffaaaDoor
open Go.RowKit Go.ChangeShapes Go.WideShapes

/-- The slice value v reads as these rows of bytes. -/
structure Bufs (w : World) (v : Value) (xss : List (List Int)) : Prop where
  shape : ∃ a c, v = .slice a xss.length c ∧ (xss ≠ [] → ∃ b off, a = some ⟨b, off, none⟩ ∧ b < w.heap.size ∧ ∀ i, i < xss.length → ∃ u, w.cell? ⟨b, off + i, none⟩ = some u ∧ Buf w u (xss.getD i []))
  len : xss.length ≤ maxLen
theorem Bufs.grew {w w' : World} {v : Value} {xss : List (List Int)} (h : Bufs w v xss) (g : Grew w w') : Bufs w' v xss := by
  obtain ⟨a, c, rfl, ha⟩ := h.shape
  refine ⟨⟨a, c, rfl, fun hx => ?_⟩, h.len⟩
  obtain ⟨b, off, rfl, hb, hat⟩ := ha hx
  refine ⟨b, off, rfl, Nat.lt_of_lt_of_le hb g.size, fun i hi => ?_⟩
  obtain ⟨u, hu, hB⟩ := hat i hi
  exact ⟨u, by rw [(gcell g).1 b _ hb]; exact hu, hB.grew g⟩
section
variable {H : Type} {enc : TypeId × Value → H} {P : Program}
theorem open_bufs {W : World} {r : Reach} {b0 base : Nat} {spare : Nat → Bool} {held : Bool} {t e e' : TypeId} {v : Value} {d : DataW H} {ps : List MemPlace} (ht : P.underlying t = some (.slice e)) (hc0 : P.cellsOf e = 1) (he : P.underlying e = some (.slice e')) (he' : P.underlying e' = some (.int .u8)) (hc : P.cellsOf e' = 1)
    (hval : Value.okWide P W r b0 t v) (hd : DataW.Trod enc P W base spare held t v d ps) : ∃ xss, Bufs W v xss := by
  obtain ⟨a, len, cap, rfl⟩ := okWide_slice ht hval
  obtain ⟨fuel, hf⟩ := hd
  have hcs : (Value.slice a len cap).cells.toList = [.slice a len cap] := by simp [Value.cells]
  rw [hcs] at hf
  rcases Deep.open_slice1 ht hc0 hf with ⟨h1, _⟩ | ⟨a', len', cap', m, n, V, D, Pl, h1, _, hl, hm, hmm, _, hx⟩
  · obtain ⟨rfl, rfl, rfl⟩ : a = none ∧ len = 0 ∧ cap = 0 := by simpa using h1
    exact ⟨[], ⟨⟨none, 0, rfl, fun h => absurd rfl h⟩, Nat.zero_le _⟩⟩
  · obtain ⟨rfl, rfl, rfl⟩ : a = some a' ∧ len = len' ∧ cap = cap' := by simpa using h1
    have hlm : len ≤ m := by rw [hmm]; split <;> omega
    obtain ⟨X, hX⟩ := Deep.choose_lt (α := List Int) (n := len) (p := fun i xs => Buf W (V i) xs) (fun i hi => buf_of_trod he he' hc (hx i (by omega)).2)
    refine ⟨(List.range len).map X, ⟨⟨some a', cap, by simp, fun hne => ?_⟩, by simp; omega⟩⟩
    have h0 : 0 < len := by
      rcases Nat.eq_zero_or_pos len with h | h
      · subst h; simp at hne
      · exact h
    obtain ⟨b, off, spot⟩ := a'
    have hspot : spot = none := by simpa [Addr.add] using World.cell?_spot (hx 0 (by omega)).1
    subst hspot
    refine ⟨b, off, rfl, World.block_lt_of_cell? W _ (hx 0 (by omega)).1, fun i hi => ?_⟩
    have hi' : i < len := by simpa using hi
    refine ⟨V i, by rw [← Go.WideShapes.add_plain]; exact (hx i (by omega)).1, ?_⟩
    have e : ((List.range len).map X).getD i [] = X i := by
      rw [List.getD_eq_getElem?_getD]
      simp [hi']
    rw [e]
    exact hX i hi'
end
end Go.Proofs.YtnafdgpkofffaaaDoor
