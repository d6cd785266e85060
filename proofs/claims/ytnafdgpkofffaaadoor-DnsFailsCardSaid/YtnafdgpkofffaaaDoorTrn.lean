/-
  'Of what stood, nothing but block c has turned' (Trn): for functions that write through a pointer.
-/
import Derived.Test.YtnafdgpkofffaaaDoorGrew
set_option maxRecDepth 4000
set_option linter.unusedVariables false
set_option linter.unusedSimpArgs false
namespace Go.Proofs.YtnafdgpkofffaaaDoor
open Go.RowKit

/-- Of what stood nothing but block c has turned. -/
structure Trn (c : Nat) (w w' : World) : Prop where
  os : w'.os = w.os
  tape : w'.tape = w.tape
  output : w'.output = w.output
  size : w.heap.size ≤ w'.heap.size
  block : ∀ k, k < w.heap.size → k ≠ c → w'.heap[k]? = w.heap[k]?
theorem Trn.refl (c : Nat) (w : World) : Trn c w w := ⟨rfl, rfl, rfl, Nat.le_refl _, fun _ _ _ => rfl⟩
theorem Trn.trans {c : Nat} {a b w : World} (h1 : Trn c a b) (h2 : Trn c b w) : Trn c a w :=
  ⟨h2.os.trans h1.os, h2.tape.trans h1.tape, h2.output.trans h1.output, Nat.le_trans h1.size h2.size, fun k hk hne => (h2.block k (Nat.lt_of_lt_of_le hk h1.size) hne).trans (h1.block k hk hne)⟩
theorem Trn.of_grew {c : Nat} {w w' : World} (h : Grew w w') : Trn c w w' := ⟨h.os, h.tape, h.output, h.size, fun k hk _ => h.block k hk⟩
theorem Trn.set (w : World) (c o : Nat) (v : Value) : Trn c w (w.setCell ⟨c, o, none⟩ v) := ⟨rfl, rfl, rfl, by simp, fun k _ hne => Below.heap_setCell w ⟨c, o, none⟩ v k hne⟩
theorem Trn.grew {c : Nat} {W w w' : World} (h : Trn c w w') (g : Grew W w) (hc : W.heap.size ≤ c) : Grew W w' :=
  Below.trans (B := W.heap.size) g ⟨h.os, h.tape, h.output, h.size, fun k hk => h.block k (Nat.lt_of_lt_of_le hk g.size) (by omega)⟩
theorem Blk.trn {w w' : World} {c b : Nat} {cs : Array Value} {T : TypeId} (h : Blk w b cs T) (ht : Trn c w w') (hb : b ≠ c) : Blk w' b cs T := by
  have hl := h.lt
  unfold Blk at *
  rw [ht.block b hl hb]; exact h
theorem Trn.cell {c b o : Nat} {w w' : World} (ht : Trn c w w') (hb : b < w.heap.size) (hne : b ≠ c) : w'.cell? ⟨b, o, none⟩ = w.cell? ⟨b, o, none⟩ := World.cell?_of_block (w := w) (ht.block b hb hne)
end Go.Proofs.YtnafdgpkofffaaaDoor
