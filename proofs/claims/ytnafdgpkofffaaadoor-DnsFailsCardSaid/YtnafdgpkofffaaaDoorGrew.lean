/-
  'Below W's heap nothing has turned' (Grew), a block known whole (Blk), and small last steps: for contracts that are said relative to a first world.
-/
import Derived.Test.YtnafdgpkofffaaaDoorRows
import Derived.Test.YtnafdgpkofffaaaDoorMath
import Derived.WalkKit
import Derived.Deep.QuietTactic
import Derived.BigQuiet
import Derived.LoopTactic
import Derived.Outline
import Derived.Handy
import Derived.Laws.EntriesVeiled
set_option maxRecDepth 4000
set_option linter.unusedVariables false
set_option linter.unusedSimpArgs false
namespace Go.Proofs.YtnafdgpkofffaaaDoor
open Go.RowKit

theorem ret_u32 {a b : Int} (h : a = b) : Ending.returned (.int .u32 a) = .returned (.int .u32 b) := by rw [h]

/-- Below W's heap nothing has turned. -/
def Grew (W w : World) : Prop := Below W.heap.size W w
theorem Grew.refl (W : World) : Grew W W := Below.refl _ W
theorem Grew.drewN {W w : World} (h : Grew W w) (n : Nat) : Grew W (w.drewN n) := ⟨h.os, h.tape, h.output, h.size, h.block⟩
theorem Grew.drew {W w w' : World} (h : Grew W w) (d : Drew w w') : Grew W w' := by obtain ⟨n, rfl⟩ := d; exact h.drewN n
theorem Grew.drew1 {W w : World} (h : Grew W w) : Grew W w.drew := ⟨h.os, h.tape, h.output, h.size, h.block⟩
theorem Grew.alloc {W w : World} (h : Grew W w) (o : Obj) : Grew W (w.alloc o) := Below.alloc h h.size o
theorem Grew.setCell {W w : World} (h : Grew W w) {b o : Nat} (hb : W.heap.size ≤ b) (v : Value) : Grew W (w.setCell ⟨b, o, none⟩ v) := Below.setCell h hb v
theorem Grew.trans {A B C : World} (h1 : Grew A B) (h2 : Grew B C) : Grew A C := Below.trans h1 (h2.mono h1.size)
/-- What stood is read behind a call that makes memory. -/
theorem gcell {W w1 : World} (hb : Grew W w1) : (∀ b o, b < W.heap.size → w1.cell? ⟨b, o, none⟩ = W.cell? ⟨b, o, none⟩) ∧ (∀ b o, b < W.heap.size → w1.frozen? ⟨b, o, none⟩ = W.frozen? ⟨b, o, none⟩) :=
  ⟨fun b o h => hb.cell (p := ⟨b, o, none⟩) h, fun b o h => hb.frozen (p := ⟨b, o, none⟩) h⟩

theorem last_block (w : World) (o : Obj) (n : Nat) (h : n = w.heap.size) : (w.alloc o).heap[n]? = some o := by
  subst h
  show (w.heap.push o)[w.heap.size]? = some o
  simp
/-- A block, whole. -/
def Blk (w : World) (b : Nat) (cs : Array Value) (T : TypeId) : Prop := w.heap[b]? = some (.cells cs T (0, 0))
theorem Blk.lt {w : World} {b : Nat} {cs : Array Value} {T : TypeId} (h : Blk w b cs T) : b < w.heap.size := by
  rcases Nat.lt_or_ge b w.heap.size with h' | h'
  · exact h'
  · unfold Blk at h; simp [Array.getElem?_eq_none h'] at h
theorem Blk.cell {w : World} {b : Nat} {cs : Array Value} {T : TypeId} (h : Blk w b cs T) (o : Nat) : w.cell? ⟨b, o, none⟩ = cs[o]? := by
  unfold Blk at h
  simp [World.cell?, h]
theorem Blk.free {w : World} {b : Nat} {cs : Array Value} {T : TypeId} (h : Blk w b cs T) (o : Nat) : w.frozen? ⟨b, o, none⟩ = false := by
  unfold Blk at h
  simp [World.frozen?, h]
theorem Blk.new (w : World) (cs : Array Value) (T : TypeId) (b : Nat) (hb : b = w.heap.size) : Blk (w.alloc (.cells cs T)) b cs T := last_block _ _ _ hb
theorem Blk.alloc {w : World} {b : Nat} {cs : Array Value} {T : TypeId} (h : Blk w b cs T) (o : Obj) : Blk (w.alloc o) b cs T := by
  have := h.lt
  unfold Blk at *
  rw [← h]
  show (w.heap.push o)[b]? = _
  rw [Array.getElem?_push]
  rw [if_neg (by omega)]
theorem Blk.drewN {w : World} {b : Nat} {cs : Array Value} {T : TypeId} (h : Blk w b cs T) (n : Nat) : Blk (w.drewN n) b cs T := h
theorem Blk.drew {w : World} {b : Nat} {cs : Array Value} {T : TypeId} (h : Blk w b cs T) : Blk w.drew b cs T := h
theorem Blk.other {w : World} {b c o : Nat} {cs : Array Value} {T : TypeId} (h : Blk w b cs T) (hc : b ≠ c) (v : Value) : Blk (w.setCell ⟨c, o, none⟩ v) b cs T := by
  unfold Blk at *
  rw [← h]
  exact Below.heap_setCell w ⟨c, o, none⟩ v b hc
theorem Blk.set {w : World} {b o : Nat} {cs : Array Value} {T : TypeId} (h : Blk w b cs T) (v : Value) : Blk (w.setCell ⟨b, o, none⟩ v) b (cs.setIfInBounds o v) T := by
  have hlt := h.lt
  unfold Blk at *
  have h' : w.heap[b] = .cells cs T (0, 0) := by simpa [Array.getElem?_eq_getElem hlt] using h
  show (w.heap.modify b _)[b]? = _
  rw [Array.getElem?_eq_getElem (by simpa using hlt), Array.getElem_modify_self, h']
  rfl
theorem Blk.grew {w w' : World} {b : Nat} {cs : Array Value} {T : TypeId} (h : Blk w b cs T) (g : Grew w w') : Blk w' b cs T := by
  have hlt := h.lt
  unfold Blk at *
  rw [Below.block g b hlt]
  exact h
end Go.Proofs.YtnafdgpkofffaaaDoor
