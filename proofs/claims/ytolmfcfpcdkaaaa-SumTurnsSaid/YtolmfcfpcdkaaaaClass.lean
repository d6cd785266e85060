/-
  Regions that draw their order, whose operations read and whose callees may make memory: one walk, in the text's order, in the class of the worlds that have grown out of one (Over). With a forced tail, or whole.
-/
import Derived.Test.YtolmfcfpcdkaaaaGrew
import Derived.Test.YtolmfcfpcdkaaaaTail
set_option maxRecDepth 4000
set_option linter.unusedVariables false
set_option linter.unusedSimpArgs false
namespace Go.Proofs.Ytolmfcfpcdkaaaa
open Go.RowKit

/-- A world that has grown out of W. -/
structure Over (W : World) where
  w : World
  g : Grew W w
instance overNonempty (W : World) : Nonempty (Over W) := ⟨⟨W, Grew.refl W⟩⟩
theorem Over.cell {W : World} {b o : Nat} {v : Option Value} (hb : b < W.heap.size) (h : W.cell? ⟨b, o, none⟩ = v) (z : Over W) : z.w.cell? ⟨b, o, none⟩ = v := by rw [(gcell z.g).1 b o hb]; exact h
theorem Over.free {W : World} {b o : Nat} {v : Bool} (hb : b < W.heap.size) (h : W.frozen? ⟨b, o, none⟩ = v) (z : Over W) : z.w.frozen? ⟨b, o, none⟩ = v := by rw [(gcell z.g).2 b o hb]; exact h
theorem Blk.over {W : World} {b : Nat} {cs : Array Value} {T : TypeId} (h : Blk W b cs T) (z : Over W) : Blk z.w b cs T := h.grew z.g
theorem Blk.overCell {W : World} {b : Nat} {cs : Array Value} {T : TypeId} (h : Blk W b cs T) (o : Nat) (v : Value) (hv : cs[o]? = some v) (z : Over W) : z.w.cell? ⟨b, o, none⟩ = some v := by rw [(h.over z).cell]; exact hv
theorem over_eq {P : Program} {f : FuncId} {args : Array Value} {W : World} {z : Over W} {v : Value}
    (h : Calls P f args z.w fun e w' => e = .returned v ∧ Grew W w') : Calls P f args z.w fun e w'' => e = .returned v ∧ ∃ z' : Over W, w'' = z'.w :=
  h.mono fun _ w' ⟨he, hg⟩ => ⟨he, ⟨w', hg⟩, rfl⟩
theorem over_grew {P : Program} {f : FuncId} {args : Array Value} {W : World} {z : Over W} {v : Value}
    (h : Calls P f args z.w fun e w' => e = .returned v ∧ Grew z.w w') : Calls P f args z.w fun e w'' => e = .returned v ∧ ∃ z' : Over W, w'' = z'.w :=
  h.mono fun _ w' ⟨he, hg⟩ => ⟨he, ⟨w', z.g.trans hg⟩, rfl⟩
theorem over_same {P : Program} {f : FuncId} {args : Array Value} {W : World} {z : Over W} {v : Value}
    (h : Calls P f args z.w fun e w' => e = .returned v ∧ z.w = w') : Calls P f args z.w fun e w'' => e = .returned v ∧ ∃ z' : Over W, w'' = z'.w :=
  h.mono fun _ _ ⟨he, hg⟩ => ⟨he, z, hg.symm⟩

/-- n quiet operations, then the tail: in a class of worlds. -/
theorem region_class_tail {P : Program} {C : World → Prop} {id : Nat} {Q : Exit → Act → World → Prop} {a : Act} {w : World} {l : List Oper} (n : Nat) (hC : C { w with drawn := w.drawn + 1 }) (hm : P.follows .mixedOrders = true) (hB : Region.lexTailB .any l.toArray n = true)
    (h : wpQuiet P l.toArray C (fun a' => ∀ w', C w' → wpList P l.toArray Q (l.drop n) a' w') (l.take n) a) : (Code.region id l.toArray true).wp P Q a w := by
  simp only [Region.lexTailB, Bool.and_eq_true, decide_eq_true_eq] at hB
  obtain ⟨⟨⟨⟨hsel, hn⟩, hs⟩, hc⟩, hlex⟩ := hB
  have hn' : n < l.length := by simpa using hn
  have ht : (l.take n).length = n := by rw [List.length_take]; omega
  have hd : (l.drop n).length = l.toArray.size - n := by simp
  have none0 : ∀ j, (Array.replicate l.toArray.size false).getD j false = false := getD_replicate_false _
  have inv : HeadInv .any l.toArray n (Array.replicate l.toArray.size false) := ⟨by simp, fun j _ _ hl => absurd hl (by rw [none0]; exact Bool.noConfusion), fun t _ h' => getD_in (by simpa using h') (none0 t)⟩
  have H := HeadQ.lex (md := .any) (g := l.toArray.size - n) hsel hs hc hn (l.take n) 0 _ a (fun j hj => by rw [ht] at hj; simp [hj]) (by omega) inv (by rw [ht]; exact hlex) h
  have := HeadQ.any (Q := Q) (g := l.toArray.size - n) (fun listed a' w' hw' hL => by
    have := wpAny_of_seq (md := .any) (Q' := Q) (l.drop n) n listed a' w' (fun j => by simp [List.getElem?_drop]) (by rw [hd]; exact hL.1) (hL.2 w' hw')
    rwa [hd] at this) _ _ _ { w with drawn := w.drawn + 1 } hC H
  rw [ht, show n + (l.toArray.size - n) = l.toArray.size by omega] at this
  exact wp_region_any hm this

theorem region_over_tail {P : Program} {id : Nat} {Q : Exit → Act → World → Prop} {a : Act} {w : World} {l : List Oper} (n : Nat) (hm : P.follows .mixedOrders = true) (hB : Region.lexTailB .any l.toArray n = true)
    (h : wpQuiet P l.toArray (fun w' => ∃ z : Over w, w' = z.w) (fun a' => ∀ z : Over w, wpList P l.toArray Q (l.drop n) a' z.w) (l.take n) a) : (Code.region id l.toArray true).wp P Q a w := by
  refine region_class_tail (C := fun w' => ∃ z : Over w, w' = z.w) n ⟨⟨w.drew, (Grew.refl w).drew1⟩, rfl⟩ hm hB ?_
  have e : (fun a' => ∀ w', (∃ z : Over w, w' = z.w) → wpList P l.toArray Q (l.drop n) a' w') = fun a' => ∀ z : Over w, wpList P l.toArray Q (l.drop n) a' z.w := by
    funext a'
    exact propext ⟨fun h z => h _ ⟨z, rfl⟩, fun h _ ⟨z, hz⟩ => hz ▸ h z⟩
  rw [e]
  exact h

theorem region_over {P : Program} {id : Nat} {Q : Exit → Act → World → Prop} {a : Act} {w : World} {l : List Oper} (hm : P.follows .mixedOrders = true) (hB : Region.lexB .any l.toArray = true)
    (h : wpQuiet P l.toArray (fun w' => ∃ z : Over w, w' = z.w) (fun a' => ∀ z : Over w, Q .normal a' z.w) l a) : (Code.region id l.toArray true).wp P Q a w := by
  refine wp_region_quiet (C := fun w' => ∃ z : Over w, w' = z.w) hm hB ⟨⟨w.drew, (Grew.refl w).drew1⟩, rfl⟩ ?_
  have e : (fun a' => ∀ w', (∃ z : Over w, w' = z.w) → Q .normal a' w') = fun a' => ∀ z : Over w, Q .normal a' z.w := by
    funext a'
    exact propext ⟨fun h z => h _ ⟨z, rfl⟩, fun h _ ⟨z, hz⟩ => hz ▸ h z⟩
  rw [e]
  simpa using h
end Go.Proofs.Ytolmfcfpcdkaaaa
