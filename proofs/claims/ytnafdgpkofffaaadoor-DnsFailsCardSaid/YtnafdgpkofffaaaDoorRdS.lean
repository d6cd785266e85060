/-
  Rows of data in drawn regions: append as a step, literals, rows of numbers alone. For every later stage with rows of structs.
-/
import Derived.Test.YtnafdgpkofffaaaDoorRdO
set_option maxRecDepth 4000
set_option linter.unusedVariables false
set_option linter.unusedSimpArgs false
namespace Go.Proofs.YtnafdgpkofffaaaDoor
open Go Go.RowKit

theorem Grew.by' {W w w' : World} {o : Option Nat} (g : Grew W w) (h : w.grownBy w' o) (ho : ∀ b, o = some b → W.heap.size ≤ b) : Grew W w' :=
  Below.trans (B := W.heap.size) g ⟨h.os, h.tape, h.output, h.size, fun k hk => h.block k (Nat.lt_of_lt_of_le hk g.size) fun e => by have := ho k e.symm; omega⟩
/-- Numbers alone: they read alike everywhere. -/
def Ints (ds : List Dc) : Prop := ∀ d ∈ ds, ∃ k x, d = .int k x
theorem RdL.ints {w w' : World} {av av' : Nat → Prop} {ds : List Dc} {us : List Value} (h : RdL w av ds us) (hi : Ints ds) : RdL w' av' ds us := by
  refine ⟨h.1, fun j d u hd hu => ?_⟩
  obtain ⟨k, x, rfl⟩ := hi d (List.mem_of_getElem? hd)
  have := h.2 j _ u hd hu
  cases this
  exact .int k x
theorem OwnD.ints {T : TypeId} {w : World} {av av' : Nat → Prop} {base sz : Nat} {v : Value} {xs : List (List Dc)} (h : OwnD T w av base v sz xs) (hi : Ints xs.flatten) : OwnD T w av' base v sz xs := by
  obtain ⟨cells, hc, hr⟩ := h.own
  exact ⟨⟨cells, hc, hr.ints hi⟩, h.wid⟩
theorem SrcD.ints {w : World} {av av' : Nat → Prop} {sz : Nat} {ys : List (List Dc)} {a : Option Addr} (h : SrcD w av sz ys a) (hi : Ints ys.flatten) : SrcD w av' sz ys a := by
  obtain ⟨hw, us, hr, hx⟩ := h
  exact ⟨hw, us, hr.ints hi, hx⟩
/-- A literal: a row of the call's own. -/
theorem OwnD.lit {T : TypeId} {w : World} {av : Nat → Prop} {base sz g : Nat} {cs : Array Value} {xs : List (List Dc)} (hB : Blk w g cs T) (hb : base ≤ g) (hr : RdL w (fun k => av k ∨ k = g) xs.flatten cs.toList) (hw : ∀ e ∈ xs, e.length = sz) (hm : xs.length ≤ maxLen) : OwnD T w av base (.slice (some ⟨g, 0, none⟩) xs.length xs.length) sz xs := by
  have hl : cs.toList.length = xs.length * sz := by rw [hr.1, flat_len hw]
  refine ⟨⟨cs.toList, ⟨hl, .inr ⟨g, xs.length, cs, rfl, hb, hB, Nat.le_refl _, hm, by simpa using hl, ?_⟩⟩, ?_⟩, hw⟩
  · rw [List.take_of_length_le (by omega)]
  · exact hr.map fun d u hd => hd.mono fun k _ hk => hk.imp id fun e => by simpa [Value.ownBlock] using e.symm
theorem OwnD.grew' {T : TypeId} {W w w' : World} {av : Nat → Prop} {base sz : Nat} {v : Value} {xs : List (List Dc)} (h : OwnD T w av base v sz xs) (g : Grew w w') : OwnD T w' av base v sz xs := h.grew g
/-- A block that the row does not lie in. -/
theorem Blk.by' {w w' : World} {o : Option Nat} {b : Nat} {cs : Array Value} {T : TypeId} (h : Blk w b cs T) (g : w.grownBy w' o) (hn : o ≠ some b) : Blk w' b cs T := by
  have hl := h.lt
  unfold Blk at *
  rw [g.block b hl hn.symm]
  exact h
/-- append(s, x...), as a step of a walk: s the call's own since W, elements of numbers alone. -/
theorem step_append_D {P : Program} {SL T : TypeId} {sz nb : Nat} (R : RowT P SL T sz nb) {ops : Array Oper} {TT : Array Value} {o : Oper} {a : Act} {w W : World} {K : Act → World → Prop} {Q : Exit → Act → World → Prop} {E : Prop} (hgd : o.guard = none) (s x : Operand)
    (ho : o.op = .call { callee := .builtin .append, args := #[s, x], argTypes := #[SL, SL] }) (hgr : Grew W w) {v : Value} {xs ys : List (List Dc)} {ad : Option Addr} {n c : Nat} (h : OwnD T w noAv W.heap.size v sz xs) (hs : SrcD w (fun _ => True) sz ys ad)
    (hn : n = ys.length) (hlen : (xs.length + ys.length) * nb ≤ 140737488355328) (hmax : xs.length + ys.length ≤ maxLen) (he : a.eval s = v) (hx : a.eval x = .slice ad n c)
    (hK : ∀ v' w', Hid (OwnD T w' noAv W.heap.size v' sz (xs ++ ys)) → Grew W w' → w.grownBy w' v.ownBlock → K (a.put o.dst v') w') : if Region.wanted o (yielded ops TT) = true then Oper.wp P o a w K Q else E := by
  have hw : Region.wanted o (yielded ops TT) = true := by simp [Region.wanted, hgd]
  rw [if_pos hw]
  subst hn
  exact wp_append_D R s x ho h hs (fun _ _ _ => trivial) hgr.size hlen hmax he hx fun v' w' h1 h2 _ => hK v' w' h1 (hgr.by' h2 fun b e => (h.ge b e).1) h2
/-- The same, where the walk stands at a list of operations. -/
theorem list_append_D {P : Program} {SL T : TypeId} {sz nb : Nat} (R : RowT P SL T sz nb) {ops : Array Oper} {rest : List Oper} {o : Oper} {a : Act} {w W : World} {Q : Exit → Act → World → Prop} (hgd : o.guard = none) (s x : Operand)
    (ho : o.op = .call { callee := .builtin .append, args := #[s, x], argTypes := #[SL, SL] }) (hgr : Grew W w) {v : Value} {xs ys : List (List Dc)} {ad : Option Addr} {n c : Nat} (h : OwnD T w noAv W.heap.size v sz xs) (hs : SrcD w (fun _ => True) sz ys ad)
    (hn : n = ys.length) (hlen : (xs.length + ys.length) * nb ≤ 140737488355328) (hmax : xs.length + ys.length ≤ maxLen) (he : a.eval s = v) (hx : a.eval x = .slice ad n c)
    (hK : ∀ v' w', Hid (OwnD T w' noAv W.heap.size v' sz (xs ++ ys)) → Grew W w' → w.grownBy w' v.ownBlock → wpList P ops Q rest (a.put o.dst v') w') : wpList P ops Q (o :: rest) a w := by
  subst hn
  exact wpList_append_D R hgd s x ho h hs (fun _ _ _ => trivial) hgr.size hlen hmax he hx fun v' w' h1 h2 _ => hK v' w' h1 (hgr.by' h2 fun b e => (h.ge b e).1) h2
end Go.Proofs.YtnafdgpkofffaaaDoor
