/-
  A struct that lies inside another one: loaded whole from its place in the block, stored whole into it.
-/
import Derived.Test.YtoehdhhodidehaaRows
import Derived.Test.YtoehdhhodidehaaGrew
import Derived.Test.YtoehdhhodidehaaBuf
import Derived.WalkKit
import Derived.Deep.WholeRow
import Derived.Great.BuildSlice
import Derived.BigFrame
import Derived.BigQuiet
set_option maxRecDepth 4000
set_option linter.unusedVariables false
set_option linter.unusedSimpArgs false
namespace Go.Proofs.Ytoehdhhodidehaa
open Go

section
variable {P : Program}
theorem add_at (g o j : Nat) : (⟨g, o, none⟩ : Addr).add j = ⟨g, o + j, none⟩ := by
  unfold Addr.add
  split <;> simp_all
theorem run_loadVar_part (w : World) (g o : Nat) (t ty : TypeId) (cs part : Array Value) (fr : Nat × Nat) (d : TypeDesc) (hg : w.heap[g]? = some (.cells cs t fr))
    (hu : P.underlying ty = some d) (hd : (match d with | .struct _ | .array _ _ => true | _ => false) = true) (hi : (P.info? ty).map (·.size) = some part.size)
    (hp : (cs.toList.drop o).take part.size = part.toList) :
    (loadVar ty ⟨g, o, none⟩).run P w = .ok (.agg part) w := by
  have hl : (loadCells ⟨g, o, none⟩ part.toList.length).run P w = .ok part.toList.toArray w :=
    run_loadCells_list (P := P) w ⟨g, o, none⟩ part.toList (fun j v hv => by
      rw [add_at, cell_of_row w g (o + j) cs t fr hg]
      have h2 : ((cs.toList.drop o).take part.size)[j]? = some v := by rw [hp]; exact hv
      rw [List.getElem?_take] at h2
      split at h2
      · rw [List.getElem?_drop] at h2
        simpa using h2
      · cases h2)
  cases hq : P.info? ty with
  | none => simp [hq] at hi
  | some i =>
    have hs : i.size = part.size := by simpa [hq] using hi
    have hagg : (isAgg ty).run P w = .ok true w := by
      unfold isAgg
      rw [Sem.run_bind, run_underlying hu w]
      cases d <;> simp_all
    simp only [Array.length_toList, Array.toArray_toList] at hl
    simp [loadVar, Sem.run_bind, hagg, sizeOf, typeInfo, hq, hs, hl]

theorem run_storeCells_at (g o : Nat) (t : TypeId) : ∀ (vs : List Value) (i : Nat) (cur : Array Value) (w : World), w.heap[g]? = some (.cells cur t (0, 0)) → o + i + vs.length ≤ cur.size → (∀ v ∈ vs, v.oneCell' = true) →
    (storeCells ⟨g, o, none⟩ vs i).run P w = .ok () (w.setRow g (cur.toList.take (o + i) ++ (vs ++ cur.toList.drop (o + i + vs.length))).toArray)
  | [], i, cur, w, hg, hl, _ => by
    have hcur : (cur.toList.take (o + i) ++ ([] ++ cur.toList.drop (o + i + ([] : List Value).length))).toArray = cur := by simp
    rw [hcur]
    have hlt : g < w.heap.size := (Array.getElem?_eq_some_iff.1 hg).1
    have hv : w.heap[g] = .cells cur t (0, 0) := (Array.getElem?_eq_some_iff.1 hg).2
    simp only [storeCells]
    show Result.ok () w = _
    congr 1
    unfold World.setRow
    cases w with
    | mk heap tape drawn os output =>
      congr 1
      apply Array.ext
      · simp
      · intro k h1 h2
        simp only [Array.getElem_modify]
        split
        · rename_i hk; subst hk; simp at hv; simp [hv]
        · rfl
  | v :: rest, i, cur, w, hg, hl, h1 => by
    have hi : o + i < cur.size := by simp at hl; omega
    have hadd : (⟨g, o, none⟩ : Addr).add i = ⟨g, o + i, none⟩ := add_at g o i
    have hcell : w.cell? ⟨g, o + i, none⟩ = some cur[o + i] := by simp [World.cell?, hg, hi]
    have hfro : w.frozen? ⟨g, o + i, none⟩ = false := by simp [World.frozen?, hg]
    have hst : (store ((⟨g, o, none⟩ : Addr).add i) v).run P w = .ok () (w.setRow g (cur.setIfInBounds (o + i) v)) := by
      rw [hadd, run_store P w _ v _ (h1 v (by simp)), hcell]
      simp [hfro, setCell_eq_setRow w g (o + i) cur t (0, 0) v hg]
    have ih := run_storeCells_at g o t rest (i + 1) (cur.setIfInBounds (o + i) v) (w.setRow g (cur.setIfInBounds (o + i) v)) (setRow_heap w g cur _ t _ hg) (by simp at hl ⊢; omega) (fun x hx => h1 x (by simp [hx]))
    simp only [storeCells, Sem.run_bind, hst, Result.andThen_ok, ih, setRow_setRow]
    congr 3
    apply List.ext_getElem?
    intro k
    have hl' : o + i + (rest.length + 1) ≤ cur.size := by simpa using hl
    simp only [Array.toList_setIfInBounds, List.getElem?_append, List.length_take, List.length_set, Array.length_toList, List.getElem?_take, List.getElem?_drop, List.length_cons, List.getElem?_set]
    have e1 : min (o + (i + 1)) cur.size = o + i + 1 := by omega
    have e2 : min (o + i) cur.size = o + i := by omega
    rw [e1, e2]
    by_cases hk : k < o + i
    · simp [hk, show k < o + i + 1 by omega, show k < o + (i + 1) by omega, show o + i ≠ k by omega]
    · by_cases hk2 : k = o + i
      · subst hk2
        simp [hi, show o + i < o + (i + 1) by omega]
      · have h3 : ¬ k < o + i + 1 := by omega
        have h4 : k - (o + i) = (k - (o + i + 1)) + 1 := by omega
        simp only [hk, h3, if_false, h4, List.getElem?_cons_succ, Nat.add_lt_add_iff_right]
        by_cases h5 : k - (o + i + 1) < rest.length
        · have h6 : k - (o + i + 1) + 1 < rest.length + 1 := by omega
          simp [h5]
        · have h6 : ¬ k - (o + i + 1) + 1 < rest.length + 1 := by omega
          have h7 : o + i ≠ o + (i + 1) + rest.length + (k - (o + i + 1) - rest.length) := by omega
          have h8 : o + (i + 1) + rest.length + (k - (o + i + 1) - rest.length) = o + i + (rest.length + 1) + (k - (o + i + 1) + 1 - (rest.length + 1)) := by omega
          simp only [h5, if_false, h7]
          simp [h8, List.getElem?_cons, h5]
          try omega
theorem run_storeVar_part (w : World) (g o : Nat) (t ty : TypeId) (old part new : Array Value) (hg : w.heap[g]? = some (.cells old t (0, 0))) (hi : (P.info? ty).map (·.size) = some part.size)
    (hin : o + part.size ≤ old.size) (h1 : part.all (·.oneCell') = true) (hn : old.toList.take o ++ (part.toList ++ old.toList.drop (o + part.size)) = new.toList) :
    (storeVar ty ⟨g, o, none⟩ (.agg part)).run P w = .ok () (w.setRow g new) := by
  have := run_storeCells_at (P := P) g o t part.toList 0 old w hg (by simpa using hin) (fun v hv => (Array.all_eq_true_iff_forall_mem.1 h1) v (by simpa using hv))
  have hn2 : (old.toList.take (o + 0) ++ (part.toList ++ old.toList.drop (o + 0 + part.toList.length))).toArray = new := by
    rw [← Array.toArray_toList (xs := new), ← hn]
    simp
  rw [hn2] at this
  cases hq : P.info? ty with
  | none => simp [hq] at hi
  | some i =>
    have hs : part.size = i.size := by simp [hq] at hi; omega
    simp [storeVar, sizeOf, typeInfo, hq, Value.cells, hs, this]

/-- A field's address. -/
theorem wp_fieldAt {o : Oper} {a : Act} {w : World} {K : Act → World → Prop} {Q : Exit → Act → World → Prop} (S : TypeId) (x : Operand) (f : Nat) (ho : o.op = .fieldAddr S x f) (d' : Option Tmp) (hd' : o.dst = d') (u v : Value) (hx : a.eval x = u)
    (hrun : (Instr.fieldAt S u f).run P w = .ok v w) (h : K (a.put d' v) w) : o.wp P a w K Q := by
  subst hd'
  unfold Oper.wp execOp
  simp only [ho, hx, Sem.run_bind, Sem.run_pure, Result.andThen_ok, hrun]
  exact h
theorem wpList_fieldAt {ops : Array Oper} {rest : List Oper} {o : Oper} {a : Act} {w : World} {Q : Exit → Act → World → Prop} (hgd : o.guard = none) (S : TypeId) (x : Operand) (f : Nat) (ho : o.op = .fieldAddr S x f) (d' : Option Tmp) (hd' : o.dst = d') (u v : Value) (hx : a.eval x = u)
    (hrun : (Instr.fieldAt S u f).run P w = .ok v w) (h : wpList P ops Q rest (a.put d' v) w) : wpList P ops Q (o :: rest) a w :=
  wpList_plain hgd fun _ hK => wp_fieldAt S x f ho d' hd' u v hx hrun (hK _ _ h)
/-- A struct inside another one, loaded whole. -/
theorem wp_load_part {o : Oper} {a : Act} {w : World} {K : Act → World → Prop} {Q : Exit → Act → World → Prop} (ty : TypeId) (x : Operand) (ho : o.op = .load ty x) (d' : Option Tmp) (hd' : o.dst = d') {g p : Nat} {cs : Array Value} {T : TypeId} (k : Blk w g cs T) (part : Array Value)
    (hx : a.eval x = .pointer (some ⟨g, p, none⟩)) (d : TypeDesc) (hu : P.underlying ty = some d) (hd : (match d with | .struct _ | .array _ _ => true | _ => false) = true) (hi : (P.info? ty).map (·.size) = some part.size) (hp : (cs.toList.drop p).take part.size = part.toList)
    (h : K (a.put d' (.agg part)) w) : o.wp P a w K Q := by
  subst hd'
  unfold Oper.wp execOp
  simp only [ho, hx, Instr.loadAt, Instr.sureAddr, Sem.run_bind, Sem.run_pure, Result.andThen_ok, run_loadVar_part w g p T ty cs part (0, 0) d k hu hd hi hp]
  exact h
theorem wpList_load_part {ops : Array Oper} {rest : List Oper} {o : Oper} {a : Act} {w : World} {Q : Exit → Act → World → Prop} (hgd : o.guard = none) (ty : TypeId) (x : Operand) (ho : o.op = .load ty x) (d' : Option Tmp) (hd' : o.dst = d') {g p : Nat} {cs : Array Value} {T : TypeId} (k : Blk w g cs T) (part : Array Value)
    (hx : a.eval x = .pointer (some ⟨g, p, none⟩)) (d : TypeDesc) (hu : P.underlying ty = some d) (hd : (match d with | .struct _ | .array _ _ => true | _ => false) = true) (hi : (P.info? ty).map (·.size) = some part.size) (hp : (cs.toList.drop p).take part.size = part.toList)
    (h : wpList P ops Q rest (a.put d' (.agg part)) w) : wpList P ops Q (o :: rest) a w :=
  wpList_plain hgd fun _ hK => wp_load_part ty x ho d' hd' k part hx d hu hd hi hp (hK _ _ h)
theorem run_load_part {o : Oper} {a : Act} {w : World} (ty : TypeId) (x : Operand) (ho : o.op = .load ty x) {g p : Nat} {cs : Array Value} {T : TypeId} (k : Blk w g cs T) (part : Array Value)
    (hx : a.eval x = .pointer (some ⟨g, p, none⟩)) (d : TypeDesc) (hu : P.underlying ty = some d) (hd : (match d with | .struct _ | .array _ _ => true | _ => false) = true) (hi : (P.info? ty).map (·.size) = some part.size) (hp : (cs.toList.drop p).take part.size = part.toList) :
    (execOp a.eval o).run P w = .ok (.value (.agg part)) w := by
  unfold execOp
  simp [ho, hx, Instr.loadAt, Instr.sureAddr, run_loadVar_part w g p T ty cs part (0, 0) d k hu hd hi hp, Sem.run_bind, Sem.run_pure, Result.andThen_ok]
/-- A struct (or one inside another), loaded whole in a quiet walk. -/
theorem wpQuiet_load_part {ops : Array Oper} {C : World → Prop} {Q : Act → Prop} {rest : List Oper} {o : Oper} {a : Act} (hw : Region.wanted o (yielded ops a.tmps) = true) (ty : TypeId) (x : Operand) (ho : o.op = .load ty x) (d' : Option Tmp) (hd' : o.dst = d') {g p : Nat} {cs : Array Value} {T : TypeId} (k : ∀ w, C w → Blk w g cs T) (part : Array Value)
    (hx : a.eval x = .pointer (some ⟨g, p, none⟩)) (d : TypeDesc) (hu : P.underlying ty = some d) (hd : (match d with | .struct _ | .array _ _ => true | _ => false) = true) (hi : (P.info? ty).map (·.size) = some part.size) (hp : (cs.toList.drop p).take part.size = part.toList)
    (h : wpQuiet P ops C Q rest (a.put d' (.agg part))) : wpQuiet P ops C Q (o :: rest) a := by
  subst hd'
  refine BigFrame.wpQuiet_want hw fun K hK => ⟨.agg part, fun w hC => ?_, hK _ h⟩
  unfold Oper.quietAt
  rw [run_load_part ty x ho (k w hC) part hx d hu hd hi hp]
  exact ⟨rfl, rfl⟩
/-- A struct stored whole into its place in another one: an opaque world behind it. -/
theorem wp_store_part {o : Oper} {a : Act} {w : World} {K : Act → World → Prop} {Q : Exit → Act → World → Prop} (ty : TypeId) (x y : Operand) (ho : o.op = .store ty x y) (hd : o.dst = none) {g p : Nat} {old : Array Value} {T : TypeId} (k : Blk w g old T) (part new : Array Value)
    (hx : a.eval x = .pointer (some ⟨g, p, none⟩)) (hy : a.eval y = .agg part) (hi : (P.info? ty).map (·.size) = some part.size) (hin : p + part.size ≤ old.size) (h1 : part.all (·.oneCell') = true) (hn : old.toList.take p ++ (part.toList ++ old.toList.drop (p + part.size)) = new.toList)
    (h : ∀ w', Blk w' g new T → Only w w' g → K a w') : o.wp P a w K Q := by
  unfold Oper.wp execOp
  simp only [ho, hx, hy, Instr.storeAt, Instr.sureAddr, Sem.run_bind, Sem.run_pure, Result.andThen_ok, run_storeVar_part w g p T ty old part new k hi hin h1 hn]
  have e : a.put o.dst undef = a := by rw [hd]; rfl
  have hK : K (a.put o.dst undef) (w.setRow g new) := by rw [e]; exact h _ (setRow_heap w g old new T (0, 0) k) (Only.setRow _ _ _)
  exact hK
theorem wpList_store_part {ops : Array Oper} {rest : List Oper} {o : Oper} {a : Act} {w : World} {Q : Exit → Act → World → Prop} (hgd : o.guard = none) (ty : TypeId) (x y : Operand) (ho : o.op = .store ty x y) (hd : o.dst = none) {g p : Nat} {old : Array Value} {T : TypeId} (k : Blk w g old T) (part new : Array Value)
    (hx : a.eval x = .pointer (some ⟨g, p, none⟩)) (hy : a.eval y = .agg part) (hi : (P.info? ty).map (·.size) = some part.size) (hin : p + part.size ≤ old.size) (h1 : part.all (·.oneCell') = true) (hn : old.toList.take p ++ (part.toList ++ old.toList.drop (p + part.size)) = new.toList)
    (h : ∀ w', Blk w' g new T → Only w w' g → wpList P ops Q rest a w') : wpList P ops Q (o :: rest) a w :=
  wpList_plain hgd fun _ hK => wp_store_part ty x y ho hd k part new hx hy hi hin h1 hn fun w' k' o' => hK _ _ (h w' k' o')
end
end Go.Proofs.Ytoehdhhodidehaa
