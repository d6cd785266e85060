/-
  'Whatever reads as bytes reads so on' (BufsKept): for stores into boxes that hold no bytes; numbers' bounds. For every later stage with structs in memory.
-/
import Derived.Test.YtnafdgpkofffaaaDoorBuf
import Derived.Test.YtnafdgpkofffaaaDoorRowSet
import Derived.Test.YtnafdgpkofffaaaDoorTrn
import Derived.Laws.Rows
import Derived.Laws.Tables
import Derived.Deep.WholeRow
import Derived.Great.BuildSlice
set_option maxRecDepth 4000
set_option linter.unusedVariables false
set_option linter.unusedSimpArgs false
namespace Go.Proofs.YtnafdgpkofffaaaDoor
open Go.RowKit

def intI (x : Int) : Prop := -9223372036854775808 ≤ x ∧ x ≤ 9223372036854775807
def u32I (x : Int) : Prop := 0 ≤ x ∧ x < 4294967296
def u8I (x : Int) : Prop := 0 ≤ x ∧ x < 256
def u16I (x : Int) : Prop := 0 ≤ x ∧ x < 65536
def u64I (x : Int) : Prop := 0 ≤ x ∧ x < 18446744073709551616
/-- Whatever reads as bytes reads so on. -/
def BufsKept (w w' : World) : Prop := ∀ v ys, Buf w v ys → Buf w' v ys
theorem BufsKept.refl (w : World) : BufsKept w w := fun _ _ h => h
theorem BufsKept.trans {a b c : World} (h1 : BufsKept a b) (h2 : BufsKept b c) : BufsKept a c := fun v ys h => h2 v ys (h1 v ys h)
theorem BufsKept.drew {w w' : World} (h : BufsKept w w') : BufsKept w w'.drew := fun v xs hb => (h v xs hb).drew
theorem BufsKept.ofGrew {w w' : World} (g : Grew w w') : BufsKept w w' := fun _ _ h => h.grew g
def noU8 (cs : Array Value) : Bool := cs.toList.all fun v => match v with | .int .u8 _ => false | _ => true
theorem noU8_at {cs : Array Value} (h : noU8 cs = true) (k : Nat) (x : Int) : cs[k]? ≠ some (.int .u8 x) := by
  intro e
  have := List.all_eq_true.1 h (.int .u8 x) (Array.mem_toList_iff.2 (Array.mem_of_getElem? e))
  cases this
/-- A store into a box that holds no bytes: no bytes turn. -/
theorem BufsKept.box {w : World} {X o : Nat} {cs : Array Value} {T : TypeId} (hX : Blk w X cs T) (hc : noU8 cs = true) (u : Value) : BufsKept w (w.setCell ⟨X, o, none⟩ u) := fun v xs h => by
  obtain ⟨a', c', rfl, hc', ha⟩ := h.shape
  refine ⟨⟨a', c', rfl, hc', fun hx => ?_⟩, h.ok, h.len⟩
  obtain ⟨b, off, rfl, hb⟩ := ha hx
  refine ⟨b, off, rfl, fun i hi => ?_⟩
  have h1 := hb i hi
  by_cases he : b = X
  · subst he
    rw [hX.cell] at h1
    exact absurd h1 (noU8_at hc _ _)
  · rw [← h1]
    exact World.cell?_of_block (Below.heap_setCell w ⟨X, o, none⟩ u b he)
/-- A store elsewhere: a cell stays. -/
theorem cell_else {w : World} {R G o p : Nat} {v u : Value} (h : w.cell? ⟨G, p, none⟩ = some u) (hne : G ≠ R) : (w.setCell ⟨R, o, none⟩ v).cell? ⟨G, p, none⟩ = some u := by
  rw [World.cell?_of_block (Below.heap_setCell w ⟨R, o, none⟩ v G hne)]; exact h
theorem cell_drew {w : World} {p : Addr} {u : Value} (h : w.cell? p = some u) : w.drew.cell? p = some u := h
theorem bytes_lit {xs : List Int} (h : (xs.all fun x => decide (0 ≤ x) && decide (x < 256)) = true) : AreBytes xs := fun x hx => by
  have := List.all_eq_true.1 h x hx
  simpa using this
theorem AreBytes.app {xs ys : List Int} (h1 : AreBytes xs) (h2 : AreBytes ys) : AreBytes (xs ++ ys) := fun x hx => by
  rcases List.mem_append.1 hx with hx | hx
  · exact h1 x hx
  · exact h2 x hx
/-- A whole store into an old box that holds no bytes: the world behind it is opaque. -/
theorem wpList_store_any {P : Program} {ops : Array Oper} {rest : List Oper} {o : Oper} {a : Act} {w : World} {Q : Exit → Act → World → Prop} (hgd : o.guard = none) (ty : TypeId) (x y : Operand) (ho : o.op = .store ty x y) (hd : o.dst = none)
    {g : Nat} {new old : Array Value} {T : TypeId} (k : Blk w g old T) (hi : (P.info? ty).map (·.size) = some new.size) (hold : old.size = new.size) (h1 : new.all (·.oneCell') = true) (hn : noU8 old = true)
    (hx : a.eval x = .pointer (some ⟨g, 0, none⟩)) (hy : a.eval y = .agg new)
    (h : ∀ w', Blk w' g new T → Trn g w w' → BufsKept w w' → wpList P ops Q rest a w') : wpList P ops Q (o :: rest) a w :=
  wpList_store_rowTo hgd ty x y ho hd g new hx hy T old k hi hold h1
    (h _ (setRow_heap w g _ new T _ k) ⟨rfl, rfl, rfl, by simp [World.setRow], fun b _ hb => setRow_other w g b new hb⟩ (fun v xs hb => by
      obtain ⟨a', c', rfl, hc', ha⟩ := hb.shape
      refine ⟨⟨a', c', rfl, hc', fun hx => ?_⟩, hb.ok, hb.len⟩
      obtain ⟨b, off, rfl, hb'⟩ := ha hx
      refine ⟨b, off, rfl, fun i hi => ?_⟩
      have h1 := hb' i hi
      by_cases he : b = g
      · subst he
        rw [k.cell] at h1
        exact absurd h1 (noU8_at hn _ _)
      · rw [← h1]
        exact World.cell?_of_block (setRow_other w g b new he)))
/-- The same as a step of a region that is walked by hand (tools/gen/held.py). -/
theorem step_store_any {P : Program} {ops : Array Oper} {S : Array Value} {o : Oper} {a : Act} {w : World} {K : Act → World → Prop} {Q : Exit → Act → World → Prop} {E : Prop} (hgd : o.guard = none) (ty : TypeId) (x y : Operand) (ho : o.op = .store ty x y) (hd : o.dst = none)
    {g : Nat} {new old : Array Value} {T : TypeId} (k : Blk w g old T) (hi : (P.info? ty).map (·.size) = some new.size) (hold : old.size = new.size) (h1 : new.all (·.oneCell') = true)
    (hx : a.eval x = .pointer (some ⟨g, 0, none⟩)) (hy : a.eval y = .agg new)
    (h : ∀ w', Blk w' g new T → Trn g w w' → K a w') : if Region.wanted o (yielded ops S) = true then Oper.wp P o a w K Q else E := by
  have hw : Region.wanted o (yielded ops S) = true := by simp [Region.wanted, hgd]
  rw [if_pos hw]
  refine wp_store_row ty x y ho g new hx hy T old k hi hold h1 ?_
  rw [hd]
  exact h _ (setRow_heap w g _ new T _ k) ⟨rfl, rfl, rfl, by simp [World.setRow], fun b _ hb => setRow_other w g b new hb⟩
/-- A whole load of a box. -/
theorem wpList_load_any {P : Program} {ops : Array Oper} {rest : List Oper} {o : Oper} {a : Act} {w : World} {Q : Exit → Act → World → Prop} (hgd : o.guard = none) (ty : TypeId) (x : Operand) (ho : o.op = .load ty x)
    {g : Nat} {cs : Array Value} {T : TypeId} {d : TypeDesc} (k : Blk w g cs T) (hu : P.underlying ty = some d) (hd : (match d with | .struct _ | .array _ _ => true | _ => false) = true) (hi : (P.info? ty).map (·.size) = some cs.size)
    (hx : a.eval x = .pointer (some ⟨g, 0, none⟩)) (h : wpList P ops Q rest (a.put o.dst (.agg cs)) w) : wpList P ops Q (o :: rest) a w :=
  wpList_load_row hgd ty x ho g hx T cs (0, 0) d k hu hd hi h
end Go.Proofs.YtnafdgpkofffaaaDoor
