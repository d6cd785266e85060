/-
  A row of the call's own: single bytes set, bytes set one by one, clear. For every later stage that writes into bytes of its own.
-/
import Derived.Test.YtnafdgpkofffaaaDoorBuf
import Derived.Lib.SliceRun
import Derived.WalkKit
set_option maxRecDepth 4000
set_option linter.unusedVariables false
set_option linter.unusedSimpArgs false
namespace Go.Proofs.YtnafdgpkofffaaaDoor
open Go.RowKit

theorem Row.size {w : World} {base g n c : Nat} {xs : List Int} (h : Row w base (.slice (some ⟨g, 0, none⟩) n c) xs) : n = xs.length ∧ base ≤ g ∧ g < w.heap.size := by
  rcases h.2 with ⟨h', _⟩ | ⟨g', cap', cur, h', hb, hg, _⟩
  · simp at h'
  · simp only [Value.slice.injEq, Option.some.injEq, Addr.mk.injEq, and_true, true_and] at h'
    obtain ⟨rfl, rfl, rfl⟩ := h'
    exact ⟨rfl, hb, lt_of_block hg⟩
theorem Row.cellAt {w : World} {base g n c : Nat} {xs : List Int} (h : Row w base (.slice (some ⟨g, 0, none⟩) n c) xs) (j : Nat) (hj : j < xs.length) : w.cell? ⟨g, j, none⟩ = some (.int .u8 (xs.getD j 0)) := by
  obtain ⟨rfl, _, _⟩ := h.size
  have := World.ownsRow.cellAt h j (by omega)
  rw [this]
  simp [hj]
theorem Row.freeAt {w : World} {base g n c : Nat} {xs : List Int} (h : Row w base (.slice (some ⟨g, 0, none⟩) n c) xs) (j : Nat) : w.frozen? ⟨g, j, none⟩ = false := by
  obtain ⟨rfl, _, _⟩ := h.size
  exact World.ownsRow.frozenAt h j
theorem Only.setCell (w : World) (g o : Nat) (v : Value) : Only w (w.setCell ⟨g, o, none⟩ v) g := ⟨rfl, rfl, rfl, by simp, fun k hk => Below.heap_setCell w ⟨g, o, none⟩ v k hk⟩
theorem Only.trans {a b c : World} {g : Nat} (h1 : Only a b g) (h2 : Only b c g) : Only a c g := ⟨h2.os.trans h1.os, h2.tape.trans h1.tape, h2.output.trans h1.output, h2.size.trans h1.size, fun k hk => (h2.block k hk).trans (h1.block k hk)⟩
theorem Row.setCell {w : World} {base g n c : Nat} {xs : List Int} (h : Row w base (.slice (some ⟨g, 0, none⟩) n c) xs) (j : Nat) (y : Int) : Row (w.setCell ⟨g, j, none⟩ (.int .u8 y)) base (.slice (some ⟨g, 0, none⟩) n c) (xs.set j y) := by
  obtain ⟨rfl, _, _⟩ := h.size
  have := (World.ownsRow.stored h j (.int .u8 y)).1
  rw [← List.map_set] at this
  unfold Row
  rw [List.length_set]
  exact this
theorem lay_cons (xs ys : List Int) (y : Int) (k : Nat) (h : k < xs.length) : lay (xs.set k y) (k + 1) ys = lay xs k (y :: ys) := by
  unfold lay
  rw [List.drop_set, List.take_set]
  rw [if_pos (by omega), show k + 1 + ys.length = k + (y :: ys).length by simp; omega]
  rw [List.take_add_one, List.getElem?_eq_getElem h, List.set_append, if_neg (by rw [List.length_take]; omega)]
  simp [Nat.min_eq_left (Nat.le_of_lt h)]
theorem Row.setCells {base g n c : Nat} : ∀ (ys : List Int) (k : Nat) (w : World) (xs : List Int), Row w base (.slice (some ⟨g, 0, none⟩) n c) xs → k + ys.length ≤ xs.length →
    Row (w.setCells g k (ys.map (Value.int .u8))) base (.slice (some ⟨g, 0, none⟩) n c) (lay xs k ys) ∧ Only w (w.setCells g k (ys.map (Value.int .u8))) g
  | [], k, w, xs, h, _ => ⟨by rw [lay_nil]; exact h, Only.refl w g⟩
  | y :: ys, k, w, xs, h, hk => by
    have hk' : k + ys.length + 1 ≤ xs.length := by simp at hk; omega
    have h1 := h.setCell k y
    obtain ⟨h2, h3⟩ := Row.setCells ys (k + 1) _ _ h1 (by rw [List.length_set]; omega)
    rw [lay_cons xs ys y k (by omega)] at h2
    exact ⟨h2, (Only.setCell w g k _).trans h3⟩

/-- clear(dst), dst a cut of a row of the call's own. -/
theorem wpList_clear_b {ops : Array Oper} {rest : List Oper} {o : Oper} {a : Act} {w W : World} {Q : Exit → Act → World → Prop} (hgd : o.guard = none) (d : Operand)
    (ho : o.op = .call { callee := .builtin .clear, args := #[d], argTypes := #[22] }) (hgr : Grew W w)
    {g n c : Nat} {cur : List Int} (hrow : Row w W.heap.size (.slice (some ⟨g, 0, none⟩) n c) cur) (off m dCap : Nat) (hd : a.eval d = .slice (some ⟨g, off, none⟩) m dCap) (h0 : 0 < m) (hfit : off + m ≤ cur.length)
    (h : ∀ w', Hid (Row w' W.heap.size (.slice (some ⟨g, 0, none⟩) n c) (lay cur off (List.replicate m 0))) → Grew W w' → Only w w' g → wpList Tryd.prog ops Q rest (a.put o.dst (.tuple #[])) w') :
    wpList Tryd.prog ops Q (o :: rest) a w := by
  obtain ⟨i0, hi, hz0, hz1, hz2⟩ := info_parts u8_info
  have hrun := Lib.run_clear_slice (P := Tryd.prog) w 22 5 o.type (.int .u8 0) Tryd.underlying22 (fun w => by simp [zeroValue, typeInfo, hi, hz0]) rfl rfl g off m dCap h0
    (fun j hj => by rw [hrow.cellAt (off + j) (by omega)]; rfl) (fun j _ => hrow.freeAt (off + j))
  refine wpList_plain hgd fun K hK => ?_
  unfold Oper.wp execOp
  simp only [ho, resolve, invoke, builtin, Sem.run_bind, Sem.run_pure, Result.andThen_ok, List.map_toArray, List.map_cons, List.map_nil, hd, hrun]
  obtain ⟨h1, h2⟩ := Row.setCells (List.replicate m 0) off w cur hrow (by simpa using hfit)
  rw [List.map_replicate] at h1 h2
  exact hK _ _ (h _ h1 (h2.grew hgr hrow.size.2.1) h2)
end Go.Proofs.YtnafdgpkofffaaaDoor
