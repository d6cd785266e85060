/-
  append(row, make([]byte, n)...) where the row has no room: n noughts behind it, in a new row.
-/
import Derived.Test.YtnafdgpkofffaaaDoorBuf
import Derived.Lib.AppendZeros
set_option maxRecDepth 4000
set_option linter.unusedVariables false
set_option linter.unusedSimpArgs false
namespace Go.Proofs.YtnafdgpkofffaaaDoor
open Go.RowKit

theorem zeroCells_u8 (n : Nat) : (Builtin.zeroCells (Value.int .u8 0).cells n).toList = (List.replicate n (0 : Int)).map (Value.int .u8) := by
  have e1 : (Value.int IntKind.u8 0).cells = #[.int .u8 0] := rfl
  apply List.ext_getElem?
  intro i
  simp only [Builtin.zeroCells, e1, Array.toList_map, Array.toList_range, List.getElem?_map, List.size_toArray, List.length_cons, List.length_nil, Nat.zero_add, Nat.mul_one, List.getElem?_replicate]
  by_cases h : i < n
  · rw [List.getElem?_range h, if_pos h]
    simp [Nat.mod_one]
  · rw [List.getElem?_eq_none (by simp; omega), if_neg h]
    rfl
/-- Without room: a new row. -/
theorem run_zeros_grow {w : World} (b : Addr) (k : Nat) (xs : List Int) (hk : k = xs.length) (hb : ∀ j v, (xs.map (Value.int .u8))[j]? = some v → w.cell? (b.add j) = some v) (n : Nat) (h0 : 0 < n) (hl : k + n ≤ 140737488355328) (ty : TypeId) :
    (Builtin.append_ #[22, 3] ty #[.slice (some b) k k, .int .i64 n]).run Tryd.prog w = .ok (.slice (some ⟨w.heap.size, 0, none⟩) (k + n) (grownCap w (k + n) k 5)) (w.drew.alloc (.cells ((xs.map (Value.int .u8)).toArray ++ Builtin.zeroCells (Value.int .u8 0).cells n ++ Builtin.zeroCells (Value.int .u8 0).cells (grownCap w (k + n) k 5 - (k + n))) 5)) := by
  obtain ⟨i, hi, hz, hz1, hz2⟩ := info_parts u8_info
  have hw : IntKind.i64.wrap (n : Int) = n := by rw [IntKind.wrap_i64]; omega
  have h63' : ¬ (9223372036854775807 < ((k : Int) + (n : Int))) := by omega
  have h48' : ¬ (281474976710656 < Builtin.nextslicecap (k + n) k * i.bytes) := by
    have := growslice_fits (need := k + n) (old := k) (bytes := 1) (by omega) (by omega)
    rw [hz2]; omega
  have h48i : ¬ (281474976710656 < (n : Int) * (i.bytes : Int)) := by rw [hz2]; omega
  have hneg : ¬ ((n : Int) < 0) := by omega
  have hn : ¬ (k + n ≤ k) := by omega
  have hns : ¬ (n * i.size = 0) := by rw [hz1]; omega
  have hn0 : n ≠ 0 := by omega
  have hsz : i.size ≠ 0 := by rw [hz1]; omega
  have hfo := run_firstCells_some (P := Tryd.prog) w.drew i.size k b k k (xs.map (Value.int .u8)) (by rw [hz1]; simp [hk]) (by simpa using hb)
  simp [Builtin.append_, run_underlying Tryd.underlying22, run_underlying Tryd.underlying3, sizeOf, typeInfo, zeroValue, hi, hz, asInt, asIntOf, hw, hneg, hns, hn0, hsz, hn, h63', h48', h48i, Question.forced, hfo, newRow, grownCap]
/-- Behind a row without room. -/
theorem zeros_lit {w W : World} (g : Grew W w) {b k : Nat} {xs : List Int} (hk : k = xs.length) (hown : Row w W.heap.size (.slice (some ⟨b, 0, none⟩) k k) xs) (hb : ∀ j v, (xs.map (Value.int .u8))[j]? = some v → w.cell? ((⟨b, 0, none⟩ : Addr).add j) = some v) (n : Nat) (hl : k + n ≤ 140737488355328) (ty : TypeId) :
    ∃ v' w', (Builtin.append_ #[22, 3] ty #[.slice (some ⟨b, 0, none⟩) k k, .int .i64 n]).run Tryd.prog w = .ok v' w' ∧ Row w' W.heap.size v' (xs ++ List.replicate n 0) ∧ Grew W w' := by
  obtain ⟨i, hi, hz, hz1, hz2⟩ := info_parts u8_info
  by_cases h0 : n = 0
  · subst h0
    refine ⟨_, w, ?_, by rw [List.replicate_zero, List.append_nil]; exact hown, g⟩
    have hw : IntKind.i64.wrap 0 = 0 := by decide
    have h48i : ¬ (281474976710656 < (0 : Int) * (i.bytes : Int)) := by omega
    simp [Builtin.append_, run_underlying Tryd.underlying22, run_underlying Tryd.underlying3, sizeOf, typeInfo, hi, asInt, asIntOf, hw, storeCells]
  · refine ⟨_, _, run_zeros_grow ⟨b, 0, none⟩ k xs hk hb n (by omega) hl ty, ?_, (g.drew1).alloc _⟩
    have hge := grownCap_ge w (k + n) k 5
    have hcm := grownCap_le_maxLen w (k + n) k 5 (by unfold maxLen; omega)
    generalize grownCap w (k + n) k 5 = C at *
    have e1 : (Value.int IntKind.u8 0).cells.size = 1 := rfl
    have hlen : (xs ++ List.replicate n (0 : Int)).length = k + n := by simp [hk]
    unfold Row
    rw [hlen]
    refine ⟨by simp [hk], .inr ⟨w.heap.size, C, _, rfl, g.size, heap_alloc_new w.drew _, hge, hcm, ?_, ?_⟩⟩
    · simp only [Array.size_append, List.size_toArray, size_zeroCells, e1, List.length_map, ← hk]
      omega
    · simp only [Array.toList_append, zeroCells_u8, List.map_append, List.append_assoc]
      rw [← List.append_assoc]
      have : (xs.map (Value.int .u8) ++ (List.replicate n (0 : Int)).map (Value.int .u8)).length = (k + n) * 1 := by simp [hk]
      rw [← this]
      exact List.take_left
theorem wpList_zeros_b {ops : Array Oper} {rest : List Oper} {o : Oper} {a : Act} {w W : World} {Q : Exit → Act → World → Prop} (hgd : o.guard = none) (s x : Operand)
    (ho : o.op = .call { callee := .builtin .append, args := #[s, x], argTypes := #[22, 3] }) (g : Grew W w)
    {b k : Nat} {xs : List Int} (hk : k = xs.length) (hown : Row w W.heap.size (.slice (some ⟨b, 0, none⟩) k k) xs) (hb : ∀ j v, (xs.map (Value.int .u8))[j]? = some v → w.cell? ((⟨b, 0, none⟩ : Addr).add j) = some v) (n : Nat) (hs : a.eval s = .slice (some ⟨b, 0, none⟩) k k) (hx : a.eval x = .int .i64 n) (hl : k + n ≤ 140737488355328)
    (h : ∀ v' w', Hid (Row w' W.heap.size v' (xs ++ List.replicate n 0)) → Grew W w' → wpList Tryd.prog ops Q rest (a.put o.dst v') w') : wpList Tryd.prog ops Q (o :: rest) a w := by
  obtain ⟨v', w', hr, h1, h2⟩ := zeros_lit g hk hown hb n hl o.type
  exact Lib.wpList_append_run w hgd s x 22 3 ho _ _ hs hx v' w' hr (h v' w' (Lib.hid h1) h2)
end Go.Proofs.YtnafdgpkofffaaaDoor
