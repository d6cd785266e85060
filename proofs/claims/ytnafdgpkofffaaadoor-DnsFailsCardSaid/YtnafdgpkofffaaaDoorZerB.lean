/-
  append(row, make([]byte, n)...) onto whatever row of the call's own: n noughts behind it, in place or in a new row. For every later stage.
-/
import Derived.Test.YtnafdgpkofffaaaDoorZer
import Derived.Test.YtnafdgpkofffaaaDoorStep
import Derived.Maps.AppendAt
set_option maxRecDepth 4000
set_option linter.unusedVariables false
set_option linter.unusedSimpArgs false
namespace Go.Proofs.YtnafdgpkofffaaaDoor
open Go.RowKit

/-- Without room: a new row. -/
theorem run_zeros_grow2 {w : World} (b : Addr) (k c : Nat) (xs : List Int) (hk : k = xs.length) (hb : ∀ j v, (xs.map (Value.int .u8))[j]? = some v → w.cell? (b.add j) = some v) (n : Nat) (hc : c < k + n) (h0 : 0 < n) (hl : k + n ≤ 140737488355328) (ty : TypeId) :
    (Builtin.append_ #[22, 3] ty #[.slice (some b) k c, .int .i64 n]).run Tryd.prog w = .ok (.slice (some ⟨w.heap.size, 0, none⟩) (k + n) (grownCap w (k + n) c 5)) (w.drew.alloc (.cells ((xs.map (Value.int .u8)).toArray ++ Builtin.zeroCells (Value.int .u8 0).cells n ++ Builtin.zeroCells (Value.int .u8 0).cells (grownCap w (k + n) c 5 - (k + n))) 5)) := by
  obtain ⟨i, hi, hz, hz1, hz2⟩ := info_parts u8_info
  have hw : IntKind.i64.wrap (n : Int) = n := by rw [IntKind.wrap_i64]; omega
  have h63' : ¬ (9223372036854775807 < ((k : Int) + (n : Int))) := by omega
  have h48' : ¬ (281474976710656 < Builtin.nextslicecap (k + n) c * i.bytes) := by
    have := growslice_fits (need := k + n) (old := c) (bytes := 1) (by omega) (by omega)
    rw [hz2]; omega
  have h48i : ¬ (281474976710656 < (n : Int) * (i.bytes : Int)) := by rw [hz2]; omega
  have hneg : ¬ ((n : Int) < 0) := by omega
  have hn : ¬ (k + n ≤ c) := by omega
  have hns : ¬ (n * i.size = 0) := by rw [hz1]; omega
  have hn0 : n ≠ 0 := by omega
  have hsz : i.size ≠ 0 := by rw [hz1]; omega
  have hfo := run_firstCells_some (P := Tryd.prog) w.drew i.size k b k c (xs.map (Value.int .u8)) (by rw [hz1]; simp [hk]) (by simpa using hb)
  simp [Builtin.append_, run_underlying Tryd.underlying22, run_underlying Tryd.underlying3, sizeOf, typeInfo, zeroValue, hi, hz, asInt, asIntOf, hw, hneg, hns, hn0, hsz, hn, h63', h48', h48i, Question.forced, hfo, newRow, grownCap]
/-- With room: in place. -/
theorem run_zeros_room {w : World} (g k c : Nat) (cur : Array Value) (hg : w.heap[g]? = some (.cells cur 5 (0, 0))) (n : Nat) (h0 : 0 < n) (hc : k + n ≤ c) (hf : k + n ≤ cur.size) (hl : k + n ≤ 140737488355328) (ty : TypeId) :
    (Builtin.append_ #[22, 3] ty #[.slice (some ⟨g, 0, none⟩) k c, .int .i64 n]).run Tryd.prog w = .ok (.slice (some ⟨g, 0, none⟩) (k + n) c) (w.setRow g (cur.toList.take k ++ (Builtin.zeroCells (Value.int .u8 0).cells n).toList ++ cur.toList.drop (k + n)).toArray) := by
  obtain ⟨i, hi, hz, hz1, hz2⟩ := info_parts u8_info
  have hw : IntKind.i64.wrap (n : Int) = n := by rw [IntKind.wrap_i64]; omega
  have h48i : ¬ (281474976710656 < (n : Int) * (i.bytes : Int)) := by rw [hz2]; omega
  have hneg : ¬ ((n : Int) < 0) := by omega
  have hns : ¬ (n * i.size = 0) := by rw [hz1]; omega
  have hn0 : n ≠ 0 := by omega
  have hsz : i.size ≠ 0 := by rw [hz1]; omega
  have hzl : (Builtin.zeroCells (Value.int .u8 0).cells n).toList.length = n := by rw [zeroCells_u8]; simp
  have hst := run_storeCells_at Tryd.prog g (k * i.size) 5 (Builtin.zeroCells (Value.int .u8 0).cells n).toList 0 cur w hg (by rw [hz1, hzl]; simpa using hf) (by rw [zeroCells_u8]; intro u hu; obtain ⟨x, _, rfl⟩ := List.mem_map.1 hu; rfl)
  simp only [Nat.add_zero] at hst
  rw [hzl, hz1, Nat.mul_one] at hst
  simp [Builtin.append_, run_underlying Tryd.underlying22, run_underlying Tryd.underlying3, sizeOf, typeInfo, zeroValue, hi, hz, asInt, asIntOf, hw, hneg, hns, hn0, hsz, hc, h48i, hz1, Addr.add_lit, hst]
theorem zeros_own {w W : World} (g : Grew W w) {v : Value} {xs : List Int} (hown : Row w W.heap.size v xs) (n : Nat) (hl : xs.length + n ≤ 140737488355328) (ty : TypeId) :
    ∃ v' w', (Builtin.append_ #[22, 3] ty #[v, .int .i64 n]).run Tryd.prog w = .ok v' w' ∧ Row w' W.heap.size v' (xs ++ List.replicate n 0) ∧ w.grownBy w' v.ownBlock ∧ Grew W w' := by
  obtain ⟨i, hi, hz, hz1, hz2⟩ := info_parts u8_info
  have e1 : (Value.int IntKind.u8 0).cells.size = 1 := rfl
  have hw : IntKind.i64.wrap (n : Int) = n := by rw [IntKind.wrap_i64]; omega
  have h48i : ¬ (281474976710656 < (n : Int) * (i.bytes : Int)) := by rw [hz2]; omega
  have hneg : ¬ ((n : Int) < 0) := by omega
  by_cases h0 : n = 0
  · subst h0
    have h48j : ¬ (281474976710656 < (0 : Int) * (i.bytes : Int)) := by omega
    have hw0 : IntKind.i64.wrap 0 = 0 := by decide
    rcases hown.2 with ⟨rfl, rfl'⟩ | ⟨b, cap, cur, rfl, hbg, hg, hnc, hcm, hcs, htake⟩
    · refine ⟨_, w, ?_, by rw [List.replicate_zero, List.append_nil]; exact hown, ⟨rfl, rfl, rfl, Nat.le_refl _, fun _ _ _ => rfl⟩, g⟩
      simp [Builtin.append_, run_underlying Tryd.underlying22, run_underlying Tryd.underlying3, sizeOf, typeInfo, hi, asInt, asIntOf, hw0, h48j, storeCells]
    · refine ⟨_, w, ?_, by rw [List.replicate_zero, List.append_nil]; exact hown, ⟨rfl, rfl, rfl, Nat.le_refl _, fun _ _ _ => rfl⟩, g⟩
      simp [Builtin.append_, run_underlying Tryd.underlying22, run_underlying Tryd.underlying3, sizeOf, typeInfo, hi, asInt, asIntOf, hw0, h48j, storeCells, hnc]
  · have grown : ∀ (old : Nat), old < xs.length + n → ∀ row : Option Nat,
        Row (w.drew.alloc (.cells ((xs.map (Value.int .u8)).toArray ++ Builtin.zeroCells (Value.int .u8 0).cells n ++ Builtin.zeroCells (Value.int .u8 0).cells (grownCap w (xs.length + n) old 5 - (xs.length + n))) 5)) W.heap.size (.slice (some ⟨w.heap.size, 0, none⟩) (xs.length + n) (grownCap w (xs.length + n) old 5)) (xs ++ List.replicate n 0) ∧
        w.grownBy (w.drew.alloc (.cells ((xs.map (Value.int .u8)).toArray ++ Builtin.zeroCells (Value.int .u8 0).cells n ++ Builtin.zeroCells (Value.int .u8 0).cells (grownCap w (xs.length + n) old 5 - (xs.length + n))) 5)) row := by
      intro old ho row
      have hge := grownCap_ge w (xs.length + n) old 5
      have hcm := grownCap_le_maxLen w (xs.length + n) old 5 (by unfold maxLen; omega)
      generalize grownCap w (xs.length + n) old 5 = C at *
      have hlen : (xs ++ List.replicate n (0 : Int)).length = xs.length + n := by simp
      refine ⟨?_, ⟨rfl, rfl, rfl, by simp, fun k hk _ => heap_alloc_old w.drew _ hk⟩⟩
      unfold Row
      rw [hlen]
      refine ⟨by simp, .inr ⟨w.heap.size, C, _, rfl, g.size, heap_alloc_new w.drew _, hge, hcm, ?_, ?_⟩⟩
      · simp only [Array.size_append, List.size_toArray, size_zeroCells, e1, List.length_map]
        omega
      · simp only [Array.toList_append, zeroCells_u8, List.map_append, List.append_assoc]
        rw [← List.append_assoc]
        have : (xs.map (Value.int .u8) ++ (List.replicate n (0 : Int)).map (Value.int .u8)).length = (xs.length + n) * 1 := by simp
        rw [← this]
        exact List.take_left
    rcases hown.2 with ⟨rfl, hn⟩ | ⟨b, cap, cur, rfl, hbg, hg, hnc, hcm, hcs, htake⟩
    · have hx : xs = [] := List.eq_nil_of_length_eq_zero hn
      subst hx
      have hgr := grown 0 (by simp; omega) (Value.ownBlock (.slice none 0 0))
      simp only [List.length_nil, Nat.zero_add] at hgr
      have hr := Lib.run_append_nil_zeros (P := Tryd.prog) w 22 3 ty 5 i (.int .u8 0) .i64 .i64 Tryd.underlying22 Tryd.underlying3 hi hz n (by omega) (by omega) (by simp at hl; omega) (by rw [hz2]; simp at hl; omega)
      refine ⟨_, _, hr, ?_, ?_, (g.drew1).alloc _⟩
      · simpa using hgr.1
      · simpa using hgr.2
    · by_cases hroom : xs.length + n ≤ cap
      · have hcs' : cap = cur.size := by rw [hcs]; omega
        have hr := run_zeros_room b xs.length cap cur hg n (by omega) hroom (by omega) hl ty
        have htk : cur.toList.take xs.length = xs.map (Value.int .u8) := by rw [← htake, Nat.mul_one]
        have hlen : (xs ++ List.replicate n (0 : Int)).length = xs.length + n := by simp
        refine ⟨_, _, hr, ?_, ⟨rfl, rfl, rfl, by simp [World.setRow], fun k _ hk => setRow_other w b k _ (fun e => hk (by simp [Value.ownBlock, e]))⟩, ?_⟩
        · unfold Row
          rw [hlen]
          refine ⟨by simp, .inr ⟨b, cap, _, rfl, hbg, setRow_heap w b cur _ 5 _ hg, hroom, hcm, ?_, ?_⟩⟩
          · simp only [List.size_toArray, List.length_append, List.length_take, List.length_drop, Array.length_toList, zeroCells_u8, List.length_map, List.length_replicate]
            omega
          · rw [htk, zeroCells_u8, Nat.mul_one, ← List.map_append]
            have : ((xs ++ List.replicate n (0 : Int)).map (Value.int .u8)).length = xs.length + n := by simp
            show List.take (xs.length + n) (((xs ++ List.replicate n (0 : Int)).map (Value.int .u8)) ++ _) = _
            rw [← this]
            exact List.take_left
        · exact ⟨g.os, g.tape, g.output, Nat.le_trans g.size (by simp [World.setRow]), fun k hk => by rw [setRow_other w b k _ (by omega)]; exact g.block k hk⟩
      · have holds : ∀ j u, (xs.map (Value.int .u8))[j]? = some u → w.cell? ((⟨b, 0, none⟩ : Addr).add j) = some u := World.ownsRow.cells (g := b) hown rfl
        have hgr := grown cap (by omega) (Value.ownBlock (.slice (some ⟨b, 0, none⟩) xs.length cap))
        exact ⟨_, _, run_zeros_grow2 ⟨b, 0, none⟩ xs.length cap xs rfl holds n (by omega) (by omega) hl ty, hgr.1, hgr.2, (g.drew1).alloc _⟩
theorem wp_zeros_own {o : Oper} {a : Act} {w W : World} {K : Act → World → Prop} {Q : Exit → Act → World → Prop} (s x : Operand)
    (ho : o.op = .call { callee := .builtin .append, args := #[s, x], argTypes := #[22, 3] }) (hgr : Grew W w)
    {v : Value} {xs : List Int} (n : Nat) (hown : Row w W.heap.size v xs) (hs : a.eval s = v) (hx : a.eval x = .int .i64 n) (hlen : xs.length + n ≤ 140737488355328)
    (h : ∀ v' w', Hid (Row w' W.heap.size v' (xs ++ List.replicate n 0)) → Grew W w' → w.grownBy w' v.ownBlock → K (a.put o.dst v') w') : o.wp Tryd.prog a w K Q := by
  obtain ⟨v', w', hr, h1, h2, h3⟩ := zeros_own hgr hown n hlen o.type
  exact Lib.wp_append_run w s x 22 3 ho _ _ hs hx v' w' hr (h v' w' (Lib.hid h1) h3 h2)
theorem wpList_zeros_own {ops : Array Oper} {rest : List Oper} {o : Oper} {a : Act} {w W : World} {Q : Exit → Act → World → Prop} (hgd : o.guard = none) (s x : Operand)
    (ho : o.op = .call { callee := .builtin .append, args := #[s, x], argTypes := #[22, 3] }) (hgr : Grew W w)
    {v : Value} {xs : List Int} (n : Nat) (hown : Row w W.heap.size v xs) (hs : a.eval s = v) (hx : a.eval x = .int .i64 n) (hlen : xs.length + n ≤ 140737488355328)
    (h : ∀ v' w', Hid (Row w' W.heap.size v' (xs ++ List.replicate n 0)) → Grew W w' → w.grownBy w' v.ownBlock → wpList Tryd.prog ops Q rest (a.put o.dst v') w') : wpList Tryd.prog ops Q (o :: rest) a w :=
  wpList_plain hgd fun _ hK => wp_zeros_own s x ho hgr n hown hs hx hlen fun v' w' h2 h3 h4 => hK _ _ (h v' w' h2 h3 h4)
/-- The same as one step of a region that draws its order. -/
theorem step_zeros_t {ops : Array Oper} {T : Array Value} {o : Oper} {a : Act} {w W : World} {K : Act → World → Prop} {Q : Exit → Act → World → Prop} {E : Prop} (hgd : o.guard = none) (s x : Operand)
    (ho : o.op = .call { callee := .builtin .append, args := #[s, x], argTypes := #[22, 3] }) (hgr : Grew W w)
    {v : Value} {xs : List Int} (n : Nat) (hown : Row w W.heap.size v xs) (hs : a.eval s = v) (hx : a.eval x = .int .i64 n) (hlen : xs.length + n ≤ 140737488355328)
    (h : ∀ v' w', Hid (Row w' W.heap.size v' (xs ++ List.replicate n 0)) → Grew W w' → w.grownBy w' v.ownBlock → K (a.put o.dst v') w') : if Region.wanted o (yielded ops T) = true then Oper.wp Tryd.prog o a w K Q else E := by
  have hw : Region.wanted o (yielded ops T) = true := by simp [Region.wanted, hgd]
  rw [if_pos hw]
  exact wp_zeros_own s x ho hgr n hown hs hx hlen h
/-- append(s, x...), where the new value lies told, as one step of a region. -/
theorem run_append_at {w : World} {base : Nat} {v u : Value} {xs ys : List Int} (ty : TypeId) (hown : Row w base v xs) (hu : Buf w u ys) (hb : base ≤ w.heap.size) (hlen : xs.length + ys.length ≤ 140737488355328) :
    ∃ v' w', (Builtin.append_ #[22, 22] ty #[v, u]).run Tryd.prog w = .ok v' w' ∧ Row w' base v' (xs ++ ys) ∧ w.grownBy w' v.ownBlock ∧ (v'.ownBlock = v.ownBlock ∨ v'.ownBlock = some w.heap.size) := by
  obtain ⟨i0, hi, hz0, hz1, hz2⟩ := info_parts u8_info
  obtain ⟨a, c, rfl, hc, ha⟩ := hu.shape
  have key : ∀ ad : Addr, (∀ j u, (ys.map (Value.int .u8))[j]? = some u → w.cell? (ad.add j) = some u) → ∃ v' w', (Builtin.append_ #[22, 22] ty #[v, .slice (some ad) ys.length c]).run Tryd.prog w = .ok v' w' ∧ Row w' base v' (xs ++ ys) ∧ w.grownBy w' v.ownBlock ∧ (v'.ownBlock = v.ownBlock ∨ v'.ownBlock = some w.heap.size) := fun ad hsrc => by
    obtain ⟨v', w', hr, ho, hg, _, hat⟩ := run_append_own_at (P := Tryd.prog) w base 22 ty 5 i0 (.int .u8 0) 1 1 Tryd.underlying22 hi hz0 hz1 hz2 rfl (by decide) v xs.length (xs.map (Value.int .u8)) hown ad ys.length c (ys.map (Value.int .u8)) (by simp) hsrc
      (fun x hx => by obtain ⟨y, _, rfl⟩ := List.mem_map.1 hx; rfl) (by unfold maxLen; omega) (by omega) hb
    exact ⟨v', w', hr, by unfold Row; rw [List.length_append, List.map_append]; exact ho, hg, hat⟩
  match a, ha with
  | some ad, ha =>
    refine key ad fun j u hj => ?_
    have hne : ys ≠ [] := by rintro rfl; simp at hj
    obtain ⟨ad', e, hs⟩ := hu.src (List.length_pos_iff.2 hne)
    cases e
    exact hs j u hj
  | none, ha =>
    have hne : ys = [] := by
      by_cases h : ys = []
      · exact h
      · obtain ⟨_, _, e, _⟩ := ha h
        cases e
    subst hne
    refine ⟨v, w, ?_, by rw [List.append_nil]; exact hown, ⟨rfl, rfl, rfl, Nat.le_refl _, fun _ _ _ => rfl⟩, .inl rfl⟩
    rcases hown.2 with ⟨rfl, h0⟩ | ⟨g, cap, cur, rfl, _, _, hnc, _⟩
    · simp [Builtin.append_, run_underlying Tryd.underlying22, sizeOf, typeInfo, hi, Builtin.lenOf, Builtin.firstCells, h0]
    · simp [Builtin.append_, run_underlying Tryd.underlying22, sizeOf, typeInfo, hi, Builtin.lenOf, Builtin.firstCells, hnc, storeCells]
theorem step_append_at {ops : Array Oper} {T : Array Value} {o : Oper} {a : Act} {w W : World} {K : Act → World → Prop} {Q : Exit → Act → World → Prop} {E : Prop} (hgd : o.guard = none) (s x : Operand)
    (ho : o.op = .call { callee := .builtin .append, args := #[s, x], argTypes := #[22, 22] }) (hgr : Grew W w)
    {v u : Value} {xs ys : List Int} (hown : Row w W.heap.size v xs) (hu : Buf w u ys) (hs : a.eval s = v) (hx : a.eval x = u) (hlen : xs.length + ys.length ≤ 140737488355328)
    (h : ∀ v' w', Hid (Row w' W.heap.size v' (xs ++ ys)) → Grew W w' → w.grownBy w' v.ownBlock → (v'.ownBlock = v.ownBlock ∨ v'.ownBlock = some w.heap.size) → K (a.put o.dst v') w') : if Region.wanted o (yielded ops T) = true then Oper.wp Tryd.prog o a w K Q else E := by
  have hw : Region.wanted o (yielded ops T) = true := by simp [Region.wanted, hgd]
  rw [if_pos hw]
  obtain ⟨v', w', hr, h1, h2, h3⟩ := run_append_at o.type hown hu hgr.size hlen
  exact Lib.wp_append_run w s x 22 22 ho _ _ hs hx v' w' hr (h v' w' (Lib.hid h1) (Below.grown hgr h2 hgr.size fun k hk => hown.ge k hk) h2 h3)
end Go.Proofs.YtnafdgpkofffaaaDoor
