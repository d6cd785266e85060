/-
  append([]int{}, l...): whatever l, memory grows at most.
-/
import Derived.Test.YtpanecflmoebiaaPlU
set_option linter.unusedVariables false
set_option linter.unusedSimpArgs false
namespace Go.Proofs.Ytpanecflmoebiaa.Ints
open Go.RowKit

theorem run_append_lit {w : World} {base b : Nat} {u : Value} {ys : List Int} (ty : TypeId) (hown : Row w base (.slice (some ⟨b, 0, none⟩) 0 0) []) (hu : Buf w u ys) (hb : base ≤ w.heap.size) (hlen : ys.length ≤ 17592186044416) :
    ∃ v' w', (Builtin.append_ #[22, 22] ty #[.slice (some ⟨b, 0, none⟩) 0 0, u]).run Try.prog w = .ok v' w' ∧ Row w' base v' ys ∧ Grew w w' := by
  obtain ⟨v', w', hr, hrow, hg⟩ := run_append_b ty hown hu hb (by simpa using hlen)
  rw [List.nil_append] at hrow
  refine ⟨v', w', hr, hrow, ?_⟩
  obtain ⟨i0, hi, hz0, hz1, hz2⟩ := info_parts i_info
  by_cases hy : ys = []
  · subst hy
    obtain ⟨a, c, rfl, hc, ha⟩ := hu.shape
    have h0 : (Builtin.append_ #[22, 22] ty #[.slice (some ⟨b, 0, none⟩) 0 0, .slice a 0 c]).run Try.prog w = .ok (.slice (some ⟨b, 0, none⟩) 0 0) w := by
      rcases a with _ | ad
      · simp [Builtin.append_, run_underlying Try.underlying22, sizeOf, typeInfo, hi, Builtin.lenOf, Builtin.firstCells, storeCells]
      · have hf := run_firstCells_some (P := Try.prog) w i0.size 0 ad 0 c [] (by simp) (fun j v h => by simp at h)
        simp [Builtin.append_, run_underlying Try.underlying22, sizeOf, typeInfo, hi, Builtin.lenOf, hf, storeCells]
    rw [show ([] : List Int).length = 0 from rfl, h0] at hr
    cases hr
    exact Grew.refl w
  · obtain ⟨a, c, rfl, hc, ha⟩ := hu.shape
    obtain ⟨ad, rfl, hs⟩ := hu.src (List.length_pos_iff.2 hy)
    have hpos := List.length_pos_iff.2 hy
    have h1 := run_append_grow (P := Try.prog) (w := w) 22 ty 3 i0 (.int .i64 0) Try.underlying22 hi hz0 ⟨b, 0, none⟩ 0 0 [] (by simp) (fun j v h => by simp at h) ad ys.length c (ys.map (Value.int .i64)) (by simp [hz1]) hs (by omega) (by omega)
      (by rw [Nat.zero_add, nextslicecap_zero hpos, hz2]; omega)
    rw [h1] at hr
    cases hr
    exact ((Grew.refl w).drew1).alloc _
theorem wp_append_lit {o : Oper} {a : Act} {w : World} {base b : Nat} {K : Act → World → Prop} {Q : Exit → Act → World → Prop} (s x : Operand)
    (ho : o.op = .call { callee := .builtin .append, args := #[s, x], argTypes := #[22, 22] }) (hB : base ≤ w.heap.size)
    {u : Value} {ys : List Int} (hown : Row w base (.slice (some ⟨b, 0, none⟩) 0 0) []) (hu : Buf w u ys) (hs : a.eval s = .slice (some ⟨b, 0, none⟩) 0 0) (hx : a.eval x = u) (hlen : ys.length ≤ 17592186044416)
    (h : ∀ v' w', Row w' base v' ys → Grew w w' → K (a.put o.dst v') w') : o.wp Try.prog a w K Q := by
  obtain ⟨v', w', hr, ho', hg⟩ := run_append_lit o.type hown hu hB hlen
  unfold Oper.wp execOp
  simp only [ho, resolve, invoke, builtin, Sem.run_bind, Sem.run_pure, Result.andThen_ok, List.map_toArray, List.map_cons, List.map_nil, hs, hx, hr]
  exact h v' w' ho' hg
theorem step_append_lit {ops : Array Oper} {T : Array Value} {o : Oper} {a : Act} {w : World} {base b : Nat} {K : Act → World → Prop} {Q : Exit → Act → World → Prop} {E : Prop} (hgd : o.guard = none) (s x : Operand)
    (ho : o.op = .call { callee := .builtin .append, args := #[s, x], argTypes := #[22, 22] }) (hB : base ≤ w.heap.size)
    {u : Value} {ys : List Int} (hown : Row w base (.slice (some ⟨b, 0, none⟩) 0 0) []) (hu : Buf w u ys) (hs : a.eval s = .slice (some ⟨b, 0, none⟩) 0 0) (hx : a.eval x = u) (hlen : ys.length ≤ 17592186044416)
    (h : ∀ v' w', Row w' base v' ys → Grew w w' → K (a.put o.dst v') w') : if Region.wanted o (yielded ops T) = true then Oper.wp Try.prog o a w K Q else E := by
  have hw : Region.wanted o (yielded ops T) = true := by simp [Region.wanted, hgd]
  rw [if_pos hw]
  exact wp_append_lit s x ho hB hown hu hs hx hlen h
/-- A row stays, whatever is written into a box of another type. -/
theorem Row.box {w : World} {b X o : Nat} {v : Value} {xs : List Int} {cs : Array Value} {T : TypeId} (h : Row w b v xs) (hX : Blk w X cs T) (hT : T ≠ 3) (u : Value) : Row (w.setCell ⟨X, o, none⟩ u) b v xs := by
  refine ⟨h.1, ?_⟩
  rcases h.2 with h | ⟨b', cap, cur, e, hg, hh, r⟩
  · exact .inl h
  · refine .inr ⟨b', cap, cur, e, hg, ?_, r⟩
    have hne : b' ≠ X := by
      rintro rfl
      unfold Blk at hX
      rw [hX] at hh
      simp only [Option.some.injEq, Obj.cells.injEq] at hh
      exact hT hh.2.1
    rw [Below.heap_setCell w ⟨X, o, none⟩ u b' hne]
    exact hh
theorem Row.shape {w : World} {base : Nat} {v : Value} {xs : List Int} (h : Row w base v xs) (hx : AreBytes xs) : ∃ a c, v = .slice a xs.length c := by
  obtain ⟨a, c, e, _⟩ := (h.buf hx).shape
  exact ⟨a, c, e⟩
end Go.Proofs.Ytpanecflmoebiaa.Ints
