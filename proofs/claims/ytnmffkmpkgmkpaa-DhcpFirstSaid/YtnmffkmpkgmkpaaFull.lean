/-
  append(s, x...) where s has no room behind it: the answer in whatever way. For every later stage.
-/
import Derived.Test.YtnmffkmpkgmkpaaBuf
import Derived.Deep.RegionHeld3
set_option maxRecDepth 4000
set_option linter.unusedVariables false
set_option linter.unusedSimpArgs false
namespace Go.Proofs.Ytnmffkmpkgmkpaa
open Go.RowKit

/-- append(s, x...), s whatever reads as bytes, without room behind: other memory, or s itself where nothing is appended. -/
theorem run_append_full {w : World} {a : Option Addr} {n : Nat} {u : Value} {xs ys : List Int} (ty : TypeId) (h : Buf w (.slice a n n) xs) (hu : Buf w u ys) (hlen : xs.length + ys.length ≤ 140737488355328) :
    ∃ v' w', (Builtin.append_ #[22, 22] ty #[.slice a n n, u]).run Try.prog w = .ok v' w' ∧ Buf w' v' (xs ++ ys) ∧ Grew w w' := by
  obtain ⟨i0, hi, hz0, hz1, hz2⟩ := info_parts u8_info
  obtain ⟨rfl, _⟩ := h.lenEq
  have hok : AreBytes (xs ++ ys) := fun x hx => by
    rcases List.mem_append.1 hx with hx | hx
    · exact h.ok x hx
    · exact hu.ok x hx
  by_cases hy : ys = []
  · subst hy
    refine ⟨.slice a xs.length xs.length, w, ?_, by simpa using h, Grew.refl w⟩
    obtain ⟨b, c, rfl, hc, _⟩ := hu.shape
    rcases b with _ | ad
    · cases a <;> simp [Builtin.append_, run_underlying Try.underlying22, sizeOf, typeInfo, hi, Builtin.lenOf, Builtin.firstCells, storeCells]
    · have hf := run_firstCells_some (P := Try.prog) w i0.size 0 ad 0 c [] (by simp) (fun j v h => by simp at h)
      cases a <;> simp [Builtin.append_, run_underlying Try.underlying22, sizeOf, typeInfo, hi, Builtin.lenOf, hf, storeCells]
  · have hpos := List.length_pos_iff.2 hy
    rcases a with _ | b
    · obtain rfl : xs = [] := by
        by_cases h' : xs = []
        · exact h'
        · obtain ⟨_, _, e, _, ha⟩ := h.shape
          cases e
          obtain ⟨_, _, e, _⟩ := ha h'
          cases e
      obtain ⟨v', w', hr, ho, hg⟩ := run_append_b ty (Row.nil w w.heap.size) hu (Nat.le_refl _) (by simpa using hlen)
      exact ⟨v', w', hr, ho.buf hok, Below.grown (Grew.refl w) hg (Nat.le_refl _) (fun k h => by cases h)⟩
    · obtain ⟨u0, uc, rfl, _, _⟩ := hu.shape
      obtain ⟨ad, rfl, hs⟩ := hu.src hpos
      have holds : ∀ j u, (xs.map (Value.int .u8))[j]? = some u → w.cell? (b.add j) = some u := fun j u hj => by
        by_cases hx : xs = []
        · subst hx; simp at hj
        · obtain ⟨ad', e, hs'⟩ := h.src (List.length_pos_iff.2 hx)
          cases e
          exact hs' j u hj
      have hr := run_append_grow (P := Try.prog) (w := w) 22 ty 5 i0 (.int .u8 0) Try.underlying22 hi hz0 b xs.length xs.length (xs.map (Value.int .u8)) (by simp [hz1]) holds ad ys.length uc (ys.map (Value.int .u8)) (by simp [hz1]) hs (by omega) (by omega)
        (growslice_fits (by omega) (by rw [hz2]; omega))
      refine ⟨_, _, hr, Row.buf (base := w.heap.size) ⟨by simp, .inr ⟨w.heap.size, _, _, by rw [List.length_append], Nat.le_refl _, heap_alloc_new w.drew _, ?_, grownCap_le_maxLen w _ _ _ (by unfold maxLen; omega), ?_, ?_⟩⟩ hok, ((Grew.refl w).drew1).alloc _⟩
      · rw [List.length_append]; exact grownCap_ge w _ _ _
      · have := grownCap_ge w (xs.length + ys.length) xs.length 5
        simp only [Array.size_append, List.size_toArray, size_zeroCells, List.length_map]
        rw [show (Value.int IntKind.u8 0).cells.size = 1 from rfl]
        omega
      · simp only [Array.toList_append, List.append_assoc, List.map_append]
        rw [← List.append_assoc, List.take_left' (by simp)]
theorem step_append_full {ops : Array Oper} {T : Array Value} {o : Oper} {a : Act} {w : World} {K : Act → World → Prop} {Q : Exit → Act → World → Prop} {E : Prop} (hgd : o.guard = none) (s x : Operand)
    (ho : o.op = .call { callee := .builtin .append, args := #[s, x], argTypes := #[22, 22] })
    {ad : Option Addr} {n : Nat} {u : Value} {xs ys : List Int} (hown : Buf w (.slice ad n n) xs) (hu : Buf w u ys) (hs : a.eval s = .slice ad n n) (hx : a.eval x = u) (hlen : xs.length + ys.length ≤ 140737488355328)
    (h : ∀ v' w', Buf w' v' (xs ++ ys) → Grew w w' → K (a.put o.dst v') w') : if Region.wanted o (yielded ops T) = true then Oper.wp Try.prog o a w K Q else E := by
  have hw : Region.wanted o (yielded ops T) = true := by simp [Region.wanted, hgd]
  rw [if_pos hw]
  obtain ⟨v', w', hr, ho', hg⟩ := run_append_full o.type hown hu hlen
  unfold Oper.wp execOp
  simp only [ho, resolve, invoke, builtin, Sem.run_bind, Sem.run_pure, Result.andThen_ok, List.map_toArray, List.map_cons, List.map_nil, hs, hx, hr]
  exact h v' w' ho' hg

end Go.Proofs.Ytnmffkmpkgmkpaa
