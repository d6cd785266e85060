/-
  What lies off a row's own block stays, whatever is appended to the row. For every later stage.
-/
import Derived.Test.YtnmffkmpkgmkpaaBuf
import Derived.Deep.RegionHeld3
import Derived.Maps.AppendAt
set_option maxRecDepth 4000
set_option linter.unusedVariables false
set_option linter.unusedSimpArgs false
namespace Go.Proofs.Ytnmffkmpkgmkpaa
open Go.RowKit

/-- The memory behind a value is not block r. -/
def Off (r : Option Nat) (v : Value) : Prop := ∀ g, r = some g → v.ownBlock ≠ some g
theorem Buf.grownBy {w w' : World} {r : Option Nat} {v : Value} {xs : List Int} (h : Buf w v xs) (g : w.grownBy w' r) (ho : xs ≠ [] → Off r v) : Buf w' v xs := by
  obtain ⟨a, c, rfl, hc, ha⟩ := h.shape
  refine ⟨⟨a, c, rfl, hc, fun hx => ?_⟩, h.ok, h.len⟩
  obtain ⟨b, off, rfl, hb⟩ := ha hx
  refine ⟨b, off, rfl, fun i hi => ?_⟩
  refine g.cell (hb i hi) fun e => ?_
  exact ho hx b e.symm rfl
theorem Buf.offNew {w : World} {v : Value} {xs : List Int} (h : Buf w v xs) (hx : xs ≠ []) {g : Nat} (hg : w.heap.size ≤ g) : Off (some g) v := by
  intro g' e hv
  obtain ⟨a, c, rfl, _, ha⟩ := h.shape
  obtain ⟨b, off, rfl, hb⟩ := ha hx
  have := hb.lt hx
  simp only [Value.ownBlock, Option.some.injEq] at hv e
  omega
theorem Off.none (v : Value) : Off Option.none v := fun _ h => by cases h
theorem Off.ofLt {v u : Value} (h : ∀ g, v.ownBlock = some g → ∀ k, u.ownBlock = some k → g < k) : Off v.ownBlock u := fun g hg hk => by have := h g hg g hk; omega
/-- What reads as bytes off the block of v reads so behind the append, off the block of v'. -/
def KeepOff (w : World) (v : Value) (w' : World) (v' : Value) : Prop := ∀ u ys, Buf w u ys → (ys ≠ [] → Off v.ownBlock u) → Buf w' u ys ∧ (ys ≠ [] → Off v'.ownBlock u)
theorem run_append_off {w : World} {base : Nat} {v u : Value} {xs ys : List Int} (ty : TypeId) (hown : Row w base v xs) (hu : Buf w u ys) (hb : base ≤ w.heap.size) (hlen : xs.length + ys.length ≤ 140737488355328) :
    ∃ v' w', (Builtin.append_ #[22, 22] ty #[v, u]).run Try.prog w = .ok v' w' ∧ Row w' base v' (xs ++ ys) ∧ w.grownBy w' v.ownBlock ∧ KeepOff w v w' v' := by
  obtain ⟨i0, hi, hz0, hz1, hz2⟩ := info_parts u8_info
  obtain ⟨a, c, rfl, hc, ha⟩ := hu.shape
  have key : ∀ ad : Addr, (∀ j u, (ys.map (Value.int .u8))[j]? = some u → w.cell? (ad.add j) = some u) → ∃ v' w', (Builtin.append_ #[22, 22] ty #[v, .slice (some ad) ys.length c]).run Try.prog w = .ok v' w' ∧ Row w' base v' (xs ++ ys) ∧ w.grownBy w' v.ownBlock ∧ KeepOff w v w' v' := fun ad hsrc => by
    obtain ⟨v', w', hr, ho, hg, _, hat⟩ := run_append_own_at (P := Try.prog) w base 22 ty 5 i0 (.int .u8 0) 1 1 Try.underlying22 hi hz0 hz1 hz2 rfl (by decide) v xs.length (xs.map (Value.int .u8)) hown ad ys.length c (ys.map (Value.int .u8)) (by simp) hsrc
      (fun x hx => by obtain ⟨y, _, rfl⟩ := List.mem_map.1 hx; rfl) (by unfold maxLen; omega) (by omega) hb
    refine ⟨v', w', hr, by unfold Row; rw [List.length_append, List.map_append]; exact ho, hg, fun u zs hu ho => ⟨hu.grownBy hg ho, fun hz => ?_⟩⟩
    rcases hat with hat | hat
    · rw [hat]; exact ho hz
    · rw [hat]; exact hu.offNew hz (Nat.le_refl _)
  match a, ha with
  | some ad, ha =>
    refine key ad fun j u hj => ?_
    have hne : ys ≠ [] := by rintro rfl; simp at hj
    obtain ⟨ad', e, hs⟩ := hu.src (List.length_pos_iff.2 hne)
    cases e
    exact hs j u hj
  | none, ha =>
    have hne : ys = [] := by
      by_cases h : ys = []
      · exact h
      · obtain ⟨_, _, e, _⟩ := ha h
        cases e
    subst hne
    refine ⟨v, w, ?_, by rw [List.append_nil]; exact hown, ⟨rfl, rfl, rfl, Nat.le_refl _, fun _ _ _ => rfl⟩, fun _ _ h1 h2 => ⟨h1, h2⟩⟩
    rcases hown.2 with ⟨rfl, h0⟩ | ⟨g, cap, cur, rfl, _, _, hnc, _⟩
    · simp [Builtin.append_, run_underlying Try.underlying22, sizeOf, typeInfo, hi, Builtin.lenOf, Builtin.firstCells, h0]
    · simp [Builtin.append_, run_underlying Try.underlying22, sizeOf, typeInfo, hi, Builtin.lenOf, Builtin.firstCells, hnc, storeCells]
theorem step_append_off {ops : Array Oper} {T : Array Value} {o : Oper} {a : Act} {w W : World} {K : Act → World → Prop} {Q : Exit → Act → World → Prop} {E : Prop} (hw : Region.wanted o (yielded ops T) = true) (s x : Operand)
    (ho : o.op = .call { callee := .builtin .append, args := #[s, x], argTypes := #[22, 22] }) (hgr : Grew W w)
    {v u : Value} {xs ys : List Int} (hown : Row w W.heap.size v xs) (hu : Buf w u ys) (hs : a.eval s = v) (hx : a.eval x = u) (hlen : xs.length + ys.length ≤ 140737488355328)
    (h : ∀ v' w', Hid (Row w' W.heap.size v' (xs ++ ys)) → Grew W w' → Hid (KeepOff w v w' v') → w.grownBy w' v.ownBlock → K (a.put o.dst v') w') : if Region.wanted o (yielded ops T) = true then Oper.wp Try.prog o a w K Q else E := by
  rw [if_pos hw]
  obtain ⟨v', w', hr, ho', hg, hk⟩ := run_append_off o.type hown hu hgr.size hlen
  unfold Oper.wp execOp
  simp only [ho, resolve, invoke, builtin, Sem.run_bind, Sem.run_pure, Result.andThen_ok, List.map_toArray, List.map_cons, List.map_nil, hs, hx, hr]
  exact h v' w' (Lib.hid ho') (Below.grown hgr hg hgr.size fun k hk => hown.ge k hk) (Lib.hid hk) hg
theorem Buf.blockLt {w : World} {v : Value} {xs : List Int} (h : Buf w v xs) (hx : xs ≠ []) : ∀ k, v.ownBlock = some k → k < w.heap.size := fun k hk => by
  obtain ⟨a, c, rfl, _, ha⟩ := h.shape
  obtain ⟨b, off, rfl, hb⟩ := ha hx
  have := hb.lt hx
  simp only [Value.ownBlock, Option.some.injEq] at hk
  omega
/-- A row just made is off whatever block was there before; what was there is off it. -/
theorem Row.off {w : World} {base : Nat} {v u : Value} {xs : List Int} (h : Row w base v xs) (hu : ∀ k, u.ownBlock = some k → k < base) : Off v.ownBlock u := fun g hg hk => by
  have := h.ge g hg
  have := hu g hk
  omega
theorem Row.offOld {w : World} {base : Nat} {v u : Value} {xs : List Int} (h : Row w base u xs) (hv : ∀ k, v.ownBlock = some k → k < base) : Off v.ownBlock u := fun g hg hk => by
  have := h.ge g hk
  have := hv g hg
  omega
theorem Row.lt {w : World} {base : Nat} {v : Value} {xs : List Int} (h : Row w base v xs) : ∀ k, v.ownBlock = some k → k < w.heap.size := fun k hk => (World.ownsRow.lt h k hk).2
end Go.Proofs.Ytnmffkmpkgmkpaa
