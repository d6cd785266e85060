/-
  A map keyed by integers, with integers in it, as a plain function of keys (IMap): made, looked up, written, kept. For every later stage with such maps.
-/
import Derived.Test.YtnmffkmpkgmkpaaTrn
import Derived.Test.YtnmffkmpkgmkpaaBuf
import Derived.Maps.OwnSet
set_option maxRecDepth 4000
set_option linter.unusedVariables false
set_option linter.unusedSimpArgs false
namespace Go.Proofs.Ytnmffkmpkgmkpaa
open Go Go.RowKit Go.Maps

def wfI (q : IntKind) (x : Int) : Prop := (Lit.int q x).wf = true
theorem wfI_u8 {x : Int} (h0 : 0 ≤ x) (h1 : x < 256) : wfI .u8 x := WalkArith.wf_u8 (by omega)
theorem wfI_u32 {x : Int} (h0 : 0 ≤ x) (h1 : x < 4294967296) : wfI .u32 x := WalkArith.wf_u32 (by omega)
def updI (f : Int → Option Int) (x y : Int) : Int → Option Int := fun z => if z = x then some y else f z
/-- Block b of w is a map of at most n entries, that of f. -/
structure IMap (P : Program) (k e : TypeId) (qk qe : IntKind) (w : World) (b n : Nat) (f : Int → Option Int) : Prop where
  own : ∃ D : DataW Unit, w.ownsMap P k (plainElem P e) b n D ∧ ∀ x, wfI qk x → Maps.has D (.int qk x) = (f x).isSome ∧ D.atKey (.int qk x) (.lit (.int qe 0)) = .lit (.int qe ((f x).getD 0))
  wf : ∀ x y, f x = some y → wfI qe y
section
variable {P : Program} {t k e : TypeId} {qk qe : IntKind} {w : World} {b n : Nat} {f : Int → Option Int}
theorem IMap.made (w : World) : IMap P k e qk qe (w.alloc (.map #[] 0)) w.heap.size 0 (fun _ => none) :=
  ⟨⟨_, World.ownsMap_made w P k (plainElem P e), fun _ _ => ⟨rfl, rfl⟩⟩, fun _ _ h => by cases h⟩
theorem IMap.mono (h : IMap P k e qk qe w b n f) {n' : Nat} (hn : n ≤ n') : IMap P k e qk qe w b n' f := by
  obtain ⟨D, h1, h2⟩ := h.own
  exact ⟨⟨D, h1.mono hn, h2⟩, h.wf⟩
theorem IMap.lt (h : IMap P k e qk qe w b n f) : b < w.heap.size := by obtain ⟨D, h1, _⟩ := h.own; exact h1.lt
theorem IMap.obj (h : IMap P k e qk qe w b n f) : ∃ es clock, w.heap[b]? = some (.map es clock) := by obtain ⟨D, ⟨es, c, h1, _⟩, _⟩ := h.own; exact ⟨es, c, h1⟩
theorem IMap.trn {w' : World} {c : Nat} (h : IMap P k e qk qe w b n f) (ht : Trn c w w') (hne : b ≠ c) : IMap P k e qk qe w' b n f := by
  obtain ⟨D, h1, h2⟩ := h.own
  exact ⟨⟨D, h1.kept (row := some c) ⟨ht.os, ht.tape, ht.output, ht.size, fun k hk hc => ht.block k hk (by simpa using hc)⟩ (by simpa using hne), h2⟩, h.wf⟩
theorem IMap.grew {w' : World} (h : IMap P k e qk qe w b n f) (g : Grew w w') : IMap P k e qk qe w' b n f := by
  obtain ⟨D, h1, h2⟩ := h.own
  exact ⟨⟨D, h1.kept (row := none) ⟨g.os, g.tape, g.output, g.size, fun k hk _ => g.block k hk⟩ (by simp), h2⟩, h.wf⟩
theorem IMap.drew (h : IMap P k e qk qe w b n f) : IMap P k e qk qe w.drew b n f := h.grew (Grew.refl w).drew1
theorem Blk.neMap {g : Nat} {cs : Array Value} {T : TypeId} (hB : Blk w g cs T) (h : IMap P k e qk qe w b n f) : g ≠ b := by
  rintro rfl
  obtain ⟨es, c, h1⟩ := h.obj
  unfold Blk at hB
  rw [hB] at h1
  cases h1
/-- Bytes stay where nothing but a map is written. -/
theorem Buf.trnMap {w' : World} {v : Value} {xs : List Int} (hb : Buf w v xs) (h : IMap P k e qk qe w b n f) (ht : Trn b w w') : Buf w' v xs := by
  obtain ⟨a, c, rfl, hc, ha⟩ := hb.shape
  refine ⟨⟨a, c, rfl, hc, fun hx => ?_⟩, hb.ok, hb.len⟩
  obtain ⟨g, off, rfl, hat⟩ := ha hx
  refine ⟨g, off, rfl, fun i hi => ?_⟩
  have h1 := hat i hi
  have hne : g ≠ b := by
    rintro rfl
    obtain ⟨es, c, h2⟩ := h.obj
    simp [World.cell?, h2] at h1
  have hlt : g < w.heap.size := BytesAt.lt hat hx
  rw [ht.cell hlt hne]
  exact h1
theorem IMap.look (h : IMap P k e qk qe w b n f) (hk : P.underlying k = some (.int qk)) (ht : P.underlying t = some (.map k e)) (he : P.underlying e = some (.int qe)) (hz : (zeroValue e).run P w = .ok (.int qe 0) w) {x : Int} (hx : wfI qk x) :
    (Instr.lookup t (.map (some b)) (.int qk x) false).run P w = .ok (.int qe ((f x).getD 0)) w := by
  obtain ⟨D, h1, h2⟩ := h.own
  obtain ⟨c, hr, hc, _⟩ := h1.lookup_int (int_keyed hk) ht he hz (keyOf_int_mk hk hx)
  rw [(h2 x hx).2] at hc
  simp only [DataW.lit.injEq, Lit.int.injEq, true_and] at hc
  rw [hr, hc]
theorem IMap.lookOk (h : IMap P k e qk qe w b n f) (hk : P.underlying k = some (.int qk)) (ht : P.underlying t = some (.map k e)) (he : P.underlying e = some (.int qe)) (hz : (zeroValue e).run P w = .ok (.int qe 0) w) {x : Int} (hx : wfI qk x) :
    (Instr.lookup t (.map (some b)) (.int qk x) true).run P w = .ok (.tuple #[.int qe ((f x).getD 0), .bool (f x).isSome]) w := by
  obtain ⟨D, h1, h2⟩ := h.own
  have hw0 : (Lit.int qe 0).wf = true := by cases qe <;> decide
  obtain ⟨v, ps, hr, hv⟩ := h1.look_ok (int_keyed hk) ht hz (plainElem_int he hw0) (keyOf_int_mk hk hx)
  obtain ⟨c, rfl, hc, _⟩ := plainElem_int_inv he hv
  have hc' := congrArg Prod.fst hc
  simp only [(h2 x hx).2, DataW.lit.injEq, Lit.int.injEq, true_and] at hc'
  rw [hr, (h2 x hx).1, hc']
theorem nilMap_look (hk : P.underlying k = some (.int qk)) (ht : P.underlying t = some (.map k e)) (hz : (zeroValue e).run P w = .ok (.int qe 0) w) {x : Int} (hx : wfI qk x) :
    (Instr.lookup t (.map none) (.int qk x) false).run P w = .ok (.int qe 0) w := Maps.look_nil false (int_keyed hk) ht hz (keyOf_int_mk hk hx)
theorem IMap.store (h : IMap P k e qk qe w b n f) (hk : P.underlying k = some (.int qk)) (ht : P.underlying t = some (.map k e)) (he : P.underlying e = some (.int qe)) (hn : n < maxLen) {x y : Int} (hx : wfI qk x) (hy : wfI qe y) :
    ∃ w', (Instr.mapUpdate t (.map (some b)) (.int qk x) (.int qe y)).run P w = .ok () w' ∧ IMap P k e qk qe w' b (n + 1) (updI f x y) ∧ Trn b w w' := by
  obtain ⟨D, h1, h2⟩ := h.own
  obtain ⟨w', hr, ho, hg⟩ := h1.update (int_keyed hk) ht hn (keyOf_int_mk hk hx) (plainElem_int he hy)
  refine ⟨w', hr, ⟨⟨_, ho, fun z hz => ?_⟩, fun z u hu => ?_⟩, ⟨hg.os, hg.tape, hg.output, hg.size, fun k hk hc => hg.block k hk (by simpa using hc)⟩⟩
  · unfold updI
    by_cases hzx : z = x
    · subst hzx
      rw [if_pos rfl]
      exact ⟨has_put_same h1.isMap (show WideAt.IsKeyLit (.int qk z) from trivial) _, atKey_put_same h1.isMap (show WideAt.IsKeyLit (.int qk z) from trivial) _ _⟩
    · rw [if_neg hzx]
      have hne : Lit.int qk z ≠ Lit.int qk x := fun h => hzx (by simpa using h)
      exact ⟨(has_put_other hne _).trans (h2 z hz).1, (atKey_put_other hne _ _).trans (h2 z hz).2⟩
  · unfold updI at hu
    by_cases hzx : z = x
    · rw [if_pos hzx] at hu
      cases hu
      exact hy
    · rw [if_neg hzx] at hu
      exact h.wf z u hu
end
section
variable {P : Program} {ops : Array Oper} {rest : List Oper} {o : Oper} {a : Act} {Q : Exit → Act → World → Prop} {t k e : TypeId} {qk qe : IntKind} {w : World} {b n : Nat} {f : Int → Option Int}
/-- m[k] = v at the operation. -/
theorem wpList_mapUpdate_i (hg : o.guard = none) (m x v : Operand) (hop : o.op = Op.mapUpdate t m x v) (hk : P.underlying k = some (.int qk)) (ht : P.underlying t = some (.map k e)) (he : P.underlying e = some (.int qe))
    (h : IMap P k e qk qe w b n f) (hn : n < maxLen) {kx y : Int} (hm : a.eval m = .map (some b)) (hx : a.eval x = .int qk kx) (hv : a.eval v = .int qe y) (hwx : wfI qk kx) (hwy : wfI qe y)
    (hK : ∀ w', IMap P k e qk qe w' b (n + 1) (updI f kx y) → Trn b w w' → wpList P ops Q rest (a.put o.dst undef) w') : wpList P ops Q (o :: rest) a w := by
  refine wpList_plain hg fun K' hK' => ?_
  obtain ⟨w', hrun, r1, r2⟩ := h.store hk ht he hn hwx hwy
  unfold Oper.wp
  simp [execOp, hop, hm, hx, hv, hrun, Result.andThen]
  exact hK' _ _ (hK w' r1 r2)
/-- An entry of a map's literal. -/
theorem wpList_insert_i (hg : o.guard = none) (m x v : Operand) (hop : o.op = Op.insert t m x v) (hk : P.underlying k = some (.int qk)) (ht : P.underlying t = some (.map k e)) (he : P.underlying e = some (.int qe))
    (h : IMap P k e qk qe w b n f) (hn : n < maxLen) {kx y : Int} (hm : a.eval m = .map (some b)) (hx : a.eval x = .int qk kx) (hv : a.eval v = .int qe y) (hwx : wfI qk kx) (hwy : wfI qe y)
    (hK : ∀ w', IMap P k e qk qe w' b (n + 1) (updI f kx y) → Trn b w w' → wpList P ops Q rest (a.put o.dst undef) w') : wpList P ops Q (o :: rest) a w := by
  refine wpList_plain hg fun K' hK' => ?_
  obtain ⟨w', hrun, r1, r2⟩ := h.store hk ht he hn hwx hwy
  unfold Oper.wp
  simp [execOp, hop, hm, hx, hv, hrun, Result.andThen]
  exact hK' _ _ (hK w' r1 r2)
end
end Go.Proofs.Ytnmffkmpkgmkpaa
