/-
  A row of the call's own, of whatever data (OwnD): append, cuts, literals, stores. For every later stage with rows of structs, or of rows.
-/
import Derived.Test.YtnafdgpkofffaaaDoorRd
set_option maxRecDepth 4000
set_option linter.unusedVariables false
set_option linter.unusedSimpArgs false
namespace Go.Proofs.YtnafdgpkofffaaaDoor
open Go Go.RowKit

/-- Cells read as data, one by one. -/
def RdL (w : World) (av : Nat → Prop) (ds : List Dc) (us : List Value) : Prop := us.length = ds.length ∧ ∀ (j : Nat) (d : Dc) (u : Value), ds[j]? = some d → us[j]? = some u → RdC w av d u
theorem RdL.nil (w : World) (av : Nat → Prop) : RdL w av [] [] := ⟨rfl, fun j d u h => by simp at h⟩
theorem RdL.cons {w : World} {av : Nat → Prop} {d : Dc} {u : Value} {ds : List Dc} {us : List Value} (h : RdC w av d u) (hr : RdL w av ds us) : RdL w av (d :: ds) (u :: us) := by
  refine ⟨by rw [List.length_cons, List.length_cons, hr.1], fun j d' u' hd hu => ?_⟩
  match j, hd, hu with
  | 0, hd, hu => cases hd; cases hu; exact h
  | j + 1, hd, hu => exact hr.2 j d' u' (by simpa using hd) (by simpa using hu)
theorem RdL.app {w : World} {av : Nat → Prop} {ds es : List Dc} {us vs : List Value} (h1 : RdL w av ds us) (h2 : RdL w av es vs) : RdL w av (ds ++ es) (us ++ vs) := by
  refine ⟨by rw [List.length_append, List.length_append, h1.1, h2.1], fun j d u hd hu => ?_⟩
  by_cases hj : j < ds.length
  · rw [List.getElem?_append_left hj] at hd
    rw [List.getElem?_append_left (by rw [h1.1]; exact hj)] at hu
    exact h1.2 j d u hd hu
  · rw [List.getElem?_append_right (by omega)] at hd
    rw [List.getElem?_append_right (by rw [h1.1]; omega), h1.1] at hu
    exact h2.2 _ d u hd hu
theorem RdL.map {w w' : World} {av av' : Nat → Prop} {ds : List Dc} {us : List Value} (h : RdL w av ds us) (f : ∀ d u, RdC w av d u → RdC w' av' d u) : RdL w' av' ds us := ⟨h.1, fun j d u hd hu => f d u (h.2 j d u hd hu)⟩
theorem RdL.one {w : World} {av : Nat → Prop} {ds : List Dc} {us : List Value} (h : RdL w av ds us) : ∀ u ∈ us, u.oneCell' = true := fun u hu => by
  obtain ⟨j, hj⟩ := List.getElem?_of_mem hu
  obtain ⟨hj', _⟩ := List.getElem?_eq_some_iff.1 hj
  exact (h.2 j (ds[j]'(by rw [← h.1]; exact hj')) u (List.getElem?_eq_getElem _) hj).one
theorem RdL.take {w : World} {av : Nat → Prop} {ds : List Dc} {us : List Value} (h : RdL w av ds us) (n : Nat) : RdL w av (ds.take n) (us.take n) := by
  refine ⟨by rw [List.length_take, List.length_take, h.1], fun j d u hd hu => ?_⟩
  have hj : j < n := by have := (List.getElem?_eq_some_iff.1 hd).1; rw [List.length_take] at this; omega
  rw [List.getElem?_take_of_lt hj] at hd hu
  exact h.2 j d u hd hu
theorem RdL.drop {w : World} {av : Nat → Prop} {ds : List Dc} {us : List Value} (h : RdL w av ds us) (n : Nat) : RdL w av (ds.drop n) (us.drop n) := by
  refine ⟨by rw [List.length_drop, List.length_drop, h.1], fun j d u hd hu => ?_⟩
  rw [List.getElem?_drop] at hd hu
  exact h.2 _ d u hd hu
/-- What the laws ask of a slice's type: its element's, how many cells and bytes that has. -/
structure RowT (P : Program) (SL T : TypeId) (sz nb : Nat) : Prop where
  slice : P.underlying SL = some (.slice T)
  full : ∃ i z, P.info? T = some i ∧ i.zero = some z ∧ i.size = sz ∧ i.bytes = nb ∧ z.cells.size = sz
  pos : 0 < sz
theorem RowT.mk' {P : Program} {SL T : TypeId} {sz nb : Nat} {z : Value} (h1 : P.underlying SL = some (.slice T)) (h2 : (P.info? T).map (fun i => (i.zero, i.size, i.bytes)) = some (some z, sz, nb)) (h3 : z.cells.size = sz) (h4 : 0 < sz) : RowT P SL T sz nb := by
  obtain ⟨i, a, b, c, d⟩ := info_parts h2
  exact ⟨h1, ⟨i, z, a, b, c, d, h3⟩, h4⟩
theorem RowT.elem {P : Program} {SL T : TypeId} {sz nb : Nat} (R : RowT P SL T sz nb) : P.elem SL = T := by
  unfold Program.elem
  rw [R.slice]
theorem RowT.sizeOf {P : Program} {SL T : TypeId} {sz nb : Nat} (R : RowT P SL T sz nb) (w : World) : (sizeOf (P.elem SL)).run P w = .ok sz w := by
  obtain ⟨i, z, a, b, c, d, e⟩ := R.full
  rw [R.elem]
  simp [Go.sizeOf, typeInfo, a, c]
/-- v is a row of the call's own, made since base, that reads as xs; what its elements lie in is neither its own block nor of av. -/
structure OwnD (T : TypeId) (w : World) (av : Nat → Prop) (base : Nat) (v : Value) (sz : Nat) (xs : List (List Dc)) : Prop where
  own : ∃ cells, w.ownsRow base T sz v xs.length cells ∧ RdL w (fun k => av k ∨ v.ownBlock = some k) xs.flatten cells
  wid : ∀ e ∈ xs, e.length = sz
section
variable {T : TypeId} {w w' : World} {av : Nat → Prop} {base : Nat} {v : Value} {sz : Nat} {xs : List (List Dc)}
theorem OwnD.nil (T : TypeId) (w : World) (av : Nat → Prop) (base sz : Nat) : OwnD T w av base (.slice none 0 0) sz [] := ⟨⟨[], World.ownsRow_nil w base _ _, RdL.nil _ _⟩, fun e h => by simp at h⟩
theorem OwnD.ge (h : OwnD T w av base v sz xs) : ∀ g, v.ownBlock = some g → base ≤ g ∧ g < w.heap.size := by
  obtain ⟨cells, hc, _⟩ := h.own
  exact hc.lt
theorem OwnD.shape (h : OwnD T w av base v sz xs) : ∃ a c, v = .slice a xs.length c := by
  obtain ⟨cells, hc, _⟩ := h.own
  rcases hc.2 with ⟨rfl, h0⟩ | ⟨g, cap, cur, rfl, _⟩
  · exact ⟨_, _, by rw [h0]⟩
  · exact ⟨_, _, rfl⟩
theorem OwnD.kept {chg : Nat → Prop} (h : OwnD T w av base v sz xs) (hsz : w.heap.size ≤ w'.heap.size) (hk : ∀ k, k < w.heap.size → ¬ chg k → w'.heap[k]? = w.heap[k]?) (hown : ∀ g, v.ownBlock = some g → ¬ chg g) (hav : ∀ k, k < w.heap.size → chg k → av k) : OwnD T w' av base v sz xs := by
  obtain ⟨cells, hc, hr⟩ := h.own
  refine ⟨⟨cells, ⟨hc.1, ?_⟩, hr.map fun d u hd => hd.kept hsz fun k hlt hna => hk k hlt fun hch => hna (.inl (hav k hlt hch))⟩, h.wid⟩
  rcases hc.2 with h | ⟨g, cap, cur, rfl, hg, hh, r⟩
  · exact .inl h
  · exact .inr ⟨g, cap, cur, rfl, hg, (hk g (lt_of_block hh) (hown g rfl)).trans hh, r⟩
theorem OwnD.grew (h : OwnD T w av base v sz xs) (g : Grew w w') : OwnD T w' av base v sz xs :=
  h.kept (chg := fun _ => False) g.size (fun k hk _ => g.block k hk) (fun _ _ h => h) (fun _ _ h => h.elim)
theorem OwnD.low {b' : Nat} (h : OwnD T w av base v sz xs) (hb : b' ≤ base) : OwnD T w av b' v sz xs := by
  obtain ⟨cells, hc, hr⟩ := h.own
  refine ⟨⟨cells, ⟨hc.1, ?_⟩, hr⟩, h.wid⟩
  rcases hc.2 with h | ⟨g, cap, cur, e, hg, r⟩
  · exact .inl h
  · exact .inr ⟨g, cap, cur, e, by omega, r⟩
theorem OwnD.less {av' : Nat → Prop} (h : OwnD T w av base v sz xs) (ha : ∀ k, k < w.heap.size → av' k → av k) : OwnD T w av' base v sz xs := by
  obtain ⟨cells, hc, hr⟩ := h.own
  exact ⟨⟨cells, hc, hr.map fun d u hd => hd.mono fun k hk hh => hh.imp (ha k hk) id⟩, h.wid⟩
/-- It reads as xs. -/
theorem OwnD.read (h : OwnD T w av base v sz xs) (hg : ∀ g, v.ownBlock = some g → ¬ av g) : RdC w av (.row sz xs) v := by
  obtain ⟨cells, hc, hr⟩ := h.own
  by_cases hne : xs = []
  · subst hne
    obtain ⟨a, c, rfl⟩ := h.shape
    exact .nil _ _ _
  · rcases hc.2 with ⟨rfl, h0⟩ | ⟨g, cap, cur, rfl, _, hh, hcap, _⟩
    · exact absurd (List.eq_nil_of_length_eq_zero h0) hne
    · refine .row cells hne hcap (hg g rfl) (lt_of_block hh) h.wid hr.1 (fun j u hj => ?_) (fun j d u hd hu => (hr.2 j d u hd hu).mono fun k _ hk => .inl hk)
      have hj' := (List.getElem?_eq_some_iff.1 hj).1
      rw [Nat.zero_add, World.ownsRow.cellAt hc j (by rw [← hc.1]; exact hj')]
      exact hj
end
/-- The cells of a source of elements. -/
def SrcD (w : World) (av : Nat → Prop) (sz : Nat) (ys : List (List Dc)) (a : Option Addr) : Prop := (∀ e ∈ ys, e.length = sz) ∧ ∃ us, RdL w av ys.flatten us ∧ (ys ≠ [] → ∃ ad, a = some ad ∧ ∀ (j : Nat) (u : Value), us[j]? = some u → w.cell? (ad.add j) = some u)
theorem SrcD.nil (w : World) (av : Nat → Prop) (sz : Nat) (a : Option Addr) : SrcD w av sz [] a := ⟨fun e h => by simp at h, [], RdL.nil _ _, fun h => absurd rfl h⟩
theorem RdC.src {w : World} {av : Nat → Prop} {sz : Nat} {ys : List (List Dc)} {a : Option Addr} {n c : Nat} (h : RdC w av (.row sz ys) (.slice a n c)) : n = ys.length ∧ SrcD w av sz ys a := by
  obtain ⟨a', c', e, hx⟩ := h.shape
  simp only [Value.slice.injEq] at e
  obtain ⟨rfl, rfl, rfl⟩ := e
  refine ⟨rfl, ?_⟩
  by_cases hne : ys = []
  · subst hne; exact SrcD.nil _ _ _ _
  · obtain ⟨_, hw, b, off, us, rfl, _, _, hl, hcell, hr⟩ := hx hne
    exact ⟨hw, us, ⟨hl, hr⟩, fun _ => ⟨_, rfl, fun j u hj => by rw [show (⟨b, off, none⟩ : Addr).add j = ⟨b, off + j, none⟩ by simp [Addr.add]]; exact hcell j u hj⟩⟩
theorem SrcD.lit {w : World} {av : Nat → Prop} {sz L : Nat} {cs : Array Value} {T : TypeId} {ys : List (List Dc)} (hL : Blk w L cs T) (hw : ∀ e ∈ ys, e.length = sz) (hr : RdL w av ys.flatten cs.toList) : SrcD w av sz ys (some ⟨L, 0, none⟩) :=
  ⟨hw, cs.toList, hr, fun _ => ⟨_, rfl, fun j u hj => by rw [show (⟨L, 0, none⟩ : Addr).add j = ⟨L, j, none⟩ by unfold Addr.add; split <;> simp_all, hL.cell]; simpa using hj⟩⟩
theorem SrcD.kept {chg : Nat → Prop} {w w' : World} {av : Nat → Prop} {sz : Nat} {ys : List (List Dc)} {a : Option Addr} (h : SrcD w av sz ys a) (hsz : w.heap.size ≤ w'.heap.size) (hk : ∀ k, k < w.heap.size → ¬ chg k → w'.heap[k]? = w.heap[k]?) (ha : ∀ b, a.map (·.block) = some b → ¬ chg b) (hav : ∀ k, k < w.heap.size → chg k → av k) : SrcD w' av sz ys a := by
  obtain ⟨hw, us, hr, hx⟩ := h
  refine ⟨hw, us, hr.map fun d u hd => hd.kept hsz fun k hlt hna => hk k hlt fun hch => hna (hav k hlt hch), fun hne => ?_⟩
  obtain ⟨ad, rfl, hc⟩ := hx hne
  refine ⟨ad, rfl, fun j u hj => ?_⟩
  have hcj := hc j u hj
  have hb : (ad.add j).block = ad.block := by unfold Addr.add; split <;> rfl
  rw [← hcj]
  exact World.cell?_of_block (w := w) (by rw [hb]; exact hk _ (by rw [← hb]; exact World.block_lt_of_cell? w _ hcj) (ha _ rfl))
/-- append(s, x...): the row the call's own, the source whatever reads as elements. -/
theorem run_append_D {P : Program} {SL T : TypeId} {sz nb : Nat} (R : RowT P SL T sz nb) {w : World} {av av' : Nat → Prop} {base : Nat} {v : Value} {xs ys : List (List Dc)} {a : Option Addr} {c : Nat} (ty : TypeId) (h : OwnD T w av base v sz xs) (s : SrcD w av' sz ys a)
    (hav : ∀ k, k < w.heap.size → av k ∨ v.ownBlock = some k → av' k) (hb : base ≤ w.heap.size) (hlen : (xs.length + ys.length) * nb ≤ 140737488355328) (hmax : xs.length + ys.length ≤ maxLen) :
    ∃ v' w', (Builtin.append_ #[SL, SL] ty #[v, .slice a ys.length c]).run P w = .ok v' w' ∧ OwnD T w' av base v' sz (xs ++ ys) ∧ w.grownBy w' v.ownBlock ∧ (v'.ownBlock = v.ownBlock ∨ v'.ownBlock = some w.heap.size) := by
  obtain ⟨i0, z, hi, hz0, hz1, hz2, hzs⟩ := R.full
  obtain ⟨cells, hc, hr⟩ := h.own
  obtain ⟨hw, us, hu, hsrc⟩ := s
  have hul : us.length = ys.length * sz := by rw [hu.1]; exact flat_len hw
  match a, hsrc with
  | none, hsrc =>
    have hne : ys = [] := by
      by_cases h : ys = []
      · exact h
      · obtain ⟨_, e, _⟩ := hsrc h
        cases e
    subst hne
    refine ⟨v, w, ?_, by rw [List.append_nil]; exact h, ⟨rfl, rfl, rfl, Nat.le_refl _, fun _ _ _ => rfl⟩, .inl rfl⟩
    rcases hc.2 with ⟨rfl, h0⟩ | ⟨g, cap, cur, rfl, _, _, hnc, _⟩
    · simp [Builtin.append_, run_underlying R.slice, Go.sizeOf, typeInfo, hi, Builtin.lenOf, Builtin.firstCells, h0]
    · simp [Builtin.append_, run_underlying R.slice, Go.sizeOf, typeInfo, hi, Builtin.lenOf, Builtin.firstCells, hnc, storeCells]
  | some ad, hsrc =>
    have hcell : ∀ (j : Nat) (u : Value), us[j]? = some u → w.cell? (ad.add j) = some u := fun j u hj => by
      by_cases hne : ys = []
      · subst hne
        rw [List.length_nil, Nat.zero_mul] at hul
        rw [List.eq_nil_of_length_eq_zero hul] at hj
        simp at hj
      · obtain ⟨ad', e, hcell⟩ := hsrc hne
        cases e
        exact hcell j u hj
    obtain ⟨v', w', h1, h2, h3, _, h5⟩ := run_append_own_at (P := P) w base SL ty T i0 z sz nb R.slice hi hz0 hz1 hz2 hzs R.pos v xs.length cells hc ad ys.length c us (by rw [hul]) hcell hu.one hmax hlen hb
    refine ⟨v', w', h1, ⟨⟨cells ++ us, by rw [List.length_append]; exact h2, ?_⟩, fun e he => (List.mem_append.1 he).elim (h.wid e) (hw e)⟩, h3, h5⟩
    have key : ∀ (d : Dc) (u : Value), RdC w (fun k => av k ∨ v.ownBlock = some k) d u → RdC w' (fun k => av k ∨ v'.ownBlock = some k) d u := fun d u hd => by
      have h1 : RdC w (fun k => (av k ∨ v'.ownBlock = some k) ∨ v.ownBlock = some k) d u := hd.mono fun k hk hh => by
        rcases hh with (hh | hh) | hh
        · exact .inl hh
        · rcases h5 with h5 | h5
          · rw [h5] at hh; exact .inr hh
          · rw [h5] at hh; simp only [Option.some.injEq] at hh; omega
        · exact .inr hh
      exact (h1.kept h3.size fun k hk hna => h3.block k hk fun e => hna (.inr e.symm)).mono fun k _ hh => .inl hh
    rw [List.flatten_append]
    exact (hr.map key).app (hu.map fun d u hd => key d u (hd.mono fun k hk hh => hav k hk hh))
theorem wp_append_D {P : Program} {SL T : TypeId} {sz nb : Nat} (R : RowT P SL T sz nb) {o : Oper} {a : Act} {w : World} {K : Act → World → Prop} {Q : Exit → Act → World → Prop} (s x : Operand)
    (ho : o.op = .call { callee := .builtin .append, args := #[s, x], argTypes := #[SL, SL] }) {av av' : Nat → Prop} {base : Nat} {v : Value} {xs ys : List (List Dc)} {ad : Option Addr} {c : Nat} (h : OwnD T w av base v sz xs) (hs : SrcD w av' sz ys ad)
    (hav : ∀ k, k < w.heap.size → av k ∨ v.ownBlock = some k → av' k) (hb : base ≤ w.heap.size) (hlen : (xs.length + ys.length) * nb ≤ 140737488355328) (hmax : xs.length + ys.length ≤ maxLen) (he : a.eval s = v) (hx : a.eval x = .slice ad ys.length c)
    (hK : ∀ v' w', Hid (OwnD T w' av base v' sz (xs ++ ys)) → w.grownBy w' v.ownBlock → (v'.ownBlock = v.ownBlock ∨ v'.ownBlock = some w.heap.size) → K (a.put o.dst v') w') : o.wp P a w K Q := by
  obtain ⟨v', w', hr, h2, h3, h5⟩ := run_append_D R o.type h hs hav hb hlen hmax (c := c)
  unfold Oper.wp execOp
  simp only [ho, resolve, invoke, builtin, Sem.run_bind, Sem.run_pure, Result.andThen_ok, List.map_toArray, List.map_cons, List.map_nil, he, hx, hr]
  exact hK v' w' h2 h3 h5
theorem wpList_append_D {P : Program} {SL T : TypeId} {sz nb : Nat} (R : RowT P SL T sz nb) {ops : Array Oper} {rest : List Oper} {o : Oper} {a : Act} {w : World} {Q : Exit → Act → World → Prop} (hgd : o.guard = none) (s x : Operand)
    (ho : o.op = .call { callee := .builtin .append, args := #[s, x], argTypes := #[SL, SL] }) {av av' : Nat → Prop} {base : Nat} {v : Value} {xs ys : List (List Dc)} {ad : Option Addr} {c : Nat} (h : OwnD T w av base v sz xs) (hs : SrcD w av' sz ys ad)
    (hav : ∀ k, k < w.heap.size → av k ∨ v.ownBlock = some k → av' k) (hb : base ≤ w.heap.size) (hlen : (xs.length + ys.length) * nb ≤ 140737488355328) (hmax : xs.length + ys.length ≤ maxLen) (he : a.eval s = v) (hx : a.eval x = .slice ad ys.length c)
    (hK : ∀ v' w', Hid (OwnD T w' av base v' sz (xs ++ ys)) → w.grownBy w' v.ownBlock → (v'.ownBlock = v.ownBlock ∨ v'.ownBlock = some w.heap.size) → wpList P ops Q rest (a.put o.dst v') w') : wpList P ops Q (o :: rest) a w :=
  wpList_plain hgd fun _ hk => wp_append_D R s x ho h hs hav hb hlen hmax he hx fun v' w' h2 h3 h4 => hk _ _ (hK v' w' h2 h3 h4)
/-- s[lo:hi]: what it reads as. -/
theorem RdC.cut {w : World} {av : Nat → Prop} {sz : Nat} {xs : List (List Dc)} {a : Option Addr} {n c : Nat} (h : RdC w av (.row sz xs) (.slice a n c)) {lo hi : Nat} (h1 : lo ≤ hi) (h2 : hi ≤ xs.length) :
    RdC w av (.row sz ((xs.drop lo).take (hi - lo))) (.slice (if c = lo then a else a.map (·.add (lo * sz))) (hi - lo) (c - lo)) := by
  obtain ⟨a', c', e, hx⟩ := h.shape
  simp only [Value.slice.injEq] at e
  obtain ⟨rfl, rfl, rfl⟩ := e
  have hl : ((xs.drop lo).take (hi - lo)).length = hi - lo := by rw [List.length_take, List.length_drop]; omega
  by_cases hne : (xs.drop lo).take (hi - lo) = []
  · rw [hne, show hi - lo = 0 by rw [← hl, hne]; rfl]
    exact .nil _ _ _
  · have hpos : 0 < hi - lo := by rw [← hl]; exact List.length_pos_iff.2 hne
    obtain ⟨hc, hw, b, off, us, rfl, hav, hb, hul, hcell, hr⟩ := hx (by rintro rfl; simp at h2; omega)
    rw [if_neg (by omega)]
    have hwd : ∀ e ∈ xs.drop lo, e.length = sz := fun e he => hw e (List.mem_of_mem_drop he)
    have hfl : ((xs.drop lo).take (hi - lo)).flatten = (xs.flatten.drop (lo * sz)).take ((hi - lo) * sz) := by rw [flat_take _ hwd, flat_drop _ hw]
    have e1 : Option.map (fun x => x.add (lo * sz)) (some (⟨b, off, none⟩ : Addr)) = some ⟨b, off + lo * sz, none⟩ := by simp [Addr.add]
    have key := RdC.row (w := w) (av := av) (sz := sz) (xs := (xs.drop lo).take (hi - lo)) (b := b) (off := off + lo * sz) (c := c - lo) ((us.drop (lo * sz)).take ((hi - lo) * sz)) hne (by rw [hl]; omega) hav hb (fun e he => hwd e (List.mem_of_mem_take he))
      (by rw [hfl, List.length_take, List.length_take, List.length_drop, List.length_drop, hul]) (fun j u hj => by
        have hj' : j < (hi - lo) * sz := by have := (List.getElem?_eq_some_iff.1 hj).1; rw [List.length_take] at this; omega
        rw [List.getElem?_take_of_lt hj', List.getElem?_drop] at hj
        rw [Nat.add_assoc]
        exact hcell _ u hj) (fun j d u hd hu => by
        have hj' : j < (hi - lo) * sz := by have := (List.getElem?_eq_some_iff.1 hu).1; rw [List.length_take] at this; omega
        rw [hfl, List.getElem?_take_of_lt hj', List.getElem?_drop] at hd
        rw [List.getElem?_take_of_lt hj', List.getElem?_drop] at hu
        exact hr _ d u hd hu)
    rw [hl] at key
    rw [e1]
    exact key
/-- s[lo:hi], as the machine runs it: the value as a variable. -/
theorem RdC.run_cut {P : Program} {SL T : TypeId} {sz nb : Nat} (R : RowT P SL T sz nb) {w : World} {av : Nat → Prop} {xs : List (List Dc)} {a : Option Addr} {n c : Nat} (h : RdC w av (.row sz xs) (.slice a n c)) (hnc : n ≤ c) {lo hi : Nat} (h1 : lo ≤ hi) (h2 : hi ≤ xs.length) :
    ∃ a' c', RdC w av (.row sz ((xs.drop lo).take (hi - lo))) (.slice a' (hi - lo) c') ∧ hi - lo ≤ c' ∧ (0 < hi - lo → a' = a.map (·.add (lo * sz))) ∧ (lo = 0 → 0 < c → a' = a.map (·.add 0) ∧ c' = c) ∧
      (∀ k1 k2 w', (Instr.sliceAt SL (.slice a n c) (some (.int k1 lo)) (some (.int k2 hi)) none).run P w' = .ok (.slice a' (hi - lo) c') w') ∧
      (lo = 0 → ∀ k2 w', (Instr.sliceAt SL (.slice a n c) none (some (.int k2 hi)) none).run P w' = .ok (.slice a' (hi - lo) c') w') ∧
      (hi = xs.length → ∀ k1 w', (Instr.sliceAt SL (.slice a n c) (some (.int k1 lo)) none none).run P w' = .ok (.slice a' (hi - lo) c') w') := by
  have hn := h.elem.1
  subst hn
  have hu : P.underlying SL = some (.slice (P.elem SL)) := by rw [R.elem]; exact R.slice
  refine ⟨_, _, h.cut h1 h2, by omega, fun hp => by rw [if_neg (by omega)], fun h0 hc => ⟨by rw [if_neg (by omega), h0, Nat.zero_mul], by omega⟩, fun k1 k2 w' => ?_, fun h0 k2 w' => ?_, fun he k1 w' => ?_⟩
  · rw [run_sliceAt_slice w' _ _ _ _ _ hu, run_slice_lh w' _ a _ c hu k1 k2 lo hi (by omega) (by omega) (by omega), R.sizeOf]
    simp only [Result.andThen_ok, sliced, Int.toNat_natCast]
  · subst h0
    rw [run_sliceAt_slice w' _ _ _ _ _ hu, run_slice_h w' _ a _ c hu k2 hi (by omega) (by omega), R.sizeOf]
    simp only [Result.andThen_ok, sliced, Int.toNat_natCast]
  · subst he
    rw [run_sliceAt_slice w' _ _ _ _ _ hu, run_slice_l w' _ a _ c hu k1 lo (by omega) (by omega), R.sizeOf]
    simp only [Result.andThen_ok, sliced, Int.toNat_natCast]
/-- The first of a row's own elements: its own, too. -/
theorem OwnD.front {T : TypeId} {w : World} {av : Nat → Prop} {base g n c sz : Nat} {xs : List (List Dc)} (h : OwnD T w av base (.slice (some ⟨g, 0, none⟩) n c) sz xs) {k : Nat} (hk : k ≤ xs.length) : OwnD T w av base (.slice (some ⟨g, 0, none⟩) k c) sz (xs.take k) := by
  obtain ⟨cells, hc, hr⟩ := h.own
  have hlk : (xs.take k).length = k := by rw [List.length_take]; omega
  refine ⟨⟨cells.take (k * sz), ⟨?_, ?_⟩, ?_⟩, fun e he => h.wid e (List.mem_of_mem_take he)⟩
  · rw [hlk, List.length_take, hc.1]
    exact Nat.min_eq_left (Nat.mul_le_mul_right _ hk)
  · rcases hc.2 with ⟨h', _⟩ | ⟨g', cap, cur, h', hg, hh, hcap, hm, hs, ht⟩
    · simp at h'
    · simp only [Value.slice.injEq, Option.some.injEq, Addr.mk.injEq, and_true] at h'
      obtain ⟨rfl, rfl, rfl⟩ := h'
      refine .inr ⟨g, c, cur, by rw [hlk], hg, hh, by rw [hlk]; omega, hm, hs, ?_⟩
      rw [hlk, ← ht, List.take_take, Nat.min_eq_left (Nat.mul_le_mul_right _ hk)]
  · rw [flat_take _ h.wid]
    exact hr.take _
/-- A cell of a row of the call's own is stored. -/
theorem OwnD.setCell {T : TypeId} {w : World} {av : Nat → Prop} {base g n c sz : Nat} {xs ys : List (List Dc)} (h : OwnD T w av base (.slice (some ⟨g, 0, none⟩) n c) sz xs) (j : Nat) (d : Dc) (u : Value) (hd : RdC w (fun k => av k ∨ k = g) d u) (hw : ∀ e ∈ ys, e.length = sz) (hl : ys.length = xs.length) (hf : ys.flatten = xs.flatten.set j d) :
    OwnD T (w.setCell ⟨g, j, none⟩ u) av base (.slice (some ⟨g, 0, none⟩) n c) sz ys := by
  obtain ⟨cells, hc, hr⟩ := h.own
  have blk : ∀ k, k ≠ g → (w.setCell ⟨g, j, none⟩ u).heap[k]? = w.heap[k]? := fun k hk => Below.heap_setCell w ⟨g, j, none⟩ u k hk
  have kept : ∀ (d : Dc) (u' : Value), RdC w (fun k => av k ∨ (Value.slice (some ⟨g, 0, none⟩) n c).ownBlock = some k) d u' → RdC (w.setCell ⟨g, j, none⟩ u) (fun k => av k ∨ (Value.slice (some ⟨g, 0, none⟩) n c).ownBlock = some k) d u' := fun d u' hd => hd.kept (by simp) fun k _ hna => blk k fun e => hna (.inr (by rw [e]; rfl))
  refine ⟨⟨cells.set j u, ⟨?_, ?_⟩, ?_⟩, hw⟩
  · rw [List.length_set, hc.1, hl]
  · rcases hc.2 with ⟨h', _⟩ | ⟨g', cap, cur, h', hg, hh, hcap, hm, hs, ht⟩
    · simp at h'
    · simp only [Value.slice.injEq, Option.some.injEq, Addr.mk.injEq, and_true] at h'
      obtain ⟨rfl, rfl, rfl⟩ := h'
      refine .inr ⟨g, c, cur.setIfInBounds j u, by rw [hl], hg, ?_, by rw [hl]; exact hcap, hm, by simpa using hs, ?_⟩
      · exact Blk.set (w := w) (b := g) (o := j) (cs := cur) (T := T) hh u
      · rw [hl, ← ht]
        rw [Array.toList_setIfInBounds, List.take_set]
  · rw [hf]
    refine ⟨by rw [List.length_set, List.length_set, hr.1], fun i d' u' hd' hu' => ?_⟩
    rw [List.getElem?_set] at hd' hu'
    by_cases e : j = i
    · subst e
      rw [if_pos rfl] at hd' hu'
      split at hd'
      · cases hd'
        split at hu'
        · cases hu'
          exact kept _ _ (hd.mono fun k _ hk => hk.imp id fun e => by simpa [Value.ownBlock] using e.symm)
        · cases hu'
      · cases hd'
    · rw [if_neg e] at hd' hu'
      exact kept _ _ (hr.2 i d' u' hd' hu')
end Go.Proofs.YtnafdgpkofffaaaDoor
