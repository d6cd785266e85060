/-
  Bytes in memory: a value that reads as bytes, whole (Buf), and a row of the call's own (Row); what cuts, append, copy and make do to them, one step each, whatever the addresses (nil, too).
-/
import Derived.Test.YtnafdgpkofffaaaDoorRows
import Derived.Test.YtnafdgpkofffaaaDoorGrew
import Derived.Test.YtnafdgpkofffaaaDoorBitsC
import Derived.Test.YtnafdgpkofffaaaDoorLaw
import Derived.WalkKit
import Derived.OwnWalk
import Derived.Laws.OwnMore
import Derived.Laws.CopyOwn
import Derived.Deep.RegionLaw
set_option maxRecDepth 4000
set_option linter.unusedVariables false
set_option linter.unusedSimpArgs false
namespace Go.Proofs.YtnafdgpkofffaaaDoor
open Go.RowKit Go.ChangeShapes Go.WideShapes

/-! ### A value that reads as bytes -/
/-- The slice value v reads as the bytes xs in world w. -/
structure Buf (w : World) (v : Value) (xs : List Int) : Prop where
  shape : ∃ a c, v = .slice a xs.length c ∧ xs.length ≤ c ∧ (xs ≠ [] → ∃ b off, a = some ⟨b, off, none⟩ ∧ BytesAt w b off xs)
  ok : AreBytes xs
  len : xs.length ≤ maxLen

theorem Buf.bytes {w : World} {v : Value} {xs : List Int} (h : Buf w v xs) : BytesIn w v xs := by
  obtain ⟨a, c, rfl, _, ha⟩ := h.shape
  by_cases hx : xs = []
  · subst hx; exact .inl ⟨a, c, rfl, rfl⟩
  · obtain ⟨b, off, rfl, hb⟩ := ha hx
    exact .inr ⟨b, off, c, rfl, hb⟩
theorem BytesAt.lt {w : World} {b off : Nat} {xs : List Int} (h : BytesAt w b off xs) (hx : xs ≠ []) : b < w.heap.size := by
  have := h 0 (List.length_pos_iff.2 hx)
  exact World.block_lt_of_cell? w _ this
theorem BytesAt.grew {w w' : World} {b off : Nat} {xs : List Int} (h : BytesAt w b off xs) (g : Grew w w') : BytesAt w' b off xs := by
  by_cases hx : xs = []
  · subst hx; intro i hi; simp at hi
  · intro i hi
    rw [(gcell g).1 b (off + i) (h.lt hx)]
    exact h i hi
theorem Buf.grew {w w' : World} {v : Value} {xs : List Int} (h : Buf w v xs) (g : Grew w w') : Buf w' v xs := by
  obtain ⟨a, c, rfl, hc, ha⟩ := h.shape
  exact ⟨⟨a, c, rfl, hc, fun hx => by obtain ⟨b, off, rfl, hb⟩ := ha hx; exact ⟨b, off, rfl, hb.grew g⟩⟩, h.ok, h.len⟩
theorem Buf.nil (w : World) : Buf w (.slice none 0 0) [] := ⟨⟨none, 0, rfl, Nat.zero_le _, fun h => absurd rfl h⟩, fun x hx => by simp at hx, Nat.zero_le _⟩
theorem Buf.drew {w : World} {v : Value} {xs : List Int} (h : Buf w v xs) : Buf w.drew v xs := h.grew ((Grew.refl w).drew1)
/-- As a source: the j-th cell. -/
theorem Buf.src {w : World} {a : Option Addr} {n c : Nat} {xs : List Int} (h : Buf w (.slice a n c) xs) (hn : 0 < n) : ∃ ad, a = some ad ∧ ∀ j u, (xs.map (Value.int .u8))[j]? = some u → w.cell? (ad.add j) = some u := by
  obtain ⟨a', c', e, _, ha⟩ := h.shape
  simp only [Value.slice.injEq] at e
  obtain ⟨rfl, rfl, rfl⟩ := e
  obtain ⟨b, off, rfl, hb⟩ := ha (List.length_pos_iff.1 hn)
  refine ⟨_, rfl, fun j u hj => ?_⟩
  obtain ⟨hj', he⟩ := List.getElem?_eq_some_iff.1 hj
  rw [List.length_map] at hj'
  have := hb j hj'
  rw [show (⟨b, off, none⟩ : Addr).add j = ⟨b, off + j, none⟩ by simp [Addr.add], this, ← he]
  simp [hj']
theorem Buf.lenEq {w : World} {a : Option Addr} {n c : Nat} {xs : List Int} (h : Buf w (.slice a n c) xs) : n = xs.length ∧ n ≤ c := by
  obtain ⟨a', c', e, hc, _⟩ := h.shape
  simp only [Value.slice.injEq] at e
  obtain ⟨rfl, rfl, rfl⟩ := e
  exact ⟨rfl, hc⟩

/-- A store into a variable that holds a slice: no bytes turn. -/
theorem Buf.store {w : World} {v : Value} {xs : List Int} (h : Buf w v xs) {R n c : Nat} {a : Option Addr} {T : TypeId} (hR : Blk w R #[.slice a n c] T) (u : Value) : Buf (w.setCell ⟨R, 0, none⟩ u) v xs := by
  obtain ⟨a', c', rfl, hc, ha⟩ := h.shape
  refine ⟨⟨a', c', rfl, hc, fun hx => ?_⟩, h.ok, h.len⟩
  obtain ⟨b, off, rfl, hb⟩ := ha hx
  refine ⟨b, off, rfl, fun i hi => ?_⟩
  have h1 := hb i hi
  by_cases he : b = R
  · subst he
    rw [hR.cell] at h1
    match off + i, h1 with
    | 0, h1 => simp at h1
    | k + 1, h1 => simp at h1
  · rw [← h1]
    exact World.cell?_of_block (Below.heap_setCell w ⟨R, 0, none⟩ u b he)

/-! ### A cut -/
/-- The bytes from lo on, before hi. -/
def cutL (xs : List Int) (lo hi : Nat) : List Int := (xs.drop lo).take (hi - lo)
theorem cutL_length {xs : List Int} {lo hi : Nat} (_h1 : lo ≤ hi) (h2 : hi ≤ xs.length) : (cutL xs lo hi).length = hi - lo := by simp [cutL]; omega
theorem cutL_all (xs : List Int) : cutL xs 0 xs.length = xs := by simp [cutL]
theorem cutL_getD {xs : List Int} {lo hi i : Nat} (h : i < hi - lo) : (cutL xs lo hi).getD i 0 = xs.getD (lo + i) 0 := by
  simp only [cutL, List.getD_eq_getElem?_getD]
  rw [List.getElem?_take_of_lt h, List.getElem?_drop]
theorem AreBytes.cut {xs : List Int} (h : AreBytes xs) (lo hi : Nat) : AreBytes (cutL xs lo hi) := fun x hx => h x (List.mem_of_mem_drop (List.mem_of_mem_take hx))
theorem Buf.cut {w : World} {a : Option Addr} {n c : Nat} {xs : List Int} (h : Buf w (.slice a n c) xs) {lo hi : Nat} (h1 : lo ≤ hi) (h2 : hi ≤ xs.length) :
    Buf w (.slice (if c = lo then a else a.map (·.add (lo * 1))) (hi - lo) (c - lo)) (cutL xs lo hi) := by
  obtain ⟨a', c', e, hc, ha⟩ := h.shape
  simp only [Value.slice.injEq] at e
  obtain ⟨rfl, rfl, rfl⟩ := e
  have hl := cutL_length h1 h2
  refine ⟨⟨_, c - lo, by rw [hl], by omega, fun hne => ?_⟩, h.ok.cut lo hi, by have := h.len; omega⟩
  have hpos : 0 < hi - lo := by rw [← hl]; exact List.length_pos_iff.2 hne
  obtain ⟨b, off, rfl, hb⟩ := ha (by intro he; subst he; simp at h2; omega)
  rw [if_neg (by omega)]
  refine ⟨b, off + lo, ?_, fun i hi' => ?_⟩
  · simp [Addr.add]
  · rw [hl] at hi'
    rw [cutL_getD (by omega), Nat.add_assoc]
    exact hb (lo + i) (by omega)

theorem u8_size : ∀ w, (sizeOf (Tryd.prog.elem 22)).run Tryd.prog w = .ok 1 w := by
  obtain ⟨i0, hi, _, hz1, _⟩ := info_parts u8_info
  intro w
  rw [show Tryd.prog.elem 22 = 5 by kernel_rfl]
  simp [sizeOf, typeInfo, hi, hz1]
/-- s[lo:hi], as the machine runs it: the value as a variable. -/
theorem Buf.run_cut {w : World} {a : Option Addr} {n c : Nat} {xs : List Int} (h : Buf w (.slice a n c) xs) {lo hi : Nat} (h1 : lo ≤ hi) (h2 : hi ≤ xs.length) :
    ∃ a' c', Buf w (.slice a' (hi - lo) c') (cutL xs lo hi) ∧ (0 < hi - lo → a' = a.map (·.add lo)) ∧
      (∀ k1 k2 w', (Instr.sliceAt 22 (.slice a n c) (some (.int k1 lo)) (some (.int k2 hi)) none).run Tryd.prog w' = .ok (.slice a' (hi - lo) c') w') ∧
      (lo = 0 → ∀ k2 w', (Instr.sliceAt 22 (.slice a n c) none (some (.int k2 hi)) none).run Tryd.prog w' = .ok (.slice a' (hi - lo) c') w') ∧
      (hi = xs.length → ∀ k1 w', (Instr.sliceAt 22 (.slice a n c) (some (.int k1 lo)) none none).run Tryd.prog w' = .ok (.slice a' (hi - lo) c') w') := by
  obtain ⟨rfl, hc⟩ := h.lenEq
  have hu : Tryd.prog.underlying 22 = some (.slice (Tryd.prog.elem 22)) := by kernel_rfl
  refine ⟨_, _, h.cut h1 h2, fun hp => by rw [if_neg (by omega), Nat.mul_one], fun k1 k2 w' => ?_, fun h0 k2 w' => ?_, fun he k1 w' => ?_⟩
  · rw [run_sliceAt_slice w' _ _ _ _ _ hu, run_slice_lh w' _ a _ c hu k1 k2 lo hi (by omega) (by omega) (by omega), u8_size]
    simp only [Result.andThen_ok, sliced, Int.toNat_natCast]
  · subst h0
    rw [run_sliceAt_slice w' _ _ _ _ _ hu, run_slice_h w' _ a _ c hu k2 hi (by omega) (by omega), u8_size]
    simp only [Result.andThen_ok, sliced, Int.toNat_natCast]
  · subst he
    rw [run_sliceAt_slice w' _ _ _ _ _ hu, run_slice_l w' _ a _ c hu k1 lo (by omega) (by omega), u8_size]
    simp only [Result.andThen_ok, sliced, Int.toNat_natCast]
/-- A cut as one step of a walk. -/
theorem wpList_cut {P : Program} {ops : Array Oper} {rest : List Oper} {o : Oper} {a : Act} {w : World} {Q : Exit → Act → World → Prop} (hgd : o.guard = none) (t : TypeId) (x : Operand) (lo hi : Option Operand) (ho : o.op = .slice t x lo hi none)
    (v' : Value) (hrun : (Instr.sliceAt t (a.eval x) (lo.map a.eval) (hi.map a.eval) none).run P w = .ok v' w) (h : wpList P ops Q rest (a.put o.dst v') w) : wpList P ops Q (o :: rest) a w := by
  refine wpList_plain hgd fun K hK => ?_
  unfold Oper.wp
  simp [execOp, ho, hrun, Result.andThen]
  exact hK _ _ h

/-! ### A row of the call's own -/
/-- v is a row made since base, and reads as xs. -/
def Row (w : World) (base : Nat) (v : Value) (xs : List Int) : Prop := w.ownsRow base 5 1 v xs.length (xs.map (Value.int .u8))
theorem Row.buf {w : World} {base : Nat} {v : Value} {xs : List Int} (h : Row w base v xs) (hx : AreBytes xs) : Buf w v xs := by
  have hb := BytesIn.of_own h
  rcases h.2 with ⟨rfl, h0⟩ | ⟨g, cap, cur, rfl, _, _, hn, hc, _⟩
  · obtain rfl : xs = [] := List.eq_nil_of_length_eq_zero h0
    exact Buf.nil w
  · refine ⟨⟨_, cap, rfl, hn, fun hne => ?_⟩, hx, by omega⟩
    rcases hb with ⟨a, c, _, h2⟩ | ⟨b, off, c, e, hb⟩
    · exact absurd h2 hne
    · simp only [Value.slice.injEq, Option.some.injEq, Addr.mk.injEq] at e
      obtain ⟨⟨rfl, rfl, _⟩, _, rfl⟩ := e
      exact ⟨g, 0, rfl, hb⟩
theorem Row.low {w : World} {b b' : Nat} {v : Value} {xs : List Int} (h : Row w b v xs) (hb : b' ≤ b) : Row w b' v xs := by
  refine ⟨h.1, ?_⟩
  rcases h.2 with h | ⟨g, cap, cur, e, hg, r⟩
  · exact .inl h
  · exact .inr ⟨g, cap, cur, e, by omega, r⟩
theorem Row.grew {w w' : World} {b : Nat} {v : Value} {xs : List Int} (h : Row w b v xs) (g : Grew w w') : Row w' b v xs := by
  refine ⟨h.1, ?_⟩
  rcases h.2 with h | ⟨b', cap, cur, e, hg, hc, r⟩
  · exact .inl h
  · refine .inr ⟨b', cap, cur, e, hg, ?_, r⟩
    rw [Below.block g b' (lt_of_block hc)]
    exact hc
theorem Row.nil (w : World) (base : Nat) : Row w base (.slice none 0 0) [] := World.ownsRow_nil w base _ _
theorem Row.lit (w : World) (base : Nat) (hb : base ≤ w.heap.size) (cs : Array Value) (xs : List Int) (h : cs.toList = xs.map (Value.int .u8)) (hl : xs.length ≤ maxLen) (b : Nat) (hbe : b = w.heap.size) (n : Nat) (hn : n = xs.length) : Row (w.alloc (.cells cs 5)) base (.slice (some ⟨b, 0, none⟩) n n) xs := by
  subst hbe; subst hn
  have := World.ownsRow_lit (base := base) (e := 5) (size := 1) w cs xs.length hb hl (by rw [← Array.length_toList, h]; simp)
  rw [h] at this
  exact this
theorem Row.set {w : World} {b c o : Nat} {v : Value} {xs : List Int} (h : Row w b v xs) (hc : c < b) (u : Value) : Row (w.setCell ⟨c, o, none⟩ u) b v xs := by
  refine ⟨h.1, ?_⟩
  rcases h.2 with h | ⟨b', cap, cur, e, hg, hh, r⟩
  · exact .inl h
  · refine .inr ⟨b', cap, cur, e, hg, ?_, r⟩
    rw [Below.heap_setCell w ⟨c, o, none⟩ u b' (by show b' ≠ c; omega)]
    exact hh
theorem Row.alloc {w : World} {b : Nat} {v : Value} {xs : List Int} (h : Row w b v xs) (o : Obj) : Row (w.alloc o) b v xs := h.grew ((Grew.refl w).alloc o)
theorem Row.ge {w : World} {base : Nat} {v : Value} {xs : List Int} (h : Row w base v xs) : ∀ g, v.ownBlock = some g → base ≤ g := own_ge h

/-- make([]byte, n) -/
theorem wpList_make_b {ops : Array Oper} {rest : List Oper} {o : Oper} {a : Act} {w W : World} {Q : Exit → Act → World → Prop} (hg : o.guard = none) (l c : Operand) (hop : o.op = Op.makeSlice 22 l c) (hgr : Grew W w)
    (kl kc : IntKind) (L C : Int) (n : Nat) (hl : a.eval l = .int kl L) (hc : a.eval c = .int kc C) (hL : L = (n : Int)) (hC : C = (n : Int)) (b2 : n ≤ 281474976710656)
    (hK : ∀ w', Hid (Row w' w.heap.size (.slice (some ⟨w.heap.size, 0, none⟩) n n) (List.replicate n 0)) → Grew W w' → wpList Tryd.prog ops Q rest (a.put o.dst (.slice (some ⟨w.heap.size, 0, none⟩) n n)) w') :
    wpList Tryd.prog ops Q (o :: rest) a w := by
  obtain ⟨i0, hi, hz0, hz1, hz2⟩ := info_parts u8_info
  refine wpList_make_full w hg l c 22 hop w.heap.size 5 i0 _ 1 Tryd.underlying22 hi hz0 hz1 kl kc L C n hl hc hL hC (by rw [hz2]; omega) (by unfold maxLen; omega) (Nat.le_refl _) fun w' hown hgb => ?_
  refine hK w' ?_ (Below.grown hgr hgb hgr.size (fun k h => by cases h))
  show Row _ _ _ _
  unfold Row
  rw [List.length_replicate]
  rw [show (madeCells (Value.int .u8 0).cells (n * 1)).toList = (List.replicate n (0 : Int)).map (Value.int .u8) by simp [Value.cells, toList_madeCells_one]] at hown
  exact hown

/-- append(s, x...), the row the call's own, the source whatever reads as bytes. -/
theorem run_append_b {w : World} {base : Nat} {v u : Value} {xs ys : List Int} (ty : TypeId) (hown : Row w base v xs) (hu : Buf w u ys) (hb : base ≤ w.heap.size) (hlen : xs.length + ys.length ≤ 140737488355328) :
    ∃ v' w', (Builtin.append_ #[22, 22] ty #[v, u]).run Tryd.prog w = .ok v' w' ∧ Row w' base v' (xs ++ ys) ∧ w.grownBy w' v.ownBlock := by
  obtain ⟨i0, hi, hz0, hz1, hz2⟩ := info_parts u8_info
  obtain ⟨a, c, rfl, hc, ha⟩ := hu.shape
  have key : ∀ ad : Addr, (∀ j u, (ys.map (Value.int .u8))[j]? = some u → w.cell? (ad.add j) = some u) → ∃ v' w', (Builtin.append_ #[22, 22] ty #[v, .slice (some ad) ys.length c]).run Tryd.prog w = .ok v' w' ∧ Row w' base v' (xs ++ ys) ∧ w.grownBy w' v.ownBlock := fun ad hsrc => by
    obtain ⟨v', w', hr, ho, hg, _⟩ := run_append_own (P := Tryd.prog) w base 22 ty 5 i0 (.int .u8 0) 1 1 Tryd.underlying22 hi hz0 hz1 hz2 rfl (by decide) v xs.length (xs.map (Value.int .u8)) hown ad ys.length c (ys.map (Value.int .u8)) (by simp) hsrc
      (fun x hx => by obtain ⟨y, _, rfl⟩ := List.mem_map.1 hx; rfl) (by unfold maxLen; omega) (by omega) hb
    exact ⟨v', w', hr, by unfold Row; rw [List.length_append, List.map_append]; exact ho, hg⟩
  match a, ha with
  | some ad, ha =>
    refine key ad fun j u hj => ?_
    have hne : ys ≠ [] := by rintro rfl; simp at hj
    obtain ⟨ad', e, hs⟩ := hu.src (List.length_pos_iff.2 hne)
    cases e
    exact hs j u hj
  | none, ha =>
    have hne : ys = [] := by
      by_cases h : ys = []
      · exact h
      · obtain ⟨_, _, e, _⟩ := ha h
        cases e
    subst hne
    refine ⟨v, w, ?_, by rw [List.append_nil]; exact hown, ⟨rfl, rfl, rfl, Nat.le_refl _, fun _ _ _ => rfl⟩⟩
    rcases hown.2 with ⟨rfl, h0⟩ | ⟨g, cap, cur, rfl, _, _, hnc, _⟩
    · simp [Builtin.append_, run_underlying Tryd.underlying22, sizeOf, typeInfo, hi, Builtin.lenOf, Builtin.firstCells, h0]
    · simp [Builtin.append_, run_underlying Tryd.underlying22, sizeOf, typeInfo, hi, Builtin.lenOf, Builtin.firstCells, hnc, storeCells]
theorem wp_append_b {o : Oper} {a : Act} {w W : World} {K : Act → World → Prop} {Q : Exit → Act → World → Prop} (s x : Operand)
    (ho : o.op = .call { callee := .builtin .append, args := #[s, x], argTypes := #[22, 22] }) (hgr : Grew W w)
    {v u : Value} {xs ys : List Int} (hown : Row w W.heap.size v xs) (hu : Buf w u ys) (hs : a.eval s = v) (hx : a.eval x = u) (hlen : xs.length + ys.length ≤ 140737488355328)
    (h : ∀ v' w', Hid (Row w' W.heap.size v' (xs ++ ys)) → Grew W w' → w.grownBy w' v.ownBlock → K (a.put o.dst v') w') : o.wp Tryd.prog a w K Q := by
  obtain ⟨v', w', hr, ho', hg⟩ := run_append_b o.type hown hu hgr.size hlen
  unfold Oper.wp execOp
  simp only [ho, resolve, invoke, builtin, Sem.run_bind, Sem.run_pure, Result.andThen_ok, List.map_toArray, List.map_cons, List.map_nil, hs, hx, hr]
  exact h v' w' ho' (Below.grown hgr hg hgr.size fun k hk => hown.ge k hk) hg
theorem wpList_append_b {ops : Array Oper} {rest : List Oper} {o : Oper} {a : Act} {w W : World} {Q : Exit → Act → World → Prop} (hgd : o.guard = none) (s x : Operand)
    (ho : o.op = .call { callee := .builtin .append, args := #[s, x], argTypes := #[22, 22] }) (hgr : Grew W w)
    {v u : Value} {xs ys : List Int} (hown : Row w W.heap.size v xs) (hu : Buf w u ys) (hs : a.eval s = v) (hx : a.eval x = u) (hlen : xs.length + ys.length ≤ 140737488355328)
    (h : ∀ v' w', Hid (Row w' W.heap.size v' (xs ++ ys)) → Grew W w' → w.grownBy w' v.ownBlock → wpList Tryd.prog ops Q rest (a.put o.dst v') w') : wpList Tryd.prog ops Q (o :: rest) a w :=
  wpList_plain hgd fun _ hK => wp_append_b s x ho hgr hown hu hs hx hlen fun v' w' h2 h3 h4 => hK _ _ (h v' w' h2 h3 h4)

/-- The same as one step of a region that draws its order. -/
theorem step_append_b {ops : Array Oper} {o : Oper} {a : Act} {w W : World} {K : Act → World → Prop} {Q : Exit → Act → World → Prop} {E : Prop} (hgd : o.guard = none) (s x : Operand)
    (ho : o.op = .call { callee := .builtin .append, args := #[s, x], argTypes := #[22, 22] }) (hgr : Grew W w)
    {v u : Value} {xs ys : List Int} (hown : Row w W.heap.size v xs) (hu : Buf w u ys) (hs : a.eval s = v) (hx : a.eval x = u) (hlen : xs.length + ys.length ≤ 140737488355328)
    (h : ∀ v' w', Hid (Row w' W.heap.size v' (xs ++ ys)) → Grew W w' → w.grownBy w' v.ownBlock → K (a.put o.dst v') w') : if Region.wanted o (yielded ops a.tmps) = true then Oper.wp Tryd.prog o a w K Q else E := by
  have hw : Region.wanted o (yielded ops a.tmps) = true := by simp [Region.wanted, hgd]
  rw [if_pos hw]
  exact wp_append_b s x ho hgr hown hu hs hx hlen h

/-- What a row is behind a copy of ys to place off on. -/
def lay (xs : List Int) (off : Nat) (ys : List Int) : List Int := xs.take off ++ (ys ++ xs.drop (off + ys.length))
theorem lay_length {xs ys : List Int} {off : Nat} (h : off + ys.length ≤ xs.length) : (lay xs off ys).length = xs.length := by simp [lay]; omega
theorem lay_nil (xs : List Int) (off : Nat) : lay xs off [] = xs := by simp [lay]
theorem AreBytes.lay {xs ys : List Int} (hx : AreBytes xs) (hy : AreBytes ys) (off : Nat) : AreBytes (lay xs off ys) := by
  intro x h
  simp only [YtnafdgpkofffaaaDoor.lay, List.mem_append] at h
  rcases h with h | h | h
  · exact hx x (List.mem_of_mem_take h)
  · exact hy x h
  · exact hx x (List.mem_of_mem_drop h)
theorem lay_map {xs ys : List Int} (off : Nat) : (lay xs off ys).map (Value.int .u8) = splice (xs.map (Value.int .u8)) off (ys.map (Value.int .u8)) := by simp [lay, splice]
theorem splice_get {α : Type} (L cs : List α) (off i : Nat) (h : off + cs.length ≤ L.length) : (splice L off cs)[i]? = if i < off then L[i]? else if i < off + cs.length then cs[i - off]? else L[i]? := by
  have hl : (L.take off).length = off := by rw [List.length_take]; omega
  unfold splice
  by_cases h1 : i < off
  · rw [if_pos h1, List.getElem?_append_left (by omega), List.getElem?_take_of_lt h1]
  · rw [if_neg h1, List.getElem?_append_right (by omega), hl]
    by_cases h2 : i < off + cs.length
    · rw [if_pos h2, List.getElem?_append_left (by omega)]
    · rw [if_neg h2, List.getElem?_append_right (by omega), List.getElem?_drop]
      congr 1; omega
theorem lay_get (L cs : List Int) (off i : Nat) (h : off + cs.length ≤ L.length) : (lay L off cs)[i]? = if i < off then L[i]? else if i < off + cs.length then cs[i - off]? else L[i]? := splice_get L cs off i h
theorem take_splice {α : Type} (L cs : List α) (off n : Nat) (h : off + cs.length ≤ n) (hn : n ≤ L.length) : (splice L off cs).take n = splice (L.take n) off cs := by
  have hl : (L.take n).length = n := by rw [List.length_take]; omega
  apply List.ext_getElem?
  intro i
  rw [splice_get (L.take n) cs off i (by omega), List.getElem?_take, splice_get L cs off i (by omega), List.getElem?_take]
  by_cases hi : i < n
  · simp only [if_pos hi]
  · simp only [if_neg hi]
    rw [if_neg (by omega), if_neg (by omega)]

/-- Nothing but block g has turned. -/
structure Only (w w' : World) (g : Nat) : Prop where
  os : w'.os = w.os
  tape : w'.tape = w.tape
  output : w'.output = w.output
  size : w'.heap.size = w.heap.size
  block : ∀ k, k ≠ g → w'.heap[k]? = w.heap[k]?
theorem Only.refl (w : World) (g : Nat) : Only w w g := ⟨rfl, rfl, rfl, rfl, fun _ _ => rfl⟩
theorem Only.setRow (w : World) (g : Nat) (cs : Array Value) : Only w (w.setRow g cs) g := ⟨rfl, rfl, rfl, by simp [World.setRow], fun k hk => setRow_other w g k cs hk⟩
theorem Only.grew {W w w' : World} {g : Nat} (h : Only w w' g) (hg : Grew W w) (hW : W.heap.size ≤ g) : Grew W w' := Below.trans hg ⟨h.os, h.tape, h.output, by rw [h.size]; exact Nat.le_refl _, fun k hk => h.block k (by omega)⟩
theorem Blk.only {w w' : World} {g b : Nat} {cs : Array Value} {T : TypeId} (h : Blk w b cs T) (ho : Only w w' g) (hb : b ≠ g) : Blk w' b cs T := by
  unfold Blk at *
  rw [ho.block b hb]; exact h
theorem Blk.grownBy {w w' : World} {r : Option Nat} {b : Nat} {cs : Array Value} {T : TypeId} (h : Blk w b cs T) (ho : w.grownBy w' r) (hb : some b ≠ r) : Blk w' b cs T := by
  have hl := h.lt
  unfold Blk at *
  rw [ho.block b hl hb]; exact h

/-- copy(dst, src), dst a cut of a row of the call's own. -/
theorem wpList_copy_b {ops : Array Oper} {rest : List Oper} {o : Oper} {a : Act} {w W : World} {Q : Exit → Act → World → Prop} (hgd : o.guard = none) (d s : Operand)
    (ho : o.op = .call { callee := .builtin .copy, args := #[d, s], argTypes := #[22, 22] }) (hgr : Grew W w)
    {v u : Value} {g n c : Nat} {cur ys : List Int} (hrow : Row w W.heap.size v cur) (hv : v = .slice (some ⟨g, 0, none⟩) n c) (hu : Buf w u ys) (hs : a.eval s = u) (off : Nat) (dp : Option Addr) (dLen dCap : Nat) (hd : a.eval d = .slice dp dLen dCap)
    (hpos : 0 < dLen → dp = some ⟨g, off, none⟩) (hfit : off + dLen ≤ cur.length)
    (h : ∀ w', Hid (Row w' W.heap.size v (lay cur off (ys.take dLen))) → Grew W w' → Only w w' g → wpList Tryd.prog ops Q rest (a.put o.dst (goInt (ys.take dLen).length)) w') :
    wpList Tryd.prog ops Q (o :: rest) a w := by
  obtain ⟨i0, hi, hz0, hz1, hz2⟩ := info_parts u8_info
  subst hv
  rcases hrow.2 with ⟨h', _⟩ | ⟨g', cap, L, e, hbg, hg, hnc, hcm, hcs, htake⟩
  · simp at h'
  simp only [Value.slice.injEq, Option.some.injEq, Addr.mk.injEq, and_true, true_and] at e
  obtain ⟨rfl, rfl, rfl⟩ := e
  obtain ⟨sp, sc, rfl, _, _⟩ := hu.shape
  rw [Nat.mul_one] at htake hcs
  have hl : (ys.take dLen).length = min dLen ys.length := List.length_take
  have hLl : L.toList.length = L.size := Array.length_toList
  have hcl : cur.length ≤ L.toList.length := by omega
  have hsz : (Tryd.prog.info? 5).map (·.size) = some 1 := by simp [hi, hz1]
  by_cases h0 : (ys.take dLen).length = 0
  · refine wpList_copy_nothing hgd d s 22 22 ho 5 Tryd.underlying22 hsz dp sp dLen dCap ys.length sc hd hs (by show min ys.length dLen = 0; rw [Nat.min_comm, ← hl]; exact h0) ?_
    have hK := h w (by show Row _ _ _ _; rw [List.eq_nil_of_length_eq_zero h0, lay_nil]; exact hrow) hgr (Only.refl w g)
    rwa [h0] at hK
  · obtain rfl := hpos (by omega)
    obtain ⟨ad, rfl, hsrc⟩ := hu.src (n := ys.length) (by omega)
    have hlen : (lay cur off (ys.take dLen)).length = cur.length := lay_length (by rw [hl]; omega)
    refine wpList_copy_own hgd d s 22 22 ho 5 Tryd.underlying22 hsz g off dLen dCap ad ys.length sc hd hs L 5 hg ((ys.take dLen).map (Value.int .u8)) (by rw [List.length_map, hl, Nat.min_comm]) ?_ (by rw [List.length_map, hl, ← hLl]; omega)
      (fun x hx => by obtain ⟨y, _, rfl⟩ := List.mem_map.1 hx; rfl) ?_
    · intro j x hj
      refine hsrc j x ?_
      rw [List.map_take] at hj
      have hj' := (List.getElem?_eq_some_iff.1 hj).1
      rw [List.length_take] at hj'
      rwa [List.getElem?_take_of_lt (by omega)] at hj
    · rw [List.length_map]
      have hfl : off + ((ys.take dLen).map (Value.int .u8)).length ≤ cur.length := by rw [List.length_map, hl]; omega
      have ho' := Only.setRow w g (L.toList.take off ++ ((ys.take dLen).map (Value.int .u8) ++ L.toList.drop (off + (ys.take dLen).length))).toArray
      refine h _ ?_ (ho'.grew hgr hbg) ho'
      show Row _ _ _ _
      have e1 : L.toList.take off ++ ((ys.take dLen).map (Value.int .u8) ++ L.toList.drop (off + (ys.take dLen).length)) = splice L.toList off ((ys.take dLen).map (Value.int .u8)) := by simp [splice]
      rw [e1]
      refine ⟨by simp, .inr ⟨g, c, _, by rw [hlen], hbg, setRow_heap w g _ _ 5 _ hg, by rw [hlen]; omega, hcm, ?_, ?_⟩⟩
      · rw [List.size_toArray, length_splice _ _ _ (by omega), Nat.mul_one]; omega
      · rw [hlen, Nat.mul_one, lay_map, ← htake]
        exact take_splice _ _ _ _ hfl hcl

/-! ### Parameters that are bytes -/
section
variable {H : Type} {enc : TypeId × Value → H} {P : Program}
/-- The cells of a slice of bytes that came in. -/
theorem buf_of_trod {W : World} {base : Nat} {spare : Nat → Bool} {held : Bool} {t e : TypeId} {v : Value} {fuel : Nat} {x : DataW H × List MemPlace} (ht : P.underlying t = some (.slice e)) (he : P.underlying e = some (.int .u8)) (hc : P.cellsOf e = 1)
    (hd : DataW.trod enc P W base spare held fuel t [v] = some x) : ∃ xs, Buf W v xs := by
  rcases open_ints ht he hc hd with ⟨h1, _⟩ | ⟨a', len', cap', zs, h1, _, h3, h4, h5, _, h7, h8⟩
  · obtain rfl : v = .slice none 0 0 := by simpa using h1
    exact ⟨[], Buf.nil W⟩
  · obtain rfl : v = .slice (some a') len' cap' := by simpa using h1
    have hlz : len' ≤ zs.length := by rw [h5]; split <;> omega
    have hb : ∀ x ∈ zs, 0 ≤ x ∧ x < 256 := fun x hx => by have := bounds_u8 (h8 x hx); omega
    have hl : (zs.take len').length = len' := by simp; omega
    refine ⟨zs.take len', ⟨some a', cap', by rw [hl], by omega, fun hne => ?_⟩, fun x hx => hb x (List.mem_of_mem_take hx), by omega⟩
    have h0 : 0 < len' := by rw [← hl]; exact List.length_pos_iff.2 hne
    obtain ⟨b, off, rfl, hc2⟩ := ints_at h7 (by omega)
    refine ⟨b, off, rfl, fun i hi => ?_⟩
    rw [hl] at hi
    rw [hc2 i (by omega)]
    simp only [List.getD_eq_getElem?_getD]
    rw [List.getElem?_take_of_lt (by omega)]
theorem open_buf {W : World} {r : Reach} {b0 base : Nat} {spare : Nat → Bool} {held : Bool} {t e : TypeId} {v : Value} {d : DataW H} {ps : List MemPlace} (ht : P.underlying t = some (.slice e)) (he : P.underlying e = some (.int .u8)) (hc : P.cellsOf e = 1)
    (hval : Value.okWide P W r b0 t v) (hd : DataW.Trod enc P W base spare held t v d ps) : ∃ xs, Buf W v xs := by
  obtain ⟨a, len, cap, rfl⟩ := okWide_slice ht hval
  obtain ⟨fuel, hf⟩ := hd
  have hcs : (Value.slice a len cap).cells.toList = [.slice a len cap] := by simp [Value.cells]
  rw [hcs] at hf
  exact buf_of_trod ht he hc hf
end
end Go.Proofs.YtnafdgpkofffaaaDoor
