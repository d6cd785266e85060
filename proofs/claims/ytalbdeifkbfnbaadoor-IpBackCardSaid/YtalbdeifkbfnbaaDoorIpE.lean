/-
  Rows of packets; package ip's alone.
-/
import Derived.Test.YtalbdeifkbfnbaaDoorIpA
import Derived.Test.YtalbdeifkbfnbaaDoorIpG
import Derived.Test.YtalbdeifkbfnbaaDoorClone
import Derived.Test.YtalbdeifkbfnbaaDoorKept
import Derived.Test.YtalbdeifkbfnbaaDoorDeps
import Derived.Maps.AppendAt
set_option maxRecDepth 4000
set_option linter.unusedVariables false
set_option linter.unusedSimpArgs false
namespace Go.Proofs.YtalbdeifkbfnbaaDoor
open Go.RowKit

/-- The memory behind a value is not block r. -/
def Off (r : Option Nat) (v : Value) : Prop := ∀ g, r = some g → v.ownBlock ≠ some g
theorem Buf.grownBy {w w' : World} {r : Option Nat} {v : Value} {xs : List Int} (h : Buf w v xs) (g : w.grownBy w' r) (ho : xs ≠ [] → Off r v) : Buf w' v xs := by
  obtain ⟨a, c, rfl, hc, ha⟩ := h.shape
  refine ⟨⟨a, c, rfl, hc, fun hx => ?_⟩, h.ok, h.len⟩
  obtain ⟨b, off, rfl, hb⟩ := ha hx
  refine ⟨b, off, rfl, fun i hi => ?_⟩
  refine g.cell (hb i hi) fun e => ?_
  exact ho hx b e.symm rfl
theorem Buf.offNew {w : World} {v : Value} {xs : List Int} (h : Buf w v xs) (hx : xs ≠ []) {g : Nat} (hg : w.heap.size ≤ g) : Off (some g) v := by
  intro g' e hv
  obtain ⟨a, c, rfl, _, ha⟩ := h.shape
  obtain ⟨b, off, rfl, hb⟩ := ha hx
  have := hb.lt hx
  simp only [Value.ownBlock, Option.some.injEq] at hv e
  omega
theorem Off.none (v : Value) : Off Option.none v := fun _ h => by cases h
theorem Off.ofLt {v u : Value} (h : ∀ g, v.ownBlock = some g → ∀ k, u.ownBlock = some k → g < k) : Off v.ownBlock u := fun g hg hk => by have := h g hg g hk; omega
theorem Pk_full : (Tryd.prog.info? 25).map (fun i => (i.zero, i.size, i.bytes)) = some (some (.agg #[.int .i64 0, .int .i64 0, .int .i64 0, .int .i64 0, .int .i64 0, .int .i64 0, .int .u32 0, .int .u32 0, .slice none 0 0, .slice none 0 0]), 10, 104) := by kernel_rfl
theorem Pk_slice : Tryd.prog.underlying 38 = some (.slice 25) := by kernel_rfl
/-- v is a row of structs, made since base, and reads as fs; what its bytes lie in is not the row's own block. -/
structure PkRow (w : World) (base : Nat) (v : Value) (fs : List PK) : Prop where
  own : ∃ cells, w.ownsRow base 25 10 v fs.length cells ∧ ∀ i f, fs[i]? = some f → ∃ p1 k1 p2 k2, (∀ j, j < 10 → cells[i * 10 + j]? = (#[.int .i64 f.tos, .int .i64 f.id, .int .i64 f.fl, .int .i64 f.off, .int .i64 f.ttl, .int .i64 f.pr, .int .u32 f.si, .int .u32 f.di, .slice p1 f.o.length k1, .slice p2 f.x.length k2] : Array Value)[j]?) ∧ Pk w (.agg #[.int .i64 f.tos, .int .i64 f.id, .int .i64 f.fl, .int .i64 f.off, .int .i64 f.ttl, .int .i64 f.pr, .int .u32 f.si, .int .u32 f.di, .slice p1 f.o.length k1, .slice p2 f.x.length k2]) f ∧ (f.o ≠ [] → Off (Value.ownBlock v) (.slice p1 f.o.length k1)) ∧ (f.x ≠ [] → Off (Value.ownBlock v) (.slice p2 f.x.length k2))
  len : fs.length * 104 ≤ 140737488355328
theorem PkRow.nil (w : World) (base : Nat) : PkRow w base (.slice none 0 0) [] := ⟨⟨[], World.ownsRow_nil w base _ _, fun i f h => by simp at h⟩, by simp⟩
theorem PkRow.grew {w w' : World} {base : Nat} {v : Value} {fs : List PK} (h : PkRow w base v fs) (g : Grew w w') : PkRow w' base v fs := by
  obtain ⟨cells, hc, hr⟩ := h.own
  refine ⟨⟨cells, ?_, fun i f hi => ?_⟩, h.len⟩
  · refine ⟨hc.1, ?_⟩
    rcases hc.2 with h | ⟨b', cap, cur, e, hg, hh, r⟩
    · exact .inl h
    · refine .inr ⟨b', cap, cur, e, hg, ?_, r⟩
      rw [Below.block g b' (lt_of_block hh)]
      exact hh
  · obtain ⟨p1, k1, p2, k2, hj, hp, of1, of2⟩ := hr i f hi
    exact ⟨p1, k1, p2, k2, hj, hp.grew g, of1, of2⟩
theorem PkRow.low {w : World} {b b' : Nat} {v : Value} {fs : List PK} (h : PkRow w b v fs) (hb : b' ≤ b) : PkRow w b' v fs := by
  obtain ⟨cells, hc, hr⟩ := h.own
  refine ⟨⟨cells, ⟨hc.1, ?_⟩, hr⟩, h.len⟩
  rcases hc.2 with h | ⟨g, cap, cur, e, hg, r⟩
  · exact .inl h
  · exact .inr ⟨g, cap, cur, e, by omega, r⟩
theorem PkRow.ge {w : World} {base : Nat} {v : Value} {fs : List PK} (h : PkRow w base v fs) : ∀ g, v.ownBlock = some g → base ≤ g ∧ g < w.heap.size := by
  obtain ⟨cells, hc, _⟩ := h.own
  exact hc.lt
theorem PkRow.shape {w : World} {base : Nat} {v : Value} {fs : List PK} (h : PkRow w base v fs) : ∃ a c, v = .slice a fs.length c := by
  obtain ⟨cells, hc, _⟩ := h.own
  rcases hc.2 with ⟨rfl, h0⟩ | ⟨g, cap, cur, rfl, _⟩
  · exact ⟨_, _, by rw [h0]⟩
  · exact ⟨_, _, rfl⟩
/-- append(s, x): x one struct that has just been laid in block L. -/
theorem run_append_Pk {w : World} {base : Nat} {v : Value} {fs : List PK} {f : PK} {p1 : Option Addr} {k1 : Nat} {p2 : Option Addr} {k2 : Nat} {L c : Nat} {TL : TypeId} (ty : TypeId) (hrow : PkRow w base v fs) (hb : base ≤ w.heap.size) (hL : Blk w L #[.int .i64 f.tos, .int .i64 f.id, .int .i64 f.fl, .int .i64 f.off, .int .i64 f.ttl, .int .i64 f.pr, .int .u32 f.si, .int .u32 f.di, .slice p1 f.o.length k1, .slice p2 f.x.length k2] TL) (hp : Pk w (.agg #[.int .i64 f.tos, .int .i64 f.id, .int .i64 f.fl, .int .i64 f.off, .int .i64 f.ttl, .int .i64 f.pr, .int .u32 f.si, .int .u32 f.di, .slice p1 f.o.length k1, .slice p2 f.x.length k2]) f)
    (ho1 : f.o ≠ [] → Off v.ownBlock (.slice p1 f.o.length k1)) (ho2 : f.x ≠ [] → Off v.ownBlock (.slice p2 f.x.length k2)) (hlen : (fs.length + 1) * 104 ≤ 140737488355328) :
    ∃ v' w', (Builtin.append_ #[38, 38] ty #[v, .slice (some ⟨L, 0, none⟩) 1 c]).run Tryd.prog w = .ok v' w' ∧ PkRow w' base v' (fs ++ [f]) ∧ w.grownBy w' v.ownBlock ∧ (v'.ownBlock = v.ownBlock ∨ v'.ownBlock = some w.heap.size) := by
  obtain ⟨i0, hi, hz0, hz1, hz2⟩ := info_parts Pk_full
  obtain ⟨cells, hc, hr⟩ := hrow.own
  obtain ⟨v', w', h1, h2, h3, _, h5⟩ := run_append_own_at (P := Tryd.prog) w base 38 ty 25 i0 _ 10 104 Pk_slice hi hz0 hz1 hz2 rfl (by decide) v fs.length cells hc ⟨L, 0, none⟩ 1 c (#[.int .i64 f.tos, .int .i64 f.id, .int .i64 f.fl, .int .i64 f.off, .int .i64 f.ttl, .int .i64 f.pr, .int .u32 f.si, .int .u32 f.di, .slice p1 f.o.length k1, .slice p2 f.x.length k2] : Array Value).toList rfl
    (fun j u hj => by rw [show (⟨L, 0, none⟩ : Addr).add j = ⟨L, j, none⟩ by unfold Addr.add; split <;> simp_all, hL.cell]; simpa using hj)
    (fun u hu => by simp only [List.mem_cons, List.not_mem_nil, or_false] at hu; rcases hu with rfl | rfl | rfl | rfl | rfl | rfl | rfl | rfl | rfl | rfl <;> rfl) (by unfold maxLen; omega) hlen hb
  have hcl := hc.1
  have off : ∀ (u : Value) (xs : List Int), Buf w u xs → (xs ≠ [] → Off v.ownBlock u) → (xs ≠ [] → Off v'.ownBlock u) := fun u xs hu ho hx => by
    rcases h5 with h5 | h5
    · rw [h5]; exact ho hx
    · rw [h5]; exact hu.offNew hx (Nat.le_refl _)
  have pk : ∀ (g : PK) {p1 : Option Addr} {k1 : Nat} {p2 : Option Addr} {k2 : Nat}, Pk w (.agg #[.int .i64 g.tos, .int .i64 g.id, .int .i64 g.fl, .int .i64 g.off, .int .i64 g.ttl, .int .i64 g.pr, .int .u32 g.si, .int .u32 g.di, .slice p1 g.o.length k1, .slice p2 g.x.length k2]) g → (g.o ≠ [] → Off v.ownBlock (.slice p1 g.o.length k1)) → (g.x ≠ [] → Off v.ownBlock (.slice p2 g.x.length k2)) → Pk w' (.agg #[.int .i64 g.tos, .int .i64 g.id, .int .i64 g.fl, .int .i64 g.off, .int .i64 g.ttl, .int .i64 g.pr, .int .u32 g.si, .int .u32 g.di, .slice p1 g.o.length k1, .slice p2 g.x.length k2]) g ∧ (g.o ≠ [] → Off v'.ownBlock (.slice p1 g.o.length k1)) ∧ (g.x ≠ [] → Off v'.ownBlock (.slice p2 g.x.length k2)) := fun g {p1} {k1} {p2} {k2} hg o1 o2 => by
    obtain ⟨qp1, qk1, qp2, qk2, e, b1, b2⟩ := hg.shape
    simp only [pkV, Value.agg.injEq, Array.mk.injEq, List.cons.injEq, Value.slice.injEq, and_true, true_and] at e
    obtain ⟨⟨rfl, rfl⟩, ⟨rfl, rfl⟩⟩ := e
    exact ⟨⟨⟨p1, k1, p2, k2, rfl, b1.grownBy h3 o1, b2.grownBy h3 o2⟩, hg.tos, hg.id, hg.fl, hg.off, hg.ttl, hg.pr, hg.si, hg.di⟩, off _ _ b1 o1, off _ _ b2 o2⟩
  refine ⟨v', w', h1, ⟨⟨cells ++ (#[.int .i64 f.tos, .int .i64 f.id, .int .i64 f.fl, .int .i64 f.off, .int .i64 f.ttl, .int .i64 f.pr, .int .u32 f.si, .int .u32 f.di, .slice p1 f.o.length k1, .slice p2 f.x.length k2] : Array Value).toList, by rw [List.length_append]; exact h2, fun i g hg => ?_⟩, by rw [List.length_append]; exact hlen⟩, h3, h5⟩
  by_cases hlt : i < fs.length
  · rw [List.getElem?_append_left hlt] at hg
    obtain ⟨p1, k1, p2, k2, hj, hp', of1, of2⟩ := hr i g hg
    have hk := pk g hp' of1 of2
    exact ⟨p1, k1, p2, k2, fun j hjn => by rw [List.getElem?_append_left (by rw [hcl]; have := Nat.mul_le_mul_right 10 (show i + 1 ≤ fs.length by omega); omega)]; exact hj j hjn, hk⟩
  · rw [List.getElem?_append_right (by omega)] at hg
    obtain ⟨h0, rfl⟩ : i - fs.length = 0 ∧ f = g := by
      match hk : i - fs.length, hg with
      | 0, hg => exact ⟨rfl, by simpa using hg⟩
      | k + 1, hg => simp at hg
    obtain rfl : i = fs.length := by omega
    have hk := pk f hp ho1 ho2
    exact ⟨p1, k1, p2, k2, fun j hjn => by rw [List.getElem?_append_right (by omega), hcl, Nat.add_sub_cancel_left]; simp, hk⟩
theorem wpList_append_Pk {ops : Array Oper} {rest : List Oper} {o : Oper} {a : Act} {w : World} {Q : Exit → Act → World → Prop} (hgd : o.guard = none) (s x : Operand)
    (ho : o.op = .call { callee := .builtin .append, args := #[s, x], argTypes := #[38, 38] }) {base : Nat} {v : Value} {fs : List PK} {f : PK} {p1 : Option Addr} {k1 : Nat} {p2 : Option Addr} {k2 : Nat} {L c : Nat} {TL : TypeId} (hrow : PkRow w base v fs) (hb : base ≤ w.heap.size) (hL : Blk w L #[.int .i64 f.tos, .int .i64 f.id, .int .i64 f.fl, .int .i64 f.off, .int .i64 f.ttl, .int .i64 f.pr, .int .u32 f.si, .int .u32 f.di, .slice p1 f.o.length k1, .slice p2 f.x.length k2] TL) (hp : Pk w (.agg #[.int .i64 f.tos, .int .i64 f.id, .int .i64 f.fl, .int .i64 f.off, .int .i64 f.ttl, .int .i64 f.pr, .int .u32 f.si, .int .u32 f.di, .slice p1 f.o.length k1, .slice p2 f.x.length k2]) f)
    (ho1 : f.o ≠ [] → Off v.ownBlock (.slice p1 f.o.length k1)) (ho2 : f.x ≠ [] → Off v.ownBlock (.slice p2 f.x.length k2)) (hlen : (fs.length + 1) * 104 ≤ 140737488355328) (hs : a.eval s = v) (hx : a.eval x = .slice (some ⟨L, 0, none⟩) 1 c)
    (h : ∀ v' w', Hid (PkRow w' base v' (fs ++ [f])) → w.grownBy w' v.ownBlock → (v'.ownBlock = v.ownBlock ∨ v'.ownBlock = some w.heap.size) → wpList Tryd.prog ops Q rest (a.put o.dst v') w') : wpList Tryd.prog ops Q (o :: rest) a w := by
  refine wpList_plain hgd fun K hK => ?_
  obtain ⟨v', w', hr, h2, h3, h5⟩ := run_append_Pk o.type hrow hb hL hp ho1 ho2 hlen (c := c)
  unfold Oper.wp execOp
  simp only [ho, resolve, invoke, builtin, Sem.run_bind, Sem.run_pure, Result.andThen_ok, List.map_toArray, List.map_cons, List.map_nil, hs, hx, hr]
  exact hK _ _ (h v' w' h2 h3 h5)
/-- The slice value v reads as these structs. -/
structure Pks (w : World) (v : Value) (fs : List PK) : Prop where
  shape : ∃ a c, v = .slice a fs.length c ∧ (fs ≠ [] → ∃ g, a = some ⟨g, 0, none⟩ ∧ g < w.heap.size ∧ ∀ i f, fs[i]? = some f → ∃ p1 k1 p2 k2, (∀ j, j < 10 → w.cell? ⟨g, i * 10 + j, none⟩ = (#[.int .i64 f.tos, .int .i64 f.id, .int .i64 f.fl, .int .i64 f.off, .int .i64 f.ttl, .int .i64 f.pr, .int .u32 f.si, .int .u32 f.di, .slice p1 f.o.length k1, .slice p2 f.x.length k2] : Array Value)[j]?) ∧ Pk w (.agg #[.int .i64 f.tos, .int .i64 f.id, .int .i64 f.fl, .int .i64 f.off, .int .i64 f.ttl, .int .i64 f.pr, .int .u32 f.si, .int .u32 f.di, .slice p1 f.o.length k1, .slice p2 f.x.length k2]) f)
  len : fs.length * 104 ≤ 140737488355328
theorem Pks.grew {w w' : World} {v : Value} {fs : List PK} (h : Pks w v fs) (g : Grew w w') : Pks w' v fs := by
  obtain ⟨a, c, rfl, ha⟩ := h.shape
  refine ⟨⟨a, c, rfl, fun hx => ?_⟩, h.len⟩
  obtain ⟨b, rfl, hb, hat⟩ := ha hx
  refine ⟨b, rfl, Nat.lt_of_lt_of_le hb g.size, fun i f hi => ?_⟩
  obtain ⟨p1, k1, p2, k2, hj, hp⟩ := hat i f hi
  exact ⟨p1, k1, p2, k2, fun j hjn => by rw [(gcell g).1 b _ hb]; exact hj j hjn, hp.grew g⟩
theorem Pks.nil (w : World) : Pks w (.slice none 0 0) [] := ⟨⟨none, 0, rfl, fun h => absurd rfl h⟩, by simp⟩
theorem PkRow.read {w : World} {base : Nat} {v : Value} {fs : List PK} (h : PkRow w base v fs) : Pks w v fs := by
  obtain ⟨cells, hc, hr⟩ := h.own
  obtain ⟨a, c, rfl⟩ := h.shape
  refine ⟨⟨a, c, rfl, fun hx => ?_⟩, h.len⟩
  have hl := hc.1
  rcases hc.2 with ⟨_, h0⟩ | ⟨g, cap, cur, e, _, hg, _⟩
  · exact absurd (List.eq_nil_of_length_eq_zero h0) hx
  · simp only [Value.slice.injEq, true_and] at e
    obtain ⟨rfl, rfl⟩ := e
    refine ⟨g, rfl, lt_of_block hg, fun i f hi => ?_⟩
    obtain ⟨p1, k1, p2, k2, hj, hp, _⟩ := hr i f hi
    have hi' := (List.getElem?_eq_some_iff.1 hi).1
    exact ⟨p1, k1, p2, k2, fun j hjn => by rw [World.ownsRow.cellAt hc _ (by have := Nat.mul_le_mul_right 10 (show i + 1 ≤ fs.length by omega); omega)]; exact hj j hjn, hp⟩
/-- A literal of one struct. -/
theorem Pks.one {w : World} {f : PK} {p1 : Option Addr} {k1 : Nat} {p2 : Option Addr} {k2 : Nat} {L c : Nat} {TL : TypeId} (hL : Blk w L #[.int .i64 f.tos, .int .i64 f.id, .int .i64 f.fl, .int .i64 f.off, .int .i64 f.ttl, .int .i64 f.pr, .int .u32 f.si, .int .u32 f.di, .slice p1 f.o.length k1, .slice p2 f.x.length k2] TL) (hp : Pk w (.agg #[.int .i64 f.tos, .int .i64 f.id, .int .i64 f.fl, .int .i64 f.off, .int .i64 f.ttl, .int .i64 f.pr, .int .u32 f.si, .int .u32 f.di, .slice p1 f.o.length k1, .slice p2 f.x.length k2]) f) : Pks w (.slice (some ⟨L, 0, none⟩) 1 c) [f] :=
  ⟨⟨_, _, rfl, fun _ => ⟨L, rfl, hL.lt, fun i g hg => by
    match i, hg with
    | 0, hg =>
      obtain rfl : f = g := by simpa using hg
      exact ⟨p1, k1, p2, k2, fun j _ => by rw [Nat.zero_mul, Nat.zero_add, hL.cell], hp⟩
    | k + 1, hg => simp at hg⟩⟩, by simp⟩
/-- What the operations of a region give. -/
def rgAl (W : World) (B : Nat) (f : PK) (p1 : Option Addr) (k1 : Nat) (p2 : Option Addr) (k2 : Nat) : (Nat → Value) → Nat → Value → World → Prop
  | _, 0, v, _ => v = .pointer (some ⟨B, 8, none⟩)
  | _, 1, v, _ => v = .slice p1 f.o.length k1
  | _, 2, v, w => ∃ a c, v = .slice a f.o.length c ∧ Buf w (.slice a f.o.length c) f.o
  | _, 3, v, _ => v = .pointer (some ⟨B, 9, none⟩)
  | _, 4, v, _ => v = .slice p2 f.x.length k2
  | _, 5, v, w => ∃ a c, v = .slice a f.x.length c ∧ Buf w (.slice a f.x.length c) f.x
  | _, 6, v, _ => v = .pointer (some ⟨B, 8, none⟩)
  | _, _, _, _ => True
theorem rgAl_grew {W : World} {B : Nat} {f : PK} {p1 : Option Addr} {k1 : Nat} {p2 : Option Addr} {k2 : Nat} : ∀ vs j v w w', Grew w w' → rgAl W B f p1 k1 p2 k2 vs j v w → rgAl W B f p1 k1 p2 k2 vs j v w'
  | _, 0, _, _, _, _, h => h
  | _, 1, _, _, _, _, h => h
  | _, 2, _, _, _, g, ⟨b0, b1, e, h0⟩ => ⟨b0, b1, e, h0.grew g⟩
  | _, 3, _, _, _, _, h => h
  | _, 4, _, _, _, _, h => h
  | _, 5, _, _, _, g, ⟨b0, b1, e, h0⟩ => ⟨b0, b1, e, h0.grew g⟩
  | _, 6, _, _, _, _, h => h
  | _, _ + 7, _, _, _, _, _ => True.intro
theorem rgAl_lt {W : World} {B : Nat} {f : PK} {p1 : Option Addr} {k1 : Nat} {p2 : Option Addr} {k2 : Nat} : ∀ vs j v w, ([] : List Nat).contains j = true → rgAl W B f p1 k1 p2 k2 vs j v w → ∀ g, leadsTo v = some g → g < w.heap.size
  | _, 0, _, _, hc, _ => by simp at hc
  | _, 1, _, _, hc, _ => by simp at hc
  | _, 2, _, _, hc, _ => by simp at hc
  | _, 3, _, _, hc, _ => by simp at hc
  | _, 4, _, _, hc, _ => by simp at hc
  | _, 5, _, _, hc, _ => by simp at hc
  | _, 6, _, _, hc, _ => by simp at hc
  | _, _ + 7, _, _, hc, _ => by simp at hc
theorem rgAl_loc {W : World} {B : Nat} {f : PK} {p1 : Option Addr} {k1 : Nat} {p2 : Option Addr} {k2 : Nat} : ∀ (vs vs' : Nat → Value) j v w, (∀ k ∈ ([[], [], [], [], [], [], []] : List (List Nat)).getD j [], vs k = vs' k) → rgAl W B f p1 k1 p2 k2 vs j v w → rgAl W B f p1 k1 p2 k2 vs' j v w
  | _, _, 0, _, _, _, h => h
  | _, _, 1, _, _, _, h => h
  | _, _, 2, _, _, _, h => h
  | _, _, 3, _, _, _, h => h
  | _, _, 4, _, _, _, h => h
  | _, _, 5, _, _, _, h => h
  | _, _, 6, _, _, _, h => h
  | _, _, _ + 7, _, _, _, _ => True.intro
set_option maxHeartbeats 2000000 in
theorem alone_c {f : PK} {p1 : Option Addr} {k1 : Nat} {p2 : Option Addr} {k2 : Nat} (hl1 : f.o.length ≤ 140737488355328) (hl2 : f.x.length ≤ 140737488355328) {w : World} (hv : Pk w (.agg #[.int .i64 f.tos, .int .i64 f.id, .int .i64 f.fl, .int .i64 f.off, .int .i64 f.ttl, .int .i64 f.pr, .int .u32 f.si, .int .u32 f.di, .slice p1 f.o.length k1, .slice p2 f.x.length k2]) f) :
    Calls Tryd.prog 30 #[.agg #[.int .i64 f.tos, .int .i64 f.id, .int .i64 f.fl, .int .i64 f.off, .int .i64 f.ttl, .int .i64 f.pr, .int .u32 f.si, .int .u32 f.di, .slice p1 f.o.length k1, .slice p2 f.x.length k2]] w fun e w' => ∃ u, e = .returned u ∧ Pk w' u f ∧ Grew w w' := by
  have HI := Lib.hid (And.intro hv.tos (And.intro hv.id (And.intro hv.fl (And.intro hv.off (And.intro hv.ttl (And.intro hv.pr (And.intro hv.si hv.di)))))))
  obtain ⟨q1, r1, q2, r2, e, hb1, hb2⟩ := hv.shape
  simp only [pkV, Value.agg.injEq, Array.mk.injEq, List.cons.injEq, Value.slice.injEq, and_true, true_and] at e
  obtain ⟨⟨rfl, rfl⟩, rfl, rfl⟩ := e
  clear hv
  go_enter Tryd.func30, Tryd.ntmps30
  go_upto_region 1 with fail
  have hR0 : Blk ((w.alloc (.cells #[.int .i64 f.tos, .int .i64 f.id, .int .i64 f.fl, .int .i64 f.off, .int .i64 f.ttl, .int .i64 f.pr, .int .u32 f.si, .int .u32 f.di, .slice p1 f.o.length k1, .slice p2 f.x.length k2] 25)).alloc (.cells #[.int .i64 0, .int .i64 0, .int .i64 0, .int .i64 0, .int .i64 0, .int .i64 0, .int .u32 0, .int .u32 0, .slice none 0 0, .slice none 0 0] 25)) (w.heap.size + 1) #[.int .i64 0, .int .i64 0, .int .i64 0, .int .i64 0, .int .i64 0, .int .i64 0, .int .u32 0, .int .u32 0, .slice none 0 0, .slice none 0 0] 25 := Blk.new _ _ _ _ (by simp)
  have hB0 : Blk ((w.alloc (.cells #[.int .i64 f.tos, .int .i64 f.id, .int .i64 f.fl, .int .i64 f.off, .int .i64 f.ttl, .int .i64 f.pr, .int .u32 f.si, .int .u32 f.di, .slice p1 f.o.length k1, .slice p2 f.x.length k2] 25)).alloc (.cells #[.int .i64 0, .int .i64 0, .int .i64 0, .int .i64 0, .int .i64 0, .int .i64 0, .int .u32 0, .int .u32 0, .slice none 0 0, .slice none 0 0] 25)) w.heap.size #[.int .i64 f.tos, .int .i64 f.id, .int .i64 f.fl, .int .i64 f.off, .int .i64 f.ttl, .int .i64 f.pr, .int .u32 f.si, .int .u32 f.di, .slice p1 f.o.length k1, .slice p2 f.x.length k2] 25 := (Blk.new _ _ _ _ rfl).alloc _
  have g0 : Grew w ((w.alloc (.cells #[.int .i64 f.tos, .int .i64 f.id, .int .i64 f.fl, .int .i64 f.off, .int .i64 f.ttl, .int .i64 f.pr, .int .u32 f.si, .int .u32 f.di, .slice p1 f.o.length k1, .slice p2 f.x.length k2] 25)).alloc (.cells #[.int .i64 0, .int .i64 0, .int .i64 0, .int .i64 0, .int .i64 0, .int .i64 0, .int .u32 0, .int .u32 0, .slice none 0 0, .slice none 0 0] 25)) := ((Grew.refl _).alloc _).alloc _
  have hBR : w.heap.size + 1 ≠ w.heap.size := by omega
  have hlR : w.heap.size ≤ w.heap.size + 1 := by omega
  generalize ((w.alloc (.cells #[.int .i64 f.tos, .int .i64 f.id, .int .i64 f.fl, .int .i64 f.off, .int .i64 f.ttl, .int .i64 f.pr, .int .u32 f.si, .int .u32 f.di, .slice p1 f.o.length k1, .slice p2 f.x.length k2] 25)).alloc (.cells #[.int .i64 0, .int .i64 0, .int .i64 0, .int .i64 0, .int .i64 0, .int .i64 0, .int .u32 0, .int .u32 0, .slice none 0 0, .slice none 0 0] 25)) = w0 at *
  generalize w.heap.size + 1 = R at *
  generalize hlB : w.heap.size = B at *
  have HB0 := Lib.hid hB0
  have H1 := Lib.hid (hb1.grew g0)
  have H2 := Lib.hid (hb2.grew g0)
  clear hB0 hb1 hb2
  refine region_deps 7 [some 3, some 4, some 5, some 6, some 7, some 8, some 9] [[], [], [], [], [], [], []] [] (rgAl w0 B f p1 k1 p2 k2) rgAl_grew rgAl_lt rgAl_loc (Grew.refl w0) (by kernel_rfl) (by kernel_rfl) ?_ ?_
  · simp only [List.take_succ_cons, List.take_zero]
    refine GivesAll.cons (fun vs w1 g1 hd K hK => ?_) ?_
    · simp only [putsT, Nat.zero_add, Nat.reduceAdd, List.getD_cons_zero, List.getD_cons_succ, Act.put, List.setIfInBounds_toArray, List.set_cons_zero, List.set_cons_succ] at hK ⊢
      go_simp
      exact hK _ _ (Grew.refl _) rfl (fun h => by simp at h)
    refine GivesAll.cons (fun vs w1 g1 hd K hK => ?_) ?_
    · have e0 : vs 0 = .pointer (some ⟨B, 8, none⟩) := hd 0 (by kernel_rfl)
      simp only [putsT, Nat.zero_add, Nat.reduceAdd, List.getD_cons_zero, List.getD_cons_succ, Act.put, List.setIfInBounds_toArray, List.set_cons_zero, List.set_cons_succ, e0] at hK ⊢
      have y8 := (HB0.out.grew g1).cell 8
      go_simp
      exact hK _ _ (Grew.refl _) rfl (fun h => by simp at h)
    refine GivesAll.cons (fun vs w1 g1 hd K hK => ?_) ?_
    · have e1 : vs 1 = .slice p1 f.o.length k1 := hd 1 (by kernel_rfl)
      simp only [putsT, Nat.zero_add, Nat.reduceAdd, List.getD_cons_zero, List.getD_cons_succ, Act.put, List.setIfInBounds_toArray, List.set_cons_zero, List.set_cons_succ, e1] at hK ⊢
      go_simp
      refine Calls.mono (cloneB_c (by omega) (H1.out.grew g1)) ?_
      rintro e w5 ⟨a, c, rfl, hrow, hb, g5⟩
      exact hK _ _ g5 ⟨_, _, rfl, hb⟩ (fun h => by simp at h)
    refine GivesAll.cons (fun vs w1 g1 hd K hK => ?_) ?_
    · simp only [putsT, Nat.zero_add, Nat.reduceAdd, List.getD_cons_zero, List.getD_cons_succ, Act.put, List.setIfInBounds_toArray, List.set_cons_zero, List.set_cons_succ] at hK ⊢
      go_simp
      exact hK _ _ (Grew.refl _) rfl (fun h => by simp at h)
    refine GivesAll.cons (fun vs w1 g1 hd K hK => ?_) ?_
    · have e3 : vs 3 = .pointer (some ⟨B, 9, none⟩) := hd 3 (by kernel_rfl)
      simp only [putsT, Nat.zero_add, Nat.reduceAdd, List.getD_cons_zero, List.getD_cons_succ, Act.put, List.setIfInBounds_toArray, List.set_cons_zero, List.set_cons_succ, e3] at hK ⊢
      have y9 := (HB0.out.grew g1).cell 9
      go_simp
      exact hK _ _ (Grew.refl _) rfl (fun h => by simp at h)
    refine GivesAll.cons (fun vs w1 g1 hd K hK => ?_) ?_
    · have e4 : vs 4 = .slice p2 f.x.length k2 := hd 4 (by kernel_rfl)
      simp only [putsT, Nat.zero_add, Nat.reduceAdd, List.getD_cons_zero, List.getD_cons_succ, Act.put, List.setIfInBounds_toArray, List.set_cons_zero, List.set_cons_succ, e4] at hK ⊢
      go_simp
      refine Calls.mono (cloneB_c (by omega) (H2.out.grew g1)) ?_
      rintro e w5 ⟨a, c, rfl, hrow, hb, g5⟩
      exact hK _ _ g5 ⟨_, _, rfl, hb⟩ (fun h => by simp at h)
    refine GivesAll.cons (fun vs w1 g1 hd K hK => ?_) ?_
    · simp only [putsT, Nat.zero_add, Nat.reduceAdd, List.getD_cons_zero, List.getD_cons_succ, Act.put, List.setIfInBounds_toArray, List.set_cons_zero, List.set_cons_succ] at hK ⊢
      go_simp
      exact hK _ _ (Grew.refl _) rfl (fun h => by simp at h)
    exact GivesAll.nil
  intro vs wz gz hv hap
  have e0 : vs 0 = .pointer (some ⟨B, 8, none⟩) := hv 0 (by decide)
  have e1 : vs 1 = .slice p1 f.o.length k1 := hv 1 (by decide)
  obtain ⟨a_2, c_2, e2, r2_0⟩ := hv 2 (by decide)
  have e3 : vs 3 = .pointer (some ⟨B, 9, none⟩) := hv 3 (by decide)
  have e4 : vs 4 = .slice p2 f.x.length k2 := hv 4 (by decide)
  obtain ⟨a_5, c_5, e5, r5_0⟩ := hv 5 (by decide)
  have e6 : vs 6 = .pointer (some ⟨B, 8, none⟩) := hv 6 (by decide)
  clear hv hap
  simp only [putsT, Nat.zero_add, Nat.reduceAdd, List.getD_cons_zero, List.getD_cons_succ, Act.put, List.setIfInBounds_toArray, List.set_cons_zero, List.set_cons_succ, List.drop_succ_cons, List.drop_zero, e0, e1, e2, e3, e4, e5, e6]
  clear e0 e1 e2 e3 e4 e5 e6
  have hBz := HB0.out.grew gz
  have hRz := hR0.grew gz
  have Gz := g0.trans gz
  have y8 := hBz.cell 8
  have y9 := hBz.cell 9
  have f8 := hBz.free 8
  have f9 := hBz.free 9
  go_upto_region 2 with fail
  have hB1 := (hBz.set (o := 8) (.slice a_2 f.o.length c_2)).set (o := 9) (.slice a_5 f.x.length c_5)
  have kk := (BufsKept.box (o := 8) hBz (by simp [noU8]) (.slice a_2 f.o.length c_2)).trans (BufsKept.box (o := 9) (hBz.set (o := 8) (.slice a_2 f.o.length c_2)) (by simp [noU8]) (.slice a_5 f.x.length c_5))
  have G1 := (Gz.setCell (b := B) (o := 8) (by omega) (.slice a_2 f.o.length c_2)).setCell (b := B) (o := 9) (by omega) (.slice a_5 f.x.length c_5)
  have hR1 := (hRz.other (c := B) (o := 8) hBR (.slice a_2 f.o.length c_2)).other (c := B) (o := 9) hBR (.slice a_5 f.x.length c_5)
  have HA := Lib.hid (kk _ _ r2_0)
  have HX := Lib.hid (kk _ _ r5_0)
  clear r2_0 r5_0 kk hRz hBz Gz y8 y9 f8 f9 hR0 HB0
  generalize ((wz.setCell ⟨B, 8, none⟩ (.slice a_2 f.o.length c_2)).setCell ⟨B, 9, none⟩ (.slice a_5 f.x.length c_5)) = w1 at *
  replace hB1 : Blk w1 B #[.int .i64 f.tos, .int .i64 f.id, .int .i64 f.fl, .int .i64 f.off, .int .i64 f.ttl, .int .i64 f.pr, .int .u32 f.si, .int .u32 f.di, .slice a_2 f.o.length c_2, .slice a_5 f.x.length c_5] 25 := hB1
  have y0 := hB1.cell 0
  have y1 := hB1.cell 1
  have y2 := hB1.cell 2
  have y3 := hB1.cell 3
  have y4 := hB1.cell 4
  have y5 := hB1.cell 5
  have y6 := hB1.cell 6
  have y7 := hB1.cell 7
  have y8 := hB1.cell 8
  have y9 := hB1.cell 9
  have f0 := hR1.free 0
  have f1 := hR1.free 1
  have f2 := hR1.free 2
  have f3 := hR1.free 3
  have f4 := hR1.free 4
  have f5 := hR1.free 5
  have f6 := hR1.free 6
  have f7 := hR1.free 7
  have f8 := hR1.free 8
  have f9 := hR1.free 9
  have x0 := hR1.cell 0
  have x1 := hR1.cell 1
  have x2 := hR1.cell 2
  have x3 := hR1.cell 3
  have x4 := hR1.cell 4
  have x5 := hR1.cell 5
  have x6 := hR1.cell 6
  have x7 := hR1.cell 7
  have x8 := hR1.cell 8
  have x9 := hR1.cell 9
  go_wp2_with fail
  have EB := ((((((((((hR1.set (o := 0) (.int .i64 f.tos)).set (o := 1) (.int .i64 f.id)).set (o := 2) (.int .i64 f.fl)).set (o := 3) (.int .i64 f.off)).set (o := 4) (.int .i64 f.ttl)).set (o := 5) (.int .i64 f.pr)).set (o := 6) (.int .u32 f.si)).set (o := 7) (.int .u32 f.di)).set (o := 8) (.slice a_2 f.o.length c_2)).set (o := 9) (.slice a_5 f.x.length c_5))
  have KK := ((((((((((BufsKept.box (o := 0) hR1 (by simp [noU8]) (.int .i64 f.tos)).trans (BufsKept.box (o := 1) (hR1.set (o := 0) (.int .i64 f.tos)) (by simp [noU8]) (.int .i64 f.id))).trans (BufsKept.box (o := 2) ((hR1.set (o := 0) (.int .i64 f.tos)).set (o := 1) (.int .i64 f.id)) (by simp [noU8]) (.int .i64 f.fl))).trans (BufsKept.box (o := 3) (((hR1.set (o := 0) (.int .i64 f.tos)).set (o := 1) (.int .i64 f.id)).set (o := 2) (.int .i64 f.fl)) (by simp [noU8]) (.int .i64 f.off))).trans (BufsKept.box (o := 4) ((((hR1.set (o := 0) (.int .i64 f.tos)).set (o := 1) (.int .i64 f.id)).set (o := 2) (.int .i64 f.fl)).set (o := 3) (.int .i64 f.off)) (by simp [noU8]) (.int .i64 f.ttl))).trans (BufsKept.box (o := 5) (((((hR1.set (o := 0) (.int .i64 f.tos)).set (o := 1) (.int .i64 f.id)).set (o := 2) (.int .i64 f.fl)).set (o := 3) (.int .i64 f.off)).set (o := 4) (.int .i64 f.ttl)) (by simp [noU8]) (.int .i64 f.pr))).trans (BufsKept.box (o := 6) ((((((hR1.set (o := 0) (.int .i64 f.tos)).set (o := 1) (.int .i64 f.id)).set (o := 2) (.int .i64 f.fl)).set (o := 3) (.int .i64 f.off)).set (o := 4) (.int .i64 f.ttl)).set (o := 5) (.int .i64 f.pr)) (by simp [noU8]) (.int .u32 f.si))).trans (BufsKept.box (o := 7) (((((((hR1.set (o := 0) (.int .i64 f.tos)).set (o := 1) (.int .i64 f.id)).set (o := 2) (.int .i64 f.fl)).set (o := 3) (.int .i64 f.off)).set (o := 4) (.int .i64 f.ttl)).set (o := 5) (.int .i64 f.pr)).set (o := 6) (.int .u32 f.si)) (by simp [noU8]) (.int .u32 f.di))).trans (BufsKept.box (o := 8) ((((((((hR1.set (o := 0) (.int .i64 f.tos)).set (o := 1) (.int .i64 f.id)).set (o := 2) (.int .i64 f.fl)).set (o := 3) (.int .i64 f.off)).set (o := 4) (.int .i64 f.ttl)).set (o := 5) (.int .i64 f.pr)).set (o := 6) (.int .u32 f.si)).set (o := 7) (.int .u32 f.di)) (by simp [noU8]) (.slice a_2 f.o.length c_2))).trans (BufsKept.box (o := 9) (((((((((hR1.set (o := 0) (.int .i64 f.tos)).set (o := 1) (.int .i64 f.id)).set (o := 2) (.int .i64 f.fl)).set (o := 3) (.int .i64 f.off)).set (o := 4) (.int .i64 f.ttl)).set (o := 5) (.int .i64 f.pr)).set (o := 6) (.int .u32 f.si)).set (o := 7) (.int .u32 f.di)).set (o := 8) (.slice a_2 f.o.length c_2)) (by simp [noU8]) (.slice a_5 f.x.length c_5)))
  have GE := ((((((((((G1.setCell (b := R) (o := 0) (by omega) (.int .i64 f.tos)).setCell (b := R) (o := 1) (by omega) (.int .i64 f.id)).setCell (b := R) (o := 2) (by omega) (.int .i64 f.fl)).setCell (b := R) (o := 3) (by omega) (.int .i64 f.off)).setCell (b := R) (o := 4) (by omega) (.int .i64 f.ttl)).setCell (b := R) (o := 5) (by omega) (.int .i64 f.pr)).setCell (b := R) (o := 6) (by omega) (.int .u32 f.si)).setCell (b := R) (o := 7) (by omega) (.int .u32 f.di)).setCell (b := R) (o := 8) (by omega) (.slice a_2 f.o.length c_2)).setCell (b := R) (o := 9) (by omega) (.slice a_5 f.x.length c_5))
  have z0 := EB.cell 0
  have z1 := EB.cell 1
  have z2 := EB.cell 2
  have z3 := EB.cell 3
  have z4 := EB.cell 4
  have z5 := EB.cell 5
  have z6 := EB.cell 6
  have z7 := EB.cell 7
  have z8 := EB.cell 8
  have z9 := EB.cell 9
  exact bodyPost_ret (v := .agg #[.int .i64 f.tos, .int .i64 f.id, .int .i64 f.fl, .int .i64 f.off, .int .i64 f.ttl, .int .i64 f.pr, .int .u32 f.si, .int .u32 f.di, .slice a_2 f.o.length c_2, .slice a_5 f.x.length c_5]) (by simp [results, Tryd.results30, go_sem, z0, z1, z2, z3, z4, z5, z6, z7, z8, z9]) rfl ⟨_, rfl, (Pk.of HA.out HX.out HI.out.1 HI.out.2.1 HI.out.2.2.1 HI.out.2.2.2.1 HI.out.2.2.2.2.1 HI.out.2.2.2.2.2.1 HI.out.2.2.2.2.2.2.1 HI.out.2.2.2.2.2.2.2).kept KK, GE⟩
end Go.Proofs.YtalbdeifkbfnbaaDoor
