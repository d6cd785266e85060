/-
  Package uart: a line as two lists and two numbers (US, Ua, Uar); contracts of its small functions: isRegister, waits, state, and of bytes.Clone.
  Package uart: a line that shares nothing (own).
  Package uart: bytes that wait with more behind them (behind): an append onto bytes that are cut at their end makes other memory.
  Package uart: Load, at every place and size, of every line.
  Package uart: Store, Type, Line, of every line.
  Lines compared (the document's Same), a parameter that is a line, opened; what must come at any rate ('heads' of the statements about package uart).
  Answers of package uart, as the laws about it walk with them.
-/
import Derived.Test.YtgcfmijkggpemaaGreatRows
import Derived.Test.YtgcfmijkggpemaaGreatBuf
import Derived.Test.YtgcfmijkggpemaaGreatClass
import Derived.WalkKit
import Derived.Outline
import Derived.Handy
import Derived.Deep.QuietTactic
import Derived.BigQuiet
import Derived.Deep.RegionHeld3
import Derived.Deep.DeepCutAuto
import Derived.Lib.SliceRun
import Derived.Test.YtgcfmijkggpemaaGreatDeps
import Derived.Test.YtgcfmijkggpemaaGreatLaw
import Derived.Deep.Fields
import Derived.ChangeArms
import Derived.Lib.SlBytesConst
set_option maxRecDepth 4000
set_option linter.unusedVariables false
set_option linter.unusedSimpArgs false
namespace Go.Proofs.YtgcfmijkggpemaaGreat
open Go.RowKit

def uaIntI (x : Int) : Prop := -9223372036854775808 ≤ x ∧ x ≤ 9223372036854775807
/-- A line, its bytes as lists. -/
structure US where
  i : List Int
  o : List Int
  ie : Int
  lost : Int
abbrev uaV (s : US) (a1 : Option Addr) (c1 : Nat) (a2 : Option Addr) (c2 : Nat) : Value := .agg #[.slice a1 s.i.length c1, .slice a2 s.o.length c2, .int .i64 s.ie, .int .i64 s.lost]
/-- v reads as s. -/
structure Ua (w : World) (v : Value) (s : US) : Prop where
  shape : ∃ u1 u2, v = .agg #[u1, u2, .int .i64 s.ie, .int .i64 s.lost] ∧ Buf w u1 s.i ∧ Buf w u2 s.o
  ie : uaIntI s.ie
  lost : uaIntI s.lost
theorem Ua.grew {w w' : World} {v : Value} {s : US} (h : Ua w v s) (g : Grew w w') : Ua w' v s := by
  obtain ⟨u1, u2, rfl, h1, h2⟩ := h.shape
  exact ⟨⟨u1, u2, rfl, h1.grew g, h2.grew g⟩, h.ie, h.lost⟩
theorem Ua.shaped {w : World} {v : Value} {s : US} (h : Ua w v s) : ∃ a1 c1 a2 c2, v = uaV s a1 c1 a2 c2 := by
  obtain ⟨u1, u2, rfl, h1, h2⟩ := h.shape
  obtain ⟨a1, c1, rfl, _, _⟩ := h1.shape
  obtain ⟨a2, c2, rfl, _, _⟩ := h2.shape
  exact ⟨a1, c1, a2, c2, rfl⟩
theorem Ua.i {w : World} {s : US} {a1 : Option Addr} {c1 : Nat} {a2 : Option Addr} {c2 : Nat} (h : Ua w (uaV s a1 c1 a2 c2) s) : Buf w (.slice a1 s.i.length c1) s.i := by
  obtain ⟨u1, u2, e, h1, h2⟩ := h.shape
  cases e
  exact h1
theorem Ua.o {w : World} {s : US} {a1 : Option Addr} {c1 : Nat} {a2 : Option Addr} {c2 : Nat} (h : Ua w (uaV s a1 c1 a2 c2) s) : Buf w (.slice a2 s.o.length c2) s.o := by
  obtain ⟨u1, u2, e, h1, h2⟩ := h.shape
  cases e
  exact h2
/-- v reads as s, its rows made since B. -/
structure Uar (w : World) (B : Nat) (v : Value) (s : US) : Prop where
  shape : ∃ u1 u2, v = .agg #[u1, u2, .int .i64 s.ie, .int .i64 s.lost] ∧ Row w B u1 s.i ∧ Row w B u2 s.o
  i : AreBytes s.i
  o : AreBytes s.o
  ie : uaIntI s.ie
  lost : uaIntI s.lost
theorem Uar.ua {w : World} {B : Nat} {v : Value} {s : US} (h : Uar w B v s) : Ua w v s := by
  obtain ⟨u1, u2, rfl, h1, h2⟩ := h.shape
  exact ⟨⟨u1, u2, rfl, h1.buf h.i, h2.buf h.o⟩, h.ie, h.lost⟩
theorem Uar.grew {w w' : World} {B : Nat} {v : Value} {s : US} (h : Uar w B v s) (g : Grew w w') : Uar w' B v s := by
  obtain ⟨u1, u2, rfl, h1, h2⟩ := h.shape
  exact ⟨⟨u1, u2, rfl, h1.grew g, h2.grew g⟩, h.i, h.o, h.ie, h.lost⟩
theorem Uar.low {w : World} {B B' : Nat} {v : Value} {s : US} (h : Uar w B v s) (hb : B' ≤ B) : Uar w B' v s := by
  obtain ⟨u1, u2, rfl, h1, h2⟩ := h.shape
  exact ⟨⟨u1, u2, rfl, h1.low hb, h2.low hb⟩, h.i, h.o, h.ie, h.lost⟩
theorem Uar.set {w : World} {B c o : Nat} {v : Value} {s : US} (h : Uar w B v s) (hc : c < B) (u : Value) : Uar (w.setCell ⟨c, o, none⟩ u) B v s := by
  obtain ⟨u1, u2, rfl, h1, h2⟩ := h.shape
  exact ⟨⟨u1, u2, rfl, h1.set hc u, h2.set hc u⟩, h.i, h.o, h.ie, h.lost⟩
/-- A row stays, whatever is written into a box of another type. -/
theorem Row.box {w : World} {b X o : Nat} {v : Value} {xs : List Int} {cs : Array Value} {T : TypeId} (h : Row w b v xs) (hX : Blk w X cs T) (hT : T ≠ 5) (u : Value) : Row (w.setCell ⟨X, o, none⟩ u) b v xs := by
  refine ⟨h.1, ?_⟩
  rcases h.2 with h | ⟨b', cap, cur, e, hg, hh, r⟩
  · exact .inl h
  · refine .inr ⟨b', cap, cur, e, hg, ?_, r⟩
    have hne : b' ≠ X := by
      rintro rfl
      unfold Blk at hX
      rw [hX] at hh
      simp only [Option.some.injEq, Obj.cells.injEq] at hh
      exact hT hh.2.1
    rw [Below.heap_setCell w ⟨X, o, none⟩ u b' hne]
    exact hh
theorem Uar.box {w : World} {B X o : Nat} {v : Value} {s : US} {cs : Array Value} {T : TypeId} (h : Uar w B v s) (hX : Blk w X cs T) (hT : T ≠ 5) (u : Value) : Uar (w.setCell ⟨X, o, none⟩ u) B v s := by
  obtain ⟨u1, u2, rfl, h1, h2⟩ := h.shape
  exact ⟨⟨u1, u2, rfl, h1.box hX hT u, h2.box hX hT u⟩, h.i, h.o, h.ie, h.lost⟩

theorem isRegister_c (off size : Int) (w : World) : Calls Tryz.prog 78 #[.int .u64 off, .int .i64 size] w fun e w' => e = .returned (.bool (decide (off < 8) && (size == 1))) ∧ w = w' := by
  cases h0 : decide (off < 8) <;> cases h1 : (size == 1)
  all_goals
    go_enter Tryz.func78, Tryz.ntmps78
    go_wp2_with fail
    go_ret
    exact ⟨rfl, rfl⟩
theorem waits_c (s : US) (a1 : Option Addr) (c1 : Nat) (a2 : Option Addr) (c2 : Nat) (w : World) : Calls Tryz.prog 69 #[uaV s a1 c1 a2 c2] w fun e w' => e = .returned (.bool (decide (0 < s.i.length))) ∧ Grew w w' := by
  generalize hn : s.i.length = n
  unfold uaV
  rw [hn]
  cases h0 : decide (0 < n)
  all_goals
    have h1 : decide ((0 : Int) < (n : Int)) = decide (0 < n) := by simp
    rw [h0] at h1
    go_enter Tryz.func69, Tryz.ntmps69
    go_wp2_with fail
    go_ret
    exact ⟨rfl, (Grew.refl w).alloc _⟩
theorem state_c (s : US) (a1 : Option Addr) (c1 : Nat) (a2 : Option Addr) (c2 : Nat) (w : World) : Calls Tryz.prog 80 #[uaV s a1 c1 a2 c2] w fun e w' => e = .returned (.int .u64 (if 0 < s.i.length then 97 else 96)) ∧ Grew w w' := by
  have hW := Lib.hid (waits_c s a1 c1 a2 c2)
  by_cases h0 : 0 < s.i.length
  · rw [if_pos h0]
    rw [decide_eq_true h0] at hW
    clear h0
    go_enter Tryz.func80, Tryz.ntmps80
    go_wp2_with fail
    refine (hW.out _).mono ?_
    rintro e w' ⟨rfl, g⟩
    go_wp2_with fail
    go_ret
    exact ⟨rfl, ((Grew.refl w).alloc _).trans g⟩
  · rw [if_neg h0]
    rw [decide_eq_false h0] at hW
    clear h0
    go_enter Tryz.func80, Tryz.ntmps80
    go_wp2_with fail
    refine (hW.out _).mono ?_
    rintro e w' ⟨rfl, g⟩
    go_wp2_with fail
    go_ret
    exact ⟨rfl, ((Grew.refl w).alloc _).trans g⟩

theorem uaClone_c {v : Value} {xs : List Int} (hl : xs.length ≤ 140737488355328) {w : World} (hb : Buf w v xs) :
    Calls Tryz.prog 99 #[v] w fun e w' => ∃ a c, e = .returned (.slice a xs.length c) ∧ Hid (Row w' w.heap.size (.slice a xs.length c) xs) ∧ Grew w w' := by
  obtain ⟨a, c, rfl, hc, ha⟩ := hb.shape
  have HB := Lib.hid hb
  rcases a with _ | ad
  · have hnil := fun w => Lib.run_eql_slice_nil (P := Tryz.prog) w 22 5 none 0 c 0 0 Tryz.underlying22
    have hx : xs = [] := by
      by_cases h : xs = []
      · exact h
      · obtain ⟨_, _, e, _⟩ := ha h
        cases e
    subst hx
    clear hb ha hc
    go_enter Tryz.func99, Tryz.ntmps99
    go_wp2_with fail
    go_ret
    exact ⟨none, 0, rfl, Lib.hid (Row.nil _ _), Grew.refl _⟩
  · have hnil := fun w => Lib.run_eql_slice_nil (P := Tryz.prog) w 22 5 (some ad) xs.length c 0 0 Tryz.underlying22
    clear ha hb
    go_enter Tryz.func99, Tryz.ntmps99
    go_wp2_with (refine wpList_append_b (W := w) rfl (.tmp 5) (.tmp 6) rfl (by exact (Grew.refl w).alloc _) (Row.lit w w.heap.size (Nat.le_refl _) #[] [] rfl (Nat.zero_le _) _ rfl 0 rfl) (HB.out.grew ((Grew.refl w).alloc _)) (by rfl) (by rfl) (by simpa using hl) ?_; intro v1 w1 HR1 g1 q1; clear q1; have HB1 := Lib.hid (HR1.out.buf HB.out.ok); obtain ⟨ao, co, eo, _, _⟩ := HB1.out.shape; subst eo)
    go_ret
    exact ⟨_, _, rfl, Lib.hid HR1.out, g1⟩
end Go.Proofs.YtgcfmijkggpemaaGreat
set_option maxRecDepth 4000
set_option linter.unusedVariables false
set_option linter.unusedSimpArgs false
namespace Go.Proofs.YtgcfmijkggpemaaGreat
open Go.RowKit

abbrev zeroU : Array Value := #[.slice none 0 0, .slice none 0 0, .int .i64 0, .int .i64 0]
set_option maxHeartbeats 1000000 in
theorem uaOwn_c {s : US} (l1 : s.i.length ≤ 140737488355328) (l2 : s.o.length ≤ 140737488355328) {a1 : Option Addr} {c1 : Nat} {a2 : Option Addr} {c2 : Nat} {w : World} (hP : Ua w (uaV s a1 c1 a2 c2) s) :
    Calls Tryz.prog 79 #[uaV s a1 c1 a2 c2] w fun e w' => ∃ b1 d1 b2 d2, e = .returned (uaV s b1 d1 b2 d2) ∧ Hid (Uar w' w.heap.size (uaV s b1 d1 b2 d2) s) ∧ Grew w w' := by
  have HP := Lib.hid hP
  clear hP
  go_enter Tryz.func79, Tryz.ntmps79
  go_upto_region 1 with fail
  have hA : Blk ((w.alloc (.cells #[.slice a1 s.i.length c1, .slice a2 s.o.length c2, .int .i64 s.ie, .int .i64 s.lost] 32)).alloc (.cells zeroU 32)) w.heap.size #[.slice a1 s.i.length c1, .slice a2 s.o.length c2, .int .i64 s.ie, .int .i64 s.lost] 32 := (Blk.new _ _ _ _ rfl).alloc _
  have hR : Blk ((w.alloc (.cells #[.slice a1 s.i.length c1, .slice a2 s.o.length c2, .int .i64 s.ie, .int .i64 s.lost] 32)).alloc (.cells zeroU 32)) (w.heap.size + 1) zeroU 32 := Blk.new _ _ _ _ (by simp)
  have g0 : Grew w ((w.alloc (.cells #[.slice a1 s.i.length c1, .slice a2 s.o.length c2, .int .i64 s.ie, .int .i64 s.lost] 32)).alloc (.cells zeroU 32)) := ((Grew.refl w).alloc _).alloc _
  have hz : w.heap.size ≤ w.heap.size := Nat.le_refl _
  have HP0 := Lib.hid (HP.out.grew g0)
  generalize ((w.alloc (.cells #[.slice a1 s.i.length c1, .slice a2 s.o.length c2, .int .i64 s.ie, .int .i64 s.lost] 32)).alloc (.cells zeroU 32)) = w0 at *
  have cA := hA.cell 0
  go_wp2_with fail
  refine (uaClone_c l1 HP0.out.i).mono ?_
  rintro e w1 ⟨b1, d1, rfl, H1, g1⟩
  have hA1 := hA.grew g1
  have lA := hA.lt
  have lR := hR.lt
  have hR1 := hR.grew g1
  have HP1 := Lib.hid (HP0.out.grew g1)
  clear cA
  have cA := hA1.cell 0
  have fA := hA1.free 0
  go_upto_region 2 with fail
  clear cA fA
  have hA2 := hA1.set (o := 0) (.slice b1 s.i.length d1)
  have hR2 := hR1.other (c := w.heap.size) (o := 0) (by omega) (.slice b1 s.i.length d1)
  have G2 := (g0.trans g1).setCell (b := w.heap.size) (o := 0) (Nat.le_refl _) (.slice b1 s.i.length d1)
  have H2 := Lib.hid ((H1.out.set (c := w.heap.size) (o := 0) lA (.slice b1 s.i.length d1)).low g0.size)
  have HO : Hid (Buf (w1.setCell ⟨w.heap.size, 0, none⟩ (.slice b1 s.i.length d1)) (.slice a2 s.o.length c2) s.o) := Lib.hid (HP.out.o.grew G2)
  clear H1 hA1 hR1 HP1
  generalize w1.setCell ⟨w.heap.size, 0, none⟩ (.slice b1 s.i.length d1) = w2 at *
  replace hA2 : Blk w2 w.heap.size #[.slice b1 s.i.length d1, .slice a2 s.o.length c2, .int .i64 s.ie, .int .i64 s.lost] 32 := hA2
  have cA := hA2.cell 1
  go_wp2_with fail
  refine (uaClone_c l2 HO.out).mono ?_
  rintro e w3 ⟨b2, d2, rfl, H3, g3⟩
  have hA3 := hA2.grew g3
  have hR3 := hR2.grew g3
  have lA := hA2.lt
  clear cA
  have cA := hA3.cell 1
  have fA := hA3.free 1
  go_upto_region 3 with fail
  clear cA fA
  have hA4 := hA3.set (o := 1) (.slice b2 s.o.length d2)
  have hR4 := hR3.other (c := w.heap.size) (o := 1) (by omega) (.slice b2 s.o.length d2)
  have G4 := (G2.trans g3).setCell (b := w.heap.size) (o := 1) (Nat.le_refl _) (.slice b2 s.o.length d2)
  have H4 := Lib.hid ((H3.out.set (c := w.heap.size) (o := 1) lA (.slice b2 s.o.length d2)).low G2.size)
  have H2' := Lib.hid (Row.box (H2.out.grew g3) hA3 (by decide) (o := 1) (.slice b2 s.o.length d2))
  clear H2 H3 hA3 hR3
  generalize w3.setCell ⟨w.heap.size, 1, none⟩ (.slice b2 s.o.length d2) = w4 at *
  replace hA4 : Blk w4 w.heap.size #[.slice b1 s.i.length d1, .slice b2 s.o.length d2, .int .i64 s.ie, .int .i64 s.lost] 32 := hA4
  have y0 := hA4.cell 0
  have y1 := hA4.cell 1
  have y2 := hA4.cell 2
  have y3 := hA4.cell 3
  have r0 := hR4.cell 0
  have r1 := hR4.cell 1
  have r2 := hR4.cell 2
  have r3 := hR4.cell 3
  have f0 := hR4.free 0
  have f1 := hR4.free 1
  have f2 := hR4.free 2
  have f3 := hR4.free 3
  go_wp2_with fail
  have hE := (((hR4.set (o := 0) (.slice b1 s.i.length d1)).set (o := 1) (.slice b2 s.o.length d2)).set (o := 2) (.int .i64 s.ie)).set (o := 3) (.int .i64 s.lost)
  have z0 := hE.cell 0
  have z1 := hE.cell 1
  have z2 := hE.cell 2
  have z3 := hE.cell 3
  have gE := (((G4.setCell (b := w.heap.size + 1) (o := 0) (by omega) (.slice b1 s.i.length d1)).setCell (b := w.heap.size + 1) (o := 1) (by omega) (.slice b2 s.o.length d2)).setCell (b := w.heap.size + 1) (o := 2) (by omega) (.int .i64 s.ie)).setCell (b := w.heap.size + 1) (o := 3) (by omega) (.int .i64 s.lost)
  have k0 := hR4.set (o := 0) (.slice b1 s.i.length d1)
  have k1 := k0.set (o := 1) (.slice b2 s.o.length d2)
  have k2 := k1.set (o := 2) (.int .i64 s.ie)
  have E1 := (((H2'.out.box hR4 (by decide) (o := 0) (.slice b1 s.i.length d1)).box k0 (by decide) (o := 1) (.slice b2 s.o.length d2)).box k1 (by decide) (o := 2) (.int .i64 s.ie)).box k2 (by decide) (o := 3) (.int .i64 s.lost)
  have E2 := (((H4.out.box hR4 (by decide) (o := 0) (.slice b1 s.i.length d1)).box k0 (by decide) (o := 1) (.slice b2 s.o.length d2)).box k1 (by decide) (o := 2) (.int .i64 s.ie)).box k2 (by decide) (o := 3) (.int .i64 s.lost)
  exact bodyPost_ret (v := uaV s b1 d1 b2 d2) (by simp [results, Tryz.results79, go_sem, z0, z1, z2, z3]) rfl ⟨b1, d1, b2, d2, rfl, Lib.hid ⟨⟨_, _, rfl, E1, E2⟩, HP.out.i.ok, HP.out.o.ok, HP.out.ie, HP.out.lost⟩, gE⟩
end Go.Proofs.YtgcfmijkggpemaaGreat
set_option maxRecDepth 4000
set_option linter.unusedVariables false
set_option linter.unusedSimpArgs false
namespace Go.Proofs.YtgcfmijkggpemaaGreat
open Go.RowKit

/-- s[:len(s):len(s)], as the machine runs it: the value as a variable. -/
theorem Buf.run_full {w : World} {a : Option Addr} {n c : Nat} {xs : List Int} (h : Buf w (.slice a n c) xs) :
    ∃ a', Buf w (.slice a' n n) xs ∧ ∀ k2 k3 w', (Instr.sliceAt 22 (.slice a n c) none (some (.int k2 n)) (some (.int k3 n))).run Tryz.prog w' = .ok (.slice a' n n) w' := by
  obtain ⟨rfl, hc⟩ := h.lenEq
  have hu : Tryz.prog.underlying 22 = some (.slice (Tryz.prog.elem 22)) := by kernel_rfl
  obtain ⟨a0, c0, e, hc', ha⟩ := h.shape
  cases e
  refine ⟨if xs.length = 0 then a else a.map (·.add (0 * 1)), ⟨⟨_, _, rfl, Nat.le_refl _, fun hne => ?_⟩, h.ok, h.len⟩, fun k2 k3 w' => ?_⟩
  · obtain ⟨b, off, rfl, hb⟩ := ha hne
    have : xs.length ≠ 0 := by have := List.length_pos_iff.2 hne; omega
    rw [if_neg this]
    exact ⟨b, off, by simp [Addr.add], hb⟩
  · rw [run_sliceAt_slice w' _ _ _ _ _ hu, run_slice_hm w' _ a _ c hu k2 k3 _ _ (by omega) (by omega) (by omega), u8_size]
    simp only [Result.andThen_ok, sliced, Int.toNat_natCast, Nat.sub_zero]

/-- append(s, x...), s whatever reads as bytes, without room behind: other memory, or s itself where nothing is appended. -/
theorem run_append_full {w : World} {a : Option Addr} {n : Nat} {u : Value} {xs ys : List Int} (ty : TypeId) (h : Buf w (.slice a n n) xs) (hu : Buf w u ys) (hlen : xs.length + ys.length ≤ 140737488355328) :
    ∃ v' w', (Builtin.append_ #[22, 22] ty #[.slice a n n, u]).run Tryz.prog w = .ok v' w' ∧ Buf w' v' (xs ++ ys) ∧ Grew w w' := by
  obtain ⟨i0, hi, hz0, hz1, hz2⟩ := info_parts u8_info
  obtain ⟨rfl, _⟩ := h.lenEq
  have hok : AreBytes (xs ++ ys) := fun x hx => by
    rcases List.mem_append.1 hx with hx | hx
    · exact h.ok x hx
    · exact hu.ok x hx
  by_cases hy : ys = []
  · subst hy
    refine ⟨.slice a xs.length xs.length, w, ?_, by simpa using h, Grew.refl w⟩
    obtain ⟨b, c, rfl, hc, _⟩ := hu.shape
    rcases b with _ | ad
    · cases a <;> simp [Builtin.append_, run_underlying Tryz.underlying22, sizeOf, typeInfo, hi, Builtin.lenOf, Builtin.firstCells, storeCells]
    · have hf := run_firstCells_some (P := Tryz.prog) w i0.size 0 ad 0 c [] (by simp) (fun j v h => by simp at h)
      cases a <;> simp [Builtin.append_, run_underlying Tryz.underlying22, sizeOf, typeInfo, hi, Builtin.lenOf, hf, storeCells]
  · have hpos := List.length_pos_iff.2 hy
    rcases a with _ | b
    · obtain rfl : xs = [] := by
        by_cases h' : xs = []
        · exact h'
        · obtain ⟨_, _, e, _, ha⟩ := h.shape
          cases e
          obtain ⟨_, _, e, _⟩ := ha h'
          cases e
      obtain ⟨v', w', hr, ho, hg⟩ := run_append_b ty (Row.nil w w.heap.size) hu (Nat.le_refl _) (by simpa using hlen)
      exact ⟨v', w', hr, ho.buf hok, Below.grown (Grew.refl w) hg (Nat.le_refl _) (fun k h => by cases h)⟩
    · obtain ⟨u0, uc, rfl, _, _⟩ := hu.shape
      obtain ⟨ad, rfl, hs⟩ := hu.src hpos
      have holds : ∀ j u, (xs.map (Value.int .u8))[j]? = some u → w.cell? (b.add j) = some u := fun j u hj => by
        by_cases hx : xs = []
        · subst hx; simp at hj
        · obtain ⟨ad', e, hs'⟩ := h.src (List.length_pos_iff.2 hx)
          cases e
          exact hs' j u hj
      have hr := run_append_grow (P := Tryz.prog) (w := w) 22 ty 5 i0 (.int .u8 0) Tryz.underlying22 hi hz0 b xs.length xs.length (xs.map (Value.int .u8)) (by simp [hz1]) holds ad ys.length uc (ys.map (Value.int .u8)) (by simp [hz1]) hs (by omega) (by omega)
        (growslice_fits (by omega) (by rw [hz2]; omega))
      refine ⟨_, _, hr, Row.buf (base := w.heap.size) ⟨by simp, .inr ⟨w.heap.size, _, _, by rw [List.length_append], Nat.le_refl _, heap_alloc_new w.drew _, ?_, grownCap_le_maxLen w _ _ _ (by unfold maxLen; omega), ?_, ?_⟩⟩ hok, ((Grew.refl w).drew1).alloc _⟩
      · rw [List.length_append]; exact grownCap_ge w _ _ _
      · have := grownCap_ge w (xs.length + ys.length) xs.length 5
        simp only [Array.size_append, List.size_toArray, size_zeroCells, List.length_map]
        rw [show (Value.int IntKind.u8 0).cells.size = 1 from rfl]
        omega
      · simp only [Array.toList_append, List.append_assoc, List.map_append]
        rw [← List.append_assoc, List.take_left' (by simp)]
theorem step_append_full {ops : Array Oper} {T : Array Value} {o : Oper} {a : Act} {w : World} {K : Act → World → Prop} {Q : Exit → Act → World → Prop} {E : Prop} (hgd : o.guard = none) (s x : Operand)
    (ho : o.op = .call { callee := .builtin .append, args := #[s, x], argTypes := #[22, 22] })
    {ad : Option Addr} {n : Nat} {u : Value} {xs ys : List Int} (hown : Buf w (.slice ad n n) xs) (hu : Buf w u ys) (hs : a.eval s = .slice ad n n) (hx : a.eval x = u) (hlen : xs.length + ys.length ≤ 140737488355328)
    (h : ∀ v' w', Buf w' v' (xs ++ ys) → Grew w w' → K (a.put o.dst v') w') : if Region.wanted o (yielded ops T) = true then Oper.wp Tryz.prog o a w K Q else E := by
  have hw : Region.wanted o (yielded ops T) = true := by simp [Region.wanted, hgd]
  rw [if_pos hw]
  obtain ⟨v', w', hr, ho', hg⟩ := run_append_full o.type hown hu hlen
  unfold Oper.wp execOp
  simp only [ho, resolve, invoke, builtin, Sem.run_bind, Sem.run_pure, Result.andThen_ok, List.map_toArray, List.map_cons, List.map_nil, hs, hx, hr]
  exact h v' w' ho' hg

/-- How many more bytes fit. -/
def fitN (n m most : Nat) : Nat := min m (most - n)
theorem fitN_le (n m most : Nat) : fitN n m most ≤ m := Nat.min_le_left _ _

/-- What the operations of a region give. -/
def behR (xs zs : List Int) (av av' au au' : Option Addr) (n cv m cu f cu' : Nat) (lost : Int) : (Nat → Value) → Nat → Value → World → Prop
  | _, 0, v, _ => v = .slice av n cv
  | _, 1, v, _ => v = .slice av n cv
  | _, 2, v, _ => v = .int .i64 (n : Nat)
  | _, 3, v, _ => v = .slice av n cv
  | _, 4, v, _ => v = .int .i64 (n : Nat)
  | _, 5, v, _ => v = .slice av' n n
  | _, 6, v, _ => v = .slice au m cu
  | _, 7, v, _ => v = .int .i64 (f : Nat)
  | _, 8, v, _ => v = .slice au' f cu'
  | _, 9, v, w => Buf w v (xs ++ zs)
  | _, 10, v, _ => v = .slice au m cu
  | _, 11, v, _ => v = .int .i64 (m : Nat)
  | _, 12, v, _ => v = .int .i64 (f : Nat)
  | _, 13, v, _ => v = .int .i64 (lost : Int)
  | vs, 14, v, _ => v = vs 9
  | _, 15, v, _ => v = .int .i64 (lost : Int)
  | _, _, _, _ => True
theorem behR_grew {xs zs : List Int} {av av' au au' : Option Addr} {n cv m cu f cu' : Nat} {lost : Int} : ∀ vs j v w w', Grew w w' → behR xs zs av av' au au' n cv m cu f cu' lost vs j v w → behR xs zs av av' au au' n cv m cu f cu' lost vs j v w'
  | _, 0, _, _, _, _, h => h
  | _, 1, _, _, _, _, h => h
  | _, 2, _, _, _, _, h => h
  | _, 3, _, _, _, _, h => h
  | _, 4, _, _, _, _, h => h
  | _, 5, _, _, _, _, h => h
  | _, 6, _, _, _, _, h => h
  | _, 7, _, _, _, _, h => h
  | _, 8, _, _, _, _, h => h
  | _, 9, _, _, _, g, h => h.grew g
  | _, 10, _, _, _, _, h => h
  | _, 11, _, _, _, _, h => h
  | _, 12, _, _, _, _, h => h
  | _, 13, _, _, _, _, h => h
  | _, 14, _, _, _, _, h => h
  | _, 15, _, _, _, _, h => h
  | _, _ + 16, _, _, _, _, _ => True.intro
theorem behR_lt {xs zs : List Int} {av av' au au' : Option Addr} {n cv m cu f cu' : Nat} {lost : Int} : ∀ vs j v w, ([] : List Nat).contains j = true → behR xs zs av av' au au' n cv m cu f cu' lost vs j v w → ∀ g, leadsTo v = some g → g < w.heap.size
  | _, 0, _, _, hc, _ => by simp at hc
  | _, 1, _, _, hc, _ => by simp at hc
  | _, 2, _, _, hc, _ => by simp at hc
  | _, 3, _, _, hc, _ => by simp at hc
  | _, 4, _, _, hc, _ => by simp at hc
  | _, 5, _, _, hc, _ => by simp at hc
  | _, 6, _, _, hc, _ => by simp at hc
  | _, 7, _, _, hc, _ => by simp at hc
  | _, 8, _, _, hc, _ => by simp at hc
  | _, 9, _, _, hc, _ => by simp at hc
  | _, 10, _, _, hc, _ => by simp at hc
  | _, 11, _, _, hc, _ => by simp at hc
  | _, 12, _, _, hc, _ => by simp at hc
  | _, 13, _, _, hc, _ => by simp at hc
  | _, 14, _, _, hc, _ => by simp at hc
  | _, 15, _, _, hc, _ => by simp at hc
  | _, _ + 16, _, _, hc, _ => by simp at hc
theorem behR_loc {xs zs : List Int} {av av' au au' : Option Addr} {n cv m cu f cu' : Nat} {lost : Int} : ∀ (vs vs' : Nat → Value) j v w, (∀ k ∈ ([[], [], [], [], [], [], [], [], [], [], [], [], [], [], [9], []] : List (List Nat)).getD j [], vs k = vs' k) → behR xs zs av av' au au' n cv m cu f cu' lost vs j v w → behR xs zs av av' au au' n cv m cu f cu' lost vs' j v w
  | _, _, 0, _, _, _, h => h
  | _, _, 1, _, _, _, h => h
  | _, _, 2, _, _, _, h => h
  | _, _, 3, _, _, _, h => h
  | _, _, 4, _, _, _, h => h
  | _, _, 5, _, _, _, h => h
  | _, _, 6, _, _, _, h => h
  | _, _, 7, _, _, _, h => h
  | _, _, 8, _, _, _, h => h
  | _, _, 9, _, _, _, h => h
  | _, _, 10, _, _, _, h => h
  | _, _, 11, _, _, _, h => h
  | _, _, 12, _, _, _, h => h
  | _, _, 13, _, _, _, h => h
  | vs, vs', 14, v, w, hk, h => by show _ = _; rw [← hk 9 (by decide)]; exact h
  | _, _, 15, _, _, _, h => h
  | _, _, _ + 16, _, _, _, _ => True.intro

set_option maxRecDepth 100000 in
set_option maxHeartbeats 2000000 in
theorem behind_in (xs zs : List Int) (av av' au au' : Option Addr) (n cv m cu f cu' : Nat) (lost : Int) (most mx my : Int) {w : World} (hV : Buf w (.slice av' n n) xs) (hU : Buf w (.slice au' f cu') zs) (hl : xs.length + zs.length ≤ 140737488355328)
    (rF : ∀ k2 k3 w', (Instr.sliceAt 22 (.slice av n cv) none (some (.int k2 n)) (some (.int k3 n))).run Tryz.prog w' = .ok (.slice av' n n) w')
    (rC : ∀ k2 w', (Instr.sliceAt 22 (.slice au m cu) none (some (.int k2 f)) none).run Tryz.prog w' = .ok (.slice au' f cu') w')
    (hs : IntKind.i64.wrap (most - n) = mx) (hmax : ∀ ts t w', (Builtin.max_ ts t #[.int .i64 mx, .int .i64 0]).run Tryz.prog w' = .ok (.int .i64 my) w')
    (hmin : ∀ ts t w', (Builtin.min_ ts t #[.int .i64 m, .int .i64 my]).run Tryz.prog w' = .ok (.int .i64 f) w')
    (hlost : IntKind.i64.wrap ((m : Int) - f) = lost) :
    Calls Tryz.prog 81 #[.slice av n cv, .slice au m cu, .int .i64 most] w fun e w' => ∃ a c, e = .returned (.tuple #[.slice a (xs ++ zs).length c, .int .i64 lost]) ∧ Hid (Buf w' (.slice a (xs ++ zs).length c) (xs ++ zs)) ∧ Grew w w' := by
  have HV := Lib.hid hV
  have HU := Lib.hid hU
  have RF := rF
  have RC := rC
  clear rF rC hV hU
  go_enter Tryz.func81, Tryz.ntmps81
  go_upto_region 2 with fail
  refine region_deps 16 [some 17, some 18, some 19, some 20, some 21, some 22, some 23, some 24, some 25, some 26, some 27, some 28, some 29, some 30, some 6, some 7] [[], [], [], [], [], [], [], [], [], [], [], [], [], [], [9], []] [] (behR xs zs av av' au au' n cv m cu f cu' lost) behR_grew behR_lt behR_loc (Grew.refl w) (by kernel_rfl) (by kernel_rfl) ?_ ?_
  · simp only [List.take_succ_cons, List.take_zero]
    refine GivesAll.cons (fun vs w1 g1 hd K hK => ?_) ?_
    · simp only [putsT, Nat.zero_add, Nat.reduceAdd, List.getD_cons_zero, List.getD_cons_succ, Act.put, List.setIfInBounds_toArray, List.set_cons_zero, List.set_cons_succ] at hK ⊢
      go_simp
      exact hK _ _ (Grew.refl _) rfl (fun h => by simp at h)
    refine GivesAll.cons (fun vs w1 g1 hd K hK => ?_) ?_
    · simp only [putsT, Nat.zero_add, Nat.reduceAdd, List.getD_cons_zero, List.getD_cons_succ, Act.put, List.setIfInBounds_toArray, List.set_cons_zero, List.set_cons_succ] at hK ⊢
      go_simp
      exact hK _ _ (Grew.refl _) rfl (fun h => by simp at h)
    refine GivesAll.cons (fun vs w1 g1 hd K hK => ?_) ?_
    · have e1 : vs 1 = .slice av n cv := hd 1 (by kernel_rfl)
      simp only [putsT, Nat.zero_add, Nat.reduceAdd, List.getD_cons_zero, List.getD_cons_succ, Act.put, List.setIfInBounds_toArray, List.set_cons_zero, List.set_cons_succ, e1] at hK ⊢
      go_simp
      exact hK _ _ (Grew.refl _) rfl (fun h => by simp at h)
    refine GivesAll.cons (fun vs w1 g1 hd K hK => ?_) ?_
    · simp only [putsT, Nat.zero_add, Nat.reduceAdd, List.getD_cons_zero, List.getD_cons_succ, Act.put, List.setIfInBounds_toArray, List.set_cons_zero, List.set_cons_succ] at hK ⊢
      go_simp
      exact hK _ _ (Grew.refl _) rfl (fun h => by simp at h)
    refine GivesAll.cons (fun vs w1 g1 hd K hK => ?_) ?_
    · have e3 : vs 3 = .slice av n cv := hd 3 (by kernel_rfl)
      simp only [putsT, Nat.zero_add, Nat.reduceAdd, List.getD_cons_zero, List.getD_cons_succ, Act.put, List.setIfInBounds_toArray, List.set_cons_zero, List.set_cons_succ, e3] at hK ⊢
      go_simp
      exact hK _ _ (Grew.refl _) rfl (fun h => by simp at h)
    refine GivesAll.cons (fun vs w1 g1 hd K hK => ?_) ?_
    · have e0 : vs 0 = .slice av n cv := hd 0 (by kernel_rfl)
      have e2 : vs 2 = .int .i64 (n : Nat) := hd 2 (by kernel_rfl)
      have e4 : vs 4 = .int .i64 (n : Nat) := hd 4 (by kernel_rfl)
      simp only [putsT, Nat.zero_add, Nat.reduceAdd, List.getD_cons_zero, List.getD_cons_succ, Act.put, List.setIfInBounds_toArray, List.set_cons_zero, List.set_cons_succ, e0, e2, e4] at hK ⊢
      have c9 := RF
      go_simp
      exact hK _ _ (Grew.refl _) rfl (fun h => by simp at h)
    refine GivesAll.cons (fun vs w1 g1 hd K hK => ?_) ?_
    · simp only [putsT, Nat.zero_add, Nat.reduceAdd, List.getD_cons_zero, List.getD_cons_succ, Act.put, List.setIfInBounds_toArray, List.set_cons_zero, List.set_cons_succ] at hK ⊢
      go_simp
      exact hK _ _ (Grew.refl _) rfl (fun h => by simp at h)
    refine GivesAll.cons (fun vs w1 g1 hd K hK => ?_) ?_
    · simp only [putsT, Nat.zero_add, Nat.reduceAdd, List.getD_cons_zero, List.getD_cons_succ, Act.put, List.setIfInBounds_toArray, List.set_cons_zero, List.set_cons_succ] at hK ⊢
      go_simp
      exact hK _ _ (Grew.refl _) rfl (fun h => by simp at h)
    refine GivesAll.cons (fun vs w1 g1 hd K hK => ?_) ?_
    · have e6 : vs 6 = .slice au m cu := hd 6 (by kernel_rfl)
      have e7 : vs 7 = .int .i64 (f : Nat) := hd 7 (by kernel_rfl)
      simp only [putsT, Nat.zero_add, Nat.reduceAdd, List.getD_cons_zero, List.getD_cons_succ, Act.put, List.setIfInBounds_toArray, List.set_cons_zero, List.set_cons_succ, e6, e7] at hK ⊢
      have c9 := RC
      go_simp
      exact hK _ _ (Grew.refl _) rfl (fun h => by simp at h)
    refine GivesAll.cons (fun vs w1 g1 hd K hK => ?_) ?_
    · have e5 : vs 5 = .slice av' n n := hd 5 (by kernel_rfl)
      have e8 : vs 8 = .slice au' f cu' := hd 8 (by kernel_rfl)
      simp only [putsT, Nat.zero_add, Nat.reduceAdd, List.getD_cons_zero, List.getD_cons_succ, Act.put, List.setIfInBounds_toArray, List.set_cons_zero, List.set_cons_succ, e5, e8] at hK ⊢
      refine step_append_full rfl (.tmp 22) (.tmp 25) rfl (HV.out.grew g1) (HU.out.grew g1) (by rfl) (by rfl) hl ?_
      intro v5 w5 h5 g5
      exact hK _ _ g5 h5 (fun h => by simp at h)
    refine GivesAll.cons (fun vs w1 g1 hd K hK => ?_) ?_
    · simp only [putsT, Nat.zero_add, Nat.reduceAdd, List.getD_cons_zero, List.getD_cons_succ, Act.put, List.setIfInBounds_toArray, List.set_cons_zero, List.set_cons_succ] at hK ⊢
      go_simp
      exact hK _ _ (Grew.refl _) rfl (fun h => by simp at h)
    refine GivesAll.cons (fun vs w1 g1 hd K hK => ?_) ?_
    · have e10 : vs 10 = .slice au m cu := hd 10 (by kernel_rfl)
      simp only [putsT, Nat.zero_add, Nat.reduceAdd, List.getD_cons_zero, List.getD_cons_succ, Act.put, List.setIfInBounds_toArray, List.set_cons_zero, List.set_cons_succ, e10] at hK ⊢
      go_simp
      exact hK _ _ (Grew.refl _) rfl (fun h => by simp at h)
    refine GivesAll.cons (fun vs w1 g1 hd K hK => ?_) ?_
    · simp only [putsT, Nat.zero_add, Nat.reduceAdd, List.getD_cons_zero, List.getD_cons_succ, Act.put, List.setIfInBounds_toArray, List.set_cons_zero, List.set_cons_succ] at hK ⊢
      go_simp
      exact hK _ _ (Grew.refl _) rfl (fun h => by simp at h)
    refine GivesAll.cons (fun vs w1 g1 hd K hK => ?_) ?_
    · have e11 : vs 11 = .int .i64 (m : Nat) := hd 11 (by kernel_rfl)
      have e12 : vs 12 = .int .i64 (f : Nat) := hd 12 (by kernel_rfl)
      simp only [putsT, Nat.zero_add, Nat.reduceAdd, List.getD_cons_zero, List.getD_cons_succ, Act.put, List.setIfInBounds_toArray, List.set_cons_zero, List.set_cons_succ, e11, e12] at hK ⊢
      have c9 := hlost
      go_simp
      exact hK _ _ (Grew.refl _) rfl (fun h => by simp at h)
    refine GivesAll.cons (fun vs w1 g1 hd K hK => ?_) ?_
    · have r9 : Buf w1 (vs 9) (xs ++ zs) := hd 9 (by kernel_rfl)
      simp only [putsT, Nat.zero_add, Nat.reduceAdd, List.getD_cons_zero, List.getD_cons_succ, Act.put, List.setIfInBounds_toArray, List.set_cons_zero, List.set_cons_succ] at hK ⊢
      go_simp
      exact hK _ _ (Grew.refl _) rfl (fun h => by simp at h)
    refine GivesAll.cons (fun vs w1 g1 hd K hK => ?_) ?_
    · have e13 : vs 13 = .int .i64 (lost : Int) := hd 13 (by kernel_rfl)
      simp only [putsT, Nat.zero_add, Nat.reduceAdd, List.getD_cons_zero, List.getD_cons_succ, Act.put, List.setIfInBounds_toArray, List.set_cons_zero, List.set_cons_succ, e13] at hK ⊢
      go_simp
      exact hK _ _ (Grew.refl _) rfl (fun h => by simp at h)
    exact GivesAll.nil
  intro vs wz gz hv hap
  have e0 : vs 0 = .slice av n cv := hv 0 (by decide)
  have e1 : vs 1 = .slice av n cv := hv 1 (by decide)
  have e2 : vs 2 = .int .i64 (n : Nat) := hv 2 (by decide)
  have e3 : vs 3 = .slice av n cv := hv 3 (by decide)
  have e4 : vs 4 = .int .i64 (n : Nat) := hv 4 (by decide)
  have e5 : vs 5 = .slice av' n n := hv 5 (by decide)
  have e6 : vs 6 = .slice au m cu := hv 6 (by decide)
  have e7 : vs 7 = .int .i64 (f : Nat) := hv 7 (by decide)
  have e8 : vs 8 = .slice au' f cu' := hv 8 (by decide)
  have r9 : Buf wz (vs 9) (xs ++ zs) := hv 9 (by decide)
  have e10 : vs 10 = .slice au m cu := hv 10 (by decide)
  have e11 : vs 11 = .int .i64 (m : Nat) := hv 11 (by decide)
  have e12 : vs 12 = .int .i64 (f : Nat) := hv 12 (by decide)
  have e13 : vs 13 = .int .i64 (lost : Int) := hv 13 (by decide)
  have e14 : vs 14 = vs 9 := hv 14 (by decide)
  have e15 : vs 15 = .int .i64 (lost : Int) := hv 15 (by decide)
  clear hv hap
  simp only [putsT, Nat.zero_add, Nat.reduceAdd, List.getD_cons_zero, List.getD_cons_succ, Act.put, List.setIfInBounds_toArray, List.set_cons_zero, List.set_cons_succ, List.drop_succ_cons, List.drop_zero, e0, e1, e2, e3, e4, e5, e6, e7, e8, e10, e11, e12, e13, e14, e15]
  clear e0 e1 e2 e3 e4 e5 e6 e7 e8 e10 e11 e12 e13 e14 e15
  obtain ⟨ar, cr, er, _, _⟩ := r9.shape
  rw [er] at r9 ⊢
  go_wp2_with fail
  exact bodyPost_ret (v := .tuple #[.slice ar (xs ++ zs).length cr, .int .i64 lost]) (by simp [results, Tryz.results81, go_sem]) rfl ⟨ar, cr, rfl, Lib.hid r9, gz⟩
theorem behind_c {v u : Value} {xs ys : List Int} (most : Nat) (hm : most ≤ 4096) {w : World} (hV : Buf w v xs) (hU : Buf w u ys) (hl : xs.length + ys.length ≤ 140737488355328) :
    Calls Tryz.prog 81 #[v, u, .int .i64 most] w fun e w' => ∃ a c, e = .returned (.tuple #[.slice a (xs ++ ys.take (fitN xs.length ys.length most)).length c, .int .i64 ((ys.length : Int) - fitN xs.length ys.length most)]) ∧ Hid (Buf w' (.slice a (xs ++ ys.take (fitN xs.length ys.length most)).length c) (xs ++ ys.take (fitN xs.length ys.length most))) ∧ Grew w w' := by
  obtain ⟨a, c, rfl, hc, _⟩ := hV.shape
  obtain ⟨b, d, rfl, hd, _⟩ := hU.shape
  obtain ⟨a', hV', rF⟩ := hV.run_full
  have hf := fitN_le xs.length ys.length most
  obtain ⟨b', d', hU', _, _, rC, _⟩ := hU.run_cut (Nat.zero_le _) hf
  have e0 : cutL ys 0 (fitN xs.length ys.length most) = ys.take (fitN xs.length ys.length most) := by simp [cutL]
  rw [e0, Nat.sub_zero] at hU'
  simp only [Nat.sub_zero] at rC
  have hx : IntKind.i64.wrap ((most : Int) - (xs.length : Nat)) = (most : Int) - (xs.length : Nat) := IntWalk.i64_in _ (by omega)
  refine behind_in xs (ys.take (fitN xs.length ys.length most)) a a' b b' xs.length c ys.length d _ d' _ most ((most : Int) - (xs.length : Nat)) (if (most : Int) - (xs.length : Nat) < 0 then 0 else (most : Int) - (xs.length : Nat)) hV' hU' (by rw [List.length_take]; omega) rF (rC (by first | rfl | trivial)) hx (fun ts t w' => ?_) (fun ts t w' => ?_) (IntWalk.i64_in _ (by omega))
  · rw [run_max_int2]
    first | done | (congr 2; first | done | (split <;> split <;> omega))
  · rw [run_min_int2]
    congr 2
    unfold fitN
    split <;> split <;> omega
end Go.Proofs.YtgcfmijkggpemaaGreat
set_option maxRecDepth 4000
set_option linter.unusedVariables false
set_option linter.unusedSimpArgs false
namespace Go.Proofs.YtgcfmijkggpemaaGreat
open Go.RowKit

def uaBadU (off size : Int) : Bool := !(decide (off < 8) && (size == 1))
/-- What is loaded. -/
def uaLdY (s : US) (off size : Int) : Int :=
  if uaBadU off size then 0 else if off = 0 then s.i.getD 0 0 else if off = 1 then IntKind.u64.wrap s.ie else if off = 5 then (if 0 < s.i.length then 97 else 96) else 0
/-- What is left. -/
def uaLdS (s : US) (off size : Int) : US := if uaBadU off size then s else if off = 0 then { s with i := s.i.drop 1 } else s
theorem isRegister_b {off size : Int} {b : Bool} (hb : (decide (off < 8) && (size == 1)) = b) (w : World) : Calls Tryz.prog 78 #[.int .u64 off, .int .i64 size] w fun e w' => e = .returned (.bool b) ∧ w = w' := by
  have := isRegister_c off size w
  rwa [hb] at this
theorem cutL_from (xs : List Int) (k : Nat) : cutL xs k xs.length = xs.drop k := by
  unfold cutL
  rw [List.take_of_length_le (by simp)]
theorem Buf.drop {w : World} {v : Value} {xs : List Int} (h : Buf w v xs) : AreBytes (xs.drop 1) := fun x hx => h.ok x (List.mem_of_mem_drop hx)

set_option maxHeartbeats 1000000 in
theorem load_bad {s : US} (l1 : s.i.length ≤ 140737488355328) (l2 : s.o.length ≤ 140737488355328) {a1 : Option Addr} {a2 : Nat} {a3 : Option Addr} {a4 : Nat} {w : World} (hP : Ua w (uaV s a1 a2 a3 a4) s) (off size : Int) (hb : (decide (off < 8) && (size == 1)) = false) :
    Calls Tryz.prog 54 #[uaV s a1 a2 a3 a4, .int .u64 off, .int .i64 size] w fun e w' => ∃ b1 d1 b2 d2, e = .returned (.tuple #[.int .u64 (0), uaV s b1 d1 b2 d2, .bool false]) ∧ Hid (Uar w' w.heap.size (uaV s b1 d1 b2 d2) s) ∧ Grew w w' := by
  replace hb := Lib.hid (isRegister_b hb)
  have HP := Lib.hid hP
  clear hP
  go_enter Tryz.func54, Tryz.ntmps54
  go_upto_region 1 with fail
  have hA : Blk ((w.alloc (.cells #[.slice a1 s.i.length a2, .slice a3 s.o.length a4, .int .i64 s.ie, .int .i64 s.lost] 32)).alloc (.cells #[.slice none 0 0, .slice none 0 0, .int .i64 0, .int .i64 0] 32)) w.heap.size #[.slice a1 s.i.length a2, .slice a3 s.o.length a4, .int .i64 s.ie, .int .i64 s.lost] 32 := (Blk.new _ _ _ _ rfl).alloc _
  have hR : Blk ((w.alloc (.cells #[.slice a1 s.i.length a2, .slice a3 s.o.length a4, .int .i64 s.ie, .int .i64 s.lost] 32)).alloc (.cells #[.slice none 0 0, .slice none 0 0, .int .i64 0, .int .i64 0] 32)) (w.heap.size + 1) #[.slice none 0 0, .slice none 0 0, .int .i64 0, .int .i64 0] 32 := Blk.new _ _ _ _ (by simp)
  have g0 : Grew w ((w.alloc (.cells #[.slice a1 s.i.length a2, .slice a3 s.o.length a4, .int .i64 s.ie, .int .i64 s.lost] 32)).alloc (.cells #[.slice none 0 0, .slice none 0 0, .int .i64 0, .int .i64 0] 32)) := ((Grew.refl w).alloc _).alloc _
  have hnA : w.heap.size ≤ w.heap.size := Nat.le_refl _
  have hnR : w.heap.size ≤ w.heap.size + 1 := Nat.le_succ _
  have hAR : w.heap.size + 1 ≠ w.heap.size := by omega
  generalize ((w.alloc (.cells #[.slice a1 s.i.length a2, .slice a3 s.o.length a4, .int .i64 s.ie, .int .i64 s.lost] 32)).alloc (.cells #[.slice none 0 0, .slice none 0 0, .int .i64 0, .int .i64 0] 32)) = w0 at *
  generalize w.heap.size + 1 = R at *
  generalize hAe : w.heap.size = A at *
  have HP0 := Lib.hid (HP.out.grew g0)
  go_wp2_with fail
  refine (hb.out _).mono ?_
  rintro e w9 ⟨rfl, rfl⟩
  go_upto_region 2 with fail
  have y0 := hA.cell 0
  have y1 := hA.cell 1
  have y2 := hA.cell 2
  have y3 := hA.cell 3
  go_wp2_with fail
  refine (uaOwn_c (s := s) l1 l2 HP0.out).mono ?_
  rintro e w8 ⟨b1, d1, b2, d2, rfl, H8, g8⟩
  have hR8 := hR.grew g8
  have lR := hR.lt
  clear y0 y1 y2 y3
  have r0 := hR8.cell 0
  have r1 := hR8.cell 1
  have r2 := hR8.cell 2
  have r3 := hR8.cell 3
  have f0 := hR8.free 0
  have f1 := hR8.free 1
  have f2 := hR8.free 2
  have f3 := hR8.free 3
  go_wp2_with fail
  have hE := ((((hR8.set (o := 0) (.slice b1 s.i.length d1)).set (o := 1) (.slice b2 s.o.length d2)).set (o := 2) (.int .i64 s.ie)).set (o := 3) (.int .i64 s.lost))
  have z0 := hE.cell 0
  have z1 := hE.cell 1
  have z2 := hE.cell 2
  have z3 := hE.cell 3
  have E := ((((H8.out.set (c := R) lR (o := 0) (.slice b1 s.i.length d1)).set (c := R) lR (o := 1) (.slice b2 s.o.length d2)).set (c := R) lR (o := 2) (.int .i64 s.ie)).set (c := R) lR (o := 3) (.int .i64 s.lost))
  have gE := (((((g0.trans g8).setCell (b := R) (o := 0) (by omega) (.slice b1 s.i.length d1)).setCell (b := R) (o := 1) (by omega) (.slice b2 s.o.length d2)).setCell (b := R) (o := 2) (by omega) (.int .i64 s.ie)).setCell (b := R) (o := 3) (by omega) (.int .i64 s.lost))
  have hsz := g0.size
  exact bodyPost_ret (v := .tuple #[.int .u64 (0), uaV s b1 d1 b2 d2, .bool false]) (by simp [results, Tryz.results54, go_sem, z0, z1, z2, z3]) rfl ⟨b1, d1, b2, d2, rfl, Lib.hid (E.low (by omega)), gE⟩

set_option maxHeartbeats 1000000 in
theorem load_else {s : US} (l1 : s.i.length ≤ 140737488355328) (l2 : s.o.length ≤ 140737488355328) {a1 : Option Addr} {a2 : Nat} {a3 : Option Addr} {a4 : Nat} {w : World} (hP : Ua w (uaV s a1 a2 a3 a4) s) (off : Int) (hb : (decide (off < 8) && ((1 : Int) == 1)) = true) (h0 : (off == 0) = false) (h1 : (off == 1) = false) (h5 : (off == 5) = false) :
    Calls Tryz.prog 54 #[uaV s a1 a2 a3 a4, .int .u64 off, .int .i64 1] w fun e w' => ∃ b1 d1 b2 d2, e = .returned (.tuple #[.int .u64 (0), uaV s b1 d1 b2 d2, .bool true]) ∧ Hid (Uar w' w.heap.size (uaV s b1 d1 b2 d2) s) ∧ Grew w w' := by
  replace hb := Lib.hid (isRegister_b hb)
  have HP := Lib.hid hP
  clear hP
  go_enter Tryz.func54, Tryz.ntmps54
  go_upto_region 1 with fail
  have hA : Blk ((w.alloc (.cells #[.slice a1 s.i.length a2, .slice a3 s.o.length a4, .int .i64 s.ie, .int .i64 s.lost] 32)).alloc (.cells #[.slice none 0 0, .slice none 0 0, .int .i64 0, .int .i64 0] 32)) w.heap.size #[.slice a1 s.i.length a2, .slice a3 s.o.length a4, .int .i64 s.ie, .int .i64 s.lost] 32 := (Blk.new _ _ _ _ rfl).alloc _
  have hR : Blk ((w.alloc (.cells #[.slice a1 s.i.length a2, .slice a3 s.o.length a4, .int .i64 s.ie, .int .i64 s.lost] 32)).alloc (.cells #[.slice none 0 0, .slice none 0 0, .int .i64 0, .int .i64 0] 32)) (w.heap.size + 1) #[.slice none 0 0, .slice none 0 0, .int .i64 0, .int .i64 0] 32 := Blk.new _ _ _ _ (by simp)
  have g0 : Grew w ((w.alloc (.cells #[.slice a1 s.i.length a2, .slice a3 s.o.length a4, .int .i64 s.ie, .int .i64 s.lost] 32)).alloc (.cells #[.slice none 0 0, .slice none 0 0, .int .i64 0, .int .i64 0] 32)) := ((Grew.refl w).alloc _).alloc _
  have hnA : w.heap.size ≤ w.heap.size := Nat.le_refl _
  have hnR : w.heap.size ≤ w.heap.size + 1 := Nat.le_succ _
  have hAR : w.heap.size + 1 ≠ w.heap.size := by omega
  generalize ((w.alloc (.cells #[.slice a1 s.i.length a2, .slice a3 s.o.length a4, .int .i64 s.ie, .int .i64 s.lost] 32)).alloc (.cells #[.slice none 0 0, .slice none 0 0, .int .i64 0, .int .i64 0] 32)) = w0 at *
  generalize w.heap.size + 1 = R at *
  generalize hAe : w.heap.size = A at *
  have HP0 := Lib.hid (HP.out.grew g0)
  go_wp2_with fail
  refine (hb.out _).mono ?_
  rintro e w9 ⟨rfl, rfl⟩
  go_upto_region 12 with fail
  have y0 := hA.cell 0
  have y1 := hA.cell 1
  have y2 := hA.cell 2
  have y3 := hA.cell 3
  go_wp2_with fail
  refine (uaOwn_c (s := s) l1 l2 HP0.out).mono ?_
  rintro e w8 ⟨b1, d1, b2, d2, rfl, H8, g8⟩
  have hR8 := hR.grew g8
  have lR := hR.lt
  clear y0 y1 y2 y3
  have r0 := hR8.cell 0
  have r1 := hR8.cell 1
  have r2 := hR8.cell 2
  have r3 := hR8.cell 3
  have f0 := hR8.free 0
  have f1 := hR8.free 1
  have f2 := hR8.free 2
  have f3 := hR8.free 3
  go_wp2_with fail
  have hE := ((((hR8.set (o := 0) (.slice b1 s.i.length d1)).set (o := 1) (.slice b2 s.o.length d2)).set (o := 2) (.int .i64 s.ie)).set (o := 3) (.int .i64 s.lost))
  have z0 := hE.cell 0
  have z1 := hE.cell 1
  have z2 := hE.cell 2
  have z3 := hE.cell 3
  have E := ((((H8.out.set (c := R) lR (o := 0) (.slice b1 s.i.length d1)).set (c := R) lR (o := 1) (.slice b2 s.o.length d2)).set (c := R) lR (o := 2) (.int .i64 s.ie)).set (c := R) lR (o := 3) (.int .i64 s.lost))
  have gE := (((((g0.trans g8).setCell (b := R) (o := 0) (by omega) (.slice b1 s.i.length d1)).setCell (b := R) (o := 1) (by omega) (.slice b2 s.o.length d2)).setCell (b := R) (o := 2) (by omega) (.int .i64 s.ie)).setCell (b := R) (o := 3) (by omega) (.int .i64 s.lost))
  have hsz := g0.size
  exact bodyPost_ret (v := .tuple #[.int .u64 (0), uaV s b1 d1 b2 d2, .bool true]) (by simp [results, Tryz.results54, go_sem, z0, z1, z2, z3]) rfl ⟨b1, d1, b2, d2, rfl, Lib.hid (E.low (by omega)), gE⟩

set_option maxHeartbeats 1000000 in
theorem load_ie {s : US} (l1 : s.i.length ≤ 140737488355328) (l2 : s.o.length ≤ 140737488355328) {a1 : Option Addr} {a2 : Nat} {a3 : Option Addr} {a4 : Nat} {w : World} (hP : Ua w (uaV s a1 a2 a3 a4) s) (hb : (decide ((1 : Int) < 8) && ((1 : Int) == 1)) = true) :
    Calls Tryz.prog 54 #[uaV s a1 a2 a3 a4, .int .u64 1, .int .i64 1] w fun e w' => ∃ b1 d1 b2 d2, e = .returned (.tuple #[.int .u64 (IntKind.u64.wrap s.ie), uaV s b1 d1 b2 d2, .bool true]) ∧ Hid (Uar w' w.heap.size (uaV s b1 d1 b2 d2) s) ∧ Grew w w' := by
  replace hb := Lib.hid (isRegister_b hb)
  have HP := Lib.hid hP
  clear hP
  go_enter Tryz.func54, Tryz.ntmps54
  go_upto_region 1 with fail
  have hA : Blk ((w.alloc (.cells #[.slice a1 s.i.length a2, .slice a3 s.o.length a4, .int .i64 s.ie, .int .i64 s.lost] 32)).alloc (.cells #[.slice none 0 0, .slice none 0 0, .int .i64 0, .int .i64 0] 32)) w.heap.size #[.slice a1 s.i.length a2, .slice a3 s.o.length a4, .int .i64 s.ie, .int .i64 s.lost] 32 := (Blk.new _ _ _ _ rfl).alloc _
  have hR : Blk ((w.alloc (.cells #[.slice a1 s.i.length a2, .slice a3 s.o.length a4, .int .i64 s.ie, .int .i64 s.lost] 32)).alloc (.cells #[.slice none 0 0, .slice none 0 0, .int .i64 0, .int .i64 0] 32)) (w.heap.size + 1) #[.slice none 0 0, .slice none 0 0, .int .i64 0, .int .i64 0] 32 := Blk.new _ _ _ _ (by simp)
  have g0 : Grew w ((w.alloc (.cells #[.slice a1 s.i.length a2, .slice a3 s.o.length a4, .int .i64 s.ie, .int .i64 s.lost] 32)).alloc (.cells #[.slice none 0 0, .slice none 0 0, .int .i64 0, .int .i64 0] 32)) := ((Grew.refl w).alloc _).alloc _
  have hnA : w.heap.size ≤ w.heap.size := Nat.le_refl _
  have hnR : w.heap.size ≤ w.heap.size + 1 := Nat.le_succ _
  have hAR : w.heap.size + 1 ≠ w.heap.size := by omega
  generalize ((w.alloc (.cells #[.slice a1 s.i.length a2, .slice a3 s.o.length a4, .int .i64 s.ie, .int .i64 s.lost] 32)).alloc (.cells #[.slice none 0 0, .slice none 0 0, .int .i64 0, .int .i64 0] 32)) = w0 at *
  generalize w.heap.size + 1 = R at *
  generalize hAe : w.heap.size = A at *
  have HP0 := Lib.hid (HP.out.grew g0)
  go_wp2_with fail
  refine (hb.out _).mono ?_
  rintro e w9 ⟨rfl, rfl⟩
  have y0 := hA.cell 0
  have y1 := hA.cell 1
  have y2 := hA.cell 2
  have y3 := hA.cell 3
  go_upto_region 12 with fail
  clear y0 y1 y2 y3
  have y0 := hA.cell 0
  have y1 := hA.cell 1
  have y2 := hA.cell 2
  have y3 := hA.cell 3
  go_wp2_with fail
  refine (uaOwn_c (s := s) l1 l2 HP0.out).mono ?_
  rintro e w8 ⟨b1, d1, b2, d2, rfl, H8, g8⟩
  have hR8 := hR.grew g8
  have lR := hR.lt
  clear y0 y1 y2 y3
  have r0 := hR8.cell 0
  have r1 := hR8.cell 1
  have r2 := hR8.cell 2
  have r3 := hR8.cell 3
  have f0 := hR8.free 0
  have f1 := hR8.free 1
  have f2 := hR8.free 2
  have f3 := hR8.free 3
  go_wp2_with fail
  have hE := ((((hR8.set (o := 0) (.slice b1 s.i.length d1)).set (o := 1) (.slice b2 s.o.length d2)).set (o := 2) (.int .i64 s.ie)).set (o := 3) (.int .i64 s.lost))
  have z0 := hE.cell 0
  have z1 := hE.cell 1
  have z2 := hE.cell 2
  have z3 := hE.cell 3
  have E := ((((H8.out.set (c := R) lR (o := 0) (.slice b1 s.i.length d1)).set (c := R) lR (o := 1) (.slice b2 s.o.length d2)).set (c := R) lR (o := 2) (.int .i64 s.ie)).set (c := R) lR (o := 3) (.int .i64 s.lost))
  have gE := (((((g0.trans g8).setCell (b := R) (o := 0) (by omega) (.slice b1 s.i.length d1)).setCell (b := R) (o := 1) (by omega) (.slice b2 s.o.length d2)).setCell (b := R) (o := 2) (by omega) (.int .i64 s.ie)).setCell (b := R) (o := 3) (by omega) (.int .i64 s.lost))
  have hsz := g0.size
  exact bodyPost_ret (v := .tuple #[.int .u64 (IntKind.u64.wrap s.ie), uaV s b1 d1 b2 d2, .bool true]) (by simp [results, Tryz.results54, go_sem, z0, z1, z2, z3]) rfl ⟨b1, d1, b2, d2, rfl, Lib.hid (E.low (by omega)), gE⟩

set_option maxHeartbeats 1000000 in
theorem load_state {s : US} (l1 : s.i.length ≤ 140737488355328) (l2 : s.o.length ≤ 140737488355328) {a1 : Option Addr} {a2 : Nat} {a3 : Option Addr} {a4 : Nat} {w : World} (hP : Ua w (uaV s a1 a2 a3 a4) s) (hb : (decide ((5 : Int) < 8) && ((1 : Int) == 1)) = true) (y : Int) (hy : (if 0 < s.i.length then 97 else 96) = y) :
    Calls Tryz.prog 54 #[uaV s a1 a2 a3 a4, .int .u64 5, .int .i64 1] w fun e w' => ∃ b1 d1 b2 d2, e = .returned (.tuple #[.int .u64 (y), uaV s b1 d1 b2 d2, .bool true]) ∧ Hid (Uar w' w.heap.size (uaV s b1 d1 b2 d2) s) ∧ Grew w w' := by
  have hS := Lib.hid (state_c s a1 a2 a3 a4)
  rw [hy] at hS
  clear hy
  replace hb := Lib.hid (isRegister_b hb)
  have HP := Lib.hid hP
  clear hP
  go_enter Tryz.func54, Tryz.ntmps54
  go_upto_region 1 with fail
  have hA : Blk ((w.alloc (.cells #[.slice a1 s.i.length a2, .slice a3 s.o.length a4, .int .i64 s.ie, .int .i64 s.lost] 32)).alloc (.cells #[.slice none 0 0, .slice none 0 0, .int .i64 0, .int .i64 0] 32)) w.heap.size #[.slice a1 s.i.length a2, .slice a3 s.o.length a4, .int .i64 s.ie, .int .i64 s.lost] 32 := (Blk.new _ _ _ _ rfl).alloc _
  have hR : Blk ((w.alloc (.cells #[.slice a1 s.i.length a2, .slice a3 s.o.length a4, .int .i64 s.ie, .int .i64 s.lost] 32)).alloc (.cells #[.slice none 0 0, .slice none 0 0, .int .i64 0, .int .i64 0] 32)) (w.heap.size + 1) #[.slice none 0 0, .slice none 0 0, .int .i64 0, .int .i64 0] 32 := Blk.new _ _ _ _ (by simp)
  have g0 : Grew w ((w.alloc (.cells #[.slice a1 s.i.length a2, .slice a3 s.o.length a4, .int .i64 s.ie, .int .i64 s.lost] 32)).alloc (.cells #[.slice none 0 0, .slice none 0 0, .int .i64 0, .int .i64 0] 32)) := ((Grew.refl w).alloc _).alloc _
  have hnA : w.heap.size ≤ w.heap.size := Nat.le_refl _
  have hnR : w.heap.size ≤ w.heap.size + 1 := Nat.le_succ _
  have hAR : w.heap.size + 1 ≠ w.heap.size := by omega
  generalize ((w.alloc (.cells #[.slice a1 s.i.length a2, .slice a3 s.o.length a4, .int .i64 s.ie, .int .i64 s.lost] 32)).alloc (.cells #[.slice none 0 0, .slice none 0 0, .int .i64 0, .int .i64 0] 32)) = w0 at *
  generalize w.heap.size + 1 = R at *
  generalize hAe : w.heap.size = A at *
  have HP0 := Lib.hid (HP.out.grew g0)
  go_wp2_with fail
  refine (hb.out _).mono ?_
  rintro e w9 ⟨rfl, rfl⟩
  have y0 := hA.cell 0
  have y1 := hA.cell 1
  have y2 := hA.cell 2
  have y3 := hA.cell 3
  go_upto_region 12 with (go_at_call 80; refine (hS.out _).mono ?_; rintro e w7 ⟨rfl, g7⟩)
  clear y0 y1 y2 y3
  have hA7 := hA.grew g7
  have hR7 := hR.grew g7
  have HP7 := Lib.hid (HP0.out.grew g7)
  have y0 := hA7.cell 0
  have y1 := hA7.cell 1
  have y2 := hA7.cell 2
  have y3 := hA7.cell 3
  go_wp2_with fail
  refine (uaOwn_c (s := s) l1 l2 HP7.out).mono ?_
  rintro e w8 ⟨b1, d1, b2, d2, rfl, H8, g8⟩
  have hR8 := hR7.grew g8
  have lR := hR7.lt
  clear y0 y1 y2 y3
  have r0 := hR8.cell 0
  have r1 := hR8.cell 1
  have r2 := hR8.cell 2
  have r3 := hR8.cell 3
  have f0 := hR8.free 0
  have f1 := hR8.free 1
  have f2 := hR8.free 2
  have f3 := hR8.free 3
  go_wp2_with fail
  have hE := ((((hR8.set (o := 0) (.slice b1 s.i.length d1)).set (o := 1) (.slice b2 s.o.length d2)).set (o := 2) (.int .i64 s.ie)).set (o := 3) (.int .i64 s.lost))
  have z0 := hE.cell 0
  have z1 := hE.cell 1
  have z2 := hE.cell 2
  have z3 := hE.cell 3
  have E := ((((H8.out.set (c := R) lR (o := 0) (.slice b1 s.i.length d1)).set (c := R) lR (o := 1) (.slice b2 s.o.length d2)).set (c := R) lR (o := 2) (.int .i64 s.ie)).set (c := R) lR (o := 3) (.int .i64 s.lost))
  have gE := ((((((g0.trans g7).trans g8).setCell (b := R) (o := 0) (by omega) (.slice b1 s.i.length d1)).setCell (b := R) (o := 1) (by omega) (.slice b2 s.o.length d2)).setCell (b := R) (o := 2) (by omega) (.int .i64 s.ie)).setCell (b := R) (o := 3) (by omega) (.int .i64 s.lost))
  have hsz := (g0.trans g7).size
  exact bodyPost_ret (v := .tuple #[.int .u64 (y), uaV s b1 d1 b2 d2, .bool true]) (by simp [results, Tryz.results54, go_sem, z0, z1, z2, z3]) rfl ⟨b1, d1, b2, d2, rfl, Lib.hid (E.low (by omega)), gE⟩

set_option maxHeartbeats 1000000 in
theorem load_none {s : US} (l1 : s.i.length ≤ 140737488355328) (l2 : s.o.length ≤ 140737488355328) {a1 : Option Addr} {a2 : Nat} {a3 : Option Addr} {a4 : Nat} {w : World} (hP : Ua w (uaV s a1 a2 a3 a4) s) (hb : (decide ((0 : Int) < 8) && ((1 : Int) == 1)) = true) (h0 : decide (0 < s.i.length) = false) :
    Calls Tryz.prog 54 #[uaV s a1 a2 a3 a4, .int .u64 0, .int .i64 1] w fun e w' => ∃ b1 d1 b2 d2, e = .returned (.tuple #[.int .u64 (0), uaV s b1 d1 b2 d2, .bool true]) ∧ Hid (Uar w' w.heap.size (uaV s b1 d1 b2 d2) s) ∧ Grew w w' := by
  have hW := Lib.hid (waits_c s a1 a2 a3 a4)
  rw [h0] at hW
  clear h0
  replace hb := Lib.hid (isRegister_b hb)
  have HP := Lib.hid hP
  clear hP
  go_enter Tryz.func54, Tryz.ntmps54
  go_upto_region 1 with fail
  have hA : Blk ((w.alloc (.cells #[.slice a1 s.i.length a2, .slice a3 s.o.length a4, .int .i64 s.ie, .int .i64 s.lost] 32)).alloc (.cells #[.slice none 0 0, .slice none 0 0, .int .i64 0, .int .i64 0] 32)) w.heap.size #[.slice a1 s.i.length a2, .slice a3 s.o.length a4, .int .i64 s.ie, .int .i64 s.lost] 32 := (Blk.new _ _ _ _ rfl).alloc _
  have hR : Blk ((w.alloc (.cells #[.slice a1 s.i.length a2, .slice a3 s.o.length a4, .int .i64 s.ie, .int .i64 s.lost] 32)).alloc (.cells #[.slice none 0 0, .slice none 0 0, .int .i64 0, .int .i64 0] 32)) (w.heap.size + 1) #[.slice none 0 0, .slice none 0 0, .int .i64 0, .int .i64 0] 32 := Blk.new _ _ _ _ (by simp)
  have g0 : Grew w ((w.alloc (.cells #[.slice a1 s.i.length a2, .slice a3 s.o.length a4, .int .i64 s.ie, .int .i64 s.lost] 32)).alloc (.cells #[.slice none 0 0, .slice none 0 0, .int .i64 0, .int .i64 0] 32)) := ((Grew.refl w).alloc _).alloc _
  have hnA : w.heap.size ≤ w.heap.size := Nat.le_refl _
  have hnR : w.heap.size ≤ w.heap.size + 1 := Nat.le_succ _
  have hAR : w.heap.size + 1 ≠ w.heap.size := by omega
  generalize ((w.alloc (.cells #[.slice a1 s.i.length a2, .slice a3 s.o.length a4, .int .i64 s.ie, .int .i64 s.lost] 32)).alloc (.cells #[.slice none 0 0, .slice none 0 0, .int .i64 0, .int .i64 0] 32)) = w0 at *
  generalize w.heap.size + 1 = R at *
  generalize hAe : w.heap.size = A at *
  have HP0 := Lib.hid (HP.out.grew g0)
  go_wp2_with fail
  refine (hb.out _).mono ?_
  rintro e w9 ⟨rfl, rfl⟩
  go_upto_region 6 with fail
  have y0 := hA.cell 0
  have y1 := hA.cell 1
  have y2 := hA.cell 2
  have y3 := hA.cell 3
  go_wp2_with fail
  refine (hW.out _).mono ?_
  rintro e w7 ⟨rfl, g7⟩
  clear y0 y1 y2 y3
  have hA7 := hA.grew g7
  have hR7 := hR.grew g7
  have HP7 := Lib.hid (HP0.out.grew g7)
  go_upto_region 12 with fail
  have y0 := hA7.cell 0
  have y1 := hA7.cell 1
  have y2 := hA7.cell 2
  have y3 := hA7.cell 3
  go_wp2_with fail
  refine (uaOwn_c (s := s) l1 l2 HP7.out).mono ?_
  rintro e w8 ⟨b1, d1, b2, d2, rfl, H8, g8⟩
  have hR8 := hR7.grew g8
  have lR := hR7.lt
  clear y0 y1 y2 y3
  have r0 := hR8.cell 0
  have r1 := hR8.cell 1
  have r2 := hR8.cell 2
  have r3 := hR8.cell 3
  have f0 := hR8.free 0
  have f1 := hR8.free 1
  have f2 := hR8.free 2
  have f3 := hR8.free 3
  go_wp2_with fail
  have hE := ((((hR8.set (o := 0) (.slice b1 s.i.length d1)).set (o := 1) (.slice b2 s.o.length d2)).set (o := 2) (.int .i64 s.ie)).set (o := 3) (.int .i64 s.lost))
  have z0 := hE.cell 0
  have z1 := hE.cell 1
  have z2 := hE.cell 2
  have z3 := hE.cell 3
  have E := ((((H8.out.set (c := R) lR (o := 0) (.slice b1 s.i.length d1)).set (c := R) lR (o := 1) (.slice b2 s.o.length d2)).set (c := R) lR (o := 2) (.int .i64 s.ie)).set (c := R) lR (o := 3) (.int .i64 s.lost))
  have gE := ((((((g0.trans g7).trans g8).setCell (b := R) (o := 0) (by omega) (.slice b1 s.i.length d1)).setCell (b := R) (o := 1) (by omega) (.slice b2 s.o.length d2)).setCell (b := R) (o := 2) (by omega) (.int .i64 s.ie)).setCell (b := R) (o := 3) (by omega) (.int .i64 s.lost))
  have hsz := (g0.trans g7).size
  exact bodyPost_ret (v := .tuple #[.int .u64 (0), uaV s b1 d1 b2 d2, .bool true]) (by simp [results, Tryz.results54, go_sem, z0, z1, z2, z3]) rfl ⟨b1, d1, b2, d2, rfl, Lib.hid (E.low (by omega)), gE⟩

set_option maxHeartbeats 1000000 in
theorem load_first {s : US} (l1 : s.i.length ≤ 140737488355328) (l2 : s.o.length ≤ 140737488355328) {a1 : Option Addr} {a2 : Nat} {a3 : Option Addr} {a4 : Nat} {w : World} (hP : Ua w (uaV s a1 a2 a3 a4) s) {j : List Int} (hb : (decide ((0 : Int) < 8) && ((1 : Int) == 1)) = true) (h0 : decide (0 < s.i.length) = true) (l1' : j.length ≤ 140737488355328) {x : Int} (hx : 0 ≤ x ∧ x < 256) {b off : Nat} (ha : a1 = some ⟨b, off, none⟩) (hbl : b < w.heap.size) (c0 : w.cell? ⟨b, off, none⟩ = some (.int .u8 x)) {q1 : Option Addr} {q2 : Nat} (hJ : Buf w (.slice q1 j.length q2) j)
    (rC : ∀ k1 w', (Instr.sliceAt 22 (.slice a1 s.i.length a2) (some (.int k1 1)) none none).run Tryz.prog w' = .ok (.slice q1 j.length q2) w') :
    Calls Tryz.prog 54 #[uaV s a1 a2 a3 a4, .int .u64 0, .int .i64 1] w fun e w' => ∃ b1 d1 b2 d2, e = .returned (.tuple #[.int .u64 (x), uaV ⟨j, s.o, s.ie, s.lost⟩ b1 d1 b2 d2, .bool true]) ∧ Hid (Uar w' w.heap.size (uaV ⟨j, s.o, s.ie, s.lost⟩ b1 d1 b2 d2) ⟨j, s.o, s.ie, s.lost⟩) ∧ Grew w w' := by
  subst ha
  have hlt : Hid (0 < s.i.length) := Lib.hid (by simpa using h0)
  have HJ := Lib.hid hJ
  clear hJ
  have hW := Lib.hid (waits_c s (some ⟨b, off, none⟩) a2 a3 a4)
  rw [h0] at hW
  clear h0
  replace hb := Lib.hid (isRegister_b hb)
  have HP := Lib.hid hP
  clear hP
  go_enter Tryz.func54, Tryz.ntmps54
  go_upto_region 1 with fail
  have hA : Blk ((w.alloc (.cells #[.slice (some ⟨b, off, none⟩) s.i.length a2, .slice a3 s.o.length a4, .int .i64 s.ie, .int .i64 s.lost] 32)).alloc (.cells #[.slice none 0 0, .slice none 0 0, .int .i64 0, .int .i64 0] 32)) w.heap.size #[.slice (some ⟨b, off, none⟩) s.i.length a2, .slice a3 s.o.length a4, .int .i64 s.ie, .int .i64 s.lost] 32 := (Blk.new _ _ _ _ rfl).alloc _
  have hR : Blk ((w.alloc (.cells #[.slice (some ⟨b, off, none⟩) s.i.length a2, .slice a3 s.o.length a4, .int .i64 s.ie, .int .i64 s.lost] 32)).alloc (.cells #[.slice none 0 0, .slice none 0 0, .int .i64 0, .int .i64 0] 32)) (w.heap.size + 1) #[.slice none 0 0, .slice none 0 0, .int .i64 0, .int .i64 0] 32 := Blk.new _ _ _ _ (by simp)
  have g0 : Grew w ((w.alloc (.cells #[.slice (some ⟨b, off, none⟩) s.i.length a2, .slice a3 s.o.length a4, .int .i64 s.ie, .int .i64 s.lost] 32)).alloc (.cells #[.slice none 0 0, .slice none 0 0, .int .i64 0, .int .i64 0] 32)) := ((Grew.refl w).alloc _).alloc _
  have hnA : w.heap.size ≤ w.heap.size := Nat.le_refl _
  have hnR : w.heap.size ≤ w.heap.size + 1 := Nat.le_succ _
  have hAR : w.heap.size + 1 ≠ w.heap.size := by omega
  generalize ((w.alloc (.cells #[.slice (some ⟨b, off, none⟩) s.i.length a2, .slice a3 s.o.length a4, .int .i64 s.ie, .int .i64 s.lost] 32)).alloc (.cells #[.slice none 0 0, .slice none 0 0, .int .i64 0, .int .i64 0] 32)) = w0 at *
  generalize w.heap.size + 1 = R at *
  generalize hAe : w.heap.size = A at *
  have HP0 := Lib.hid (HP.out.grew g0)
  go_wp2_with fail
  refine (hb.out _).mono ?_
  rintro e w9 ⟨rfl, rfl⟩
  go_upto_region 6 with fail
  have y0 := hA.cell 0
  have y1 := hA.cell 1
  have y2 := hA.cell 2
  have y3 := hA.cell 3
  go_wp2_with fail
  refine (hW.out _).mono ?_
  rintro e w7 ⟨rfl, g7⟩
  clear y0 y1 y2 y3
  have hA7 := hA.grew g7
  have hR7 := hR.grew g7
  have HP7 := Lib.hid (HP0.out.grew g7)
  have hpos : (0 : Int) < (s.i.length : Nat) := by
    have := hlt.out
    omega
  have c7 : w7.cell? ⟨b, off, none⟩ = some (.int .u8 x) := by rw [(gcell (g0.trans g7)).1 b off (by omega)]; exact c0
  have hb7 : b < w7.heap.size := by have := (g0.trans g7).size; omega
  clear c0
  go_upto_region 7 with fail
  have y0 := fun z : Over w7 => hA7.overCell 0 _ rfl z
  have y1 := fun z : Over w7 => hA7.overCell 1 _ rfl z
  have y2 := fun z : Over w7 => hA7.overCell 2 _ rfl z
  have y3 := fun z : Over w7 => hA7.overCell 3 _ rfl z
  have yc := fun z : Over w7 => Over.cell hb7 c7 z
  refine region_over_tail 10 (by kernel_rfl) (by kernel_rfl) ?_
  simp only [List.take_succ_cons, List.take_zero, List.drop_succ_cons, List.drop_zero]
  repeat (first | go_big_quiet_step (fail) | quiet_step (fail))
  refine wpQuiet_nil ?_
  intro z
  have gz := (g0.trans g7).trans z.g
  have hRz := hR7.over z
  have hAz := hA7.over z
  have HPz := Lib.hid (HP.out.grew gz)
  have HJz := Lib.hid (HJ.out.grew gz)
  have lAz := hAz.lt
  generalize z.w = w5 at *
  clear y0 y1 y2 y3
  clear yc z
  have y0 := hAz.cell 0
  have f0 := hAz.free 0
  go_upto_region 12 with fail
  clear y0 f0
  have hA6 := hAz.set (o := 0) (.slice q1 j.length q2)
  have hR6 := hRz.other (c := A) (o := 0) hAR (.slice q1 j.length q2)
  have G6 := gz.setCell (b := A) (o := 0) (by omega) (.slice q1 j.length q2)
  have HP6 : Hid (Ua (w5.setCell ⟨A, 0, none⟩ (.slice q1 j.length q2)) (uaV ⟨j, s.o, s.ie, s.lost⟩ q1 q2 a3 a4) ⟨j, s.o, s.ie, s.lost⟩) := Lib.hid ⟨⟨_, _, rfl, HJ.out.grew G6, HP.out.o.grew G6⟩, HP.out.ie, HP.out.lost⟩
  clear hAz hRz HPz HJz
  generalize w5.setCell ⟨A, 0, none⟩ (.slice q1 j.length q2) = w6 at *
  replace hA6 : Blk w6 A #[.slice q1 j.length q2, .slice a3 s.o.length a4, .int .i64 s.ie, .int .i64 s.lost] 32 := hA6
  have y0 := hA6.cell 0
  have y1 := hA6.cell 1
  have y2 := hA6.cell 2
  have y3 := hA6.cell 3
  go_wp2_with fail
  refine (uaOwn_c (s := ⟨j, s.o, s.ie, s.lost⟩) l1' l2 HP6.out).mono ?_
  rintro e w8 ⟨b1, d1, b2, d2, rfl, H8, g8⟩
  have hR8 := hR6.grew g8
  have lR := hR6.lt
  clear y0 y1 y2 y3
  have r0 := hR8.cell 0
  have r1 := hR8.cell 1
  have r2 := hR8.cell 2
  have r3 := hR8.cell 3
  have f0 := hR8.free 0
  have f1 := hR8.free 1
  have f2 := hR8.free 2
  have f3 := hR8.free 3
  go_wp2_with fail
  have hE := ((((hR8.set (o := 0) (.slice b1 j.length d1)).set (o := 1) (.slice b2 s.o.length d2)).set (o := 2) (.int .i64 s.ie)).set (o := 3) (.int .i64 s.lost))
  have z0 := hE.cell 0
  have z1 := hE.cell 1
  have z2 := hE.cell 2
  have z3 := hE.cell 3
  have E := ((((H8.out.set (c := R) lR (o := 0) (.slice b1 j.length d1)).set (c := R) lR (o := 1) (.slice b2 s.o.length d2)).set (c := R) lR (o := 2) (.int .i64 s.ie)).set (c := R) lR (o := 3) (.int .i64 s.lost))
  have gE := (((((G6.trans g8).setCell (b := R) (o := 0) (by omega) (.slice b1 j.length d1)).setCell (b := R) (o := 1) (by omega) (.slice b2 s.o.length d2)).setCell (b := R) (o := 2) (by omega) (.int .i64 s.ie)).setCell (b := R) (o := 3) (by omega) (.int .i64 s.lost))
  have hsz := G6.size
  exact bodyPost_ret (v := .tuple #[.int .u64 (x), uaV ⟨j, s.o, s.ie, s.lost⟩ b1 d1 b2 d2, .bool true]) (by simp [results, Tryz.results54, go_sem, z0, z1, z2, z3]) rfl ⟨b1, d1, b2, d2, rfl, Lib.hid (E.low (by omega)), gE⟩

theorem uaLoad_c {s : US} (l1 : s.i.length ≤ 140737488355328) (l2 : s.o.length ≤ 140737488355328) (off size : Int) {v : Value} {w : World} (hP : Ua w v s) :
    Calls Tryz.prog 54 #[v, .int .u64 off, .int .i64 size] w fun e w' => ∃ b1 d1 b2 d2, e = .returned (.tuple #[.int .u64 (uaLdY s off size), uaV (uaLdS s off size) b1 d1 b2 d2, .bool (!uaBadU off size)]) ∧ Hid (Uar w' w.heap.size (uaV (uaLdS s off size) b1 d1 b2 d2) (uaLdS s off size)) ∧ Grew w w' := by
  obtain ⟨a1, a2, a3, a4, rfl⟩ := hP.shaped
  cases hb : (decide (off < 8) && (size == 1))
  · have hB : uaBadU off size = true := by unfold uaBadU; rw [hb]; rfl
    unfold uaLdY uaLdS
    rw [hB]
    exact load_bad l1 l2 hP off size hb
  · have hB : uaBadU off size = false := by unfold uaBadU; rw [hb]; rfl
    obtain rfl : size = 1 := by simp at hb; exact hb.2
    unfold uaLdY uaLdS
    rw [hB]
    by_cases e0 : off = 0
    · subst e0
      cases h0 : decide (0 < s.i.length)
      · have hn : s.i = [] := List.eq_nil_of_length_eq_zero (by simpa using h0)
        have e : ({ s with i := s.i.drop 1 } : US) = s := by
          obtain ⟨i, o, ie, lost⟩ := s
          obtain rfl : i = [] := hn
          rfl
        have e2 : s.i.getD 0 0 = 0 := by rw [hn]; rfl
        simp only [Bool.false_eq_true, if_false, if_true, e, e2]
        exact load_none l1 l2 hP hb h0
      · have hlt : 0 < s.i.length := by simpa using h0
        have hne : s.i ≠ [] := List.length_pos_iff.1 hlt
        obtain ⟨av, cv, ev, hcv, hav⟩ := hP.i.shape
        cases ev
        obtain ⟨b, off', rfl, hat⟩ := hav hne
        obtain ⟨q1, q2, hJ, _, _, _, rC⟩ := hP.i.run_cut (lo := 1) (hi := s.i.length) hlt (Nat.le_refl _)
        rw [cutL_from] at hJ
        have hl : (s.i.drop 1).length = s.i.length - 1 := by simp
        rw [← hl] at hJ
        have c0 := hat 0 hlt
        rw [Nat.add_zero] at c0
        simp only [Bool.false_eq_true, if_false, if_true]
        refine load_first l1 l2 hP hb h0 (by omega) (hP.i.ok.getD 0) rfl (hat.lt hne) c0 hJ (fun k1 w' => ?_)
        have := rC rfl k1 w'
        rw [hl]
        simpa using this
    · by_cases e1 : off = 1
      · subst e1
        simpa using load_ie l1 l2 hP hb
      · by_cases e5 : off = 5
        · subst e5
          simpa using load_state l1 l2 hP hb _ rfl
        · simp only [Bool.false_eq_true, if_false, if_neg e0, if_neg e1, if_neg e5]
          exact load_else l1 l2 hP off hb (by simpa using e0) (by simpa using e1) (by simpa using e5)
end Go.Proofs.YtgcfmijkggpemaaGreat
set_option maxRecDepth 4000
set_option linter.unusedVariables false
set_option linter.unusedSimpArgs false
namespace Go.Proofs.YtgcfmijkggpemaaGreat
open Go.RowKit

/-- What a store leaves. -/
def uaStS (s : US) (off size x : Int) : US :=
  if uaBadU off size then s else if off = 0 then { s with o := s.o ++ [x % 256].take (fitN s.o.length 1 4096) } else if off = 1 then { s with ie := x % 4 } else s
/-- What is left when bytes were typed. -/
def tyS (s : US) (ys : List Int) : US :=
  ⟨s.i ++ ys.take (fitN s.i.length ys.length 16), s.o, s.ie, if s.lost < 2147483648 then min (s.lost + ((ys.length : Int) - fitN s.i.length ys.length 16)) 2147483648 else s.lost⟩
/-- A store into a box that holds no bytes: no bytes turn. -/
theorem Buf.box {w : World} {v : Value} {xs : List Int} (h : Buf w v xs) {X o : Nat} {cs : Array Value} {T : TypeId} (hX : Blk w X cs T) (hc : ∀ (k : Nat) (x : Int), cs[k]? ≠ some (.int .u8 x)) (u : Value) : Buf (w.setCell ⟨X, o, none⟩ u) v xs := by
  obtain ⟨a', c', rfl, hc', ha⟩ := h.shape
  refine ⟨⟨a', c', rfl, hc', fun hx => ?_⟩, h.ok, h.len⟩
  obtain ⟨b, off, rfl, hb⟩ := ha hx
  refine ⟨b, off, rfl, fun i hi => ?_⟩
  have h1 := hb i hi
  by_cases he : b = X
  · subst he
    rw [hX.cell] at h1
    exact absurd h1 (hc _ _)
  · rw [← h1]
    exact World.cell?_of_block (Below.heap_setCell w ⟨X, o, none⟩ u b he)
theorem four_no (a1 : Option Addr) (n1 a2 : Nat) (a3 : Option Addr) (n3 a4 : Nat) (x3 x4 : Int) : ∀ (k : Nat) (x : Int), (#[Value.slice a1 n1 a2, .slice a3 n3 a4, .int .i64 x3, .int .i64 x4] : Array Value)[k]? ≠ some (.int .u8 x)
  | 0, _ => by simp
  | 1, _ => by simp
  | 2, _ => by simp
  | 3, _ => by simp
  | k + 4, _ => by simp
def lineV (s : US) : Bool := decide (0 < s.i.length) && (bits .and .i64 s.ie 1 != 0)

set_option maxHeartbeats 1000000 in
theorem store_bad {s : US} (l1 : s.i.length ≤ 140737488355328) (l2 : s.o.length ≤ 140737488355328) {a1 : Option Addr} {a2 : Nat} {a3 : Option Addr} {a4 : Nat} {w : World} (hP : Ua w (uaV s a1 a2 a3 a4) s) (off size x : Int) (hb : (decide (off < 8) && (size == 1)) = false) :
    Calls Tryz.prog 56 #[uaV s a1 a2 a3 a4, .int .u64 off, .int .i64 size, .int .u64 x] w fun e w' => ∃ b1 d1 b2 d2, e = .returned (.tuple #[uaV s b1 d1 b2 d2, .bool false]) ∧ Hid (Uar w' w.heap.size (uaV s b1 d1 b2 d2) s) ∧ Grew w w' := by
  replace hb := Lib.hid (isRegister_b hb)
  have HP := Lib.hid hP
  clear hP
  go_enter Tryz.func56, Tryz.ntmps56
  go_upto_region 1 with fail
  have hA : Blk ((w.alloc (.cells #[.slice a1 s.i.length a2, .slice a3 s.o.length a4, .int .i64 s.ie, .int .i64 s.lost] 32)).alloc (.cells #[.slice none 0 0, .slice none 0 0, .int .i64 0, .int .i64 0] 32)) w.heap.size #[.slice a1 s.i.length a2, .slice a3 s.o.length a4, .int .i64 s.ie, .int .i64 s.lost] 32 := (Blk.new _ _ _ _ rfl).alloc _
  have hR : Blk ((w.alloc (.cells #[.slice a1 s.i.length a2, .slice a3 s.o.length a4, .int .i64 s.ie, .int .i64 s.lost] 32)).alloc (.cells #[.slice none 0 0, .slice none 0 0, .int .i64 0, .int .i64 0] 32)) (w.heap.size + 1) #[.slice none 0 0, .slice none 0 0, .int .i64 0, .int .i64 0] 32 := Blk.new _ _ _ _ (by simp)
  have g0 : Grew w ((w.alloc (.cells #[.slice a1 s.i.length a2, .slice a3 s.o.length a4, .int .i64 s.ie, .int .i64 s.lost] 32)).alloc (.cells #[.slice none 0 0, .slice none 0 0, .int .i64 0, .int .i64 0] 32)) := ((Grew.refl w).alloc _).alloc _
  have hnA : w.heap.size ≤ w.heap.size := Nat.le_refl _
  have hnR : w.heap.size ≤ w.heap.size + 1 := Nat.le_succ _
  have hAR : w.heap.size + 1 ≠ w.heap.size := by omega
  generalize ((w.alloc (.cells #[.slice a1 s.i.length a2, .slice a3 s.o.length a4, .int .i64 s.ie, .int .i64 s.lost] 32)).alloc (.cells #[.slice none 0 0, .slice none 0 0, .int .i64 0, .int .i64 0] 32)) = w0 at *
  generalize w.heap.size + 1 = R at *
  generalize hAe : w.heap.size = A at *
  have HP0 := Lib.hid (HP.out.grew g0)
  go_wp2_with fail
  refine (hb.out _).mono ?_
  rintro e w9 ⟨rfl, rfl⟩
  go_upto_region 2 with fail
  have y0 := hA.cell 0
  have y1 := hA.cell 1
  have y2 := hA.cell 2
  have y3 := hA.cell 3
  go_wp2_with fail
  refine (uaOwn_c (s := s) l1 l2 HP0.out).mono ?_
  rintro e w8 ⟨b1, d1, b2, d2, rfl, H8, g8⟩
  have hR8 := hR.grew g8
  have lR := hR.lt
  clear y0 y1 y2 y3
  have r0 := hR8.cell 0
  have r1 := hR8.cell 1
  have r2 := hR8.cell 2
  have r3 := hR8.cell 3
  have f0 := hR8.free 0
  have f1 := hR8.free 1
  have f2 := hR8.free 2
  have f3 := hR8.free 3
  go_wp2_with fail
  have hE := ((((hR8.set (o := 0) (.slice b1 s.i.length d1)).set (o := 1) (.slice b2 s.o.length d2)).set (o := 2) (.int .i64 s.ie)).set (o := 3) (.int .i64 s.lost))
  have z0 := hE.cell 0
  have z1 := hE.cell 1
  have z2 := hE.cell 2
  have z3 := hE.cell 3
  have E := ((((H8.out.set (c := R) lR (o := 0) (.slice b1 s.i.length d1)).set (c := R) lR (o := 1) (.slice b2 s.o.length d2)).set (c := R) lR (o := 2) (.int .i64 s.ie)).set (c := R) lR (o := 3) (.int .i64 s.lost))
  have gE := (((((g0.trans g8).setCell (b := R) (o := 0) (by omega) (.slice b1 s.i.length d1)).setCell (b := R) (o := 1) (by omega) (.slice b2 s.o.length d2)).setCell (b := R) (o := 2) (by omega) (.int .i64 s.ie)).setCell (b := R) (o := 3) (by omega) (.int .i64 s.lost))
  have hsz := g0.size
  exact bodyPost_ret (v := .tuple #[uaV s b1 d1 b2 d2, .bool false]) (by simp [results, Tryz.results56, go_sem, z0, z1, z2, z3]) rfl ⟨b1, d1, b2, d2, rfl, Lib.hid (E.low (by omega)), gE⟩

set_option maxHeartbeats 1000000 in
theorem store_else {s : US} (l1 : s.i.length ≤ 140737488355328) (l2 : s.o.length ≤ 140737488355328) {a1 : Option Addr} {a2 : Nat} {a3 : Option Addr} {a4 : Nat} {w : World} (hP : Ua w (uaV s a1 a2 a3 a4) s) (off x : Int) (hb : (decide (off < 8) && ((1 : Int) == 1)) = true) (h0 : (off == 0) = false) (h1 : (off == 1) = false) :
    Calls Tryz.prog 56 #[uaV s a1 a2 a3 a4, .int .u64 off, .int .i64 1, .int .u64 x] w fun e w' => ∃ b1 d1 b2 d2, e = .returned (.tuple #[uaV s b1 d1 b2 d2, .bool true]) ∧ Hid (Uar w' w.heap.size (uaV s b1 d1 b2 d2) s) ∧ Grew w w' := by
  replace hb := Lib.hid (isRegister_b hb)
  have HP := Lib.hid hP
  clear hP
  go_enter Tryz.func56, Tryz.ntmps56
  go_upto_region 1 with fail
  have hA : Blk ((w.alloc (.cells #[.slice a1 s.i.length a2, .slice a3 s.o.length a4, .int .i64 s.ie, .int .i64 s.lost] 32)).alloc (.cells #[.slice none 0 0, .slice none 0 0, .int .i64 0, .int .i64 0] 32)) w.heap.size #[.slice a1 s.i.length a2, .slice a3 s.o.length a4, .int .i64 s.ie, .int .i64 s.lost] 32 := (Blk.new _ _ _ _ rfl).alloc _
  have hR : Blk ((w.alloc (.cells #[.slice a1 s.i.length a2, .slice a3 s.o.length a4, .int .i64 s.ie, .int .i64 s.lost] 32)).alloc (.cells #[.slice none 0 0, .slice none 0 0, .int .i64 0, .int .i64 0] 32)) (w.heap.size + 1) #[.slice none 0 0, .slice none 0 0, .int .i64 0, .int .i64 0] 32 := Blk.new _ _ _ _ (by simp)
  have g0 : Grew w ((w.alloc (.cells #[.slice a1 s.i.length a2, .slice a3 s.o.length a4, .int .i64 s.ie, .int .i64 s.lost] 32)).alloc (.cells #[.slice none 0 0, .slice none 0 0, .int .i64 0, .int .i64 0] 32)) := ((Grew.refl w).alloc _).alloc _
  have hnA : w.heap.size ≤ w.heap.size := Nat.le_refl _
  have hnR : w.heap.size ≤ w.heap.size + 1 := Nat.le_succ _
  have hAR : w.heap.size + 1 ≠ w.heap.size := by omega
  generalize ((w.alloc (.cells #[.slice a1 s.i.length a2, .slice a3 s.o.length a4, .int .i64 s.ie, .int .i64 s.lost] 32)).alloc (.cells #[.slice none 0 0, .slice none 0 0, .int .i64 0, .int .i64 0] 32)) = w0 at *
  generalize w.heap.size + 1 = R at *
  generalize hAe : w.heap.size = A at *
  have HP0 := Lib.hid (HP.out.grew g0)
  go_wp2_with fail
  refine (hb.out _).mono ?_
  rintro e w9 ⟨rfl, rfl⟩
  go_upto_region 8 with fail
  have y0 := hA.cell 0
  have y1 := hA.cell 1
  have y2 := hA.cell 2
  have y3 := hA.cell 3
  go_wp2_with fail
  refine (uaOwn_c (s := s) l1 l2 HP0.out).mono ?_
  rintro e w8 ⟨b1, d1, b2, d2, rfl, H8, g8⟩
  have hR8 := hR.grew g8
  have lR := hR.lt
  clear y0 y1 y2 y3
  have r0 := hR8.cell 0
  have r1 := hR8.cell 1
  have r2 := hR8.cell 2
  have r3 := hR8.cell 3
  have f0 := hR8.free 0
  have f1 := hR8.free 1
  have f2 := hR8.free 2
  have f3 := hR8.free 3
  go_wp2_with fail
  have hE := ((((hR8.set (o := 0) (.slice b1 s.i.length d1)).set (o := 1) (.slice b2 s.o.length d2)).set (o := 2) (.int .i64 s.ie)).set (o := 3) (.int .i64 s.lost))
  have z0 := hE.cell 0
  have z1 := hE.cell 1
  have z2 := hE.cell 2
  have z3 := hE.cell 3
  have E := ((((H8.out.set (c := R) lR (o := 0) (.slice b1 s.i.length d1)).set (c := R) lR (o := 1) (.slice b2 s.o.length d2)).set (c := R) lR (o := 2) (.int .i64 s.ie)).set (c := R) lR (o := 3) (.int .i64 s.lost))
  have gE := (((((g0.trans g8).setCell (b := R) (o := 0) (by omega) (.slice b1 s.i.length d1)).setCell (b := R) (o := 1) (by omega) (.slice b2 s.o.length d2)).setCell (b := R) (o := 2) (by omega) (.int .i64 s.ie)).setCell (b := R) (o := 3) (by omega) (.int .i64 s.lost))
  have hsz := g0.size
  exact bodyPost_ret (v := .tuple #[uaV s b1 d1 b2 d2, .bool true]) (by simp [results, Tryz.results56, go_sem, z0, z1, z2, z3]) rfl ⟨b1, d1, b2, d2, rfl, Lib.hid (E.low (by omega)), gE⟩

set_option maxHeartbeats 1000000 in
theorem store_ie {s : US} (l1 : s.i.length ≤ 140737488355328) (l2 : s.o.length ≤ 140737488355328) {a1 : Option Addr} {a2 : Nat} {a3 : Option Addr} {a4 : Nat} {w : World} (hP : Ua w (uaV s a1 a2 a3 a4) s) (x y : Int) (hx : wrap64 (x.tmod 4) = y) (hi : uaIntI y) (hb : (decide ((1 : Int) < 8) && ((1 : Int) == 1)) = true) :
    Calls Tryz.prog 56 #[uaV s a1 a2 a3 a4, .int .u64 1, .int .i64 1, .int .u64 x] w fun e w' => ∃ b1 d1 b2 d2, e = .returned (.tuple #[uaV ⟨s.i, s.o, y, s.lost⟩ b1 d1 b2 d2, .bool true]) ∧ Hid (Uar w' w.heap.size (uaV ⟨s.i, s.o, y, s.lost⟩ b1 d1 b2 d2) ⟨s.i, s.o, y, s.lost⟩) ∧ Grew w w' := by
  have HI := Lib.hid hi
  clear hi
  replace hb := Lib.hid (isRegister_b hb)
  have HP := Lib.hid hP
  clear hP
  go_enter Tryz.func56, Tryz.ntmps56
  go_upto_region 1 with fail
  have hA : Blk ((w.alloc (.cells #[.slice a1 s.i.length a2, .slice a3 s.o.length a4, .int .i64 s.ie, .int .i64 s.lost] 32)).alloc (.cells #[.slice none 0 0, .slice none 0 0, .int .i64 0, .int .i64 0] 32)) w.heap.size #[.slice a1 s.i.length a2, .slice a3 s.o.length a4, .int .i64 s.ie, .int .i64 s.lost] 32 := (Blk.new _ _ _ _ rfl).alloc _
  have hR : Blk ((w.alloc (.cells #[.slice a1 s.i.length a2, .slice a3 s.o.length a4, .int .i64 s.ie, .int .i64 s.lost] 32)).alloc (.cells #[.slice none 0 0, .slice none 0 0, .int .i64 0, .int .i64 0] 32)) (w.heap.size + 1) #[.slice none 0 0, .slice none 0 0, .int .i64 0, .int .i64 0] 32 := Blk.new _ _ _ _ (by simp)
  have g0 : Grew w ((w.alloc (.cells #[.slice a1 s.i.length a2, .slice a3 s.o.length a4, .int .i64 s.ie, .int .i64 s.lost] 32)).alloc (.cells #[.slice none 0 0, .slice none 0 0, .int .i64 0, .int .i64 0] 32)) := ((Grew.refl w).alloc _).alloc _
  have hnA : w.heap.size ≤ w.heap.size := Nat.le_refl _
  have hnR : w.heap.size ≤ w.heap.size + 1 := Nat.le_succ _
  have hAR : w.heap.size + 1 ≠ w.heap.size := by omega
  generalize ((w.alloc (.cells #[.slice a1 s.i.length a2, .slice a3 s.o.length a4, .int .i64 s.ie, .int .i64 s.lost] 32)).alloc (.cells #[.slice none 0 0, .slice none 0 0, .int .i64 0, .int .i64 0] 32)) = w0 at *
  generalize w.heap.size + 1 = R at *
  generalize hAe : w.heap.size = A at *
  have HP0 := Lib.hid (HP.out.grew g0)
  go_wp2_with fail
  refine (hb.out _).mono ?_
  rintro e w9 ⟨rfl, rfl⟩
  have f0 := hA.free 2
  have y2 := hA.cell 2
  go_upto_region 8 with fail
  clear f0 y2
  have hA6 := hA.set (o := 2) (.int .i64 y)
  have hR6 := hR.other (c := A) (o := 2) hAR (.int .i64 y)
  have G6 := g0.setCell (b := A) (o := 2) (by omega) (.int .i64 y)
  have HP6 : Hid (Ua (w0.setCell ⟨A, 2, none⟩ (.int .i64 y)) (uaV ⟨s.i, s.o, y, s.lost⟩ a1 a2 a3 a4) ⟨s.i, s.o, y, s.lost⟩) := Lib.hid ⟨⟨_, _, rfl, HP.out.i.grew G6, HP.out.o.grew G6⟩, HI.out, HP.out.lost⟩
  generalize w0.setCell ⟨A, 2, none⟩ (.int .i64 y) = w6 at *
  replace hA6 : Blk w6 A #[.slice a1 s.i.length a2, .slice a3 s.o.length a4, .int .i64 y, .int .i64 s.lost] 32 := hA6
  have y0 := hA6.cell 0
  have y1 := hA6.cell 1
  have y2 := hA6.cell 2
  have y3 := hA6.cell 3
  go_wp2_with fail
  refine (uaOwn_c (s := ⟨s.i, s.o, y, s.lost⟩) l1 l2 HP6.out).mono ?_
  rintro e w8 ⟨b1, d1, b2, d2, rfl, H8, g8⟩
  have hR8 := hR6.grew g8
  have lR := hR6.lt
  clear y0 y1 y2 y3
  have r0 := hR8.cell 0
  have r1 := hR8.cell 1
  have r2 := hR8.cell 2
  have r3 := hR8.cell 3
  have f0 := hR8.free 0
  have f1 := hR8.free 1
  have f2 := hR8.free 2
  have f3 := hR8.free 3
  go_wp2_with fail
  have hE := ((((hR8.set (o := 0) (.slice b1 s.i.length d1)).set (o := 1) (.slice b2 s.o.length d2)).set (o := 2) (.int .i64 y)).set (o := 3) (.int .i64 s.lost))
  have z0 := hE.cell 0
  have z1 := hE.cell 1
  have z2 := hE.cell 2
  have z3 := hE.cell 3
  have E := ((((H8.out.set (c := R) lR (o := 0) (.slice b1 s.i.length d1)).set (c := R) lR (o := 1) (.slice b2 s.o.length d2)).set (c := R) lR (o := 2) (.int .i64 y)).set (c := R) lR (o := 3) (.int .i64 s.lost))
  have gE := (((((G6.trans g8).setCell (b := R) (o := 0) (by omega) (.slice b1 s.i.length d1)).setCell (b := R) (o := 1) (by omega) (.slice b2 s.o.length d2)).setCell (b := R) (o := 2) (by omega) (.int .i64 y)).setCell (b := R) (o := 3) (by omega) (.int .i64 s.lost))
  have hsz := G6.size
  exact bodyPost_ret (v := .tuple #[uaV ⟨s.i, s.o, y, s.lost⟩ b1 d1 b2 d2, .bool true]) (by simp [results, Tryz.results56, go_sem, z0, z1, z2, z3]) rfl ⟨b1, d1, b2, d2, rfl, Lib.hid (E.low (by omega)), gE⟩

set_option maxHeartbeats 1000000 in
theorem store_out {s : US} (l1 : s.i.length ≤ 140737488355328) (l2 : s.o.length ≤ 140737488355328) {a1 : Option Addr} {a2 : Nat} {a3 : Option Addr} {a4 : Nat} {w : World} (hP : Ua w (uaV s a1 a2 a3 a4) s) {j : List Int} (x y d : Int) (hx : x % 256 = y) (hy : 0 ≤ y ∧ y < 256) (l2' : j.length ≤ 140737488355328) (hb : (decide ((0 : Int) < 8) && ((1 : Int) == 1)) = true)
    (hB : ∀ w v u, Buf w v s.o → Buf w u [y] → Calls Tryz.prog 81 #[v, u, .int .i64 4096] w fun e w' => ∃ a c, e = .returned (.tuple #[.slice a j.length c, .int .i64 d]) ∧ Hid (Buf w' (.slice a j.length c) j) ∧ Grew w w') :
    Calls Tryz.prog 56 #[uaV s a1 a2 a3 a4, .int .u64 0, .int .i64 1, .int .u64 x] w fun e w' => ∃ b1 d1 b2 d2, e = .returned (.tuple #[uaV ⟨s.i, j, s.ie, s.lost⟩ b1 d1 b2 d2, .bool true]) ∧ Hid (Uar w' w.heap.size (uaV ⟨s.i, j, s.ie, s.lost⟩ b1 d1 b2 d2) ⟨s.i, j, s.ie, s.lost⟩) ∧ Grew w w' := by
  have HB := Lib.hid hB
  have HY : Hid (AreBytes [y]) := Lib.hid (fun z hz => by simp at hz; rw [hz]; exact hy)
  clear hB hy
  replace hb := Lib.hid (isRegister_b hb)
  have HP := Lib.hid hP
  clear hP
  go_enter Tryz.func56, Tryz.ntmps56
  go_upto_region 1 with fail
  have hA : Blk ((w.alloc (.cells #[.slice a1 s.i.length a2, .slice a3 s.o.length a4, .int .i64 s.ie, .int .i64 s.lost] 32)).alloc (.cells #[.slice none 0 0, .slice none 0 0, .int .i64 0, .int .i64 0] 32)) w.heap.size #[.slice a1 s.i.length a2, .slice a3 s.o.length a4, .int .i64 s.ie, .int .i64 s.lost] 32 := (Blk.new _ _ _ _ rfl).alloc _
  have hR : Blk ((w.alloc (.cells #[.slice a1 s.i.length a2, .slice a3 s.o.length a4, .int .i64 s.ie, .int .i64 s.lost] 32)).alloc (.cells #[.slice none 0 0, .slice none 0 0, .int .i64 0, .int .i64 0] 32)) (w.heap.size + 1) #[.slice none 0 0, .slice none 0 0, .int .i64 0, .int .i64 0] 32 := Blk.new _ _ _ _ (by simp)
  have g0 : Grew w ((w.alloc (.cells #[.slice a1 s.i.length a2, .slice a3 s.o.length a4, .int .i64 s.ie, .int .i64 s.lost] 32)).alloc (.cells #[.slice none 0 0, .slice none 0 0, .int .i64 0, .int .i64 0] 32)) := ((Grew.refl w).alloc _).alloc _
  have hnA : w.heap.size ≤ w.heap.size := Nat.le_refl _
  have hnR : w.heap.size ≤ w.heap.size + 1 := Nat.le_succ _
  have hAR : w.heap.size + 1 ≠ w.heap.size := by omega
  generalize ((w.alloc (.cells #[.slice a1 s.i.length a2, .slice a3 s.o.length a4, .int .i64 s.ie, .int .i64 s.lost] 32)).alloc (.cells #[.slice none 0 0, .slice none 0 0, .int .i64 0, .int .i64 0] 32)) = w0 at *
  generalize w.heap.size + 1 = R at *
  generalize hAe : w.heap.size = A at *
  have HP0 := Lib.hid (HP.out.grew g0)
  go_wp2_with fail
  refine (hb.out _).mono ?_
  rintro e w9 ⟨rfl, rfl⟩
  go_upto_region 5 with fail
  have y1 := hA.cell 1
  go_wp2_with fail
  refine (HB.out _ _ _ (HP0.out.o.grew ((Grew.refl w0).alloc _)) (Row.buf (Row.lit w0 w0.heap.size (Nat.le_refl _) #[.int .u8 y] [y] rfl (by simp [maxLen]) _ rfl 1 rfl) HY.out)).mono ?_
  rintro e w7 ⟨q1, q2, rfl, H7, g7'⟩
  have g7 := ((Grew.refl w0).alloc _).trans g7'
  have hA7 := hA.grew g7
  have hR7 := hR.grew g7
  clear y1 g7'
  have f1 := hA7.free 1
  have y1 := hA7.cell 1
  go_upto_region 8 with fail
  clear f1 y1
  have hA6 := hA7.set (o := 1) (.slice q1 j.length q2)
  have hR6 := hR7.other (c := A) (o := 1) hAR (.slice q1 j.length q2)
  have G6 := (g0.trans g7).setCell (b := A) (o := 1) (by omega) (.slice q1 j.length q2)
  have HJ6 : Buf (w7.setCell ⟨A, 1, none⟩ (.slice q1 j.length q2)) (.slice q1 j.length q2) j := H7.out.box hA7 (four_no _ _ _ _ _ _ _ _) _
  have HP6 : Hid (Ua (w7.setCell ⟨A, 1, none⟩ (.slice q1 j.length q2)) (uaV ⟨s.i, j, s.ie, s.lost⟩ a1 a2 q1 q2) ⟨s.i, j, s.ie, s.lost⟩) := Lib.hid ⟨⟨_, _, rfl, HP.out.i.grew G6, HJ6⟩, HP.out.ie, HP.out.lost⟩
  clear hA7 hR7 H7 HJ6
  generalize w7.setCell ⟨A, 1, none⟩ (.slice q1 j.length q2) = w6 at *
  replace hA6 : Blk w6 A #[.slice a1 s.i.length a2, .slice q1 j.length q2, .int .i64 s.ie, .int .i64 s.lost] 32 := hA6
  have y0 := hA6.cell 0
  have y1 := hA6.cell 1
  have y2 := hA6.cell 2
  have y3 := hA6.cell 3
  go_wp2_with fail
  refine (uaOwn_c (s := ⟨s.i, j, s.ie, s.lost⟩) l1 l2' HP6.out).mono ?_
  rintro e w8 ⟨b1, d1, b2, d2, rfl, H8, g8⟩
  have hR8 := hR6.grew g8
  have lR := hR6.lt
  clear y0 y1 y2 y3
  have r0 := hR8.cell 0
  have r1 := hR8.cell 1
  have r2 := hR8.cell 2
  have r3 := hR8.cell 3
  have f0 := hR8.free 0
  have f1 := hR8.free 1
  have f2 := hR8.free 2
  have f3 := hR8.free 3
  go_wp2_with fail
  have hE := ((((hR8.set (o := 0) (.slice b1 s.i.length d1)).set (o := 1) (.slice b2 j.length d2)).set (o := 2) (.int .i64 s.ie)).set (o := 3) (.int .i64 s.lost))
  have z0 := hE.cell 0
  have z1 := hE.cell 1
  have z2 := hE.cell 2
  have z3 := hE.cell 3
  have E := ((((H8.out.set (c := R) lR (o := 0) (.slice b1 s.i.length d1)).set (c := R) lR (o := 1) (.slice b2 j.length d2)).set (c := R) lR (o := 2) (.int .i64 s.ie)).set (c := R) lR (o := 3) (.int .i64 s.lost))
  have gE := (((((G6.trans g8).setCell (b := R) (o := 0) (by omega) (.slice b1 s.i.length d1)).setCell (b := R) (o := 1) (by omega) (.slice b2 j.length d2)).setCell (b := R) (o := 2) (by omega) (.int .i64 s.ie)).setCell (b := R) (o := 3) (by omega) (.int .i64 s.lost))
  have hsz := G6.size
  exact bodyPost_ret (v := .tuple #[uaV ⟨s.i, j, s.ie, s.lost⟩ b1 d1 b2 d2, .bool true]) (by simp [results, Tryz.results56, go_sem, z0, z1, z2, z3]) rfl ⟨b1, d1, b2, d2, rfl, Lib.hid (E.low (by omega)), gE⟩

theorem take_bytes {xs : List Int} (h : AreBytes xs) (n : Nat) : AreBytes (xs.take n) := fun x hx => h x (List.mem_of_mem_take hx)
theorem uaStore_c {s : US} (l1 : s.i.length ≤ 70368744177664) (l2 : s.o.length ≤ 70368744177664) (off size x : Int) (hx0 : 0 ≤ x) {v : Value} {w : World} (hP : Ua w v s) :
    Calls Tryz.prog 56 #[v, .int .u64 off, .int .i64 size, .int .u64 x] w fun e w' => ∃ b1 d1 b2 d2, e = .returned (.tuple #[uaV (uaStS s off size x) b1 d1 b2 d2, .bool (!uaBadU off size)]) ∧ Hid (Uar w' w.heap.size (uaV (uaStS s off size x) b1 d1 b2 d2) (uaStS s off size x)) ∧ Grew w w' := by
  obtain ⟨a1, a2, a3, a4, rfl⟩ := hP.shaped
  have l1' : s.i.length ≤ 140737488355328 := by omega
  have l2' : s.o.length ≤ 140737488355328 := by omega
  cases hb : (decide (off < 8) && (size == 1))
  · have hB : uaBadU off size = true := by unfold uaBadU; rw [hb]; rfl
    unfold uaStS
    rw [hB]
    exact store_bad l1' l2' hP off size x hb
  · have hB : uaBadU off size = false := by unfold uaBadU; rw [hb]; rfl
    obtain rfl : size = 1 := by simp at hb; exact hb.2
    unfold uaStS
    rw [hB]
    by_cases e0 : off = 0
    · subst e0
      simp only [Bool.false_eq_true, if_false, if_true]
      have hy : 0 ≤ x % 256 ∧ x % 256 < 256 := by omega
      refine store_out l1' l2' hP x (x % 256) ((([x % 256] : List Int).length : Int) - fitN s.o.length ([x % 256] : List Int).length 4096) rfl hy (by rw [List.length_append, List.length_take]; have : ([x % 256] : List Int).length = 1 := rfl; omega) hb (fun w v u hv hu => ?_)
      have := behind_c 4096 (by decide) hv hu (by have : ([x % 256] : List Int).length = 1 := rfl; omega)
      exact this
    · by_cases e1 : off = 1
      · subst e1
        simp only [Bool.false_eq_true, if_false, if_true, if_neg e0]
        have e4 : x.tmod 4 = x % 4 := Int.tmod_eq_emod_of_nonneg hx0
        exact store_ie l1' l2' hP x (x % 4) (by rw [e4]; exact IntWalk.wrap64_in _ (by omega)) (by unfold uaIntI; omega) hb
      · simp only [Bool.false_eq_true, if_false, if_neg e0, if_neg e1]
        exact store_else l1' l2' hP off x hb (by simpa using e0) (by simpa using e1)

theorem uaLine_c (s : US) (a1 : Option Addr) (c1 : Nat) (a2 : Option Addr) (c2 : Nat) (w : World) : Calls Tryz.prog 40 #[uaV s a1 c1 a2 c2] w fun e w' => e = .returned (.bool (lineV s)) ∧ Grew w w' := by
  have hW := Lib.hid (waits_c s a1 c1 a2 c2)
  unfold lineV
  cases h0 : decide (0 < s.i.length)
  all_goals
    rw [h0] at hW
    clear h0
    go_enter Tryz.func40, Tryz.ntmps40
    go_upto_region 1 with fail
    have hA : Blk (w.alloc (.cells #[.slice a1 s.i.length c1, .slice a2 s.o.length c2, .int .i64 s.ie, .int .i64 s.lost] 32)) w.heap.size #[.slice a1 s.i.length c1, .slice a2 s.o.length c2, .int .i64 s.ie, .int .i64 s.lost] 32 := Blk.new _ _ _ _ rfl
    have g0 : Grew w (w.alloc (.cells #[.slice a1 s.i.length c1, .slice a2 s.o.length c2, .int .i64 s.ie, .int .i64 s.lost] 32)) := (Grew.refl w).alloc _
    generalize (w.alloc (.cells #[.slice a1 s.i.length c1, .slice a2 s.o.length c2, .int .i64 s.ie, .int .i64 s.lost] 32)) = w0 at *
    have y0 := hA.cell 0
    have y1 := hA.cell 1
    have y2 := hA.cell 2
    have y3 := hA.cell 3
    go_wp2_with fail
    refine (hW.out _).mono ?_
    rintro e w1 ⟨rfl, g1⟩
    clear y0 y1 y2 y3
    have y2 := (hA.grew g1).cell 2
    go_wp2_with fail
    go_ret
    exact ⟨by simp, g0.trans g1⟩
end Go.Proofs.YtgcfmijkggpemaaGreat
set_option maxRecDepth 4000
set_option linter.unusedVariables false
set_option linter.unusedSimpArgs false
namespace Go.Proofs.YtgcfmijkggpemaaGreat
open Go.RowKit

set_option maxHeartbeats 1000000 in
theorem uaSame_c {s : US} {v u : Value} {w : World} (hv : Ua w v s) (hu : Ua w u s) : Calls Tryz.prog 18 #[v, u] w fun e w' => e = .returned (.bool true) ∧ Grew w w' := by
  obtain ⟨a1, a2, a3, a4, rfl⟩ := hv.shaped
  obtain ⟨b1, b2, b3, b4, rfl⟩ := hu.shaped
  have HV := Lib.hid hv
  have HU := Lib.hid hu
  clear hv hu
  go_enter Tryz.func18, Tryz.ntmps18
  go_upto_region 1 with fail
  have hA : Blk ((w.alloc (.cells #[.slice a1 s.i.length a2, .slice a3 s.o.length a4, .int .i64 s.ie, .int .i64 s.lost] 32)).alloc (.cells #[.slice b1 s.i.length b2, .slice b3 s.o.length b4, .int .i64 s.ie, .int .i64 s.lost] 32)) w.heap.size #[.slice a1 s.i.length a2, .slice a3 s.o.length a4, .int .i64 s.ie, .int .i64 s.lost] 32 := (Blk.new _ _ _ _ rfl).alloc _
  have hB : Blk ((w.alloc (.cells #[.slice a1 s.i.length a2, .slice a3 s.o.length a4, .int .i64 s.ie, .int .i64 s.lost] 32)).alloc (.cells #[.slice b1 s.i.length b2, .slice b3 s.o.length b4, .int .i64 s.ie, .int .i64 s.lost] 32)) (w.heap.size + 1) #[.slice b1 s.i.length b2, .slice b3 s.o.length b4, .int .i64 s.ie, .int .i64 s.lost] 32 := Blk.new _ _ _ _ (by simp)
  have g0 : Grew w ((w.alloc (.cells #[.slice a1 s.i.length a2, .slice a3 s.o.length a4, .int .i64 s.ie, .int .i64 s.lost] 32)).alloc (.cells #[.slice b1 s.i.length b2, .slice b3 s.o.length b4, .int .i64 s.ie, .int .i64 s.lost] 32)) := ((Grew.refl w).alloc _).alloc _
  generalize ((w.alloc (.cells #[.slice a1 s.i.length a2, .slice a3 s.o.length a4, .int .i64 s.ie, .int .i64 s.lost] 32)).alloc (.cells #[.slice b1 s.i.length b2, .slice b3 s.o.length b4, .int .i64 s.ie, .int .i64 s.lost] 32)) = w0 at *
  generalize w.heap.size + 1 = B at *
  generalize w.heap.size = A at *
  have y0 := hA.cell 0
  have y1 := hA.cell 1
  have y2 := hA.cell 2
  have y3 := hA.cell 3
  have z0 := hB.cell 0
  have z1 := hB.cell 1
  have z2 := hB.cell 2
  have z3 := hB.cell 3
  have e1 := convert_bytes (HV.out.grew g0).i.bytes
  have e2 := convert_bytes (HV.out.grew g0).o.bytes
  have e3 := convert_bytes (HU.out.grew g0).i.bytes
  have e4 := convert_bytes (HU.out.grew g0).o.bytes
  clear hA hB
  go_wp2_with fail
  go_ret
  exact ⟨rfl, g0⟩

section
open Go.ChangeShapes Go.WideShapes Go.Deep
variable {H : Type} {enc : TypeId × Value → H} {w : World} {base : Nat} {spare : Nat → Bool} {held : Bool}
theorem open_uart {r : Reach} {b0 : Nat} {v : Value} {D : DataW H} {p : List MemPlace} (hv : Value.okWide Tryz.prog w r b0 32 v) (h : DataW.Trod enc Tryz.prog w base spare held 32 v D p) :
    ∃ (s : US) (a1 : Option Addr) (c1 : Nat) (a2 : Option Addr) (c2 : Nat), v = uaV s a1 c1 a2 c2 ∧ Ua w (uaV s a1 c1 a2 c2) s := by
  have hs := Tryz.underlying32
  obtain ⟨⟨l⟩, rfl, hsz⟩ := okWide_struct hs hv
  rw [show Tryz.prog.cellsOf 32 = 4 by kernel_rfl] at hsz
  obtain ⟨fuel, hf⟩ := h
  obtain ⟨xs, n, _, hx, _, hl, hg⟩ := DataW.trod_struct hs hf
  have k0 : Tryz.prog.cellsOf 22 = 1 := by kernel_rfl
  have k1 : Tryz.prog.cellsOf 3 = 1 := by kernel_rfl
  match l, hsz, xs, hl with
  | [c0, c1, c2, c3], _, [y0, y1, y2, y3], _ =>
    have g0 : DataW.trod enc Tryz.prog w base spare held n 22 [c0] = some y0 := by
      have := hg 0 _ rfl
      simpa [Value.cells, k0, k1] using this
    have g1 : DataW.trod enc Tryz.prog w base spare held n 22 [c1] = some y1 := by
      have := hg 1 _ rfl
      simpa [Value.cells, k0, k1] using this
    have g2 : DataW.trod enc Tryz.prog w base spare held n 3 [c2] = some y2 := by
      have := hg 2 _ rfl
      simpa [Value.cells, k0, k1] using this
    have g3 : DataW.trod enc Tryz.prog w base spare held n 3 [c3] = some y3 := by
      have := hg 3 _ rfl
      simpa [Value.cells, k0, k1] using this
    obtain ⟨x0, b0'⟩ := buf_of_trod Tryz.underlying22 Tryz.underlying5 (by kernel_rfl) g0
    obtain ⟨x1, b1'⟩ := buf_of_trod Tryz.underlying22 Tryz.underlying5 (by kernel_rfl) g1
    obtain ⟨N, e2, _, wN⟩ := DataW.trod_int Tryz.underlying3 g2
    obtain ⟨K, e3, _, wK⟩ := DataW.trod_int Tryz.underlying3 g3
    obtain rfl : c2 = _ := by simpa using e2
    obtain rfl : c3 = _ := by simpa using e3
    obtain ⟨a0, q0, rfl, _, _⟩ := b0'.shape
    obtain ⟨a1, q1, rfl, _, _⟩ := b1'.shape
    exact ⟨⟨x0, x1, N, K⟩, a0, q0, a1, q1, rfl, ⟨⟨_, _, rfl, b0', b1'⟩, wf_i64 wN, wf_i64 wK⟩⟩
end
def hU0 : US := ⟨[], [], 0, 0⟩
def hU1 : US := ⟨[104, 105], [], 0, 0⟩
def hU2 : US := ⟨[105], [], 0, 0⟩
def hU4 : US := ⟨[], [65], 0, 0⟩
theorem uaHd_2 {v : Value} {w : World} (hb : Ua w v hU1) : Calls Tryz.prog 54 #[v, .int .u64 0, .int .i64 1] w fun e w' => ∃ b1 b2 b3 b4, e = .returned (.tuple #[.int .u64 104, .agg #[.slice b1 1 b2, .slice b3 0 b4, .int .i64 0, .int .i64 0], .bool true]) ∧ Hid (Uar w' w.heap.size (.agg #[.slice b1 1 b2, .slice b3 0 b4, .int .i64 0, .int .i64 0]) hU2) ∧ Grew w w' := by
  refine (uaLoad_c (s := hU1) (by decide) (by decide) 0 1 hb).mono ?_
  rintro e w' ⟨b1, b2, b3, b4, rfl, H, g⟩
  rw [show uaLdS hU1 0 1 = hU2 by kernel_rfl] at H ⊢
  rw [show uaBadU 0 1 = false by kernel_rfl, show uaLdY hU1 0 1 = 104 by kernel_rfl]
  exact ⟨b1, b2, b3, b4, rfl, H, g⟩
theorem uaHd_3 {v : Value} {w : World} (hb : Ua w v hU2) : Calls Tryz.prog 54 #[v, .int .u64 0, .int .i64 1] w fun e w' => ∃ b1 b2 b3 b4, e = .returned (.tuple #[.int .u64 105, .agg #[.slice b1 0 b2, .slice b3 0 b4, .int .i64 0, .int .i64 0], .bool true]) ∧ Hid (Uar w' w.heap.size (.agg #[.slice b1 0 b2, .slice b3 0 b4, .int .i64 0, .int .i64 0]) hU0) ∧ Grew w w' := by
  refine (uaLoad_c (s := hU2) (by decide) (by decide) 0 1 hb).mono ?_
  rintro e w' ⟨b1, b2, b3, b4, rfl, H, g⟩
  rw [show uaLdS hU2 0 1 = hU0 by kernel_rfl] at H ⊢
  rw [show uaBadU 0 1 = false by kernel_rfl, show uaLdY hU2 0 1 = 105 by kernel_rfl]
  exact ⟨b1, b2, b3, b4, rfl, H, g⟩
theorem uaHd_4 {v : Value} {w : World} (hb : Ua w v hU0) : Calls Tryz.prog 54 #[v, .int .u64 5, .int .i64 1] w fun e w' => ∃ b1 b2 b3 b4, e = .returned (.tuple #[.int .u64 96, .agg #[.slice b1 0 b2, .slice b3 0 b4, .int .i64 0, .int .i64 0], .bool true]) ∧ Hid (Uar w' w.heap.size (.agg #[.slice b1 0 b2, .slice b3 0 b4, .int .i64 0, .int .i64 0]) hU0) ∧ Grew w w' := by
  refine (uaLoad_c (s := hU0) (by decide) (by decide) 5 1 hb).mono ?_
  rintro e w' ⟨b1, b2, b3, b4, rfl, H, g⟩
  rw [show uaLdS hU0 5 1 = hU0 by kernel_rfl] at H ⊢
  rw [show uaBadU 5 1 = false by kernel_rfl, show uaLdY hU0 5 1 = 96 by kernel_rfl]
  exact ⟨b1, b2, b3, b4, rfl, H, g⟩
theorem uaHd_5 {v : Value} {w : World} (hb : Ua w v hU0) : Calls Tryz.prog 56 #[v, .int .u64 0, .int .i64 1, .int .u64 321] w fun e w' => ∃ b1 b2 b3 b4, e = .returned (.tuple #[.agg #[.slice b1 0 b2, .slice b3 1 b4, .int .i64 0, .int .i64 0], .bool true]) ∧ Hid (Uar w' w.heap.size (.agg #[.slice b1 0 b2, .slice b3 1 b4, .int .i64 0, .int .i64 0]) hU4) ∧ Grew w w' := by
  refine (uaStore_c (s := hU0) (by decide) (by decide) 0 1 321 (by decide) hb).mono ?_
  rintro e w' ⟨b1, b2, b3, b4, rfl, H, g⟩
  rw [show uaStS hU0 0 1 321 = hU4 by kernel_rfl] at H ⊢
  rw [show uaBadU 0 1 = false by kernel_rfl]
  exact ⟨b1, b2, b3, b4, rfl, H, g⟩
theorem uaHd_6 {v : Value} {w : World} (hb : Ua w v hU0) : Calls Tryz.prog 56 #[v, .int .u64 8, .int .i64 1, .int .u64 0] w fun e w' => ∃ b1 b2 b3 b4, e = .returned (.tuple #[.agg #[.slice b1 0 b2, .slice b3 0 b4, .int .i64 0, .int .i64 0], .bool false]) ∧ Hid (Uar w' w.heap.size (.agg #[.slice b1 0 b2, .slice b3 0 b4, .int .i64 0, .int .i64 0]) hU0) ∧ Grew w w' := by
  refine (uaStore_c (s := hU0) (by decide) (by decide) 8 1 0 (by decide) hb).mono ?_
  rintro e w' ⟨b1, b2, b3, b4, rfl, H, g⟩
  rw [show uaStS hU0 8 1 0 = hU0 by kernel_rfl] at H ⊢
  rw [show uaBadU 8 1 = true by kernel_rfl]
  exact ⟨b1, b2, b3, b4, rfl, H, g⟩
theorem uaHd_7 {b1 : Option Addr} {b2 : Nat} {b3 : Option Addr} {b4 : Nat} (w : World) : Calls Tryz.prog 40 #[.agg #[.slice b1 1 b2, .slice b3 0 b4, .int .i64 1, .int .i64 0]] w fun e w' => e = .returned (.bool true) ∧ Grew w w' := by
  have := uaLine_c ⟨[1], [], 1, 0⟩ b1 b2 b3 b4 w
  rwa [show lineV ⟨[1], [], 1, 0⟩ = true by kernel_rfl] at this
theorem uaHd_8 {b1 : Option Addr} {b2 : Nat} {b3 : Option Addr} {b4 : Nat} (w : World) : Calls Tryz.prog 40 #[.agg #[.slice b1 2 b2, .slice b3 0 b4, .int .i64 0, .int .i64 0]] w fun e w' => e = .returned (.bool false) ∧ Grew w w' := by
  have := uaLine_c hU1 b1 b2 b3 b4 w
  rwa [show lineV hU1 = false by kernel_rfl] at this
theorem marked_buf (w : World) (xs : List Int) (cs : Array Value) (h : cs.toList = xs.map (Value.int .u8)) (hl : xs.length ≤ maxLen) (ha : AreBytes xs) (n : Nat) (hn : n = xs.length) (m : Nat × Nat) : Buf (w.alloc (.cells cs 5 m)) (.slice (some ⟨w.heap.size, 0, none⟩) n n) xs := by
  subst hn
  refine ⟨⟨_, _, rfl, Nat.le_refl _, fun _ => ⟨_, _, rfl, fun i hi => ?_⟩⟩, ha, hl⟩
  have hb : (w.alloc (.cells cs 5 m)).heap[w.heap.size]? = some (.cells cs 5 m) := last_block _ _ _ rfl
  have e : cs[i]? = (xs.map (Value.int .u8))[i]? := by rw [← h, Array.getElem?_toList]
  simp only [World.cell?, hb, Nat.zero_add]
  simp [e, hi]

end Go.Proofs.YtgcfmijkggpemaaGreat
set_option maxRecDepth 4000
set_option linter.unusedVariables false
set_option linter.unusedSimpArgs false
namespace Go.Proofs.YtgcfmijkggpemaaGreat
open Go.RowKit

/-- f answers r of a line's value that reads as s, its rows made since. -/
def uaAnsR (f : FuncId) (args : Array Value) (r : Value → Value) (s : US) (w : World) : Prop :=
  Calls Tryz.prog f args w fun e w' => ∃ a1 a2 a3 a4, e = .returned (r (uaV s a1 a2 a3 a4)) ∧ Hid (Uar w' w.heap.size (uaV s a1 a2 a3 a4) s) ∧ Grew w w'
theorem uaLoad_a {s s' : US} (l1 : s.i.length ≤ 35184372088832) (l2 : s.o.length ≤ 35184372088832) {off size y : Int} {b : Bool} (hy : uaLdY s off size = y) (hs : uaLdS s off size = s') (hb : (!uaBadU off size) = b) (w : World) (v : Value) (hp : Ua w v s) :
    uaAnsR 54 #[v, .int .u64 off, .int .i64 size] (fun v' => .tuple #[.int .u64 y, v', .bool b]) s' w := by
  subst hy hs hb
  exact uaLoad_c (by omega) (by omega) off size hp
theorem uaStore_a {s s' : US} (l1 : s.i.length ≤ 35184372088832) (l2 : s.o.length ≤ 35184372088832) {off size x : Int} {b : Bool} (hx : 0 ≤ x) (hs : uaStS s off size x = s') (hb : (!uaBadU off size) = b) (w : World) (v : Value) (hp : Ua w v s) :
    uaAnsR 56 #[v, .int .u64 off, .int .i64 size, .int .u64 x] (fun v' => .tuple #[v', .bool b]) s' w := by
  subst hs hb
  exact uaStore_c (by omega) (by omega) off size x hx hp
theorem ua_zero (w : World) : Ua w (.agg #[.slice none 0 0, .slice none 0 0, .int .i64 0, .int .i64 0]) hU0 := ⟨⟨_, _, rfl, Buf.nil _, Buf.nil _⟩, ⟨by decide, by decide⟩, ⟨by decide, by decide⟩⟩
end Go.Proofs.YtgcfmijkggpemaaGreat
