/-
  Package nic: a controller's value and its registers, there and back; the next descriptor, and what is done with one.
-/
import Derived.Test.YtoehdhhodidehaaRows
import Derived.Test.YtoehdhhodidehaaNcB
import Derived.Test.YtoehdhhodidehaaRamC
import Derived.WalkKit
import Derived.Outline
import Derived.Handy
import Derived.StillTailTactics
import Derived.Deep.QuietTactic
import Derived.BigQuiet
import Derived.Deep.DeepCutAuto
import Derived.Deep.RegionHeld3
import Derived.Great.BuildSlice
import Derived.Deep.WholeRow
import Derived.Lib.SliceRun
set_option maxRecDepth 4000
set_option linter.unusedVariables false
set_option linter.unusedSimpArgs false
namespace Go.Proofs.Ytoehdhhodidehaa
open Go.RowKit

abbrev zeroN : Array Value := #[.int .i64 0, .int .i64 0, .int .i64 0, .int .u64 0, .int .i64 0, .int .i64 0, .int .i64 0, .int .u64 0, .int .i64 0, .int .i64 0, .int .i64 0, .int .i64 0, .int .i64 0, .slice none 0 0]
theorem ncA_one (c : Nat → Int) (a : Option Addr) (n k : Nat) : ((ncA c (.slice a n k)).all fun x => x.oneCell') = true := by simp [ncA, Value.oneCell']
theorem ld_nc {ops : Array Oper} {rest : List Oper} {o : Oper} {a : Act} {w : World} {Q : Exit → Act → World → Prop} (hgd : o.guard = none) (x : Operand) (ho : o.op = .load 25 x) (d : Option Tmp) (hd : o.dst = d) {g : Nat} {c : Nat → Int} {u : Value} {T : TypeId}
    (k : Blk w g (ncA c u) T) (hx : a.eval x = .pointer (some ⟨g, 0, none⟩)) (h : wpList Try.prog ops Q rest (a.put d (ncV c u)) w) : wpList Try.prog ops Q (o :: rest) a w := by
  subst hd
  exact wpList_load_row hgd _ x ho g hx T (ncA c u) (0, 0) _ k Try.underlying25 rfl ncInfo h
theorem var_nc {w : World} {g : Nat} {c : Nat → Int} {u : Value} {T : TypeId} (k : Blk w g (ncA c u) T) : (loadVar 25 ⟨g, 0, none⟩).run Try.prog w = .ok (ncV c u) w :=
  run_loadVar_row w g T _ (ncA c u) (0, 0) _ k Try.underlying25 rfl ncInfo
theorem Blk.setRow {w : World} {b : Nat} {old cs : Array Value} {T : TypeId} (h : Blk w b old T) : Blk (w.setRow b cs) b cs T := setRow_heap w b old cs T (0, 0) h
theorem st_nc {ops : Array Oper} {rest : List Oper} {o : Oper} {a : Act} {w : World} {Q : Exit → Act → World → Prop} (hgd : o.guard = none) (x y : Operand) (ho : o.op = .store 25 x y) (hd : o.dst = none) {g : Nat} (c : Nat → Int) {u : Value} {old : Array Value} {T : TypeId}
    (k : Blk w g old T) (hold : old.size = 14) (hx : a.eval x = .pointer (some ⟨g, 0, none⟩)) (hy : a.eval y = ncV c u) (hu : ∃ b n m, u = .slice b n m)
    (h : ∀ w', Blk w' g (ncA c u) T → Only w w' g → wpList Try.prog ops Q rest a w') : wpList Try.prog ops Q (o :: rest) a w := by
  obtain ⟨b, n, m, rfl⟩ := hu
  exact wpList_store_rowTo hgd _ x y ho hd g (ncA c _) hx hy T old k ncInfo hold (ncA_one c b n m) (h _ (Blk.setRow k) (Only.setRow _ _ _))
theorem step_st_nc {ops : Array Oper} {TT : Array Value} {o : Oper} {a : Act} {w : World} {K : Act → World → Prop} {Q : Exit → Act → World → Prop} {E : Prop} (hgd : o.guard = none) (x y : Operand) (ho : o.op = .store 25 x y) (hd : o.dst = none) {g : Nat} (c : Nat → Int) {u : Value} {old : Array Value} {T : TypeId}
    (k : Blk w g old T) (hold : old.size = 14) (hx : a.eval x = .pointer (some ⟨g, 0, none⟩)) (hy : a.eval y = ncV c u) (hu : ∃ b n m, u = .slice b n m)
    (h : ∀ w', Blk w' g (ncA c u) T → Only w w' g → K a w') : if Region.wanted o (yielded ops TT) = true then Oper.wp Try.prog o a w K Q else E := by
  have hw : Region.wanted o (yielded ops TT) = true := by simp [Region.wanted, hgd]
  rw [if_pos hw]
  obtain ⟨b, n, m, rfl⟩ := hu
  refine wp_store_row _ x y ho g (ncA c _) hx hy T old k ncInfo hold (ncA_one c b n m) ?_
  rw [hd]
  exact h _ (Blk.setRow k) (Only.setRow _ _ _)
theorem Row.only {w w' : World} {B g : Nat} {v : Value} {xs : List Int} {cs : Array Value} {T : TypeId} (h : Row w B v xs) (o : Only w w' g) (hX : Blk w g cs T) (hT : T ≠ 5) : Row w' B v xs := by
  refine ⟨h.1, ?_⟩
  rcases h.2 with h | ⟨b', cap, cur, e, hg, hh, r⟩
  · exact .inl h
  · refine .inr ⟨b', cap, cur, e, hg, ?_, r⟩
    have hne : b' ≠ g := by
      rintro rfl
      unfold Blk at hX
      rw [hX] at hh
      simp only [Option.some.injEq, Obj.cells.injEq] at hh
      exact hT hh.2.1
    rw [o.block b' hne]
    exact hh
/-- No cell of these is a byte. -/
def NoByte (cs : Array Value) : Prop := ∀ (k : Nat) (x : Int), cs[k]? ≠ some (.int .u8 x)
theorem Buf.only {w w' : World} {g : Nat} {v : Value} {xs : List Int} {cs : Array Value} {T : TypeId} (h : Buf w v xs) (o : Only w w' g) (hX : Blk w g cs T) (hc : NoByte cs) : Buf w' v xs := by
  obtain ⟨a', c', rfl, hc', ha⟩ := h.shape
  refine ⟨⟨a', c', rfl, hc', fun hx => ?_⟩, h.ok, h.len⟩
  obtain ⟨b, off, rfl, hb⟩ := ha hx
  refine ⟨b, off, rfl, fun i hi => ?_⟩
  have h1 := hb i hi
  by_cases he : b = g
  · subst he
    rw [hX.cell] at h1
    exact absurd h1 (hc _ _)
  · rw [← h1]
    exact World.cell?_of_block (o.block b he)
theorem Only.set (w : World) (g o : Nat) (v : Value) : Only w (w.setCell ⟨g, o, none⟩ v) g := ⟨rfl, rfl, rfl, by simp, fun k hk => Below.heap_setCell w ⟨g, o, none⟩ v k hk⟩
theorem Only.trn {w w' : World} {g : Nat} (h : Only w w' g) : Trn g w w' := ⟨h.os, h.tape, h.output, by rw [h.size]; exact Nat.le_refl _, fun k _ hne => h.block k hne⟩
theorem Only.trans {w w' w'' : World} {g : Nat} (h : Only w w' g) (k : Only w' w'' g) : Only w w'' g := ⟨k.os.trans h.os, k.tape.trans h.tape, k.output.trans h.output, k.size.trans h.size, fun b hb => (k.block b hb).trans (h.block b hb)⟩
/-- Of what stood nothing but block p turns, also where a block of the call's own is written. -/
theorem Trn.only {p g : Nat} {W w w' : World} (t : Trn p W w) (o : Only w w' g) (hg : W.heap.size ≤ g) : Trn p W w' :=
  ⟨o.os.trans t.os, o.tape.trans t.tape, o.output.trans t.output, by rw [o.size]; exact t.size, fun k hk hne => (o.block k (by omega)).trans (t.block k hk hne)⟩
theorem nb_one (v : Value) (h : ∀ x, v ≠ .int .u8 x) : NoByte #[v]
  | 0, x => by simpa using h x
  | k + 1, _ => by simp
theorem nb_rg (c : Nat → Int) : NoByte (rgA c) := fun k x => by
  by_cases hk : k < 15
  · rw [rgA_at c hk]; simp
  · rw [Array.getElem?_eq_none (by rw [rgA_size]; omega)]; simp
theorem nb_nc (c : Nat → Int) (a : Option Addr) (n m : Nat) : NoByte (ncA c (.slice a n m)) := fun k x => by
  match k with
  | 0 => exact fun h => by cases h
  | 1 => exact fun h => by cases h
  | 2 => exact fun h => by cases h
  | 3 => exact fun h => by cases h
  | 4 => exact fun h => by cases h
  | 5 => exact fun h => by cases h
  | 6 => exact fun h => by cases h
  | 7 => exact fun h => by cases h
  | 8 => exact fun h => by cases h
  | 9 => exact fun h => by cases h
  | 10 => exact fun h => by cases h
  | 11 => exact fun h => by cases h
  | 12 => exact fun h => by cases h
  | 13 => exact fun h => by cases h
  | k + 14 => rw [Array.getElem?_eq_none (by rw [ncA_size]; omega)]; simp

/-! ### The address -/
def macL (c : Nat → Int) : List Int := putL (c 13) 4 false ++ putL (c 14) 2 false
theorem macL_length (c : Nat → Int) : (macL c).length = 6 := by simp [macL, putL_length]
theorem macL_ok (c : Nat → Int) : AreBytes (macL c) := fun x hx => by
  rcases List.mem_append.1 hx with h | h
  · exact putL_bytes _ _ _ x h
  · exact putL_bytes _ _ _ x h
/-- Numbers 13 and 14 are the address. -/
def MacIs (c : Nat → Int) (m : List Int) : Prop := m.length = 6 ∧ c 13 = getV (cutL m 0 4) false ∧ c 14 = getV (cutL m 4 6) false
theorem MacIs.mac {c : Nat → Int} {m : List Int} (h : MacIs c m) (hm : AreBytes m) : macL c = m := by
  obtain ⟨hl, h1, h2⟩ := h
  unfold macL
  have e1 := putL_getV (hm.cut 0 4) (by rw [cutL_length (by decide) (by omega)]; decide)
  have e2 := putL_getV (hm.cut 4 6) (by rw [cutL_length (by decide) (by omega)]; decide)
  rw [cutL_length (by decide) (by omega)] at e1 e2
  rw [h1, h2, e1, e2]
  unfold cutL
  rw [List.drop_zero, List.take_of_length_le (l := m.drop 4) (by rw [List.length_drop]; omega)]
  exact List.take_append_drop 4 m
theorem mac_c {c : Nat → Int} {p : Nat} {w : World} (hB : Blk w p (rgA c) 80) (h0 : 0 ≤ c 13) (h1 : c 13 < 4294967296) (h2 : 0 ≤ c 14) (h3 : c 14 < 4294967296) : Calls Try.prog 64 #[.pointer (some ⟨p, 0, none⟩)] w fun e w' => ∃ a k, e = .returned (.slice a 6 k) ∧ Hid (Row w' w.heap.size (.slice a 6 k) (macL c)) ∧ Grew w w' := by
  have hP1 := Lib.hid (put_in (c 13) 4 4 false h0 (by omega) (by decide) (by decide))
  have hP2 := Lib.hid (put_in (c 14) 2 2 false h2 (by omega) (by decide) (by decide))
  have hw1 : IntKind.u64.wrap (c 13) = c 13 := IntWalk.u64_in _ (by omega)
  have hw2 : IntKind.u64.wrap (c 14) = c 14 := IntWalk.u64_in _ (by omega)
  have hlen := Lib.hid (macL_length c)
  have hL : Hid (macL c = putL (c 13) 4 false ++ putL (c 14) 2 false) := Lib.hid rfl
  clear h0 h1 h2 h3
  go_enter Try.func64, Try.ntmps64
  have c0 := hB.rgC 13 (by decide)
  go_upto_region 1 with fail
  go_wp2_with fail
  refine (hP1.out _).mono ?_
  rintro e w1 ⟨rfl, o1, g1⟩
  have HR1 := Lib.hid (row_of_put o1)
  have hB1 := hB.grew g1
  clear o1 c0
  have c0 := hB1.rgC 14 (by decide)
  go_wp2_with fail
  refine (hP2.out _).mono ?_
  rintro e w2 ⟨rfl, o2, g2⟩
  have HR2 := Lib.hid ((row_of_put o2).buf (putL_bytes _ _ _))
  have HR1' := Lib.hid (HR1.out.grew g2)
  have g12 : Grew w w2 := Grew.trans g1 g2
  clear o2 c0 hB1 g2 g1
  go_wp2_with (refine wpList_append_b (W := w) rfl (.tmp 17) (.tmp 18) rfl g12 HR1'.out HR2.out (by rfl) (by rfl) (by rw [putL_length, putL_length]; decide) ?_; intro v3 w3 HR3 g3 q3; clear q3)
  rw [← hL.out] at HR3
  obtain ⟨a, k, ev, _, _⟩ := (HR3.out.buf (macL_ok c)).shape
  rw [hlen.out] at ev
  subst ev
  go_ret
  exact ⟨a, k, rfl, HR3, g3⟩
def rgOk (c : Nat → Int) : Prop := ∀ i, i < 15 → 0 ≤ c i ∧ c i < 4294967296
end Go.Proofs.Ytoehdhhodidehaa
