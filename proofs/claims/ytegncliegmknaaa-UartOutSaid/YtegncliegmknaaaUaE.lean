/-
  Package uart: Store, Type, Line, of every line.
-/
import Derived.Test.YtegncliegmknaaaUaD
set_option linter.unusedVariables false
set_option linter.unusedSimpArgs false
namespace Go.Proofs.Ytegncliegmknaaa
open Go.RowKit

/-- What a store leaves. -/
def stS (s : US) (off size x : Int) : US :=
  if badU off size then s else if off = 0 then { s with o := s.o ++ [x % 256].take (fitN s.o.length 1 4096) } else if off = 1 then { s with ie := x % 4 } else s
/-- What is left when bytes were typed. -/
def tyS (s : US) (ys : List Int) : US :=
  ⟨s.i ++ ys.take (fitN s.i.length ys.length 16), s.o, s.ie, if s.lost < 2147483648 then min (s.lost + ((ys.length : Int) - fitN s.i.length ys.length 16)) 2147483648 else s.lost⟩
/-- A store into a box that holds no bytes: no bytes turn. -/
theorem Buf.box {w : World} {v : Value} {xs : List Int} (h : Buf w v xs) {X o : Nat} {cs : Array Value} {T : TypeId} (hX : Blk w X cs T) (hc : ∀ (k : Nat) (x : Int), cs[k]? ≠ some (.int .u8 x)) (u : Value) : Buf (w.setCell ⟨X, o, none⟩ u) v xs := by
  obtain ⟨a', c', rfl, hc', ha⟩ := h.shape
  refine ⟨⟨a', c', rfl, hc', fun hx => ?_⟩, h.ok, h.len⟩
  obtain ⟨b, off, rfl, hb⟩ := ha hx
  refine ⟨b, off, rfl, fun i hi => ?_⟩
  have h1 := hb i hi
  by_cases he : b = X
  · subst he
    rw [hX.cell] at h1
    exact absurd h1 (hc _ _)
  · rw [← h1]
    exact World.cell?_of_block (Below.heap_setCell w ⟨X, o, none⟩ u b he)
theorem four_no (a1 : Option Addr) (n1 a2 : Nat) (a3 : Option Addr) (n3 a4 : Nat) (x3 x4 : Int) : ∀ (k : Nat) (x : Int), (#[Value.slice a1 n1 a2, .slice a3 n3 a4, .int .i64 x3, .int .i64 x4] : Array Value)[k]? ≠ some (.int .u8 x)
  | 0, _ => by simp
  | 1, _ => by simp
  | 2, _ => by simp
  | 3, _ => by simp
  | k + 4, _ => by simp
def lineV (s : US) : Bool := decide (0 < s.i.length) && (bits .and .i64 s.ie 1 != 0)

set_option maxHeartbeats 1000000 in
theorem store_bad {s : US} (l1 : s.i.length ≤ 140737488355328) (l2 : s.o.length ≤ 140737488355328) {a1 : Option Addr} {a2 : Nat} {a3 : Option Addr} {a4 : Nat} {w : World} (hP : Ua w (uaV s a1 a2 a3 a4) s) (off size x : Int) (hb : (decide (off < 8) && (size == 1)) = false) :
    Calls Try.prog 10 #[uaV s a1 a2 a3 a4, .int .u64 off, .int .i64 size, .int .u64 x] w fun e w' => ∃ b1 d1 b2 d2, e = .returned (.tuple #[uaV s b1 d1 b2 d2, .bool false]) ∧ Hid (Uar w' w.heap.size (uaV s b1 d1 b2 d2) s) ∧ Grew w w' := by
  replace hb := Lib.hid (isRegister_b hb)
  have HP := Lib.hid hP
  clear hP
  go_enter Try.func10, Try.ntmps10
  go_upto_region 1 with fail
  have hA : Blk ((w.alloc (.cells #[.slice a1 s.i.length a2, .slice a3 s.o.length a4, .int .i64 s.ie, .int .i64 s.lost] 26)).alloc (.cells #[.slice none 0 0, .slice none 0 0, .int .i64 0, .int .i64 0] 26)) w.heap.size #[.slice a1 s.i.length a2, .slice a3 s.o.length a4, .int .i64 s.ie, .int .i64 s.lost] 26 := (Blk.new _ _ _ _ rfl).alloc _
  have hR : Blk ((w.alloc (.cells #[.slice a1 s.i.length a2, .slice a3 s.o.length a4, .int .i64 s.ie, .int .i64 s.lost] 26)).alloc (.cells #[.slice none 0 0, .slice none 0 0, .int .i64 0, .int .i64 0] 26)) (w.heap.size + 1) #[.slice none 0 0, .slice none 0 0, .int .i64 0, .int .i64 0] 26 := Blk.new _ _ _ _ (by simp)
  have g0 : Grew w ((w.alloc (.cells #[.slice a1 s.i.length a2, .slice a3 s.o.length a4, .int .i64 s.ie, .int .i64 s.lost] 26)).alloc (.cells #[.slice none 0 0, .slice none 0 0, .int .i64 0, .int .i64 0] 26)) := ((Grew.refl w).alloc _).alloc _
  have hnA : w.heap.size ≤ w.heap.size := Nat.le_refl _
  have hnR : w.heap.size ≤ w.heap.size + 1 := Nat.le_succ _
  have hAR : w.heap.size + 1 ≠ w.heap.size := by omega
  generalize ((w.alloc (.cells #[.slice a1 s.i.length a2, .slice a3 s.o.length a4, .int .i64 s.ie, .int .i64 s.lost] 26)).alloc (.cells #[.slice none 0 0, .slice none 0 0, .int .i64 0, .int .i64 0] 26)) = w0 at *
  generalize w.heap.size + 1 = R at *
  generalize hAe : w.heap.size = A at *
  have HP0 := Lib.hid (HP.out.grew g0)
  go_wp2_with fail
  refine (hb.out _).mono ?_
  rintro e w9 ⟨rfl, rfl⟩
  go_upto_region 2 with fail
  have y0 := hA.cell 0
  have y1 := hA.cell 1
  have y2 := hA.cell 2
  have y3 := hA.cell 3
  go_wp2_with fail
  refine (own_c (s := s) l1 l2 HP0.out).mono ?_
  rintro e w8 ⟨b1, d1, b2, d2, rfl, H8, g8⟩
  have hR8 := hR.grew g8
  have lR := hR.lt
  clear y0 y1 y2 y3
  have r0 := hR8.cell 0
  have r1 := hR8.cell 1
  have r2 := hR8.cell 2
  have r3 := hR8.cell 3
  have f0 := hR8.free 0
  have f1 := hR8.free 1
  have f2 := hR8.free 2
  have f3 := hR8.free 3
  go_wp2_with fail
  have hE := ((((hR8.set (o := 0) (.slice b1 s.i.length d1)).set (o := 1) (.slice b2 s.o.length d2)).set (o := 2) (.int .i64 s.ie)).set (o := 3) (.int .i64 s.lost))
  have z0 := hE.cell 0
  have z1 := hE.cell 1
  have z2 := hE.cell 2
  have z3 := hE.cell 3
  have E := ((((H8.out.set (c := R) lR (o := 0) (.slice b1 s.i.length d1)).set (c := R) lR (o := 1) (.slice b2 s.o.length d2)).set (c := R) lR (o := 2) (.int .i64 s.ie)).set (c := R) lR (o := 3) (.int .i64 s.lost))
  have gE := (((((g0.trans g8).setCell (b := R) (o := 0) (by omega) (.slice b1 s.i.length d1)).setCell (b := R) (o := 1) (by omega) (.slice b2 s.o.length d2)).setCell (b := R) (o := 2) (by omega) (.int .i64 s.ie)).setCell (b := R) (o := 3) (by omega) (.int .i64 s.lost))
  have hsz := g0.size
  exact bodyPost_ret (v := .tuple #[uaV s b1 d1 b2 d2, .bool false]) (by simp [results, Try.results10, go_sem, z0, z1, z2, z3]) rfl ⟨b1, d1, b2, d2, rfl, Lib.hid (E.low (by omega)), gE⟩

set_option maxHeartbeats 1000000 in
theorem store_else {s : US} (l1 : s.i.length ≤ 140737488355328) (l2 : s.o.length ≤ 140737488355328) {a1 : Option Addr} {a2 : Nat} {a3 : Option Addr} {a4 : Nat} {w : World} (hP : Ua w (uaV s a1 a2 a3 a4) s) (off x : Int) (hb : (decide (off < 8) && ((1 : Int) == 1)) = true) (h0 : (off == 0) = false) (h1 : (off == 1) = false) :
    Calls Try.prog 10 #[uaV s a1 a2 a3 a4, .int .u64 off, .int .i64 1, .int .u64 x] w fun e w' => ∃ b1 d1 b2 d2, e = .returned (.tuple #[uaV s b1 d1 b2 d2, .bool true]) ∧ Hid (Uar w' w.heap.size (uaV s b1 d1 b2 d2) s) ∧ Grew w w' := by
  replace hb := Lib.hid (isRegister_b hb)
  have HP := Lib.hid hP
  clear hP
  go_enter Try.func10, Try.ntmps10
  go_upto_region 1 with fail
  have hA : Blk ((w.alloc (.cells #[.slice a1 s.i.length a2, .slice a3 s.o.length a4, .int .i64 s.ie, .int .i64 s.lost] 26)).alloc (.cells #[.slice none 0 0, .slice none 0 0, .int .i64 0, .int .i64 0] 26)) w.heap.size #[.slice a1 s.i.length a2, .slice a3 s.o.length a4, .int .i64 s.ie, .int .i64 s.lost] 26 := (Blk.new _ _ _ _ rfl).alloc _
  have hR : Blk ((w.alloc (.cells #[.slice a1 s.i.length a2, .slice a3 s.o.length a4, .int .i64 s.ie, .int .i64 s.lost] 26)).alloc (.cells #[.slice none 0 0, .slice none 0 0, .int .i64 0, .int .i64 0] 26)) (w.heap.size + 1) #[.slice none 0 0, .slice none 0 0, .int .i64 0, .int .i64 0] 26 := Blk.new _ _ _ _ (by simp)
  have g0 : Grew w ((w.alloc (.cells #[.slice a1 s.i.length a2, .slice a3 s.o.length a4, .int .i64 s.ie, .int .i64 s.lost] 26)).alloc (.cells #[.slice none 0 0, .slice none 0 0, .int .i64 0, .int .i64 0] 26)) := ((Grew.refl w).alloc _).alloc _
  have hnA : w.heap.size ≤ w.heap.size := Nat.le_refl _
  have hnR : w.heap.size ≤ w.heap.size + 1 := Nat.le_succ _
  have hAR : w.heap.size + 1 ≠ w.heap.size := by omega
  generalize ((w.alloc (.cells #[.slice a1 s.i.length a2, .slice a3 s.o.length a4, .int .i64 s.ie, .int .i64 s.lost] 26)).alloc (.cells #[.slice none 0 0, .slice none 0 0, .int .i64 0, .int .i64 0] 26)) = w0 at *
  generalize w.heap.size + 1 = R at *
  generalize hAe : w.heap.size = A at *
  have HP0 := Lib.hid (HP.out.grew g0)
  go_wp2_with fail
  refine (hb.out _).mono ?_
  rintro e w9 ⟨rfl, rfl⟩
  go_upto_region 8 with fail
  have y0 := hA.cell 0
  have y1 := hA.cell 1
  have y2 := hA.cell 2
  have y3 := hA.cell 3
  go_wp2_with fail
  refine (own_c (s := s) l1 l2 HP0.out).mono ?_
  rintro e w8 ⟨b1, d1, b2, d2, rfl, H8, g8⟩
  have hR8 := hR.grew g8
  have lR := hR.lt
  clear y0 y1 y2 y3
  have r0 := hR8.cell 0
  have r1 := hR8.cell 1
  have r2 := hR8.cell 2
  have r3 := hR8.cell 3
  have f0 := hR8.free 0
  have f1 := hR8.free 1
  have f2 := hR8.free 2
  have f3 := hR8.free 3
  go_wp2_with fail
  have hE := ((((hR8.set (o := 0) (.slice b1 s.i.length d1)).set (o := 1) (.slice b2 s.o.length d2)).set (o := 2) (.int .i64 s.ie)).set (o := 3) (.int .i64 s.lost))
  have z0 := hE.cell 0
  have z1 := hE.cell 1
  have z2 := hE.cell 2
  have z3 := hE.cell 3
  have E := ((((H8.out.set (c := R) lR (o := 0) (.slice b1 s.i.length d1)).set (c := R) lR (o := 1) (.slice b2 s.o.length d2)).set (c := R) lR (o := 2) (.int .i64 s.ie)).set (c := R) lR (o := 3) (.int .i64 s.lost))
  have gE := (((((g0.trans g8).setCell (b := R) (o := 0) (by omega) (.slice b1 s.i.length d1)).setCell (b := R) (o := 1) (by omega) (.slice b2 s.o.length d2)).setCell (b := R) (o := 2) (by omega) (.int .i64 s.ie)).setCell (b := R) (o := 3) (by omega) (.int .i64 s.lost))
  have hsz := g0.size
  exact bodyPost_ret (v := .tuple #[uaV s b1 d1 b2 d2, .bool true]) (by simp [results, Try.results10, go_sem, z0, z1, z2, z3]) rfl ⟨b1, d1, b2, d2, rfl, Lib.hid (E.low (by omega)), gE⟩

set_option maxHeartbeats 1000000 in
theorem store_ie {s : US} (l1 : s.i.length ≤ 140737488355328) (l2 : s.o.length ≤ 140737488355328) {a1 : Option Addr} {a2 : Nat} {a3 : Option Addr} {a4 : Nat} {w : World} (hP : Ua w (uaV s a1 a2 a3 a4) s) (x y : Int) (hx : wrap64 (x.tmod 4) = y) (hi : intI y) (hb : (decide ((1 : Int) < 8) && ((1 : Int) == 1)) = true) :
    Calls Try.prog 10 #[uaV s a1 a2 a3 a4, .int .u64 1, .int .i64 1, .int .u64 x] w fun e w' => ∃ b1 d1 b2 d2, e = .returned (.tuple #[uaV ⟨s.i, s.o, y, s.lost⟩ b1 d1 b2 d2, .bool true]) ∧ Hid (Uar w' w.heap.size (uaV ⟨s.i, s.o, y, s.lost⟩ b1 d1 b2 d2) ⟨s.i, s.o, y, s.lost⟩) ∧ Grew w w' := by
  have HI := Lib.hid hi
  clear hi
  replace hb := Lib.hid (isRegister_b hb)
  have HP := Lib.hid hP
  clear hP
  go_enter Try.func10, Try.ntmps10
  go_upto_region 1 with fail
  have hA : Blk ((w.alloc (.cells #[.slice a1 s.i.length a2, .slice a3 s.o.length a4, .int .i64 s.ie, .int .i64 s.lost] 26)).alloc (.cells #[.slice none 0 0, .slice none 0 0, .int .i64 0, .int .i64 0] 26)) w.heap.size #[.slice a1 s.i.length a2, .slice a3 s.o.length a4, .int .i64 s.ie, .int .i64 s.lost] 26 := (Blk.new _ _ _ _ rfl).alloc _
  have hR : Blk ((w.alloc (.cells #[.slice a1 s.i.length a2, .slice a3 s.o.length a4, .int .i64 s.ie, .int .i64 s.lost] 26)).alloc (.cells #[.slice none 0 0, .slice none 0 0, .int .i64 0, .int .i64 0] 26)) (w.heap.size + 1) #[.slice none 0 0, .slice none 0 0, .int .i64 0, .int .i64 0] 26 := Blk.new _ _ _ _ (by simp)
  have g0 : Grew w ((w.alloc (.cells #[.slice a1 s.i.length a2, .slice a3 s.o.length a4, .int .i64 s.ie, .int .i64 s.lost] 26)).alloc (.cells #[.slice none 0 0, .slice none 0 0, .int .i64 0, .int .i64 0] 26)) := ((Grew.refl w).alloc _).alloc _
  have hnA : w.heap.size ≤ w.heap.size := Nat.le_refl _
  have hnR : w.heap.size ≤ w.heap.size + 1 := Nat.le_succ _
  have hAR : w.heap.size + 1 ≠ w.heap.size := by omega
  generalize ((w.alloc (.cells #[.slice a1 s.i.length a2, .slice a3 s.o.length a4, .int .i64 s.ie, .int .i64 s.lost] 26)).alloc (.cells #[.slice none 0 0, .slice none 0 0, .int .i64 0, .int .i64 0] 26)) = w0 at *
  generalize w.heap.size + 1 = R at *
  generalize hAe : w.heap.size = A at *
  have HP0 := Lib.hid (HP.out.grew g0)
  go_wp2_with fail
  refine (hb.out _).mono ?_
  rintro e w9 ⟨rfl, rfl⟩
  have f0 := hA.free 2
  have y2 := hA.cell 2
  go_upto_region 8 with fail
  clear f0 y2
  have hA6 := hA.set (o := 2) (.int .i64 y)
  have hR6 := hR.other (c := A) (o := 2) hAR (.int .i64 y)
  have G6 := g0.setCell (b := A) (o := 2) (by omega) (.int .i64 y)
  have HP6 : Hid (Ua (w0.setCell ⟨A, 2, none⟩ (.int .i64 y)) (uaV ⟨s.i, s.o, y, s.lost⟩ a1 a2 a3 a4) ⟨s.i, s.o, y, s.lost⟩) := Lib.hid ⟨⟨_, _, rfl, HP.out.i.grew G6, HP.out.o.grew G6⟩, HI.out, HP.out.lost⟩
  generalize w0.setCell ⟨A, 2, none⟩ (.int .i64 y) = w6 at *
  replace hA6 : Blk w6 A #[.slice a1 s.i.length a2, .slice a3 s.o.length a4, .int .i64 y, .int .i64 s.lost] 26 := hA6
  have y0 := hA6.cell 0
  have y1 := hA6.cell 1
  have y2 := hA6.cell 2
  have y3 := hA6.cell 3
  go_wp2_with fail
  refine (own_c (s := ⟨s.i, s.o, y, s.lost⟩) l1 l2 HP6.out).mono ?_
  rintro e w8 ⟨b1, d1, b2, d2, rfl, H8, g8⟩
  have hR8 := hR6.grew g8
  have lR := hR6.lt
  clear y0 y1 y2 y3
  have r0 := hR8.cell 0
  have r1 := hR8.cell 1
  have r2 := hR8.cell 2
  have r3 := hR8.cell 3
  have f0 := hR8.free 0
  have f1 := hR8.free 1
  have f2 := hR8.free 2
  have f3 := hR8.free 3
  go_wp2_with fail
  have hE := ((((hR8.set (o := 0) (.slice b1 s.i.length d1)).set (o := 1) (.slice b2 s.o.length d2)).set (o := 2) (.int .i64 y)).set (o := 3) (.int .i64 s.lost))
  have z0 := hE.cell 0
  have z1 := hE.cell 1
  have z2 := hE.cell 2
  have z3 := hE.cell 3
  have E := ((((H8.out.set (c := R) lR (o := 0) (.slice b1 s.i.length d1)).set (c := R) lR (o := 1) (.slice b2 s.o.length d2)).set (c := R) lR (o := 2) (.int .i64 y)).set (c := R) lR (o := 3) (.int .i64 s.lost))
  have gE := (((((G6.trans g8).setCell (b := R) (o := 0) (by omega) (.slice b1 s.i.length d1)).setCell (b := R) (o := 1) (by omega) (.slice b2 s.o.length d2)).setCell (b := R) (o := 2) (by omega) (.int .i64 y)).setCell (b := R) (o := 3) (by omega) (.int .i64 s.lost))
  have hsz := G6.size
  exact bodyPost_ret (v := .tuple #[uaV ⟨s.i, s.o, y, s.lost⟩ b1 d1 b2 d2, .bool true]) (by simp [results, Try.results10, go_sem, z0, z1, z2, z3]) rfl ⟨b1, d1, b2, d2, rfl, Lib.hid (E.low (by omega)), gE⟩

set_option maxHeartbeats 1000000 in
theorem store_out {s : US} (l1 : s.i.length ≤ 140737488355328) (l2 : s.o.length ≤ 140737488355328) {a1 : Option Addr} {a2 : Nat} {a3 : Option Addr} {a4 : Nat} {w : World} (hP : Ua w (uaV s a1 a2 a3 a4) s) {j : List Int} (x y d : Int) (hx : x % 256 = y) (hy : 0 ≤ y ∧ y < 256) (l2' : j.length ≤ 140737488355328) (hb : (decide ((0 : Int) < 8) && ((1 : Int) == 1)) = true)
    (hB : ∀ w v u, Buf w v s.o → Buf w u [y] → Calls Try.prog 13 #[v, u, .int .i64 4096] w fun e w' => ∃ a c, e = .returned (.tuple #[.slice a j.length c, .int .i64 d]) ∧ Hid (Buf w' (.slice a j.length c) j) ∧ Grew w w') :
    Calls Try.prog 10 #[uaV s a1 a2 a3 a4, .int .u64 0, .int .i64 1, .int .u64 x] w fun e w' => ∃ b1 d1 b2 d2, e = .returned (.tuple #[uaV ⟨s.i, j, s.ie, s.lost⟩ b1 d1 b2 d2, .bool true]) ∧ Hid (Uar w' w.heap.size (uaV ⟨s.i, j, s.ie, s.lost⟩ b1 d1 b2 d2) ⟨s.i, j, s.ie, s.lost⟩) ∧ Grew w w' := by
  have HB := Lib.hid hB
  have HY : Hid (AreBytes [y]) := Lib.hid (fun z hz => by simp at hz; rw [hz]; exact hy)
  clear hB hy
  replace hb := Lib.hid (isRegister_b hb)
  have HP := Lib.hid hP
  clear hP
  go_enter Try.func10, Try.ntmps10
  go_upto_region 1 with fail
  have hA : Blk ((w.alloc (.cells #[.slice a1 s.i.length a2, .slice a3 s.o.length a4, .int .i64 s.ie, .int .i64 s.lost] 26)).alloc (.cells #[.slice none 0 0, .slice none 0 0, .int .i64 0, .int .i64 0] 26)) w.heap.size #[.slice a1 s.i.length a2, .slice a3 s.o.length a4, .int .i64 s.ie, .int .i64 s.lost] 26 := (Blk.new _ _ _ _ rfl).alloc _
  have hR : Blk ((w.alloc (.cells #[.slice a1 s.i.length a2, .slice a3 s.o.length a4, .int .i64 s.ie, .int .i64 s.lost] 26)).alloc (.cells #[.slice none 0 0, .slice none 0 0, .int .i64 0, .int .i64 0] 26)) (w.heap.size + 1) #[.slice none 0 0, .slice none 0 0, .int .i64 0, .int .i64 0] 26 := Blk.new _ _ _ _ (by simp)
  have g0 : Grew w ((w.alloc (.cells #[.slice a1 s.i.length a2, .slice a3 s.o.length a4, .int .i64 s.ie, .int .i64 s.lost] 26)).alloc (.cells #[.slice none 0 0, .slice none 0 0, .int .i64 0, .int .i64 0] 26)) := ((Grew.refl w).alloc _).alloc _
  have hnA : w.heap.size ≤ w.heap.size := Nat.le_refl _
  have hnR : w.heap.size ≤ w.heap.size + 1 := Nat.le_succ _
  have hAR : w.heap.size + 1 ≠ w.heap.size := by omega
  generalize ((w.alloc (.cells #[.slice a1 s.i.length a2, .slice a3 s.o.length a4, .int .i64 s.ie, .int .i64 s.lost] 26)).alloc (.cells #[.slice none 0 0, .slice none 0 0, .int .i64 0, .int .i64 0] 26)) = w0 at *
  generalize w.heap.size + 1 = R at *
  generalize hAe : w.heap.size = A at *
  have HP0 := Lib.hid (HP.out.grew g0)
  go_wp2_with fail
  refine (hb.out _).mono ?_
  rintro e w9 ⟨rfl, rfl⟩
  go_upto_region 5 with fail
  have y1 := hA.cell 1
  go_wp2_with fail
  refine (HB.out _ _ _ (HP0.out.o.grew ((Grew.refl w0).alloc _)) (Row.buf (Row.lit w0 w0.heap.size (Nat.le_refl _) #[.int .u8 y] [y] rfl (by simp [maxLen]) _ rfl 1 rfl) HY.out)).mono ?_
  rintro e w7 ⟨q1, q2, rfl, H7, g7'⟩
  have g7 := ((Grew.refl w0).alloc _).trans g7'
  have hA7 := hA.grew g7
  have hR7 := hR.grew g7
  clear y1 g7'
  have f1 := hA7.free 1
  have y1 := hA7.cell 1
  go_upto_region 8 with fail
  clear f1 y1
  have hA6 := hA7.set (o := 1) (.slice q1 j.length q2)
  have hR6 := hR7.other (c := A) (o := 1) hAR (.slice q1 j.length q2)
  have G6 := (g0.trans g7).setCell (b := A) (o := 1) (by omega) (.slice q1 j.length q2)
  have HJ6 : Buf (w7.setCell ⟨A, 1, none⟩ (.slice q1 j.length q2)) (.slice q1 j.length q2) j := H7.out.box hA7 (four_no _ _ _ _ _ _ _ _) _
  have HP6 : Hid (Ua (w7.setCell ⟨A, 1, none⟩ (.slice q1 j.length q2)) (uaV ⟨s.i, j, s.ie, s.lost⟩ a1 a2 q1 q2) ⟨s.i, j, s.ie, s.lost⟩) := Lib.hid ⟨⟨_, _, rfl, HP.out.i.grew G6, HJ6⟩, HP.out.ie, HP.out.lost⟩
  clear hA7 hR7 H7 HJ6
  generalize w7.setCell ⟨A, 1, none⟩ (.slice q1 j.length q2) = w6 at *
  replace hA6 : Blk w6 A #[.slice a1 s.i.length a2, .slice q1 j.length q2, .int .i64 s.ie, .int .i64 s.lost] 26 := hA6
  have y0 := hA6.cell 0
  have y1 := hA6.cell 1
  have y2 := hA6.cell 2
  have y3 := hA6.cell 3
  go_wp2_with fail
  refine (own_c (s := ⟨s.i, j, s.ie, s.lost⟩) l1 l2' HP6.out).mono ?_
  rintro e w8 ⟨b1, d1, b2, d2, rfl, H8, g8⟩
  have hR8 := hR6.grew g8
  have lR := hR6.lt
  clear y0 y1 y2 y3
  have r0 := hR8.cell 0
  have r1 := hR8.cell 1
  have r2 := hR8.cell 2
  have r3 := hR8.cell 3
  have f0 := hR8.free 0
  have f1 := hR8.free 1
  have f2 := hR8.free 2
  have f3 := hR8.free 3
  go_wp2_with fail
  have hE := ((((hR8.set (o := 0) (.slice b1 s.i.length d1)).set (o := 1) (.slice b2 j.length d2)).set (o := 2) (.int .i64 s.ie)).set (o := 3) (.int .i64 s.lost))
  have z0 := hE.cell 0
  have z1 := hE.cell 1
  have z2 := hE.cell 2
  have z3 := hE.cell 3
  have E := ((((H8.out.set (c := R) lR (o := 0) (.slice b1 s.i.length d1)).set (c := R) lR (o := 1) (.slice b2 j.length d2)).set (c := R) lR (o := 2) (.int .i64 s.ie)).set (c := R) lR (o := 3) (.int .i64 s.lost))
  have gE := (((((G6.trans g8).setCell (b := R) (o := 0) (by omega) (.slice b1 s.i.length d1)).setCell (b := R) (o := 1) (by omega) (.slice b2 j.length d2)).setCell (b := R) (o := 2) (by omega) (.int .i64 s.ie)).setCell (b := R) (o := 3) (by omega) (.int .i64 s.lost))
  have hsz := G6.size
  exact bodyPost_ret (v := .tuple #[uaV ⟨s.i, j, s.ie, s.lost⟩ b1 d1 b2 d2, .bool true]) (by simp [results, Try.results10, go_sem, z0, z1, z2, z3]) rfl ⟨b1, d1, b2, d2, rfl, Lib.hid (E.low (by omega)), gE⟩

theorem take_bytes {xs : List Int} (h : AreBytes xs) (n : Nat) : AreBytes (xs.take n) := fun x hx => h x (List.mem_of_mem_take hx)
theorem store_c {s : US} (l1 : s.i.length ≤ 70368744177664) (l2 : s.o.length ≤ 70368744177664) (off size x : Int) (hx0 : 0 ≤ x) {v : Value} {w : World} (hP : Ua w v s) :
    Calls Try.prog 10 #[v, .int .u64 off, .int .i64 size, .int .u64 x] w fun e w' => ∃ b1 d1 b2 d2, e = .returned (.tuple #[uaV (stS s off size x) b1 d1 b2 d2, .bool (!badU off size)]) ∧ Hid (Uar w' w.heap.size (uaV (stS s off size x) b1 d1 b2 d2) (stS s off size x)) ∧ Grew w w' := by
  obtain ⟨a1, a2, a3, a4, rfl⟩ := hP.shaped
  have l1' : s.i.length ≤ 140737488355328 := by omega
  have l2' : s.o.length ≤ 140737488355328 := by omega
  cases hb : (decide (off < 8) && (size == 1))
  · have hB : badU off size = true := by unfold badU; rw [hb]; rfl
    unfold stS
    rw [hB]
    exact store_bad l1' l2' hP off size x hb
  · have hB : badU off size = false := by unfold badU; rw [hb]; rfl
    obtain rfl : size = 1 := by simp at hb; exact hb.2
    unfold stS
    rw [hB]
    by_cases e0 : off = 0
    · subst e0
      simp only [Bool.false_eq_true, if_false, if_true]
      have hy : 0 ≤ x % 256 ∧ x % 256 < 256 := by omega
      refine store_out l1' l2' hP x (x % 256) ((([x % 256] : List Int).length : Int) - fitN s.o.length ([x % 256] : List Int).length 4096) rfl hy (by rw [List.length_append, List.length_take]; have : ([x % 256] : List Int).length = 1 := rfl; omega) hb (fun w v u hv hu => ?_)
      have := behind_c 4096 (by decide) hv hu (by have : ([x % 256] : List Int).length = 1 := rfl; omega)
      exact this
    · by_cases e1 : off = 1
      · subst e1
        simp only [Bool.false_eq_true, if_false, if_true, if_neg e0]
        have e4 : x.tmod 4 = x % 4 := Int.tmod_eq_emod_of_nonneg hx0
        exact store_ie l1' l2' hP x (x % 4) (by rw [e4]; exact IntWalk.wrap64_in _ (by omega)) (by unfold intI; omega) hb
      · simp only [Bool.false_eq_true, if_false, if_neg e0, if_neg e1]
        exact store_else l1' l2' hP off x hb (by simpa using e0) (by simpa using e1)

set_option maxHeartbeats 1000000 in
theorem type_full {s : US} (l1 : s.i.length ≤ 140737488355328) (l2 : s.o.length ≤ 140737488355328) {a1 : Option Addr} {a2 : Nat} {a3 : Option Addr} {a4 : Nat} {w : World} (hP : Ua w (uaV s a1 a2 a3 a4) s) {u : Value} {ys j : List Int} (hu : Buf w u ys) (d : Int) (l1' : j.length ≤ 140737488355328) (h0 : decide (s.lost < 2147483648) = false)
    (hB : ∀ w v, Buf w v s.i → Buf w u ys → Calls Try.prog 13 #[v, u, .int .i64 16] w fun e w' => ∃ a c, e = .returned (.tuple #[.slice a j.length c, .int .i64 d]) ∧ Hid (Buf w' (.slice a j.length c) j) ∧ Grew w w') :
    Calls Try.prog 7 #[uaV s a1 a2 a3 a4, u] w fun e w' => ∃ b1 d1 b2 d2, e = .returned (uaV ⟨j, s.o, s.ie, s.lost⟩ b1 d1 b2 d2) ∧ Hid (Uar w' w.heap.size (uaV ⟨j, s.o, s.ie, s.lost⟩ b1 d1 b2 d2) ⟨j, s.o, s.ie, s.lost⟩) ∧ Grew w w' := by
  have HB := Lib.hid hB
  have HU := Lib.hid hu
  clear hB hu
  have HP := Lib.hid hP
  clear hP
  go_enter Try.func7, Try.ntmps7
  go_upto_region 1 with fail
  have hA : Blk ((w.alloc (.cells #[.slice a1 s.i.length a2, .slice a3 s.o.length a4, .int .i64 s.ie, .int .i64 s.lost] 26)).alloc (.cells #[.slice none 0 0, .slice none 0 0, .int .i64 0, .int .i64 0] 26)) w.heap.size #[.slice a1 s.i.length a2, .slice a3 s.o.length a4, .int .i64 s.ie, .int .i64 s.lost] 26 := (Blk.new _ _ _ _ rfl).alloc _
  have hR : Blk ((w.alloc (.cells #[.slice a1 s.i.length a2, .slice a3 s.o.length a4, .int .i64 s.ie, .int .i64 s.lost] 26)).alloc (.cells #[.slice none 0 0, .slice none 0 0, .int .i64 0, .int .i64 0] 26)) (w.heap.size + 1) #[.slice none 0 0, .slice none 0 0, .int .i64 0, .int .i64 0] 26 := Blk.new _ _ _ _ (by simp)
  have g0 : Grew w ((w.alloc (.cells #[.slice a1 s.i.length a2, .slice a3 s.o.length a4, .int .i64 s.ie, .int .i64 s.lost] 26)).alloc (.cells #[.slice none 0 0, .slice none 0 0, .int .i64 0, .int .i64 0] 26)) := ((Grew.refl w).alloc _).alloc _
  have hnA : w.heap.size ≤ w.heap.size := Nat.le_refl _
  have hnR : w.heap.size ≤ w.heap.size + 1 := Nat.le_succ _
  have hAR : w.heap.size + 1 ≠ w.heap.size := by omega
  generalize ((w.alloc (.cells #[.slice a1 s.i.length a2, .slice a3 s.o.length a4, .int .i64 s.ie, .int .i64 s.lost] 26)).alloc (.cells #[.slice none 0 0, .slice none 0 0, .int .i64 0, .int .i64 0] 26)) = w0 at *
  generalize w.heap.size + 1 = R at *
  generalize hAe : w.heap.size = A at *
  have HP0 := Lib.hid (HP.out.grew g0)
  go_upto_region 2 with fail
  have y0 := hA.cell 0
  go_wp2_with fail
  refine (HB.out _ _ HP0.out.i (HU.out.grew g0)).mono ?_
  rintro e w7 ⟨q1, q2, rfl, H7, g7⟩
  have hA7 := hA.grew g7
  have hR7 := hR.grew g7
  clear y0
  have y0 := hA7.cell 0
  have f0 := hA7.free 0
  go_upto_region 3 with fail
  clear y0 f0
  have hA6 := hA7.set (o := 0) (.slice q1 j.length q2)
  have hR6 := hR7.other (c := A) (o := 0) hAR (.slice q1 j.length q2)
  have G6 := (g0.trans g7).setCell (b := A) (o := 0) (by omega) (.slice q1 j.length q2)
  have HJ6 := Lib.hid (H7.out.box hA7 (four_no _ _ _ _ _ _ _ _) (o := 0) (.slice q1 j.length q2))
  clear hA7 hR7 H7
  generalize w7.setCell ⟨A, 0, none⟩ (.slice q1 j.length q2) = w6 at *
  replace hA6 : Blk w6 A #[.slice q1 j.length q2, .slice a3 s.o.length a4, .int .i64 s.ie, .int .i64 s.lost] 26 := hA6
  have y3 := hA6.cell 3
  go_upto_region 5 with fail
  clear y3
  have hA5 := hA6
  have hR5 := hR6
  have G5 := G6
  have HP5 : Hid (Ua w6 (uaV ⟨j, s.o, s.ie, s.lost⟩ q1 q2 a3 a4) ⟨j, s.o, s.ie, s.lost⟩) := Lib.hid ⟨⟨_, _, rfl, HJ6.out, HP.out.o.grew G6⟩, HP.out.ie, HP.out.lost⟩
  have y0 := hA5.cell 0
  have y1 := hA5.cell 1
  have y2 := hA5.cell 2
  have y3 := hA5.cell 3
  go_wp2_with fail
  refine (own_c (s := ⟨j, s.o, s.ie, s.lost⟩) l1' l2 HP5.out).mono ?_
  rintro e w8 ⟨b1, d1, b2, d2, rfl, H8, g8⟩
  have hR8 := hR5.grew g8
  have lR := hR5.lt
  clear y0 y1 y2 y3
  have r0 := hR8.cell 0
  have r1 := hR8.cell 1
  have r2 := hR8.cell 2
  have r3 := hR8.cell 3
  have f0 := hR8.free 0
  have f1 := hR8.free 1
  have f2 := hR8.free 2
  have f3 := hR8.free 3
  go_wp2_with fail
  have hE := ((((hR8.set (o := 0) (.slice b1 j.length d1)).set (o := 1) (.slice b2 s.o.length d2)).set (o := 2) (.int .i64 s.ie)).set (o := 3) (.int .i64 s.lost))
  have z0 := hE.cell 0
  have z1 := hE.cell 1
  have z2 := hE.cell 2
  have z3 := hE.cell 3
  have E := ((((H8.out.set (c := R) lR (o := 0) (.slice b1 j.length d1)).set (c := R) lR (o := 1) (.slice b2 s.o.length d2)).set (c := R) lR (o := 2) (.int .i64 s.ie)).set (c := R) lR (o := 3) (.int .i64 s.lost))
  have gE := (((((G5.trans g8).setCell (b := R) (o := 0) (by omega) (.slice b1 j.length d1)).setCell (b := R) (o := 1) (by omega) (.slice b2 s.o.length d2)).setCell (b := R) (o := 2) (by omega) (.int .i64 s.ie)).setCell (b := R) (o := 3) (by omega) (.int .i64 s.lost))
  have hsz := G5.size
  exact bodyPost_ret (v := uaV ⟨j, s.o, s.ie, s.lost⟩ b1 d1 b2 d2) (by simp [results, Try.results7, go_sem, z0, z1, z2, z3]) rfl ⟨b1, d1, b2, d2, rfl, Lib.hid (E.low (by omega)), gE⟩

set_option maxHeartbeats 1000000 in
theorem type_room {s : US} (l1 : s.i.length ≤ 140737488355328) (l2 : s.o.length ≤ 140737488355328) {a1 : Option Addr} {a2 : Nat} {a3 : Option Addr} {a4 : Nat} {w : World} (hP : Ua w (uaV s a1 a2 a3 a4) s) {u : Value} {ys j : List Int} (hu : Buf w u ys) (d : Int) (l1' : j.length ≤ 140737488355328) (h0 : decide (s.lost < 2147483648) = true) (y z : Int) (hz : IntKind.i64.wrap (s.lost + d) = z) (hy : intI y) (hmin : ∀ ts t w', (Builtin.min_ ts t #[.int .i64 z, .int .i64 2147483648]).run Try.prog w' = .ok (.int .i64 y) w')
    (hB : ∀ w v, Buf w v s.i → Buf w u ys → Calls Try.prog 13 #[v, u, .int .i64 16] w fun e w' => ∃ a c, e = .returned (.tuple #[.slice a j.length c, .int .i64 d]) ∧ Hid (Buf w' (.slice a j.length c) j) ∧ Grew w w') :
    Calls Try.prog 7 #[uaV s a1 a2 a3 a4, u] w fun e w' => ∃ b1 d1 b2 d2, e = .returned (uaV ⟨j, s.o, s.ie, y⟩ b1 d1 b2 d2) ∧ Hid (Uar w' w.heap.size (uaV ⟨j, s.o, s.ie, y⟩ b1 d1 b2 d2) ⟨j, s.o, s.ie, y⟩) ∧ Grew w w' := by
  have HB := Lib.hid hB
  have HU := Lib.hid hu
  clear hB hu
  have HY := Lib.hid hy
  clear hy
  have HP := Lib.hid hP
  clear hP
  go_enter Try.func7, Try.ntmps7
  go_upto_region 1 with fail
  have hA : Blk ((w.alloc (.cells #[.slice a1 s.i.length a2, .slice a3 s.o.length a4, .int .i64 s.ie, .int .i64 s.lost] 26)).alloc (.cells #[.slice none 0 0, .slice none 0 0, .int .i64 0, .int .i64 0] 26)) w.heap.size #[.slice a1 s.i.length a2, .slice a3 s.o.length a4, .int .i64 s.ie, .int .i64 s.lost] 26 := (Blk.new _ _ _ _ rfl).alloc _
  have hR : Blk ((w.alloc (.cells #[.slice a1 s.i.length a2, .slice a3 s.o.length a4, .int .i64 s.ie, .int .i64 s.lost] 26)).alloc (.cells #[.slice none 0 0, .slice none 0 0, .int .i64 0, .int .i64 0] 26)) (w.heap.size + 1) #[.slice none 0 0, .slice none 0 0, .int .i64 0, .int .i64 0] 26 := Blk.new _ _ _ _ (by simp)
  have g0 : Grew w ((w.alloc (.cells #[.slice a1 s.i.length a2, .slice a3 s.o.length a4, .int .i64 s.ie, .int .i64 s.lost] 26)).alloc (.cells #[.slice none 0 0, .slice none 0 0, .int .i64 0, .int .i64 0] 26)) := ((Grew.refl w).alloc _).alloc _
  have hnA : w.heap.size ≤ w.heap.size := Nat.le_refl _
  have hnR : w.heap.size ≤ w.heap.size + 1 := Nat.le_succ _
  have hAR : w.heap.size + 1 ≠ w.heap.size := by omega
  generalize ((w.alloc (.cells #[.slice a1 s.i.length a2, .slice a3 s.o.length a4, .int .i64 s.ie, .int .i64 s.lost] 26)).alloc (.cells #[.slice none 0 0, .slice none 0 0, .int .i64 0, .int .i64 0] 26)) = w0 at *
  generalize w.heap.size + 1 = R at *
  generalize hAe : w.heap.size = A at *
  have HP0 := Lib.hid (HP.out.grew g0)
  go_upto_region 2 with fail
  have y0 := hA.cell 0
  go_wp2_with fail
  refine (HB.out _ _ HP0.out.i (HU.out.grew g0)).mono ?_
  rintro e w7 ⟨q1, q2, rfl, H7, g7⟩
  have hA7 := hA.grew g7
  have hR7 := hR.grew g7
  clear y0
  have y0 := hA7.cell 0
  have f0 := hA7.free 0
  go_upto_region 3 with fail
  clear y0 f0
  have hA6 := hA7.set (o := 0) (.slice q1 j.length q2)
  have hR6 := hR7.other (c := A) (o := 0) hAR (.slice q1 j.length q2)
  have G6 := (g0.trans g7).setCell (b := A) (o := 0) (by omega) (.slice q1 j.length q2)
  have HJ6 := Lib.hid (H7.out.box hA7 (four_no _ _ _ _ _ _ _ _) (o := 0) (.slice q1 j.length q2))
  clear hA7 hR7 H7
  generalize w7.setCell ⟨A, 0, none⟩ (.slice q1 j.length q2) = w6 at *
  replace hA6 : Blk w6 A #[.slice q1 j.length q2, .slice a3 s.o.length a4, .int .i64 s.ie, .int .i64 s.lost] 26 := hA6
  have y3 := hA6.cell 3
  have f3 := hA6.free 3
  go_upto_region 5 with fail
  clear y3 f3
  have hA5 := hA6.set (o := 3) (.int .i64 y)
  have hR5 := hR6.other (c := A) (o := 3) hAR (.int .i64 y)
  have G5 := G6.setCell (b := A) (o := 3) (by omega) (.int .i64 y)
  have HJ5 := HJ6.out.box hA6 (four_no _ _ _ _ _ _ _ _) (o := 3) (.int .i64 y)
  have HP5 : Hid (Ua (w6.setCell ⟨A, 3, none⟩ (.int .i64 y)) (uaV ⟨j, s.o, s.ie, y⟩ q1 q2 a3 a4) ⟨j, s.o, s.ie, y⟩) := Lib.hid ⟨⟨_, _, rfl, HJ5, HP.out.o.grew G5⟩, HP.out.ie, HY.out⟩
  clear HJ5
  generalize w6.setCell ⟨A, 3, none⟩ (.int .i64 y) = w5 at *
  replace hA5 : Blk w5 A #[.slice q1 j.length q2, .slice a3 s.o.length a4, .int .i64 s.ie, .int .i64 y] 26 := hA5
  have y0 := hA5.cell 0
  have y1 := hA5.cell 1
  have y2 := hA5.cell 2
  have y3 := hA5.cell 3
  go_wp2_with fail
  refine (own_c (s := ⟨j, s.o, s.ie, y⟩) l1' l2 HP5.out).mono ?_
  rintro e w8 ⟨b1, d1, b2, d2, rfl, H8, g8⟩
  have hR8 := hR5.grew g8
  have lR := hR5.lt
  clear y0 y1 y2 y3
  have r0 := hR8.cell 0
  have r1 := hR8.cell 1
  have r2 := hR8.cell 2
  have r3 := hR8.cell 3
  have f0 := hR8.free 0
  have f1 := hR8.free 1
  have f2 := hR8.free 2
  have f3 := hR8.free 3
  go_wp2_with fail
  have hE := ((((hR8.set (o := 0) (.slice b1 j.length d1)).set (o := 1) (.slice b2 s.o.length d2)).set (o := 2) (.int .i64 s.ie)).set (o := 3) (.int .i64 y))
  have z0 := hE.cell 0
  have z1 := hE.cell 1
  have z2 := hE.cell 2
  have z3 := hE.cell 3
  have E := ((((H8.out.set (c := R) lR (o := 0) (.slice b1 j.length d1)).set (c := R) lR (o := 1) (.slice b2 s.o.length d2)).set (c := R) lR (o := 2) (.int .i64 s.ie)).set (c := R) lR (o := 3) (.int .i64 y))
  have gE := (((((G5.trans g8).setCell (b := R) (o := 0) (by omega) (.slice b1 j.length d1)).setCell (b := R) (o := 1) (by omega) (.slice b2 s.o.length d2)).setCell (b := R) (o := 2) (by omega) (.int .i64 s.ie)).setCell (b := R) (o := 3) (by omega) (.int .i64 y))
  have hsz := G5.size
  exact bodyPost_ret (v := uaV ⟨j, s.o, s.ie, y⟩ b1 d1 b2 d2) (by simp [results, Try.results7, go_sem, z0, z1, z2, z3]) rfl ⟨b1, d1, b2, d2, rfl, Lib.hid (E.low (by omega)), gE⟩

theorem type_c {s : US} (l1 : s.i.length ≤ 35184372088832) (l2 : s.o.length ≤ 140737488355328) {ys : List Int} (l3 : ys.length ≤ 35184372088832) {v u : Value} {w : World} (hP : Ua w v s) (hu : Buf w u ys) :
    Calls Try.prog 7 #[v, u] w fun e w' => ∃ b1 d1 b2 d2, e = .returned (uaV (tyS s ys) b1 d1 b2 d2) ∧ Hid (Uar w' w.heap.size (uaV (tyS s ys) b1 d1 b2 d2) (tyS s ys)) ∧ Grew w w' := by
  obtain ⟨a1, a2, a3, a4, rfl⟩ := hP.shaped
  have hf := fitN_le s.i.length ys.length 16
  have hl := hP.lost
  unfold intI at hl
  have hj : (s.i ++ ys.take (fitN s.i.length ys.length 16)).length ≤ 140737488355328 := by rw [List.length_append, List.length_take]; omega
  have hB : ∀ w v, Buf w v s.i → Buf w u ys → _ := fun w v h1 h2 => behind_c (w := w) 16 (by decide) h1 h2 (by omega)
  unfold tyS
  cases h0 : decide (s.lost < 2147483648)
  · rw [if_neg (by simpa using h0)]
    exact type_full (by omega) l2 hP hu _ hj h0 hB
  · have h0' : s.lost < 2147483648 := by simpa using h0
    rw [if_pos h0']
    refine type_room (by omega) l2 hP hu _ hj h0 _ (s.lost + ((ys.length : Int) - fitN s.i.length ys.length 16)) (IntWalk.i64_in _ (by omega)) (by unfold intI; omega) (fun ts t w' => ?_) hB
    rw [run_min_int2]
    congr 2
    split <;> omega

theorem line_c (s : US) (a1 : Option Addr) (c1 : Nat) (a2 : Option Addr) (c2 : Nat) (w : World) : Calls Try.prog 12 #[uaV s a1 c1 a2 c2] w fun e w' => e = .returned (.bool (lineV s)) ∧ Grew w w' := by
  have hW := Lib.hid (waits_c s a1 c1 a2 c2)
  unfold lineV
  cases h0 : decide (0 < s.i.length)
  all_goals
    rw [h0] at hW
    clear h0
    go_enter Try.func12, Try.ntmps12
    go_upto_region 1 with fail
    have hA : Blk (w.alloc (.cells #[.slice a1 s.i.length c1, .slice a2 s.o.length c2, .int .i64 s.ie, .int .i64 s.lost] 26)) w.heap.size #[.slice a1 s.i.length c1, .slice a2 s.o.length c2, .int .i64 s.ie, .int .i64 s.lost] 26 := Blk.new _ _ _ _ rfl
    have g0 : Grew w (w.alloc (.cells #[.slice a1 s.i.length c1, .slice a2 s.o.length c2, .int .i64 s.ie, .int .i64 s.lost] 26)) := (Grew.refl w).alloc _
    generalize (w.alloc (.cells #[.slice a1 s.i.length c1, .slice a2 s.o.length c2, .int .i64 s.ie, .int .i64 s.lost] 26)) = w0 at *
    have y0 := hA.cell 0
    have y1 := hA.cell 1
    have y2 := hA.cell 2
    have y3 := hA.cell 3
    go_wp2_with fail
    refine (hW.out _).mono ?_
    rintro e w1 ⟨rfl, g1⟩
    clear y0 y1 y2 y3
    have y2 := (hA.grew g1).cell 2
    go_wp2_with fail
    go_ret
    exact ⟨by simp, g0.trans g1⟩
end Go.Proofs.Ytegncliegmknaaa
