/-
  Package uart: Load, at every place and size, of every line.
-/
import Derived.Test.YtegncliegmknaaaUaC
set_option linter.unusedVariables false
set_option linter.unusedSimpArgs false
namespace Go.Proofs.Ytegncliegmknaaa
open Go.RowKit

def badU (off size : Int) : Bool := !(decide (off < 8) && (size == 1))
/-- What is loaded. -/
def ldY (s : US) (off size : Int) : Int :=
  if badU off size then 0 else if off = 0 then s.i.getD 0 0 else if off = 1 then IntKind.u64.wrap s.ie else if off = 5 then (if 0 < s.i.length then 97 else 96) else 0
/-- What is left. -/
def ldS (s : US) (off size : Int) : US := if badU off size then s else if off = 0 then { s with i := s.i.drop 1 } else s
theorem isRegister_b {off size : Int} {b : Bool} (hb : (decide (off < 8) && (size == 1)) = b) (w : World) : Calls Try.prog 15 #[.int .u64 off, .int .i64 size] w fun e w' => e = .returned (.bool b) ∧ w = w' := by
  have := isRegister_c off size w
  rwa [hb] at this
theorem cutL_from (xs : List Int) (k : Nat) : cutL xs k xs.length = xs.drop k := by
  unfold cutL
  rw [List.take_of_length_le (by simp)]
theorem Buf.drop {w : World} {v : Value} {xs : List Int} (h : Buf w v xs) : AreBytes (xs.drop 1) := fun x hx => h.ok x (List.mem_of_mem_drop hx)

set_option maxHeartbeats 1000000 in
theorem load_bad {s : US} (l1 : s.i.length ≤ 140737488355328) (l2 : s.o.length ≤ 140737488355328) {a1 : Option Addr} {a2 : Nat} {a3 : Option Addr} {a4 : Nat} {w : World} (hP : Ua w (uaV s a1 a2 a3 a4) s) (off size : Int) (hb : (decide (off < 8) && (size == 1)) = false) :
    Calls Try.prog 8 #[uaV s a1 a2 a3 a4, .int .u64 off, .int .i64 size] w fun e w' => ∃ b1 d1 b2 d2, e = .returned (.tuple #[.int .u64 (0), uaV s b1 d1 b2 d2, .bool false]) ∧ Hid (Uar w' w.heap.size (uaV s b1 d1 b2 d2) s) ∧ Grew w w' := by
  replace hb := Lib.hid (isRegister_b hb)
  have HP := Lib.hid hP
  clear hP
  go_enter Try.func8, Try.ntmps8
  go_upto_region 1 with fail
  have hA : Blk ((w.alloc (.cells #[.slice a1 s.i.length a2, .slice a3 s.o.length a4, .int .i64 s.ie, .int .i64 s.lost] 26)).alloc (.cells #[.slice none 0 0, .slice none 0 0, .int .i64 0, .int .i64 0] 26)) w.heap.size #[.slice a1 s.i.length a2, .slice a3 s.o.length a4, .int .i64 s.ie, .int .i64 s.lost] 26 := (Blk.new _ _ _ _ rfl).alloc _
  have hR : Blk ((w.alloc (.cells #[.slice a1 s.i.length a2, .slice a3 s.o.length a4, .int .i64 s.ie, .int .i64 s.lost] 26)).alloc (.cells #[.slice none 0 0, .slice none 0 0, .int .i64 0, .int .i64 0] 26)) (w.heap.size + 1) #[.slice none 0 0, .slice none 0 0, .int .i64 0, .int .i64 0] 26 := Blk.new _ _ _ _ (by simp)
  have g0 : Grew w ((w.alloc (.cells #[.slice a1 s.i.length a2, .slice a3 s.o.length a4, .int .i64 s.ie, .int .i64 s.lost] 26)).alloc (.cells #[.slice none 0 0, .slice none 0 0, .int .i64 0, .int .i64 0] 26)) := ((Grew.refl w).alloc _).alloc _
  have hnA : w.heap.size ≤ w.heap.size := Nat.le_refl _
  have hnR : w.heap.size ≤ w.heap.size + 1 := Nat.le_succ _
  have hAR : w.heap.size + 1 ≠ w.heap.size := by omega
  generalize ((w.alloc (.cells #[.slice a1 s.i.length a2, .slice a3 s.o.length a4, .int .i64 s.ie, .int .i64 s.lost] 26)).alloc (.cells #[.slice none 0 0, .slice none 0 0, .int .i64 0, .int .i64 0] 26)) = w0 at *
  generalize w.heap.size + 1 = R at *
  generalize hAe : w.heap.size = A at *
  have HP0 := Lib.hid (HP.out.grew g0)
  go_wp2_with fail
  refine (hb.out _).mono ?_
  rintro e w9 ⟨rfl, rfl⟩
  go_upto_region 2 with fail
  have y0 := hA.cell 0
  have y1 := hA.cell 1
  have y2 := hA.cell 2
  have y3 := hA.cell 3
  go_wp2_with fail
  refine (own_c (s := s) l1 l2 HP0.out).mono ?_
  rintro e w8 ⟨b1, d1, b2, d2, rfl, H8, g8⟩
  have hR8 := hR.grew g8
  have lR := hR.lt
  clear y0 y1 y2 y3
  have r0 := hR8.cell 0
  have r1 := hR8.cell 1
  have r2 := hR8.cell 2
  have r3 := hR8.cell 3
  have f0 := hR8.free 0
  have f1 := hR8.free 1
  have f2 := hR8.free 2
  have f3 := hR8.free 3
  go_wp2_with fail
  have hE := ((((hR8.set (o := 0) (.slice b1 s.i.length d1)).set (o := 1) (.slice b2 s.o.length d2)).set (o := 2) (.int .i64 s.ie)).set (o := 3) (.int .i64 s.lost))
  have z0 := hE.cell 0
  have z1 := hE.cell 1
  have z2 := hE.cell 2
  have z3 := hE.cell 3
  have E := ((((H8.out.set (c := R) lR (o := 0) (.slice b1 s.i.length d1)).set (c := R) lR (o := 1) (.slice b2 s.o.length d2)).set (c := R) lR (o := 2) (.int .i64 s.ie)).set (c := R) lR (o := 3) (.int .i64 s.lost))
  have gE := (((((g0.trans g8).setCell (b := R) (o := 0) (by omega) (.slice b1 s.i.length d1)).setCell (b := R) (o := 1) (by omega) (.slice b2 s.o.length d2)).setCell (b := R) (o := 2) (by omega) (.int .i64 s.ie)).setCell (b := R) (o := 3) (by omega) (.int .i64 s.lost))
  have hsz := g0.size
  exact bodyPost_ret (v := .tuple #[.int .u64 (0), uaV s b1 d1 b2 d2, .bool false]) (by simp [results, Try.results8, go_sem, z0, z1, z2, z3]) rfl ⟨b1, d1, b2, d2, rfl, Lib.hid (E.low (by omega)), gE⟩

set_option maxHeartbeats 1000000 in
theorem load_else {s : US} (l1 : s.i.length ≤ 140737488355328) (l2 : s.o.length ≤ 140737488355328) {a1 : Option Addr} {a2 : Nat} {a3 : Option Addr} {a4 : Nat} {w : World} (hP : Ua w (uaV s a1 a2 a3 a4) s) (off : Int) (hb : (decide (off < 8) && ((1 : Int) == 1)) = true) (h0 : (off == 0) = false) (h1 : (off == 1) = false) (h5 : (off == 5) = false) :
    Calls Try.prog 8 #[uaV s a1 a2 a3 a4, .int .u64 off, .int .i64 1] w fun e w' => ∃ b1 d1 b2 d2, e = .returned (.tuple #[.int .u64 (0), uaV s b1 d1 b2 d2, .bool true]) ∧ Hid (Uar w' w.heap.size (uaV s b1 d1 b2 d2) s) ∧ Grew w w' := by
  replace hb := Lib.hid (isRegister_b hb)
  have HP := Lib.hid hP
  clear hP
  go_enter Try.func8, Try.ntmps8
  go_upto_region 1 with fail
  have hA : Blk ((w.alloc (.cells #[.slice a1 s.i.length a2, .slice a3 s.o.length a4, .int .i64 s.ie, .int .i64 s.lost] 26)).alloc (.cells #[.slice none 0 0, .slice none 0 0, .int .i64 0, .int .i64 0] 26)) w.heap.size #[.slice a1 s.i.length a2, .slice a3 s.o.length a4, .int .i64 s.ie, .int .i64 s.lost] 26 := (Blk.new _ _ _ _ rfl).alloc _
  have hR : Blk ((w.alloc (.cells #[.slice a1 s.i.length a2, .slice a3 s.o.length a4, .int .i64 s.ie, .int .i64 s.lost] 26)).alloc (.cells #[.slice none 0 0, .slice none 0 0, .int .i64 0, .int .i64 0] 26)) (w.heap.size + 1) #[.slice none 0 0, .slice none 0 0, .int .i64 0, .int .i64 0] 26 := Blk.new _ _ _ _ (by simp)
  have g0 : Grew w ((w.alloc (.cells #[.slice a1 s.i.length a2, .slice a3 s.o.length a4, .int .i64 s.ie, .int .i64 s.lost] 26)).alloc (.cells #[.slice none 0 0, .slice none 0 0, .int .i64 0, .int .i64 0] 26)) := ((Grew.refl w).alloc _).alloc _
  have hnA : w.heap.size ≤ w.heap.size := Nat.le_refl _
  have hnR : w.heap.size ≤ w.heap.size + 1 := Nat.le_succ _
  have hAR : w.heap.size + 1 ≠ w.heap.size := by omega
  generalize ((w.alloc (.cells #[.slice a1 s.i.length a2, .slice a3 s.o.length a4, .int .i64 s.ie, .int .i64 s.lost] 26)).alloc (.cells #[.slice none 0 0, .slice none 0 0, .int .i64 0, .int .i64 0] 26)) = w0 at *
  generalize w.heap.size + 1 = R at *
  generalize hAe : w.heap.size = A at *
  have HP0 := Lib.hid (HP.out.grew g0)
  go_wp2_with fail
  refine (hb.out _).mono ?_
  rintro e w9 ⟨rfl, rfl⟩
  go_upto_region 12 with fail
  have y0 := hA.cell 0
  have y1 := hA.cell 1
  have y2 := hA.cell 2
  have y3 := hA.cell 3
  go_wp2_with fail
  refine (own_c (s := s) l1 l2 HP0.out).mono ?_
  rintro e w8 ⟨b1, d1, b2, d2, rfl, H8, g8⟩
  have hR8 := hR.grew g8
  have lR := hR.lt
  clear y0 y1 y2 y3
  have r0 := hR8.cell 0
  have r1 := hR8.cell 1
  have r2 := hR8.cell 2
  have r3 := hR8.cell 3
  have f0 := hR8.free 0
  have f1 := hR8.free 1
  have f2 := hR8.free 2
  have f3 := hR8.free 3
  go_wp2_with fail
  have hE := ((((hR8.set (o := 0) (.slice b1 s.i.length d1)).set (o := 1) (.slice b2 s.o.length d2)).set (o := 2) (.int .i64 s.ie)).set (o := 3) (.int .i64 s.lost))
  have z0 := hE.cell 0
  have z1 := hE.cell 1
  have z2 := hE.cell 2
  have z3 := hE.cell 3
  have E := ((((H8.out.set (c := R) lR (o := 0) (.slice b1 s.i.length d1)).set (c := R) lR (o := 1) (.slice b2 s.o.length d2)).set (c := R) lR (o := 2) (.int .i64 s.ie)).set (c := R) lR (o := 3) (.int .i64 s.lost))
  have gE := (((((g0.trans g8).setCell (b := R) (o := 0) (by omega) (.slice b1 s.i.length d1)).setCell (b := R) (o := 1) (by omega) (.slice b2 s.o.length d2)).setCell (b := R) (o := 2) (by omega) (.int .i64 s.ie)).setCell (b := R) (o := 3) (by omega) (.int .i64 s.lost))
  have hsz := g0.size
  exact bodyPost_ret (v := .tuple #[.int .u64 (0), uaV s b1 d1 b2 d2, .bool true]) (by simp [results, Try.results8, go_sem, z0, z1, z2, z3]) rfl ⟨b1, d1, b2, d2, rfl, Lib.hid (E.low (by omega)), gE⟩

set_option maxHeartbeats 1000000 in
theorem load_ie {s : US} (l1 : s.i.length ≤ 140737488355328) (l2 : s.o.length ≤ 140737488355328) {a1 : Option Addr} {a2 : Nat} {a3 : Option Addr} {a4 : Nat} {w : World} (hP : Ua w (uaV s a1 a2 a3 a4) s) (hb : (decide ((1 : Int) < 8) && ((1 : Int) == 1)) = true) :
    Calls Try.prog 8 #[uaV s a1 a2 a3 a4, .int .u64 1, .int .i64 1] w fun e w' => ∃ b1 d1 b2 d2, e = .returned (.tuple #[.int .u64 (IntKind.u64.wrap s.ie), uaV s b1 d1 b2 d2, .bool true]) ∧ Hid (Uar w' w.heap.size (uaV s b1 d1 b2 d2) s) ∧ Grew w w' := by
  replace hb := Lib.hid (isRegister_b hb)
  have HP := Lib.hid hP
  clear hP
  go_enter Try.func8, Try.ntmps8
  go_upto_region 1 with fail
  have hA : Blk ((w.alloc (.cells #[.slice a1 s.i.length a2, .slice a3 s.o.length a4, .int .i64 s.ie, .int .i64 s.lost] 26)).alloc (.cells #[.slice none 0 0, .slice none 0 0, .int .i64 0, .int .i64 0] 26)) w.heap.size #[.slice a1 s.i.length a2, .slice a3 s.o.length a4, .int .i64 s.ie, .int .i64 s.lost] 26 := (Blk.new _ _ _ _ rfl).alloc _
  have hR : Blk ((w.alloc (.cells #[.slice a1 s.i.length a2, .slice a3 s.o.length a4, .int .i64 s.ie, .int .i64 s.lost] 26)).alloc (.cells #[.slice none 0 0, .slice none 0 0, .int .i64 0, .int .i64 0] 26)) (w.heap.size + 1) #[.slice none 0 0, .slice none 0 0, .int .i64 0, .int .i64 0] 26 := Blk.new _ _ _ _ (by simp)
  have g0 : Grew w ((w.alloc (.cells #[.slice a1 s.i.length a2, .slice a3 s.o.length a4, .int .i64 s.ie, .int .i64 s.lost] 26)).alloc (.cells #[.slice none 0 0, .slice none 0 0, .int .i64 0, .int .i64 0] 26)) := ((Grew.refl w).alloc _).alloc _
  have hnA : w.heap.size ≤ w.heap.size := Nat.le_refl _
  have hnR : w.heap.size ≤ w.heap.size + 1 := Nat.le_succ _
  have hAR : w.heap.size + 1 ≠ w.heap.size := by omega
  generalize ((w.alloc (.cells #[.slice a1 s.i.length a2, .slice a3 s.o.length a4, .int .i64 s.ie, .int .i64 s.lost] 26)).alloc (.cells #[.slice none 0 0, .slice none 0 0, .int .i64 0, .int .i64 0] 26)) = w0 at *
  generalize w.heap.size + 1 = R at *
  generalize hAe : w.heap.size = A at *
  have HP0 := Lib.hid (HP.out.grew g0)
  go_wp2_with fail
  refine (hb.out _).mono ?_
  rintro e w9 ⟨rfl, rfl⟩
  have y0 := hA.cell 0
  have y1 := hA.cell 1
  have y2 := hA.cell 2
  have y3 := hA.cell 3
  go_upto_region 12 with fail
  clear y0 y1 y2 y3
  have y0 := hA.cell 0
  have y1 := hA.cell 1
  have y2 := hA.cell 2
  have y3 := hA.cell 3
  go_wp2_with fail
  refine (own_c (s := s) l1 l2 HP0.out).mono ?_
  rintro e w8 ⟨b1, d1, b2, d2, rfl, H8, g8⟩
  have hR8 := hR.grew g8
  have lR := hR.lt
  clear y0 y1 y2 y3
  have r0 := hR8.cell 0
  have r1 := hR8.cell 1
  have r2 := hR8.cell 2
  have r3 := hR8.cell 3
  have f0 := hR8.free 0
  have f1 := hR8.free 1
  have f2 := hR8.free 2
  have f3 := hR8.free 3
  go_wp2_with fail
  have hE := ((((hR8.set (o := 0) (.slice b1 s.i.length d1)).set (o := 1) (.slice b2 s.o.length d2)).set (o := 2) (.int .i64 s.ie)).set (o := 3) (.int .i64 s.lost))
  have z0 := hE.cell 0
  have z1 := hE.cell 1
  have z2 := hE.cell 2
  have z3 := hE.cell 3
  have E := ((((H8.out.set (c := R) lR (o := 0) (.slice b1 s.i.length d1)).set (c := R) lR (o := 1) (.slice b2 s.o.length d2)).set (c := R) lR (o := 2) (.int .i64 s.ie)).set (c := R) lR (o := 3) (.int .i64 s.lost))
  have gE := (((((g0.trans g8).setCell (b := R) (o := 0) (by omega) (.slice b1 s.i.length d1)).setCell (b := R) (o := 1) (by omega) (.slice b2 s.o.length d2)).setCell (b := R) (o := 2) (by omega) (.int .i64 s.ie)).setCell (b := R) (o := 3) (by omega) (.int .i64 s.lost))
  have hsz := g0.size
  exact bodyPost_ret (v := .tuple #[.int .u64 (IntKind.u64.wrap s.ie), uaV s b1 d1 b2 d2, .bool true]) (by simp [results, Try.results8, go_sem, z0, z1, z2, z3]) rfl ⟨b1, d1, b2, d2, rfl, Lib.hid (E.low (by omega)), gE⟩

set_option maxHeartbeats 1000000 in
theorem load_state {s : US} (l1 : s.i.length ≤ 140737488355328) (l2 : s.o.length ≤ 140737488355328) {a1 : Option Addr} {a2 : Nat} {a3 : Option Addr} {a4 : Nat} {w : World} (hP : Ua w (uaV s a1 a2 a3 a4) s) (hb : (decide ((5 : Int) < 8) && ((1 : Int) == 1)) = true) (y : Int) (hy : (if 0 < s.i.length then 97 else 96) = y) :
    Calls Try.prog 8 #[uaV s a1 a2 a3 a4, .int .u64 5, .int .i64 1] w fun e w' => ∃ b1 d1 b2 d2, e = .returned (.tuple #[.int .u64 (y), uaV s b1 d1 b2 d2, .bool true]) ∧ Hid (Uar w' w.heap.size (uaV s b1 d1 b2 d2) s) ∧ Grew w w' := by
  have hS := Lib.hid (state_c s a1 a2 a3 a4)
  rw [hy] at hS
  clear hy
  replace hb := Lib.hid (isRegister_b hb)
  have HP := Lib.hid hP
  clear hP
  go_enter Try.func8, Try.ntmps8
  go_upto_region 1 with fail
  have hA : Blk ((w.alloc (.cells #[.slice a1 s.i.length a2, .slice a3 s.o.length a4, .int .i64 s.ie, .int .i64 s.lost] 26)).alloc (.cells #[.slice none 0 0, .slice none 0 0, .int .i64 0, .int .i64 0] 26)) w.heap.size #[.slice a1 s.i.length a2, .slice a3 s.o.length a4, .int .i64 s.ie, .int .i64 s.lost] 26 := (Blk.new _ _ _ _ rfl).alloc _
  have hR : Blk ((w.alloc (.cells #[.slice a1 s.i.length a2, .slice a3 s.o.length a4, .int .i64 s.ie, .int .i64 s.lost] 26)).alloc (.cells #[.slice none 0 0, .slice none 0 0, .int .i64 0, .int .i64 0] 26)) (w.heap.size + 1) #[.slice none 0 0, .slice none 0 0, .int .i64 0, .int .i64 0] 26 := Blk.new _ _ _ _ (by simp)
  have g0 : Grew w ((w.alloc (.cells #[.slice a1 s.i.length a2, .slice a3 s.o.length a4, .int .i64 s.ie, .int .i64 s.lost] 26)).alloc (.cells #[.slice none 0 0, .slice none 0 0, .int .i64 0, .int .i64 0] 26)) := ((Grew.refl w).alloc _).alloc _
  have hnA : w.heap.size ≤ w.heap.size := Nat.le_refl _
  have hnR : w.heap.size ≤ w.heap.size + 1 := Nat.le_succ _
  have hAR : w.heap.size + 1 ≠ w.heap.size := by omega
  generalize ((w.alloc (.cells #[.slice a1 s.i.length a2, .slice a3 s.o.length a4, .int .i64 s.ie, .int .i64 s.lost] 26)).alloc (.cells #[.slice none 0 0, .slice none 0 0, .int .i64 0, .int .i64 0] 26)) = w0 at *
  generalize w.heap.size + 1 = R at *
  generalize hAe : w.heap.size = A at *
  have HP0 := Lib.hid (HP.out.grew g0)
  go_wp2_with fail
  refine (hb.out _).mono ?_
  rintro e w9 ⟨rfl, rfl⟩
  have y0 := hA.cell 0
  have y1 := hA.cell 1
  have y2 := hA.cell 2
  have y3 := hA.cell 3
  go_upto_region 12 with (go_at_call 17; refine (hS.out _).mono ?_; rintro e w7 ⟨rfl, g7⟩)
  clear y0 y1 y2 y3
  have hA7 := hA.grew g7
  have hR7 := hR.grew g7
  have HP7 := Lib.hid (HP0.out.grew g7)
  have y0 := hA7.cell 0
  have y1 := hA7.cell 1
  have y2 := hA7.cell 2
  have y3 := hA7.cell 3
  go_wp2_with fail
  refine (own_c (s := s) l1 l2 HP7.out).mono ?_
  rintro e w8 ⟨b1, d1, b2, d2, rfl, H8, g8⟩
  have hR8 := hR7.grew g8
  have lR := hR7.lt
  clear y0 y1 y2 y3
  have r0 := hR8.cell 0
  have r1 := hR8.cell 1
  have r2 := hR8.cell 2
  have r3 := hR8.cell 3
  have f0 := hR8.free 0
  have f1 := hR8.free 1
  have f2 := hR8.free 2
  have f3 := hR8.free 3
  go_wp2_with fail
  have hE := ((((hR8.set (o := 0) (.slice b1 s.i.length d1)).set (o := 1) (.slice b2 s.o.length d2)).set (o := 2) (.int .i64 s.ie)).set (o := 3) (.int .i64 s.lost))
  have z0 := hE.cell 0
  have z1 := hE.cell 1
  have z2 := hE.cell 2
  have z3 := hE.cell 3
  have E := ((((H8.out.set (c := R) lR (o := 0) (.slice b1 s.i.length d1)).set (c := R) lR (o := 1) (.slice b2 s.o.length d2)).set (c := R) lR (o := 2) (.int .i64 s.ie)).set (c := R) lR (o := 3) (.int .i64 s.lost))
  have gE := ((((((g0.trans g7).trans g8).setCell (b := R) (o := 0) (by omega) (.slice b1 s.i.length d1)).setCell (b := R) (o := 1) (by omega) (.slice b2 s.o.length d2)).setCell (b := R) (o := 2) (by omega) (.int .i64 s.ie)).setCell (b := R) (o := 3) (by omega) (.int .i64 s.lost))
  have hsz := (g0.trans g7).size
  exact bodyPost_ret (v := .tuple #[.int .u64 (y), uaV s b1 d1 b2 d2, .bool true]) (by simp [results, Try.results8, go_sem, z0, z1, z2, z3]) rfl ⟨b1, d1, b2, d2, rfl, Lib.hid (E.low (by omega)), gE⟩

set_option maxHeartbeats 1000000 in
theorem load_none {s : US} (l1 : s.i.length ≤ 140737488355328) (l2 : s.o.length ≤ 140737488355328) {a1 : Option Addr} {a2 : Nat} {a3 : Option Addr} {a4 : Nat} {w : World} (hP : Ua w (uaV s a1 a2 a3 a4) s) (hb : (decide ((0 : Int) < 8) && ((1 : Int) == 1)) = true) (h0 : decide (0 < s.i.length) = false) :
    Calls Try.prog 8 #[uaV s a1 a2 a3 a4, .int .u64 0, .int .i64 1] w fun e w' => ∃ b1 d1 b2 d2, e = .returned (.tuple #[.int .u64 (0), uaV s b1 d1 b2 d2, .bool true]) ∧ Hid (Uar w' w.heap.size (uaV s b1 d1 b2 d2) s) ∧ Grew w w' := by
  have hW := Lib.hid (waits_c s a1 a2 a3 a4)
  rw [h0] at hW
  clear h0
  replace hb := Lib.hid (isRegister_b hb)
  have HP := Lib.hid hP
  clear hP
  go_enter Try.func8, Try.ntmps8
  go_upto_region 1 with fail
  have hA : Blk ((w.alloc (.cells #[.slice a1 s.i.length a2, .slice a3 s.o.length a4, .int .i64 s.ie, .int .i64 s.lost] 26)).alloc (.cells #[.slice none 0 0, .slice none 0 0, .int .i64 0, .int .i64 0] 26)) w.heap.size #[.slice a1 s.i.length a2, .slice a3 s.o.length a4, .int .i64 s.ie, .int .i64 s.lost] 26 := (Blk.new _ _ _ _ rfl).alloc _
  have hR : Blk ((w.alloc (.cells #[.slice a1 s.i.length a2, .slice a3 s.o.length a4, .int .i64 s.ie, .int .i64 s.lost] 26)).alloc (.cells #[.slice none 0 0, .slice none 0 0, .int .i64 0, .int .i64 0] 26)) (w.heap.size + 1) #[.slice none 0 0, .slice none 0 0, .int .i64 0, .int .i64 0] 26 := Blk.new _ _ _ _ (by simp)
  have g0 : Grew w ((w.alloc (.cells #[.slice a1 s.i.length a2, .slice a3 s.o.length a4, .int .i64 s.ie, .int .i64 s.lost] 26)).alloc (.cells #[.slice none 0 0, .slice none 0 0, .int .i64 0, .int .i64 0] 26)) := ((Grew.refl w).alloc _).alloc _
  have hnA : w.heap.size ≤ w.heap.size := Nat.le_refl _
  have hnR : w.heap.size ≤ w.heap.size + 1 := Nat.le_succ _
  have hAR : w.heap.size + 1 ≠ w.heap.size := by omega
  generalize ((w.alloc (.cells #[.slice a1 s.i.length a2, .slice a3 s.o.length a4, .int .i64 s.ie, .int .i64 s.lost] 26)).alloc (.cells #[.slice none 0 0, .slice none 0 0, .int .i64 0, .int .i64 0] 26)) = w0 at *
  generalize w.heap.size + 1 = R at *
  generalize hAe : w.heap.size = A at *
  have HP0 := Lib.hid (HP.out.grew g0)
  go_wp2_with fail
  refine (hb.out _).mono ?_
  rintro e w9 ⟨rfl, rfl⟩
  go_upto_region 6 with fail
  have y0 := hA.cell 0
  have y1 := hA.cell 1
  have y2 := hA.cell 2
  have y3 := hA.cell 3
  go_wp2_with fail
  refine (hW.out _).mono ?_
  rintro e w7 ⟨rfl, g7⟩
  clear y0 y1 y2 y3
  have hA7 := hA.grew g7
  have hR7 := hR.grew g7
  have HP7 := Lib.hid (HP0.out.grew g7)
  go_upto_region 12 with fail
  have y0 := hA7.cell 0
  have y1 := hA7.cell 1
  have y2 := hA7.cell 2
  have y3 := hA7.cell 3
  go_wp2_with fail
  refine (own_c (s := s) l1 l2 HP7.out).mono ?_
  rintro e w8 ⟨b1, d1, b2, d2, rfl, H8, g8⟩
  have hR8 := hR7.grew g8
  have lR := hR7.lt
  clear y0 y1 y2 y3
  have r0 := hR8.cell 0
  have r1 := hR8.cell 1
  have r2 := hR8.cell 2
  have r3 := hR8.cell 3
  have f0 := hR8.free 0
  have f1 := hR8.free 1
  have f2 := hR8.free 2
  have f3 := hR8.free 3
  go_wp2_with fail
  have hE := ((((hR8.set (o := 0) (.slice b1 s.i.length d1)).set (o := 1) (.slice b2 s.o.length d2)).set (o := 2) (.int .i64 s.ie)).set (o := 3) (.int .i64 s.lost))
  have z0 := hE.cell 0
  have z1 := hE.cell 1
  have z2 := hE.cell 2
  have z3 := hE.cell 3
  have E := ((((H8.out.set (c := R) lR (o := 0) (.slice b1 s.i.length d1)).set (c := R) lR (o := 1) (.slice b2 s.o.length d2)).set (c := R) lR (o := 2) (.int .i64 s.ie)).set (c := R) lR (o := 3) (.int .i64 s.lost))
  have gE := ((((((g0.trans g7).trans g8).setCell (b := R) (o := 0) (by omega) (.slice b1 s.i.length d1)).setCell (b := R) (o := 1) (by omega) (.slice b2 s.o.length d2)).setCell (b := R) (o := 2) (by omega) (.int .i64 s.ie)).setCell (b := R) (o := 3) (by omega) (.int .i64 s.lost))
  have hsz := (g0.trans g7).size
  exact bodyPost_ret (v := .tuple #[.int .u64 (0), uaV s b1 d1 b2 d2, .bool true]) (by simp [results, Try.results8, go_sem, z0, z1, z2, z3]) rfl ⟨b1, d1, b2, d2, rfl, Lib.hid (E.low (by omega)), gE⟩

set_option maxHeartbeats 1000000 in
theorem load_first {s : US} (l1 : s.i.length ≤ 140737488355328) (l2 : s.o.length ≤ 140737488355328) {a1 : Option Addr} {a2 : Nat} {a3 : Option Addr} {a4 : Nat} {w : World} (hP : Ua w (uaV s a1 a2 a3 a4) s) {j : List Int} (hb : (decide ((0 : Int) < 8) && ((1 : Int) == 1)) = true) (h0 : decide (0 < s.i.length) = true) (l1' : j.length ≤ 140737488355328) {x : Int} (hx : 0 ≤ x ∧ x < 256) {b off : Nat} (ha : a1 = some ⟨b, off, none⟩) (hbl : b < w.heap.size) (c0 : w.cell? ⟨b, off, none⟩ = some (.int .u8 x)) {q1 : Option Addr} {q2 : Nat} (hJ : Buf w (.slice q1 j.length q2) j)
    (rC : ∀ k1 w', (Instr.sliceAt 24 (.slice a1 s.i.length a2) (some (.int k1 1)) none none).run Try.prog w' = .ok (.slice q1 j.length q2) w') :
    Calls Try.prog 8 #[uaV s a1 a2 a3 a4, .int .u64 0, .int .i64 1] w fun e w' => ∃ b1 d1 b2 d2, e = .returned (.tuple #[.int .u64 (x), uaV ⟨j, s.o, s.ie, s.lost⟩ b1 d1 b2 d2, .bool true]) ∧ Hid (Uar w' w.heap.size (uaV ⟨j, s.o, s.ie, s.lost⟩ b1 d1 b2 d2) ⟨j, s.o, s.ie, s.lost⟩) ∧ Grew w w' := by
  subst ha
  have hlt : Hid (0 < s.i.length) := Lib.hid (by simpa using h0)
  have HJ := Lib.hid hJ
  clear hJ
  have hW := Lib.hid (waits_c s (some ⟨b, off, none⟩) a2 a3 a4)
  rw [h0] at hW
  clear h0
  replace hb := Lib.hid (isRegister_b hb)
  have HP := Lib.hid hP
  clear hP
  go_enter Try.func8, Try.ntmps8
  go_upto_region 1 with fail
  have hA : Blk ((w.alloc (.cells #[.slice (some ⟨b, off, none⟩) s.i.length a2, .slice a3 s.o.length a4, .int .i64 s.ie, .int .i64 s.lost] 26)).alloc (.cells #[.slice none 0 0, .slice none 0 0, .int .i64 0, .int .i64 0] 26)) w.heap.size #[.slice (some ⟨b, off, none⟩) s.i.length a2, .slice a3 s.o.length a4, .int .i64 s.ie, .int .i64 s.lost] 26 := (Blk.new _ _ _ _ rfl).alloc _
  have hR : Blk ((w.alloc (.cells #[.slice (some ⟨b, off, none⟩) s.i.length a2, .slice a3 s.o.length a4, .int .i64 s.ie, .int .i64 s.lost] 26)).alloc (.cells #[.slice none 0 0, .slice none 0 0, .int .i64 0, .int .i64 0] 26)) (w.heap.size + 1) #[.slice none 0 0, .slice none 0 0, .int .i64 0, .int .i64 0] 26 := Blk.new _ _ _ _ (by simp)
  have g0 : Grew w ((w.alloc (.cells #[.slice (some ⟨b, off, none⟩) s.i.length a2, .slice a3 s.o.length a4, .int .i64 s.ie, .int .i64 s.lost] 26)).alloc (.cells #[.slice none 0 0, .slice none 0 0, .int .i64 0, .int .i64 0] 26)) := ((Grew.refl w).alloc _).alloc _
  have hnA : w.heap.size ≤ w.heap.size := Nat.le_refl _
  have hnR : w.heap.size ≤ w.heap.size + 1 := Nat.le_succ _
  have hAR : w.heap.size + 1 ≠ w.heap.size := by omega
  generalize ((w.alloc (.cells #[.slice (some ⟨b, off, none⟩) s.i.length a2, .slice a3 s.o.length a4, .int .i64 s.ie, .int .i64 s.lost] 26)).alloc (.cells #[.slice none 0 0, .slice none 0 0, .int .i64 0, .int .i64 0] 26)) = w0 at *
  generalize w.heap.size + 1 = R at *
  generalize hAe : w.heap.size = A at *
  have HP0 := Lib.hid (HP.out.grew g0)
  go_wp2_with fail
  refine (hb.out _).mono ?_
  rintro e w9 ⟨rfl, rfl⟩
  go_upto_region 6 with fail
  have y0 := hA.cell 0
  have y1 := hA.cell 1
  have y2 := hA.cell 2
  have y3 := hA.cell 3
  go_wp2_with fail
  refine (hW.out _).mono ?_
  rintro e w7 ⟨rfl, g7⟩
  clear y0 y1 y2 y3
  have hA7 := hA.grew g7
  have hR7 := hR.grew g7
  have HP7 := Lib.hid (HP0.out.grew g7)
  have hpos : (0 : Int) < (s.i.length : Nat) := by
    have := hlt.out
    omega
  have c7 : w7.cell? ⟨b, off, none⟩ = some (.int .u8 x) := by rw [(gcell (g0.trans g7)).1 b off (by omega)]; exact c0
  have hb7 : b < w7.heap.size := by have := (g0.trans g7).size; omega
  clear c0
  go_upto_region 7 with fail
  have y0 := fun z : Over w7 => hA7.overCell 0 _ rfl z
  have y1 := fun z : Over w7 => hA7.overCell 1 _ rfl z
  have y2 := fun z : Over w7 => hA7.overCell 2 _ rfl z
  have y3 := fun z : Over w7 => hA7.overCell 3 _ rfl z
  have yc := fun z : Over w7 => Over.cell hb7 c7 z
  refine region_over_tail 10 (by kernel_rfl) (by kernel_rfl) ?_
  simp only [List.take_succ_cons, List.take_zero, List.drop_succ_cons, List.drop_zero]
  repeat (first | go_big_quiet_step (fail) | quiet_step (fail))
  refine wpQuiet_nil ?_
  intro z
  have gz := (g0.trans g7).trans z.g
  have hRz := hR7.over z
  have hAz := hA7.over z
  have HPz := Lib.hid (HP.out.grew gz)
  have HJz := Lib.hid (HJ.out.grew gz)
  have lAz := hAz.lt
  generalize z.w = w5 at *
  clear y0 y1 y2 y3
  clear yc z
  have y0 := hAz.cell 0
  have f0 := hAz.free 0
  go_upto_region 12 with fail
  clear y0 f0
  have hA6 := hAz.set (o := 0) (.slice q1 j.length q2)
  have hR6 := hRz.other (c := A) (o := 0) hAR (.slice q1 j.length q2)
  have G6 := gz.setCell (b := A) (o := 0) (by omega) (.slice q1 j.length q2)
  have HP6 : Hid (Ua (w5.setCell ⟨A, 0, none⟩ (.slice q1 j.length q2)) (uaV ⟨j, s.o, s.ie, s.lost⟩ q1 q2 a3 a4) ⟨j, s.o, s.ie, s.lost⟩) := Lib.hid ⟨⟨_, _, rfl, HJ.out.grew G6, HP.out.o.grew G6⟩, HP.out.ie, HP.out.lost⟩
  clear hAz hRz HPz HJz
  generalize w5.setCell ⟨A, 0, none⟩ (.slice q1 j.length q2) = w6 at *
  replace hA6 : Blk w6 A #[.slice q1 j.length q2, .slice a3 s.o.length a4, .int .i64 s.ie, .int .i64 s.lost] 26 := hA6
  have y0 := hA6.cell 0
  have y1 := hA6.cell 1
  have y2 := hA6.cell 2
  have y3 := hA6.cell 3
  go_wp2_with fail
  refine (own_c (s := ⟨j, s.o, s.ie, s.lost⟩) l1' l2 HP6.out).mono ?_
  rintro e w8 ⟨b1, d1, b2, d2, rfl, H8, g8⟩
  have hR8 := hR6.grew g8
  have lR := hR6.lt
  clear y0 y1 y2 y3
  have r0 := hR8.cell 0
  have r1 := hR8.cell 1
  have r2 := hR8.cell 2
  have r3 := hR8.cell 3
  have f0 := hR8.free 0
  have f1 := hR8.free 1
  have f2 := hR8.free 2
  have f3 := hR8.free 3
  go_wp2_with fail
  have hE := ((((hR8.set (o := 0) (.slice b1 j.length d1)).set (o := 1) (.slice b2 s.o.length d2)).set (o := 2) (.int .i64 s.ie)).set (o := 3) (.int .i64 s.lost))
  have z0 := hE.cell 0
  have z1 := hE.cell 1
  have z2 := hE.cell 2
  have z3 := hE.cell 3
  have E := ((((H8.out.set (c := R) lR (o := 0) (.slice b1 j.length d1)).set (c := R) lR (o := 1) (.slice b2 s.o.length d2)).set (c := R) lR (o := 2) (.int .i64 s.ie)).set (c := R) lR (o := 3) (.int .i64 s.lost))
  have gE := (((((G6.trans g8).setCell (b := R) (o := 0) (by omega) (.slice b1 j.length d1)).setCell (b := R) (o := 1) (by omega) (.slice b2 s.o.length d2)).setCell (b := R) (o := 2) (by omega) (.int .i64 s.ie)).setCell (b := R) (o := 3) (by omega) (.int .i64 s.lost))
  have hsz := G6.size
  exact bodyPost_ret (v := .tuple #[.int .u64 (x), uaV ⟨j, s.o, s.ie, s.lost⟩ b1 d1 b2 d2, .bool true]) (by simp [results, Try.results8, go_sem, z0, z1, z2, z3]) rfl ⟨b1, d1, b2, d2, rfl, Lib.hid (E.low (by omega)), gE⟩

theorem load_c {s : US} (l1 : s.i.length ≤ 140737488355328) (l2 : s.o.length ≤ 140737488355328) (off size : Int) {v : Value} {w : World} (hP : Ua w v s) :
    Calls Try.prog 8 #[v, .int .u64 off, .int .i64 size] w fun e w' => ∃ b1 d1 b2 d2, e = .returned (.tuple #[.int .u64 (ldY s off size), uaV (ldS s off size) b1 d1 b2 d2, .bool (!badU off size)]) ∧ Hid (Uar w' w.heap.size (uaV (ldS s off size) b1 d1 b2 d2) (ldS s off size)) ∧ Grew w w' := by
  obtain ⟨a1, a2, a3, a4, rfl⟩ := hP.shaped
  cases hb : (decide (off < 8) && (size == 1))
  · have hB : badU off size = true := by unfold badU; rw [hb]; rfl
    unfold ldY ldS
    rw [hB]
    exact load_bad l1 l2 hP off size hb
  · have hB : badU off size = false := by unfold badU; rw [hb]; rfl
    obtain rfl : size = 1 := by simp at hb; exact hb.2
    unfold ldY ldS
    rw [hB]
    by_cases e0 : off = 0
    · subst e0
      cases h0 : decide (0 < s.i.length)
      · have hn : s.i = [] := List.eq_nil_of_length_eq_zero (by simpa using h0)
        have e : ({ s with i := s.i.drop 1 } : US) = s := by
          obtain ⟨i, o, ie, lost⟩ := s
          obtain rfl : i = [] := hn
          rfl
        have e2 : s.i.getD 0 0 = 0 := by rw [hn]; rfl
        simp only [Bool.false_eq_true, if_false, if_true, e, e2]
        exact load_none l1 l2 hP hb h0
      · have hlt : 0 < s.i.length := by simpa using h0
        have hne : s.i ≠ [] := List.length_pos_iff.1 hlt
        obtain ⟨av, cv, ev, hcv, hav⟩ := hP.i.shape
        cases ev
        obtain ⟨b, off', rfl, hat⟩ := hav hne
        obtain ⟨q1, q2, hJ, _, _, _, rC⟩ := hP.i.run_cut (lo := 1) (hi := s.i.length) hlt (Nat.le_refl _)
        rw [cutL_from] at hJ
        have hl : (s.i.drop 1).length = s.i.length - 1 := by simp
        rw [← hl] at hJ
        have c0 := hat 0 hlt
        rw [Nat.add_zero] at c0
        simp only [Bool.false_eq_true, if_false, if_true]
        refine load_first l1 l2 hP hb h0 (by omega) (hP.i.ok.getD 0) rfl (hat.lt hne) c0 hJ (fun k1 w' => ?_)
        have := rC rfl k1 w'
        rw [hl]
        simpa using this
    · by_cases e1 : off = 1
      · subst e1
        simpa using load_ie l1 l2 hP hb
      · by_cases e5 : off = 5
        · subst e5
          simpa using load_state l1 l2 hP hb _ rfl
        · simp only [Bool.false_eq_true, if_false, if_neg e0, if_neg e1, if_neg e5]
          exact load_else l1 l2 hP off hb (by simpa using e0) (by simpa using e1) (by simpa using e5)
end Go.Proofs.Ytegncliegmknaaa
