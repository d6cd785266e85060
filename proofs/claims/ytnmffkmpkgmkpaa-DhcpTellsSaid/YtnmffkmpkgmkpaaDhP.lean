/-
  The document's own Put of a message.
-/
import Derived.Test.YtnmffkmpkgmkpaaDhR
import Derived.Test.YtnmffkmpkgmkpaaOff
import Derived.LoopTactic
set_option maxRecDepth 4000
set_option linter.unusedVariables false
set_option linter.unusedSimpArgs false
namespace Go.Proofs.Ytnmffkmpkgmkpaa
open Go.RowKit

theorem refPutD_op {f : DHR} {p1 : Option Addr} {k1 : Nat} (hl : f.x.length ≤ 140737488355328) (q1 : (f.op != 1) = true) (q2 : (f.op != 2) = true) (w : World) :
    Calls Try.prog 11 #[.agg #[.int .i64 f.op, .int .u32 f.xid, .int .u32 f.ci, .int .u32 f.yi, .slice p1 f.x.length k1, .int .i64 f.ty, .int .u32 f.wa, .int .u32 f.se, .int .u32 f.le, .int .u32 f.ma, .int .u32 f.ro, .int .u32 f.dn]] w fun e w' => e = .returned (.tuple #[.slice none 0 0, .int .i64 2]) ∧ Grew w w' := by
  go_enter Try.func11, Try.ntmps11
  go_upto_region 1 with fail
  have hB : Blk (w.alloc (.cells #[.int .i64 f.op, .int .u32 f.xid, .int .u32 f.ci, .int .u32 f.yi, .slice p1 f.x.length k1, .int .i64 f.ty, .int .u32 f.wa, .int .u32 f.se, .int .u32 f.le, .int .u32 f.ma, .int .u32 f.ro, .int .u32 f.dn] 26)) w.heap.size #[.int .i64 f.op, .int .u32 f.xid, .int .u32 f.ci, .int .u32 f.yi, .slice p1 f.x.length k1, .int .i64 f.ty, .int .u32 f.wa, .int .u32 f.se, .int .u32 f.le, .int .u32 f.ma, .int .u32 f.ro, .int .u32 f.dn] 26 := Blk.new _ _ _ _ rfl
  have g0 : Grew w (w.alloc (.cells #[.int .i64 f.op, .int .u32 f.xid, .int .u32 f.ci, .int .u32 f.yi, .slice p1 f.x.length k1, .int .i64 f.ty, .int .u32 f.wa, .int .u32 f.se, .int .u32 f.le, .int .u32 f.ma, .int .u32 f.ro, .int .u32 f.dn] 26)) := (Grew.refl _).alloc _
  generalize (w.alloc (.cells #[.int .i64 f.op, .int .u32 f.xid, .int .u32 f.ci, .int .u32 f.yi, .slice p1 f.x.length k1, .int .i64 f.ty, .int .u32 f.wa, .int .u32 f.se, .int .u32 f.le, .int .u32 f.ma, .int .u32 f.ro, .int .u32 f.dn] 26)) = w0 at *
  generalize hlB : w.heap.size = B at *
  have y0 := hB.cell 0
  have y1 := hB.cell 1
  have y2 := hB.cell 2
  have y3 := hB.cell 3
  have y4 := hB.cell 4
  have y5 := hB.cell 5
  have y6 := hB.cell 6
  have y7 := hB.cell 7
  have y8 := hB.cell 8
  have y9 := hB.cell 9
  have y10 := hB.cell 10
  have y11 := hB.cell 11
  go_wp2_with fail
  go_ret2
  exact ⟨rfl, g0⟩
theorem refPutD_a0 {f : DHR} {p1 : Option Addr} {k1 : Nat} (hl : f.x.length ≤ 140737488355328) (q1 : (f.op != 1) = false) (q3 : ((f.x.length : Int) != 6) = true) (w : World) :
    Calls Try.prog 11 #[.agg #[.int .i64 f.op, .int .u32 f.xid, .int .u32 f.ci, .int .u32 f.yi, .slice p1 f.x.length k1, .int .i64 f.ty, .int .u32 f.wa, .int .u32 f.se, .int .u32 f.le, .int .u32 f.ma, .int .u32 f.ro, .int .u32 f.dn]] w fun e w' => e = .returned (.tuple #[.slice none 0 0, .int .i64 2]) ∧ Grew w w' := by
  go_enter Try.func11, Try.ntmps11
  go_upto_region 1 with fail
  have hB : Blk (w.alloc (.cells #[.int .i64 f.op, .int .u32 f.xid, .int .u32 f.ci, .int .u32 f.yi, .slice p1 f.x.length k1, .int .i64 f.ty, .int .u32 f.wa, .int .u32 f.se, .int .u32 f.le, .int .u32 f.ma, .int .u32 f.ro, .int .u32 f.dn] 26)) w.heap.size #[.int .i64 f.op, .int .u32 f.xid, .int .u32 f.ci, .int .u32 f.yi, .slice p1 f.x.length k1, .int .i64 f.ty, .int .u32 f.wa, .int .u32 f.se, .int .u32 f.le, .int .u32 f.ma, .int .u32 f.ro, .int .u32 f.dn] 26 := Blk.new _ _ _ _ rfl
  have g0 : Grew w (w.alloc (.cells #[.int .i64 f.op, .int .u32 f.xid, .int .u32 f.ci, .int .u32 f.yi, .slice p1 f.x.length k1, .int .i64 f.ty, .int .u32 f.wa, .int .u32 f.se, .int .u32 f.le, .int .u32 f.ma, .int .u32 f.ro, .int .u32 f.dn] 26)) := (Grew.refl _).alloc _
  generalize (w.alloc (.cells #[.int .i64 f.op, .int .u32 f.xid, .int .u32 f.ci, .int .u32 f.yi, .slice p1 f.x.length k1, .int .i64 f.ty, .int .u32 f.wa, .int .u32 f.se, .int .u32 f.le, .int .u32 f.ma, .int .u32 f.ro, .int .u32 f.dn] 26)) = w0 at *
  generalize hlB : w.heap.size = B at *
  have y0 := hB.cell 0
  have y1 := hB.cell 1
  have y2 := hB.cell 2
  have y3 := hB.cell 3
  have y4 := hB.cell 4
  have y5 := hB.cell 5
  have y6 := hB.cell 6
  have y7 := hB.cell 7
  have y8 := hB.cell 8
  have y9 := hB.cell 9
  have y10 := hB.cell 10
  have y11 := hB.cell 11
  go_wp2_with fail
  go_ret2
  exact ⟨rfl, g0⟩
theorem refPutD_a1 {f : DHR} {p1 : Option Addr} {k1 : Nat} (hl : f.x.length ≤ 140737488355328) (q1 : (f.op != 1) = false) (q3 : ((f.x.length : Int) != 6) = false) (q4 : f.ty < 1) (w : World) :
    Calls Try.prog 11 #[.agg #[.int .i64 f.op, .int .u32 f.xid, .int .u32 f.ci, .int .u32 f.yi, .slice p1 f.x.length k1, .int .i64 f.ty, .int .u32 f.wa, .int .u32 f.se, .int .u32 f.le, .int .u32 f.ma, .int .u32 f.ro, .int .u32 f.dn]] w fun e w' => e = .returned (.tuple #[.slice none 0 0, .int .i64 2]) ∧ Grew w w' := by
  go_enter Try.func11, Try.ntmps11
  go_upto_region 1 with fail
  have hB : Blk (w.alloc (.cells #[.int .i64 f.op, .int .u32 f.xid, .int .u32 f.ci, .int .u32 f.yi, .slice p1 f.x.length k1, .int .i64 f.ty, .int .u32 f.wa, .int .u32 f.se, .int .u32 f.le, .int .u32 f.ma, .int .u32 f.ro, .int .u32 f.dn] 26)) w.heap.size #[.int .i64 f.op, .int .u32 f.xid, .int .u32 f.ci, .int .u32 f.yi, .slice p1 f.x.length k1, .int .i64 f.ty, .int .u32 f.wa, .int .u32 f.se, .int .u32 f.le, .int .u32 f.ma, .int .u32 f.ro, .int .u32 f.dn] 26 := Blk.new _ _ _ _ rfl
  have g0 : Grew w (w.alloc (.cells #[.int .i64 f.op, .int .u32 f.xid, .int .u32 f.ci, .int .u32 f.yi, .slice p1 f.x.length k1, .int .i64 f.ty, .int .u32 f.wa, .int .u32 f.se, .int .u32 f.le, .int .u32 f.ma, .int .u32 f.ro, .int .u32 f.dn] 26)) := (Grew.refl _).alloc _
  generalize (w.alloc (.cells #[.int .i64 f.op, .int .u32 f.xid, .int .u32 f.ci, .int .u32 f.yi, .slice p1 f.x.length k1, .int .i64 f.ty, .int .u32 f.wa, .int .u32 f.se, .int .u32 f.le, .int .u32 f.ma, .int .u32 f.ro, .int .u32 f.dn] 26)) = w0 at *
  generalize hlB : w.heap.size = B at *
  have y0 := hB.cell 0
  have y1 := hB.cell 1
  have y2 := hB.cell 2
  have y3 := hB.cell 3
  have y4 := hB.cell 4
  have y5 := hB.cell 5
  have y6 := hB.cell 6
  have y7 := hB.cell 7
  have y8 := hB.cell 8
  have y9 := hB.cell 9
  have y10 := hB.cell 10
  have y11 := hB.cell 11
  go_wp2_with fail
  go_ret2
  exact ⟨rfl, g0⟩
theorem refPutD_a2 {f : DHR} {p1 : Option Addr} {k1 : Nat} (hl : f.x.length ≤ 140737488355328) (q1 : (f.op != 1) = false) (q3 : ((f.x.length : Int) != 6) = false) (q4 : ¬ f.ty < 1) (q5 : 8 < f.ty) (w : World) :
    Calls Try.prog 11 #[.agg #[.int .i64 f.op, .int .u32 f.xid, .int .u32 f.ci, .int .u32 f.yi, .slice p1 f.x.length k1, .int .i64 f.ty, .int .u32 f.wa, .int .u32 f.se, .int .u32 f.le, .int .u32 f.ma, .int .u32 f.ro, .int .u32 f.dn]] w fun e w' => e = .returned (.tuple #[.slice none 0 0, .int .i64 2]) ∧ Grew w w' := by
  go_enter Try.func11, Try.ntmps11
  go_upto_region 1 with fail
  have hB : Blk (w.alloc (.cells #[.int .i64 f.op, .int .u32 f.xid, .int .u32 f.ci, .int .u32 f.yi, .slice p1 f.x.length k1, .int .i64 f.ty, .int .u32 f.wa, .int .u32 f.se, .int .u32 f.le, .int .u32 f.ma, .int .u32 f.ro, .int .u32 f.dn] 26)) w.heap.size #[.int .i64 f.op, .int .u32 f.xid, .int .u32 f.ci, .int .u32 f.yi, .slice p1 f.x.length k1, .int .i64 f.ty, .int .u32 f.wa, .int .u32 f.se, .int .u32 f.le, .int .u32 f.ma, .int .u32 f.ro, .int .u32 f.dn] 26 := Blk.new _ _ _ _ rfl
  have g0 : Grew w (w.alloc (.cells #[.int .i64 f.op, .int .u32 f.xid, .int .u32 f.ci, .int .u32 f.yi, .slice p1 f.x.length k1, .int .i64 f.ty, .int .u32 f.wa, .int .u32 f.se, .int .u32 f.le, .int .u32 f.ma, .int .u32 f.ro, .int .u32 f.dn] 26)) := (Grew.refl _).alloc _
  generalize (w.alloc (.cells #[.int .i64 f.op, .int .u32 f.xid, .int .u32 f.ci, .int .u32 f.yi, .slice p1 f.x.length k1, .int .i64 f.ty, .int .u32 f.wa, .int .u32 f.se, .int .u32 f.le, .int .u32 f.ma, .int .u32 f.ro, .int .u32 f.dn] 26)) = w0 at *
  generalize hlB : w.heap.size = B at *
  have y0 := hB.cell 0
  have y1 := hB.cell 1
  have y2 := hB.cell 2
  have y3 := hB.cell 3
  have y4 := hB.cell 4
  have y5 := hB.cell 5
  have y6 := hB.cell 6
  have y7 := hB.cell 7
  have y8 := hB.cell 8
  have y9 := hB.cell 9
  have y10 := hB.cell 10
  have y11 := hB.cell 11
  go_wp2_with fail
  go_ret2
  exact ⟨rfl, g0⟩
theorem refPutD_b0 {f : DHR} {p1 : Option Addr} {k1 : Nat} (hl : f.x.length ≤ 140737488355328) (q1 : (f.op != 1) = true) (q2 : (f.op != 2) = false) (q3 : ((f.x.length : Int) != 6) = true) (w : World) :
    Calls Try.prog 11 #[.agg #[.int .i64 f.op, .int .u32 f.xid, .int .u32 f.ci, .int .u32 f.yi, .slice p1 f.x.length k1, .int .i64 f.ty, .int .u32 f.wa, .int .u32 f.se, .int .u32 f.le, .int .u32 f.ma, .int .u32 f.ro, .int .u32 f.dn]] w fun e w' => e = .returned (.tuple #[.slice none 0 0, .int .i64 2]) ∧ Grew w w' := by
  go_enter Try.func11, Try.ntmps11
  go_upto_region 1 with fail
  have hB : Blk (w.alloc (.cells #[.int .i64 f.op, .int .u32 f.xid, .int .u32 f.ci, .int .u32 f.yi, .slice p1 f.x.length k1, .int .i64 f.ty, .int .u32 f.wa, .int .u32 f.se, .int .u32 f.le, .int .u32 f.ma, .int .u32 f.ro, .int .u32 f.dn] 26)) w.heap.size #[.int .i64 f.op, .int .u32 f.xid, .int .u32 f.ci, .int .u32 f.yi, .slice p1 f.x.length k1, .int .i64 f.ty, .int .u32 f.wa, .int .u32 f.se, .int .u32 f.le, .int .u32 f.ma, .int .u32 f.ro, .int .u32 f.dn] 26 := Blk.new _ _ _ _ rfl
  have g0 : Grew w (w.alloc (.cells #[.int .i64 f.op, .int .u32 f.xid, .int .u32 f.ci, .int .u32 f.yi, .slice p1 f.x.length k1, .int .i64 f.ty, .int .u32 f.wa, .int .u32 f.se, .int .u32 f.le, .int .u32 f.ma, .int .u32 f.ro, .int .u32 f.dn] 26)) := (Grew.refl _).alloc _
  generalize (w.alloc (.cells #[.int .i64 f.op, .int .u32 f.xid, .int .u32 f.ci, .int .u32 f.yi, .slice p1 f.x.length k1, .int .i64 f.ty, .int .u32 f.wa, .int .u32 f.se, .int .u32 f.le, .int .u32 f.ma, .int .u32 f.ro, .int .u32 f.dn] 26)) = w0 at *
  generalize hlB : w.heap.size = B at *
  have y0 := hB.cell 0
  have y1 := hB.cell 1
  have y2 := hB.cell 2
  have y3 := hB.cell 3
  have y4 := hB.cell 4
  have y5 := hB.cell 5
  have y6 := hB.cell 6
  have y7 := hB.cell 7
  have y8 := hB.cell 8
  have y9 := hB.cell 9
  have y10 := hB.cell 10
  have y11 := hB.cell 11
  go_wp2_with fail
  go_ret2
  exact ⟨rfl, g0⟩
theorem refPutD_b1 {f : DHR} {p1 : Option Addr} {k1 : Nat} (hl : f.x.length ≤ 140737488355328) (q1 : (f.op != 1) = true) (q2 : (f.op != 2) = false) (q3 : ((f.x.length : Int) != 6) = false) (q4 : f.ty < 1) (w : World) :
    Calls Try.prog 11 #[.agg #[.int .i64 f.op, .int .u32 f.xid, .int .u32 f.ci, .int .u32 f.yi, .slice p1 f.x.length k1, .int .i64 f.ty, .int .u32 f.wa, .int .u32 f.se, .int .u32 f.le, .int .u32 f.ma, .int .u32 f.ro, .int .u32 f.dn]] w fun e w' => e = .returned (.tuple #[.slice none 0 0, .int .i64 2]) ∧ Grew w w' := by
  go_enter Try.func11, Try.ntmps11
  go_upto_region 1 with fail
  have hB : Blk (w.alloc (.cells #[.int .i64 f.op, .int .u32 f.xid, .int .u32 f.ci, .int .u32 f.yi, .slice p1 f.x.length k1, .int .i64 f.ty, .int .u32 f.wa, .int .u32 f.se, .int .u32 f.le, .int .u32 f.ma, .int .u32 f.ro, .int .u32 f.dn] 26)) w.heap.size #[.int .i64 f.op, .int .u32 f.xid, .int .u32 f.ci, .int .u32 f.yi, .slice p1 f.x.length k1, .int .i64 f.ty, .int .u32 f.wa, .int .u32 f.se, .int .u32 f.le, .int .u32 f.ma, .int .u32 f.ro, .int .u32 f.dn] 26 := Blk.new _ _ _ _ rfl
  have g0 : Grew w (w.alloc (.cells #[.int .i64 f.op, .int .u32 f.xid, .int .u32 f.ci, .int .u32 f.yi, .slice p1 f.x.length k1, .int .i64 f.ty, .int .u32 f.wa, .int .u32 f.se, .int .u32 f.le, .int .u32 f.ma, .int .u32 f.ro, .int .u32 f.dn] 26)) := (Grew.refl _).alloc _
  generalize (w.alloc (.cells #[.int .i64 f.op, .int .u32 f.xid, .int .u32 f.ci, .int .u32 f.yi, .slice p1 f.x.length k1, .int .i64 f.ty, .int .u32 f.wa, .int .u32 f.se, .int .u32 f.le, .int .u32 f.ma, .int .u32 f.ro, .int .u32 f.dn] 26)) = w0 at *
  generalize hlB : w.heap.size = B at *
  have y0 := hB.cell 0
  have y1 := hB.cell 1
  have y2 := hB.cell 2
  have y3 := hB.cell 3
  have y4 := hB.cell 4
  have y5 := hB.cell 5
  have y6 := hB.cell 6
  have y7 := hB.cell 7
  have y8 := hB.cell 8
  have y9 := hB.cell 9
  have y10 := hB.cell 10
  have y11 := hB.cell 11
  go_wp2_with fail
  go_ret2
  exact ⟨rfl, g0⟩
theorem refPutD_b2 {f : DHR} {p1 : Option Addr} {k1 : Nat} (hl : f.x.length ≤ 140737488355328) (q1 : (f.op != 1) = true) (q2 : (f.op != 2) = false) (q3 : ((f.x.length : Int) != 6) = false) (q4 : ¬ f.ty < 1) (q5 : 8 < f.ty) (w : World) :
    Calls Try.prog 11 #[.agg #[.int .i64 f.op, .int .u32 f.xid, .int .u32 f.ci, .int .u32 f.yi, .slice p1 f.x.length k1, .int .i64 f.ty, .int .u32 f.wa, .int .u32 f.se, .int .u32 f.le, .int .u32 f.ma, .int .u32 f.ro, .int .u32 f.dn]] w fun e w' => e = .returned (.tuple #[.slice none 0 0, .int .i64 2]) ∧ Grew w w' := by
  go_enter Try.func11, Try.ntmps11
  go_upto_region 1 with fail
  have hB : Blk (w.alloc (.cells #[.int .i64 f.op, .int .u32 f.xid, .int .u32 f.ci, .int .u32 f.yi, .slice p1 f.x.length k1, .int .i64 f.ty, .int .u32 f.wa, .int .u32 f.se, .int .u32 f.le, .int .u32 f.ma, .int .u32 f.ro, .int .u32 f.dn] 26)) w.heap.size #[.int .i64 f.op, .int .u32 f.xid, .int .u32 f.ci, .int .u32 f.yi, .slice p1 f.x.length k1, .int .i64 f.ty, .int .u32 f.wa, .int .u32 f.se, .int .u32 f.le, .int .u32 f.ma, .int .u32 f.ro, .int .u32 f.dn] 26 := Blk.new _ _ _ _ rfl
  have g0 : Grew w (w.alloc (.cells #[.int .i64 f.op, .int .u32 f.xid, .int .u32 f.ci, .int .u32 f.yi, .slice p1 f.x.length k1, .int .i64 f.ty, .int .u32 f.wa, .int .u32 f.se, .int .u32 f.le, .int .u32 f.ma, .int .u32 f.ro, .int .u32 f.dn] 26)) := (Grew.refl _).alloc _
  generalize (w.alloc (.cells #[.int .i64 f.op, .int .u32 f.xid, .int .u32 f.ci, .int .u32 f.yi, .slice p1 f.x.length k1, .int .i64 f.ty, .int .u32 f.wa, .int .u32 f.se, .int .u32 f.le, .int .u32 f.ma, .int .u32 f.ro, .int .u32 f.dn] 26)) = w0 at *
  generalize hlB : w.heap.size = B at *
  have y0 := hB.cell 0
  have y1 := hB.cell 1
  have y2 := hB.cell 2
  have y3 := hB.cell 3
  have y4 := hB.cell 4
  have y5 := hB.cell 5
  have y6 := hB.cell 6
  have y7 := hB.cell 7
  have y8 := hB.cell 8
  have y9 := hB.cell 9
  have y10 := hB.cell 10
  have y11 := hB.cell 11
  go_wp2_with fail
  go_ret2
  exact ⟨rfl, g0⟩
def kdN (k : Nat) : Int := ([50, 54, 51, 1, 3, 6] : List Int).getD k 0
def vlN (f : DHR) (k : Nat) : Int := [f.wa, f.se, f.le, f.ma, f.ro, f.dn].getD k 0
/-- The first k options. -/
def osN (f : DHR) : Nat → List Int
  | 0 => []
  | k + 1 => osN f k ++ opDH (kdN k) (vlN f k)
theorem osN_succ (f : DHR) (k : Nat) : osN f (k + 1) = osN f k ++ opDH (kdN k) (vlN f k) := rfl
theorem osN_len (f : DHR) : ∀ k, (osN f k).length ≤ 6 * k
  | 0 => Nat.le_refl _
  | k + 1 => by
    have h1 := osN_len f k
    have h2 := opDH_len (kdN k) (vlN f k)
    rw [osN_succ, List.length_append]
    omega
theorem kdN_lt : ∀ k, k < 6 → 0 ≤ kdN k ∧ kdN k < 256
  | 0, _ => by decide
  | 1, _ => by decide
  | 2, _ => by decide
  | 3, _ => by decide
  | 4, _ => by decide
  | 5, _ => by decide
theorem kdN_cell {w : World} {b : Nat} (h : Blk w b #[.int .u8 50, .int .u8 54, .int .u8 51, .int .u8 1, .int .u8 3, .int .u8 6] 5) : ∀ k, k < 6 → w.cell? ⟨b, k, none⟩ = some (.int .u8 (kdN k))
  | 0, _ => h.cell 0
  | 1, _ => h.cell 1
  | 2, _ => h.cell 2
  | 3, _ => h.cell 3
  | 4, _ => h.cell 4
  | 5, _ => h.cell 5
theorem vlN_cell {w : World} {b : Nat} {f : DHR} (h : Blk w b #[.int .u32 f.wa, .int .u32 f.se, .int .u32 f.le, .int .u32 f.ma, .int .u32 f.ro, .int .u32 f.dn] 24) : ∀ k, k < 6 → w.cell? ⟨b, k, none⟩ = some (.int .u32 (vlN f k))
  | 0, _ => h.cell 0
  | 1, _ => h.cell 1
  | 2, _ => h.cell 2
  | 3, _ => h.cell 3
  | 4, _ => h.cell 4
  | 5, _ => h.cell 5
theorem osN_room {f : DHR} (hx : f.x.length = 6) {k : Nat} (hk : k < 6) : ((((([f.op, 1, 6, 0] ++ putL f.xid 4 true) ++ [0, 0, 0, 0] ++ putL f.ci 4 true ++ putL f.yi 4 true) ++ List.replicate 8 0 ++ f.x) ++ List.replicate 202 0 ++ [99, 130, 83, 99, 53, 1, f.ty]) ++ osN f k).length + (opDH (kdN k) (vlN f k)).length ≤ 140737488355328 := by
  have h1 := osN_len f k
  have h2 := opDH_len (kdN k) (vlN f k)
  simp only [List.length_append, putB_len, List.length_cons, List.length_nil, List.length_replicate]
  omega
theorem osN_all (f : DHR) : [53, 1, f.ty] ++ osN f 6 = osDH f := by
  unfold osDH
  simp only [osN, kdN, vlN, List.nil_append, List.append_assoc]
  rfl
set_option maxHeartbeats 8000000 in
theorem refPutD_yes {f : DHR} {p1 : Option Addr} {k1 : Nat} (q : (f.op != 1) = false ∨ ((f.op != 1) = true ∧ (f.op != 2) = false)) (hok : okDH f = true) {w : World} (hf : Dh w (.agg #[.int .i64 f.op, .int .u32 f.xid, .int .u32 f.ci, .int .u32 f.yi, .slice p1 f.x.length k1, .int .i64 f.ty, .int .u32 f.wa, .int .u32 f.se, .int .u32 f.le, .int .u32 f.ma, .int .u32 f.ro, .int .u32 f.dn]) f) (hb1 : Buf w (.slice p1 f.x.length k1) f.x) :
    Calls Try.prog 11 #[.agg #[.int .i64 f.op, .int .u32 f.xid, .int .u32 f.ci, .int .u32 f.yi, .slice p1 f.x.length k1, .int .i64 f.ty, .int .u32 f.wa, .int .u32 f.se, .int .u32 f.le, .int .u32 f.ma, .int .u32 f.ro, .int .u32 f.dn]] w fun e w' => ∃ u, e = .returned (.tuple #[u, .int .i64 0]) ∧ Buf w' u (putDH f) ∧ Grew w w' := by
  have hk := okDH_spec hok
  obtain ⟨ho, hx6, ht1, ht8⟩ := hk
  have q3 : ((f.x.length : Int) != 6) = false := by rw [hx6]; rfl
  have q4 : ¬ f.ty < 1 := by omega
  have q5 : ¬ 8 < f.ty := by omega
  have EWo := Lib.hid (show IntKind.u8.wrap f.op = f.op by rw [wrap_u8]; omega)
  have EWt := Lib.hid (show IntKind.u8.wrap f.ty = f.ty by rw [wrap_u8]; omega)
  have HOK7 := Lib.hid (show AreBytes [99, 130, 83, 99, 53, 1, f.ty] from fun z hz => by simp only [List.mem_cons, List.not_mem_nil, or_false] at hz; omega)
  have HNx : Hid (0 ≤ f.xid ∧ f.xid < 4294967296) := Lib.hid hf.xid
  have HNc : Hid (0 ≤ f.ci ∧ f.ci < 4294967296) := Lib.hid hf.ci
  have HNd : Hid (0 ≤ f.yi ∧ f.yi < 4294967296) := Lib.hid hf.yi
  have HVS := Lib.hid (show ∀ k, k < 6 → (0 ≤ vlN f k ∧ vlN f k < 4294967296) from fun k hk => by
    have h1 := hf.wa
    have h2 := hf.se
    have h3 := hf.le
    have h4 := hf.ma
    have h5 := hf.ro
    have h6 := hf.dn
    match k, hk with
    | 0, _ => exact h1
    | 1, _ => exact h2
    | 2, _ => exact h3
    | 3, _ => exact h4
    | 4, _ => exact h5
    | 5, _ => exact h6)
  have HPO := Lib.hid (putDH_ok hok hb1.ok)
  have H1w := Lib.hid hb1
  have HX6 := Lib.hid hx6
  clear hok hf hb1 ho ht1 ht8 hx6
  go_enter Try.func11, Try.ntmps11
  go_upto_region 1 with fail
  have hB : Blk (w.alloc (.cells #[.int .i64 f.op, .int .u32 f.xid, .int .u32 f.ci, .int .u32 f.yi, .slice p1 f.x.length k1, .int .i64 f.ty, .int .u32 f.wa, .int .u32 f.se, .int .u32 f.le, .int .u32 f.ma, .int .u32 f.ro, .int .u32 f.dn] 26)) w.heap.size #[.int .i64 f.op, .int .u32 f.xid, .int .u32 f.ci, .int .u32 f.yi, .slice p1 f.x.length k1, .int .i64 f.ty, .int .u32 f.wa, .int .u32 f.se, .int .u32 f.le, .int .u32 f.ma, .int .u32 f.ro, .int .u32 f.dn] 26 := Blk.new _ _ _ _ rfl
  have g0 : Grew w (w.alloc (.cells #[.int .i64 f.op, .int .u32 f.xid, .int .u32 f.ci, .int .u32 f.yi, .slice p1 f.x.length k1, .int .i64 f.ty, .int .u32 f.wa, .int .u32 f.se, .int .u32 f.le, .int .u32 f.ma, .int .u32 f.ro, .int .u32 f.dn] 26)) := (Grew.refl _).alloc _
  generalize (w.alloc (.cells #[.int .i64 f.op, .int .u32 f.xid, .int .u32 f.ci, .int .u32 f.yi, .slice p1 f.x.length k1, .int .i64 f.ty, .int .u32 f.wa, .int .u32 f.se, .int .u32 f.le, .int .u32 f.ma, .int .u32 f.ro, .int .u32 f.dn] 26)) = w0 at *
  generalize hlB : w.heap.size = B at *
  have HB := Lib.hid hB
  have H1 := Lib.hid (H1w.out.grew g0)
  have y0 := hB.cell 0
  have y1 := hB.cell 1
  have y2 := hB.cell 2
  have y3 := hB.cell 3
  have y4 := hB.cell 4
  have y5 := hB.cell 5
  have y6 := hB.cell 6
  have y7 := hB.cell 7
  have y8 := hB.cell 8
  have y9 := hB.cell 9
  have y10 := hB.cell 10
  have y11 := hB.cell 11
  clear hB H1w
  go_cut [31] (fun v wx => v = .bool false ∧ wx = w0)
  case first =>
    rcases q with q1 | ⟨q1, q2⟩
    all_goals
      go_wp2_with fail
      go_meet
      exact ⟨rfl, rfl⟩
  obtain ⟨rfl, hw⟩ := hcut
  obtain rfl := hw.symm
  clear q q3 q4 q5 y0 y1 y2 y3 y4 y5 y6 y7 y8 y9 y10 y11
  go_upto_region 3 with fail
  go_cut [4] (fun v wx => Hid (Row wx w0.heap.size v ([f.op, 1, 6, 0] ++ putL f.xid 4 true)) ∧ Grew w0 wx)
  case first =>
    have hst := (Grew.refl w0).drew1
    refine wp_region_held_drew (S := fun w' => Grew w0 w') (by kernel_rfl) (by exact hst) (fun hHeld => ?_)
    replace hHeld : Grew w0 w0.drew := hHeld
    generalize w0.drew = wq1 at *
    refine wpAnyH_take (i := 0) (v := ?_) rfl (by kernel_rfl) (by kernel_rfl) (by kernel_rfl) (fun _ _ _ h => h) (Or.inl ⟨by rfl, ?_⟩) hHeld ?_
    rotate_left
    · intro wq hSw
      replace hSw : Grew w0 wq := hSw
      go_simp
      try with_reducible rfl
    try simp only [List.getElem_toArray, List.getElem_cons_succ, List.getElem_cons_zero, Act.put, List.setIfInBounds_toArray, List.set_cons_zero, List.set_cons_succ]
    refine wpAnyH_take (i := 1) (v := ?_) rfl (by kernel_rfl) (by kernel_rfl) (by kernel_rfl) (fun _ _ _ h => h) (Or.inl ⟨by rfl, ?_⟩) hHeld ?_
    rotate_left
    · intro wq hSw
      replace hSw : Grew w0 wq := hSw
      have y0 := (HB.out.grew hSw).cell 0
      go_simp
      try with_reducible rfl
    try simp only [List.getElem_toArray, List.getElem_cons_succ, List.getElem_cons_zero, Act.put, List.setIfInBounds_toArray, List.set_cons_zero, List.set_cons_succ]
    refine wpAnyH_take (i := 2) (v := ?_) rfl (by kernel_rfl) (by kernel_rfl) (by kernel_rfl) (fun _ _ _ h => h) (Or.inl ⟨by rfl, ?_⟩) hHeld ?_
    rotate_left
    · intro wq hSw
      replace hSw : Grew w0 wq := hSw
      have ew := EWo.out
      go_simp
      try with_reducible rfl
    try simp only [List.getElem_toArray, List.getElem_cons_succ, List.getElem_cons_zero, Act.put, List.setIfInBounds_toArray, List.set_cons_zero, List.set_cons_succ]
    refine wpAnyH_take (i := 4) (v := ?_) rfl (by kernel_rfl) (by kernel_rfl) (by kernel_rfl) (fun _ _ _ h => h) (Or.inl ⟨by rfl, ?_⟩) hHeld ?_
    rotate_left
    · intro wq hSw
      replace hSw : Grew w0 wq := hSw
      go_simp
      try with_reducible rfl
    try simp only [List.getElem_toArray, List.getElem_cons_succ, List.getElem_cons_zero, Act.put, List.setIfInBounds_toArray, List.set_cons_zero, List.set_cons_succ]
    refine wpAnyH_take (i := 5) (v := ?_) rfl (by kernel_rfl) (by kernel_rfl) (by kernel_rfl) (fun _ _ _ h => h) (Or.inl ⟨by rfl, ?_⟩) hHeld ?_
    rotate_left
    · intro wq hSw
      replace hSw : Grew w0 wq := hSw
      have y1 := (HB.out.grew hSw).cell 1
      go_simp
      try with_reducible rfl
    try simp only [List.getElem_toArray, List.getElem_cons_succ, List.getElem_cons_zero, Act.put, List.setIfInBounds_toArray, List.set_cons_zero, List.set_cons_succ]
    refine wpAnyH_ready (rs := [3, 6]) (by kernel_rfl) (by simp) ?_
    refine AllReadyH.cons rfl (fun K hK => ?_) (AllReadyH.cons rfl (fun K hK => ?_) AllReadyH.nil)
    · go_simp
      have R1 : Hid (Row (wq1.alloc (.cells #[.int .u8 f.op, .int .u8 1, .int .u8 6, .int .u8 0] 5)) w0.heap.size (.slice (some ⟨wq1.heap.size, 0, none⟩) 4 4) [f.op, 1, 6, 0]) := Lib.hid (Row.lit wq1 w0.heap.size hHeld.size #[.int .u8 f.op, .int .u8 1, .int .u8 6, .int .u8 0] [f.op, 1, 6, 0] rfl (by unfold maxLen; simp) _ rfl 4 rfl)
      have gk2 : Grew wq1 (wq1.alloc (.cells #[.int .u8 f.op, .int .u8 1, .int .u8 6, .int .u8 0] 5)) := (Grew.refl _).alloc _
      generalize (wq1.alloc (.cells #[.int .u8 f.op, .int .u8 1, .int .u8 6, .int .u8 0] 5)) = wk2 at *
      generalize wq1.heap.size = L0 at *
      refine hK.out _ _ (hHeld.trans gk2) (fun hHeld => ?_)
      clear hK K
      try simp only [List.getElem_toArray, List.getElem_cons_succ, List.getElem_cons_zero, Act.put, List.setIfInBounds_toArray, List.set_cons_zero, List.set_cons_succ]
      refine wpAnyH_ready (rs := [6]) (by kernel_rfl) (by simp) ?_
      refine AllReadyH.cons rfl (fun K hK => ?_) AllReadyH.nil
      go_simp
      refine (refFour_c (f.xid) HNx.out wk2).mono ?_
      rintro e wk3 ⟨px, cx, rfl, -, Hx, gk3⟩
      replace Hx := Lib.hid Hx
      replace R1 := Lib.hid (R1.out.grew gk3)
      refine hK.out _ _ (hHeld.trans gk3) (fun hHeld => ?_)
      clear hK K
      try simp only [List.getElem_toArray, List.getElem_cons_succ, List.getElem_cons_zero, Act.put, List.setIfInBounds_toArray, List.set_cons_zero, List.set_cons_succ]
      refine wpAnyH_ready (rs := [7]) (by kernel_rfl) (by simp) ?_
      refine AllReadyH.cons rfl (fun K hK => ?_) AllReadyH.nil
      refine step_append_t rfl (.tmp 35) (.tmp 38) rfl hHeld R1.out Hx.out (by rfl) (by rfl) (by have := HX6.out; simp only [List.length_append, putB_len, List.length_cons, List.length_nil, List.length_replicate]; omega) ?_
      intro vR2 wk4 R2 gk4
      clear R1
      refine hK.out _ _ (gk4) (fun hHeld => ?_)
      clear hK K
      try simp only [List.getElem_toArray, List.getElem_cons_succ, List.getElem_cons_zero, Act.put, List.setIfInBounds_toArray, List.set_cons_zero, List.set_cons_succ]
      refine wpAnyH_take (i := 8) (v := ?_) rfl (by kernel_rfl) (by kernel_rfl) (by kernel_rfl) (fun _ _ _ h => h) (Or.inl ⟨by rfl, ?_⟩) hHeld ?_
      rotate_left
      · intro wq hSw
        replace hSw : Grew w0 wq := hSw
        go_simp
        try with_reducible rfl
      try simp only [List.getElem_toArray, List.getElem_cons_succ, List.getElem_cons_zero, Act.put, List.setIfInBounds_toArray, List.set_cons_zero, List.set_cons_succ]
      refine wpAnyH_done (by kernel_rfl) ?_ _
      try simp only [List.getElem_toArray, List.getElem_cons_succ, List.getElem_cons_zero, Act.put, List.setIfInBounds_toArray, List.set_cons_zero, List.set_cons_succ]
      go_wp2_with fail
      go_meet
      exact ⟨R2, hHeld⟩
    · go_simp
      refine (refFour_c (f.xid) HNx.out wq1).mono ?_
      rintro e wk5 ⟨px, cx, rfl, -, Hx, gk5⟩
      replace Hx := Lib.hid Hx
      refine hK.out _ _ (hHeld.trans gk5) (fun hHeld => ?_)
      clear hK K
      try simp only [List.getElem_toArray, List.getElem_cons_succ, List.getElem_cons_zero, Act.put, List.setIfInBounds_toArray, List.set_cons_zero, List.set_cons_succ]
      refine wpAnyH_ready (rs := [3]) (by kernel_rfl) (by simp) ?_
      refine AllReadyH.cons rfl (fun K hK => ?_) AllReadyH.nil
      go_simp
      have R1 : Hid (Row (wk5.alloc (.cells #[.int .u8 f.op, .int .u8 1, .int .u8 6, .int .u8 0] 5)) w0.heap.size (.slice (some ⟨wk5.heap.size, 0, none⟩) 4 4) [f.op, 1, 6, 0]) := Lib.hid (Row.lit wk5 w0.heap.size hHeld.size #[.int .u8 f.op, .int .u8 1, .int .u8 6, .int .u8 0] [f.op, 1, 6, 0] rfl (by unfold maxLen; simp) _ rfl 4 rfl)
      have gk6 : Grew wk5 (wk5.alloc (.cells #[.int .u8 f.op, .int .u8 1, .int .u8 6, .int .u8 0] 5)) := (Grew.refl _).alloc _
      replace Hx := Lib.hid (Hx.out.grew gk6)
      generalize (wk5.alloc (.cells #[.int .u8 f.op, .int .u8 1, .int .u8 6, .int .u8 0] 5)) = wk6 at *
      generalize wk5.heap.size = L0 at *
      refine hK.out _ _ (hHeld.trans gk6) (fun hHeld => ?_)
      clear hK K
      try simp only [List.getElem_toArray, List.getElem_cons_succ, List.getElem_cons_zero, Act.put, List.setIfInBounds_toArray, List.set_cons_zero, List.set_cons_succ]
      refine wpAnyH_ready (rs := [7]) (by kernel_rfl) (by simp) ?_
      refine AllReadyH.cons rfl (fun K hK => ?_) AllReadyH.nil
      refine step_append_t rfl (.tmp 35) (.tmp 38) rfl hHeld R1.out Hx.out (by rfl) (by rfl) (by have := HX6.out; simp only [List.length_append, putB_len, List.length_cons, List.length_nil, List.length_replicate]; omega) ?_
      intro vR2 wk7 R2 gk7
      clear R1
      refine hK.out _ _ (gk7) (fun hHeld => ?_)
      clear hK K
      try simp only [List.getElem_toArray, List.getElem_cons_succ, List.getElem_cons_zero, Act.put, List.setIfInBounds_toArray, List.set_cons_zero, List.set_cons_succ]
      refine wpAnyH_take (i := 8) (v := ?_) rfl (by kernel_rfl) (by kernel_rfl) (by kernel_rfl) (fun _ _ _ h => h) (Or.inl ⟨by rfl, ?_⟩) hHeld ?_
      rotate_left
      · intro wq hSw
        replace hSw : Grew w0 wq := hSw
        go_simp
        try with_reducible rfl
      try simp only [List.getElem_toArray, List.getElem_cons_succ, List.getElem_cons_zero, Act.put, List.setIfInBounds_toArray, List.set_cons_zero, List.set_cons_succ]
      refine wpAnyH_done (by kernel_rfl) ?_ _
      try simp only [List.getElem_toArray, List.getElem_cons_succ, List.getElem_cons_zero, Act.put, List.setIfInBounds_toArray, List.set_cons_zero, List.set_cons_succ]
      go_wp2_with fail
      go_meet
      exact ⟨R2, hHeld⟩
  obtain ⟨RN, hgn⟩ := hcut
  obtain ⟨wa, ewn⟩ : ∃ x, x = wc := ⟨_, rfl⟩
  obtain ⟨va, evn⟩ : ∃ x, x = u4 := ⟨_, rfl⟩
  subst ewn
  subst evn
  have R := RN
  have hg := hgn
  clear RN hgn
  go_upto_region 4 with fail
  go_cut [4] (fun v wx => Hid (Row wx w0.heap.size v (([f.op, 1, 6, 0] ++ putL f.xid 4 true) ++ [0, 0, 0, 0] ++ putL f.ci 4 true ++ putL f.yi 4 true)) ∧ Grew w0 wx)
  case first =>
    replace R := Lib.hid (R.out.grew ((Grew.refl wa).drew1))
    have hst := hg.drew1
    refine wp_region_held_drew (S := fun w' => Grew w0 w') (by kernel_rfl) (by exact hst) (fun hHeld => ?_)
    replace hHeld : Grew w0 wa.drew := hHeld
    generalize wa.drew = wq8 at *
    refine wpAnyH_take (i := 0) (v := ?_) rfl (by kernel_rfl) (by kernel_rfl) (by kernel_rfl) (fun _ _ _ h => h) (Or.inl ⟨by rfl, ?_⟩) hHeld ?_
    rotate_left
    · intro wq hSw
      replace hSw : Grew w0 wq := hSw
      go_simp
      try with_reducible rfl
    try simp only [List.getElem_toArray, List.getElem_cons_succ, List.getElem_cons_zero, Act.put, List.setIfInBounds_toArray, List.set_cons_zero, List.set_cons_succ]
    refine wpAnyH_take (i := 3) (v := ?_) rfl (by kernel_rfl) (by kernel_rfl) (by kernel_rfl) (fun _ _ _ h => h) (Or.inl ⟨by rfl, ?_⟩) hHeld ?_
    rotate_left
    · intro wq hSw
      replace hSw : Grew w0 wq := hSw
      go_simp
      try with_reducible rfl
    try simp only [List.getElem_toArray, List.getElem_cons_succ, List.getElem_cons_zero, Act.put, List.setIfInBounds_toArray, List.set_cons_zero, List.set_cons_succ]
    refine wpAnyH_take (i := 4) (v := ?_) rfl (by kernel_rfl) (by kernel_rfl) (by kernel_rfl) (fun _ _ _ h => h) (Or.inl ⟨by rfl, ?_⟩) hHeld ?_
    rotate_left
    · intro wq hSw
      replace hSw : Grew w0 wq := hSw
      have y2 := (HB.out.grew hSw).cell 2
      go_simp
      try with_reducible rfl
    try simp only [List.getElem_toArray, List.getElem_cons_succ, List.getElem_cons_zero, Act.put, List.setIfInBounds_toArray, List.set_cons_zero, List.set_cons_succ]
    refine wpAnyH_take (i := 7) (v := ?_) rfl (by kernel_rfl) (by kernel_rfl) (by kernel_rfl) (fun _ _ _ h => h) (Or.inl ⟨by rfl, ?_⟩) hHeld ?_
    rotate_left
    · intro wq hSw
      replace hSw : Grew w0 wq := hSw
      go_simp
      try with_reducible rfl
    try simp only [List.getElem_toArray, List.getElem_cons_succ, List.getElem_cons_zero, Act.put, List.setIfInBounds_toArray, List.set_cons_zero, List.set_cons_succ]
    refine wpAnyH_take (i := 8) (v := ?_) rfl (by kernel_rfl) (by kernel_rfl) (by kernel_rfl) (fun _ _ _ h => h) (Or.inl ⟨by rfl, ?_⟩) hHeld ?_
    rotate_left
    · intro wq hSw
      replace hSw : Grew w0 wq := hSw
      have y3 := (HB.out.grew hSw).cell 3
      go_simp
      try with_reducible rfl
    try simp only [List.getElem_toArray, List.getElem_cons_succ, List.getElem_cons_zero, Act.put, List.setIfInBounds_toArray, List.set_cons_zero, List.set_cons_succ]
    refine wpAnyH_ready (rs := [1]) (by kernel_rfl) (by simp) ?_
    refine AllReadyH.cons rfl (fun K hK => ?_) AllReadyH.nil
    go_simp
    have H0 : Hid (Buf (wq8.alloc (.cells #[.int .u8 0, .int .u8 0, .int .u8 0, .int .u8 0] 5)) (.slice (some ⟨wq8.heap.size, 0, none⟩) 4 4) [0, 0, 0, 0]) := Lib.hid ((Row.lit wq8 wq8.heap.size (Nat.le_refl _) #[.int .u8 0, .int .u8 0, .int .u8 0, .int .u8 0] [0, 0, 0, 0] rfl (by unfold maxLen; simp) _ rfl 4 rfl).buf (zeros_ok 4))
    have gk9 : Grew wq8 (wq8.alloc (.cells #[.int .u8 0, .int .u8 0, .int .u8 0, .int .u8 0] 5)) := (Grew.refl _).alloc _
    replace R := Lib.hid (R.out.grew gk9)
    generalize (wq8.alloc (.cells #[.int .u8 0, .int .u8 0, .int .u8 0, .int .u8 0] 5)) = wk9 at *
    generalize wq8.heap.size = L0 at *
    refine hK.out _ _ (hHeld.trans gk9) (fun hHeld => ?_)
    clear hK K
    try simp only [List.getElem_toArray, List.getElem_cons_succ, List.getElem_cons_zero, Act.put, List.setIfInBounds_toArray, List.set_cons_zero, List.set_cons_succ]
    refine wpAnyH_ready (rs := [2]) (by kernel_rfl) (by simp) ?_
    refine AllReadyH.cons rfl (fun K hK => ?_) AllReadyH.nil
    refine step_append_t rfl (.tmp 40) (.tmp 41) rfl hHeld R.out H0.out (by rfl) (by rfl) (by have := HX6.out; simp only [List.length_append, putB_len, List.length_cons, List.length_nil, List.length_replicate]; omega) ?_
    intro vR2 wk10 R2 gk10
    clear R
    refine hK.out _ _ (gk10) (fun hHeld => ?_)
    clear hK K
    try simp only [List.getElem_toArray, List.getElem_cons_succ, List.getElem_cons_zero, Act.put, List.setIfInBounds_toArray, List.set_cons_zero, List.set_cons_succ]
    refine wpAnyH_ready (rs := [5]) (by kernel_rfl) (by simp) ?_
    refine AllReadyH.cons rfl (fun K hK => ?_) AllReadyH.nil
    go_simp
    refine (refFour_c (f.ci) HNc.out wk10).mono ?_
    rintro e wk11 ⟨pc, cc, rfl, -, Hc, gk11⟩
    replace Hc := Lib.hid Hc
    replace R2 := Lib.hid (R2.out.grew gk11)
    refine hK.out _ _ (hHeld.trans gk11) (fun hHeld => ?_)
    clear hK K
    try simp only [List.getElem_toArray, List.getElem_cons_succ, List.getElem_cons_zero, Act.put, List.setIfInBounds_toArray, List.set_cons_zero, List.set_cons_succ]
    refine wpAnyH_ready (rs := [6]) (by kernel_rfl) (by simp) ?_
    refine AllReadyH.cons rfl (fun K hK => ?_) AllReadyH.nil
    refine step_append_t rfl (.tmp 42) (.tmp 45) rfl hHeld R2.out Hc.out (by rfl) (by rfl) (by have := HX6.out; simp only [List.length_append, putB_len, List.length_cons, List.length_nil, List.length_replicate]; omega) ?_
    intro vR3 wk12 R3 gk12
    clear R2
    refine hK.out _ _ (gk12) (fun hHeld => ?_)
    clear hK K
    try simp only [List.getElem_toArray, List.getElem_cons_succ, List.getElem_cons_zero, Act.put, List.setIfInBounds_toArray, List.set_cons_zero, List.set_cons_succ]
    refine wpAnyH_ready (rs := [9]) (by kernel_rfl) (by simp) ?_
    refine AllReadyH.cons rfl (fun K hK => ?_) AllReadyH.nil
    go_simp
    refine (refFour_c (f.yi) HNd.out wk12).mono ?_
    rintro e wk13 ⟨pd, cd, rfl, -, Hd, gk13⟩
    replace Hd := Lib.hid Hd
    replace R3 := Lib.hid (R3.out.grew gk13)
    refine hK.out _ _ (hHeld.trans gk13) (fun hHeld => ?_)
    clear hK K
    try simp only [List.getElem_toArray, List.getElem_cons_succ, List.getElem_cons_zero, Act.put, List.setIfInBounds_toArray, List.set_cons_zero, List.set_cons_succ]
    refine wpAnyH_ready (rs := [10]) (by kernel_rfl) (by simp) ?_
    refine AllReadyH.cons rfl (fun K hK => ?_) AllReadyH.nil
    refine step_append_t rfl (.tmp 46) (.tmp 49) rfl hHeld R3.out Hd.out (by rfl) (by rfl) (by have := HX6.out; simp only [List.length_append, putB_len, List.length_cons, List.length_nil, List.length_replicate]; omega) ?_
    intro vR4 wk14 R4 gk14
    clear R3
    refine hK.out _ _ (gk14) (fun hHeld => ?_)
    clear hK K
    try simp only [List.getElem_toArray, List.getElem_cons_succ, List.getElem_cons_zero, Act.put, List.setIfInBounds_toArray, List.set_cons_zero, List.set_cons_succ]
    refine wpAnyH_take (i := 11) (v := ?_) rfl (by kernel_rfl) (by kernel_rfl) (by kernel_rfl) (fun _ _ _ h => h) (Or.inl ⟨by rfl, ?_⟩) hHeld ?_
    rotate_left
    · intro wq hSw
      replace hSw : Grew w0 wq := hSw
      go_simp
      try with_reducible rfl
    try simp only [List.getElem_toArray, List.getElem_cons_succ, List.getElem_cons_zero, Act.put, List.setIfInBounds_toArray, List.set_cons_zero, List.set_cons_succ]
    refine wpAnyH_done (by kernel_rfl) ?_ _
    try simp only [List.getElem_toArray, List.getElem_cons_succ, List.getElem_cons_zero, Act.put, List.setIfInBounds_toArray, List.set_cons_zero, List.set_cons_succ]
    go_wp2_with fail
    go_meet
    exact ⟨R4, hHeld⟩
  obtain ⟨RN, hgn⟩ := hcut
  obtain ⟨wa, ewn⟩ : ∃ x, x = wc := ⟨_, rfl⟩
  obtain ⟨va, evn⟩ : ∃ x, x = u4 := ⟨_, rfl⟩
  subst ewn
  subst evn
  have R := RN
  have hg := hgn
  clear RN hgn
  go_upto_region 5 with fail
  go_cut [4] (fun v wx => Hid (Row wx w0.heap.size v ((([f.op, 1, 6, 0] ++ putL f.xid 4 true) ++ [0, 0, 0, 0] ++ putL f.ci 4 true ++ putL f.yi 4 true) ++ List.replicate 8 0 ++ f.x)) ∧ Grew w0 wx)
  case first =>
    replace R := Lib.hid (R.out.grew ((Grew.refl wa).drew1))
    have hst := hg.drew1
    refine wp_region_held_drew (S := fun w' => Grew w0 w') (by kernel_rfl) (by exact hst) (fun hHeld => ?_)
    replace hHeld : Grew w0 wa.drew := hHeld
    generalize wa.drew = wq15 at *
    refine wpAnyH_take (i := 0) (v := ?_) rfl (by kernel_rfl) (by kernel_rfl) (by kernel_rfl) (fun _ _ _ h => h) (Or.inl ⟨by rfl, ?_⟩) hHeld ?_
    rotate_left
    · intro wq hSw
      replace hSw : Grew w0 wq := hSw
      go_simp
      try with_reducible rfl
    try simp only [List.getElem_toArray, List.getElem_cons_succ, List.getElem_cons_zero, Act.put, List.setIfInBounds_toArray, List.set_cons_zero, List.set_cons_succ]
    refine wpAnyH_take (i := 2) (v := ?_) rfl (by kernel_rfl) (by kernel_rfl) (by kernel_rfl) (fun _ _ _ h => h) (Or.inl ⟨by rfl, ?_⟩) hHeld ?_
    rotate_left
    · intro wq hSw
      replace hSw : Grew w0 wq := hSw
      go_simp
      try with_reducible rfl
    try simp only [List.getElem_toArray, List.getElem_cons_succ, List.getElem_cons_zero, Act.put, List.setIfInBounds_toArray, List.set_cons_zero, List.set_cons_succ]
    refine wpAnyH_take (i := 3) (v := ?_) rfl (by kernel_rfl) (by kernel_rfl) (by kernel_rfl) (fun _ _ _ h => h) (Or.inl ⟨by rfl, ?_⟩) hHeld ?_
    rotate_left
    · intro wq hSw
      replace hSw : Grew w0 wq := hSw
      have y4 := (HB.out.grew hSw).cell 4
      go_simp
      try with_reducible rfl
    try simp only [List.getElem_toArray, List.getElem_cons_succ, List.getElem_cons_zero, Act.put, List.setIfInBounds_toArray, List.set_cons_zero, List.set_cons_succ]
    refine wpAnyH_ready (rs := [1]) (by kernel_rfl) (by simp) ?_
    refine AllReadyH.cons rfl (fun K hK => ?_) AllReadyH.nil
    refine step_zeros_t rfl (.tmp 51) (.const (.int .i64 8)) rfl hHeld 8 R.out (by rfl) (by rfl) (by have := HX6.out; simp only [List.length_append, putB_len, List.length_cons, List.length_nil, List.length_replicate]; omega) ?_
    intro vR2 wk16 R2 gk16 gb
    clear R
    clear gb
    refine hK.out _ _ (gk16) (fun hHeld => ?_)
    clear hK K
    try simp only [List.getElem_toArray, List.getElem_cons_succ, List.getElem_cons_zero, Act.put, List.setIfInBounds_toArray, List.set_cons_zero, List.set_cons_succ]
    refine wpAnyH_ready (rs := [4]) (by kernel_rfl) (by simp) ?_
    refine AllReadyH.cons rfl (fun K hK => ?_) AllReadyH.nil
    refine step_append_t rfl (.tmp 52) (.tmp 54) rfl hHeld R2.out (H1.out.grew hHeld) (by rfl) (by rfl) (by have := HX6.out; simp only [List.length_append, putB_len, List.length_cons, List.length_nil, List.length_replicate]; omega) ?_
    intro vR3 wk17 R3 gk17
    clear R2
    refine hK.out _ _ (gk17) (fun hHeld => ?_)
    clear hK K
    try simp only [List.getElem_toArray, List.getElem_cons_succ, List.getElem_cons_zero, Act.put, List.setIfInBounds_toArray, List.set_cons_zero, List.set_cons_succ]
    refine wpAnyH_take (i := 5) (v := ?_) rfl (by kernel_rfl) (by kernel_rfl) (by kernel_rfl) (fun _ _ _ h => h) (Or.inl ⟨by rfl, ?_⟩) hHeld ?_
    rotate_left
    · intro wq hSw
      replace hSw : Grew w0 wq := hSw
      go_simp
      try with_reducible rfl
    try simp only [List.getElem_toArray, List.getElem_cons_succ, List.getElem_cons_zero, Act.put, List.setIfInBounds_toArray, List.set_cons_zero, List.set_cons_succ]
    refine wpAnyH_done (by kernel_rfl) ?_ _
    try simp only [List.getElem_toArray, List.getElem_cons_succ, List.getElem_cons_zero, Act.put, List.setIfInBounds_toArray, List.set_cons_zero, List.set_cons_succ]
    go_wp2_with fail
    go_meet
    exact ⟨R3, hHeld⟩
  obtain ⟨RN, hgn⟩ := hcut
  obtain ⟨wa, ewn⟩ : ∃ x, x = wc := ⟨_, rfl⟩
  obtain ⟨va, evn⟩ : ∃ x, x = u4 := ⟨_, rfl⟩
  subst ewn
  subst evn
  have R := RN
  have hg := hgn
  clear RN hgn
  go_upto_region 6 with fail
  go_cut [4] (fun v wx => Hid (Row wx w0.heap.size v (((([f.op, 1, 6, 0] ++ putL f.xid 4 true) ++ [0, 0, 0, 0] ++ putL f.ci 4 true ++ putL f.yi 4 true) ++ List.replicate 8 0 ++ f.x) ++ List.replicate 202 0 ++ [99, 130, 83, 99, 53, 1, f.ty])) ∧ Grew w0 wx)
  case first =>
    replace R := Lib.hid (R.out.grew ((Grew.refl wa).drew1))
    have hst := hg.drew1
    refine wp_region_held_drew (S := fun w' => Grew w0 w') (by kernel_rfl) (by exact hst) (fun hHeld => ?_)
    replace hHeld : Grew w0 wa.drew := hHeld
    generalize wa.drew = wq18 at *
    refine wpAnyH_take (i := 0) (v := ?_) rfl (by kernel_rfl) (by kernel_rfl) (by kernel_rfl) (fun _ _ _ h => h) (Or.inl ⟨by rfl, ?_⟩) hHeld ?_
    rotate_left
    · intro wq hSw
      replace hSw : Grew w0 wq := hSw
      go_simp
      try with_reducible rfl
    try simp only [List.getElem_toArray, List.getElem_cons_succ, List.getElem_cons_zero, Act.put, List.setIfInBounds_toArray, List.set_cons_zero, List.set_cons_succ]
    refine wpAnyH_take (i := 2) (v := ?_) rfl (by kernel_rfl) (by kernel_rfl) (by kernel_rfl) (fun _ _ _ h => h) (Or.inl ⟨by rfl, ?_⟩) hHeld ?_
    rotate_left
    · intro wq hSw
      replace hSw : Grew w0 wq := hSw
      go_simp
      try with_reducible rfl
    try simp only [List.getElem_toArray, List.getElem_cons_succ, List.getElem_cons_zero, Act.put, List.setIfInBounds_toArray, List.set_cons_zero, List.set_cons_succ]
    refine wpAnyH_take (i := 3) (v := ?_) rfl (by kernel_rfl) (by kernel_rfl) (by kernel_rfl) (fun _ _ _ h => h) (Or.inl ⟨by rfl, ?_⟩) hHeld ?_
    rotate_left
    · intro wq hSw
      replace hSw : Grew w0 wq := hSw
      have y5 := (HB.out.grew hSw).cell 5
      go_simp
      try with_reducible rfl
    try simp only [List.getElem_toArray, List.getElem_cons_succ, List.getElem_cons_zero, Act.put, List.setIfInBounds_toArray, List.set_cons_zero, List.set_cons_succ]
    refine wpAnyH_take (i := 4) (v := ?_) rfl (by kernel_rfl) (by kernel_rfl) (by kernel_rfl) (fun _ _ _ h => h) (Or.inl ⟨by rfl, ?_⟩) hHeld ?_
    rotate_left
    · intro wq hSw
      replace hSw : Grew w0 wq := hSw
      have ew := EWt.out
      go_simp
      try with_reducible rfl
    try simp only [List.getElem_toArray, List.getElem_cons_succ, List.getElem_cons_zero, Act.put, List.setIfInBounds_toArray, List.set_cons_zero, List.set_cons_succ]
    refine wpAnyH_ready (rs := [1, 5]) (by kernel_rfl) (by simp) ?_
    refine AllReadyH.cons rfl (fun K hK => ?_) (AllReadyH.cons rfl (fun K hK => ?_) AllReadyH.nil)
    · refine step_zeros_t rfl (.tmp 56) (.const (.int .i64 202)) rfl hHeld 202 R.out (by rfl) (by rfl) (by have := HX6.out; simp only [List.length_append, putB_len, List.length_cons, List.length_nil, List.length_replicate]; omega) ?_
      intro vR2 wk19 R2 gk19 gb
      clear R
      clear gb
      refine hK.out _ _ (gk19) (fun hHeld => ?_)
      clear hK K
      try simp only [List.getElem_toArray, List.getElem_cons_succ, List.getElem_cons_zero, Act.put, List.setIfInBounds_toArray, List.set_cons_zero, List.set_cons_succ]
      refine wpAnyH_ready (rs := [5]) (by kernel_rfl) (by simp) ?_
      refine AllReadyH.cons rfl (fun K hK => ?_) AllReadyH.nil
      go_simp
      have H0 : Hid (Buf (wk19.alloc (.cells #[.int .u8 99, .int .u8 130, .int .u8 83, .int .u8 99, .int .u8 53, .int .u8 1, .int .u8 f.ty] 5)) (.slice (some ⟨wk19.heap.size, 0, none⟩) 7 7) [99, 130, 83, 99, 53, 1, f.ty]) := Lib.hid ((Row.lit wk19 wk19.heap.size (Nat.le_refl _) #[.int .u8 99, .int .u8 130, .int .u8 83, .int .u8 99, .int .u8 53, .int .u8 1, .int .u8 f.ty] [99, 130, 83, 99, 53, 1, f.ty] rfl (by unfold maxLen; simp) _ rfl 7 rfl).buf HOK7.out)
      have gk20 : Grew wk19 (wk19.alloc (.cells #[.int .u8 99, .int .u8 130, .int .u8 83, .int .u8 99, .int .u8 53, .int .u8 1, .int .u8 f.ty] 5)) := (Grew.refl _).alloc _
      replace R2 := Lib.hid (R2.out.grew gk20)
      generalize (wk19.alloc (.cells #[.int .u8 99, .int .u8 130, .int .u8 83, .int .u8 99, .int .u8 53, .int .u8 1, .int .u8 f.ty] 5)) = wk20 at *
      generalize wk19.heap.size = L0 at *
      refine hK.out _ _ (hHeld.trans gk20) (fun hHeld => ?_)
      clear hK K
      try simp only [List.getElem_toArray, List.getElem_cons_succ, List.getElem_cons_zero, Act.put, List.setIfInBounds_toArray, List.set_cons_zero, List.set_cons_succ]
      refine wpAnyH_ready (rs := [6]) (by kernel_rfl) (by simp) ?_
      refine AllReadyH.cons rfl (fun K hK => ?_) AllReadyH.nil
      refine step_append_t rfl (.tmp 57) (.tmp 61) rfl hHeld R2.out H0.out (by rfl) (by rfl) (by have := HX6.out; simp only [List.length_append, putB_len, List.length_cons, List.length_nil, List.length_replicate]; omega) ?_
      intro vR3 wk21 R3 gk21
      clear R2
      refine hK.out _ _ (gk21) (fun hHeld => ?_)
      clear hK K
      try simp only [List.getElem_toArray, List.getElem_cons_succ, List.getElem_cons_zero, Act.put, List.setIfInBounds_toArray, List.set_cons_zero, List.set_cons_succ]
      refine wpAnyH_take (i := 7) (v := ?_) rfl (by kernel_rfl) (by kernel_rfl) (by kernel_rfl) (fun _ _ _ h => h) (Or.inl ⟨by rfl, ?_⟩) hHeld ?_
      rotate_left
      · intro wq hSw
        replace hSw : Grew w0 wq := hSw
        go_simp
        try with_reducible rfl
      try simp only [List.getElem_toArray, List.getElem_cons_succ, List.getElem_cons_zero, Act.put, List.setIfInBounds_toArray, List.set_cons_zero, List.set_cons_succ]
      refine wpAnyH_done (by kernel_rfl) ?_ _
      try simp only [List.getElem_toArray, List.getElem_cons_succ, List.getElem_cons_zero, Act.put, List.setIfInBounds_toArray, List.set_cons_zero, List.set_cons_succ]
      go_wp2_with fail
      go_meet
      exact ⟨R3, hHeld⟩
    · go_simp
      have H0 : Hid (Buf (wq18.alloc (.cells #[.int .u8 99, .int .u8 130, .int .u8 83, .int .u8 99, .int .u8 53, .int .u8 1, .int .u8 f.ty] 5)) (.slice (some ⟨wq18.heap.size, 0, none⟩) 7 7) [99, 130, 83, 99, 53, 1, f.ty]) := Lib.hid ((Row.lit wq18 wq18.heap.size (Nat.le_refl _) #[.int .u8 99, .int .u8 130, .int .u8 83, .int .u8 99, .int .u8 53, .int .u8 1, .int .u8 f.ty] [99, 130, 83, 99, 53, 1, f.ty] rfl (by unfold maxLen; simp) _ rfl 7 rfl).buf HOK7.out)
      have HO0 : Hid (([99, 130, 83, 99, 53, 1, f.ty] : List Int) ≠ [] → Off va.ownBlock (.slice (some ⟨wq18.heap.size, 0, none⟩) 7 7)) := Lib.hid (fun _ q hq hk => by have h1 := R.out.lt q hq; simp only [Value.ownBlock, Option.some.injEq] at hk; omega)
      have gk22 : Grew wq18 (wq18.alloc (.cells #[.int .u8 99, .int .u8 130, .int .u8 83, .int .u8 99, .int .u8 53, .int .u8 1, .int .u8 f.ty] 5)) := (Grew.refl _).alloc _
      replace R := Lib.hid (R.out.grew gk22)
      generalize (wq18.alloc (.cells #[.int .u8 99, .int .u8 130, .int .u8 83, .int .u8 99, .int .u8 53, .int .u8 1, .int .u8 f.ty] 5)) = wk22 at *
      generalize wq18.heap.size = L0 at *
      refine hK.out _ _ (hHeld.trans gk22) (fun hHeld => ?_)
      clear hK K
      try simp only [List.getElem_toArray, List.getElem_cons_succ, List.getElem_cons_zero, Act.put, List.setIfInBounds_toArray, List.set_cons_zero, List.set_cons_succ]
      refine wpAnyH_ready (rs := [1]) (by kernel_rfl) (by simp) ?_
      refine AllReadyH.cons rfl (fun K hK => ?_) AllReadyH.nil
      refine step_zeros_t rfl (.tmp 56) (.const (.int .i64 202)) rfl hHeld 202 R.out (by rfl) (by rfl) (by have := HX6.out; simp only [List.length_append, putB_len, List.length_cons, List.length_nil, List.length_replicate]; omega) ?_
      intro vR2 wk23 R2 gk23 gb
      clear R
      replace H0 := Lib.hid (H0.out.grownBy gb HO0.out)
      clear HO0
      clear gb
      refine hK.out _ _ (gk23) (fun hHeld => ?_)
      clear hK K
      try simp only [List.getElem_toArray, List.getElem_cons_succ, List.getElem_cons_zero, Act.put, List.setIfInBounds_toArray, List.set_cons_zero, List.set_cons_succ]
      refine wpAnyH_ready (rs := [6]) (by kernel_rfl) (by simp) ?_
      refine AllReadyH.cons rfl (fun K hK => ?_) AllReadyH.nil
      refine step_append_t rfl (.tmp 57) (.tmp 61) rfl hHeld R2.out H0.out (by rfl) (by rfl) (by have := HX6.out; simp only [List.length_append, putB_len, List.length_cons, List.length_nil, List.length_replicate]; omega) ?_
      intro vR3 wk24 R3 gk24
      clear R2
      refine hK.out _ _ (gk24) (fun hHeld => ?_)
      clear hK K
      try simp only [List.getElem_toArray, List.getElem_cons_succ, List.getElem_cons_zero, Act.put, List.setIfInBounds_toArray, List.set_cons_zero, List.set_cons_succ]
      refine wpAnyH_take (i := 7) (v := ?_) rfl (by kernel_rfl) (by kernel_rfl) (by kernel_rfl) (fun _ _ _ h => h) (Or.inl ⟨by rfl, ?_⟩) hHeld ?_
      rotate_left
      · intro wq hSw
        replace hSw : Grew w0 wq := hSw
        go_simp
        try with_reducible rfl
      try simp only [List.getElem_toArray, List.getElem_cons_succ, List.getElem_cons_zero, Act.put, List.setIfInBounds_toArray, List.set_cons_zero, List.set_cons_succ]
      refine wpAnyH_done (by kernel_rfl) ?_ _
      try simp only [List.getElem_toArray, List.getElem_cons_succ, List.getElem_cons_zero, Act.put, List.setIfInBounds_toArray, List.set_cons_zero, List.set_cons_succ]
      go_wp2_with fail
      go_meet
      exact ⟨R3, hHeld⟩
  obtain ⟨RN, hgn⟩ := hcut
  obtain ⟨wa, ewn⟩ : ∃ x, x = wc := ⟨_, rfl⟩
  obtain ⟨va, evn⟩ : ∃ x, x = u4 := ⟨_, rfl⟩
  subst ewn
  subst evn
  have R := RN
  have hg := hgn
  clear RN hgn
  go_upto_region 8 with fail
  have hK0 : Blk (wa.alloc (.cells #[.int .u8 50, .int .u8 54, .int .u8 51, .int .u8 1, .int .u8 3, .int .u8 6] 5)) wa.heap.size #[.int .u8 50, .int .u8 54, .int .u8 51, .int .u8 1, .int .u8 3, .int .u8 6] 5 := Blk.new _ _ _ _ rfl
  have gK : Grew wa (wa.alloc (.cells #[.int .u8 50, .int .u8 54, .int .u8 51, .int .u8 1, .int .u8 3, .int .u8 6] 5)) := (Grew.refl _).alloc _
  have hRl := R.out.lt
  have hofK : some wa.heap.size ≠ va.ownBlock := fun e => by have := hRl _ e.symm; omega
  replace R := Lib.hid (R.out.grew gK)
  have hg1 := hg.trans gK
  clear hg
  generalize (wa.alloc (.cells #[.int .u8 50, .int .u8 54, .int .u8 51, .int .u8 1, .int .u8 3, .int .u8 6] 5)) = wb at *
  generalize wa.heap.size = KB at *
  have y6 := (HB.out.grew hg1).cell 6
  have y7 := (HB.out.grew hg1).cell 7
  have y8 := (HB.out.grew hg1).cell 8
  have y9 := (HB.out.grew hg1).cell 9
  have y10 := (HB.out.grew hg1).cell 10
  have y11 := (HB.out.grew hg1).cell 11
  go_upto_region 9 with fail
  have hV0 : Blk (wb.alloc (.cells #[.int .u32 f.wa, .int .u32 f.se, .int .u32 f.le, .int .u32 f.ma, .int .u32 f.ro, .int .u32 f.dn] 24)) wb.heap.size #[.int .u32 f.wa, .int .u32 f.se, .int .u32 f.le, .int .u32 f.ma, .int .u32 f.ro, .int .u32 f.dn] 24 := Blk.new _ _ _ _ rfl
  have gV : Grew wb (wb.alloc (.cells #[.int .u32 f.wa, .int .u32 f.se, .int .u32 f.le, .int .u32 f.ma, .int .u32 f.ro, .int .u32 f.dn] 24)) := (Grew.refl _).alloc _
  have hofV : some wb.heap.size ≠ va.ownBlock := fun e => by have := R.out.lt _ e.symm; omega
  replace R := Lib.hid (R.out.grew gV)
  have hg2 := hg1.trans gV
  have HKB := Lib.hid (hK0.grew gV)
  clear hg1 hK0 hRl y6 y7 y8 y9 y10 y11
  generalize (wb.alloc (.cells #[.int .u32 f.wa, .int .u32 f.se, .int .u32 f.le, .int .u32 f.ma, .int .u32 f.ro, .int .u32 f.dn] 24)) = wd at *
  generalize wb.heap.size = VB at *
  have HVB := Lib.hid hV0
  have HOF0 := Lib.hid (show some KB ≠ va.ownBlock ∧ some VB ≠ va.ownBlock from ⟨hofK, hofV⟩)
  clear hV0 hofK hofV gK gV
  have HR0 : Hid (Row wd w0.heap.size va ((((([f.op, 1, 6, 0] ++ putL f.xid 4 true) ++ [0, 0, 0, 0] ++ putL f.ci 4 true ++ putL f.yi 4 true) ++ List.replicate 8 0 ++ f.x) ++ List.replicate 202 0 ++ [99, 130, 83, 99, 53, 1, f.ty]) ++ osN f 0)) := Lib.hid (by rw [show osN f 0 = [] from rfl, List.append_nil]; exact R.out)
  clear R
  go_wp2_with fail
  go_loopw [4, 7] (fun v i wr => ∃ (k : Nat), k ≤ 6 ∧ i = .int .i64 k ∧ Hid (Row wr w0.heap.size v ((((([f.op, 1, 6, 0] ++ putL f.xid 4 true) ++ [0, 0, 0, 0] ++ putL f.ci 4 true ++ putL f.yi 4 true) ++ List.replicate 8 0 ++ f.x) ++ List.replicate 202 0 ++ [99, 130, 83, 99, 53, 1, f.ty]) ++ osN f k)) ∧ Hid (Blk wr KB #[.int .u8 50, .int .u8 54, .int .u8 51, .int .u8 1, .int .u8 3, .int .u8 6] 5) ∧ Hid (Blk wr VB #[.int .u32 f.wa, .int .u32 f.se, .int .u32 f.le, .int .u32 f.ma, .int .u32 f.ro, .int .u32 f.dn] 24) ∧ Hid (some KB ≠ v.ownBlock ∧ some VB ≠ v.ownBlock) ∧ Grew w0 wr) (fun _ i _ => (6 - intOf i).toNat)
  case atStart => exact ⟨0, by omega, rfl, HR0, HKB, HVB, HOF0, hg2⟩
  case round =>
    obtain ⟨k, hk, rfl, R, HKb, HVb, HOF, hG⟩ := hrel
    clear HR0 HKB HVB HOF0 hg2
    have HKB := HKb
    have HVB := HVb
    clear HKb HVb
    by_cases hlt0 : k < 6
    · have hlt : (k : Int) < 6 := by omega
      have HKR := Lib.hid (kdN_lt k hlt0)
      have HVR := Lib.hid (HVS.out k hlt0)
      have HLN := Lib.hid (osN_room HX6.out hlt0)
      go_upto_region 12 with fail
      replace R := Lib.hid (R.out.grew ((Grew.refl wr).drew1))
      refine wp_region_held_drew (S := fun w' => Grew w0 w' ∧ Blk w' KB #[.int .u8 50, .int .u8 54, .int .u8 51, .int .u8 1, .int .u8 3, .int .u8 6] 5 ∧ Blk w' VB #[.int .u32 f.wa, .int .u32 f.se, .int .u32 f.le, .int .u32 f.ma, .int .u32 f.ro, .int .u32 f.dn] 24) (by kernel_rfl) (by exact ⟨hG.drew1, HKB.out.drew, HVB.out.drew⟩) (fun hHeld => ?_)
      replace hHeld : Grew w0 wr.drew ∧ Blk wr.drew KB #[.int .u8 50, .int .u8 54, .int .u8 51, .int .u8 1, .int .u8 3, .int .u8 6] 5 ∧ Blk wr.drew VB #[.int .u32 f.wa, .int .u32 f.se, .int .u32 f.le, .int .u32 f.ma, .int .u32 f.ro, .int .u32 f.dn] 24 := hHeld
      generalize wr.drew = wdr at *
      refine wpAnyH_take (i := 0) (v := ?_) rfl (by kernel_rfl) (by kernel_rfl) (by kernel_rfl) (fun _ _ _ h => h) (Or.inl ⟨by rfl, ?_⟩) hHeld ?_
      rotate_left
      · intro wq hSw
        replace hSw : Grew w0 wq ∧ Blk wq KB #[.int .u8 50, .int .u8 54, .int .u8 51, .int .u8 1, .int .u8 3, .int .u8 6] 5 ∧ Blk wq VB #[.int .u32 f.wa, .int .u32 f.se, .int .u32 f.le, .int .u32 f.ma, .int .u32 f.ro, .int .u32 f.dn] 24 := hSw
        go_simp
        try with_reducible rfl
      try simp only [List.getElem_toArray, List.getElem_cons_succ, List.getElem_cons_zero, Act.put, List.setIfInBounds_toArray, List.set_cons_zero, List.set_cons_succ]
      refine wpAnyH_take (i := 1) (v := ?_) rfl (by kernel_rfl) (by kernel_rfl) (by kernel_rfl) (fun _ _ _ h => h) (Or.inl ⟨by rfl, ?_⟩) hHeld ?_
      rotate_left
      · intro wq hSw
        replace hSw : Grew w0 wq ∧ Blk wq KB #[.int .u8 50, .int .u8 54, .int .u8 51, .int .u8 1, .int .u8 3, .int .u8 6] 5 ∧ Blk wq VB #[.int .u32 f.wa, .int .u32 f.se, .int .u32 f.le, .int .u32 f.ma, .int .u32 f.ro, .int .u32 f.dn] 24 := hSw
        go_simp
        try with_reducible rfl
      try simp only [List.getElem_toArray, List.getElem_cons_succ, List.getElem_cons_zero, Act.put, List.setIfInBounds_toArray, List.set_cons_zero, List.set_cons_succ]
      refine wpAnyH_take (i := 2) (v := ?_) rfl (by kernel_rfl) (by kernel_rfl) (by kernel_rfl) (fun _ _ _ h => h) (Or.inl ⟨by rfl, ?_⟩) hHeld ?_
      rotate_left
      · intro wq hSw
        replace hSw : Grew w0 wq ∧ Blk wq KB #[.int .u8 50, .int .u8 54, .int .u8 51, .int .u8 1, .int .u8 3, .int .u8 6] 5 ∧ Blk wq VB #[.int .u32 f.wa, .int .u32 f.se, .int .u32 f.le, .int .u32 f.ma, .int .u32 f.ro, .int .u32 f.dn] 24 := hSw
        go_simp
        try with_reducible rfl
      try simp only [List.getElem_toArray, List.getElem_cons_succ, List.getElem_cons_zero, Act.put, List.setIfInBounds_toArray, List.set_cons_zero, List.set_cons_succ]
      refine wpAnyH_take (i := 3) (v := ?_) rfl (by kernel_rfl) (by kernel_rfl) (by kernel_rfl) (fun _ _ _ h => h) (Or.inl ⟨by rfl, ?_⟩) hHeld ?_
      rotate_left
      · intro wq hSw
        replace hSw : Grew w0 wq ∧ Blk wq KB #[.int .u8 50, .int .u8 54, .int .u8 51, .int .u8 1, .int .u8 3, .int .u8 6] 5 ∧ Blk wq VB #[.int .u32 f.wa, .int .u32 f.se, .int .u32 f.le, .int .u32 f.ma, .int .u32 f.ro, .int .u32 f.dn] 24 := hSw
        have k6 := hlt
        go_simp
        try with_reducible rfl
      try simp only [List.getElem_toArray, List.getElem_cons_succ, List.getElem_cons_zero, Act.put, List.setIfInBounds_toArray, List.set_cons_zero, List.set_cons_succ]
      refine wpAnyH_take (i := 4) (v := ?_) rfl (by kernel_rfl) (by kernel_rfl) (by kernel_rfl) (fun _ _ _ h => h) (Or.inl ⟨by rfl, ?_⟩) hHeld ?_
      rotate_left
      · intro wq hSw
        replace hSw : Grew w0 wq ∧ Blk wq KB #[.int .u8 50, .int .u8 54, .int .u8 51, .int .u8 1, .int .u8 3, .int .u8 6] 5 ∧ Blk wq VB #[.int .u32 f.wa, .int .u32 f.se, .int .u32 f.le, .int .u32 f.ma, .int .u32 f.ro, .int .u32 f.dn] 24 := hSw
        have x0 := kdN_cell hSw.2.1 k hlt0
        go_simp
        try with_reducible rfl
      try simp only [List.getElem_toArray, List.getElem_cons_succ, List.getElem_cons_zero, Act.put, List.setIfInBounds_toArray, List.set_cons_zero, List.set_cons_succ]
      refine wpAnyH_take (i := 5) (v := ?_) rfl (by kernel_rfl) (by kernel_rfl) (by kernel_rfl) (fun _ _ _ h => h) (Or.inl ⟨by rfl, ?_⟩) hHeld ?_
      rotate_left
      · intro wq hSw
        replace hSw : Grew w0 wq ∧ Blk wq KB #[.int .u8 50, .int .u8 54, .int .u8 51, .int .u8 1, .int .u8 3, .int .u8 6] 5 ∧ Blk wq VB #[.int .u32 f.wa, .int .u32 f.se, .int .u32 f.le, .int .u32 f.ma, .int .u32 f.ro, .int .u32 f.dn] 24 := hSw
        go_simp
        try with_reducible rfl
      try simp only [List.getElem_toArray, List.getElem_cons_succ, List.getElem_cons_zero, Act.put, List.setIfInBounds_toArray, List.set_cons_zero, List.set_cons_succ]
      refine wpAnyH_take (i := 6) (v := ?_) rfl (by kernel_rfl) (by kernel_rfl) (by kernel_rfl) (fun _ _ _ h => h) (Or.inl ⟨by rfl, ?_⟩) hHeld ?_
      rotate_left
      · intro wq hSw
        replace hSw : Grew w0 wq ∧ Blk wq KB #[.int .u8 50, .int .u8 54, .int .u8 51, .int .u8 1, .int .u8 3, .int .u8 6] 5 ∧ Blk wq VB #[.int .u32 f.wa, .int .u32 f.se, .int .u32 f.le, .int .u32 f.ma, .int .u32 f.ro, .int .u32 f.dn] 24 := hSw
        go_simp
        try with_reducible rfl
      try simp only [List.getElem_toArray, List.getElem_cons_succ, List.getElem_cons_zero, Act.put, List.setIfInBounds_toArray, List.set_cons_zero, List.set_cons_succ]
      refine wpAnyH_take (i := 7) (v := ?_) rfl (by kernel_rfl) (by kernel_rfl) (by kernel_rfl) (fun _ _ _ h => h) (Or.inl ⟨by rfl, ?_⟩) hHeld ?_
      rotate_left
      · intro wq hSw
        replace hSw : Grew w0 wq ∧ Blk wq KB #[.int .u8 50, .int .u8 54, .int .u8 51, .int .u8 1, .int .u8 3, .int .u8 6] 5 ∧ Blk wq VB #[.int .u32 f.wa, .int .u32 f.se, .int .u32 f.le, .int .u32 f.ma, .int .u32 f.ro, .int .u32 f.dn] 24 := hSw
        have k6 := hlt
        go_simp
        try with_reducible rfl
      try simp only [List.getElem_toArray, List.getElem_cons_succ, List.getElem_cons_zero, Act.put, List.setIfInBounds_toArray, List.set_cons_zero, List.set_cons_succ]
      refine wpAnyH_take (i := 8) (v := ?_) rfl (by kernel_rfl) (by kernel_rfl) (by kernel_rfl) (fun _ _ _ h => h) (Or.inl ⟨by rfl, ?_⟩) hHeld ?_
      rotate_left
      · intro wq hSw
        replace hSw : Grew w0 wq ∧ Blk wq KB #[.int .u8 50, .int .u8 54, .int .u8 51, .int .u8 1, .int .u8 3, .int .u8 6] 5 ∧ Blk wq VB #[.int .u32 f.wa, .int .u32 f.se, .int .u32 f.le, .int .u32 f.ma, .int .u32 f.ro, .int .u32 f.dn] 24 := hSw
        have x1 := vlN_cell hSw.2.2 k hlt0
        go_simp
        try with_reducible rfl
      try simp only [List.getElem_toArray, List.getElem_cons_succ, List.getElem_cons_zero, Act.put, List.setIfInBounds_toArray, List.set_cons_zero, List.set_cons_succ]
      refine wpAnyH_ready (rs := [9]) (by kernel_rfl) (by simp) ?_
      refine AllReadyH.cons rfl (fun K hK => ?_) AllReadyH.nil
      go_simp
      refine (refOption_c (kdN k) (vlN f k) HKR.out HVR.out wdr).mono ?_
      rintro e wk25 ⟨uo, rfl, HU, gk25⟩
      replace HU := Lib.hid HU
      replace R := Lib.hid (R.out.grew gk25)
      refine hK.out _ _ (⟨hHeld.1.trans gk25, hHeld.2.1.grew gk25, hHeld.2.2.grew gk25⟩) (fun hHeld => ?_)
      clear hK K
      try simp only [List.getElem_toArray, List.getElem_cons_succ, List.getElem_cons_zero, Act.put, List.setIfInBounds_toArray, List.set_cons_zero, List.set_cons_succ]
      refine wpAnyH_ready (rs := [10]) (by kernel_rfl) (by simp) ?_
      refine AllReadyH.cons rfl (fun K hK => ?_) AllReadyH.nil
      refine step_append_at rfl (.tmp 83) (.tmp 92) rfl hHeld.1 R.out HU.out (by rfl) (by rfl) HLN.out ?_
      intro vn wk26 RN gk26 gb hat
      have hK2 := hHeld.2.1.grownBy gb HOF.out.1
      have hV2 := hHeld.2.2.grownBy gb HOF.out.2
      have HOF2 : Hid (some KB ≠ vn.ownBlock ∧ some VB ≠ vn.ownBlock) := Lib.hid (by rcases hat with h | h <;> rw [h]; exact HOF.out; exact ⟨fun e => by have := hHeld.2.1.lt; simp only [Option.some.injEq] at e; omega, fun e => by have := hHeld.2.2.lt; simp only [Option.some.injEq] at e; omega⟩)
      clear gb hat
      refine hK.out _ _ (⟨gk26, hK2, hV2⟩) (fun hHeld => ?_)
      clear hK K
      try simp only [List.getElem_toArray, List.getElem_cons_succ, List.getElem_cons_zero, Act.put, List.setIfInBounds_toArray, List.set_cons_zero, List.set_cons_succ]
      refine wpAnyH_take (i := 11) (v := ?_) rfl (by kernel_rfl) (by kernel_rfl) (by kernel_rfl) (fun _ _ _ h => h) (Or.inl ⟨by rfl, ?_⟩) hHeld ?_
      rotate_left
      · intro wq hSw
        replace hSw : Grew w0 wq ∧ Blk wq KB #[.int .u8 50, .int .u8 54, .int .u8 51, .int .u8 1, .int .u8 3, .int .u8 6] 5 ∧ Blk wq VB #[.int .u32 f.wa, .int .u32 f.se, .int .u32 f.le, .int .u32 f.ma, .int .u32 f.ro, .int .u32 f.dn] 24 := hSw
        go_simp
        try with_reducible rfl
      try simp only [List.getElem_toArray, List.getElem_cons_succ, List.getElem_cons_zero, Act.put, List.setIfInBounds_toArray, List.set_cons_zero, List.set_cons_succ]
      refine wpAnyH_done (by kernel_rfl) ?_ _
      try simp only [List.getElem_toArray, List.getElem_cons_succ, List.getElem_cons_zero, Act.put, List.setIfInBounds_toArray, List.set_cons_zero, List.set_cons_succ]
      go_wp2_with fail
      go_round
      case rel => exact ⟨k + 1, by omega, by go_num, Lib.hid (by have := RN.out; rw [List.append_assoc, ← osN_succ] at this; exact this), Lib.hid hHeld.2.1, Lib.hid hHeld.2.2, HOF2, hHeld.1⟩
      case measure => simp [intOf]; omega
    · obtain rfl : k = 6 := by omega
      have HR6 := R.out
      rw [show (((([f.op, 1, 6, 0] ++ putL f.xid 4 true) ++ [0, 0, 0, 0] ++ putL f.ci 4 true ++ putL f.yi 4 true) ++ List.replicate 8 0 ++ f.x) ++ List.replicate 202 0 ++ [99, 130, 83, 99, 53, 1, f.ty]) ++ osN f 6 = hdDH f ++ osDH f by rw [← osN_all]; unfold hdDH; simp only [List.append_assoc]; rfl] at HR6
      replace HR6 := Lib.hid HR6
      clear R HKB HVB HOF
      go_wp2_with (first
        | (refine wpList_append_b (W := w0) rfl (.tmp 94) (.tmp 95) rfl (hG.alloc _) (HR6.out.alloc _) ((Row.lit wr wr.heap.size (Nat.le_refl _) #[.int .u8 255] [255] rfl (by unfold maxLen; simp) _ rfl 1 rfl).buf (fun z hz => by simp only [List.mem_cons, List.not_mem_nil, or_false] at hz; omega)) (by rfl) (by rfl) (by have := osDH_len f; rw [List.length_append, hdDH_len HX6.out]; simp only [List.length_cons, List.length_nil]; omega) ?_; intro vz wz RZ gz xz; clear xz))
      go_ret2
      have hq : Buf wz vz (putDH f) := by have := RZ.out.buf (by have := HPO.out; unfold putDH at this; exact this); exact this
      exact ⟨_, rfl, hq, g0.trans gz⟩
theorem refPut20_c {v : Value} {f : DHR} (hl : f.x.length ≤ 140737488355328) {w : World} (hv : Dh w v f) :
    Calls Try.prog 11 #[v] w fun e w' => ∃ u, e = .returned (.tuple #[u, .int .i64 (putDHE f)]) ∧ Buf w' u (putDHB f) ∧ Grew w w' := by
  have hv' := hv
  obtain ⟨p1, k1, rfl, b1⟩ := hv.shape
  have bad : okDH f = false → putDHE f = 2 ∧ putDHB f = [] := fun h => by unfold putDHE putDHB; rw [h]; exact ⟨rfl, rfl⟩
  have good : okDH f = true → putDHE f = 0 ∧ putDHB f = putDH f := fun h => by unfold putDHE putDHB; rw [h]; exact ⟨rfl, rfl⟩
  have fin : (Calls Try.prog 11 #[.agg #[.int .i64 f.op, .int .u32 f.xid, .int .u32 f.ci, .int .u32 f.yi, .slice p1 f.x.length k1, .int .i64 f.ty, .int .u32 f.wa, .int .u32 f.se, .int .u32 f.le, .int .u32 f.ma, .int .u32 f.ro, .int .u32 f.dn]] w fun e w' => e = .returned (.tuple #[.slice none 0 0, .int .i64 2]) ∧ Grew w w') → okDH f = false → Calls Try.prog 11 #[.agg #[.int .i64 f.op, .int .u32 f.xid, .int .u32 f.ci, .int .u32 f.yi, .slice p1 f.x.length k1, .int .i64 f.ty, .int .u32 f.wa, .int .u32 f.se, .int .u32 f.le, .int .u32 f.ma, .int .u32 f.ro, .int .u32 f.dn]] w fun e w' => ∃ u, e = .returned (.tuple #[u, .int .i64 (putDHE f)]) ∧ Buf w' u (putDHB f) ∧ Grew w w' := fun h hb => by
    rw [(bad hb).1, (bad hb).2]
    exact h.mono fun _ _ ⟨h1, h2⟩ => ⟨_, h1, Buf.nil _, h2⟩
  have nok : ∀ {P : Prop}, ¬ P → (okDH f = true → P) → okDH f = false := fun hp h => by
    cases e : okDH f
    · rfl
    · exact absurd (h e) hp
  by_cases a1 : f.op = 1
  · have q1 : (f.op != 1) = false := by simpa using a1
    by_cases a3 : f.x.length = 6
    · have q3 : ((f.x.length : Int) != 6) = false := by rw [a3]; rfl
      by_cases a4 : f.ty < 1
      · exact fin (refPutD_a1 hl q1 q3 a4 w) (nok (P := 1 ≤ f.ty) (by omega) fun h => (okDH_spec h).2.2.1)
      · by_cases a5 : 8 < f.ty
        · exact fin (refPutD_a2 hl q1 q3 a4 a5 w) (nok (P := f.ty ≤ 8) (by omega) fun h => (okDH_spec h).2.2.2)
        · have hok := okDH_of (.inl a1) a3 (by omega) (by omega)
          rw [(good hok).1, (good hok).2]
          exact refPutD_yes (.inl q1) hok hv' b1
    · have q3 : ((f.x.length : Int) != 6) = true := by rw [bne_iff_ne]; omega
      exact fin (refPutD_a0 hl q1 q3 w) (nok a3 fun h => (okDH_spec h).2.1)
  · have q1 : (f.op != 1) = true := by simpa using a1
    by_cases a2 : f.op = 2
    · have q2 : (f.op != 2) = false := by simpa using a2
      by_cases a3 : f.x.length = 6
      · have q3 : ((f.x.length : Int) != 6) = false := by rw [a3]; rfl
        by_cases a4 : f.ty < 1
        · exact fin (refPutD_b1 hl q1 q2 q3 a4 w) (nok (P := 1 ≤ f.ty) (by omega) fun h => (okDH_spec h).2.2.1)
        · by_cases a5 : 8 < f.ty
          · exact fin (refPutD_b2 hl q1 q2 q3 a4 a5 w) (nok (P := f.ty ≤ 8) (by omega) fun h => (okDH_spec h).2.2.2)
          · have hok := okDH_of (.inr a2) a3 (by omega) (by omega)
            rw [(good hok).1, (good hok).2]
            exact refPutD_yes (.inr ⟨q1, q2⟩) hok hv' b1
      · have q3 : ((f.x.length : Int) != 6) = true := by rw [bne_iff_ne]; omega
        exact fin (refPutD_b0 hl q1 q2 q3 w) (nok a3 fun h => (okDH_spec h).2.1)
    · exact fin (refPutD_op hl q1 (by simpa using a2) w) (nok (P := f.op = 1 ∨ f.op = 2) (by omega) fun h => (okDH_spec h).1)
end Go.Proofs.Ytnmffkmpkgmkpaa
