/-
  Package seg: the head of a segment and its bytes, of all segments.
-/
import Derived.Test.YtiaejlbkdgcfiaaSgA
import Derived.Test.YtiaejlbkdgcfiaaCat
import Derived.Test.YtiaejlbkdgcfiaaDeps
set_option maxRecDepth 4000
set_option linter.unusedVariables false
set_option linter.unusedSimpArgs false
namespace Go.Proofs.Ytiaejlbkdgcfiaa
open Go.RowKit

/-- How many bytes its head has. -/
def hN (f : SGR) : Int := 20 + ((opSG f).length : Nat)
/-- The bytes of its head, with noughts in the checksum's place. -/
def headS (f : SGR) : List Int := pre12 f ++ [80 + 4 * ((opSG f).length : Int), f.fl % 256] ++ putL f.wn 2 true ++ [0, 0, 0, 0] ++ opSG f
theorem headS_len (f : SGR) : (headS f).length = 20 + (opSG f).length := by simp [headS, pre12_len, putB_len]; omega
abbrev hdA (f : SGR) : Value := .agg #[.int .i64 f.s, .int .i64 f.d, .int .u32 f.q, .int .u32 f.a, .int .i64 (hN f), .int .i64 f.fl, .int .i64 f.wn, .int .i64 f.m]
set_option maxHeartbeats 2000000 in
theorem headOf_20 {f : SGR} {p1 : Option Addr} {k1 : Nat} (hm : (f.m == 0) = true) (w : World) :
    Calls Try.prog 22 #[.agg #[.int .i64 f.s, .int .i64 f.d, .int .u32 f.q, .int .u32 f.a, .int .i64 f.fl, .int .i64 f.wn, .int .i64 f.m, .slice p1 f.x.length k1]] w fun e w' => e = .returned (.agg #[.int .i64 f.s, .int .i64 f.d, .int .u32 f.q, .int .u32 f.a, .int .i64 20, .int .i64 f.fl, .int .i64 f.wn, .int .i64 f.m]) ∧ Grew w w' := by
  go_enter Try.func22, Try.ntmps22
  go_upto_region 1 with fail
  have hB : Blk ((w.alloc (.cells #[.int .i64 f.s, .int .i64 f.d, .int .u32 f.q, .int .u32 f.a, .int .i64 f.fl, .int .i64 f.wn, .int .i64 f.m, .slice p1 f.x.length k1] 25)).alloc (.cells #[.int .i64 0, .int .i64 0, .int .u32 0, .int .u32 0, .int .i64 0, .int .i64 0, .int .i64 0, .int .i64 0] 50)) w.heap.size #[.int .i64 f.s, .int .i64 f.d, .int .u32 f.q, .int .u32 f.a, .int .i64 f.fl, .int .i64 f.wn, .int .i64 f.m, .slice p1 f.x.length k1] 25 := (Blk.new _ _ _ _ rfl).alloc _
  have hR : Blk ((w.alloc (.cells #[.int .i64 f.s, .int .i64 f.d, .int .u32 f.q, .int .u32 f.a, .int .i64 f.fl, .int .i64 f.wn, .int .i64 f.m, .slice p1 f.x.length k1] 25)).alloc (.cells #[.int .i64 0, .int .i64 0, .int .u32 0, .int .u32 0, .int .i64 0, .int .i64 0, .int .i64 0, .int .i64 0] 50)) (w.heap.size + 1) #[.int .i64 0, .int .i64 0, .int .u32 0, .int .u32 0, .int .i64 0, .int .i64 0, .int .i64 0, .int .i64 0] 50 := Blk.new _ _ _ _ (by simp)
  have g0 : Grew w ((w.alloc (.cells #[.int .i64 f.s, .int .i64 f.d, .int .u32 f.q, .int .u32 f.a, .int .i64 f.fl, .int .i64 f.wn, .int .i64 f.m, .slice p1 f.x.length k1] 25)).alloc (.cells #[.int .i64 0, .int .i64 0, .int .u32 0, .int .u32 0, .int .i64 0, .int .i64 0, .int .i64 0, .int .i64 0] 50)) := ((Grew.refl _).alloc _).alloc _
  generalize ((w.alloc (.cells #[.int .i64 f.s, .int .i64 f.d, .int .u32 f.q, .int .u32 f.a, .int .i64 f.fl, .int .i64 f.wn, .int .i64 f.m, .slice p1 f.x.length k1] 25)).alloc (.cells #[.int .i64 0, .int .i64 0, .int .u32 0, .int .u32 0, .int .i64 0, .int .i64 0, .int .i64 0, .int .i64 0] 50)) = w0 at *
  generalize hlR : w.heap.size + 1 = R at *
  generalize hlB : w.heap.size = B at *
  have y0 := hB.cell 0
  have y1 := hB.cell 1
  have y2 := hB.cell 2
  have y3 := hB.cell 3
  have y4 := hB.cell 4
  have y5 := hB.cell 5
  have y6 := hB.cell 6
  have y7 := hB.cell 7
  go_upto_region 2 with fail
  have hH : Blk (w0.alloc (.cells #[.int .i64 f.s, .int .i64 f.d, .int .u32 f.q, .int .u32 f.a, .int .i64 20, .int .i64 f.fl, .int .i64 f.wn, .int .i64 f.m] 50)) w0.heap.size #[.int .i64 f.s, .int .i64 f.d, .int .u32 f.q, .int .u32 f.a, .int .i64 20, .int .i64 f.fl, .int .i64 f.wn, .int .i64 f.m] 50 := Blk.new _ _ _ _ rfl
  have g1 : Grew w0 (w0.alloc (.cells #[.int .i64 f.s, .int .i64 f.d, .int .u32 f.q, .int .u32 f.a, .int .i64 20, .int .i64 f.fl, .int .i64 f.wn, .int .i64 f.m] 50)) := (Grew.refl _).alloc _
  generalize (w0.alloc (.cells #[.int .i64 f.s, .int .i64 f.d, .int .u32 f.q, .int .u32 f.a, .int .i64 20, .int .i64 f.fl, .int .i64 f.wn, .int .i64 f.m] 50)) = w1 at *
  generalize hlH : w0.heap.size = H at *
  have hR1 := hR.grew g1
  have hHR : H ≠ R := by have := hR.lt; omega
  have hRH : R ≠ H := hHR.symm
  have hwR : w.heap.size ≤ R := by omega
  have G1 := g0.trans g1
  have hwH : w.heap.size ≤ H := by have := g0.size; omega
  clear hB g0 g1 y0 y1 y2 y3 y4 y5 y6 y7
  have x7 := hH.cell 7
  have hH2 := hH
  have hR2 := hR1
  have G2 := G1
  clear hH hR1 G1
  have z0 := hH2.cell 0
  have z1 := hH2.cell 1
  have z2 := hH2.cell 2
  have z3 := hH2.cell 3
  have z4 := hH2.cell 4
  have z5 := hH2.cell 5
  have z6 := hH2.cell 6
  have z7 := hH2.cell 7
  have f0 := hR2.free 0
  have f1 := hR2.free 1
  have f2 := hR2.free 2
  have f3 := hR2.free 3
  have f4 := hR2.free 4
  have f5 := hR2.free 5
  have f6 := hR2.free 6
  have f7 := hR2.free 7
  have x0 := hR2.cell 0
  have x1 := hR2.cell 1
  have x2 := hR2.cell 2
  have x3 := hR2.cell 3
  have x4 := hR2.cell 4
  have x5 := hR2.cell 5
  have x6 := hR2.cell 6
  have x7r := hR2.cell 7
  go_wp2_with fail
  have E := ((((((((hR2.set (o := 0) ((.int .i64 f.s))).set (o := 1) ((.int .i64 f.d))).set (o := 2) ((.int .u32 f.q))).set (o := 3) ((.int .u32 f.a))).set (o := 4) ((.int .i64 20))).set (o := 5) ((.int .i64 f.fl))).set (o := 6) ((.int .i64 f.wn))).set (o := 7) ((.int .i64 f.m)))
  have GE := ((((((((G2.setCell (b := R) (o := 0) (by omega) ((.int .i64 f.s))).setCell (b := R) (o := 1) (by omega) ((.int .i64 f.d))).setCell (b := R) (o := 2) (by omega) ((.int .u32 f.q))).setCell (b := R) (o := 3) (by omega) ((.int .u32 f.a))).setCell (b := R) (o := 4) (by omega) ((.int .i64 20))).setCell (b := R) (o := 5) (by omega) ((.int .i64 f.fl))).setCell (b := R) (o := 6) (by omega) ((.int .i64 f.wn))).setCell (b := R) (o := 7) (by omega) ((.int .i64 f.m)))
  have e0 := E.cell 0
  have e1 := E.cell 1
  have e2 := E.cell 2
  have e3 := E.cell 3
  have e4 := E.cell 4
  have e5 := E.cell 5
  have e6 := E.cell 6
  have e7 := E.cell 7
  exact bodyPost_ret (v := .agg #[.int .i64 f.s, .int .i64 f.d, .int .u32 f.q, .int .u32 f.a, .int .i64 20, .int .i64 f.fl, .int .i64 f.wn, .int .i64 f.m]) (by simp [results, Try.results22, go_sem, e0, e1, e2, e3, e4, e5, e6, e7]) rfl ⟨rfl, GE⟩
set_option maxHeartbeats 2000000 in
theorem headOf_24 {f : SGR} {p1 : Option Addr} {k1 : Nat} (hm : (f.m == 0) = false) (w : World) :
    Calls Try.prog 22 #[.agg #[.int .i64 f.s, .int .i64 f.d, .int .u32 f.q, .int .u32 f.a, .int .i64 f.fl, .int .i64 f.wn, .int .i64 f.m, .slice p1 f.x.length k1]] w fun e w' => e = .returned (.agg #[.int .i64 f.s, .int .i64 f.d, .int .u32 f.q, .int .u32 f.a, .int .i64 24, .int .i64 f.fl, .int .i64 f.wn, .int .i64 f.m]) ∧ Grew w w' := by
  go_enter Try.func22, Try.ntmps22
  go_upto_region 1 with fail
  have hB : Blk ((w.alloc (.cells #[.int .i64 f.s, .int .i64 f.d, .int .u32 f.q, .int .u32 f.a, .int .i64 f.fl, .int .i64 f.wn, .int .i64 f.m, .slice p1 f.x.length k1] 25)).alloc (.cells #[.int .i64 0, .int .i64 0, .int .u32 0, .int .u32 0, .int .i64 0, .int .i64 0, .int .i64 0, .int .i64 0] 50)) w.heap.size #[.int .i64 f.s, .int .i64 f.d, .int .u32 f.q, .int .u32 f.a, .int .i64 f.fl, .int .i64 f.wn, .int .i64 f.m, .slice p1 f.x.length k1] 25 := (Blk.new _ _ _ _ rfl).alloc _
  have hR : Blk ((w.alloc (.cells #[.int .i64 f.s, .int .i64 f.d, .int .u32 f.q, .int .u32 f.a, .int .i64 f.fl, .int .i64 f.wn, .int .i64 f.m, .slice p1 f.x.length k1] 25)).alloc (.cells #[.int .i64 0, .int .i64 0, .int .u32 0, .int .u32 0, .int .i64 0, .int .i64 0, .int .i64 0, .int .i64 0] 50)) (w.heap.size + 1) #[.int .i64 0, .int .i64 0, .int .u32 0, .int .u32 0, .int .i64 0, .int .i64 0, .int .i64 0, .int .i64 0] 50 := Blk.new _ _ _ _ (by simp)
  have g0 : Grew w ((w.alloc (.cells #[.int .i64 f.s, .int .i64 f.d, .int .u32 f.q, .int .u32 f.a, .int .i64 f.fl, .int .i64 f.wn, .int .i64 f.m, .slice p1 f.x.length k1] 25)).alloc (.cells #[.int .i64 0, .int .i64 0, .int .u32 0, .int .u32 0, .int .i64 0, .int .i64 0, .int .i64 0, .int .i64 0] 50)) := ((Grew.refl _).alloc _).alloc _
  generalize ((w.alloc (.cells #[.int .i64 f.s, .int .i64 f.d, .int .u32 f.q, .int .u32 f.a, .int .i64 f.fl, .int .i64 f.wn, .int .i64 f.m, .slice p1 f.x.length k1] 25)).alloc (.cells #[.int .i64 0, .int .i64 0, .int .u32 0, .int .u32 0, .int .i64 0, .int .i64 0, .int .i64 0, .int .i64 0] 50)) = w0 at *
  generalize hlR : w.heap.size + 1 = R at *
  generalize hlB : w.heap.size = B at *
  have y0 := hB.cell 0
  have y1 := hB.cell 1
  have y2 := hB.cell 2
  have y3 := hB.cell 3
  have y4 := hB.cell 4
  have y5 := hB.cell 5
  have y6 := hB.cell 6
  have y7 := hB.cell 7
  go_upto_region 2 with fail
  have hH : Blk (w0.alloc (.cells #[.int .i64 f.s, .int .i64 f.d, .int .u32 f.q, .int .u32 f.a, .int .i64 20, .int .i64 f.fl, .int .i64 f.wn, .int .i64 f.m] 50)) w0.heap.size #[.int .i64 f.s, .int .i64 f.d, .int .u32 f.q, .int .u32 f.a, .int .i64 20, .int .i64 f.fl, .int .i64 f.wn, .int .i64 f.m] 50 := Blk.new _ _ _ _ rfl
  have g1 : Grew w0 (w0.alloc (.cells #[.int .i64 f.s, .int .i64 f.d, .int .u32 f.q, .int .u32 f.a, .int .i64 20, .int .i64 f.fl, .int .i64 f.wn, .int .i64 f.m] 50)) := (Grew.refl _).alloc _
  generalize (w0.alloc (.cells #[.int .i64 f.s, .int .i64 f.d, .int .u32 f.q, .int .u32 f.a, .int .i64 20, .int .i64 f.fl, .int .i64 f.wn, .int .i64 f.m] 50)) = w1 at *
  generalize hlH : w0.heap.size = H at *
  have hR1 := hR.grew g1
  have hHR : H ≠ R := by have := hR.lt; omega
  have hRH : R ≠ H := hHR.symm
  have hwR : w.heap.size ≤ R := by omega
  have G1 := g0.trans g1
  have hwH : w.heap.size ≤ H := by have := g0.size; omega
  clear hB g0 g1 y0 y1 y2 y3 y4 y5 y6 y7
  have x7 := hH.cell 7
  have x4 := hH.cell 4
  have q4 := hH.free 4
  go_upto_region 4 with fail
  have hH2 := hH.set (o := 4) (.int .i64 24)
  have hR2 := hR1.other (c := H) (o := 4) hRH (.int .i64 24)
  have G2 := G1.setCell (b := H) (o := 4) hwH (.int .i64 24)
  replace hH2 : Blk _ H #[.int .i64 f.s, .int .i64 f.d, .int .u32 f.q, .int .u32 f.a, .int .i64 24, .int .i64 f.fl, .int .i64 f.wn, .int .i64 f.m] 50 := hH2
  clear x7 x4 q4 hH hR1 G1
  generalize (w1.setCell ⟨H, 4, none⟩ (.int .i64 24)) = w2 at *
  have z0 := hH2.cell 0
  have z1 := hH2.cell 1
  have z2 := hH2.cell 2
  have z3 := hH2.cell 3
  have z4 := hH2.cell 4
  have z5 := hH2.cell 5
  have z6 := hH2.cell 6
  have z7 := hH2.cell 7
  have f0 := hR2.free 0
  have f1 := hR2.free 1
  have f2 := hR2.free 2
  have f3 := hR2.free 3
  have f4 := hR2.free 4
  have f5 := hR2.free 5
  have f6 := hR2.free 6
  have f7 := hR2.free 7
  have x0 := hR2.cell 0
  have x1 := hR2.cell 1
  have x2 := hR2.cell 2
  have x3 := hR2.cell 3
  have x4 := hR2.cell 4
  have x5 := hR2.cell 5
  have x6 := hR2.cell 6
  have x7r := hR2.cell 7
  go_wp2_with fail
  have E := ((((((((hR2.set (o := 0) ((.int .i64 f.s))).set (o := 1) ((.int .i64 f.d))).set (o := 2) ((.int .u32 f.q))).set (o := 3) ((.int .u32 f.a))).set (o := 4) ((.int .i64 24))).set (o := 5) ((.int .i64 f.fl))).set (o := 6) ((.int .i64 f.wn))).set (o := 7) ((.int .i64 f.m)))
  have GE := ((((((((G2.setCell (b := R) (o := 0) (by omega) ((.int .i64 f.s))).setCell (b := R) (o := 1) (by omega) ((.int .i64 f.d))).setCell (b := R) (o := 2) (by omega) ((.int .u32 f.q))).setCell (b := R) (o := 3) (by omega) ((.int .u32 f.a))).setCell (b := R) (o := 4) (by omega) ((.int .i64 24))).setCell (b := R) (o := 5) (by omega) ((.int .i64 f.fl))).setCell (b := R) (o := 6) (by omega) ((.int .i64 f.wn))).setCell (b := R) (o := 7) (by omega) ((.int .i64 f.m)))
  have e0 := E.cell 0
  have e1 := E.cell 1
  have e2 := E.cell 2
  have e3 := E.cell 3
  have e4 := E.cell 4
  have e5 := E.cell 5
  have e6 := E.cell 6
  have e7 := E.cell 7
  exact bodyPost_ret (v := .agg #[.int .i64 f.s, .int .i64 f.d, .int .u32 f.q, .int .u32 f.a, .int .i64 24, .int .i64 f.fl, .int .i64 f.wn, .int .i64 f.m]) (by simp [results, Try.results22, go_sem, e0, e1, e2, e3, e4, e5, e6, e7]) rfl ⟨rfl, GE⟩
theorem hN_0 {f : SGR} (h : (f.m == 0) = true) : hN f = 20 := by unfold hN opSG; rw [if_pos (by simpa using h)]; rfl
theorem hN_1 {f : SGR} (h : (f.m == 0) = false) : hN f = 24 := by unfold hN opSG; rw [if_neg (by simpa using h)]; simp [putB_len]
theorem opl_0 {f : SGR} (h : (f.m == 0) = true) : (opSG f).length = 0 := by unfold opSG; rw [if_pos (by simpa using h)]; rfl
theorem opl_1 {f : SGR} (h : (f.m == 0) = false) : (opSG f).length = 4 := by unfold opSG; rw [if_neg (by simpa using h)]; simp [putB_len]
theorem headOf_c {f : SGR} {p1 : Option Addr} {k1 : Nat} (w : World) :
    Calls Try.prog 22 #[.agg #[.int .i64 f.s, .int .i64 f.d, .int .u32 f.q, .int .u32 f.a, .int .i64 f.fl, .int .i64 f.wn, .int .i64 f.m, .slice p1 f.x.length k1]] w fun e w' => e = .returned (hdA f) ∧ Grew w w' := by
  unfold hdA
  cases h : (f.m == 0)
  · rw [hN_1 h]; exact headOf_24 h w
  · rw [hN_0 h]; exact headOf_20 h w
/-- What the operations of a region give. -/
def rgHs20 (W : World) (B : Nat) (f : SGR) : (Nat → Value) → Nat → Value → World → Prop
  | _, 0, v, _ => v = .pointer (some ⟨B, 0, none⟩)
  | _, 1, v, _ => v = .int .i64 f.s
  | _, 2, v, w => ∃ a c, v = .slice a 2 c ∧ Buf w (.slice a 2 c) (putL f.s 2 true)
  | _, 3, v, _ => v = .pointer (some ⟨B, 1, none⟩)
  | _, 4, v, _ => v = .int .i64 f.d
  | _, 5, v, w => ∃ a c, v = .slice a 2 c ∧ Buf w (.slice a 2 c) (putL f.d 2 true)
  | _, 6, v, _ => v = .pointer (some ⟨B, 2, none⟩)
  | _, 7, v, _ => v = .int .u32 f.q
  | _, 8, v, w => ∃ a c, v = .slice a 4 c ∧ Buf w (.slice a 4 c) (putL f.q 4 true)
  | _, 9, v, _ => v = .pointer (some ⟨B, 3, none⟩)
  | _, 10, v, _ => v = .int .u32 f.a
  | _, 11, v, w => ∃ a c, v = .slice a 4 c ∧ Buf w (.slice a 4 c) (putL f.a 4 true)
  | _, 12, v, _ => v = .pointer (some ⟨B, 4, none⟩)
  | _, 13, v, _ => v = .int .i64 20
  | _, 14, v, _ => v = .int .i64 5
  | _, 15, v, _ => v = .int .i64 80
  | _, 16, v, _ => v = .int .u8 80
  | _, 17, v, _ => v = .pointer (some ⟨B, 5, none⟩)
  | _, 18, v, _ => v = .int .i64 f.fl
  | _, 19, v, _ => v = .int .u8 (f.fl % 256)
  | _, 20, v, w => ∃ b0, v = .slice (some ⟨b0, 0, none⟩) 2 2 ∧ Buf w (.slice (some ⟨b0, 0, none⟩) 2 2) [80, f.fl % 256]
  | _, 21, v, _ => v = .pointer (some ⟨B, 6, none⟩)
  | _, 22, v, _ => v = .int .i64 f.wn
  | _, 23, v, w => ∃ a c, v = .slice a 2 c ∧ Buf w (.slice a 2 c) (putL f.wn 2 true)
  | _, 24, v, w => ∃ a c, v = .slice a 2 c ∧ Buf w (.slice a 2 c) (putL 0 2 true)
  | _, 25, v, w => ∃ a c, v = .slice a 2 c ∧ Buf w (.slice a 2 c) (putL 0 2 true)
  | _, 26, v, _ => v = .pointer (some ⟨B, 7, none⟩)
  | _, 27, v, _ => v = .int .i64 f.m
  | _, 28, v, w => ∃ a c, v = .slice a 0 c ∧ Buf w (.slice a 0 c) (opSG f)
  | _, _, _, _ => True
theorem rgHs20_grew {W : World} {B : Nat} {f : SGR} : ∀ vs j v w w', Grew w w' → rgHs20 W B f vs j v w → rgHs20 W B f vs j v w'
  | _, 0, _, _, _, _, h => h
  | _, 1, _, _, _, _, h => h
  | _, 2, _, _, _, g, ⟨b0, b1, e, h0⟩ => ⟨b0, b1, e, h0.grew g⟩
  | _, 3, _, _, _, _, h => h
  | _, 4, _, _, _, _, h => h
  | _, 5, _, _, _, g, ⟨b0, b1, e, h0⟩ => ⟨b0, b1, e, h0.grew g⟩
  | _, 6, _, _, _, _, h => h
  | _, 7, _, _, _, _, h => h
  | _, 8, _, _, _, g, ⟨b0, b1, e, h0⟩ => ⟨b0, b1, e, h0.grew g⟩
  | _, 9, _, _, _, _, h => h
  | _, 10, _, _, _, _, h => h
  | _, 11, _, _, _, g, ⟨b0, b1, e, h0⟩ => ⟨b0, b1, e, h0.grew g⟩
  | _, 12, _, _, _, _, h => h
  | _, 13, _, _, _, _, h => h
  | _, 14, _, _, _, _, h => h
  | _, 15, _, _, _, _, h => h
  | _, 16, _, _, _, _, h => h
  | _, 17, _, _, _, _, h => h
  | _, 18, _, _, _, _, h => h
  | _, 19, _, _, _, _, h => h
  | _, 20, _, _, _, g, ⟨b0, e, h0⟩ => ⟨b0, e, h0.grew g⟩
  | _, 21, _, _, _, _, h => h
  | _, 22, _, _, _, _, h => h
  | _, 23, _, _, _, g, ⟨b0, b1, e, h0⟩ => ⟨b0, b1, e, h0.grew g⟩
  | _, 24, _, _, _, g, ⟨b0, b1, e, h0⟩ => ⟨b0, b1, e, h0.grew g⟩
  | _, 25, _, _, _, g, ⟨b0, b1, e, h0⟩ => ⟨b0, b1, e, h0.grew g⟩
  | _, 26, _, _, _, _, h => h
  | _, 27, _, _, _, _, h => h
  | _, 28, _, _, _, g, ⟨b0, b1, e, h0⟩ => ⟨b0, b1, e, h0.grew g⟩
  | _, _ + 29, _, _, _, _, _ => True.intro
theorem rgHs20_lt {W : World} {B : Nat} {f : SGR} : ∀ vs j v w, ([] : List Nat).contains j = true → rgHs20 W B f vs j v w → ∀ g, leadsTo v = some g → g < w.heap.size
  | _, 0, _, _, hc, _ => by simp at hc
  | _, 1, _, _, hc, _ => by simp at hc
  | _, 2, _, _, hc, _ => by simp at hc
  | _, 3, _, _, hc, _ => by simp at hc
  | _, 4, _, _, hc, _ => by simp at hc
  | _, 5, _, _, hc, _ => by simp at hc
  | _, 6, _, _, hc, _ => by simp at hc
  | _, 7, _, _, hc, _ => by simp at hc
  | _, 8, _, _, hc, _ => by simp at hc
  | _, 9, _, _, hc, _ => by simp at hc
  | _, 10, _, _, hc, _ => by simp at hc
  | _, 11, _, _, hc, _ => by simp at hc
  | _, 12, _, _, hc, _ => by simp at hc
  | _, 13, _, _, hc, _ => by simp at hc
  | _, 14, _, _, hc, _ => by simp at hc
  | _, 15, _, _, hc, _ => by simp at hc
  | _, 16, _, _, hc, _ => by simp at hc
  | _, 17, _, _, hc, _ => by simp at hc
  | _, 18, _, _, hc, _ => by simp at hc
  | _, 19, _, _, hc, _ => by simp at hc
  | _, 20, _, _, hc, _ => by simp at hc
  | _, 21, _, _, hc, _ => by simp at hc
  | _, 22, _, _, hc, _ => by simp at hc
  | _, 23, _, _, hc, _ => by simp at hc
  | _, 24, _, _, hc, _ => by simp at hc
  | _, 25, _, _, hc, _ => by simp at hc
  | _, 26, _, _, hc, _ => by simp at hc
  | _, 27, _, _, hc, _ => by simp at hc
  | _, 28, _, _, hc, _ => by simp at hc
  | _, _ + 29, _, _, hc, _ => by simp at hc
theorem rgHs20_loc {W : World} {B : Nat} {f : SGR} : ∀ (vs vs' : Nat → Value) j v w, (∀ k ∈ ([[], [], [], [], [], [], [], [], [], [], [], [], [], [], [], [], [], [], [], [], [], [], [], [], [], [], [], [], []] : List (List Nat)).getD j [], vs k = vs' k) → rgHs20 W B f vs j v w → rgHs20 W B f vs' j v w
  | _, _, 0, _, _, _, h => h
  | _, _, 1, _, _, _, h => h
  | _, _, 2, _, _, _, h => h
  | _, _, 3, _, _, _, h => h
  | _, _, 4, _, _, _, h => h
  | _, _, 5, _, _, _, h => h
  | _, _, 6, _, _, _, h => h
  | _, _, 7, _, _, _, h => h
  | _, _, 8, _, _, _, h => h
  | _, _, 9, _, _, _, h => h
  | _, _, 10, _, _, _, h => h
  | _, _, 11, _, _, _, h => h
  | _, _, 12, _, _, _, h => h
  | _, _, 13, _, _, _, h => h
  | _, _, 14, _, _, _, h => h
  | _, _, 15, _, _, _, h => h
  | _, _, 16, _, _, _, h => h
  | _, _, 17, _, _, _, h => h
  | _, _, 18, _, _, _, h => h
  | _, _, 19, _, _, _, h => h
  | _, _, 20, _, _, _, h => h
  | _, _, 21, _, _, _, h => h
  | _, _, 22, _, _, _, h => h
  | _, _, 23, _, _, _, h => h
  | _, _, 24, _, _, _, h => h
  | _, _, 25, _, _, _, h => h
  | _, _, 26, _, _, _, h => h
  | _, _, 27, _, _, _, h => h
  | _, _, 28, _, _, _, h => h
  | _, _, _ + 29, _, _, _, _ => True.intro
theorem headS_flat20 {f : SGR} (hm : (f.m == 0) = true) : [putL f.s 2 true, putL f.d 2 true, putL f.q 4 true, putL f.a 4 true, [80, f.fl % 256], putL f.wn 2 true, putL 0 2 true, putL 0 2 true, opSG f].flatten = headS f := by
  have e0 : putL 0 2 true = [0, 0] := by decide
  have e1 : (80 + 4 * ((opSG f).length : Int)) = 80 := by rw [opl_0 hm]; rfl
  unfold headS pre12
  rw [e0, e1]
  simp
set_option maxHeartbeats 4000000 in
theorem bytesS_20 {f : SGR} (hm : (f.m == 0) = true) (hq : u32I f.q) (ha : u32I f.a) (hi : intI f.m) (w : World) :
    Calls Try.prog 23 #[.agg #[.int .i64 f.s, .int .i64 f.d, .int .u32 f.q, .int .u32 f.a, .int .i64 20, .int .i64 f.fl, .int .i64 f.wn, .int .i64 f.m]] w fun e w' => ∃ u, e = .returned u ∧ Buf w' u (headS f) ∧ Grew w w' := by
  have HQ := Lib.hid (show 0 ≤ f.q ∧ f.q < 4294967296 from hq)
  have HA := Lib.hid (show 0 ≤ f.a ∧ f.a < 4294967296 from ha)
  have EF := Lib.hid (show IntKind.u8.wrap f.fl = f.fl % 256 by rw [wrap_u8])
  have HOK := Lib.hid (show AreBytes [80, f.fl % 256] from two_ok _ _ (by omega) (by omega))
  have HMO : Hid (∀ w1, Calls Try.prog 41 #[.int .i64 f.m] w1 fun e w' => ∃ a c, e = .returned (.slice a 0 c) ∧ Buf w' (.slice a 0 c) (opSG f) ∧ Grew w1 w') := Lib.hid (fun w1 => (mssOp_c f.m hi w1).mono fun e w' ⟨a, n, c, he, hb, g⟩ => by
    have hl := hb.lenEq.1
    have ho : (if f.m = 0 then [] else [2, 4] ++ putL f.m 2 true) = opSG f := rfl
    rw [ho] at hb hl
    rw [opl_0 hm] at hl
    subst hl
    exact ⟨a, c, he, hb, g⟩)
  have HFL := Lib.hid (headS_flat20 hm)
  have HLN := Lib.hid (show [putL f.s 2 true, putL f.d 2 true, putL f.q 4 true, putL f.a 4 true, [80, f.fl % 256], putL f.wn 2 true, putL 0 2 true, putL 0 2 true, opSG f].flatten.length ≤ 140737488355328 by rw [headS_flat20 hm, headS_len, opl_0 hm]; omega)
  clear hm hq ha hi
  go_enter Try.func23, Try.ntmps23
  go_upto_region 1 with fail
  have hB : Blk (w.alloc (.cells #[.int .i64 f.s, .int .i64 f.d, .int .u32 f.q, .int .u32 f.a, .int .i64 20, .int .i64 f.fl, .int .i64 f.wn, .int .i64 f.m] 50)) w.heap.size #[.int .i64 f.s, .int .i64 f.d, .int .u32 f.q, .int .u32 f.a, .int .i64 20, .int .i64 f.fl, .int .i64 f.wn, .int .i64 f.m] 50 := Blk.new _ _ _ _ rfl
  have g0 : Grew w (w.alloc (.cells #[.int .i64 f.s, .int .i64 f.d, .int .u32 f.q, .int .u32 f.a, .int .i64 20, .int .i64 f.fl, .int .i64 f.wn, .int .i64 f.m] 50)) := (Grew.refl _).alloc _
  generalize (w.alloc (.cells #[.int .i64 f.s, .int .i64 f.d, .int .u32 f.q, .int .u32 f.a, .int .i64 20, .int .i64 f.fl, .int .i64 f.wn, .int .i64 f.m] 50)) = w0 at *
  generalize hlB : w.heap.size = B at *
  have HB0 := Lib.hid hB
  clear hB
  refine region_deps 29 [some 3, some 4, some 5, some 6, some 7, some 8, some 9, some 10, some 11, some 12, some 13, some 14, some 15, some 16, some 17, some 18, some 19, some 20, some 21, some 22, some 23, some 24, some 25, some 26, some 27, some 28, some 29, some 30, some 31] [[], [], [], [], [], [], [], [], [], [], [], [], [], [], [], [], [], [], [], [], [], [], [], [], [], [], [], [], []] [] (rgHs20 w0 B f) rgHs20_grew rgHs20_lt rgHs20_loc (Grew.refl w0) (by kernel_rfl) (by kernel_rfl) ?_ ?_
  · simp only [List.take_succ_cons, List.take_zero]
    refine GivesAll.cons (fun vs w1 g1 hd K hK => ?_) ?_
    · simp only [putsT, Nat.zero_add, Nat.reduceAdd, List.getD_cons_zero, List.getD_cons_succ, Act.put, List.setIfInBounds_toArray, List.set_cons_zero, List.set_cons_succ] at hK ⊢
      go_simp
      exact hK _ _ (Grew.refl _) rfl (fun h => by simp at h)
    refine GivesAll.cons (fun vs w1 g1 hd K hK => ?_) ?_
    · have e0 : vs 0 = .pointer (some ⟨B, 0, none⟩) := hd 0 (by kernel_rfl)
      simp only [putsT, Nat.zero_add, Nat.reduceAdd, List.getD_cons_zero, List.getD_cons_succ, Act.put, List.setIfInBounds_toArray, List.set_cons_zero, List.set_cons_succ, e0] at hK ⊢
      have y0 := (HB0.out.grew g1).cell 0
      go_simp
      exact hK _ _ (Grew.refl _) rfl (fun h => by simp at h)
    refine GivesAll.cons (fun vs w1 g1 hd K hK => ?_) ?_
    · have e1 : vs 1 = .int .i64 f.s := hd 1 (by kernel_rfl)
      simp only [putsT, Nat.zero_add, Nat.reduceAdd, List.getD_cons_zero, List.getD_cons_succ, Act.put, List.setIfInBounds_toArray, List.set_cons_zero, List.set_cons_succ, e1] at hK ⊢
      go_simp
      refine Calls.mono (sgPair_c f.s w1) ?_
      rintro e w5 ⟨a, c, rfl, hrw, hb, g5⟩
      exact hK _ _ g5 ⟨_, _, rfl, hb⟩ (fun h => by simp at h)
    refine GivesAll.cons (fun vs w1 g1 hd K hK => ?_) ?_
    · simp only [putsT, Nat.zero_add, Nat.reduceAdd, List.getD_cons_zero, List.getD_cons_succ, Act.put, List.setIfInBounds_toArray, List.set_cons_zero, List.set_cons_succ] at hK ⊢
      go_simp
      exact hK _ _ (Grew.refl _) rfl (fun h => by simp at h)
    refine GivesAll.cons (fun vs w1 g1 hd K hK => ?_) ?_
    · have e3 : vs 3 = .pointer (some ⟨B, 1, none⟩) := hd 3 (by kernel_rfl)
      simp only [putsT, Nat.zero_add, Nat.reduceAdd, List.getD_cons_zero, List.getD_cons_succ, Act.put, List.setIfInBounds_toArray, List.set_cons_zero, List.set_cons_succ, e3] at hK ⊢
      have y1 := (HB0.out.grew g1).cell 1
      go_simp
      exact hK _ _ (Grew.refl _) rfl (fun h => by simp at h)
    refine GivesAll.cons (fun vs w1 g1 hd K hK => ?_) ?_
    · have e4 : vs 4 = .int .i64 f.d := hd 4 (by kernel_rfl)
      simp only [putsT, Nat.zero_add, Nat.reduceAdd, List.getD_cons_zero, List.getD_cons_succ, Act.put, List.setIfInBounds_toArray, List.set_cons_zero, List.set_cons_succ, e4] at hK ⊢
      go_simp
      refine Calls.mono (sgPair_c f.d w1) ?_
      rintro e w5 ⟨a, c, rfl, hrw, hb, g5⟩
      exact hK _ _ g5 ⟨_, _, rfl, hb⟩ (fun h => by simp at h)
    refine GivesAll.cons (fun vs w1 g1 hd K hK => ?_) ?_
    · simp only [putsT, Nat.zero_add, Nat.reduceAdd, List.getD_cons_zero, List.getD_cons_succ, Act.put, List.setIfInBounds_toArray, List.set_cons_zero, List.set_cons_succ] at hK ⊢
      go_simp
      exact hK _ _ (Grew.refl _) rfl (fun h => by simp at h)
    refine GivesAll.cons (fun vs w1 g1 hd K hK => ?_) ?_
    · have e6 : vs 6 = .pointer (some ⟨B, 2, none⟩) := hd 6 (by kernel_rfl)
      simp only [putsT, Nat.zero_add, Nat.reduceAdd, List.getD_cons_zero, List.getD_cons_succ, Act.put, List.setIfInBounds_toArray, List.set_cons_zero, List.set_cons_succ, e6] at hK ⊢
      have y2 := (HB0.out.grew g1).cell 2
      go_simp
      exact hK _ _ (Grew.refl _) rfl (fun h => by simp at h)
    refine GivesAll.cons (fun vs w1 g1 hd K hK => ?_) ?_
    · have e7 : vs 7 = .int .u32 f.q := hd 7 (by kernel_rfl)
      simp only [putsT, Nat.zero_add, Nat.reduceAdd, List.getD_cons_zero, List.getD_cons_succ, Act.put, List.setIfInBounds_toArray, List.set_cons_zero, List.set_cons_succ, e7] at hK ⊢
      go_simp
      refine Calls.mono (sgLong_c f.q HQ.out w1) ?_
      rintro e w5 ⟨a, c, rfl, hb, g5⟩
      exact hK _ _ g5 ⟨_, _, rfl, hb⟩ (fun h => by simp at h)
    refine GivesAll.cons (fun vs w1 g1 hd K hK => ?_) ?_
    · simp only [putsT, Nat.zero_add, Nat.reduceAdd, List.getD_cons_zero, List.getD_cons_succ, Act.put, List.setIfInBounds_toArray, List.set_cons_zero, List.set_cons_succ] at hK ⊢
      go_simp
      exact hK _ _ (Grew.refl _) rfl (fun h => by simp at h)
    refine GivesAll.cons (fun vs w1 g1 hd K hK => ?_) ?_
    · have e9 : vs 9 = .pointer (some ⟨B, 3, none⟩) := hd 9 (by kernel_rfl)
      simp only [putsT, Nat.zero_add, Nat.reduceAdd, List.getD_cons_zero, List.getD_cons_succ, Act.put, List.setIfInBounds_toArray, List.set_cons_zero, List.set_cons_succ, e9] at hK ⊢
      have y3 := (HB0.out.grew g1).cell 3
      go_simp
      exact hK _ _ (Grew.refl _) rfl (fun h => by simp at h)
    refine GivesAll.cons (fun vs w1 g1 hd K hK => ?_) ?_
    · have e10 : vs 10 = .int .u32 f.a := hd 10 (by kernel_rfl)
      simp only [putsT, Nat.zero_add, Nat.reduceAdd, List.getD_cons_zero, List.getD_cons_succ, Act.put, List.setIfInBounds_toArray, List.set_cons_zero, List.set_cons_succ, e10] at hK ⊢
      go_simp
      refine Calls.mono (sgLong_c f.a HA.out w1) ?_
      rintro e w5 ⟨a, c, rfl, hb, g5⟩
      exact hK _ _ g5 ⟨_, _, rfl, hb⟩ (fun h => by simp at h)
    refine GivesAll.cons (fun vs w1 g1 hd K hK => ?_) ?_
    · simp only [putsT, Nat.zero_add, Nat.reduceAdd, List.getD_cons_zero, List.getD_cons_succ, Act.put, List.setIfInBounds_toArray, List.set_cons_zero, List.set_cons_succ] at hK ⊢
      go_simp
      exact hK _ _ (Grew.refl _) rfl (fun h => by simp at h)
    refine GivesAll.cons (fun vs w1 g1 hd K hK => ?_) ?_
    · have e12 : vs 12 = .pointer (some ⟨B, 4, none⟩) := hd 12 (by kernel_rfl)
      simp only [putsT, Nat.zero_add, Nat.reduceAdd, List.getD_cons_zero, List.getD_cons_succ, Act.put, List.setIfInBounds_toArray, List.set_cons_zero, List.set_cons_succ, e12] at hK ⊢
      have y4 := (HB0.out.grew g1).cell 4
      go_simp
      exact hK _ _ (Grew.refl _) rfl (fun h => by simp at h)
    refine GivesAll.cons (fun vs w1 g1 hd K hK => ?_) ?_
    · have e13 : vs 13 = .int .i64 20 := hd 13 (by kernel_rfl)
      simp only [putsT, Nat.zero_add, Nat.reduceAdd, List.getD_cons_zero, List.getD_cons_succ, Act.put, List.setIfInBounds_toArray, List.set_cons_zero, List.set_cons_succ, e13] at hK ⊢
      go_simp
      exact hK _ _ (Grew.refl _) rfl (fun h => by simp at h)
    refine GivesAll.cons (fun vs w1 g1 hd K hK => ?_) ?_
    · have e14 : vs 14 = .int .i64 5 := hd 14 (by kernel_rfl)
      simp only [putsT, Nat.zero_add, Nat.reduceAdd, List.getD_cons_zero, List.getD_cons_succ, Act.put, List.setIfInBounds_toArray, List.set_cons_zero, List.set_cons_succ, e14] at hK ⊢
      go_simp
      exact hK _ _ (Grew.refl _) rfl (fun h => by simp at h)
    refine GivesAll.cons (fun vs w1 g1 hd K hK => ?_) ?_
    · have e15 : vs 15 = .int .i64 80 := hd 15 (by kernel_rfl)
      simp only [putsT, Nat.zero_add, Nat.reduceAdd, List.getD_cons_zero, List.getD_cons_succ, Act.put, List.setIfInBounds_toArray, List.set_cons_zero, List.set_cons_succ, e15] at hK ⊢
      go_simp
      exact hK _ _ (Grew.refl _) rfl (fun h => by simp at h)
    refine GivesAll.cons (fun vs w1 g1 hd K hK => ?_) ?_
    · simp only [putsT, Nat.zero_add, Nat.reduceAdd, List.getD_cons_zero, List.getD_cons_succ, Act.put, List.setIfInBounds_toArray, List.set_cons_zero, List.set_cons_succ] at hK ⊢
      go_simp
      exact hK _ _ (Grew.refl _) rfl (fun h => by simp at h)
    refine GivesAll.cons (fun vs w1 g1 hd K hK => ?_) ?_
    · have e17 : vs 17 = .pointer (some ⟨B, 5, none⟩) := hd 17 (by kernel_rfl)
      simp only [putsT, Nat.zero_add, Nat.reduceAdd, List.getD_cons_zero, List.getD_cons_succ, Act.put, List.setIfInBounds_toArray, List.set_cons_zero, List.set_cons_succ, e17] at hK ⊢
      have y5 := (HB0.out.grew g1).cell 5
      go_simp
      exact hK _ _ (Grew.refl _) rfl (fun h => by simp at h)
    refine GivesAll.cons (fun vs w1 g1 hd K hK => ?_) ?_
    · have e18 : vs 18 = .int .i64 f.fl := hd 18 (by kernel_rfl)
      simp only [putsT, Nat.zero_add, Nat.reduceAdd, List.getD_cons_zero, List.getD_cons_succ, Act.put, List.setIfInBounds_toArray, List.set_cons_zero, List.set_cons_succ, e18] at hK ⊢
      have ew := EF.out
      go_simp
      exact hK _ _ (Grew.refl _) rfl (fun h => by simp at h)
    refine GivesAll.cons (fun vs w1 g1 hd K hK => ?_) ?_
    · have e16 : vs 16 = .int .u8 80 := hd 16 (by kernel_rfl)
      have e19 : vs 19 = .int .u8 (f.fl % 256) := hd 19 (by kernel_rfl)
      simp only [putsT, Nat.zero_add, Nat.reduceAdd, List.getD_cons_zero, List.getD_cons_succ, Act.put, List.setIfInBounds_toArray, List.set_cons_zero, List.set_cons_succ, e16, e19] at hK ⊢
      go_simp
      exact hK _ _ ((Grew.refl _).alloc _) ⟨_, rfl, (Row.lit w1 w1.heap.size (Nat.le_refl _) #[.int .u8 80, .int .u8 (f.fl % 256)] [80, f.fl % 256] rfl (by unfold maxLen; simp) _ rfl 2 rfl).buf HOK.out⟩ (fun h => by simp at h)
    refine GivesAll.cons (fun vs w1 g1 hd K hK => ?_) ?_
    · simp only [putsT, Nat.zero_add, Nat.reduceAdd, List.getD_cons_zero, List.getD_cons_succ, Act.put, List.setIfInBounds_toArray, List.set_cons_zero, List.set_cons_succ] at hK ⊢
      go_simp
      exact hK _ _ (Grew.refl _) rfl (fun h => by simp at h)
    refine GivesAll.cons (fun vs w1 g1 hd K hK => ?_) ?_
    · have e21 : vs 21 = .pointer (some ⟨B, 6, none⟩) := hd 21 (by kernel_rfl)
      simp only [putsT, Nat.zero_add, Nat.reduceAdd, List.getD_cons_zero, List.getD_cons_succ, Act.put, List.setIfInBounds_toArray, List.set_cons_zero, List.set_cons_succ, e21] at hK ⊢
      have y6 := (HB0.out.grew g1).cell 6
      go_simp
      exact hK _ _ (Grew.refl _) rfl (fun h => by simp at h)
    refine GivesAll.cons (fun vs w1 g1 hd K hK => ?_) ?_
    · have e22 : vs 22 = .int .i64 f.wn := hd 22 (by kernel_rfl)
      simp only [putsT, Nat.zero_add, Nat.reduceAdd, List.getD_cons_zero, List.getD_cons_succ, Act.put, List.setIfInBounds_toArray, List.set_cons_zero, List.set_cons_succ, e22] at hK ⊢
      go_simp
      refine Calls.mono (sgPair_c f.wn w1) ?_
      rintro e w5 ⟨a, c, rfl, hrw, hb, g5⟩
      exact hK _ _ g5 ⟨_, _, rfl, hb⟩ (fun h => by simp at h)
    refine GivesAll.cons (fun vs w1 g1 hd K hK => ?_) ?_
    · simp only [putsT, Nat.zero_add, Nat.reduceAdd, List.getD_cons_zero, List.getD_cons_succ, Act.put, List.setIfInBounds_toArray, List.set_cons_zero, List.set_cons_succ] at hK ⊢
      go_simp
      refine Calls.mono (sgPair_c 0 w1) ?_
      rintro e w5 ⟨a, c, rfl, hrw, hb, g5⟩
      exact hK _ _ g5 ⟨_, _, rfl, hb⟩ (fun h => by simp at h)
    refine GivesAll.cons (fun vs w1 g1 hd K hK => ?_) ?_
    · simp only [putsT, Nat.zero_add, Nat.reduceAdd, List.getD_cons_zero, List.getD_cons_succ, Act.put, List.setIfInBounds_toArray, List.set_cons_zero, List.set_cons_succ] at hK ⊢
      go_simp
      refine Calls.mono (sgPair_c 0 w1) ?_
      rintro e w5 ⟨a, c, rfl, hrw, hb, g5⟩
      exact hK _ _ g5 ⟨_, _, rfl, hb⟩ (fun h => by simp at h)
    refine GivesAll.cons (fun vs w1 g1 hd K hK => ?_) ?_
    · simp only [putsT, Nat.zero_add, Nat.reduceAdd, List.getD_cons_zero, List.getD_cons_succ, Act.put, List.setIfInBounds_toArray, List.set_cons_zero, List.set_cons_succ] at hK ⊢
      go_simp
      exact hK _ _ (Grew.refl _) rfl (fun h => by simp at h)
    refine GivesAll.cons (fun vs w1 g1 hd K hK => ?_) ?_
    · have e26 : vs 26 = .pointer (some ⟨B, 7, none⟩) := hd 26 (by kernel_rfl)
      simp only [putsT, Nat.zero_add, Nat.reduceAdd, List.getD_cons_zero, List.getD_cons_succ, Act.put, List.setIfInBounds_toArray, List.set_cons_zero, List.set_cons_succ, e26] at hK ⊢
      have y7 := (HB0.out.grew g1).cell 7
      go_simp
      exact hK _ _ (Grew.refl _) rfl (fun h => by simp at h)
    refine GivesAll.cons (fun vs w1 g1 hd K hK => ?_) ?_
    · have e27 : vs 27 = .int .i64 f.m := hd 27 (by kernel_rfl)
      simp only [putsT, Nat.zero_add, Nat.reduceAdd, List.getD_cons_zero, List.getD_cons_succ, Act.put, List.setIfInBounds_toArray, List.set_cons_zero, List.set_cons_succ, e27] at hK ⊢
      go_simp
      refine Calls.mono (HMO.out w1) ?_
      rintro e w5 ⟨a, c, rfl, hb, g5⟩
      exact hK _ _ g5 ⟨_, _, rfl, hb⟩ (fun h => by simp at h)
    exact GivesAll.nil
  intro vs wz gz hv hap
  have e0 : vs 0 = .pointer (some ⟨B, 0, none⟩) := hv 0 (by decide)
  have e1 : vs 1 = .int .i64 f.s := hv 1 (by decide)
  obtain ⟨a_2, c_2, e2, r2_0⟩ := hv 2 (by decide)
  have e3 : vs 3 = .pointer (some ⟨B, 1, none⟩) := hv 3 (by decide)
  have e4 : vs 4 = .int .i64 f.d := hv 4 (by decide)
  obtain ⟨a_5, c_5, e5, r5_0⟩ := hv 5 (by decide)
  have e6 : vs 6 = .pointer (some ⟨B, 2, none⟩) := hv 6 (by decide)
  have e7 : vs 7 = .int .u32 f.q := hv 7 (by decide)
  obtain ⟨a_8, c_8, e8, r8_0⟩ := hv 8 (by decide)
  have e9 : vs 9 = .pointer (some ⟨B, 3, none⟩) := hv 9 (by decide)
  have e10 : vs 10 = .int .u32 f.a := hv 10 (by decide)
  obtain ⟨a_11, c_11, e11, r11_0⟩ := hv 11 (by decide)
  have e12 : vs 12 = .pointer (some ⟨B, 4, none⟩) := hv 12 (by decide)
  have e13 : vs 13 = .int .i64 20 := hv 13 (by decide)
  have e14 : vs 14 = .int .i64 5 := hv 14 (by decide)
  have e15 : vs 15 = .int .i64 80 := hv 15 (by decide)
  have e16 : vs 16 = .int .u8 80 := hv 16 (by decide)
  have e17 : vs 17 = .pointer (some ⟨B, 5, none⟩) := hv 17 (by decide)
  have e18 : vs 18 = .int .i64 f.fl := hv 18 (by decide)
  have e19 : vs 19 = .int .u8 (f.fl % 256) := hv 19 (by decide)
  obtain ⟨b0_20, e20, r20_0⟩ := hv 20 (by decide)
  have e21 : vs 21 = .pointer (some ⟨B, 6, none⟩) := hv 21 (by decide)
  have e22 : vs 22 = .int .i64 f.wn := hv 22 (by decide)
  obtain ⟨a_23, c_23, e23, r23_0⟩ := hv 23 (by decide)
  obtain ⟨a_24, c_24, e24, r24_0⟩ := hv 24 (by decide)
  obtain ⟨a_25, c_25, e25, r25_0⟩ := hv 25 (by decide)
  have e26 : vs 26 = .pointer (some ⟨B, 7, none⟩) := hv 26 (by decide)
  have e27 : vs 27 = .int .i64 f.m := hv 27 (by decide)
  obtain ⟨a_28, c_28, e28, r28_0⟩ := hv 28 (by decide)
  clear hv hap
  simp only [putsT, Nat.zero_add, Nat.reduceAdd, List.getD_cons_zero, List.getD_cons_succ, Act.put, List.setIfInBounds_toArray, List.set_cons_zero, List.set_cons_succ, List.drop_succ_cons, List.drop_zero, e0, e1, e2, e3, e4, e5, e6, e7, e8, e9, e10, e11, e12, e13, e14, e15, e16, e17, e18, e19, e20, e21, e22, e23, e24, e25, e26, e27, e28]
  clear e0 e1 e2 e3 e4 e5 e6 e7 e8 e9 e10 e11 e12 e13 e14 e15 e16 e17 e18 e19 e20 e21 e22 e23 e24 e25 e26 e27 e28
  have HLB := Lib.hid (Bufs.ofBlk (Blk.new wz #[.slice a_2 2 c_2, .slice a_5 2 c_5, .slice a_8 4 c_8, .slice a_11 4 c_11, .slice (some ⟨b0_20, 0, none⟩) 2 2, .slice a_23 2 c_23, .slice a_24 2 c_24, .slice a_25 2 c_25, .slice a_28 0 c_28] 23 _ rfl) [putL f.s 2 true, putL f.d 2 true, putL f.q 4 true, putL f.a 4 true, [80, f.fl % 256], putL f.wn 2 true, putL 0 2 true, putL 0 2 true, opSG f] 9 9 rfl (by unfold maxLen; simp) (fun i hi => by
    match i, hi with
    | 0, _ => exact ⟨_, rfl, (r2_0).grew ((Grew.refl wz).alloc _)⟩
    | 1, _ => exact ⟨_, rfl, (r5_0).grew ((Grew.refl wz).alloc _)⟩
    | 2, _ => exact ⟨_, rfl, (r8_0).grew ((Grew.refl wz).alloc _)⟩
    | 3, _ => exact ⟨_, rfl, (r11_0).grew ((Grew.refl wz).alloc _)⟩
    | 4, _ => exact ⟨_, rfl, (r20_0).grew ((Grew.refl wz).alloc _)⟩
    | 5, _ => exact ⟨_, rfl, (r23_0).grew ((Grew.refl wz).alloc _)⟩
    | 6, _ => exact ⟨_, rfl, (r24_0).grew ((Grew.refl wz).alloc _)⟩
    | 7, _ => exact ⟨_, rfl, (r25_0).grew ((Grew.refl wz).alloc _)⟩
    | 8, _ => exact ⟨_, rfl, (r28_0).grew ((Grew.refl wz).alloc _)⟩))
  have gA : Grew wz (wz.alloc (.cells #[.slice a_2 2 c_2, .slice a_5 2 c_5, .slice a_8 4 c_8, .slice a_11 4 c_11, .slice (some ⟨b0_20, 0, none⟩) 2 2, .slice a_23 2 c_23, .slice a_24 2 c_24, .slice a_25 2 c_25, .slice a_28 0 c_28] 23)) := (Grew.refl _).alloc _
  go_wp2_with (go_at_call 21; refine (concat_b _ HLB.out HLN.out).mono ?_; rintro e w9 ⟨u, rfl, hrow, HC, g9⟩; rw [HFL.out] at HC; have HC9 := Lib.hid HC; clear HC hrow)
  go_ret
  exact ⟨_, rfl, HC9.out, ((g0.trans gz).trans gA).trans g9⟩
/-- What the operations of a region give. -/
def rgHs24 (W : World) (B : Nat) (f : SGR) : (Nat → Value) → Nat → Value → World → Prop
  | _, 0, v, _ => v = .pointer (some ⟨B, 0, none⟩)
  | _, 1, v, _ => v = .int .i64 f.s
  | _, 2, v, w => ∃ a c, v = .slice a 2 c ∧ Buf w (.slice a 2 c) (putL f.s 2 true)
  | _, 3, v, _ => v = .pointer (some ⟨B, 1, none⟩)
  | _, 4, v, _ => v = .int .i64 f.d
  | _, 5, v, w => ∃ a c, v = .slice a 2 c ∧ Buf w (.slice a 2 c) (putL f.d 2 true)
  | _, 6, v, _ => v = .pointer (some ⟨B, 2, none⟩)
  | _, 7, v, _ => v = .int .u32 f.q
  | _, 8, v, w => ∃ a c, v = .slice a 4 c ∧ Buf w (.slice a 4 c) (putL f.q 4 true)
  | _, 9, v, _ => v = .pointer (some ⟨B, 3, none⟩)
  | _, 10, v, _ => v = .int .u32 f.a
  | _, 11, v, w => ∃ a c, v = .slice a 4 c ∧ Buf w (.slice a 4 c) (putL f.a 4 true)
  | _, 12, v, _ => v = .pointer (some ⟨B, 4, none⟩)
  | _, 13, v, _ => v = .int .i64 24
  | _, 14, v, _ => v = .int .i64 6
  | _, 15, v, _ => v = .int .i64 96
  | _, 16, v, _ => v = .int .u8 96
  | _, 17, v, _ => v = .pointer (some ⟨B, 5, none⟩)
  | _, 18, v, _ => v = .int .i64 f.fl
  | _, 19, v, _ => v = .int .u8 (f.fl % 256)
  | _, 20, v, w => ∃ b0, v = .slice (some ⟨b0, 0, none⟩) 2 2 ∧ Buf w (.slice (some ⟨b0, 0, none⟩) 2 2) [96, f.fl % 256]
  | _, 21, v, _ => v = .pointer (some ⟨B, 6, none⟩)
  | _, 22, v, _ => v = .int .i64 f.wn
  | _, 23, v, w => ∃ a c, v = .slice a 2 c ∧ Buf w (.slice a 2 c) (putL f.wn 2 true)
  | _, 24, v, w => ∃ a c, v = .slice a 2 c ∧ Buf w (.slice a 2 c) (putL 0 2 true)
  | _, 25, v, w => ∃ a c, v = .slice a 2 c ∧ Buf w (.slice a 2 c) (putL 0 2 true)
  | _, 26, v, _ => v = .pointer (some ⟨B, 7, none⟩)
  | _, 27, v, _ => v = .int .i64 f.m
  | _, 28, v, w => ∃ a c, v = .slice a 4 c ∧ Buf w (.slice a 4 c) (opSG f)
  | _, _, _, _ => True
theorem rgHs24_grew {W : World} {B : Nat} {f : SGR} : ∀ vs j v w w', Grew w w' → rgHs24 W B f vs j v w → rgHs24 W B f vs j v w'
  | _, 0, _, _, _, _, h => h
  | _, 1, _, _, _, _, h => h
  | _, 2, _, _, _, g, ⟨b0, b1, e, h0⟩ => ⟨b0, b1, e, h0.grew g⟩
  | _, 3, _, _, _, _, h => h
  | _, 4, _, _, _, _, h => h
  | _, 5, _, _, _, g, ⟨b0, b1, e, h0⟩ => ⟨b0, b1, e, h0.grew g⟩
  | _, 6, _, _, _, _, h => h
  | _, 7, _, _, _, _, h => h
  | _, 8, _, _, _, g, ⟨b0, b1, e, h0⟩ => ⟨b0, b1, e, h0.grew g⟩
  | _, 9, _, _, _, _, h => h
  | _, 10, _, _, _, _, h => h
  | _, 11, _, _, _, g, ⟨b0, b1, e, h0⟩ => ⟨b0, b1, e, h0.grew g⟩
  | _, 12, _, _, _, _, h => h
  | _, 13, _, _, _, _, h => h
  | _, 14, _, _, _, _, h => h
  | _, 15, _, _, _, _, h => h
  | _, 16, _, _, _, _, h => h
  | _, 17, _, _, _, _, h => h
  | _, 18, _, _, _, _, h => h
  | _, 19, _, _, _, _, h => h
  | _, 20, _, _, _, g, ⟨b0, e, h0⟩ => ⟨b0, e, h0.grew g⟩
  | _, 21, _, _, _, _, h => h
  | _, 22, _, _, _, _, h => h
  | _, 23, _, _, _, g, ⟨b0, b1, e, h0⟩ => ⟨b0, b1, e, h0.grew g⟩
  | _, 24, _, _, _, g, ⟨b0, b1, e, h0⟩ => ⟨b0, b1, e, h0.grew g⟩
  | _, 25, _, _, _, g, ⟨b0, b1, e, h0⟩ => ⟨b0, b1, e, h0.grew g⟩
  | _, 26, _, _, _, _, h => h
  | _, 27, _, _, _, _, h => h
  | _, 28, _, _, _, g, ⟨b0, b1, e, h0⟩ => ⟨b0, b1, e, h0.grew g⟩
  | _, _ + 29, _, _, _, _, _ => True.intro
theorem rgHs24_lt {W : World} {B : Nat} {f : SGR} : ∀ vs j v w, ([] : List Nat).contains j = true → rgHs24 W B f vs j v w → ∀ g, leadsTo v = some g → g < w.heap.size
  | _, 0, _, _, hc, _ => by simp at hc
  | _, 1, _, _, hc, _ => by simp at hc
  | _, 2, _, _, hc, _ => by simp at hc
  | _, 3, _, _, hc, _ => by simp at hc
  | _, 4, _, _, hc, _ => by simp at hc
  | _, 5, _, _, hc, _ => by simp at hc
  | _, 6, _, _, hc, _ => by simp at hc
  | _, 7, _, _, hc, _ => by simp at hc
  | _, 8, _, _, hc, _ => by simp at hc
  | _, 9, _, _, hc, _ => by simp at hc
  | _, 10, _, _, hc, _ => by simp at hc
  | _, 11, _, _, hc, _ => by simp at hc
  | _, 12, _, _, hc, _ => by simp at hc
  | _, 13, _, _, hc, _ => by simp at hc
  | _, 14, _, _, hc, _ => by simp at hc
  | _, 15, _, _, hc, _ => by simp at hc
  | _, 16, _, _, hc, _ => by simp at hc
  | _, 17, _, _, hc, _ => by simp at hc
  | _, 18, _, _, hc, _ => by simp at hc
  | _, 19, _, _, hc, _ => by simp at hc
  | _, 20, _, _, hc, _ => by simp at hc
  | _, 21, _, _, hc, _ => by simp at hc
  | _, 22, _, _, hc, _ => by simp at hc
  | _, 23, _, _, hc, _ => by simp at hc
  | _, 24, _, _, hc, _ => by simp at hc
  | _, 25, _, _, hc, _ => by simp at hc
  | _, 26, _, _, hc, _ => by simp at hc
  | _, 27, _, _, hc, _ => by simp at hc
  | _, 28, _, _, hc, _ => by simp at hc
  | _, _ + 29, _, _, hc, _ => by simp at hc
theorem rgHs24_loc {W : World} {B : Nat} {f : SGR} : ∀ (vs vs' : Nat → Value) j v w, (∀ k ∈ ([[], [], [], [], [], [], [], [], [], [], [], [], [], [], [], [], [], [], [], [], [], [], [], [], [], [], [], [], []] : List (List Nat)).getD j [], vs k = vs' k) → rgHs24 W B f vs j v w → rgHs24 W B f vs' j v w
  | _, _, 0, _, _, _, h => h
  | _, _, 1, _, _, _, h => h
  | _, _, 2, _, _, _, h => h
  | _, _, 3, _, _, _, h => h
  | _, _, 4, _, _, _, h => h
  | _, _, 5, _, _, _, h => h
  | _, _, 6, _, _, _, h => h
  | _, _, 7, _, _, _, h => h
  | _, _, 8, _, _, _, h => h
  | _, _, 9, _, _, _, h => h
  | _, _, 10, _, _, _, h => h
  | _, _, 11, _, _, _, h => h
  | _, _, 12, _, _, _, h => h
  | _, _, 13, _, _, _, h => h
  | _, _, 14, _, _, _, h => h
  | _, _, 15, _, _, _, h => h
  | _, _, 16, _, _, _, h => h
  | _, _, 17, _, _, _, h => h
  | _, _, 18, _, _, _, h => h
  | _, _, 19, _, _, _, h => h
  | _, _, 20, _, _, _, h => h
  | _, _, 21, _, _, _, h => h
  | _, _, 22, _, _, _, h => h
  | _, _, 23, _, _, _, h => h
  | _, _, 24, _, _, _, h => h
  | _, _, 25, _, _, _, h => h
  | _, _, 26, _, _, _, h => h
  | _, _, 27, _, _, _, h => h
  | _, _, 28, _, _, _, h => h
  | _, _, _ + 29, _, _, _, _ => True.intro
theorem headS_flat24 {f : SGR} (hm : (f.m == 0) = false) : [putL f.s 2 true, putL f.d 2 true, putL f.q 4 true, putL f.a 4 true, [96, f.fl % 256], putL f.wn 2 true, putL 0 2 true, putL 0 2 true, opSG f].flatten = headS f := by
  have e0 : putL 0 2 true = [0, 0] := by decide
  have e1 : (80 + 4 * ((opSG f).length : Int)) = 96 := by rw [opl_1 hm]; rfl
  unfold headS pre12
  rw [e0, e1]
  simp
set_option maxHeartbeats 4000000 in
theorem bytesS_24 {f : SGR} (hm : (f.m == 0) = false) (hq : u32I f.q) (ha : u32I f.a) (hi : intI f.m) (w : World) :
    Calls Try.prog 23 #[.agg #[.int .i64 f.s, .int .i64 f.d, .int .u32 f.q, .int .u32 f.a, .int .i64 24, .int .i64 f.fl, .int .i64 f.wn, .int .i64 f.m]] w fun e w' => ∃ u, e = .returned u ∧ Buf w' u (headS f) ∧ Grew w w' := by
  have HQ := Lib.hid (show 0 ≤ f.q ∧ f.q < 4294967296 from hq)
  have HA := Lib.hid (show 0 ≤ f.a ∧ f.a < 4294967296 from ha)
  have EF := Lib.hid (show IntKind.u8.wrap f.fl = f.fl % 256 by rw [wrap_u8])
  have HOK := Lib.hid (show AreBytes [96, f.fl % 256] from two_ok _ _ (by omega) (by omega))
  have HMO : Hid (∀ w1, Calls Try.prog 41 #[.int .i64 f.m] w1 fun e w' => ∃ a c, e = .returned (.slice a 4 c) ∧ Buf w' (.slice a 4 c) (opSG f) ∧ Grew w1 w') := Lib.hid (fun w1 => (mssOp_c f.m hi w1).mono fun e w' ⟨a, n, c, he, hb, g⟩ => by
    have hl := hb.lenEq.1
    have ho : (if f.m = 0 then [] else [2, 4] ++ putL f.m 2 true) = opSG f := rfl
    rw [ho] at hb hl
    rw [opl_1 hm] at hl
    subst hl
    exact ⟨a, c, he, hb, g⟩)
  have HFL := Lib.hid (headS_flat24 hm)
  have HLN := Lib.hid (show [putL f.s 2 true, putL f.d 2 true, putL f.q 4 true, putL f.a 4 true, [96, f.fl % 256], putL f.wn 2 true, putL 0 2 true, putL 0 2 true, opSG f].flatten.length ≤ 140737488355328 by rw [headS_flat24 hm, headS_len, opl_1 hm]; omega)
  clear hm hq ha hi
  go_enter Try.func23, Try.ntmps23
  go_upto_region 1 with fail
  have hB : Blk (w.alloc (.cells #[.int .i64 f.s, .int .i64 f.d, .int .u32 f.q, .int .u32 f.a, .int .i64 24, .int .i64 f.fl, .int .i64 f.wn, .int .i64 f.m] 50)) w.heap.size #[.int .i64 f.s, .int .i64 f.d, .int .u32 f.q, .int .u32 f.a, .int .i64 24, .int .i64 f.fl, .int .i64 f.wn, .int .i64 f.m] 50 := Blk.new _ _ _ _ rfl
  have g0 : Grew w (w.alloc (.cells #[.int .i64 f.s, .int .i64 f.d, .int .u32 f.q, .int .u32 f.a, .int .i64 24, .int .i64 f.fl, .int .i64 f.wn, .int .i64 f.m] 50)) := (Grew.refl _).alloc _
  generalize (w.alloc (.cells #[.int .i64 f.s, .int .i64 f.d, .int .u32 f.q, .int .u32 f.a, .int .i64 24, .int .i64 f.fl, .int .i64 f.wn, .int .i64 f.m] 50)) = w0 at *
  generalize hlB : w.heap.size = B at *
  have HB0 := Lib.hid hB
  clear hB
  refine region_deps 29 [some 3, some 4, some 5, some 6, some 7, some 8, some 9, some 10, some 11, some 12, some 13, some 14, some 15, some 16, some 17, some 18, some 19, some 20, some 21, some 22, some 23, some 24, some 25, some 26, some 27, some 28, some 29, some 30, some 31] [[], [], [], [], [], [], [], [], [], [], [], [], [], [], [], [], [], [], [], [], [], [], [], [], [], [], [], [], []] [] (rgHs24 w0 B f) rgHs24_grew rgHs24_lt rgHs24_loc (Grew.refl w0) (by kernel_rfl) (by kernel_rfl) ?_ ?_
  · simp only [List.take_succ_cons, List.take_zero]
    refine GivesAll.cons (fun vs w1 g1 hd K hK => ?_) ?_
    · simp only [putsT, Nat.zero_add, Nat.reduceAdd, List.getD_cons_zero, List.getD_cons_succ, Act.put, List.setIfInBounds_toArray, List.set_cons_zero, List.set_cons_succ] at hK ⊢
      go_simp
      exact hK _ _ (Grew.refl _) rfl (fun h => by simp at h)
    refine GivesAll.cons (fun vs w1 g1 hd K hK => ?_) ?_
    · have e0 : vs 0 = .pointer (some ⟨B, 0, none⟩) := hd 0 (by kernel_rfl)
      simp only [putsT, Nat.zero_add, Nat.reduceAdd, List.getD_cons_zero, List.getD_cons_succ, Act.put, List.setIfInBounds_toArray, List.set_cons_zero, List.set_cons_succ, e0] at hK ⊢
      have y0 := (HB0.out.grew g1).cell 0
      go_simp
      exact hK _ _ (Grew.refl _) rfl (fun h => by simp at h)
    refine GivesAll.cons (fun vs w1 g1 hd K hK => ?_) ?_
    · have e1 : vs 1 = .int .i64 f.s := hd 1 (by kernel_rfl)
      simp only [putsT, Nat.zero_add, Nat.reduceAdd, List.getD_cons_zero, List.getD_cons_succ, Act.put, List.setIfInBounds_toArray, List.set_cons_zero, List.set_cons_succ, e1] at hK ⊢
      go_simp
      refine Calls.mono (sgPair_c f.s w1) ?_
      rintro e w5 ⟨a, c, rfl, hrw, hb, g5⟩
      exact hK _ _ g5 ⟨_, _, rfl, hb⟩ (fun h => by simp at h)
    refine GivesAll.cons (fun vs w1 g1 hd K hK => ?_) ?_
    · simp only [putsT, Nat.zero_add, Nat.reduceAdd, List.getD_cons_zero, List.getD_cons_succ, Act.put, List.setIfInBounds_toArray, List.set_cons_zero, List.set_cons_succ] at hK ⊢
      go_simp
      exact hK _ _ (Grew.refl _) rfl (fun h => by simp at h)
    refine GivesAll.cons (fun vs w1 g1 hd K hK => ?_) ?_
    · have e3 : vs 3 = .pointer (some ⟨B, 1, none⟩) := hd 3 (by kernel_rfl)
      simp only [putsT, Nat.zero_add, Nat.reduceAdd, List.getD_cons_zero, List.getD_cons_succ, Act.put, List.setIfInBounds_toArray, List.set_cons_zero, List.set_cons_succ, e3] at hK ⊢
      have y1 := (HB0.out.grew g1).cell 1
      go_simp
      exact hK _ _ (Grew.refl _) rfl (fun h => by simp at h)
    refine GivesAll.cons (fun vs w1 g1 hd K hK => ?_) ?_
    · have e4 : vs 4 = .int .i64 f.d := hd 4 (by kernel_rfl)
      simp only [putsT, Nat.zero_add, Nat.reduceAdd, List.getD_cons_zero, List.getD_cons_succ, Act.put, List.setIfInBounds_toArray, List.set_cons_zero, List.set_cons_succ, e4] at hK ⊢
      go_simp
      refine Calls.mono (sgPair_c f.d w1) ?_
      rintro e w5 ⟨a, c, rfl, hrw, hb, g5⟩
      exact hK _ _ g5 ⟨_, _, rfl, hb⟩ (fun h => by simp at h)
    refine GivesAll.cons (fun vs w1 g1 hd K hK => ?_) ?_
    · simp only [putsT, Nat.zero_add, Nat.reduceAdd, List.getD_cons_zero, List.getD_cons_succ, Act.put, List.setIfInBounds_toArray, List.set_cons_zero, List.set_cons_succ] at hK ⊢
      go_simp
      exact hK _ _ (Grew.refl _) rfl (fun h => by simp at h)
    refine GivesAll.cons (fun vs w1 g1 hd K hK => ?_) ?_
    · have e6 : vs 6 = .pointer (some ⟨B, 2, none⟩) := hd 6 (by kernel_rfl)
      simp only [putsT, Nat.zero_add, Nat.reduceAdd, List.getD_cons_zero, List.getD_cons_succ, Act.put, List.setIfInBounds_toArray, List.set_cons_zero, List.set_cons_succ, e6] at hK ⊢
      have y2 := (HB0.out.grew g1).cell 2
      go_simp
      exact hK _ _ (Grew.refl _) rfl (fun h => by simp at h)
    refine GivesAll.cons (fun vs w1 g1 hd K hK => ?_) ?_
    · have e7 : vs 7 = .int .u32 f.q := hd 7 (by kernel_rfl)
      simp only [putsT, Nat.zero_add, Nat.reduceAdd, List.getD_cons_zero, List.getD_cons_succ, Act.put, List.setIfInBounds_toArray, List.set_cons_zero, List.set_cons_succ, e7] at hK ⊢
      go_simp
      refine Calls.mono (sgLong_c f.q HQ.out w1) ?_
      rintro e w5 ⟨a, c, rfl, hb, g5⟩
      exact hK _ _ g5 ⟨_, _, rfl, hb⟩ (fun h => by simp at h)
    refine GivesAll.cons (fun vs w1 g1 hd K hK => ?_) ?_
    · simp only [putsT, Nat.zero_add, Nat.reduceAdd, List.getD_cons_zero, List.getD_cons_succ, Act.put, List.setIfInBounds_toArray, List.set_cons_zero, List.set_cons_succ] at hK ⊢
      go_simp
      exact hK _ _ (Grew.refl _) rfl (fun h => by simp at h)
    refine GivesAll.cons (fun vs w1 g1 hd K hK => ?_) ?_
    · have e9 : vs 9 = .pointer (some ⟨B, 3, none⟩) := hd 9 (by kernel_rfl)
      simp only [putsT, Nat.zero_add, Nat.reduceAdd, List.getD_cons_zero, List.getD_cons_succ, Act.put, List.setIfInBounds_toArray, List.set_cons_zero, List.set_cons_succ, e9] at hK ⊢
      have y3 := (HB0.out.grew g1).cell 3
      go_simp
      exact hK _ _ (Grew.refl _) rfl (fun h => by simp at h)
    refine GivesAll.cons (fun vs w1 g1 hd K hK => ?_) ?_
    · have e10 : vs 10 = .int .u32 f.a := hd 10 (by kernel_rfl)
      simp only [putsT, Nat.zero_add, Nat.reduceAdd, List.getD_cons_zero, List.getD_cons_succ, Act.put, List.setIfInBounds_toArray, List.set_cons_zero, List.set_cons_succ, e10] at hK ⊢
      go_simp
      refine Calls.mono (sgLong_c f.a HA.out w1) ?_
      rintro e w5 ⟨a, c, rfl, hb, g5⟩
      exact hK _ _ g5 ⟨_, _, rfl, hb⟩ (fun h => by simp at h)
    refine GivesAll.cons (fun vs w1 g1 hd K hK => ?_) ?_
    · simp only [putsT, Nat.zero_add, Nat.reduceAdd, List.getD_cons_zero, List.getD_cons_succ, Act.put, List.setIfInBounds_toArray, List.set_cons_zero, List.set_cons_succ] at hK ⊢
      go_simp
      exact hK _ _ (Grew.refl _) rfl (fun h => by simp at h)
    refine GivesAll.cons (fun vs w1 g1 hd K hK => ?_) ?_
    · have e12 : vs 12 = .pointer (some ⟨B, 4, none⟩) := hd 12 (by kernel_rfl)
      simp only [putsT, Nat.zero_add, Nat.reduceAdd, List.getD_cons_zero, List.getD_cons_succ, Act.put, List.setIfInBounds_toArray, List.set_cons_zero, List.set_cons_succ, e12] at hK ⊢
      have y4 := (HB0.out.grew g1).cell 4
      go_simp
      exact hK _ _ (Grew.refl _) rfl (fun h => by simp at h)
    refine GivesAll.cons (fun vs w1 g1 hd K hK => ?_) ?_
    · have e13 : vs 13 = .int .i64 24 := hd 13 (by kernel_rfl)
      simp only [putsT, Nat.zero_add, Nat.reduceAdd, List.getD_cons_zero, List.getD_cons_succ, Act.put, List.setIfInBounds_toArray, List.set_cons_zero, List.set_cons_succ, e13] at hK ⊢
      go_simp
      exact hK _ _ (Grew.refl _) rfl (fun h => by simp at h)
    refine GivesAll.cons (fun vs w1 g1 hd K hK => ?_) ?_
    · have e14 : vs 14 = .int .i64 6 := hd 14 (by kernel_rfl)
      simp only [putsT, Nat.zero_add, Nat.reduceAdd, List.getD_cons_zero, List.getD_cons_succ, Act.put, List.setIfInBounds_toArray, List.set_cons_zero, List.set_cons_succ, e14] at hK ⊢
      go_simp
      exact hK _ _ (Grew.refl _) rfl (fun h => by simp at h)
    refine GivesAll.cons (fun vs w1 g1 hd K hK => ?_) ?_
    · have e15 : vs 15 = .int .i64 96 := hd 15 (by kernel_rfl)
      simp only [putsT, Nat.zero_add, Nat.reduceAdd, List.getD_cons_zero, List.getD_cons_succ, Act.put, List.setIfInBounds_toArray, List.set_cons_zero, List.set_cons_succ, e15] at hK ⊢
      go_simp
      exact hK _ _ (Grew.refl _) rfl (fun h => by simp at h)
    refine GivesAll.cons (fun vs w1 g1 hd K hK => ?_) ?_
    · simp only [putsT, Nat.zero_add, Nat.reduceAdd, List.getD_cons_zero, List.getD_cons_succ, Act.put, List.setIfInBounds_toArray, List.set_cons_zero, List.set_cons_succ] at hK ⊢
      go_simp
      exact hK _ _ (Grew.refl _) rfl (fun h => by simp at h)
    refine GivesAll.cons (fun vs w1 g1 hd K hK => ?_) ?_
    · have e17 : vs 17 = .pointer (some ⟨B, 5, none⟩) := hd 17 (by kernel_rfl)
      simp only [putsT, Nat.zero_add, Nat.reduceAdd, List.getD_cons_zero, List.getD_cons_succ, Act.put, List.setIfInBounds_toArray, List.set_cons_zero, List.set_cons_succ, e17] at hK ⊢
      have y5 := (HB0.out.grew g1).cell 5
      go_simp
      exact hK _ _ (Grew.refl _) rfl (fun h => by simp at h)
    refine GivesAll.cons (fun vs w1 g1 hd K hK => ?_) ?_
    · have e18 : vs 18 = .int .i64 f.fl := hd 18 (by kernel_rfl)
      simp only [putsT, Nat.zero_add, Nat.reduceAdd, List.getD_cons_zero, List.getD_cons_succ, Act.put, List.setIfInBounds_toArray, List.set_cons_zero, List.set_cons_succ, e18] at hK ⊢
      have ew := EF.out
      go_simp
      exact hK _ _ (Grew.refl _) rfl (fun h => by simp at h)
    refine GivesAll.cons (fun vs w1 g1 hd K hK => ?_) ?_
    · have e16 : vs 16 = .int .u8 96 := hd 16 (by kernel_rfl)
      have e19 : vs 19 = .int .u8 (f.fl % 256) := hd 19 (by kernel_rfl)
      simp only [putsT, Nat.zero_add, Nat.reduceAdd, List.getD_cons_zero, List.getD_cons_succ, Act.put, List.setIfInBounds_toArray, List.set_cons_zero, List.set_cons_succ, e16, e19] at hK ⊢
      go_simp
      exact hK _ _ ((Grew.refl _).alloc _) ⟨_, rfl, (Row.lit w1 w1.heap.size (Nat.le_refl _) #[.int .u8 96, .int .u8 (f.fl % 256)] [96, f.fl % 256] rfl (by unfold maxLen; simp) _ rfl 2 rfl).buf HOK.out⟩ (fun h => by simp at h)
    refine GivesAll.cons (fun vs w1 g1 hd K hK => ?_) ?_
    · simp only [putsT, Nat.zero_add, Nat.reduceAdd, List.getD_cons_zero, List.getD_cons_succ, Act.put, List.setIfInBounds_toArray, List.set_cons_zero, List.set_cons_succ] at hK ⊢
      go_simp
      exact hK _ _ (Grew.refl _) rfl (fun h => by simp at h)
    refine GivesAll.cons (fun vs w1 g1 hd K hK => ?_) ?_
    · have e21 : vs 21 = .pointer (some ⟨B, 6, none⟩) := hd 21 (by kernel_rfl)
      simp only [putsT, Nat.zero_add, Nat.reduceAdd, List.getD_cons_zero, List.getD_cons_succ, Act.put, List.setIfInBounds_toArray, List.set_cons_zero, List.set_cons_succ, e21] at hK ⊢
      have y6 := (HB0.out.grew g1).cell 6
      go_simp
      exact hK _ _ (Grew.refl _) rfl (fun h => by simp at h)
    refine GivesAll.cons (fun vs w1 g1 hd K hK => ?_) ?_
    · have e22 : vs 22 = .int .i64 f.wn := hd 22 (by kernel_rfl)
      simp only [putsT, Nat.zero_add, Nat.reduceAdd, List.getD_cons_zero, List.getD_cons_succ, Act.put, List.setIfInBounds_toArray, List.set_cons_zero, List.set_cons_succ, e22] at hK ⊢
      go_simp
      refine Calls.mono (sgPair_c f.wn w1) ?_
      rintro e w5 ⟨a, c, rfl, hrw, hb, g5⟩
      exact hK _ _ g5 ⟨_, _, rfl, hb⟩ (fun h => by simp at h)
    refine GivesAll.cons (fun vs w1 g1 hd K hK => ?_) ?_
    · simp only [putsT, Nat.zero_add, Nat.reduceAdd, List.getD_cons_zero, List.getD_cons_succ, Act.put, List.setIfInBounds_toArray, List.set_cons_zero, List.set_cons_succ] at hK ⊢
      go_simp
      refine Calls.mono (sgPair_c 0 w1) ?_
      rintro e w5 ⟨a, c, rfl, hrw, hb, g5⟩
      exact hK _ _ g5 ⟨_, _, rfl, hb⟩ (fun h => by simp at h)
    refine GivesAll.cons (fun vs w1 g1 hd K hK => ?_) ?_
    · simp only [putsT, Nat.zero_add, Nat.reduceAdd, List.getD_cons_zero, List.getD_cons_succ, Act.put, List.setIfInBounds_toArray, List.set_cons_zero, List.set_cons_succ] at hK ⊢
      go_simp
      refine Calls.mono (sgPair_c 0 w1) ?_
      rintro e w5 ⟨a, c, rfl, hrw, hb, g5⟩
      exact hK _ _ g5 ⟨_, _, rfl, hb⟩ (fun h => by simp at h)
    refine GivesAll.cons (fun vs w1 g1 hd K hK => ?_) ?_
    · simp only [putsT, Nat.zero_add, Nat.reduceAdd, List.getD_cons_zero, List.getD_cons_succ, Act.put, List.setIfInBounds_toArray, List.set_cons_zero, List.set_cons_succ] at hK ⊢
      go_simp
      exact hK _ _ (Grew.refl _) rfl (fun h => by simp at h)
    refine GivesAll.cons (fun vs w1 g1 hd K hK => ?_) ?_
    · have e26 : vs 26 = .pointer (some ⟨B, 7, none⟩) := hd 26 (by kernel_rfl)
      simp only [putsT, Nat.zero_add, Nat.reduceAdd, List.getD_cons_zero, List.getD_cons_succ, Act.put, List.setIfInBounds_toArray, List.set_cons_zero, List.set_cons_succ, e26] at hK ⊢
      have y7 := (HB0.out.grew g1).cell 7
      go_simp
      exact hK _ _ (Grew.refl _) rfl (fun h => by simp at h)
    refine GivesAll.cons (fun vs w1 g1 hd K hK => ?_) ?_
    · have e27 : vs 27 = .int .i64 f.m := hd 27 (by kernel_rfl)
      simp only [putsT, Nat.zero_add, Nat.reduceAdd, List.getD_cons_zero, List.getD_cons_succ, Act.put, List.setIfInBounds_toArray, List.set_cons_zero, List.set_cons_succ, e27] at hK ⊢
      go_simp
      refine Calls.mono (HMO.out w1) ?_
      rintro e w5 ⟨a, c, rfl, hb, g5⟩
      exact hK _ _ g5 ⟨_, _, rfl, hb⟩ (fun h => by simp at h)
    exact GivesAll.nil
  intro vs wz gz hv hap
  have e0 : vs 0 = .pointer (some ⟨B, 0, none⟩) := hv 0 (by decide)
  have e1 : vs 1 = .int .i64 f.s := hv 1 (by decide)
  obtain ⟨a_2, c_2, e2, r2_0⟩ := hv 2 (by decide)
  have e3 : vs 3 = .pointer (some ⟨B, 1, none⟩) := hv 3 (by decide)
  have e4 : vs 4 = .int .i64 f.d := hv 4 (by decide)
  obtain ⟨a_5, c_5, e5, r5_0⟩ := hv 5 (by decide)
  have e6 : vs 6 = .pointer (some ⟨B, 2, none⟩) := hv 6 (by decide)
  have e7 : vs 7 = .int .u32 f.q := hv 7 (by decide)
  obtain ⟨a_8, c_8, e8, r8_0⟩ := hv 8 (by decide)
  have e9 : vs 9 = .pointer (some ⟨B, 3, none⟩) := hv 9 (by decide)
  have e10 : vs 10 = .int .u32 f.a := hv 10 (by decide)
  obtain ⟨a_11, c_11, e11, r11_0⟩ := hv 11 (by decide)
  have e12 : vs 12 = .pointer (some ⟨B, 4, none⟩) := hv 12 (by decide)
  have e13 : vs 13 = .int .i64 24 := hv 13 (by decide)
  have e14 : vs 14 = .int .i64 6 := hv 14 (by decide)
  have e15 : vs 15 = .int .i64 96 := hv 15 (by decide)
  have e16 : vs 16 = .int .u8 96 := hv 16 (by decide)
  have e17 : vs 17 = .pointer (some ⟨B, 5, none⟩) := hv 17 (by decide)
  have e18 : vs 18 = .int .i64 f.fl := hv 18 (by decide)
  have e19 : vs 19 = .int .u8 (f.fl % 256) := hv 19 (by decide)
  obtain ⟨b0_20, e20, r20_0⟩ := hv 20 (by decide)
  have e21 : vs 21 = .pointer (some ⟨B, 6, none⟩) := hv 21 (by decide)
  have e22 : vs 22 = .int .i64 f.wn := hv 22 (by decide)
  obtain ⟨a_23, c_23, e23, r23_0⟩ := hv 23 (by decide)
  obtain ⟨a_24, c_24, e24, r24_0⟩ := hv 24 (by decide)
  obtain ⟨a_25, c_25, e25, r25_0⟩ := hv 25 (by decide)
  have e26 : vs 26 = .pointer (some ⟨B, 7, none⟩) := hv 26 (by decide)
  have e27 : vs 27 = .int .i64 f.m := hv 27 (by decide)
  obtain ⟨a_28, c_28, e28, r28_0⟩ := hv 28 (by decide)
  clear hv hap
  simp only [putsT, Nat.zero_add, Nat.reduceAdd, List.getD_cons_zero, List.getD_cons_succ, Act.put, List.setIfInBounds_toArray, List.set_cons_zero, List.set_cons_succ, List.drop_succ_cons, List.drop_zero, e0, e1, e2, e3, e4, e5, e6, e7, e8, e9, e10, e11, e12, e13, e14, e15, e16, e17, e18, e19, e20, e21, e22, e23, e24, e25, e26, e27, e28]
  clear e0 e1 e2 e3 e4 e5 e6 e7 e8 e9 e10 e11 e12 e13 e14 e15 e16 e17 e18 e19 e20 e21 e22 e23 e24 e25 e26 e27 e28
  have HLB := Lib.hid (Bufs.ofBlk (Blk.new wz #[.slice a_2 2 c_2, .slice a_5 2 c_5, .slice a_8 4 c_8, .slice a_11 4 c_11, .slice (some ⟨b0_20, 0, none⟩) 2 2, .slice a_23 2 c_23, .slice a_24 2 c_24, .slice a_25 2 c_25, .slice a_28 4 c_28] 23 _ rfl) [putL f.s 2 true, putL f.d 2 true, putL f.q 4 true, putL f.a 4 true, [96, f.fl % 256], putL f.wn 2 true, putL 0 2 true, putL 0 2 true, opSG f] 9 9 rfl (by unfold maxLen; simp) (fun i hi => by
    match i, hi with
    | 0, _ => exact ⟨_, rfl, (r2_0).grew ((Grew.refl wz).alloc _)⟩
    | 1, _ => exact ⟨_, rfl, (r5_0).grew ((Grew.refl wz).alloc _)⟩
    | 2, _ => exact ⟨_, rfl, (r8_0).grew ((Grew.refl wz).alloc _)⟩
    | 3, _ => exact ⟨_, rfl, (r11_0).grew ((Grew.refl wz).alloc _)⟩
    | 4, _ => exact ⟨_, rfl, (r20_0).grew ((Grew.refl wz).alloc _)⟩
    | 5, _ => exact ⟨_, rfl, (r23_0).grew ((Grew.refl wz).alloc _)⟩
    | 6, _ => exact ⟨_, rfl, (r24_0).grew ((Grew.refl wz).alloc _)⟩
    | 7, _ => exact ⟨_, rfl, (r25_0).grew ((Grew.refl wz).alloc _)⟩
    | 8, _ => exact ⟨_, rfl, (r28_0).grew ((Grew.refl wz).alloc _)⟩))
  have gA : Grew wz (wz.alloc (.cells #[.slice a_2 2 c_2, .slice a_5 2 c_5, .slice a_8 4 c_8, .slice a_11 4 c_11, .slice (some ⟨b0_20, 0, none⟩) 2 2, .slice a_23 2 c_23, .slice a_24 2 c_24, .slice a_25 2 c_25, .slice a_28 4 c_28] 23)) := (Grew.refl _).alloc _
  go_wp2_with (go_at_call 21; refine (concat_b _ HLB.out HLN.out).mono ?_; rintro e w9 ⟨u, rfl, hrow, HC, g9⟩; rw [HFL.out] at HC; have HC9 := Lib.hid HC; clear HC hrow)
  go_ret
  exact ⟨_, rfl, HC9.out, ((g0.trans gz).trans gA).trans g9⟩
theorem bytesS_c {f : SGR} (hq : u32I f.q) (ha : u32I f.a) (hi : intI f.m) (w : World) :
    Calls Try.prog 23 #[hdA f] w fun e w' => ∃ u, e = .returned u ∧ Buf w' u (headS f) ∧ Grew w w' := by
  unfold hdA
  cases h : (f.m == 0)
  · rw [hN_1 h]; exact bytesS_24 h hq ha hi w
  · rw [hN_0 h]; exact bytesS_20 h hq ha hi w
end Go.Proofs.Ytiaejlbkdgcfiaa
