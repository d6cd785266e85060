/-
  The document's own packets: small functions, right.
-/
import Derived.Test.YtalbdeifkbfnbaaDoorIpN
set_option maxRecDepth 4000
set_option linter.unusedVariables false
set_option linter.unusedSimpArgs false
namespace Go.Proofs.YtalbdeifkbfnbaaDoor
open Go.RowKit

theorem refWithin_c (n most : Int) (b : Bool) (hb : inV n most = b) (w : World) :
    Calls Tryd.prog 44 #[.int .i64 n, .int .i64 most] w fun e w' => e = .returned (.bool b) ∧ w' = w := by
  subst hb
  by_cases h1 : 0 ≤ n
  · cases h2 : decide (n ≤ most)
    · rw [show inV n most = false by unfold inV; simp at h2; exact decide_eq_false (by omega)]
      go_enter Tryd.func44, Tryd.ntmps44
      go_wp2_with fail
      go_ret
      exact ⟨rfl, rfl⟩
    · rw [show inV n most = true by unfold inV; simp at h2; exact decide_eq_true (by omega)]
      go_enter Tryd.func44, Tryd.ntmps44
      go_wp2_with fail
      go_ret
      exact ⟨rfl, rfl⟩
  · rw [show inV n most = false by unfold inV; exact decide_eq_false (by omega)]
    go_enter Tryd.func44, Tryd.ntmps44
    go_wp2_with fail
    go_ret
    exact ⟨rfl, rfl⟩
theorem refTwo_c (x : Int) (h0 : 0 ≤ x) (h1 : x ≤ 9223372036854775807) (w : World) :
    Calls Tryd.prog 23 #[.int .i64 x] w fun e w' => ∃ a c, e = .returned (.slice a 2 c) ∧ Row w' w.heap.size (.slice a 2 c) (putL x 2 true) ∧ Buf w' (.slice a 2 c) (putL x 2 true) ∧ Grew w w' := by
  have hw : IntKind.u64.wrap x = x := IntWalk.u64_in x (by omega)
  go_enter Tryd.func23, Tryd.ntmps23
  go_wp2_with fail
  try rw [hw]
  refine (refPutB_c x _ 2 true (by rfl) (by omega) (by omega) (by omega) _).mono ?_
  rintro e w1 ⟨u1, rfl, r1, b1, g1⟩
  obtain ⟨a, c, rfl, _, _⟩ := b1.shape
  rw [putB_len] at b1 r1 ⊢
  have B1 := Lib.hid b1
  have R1 := Lib.hid r1
  clear b1 r1
  go_wp2_with fail
  go_ret
  exact ⟨_, _, rfl, R1.out, B1.out, g1⟩
theorem refNumber_c {v : Value} {xs : List Int} (h8 : xs.length ≤ 7) (w : World) (hb : Buf w v xs) :
    Calls Tryd.prog 28 #[v] w fun e w' => e = .returned (.int .i64 (getV xs true)) ∧ Grew w w' := by
  have hg := getG_lt hb.ok true rfl (by omega)
  have hp : (2 : Int) ^ (8 * xs.length) ≤ 2 ^ 56 := pow_le_pow' (by omega)
  have hw : IntKind.i64.wrap (getV xs true) = getV xs true := IntWalk.i64_in _ (by have : (2 : Int) ^ 56 = 72057594037927936 := by decide
                                                                                   omega)
  have HG := Lib.hid ((refGet_c true hb.ok (by omega) w hb.bytes))
  obtain ⟨a, c, rfl, _, _⟩ := hb.shape
  clear hb hg hp h8
  generalize getV xs true = g at *
  go_enter Tryd.func28, Tryd.ntmps28
  go_wp2_with fail
  refine HG.out.mono ?_
  rintro e w1 ⟨rfl, h1⟩
  obtain rfl := h1.symm
  go_wp2_with fail
  go_ret
  exact ⟨rfl, Grew.refl _⟩
theorem refRight_0 {f : PK} {p1 : Option Addr} {k1 : Nat} {p2 : Option Addr} {k2 : Nat}  (q0 : inV f.tos 255 = false) (w : World) :
    Calls Tryd.prog 22 #[.agg #[.int .i64 f.tos, .int .i64 f.id, .int .i64 f.fl, .int .i64 f.off, .int .i64 f.ttl, .int .i64 f.pr, .int .u32 f.si, .int .u32 f.di, .slice p1 f.o.length k1, .slice p2 f.x.length k2]] w fun e w' => e = .returned (.bool false) ∧ Grew w w' := by
  go_enter Tryd.func22, Tryd.ntmps22
  go_upto_region 1 with fail
  have hB : Blk (w.alloc (.cells #[.int .i64 f.tos, .int .i64 f.id, .int .i64 f.fl, .int .i64 f.off, .int .i64 f.ttl, .int .i64 f.pr, .int .u32 f.si, .int .u32 f.di, .slice p1 f.o.length k1, .slice p2 f.x.length k2] 25)) w.heap.size #[.int .i64 f.tos, .int .i64 f.id, .int .i64 f.fl, .int .i64 f.off, .int .i64 f.ttl, .int .i64 f.pr, .int .u32 f.si, .int .u32 f.di, .slice p1 f.o.length k1, .slice p2 f.x.length k2] 25 := Blk.new _ _ _ _ rfl
  have g0 : Grew w (w.alloc (.cells #[.int .i64 f.tos, .int .i64 f.id, .int .i64 f.fl, .int .i64 f.off, .int .i64 f.ttl, .int .i64 f.pr, .int .u32 f.si, .int .u32 f.di, .slice p1 f.o.length k1, .slice p2 f.x.length k2] 25)) := (Grew.refl _).alloc _
  generalize (w.alloc (.cells #[.int .i64 f.tos, .int .i64 f.id, .int .i64 f.fl, .int .i64 f.off, .int .i64 f.ttl, .int .i64 f.pr, .int .u32 f.si, .int .u32 f.di, .slice p1 f.o.length k1, .slice p2 f.x.length k2] 25)) = w0 at *
  generalize hlB : w.heap.size = B at *
  have y0 := hB.cell 0
  have y1 := hB.cell 1
  have y2 := hB.cell 2
  have y3 := hB.cell 3
  have y4 := hB.cell 4
  have y5 := hB.cell 5
  have y6 := hB.cell 6
  have y7 := hB.cell 7
  have y8 := hB.cell 8
  have y9 := hB.cell 9
  go_wp2_with (first | (go_at_call 44; refine (refWithin_c _ _ _ (by assumption) _).mono ?_; rintro e w2 ⟨rfl, h2⟩; obtain rfl := h2.symm))
  go_ret
  exact ⟨rfl, g0⟩
theorem refRight_1 {f : PK} {p1 : Option Addr} {k1 : Nat} {p2 : Option Addr} {k2 : Nat} (q0 : inV f.tos 255 = true) (q1 : inV f.ttl 255 = false) (w : World) :
    Calls Tryd.prog 22 #[.agg #[.int .i64 f.tos, .int .i64 f.id, .int .i64 f.fl, .int .i64 f.off, .int .i64 f.ttl, .int .i64 f.pr, .int .u32 f.si, .int .u32 f.di, .slice p1 f.o.length k1, .slice p2 f.x.length k2]] w fun e w' => e = .returned (.bool false) ∧ Grew w w' := by
  go_enter Tryd.func22, Tryd.ntmps22
  go_upto_region 1 with fail
  have hB : Blk (w.alloc (.cells #[.int .i64 f.tos, .int .i64 f.id, .int .i64 f.fl, .int .i64 f.off, .int .i64 f.ttl, .int .i64 f.pr, .int .u32 f.si, .int .u32 f.di, .slice p1 f.o.length k1, .slice p2 f.x.length k2] 25)) w.heap.size #[.int .i64 f.tos, .int .i64 f.id, .int .i64 f.fl, .int .i64 f.off, .int .i64 f.ttl, .int .i64 f.pr, .int .u32 f.si, .int .u32 f.di, .slice p1 f.o.length k1, .slice p2 f.x.length k2] 25 := Blk.new _ _ _ _ rfl
  have g0 : Grew w (w.alloc (.cells #[.int .i64 f.tos, .int .i64 f.id, .int .i64 f.fl, .int .i64 f.off, .int .i64 f.ttl, .int .i64 f.pr, .int .u32 f.si, .int .u32 f.di, .slice p1 f.o.length k1, .slice p2 f.x.length k2] 25)) := (Grew.refl _).alloc _
  generalize (w.alloc (.cells #[.int .i64 f.tos, .int .i64 f.id, .int .i64 f.fl, .int .i64 f.off, .int .i64 f.ttl, .int .i64 f.pr, .int .u32 f.si, .int .u32 f.di, .slice p1 f.o.length k1, .slice p2 f.x.length k2] 25)) = w0 at *
  generalize hlB : w.heap.size = B at *
  have y0 := hB.cell 0
  have y1 := hB.cell 1
  have y2 := hB.cell 2
  have y3 := hB.cell 3
  have y4 := hB.cell 4
  have y5 := hB.cell 5
  have y6 := hB.cell 6
  have y7 := hB.cell 7
  have y8 := hB.cell 8
  have y9 := hB.cell 9
  go_wp2_with (first | (go_at_call 44; refine (refWithin_c _ _ _ (by assumption) _).mono ?_; rintro e w2 ⟨rfl, h2⟩; obtain rfl := h2.symm))
  go_ret
  exact ⟨rfl, g0⟩
theorem refRight_2 {f : PK} {p1 : Option Addr} {k1 : Nat} {p2 : Option Addr} {k2 : Nat} (q0 : inV f.tos 255 = true) (q1 : inV f.ttl 255 = true) (q2 : inV f.pr 255 = false) (w : World) :
    Calls Tryd.prog 22 #[.agg #[.int .i64 f.tos, .int .i64 f.id, .int .i64 f.fl, .int .i64 f.off, .int .i64 f.ttl, .int .i64 f.pr, .int .u32 f.si, .int .u32 f.di, .slice p1 f.o.length k1, .slice p2 f.x.length k2]] w fun e w' => e = .returned (.bool false) ∧ Grew w w' := by
  go_enter Tryd.func22, Tryd.ntmps22
  go_upto_region 1 with fail
  have hB : Blk (w.alloc (.cells #[.int .i64 f.tos, .int .i64 f.id, .int .i64 f.fl, .int .i64 f.off, .int .i64 f.ttl, .int .i64 f.pr, .int .u32 f.si, .int .u32 f.di, .slice p1 f.o.length k1, .slice p2 f.x.length k2] 25)) w.heap.size #[.int .i64 f.tos, .int .i64 f.id, .int .i64 f.fl, .int .i64 f.off, .int .i64 f.ttl, .int .i64 f.pr, .int .u32 f.si, .int .u32 f.di, .slice p1 f.o.length k1, .slice p2 f.x.length k2] 25 := Blk.new _ _ _ _ rfl
  have g0 : Grew w (w.alloc (.cells #[.int .i64 f.tos, .int .i64 f.id, .int .i64 f.fl, .int .i64 f.off, .int .i64 f.ttl, .int .i64 f.pr, .int .u32 f.si, .int .u32 f.di, .slice p1 f.o.length k1, .slice p2 f.x.length k2] 25)) := (Grew.refl _).alloc _
  generalize (w.alloc (.cells #[.int .i64 f.tos, .int .i64 f.id, .int .i64 f.fl, .int .i64 f.off, .int .i64 f.ttl, .int .i64 f.pr, .int .u32 f.si, .int .u32 f.di, .slice p1 f.o.length k1, .slice p2 f.x.length k2] 25)) = w0 at *
  generalize hlB : w.heap.size = B at *
  have y0 := hB.cell 0
  have y1 := hB.cell 1
  have y2 := hB.cell 2
  have y3 := hB.cell 3
  have y4 := hB.cell 4
  have y5 := hB.cell 5
  have y6 := hB.cell 6
  have y7 := hB.cell 7
  have y8 := hB.cell 8
  have y9 := hB.cell 9
  go_wp2_with (first | (go_at_call 44; refine (refWithin_c _ _ _ (by assumption) _).mono ?_; rintro e w2 ⟨rfl, h2⟩; obtain rfl := h2.symm))
  go_ret
  exact ⟨rfl, g0⟩
theorem refRight_3 {f : PK} {p1 : Option Addr} {k1 : Nat} {p2 : Option Addr} {k2 : Nat} (q0 : inV f.tos 255 = true) (q1 : inV f.ttl 255 = true) (q2 : inV f.pr 255 = true) (q3 : inV f.id 65535 = false) (w : World) :
    Calls Tryd.prog 22 #[.agg #[.int .i64 f.tos, .int .i64 f.id, .int .i64 f.fl, .int .i64 f.off, .int .i64 f.ttl, .int .i64 f.pr, .int .u32 f.si, .int .u32 f.di, .slice p1 f.o.length k1, .slice p2 f.x.length k2]] w fun e w' => e = .returned (.bool false) ∧ Grew w w' := by
  go_enter Tryd.func22, Tryd.ntmps22
  go_upto_region 1 with fail
  have hB : Blk (w.alloc (.cells #[.int .i64 f.tos, .int .i64 f.id, .int .i64 f.fl, .int .i64 f.off, .int .i64 f.ttl, .int .i64 f.pr, .int .u32 f.si, .int .u32 f.di, .slice p1 f.o.length k1, .slice p2 f.x.length k2] 25)) w.heap.size #[.int .i64 f.tos, .int .i64 f.id, .int .i64 f.fl, .int .i64 f.off, .int .i64 f.ttl, .int .i64 f.pr, .int .u32 f.si, .int .u32 f.di, .slice p1 f.o.length k1, .slice p2 f.x.length k2] 25 := Blk.new _ _ _ _ rfl
  have g0 : Grew w (w.alloc (.cells #[.int .i64 f.tos, .int .i64 f.id, .int .i64 f.fl, .int .i64 f.off, .int .i64 f.ttl, .int .i64 f.pr, .int .u32 f.si, .int .u32 f.di, .slice p1 f.o.length k1, .slice p2 f.x.length k2] 25)) := (Grew.refl _).alloc _
  generalize (w.alloc (.cells #[.int .i64 f.tos, .int .i64 f.id, .int .i64 f.fl, .int .i64 f.off, .int .i64 f.ttl, .int .i64 f.pr, .int .u32 f.si, .int .u32 f.di, .slice p1 f.o.length k1, .slice p2 f.x.length k2] 25)) = w0 at *
  generalize hlB : w.heap.size = B at *
  have y0 := hB.cell 0
  have y1 := hB.cell 1
  have y2 := hB.cell 2
  have y3 := hB.cell 3
  have y4 := hB.cell 4
  have y5 := hB.cell 5
  have y6 := hB.cell 6
  have y7 := hB.cell 7
  have y8 := hB.cell 8
  have y9 := hB.cell 9
  go_wp2_with (first | (go_at_call 44; refine (refWithin_c _ _ _ (by assumption) _).mono ?_; rintro e w2 ⟨rfl, h2⟩; obtain rfl := h2.symm))
  go_ret
  exact ⟨rfl, g0⟩
theorem refRight_4 {f : PK} {p1 : Option Addr} {k1 : Nat} {p2 : Option Addr} {k2 : Nat} (q0 : inV f.tos 255 = true) (q1 : inV f.ttl 255 = true) (q2 : inV f.pr 255 = true) (q3 : inV f.id 65535 = true) (q4 : inV f.fl 7 = false) (w : World) :
    Calls Tryd.prog 22 #[.agg #[.int .i64 f.tos, .int .i64 f.id, .int .i64 f.fl, .int .i64 f.off, .int .i64 f.ttl, .int .i64 f.pr, .int .u32 f.si, .int .u32 f.di, .slice p1 f.o.length k1, .slice p2 f.x.length k2]] w fun e w' => e = .returned (.bool false) ∧ Grew w w' := by
  go_enter Tryd.func22, Tryd.ntmps22
  go_upto_region 1 with fail
  have hB : Blk (w.alloc (.cells #[.int .i64 f.tos, .int .i64 f.id, .int .i64 f.fl, .int .i64 f.off, .int .i64 f.ttl, .int .i64 f.pr, .int .u32 f.si, .int .u32 f.di, .slice p1 f.o.length k1, .slice p2 f.x.length k2] 25)) w.heap.size #[.int .i64 f.tos, .int .i64 f.id, .int .i64 f.fl, .int .i64 f.off, .int .i64 f.ttl, .int .i64 f.pr, .int .u32 f.si, .int .u32 f.di, .slice p1 f.o.length k1, .slice p2 f.x.length k2] 25 := Blk.new _ _ _ _ rfl
  have g0 : Grew w (w.alloc (.cells #[.int .i64 f.tos, .int .i64 f.id, .int .i64 f.fl, .int .i64 f.off, .int .i64 f.ttl, .int .i64 f.pr, .int .u32 f.si, .int .u32 f.di, .slice p1 f.o.length k1, .slice p2 f.x.length k2] 25)) := (Grew.refl _).alloc _
  generalize (w.alloc (.cells #[.int .i64 f.tos, .int .i64 f.id, .int .i64 f.fl, .int .i64 f.off, .int .i64 f.ttl, .int .i64 f.pr, .int .u32 f.si, .int .u32 f.di, .slice p1 f.o.length k1, .slice p2 f.x.length k2] 25)) = w0 at *
  generalize hlB : w.heap.size = B at *
  have y0 := hB.cell 0
  have y1 := hB.cell 1
  have y2 := hB.cell 2
  have y3 := hB.cell 3
  have y4 := hB.cell 4
  have y5 := hB.cell 5
  have y6 := hB.cell 6
  have y7 := hB.cell 7
  have y8 := hB.cell 8
  have y9 := hB.cell 9
  go_wp2_with (first | (go_at_call 44; refine (refWithin_c _ _ _ (by assumption) _).mono ?_; rintro e w2 ⟨rfl, h2⟩; obtain rfl := h2.symm))
  go_ret
  exact ⟨rfl, g0⟩
theorem refRight_5 {f : PK} {p1 : Option Addr} {k1 : Nat} {p2 : Option Addr} {k2 : Nat} (q0 : inV f.tos 255 = true) (q1 : inV f.ttl 255 = true) (q2 : inV f.pr 255 = true) (q3 : inV f.id 65535 = true) (q4 : inV f.fl 7 = true) (q5 : inV f.off 8191 = false) (w : World) :
    Calls Tryd.prog 22 #[.agg #[.int .i64 f.tos, .int .i64 f.id, .int .i64 f.fl, .int .i64 f.off, .int .i64 f.ttl, .int .i64 f.pr, .int .u32 f.si, .int .u32 f.di, .slice p1 f.o.length k1, .slice p2 f.x.length k2]] w fun e w' => e = .returned (.bool false) ∧ Grew w w' := by
  go_enter Tryd.func22, Tryd.ntmps22
  go_upto_region 1 with fail
  have hB : Blk (w.alloc (.cells #[.int .i64 f.tos, .int .i64 f.id, .int .i64 f.fl, .int .i64 f.off, .int .i64 f.ttl, .int .i64 f.pr, .int .u32 f.si, .int .u32 f.di, .slice p1 f.o.length k1, .slice p2 f.x.length k2] 25)) w.heap.size #[.int .i64 f.tos, .int .i64 f.id, .int .i64 f.fl, .int .i64 f.off, .int .i64 f.ttl, .int .i64 f.pr, .int .u32 f.si, .int .u32 f.di, .slice p1 f.o.length k1, .slice p2 f.x.length k2] 25 := Blk.new _ _ _ _ rfl
  have g0 : Grew w (w.alloc (.cells #[.int .i64 f.tos, .int .i64 f.id, .int .i64 f.fl, .int .i64 f.off, .int .i64 f.ttl, .int .i64 f.pr, .int .u32 f.si, .int .u32 f.di, .slice p1 f.o.length k1, .slice p2 f.x.length k2] 25)) := (Grew.refl _).alloc _
  generalize (w.alloc (.cells #[.int .i64 f.tos, .int .i64 f.id, .int .i64 f.fl, .int .i64 f.off, .int .i64 f.ttl, .int .i64 f.pr, .int .u32 f.si, .int .u32 f.di, .slice p1 f.o.length k1, .slice p2 f.x.length k2] 25)) = w0 at *
  generalize hlB : w.heap.size = B at *
  have y0 := hB.cell 0
  have y1 := hB.cell 1
  have y2 := hB.cell 2
  have y3 := hB.cell 3
  have y4 := hB.cell 4
  have y5 := hB.cell 5
  have y6 := hB.cell 6
  have y7 := hB.cell 7
  have y8 := hB.cell 8
  have y9 := hB.cell 9
  go_wp2_with (first | (go_at_call 44; refine (refWithin_c _ _ _ (by assumption) _).mono ?_; rintro e w2 ⟨rfl, h2⟩; obtain rfl := h2.symm))
  go_ret
  exact ⟨rfl, g0⟩
theorem refRight_6 {f : PK} {p1 : Option Addr} {k1 : Nat} {p2 : Option Addr} {k2 : Nat} (q0 : inV f.tos 255 = true) (q1 : inV f.ttl 255 = true) (q2 : inV f.pr 255 = true) (q3 : inV f.id 65535 = true) (q4 : inV f.fl 7 = true) (q5 : inV f.off 8191 = true) (q6 : decide ((f.o.length : Int) ≤ 40) = false) (w : World) :
    Calls Tryd.prog 22 #[.agg #[.int .i64 f.tos, .int .i64 f.id, .int .i64 f.fl, .int .i64 f.off, .int .i64 f.ttl, .int .i64 f.pr, .int .u32 f.si, .int .u32 f.di, .slice p1 f.o.length k1, .slice p2 f.x.length k2]] w fun e w' => e = .returned (.bool false) ∧ Grew w w' := by
  go_enter Tryd.func22, Tryd.ntmps22
  go_upto_region 1 with fail
  have hB : Blk (w.alloc (.cells #[.int .i64 f.tos, .int .i64 f.id, .int .i64 f.fl, .int .i64 f.off, .int .i64 f.ttl, .int .i64 f.pr, .int .u32 f.si, .int .u32 f.di, .slice p1 f.o.length k1, .slice p2 f.x.length k2] 25)) w.heap.size #[.int .i64 f.tos, .int .i64 f.id, .int .i64 f.fl, .int .i64 f.off, .int .i64 f.ttl, .int .i64 f.pr, .int .u32 f.si, .int .u32 f.di, .slice p1 f.o.length k1, .slice p2 f.x.length k2] 25 := Blk.new _ _ _ _ rfl
  have g0 : Grew w (w.alloc (.cells #[.int .i64 f.tos, .int .i64 f.id, .int .i64 f.fl, .int .i64 f.off, .int .i64 f.ttl, .int .i64 f.pr, .int .u32 f.si, .int .u32 f.di, .slice p1 f.o.length k1, .slice p2 f.x.length k2] 25)) := (Grew.refl _).alloc _
  generalize (w.alloc (.cells #[.int .i64 f.tos, .int .i64 f.id, .int .i64 f.fl, .int .i64 f.off, .int .i64 f.ttl, .int .i64 f.pr, .int .u32 f.si, .int .u32 f.di, .slice p1 f.o.length k1, .slice p2 f.x.length k2] 25)) = w0 at *
  generalize hlB : w.heap.size = B at *
  have y0 := hB.cell 0
  have y1 := hB.cell 1
  have y2 := hB.cell 2
  have y3 := hB.cell 3
  have y4 := hB.cell 4
  have y5 := hB.cell 5
  have y6 := hB.cell 6
  have y7 := hB.cell 7
  have y8 := hB.cell 8
  have y9 := hB.cell 9
  go_wp2_with (first | (go_at_call 44; refine (refWithin_c _ _ _ (by assumption) _).mono ?_; rintro e w2 ⟨rfl, h2⟩; obtain rfl := h2.symm))
  go_ret
  exact ⟨rfl, g0⟩
theorem refRight_7 {f : PK} {p1 : Option Addr} {k1 : Nat} {p2 : Option Addr} {k2 : Nat} (q0 : inV f.tos 255 = true) (q1 : inV f.ttl 255 = true) (q2 : inV f.pr 255 = true) (q3 : inV f.id 65535 = true) (q4 : inV f.fl 7 = true) (q5 : inV f.off 8191 = true) (q6 : decide ((f.o.length : Int) ≤ 40) = true) (q7 : ((f.o.length : Int) % 4 == 0) = false) (w : World) :
    Calls Tryd.prog 22 #[.agg #[.int .i64 f.tos, .int .i64 f.id, .int .i64 f.fl, .int .i64 f.off, .int .i64 f.ttl, .int .i64 f.pr, .int .u32 f.si, .int .u32 f.di, .slice p1 f.o.length k1, .slice p2 f.x.length k2]] w fun e w' => e = .returned (.bool false) ∧ Grew w w' := by
  have e4 : wrap64 (((f.o.length : Nat) : Int).tmod 4) = (f.o.length : Int) % 4 := by rw [Int.tmod_eq_emod_of_nonneg (by omega)]; exact IntWalk.wrap64_in _ (by omega)
  have e5 : wrap64 (65515 - (f.o.length : Int)) = 65515 - (f.o.length : Int) := IntWalk.wrap64_in _ (by simp at q6; omega)
  go_enter Tryd.func22, Tryd.ntmps22
  go_upto_region 1 with fail
  have hB : Blk (w.alloc (.cells #[.int .i64 f.tos, .int .i64 f.id, .int .i64 f.fl, .int .i64 f.off, .int .i64 f.ttl, .int .i64 f.pr, .int .u32 f.si, .int .u32 f.di, .slice p1 f.o.length k1, .slice p2 f.x.length k2] 25)) w.heap.size #[.int .i64 f.tos, .int .i64 f.id, .int .i64 f.fl, .int .i64 f.off, .int .i64 f.ttl, .int .i64 f.pr, .int .u32 f.si, .int .u32 f.di, .slice p1 f.o.length k1, .slice p2 f.x.length k2] 25 := Blk.new _ _ _ _ rfl
  have g0 : Grew w (w.alloc (.cells #[.int .i64 f.tos, .int .i64 f.id, .int .i64 f.fl, .int .i64 f.off, .int .i64 f.ttl, .int .i64 f.pr, .int .u32 f.si, .int .u32 f.di, .slice p1 f.o.length k1, .slice p2 f.x.length k2] 25)) := (Grew.refl _).alloc _
  generalize (w.alloc (.cells #[.int .i64 f.tos, .int .i64 f.id, .int .i64 f.fl, .int .i64 f.off, .int .i64 f.ttl, .int .i64 f.pr, .int .u32 f.si, .int .u32 f.di, .slice p1 f.o.length k1, .slice p2 f.x.length k2] 25)) = w0 at *
  generalize hlB : w.heap.size = B at *
  have y0 := hB.cell 0
  have y1 := hB.cell 1
  have y2 := hB.cell 2
  have y3 := hB.cell 3
  have y4 := hB.cell 4
  have y5 := hB.cell 5
  have y6 := hB.cell 6
  have y7 := hB.cell 7
  have y8 := hB.cell 8
  have y9 := hB.cell 9
  go_wp2_with (first | (go_at_call 44; refine (refWithin_c _ _ _ (by assumption) _).mono ?_; rintro e w2 ⟨rfl, h2⟩; obtain rfl := h2.symm))
  go_ret
  exact ⟨rfl, g0⟩
theorem refRight_8 {f : PK} {p1 : Option Addr} {k1 : Nat} {p2 : Option Addr} {k2 : Nat} (q0 : inV f.tos 255 = true) (q1 : inV f.ttl 255 = true) (q2 : inV f.pr 255 = true) (q3 : inV f.id 65535 = true) (q4 : inV f.fl 7 = true) (q5 : inV f.off 8191 = true) (q6 : decide ((f.o.length : Int) ≤ 40) = true) (q7 : ((f.o.length : Int) % 4 == 0) = true) (q8 : decide ((f.x.length : Int) ≤ 65515 - (f.o.length : Nat)) = false) (w : World) :
    Calls Tryd.prog 22 #[.agg #[.int .i64 f.tos, .int .i64 f.id, .int .i64 f.fl, .int .i64 f.off, .int .i64 f.ttl, .int .i64 f.pr, .int .u32 f.si, .int .u32 f.di, .slice p1 f.o.length k1, .slice p2 f.x.length k2]] w fun e w' => e = .returned (.bool false) ∧ Grew w w' := by
  have e4 : wrap64 (((f.o.length : Nat) : Int).tmod 4) = (f.o.length : Int) % 4 := by rw [Int.tmod_eq_emod_of_nonneg (by omega)]; exact IntWalk.wrap64_in _ (by omega)
  have e5 : wrap64 (65515 - (f.o.length : Int)) = 65515 - (f.o.length : Int) := IntWalk.wrap64_in _ (by simp at q6; omega)
  go_enter Tryd.func22, Tryd.ntmps22
  go_upto_region 1 with fail
  have hB : Blk (w.alloc (.cells #[.int .i64 f.tos, .int .i64 f.id, .int .i64 f.fl, .int .i64 f.off, .int .i64 f.ttl, .int .i64 f.pr, .int .u32 f.si, .int .u32 f.di, .slice p1 f.o.length k1, .slice p2 f.x.length k2] 25)) w.heap.size #[.int .i64 f.tos, .int .i64 f.id, .int .i64 f.fl, .int .i64 f.off, .int .i64 f.ttl, .int .i64 f.pr, .int .u32 f.si, .int .u32 f.di, .slice p1 f.o.length k1, .slice p2 f.x.length k2] 25 := Blk.new _ _ _ _ rfl
  have g0 : Grew w (w.alloc (.cells #[.int .i64 f.tos, .int .i64 f.id, .int .i64 f.fl, .int .i64 f.off, .int .i64 f.ttl, .int .i64 f.pr, .int .u32 f.si, .int .u32 f.di, .slice p1 f.o.length k1, .slice p2 f.x.length k2] 25)) := (Grew.refl _).alloc _
  generalize (w.alloc (.cells #[.int .i64 f.tos, .int .i64 f.id, .int .i64 f.fl, .int .i64 f.off, .int .i64 f.ttl, .int .i64 f.pr, .int .u32 f.si, .int .u32 f.di, .slice p1 f.o.length k1, .slice p2 f.x.length k2] 25)) = w0 at *
  generalize hlB : w.heap.size = B at *
  have y0 := hB.cell 0
  have y1 := hB.cell 1
  have y2 := hB.cell 2
  have y3 := hB.cell 3
  have y4 := hB.cell 4
  have y5 := hB.cell 5
  have y6 := hB.cell 6
  have y7 := hB.cell 7
  have y8 := hB.cell 8
  have y9 := hB.cell 9
  go_wp2_with (first | (go_at_call 44; refine (refWithin_c _ _ _ (by assumption) _).mono ?_; rintro e w2 ⟨rfl, h2⟩; obtain rfl := h2.symm))
  go_ret
  exact ⟨rfl, g0⟩
theorem refRight_9 {f : PK} {p1 : Option Addr} {k1 : Nat} {p2 : Option Addr} {k2 : Nat} (q0 : inV f.tos 255 = true) (q1 : inV f.ttl 255 = true) (q2 : inV f.pr 255 = true) (q3 : inV f.id 65535 = true) (q4 : inV f.fl 7 = true) (q5 : inV f.off 8191 = true) (q6 : decide ((f.o.length : Int) ≤ 40) = true) (q7 : ((f.o.length : Int) % 4 == 0) = true) (q8 : decide ((f.x.length : Int) ≤ 65515 - (f.o.length : Nat)) = true) (w : World) :
    Calls Tryd.prog 22 #[.agg #[.int .i64 f.tos, .int .i64 f.id, .int .i64 f.fl, .int .i64 f.off, .int .i64 f.ttl, .int .i64 f.pr, .int .u32 f.si, .int .u32 f.di, .slice p1 f.o.length k1, .slice p2 f.x.length k2]] w fun e w' => e = .returned (.bool true) ∧ Grew w w' := by
  have e4 : wrap64 (((f.o.length : Nat) : Int).tmod 4) = (f.o.length : Int) % 4 := by rw [Int.tmod_eq_emod_of_nonneg (by omega)]; exact IntWalk.wrap64_in _ (by omega)
  have e5 : wrap64 (65515 - (f.o.length : Int)) = 65515 - (f.o.length : Int) := IntWalk.wrap64_in _ (by simp at q6; omega)
  go_enter Tryd.func22, Tryd.ntmps22
  go_upto_region 1 with fail
  have hB : Blk (w.alloc (.cells #[.int .i64 f.tos, .int .i64 f.id, .int .i64 f.fl, .int .i64 f.off, .int .i64 f.ttl, .int .i64 f.pr, .int .u32 f.si, .int .u32 f.di, .slice p1 f.o.length k1, .slice p2 f.x.length k2] 25)) w.heap.size #[.int .i64 f.tos, .int .i64 f.id, .int .i64 f.fl, .int .i64 f.off, .int .i64 f.ttl, .int .i64 f.pr, .int .u32 f.si, .int .u32 f.di, .slice p1 f.o.length k1, .slice p2 f.x.length k2] 25 := Blk.new _ _ _ _ rfl
  have g0 : Grew w (w.alloc (.cells #[.int .i64 f.tos, .int .i64 f.id, .int .i64 f.fl, .int .i64 f.off, .int .i64 f.ttl, .int .i64 f.pr, .int .u32 f.si, .int .u32 f.di, .slice p1 f.o.length k1, .slice p2 f.x.length k2] 25)) := (Grew.refl _).alloc _
  generalize (w.alloc (.cells #[.int .i64 f.tos, .int .i64 f.id, .int .i64 f.fl, .int .i64 f.off, .int .i64 f.ttl, .int .i64 f.pr, .int .u32 f.si, .int .u32 f.di, .slice p1 f.o.length k1, .slice p2 f.x.length k2] 25)) = w0 at *
  generalize hlB : w.heap.size = B at *
  have y0 := hB.cell 0
  have y1 := hB.cell 1
  have y2 := hB.cell 2
  have y3 := hB.cell 3
  have y4 := hB.cell 4
  have y5 := hB.cell 5
  have y6 := hB.cell 6
  have y7 := hB.cell 7
  have y8 := hB.cell 8
  have y9 := hB.cell 9
  go_wp2_with (first | (go_at_call 44; refine (refWithin_c _ _ _ (by assumption) _).mono ?_; rintro e w2 ⟨rfl, h2⟩; obtain rfl := h2.symm))
  go_ret
  exact ⟨rfl, g0⟩
theorem refRight17_c {v : Value} {f : PK} {w : World} (hv : Pk w v f) :
    Calls Tryd.prog 22 #[v] w fun e w' => e = .returned (.bool (okP f)) ∧ Grew w w' := by
  obtain ⟨p1, k1, p2, k2, rfl, b1, b2⟩ := hv.shape
  cases q0 : inV f.tos 255
  · rw [show okP f = false by unfold okP; rw [q0]; simp]; exact refRight_0 q0 w
  · skip
    cases q1 : inV f.ttl 255
    · rw [show okP f = false by unfold okP; rw [q1]; simp]; exact refRight_1 q0 q1 w
    · skip
      cases q2 : inV f.pr 255
      · rw [show okP f = false by unfold okP; rw [q2]; simp]; exact refRight_2 q0 q1 q2 w
      · skip
        cases q3 : inV f.id 65535
        · rw [show okP f = false by unfold okP; rw [q3]; simp]; exact refRight_3 q0 q1 q2 q3 w
        · skip
          cases q4 : inV f.fl 7
          · rw [show okP f = false by unfold okP; rw [q4]; simp]; exact refRight_4 q0 q1 q2 q3 q4 w
          · skip
            cases q5 : inV f.off 8191
            · rw [show okP f = false by unfold okP; rw [q5]; simp]; exact refRight_5 q0 q1 q2 q3 q4 q5 w
            · skip
              cases q6 : decide ((f.o.length : Int) ≤ 40)
              · rw [show okP f = false by unfold okP; simp at q6; rw [show decide (f.o.length ≤ 40) = false from decide_eq_false (by omega)]; simp]; exact refRight_6 q0 q1 q2 q3 q4 q5 q6 w
              · skip
                cases q7 : ((f.o.length : Int) % 4 == 0)
                · rw [show okP f = false by unfold okP; simp at q7; rw [show decide (f.o.length % 4 = 0) = false from decide_eq_false (by omega)]; simp]; exact refRight_7 q0 q1 q2 q3 q4 q5 q6 q7 w
                · skip
                  cases q8 : decide ((f.x.length : Int) ≤ 65515 - (f.o.length : Nat))
                  · rw [show okP f = false by unfold okP; simp at q8; rw [show decide (f.x.length + f.o.length ≤ 65515) = false from decide_eq_false (by omega)]; simp]; exact refRight_8 q0 q1 q2 q3 q4 q5 q6 q7 q8 w
                  · skip
                    rw [show okP f = true by unfold okP; rw [q0, q1, q2, q3, q4, q5]; simp at q6 q7 q8; simp; omega]
                    exact refRight_9 q0 q1 q2 q3 q4 q5 q6 q7 q8 w
end Go.Proofs.YtalbdeifkbfnbaaDoor
