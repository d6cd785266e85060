/-
  Package nic: which controllers may be (Check); Line, own, find, Load.
-/
import Derived.Test.YtoehdhhodidehaaRows
import Derived.Test.YtoehdhhodidehaaNcJ
import Derived.WalkKit
import Derived.Outline
import Derived.Handy
import Derived.StillTailTactics
import Derived.Deep.QuietTactic
import Derived.BigQuiet
import Derived.Deep.DeepCutAuto
import Derived.Deep.RegionHeld3
import Derived.Great.BuildSlice
import Derived.Deep.WholeRow
import Derived.Lib.SliceRun
import Derived.BigFrame
set_option maxRecDepth 4000
set_option linter.unusedVariables false
set_option linter.unusedSimpArgs false
namespace Go.Proofs.Ytoehdhhodidehaa
open Go.RowKit

/-- May a controller with an address of n bytes be? -/
def chkB (c : Nat → Int) (n : Nat) : Bool := (n == 6) && (belowB (c 0) 8 && (belowB (c 1) 16 && (belowB (c 2) 16 && (ringB (c 3) (c 4) (c 5) (c 6) && (ringB (c 7) (c 8) (c 9) (c 10) && (belowB (c 11) 2147483649 && belowB (c 12) 2147483649))))))
/-- Numbers 13 and 14 tell of the address, whatever its length. -/
structure MacOf (c : Nat → Int) (m : List Int) : Prop where
  lo : c 13 = getV (cutL m 0 4) false
  hi : c 14 = getV (cutL m 4 6) false
  b3 : 0 ≤ c 3
  b7 : 0 ≤ c 7
theorem chk_ok {c : Nat → Int} {m : List Int} (hm : MacOf c m) (ha : AreBytes m) (h : chkB c m.length = true) : ROk c ∧ MacIs c m := by
  simp only [chkB, belowB, ringB, lenB, Bool.and_eq_true, beq_iff_eq, decide_eq_true_eq] at h
  obtain ⟨h6, ⟨a0, a1⟩, ⟨b0, b1⟩, ⟨d0, d1⟩, ⟨e0, ⟨e1, e2⟩, ⟨e3, e4⟩, e5, e6⟩, ⟨f0, ⟨f1, f2⟩, ⟨f3, f4⟩, f5, f6⟩, ⟨i0, i1⟩, j0, j1⟩ := h
  have h1 := getV_ltn (ha.cut 0 4) 4 (by rw [cutL_length (by decide) (by omega)]; decide)
  have h2 := getV_ltn (ha.cut 4 6) 2 (by rw [cutL_length (by decide) (by omega)]; decide)
  have k1 : getV (cutL m 0 4) false < 4294967296 := h1.2.1
  have k2 : getV (cutL m 4 6) false < 65536 := h2.2.1
  have l3 := hm.b3
  have l7 := hm.b7
  exact ⟨⟨⟨a0, a1⟩, ⟨b0, b1⟩, ⟨d0, d1⟩, ⟨l3, by omega⟩, ⟨e1, e2⟩, ⟨e3, e4⟩, ⟨e5, e6⟩, ⟨l7, by omega⟩, ⟨f1, f2⟩, ⟨f3, f4⟩, ⟨f5, f6⟩, ⟨i0, by omega⟩, ⟨j0, by omega⟩, by rw [hm.lo]; exact ⟨h1.1, k1⟩, by rw [hm.hi]; exact ⟨h2.1, by omega⟩⟩, h6, hm.lo, hm.hi⟩
theorem ok_chk {c : Nat → Int} (h : ROk c) : chkB c 6 = true := by
  simp only [chkB, belowB, ringB, lenB, Bool.and_eq_true, beq_iff_eq, decide_eq_true_eq]
  exact ⟨trivial, ⟨h.r0.1, h.r0.2⟩, ⟨h.r1.1, h.r1.2⟩, ⟨h.r2.1, h.r2.2⟩, ⟨by have := h.r3; omega, ⟨h.r4.1, h.r4.2⟩, ⟨h.r5.1, h.r5.2⟩, h.r6.1, h.r6.2⟩, ⟨by have := h.r7; omega, ⟨h.r8.1, h.r8.2⟩, ⟨h.r9.1, h.r9.2⟩, h.r10.1, h.r10.2⟩, ⟨h.r11.1, by have := h.r11; omega⟩, h.r12.1, by have := h.r12; omega⟩
set_option maxHeartbeats 4000000 in
theorem check_c (c : Nat → Int) (a : Option Addr) (n k : Nat) (w : World) : Calls Try.prog 9 #[ncV c (.slice a n k)] w fun e w' => e = .returned (.bool (chkB c n)) ∧ Grew w w' := by
  unfold chkB
  generalize e1 : belowB (c 0) 8 = b1 at *
  have E1 := Lib.hid e1
  generalize e2 : belowB (c 1) 16 = b2 at *
  have E2 := Lib.hid e2
  generalize e3 : belowB (c 2) 16 = b3 at *
  have E3 := Lib.hid e3
  generalize e4 : ringB (c 3) (c 4) (c 5) (c 6) = b4 at *
  have E4 := Lib.hid e4
  generalize e5 : ringB (c 7) (c 8) (c 9) (c 10) = b5 at *
  have E5 := Lib.hid e5
  generalize e6 : belowB (c 11) 2147483649 = b6 at *
  have E6 := Lib.hid e6
  generalize e7 : belowB (c 12) 2147483649 = b7 at *
  have E7 := Lib.hid e7
  clear e1 e2 e3 e4 e5 e6 e7
  by_cases h6 : n = 6
  · have hb0 : (n == 6) = true := by simpa using h6
    have hb1 : ((n : Int) == 6) = true := by simp; omega
    rw [hb0]
    clear h6
    cases b1
    · go_enter Try.func9, Try.ntmps9
      go_upto_region 1 with fail
      have kN : Blk (w.alloc (.cells (ncA c (.slice a n k)) 25)) w.heap.size (ncA c (.slice a n k)) 25 := Blk.new _ _ _ _ rfl
      have g0 : Grew w (w.alloc (.cells (ncA c (.slice a n k)) 25)) := (Grew.refl w).alloc _
      generalize (w.alloc (.cells (ncA c (.slice a n k)) 25)) = w0 at *
      generalize w.heap.size = N at *
      have y0 : w0.cell? ⟨N, 0, none⟩ = some (.int .i64 (c 0)) := kN.cell 0
      have y1 : w0.cell? ⟨N, 1, none⟩ = some (.int .i64 (c 1)) := kN.cell 1
      have y2 : w0.cell? ⟨N, 2, none⟩ = some (.int .i64 (c 2)) := kN.cell 2
      have y3 : w0.cell? ⟨N, 3, none⟩ = some (.int .u64 (c 3)) := kN.cell 3
      have y4 : w0.cell? ⟨N, 4, none⟩ = some (.int .i64 (c 4)) := kN.cell 4
      have y5 : w0.cell? ⟨N, 5, none⟩ = some (.int .i64 (c 5)) := kN.cell 5
      have y6 : w0.cell? ⟨N, 6, none⟩ = some (.int .i64 (c 6)) := kN.cell 6
      have y7 : w0.cell? ⟨N, 7, none⟩ = some (.int .u64 (c 7)) := kN.cell 7
      have y8 : w0.cell? ⟨N, 8, none⟩ = some (.int .i64 (c 8)) := kN.cell 8
      have y9 : w0.cell? ⟨N, 9, none⟩ = some (.int .i64 (c 9)) := kN.cell 9
      have y10 : w0.cell? ⟨N, 10, none⟩ = some (.int .i64 (c 10)) := kN.cell 10
      have y11 : w0.cell? ⟨N, 11, none⟩ = some (.int .i64 (c 11)) := kN.cell 11
      have y12 : w0.cell? ⟨N, 12, none⟩ = some (.int .i64 (c 12)) := kN.cell 12
      have y13 : w0.cell? ⟨N, 13, none⟩ = some (.slice a n k) := kN.cell 13
      clear kN
      go_wp2_with (first | (go_at_call 30; refine (isBelow_b _ _ _).mono ?_; rintro e w1 ⟨rfl, rfl⟩; first | rw [E1.out] | rw [E2.out] | rw [E3.out] | rw [E6.out] | rw [E7.out]) | (go_at_call 31; refine (isRing_c _ _ _ _ _).mono ?_; rintro e w1 ⟨rfl, rfl⟩; first | rw [E4.out] | rw [E5.out]))
      go_ret
      exact ⟨rfl, g0⟩
    cases b2
    · go_enter Try.func9, Try.ntmps9
      go_upto_region 1 with fail
      have kN : Blk (w.alloc (.cells (ncA c (.slice a n k)) 25)) w.heap.size (ncA c (.slice a n k)) 25 := Blk.new _ _ _ _ rfl
      have g0 : Grew w (w.alloc (.cells (ncA c (.slice a n k)) 25)) := (Grew.refl w).alloc _
      generalize (w.alloc (.cells (ncA c (.slice a n k)) 25)) = w0 at *
      generalize w.heap.size = N at *
      have y0 : w0.cell? ⟨N, 0, none⟩ = some (.int .i64 (c 0)) := kN.cell 0
      have y1 : w0.cell? ⟨N, 1, none⟩ = some (.int .i64 (c 1)) := kN.cell 1
      have y2 : w0.cell? ⟨N, 2, none⟩ = some (.int .i64 (c 2)) := kN.cell 2
      have y3 : w0.cell? ⟨N, 3, none⟩ = some (.int .u64 (c 3)) := kN.cell 3
      have y4 : w0.cell? ⟨N, 4, none⟩ = some (.int .i64 (c 4)) := kN.cell 4
      have y5 : w0.cell? ⟨N, 5, none⟩ = some (.int .i64 (c 5)) := kN.cell 5
      have y6 : w0.cell? ⟨N, 6, none⟩ = some (.int .i64 (c 6)) := kN.cell 6
      have y7 : w0.cell? ⟨N, 7, none⟩ = some (.int .u64 (c 7)) := kN.cell 7
      have y8 : w0.cell? ⟨N, 8, none⟩ = some (.int .i64 (c 8)) := kN.cell 8
      have y9 : w0.cell? ⟨N, 9, none⟩ = some (.int .i64 (c 9)) := kN.cell 9
      have y10 : w0.cell? ⟨N, 10, none⟩ = some (.int .i64 (c 10)) := kN.cell 10
      have y11 : w0.cell? ⟨N, 11, none⟩ = some (.int .i64 (c 11)) := kN.cell 11
      have y12 : w0.cell? ⟨N, 12, none⟩ = some (.int .i64 (c 12)) := kN.cell 12
      have y13 : w0.cell? ⟨N, 13, none⟩ = some (.slice a n k) := kN.cell 13
      clear kN
      go_wp2_with (first | (go_at_call 30; refine (isBelow_b _ _ _).mono ?_; rintro e w1 ⟨rfl, rfl⟩; first | rw [E1.out] | rw [E2.out] | rw [E3.out] | rw [E6.out] | rw [E7.out]) | (go_at_call 31; refine (isRing_c _ _ _ _ _).mono ?_; rintro e w1 ⟨rfl, rfl⟩; first | rw [E4.out] | rw [E5.out]))
      go_ret
      exact ⟨rfl, g0⟩
    cases b3
    · go_enter Try.func9, Try.ntmps9
      go_upto_region 1 with fail
      have kN : Blk (w.alloc (.cells (ncA c (.slice a n k)) 25)) w.heap.size (ncA c (.slice a n k)) 25 := Blk.new _ _ _ _ rfl
      have g0 : Grew w (w.alloc (.cells (ncA c (.slice a n k)) 25)) := (Grew.refl w).alloc _
      generalize (w.alloc (.cells (ncA c (.slice a n k)) 25)) = w0 at *
      generalize w.heap.size = N at *
      have y0 : w0.cell? ⟨N, 0, none⟩ = some (.int .i64 (c 0)) := kN.cell 0
      have y1 : w0.cell? ⟨N, 1, none⟩ = some (.int .i64 (c 1)) := kN.cell 1
      have y2 : w0.cell? ⟨N, 2, none⟩ = some (.int .i64 (c 2)) := kN.cell 2
      have y3 : w0.cell? ⟨N, 3, none⟩ = some (.int .u64 (c 3)) := kN.cell 3
      have y4 : w0.cell? ⟨N, 4, none⟩ = some (.int .i64 (c 4)) := kN.cell 4
      have y5 : w0.cell? ⟨N, 5, none⟩ = some (.int .i64 (c 5)) := kN.cell 5
      have y6 : w0.cell? ⟨N, 6, none⟩ = some (.int .i64 (c 6)) := kN.cell 6
      have y7 : w0.cell? ⟨N, 7, none⟩ = some (.int .u64 (c 7)) := kN.cell 7
      have y8 : w0.cell? ⟨N, 8, none⟩ = some (.int .i64 (c 8)) := kN.cell 8
      have y9 : w0.cell? ⟨N, 9, none⟩ = some (.int .i64 (c 9)) := kN.cell 9
      have y10 : w0.cell? ⟨N, 10, none⟩ = some (.int .i64 (c 10)) := kN.cell 10
      have y11 : w0.cell? ⟨N, 11, none⟩ = some (.int .i64 (c 11)) := kN.cell 11
      have y12 : w0.cell? ⟨N, 12, none⟩ = some (.int .i64 (c 12)) := kN.cell 12
      have y13 : w0.cell? ⟨N, 13, none⟩ = some (.slice a n k) := kN.cell 13
      clear kN
      go_wp2_with (first | (go_at_call 30; refine (isBelow_b _ _ _).mono ?_; rintro e w1 ⟨rfl, rfl⟩; first | rw [E1.out] | rw [E2.out] | rw [E3.out] | rw [E6.out] | rw [E7.out]) | (go_at_call 31; refine (isRing_c _ _ _ _ _).mono ?_; rintro e w1 ⟨rfl, rfl⟩; first | rw [E4.out] | rw [E5.out]))
      go_ret
      exact ⟨rfl, g0⟩
    cases b4
    · go_enter Try.func9, Try.ntmps9
      go_upto_region 1 with fail
      have kN : Blk (w.alloc (.cells (ncA c (.slice a n k)) 25)) w.heap.size (ncA c (.slice a n k)) 25 := Blk.new _ _ _ _ rfl
      have g0 : Grew w (w.alloc (.cells (ncA c (.slice a n k)) 25)) := (Grew.refl w).alloc _
      generalize (w.alloc (.cells (ncA c (.slice a n k)) 25)) = w0 at *
      generalize w.heap.size = N at *
      have y0 : w0.cell? ⟨N, 0, none⟩ = some (.int .i64 (c 0)) := kN.cell 0
      have y1 : w0.cell? ⟨N, 1, none⟩ = some (.int .i64 (c 1)) := kN.cell 1
      have y2 : w0.cell? ⟨N, 2, none⟩ = some (.int .i64 (c 2)) := kN.cell 2
      have y3 : w0.cell? ⟨N, 3, none⟩ = some (.int .u64 (c 3)) := kN.cell 3
      have y4 : w0.cell? ⟨N, 4, none⟩ = some (.int .i64 (c 4)) := kN.cell 4
      have y5 : w0.cell? ⟨N, 5, none⟩ = some (.int .i64 (c 5)) := kN.cell 5
      have y6 : w0.cell? ⟨N, 6, none⟩ = some (.int .i64 (c 6)) := kN.cell 6
      have y7 : w0.cell? ⟨N, 7, none⟩ = some (.int .u64 (c 7)) := kN.cell 7
      have y8 : w0.cell? ⟨N, 8, none⟩ = some (.int .i64 (c 8)) := kN.cell 8
      have y9 : w0.cell? ⟨N, 9, none⟩ = some (.int .i64 (c 9)) := kN.cell 9
      have y10 : w0.cell? ⟨N, 10, none⟩ = some (.int .i64 (c 10)) := kN.cell 10
      have y11 : w0.cell? ⟨N, 11, none⟩ = some (.int .i64 (c 11)) := kN.cell 11
      have y12 : w0.cell? ⟨N, 12, none⟩ = some (.int .i64 (c 12)) := kN.cell 12
      have y13 : w0.cell? ⟨N, 13, none⟩ = some (.slice a n k) := kN.cell 13
      clear kN
      go_wp2_with (first | (go_at_call 30; refine (isBelow_b _ _ _).mono ?_; rintro e w1 ⟨rfl, rfl⟩; first | rw [E1.out] | rw [E2.out] | rw [E3.out] | rw [E6.out] | rw [E7.out]) | (go_at_call 31; refine (isRing_c _ _ _ _ _).mono ?_; rintro e w1 ⟨rfl, rfl⟩; first | rw [E4.out] | rw [E5.out]))
      go_ret
      exact ⟨rfl, g0⟩
    cases b5
    · go_enter Try.func9, Try.ntmps9
      go_upto_region 1 with fail
      have kN : Blk (w.alloc (.cells (ncA c (.slice a n k)) 25)) w.heap.size (ncA c (.slice a n k)) 25 := Blk.new _ _ _ _ rfl
      have g0 : Grew w (w.alloc (.cells (ncA c (.slice a n k)) 25)) := (Grew.refl w).alloc _
      generalize (w.alloc (.cells (ncA c (.slice a n k)) 25)) = w0 at *
      generalize w.heap.size = N at *
      have y0 : w0.cell? ⟨N, 0, none⟩ = some (.int .i64 (c 0)) := kN.cell 0
      have y1 : w0.cell? ⟨N, 1, none⟩ = some (.int .i64 (c 1)) := kN.cell 1
      have y2 : w0.cell? ⟨N, 2, none⟩ = some (.int .i64 (c 2)) := kN.cell 2
      have y3 : w0.cell? ⟨N, 3, none⟩ = some (.int .u64 (c 3)) := kN.cell 3
      have y4 : w0.cell? ⟨N, 4, none⟩ = some (.int .i64 (c 4)) := kN.cell 4
      have y5 : w0.cell? ⟨N, 5, none⟩ = some (.int .i64 (c 5)) := kN.cell 5
      have y6 : w0.cell? ⟨N, 6, none⟩ = some (.int .i64 (c 6)) := kN.cell 6
      have y7 : w0.cell? ⟨N, 7, none⟩ = some (.int .u64 (c 7)) := kN.cell 7
      have y8 : w0.cell? ⟨N, 8, none⟩ = some (.int .i64 (c 8)) := kN.cell 8
      have y9 : w0.cell? ⟨N, 9, none⟩ = some (.int .i64 (c 9)) := kN.cell 9
      have y10 : w0.cell? ⟨N, 10, none⟩ = some (.int .i64 (c 10)) := kN.cell 10
      have y11 : w0.cell? ⟨N, 11, none⟩ = some (.int .i64 (c 11)) := kN.cell 11
      have y12 : w0.cell? ⟨N, 12, none⟩ = some (.int .i64 (c 12)) := kN.cell 12
      have y13 : w0.cell? ⟨N, 13, none⟩ = some (.slice a n k) := kN.cell 13
      clear kN
      go_wp2_with (first | (go_at_call 30; refine (isBelow_b _ _ _).mono ?_; rintro e w1 ⟨rfl, rfl⟩; first | rw [E1.out] | rw [E2.out] | rw [E3.out] | rw [E6.out] | rw [E7.out]) | (go_at_call 31; refine (isRing_c _ _ _ _ _).mono ?_; rintro e w1 ⟨rfl, rfl⟩; first | rw [E4.out] | rw [E5.out]))
      go_ret
      exact ⟨rfl, g0⟩
    cases b6
    · go_enter Try.func9, Try.ntmps9
      go_upto_region 1 with fail
      have kN : Blk (w.alloc (.cells (ncA c (.slice a n k)) 25)) w.heap.size (ncA c (.slice a n k)) 25 := Blk.new _ _ _ _ rfl
      have g0 : Grew w (w.alloc (.cells (ncA c (.slice a n k)) 25)) := (Grew.refl w).alloc _
      generalize (w.alloc (.cells (ncA c (.slice a n k)) 25)) = w0 at *
      generalize w.heap.size = N at *
      have y0 : w0.cell? ⟨N, 0, none⟩ = some (.int .i64 (c 0)) := kN.cell 0
      have y1 : w0.cell? ⟨N, 1, none⟩ = some (.int .i64 (c 1)) := kN.cell 1
      have y2 : w0.cell? ⟨N, 2, none⟩ = some (.int .i64 (c 2)) := kN.cell 2
      have y3 : w0.cell? ⟨N, 3, none⟩ = some (.int .u64 (c 3)) := kN.cell 3
      have y4 : w0.cell? ⟨N, 4, none⟩ = some (.int .i64 (c 4)) := kN.cell 4
      have y5 : w0.cell? ⟨N, 5, none⟩ = some (.int .i64 (c 5)) := kN.cell 5
      have y6 : w0.cell? ⟨N, 6, none⟩ = some (.int .i64 (c 6)) := kN.cell 6
      have y7 : w0.cell? ⟨N, 7, none⟩ = some (.int .u64 (c 7)) := kN.cell 7
      have y8 : w0.cell? ⟨N, 8, none⟩ = some (.int .i64 (c 8)) := kN.cell 8
      have y9 : w0.cell? ⟨N, 9, none⟩ = some (.int .i64 (c 9)) := kN.cell 9
      have y10 : w0.cell? ⟨N, 10, none⟩ = some (.int .i64 (c 10)) := kN.cell 10
      have y11 : w0.cell? ⟨N, 11, none⟩ = some (.int .i64 (c 11)) := kN.cell 11
      have y12 : w0.cell? ⟨N, 12, none⟩ = some (.int .i64 (c 12)) := kN.cell 12
      have y13 : w0.cell? ⟨N, 13, none⟩ = some (.slice a n k) := kN.cell 13
      clear kN
      go_wp2_with (first | (go_at_call 30; refine (isBelow_b _ _ _).mono ?_; rintro e w1 ⟨rfl, rfl⟩; first | rw [E1.out] | rw [E2.out] | rw [E3.out] | rw [E6.out] | rw [E7.out]) | (go_at_call 31; refine (isRing_c _ _ _ _ _).mono ?_; rintro e w1 ⟨rfl, rfl⟩; first | rw [E4.out] | rw [E5.out]))
      go_ret
      exact ⟨rfl, g0⟩
    cases b7
    · go_enter Try.func9, Try.ntmps9
      go_upto_region 1 with fail
      have kN : Blk (w.alloc (.cells (ncA c (.slice a n k)) 25)) w.heap.size (ncA c (.slice a n k)) 25 := Blk.new _ _ _ _ rfl
      have g0 : Grew w (w.alloc (.cells (ncA c (.slice a n k)) 25)) := (Grew.refl w).alloc _
      generalize (w.alloc (.cells (ncA c (.slice a n k)) 25)) = w0 at *
      generalize w.heap.size = N at *
      have y0 : w0.cell? ⟨N, 0, none⟩ = some (.int .i64 (c 0)) := kN.cell 0
      have y1 : w0.cell? ⟨N, 1, none⟩ = some (.int .i64 (c 1)) := kN.cell 1
      have y2 : w0.cell? ⟨N, 2, none⟩ = some (.int .i64 (c 2)) := kN.cell 2
      have y3 : w0.cell? ⟨N, 3, none⟩ = some (.int .u64 (c 3)) := kN.cell 3
      have y4 : w0.cell? ⟨N, 4, none⟩ = some (.int .i64 (c 4)) := kN.cell 4
      have y5 : w0.cell? ⟨N, 5, none⟩ = some (.int .i64 (c 5)) := kN.cell 5
      have y6 : w0.cell? ⟨N, 6, none⟩ = some (.int .i64 (c 6)) := kN.cell 6
      have y7 : w0.cell? ⟨N, 7, none⟩ = some (.int .u64 (c 7)) := kN.cell 7
      have y8 : w0.cell? ⟨N, 8, none⟩ = some (.int .i64 (c 8)) := kN.cell 8
      have y9 : w0.cell? ⟨N, 9, none⟩ = some (.int .i64 (c 9)) := kN.cell 9
      have y10 : w0.cell? ⟨N, 10, none⟩ = some (.int .i64 (c 10)) := kN.cell 10
      have y11 : w0.cell? ⟨N, 11, none⟩ = some (.int .i64 (c 11)) := kN.cell 11
      have y12 : w0.cell? ⟨N, 12, none⟩ = some (.int .i64 (c 12)) := kN.cell 12
      have y13 : w0.cell? ⟨N, 13, none⟩ = some (.slice a n k) := kN.cell 13
      clear kN
      go_wp2_with (first | (go_at_call 30; refine (isBelow_b _ _ _).mono ?_; rintro e w1 ⟨rfl, rfl⟩; first | rw [E1.out] | rw [E2.out] | rw [E3.out] | rw [E6.out] | rw [E7.out]) | (go_at_call 31; refine (isRing_c _ _ _ _ _).mono ?_; rintro e w1 ⟨rfl, rfl⟩; first | rw [E4.out] | rw [E5.out]))
      go_ret
      exact ⟨rfl, g0⟩
    go_enter Try.func9, Try.ntmps9
    go_upto_region 1 with fail
    have kN : Blk (w.alloc (.cells (ncA c (.slice a n k)) 25)) w.heap.size (ncA c (.slice a n k)) 25 := Blk.new _ _ _ _ rfl
    have g0 : Grew w (w.alloc (.cells (ncA c (.slice a n k)) 25)) := (Grew.refl w).alloc _
    generalize (w.alloc (.cells (ncA c (.slice a n k)) 25)) = w0 at *
    generalize w.heap.size = N at *
    have y0 : w0.cell? ⟨N, 0, none⟩ = some (.int .i64 (c 0)) := kN.cell 0
    have y1 : w0.cell? ⟨N, 1, none⟩ = some (.int .i64 (c 1)) := kN.cell 1
    have y2 : w0.cell? ⟨N, 2, none⟩ = some (.int .i64 (c 2)) := kN.cell 2
    have y3 : w0.cell? ⟨N, 3, none⟩ = some (.int .u64 (c 3)) := kN.cell 3
    have y4 : w0.cell? ⟨N, 4, none⟩ = some (.int .i64 (c 4)) := kN.cell 4
    have y5 : w0.cell? ⟨N, 5, none⟩ = some (.int .i64 (c 5)) := kN.cell 5
    have y6 : w0.cell? ⟨N, 6, none⟩ = some (.int .i64 (c 6)) := kN.cell 6
    have y7 : w0.cell? ⟨N, 7, none⟩ = some (.int .u64 (c 7)) := kN.cell 7
    have y8 : w0.cell? ⟨N, 8, none⟩ = some (.int .i64 (c 8)) := kN.cell 8
    have y9 : w0.cell? ⟨N, 9, none⟩ = some (.int .i64 (c 9)) := kN.cell 9
    have y10 : w0.cell? ⟨N, 10, none⟩ = some (.int .i64 (c 10)) := kN.cell 10
    have y11 : w0.cell? ⟨N, 11, none⟩ = some (.int .i64 (c 11)) := kN.cell 11
    have y12 : w0.cell? ⟨N, 12, none⟩ = some (.int .i64 (c 12)) := kN.cell 12
    have y13 : w0.cell? ⟨N, 13, none⟩ = some (.slice a n k) := kN.cell 13
    clear kN
    go_wp2_with (first | (go_at_call 30; refine (isBelow_b _ _ _).mono ?_; rintro e w1 ⟨rfl, rfl⟩; first | rw [E1.out] | rw [E2.out] | rw [E3.out] | rw [E6.out] | rw [E7.out]) | (go_at_call 31; refine (isRing_c _ _ _ _ _).mono ?_; rintro e w1 ⟨rfl, rfl⟩; first | rw [E4.out] | rw [E5.out]))
    go_ret
    exact ⟨rfl, g0⟩
  · have hb0 : (n == 6) = false := by simpa using h6
    have hb1 : ((n : Int) == 6) = false := by simp; omega
    rw [hb0]
    clear h6
    go_enter Try.func9, Try.ntmps9
    go_upto_region 1 with fail
    have kN : Blk (w.alloc (.cells (ncA c (.slice a n k)) 25)) w.heap.size (ncA c (.slice a n k)) 25 := Blk.new _ _ _ _ rfl
    have g0 : Grew w (w.alloc (.cells (ncA c (.slice a n k)) 25)) := (Grew.refl w).alloc _
    generalize (w.alloc (.cells (ncA c (.slice a n k)) 25)) = w0 at *
    generalize w.heap.size = N at *
    have y0 : w0.cell? ⟨N, 0, none⟩ = some (.int .i64 (c 0)) := kN.cell 0
    have y1 : w0.cell? ⟨N, 1, none⟩ = some (.int .i64 (c 1)) := kN.cell 1
    have y2 : w0.cell? ⟨N, 2, none⟩ = some (.int .i64 (c 2)) := kN.cell 2
    have y3 : w0.cell? ⟨N, 3, none⟩ = some (.int .u64 (c 3)) := kN.cell 3
    have y4 : w0.cell? ⟨N, 4, none⟩ = some (.int .i64 (c 4)) := kN.cell 4
    have y5 : w0.cell? ⟨N, 5, none⟩ = some (.int .i64 (c 5)) := kN.cell 5
    have y6 : w0.cell? ⟨N, 6, none⟩ = some (.int .i64 (c 6)) := kN.cell 6
    have y7 : w0.cell? ⟨N, 7, none⟩ = some (.int .u64 (c 7)) := kN.cell 7
    have y8 : w0.cell? ⟨N, 8, none⟩ = some (.int .i64 (c 8)) := kN.cell 8
    have y9 : w0.cell? ⟨N, 9, none⟩ = some (.int .i64 (c 9)) := kN.cell 9
    have y10 : w0.cell? ⟨N, 10, none⟩ = some (.int .i64 (c 10)) := kN.cell 10
    have y11 : w0.cell? ⟨N, 11, none⟩ = some (.int .i64 (c 11)) := kN.cell 11
    have y12 : w0.cell? ⟨N, 12, none⟩ = some (.int .i64 (c 12)) := kN.cell 12
    have y13 : w0.cell? ⟨N, 13, none⟩ = some (.slice a n k) := kN.cell 13
    clear kN
    go_wp2_with (first | (go_at_call 30; refine (isBelow_b _ _ _).mono ?_; rintro e w1 ⟨rfl, rfl⟩; first | rw [E1.out] | rw [E2.out] | rw [E3.out] | rw [E6.out] | rw [E7.out]) | (go_at_call 31; refine (isRing_c _ _ _ _ _).mono ?_; rintro e w1 ⟨rfl, rfl⟩; first | rw [E4.out] | rw [E5.out]))
    go_ret
    exact ⟨rfl, g0⟩
def lineB (c : Nat → Int) (n : Nat) : Bool := chkB c n && (bits .and .i64 (c 1) (c 2) != 0)
theorem line_c (c : Nat → Int) (a : Option Addr) (n k : Nat) (w : World) : Calls Try.prog 21 #[ncV c (.slice a n k)] w fun e w' => e = .returned (.bool (lineB c n)) ∧ Grew w w' := by
  have hC := Lib.hid (check_c c a n k)
  unfold lineB
  cases hb : chkB c n
  all_goals
    rw [hb] at hC
    go_enter Try.func21, Try.ntmps21
    go_upto_region 1 with fail
    have kN : Blk (w.alloc (.cells (ncA c (.slice a n k)) 25)) w.heap.size (ncA c (.slice a n k)) 25 := Blk.new _ _ _ _ rfl
    have g0 : Grew w (w.alloc (.cells (ncA c (.slice a n k)) 25)) := (Grew.refl w).alloc _
    generalize (w.alloc (.cells (ncA c (.slice a n k)) 25)) = w0 at *
    generalize w.heap.size = N at *
    go_wp2_with (refine ld_nc rfl (.tmp 1) rfl _ rfl kN (by rfl) ?_)
    refine (hC.out _).mono ?_
    rintro e w1 ⟨rfl, g1⟩
    have kN1 := kN.grew g1
    have y1 : w1.cell? ⟨N, 1, none⟩ = some (.int .i64 (c 1)) := kN1.cell 1
    have y2 : w1.cell? ⟨N, 2, none⟩ = some (.int .i64 (c 2)) := kN1.cell 2
    go_wp2_with fail
    go_ret
    exact ⟨rfl, g0.trans g1⟩
set_option maxHeartbeats 1000000 in
theorem ownN_c {c : Nat → Int} {m : List Int} (hl : m.length ≤ 140737488355328) {a : Option Addr} {k : Nat} {w : World} (hb : Buf w (.slice a m.length k) m) : Calls Try.prog 33 #[ncV c (.slice a m.length k)] w fun e w' => ∃ b j, e = .returned (ncV c (.slice b m.length j)) ∧ Hid (Row w' w.heap.size (.slice b m.length j) m) ∧ Grew w w' := by
  have HB := Lib.hid hb
  have HC := Lib.hid (fun (w : World) (h : Buf w (.slice a m.length k) m) => Clone_c hl h)
  clear hb hl
  generalize hn : m.length = n at *
  have HN := Lib.hid hn
  clear hn
  go_enter Try.func33, Try.ntmps33
  go_upto_region 1 with fail
  have kN : Blk ((w.alloc (.cells (ncA c (.slice a n k)) 25)).alloc (.cells zeroN 25)) w.heap.size (ncA c (.slice a n k)) 25 := (Blk.new w (ncA c (.slice a n k)) 25 _ rfl).alloc (.cells zeroN 25)
  have kR : Blk ((w.alloc (.cells (ncA c (.slice a n k)) 25)).alloc (.cells zeroN 25)) (w.heap.size + 1) zeroN 25 := Blk.new (w.alloc (.cells (ncA c (.slice a n k)) 25)) zeroN 25 _ (by simp)
  have g0 : Grew w ((w.alloc (.cells (ncA c (.slice a n k)) 25)).alloc (.cells zeroN 25)) := ((Grew.refl w).alloc (.cells (ncA c (.slice a n k)) 25)).alloc (.cells zeroN 25)
  generalize ((w.alloc (.cells (ncA c (.slice a n k)) 25)).alloc (.cells zeroN 25)) = w0 at *
  have lN : w.heap.size ≤ w.heap.size := by omega
  have lR : w.heap.size ≤ (w.heap.size + 1) := by omega
  have nNR : w.heap.size ≠ (w.heap.size + 1) := by omega
  have nRN : (w.heap.size + 1) ≠ w.heap.size := by omega
  generalize (w.heap.size + 1) = R at *
  generalize hZ : w.heap.size = N at *
  have HZ := Lib.hid hZ
  clear hZ
  have LN : Hid (w.heap.size ≤ N) := Lib.hid (by rw [HZ.out]; exact lN)
  have LR : Hid (w.heap.size ≤ R) := Lib.hid (by rw [HZ.out]; exact lR)
  have y13 : w0.cell? ⟨N, 13, none⟩ = some (.slice a n k) := kN.cell 13
  go_wp2_with fail
  refine (HC.out _ (HB.out.grew g0)).mono ?_
  rintro e w1 ⟨b, j, rfl, HR, g1⟩
  have kN1 := kN.grew g1
  have kR1 := kR.grew g1
  have lN1 := kN.lt
  have lR1 := kR.lt
  clear y13
  have y13 : w1.cell? ⟨N, 13, none⟩ = some (.slice a n k) := kN1.cell 13
  have f13 := kN1.free 13
  go_upto_region 2 with fail
  have o2 := Only.set w1 N 13 (.slice b n j)
  have kN2 : Blk (w1.setCell ⟨N, 13, none⟩ (.slice b n j)) N (ncA c (.slice b n j)) 25 := kN1.set (o := 13) (.slice b n j)
  have kR2 := kR1.only o2 nRN
  have HR2 := Lib.hid (HR.out.only o2 kN1 (by decide))
  have g2 : Grew w _ := o2.grew (g0.trans g1) LN.out
  clear y13 f13 kN1 kR1 HR
  generalize (w1.setCell ⟨N, 13, none⟩ (.slice b n j)) = w2 at *
  go_wp2_with (first | (refine ld_nc rfl (.tmp 1) rfl _ rfl kN2 (by rfl) ?_) | (refine st_nc rfl (.tmp 2) (.tmp 7) rfl rfl c kR2 rfl (by rfl) (by rfl) ⟨_, _, _, rfl⟩ ?_; intro w3 kR3 o3))
  have g3 : Grew w w3 := o3.grew g2 LR.out
  exact bodyPost_ret (v := ncV c (.slice b n j)) (results_cell_row (p := 2) (ty := 25) Try.results33 _ _ R 25 (ncA c (.slice b n j)) (0, 0) _ rfl kR3 Try.underlying25 rfl ncInfo) rfl ⟨b, j, rfl, Lib.hid ((HR2.out.only o3 kR2 (by decide)).low g0.size), g3⟩
end Go.Proofs.Ytoehdhhodidehaa
