/-
  The document's own controller: in, Check, Line, wrong, dropped, New, Same.
-/
import Derived.Test.YtoehdhhodidehaaRows
import Derived.Test.YtoehdhhodidehaaNcT
import Derived.Test.YtoehdhhodidehaaNcW
import Derived.WalkKit
import Derived.Outline
import Derived.Handy
import Derived.StillTailTactics
import Derived.Deep.QuietTactic
import Derived.BigQuiet
import Derived.Deep.DeepCutAuto
import Derived.Deep.RegionHeld3
import Derived.Great.BuildSlice
import Derived.Deep.WholeRow
import Derived.Lib.SliceRun
import Derived.BigFrame
set_option maxRecDepth 4000
set_option linter.unusedVariables false
set_option linter.unusedSimpArgs false
namespace Go.Proofs.Ytoehdhhodidehaa
open Go.RowKit

def inB (x l h : Int) : Bool := decide (l ≤ x) && decide (x ≤ h)
theorem rin_c (x l h : Int) (w : World) : Calls Try.prog 44 #[.int .i64 x, .int .i64 l, .int .i64 h] w fun e w' => e = .returned (.bool (inB x l h)) ∧ w = w' := by
  unfold inB
  cases b0 : decide (l ≤ x) <;> cases b1 : decide (x ≤ h)
  all_goals
    have h0 := b0
    simp only [decide_eq_true_eq, decide_eq_false_iff_not] at h0
    have h1 := b1
    simp only [decide_eq_true_eq, decide_eq_false_iff_not] at h1
    clear b0 b1
    go_enter Try.func44, Try.ntmps44
    go_wp2_with fail
    go_ret
    exact ⟨rfl, rfl⟩
def ringsB (c : Nat → Int) : Bool := inB (c 4) 1 64 && (inB (c 8) 1 64 && (inB (c 5) 0 (c 4 - 1) && (inB (c 6) 0 (c 4 - 1) && (inB (c 9) 0 (c 8 - 1) && inB (c 10) 0 (c 8 - 1)))))
def rchkB (c : Nat → Int) (n : Nat) : Bool := (n == 6) && (inB (c 0) 0 7 && (inB (c 1) 0 15 && (inB (c 2) 0 15 && (decide (c 3 < 4294967296) && (decide (c 7 < 4294967296) && (ringsB c && (inB (c 11) 0 2147483648 && inB (c 12) 0 2147483648)))))))
theorem rchk_eq (c : Nat → Int) (n : Nat) : rchkB c n = chkB c n := by
  rw [Bool.eq_iff_iff]
  simp only [rchkB, ringsB, inB, chkB, belowB, ringB, lenB, Bool.and_eq_true, beq_iff_eq, decide_eq_true_eq]
  constructor
  · rintro ⟨h6, ⟨a0, a1⟩, ⟨b0, b1⟩, ⟨d0, d1⟩, e3, e7, ⟨⟨f0, f1⟩, ⟨g0, g1⟩, ⟨i0, i1⟩, ⟨j0, j1⟩, ⟨k0, k1⟩, l0, l1⟩, ⟨m0, m1⟩, n0, n1⟩
    refine ⟨h6, ⟨a0, by omega⟩, ⟨b0, by omega⟩, ⟨d0, by omega⟩, ⟨by omega, ⟨f0, f1⟩, ⟨i0, by omega⟩, j0, by omega⟩, ⟨by omega, ⟨g0, g1⟩, ⟨k0, by omega⟩, l0, by omega⟩, ⟨m0, by omega⟩, n0, by omega⟩
  · rintro ⟨h6, ⟨a0, a1⟩, ⟨b0, b1⟩, ⟨d0, d1⟩, ⟨e0, ⟨e1, e2⟩, ⟨e3, e4⟩, e5, e6⟩, ⟨f0, ⟨f1, f2⟩, ⟨f3, f4⟩, f5, f6⟩, ⟨i0, i1⟩, j0, j1⟩
    exact ⟨h6, ⟨a0, by omega⟩, ⟨b0, by omega⟩, ⟨d0, by omega⟩, by omega, by omega, ⟨⟨e1, e2⟩, ⟨f1, f2⟩, ⟨e3, by omega⟩, ⟨e5, by omega⟩, ⟨f3, by omega⟩, f5, by omega⟩, ⟨i0, by omega⟩, j0, by omega⟩
set_option maxHeartbeats 8000000 in
theorem rCheck_c (c : Nat → Int) (a : Option Addr) (n k : Nat) (w : World) : Calls Try.prog 20 #[ncV c (.slice a n k)] w fun e w' => e = .returned (.bool (chkB c n)) ∧ Grew w w' := by
  rw [← rchk_eq]
  unfold rchkB ringsB
  have hw4 : inB (c 4) 1 64 = true → IntKind.i64.wrap (c 4 - 1) = c 4 - 1 := fun h => IntWalk.i64_in _ (by unfold inB at h; simp at h; omega)
  have hw8 : inB (c 8) 1 64 = true → IntKind.i64.wrap (c 8 - 1) = c 8 - 1 := fun h => IntWalk.i64_in _ (by unfold inB at h; simp at h; omega)
  generalize e0 : inB (c 4) 1 64 = r0 at *
  have E0 := Lib.hid e0
  clear e0
  generalize e1 : inB (c 8) 1 64 = r1 at *
  have E1 := Lib.hid e1
  clear e1
  generalize e2 : inB (c 5) 0 (c 4 - 1) = r2 at *
  have E2 := Lib.hid e2
  clear e2
  generalize e3 : inB (c 6) 0 (c 4 - 1) = r3 at *
  have E3 := Lib.hid e3
  clear e3
  generalize e4 : inB (c 9) 0 (c 8 - 1) = r4 at *
  have E4 := Lib.hid e4
  clear e4
  generalize e5 : inB (c 10) 0 (c 8 - 1) = r5 at *
  have E5 := Lib.hid e5
  clear e5
  generalize hRR : (r0 && (r1 && (r2 && (r3 && (r4 && r5))))) = RR at *
  generalize f0 : inB (c 0) 0 7 = s0 at *
  have F0 := Lib.hid f0
  clear f0
  generalize f1 : inB (c 1) 0 15 = s1 at *
  have F1 := Lib.hid f1
  clear f1
  generalize f2 : inB (c 2) 0 15 = s2 at *
  have F2 := Lib.hid f2
  clear f2
  generalize f3 : decide (c 3 < 4294967296) = s3 at *
  generalize f4 : decide (c 7 < 4294967296) = s4 at *
  generalize f6 : inB (c 11) 0 2147483648 = s6 at *
  have F6 := Lib.hid f6
  clear f6
  generalize f7 : inB (c 12) 0 2147483648 = s7 at *
  have F7 := Lib.hid f7
  clear f7
  have HR := Lib.hid hRR
  clear hRR
  go_enter Try.func20, Try.ntmps20
  go_upto_region 1 with fail
  have kN : Blk (w.alloc (.cells (ncA c (.slice a n k)) 25)) w.heap.size (ncA c (.slice a n k)) 25 := Blk.new _ _ _ _ rfl
  have g0 : Grew w (w.alloc (.cells (ncA c (.slice a n k)) 25)) := (Grew.refl w).alloc _
  generalize (w.alloc (.cells (ncA c (.slice a n k)) 25)) = w0 at *
  generalize w.heap.size = N at *
  have y0 : w0.cell? ⟨N, 0, none⟩ = some (.int .i64 (c 0)) := kN.cell 0
  have y1 : w0.cell? ⟨N, 1, none⟩ = some (.int .i64 (c 1)) := kN.cell 1
  have y2 : w0.cell? ⟨N, 2, none⟩ = some (.int .i64 (c 2)) := kN.cell 2
  have y3 : w0.cell? ⟨N, 3, none⟩ = some (.int .u64 (c 3)) := kN.cell 3
  have y4 : w0.cell? ⟨N, 4, none⟩ = some (.int .i64 (c 4)) := kN.cell 4
  have y5 : w0.cell? ⟨N, 5, none⟩ = some (.int .i64 (c 5)) := kN.cell 5
  have y6 : w0.cell? ⟨N, 6, none⟩ = some (.int .i64 (c 6)) := kN.cell 6
  have y7 : w0.cell? ⟨N, 7, none⟩ = some (.int .u64 (c 7)) := kN.cell 7
  have y8 : w0.cell? ⟨N, 8, none⟩ = some (.int .i64 (c 8)) := kN.cell 8
  have y9 : w0.cell? ⟨N, 9, none⟩ = some (.int .i64 (c 9)) := kN.cell 9
  have y10 : w0.cell? ⟨N, 10, none⟩ = some (.int .i64 (c 10)) := kN.cell 10
  have y11 : w0.cell? ⟨N, 11, none⟩ = some (.int .i64 (c 11)) := kN.cell 11
  have y12 : w0.cell? ⟨N, 12, none⟩ = some (.int .i64 (c 12)) := kN.cell 12
  have y13 : w0.cell? ⟨N, 13, none⟩ = some (.slice a n k) := kN.cell 13
  clear kN
  go_cut [3] (fun v wx => v = .bool RR ∧ wx = w0)
  case first =>
    clear f3 f4
    cases r0
    · go_wp2_with (go_at_call 44; refine (rin_c _ _ _ _).mono ?_; rintro e w1 ⟨rfl, rfl⟩; first | rw [E0.out] | rw [E1.out] | rw [E2.out] | rw [E3.out] | rw [E4.out] | rw [E5.out])
      go_meet
      exact ⟨by rw [← HR.out]; rfl, rfl⟩
    have hw4 := hw4 rfl
    cases r1
    · go_wp2_with (go_at_call 44; refine (rin_c _ _ _ _).mono ?_; rintro e w1 ⟨rfl, rfl⟩; first | rw [E0.out] | rw [E1.out] | rw [E2.out] | rw [E3.out] | rw [E4.out] | rw [E5.out])
      go_meet
      exact ⟨by rw [← HR.out]; rfl, rfl⟩
    have hw8 := hw8 rfl
    cases r2
    · go_wp2_with (go_at_call 44; refine (rin_c _ _ _ _).mono ?_; rintro e w1 ⟨rfl, rfl⟩; first | rw [E0.out] | rw [E1.out] | rw [E2.out] | rw [E3.out] | rw [E4.out] | rw [E5.out])
      go_meet
      exact ⟨by rw [← HR.out]; rfl, rfl⟩
    cases r3
    · go_wp2_with (go_at_call 44; refine (rin_c _ _ _ _).mono ?_; rintro e w1 ⟨rfl, rfl⟩; first | rw [E0.out] | rw [E1.out] | rw [E2.out] | rw [E3.out] | rw [E4.out] | rw [E5.out])
      go_meet
      exact ⟨by rw [← HR.out]; rfl, rfl⟩
    cases r4
    · go_wp2_with (go_at_call 44; refine (rin_c _ _ _ _).mono ?_; rintro e w1 ⟨rfl, rfl⟩; first | rw [E0.out] | rw [E1.out] | rw [E2.out] | rw [E3.out] | rw [E4.out] | rw [E5.out])
      go_meet
      exact ⟨by rw [← HR.out]; rfl, rfl⟩
    cases r5
    · go_wp2_with (go_at_call 44; refine (rin_c _ _ _ _).mono ?_; rintro e w1 ⟨rfl, rfl⟩; first | rw [E0.out] | rw [E1.out] | rw [E2.out] | rw [E3.out] | rw [E4.out] | rw [E5.out])
      go_meet
      exact ⟨by rw [← HR.out]; rfl, rfl⟩
    go_wp2_with (go_at_call 44; refine (rin_c _ _ _ _).mono ?_; rintro e w1 ⟨rfl, rfl⟩; first | rw [E0.out] | rw [E1.out] | rw [E2.out] | rw [E3.out] | rw [E4.out] | rw [E5.out])
    go_meet
    exact ⟨by rw [← HR.out]; rfl, rfl⟩
  case rest =>
    obtain ⟨rfl, rfl⟩ := hcut
    clear hw4 hw8 E0 E1 E2 E3 E4 E5 HR
    by_cases h6 : n = 6
    · have hb0 : (n == 6) = true := by simpa using h6
      have hb1 : ((n : Int) == 6) = true := by simp; omega
      have HB0 := Lib.hid hb0
      clear h6 hb0
      cases s0
      · go_wp2_with (go_at_call 44; refine (rin_c _ _ _ _).mono ?_; rintro e w1 ⟨rfl, rfl⟩; first | rw [F0.out] | rw [F1.out] | rw [F2.out] | rw [F6.out] | rw [F7.out])
        go_ret
        exact ⟨by first | (rw [HB0.out]; rfl) | rfl, g0⟩
      cases s1
      · go_wp2_with (go_at_call 44; refine (rin_c _ _ _ _).mono ?_; rintro e w1 ⟨rfl, rfl⟩; first | rw [F0.out] | rw [F1.out] | rw [F2.out] | rw [F6.out] | rw [F7.out])
        go_ret
        exact ⟨by first | (rw [HB0.out]; rfl) | rfl, g0⟩
      cases s2
      · go_wp2_with (go_at_call 44; refine (rin_c _ _ _ _).mono ?_; rintro e w1 ⟨rfl, rfl⟩; first | rw [F0.out] | rw [F1.out] | rw [F2.out] | rw [F6.out] | rw [F7.out])
        go_ret
        exact ⟨by first | (rw [HB0.out]; rfl) | rfl, g0⟩
      cases s3
      · simp only [decide_eq_false_iff_not] at f3
        go_wp2_with (go_at_call 44; refine (rin_c _ _ _ _).mono ?_; rintro e w1 ⟨rfl, rfl⟩; first | rw [F0.out] | rw [F1.out] | rw [F2.out] | rw [F6.out] | rw [F7.out])
        go_ret
        exact ⟨by first | (rw [HB0.out]; rfl) | rfl, g0⟩
      simp only [decide_eq_true_eq] at f3
      cases s4
      · simp only [decide_eq_false_iff_not] at f4
        go_wp2_with (go_at_call 44; refine (rin_c _ _ _ _).mono ?_; rintro e w1 ⟨rfl, rfl⟩; first | rw [F0.out] | rw [F1.out] | rw [F2.out] | rw [F6.out] | rw [F7.out])
        go_ret
        exact ⟨by first | (rw [HB0.out]; rfl) | rfl, g0⟩
      simp only [decide_eq_true_eq] at f4
      cases RR
      · go_wp2_with (go_at_call 44; refine (rin_c _ _ _ _).mono ?_; rintro e w1 ⟨rfl, rfl⟩; first | rw [F0.out] | rw [F1.out] | rw [F2.out] | rw [F6.out] | rw [F7.out])
        go_ret
        exact ⟨by first | (rw [HB0.out]; rfl) | rfl, g0⟩
      cases s6
      · go_wp2_with (go_at_call 44; refine (rin_c _ _ _ _).mono ?_; rintro e w1 ⟨rfl, rfl⟩; first | rw [F0.out] | rw [F1.out] | rw [F2.out] | rw [F6.out] | rw [F7.out])
        go_ret
        exact ⟨by first | (rw [HB0.out]; rfl) | rfl, g0⟩
      cases s7
      · go_wp2_with (go_at_call 44; refine (rin_c _ _ _ _).mono ?_; rintro e w1 ⟨rfl, rfl⟩; first | rw [F0.out] | rw [F1.out] | rw [F2.out] | rw [F6.out] | rw [F7.out])
        go_ret
        exact ⟨by first | (rw [HB0.out]; rfl) | rfl, g0⟩
      go_wp2_with (go_at_call 44; refine (rin_c _ _ _ _).mono ?_; rintro e w1 ⟨rfl, rfl⟩; first | rw [F0.out] | rw [F1.out] | rw [F2.out] | rw [F6.out] | rw [F7.out])
      go_ret
      exact ⟨by first | (rw [HB0.out]; rfl) | rfl, g0⟩
    · have hb0 : (n == 6) = false := by simpa using h6
      have hb1 : ((n : Int) == 6) = false := by simp; omega
      have HB0 := Lib.hid hb0
      clear h6 f3 f4 hb0
      go_wp2_with (go_at_call 44; refine (rin_c _ _ _ _).mono ?_; rintro e w1 ⟨rfl, rfl⟩; first | rw [F0.out] | rw [F1.out] | rw [F2.out] | rw [F6.out] | rw [F7.out])
      go_ret
      exact ⟨by first | (rw [HB0.out]; rfl) | rfl, g0⟩
theorem rLine_c (c : Nat → Int) (a : Option Addr) (n k : Nat) (w : World) : Calls Try.prog 22 #[ncV c (.slice a n k)] w fun e w' => e = .returned (.bool (lineB c n)) ∧ Grew w w' := by
  have hC := Lib.hid (rCheck_c c a n k)
  unfold lineB
  cases hb : chkB c n
  all_goals
    rw [hb] at hC
    go_enter Try.func22, Try.ntmps22
    go_upto_region 1 with fail
    have kN : Blk (w.alloc (.cells (ncA c (.slice a n k)) 25)) w.heap.size (ncA c (.slice a n k)) 25 := Blk.new _ _ _ _ rfl
    have g0 : Grew w (w.alloc (.cells (ncA c (.slice a n k)) 25)) := (Grew.refl w).alloc _
    generalize (w.alloc (.cells (ncA c (.slice a n k)) 25)) = w0 at *
    generalize w.heap.size = N at *
    go_wp2_with (refine ld_nc rfl (.tmp 1) rfl _ rfl kN (by rfl) ?_)
    refine (hC.out _).mono ?_
    rintro e w1 ⟨rfl, g1⟩
    have kN1 := kN.grew g1
    have y1 : w1.cell? ⟨N, 1, none⟩ = some (.int .i64 (c 1)) := kN1.cell 1
    have y2 : w1.cell? ⟨N, 2, none⟩ = some (.int .i64 (c 2)) := kN1.cell 2
    go_wp2_with fail
    go_ret
    exact ⟨rfl, g0.trans g1⟩
theorem ncA_upd (c : Nat → Int) (u : Value) {k : Nat} (hk : k < 13) (h3 : k ≠ 3) (h7 : k ≠ 7) (v : Int) : (ncA c u).setIfInBounds k (.int .i64 v) = ncA (upd c k v) u := by
  match k, hk, h3, h7 with
  | 0, _, _, _ => rfl
  | 1, _, _, _ => rfl
  | 2, _, _, _ => rfl
  | 4, _, _, _ => rfl
  | 5, _, _, _ => rfl
  | 6, _, _, _ => rfl
  | 8, _, _, _ => rfl
  | 9, _, _, _ => rfl
  | 10, _, _, _ => rfl
  | 11, _, _, _ => rfl
  | 12, _, _, _ => rfl
  | 3, _, h, _ => exact absurd rfl h
  | 7, _, _, h => exact absurd rfl h
theorem ncA_upd3 (c : Nat → Int) (u : Value) (v : Int) : (ncA c u).setIfInBounds 3 (.int .u64 v) = ncA (upd c 3 v) u := rfl
theorem ncA_upd7 (c : Nat → Int) (u : Value) (v : Int) : (ncA c u).setIfInBounds 7 (.int .u64 v) = ncA (upd c 7 v) u := rfl
theorem Blk.nc {w : World} {g k : Nat} {c : Nat → Int} {u : Value} {T : TypeId} (h : Blk w g (ncA c u) T) (hk : k < 13) (h3 : k ≠ 3) (h7 : k ≠ 7) (v : Int) : Blk (w.setCell ⟨g, k, none⟩ (.int .i64 v)) g (ncA (upd c k v) u) T := by
  have := h.set (o := k) (.int .i64 v)
  rwa [ncA_upd c u hk h3 h7 v] at this
set_option maxHeartbeats 1000000 in
theorem rwrong_c {c : Nat → Int} (h0 : 0 ≤ c 12) (h1 : c 12 ≤ 2147483648) (h2 : 0 ≤ c 1) (h3 : c 1 < 16) (a : Option Addr) (n j : Nat) (w : World) : Calls Try.prog 45 #[ncV c (.slice a n j)] w fun e w' => e = .returned (ncV (failC c) (.slice a n j)) ∧ Grew w w' := by
  have hw : IntKind.i64.wrap (c 12 + 1) = c 12 + 1 := IntWalk.i64_in _ (by omega)
  have hmin : ∀ ts t w', (Builtin.min_ ts t #[.int .i64 (c 12 + 1), .int .i64 2147483648]).run Try.prog w' = .ok (.int .i64 (min (c 12 + 1) 2147483648)) w' := fun ts t w' => by
    rw [run_min_int2]
    congr 2
    split <;> omega
  have hor := or_i64_4 h2 h3
  clear h0 h1 h2 h3
  go_enter Try.func45, Try.ntmps45
  go_upto_region 1 with fail
  have kN : Blk ((w.alloc (.cells (ncA c (.slice a n j)) 25)).alloc (.cells zeroN 25)) w.heap.size (ncA c (.slice a n j)) 25 := (Blk.new w (ncA c (.slice a n j)) 25 _ rfl).alloc (.cells zeroN 25)
  have kR : Blk ((w.alloc (.cells (ncA c (.slice a n j)) 25)).alloc (.cells zeroN 25)) (w.heap.size + 1) zeroN 25 := Blk.new (w.alloc (.cells (ncA c (.slice a n j)) 25)) zeroN 25 _ (by simp)
  have g0 : Grew w ((w.alloc (.cells (ncA c (.slice a n j)) 25)).alloc (.cells zeroN 25)) := ((Grew.refl w).alloc (.cells (ncA c (.slice a n j)) 25)).alloc (.cells zeroN 25)
  generalize ((w.alloc (.cells (ncA c (.slice a n j)) 25)).alloc (.cells zeroN 25)) = w0 at *
  have lN : w.heap.size ≤ w.heap.size := by omega
  have lR : w.heap.size ≤ (w.heap.size + 1) := by omega
  have nNR : w.heap.size ≠ (w.heap.size + 1) := by omega
  have nRN : (w.heap.size + 1) ≠ w.heap.size := by omega
  generalize (w.heap.size + 1) = R at *
  generalize hZ : w.heap.size = N at *
  have HZ := Lib.hid hZ
  clear hZ
  have LN : Hid (w.heap.size ≤ N) := Lib.hid (by rw [HZ.out]; exact lN)
  have LR : Hid (w.heap.size ≤ R) := Lib.hid (by rw [HZ.out]; exact lR)
  have y0 : w0.cell? ⟨N, 12, none⟩ = some (.int .i64 (c 12)) := kN.cell 12
  have f0 := kN.free 12
  go_upto_region 2 with fail
  have kN1 := kN.nc (by decide : 12 < 13) (by decide) (by decide) (min (c 12 + 1) 2147483648)
  have o1 := Only.set w0 N 12 (.int .i64 (min (c 12 + 1) 2147483648))
  have kR1 := kR.only o1 nRN
  have g1 : Grew w _ := o1.grew g0 LN.out
  clear y0 f0 kN kR g0 o1
  generalize (w0.setCell ⟨N, 12, none⟩ (.int .i64 (min (c 12 + 1) 2147483648))) = w1 at *
  have y1 : w1.cell? ⟨N, 1, none⟩ = some (.int .i64 (c 1)) := kN1.cell 1
  have f1 := kN1.free 1
  go_upto_region 3 with fail
  have kN2 := kN1.nc (by decide : 1 < 13) (by decide) (by decide) (orB 4 (c 1))
  have o2 := Only.set w1 N 1 (.int .i64 (orB 4 (c 1)))
  have kR2 := kR1.only o2 nRN
  have g2 : Grew w _ := o2.grew g1 LN.out
  clear y1 f1 kN1 kR1 g1 o2
  generalize (w1.setCell ⟨N, 1, none⟩ (.int .i64 (orB 4 (c 1)))) = w2 at *
  replace kN2 : Blk w2 N (ncA (failC c) (.slice a n j)) 25 := kN2
  go_wp2_with (first | (refine ld_nc rfl (.tmp 1) rfl _ rfl kN2 (by rfl) ?_) | (refine st_nc rfl (.tmp 2) (.tmp 12) rfl rfl (failC c) kR2 rfl (by rfl) (by rfl) ⟨_, _, _, rfl⟩ ?_; intro w3 kR3 o3))
  have g3 : Grew w w3 := o3.grew g2 LR.out
  exact bodyPost_ret (v := ncV (failC c) (.slice a n j)) (results_cell_row (p := 2) (ty := 25) Try.results45 _ _ R 25 (ncA (failC c) (.slice a n j)) (0, 0) _ rfl kR3 Try.underlying25 rfl ncInfo) rfl ⟨rfl, g3⟩
set_option maxHeartbeats 1000000 in
theorem rdrop_c {c : Nat → Int} (h0 : 0 ≤ c 11) (h1 : c 11 ≤ 2147483648) (h2 : 0 ≤ c 1) (h3 : c 1 < 16) (a : Option Addr) (n j : Nat) (w : World) : Calls Try.prog 49 #[ncV c (.slice a n j)] w fun e w' => e = .returned (ncV (dropC c) (.slice a n j)) ∧ Grew w w' := by
  have hw : IntKind.i64.wrap (c 11 + 1) = c 11 + 1 := IntWalk.i64_in _ (by omega)
  have hmin : ∀ ts t w', (Builtin.min_ ts t #[.int .i64 (c 11 + 1), .int .i64 2147483648]).run Try.prog w' = .ok (.int .i64 (min (c 11 + 1) 2147483648)) w' := fun ts t w' => by
    rw [run_min_int2]
    congr 2
    split <;> omega
  have hor := or_i64_8 h2 h3
  clear h0 h1 h2 h3
  go_enter Try.func49, Try.ntmps49
  go_upto_region 1 with fail
  have kN : Blk ((w.alloc (.cells (ncA c (.slice a n j)) 25)).alloc (.cells zeroN 25)) w.heap.size (ncA c (.slice a n j)) 25 := (Blk.new w (ncA c (.slice a n j)) 25 _ rfl).alloc (.cells zeroN 25)
  have kR : Blk ((w.alloc (.cells (ncA c (.slice a n j)) 25)).alloc (.cells zeroN 25)) (w.heap.size + 1) zeroN 25 := Blk.new (w.alloc (.cells (ncA c (.slice a n j)) 25)) zeroN 25 _ (by simp)
  have g0 : Grew w ((w.alloc (.cells (ncA c (.slice a n j)) 25)).alloc (.cells zeroN 25)) := ((Grew.refl w).alloc (.cells (ncA c (.slice a n j)) 25)).alloc (.cells zeroN 25)
  generalize ((w.alloc (.cells (ncA c (.slice a n j)) 25)).alloc (.cells zeroN 25)) = w0 at *
  have lN : w.heap.size ≤ w.heap.size := by omega
  have lR : w.heap.size ≤ (w.heap.size + 1) := by omega
  have nNR : w.heap.size ≠ (w.heap.size + 1) := by omega
  have nRN : (w.heap.size + 1) ≠ w.heap.size := by omega
  generalize (w.heap.size + 1) = R at *
  generalize hZ : w.heap.size = N at *
  have HZ := Lib.hid hZ
  clear hZ
  have LN : Hid (w.heap.size ≤ N) := Lib.hid (by rw [HZ.out]; exact lN)
  have LR : Hid (w.heap.size ≤ R) := Lib.hid (by rw [HZ.out]; exact lR)
  have y0 : w0.cell? ⟨N, 11, none⟩ = some (.int .i64 (c 11)) := kN.cell 11
  have f0 := kN.free 11
  go_upto_region 2 with fail
  have kN1 := kN.nc (by decide : 11 < 13) (by decide) (by decide) (min (c 11 + 1) 2147483648)
  have o1 := Only.set w0 N 11 (.int .i64 (min (c 11 + 1) 2147483648))
  have kR1 := kR.only o1 nRN
  have g1 : Grew w _ := o1.grew g0 LN.out
  clear y0 f0 kN kR g0 o1
  generalize (w0.setCell ⟨N, 11, none⟩ (.int .i64 (min (c 11 + 1) 2147483648))) = w1 at *
  have y1 : w1.cell? ⟨N, 1, none⟩ = some (.int .i64 (c 1)) := kN1.cell 1
  have f1 := kN1.free 1
  go_upto_region 3 with fail
  have kN2 := kN1.nc (by decide : 1 < 13) (by decide) (by decide) (orB 8 (c 1))
  have o2 := Only.set w1 N 1 (.int .i64 (orB 8 (c 1)))
  have kR2 := kR1.only o2 nRN
  have g2 : Grew w _ := o2.grew g1 LN.out
  clear y1 f1 kN1 kR1 g1 o2
  generalize (w1.setCell ⟨N, 1, none⟩ (.int .i64 (orB 8 (c 1)))) = w2 at *
  replace kN2 : Blk w2 N (ncA (dropC c) (.slice a n j)) 25 := kN2
  go_wp2_with (first | (refine ld_nc rfl (.tmp 1) rfl _ rfl kN2 (by rfl) ?_) | (refine st_nc rfl (.tmp 2) (.tmp 12) rfl rfl (dropC c) kR2 rfl (by rfl) (by rfl) ⟨_, _, _, rfl⟩ ?_; intro w3 kR3 o3))
  have g3 : Grew w w3 := o3.grew g2 LR.out
  exact bodyPost_ret (v := ncV (dropC c) (.slice a n j)) (results_cell_row (p := 2) (ty := 25) Try.results49 _ _ R 25 (ncA (dropC c) (.slice a n j)) (0, 0) _ rfl kR3 Try.underlying25 rfl ncInfo) rfl ⟨rfl, g3⟩
set_option maxHeartbeats 1000000 in
theorem rNew_no {m : List Int} {a : Option Addr} {j : Nat} {w : World} (h6 : m.length ≠ 6) : Calls Try.prog 18 #[.slice a m.length j] w fun e w' => e = .returned (.tuple #[ncV zeroC (.slice none 0 0), .int .i64 2]) ∧ Grew w w' := by
  have h6' : ((m.length : Int) != 6) = true := by simp; omega
  generalize m.length = n at *
  clear h6
  go_enter Try.func18, Try.ntmps18
  go_upto_region 1 with fail
  have kR : Blk (w.alloc (.cells zeroN 25)) w.heap.size zeroN 25 := Blk.new w zeroN 25 _ rfl
  have g0 : Grew w (w.alloc (.cells zeroN 25)) := (Grew.refl w).alloc (.cells zeroN 25)
  generalize (w.alloc (.cells zeroN 25)) = w0 at *
  have lR : w.heap.size ≤ w.heap.size := by omega
  generalize hZ : w.heap.size = R at *
  have HZ := Lib.hid hZ
  clear hZ
  have LR : Hid (w.heap.size ≤ R) := Lib.hid (by rw [HZ.out]; exact lR)
  go_wp2_with (refine st_nc rfl (.tmp 2) (.tmp 7) rfl rfl zeroC kR rfl (by rfl) (by rfl) ⟨_, _, _, rfl⟩ ?_; intro w3 kR3 o3)
  have g3 : Grew w w3 := o3.grew g0 LR.out
  exact bodyPost_ret (v := .tuple #[ncV zeroC (.slice none 0 0), .int .i64 2]) (results_nb (p := 2) (q := 3) Try.results18 _ _ R kR3 rfl) rfl ⟨rfl, g3⟩
set_option maxHeartbeats 1000000 in
theorem rNew_yes {m : List Int} {a : Option Addr} {j : Nat} {w : World} (h6 : m.length = 6) (hB : Buf w (.slice a m.length j) m) : Calls Try.prog 18 #[.slice a m.length j] w fun e w' => ∃ b i, e = .returned (.tuple #[ncV (newC m) (.slice b m.length i), .int .i64 0]) ∧ Hid (Buf w' (.slice b m.length i) m) ∧ Grew w w' := by
  have h6' : ((m.length : Int) != 6) = false := by simp; omega
  have HB := Lib.hid hB
  have HL : Hid (([] : List Int).length + m.length ≤ 140737488355328) := Lib.hid (by simp; omega)
  have HK := Lib.hid hB.ok
  clear h6 hB
  go_enter Try.func18, Try.ntmps18
  go_upto_region 1 with fail
  have kR : Blk (w.alloc (.cells zeroN 25)) w.heap.size zeroN 25 := Blk.new w zeroN 25 _ rfl
  have g0 : Grew w (w.alloc (.cells zeroN 25)) := (Grew.refl w).alloc (.cells zeroN 25)
  generalize (w.alloc (.cells zeroN 25)) = w0 at *
  have lR : w.heap.size ≤ w.heap.size := by omega
  generalize hZ : w.heap.size = R at *
  have HZ := Lib.hid hZ
  clear hZ
  have LR : Hid (w.heap.size ≤ R) := Lib.hid (by rw [HZ.out]; exact lR)
  go_upto_region 3 with fail
  go_wp2_with (first | (refine wpList_append_b (W := w0) rfl (.tmp 8) (.tmp 9) rfl (by exact (Grew.refl w0).alloc _) (Row.lit w0 w0.heap.size (Nat.le_refl _) #[] [] rfl (Nat.zero_le _) _ rfl 0 rfl) ((HB.out.grew g0).grew ((Grew.refl w0).alloc _)) (by rfl) (by rfl) HL.out ?_; intro v1 w1 HR1 g1 q1; clear q1; rw [List.nil_append] at HR1; have HB1 := Lib.hid (HR1.out.buf HK.out); obtain ⟨ao, co, eo, _, _⟩ := HB1.out.shape; subst eo; have kR1 := kR.grew g1) | (refine st_nc rfl (.tmp 2) (.tmp 11) rfl rfl (newC m) kR1 rfl (by rfl) (by rfl) ⟨_, _, _, rfl⟩ ?_; intro w3 kR3 o3))
  have g3 : Grew w w3 := o3.grew (g0.trans g1) LR.out
  exact bodyPost_ret (v := .tuple #[ncV (newC m) (.slice ao m.length co), .int .i64 0]) (results_nb (p := 2) (q := 3) Try.results18 _ _ R kR3 rfl) rfl ⟨ao, co, rfl, Lib.hid (HB1.out.only o3 kR1 nb_zn), g3⟩
set_option maxHeartbeats 4000000 in
theorem rSame_c {c : Nat → Int} {m : List Int} {a1 a2 : Option Addr} {k1 k2 : Nat} {w : World} (h1 : Buf w (.slice a1 m.length k1) m) (h2 : Buf w (.slice a2 m.length k2) m) : Calls Try.prog 19 #[ncV c (.slice a1 m.length k1), ncV c (.slice a2 m.length k2)] w fun e w' => e = .returned (.bool true) ∧ Grew w w' := by
  have H1 := Lib.hid h1
  have H2 := Lib.hid h2
  clear h1 h2
  generalize m.length = n at *
  go_enter Try.func19, Try.ntmps19
  go_upto_region 1 with fail
  have kN : Blk ((w.alloc (.cells (ncA c (.slice a1 n k1)) 25)).alloc (.cells (ncA c (.slice a2 n k2)) 25)) w.heap.size (ncA c (.slice a1 n k1)) 25 := (Blk.new w (ncA c (.slice a1 n k1)) 25 _ rfl).alloc (.cells (ncA c (.slice a2 n k2)) 25)
  have kM : Blk ((w.alloc (.cells (ncA c (.slice a1 n k1)) 25)).alloc (.cells (ncA c (.slice a2 n k2)) 25)) (w.heap.size + 1) (ncA c (.slice a2 n k2)) 25 := Blk.new (w.alloc (.cells (ncA c (.slice a1 n k1)) 25)) (ncA c (.slice a2 n k2)) 25 _ (by simp)
  have g0 : Grew w ((w.alloc (.cells (ncA c (.slice a1 n k1)) 25)).alloc (.cells (ncA c (.slice a2 n k2)) 25)) := ((Grew.refl w).alloc (.cells (ncA c (.slice a1 n k1)) 25)).alloc (.cells (ncA c (.slice a2 n k2)) 25)
  generalize ((w.alloc (.cells (ncA c (.slice a1 n k1)) 25)).alloc (.cells (ncA c (.slice a2 n k2)) 25)) = w0 at *
  have lN : w.heap.size ≤ w.heap.size := by omega
  have lM : w.heap.size ≤ (w.heap.size + 1) := by omega
  have nNM : w.heap.size ≠ (w.heap.size + 1) := by omega
  have nMN : (w.heap.size + 1) ≠ w.heap.size := by omega
  generalize (w.heap.size + 1) = M at *
  generalize hZ : w.heap.size = N at *
  have HZ := Lib.hid hZ
  clear hZ
  have LN : Hid (w.heap.size ≤ N) := Lib.hid (by rw [HZ.out]; exact lN)
  have LM : Hid (w.heap.size ≤ M) := Lib.hid (by rw [HZ.out]; exact lM)
  have y0 : w0.cell? ⟨N, 0, none⟩ = some (.int .i64 (c 0)) := kN.cell 0
  have y1 : w0.cell? ⟨N, 1, none⟩ = some (.int .i64 (c 1)) := kN.cell 1
  have y2 : w0.cell? ⟨N, 2, none⟩ = some (.int .i64 (c 2)) := kN.cell 2
  have y3 : w0.cell? ⟨N, 3, none⟩ = some (.int .u64 (c 3)) := kN.cell 3
  have y4 : w0.cell? ⟨N, 4, none⟩ = some (.int .i64 (c 4)) := kN.cell 4
  have y5 : w0.cell? ⟨N, 5, none⟩ = some (.int .i64 (c 5)) := kN.cell 5
  have y6 : w0.cell? ⟨N, 6, none⟩ = some (.int .i64 (c 6)) := kN.cell 6
  have y7 : w0.cell? ⟨N, 7, none⟩ = some (.int .u64 (c 7)) := kN.cell 7
  have y8 : w0.cell? ⟨N, 8, none⟩ = some (.int .i64 (c 8)) := kN.cell 8
  have y9 : w0.cell? ⟨N, 9, none⟩ = some (.int .i64 (c 9)) := kN.cell 9
  have y10 : w0.cell? ⟨N, 10, none⟩ = some (.int .i64 (c 10)) := kN.cell 10
  have y11 : w0.cell? ⟨N, 11, none⟩ = some (.int .i64 (c 11)) := kN.cell 11
  have y12 : w0.cell? ⟨N, 12, none⟩ = some (.int .i64 (c 12)) := kN.cell 12
  have y13 : w0.cell? ⟨N, 13, none⟩ = some (.slice a1 n k1) := kN.cell 13
  have z0 : w0.cell? ⟨M, 0, none⟩ = some (.int .i64 (c 0)) := kM.cell 0
  have z1 : w0.cell? ⟨M, 1, none⟩ = some (.int .i64 (c 1)) := kM.cell 1
  have z2 : w0.cell? ⟨M, 2, none⟩ = some (.int .i64 (c 2)) := kM.cell 2
  have z3 : w0.cell? ⟨M, 3, none⟩ = some (.int .u64 (c 3)) := kM.cell 3
  have z4 : w0.cell? ⟨M, 4, none⟩ = some (.int .i64 (c 4)) := kM.cell 4
  have z5 : w0.cell? ⟨M, 5, none⟩ = some (.int .i64 (c 5)) := kM.cell 5
  have z6 : w0.cell? ⟨M, 6, none⟩ = some (.int .i64 (c 6)) := kM.cell 6
  have z7 : w0.cell? ⟨M, 7, none⟩ = some (.int .u64 (c 7)) := kM.cell 7
  have z8 : w0.cell? ⟨M, 8, none⟩ = some (.int .i64 (c 8)) := kM.cell 8
  have z9 : w0.cell? ⟨M, 9, none⟩ = some (.int .i64 (c 9)) := kM.cell 9
  have z10 : w0.cell? ⟨M, 10, none⟩ = some (.int .i64 (c 10)) := kM.cell 10
  have z11 : w0.cell? ⟨M, 11, none⟩ = some (.int .i64 (c 11)) := kM.cell 11
  have z12 : w0.cell? ⟨M, 12, none⟩ = some (.int .i64 (c 12)) := kM.cell 12
  have z13 : w0.cell? ⟨M, 13, none⟩ = some (.slice a2 n k2) := kM.cell 13
  have e1 := convert_bytes (H1.out.grew g0).bytes
  have e2 := convert_bytes (H2.out.grew g0).bytes
  clear kN kM
  go_wp2_with fail
  go_ret
  exact ⟨rfl, g0⟩
end Go.Proofs.Ytoehdhhodidehaa
