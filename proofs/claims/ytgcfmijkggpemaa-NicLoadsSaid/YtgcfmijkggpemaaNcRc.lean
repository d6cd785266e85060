/-
  The document's own Load of package nic: every register.
-/
import Derived.Test.YtgcfmijkggpemaaRows
import Derived.Test.YtgcfmijkggpemaaNcRb
import Derived.Test.YtgcfmijkggpemaaClass
import Derived.WalkKit
import Derived.Outline
import Derived.Handy
import Derived.StillTailTactics
import Derived.Deep.QuietTactic
import Derived.BigQuiet
import Derived.Deep.DeepCutAuto
import Derived.Deep.RegionHeld3
import Derived.Great.BuildSlice
import Derived.Deep.WholeRow
import Derived.Lib.SliceRun
import Derived.BigFrame
set_option maxRecDepth 4000
set_option linter.unusedVariables false
set_option linter.unusedSimpArgs false
namespace Go.Proofs.Ytgcfmijkggpemaa
open Go.RowKit

set_option maxHeartbeats 2000000 in
theorem rLoad_no (c : Nat → Int) (a : Option Addr) (n k : Nat) (off size : Int) (h0 : 0 ≤ off) (h : badL c n off size = true) (w : World) : Calls Try.prog 14 #[ncV c (.slice a n k), .int .u64 off, .int .i64 size] w fun e w' => e = .returned (.tuple #[.int .u64 0, .bool false]) ∧ Grew w w' := by
  have hC := Lib.hid (rCheck_c c a n k)
  have hm : off.tmod 4 = off % 4 := Int.tmod_eq_emod_of_nonneg h0
  have hw : IntKind.u64.wrap (off % 4) = off % 4 := IntWalk.u64_in _ (by omega)
  unfold badL at h
  cases hb : chkB c n
  case false =>
    rw [hb] at hC
    clear h h0
    go_enter Try.func14, Try.ntmps14
    go_upto_region 1 with fail
    have kN : Blk (w.alloc (.cells (ncA c (.slice a n k)) 25)) w.heap.size (ncA c (.slice a n k)) 25 := Blk.new w (ncA c (.slice a n k)) 25 _ rfl
    have g0 : Grew w (w.alloc (.cells (ncA c (.slice a n k)) 25)) := (Grew.refl w).alloc (.cells (ncA c (.slice a n k)) 25)
    generalize (w.alloc (.cells (ncA c (.slice a n k)) 25)) = w0 at *
    go_wp2_with (refine ld_nc rfl (.tmp 3) rfl _ rfl kN (by rfl) ?_)
    refine (hC.out _).mono ?_
    rintro e w1 ⟨rfl, g1⟩
    have g2 := g0.trans g1
    go_wp2_with fail
    go_returns
    exact ⟨rfl, g2⟩
  case true =>
    rw [hb] at hC h
    simp only [Bool.not_true, Bool.false_or] at h
    have h3 : size ≠ 4 ∨ (size = 4 ∧ off % 4 ≠ 0) ∨ (size = 4 ∧ off % 4 = 0 ∧ 56 < off) := by
      simp only [Bool.or_eq_true, Bool.not_eq_true', beq_eq_false_iff_ne, decide_eq_true_eq] at h
      omega
    clear h hb
    rcases h3 with h3 | ⟨rfl, h3⟩ | ⟨rfl, h3, h4⟩
    all_goals
      go_enter Try.func14, Try.ntmps14
      go_upto_region 1 with fail
      have kN : Blk (w.alloc (.cells (ncA c (.slice a n k)) 25)) w.heap.size (ncA c (.slice a n k)) 25 := Blk.new w (ncA c (.slice a n k)) 25 _ rfl
      have g0 : Grew w (w.alloc (.cells (ncA c (.slice a n k)) 25)) := (Grew.refl w).alloc (.cells (ncA c (.slice a n k)) 25)
      generalize (w.alloc (.cells (ncA c (.slice a n k)) 25)) = w0 at *
      go_wp2_with (refine ld_nc rfl (.tmp 3) rfl _ rfl kN (by rfl) ?_)
      refine (hC.out _).mono ?_
      rintro e w1 ⟨rfl, g1⟩
      have g2 := g0.trans g1
      go_wp2_with fail
      go_returns
      exact ⟨rfl, g2⟩

/-- The fifteen numbers. -/
abbrev r15 (c : Nat → Int) : Array Value := #[.int .u64 (c 0), .int .u64 (c 1), .int .u64 (c 2), .int .u64 (c 3), .int .u64 (c 4), .int .u64 (c 5), .int .u64 (c 6), .int .u64 (c 7), .int .u64 (c 8), .int .u64 (c 9), .int .u64 (c 10), .int .u64 (c 11), .int .u64 (c 12), .int .u64 (c 13), .int .u64 (c 14)]
theorem r15_at (c : Nat → Int) {k : Nat} (h : k < 15) : (r15 c)[k]? = some (.int .u64 (c k)) := by
  match k, h with
  | 0, _ => rfl
  | 1, _ => rfl
  | 2, _ => rfl
  | 3, _ => rfl
  | 4, _ => rfl
  | 5, _ => rfl
  | 6, _ => rfl
  | 7, _ => rfl
  | 8, _ => rfl
  | 9, _ => rfl
  | 10, _ => rfl
  | 11, _ => rfl
  | 12, _ => rfl
  | 13, _ => rfl
  | 14, _ => rfl
theorem over_back {P : Program} {f : FuncId} {args : Array Value} {W : World} {z : Over W} {v : Value}
    (h : Calls P f args z.w fun e w' => e = .returned v ∧ w' = z.w) : Calls P f args z.w fun e w'' => e = .returned v ∧ ∃ z' : Over W, w'' = z'.w :=
  h.mono fun _ _ ⟨he, hg⟩ => ⟨he, z, hg⟩
set_option maxHeartbeats 8000000 in
theorem rLoad_yes {c : Nat → Int} {m : List Int} {a : Option Addr} {j : Nat} {w : World} (hc : ROk c) (hm : MacIs c m) (hB : Buf w (.slice a 6 j) m) {k : Nat} (hk : k < 15) : Calls Try.prog 14 #[ncV c (.slice a 6 j), .int .u64 (4 * (k : Int)), .int .i64 4] w fun e w' => e = .returned (.tuple #[.int .u64 (c k), .bool true]) ∧ Grew w w' := by
  have hC := rCheck_c c a 6 j
  rw [ok_chk hc] at hC
  have HC := Lib.hid hC
  have HB := Lib.hid hB
  have h6 := hm.1
  obtain ⟨a1, c1, b1, q1, q2, r1, q3⟩ := hB.run_cut (lo := 0) (hi := 4) (by omega) (by omega)
  obtain ⟨a2, c2, b2, q4, q5, q6, r2⟩ := hB.run_cut (lo := 4) (hi := 6) (by omega) (by omega)
  have r1' : ∀ w', (Instr.sliceAt 23 (.slice a 6 j) none (some (.int .i64 4)) none).run Try.prog w' = .ok (.slice a1 4 c1) w' := fun w' => r1 rfl .i64 w'
  have r2' : ∀ w', (Instr.sliceAt 23 (.slice a 6 j) (some (.int .i64 4)) none none).run Try.prog w' = .ok (.slice a2 2 c2) w' := fun w' => r2 h6.symm .i64 w'
  replace b1 : Buf w (.slice a1 4 c1) (cutL m 0 4) := b1
  replace b2 : Buf w (.slice a2 2 c2) (cutL m 4 6) := b2
  have G1 := Lib.hid (fun (z : World) (g : Grew w z) => refGet_c false b1.ok (by rw [cutL_length (by omega) (by omega)]; omega) z (b1.grew g).bytes)
  have G2 := Lib.hid (fun (z : World) (g : Grew w z) => refGet_c false b2.ok (by rw [cutL_length (by omega) (by omega)]; omega) z (b2.grew g).bytes)
  rw [← hm.2.1] at G1
  rw [← hm.2.2] at G2
  have HO := Lib.hid hc
  clear hC hB r1 r2 b1 b2 hm h6 q1 q2 q3 q4 q5 q6
  have e4 : (4 * (k : Int)).tmod 4 = 0 := by rw [Int.tmod_eq_emod_of_nonneg (by omega)]; omega
  have q4 : (4 * (k : Int)).tdiv 4 = k := by rw [Int.tdiv_eq_ediv_of_nonneg (by omega)]; omega
  have l4 : ¬ 56 < 4 * (k : Int) := by omega
  have hO := hc
  clear hc
  go_enter Try.func14, Try.ntmps14
  go_upto_region 1 with fail
  have kN : Blk (w.alloc (.cells (ncA c (.slice a 6 j)) 25)) w.heap.size (ncA c (.slice a 6 j)) 25 := Blk.new w (ncA c (.slice a 6 j)) 25 _ rfl
  have g0 : Grew w (w.alloc (.cells (ncA c (.slice a 6 j)) 25)) := (Grew.refl w).alloc (.cells (ncA c (.slice a 6 j)) 25)
  generalize (w.alloc (.cells (ncA c (.slice a 6 j)) 25)) = w0 at *
  generalize w.heap.size = N at *
  go_wp2_with (refine ld_nc rfl (.tmp 3) rfl _ rfl kN (by rfl) ?_)
  refine (HC.out _).mono ?_
  rintro e w1 ⟨rfl, g1⟩
  replace kN := kN.grew g1
  replace g0 := g0.trans g1
  clear g1
  go_upto_region 3 with fail
  clear e4 l4
  have y0 := fun z : Over w1 => kN.overCell 0 (.int .i64 (c 0)) rfl z
  have y1 := fun z : Over w1 => kN.overCell 1 (.int .i64 (c 1)) rfl z
  have y2 := fun z : Over w1 => kN.overCell 2 (.int .i64 (c 2)) rfl z
  have y3 := fun z : Over w1 => kN.overCell 3 (.int .u64 (c 3)) rfl z
  have y4 := fun z : Over w1 => kN.overCell 4 (.int .i64 (c 4)) rfl z
  have y5 := fun z : Over w1 => kN.overCell 5 (.int .i64 (c 5)) rfl z
  have y6 := fun z : Over w1 => kN.overCell 6 (.int .i64 (c 6)) rfl z
  have y7 := fun z : Over w1 => kN.overCell 7 (.int .u64 (c 7)) rfl z
  have y8 := fun z : Over w1 => kN.overCell 8 (.int .i64 (c 8)) rfl z
  have y9 := fun z : Over w1 => kN.overCell 9 (.int .i64 (c 9)) rfl z
  have y10 := fun z : Over w1 => kN.overCell 10 (.int .i64 (c 10)) rfl z
  have y11 := fun z : Over w1 => kN.overCell 11 (.int .i64 (c 11)) rfl z
  have y12 := fun z : Over w1 => kN.overCell 12 (.int .i64 (c 12)) rfl z
  have y13 := fun z : Over w1 => kN.overCell 13 (.slice a 6 j) rfl z
  have u0 : IntKind.u64.wrap (c 0) = c 0 := IntWalk.u64_in _ (by have h1 := HO.out.r0; have h2 := HO.out.r4; have h3 := HO.out.r8; omega)
  have u1 : IntKind.u64.wrap (c 1) = c 1 := IntWalk.u64_in _ (by have h1 := HO.out.r1; have h2 := HO.out.r4; have h3 := HO.out.r8; omega)
  have u2 : IntKind.u64.wrap (c 2) = c 2 := IntWalk.u64_in _ (by have h1 := HO.out.r2; have h2 := HO.out.r4; have h3 := HO.out.r8; omega)
  have u4 : IntKind.u64.wrap (c 4) = c 4 := IntWalk.u64_in _ (by have h1 := HO.out.r4; have h2 := HO.out.r4; have h3 := HO.out.r8; omega)
  have u5 : IntKind.u64.wrap (c 5) = c 5 := IntWalk.u64_in _ (by have h1 := HO.out.r5; have h2 := HO.out.r4; have h3 := HO.out.r8; omega)
  have u6 : IntKind.u64.wrap (c 6) = c 6 := IntWalk.u64_in _ (by have h1 := HO.out.r6; have h2 := HO.out.r4; have h3 := HO.out.r8; omega)
  have u8 : IntKind.u64.wrap (c 8) = c 8 := IntWalk.u64_in _ (by have h1 := HO.out.r8; have h2 := HO.out.r4; have h3 := HO.out.r8; omega)
  have u9 : IntKind.u64.wrap (c 9) = c 9 := IntWalk.u64_in _ (by have h1 := HO.out.r9; have h2 := HO.out.r4; have h3 := HO.out.r8; omega)
  have u10 : IntKind.u64.wrap (c 10) = c 10 := IntWalk.u64_in _ (by have h1 := HO.out.r10; have h2 := HO.out.r4; have h3 := HO.out.r8; omega)
  have u11 : IntKind.u64.wrap (c 11) = c 11 := IntWalk.u64_in _ (by have h1 := HO.out.r11; have h2 := HO.out.r4; have h3 := HO.out.r8; omega)
  have u12 : IntKind.u64.wrap (c 12) = c 12 := IntWalk.u64_in _ (by have h1 := HO.out.r12; have h2 := HO.out.r4; have h3 := HO.out.r8; omega)
  refine region_over_tail 45 (by kernel_rfl) (by kernel_rfl) ?_
  simp only [List.take_succ_cons, List.take_zero, List.drop_succ_cons, List.drop_zero]
  repeat (first | go_big_quiet_step ((go_at_call 40; first | with_reducible exact over_back (G1.out _ (g0.trans (Over.g _))) | with_reducible exact over_back (G2.out _ (g0.trans (Over.g _))))) | quiet_step ((go_at_call 40; first | with_reducible exact over_back (G1.out _ (g0.trans (Over.g _))) | with_reducible exact over_back (G2.out _ (g0.trans (Over.g _))))))
  refine wpQuiet_nil ?_
  intro z
  have g2 := g0.trans z.g
  clear y0 y1 y2 y3 y4 y5 y6 y7 y8 y9 y10 y11 y12 y13 u0 u1 u2 u4 u5 u6 u8 u9 u10 u11 u12
  generalize z.w = w2 at *
  go_upto_region 4 with fail
  have kL : Blk (w2.alloc (.cells (r15 c) 22)) w2.heap.size (r15 c) 22 := Blk.new _ _ _ _ rfl
  have g3 : Grew w (w2.alloc (.cells (r15 c) 22)) := g2.alloc _
  generalize w2.alloc (.cells (r15 c) 22) = w3 at *
  generalize w2.heap.size = L at *
  have y : w3.cell? ⟨L, k, none⟩ = some (.int .u64 (c k)) := (kL.cell k).trans (r15_at c hk)
  have hk2 : (k : Int) < 15 := by omega
  have hwk : IntKind.u64.wrap (k : Int) = k := IntWalk.u64_in _ (by omega)
  clear kL kN g2 hO hk r1' r2'
  go_wp2_with fail
  go_returns
  exact ⟨rfl, g3⟩
theorem rLoad_c {c : Nat → Int} {m : List Int} (hm : MacOf c m) {a : Option Addr} {j : Nat} {off size : Int} (h0 : 0 ≤ off) {w : World} (hB : Buf w (.slice a m.length j) m) : Calls Try.prog 14 #[ncV c (.slice a m.length j), .int .u64 off, .int .i64 size] w fun e w' => e = .returned (.tuple #[.int .u64 (ldV c m.length off size), .bool (!badL c m.length off size)]) ∧ Grew w w' := by
  unfold ldV
  cases hb : badL c m.length off size
  · obtain ⟨h1, rfl, k, hk, rfl⟩ := badL_no h0 hb
    obtain ⟨hc, hi⟩ := chk_ok hm hB.ok h1
    have h6 := hi.1
    rw [h6] at hB ⊢
    have := rLoad_yes hc hi hB hk
    rw [show (4 * (k : Int) / 4).toNat = k by omega]
    exact this
  · exact rLoad_no c a m.length j off size h0 hb w
end Go.Proofs.Ytgcfmijkggpemaa
