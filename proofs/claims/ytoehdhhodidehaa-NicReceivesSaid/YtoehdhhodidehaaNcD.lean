/-
  Package nic: a controller taken into its registers.
-/
import Derived.Test.YtoehdhhodidehaaRows
import Derived.Test.YtoehdhhodidehaaNcC
import Derived.WalkKit
import Derived.Outline
import Derived.Handy
import Derived.StillTailTactics
import Derived.Deep.QuietTactic
import Derived.BigQuiet
import Derived.Deep.DeepCutAuto
import Derived.Deep.RegionHeld3
import Derived.Great.BuildSlice
import Derived.Deep.WholeRow
import Derived.Lib.SliceRun
set_option maxRecDepth 4000
set_option linter.unusedVariables false
set_option linter.unusedSimpArgs false
namespace Go.Proofs.Ytoehdhhodidehaa
open Go.RowKit

theorem u32_in {x : Int} (h : 0 ≤ x ∧ x < 4294967296) : IntKind.u32.wrap x = x := by simp [IntKind.wrap, IntKind.bits, IntKind.signed]; omega
set_option maxRecDepth 100000 in
set_option maxHeartbeats 4000000 in
theorem taken_c {c : Nat → Int} {m : List Int} {a : Option Addr} {k : Nat} {w : World} (hM : MacIs c m) (hb : rgOk c) (hB : Buf w (.slice a 6 k) m) : Calls Try.prog 35 #[ncV c (.slice a 6 k)] w fun e w' => ∃ p, e = .returned (.pointer (some ⟨p, 0, none⟩)) ∧ w.heap.size ≤ p ∧ Blk w' p (rgA c) 80 ∧ Grew w w' := by
  have hl := hM.1
  obtain ⟨a1, k1, hc1, q1, q2, r1, q3⟩ := hB.run_cut (lo := 0) (hi := 4) (by omega) (by omega)
  obtain ⟨a2, k2, hc2, q4, q5, q6, r2⟩ := hB.run_cut (lo := 4) (hi := 6) (by omega) (by omega)
  have hr1 : ∀ w', (Instr.sliceAt 23 (.slice a 6 k) none (some (.int .i64 4)) none).run Try.prog w' = .ok (.slice a1 4 k1) w' := fun w' => r1 rfl .i64 w'
  have hr2 : ∀ w', (Instr.sliceAt 23 (.slice a 6 k) (some (.int .i64 4)) none none).run Try.prog w' = .ok (.slice a2 2 k2) w' := fun w' => r2 hl.symm .i64 w'
  clear r1 r2 q1 q2 q3 q4 q5 q6
  have hg1 : ∀ w', Grew w w' → Calls Try.prog 53 #[.slice a1 4 k1, .bool false] w' fun e w'' => e = .returned (.int .u64 (c 13)) ∧ w' = w'' := fun w' g => by
    have := get_c false (hB.ok.cut 0 4) (by rw [cutL_length (by decide) (by omega)]; decide) w' ((hc1.grew g).bytes)
    rw [← hM.2.1] at this
    exact this.mono fun _ _ ⟨x, y⟩ => ⟨x, y.symm⟩
  have hg2 : ∀ w', Grew w w' → Calls Try.prog 53 #[.slice a2 2 k2, .bool false] w' fun e w'' => e = .returned (.int .u64 (c 14)) ∧ w' = w'' := fun w' g => by
    have := get_c false (hB.ok.cut 4 6) (by rw [cutL_length (by decide) (by omega)]; decide) w' ((hc2.grew g).bytes)
    rw [← hM.2.2] at this
    exact this.mono fun _ _ ⟨x, y⟩ => ⟨x, y.symm⟩
  have HG1 := Lib.hid hg1
  have HG2 := Lib.hid hg2
  have hw0 : IntKind.u32.wrap (c 0) = c 0 := u32_in (hb 0 (by decide))
  have hw1 : IntKind.u32.wrap (c 1) = c 1 := u32_in (hb 1 (by decide))
  have hw2 : IntKind.u32.wrap (c 2) = c 2 := u32_in (hb 2 (by decide))
  have hw3 : IntKind.u32.wrap (c 3) = c 3 := u32_in (hb 3 (by decide))
  have hw4 : IntKind.u32.wrap (c 4) = c 4 := u32_in (hb 4 (by decide))
  have hw5 : IntKind.u32.wrap (c 5) = c 5 := u32_in (hb 5 (by decide))
  have hw6 : IntKind.u32.wrap (c 6) = c 6 := u32_in (hb 6 (by decide))
  have hw7 : IntKind.u32.wrap (c 7) = c 7 := u32_in (hb 7 (by decide))
  have hw8 : IntKind.u32.wrap (c 8) = c 8 := u32_in (hb 8 (by decide))
  have hw9 : IntKind.u32.wrap (c 9) = c 9 := u32_in (hb 9 (by decide))
  have hw10 : IntKind.u32.wrap (c 10) = c 10 := u32_in (hb 10 (by decide))
  have hw11 : IntKind.u32.wrap (c 11) = c 11 := u32_in (hb 11 (by decide))
  have hw12 : IntKind.u32.wrap (c 12) = c 12 := u32_in (hb 12 (by decide))
  have hw13 : IntKind.u32.wrap (c 13) = c 13 := u32_in (hb 13 (by decide))
  have hw14 : IntKind.u32.wrap (c 14) = c 14 := u32_in (hb 14 (by decide))
  clear hg1 hg2 hc1 hc2 hM hb hl hB
  go_enter Try.func35, Try.ntmps35
  go_upto_region 1 with fail
  have kN : Blk (w.alloc (.cells (ncA c (.slice a 6 k)) 25)) w.heap.size (ncA c (.slice a 6 k)) 25 := Blk.new _ _ _ _ rfl
  have g0 : Grew w (w.alloc (.cells (ncA c (.slice a 6 k)) 25)) := (Grew.refl w).alloc _
  generalize (w.alloc (.cells (ncA c (.slice a 6 k)) 25)) = w0 at *
  have hG : w.heap.size ≤ w0.heap.size := g0.size
  generalize w.heap.size = G at *
  have z0 := fun z : Over w0 => kN.overCell 0 (.int .i64 (c 0)) rfl z
  have z1 := fun z : Over w0 => kN.overCell 1 (.int .i64 (c 1)) rfl z
  have z2 := fun z : Over w0 => kN.overCell 2 (.int .i64 (c 2)) rfl z
  have z3 := fun z : Over w0 => kN.overCell 3 (.int .u64 (c 3)) rfl z
  have z4 := fun z : Over w0 => kN.overCell 4 (.int .i64 (c 4)) rfl z
  have z5 := fun z : Over w0 => kN.overCell 5 (.int .i64 (c 5)) rfl z
  have z6 := fun z : Over w0 => kN.overCell 6 (.int .i64 (c 6)) rfl z
  have z7 := fun z : Over w0 => kN.overCell 7 (.int .u64 (c 7)) rfl z
  have z8 := fun z : Over w0 => kN.overCell 8 (.int .i64 (c 8)) rfl z
  have z9 := fun z : Over w0 => kN.overCell 9 (.int .i64 (c 9)) rfl z
  have z10 := fun z : Over w0 => kN.overCell 10 (.int .i64 (c 10)) rfl z
  have z11 := fun z : Over w0 => kN.overCell 11 (.int .i64 (c 11)) rfl z
  have z12 := fun z : Over w0 => kN.overCell 12 (.int .i64 (c 12)) rfl z
  have z13 := fun z : Over w0 => kN.overCell 13 (.slice a 6 k) rfl z
  refine region_over_tail 50 (by kernel_rfl) (by kernel_rfl) ?_
  simp only [List.take_succ_cons, List.take_zero, List.drop_succ_cons, List.drop_zero]
  repeat (first | go_big_quiet_step ((first | (go_at_call 53; first | with_reducible exact over_same (HG1.out _ (g0.trans (Over.g _))) | with_reducible exact over_same (HG2.out _ (g0.trans (Over.g _)))))) | quiet_step ((first | (go_at_call 53; first | with_reducible exact over_same (HG1.out _ (g0.trans (Over.g _))) | with_reducible exact over_same (HG2.out _ (g0.trans (Over.g _)))))))
  refine wpQuiet_nil ?_
  intro z
  have g1 := g0.trans z.g
  have hz := z.g.size
  clear z0 z1 z2 z3 z4 z5 z6 z7 z8 z9 z10 z11 z12 z13
  generalize z.w = w1 at *
  go_wp2_with fail
  go_ret
  exact ⟨_, rfl, g1.size, Blk.new w1 (rgA c) 80 _ rfl, g1.alloc _⟩
end Go.Proofs.Ytoehdhhodidehaa
