/-
  Package plic: the bit of a source (only); which source is told (best).
-/
import Derived.Test.YtgcfmijkggpemaaGreatPlE
set_option maxRecDepth 4000
set_option linter.unusedVariables false
set_option linter.unusedSimpArgs false
namespace Go.Proofs.YtgcfmijkggpemaaGreat
open Go.RowKit

theorem and_low8 {z : Int} (h : z % 8 = 0) : bits .and .i64 z 6 = 0 := by
  rw [i64_and_u64]
  obtain ⟨X, hX⟩ := Int.eq_ofNat_of_zero_le (Int.emod_nonneg z (by decide : (18446744073709551616 : Int) ≠ 0))
  rw [hX, show (6 : Int) % 18446744073709551616 = ((6 : Nat) : Int) from rfl, u64_and_nat X 6 (by omega) (by omega), six_nat, IntKind.wrap_i64]
  omega
theorem plOnly_c (n : Int) (h0 : 0 ≤ n) (h1 : n < 4294967296) (w : World) : Calls Tryz.prog 71 #[.int .u32 n] w fun e w' => e = .returned (.int .i64 (onlyV n)) ∧ w = w' := by
  by_cases e0 : n = 0
  · subst e0
    go_enter Tryz.func71, Tryz.ntmps71
    go_wp2_with fail
    go_ret
    exact ⟨rfl, rfl⟩
  by_cases e1 : n = 1
  · subst e1
    go_enter Tryz.func71, Tryz.ntmps71
    go_wp2_with fail
    go_ret
    exact ⟨rfl, rfl⟩
  by_cases e2 : n = 2
  · subst e2
    go_enter Tryz.func71, Tryz.ntmps71
    go_wp2_with fail
    go_ret
    exact ⟨rfl, rfl⟩
  rw [show onlyV n = 0 by unfold onlyV; rw [if_neg e1, if_neg e2]]
  have h3 : 3 ≤ n := by omega
  go_enter Tryz.func71, Tryz.ntmps71
  go_wp2_with fail
  go_ret
  refine ⟨ret_i64 (and_low8 ?_), rfl⟩
  obtain ⟨m, hm⟩ : ∃ m, min n.toNat 64 = m + 3 := ⟨min n.toNat 64 - 3, by omega⟩
  rw [hm, Int.pow_add]
  generalize (2 : Int) ^ m = q
  unfold wrap64
  omega

set_option maxHeartbeats 1000000 in
theorem plBest_c {c : Nat} {s : VS} (hs : s.Ok) (x : Int) {W w : World} (hb : Blk w c s.ctl 87) (g : Grew W w) :
    Calls Tryz.prog 42 #[.pointer (some ⟨c, 0, none⟩), .agg #[.int .i64 (s.e x), .int .i64 (s.t x)]] w fun e w' => e = .returned (.int .u32 (s.best x)) ∧ Grew W w' := by
  have hp1 := hs.p1
  have hp2 := hs.p2
  have ht := hs.t x
  have htold : Src (bits .and .i64 s.n (s.e x)) := src_and hs.n (hs.e x)
  unfold VS.best
  generalize s.t x = t at *
  generalize s.e x = e at *
  obtain ⟨p1, p2, n, k, e0, t0, e1, t1⟩ := s
  obtain ⟨told, hto⟩ : ∃ told, bits .and .i64 n e = told := ⟨_, rfl⟩
  simp only at hp1 hp2 htold
  rw [hto] at htold
  simp only [hto]
  have HT := Lib.hid hto
  have H1 := Lib.hid hp1
  have H2 := Lib.hid hp2
  have H3 := Lib.hid ht
  clear hto hp1 hp2 ht hs
  have hc := hb.lt
  go_enter Tryz.func42, Tryz.ntmps42
  go_upto_region 1 with fail
  have kc := hb.alloc (.cells #[.int .i64 e, .int .i64 t] 84)
  have ky : Blk (w.alloc (.cells #[.int .i64 e, .int .i64 t] 84)) w.heap.size #[.int .i64 e, .int .i64 t] 84 := Blk.new _ _ _ _ rfl
  have g1 := g.alloc (.cells #[.int .i64 e, .int .i64 t] 84)
  generalize w.alloc (.cells #[.int .i64 e, .int .i64 t] 84) = w1 at *
  generalize w.heap.size = Y at *
  have y3 := fun z : Over w1 => kc.overCell 3 _ rfl z
  have y0 := fun z : Over w1 => ky.overCell 0 _ rfl z
  have hto := HT.out
  refine region_over (by kernel_rfl) (by kernel_rfl) ?_
  repeat (first | go_big_quiet_step (fail) | quiet_step (fail))
  refine wpQuiet_nil ?_
  intro z
  clear hto y3 y0
  have k_w2 := kc.over z
  have y_w2 := ky.over z
  have g_w2 := g1.trans z.g
  clear kc ky g1 hb g hc
  generalize z.w = w2 at *
  have hN0 : ∀ w : World, Calls Tryz.prog 71 #[.int .u32 0] w fun e w' => e = .returned (.int .i64 0) ∧ w = w' := fun w => plOnly_c 0 (by omega) (by omega) w
  have hN1 : ∀ w : World, Calls Tryz.prog 71 #[.int .u32 1] w fun e w' => e = .returned (.int .i64 2) ∧ w = w' := fun w => plOnly_c 1 (by omega) (by omega) w
  have hN2 : ∀ w : World, Calls Tryz.prog 71 #[.int .u32 2] w fun e w' => e = .returned (.int .i64 4) ∧ w = w' := fun w => plOnly_c 2 (by omega) (by omega) w
  have HN0 := Lib.hid hN0
  have HN1 := Lib.hid hN1
  have HN2 := Lib.hid hN2
  clear hN0 hN1 hN2
  have hM0 : ∀ u : World, (Builtin.max_ #[80, 80] 80 #[.int .i64 t, .int .i64 0]).run Tryz.prog u = .ok (.int .i64 t) u := fun u => by
    have := H3.out
    rw [run_max_int2, if_neg (by omega)]
  have hM1 : t < p1 → ∀ u : World, (Builtin.max_ #[80, 80] 80 #[.int .i64 t, .int .i64 p1]).run Tryz.prog u = .ok (.int .i64 p1) u := fun h u => by
    rw [run_max_int2, if_pos (by omega)]
  have HM0 := Lib.hid hM0
  have HM1 := Lib.hid hM1
  clear hM0 hM1
  go_wp2_with fail
  refine wp_loop_rounds 4 ?_
-- GEN
  rcases htold with rfl | rfl | rfl | rfl
  · skip
    rw [rounds_succ]
    go_upto_region 6 with fail
    have q : bits .and .i64 0 0 = 0 := by decide
    have z0 := fun z : Over w2 => k_w2.overCell 0 _ rfl z
    have z1 := fun z : Over w2 => k_w2.overCell 1 _ rfl z
    have z2 := fun z : Over w2 => k_w2.overCell 2 _ rfl z
    have zt := fun z : Over w2 => y_w2.overCell 1 _ rfl z
    refine region_over (by kernel_rfl) (by kernel_rfl) ?_
    repeat (first | go_big_quiet_step ((go_at_call 71; with_reducible exact over_same (HN0.out _))) | quiet_step ((go_at_call 71; with_reducible exact over_same (HN0.out _))))
    refine wpQuiet_nil ?_
    intro z
    have k_w2' := k_w2.over z
    have y_w2' := y_w2.over z
    have g_w2' := g_w2.trans z.g
    clear q z0 z1 z2 zt  k_w2 y_w2 g_w2
    generalize z.w = w3 at *
    have k_w3 := k_w2'
    have y_w3 := y_w2'
    have g_w3 := g_w2'
    clear k_w2' y_w2' g_w2'
    go_wp2_with fail
    rw [rounds_succ]
    go_upto_region 6 with fail
    have q : bits .and .i64 0 2 = 0 := by decide
    have z0 := fun z : Over w3 => k_w3.overCell 0 _ rfl z
    have z1 := fun z : Over w3 => k_w3.overCell 1 _ rfl z
    have z2 := fun z : Over w3 => k_w3.overCell 2 _ rfl z
    have zt := fun z : Over w3 => y_w3.overCell 1 _ rfl z
    refine region_over (by kernel_rfl) (by kernel_rfl) ?_
    repeat (first | go_big_quiet_step ((go_at_call 71; with_reducible exact over_same (HN1.out _))) | quiet_step ((go_at_call 71; with_reducible exact over_same (HN1.out _))))
    refine wpQuiet_nil ?_
    intro z
    have k_w3' := k_w3.over z
    have y_w3' := y_w3.over z
    have g_w3' := g_w3.trans z.g
    clear q z0 z1 z2 zt  k_w3 y_w3 g_w3
    generalize z.w = w4 at *
    have k_w4 := k_w3'
    have y_w4 := y_w3'
    have g_w4 := g_w3'
    clear k_w3' y_w3' g_w3'
    go_wp2_with fail
    rw [rounds_succ]
    go_upto_region 6 with fail
    have q : bits .and .i64 0 4 = 0 := by decide
    have z0 := fun z : Over w4 => k_w4.overCell 0 _ rfl z
    have z1 := fun z : Over w4 => k_w4.overCell 1 _ rfl z
    have z2 := fun z : Over w4 => k_w4.overCell 2 _ rfl z
    have zt := fun z : Over w4 => y_w4.overCell 1 _ rfl z
    refine region_over (by kernel_rfl) (by kernel_rfl) ?_
    repeat (first | go_big_quiet_step ((go_at_call 71; with_reducible exact over_same (HN2.out _))) | quiet_step ((go_at_call 71; with_reducible exact over_same (HN2.out _))))
    refine wpQuiet_nil ?_
    intro z
    have k_w4' := k_w4.over z
    have y_w4' := y_w4.over z
    have g_w4' := g_w4.trans z.g
    clear q z0 z1 z2 zt  k_w4 y_w4 g_w4
    generalize z.w = w5 at *
    have k_w5 := k_w4'
    have y_w5 := y_w4'
    have g_w5 := g_w4'
    clear k_w4' y_w4' g_w4'
    go_wp2_with fail
    rw [rounds_succ]
    go_wp2_with fail
    go_ret
    exact ⟨ret_u32 (by (try simp only [decide_eq_true_eq, decide_eq_false_iff_not] at *); unfold bestV; repeat' (first | rfl | split) <;> omega), g_w5⟩
  · skip
    rw [rounds_succ]
    go_upto_region 6 with fail
    have q : bits .and .i64 2 0 = 0 := by decide
    have z0 := fun z : Over w2 => k_w2.overCell 0 _ rfl z
    have z1 := fun z : Over w2 => k_w2.overCell 1 _ rfl z
    have z2 := fun z : Over w2 => k_w2.overCell 2 _ rfl z
    have zt := fun z : Over w2 => y_w2.overCell 1 _ rfl z
    refine region_over (by kernel_rfl) (by kernel_rfl) ?_
    repeat (first | go_big_quiet_step ((go_at_call 71; with_reducible exact over_same (HN0.out _))) | quiet_step ((go_at_call 71; with_reducible exact over_same (HN0.out _))))
    refine wpQuiet_nil ?_
    intro z
    have k_w2' := k_w2.over z
    have y_w2' := y_w2.over z
    have g_w2' := g_w2.trans z.g
    clear q z0 z1 z2 zt  k_w2 y_w2 g_w2
    generalize z.w = w3 at *
    have k_w3 := k_w2'
    have y_w3 := y_w2'
    have g_w3 := g_w2'
    clear k_w2' y_w2' g_w2'
    go_wp2_with fail
    rw [rounds_succ]
    go_upto_region 6 with fail
    cases hd1 : decide (t < p1)
    · skip
      have q : bits .and .i64 2 2 = 2 := by decide
      have z0 := fun z : Over w3 => k_w3.overCell 0 _ rfl z
      have z1 := fun z : Over w3 => k_w3.overCell 1 _ rfl z
      have z2 := fun z : Over w3 => k_w3.overCell 2 _ rfl z
      have zt := fun z : Over w3 => y_w3.overCell 1 _ rfl z
      have hc : ∀ u : World, (Builtin.max_ #[80, 80] 80 #[.int .i64 t, .int .i64 0]).run Tryz.prog u = .ok (.int .i64 t) u := HM0.out
      refine region_over (by kernel_rfl) (by kernel_rfl) ?_
      repeat (first | go_big_quiet_step ((go_at_call 71; with_reducible exact over_same (HN1.out _))) | quiet_step ((go_at_call 71; with_reducible exact over_same (HN1.out _))))
      refine wpQuiet_nil ?_
      intro z
      have k_w3' := k_w3.over z
      have y_w3' := y_w3.over z
      have g_w3' := g_w3.trans z.g
      clear q z0 z1 z2 zt hc k_w3 y_w3 g_w3
      generalize z.w = w4 at *
      have k_w4 := k_w3'
      have y_w4 := y_w3'
      have g_w4 := g_w3'
      clear k_w3' y_w3' g_w3'
      go_wp2_with fail
      rw [rounds_succ]
      go_upto_region 6 with fail
      have q : bits .and .i64 2 4 = 0 := by decide
      have z0 := fun z : Over w4 => k_w4.overCell 0 _ rfl z
      have z1 := fun z : Over w4 => k_w4.overCell 1 _ rfl z
      have z2 := fun z : Over w4 => k_w4.overCell 2 _ rfl z
      have zt := fun z : Over w4 => y_w4.overCell 1 _ rfl z
      refine region_over (by kernel_rfl) (by kernel_rfl) ?_
      repeat (first | go_big_quiet_step ((go_at_call 71; with_reducible exact over_same (HN2.out _))) | quiet_step ((go_at_call 71; with_reducible exact over_same (HN2.out _))))
      refine wpQuiet_nil ?_
      intro z
      have k_w4' := k_w4.over z
      have y_w4' := y_w4.over z
      have g_w4' := g_w4.trans z.g
      clear q z0 z1 z2 zt  k_w4 y_w4 g_w4
      generalize z.w = w5 at *
      have k_w5 := k_w4'
      have y_w5 := y_w4'
      have g_w5 := g_w4'
      clear k_w4' y_w4' g_w4'
      go_wp2_with fail
      rw [rounds_succ]
      go_wp2_with fail
      go_ret
      exact ⟨ret_u32 (by (try simp only [decide_eq_true_eq, decide_eq_false_iff_not] at *); unfold bestV; repeat' (first | rfl | split) <;> omega), g_w5⟩
    · skip
      have q : bits .and .i64 2 2 = 2 := by decide
      have z0 := fun z : Over w3 => k_w3.overCell 0 _ rfl z
      have z1 := fun z : Over w3 => k_w3.overCell 1 _ rfl z
      have z2 := fun z : Over w3 => k_w3.overCell 2 _ rfl z
      have zt := fun z : Over w3 => y_w3.overCell 1 _ rfl z
      have hc : ∀ u : World, (Builtin.max_ #[80, 80] 80 #[.int .i64 t, .int .i64 0]).run Tryz.prog u = .ok (.int .i64 t) u := HM0.out
      refine region_over (by kernel_rfl) (by kernel_rfl) ?_
      repeat (first | go_big_quiet_step ((go_at_call 71; with_reducible exact over_same (HN1.out _))) | quiet_step ((go_at_call 71; with_reducible exact over_same (HN1.out _))))
      refine wpQuiet_nil ?_
      intro z
      have k_w3' := k_w3.over z
      have y_w3' := y_w3.over z
      have g_w3' := g_w3.trans z.g
      clear q z0 z1 z2 zt hc k_w3 y_w3 g_w3
      generalize z.w = w4 at *
      have k_w4 := k_w3'
      have y_w4 := y_w3'
      have g_w4 := g_w3'
      clear k_w3' y_w3' g_w3'
      go_wp2_with fail
      rw [rounds_succ]
      go_upto_region 6 with fail
      have q : bits .and .i64 2 4 = 0 := by decide
      have z0 := fun z : Over w4 => k_w4.overCell 0 _ rfl z
      have z1 := fun z : Over w4 => k_w4.overCell 1 _ rfl z
      have z2 := fun z : Over w4 => k_w4.overCell 2 _ rfl z
      have zt := fun z : Over w4 => y_w4.overCell 1 _ rfl z
      refine region_over (by kernel_rfl) (by kernel_rfl) ?_
      repeat (first | go_big_quiet_step ((go_at_call 71; with_reducible exact over_same (HN2.out _))) | quiet_step ((go_at_call 71; with_reducible exact over_same (HN2.out _))))
      refine wpQuiet_nil ?_
      intro z
      have k_w4' := k_w4.over z
      have y_w4' := y_w4.over z
      have g_w4' := g_w4.trans z.g
      clear q z0 z1 z2 zt  k_w4 y_w4 g_w4
      generalize z.w = w5 at *
      have k_w5 := k_w4'
      have y_w5 := y_w4'
      have g_w5 := g_w4'
      clear k_w4' y_w4' g_w4'
      go_wp2_with fail
      rw [rounds_succ]
      go_wp2_with fail
      go_ret
      exact ⟨ret_u32 (by (try simp only [decide_eq_true_eq, decide_eq_false_iff_not] at *); unfold bestV; repeat' (first | rfl | split) <;> omega), g_w5⟩
  · skip
    rw [rounds_succ]
    go_upto_region 6 with fail
    have q : bits .and .i64 4 0 = 0 := by decide
    have z0 := fun z : Over w2 => k_w2.overCell 0 _ rfl z
    have z1 := fun z : Over w2 => k_w2.overCell 1 _ rfl z
    have z2 := fun z : Over w2 => k_w2.overCell 2 _ rfl z
    have zt := fun z : Over w2 => y_w2.overCell 1 _ rfl z
    refine region_over (by kernel_rfl) (by kernel_rfl) ?_
    repeat (first | go_big_quiet_step ((go_at_call 71; with_reducible exact over_same (HN0.out _))) | quiet_step ((go_at_call 71; with_reducible exact over_same (HN0.out _))))
    refine wpQuiet_nil ?_
    intro z
    have k_w2' := k_w2.over z
    have y_w2' := y_w2.over z
    have g_w2' := g_w2.trans z.g
    clear q z0 z1 z2 zt  k_w2 y_w2 g_w2
    generalize z.w = w3 at *
    have k_w3 := k_w2'
    have y_w3 := y_w2'
    have g_w3 := g_w2'
    clear k_w2' y_w2' g_w2'
    go_wp2_with fail
    rw [rounds_succ]
    go_upto_region 6 with fail
    have q : bits .and .i64 4 2 = 0 := by decide
    have z0 := fun z : Over w3 => k_w3.overCell 0 _ rfl z
    have z1 := fun z : Over w3 => k_w3.overCell 1 _ rfl z
    have z2 := fun z : Over w3 => k_w3.overCell 2 _ rfl z
    have zt := fun z : Over w3 => y_w3.overCell 1 _ rfl z
    refine region_over (by kernel_rfl) (by kernel_rfl) ?_
    repeat (first | go_big_quiet_step ((go_at_call 71; with_reducible exact over_same (HN1.out _))) | quiet_step ((go_at_call 71; with_reducible exact over_same (HN1.out _))))
    refine wpQuiet_nil ?_
    intro z
    have k_w3' := k_w3.over z
    have y_w3' := y_w3.over z
    have g_w3' := g_w3.trans z.g
    clear q z0 z1 z2 zt  k_w3 y_w3 g_w3
    generalize z.w = w4 at *
    have k_w4 := k_w3'
    have y_w4 := y_w3'
    have g_w4 := g_w3'
    clear k_w3' y_w3' g_w3'
    go_wp2_with fail
    rw [rounds_succ]
    go_upto_region 6 with fail
    cases hd2 : decide (t < p2)
    · skip
      have q : bits .and .i64 4 4 = 4 := by decide
      have z0 := fun z : Over w4 => k_w4.overCell 0 _ rfl z
      have z1 := fun z : Over w4 => k_w4.overCell 1 _ rfl z
      have z2 := fun z : Over w4 => k_w4.overCell 2 _ rfl z
      have zt := fun z : Over w4 => y_w4.overCell 1 _ rfl z
      have hc : ∀ u : World, (Builtin.max_ #[80, 80] 80 #[.int .i64 t, .int .i64 0]).run Tryz.prog u = .ok (.int .i64 t) u := HM0.out
      refine region_over (by kernel_rfl) (by kernel_rfl) ?_
      repeat (first | go_big_quiet_step ((go_at_call 71; with_reducible exact over_same (HN2.out _))) | quiet_step ((go_at_call 71; with_reducible exact over_same (HN2.out _))))
      refine wpQuiet_nil ?_
      intro z
      have k_w4' := k_w4.over z
      have y_w4' := y_w4.over z
      have g_w4' := g_w4.trans z.g
      clear q z0 z1 z2 zt hc k_w4 y_w4 g_w4
      generalize z.w = w5 at *
      have k_w5 := k_w4'
      have y_w5 := y_w4'
      have g_w5 := g_w4'
      clear k_w4' y_w4' g_w4'
      go_wp2_with fail
      rw [rounds_succ]
      go_wp2_with fail
      go_ret
      exact ⟨ret_u32 (by (try simp only [decide_eq_true_eq, decide_eq_false_iff_not] at *); unfold bestV; repeat' (first | rfl | split) <;> omega), g_w5⟩
    · skip
      have q : bits .and .i64 4 4 = 4 := by decide
      have z0 := fun z : Over w4 => k_w4.overCell 0 _ rfl z
      have z1 := fun z : Over w4 => k_w4.overCell 1 _ rfl z
      have z2 := fun z : Over w4 => k_w4.overCell 2 _ rfl z
      have zt := fun z : Over w4 => y_w4.overCell 1 _ rfl z
      have hc : ∀ u : World, (Builtin.max_ #[80, 80] 80 #[.int .i64 t, .int .i64 0]).run Tryz.prog u = .ok (.int .i64 t) u := HM0.out
      refine region_over (by kernel_rfl) (by kernel_rfl) ?_
      repeat (first | go_big_quiet_step ((go_at_call 71; with_reducible exact over_same (HN2.out _))) | quiet_step ((go_at_call 71; with_reducible exact over_same (HN2.out _))))
      refine wpQuiet_nil ?_
      intro z
      have k_w4' := k_w4.over z
      have y_w4' := y_w4.over z
      have g_w4' := g_w4.trans z.g
      clear q z0 z1 z2 zt hc k_w4 y_w4 g_w4
      generalize z.w = w5 at *
      have k_w5 := k_w4'
      have y_w5 := y_w4'
      have g_w5 := g_w4'
      clear k_w4' y_w4' g_w4'
      go_wp2_with fail
      rw [rounds_succ]
      go_wp2_with fail
      go_ret
      exact ⟨ret_u32 (by (try simp only [decide_eq_true_eq, decide_eq_false_iff_not] at *); unfold bestV; repeat' (first | rfl | split) <;> omega), g_w5⟩
  · skip
    rw [rounds_succ]
    go_upto_region 6 with fail
    have q : bits .and .i64 6 0 = 0 := by decide
    have z0 := fun z : Over w2 => k_w2.overCell 0 _ rfl z
    have z1 := fun z : Over w2 => k_w2.overCell 1 _ rfl z
    have z2 := fun z : Over w2 => k_w2.overCell 2 _ rfl z
    have zt := fun z : Over w2 => y_w2.overCell 1 _ rfl z
    refine region_over (by kernel_rfl) (by kernel_rfl) ?_
    repeat (first | go_big_quiet_step ((go_at_call 71; with_reducible exact over_same (HN0.out _))) | quiet_step ((go_at_call 71; with_reducible exact over_same (HN0.out _))))
    refine wpQuiet_nil ?_
    intro z
    have k_w2' := k_w2.over z
    have y_w2' := y_w2.over z
    have g_w2' := g_w2.trans z.g
    clear q z0 z1 z2 zt  k_w2 y_w2 g_w2
    generalize z.w = w3 at *
    have k_w3 := k_w2'
    have y_w3 := y_w2'
    have g_w3 := g_w2'
    clear k_w2' y_w2' g_w2'
    go_wp2_with fail
    rw [rounds_succ]
    go_upto_region 6 with fail
    cases hd1 : decide (t < p1)
    · skip
      have q : bits .and .i64 6 2 = 2 := by decide
      have z0 := fun z : Over w3 => k_w3.overCell 0 _ rfl z
      have z1 := fun z : Over w3 => k_w3.overCell 1 _ rfl z
      have z2 := fun z : Over w3 => k_w3.overCell 2 _ rfl z
      have zt := fun z : Over w3 => y_w3.overCell 1 _ rfl z
      have hc : ∀ u : World, (Builtin.max_ #[80, 80] 80 #[.int .i64 t, .int .i64 0]).run Tryz.prog u = .ok (.int .i64 t) u := HM0.out
      refine region_over (by kernel_rfl) (by kernel_rfl) ?_
      repeat (first | go_big_quiet_step ((go_at_call 71; with_reducible exact over_same (HN1.out _))) | quiet_step ((go_at_call 71; with_reducible exact over_same (HN1.out _))))
      refine wpQuiet_nil ?_
      intro z
      have k_w3' := k_w3.over z
      have y_w3' := y_w3.over z
      have g_w3' := g_w3.trans z.g
      clear q z0 z1 z2 zt hc k_w3 y_w3 g_w3
      generalize z.w = w4 at *
      have k_w4 := k_w3'
      have y_w4 := y_w3'
      have g_w4 := g_w3'
      clear k_w3' y_w3' g_w3'
      go_wp2_with fail
      rw [rounds_succ]
      go_upto_region 6 with fail
      cases hd2 : decide (t < p2)
      · skip
        have q : bits .and .i64 6 4 = 4 := by decide
        have z0 := fun z : Over w4 => k_w4.overCell 0 _ rfl z
        have z1 := fun z : Over w4 => k_w4.overCell 1 _ rfl z
        have z2 := fun z : Over w4 => k_w4.overCell 2 _ rfl z
        have zt := fun z : Over w4 => y_w4.overCell 1 _ rfl z
        have hc : ∀ u : World, (Builtin.max_ #[80, 80] 80 #[.int .i64 t, .int .i64 0]).run Tryz.prog u = .ok (.int .i64 t) u := HM0.out
        refine region_over (by kernel_rfl) (by kernel_rfl) ?_
        repeat (first | go_big_quiet_step ((go_at_call 71; with_reducible exact over_same (HN2.out _))) | quiet_step ((go_at_call 71; with_reducible exact over_same (HN2.out _))))
        refine wpQuiet_nil ?_
        intro z
        have k_w4' := k_w4.over z
        have y_w4' := y_w4.over z
        have g_w4' := g_w4.trans z.g
        clear q z0 z1 z2 zt hc k_w4 y_w4 g_w4
        generalize z.w = w5 at *
        have k_w5 := k_w4'
        have y_w5 := y_w4'
        have g_w5 := g_w4'
        clear k_w4' y_w4' g_w4'
        go_wp2_with fail
        rw [rounds_succ]
        go_wp2_with fail
        go_ret
        exact ⟨ret_u32 (by (try simp only [decide_eq_true_eq, decide_eq_false_iff_not] at *); unfold bestV; repeat' (first | rfl | split) <;> omega), g_w5⟩
      · skip
        have q : bits .and .i64 6 4 = 4 := by decide
        have z0 := fun z : Over w4 => k_w4.overCell 0 _ rfl z
        have z1 := fun z : Over w4 => k_w4.overCell 1 _ rfl z
        have z2 := fun z : Over w4 => k_w4.overCell 2 _ rfl z
        have zt := fun z : Over w4 => y_w4.overCell 1 _ rfl z
        have hc : ∀ u : World, (Builtin.max_ #[80, 80] 80 #[.int .i64 t, .int .i64 0]).run Tryz.prog u = .ok (.int .i64 t) u := HM0.out
        refine region_over (by kernel_rfl) (by kernel_rfl) ?_
        repeat (first | go_big_quiet_step ((go_at_call 71; with_reducible exact over_same (HN2.out _))) | quiet_step ((go_at_call 71; with_reducible exact over_same (HN2.out _))))
        refine wpQuiet_nil ?_
        intro z
        have k_w4' := k_w4.over z
        have y_w4' := y_w4.over z
        have g_w4' := g_w4.trans z.g
        clear q z0 z1 z2 zt hc k_w4 y_w4 g_w4
        generalize z.w = w5 at *
        have k_w5 := k_w4'
        have y_w5 := y_w4'
        have g_w5 := g_w4'
        clear k_w4' y_w4' g_w4'
        go_wp2_with fail
        rw [rounds_succ]
        go_wp2_with fail
        go_ret
        exact ⟨ret_u32 (by (try simp only [decide_eq_true_eq, decide_eq_false_iff_not] at *); unfold bestV; repeat' (first | rfl | split) <;> omega), g_w5⟩
    · skip
      have q : bits .and .i64 6 2 = 2 := by decide
      have z0 := fun z : Over w3 => k_w3.overCell 0 _ rfl z
      have z1 := fun z : Over w3 => k_w3.overCell 1 _ rfl z
      have z2 := fun z : Over w3 => k_w3.overCell 2 _ rfl z
      have zt := fun z : Over w3 => y_w3.overCell 1 _ rfl z
      have hc : ∀ u : World, (Builtin.max_ #[80, 80] 80 #[.int .i64 t, .int .i64 0]).run Tryz.prog u = .ok (.int .i64 t) u := HM0.out
      refine region_over (by kernel_rfl) (by kernel_rfl) ?_
      repeat (first | go_big_quiet_step ((go_at_call 71; with_reducible exact over_same (HN1.out _))) | quiet_step ((go_at_call 71; with_reducible exact over_same (HN1.out _))))
      refine wpQuiet_nil ?_
      intro z
      have k_w3' := k_w3.over z
      have y_w3' := y_w3.over z
      have g_w3' := g_w3.trans z.g
      clear q z0 z1 z2 zt hc k_w3 y_w3 g_w3
      generalize z.w = w4 at *
      have k_w4 := k_w3'
      have y_w4 := y_w3'
      have g_w4 := g_w3'
      clear k_w3' y_w3' g_w3'
      go_wp2_with fail
      rw [rounds_succ]
      go_upto_region 6 with fail
      cases hd2 : decide (p1 < p2)
      · skip
        have q : bits .and .i64 6 4 = 4 := by decide
        have z0 := fun z : Over w4 => k_w4.overCell 0 _ rfl z
        have z1 := fun z : Over w4 => k_w4.overCell 1 _ rfl z
        have z2 := fun z : Over w4 => k_w4.overCell 2 _ rfl z
        have zt := fun z : Over w4 => y_w4.overCell 1 _ rfl z
        have hc : ∀ u : World, (Builtin.max_ #[80, 80] 80 #[.int .i64 t, .int .i64 p1]).run Tryz.prog u = .ok (.int .i64 p1) u := HM1.out (by simpa using hd1)
        refine region_over (by kernel_rfl) (by kernel_rfl) ?_
        repeat (first | go_big_quiet_step ((go_at_call 71; with_reducible exact over_same (HN2.out _))) | quiet_step ((go_at_call 71; with_reducible exact over_same (HN2.out _))))
        refine wpQuiet_nil ?_
        intro z
        have k_w4' := k_w4.over z
        have y_w4' := y_w4.over z
        have g_w4' := g_w4.trans z.g
        clear q z0 z1 z2 zt hc k_w4 y_w4 g_w4
        generalize z.w = w5 at *
        have k_w5 := k_w4'
        have y_w5 := y_w4'
        have g_w5 := g_w4'
        clear k_w4' y_w4' g_w4'
        go_wp2_with fail
        rw [rounds_succ]
        go_wp2_with fail
        go_ret
        exact ⟨ret_u32 (by (try simp only [decide_eq_true_eq, decide_eq_false_iff_not] at *); unfold bestV; repeat' (first | rfl | split) <;> omega), g_w5⟩
      · skip
        have q : bits .and .i64 6 4 = 4 := by decide
        have z0 := fun z : Over w4 => k_w4.overCell 0 _ rfl z
        have z1 := fun z : Over w4 => k_w4.overCell 1 _ rfl z
        have z2 := fun z : Over w4 => k_w4.overCell 2 _ rfl z
        have zt := fun z : Over w4 => y_w4.overCell 1 _ rfl z
        have hc : ∀ u : World, (Builtin.max_ #[80, 80] 80 #[.int .i64 t, .int .i64 p1]).run Tryz.prog u = .ok (.int .i64 p1) u := HM1.out (by simpa using hd1)
        refine region_over (by kernel_rfl) (by kernel_rfl) ?_
        repeat (first | go_big_quiet_step ((go_at_call 71; with_reducible exact over_same (HN2.out _))) | quiet_step ((go_at_call 71; with_reducible exact over_same (HN2.out _))))
        refine wpQuiet_nil ?_
        intro z
        have k_w4' := k_w4.over z
        have y_w4' := y_w4.over z
        have g_w4' := g_w4.trans z.g
        clear q z0 z1 z2 zt hc k_w4 y_w4 g_w4
        generalize z.w = w5 at *
        have k_w5 := k_w4'
        have y_w5 := y_w4'
        have g_w5 := g_w4'
        clear k_w4' y_w4' g_w4'
        go_wp2_with fail
        rw [rounds_succ]
        go_wp2_with fail
        go_ret
        exact ⟨ret_u32 (by (try simp only [decide_eq_true_eq, decide_eq_false_iff_not] at *); unfold bestV; repeat' (first | rfl | split) <;> omega), g_w5⟩
end Go.Proofs.YtgcfmijkggpemaaGreat
