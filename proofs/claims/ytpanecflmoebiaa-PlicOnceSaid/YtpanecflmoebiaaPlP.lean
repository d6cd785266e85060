/-
  The document's own Best, claim, Load.
-/
import Derived.Test.YtpanecflmoebiaaPlO
set_option linter.unusedVariables false
set_option linter.unusedSimpArgs false
namespace Go.Proofs.Ytpanecflmoebiaa
open Go.RowKit

set_option maxHeartbeats 2000000 in
theorem refBest_no {v : Value} {s : PS} (x : Int) (hbad : chk s = false ∨ x < 0 ∨ 1 < x) {W w : World} (hb : Pl w v s) (g : Grew W w) :
    Calls Try.prog 17 #[v, .int .i64 x] w fun e w' => e = .returned (.int .i64 0) ∧ Grew W w' := by
  have hC := fun (w1 : World) (g1 : Grew w w1) => refCheck_c (Grew.refl w1) (hb.grew g1)
  have HC := Lib.hid hC
  clear hC
  have HV := Lib.hid hb
  obtain ⟨vP, vE, vT, rfl, h1, h2, h3⟩ := hb.shape
  obtain ⟨aP, cP, rfl, _, _⟩ := h1.shape
  obtain ⟨aE, cE, rfl, _, _⟩ := h2.shape
  obtain ⟨aT, cT, rfl, _, _⟩ := h3.shape
  clear h1 h2 h3 hb
  have key : ∀ b1 b2 b3 : Bool, chk s = b1 → decide (x < 0) = b2 → decide (1 < x) = b3 → (b1 = false ∨ b2 = true ∨ b3 = true) → Calls Try.prog 17 #[.agg #[.slice aP s.pr.length cP, .int .i64 s.n, .int .i64 s.k, .slice aE s.en.length cE, .slice aT s.th.length cT], .int .i64 x] w fun e w' => e = .returned (.int .i64 0) ∧ Grew W w' := by
    intro b1 b2 b3 e1 e2 e3 hor
    rw [e1] at HC
    clear e1 hbad HV
    cases b1 <;> cases b2 <;> cases b3
    case true.false.false => simp at hor
    all_goals
      clear hor
      go_enter Try.func17, Try.ntmps17
      go_upto_region 1 with fail
      have k0 : Blk (w.alloc (.cells #[.slice aP s.pr.length cP, .int .i64 s.n, .int .i64 s.k, .slice aE s.en.length cE, .slice aT s.th.length cT] 24)) w.heap.size #[.slice aP s.pr.length cP, .int .i64 s.n, .int .i64 s.k, .slice aE s.en.length cE, .slice aT s.th.length cT] 24 := Blk.new _ _ _ _ rfl
      have g0 : Grew w (w.alloc (.cells #[.slice aP s.pr.length cP, .int .i64 s.n, .int .i64 s.k, .slice aE s.en.length cE, .slice aT s.th.length cT] 24)) := (Grew.refl w).alloc _
      generalize (w.alloc (.cells #[.slice aP s.pr.length cP, .int .i64 s.n, .int .i64 s.k, .slice aE s.en.length cE, .slice aT s.th.length cT] 24)) = w0 at *
      have y0 := k0.cell 0
      have y1 := k0.cell 1
      have y2 := k0.cell 2
      have y3 := k0.cell 3
      have y4 := k0.cell 4
      go_wp2_with fail
      refine (HC.out _ g0).mono ?_
      rintro e w1 ⟨rfl, g1⟩
      go_wp2_with fail
      go_ret
      exact ⟨rfl, (g.trans g0).trans g1⟩
  refine key _ _ _ rfl rfl rfl ?_
  rcases hbad with h | h | h
  · exact .inl h
  · exact .inr (.inl (by simpa using h))
  · exact .inr (.inr (by simpa using h))
set_option maxHeartbeats 2000000 in
theorem refBest_at {v : Value} {s : VS} (hs : s.Ok) (x : Nat) (hx : x < 2) {W w : World} (hb : Pl w v s.ps) (g : Grew W w) :
    Calls Try.prog 17 #[v, .int .i64 x] w fun e w' => e = .returned (.int .i64 (s.best x)) ∧ Grew W w' := by
  have hC := fun (w1 : World) (g1 : Grew w w1) => refCheck_c (Grew.refl w1) (hb.grew g1)
  rw [chk_mk hs] at hC
  have HC := Lib.hid hC
  have htold : Src (bits .and .i64 s.n (s.e x)) := src_and hs.n (hs.e x)
  have hrow : ([s.e0, s.e1].getD x 0 = s.e x) ∧ ([s.t0, s.t1].getD x 0 = s.t x) := by
    match x, hx with
    | 0, _ => exact ⟨rfl, rfl⟩
    | 1, _ => exact ⟨rfl, rfl⟩
  unfold VS.best
  clear hC hs
  obtain ⟨told, hto⟩ : ∃ told, bits .and .i64 s.n (s.e x) = told := ⟨_, rfl⟩
  rw [hto] at htold ⊢
  have HV := Lib.hid hb
  obtain ⟨vP, vE, vT, rfl, h1, h2, h3⟩ := hb.shape
  obtain ⟨bP, oP, c1, rfl, lP, hP⟩ := h1.at (by simp)
  obtain ⟨bE, oE, c2, rfl, lE, hE⟩ := h2.at (by simp)
  obtain ⟨bT, oT, c3, rfl, lT, hT⟩ := h3.at (by simp)
  have cP1 : w.cell? ⟨bP, oP + 1, none⟩ = some (.int .i64 s.p1) := hP 1 (by simp)
  have cP2 : w.cell? ⟨bP, oP + 2, none⟩ = some (.int .i64 s.p2) := hP 2 (by simp)
  have cE : w.cell? ⟨bE, oE + x, none⟩ = some (.int .i64 (s.e x)) := by rw [← hrow.1]; exact hE x (by simpa using hx)
  have cT : w.cell? ⟨bT, oT + x, none⟩ = some (.int .i64 (s.t x)) := by rw [← hrow.2]; exact hT x (by simpa using hx)
  clear h1 h2 h3 hb hP hE hT hrow HV
  dsimp only [VS.ps] at HC ⊢
  simp only [List.length_cons, List.length_nil, Nat.zero_add, Nat.reduceAdd] at HC ⊢
  generalize s.e x = ex at *
  generalize s.t x = t at *
  obtain ⟨p1, p2, n, k, b3, b4, b5, b6⟩ := s
  dsimp only at *
  have HTO := Lib.hid hto
  clear hto
  have hx0 : (0 : Int) ≤ (x : Int) := by omega
  have hx1 : (x : Int) < 2 := by omega
  have ha : decide ((x : Int) < 0) = false := by simp
  have hb1 : decide (1 < (x : Int)) = false := by simp; omega
  go_enter Try.func17, Try.ntmps17
  go_upto_region 1 with fail
  have k0 : Blk (w.alloc (.cells #[.slice (some ⟨bP, oP, none⟩) 3 c1, .int .i64 n, .int .i64 k, .slice (some ⟨bE, oE, none⟩) 2 c2, .slice (some ⟨bT, oT, none⟩) 2 c3] 24)) w.heap.size #[.slice (some ⟨bP, oP, none⟩) 3 c1, .int .i64 n, .int .i64 k, .slice (some ⟨bE, oE, none⟩) 2 c2, .slice (some ⟨bT, oT, none⟩) 2 c3] 24 := Blk.new _ _ _ _ rfl
  have g0 : Grew w (w.alloc (.cells #[.slice (some ⟨bP, oP, none⟩) 3 c1, .int .i64 n, .int .i64 k, .slice (some ⟨bE, oE, none⟩) 2 c2, .slice (some ⟨bT, oT, none⟩) 2 c3] 24)) := (Grew.refl w).alloc _
  generalize (w.alloc (.cells #[.slice (some ⟨bP, oP, none⟩) 3 c1, .int .i64 n, .int .i64 k, .slice (some ⟨bE, oE, none⟩) 2 c2, .slice (some ⟨bT, oT, none⟩) 2 c3] 24)) = w0 at *
  have y0 := k0.cell 0
  have y1 := k0.cell 1
  have y2 := k0.cell 2
  have y3 := k0.cell 3
  have y4 := k0.cell 4
  go_wp2_with fail
  refine (HC.out _ g0).mono ?_
  rintro e w1 ⟨rfl, g1⟩
  clear y0 y1 y2 y3 y4
  have k1 := k0.grew g1
  have G1 := g0.trans g1
  clear k0 g0 g1 HC
  go_upto_region 3 with fail
  have z4 := fun z : Over w1 => k1.overCell 4 _ rfl z
  have zT := fun z : Over w1 => ((gcell (G1.trans z.g)).1 bT _ lT).trans cT
  refine region_over (by kernel_rfl) (by kernel_rfl) ?_
  repeat (first | go_big_quiet_step (fail) | quiet_step (fail))
  refine wpQuiet_nil ?_
  intro z
  have G2 := G1.trans z.g
  have k2 := k1.over z
  clear z4 zT ha hb1
  generalize z.w = w2 at *
  go_wp2_with fail
  refine wp_loop_rounds 3 ?_
  rcases htold with rfl | rfl | rfl | rfl
  · skip
    rw [rounds_succ]
    go_upto_region 7 with fail
    have q : bits .and .i64 0 2 = 0 := by decide
    have z1 := fun z : Over w2 => k2.overCell 1 _ rfl z
    have z3 := fun z : Over w2 => k2.overCell 3 _ rfl z
    have z0 := fun z : Over w2 => k2.overCell 0 _ rfl z
    have zE := fun z : Over w2 => ((gcell (G2.trans z.g)).1 bE _ lE).trans cE
    have zP := fun z : Over w2 => ((gcell (G2.trans z.g)).1 bP (oP + 1) lP).trans cP1
    have hto := HTO.out
    refine region_over (by kernel_rfl) (by kernel_rfl) ?_
    repeat (first | go_big_quiet_step (fail) | quiet_step (fail))
    refine wpQuiet_nil ?_
    intro z
    have G_v2 := G2.trans z.g
    have k_v2 := k2.over z
    clear q z1 z3 z0 zE zP hto
    generalize z.w = v2 at *
    go_wp2_with fail
    rw [rounds_succ]
    go_upto_region 7 with fail
    have q : bits .and .i64 0 4 = 0 := by decide
    have z1 := fun z : Over v2 => k_v2.overCell 1 _ rfl z
    have z3 := fun z : Over v2 => k_v2.overCell 3 _ rfl z
    have z0 := fun z : Over v2 => k_v2.overCell 0 _ rfl z
    have zE := fun z : Over v2 => ((gcell (G_v2.trans z.g)).1 bE _ lE).trans cE
    have zP := fun z : Over v2 => ((gcell (G_v2.trans z.g)).1 bP (oP + 2) lP).trans cP2
    have hto := HTO.out
    refine region_over (by kernel_rfl) (by kernel_rfl) ?_
    repeat (first | go_big_quiet_step (fail) | quiet_step (fail))
    refine wpQuiet_nil ?_
    intro z
    have G_v3 := G_v2.trans z.g
    have k_v3 := k_v2.over z
    clear q z1 z3 z0 zE zP hto
    generalize z.w = v3 at *
    go_wp2_with fail
    rw [rounds_succ]
    go_wp2_with fail
    go_ret
    exact ⟨ret_i64 (by (try simp only [decide_eq_true_eq, decide_eq_false_iff_not] at *); unfold bestV; repeat' (first | rfl | split) <;> omega), g.trans G_v3⟩
  · skip
    rw [rounds_succ]
    go_upto_region 7 with fail
    cases hd1 : decide (t < p1)
    · skip
      have q : bits .and .i64 2 2 = 2 := by decide
      have z1 := fun z : Over w2 => k2.overCell 1 _ rfl z
      have z3 := fun z : Over w2 => k2.overCell 3 _ rfl z
      have z0 := fun z : Over w2 => k2.overCell 0 _ rfl z
      have zE := fun z : Over w2 => ((gcell (G2.trans z.g)).1 bE _ lE).trans cE
      have zP := fun z : Over w2 => ((gcell (G2.trans z.g)).1 bP (oP + 1) lP).trans cP1
      have hto := HTO.out
      refine region_over (by kernel_rfl) (by kernel_rfl) ?_
      repeat (first | go_big_quiet_step (fail) | quiet_step (fail))
      refine wpQuiet_nil ?_
      intro z
      have G_v4 := G2.trans z.g
      have k_v4 := k2.over z
      clear q z1 z3 z0 zE zP hto
      generalize z.w = v4 at *
      go_wp2_with fail
      rw [rounds_succ]
      go_upto_region 7 with fail
      have q : bits .and .i64 2 4 = 0 := by decide
      have z1 := fun z : Over v4 => k_v4.overCell 1 _ rfl z
      have z3 := fun z : Over v4 => k_v4.overCell 3 _ rfl z
      have z0 := fun z : Over v4 => k_v4.overCell 0 _ rfl z
      have zE := fun z : Over v4 => ((gcell (G_v4.trans z.g)).1 bE _ lE).trans cE
      have zP := fun z : Over v4 => ((gcell (G_v4.trans z.g)).1 bP (oP + 2) lP).trans cP2
      have hto := HTO.out
      refine region_over (by kernel_rfl) (by kernel_rfl) ?_
      repeat (first | go_big_quiet_step (fail) | quiet_step (fail))
      refine wpQuiet_nil ?_
      intro z
      have G_v5 := G_v4.trans z.g
      have k_v5 := k_v4.over z
      clear q z1 z3 z0 zE zP hto
      generalize z.w = v5 at *
      go_wp2_with fail
      rw [rounds_succ]
      go_wp2_with fail
      go_ret
      exact ⟨ret_i64 (by (try simp only [decide_eq_true_eq, decide_eq_false_iff_not] at *); unfold bestV; repeat' (first | rfl | split) <;> omega), g.trans G_v5⟩
    · skip
      have q : bits .and .i64 2 2 = 2 := by decide
      have z1 := fun z : Over w2 => k2.overCell 1 _ rfl z
      have z3 := fun z : Over w2 => k2.overCell 3 _ rfl z
      have z0 := fun z : Over w2 => k2.overCell 0 _ rfl z
      have zE := fun z : Over w2 => ((gcell (G2.trans z.g)).1 bE _ lE).trans cE
      have zP := fun z : Over w2 => ((gcell (G2.trans z.g)).1 bP (oP + 1) lP).trans cP1
      have hto := HTO.out
      refine region_over (by kernel_rfl) (by kernel_rfl) ?_
      repeat (first | go_big_quiet_step (fail) | quiet_step (fail))
      refine wpQuiet_nil ?_
      intro z
      have G_v4 := G2.trans z.g
      have k_v4 := k2.over z
      clear q z1 z3 z0 zE zP hto
      generalize z.w = v4 at *
      go_upto_region 8 with fail
      have z0 := fun z : Over v4 => k_v4.overCell 0 _ rfl z
      have zP := fun z : Over v4 => ((gcell (G_v4.trans z.g)).1 bP (oP + 1) lP).trans cP1
      refine region_over (by kernel_rfl) (by kernel_rfl) ?_
      repeat (first | go_big_quiet_step (fail) | quiet_step (fail))
      refine wpQuiet_nil ?_
      intro z
      have G_v4' := G_v4.trans z.g
      have k_v4' := k_v4.over z
      clear z0 zP
      generalize z.w = v4' at *
      go_wp2_with fail
      rw [rounds_succ]
      go_upto_region 7 with fail
      have q : bits .and .i64 2 4 = 0 := by decide
      have z1 := fun z : Over v4' => k_v4'.overCell 1 _ rfl z
      have z3 := fun z : Over v4' => k_v4'.overCell 3 _ rfl z
      have z0 := fun z : Over v4' => k_v4'.overCell 0 _ rfl z
      have zE := fun z : Over v4' => ((gcell (G_v4'.trans z.g)).1 bE _ lE).trans cE
      have zP := fun z : Over v4' => ((gcell (G_v4'.trans z.g)).1 bP (oP + 2) lP).trans cP2
      have hto := HTO.out
      refine region_over (by kernel_rfl) (by kernel_rfl) ?_
      repeat (first | go_big_quiet_step (fail) | quiet_step (fail))
      refine wpQuiet_nil ?_
      intro z
      have G_v6 := G_v4'.trans z.g
      have k_v6 := k_v4'.over z
      clear q z1 z3 z0 zE zP hto
      generalize z.w = v6 at *
      go_wp2_with fail
      rw [rounds_succ]
      go_wp2_with fail
      go_ret
      exact ⟨ret_i64 (by (try simp only [decide_eq_true_eq, decide_eq_false_iff_not] at *); unfold bestV; repeat' (first | rfl | split) <;> omega), g.trans G_v6⟩
  · skip
    rw [rounds_succ]
    go_upto_region 7 with fail
    have q : bits .and .i64 4 2 = 0 := by decide
    have z1 := fun z : Over w2 => k2.overCell 1 _ rfl z
    have z3 := fun z : Over w2 => k2.overCell 3 _ rfl z
    have z0 := fun z : Over w2 => k2.overCell 0 _ rfl z
    have zE := fun z : Over w2 => ((gcell (G2.trans z.g)).1 bE _ lE).trans cE
    have zP := fun z : Over w2 => ((gcell (G2.trans z.g)).1 bP (oP + 1) lP).trans cP1
    have hto := HTO.out
    refine region_over (by kernel_rfl) (by kernel_rfl) ?_
    repeat (first | go_big_quiet_step (fail) | quiet_step (fail))
    refine wpQuiet_nil ?_
    intro z
    have G_v7 := G2.trans z.g
    have k_v7 := k2.over z
    clear q z1 z3 z0 zE zP hto
    generalize z.w = v7 at *
    go_wp2_with fail
    rw [rounds_succ]
    go_upto_region 7 with fail
    cases hd2 : decide (t < p2)
    · skip
      have q : bits .and .i64 4 4 = 4 := by decide
      have z1 := fun z : Over v7 => k_v7.overCell 1 _ rfl z
      have z3 := fun z : Over v7 => k_v7.overCell 3 _ rfl z
      have z0 := fun z : Over v7 => k_v7.overCell 0 _ rfl z
      have zE := fun z : Over v7 => ((gcell (G_v7.trans z.g)).1 bE _ lE).trans cE
      have zP := fun z : Over v7 => ((gcell (G_v7.trans z.g)).1 bP (oP + 2) lP).trans cP2
      have hto := HTO.out
      refine region_over (by kernel_rfl) (by kernel_rfl) ?_
      repeat (first | go_big_quiet_step (fail) | quiet_step (fail))
      refine wpQuiet_nil ?_
      intro z
      have G_v8 := G_v7.trans z.g
      have k_v8 := k_v7.over z
      clear q z1 z3 z0 zE zP hto
      generalize z.w = v8 at *
      go_wp2_with fail
      rw [rounds_succ]
      go_wp2_with fail
      go_ret
      exact ⟨ret_i64 (by (try simp only [decide_eq_true_eq, decide_eq_false_iff_not] at *); unfold bestV; repeat' (first | rfl | split) <;> omega), g.trans G_v8⟩
    · skip
      have q : bits .and .i64 4 4 = 4 := by decide
      have z1 := fun z : Over v7 => k_v7.overCell 1 _ rfl z
      have z3 := fun z : Over v7 => k_v7.overCell 3 _ rfl z
      have z0 := fun z : Over v7 => k_v7.overCell 0 _ rfl z
      have zE := fun z : Over v7 => ((gcell (G_v7.trans z.g)).1 bE _ lE).trans cE
      have zP := fun z : Over v7 => ((gcell (G_v7.trans z.g)).1 bP (oP + 2) lP).trans cP2
      have hto := HTO.out
      refine region_over (by kernel_rfl) (by kernel_rfl) ?_
      repeat (first | go_big_quiet_step (fail) | quiet_step (fail))
      refine wpQuiet_nil ?_
      intro z
      have G_v8 := G_v7.trans z.g
      have k_v8 := k_v7.over z
      clear q z1 z3 z0 zE zP hto
      generalize z.w = v8 at *
      go_upto_region 8 with fail
      have z0 := fun z : Over v8 => k_v8.overCell 0 _ rfl z
      have zP := fun z : Over v8 => ((gcell (G_v8.trans z.g)).1 bP (oP + 2) lP).trans cP2
      refine region_over (by kernel_rfl) (by kernel_rfl) ?_
      repeat (first | go_big_quiet_step (fail) | quiet_step (fail))
      refine wpQuiet_nil ?_
      intro z
      have G_v8' := G_v8.trans z.g
      have k_v8' := k_v8.over z
      clear z0 zP
      generalize z.w = v8' at *
      go_wp2_with fail
      rw [rounds_succ]
      go_wp2_with fail
      go_ret
      exact ⟨ret_i64 (by (try simp only [decide_eq_true_eq, decide_eq_false_iff_not] at *); unfold bestV; repeat' (first | rfl | split) <;> omega), g.trans G_v8'⟩
  · skip
    rw [rounds_succ]
    go_upto_region 7 with fail
    cases hd1 : decide (t < p1)
    · skip
      have q : bits .and .i64 6 2 = 2 := by decide
      have z1 := fun z : Over w2 => k2.overCell 1 _ rfl z
      have z3 := fun z : Over w2 => k2.overCell 3 _ rfl z
      have z0 := fun z : Over w2 => k2.overCell 0 _ rfl z
      have zE := fun z : Over w2 => ((gcell (G2.trans z.g)).1 bE _ lE).trans cE
      have zP := fun z : Over w2 => ((gcell (G2.trans z.g)).1 bP (oP + 1) lP).trans cP1
      have hto := HTO.out
      refine region_over (by kernel_rfl) (by kernel_rfl) ?_
      repeat (first | go_big_quiet_step (fail) | quiet_step (fail))
      refine wpQuiet_nil ?_
      intro z
      have G_v9 := G2.trans z.g
      have k_v9 := k2.over z
      clear q z1 z3 z0 zE zP hto
      generalize z.w = v9 at *
      go_wp2_with fail
      rw [rounds_succ]
      go_upto_region 7 with fail
      cases hd2 : decide (t < p2)
      · skip
        have q : bits .and .i64 6 4 = 4 := by decide
        have z1 := fun z : Over v9 => k_v9.overCell 1 _ rfl z
        have z3 := fun z : Over v9 => k_v9.overCell 3 _ rfl z
        have z0 := fun z : Over v9 => k_v9.overCell 0 _ rfl z
        have zE := fun z : Over v9 => ((gcell (G_v9.trans z.g)).1 bE _ lE).trans cE
        have zP := fun z : Over v9 => ((gcell (G_v9.trans z.g)).1 bP (oP + 2) lP).trans cP2
        have hto := HTO.out
        refine region_over (by kernel_rfl) (by kernel_rfl) ?_
        repeat (first | go_big_quiet_step (fail) | quiet_step (fail))
        refine wpQuiet_nil ?_
        intro z
        have G_v10 := G_v9.trans z.g
        have k_v10 := k_v9.over z
        clear q z1 z3 z0 zE zP hto
        generalize z.w = v10 at *
        go_wp2_with fail
        rw [rounds_succ]
        go_wp2_with fail
        go_ret
        exact ⟨ret_i64 (by (try simp only [decide_eq_true_eq, decide_eq_false_iff_not] at *); unfold bestV; repeat' (first | rfl | split) <;> omega), g.trans G_v10⟩
      · skip
        have q : bits .and .i64 6 4 = 4 := by decide
        have z1 := fun z : Over v9 => k_v9.overCell 1 _ rfl z
        have z3 := fun z : Over v9 => k_v9.overCell 3 _ rfl z
        have z0 := fun z : Over v9 => k_v9.overCell 0 _ rfl z
        have zE := fun z : Over v9 => ((gcell (G_v9.trans z.g)).1 bE _ lE).trans cE
        have zP := fun z : Over v9 => ((gcell (G_v9.trans z.g)).1 bP (oP + 2) lP).trans cP2
        have hto := HTO.out
        refine region_over (by kernel_rfl) (by kernel_rfl) ?_
        repeat (first | go_big_quiet_step (fail) | quiet_step (fail))
        refine wpQuiet_nil ?_
        intro z
        have G_v10 := G_v9.trans z.g
        have k_v10 := k_v9.over z
        clear q z1 z3 z0 zE zP hto
        generalize z.w = v10 at *
        go_upto_region 8 with fail
        have z0 := fun z : Over v10 => k_v10.overCell 0 _ rfl z
        have zP := fun z : Over v10 => ((gcell (G_v10.trans z.g)).1 bP (oP + 2) lP).trans cP2
        refine region_over (by kernel_rfl) (by kernel_rfl) ?_
        repeat (first | go_big_quiet_step (fail) | quiet_step (fail))
        refine wpQuiet_nil ?_
        intro z
        have G_v10' := G_v10.trans z.g
        have k_v10' := k_v10.over z
        clear z0 zP
        generalize z.w = v10' at *
        go_wp2_with fail
        rw [rounds_succ]
        go_wp2_with fail
        go_ret
        exact ⟨ret_i64 (by (try simp only [decide_eq_true_eq, decide_eq_false_iff_not] at *); unfold bestV; repeat' (first | rfl | split) <;> omega), g.trans G_v10'⟩
    · skip
      have q : bits .and .i64 6 2 = 2 := by decide
      have z1 := fun z : Over w2 => k2.overCell 1 _ rfl z
      have z3 := fun z : Over w2 => k2.overCell 3 _ rfl z
      have z0 := fun z : Over w2 => k2.overCell 0 _ rfl z
      have zE := fun z : Over w2 => ((gcell (G2.trans z.g)).1 bE _ lE).trans cE
      have zP := fun z : Over w2 => ((gcell (G2.trans z.g)).1 bP (oP + 1) lP).trans cP1
      have hto := HTO.out
      refine region_over (by kernel_rfl) (by kernel_rfl) ?_
      repeat (first | go_big_quiet_step (fail) | quiet_step (fail))
      refine wpQuiet_nil ?_
      intro z
      have G_v9 := G2.trans z.g
      have k_v9 := k2.over z
      clear q z1 z3 z0 zE zP hto
      generalize z.w = v9 at *
      go_upto_region 8 with fail
      have z0 := fun z : Over v9 => k_v9.overCell 0 _ rfl z
      have zP := fun z : Over v9 => ((gcell (G_v9.trans z.g)).1 bP (oP + 1) lP).trans cP1
      refine region_over (by kernel_rfl) (by kernel_rfl) ?_
      repeat (first | go_big_quiet_step (fail) | quiet_step (fail))
      refine wpQuiet_nil ?_
      intro z
      have G_v9' := G_v9.trans z.g
      have k_v9' := k_v9.over z
      clear z0 zP
      generalize z.w = v9' at *
      go_wp2_with fail
      rw [rounds_succ]
      go_upto_region 7 with fail
      cases hd2 : decide (p1 < p2)
      · skip
        have q : bits .and .i64 6 4 = 4 := by decide
        have z1 := fun z : Over v9' => k_v9'.overCell 1 _ rfl z
        have z3 := fun z : Over v9' => k_v9'.overCell 3 _ rfl z
        have z0 := fun z : Over v9' => k_v9'.overCell 0 _ rfl z
        have zE := fun z : Over v9' => ((gcell (G_v9'.trans z.g)).1 bE _ lE).trans cE
        have zP := fun z : Over v9' => ((gcell (G_v9'.trans z.g)).1 bP (oP + 2) lP).trans cP2
        have hto := HTO.out
        refine region_over (by kernel_rfl) (by kernel_rfl) ?_
        repeat (first | go_big_quiet_step (fail) | quiet_step (fail))
        refine wpQuiet_nil ?_
        intro z
        have G_v11 := G_v9'.trans z.g
        have k_v11 := k_v9'.over z
        clear q z1 z3 z0 zE zP hto
        generalize z.w = v11 at *
        go_wp2_with fail
        rw [rounds_succ]
        go_wp2_with fail
        go_ret
        exact ⟨ret_i64 (by (try simp only [decide_eq_true_eq, decide_eq_false_iff_not] at *); unfold bestV; repeat' (first | rfl | split) <;> omega), g.trans G_v11⟩
      · skip
        have q : bits .and .i64 6 4 = 4 := by decide
        have z1 := fun z : Over v9' => k_v9'.overCell 1 _ rfl z
        have z3 := fun z : Over v9' => k_v9'.overCell 3 _ rfl z
        have z0 := fun z : Over v9' => k_v9'.overCell 0 _ rfl z
        have zE := fun z : Over v9' => ((gcell (G_v9'.trans z.g)).1 bE _ lE).trans cE
        have zP := fun z : Over v9' => ((gcell (G_v9'.trans z.g)).1 bP (oP + 2) lP).trans cP2
        have hto := HTO.out
        refine region_over (by kernel_rfl) (by kernel_rfl) ?_
        repeat (first | go_big_quiet_step (fail) | quiet_step (fail))
        refine wpQuiet_nil ?_
        intro z
        have G_v11 := G_v9'.trans z.g
        have k_v11 := k_v9'.over z
        clear q z1 z3 z0 zE zP hto
        generalize z.w = v11 at *
        go_upto_region 8 with fail
        have z0 := fun z : Over v11 => k_v11.overCell 0 _ rfl z
        have zP := fun z : Over v11 => ((gcell (G_v11.trans z.g)).1 bP (oP + 2) lP).trans cP2
        refine region_over (by kernel_rfl) (by kernel_rfl) ?_
        repeat (first | go_big_quiet_step (fail) | quiet_step (fail))
        refine wpQuiet_nil ?_
        intro z
        have G_v11' := G_v11.trans z.g
        have k_v11' := k_v11.over z
        clear z0 zP
        generalize z.w = v11' at *
        go_wp2_with fail
        rw [rounds_succ]
        go_wp2_with fail
        go_ret
        exact ⟨ret_i64 (by (try simp only [decide_eq_true_eq, decide_eq_false_iff_not] at *); unfold bestV; repeat' (first | rfl | split) <;> omega), g.trans G_v11'⟩
theorem refBest_yes {v : Value} {s : VS} (hs : s.Ok) {x : Int} (hx : x = 0 ∨ x = 1) {W w : World} (hb : Pl w v s.ps) (g : Grew W w) :
    Calls Try.prog 17 #[v, .int .i64 x] w fun e w' => e = .returned (.int .i64 (s.best x)) ∧ Grew W w' := by
  rcases hx with rfl | rfl
  · exact refBest_at hs 0 (by omega) hb g
  · exact refBest_at hs 1 (by omega) hb g
end Go.Proofs.Ytpanecflmoebiaa
