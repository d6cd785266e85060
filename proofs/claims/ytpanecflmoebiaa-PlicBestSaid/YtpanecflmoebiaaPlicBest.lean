/-
  The statement that who is told is pending, enabled, above the threshold, and no other such one has a greater priority. For every controller, right or not, and every context. Conditions: none.
-/
import Derived.Test.YtpanecflmoebiaaRows
import Derived.Test.YtpanecflmoebiaaPlU
import Derived.Test.YtpanecflmoebiaaLaw
import Derived.Deep.QuietTactic
import Derived.BigQuiet
import Derived.Deep.DeepCutAuto
set_option linter.unusedVariables false
set_option linter.unusedSimpArgs false
namespace Go.Proofs.Ytpanecflmoebiaa.plicBest
open Go.ChangeShapes Go.WideShapes Go.ChangeAt Go.RowKit

set_option maxRecDepth 100000 in
set_option maxHeartbeats 2000000 in
theorem walk_no (s : PS) (a1 : Option Addr) (a2 : Nat) (a3 : Option Addr) (a4 : Nat) (a5 : Option Addr) (a6 : Nat) (x : Int) (W : World) (hbad : chk s = false ∨ x < 0 ∨ 1 < x) (hP : Pl W (plV s a1 a2 a3 a4 a5 a6) s)
    (r1 : ∀ w v, Pl w v s → Ans 7 #[v] (.bool (chk s)) w)
    (rB : ∀ w v, Pl w v s → Ans 16 #[v, .int .i64 x] (.int .i64 0) w) :
    Calls Try.prog 6 #[plV s a1 a2 a3 a4 a5 a6, .int .i64 x] W fun e w' => e = .returned (.bool true) ∧ Below W.heap.size W w' := by
  have R1 := Lib.hid r1
  have RB := Lib.hid rB
  have HP := Lib.hid hP
  clear r1 rB hP
  have key : ∀ b1 b2 b3 : Bool, chk s = b1 → decide (x < 0) = b2 → decide (1 < x) = b3 → (b1 = false ∨ b2 = true ∨ b3 = true) → Calls Try.prog 6 #[plV s a1 a2 a3 a4 a5 a6, .int .i64 x] W fun e w' => e = .returned (.bool true) ∧ Below W.heap.size W w' := by
    intro b1 b2 b3 e1 e2 e3 hor
    rw [e1] at R1
    clear e1 hbad
    cases b1 <;> cases b2 <;> cases b3
    case true.false.false => simp at hor
    all_goals
      clear hor
      go_enter Try.func6, Try.ntmps6
      go_upto_region 1 with fail
      have hA : Blk (W.alloc (.cells #[.slice a1 s.pr.length a2, .int .i64 s.n, .int .i64 s.k, .slice a3 s.en.length a4, .slice a5 s.th.length a6] 24)) W.heap.size #[.slice a1 s.pr.length a2, .int .i64 s.n, .int .i64 s.k, .slice a3 s.en.length a4, .slice a5 s.th.length a6] 24 := Blk.new W _ _ _ rfl
      have g0 : Grew W (W.alloc (.cells #[.slice a1 s.pr.length a2, .int .i64 s.n, .int .i64 s.k, .slice a3 s.en.length a4, .slice a5 s.th.length a6] 24)) := (Grew.refl W).alloc _
      generalize (W.alloc (.cells #[.slice a1 s.pr.length a2, .int .i64 s.n, .int .i64 s.k, .slice a3 s.en.length a4, .slice a5 s.th.length a6] 24)) = w0 at *
      have HP0 := Lib.hid (HP.out.grew g0)
      have D0 := Grew.refl w0
      have y0 := (hA.grew D0).cell 0
      have y1 := (hA.grew D0).cell 1
      have y2 := (hA.grew D0).cell 2
      have y3 := (hA.grew D0).cell 3
      have y4 := (hA.grew D0).cell 4
      go_wp2_with fail
      refine Calls.mono (R1.out _ _ (HP0.out.grew D0)) ?_
      rintro e w1 ⟨rfl, g1⟩
      have D1 := D0.trans g1
      clear y0 y1 y2 y3 y4
      have y0 := (hA.grew D1).cell 0
      have y1 := (hA.grew D1).cell 1
      have y2 := (hA.grew D1).cell 2
      have y3 := (hA.grew D1).cell 3
      have y4 := (hA.grew D1).cell 4
      go_wp2_with fail
      refine Calls.mono (RB.out _ _ (HP0.out.grew D1)) ?_
      rintro e w2 ⟨rfl, g2⟩
      have D2 := D1.trans g2
      clear y0 y1 y2 y3 y4
      go_wp2_with fail
      refine (heads_c (g0.trans D2)).mono ?_
      rintro e w3 ⟨rfl, g3⟩
      go_wp2_with fail
      go_ret
      exact ⟨rfl, g3⟩
  refine key _ _ _ rfl rfl rfl ?_
  rcases hbad with h | h | h
  · exact .inl h
  · exact .inr (.inl (by simpa using h))
  · exact .inr (.inr (by simpa using h))

set_option maxRecDepth 100000 in
set_option maxHeartbeats 16000000 in
theorem walk_at (s : VS) (hs : s.Ok) (v : Value) (x : Nat) (hx : x < 2) (w : World) (hb : Pl w v s.ps)
    (rB : ∀ w v, Pl w v s.ps → Ans 16 #[v, .int .i64 x] (.int .i64 (s.best x)) w) :
    Calls Try.prog 6 #[v, .int .i64 x] w fun e w' => e = .returned (.bool true) ∧ Below w.heap.size w w' := by
  have hC := fun (w1 : World) (g1 : Grew w w1) => check_c (Grew.refl w1) (hb.grew g1)
  have hB := fun (w1 : World) (g1 : Grew w w1) => rB w1 v (hb.grew g1)
  rw [chk_mk hs] at hC
  have HC := Lib.hid hC
  have htold : Src (bits .and .i64 s.n (s.e x)) := src_and hs.n (hs.e x)
  have hrow : ([s.e0, s.e1].getD x 0 = s.e x) ∧ ([s.t0, s.t1].getD x 0 = s.t x) := by
    match x, hx with
    | 0, _ => exact ⟨rfl, rfl⟩
    | 1, _ => exact ⟨rfl, rfl⟩
  unfold VS.best at hB
  clear hC hs rB
  obtain ⟨told, hto⟩ : ∃ told, bits .and .i64 s.n (s.e x) = told := ⟨_, rfl⟩
  rw [hto] at htold hB
  obtain ⟨vP, vE, vT, rfl, h1, h2, h3⟩ := hb.shape
  obtain ⟨bP, oP, c1, rfl, lP, hP⟩ := h1.at (by simp)
  obtain ⟨bE, oE, c2, rfl, lE, hE⟩ := h2.at (by simp)
  obtain ⟨bT, oT, c3, rfl, lT, hT⟩ := h3.at (by simp)
  have cP0 : w.cell? ⟨bP, oP, none⟩ = some (.int .i64 0) := hP 0 (by simp)
  have cP1 : w.cell? ⟨bP, oP + 1, none⟩ = some (.int .i64 s.p1) := hP 1 (by simp)
  have cP2 : w.cell? ⟨bP, oP + 2, none⟩ = some (.int .i64 s.p2) := hP 2 (by simp)
  have cE : w.cell? ⟨bE, oE + x, none⟩ = some (.int .i64 (s.e x)) := by rw [← hrow.1]; exact hE x (by simpa using hx)
  have cT : w.cell? ⟨bT, oT + x, none⟩ = some (.int .i64 (s.t x)) := by rw [← hrow.2]; exact hT x (by simpa using hx)
  clear h1 h2 h3 hb hP hE hT hrow
  dsimp only [VS.ps] at HC hB ⊢
  simp only [List.length_cons, List.length_nil, Nat.zero_add, Nat.reduceAdd] at HC hB ⊢
  generalize s.e x = ex at *
  generalize s.t x = t at *
  obtain ⟨p1, p2, n, k, b3, b4, b5, b6⟩ := s
  dsimp only at *
  have HTO := Lib.hid hto
  clear hto
  obtain ⟨b, hbv⟩ : ∃ b, bestV told t p1 p2 = b := ⟨_, rfl⟩
  rw [hbv] at hB
  have HB := Lib.hid hB
  have HBV := Lib.hid hbv
  clear hB hbv
  have hx0 : (0 : Int) ≤ (x : Int) := by omega
  have hx1 : (x : Int) < 2 := by omega
  have ha : decide ((x : Int) < 0) = false := by simp
  have hb1 : decide (1 < (x : Int)) = false := by simp; omega
  go_enter Try.func6, Try.ntmps6
  go_upto_region 1 with fail
  have k0 : Blk (w.alloc (.cells #[.slice (some ⟨bP, oP, none⟩) 3 c1, .int .i64 n, .int .i64 k, .slice (some ⟨bE, oE, none⟩) 2 c2, .slice (some ⟨bT, oT, none⟩) 2 c3] 24)) w.heap.size #[.slice (some ⟨bP, oP, none⟩) 3 c1, .int .i64 n, .int .i64 k, .slice (some ⟨bE, oE, none⟩) 2 c2, .slice (some ⟨bT, oT, none⟩) 2 c3] 24 := Blk.new _ _ _ _ rfl
  have g0 : Grew w (w.alloc (.cells #[.slice (some ⟨bP, oP, none⟩) 3 c1, .int .i64 n, .int .i64 k, .slice (some ⟨bE, oE, none⟩) 2 c2, .slice (some ⟨bT, oT, none⟩) 2 c3] 24)) := (Grew.refl w).alloc _
  generalize (w.alloc (.cells #[.slice (some ⟨bP, oP, none⟩) 3 c1, .int .i64 n, .int .i64 k, .slice (some ⟨bE, oE, none⟩) 2 c2, .slice (some ⟨bT, oT, none⟩) 2 c3] 24)) = w0 at *
  have y0 := k0.cell 0
  have y1 := k0.cell 1
  have y2 := k0.cell 2
  have y3 := k0.cell 3
  have y4 := k0.cell 4
  go_wp2_with fail
  refine (HC.out _ g0).mono ?_
  rintro e w1 ⟨rfl, g1⟩
  clear y0 y1 y2 y3 y4
  have k1 := k0.grew g1
  have G1 := g0.trans g1
  clear k0 g0 g1 HC
  have y0 := k1.cell 0
  have y1 := k1.cell 1
  have y2 := k1.cell 2
  have y3 := k1.cell 3
  have y4 := k1.cell 4
  go_wp2_with fail
  refine Calls.mono (HB.out _ G1) ?_
  rintro e w2 ⟨rfl, g2⟩
  have k2 := k1.grew g2
  have G2 := G1.trans g2
  clear y0 y1 y2 y3 y4
  clear k1 G1 g2 HB ha hb1
  go_wp2_with fail
  refine wp_loop_rounds 3 ?_
  rcases htold with rfl | rfl | rfl | rfl
  · skip
    obtain rfl : b = 0 := by
      rw [← HBV.out]
      try simp only [decide_eq_true_eq, decide_eq_false_iff_not] at *
      unfold bestV
      repeat' (first | rfl | split)
      all_goals omega
    rw [rounds_succ]
    go_upto_region 7 with fail
    have q : bits .and .i64 0 2 = 0 := by decide
    have z1 := fun z : Over w2 => k2.overCell 1 _ rfl z
    have z3 := fun z : Over w2 => k2.overCell 3 _ rfl z
    have z0 := fun z : Over w2 => k2.overCell 0 _ rfl z
    have z4 := fun z : Over w2 => k2.overCell 4 _ rfl z
    have zE := fun z : Over w2 => ((gcell (G2.trans z.g)).1 bE _ lE).trans cE
    have zT := fun z : Over w2 => ((gcell (G2.trans z.g)).1 bT _ lT).trans cT
    have zP := fun z : Over w2 => ((gcell (G2.trans z.g)).1 bP (oP + 1) lP).trans cP1
    have hto := HTO.out
    refine region_over (by kernel_rfl) (by kernel_rfl) ?_
    repeat (first | go_big_quiet_step (fail) | quiet_step (fail))
    refine wpQuiet_nil ?_
    intro z
    have G_v1 := G2.trans z.g
    have k_v1 := k2.over z
    clear q z1 z3 z0 z4 zE zT zP hto
    generalize z.w = v1 at *
    go_upto_region 8 with fail
    have z0 := fun z : Over v1 => k_v1.overCell 0 _ rfl z
    have zA := fun z : Over v1 => ((gcell (G_v1.trans z.g)).1 bP (oP + 1) lP).trans cP1
    have zB := fun z : Over v1 => ((gcell (G_v1.trans z.g)).1 bP (oP + 2) lP).trans cP2
    refine region_over (by kernel_rfl) (by kernel_rfl) ?_
    repeat (first | go_big_quiet_step (fail) | quiet_step (fail))
    refine wpQuiet_nil ?_
    intro z
    have G_v1' := G_v1.trans z.g
    have k_v1' := k_v1.over z
    clear z0 zA zB
    generalize z.w = v1' at *
    go_wp2_with fail
    rw [rounds_succ]
    go_upto_region 7 with fail
    have q : bits .and .i64 0 4 = 0 := by decide
    have z1 := fun z : Over v1' => k_v1'.overCell 1 _ rfl z
    have z3 := fun z : Over v1' => k_v1'.overCell 3 _ rfl z
    have z0 := fun z : Over v1' => k_v1'.overCell 0 _ rfl z
    have z4 := fun z : Over v1' => k_v1'.overCell 4 _ rfl z
    have zE := fun z : Over v1' => ((gcell (G_v1'.trans z.g)).1 bE _ lE).trans cE
    have zT := fun z : Over v1' => ((gcell (G_v1'.trans z.g)).1 bT _ lT).trans cT
    have zP := fun z : Over v1' => ((gcell (G_v1'.trans z.g)).1 bP (oP + 2) lP).trans cP2
    have hto := HTO.out
    refine region_over (by kernel_rfl) (by kernel_rfl) ?_
    repeat (first | go_big_quiet_step (fail) | quiet_step (fail))
    refine wpQuiet_nil ?_
    intro z
    have G_v2 := G_v1'.trans z.g
    have k_v2 := k_v1'.over z
    clear q z1 z3 z0 z4 zE zT zP hto
    generalize z.w = v2 at *
    go_upto_region 8 with fail
    have z0 := fun z : Over v2 => k_v2.overCell 0 _ rfl z
    have zA := fun z : Over v2 => ((gcell (G_v2.trans z.g)).1 bP (oP + 1) lP).trans cP1
    have zB := fun z : Over v2 => ((gcell (G_v2.trans z.g)).1 bP (oP + 2) lP).trans cP2
    refine region_over (by kernel_rfl) (by kernel_rfl) ?_
    repeat (first | go_big_quiet_step (fail) | quiet_step (fail))
    refine wpQuiet_nil ?_
    intro z
    have G_v2' := G_v2.trans z.g
    have k_v2' := k_v2.over z
    clear z0 zA zB
    generalize z.w = v2' at *
    go_wp2_with fail
    rw [rounds_succ]
    go_wp2_with fail
    refine (heads_c G_v2').mono ?_
    rintro e w9 ⟨rfl, g9⟩
    go_wp2_with fail
    go_ret
    exact ⟨rfl, g9⟩
  · skip
    cases hd1 : decide (t < p1)
    · skip
      obtain rfl : b = 0 := by
        rw [← HBV.out]
        try simp only [decide_eq_true_eq, decide_eq_false_iff_not] at *
        unfold bestV
        repeat' (first | rfl | split)
        all_goals omega
      rw [rounds_succ]
      go_upto_region 7 with fail
      have q : bits .and .i64 2 2 = 2 := by decide
      have z1 := fun z : Over w2 => k2.overCell 1 _ rfl z
      have z3 := fun z : Over w2 => k2.overCell 3 _ rfl z
      have z0 := fun z : Over w2 => k2.overCell 0 _ rfl z
      have z4 := fun z : Over w2 => k2.overCell 4 _ rfl z
      have zE := fun z : Over w2 => ((gcell (G2.trans z.g)).1 bE _ lE).trans cE
      have zT := fun z : Over w2 => ((gcell (G2.trans z.g)).1 bT _ lT).trans cT
      have zP := fun z : Over w2 => ((gcell (G2.trans z.g)).1 bP (oP + 1) lP).trans cP1
      have hto := HTO.out
      refine region_over (by kernel_rfl) (by kernel_rfl) ?_
      repeat (first | go_big_quiet_step (fail) | quiet_step (fail))
      refine wpQuiet_nil ?_
      intro z
      have G_v3 := G2.trans z.g
      have k_v3 := k2.over z
      clear q z1 z3 z0 z4 zE zT zP hto
      generalize z.w = v3 at *
      go_upto_region 8 with fail
      have z0 := fun z : Over v3 => k_v3.overCell 0 _ rfl z
      have zA := fun z : Over v3 => ((gcell (G_v3.trans z.g)).1 bP (oP + 1) lP).trans cP1
      have zB := fun z : Over v3 => ((gcell (G_v3.trans z.g)).1 bP (oP + 2) lP).trans cP2
      refine region_over (by kernel_rfl) (by kernel_rfl) ?_
      repeat (first | go_big_quiet_step (fail) | quiet_step (fail))
      refine wpQuiet_nil ?_
      intro z
      have G_v3' := G_v3.trans z.g
      have k_v3' := k_v3.over z
      clear z0 zA zB
      generalize z.w = v3' at *
      go_wp2_with fail
      rw [rounds_succ]
      go_upto_region 7 with fail
      have q : bits .and .i64 2 4 = 0 := by decide
      have z1 := fun z : Over v3' => k_v3'.overCell 1 _ rfl z
      have z3 := fun z : Over v3' => k_v3'.overCell 3 _ rfl z
      have z0 := fun z : Over v3' => k_v3'.overCell 0 _ rfl z
      have z4 := fun z : Over v3' => k_v3'.overCell 4 _ rfl z
      have zE := fun z : Over v3' => ((gcell (G_v3'.trans z.g)).1 bE _ lE).trans cE
      have zT := fun z : Over v3' => ((gcell (G_v3'.trans z.g)).1 bT _ lT).trans cT
      have zP := fun z : Over v3' => ((gcell (G_v3'.trans z.g)).1 bP (oP + 2) lP).trans cP2
      have hto := HTO.out
      refine region_over (by kernel_rfl) (by kernel_rfl) ?_
      repeat (first | go_big_quiet_step (fail) | quiet_step (fail))
      refine wpQuiet_nil ?_
      intro z
      have G_v4 := G_v3'.trans z.g
      have k_v4 := k_v3'.over z
      clear q z1 z3 z0 z4 zE zT zP hto
      generalize z.w = v4 at *
      go_upto_region 8 with fail
      have z0 := fun z : Over v4 => k_v4.overCell 0 _ rfl z
      have zA := fun z : Over v4 => ((gcell (G_v4.trans z.g)).1 bP (oP + 1) lP).trans cP1
      have zB := fun z : Over v4 => ((gcell (G_v4.trans z.g)).1 bP (oP + 2) lP).trans cP2
      refine region_over (by kernel_rfl) (by kernel_rfl) ?_
      repeat (first | go_big_quiet_step (fail) | quiet_step (fail))
      refine wpQuiet_nil ?_
      intro z
      have G_v4' := G_v4.trans z.g
      have k_v4' := k_v4.over z
      clear z0 zA zB
      generalize z.w = v4' at *
      go_wp2_with fail
      rw [rounds_succ]
      go_wp2_with fail
      refine (heads_c G_v4').mono ?_
      rintro e w9 ⟨rfl, g9⟩
      go_wp2_with fail
      go_ret
      exact ⟨rfl, g9⟩
    · skip
      obtain rfl : b = 1 := by
        rw [← HBV.out]
        try simp only [decide_eq_true_eq, decide_eq_false_iff_not] at *
        unfold bestV
        repeat' (first | rfl | split)
        all_goals omega
      rw [rounds_succ]
      go_upto_region 7 with fail
      have q : bits .and .i64 2 2 = 2 := by decide
      have z1 := fun z : Over w2 => k2.overCell 1 _ rfl z
      have z3 := fun z : Over w2 => k2.overCell 3 _ rfl z
      have z0 := fun z : Over w2 => k2.overCell 0 _ rfl z
      have z4 := fun z : Over w2 => k2.overCell 4 _ rfl z
      have zE := fun z : Over w2 => ((gcell (G2.trans z.g)).1 bE _ lE).trans cE
      have zT := fun z : Over w2 => ((gcell (G2.trans z.g)).1 bT _ lT).trans cT
      have zP := fun z : Over w2 => ((gcell (G2.trans z.g)).1 bP (oP + 1) lP).trans cP1
      have hto := HTO.out
      refine region_over (by kernel_rfl) (by kernel_rfl) ?_
      repeat (first | go_big_quiet_step (fail) | quiet_step (fail))
      refine wpQuiet_nil ?_
      intro z
      have G_v5 := G2.trans z.g
      have k_v5 := k2.over z
      clear q z1 z3 z0 z4 zE zT zP hto
      generalize z.w = v5 at *
      go_upto_region 8 with fail
      have z0 := fun z : Over v5 => k_v5.overCell 0 _ rfl z
      have zA := fun z : Over v5 => ((gcell (G_v5.trans z.g)).1 bP (oP + 1) lP).trans cP1
      have zB := fun z : Over v5 => ((gcell (G_v5.trans z.g)).1 bP (oP + 2) lP).trans cP2
      refine region_over (by kernel_rfl) (by kernel_rfl) ?_
      repeat (first | go_big_quiet_step (fail) | quiet_step (fail))
      refine wpQuiet_nil ?_
      intro z
      have G_v5' := G_v5.trans z.g
      have k_v5' := k_v5.over z
      clear z0 zA zB
      generalize z.w = v5' at *
      go_wp2_with fail
      rw [rounds_succ]
      go_upto_region 7 with fail
      have q : bits .and .i64 2 4 = 0 := by decide
      have z1 := fun z : Over v5' => k_v5'.overCell 1 _ rfl z
      have z3 := fun z : Over v5' => k_v5'.overCell 3 _ rfl z
      have z0 := fun z : Over v5' => k_v5'.overCell 0 _ rfl z
      have z4 := fun z : Over v5' => k_v5'.overCell 4 _ rfl z
      have zE := fun z : Over v5' => ((gcell (G_v5'.trans z.g)).1 bE _ lE).trans cE
      have zT := fun z : Over v5' => ((gcell (G_v5'.trans z.g)).1 bT _ lT).trans cT
      have zP := fun z : Over v5' => ((gcell (G_v5'.trans z.g)).1 bP (oP + 2) lP).trans cP2
      have hto := HTO.out
      refine region_over (by kernel_rfl) (by kernel_rfl) ?_
      repeat (first | go_big_quiet_step (fail) | quiet_step (fail))
      refine wpQuiet_nil ?_
      intro z
      have G_v6 := G_v5'.trans z.g
      have k_v6 := k_v5'.over z
      clear q z1 z3 z0 z4 zE zT zP hto
      generalize z.w = v6 at *
      go_upto_region 8 with fail
      have z0 := fun z : Over v6 => k_v6.overCell 0 _ rfl z
      have zA := fun z : Over v6 => ((gcell (G_v6.trans z.g)).1 bP (oP + 1) lP).trans cP1
      have zB := fun z : Over v6 => ((gcell (G_v6.trans z.g)).1 bP (oP + 2) lP).trans cP2
      refine region_over (by kernel_rfl) (by kernel_rfl) ?_
      repeat (first | go_big_quiet_step (fail) | quiet_step (fail))
      refine wpQuiet_nil ?_
      intro z
      have G_v6' := G_v6.trans z.g
      have k_v6' := k_v6.over z
      clear z0 zA zB
      generalize z.w = v6' at *
      go_wp2_with fail
      rw [rounds_succ]
      go_wp2_with fail
      refine (heads_c G_v6').mono ?_
      rintro e w9 ⟨rfl, g9⟩
      go_wp2_with fail
      go_ret
      exact ⟨rfl, g9⟩
  · skip
    cases hd2 : decide (t < p2)
    · skip
      obtain rfl : b = 0 := by
        rw [← HBV.out]
        try simp only [decide_eq_true_eq, decide_eq_false_iff_not] at *
        unfold bestV
        repeat' (first | rfl | split)
        all_goals omega
      rw [rounds_succ]
      go_upto_region 7 with fail
      have q : bits .and .i64 4 2 = 0 := by decide
      have z1 := fun z : Over w2 => k2.overCell 1 _ rfl z
      have z3 := fun z : Over w2 => k2.overCell 3 _ rfl z
      have z0 := fun z : Over w2 => k2.overCell 0 _ rfl z
      have z4 := fun z : Over w2 => k2.overCell 4 _ rfl z
      have zE := fun z : Over w2 => ((gcell (G2.trans z.g)).1 bE _ lE).trans cE
      have zT := fun z : Over w2 => ((gcell (G2.trans z.g)).1 bT _ lT).trans cT
      have zP := fun z : Over w2 => ((gcell (G2.trans z.g)).1 bP (oP + 1) lP).trans cP1
      have hto := HTO.out
      refine region_over (by kernel_rfl) (by kernel_rfl) ?_
      repeat (first | go_big_quiet_step (fail) | quiet_step (fail))
      refine wpQuiet_nil ?_
      intro z
      have G_v7 := G2.trans z.g
      have k_v7 := k2.over z
      clear q z1 z3 z0 z4 zE zT zP hto
      generalize z.w = v7 at *
      go_upto_region 8 with fail
      have z0 := fun z : Over v7 => k_v7.overCell 0 _ rfl z
      have zA := fun z : Over v7 => ((gcell (G_v7.trans z.g)).1 bP (oP + 1) lP).trans cP1
      have zB := fun z : Over v7 => ((gcell (G_v7.trans z.g)).1 bP (oP + 2) lP).trans cP2
      refine region_over (by kernel_rfl) (by kernel_rfl) ?_
      repeat (first | go_big_quiet_step (fail) | quiet_step (fail))
      refine wpQuiet_nil ?_
      intro z
      have G_v7' := G_v7.trans z.g
      have k_v7' := k_v7.over z
      clear z0 zA zB
      generalize z.w = v7' at *
      go_wp2_with fail
      rw [rounds_succ]
      go_upto_region 7 with fail
      have q : bits .and .i64 4 4 = 4 := by decide
      have z1 := fun z : Over v7' => k_v7'.overCell 1 _ rfl z
      have z3 := fun z : Over v7' => k_v7'.overCell 3 _ rfl z
      have z0 := fun z : Over v7' => k_v7'.overCell 0 _ rfl z
      have z4 := fun z : Over v7' => k_v7'.overCell 4 _ rfl z
      have zE := fun z : Over v7' => ((gcell (G_v7'.trans z.g)).1 bE _ lE).trans cE
      have zT := fun z : Over v7' => ((gcell (G_v7'.trans z.g)).1 bT _ lT).trans cT
      have zP := fun z : Over v7' => ((gcell (G_v7'.trans z.g)).1 bP (oP + 2) lP).trans cP2
      have hto := HTO.out
      refine region_over (by kernel_rfl) (by kernel_rfl) ?_
      repeat (first | go_big_quiet_step (fail) | quiet_step (fail))
      refine wpQuiet_nil ?_
      intro z
      have G_v8 := G_v7'.trans z.g
      have k_v8 := k_v7'.over z
      clear q z1 z3 z0 z4 zE zT zP hto
      generalize z.w = v8 at *
      go_upto_region 8 with fail
      have z0 := fun z : Over v8 => k_v8.overCell 0 _ rfl z
      have zA := fun z : Over v8 => ((gcell (G_v8.trans z.g)).1 bP (oP + 1) lP).trans cP1
      have zB := fun z : Over v8 => ((gcell (G_v8.trans z.g)).1 bP (oP + 2) lP).trans cP2
      refine region_over (by kernel_rfl) (by kernel_rfl) ?_
      repeat (first | go_big_quiet_step (fail) | quiet_step (fail))
      refine wpQuiet_nil ?_
      intro z
      have G_v8' := G_v8.trans z.g
      have k_v8' := k_v8.over z
      clear z0 zA zB
      generalize z.w = v8' at *
      go_wp2_with fail
      rw [rounds_succ]
      go_wp2_with fail
      refine (heads_c G_v8').mono ?_
      rintro e w9 ⟨rfl, g9⟩
      go_wp2_with fail
      go_ret
      exact ⟨rfl, g9⟩
    · skip
      obtain rfl : b = 2 := by
        rw [← HBV.out]
        try simp only [decide_eq_true_eq, decide_eq_false_iff_not] at *
        unfold bestV
        repeat' (first | rfl | split)
        all_goals omega
      rw [rounds_succ]
      go_upto_region 7 with fail
      have q : bits .and .i64 4 2 = 0 := by decide
      have z1 := fun z : Over w2 => k2.overCell 1 _ rfl z
      have z3 := fun z : Over w2 => k2.overCell 3 _ rfl z
      have z0 := fun z : Over w2 => k2.overCell 0 _ rfl z
      have z4 := fun z : Over w2 => k2.overCell 4 _ rfl z
      have zE := fun z : Over w2 => ((gcell (G2.trans z.g)).1 bE _ lE).trans cE
      have zT := fun z : Over w2 => ((gcell (G2.trans z.g)).1 bT _ lT).trans cT
      have zP := fun z : Over w2 => ((gcell (G2.trans z.g)).1 bP (oP + 1) lP).trans cP1
      have hto := HTO.out
      refine region_over (by kernel_rfl) (by kernel_rfl) ?_
      repeat (first | go_big_quiet_step (fail) | quiet_step (fail))
      refine wpQuiet_nil ?_
      intro z
      have G_v9 := G2.trans z.g
      have k_v9 := k2.over z
      clear q z1 z3 z0 z4 zE zT zP hto
      generalize z.w = v9 at *
      go_upto_region 8 with fail
      have z0 := fun z : Over v9 => k_v9.overCell 0 _ rfl z
      have zA := fun z : Over v9 => ((gcell (G_v9.trans z.g)).1 bP (oP + 1) lP).trans cP1
      have zB := fun z : Over v9 => ((gcell (G_v9.trans z.g)).1 bP (oP + 2) lP).trans cP2
      refine region_over (by kernel_rfl) (by kernel_rfl) ?_
      repeat (first | go_big_quiet_step (fail) | quiet_step (fail))
      refine wpQuiet_nil ?_
      intro z
      have G_v9' := G_v9.trans z.g
      have k_v9' := k_v9.over z
      clear z0 zA zB
      generalize z.w = v9' at *
      go_wp2_with fail
      rw [rounds_succ]
      go_upto_region 7 with fail
      have q : bits .and .i64 4 4 = 4 := by decide
      have z1 := fun z : Over v9' => k_v9'.overCell 1 _ rfl z
      have z3 := fun z : Over v9' => k_v9'.overCell 3 _ rfl z
      have z0 := fun z : Over v9' => k_v9'.overCell 0 _ rfl z
      have z4 := fun z : Over v9' => k_v9'.overCell 4 _ rfl z
      have zE := fun z : Over v9' => ((gcell (G_v9'.trans z.g)).1 bE _ lE).trans cE
      have zT := fun z : Over v9' => ((gcell (G_v9'.trans z.g)).1 bT _ lT).trans cT
      have zP := fun z : Over v9' => ((gcell (G_v9'.trans z.g)).1 bP (oP + 2) lP).trans cP2
      have hto := HTO.out
      refine region_over (by kernel_rfl) (by kernel_rfl) ?_
      repeat (first | go_big_quiet_step (fail) | quiet_step (fail))
      refine wpQuiet_nil ?_
      intro z
      have G_v10 := G_v9'.trans z.g
      have k_v10 := k_v9'.over z
      clear q z1 z3 z0 z4 zE zT zP hto
      generalize z.w = v10 at *
      go_upto_region 8 with fail
      have z0 := fun z : Over v10 => k_v10.overCell 0 _ rfl z
      have zA := fun z : Over v10 => ((gcell (G_v10.trans z.g)).1 bP (oP + 1) lP).trans cP1
      have zB := fun z : Over v10 => ((gcell (G_v10.trans z.g)).1 bP (oP + 2) lP).trans cP2
      refine region_over (by kernel_rfl) (by kernel_rfl) ?_
      repeat (first | go_big_quiet_step (fail) | quiet_step (fail))
      refine wpQuiet_nil ?_
      intro z
      have G_v10' := G_v10.trans z.g
      have k_v10' := k_v10.over z
      clear z0 zA zB
      generalize z.w = v10' at *
      go_wp2_with fail
      rw [rounds_succ]
      go_wp2_with fail
      refine (heads_c G_v10').mono ?_
      rintro e w9 ⟨rfl, g9⟩
      go_wp2_with fail
      go_ret
      exact ⟨rfl, g9⟩
  · skip
    cases hd1 : decide (t < p1)
    · skip
      cases hd2 : decide (t < p2)
      · skip
        obtain rfl : b = 0 := by
          rw [← HBV.out]
          try simp only [decide_eq_true_eq, decide_eq_false_iff_not] at *
          unfold bestV
          repeat' (first | rfl | split)
          all_goals omega
        rw [rounds_succ]
        go_upto_region 7 with fail
        have q : bits .and .i64 6 2 = 2 := by decide
        have z1 := fun z : Over w2 => k2.overCell 1 _ rfl z
        have z3 := fun z : Over w2 => k2.overCell 3 _ rfl z
        have z0 := fun z : Over w2 => k2.overCell 0 _ rfl z
        have z4 := fun z : Over w2 => k2.overCell 4 _ rfl z
        have zE := fun z : Over w2 => ((gcell (G2.trans z.g)).1 bE _ lE).trans cE
        have zT := fun z : Over w2 => ((gcell (G2.trans z.g)).1 bT _ lT).trans cT
        have zP := fun z : Over w2 => ((gcell (G2.trans z.g)).1 bP (oP + 1) lP).trans cP1
        have hto := HTO.out
        refine region_over (by kernel_rfl) (by kernel_rfl) ?_
        repeat (first | go_big_quiet_step (fail) | quiet_step (fail))
        refine wpQuiet_nil ?_
        intro z
        have G_v11 := G2.trans z.g
        have k_v11 := k2.over z
        clear q z1 z3 z0 z4 zE zT zP hto
        generalize z.w = v11 at *
        go_upto_region 8 with fail
        have z0 := fun z : Over v11 => k_v11.overCell 0 _ rfl z
        have zA := fun z : Over v11 => ((gcell (G_v11.trans z.g)).1 bP (oP + 1) lP).trans cP1
        have zB := fun z : Over v11 => ((gcell (G_v11.trans z.g)).1 bP (oP + 2) lP).trans cP2
        refine region_over (by kernel_rfl) (by kernel_rfl) ?_
        repeat (first | go_big_quiet_step (fail) | quiet_step (fail))
        refine wpQuiet_nil ?_
        intro z
        have G_v11' := G_v11.trans z.g
        have k_v11' := k_v11.over z
        clear z0 zA zB
        generalize z.w = v11' at *
        go_wp2_with fail
        rw [rounds_succ]
        go_upto_region 7 with fail
        have q : bits .and .i64 6 4 = 4 := by decide
        have z1 := fun z : Over v11' => k_v11'.overCell 1 _ rfl z
        have z3 := fun z : Over v11' => k_v11'.overCell 3 _ rfl z
        have z0 := fun z : Over v11' => k_v11'.overCell 0 _ rfl z
        have z4 := fun z : Over v11' => k_v11'.overCell 4 _ rfl z
        have zE := fun z : Over v11' => ((gcell (G_v11'.trans z.g)).1 bE _ lE).trans cE
        have zT := fun z : Over v11' => ((gcell (G_v11'.trans z.g)).1 bT _ lT).trans cT
        have zP := fun z : Over v11' => ((gcell (G_v11'.trans z.g)).1 bP (oP + 2) lP).trans cP2
        have hto := HTO.out
        refine region_over (by kernel_rfl) (by kernel_rfl) ?_
        repeat (first | go_big_quiet_step (fail) | quiet_step (fail))
        refine wpQuiet_nil ?_
        intro z
        have G_v12 := G_v11'.trans z.g
        have k_v12 := k_v11'.over z
        clear q z1 z3 z0 z4 zE zT zP hto
        generalize z.w = v12 at *
        go_upto_region 8 with fail
        have z0 := fun z : Over v12 => k_v12.overCell 0 _ rfl z
        have zA := fun z : Over v12 => ((gcell (G_v12.trans z.g)).1 bP (oP + 1) lP).trans cP1
        have zB := fun z : Over v12 => ((gcell (G_v12.trans z.g)).1 bP (oP + 2) lP).trans cP2
        refine region_over (by kernel_rfl) (by kernel_rfl) ?_
        repeat (first | go_big_quiet_step (fail) | quiet_step (fail))
        refine wpQuiet_nil ?_
        intro z
        have G_v12' := G_v12.trans z.g
        have k_v12' := k_v12.over z
        clear z0 zA zB
        generalize z.w = v12' at *
        go_wp2_with fail
        rw [rounds_succ]
        go_wp2_with fail
        refine (heads_c G_v12').mono ?_
        rintro e w9 ⟨rfl, g9⟩
        go_wp2_with fail
        go_ret
        exact ⟨rfl, g9⟩
      · skip
        obtain rfl : b = 2 := by
          rw [← HBV.out]
          try simp only [decide_eq_true_eq, decide_eq_false_iff_not] at *
          unfold bestV
          repeat' (first | rfl | split)
          all_goals omega
        rw [rounds_succ]
        go_upto_region 7 with fail
        have q : bits .and .i64 6 2 = 2 := by decide
        have z1 := fun z : Over w2 => k2.overCell 1 _ rfl z
        have z3 := fun z : Over w2 => k2.overCell 3 _ rfl z
        have z0 := fun z : Over w2 => k2.overCell 0 _ rfl z
        have z4 := fun z : Over w2 => k2.overCell 4 _ rfl z
        have zE := fun z : Over w2 => ((gcell (G2.trans z.g)).1 bE _ lE).trans cE
        have zT := fun z : Over w2 => ((gcell (G2.trans z.g)).1 bT _ lT).trans cT
        have zP := fun z : Over w2 => ((gcell (G2.trans z.g)).1 bP (oP + 1) lP).trans cP1
        have hto := HTO.out
        refine region_over (by kernel_rfl) (by kernel_rfl) ?_
        repeat (first | go_big_quiet_step (fail) | quiet_step (fail))
        refine wpQuiet_nil ?_
        intro z
        have G_v13 := G2.trans z.g
        have k_v13 := k2.over z
        clear q z1 z3 z0 z4 zE zT zP hto
        generalize z.w = v13 at *
        go_upto_region 8 with fail
        have z0 := fun z : Over v13 => k_v13.overCell 0 _ rfl z
        have zA := fun z : Over v13 => ((gcell (G_v13.trans z.g)).1 bP (oP + 1) lP).trans cP1
        have zB := fun z : Over v13 => ((gcell (G_v13.trans z.g)).1 bP (oP + 2) lP).trans cP2
        refine region_over (by kernel_rfl) (by kernel_rfl) ?_
        repeat (first | go_big_quiet_step (fail) | quiet_step (fail))
        refine wpQuiet_nil ?_
        intro z
        have G_v13' := G_v13.trans z.g
        have k_v13' := k_v13.over z
        clear z0 zA zB
        generalize z.w = v13' at *
        go_wp2_with fail
        rw [rounds_succ]
        go_upto_region 7 with fail
        have q : bits .and .i64 6 4 = 4 := by decide
        have z1 := fun z : Over v13' => k_v13'.overCell 1 _ rfl z
        have z3 := fun z : Over v13' => k_v13'.overCell 3 _ rfl z
        have z0 := fun z : Over v13' => k_v13'.overCell 0 _ rfl z
        have z4 := fun z : Over v13' => k_v13'.overCell 4 _ rfl z
        have zE := fun z : Over v13' => ((gcell (G_v13'.trans z.g)).1 bE _ lE).trans cE
        have zT := fun z : Over v13' => ((gcell (G_v13'.trans z.g)).1 bT _ lT).trans cT
        have zP := fun z : Over v13' => ((gcell (G_v13'.trans z.g)).1 bP (oP + 2) lP).trans cP2
        have hto := HTO.out
        refine region_over (by kernel_rfl) (by kernel_rfl) ?_
        repeat (first | go_big_quiet_step (fail) | quiet_step (fail))
        refine wpQuiet_nil ?_
        intro z
        have G_v14 := G_v13'.trans z.g
        have k_v14 := k_v13'.over z
        clear q z1 z3 z0 z4 zE zT zP hto
        generalize z.w = v14 at *
        go_upto_region 8 with fail
        have z0 := fun z : Over v14 => k_v14.overCell 0 _ rfl z
        have zA := fun z : Over v14 => ((gcell (G_v14.trans z.g)).1 bP (oP + 1) lP).trans cP1
        have zB := fun z : Over v14 => ((gcell (G_v14.trans z.g)).1 bP (oP + 2) lP).trans cP2
        refine region_over (by kernel_rfl) (by kernel_rfl) ?_
        repeat (first | go_big_quiet_step (fail) | quiet_step (fail))
        refine wpQuiet_nil ?_
        intro z
        have G_v14' := G_v14.trans z.g
        have k_v14' := k_v14.over z
        clear z0 zA zB
        generalize z.w = v14' at *
        go_wp2_with fail
        rw [rounds_succ]
        go_wp2_with fail
        refine (heads_c G_v14').mono ?_
        rintro e w9 ⟨rfl, g9⟩
        go_wp2_with fail
        go_ret
        exact ⟨rfl, g9⟩
    · skip
      cases hd2 : decide (t < p2)
      · skip
        obtain rfl : b = 1 := by
          rw [← HBV.out]
          try simp only [decide_eq_true_eq, decide_eq_false_iff_not] at *
          unfold bestV
          repeat' (first | rfl | split)
          all_goals omega
        rw [rounds_succ]
        go_upto_region 7 with fail
        have q : bits .and .i64 6 2 = 2 := by decide
        have z1 := fun z : Over w2 => k2.overCell 1 _ rfl z
        have z3 := fun z : Over w2 => k2.overCell 3 _ rfl z
        have z0 := fun z : Over w2 => k2.overCell 0 _ rfl z
        have z4 := fun z : Over w2 => k2.overCell 4 _ rfl z
        have zE := fun z : Over w2 => ((gcell (G2.trans z.g)).1 bE _ lE).trans cE
        have zT := fun z : Over w2 => ((gcell (G2.trans z.g)).1 bT _ lT).trans cT
        have zP := fun z : Over w2 => ((gcell (G2.trans z.g)).1 bP (oP + 1) lP).trans cP1
        have hto := HTO.out
        refine region_over (by kernel_rfl) (by kernel_rfl) ?_
        repeat (first | go_big_quiet_step (fail) | quiet_step (fail))
        refine wpQuiet_nil ?_
        intro z
        have G_v15 := G2.trans z.g
        have k_v15 := k2.over z
        clear q z1 z3 z0 z4 zE zT zP hto
        generalize z.w = v15 at *
        go_upto_region 8 with fail
        have z0 := fun z : Over v15 => k_v15.overCell 0 _ rfl z
        have zA := fun z : Over v15 => ((gcell (G_v15.trans z.g)).1 bP (oP + 1) lP).trans cP1
        have zB := fun z : Over v15 => ((gcell (G_v15.trans z.g)).1 bP (oP + 2) lP).trans cP2
        refine region_over (by kernel_rfl) (by kernel_rfl) ?_
        repeat (first | go_big_quiet_step (fail) | quiet_step (fail))
        refine wpQuiet_nil ?_
        intro z
        have G_v15' := G_v15.trans z.g
        have k_v15' := k_v15.over z
        clear z0 zA zB
        generalize z.w = v15' at *
        go_wp2_with fail
        rw [rounds_succ]
        go_upto_region 7 with fail
        have q : bits .and .i64 6 4 = 4 := by decide
        have z1 := fun z : Over v15' => k_v15'.overCell 1 _ rfl z
        have z3 := fun z : Over v15' => k_v15'.overCell 3 _ rfl z
        have z0 := fun z : Over v15' => k_v15'.overCell 0 _ rfl z
        have z4 := fun z : Over v15' => k_v15'.overCell 4 _ rfl z
        have zE := fun z : Over v15' => ((gcell (G_v15'.trans z.g)).1 bE _ lE).trans cE
        have zT := fun z : Over v15' => ((gcell (G_v15'.trans z.g)).1 bT _ lT).trans cT
        have zP := fun z : Over v15' => ((gcell (G_v15'.trans z.g)).1 bP (oP + 2) lP).trans cP2
        have hto := HTO.out
        refine region_over (by kernel_rfl) (by kernel_rfl) ?_
        repeat (first | go_big_quiet_step (fail) | quiet_step (fail))
        refine wpQuiet_nil ?_
        intro z
        have G_v16 := G_v15'.trans z.g
        have k_v16 := k_v15'.over z
        clear q z1 z3 z0 z4 zE zT zP hto
        generalize z.w = v16 at *
        go_upto_region 8 with fail
        have z0 := fun z : Over v16 => k_v16.overCell 0 _ rfl z
        have zA := fun z : Over v16 => ((gcell (G_v16.trans z.g)).1 bP (oP + 1) lP).trans cP1
        have zB := fun z : Over v16 => ((gcell (G_v16.trans z.g)).1 bP (oP + 2) lP).trans cP2
        refine region_over (by kernel_rfl) (by kernel_rfl) ?_
        repeat (first | go_big_quiet_step (fail) | quiet_step (fail))
        refine wpQuiet_nil ?_
        intro z
        have G_v16' := G_v16.trans z.g
        have k_v16' := k_v16.over z
        clear z0 zA zB
        generalize z.w = v16' at *
        go_wp2_with fail
        rw [rounds_succ]
        go_wp2_with fail
        refine (heads_c G_v16').mono ?_
        rintro e w9 ⟨rfl, g9⟩
        go_wp2_with fail
        go_ret
        exact ⟨rfl, g9⟩
      · skip
        rcases Int.lt_trichotomy p1 p2 with hlt | heq | hgt
        · have e1 : decide (p1 < p2) = true := by simpa using hlt
          have e2 : decide (p2 < p1) = false := by simp; omega
          have e3 : (p2 == p1) = false := by simp; omega
          have e4 : (p1 == p2) = false := by simp; omega
          obtain rfl : b = 2 := by
            rw [← HBV.out]
            try simp only [decide_eq_true_eq, decide_eq_false_iff_not] at *
            unfold bestV
            repeat' (first | rfl | split)
            all_goals omega
          rw [rounds_succ]
          go_upto_region 7 with fail
          have q : bits .and .i64 6 2 = 2 := by decide
          have z1 := fun z : Over w2 => k2.overCell 1 _ rfl z
          have z3 := fun z : Over w2 => k2.overCell 3 _ rfl z
          have z0 := fun z : Over w2 => k2.overCell 0 _ rfl z
          have z4 := fun z : Over w2 => k2.overCell 4 _ rfl z
          have zE := fun z : Over w2 => ((gcell (G2.trans z.g)).1 bE _ lE).trans cE
          have zT := fun z : Over w2 => ((gcell (G2.trans z.g)).1 bT _ lT).trans cT
          have zP := fun z : Over w2 => ((gcell (G2.trans z.g)).1 bP (oP + 1) lP).trans cP1
          have hto := HTO.out
          refine region_over (by kernel_rfl) (by kernel_rfl) ?_
          repeat (first | go_big_quiet_step (fail) | quiet_step (fail))
          refine wpQuiet_nil ?_
          intro z
          have G_v17 := G2.trans z.g
          have k_v17 := k2.over z
          clear q z1 z3 z0 z4 zE zT zP hto
          generalize z.w = v17 at *
          go_upto_region 8 with fail
          have z0 := fun z : Over v17 => k_v17.overCell 0 _ rfl z
          have zA := fun z : Over v17 => ((gcell (G_v17.trans z.g)).1 bP (oP + 1) lP).trans cP1
          have zB := fun z : Over v17 => ((gcell (G_v17.trans z.g)).1 bP (oP + 2) lP).trans cP2
          refine region_over (by kernel_rfl) (by kernel_rfl) ?_
          repeat (first | go_big_quiet_step (fail) | quiet_step (fail))
          refine wpQuiet_nil ?_
          intro z
          have G_v17' := G_v17.trans z.g
          have k_v17' := k_v17.over z
          clear z0 zA zB
          generalize z.w = v17' at *
          go_wp2_with fail
          rw [rounds_succ]
          go_upto_region 7 with fail
          have q : bits .and .i64 6 4 = 4 := by decide
          have z1 := fun z : Over v17' => k_v17'.overCell 1 _ rfl z
          have z3 := fun z : Over v17' => k_v17'.overCell 3 _ rfl z
          have z0 := fun z : Over v17' => k_v17'.overCell 0 _ rfl z
          have z4 := fun z : Over v17' => k_v17'.overCell 4 _ rfl z
          have zE := fun z : Over v17' => ((gcell (G_v17'.trans z.g)).1 bE _ lE).trans cE
          have zT := fun z : Over v17' => ((gcell (G_v17'.trans z.g)).1 bT _ lT).trans cT
          have zP := fun z : Over v17' => ((gcell (G_v17'.trans z.g)).1 bP (oP + 2) lP).trans cP2
          have hto := HTO.out
          refine region_over (by kernel_rfl) (by kernel_rfl) ?_
          repeat (first | go_big_quiet_step (fail) | quiet_step (fail))
          refine wpQuiet_nil ?_
          intro z
          have G_v18 := G_v17'.trans z.g
          have k_v18 := k_v17'.over z
          clear q z1 z3 z0 z4 zE zT zP hto
          generalize z.w = v18 at *
          go_upto_region 8 with fail
          have z0 := fun z : Over v18 => k_v18.overCell 0 _ rfl z
          have zA := fun z : Over v18 => ((gcell (G_v18.trans z.g)).1 bP (oP + 1) lP).trans cP1
          have zB := fun z : Over v18 => ((gcell (G_v18.trans z.g)).1 bP (oP + 2) lP).trans cP2
          refine region_over (by kernel_rfl) (by kernel_rfl) ?_
          repeat (first | go_big_quiet_step (fail) | quiet_step (fail))
          refine wpQuiet_nil ?_
          intro z
          have G_v18' := G_v18.trans z.g
          have k_v18' := k_v18.over z
          clear z0 zA zB
          generalize z.w = v18' at *
          go_wp2_with fail
          rw [rounds_succ]
          go_wp2_with fail
          refine (heads_c G_v18').mono ?_
          rintro e w9 ⟨rfl, g9⟩
          go_wp2_with fail
          go_ret
          exact ⟨rfl, g9⟩
        · subst heq
          obtain rfl : b = 1 := by
            rw [← HBV.out]
            try simp only [decide_eq_true_eq, decide_eq_false_iff_not] at *
            unfold bestV
            repeat' (first | rfl | split)
            all_goals omega
          rw [rounds_succ]
          go_upto_region 7 with fail
          have q : bits .and .i64 6 2 = 2 := by decide
          have z1 := fun z : Over w2 => k2.overCell 1 _ rfl z
          have z3 := fun z : Over w2 => k2.overCell 3 _ rfl z
          have z0 := fun z : Over w2 => k2.overCell 0 _ rfl z
          have z4 := fun z : Over w2 => k2.overCell 4 _ rfl z
          have zE := fun z : Over w2 => ((gcell (G2.trans z.g)).1 bE _ lE).trans cE
          have zT := fun z : Over w2 => ((gcell (G2.trans z.g)).1 bT _ lT).trans cT
          have zP := fun z : Over w2 => ((gcell (G2.trans z.g)).1 bP (oP + 1) lP).trans cP1
          have hto := HTO.out
          refine region_over (by kernel_rfl) (by kernel_rfl) ?_
          repeat (first | go_big_quiet_step (fail) | quiet_step (fail))
          refine wpQuiet_nil ?_
          intro z
          have G_v19 := G2.trans z.g
          have k_v19 := k2.over z
          clear q z1 z3 z0 z4 zE zT zP hto
          generalize z.w = v19 at *
          go_upto_region 8 with fail
          have z0 := fun z : Over v19 => k_v19.overCell 0 _ rfl z
          have zA := fun z : Over v19 => ((gcell (G_v19.trans z.g)).1 bP (oP + 1) lP).trans cP1
          have zB := fun z : Over v19 => ((gcell (G_v19.trans z.g)).1 bP (oP + 2) lP).trans cP2
          refine region_over (by kernel_rfl) (by kernel_rfl) ?_
          repeat (first | go_big_quiet_step (fail) | quiet_step (fail))
          refine wpQuiet_nil ?_
          intro z
          have G_v19' := G_v19.trans z.g
          have k_v19' := k_v19.over z
          clear z0 zA zB
          generalize z.w = v19' at *
          go_wp2_with fail
          rw [rounds_succ]
          go_upto_region 7 with fail
          have q : bits .and .i64 6 4 = 4 := by decide
          have z1 := fun z : Over v19' => k_v19'.overCell 1 _ rfl z
          have z3 := fun z : Over v19' => k_v19'.overCell 3 _ rfl z
          have z0 := fun z : Over v19' => k_v19'.overCell 0 _ rfl z
          have z4 := fun z : Over v19' => k_v19'.overCell 4 _ rfl z
          have zE := fun z : Over v19' => ((gcell (G_v19'.trans z.g)).1 bE _ lE).trans cE
          have zT := fun z : Over v19' => ((gcell (G_v19'.trans z.g)).1 bT _ lT).trans cT
          have zP := fun z : Over v19' => ((gcell (G_v19'.trans z.g)).1 bP (oP + 2) lP).trans cP2
          have hto := HTO.out
          refine region_over (by kernel_rfl) (by kernel_rfl) ?_
          repeat (first | go_big_quiet_step (fail) | quiet_step (fail))
          refine wpQuiet_nil ?_
          intro z
          have G_v20 := G_v19'.trans z.g
          have k_v20 := k_v19'.over z
          clear q z1 z3 z0 z4 zE zT zP hto
          generalize z.w = v20 at *
          go_upto_region 8 with fail
          have z0 := fun z : Over v20 => k_v20.overCell 0 _ rfl z
          have zA := fun z : Over v20 => ((gcell (G_v20.trans z.g)).1 bP (oP + 1) lP).trans cP1
          have zB := fun z : Over v20 => ((gcell (G_v20.trans z.g)).1 bP (oP + 2) lP).trans cP2
          refine region_over (by kernel_rfl) (by kernel_rfl) ?_
          repeat (first | go_big_quiet_step (fail) | quiet_step (fail))
          refine wpQuiet_nil ?_
          intro z
          have G_v20' := G_v20.trans z.g
          have k_v20' := k_v20.over z
          clear z0 zA zB
          generalize z.w = v20' at *
          go_wp2_with fail
          rw [rounds_succ]
          go_wp2_with fail
          refine (heads_c G_v20').mono ?_
          rintro e w9 ⟨rfl, g9⟩
          go_wp2_with fail
          go_ret
          exact ⟨rfl, g9⟩
        · have e1 : decide (p1 < p2) = false := by simp; omega
          have e2 : decide (p2 < p1) = true := by simpa using hgt
          have e3 : (p2 == p1) = false := by simp; omega
          have e4 : (p1 == p2) = false := by simp; omega
          obtain rfl : b = 1 := by
            rw [← HBV.out]
            try simp only [decide_eq_true_eq, decide_eq_false_iff_not] at *
            unfold bestV
            repeat' (first | rfl | split)
            all_goals omega
          rw [rounds_succ]
          go_upto_region 7 with fail
          have q : bits .and .i64 6 2 = 2 := by decide
          have z1 := fun z : Over w2 => k2.overCell 1 _ rfl z
          have z3 := fun z : Over w2 => k2.overCell 3 _ rfl z
          have z0 := fun z : Over w2 => k2.overCell 0 _ rfl z
          have z4 := fun z : Over w2 => k2.overCell 4 _ rfl z
          have zE := fun z : Over w2 => ((gcell (G2.trans z.g)).1 bE _ lE).trans cE
          have zT := fun z : Over w2 => ((gcell (G2.trans z.g)).1 bT _ lT).trans cT
          have zP := fun z : Over w2 => ((gcell (G2.trans z.g)).1 bP (oP + 1) lP).trans cP1
          have hto := HTO.out
          refine region_over (by kernel_rfl) (by kernel_rfl) ?_
          repeat (first | go_big_quiet_step (fail) | quiet_step (fail))
          refine wpQuiet_nil ?_
          intro z
          have G_v21 := G2.trans z.g
          have k_v21 := k2.over z
          clear q z1 z3 z0 z4 zE zT zP hto
          generalize z.w = v21 at *
          go_upto_region 8 with fail
          have z0 := fun z : Over v21 => k_v21.overCell 0 _ rfl z
          have zA := fun z : Over v21 => ((gcell (G_v21.trans z.g)).1 bP (oP + 1) lP).trans cP1
          have zB := fun z : Over v21 => ((gcell (G_v21.trans z.g)).1 bP (oP + 2) lP).trans cP2
          refine region_over (by kernel_rfl) (by kernel_rfl) ?_
          repeat (first | go_big_quiet_step (fail) | quiet_step (fail))
          refine wpQuiet_nil ?_
          intro z
          have G_v21' := G_v21.trans z.g
          have k_v21' := k_v21.over z
          clear z0 zA zB
          generalize z.w = v21' at *
          go_wp2_with fail
          rw [rounds_succ]
          go_upto_region 7 with fail
          have q : bits .and .i64 6 4 = 4 := by decide
          have z1 := fun z : Over v21' => k_v21'.overCell 1 _ rfl z
          have z3 := fun z : Over v21' => k_v21'.overCell 3 _ rfl z
          have z0 := fun z : Over v21' => k_v21'.overCell 0 _ rfl z
          have z4 := fun z : Over v21' => k_v21'.overCell 4 _ rfl z
          have zE := fun z : Over v21' => ((gcell (G_v21'.trans z.g)).1 bE _ lE).trans cE
          have zT := fun z : Over v21' => ((gcell (G_v21'.trans z.g)).1 bT _ lT).trans cT
          have zP := fun z : Over v21' => ((gcell (G_v21'.trans z.g)).1 bP (oP + 2) lP).trans cP2
          have hto := HTO.out
          refine region_over (by kernel_rfl) (by kernel_rfl) ?_
          repeat (first | go_big_quiet_step (fail) | quiet_step (fail))
          refine wpQuiet_nil ?_
          intro z
          have G_v22 := G_v21'.trans z.g
          have k_v22 := k_v21'.over z
          clear q z1 z3 z0 z4 zE zT zP hto
          generalize z.w = v22 at *
          go_upto_region 8 with fail
          have z0 := fun z : Over v22 => k_v22.overCell 0 _ rfl z
          have zA := fun z : Over v22 => ((gcell (G_v22.trans z.g)).1 bP (oP + 1) lP).trans cP1
          have zB := fun z : Over v22 => ((gcell (G_v22.trans z.g)).1 bP (oP + 2) lP).trans cP2
          refine region_over (by kernel_rfl) (by kernel_rfl) ?_
          repeat (first | go_big_quiet_step (fail) | quiet_step (fail))
          refine wpQuiet_nil ?_
          intro z
          have G_v22' := G_v22.trans z.g
          have k_v22' := k_v22.over z
          clear z0 zA zB
          generalize z.w = v22' at *
          go_wp2_with fail
          rw [rounds_succ]
          go_wp2_with fail
          refine (heads_c G_v22').mono ?_
          rintro e w9 ⟨rfl, g9⟩
          go_wp2_with fail
          go_ret
          exact ⟨rfl, g9⟩

theorem walk (s : PS) (a1 : Option Addr) (a2 : Nat) (a3 : Option Addr) (a4 : Nat) (a5 : Option Addr) (a6 : Nat) (x : Int) (_hx : -9223372036854775808 ≤ x ∧ x ≤ 9223372036854775807) (W : World) (hP : Pl W (plV s a1 a2 a3 a4 a5 a6) s) (_hf : s.Fits) :
    Calls Try.prog 6 #[plV s a1 a2 a3 a4 a5 a6, .int .i64 x] W fun e w' => e = .returned (.bool true) ∧ Below W.heap.size W w' := by
  by_cases h : chk s = false ∨ x < 0 ∨ 1 < x
  · exact walk_no s a1 a2 a3 a4 a5 a6 x W h hP (check_a rfl) (best_a (by unfold bestS; rw [if_neg]; rintro ⟨h1, h2⟩; rw [h1] at h; simp at h; omega))
  · have hc : chk s = true := by
      cases hc : chk s
      · exact absurd (.inl hc) h
      · rfl
    obtain ⟨z, rfl⟩ : ∃ z : Nat, x = (z : Int) := Int.eq_ofNat_of_zero_le (by omega)
    obtain ⟨y, hy, rfl⟩ := hP.vs hc
    exact walk_at y hy _ z (by omega) W hP (best_a (by unfold bestS; rw [if_pos ⟨hc, by omega⟩]; rfl))
set_option maxRecDepth 100000 in
theorem lifted (os : Os) (started : os.Started) (H : Type) (enc : TypeId × Value → H) :
    ReturnsInHanded {} Try.checked os 6 .any (Rows.plicBestSpec.pre6 enc Try.prog Try.f6 Rows.plicBestRow.domain false) (Rows.plicBestSpec.post enc Try.prog Try.f6 false true false false) := by
  refine returnsInHanded_of_change_sized (C := Try.checked) own started (by kernel_rfl) Try.func6
    (ChangeSpec.witness6 (enc := enc) (C := Try.checked) false ⟨#[], #[.agg #[.slice none 0 0, .int .i64 0, .int .i64 0, .slice none 0 0, .slice none 0 0], .int .i64 0], []⟩ 8 (by kernel_rfl) (by kernel_rfl) (by kernel_rfl) (by kernel_rfl)) ?_
  intro W base args ds gs before hval0 hW _ hz0 _
  have hval : ∀ (j : Nat) t v, Try.f6.params[j]? = some t → args[j]? = some v → Value.okWide Try.prog W .any base t v := hval0
  have hW' := hW
  obtain ⟨p, q, hA0, hV, rfl, hfz, hnd⟩ := hW
  have hA : DataW.TrodAll enc Try.prog W 0 (fun _ => true) true Try.f6.params.toList args.toList ds p := hA0
  rw [Try.params6] at hA hval
  obtain ⟨v0, vs0, d0, ds0, p0, q0, hargs, rfl, rfl, h0, r'0⟩ := trodAll_cons hA
  obtain ⟨v1, vs1, d1, ds1, p1, q1, rfl, rfl, rfl, h1, r'1⟩ := trodAll_cons r'0
  obtain ⟨rfl, rfl, rfl⟩ := trodAll_nil r'1
  obtain rfl : args = #[v0, v1] := by cases args; simp_all
  obtain ⟨s0, pa0, pc0, qa0, qc0, ra0, rc0, rfl, k0, f0⟩ := open_plic (hval 0 24 v0 rfl rfl) h0
  have fits0 := f0 (fun m hm => by simpa using List.all_eq_true.1 hz0 _ (DataW.weights_mem_each (j := 0) (t := 24) rfl rfl m hm))
  obtain ⟨a1, rfl, rfl, rfl, w1⟩ := open_int Try.underlying3 (hval 1 3 v1 rfl rfl) h1
  refine (walk s0 pa0 pc0 qa0 qc0 ra0 rc0 a1 (wf_i64 w1) W k0 fits0).mono fun e W' ⟨he, hb⟩ => ?_
  subst he
  exact ⟨_, rfl, law_post hW' rfl rfl laid (by kernel_rfl) rfl Try.underlying4 hb⟩

theorem over : Rows.plicBestRow.holds Try.pinned (OpenSpec.ofChange Rows.plicBestSpec) :=
  OpenClaim.holds_of_wide 6 Try.f6 rfl rfl rfl rfl rfl rfl rfl ⟨rfl, rfl, rfl, rfl, rfl⟩ rfl rfl rfl rfl rfl (by kernel_rfl) Try.func6 (by kernel_rfl)
    (of_decide_eq_true (by kernel_rfl)) (by unfold Func.isWrapper; first | (rw [if_pos (by decide +kernel)]; kernel_rfl) | (rw [if_neg (by decide +kernel)]; exact ⟨rfl, rfl⟩))
    (fun os started H enc _ => lifted os started H enc)

theorem proved : Rows.PlicBestSaid := over
#print axioms proved
end Go.Proofs.Ytpanecflmoebiaa.plicBest
