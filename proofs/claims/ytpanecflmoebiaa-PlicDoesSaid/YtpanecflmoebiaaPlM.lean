/-
  The document's own Check, Best.
-/
import Derived.Test.YtpanecflmoebiaaPlL
set_option linter.unusedVariables false
set_option linter.unusedSimpArgs false
namespace Go.Proofs.Ytpanecflmoebiaa
open Go.RowKit

set_option maxHeartbeats 4000000 in
theorem refCheck_c {v : Value} {s : PS} {W w : World} (g : Grew W w) (hv : Pl w v s) :
    Calls Try.prog 18 #[v] w fun e w' => e = .returned (.bool (chk s)) ∧ Grew W w' := by
  obtain ⟨vP, vE, vT, rfl, h1, h2, h3⟩ := hv.shape
  obtain ⟨pr, n, k, en, th⟩ := s
  simp only at h1 h2 h3
  have HP := Lib.hid h1
  have HE := Lib.hid h2
  have HT := Lib.hid h3
  have l1 := h1.len
  have l2 := h2.len
  have l3 := h3.len
  unfold maxLen at l1 l2 l3
  obtain ⟨aP, cP, rfl, _, _⟩ := h1.shape
  obtain ⟨aE, cE, rfl, _, _⟩ := h2.shape
  obtain ⟨aT, cT, rfl, _, _⟩ := h3.shape
  clear h1 h2 h3 hv
  by_cases hl1 : pr.length = 3
  case neg =>
    have q1 : ((pr.length : Int) != 3) = true := by simp; omega
    rw [show chk ⟨pr, n, k, en, th⟩ = false by simp [chk, hl1]]
    go_enter Try.func18, Try.ntmps18
    go_upto_region 1 with fail
    have k0 : Blk (w.alloc (.cells #[.slice aP pr.length cP, .int .i64 n, .int .i64 k, .slice aE en.length cE, .slice aT th.length cT] 24)) w.heap.size #[.slice aP pr.length cP, .int .i64 n, .int .i64 k, .slice aE en.length cE, .slice aT th.length cT] 24 := Blk.new _ _ _ _ rfl
    have g0 : Grew w (w.alloc (.cells #[.slice aP pr.length cP, .int .i64 n, .int .i64 k, .slice aE en.length cE, .slice aT th.length cT] 24)) := (Grew.refl w).alloc _
    generalize (w.alloc (.cells #[.slice aP pr.length cP, .int .i64 n, .int .i64 k, .slice aE en.length cE, .slice aT th.length cT] 24)) = w0 at *
    generalize w.heap.size = D at *
    have y0 := k0.cell 0
    have y1 := k0.cell 1
    have y2 := k0.cell 2
    have y3 := k0.cell 3
    have y4 := k0.cell 4
    go_wp2_with fail
    go_ret
    exact ⟨rfl, g.trans g0⟩
  have q1 : ((pr.length : Int) != 3) = false := by simp; omega
  by_cases hl2 : en.length = 2
  case neg =>
    have q2 : ((en.length : Int) != 2) = true := by simp; omega
    rw [show chk ⟨pr, n, k, en, th⟩ = false by simp [chk, hl2]]
    clear hl1
    go_enter Try.func18, Try.ntmps18
    go_upto_region 1 with fail
    have k0 : Blk (w.alloc (.cells #[.slice aP pr.length cP, .int .i64 n, .int .i64 k, .slice aE en.length cE, .slice aT th.length cT] 24)) w.heap.size #[.slice aP pr.length cP, .int .i64 n, .int .i64 k, .slice aE en.length cE, .slice aT th.length cT] 24 := Blk.new _ _ _ _ rfl
    have g0 : Grew w (w.alloc (.cells #[.slice aP pr.length cP, .int .i64 n, .int .i64 k, .slice aE en.length cE, .slice aT th.length cT] 24)) := (Grew.refl w).alloc _
    generalize (w.alloc (.cells #[.slice aP pr.length cP, .int .i64 n, .int .i64 k, .slice aE en.length cE, .slice aT th.length cT] 24)) = w0 at *
    generalize w.heap.size = D at *
    have y0 := k0.cell 0
    have y1 := k0.cell 1
    have y2 := k0.cell 2
    have y3 := k0.cell 3
    have y4 := k0.cell 4
    go_wp2_with fail
    go_ret
    exact ⟨rfl, g.trans g0⟩
  have q2 : ((en.length : Int) != 2) = false := by simp; omega
  by_cases hl3 : th.length = 2
  case neg =>
    have q3 : ((th.length : Int) != 2) = true := by simp; omega
    rw [show chk ⟨pr, n, k, en, th⟩ = false by simp [chk, hl3]]
    clear hl1 hl2
    go_enter Try.func18, Try.ntmps18
    go_upto_region 1 with fail
    have k0 : Blk (w.alloc (.cells #[.slice aP pr.length cP, .int .i64 n, .int .i64 k, .slice aE en.length cE, .slice aT th.length cT] 24)) w.heap.size #[.slice aP pr.length cP, .int .i64 n, .int .i64 k, .slice aE en.length cE, .slice aT th.length cT] 24 := Blk.new _ _ _ _ rfl
    have g0 : Grew w (w.alloc (.cells #[.slice aP pr.length cP, .int .i64 n, .int .i64 k, .slice aE en.length cE, .slice aT th.length cT] 24)) := (Grew.refl w).alloc _
    generalize (w.alloc (.cells #[.slice aP pr.length cP, .int .i64 n, .int .i64 k, .slice aE en.length cE, .slice aT th.length cT] 24)) = w0 at *
    generalize w.heap.size = D at *
    have y0 := k0.cell 0
    have y1 := k0.cell 1
    have y2 := k0.cell 2
    have y3 := k0.cell 3
    have y4 := k0.cell 4
    go_wp2_with fail
    go_ret
    exact ⟨rfl, g.trans g0⟩
  have q3 : ((th.length : Int) != 2) = false := by simp; omega
  clear q1 q2 q3 l1 l2 l3
  obtain ⟨bP, oP, c1, eP, lbP, hP⟩ := HP.out.at (by intro h; rw [h] at hl1; simp at hl1)
  obtain ⟨bE, oE, c2, eE, lbE, hE⟩ := HE.out.at (by intro h; rw [h] at hl2; simp at hl2)
  obtain ⟨bT, oT, c3, eT, lbT, hT⟩ := HT.out.at (by intro h; rw [h] at hl3; simp at hl3)
  simp only [Value.slice.injEq] at eP eE eT
  obtain ⟨e1, _, e2⟩ := eP
  subst e1; subst e2
  obtain ⟨e1, _, e2⟩ := eE
  subst e1; subst e2
  obtain ⟨e1, _, e2⟩ := eT
  subst e1; subst e2
  match pr, hl1 with
  | [p0, p1, p2], _ =>
  match en, hl2 with
  | [e0, e1], _ =>
  match th, hl3 with
  | [x0, x1], _ =>
  have cP0 : w.cell? ⟨bP, oP + 0, none⟩ = some (.int .i64 p0) := hP 0 (by simp)
  have cP1 : w.cell? ⟨bP, oP + 1, none⟩ = some (.int .i64 p1) := hP 1 (by simp)
  have cP2 : w.cell? ⟨bP, oP + 2, none⟩ = some (.int .i64 p2) := hP 2 (by simp)
  have cE0 : w.cell? ⟨bE, oE + 0, none⟩ = some (.int .i64 e0) := hE 0 (by simp)
  have cE1 : w.cell? ⟨bE, oE + 1, none⟩ = some (.int .i64 e1) := hE 1 (by simp)
  have cT0 : w.cell? ⟨bT, oT + 0, none⟩ = some (.int .i64 x0) := hT 0 (by simp)
  have cT1 : w.cell? ⟨bT, oT + 1, none⟩ = some (.int .i64 x1) := hT 1 (by simp)
  simp only [Nat.add_zero] at cP0 cE0 cT0
  clear hP hE hT HP HE HT
  have lbbP := lbP
  have lbbE := lbE
  have lbbT := lbT
  simp only [List.length_cons, List.length_nil, Nat.zero_add, Nat.reduceAdd]
  cases t0 : (p0 != 0)
  case true =>
    rw [show chk ⟨[p0, p1, p2], n, k, [e0, e1], [x0, x1]⟩ = false by (simp only [bne_eq_false_iff_eq, bne_iff_ne, ne_eq, decide_eq_true_eq, decide_eq_false_iff_not, Int.not_lt] at *; simp [chk, lvl, src, *]; try omega)]
    go_enter Try.func18, Try.ntmps18
    go_upto_region 1 with fail
    have k0 : Blk (w.alloc (.cells #[.slice (some ⟨bP, oP, none⟩) 3 cP, .int .i64 n, .int .i64 k, .slice (some ⟨bE, oE, none⟩) 2 cE, .slice (some ⟨bT, oT, none⟩) 2 cT] 24)) w.heap.size #[.slice (some ⟨bP, oP, none⟩) 3 cP, .int .i64 n, .int .i64 k, .slice (some ⟨bE, oE, none⟩) 2 cE, .slice (some ⟨bT, oT, none⟩) 2 cT] 24 := Blk.new _ _ _ _ rfl
    have g0 : Grew w (w.alloc (.cells #[.slice (some ⟨bP, oP, none⟩) 3 cP, .int .i64 n, .int .i64 k, .slice (some ⟨bE, oE, none⟩) 2 cE, .slice (some ⟨bT, oT, none⟩) 2 cT] 24)) := (Grew.refl w).alloc _
    have d0 := ((gcell g0).1 bP _ lbP).trans cP0
    have d1 := ((gcell g0).1 bP _ lbP).trans cP1
    have d2 := ((gcell g0).1 bP _ lbP).trans cP2
    have d3 := ((gcell g0).1 bE _ lbE).trans cE0
    have d4 := ((gcell g0).1 bE _ lbE).trans cE1
    have d5 := ((gcell g0).1 bT _ lbT).trans cT0
    have d6 := ((gcell g0).1 bT _ lbT).trans cT1
    generalize (w.alloc (.cells #[.slice (some ⟨bP, oP, none⟩) 3 cP, .int .i64 n, .int .i64 k, .slice (some ⟨bE, oE, none⟩) 2 cE, .slice (some ⟨bT, oT, none⟩) 2 cT] 24)) = w0 at *
    generalize w.heap.size = D at *
    have y0 := k0.cell 0
    have y1 := k0.cell 1
    have y2 := k0.cell 2
    have y3 := k0.cell 3
    have y4 := k0.cell 4
    go_wp2_with fail
    go_ret
    exact ⟨rfl, g.trans g0⟩
  cases t1 : (bits .andNot .i64 n 6 != 0)
  case true =>
    rw [show chk ⟨[p0, p1, p2], n, k, [e0, e1], [x0, x1]⟩ = false by (simp only [bne_eq_false_iff_eq, bne_iff_ne, ne_eq, decide_eq_true_eq, decide_eq_false_iff_not, Int.not_lt] at *; simp [chk, lvl, src, *]; try omega)]
    go_enter Try.func18, Try.ntmps18
    go_upto_region 1 with fail
    have k0 : Blk (w.alloc (.cells #[.slice (some ⟨bP, oP, none⟩) 3 cP, .int .i64 n, .int .i64 k, .slice (some ⟨bE, oE, none⟩) 2 cE, .slice (some ⟨bT, oT, none⟩) 2 cT] 24)) w.heap.size #[.slice (some ⟨bP, oP, none⟩) 3 cP, .int .i64 n, .int .i64 k, .slice (some ⟨bE, oE, none⟩) 2 cE, .slice (some ⟨bT, oT, none⟩) 2 cT] 24 := Blk.new _ _ _ _ rfl
    have g0 : Grew w (w.alloc (.cells #[.slice (some ⟨bP, oP, none⟩) 3 cP, .int .i64 n, .int .i64 k, .slice (some ⟨bE, oE, none⟩) 2 cE, .slice (some ⟨bT, oT, none⟩) 2 cT] 24)) := (Grew.refl w).alloc _
    have d0 := ((gcell g0).1 bP _ lbP).trans cP0
    have d1 := ((gcell g0).1 bP _ lbP).trans cP1
    have d2 := ((gcell g0).1 bP _ lbP).trans cP2
    have d3 := ((gcell g0).1 bE _ lbE).trans cE0
    have d4 := ((gcell g0).1 bE _ lbE).trans cE1
    have d5 := ((gcell g0).1 bT _ lbT).trans cT0
    have d6 := ((gcell g0).1 bT _ lbT).trans cT1
    generalize (w.alloc (.cells #[.slice (some ⟨bP, oP, none⟩) 3 cP, .int .i64 n, .int .i64 k, .slice (some ⟨bE, oE, none⟩) 2 cE, .slice (some ⟨bT, oT, none⟩) 2 cT] 24)) = w0 at *
    generalize w.heap.size = D at *
    have y0 := k0.cell 0
    have y1 := k0.cell 1
    have y2 := k0.cell 2
    have y3 := k0.cell 3
    have y4 := k0.cell 4
    go_wp2_with fail
    go_ret
    exact ⟨rfl, g.trans g0⟩
  cases t2 : (bits .andNot .i64 k 6 != 0)
  case true =>
    rw [show chk ⟨[p0, p1, p2], n, k, [e0, e1], [x0, x1]⟩ = false by (simp only [bne_eq_false_iff_eq, bne_iff_ne, ne_eq, decide_eq_true_eq, decide_eq_false_iff_not, Int.not_lt] at *; simp [chk, lvl, src, *]; try omega)]
    go_enter Try.func18, Try.ntmps18
    go_upto_region 1 with fail
    have k0 : Blk (w.alloc (.cells #[.slice (some ⟨bP, oP, none⟩) 3 cP, .int .i64 n, .int .i64 k, .slice (some ⟨bE, oE, none⟩) 2 cE, .slice (some ⟨bT, oT, none⟩) 2 cT] 24)) w.heap.size #[.slice (some ⟨bP, oP, none⟩) 3 cP, .int .i64 n, .int .i64 k, .slice (some ⟨bE, oE, none⟩) 2 cE, .slice (some ⟨bT, oT, none⟩) 2 cT] 24 := Blk.new _ _ _ _ rfl
    have g0 : Grew w (w.alloc (.cells #[.slice (some ⟨bP, oP, none⟩) 3 cP, .int .i64 n, .int .i64 k, .slice (some ⟨bE, oE, none⟩) 2 cE, .slice (some ⟨bT, oT, none⟩) 2 cT] 24)) := (Grew.refl w).alloc _
    have d0 := ((gcell g0).1 bP _ lbP).trans cP0
    have d1 := ((gcell g0).1 bP _ lbP).trans cP1
    have d2 := ((gcell g0).1 bP _ lbP).trans cP2
    have d3 := ((gcell g0).1 bE _ lbE).trans cE0
    have d4 := ((gcell g0).1 bE _ lbE).trans cE1
    have d5 := ((gcell g0).1 bT _ lbT).trans cT0
    have d6 := ((gcell g0).1 bT _ lbT).trans cT1
    generalize (w.alloc (.cells #[.slice (some ⟨bP, oP, none⟩) 3 cP, .int .i64 n, .int .i64 k, .slice (some ⟨bE, oE, none⟩) 2 cE, .slice (some ⟨bT, oT, none⟩) 2 cT] 24)) = w0 at *
    generalize w.heap.size = D at *
    have y0 := k0.cell 0
    have y1 := k0.cell 1
    have y2 := k0.cell 2
    have y3 := k0.cell 3
    have y4 := k0.cell 4
    go_wp2_with fail
    go_ret
    exact ⟨rfl, g.trans g0⟩
  cases t3 : (decide (p1 < 0))
  case true =>
    rw [show chk ⟨[p0, p1, p2], n, k, [e0, e1], [x0, x1]⟩ = false by (simp only [bne_eq_false_iff_eq, bne_iff_ne, ne_eq, decide_eq_true_eq, decide_eq_false_iff_not, Int.not_lt] at *; simp [chk, lvl, src, *]; try omega)]
    go_enter Try.func18, Try.ntmps18
    go_upto_region 1 with fail
    have k0 : Blk (w.alloc (.cells #[.slice (some ⟨bP, oP, none⟩) 3 cP, .int .i64 n, .int .i64 k, .slice (some ⟨bE, oE, none⟩) 2 cE, .slice (some ⟨bT, oT, none⟩) 2 cT] 24)) w.heap.size #[.slice (some ⟨bP, oP, none⟩) 3 cP, .int .i64 n, .int .i64 k, .slice (some ⟨bE, oE, none⟩) 2 cE, .slice (some ⟨bT, oT, none⟩) 2 cT] 24 := Blk.new _ _ _ _ rfl
    have g0 : Grew w (w.alloc (.cells #[.slice (some ⟨bP, oP, none⟩) 3 cP, .int .i64 n, .int .i64 k, .slice (some ⟨bE, oE, none⟩) 2 cE, .slice (some ⟨bT, oT, none⟩) 2 cT] 24)) := (Grew.refl w).alloc _
    have d0 := ((gcell g0).1 bP _ lbP).trans cP0
    have d1 := ((gcell g0).1 bP _ lbP).trans cP1
    have d2 := ((gcell g0).1 bP _ lbP).trans cP2
    have d3 := ((gcell g0).1 bE _ lbE).trans cE0
    have d4 := ((gcell g0).1 bE _ lbE).trans cE1
    have d5 := ((gcell g0).1 bT _ lbT).trans cT0
    have d6 := ((gcell g0).1 bT _ lbT).trans cT1
    generalize (w.alloc (.cells #[.slice (some ⟨bP, oP, none⟩) 3 cP, .int .i64 n, .int .i64 k, .slice (some ⟨bE, oE, none⟩) 2 cE, .slice (some ⟨bT, oT, none⟩) 2 cT] 24)) = w0 at *
    generalize w.heap.size = D at *
    have y0 := k0.cell 0
    have y1 := k0.cell 1
    have y2 := k0.cell 2
    have y3 := k0.cell 3
    have y4 := k0.cell 4
    go_wp2_with fail
    refine wp_loop_rounds 3 ?_
    rw [rounds_succ]
    go_wp2_with fail
    go_ret
    exact ⟨rfl, g.trans g0⟩
  cases t4 : (decide (7 < p1))
  case true =>
    rw [show chk ⟨[p0, p1, p2], n, k, [e0, e1], [x0, x1]⟩ = false by (simp only [bne_eq_false_iff_eq, bne_iff_ne, ne_eq, decide_eq_true_eq, decide_eq_false_iff_not, Int.not_lt] at *; simp [chk, lvl, src, *]; try omega)]
    go_enter Try.func18, Try.ntmps18
    go_upto_region 1 with fail
    have k0 : Blk (w.alloc (.cells #[.slice (some ⟨bP, oP, none⟩) 3 cP, .int .i64 n, .int .i64 k, .slice (some ⟨bE, oE, none⟩) 2 cE, .slice (some ⟨bT, oT, none⟩) 2 cT] 24)) w.heap.size #[.slice (some ⟨bP, oP, none⟩) 3 cP, .int .i64 n, .int .i64 k, .slice (some ⟨bE, oE, none⟩) 2 cE, .slice (some ⟨bT, oT, none⟩) 2 cT] 24 := Blk.new _ _ _ _ rfl
    have g0 : Grew w (w.alloc (.cells #[.slice (some ⟨bP, oP, none⟩) 3 cP, .int .i64 n, .int .i64 k, .slice (some ⟨bE, oE, none⟩) 2 cE, .slice (some ⟨bT, oT, none⟩) 2 cT] 24)) := (Grew.refl w).alloc _
    have d0 := ((gcell g0).1 bP _ lbP).trans cP0
    have d1 := ((gcell g0).1 bP _ lbP).trans cP1
    have d2 := ((gcell g0).1 bP _ lbP).trans cP2
    have d3 := ((gcell g0).1 bE _ lbE).trans cE0
    have d4 := ((gcell g0).1 bE _ lbE).trans cE1
    have d5 := ((gcell g0).1 bT _ lbT).trans cT0
    have d6 := ((gcell g0).1 bT _ lbT).trans cT1
    generalize (w.alloc (.cells #[.slice (some ⟨bP, oP, none⟩) 3 cP, .int .i64 n, .int .i64 k, .slice (some ⟨bE, oE, none⟩) 2 cE, .slice (some ⟨bT, oT, none⟩) 2 cT] 24)) = w0 at *
    generalize w.heap.size = D at *
    have y0 := k0.cell 0
    have y1 := k0.cell 1
    have y2 := k0.cell 2
    have y3 := k0.cell 3
    have y4 := k0.cell 4
    go_wp2_with fail
    refine wp_loop_rounds 3 ?_
    rw [rounds_succ]
    go_wp2_with fail
    go_ret
    exact ⟨rfl, g.trans g0⟩
  cases t5 : (bits .andNot .i64 e0 6 != 0)
  case true =>
    rw [show chk ⟨[p0, p1, p2], n, k, [e0, e1], [x0, x1]⟩ = false by (simp only [bne_eq_false_iff_eq, bne_iff_ne, ne_eq, decide_eq_true_eq, decide_eq_false_iff_not, Int.not_lt] at *; simp [chk, lvl, src, *]; try omega)]
    go_enter Try.func18, Try.ntmps18
    go_upto_region 1 with fail
    have k0 : Blk (w.alloc (.cells #[.slice (some ⟨bP, oP, none⟩) 3 cP, .int .i64 n, .int .i64 k, .slice (some ⟨bE, oE, none⟩) 2 cE, .slice (some ⟨bT, oT, none⟩) 2 cT] 24)) w.heap.size #[.slice (some ⟨bP, oP, none⟩) 3 cP, .int .i64 n, .int .i64 k, .slice (some ⟨bE, oE, none⟩) 2 cE, .slice (some ⟨bT, oT, none⟩) 2 cT] 24 := Blk.new _ _ _ _ rfl
    have g0 : Grew w (w.alloc (.cells #[.slice (some ⟨bP, oP, none⟩) 3 cP, .int .i64 n, .int .i64 k, .slice (some ⟨bE, oE, none⟩) 2 cE, .slice (some ⟨bT, oT, none⟩) 2 cT] 24)) := (Grew.refl w).alloc _
    have d0 := ((gcell g0).1 bP _ lbP).trans cP0
    have d1 := ((gcell g0).1 bP _ lbP).trans cP1
    have d2 := ((gcell g0).1 bP _ lbP).trans cP2
    have d3 := ((gcell g0).1 bE _ lbE).trans cE0
    have d4 := ((gcell g0).1 bE _ lbE).trans cE1
    have d5 := ((gcell g0).1 bT _ lbT).trans cT0
    have d6 := ((gcell g0).1 bT _ lbT).trans cT1
    generalize (w.alloc (.cells #[.slice (some ⟨bP, oP, none⟩) 3 cP, .int .i64 n, .int .i64 k, .slice (some ⟨bE, oE, none⟩) 2 cE, .slice (some ⟨bT, oT, none⟩) 2 cT] 24)) = w0 at *
    generalize w.heap.size = D at *
    have y0 := k0.cell 0
    have y1 := k0.cell 1
    have y2 := k0.cell 2
    have y3 := k0.cell 3
    have y4 := k0.cell 4
    go_wp2_with fail
    refine wp_loop_rounds 3 ?_
    rw [rounds_succ]
    go_wp2_with fail
    go_ret
    exact ⟨rfl, g.trans g0⟩
  cases t6 : (decide (x0 < 0))
  case true =>
    rw [show chk ⟨[p0, p1, p2], n, k, [e0, e1], [x0, x1]⟩ = false by (simp only [bne_eq_false_iff_eq, bne_iff_ne, ne_eq, decide_eq_true_eq, decide_eq_false_iff_not, Int.not_lt] at *; simp [chk, lvl, src, *]; try omega)]
    go_enter Try.func18, Try.ntmps18
    go_upto_region 1 with fail
    have k0 : Blk (w.alloc (.cells #[.slice (some ⟨bP, oP, none⟩) 3 cP, .int .i64 n, .int .i64 k, .slice (some ⟨bE, oE, none⟩) 2 cE, .slice (some ⟨bT, oT, none⟩) 2 cT] 24)) w.heap.size #[.slice (some ⟨bP, oP, none⟩) 3 cP, .int .i64 n, .int .i64 k, .slice (some ⟨bE, oE, none⟩) 2 cE, .slice (some ⟨bT, oT, none⟩) 2 cT] 24 := Blk.new _ _ _ _ rfl
    have g0 : Grew w (w.alloc (.cells #[.slice (some ⟨bP, oP, none⟩) 3 cP, .int .i64 n, .int .i64 k, .slice (some ⟨bE, oE, none⟩) 2 cE, .slice (some ⟨bT, oT, none⟩) 2 cT] 24)) := (Grew.refl w).alloc _
    have d0 := ((gcell g0).1 bP _ lbP).trans cP0
    have d1 := ((gcell g0).1 bP _ lbP).trans cP1
    have d2 := ((gcell g0).1 bP _ lbP).trans cP2
    have d3 := ((gcell g0).1 bE _ lbE).trans cE0
    have d4 := ((gcell g0).1 bE _ lbE).trans cE1
    have d5 := ((gcell g0).1 bT _ lbT).trans cT0
    have d6 := ((gcell g0).1 bT _ lbT).trans cT1
    generalize (w.alloc (.cells #[.slice (some ⟨bP, oP, none⟩) 3 cP, .int .i64 n, .int .i64 k, .slice (some ⟨bE, oE, none⟩) 2 cE, .slice (some ⟨bT, oT, none⟩) 2 cT] 24)) = w0 at *
    generalize w.heap.size = D at *
    have y0 := k0.cell 0
    have y1 := k0.cell 1
    have y2 := k0.cell 2
    have y3 := k0.cell 3
    have y4 := k0.cell 4
    go_wp2_with fail
    refine wp_loop_rounds 3 ?_
    rw [rounds_succ]
    go_wp2_with fail
    go_ret
    exact ⟨rfl, g.trans g0⟩
  cases t7 : (decide (7 < x0))
  case true =>
    rw [show chk ⟨[p0, p1, p2], n, k, [e0, e1], [x0, x1]⟩ = false by (simp only [bne_eq_false_iff_eq, bne_iff_ne, ne_eq, decide_eq_true_eq, decide_eq_false_iff_not, Int.not_lt] at *; simp [chk, lvl, src, *]; try omega)]
    go_enter Try.func18, Try.ntmps18
    go_upto_region 1 with fail
    have k0 : Blk (w.alloc (.cells #[.slice (some ⟨bP, oP, none⟩) 3 cP, .int .i64 n, .int .i64 k, .slice (some ⟨bE, oE, none⟩) 2 cE, .slice (some ⟨bT, oT, none⟩) 2 cT] 24)) w.heap.size #[.slice (some ⟨bP, oP, none⟩) 3 cP, .int .i64 n, .int .i64 k, .slice (some ⟨bE, oE, none⟩) 2 cE, .slice (some ⟨bT, oT, none⟩) 2 cT] 24 := Blk.new _ _ _ _ rfl
    have g0 : Grew w (w.alloc (.cells #[.slice (some ⟨bP, oP, none⟩) 3 cP, .int .i64 n, .int .i64 k, .slice (some ⟨bE, oE, none⟩) 2 cE, .slice (some ⟨bT, oT, none⟩) 2 cT] 24)) := (Grew.refl w).alloc _
    have d0 := ((gcell g0).1 bP _ lbP).trans cP0
    have d1 := ((gcell g0).1 bP _ lbP).trans cP1
    have d2 := ((gcell g0).1 bP _ lbP).trans cP2
    have d3 := ((gcell g0).1 bE _ lbE).trans cE0
    have d4 := ((gcell g0).1 bE _ lbE).trans cE1
    have d5 := ((gcell g0).1 bT _ lbT).trans cT0
    have d6 := ((gcell g0).1 bT _ lbT).trans cT1
    generalize (w.alloc (.cells #[.slice (some ⟨bP, oP, none⟩) 3 cP, .int .i64 n, .int .i64 k, .slice (some ⟨bE, oE, none⟩) 2 cE, .slice (some ⟨bT, oT, none⟩) 2 cT] 24)) = w0 at *
    generalize w.heap.size = D at *
    have y0 := k0.cell 0
    have y1 := k0.cell 1
    have y2 := k0.cell 2
    have y3 := k0.cell 3
    have y4 := k0.cell 4
    go_wp2_with fail
    refine wp_loop_rounds 3 ?_
    rw [rounds_succ]
    go_wp2_with fail
    go_ret
    exact ⟨rfl, g.trans g0⟩
  cases t8 : (decide (p2 < 0))
  case true =>
    rw [show chk ⟨[p0, p1, p2], n, k, [e0, e1], [x0, x1]⟩ = false by (simp only [bne_eq_false_iff_eq, bne_iff_ne, ne_eq, decide_eq_true_eq, decide_eq_false_iff_not, Int.not_lt] at *; simp [chk, lvl, src, *]; try omega)]
    go_enter Try.func18, Try.ntmps18
    go_upto_region 1 with fail
    have k0 : Blk (w.alloc (.cells #[.slice (some ⟨bP, oP, none⟩) 3 cP, .int .i64 n, .int .i64 k, .slice (some ⟨bE, oE, none⟩) 2 cE, .slice (some ⟨bT, oT, none⟩) 2 cT] 24)) w.heap.size #[.slice (some ⟨bP, oP, none⟩) 3 cP, .int .i64 n, .int .i64 k, .slice (some ⟨bE, oE, none⟩) 2 cE, .slice (some ⟨bT, oT, none⟩) 2 cT] 24 := Blk.new _ _ _ _ rfl
    have g0 : Grew w (w.alloc (.cells #[.slice (some ⟨bP, oP, none⟩) 3 cP, .int .i64 n, .int .i64 k, .slice (some ⟨bE, oE, none⟩) 2 cE, .slice (some ⟨bT, oT, none⟩) 2 cT] 24)) := (Grew.refl w).alloc _
    have d0 := ((gcell g0).1 bP _ lbP).trans cP0
    have d1 := ((gcell g0).1 bP _ lbP).trans cP1
    have d2 := ((gcell g0).1 bP _ lbP).trans cP2
    have d3 := ((gcell g0).1 bE _ lbE).trans cE0
    have d4 := ((gcell g0).1 bE _ lbE).trans cE1
    have d5 := ((gcell g0).1 bT _ lbT).trans cT0
    have d6 := ((gcell g0).1 bT _ lbT).trans cT1
    generalize (w.alloc (.cells #[.slice (some ⟨bP, oP, none⟩) 3 cP, .int .i64 n, .int .i64 k, .slice (some ⟨bE, oE, none⟩) 2 cE, .slice (some ⟨bT, oT, none⟩) 2 cT] 24)) = w0 at *
    generalize w.heap.size = D at *
    have y0 := k0.cell 0
    have y1 := k0.cell 1
    have y2 := k0.cell 2
    have y3 := k0.cell 3
    have y4 := k0.cell 4
    go_wp2_with fail
    refine wp_loop_rounds 3 ?_
    rw [rounds_succ]
    go_wp2_with fail
    rw [rounds_succ]
    go_wp2_with fail
    go_ret
    exact ⟨rfl, g.trans g0⟩
  cases t9 : (decide (7 < p2))
  case true =>
    rw [show chk ⟨[p0, p1, p2], n, k, [e0, e1], [x0, x1]⟩ = false by (simp only [bne_eq_false_iff_eq, bne_iff_ne, ne_eq, decide_eq_true_eq, decide_eq_false_iff_not, Int.not_lt] at *; simp [chk, lvl, src, *]; try omega)]
    go_enter Try.func18, Try.ntmps18
    go_upto_region 1 with fail
    have k0 : Blk (w.alloc (.cells #[.slice (some ⟨bP, oP, none⟩) 3 cP, .int .i64 n, .int .i64 k, .slice (some ⟨bE, oE, none⟩) 2 cE, .slice (some ⟨bT, oT, none⟩) 2 cT] 24)) w.heap.size #[.slice (some ⟨bP, oP, none⟩) 3 cP, .int .i64 n, .int .i64 k, .slice (some ⟨bE, oE, none⟩) 2 cE, .slice (some ⟨bT, oT, none⟩) 2 cT] 24 := Blk.new _ _ _ _ rfl
    have g0 : Grew w (w.alloc (.cells #[.slice (some ⟨bP, oP, none⟩) 3 cP, .int .i64 n, .int .i64 k, .slice (some ⟨bE, oE, none⟩) 2 cE, .slice (some ⟨bT, oT, none⟩) 2 cT] 24)) := (Grew.refl w).alloc _
    have d0 := ((gcell g0).1 bP _ lbP).trans cP0
    have d1 := ((gcell g0).1 bP _ lbP).trans cP1
    have d2 := ((gcell g0).1 bP _ lbP).trans cP2
    have d3 := ((gcell g0).1 bE _ lbE).trans cE0
    have d4 := ((gcell g0).1 bE _ lbE).trans cE1
    have d5 := ((gcell g0).1 bT _ lbT).trans cT0
    have d6 := ((gcell g0).1 bT _ lbT).trans cT1
    generalize (w.alloc (.cells #[.slice (some ⟨bP, oP, none⟩) 3 cP, .int .i64 n, .int .i64 k, .slice (some ⟨bE, oE, none⟩) 2 cE, .slice (some ⟨bT, oT, none⟩) 2 cT] 24)) = w0 at *
    generalize w.heap.size = D at *
    have y0 := k0.cell 0
    have y1 := k0.cell 1
    have y2 := k0.cell 2
    have y3 := k0.cell 3
    have y4 := k0.cell 4
    go_wp2_with fail
    refine wp_loop_rounds 3 ?_
    rw [rounds_succ]
    go_wp2_with fail
    rw [rounds_succ]
    go_wp2_with fail
    go_ret
    exact ⟨rfl, g.trans g0⟩
  cases t10 : (bits .andNot .i64 e1 6 != 0)
  case true =>
    rw [show chk ⟨[p0, p1, p2], n, k, [e0, e1], [x0, x1]⟩ = false by (simp only [bne_eq_false_iff_eq, bne_iff_ne, ne_eq, decide_eq_true_eq, decide_eq_false_iff_not, Int.not_lt] at *; simp [chk, lvl, src, *]; try omega)]
    go_enter Try.func18, Try.ntmps18
    go_upto_region 1 with fail
    have k0 : Blk (w.alloc (.cells #[.slice (some ⟨bP, oP, none⟩) 3 cP, .int .i64 n, .int .i64 k, .slice (some ⟨bE, oE, none⟩) 2 cE, .slice (some ⟨bT, oT, none⟩) 2 cT] 24)) w.heap.size #[.slice (some ⟨bP, oP, none⟩) 3 cP, .int .i64 n, .int .i64 k, .slice (some ⟨bE, oE, none⟩) 2 cE, .slice (some ⟨bT, oT, none⟩) 2 cT] 24 := Blk.new _ _ _ _ rfl
    have g0 : Grew w (w.alloc (.cells #[.slice (some ⟨bP, oP, none⟩) 3 cP, .int .i64 n, .int .i64 k, .slice (some ⟨bE, oE, none⟩) 2 cE, .slice (some ⟨bT, oT, none⟩) 2 cT] 24)) := (Grew.refl w).alloc _
    have d0 := ((gcell g0).1 bP _ lbP).trans cP0
    have d1 := ((gcell g0).1 bP _ lbP).trans cP1
    have d2 := ((gcell g0).1 bP _ lbP).trans cP2
    have d3 := ((gcell g0).1 bE _ lbE).trans cE0
    have d4 := ((gcell g0).1 bE _ lbE).trans cE1
    have d5 := ((gcell g0).1 bT _ lbT).trans cT0
    have d6 := ((gcell g0).1 bT _ lbT).trans cT1
    generalize (w.alloc (.cells #[.slice (some ⟨bP, oP, none⟩) 3 cP, .int .i64 n, .int .i64 k, .slice (some ⟨bE, oE, none⟩) 2 cE, .slice (some ⟨bT, oT, none⟩) 2 cT] 24)) = w0 at *
    generalize w.heap.size = D at *
    have y0 := k0.cell 0
    have y1 := k0.cell 1
    have y2 := k0.cell 2
    have y3 := k0.cell 3
    have y4 := k0.cell 4
    go_wp2_with fail
    refine wp_loop_rounds 3 ?_
    rw [rounds_succ]
    go_wp2_with fail
    rw [rounds_succ]
    go_wp2_with fail
    go_ret
    exact ⟨rfl, g.trans g0⟩
  cases t11 : (decide (x1 < 0))
  case true =>
    rw [show chk ⟨[p0, p1, p2], n, k, [e0, e1], [x0, x1]⟩ = false by (simp only [bne_eq_false_iff_eq, bne_iff_ne, ne_eq, decide_eq_true_eq, decide_eq_false_iff_not, Int.not_lt] at *; simp [chk, lvl, src, *]; try omega)]
    go_enter Try.func18, Try.ntmps18
    go_upto_region 1 with fail
    have k0 : Blk (w.alloc (.cells #[.slice (some ⟨bP, oP, none⟩) 3 cP, .int .i64 n, .int .i64 k, .slice (some ⟨bE, oE, none⟩) 2 cE, .slice (some ⟨bT, oT, none⟩) 2 cT] 24)) w.heap.size #[.slice (some ⟨bP, oP, none⟩) 3 cP, .int .i64 n, .int .i64 k, .slice (some ⟨bE, oE, none⟩) 2 cE, .slice (some ⟨bT, oT, none⟩) 2 cT] 24 := Blk.new _ _ _ _ rfl
    have g0 : Grew w (w.alloc (.cells #[.slice (some ⟨bP, oP, none⟩) 3 cP, .int .i64 n, .int .i64 k, .slice (some ⟨bE, oE, none⟩) 2 cE, .slice (some ⟨bT, oT, none⟩) 2 cT] 24)) := (Grew.refl w).alloc _
    have d0 := ((gcell g0).1 bP _ lbP).trans cP0
    have d1 := ((gcell g0).1 bP _ lbP).trans cP1
    have d2 := ((gcell g0).1 bP _ lbP).trans cP2
    have d3 := ((gcell g0).1 bE _ lbE).trans cE0
    have d4 := ((gcell g0).1 bE _ lbE).trans cE1
    have d5 := ((gcell g0).1 bT _ lbT).trans cT0
    have d6 := ((gcell g0).1 bT _ lbT).trans cT1
    generalize (w.alloc (.cells #[.slice (some ⟨bP, oP, none⟩) 3 cP, .int .i64 n, .int .i64 k, .slice (some ⟨bE, oE, none⟩) 2 cE, .slice (some ⟨bT, oT, none⟩) 2 cT] 24)) = w0 at *
    generalize w.heap.size = D at *
    have y0 := k0.cell 0
    have y1 := k0.cell 1
    have y2 := k0.cell 2
    have y3 := k0.cell 3
    have y4 := k0.cell 4
    go_wp2_with fail
    refine wp_loop_rounds 3 ?_
    rw [rounds_succ]
    go_wp2_with fail
    rw [rounds_succ]
    go_wp2_with fail
    go_ret
    exact ⟨rfl, g.trans g0⟩
  cases t12 : (decide (7 < x1))
  case true =>
    rw [show chk ⟨[p0, p1, p2], n, k, [e0, e1], [x0, x1]⟩ = false by (simp only [bne_eq_false_iff_eq, bne_iff_ne, ne_eq, decide_eq_true_eq, decide_eq_false_iff_not, Int.not_lt] at *; simp [chk, lvl, src, *]; try omega)]
    go_enter Try.func18, Try.ntmps18
    go_upto_region 1 with fail
    have k0 : Blk (w.alloc (.cells #[.slice (some ⟨bP, oP, none⟩) 3 cP, .int .i64 n, .int .i64 k, .slice (some ⟨bE, oE, none⟩) 2 cE, .slice (some ⟨bT, oT, none⟩) 2 cT] 24)) w.heap.size #[.slice (some ⟨bP, oP, none⟩) 3 cP, .int .i64 n, .int .i64 k, .slice (some ⟨bE, oE, none⟩) 2 cE, .slice (some ⟨bT, oT, none⟩) 2 cT] 24 := Blk.new _ _ _ _ rfl
    have g0 : Grew w (w.alloc (.cells #[.slice (some ⟨bP, oP, none⟩) 3 cP, .int .i64 n, .int .i64 k, .slice (some ⟨bE, oE, none⟩) 2 cE, .slice (some ⟨bT, oT, none⟩) 2 cT] 24)) := (Grew.refl w).alloc _
    have d0 := ((gcell g0).1 bP _ lbP).trans cP0
    have d1 := ((gcell g0).1 bP _ lbP).trans cP1
    have d2 := ((gcell g0).1 bP _ lbP).trans cP2
    have d3 := ((gcell g0).1 bE _ lbE).trans cE0
    have d4 := ((gcell g0).1 bE _ lbE).trans cE1
    have d5 := ((gcell g0).1 bT _ lbT).trans cT0
    have d6 := ((gcell g0).1 bT _ lbT).trans cT1
    generalize (w.alloc (.cells #[.slice (some ⟨bP, oP, none⟩) 3 cP, .int .i64 n, .int .i64 k, .slice (some ⟨bE, oE, none⟩) 2 cE, .slice (some ⟨bT, oT, none⟩) 2 cT] 24)) = w0 at *
    generalize w.heap.size = D at *
    have y0 := k0.cell 0
    have y1 := k0.cell 1
    have y2 := k0.cell 2
    have y3 := k0.cell 3
    have y4 := k0.cell 4
    go_wp2_with fail
    refine wp_loop_rounds 3 ?_
    rw [rounds_succ]
    go_wp2_with fail
    rw [rounds_succ]
    go_wp2_with fail
    go_ret
    exact ⟨rfl, g.trans g0⟩
  rw [show chk ⟨[p0, p1, p2], n, k, [e0, e1], [x0, x1]⟩ = true by (simp only [bne_eq_false_iff_eq, bne_iff_ne, ne_eq, decide_eq_true_eq, decide_eq_false_iff_not, Int.not_lt] at *; simp [chk, lvl, src, *]; try omega)]
  go_enter Try.func18, Try.ntmps18
  go_upto_region 1 with fail
  have k0 : Blk (w.alloc (.cells #[.slice (some ⟨bP, oP, none⟩) 3 cP, .int .i64 n, .int .i64 k, .slice (some ⟨bE, oE, none⟩) 2 cE, .slice (some ⟨bT, oT, none⟩) 2 cT] 24)) w.heap.size #[.slice (some ⟨bP, oP, none⟩) 3 cP, .int .i64 n, .int .i64 k, .slice (some ⟨bE, oE, none⟩) 2 cE, .slice (some ⟨bT, oT, none⟩) 2 cT] 24 := Blk.new _ _ _ _ rfl
  have g0 : Grew w (w.alloc (.cells #[.slice (some ⟨bP, oP, none⟩) 3 cP, .int .i64 n, .int .i64 k, .slice (some ⟨bE, oE, none⟩) 2 cE, .slice (some ⟨bT, oT, none⟩) 2 cT] 24)) := (Grew.refl w).alloc _
  have d0 := ((gcell g0).1 bP _ lbP).trans cP0
  have d1 := ((gcell g0).1 bP _ lbP).trans cP1
  have d2 := ((gcell g0).1 bP _ lbP).trans cP2
  have d3 := ((gcell g0).1 bE _ lbE).trans cE0
  have d4 := ((gcell g0).1 bE _ lbE).trans cE1
  have d5 := ((gcell g0).1 bT _ lbT).trans cT0
  have d6 := ((gcell g0).1 bT _ lbT).trans cT1
  generalize (w.alloc (.cells #[.slice (some ⟨bP, oP, none⟩) 3 cP, .int .i64 n, .int .i64 k, .slice (some ⟨bE, oE, none⟩) 2 cE, .slice (some ⟨bT, oT, none⟩) 2 cT] 24)) = w0 at *
  generalize w.heap.size = D at *
  have y0 := k0.cell 0
  have y1 := k0.cell 1
  have y2 := k0.cell 2
  have y3 := k0.cell 3
  have y4 := k0.cell 4
  go_wp2_with fail
  refine wp_loop_rounds 3 ?_
  rw [rounds_succ]
  go_wp2_with fail
  rw [rounds_succ]
  go_wp2_with fail
  rw [rounds_succ]
  go_wp2_with fail
  go_ret
  exact ⟨rfl, g.trans g0⟩
end Go.Proofs.Ytpanecflmoebiaa
