/-
  Package plic: Best.
-/
import Derived.Test.YtgcfmijkggpemaaGreatPlK
set_option maxRecDepth 4000
set_option linter.unusedVariables false
set_option linter.unusedSimpArgs false
namespace Go.Proofs.YtgcfmijkggpemaaGreat
open Go.RowKit

set_option maxHeartbeats 1000000 in
theorem Best_no {v : Value} {s : PS} (x : Int) (hbad : plChk s = false ∨ x < 0 ∨ 1 < x) {W w : World} (hb : Pl w v s) (g : Grew W w) :
    Calls Tryz.prog 24 #[v, .int .i64 x] w fun e w' => e = .returned (.int .i64 0) ∧ Grew W w' := by
  have hC := fun (w1 : World) (g1 : Grew w w1) => plCheck_c (Grew.refl w1) (hb.grew g1)
  have HC := Lib.hid hC
  obtain ⟨vP, vE, vT, rfl, h1, h2, h3⟩ := hb.shape
  obtain ⟨aP, cP, rfl, _, _⟩ := h1.shape
  obtain ⟨aE, cE, rfl, _, _⟩ := h2.shape
  obtain ⟨aT, cT, rfl, _, _⟩ := h3.shape
  clear hC h1 h2 h3 hb
  have key : ∀ b1 b2 b3 : Bool, plChk s = b1 → decide (x < 0) = b2 → decide (2 ≤ x) = b3 → (b1 = false ∨ b2 = true ∨ b3 = true) → Calls Tryz.prog 24 #[.agg #[.slice aP s.pr.length cP, .int .i64 s.n, .int .i64 s.k, .slice aE s.en.length cE, .slice aT s.th.length cT], .int .i64 x] w fun e w' => e = .returned (.int .i64 0) ∧ Grew W w' := by
    intro b1 b2 b3 e1 e2 e3 hor
    rw [e1] at HC
    clear e1 hbad
    cases b1 <;> cases b2 <;> cases b3
    case true.false.false => simp at hor
    all_goals
      clear hor
      go_enter Tryz.func24, Tryz.ntmps24
      go_upto_region 1 with fail
      have k0 : Blk (w.alloc (.cells #[.slice aP s.pr.length cP, .int .i64 s.n, .int .i64 s.k, .slice aE s.en.length cE, .slice aT s.th.length cT] 30)) w.heap.size #[.slice aP s.pr.length cP, .int .i64 s.n, .int .i64 s.k, .slice aE s.en.length cE, .slice aT s.th.length cT] 30 := Blk.new _ _ _ _ rfl
      have g0 : Grew w (w.alloc (.cells #[.slice aP s.pr.length cP, .int .i64 s.n, .int .i64 s.k, .slice aE s.en.length cE, .slice aT s.th.length cT] 30)) := (Grew.refl w).alloc _
      generalize (w.alloc (.cells #[.slice aP s.pr.length cP, .int .i64 s.n, .int .i64 s.k, .slice aE s.en.length cE, .slice aT s.th.length cT] 30)) = w0 at *
      have y0 := k0.cell 0
      have y1 := k0.cell 1
      have y2 := k0.cell 2
      have y3 := k0.cell 3
      have y4 := k0.cell 4
      go_wp2_with fail
      refine (HC.out _ g0).mono ?_
      rintro e w1 ⟨rfl, g1⟩
      go_wp2_with fail
      go_ret
      exact ⟨rfl, (g.trans g0).trans g1⟩
  refine key _ _ _ rfl rfl rfl ?_
  rcases hbad with h | h | h
  · exact .inl h
  · exact .inr (.inl (by simpa using h))
  · exact .inr (.inr (by simp; omega))

set_option maxHeartbeats 1000000 in
theorem Best_yes {v : Value} {s : VS} (hs : s.Ok) {x : Int} (hx : x = 0 ∨ x = 1) {W w : World} (hb : Pl w v s.ps) (g : Grew W w) :
    Calls Tryz.prog 24 #[v, .int .i64 x] w fun e w' => e = .returned (.int .i64 (s.best x)) ∧ Grew W w' := by
  have hC := fun (w1 : World) (g1 : Grew w w1) => plCheck_c (Grew.refl w1) (hb.grew g1)
  rw [chk_mk hs] at hC
  have hT := fun (w1 : World) (g1 : Grew w w1) => plTaken_c (hb.grew g1) (Grew.refl w1)
  have hB := fun (c : Nat) (w : World) (h : Blk w c s.ctl 87) => plBest_c hs x h (Grew.refl w)
  have hE := s.ctxE hx
  have hTt := s.ctxT hx
  have hin := s.best_in x
  have hb0 : 0 ≤ s.best x := by omega
  have hb1 : s.best x ≤ 2 := by omega
  generalize s.best x = bv at *
  generalize s.e x = ex at *
  generalize s.t x = tx at *
  obtain ⟨cs, hcs⟩ : ∃ cs, cs = s.ctl := ⟨_, rfl⟩
  rw [← hcs] at hT hB hE hTt
  have HC := Lib.hid hC
  have HT := Lib.hid hT
  have HB := Lib.hid hB
  have HE := Lib.hid hE
  have HTt := Lib.hid hTt
  clear hcs hin
  obtain ⟨vP, vE, vT, rfl, h1, h2, h3⟩ := hb.shape
  obtain ⟨aP, cP, rfl, _, _⟩ := h1.shape
  obtain ⟨aE, cE, rfl, _, _⟩ := h2.shape
  obtain ⟨aT, cT, rfl, _, _⟩ := h3.shape
  clear hC hT hB hE hTt h1 h2 h3 hb hs
  obtain ⟨b1, b2, n, k, b3, b4, b5, b6⟩ := s
  dsimp only [VS.ps] at HC HT ⊢
  simp only [List.length_cons, List.length_nil, Nat.zero_add, Nat.reduceAdd] at HC HT ⊢
  rcases hx with rfl | rfl
  all_goals
    simp only [ctxO, if_true, if_false, show ¬ ((1 : Int) = 0) by omega] at HE HTt
    go_enter Tryz.func24, Tryz.ntmps24
    go_upto_region 1 with fail
    have k0 : Blk (w.alloc (.cells #[.slice aP 3 cP, .int .i64 n, .int .i64 k, .slice aE 2 cE, .slice aT 2 cT] 30)) w.heap.size #[.slice aP 3 cP, .int .i64 n, .int .i64 k, .slice aE 2 cE, .slice aT 2 cT] 30 := Blk.new _ _ _ _ rfl
    have g0 : Grew w (w.alloc (.cells #[.slice aP 3 cP, .int .i64 n, .int .i64 k, .slice aE 2 cE, .slice aT 2 cT] 30)) := (Grew.refl w).alloc _
    generalize (w.alloc (.cells #[.slice aP 3 cP, .int .i64 n, .int .i64 k, .slice aE 2 cE, .slice aT 2 cT] 30)) = w0 at *
    have y0 := k0.cell 0
    have y1 := k0.cell 1
    have y2 := k0.cell 2
    have y3 := k0.cell 3
    have y4 := k0.cell 4
    go_wp2_with fail
    refine (HC.out _ g0).mono ?_
    rintro e w1 ⟨rfl, g1⟩
    clear y0 y1 y2 y3 y4
    have k1 := k0.grew g1
    have G1 := g0.trans g1
    have y0 := k1.cell 0
    have y1 := k1.cell 1
    have y2 := k1.cell 2
    have y3 := k1.cell 3
    have y4 := k1.cell 4
    go_wp2_with fail
    refine (HT.out _ G1).mono ?_
    rintro e w2 ⟨c, rfl, hc, HK, g2⟩
    clear y0 y1 y2 y3 y4
    have G2 := G1.trans g2
    have x0 := (HK.out.cell _).trans HE.out
    have x1 := (HK.out.cell _).trans HTt.out
    go_wp2_with fail
    refine (HB.out c w2 HK.out).mono ?_
    rintro e w3 ⟨rfl, g3⟩
    go_wp2_with fail
    go_ret
    exact ⟨by first | rfl | exact ret_i64 (by simp [IntKind.wrap, IntKind.bits, IntKind.signed]; omega), (g.trans G2).trans g3⟩
end Go.Proofs.YtgcfmijkggpemaaGreat
