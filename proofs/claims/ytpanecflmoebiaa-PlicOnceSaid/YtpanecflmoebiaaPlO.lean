/-
  The document's own Set, New, Best, claim, Load.
-/
import Derived.Test.YtpanecflmoebiaaPlN
set_option linter.unusedVariables false
set_option linter.unusedSimpArgs false
namespace Go.Proofs.Ytpanecflmoebiaa
open Go.RowKit

set_option maxHeartbeats 2000000 in
theorem refSet_no {v : Value} {s : PS} (l : Int) (hbad : chk s = false) {W w : World} (hb : Pl w v s) (g : Grew W w) :
    Calls Try.prog 15 #[v, .int .i64 l] w fun e w' => ∃ v', e = .returned v' ∧ Hid (Pl w' v' s) ∧ Grew W w' := by
  have hC := fun (w1 : World) (g1 : Grew w w1) => refCheck_c (Grew.refl w1) (hb.grew g1)
  rw [hbad] at hC
  have HC := Lib.hid hC
  have hgs := g.size
  clear hC hbad
  have HV := Lib.hid hb
  obtain ⟨vP, vE, vT, rfl, h1, h2, h3⟩ := hb.shape
  obtain ⟨aP, cP, rfl, _, _⟩ := h1.shape
  obtain ⟨aE, cE, rfl, _, _⟩ := h2.shape
  obtain ⟨aT, cT, rfl, _, _⟩ := h3.shape
  clear h1 h2 h3 hb
  go_enter Try.func15, Try.ntmps15
  go_upto_region 1 with fail
  have k0 : Blk ((w.alloc (.cells #[.slice aP s.pr.length cP, .int .i64 s.n, .int .i64 s.k, .slice aE s.en.length cE, .slice aT s.th.length cT] 24)).alloc (.cells #[.slice none 0 0, .int .i64 0, .int .i64 0, .slice none 0 0, .slice none 0 0] 24)) w.heap.size #[.slice aP s.pr.length cP, .int .i64 s.n, .int .i64 s.k, .slice aE s.en.length cE, .slice aT s.th.length cT] 24 := (Blk.new _ _ _ _ rfl).alloc _
  have r0 : Blk ((w.alloc (.cells #[.slice aP s.pr.length cP, .int .i64 s.n, .int .i64 s.k, .slice aE s.en.length cE, .slice aT s.th.length cT] 24)).alloc (.cells #[.slice none 0 0, .int .i64 0, .int .i64 0, .slice none 0 0, .slice none 0 0] 24)) (w.heap.size + 1) #[.slice none 0 0, .int .i64 0, .int .i64 0, .slice none 0 0, .slice none 0 0] 24 := Blk.new _ _ _ _ (by simp)
  have g0 : Grew w ((w.alloc (.cells #[.slice aP s.pr.length cP, .int .i64 s.n, .int .i64 s.k, .slice aE s.en.length cE, .slice aT s.th.length cT] 24)).alloc (.cells #[.slice none 0 0, .int .i64 0, .int .i64 0, .slice none 0 0, .slice none 0 0] 24)) := ((Grew.refl w).alloc _).alloc _
  have s0 := r0.lt
  generalize ((w.alloc (.cells #[.slice aP s.pr.length cP, .int .i64 s.n, .int .i64 s.k, .slice aE s.en.length cE, .slice aT s.th.length cT] 24)).alloc (.cells #[.slice none 0 0, .int .i64 0, .int .i64 0, .slice none 0 0, .slice none 0 0] 24)) = w0 at *
  have y0 := k0.cell 0
  have y1 := k0.cell 1
  have y2 := k0.cell 2
  have y3 := k0.cell 3
  have y4 := k0.cell 4
  go_wp2_with fail
  refine (HC.out _ g0).mono ?_
  rintro e w1 ⟨rfl, g1⟩
  clear y0 y1 y2 y3 y4
  have k1 := k0.grew g1
  have r1 := r0.grew g1
  have G1 := g0.trans g1
  have y0 := k1.cell 0
  have y1 := k1.cell 1
  have y2 := k1.cell 2
  have y3 := k1.cell 3
  have y4 := k1.cell 4
  have x0 := r1.cell 0
  have x1 := r1.cell 1
  have x2 := r1.cell 2
  have x3 := r1.cell 3
  have x4 := r1.cell 4
  have f0 := r1.free 0
  have f1 := r1.free 1
  have f2 := r1.free 2
  have f3 := r1.free 3
  have f4 := r1.free 4
  go_wp2_with fail
  clear x0 x1 x2 x3 x4 f0 f1 f2 f3 f4 y0 y1 y2 y3 y4
  have ky := (((((r1.set (o := 0) (.slice aP s.pr.length cP)).set (o := 1) (.int .i64 s.n)).set (o := 2) (.int .i64 s.k)).set (o := 3) (.slice aE s.en.length cE)).set (o := 4) (.slice aT s.th.length cT))
  have gy := (((((G1.setCell (b := (w.heap.size + 1)) (o := 0) (by omega) (.slice aP s.pr.length cP)).setCell (b := (w.heap.size + 1)) (o := 1) (by omega) (.int .i64 s.n)).setCell (b := (w.heap.size + 1)) (o := 2) (by omega) (.int .i64 s.k)).setCell (b := (w.heap.size + 1)) (o := 3) (by omega) (.slice aE s.en.length cE)).setCell (b := (w.heap.size + 1)) (o := 4) (by omega) (.slice aT s.th.length cT))
  generalize (((((w1.setCell ⟨(w.heap.size + 1), 0, none⟩ (.slice aP s.pr.length cP)).setCell ⟨(w.heap.size + 1), 1, none⟩ (.int .i64 s.n)).setCell ⟨(w.heap.size + 1), 2, none⟩ (.int .i64 s.k)).setCell ⟨(w.heap.size + 1), 3, none⟩ (.slice aE s.en.length cE)).setCell ⟨(w.heap.size + 1), 4, none⟩ (.slice aT s.th.length cT)) = wy at *
  have z0 := ky.cell 0
  have z1 := ky.cell 1
  have z2 := ky.cell 2
  have z3 := ky.cell 3
  have z4 := ky.cell 4
  exact bodyPost_ret (v := .agg #[.slice aP s.pr.length cP, .int .i64 s.n, .int .i64 s.k, .slice aE s.en.length cE, .slice aT s.th.length cT]) (by simp [results, Try.results15, go_sem, z0, z1, z2, z3, z4]) rfl ⟨_, rfl, Lib.hid (HV.out.grew gy), g.trans gy⟩
set_option maxHeartbeats 2000000 in
theorem refSet_yes {v : Value} {s : VS} (hs : s.Ok) (l : Int) {W w : World} (hb : Pl w v s.ps) (g : Grew W w) :
    Calls Try.prog 15 #[v, .int .i64 l] w fun e w' => ∃ v', e = .returned v' ∧ Hid (Pl w' v' (s.set l).ps) ∧ Grew W w' := by
  have hC := fun (w1 : World) (g1 : Grew w w1) => refCheck_c (Grew.refl w1) (hb.grew g1)
  rw [chk_mk hs] at hC
  have HC := Lib.hid hC
  have hgs := g.size
  have HI := Lib.hid ((hs.set l).rows.2.2.2)
  clear hC hs
  have HV := Lib.hid hb
  obtain ⟨vP, vE, vT, rfl, h1, h2, h3⟩ := hb.shape
  obtain ⟨bP, oP, cP, rfl, lP, hP⟩ := h1.at (by simp)
  obtain ⟨bE, oE, cE, rfl, lE, hE⟩ := h2.at (by simp)
  obtain ⟨bT, oT, cT, rfl, lT, hT⟩ := h3.at (by simp)
  have HB1 := Lib.hid h1
  have HB2 := Lib.hid h2
  have HB3 := Lib.hid h3
  clear h1 h2 h3 hb
  obtain ⟨p1, p2, n, k, e0, t0, e1, t1⟩ := s
  have cP0 : w.cell? ⟨bP, oP, none⟩ = some (.int .i64 0) := hP 0 (by simp)
  have cP1 : w.cell? ⟨bP, oP + 1, none⟩ = some (.int .i64 p1) := hP 1 (by simp)
  have cP2 : w.cell? ⟨bP, oP + 2, none⟩ = some (.int .i64 p2) := hP 2 (by simp)
  have cE0 : w.cell? ⟨bE, oE, none⟩ = some (.int .i64 e0) := hE 0 (by simp)
  have cE1 : w.cell? ⟨bE, oE + 1, none⟩ = some (.int .i64 e1) := hE 1 (by simp)
  have cT0 : w.cell? ⟨bT, oT, none⟩ = some (.int .i64 t0) := hT 0 (by simp)
  have cT1 : w.cell? ⟨bT, oT + 1, none⟩ = some (.int .i64 t1) := hT 1 (by simp)
  clear hP hE hT
  dsimp only [VS.ps] at HV HB1 HB2 HB3 ⊢
  simp only [List.length_cons, List.length_nil, Nat.zero_add, Nat.reduceAdd] at HV HB1 HB2 HB3 ⊢
  go_enter Try.func15, Try.ntmps15
  go_upto_region 1 with fail
  have k0 : Blk ((w.alloc (.cells #[.slice (some ⟨bP, oP, none⟩) 3 cP, .int .i64 n, .int .i64 k, .slice (some ⟨bE, oE, none⟩) 2 cE, .slice (some ⟨bT, oT, none⟩) 2 cT] 24)).alloc (.cells #[.slice none 0 0, .int .i64 0, .int .i64 0, .slice none 0 0, .slice none 0 0] 24)) w.heap.size #[.slice (some ⟨bP, oP, none⟩) 3 cP, .int .i64 n, .int .i64 k, .slice (some ⟨bE, oE, none⟩) 2 cE, .slice (some ⟨bT, oT, none⟩) 2 cT] 24 := (Blk.new _ _ _ _ rfl).alloc _
  have r0 : Blk ((w.alloc (.cells #[.slice (some ⟨bP, oP, none⟩) 3 cP, .int .i64 n, .int .i64 k, .slice (some ⟨bE, oE, none⟩) 2 cE, .slice (some ⟨bT, oT, none⟩) 2 cT] 24)).alloc (.cells #[.slice none 0 0, .int .i64 0, .int .i64 0, .slice none 0 0, .slice none 0 0] 24)) (w.heap.size + 1) #[.slice none 0 0, .int .i64 0, .int .i64 0, .slice none 0 0, .slice none 0 0] 24 := Blk.new _ _ _ _ (by simp)
  have g0 : Grew w ((w.alloc (.cells #[.slice (some ⟨bP, oP, none⟩) 3 cP, .int .i64 n, .int .i64 k, .slice (some ⟨bE, oE, none⟩) 2 cE, .slice (some ⟨bT, oT, none⟩) 2 cT] 24)).alloc (.cells #[.slice none 0 0, .int .i64 0, .int .i64 0, .slice none 0 0, .slice none 0 0] 24)) := ((Grew.refl w).alloc _).alloc _
  have s0 := r0.lt
  generalize ((w.alloc (.cells #[.slice (some ⟨bP, oP, none⟩) 3 cP, .int .i64 n, .int .i64 k, .slice (some ⟨bE, oE, none⟩) 2 cE, .slice (some ⟨bT, oT, none⟩) 2 cT] 24)).alloc (.cells #[.slice none 0 0, .int .i64 0, .int .i64 0, .slice none 0 0, .slice none 0 0] 24)) = w0 at *
  have y0 := k0.cell 0
  have y1 := k0.cell 1
  have y2 := k0.cell 2
  have y3 := k0.cell 3
  have y4 := k0.cell 4
  go_wp2_with fail
  refine (HC.out _ g0).mono ?_
  rintro e w1 ⟨rfl, g1⟩
  clear y0 y1 y2 y3 y4
  have k1 := k0.grew g1
  have r1 := r0.grew g1
  have G1 := g0.trans g1
  have y1 := k1.cell 1
  have y2 := k1.cell 2
  have u1 := k1.free 1
  go_upto_region 4 with fail
  have k2 := k1.set (o := 1) (.int .i64 (bits .or .i64 n (bits .andNot .i64 (bits .and .i64 l 6) k)))
  have r2 := r1.other (show w.heap.size + 1 ≠ w.heap.size by omega) (o := 1) (.int .i64 (bits .or .i64 n (bits .andNot .i64 (bits .and .i64 l 6) k)))
  have G2 := G1.setCell (b := w.heap.size) (o := 1) (Nat.le_refl _) (.int .i64 (bits .or .i64 n (bits .andNot .i64 (bits .and .i64 l 6) k)))
  clear y1 y2 u1 k1 r1 G1
  generalize w1.setCell ⟨w.heap.size, 1, none⟩ (.int .i64 (bits .or .i64 n (bits .andNot .i64 (bits .and .i64 l 6) k))) = w2 at *
  have y0 := k2.cell 0
  have y1 := k2.cell 1
  have y2 := k2.cell 2
  have y3 := k2.cell 3
  have y4 := k2.cell 4
  have x0 := r2.cell 0
  have x1 := r2.cell 1
  have x2 := r2.cell 2
  have x3 := r2.cell 3
  have x4 := r2.cell 4
  have f0 := r2.free 0
  have f1 := r2.free 1
  have f2 := r2.free 2
  have f3 := r2.free 3
  have f4 := r2.free 4
  go_wp2_with fail
  clear x0 x1 x2 x3 x4 f0 f1 f2 f3 f4 y0 y1 y2 y3 y4
  have ky := (((((r2.set (o := 0) (.slice (some ⟨bP, oP, none⟩) 3 cP)).set (o := 1) (.int .i64 (bits .or .i64 n (bits .andNot .i64 (bits .and .i64 l 6) k)))).set (o := 2) (.int .i64 k)).set (o := 3) (.slice (some ⟨bE, oE, none⟩) 2 cE)).set (o := 4) (.slice (some ⟨bT, oT, none⟩) 2 cT))
  have gy := (((((G2.setCell (b := (w.heap.size + 1)) (o := 0) (by omega) (.slice (some ⟨bP, oP, none⟩) 3 cP)).setCell (b := (w.heap.size + 1)) (o := 1) (by omega) (.int .i64 (bits .or .i64 n (bits .andNot .i64 (bits .and .i64 l 6) k)))).setCell (b := (w.heap.size + 1)) (o := 2) (by omega) (.int .i64 k)).setCell (b := (w.heap.size + 1)) (o := 3) (by omega) (.slice (some ⟨bE, oE, none⟩) 2 cE)).setCell (b := (w.heap.size + 1)) (o := 4) (by omega) (.slice (some ⟨bT, oT, none⟩) 2 cT))
  generalize (((((w2.setCell ⟨(w.heap.size + 1), 0, none⟩ (.slice (some ⟨bP, oP, none⟩) 3 cP)).setCell ⟨(w.heap.size + 1), 1, none⟩ (.int .i64 (bits .or .i64 n (bits .andNot .i64 (bits .and .i64 l 6) k)))).setCell ⟨(w.heap.size + 1), 2, none⟩ (.int .i64 k)).setCell ⟨(w.heap.size + 1), 3, none⟩ (.slice (some ⟨bE, oE, none⟩) 2 cE)).setCell ⟨(w.heap.size + 1), 4, none⟩ (.slice (some ⟨bT, oT, none⟩) 2 cT)) = wy at *
  have z0 := ky.cell 0
  have z1 := ky.cell 1
  have z2 := ky.cell 2
  have z3 := ky.cell 3
  have z4 := ky.cell 4
  exact bodyPost_ret (v := .agg #[.slice (some ⟨bP, oP, none⟩) 3 cP, .int .i64 (bits .or .i64 n (bits .andNot .i64 (bits .and .i64 l 6) k)), .int .i64 k, .slice (some ⟨bE, oE, none⟩) 2 cE, .slice (some ⟨bT, oT, none⟩) 2 cT]) (by simp [results, Try.results15, go_sem, z0, z1, z2, z3, z4]) rfl ⟨_, rfl, Lib.hid ⟨⟨_, _, _, rfl, HB1.out.grew gy, HB2.out.grew gy, HB3.out.grew gy⟩, HI.out.1, HI.out.2⟩, g.trans gy⟩
/-- What the operations of a region give. -/
def nwR (W : World) : (Nat → Value) → Nat → Value → World → Prop
  | _, 0, v, w => ∃ b0, v = .slice (some ⟨b0, 0, none⟩) 3 3 ∧ Ints.Row w W.heap.size (.slice (some ⟨b0, 0, none⟩) 3 3) [0, 0, 0]
  | _, 1, v, w => ∃ b0, v = .slice (some ⟨b0, 0, none⟩) 2 2 ∧ Ints.Row w W.heap.size (.slice (some ⟨b0, 0, none⟩) 2 2) [0, 0]
  | _, 2, v, w => ∃ b0, v = .slice (some ⟨b0, 0, none⟩) 2 2 ∧ Ints.Row w W.heap.size (.slice (some ⟨b0, 0, none⟩) 2 2) [0, 0]
  | _, _, _, _ => True
theorem nwR_grew {W : World} : ∀ vs j v w w', Grew w w' → nwR W vs j v w → nwR W vs j v w'
  | _, 0, _, _, _, g, ⟨b0, e, h0⟩ => ⟨b0, e, h0.grew g⟩
  | _, 1, _, _, _, g, ⟨b0, e, h0⟩ => ⟨b0, e, h0.grew g⟩
  | _, 2, _, _, _, g, ⟨b0, e, h0⟩ => ⟨b0, e, h0.grew g⟩
  | _, _ + 3, _, _, _, _, _ => True.intro
theorem nwR_lt {W : World} : ∀ vs j v w, ([0, 1, 2] : List Nat).contains j = true → nwR W vs j v w → ∀ g, leadsTo v = some g → g < w.heap.size
  | _, 0, _, w, _, ⟨b0, e, h0⟩ => by subst e; intro g hg; simp only [leadsTo, Option.some.injEq] at hg; subst hg; exact h0.lt
  | _, 1, _, w, _, ⟨b0, e, h0⟩ => by subst e; intro g hg; simp only [leadsTo, Option.some.injEq] at hg; subst hg; exact h0.lt
  | _, 2, _, w, _, ⟨b0, e, h0⟩ => by subst e; intro g hg; simp only [leadsTo, Option.some.injEq] at hg; subst hg; exact h0.lt
  | _, _ + 3, _, _, hc, _ => by simp at hc
theorem nwR_loc {W : World} : ∀ (vs vs' : Nat → Value) j v w, (∀ k ∈ ([[], [], []] : List (List Nat)).getD j [], vs k = vs' k) → nwR W vs j v w → nwR W vs' j v w
  | _, _, 0, _, _, _, h => h
  | _, _, 1, _, _, _, h => h
  | _, _, 2, _, _, _, h => h
  | _, _, _ + 3, _, _, _, _ => True.intro
set_option maxHeartbeats 2000000 in
theorem refNew_c {W w : World} (g : Grew W w) :
    Calls Try.prog 20 #[] w fun e w' => ∃ v', e = .returned v' ∧ Hid (Plr w' w.heap.size v' newV.ps) ∧ Grew W w' := by
  have hm3 : ∀ u : World, (Instr.makeSlice 22 (.int .i64 3) (.int .i64 3)).run Try.prog u = .ok (.slice (some ⟨u.heap.size, 0, none⟩) 3 3) (u.alloc (.cells #[.int .i64 0, .int .i64 0, .int .i64 0] 3)) := fun u => by
    obtain ⟨i0, hi, hz0, hz1, hz2⟩ := info_parts Ints.i_info
    have := run_make (P := Try.prog) (w := u) 22 3 i0 (.int .i64 0) Try.underlying22 hi hz0 .i64 .i64 3 3 (by decide) (by decide) (by rw [hz2]; decide) (by decide)
    rw [hz1, show madeCells (Value.int .i64 0).cells (Int.toNat 3 * 1) = #[.int .i64 0, .int .i64 0, .int .i64 0] by kernel_rfl] at this
    exact this
  have hm2 : ∀ u : World, (Instr.makeSlice 22 (.int .i64 2) (.int .i64 2)).run Try.prog u = .ok (.slice (some ⟨u.heap.size, 0, none⟩) 2 2) (u.alloc (.cells #[.int .i64 0, .int .i64 0] 3)) := fun u => by
    obtain ⟨i0, hi, hz0, hz1, hz2⟩ := info_parts Ints.i_info
    have := run_make (P := Try.prog) (w := u) 22 3 i0 (.int .i64 0) Try.underlying22 hi hz0 .i64 .i64 2 2 (by decide) (by decide) (by rw [hz2]; decide) (by decide)
    rw [hz1, show madeCells (Value.int .i64 0).cells (Int.toNat 2 * 1) = #[.int .i64 0, .int .i64 0] by kernel_rfl] at this
    exact this
  have HO := Lib.hid newV_ok.rows
  have hgs := g.size
  go_enter Try.func20, Try.ntmps20
  go_upto_region 1 with fail
  have r0 : Blk (w.alloc (.cells #[.slice none 0 0, .int .i64 0, .int .i64 0, .slice none 0 0, .slice none 0 0] 24)) w.heap.size #[.slice none 0 0, .int .i64 0, .int .i64 0, .slice none 0 0, .slice none 0 0] 24 := Blk.new _ _ _ _ rfl
  have g0 : Grew w (w.alloc (.cells #[.slice none 0 0, .int .i64 0, .int .i64 0, .slice none 0 0, .slice none 0 0] 24)) := (Grew.refl w).alloc _
  have s0 := r0.lt
  generalize (w.alloc (.cells #[.slice none 0 0, .int .i64 0, .int .i64 0, .slice none 0 0, .slice none 0 0] 24)) = w0 at *
  refine region_deps 3 [some 1, some 2, some 3] [[], [], []] [0, 1, 2] (nwR w0) nwR_grew nwR_lt nwR_loc (Grew.refl w0) (by kernel_rfl) (by kernel_rfl) ?_ ?_
  · simp only [List.take_succ_cons, List.take_zero]
    refine GivesAll.cons (fun vs w1 g1 hd K hK => ?_) ?_
    · simp only [putsT, Nat.zero_add, Nat.reduceAdd, List.getD_cons_zero, List.getD_cons_succ, Act.put, List.setIfInBounds_toArray, List.set_cons_zero, List.set_cons_succ] at hK ⊢
      go_simp
      exact hK _ _ ((Grew.refl _).alloc _) ⟨_, rfl, Ints.Row.lit w1 _ g1.size #[.int .i64 0, .int .i64 0, .int .i64 0] [0, 0, 0] rfl (by decide) _ rfl 3 rfl⟩ (fun _ g hg => by simp only [leadsTo, Option.some.injEq] at hg; subst hg; exact Nat.le_refl _)
    refine GivesAll.cons (fun vs w1 g1 hd K hK => ?_) ?_
    · simp only [putsT, Nat.zero_add, Nat.reduceAdd, List.getD_cons_zero, List.getD_cons_succ, Act.put, List.setIfInBounds_toArray, List.set_cons_zero, List.set_cons_succ] at hK ⊢
      go_simp
      exact hK _ _ ((Grew.refl _).alloc _) ⟨_, rfl, Ints.Row.lit w1 _ g1.size #[.int .i64 0, .int .i64 0] [0, 0] rfl (by decide) _ rfl 2 rfl⟩ (fun _ g hg => by simp only [leadsTo, Option.some.injEq] at hg; subst hg; exact Nat.le_refl _)
    refine GivesAll.cons (fun vs w1 g1 hd K hK => ?_) ?_
    · simp only [putsT, Nat.zero_add, Nat.reduceAdd, List.getD_cons_zero, List.getD_cons_succ, Act.put, List.setIfInBounds_toArray, List.set_cons_zero, List.set_cons_succ] at hK ⊢
      go_simp
      exact hK _ _ ((Grew.refl _).alloc _) ⟨_, rfl, Ints.Row.lit w1 _ g1.size #[.int .i64 0, .int .i64 0] [0, 0] rfl (by decide) _ rfl 2 rfl⟩ (fun _ g hg => by simp only [leadsTo, Option.some.injEq] at hg; subst hg; exact Nat.le_refl _)
    exact GivesAll.nil
  intro vs wz gz hv hap
  obtain ⟨b0_0, e0, r0_0⟩ := hv 0 (by decide)
  obtain ⟨b0_1, e1, r1_0⟩ := hv 1 (by decide)
  obtain ⟨b0_2, e2, r2_0⟩ := hv 2 (by decide)
  have n0_1 := hap 0 1 (by decide) (by decide) (by decide) (by decide) (by decide) _ (by rw [e0]; rfl)
  rw [e1] at n0_1
  simp only [leadsTo, ne_eq, Option.some.injEq] at n0_1
  have n0_2 := hap 0 2 (by decide) (by decide) (by decide) (by decide) (by decide) _ (by rw [e0]; rfl)
  rw [e2] at n0_2
  simp only [leadsTo, ne_eq, Option.some.injEq] at n0_2
  have n1_2 := hap 1 2 (by decide) (by decide) (by decide) (by decide) (by decide) _ (by rw [e1]; rfl)
  rw [e2] at n1_2
  simp only [leadsTo, ne_eq, Option.some.injEq] at n1_2
  clear hv hap
  simp only [putsT, Nat.zero_add, Nat.reduceAdd, List.getD_cons_zero, List.getD_cons_succ, Act.put, List.setIfInBounds_toArray, List.set_cons_zero, List.set_cons_succ, List.drop_succ_cons, List.drop_zero, e0, e1, e2]
  clear e0 e1 e2
  have r1 := r0.grew gz
  have G1 := g0.trans gz
  clear hm2 hm3
  have x0 := r1.cell 0
  have x1 := r1.cell 1
  have x2 := r1.cell 2
  have x3 := r1.cell 3
  have x4 := r1.cell 4
  have f0 := r1.free 0
  have f1 := r1.free 1
  have f2 := r1.free 2
  have f3 := r1.free 3
  have f4 := r1.free 4
  go_wp2_with fail
  clear x0 x1 x2 x3 x4 f0 f1 f2 f3 f4
  have R1 := (((((r0_0.set (c := w.heap.size) (by omega) (o := 0) (.slice (some ⟨b0_0, 0, none⟩) 3 3)).set (c := w.heap.size) (by omega) (o := 1) (.int .i64 0)).set (c := w.heap.size) (by omega) (o := 2) (.int .i64 0)).set (c := w.heap.size) (by omega) (o := 3) (.slice (some ⟨b0_1, 0, none⟩) 2 2)).set (c := w.heap.size) (by omega) (o := 4) (.slice (some ⟨b0_2, 0, none⟩) 2 2))
  have R2 := (((((r1_0.set (c := w.heap.size) (by omega) (o := 0) (.slice (some ⟨b0_0, 0, none⟩) 3 3)).set (c := w.heap.size) (by omega) (o := 1) (.int .i64 0)).set (c := w.heap.size) (by omega) (o := 2) (.int .i64 0)).set (c := w.heap.size) (by omega) (o := 3) (.slice (some ⟨b0_1, 0, none⟩) 2 2)).set (c := w.heap.size) (by omega) (o := 4) (.slice (some ⟨b0_2, 0, none⟩) 2 2))
  have R3 := (((((r2_0.set (c := w.heap.size) (by omega) (o := 0) (.slice (some ⟨b0_0, 0, none⟩) 3 3)).set (c := w.heap.size) (by omega) (o := 1) (.int .i64 0)).set (c := w.heap.size) (by omega) (o := 2) (.int .i64 0)).set (c := w.heap.size) (by omega) (o := 3) (.slice (some ⟨b0_1, 0, none⟩) 2 2)).set (c := w.heap.size) (by omega) (o := 4) (.slice (some ⟨b0_2, 0, none⟩) 2 2))
  have lo : w.heap.size ≤ w0.heap.size := by omega
  have ky := (((((r1.set (o := 0) (.slice (some ⟨b0_0, 0, none⟩) 3 3)).set (o := 1) (.int .i64 0)).set (o := 2) (.int .i64 0)).set (o := 3) (.slice (some ⟨b0_1, 0, none⟩) 2 2)).set (o := 4) (.slice (some ⟨b0_2, 0, none⟩) 2 2))
  have gy := (((((G1.setCell (b := w.heap.size) (o := 0) (by omega) (.slice (some ⟨b0_0, 0, none⟩) 3 3)).setCell (b := w.heap.size) (o := 1) (by omega) (.int .i64 0)).setCell (b := w.heap.size) (o := 2) (by omega) (.int .i64 0)).setCell (b := w.heap.size) (o := 3) (by omega) (.slice (some ⟨b0_1, 0, none⟩) 2 2)).setCell (b := w.heap.size) (o := 4) (by omega) (.slice (some ⟨b0_2, 0, none⟩) 2 2))
  generalize (((((wz.setCell ⟨w.heap.size, 0, none⟩ (.slice (some ⟨b0_0, 0, none⟩) 3 3)).setCell ⟨w.heap.size, 1, none⟩ (.int .i64 0)).setCell ⟨w.heap.size, 2, none⟩ (.int .i64 0)).setCell ⟨w.heap.size, 3, none⟩ (.slice (some ⟨b0_1, 0, none⟩) 2 2)).setCell ⟨w.heap.size, 4, none⟩ (.slice (some ⟨b0_2, 0, none⟩) 2 2)) = wy at *
  have z0 := ky.cell 0
  have z1 := ky.cell 1
  have z2 := ky.cell 2
  have z3 := ky.cell 3
  have z4 := ky.cell 4
  exact bodyPost_ret (v := .agg #[.slice (some ⟨b0_0, 0, none⟩) 3 3, .int .i64 0, .int .i64 0, .slice (some ⟨b0_1, 0, none⟩) 2 2, .slice (some ⟨b0_2, 0, none⟩) 2 2]) (by simp [results, Try.results20, go_sem, z0, z1, z2, z3, z4]) rfl ⟨_, rfl, Lib.hid ⟨⟨_, _, _, rfl, R1.low lo, R2.low lo, R3.low lo⟩, HO.out.1, HO.out.2.1, HO.out.2.2.1, HO.out.2.2.2.1, HO.out.2.2.2.2⟩, g.trans gy⟩
end Go.Proofs.Ytpanecflmoebiaa
