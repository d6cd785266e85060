/-
  The document's own claim, Load.
-/
import Derived.Test.YtpanecflmoebiaaPlP
set_option linter.unusedVariables false
set_option linter.unusedSimpArgs false
namespace Go.Proofs.Ytpanecflmoebiaa
open Go.RowKit

theorem claim_none {s : VS} (h : s.Ok) : (s.claim 0).ps = s.ps := by
  have h1 : bits .andNot .i64 s.n (onlyV 0) = s.n := by rcases h.n with e | e | e | e <;> rw [e] <;> decide
  have h2 : bits .or .i64 s.k (onlyV 0) = s.k := by rcases h.k with e | e | e | e <;> rw [e] <;> decide
  simp only [VS.claim, h1, h2]
set_option maxHeartbeats 2000000 in
theorem refClaim_c {vP vE vT : Value} {s : VS} (hs : s.Ok) {x : Int} (hx : x = 0 ∨ x = 1) {W w : World} (hb : Pl w (.agg #[vP, .int .i64 s.n, .int .i64 s.k, vE, vT]) s.ps) (g : Grew W w) :
    Calls Try.prog 29 #[.agg #[vP, .int .i64 s.n, .int .i64 s.k, vE, vT], .int .i64 x] w fun e w' => e = .returned (.tuple #[.int .u64 (s.best x), .agg #[vP, .int .i64 (s.claim (s.best x)).n, .int .i64 (s.claim (s.best x)).k, vE, vT], .bool true]) ∧ Grew W w' := by
  have hBs := fun (w1 : World) (g1 : Grew w w1) => refBest_yes hs hx (hb.grew g1) (Grew.refl w1)
  have hin := s.best_in x
  have hno1 : (s.claim 0).n = s.n := congrArg PS.n (claim_none hs)
  have hno2 : (s.claim 0).k = s.k := congrArg PS.k (claim_none hs)
  have hgs := g.size
  generalize s.best x = b at *
  clear hx hs
  rcases hin with rfl | rfl | rfl
  · skip
    rw [hno1, hno2]
    have HBs := Lib.hid hBs
    clear hBs hno1 hno2
    have HV := Lib.hid hb
    obtain ⟨uP, uE, uT, eU, h1, h2, h3⟩ := hb.shape
    simp at eU
    obtain ⟨rfl, rfl, rfl⟩ := eU
    obtain ⟨bP, oP, cP, rfl, lP, hP⟩ := h1.at (by simp)
    obtain ⟨bE, oE, cE, rfl, lE, hE⟩ := h2.at (by simp)
    obtain ⟨bT, oT, cT, rfl, lT, hT⟩ := h3.at (by simp)
    have HB1 := Lib.hid h1
    have HB2 := Lib.hid h2
    have HB3 := Lib.hid h3
    clear h1 h2 h3 hb
    obtain ⟨p1, p2, n, k, e0, t0, e1, t1⟩ := s
    have cP0 : w.cell? ⟨bP, oP, none⟩ = some (.int .i64 0) := hP 0 (by simp)
    have cP1 : w.cell? ⟨bP, oP + 1, none⟩ = some (.int .i64 p1) := hP 1 (by simp)
    have cP2 : w.cell? ⟨bP, oP + 2, none⟩ = some (.int .i64 p2) := hP 2 (by simp)
    have cE0 : w.cell? ⟨bE, oE, none⟩ = some (.int .i64 e0) := hE 0 (by simp)
    have cE1 : w.cell? ⟨bE, oE + 1, none⟩ = some (.int .i64 e1) := hE 1 (by simp)
    have cT0 : w.cell? ⟨bT, oT, none⟩ = some (.int .i64 t0) := hT 0 (by simp)
    have cT1 : w.cell? ⟨bT, oT + 1, none⟩ = some (.int .i64 t1) := hT 1 (by simp)
    clear hP hE hT
    dsimp only [VS.ps, VS.claim] at HV HB1 HB2 HB3 ⊢
    simp only [List.length_cons, List.length_nil, Nat.zero_add, Nat.reduceAdd] at HV HB1 HB2 HB3 ⊢
    go_enter Try.func29, Try.ntmps29
    go_upto_region 1 with fail
    have k0 : Blk ((w.alloc (.cells #[.slice (some ⟨bP, oP, none⟩) 3 cP, .int .i64 n, .int .i64 k, .slice (some ⟨bE, oE, none⟩) 2 cE, .slice (some ⟨bT, oT, none⟩) 2 cT] 24)).alloc (.cells #[.slice none 0 0, .int .i64 0, .int .i64 0, .slice none 0 0, .slice none 0 0] 24)) w.heap.size #[.slice (some ⟨bP, oP, none⟩) 3 cP, .int .i64 n, .int .i64 k, .slice (some ⟨bE, oE, none⟩) 2 cE, .slice (some ⟨bT, oT, none⟩) 2 cT] 24 := (Blk.new _ _ _ _ rfl).alloc _
    have r0 : Blk ((w.alloc (.cells #[.slice (some ⟨bP, oP, none⟩) 3 cP, .int .i64 n, .int .i64 k, .slice (some ⟨bE, oE, none⟩) 2 cE, .slice (some ⟨bT, oT, none⟩) 2 cT] 24)).alloc (.cells #[.slice none 0 0, .int .i64 0, .int .i64 0, .slice none 0 0, .slice none 0 0] 24)) (w.heap.size + 1) #[.slice none 0 0, .int .i64 0, .int .i64 0, .slice none 0 0, .slice none 0 0] 24 := Blk.new _ _ _ _ (by simp)
    have g0 : Grew w ((w.alloc (.cells #[.slice (some ⟨bP, oP, none⟩) 3 cP, .int .i64 n, .int .i64 k, .slice (some ⟨bE, oE, none⟩) 2 cE, .slice (some ⟨bT, oT, none⟩) 2 cT] 24)).alloc (.cells #[.slice none 0 0, .int .i64 0, .int .i64 0, .slice none 0 0, .slice none 0 0] 24)) := ((Grew.refl w).alloc _).alloc _
    have s0 := r0.lt
    generalize ((w.alloc (.cells #[.slice (some ⟨bP, oP, none⟩) 3 cP, .int .i64 n, .int .i64 k, .slice (some ⟨bE, oE, none⟩) 2 cE, .slice (some ⟨bT, oT, none⟩) 2 cT] 24)).alloc (.cells #[.slice none 0 0, .int .i64 0, .int .i64 0, .slice none 0 0, .slice none 0 0] 24)) = w0 at *
    have y0 := k0.cell 0
    have y1 := k0.cell 1
    have y2 := k0.cell 2
    have y3 := k0.cell 3
    have y4 := k0.cell 4
    go_wp2_with fail
    refine (HBs.out _ g0).mono ?_
    rintro e w1 ⟨rfl, g1⟩
    clear y0 y1 y2 y3 y4
    have k1 := k0.grew g1
    have r1 := r0.grew g1
    have G1 := g0.trans g1
    clear k0 r0 g0 g1 HBs
    go_upto_region 5 with fail
    have z0 := fun z : Over w1 => k1.overCell 0 _ rfl z
    have z1 := fun z : Over w1 => k1.overCell 1 _ rfl z
    have z2 := fun z : Over w1 => k1.overCell 2 _ rfl z
    have z3 := fun z : Over w1 => k1.overCell 3 _ rfl z
    have z4 := fun z : Over w1 => k1.overCell 4 _ rfl z
    refine region_over_tail 4 (by kernel_rfl) (by kernel_rfl) ?_
    simp only [List.take_succ_cons, List.take_zero, List.drop_succ_cons, List.drop_zero]
    repeat (first | go_big_quiet_step (fail) | quiet_step (fail))
    refine wpQuiet_nil ?_
    intro z
    have r5 := r1.over z
    have G5 := G1.trans z.g
    clear z0 z1 z2 z3 z4 k1 r1 G1
    generalize z.w = w5 at *
    have x0 := r5.cell 0
    have x1 := r5.cell 1
    have x2 := r5.cell 2
    have x3 := r5.cell 3
    have x4 := r5.cell 4
    have f0 := r5.free 0
    have f1 := r5.free 1
    have f2 := r5.free 2
    have f3 := r5.free 3
    have f4 := r5.free 4
    go_wp2_with fail
    clear x0 x1 x2 x3 x4 f0 f1 f2 f3 f4
    have ky := (((((r5.set (o := 0) (.slice (some ⟨bP, oP, none⟩) 3 cP)).set (o := 1) (.int .i64 n)).set (o := 2) (.int .i64 k)).set (o := 3) (.slice (some ⟨bE, oE, none⟩) 2 cE)).set (o := 4) (.slice (some ⟨bT, oT, none⟩) 2 cT))
    have gy := (((((G5.setCell (b := (w.heap.size + 1)) (o := 0) (by omega) (.slice (some ⟨bP, oP, none⟩) 3 cP)).setCell (b := (w.heap.size + 1)) (o := 1) (by omega) (.int .i64 n)).setCell (b := (w.heap.size + 1)) (o := 2) (by omega) (.int .i64 k)).setCell (b := (w.heap.size + 1)) (o := 3) (by omega) (.slice (some ⟨bE, oE, none⟩) 2 cE)).setCell (b := (w.heap.size + 1)) (o := 4) (by omega) (.slice (some ⟨bT, oT, none⟩) 2 cT))
    generalize (((((w5.setCell ⟨(w.heap.size + 1), 0, none⟩ (.slice (some ⟨bP, oP, none⟩) 3 cP)).setCell ⟨(w.heap.size + 1), 1, none⟩ (.int .i64 n)).setCell ⟨(w.heap.size + 1), 2, none⟩ (.int .i64 k)).setCell ⟨(w.heap.size + 1), 3, none⟩ (.slice (some ⟨bE, oE, none⟩) 2 cE)).setCell ⟨(w.heap.size + 1), 4, none⟩ (.slice (some ⟨bT, oT, none⟩) 2 cT)) = wy at *
    have z0 := ky.cell 0
    have z1 := ky.cell 1
    have z2 := ky.cell 2
    have z3 := ky.cell 3
    have z4 := ky.cell 4
    exact bodyPost_ret (v := .tuple #[.int .u64 0, .agg #[.slice (some ⟨bP, oP, none⟩) 3 cP, .int .i64 n, .int .i64 k, .slice (some ⟨bE, oE, none⟩) 2 cE, .slice (some ⟨bT, oT, none⟩) 2 cT], .bool true]) (by simp [results, Try.results29, go_sem, z0, z1, z2, z3, z4]) rfl ⟨rfl, g.trans gy⟩
  · skip
    have HBs := Lib.hid hBs
    clear hBs hno1 hno2
    have HV := Lib.hid hb
    obtain ⟨uP, uE, uT, eU, h1, h2, h3⟩ := hb.shape
    simp at eU
    obtain ⟨rfl, rfl, rfl⟩ := eU
    obtain ⟨bP, oP, cP, rfl, lP, hP⟩ := h1.at (by simp)
    obtain ⟨bE, oE, cE, rfl, lE, hE⟩ := h2.at (by simp)
    obtain ⟨bT, oT, cT, rfl, lT, hT⟩ := h3.at (by simp)
    have HB1 := Lib.hid h1
    have HB2 := Lib.hid h2
    have HB3 := Lib.hid h3
    clear h1 h2 h3 hb
    obtain ⟨p1, p2, n, k, e0, t0, e1, t1⟩ := s
    have cP0 : w.cell? ⟨bP, oP, none⟩ = some (.int .i64 0) := hP 0 (by simp)
    have cP1 : w.cell? ⟨bP, oP + 1, none⟩ = some (.int .i64 p1) := hP 1 (by simp)
    have cP2 : w.cell? ⟨bP, oP + 2, none⟩ = some (.int .i64 p2) := hP 2 (by simp)
    have cE0 : w.cell? ⟨bE, oE, none⟩ = some (.int .i64 e0) := hE 0 (by simp)
    have cE1 : w.cell? ⟨bE, oE + 1, none⟩ = some (.int .i64 e1) := hE 1 (by simp)
    have cT0 : w.cell? ⟨bT, oT, none⟩ = some (.int .i64 t0) := hT 0 (by simp)
    have cT1 : w.cell? ⟨bT, oT + 1, none⟩ = some (.int .i64 t1) := hT 1 (by simp)
    clear hP hE hT
    dsimp only [VS.ps, VS.claim] at HV HB1 HB2 HB3 ⊢
    simp only [List.length_cons, List.length_nil, Nat.zero_add, Nat.reduceAdd] at HV HB1 HB2 HB3 ⊢
    go_enter Try.func29, Try.ntmps29
    go_upto_region 1 with fail
    have k0 : Blk ((w.alloc (.cells #[.slice (some ⟨bP, oP, none⟩) 3 cP, .int .i64 n, .int .i64 k, .slice (some ⟨bE, oE, none⟩) 2 cE, .slice (some ⟨bT, oT, none⟩) 2 cT] 24)).alloc (.cells #[.slice none 0 0, .int .i64 0, .int .i64 0, .slice none 0 0, .slice none 0 0] 24)) w.heap.size #[.slice (some ⟨bP, oP, none⟩) 3 cP, .int .i64 n, .int .i64 k, .slice (some ⟨bE, oE, none⟩) 2 cE, .slice (some ⟨bT, oT, none⟩) 2 cT] 24 := (Blk.new _ _ _ _ rfl).alloc _
    have r0 : Blk ((w.alloc (.cells #[.slice (some ⟨bP, oP, none⟩) 3 cP, .int .i64 n, .int .i64 k, .slice (some ⟨bE, oE, none⟩) 2 cE, .slice (some ⟨bT, oT, none⟩) 2 cT] 24)).alloc (.cells #[.slice none 0 0, .int .i64 0, .int .i64 0, .slice none 0 0, .slice none 0 0] 24)) (w.heap.size + 1) #[.slice none 0 0, .int .i64 0, .int .i64 0, .slice none 0 0, .slice none 0 0] 24 := Blk.new _ _ _ _ (by simp)
    have g0 : Grew w ((w.alloc (.cells #[.slice (some ⟨bP, oP, none⟩) 3 cP, .int .i64 n, .int .i64 k, .slice (some ⟨bE, oE, none⟩) 2 cE, .slice (some ⟨bT, oT, none⟩) 2 cT] 24)).alloc (.cells #[.slice none 0 0, .int .i64 0, .int .i64 0, .slice none 0 0, .slice none 0 0] 24)) := ((Grew.refl w).alloc _).alloc _
    have s0 := r0.lt
    generalize ((w.alloc (.cells #[.slice (some ⟨bP, oP, none⟩) 3 cP, .int .i64 n, .int .i64 k, .slice (some ⟨bE, oE, none⟩) 2 cE, .slice (some ⟨bT, oT, none⟩) 2 cT] 24)).alloc (.cells #[.slice none 0 0, .int .i64 0, .int .i64 0, .slice none 0 0, .slice none 0 0] 24)) = w0 at *
    have y0 := k0.cell 0
    have y1 := k0.cell 1
    have y2 := k0.cell 2
    have y3 := k0.cell 3
    have y4 := k0.cell 4
    go_wp2_with fail
    refine (HBs.out _ g0).mono ?_
    rintro e w1 ⟨rfl, g1⟩
    clear y0 y1 y2 y3 y4
    have k1 := k0.grew g1
    have r1 := r0.grew g1
    have G1 := g0.trans g1
    clear k0 r0 g0 g1 HBs
    have y1 := k1.cell 1
    have u1 := k1.free 1
    go_upto_region 4 with fail
    have k2 := k1.set (o := 1) (.int .i64 (bits .andNot .i64 n 2))
    have r2 := r1.other (show w.heap.size + 1 ≠ w.heap.size by omega) (o := 1) (.int .i64 (bits .andNot .i64 n 2))
    have G2 := G1.setCell (b := w.heap.size) (o := 1) (Nat.le_refl _) (.int .i64 (bits .andNot .i64 n 2))
    clear y1 u1 k1 r1 G1
    generalize w1.setCell ⟨w.heap.size, 1, none⟩ (.int .i64 (bits .andNot .i64 n 2)) = w2 at *
    have y2 := k2.cell 2
    have u2 := k2.free 2
    go_upto_region 5 with fail
    have k3 := k2.set (o := 2) (.int .i64 (bits .or .i64 k 2))
    have r3 := r2.other (show w.heap.size + 1 ≠ w.heap.size by omega) (o := 2) (.int .i64 (bits .or .i64 k 2))
    have G3 := G2.setCell (b := w.heap.size) (o := 2) (Nat.le_refl _) (.int .i64 (bits .or .i64 k 2))
    clear y2 u2 k2 r2 G2
    generalize w2.setCell ⟨w.heap.size, 2, none⟩ (.int .i64 (bits .or .i64 k 2)) = w3 at *
    have z0 := fun z : Over w3 => k3.overCell 0 _ rfl z
    have z1 := fun z : Over w3 => k3.overCell 1 _ rfl z
    have z2 := fun z : Over w3 => k3.overCell 2 _ rfl z
    have z3 := fun z : Over w3 => k3.overCell 3 _ rfl z
    have z4 := fun z : Over w3 => k3.overCell 4 _ rfl z
    refine region_over_tail 4 (by kernel_rfl) (by kernel_rfl) ?_
    simp only [List.take_succ_cons, List.take_zero, List.drop_succ_cons, List.drop_zero]
    repeat (first | go_big_quiet_step (fail) | quiet_step (fail))
    refine wpQuiet_nil ?_
    intro z
    have r5 := r3.over z
    have G5 := G3.trans z.g
    clear z0 z1 z2 z3 z4 k3 r3 G3
    generalize z.w = w5 at *
    have x0 := r5.cell 0
    have x1 := r5.cell 1
    have x2 := r5.cell 2
    have x3 := r5.cell 3
    have x4 := r5.cell 4
    have f0 := r5.free 0
    have f1 := r5.free 1
    have f2 := r5.free 2
    have f3 := r5.free 3
    have f4 := r5.free 4
    go_wp2_with fail
    clear x0 x1 x2 x3 x4 f0 f1 f2 f3 f4
    have ky := (((((r5.set (o := 0) (.slice (some ⟨bP, oP, none⟩) 3 cP)).set (o := 1) (.int .i64 (bits .andNot .i64 n 2))).set (o := 2) (.int .i64 (bits .or .i64 k 2))).set (o := 3) (.slice (some ⟨bE, oE, none⟩) 2 cE)).set (o := 4) (.slice (some ⟨bT, oT, none⟩) 2 cT))
    have gy := (((((G5.setCell (b := (w.heap.size + 1)) (o := 0) (by omega) (.slice (some ⟨bP, oP, none⟩) 3 cP)).setCell (b := (w.heap.size + 1)) (o := 1) (by omega) (.int .i64 (bits .andNot .i64 n 2))).setCell (b := (w.heap.size + 1)) (o := 2) (by omega) (.int .i64 (bits .or .i64 k 2))).setCell (b := (w.heap.size + 1)) (o := 3) (by omega) (.slice (some ⟨bE, oE, none⟩) 2 cE)).setCell (b := (w.heap.size + 1)) (o := 4) (by omega) (.slice (some ⟨bT, oT, none⟩) 2 cT))
    generalize (((((w5.setCell ⟨(w.heap.size + 1), 0, none⟩ (.slice (some ⟨bP, oP, none⟩) 3 cP)).setCell ⟨(w.heap.size + 1), 1, none⟩ (.int .i64 (bits .andNot .i64 n 2))).setCell ⟨(w.heap.size + 1), 2, none⟩ (.int .i64 (bits .or .i64 k 2))).setCell ⟨(w.heap.size + 1), 3, none⟩ (.slice (some ⟨bE, oE, none⟩) 2 cE)).setCell ⟨(w.heap.size + 1), 4, none⟩ (.slice (some ⟨bT, oT, none⟩) 2 cT)) = wy at *
    have z0 := ky.cell 0
    have z1 := ky.cell 1
    have z2 := ky.cell 2
    have z3 := ky.cell 3
    have z4 := ky.cell 4
    exact bodyPost_ret (v := .tuple #[.int .u64 1, .agg #[.slice (some ⟨bP, oP, none⟩) 3 cP, .int .i64 (bits .andNot .i64 n 2), .int .i64 (bits .or .i64 k 2), .slice (some ⟨bE, oE, none⟩) 2 cE, .slice (some ⟨bT, oT, none⟩) 2 cT], .bool true]) (by simp [results, Try.results29, go_sem, z0, z1, z2, z3, z4]) rfl ⟨rfl, g.trans gy⟩
  · skip
    have HBs := Lib.hid hBs
    clear hBs hno1 hno2
    have HV := Lib.hid hb
    obtain ⟨uP, uE, uT, eU, h1, h2, h3⟩ := hb.shape
    simp at eU
    obtain ⟨rfl, rfl, rfl⟩ := eU
    obtain ⟨bP, oP, cP, rfl, lP, hP⟩ := h1.at (by simp)
    obtain ⟨bE, oE, cE, rfl, lE, hE⟩ := h2.at (by simp)
    obtain ⟨bT, oT, cT, rfl, lT, hT⟩ := h3.at (by simp)
    have HB1 := Lib.hid h1
    have HB2 := Lib.hid h2
    have HB3 := Lib.hid h3
    clear h1 h2 h3 hb
    obtain ⟨p1, p2, n, k, e0, t0, e1, t1⟩ := s
    have cP0 : w.cell? ⟨bP, oP, none⟩ = some (.int .i64 0) := hP 0 (by simp)
    have cP1 : w.cell? ⟨bP, oP + 1, none⟩ = some (.int .i64 p1) := hP 1 (by simp)
    have cP2 : w.cell? ⟨bP, oP + 2, none⟩ = some (.int .i64 p2) := hP 2 (by simp)
    have cE0 : w.cell? ⟨bE, oE, none⟩ = some (.int .i64 e0) := hE 0 (by simp)
    have cE1 : w.cell? ⟨bE, oE + 1, none⟩ = some (.int .i64 e1) := hE 1 (by simp)
    have cT0 : w.cell? ⟨bT, oT, none⟩ = some (.int .i64 t0) := hT 0 (by simp)
    have cT1 : w.cell? ⟨bT, oT + 1, none⟩ = some (.int .i64 t1) := hT 1 (by simp)
    clear hP hE hT
    dsimp only [VS.ps, VS.claim] at HV HB1 HB2 HB3 ⊢
    simp only [List.length_cons, List.length_nil, Nat.zero_add, Nat.reduceAdd] at HV HB1 HB2 HB3 ⊢
    go_enter Try.func29, Try.ntmps29
    go_upto_region 1 with fail
    have k0 : Blk ((w.alloc (.cells #[.slice (some ⟨bP, oP, none⟩) 3 cP, .int .i64 n, .int .i64 k, .slice (some ⟨bE, oE, none⟩) 2 cE, .slice (some ⟨bT, oT, none⟩) 2 cT] 24)).alloc (.cells #[.slice none 0 0, .int .i64 0, .int .i64 0, .slice none 0 0, .slice none 0 0] 24)) w.heap.size #[.slice (some ⟨bP, oP, none⟩) 3 cP, .int .i64 n, .int .i64 k, .slice (some ⟨bE, oE, none⟩) 2 cE, .slice (some ⟨bT, oT, none⟩) 2 cT] 24 := (Blk.new _ _ _ _ rfl).alloc _
    have r0 : Blk ((w.alloc (.cells #[.slice (some ⟨bP, oP, none⟩) 3 cP, .int .i64 n, .int .i64 k, .slice (some ⟨bE, oE, none⟩) 2 cE, .slice (some ⟨bT, oT, none⟩) 2 cT] 24)).alloc (.cells #[.slice none 0 0, .int .i64 0, .int .i64 0, .slice none 0 0, .slice none 0 0] 24)) (w.heap.size + 1) #[.slice none 0 0, .int .i64 0, .int .i64 0, .slice none 0 0, .slice none 0 0] 24 := Blk.new _ _ _ _ (by simp)
    have g0 : Grew w ((w.alloc (.cells #[.slice (some ⟨bP, oP, none⟩) 3 cP, .int .i64 n, .int .i64 k, .slice (some ⟨bE, oE, none⟩) 2 cE, .slice (some ⟨bT, oT, none⟩) 2 cT] 24)).alloc (.cells #[.slice none 0 0, .int .i64 0, .int .i64 0, .slice none 0 0, .slice none 0 0] 24)) := ((Grew.refl w).alloc _).alloc _
    have s0 := r0.lt
    generalize ((w.alloc (.cells #[.slice (some ⟨bP, oP, none⟩) 3 cP, .int .i64 n, .int .i64 k, .slice (some ⟨bE, oE, none⟩) 2 cE, .slice (some ⟨bT, oT, none⟩) 2 cT] 24)).alloc (.cells #[.slice none 0 0, .int .i64 0, .int .i64 0, .slice none 0 0, .slice none 0 0] 24)) = w0 at *
    have y0 := k0.cell 0
    have y1 := k0.cell 1
    have y2 := k0.cell 2
    have y3 := k0.cell 3
    have y4 := k0.cell 4
    go_wp2_with fail
    refine (HBs.out _ g0).mono ?_
    rintro e w1 ⟨rfl, g1⟩
    clear y0 y1 y2 y3 y4
    have k1 := k0.grew g1
    have r1 := r0.grew g1
    have G1 := g0.trans g1
    clear k0 r0 g0 g1 HBs
    have y1 := k1.cell 1
    have u1 := k1.free 1
    go_upto_region 4 with fail
    have k2 := k1.set (o := 1) (.int .i64 (bits .andNot .i64 n 4))
    have r2 := r1.other (show w.heap.size + 1 ≠ w.heap.size by omega) (o := 1) (.int .i64 (bits .andNot .i64 n 4))
    have G2 := G1.setCell (b := w.heap.size) (o := 1) (Nat.le_refl _) (.int .i64 (bits .andNot .i64 n 4))
    clear y1 u1 k1 r1 G1
    generalize w1.setCell ⟨w.heap.size, 1, none⟩ (.int .i64 (bits .andNot .i64 n 4)) = w2 at *
    have y2 := k2.cell 2
    have u2 := k2.free 2
    go_upto_region 5 with fail
    have k3 := k2.set (o := 2) (.int .i64 (bits .or .i64 k 4))
    have r3 := r2.other (show w.heap.size + 1 ≠ w.heap.size by omega) (o := 2) (.int .i64 (bits .or .i64 k 4))
    have G3 := G2.setCell (b := w.heap.size) (o := 2) (Nat.le_refl _) (.int .i64 (bits .or .i64 k 4))
    clear y2 u2 k2 r2 G2
    generalize w2.setCell ⟨w.heap.size, 2, none⟩ (.int .i64 (bits .or .i64 k 4)) = w3 at *
    have z0 := fun z : Over w3 => k3.overCell 0 _ rfl z
    have z1 := fun z : Over w3 => k3.overCell 1 _ rfl z
    have z2 := fun z : Over w3 => k3.overCell 2 _ rfl z
    have z3 := fun z : Over w3 => k3.overCell 3 _ rfl z
    have z4 := fun z : Over w3 => k3.overCell 4 _ rfl z
    refine region_over_tail 4 (by kernel_rfl) (by kernel_rfl) ?_
    simp only [List.take_succ_cons, List.take_zero, List.drop_succ_cons, List.drop_zero]
    repeat (first | go_big_quiet_step (fail) | quiet_step (fail))
    refine wpQuiet_nil ?_
    intro z
    have r5 := r3.over z
    have G5 := G3.trans z.g
    clear z0 z1 z2 z3 z4 k3 r3 G3
    generalize z.w = w5 at *
    have x0 := r5.cell 0
    have x1 := r5.cell 1
    have x2 := r5.cell 2
    have x3 := r5.cell 3
    have x4 := r5.cell 4
    have f0 := r5.free 0
    have f1 := r5.free 1
    have f2 := r5.free 2
    have f3 := r5.free 3
    have f4 := r5.free 4
    go_wp2_with fail
    clear x0 x1 x2 x3 x4 f0 f1 f2 f3 f4
    have ky := (((((r5.set (o := 0) (.slice (some ⟨bP, oP, none⟩) 3 cP)).set (o := 1) (.int .i64 (bits .andNot .i64 n 4))).set (o := 2) (.int .i64 (bits .or .i64 k 4))).set (o := 3) (.slice (some ⟨bE, oE, none⟩) 2 cE)).set (o := 4) (.slice (some ⟨bT, oT, none⟩) 2 cT))
    have gy := (((((G5.setCell (b := (w.heap.size + 1)) (o := 0) (by omega) (.slice (some ⟨bP, oP, none⟩) 3 cP)).setCell (b := (w.heap.size + 1)) (o := 1) (by omega) (.int .i64 (bits .andNot .i64 n 4))).setCell (b := (w.heap.size + 1)) (o := 2) (by omega) (.int .i64 (bits .or .i64 k 4))).setCell (b := (w.heap.size + 1)) (o := 3) (by omega) (.slice (some ⟨bE, oE, none⟩) 2 cE)).setCell (b := (w.heap.size + 1)) (o := 4) (by omega) (.slice (some ⟨bT, oT, none⟩) 2 cT))
    generalize (((((w5.setCell ⟨(w.heap.size + 1), 0, none⟩ (.slice (some ⟨bP, oP, none⟩) 3 cP)).setCell ⟨(w.heap.size + 1), 1, none⟩ (.int .i64 (bits .andNot .i64 n 4))).setCell ⟨(w.heap.size + 1), 2, none⟩ (.int .i64 (bits .or .i64 k 4))).setCell ⟨(w.heap.size + 1), 3, none⟩ (.slice (some ⟨bE, oE, none⟩) 2 cE)).setCell ⟨(w.heap.size + 1), 4, none⟩ (.slice (some ⟨bT, oT, none⟩) 2 cT)) = wy at *
    have z0 := ky.cell 0
    have z1 := ky.cell 1
    have z2 := ky.cell 2
    have z3 := ky.cell 3
    have z4 := ky.cell 4
    exact bodyPost_ret (v := .tuple #[.int .u64 2, .agg #[.slice (some ⟨bP, oP, none⟩) 3 cP, .int .i64 (bits .andNot .i64 n 4), .int .i64 (bits .or .i64 k 4), .slice (some ⟨bE, oE, none⟩) 2 cE, .slice (some ⟨bT, oT, none⟩) 2 cT], .bool true]) (by simp [results, Try.results29, go_sem, z0, z1, z2, z3, z4]) rfl ⟨rfl, g.trans gy⟩
set_option maxHeartbeats 2000000 in
theorem refLoad_bad {v : Value} {s : PS} (off size : Int) (hbad : Bad s off size) {W w : World} (hb : Pl w v s) (g : Grew W w) :
    Calls Try.prog 13 #[v, .int .u64 off, .int .i64 size] w fun e w' => ∃ v', e = .returned (.tuple #[.int .u64 0, v', .bool false]) ∧ Hid (Pl w' v' s) ∧ Grew W w' := by
  have hC := fun (w1 : World) (g1 : Grew w w1) => refCheck_c (Grew.refl w1) (hb.grew g1)
  have HC := Lib.hid hC
  have hgs := g.size
  clear hC
  have hbad' : chk s = false ∨ (chk s = true ∧ (size != 4) = true) ∨ (chk s = true ∧ (size != 4) = false ∧ regAt off = 0) := by
    cases hc : chk s
    · exact .inl rfl
    · rcases hbad with h | h | h
      · rw [hc] at h; cases h
      · exact .inr (.inl ⟨rfl, by simpa using h⟩)
      · by_cases h4 : size = 4
        · exact .inr (.inr ⟨rfl, by simp [h4], h⟩)
        · exact .inr (.inl ⟨rfl, by simpa using h4⟩)
  clear hbad
  have HV := Lib.hid hb
  obtain ⟨vP, vE, vT, rfl, h1, h2, h3⟩ := hb.shape
  obtain ⟨aP, cP, rfl, _, _⟩ := h1.shape
  obtain ⟨aE, cE, rfl, _, _⟩ := h2.shape
  obtain ⟨aT, cT, rfl, _, _⟩ := h3.shape
  clear h1 h2 h3 hb
  rcases hbad' with h | ⟨h, h4⟩ | ⟨h, h4, hr⟩
  · skip
    rw [h] at HC
    clear h
    go_enter Try.func13, Try.ntmps13
    go_upto_region 1 with fail
    have k0 : Blk ((w.alloc (.cells #[.slice aP s.pr.length cP, .int .i64 s.n, .int .i64 s.k, .slice aE s.en.length cE, .slice aT s.th.length cT] 24)).alloc (.cells #[.slice none 0 0, .int .i64 0, .int .i64 0, .slice none 0 0, .slice none 0 0] 24)) w.heap.size #[.slice aP s.pr.length cP, .int .i64 s.n, .int .i64 s.k, .slice aE s.en.length cE, .slice aT s.th.length cT] 24 := (Blk.new _ _ _ _ rfl).alloc _
    have r0 : Blk ((w.alloc (.cells #[.slice aP s.pr.length cP, .int .i64 s.n, .int .i64 s.k, .slice aE s.en.length cE, .slice aT s.th.length cT] 24)).alloc (.cells #[.slice none 0 0, .int .i64 0, .int .i64 0, .slice none 0 0, .slice none 0 0] 24)) (w.heap.size + 1) #[.slice none 0 0, .int .i64 0, .int .i64 0, .slice none 0 0, .slice none 0 0] 24 := Blk.new _ _ _ _ (by simp)
    have g0 : Grew w ((w.alloc (.cells #[.slice aP s.pr.length cP, .int .i64 s.n, .int .i64 s.k, .slice aE s.en.length cE, .slice aT s.th.length cT] 24)).alloc (.cells #[.slice none 0 0, .int .i64 0, .int .i64 0, .slice none 0 0, .slice none 0 0] 24)) := ((Grew.refl w).alloc _).alloc _
    have s0 := r0.lt
    generalize ((w.alloc (.cells #[.slice aP s.pr.length cP, .int .i64 s.n, .int .i64 s.k, .slice aE s.en.length cE, .slice aT s.th.length cT] 24)).alloc (.cells #[.slice none 0 0, .int .i64 0, .int .i64 0, .slice none 0 0, .slice none 0 0] 24)) = w0 at *
    have y0 := k0.cell 0
    have y1 := k0.cell 1
    have y2 := k0.cell 2
    have y3 := k0.cell 3
    have y4 := k0.cell 4
    go_wp2_with fail
    refine (HC.out _ g0).mono ?_
    rintro e w1 ⟨rfl, g1⟩
    clear y0 y1 y2 y3 y4
    have k1 := k0.grew g1
    have r1 := r0.grew g1
    have G1 := g0.trans g1
    clear k0 r0 g0 g1 HC
    go_upto_region 2 with fail
    have z0 := fun z : Over w1 => k1.overCell 0 _ rfl z
    have z1 := fun z : Over w1 => k1.overCell 1 _ rfl z
    have z2 := fun z : Over w1 => k1.overCell 2 _ rfl z
    have z3 := fun z : Over w1 => k1.overCell 3 _ rfl z
    have z4 := fun z : Over w1 => k1.overCell 4 _ rfl z
    refine region_over_tail 2 (by kernel_rfl) (by kernel_rfl) ?_
    simp only [List.take_succ_cons, List.take_zero, List.drop_succ_cons, List.drop_zero]
    repeat (first | go_big_quiet_step (fail) | quiet_step (fail))
    refine wpQuiet_nil ?_
    intro z
    have r5 := r1.over z
    have G5 := G1.trans z.g
    clear z0 z1 z2 z3 z4 k1 r1 G1
    generalize z.w = w5 at *
    have x0 := r5.cell 0
    have x1 := r5.cell 1
    have x2 := r5.cell 2
    have x3 := r5.cell 3
    have x4 := r5.cell 4
    have f0 := r5.free 0
    have f1 := r5.free 1
    have f2 := r5.free 2
    have f3 := r5.free 3
    have f4 := r5.free 4
    go_wp2_with fail
    clear x0 x1 x2 x3 x4 f0 f1 f2 f3 f4
    have ky := (((((r5.set (o := 0) (.slice aP s.pr.length cP)).set (o := 1) (.int .i64 s.n)).set (o := 2) (.int .i64 s.k)).set (o := 3) (.slice aE s.en.length cE)).set (o := 4) (.slice aT s.th.length cT))
    have gy := (((((G5.setCell (b := (w.heap.size + 1)) (o := 0) (by omega) (.slice aP s.pr.length cP)).setCell (b := (w.heap.size + 1)) (o := 1) (by omega) (.int .i64 s.n)).setCell (b := (w.heap.size + 1)) (o := 2) (by omega) (.int .i64 s.k)).setCell (b := (w.heap.size + 1)) (o := 3) (by omega) (.slice aE s.en.length cE)).setCell (b := (w.heap.size + 1)) (o := 4) (by omega) (.slice aT s.th.length cT))
    generalize (((((w5.setCell ⟨(w.heap.size + 1), 0, none⟩ (.slice aP s.pr.length cP)).setCell ⟨(w.heap.size + 1), 1, none⟩ (.int .i64 s.n)).setCell ⟨(w.heap.size + 1), 2, none⟩ (.int .i64 s.k)).setCell ⟨(w.heap.size + 1), 3, none⟩ (.slice aE s.en.length cE)).setCell ⟨(w.heap.size + 1), 4, none⟩ (.slice aT s.th.length cT)) = wy at *
    have z0 := ky.cell 0
    have z1 := ky.cell 1
    have z2 := ky.cell 2
    have z3 := ky.cell 3
    have z4 := ky.cell 4
    exact bodyPost_ret (v := .tuple #[.int .u64 0, .agg #[.slice aP s.pr.length cP, .int .i64 s.n, .int .i64 s.k, .slice aE s.en.length cE, .slice aT s.th.length cT], .bool false]) (by simp [results, Try.results13, go_sem, z0, z1, z2, z3, z4]) rfl ⟨_, rfl, Lib.hid (HV.out.grew gy), g.trans gy⟩
  · skip
    rw [h] at HC
    clear h
    go_enter Try.func13, Try.ntmps13
    go_upto_region 1 with fail
    have k0 : Blk ((w.alloc (.cells #[.slice aP s.pr.length cP, .int .i64 s.n, .int .i64 s.k, .slice aE s.en.length cE, .slice aT s.th.length cT] 24)).alloc (.cells #[.slice none 0 0, .int .i64 0, .int .i64 0, .slice none 0 0, .slice none 0 0] 24)) w.heap.size #[.slice aP s.pr.length cP, .int .i64 s.n, .int .i64 s.k, .slice aE s.en.length cE, .slice aT s.th.length cT] 24 := (Blk.new _ _ _ _ rfl).alloc _
    have r0 : Blk ((w.alloc (.cells #[.slice aP s.pr.length cP, .int .i64 s.n, .int .i64 s.k, .slice aE s.en.length cE, .slice aT s.th.length cT] 24)).alloc (.cells #[.slice none 0 0, .int .i64 0, .int .i64 0, .slice none 0 0, .slice none 0 0] 24)) (w.heap.size + 1) #[.slice none 0 0, .int .i64 0, .int .i64 0, .slice none 0 0, .slice none 0 0] 24 := Blk.new _ _ _ _ (by simp)
    have g0 : Grew w ((w.alloc (.cells #[.slice aP s.pr.length cP, .int .i64 s.n, .int .i64 s.k, .slice aE s.en.length cE, .slice aT s.th.length cT] 24)).alloc (.cells #[.slice none 0 0, .int .i64 0, .int .i64 0, .slice none 0 0, .slice none 0 0] 24)) := ((Grew.refl w).alloc _).alloc _
    have s0 := r0.lt
    generalize ((w.alloc (.cells #[.slice aP s.pr.length cP, .int .i64 s.n, .int .i64 s.k, .slice aE s.en.length cE, .slice aT s.th.length cT] 24)).alloc (.cells #[.slice none 0 0, .int .i64 0, .int .i64 0, .slice none 0 0, .slice none 0 0] 24)) = w0 at *
    have y0 := k0.cell 0
    have y1 := k0.cell 1
    have y2 := k0.cell 2
    have y3 := k0.cell 3
    have y4 := k0.cell 4
    go_wp2_with fail
    refine (HC.out _ g0).mono ?_
    rintro e w1 ⟨rfl, g1⟩
    clear y0 y1 y2 y3 y4
    have k1 := k0.grew g1
    have r1 := r0.grew g1
    have G1 := g0.trans g1
    clear k0 r0 g0 g1 HC
    go_upto_region 2 with fail
    have z0 := fun z : Over w1 => k1.overCell 0 _ rfl z
    have z1 := fun z : Over w1 => k1.overCell 1 _ rfl z
    have z2 := fun z : Over w1 => k1.overCell 2 _ rfl z
    have z3 := fun z : Over w1 => k1.overCell 3 _ rfl z
    have z4 := fun z : Over w1 => k1.overCell 4 _ rfl z
    refine region_over_tail 2 (by kernel_rfl) (by kernel_rfl) ?_
    simp only [List.take_succ_cons, List.take_zero, List.drop_succ_cons, List.drop_zero]
    repeat (first | go_big_quiet_step (fail) | quiet_step (fail))
    refine wpQuiet_nil ?_
    intro z
    have r5 := r1.over z
    have G5 := G1.trans z.g
    clear z0 z1 z2 z3 z4 k1 r1 G1
    generalize z.w = w5 at *
    have x0 := r5.cell 0
    have x1 := r5.cell 1
    have x2 := r5.cell 2
    have x3 := r5.cell 3
    have x4 := r5.cell 4
    have f0 := r5.free 0
    have f1 := r5.free 1
    have f2 := r5.free 2
    have f3 := r5.free 3
    have f4 := r5.free 4
    go_wp2_with fail
    clear x0 x1 x2 x3 x4 f0 f1 f2 f3 f4
    have ky := (((((r5.set (o := 0) (.slice aP s.pr.length cP)).set (o := 1) (.int .i64 s.n)).set (o := 2) (.int .i64 s.k)).set (o := 3) (.slice aE s.en.length cE)).set (o := 4) (.slice aT s.th.length cT))
    have gy := (((((G5.setCell (b := (w.heap.size + 1)) (o := 0) (by omega) (.slice aP s.pr.length cP)).setCell (b := (w.heap.size + 1)) (o := 1) (by omega) (.int .i64 s.n)).setCell (b := (w.heap.size + 1)) (o := 2) (by omega) (.int .i64 s.k)).setCell (b := (w.heap.size + 1)) (o := 3) (by omega) (.slice aE s.en.length cE)).setCell (b := (w.heap.size + 1)) (o := 4) (by omega) (.slice aT s.th.length cT))
    generalize (((((w5.setCell ⟨(w.heap.size + 1), 0, none⟩ (.slice aP s.pr.length cP)).setCell ⟨(w.heap.size + 1), 1, none⟩ (.int .i64 s.n)).setCell ⟨(w.heap.size + 1), 2, none⟩ (.int .i64 s.k)).setCell ⟨(w.heap.size + 1), 3, none⟩ (.slice aE s.en.length cE)).setCell ⟨(w.heap.size + 1), 4, none⟩ (.slice aT s.th.length cT)) = wy at *
    have z0 := ky.cell 0
    have z1 := ky.cell 1
    have z2 := ky.cell 2
    have z3 := ky.cell 3
    have z4 := ky.cell 4
    exact bodyPost_ret (v := .tuple #[.int .u64 0, .agg #[.slice aP s.pr.length cP, .int .i64 s.n, .int .i64 s.k, .slice aE s.en.length cE, .slice aT s.th.length cT], .bool false]) (by simp [results, Try.results13, go_sem, z0, z1, z2, z3, z4]) rfl ⟨_, rfl, Lib.hid (HV.out.grew gy), g.trans gy⟩
  · skip
    rw [h] at HC
    clear h
    obtain ⟨n1, n2, n3, n4, n5, n6, n7, n8, n9⟩ := no_at hr
    clear hr
    have m1 : (off == 4) = false := by simpa using n1
    have m2 : (off == 8) = false := by simpa using n2
    have m3 : (off == 4096) = false := by simpa using n3
    have m4 : (off == 8192) = false := by simpa using n4
    have m5 : (off == 8320) = false := by simpa using n5
    have m6 : (off == 2097152) = false := by simpa using n6
    have m7 : (off == 2101248) = false := by simpa using n7
    have m8 : (off == 2097156) = false := by simpa using n8
    have m9 : (off == 2101252) = false := by simpa using n9
    clear n1 n2 n3 n4 n5 n6 n7 n8 n9
    obtain rfl : size = 4 := by simpa using h4
    clear h4
    go_enter Try.func13, Try.ntmps13
    go_upto_region 1 with fail
    have k0 : Blk ((w.alloc (.cells #[.slice aP s.pr.length cP, .int .i64 s.n, .int .i64 s.k, .slice aE s.en.length cE, .slice aT s.th.length cT] 24)).alloc (.cells #[.slice none 0 0, .int .i64 0, .int .i64 0, .slice none 0 0, .slice none 0 0] 24)) w.heap.size #[.slice aP s.pr.length cP, .int .i64 s.n, .int .i64 s.k, .slice aE s.en.length cE, .slice aT s.th.length cT] 24 := (Blk.new _ _ _ _ rfl).alloc _
    have r0 : Blk ((w.alloc (.cells #[.slice aP s.pr.length cP, .int .i64 s.n, .int .i64 s.k, .slice aE s.en.length cE, .slice aT s.th.length cT] 24)).alloc (.cells #[.slice none 0 0, .int .i64 0, .int .i64 0, .slice none 0 0, .slice none 0 0] 24)) (w.heap.size + 1) #[.slice none 0 0, .int .i64 0, .int .i64 0, .slice none 0 0, .slice none 0 0] 24 := Blk.new _ _ _ _ (by simp)
    have g0 : Grew w ((w.alloc (.cells #[.slice aP s.pr.length cP, .int .i64 s.n, .int .i64 s.k, .slice aE s.en.length cE, .slice aT s.th.length cT] 24)).alloc (.cells #[.slice none 0 0, .int .i64 0, .int .i64 0, .slice none 0 0, .slice none 0 0] 24)) := ((Grew.refl w).alloc _).alloc _
    have s0 := r0.lt
    generalize ((w.alloc (.cells #[.slice aP s.pr.length cP, .int .i64 s.n, .int .i64 s.k, .slice aE s.en.length cE, .slice aT s.th.length cT] 24)).alloc (.cells #[.slice none 0 0, .int .i64 0, .int .i64 0, .slice none 0 0, .slice none 0 0] 24)) = w0 at *
    have y0 := k0.cell 0
    have y1 := k0.cell 1
    have y2 := k0.cell 2
    have y3 := k0.cell 3
    have y4 := k0.cell 4
    go_wp2_with fail
    refine (HC.out _ g0).mono ?_
    rintro e w1 ⟨rfl, g1⟩
    clear y0 y1 y2 y3 y4
    have k1 := k0.grew g1
    have r1 := r0.grew g1
    have G1 := g0.trans g1
    clear k0 r0 g0 g1 HC
    go_upto_region 18 with fail
    have z0 := fun z : Over w1 => k1.overCell 0 _ rfl z
    have z1 := fun z : Over w1 => k1.overCell 1 _ rfl z
    have z2 := fun z : Over w1 => k1.overCell 2 _ rfl z
    have z3 := fun z : Over w1 => k1.overCell 3 _ rfl z
    have z4 := fun z : Over w1 => k1.overCell 4 _ rfl z
    refine region_over_tail 2 (by kernel_rfl) (by kernel_rfl) ?_
    simp only [List.take_succ_cons, List.take_zero, List.drop_succ_cons, List.drop_zero]
    repeat (first | go_big_quiet_step (fail) | quiet_step (fail))
    refine wpQuiet_nil ?_
    intro z
    have r5 := r1.over z
    have G5 := G1.trans z.g
    clear z0 z1 z2 z3 z4 k1 r1 G1
    generalize z.w = w5 at *
    have x0 := r5.cell 0
    have x1 := r5.cell 1
    have x2 := r5.cell 2
    have x3 := r5.cell 3
    have x4 := r5.cell 4
    have f0 := r5.free 0
    have f1 := r5.free 1
    have f2 := r5.free 2
    have f3 := r5.free 3
    have f4 := r5.free 4
    go_wp2_with fail
    clear x0 x1 x2 x3 x4 f0 f1 f2 f3 f4
    have ky := (((((r5.set (o := 0) (.slice aP s.pr.length cP)).set (o := 1) (.int .i64 s.n)).set (o := 2) (.int .i64 s.k)).set (o := 3) (.slice aE s.en.length cE)).set (o := 4) (.slice aT s.th.length cT))
    have gy := (((((G5.setCell (b := (w.heap.size + 1)) (o := 0) (by omega) (.slice aP s.pr.length cP)).setCell (b := (w.heap.size + 1)) (o := 1) (by omega) (.int .i64 s.n)).setCell (b := (w.heap.size + 1)) (o := 2) (by omega) (.int .i64 s.k)).setCell (b := (w.heap.size + 1)) (o := 3) (by omega) (.slice aE s.en.length cE)).setCell (b := (w.heap.size + 1)) (o := 4) (by omega) (.slice aT s.th.length cT))
    generalize (((((w5.setCell ⟨(w.heap.size + 1), 0, none⟩ (.slice aP s.pr.length cP)).setCell ⟨(w.heap.size + 1), 1, none⟩ (.int .i64 s.n)).setCell ⟨(w.heap.size + 1), 2, none⟩ (.int .i64 s.k)).setCell ⟨(w.heap.size + 1), 3, none⟩ (.slice aE s.en.length cE)).setCell ⟨(w.heap.size + 1), 4, none⟩ (.slice aT s.th.length cT)) = wy at *
    have z0 := ky.cell 0
    have z1 := ky.cell 1
    have z2 := ky.cell 2
    have z3 := ky.cell 3
    have z4 := ky.cell 4
    exact bodyPost_ret (v := .tuple #[.int .u64 0, .agg #[.slice aP s.pr.length cP, .int .i64 s.n, .int .i64 s.k, .slice aE s.en.length cE, .slice aT s.th.length cT], .bool false]) (by simp [results, Try.results13, go_sem, z0, z1, z2, z3, z4]) rfl ⟨_, rfl, Lib.hid (HV.out.grew gy), g.trans gy⟩
set_option maxHeartbeats 2000000 in
theorem refLoad_yes {v : Value} {s : VS} (hs : s.Ok) (off : Int) (hr : regAt off ≠ 0) {W w : World} (hb : Pl w v s.ps) (g : Grew W w) :
    Calls Try.prog 13 #[v, .int .u64 off, .int .i64 4] w fun e w' => ∃ v', e = .returned (.tuple #[.int .u64 (s.load (regAt off)), v', .bool true]) ∧ Hid (Pl w' v' (s.loaded (regAt off)).ps) ∧ Grew W w' := by
  have hC := fun (w1 : World) (g1 : Grew w w1) => refCheck_c (Grew.refl w1) (hb.grew g1)
  rw [chk_mk hs] at hC
  have HC := Lib.hid hC
  have hgs := g.size
  have bd1 := hs.p1
  have bd2 := hs.p2
  have bd3 := hs.n.bd
  have bd4 := hs.e0.bd
  have bd5 := hs.e1.bd
  have bd6 := hs.t0
  have bd7 := hs.t1
  have hK0 := fun (w1 : World) (g1 : Grew w w1) vP vE vT (hb' : Pl w (.agg #[vP, .int .i64 s.n, .int .i64 s.k, vE, vT]) s.ps) => refClaim_c hs (x := 0) (by omega) (hb'.grew g1) (Grew.refl w1)
  have hK1 := fun (w1 : World) (g1 : Grew w w1) vP vE vT (hb' : Pl w (.agg #[vP, .int .i64 s.n, .int .i64 s.k, vE, vT]) s.ps) => refClaim_c hs (x := 1) (by omega) (hb'.grew g1) (Grew.refl w1)
  have hok0 := fun b => (hs.claim b).rows.2.2.2
  have HK0 := Lib.hid hK0
  have HK1 := Lib.hid hK1
  have HOK := Lib.hid hok0
  clear hC hK0 hK1 hs hok0
  by_cases h1 : off = 4
  · subst h1
    rw [show regAt 4 = 1 from rfl]
    clear hr
    clear HK0 HK1
    rw [show s.load 1 = s.p1 from rfl, show s.loaded 1 = s from rfl]
    have HV := Lib.hid hb
    obtain ⟨vP, vE, vT, rfl, h1, h2, h3⟩ := hb.shape
    obtain ⟨bP, oP, cP, rfl, lP, hP⟩ := h1.at (by simp)
    obtain ⟨bE, oE, cE, rfl, lE, hE⟩ := h2.at (by simp)
    obtain ⟨bT, oT, cT, rfl, lT, hT⟩ := h3.at (by simp)
    have HB1 := Lib.hid h1
    have HB2 := Lib.hid h2
    have HB3 := Lib.hid h3
    clear h1 h2 h3 hb
    obtain ⟨p1, p2, n, k, e0, t0, e1, t1⟩ := s
    have cP0 : w.cell? ⟨bP, oP, none⟩ = some (.int .i64 0) := hP 0 (by simp)
    have cP1 : w.cell? ⟨bP, oP + 1, none⟩ = some (.int .i64 p1) := hP 1 (by simp)
    have cP2 : w.cell? ⟨bP, oP + 2, none⟩ = some (.int .i64 p2) := hP 2 (by simp)
    have cE0 : w.cell? ⟨bE, oE, none⟩ = some (.int .i64 e0) := hE 0 (by simp)
    have cE1 : w.cell? ⟨bE, oE + 1, none⟩ = some (.int .i64 e1) := hE 1 (by simp)
    have cT0 : w.cell? ⟨bT, oT, none⟩ = some (.int .i64 t0) := hT 0 (by simp)
    have cT1 : w.cell? ⟨bT, oT + 1, none⟩ = some (.int .i64 t1) := hT 1 (by simp)
    clear hP hE hT
    dsimp only [VS.ps] at HV HB1 HB2 HB3 ⊢
    simp only [List.length_cons, List.length_nil, Nat.zero_add, Nat.reduceAdd] at HV HB1 HB2 HB3 ⊢
    dsimp only at *
    go_enter Try.func13, Try.ntmps13
    go_upto_region 1 with fail
    have k0 : Blk ((w.alloc (.cells #[.slice (some ⟨bP, oP, none⟩) 3 cP, .int .i64 n, .int .i64 k, .slice (some ⟨bE, oE, none⟩) 2 cE, .slice (some ⟨bT, oT, none⟩) 2 cT] 24)).alloc (.cells #[.slice none 0 0, .int .i64 0, .int .i64 0, .slice none 0 0, .slice none 0 0] 24)) w.heap.size #[.slice (some ⟨bP, oP, none⟩) 3 cP, .int .i64 n, .int .i64 k, .slice (some ⟨bE, oE, none⟩) 2 cE, .slice (some ⟨bT, oT, none⟩) 2 cT] 24 := (Blk.new _ _ _ _ rfl).alloc _
    have r0 : Blk ((w.alloc (.cells #[.slice (some ⟨bP, oP, none⟩) 3 cP, .int .i64 n, .int .i64 k, .slice (some ⟨bE, oE, none⟩) 2 cE, .slice (some ⟨bT, oT, none⟩) 2 cT] 24)).alloc (.cells #[.slice none 0 0, .int .i64 0, .int .i64 0, .slice none 0 0, .slice none 0 0] 24)) (w.heap.size + 1) #[.slice none 0 0, .int .i64 0, .int .i64 0, .slice none 0 0, .slice none 0 0] 24 := Blk.new _ _ _ _ (by simp)
    have g0 : Grew w ((w.alloc (.cells #[.slice (some ⟨bP, oP, none⟩) 3 cP, .int .i64 n, .int .i64 k, .slice (some ⟨bE, oE, none⟩) 2 cE, .slice (some ⟨bT, oT, none⟩) 2 cT] 24)).alloc (.cells #[.slice none 0 0, .int .i64 0, .int .i64 0, .slice none 0 0, .slice none 0 0] 24)) := ((Grew.refl w).alloc _).alloc _
    have s0 := r0.lt
    generalize ((w.alloc (.cells #[.slice (some ⟨bP, oP, none⟩) 3 cP, .int .i64 n, .int .i64 k, .slice (some ⟨bE, oE, none⟩) 2 cE, .slice (some ⟨bT, oT, none⟩) 2 cT] 24)).alloc (.cells #[.slice none 0 0, .int .i64 0, .int .i64 0, .slice none 0 0, .slice none 0 0] 24)) = w0 at *
    have y0 := k0.cell 0
    have y1 := k0.cell 1
    have y2 := k0.cell 2
    have y3 := k0.cell 3
    have y4 := k0.cell 4
    go_wp2_with fail
    refine (HC.out _ g0).mono ?_
    rintro e w1 ⟨rfl, g1⟩
    clear y0 y1 y2 y3 y4
    have k1 := k0.grew g1
    have r1 := r0.grew g1
    have G1 := g0.trans g1
    clear k0 r0 g0 g1 HC
    go_upto_region 6 with fail
    have z0 := fun z : Over w1 => k1.overCell 0 _ rfl z
    have z1 := fun z : Over w1 => k1.overCell 1 _ rfl z
    have z2 := fun z : Over w1 => k1.overCell 2 _ rfl z
    have z3 := fun z : Over w1 => k1.overCell 3 _ rfl z
    have z4 := fun z : Over w1 => k1.overCell 4 _ rfl z
    have zP1 := fun z : Over w1 => ((gcell (G1.trans z.g)).1 bP (oP + 1) lP).trans cP1
    refine region_over_tail 9 (by kernel_rfl) (by kernel_rfl) ?_
    simp only [List.take_succ_cons, List.take_zero, List.drop_succ_cons, List.drop_zero]
    repeat (first | go_big_quiet_step (fail) | quiet_step (fail))
    refine wpQuiet_nil ?_
    intro z
    have r5 := r1.over z
    have G5 := G1.trans z.g
    clear z0 z1 z2 z3 z4 k1 r1 G1 zP1
    generalize z.w = w5 at *
    have x0 := r5.cell 0
    have x1 := r5.cell 1
    have x2 := r5.cell 2
    have x3 := r5.cell 3
    have x4 := r5.cell 4
    have f0 := r5.free 0
    have f1 := r5.free 1
    have f2 := r5.free 2
    have f3 := r5.free 3
    have f4 := r5.free 4
    go_wp2_with fail
    clear x0 x1 x2 x3 x4 f0 f1 f2 f3 f4
    have ky := (((((r5.set (o := 0) (.slice (some ⟨bP, oP, none⟩) 3 cP)).set (o := 1) (.int .i64 n)).set (o := 2) (.int .i64 k)).set (o := 3) (.slice (some ⟨bE, oE, none⟩) 2 cE)).set (o := 4) (.slice (some ⟨bT, oT, none⟩) 2 cT))
    have gy := (((((G5.setCell (b := (w.heap.size + 1)) (o := 0) (by omega) (.slice (some ⟨bP, oP, none⟩) 3 cP)).setCell (b := (w.heap.size + 1)) (o := 1) (by omega) (.int .i64 n)).setCell (b := (w.heap.size + 1)) (o := 2) (by omega) (.int .i64 k)).setCell (b := (w.heap.size + 1)) (o := 3) (by omega) (.slice (some ⟨bE, oE, none⟩) 2 cE)).setCell (b := (w.heap.size + 1)) (o := 4) (by omega) (.slice (some ⟨bT, oT, none⟩) 2 cT))
    generalize (((((w5.setCell ⟨(w.heap.size + 1), 0, none⟩ (.slice (some ⟨bP, oP, none⟩) 3 cP)).setCell ⟨(w.heap.size + 1), 1, none⟩ (.int .i64 n)).setCell ⟨(w.heap.size + 1), 2, none⟩ (.int .i64 k)).setCell ⟨(w.heap.size + 1), 3, none⟩ (.slice (some ⟨bE, oE, none⟩) 2 cE)).setCell ⟨(w.heap.size + 1), 4, none⟩ (.slice (some ⟨bT, oT, none⟩) 2 cT)) = wy at *
    have z0 := ky.cell 0
    have z1 := ky.cell 1
    have z2 := ky.cell 2
    have z3 := ky.cell 3
    have z4 := ky.cell 4
    exact bodyPost_ret (v := .tuple #[.int .u64 p1, .agg #[.slice (some ⟨bP, oP, none⟩) 3 cP, .int .i64 n, .int .i64 k, .slice (some ⟨bE, oE, none⟩) 2 cE, .slice (some ⟨bT, oT, none⟩) 2 cT], .bool true]) (by simp [results, Try.results13, go_sem, z0, z1, z2, z3, z4]) rfl ⟨_, rfl, Lib.hid (HV.out.grew gy), g.trans gy⟩
  by_cases h2 : off = 8
  · subst h2
    rw [show regAt 8 = 2 from rfl]
    clear hr
    clear HK0 HK1
    rw [show s.load 2 = s.p2 from rfl, show s.loaded 2 = s from rfl]
    have HV := Lib.hid hb
    obtain ⟨vP, vE, vT, rfl, h1, h2, h3⟩ := hb.shape
    obtain ⟨bP, oP, cP, rfl, lP, hP⟩ := h1.at (by simp)
    obtain ⟨bE, oE, cE, rfl, lE, hE⟩ := h2.at (by simp)
    obtain ⟨bT, oT, cT, rfl, lT, hT⟩ := h3.at (by simp)
    have HB1 := Lib.hid h1
    have HB2 := Lib.hid h2
    have HB3 := Lib.hid h3
    clear h1 h2 h3 hb
    obtain ⟨p1, p2, n, k, e0, t0, e1, t1⟩ := s
    have cP0 : w.cell? ⟨bP, oP, none⟩ = some (.int .i64 0) := hP 0 (by simp)
    have cP1 : w.cell? ⟨bP, oP + 1, none⟩ = some (.int .i64 p1) := hP 1 (by simp)
    have cP2 : w.cell? ⟨bP, oP + 2, none⟩ = some (.int .i64 p2) := hP 2 (by simp)
    have cE0 : w.cell? ⟨bE, oE, none⟩ = some (.int .i64 e0) := hE 0 (by simp)
    have cE1 : w.cell? ⟨bE, oE + 1, none⟩ = some (.int .i64 e1) := hE 1 (by simp)
    have cT0 : w.cell? ⟨bT, oT, none⟩ = some (.int .i64 t0) := hT 0 (by simp)
    have cT1 : w.cell? ⟨bT, oT + 1, none⟩ = some (.int .i64 t1) := hT 1 (by simp)
    clear hP hE hT
    dsimp only [VS.ps] at HV HB1 HB2 HB3 ⊢
    simp only [List.length_cons, List.length_nil, Nat.zero_add, Nat.reduceAdd] at HV HB1 HB2 HB3 ⊢
    dsimp only at *
    go_enter Try.func13, Try.ntmps13
    go_upto_region 1 with fail
    have k0 : Blk ((w.alloc (.cells #[.slice (some ⟨bP, oP, none⟩) 3 cP, .int .i64 n, .int .i64 k, .slice (some ⟨bE, oE, none⟩) 2 cE, .slice (some ⟨bT, oT, none⟩) 2 cT] 24)).alloc (.cells #[.slice none 0 0, .int .i64 0, .int .i64 0, .slice none 0 0, .slice none 0 0] 24)) w.heap.size #[.slice (some ⟨bP, oP, none⟩) 3 cP, .int .i64 n, .int .i64 k, .slice (some ⟨bE, oE, none⟩) 2 cE, .slice (some ⟨bT, oT, none⟩) 2 cT] 24 := (Blk.new _ _ _ _ rfl).alloc _
    have r0 : Blk ((w.alloc (.cells #[.slice (some ⟨bP, oP, none⟩) 3 cP, .int .i64 n, .int .i64 k, .slice (some ⟨bE, oE, none⟩) 2 cE, .slice (some ⟨bT, oT, none⟩) 2 cT] 24)).alloc (.cells #[.slice none 0 0, .int .i64 0, .int .i64 0, .slice none 0 0, .slice none 0 0] 24)) (w.heap.size + 1) #[.slice none 0 0, .int .i64 0, .int .i64 0, .slice none 0 0, .slice none 0 0] 24 := Blk.new _ _ _ _ (by simp)
    have g0 : Grew w ((w.alloc (.cells #[.slice (some ⟨bP, oP, none⟩) 3 cP, .int .i64 n, .int .i64 k, .slice (some ⟨bE, oE, none⟩) 2 cE, .slice (some ⟨bT, oT, none⟩) 2 cT] 24)).alloc (.cells #[.slice none 0 0, .int .i64 0, .int .i64 0, .slice none 0 0, .slice none 0 0] 24)) := ((Grew.refl w).alloc _).alloc _
    have s0 := r0.lt
    generalize ((w.alloc (.cells #[.slice (some ⟨bP, oP, none⟩) 3 cP, .int .i64 n, .int .i64 k, .slice (some ⟨bE, oE, none⟩) 2 cE, .slice (some ⟨bT, oT, none⟩) 2 cT] 24)).alloc (.cells #[.slice none 0 0, .int .i64 0, .int .i64 0, .slice none 0 0, .slice none 0 0] 24)) = w0 at *
    have y0 := k0.cell 0
    have y1 := k0.cell 1
    have y2 := k0.cell 2
    have y3 := k0.cell 3
    have y4 := k0.cell 4
    go_wp2_with fail
    refine (HC.out _ g0).mono ?_
    rintro e w1 ⟨rfl, g1⟩
    clear y0 y1 y2 y3 y4
    have k1 := k0.grew g1
    have r1 := r0.grew g1
    have G1 := g0.trans g1
    clear k0 r0 g0 g1 HC
    go_upto_region 6 with fail
    have z0 := fun z : Over w1 => k1.overCell 0 _ rfl z
    have z1 := fun z : Over w1 => k1.overCell 1 _ rfl z
    have z2 := fun z : Over w1 => k1.overCell 2 _ rfl z
    have z3 := fun z : Over w1 => k1.overCell 3 _ rfl z
    have z4 := fun z : Over w1 => k1.overCell 4 _ rfl z
    have zP2 := fun z : Over w1 => ((gcell (G1.trans z.g)).1 bP (oP + 2) lP).trans cP2
    refine region_over_tail 9 (by kernel_rfl) (by kernel_rfl) ?_
    simp only [List.take_succ_cons, List.take_zero, List.drop_succ_cons, List.drop_zero]
    repeat (first | go_big_quiet_step (fail) | quiet_step (fail))
    refine wpQuiet_nil ?_
    intro z
    have r5 := r1.over z
    have G5 := G1.trans z.g
    clear z0 z1 z2 z3 z4 k1 r1 G1 zP2
    generalize z.w = w5 at *
    have x0 := r5.cell 0
    have x1 := r5.cell 1
    have x2 := r5.cell 2
    have x3 := r5.cell 3
    have x4 := r5.cell 4
    have f0 := r5.free 0
    have f1 := r5.free 1
    have f2 := r5.free 2
    have f3 := r5.free 3
    have f4 := r5.free 4
    go_wp2_with fail
    clear x0 x1 x2 x3 x4 f0 f1 f2 f3 f4
    have ky := (((((r5.set (o := 0) (.slice (some ⟨bP, oP, none⟩) 3 cP)).set (o := 1) (.int .i64 n)).set (o := 2) (.int .i64 k)).set (o := 3) (.slice (some ⟨bE, oE, none⟩) 2 cE)).set (o := 4) (.slice (some ⟨bT, oT, none⟩) 2 cT))
    have gy := (((((G5.setCell (b := (w.heap.size + 1)) (o := 0) (by omega) (.slice (some ⟨bP, oP, none⟩) 3 cP)).setCell (b := (w.heap.size + 1)) (o := 1) (by omega) (.int .i64 n)).setCell (b := (w.heap.size + 1)) (o := 2) (by omega) (.int .i64 k)).setCell (b := (w.heap.size + 1)) (o := 3) (by omega) (.slice (some ⟨bE, oE, none⟩) 2 cE)).setCell (b := (w.heap.size + 1)) (o := 4) (by omega) (.slice (some ⟨bT, oT, none⟩) 2 cT))
    generalize (((((w5.setCell ⟨(w.heap.size + 1), 0, none⟩ (.slice (some ⟨bP, oP, none⟩) 3 cP)).setCell ⟨(w.heap.size + 1), 1, none⟩ (.int .i64 n)).setCell ⟨(w.heap.size + 1), 2, none⟩ (.int .i64 k)).setCell ⟨(w.heap.size + 1), 3, none⟩ (.slice (some ⟨bE, oE, none⟩) 2 cE)).setCell ⟨(w.heap.size + 1), 4, none⟩ (.slice (some ⟨bT, oT, none⟩) 2 cT)) = wy at *
    have z0 := ky.cell 0
    have z1 := ky.cell 1
    have z2 := ky.cell 2
    have z3 := ky.cell 3
    have z4 := ky.cell 4
    exact bodyPost_ret (v := .tuple #[.int .u64 p2, .agg #[.slice (some ⟨bP, oP, none⟩) 3 cP, .int .i64 n, .int .i64 k, .slice (some ⟨bE, oE, none⟩) 2 cE, .slice (some ⟨bT, oT, none⟩) 2 cT], .bool true]) (by simp [results, Try.results13, go_sem, z0, z1, z2, z3, z4]) rfl ⟨_, rfl, Lib.hid (HV.out.grew gy), g.trans gy⟩
  by_cases h3 : off = 4096
  · subst h3
    rw [show regAt 4096 = 3 from rfl]
    clear hr
    clear HK0 HK1
    rw [show s.load 3 = s.n from rfl, show s.loaded 3 = s from rfl]
    have HV := Lib.hid hb
    obtain ⟨vP, vE, vT, rfl, h1, h2, h3⟩ := hb.shape
    obtain ⟨bP, oP, cP, rfl, lP, hP⟩ := h1.at (by simp)
    obtain ⟨bE, oE, cE, rfl, lE, hE⟩ := h2.at (by simp)
    obtain ⟨bT, oT, cT, rfl, lT, hT⟩ := h3.at (by simp)
    have HB1 := Lib.hid h1
    have HB2 := Lib.hid h2
    have HB3 := Lib.hid h3
    clear h1 h2 h3 hb
    obtain ⟨p1, p2, n, k, e0, t0, e1, t1⟩ := s
    have cP0 : w.cell? ⟨bP, oP, none⟩ = some (.int .i64 0) := hP 0 (by simp)
    have cP1 : w.cell? ⟨bP, oP + 1, none⟩ = some (.int .i64 p1) := hP 1 (by simp)
    have cP2 : w.cell? ⟨bP, oP + 2, none⟩ = some (.int .i64 p2) := hP 2 (by simp)
    have cE0 : w.cell? ⟨bE, oE, none⟩ = some (.int .i64 e0) := hE 0 (by simp)
    have cE1 : w.cell? ⟨bE, oE + 1, none⟩ = some (.int .i64 e1) := hE 1 (by simp)
    have cT0 : w.cell? ⟨bT, oT, none⟩ = some (.int .i64 t0) := hT 0 (by simp)
    have cT1 : w.cell? ⟨bT, oT + 1, none⟩ = some (.int .i64 t1) := hT 1 (by simp)
    clear hP hE hT
    dsimp only [VS.ps] at HV HB1 HB2 HB3 ⊢
    simp only [List.length_cons, List.length_nil, Nat.zero_add, Nat.reduceAdd] at HV HB1 HB2 HB3 ⊢
    dsimp only at *
    go_enter Try.func13, Try.ntmps13
    go_upto_region 1 with fail
    have k0 : Blk ((w.alloc (.cells #[.slice (some ⟨bP, oP, none⟩) 3 cP, .int .i64 n, .int .i64 k, .slice (some ⟨bE, oE, none⟩) 2 cE, .slice (some ⟨bT, oT, none⟩) 2 cT] 24)).alloc (.cells #[.slice none 0 0, .int .i64 0, .int .i64 0, .slice none 0 0, .slice none 0 0] 24)) w.heap.size #[.slice (some ⟨bP, oP, none⟩) 3 cP, .int .i64 n, .int .i64 k, .slice (some ⟨bE, oE, none⟩) 2 cE, .slice (some ⟨bT, oT, none⟩) 2 cT] 24 := (Blk.new _ _ _ _ rfl).alloc _
    have r0 : Blk ((w.alloc (.cells #[.slice (some ⟨bP, oP, none⟩) 3 cP, .int .i64 n, .int .i64 k, .slice (some ⟨bE, oE, none⟩) 2 cE, .slice (some ⟨bT, oT, none⟩) 2 cT] 24)).alloc (.cells #[.slice none 0 0, .int .i64 0, .int .i64 0, .slice none 0 0, .slice none 0 0] 24)) (w.heap.size + 1) #[.slice none 0 0, .int .i64 0, .int .i64 0, .slice none 0 0, .slice none 0 0] 24 := Blk.new _ _ _ _ (by simp)
    have g0 : Grew w ((w.alloc (.cells #[.slice (some ⟨bP, oP, none⟩) 3 cP, .int .i64 n, .int .i64 k, .slice (some ⟨bE, oE, none⟩) 2 cE, .slice (some ⟨bT, oT, none⟩) 2 cT] 24)).alloc (.cells #[.slice none 0 0, .int .i64 0, .int .i64 0, .slice none 0 0, .slice none 0 0] 24)) := ((Grew.refl w).alloc _).alloc _
    have s0 := r0.lt
    generalize ((w.alloc (.cells #[.slice (some ⟨bP, oP, none⟩) 3 cP, .int .i64 n, .int .i64 k, .slice (some ⟨bE, oE, none⟩) 2 cE, .slice (some ⟨bT, oT, none⟩) 2 cT] 24)).alloc (.cells #[.slice none 0 0, .int .i64 0, .int .i64 0, .slice none 0 0, .slice none 0 0] 24)) = w0 at *
    have y0 := k0.cell 0
    have y1 := k0.cell 1
    have y2 := k0.cell 2
    have y3 := k0.cell 3
    have y4 := k0.cell 4
    go_wp2_with fail
    refine (HC.out _ g0).mono ?_
    rintro e w1 ⟨rfl, g1⟩
    clear y0 y1 y2 y3 y4
    have k1 := k0.grew g1
    have r1 := r0.grew g1
    have G1 := g0.trans g1
    clear k0 r0 g0 g1 HC
    go_upto_region 8 with fail
    have z0 := fun z : Over w1 => k1.overCell 0 _ rfl z
    have z1 := fun z : Over w1 => k1.overCell 1 _ rfl z
    have z2 := fun z : Over w1 => k1.overCell 2 _ rfl z
    have z3 := fun z : Over w1 => k1.overCell 3 _ rfl z
    have z4 := fun z : Over w1 => k1.overCell 4 _ rfl z
    refine region_over_tail 5 (by kernel_rfl) (by kernel_rfl) ?_
    simp only [List.take_succ_cons, List.take_zero, List.drop_succ_cons, List.drop_zero]
    repeat (first | go_big_quiet_step (fail) | quiet_step (fail))
    refine wpQuiet_nil ?_
    intro z
    have r5 := r1.over z
    have G5 := G1.trans z.g
    clear z0 z1 z2 z3 z4 k1 r1 G1 
    generalize z.w = w5 at *
    have x0 := r5.cell 0
    have x1 := r5.cell 1
    have x2 := r5.cell 2
    have x3 := r5.cell 3
    have x4 := r5.cell 4
    have f0 := r5.free 0
    have f1 := r5.free 1
    have f2 := r5.free 2
    have f3 := r5.free 3
    have f4 := r5.free 4
    go_wp2_with fail
    clear x0 x1 x2 x3 x4 f0 f1 f2 f3 f4
    have ky := (((((r5.set (o := 0) (.slice (some ⟨bP, oP, none⟩) 3 cP)).set (o := 1) (.int .i64 n)).set (o := 2) (.int .i64 k)).set (o := 3) (.slice (some ⟨bE, oE, none⟩) 2 cE)).set (o := 4) (.slice (some ⟨bT, oT, none⟩) 2 cT))
    have gy := (((((G5.setCell (b := (w.heap.size + 1)) (o := 0) (by omega) (.slice (some ⟨bP, oP, none⟩) 3 cP)).setCell (b := (w.heap.size + 1)) (o := 1) (by omega) (.int .i64 n)).setCell (b := (w.heap.size + 1)) (o := 2) (by omega) (.int .i64 k)).setCell (b := (w.heap.size + 1)) (o := 3) (by omega) (.slice (some ⟨bE, oE, none⟩) 2 cE)).setCell (b := (w.heap.size + 1)) (o := 4) (by omega) (.slice (some ⟨bT, oT, none⟩) 2 cT))
    generalize (((((w5.setCell ⟨(w.heap.size + 1), 0, none⟩ (.slice (some ⟨bP, oP, none⟩) 3 cP)).setCell ⟨(w.heap.size + 1), 1, none⟩ (.int .i64 n)).setCell ⟨(w.heap.size + 1), 2, none⟩ (.int .i64 k)).setCell ⟨(w.heap.size + 1), 3, none⟩ (.slice (some ⟨bE, oE, none⟩) 2 cE)).setCell ⟨(w.heap.size + 1), 4, none⟩ (.slice (some ⟨bT, oT, none⟩) 2 cT)) = wy at *
    have z0 := ky.cell 0
    have z1 := ky.cell 1
    have z2 := ky.cell 2
    have z3 := ky.cell 3
    have z4 := ky.cell 4
    exact bodyPost_ret (v := .tuple #[.int .u64 n, .agg #[.slice (some ⟨bP, oP, none⟩) 3 cP, .int .i64 n, .int .i64 k, .slice (some ⟨bE, oE, none⟩) 2 cE, .slice (some ⟨bT, oT, none⟩) 2 cT], .bool true]) (by simp [results, Try.results13, go_sem, z0, z1, z2, z3, z4]) rfl ⟨_, rfl, Lib.hid (HV.out.grew gy), g.trans gy⟩
  by_cases h4 : off = 8192
  · subst h4
    rw [show regAt 8192 = 4 from rfl]
    clear hr
    clear HK0 HK1
    rw [show s.load 4 = s.e0 from rfl, show s.loaded 4 = s from rfl]
    have HV := Lib.hid hb
    obtain ⟨vP, vE, vT, rfl, h1, h2, h3⟩ := hb.shape
    obtain ⟨bP, oP, cP, rfl, lP, hP⟩ := h1.at (by simp)
    obtain ⟨bE, oE, cE, rfl, lE, hE⟩ := h2.at (by simp)
    obtain ⟨bT, oT, cT, rfl, lT, hT⟩ := h3.at (by simp)
    have HB1 := Lib.hid h1
    have HB2 := Lib.hid h2
    have HB3 := Lib.hid h3
    clear h1 h2 h3 hb
    obtain ⟨p1, p2, n, k, e0, t0, e1, t1⟩ := s
    have cP0 : w.cell? ⟨bP, oP, none⟩ = some (.int .i64 0) := hP 0 (by simp)
    have cP1 : w.cell? ⟨bP, oP + 1, none⟩ = some (.int .i64 p1) := hP 1 (by simp)
    have cP2 : w.cell? ⟨bP, oP + 2, none⟩ = some (.int .i64 p2) := hP 2 (by simp)
    have cE0 : w.cell? ⟨bE, oE, none⟩ = some (.int .i64 e0) := hE 0 (by simp)
    have cE1 : w.cell? ⟨bE, oE + 1, none⟩ = some (.int .i64 e1) := hE 1 (by simp)
    have cT0 : w.cell? ⟨bT, oT, none⟩ = some (.int .i64 t0) := hT 0 (by simp)
    have cT1 : w.cell? ⟨bT, oT + 1, none⟩ = some (.int .i64 t1) := hT 1 (by simp)
    clear hP hE hT
    dsimp only [VS.ps] at HV HB1 HB2 HB3 ⊢
    simp only [List.length_cons, List.length_nil, Nat.zero_add, Nat.reduceAdd] at HV HB1 HB2 HB3 ⊢
    dsimp only at *
    go_enter Try.func13, Try.ntmps13
    go_upto_region 1 with fail
    have k0 : Blk ((w.alloc (.cells #[.slice (some ⟨bP, oP, none⟩) 3 cP, .int .i64 n, .int .i64 k, .slice (some ⟨bE, oE, none⟩) 2 cE, .slice (some ⟨bT, oT, none⟩) 2 cT] 24)).alloc (.cells #[.slice none 0 0, .int .i64 0, .int .i64 0, .slice none 0 0, .slice none 0 0] 24)) w.heap.size #[.slice (some ⟨bP, oP, none⟩) 3 cP, .int .i64 n, .int .i64 k, .slice (some ⟨bE, oE, none⟩) 2 cE, .slice (some ⟨bT, oT, none⟩) 2 cT] 24 := (Blk.new _ _ _ _ rfl).alloc _
    have r0 : Blk ((w.alloc (.cells #[.slice (some ⟨bP, oP, none⟩) 3 cP, .int .i64 n, .int .i64 k, .slice (some ⟨bE, oE, none⟩) 2 cE, .slice (some ⟨bT, oT, none⟩) 2 cT] 24)).alloc (.cells #[.slice none 0 0, .int .i64 0, .int .i64 0, .slice none 0 0, .slice none 0 0] 24)) (w.heap.size + 1) #[.slice none 0 0, .int .i64 0, .int .i64 0, .slice none 0 0, .slice none 0 0] 24 := Blk.new _ _ _ _ (by simp)
    have g0 : Grew w ((w.alloc (.cells #[.slice (some ⟨bP, oP, none⟩) 3 cP, .int .i64 n, .int .i64 k, .slice (some ⟨bE, oE, none⟩) 2 cE, .slice (some ⟨bT, oT, none⟩) 2 cT] 24)).alloc (.cells #[.slice none 0 0, .int .i64 0, .int .i64 0, .slice none 0 0, .slice none 0 0] 24)) := ((Grew.refl w).alloc _).alloc _
    have s0 := r0.lt
    generalize ((w.alloc (.cells #[.slice (some ⟨bP, oP, none⟩) 3 cP, .int .i64 n, .int .i64 k, .slice (some ⟨bE, oE, none⟩) 2 cE, .slice (some ⟨bT, oT, none⟩) 2 cT] 24)).alloc (.cells #[.slice none 0 0, .int .i64 0, .int .i64 0, .slice none 0 0, .slice none 0 0] 24)) = w0 at *
    have y0 := k0.cell 0
    have y1 := k0.cell 1
    have y2 := k0.cell 2
    have y3 := k0.cell 3
    have y4 := k0.cell 4
    go_wp2_with fail
    refine (HC.out _ g0).mono ?_
    rintro e w1 ⟨rfl, g1⟩
    clear y0 y1 y2 y3 y4
    have k1 := k0.grew g1
    have r1 := r0.grew g1
    have G1 := g0.trans g1
    clear k0 r0 g0 g1 HC
    go_upto_region 11 with fail
    have z0 := fun z : Over w1 => k1.overCell 0 _ rfl z
    have z1 := fun z : Over w1 => k1.overCell 1 _ rfl z
    have z2 := fun z : Over w1 => k1.overCell 2 _ rfl z
    have z3 := fun z : Over w1 => k1.overCell 3 _ rfl z
    have z4 := fun z : Over w1 => k1.overCell 4 _ rfl z
    have zE0 := fun z : Over w1 => ((gcell (G1.trans z.g)).1 bE (oE) lE).trans cE0
    refine region_over_tail 10 (by kernel_rfl) (by kernel_rfl) ?_
    simp only [List.take_succ_cons, List.take_zero, List.drop_succ_cons, List.drop_zero]
    repeat (first | go_big_quiet_step (fail) | quiet_step (fail))
    refine wpQuiet_nil ?_
    intro z
    have r5 := r1.over z
    have G5 := G1.trans z.g
    clear z0 z1 z2 z3 z4 k1 r1 G1 zE0
    generalize z.w = w5 at *
    have x0 := r5.cell 0
    have x1 := r5.cell 1
    have x2 := r5.cell 2
    have x3 := r5.cell 3
    have x4 := r5.cell 4
    have f0 := r5.free 0
    have f1 := r5.free 1
    have f2 := r5.free 2
    have f3 := r5.free 3
    have f4 := r5.free 4
    go_wp2_with fail
    clear x0 x1 x2 x3 x4 f0 f1 f2 f3 f4
    have ky := (((((r5.set (o := 0) (.slice (some ⟨bP, oP, none⟩) 3 cP)).set (o := 1) (.int .i64 n)).set (o := 2) (.int .i64 k)).set (o := 3) (.slice (some ⟨bE, oE, none⟩) 2 cE)).set (o := 4) (.slice (some ⟨bT, oT, none⟩) 2 cT))
    have gy := (((((G5.setCell (b := (w.heap.size + 1)) (o := 0) (by omega) (.slice (some ⟨bP, oP, none⟩) 3 cP)).setCell (b := (w.heap.size + 1)) (o := 1) (by omega) (.int .i64 n)).setCell (b := (w.heap.size + 1)) (o := 2) (by omega) (.int .i64 k)).setCell (b := (w.heap.size + 1)) (o := 3) (by omega) (.slice (some ⟨bE, oE, none⟩) 2 cE)).setCell (b := (w.heap.size + 1)) (o := 4) (by omega) (.slice (some ⟨bT, oT, none⟩) 2 cT))
    generalize (((((w5.setCell ⟨(w.heap.size + 1), 0, none⟩ (.slice (some ⟨bP, oP, none⟩) 3 cP)).setCell ⟨(w.heap.size + 1), 1, none⟩ (.int .i64 n)).setCell ⟨(w.heap.size + 1), 2, none⟩ (.int .i64 k)).setCell ⟨(w.heap.size + 1), 3, none⟩ (.slice (some ⟨bE, oE, none⟩) 2 cE)).setCell ⟨(w.heap.size + 1), 4, none⟩ (.slice (some ⟨bT, oT, none⟩) 2 cT)) = wy at *
    have z0 := ky.cell 0
    have z1 := ky.cell 1
    have z2 := ky.cell 2
    have z3 := ky.cell 3
    have z4 := ky.cell 4
    exact bodyPost_ret (v := .tuple #[.int .u64 e0, .agg #[.slice (some ⟨bP, oP, none⟩) 3 cP, .int .i64 n, .int .i64 k, .slice (some ⟨bE, oE, none⟩) 2 cE, .slice (some ⟨bT, oT, none⟩) 2 cT], .bool true]) (by simp [results, Try.results13, go_sem, z0, z1, z2, z3, z4]) rfl ⟨_, rfl, Lib.hid (HV.out.grew gy), g.trans gy⟩
  by_cases h5 : off = 8320
  · subst h5
    rw [show regAt 8320 = 5 from rfl]
    clear hr
    clear HK0 HK1
    rw [show s.load 5 = s.e1 from rfl, show s.loaded 5 = s from rfl]
    have HV := Lib.hid hb
    obtain ⟨vP, vE, vT, rfl, h1, h2, h3⟩ := hb.shape
    obtain ⟨bP, oP, cP, rfl, lP, hP⟩ := h1.at (by simp)
    obtain ⟨bE, oE, cE, rfl, lE, hE⟩ := h2.at (by simp)
    obtain ⟨bT, oT, cT, rfl, lT, hT⟩ := h3.at (by simp)
    have HB1 := Lib.hid h1
    have HB2 := Lib.hid h2
    have HB3 := Lib.hid h3
    clear h1 h2 h3 hb
    obtain ⟨p1, p2, n, k, e0, t0, e1, t1⟩ := s
    have cP0 : w.cell? ⟨bP, oP, none⟩ = some (.int .i64 0) := hP 0 (by simp)
    have cP1 : w.cell? ⟨bP, oP + 1, none⟩ = some (.int .i64 p1) := hP 1 (by simp)
    have cP2 : w.cell? ⟨bP, oP + 2, none⟩ = some (.int .i64 p2) := hP 2 (by simp)
    have cE0 : w.cell? ⟨bE, oE, none⟩ = some (.int .i64 e0) := hE 0 (by simp)
    have cE1 : w.cell? ⟨bE, oE + 1, none⟩ = some (.int .i64 e1) := hE 1 (by simp)
    have cT0 : w.cell? ⟨bT, oT, none⟩ = some (.int .i64 t0) := hT 0 (by simp)
    have cT1 : w.cell? ⟨bT, oT + 1, none⟩ = some (.int .i64 t1) := hT 1 (by simp)
    clear hP hE hT
    dsimp only [VS.ps] at HV HB1 HB2 HB3 ⊢
    simp only [List.length_cons, List.length_nil, Nat.zero_add, Nat.reduceAdd] at HV HB1 HB2 HB3 ⊢
    dsimp only at *
    go_enter Try.func13, Try.ntmps13
    go_upto_region 1 with fail
    have k0 : Blk ((w.alloc (.cells #[.slice (some ⟨bP, oP, none⟩) 3 cP, .int .i64 n, .int .i64 k, .slice (some ⟨bE, oE, none⟩) 2 cE, .slice (some ⟨bT, oT, none⟩) 2 cT] 24)).alloc (.cells #[.slice none 0 0, .int .i64 0, .int .i64 0, .slice none 0 0, .slice none 0 0] 24)) w.heap.size #[.slice (some ⟨bP, oP, none⟩) 3 cP, .int .i64 n, .int .i64 k, .slice (some ⟨bE, oE, none⟩) 2 cE, .slice (some ⟨bT, oT, none⟩) 2 cT] 24 := (Blk.new _ _ _ _ rfl).alloc _
    have r0 : Blk ((w.alloc (.cells #[.slice (some ⟨bP, oP, none⟩) 3 cP, .int .i64 n, .int .i64 k, .slice (some ⟨bE, oE, none⟩) 2 cE, .slice (some ⟨bT, oT, none⟩) 2 cT] 24)).alloc (.cells #[.slice none 0 0, .int .i64 0, .int .i64 0, .slice none 0 0, .slice none 0 0] 24)) (w.heap.size + 1) #[.slice none 0 0, .int .i64 0, .int .i64 0, .slice none 0 0, .slice none 0 0] 24 := Blk.new _ _ _ _ (by simp)
    have g0 : Grew w ((w.alloc (.cells #[.slice (some ⟨bP, oP, none⟩) 3 cP, .int .i64 n, .int .i64 k, .slice (some ⟨bE, oE, none⟩) 2 cE, .slice (some ⟨bT, oT, none⟩) 2 cT] 24)).alloc (.cells #[.slice none 0 0, .int .i64 0, .int .i64 0, .slice none 0 0, .slice none 0 0] 24)) := ((Grew.refl w).alloc _).alloc _
    have s0 := r0.lt
    generalize ((w.alloc (.cells #[.slice (some ⟨bP, oP, none⟩) 3 cP, .int .i64 n, .int .i64 k, .slice (some ⟨bE, oE, none⟩) 2 cE, .slice (some ⟨bT, oT, none⟩) 2 cT] 24)).alloc (.cells #[.slice none 0 0, .int .i64 0, .int .i64 0, .slice none 0 0, .slice none 0 0] 24)) = w0 at *
    have y0 := k0.cell 0
    have y1 := k0.cell 1
    have y2 := k0.cell 2
    have y3 := k0.cell 3
    have y4 := k0.cell 4
    go_wp2_with fail
    refine (HC.out _ g0).mono ?_
    rintro e w1 ⟨rfl, g1⟩
    clear y0 y1 y2 y3 y4
    have k1 := k0.grew g1
    have r1 := r0.grew g1
    have G1 := g0.trans g1
    clear k0 r0 g0 g1 HC
    go_upto_region 11 with fail
    have z0 := fun z : Over w1 => k1.overCell 0 _ rfl z
    have z1 := fun z : Over w1 => k1.overCell 1 _ rfl z
    have z2 := fun z : Over w1 => k1.overCell 2 _ rfl z
    have z3 := fun z : Over w1 => k1.overCell 3 _ rfl z
    have z4 := fun z : Over w1 => k1.overCell 4 _ rfl z
    have zE1 := fun z : Over w1 => ((gcell (G1.trans z.g)).1 bE (oE + 1) lE).trans cE1
    refine region_over_tail 10 (by kernel_rfl) (by kernel_rfl) ?_
    simp only [List.take_succ_cons, List.take_zero, List.drop_succ_cons, List.drop_zero]
    repeat (first | go_big_quiet_step (fail) | quiet_step (fail))
    refine wpQuiet_nil ?_
    intro z
    have r5 := r1.over z
    have G5 := G1.trans z.g
    clear z0 z1 z2 z3 z4 k1 r1 G1 zE1
    generalize z.w = w5 at *
    have x0 := r5.cell 0
    have x1 := r5.cell 1
    have x2 := r5.cell 2
    have x3 := r5.cell 3
    have x4 := r5.cell 4
    have f0 := r5.free 0
    have f1 := r5.free 1
    have f2 := r5.free 2
    have f3 := r5.free 3
    have f4 := r5.free 4
    go_wp2_with fail
    clear x0 x1 x2 x3 x4 f0 f1 f2 f3 f4
    have ky := (((((r5.set (o := 0) (.slice (some ⟨bP, oP, none⟩) 3 cP)).set (o := 1) (.int .i64 n)).set (o := 2) (.int .i64 k)).set (o := 3) (.slice (some ⟨bE, oE, none⟩) 2 cE)).set (o := 4) (.slice (some ⟨bT, oT, none⟩) 2 cT))
    have gy := (((((G5.setCell (b := (w.heap.size + 1)) (o := 0) (by omega) (.slice (some ⟨bP, oP, none⟩) 3 cP)).setCell (b := (w.heap.size + 1)) (o := 1) (by omega) (.int .i64 n)).setCell (b := (w.heap.size + 1)) (o := 2) (by omega) (.int .i64 k)).setCell (b := (w.heap.size + 1)) (o := 3) (by omega) (.slice (some ⟨bE, oE, none⟩) 2 cE)).setCell (b := (w.heap.size + 1)) (o := 4) (by omega) (.slice (some ⟨bT, oT, none⟩) 2 cT))
    generalize (((((w5.setCell ⟨(w.heap.size + 1), 0, none⟩ (.slice (some ⟨bP, oP, none⟩) 3 cP)).setCell ⟨(w.heap.size + 1), 1, none⟩ (.int .i64 n)).setCell ⟨(w.heap.size + 1), 2, none⟩ (.int .i64 k)).setCell ⟨(w.heap.size + 1), 3, none⟩ (.slice (some ⟨bE, oE, none⟩) 2 cE)).setCell ⟨(w.heap.size + 1), 4, none⟩ (.slice (some ⟨bT, oT, none⟩) 2 cT)) = wy at *
    have z0 := ky.cell 0
    have z1 := ky.cell 1
    have z2 := ky.cell 2
    have z3 := ky.cell 3
    have z4 := ky.cell 4
    exact bodyPost_ret (v := .tuple #[.int .u64 e1, .agg #[.slice (some ⟨bP, oP, none⟩) 3 cP, .int .i64 n, .int .i64 k, .slice (some ⟨bE, oE, none⟩) 2 cE, .slice (some ⟨bT, oT, none⟩) 2 cT], .bool true]) (by simp [results, Try.results13, go_sem, z0, z1, z2, z3, z4]) rfl ⟨_, rfl, Lib.hid (HV.out.grew gy), g.trans gy⟩
  by_cases h6 : off = 2097152
  · subst h6
    rw [show regAt 2097152 = 6 from rfl]
    clear hr
    clear HK0 HK1
    rw [show s.load 6 = s.t0 from rfl, show s.loaded 6 = s from rfl]
    have HV := Lib.hid hb
    obtain ⟨vP, vE, vT, rfl, h1, h2, h3⟩ := hb.shape
    obtain ⟨bP, oP, cP, rfl, lP, hP⟩ := h1.at (by simp)
    obtain ⟨bE, oE, cE, rfl, lE, hE⟩ := h2.at (by simp)
    obtain ⟨bT, oT, cT, rfl, lT, hT⟩ := h3.at (by simp)
    have HB1 := Lib.hid h1
    have HB2 := Lib.hid h2
    have HB3 := Lib.hid h3
    clear h1 h2 h3 hb
    obtain ⟨p1, p2, n, k, e0, t0, e1, t1⟩ := s
    have cP0 : w.cell? ⟨bP, oP, none⟩ = some (.int .i64 0) := hP 0 (by simp)
    have cP1 : w.cell? ⟨bP, oP + 1, none⟩ = some (.int .i64 p1) := hP 1 (by simp)
    have cP2 : w.cell? ⟨bP, oP + 2, none⟩ = some (.int .i64 p2) := hP 2 (by simp)
    have cE0 : w.cell? ⟨bE, oE, none⟩ = some (.int .i64 e0) := hE 0 (by simp)
    have cE1 : w.cell? ⟨bE, oE + 1, none⟩ = some (.int .i64 e1) := hE 1 (by simp)
    have cT0 : w.cell? ⟨bT, oT, none⟩ = some (.int .i64 t0) := hT 0 (by simp)
    have cT1 : w.cell? ⟨bT, oT + 1, none⟩ = some (.int .i64 t1) := hT 1 (by simp)
    clear hP hE hT
    dsimp only [VS.ps] at HV HB1 HB2 HB3 ⊢
    simp only [List.length_cons, List.length_nil, Nat.zero_add, Nat.reduceAdd] at HV HB1 HB2 HB3 ⊢
    dsimp only at *
    go_enter Try.func13, Try.ntmps13
    go_upto_region 1 with fail
    have k0 : Blk ((w.alloc (.cells #[.slice (some ⟨bP, oP, none⟩) 3 cP, .int .i64 n, .int .i64 k, .slice (some ⟨bE, oE, none⟩) 2 cE, .slice (some ⟨bT, oT, none⟩) 2 cT] 24)).alloc (.cells #[.slice none 0 0, .int .i64 0, .int .i64 0, .slice none 0 0, .slice none 0 0] 24)) w.heap.size #[.slice (some ⟨bP, oP, none⟩) 3 cP, .int .i64 n, .int .i64 k, .slice (some ⟨bE, oE, none⟩) 2 cE, .slice (some ⟨bT, oT, none⟩) 2 cT] 24 := (Blk.new _ _ _ _ rfl).alloc _
    have r0 : Blk ((w.alloc (.cells #[.slice (some ⟨bP, oP, none⟩) 3 cP, .int .i64 n, .int .i64 k, .slice (some ⟨bE, oE, none⟩) 2 cE, .slice (some ⟨bT, oT, none⟩) 2 cT] 24)).alloc (.cells #[.slice none 0 0, .int .i64 0, .int .i64 0, .slice none 0 0, .slice none 0 0] 24)) (w.heap.size + 1) #[.slice none 0 0, .int .i64 0, .int .i64 0, .slice none 0 0, .slice none 0 0] 24 := Blk.new _ _ _ _ (by simp)
    have g0 : Grew w ((w.alloc (.cells #[.slice (some ⟨bP, oP, none⟩) 3 cP, .int .i64 n, .int .i64 k, .slice (some ⟨bE, oE, none⟩) 2 cE, .slice (some ⟨bT, oT, none⟩) 2 cT] 24)).alloc (.cells #[.slice none 0 0, .int .i64 0, .int .i64 0, .slice none 0 0, .slice none 0 0] 24)) := ((Grew.refl w).alloc _).alloc _
    have s0 := r0.lt
    generalize ((w.alloc (.cells #[.slice (some ⟨bP, oP, none⟩) 3 cP, .int .i64 n, .int .i64 k, .slice (some ⟨bE, oE, none⟩) 2 cE, .slice (some ⟨bT, oT, none⟩) 2 cT] 24)).alloc (.cells #[.slice none 0 0, .int .i64 0, .int .i64 0, .slice none 0 0, .slice none 0 0] 24)) = w0 at *
    have y0 := k0.cell 0
    have y1 := k0.cell 1
    have y2 := k0.cell 2
    have y3 := k0.cell 3
    have y4 := k0.cell 4
    go_wp2_with fail
    refine (HC.out _ g0).mono ?_
    rintro e w1 ⟨rfl, g1⟩
    clear y0 y1 y2 y3 y4
    have k1 := k0.grew g1
    have r1 := r0.grew g1
    have G1 := g0.trans g1
    clear k0 r0 g0 g1 HC
    go_upto_region 14 with fail
    have z0 := fun z : Over w1 => k1.overCell 0 _ rfl z
    have z1 := fun z : Over w1 => k1.overCell 1 _ rfl z
    have z2 := fun z : Over w1 => k1.overCell 2 _ rfl z
    have z3 := fun z : Over w1 => k1.overCell 3 _ rfl z
    have z4 := fun z : Over w1 => k1.overCell 4 _ rfl z
    have zT0 := fun z : Over w1 => ((gcell (G1.trans z.g)).1 bT (oT) lT).trans cT0
    refine region_over_tail 10 (by kernel_rfl) (by kernel_rfl) ?_
    simp only [List.take_succ_cons, List.take_zero, List.drop_succ_cons, List.drop_zero]
    repeat (first | go_big_quiet_step (fail) | quiet_step (fail))
    refine wpQuiet_nil ?_
    intro z
    have r5 := r1.over z
    have G5 := G1.trans z.g
    clear z0 z1 z2 z3 z4 k1 r1 G1 zT0
    generalize z.w = w5 at *
    have x0 := r5.cell 0
    have x1 := r5.cell 1
    have x2 := r5.cell 2
    have x3 := r5.cell 3
    have x4 := r5.cell 4
    have f0 := r5.free 0
    have f1 := r5.free 1
    have f2 := r5.free 2
    have f3 := r5.free 3
    have f4 := r5.free 4
    go_wp2_with fail
    clear x0 x1 x2 x3 x4 f0 f1 f2 f3 f4
    have ky := (((((r5.set (o := 0) (.slice (some ⟨bP, oP, none⟩) 3 cP)).set (o := 1) (.int .i64 n)).set (o := 2) (.int .i64 k)).set (o := 3) (.slice (some ⟨bE, oE, none⟩) 2 cE)).set (o := 4) (.slice (some ⟨bT, oT, none⟩) 2 cT))
    have gy := (((((G5.setCell (b := (w.heap.size + 1)) (o := 0) (by omega) (.slice (some ⟨bP, oP, none⟩) 3 cP)).setCell (b := (w.heap.size + 1)) (o := 1) (by omega) (.int .i64 n)).setCell (b := (w.heap.size + 1)) (o := 2) (by omega) (.int .i64 k)).setCell (b := (w.heap.size + 1)) (o := 3) (by omega) (.slice (some ⟨bE, oE, none⟩) 2 cE)).setCell (b := (w.heap.size + 1)) (o := 4) (by omega) (.slice (some ⟨bT, oT, none⟩) 2 cT))
    generalize (((((w5.setCell ⟨(w.heap.size + 1), 0, none⟩ (.slice (some ⟨bP, oP, none⟩) 3 cP)).setCell ⟨(w.heap.size + 1), 1, none⟩ (.int .i64 n)).setCell ⟨(w.heap.size + 1), 2, none⟩ (.int .i64 k)).setCell ⟨(w.heap.size + 1), 3, none⟩ (.slice (some ⟨bE, oE, none⟩) 2 cE)).setCell ⟨(w.heap.size + 1), 4, none⟩ (.slice (some ⟨bT, oT, none⟩) 2 cT)) = wy at *
    have z0 := ky.cell 0
    have z1 := ky.cell 1
    have z2 := ky.cell 2
    have z3 := ky.cell 3
    have z4 := ky.cell 4
    exact bodyPost_ret (v := .tuple #[.int .u64 t0, .agg #[.slice (some ⟨bP, oP, none⟩) 3 cP, .int .i64 n, .int .i64 k, .slice (some ⟨bE, oE, none⟩) 2 cE, .slice (some ⟨bT, oT, none⟩) 2 cT], .bool true]) (by simp [results, Try.results13, go_sem, z0, z1, z2, z3, z4]) rfl ⟨_, rfl, Lib.hid (HV.out.grew gy), g.trans gy⟩
  by_cases h7 : off = 2101248
  · subst h7
    rw [show regAt 2101248 = 7 from rfl]
    clear hr
    clear HK0 HK1
    rw [show s.load 7 = s.t1 from rfl, show s.loaded 7 = s from rfl]
    have HV := Lib.hid hb
    obtain ⟨vP, vE, vT, rfl, h1, h2, h3⟩ := hb.shape
    obtain ⟨bP, oP, cP, rfl, lP, hP⟩ := h1.at (by simp)
    obtain ⟨bE, oE, cE, rfl, lE, hE⟩ := h2.at (by simp)
    obtain ⟨bT, oT, cT, rfl, lT, hT⟩ := h3.at (by simp)
    have HB1 := Lib.hid h1
    have HB2 := Lib.hid h2
    have HB3 := Lib.hid h3
    clear h1 h2 h3 hb
    obtain ⟨p1, p2, n, k, e0, t0, e1, t1⟩ := s
    have cP0 : w.cell? ⟨bP, oP, none⟩ = some (.int .i64 0) := hP 0 (by simp)
    have cP1 : w.cell? ⟨bP, oP + 1, none⟩ = some (.int .i64 p1) := hP 1 (by simp)
    have cP2 : w.cell? ⟨bP, oP + 2, none⟩ = some (.int .i64 p2) := hP 2 (by simp)
    have cE0 : w.cell? ⟨bE, oE, none⟩ = some (.int .i64 e0) := hE 0 (by simp)
    have cE1 : w.cell? ⟨bE, oE + 1, none⟩ = some (.int .i64 e1) := hE 1 (by simp)
    have cT0 : w.cell? ⟨bT, oT, none⟩ = some (.int .i64 t0) := hT 0 (by simp)
    have cT1 : w.cell? ⟨bT, oT + 1, none⟩ = some (.int .i64 t1) := hT 1 (by simp)
    clear hP hE hT
    dsimp only [VS.ps] at HV HB1 HB2 HB3 ⊢
    simp only [List.length_cons, List.length_nil, Nat.zero_add, Nat.reduceAdd] at HV HB1 HB2 HB3 ⊢
    dsimp only at *
    go_enter Try.func13, Try.ntmps13
    go_upto_region 1 with fail
    have k0 : Blk ((w.alloc (.cells #[.slice (some ⟨bP, oP, none⟩) 3 cP, .int .i64 n, .int .i64 k, .slice (some ⟨bE, oE, none⟩) 2 cE, .slice (some ⟨bT, oT, none⟩) 2 cT] 24)).alloc (.cells #[.slice none 0 0, .int .i64 0, .int .i64 0, .slice none 0 0, .slice none 0 0] 24)) w.heap.size #[.slice (some ⟨bP, oP, none⟩) 3 cP, .int .i64 n, .int .i64 k, .slice (some ⟨bE, oE, none⟩) 2 cE, .slice (some ⟨bT, oT, none⟩) 2 cT] 24 := (Blk.new _ _ _ _ rfl).alloc _
    have r0 : Blk ((w.alloc (.cells #[.slice (some ⟨bP, oP, none⟩) 3 cP, .int .i64 n, .int .i64 k, .slice (some ⟨bE, oE, none⟩) 2 cE, .slice (some ⟨bT, oT, none⟩) 2 cT] 24)).alloc (.cells #[.slice none 0 0, .int .i64 0, .int .i64 0, .slice none 0 0, .slice none 0 0] 24)) (w.heap.size + 1) #[.slice none 0 0, .int .i64 0, .int .i64 0, .slice none 0 0, .slice none 0 0] 24 := Blk.new _ _ _ _ (by simp)
    have g0 : Grew w ((w.alloc (.cells #[.slice (some ⟨bP, oP, none⟩) 3 cP, .int .i64 n, .int .i64 k, .slice (some ⟨bE, oE, none⟩) 2 cE, .slice (some ⟨bT, oT, none⟩) 2 cT] 24)).alloc (.cells #[.slice none 0 0, .int .i64 0, .int .i64 0, .slice none 0 0, .slice none 0 0] 24)) := ((Grew.refl w).alloc _).alloc _
    have s0 := r0.lt
    generalize ((w.alloc (.cells #[.slice (some ⟨bP, oP, none⟩) 3 cP, .int .i64 n, .int .i64 k, .slice (some ⟨bE, oE, none⟩) 2 cE, .slice (some ⟨bT, oT, none⟩) 2 cT] 24)).alloc (.cells #[.slice none 0 0, .int .i64 0, .int .i64 0, .slice none 0 0, .slice none 0 0] 24)) = w0 at *
    have y0 := k0.cell 0
    have y1 := k0.cell 1
    have y2 := k0.cell 2
    have y3 := k0.cell 3
    have y4 := k0.cell 4
    go_wp2_with fail
    refine (HC.out _ g0).mono ?_
    rintro e w1 ⟨rfl, g1⟩
    clear y0 y1 y2 y3 y4
    have k1 := k0.grew g1
    have r1 := r0.grew g1
    have G1 := g0.trans g1
    clear k0 r0 g0 g1 HC
    go_upto_region 14 with fail
    have z0 := fun z : Over w1 => k1.overCell 0 _ rfl z
    have z1 := fun z : Over w1 => k1.overCell 1 _ rfl z
    have z2 := fun z : Over w1 => k1.overCell 2 _ rfl z
    have z3 := fun z : Over w1 => k1.overCell 3 _ rfl z
    have z4 := fun z : Over w1 => k1.overCell 4 _ rfl z
    have zT1 := fun z : Over w1 => ((gcell (G1.trans z.g)).1 bT (oT + 1) lT).trans cT1
    refine region_over_tail 10 (by kernel_rfl) (by kernel_rfl) ?_
    simp only [List.take_succ_cons, List.take_zero, List.drop_succ_cons, List.drop_zero]
    repeat (first | go_big_quiet_step (fail) | quiet_step (fail))
    refine wpQuiet_nil ?_
    intro z
    have r5 := r1.over z
    have G5 := G1.trans z.g
    clear z0 z1 z2 z3 z4 k1 r1 G1 zT1
    generalize z.w = w5 at *
    have x0 := r5.cell 0
    have x1 := r5.cell 1
    have x2 := r5.cell 2
    have x3 := r5.cell 3
    have x4 := r5.cell 4
    have f0 := r5.free 0
    have f1 := r5.free 1
    have f2 := r5.free 2
    have f3 := r5.free 3
    have f4 := r5.free 4
    go_wp2_with fail
    clear x0 x1 x2 x3 x4 f0 f1 f2 f3 f4
    have ky := (((((r5.set (o := 0) (.slice (some ⟨bP, oP, none⟩) 3 cP)).set (o := 1) (.int .i64 n)).set (o := 2) (.int .i64 k)).set (o := 3) (.slice (some ⟨bE, oE, none⟩) 2 cE)).set (o := 4) (.slice (some ⟨bT, oT, none⟩) 2 cT))
    have gy := (((((G5.setCell (b := (w.heap.size + 1)) (o := 0) (by omega) (.slice (some ⟨bP, oP, none⟩) 3 cP)).setCell (b := (w.heap.size + 1)) (o := 1) (by omega) (.int .i64 n)).setCell (b := (w.heap.size + 1)) (o := 2) (by omega) (.int .i64 k)).setCell (b := (w.heap.size + 1)) (o := 3) (by omega) (.slice (some ⟨bE, oE, none⟩) 2 cE)).setCell (b := (w.heap.size + 1)) (o := 4) (by omega) (.slice (some ⟨bT, oT, none⟩) 2 cT))
    generalize (((((w5.setCell ⟨(w.heap.size + 1), 0, none⟩ (.slice (some ⟨bP, oP, none⟩) 3 cP)).setCell ⟨(w.heap.size + 1), 1, none⟩ (.int .i64 n)).setCell ⟨(w.heap.size + 1), 2, none⟩ (.int .i64 k)).setCell ⟨(w.heap.size + 1), 3, none⟩ (.slice (some ⟨bE, oE, none⟩) 2 cE)).setCell ⟨(w.heap.size + 1), 4, none⟩ (.slice (some ⟨bT, oT, none⟩) 2 cT)) = wy at *
    have z0 := ky.cell 0
    have z1 := ky.cell 1
    have z2 := ky.cell 2
    have z3 := ky.cell 3
    have z4 := ky.cell 4
    exact bodyPost_ret (v := .tuple #[.int .u64 t1, .agg #[.slice (some ⟨bP, oP, none⟩) 3 cP, .int .i64 n, .int .i64 k, .slice (some ⟨bE, oE, none⟩) 2 cE, .slice (some ⟨bT, oT, none⟩) 2 cT], .bool true]) (by simp [results, Try.results13, go_sem, z0, z1, z2, z3, z4]) rfl ⟨_, rfl, Lib.hid (HV.out.grew gy), g.trans gy⟩
  by_cases h8 : off = 2097156
  · subst h8
    rw [show regAt 2097156 = 8 from rfl]
    clear hr
    rw [show s.load 8 = s.best 0 from rfl, show s.loaded 8 = s.claim (s.best 0) from rfl]
    clear HK1
    generalize s.best 0 = bv at *
    have HI := Lib.hid (HOK.out bv)
    have hps : (s.claim bv).ps = ⟨[0, s.p1, s.p2], (s.claim bv).n, (s.claim bv).k, [s.e0, s.e1], [s.t0, s.t1]⟩ := rfl
    rw [hps]
    clear hps HOK
    generalize (s.claim bv).n = m1 at *
    generalize (s.claim bv).k = m2 at *
    have HV := Lib.hid hb
    obtain ⟨vP, vE, vT, rfl, h1, h2, h3⟩ := hb.shape
    obtain ⟨bP, oP, cP, rfl, lP, hP⟩ := h1.at (by simp)
    obtain ⟨bE, oE, cE, rfl, lE, hE⟩ := h2.at (by simp)
    obtain ⟨bT, oT, cT, rfl, lT, hT⟩ := h3.at (by simp)
    have HB1 := Lib.hid h1
    have HB2 := Lib.hid h2
    have HB3 := Lib.hid h3
    clear h1 h2 h3 hb
    obtain ⟨p1, p2, n, k, e0, t0, e1, t1⟩ := s
    have cP0 : w.cell? ⟨bP, oP, none⟩ = some (.int .i64 0) := hP 0 (by simp)
    have cP1 : w.cell? ⟨bP, oP + 1, none⟩ = some (.int .i64 p1) := hP 1 (by simp)
    have cP2 : w.cell? ⟨bP, oP + 2, none⟩ = some (.int .i64 p2) := hP 2 (by simp)
    have cE0 : w.cell? ⟨bE, oE, none⟩ = some (.int .i64 e0) := hE 0 (by simp)
    have cE1 : w.cell? ⟨bE, oE + 1, none⟩ = some (.int .i64 e1) := hE 1 (by simp)
    have cT0 : w.cell? ⟨bT, oT, none⟩ = some (.int .i64 t0) := hT 0 (by simp)
    have cT1 : w.cell? ⟨bT, oT + 1, none⟩ = some (.int .i64 t1) := hT 1 (by simp)
    clear hP hE hT
    dsimp only [VS.ps] at HV HB1 HB2 HB3 ⊢
    simp only [List.length_cons, List.length_nil, Nat.zero_add, Nat.reduceAdd] at HV HB1 HB2 HB3 ⊢
    dsimp only at *
    go_enter Try.func13, Try.ntmps13
    go_upto_region 1 with fail
    have k0 : Blk ((w.alloc (.cells #[.slice (some ⟨bP, oP, none⟩) 3 cP, .int .i64 n, .int .i64 k, .slice (some ⟨bE, oE, none⟩) 2 cE, .slice (some ⟨bT, oT, none⟩) 2 cT] 24)).alloc (.cells #[.slice none 0 0, .int .i64 0, .int .i64 0, .slice none 0 0, .slice none 0 0] 24)) w.heap.size #[.slice (some ⟨bP, oP, none⟩) 3 cP, .int .i64 n, .int .i64 k, .slice (some ⟨bE, oE, none⟩) 2 cE, .slice (some ⟨bT, oT, none⟩) 2 cT] 24 := (Blk.new _ _ _ _ rfl).alloc _
    have r0 : Blk ((w.alloc (.cells #[.slice (some ⟨bP, oP, none⟩) 3 cP, .int .i64 n, .int .i64 k, .slice (some ⟨bE, oE, none⟩) 2 cE, .slice (some ⟨bT, oT, none⟩) 2 cT] 24)).alloc (.cells #[.slice none 0 0, .int .i64 0, .int .i64 0, .slice none 0 0, .slice none 0 0] 24)) (w.heap.size + 1) #[.slice none 0 0, .int .i64 0, .int .i64 0, .slice none 0 0, .slice none 0 0] 24 := Blk.new _ _ _ _ (by simp)
    have g0 : Grew w ((w.alloc (.cells #[.slice (some ⟨bP, oP, none⟩) 3 cP, .int .i64 n, .int .i64 k, .slice (some ⟨bE, oE, none⟩) 2 cE, .slice (some ⟨bT, oT, none⟩) 2 cT] 24)).alloc (.cells #[.slice none 0 0, .int .i64 0, .int .i64 0, .slice none 0 0, .slice none 0 0] 24)) := ((Grew.refl w).alloc _).alloc _
    have s0 := r0.lt
    generalize ((w.alloc (.cells #[.slice (some ⟨bP, oP, none⟩) 3 cP, .int .i64 n, .int .i64 k, .slice (some ⟨bE, oE, none⟩) 2 cE, .slice (some ⟨bT, oT, none⟩) 2 cT] 24)).alloc (.cells #[.slice none 0 0, .int .i64 0, .int .i64 0, .slice none 0 0, .slice none 0 0] 24)) = w0 at *
    have y0 := k0.cell 0
    have y1 := k0.cell 1
    have y2 := k0.cell 2
    have y3 := k0.cell 3
    have y4 := k0.cell 4
    go_wp2_with fail
    refine (HC.out _ g0).mono ?_
    rintro e w1 ⟨rfl, g1⟩
    clear y0 y1 y2 y3 y4
    have k1 := k0.grew g1
    have r1 := r0.grew g1
    have G1 := g0.trans g1
    clear k0 r0 g0 g1 HC
    have y0 := k1.cell 0
    have y1 := k1.cell 1
    have y2 := k1.cell 2
    have y3 := k1.cell 3
    have y4 := k1.cell 4
    go_wp2_with fail
    refine (HK0.out _ G1 _ _ _ HV.out).mono ?_
    rintro e w5 ⟨rfl, g5⟩
    clear y0 y1 y2 y3 y4
    have r5 := r1.grew g5
    have G5 := G1.trans g5
    clear k1 r1 G1 g5 HK0
    have x0 := r5.cell 0
    have x1 := r5.cell 1
    have x2 := r5.cell 2
    have x3 := r5.cell 3
    have x4 := r5.cell 4
    have f0 := r5.free 0
    have f1 := r5.free 1
    have f2 := r5.free 2
    have f3 := r5.free 3
    have f4 := r5.free 4
    go_wp2_with fail
    clear x0 x1 x2 x3 x4 f0 f1 f2 f3 f4
    have ky := (((((r5.set (o := 0) (.slice (some ⟨bP, oP, none⟩) 3 cP)).set (o := 1) (.int .i64 m1)).set (o := 2) (.int .i64 m2)).set (o := 3) (.slice (some ⟨bE, oE, none⟩) 2 cE)).set (o := 4) (.slice (some ⟨bT, oT, none⟩) 2 cT))
    have gy := (((((G5.setCell (b := (w.heap.size + 1)) (o := 0) (by omega) (.slice (some ⟨bP, oP, none⟩) 3 cP)).setCell (b := (w.heap.size + 1)) (o := 1) (by omega) (.int .i64 m1)).setCell (b := (w.heap.size + 1)) (o := 2) (by omega) (.int .i64 m2)).setCell (b := (w.heap.size + 1)) (o := 3) (by omega) (.slice (some ⟨bE, oE, none⟩) 2 cE)).setCell (b := (w.heap.size + 1)) (o := 4) (by omega) (.slice (some ⟨bT, oT, none⟩) 2 cT))
    generalize (((((w5.setCell ⟨(w.heap.size + 1), 0, none⟩ (.slice (some ⟨bP, oP, none⟩) 3 cP)).setCell ⟨(w.heap.size + 1), 1, none⟩ (.int .i64 m1)).setCell ⟨(w.heap.size + 1), 2, none⟩ (.int .i64 m2)).setCell ⟨(w.heap.size + 1), 3, none⟩ (.slice (some ⟨bE, oE, none⟩) 2 cE)).setCell ⟨(w.heap.size + 1), 4, none⟩ (.slice (some ⟨bT, oT, none⟩) 2 cT)) = wy at *
    have z0 := ky.cell 0
    have z1 := ky.cell 1
    have z2 := ky.cell 2
    have z3 := ky.cell 3
    have z4 := ky.cell 4
    exact bodyPost_ret (v := .tuple #[.int .u64 bv, .agg #[.slice (some ⟨bP, oP, none⟩) 3 cP, .int .i64 m1, .int .i64 m2, .slice (some ⟨bE, oE, none⟩) 2 cE, .slice (some ⟨bT, oT, none⟩) 2 cT], .bool true]) (by simp [results, Try.results13, go_sem, z0, z1, z2, z3, z4]) rfl ⟨_, rfl, Lib.hid ⟨⟨_, _, _, rfl, HB1.out.grew gy, HB2.out.grew gy, HB3.out.grew gy⟩, HI.out.1, HI.out.2⟩, g.trans gy⟩
  by_cases h9 : off = 2101252
  · subst h9
    rw [show regAt 2101252 = 9 from rfl]
    clear hr
    rw [show s.load 9 = s.best 1 from rfl, show s.loaded 9 = s.claim (s.best 1) from rfl]
    clear HK0
    generalize s.best 1 = bv at *
    have HI := Lib.hid (HOK.out bv)
    have hps : (s.claim bv).ps = ⟨[0, s.p1, s.p2], (s.claim bv).n, (s.claim bv).k, [s.e0, s.e1], [s.t0, s.t1]⟩ := rfl
    rw [hps]
    clear hps HOK
    generalize (s.claim bv).n = m1 at *
    generalize (s.claim bv).k = m2 at *
    have HV := Lib.hid hb
    obtain ⟨vP, vE, vT, rfl, h1, h2, h3⟩ := hb.shape
    obtain ⟨bP, oP, cP, rfl, lP, hP⟩ := h1.at (by simp)
    obtain ⟨bE, oE, cE, rfl, lE, hE⟩ := h2.at (by simp)
    obtain ⟨bT, oT, cT, rfl, lT, hT⟩ := h3.at (by simp)
    have HB1 := Lib.hid h1
    have HB2 := Lib.hid h2
    have HB3 := Lib.hid h3
    clear h1 h2 h3 hb
    obtain ⟨p1, p2, n, k, e0, t0, e1, t1⟩ := s
    have cP0 : w.cell? ⟨bP, oP, none⟩ = some (.int .i64 0) := hP 0 (by simp)
    have cP1 : w.cell? ⟨bP, oP + 1, none⟩ = some (.int .i64 p1) := hP 1 (by simp)
    have cP2 : w.cell? ⟨bP, oP + 2, none⟩ = some (.int .i64 p2) := hP 2 (by simp)
    have cE0 : w.cell? ⟨bE, oE, none⟩ = some (.int .i64 e0) := hE 0 (by simp)
    have cE1 : w.cell? ⟨bE, oE + 1, none⟩ = some (.int .i64 e1) := hE 1 (by simp)
    have cT0 : w.cell? ⟨bT, oT, none⟩ = some (.int .i64 t0) := hT 0 (by simp)
    have cT1 : w.cell? ⟨bT, oT + 1, none⟩ = some (.int .i64 t1) := hT 1 (by simp)
    clear hP hE hT
    dsimp only [VS.ps] at HV HB1 HB2 HB3 ⊢
    simp only [List.length_cons, List.length_nil, Nat.zero_add, Nat.reduceAdd] at HV HB1 HB2 HB3 ⊢
    dsimp only at *
    go_enter Try.func13, Try.ntmps13
    go_upto_region 1 with fail
    have k0 : Blk ((w.alloc (.cells #[.slice (some ⟨bP, oP, none⟩) 3 cP, .int .i64 n, .int .i64 k, .slice (some ⟨bE, oE, none⟩) 2 cE, .slice (some ⟨bT, oT, none⟩) 2 cT] 24)).alloc (.cells #[.slice none 0 0, .int .i64 0, .int .i64 0, .slice none 0 0, .slice none 0 0] 24)) w.heap.size #[.slice (some ⟨bP, oP, none⟩) 3 cP, .int .i64 n, .int .i64 k, .slice (some ⟨bE, oE, none⟩) 2 cE, .slice (some ⟨bT, oT, none⟩) 2 cT] 24 := (Blk.new _ _ _ _ rfl).alloc _
    have r0 : Blk ((w.alloc (.cells #[.slice (some ⟨bP, oP, none⟩) 3 cP, .int .i64 n, .int .i64 k, .slice (some ⟨bE, oE, none⟩) 2 cE, .slice (some ⟨bT, oT, none⟩) 2 cT] 24)).alloc (.cells #[.slice none 0 0, .int .i64 0, .int .i64 0, .slice none 0 0, .slice none 0 0] 24)) (w.heap.size + 1) #[.slice none 0 0, .int .i64 0, .int .i64 0, .slice none 0 0, .slice none 0 0] 24 := Blk.new _ _ _ _ (by simp)
    have g0 : Grew w ((w.alloc (.cells #[.slice (some ⟨bP, oP, none⟩) 3 cP, .int .i64 n, .int .i64 k, .slice (some ⟨bE, oE, none⟩) 2 cE, .slice (some ⟨bT, oT, none⟩) 2 cT] 24)).alloc (.cells #[.slice none 0 0, .int .i64 0, .int .i64 0, .slice none 0 0, .slice none 0 0] 24)) := ((Grew.refl w).alloc _).alloc _
    have s0 := r0.lt
    generalize ((w.alloc (.cells #[.slice (some ⟨bP, oP, none⟩) 3 cP, .int .i64 n, .int .i64 k, .slice (some ⟨bE, oE, none⟩) 2 cE, .slice (some ⟨bT, oT, none⟩) 2 cT] 24)).alloc (.cells #[.slice none 0 0, .int .i64 0, .int .i64 0, .slice none 0 0, .slice none 0 0] 24)) = w0 at *
    have y0 := k0.cell 0
    have y1 := k0.cell 1
    have y2 := k0.cell 2
    have y3 := k0.cell 3
    have y4 := k0.cell 4
    go_wp2_with fail
    refine (HC.out _ g0).mono ?_
    rintro e w1 ⟨rfl, g1⟩
    clear y0 y1 y2 y3 y4
    have k1 := k0.grew g1
    have r1 := r0.grew g1
    have G1 := g0.trans g1
    clear k0 r0 g0 g1 HC
    have y0 := k1.cell 0
    have y1 := k1.cell 1
    have y2 := k1.cell 2
    have y3 := k1.cell 3
    have y4 := k1.cell 4
    go_wp2_with fail
    refine (HK1.out _ G1 _ _ _ HV.out).mono ?_
    rintro e w5 ⟨rfl, g5⟩
    clear y0 y1 y2 y3 y4
    have r5 := r1.grew g5
    have G5 := G1.trans g5
    clear k1 r1 G1 g5 HK1
    have x0 := r5.cell 0
    have x1 := r5.cell 1
    have x2 := r5.cell 2
    have x3 := r5.cell 3
    have x4 := r5.cell 4
    have f0 := r5.free 0
    have f1 := r5.free 1
    have f2 := r5.free 2
    have f3 := r5.free 3
    have f4 := r5.free 4
    go_wp2_with fail
    clear x0 x1 x2 x3 x4 f0 f1 f2 f3 f4
    have ky := (((((r5.set (o := 0) (.slice (some ⟨bP, oP, none⟩) 3 cP)).set (o := 1) (.int .i64 m1)).set (o := 2) (.int .i64 m2)).set (o := 3) (.slice (some ⟨bE, oE, none⟩) 2 cE)).set (o := 4) (.slice (some ⟨bT, oT, none⟩) 2 cT))
    have gy := (((((G5.setCell (b := (w.heap.size + 1)) (o := 0) (by omega) (.slice (some ⟨bP, oP, none⟩) 3 cP)).setCell (b := (w.heap.size + 1)) (o := 1) (by omega) (.int .i64 m1)).setCell (b := (w.heap.size + 1)) (o := 2) (by omega) (.int .i64 m2)).setCell (b := (w.heap.size + 1)) (o := 3) (by omega) (.slice (some ⟨bE, oE, none⟩) 2 cE)).setCell (b := (w.heap.size + 1)) (o := 4) (by omega) (.slice (some ⟨bT, oT, none⟩) 2 cT))
    generalize (((((w5.setCell ⟨(w.heap.size + 1), 0, none⟩ (.slice (some ⟨bP, oP, none⟩) 3 cP)).setCell ⟨(w.heap.size + 1), 1, none⟩ (.int .i64 m1)).setCell ⟨(w.heap.size + 1), 2, none⟩ (.int .i64 m2)).setCell ⟨(w.heap.size + 1), 3, none⟩ (.slice (some ⟨bE, oE, none⟩) 2 cE)).setCell ⟨(w.heap.size + 1), 4, none⟩ (.slice (some ⟨bT, oT, none⟩) 2 cT)) = wy at *
    have z0 := ky.cell 0
    have z1 := ky.cell 1
    have z2 := ky.cell 2
    have z3 := ky.cell 3
    have z4 := ky.cell 4
    exact bodyPost_ret (v := .tuple #[.int .u64 bv, .agg #[.slice (some ⟨bP, oP, none⟩) 3 cP, .int .i64 m1, .int .i64 m2, .slice (some ⟨bE, oE, none⟩) 2 cE, .slice (some ⟨bT, oT, none⟩) 2 cT], .bool true]) (by simp [results, Try.results13, go_sem, z0, z1, z2, z3, z4]) rfl ⟨_, rfl, Lib.hid ⟨⟨_, _, _, rfl, HB1.out.grew gy, HB2.out.grew gy, HB3.out.grew gy⟩, HI.out.1, HI.out.2⟩, g.trans gy⟩
  exfalso
  apply hr
  unfold regAt
  rw [if_neg h1, if_neg h2, if_neg h3, if_neg h4, if_neg h5, if_neg h6, if_neg h7, if_neg h8, if_neg h9]
end Go.Proofs.Ytpanecflmoebiaa
