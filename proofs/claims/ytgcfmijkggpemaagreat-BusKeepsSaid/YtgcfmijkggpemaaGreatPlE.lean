/-
  Package plic: what a controller that may be holds (taken).
-/
import Derived.Test.YtgcfmijkggpemaaGreatPlD
set_option maxRecDepth 4000
set_option linter.unusedVariables false
set_option linter.unusedSimpArgs false
namespace Go.Proofs.YtgcfmijkggpemaaGreat
open Go.RowKit

/-- The cells of what a controller holds. -/
abbrev ctl (p0 p1 p2 n k e0 t0 e1 t1 : Int) : Array Value := #[.int .i64 p0, .int .i64 p1, .int .i64 p2, .int .i64 n, .int .i64 k, .int .i64 e0, .int .i64 t0, .int .i64 e1, .int .i64 t1]
abbrev VS.ctl (s : VS) : Array Value := YtgcfmijkggpemaaGreat.ctl 0 s.p1 s.p2 s.n s.k s.e0 s.t0 s.e1 s.t1

set_option maxHeartbeats 4000000 in
theorem plTaken_c {v : Value} {s : VS} {W w : World} (hb : Pl w v s.ps) (g : Grew W w) :
    Calls Tryz.prog 38 #[v] w fun e w' => ∃ c, e = .returned (.pointer (some ⟨c, 0, none⟩)) ∧ w.heap.size ≤ c ∧ Hid (Blk w' c s.ctl 87) ∧ Grew W w' := by
  obtain ⟨p1, p2, n, k, e0, t0, e1, t1⟩ := s
  obtain ⟨vP, vE, vT, rfl, h1, h2, h3⟩ := hb.shape
  obtain ⟨bP, oP, cP, rfl, lP, hP⟩ := h1.at (by simp)
  obtain ⟨bE, oE, cE, rfl, lE, hE⟩ := h2.at (by simp)
  obtain ⟨bT, oT, cT, rfl, lT, hT⟩ := h3.at (by simp)
  have P0 : w.cell? ⟨bP, oP + 0, none⟩ = some (.int .i64 0) := hP 0 (by simp)
  have P1 : w.cell? ⟨bP, oP + 1, none⟩ = some (.int .i64 p1) := hP 1 (by simp)
  have P2 : w.cell? ⟨bP, oP + 2, none⟩ = some (.int .i64 p2) := hP 2 (by simp)
  have E0 : w.cell? ⟨bE, oE + 0, none⟩ = some (.int .i64 e0) := hE 0 (by simp)
  have E1 : w.cell? ⟨bE, oE + 1, none⟩ = some (.int .i64 e1) := hE 1 (by simp)
  have T0 : w.cell? ⟨bT, oT + 0, none⟩ = some (.int .i64 t0) := hT 0 (by simp)
  have T1 : w.cell? ⟨bT, oT + 1, none⟩ = some (.int .i64 t1) := hT 1 (by simp)
  simp only [Nat.add_zero] at P0 E0 T0
  have FP := Lib.hid (And.intro P0 (And.intro P1 P2))
  have FE := Lib.hid (And.intro E0 E1)
  have FT := Lib.hid (And.intro T0 T1)
  clear h1 h2 h3 hP hE hT P0 P1 P2 E0 E1 T0 T1 hb
  simp only [List.length_cons, List.length_nil, VS.ctl]
  have hgs := g.size
  go_enter Tryz.func38, Tryz.ntmps38
  go_upto_region 1 with fail
  have k0 : Blk (w.alloc (.cells #[.slice (some ⟨bP, oP, none⟩) 3 cP, .int .i64 n, .int .i64 k, .slice (some ⟨bE, oE, none⟩) 2 cE, .slice (some ⟨bT, oT, none⟩) 2 cT] 30)) w.heap.size #[.slice (some ⟨bP, oP, none⟩) 3 cP, .int .i64 n, .int .i64 k, .slice (some ⟨bE, oE, none⟩) 2 cE, .slice (some ⟨bT, oT, none⟩) 2 cT] 30 := Blk.new _ _ _ _ rfl
  have g0 : Grew w (w.alloc (.cells #[.slice (some ⟨bP, oP, none⟩) 3 cP, .int .i64 n, .int .i64 k, .slice (some ⟨bE, oE, none⟩) 2 cE, .slice (some ⟨bT, oT, none⟩) 2 cT] 30)) := (Grew.refl w).alloc _
  generalize (w.alloc (.cells #[.slice (some ⟨bP, oP, none⟩) 3 cP, .int .i64 n, .int .i64 k, .slice (some ⟨bE, oE, none⟩) 2 cE, .slice (some ⟨bT, oT, none⟩) 2 cT] 30)) = w0 at *
  generalize hD : w.heap.size = D at *
  have HD := Lib.hid hD
  clear hD
  have y1 := k0.cell 1
  have y2 := k0.cell 2
  go_upto_region 2 with fail
  have k1 : Blk (w0.alloc (.cells (ctl 0 0 0 n k 0 0 0 0) 87)) w0.heap.size (ctl 0 0 0 n k 0 0 0 0) 87 := Blk.new _ _ _ _ rfl
  have g1 : Grew w0 (w0.alloc (.cells (ctl 0 0 0 n k 0 0 0 0) 87)) := (Grew.refl w0).alloc _
  have hDE := k0.lt
  have hwE : w.heap.size ≤ w0.heap.size := by rw [HD.out]; omega
  have lP' : bP < w.heap.size := by rw [HD.out]; exact lP
  have lE' : bE < w.heap.size := by rw [HD.out]; exact lE
  have lT' : bT < w.heap.size := by rw [HD.out]; exact lT
  have m1 := k0.grew g1
  have j1 := g0.trans g1
  generalize (w0.alloc (.cells (ctl 0 0 0 n k 0 0 0 0) 87)) = w1 at *
  generalize w0.heap.size = E at *
  clear y1 y2 g1 g0 k0
  go_wp2_with fail
  refine wp_loop_rounds 4 ?_
  rw [rounds_succ]
  go_upto_region 5 with fail
  have Y0 := fun z : Over w1 => m1.overCell 0 _ rfl z
  have Y1 : ∀ z : Over w1, z.w.cell? ⟨bP, oP, none⟩ = some (.int .i64 0) := fun z => ((gcell (j1.trans z.g)).1 bP _ lP').trans (FP.out.1)
  have Y2 := True.intro
  have Y3 := True.intro
  refine region_over_tail 10 (by kernel_rfl) (by kernel_rfl) ?_
  simp only [List.take_succ_cons, List.take_zero, List.drop_succ_cons, List.drop_zero]
  repeat (first | go_big_quiet_step (fail) | quiet_step (fail))
  
  refine wpQuiet_nil ?_
  intro z
  have gz := z.g
  have kz := k1.over z
  have mz := m1.over z
  generalize z.w = v2 at *
  clear Y0 Y1 Y2 Y3
  have c0 := kz.cell 0
  have f0 := kz.free 0
  go_wp2_with fail
  have k2 : Blk (v2.setCell ⟨E, 0, none⟩ (.int .i64 0)) E (ctl 0 0 0 n k 0 0 0 0) 87 := (kz.set (o := 0) (.int .i64 0))
  have m2 := (mz.other (show D ≠ E by omega) (o := 0) (.int .i64 0))
  have j2 := ((j1.trans gz).setCell (b := E) (o := 0) (by omega) (.int .i64 0))
  clear c0 f0 kz mz gz k1 m1 j1
  generalize (v2.setCell ⟨E, 0, none⟩ (.int .i64 0)) = w2 at *
  rw [rounds_succ]
  go_upto_region 5 with fail
  have Y0 := fun z : Over w2 => m2.overCell 0 _ rfl z
  have Y1 : ∀ z : Over w2, z.w.cell? ⟨bP, oP + 1, none⟩ = some (.int .i64 p1) := fun z => ((gcell (j2.trans z.g)).1 bP _ lP').trans (FP.out.2.1)
  have Y2 := True.intro
  have Y3 := True.intro
  refine region_over_tail 10 (by kernel_rfl) (by kernel_rfl) ?_
  simp only [List.take_succ_cons, List.take_zero, List.drop_succ_cons, List.drop_zero]
  repeat (first | go_big_quiet_step (fail) | quiet_step (fail))
  
  refine wpQuiet_nil ?_
  intro z
  have gz := z.g
  have kz := k2.over z
  have mz := m2.over z
  generalize z.w = v3 at *
  clear Y0 Y1 Y2 Y3
  have c1 := kz.cell 1
  have f1 := kz.free 1
  go_wp2_with fail
  have k3 : Blk (v3.setCell ⟨E, 1, none⟩ (.int .i64 p1)) E (ctl 0 p1 0 n k 0 0 0 0) 87 := (kz.set (o := 1) (.int .i64 p1))
  have m3 := (mz.other (show D ≠ E by omega) (o := 1) (.int .i64 p1))
  have j3 := ((j2.trans gz).setCell (b := E) (o := 1) (by omega) (.int .i64 p1))
  clear c1 f1 kz mz gz k2 m2 j2
  generalize (v3.setCell ⟨E, 1, none⟩ (.int .i64 p1)) = w3 at *
  rw [rounds_succ]
  go_upto_region 5 with fail
  have Y0 := fun z : Over w3 => m3.overCell 0 _ rfl z
  have Y1 : ∀ z : Over w3, z.w.cell? ⟨bP, oP + 2, none⟩ = some (.int .i64 p2) := fun z => ((gcell (j3.trans z.g)).1 bP _ lP').trans (FP.out.2.2)
  have Y2 := True.intro
  have Y3 := True.intro
  refine region_over_tail 10 (by kernel_rfl) (by kernel_rfl) ?_
  simp only [List.take_succ_cons, List.take_zero, List.drop_succ_cons, List.drop_zero]
  repeat (first | go_big_quiet_step (fail) | quiet_step (fail))
  
  refine wpQuiet_nil ?_
  intro z
  have gz := z.g
  have kz := k3.over z
  have mz := m3.over z
  generalize z.w = v4 at *
  clear Y0 Y1 Y2 Y3
  have c2 := kz.cell 2
  have f2 := kz.free 2
  go_wp2_with fail
  have k4 : Blk (v4.setCell ⟨E, 2, none⟩ (.int .i64 p2)) E (ctl 0 p1 p2 n k 0 0 0 0) 87 := (kz.set (o := 2) (.int .i64 p2))
  have m4 := (mz.other (show D ≠ E by omega) (o := 2) (.int .i64 p2))
  have j4 := ((j3.trans gz).setCell (b := E) (o := 2) (by omega) (.int .i64 p2))
  clear c2 f2 kz mz gz k3 m3 j3
  generalize (v4.setCell ⟨E, 2, none⟩ (.int .i64 p2)) = w4 at *
  rw [rounds_succ]
  go_wp2_with fail
  refine wp_loop_rounds 3 ?_
  rw [rounds_succ]
  go_upto_region 10 with fail
  have Y0 := fun z : Over w4 => m4.overCell 3 _ rfl z
  have Y1 := fun z : Over w4 => m4.overCell 4 _ rfl z
  have Y2 : ∀ z : Over w4, z.w.cell? ⟨bE, oE, none⟩ = some (.int .i64 e0) := fun z => ((gcell (j4.trans z.g)).1 bE _ lE').trans (FE.out.1)
  have Y3 : ∀ z : Over w4, z.w.cell? ⟨bT, oT, none⟩ = some (.int .i64 t0) := fun z => ((gcell (j4.trans z.g)).1 bT _ lT').trans (FT.out.1)
  refine region_over_tail 16 (by kernel_rfl) (by kernel_rfl) ?_
  simp only [List.take_succ_cons, List.take_zero, List.drop_succ_cons, List.drop_zero]
  repeat (first | go_big_quiet_step (fail) | quiet_step (fail))
  
  refine wpQuiet_nil ?_
  intro z
  have gz := z.g
  have kz := k4.over z
  have mz := m4.over z
  generalize z.w = v5 at *
  clear Y0 Y1 Y2 Y3
  have c5 := kz.cell 5
  have f5 := kz.free 5
  have c6 := kz.cell 6
  have f6 := kz.free 6
  go_wp2_with fail
  have k5 : Blk ((v5.setCell ⟨E, 5, none⟩ (.int .i64 e0)).setCell ⟨E, 6, none⟩ (.int .i64 t0)) E (ctl 0 p1 p2 n k e0 t0 0 0) 87 := ((kz.set (o := 5) (.int .i64 e0)).set (o := 6) (.int .i64 t0))
  have m5 := ((mz.other (show D ≠ E by omega) (o := 5) (.int .i64 e0)).other (show D ≠ E by omega) (o := 6) (.int .i64 t0))
  have j5 := (((j4.trans gz).setCell (b := E) (o := 5) (by omega) (.int .i64 e0)).setCell (b := E) (o := 6) (by omega) (.int .i64 t0))
  clear c5 f5 c6 f6 kz mz gz k4 m4 j4
  generalize ((v5.setCell ⟨E, 5, none⟩ (.int .i64 e0)).setCell ⟨E, 6, none⟩ (.int .i64 t0)) = w5 at *
  rw [rounds_succ]
  go_upto_region 10 with fail
  have Y0 := fun z : Over w5 => m5.overCell 3 _ rfl z
  have Y1 := fun z : Over w5 => m5.overCell 4 _ rfl z
  have Y2 : ∀ z : Over w5, z.w.cell? ⟨bE, oE + 1, none⟩ = some (.int .i64 e1) := fun z => ((gcell (j5.trans z.g)).1 bE _ lE').trans (FE.out.2)
  have Y3 : ∀ z : Over w5, z.w.cell? ⟨bT, oT + 1, none⟩ = some (.int .i64 t1) := fun z => ((gcell (j5.trans z.g)).1 bT _ lT').trans (FT.out.2)
  refine region_over_tail 16 (by kernel_rfl) (by kernel_rfl) ?_
  simp only [List.take_succ_cons, List.take_zero, List.drop_succ_cons, List.drop_zero]
  repeat (first | go_big_quiet_step (fail) | quiet_step (fail))
  
  refine wpQuiet_nil ?_
  intro z
  have gz := z.g
  have kz := k5.over z
  have mz := m5.over z
  generalize z.w = v6 at *
  clear Y0 Y1 Y2 Y3
  have c7 := kz.cell 7
  have f7 := kz.free 7
  have c8 := kz.cell 8
  have f8 := kz.free 8
  go_wp2_with fail
  have k6 : Blk ((v6.setCell ⟨E, 7, none⟩ (.int .i64 e1)).setCell ⟨E, 8, none⟩ (.int .i64 t1)) E (ctl 0 p1 p2 n k e0 t0 e1 t1) 87 := ((kz.set (o := 7) (.int .i64 e1)).set (o := 8) (.int .i64 t1))
  have m6 := ((mz.other (show D ≠ E by omega) (o := 7) (.int .i64 e1)).other (show D ≠ E by omega) (o := 8) (.int .i64 t1))
  have j6 := (((j5.trans gz).setCell (b := E) (o := 7) (by omega) (.int .i64 e1)).setCell (b := E) (o := 8) (by omega) (.int .i64 t1))
  clear c7 f7 c8 f8 kz mz gz k5 m5 j5
  generalize ((v6.setCell ⟨E, 7, none⟩ (.int .i64 e1)).setCell ⟨E, 8, none⟩ (.int .i64 t1)) = w6 at *
  rw [rounds_succ]
  go_wp2_with fail
  go_ret
  exact ⟨E, rfl, by first | omega | (rw [← HD.out]; omega), Lib.hid k6, g.trans j6⟩
end Go.Proofs.YtgcfmijkggpemaaGreat
