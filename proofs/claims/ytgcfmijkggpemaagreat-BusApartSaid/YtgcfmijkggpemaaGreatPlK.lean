/-
  Package plic: Load, Store, Set, Best, New.
-/
import Derived.Test.YtgcfmijkggpemaaGreatPlJ
set_option maxRecDepth 4000
set_option linter.unusedVariables false
set_option linter.unusedSimpArgs false
namespace Go.Proofs.YtgcfmijkggpemaaGreat
open Go.RowKit

/-- No register is there. -/
def Bad (s : PS) (off size : Int) : Prop := plChk s = false ∨ size ≠ 4 ∨ regAt off = 0
/-- All numbers of a controller that came in are ints, its rows as long as rows can be. -/
structure PS.Fits (s : PS) : Prop where
  l1 : s.pr.length ≤ 17592186044416
  l2 : s.en.length ≤ 17592186044416
  l3 : s.th.length ≤ 17592186044416
theorem VS.fits (s : VS) : s.ps.Fits := ⟨by simp, by simp, by simp⟩
theorem Pl.vs {w : World} {v : Value} {s : PS} (h : Pl w v s) (hc : plChk s = true) : ∃ x : VS, x.Ok ∧ s = x.ps := by
  obtain ⟨_, _, _, _, _, hE, _⟩ := h.shape
  exact chk_of h.n h.k (fun x hx => hE.ok x hx) hc
theorem plFind_none {v : Value} {s : PS} (off size : Int) (hbad : Bad s off size) {W w : World} (hb : Pl w v s) (g : Grew W w) :
    Calls Tryz.prog 77 #[v, .int .u64 off, .int .i64 size] w fun e w' => ∃ p, e = .returned (.tuple #[.pointer p, .agg #[.nilFunc, .nilFunc], .bool false]) ∧ Grew W w' := by
  by_cases h : plChk s = false ∨ size ≠ 4
  · refine (find_bad off size h hb g).mono ?_
    rintro e w' ⟨rfl, g'⟩
    exact ⟨none, rfl, g'⟩
  · have h4 : size = 4 := by
      by_cases e : size = 4
      · exact e
      · exact absurd (Or.inr e) h
    have hc : plChk s = true := by
      cases hc : plChk s
      · exact absurd (Or.inl hc) h
      · rfl
    have hr : regAt off = 0 := by
      rcases hbad with h' | h' | h'
      · rw [hc] at h'; cases h'
      · exact absurd h4 h'
      · exact h'
    obtain ⟨x, hx, rfl⟩ := hb.vs hc
    subst h4
    refine (plFind_no hr hx hb g).mono ?_
    rintro e w' ⟨c, rfl, _, _, g'⟩
    exact ⟨_, rfl, g'⟩

set_option maxHeartbeats 1000000 in
theorem plLoad_no {v : Value} {s : PS} (hf : s.Fits) (off size : Int) (hbad : Bad s off size) {W w : World} (hb : Pl w v s) (g : Grew W w) :
    Calls Tryz.prog 50 #[v, .int .u64 off, .int .i64 size] w fun e w' => ∃ v', e = .returned (.tuple #[.int .u64 0, v', .bool false]) ∧ Hid (Plr w' w.heap.size v' s) ∧ Grew W w' := by
  have hF := fun (w1 : World) (g1 : Grew w w1) => plFind_none off size hbad (hb.grew g1) (Grew.refl w1)
  have hO := fun (w1 : World) (g1 : Grew w w1) => plOwn_c hf.l1 hf.l2 hf.l3 (hb.grew g1) (Grew.refl w1)
  have HF := Lib.hid hF
  have HO := Lib.hid hO
  have hgs := g.size
  obtain ⟨vP, vE, vT, rfl, h1, h2, h3⟩ := hb.shape
  obtain ⟨aP, cP, rfl, _, _⟩ := h1.shape
  obtain ⟨aE, cE, rfl, _, _⟩ := h2.shape
  obtain ⟨aT, cT, rfl, _, _⟩ := h3.shape
  clear hF hO h1 h2 h3 hb hf hbad
  go_enter Tryz.func50, Tryz.ntmps50
  go_upto_region 1 with fail
  have k0 : Blk ((w.alloc (.cells #[.slice aP s.pr.length cP, .int .i64 s.n, .int .i64 s.k, .slice aE s.en.length cE, .slice aT s.th.length cT] 30)).alloc (.cells #[.slice none 0 0, .int .i64 0, .int .i64 0, .slice none 0 0, .slice none 0 0] 30)) w.heap.size #[.slice aP s.pr.length cP, .int .i64 s.n, .int .i64 s.k, .slice aE s.en.length cE, .slice aT s.th.length cT] 30 := (Blk.new _ _ _ _ rfl).alloc _
  have r0 : Blk ((w.alloc (.cells #[.slice aP s.pr.length cP, .int .i64 s.n, .int .i64 s.k, .slice aE s.en.length cE, .slice aT s.th.length cT] 30)).alloc (.cells #[.slice none 0 0, .int .i64 0, .int .i64 0, .slice none 0 0, .slice none 0 0] 30)) (w.heap.size + 1) #[.slice none 0 0, .int .i64 0, .int .i64 0, .slice none 0 0, .slice none 0 0] 30 := Blk.new _ _ _ _ (by simp)
  have g0 : Grew w ((w.alloc (.cells #[.slice aP s.pr.length cP, .int .i64 s.n, .int .i64 s.k, .slice aE s.en.length cE, .slice aT s.th.length cT] 30)).alloc (.cells #[.slice none 0 0, .int .i64 0, .int .i64 0, .slice none 0 0, .slice none 0 0] 30)) := ((Grew.refl w).alloc _).alloc _
  have s0 := r0.lt
  generalize ((w.alloc (.cells #[.slice aP s.pr.length cP, .int .i64 s.n, .int .i64 s.k, .slice aE s.en.length cE, .slice aT s.th.length cT] 30)).alloc (.cells #[.slice none 0 0, .int .i64 0, .int .i64 0, .slice none 0 0, .slice none 0 0] 30)) = w0 at *
  have y0 := k0.cell 0
  have y1 := k0.cell 1
  have y2 := k0.cell 2
  have y3 := k0.cell 3
  have y4 := k0.cell 4
  go_wp2_with fail
  refine (HF.out _ g0).mono ?_
  rintro e w1 ⟨p, rfl, g1⟩
  clear y0 y1 y2 y3 y4
  go_upto_region 2 with fail
  have g2 := (Grew.refl w1).alloc (.cells #[.nilFunc, .nilFunc] 126)
  have k2 := (k0.grew g1).grew g2
  have r2 := (r0.grew g1).grew g2
  have G2 := (g0.trans g1).trans g2
  clear k0 r0 g0 g1 g2
  generalize w1.alloc (.cells #[.nilFunc, .nilFunc] 126) = w2 at *
  have y0 := k2.cell 0
  have y1 := k2.cell 1
  have y2 := k2.cell 2
  have y3 := k2.cell 3
  have y4 := k2.cell 4
  go_wp2_with fail
  refine (HO.out _ G2).mono ?_
  rintro e w3 ⟨v', rfl, HQ, g3⟩
  clear y0 y1 y2 y3 y4
  have r3 := r2.grew g3
  have G3 := G2.trans g3
  have hsz := r2.lt
  clear r2 k2 G2 g3 HF HO
  obtain ⟨wP, wE, wT, rfl, R1, R2, R3⟩ := HQ.out.shape
  obtain ⟨p1, u1, rfl, _, _⟩ := (R1.buf HQ.out.pr).shape
  obtain ⟨p2, u2, rfl, _, _⟩ := (R2.buf HQ.out.en).shape
  obtain ⟨p3, u3, rfl, _, _⟩ := (R3.buf HQ.out.th).shape
  clear R1 R2 R3
  generalize s.pr.length = q1 at *
  generalize s.en.length = q2 at *
  generalize s.th.length = q3 at *
  generalize s.n = m1 at *
  generalize s.k = m2 at *
  have x0 := r3.cell 0
  have x1 := r3.cell 1
  have x2 := r3.cell 2
  have x3 := r3.cell 3
  have x4 := r3.cell 4
  have f0 := r3.free 0
  have f1 := r3.free 1
  have f2 := r3.free 2
  have f3 := r3.free 3
  have f4 := r3.free 4
  go_wp2_with fail
  clear x0 x1 x2 x3 x4 f0 f1 f2 f3 f4
  have ky := (((((r3.set (o := 0) (.slice p1 q1 u1)).set (o := 1) (.int .i64 m1)).set (o := 2) (.int .i64 m2)).set (o := 3) (.slice p2 q2 u2)).set (o := 4) (.slice p3 q3 u3))
  have gy := (((((G3.setCell (b := (w.heap.size + 1)) (o := 0) (by omega) (.slice p1 q1 u1)).setCell (b := (w.heap.size + 1)) (o := 1) (by omega) (.int .i64 m1)).setCell (b := (w.heap.size + 1)) (o := 2) (by omega) (.int .i64 m2)).setCell (b := (w.heap.size + 1)) (o := 3) (by omega) (.slice p2 q2 u2)).setCell (b := (w.heap.size + 1)) (o := 4) (by omega) (.slice p3 q3 u3))
  have qy := Lib.hid ((((((HQ.out.set (c := (w.heap.size + 1)) (o := 0) (by omega) (.slice p1 q1 u1)).set (c := (w.heap.size + 1)) (o := 1) (by omega) (.int .i64 m1)).set (c := (w.heap.size + 1)) (o := 2) (by omega) (.int .i64 m2)).set (c := (w.heap.size + 1)) (o := 3) (by omega) (.slice p2 q2 u2)).set (c := (w.heap.size + 1)) (o := 4) (by omega) (.slice p3 q3 u3)))
  generalize (((((w3.setCell ⟨(w.heap.size + 1), 0, none⟩ (.slice p1 q1 u1)).setCell ⟨(w.heap.size + 1), 1, none⟩ (.int .i64 m1)).setCell ⟨(w.heap.size + 1), 2, none⟩ (.int .i64 m2)).setCell ⟨(w.heap.size + 1), 3, none⟩ (.slice p2 q2 u2)).setCell ⟨(w.heap.size + 1), 4, none⟩ (.slice p3 q3 u3)) = wy at *
  have z0 := ky.cell 0
  have z1 := ky.cell 1
  have z2 := ky.cell 2
  have z3 := ky.cell 3
  have z4 := ky.cell 4
  exact bodyPost_ret (v := .tuple #[.int .u64 0, .agg #[.slice p1 q1 u1, .int .i64 m1, .int .i64 m2, .slice p2 q2 u2, .slice p3 q3 u3], .bool false]) (by simp [results, Tryz.results50, go_sem, z0, z1, z2, z3, z4]) rfl ⟨_, rfl, Lib.hid (qy.out.low (by omega)), g.trans gy⟩

set_option maxHeartbeats 1000000 in
theorem plStore_no {v : Value} {s : PS} (hf : s.Fits) (off size : Int) (x : Int) (hbad : Bad s off size) {W w : World} (hb : Pl w v s) (g : Grew W w) :
    Calls Tryz.prog 52 #[v, .int .u64 off, .int .i64 size, .int .u64 x] w fun e w' => ∃ v', e = .returned (.tuple #[v', .bool false]) ∧ Hid (Plr w' w.heap.size v' s) ∧ Grew W w' := by
  have hF := fun (w1 : World) (g1 : Grew w w1) => plFind_none off size hbad (hb.grew g1) (Grew.refl w1)
  have hO := fun (w1 : World) (g1 : Grew w w1) => plOwn_c hf.l1 hf.l2 hf.l3 (hb.grew g1) (Grew.refl w1)
  have HF := Lib.hid hF
  have HO := Lib.hid hO
  have hgs := g.size
  obtain ⟨vP, vE, vT, rfl, h1, h2, h3⟩ := hb.shape
  obtain ⟨aP, cP, rfl, _, _⟩ := h1.shape
  obtain ⟨aE, cE, rfl, _, _⟩ := h2.shape
  obtain ⟨aT, cT, rfl, _, _⟩ := h3.shape
  clear hF hO h1 h2 h3 hb hf hbad
  go_enter Tryz.func52, Tryz.ntmps52
  go_upto_region 1 with fail
  have k0 : Blk ((w.alloc (.cells #[.slice aP s.pr.length cP, .int .i64 s.n, .int .i64 s.k, .slice aE s.en.length cE, .slice aT s.th.length cT] 30)).alloc (.cells #[.slice none 0 0, .int .i64 0, .int .i64 0, .slice none 0 0, .slice none 0 0] 30)) w.heap.size #[.slice aP s.pr.length cP, .int .i64 s.n, .int .i64 s.k, .slice aE s.en.length cE, .slice aT s.th.length cT] 30 := (Blk.new _ _ _ _ rfl).alloc _
  have r0 : Blk ((w.alloc (.cells #[.slice aP s.pr.length cP, .int .i64 s.n, .int .i64 s.k, .slice aE s.en.length cE, .slice aT s.th.length cT] 30)).alloc (.cells #[.slice none 0 0, .int .i64 0, .int .i64 0, .slice none 0 0, .slice none 0 0] 30)) (w.heap.size + 1) #[.slice none 0 0, .int .i64 0, .int .i64 0, .slice none 0 0, .slice none 0 0] 30 := Blk.new _ _ _ _ (by simp)
  have g0 : Grew w ((w.alloc (.cells #[.slice aP s.pr.length cP, .int .i64 s.n, .int .i64 s.k, .slice aE s.en.length cE, .slice aT s.th.length cT] 30)).alloc (.cells #[.slice none 0 0, .int .i64 0, .int .i64 0, .slice none 0 0, .slice none 0 0] 30)) := ((Grew.refl w).alloc _).alloc _
  have s0 := r0.lt
  generalize ((w.alloc (.cells #[.slice aP s.pr.length cP, .int .i64 s.n, .int .i64 s.k, .slice aE s.en.length cE, .slice aT s.th.length cT] 30)).alloc (.cells #[.slice none 0 0, .int .i64 0, .int .i64 0, .slice none 0 0, .slice none 0 0] 30)) = w0 at *
  have y0 := k0.cell 0
  have y1 := k0.cell 1
  have y2 := k0.cell 2
  have y3 := k0.cell 3
  have y4 := k0.cell 4
  go_wp2_with fail
  refine (HF.out _ g0).mono ?_
  rintro e w1 ⟨p, rfl, g1⟩
  clear y0 y1 y2 y3 y4
  go_upto_region 2 with fail
  have g2 := (Grew.refl w1).alloc (.cells #[.nilFunc, .nilFunc] 126)
  have k2 := (k0.grew g1).grew g2
  have r2 := (r0.grew g1).grew g2
  have G2 := (g0.trans g1).trans g2
  clear k0 r0 g0 g1 g2
  generalize w1.alloc (.cells #[.nilFunc, .nilFunc] 126) = w2 at *
  have y0 := k2.cell 0
  have y1 := k2.cell 1
  have y2 := k2.cell 2
  have y3 := k2.cell 3
  have y4 := k2.cell 4
  go_wp2_with fail
  refine (HO.out _ G2).mono ?_
  rintro e w3 ⟨v', rfl, HQ, g3⟩
  clear y0 y1 y2 y3 y4
  have r3 := r2.grew g3
  have G3 := G2.trans g3
  have hsz := r2.lt
  clear r2 k2 G2 g3 HF HO
  obtain ⟨wP, wE, wT, rfl, R1, R2, R3⟩ := HQ.out.shape
  obtain ⟨p1, u1, rfl, _, _⟩ := (R1.buf HQ.out.pr).shape
  obtain ⟨p2, u2, rfl, _, _⟩ := (R2.buf HQ.out.en).shape
  obtain ⟨p3, u3, rfl, _, _⟩ := (R3.buf HQ.out.th).shape
  clear R1 R2 R3
  generalize s.pr.length = q1 at *
  generalize s.en.length = q2 at *
  generalize s.th.length = q3 at *
  generalize s.n = m1 at *
  generalize s.k = m2 at *
  have x0 := r3.cell 0
  have x1 := r3.cell 1
  have x2 := r3.cell 2
  have x3 := r3.cell 3
  have x4 := r3.cell 4
  have f0 := r3.free 0
  have f1 := r3.free 1
  have f2 := r3.free 2
  have f3 := r3.free 3
  have f4 := r3.free 4
  go_wp2_with fail
  clear x0 x1 x2 x3 x4 f0 f1 f2 f3 f4
  have ky := (((((r3.set (o := 0) (.slice p1 q1 u1)).set (o := 1) (.int .i64 m1)).set (o := 2) (.int .i64 m2)).set (o := 3) (.slice p2 q2 u2)).set (o := 4) (.slice p3 q3 u3))
  have gy := (((((G3.setCell (b := (w.heap.size + 1)) (o := 0) (by omega) (.slice p1 q1 u1)).setCell (b := (w.heap.size + 1)) (o := 1) (by omega) (.int .i64 m1)).setCell (b := (w.heap.size + 1)) (o := 2) (by omega) (.int .i64 m2)).setCell (b := (w.heap.size + 1)) (o := 3) (by omega) (.slice p2 q2 u2)).setCell (b := (w.heap.size + 1)) (o := 4) (by omega) (.slice p3 q3 u3))
  have qy := Lib.hid ((((((HQ.out.set (c := (w.heap.size + 1)) (o := 0) (by omega) (.slice p1 q1 u1)).set (c := (w.heap.size + 1)) (o := 1) (by omega) (.int .i64 m1)).set (c := (w.heap.size + 1)) (o := 2) (by omega) (.int .i64 m2)).set (c := (w.heap.size + 1)) (o := 3) (by omega) (.slice p2 q2 u2)).set (c := (w.heap.size + 1)) (o := 4) (by omega) (.slice p3 q3 u3)))
  generalize (((((w3.setCell ⟨(w.heap.size + 1), 0, none⟩ (.slice p1 q1 u1)).setCell ⟨(w.heap.size + 1), 1, none⟩ (.int .i64 m1)).setCell ⟨(w.heap.size + 1), 2, none⟩ (.int .i64 m2)).setCell ⟨(w.heap.size + 1), 3, none⟩ (.slice p2 q2 u2)).setCell ⟨(w.heap.size + 1), 4, none⟩ (.slice p3 q3 u3)) = wy at *
  have z0 := ky.cell 0
  have z1 := ky.cell 1
  have z2 := ky.cell 2
  have z3 := ky.cell 3
  have z4 := ky.cell 4
  exact bodyPost_ret (v := .tuple #[.agg #[.slice p1 q1 u1, .int .i64 m1, .int .i64 m2, .slice p2 q2 u2, .slice p3 q3 u3], .bool false]) (by simp [results, Tryz.results52, go_sem, z0, z1, z2, z3, z4]) rfl ⟨_, rfl, Lib.hid (qy.out.low (by omega)), g.trans gy⟩

set_option maxHeartbeats 1000000 in
theorem plLoad_yes {off r : Int} {kl ks : FuncId} {aL aS : Nat → Array Value} (hR : Reg off r kl ks aL aS) {v : Value} {s : VS} (hs : s.Ok) {W w : World} (hb : Pl w v s.ps) (g : Grew W w) :
    Calls Tryz.prog 50 #[v, .int .u64 off, .int .i64 4] w fun e w' => ∃ v', e = .returned (.tuple #[.int .u64 (s.load r), v', .bool true]) ∧ Hid (Plr w' w.heap.size v' (s.loaded r).ps) ∧ Grew W w' := by
  have hF := fun (w1 : World) (g1 : Grew w w1) => plFind_yes hR hs (hb.grew g1) (Grew.refl w1)
  have hL := fun (c : Nat) (w : World) (h : Blk w c s.ctl 87) => hR.load c s hs w h
  have hP := fun (c : Nat) (w : World) (h : Blk w c (s.loaded r).ctl 87) => plPlic_c (hs.loaded r) h (Grew.refl w)
  have hen := fun c => hR.enterL c
  have hbd := hs.load r
  have HF := Lib.hid hF
  have HL := Lib.hid hL
  have HP := Lib.hid hP
  have HE := Lib.hid hen
  have hgs := g.size
  obtain ⟨vP, vE, vT, rfl, h1, h2, h3⟩ := hb.shape
  obtain ⟨aP, cP, rfl, _, _⟩ := h1.shape
  obtain ⟨aE, cE, rfl, _, _⟩ := h2.shape
  obtain ⟨aT, cT, rfl, _, _⟩ := h3.shape
  clear hF hL hP hen h1 h2 h3 hb hs hR
  generalize s.load r = y at *
  generalize s.loaded r = s' at *
  obtain ⟨cs, hcs⟩ : ∃ cs, cs = s.ctl := ⟨_, rfl⟩
  rw [← hcs] at HF HL
  clear hcs
  dsimp only [VS.ps] at HF ⊢
  generalize s.n = n at *
  generalize s.k = k at *
  simp only [List.length_cons, List.length_nil, Nat.zero_add, Nat.reduceAdd] at HF ⊢
  go_enter Tryz.func50, Tryz.ntmps50
  go_upto_region 1 with fail
  have k0 : Blk ((w.alloc (.cells #[.slice aP 3 cP, .int .i64 n, .int .i64 k, .slice aE 2 cE, .slice aT 2 cT] 30)).alloc (.cells #[.slice none 0 0, .int .i64 0, .int .i64 0, .slice none 0 0, .slice none 0 0] 30)) w.heap.size #[.slice aP 3 cP, .int .i64 n, .int .i64 k, .slice aE 2 cE, .slice aT 2 cT] 30 := (Blk.new _ _ _ _ rfl).alloc _
  have r0 : Blk ((w.alloc (.cells #[.slice aP 3 cP, .int .i64 n, .int .i64 k, .slice aE 2 cE, .slice aT 2 cT] 30)).alloc (.cells #[.slice none 0 0, .int .i64 0, .int .i64 0, .slice none 0 0, .slice none 0 0] 30)) (w.heap.size + 1) #[.slice none 0 0, .int .i64 0, .int .i64 0, .slice none 0 0, .slice none 0 0] 30 := Blk.new _ _ _ _ (by simp)
  have g0 : Grew w ((w.alloc (.cells #[.slice aP 3 cP, .int .i64 n, .int .i64 k, .slice aE 2 cE, .slice aT 2 cT] 30)).alloc (.cells #[.slice none 0 0, .int .i64 0, .int .i64 0, .slice none 0 0, .slice none 0 0] 30)) := ((Grew.refl w).alloc _).alloc _
  have s0 := r0.lt
  generalize ((w.alloc (.cells #[.slice aP 3 cP, .int .i64 n, .int .i64 k, .slice aE 2 cE, .slice aT 2 cT] 30)).alloc (.cells #[.slice none 0 0, .int .i64 0, .int .i64 0, .slice none 0 0, .slice none 0 0] 30)) = w0 at *
  have y0 := k0.cell 0
  have y1 := k0.cell 1
  have y2 := k0.cell 2
  have y3 := k0.cell 3
  have y4 := k0.cell 4
  go_wp2_with fail
  refine (HF.out _ g0).mono ?_
  rintro e w1 ⟨c, rfl, hc, HK, g1⟩
  clear y0 y1 y2 y3 y4
  go_upto_region 2 with fail
  have g2 := (Grew.refl w1).alloc (.cells #[.func (.func kl) (aL c) #[], .func (.func ks) (aS c) #[]] 126)
  have kg : Blk (w1.alloc (.cells #[.func (.func kl) (aL c) #[], .func (.func ks) (aS c) #[]] 126)) w1.heap.size #[.func (.func kl) (aL c) #[], .func (.func ks) (aS c) #[]] 126 := Blk.new _ _ _ _ rfl
  have r2 := (r0.grew g1).grew g2
  have G2 := (g0.trans g1).trans g2
  have kc2 := HK.out.grew g2
  clear k0 r0 g0 g1 g2 HK HF
  generalize w1.alloc (.cells #[.func (.func kl) (aL c) #[], .func (.func ks) (aS c) #[]] 126) = w2 at *
  generalize w1.heap.size = Y at *
  have x0 := kg.cell 0
  have hen := HE.out c
  go_wp2_with fail
  refine (HL.out c w2 kc2).mono ?_
  rintro e w3 ⟨rfl, kc3, t3⟩
  clear x0 kc2 HL hen HE
  have r3 := r2.trn t3 (by omega)
  have G3 := t3.grew G2 (by omega)
  have hsz := r3.lt
  clear r2 G2 t3 kg
  go_wp2_with fail
  refine (HP.out c w3 kc3).mono ?_
  rintro e w4 ⟨v', rfl, HQ, g4⟩
  have r4 := r3.grew g4
  have G4 := G3.trans g4
  clear HP r3 G3 g4 kc3
  obtain ⟨wP, wE, wT, rfl, R1, R2, R3⟩ := HQ.out.shape
  obtain ⟨p1, u1, rfl, _, _⟩ := (R1.buf HQ.out.pr).shape
  obtain ⟨p2, u2, rfl, _, _⟩ := (R2.buf HQ.out.en).shape
  obtain ⟨p3, u3, rfl, _, _⟩ := (R3.buf HQ.out.th).shape
  clear R1 R2 R3
  simp only [List.length_cons, List.length_nil, Nat.zero_add, Nat.reduceAdd] at HQ ⊢
  generalize s'.n = m1 at *
  generalize s'.k = m2 at *
  have x0 := r4.cell 0
  have x1 := r4.cell 1
  have x2 := r4.cell 2
  have x3 := r4.cell 3
  have x4 := r4.cell 4
  have f0 := r4.free 0
  have f1 := r4.free 1
  have f2 := r4.free 2
  have f3 := r4.free 3
  have f4 := r4.free 4
  go_wp2_with fail
  clear x0 x1 x2 x3 x4 f0 f1 f2 f3 f4
  have ky := (((((r4.set (o := 0) (.slice p1 3 u1)).set (o := 1) (.int .i64 m1)).set (o := 2) (.int .i64 m2)).set (o := 3) (.slice p2 2 u2)).set (o := 4) (.slice p3 2 u3))
  have gy := (((((G4.setCell (b := (w.heap.size + 1)) (o := 0) (by omega) (.slice p1 3 u1)).setCell (b := (w.heap.size + 1)) (o := 1) (by omega) (.int .i64 m1)).setCell (b := (w.heap.size + 1)) (o := 2) (by omega) (.int .i64 m2)).setCell (b := (w.heap.size + 1)) (o := 3) (by omega) (.slice p2 2 u2)).setCell (b := (w.heap.size + 1)) (o := 4) (by omega) (.slice p3 2 u3))
  have qy := Lib.hid ((((((HQ.out.set (c := (w.heap.size + 1)) (o := 0) (by omega) (.slice p1 3 u1)).set (c := (w.heap.size + 1)) (o := 1) (by omega) (.int .i64 m1)).set (c := (w.heap.size + 1)) (o := 2) (by omega) (.int .i64 m2)).set (c := (w.heap.size + 1)) (o := 3) (by omega) (.slice p2 2 u2)).set (c := (w.heap.size + 1)) (o := 4) (by omega) (.slice p3 2 u3)))
  generalize (((((w4.setCell ⟨(w.heap.size + 1), 0, none⟩ (.slice p1 3 u1)).setCell ⟨(w.heap.size + 1), 1, none⟩ (.int .i64 m1)).setCell ⟨(w.heap.size + 1), 2, none⟩ (.int .i64 m2)).setCell ⟨(w.heap.size + 1), 3, none⟩ (.slice p2 2 u2)).setCell ⟨(w.heap.size + 1), 4, none⟩ (.slice p3 2 u3)) = wy at *
  have z0 := ky.cell 0
  have z1 := ky.cell 1
  have z2 := ky.cell 2
  have z3 := ky.cell 3
  have z4 := ky.cell 4
  exact bodyPost_ret (v := .tuple #[.int .u64 y, .agg #[.slice p1 3 u1, .int .i64 m1, .int .i64 m2, .slice p2 2 u2, .slice p3 2 u3], .bool true]) (by simp [results, Tryz.results50, go_sem, z0, z1, z2, z3, z4]) rfl ⟨_, rfl, Lib.hid (qy.out.low (by omega)), g.trans gy⟩

set_option maxHeartbeats 1000000 in
theorem plStore_yes {off r : Int} {kl ks : FuncId} {aL aS : Nat → Array Value} (hR : Reg off r kl ks aL aS) {v : Value} {s : VS} (hs : s.Ok) (x : Int) (hx0 : 0 ≤ x) (hx1 : x < 18446744073709551616) {W w : World} (hb : Pl w v s.ps) (g : Grew W w) :
    Calls Tryz.prog 52 #[v, .int .u64 off, .int .i64 4, .int .u64 x] w fun e w' => ∃ v', e = .returned (.tuple #[v', .bool true]) ∧ Hid (Plr w' w.heap.size v' (s.store r (x % 4294967296)).ps) ∧ Grew W w' := by
  have hF := fun (w1 : World) (g1 : Grew w w1) => plFind_yes hR hs (hb.grew g1) (Grew.refl w1)
  have hL := fun (c : Nat) (w : World) (h : Blk w c s.ctl 87) => hR.store c s hs (x % 4294967296) (by omega) (by omega) w h
  have hP := fun (c : Nat) (w : World) (h : Blk w c (s.store r (x % 4294967296)).ctl 87) => plPlic_c (hs.store r (x % 4294967296)) h (Grew.refl w)
  have hen := fun c => hR.enterS c (x % 4294967296)
  have hbd := hs.load r
  have HF := Lib.hid hF
  have HL := Lib.hid hL
  have HP := Lib.hid hP
  have HE := Lib.hid hen
  have hgs := g.size
  obtain ⟨vP, vE, vT, rfl, h1, h2, h3⟩ := hb.shape
  obtain ⟨aP, cP, rfl, _, _⟩ := h1.shape
  obtain ⟨aE, cE, rfl, _, _⟩ := h2.shape
  obtain ⟨aT, cT, rfl, _, _⟩ := h3.shape
  clear hF hL hP hen h1 h2 h3 hb hs hR
  clear hbd
  generalize s.store r (x % 4294967296) = s' at *
  obtain ⟨cs, hcs⟩ : ∃ cs, cs = s.ctl := ⟨_, rfl⟩
  rw [← hcs] at HF HL
  clear hcs
  dsimp only [VS.ps] at HF ⊢
  generalize s.n = n at *
  generalize s.k = k at *
  simp only [List.length_cons, List.length_nil, Nat.zero_add, Nat.reduceAdd] at HF ⊢
  go_enter Tryz.func52, Tryz.ntmps52
  go_upto_region 1 with fail
  have k0 : Blk ((w.alloc (.cells #[.slice aP 3 cP, .int .i64 n, .int .i64 k, .slice aE 2 cE, .slice aT 2 cT] 30)).alloc (.cells #[.slice none 0 0, .int .i64 0, .int .i64 0, .slice none 0 0, .slice none 0 0] 30)) w.heap.size #[.slice aP 3 cP, .int .i64 n, .int .i64 k, .slice aE 2 cE, .slice aT 2 cT] 30 := (Blk.new _ _ _ _ rfl).alloc _
  have r0 : Blk ((w.alloc (.cells #[.slice aP 3 cP, .int .i64 n, .int .i64 k, .slice aE 2 cE, .slice aT 2 cT] 30)).alloc (.cells #[.slice none 0 0, .int .i64 0, .int .i64 0, .slice none 0 0, .slice none 0 0] 30)) (w.heap.size + 1) #[.slice none 0 0, .int .i64 0, .int .i64 0, .slice none 0 0, .slice none 0 0] 30 := Blk.new _ _ _ _ (by simp)
  have g0 : Grew w ((w.alloc (.cells #[.slice aP 3 cP, .int .i64 n, .int .i64 k, .slice aE 2 cE, .slice aT 2 cT] 30)).alloc (.cells #[.slice none 0 0, .int .i64 0, .int .i64 0, .slice none 0 0, .slice none 0 0] 30)) := ((Grew.refl w).alloc _).alloc _
  have s0 := r0.lt
  generalize ((w.alloc (.cells #[.slice aP 3 cP, .int .i64 n, .int .i64 k, .slice aE 2 cE, .slice aT 2 cT] 30)).alloc (.cells #[.slice none 0 0, .int .i64 0, .int .i64 0, .slice none 0 0, .slice none 0 0] 30)) = w0 at *
  have y0 := k0.cell 0
  have y1 := k0.cell 1
  have y2 := k0.cell 2
  have y3 := k0.cell 3
  have y4 := k0.cell 4
  go_wp2_with fail
  refine (HF.out _ g0).mono ?_
  rintro e w1 ⟨c, rfl, hc, HK, g1⟩
  clear y0 y1 y2 y3 y4
  go_upto_region 2 with fail
  have g2 := (Grew.refl w1).alloc (.cells #[.func (.func kl) (aL c) #[], .func (.func ks) (aS c) #[]] 126)
  have kg : Blk (w1.alloc (.cells #[.func (.func kl) (aL c) #[], .func (.func ks) (aS c) #[]] 126)) w1.heap.size #[.func (.func kl) (aL c) #[], .func (.func ks) (aS c) #[]] 126 := Blk.new _ _ _ _ rfl
  have r2 := (r0.grew g1).grew g2
  have G2 := (g0.trans g1).trans g2
  have kc2 := HK.out.grew g2
  clear k0 r0 g0 g1 g2 HK HF
  generalize w1.alloc (.cells #[.func (.func kl) (aL c) #[], .func (.func ks) (aS c) #[]] 126) = w2 at *
  generalize w1.heap.size = Y at *
  have x1 := kg.cell 1
  have hen := HE.out c
  go_wp2_with fail
  refine (HL.out c w2 kc2).mono ?_
  rintro e w3 ⟨rfl, kc3, t3⟩
  clear x1 kc2 HL hen HE
  have r3 := r2.trn t3 (by omega)
  have G3 := t3.grew G2 (by omega)
  have hsz := r3.lt
  clear r2 G2 t3 kg
  go_wp2_with fail
  refine (HP.out c w3 kc3).mono ?_
  rintro e w4 ⟨v', rfl, HQ, g4⟩
  have r4 := r3.grew g4
  have G4 := G3.trans g4
  clear HP r3 G3 g4 kc3
  obtain ⟨wP, wE, wT, rfl, R1, R2, R3⟩ := HQ.out.shape
  obtain ⟨p1, u1, rfl, _, _⟩ := (R1.buf HQ.out.pr).shape
  obtain ⟨p2, u2, rfl, _, _⟩ := (R2.buf HQ.out.en).shape
  obtain ⟨p3, u3, rfl, _, _⟩ := (R3.buf HQ.out.th).shape
  clear R1 R2 R3
  simp only [List.length_cons, List.length_nil, Nat.zero_add, Nat.reduceAdd] at HQ ⊢
  generalize s'.n = m1 at *
  generalize s'.k = m2 at *
  have x0 := r4.cell 0
  have x1 := r4.cell 1
  have x2 := r4.cell 2
  have x3 := r4.cell 3
  have x4 := r4.cell 4
  have f0 := r4.free 0
  have f1 := r4.free 1
  have f2 := r4.free 2
  have f3 := r4.free 3
  have f4 := r4.free 4
  go_wp2_with fail
  clear x0 x1 x2 x3 x4 f0 f1 f2 f3 f4
  have ky := (((((r4.set (o := 0) (.slice p1 3 u1)).set (o := 1) (.int .i64 m1)).set (o := 2) (.int .i64 m2)).set (o := 3) (.slice p2 2 u2)).set (o := 4) (.slice p3 2 u3))
  have gy := (((((G4.setCell (b := (w.heap.size + 1)) (o := 0) (by omega) (.slice p1 3 u1)).setCell (b := (w.heap.size + 1)) (o := 1) (by omega) (.int .i64 m1)).setCell (b := (w.heap.size + 1)) (o := 2) (by omega) (.int .i64 m2)).setCell (b := (w.heap.size + 1)) (o := 3) (by omega) (.slice p2 2 u2)).setCell (b := (w.heap.size + 1)) (o := 4) (by omega) (.slice p3 2 u3))
  have qy := Lib.hid ((((((HQ.out.set (c := (w.heap.size + 1)) (o := 0) (by omega) (.slice p1 3 u1)).set (c := (w.heap.size + 1)) (o := 1) (by omega) (.int .i64 m1)).set (c := (w.heap.size + 1)) (o := 2) (by omega) (.int .i64 m2)).set (c := (w.heap.size + 1)) (o := 3) (by omega) (.slice p2 2 u2)).set (c := (w.heap.size + 1)) (o := 4) (by omega) (.slice p3 2 u3)))
  generalize (((((w4.setCell ⟨(w.heap.size + 1), 0, none⟩ (.slice p1 3 u1)).setCell ⟨(w.heap.size + 1), 1, none⟩ (.int .i64 m1)).setCell ⟨(w.heap.size + 1), 2, none⟩ (.int .i64 m2)).setCell ⟨(w.heap.size + 1), 3, none⟩ (.slice p2 2 u2)).setCell ⟨(w.heap.size + 1), 4, none⟩ (.slice p3 2 u3)) = wy at *
  have z0 := ky.cell 0
  have z1 := ky.cell 1
  have z2 := ky.cell 2
  have z3 := ky.cell 3
  have z4 := ky.cell 4
  exact bodyPost_ret (v := .tuple #[.agg #[.slice p1 3 u1, .int .i64 m1, .int .i64 m2, .slice p2 2 u2, .slice p3 2 u3], .bool true]) (by simp [results, Tryz.results52, go_sem, z0, z1, z2, z3, z4]) rfl ⟨_, rfl, Lib.hid (qy.out.low (by omega)), g.trans gy⟩

theorem VS.setN' (s : VS) (l : Int) : s.ctl.setIfInBounds 3 (.int .i64 (setN s.n s.k l)) = (s.set l).ctl := rfl
set_option maxHeartbeats 1000000 in
theorem Set_no {v : Value} {s : PS} (hf : s.Fits) (l : Int) (hbad : plChk s = false) {W w : World} (hb : Pl w v s) (g : Grew W w) :
    Calls Tryz.prog 20 #[v, .int .i64 l] w fun e w' => ∃ v', e = .returned v' ∧ Hid (Plr w' w.heap.size v' s) ∧ Grew W w' := by
  have hC := fun (w1 : World) (g1 : Grew w w1) => plCheck_c (Grew.refl w1) (hb.grew g1)
  have hO := fun (w1 : World) (g1 : Grew w w1) => plOwn_c hf.l1 hf.l2 hf.l3 (hb.grew g1) (Grew.refl w1)
  rw [hbad] at hC
  have HC := Lib.hid hC
  have HO := Lib.hid hO
  have hgs := g.size
  obtain ⟨vP, vE, vT, rfl, h1, h2, h3⟩ := hb.shape
  obtain ⟨aP, cP, rfl, _, _⟩ := h1.shape
  obtain ⟨aE, cE, rfl, _, _⟩ := h2.shape
  obtain ⟨aT, cT, rfl, _, _⟩ := h3.shape
  clear hC hO h1 h2 h3 hb hf hbad
  go_enter Tryz.func20, Tryz.ntmps20
  go_upto_region 1 with fail
  have k0 : Blk ((w.alloc (.cells #[.slice aP s.pr.length cP, .int .i64 s.n, .int .i64 s.k, .slice aE s.en.length cE, .slice aT s.th.length cT] 30)).alloc (.cells #[.slice none 0 0, .int .i64 0, .int .i64 0, .slice none 0 0, .slice none 0 0] 30)) w.heap.size #[.slice aP s.pr.length cP, .int .i64 s.n, .int .i64 s.k, .slice aE s.en.length cE, .slice aT s.th.length cT] 30 := (Blk.new _ _ _ _ rfl).alloc _
  have r0 : Blk ((w.alloc (.cells #[.slice aP s.pr.length cP, .int .i64 s.n, .int .i64 s.k, .slice aE s.en.length cE, .slice aT s.th.length cT] 30)).alloc (.cells #[.slice none 0 0, .int .i64 0, .int .i64 0, .slice none 0 0, .slice none 0 0] 30)) (w.heap.size + 1) #[.slice none 0 0, .int .i64 0, .int .i64 0, .slice none 0 0, .slice none 0 0] 30 := Blk.new _ _ _ _ (by simp)
  have g0 : Grew w ((w.alloc (.cells #[.slice aP s.pr.length cP, .int .i64 s.n, .int .i64 s.k, .slice aE s.en.length cE, .slice aT s.th.length cT] 30)).alloc (.cells #[.slice none 0 0, .int .i64 0, .int .i64 0, .slice none 0 0, .slice none 0 0] 30)) := ((Grew.refl w).alloc _).alloc _
  have s0 := r0.lt
  generalize ((w.alloc (.cells #[.slice aP s.pr.length cP, .int .i64 s.n, .int .i64 s.k, .slice aE s.en.length cE, .slice aT s.th.length cT] 30)).alloc (.cells #[.slice none 0 0, .int .i64 0, .int .i64 0, .slice none 0 0, .slice none 0 0] 30)) = w0 at *
  have y0 := k0.cell 0
  have y1 := k0.cell 1
  have y2 := k0.cell 2
  have y3 := k0.cell 3
  have y4 := k0.cell 4
  go_wp2_with fail
  refine (HC.out _ g0).mono ?_
  rintro e w1 ⟨rfl, g1⟩
  clear y0 y1 y2 y3 y4
  have k1 := k0.grew g1
  have G1 := g0.trans g1
  have y0 := k1.cell 0
  have y1 := k1.cell 1
  have y2 := k1.cell 2
  have y3 := k1.cell 3
  have y4 := k1.cell 4
  go_wp2_with fail
  refine (HO.out _ G1).mono ?_
  rintro e w3 ⟨v', rfl, HQ, g3⟩
  clear y0 y1 y2 y3 y4
  have r3 := (r0.grew g1).grew g3
  have G3 := G1.trans g3
  have hsz := (r0.grew g1).lt
  clear k0 k1 r0 g0 g1 G1 g3 HC HO
  obtain ⟨wP, wE, wT, rfl, R1, R2, R3⟩ := HQ.out.shape
  obtain ⟨p1, u1, rfl, _, _⟩ := (R1.buf HQ.out.pr).shape
  obtain ⟨p2, u2, rfl, _, _⟩ := (R2.buf HQ.out.en).shape
  obtain ⟨p3, u3, rfl, _, _⟩ := (R3.buf HQ.out.th).shape
  clear R1 R2 R3
  generalize s.pr.length = q1 at *
  generalize s.en.length = q2 at *
  generalize s.th.length = q3 at *
  generalize s.n = m1 at *
  generalize s.k = m2 at *
  have x0 := r3.cell 0
  have x1 := r3.cell 1
  have x2 := r3.cell 2
  have x3 := r3.cell 3
  have x4 := r3.cell 4
  have f0 := r3.free 0
  have f1 := r3.free 1
  have f2 := r3.free 2
  have f3 := r3.free 3
  have f4 := r3.free 4
  go_wp2_with fail
  clear x0 x1 x2 x3 x4 f0 f1 f2 f3 f4
  have ky := (((((r3.set (o := 0) (.slice p1 q1 u1)).set (o := 1) (.int .i64 m1)).set (o := 2) (.int .i64 m2)).set (o := 3) (.slice p2 q2 u2)).set (o := 4) (.slice p3 q3 u3))
  have gy := (((((G3.setCell (b := (w.heap.size + 1)) (o := 0) (by omega) (.slice p1 q1 u1)).setCell (b := (w.heap.size + 1)) (o := 1) (by omega) (.int .i64 m1)).setCell (b := (w.heap.size + 1)) (o := 2) (by omega) (.int .i64 m2)).setCell (b := (w.heap.size + 1)) (o := 3) (by omega) (.slice p2 q2 u2)).setCell (b := (w.heap.size + 1)) (o := 4) (by omega) (.slice p3 q3 u3))
  have qy := Lib.hid ((((((HQ.out.set (c := (w.heap.size + 1)) (o := 0) (by omega) (.slice p1 q1 u1)).set (c := (w.heap.size + 1)) (o := 1) (by omega) (.int .i64 m1)).set (c := (w.heap.size + 1)) (o := 2) (by omega) (.int .i64 m2)).set (c := (w.heap.size + 1)) (o := 3) (by omega) (.slice p2 q2 u2)).set (c := (w.heap.size + 1)) (o := 4) (by omega) (.slice p3 q3 u3)))
  generalize (((((w3.setCell ⟨(w.heap.size + 1), 0, none⟩ (.slice p1 q1 u1)).setCell ⟨(w.heap.size + 1), 1, none⟩ (.int .i64 m1)).setCell ⟨(w.heap.size + 1), 2, none⟩ (.int .i64 m2)).setCell ⟨(w.heap.size + 1), 3, none⟩ (.slice p2 q2 u2)).setCell ⟨(w.heap.size + 1), 4, none⟩ (.slice p3 q3 u3)) = wy at *
  have z0 := ky.cell 0
  have z1 := ky.cell 1
  have z2 := ky.cell 2
  have z3 := ky.cell 3
  have z4 := ky.cell 4
  exact bodyPost_ret (v := .agg #[.slice p1 q1 u1, .int .i64 m1, .int .i64 m2, .slice p2 q2 u2, .slice p3 q3 u3]) (by simp [results, Tryz.results20, go_sem, z0, z1, z2, z3, z4]) rfl ⟨_, rfl, Lib.hid (qy.out.low (by omega)), g.trans gy⟩

set_option maxHeartbeats 1000000 in
theorem Set_yes {v : Value} {s : VS} (hs : s.Ok) (l : Int) {W w : World} (hb : Pl w v s.ps) (g : Grew W w) :
    Calls Tryz.prog 20 #[v, .int .i64 l] w fun e w' => ∃ v', e = .returned v' ∧ Hid (Plr w' w.heap.size v' (s.set l).ps) ∧ Grew W w' := by
  have hC := fun (w1 : World) (g1 : Grew w w1) => plCheck_c (Grew.refl w1) (hb.grew g1)
  rw [chk_mk hs] at hC
  have hT := fun (w1 : World) (g1 : Grew w w1) => plTaken_c (hb.grew g1) (Grew.refl w1)
  have hP := fun (c : Nat) (w : World) (h : Blk w c (s.ctl.setIfInBounds 3 (.int .i64 (setN s.n s.k l))) 87) => plPlic_c (hs.set l) (s.setN' l ▸ h) (Grew.refl w)
  have HC := Lib.hid hC
  have HT := Lib.hid hT
  have HP := Lib.hid hP
  have hgs := g.size
  obtain ⟨vP, vE, vT, rfl, h1, h2, h3⟩ := hb.shape
  obtain ⟨aP, cP, rfl, _, _⟩ := h1.shape
  obtain ⟨aE, cE, rfl, _, _⟩ := h2.shape
  obtain ⟨aT, cT, rfl, _, _⟩ := h3.shape
  clear hC hT hP h1 h2 h3 hb hs
  generalize s.set l = s' at *
  unfold setN at HP
  dsimp only [VS.ps] at HC HT ⊢
  obtain ⟨b1, b2, n, k, b3, b4, b5, b6⟩ := s
  dsimp only at HC HT HP ⊢
  simp only [List.length_cons, List.length_nil, Nat.zero_add, Nat.reduceAdd] at HC HT ⊢
  go_enter Tryz.func20, Tryz.ntmps20
  go_upto_region 1 with fail
  have k0 : Blk ((w.alloc (.cells #[.slice aP 3 cP, .int .i64 n, .int .i64 k, .slice aE 2 cE, .slice aT 2 cT] 30)).alloc (.cells #[.slice none 0 0, .int .i64 0, .int .i64 0, .slice none 0 0, .slice none 0 0] 30)) w.heap.size #[.slice aP 3 cP, .int .i64 n, .int .i64 k, .slice aE 2 cE, .slice aT 2 cT] 30 := (Blk.new _ _ _ _ rfl).alloc _
  have r0 : Blk ((w.alloc (.cells #[.slice aP 3 cP, .int .i64 n, .int .i64 k, .slice aE 2 cE, .slice aT 2 cT] 30)).alloc (.cells #[.slice none 0 0, .int .i64 0, .int .i64 0, .slice none 0 0, .slice none 0 0] 30)) (w.heap.size + 1) #[.slice none 0 0, .int .i64 0, .int .i64 0, .slice none 0 0, .slice none 0 0] 30 := Blk.new _ _ _ _ (by simp)
  have g0 : Grew w ((w.alloc (.cells #[.slice aP 3 cP, .int .i64 n, .int .i64 k, .slice aE 2 cE, .slice aT 2 cT] 30)).alloc (.cells #[.slice none 0 0, .int .i64 0, .int .i64 0, .slice none 0 0, .slice none 0 0] 30)) := ((Grew.refl w).alloc _).alloc _
  have s0 := r0.lt
  generalize ((w.alloc (.cells #[.slice aP 3 cP, .int .i64 n, .int .i64 k, .slice aE 2 cE, .slice aT 2 cT] 30)).alloc (.cells #[.slice none 0 0, .int .i64 0, .int .i64 0, .slice none 0 0, .slice none 0 0] 30)) = w0 at *
  have y0 := k0.cell 0
  have y1 := k0.cell 1
  have y2 := k0.cell 2
  have y3 := k0.cell 3
  have y4 := k0.cell 4
  go_wp2_with fail
  refine (HC.out _ g0).mono ?_
  rintro e w1 ⟨rfl, g1⟩
  clear y0 y1 y2 y3 y4
  have k1 := k0.grew g1
  have r1 := r0.grew g1
  have G1 := g0.trans g1
  have y0 := k1.cell 0
  have y1 := k1.cell 1
  have y2 := k1.cell 2
  have y3 := k1.cell 3
  have y4 := k1.cell 4
  go_wp2_with fail
  refine (HT.out _ G1).mono ?_
  rintro e w2 ⟨c, rfl, hc, HK, g2⟩
  clear y0 y1 y2 y3 y4
  have r2 := r1.grew g2
  have G2 := G1.trans g2
  have kc2 := HK.out
  have hsz := r1.lt
  clear HC HT k0 k1 r0 r1 g0 g1 g2 G1 HK
  go_upto_region 4 with fail
  have z0 := fun z : Over w2 => kc2.overCell 3 _ rfl z
  have z1 := fun z : Over w2 => kc2.overCell 4 _ rfl z
  refine region_over_tail 14 (by kernel_rfl) (by kernel_rfl) ?_
  simp only [List.take_succ_cons, List.take_zero, List.drop_succ_cons, List.drop_zero]
  repeat (first | go_big_quiet_step (fail) | quiet_step (fail))
  refine wpQuiet_nil ?_
  intro z
  have kc3 := kc2.over z
  have r3 := r2.over z
  have G3 := G2.trans z.g
  clear z0 z1 kc2 r2 G2
  generalize z.w = w3 at *
  have c3 := kc3.cell 3
  have f3 := kc3.free 3
  go_upto_region 5 with fail
  clear c3 f3
  have kc4 := kc3.set (o := 3) (.int .i64 (bits .or .i64 n (bits .andNot .i64 (bits .and .i64 l 6) k)))
  have r4 := r3.other (show w.heap.size + 1 ≠ c by omega) (o := 3) (.int .i64 (bits .or .i64 n (bits .andNot .i64 (bits .and .i64 l 6) k)))
  have G4 := G3.setCell (b := c) (o := 3) (by omega) (.int .i64 (bits .or .i64 n (bits .andNot .i64 (bits .and .i64 l 6) k)))
  clear kc3 r3 G3
  generalize w3.setCell ⟨c, 3, none⟩ (.int .i64 (bits .or .i64 n (bits .andNot .i64 (bits .and .i64 l 6) k))) = w4 at *
  go_wp2_with fail
  refine (HP.out c w4 kc4).mono ?_
  rintro e w5 ⟨v', rfl, HQ, g5⟩
  have r5 := r4.grew g5
  have G5 := G4.trans g5
  have hsz4 := r4.lt
  clear HP r4 G4 g5 kc4
  obtain ⟨wP, wE, wT, rfl, R1, R2, R3⟩ := HQ.out.shape
  obtain ⟨p1, u1, rfl, _, _⟩ := (R1.buf HQ.out.pr).shape
  obtain ⟨p2, u2, rfl, _, _⟩ := (R2.buf HQ.out.en).shape
  obtain ⟨p3, u3, rfl, _, _⟩ := (R3.buf HQ.out.th).shape
  clear R1 R2 R3
  simp only [List.length_cons, List.length_nil, Nat.zero_add, Nat.reduceAdd] at HQ ⊢
  generalize s'.n = m1 at *
  generalize s'.k = m2 at *
  have x0 := r5.cell 0
  have x1 := r5.cell 1
  have x2 := r5.cell 2
  have x3 := r5.cell 3
  have x4 := r5.cell 4
  have f0 := r5.free 0
  have f1 := r5.free 1
  have f2 := r5.free 2
  have f3 := r5.free 3
  have f4 := r5.free 4
  go_wp2_with fail
  clear x0 x1 x2 x3 x4 f0 f1 f2 f3 f4
  have ky := (((((r5.set (o := 0) (.slice p1 3 u1)).set (o := 1) (.int .i64 m1)).set (o := 2) (.int .i64 m2)).set (o := 3) (.slice p2 2 u2)).set (o := 4) (.slice p3 2 u3))
  have gy := (((((G5.setCell (b := (w.heap.size + 1)) (o := 0) (by omega) (.slice p1 3 u1)).setCell (b := (w.heap.size + 1)) (o := 1) (by omega) (.int .i64 m1)).setCell (b := (w.heap.size + 1)) (o := 2) (by omega) (.int .i64 m2)).setCell (b := (w.heap.size + 1)) (o := 3) (by omega) (.slice p2 2 u2)).setCell (b := (w.heap.size + 1)) (o := 4) (by omega) (.slice p3 2 u3))
  have qy := Lib.hid ((((((HQ.out.set (c := (w.heap.size + 1)) (o := 0) (by omega) (.slice p1 3 u1)).set (c := (w.heap.size + 1)) (o := 1) (by omega) (.int .i64 m1)).set (c := (w.heap.size + 1)) (o := 2) (by omega) (.int .i64 m2)).set (c := (w.heap.size + 1)) (o := 3) (by omega) (.slice p2 2 u2)).set (c := (w.heap.size + 1)) (o := 4) (by omega) (.slice p3 2 u3)))
  generalize (((((w5.setCell ⟨(w.heap.size + 1), 0, none⟩ (.slice p1 3 u1)).setCell ⟨(w.heap.size + 1), 1, none⟩ (.int .i64 m1)).setCell ⟨(w.heap.size + 1), 2, none⟩ (.int .i64 m2)).setCell ⟨(w.heap.size + 1), 3, none⟩ (.slice p2 2 u2)).setCell ⟨(w.heap.size + 1), 4, none⟩ (.slice p3 2 u3)) = wy at *
  have z0 := ky.cell 0
  have z1 := ky.cell 1
  have z2 := ky.cell 2
  have z3 := ky.cell 3
  have z4 := ky.cell 4
  exact bodyPost_ret (v := .agg #[.slice p1 3 u1, .int .i64 m1, .int .i64 m2, .slice p2 2 u2, .slice p3 2 u3]) (by simp [results, Tryz.results20, go_sem, z0, z1, z2, z3, z4]) rfl ⟨_, rfl, Lib.hid (qy.out.low (by omega)), g.trans gy⟩

def newV : VS := ⟨0, 0, 0, 0, 0, 0, 0, 0⟩
theorem newV_ok : newV.Ok := by constructor <;> simp [newV, Src]
set_option maxHeartbeats 1000000 in
theorem New_c {W w : World} (g : Grew W w) :
    Calls Tryz.prog 28 #[] w fun e w' => ∃ v', e = .returned v' ∧ Hid (Plr w' w.heap.size v' newV.ps) ∧ Grew W w' := by
  have hP := fun (c : Nat) (w : World) (h : Blk w c newV.ctl 87) => plPlic_c newV_ok h (Grew.refl w)
  have HP := Lib.hid hP
  have hgs := g.size
  clear hP
  go_enter Tryz.func28, Tryz.ntmps28
  go_wp2_with fail
  have r1 : Blk ((w.alloc (.cells #[.slice none 0 0, .int .i64 0, .int .i64 0, .slice none 0 0, .slice none 0 0] 30)).alloc (.cells newV.ctl 87)) w.heap.size #[.slice none 0 0, .int .i64 0, .int .i64 0, .slice none 0 0, .slice none 0 0] 30 := (Blk.new _ _ _ _ rfl).alloc _
  have kc : Blk ((w.alloc (.cells #[.slice none 0 0, .int .i64 0, .int .i64 0, .slice none 0 0, .slice none 0 0] 30)).alloc (.cells newV.ctl 87)) (w.heap.size + 1) newV.ctl 87 := Blk.new _ _ _ _ (by simp)
  have G1 := ((Grew.refl w).alloc (.cells #[.slice none 0 0, .int .i64 0, .int .i64 0, .slice none 0 0, .slice none 0 0] 30)).alloc (.cells newV.ctl 87)
  have hsz := kc.lt
  generalize hW2 : ((w.alloc (.cells #[.slice none 0 0, .int .i64 0, .int .i64 0, .slice none 0 0, .slice none 0 0] 30)).alloc (.cells newV.ctl 87)) = w2 at *
  have hW3 : ((w.alloc (.cells #[.slice none 0 0, .int .i64 0, .int .i64 0, .slice none 0 0, .slice none 0 0] 30)).alloc (.cells (ctl 0 0 0 0 0 0 0 0 0) 87)) = w2 := hW2
  clear hW2
  rw [hW3]
  clear hW3
  refine (HP.out (w.heap.size + 1) w2 kc).mono ?_
  clear kc
  rintro e w5 ⟨v', rfl, HQ, g5⟩
  have r5 := r1.grew g5
  have G5 := G1.trans g5
  clear HP r1 G1 g5
  obtain ⟨wP, wE, wT, rfl, R1, R2, R3⟩ := HQ.out.shape
  obtain ⟨p1, u1, rfl, _, _⟩ := (R1.buf HQ.out.pr).shape
  obtain ⟨p2, u2, rfl, _, _⟩ := (R2.buf HQ.out.en).shape
  obtain ⟨p3, u3, rfl, _, _⟩ := (R3.buf HQ.out.th).shape
  clear R1 R2 R3
  simp only [List.length_cons, List.length_nil, Nat.zero_add, Nat.reduceAdd] at HQ ⊢
  generalize newV.n = m1 at *
  generalize newV.k = m2 at *
  have x0 := r5.cell 0
  have x1 := r5.cell 1
  have x2 := r5.cell 2
  have x3 := r5.cell 3
  have x4 := r5.cell 4
  have f0 := r5.free 0
  have f1 := r5.free 1
  have f2 := r5.free 2
  have f3 := r5.free 3
  have f4 := r5.free 4
  go_wp2_with fail
  clear x0 x1 x2 x3 x4 f0 f1 f2 f3 f4
  have ky := (((((r5.set (o := 0) (.slice p1 3 u1)).set (o := 1) (.int .i64 m1)).set (o := 2) (.int .i64 m2)).set (o := 3) (.slice p2 2 u2)).set (o := 4) (.slice p3 2 u3))
  have gy := (((((G5.setCell (b := w.heap.size) (o := 0) (by omega) (.slice p1 3 u1)).setCell (b := w.heap.size) (o := 1) (by omega) (.int .i64 m1)).setCell (b := w.heap.size) (o := 2) (by omega) (.int .i64 m2)).setCell (b := w.heap.size) (o := 3) (by omega) (.slice p2 2 u2)).setCell (b := w.heap.size) (o := 4) (by omega) (.slice p3 2 u3))
  have qy := Lib.hid ((((((HQ.out.set (c := w.heap.size) (o := 0) (by omega) (.slice p1 3 u1)).set (c := w.heap.size) (o := 1) (by omega) (.int .i64 m1)).set (c := w.heap.size) (o := 2) (by omega) (.int .i64 m2)).set (c := w.heap.size) (o := 3) (by omega) (.slice p2 2 u2)).set (c := w.heap.size) (o := 4) (by omega) (.slice p3 2 u3)))
  generalize (((((w5.setCell ⟨w.heap.size, 0, none⟩ (.slice p1 3 u1)).setCell ⟨w.heap.size, 1, none⟩ (.int .i64 m1)).setCell ⟨w.heap.size, 2, none⟩ (.int .i64 m2)).setCell ⟨w.heap.size, 3, none⟩ (.slice p2 2 u2)).setCell ⟨w.heap.size, 4, none⟩ (.slice p3 2 u3)) = wy at *
  have z0 := ky.cell 0
  have z1 := ky.cell 1
  have z2 := ky.cell 2
  have z3 := ky.cell 3
  have z4 := ky.cell 4
  exact bodyPost_ret (v := .agg #[.slice p1 3 u1, .int .i64 m1, .int .i64 m2, .slice p2 2 u2, .slice p3 2 u3]) (by simp [results, Tryz.results28, go_sem, z0, z1, z2, z3, z4]) rfl ⟨_, rfl, Lib.hid (qy.out.low (by omega)), g.trans gy⟩
end Go.Proofs.YtgcfmijkggpemaaGreat
