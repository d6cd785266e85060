/-
  Package plic: a controller in memory (Pl); Check; own.
-/
import Derived.Test.YtgcfmijkggpemaaGreatPlB
set_option maxRecDepth 4000
set_option linter.unusedVariables false
set_option linter.unusedSimpArgs false
namespace Go.Proofs.YtgcfmijkggpemaaGreat
open Go.RowKit

/-- v is the controller s, its rows in memory. -/
structure Pl (w : World) (v : Value) (s : PS) : Prop where
  shape : ∃ vP vE vT, v = .agg #[vP, .int .i64 s.n, .int .i64 s.k, vE, vT] ∧ Ints.Buf w vP s.pr ∧ Ints.Buf w vE s.en ∧ Ints.Buf w vT s.th
  n : plIntI s.n
  k : plIntI s.k
theorem Pl.grew {w w' : World} {v : Value} {s : PS} (h : Pl w v s) (g : Grew w w') : Pl w' v s := by
  obtain ⟨vP, vE, vT, rfl, h1, h2, h3⟩ := h.shape
  exact ⟨⟨vP, vE, vT, rfl, h1.grew g, h2.grew g, h3.grew g⟩, h.n, h.k⟩
/-- The cells of a row that is not empty. -/
theorem _root_.Go.Proofs.YtgcfmijkggpemaaGreat.Ints.Buf.at {w : World} {v : Value} {xs : List Int} (h : Ints.Buf w v xs) (hx : xs ≠ []) : ∃ b off c, v = .slice (some ⟨b, off, none⟩) xs.length c ∧ b < w.heap.size ∧ ∀ i, i < xs.length → w.cell? ⟨b, off + i, none⟩ = some (.int .i64 (xs.getD i 0)) := by
  obtain ⟨a, c, rfl, _, ha⟩ := h.shape
  obtain ⟨b, off, rfl, hb⟩ := ha hx
  exact ⟨b, off, c, rfl, hb.lt hx, hb⟩

set_option maxHeartbeats 2000000 in
theorem plCheck_c {s : PS} {v : Value} {W w : World} (g : Grew W w) (hv : Pl w v s) :
    Calls Tryz.prog 36 #[v] w fun e w' => e = .returned (.bool (plChk s)) ∧ Grew W w' := by
  obtain ⟨vP, vE, vT, rfl, hP, hE, hT⟩ := hv.shape
  have hA := fun (w1 : World) (g1 : Grew w w1) => isRow_c tells_level 3 (by omega) (Grew.refl w1) (hP.grew g1)
  have hC := fun (w1 : World) (g1 : Grew w w1) => isRow_c tells_src 2 (by omega) (Grew.refl w1) (hE.grew g1)
  have hD := fun (w1 : World) (g1 : Grew w w1) => isRow_c tells_level 2 (by omega) (Grew.refl w1) (hT.grew g1)
  have hEn := isSources_c s.n
  have hEk := isSources_c s.k
  have hchk : plChk s = ((s.pr.length == 3 && s.pr.all lvl) && (s.pr.getD 0 0 == 0) && (s.en.length == 2 && s.en.all src) && (s.th.length == 2 && s.th.all lvl) && src s.n && src s.k) := rfl
  rw [hchk]
  have hpr : (s.pr.length == 3 && s.pr.all lvl) = true → ∃ b off c p0 p1 p2, vP = .slice (some ⟨b, off, none⟩) 3 c ∧ b < w.heap.size ∧ s.pr.getD 0 0 = p0 ∧ s.pr = [p0, p1, p2] ∧ w.cell? ⟨b, off, none⟩ = some (.int .i64 p0) := by
    intro h
    simp only [Bool.and_eq_true, beq_iff_eq] at h
    have hne : s.pr ≠ [] := by intro h0; rw [h0] at h; simp at h
    obtain ⟨b, off, c, e, hb, hc⟩ := hP.at hne
    rw [h.1] at e hc
    match hs : s.pr, h.1 with
    | [p0, p1, p2], _ =>
      have := hc 0 (by omega)
      rw [hs] at this
      exact ⟨b, off, c, p0, p1, p2, e, hb, rfl, rfl, this⟩
  have HA := Lib.hid hA
  have HC := Lib.hid hC
  have HD := Lib.hid hD
  have HN := Lib.hid hEn
  have HK := Lib.hid hEk
  have HPR := Lib.hid hpr
  clear hA hC hD hEn hEk hchk hP hE hT hpr hv
  generalize hga : (s.pr.length == 3 && s.pr.all lvl) = A at *
  have HGA := Lib.hid hga
  clear hga
  have g1 := (Grew.refl w).alloc (.cells #[vP, .int .i64 s.n, .int .i64 s.k, vE, vT] 30)
  cases A
  · simp only [Bool.false_and]
    go_enter Tryz.func36, Tryz.ntmps36
    go_wp2_with (go_at_call 65; refine (HA.out _ g1).mono ?_; rintro e w1 ⟨rfl, g2⟩)
    go_ret
    exact ⟨rfl, (g.trans g1).trans g2⟩
  obtain ⟨b, off, c, p0, p1, p2, rfl, hb, hp0, hpr, c0⟩ := HPR.out (by first | rfl | trivial)
  clear HPR HGA
  rw [hp0]
  generalize (s.en.length == 2 && s.en.all src) = C at *
  generalize (s.th.length == 2 && s.th.all lvl) = D at *
  generalize src s.n = E at *
  generalize src s.k = F at *
  generalize s.n = n at *
  generalize s.k = k at *
  clear hp0 hpr
  have kb : Blk (w.alloc (.cells #[.slice (some ⟨b, off, none⟩) 3 c, .int .i64 n, .int .i64 k, vE, vT] 30)) w.heap.size #[.slice (some ⟨b, off, none⟩) 3 c, .int .i64 n, .int .i64 k, vE, vT] 30 := Blk.new _ _ _ _ rfl
-- GEN
  cases hB : (p0 == 0)
  · simp only [Bool.and_false, Bool.false_and]
    go_enter Tryz.func36, Tryz.ntmps36
    go_wp2_with fail
    refine (HA.out _ g1).mono ?_
    rintro e w1 ⟨rfl, g2⟩
    have gz := g1.trans g2
    have c1 := ((gcell gz).1 b off hb).trans c0
    have kb1 := kb.grew g2
    have d0 := kb1.cell 0
    go_wp2_with fail
    go_ret
    exact ⟨rfl, g.trans gz⟩
  cases C
  · simp only [Bool.and_false, Bool.false_and]
    go_enter Tryz.func36, Tryz.ntmps36
    go_wp2_with fail
    refine (HA.out _ g1).mono ?_
    rintro e w1 ⟨rfl, g2⟩
    have gz := g1.trans g2
    have c1 := ((gcell gz).1 b off hb).trans c0
    have kb1 := kb.grew g2
    have d0 := kb1.cell 0
    have d3 := kb1.cell 3
    go_wp2_with fail
    refine (HC.out _ gz).mono ?_
    rintro e w2 ⟨rfl, g3⟩
    have gy := gz.trans g3
    have kb2 := kb1.grew g3
    clear d0 d3 c1
    go_wp2_with fail
    go_ret
    exact ⟨rfl, g.trans gy⟩
  cases D
  · simp only [Bool.and_false, Bool.false_and]
    go_enter Tryz.func36, Tryz.ntmps36
    go_wp2_with fail
    refine (HA.out _ g1).mono ?_
    rintro e w1 ⟨rfl, g2⟩
    have gz := g1.trans g2
    have c1 := ((gcell gz).1 b off hb).trans c0
    have kb1 := kb.grew g2
    have d0 := kb1.cell 0
    have d3 := kb1.cell 3
    go_wp2_with fail
    refine (HC.out _ gz).mono ?_
    rintro e w2 ⟨rfl, g3⟩
    have gy := gz.trans g3
    have kb2 := kb1.grew g3
    clear d0 d3 c1
    have d4 := kb2.cell 4
    go_wp2_with fail
    refine (HD.out _ gy).mono ?_
    rintro e w3 ⟨rfl, g4⟩
    have gx := gy.trans g4
    have kb3 := kb2.grew g4
    clear d4
    go_wp2_with fail
    go_ret
    exact ⟨rfl, g.trans gx⟩
  cases E
  · simp only [Bool.and_false, Bool.false_and]
    go_enter Tryz.func36, Tryz.ntmps36
    go_wp2_with fail
    refine (HA.out _ g1).mono ?_
    rintro e w1 ⟨rfl, g2⟩
    have gz := g1.trans g2
    have c1 := ((gcell gz).1 b off hb).trans c0
    have kb1 := kb.grew g2
    have d0 := kb1.cell 0
    have d3 := kb1.cell 3
    go_wp2_with fail
    refine (HC.out _ gz).mono ?_
    rintro e w2 ⟨rfl, g3⟩
    have gy := gz.trans g3
    have kb2 := kb1.grew g3
    clear d0 d3 c1
    have d4 := kb2.cell 4
    go_wp2_with fail
    refine (HD.out _ gy).mono ?_
    rintro e w3 ⟨rfl, g4⟩
    have gx := gy.trans g4
    have kb3 := kb2.grew g4
    clear d4
    have d1 := kb3.cell 1
    go_wp2_with fail
    refine (HN.out _).mono ?_
    rintro e w4 ⟨rfl, h4⟩
    obtain rfl := h4.symm
    go_wp2_with fail
    go_ret
    exact ⟨rfl, g.trans gx⟩
  cases F
  · simp only [Bool.and_false, Bool.and_true]
    go_enter Tryz.func36, Tryz.ntmps36
    go_wp2_with fail
    refine (HA.out _ g1).mono ?_
    rintro e w1 ⟨rfl, g2⟩
    have gz := g1.trans g2
    have c1 := ((gcell gz).1 b off hb).trans c0
    have kb1 := kb.grew g2
    have d0 := kb1.cell 0
    have d3 := kb1.cell 3
    go_wp2_with fail
    refine (HC.out _ gz).mono ?_
    rintro e w2 ⟨rfl, g3⟩
    have gy := gz.trans g3
    have kb2 := kb1.grew g3
    clear d0 d3 c1
    have d4 := kb2.cell 4
    go_wp2_with fail
    refine (HD.out _ gy).mono ?_
    rintro e w3 ⟨rfl, g4⟩
    have gx := gy.trans g4
    have kb3 := kb2.grew g4
    clear d4
    have d1 := kb3.cell 1
    go_wp2_with fail
    refine (HN.out _).mono ?_
    rintro e w4 ⟨rfl, h4⟩
    obtain rfl := h4.symm
    have d2 := kb3.cell 2
    go_wp2_with fail
    refine (HK.out _).mono ?_
    rintro e w5 ⟨rfl, h5⟩
    obtain rfl := h5.symm
    go_wp2_with fail
    go_ret
    exact ⟨rfl, g.trans gx⟩
  · simp only [Bool.and_false, Bool.and_true]
    go_enter Tryz.func36, Tryz.ntmps36
    go_wp2_with fail
    refine (HA.out _ g1).mono ?_
    rintro e w1 ⟨rfl, g2⟩
    have gz := g1.trans g2
    have c1 := ((gcell gz).1 b off hb).trans c0
    have kb1 := kb.grew g2
    have d0 := kb1.cell 0
    have d3 := kb1.cell 3
    go_wp2_with fail
    refine (HC.out _ gz).mono ?_
    rintro e w2 ⟨rfl, g3⟩
    have gy := gz.trans g3
    have kb2 := kb1.grew g3
    clear d0 d3 c1
    have d4 := kb2.cell 4
    go_wp2_with fail
    refine (HD.out _ gy).mono ?_
    rintro e w3 ⟨rfl, g4⟩
    have gx := gy.trans g4
    have kb3 := kb2.grew g4
    clear d4
    have d1 := kb3.cell 1
    go_wp2_with fail
    refine (HN.out _).mono ?_
    rintro e w4 ⟨rfl, h4⟩
    obtain rfl := h4.symm
    have d2 := kb3.cell 2
    go_wp2_with fail
    refine (HK.out _).mono ?_
    rintro e w5 ⟨rfl, h5⟩
    obtain rfl := h5.symm
    go_wp2_with fail
    go_ret
    exact ⟨rfl, g.trans gx⟩
end Go.Proofs.YtgcfmijkggpemaaGreat
