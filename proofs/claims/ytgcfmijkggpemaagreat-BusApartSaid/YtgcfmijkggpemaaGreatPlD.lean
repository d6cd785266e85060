/-
  Package plic: rows cloned, a controller of one's own (own); what a controller holds (taken).
-/
import Derived.Test.YtgcfmijkggpemaaGreatPlC
import Derived.Lib.SliceRun
import Derived.WalkMore
set_option maxRecDepth 4000
set_option linter.unusedVariables false
set_option linter.unusedSimpArgs false
namespace Go.Proofs.YtgcfmijkggpemaaGreat
open Go.RowKit

/-- v is the controller s, its rows made since base. -/
structure Plr (w : World) (B : Nat) (v : Value) (s : PS) : Prop where
  shape : ∃ vP vE vT, v = .agg #[vP, .int .i64 s.n, .int .i64 s.k, vE, vT] ∧ Ints.Row w B vP s.pr ∧ Ints.Row w B vE s.en ∧ Ints.Row w B vT s.th
  pr : Ints.AreBytes s.pr
  en : Ints.AreBytes s.en
  th : Ints.AreBytes s.th
  n : plIntI s.n
  k : plIntI s.k
theorem Plr.pl {w : World} {B : Nat} {v : Value} {s : PS} (h : Plr w B v s) : Pl w v s := by
  obtain ⟨vP, vE, vT, rfl, h1, h2, h3⟩ := h.shape
  exact ⟨⟨vP, vE, vT, rfl, h1.buf h.pr, h2.buf h.en, h3.buf h.th⟩, h.n, h.k⟩
theorem Plr.grew {w w' : World} {B : Nat} {v : Value} {s : PS} (h : Plr w B v s) (g : Grew w w') : Plr w' B v s := by
  obtain ⟨vP, vE, vT, rfl, h1, h2, h3⟩ := h.shape
  exact ⟨⟨vP, vE, vT, rfl, h1.grew g, h2.grew g, h3.grew g⟩, h.pr, h.en, h.th, h.n, h.k⟩
theorem Plr.set {w : World} {B c o : Nat} {v : Value} {s : PS} (h : Plr w B v s) (hc : c < B) (u : Value) : Plr (w.setCell ⟨c, o, none⟩ u) B v s := by
  obtain ⟨vP, vE, vT, rfl, h1, h2, h3⟩ := h.shape
  exact ⟨⟨vP, vE, vT, rfl, h1.set hc u, h2.set hc u, h3.set hc u⟩, h.pr, h.en, h.th, h.n, h.k⟩

theorem Plr.low {w : World} {B B' : Nat} {v : Value} {s : PS} (h : Plr w B v s) (hb : B' ≤ B) : Plr w B' v s := by
  obtain ⟨vP, vE, vT, rfl, h1, h2, h3⟩ := h.shape
  exact ⟨⟨vP, vE, vT, rfl, h1.low hb, h2.low hb, h3.low hb⟩, h.pr, h.en, h.th, h.n, h.k⟩

theorem plClone_c {v : Value} {xs : List Int} (hl : xs.length ≤ 17592186044416) {w : World} (hb : Ints.Buf w v xs) :
    Calls Tryz.prog 68 #[v] w fun e w' => ∃ a c, e = .returned (.slice a xs.length c) ∧ Hid (Ints.Row w' w.heap.size (.slice a xs.length c) xs) ∧ Grew w w' := by
  obtain ⟨a, c, rfl, hc, ha⟩ := hb.shape
  have HB := Lib.hid hb
  rcases a with _ | ad
  · have hnil := fun w => Lib.run_eql_slice_nil (P := Tryz.prog) w 28 3 none 0 c 0 0 Tryz.underlying28
    have hx : xs = [] := by
      by_cases h : xs = []
      · exact h
      · obtain ⟨_, _, e, _⟩ := ha h
        cases e
    subst hx
    clear hb ha hc
    go_enter Tryz.func68, Tryz.ntmps68
    go_wp2_with fail
    go_ret
    exact ⟨none, 0, rfl, Lib.hid (Ints.Row.nil _ _), Grew.refl _⟩
  · have hnil := fun w => Lib.run_eql_slice_nil (P := Tryz.prog) w 28 3 (some ad) xs.length c 0 0 Tryz.underlying28
    clear ha hb
    go_enter Tryz.func68, Tryz.ntmps68
    go_wp2_with (refine Ints.wpList_append_b (W := w) rfl (.tmp 5) (.tmp 6) rfl (by exact (Grew.refl w).alloc _) (Ints.Row.lit w w.heap.size (Nat.le_refl _) #[] [] rfl (Nat.zero_le _) _ rfl 0 rfl) (HB.out.grew ((Grew.refl w).alloc _)) (by rfl) (by rfl) (by simpa using hl) ?_; intro v1 w1 HR1 g1 q1; clear q1; obtain ⟨ao, co, eo, _, _⟩ := (HR1.out.buf HB.out.ok).shape; subst eo)
    go_ret
    exact ⟨ao, co, rfl, HR1, g1⟩

set_option maxHeartbeats 2000000 in
theorem plOwn_c {v : Value} {s : PS} (l1 : s.pr.length ≤ 17592186044416) (l2 : s.en.length ≤ 17592186044416) (l3 : s.th.length ≤ 17592186044416) {W w : World} (hb : Pl w v s) (g : Grew W w) :
    Calls Tryz.prog 37 #[v] w fun e w' => ∃ v', e = .returned v' ∧ Hid (Plr w' w.heap.size v' s) ∧ Grew W w' := by
  obtain ⟨vP, vE, vT, rfl, h1, h2, h3⟩ := hb.shape
  obtain ⟨aP, cP, rfl, _, _⟩ := h1.shape
  obtain ⟨aE, cE, rfl, _, _⟩ := h2.shape
  obtain ⟨aT, cT, rfl, _, _⟩ := h3.shape
  have H1 := Lib.hid h1
  have H2 := Lib.hid h2
  have H3 := Lib.hid h3
  have hn := hb.n
  have hk := hb.k
  have HN := Lib.hid (And.intro hn hk)
  have hX : ∀ (w' : World) (v1 v2 v3 : Value), Ints.Row w' w.heap.size v1 s.pr → Ints.Row w' w.heap.size v2 s.en → Ints.Row w' w.heap.size v3 s.th → Plr w' w.heap.size (.agg #[v1, .int .i64 s.n, .int .i64 s.k, v2, v3]) s :=
    fun w' v1 v2 v3 r1 r2 r3 => ⟨⟨v1, v2, v3, rfl, r1, r2, r3⟩, h1.ok, h2.ok, h3.ok, hn, hk⟩
  have HX := Lib.hid hX
  clear hX
  clear h1 h2 h3 hb hn hk
  have hgs := g.size
  go_enter Tryz.func37, Tryz.ntmps37
  go_upto_region 1 with fail
  have k0 : Blk ((w.alloc (.cells #[.slice aP s.pr.length cP, .int .i64 s.n, .int .i64 s.k, .slice aE s.en.length cE, .slice aT s.th.length cT] 30)).alloc (.cells #[.slice none 0 0, .int .i64 0, .int .i64 0, .slice none 0 0, .slice none 0 0] 30)) w.heap.size #[.slice aP s.pr.length cP, .int .i64 s.n, .int .i64 s.k, .slice aE s.en.length cE, .slice aT s.th.length cT] 30 := (Blk.new _ _ _ _ rfl).alloc _
  have r0 : Blk ((w.alloc (.cells #[.slice aP s.pr.length cP, .int .i64 s.n, .int .i64 s.k, .slice aE s.en.length cE, .slice aT s.th.length cT] 30)).alloc (.cells #[.slice none 0 0, .int .i64 0, .int .i64 0, .slice none 0 0, .slice none 0 0] 30)) (w.heap.size + 1) #[.slice none 0 0, .int .i64 0, .int .i64 0, .slice none 0 0, .slice none 0 0] 30 := Blk.new _ _ _ _ (by simp)
  have g0 : Grew w ((w.alloc (.cells #[.slice aP s.pr.length cP, .int .i64 s.n, .int .i64 s.k, .slice aE s.en.length cE, .slice aT s.th.length cT] 30)).alloc (.cells #[.slice none 0 0, .int .i64 0, .int .i64 0, .slice none 0 0, .slice none 0 0] 30)) := ((Grew.refl w).alloc _).alloc _
  generalize ((w.alloc (.cells #[.slice aP s.pr.length cP, .int .i64 s.n, .int .i64 s.k, .slice aE s.en.length cE, .slice aT s.th.length cT] 30)).alloc (.cells #[.slice none 0 0, .int .i64 0, .int .i64 0, .slice none 0 0, .slice none 0 0] 30)) = w0 at *
-- GEN
  have hr := r0.lt
  have o1 := k0.cell 0
  go_wp2_with fail
  refine (plClone_c l1 (H1.out.grew g0)).mono ?_
  rintro e w1 ⟨a1, c1, rfl, R1, h1⟩
  clear o1
  have m1 := k0.grew h1
  have n1 := r0.grew h1
  have d1 := m1.cell 0
  have f1 := m1.free 0
  go_upto_region 2 with fail
  clear d1 f1
  have P1_1 := Lib.hid ((R1.out.low (show w0.heap.size ≤ w0.heap.size from Nat.le_refl w0.heap.size)).set (c := w.heap.size) (o := 0) (by omega) (.slice a1 s.pr.length c1))
  have q1 := m1.set (o := 0) (.slice a1 s.pr.length c1)
  have s1 := n1.other (show w.heap.size + 1 ≠ w.heap.size by omega) (o := 0) (.slice a1 s.pr.length c1)
  have y1 : Grew w (w1.setCell ⟨w.heap.size, 0, none⟩ (.slice a1 s.pr.length c1)) := (g0.trans h1).setCell (Nat.le_refl _) _
  have z1 : w0.heap.size ≤ (w1.setCell ⟨w.heap.size, 0, none⟩ (.slice a1 s.pr.length c1)).heap.size := by have := h1.size; have := Nat.le_refl w0.heap.size; simp; omega
  clear m1 n1 R1 h1
  generalize w1.setCell ⟨w.heap.size, 0, none⟩ (.slice a1 s.pr.length c1) = x1 at *
  have o2 := q1.cell 3
  go_wp2_with fail
  refine (plClone_c l2 (H2.out.grew y1)).mono ?_
  rintro e w2 ⟨a2, c2, rfl, R2, h2⟩
  clear o2
  have m2 := q1.grew h2
  have n2 := s1.grew h2
  have d2 := m2.cell 3
  have f2 := m2.free 3
  go_upto_region 3 with fail
  clear d2 f2
  have P2_2 := Lib.hid ((R2.out.low (show w0.heap.size ≤ x1.heap.size from z1)).set (c := w.heap.size) (o := 3) (by omega) (.slice a2 s.en.length c2))
  have P1_2 := Lib.hid ((P1_1.out.grew h2).set (c := w.heap.size) (o := 3) (by omega) (.slice a2 s.en.length c2))
  clear P1_1
  have q2 := m2.set (o := 3) (.slice a2 s.en.length c2)
  have s2 := n2.other (show w.heap.size + 1 ≠ w.heap.size by omega) (o := 3) (.slice a2 s.en.length c2)
  have y2 : Grew w (w2.setCell ⟨w.heap.size, 3, none⟩ (.slice a2 s.en.length c2)) := (y1.trans h2).setCell (Nat.le_refl _) _
  have z2 : w0.heap.size ≤ (w2.setCell ⟨w.heap.size, 3, none⟩ (.slice a2 s.en.length c2)).heap.size := by have := h2.size; have := z1; simp; omega
  clear m2 n2 R2 h2
  generalize w2.setCell ⟨w.heap.size, 3, none⟩ (.slice a2 s.en.length c2) = x2 at *
  have o3 := q2.cell 4
  go_wp2_with fail
  refine (plClone_c l3 (H3.out.grew y2)).mono ?_
  rintro e w3 ⟨a3, c3, rfl, R3, h3⟩
  clear o3
  have m3 := q2.grew h3
  have n3 := s2.grew h3
  have d3 := m3.cell 4
  have f3 := m3.free 4
  go_upto_region 4 with fail
  clear d3 f3
  have P3_3 := Lib.hid ((R3.out.low (show w0.heap.size ≤ x2.heap.size from z2)).set (c := w.heap.size) (o := 4) (by omega) (.slice a3 s.th.length c3))
  have P1_3 := Lib.hid ((P1_2.out.grew h3).set (c := w.heap.size) (o := 4) (by omega) (.slice a3 s.th.length c3))
  clear P1_2
  have P2_3 := Lib.hid ((P2_2.out.grew h3).set (c := w.heap.size) (o := 4) (by omega) (.slice a3 s.th.length c3))
  clear P2_2
  have q3 := m3.set (o := 4) (.slice a3 s.th.length c3)
  have s3 := n3.other (show w.heap.size + 1 ≠ w.heap.size by omega) (o := 4) (.slice a3 s.th.length c3)
  have y3 : Grew w (w3.setCell ⟨w.heap.size, 4, none⟩ (.slice a3 s.th.length c3)) := (y2.trans h3).setCell (Nat.le_refl _) _
  have z3 : w0.heap.size ≤ (w3.setCell ⟨w.heap.size, 4, none⟩ (.slice a3 s.th.length c3)).heap.size := by have := h3.size; have := z2; simp; omega
  clear m3 n3 R3 h3
  generalize w3.setCell ⟨w.heap.size, 4, none⟩ (.slice a3 s.th.length c3) = x3 at *
  have u0 : x3.cell? ⟨w.heap.size, 0, none⟩ = some ((.slice a1 s.pr.length c1)) := q3.cell 0
  have b0 := s3.cell 0
  have e0 := s3.free 0
  have u1 : x3.cell? ⟨w.heap.size, 1, none⟩ = some (.int .i64 s.n) := q3.cell 1
  have b1 := s3.cell 1
  have e1 := s3.free 1
  have u2 : x3.cell? ⟨w.heap.size, 2, none⟩ = some (.int .i64 s.k) := q3.cell 2
  have b2 := s3.cell 2
  have e2 := s3.free 2
  have u3 : x3.cell? ⟨w.heap.size, 3, none⟩ = some ((.slice a2 s.en.length c2)) := q3.cell 3
  have b3 := s3.cell 3
  have e3 := s3.free 3
  have u4 : x3.cell? ⟨w.heap.size, 4, none⟩ = some ((.slice a3 s.th.length c3)) := q3.cell 4
  have b4 := s3.cell 4
  have e4 := s3.free 4
  go_wp2_with fail
  have K := (((((s3.set (o := 0) ((.slice a1 s.pr.length c1))).set (o := 1) (.int .i64 s.n)).set (o := 2) (.int .i64 s.k)).set (o := 3) ((.slice a2 s.en.length c2))).set (o := 4) ((.slice a3 s.th.length c3)))
  have G := (((((y3.setCell (b := w.heap.size + 1) (o := 0) (by omega) ((.slice a1 s.pr.length c1))).setCell (b := w.heap.size + 1) (o := 1) (by omega) (.int .i64 s.n)).setCell (b := w.heap.size + 1) (o := 2) (by omega) (.int .i64 s.k)).setCell (b := w.heap.size + 1) (o := 3) (by omega) ((.slice a2 s.en.length c2))).setCell (b := w.heap.size + 1) (o := 4) (by omega) ((.slice a3 s.th.length c3)))
  have U1 := (((((P1_3.out.set (c := w.heap.size + 1) (o := 0) (by omega) ((.slice a1 s.pr.length c1))).set (c := w.heap.size + 1) (o := 1) (by omega) (.int .i64 s.n)).set (c := w.heap.size + 1) (o := 2) (by omega) (.int .i64 s.k)).set (c := w.heap.size + 1) (o := 3) (by omega) ((.slice a2 s.en.length c2))).set (c := w.heap.size + 1) (o := 4) (by omega) ((.slice a3 s.th.length c3)))
  have U2 := (((((P2_3.out.set (c := w.heap.size + 1) (o := 0) (by omega) ((.slice a1 s.pr.length c1))).set (c := w.heap.size + 1) (o := 1) (by omega) (.int .i64 s.n)).set (c := w.heap.size + 1) (o := 2) (by omega) (.int .i64 s.k)).set (c := w.heap.size + 1) (o := 3) (by omega) ((.slice a2 s.en.length c2))).set (c := w.heap.size + 1) (o := 4) (by omega) ((.slice a3 s.th.length c3)))
  have U3 := (((((P3_3.out.set (c := w.heap.size + 1) (o := 0) (by omega) ((.slice a1 s.pr.length c1))).set (c := w.heap.size + 1) (o := 1) (by omega) (.int .i64 s.n)).set (c := w.heap.size + 1) (o := 2) (by omega) (.int .i64 s.k)).set (c := w.heap.size + 1) (o := 3) (by omega) ((.slice a2 s.en.length c2))).set (c := w.heap.size + 1) (o := 4) (by omega) ((.slice a3 s.th.length c3)))
  generalize (((((x3.setCell ⟨w.heap.size + 1, 0, none⟩ ((.slice a1 s.pr.length c1))).setCell ⟨w.heap.size + 1, 1, none⟩ (.int .i64 s.n)).setCell ⟨w.heap.size + 1, 2, none⟩ (.int .i64 s.k)).setCell ⟨w.heap.size + 1, 3, none⟩ ((.slice a2 s.en.length c2))).setCell ⟨w.heap.size + 1, 4, none⟩ ((.slice a3 s.th.length c3))) = X at *
  have t0 := K.cell 0
  have t1 := K.cell 1
  have t2 := K.cell 2
  have t3 := K.cell 3
  have t4 := K.cell 4
  exact bodyPost_ret (v := .agg #[(.slice a1 s.pr.length c1), .int .i64 s.n, .int .i64 s.k, (.slice a2 s.en.length c2), (.slice a3 s.th.length c3)]) (by simp [results, Tryz.results37, go_sem, t0, t1, t2, t3, t4]) rfl ⟨_, rfl, Lib.hid (HX.out _ _ _ _ (U1.low (by omega)) (U2.low (by omega)) (U3.low (by omega))), g.trans G⟩
end Go.Proofs.YtgcfmijkggpemaaGreat
