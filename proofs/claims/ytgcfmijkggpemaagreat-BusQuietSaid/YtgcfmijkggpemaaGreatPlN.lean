/-
  The document's own ints, Same (of controllers that are the same), Set, New.
-/
import Derived.Test.YtgcfmijkggpemaaGreatPlM
set_option maxRecDepth 4000
set_option linter.unusedVariables false
set_option linter.unusedSimpArgs false
namespace Go.Proofs.YtgcfmijkggpemaaGreat
open Go.RowKit

set_option maxHeartbeats 1000000 in
theorem ints_c {va vb : Value} {xs : List Int} {w : World} (ha : Ints.Buf w va xs) (hb : Ints.Buf w vb xs) :
    Calls Tryz.prog 35 #[va, vb] w fun e w' => e = .returned (.bool true) ∧ Grew w w' := by
  obtain ⟨a, ca, rfl, _, h1⟩ := ha.shape
  obtain ⟨b, cb, rfl, _, h2⟩ := hb.shape
  have hlen := ha.len
  unfold maxLen at hlen
  have hl9 : xs.length ≤ 9223372036854775807 := by omega
  have H1 := Lib.hid h1
  have H2 := Lib.hid h2
  clear h1 h2 ha hb hlen
  have eL : ((xs.length : Int) != (xs.length : Int)) = false := by simp
  go_enter Tryz.func35, Tryz.ntmps35
  go_wp2_with fail
  clear eL
  go_loopw [5] (fun i wr => ∃ k : Nat, k ≤ xs.length ∧ i = .int .i64 k ∧ Grew w wr) (fun i _ => xs.length - (intOf i).toNat)
  case atStart => exact ⟨0, Nat.zero_le _, rfl, Grew.refl _⟩
  case round =>
    obtain ⟨k, hk, rfl, gr⟩ := hrel
    by_cases hlt : k < xs.length
    · have hne : xs ≠ [] := by intro h; subst h; simp at hlt
      obtain ⟨b1, o1, rfl, c1⟩ := H1.out hne
      obtain ⟨b2, o2, rfl, c2⟩ := H2.out hne
      have l1 := c1.lt hne
      have l2 := c2.lt hne
      have d1 := c1 k hlt
      have d2 := c2 k hlt
      generalize xs.getD k 0 = x at *
      clear c1 c2 H1 H2 hne
      go_upto_region 6 with fail
      have z1 : ∀ z : Over wr, z.w.cell? ⟨b1, o1 + k, none⟩ = some (.int .i64 x) := fun z => ((gcell (gr.trans z.g)).1 b1 _ l1).trans d1
      have z2 : ∀ z : Over wr, z.w.cell? ⟨b2, o2 + k, none⟩ = some (.int .i64 x) := fun z => ((gcell (gr.trans z.g)).1 b2 _ l2).trans d2
      have eX : (x != x) = false := by simp
      clear d1 d2
      refine region_over (by kernel_rfl) (by kernel_rfl) ?_
      repeat (first | go_big_quiet_step (fail) | quiet_step (fail))
      refine wpQuiet_nil ?_
      intro z
      have gz := gr.trans z.g
      clear z1 z2 eX gr
      generalize z.w = w2 at *
      go_wp2_with fail
      go_roundw
      case rel => exact ⟨k + 1, by omega, by go_num, gz⟩
      case measure => simp [intOf]; omega
    · obtain rfl : k = xs.length := by omega
      clear H1 H2 hlt
      go_wp2_with fail
      go_ret
      exact ⟨rfl, gr⟩

set_option maxHeartbeats 1000000 in
theorem plSame_c {va vb : Value} {s : PS} {W w : World} (ha : Pl w va s) (hb : Pl w vb s) (g : Grew W w) :
    Calls Tryz.prog 17 #[va, vb] w fun e w' => e = .returned (.bool true) ∧ Grew W w' := by
  obtain ⟨vP, vE, vT, rfl, h1, h2, h3⟩ := ha.shape
  obtain ⟨uP, uE, uT, rfl, i1, i2, i3⟩ := hb.shape
  have H1 := Lib.hid (fun (w1 : World) (g1 : Grew w w1) => ints_c (h1.grew g1) (i1.grew g1))
  have H2 := Lib.hid (fun (w1 : World) (g1 : Grew w w1) => ints_c (h2.grew g1) (i2.grew g1))
  have H3 := Lib.hid (fun (w1 : World) (g1 : Grew w w1) => ints_c (h3.grew g1) (i3.grew g1))
  obtain ⟨a1, c1, rfl, _, _⟩ := h1.shape
  obtain ⟨a2, c2, rfl, _, _⟩ := h2.shape
  obtain ⟨a3, c3, rfl, _, _⟩ := h3.shape
  obtain ⟨a4, c4, rfl, _, _⟩ := i1.shape
  obtain ⟨a5, c5, rfl, _, _⟩ := i2.shape
  obtain ⟨a6, c6, rfl, _, _⟩ := i3.shape
  clear h1 h2 h3 i1 i2 i3 ha hb
  generalize s.n = n at *
  generalize s.k = k at *
  generalize s.pr.length = q1 at *
  generalize s.en.length = q2 at *
  generalize s.th.length = q3 at *
  have eN : (n == n) = true := by simp
  have eK : (k == k) = true := by simp
  go_enter Tryz.func17, Tryz.ntmps17
  go_upto_region 1 with fail
  have k1 : Blk ((w.alloc (.cells #[.slice a1 q1 c1, .int .i64 n, .int .i64 k, .slice a2 q2 c2, .slice a3 q3 c3] 30)).alloc (.cells #[.slice a4 q1 c4, .int .i64 n, .int .i64 k, .slice a5 q2 c5, .slice a6 q3 c6] 30)) w.heap.size #[.slice a1 q1 c1, .int .i64 n, .int .i64 k, .slice a2 q2 c2, .slice a3 q3 c3] 30 := (Blk.new _ _ _ _ rfl).alloc _
  have k2 : Blk ((w.alloc (.cells #[.slice a1 q1 c1, .int .i64 n, .int .i64 k, .slice a2 q2 c2, .slice a3 q3 c3] 30)).alloc (.cells #[.slice a4 q1 c4, .int .i64 n, .int .i64 k, .slice a5 q2 c5, .slice a6 q3 c6] 30)) (w.heap.size + 1) #[.slice a4 q1 c4, .int .i64 n, .int .i64 k, .slice a5 q2 c5, .slice a6 q3 c6] 30 := Blk.new _ _ _ _ (by simp)
  have g0 : Grew w ((w.alloc (.cells #[.slice a1 q1 c1, .int .i64 n, .int .i64 k, .slice a2 q2 c2, .slice a3 q3 c3] 30)).alloc (.cells #[.slice a4 q1 c4, .int .i64 n, .int .i64 k, .slice a5 q2 c5, .slice a6 q3 c6] 30)) := ((Grew.refl w).alloc _).alloc _
  generalize ((w.alloc (.cells #[.slice a1 q1 c1, .int .i64 n, .int .i64 k, .slice a2 q2 c2, .slice a3 q3 c3] 30)).alloc (.cells #[.slice a4 q1 c4, .int .i64 n, .int .i64 k, .slice a5 q2 c5, .slice a6 q3 c6] 30)) = w0 at *
  generalize w.heap.size + 1 = E at *
  generalize w.heap.size = D at *
  have x0 := k1.cell 0
  have y0 := k2.cell 0
  go_wp2_with fail
  refine (H1.out _ g0).mono ?_
  rintro e w1 ⟨rfl, g1⟩
  clear x0 y0
  have k3 := k1.grew g1
  have k4 := k2.grew g1
  have x1 := k3.cell 1
  have y1 := k4.cell 1
  have x2 := k3.cell 2
  have y2 := k4.cell 2
  have x3 := k3.cell 3
  have y3 := k4.cell 3
  go_wp2_with fail
  refine (H2.out _ (g0.trans g1)).mono ?_
  rintro e w2 ⟨rfl, g2⟩
  clear x1 y1 x2 y2 x3 y3
  have x4 := (k3.grew g2).cell 4
  have y4 := (k4.grew g2).cell 4
  go_wp2_with fail
  refine (H3.out _ ((g0.trans g1).trans g2)).mono ?_
  rintro e w3 ⟨rfl, g3⟩
  go_wp2_with fail
  go_ret
  exact ⟨rfl, (((g.trans g0).trans g1).trans g2).trans g3⟩
end Go.Proofs.YtgcfmijkggpemaaGreat
