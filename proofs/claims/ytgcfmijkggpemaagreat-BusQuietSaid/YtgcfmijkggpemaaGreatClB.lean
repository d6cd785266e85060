/-
  Package clint: contracts of its small functions (half, find, of, put, register, with).
-/
import Derived.Test.YtgcfmijkggpemaaGreatClA
import Derived.Deep.DeepCutAuto
set_option maxRecDepth 4000
set_option linter.unusedVariables false
set_option linter.unusedSimpArgs false
namespace Go.Proofs.YtgcfmijkggpemaaGreat
open Go.RowKit

/-! ### Parts -/
theorem half_c (off u : Int) (h0 : 0 ≤ off) (h1 : off < 18446744073709551616) (hu : bits .and .u64 off 4 = u) (hu2 : u = 0 ∨ u = 4) (hl : u ≤ off) {W w : World} (g : Grew W w) :
    Calls Tryz.prog 96 #[.int .u64 off] w fun e w' => e = .returned (.agg #[.int .u64 (off - u), .int .i64 (u * 8), .int .i64 32]) ∧ Grew W w' := by
  have hgs := g.size
  have hu0 : 0 ≤ u := by omega
  have hu1 : u ≤ 4 := by omega
  clear hu2
  go_enter Tryz.func96, Tryz.ntmps96
  go_wp2_with fail
  go_returns
  exact ⟨rfl, by repeat (first | exact g | refine Grew.setCell ?_ (by simpa using hgs) _ | refine Grew.alloc ?_ _)⟩


set_option maxHeartbeats 4000000 in
/-- Size 4, no place of Soft. -/
theorem find_4 (off u : Int) (h0 : 0 ≤ off) (h1 : off < 18446744073709551616) (hz : off ≠ 0) (hu : bits .and .u64 off 4 = u) (hu2 : u = 0 ∨ u = 4) (hl : u ≤ off) {W w : World} (g : Grew W w) :
    Calls Tryz.prog 72 #[.int .u64 off, .int .i64 4] w fun e w' => e = .returned (.tuple #[.agg #[.int .u64 (off - u), .int .i64 (u * 8), .int .i64 32], .bool (off - u == 16384 || off - u == 49144)]) ∧ Grew W w' := by
  have hgs := g.size
  have hH := fun W w (g : Grew W w) => half_c off u h0 h1 hu hu2 hl g
  have HH := Lib.hid hH
  clear hH hu
  have hz' : (off == 0) = false := by simpa using hz
  clear hz
  obtain ⟨q, hq⟩ : ∃ q, q = off - u := ⟨_, rfl⟩
  rw [← hq] at HH
  rw [← hq]
  obtain ⟨r, hr⟩ : ∃ r, r = u * 8 := ⟨_, rfl⟩
  rw [← hr] at HH
  rw [← hr]
  clear hq hr hu2 hl
  cases b1 : (q == 16384) <;> cases b2 : (q == 49144)
  all_goals
    go_enter Tryz.func72, Tryz.ntmps72
    go_upto_region 7 with fail
    have kR : Blk ((w.alloc (.cells #[.int .u64 0, .int .i64 0, .int .i64 0] 116)).alloc (.cells #[.int .u64 off, .int .i64 0, .int .i64 64] 116)) w.heap.size #[.int .u64 0, .int .i64 0, .int .i64 0] 116 := (Blk.new _ _ _ _ rfl).alloc _
    have kP : Blk ((w.alloc (.cells #[.int .u64 0, .int .i64 0, .int .i64 0] 116)).alloc (.cells #[.int .u64 off, .int .i64 0, .int .i64 64] 116)) (w.heap.size + 1) #[.int .u64 off, .int .i64 0, .int .i64 64] 116 := Blk.new _ _ _ _ (by simp)
    have g0 : Grew W ((w.alloc (.cells #[.int .u64 0, .int .i64 0, .int .i64 0] 116)).alloc (.cells #[.int .u64 off, .int .i64 0, .int .i64 64] 116)) := (g.alloc _).alloc _
    generalize ((w.alloc (.cells #[.int .u64 0, .int .i64 0, .int .i64 0] 116)).alloc (.cells #[.int .u64 off, .int .i64 0, .int .i64 64] 116)) = w0 at *
    have hne : w.heap.size ≠ w.heap.size + 1 := by omega
    generalize w.heap.size = D at *
    generalize hE : D + 1 = E at *
    go_upto_region 8 with (go_at_call 96; refine (HH.out w0 _ (Grew.refl w0)).mono ?_; rintro e w1 ⟨rfl, g1⟩; have kR1 := kR.grew g1; have kP1 := kP.grew g1; have c0 := (kP1).cell 0; have c1 := (kP1).cell 1; have c2 := (kP1).cell 2; have f0 := (kP1).free 0; have f1 := (kP1).free 1; have f2 := (kP1).free 2)
    have kP2 : Blk (((w1.setCell ⟨E, 0, none⟩ (.int .u64 q)).setCell ⟨E, 1, none⟩ (.int .i64 r)).setCell ⟨E, 2, none⟩ (.int .i64 32)) E #[.int .u64 q, .int .i64 r, .int .i64 32] 116 := ((kP1.set (o := 0) _).set (o := 1) _).set (o := 2) _
    have kR2 : Blk (((w1.setCell ⟨E, 0, none⟩ (.int .u64 q)).setCell ⟨E, 1, none⟩ (.int .i64 r)).setCell ⟨E, 2, none⟩ (.int .i64 32)) D #[.int .u64 0, .int .i64 0, .int .i64 0] 116 := ((kR1.other hne _).other hne _).other hne _
    have g2 : Grew W (((w1.setCell ⟨E, 0, none⟩ (.int .u64 q)).setCell ⟨E, 1, none⟩ (.int .i64 r)).setCell ⟨E, 2, none⟩ (.int .i64 32)) := (((g0.trans g1).setCell (by omega) _).setCell (by omega) _).setCell (by omega) _
    clear c0 c1 c2 f0 f1 f2 kR kP kR1 kP1 g0 g1
    generalize (((w1.setCell ⟨E, 0, none⟩ (.int .u64 q)).setCell ⟨E, 1, none⟩ (.int .i64 r)).setCell ⟨E, 2, none⟩ (.int .i64 32)) = w2 at *
    have c0 := (kP2).cell 0
    have c1 := (kP2).cell 1
    have c2 := (kP2).cell 2
    have d0 := (kR2).cell 0
    have d1 := (kR2).cell 1
    have d2 := (kR2).cell 2
    have f0 := (kR2).free 0
    have f1 := (kR2).free 1
    have f2 := (kR2).free 2
    have gz := ((((g2).setCell (b := D) (o := 0) (by omega) (.int .u64 q)).setCell (b := D) (o := 1) (by omega) (.int .i64 r)).setCell (b := D) (o := 2) (by omega) (.int .i64 32)).drew1
    have kz := ((((kR2).set (o := 0) (.int .u64 q)).set (o := 1) (.int .i64 r)).set (o := 2) (.int .i64 32)).drew
    have HZ := Lib.hid (And.intro kz gz)
    clear kP2 kR2 hE kz gz HH
    refine wp_region_held_drew (S := fun w' => w'.cell? ⟨E, 0, none⟩ = some (.int .u64 q) ∧ w'.cell? ⟨E, 1, none⟩ = some (.int .i64 r) ∧ w'.cell? ⟨E, 2, none⟩ = some (.int .i64 32)) (by kernel_rfl) (by first | assumption | go_keep) (fun hHeld => ?_)
    first
      | (refine wpAnyH_take (i := 0) (v := ?_) rfl (by kernel_rfl) (by kernel_rfl) (by kernel_rfl) (fun _ _ _ h => h) (Or.inl ⟨by rfl, ?_⟩) (by assumption) ?_; rotate_left; (intro wq hSw; (try dsimp only at hSw); go_simp; try with_reducible rfl))
      | (refine wpAnyH_take (i := 0) (v := undef) rfl (by kernel_rfl) (by kernel_rfl) (by kernel_rfl) (fun _ _ _ h => h) (Or.inr ⟨by rfl, rfl⟩) (by assumption) ?_)
    try simp only [List.getElem_toArray, List.getElem_cons_succ, List.getElem_cons_zero, Act.put, List.setIfInBounds_toArray, List.set_cons_zero, List.set_cons_succ]
    first
      | (refine wpAnyH_take (i := 1) (v := ?_) rfl (by kernel_rfl) (by kernel_rfl) (by kernel_rfl) (fun _ _ _ h => h) (Or.inl ⟨by rfl, ?_⟩) (by assumption) ?_; rotate_left; (intro wq hSw; (try dsimp only at hSw); go_simp; try with_reducible rfl))
      | (refine wpAnyH_take (i := 1) (v := undef) rfl (by kernel_rfl) (by kernel_rfl) (by kernel_rfl) (fun _ _ _ h => h) (Or.inr ⟨by rfl, rfl⟩) (by assumption) ?_)
    try simp only [List.getElem_toArray, List.getElem_cons_succ, List.getElem_cons_zero, Act.put, List.setIfInBounds_toArray, List.set_cons_zero, List.set_cons_succ]
    first
      | (refine wpAnyH_take (i := 2) (v := ?_) rfl (by kernel_rfl) (by kernel_rfl) (by kernel_rfl) (fun _ _ _ h => h) (Or.inl ⟨by rfl, ?_⟩) (by assumption) ?_; rotate_left; (intro wq hSw; (try dsimp only at hSw); go_simp; try with_reducible rfl))
      | (refine wpAnyH_take (i := 2) (v := undef) rfl (by kernel_rfl) (by kernel_rfl) (by kernel_rfl) (fun _ _ _ h => h) (Or.inr ⟨by rfl, rfl⟩) (by assumption) ?_)
    try simp only [List.getElem_toArray, List.getElem_cons_succ, List.getElem_cons_zero, Act.put, List.setIfInBounds_toArray, List.set_cons_zero, List.set_cons_succ]
    first
      | (refine wpAnyH_take (i := 3) (v := ?_) rfl (by kernel_rfl) (by kernel_rfl) (by kernel_rfl) (fun _ _ _ h => h) (Or.inl ⟨by rfl, ?_⟩) (by assumption) ?_; rotate_left; (intro wq hSw; (try dsimp only at hSw); go_simp; try with_reducible rfl))
      | (refine wpAnyH_take (i := 3) (v := undef) rfl (by kernel_rfl) (by kernel_rfl) (by kernel_rfl) (fun _ _ _ h => h) (Or.inr ⟨by rfl, rfl⟩) (by assumption) ?_)
    try simp only [List.getElem_toArray, List.getElem_cons_succ, List.getElem_cons_zero, Act.put, List.setIfInBounds_toArray, List.set_cons_zero, List.set_cons_succ]
    first
      | (refine wpAnyH_take (i := 4) (v := ?_) rfl (by kernel_rfl) (by kernel_rfl) (by kernel_rfl) (fun _ _ _ h => h) (Or.inl ⟨by rfl, ?_⟩) (by assumption) ?_; rotate_left; (intro wq hSw; (try dsimp only at hSw); go_simp; try with_reducible rfl))
      | (refine wpAnyH_take (i := 4) (v := undef) rfl (by kernel_rfl) (by kernel_rfl) (by kernel_rfl) (fun _ _ _ h => h) (Or.inr ⟨by rfl, rfl⟩) (by assumption) ?_)
    try simp only [List.getElem_toArray, List.getElem_cons_succ, List.getElem_cons_zero, Act.put, List.setIfInBounds_toArray, List.set_cons_zero, List.set_cons_succ]
    first
      | (refine wpAnyH_take (i := 5) (v := ?_) rfl (by kernel_rfl) (by kernel_rfl) (by kernel_rfl) (fun _ _ _ h => h) (Or.inl ⟨by rfl, ?_⟩) (by assumption) ?_; rotate_left; (intro wq hSw; (try dsimp only at hSw); go_simp; try with_reducible rfl))
      | (refine wpAnyH_take (i := 5) (v := undef) rfl (by kernel_rfl) (by kernel_rfl) (by kernel_rfl) (fun _ _ _ h => h) (Or.inr ⟨by rfl, rfl⟩) (by assumption) ?_)
    try simp only [List.getElem_toArray, List.getElem_cons_succ, List.getElem_cons_zero, Act.put, List.setIfInBounds_toArray, List.set_cons_zero, List.set_cons_succ]
    first
      | (refine wpAnyH_take (i := 6) (v := ?_) rfl (by kernel_rfl) (by kernel_rfl) (by kernel_rfl) (fun _ _ _ h => h) (Or.inl ⟨by rfl, ?_⟩) (by assumption) ?_; rotate_left; (intro wq hSw; (try dsimp only at hSw); go_simp; try with_reducible rfl))
      | (refine wpAnyH_take (i := 6) (v := undef) rfl (by kernel_rfl) (by kernel_rfl) (by kernel_rfl) (fun _ _ _ h => h) (Or.inr ⟨by rfl, rfl⟩) (by assumption) ?_)
    try simp only [List.getElem_toArray, List.getElem_cons_succ, List.getElem_cons_zero, Act.put, List.setIfInBounds_toArray, List.set_cons_zero, List.set_cons_succ]
    first
      | (refine wpAnyH_take (i := 7) (v := ?_) rfl (by kernel_rfl) (by kernel_rfl) (by kernel_rfl) (fun _ _ _ h => h) (Or.inl ⟨by rfl, ?_⟩) (by assumption) ?_; rotate_left; (intro wq hSw; (try dsimp only at hSw); go_simp; try with_reducible rfl))
      | (refine wpAnyH_take (i := 7) (v := undef) rfl (by kernel_rfl) (by kernel_rfl) (by kernel_rfl) (fun _ _ _ h => h) (Or.inr ⟨by rfl, rfl⟩) (by assumption) ?_)
    try simp only [List.getElem_toArray, List.getElem_cons_succ, List.getElem_cons_zero, Act.put, List.setIfInBounds_toArray, List.set_cons_zero, List.set_cons_succ]
    first
      | (refine wpAnyH_take (i := 8) (v := ?_) rfl (by kernel_rfl) (by kernel_rfl) (by kernel_rfl) (fun _ _ _ h => h) (Or.inl ⟨by rfl, ?_⟩) (by assumption) ?_; rotate_left; (intro wq hSw; (try dsimp only at hSw); go_simp; try with_reducible rfl))
      | (refine wpAnyH_take (i := 8) (v := undef) rfl (by kernel_rfl) (by kernel_rfl) (by kernel_rfl) (fun _ _ _ h => h) (Or.inr ⟨by rfl, rfl⟩) (by assumption) ?_)
    try simp only [List.getElem_toArray, List.getElem_cons_succ, List.getElem_cons_zero, Act.put, List.setIfInBounds_toArray, List.set_cons_zero, List.set_cons_succ]
    refine wpAnyH_ready (rs := [9]) (by kernel_rfl) (by simp) ?_
    refine AllReadyH.cons rfl (fun K hK => ?_) AllReadyH.nil
    go_simp
    refine hK.out _ _ (by first | assumption | go_keep) (fun hHeld => ?_)
    clear hK K
    try simp only [List.getElem_toArray, List.getElem_cons_succ, List.getElem_cons_zero, Act.put, List.setIfInBounds_toArray, List.set_cons_zero, List.set_cons_succ]
    first
      | (refine wpAnyH_take (i := 10) (v := ?_) rfl (by kernel_rfl) (by kernel_rfl) (by kernel_rfl) (fun _ _ _ h => h) (Or.inl ⟨by rfl, ?_⟩) (by assumption) ?_; rotate_left; (intro wq hSw; (try dsimp only at hSw); go_simp; try with_reducible rfl))
      | (refine wpAnyH_take (i := 10) (v := undef) rfl (by kernel_rfl) (by kernel_rfl) (by kernel_rfl) (fun _ _ _ h => h) (Or.inr ⟨by rfl, rfl⟩) (by assumption) ?_)
    try simp only [List.getElem_toArray, List.getElem_cons_succ, List.getElem_cons_zero, Act.put, List.setIfInBounds_toArray, List.set_cons_zero, List.set_cons_succ]
    refine wpAnyH_done (by kernel_rfl) ?_ _
    try simp only [List.getElem_toArray, List.getElem_cons_succ, List.getElem_cons_zero, Act.put, List.setIfInBounds_toArray, List.set_cons_zero, List.set_cons_succ]
    go_wp2_with fail
    obtain ⟨kz, gz⟩ := HZ.out
    clear HZ hHeld
    generalize (((w2.setCell ⟨D, 0, none⟩ (.int .u64 q)).setCell ⟨D, 1, none⟩ (.int .i64 r)).setCell ⟨D, 2, none⟩ (.int .i64 32)).drew = wz at *
    have z0 := (kz).cell 0
    have z1 := (kz).cell 1
    have z2 := (kz).cell 2
    exact bodyPost_ret (v := .tuple #[.agg #[.int .u64 q, .int .i64 r, .int .i64 32], .bool _]) (by simp [results, Tryz.results72, go_sem, z0, z1, z2]) rfl ⟨rfl, gz⟩

set_option maxHeartbeats 4000000 in
/-- Size 8. -/
theorem find_8 (q : Int) (_h0 : 0 ≤ q) (_h1 : q < 18446744073709551616) {W w : World} (g : Grew W w) :
    Calls Tryz.prog 72 #[.int .u64 q, .int .i64 8] w fun e w' => e = .returned (.tuple #[.agg #[.int .u64 q, .int .i64 0, .int .i64 64], .bool (q == 16384 || q == 49144)]) ∧ Grew W w' := by
  have hgs := g.size
  cases b1 : (q == 16384) <;> cases b2 : (q == 49144)
  all_goals
    go_enter Tryz.func72, Tryz.ntmps72
    go_upto_region 8 with fail
    have kR : Blk ((w.alloc (.cells #[.int .u64 0, .int .i64 0, .int .i64 0] 116)).alloc (.cells #[.int .u64 q, .int .i64 0, .int .i64 64] 116)) w.heap.size #[.int .u64 0, .int .i64 0, .int .i64 0] 116 := (Blk.new _ _ _ _ rfl).alloc _
    have kP : Blk ((w.alloc (.cells #[.int .u64 0, .int .i64 0, .int .i64 0] 116)).alloc (.cells #[.int .u64 q, .int .i64 0, .int .i64 64] 116)) (w.heap.size + 1) #[.int .u64 q, .int .i64 0, .int .i64 64] 116 := Blk.new _ _ _ _ (by simp)
    have g0 : Grew W ((w.alloc (.cells #[.int .u64 0, .int .i64 0, .int .i64 0] 116)).alloc (.cells #[.int .u64 q, .int .i64 0, .int .i64 64] 116)) := (g.alloc _).alloc _
    generalize ((w.alloc (.cells #[.int .u64 0, .int .i64 0, .int .i64 0] 116)).alloc (.cells #[.int .u64 q, .int .i64 0, .int .i64 64] 116)) = w2 at *
    have hne : w.heap.size ≠ w.heap.size + 1 := by omega
    generalize w.heap.size = D at *
    generalize hE : D + 1 = E at *
    have kR2 := kR
    have kP2 := kP
    have g2 := g0
    clear kR kP g0
    have c0 := (kP2).cell 0
    have c1 := (kP2).cell 1
    have c2 := (kP2).cell 2
    have d0 := (kR2).cell 0
    have d1 := (kR2).cell 1
    have d2 := (kR2).cell 2
    have f0 := (kR2).free 0
    have f1 := (kR2).free 1
    have f2 := (kR2).free 2
    have gz := ((((g2).setCell (b := D) (o := 0) (by omega) (.int .u64 q)).setCell (b := D) (o := 1) (by omega) (.int .i64 0)).setCell (b := D) (o := 2) (by omega) (.int .i64 64)).drew1
    have kz := ((((kR2).set (o := 0) (.int .u64 q)).set (o := 1) (.int .i64 0)).set (o := 2) (.int .i64 64)).drew
    have HZ := Lib.hid (And.intro kz gz)
    clear kP2 kR2 hE kz gz
    refine wp_region_held_drew (S := fun w' => w'.cell? ⟨E, 0, none⟩ = some (.int .u64 q) ∧ w'.cell? ⟨E, 1, none⟩ = some (.int .i64 0) ∧ w'.cell? ⟨E, 2, none⟩ = some (.int .i64 64)) (by kernel_rfl) (by first | assumption | go_keep) (fun hHeld => ?_)
    first
      | (refine wpAnyH_take (i := 0) (v := ?_) rfl (by kernel_rfl) (by kernel_rfl) (by kernel_rfl) (fun _ _ _ h => h) (Or.inl ⟨by rfl, ?_⟩) (by assumption) ?_; rotate_left; (intro wq hSw; (try dsimp only at hSw); go_simp; try with_reducible rfl))
      | (refine wpAnyH_take (i := 0) (v := undef) rfl (by kernel_rfl) (by kernel_rfl) (by kernel_rfl) (fun _ _ _ h => h) (Or.inr ⟨by rfl, rfl⟩) (by assumption) ?_)
    try simp only [List.getElem_toArray, List.getElem_cons_succ, List.getElem_cons_zero, Act.put, List.setIfInBounds_toArray, List.set_cons_zero, List.set_cons_succ]
    first
      | (refine wpAnyH_take (i := 1) (v := ?_) rfl (by kernel_rfl) (by kernel_rfl) (by kernel_rfl) (fun _ _ _ h => h) (Or.inl ⟨by rfl, ?_⟩) (by assumption) ?_; rotate_left; (intro wq hSw; (try dsimp only at hSw); go_simp; try with_reducible rfl))
      | (refine wpAnyH_take (i := 1) (v := undef) rfl (by kernel_rfl) (by kernel_rfl) (by kernel_rfl) (fun _ _ _ h => h) (Or.inr ⟨by rfl, rfl⟩) (by assumption) ?_)
    try simp only [List.getElem_toArray, List.getElem_cons_succ, List.getElem_cons_zero, Act.put, List.setIfInBounds_toArray, List.set_cons_zero, List.set_cons_succ]
    first
      | (refine wpAnyH_take (i := 2) (v := ?_) rfl (by kernel_rfl) (by kernel_rfl) (by kernel_rfl) (fun _ _ _ h => h) (Or.inl ⟨by rfl, ?_⟩) (by assumption) ?_; rotate_left; (intro wq hSw; (try dsimp only at hSw); go_simp; try with_reducible rfl))
      | (refine wpAnyH_take (i := 2) (v := undef) rfl (by kernel_rfl) (by kernel_rfl) (by kernel_rfl) (fun _ _ _ h => h) (Or.inr ⟨by rfl, rfl⟩) (by assumption) ?_)
    try simp only [List.getElem_toArray, List.getElem_cons_succ, List.getElem_cons_zero, Act.put, List.setIfInBounds_toArray, List.set_cons_zero, List.set_cons_succ]
    first
      | (refine wpAnyH_take (i := 3) (v := ?_) rfl (by kernel_rfl) (by kernel_rfl) (by kernel_rfl) (fun _ _ _ h => h) (Or.inl ⟨by rfl, ?_⟩) (by assumption) ?_; rotate_left; (intro wq hSw; (try dsimp only at hSw); go_simp; try with_reducible rfl))
      | (refine wpAnyH_take (i := 3) (v := undef) rfl (by kernel_rfl) (by kernel_rfl) (by kernel_rfl) (fun _ _ _ h => h) (Or.inr ⟨by rfl, rfl⟩) (by assumption) ?_)
    try simp only [List.getElem_toArray, List.getElem_cons_succ, List.getElem_cons_zero, Act.put, List.setIfInBounds_toArray, List.set_cons_zero, List.set_cons_succ]
    first
      | (refine wpAnyH_take (i := 4) (v := ?_) rfl (by kernel_rfl) (by kernel_rfl) (by kernel_rfl) (fun _ _ _ h => h) (Or.inl ⟨by rfl, ?_⟩) (by assumption) ?_; rotate_left; (intro wq hSw; (try dsimp only at hSw); go_simp; try with_reducible rfl))
      | (refine wpAnyH_take (i := 4) (v := undef) rfl (by kernel_rfl) (by kernel_rfl) (by kernel_rfl) (fun _ _ _ h => h) (Or.inr ⟨by rfl, rfl⟩) (by assumption) ?_)
    try simp only [List.getElem_toArray, List.getElem_cons_succ, List.getElem_cons_zero, Act.put, List.setIfInBounds_toArray, List.set_cons_zero, List.set_cons_succ]
    first
      | (refine wpAnyH_take (i := 5) (v := ?_) rfl (by kernel_rfl) (by kernel_rfl) (by kernel_rfl) (fun _ _ _ h => h) (Or.inl ⟨by rfl, ?_⟩) (by assumption) ?_; rotate_left; (intro wq hSw; (try dsimp only at hSw); go_simp; try with_reducible rfl))
      | (refine wpAnyH_take (i := 5) (v := undef) rfl (by kernel_rfl) (by kernel_rfl) (by kernel_rfl) (fun _ _ _ h => h) (Or.inr ⟨by rfl, rfl⟩) (by assumption) ?_)
    try simp only [List.getElem_toArray, List.getElem_cons_succ, List.getElem_cons_zero, Act.put, List.setIfInBounds_toArray, List.set_cons_zero, List.set_cons_succ]
    first
      | (refine wpAnyH_take (i := 6) (v := ?_) rfl (by kernel_rfl) (by kernel_rfl) (by kernel_rfl) (fun _ _ _ h => h) (Or.inl ⟨by rfl, ?_⟩) (by assumption) ?_; rotate_left; (intro wq hSw; (try dsimp only at hSw); go_simp; try with_reducible rfl))
      | (refine wpAnyH_take (i := 6) (v := undef) rfl (by kernel_rfl) (by kernel_rfl) (by kernel_rfl) (fun _ _ _ h => h) (Or.inr ⟨by rfl, rfl⟩) (by assumption) ?_)
    try simp only [List.getElem_toArray, List.getElem_cons_succ, List.getElem_cons_zero, Act.put, List.setIfInBounds_toArray, List.set_cons_zero, List.set_cons_succ]
    first
      | (refine wpAnyH_take (i := 7) (v := ?_) rfl (by kernel_rfl) (by kernel_rfl) (by kernel_rfl) (fun _ _ _ h => h) (Or.inl ⟨by rfl, ?_⟩) (by assumption) ?_; rotate_left; (intro wq hSw; (try dsimp only at hSw); go_simp; try with_reducible rfl))
      | (refine wpAnyH_take (i := 7) (v := undef) rfl (by kernel_rfl) (by kernel_rfl) (by kernel_rfl) (fun _ _ _ h => h) (Or.inr ⟨by rfl, rfl⟩) (by assumption) ?_)
    try simp only [List.getElem_toArray, List.getElem_cons_succ, List.getElem_cons_zero, Act.put, List.setIfInBounds_toArray, List.set_cons_zero, List.set_cons_succ]
    first
      | (refine wpAnyH_take (i := 8) (v := ?_) rfl (by kernel_rfl) (by kernel_rfl) (by kernel_rfl) (fun _ _ _ h => h) (Or.inl ⟨by rfl, ?_⟩) (by assumption) ?_; rotate_left; (intro wq hSw; (try dsimp only at hSw); go_simp; try with_reducible rfl))
      | (refine wpAnyH_take (i := 8) (v := undef) rfl (by kernel_rfl) (by kernel_rfl) (by kernel_rfl) (fun _ _ _ h => h) (Or.inr ⟨by rfl, rfl⟩) (by assumption) ?_)
    try simp only [List.getElem_toArray, List.getElem_cons_succ, List.getElem_cons_zero, Act.put, List.setIfInBounds_toArray, List.set_cons_zero, List.set_cons_succ]
    refine wpAnyH_ready (rs := [9]) (by kernel_rfl) (by simp) ?_
    refine AllReadyH.cons rfl (fun K hK => ?_) AllReadyH.nil
    go_simp
    refine hK.out _ _ (by first | assumption | go_keep) (fun hHeld => ?_)
    clear hK K
    try simp only [List.getElem_toArray, List.getElem_cons_succ, List.getElem_cons_zero, Act.put, List.setIfInBounds_toArray, List.set_cons_zero, List.set_cons_succ]
    first
      | (refine wpAnyH_take (i := 10) (v := ?_) rfl (by kernel_rfl) (by kernel_rfl) (by kernel_rfl) (fun _ _ _ h => h) (Or.inl ⟨by rfl, ?_⟩) (by assumption) ?_; rotate_left; (intro wq hSw; (try dsimp only at hSw); go_simp; try with_reducible rfl))
      | (refine wpAnyH_take (i := 10) (v := undef) rfl (by kernel_rfl) (by kernel_rfl) (by kernel_rfl) (fun _ _ _ h => h) (Or.inr ⟨by rfl, rfl⟩) (by assumption) ?_)
    try simp only [List.getElem_toArray, List.getElem_cons_succ, List.getElem_cons_zero, Act.put, List.setIfInBounds_toArray, List.set_cons_zero, List.set_cons_succ]
    refine wpAnyH_done (by kernel_rfl) ?_ _
    try simp only [List.getElem_toArray, List.getElem_cons_succ, List.getElem_cons_zero, Act.put, List.setIfInBounds_toArray, List.set_cons_zero, List.set_cons_succ]
    go_wp2_with fail
    obtain ⟨kz, gz⟩ := HZ.out
    clear HZ hHeld
    generalize (((w2.setCell ⟨D, 0, none⟩ (.int .u64 q)).setCell ⟨D, 1, none⟩ (.int .i64 0)).setCell ⟨D, 2, none⟩ (.int .i64 64)).drew = wz at *
    have z0 := (kz).cell 0
    have z1 := (kz).cell 1
    have z2 := (kz).cell 2
    exact bodyPost_ret (v := .tuple #[.agg #[.int .u64 q, .int .i64 0, .int .i64 64], .bool _]) (by simp [results, Tryz.results72, go_sem, z0, z1, z2]) rfl ⟨rfl, gz⟩

end Go.Proofs.YtgcfmijkggpemaaGreat
