/-
  Package ether: frame, Get, message, GetArp, of all bytes.
-/
import Derived.Test.YtolfaelalmmefaaDoorEtN
import Derived.Deep.RegionHeld3
import Derived.Deep.DeepCutAuto
import Derived.Handy
set_option maxRecDepth 4000
set_option linter.unusedVariables false
set_option linter.unusedSimpArgs false
namespace Go.Proofs.YtolfaelalmmefaaDoor
open Go.RowKit

/-- What the three sentinels are in a world. -/
structure Sen (W : World) (a0 a1 a2 : Addr) : Prop where
  z0 : 0 < W.heap.size
  z1 : 1 < W.heap.size
  z2 : 2 < W.heap.size
  c0 : W.cell? ⟨0, 0, none⟩ = some (erV a0)
  c1 : W.cell? ⟨1, 0, none⟩ = some (erV a1)
  c2 : W.cell? ⟨2, 0, none⟩ = some (erV a2)
  b0 : ∃ c t, Blk W a0.block c t
  b1 : ∃ c t, Blk W a1.block c t
  b2 : ∃ c t, Blk W a2.block c t
  n1 : a1 ≠ a0
  n2 : a2 ≠ a0
theorem Sen.grew {W w : World} {a0 a1 a2 : Addr} (s : Sen W a0 a1 a2) (g : Grew W w) : Sen w a0 a1 a2 where
  z0 := Nat.lt_of_lt_of_le s.z0 g.size
  z1 := Nat.lt_of_lt_of_le s.z1 g.size
  z2 := Nat.lt_of_lt_of_le s.z2 g.size
  c0 := by rw [(gcell g).1 _ 0 s.z0]; exact s.c0
  c1 := by rw [(gcell g).1 _ 0 s.z1]; exact s.c1
  c2 := by rw [(gcell g).1 _ 0 s.z2]; exact s.c2
  b0 := by obtain ⟨c, t, h⟩ := s.b0; exact ⟨c, t, h.grew g⟩
  b1 := by obtain ⟨c, t, h⟩ := s.b1; exact ⟨c, t, h.grew g⟩
  b2 := by obtain ⟨c, t, h⟩ := s.b2; exact ⟨c, t, h.grew g⟩
  n1 := s.n1
  n2 := s.n2

theorem cell_else {w : World} {R G o p : Nat} {v u : Value} (h : w.cell? ⟨G, p, none⟩ = some u) (hne : G ≠ R) : (w.setCell ⟨R, o, none⟩ v).cell? ⟨G, p, none⟩ = some u := by
  rw [World.cell?_of_block (Below.heap_setCell w ⟨R, o, none⟩ v G hne)]; exact h
theorem cell_drew {w : World} {p : Addr} {u : Value} (h : w.cell? p = some u) : w.drew.cell? p = some u := h
/-! ### The number of why -/
theorem number_nil {w : World} {a0 a1 a2 : Addr} (sn : Sen w a0 a1 a2) : Calls Tryd.prog 23 #[.nilIface] w fun e w' => e = .returned (.int .i64 0) ∧ Grew w w' := by
  have c0 := sn.c0
  go_enter Tryd.func23, Tryd.ntmps23
  go_wp2_with fail
  go_ret
  exact ⟨rfl, Grew.refl _⟩
theorem number_short (s : ByteArray) (n : Int) {w : World} {a0 a1 a2 : Addr} (sn : Sen w a0 a1 a2) : Calls Tryd.prog 23 #[rsV s n a0] w fun e w' => e = .returned (.int .i64 160) ∧ Grew w w' := by
  have c0 := sn.c0
  go_enter Tryd.func23, Tryd.ntmps23
  go_wp2_with fail
  refine (is_same _ _ _ (Grew.refl _)).mono ?_
  rintro e w1 ⟨rfl, g1⟩
  go_wp2_with fail
  go_ret
  exact ⟨rfl, g1⟩
theorem number_else (s : ByteArray) (n : Int) (a : Addr) {w : World} {a0 a1 a2 : Addr} (sn : Sen w a0 a1 a2) (ha : ∃ c t, Blk w a.block c t) (hne : a ≠ a0) : Calls Tryd.prog 23 #[rsV s n a] w fun e w' => e = .returned (.int .i64 161) ∧ Grew w w' := by
  have c0 := sn.c0
  go_enter Tryd.func23, Tryd.ntmps23
  go_wp2_with fail
  refine (is_other _ _ _ _ hne ha sn.b0 (Grew.refl _)).mono ?_
  rintro e w1 ⟨rfl, g1⟩
  go_wp2_with fail
  go_ret
  exact ⟨rfl, g1⟩

set_option maxHeartbeats 1000000 in
theorem frame_short (a : Option Addr) (n c : Nat) (hs : (n : Int) < 14) {w : World} {a0 a1 a2 : Addr} (sn : Sen w a0 a1 a2) :
    Calls Tryd.prog 22 #[.slice a n c] w fun e w' => e = .returned (.tuple #[.agg #[.slice none 0 0, .slice none 0 0, .int .i64 0, .slice none 0 0], rsV ⟨#[102, 114, 97, 109, 101]⟩ n a0]) ∧ Grew w w' := by
  have g0 : Grew w (w.alloc (.cells #[.slice none 0 0, .slice none 0 0, .int .i64 0, .slice none 0 0] 25)) := (Grew.refl w).alloc _
  have hR : Blk (w.alloc (.cells #[.slice none 0 0, .slice none 0 0, .int .i64 0, .slice none 0 0] 25)) w.heap.size #[.slice none 0 0, .slice none 0 0, .int .i64 0, .slice none 0 0] 25 := Blk.new _ _ _ _ rfl
  have sg := (sn.grew g0).c0
  have hne : 0 ≠ w.heap.size := Nat.ne_of_lt sn.z0
  go_enter Tryd.func22, Tryd.ntmps22
  go_upto_region 1 with fail
  generalize (w.alloc (.cells #[.slice none 0 0, .slice none 0 0, .int .i64 0, .slice none 0 0] 25)) = w1 at *
  generalize hRe : w.heap.size = R at *
  have y0 := hR.cell 0
  have f0 := hR.free 0
  have y1 := hR.cell 1
  have f1 := hR.free 1
  have y2 := hR.cell 2
  have f2 := hR.free 2
  have y3 := hR.cell 3
  have f3 := hR.free 3
  go_upto_region 2 with fail
  refine wp_region_held_drew (S := fun w' => w'.cell? ⟨0, 0, none⟩ = some (erV a0)) (by kernel_rfl) (by exact sg) (fun hHeld => ?_)
  first
    | (refine wpAnyH_take (i := 0) (v := ?_) rfl (by kernel_rfl) (by kernel_rfl) (by kernel_rfl) (fun _ _ _ h => h) (Or.inl ⟨by rfl, ?_⟩) (by assumption) ?_; rotate_left; (intro wq hSw; (try dsimp only at hSw); go_simp; try with_reducible rfl))
    | (refine wpAnyH_take (i := 0) (v := undef) rfl (by kernel_rfl) (by kernel_rfl) (by kernel_rfl) (fun _ _ _ h => h) (Or.inr ⟨by rfl, rfl⟩) (by assumption) ?_)
  try simp only [List.getElem_toArray, List.getElem_cons_succ, List.getElem_cons_zero, Act.put, List.setIfInBounds_toArray, List.set_cons_zero, List.set_cons_succ]
  first
    | (refine wpAnyH_take (i := 1) (v := ?_) rfl (by kernel_rfl) (by kernel_rfl) (by kernel_rfl) (fun _ _ _ h => h) (Or.inl ⟨by rfl, ?_⟩) (by assumption) ?_; rotate_left; (intro wq hSw; (try dsimp only at hSw); go_simp; try with_reducible rfl))
    | (refine wpAnyH_take (i := 1) (v := undef) rfl (by kernel_rfl) (by kernel_rfl) (by kernel_rfl) (fun _ _ _ h => h) (Or.inr ⟨by rfl, rfl⟩) (by assumption) ?_)
  try simp only [List.getElem_toArray, List.getElem_cons_succ, List.getElem_cons_zero, Act.put, List.setIfInBounds_toArray, List.set_cons_zero, List.set_cons_succ]
  first
    | (refine wpAnyH_take (i := 2) (v := ?_) rfl (by kernel_rfl) (by kernel_rfl) (by kernel_rfl) (fun _ _ _ h => h) (Or.inl ⟨by rfl, ?_⟩) (by assumption) ?_; rotate_left; (intro wq hSw; (try dsimp only at hSw); go_simp; try with_reducible rfl))
    | (refine wpAnyH_take (i := 2) (v := undef) rfl (by kernel_rfl) (by kernel_rfl) (by kernel_rfl) (fun _ _ _ h => h) (Or.inr ⟨by rfl, rfl⟩) (by assumption) ?_)
  try simp only [List.getElem_toArray, List.getElem_cons_succ, List.getElem_cons_zero, Act.put, List.setIfInBounds_toArray, List.set_cons_zero, List.set_cons_succ]
  first
    | (refine wpAnyH_take (i := 3) (v := ?_) rfl (by kernel_rfl) (by kernel_rfl) (by kernel_rfl) (fun _ _ _ h => h) (Or.inl ⟨by rfl, ?_⟩) (by assumption) ?_; rotate_left; (intro wq hSw; (try dsimp only at hSw); go_simp; try with_reducible rfl))
    | (refine wpAnyH_take (i := 3) (v := undef) rfl (by kernel_rfl) (by kernel_rfl) (by kernel_rfl) (fun _ _ _ h => h) (Or.inr ⟨by rfl, rfl⟩) (by assumption) ?_)
  try simp only [List.getElem_toArray, List.getElem_cons_succ, List.getElem_cons_zero, Act.put, List.setIfInBounds_toArray, List.set_cons_zero, List.set_cons_succ]
  first
    | (refine wpAnyH_take (i := 4) (v := ?_) rfl (by kernel_rfl) (by kernel_rfl) (by kernel_rfl) (fun _ _ _ h => h) (Or.inl ⟨by rfl, ?_⟩) (by assumption) ?_; rotate_left; (intro wq hSw; (try dsimp only at hSw); go_simp; try with_reducible rfl))
    | (refine wpAnyH_take (i := 4) (v := undef) rfl (by kernel_rfl) (by kernel_rfl) (by kernel_rfl) (fun _ _ _ h => h) (Or.inr ⟨by rfl, rfl⟩) (by assumption) ?_)
  try simp only [List.getElem_toArray, List.getElem_cons_succ, List.getElem_cons_zero, Act.put, List.setIfInBounds_toArray, List.set_cons_zero, List.set_cons_succ]
  first
    | (refine wpAnyH_take (i := 5) (v := ?_) rfl (by kernel_rfl) (by kernel_rfl) (by kernel_rfl) (fun _ _ _ h => h) (Or.inl ⟨by rfl, ?_⟩) (by assumption) ?_; rotate_left; (intro wq hSw; (try dsimp only at hSw); go_simp; try with_reducible rfl))
    | (refine wpAnyH_take (i := 5) (v := undef) rfl (by kernel_rfl) (by kernel_rfl) (by kernel_rfl) (fun _ _ _ h => h) (Or.inr ⟨by rfl, rfl⟩) (by assumption) ?_)
  try simp only [List.getElem_toArray, List.getElem_cons_succ, List.getElem_cons_zero, Act.put, List.setIfInBounds_toArray, List.set_cons_zero, List.set_cons_succ]
  refine wpAnyH_ready (rs := [6]) (by kernel_rfl) (by simp) ?_
  refine AllReadyH.cons rfl (fun K hK => ?_) AllReadyH.nil
  go_simp
  refine hK.out _ _ (by refine cell_drew ?_; (repeat refine cell_else ?_ hne); exact sg) (fun hHeld => ?_)
  clear hK K
  try simp only [List.getElem_toArray, List.getElem_cons_succ, List.getElem_cons_zero, Act.put, List.setIfInBounds_toArray, List.set_cons_zero, List.set_cons_succ]
  first
    | (refine wpAnyH_take (i := 7) (v := ?_) rfl (by kernel_rfl) (by kernel_rfl) (by kernel_rfl) (fun _ _ _ h => h) (Or.inl ⟨by rfl, ?_⟩) (by assumption) ?_; rotate_left; (intro wq hSw; (try dsimp only at hSw); go_simp; try with_reducible rfl))
    | (refine wpAnyH_take (i := 7) (v := undef) rfl (by kernel_rfl) (by kernel_rfl) (by kernel_rfl) (fun _ _ _ h => h) (Or.inr ⟨by rfl, rfl⟩) (by assumption) ?_)
  try simp only [List.getElem_toArray, List.getElem_cons_succ, List.getElem_cons_zero, Act.put, List.setIfInBounds_toArray, List.set_cons_zero, List.set_cons_succ]
  refine wpAnyH_done (by kernel_rfl) ?_ _
  try simp only [List.getElem_toArray, List.getElem_cons_succ, List.getElem_cons_zero, Act.put, List.setIfInBounds_toArray, List.set_cons_zero, List.set_cons_succ]
  go_wp2_with fail
  have z0 := ((((hR.set (o := 0) (.slice none 0 0)).set (o := 1) (.slice none 0 0)).set (o := 2) (.int .i64 0)).set (o := 3) (.slice none 0 0)).cell 0
  have z1 := ((((hR.set (o := 0) (.slice none 0 0)).set (o := 1) (.slice none 0 0)).set (o := 2) (.int .i64 0)).set (o := 3) (.slice none 0 0)).cell 1
  have z2 := ((((hR.set (o := 0) (.slice none 0 0)).set (o := 1) (.slice none 0 0)).set (o := 2) (.int .i64 0)).set (o := 3) (.slice none 0 0)).cell 2
  have z3 := ((((hR.set (o := 0) (.slice none 0 0)).set (o := 1) (.slice none 0 0)).set (o := 2) (.int .i64 0)).set (o := 3) (.slice none 0 0)).cell 3
  exact bodyPost_ret (v := .tuple #[.agg #[.slice none 0 0, .slice none 0 0, .int .i64 0, .slice none 0 0], rsV ⟨#[102, 114, 97, 109, 101]⟩ n a0]) (by simp [results, Tryd.results22, go_sem, z0, z1, z2, z3]) rfl ⟨rfl, (((((g0.setCell (b := R) (o := 0) (by omega) (.slice none 0 0)).setCell (b := R) (o := 1) (by omega) (.slice none 0 0)).setCell (b := R) (o := 2) (by omega) (.int .i64 0)).setCell (b := R) (o := 3) (by omega) (.slice none 0 0))).drew1⟩
set_option maxHeartbeats 1000000 in
theorem frame_long (a : Option Addr) (n c : Nat) (hs : ¬ ((n : Int) < 14)) (hl : (1514 : Int) < (n : Nat)) {w : World} {a0 a1 a2 : Addr} (sn : Sen w a0 a1 a2) :
    Calls Tryd.prog 22 #[.slice a n c] w fun e w' => e = .returned (.tuple #[.agg #[.slice none 0 0, .slice none 0 0, .int .i64 0, .slice none 0 0], rsV ⟨#[102, 114, 97, 109, 101]⟩ n a1]) ∧ Grew w w' := by
  have g0 : Grew w (w.alloc (.cells #[.slice none 0 0, .slice none 0 0, .int .i64 0, .slice none 0 0] 25)) := (Grew.refl w).alloc _
  have hR : Blk (w.alloc (.cells #[.slice none 0 0, .slice none 0 0, .int .i64 0, .slice none 0 0] 25)) w.heap.size #[.slice none 0 0, .slice none 0 0, .int .i64 0, .slice none 0 0] 25 := Blk.new _ _ _ _ rfl
  have sg := (sn.grew g0).c1
  have hne : 1 ≠ w.heap.size := Nat.ne_of_lt sn.z1
  go_enter Tryd.func22, Tryd.ntmps22
  go_upto_region 1 with fail
  generalize (w.alloc (.cells #[.slice none 0 0, .slice none 0 0, .int .i64 0, .slice none 0 0] 25)) = w1 at *
  generalize hRe : w.heap.size = R at *
  have y0 := hR.cell 0
  have f0 := hR.free 0
  have y1 := hR.cell 1
  have f1 := hR.free 1
  have y2 := hR.cell 2
  have f2 := hR.free 2
  have y3 := hR.cell 3
  have f3 := hR.free 3
  go_upto_region 4 with fail
  refine wp_region_held_drew (S := fun w' => w'.cell? ⟨1, 0, none⟩ = some (erV a1)) (by kernel_rfl) (by exact sg) (fun hHeld => ?_)
  first
    | (refine wpAnyH_take (i := 0) (v := ?_) rfl (by kernel_rfl) (by kernel_rfl) (by kernel_rfl) (fun _ _ _ h => h) (Or.inl ⟨by rfl, ?_⟩) (by assumption) ?_; rotate_left; (intro wq hSw; (try dsimp only at hSw); go_simp; try with_reducible rfl))
    | (refine wpAnyH_take (i := 0) (v := undef) rfl (by kernel_rfl) (by kernel_rfl) (by kernel_rfl) (fun _ _ _ h => h) (Or.inr ⟨by rfl, rfl⟩) (by assumption) ?_)
  try simp only [List.getElem_toArray, List.getElem_cons_succ, List.getElem_cons_zero, Act.put, List.setIfInBounds_toArray, List.set_cons_zero, List.set_cons_succ]
  first
    | (refine wpAnyH_take (i := 1) (v := ?_) rfl (by kernel_rfl) (by kernel_rfl) (by kernel_rfl) (fun _ _ _ h => h) (Or.inl ⟨by rfl, ?_⟩) (by assumption) ?_; rotate_left; (intro wq hSw; (try dsimp only at hSw); go_simp; try with_reducible rfl))
    | (refine wpAnyH_take (i := 1) (v := undef) rfl (by kernel_rfl) (by kernel_rfl) (by kernel_rfl) (fun _ _ _ h => h) (Or.inr ⟨by rfl, rfl⟩) (by assumption) ?_)
  try simp only [List.getElem_toArray, List.getElem_cons_succ, List.getElem_cons_zero, Act.put, List.setIfInBounds_toArray, List.set_cons_zero, List.set_cons_succ]
  first
    | (refine wpAnyH_take (i := 2) (v := ?_) rfl (by kernel_rfl) (by kernel_rfl) (by kernel_rfl) (fun _ _ _ h => h) (Or.inl ⟨by rfl, ?_⟩) (by assumption) ?_; rotate_left; (intro wq hSw; (try dsimp only at hSw); go_simp; try with_reducible rfl))
    | (refine wpAnyH_take (i := 2) (v := undef) rfl (by kernel_rfl) (by kernel_rfl) (by kernel_rfl) (fun _ _ _ h => h) (Or.inr ⟨by rfl, rfl⟩) (by assumption) ?_)
  try simp only [List.getElem_toArray, List.getElem_cons_succ, List.getElem_cons_zero, Act.put, List.setIfInBounds_toArray, List.set_cons_zero, List.set_cons_succ]
  first
    | (refine wpAnyH_take (i := 3) (v := ?_) rfl (by kernel_rfl) (by kernel_rfl) (by kernel_rfl) (fun _ _ _ h => h) (Or.inl ⟨by rfl, ?_⟩) (by assumption) ?_; rotate_left; (intro wq hSw; (try dsimp only at hSw); go_simp; try with_reducible rfl))
    | (refine wpAnyH_take (i := 3) (v := undef) rfl (by kernel_rfl) (by kernel_rfl) (by kernel_rfl) (fun _ _ _ h => h) (Or.inr ⟨by rfl, rfl⟩) (by assumption) ?_)
  try simp only [List.getElem_toArray, List.getElem_cons_succ, List.getElem_cons_zero, Act.put, List.setIfInBounds_toArray, List.set_cons_zero, List.set_cons_succ]
  first
    | (refine wpAnyH_take (i := 4) (v := ?_) rfl (by kernel_rfl) (by kernel_rfl) (by kernel_rfl) (fun _ _ _ h => h) (Or.inl ⟨by rfl, ?_⟩) (by assumption) ?_; rotate_left; (intro wq hSw; (try dsimp only at hSw); go_simp; try with_reducible rfl))
    | (refine wpAnyH_take (i := 4) (v := undef) rfl (by kernel_rfl) (by kernel_rfl) (by kernel_rfl) (fun _ _ _ h => h) (Or.inr ⟨by rfl, rfl⟩) (by assumption) ?_)
  try simp only [List.getElem_toArray, List.getElem_cons_succ, List.getElem_cons_zero, Act.put, List.setIfInBounds_toArray, List.set_cons_zero, List.set_cons_succ]
  first
    | (refine wpAnyH_take (i := 5) (v := ?_) rfl (by kernel_rfl) (by kernel_rfl) (by kernel_rfl) (fun _ _ _ h => h) (Or.inl ⟨by rfl, ?_⟩) (by assumption) ?_; rotate_left; (intro wq hSw; (try dsimp only at hSw); go_simp; try with_reducible rfl))
    | (refine wpAnyH_take (i := 5) (v := undef) rfl (by kernel_rfl) (by kernel_rfl) (by kernel_rfl) (fun _ _ _ h => h) (Or.inr ⟨by rfl, rfl⟩) (by assumption) ?_)
  try simp only [List.getElem_toArray, List.getElem_cons_succ, List.getElem_cons_zero, Act.put, List.setIfInBounds_toArray, List.set_cons_zero, List.set_cons_succ]
  refine wpAnyH_ready (rs := [6]) (by kernel_rfl) (by simp) ?_
  refine AllReadyH.cons rfl (fun K hK => ?_) AllReadyH.nil
  go_simp
  refine hK.out _ _ (by refine cell_drew ?_; (repeat refine cell_else ?_ hne); exact sg) (fun hHeld => ?_)
  clear hK K
  try simp only [List.getElem_toArray, List.getElem_cons_succ, List.getElem_cons_zero, Act.put, List.setIfInBounds_toArray, List.set_cons_zero, List.set_cons_succ]
  first
    | (refine wpAnyH_take (i := 7) (v := ?_) rfl (by kernel_rfl) (by kernel_rfl) (by kernel_rfl) (fun _ _ _ h => h) (Or.inl ⟨by rfl, ?_⟩) (by assumption) ?_; rotate_left; (intro wq hSw; (try dsimp only at hSw); go_simp; try with_reducible rfl))
    | (refine wpAnyH_take (i := 7) (v := undef) rfl (by kernel_rfl) (by kernel_rfl) (by kernel_rfl) (fun _ _ _ h => h) (Or.inr ⟨by rfl, rfl⟩) (by assumption) ?_)
  try simp only [List.getElem_toArray, List.getElem_cons_succ, List.getElem_cons_zero, Act.put, List.setIfInBounds_toArray, List.set_cons_zero, List.set_cons_succ]
  refine wpAnyH_done (by kernel_rfl) ?_ _
  try simp only [List.getElem_toArray, List.getElem_cons_succ, List.getElem_cons_zero, Act.put, List.setIfInBounds_toArray, List.set_cons_zero, List.set_cons_succ]
  go_wp2_with fail
  have z0 := ((((hR.set (o := 0) (.slice none 0 0)).set (o := 1) (.slice none 0 0)).set (o := 2) (.int .i64 0)).set (o := 3) (.slice none 0 0)).cell 0
  have z1 := ((((hR.set (o := 0) (.slice none 0 0)).set (o := 1) (.slice none 0 0)).set (o := 2) (.int .i64 0)).set (o := 3) (.slice none 0 0)).cell 1
  have z2 := ((((hR.set (o := 0) (.slice none 0 0)).set (o := 1) (.slice none 0 0)).set (o := 2) (.int .i64 0)).set (o := 3) (.slice none 0 0)).cell 2
  have z3 := ((((hR.set (o := 0) (.slice none 0 0)).set (o := 1) (.slice none 0 0)).set (o := 2) (.int .i64 0)).set (o := 3) (.slice none 0 0)).cell 3
  exact bodyPost_ret (v := .tuple #[.agg #[.slice none 0 0, .slice none 0 0, .int .i64 0, .slice none 0 0], rsV ⟨#[102, 114, 97, 109, 101]⟩ n a1]) (by simp [results, Tryd.results22, go_sem, z0, z1, z2, z3]) rfl ⟨rfl, (((((g0.setCell (b := R) (o := 0) (by omega) (.slice none 0 0)).setCell (b := R) (o := 1) (by omega) (.slice none 0 0)).setCell (b := R) (o := 2) (by omega) (.int .i64 0)).setCell (b := R) (o := 3) (by omega) (.slice none 0 0))).drew1⟩
set_option maxHeartbeats 1000000 in
theorem message_short (a : Option Addr) (n c : Nat) (hs : (n : Int) < 28) {w : World} {a0 a1 a2 : Addr} (sn : Sen w a0 a1 a2) :
    Calls Tryd.prog 27 #[.slice a n c] w fun e w' => e = .returned (.tuple #[.agg #[.int .i64 0, .slice none 0 0, .int .u32 0, .slice none 0 0, .int .u32 0], rsV ⟨#[109, 101, 115, 115, 97, 103, 101]⟩ n a0]) ∧ Grew w w' := by
  have g0 : Grew w (w.alloc (.cells #[.int .i64 0, .slice none 0 0, .int .u32 0, .slice none 0 0, .int .u32 0] 34)) := (Grew.refl w).alloc _
  have hR : Blk (w.alloc (.cells #[.int .i64 0, .slice none 0 0, .int .u32 0, .slice none 0 0, .int .u32 0] 34)) w.heap.size #[.int .i64 0, .slice none 0 0, .int .u32 0, .slice none 0 0, .int .u32 0] 34 := Blk.new _ _ _ _ rfl
  have sg := (sn.grew g0).c0
  have hne : 0 ≠ w.heap.size := Nat.ne_of_lt sn.z0
  go_enter Tryd.func27, Tryd.ntmps27
  go_upto_region 1 with fail
  generalize (w.alloc (.cells #[.int .i64 0, .slice none 0 0, .int .u32 0, .slice none 0 0, .int .u32 0] 34)) = w1 at *
  generalize hRe : w.heap.size = R at *
  have y0 := hR.cell 0
  have f0 := hR.free 0
  have y1 := hR.cell 1
  have f1 := hR.free 1
  have y2 := hR.cell 2
  have f2 := hR.free 2
  have y3 := hR.cell 3
  have f3 := hR.free 3
  have y4 := hR.cell 4
  have f4 := hR.free 4
  go_upto_region 2 with fail
  refine wp_region_held_drew (S := fun w' => w'.cell? ⟨0, 0, none⟩ = some (erV a0)) (by kernel_rfl) (by exact sg) (fun hHeld => ?_)
  first
    | (refine wpAnyH_take (i := 0) (v := ?_) rfl (by kernel_rfl) (by kernel_rfl) (by kernel_rfl) (fun _ _ _ h => h) (Or.inl ⟨by rfl, ?_⟩) (by assumption) ?_; rotate_left; (intro wq hSw; (try dsimp only at hSw); go_simp; try with_reducible rfl))
    | (refine wpAnyH_take (i := 0) (v := undef) rfl (by kernel_rfl) (by kernel_rfl) (by kernel_rfl) (fun _ _ _ h => h) (Or.inr ⟨by rfl, rfl⟩) (by assumption) ?_)
  try simp only [List.getElem_toArray, List.getElem_cons_succ, List.getElem_cons_zero, Act.put, List.setIfInBounds_toArray, List.set_cons_zero, List.set_cons_succ]
  first
    | (refine wpAnyH_take (i := 1) (v := ?_) rfl (by kernel_rfl) (by kernel_rfl) (by kernel_rfl) (fun _ _ _ h => h) (Or.inl ⟨by rfl, ?_⟩) (by assumption) ?_; rotate_left; (intro wq hSw; (try dsimp only at hSw); go_simp; try with_reducible rfl))
    | (refine wpAnyH_take (i := 1) (v := undef) rfl (by kernel_rfl) (by kernel_rfl) (by kernel_rfl) (fun _ _ _ h => h) (Or.inr ⟨by rfl, rfl⟩) (by assumption) ?_)
  try simp only [List.getElem_toArray, List.getElem_cons_succ, List.getElem_cons_zero, Act.put, List.setIfInBounds_toArray, List.set_cons_zero, List.set_cons_succ]
  first
    | (refine wpAnyH_take (i := 2) (v := ?_) rfl (by kernel_rfl) (by kernel_rfl) (by kernel_rfl) (fun _ _ _ h => h) (Or.inl ⟨by rfl, ?_⟩) (by assumption) ?_; rotate_left; (intro wq hSw; (try dsimp only at hSw); go_simp; try with_reducible rfl))
    | (refine wpAnyH_take (i := 2) (v := undef) rfl (by kernel_rfl) (by kernel_rfl) (by kernel_rfl) (fun _ _ _ h => h) (Or.inr ⟨by rfl, rfl⟩) (by assumption) ?_)
  try simp only [List.getElem_toArray, List.getElem_cons_succ, List.getElem_cons_zero, Act.put, List.setIfInBounds_toArray, List.set_cons_zero, List.set_cons_succ]
  first
    | (refine wpAnyH_take (i := 3) (v := ?_) rfl (by kernel_rfl) (by kernel_rfl) (by kernel_rfl) (fun _ _ _ h => h) (Or.inl ⟨by rfl, ?_⟩) (by assumption) ?_; rotate_left; (intro wq hSw; (try dsimp only at hSw); go_simp; try with_reducible rfl))
    | (refine wpAnyH_take (i := 3) (v := undef) rfl (by kernel_rfl) (by kernel_rfl) (by kernel_rfl) (fun _ _ _ h => h) (Or.inr ⟨by rfl, rfl⟩) (by assumption) ?_)
  try simp only [List.getElem_toArray, List.getElem_cons_succ, List.getElem_cons_zero, Act.put, List.setIfInBounds_toArray, List.set_cons_zero, List.set_cons_succ]
  first
    | (refine wpAnyH_take (i := 4) (v := ?_) rfl (by kernel_rfl) (by kernel_rfl) (by kernel_rfl) (fun _ _ _ h => h) (Or.inl ⟨by rfl, ?_⟩) (by assumption) ?_; rotate_left; (intro wq hSw; (try dsimp only at hSw); go_simp; try with_reducible rfl))
    | (refine wpAnyH_take (i := 4) (v := undef) rfl (by kernel_rfl) (by kernel_rfl) (by kernel_rfl) (fun _ _ _ h => h) (Or.inr ⟨by rfl, rfl⟩) (by assumption) ?_)
  try simp only [List.getElem_toArray, List.getElem_cons_succ, List.getElem_cons_zero, Act.put, List.setIfInBounds_toArray, List.set_cons_zero, List.set_cons_succ]
  first
    | (refine wpAnyH_take (i := 5) (v := ?_) rfl (by kernel_rfl) (by kernel_rfl) (by kernel_rfl) (fun _ _ _ h => h) (Or.inl ⟨by rfl, ?_⟩) (by assumption) ?_; rotate_left; (intro wq hSw; (try dsimp only at hSw); go_simp; try with_reducible rfl))
    | (refine wpAnyH_take (i := 5) (v := undef) rfl (by kernel_rfl) (by kernel_rfl) (by kernel_rfl) (fun _ _ _ h => h) (Or.inr ⟨by rfl, rfl⟩) (by assumption) ?_)
  try simp only [List.getElem_toArray, List.getElem_cons_succ, List.getElem_cons_zero, Act.put, List.setIfInBounds_toArray, List.set_cons_zero, List.set_cons_succ]
  refine wpAnyH_ready (rs := [6]) (by kernel_rfl) (by simp) ?_
  refine AllReadyH.cons rfl (fun K hK => ?_) AllReadyH.nil
  go_simp
  refine hK.out _ _ (by refine cell_drew ?_; (repeat refine cell_else ?_ hne); exact sg) (fun hHeld => ?_)
  clear hK K
  try simp only [List.getElem_toArray, List.getElem_cons_succ, List.getElem_cons_zero, Act.put, List.setIfInBounds_toArray, List.set_cons_zero, List.set_cons_succ]
  first
    | (refine wpAnyH_take (i := 7) (v := ?_) rfl (by kernel_rfl) (by kernel_rfl) (by kernel_rfl) (fun _ _ _ h => h) (Or.inl ⟨by rfl, ?_⟩) (by assumption) ?_; rotate_left; (intro wq hSw; (try dsimp only at hSw); go_simp; try with_reducible rfl))
    | (refine wpAnyH_take (i := 7) (v := undef) rfl (by kernel_rfl) (by kernel_rfl) (by kernel_rfl) (fun _ _ _ h => h) (Or.inr ⟨by rfl, rfl⟩) (by assumption) ?_)
  try simp only [List.getElem_toArray, List.getElem_cons_succ, List.getElem_cons_zero, Act.put, List.setIfInBounds_toArray, List.set_cons_zero, List.set_cons_succ]
  refine wpAnyH_done (by kernel_rfl) ?_ _
  try simp only [List.getElem_toArray, List.getElem_cons_succ, List.getElem_cons_zero, Act.put, List.setIfInBounds_toArray, List.set_cons_zero, List.set_cons_succ]
  go_wp2_with fail
  have z0 := (((((hR.set (o := 0) (.int .i64 0)).set (o := 1) (.slice none 0 0)).set (o := 2) (.int .u32 0)).set (o := 3) (.slice none 0 0)).set (o := 4) (.int .u32 0)).cell 0
  have z1 := (((((hR.set (o := 0) (.int .i64 0)).set (o := 1) (.slice none 0 0)).set (o := 2) (.int .u32 0)).set (o := 3) (.slice none 0 0)).set (o := 4) (.int .u32 0)).cell 1
  have z2 := (((((hR.set (o := 0) (.int .i64 0)).set (o := 1) (.slice none 0 0)).set (o := 2) (.int .u32 0)).set (o := 3) (.slice none 0 0)).set (o := 4) (.int .u32 0)).cell 2
  have z3 := (((((hR.set (o := 0) (.int .i64 0)).set (o := 1) (.slice none 0 0)).set (o := 2) (.int .u32 0)).set (o := 3) (.slice none 0 0)).set (o := 4) (.int .u32 0)).cell 3
  have z4 := (((((hR.set (o := 0) (.int .i64 0)).set (o := 1) (.slice none 0 0)).set (o := 2) (.int .u32 0)).set (o := 3) (.slice none 0 0)).set (o := 4) (.int .u32 0)).cell 4
  exact bodyPost_ret (v := .tuple #[.agg #[.int .i64 0, .slice none 0 0, .int .u32 0, .slice none 0 0, .int .u32 0], rsV ⟨#[109, 101, 115, 115, 97, 103, 101]⟩ n a0]) (by simp [results, Tryd.results27, go_sem, z0, z1, z2, z3, z4]) rfl ⟨rfl, ((((((g0.setCell (b := R) (o := 0) (by omega) (.int .i64 0)).setCell (b := R) (o := 1) (by omega) (.slice none 0 0)).setCell (b := R) (o := 2) (by omega) (.int .u32 0)).setCell (b := R) (o := 3) (by omega) (.slice none 0 0)).setCell (b := R) (o := 4) (by omega) (.int .u32 0))).drew1⟩
end Go.Proofs.YtolfaelalmmefaaDoor
