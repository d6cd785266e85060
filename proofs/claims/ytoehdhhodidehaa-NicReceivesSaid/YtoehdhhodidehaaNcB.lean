/-
  Package nic: where a ring's descriptor is, whether it waits, what a store of its length or tail makes; parts of a descriptor.
-/
import Derived.Test.YtoehdhhodidehaaRows
import Derived.Test.YtoehdhhodidehaaNcA
import Derived.WalkKit
import Derived.Outline
import Derived.Handy
import Derived.StillTailTactics
import Derived.Deep.QuietTactic
import Derived.BigQuiet
import Derived.Deep.DeepCutAuto
import Derived.Deep.RegionHeld3
import Derived.Great.BuildSlice
import Derived.Deep.WholeRow
import Derived.Lib.SliceRun
set_option maxRecDepth 4000
set_option linter.unusedVariables false
set_option linter.unusedSimpArgs false
namespace Go.Proofs.Ytoehdhhodidehaa
open Go.RowKit

theorem place_t {c : Nat → Int} {p : Nat} {w : World} (hB : Blk w p (rgA c) 80) (h0 : 0 ≤ c 3) (h1 : c 3 < 4294967296) (h2 : 0 ≤ c 5) (h3 : c 5 < 64) : Calls Try.prog 72 #[.pointer (some ⟨p, 0, none⟩), .agg (rgVt)] w fun e w' => e = .returned (.int .u64 (c 3 + 16 * c 5)) ∧ Grew w w' := by
  have hp := hB.lt
  have hw : IntKind.u64.wrap (16 * c 5) = 16 * c 5 := IntWalk.u64_in _ (by omega)
  have hw2 : IntKind.u64.wrap (c 3 + 16 * c 5) = c 3 + 16 * c 5 := IntWalk.u64_in _ (by omega)
  have hx1 : IntKind.u64.wrap (c 3) = c 3 := IntWalk.u64_in _ (by omega)
  have hx2 : IntKind.u64.wrap (c 5) = c 5 := IntWalk.u64_in _ (by omega)
  go_enter Try.func72, Try.ntmps72
  go_upto_region 1 with fail
  have kG : Blk (w.alloc (.cells rgVt 82)) w.heap.size rgVt 82 := Blk.new _ _ _ _ rfl
  have g0 := (Grew.refl w).alloc (.cells rgVt 82)
  replace hB := hB.alloc (.cells rgVt 82)
  generalize w.alloc (.cells rgVt 82) = w0 at *
  generalize w.heap.size = D at *
  have z0 := fun z : Over w0 => hB.rgO 3 (by decide) z
  have z1 := fun z : Over w0 => hB.rgO 5 (by decide) z
  have z2 := fun z : Over w0 => kG.overCell 0 (.int .i64 3) rfl z
  have z3 := fun z : Over w0 => kG.overCell 2 (.int .i64 5) rfl z
  refine region_over (by kernel_rfl) (by kernel_rfl) ?_
  repeat (first | go_big_quiet_step (fail) | quiet_step (fail))
  refine wpQuiet_nil ?_
  intro z
  go_wp2_with fail
  go_ret
  exact ⟨rfl, g0.trans z.g⟩
def waitst (c : Nat → Int) : Bool := bitB 1 (c 0) && (c 5 != c 6)
set_option maxHeartbeats 1000000 in
theorem waits_t {c : Nat → Int} {p : Nat} {w : World} (hB : Blk w p (rgA c) 80) (h0 : 0 ≤ c 0) (h1 : c 0 < 8) : Calls Try.prog 55 #[.pointer (some ⟨p, 0, none⟩), .agg (rgVt)] w fun e w' => e = .returned (.bool (waitst c)) ∧ Grew w w' := by
  have hp := hB.lt
  unfold waitst
  have hH := fun (w : World) (h : Blk w p (rgA c) 80) => has_1 h h0 h1
  have HH := Lib.hid hH
  clear h0 h1 hH
  generalize bitB 1 (c 0) = v at *
  cases v <;> cases hd : (c 5 != c 6)
  all_goals
    go_enter Try.func55, Try.ntmps55
    go_upto_region 1 with fail
    have kG : Blk (w.alloc (.cells rgVt 82)) w.heap.size rgVt 82 := Blk.new _ _ _ _ rfl
    have g0 := (Grew.refl w).alloc (.cells rgVt 82)
    replace hB := hB.alloc (.cells rgVt 82)
    generalize w.alloc (.cells rgVt 82) = w0 at *
    generalize w.heap.size = D at *
    have z0 := fun z : Over w0 => hB.rgO 5 (by decide) z
    have z1 := fun z : Over w0 => hB.rgO 6 (by decide) z
    have z2 := fun z : Over w0 => kG.overCell 2 (.int .i64 5) rfl z
    have z3 := fun z : Over w0 => kG.overCell 3 (.int .i64 6) rfl z
    have z4 := fun z : Over w0 => kG.overCell 4 (.int .u32 1) rfl z
    refine region_over (by kernel_rfl) (by kernel_rfl) ?_
    repeat (first | go_big_quiet_step ((first | (go_at_call 75; with_reducible exact over_same (HH.out _ (hB.over _))))) | quiet_step ((first | (go_at_call 75; with_reducible exact over_same (HH.out _ (hB.over _))))))
    refine wpQuiet_nil ?_
    intro z
    go_wp2_with fail
    go_ret
    exact ⟨rfl, g0.trans z.g⟩
def begint (y : Int) (c : Nat → Int) : Nat → Int := if lenB y then upd (upd (upd c 4 y) 5 0) 6 0 else c
theorem begin_t_no {c : Nat → Int} {p : Nat} {w : World} (hB : Blk w p (rgA c) 80) (y : Int) (h0 : 0 ≤ y) (h1 : y < 4294967296) (hy : lenB y = false) : Calls Try.prog 65 #[.pointer (some ⟨p, 0, none⟩), .agg (rgVt), .int .u32 y] w fun e w' => e = .returned (.tuple #[]) ∧ Blk w' p (rgA c) 80 ∧ Trn p w w' := by
  have hL := isLength_b y
  rw [hy] at hL
  have HL := Lib.hid hL
  have hw : IntKind.i64.wrap y = y := IntWalk.i64_in _ (by omega)
  clear hL
  have hp := hB.lt
  go_enter Try.func65, Try.ntmps65
  go_upto_region 1 with fail
  have kG : Blk (w.alloc (.cells rgVt 82)) w.heap.size rgVt 82 := Blk.new _ _ _ _ rfl
  have g0 := (Grew.refl w).alloc (.cells rgVt 82)
  replace hB := hB.alloc (.cells rgVt 82)
  generalize w.alloc (.cells rgVt 82) = w0 at *
  generalize w.heap.size = D at *
  go_wp2_with (go_at_call 52; refine (HL.out _).mono ?_; rintro e w1 ⟨rfl, rfl⟩)
  go_end0
  exact ⟨rfl, hB, Trn.of_grew g0⟩
set_option maxHeartbeats 1000000 in
theorem begin_t_yes {c : Nat → Int} {p : Nat} {w : World} (hB : Blk w p (rgA c) 80) (y : Int) (h0 : 0 ≤ y) (h1 : y < 4294967296) (hy : lenB y = true) : Calls Try.prog 65 #[.pointer (some ⟨p, 0, none⟩), .agg (rgVt), .int .u32 y] w fun e w' => e = .returned (.tuple #[]) ∧ Blk w' p (rgA (upd (upd (upd c 4 y) 5 0) 6 0)) 80 ∧ Trn p w w' := by
  have hL := isLength_b y
  rw [hy] at hL
  have HL := Lib.hid hL
  have hw : IntKind.i64.wrap y = y := IntWalk.i64_in _ (by omega)
  clear hL
  have hp := hB.lt
  go_enter Try.func65, Try.ntmps65
  go_upto_region 1 with fail
  have kG : Blk (w.alloc (.cells rgVt 82)) w.heap.size rgVt 82 := Blk.new _ _ _ _ rfl
  have g0 := (Grew.refl w).alloc (.cells rgVt 82)
  replace hB := hB.alloc (.cells rgVt 82)
  generalize w.alloc (.cells rgVt 82) = w0 at *
  generalize w.heap.size = D at *
  have hne : D ≠ p := by omega
  go_upto_region 2 with (go_at_call 52; refine (HL.out _).mono ?_; rintro e w1 ⟨rfl, rfl⟩)
  have c0 := hB.rgC 4 (by decide)
  have c1 := hB.rgC 5 (by decide)
  have c2 := hB.rgC 6 (by decide)
  have f0 := hB.free 4
  have f1 := hB.free 5
  have f2 := hB.free 6
  have HB := Lib.hid hB
  have t0 : Trn p w w0.drew := Trn.of_grew g0.drew1
  replace HB : Hid (Blk w0.drew p (rgA c) 80) := Lib.hid HB.out.drew
  replace c0 : w0.drew.cell? ⟨p, 4, none⟩ = _ := c0
  replace c1 : w0.drew.cell? ⟨p, 5, none⟩ = _ := c1
  replace c2 : w0.drew.cell? ⟨p, 6, none⟩ = _ := c2
  replace f0 : w0.drew.frozen? ⟨p, 4, none⟩ = _ := f0
  replace f1 : w0.drew.frozen? ⟨p, 5, none⟩ = _ := f1
  replace f2 : w0.drew.frozen? ⟨p, 6, none⟩ = _ := f2
  clear hB
  refine wp_region_held_drew (S := fun w' => Blk w' D rgVt 82) (by kernel_rfl) (kG.drew) (fun hHeld => ?_)
  replace hHeld : Blk w0.drew D rgVt 82 := hHeld
  generalize w0.drew = wq0 at *
  refine wpAnyH_take (i := 0) (v := ?_) rfl (by kernel_rfl) (by kernel_rfl) (by kernel_rfl) (fun _ _ _ h => h) (Or.inl ⟨by rfl, ?_⟩) hHeld ?_
  rotate_left
  · intro wq hSw
    replace hSw : Blk wq D rgVt 82 := hSw
    go_simp
    try with_reducible rfl
  try simp only [List.getElem_toArray, List.getElem_cons_succ, List.getElem_cons_zero, Act.put, List.setIfInBounds_toArray, List.set_cons_zero, List.set_cons_succ]
  refine wpAnyH_take (i := 1) (v := ?_) rfl (by kernel_rfl) (by kernel_rfl) (by kernel_rfl) (fun _ _ _ h => h) (Or.inl ⟨by rfl, ?_⟩) hHeld ?_
  rotate_left
  · intro wq hSw
    replace hSw : Blk wq D rgVt 82 := hSw
    go_simp
    try with_reducible rfl
  try simp only [List.getElem_toArray, List.getElem_cons_succ, List.getElem_cons_zero, Act.put, List.setIfInBounds_toArray, List.set_cons_zero, List.set_cons_succ]
  refine wpAnyH_take (i := 2) (v := ?_) rfl (by kernel_rfl) (by kernel_rfl) (by kernel_rfl) (fun _ _ _ h => h) (Or.inl ⟨by rfl, ?_⟩) hHeld ?_
  rotate_left
  · intro wq hSw
    replace hSw : Blk wq D rgVt 82 := hSw
    have z0 : wq.cell? ⟨D, 1, none⟩ = some (.int .i64 4) := hSw.cell 1
    go_simp
    try with_reducible rfl
  try simp only [List.getElem_toArray, List.getElem_cons_succ, List.getElem_cons_zero, Act.put, List.setIfInBounds_toArray, List.set_cons_zero, List.set_cons_succ]
  refine wpAnyH_take (i := 3) (v := ?_) rfl (by kernel_rfl) (by kernel_rfl) (by kernel_rfl) (fun _ _ _ h => h) (Or.inl ⟨by rfl, ?_⟩) hHeld ?_
  rotate_left
  · intro wq hSw
    replace hSw : Blk wq D rgVt 82 := hSw
    go_simp
    try with_reducible rfl
  try simp only [List.getElem_toArray, List.getElem_cons_succ, List.getElem_cons_zero, Act.put, List.setIfInBounds_toArray, List.set_cons_zero, List.set_cons_succ]
  refine wpAnyH_take (i := 4) (v := ?_) rfl (by kernel_rfl) (by kernel_rfl) (by kernel_rfl) (fun _ _ _ h => h) (Or.inl ⟨by rfl, ?_⟩) hHeld ?_
  rotate_left
  · intro wq hSw
    replace hSw : Blk wq D rgVt 82 := hSw
    go_simp
    try with_reducible rfl
  try simp only [List.getElem_toArray, List.getElem_cons_succ, List.getElem_cons_zero, Act.put, List.setIfInBounds_toArray, List.set_cons_zero, List.set_cons_succ]
  refine wpAnyH_take (i := 5) (v := ?_) rfl (by kernel_rfl) (by kernel_rfl) (by kernel_rfl) (fun _ _ _ h => h) (Or.inl ⟨by rfl, ?_⟩) hHeld ?_
  rotate_left
  · intro wq hSw
    replace hSw : Blk wq D rgVt 82 := hSw
    have z0 : wq.cell? ⟨D, 2, none⟩ = some (.int .i64 5) := hSw.cell 2
    go_simp
    try with_reducible rfl
  try simp only [List.getElem_toArray, List.getElem_cons_succ, List.getElem_cons_zero, Act.put, List.setIfInBounds_toArray, List.set_cons_zero, List.set_cons_succ]
  refine wpAnyH_take (i := 6) (v := ?_) rfl (by kernel_rfl) (by kernel_rfl) (by kernel_rfl) (fun _ _ _ h => h) (Or.inl ⟨by rfl, ?_⟩) hHeld ?_
  rotate_left
  · intro wq hSw
    replace hSw : Blk wq D rgVt 82 := hSw
    go_simp
    try with_reducible rfl
  try simp only [List.getElem_toArray, List.getElem_cons_succ, List.getElem_cons_zero, Act.put, List.setIfInBounds_toArray, List.set_cons_zero, List.set_cons_succ]
  refine wpAnyH_take (i := 7) (v := ?_) rfl (by kernel_rfl) (by kernel_rfl) (by kernel_rfl) (fun _ _ _ h => h) (Or.inl ⟨by rfl, ?_⟩) hHeld ?_
  rotate_left
  · intro wq hSw
    replace hSw : Blk wq D rgVt 82 := hSw
    go_simp
    try with_reducible rfl
  try simp only [List.getElem_toArray, List.getElem_cons_succ, List.getElem_cons_zero, Act.put, List.setIfInBounds_toArray, List.set_cons_zero, List.set_cons_succ]
  refine wpAnyH_take (i := 8) (v := ?_) rfl (by kernel_rfl) (by kernel_rfl) (by kernel_rfl) (fun _ _ _ h => h) (Or.inl ⟨by rfl, ?_⟩) hHeld ?_
  rotate_left
  · intro wq hSw
    replace hSw : Blk wq D rgVt 82 := hSw
    have z0 : wq.cell? ⟨D, 3, none⟩ = some (.int .i64 6) := hSw.cell 3
    go_simp
    try with_reducible rfl
  try simp only [List.getElem_toArray, List.getElem_cons_succ, List.getElem_cons_zero, Act.put, List.setIfInBounds_toArray, List.set_cons_zero, List.set_cons_succ]
  refine wpAnyH_take (i := 9) (v := ?_) rfl (by kernel_rfl) (by kernel_rfl) (by kernel_rfl) (fun _ _ _ h => h) (Or.inl ⟨by rfl, ?_⟩) hHeld ?_
  rotate_left
  · intro wq hSw
    replace hSw : Blk wq D rgVt 82 := hSw
    go_simp
    try with_reducible rfl
  try simp only [List.getElem_toArray, List.getElem_cons_succ, List.getElem_cons_zero, Act.put, List.setIfInBounds_toArray, List.set_cons_zero, List.set_cons_succ]
  refine wpAnyH_take (i := 10) (v := ?_) rfl (by kernel_rfl) (by kernel_rfl) (by kernel_rfl) (fun _ _ _ h => h) (Or.inl ⟨by rfl, ?_⟩) hHeld ?_
  rotate_left
  · intro wq hSw
    replace hSw : Blk wq D rgVt 82 := hSw
    go_simp
    try with_reducible rfl
  try simp only [List.getElem_toArray, List.getElem_cons_succ, List.getElem_cons_zero, Act.put, List.setIfInBounds_toArray, List.set_cons_zero, List.set_cons_succ]
  refine wpAnyH_take (i := 11) (v := ?_) rfl (by kernel_rfl) (by kernel_rfl) (by kernel_rfl) (fun _ _ _ h => h) (Or.inl ⟨by rfl, ?_⟩) hHeld ?_
  rotate_left
  · intro wq hSw
    replace hSw : Blk wq D rgVt 82 := hSw
    go_simp
    try with_reducible rfl
  try simp only [List.getElem_toArray, List.getElem_cons_succ, List.getElem_cons_zero, Act.put, List.setIfInBounds_toArray, List.set_cons_zero, List.set_cons_succ]
  refine wpAnyH_take (i := 13) (v := ?_) rfl (by kernel_rfl) (by kernel_rfl) (by kernel_rfl) (fun _ _ _ h => h) (Or.inl ⟨by rfl, ?_⟩) hHeld ?_
  rotate_left
  · intro wq hSw
    replace hSw : Blk wq D rgVt 82 := hSw
    go_simp
    try with_reducible rfl
  try simp only [List.getElem_toArray, List.getElem_cons_succ, List.getElem_cons_zero, Act.put, List.setIfInBounds_toArray, List.set_cons_zero, List.set_cons_succ]
  refine wpAnyH_take (i := 16) (v := ?_) rfl (by kernel_rfl) (by kernel_rfl) (by kernel_rfl) (fun _ _ _ h => h) (Or.inl ⟨by rfl, ?_⟩) hHeld ?_
  rotate_left
  · intro wq hSw
    replace hSw : Blk wq D rgVt 82 := hSw
    go_simp
    try with_reducible rfl
  try simp only [List.getElem_toArray, List.getElem_cons_succ, List.getElem_cons_zero, Act.put, List.setIfInBounds_toArray, List.set_cons_zero, List.set_cons_succ]
  refine wpAnyH_ready (rs := [12]) (by kernel_rfl) (by simp) ?_
  refine AllReadyH.cons rfl (fun K hK => ?_) AllReadyH.nil
  go_simp
  refine hK.out _ _ (by exact hHeld.other hne _) (fun hHeld => ?_)
  clear hK K
  try simp only [List.getElem_toArray, List.getElem_cons_succ, List.getElem_cons_zero, Act.put, List.setIfInBounds_toArray, List.set_cons_zero, List.set_cons_succ]
  refine wpAnyH_take (i := 14) (v := ?_) rfl (by kernel_rfl) (by kernel_rfl) (by kernel_rfl) (fun _ _ _ h => h) (Or.inl ⟨by rfl, ?_⟩) hHeld ?_
  rotate_left
  · intro wq hSw
    replace hSw : Blk wq D rgVt 82 := hSw
    go_simp
    try with_reducible rfl
  try simp only [List.getElem_toArray, List.getElem_cons_succ, List.getElem_cons_zero, Act.put, List.setIfInBounds_toArray, List.set_cons_zero, List.set_cons_succ]
  refine wpAnyH_ready (rs := [15]) (by kernel_rfl) (by simp) ?_
  refine AllReadyH.cons rfl (fun K hK => ?_) AllReadyH.nil
  go_simp
  refine hK.out _ _ (by exact hHeld.other hne _) (fun hHeld => ?_)
  clear hK K
  try simp only [List.getElem_toArray, List.getElem_cons_succ, List.getElem_cons_zero, Act.put, List.setIfInBounds_toArray, List.set_cons_zero, List.set_cons_succ]
  refine wpAnyH_take (i := 17) (v := ?_) rfl (by kernel_rfl) (by kernel_rfl) (by kernel_rfl) (fun _ _ _ h => h) (Or.inl ⟨by rfl, ?_⟩) hHeld ?_
  rotate_left
  · intro wq hSw
    replace hSw : Blk wq D rgVt 82 := hSw
    go_simp
    try with_reducible rfl
  try simp only [List.getElem_toArray, List.getElem_cons_succ, List.getElem_cons_zero, Act.put, List.setIfInBounds_toArray, List.set_cons_zero, List.set_cons_succ]
  refine wpAnyH_ready (rs := [18]) (by kernel_rfl) (by simp) ?_
  refine AllReadyH.cons rfl (fun K hK => ?_) AllReadyH.nil
  go_simp
  refine hK.out _ _ (by exact hHeld.other hne _) (fun hHeld => ?_)
  clear hK K
  try simp only [List.getElem_toArray, List.getElem_cons_succ, List.getElem_cons_zero, Act.put, List.setIfInBounds_toArray, List.set_cons_zero, List.set_cons_succ]
  refine wpAnyH_done (by kernel_rfl) ?_ _
  try simp only [List.getElem_toArray, List.getElem_cons_succ, List.getElem_cons_zero, Act.put, List.setIfInBounds_toArray, List.set_cons_zero, List.set_cons_succ]
  go_wp2_with fail
  go_end0
  exact ⟨rfl, ((HB.out.rg (by decide) y).rg (by decide) 0).rg (by decide) 0, ((t0.trans (Trn.set _ _ _ _)).trans (Trn.set _ _ _ _)).trans (Trn.set _ _ _ _)⟩
theorem begin_t {c : Nat → Int} {p : Nat} {w : World} (hB : Blk w p (rgA c) 80) (y : Int) (h0 : 0 ≤ y) (h1 : y < 4294967296) : Calls Try.prog 65 #[.pointer (some ⟨p, 0, none⟩), .agg (rgVt), .int .u32 y] w fun e w' => e = .returned (.tuple #[]) ∧ Blk w' p (rgA (begint y c)) 80 ∧ Trn p w w' := by
  unfold begint
  cases hy : lenB y
  · exact begin_t_no hB y h0 h1 hy
  · exact begin_t_yes hB y h0 h1 hy
def reacht (y : Int) (c : Nat → Int) : Nat → Int := if y < c 4 then upd c 6 y else c
set_option maxHeartbeats 1000000 in
theorem reach_t {c : Nat → Int} {p : Nat} {w : World} (hB : Blk w p (rgA c) 80) (y : Int) : Calls Try.prog 67 #[.pointer (some ⟨p, 0, none⟩), .agg (rgVt), .int .u32 y] w fun e w' => e = .returned (.tuple #[]) ∧ Blk w' p (rgA (reacht y c)) 80 ∧ Trn p w w' := by
  have hp := hB.lt
  unfold reacht
  by_cases hy : y < c 4
  · rw [if_pos hy]
    go_enter Try.func67, Try.ntmps67
    go_upto_region 1 with fail
    have kG : Blk (w.alloc (.cells rgVt 82)) w.heap.size rgVt 82 := Blk.new _ _ _ _ rfl
    have g0 := (Grew.refl w).alloc (.cells rgVt 82)
    replace hB := hB.alloc (.cells rgVt 82)
    generalize w.alloc (.cells rgVt 82) = w0 at *
    generalize w.heap.size = D at *
    have hne : D ≠ p := by omega
    have z0 := fun z : Over w0 => hB.rgO 4 (by decide) z
    have z1 := fun z : Over w0 => kG.overCell 1 (.int .i64 4) rfl z
    refine region_over (by kernel_rfl) (by kernel_rfl) ?_
    repeat (first | go_big_quiet_step (fail) | quiet_step (fail))
    refine wpQuiet_nil ?_
    intro z
    have kG1 := kG.over z
    have hB1 := hB.over z
    have g1 := g0.trans z.g
    clear z0 z1 kG hB g0
    generalize z.w = w1 at *
    go_upto_region 2 with fail
    have z1 := fun z : Over w1 => kG1.overCell 3 (.int .i64 6) rfl z
    refine region_over_tail 5 (by kernel_rfl) (by kernel_rfl) ?_
    simp only [List.take_succ_cons, List.take_zero, List.drop_succ_cons, List.drop_zero]
    repeat (first | go_big_quiet_step (fail) | quiet_step (fail))
    refine wpQuiet_nil ?_
    intro z
    have hB2 := hB1.over z
    have g2 := g1.trans z.g
    have c0 := hB2.rgC 6 (by decide)
    have f0 := hB2.free 6
    have HB2 := Lib.hid hB2
    clear z1 kG1 hB1 hB2 g1
    generalize z.w = w2 at *
    go_wp2_with fail
    go_end0
    exact ⟨rfl, HB2.out.rg (by decide) _, (Trn.of_grew g2).trans (Trn.set _ _ _ _)⟩
  · rw [if_neg hy]
    go_enter Try.func67, Try.ntmps67
    go_upto_region 1 with fail
    have kG : Blk (w.alloc (.cells rgVt 82)) w.heap.size rgVt 82 := Blk.new _ _ _ _ rfl
    have g0 := (Grew.refl w).alloc (.cells rgVt 82)
    replace hB := hB.alloc (.cells rgVt 82)
    generalize w.alloc (.cells rgVt 82) = w0 at *
    generalize w.heap.size = D at *
    have hne : D ≠ p := by omega
    have z0 := fun z : Over w0 => hB.rgO 4 (by decide) z
    have z1 := fun z : Over w0 => kG.overCell 1 (.int .i64 4) rfl z
    refine region_over (by kernel_rfl) (by kernel_rfl) ?_
    repeat (first | go_big_quiet_step (fail) | quiet_step (fail))
    refine wpQuiet_nil ?_
    intro z
    have kG1 := kG.over z
    have hB1 := hB.over z
    have g1 := g0.trans z.g
    clear z0 z1 kG hB g0
    generalize z.w = w1 at *
    go_wp2_with fail
    go_end0
    exact ⟨rfl, hB1, Trn.of_grew g1⟩
theorem place_r {c : Nat → Int} {p : Nat} {w : World} (hB : Blk w p (rgA c) 80) (h0 : 0 ≤ c 7) (h1 : c 7 < 4294967296) (h2 : 0 ≤ c 9) (h3 : c 9 < 64) : Calls Try.prog 72 #[.pointer (some ⟨p, 0, none⟩), .agg (rgVr)] w fun e w' => e = .returned (.int .u64 (c 7 + 16 * c 9)) ∧ Grew w w' := by
  have hp := hB.lt
  have hw : IntKind.u64.wrap (16 * c 9) = 16 * c 9 := IntWalk.u64_in _ (by omega)
  have hw2 : IntKind.u64.wrap (c 7 + 16 * c 9) = c 7 + 16 * c 9 := IntWalk.u64_in _ (by omega)
  have hx1 : IntKind.u64.wrap (c 7) = c 7 := IntWalk.u64_in _ (by omega)
  have hx2 : IntKind.u64.wrap (c 9) = c 9 := IntWalk.u64_in _ (by omega)
  go_enter Try.func72, Try.ntmps72
  go_upto_region 1 with fail
  have kG : Blk (w.alloc (.cells rgVr 82)) w.heap.size rgVr 82 := Blk.new _ _ _ _ rfl
  have g0 := (Grew.refl w).alloc (.cells rgVr 82)
  replace hB := hB.alloc (.cells rgVr 82)
  generalize w.alloc (.cells rgVr 82) = w0 at *
  generalize w.heap.size = D at *
  have z0 := fun z : Over w0 => hB.rgO 7 (by decide) z
  have z1 := fun z : Over w0 => hB.rgO 9 (by decide) z
  have z2 := fun z : Over w0 => kG.overCell 0 (.int .i64 7) rfl z
  have z3 := fun z : Over w0 => kG.overCell 2 (.int .i64 9) rfl z
  refine region_over (by kernel_rfl) (by kernel_rfl) ?_
  repeat (first | go_big_quiet_step (fail) | quiet_step (fail))
  refine wpQuiet_nil ?_
  intro z
  go_wp2_with fail
  go_ret
  exact ⟨rfl, g0.trans z.g⟩
def waitsr (c : Nat → Int) : Bool := bitB 2 (c 0) && (c 9 != c 10)
set_option maxHeartbeats 1000000 in
theorem waits_r {c : Nat → Int} {p : Nat} {w : World} (hB : Blk w p (rgA c) 80) (h0 : 0 ≤ c 0) (h1 : c 0 < 8) : Calls Try.prog 55 #[.pointer (some ⟨p, 0, none⟩), .agg (rgVr)] w fun e w' => e = .returned (.bool (waitsr c)) ∧ Grew w w' := by
  have hp := hB.lt
  unfold waitsr
  have hH := fun (w : World) (h : Blk w p (rgA c) 80) => has_2 h h0 h1
  have HH := Lib.hid hH
  clear h0 h1 hH
  generalize bitB 2 (c 0) = v at *
  cases v <;> cases hd : (c 9 != c 10)
  all_goals
    go_enter Try.func55, Try.ntmps55
    go_upto_region 1 with fail
    have kG : Blk (w.alloc (.cells rgVr 82)) w.heap.size rgVr 82 := Blk.new _ _ _ _ rfl
    have g0 := (Grew.refl w).alloc (.cells rgVr 82)
    replace hB := hB.alloc (.cells rgVr 82)
    generalize w.alloc (.cells rgVr 82) = w0 at *
    generalize w.heap.size = D at *
    have z0 := fun z : Over w0 => hB.rgO 9 (by decide) z
    have z1 := fun z : Over w0 => hB.rgO 10 (by decide) z
    have z2 := fun z : Over w0 => kG.overCell 2 (.int .i64 9) rfl z
    have z3 := fun z : Over w0 => kG.overCell 3 (.int .i64 10) rfl z
    have z4 := fun z : Over w0 => kG.overCell 4 (.int .u32 2) rfl z
    refine region_over (by kernel_rfl) (by kernel_rfl) ?_
    repeat (first | go_big_quiet_step ((first | (go_at_call 75; with_reducible exact over_same (HH.out _ (hB.over _))))) | quiet_step ((first | (go_at_call 75; with_reducible exact over_same (HH.out _ (hB.over _))))))
    refine wpQuiet_nil ?_
    intro z
    go_wp2_with fail
    go_ret
    exact ⟨rfl, g0.trans z.g⟩
def beginr (y : Int) (c : Nat → Int) : Nat → Int := if lenB y then upd (upd (upd c 8 y) 9 0) 10 0 else c
theorem begin_r_no {c : Nat → Int} {p : Nat} {w : World} (hB : Blk w p (rgA c) 80) (y : Int) (h0 : 0 ≤ y) (h1 : y < 4294967296) (hy : lenB y = false) : Calls Try.prog 65 #[.pointer (some ⟨p, 0, none⟩), .agg (rgVr), .int .u32 y] w fun e w' => e = .returned (.tuple #[]) ∧ Blk w' p (rgA c) 80 ∧ Trn p w w' := by
  have hL := isLength_b y
  rw [hy] at hL
  have HL := Lib.hid hL
  have hw : IntKind.i64.wrap y = y := IntWalk.i64_in _ (by omega)
  clear hL
  have hp := hB.lt
  go_enter Try.func65, Try.ntmps65
  go_upto_region 1 with fail
  have kG : Blk (w.alloc (.cells rgVr 82)) w.heap.size rgVr 82 := Blk.new _ _ _ _ rfl
  have g0 := (Grew.refl w).alloc (.cells rgVr 82)
  replace hB := hB.alloc (.cells rgVr 82)
  generalize w.alloc (.cells rgVr 82) = w0 at *
  generalize w.heap.size = D at *
  go_wp2_with (go_at_call 52; refine (HL.out _).mono ?_; rintro e w1 ⟨rfl, rfl⟩)
  go_end0
  exact ⟨rfl, hB, Trn.of_grew g0⟩
set_option maxHeartbeats 1000000 in
theorem begin_r_yes {c : Nat → Int} {p : Nat} {w : World} (hB : Blk w p (rgA c) 80) (y : Int) (h0 : 0 ≤ y) (h1 : y < 4294967296) (hy : lenB y = true) : Calls Try.prog 65 #[.pointer (some ⟨p, 0, none⟩), .agg (rgVr), .int .u32 y] w fun e w' => e = .returned (.tuple #[]) ∧ Blk w' p (rgA (upd (upd (upd c 8 y) 9 0) 10 0)) 80 ∧ Trn p w w' := by
  have hL := isLength_b y
  rw [hy] at hL
  have HL := Lib.hid hL
  have hw : IntKind.i64.wrap y = y := IntWalk.i64_in _ (by omega)
  clear hL
  have hp := hB.lt
  go_enter Try.func65, Try.ntmps65
  go_upto_region 1 with fail
  have kG : Blk (w.alloc (.cells rgVr 82)) w.heap.size rgVr 82 := Blk.new _ _ _ _ rfl
  have g0 := (Grew.refl w).alloc (.cells rgVr 82)
  replace hB := hB.alloc (.cells rgVr 82)
  generalize w.alloc (.cells rgVr 82) = w0 at *
  generalize w.heap.size = D at *
  have hne : D ≠ p := by omega
  go_upto_region 2 with (go_at_call 52; refine (HL.out _).mono ?_; rintro e w1 ⟨rfl, rfl⟩)
  have c0 := hB.rgC 8 (by decide)
  have c1 := hB.rgC 9 (by decide)
  have c2 := hB.rgC 10 (by decide)
  have f0 := hB.free 8
  have f1 := hB.free 9
  have f2 := hB.free 10
  have HB := Lib.hid hB
  have t0 : Trn p w w0.drew := Trn.of_grew g0.drew1
  replace HB : Hid (Blk w0.drew p (rgA c) 80) := Lib.hid HB.out.drew
  replace c0 : w0.drew.cell? ⟨p, 8, none⟩ = _ := c0
  replace c1 : w0.drew.cell? ⟨p, 9, none⟩ = _ := c1
  replace c2 : w0.drew.cell? ⟨p, 10, none⟩ = _ := c2
  replace f0 : w0.drew.frozen? ⟨p, 8, none⟩ = _ := f0
  replace f1 : w0.drew.frozen? ⟨p, 9, none⟩ = _ := f1
  replace f2 : w0.drew.frozen? ⟨p, 10, none⟩ = _ := f2
  clear hB
  refine wp_region_held_drew (S := fun w' => Blk w' D rgVr 82) (by kernel_rfl) (kG.drew) (fun hHeld => ?_)
  replace hHeld : Blk w0.drew D rgVr 82 := hHeld
  generalize w0.drew = wq0 at *
  refine wpAnyH_take (i := 0) (v := ?_) rfl (by kernel_rfl) (by kernel_rfl) (by kernel_rfl) (fun _ _ _ h => h) (Or.inl ⟨by rfl, ?_⟩) hHeld ?_
  rotate_left
  · intro wq hSw
    replace hSw : Blk wq D rgVr 82 := hSw
    go_simp
    try with_reducible rfl
  try simp only [List.getElem_toArray, List.getElem_cons_succ, List.getElem_cons_zero, Act.put, List.setIfInBounds_toArray, List.set_cons_zero, List.set_cons_succ]
  refine wpAnyH_take (i := 1) (v := ?_) rfl (by kernel_rfl) (by kernel_rfl) (by kernel_rfl) (fun _ _ _ h => h) (Or.inl ⟨by rfl, ?_⟩) hHeld ?_
  rotate_left
  · intro wq hSw
    replace hSw : Blk wq D rgVr 82 := hSw
    go_simp
    try with_reducible rfl
  try simp only [List.getElem_toArray, List.getElem_cons_succ, List.getElem_cons_zero, Act.put, List.setIfInBounds_toArray, List.set_cons_zero, List.set_cons_succ]
  refine wpAnyH_take (i := 2) (v := ?_) rfl (by kernel_rfl) (by kernel_rfl) (by kernel_rfl) (fun _ _ _ h => h) (Or.inl ⟨by rfl, ?_⟩) hHeld ?_
  rotate_left
  · intro wq hSw
    replace hSw : Blk wq D rgVr 82 := hSw
    have z0 : wq.cell? ⟨D, 1, none⟩ = some (.int .i64 8) := hSw.cell 1
    go_simp
    try with_reducible rfl
  try simp only [List.getElem_toArray, List.getElem_cons_succ, List.getElem_cons_zero, Act.put, List.setIfInBounds_toArray, List.set_cons_zero, List.set_cons_succ]
  refine wpAnyH_take (i := 3) (v := ?_) rfl (by kernel_rfl) (by kernel_rfl) (by kernel_rfl) (fun _ _ _ h => h) (Or.inl ⟨by rfl, ?_⟩) hHeld ?_
  rotate_left
  · intro wq hSw
    replace hSw : Blk wq D rgVr 82 := hSw
    go_simp
    try with_reducible rfl
  try simp only [List.getElem_toArray, List.getElem_cons_succ, List.getElem_cons_zero, Act.put, List.setIfInBounds_toArray, List.set_cons_zero, List.set_cons_succ]
  refine wpAnyH_take (i := 4) (v := ?_) rfl (by kernel_rfl) (by kernel_rfl) (by kernel_rfl) (fun _ _ _ h => h) (Or.inl ⟨by rfl, ?_⟩) hHeld ?_
  rotate_left
  · intro wq hSw
    replace hSw : Blk wq D rgVr 82 := hSw
    go_simp
    try with_reducible rfl
  try simp only [List.getElem_toArray, List.getElem_cons_succ, List.getElem_cons_zero, Act.put, List.setIfInBounds_toArray, List.set_cons_zero, List.set_cons_succ]
  refine wpAnyH_take (i := 5) (v := ?_) rfl (by kernel_rfl) (by kernel_rfl) (by kernel_rfl) (fun _ _ _ h => h) (Or.inl ⟨by rfl, ?_⟩) hHeld ?_
  rotate_left
  · intro wq hSw
    replace hSw : Blk wq D rgVr 82 := hSw
    have z0 : wq.cell? ⟨D, 2, none⟩ = some (.int .i64 9) := hSw.cell 2
    go_simp
    try with_reducible rfl
  try simp only [List.getElem_toArray, List.getElem_cons_succ, List.getElem_cons_zero, Act.put, List.setIfInBounds_toArray, List.set_cons_zero, List.set_cons_succ]
  refine wpAnyH_take (i := 6) (v := ?_) rfl (by kernel_rfl) (by kernel_rfl) (by kernel_rfl) (fun _ _ _ h => h) (Or.inl ⟨by rfl, ?_⟩) hHeld ?_
  rotate_left
  · intro wq hSw
    replace hSw : Blk wq D rgVr 82 := hSw
    go_simp
    try with_reducible rfl
  try simp only [List.getElem_toArray, List.getElem_cons_succ, List.getElem_cons_zero, Act.put, List.setIfInBounds_toArray, List.set_cons_zero, List.set_cons_succ]
  refine wpAnyH_take (i := 7) (v := ?_) rfl (by kernel_rfl) (by kernel_rfl) (by kernel_rfl) (fun _ _ _ h => h) (Or.inl ⟨by rfl, ?_⟩) hHeld ?_
  rotate_left
  · intro wq hSw
    replace hSw : Blk wq D rgVr 82 := hSw
    go_simp
    try with_reducible rfl
  try simp only [List.getElem_toArray, List.getElem_cons_succ, List.getElem_cons_zero, Act.put, List.setIfInBounds_toArray, List.set_cons_zero, List.set_cons_succ]
  refine wpAnyH_take (i := 8) (v := ?_) rfl (by kernel_rfl) (by kernel_rfl) (by kernel_rfl) (fun _ _ _ h => h) (Or.inl ⟨by rfl, ?_⟩) hHeld ?_
  rotate_left
  · intro wq hSw
    replace hSw : Blk wq D rgVr 82 := hSw
    have z0 : wq.cell? ⟨D, 3, none⟩ = some (.int .i64 10) := hSw.cell 3
    go_simp
    try with_reducible rfl
  try simp only [List.getElem_toArray, List.getElem_cons_succ, List.getElem_cons_zero, Act.put, List.setIfInBounds_toArray, List.set_cons_zero, List.set_cons_succ]
  refine wpAnyH_take (i := 9) (v := ?_) rfl (by kernel_rfl) (by kernel_rfl) (by kernel_rfl) (fun _ _ _ h => h) (Or.inl ⟨by rfl, ?_⟩) hHeld ?_
  rotate_left
  · intro wq hSw
    replace hSw : Blk wq D rgVr 82 := hSw
    go_simp
    try with_reducible rfl
  try simp only [List.getElem_toArray, List.getElem_cons_succ, List.getElem_cons_zero, Act.put, List.setIfInBounds_toArray, List.set_cons_zero, List.set_cons_succ]
  refine wpAnyH_take (i := 10) (v := ?_) rfl (by kernel_rfl) (by kernel_rfl) (by kernel_rfl) (fun _ _ _ h => h) (Or.inl ⟨by rfl, ?_⟩) hHeld ?_
  rotate_left
  · intro wq hSw
    replace hSw : Blk wq D rgVr 82 := hSw
    go_simp
    try with_reducible rfl
  try simp only [List.getElem_toArray, List.getElem_cons_succ, List.getElem_cons_zero, Act.put, List.setIfInBounds_toArray, List.set_cons_zero, List.set_cons_succ]
  refine wpAnyH_take (i := 11) (v := ?_) rfl (by kernel_rfl) (by kernel_rfl) (by kernel_rfl) (fun _ _ _ h => h) (Or.inl ⟨by rfl, ?_⟩) hHeld ?_
  rotate_left
  · intro wq hSw
    replace hSw : Blk wq D rgVr 82 := hSw
    go_simp
    try with_reducible rfl
  try simp only [List.getElem_toArray, List.getElem_cons_succ, List.getElem_cons_zero, Act.put, List.setIfInBounds_toArray, List.set_cons_zero, List.set_cons_succ]
  refine wpAnyH_take (i := 13) (v := ?_) rfl (by kernel_rfl) (by kernel_rfl) (by kernel_rfl) (fun _ _ _ h => h) (Or.inl ⟨by rfl, ?_⟩) hHeld ?_
  rotate_left
  · intro wq hSw
    replace hSw : Blk wq D rgVr 82 := hSw
    go_simp
    try with_reducible rfl
  try simp only [List.getElem_toArray, List.getElem_cons_succ, List.getElem_cons_zero, Act.put, List.setIfInBounds_toArray, List.set_cons_zero, List.set_cons_succ]
  refine wpAnyH_take (i := 16) (v := ?_) rfl (by kernel_rfl) (by kernel_rfl) (by kernel_rfl) (fun _ _ _ h => h) (Or.inl ⟨by rfl, ?_⟩) hHeld ?_
  rotate_left
  · intro wq hSw
    replace hSw : Blk wq D rgVr 82 := hSw
    go_simp
    try with_reducible rfl
  try simp only [List.getElem_toArray, List.getElem_cons_succ, List.getElem_cons_zero, Act.put, List.setIfInBounds_toArray, List.set_cons_zero, List.set_cons_succ]
  refine wpAnyH_ready (rs := [12]) (by kernel_rfl) (by simp) ?_
  refine AllReadyH.cons rfl (fun K hK => ?_) AllReadyH.nil
  go_simp
  refine hK.out _ _ (by exact hHeld.other hne _) (fun hHeld => ?_)
  clear hK K
  try simp only [List.getElem_toArray, List.getElem_cons_succ, List.getElem_cons_zero, Act.put, List.setIfInBounds_toArray, List.set_cons_zero, List.set_cons_succ]
  refine wpAnyH_take (i := 14) (v := ?_) rfl (by kernel_rfl) (by kernel_rfl) (by kernel_rfl) (fun _ _ _ h => h) (Or.inl ⟨by rfl, ?_⟩) hHeld ?_
  rotate_left
  · intro wq hSw
    replace hSw : Blk wq D rgVr 82 := hSw
    go_simp
    try with_reducible rfl
  try simp only [List.getElem_toArray, List.getElem_cons_succ, List.getElem_cons_zero, Act.put, List.setIfInBounds_toArray, List.set_cons_zero, List.set_cons_succ]
  refine wpAnyH_ready (rs := [15]) (by kernel_rfl) (by simp) ?_
  refine AllReadyH.cons rfl (fun K hK => ?_) AllReadyH.nil
  go_simp
  refine hK.out _ _ (by exact hHeld.other hne _) (fun hHeld => ?_)
  clear hK K
  try simp only [List.getElem_toArray, List.getElem_cons_succ, List.getElem_cons_zero, Act.put, List.setIfInBounds_toArray, List.set_cons_zero, List.set_cons_succ]
  refine wpAnyH_take (i := 17) (v := ?_) rfl (by kernel_rfl) (by kernel_rfl) (by kernel_rfl) (fun _ _ _ h => h) (Or.inl ⟨by rfl, ?_⟩) hHeld ?_
  rotate_left
  · intro wq hSw
    replace hSw : Blk wq D rgVr 82 := hSw
    go_simp
    try with_reducible rfl
  try simp only [List.getElem_toArray, List.getElem_cons_succ, List.getElem_cons_zero, Act.put, List.setIfInBounds_toArray, List.set_cons_zero, List.set_cons_succ]
  refine wpAnyH_ready (rs := [18]) (by kernel_rfl) (by simp) ?_
  refine AllReadyH.cons rfl (fun K hK => ?_) AllReadyH.nil
  go_simp
  refine hK.out _ _ (by exact hHeld.other hne _) (fun hHeld => ?_)
  clear hK K
  try simp only [List.getElem_toArray, List.getElem_cons_succ, List.getElem_cons_zero, Act.put, List.setIfInBounds_toArray, List.set_cons_zero, List.set_cons_succ]
  refine wpAnyH_done (by kernel_rfl) ?_ _
  try simp only [List.getElem_toArray, List.getElem_cons_succ, List.getElem_cons_zero, Act.put, List.setIfInBounds_toArray, List.set_cons_zero, List.set_cons_succ]
  go_wp2_with fail
  go_end0
  exact ⟨rfl, ((HB.out.rg (by decide) y).rg (by decide) 0).rg (by decide) 0, ((t0.trans (Trn.set _ _ _ _)).trans (Trn.set _ _ _ _)).trans (Trn.set _ _ _ _)⟩
theorem begin_r {c : Nat → Int} {p : Nat} {w : World} (hB : Blk w p (rgA c) 80) (y : Int) (h0 : 0 ≤ y) (h1 : y < 4294967296) : Calls Try.prog 65 #[.pointer (some ⟨p, 0, none⟩), .agg (rgVr), .int .u32 y] w fun e w' => e = .returned (.tuple #[]) ∧ Blk w' p (rgA (beginr y c)) 80 ∧ Trn p w w' := by
  unfold beginr
  cases hy : lenB y
  · exact begin_r_no hB y h0 h1 hy
  · exact begin_r_yes hB y h0 h1 hy
def reachr (y : Int) (c : Nat → Int) : Nat → Int := if y < c 8 then upd c 10 y else c
set_option maxHeartbeats 1000000 in
theorem reach_r {c : Nat → Int} {p : Nat} {w : World} (hB : Blk w p (rgA c) 80) (y : Int) : Calls Try.prog 67 #[.pointer (some ⟨p, 0, none⟩), .agg (rgVr), .int .u32 y] w fun e w' => e = .returned (.tuple #[]) ∧ Blk w' p (rgA (reachr y c)) 80 ∧ Trn p w w' := by
  have hp := hB.lt
  unfold reachr
  by_cases hy : y < c 8
  · rw [if_pos hy]
    go_enter Try.func67, Try.ntmps67
    go_upto_region 1 with fail
    have kG : Blk (w.alloc (.cells rgVr 82)) w.heap.size rgVr 82 := Blk.new _ _ _ _ rfl
    have g0 := (Grew.refl w).alloc (.cells rgVr 82)
    replace hB := hB.alloc (.cells rgVr 82)
    generalize w.alloc (.cells rgVr 82) = w0 at *
    generalize w.heap.size = D at *
    have hne : D ≠ p := by omega
    have z0 := fun z : Over w0 => hB.rgO 8 (by decide) z
    have z1 := fun z : Over w0 => kG.overCell 1 (.int .i64 8) rfl z
    refine region_over (by kernel_rfl) (by kernel_rfl) ?_
    repeat (first | go_big_quiet_step (fail) | quiet_step (fail))
    refine wpQuiet_nil ?_
    intro z
    have kG1 := kG.over z
    have hB1 := hB.over z
    have g1 := g0.trans z.g
    clear z0 z1 kG hB g0
    generalize z.w = w1 at *
    go_upto_region 2 with fail
    have z1 := fun z : Over w1 => kG1.overCell 3 (.int .i64 10) rfl z
    refine region_over_tail 5 (by kernel_rfl) (by kernel_rfl) ?_
    simp only [List.take_succ_cons, List.take_zero, List.drop_succ_cons, List.drop_zero]
    repeat (first | go_big_quiet_step (fail) | quiet_step (fail))
    refine wpQuiet_nil ?_
    intro z
    have hB2 := hB1.over z
    have g2 := g1.trans z.g
    have c0 := hB2.rgC 10 (by decide)
    have f0 := hB2.free 10
    have HB2 := Lib.hid hB2
    clear z1 kG1 hB1 hB2 g1
    generalize z.w = w2 at *
    go_wp2_with fail
    go_end0
    exact ⟨rfl, HB2.out.rg (by decide) _, (Trn.of_grew g2).trans (Trn.set _ _ _ _)⟩
  · rw [if_neg hy]
    go_enter Try.func67, Try.ntmps67
    go_upto_region 1 with fail
    have kG : Blk (w.alloc (.cells rgVr 82)) w.heap.size rgVr 82 := Blk.new _ _ _ _ rfl
    have g0 := (Grew.refl w).alloc (.cells rgVr 82)
    replace hB := hB.alloc (.cells rgVr 82)
    generalize w.alloc (.cells rgVr 82) = w0 at *
    generalize w.heap.size = D at *
    have hne : D ≠ p := by omega
    have z0 := fun z : Over w0 => hB.rgO 8 (by decide) z
    have z1 := fun z : Over w0 => kG.overCell 1 (.int .i64 8) rfl z
    refine region_over (by kernel_rfl) (by kernel_rfl) ?_
    repeat (first | go_big_quiet_step (fail) | quiet_step (fail))
    refine wpQuiet_nil ?_
    intro z
    have kG1 := kG.over z
    have hB1 := hB.over z
    have g1 := g0.trans z.g
    clear z0 z1 kG hB g0
    generalize z.w = w1 at *
    go_wp2_with fail
    go_end0
    exact ⟨rfl, hB1, Trn.of_grew g1⟩

/-! ### A descriptor -/
theorem getV_ltn {xs : List Int} (h : AreBytes xs) (n : Nat) (hn : xs.length ≤ n) : 0 ≤ getV xs false ∧ getV xs false < 2 ^ (8 * n) ∧ getV xs false < 18446744073709551616 := by
  have h1 := getTo_lt h (min xs.length 8) false (min xs.length 8)
  have h2 := pow_le_pow' (show 8 * min xs.length 8 ≤ 8 * n by omega)
  have h3 := getV_lt h false
  unfold getV at *
  omega
theorem andU_1 {x : Int} (h0 : 0 ≤ x) (h1 : x < 18446744073709551616) : (bits .and .u64 x 1 != 0) = bitB 1 x := by
  have := and_mask x 1 h0 h1 (by decide)
  rw [show (2 : Int) ^ 1 - 1 = 1 by decide, show (2 : Int) ^ 1 = 2 by decide] at this
  rw [this]
  unfold bitB
  rw [Int.ediv_one]
  rcases (by omega : x % 2 = 0 ∨ x % 2 = 1) with h | h <;> rw [h] <;> rfl
/-- Sixteen bytes as an array. -/
def dsA (xs : List Int) : Array Value := (xs.map (Value.int .u8)).toArray
theorem dsA_size (xs : List Int) : (dsA xs).size = xs.length := by simp [dsA]
theorem dsA_one (xs : List Int) : ((dsA xs).all fun x => x.oneCell') = true := by
  simp only [dsA, Array.all_eq_true_iff_forall_mem]
  intro x hx
  obtain ⟨y, _, rfl⟩ := List.mem_map.1 (by simpa using hx)
  rfl
theorem Blk.ds {w : World} {b : Nat} {xs : List Int} {T : TypeId} (h : Blk w b (dsA xs) T) (hx : AreBytes xs) (hl : xs.length = 16) (lo hi : Nat) (h1 : lo ≤ hi) (h2 : hi ≤ 16) : Buf w (.slice (some ⟨b, lo, none⟩) (hi - lo) (16 - lo)) (cutL xs lo hi) := by
  have hc := cutL_length h1 (by omega : hi ≤ xs.length)
  refine ⟨⟨_, _, by rw [hc], by omega, fun _ => ⟨b, lo, rfl, fun i hi' => ?_⟩⟩, hx.cut lo hi, by rw [hc]; unfold maxLen; omega⟩
  rw [hc] at hi'
  rw [cutL_getD hi', h.cell]
  simp [dsA, List.getD_eq_getElem?_getD, List.getElem?_eq_getElem (show lo + i < xs.length by omega)]
theorem part_0 {xs : List Int} (hx : AreBytes xs) (hl : xs.length = 16) (w : World) : Calls Try.prog 76 #[.agg (dsA xs), .int .i64 0, .int .i64 8] w fun e w' => e = .returned (.int .u64 (getV (cutL xs 0 8) false)) ∧ Grew w w' := by
  have hG := fun (w : World) (h : Blk w w.heap.size (dsA xs) 86) => h
  clear hG
  go_enter Try.func76, Try.ntmps76
  go_upto_region 1 with fail
  have kD : Blk (w.alloc (.cells (dsA xs) 86)) w.heap.size (dsA xs) 86 := Blk.new _ _ _ _ rfl
  have g0 := (Grew.refl w).alloc (.cells (dsA xs) 86)
  generalize w.alloc (.cells (dsA xs) 86) = w0 at *
  generalize w.heap.size = D at *
  have hb := Lib.hid (kD.ds hx hl 0 8 (by decide) (by decide))
  have hok := Lib.hid (hx.cut 0 8)
  have hlen := cutL_length (xs := xs) (lo := 0) (hi := 8) (by decide) (by omega)
  clear kD hx hl
  generalize hz : cutL xs 0 8 = zs at hb hok hlen
  have HZ := Lib.hid hz
  clear hz
  go_wp2_with fail
  refine (get_c false hok.out (by omega) _ hb.out.bytes).mono ?_
  rintro e w2 ⟨rfl, h2⟩
  obtain rfl := h2.symm
  go_wp2_with fail
  go_ret
  rw [HZ.out]
  exact ⟨rfl, g0⟩
theorem part_8 {xs : List Int} (hx : AreBytes xs) (hl : xs.length = 16) (w : World) : Calls Try.prog 76 #[.agg (dsA xs), .int .i64 8, .int .i64 10] w fun e w' => e = .returned (.int .u64 (getV (cutL xs 8 10) false)) ∧ Grew w w' := by
  have hG := fun (w : World) (h : Blk w w.heap.size (dsA xs) 86) => h
  clear hG
  go_enter Try.func76, Try.ntmps76
  go_upto_region 1 with fail
  have kD : Blk (w.alloc (.cells (dsA xs) 86)) w.heap.size (dsA xs) 86 := Blk.new _ _ _ _ rfl
  have g0 := (Grew.refl w).alloc (.cells (dsA xs) 86)
  generalize w.alloc (.cells (dsA xs) 86) = w0 at *
  generalize w.heap.size = D at *
  have hb := Lib.hid (kD.ds hx hl 8 10 (by decide) (by decide))
  have hok := Lib.hid (hx.cut 8 10)
  have hlen := cutL_length (xs := xs) (lo := 8) (hi := 10) (by decide) (by omega)
  clear kD hx hl
  generalize hz : cutL xs 8 10 = zs at hb hok hlen
  have HZ := Lib.hid hz
  clear hz
  go_wp2_with fail
  refine (get_c false hok.out (by omega) _ hb.out.bytes).mono ?_
  rintro e w2 ⟨rfl, h2⟩
  obtain rfl := h2.symm
  go_wp2_with fail
  go_ret
  rw [HZ.out]
  exact ⟨rfl, g0⟩
theorem part_10 {xs : List Int} (hx : AreBytes xs) (hl : xs.length = 16) (w : World) : Calls Try.prog 76 #[.agg (dsA xs), .int .i64 10, .int .i64 12] w fun e w' => e = .returned (.int .u64 (getV (cutL xs 10 12) false)) ∧ Grew w w' := by
  have hG := fun (w : World) (h : Blk w w.heap.size (dsA xs) 86) => h
  clear hG
  go_enter Try.func76, Try.ntmps76
  go_upto_region 1 with fail
  have kD : Blk (w.alloc (.cells (dsA xs) 86)) w.heap.size (dsA xs) 86 := Blk.new _ _ _ _ rfl
  have g0 := (Grew.refl w).alloc (.cells (dsA xs) 86)
  generalize w.alloc (.cells (dsA xs) 86) = w0 at *
  generalize w.heap.size = D at *
  have hb := Lib.hid (kD.ds hx hl 10 12 (by decide) (by decide))
  have hok := Lib.hid (hx.cut 10 12)
  have hlen := cutL_length (xs := xs) (lo := 10) (hi := 12) (by decide) (by omega)
  clear kD hx hl
  generalize hz : cutL xs 10 12 = zs at hb hok hlen
  have HZ := Lib.hid hz
  clear hz
  go_wp2_with fail
  refine (get_c false hok.out (by omega) _ hb.out.bytes).mono ?_
  rintro e w2 ⟨rfl, h2⟩
  obtain rfl := h2.symm
  go_wp2_with fail
  go_ret
  rw [HZ.out]
  exact ⟨rfl, g0⟩
def parV (xs : List Int) (lo hi : Nat) : Int := getV (cutL xs lo hi) false
theorem ld_ds {ops : Array Oper} {rest : List Oper} {o : Oper} {a : Act} {w : World} {Q : Exit → Act → World → Prop} (hgd : o.guard = none) (x : Operand) (ho : o.op = .load 86 x) (d : Option Tmp) (hd : o.dst = d) {g : Nat} {xs : List Int} {T : TypeId} (hl : xs.length = 16)
    (k : Blk w g (dsA xs) T) (hx : a.eval x = .pointer (some ⟨g, 0, none⟩)) (h : wpList Try.prog ops Q rest (a.put d (.agg (dsA xs))) w) : wpList Try.prog ops Q (o :: rest) a w := by
  subst hd
  exact wpList_load_row hgd _ x ho g hx T (dsA xs) (0, 0) _ k Try.underlying86 rfl (by rw [dsA_size, hl]; exact dsInfo) h
theorem var_ds {w : World} {g : Nat} {xs : List Int} {T : TypeId} (hl : xs.length = 16) (k : Blk w g (dsA xs) T) : (loadVar 86 ⟨g, 0, none⟩).run Try.prog w = .ok (.agg (dsA xs)) w :=
  run_loadVar_row w g T _ (dsA xs) (0, 0) _ k Try.underlying86 rfl (by rw [dsA_size, hl]; exact dsInfo)
theorem address_c {xs : List Int} (hx : AreBytes xs) (hl : xs.length = 16) (w : World) : Calls Try.prog 59 #[.agg (dsA xs)] w fun e w' => e = .returned (.int .u64 (getV (cutL xs 0 8) false)) ∧ Grew w w' := by
  have hP := Lib.hid (part_0 hx hl)
  have hb := getV_ltn (hx.cut 0 8) 8 (by rw [cutL_length (by decide) (by omega)]; decide)
  have hb2 : getV (cutL xs 0 8) false < 18446744073709551616 := hb.2.1
  generalize getV (cutL xs 0 8) false = v at *
  go_enter Try.func59, Try.ntmps59
  go_upto_region 1 with fail
  have kD : Blk (w.alloc (.cells (dsA xs) 86)) w.heap.size (dsA xs) 86 := Blk.new _ _ _ _ rfl
  have g0 := (Grew.refl w).alloc (.cells (dsA xs) 86)
  generalize w.alloc (.cells (dsA xs) 86) = w0 at *
  generalize w.heap.size = D at *
  go_wp2_with (first
    | ((with_reducible refine ld_ds rfl (.tmp 1) rfl _ rfl hl kD ?_ ?_); (rotate_left 1))
    | (go_at_call 76; refine (hP.out _).mono ?_; rintro e w1 ⟨rfl, g1⟩))
  any_goals rfl
  go_ret
  exact ⟨rfl, g0.trans g1⟩
theorem length_c {xs : List Int} (hx : AreBytes xs) (hl : xs.length = 16) (w : World) : Calls Try.prog 60 #[.agg (dsA xs)] w fun e w' => e = .returned (.int .i64 (getV (cutL xs 8 10) false)) ∧ Grew w w' := by
  have hP := Lib.hid (part_8 hx hl)
  have hb := getV_ltn (hx.cut 8 10) 2 (by rw [cutL_length (by decide) (by omega)]; decide)
  have hb2 : getV (cutL xs 8 10) false < 65536 := hb.2.1
  have hw : IntKind.i64.wrap (getV (cutL xs 8 10) false) = getV (cutL xs 8 10) false := IntWalk.i64_in _ (by omega)
  generalize getV (cutL xs 8 10) false = v at *
  go_enter Try.func60, Try.ntmps60
  go_upto_region 1 with fail
  have kD : Blk (w.alloc (.cells (dsA xs) 86)) w.heap.size (dsA xs) 86 := Blk.new _ _ _ _ rfl
  have g0 := (Grew.refl w).alloc (.cells (dsA xs) 86)
  generalize w.alloc (.cells (dsA xs) 86) = w0 at *
  generalize w.heap.size = D at *
  go_wp2_with (first
    | ((with_reducible refine ld_ds rfl (.tmp 1) rfl _ rfl hl kD ?_ ?_); (rotate_left 1))
    | (go_at_call 76; refine (hP.out _).mono ?_; rintro e w1 ⟨rfl, g1⟩))
  any_goals rfl
  go_ret
  exact ⟨rfl, g0.trans g1⟩
theorem owned_c {xs : List Int} (hx : AreBytes xs) (hl : xs.length = 16) (w : World) : Calls Try.prog 57 #[.agg (dsA xs)] w fun e w' => e = .returned (.bool (bitB 1 (getV (cutL xs 10 12) false))) ∧ Grew w w' := by
  have hP := Lib.hid (part_10 hx hl)
  have hb := getV_ltn (hx.cut 10 12) 2 (by rw [cutL_length (by decide) (by omega)]; decide)
  have hb2 : getV (cutL xs 10 12) false < 65536 := hb.2.1
  have hv := Lib.hid (andU_1 (x := getV (cutL xs 10 12) false) (by omega) (by omega))
  generalize getV (cutL xs 10 12) false = v at *
  go_enter Try.func57, Try.ntmps57
  go_upto_region 1 with fail
  have kD : Blk (w.alloc (.cells (dsA xs) 86)) w.heap.size (dsA xs) 86 := Blk.new _ _ _ _ rfl
  have g0 := (Grew.refl w).alloc (.cells (dsA xs) 86)
  generalize w.alloc (.cells (dsA xs) 86) = w0 at *
  generalize w.heap.size = D at *
  go_wp2_with (first
    | ((with_reducible refine ld_ds rfl (.tmp 1) rfl _ rfl hl kD ?_ ?_); (rotate_left 1))
    | (go_at_call 76; refine (hP.out _).mono ?_; rintro e w1 ⟨rfl, g1⟩))
  any_goals rfl
  go_ret
  exact ⟨ret_bool hv.out, g0.trans g1⟩
end Go.Proofs.Ytoehdhhodidehaa
