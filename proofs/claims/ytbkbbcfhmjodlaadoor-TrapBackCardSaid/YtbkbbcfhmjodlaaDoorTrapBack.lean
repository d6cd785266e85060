/-
  The statement TrapBack: for all registers that may be, privilege, place and cause, an interrupt or none: behind a trap and its return the privilege, the place and the bit that lets interrupts in are as they were, and registers that may be stay so. Conditions: none but those of the statement's row (the package variable as the text lays it).
-/
import Derived.Test.YtbkbbcfhmjodlaaDoorTrpN
import Derived.Test.YtbkbbcfhmjodlaaDoorCards
import Derived.Test.YtbkbbcfhmjodlaaDoorTie
import Derived.SevenTiedAt
set_option linter.unusedVariables false
set_option linter.unusedSimpArgs false
namespace Go.Proofs.YtbkbbcfhmjodlaaDoor.TrapBack
open Go.ChangeShapes Go.WideShapes Go.ChangeAt Go.RowKit

set_option maxRecDepth 100000 in
set_option maxHeartbeats 2000000 in
theorem skip_bad (c : Nat → Int) (p pc cause : Int) (irq : Bool) (HC : ∀ {W w : World}, Grew W w → Calls Tryd.prog 17 #[csV c] w fun e w' => e = .returned (.bool false) ∧ Grew W w') {W : World} (so : Ord W) :
    Calls Tryd.prog 6 #[csV c, .int .i64 p, .int .u64 pc, .int .i64 cause, .bool irq] W fun e w' => e = .returned (.bool true) ∧ Below W.heap.size W w' := by
  have g0 := (Grew.refl W).alloc (.cells (csA c) 24)
  go_enter Tryd.func6, Tryd.ntmps6
  go_wp2_with (first
    | ((with_reducible refine ld_cs rfl (.tmp 5) rfl _ rfl (Blk.new W _ _ _ rfl) ?_ ?_); (rotate_left 1))
    | fail)
  refine (HC (Grew.refl _)).mono ?_
  rintro e w1 ⟨rfl, h1⟩
  have g1 := g0.trans h1
  clear HC h1 g0
  go_wp2_with fail
  refine (heads_c (so.grew g1) (Grew.refl _)).mono ?_
  rintro e w2 ⟨rfl, h2⟩
  have g2 := g1.trans h2
  go_wp2_with fail
  · go_ret
    exact ⟨rfl, g2⟩
  all_goals rfl

set_option maxRecDepth 100000 in
set_option maxHeartbeats 2000000 in
theorem skip_no (c : Nat → Int) (p pc cause : Int) (irq : Bool) (HC : ∀ {W w : World}, Grew W w → Calls Tryd.prog 17 #[csV c] w fun e w' => e = .returned (.bool true) ∧ Grew W w') (p0 : (p != 0) = true) (p1 : (p != 1) = true) (p3 : (p != 3) = true) {W : World} (so : Ord W) :
    Calls Tryd.prog 6 #[csV c, .int .i64 p, .int .u64 pc, .int .i64 cause, .bool irq] W fun e w' => e = .returned (.bool true) ∧ Below W.heap.size W w' := by
  have g0 := (Grew.refl W).alloc (.cells (csA c) 24)
  go_enter Tryd.func6, Tryd.ntmps6
  go_wp2_with (first
    | ((with_reducible refine ld_cs rfl (.tmp 5) rfl _ rfl (Blk.new W _ _ _ rfl) ?_ ?_); (rotate_left 1))
    | fail)
  refine (HC (Grew.refl _)).mono ?_
  rintro e w1 ⟨rfl, h1⟩
  have g1 := g0.trans h1
  clear HC h1 g0
  go_wp2_with fail
  refine (heads_c (so.grew g1) (Grew.refl _)).mono ?_
  rintro e w2 ⟨rfl, h2⟩
  have g2 := g1.trans h2
  go_wp2_with fail
  · go_ret
    exact ⟨rfl, g2⟩
  all_goals rfl

set_option maxRecDepth 100000 in
set_option maxHeartbeats 2000000 in
theorem walk_s0 (c d b f : Nat → Int) (pc cause at' x r' x' z : Int) (irq : Bool) (HC : ∀ {W w : World}, Grew W w → Calls Tryd.prog 17 #[csV c] w fun e w' => e = .returned (.bool true) ∧ Grew W w') (HD : ∀ {W w : World}, Grew W w → Calls Tryd.prog 17 #[csV d] w fun e w' => e = .returned (.bool true) ∧ Grew W w') (HE : ∀ {W w : World}, Grew W w → Calls Tryd.prog 17 #[csV b] w fun e w' => e = .returned (.bool true) ∧ Grew W w')
    (HA : ∀ {W w : World}, Ord W → Grew W w → Calls Tryd.prog 10 #[csV c, .int .i64 0, .int .u64 pc, .int .i64 cause, .bool irq, .int .u64 0] w fun e w' => e = .returned (.tuple #[csV d, .int .i64 1, .int .u64 at']) ∧ Grew W w')
    (HM : ∀ {W w : World}, Ord W → Grew W w → Calls Tryd.prog 12 #[csV d] w fun e w' => e = .returned (.tuple #[csV f, .int .i64 r', .int .u64 x']) ∧ Grew W w') (HS : ∀ {W w : World}, Ord W → Grew W w → Calls Tryd.prog 14 #[csV d] w fun e w' => e = .returned (.tuple #[csV b, .int .i64 0, .int .u64 x]) ∧ Grew W w') (a0 : 0 ≤ at') (a1 : at' < 18446744073709551616) (a2 : at' % 2 = 0) (hx : bits .andNot .u64 pc 1 = x)
    (z0 : bits .and .u64 (b 0) 2 = z) (z1 : bits .and .u64 (c 0) 2 = z) (z2 : bits .and .u64 (d 0) 2 = 0) {W : World} (so : Ord W) :
    Calls Tryd.prog 6 #[csV c, .int .i64 0, .int .u64 pc, .int .i64 cause, .bool irq] W fun e w' => e = .returned (.bool true) ∧ Below W.heap.size W w' := by
  have a2' : at'.tmod 2 = 0 := by rw [Int.tmod_eq_emod_of_nonneg a0]; exact a2
  have g0 := (Grew.refl W).alloc (.cells (csA c) 24)
  go_enter Tryd.func6, Tryd.ntmps6
  go_wp2_with (first
    | ((with_reducible refine ld_cs rfl (.tmp 5) rfl _ rfl (Blk.new W _ _ _ rfl) ?_ ?_); (rotate_left 1))
    | fail)
  refine (HC (Grew.refl _)).mono ?_
  rintro e w1 ⟨rfl, h1⟩
  have g1 := g0.trans h1
  have k1 := (Blk.new W (csA c) 24 _ rfl).grew h1
  have n1 := k1.lt
  clear HC h1 g0
  go_wp2_with (first
    | ((with_reducible refine ld_cs rfl (.tmp 5) rfl _ rfl k1 ?_ ?_); (rotate_left 1))
    | fail)
  refine (HA (so.grew g1) (Grew.refl _)).mono ?_
  rintro e w2 ⟨rfl, h2⟩
  have g2 := g1.trans h2
  have k2 := k1.grew h2
  have n2 := k2.lt
  clear HA h2 g1 k1 n1
  go_wp2_with (first
    | ((with_reducible refine st_csG rfl (.tmp 11) (.tmp 41) rfl rfl d (Blk.new w2 _ _ _ rfl) ?_ ?_ ?_ (g2.alloc _) (Nat.le_of_lt n2) ?_); (rotate_left 3); intro w3 j3 g3 o3 _; have k3 := o3 _ _ _ (by omega) (k2.alloc _); clear o3)
    | ((with_reducible refine ld_cs rfl (.tmp 11) rfl _ rfl j3 ?_ ?_); (rotate_left 1))
    | fail)
  refine (HD (Grew.refl _)).mono ?_
  rintro e w4 ⟨rfl, h4⟩
  have g4 := g3.trans h4
  have k4 := k3.grew h4
  have j4 := j3.grew h4
  have m4 := j4.lt
  have n4 := k4.lt
  clear HD h4 g3 j3 k3 g2 k2
  go_wp2_with (first
    | ((with_reducible refine ld_cs rfl (.tmp 11) rfl _ rfl j4 ?_ ?_); (rotate_left 1))
    | fail)
  refine (HM (so.grew g4) (Grew.refl _)).mono ?_
  rintro e w5 ⟨rfl, h5⟩
  have g5 := g4.trans h5
  have k5 := k4.grew h5
  have j5 := j4.grew h5
  have m5 := j5.lt
  have n5 := k5.lt
  clear HM h5 g4 j4 k4 m4 n4
  go_wp2_with (first
    | ((with_reducible refine st_csG rfl (.tmp 14) (.tmp 60) rfl rfl f (Blk.new w5 _ _ _ rfl) ?_ ?_ ?_ (g5.alloc _) (Nat.le_of_lt n5) ?_); (rotate_left 3); intro w6 i6 g6 o6 _; have k6 := o6 _ _ _ (by omega) (k5.alloc _); have j6 := o6 _ _ _ (by omega) (j5.alloc _); clear o6)
    | ((with_reducible refine ld_cs rfl (.tmp 11) rfl _ rfl j6 ?_ ?_); (rotate_left 1))
    | fail)
  refine (HS (so.grew g6) (Grew.refl _)).mono ?_
  rintro e w7 ⟨rfl, h7⟩
  have g7 := g6.trans h7
  have k7 := k6.grew h7
  have j7 := j6.grew h7
  have i7 := i6.grew h7
  have m7 := j7.lt
  have n7 := k7.lt
  clear HS h7 g6 j6 k6 i6
  have z5 := Nat.le_of_lt n5
  have hW : W.heap.size ≤ w5.heap.size := by omega
  go_wp2_with (first
    | ((with_reducible refine st_csG rfl (.tmp 14) (.tmp 68) rfl rfl b i7 ?_ ?_ ?_ g7 hW ?_); (rotate_left 3); intro w8 i8 g8 o8 _; have k8 := o8 _ _ _ (by omega) k7; have j8 := o8 _ _ _ (by omega) j7; clear o8)
    | ((with_reducible refine ld_cs rfl (.tmp 14) rfl _ rfl i8 ?_ ?_); (rotate_left 1))
    | fail)
  refine (HE (Grew.refl _)).mono ?_
  rintro e w9 ⟨rfl, h9⟩
  have g9 := g8.trans h9
  have k9 := k8.grew h9
  have j9 := j8.grew h9
  have i9 := i8.grew h9
  clear HE h9 g8
  have y1 : w9.cell? ⟨w5.heap.size, 0, none⟩ = some (.int .u64 (b 0)) := by rw [i9.cell, csA_0]
  have y2 : w9.cell? ⟨W.heap.size, 0, none⟩ = some (.int .u64 (c 0)) := by rw [k9.cell, csA_0]
  have y3 : w9.cell? ⟨w2.heap.size, 0, none⟩ = some (.int .u64 (d 0)) := by rw [j9.cell, csA_0]
  clear i9 k9 j9 i8 k8 j8
  go_wp2_with fail
  refine (heads_c (so.grew g9) (Grew.refl _)).mono ?_
  rintro e w10 ⟨rfl, h10⟩
  have g10 := g9.trans h10
  go_wp2_with fail
  · go_ret
    exact ⟨rfl, g10⟩
  all_goals rfl

set_option maxRecDepth 100000 in
set_option maxHeartbeats 2000000 in
theorem walk_s1 (c d b f : Nat → Int) (pc cause at' x r' x' z : Int) (irq : Bool) (HC : ∀ {W w : World}, Grew W w → Calls Tryd.prog 17 #[csV c] w fun e w' => e = .returned (.bool true) ∧ Grew W w') (HD : ∀ {W w : World}, Grew W w → Calls Tryd.prog 17 #[csV d] w fun e w' => e = .returned (.bool true) ∧ Grew W w') (HE : ∀ {W w : World}, Grew W w → Calls Tryd.prog 17 #[csV b] w fun e w' => e = .returned (.bool true) ∧ Grew W w')
    (HA : ∀ {W w : World}, Ord W → Grew W w → Calls Tryd.prog 10 #[csV c, .int .i64 1, .int .u64 pc, .int .i64 cause, .bool irq, .int .u64 0] w fun e w' => e = .returned (.tuple #[csV d, .int .i64 1, .int .u64 at']) ∧ Grew W w')
    (HM : ∀ {W w : World}, Ord W → Grew W w → Calls Tryd.prog 12 #[csV d] w fun e w' => e = .returned (.tuple #[csV f, .int .i64 r', .int .u64 x']) ∧ Grew W w') (HS : ∀ {W w : World}, Ord W → Grew W w → Calls Tryd.prog 14 #[csV d] w fun e w' => e = .returned (.tuple #[csV b, .int .i64 1, .int .u64 x]) ∧ Grew W w') (a0 : 0 ≤ at') (a1 : at' < 18446744073709551616) (a2 : at' % 2 = 0) (hx : bits .andNot .u64 pc 1 = x)
    (z0 : bits .and .u64 (b 0) 2 = z) (z1 : bits .and .u64 (c 0) 2 = z) (z2 : bits .and .u64 (d 0) 2 = 0) {W : World} (so : Ord W) :
    Calls Tryd.prog 6 #[csV c, .int .i64 1, .int .u64 pc, .int .i64 cause, .bool irq] W fun e w' => e = .returned (.bool true) ∧ Below W.heap.size W w' := by
  have a2' : at'.tmod 2 = 0 := by rw [Int.tmod_eq_emod_of_nonneg a0]; exact a2
  have g0 := (Grew.refl W).alloc (.cells (csA c) 24)
  go_enter Tryd.func6, Tryd.ntmps6
  go_wp2_with (first
    | ((with_reducible refine ld_cs rfl (.tmp 5) rfl _ rfl (Blk.new W _ _ _ rfl) ?_ ?_); (rotate_left 1))
    | fail)
  refine (HC (Grew.refl _)).mono ?_
  rintro e w1 ⟨rfl, h1⟩
  have g1 := g0.trans h1
  have k1 := (Blk.new W (csA c) 24 _ rfl).grew h1
  have n1 := k1.lt
  clear HC h1 g0
  go_wp2_with (first
    | ((with_reducible refine ld_cs rfl (.tmp 5) rfl _ rfl k1 ?_ ?_); (rotate_left 1))
    | fail)
  refine (HA (so.grew g1) (Grew.refl _)).mono ?_
  rintro e w2 ⟨rfl, h2⟩
  have g2 := g1.trans h2
  have k2 := k1.grew h2
  have n2 := k2.lt
  clear HA h2 g1 k1 n1
  go_wp2_with (first
    | ((with_reducible refine st_csG rfl (.tmp 11) (.tmp 41) rfl rfl d (Blk.new w2 _ _ _ rfl) ?_ ?_ ?_ (g2.alloc _) (Nat.le_of_lt n2) ?_); (rotate_left 3); intro w3 j3 g3 o3 _; have k3 := o3 _ _ _ (by omega) (k2.alloc _); clear o3)
    | ((with_reducible refine ld_cs rfl (.tmp 11) rfl _ rfl j3 ?_ ?_); (rotate_left 1))
    | fail)
  refine (HD (Grew.refl _)).mono ?_
  rintro e w4 ⟨rfl, h4⟩
  have g4 := g3.trans h4
  have k4 := k3.grew h4
  have j4 := j3.grew h4
  have m4 := j4.lt
  have n4 := k4.lt
  clear HD h4 g3 j3 k3 g2 k2
  go_wp2_with (first
    | ((with_reducible refine ld_cs rfl (.tmp 11) rfl _ rfl j4 ?_ ?_); (rotate_left 1))
    | fail)
  refine (HM (so.grew g4) (Grew.refl _)).mono ?_
  rintro e w5 ⟨rfl, h5⟩
  have g5 := g4.trans h5
  have k5 := k4.grew h5
  have j5 := j4.grew h5
  have m5 := j5.lt
  have n5 := k5.lt
  clear HM h5 g4 j4 k4 m4 n4
  go_wp2_with (first
    | ((with_reducible refine st_csG rfl (.tmp 14) (.tmp 60) rfl rfl f (Blk.new w5 _ _ _ rfl) ?_ ?_ ?_ (g5.alloc _) (Nat.le_of_lt n5) ?_); (rotate_left 3); intro w6 i6 g6 o6 _; have k6 := o6 _ _ _ (by omega) (k5.alloc _); have j6 := o6 _ _ _ (by omega) (j5.alloc _); clear o6)
    | ((with_reducible refine ld_cs rfl (.tmp 11) rfl _ rfl j6 ?_ ?_); (rotate_left 1))
    | fail)
  refine (HS (so.grew g6) (Grew.refl _)).mono ?_
  rintro e w7 ⟨rfl, h7⟩
  have g7 := g6.trans h7
  have k7 := k6.grew h7
  have j7 := j6.grew h7
  have i7 := i6.grew h7
  have m7 := j7.lt
  have n7 := k7.lt
  clear HS h7 g6 j6 k6 i6
  have z5 := Nat.le_of_lt n5
  have hW : W.heap.size ≤ w5.heap.size := by omega
  go_wp2_with (first
    | ((with_reducible refine st_csG rfl (.tmp 14) (.tmp 68) rfl rfl b i7 ?_ ?_ ?_ g7 hW ?_); (rotate_left 3); intro w8 i8 g8 o8 _; have k8 := o8 _ _ _ (by omega) k7; have j8 := o8 _ _ _ (by omega) j7; clear o8)
    | ((with_reducible refine ld_cs rfl (.tmp 14) rfl _ rfl i8 ?_ ?_); (rotate_left 1))
    | fail)
  refine (HE (Grew.refl _)).mono ?_
  rintro e w9 ⟨rfl, h9⟩
  have g9 := g8.trans h9
  have k9 := k8.grew h9
  have j9 := j8.grew h9
  have i9 := i8.grew h9
  clear HE h9 g8
  have y1 : w9.cell? ⟨w5.heap.size, 0, none⟩ = some (.int .u64 (b 0)) := by rw [i9.cell, csA_0]
  have y2 : w9.cell? ⟨W.heap.size, 0, none⟩ = some (.int .u64 (c 0)) := by rw [k9.cell, csA_0]
  have y3 : w9.cell? ⟨w2.heap.size, 0, none⟩ = some (.int .u64 (d 0)) := by rw [j9.cell, csA_0]
  clear i9 k9 j9 i8 k8 j8
  go_wp2_with fail
  refine (heads_c (so.grew g9) (Grew.refl _)).mono ?_
  rintro e w10 ⟨rfl, h10⟩
  have g10 := g9.trans h10
  go_wp2_with fail
  · go_ret
    exact ⟨rfl, g10⟩
  all_goals rfl

set_option maxRecDepth 100000 in
set_option maxHeartbeats 2000000 in
theorem walk_m0 (c d b : Nat → Int) (pc cause at' x z : Int) (irq : Bool) (HC : ∀ {W w : World}, Grew W w → Calls Tryd.prog 17 #[csV c] w fun e w' => e = .returned (.bool true) ∧ Grew W w') (HD : ∀ {W w : World}, Grew W w → Calls Tryd.prog 17 #[csV d] w fun e w' => e = .returned (.bool true) ∧ Grew W w') (HE : ∀ {W w : World}, Grew W w → Calls Tryd.prog 17 #[csV b] w fun e w' => e = .returned (.bool true) ∧ Grew W w')
    (HA : ∀ {W w : World}, Ord W → Grew W w → Calls Tryd.prog 10 #[csV c, .int .i64 0, .int .u64 pc, .int .i64 cause, .bool irq, .int .u64 0] w fun e w' => e = .returned (.tuple #[csV d, .int .i64 3, .int .u64 at']) ∧ Grew W w')
    (HM : ∀ {W w : World}, Ord W → Grew W w → Calls Tryd.prog 12 #[csV d] w fun e w' => e = .returned (.tuple #[csV b, .int .i64 0, .int .u64 x]) ∧ Grew W w') (a0 : 0 ≤ at') (a1 : at' < 18446744073709551616) (a2 : at' % 2 = 0) (hx : bits .andNot .u64 pc 1 = x)
    (z0 : bits .and .u64 (b 0) 8 = z) (z1 : bits .and .u64 (c 0) 8 = z) (z2 : bits .and .u64 (d 0) 8 = 0) {W : World} (so : Ord W) :
    Calls Tryd.prog 6 #[csV c, .int .i64 0, .int .u64 pc, .int .i64 cause, .bool irq] W fun e w' => e = .returned (.bool true) ∧ Below W.heap.size W w' := by
  have a2' : at'.tmod 2 = 0 := by rw [Int.tmod_eq_emod_of_nonneg a0]; exact a2
  have g0 := (Grew.refl W).alloc (.cells (csA c) 24)
  go_enter Tryd.func6, Tryd.ntmps6
  go_wp2_with (first
    | ((with_reducible refine ld_cs rfl (.tmp 5) rfl _ rfl (Blk.new W _ _ _ rfl) ?_ ?_); (rotate_left 1))
    | fail)
  refine (HC (Grew.refl _)).mono ?_
  rintro e w1 ⟨rfl, h1⟩
  have g1 := g0.trans h1
  have k1 := (Blk.new W (csA c) 24 _ rfl).grew h1
  have n1 := k1.lt
  clear HC h1 g0
  go_wp2_with (first
    | ((with_reducible refine ld_cs rfl (.tmp 5) rfl _ rfl k1 ?_ ?_); (rotate_left 1))
    | fail)
  refine (HA (so.grew g1) (Grew.refl _)).mono ?_
  rintro e w2 ⟨rfl, h2⟩
  have g2 := g1.trans h2
  have k2 := k1.grew h2
  have n2 := k2.lt
  clear HA h2 g1 k1 n1
  go_wp2_with (first
    | ((with_reducible refine st_csG rfl (.tmp 11) (.tmp 41) rfl rfl d (Blk.new w2 _ _ _ rfl) ?_ ?_ ?_ (g2.alloc _) (Nat.le_of_lt n2) ?_); (rotate_left 3); intro w3 j3 g3 o3 _; have k3 := o3 _ _ _ (by omega) (k2.alloc _); clear o3)
    | ((with_reducible refine ld_cs rfl (.tmp 11) rfl _ rfl j3 ?_ ?_); (rotate_left 1))
    | fail)
  refine (HD (Grew.refl _)).mono ?_
  rintro e w4 ⟨rfl, h4⟩
  have g4 := g3.trans h4
  have k4 := k3.grew h4
  have j4 := j3.grew h4
  have m4 := j4.lt
  have n4 := k4.lt
  clear HD h4 g3 j3 k3 g2 k2
  go_wp2_with (first
    | ((with_reducible refine ld_cs rfl (.tmp 11) rfl _ rfl j4 ?_ ?_); (rotate_left 1))
    | fail)
  refine (HM (so.grew g4) (Grew.refl _)).mono ?_
  rintro e w5 ⟨rfl, h5⟩
  have g5 := g4.trans h5
  have k5 := k4.grew h5
  have j5 := j4.grew h5
  have m5 := j5.lt
  have n5 := k5.lt
  clear HM h5 g4 j4 k4 m4 n4
  go_wp2_with (first
    | ((with_reducible refine st_csG rfl (.tmp 14) (.tmp 60) rfl rfl b (Blk.new w5 _ _ _ rfl) ?_ ?_ ?_ (g5.alloc _) (Nat.le_of_lt n5) ?_); (rotate_left 3); intro w8 i8 g8 o8 _; have k8 := o8 _ _ _ (by omega) (k5.alloc _); have j8 := o8 _ _ _ (by omega) (j5.alloc _); clear o8)
    | ((with_reducible refine ld_cs rfl (.tmp 14) rfl _ rfl i8 ?_ ?_); (rotate_left 1))
    | fail)
  refine (HE (Grew.refl _)).mono ?_
  rintro e w9 ⟨rfl, h9⟩
  have g9 := g8.trans h9
  have k9 := k8.grew h9
  have j9 := j8.grew h9
  have i9 := i8.grew h9
  clear HE h9 g8
  have y1 : w9.cell? ⟨w5.heap.size, 0, none⟩ = some (.int .u64 (b 0)) := by rw [i9.cell, csA_0]
  have y2 : w9.cell? ⟨W.heap.size, 0, none⟩ = some (.int .u64 (c 0)) := by rw [k9.cell, csA_0]
  have y3 : w9.cell? ⟨w2.heap.size, 0, none⟩ = some (.int .u64 (d 0)) := by rw [j9.cell, csA_0]
  clear i9 k9 j9 i8 k8 j8
  go_wp2_with fail
  refine (heads_c (so.grew g9) (Grew.refl _)).mono ?_
  rintro e w10 ⟨rfl, h10⟩
  have g10 := g9.trans h10
  go_wp2_with fail
  · go_ret
    exact ⟨rfl, g10⟩
  all_goals rfl

set_option maxRecDepth 100000 in
set_option maxHeartbeats 2000000 in
theorem walk_m1 (c d b : Nat → Int) (pc cause at' x z : Int) (irq : Bool) (HC : ∀ {W w : World}, Grew W w → Calls Tryd.prog 17 #[csV c] w fun e w' => e = .returned (.bool true) ∧ Grew W w') (HD : ∀ {W w : World}, Grew W w → Calls Tryd.prog 17 #[csV d] w fun e w' => e = .returned (.bool true) ∧ Grew W w') (HE : ∀ {W w : World}, Grew W w → Calls Tryd.prog 17 #[csV b] w fun e w' => e = .returned (.bool true) ∧ Grew W w')
    (HA : ∀ {W w : World}, Ord W → Grew W w → Calls Tryd.prog 10 #[csV c, .int .i64 1, .int .u64 pc, .int .i64 cause, .bool irq, .int .u64 0] w fun e w' => e = .returned (.tuple #[csV d, .int .i64 3, .int .u64 at']) ∧ Grew W w')
    (HM : ∀ {W w : World}, Ord W → Grew W w → Calls Tryd.prog 12 #[csV d] w fun e w' => e = .returned (.tuple #[csV b, .int .i64 1, .int .u64 x]) ∧ Grew W w') (a0 : 0 ≤ at') (a1 : at' < 18446744073709551616) (a2 : at' % 2 = 0) (hx : bits .andNot .u64 pc 1 = x)
    (z0 : bits .and .u64 (b 0) 8 = z) (z1 : bits .and .u64 (c 0) 8 = z) (z2 : bits .and .u64 (d 0) 8 = 0) {W : World} (so : Ord W) :
    Calls Tryd.prog 6 #[csV c, .int .i64 1, .int .u64 pc, .int .i64 cause, .bool irq] W fun e w' => e = .returned (.bool true) ∧ Below W.heap.size W w' := by
  have a2' : at'.tmod 2 = 0 := by rw [Int.tmod_eq_emod_of_nonneg a0]; exact a2
  have g0 := (Grew.refl W).alloc (.cells (csA c) 24)
  go_enter Tryd.func6, Tryd.ntmps6
  go_wp2_with (first
    | ((with_reducible refine ld_cs rfl (.tmp 5) rfl _ rfl (Blk.new W _ _ _ rfl) ?_ ?_); (rotate_left 1))
    | fail)
  refine (HC (Grew.refl _)).mono ?_
  rintro e w1 ⟨rfl, h1⟩
  have g1 := g0.trans h1
  have k1 := (Blk.new W (csA c) 24 _ rfl).grew h1
  have n1 := k1.lt
  clear HC h1 g0
  go_wp2_with (first
    | ((with_reducible refine ld_cs rfl (.tmp 5) rfl _ rfl k1 ?_ ?_); (rotate_left 1))
    | fail)
  refine (HA (so.grew g1) (Grew.refl _)).mono ?_
  rintro e w2 ⟨rfl, h2⟩
  have g2 := g1.trans h2
  have k2 := k1.grew h2
  have n2 := k2.lt
  clear HA h2 g1 k1 n1
  go_wp2_with (first
    | ((with_reducible refine st_csG rfl (.tmp 11) (.tmp 41) rfl rfl d (Blk.new w2 _ _ _ rfl) ?_ ?_ ?_ (g2.alloc _) (Nat.le_of_lt n2) ?_); (rotate_left 3); intro w3 j3 g3 o3 _; have k3 := o3 _ _ _ (by omega) (k2.alloc _); clear o3)
    | ((with_reducible refine ld_cs rfl (.tmp 11) rfl _ rfl j3 ?_ ?_); (rotate_left 1))
    | fail)
  refine (HD (Grew.refl _)).mono ?_
  rintro e w4 ⟨rfl, h4⟩
  have g4 := g3.trans h4
  have k4 := k3.grew h4
  have j4 := j3.grew h4
  have m4 := j4.lt
  have n4 := k4.lt
  clear HD h4 g3 j3 k3 g2 k2
  go_wp2_with (first
    | ((with_reducible refine ld_cs rfl (.tmp 11) rfl _ rfl j4 ?_ ?_); (rotate_left 1))
    | fail)
  refine (HM (so.grew g4) (Grew.refl _)).mono ?_
  rintro e w5 ⟨rfl, h5⟩
  have g5 := g4.trans h5
  have k5 := k4.grew h5
  have j5 := j4.grew h5
  have m5 := j5.lt
  have n5 := k5.lt
  clear HM h5 g4 j4 k4 m4 n4
  go_wp2_with (first
    | ((with_reducible refine st_csG rfl (.tmp 14) (.tmp 60) rfl rfl b (Blk.new w5 _ _ _ rfl) ?_ ?_ ?_ (g5.alloc _) (Nat.le_of_lt n5) ?_); (rotate_left 3); intro w8 i8 g8 o8 _; have k8 := o8 _ _ _ (by omega) (k5.alloc _); have j8 := o8 _ _ _ (by omega) (j5.alloc _); clear o8)
    | ((with_reducible refine ld_cs rfl (.tmp 14) rfl _ rfl i8 ?_ ?_); (rotate_left 1))
    | fail)
  refine (HE (Grew.refl _)).mono ?_
  rintro e w9 ⟨rfl, h9⟩
  have g9 := g8.trans h9
  have k9 := k8.grew h9
  have j9 := j8.grew h9
  have i9 := i8.grew h9
  clear HE h9 g8
  have y1 : w9.cell? ⟨w5.heap.size, 0, none⟩ = some (.int .u64 (b 0)) := by rw [i9.cell, csA_0]
  have y2 : w9.cell? ⟨W.heap.size, 0, none⟩ = some (.int .u64 (c 0)) := by rw [k9.cell, csA_0]
  have y3 : w9.cell? ⟨w2.heap.size, 0, none⟩ = some (.int .u64 (d 0)) := by rw [j9.cell, csA_0]
  clear i9 k9 j9 i8 k8 j8
  go_wp2_with fail
  refine (heads_c (so.grew g9) (Grew.refl _)).mono ?_
  rintro e w10 ⟨rfl, h10⟩
  have g10 := g9.trans h10
  go_wp2_with fail
  · go_ret
    exact ⟨rfl, g10⟩
  all_goals rfl

set_option maxRecDepth 100000 in
set_option maxHeartbeats 2000000 in
theorem walk_m3 (c d b : Nat → Int) (pc cause at' x z : Int) (irq : Bool) (HC : ∀ {W w : World}, Grew W w → Calls Tryd.prog 17 #[csV c] w fun e w' => e = .returned (.bool true) ∧ Grew W w') (HD : ∀ {W w : World}, Grew W w → Calls Tryd.prog 17 #[csV d] w fun e w' => e = .returned (.bool true) ∧ Grew W w') (HE : ∀ {W w : World}, Grew W w → Calls Tryd.prog 17 #[csV b] w fun e w' => e = .returned (.bool true) ∧ Grew W w')
    (HA : ∀ {W w : World}, Ord W → Grew W w → Calls Tryd.prog 10 #[csV c, .int .i64 3, .int .u64 pc, .int .i64 cause, .bool irq, .int .u64 0] w fun e w' => e = .returned (.tuple #[csV d, .int .i64 3, .int .u64 at']) ∧ Grew W w')
    (HM : ∀ {W w : World}, Ord W → Grew W w → Calls Tryd.prog 12 #[csV d] w fun e w' => e = .returned (.tuple #[csV b, .int .i64 3, .int .u64 x]) ∧ Grew W w') (a0 : 0 ≤ at') (a1 : at' < 18446744073709551616) (a2 : at' % 2 = 0) (hx : bits .andNot .u64 pc 1 = x)
    (z0 : bits .and .u64 (b 0) 8 = z) (z1 : bits .and .u64 (c 0) 8 = z) (z2 : bits .and .u64 (d 0) 8 = 0) {W : World} (so : Ord W) :
    Calls Tryd.prog 6 #[csV c, .int .i64 3, .int .u64 pc, .int .i64 cause, .bool irq] W fun e w' => e = .returned (.bool true) ∧ Below W.heap.size W w' := by
  have a2' : at'.tmod 2 = 0 := by rw [Int.tmod_eq_emod_of_nonneg a0]; exact a2
  have g0 := (Grew.refl W).alloc (.cells (csA c) 24)
  go_enter Tryd.func6, Tryd.ntmps6
  go_wp2_with (first
    | ((with_reducible refine ld_cs rfl (.tmp 5) rfl _ rfl (Blk.new W _ _ _ rfl) ?_ ?_); (rotate_left 1))
    | fail)
  refine (HC (Grew.refl _)).mono ?_
  rintro e w1 ⟨rfl, h1⟩
  have g1 := g0.trans h1
  have k1 := (Blk.new W (csA c) 24 _ rfl).grew h1
  have n1 := k1.lt
  clear HC h1 g0
  go_wp2_with (first
    | ((with_reducible refine ld_cs rfl (.tmp 5) rfl _ rfl k1 ?_ ?_); (rotate_left 1))
    | fail)
  refine (HA (so.grew g1) (Grew.refl _)).mono ?_
  rintro e w2 ⟨rfl, h2⟩
  have g2 := g1.trans h2
  have k2 := k1.grew h2
  have n2 := k2.lt
  clear HA h2 g1 k1 n1
  go_wp2_with (first
    | ((with_reducible refine st_csG rfl (.tmp 11) (.tmp 41) rfl rfl d (Blk.new w2 _ _ _ rfl) ?_ ?_ ?_ (g2.alloc _) (Nat.le_of_lt n2) ?_); (rotate_left 3); intro w3 j3 g3 o3 _; have k3 := o3 _ _ _ (by omega) (k2.alloc _); clear o3)
    | ((with_reducible refine ld_cs rfl (.tmp 11) rfl _ rfl j3 ?_ ?_); (rotate_left 1))
    | fail)
  refine (HD (Grew.refl _)).mono ?_
  rintro e w4 ⟨rfl, h4⟩
  have g4 := g3.trans h4
  have k4 := k3.grew h4
  have j4 := j3.grew h4
  have m4 := j4.lt
  have n4 := k4.lt
  clear HD h4 g3 j3 k3 g2 k2
  go_wp2_with (first
    | ((with_reducible refine ld_cs rfl (.tmp 11) rfl _ rfl j4 ?_ ?_); (rotate_left 1))
    | fail)
  refine (HM (so.grew g4) (Grew.refl _)).mono ?_
  rintro e w5 ⟨rfl, h5⟩
  have g5 := g4.trans h5
  have k5 := k4.grew h5
  have j5 := j4.grew h5
  have m5 := j5.lt
  have n5 := k5.lt
  clear HM h5 g4 j4 k4 m4 n4
  go_wp2_with (first
    | ((with_reducible refine st_csG rfl (.tmp 14) (.tmp 60) rfl rfl b (Blk.new w5 _ _ _ rfl) ?_ ?_ ?_ (g5.alloc _) (Nat.le_of_lt n5) ?_); (rotate_left 3); intro w8 i8 g8 o8 _; have k8 := o8 _ _ _ (by omega) (k5.alloc _); have j8 := o8 _ _ _ (by omega) (j5.alloc _); clear o8)
    | ((with_reducible refine ld_cs rfl (.tmp 14) rfl _ rfl i8 ?_ ?_); (rotate_left 1))
    | fail)
  refine (HE (Grew.refl _)).mono ?_
  rintro e w9 ⟨rfl, h9⟩
  have g9 := g8.trans h9
  have k9 := k8.grew h9
  have j9 := j8.grew h9
  have i9 := i8.grew h9
  clear HE h9 g8
  have y1 : w9.cell? ⟨w5.heap.size, 0, none⟩ = some (.int .u64 (b 0)) := by rw [i9.cell, csA_0]
  have y2 : w9.cell? ⟨W.heap.size, 0, none⟩ = some (.int .u64 (c 0)) := by rw [k9.cell, csA_0]
  have y3 : w9.cell? ⟨w2.heap.size, 0, none⟩ = some (.int .u64 (d 0)) := by rw [j9.cell, csA_0]
  clear i9 k9 j9 i8 k8 j8
  go_wp2_with fail
  refine (heads_c (so.grew g9) (Grew.refl _)).mono ?_
  rintro e w10 ⟨rfl, h10⟩
  have g10 := g9.trans h10
  go_wp2_with fail
  · go_ret
    exact ⟨rfl, g10⟩
  all_goals rfl

theorem back_let (s : Nat) (p : Int) (hs : s < 2 ^ 64) : mretN (entM s p) &&& 8 = s &&& 8 ∧ entM s p &&& 8 = 0 ∧ sretN (entS s p) &&& 2 = s &&& 2 ∧ entS s p &&& 2 = 0 := by
  have hM := entM_lt s p hs
  have hS := entS_lt s p hs
  have e8 : ∀ a b : Nat, a.testBit 3 = b.testBit 3 → a &&& 8 = b &&& 8 := fun a b h => by
    apply Nat.eq_of_testBit_eq
    intro i
    rw [Nat.testBit_and, Nat.testBit_and, show (8 : Nat) = 2 ^ 3 by decide, Nat.testBit_two_pow]
    by_cases hi : 3 = i
    · subst hi; rw [h]
    · simp [hi]
  have e2 : ∀ a b : Nat, a.testBit 1 = b.testBit 1 → a &&& 2 = b &&& 2 := fun a b h => by
    apply Nat.eq_of_testBit_eq
    intro i
    rw [Nat.testBit_and, Nat.testBit_and, show (2 : Nat) = 2 ^ 1 by decide, Nat.testBit_two_pow]
    by_cases hi : 1 = i
    · subst hi; rw [h]
    · simp [hi]
  refine ⟨e8 _ _ ?_, ?_, e2 _ _ ?_, ?_⟩
  · rw [mretN_3 _ hM, tb_entM s p hs]; rfl
  · rw [e8 (entM s p) 0 (by rw [tb_entM s p hs, Nat.zero_testBit]; rfl)]; rfl
  · rw [tb_sretN _ hS, if_neg (by decide), if_neg (by decide), if_neg (by decide), if_pos rfl, tb_entS s p hs]; rfl
  · rw [e2 (entS s p) 0 (by rw [tb_entS s p hs, Nat.zero_testBit]; rfl)]; rfl
theorem back_priv (s : Nat) (p : Int) (hs : s < 2 ^ 64) : entM s p / 2048 % 4 = whN p ∧ bitN (entS s p) 8 = whN p % 2 := by
  have hw := whN_lt p
  constructor
  · have h12 := tb_entM s p hs 12
    have h11 := tb_entM s p hs 11
    rw [if_pos rfl, Nat.testBit_eq_decide_div_mod_eq] at h12
    rw [if_neg (by decide), if_pos rfl, Nat.testBit_eq_decide_div_mod_eq] at h11
    have h12' : entM s p / 2 ^ 12 % 2 = 1 ↔ whN p / 2 = 1 := by simpa using h12
    have h11' : entM s p / 2 ^ 11 % 2 = 1 ↔ whN p % 2 = 1 := by simpa using h11
    omega
  · rw [bit_bool, tb_entS s p hs, if_pos rfl]
    by_cases h : whN p % 2 = 1
    · simp [h]
    · simp [h]; omega
theorem wh_small (p : Int) (h : p = 0 ∨ p = 1 ∨ p = 3) : (whN p : Int) = p := by
  rcases h with rfl | rfl | rfl <;> decide +kernel
theorem let_nat (a : Nat) (ha : a < 2 ^ 64) (m : Nat) (hm : m < 2 ^ 64) (M : Int) (hM : M = (m : Int)) : bits .and .u64 (a : Int) M = ((a &&& m : Nat) : Int) := l_and a ha m hm M hM
theorem walk (c : Nat → Int) (hc : csOk c) (p : Int) (hp : -9223372036854775808 ≤ p ∧ p ≤ 9223372036854775807) (pc : Int) (hpc : 0 ≤ pc ∧ pc < 18446744073709551616) (cause : Int) (hca : -9223372036854775808 ≤ cause ∧ cause ≤ 9223372036854775807) (irq : Bool) {W : World} (so : Ord W) :
    Calls Tryd.prog 6 #[csV c, .int .i64 p, .int .u64 pc, .int .i64 cause, .bool irq] W fun e w' => e = .returned (.bool true) ∧ Below W.heap.size W w' := by
  have HC := fun {W w : World} (hg : Grew W w) => check5_c c hc hg
  cases hk : chk5B c
  · rw [hk] at HC
    exact skip_bad c p pc cause irq HC so
  rw [hk] at HC
  by_cases hp3 : p = 0 ∨ p = 1 ∨ p = 3
  rotate_left
  · exact skip_no c p pc cause irq HC (by simp only [bne_iff_ne]; omega) (by simp only [bne_iff_ne]; omega) (by simp only [bne_iff_ne]; omega) so
  have hs := stN_lt hc
  have h0 := stN_is hc
  obtain ⟨ho, hr⟩ := (chk5_iff c (stN c) hs h0).mp hk
  obtain ⟨x0, x1, x2⟩ := pcV_ok pc hpc.1 hpc.2
  obtain ⟨l1, l2, l3, l4⟩ := back_let (stN c) p hs
  obtain ⟨q1, q2⟩ := back_priv (stN c) p hs
  have hw := wh_small p hp3
  have hwl := whN_lt p
  have HA := fun {W w : World} (_ : Ord W) (hg : Grew W w) => enter_p c hc p pc cause irq 0 hg
  have hk1 := kN_is cause
  have hk2 := kN_lt cause
  have wl : 0 ≤ whyV (kN cause) irq ∧ whyV (kN cause) irq < 18446744073709551616 := by
    unfold whyV
    split
    · rw [l_or _ hk2 9223372036854775808 (by decide) 9223372036854775808 rfl]
      have := or_lt hk2 (show 9223372036854775808 < 2 ^ 64 by decide)
      omega
    · omega
  have hM := entM_lt (stN c) p hs
  have hS := entS_lt (stN c) p hs
  cases ht : toS c p cause irq
  · obtain ⟨a0, a1, a2⟩ := place_even (c 5) (kN cause) irq (hc 5).1 (hc 5).2
    have eC : entC c p pc cause irq 0 = upd (upd (upd (upd c 0 (entM (stN c) p : Nat)) 8 (whyV (kN cause) irq)) 7 (pcV pc)) 9 0 := by unfold entC; rw [ht]; rfl
    have eP : entP c p cause irq = 3 := by unfold entP; rw [ht]; rfl
    have eA : entA c p cause irq = placeV (c 5) (kN cause) irq := by unfold entA; rw [ht]; rfl
    simp only [entV] at HA
    rw [eC, eP, eA] at HA
    obtain ⟨d, hd⟩ : ∃ d, d = upd (upd (upd (upd c 0 (entM (stN c) p : Nat)) 8 (whyV (kN cause) irq)) 7 (pcV pc)) 9 0 := ⟨_, rfl⟩
    rw [← hd] at HA
    have hdk : csOk d := by rw [hd]; exact upd_ok (upd_ok (upd_ok (upd_ok hc 0 _ (by omega) (by omega)) 8 _ wl.1 wl.2) 7 _ x0 x1) 9 0 (by decide) (by decide)
    have d0 : d 0 = (entM (stN c) p : Nat) := by rw [hd]; rfl
    have d7 : d 7 = pcV pc := by rw [hd]; rfl
    have sd : stN d = entM (stN c) p := by show (d 0).toNat = _; rw [d0]; simp
    have HD := fun {W w : World} (hg : Grew W w) => check5_c d hdk hg
    have kd : chk5B d = true := (chk5_iff d _ hM d0).mpr ⟨ok_entM _ p hs ho, by rw [hd]; exact rest_M c _ _ _ _ hr x2⟩
    rw [kd] at HD
    have HM := fun {W w : World} (_ : Ord W) (hg : Grew W w) => mret_p d hdk hg
    rw [sd, q1, d7, hw] at HM
    have hml := mretN_lt _ hM
    have hek : csOk (upd d 0 (mretN (entM (stN c) p) : Nat)) := upd_ok hdk 0 _ (by omega) (by omega)
    have HE := fun {W w : World} (hg : Grew W w) => check5_c _ hek hg
    have ke : chk5B (upd d 0 (mretN (entM (stN c) p) : Nat)) = true := (chk5_iff _ _ hml rfl).mpr ⟨ok_mretN _ hM (ok_entM _ p hs ho), by rw [hd]; exact rest_0 _ _ (rest_M c _ _ _ _ hr x2)⟩
    rw [ke] at HE
    have z0 : bits .and .u64 ((upd d 0 (mretN (entM (stN c) p) : Nat)) 0) 8 = ((stN c &&& 8 : Nat) : Int) := by
      show bits .and .u64 ((mretN (entM (stN c) p) : Nat) : Int) 8 = _
      rw [let_nat _ hml 8 (by decide) 8 rfl, l1]
    have z1 : bits .and .u64 (c 0) 8 = ((stN c &&& 8 : Nat) : Int) := by rw [h0, let_nat _ hs 8 (by decide) 8 rfl]
    have z2 : bits .and .u64 (d 0) 8 = 0 := by rw [d0, let_nat _ hM 8 (by decide) 8 rfl, l2]; rfl
    rcases hp3 with rfl | rfl | rfl
    · exact walk_m0 c d _ pc cause _ _ _ irq HC HD HE HA HM a0 a1 a2 rfl z0 z1 z2 so
    · exact walk_m1 c d _ pc cause _ _ _ irq HC HD HE HA HM a0 a1 a2 rfl z0 z1 z2 so
    · exact walk_m3 c d _ pc cause _ _ _ irq HC HD HE HA HM a0 a1 a2 rfl z0 z1 z2 so
  · obtain ⟨a0, a1, a2⟩ := place_even (c 10) (kN cause) irq (hc 10).1 (hc 10).2
    have eC : entC c p pc cause irq 0 = upd (upd (upd (upd c 0 (entS (stN c) p : Nat)) 13 (whyV (kN cause) irq)) 12 (pcV pc)) 14 0 := by unfold entC; rw [ht]; rfl
    have eP : entP c p cause irq = 1 := by unfold entP; rw [ht]; rfl
    have eA : entA c p cause irq = placeV (c 10) (kN cause) irq := by unfold entA; rw [ht]; rfl
    have hp1 : p ≤ 1 := by
      unfold toS at ht
      have := ((Bool.and_eq_true ..).mp ht).1
      simpa using this
    simp only [entV] at HA
    rw [eC, eP, eA] at HA
    obtain ⟨d, hd⟩ : ∃ d, d = upd (upd (upd (upd c 0 (entS (stN c) p : Nat)) 13 (whyV (kN cause) irq)) 12 (pcV pc)) 14 0 := ⟨_, rfl⟩
    rw [← hd] at HA
    have hdk : csOk d := by rw [hd]; exact upd_ok (upd_ok (upd_ok (upd_ok hc 0 _ (by omega) (by omega)) 13 _ wl.1 wl.2) 12 _ x0 x1) 14 0 (by decide) (by decide)
    have d0 : d 0 = (entS (stN c) p : Nat) := by rw [hd]; rfl
    have d12 : d 12 = pcV pc := by rw [hd]; rfl
    have sd : stN d = entS (stN c) p := by show (d 0).toNat = _; rw [d0]; simp
    have HD := fun {W w : World} (hg : Grew W w) => check5_c d hdk hg
    have kd : chk5B d = true := (chk5_iff d _ hS d0).mpr ⟨ok_entS _ p hs ho, by rw [hd]; exact rest_S c _ _ _ _ hr x2⟩
    rw [kd] at HD
    have HM := fun {W w : World} (_ : Ord W) (hg : Grew W w) => mret_p d hdk hg
    have HS := fun {W w : World} (_ : Ord W) (hg : Grew W w) => sret_p d hdk hg
    have hq : ((whN p % 2 : Nat) : Int) = p := by omega
    rw [sd, q2, d12, hq] at HS
    have hml := sretN_lt _ hS
    have hek : csOk (upd d 0 (sretN (entS (stN c) p) : Nat)) := upd_ok hdk 0 _ (by omega) (by omega)
    have HE := fun {W w : World} (hg : Grew W w) => check5_c _ hek hg
    have ke : chk5B (upd d 0 (sretN (entS (stN c) p) : Nat)) = true := (chk5_iff _ _ hml rfl).mpr ⟨ok_sretN _ hS (ok_entS _ p hs ho), by rw [hd]; exact rest_0 _ _ (rest_S c _ _ _ _ hr x2)⟩
    rw [ke] at HE
    have z0 : bits .and .u64 ((upd d 0 (sretN (entS (stN c) p) : Nat)) 0) 2 = ((stN c &&& 2 : Nat) : Int) := by
      show bits .and .u64 ((sretN (entS (stN c) p) : Nat) : Int) 2 = _
      rw [let_nat _ hml 2 (by decide) 2 rfl, l3]
    have z1 : bits .and .u64 (c 0) 2 = ((stN c &&& 2 : Nat) : Int) := by rw [h0, let_nat _ hs 2 (by decide) 2 rfl]
    have z2 : bits .and .u64 (d 0) 2 = 0 := by rw [d0, let_nat _ hS 2 (by decide) 2 rfl, l4]; rfl
    rcases hp3 with rfl | rfl | rfl
    · exact walk_s0 c d _ _ pc cause _ _ _ _ _ irq HC HD HE HA HM HS a0 a1 a2 rfl z0 z1 z2 so
    · exact walk_s1 c d _ _ pc cause _ _ _ _ _ irq HC HD HE HA HM HS a0 a1 a2 rfl z0 z1 z2 so
    · exact absurd hp1 (by decide)

set_option maxRecDepth 100000 in
theorem lifted (os : Os) (started : os.Started) (H : Type) (enc : TypeId × Value → H) :
    ReturnsInHanded {} Tryd.checked os 6 .any (fun w args => (Rows.trapBackSpec.pre enc Tryd.prog Tryd.f6 [] false w args ∧ laidMetH Tryd.prog laid2 w) ∧ sizedMet enc Tryd.prog Tryd.f6 (OpenSpec.ofChange Rows.trapBackSpec) false w args) (Rows.trapBackSpec.post enc Tryd.prog Tryd.f6 false true false false) := by
  refine returnsInHanded_of_change_and (C := Tryd.checked) (X := fun w _ => laidMetH Tryd.prog laid2 w) (fun _ _ _ hh h => h.of_heap hh) own started (by kernel_rfl) Tryd.func6
    (ChangeSpec.witness_shaped (enc := enc) (C := Tryd.checked) (os := os) (X := fun w _ => laidMetH Tryd.prog laid2 w) false (World.doorLaid Tryd.prog 400 os) #[.agg #[.int .u64 0, .int .u64 0, .int .u64 0, .int .u64 0, .int .u64 0, .int .u64 0, .int .u64 0, .int .u64 0, .int .u64 0, .int .u64 0, .int .u64 0, .int .u64 0, .int .u64 0, .int .u64 0, .int .u64 0, .int .u64 0, .int .u64 0], .int .i64 0, .int .u64 0, .int .i64 0, .bool false] 8 rfl (World.shaped_of_RefB (by kernel_rfl) (by kernel_rfl)) (by kernel_rfl) (by kernel_rfl) (by kernel_rfl) (door_met os _)) ?_
  intro W base args ds gs before hval0 hW _ _ hL _
  obtain ⟨a0, a1, sn⟩ := sen_of_laid hL
  have hval : ∀ (j : Nat) t v, Tryd.f6.params[j]? = some t → args[j]? = some v → Value.okWide Tryd.prog W .any base t v := hval0
  have hW' := hW
  obtain ⟨p, q, hA0, hV, rfl, hfz, hnd⟩ := hW
  have hA : DataW.TrodAll enc Tryd.prog W 0 (fun _ => true) true Tryd.f6.params.toList args.toList ds p := hA0
  rw [Tryd.params6] at hA hval
  obtain ⟨v0, vs0, d0, ds0, p0, q0, hargs, rfl, rfl, h0, r'0⟩ := trodAll_cons hA
  obtain ⟨v1, vs1, d1, ds1, p1, q1, rfl, rfl, rfl, h1, r'1⟩ := trodAll_cons r'0
  obtain ⟨v2, vs2, d2, ds2, p2, q2, rfl, rfl, rfl, h2, r'2⟩ := trodAll_cons r'1
  obtain ⟨v3, vs3, d3, ds3, p3, q3, rfl, rfl, rfl, h3, r'3⟩ := trodAll_cons r'2
  obtain ⟨v4, vs4, d4, ds4, p4, q4, rfl, rfl, rfl, h4, r'4⟩ := trodAll_cons r'3
  obtain ⟨rfl, rfl, rfl⟩ := trodAll_nil r'4
  obtain rfl : args = #[v0, v1, v2, v3, v4] := by cases args; simp_all
  obtain ⟨c0, rfl, k0⟩ := open_csrs (hval 0 24 v0 rfl rfl) h0
  obtain ⟨a1, rfl, rfl, rfl, w1⟩ := open_int Tryd.underlying3 (hval 1 3 v1 rfl rfl) h1
  obtain ⟨a2, rfl, rfl, rfl, w2⟩ := open_int Tryd.underlying22 (hval 2 22 v2 rfl rfl) h2
  obtain ⟨a3, rfl, rfl, rfl, w3⟩ := open_int Tryd.underlying3 (hval 3 3 v3 rfl rfl) h3
  obtain ⟨a4, rfl, rfl, rfl⟩ := open_bool Tryd.underlying4 (hval 4 4 v4 rfl rfl) h4
  refine (walk c0 k0 a1 (wf_i64 w1) a2 (wf_u64 w2) a3 (wf_i64 w3) a4 sn).mono fun e W' ⟨he, hb⟩ => ?_
  subst he
  exact ⟨_, rfl, law_post hW' rfl rfl laid (by kernel_rfl) rfl Tryd.underlying4 hb⟩

theorem over : Rows.trapBackRow.holds Tryd.pinned (OpenSpec.ofChange Rows.trapBackSpec) :=
  OpenClaim.holds_of_wide 6 Tryd.f6 rfl rfl rfl rfl rfl rfl rfl ⟨rfl, rfl, rfl, rfl, rfl⟩ rfl rfl rfl rfl rfl (by kernel_rfl) Tryd.func6 (by kernel_rfl)
    (of_decide_eq_true (by kernel_rfl)) (by unfold Func.isWrapper; first | (rw [if_pos (by decide +kernel)]; kernel_rfl) | (rw [if_neg (by decide +kernel)]; exact ⟨rfl, rfl⟩))
    (fun os started H enc _ => lifted os started H enc)

theorem proved : Rows.TrapBackCardSaid :=
  Claim7.holds_tied_plain_at .later [] Rows.trapBackCard.laidKinds true Rows.trapBackCard.stood.harness Rows.trapBackCard.stood.looks
    over (fun _ h => by cases h) (by kernel_rfl) (fun _ h => by cases h) trapBack_row_tie rfl ⟨rfl, rfl⟩ (by kernel_rfl) rfl
    (fun f fn hf hfn => by
      obtain rfl : f = 6 := Option.some.inj ((show Tryd.prog.funcNamed "drawbridge/drawbridgelaw06.TrapBack" = some 6 by kernel_rfl).symm.trans hf) |>.symm
      obtain rfl : fn = Tryd.f6 := (Option.some.inj (Tryd.func6.symm.trans hfn)).symm
      exact ⟨by kernel_rfl, fun j t ht => by
        have hall : (Tryd.f6.params.toList.all fun u => !Tryd.prog.wantsStandIn u) = true := by kernel_rfl
        have hm : t ∈ Tryd.f6.params.toList := by simpa using Array.mem_of_getElem? ht
        exact (show Tryd.prog.wantsStandIn t = false by simpa using List.all_eq_true.1 hall t hm)⟩)
    (by kernel_rfl)
#print axioms proved
end Go.Proofs.YtbkbbcfhmjodlaaDoor.TrapBack
