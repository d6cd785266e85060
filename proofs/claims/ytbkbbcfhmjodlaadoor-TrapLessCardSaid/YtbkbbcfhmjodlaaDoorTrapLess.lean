/-
  The statement TrapLess: for all registers and privilege: the interrupt that package trap's Pending answers is pending and enabled, and Enter leads it to no privilege below the one that it comes to; where none comes, the number is 0. Conditions: none but those of the statement's row (the package variable as the text lays it).
-/
import Derived.Test.YtbkbbcfhmjodlaaDoorTrpM
import Derived.Test.YtbkbbcfhmjodlaaDoorCards
import Derived.Test.YtbkbbcfhmjodlaaDoorTie
import Derived.SevenTiedAt
set_option linter.unusedVariables false
set_option linter.unusedSimpArgs false
namespace Go.Proofs.YtbkbbcfhmjodlaaDoor.TrapLess
open Go.ChangeShapes Go.WideShapes Go.ChangeAt Go.RowKit

set_option maxRecDepth 100000 in
set_option maxHeartbeats 2000000 in
theorem walk_none (c : Nat → Int) (p : Int) (HA : ∀ {W w : World}, Ord W → Grew W w → Calls Tryd.prog 8 #[csV c, .int .i64 p] w fun e w' => e = .returned (.tuple #[.int .i64 0, .bool false]) ∧ Grew W w') {W : World} (so : Ord W) :
    Calls Tryd.prog 7 #[csV c, .int .i64 p] W fun e w' => e = .returned (.bool true) ∧ Below W.heap.size W w' := by
  have g0 := (Grew.refl W).alloc (.cells (csA c) 24)
  go_enter Tryd.func7, Tryd.ntmps7
  go_wp2_with (first
    | ((with_reducible refine ld_cs rfl (.tmp 2) rfl _ rfl (Blk.new W _ _ _ rfl) ?_ ?_); (rotate_left 1))
    | fail)
  refine (HA (so.grew g0) (Grew.refl _)).mono ?_
  rintro e w1 ⟨rfl, h1⟩
  have g1 := g0.trans h1
  clear HA h1 g0
  go_wp2_with fail
  refine (heads_c (so.grew g1) (Grew.refl _)).mono ?_
  rintro e w2 ⟨rfl, h2⟩
  have g2 := g1.trans h2
  go_wp2_with fail
  · go_ret
    exact ⟨rfl, g2⟩
  all_goals rfl

set_option maxRecDepth 100000 in
set_option maxHeartbeats 2000000 in
theorem walk_11 (c d : Nat → Int) (p q x : Int) (HA : ∀ {W w : World}, Ord W → Grew W w → Calls Tryd.prog 8 #[csV c, .int .i64 p] w fun e w' => e = .returned (.tuple #[.int .i64 11, .bool true]) ∧ Grew W w')
    (HB : ∀ {W w : World}, Ord W → Grew W w → Calls Tryd.prog 10 #[csV c, .int .i64 p, .int .u64 0, .int .i64 11, .bool true, .int .u64 0] w fun e w' => e = .returned (.tuple #[csV d, .int .i64 q, .int .u64 x]) ∧ Grew W w')
    (hm : (bits .and .u64 (c 4) 2048 == 0) = false) (he : (bits .and .u64 (c 3) 2048 == 0) = false) (hq : decide (min p 3 ≤ q) = true) {W : World} (so : Ord W) :
    Calls Tryd.prog 7 #[csV c, .int .i64 p] W fun e w' => e = .returned (.bool true) ∧ Below W.heap.size W w' := by
  have g0 := (Grew.refl W).alloc (.cells (csA c) 24)
  go_enter Tryd.func7, Tryd.ntmps7
  go_wp2_with (first
    | ((with_reducible refine ld_cs rfl (.tmp 2) rfl _ rfl (Blk.new W _ _ _ rfl) ?_ ?_); (rotate_left 1))
    | fail)
  refine (HA (so.grew g0) (Grew.refl _)).mono ?_
  rintro e w1 ⟨rfl, h1⟩
  have g1 := g0.trans h1
  have k1 := (Blk.new W (csA c) 24 _ rfl).grew h1
  have n1 := k1.lt
  clear HA h1 g0
  have y4 : w1.cell? ⟨W.heap.size, 4, none⟩ = some (.int .u64 (c 4)) := by rw [k1.cell, csA_4]
  have y3 : w1.cell? ⟨W.heap.size, 3, none⟩ = some (.int .u64 (c 3)) := by rw [k1.cell, csA_3]
  go_wp2_with (first
    | ((with_reducible refine ld_cs rfl (.tmp 2) rfl _ rfl k1 ?_ ?_); (rotate_left 1))
    | fail)
  refine (HB (so.grew g1) (Grew.refl _)).mono ?_
  rintro e w2 ⟨rfl, h2⟩
  have g2 := g1.trans h2
  have k2 := k1.grew h2
  have n2 := k2.lt
  clear HB h2 g1 n1 k1 y3 y4
  go_wp2_with (first
    | ((with_reducible refine st_csG rfl (.tmp 8) (.tmp 66) rfl rfl d (Blk.new w2 _ _ _ rfl) ?_ ?_ ?_ (g2.alloc _) (Nat.le_of_lt n2) ?_); (rotate_left 3); intro w3 _ g3 _ _)
    | (go_at_call 9; refine (heads_c (so.grew g3) (Grew.refl _)).mono ?_; rintro e w4 ⟨rfl, h4⟩; have g4 := g3.trans h4)
    | fail)
  all_goals first
    | (exfalso; have := of_decide_eq_true hq; omega)
    | (go_ret; exact ⟨rfl, g4⟩)
    | rfl

set_option maxRecDepth 100000 in
set_option maxHeartbeats 2000000 in
theorem walk_3 (c d : Nat → Int) (p q x : Int) (HA : ∀ {W w : World}, Ord W → Grew W w → Calls Tryd.prog 8 #[csV c, .int .i64 p] w fun e w' => e = .returned (.tuple #[.int .i64 3, .bool true]) ∧ Grew W w')
    (HB : ∀ {W w : World}, Ord W → Grew W w → Calls Tryd.prog 10 #[csV c, .int .i64 p, .int .u64 0, .int .i64 3, .bool true, .int .u64 0] w fun e w' => e = .returned (.tuple #[csV d, .int .i64 q, .int .u64 x]) ∧ Grew W w')
    (hm : (bits .and .u64 (c 4) 8 == 0) = false) (he : (bits .and .u64 (c 3) 8 == 0) = false) (hq : decide (min p 3 ≤ q) = true) {W : World} (so : Ord W) :
    Calls Tryd.prog 7 #[csV c, .int .i64 p] W fun e w' => e = .returned (.bool true) ∧ Below W.heap.size W w' := by
  have g0 := (Grew.refl W).alloc (.cells (csA c) 24)
  go_enter Tryd.func7, Tryd.ntmps7
  go_wp2_with (first
    | ((with_reducible refine ld_cs rfl (.tmp 2) rfl _ rfl (Blk.new W _ _ _ rfl) ?_ ?_); (rotate_left 1))
    | fail)
  refine (HA (so.grew g0) (Grew.refl _)).mono ?_
  rintro e w1 ⟨rfl, h1⟩
  have g1 := g0.trans h1
  have k1 := (Blk.new W (csA c) 24 _ rfl).grew h1
  have n1 := k1.lt
  clear HA h1 g0
  have y4 : w1.cell? ⟨W.heap.size, 4, none⟩ = some (.int .u64 (c 4)) := by rw [k1.cell, csA_4]
  have y3 : w1.cell? ⟨W.heap.size, 3, none⟩ = some (.int .u64 (c 3)) := by rw [k1.cell, csA_3]
  go_wp2_with (first
    | ((with_reducible refine ld_cs rfl (.tmp 2) rfl _ rfl k1 ?_ ?_); (rotate_left 1))
    | fail)
  refine (HB (so.grew g1) (Grew.refl _)).mono ?_
  rintro e w2 ⟨rfl, h2⟩
  have g2 := g1.trans h2
  have k2 := k1.grew h2
  have n2 := k2.lt
  clear HB h2 g1 n1 k1 y3 y4
  go_wp2_with (first
    | ((with_reducible refine st_csG rfl (.tmp 8) (.tmp 66) rfl rfl d (Blk.new w2 _ _ _ rfl) ?_ ?_ ?_ (g2.alloc _) (Nat.le_of_lt n2) ?_); (rotate_left 3); intro w3 _ g3 _ _)
    | (go_at_call 9; refine (heads_c (so.grew g3) (Grew.refl _)).mono ?_; rintro e w4 ⟨rfl, h4⟩; have g4 := g3.trans h4)
    | fail)
  all_goals first
    | (exfalso; have := of_decide_eq_true hq; omega)
    | (go_ret; exact ⟨rfl, g4⟩)
    | rfl

set_option maxRecDepth 100000 in
set_option maxHeartbeats 2000000 in
theorem walk_7 (c d : Nat → Int) (p q x : Int) (HA : ∀ {W w : World}, Ord W → Grew W w → Calls Tryd.prog 8 #[csV c, .int .i64 p] w fun e w' => e = .returned (.tuple #[.int .i64 7, .bool true]) ∧ Grew W w')
    (HB : ∀ {W w : World}, Ord W → Grew W w → Calls Tryd.prog 10 #[csV c, .int .i64 p, .int .u64 0, .int .i64 7, .bool true, .int .u64 0] w fun e w' => e = .returned (.tuple #[csV d, .int .i64 q, .int .u64 x]) ∧ Grew W w')
    (hm : (bits .and .u64 (c 4) 128 == 0) = false) (he : (bits .and .u64 (c 3) 128 == 0) = false) (hq : decide (min p 3 ≤ q) = true) {W : World} (so : Ord W) :
    Calls Tryd.prog 7 #[csV c, .int .i64 p] W fun e w' => e = .returned (.bool true) ∧ Below W.heap.size W w' := by
  have g0 := (Grew.refl W).alloc (.cells (csA c) 24)
  go_enter Tryd.func7, Tryd.ntmps7
  go_wp2_with (first
    | ((with_reducible refine ld_cs rfl (.tmp 2) rfl _ rfl (Blk.new W _ _ _ rfl) ?_ ?_); (rotate_left 1))
    | fail)
  refine (HA (so.grew g0) (Grew.refl _)).mono ?_
  rintro e w1 ⟨rfl, h1⟩
  have g1 := g0.trans h1
  have k1 := (Blk.new W (csA c) 24 _ rfl).grew h1
  have n1 := k1.lt
  clear HA h1 g0
  have y4 : w1.cell? ⟨W.heap.size, 4, none⟩ = some (.int .u64 (c 4)) := by rw [k1.cell, csA_4]
  have y3 : w1.cell? ⟨W.heap.size, 3, none⟩ = some (.int .u64 (c 3)) := by rw [k1.cell, csA_3]
  go_wp2_with (first
    | ((with_reducible refine ld_cs rfl (.tmp 2) rfl _ rfl k1 ?_ ?_); (rotate_left 1))
    | fail)
  refine (HB (so.grew g1) (Grew.refl _)).mono ?_
  rintro e w2 ⟨rfl, h2⟩
  have g2 := g1.trans h2
  have k2 := k1.grew h2
  have n2 := k2.lt
  clear HB h2 g1 n1 k1 y3 y4
  go_wp2_with (first
    | ((with_reducible refine st_csG rfl (.tmp 8) (.tmp 66) rfl rfl d (Blk.new w2 _ _ _ rfl) ?_ ?_ ?_ (g2.alloc _) (Nat.le_of_lt n2) ?_); (rotate_left 3); intro w3 _ g3 _ _)
    | (go_at_call 9; refine (heads_c (so.grew g3) (Grew.refl _)).mono ?_; rintro e w4 ⟨rfl, h4⟩; have g4 := g3.trans h4)
    | fail)
  all_goals first
    | (exfalso; have := of_decide_eq_true hq; omega)
    | (go_ret; exact ⟨rfl, g4⟩)
    | rfl

set_option maxRecDepth 100000 in
set_option maxHeartbeats 2000000 in
theorem walk_9 (c d : Nat → Int) (p q x : Int) (HA : ∀ {W w : World}, Ord W → Grew W w → Calls Tryd.prog 8 #[csV c, .int .i64 p] w fun e w' => e = .returned (.tuple #[.int .i64 9, .bool true]) ∧ Grew W w')
    (HB : ∀ {W w : World}, Ord W → Grew W w → Calls Tryd.prog 10 #[csV c, .int .i64 p, .int .u64 0, .int .i64 9, .bool true, .int .u64 0] w fun e w' => e = .returned (.tuple #[csV d, .int .i64 q, .int .u64 x]) ∧ Grew W w')
    (hm : (bits .and .u64 (c 4) 512 == 0) = false) (he : (bits .and .u64 (c 3) 512 == 0) = false) (hq : decide (min p 3 ≤ q) = true) {W : World} (so : Ord W) :
    Calls Tryd.prog 7 #[csV c, .int .i64 p] W fun e w' => e = .returned (.bool true) ∧ Below W.heap.size W w' := by
  have g0 := (Grew.refl W).alloc (.cells (csA c) 24)
  go_enter Tryd.func7, Tryd.ntmps7
  go_wp2_with (first
    | ((with_reducible refine ld_cs rfl (.tmp 2) rfl _ rfl (Blk.new W _ _ _ rfl) ?_ ?_); (rotate_left 1))
    | fail)
  refine (HA (so.grew g0) (Grew.refl _)).mono ?_
  rintro e w1 ⟨rfl, h1⟩
  have g1 := g0.trans h1
  have k1 := (Blk.new W (csA c) 24 _ rfl).grew h1
  have n1 := k1.lt
  clear HA h1 g0
  have y4 : w1.cell? ⟨W.heap.size, 4, none⟩ = some (.int .u64 (c 4)) := by rw [k1.cell, csA_4]
  have y3 : w1.cell? ⟨W.heap.size, 3, none⟩ = some (.int .u64 (c 3)) := by rw [k1.cell, csA_3]
  go_wp2_with (first
    | ((with_reducible refine ld_cs rfl (.tmp 2) rfl _ rfl k1 ?_ ?_); (rotate_left 1))
    | fail)
  refine (HB (so.grew g1) (Grew.refl _)).mono ?_
  rintro e w2 ⟨rfl, h2⟩
  have g2 := g1.trans h2
  have k2 := k1.grew h2
  have n2 := k2.lt
  clear HB h2 g1 n1 k1 y3 y4
  go_wp2_with (first
    | ((with_reducible refine st_csG rfl (.tmp 8) (.tmp 66) rfl rfl d (Blk.new w2 _ _ _ rfl) ?_ ?_ ?_ (g2.alloc _) (Nat.le_of_lt n2) ?_); (rotate_left 3); intro w3 _ g3 _ _)
    | (go_at_call 9; refine (heads_c (so.grew g3) (Grew.refl _)).mono ?_; rintro e w4 ⟨rfl, h4⟩; have g4 := g3.trans h4)
    | fail)
  all_goals first
    | (exfalso; have := of_decide_eq_true hq; omega)
    | (go_ret; exact ⟨rfl, g4⟩)
    | rfl

set_option maxRecDepth 100000 in
set_option maxHeartbeats 2000000 in
theorem walk_1 (c d : Nat → Int) (p q x : Int) (HA : ∀ {W w : World}, Ord W → Grew W w → Calls Tryd.prog 8 #[csV c, .int .i64 p] w fun e w' => e = .returned (.tuple #[.int .i64 1, .bool true]) ∧ Grew W w')
    (HB : ∀ {W w : World}, Ord W → Grew W w → Calls Tryd.prog 10 #[csV c, .int .i64 p, .int .u64 0, .int .i64 1, .bool true, .int .u64 0] w fun e w' => e = .returned (.tuple #[csV d, .int .i64 q, .int .u64 x]) ∧ Grew W w')
    (hm : (bits .and .u64 (c 4) 2 == 0) = false) (he : (bits .and .u64 (c 3) 2 == 0) = false) (hq : decide (min p 3 ≤ q) = true) {W : World} (so : Ord W) :
    Calls Tryd.prog 7 #[csV c, .int .i64 p] W fun e w' => e = .returned (.bool true) ∧ Below W.heap.size W w' := by
  have g0 := (Grew.refl W).alloc (.cells (csA c) 24)
  go_enter Tryd.func7, Tryd.ntmps7
  go_wp2_with (first
    | ((with_reducible refine ld_cs rfl (.tmp 2) rfl _ rfl (Blk.new W _ _ _ rfl) ?_ ?_); (rotate_left 1))
    | fail)
  refine (HA (so.grew g0) (Grew.refl _)).mono ?_
  rintro e w1 ⟨rfl, h1⟩
  have g1 := g0.trans h1
  have k1 := (Blk.new W (csA c) 24 _ rfl).grew h1
  have n1 := k1.lt
  clear HA h1 g0
  have y4 : w1.cell? ⟨W.heap.size, 4, none⟩ = some (.int .u64 (c 4)) := by rw [k1.cell, csA_4]
  have y3 : w1.cell? ⟨W.heap.size, 3, none⟩ = some (.int .u64 (c 3)) := by rw [k1.cell, csA_3]
  go_wp2_with (first
    | ((with_reducible refine ld_cs rfl (.tmp 2) rfl _ rfl k1 ?_ ?_); (rotate_left 1))
    | fail)
  refine (HB (so.grew g1) (Grew.refl _)).mono ?_
  rintro e w2 ⟨rfl, h2⟩
  have g2 := g1.trans h2
  have k2 := k1.grew h2
  have n2 := k2.lt
  clear HB h2 g1 n1 k1 y3 y4
  go_wp2_with (first
    | ((with_reducible refine st_csG rfl (.tmp 8) (.tmp 66) rfl rfl d (Blk.new w2 _ _ _ rfl) ?_ ?_ ?_ (g2.alloc _) (Nat.le_of_lt n2) ?_); (rotate_left 3); intro w3 _ g3 _ _)
    | (go_at_call 9; refine (heads_c (so.grew g3) (Grew.refl _)).mono ?_; rintro e w4 ⟨rfl, h4⟩; have g4 := g3.trans h4)
    | fail)
  all_goals first
    | (exfalso; have := of_decide_eq_true hq; omega)
    | (go_ret; exact ⟨rfl, g4⟩)
    | rfl

set_option maxRecDepth 100000 in
set_option maxHeartbeats 2000000 in
theorem walk_5 (c d : Nat → Int) (p q x : Int) (HA : ∀ {W w : World}, Ord W → Grew W w → Calls Tryd.prog 8 #[csV c, .int .i64 p] w fun e w' => e = .returned (.tuple #[.int .i64 5, .bool true]) ∧ Grew W w')
    (HB : ∀ {W w : World}, Ord W → Grew W w → Calls Tryd.prog 10 #[csV c, .int .i64 p, .int .u64 0, .int .i64 5, .bool true, .int .u64 0] w fun e w' => e = .returned (.tuple #[csV d, .int .i64 q, .int .u64 x]) ∧ Grew W w')
    (hm : (bits .and .u64 (c 4) 32 == 0) = false) (he : (bits .and .u64 (c 3) 32 == 0) = false) (hq : decide (min p 3 ≤ q) = true) {W : World} (so : Ord W) :
    Calls Tryd.prog 7 #[csV c, .int .i64 p] W fun e w' => e = .returned (.bool true) ∧ Below W.heap.size W w' := by
  have g0 := (Grew.refl W).alloc (.cells (csA c) 24)
  go_enter Tryd.func7, Tryd.ntmps7
  go_wp2_with (first
    | ((with_reducible refine ld_cs rfl (.tmp 2) rfl _ rfl (Blk.new W _ _ _ rfl) ?_ ?_); (rotate_left 1))
    | fail)
  refine (HA (so.grew g0) (Grew.refl _)).mono ?_
  rintro e w1 ⟨rfl, h1⟩
  have g1 := g0.trans h1
  have k1 := (Blk.new W (csA c) 24 _ rfl).grew h1
  have n1 := k1.lt
  clear HA h1 g0
  have y4 : w1.cell? ⟨W.heap.size, 4, none⟩ = some (.int .u64 (c 4)) := by rw [k1.cell, csA_4]
  have y3 : w1.cell? ⟨W.heap.size, 3, none⟩ = some (.int .u64 (c 3)) := by rw [k1.cell, csA_3]
  go_wp2_with (first
    | ((with_reducible refine ld_cs rfl (.tmp 2) rfl _ rfl k1 ?_ ?_); (rotate_left 1))
    | fail)
  refine (HB (so.grew g1) (Grew.refl _)).mono ?_
  rintro e w2 ⟨rfl, h2⟩
  have g2 := g1.trans h2
  have k2 := k1.grew h2
  have n2 := k2.lt
  clear HB h2 g1 n1 k1 y3 y4
  go_wp2_with (first
    | ((with_reducible refine st_csG rfl (.tmp 8) (.tmp 66) rfl rfl d (Blk.new w2 _ _ _ rfl) ?_ ?_ ?_ (g2.alloc _) (Nat.le_of_lt n2) ?_); (rotate_left 3); intro w3 _ g3 _ _)
    | (go_at_call 9; refine (heads_c (so.grew g3) (Grew.refl _)).mono ?_; rintro e w4 ⟨rfl, h4⟩; have g4 := g3.trans h4)
    | fail)
  all_goals first
    | (exfalso; have := of_decide_eq_true hq; omega)
    | (go_ret; exact ⟨rfl, g4⟩)
    | rfl

theorem bit_not (x : Int) (h0 : 0 ≤ x) (h1 : x < 18446744073709551616) (n : Nat) (B : Int) (hB : B = ((2 ^ n : Nat) : Int)) (hn : n < 64) (h : x.toNat.testBit n = true) : (bits .and .u64 x B == 0) = false := by
  obtain ⟨k, hk, rfl⟩ := nat_of h0 h1
  rw [hB, b_and k _ hk (pow_lt64 hn), beq_eq_false_iff_ne]
  intro h'
  have h2 : k &&& 2 ^ n = 0 := by omega
  rw [and_pow] at h2
  rw [show ((k : Int)).toNat = k by simp, h2] at h
  cases h
theorem walk (c : Nat → Int) (hc : csOk c) (p : Int) (hp : -9223372036854775808 ≤ p ∧ p ≤ 9223372036854775807) {W : World} (so : Ord W) :
    Calls Tryd.prog 7 #[csV c, .int .i64 p] W fun e w' => e = .returned (.bool true) ∧ Below W.heap.size W w' := by
  have h4 := hc 4
  have h2 := hc 2
  have HA := fun {W w : World} (so : Ord W) (hg : Grew W w) => pend_p c hc p so hg
  cases hb : penBc c p
  · have hi : penIc c p = 0 := pen_none hb
    rw [hb, hi] at HA
    exact walk_none c p HA so
  · obtain ⟨j, hj, hi, hm, he⟩ := pen_some (by omega) (by omega) hb
    change penIc c p = _ at hi
    rw [hb, hi] at HA
    have hq : decide (min p 3 ≤ entP c p (ordA j : Nat) true) = true := by
      rw [decide_eq_true_iff]
      have := min_entP c p (ordA j : Nat) true
      omega
    have HB := fun {W w : World} (_ : Ord W) (hg : Grew W w) => enter_p c hc p 0 (ordA j : Nat) true 0 hg
    obtain rfl | rfl | rfl | rfl | rfl | rfl : j = 0 ∨ j = 1 ∨ j = 2 ∨ j = 3 ∨ j = 4 ∨ j = 5 := by omega
    · exact walk_11 c _ p _ _ HA HB (bit_not _ (hc 4).1 (hc 4).2 11 _ (by decide) (by decide) hm) (bit_not _ (hc 3).1 (hc 3).2 11 _ (by decide) (by decide) he) hq so
    · exact walk_3 c _ p _ _ HA HB (bit_not _ (hc 4).1 (hc 4).2 3 _ (by decide) (by decide) hm) (bit_not _ (hc 3).1 (hc 3).2 3 _ (by decide) (by decide) he) hq so
    · exact walk_7 c _ p _ _ HA HB (bit_not _ (hc 4).1 (hc 4).2 7 _ (by decide) (by decide) hm) (bit_not _ (hc 3).1 (hc 3).2 7 _ (by decide) (by decide) he) hq so
    · exact walk_9 c _ p _ _ HA HB (bit_not _ (hc 4).1 (hc 4).2 9 _ (by decide) (by decide) hm) (bit_not _ (hc 3).1 (hc 3).2 9 _ (by decide) (by decide) he) hq so
    · exact walk_1 c _ p _ _ HA HB (bit_not _ (hc 4).1 (hc 4).2 1 _ (by decide) (by decide) hm) (bit_not _ (hc 3).1 (hc 3).2 1 _ (by decide) (by decide) he) hq so
    · exact walk_5 c _ p _ _ HA HB (bit_not _ (hc 4).1 (hc 4).2 5 _ (by decide) (by decide) hm) (bit_not _ (hc 3).1 (hc 3).2 5 _ (by decide) (by decide) he) hq so

set_option maxRecDepth 100000 in
theorem lifted (os : Os) (started : os.Started) (H : Type) (enc : TypeId × Value → H) :
    ReturnsInHanded {} Tryd.checked os 7 .any (fun w args => (Rows.trapLessSpec.pre enc Tryd.prog Tryd.f7 [] false w args ∧ laidMetH Tryd.prog laid2 w) ∧ sizedMet enc Tryd.prog Tryd.f7 (OpenSpec.ofChange Rows.trapLessSpec) false w args) (Rows.trapLessSpec.post enc Tryd.prog Tryd.f7 false true false false) := by
  refine returnsInHanded_of_change_and (C := Tryd.checked) (X := fun w _ => laidMetH Tryd.prog laid2 w) (fun _ _ _ hh h => h.of_heap hh) own started (by kernel_rfl) Tryd.func7
    (ChangeSpec.witness_shaped (enc := enc) (C := Tryd.checked) (os := os) (X := fun w _ => laidMetH Tryd.prog laid2 w) false (World.doorLaid Tryd.prog 400 os) #[.agg #[.int .u64 0, .int .u64 0, .int .u64 0, .int .u64 0, .int .u64 0, .int .u64 0, .int .u64 0, .int .u64 0, .int .u64 0, .int .u64 0, .int .u64 0, .int .u64 0, .int .u64 0, .int .u64 0, .int .u64 0, .int .u64 0, .int .u64 0], .int .i64 0] 8 rfl (World.shaped_of_RefB (by kernel_rfl) (by kernel_rfl)) (by kernel_rfl) (by kernel_rfl) (by kernel_rfl) (door_met os _)) ?_
  intro W base args ds gs before hval0 hW _ _ hL _
  obtain ⟨a0, a1, sn⟩ := sen_of_laid hL
  have hval : ∀ (j : Nat) t v, Tryd.f7.params[j]? = some t → args[j]? = some v → Value.okWide Tryd.prog W .any base t v := hval0
  have hW' := hW
  obtain ⟨p, q, hA0, hV, rfl, hfz, hnd⟩ := hW
  have hA : DataW.TrodAll enc Tryd.prog W 0 (fun _ => true) true Tryd.f7.params.toList args.toList ds p := hA0
  rw [Tryd.params7] at hA hval
  obtain ⟨v0, vs0, d0, ds0, p0, q0, hargs, rfl, rfl, h0, r'0⟩ := trodAll_cons hA
  obtain ⟨v1, vs1, d1, ds1, p1, q1, rfl, rfl, rfl, h1, r'1⟩ := trodAll_cons r'0
  obtain ⟨rfl, rfl, rfl⟩ := trodAll_nil r'1
  obtain rfl : args = #[v0, v1] := by cases args; simp_all
  obtain ⟨c0, rfl, k0⟩ := open_csrs (hval 0 24 v0 rfl rfl) h0
  obtain ⟨a1, rfl, rfl, rfl, w1⟩ := open_int Tryd.underlying3 (hval 1 3 v1 rfl rfl) h1
  refine (walk c0 k0 a1 (wf_i64 w1) sn).mono fun e W' ⟨he, hb⟩ => ?_
  subst he
  exact ⟨_, rfl, law_post hW' rfl rfl laid (by kernel_rfl) rfl Tryd.underlying4 hb⟩

theorem over : Rows.trapLessRow.holds Tryd.pinned (OpenSpec.ofChange Rows.trapLessSpec) :=
  OpenClaim.holds_of_wide 7 Tryd.f7 rfl rfl rfl rfl rfl rfl rfl ⟨rfl, rfl, rfl, rfl, rfl⟩ rfl rfl rfl rfl rfl (by kernel_rfl) Tryd.func7 (by kernel_rfl)
    (of_decide_eq_true (by kernel_rfl)) (by unfold Func.isWrapper; first | (rw [if_pos (by decide +kernel)]; kernel_rfl) | (rw [if_neg (by decide +kernel)]; exact ⟨rfl, rfl⟩))
    (fun os started H enc _ => lifted os started H enc)

theorem proved : Rows.TrapLessCardSaid :=
  Claim7.holds_tied_plain_at .later [] Rows.trapLessCard.laidKinds true Rows.trapLessCard.stood.harness Rows.trapLessCard.stood.looks
    over (fun _ h => by cases h) (by kernel_rfl) (fun _ h => by cases h) trapLess_row_tie rfl ⟨rfl, rfl⟩ (by kernel_rfl) rfl
    (fun f fn hf hfn => by
      obtain rfl : f = 7 := Option.some.inj ((show Tryd.prog.funcNamed "drawbridge/drawbridgelaw06.TrapLess" = some 7 by kernel_rfl).symm.trans hf) |>.symm
      obtain rfl : fn = Tryd.f7 := (Option.some.inj (Tryd.func7.symm.trans hfn)).symm
      exact ⟨by kernel_rfl, fun j t ht => by
        have hall : (Tryd.f7.params.toList.all fun u => !Tryd.prog.wantsStandIn u) = true := by kernel_rfl
        have hm : t ∈ Tryd.f7.params.toList := by simpa using Array.mem_of_getElem? ht
        exact (show Tryd.prog.wantsStandIn t = false by simpa using List.all_eq_true.1 hall t hm)⟩)
    (by kernel_rfl)
#print axioms proved
end Go.Proofs.YtbkbbcfhmjodlaaDoor.TrapLess
