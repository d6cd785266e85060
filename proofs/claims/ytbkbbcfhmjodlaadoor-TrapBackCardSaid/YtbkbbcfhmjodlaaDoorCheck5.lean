/-
  The document's Check of registers (drawbridgeref05).
-/
import Derived.Test.YtbkbbcfhmjodlaaDoorTrapW
import Derived.Test.YtbkbbcfhmjodlaaDoorBitI
set_option linter.unusedVariables false
set_option linter.unusedSimpArgs false
namespace Go.Proofs.YtbkbbcfhmjodlaaDoor
open Go.RowKit

def statY (y : Int) : Int := if y / 2048 % 4 = 2 then y - 4096 else y
def statV (x : Int) : Int := statY (bits .and .u64 x 8264106)
theorem and_bd (x m : Int) (h0 : 0 ≤ x) (h1 : x < 18446744073709551616) (m0 : 0 ≤ m) (m1 : m < 18446744073709551616) : 0 ≤ bits .and .u64 x m ∧ bits .and .u64 x m < 18446744073709551616 := by
  rw [u64_and x m h0 h1 m0 m1]
  have := Nat.and_le_left (n := x.toNat) (m := m.toNat)
  omega
theorem status_c (x : Int) (h0 : 0 ≤ x) (h1 : x < 18446744073709551616) (w : World) : Calls Tryd.prog 31 #[.int .u64 x] w fun e w' => e = .returned (.int .u64 (statV x)) ∧ w = w' := by
  have hb := and_bd x 8264106 h0 h1 (by decide) (by decide)
  unfold statV
  obtain ⟨y, hy⟩ : ∃ y, y = bits .and .u64 x 8264106 := ⟨_, rfl⟩
  rw [← hy] at hb ⊢
  obtain ⟨y0, y1⟩ := hb
  have HY := hy.symm
  clear hy
  unfold statY
  by_cases h : y / 2048 % 4 = 2
  · rw [if_pos h]
    have y2 : 4096 ≤ y := by omega
    go_enter Tryd.func31, Tryd.ntmps31
    go_wp2
    go_ret
    exact ⟨rfl, rfl⟩
  · rw [if_neg h]
    have h' : (y / 2048 % 4 == 2) = false := by simpa using h
    clear h
    go_enter Tryd.func31, Tryd.ntmps31
    go_wp2
    go_ret
    exact ⟨rfl, rfl⟩


/-- Is each register as it could be written? (drawbridgeref05) -/
def chk5B (c : Nat → Int) : Bool := !(c 0 != statV (c 0)) && (!(bits .andNot .u64 (c 1) 46079 != 0) && (!(bits .andNot .u64 (c 2) 546 != 0) && (!(bits .andNot .u64 (c 3) 2730 != 0) && (!(bits .andNot .u64 (c 4) 2730 != 0) && ((bits .and .u64 (c 5) 2 == 0) && ((bits .and .u64 (c 10) 2 == 0) && ((bits .and .u64 (c 7) 1 == 0) && ((bits .and .u64 (c 12) 1 == 0) && ((c 15 / 1152921504606846976 == 0) || (c 15 / 1152921504606846976 == 8))))))))))

set_option maxRecDepth 100000 in
set_option maxHeartbeats 1000000 in
theorem check5_a0 (c : Nat → Int) (hc : csOk c) (e0 : (c 0 != statV (c 0)) = true)  {W w : World} (hg : Grew W w) : Calls Tryd.prog 17 #[csV c] w fun e w' => e = .returned (.bool false) ∧ Grew W w' := by
  obtain ⟨s0, s1⟩ := hc 0
  clear hc
  go_enter Tryd.func17, Tryd.ntmps17
  go_upto_region 1 with fail
  have g1 := hg.alloc (.cells (csA c) 24)
  have kb := Blk.new w (csA c) 24 _ rfl
  generalize w.alloc (.cells (csA c) 24) = w1 at *
  have y0 : w1.cell? ⟨w.heap.size, 0, none⟩ = some (.int .u64 (c 0)) := by rw [kb.cell, csA_0]
  have y1 : w1.cell? ⟨w.heap.size, 1, none⟩ = some (.int .u64 (c 1)) := by rw [kb.cell, csA_1]
  have y2 : w1.cell? ⟨w.heap.size, 2, none⟩ = some (.int .u64 (c 2)) := by rw [kb.cell, csA_2]
  have y3 : w1.cell? ⟨w.heap.size, 3, none⟩ = some (.int .u64 (c 3)) := by rw [kb.cell, csA_3]
  have y4 : w1.cell? ⟨w.heap.size, 4, none⟩ = some (.int .u64 (c 4)) := by rw [kb.cell, csA_4]
  go_wp2_with fail
  go_quiet ((go_at_call 31; exact Calls.quiet_of_same ((status_c _ s0 s1 _).mono fun _ _ ⟨h1, h2⟩ => ⟨h1, h2.symm⟩)))
  go_wp2_with fail
  go_ret
  exact ⟨rfl, g1.drewN _⟩

set_option maxRecDepth 100000 in
set_option maxHeartbeats 1000000 in
theorem check5_a1 (c : Nat → Int) (hc : csOk c) (e0 : (c 0 != statV (c 0)) = false) (e1 : (bits .andNot .u64 (c 1) 46079 != 0) = true)  {W w : World} (hg : Grew W w) : Calls Tryd.prog 17 #[csV c] w fun e w' => e = .returned (.bool false) ∧ Grew W w' := by
  obtain ⟨s0, s1⟩ := hc 0
  clear hc
  go_enter Tryd.func17, Tryd.ntmps17
  go_upto_region 1 with fail
  have g1 := hg.alloc (.cells (csA c) 24)
  have kb := Blk.new w (csA c) 24 _ rfl
  generalize w.alloc (.cells (csA c) 24) = w1 at *
  have y0 : w1.cell? ⟨w.heap.size, 0, none⟩ = some (.int .u64 (c 0)) := by rw [kb.cell, csA_0]
  have y1 : w1.cell? ⟨w.heap.size, 1, none⟩ = some (.int .u64 (c 1)) := by rw [kb.cell, csA_1]
  have y2 : w1.cell? ⟨w.heap.size, 2, none⟩ = some (.int .u64 (c 2)) := by rw [kb.cell, csA_2]
  have y3 : w1.cell? ⟨w.heap.size, 3, none⟩ = some (.int .u64 (c 3)) := by rw [kb.cell, csA_3]
  have y4 : w1.cell? ⟨w.heap.size, 4, none⟩ = some (.int .u64 (c 4)) := by rw [kb.cell, csA_4]
  go_wp2_with fail
  go_quiet ((go_at_call 31; exact Calls.quiet_of_same ((status_c _ s0 s1 _).mono fun _ _ ⟨h1, h2⟩ => ⟨h1, h2.symm⟩)))
  go_wp2_with fail
  go_ret
  exact ⟨rfl, g1.drewN _⟩

set_option maxRecDepth 100000 in
set_option maxHeartbeats 1000000 in
theorem check5_a2 (c : Nat → Int) (hc : csOk c) (e0 : (c 0 != statV (c 0)) = false) (e1 : (bits .andNot .u64 (c 1) 46079 != 0) = false) (e2 : (bits .andNot .u64 (c 2) 546 != 0) = true)  {W w : World} (hg : Grew W w) : Calls Tryd.prog 17 #[csV c] w fun e w' => e = .returned (.bool false) ∧ Grew W w' := by
  obtain ⟨s0, s1⟩ := hc 0
  clear hc
  go_enter Tryd.func17, Tryd.ntmps17
  go_upto_region 1 with fail
  have g1 := hg.alloc (.cells (csA c) 24)
  have kb := Blk.new w (csA c) 24 _ rfl
  generalize w.alloc (.cells (csA c) 24) = w1 at *
  have y0 : w1.cell? ⟨w.heap.size, 0, none⟩ = some (.int .u64 (c 0)) := by rw [kb.cell, csA_0]
  have y1 : w1.cell? ⟨w.heap.size, 1, none⟩ = some (.int .u64 (c 1)) := by rw [kb.cell, csA_1]
  have y2 : w1.cell? ⟨w.heap.size, 2, none⟩ = some (.int .u64 (c 2)) := by rw [kb.cell, csA_2]
  have y3 : w1.cell? ⟨w.heap.size, 3, none⟩ = some (.int .u64 (c 3)) := by rw [kb.cell, csA_3]
  have y4 : w1.cell? ⟨w.heap.size, 4, none⟩ = some (.int .u64 (c 4)) := by rw [kb.cell, csA_4]
  go_wp2_with fail
  go_quiet ((go_at_call 31; exact Calls.quiet_of_same ((status_c _ s0 s1 _).mono fun _ _ ⟨h1, h2⟩ => ⟨h1, h2.symm⟩)))
  go_wp2_with fail
  go_ret
  exact ⟨rfl, g1.drewN _⟩

set_option maxRecDepth 100000 in
set_option maxHeartbeats 1000000 in
theorem check5_a3 (c : Nat → Int) (hc : csOk c) (e0 : (c 0 != statV (c 0)) = false) (e1 : (bits .andNot .u64 (c 1) 46079 != 0) = false) (e2 : (bits .andNot .u64 (c 2) 546 != 0) = false) (e3 : (bits .andNot .u64 (c 3) 2730 != 0) = true)  {W w : World} (hg : Grew W w) : Calls Tryd.prog 17 #[csV c] w fun e w' => e = .returned (.bool false) ∧ Grew W w' := by
  obtain ⟨s0, s1⟩ := hc 0
  clear hc
  go_enter Tryd.func17, Tryd.ntmps17
  go_upto_region 1 with fail
  have g1 := hg.alloc (.cells (csA c) 24)
  have kb := Blk.new w (csA c) 24 _ rfl
  generalize w.alloc (.cells (csA c) 24) = w1 at *
  have y0 : w1.cell? ⟨w.heap.size, 0, none⟩ = some (.int .u64 (c 0)) := by rw [kb.cell, csA_0]
  have y1 : w1.cell? ⟨w.heap.size, 1, none⟩ = some (.int .u64 (c 1)) := by rw [kb.cell, csA_1]
  have y2 : w1.cell? ⟨w.heap.size, 2, none⟩ = some (.int .u64 (c 2)) := by rw [kb.cell, csA_2]
  have y3 : w1.cell? ⟨w.heap.size, 3, none⟩ = some (.int .u64 (c 3)) := by rw [kb.cell, csA_3]
  have y4 : w1.cell? ⟨w.heap.size, 4, none⟩ = some (.int .u64 (c 4)) := by rw [kb.cell, csA_4]
  go_wp2_with fail
  go_quiet ((go_at_call 31; exact Calls.quiet_of_same ((status_c _ s0 s1 _).mono fun _ _ ⟨h1, h2⟩ => ⟨h1, h2.symm⟩)))
  go_wp2_with fail
  go_ret
  exact ⟨rfl, g1.drewN _⟩

set_option maxRecDepth 100000 in
set_option maxHeartbeats 1000000 in
theorem check5_a4 (c : Nat → Int) (hc : csOk c) (e0 : (c 0 != statV (c 0)) = false) (e1 : (bits .andNot .u64 (c 1) 46079 != 0) = false) (e2 : (bits .andNot .u64 (c 2) 546 != 0) = false) (e3 : (bits .andNot .u64 (c 3) 2730 != 0) = false) (e4 : (bits .andNot .u64 (c 4) 2730 != 0) = true)  {W w : World} (hg : Grew W w) : Calls Tryd.prog 17 #[csV c] w fun e w' => e = .returned (.bool false) ∧ Grew W w' := by
  obtain ⟨s0, s1⟩ := hc 0
  clear hc
  go_enter Tryd.func17, Tryd.ntmps17
  go_upto_region 1 with fail
  have g1 := hg.alloc (.cells (csA c) 24)
  have kb := Blk.new w (csA c) 24 _ rfl
  generalize w.alloc (.cells (csA c) 24) = w1 at *
  have y0 : w1.cell? ⟨w.heap.size, 0, none⟩ = some (.int .u64 (c 0)) := by rw [kb.cell, csA_0]
  have y1 : w1.cell? ⟨w.heap.size, 1, none⟩ = some (.int .u64 (c 1)) := by rw [kb.cell, csA_1]
  have y2 : w1.cell? ⟨w.heap.size, 2, none⟩ = some (.int .u64 (c 2)) := by rw [kb.cell, csA_2]
  have y3 : w1.cell? ⟨w.heap.size, 3, none⟩ = some (.int .u64 (c 3)) := by rw [kb.cell, csA_3]
  have y4 : w1.cell? ⟨w.heap.size, 4, none⟩ = some (.int .u64 (c 4)) := by rw [kb.cell, csA_4]
  go_wp2_with fail
  go_quiet ((go_at_call 31; exact Calls.quiet_of_same ((status_c _ s0 s1 _).mono fun _ _ ⟨h1, h2⟩ => ⟨h1, h2.symm⟩)))
  go_wp2_with fail
  go_ret
  exact ⟨rfl, g1.drewN _⟩

set_option maxRecDepth 100000 in
set_option maxHeartbeats 1000000 in
theorem check5_b0 (c : Nat → Int) (hc : csOk c) (e0 : (c 0 != statV (c 0)) = false) (e1 : (bits .andNot .u64 (c 1) 46079 != 0) = false) (e2 : (bits .andNot .u64 (c 2) 546 != 0) = false) (e3 : (bits .andNot .u64 (c 3) 2730 != 0) = false) (e4 : (bits .andNot .u64 (c 4) 2730 != 0) = false) (f0 : (bits .and .u64 (c 5) 2 == 0) = false) {W w : World} (hg : Grew W w) : Calls Tryd.prog 17 #[csV c] w fun e w' => e = .returned (.bool false) ∧ Grew W w' := by
  obtain ⟨s0, s1⟩ := hc 0
  clear hc
  go_enter Tryd.func17, Tryd.ntmps17
  go_upto_region 1 with fail
  have g1 := hg.alloc (.cells (csA c) 24)
  have kb := Blk.new w (csA c) 24 _ rfl
  generalize w.alloc (.cells (csA c) 24) = w1 at *
  have y0 : w1.cell? ⟨w.heap.size, 0, none⟩ = some (.int .u64 (c 0)) := by rw [kb.cell, csA_0]
  have y1 : w1.cell? ⟨w.heap.size, 1, none⟩ = some (.int .u64 (c 1)) := by rw [kb.cell, csA_1]
  have y2 : w1.cell? ⟨w.heap.size, 2, none⟩ = some (.int .u64 (c 2)) := by rw [kb.cell, csA_2]
  have y3 : w1.cell? ⟨w.heap.size, 3, none⟩ = some (.int .u64 (c 3)) := by rw [kb.cell, csA_3]
  have y4 : w1.cell? ⟨w.heap.size, 4, none⟩ = some (.int .u64 (c 4)) := by rw [kb.cell, csA_4]
  have y5 : w1.cell? ⟨w.heap.size, 5, none⟩ = some (.int .u64 (c 5)) := by rw [kb.cell, csA_5]
  have y10 : w1.cell? ⟨w.heap.size, 10, none⟩ = some (.int .u64 (c 10)) := by rw [kb.cell, csA_10]
  have y7 : w1.cell? ⟨w.heap.size, 7, none⟩ = some (.int .u64 (c 7)) := by rw [kb.cell, csA_7]
  have y12 : w1.cell? ⟨w.heap.size, 12, none⟩ = some (.int .u64 (c 12)) := by rw [kb.cell, csA_12]
  have y15 : w1.cell? ⟨w.heap.size, 15, none⟩ = some (.int .u64 (c 15)) := by rw [kb.cell, csA_15]
  go_wp2_with fail
  go_quiet ((go_at_call 31; exact Calls.quiet_of_same ((status_c _ s0 s1 _).mono fun _ _ ⟨h1, h2⟩ => ⟨h1, h2.symm⟩)))
  go_wp2_with fail
  go_ret
  exact ⟨rfl, g1.drewN _⟩

set_option maxRecDepth 100000 in
set_option maxHeartbeats 1000000 in
theorem check5_b1 (c : Nat → Int) (hc : csOk c) (e0 : (c 0 != statV (c 0)) = false) (e1 : (bits .andNot .u64 (c 1) 46079 != 0) = false) (e2 : (bits .andNot .u64 (c 2) 546 != 0) = false) (e3 : (bits .andNot .u64 (c 3) 2730 != 0) = false) (e4 : (bits .andNot .u64 (c 4) 2730 != 0) = false) (f0 : (bits .and .u64 (c 5) 2 == 0) = true) (f1 : (bits .and .u64 (c 10) 2 == 0) = false) {W w : World} (hg : Grew W w) : Calls Tryd.prog 17 #[csV c] w fun e w' => e = .returned (.bool false) ∧ Grew W w' := by
  obtain ⟨s0, s1⟩ := hc 0
  clear hc
  go_enter Tryd.func17, Tryd.ntmps17
  go_upto_region 1 with fail
  have g1 := hg.alloc (.cells (csA c) 24)
  have kb := Blk.new w (csA c) 24 _ rfl
  generalize w.alloc (.cells (csA c) 24) = w1 at *
  have y0 : w1.cell? ⟨w.heap.size, 0, none⟩ = some (.int .u64 (c 0)) := by rw [kb.cell, csA_0]
  have y1 : w1.cell? ⟨w.heap.size, 1, none⟩ = some (.int .u64 (c 1)) := by rw [kb.cell, csA_1]
  have y2 : w1.cell? ⟨w.heap.size, 2, none⟩ = some (.int .u64 (c 2)) := by rw [kb.cell, csA_2]
  have y3 : w1.cell? ⟨w.heap.size, 3, none⟩ = some (.int .u64 (c 3)) := by rw [kb.cell, csA_3]
  have y4 : w1.cell? ⟨w.heap.size, 4, none⟩ = some (.int .u64 (c 4)) := by rw [kb.cell, csA_4]
  have y5 : w1.cell? ⟨w.heap.size, 5, none⟩ = some (.int .u64 (c 5)) := by rw [kb.cell, csA_5]
  have y10 : w1.cell? ⟨w.heap.size, 10, none⟩ = some (.int .u64 (c 10)) := by rw [kb.cell, csA_10]
  have y7 : w1.cell? ⟨w.heap.size, 7, none⟩ = some (.int .u64 (c 7)) := by rw [kb.cell, csA_7]
  have y12 : w1.cell? ⟨w.heap.size, 12, none⟩ = some (.int .u64 (c 12)) := by rw [kb.cell, csA_12]
  have y15 : w1.cell? ⟨w.heap.size, 15, none⟩ = some (.int .u64 (c 15)) := by rw [kb.cell, csA_15]
  go_wp2_with fail
  go_quiet ((go_at_call 31; exact Calls.quiet_of_same ((status_c _ s0 s1 _).mono fun _ _ ⟨h1, h2⟩ => ⟨h1, h2.symm⟩)))
  go_wp2_with fail
  go_ret
  exact ⟨rfl, g1.drewN _⟩

set_option maxRecDepth 100000 in
set_option maxHeartbeats 1000000 in
theorem check5_b2 (c : Nat → Int) (hc : csOk c) (e0 : (c 0 != statV (c 0)) = false) (e1 : (bits .andNot .u64 (c 1) 46079 != 0) = false) (e2 : (bits .andNot .u64 (c 2) 546 != 0) = false) (e3 : (bits .andNot .u64 (c 3) 2730 != 0) = false) (e4 : (bits .andNot .u64 (c 4) 2730 != 0) = false) (f0 : (bits .and .u64 (c 5) 2 == 0) = true) (f1 : (bits .and .u64 (c 10) 2 == 0) = true) (f2 : (bits .and .u64 (c 7) 1 == 0) = false) {W w : World} (hg : Grew W w) : Calls Tryd.prog 17 #[csV c] w fun e w' => e = .returned (.bool false) ∧ Grew W w' := by
  obtain ⟨s0, s1⟩ := hc 0
  clear hc
  go_enter Tryd.func17, Tryd.ntmps17
  go_upto_region 1 with fail
  have g1 := hg.alloc (.cells (csA c) 24)
  have kb := Blk.new w (csA c) 24 _ rfl
  generalize w.alloc (.cells (csA c) 24) = w1 at *
  have y0 : w1.cell? ⟨w.heap.size, 0, none⟩ = some (.int .u64 (c 0)) := by rw [kb.cell, csA_0]
  have y1 : w1.cell? ⟨w.heap.size, 1, none⟩ = some (.int .u64 (c 1)) := by rw [kb.cell, csA_1]
  have y2 : w1.cell? ⟨w.heap.size, 2, none⟩ = some (.int .u64 (c 2)) := by rw [kb.cell, csA_2]
  have y3 : w1.cell? ⟨w.heap.size, 3, none⟩ = some (.int .u64 (c 3)) := by rw [kb.cell, csA_3]
  have y4 : w1.cell? ⟨w.heap.size, 4, none⟩ = some (.int .u64 (c 4)) := by rw [kb.cell, csA_4]
  have y5 : w1.cell? ⟨w.heap.size, 5, none⟩ = some (.int .u64 (c 5)) := by rw [kb.cell, csA_5]
  have y10 : w1.cell? ⟨w.heap.size, 10, none⟩ = some (.int .u64 (c 10)) := by rw [kb.cell, csA_10]
  have y7 : w1.cell? ⟨w.heap.size, 7, none⟩ = some (.int .u64 (c 7)) := by rw [kb.cell, csA_7]
  have y12 : w1.cell? ⟨w.heap.size, 12, none⟩ = some (.int .u64 (c 12)) := by rw [kb.cell, csA_12]
  have y15 : w1.cell? ⟨w.heap.size, 15, none⟩ = some (.int .u64 (c 15)) := by rw [kb.cell, csA_15]
  go_wp2_with fail
  go_quiet ((go_at_call 31; exact Calls.quiet_of_same ((status_c _ s0 s1 _).mono fun _ _ ⟨h1, h2⟩ => ⟨h1, h2.symm⟩)))
  go_wp2_with fail
  go_ret
  exact ⟨rfl, g1.drewN _⟩

set_option maxRecDepth 100000 in
set_option maxHeartbeats 1000000 in
theorem check5_b3 (c : Nat → Int) (hc : csOk c) (e0 : (c 0 != statV (c 0)) = false) (e1 : (bits .andNot .u64 (c 1) 46079 != 0) = false) (e2 : (bits .andNot .u64 (c 2) 546 != 0) = false) (e3 : (bits .andNot .u64 (c 3) 2730 != 0) = false) (e4 : (bits .andNot .u64 (c 4) 2730 != 0) = false) (f0 : (bits .and .u64 (c 5) 2 == 0) = true) (f1 : (bits .and .u64 (c 10) 2 == 0) = true) (f2 : (bits .and .u64 (c 7) 1 == 0) = true) (f3 : (bits .and .u64 (c 12) 1 == 0) = false) {W w : World} (hg : Grew W w) : Calls Tryd.prog 17 #[csV c] w fun e w' => e = .returned (.bool false) ∧ Grew W w' := by
  obtain ⟨s0, s1⟩ := hc 0
  clear hc
  go_enter Tryd.func17, Tryd.ntmps17
  go_upto_region 1 with fail
  have g1 := hg.alloc (.cells (csA c) 24)
  have kb := Blk.new w (csA c) 24 _ rfl
  generalize w.alloc (.cells (csA c) 24) = w1 at *
  have y0 : w1.cell? ⟨w.heap.size, 0, none⟩ = some (.int .u64 (c 0)) := by rw [kb.cell, csA_0]
  have y1 : w1.cell? ⟨w.heap.size, 1, none⟩ = some (.int .u64 (c 1)) := by rw [kb.cell, csA_1]
  have y2 : w1.cell? ⟨w.heap.size, 2, none⟩ = some (.int .u64 (c 2)) := by rw [kb.cell, csA_2]
  have y3 : w1.cell? ⟨w.heap.size, 3, none⟩ = some (.int .u64 (c 3)) := by rw [kb.cell, csA_3]
  have y4 : w1.cell? ⟨w.heap.size, 4, none⟩ = some (.int .u64 (c 4)) := by rw [kb.cell, csA_4]
  have y5 : w1.cell? ⟨w.heap.size, 5, none⟩ = some (.int .u64 (c 5)) := by rw [kb.cell, csA_5]
  have y10 : w1.cell? ⟨w.heap.size, 10, none⟩ = some (.int .u64 (c 10)) := by rw [kb.cell, csA_10]
  have y7 : w1.cell? ⟨w.heap.size, 7, none⟩ = some (.int .u64 (c 7)) := by rw [kb.cell, csA_7]
  have y12 : w1.cell? ⟨w.heap.size, 12, none⟩ = some (.int .u64 (c 12)) := by rw [kb.cell, csA_12]
  have y15 : w1.cell? ⟨w.heap.size, 15, none⟩ = some (.int .u64 (c 15)) := by rw [kb.cell, csA_15]
  go_wp2_with fail
  go_quiet ((go_at_call 31; exact Calls.quiet_of_same ((status_c _ s0 s1 _).mono fun _ _ ⟨h1, h2⟩ => ⟨h1, h2.symm⟩)))
  go_wp2_with fail
  go_ret
  exact ⟨rfl, g1.drewN _⟩

set_option maxRecDepth 100000 in
set_option maxHeartbeats 1000000 in
theorem check5_c0 (c : Nat → Int) (hc : csOk c) (e0 : (c 0 != statV (c 0)) = false) (e1 : (bits .andNot .u64 (c 1) 46079 != 0) = false) (e2 : (bits .andNot .u64 (c 2) 546 != 0) = false) (e3 : (bits .andNot .u64 (c 3) 2730 != 0) = false) (e4 : (bits .andNot .u64 (c 4) 2730 != 0) = false) (f0 : (bits .and .u64 (c 5) 2 == 0) = true) (f1 : (bits .and .u64 (c 10) 2 == 0) = true) (f2 : (bits .and .u64 (c 7) 1 == 0) = true) (f3 : (bits .and .u64 (c 12) 1 == 0) = true) (f4 : (c 15 / 1152921504606846976 == 0) = true) {W w : World} (hg : Grew W w) : Calls Tryd.prog 17 #[csV c] w fun e w' => e = .returned (.bool true) ∧ Grew W w' := by
  obtain ⟨s0, s1⟩ := hc 0
  clear hc
  go_enter Tryd.func17, Tryd.ntmps17
  go_upto_region 1 with fail
  have g1 := hg.alloc (.cells (csA c) 24)
  have kb := Blk.new w (csA c) 24 _ rfl
  generalize w.alloc (.cells (csA c) 24) = w1 at *
  have y0 : w1.cell? ⟨w.heap.size, 0, none⟩ = some (.int .u64 (c 0)) := by rw [kb.cell, csA_0]
  have y1 : w1.cell? ⟨w.heap.size, 1, none⟩ = some (.int .u64 (c 1)) := by rw [kb.cell, csA_1]
  have y2 : w1.cell? ⟨w.heap.size, 2, none⟩ = some (.int .u64 (c 2)) := by rw [kb.cell, csA_2]
  have y3 : w1.cell? ⟨w.heap.size, 3, none⟩ = some (.int .u64 (c 3)) := by rw [kb.cell, csA_3]
  have y4 : w1.cell? ⟨w.heap.size, 4, none⟩ = some (.int .u64 (c 4)) := by rw [kb.cell, csA_4]
  have y5 : w1.cell? ⟨w.heap.size, 5, none⟩ = some (.int .u64 (c 5)) := by rw [kb.cell, csA_5]
  have y10 : w1.cell? ⟨w.heap.size, 10, none⟩ = some (.int .u64 (c 10)) := by rw [kb.cell, csA_10]
  have y7 : w1.cell? ⟨w.heap.size, 7, none⟩ = some (.int .u64 (c 7)) := by rw [kb.cell, csA_7]
  have y12 : w1.cell? ⟨w.heap.size, 12, none⟩ = some (.int .u64 (c 12)) := by rw [kb.cell, csA_12]
  have y15 : w1.cell? ⟨w.heap.size, 15, none⟩ = some (.int .u64 (c 15)) := by rw [kb.cell, csA_15]
  go_wp2_with fail
  go_quiet ((go_at_call 31; exact Calls.quiet_of_same ((status_c _ s0 s1 _).mono fun _ _ ⟨h1, h2⟩ => ⟨h1, h2.symm⟩)))
  go_wp2_with fail
  go_ret
  exact ⟨rfl, g1.drewN _⟩

set_option maxRecDepth 100000 in
set_option maxHeartbeats 1000000 in
theorem check5_c1 (c : Nat → Int) (hc : csOk c) (e0 : (c 0 != statV (c 0)) = false) (e1 : (bits .andNot .u64 (c 1) 46079 != 0) = false) (e2 : (bits .andNot .u64 (c 2) 546 != 0) = false) (e3 : (bits .andNot .u64 (c 3) 2730 != 0) = false) (e4 : (bits .andNot .u64 (c 4) 2730 != 0) = false) (f0 : (bits .and .u64 (c 5) 2 == 0) = true) (f1 : (bits .and .u64 (c 10) 2 == 0) = true) (f2 : (bits .and .u64 (c 7) 1 == 0) = true) (f3 : (bits .and .u64 (c 12) 1 == 0) = true) (f4 : (c 15 / 1152921504606846976 == 0) = false) (f5 : (c 15 / 1152921504606846976 == 8) = true) {W w : World} (hg : Grew W w) : Calls Tryd.prog 17 #[csV c] w fun e w' => e = .returned (.bool true) ∧ Grew W w' := by
  obtain ⟨s0, s1⟩ := hc 0
  clear hc
  go_enter Tryd.func17, Tryd.ntmps17
  go_upto_region 1 with fail
  have g1 := hg.alloc (.cells (csA c) 24)
  have kb := Blk.new w (csA c) 24 _ rfl
  generalize w.alloc (.cells (csA c) 24) = w1 at *
  have y0 : w1.cell? ⟨w.heap.size, 0, none⟩ = some (.int .u64 (c 0)) := by rw [kb.cell, csA_0]
  have y1 : w1.cell? ⟨w.heap.size, 1, none⟩ = some (.int .u64 (c 1)) := by rw [kb.cell, csA_1]
  have y2 : w1.cell? ⟨w.heap.size, 2, none⟩ = some (.int .u64 (c 2)) := by rw [kb.cell, csA_2]
  have y3 : w1.cell? ⟨w.heap.size, 3, none⟩ = some (.int .u64 (c 3)) := by rw [kb.cell, csA_3]
  have y4 : w1.cell? ⟨w.heap.size, 4, none⟩ = some (.int .u64 (c 4)) := by rw [kb.cell, csA_4]
  have y5 : w1.cell? ⟨w.heap.size, 5, none⟩ = some (.int .u64 (c 5)) := by rw [kb.cell, csA_5]
  have y10 : w1.cell? ⟨w.heap.size, 10, none⟩ = some (.int .u64 (c 10)) := by rw [kb.cell, csA_10]
  have y7 : w1.cell? ⟨w.heap.size, 7, none⟩ = some (.int .u64 (c 7)) := by rw [kb.cell, csA_7]
  have y12 : w1.cell? ⟨w.heap.size, 12, none⟩ = some (.int .u64 (c 12)) := by rw [kb.cell, csA_12]
  have y15 : w1.cell? ⟨w.heap.size, 15, none⟩ = some (.int .u64 (c 15)) := by rw [kb.cell, csA_15]
  go_wp2_with fail
  go_quiet ((go_at_call 31; exact Calls.quiet_of_same ((status_c _ s0 s1 _).mono fun _ _ ⟨h1, h2⟩ => ⟨h1, h2.symm⟩)))
  go_wp2_with fail
  go_ret
  exact ⟨rfl, g1.drewN _⟩

set_option maxRecDepth 100000 in
set_option maxHeartbeats 1000000 in
theorem check5_c2 (c : Nat → Int) (hc : csOk c) (e0 : (c 0 != statV (c 0)) = false) (e1 : (bits .andNot .u64 (c 1) 46079 != 0) = false) (e2 : (bits .andNot .u64 (c 2) 546 != 0) = false) (e3 : (bits .andNot .u64 (c 3) 2730 != 0) = false) (e4 : (bits .andNot .u64 (c 4) 2730 != 0) = false) (f0 : (bits .and .u64 (c 5) 2 == 0) = true) (f1 : (bits .and .u64 (c 10) 2 == 0) = true) (f2 : (bits .and .u64 (c 7) 1 == 0) = true) (f3 : (bits .and .u64 (c 12) 1 == 0) = true) (f4 : (c 15 / 1152921504606846976 == 0) = false) (f5 : (c 15 / 1152921504606846976 == 8) = false) {W w : World} (hg : Grew W w) : Calls Tryd.prog 17 #[csV c] w fun e w' => e = .returned (.bool false) ∧ Grew W w' := by
  obtain ⟨s0, s1⟩ := hc 0
  clear hc
  go_enter Tryd.func17, Tryd.ntmps17
  go_upto_region 1 with fail
  have g1 := hg.alloc (.cells (csA c) 24)
  have kb := Blk.new w (csA c) 24 _ rfl
  generalize w.alloc (.cells (csA c) 24) = w1 at *
  have y0 : w1.cell? ⟨w.heap.size, 0, none⟩ = some (.int .u64 (c 0)) := by rw [kb.cell, csA_0]
  have y1 : w1.cell? ⟨w.heap.size, 1, none⟩ = some (.int .u64 (c 1)) := by rw [kb.cell, csA_1]
  have y2 : w1.cell? ⟨w.heap.size, 2, none⟩ = some (.int .u64 (c 2)) := by rw [kb.cell, csA_2]
  have y3 : w1.cell? ⟨w.heap.size, 3, none⟩ = some (.int .u64 (c 3)) := by rw [kb.cell, csA_3]
  have y4 : w1.cell? ⟨w.heap.size, 4, none⟩ = some (.int .u64 (c 4)) := by rw [kb.cell, csA_4]
  have y5 : w1.cell? ⟨w.heap.size, 5, none⟩ = some (.int .u64 (c 5)) := by rw [kb.cell, csA_5]
  have y10 : w1.cell? ⟨w.heap.size, 10, none⟩ = some (.int .u64 (c 10)) := by rw [kb.cell, csA_10]
  have y7 : w1.cell? ⟨w.heap.size, 7, none⟩ = some (.int .u64 (c 7)) := by rw [kb.cell, csA_7]
  have y12 : w1.cell? ⟨w.heap.size, 12, none⟩ = some (.int .u64 (c 12)) := by rw [kb.cell, csA_12]
  have y15 : w1.cell? ⟨w.heap.size, 15, none⟩ = some (.int .u64 (c 15)) := by rw [kb.cell, csA_15]
  go_wp2_with fail
  go_quiet ((go_at_call 31; exact Calls.quiet_of_same ((status_c _ s0 s1 _).mono fun _ _ ⟨h1, h2⟩ => ⟨h1, h2.symm⟩)))
  go_wp2_with fail
  go_ret
  exact ⟨rfl, g1.drewN _⟩

theorem check5_c (c : Nat → Int) (hc : csOk c) {W w : World} (hg : Grew W w) : Calls Tryd.prog 17 #[csV c] w fun e w' => e = .returned (.bool (chk5B c)) ∧ Grew W w' := by
  unfold chk5B
  cases e0 : (c 0 != statV (c 0))
  rotate_left
  · simpa using check5_a0 c hc e0 hg
  cases e1 : (bits .andNot .u64 (c 1) 46079 != 0)
  rotate_left
  · simpa using check5_a1 c hc e0 e1 hg
  cases e2 : (bits .andNot .u64 (c 2) 546 != 0)
  rotate_left
  · simpa using check5_a2 c hc e0 e1 e2 hg
  cases e3 : (bits .andNot .u64 (c 3) 2730 != 0)
  rotate_left
  · simpa using check5_a3 c hc e0 e1 e2 e3 hg
  cases e4 : (bits .andNot .u64 (c 4) 2730 != 0)
  rotate_left
  · simpa using check5_a4 c hc e0 e1 e2 e3 e4 hg
  cases f0 : (bits .and .u64 (c 5) 2 == 0)
  · simpa using check5_b0 c hc e0 e1 e2 e3 e4 f0 hg
  cases f1 : (bits .and .u64 (c 10) 2 == 0)
  · simpa using check5_b1 c hc e0 e1 e2 e3 e4 f0 f1 hg
  cases f2 : (bits .and .u64 (c 7) 1 == 0)
  · simpa using check5_b2 c hc e0 e1 e2 e3 e4 f0 f1 f2 hg
  cases f3 : (bits .and .u64 (c 12) 1 == 0)
  · simpa using check5_b3 c hc e0 e1 e2 e3 e4 f0 f1 f2 f3 hg
  cases f4 : (c 15 / 1152921504606846976 == 0)
  · cases f5 : (c 15 / 1152921504606846976 == 8)
    · simpa using check5_c2 c hc e0 e1 e2 e3 e4 f0 f1 f2 f3 f4 f5 hg
    · simpa using check5_c1 c hc e0 e1 e2 e3 e4 f0 f1 f2 f3 f4 f5 hg
  · simpa using check5_c0 c hc e0 e1 e2 e3 e4 f0 f1 f2 f3 f4 hg
end Go.Proofs.YtbkbbcfhmjodlaaDoor
