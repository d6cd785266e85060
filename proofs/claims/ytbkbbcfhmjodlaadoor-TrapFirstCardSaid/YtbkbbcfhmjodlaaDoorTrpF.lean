/-
  Package trap: Pending.
-/
import Derived.Test.YtbkbbcfhmjodlaaDoorTrpE
set_option linter.unusedVariables false
set_option linter.unusedSimpArgs false
namespace Go.Proofs.YtbkbbcfhmjodlaaDoor
open Go.RowKit

theorem of_one (s n : Nat) : ofP s n 1 = bitN s n := Nat.and_two_pow_sub_one_eq_mod _ 1

set_option maxRecDepth 100000 in
set_option maxHeartbeats 2000000 in
theorem pendp_a1 (c : Nat → Int) (m e d s : Nat) (hm : m < 2 ^ 64) (he : e < 2 ^ 64) (hd : d < 2 ^ 64) (hs : s < 2 ^ 64) (c4 : c 4 = (m : Int)) (c3 : c 3 = (e : Int)) (c2 : c 2 = (d : Int)) (c0 : c 0 = (s : Int)) (p : Int) (p3 : decide (p < 3) = true) (b1 : firB (ndn (m &&& e) d) = true) {W w : World} (so : Ord W) (hg : Grew W w) :
    Calls Tryd.prog 8 #[csV c, .int .i64 p] w fun e' w' => e' = .returned (.tuple #[.int .i64 (firI (ndn (m &&& e) d)), .bool true]) ∧ Grew W w' := by
  have E1 := b_and m e hm he
  have E2 := b_not _ d (and_lt m e hm) hd
  have E3 := b_and _ d (and_lt m e hm) hd
  have X1 := Lib.hid (ndn_lt (m &&& e) d (and_lt m e hm))
  have X2 := Lib.hid (and_lt (m &&& e) d (and_lt m e hm))
  have HS := Lib.hid hs
  clear hm he hd hs
  go_enter Tryd.func8, Tryd.ntmps8
  go_upto_region 1 with fail
  have g1 := hg.alloc (.cells (csA c) 24)
  have kb := Blk.new w (csA c) 24 _ rfl
  generalize w.alloc (.cells (csA c) 24) = w1 at *
  have y3 : w1.cell? ⟨w.heap.size, 3, none⟩ = some (.int .u64 (e : Nat)) := by rw [kb.cell, csA_3, c3]
  have y4 : w1.cell? ⟨w.heap.size, 4, none⟩ = some (.int .u64 (m : Nat)) := by rw [kb.cell, csA_4, c4]
  go_upto_region 2 with fail
  clear y3 y4 E1
  have yz := fun z : Over w1 => kb.overCell 0 (.int .u64 (s : Nat)) (by rw [csA_0, c0]) z
  refine region_over (by kernel_rfl) (by kernel_rfl) ?_
  repeat (first | go_big_quiet_step ((first | (go_at_call 18; with_reducible exact over_eq (machine_c (Over.g _))) | (go_at_call 19; with_reducible exact over_eq (open_c 3 7 11 3 s (by decide) HS.out (Over.g _))))) | quiet_step ((first | (go_at_call 18; with_reducible exact over_eq (machine_c (Over.g _))) | (go_at_call 19; with_reducible exact over_eq (open_c 3 7 11 3 s (by decide) HS.out (Over.g _))))))
  refine wpQuiet_nil ?_
  intro z
  have gz := g1.trans z.g
  have kz := kb.over z
  generalize z.w = wz at *
  clear yz z
  have y2 : wz.cell? ⟨w.heap.size, 2, none⟩ = some (.int .u64 (d : Nat)) := by rw [kz.cell, csA_2, c2]
  go_wp2_with fail
  refine (firstp_c _ X1.out (so.grew gz) (Grew.refl _)).mono ?_
  rintro e' w3 ⟨rfl, g3'⟩
  have g3 := gz.trans g3'
  have k3 := kz.grew g3'
  clear y2 g3' kz
  clear g1 kb
  go_wp2_with fail
  go_ret2
  exact ⟨rfl, g3⟩

set_option maxRecDepth 100000 in
set_option maxHeartbeats 2000000 in
theorem pendp_a2 (c : Nat → Int) (m e d s : Nat) (hm : m < 2 ^ 64) (he : e < 2 ^ 64) (hd : d < 2 ^ 64) (hs : s < 2 ^ 64) (c4 : c 4 = (m : Int)) (c3 : c 3 = (e : Int)) (c2 : c 2 = (d : Int)) (c0 : c 0 = (s : Int)) (p : Int) (p3 : decide (p < 3) = false) (s3 : (((ofP s 3 1 : Nat) : Int) == 1) = true) (b1 : firB (ndn (m &&& e) d) = true) {W w : World} (so : Ord W) (hg : Grew W w) :
    Calls Tryd.prog 8 #[csV c, .int .i64 p] w fun e' w' => e' = .returned (.tuple #[.int .i64 (firI (ndn (m &&& e) d)), .bool true]) ∧ Grew W w' := by
  have E1 := b_and m e hm he
  have E2 := b_not _ d (and_lt m e hm) hd
  have E3 := b_and _ d (and_lt m e hm) hd
  have X1 := Lib.hid (ndn_lt (m &&& e) d (and_lt m e hm))
  have X2 := Lib.hid (and_lt (m &&& e) d (and_lt m e hm))
  have HS := Lib.hid hs
  clear hm he hd hs
  go_enter Tryd.func8, Tryd.ntmps8
  go_upto_region 1 with fail
  have g1 := hg.alloc (.cells (csA c) 24)
  have kb := Blk.new w (csA c) 24 _ rfl
  generalize w.alloc (.cells (csA c) 24) = w1 at *
  have y3 : w1.cell? ⟨w.heap.size, 3, none⟩ = some (.int .u64 (e : Nat)) := by rw [kb.cell, csA_3, c3]
  have y4 : w1.cell? ⟨w.heap.size, 4, none⟩ = some (.int .u64 (m : Nat)) := by rw [kb.cell, csA_4, c4]
  go_upto_region 2 with fail
  clear y3 y4 E1
  have yz := fun z : Over w1 => kb.overCell 0 (.int .u64 (s : Nat)) (by rw [csA_0, c0]) z
  refine region_over (by kernel_rfl) (by kernel_rfl) ?_
  repeat (first | go_big_quiet_step ((first | (go_at_call 18; with_reducible exact over_eq (machine_c (Over.g _))) | (go_at_call 19; with_reducible exact over_eq (open_c 3 7 11 3 s (by decide) HS.out (Over.g _))))) | quiet_step ((first | (go_at_call 18; with_reducible exact over_eq (machine_c (Over.g _))) | (go_at_call 19; with_reducible exact over_eq (open_c 3 7 11 3 s (by decide) HS.out (Over.g _))))))
  refine wpQuiet_nil ?_
  intro z
  have gz := g1.trans z.g
  have kz := kb.over z
  generalize z.w = wz at *
  clear yz z
  have y2 : wz.cell? ⟨w.heap.size, 2, none⟩ = some (.int .u64 (d : Nat)) := by rw [kz.cell, csA_2, c2]
  go_wp2_with fail
  refine (firstp_c _ X1.out (so.grew gz) (Grew.refl _)).mono ?_
  rintro e' w3 ⟨rfl, g3'⟩
  have g3 := gz.trans g3'
  have k3 := kz.grew g3'
  clear y2 g3' kz
  clear g1 kb
  go_wp2_with fail
  go_ret2
  exact ⟨rfl, g3⟩

set_option maxRecDepth 100000 in
set_option maxHeartbeats 2000000 in
theorem pendp_u (c : Nat → Int) (m e d s : Nat) (hm : m < 2 ^ 64) (he : e < 2 ^ 64) (hd : d < 2 ^ 64) (hs : s < 2 ^ 64) (c4 : c 4 = (m : Int)) (c3 : c 3 = (e : Int)) (c2 : c 2 = (d : Int)) (c0 : c 0 = (s : Int)) (p : Int) (p3 : decide (p < 3) = true) (b1 : firB (ndn (m &&& e) d) = false) (p1 : decide (p < 1) = true) {W w : World} (so : Ord W) (hg : Grew W w) :
    Calls Tryd.prog 8 #[csV c, .int .i64 p] w fun e' w' => e' = .returned (.tuple #[.int .i64 (firI (m &&& e &&& d)), .bool (firB (m &&& e &&& d))]) ∧ Grew W w' := by
  have E1 := b_and m e hm he
  have E2 := b_not _ d (and_lt m e hm) hd
  have E3 := b_and _ d (and_lt m e hm) hd
  have X1 := Lib.hid (ndn_lt (m &&& e) d (and_lt m e hm))
  have X2 := Lib.hid (and_lt (m &&& e) d (and_lt m e hm))
  have HS := Lib.hid hs
  clear hm he hd hs
  go_enter Tryd.func8, Tryd.ntmps8
  go_upto_region 1 with fail
  have g1 := hg.alloc (.cells (csA c) 24)
  have kb := Blk.new w (csA c) 24 _ rfl
  generalize w.alloc (.cells (csA c) 24) = w1 at *
  have y3 : w1.cell? ⟨w.heap.size, 3, none⟩ = some (.int .u64 (e : Nat)) := by rw [kb.cell, csA_3, c3]
  have y4 : w1.cell? ⟨w.heap.size, 4, none⟩ = some (.int .u64 (m : Nat)) := by rw [kb.cell, csA_4, c4]
  go_upto_region 2 with fail
  clear y3 y4 E1
  have yz := fun z : Over w1 => kb.overCell 0 (.int .u64 (s : Nat)) (by rw [csA_0, c0]) z
  refine region_over (by kernel_rfl) (by kernel_rfl) ?_
  repeat (first | go_big_quiet_step ((first | (go_at_call 18; with_reducible exact over_eq (machine_c (Over.g _))) | (go_at_call 19; with_reducible exact over_eq (open_c 3 7 11 3 s (by decide) HS.out (Over.g _))))) | quiet_step ((first | (go_at_call 18; with_reducible exact over_eq (machine_c (Over.g _))) | (go_at_call 19; with_reducible exact over_eq (open_c 3 7 11 3 s (by decide) HS.out (Over.g _))))))
  refine wpQuiet_nil ?_
  intro z
  have gz := g1.trans z.g
  have kz := kb.over z
  generalize z.w = wz at *
  clear yz z
  have y2 : wz.cell? ⟨w.heap.size, 2, none⟩ = some (.int .u64 (d : Nat)) := by rw [kz.cell, csA_2, c2]
  go_wp2_with fail
  refine (firstp_c _ X1.out (so.grew gz) (Grew.refl _)).mono ?_
  rintro e' w3 ⟨rfl, g3'⟩
  have g3 := gz.trans g3'
  have k3 := kz.grew g3'
  clear y2 g3' kz
  clear g1 kb
  go_upto_region 6 with fail
  have yz := fun z : Over w3 => k3.overCell 0 (.int .u64 (s : Nat)) (by rw [csA_0, c0]) z
  refine region_over (by kernel_rfl) (by kernel_rfl) ?_
  repeat (first | go_big_quiet_step ((first | (go_at_call 21; with_reducible exact over_eq (supervisor_c (Over.g _))) | (go_at_call 19; with_reducible exact over_eq (open_c 1 5 8 1 s (by decide) HS.out (Over.g _))))) | quiet_step ((first | (go_at_call 21; with_reducible exact over_eq (supervisor_c (Over.g _))) | (go_at_call 19; with_reducible exact over_eq (open_c 1 5 8 1 s (by decide) HS.out (Over.g _))))))
  refine wpQuiet_nil ?_
  intro z
  have g4 := g3.trans z.g
  have k4 := k3.over z
  generalize z.w = w4 at *
  clear yz z
  have y2 : w4.cell? ⟨w.heap.size, 2, none⟩ = some (.int .u64 (d : Nat)) := by rw [k4.cell, csA_2, c2]
  clear g3 k3
  go_wp2_with fail
  refine (firstp_c _ X2.out so g4).mono ?_
  rintro e' w5 ⟨rfl, g5⟩
  go_wp2_with fail
  go_ret2
  exact ⟨rfl, g5⟩

set_option maxRecDepth 100000 in
set_option maxHeartbeats 2000000 in
theorem pendp_s1 (c : Nat → Int) (m e d s : Nat) (hm : m < 2 ^ 64) (he : e < 2 ^ 64) (hd : d < 2 ^ 64) (hs : s < 2 ^ 64) (c4 : c 4 = (m : Int)) (c3 : c 3 = (e : Int)) (c2 : c 2 = (d : Int)) (c0 : c 0 = (s : Int)) (p : Int) (p3 : decide (p < 3) = true) (b1 : firB (ndn (m &&& e) d) = false) (p1 : decide (p < 1) = false) (q1 : (p == 1) = true) (s1 : (((ofP s 1 1 : Nat) : Int) == 1) = true) {W w : World} (so : Ord W) (hg : Grew W w) :
    Calls Tryd.prog 8 #[csV c, .int .i64 p] w fun e' w' => e' = .returned (.tuple #[.int .i64 (firI (m &&& e &&& d)), .bool (firB (m &&& e &&& d))]) ∧ Grew W w' := by
  have E1 := b_and m e hm he
  have E2 := b_not _ d (and_lt m e hm) hd
  have E3 := b_and _ d (and_lt m e hm) hd
  have X1 := Lib.hid (ndn_lt (m &&& e) d (and_lt m e hm))
  have X2 := Lib.hid (and_lt (m &&& e) d (and_lt m e hm))
  have HS := Lib.hid hs
  clear hm he hd hs
  go_enter Tryd.func8, Tryd.ntmps8
  go_upto_region 1 with fail
  have g1 := hg.alloc (.cells (csA c) 24)
  have kb := Blk.new w (csA c) 24 _ rfl
  generalize w.alloc (.cells (csA c) 24) = w1 at *
  have y3 : w1.cell? ⟨w.heap.size, 3, none⟩ = some (.int .u64 (e : Nat)) := by rw [kb.cell, csA_3, c3]
  have y4 : w1.cell? ⟨w.heap.size, 4, none⟩ = some (.int .u64 (m : Nat)) := by rw [kb.cell, csA_4, c4]
  go_upto_region 2 with fail
  clear y3 y4 E1
  have yz := fun z : Over w1 => kb.overCell 0 (.int .u64 (s : Nat)) (by rw [csA_0, c0]) z
  refine region_over (by kernel_rfl) (by kernel_rfl) ?_
  repeat (first | go_big_quiet_step ((first | (go_at_call 18; with_reducible exact over_eq (machine_c (Over.g _))) | (go_at_call 19; with_reducible exact over_eq (open_c 3 7 11 3 s (by decide) HS.out (Over.g _))))) | quiet_step ((first | (go_at_call 18; with_reducible exact over_eq (machine_c (Over.g _))) | (go_at_call 19; with_reducible exact over_eq (open_c 3 7 11 3 s (by decide) HS.out (Over.g _))))))
  refine wpQuiet_nil ?_
  intro z
  have gz := g1.trans z.g
  have kz := kb.over z
  generalize z.w = wz at *
  clear yz z
  have y2 : wz.cell? ⟨w.heap.size, 2, none⟩ = some (.int .u64 (d : Nat)) := by rw [kz.cell, csA_2, c2]
  go_wp2_with fail
  refine (firstp_c _ X1.out (so.grew gz) (Grew.refl _)).mono ?_
  rintro e' w3 ⟨rfl, g3'⟩
  have g3 := gz.trans g3'
  have k3 := kz.grew g3'
  clear y2 g3' kz
  clear g1 kb
  go_upto_region 6 with fail
  have yz := fun z : Over w3 => k3.overCell 0 (.int .u64 (s : Nat)) (by rw [csA_0, c0]) z
  refine region_over (by kernel_rfl) (by kernel_rfl) ?_
  repeat (first | go_big_quiet_step ((first | (go_at_call 21; with_reducible exact over_eq (supervisor_c (Over.g _))) | (go_at_call 19; with_reducible exact over_eq (open_c 1 5 8 1 s (by decide) HS.out (Over.g _))))) | quiet_step ((first | (go_at_call 21; with_reducible exact over_eq (supervisor_c (Over.g _))) | (go_at_call 19; with_reducible exact over_eq (open_c 1 5 8 1 s (by decide) HS.out (Over.g _))))))
  refine wpQuiet_nil ?_
  intro z
  have g4 := g3.trans z.g
  have k4 := k3.over z
  generalize z.w = w4 at *
  clear yz z
  have y2 : w4.cell? ⟨w.heap.size, 2, none⟩ = some (.int .u64 (d : Nat)) := by rw [k4.cell, csA_2, c2]
  clear g3 k3
  go_wp2_with fail
  refine (firstp_c _ X2.out so g4).mono ?_
  rintro e' w5 ⟨rfl, g5⟩
  go_wp2_with fail
  go_ret2
  exact ⟨rfl, g5⟩

set_option maxRecDepth 100000 in
set_option maxHeartbeats 2000000 in
theorem pendp_s0 (c : Nat → Int) (m e d s : Nat) (hm : m < 2 ^ 64) (he : e < 2 ^ 64) (hd : d < 2 ^ 64) (hs : s < 2 ^ 64) (c4 : c 4 = (m : Int)) (c3 : c 3 = (e : Int)) (c2 : c 2 = (d : Int)) (c0 : c 0 = (s : Int)) (p : Int) (p3 : decide (p < 3) = true) (b1 : firB (ndn (m &&& e) d) = false) (p1 : decide (p < 1) = false) (q1 : (p == 1) = true) (s1 : (((ofP s 1 1 : Nat) : Int) == 1) = false) {W w : World} (so : Ord W) (hg : Grew W w) :
    Calls Tryd.prog 8 #[csV c, .int .i64 p] w fun e' w' => e' = .returned (.tuple #[.int .i64 0, .bool false]) ∧ Grew W w' := by
  have E1 := b_and m e hm he
  have E2 := b_not _ d (and_lt m e hm) hd
  have E3 := b_and _ d (and_lt m e hm) hd
  have X1 := Lib.hid (ndn_lt (m &&& e) d (and_lt m e hm))
  have X2 := Lib.hid (and_lt (m &&& e) d (and_lt m e hm))
  have HS := Lib.hid hs
  clear hm he hd hs
  go_enter Tryd.func8, Tryd.ntmps8
  go_upto_region 1 with fail
  have g1 := hg.alloc (.cells (csA c) 24)
  have kb := Blk.new w (csA c) 24 _ rfl
  generalize w.alloc (.cells (csA c) 24) = w1 at *
  have y3 : w1.cell? ⟨w.heap.size, 3, none⟩ = some (.int .u64 (e : Nat)) := by rw [kb.cell, csA_3, c3]
  have y4 : w1.cell? ⟨w.heap.size, 4, none⟩ = some (.int .u64 (m : Nat)) := by rw [kb.cell, csA_4, c4]
  go_upto_region 2 with fail
  clear y3 y4 E1
  have yz := fun z : Over w1 => kb.overCell 0 (.int .u64 (s : Nat)) (by rw [csA_0, c0]) z
  refine region_over (by kernel_rfl) (by kernel_rfl) ?_
  repeat (first | go_big_quiet_step ((first | (go_at_call 18; with_reducible exact over_eq (machine_c (Over.g _))) | (go_at_call 19; with_reducible exact over_eq (open_c 3 7 11 3 s (by decide) HS.out (Over.g _))))) | quiet_step ((first | (go_at_call 18; with_reducible exact over_eq (machine_c (Over.g _))) | (go_at_call 19; with_reducible exact over_eq (open_c 3 7 11 3 s (by decide) HS.out (Over.g _))))))
  refine wpQuiet_nil ?_
  intro z
  have gz := g1.trans z.g
  have kz := kb.over z
  generalize z.w = wz at *
  clear yz z
  have y2 : wz.cell? ⟨w.heap.size, 2, none⟩ = some (.int .u64 (d : Nat)) := by rw [kz.cell, csA_2, c2]
  go_wp2_with fail
  refine (firstp_c _ X1.out (so.grew gz) (Grew.refl _)).mono ?_
  rintro e' w3 ⟨rfl, g3'⟩
  have g3 := gz.trans g3'
  have k3 := kz.grew g3'
  clear y2 g3' kz
  clear g1 kb
  go_upto_region 6 with fail
  have yz := fun z : Over w3 => k3.overCell 0 (.int .u64 (s : Nat)) (by rw [csA_0, c0]) z
  refine region_over (by kernel_rfl) (by kernel_rfl) ?_
  repeat (first | go_big_quiet_step ((first | (go_at_call 21; with_reducible exact over_eq (supervisor_c (Over.g _))) | (go_at_call 19; with_reducible exact over_eq (open_c 1 5 8 1 s (by decide) HS.out (Over.g _))))) | quiet_step ((first | (go_at_call 21; with_reducible exact over_eq (supervisor_c (Over.g _))) | (go_at_call 19; with_reducible exact over_eq (open_c 1 5 8 1 s (by decide) HS.out (Over.g _))))))
  refine wpQuiet_nil ?_
  intro z
  have g4 := g3.trans z.g
  have k4 := k3.over z
  generalize z.w = w4 at *
  clear yz z
  go_wp2_with fail
  go_ret2
  exact ⟨rfl, g4⟩

set_option maxRecDepth 100000 in
set_option maxHeartbeats 2000000 in
theorem pendp_h (c : Nat → Int) (m e d s : Nat) (hm : m < 2 ^ 64) (he : e < 2 ^ 64) (hd : d < 2 ^ 64) (hs : s < 2 ^ 64) (c4 : c 4 = (m : Int)) (c3 : c 3 = (e : Int)) (c2 : c 2 = (d : Int)) (c0 : c 0 = (s : Int)) (p : Int) (p3 : decide (p < 3) = true) (b1 : firB (ndn (m &&& e) d) = false) (p1 : decide (p < 1) = false) (q1 : (p == 1) = false) {W w : World} (so : Ord W) (hg : Grew W w) :
    Calls Tryd.prog 8 #[csV c, .int .i64 p] w fun e' w' => e' = .returned (.tuple #[.int .i64 0, .bool false]) ∧ Grew W w' := by
  have E1 := b_and m e hm he
  have E2 := b_not _ d (and_lt m e hm) hd
  have E3 := b_and _ d (and_lt m e hm) hd
  have X1 := Lib.hid (ndn_lt (m &&& e) d (and_lt m e hm))
  have X2 := Lib.hid (and_lt (m &&& e) d (and_lt m e hm))
  have HS := Lib.hid hs
  clear hm he hd hs
  go_enter Tryd.func8, Tryd.ntmps8
  go_upto_region 1 with fail
  have g1 := hg.alloc (.cells (csA c) 24)
  have kb := Blk.new w (csA c) 24 _ rfl
  generalize w.alloc (.cells (csA c) 24) = w1 at *
  have y3 : w1.cell? ⟨w.heap.size, 3, none⟩ = some (.int .u64 (e : Nat)) := by rw [kb.cell, csA_3, c3]
  have y4 : w1.cell? ⟨w.heap.size, 4, none⟩ = some (.int .u64 (m : Nat)) := by rw [kb.cell, csA_4, c4]
  go_upto_region 2 with fail
  clear y3 y4 E1
  have yz := fun z : Over w1 => kb.overCell 0 (.int .u64 (s : Nat)) (by rw [csA_0, c0]) z
  refine region_over (by kernel_rfl) (by kernel_rfl) ?_
  repeat (first | go_big_quiet_step ((first | (go_at_call 18; with_reducible exact over_eq (machine_c (Over.g _))) | (go_at_call 19; with_reducible exact over_eq (open_c 3 7 11 3 s (by decide) HS.out (Over.g _))))) | quiet_step ((first | (go_at_call 18; with_reducible exact over_eq (machine_c (Over.g _))) | (go_at_call 19; with_reducible exact over_eq (open_c 3 7 11 3 s (by decide) HS.out (Over.g _))))))
  refine wpQuiet_nil ?_
  intro z
  have gz := g1.trans z.g
  have kz := kb.over z
  generalize z.w = wz at *
  clear yz z
  have y2 : wz.cell? ⟨w.heap.size, 2, none⟩ = some (.int .u64 (d : Nat)) := by rw [kz.cell, csA_2, c2]
  go_wp2_with fail
  refine (firstp_c _ X1.out (so.grew gz) (Grew.refl _)).mono ?_
  rintro e' w3 ⟨rfl, g3'⟩
  have g3 := gz.trans g3'
  have k3 := kz.grew g3'
  clear y2 g3' kz
  clear g1 kb
  go_upto_region 6 with fail
  have yz := fun z : Over w3 => k3.overCell 0 (.int .u64 (s : Nat)) (by rw [csA_0, c0]) z
  refine region_over (by kernel_rfl) (by kernel_rfl) ?_
  repeat (first | go_big_quiet_step ((first | (go_at_call 21; with_reducible exact over_eq (supervisor_c (Over.g _))) | (go_at_call 19; with_reducible exact over_eq (open_c 1 5 8 1 s (by decide) HS.out (Over.g _))))) | quiet_step ((first | (go_at_call 21; with_reducible exact over_eq (supervisor_c (Over.g _))) | (go_at_call 19; with_reducible exact over_eq (open_c 1 5 8 1 s (by decide) HS.out (Over.g _))))))
  refine wpQuiet_nil ?_
  intro z
  have g4 := g3.trans z.g
  have k4 := k3.over z
  generalize z.w = w4 at *
  clear yz z
  go_wp2_with fail
  go_ret2
  exact ⟨rfl, g4⟩

set_option maxRecDepth 100000 in
set_option maxHeartbeats 2000000 in
theorem pendp_m1 (c : Nat → Int) (m e d s : Nat) (hm : m < 2 ^ 64) (he : e < 2 ^ 64) (hd : d < 2 ^ 64) (hs : s < 2 ^ 64) (c4 : c 4 = (m : Int)) (c3 : c 3 = (e : Int)) (c2 : c 2 = (d : Int)) (c0 : c 0 = (s : Int)) (p : Int) (p3 : decide (p < 3) = false) (s3 : (((ofP s 3 1 : Nat) : Int) == 1) = true) (b1 : firB (ndn (m &&& e) d) = false) (p1 : decide (p < 1) = false) (q1 : (p == 1) = false) {W w : World} (so : Ord W) (hg : Grew W w) :
    Calls Tryd.prog 8 #[csV c, .int .i64 p] w fun e' w' => e' = .returned (.tuple #[.int .i64 0, .bool false]) ∧ Grew W w' := by
  have E1 := b_and m e hm he
  have E2 := b_not _ d (and_lt m e hm) hd
  have E3 := b_and _ d (and_lt m e hm) hd
  have X1 := Lib.hid (ndn_lt (m &&& e) d (and_lt m e hm))
  have X2 := Lib.hid (and_lt (m &&& e) d (and_lt m e hm))
  have HS := Lib.hid hs
  clear hm he hd hs
  go_enter Tryd.func8, Tryd.ntmps8
  go_upto_region 1 with fail
  have g1 := hg.alloc (.cells (csA c) 24)
  have kb := Blk.new w (csA c) 24 _ rfl
  generalize w.alloc (.cells (csA c) 24) = w1 at *
  have y3 : w1.cell? ⟨w.heap.size, 3, none⟩ = some (.int .u64 (e : Nat)) := by rw [kb.cell, csA_3, c3]
  have y4 : w1.cell? ⟨w.heap.size, 4, none⟩ = some (.int .u64 (m : Nat)) := by rw [kb.cell, csA_4, c4]
  go_upto_region 2 with fail
  clear y3 y4 E1
  have yz := fun z : Over w1 => kb.overCell 0 (.int .u64 (s : Nat)) (by rw [csA_0, c0]) z
  refine region_over (by kernel_rfl) (by kernel_rfl) ?_
  repeat (first | go_big_quiet_step ((first | (go_at_call 18; with_reducible exact over_eq (machine_c (Over.g _))) | (go_at_call 19; with_reducible exact over_eq (open_c 3 7 11 3 s (by decide) HS.out (Over.g _))))) | quiet_step ((first | (go_at_call 18; with_reducible exact over_eq (machine_c (Over.g _))) | (go_at_call 19; with_reducible exact over_eq (open_c 3 7 11 3 s (by decide) HS.out (Over.g _))))))
  refine wpQuiet_nil ?_
  intro z
  have gz := g1.trans z.g
  have kz := kb.over z
  generalize z.w = wz at *
  clear yz z
  have y2 : wz.cell? ⟨w.heap.size, 2, none⟩ = some (.int .u64 (d : Nat)) := by rw [kz.cell, csA_2, c2]
  go_wp2_with fail
  refine (firstp_c _ X1.out (so.grew gz) (Grew.refl _)).mono ?_
  rintro e' w3 ⟨rfl, g3'⟩
  have g3 := gz.trans g3'
  have k3 := kz.grew g3'
  clear y2 g3' kz
  clear g1 kb
  go_upto_region 6 with fail
  have yz := fun z : Over w3 => k3.overCell 0 (.int .u64 (s : Nat)) (by rw [csA_0, c0]) z
  refine region_over (by kernel_rfl) (by kernel_rfl) ?_
  repeat (first | go_big_quiet_step ((first | (go_at_call 21; with_reducible exact over_eq (supervisor_c (Over.g _))) | (go_at_call 19; with_reducible exact over_eq (open_c 1 5 8 1 s (by decide) HS.out (Over.g _))))) | quiet_step ((first | (go_at_call 21; with_reducible exact over_eq (supervisor_c (Over.g _))) | (go_at_call 19; with_reducible exact over_eq (open_c 1 5 8 1 s (by decide) HS.out (Over.g _))))))
  refine wpQuiet_nil ?_
  intro z
  have g4 := g3.trans z.g
  have k4 := k3.over z
  generalize z.w = w4 at *
  clear yz z
  go_wp2_with fail
  go_ret2
  exact ⟨rfl, g4⟩

set_option maxRecDepth 100000 in
set_option maxHeartbeats 2000000 in
theorem pendp_m0 (c : Nat → Int) (m e d s : Nat) (hm : m < 2 ^ 64) (he : e < 2 ^ 64) (hd : d < 2 ^ 64) (hs : s < 2 ^ 64) (c4 : c 4 = (m : Int)) (c3 : c 3 = (e : Int)) (c2 : c 2 = (d : Int)) (c0 : c 0 = (s : Int)) (p : Int) (p3 : decide (p < 3) = false) (s3 : (((ofP s 3 1 : Nat) : Int) == 1) = false) (p1 : decide (p < 1) = false) (q1 : (p == 1) = false) {W w : World} (so : Ord W) (hg : Grew W w) :
    Calls Tryd.prog 8 #[csV c, .int .i64 p] w fun e' w' => e' = .returned (.tuple #[.int .i64 0, .bool false]) ∧ Grew W w' := by
  have E1 := b_and m e hm he
  have E2 := b_not _ d (and_lt m e hm) hd
  have E3 := b_and _ d (and_lt m e hm) hd
  have X1 := Lib.hid (ndn_lt (m &&& e) d (and_lt m e hm))
  have X2 := Lib.hid (and_lt (m &&& e) d (and_lt m e hm))
  have HS := Lib.hid hs
  clear hm he hd hs
  go_enter Tryd.func8, Tryd.ntmps8
  go_upto_region 1 with fail
  have g1 := hg.alloc (.cells (csA c) 24)
  have kb := Blk.new w (csA c) 24 _ rfl
  generalize w.alloc (.cells (csA c) 24) = w1 at *
  have y3 : w1.cell? ⟨w.heap.size, 3, none⟩ = some (.int .u64 (e : Nat)) := by rw [kb.cell, csA_3, c3]
  have y4 : w1.cell? ⟨w.heap.size, 4, none⟩ = some (.int .u64 (m : Nat)) := by rw [kb.cell, csA_4, c4]
  go_upto_region 2 with fail
  clear y3 y4 E1
  have yz := fun z : Over w1 => kb.overCell 0 (.int .u64 (s : Nat)) (by rw [csA_0, c0]) z
  refine region_over (by kernel_rfl) (by kernel_rfl) ?_
  repeat (first | go_big_quiet_step ((first | (go_at_call 18; with_reducible exact over_eq (machine_c (Over.g _))) | (go_at_call 19; with_reducible exact over_eq (open_c 3 7 11 3 s (by decide) HS.out (Over.g _))))) | quiet_step ((first | (go_at_call 18; with_reducible exact over_eq (machine_c (Over.g _))) | (go_at_call 19; with_reducible exact over_eq (open_c 3 7 11 3 s (by decide) HS.out (Over.g _))))))
  refine wpQuiet_nil ?_
  intro z
  have gz := g1.trans z.g
  have kz := kb.over z
  generalize z.w = wz at *
  clear yz z
  have g3 := gz
  have k3 := kz
  clear g1 kb
  go_upto_region 6 with fail
  have yz := fun z : Over wz => k3.overCell 0 (.int .u64 (s : Nat)) (by rw [csA_0, c0]) z
  refine region_over (by kernel_rfl) (by kernel_rfl) ?_
  repeat (first | go_big_quiet_step ((first | (go_at_call 21; with_reducible exact over_eq (supervisor_c (Over.g _))) | (go_at_call 19; with_reducible exact over_eq (open_c 1 5 8 1 s (by decide) HS.out (Over.g _))))) | quiet_step ((first | (go_at_call 21; with_reducible exact over_eq (supervisor_c (Over.g _))) | (go_at_call 19; with_reducible exact over_eq (open_c 1 5 8 1 s (by decide) HS.out (Over.g _))))))
  refine wpQuiet_nil ?_
  intro z
  have g4 := g3.trans z.g
  have k4 := k3.over z
  generalize z.w = w4 at *
  clear yz z
  go_wp2_with fail
  go_ret2
  exact ⟨rfl, g4⟩

theorem pendp_c (c : Nat → Int) (m e d s : Nat) (hm : m < 2 ^ 64) (he : e < 2 ^ 64) (hd : d < 2 ^ 64) (hs : s < 2 ^ 64) (c4 : c 4 = (m : Int)) (c3 : c 3 = (e : Int)) (c2 : c 2 = (d : Int)) (c0 : c 0 = (s : Int)) (p : Int) {W w : World} (so : Ord W) (hg : Grew W w) :
    Calls Tryd.prog 8 #[csV c, .int .i64 p] w fun e' w' => e' = .returned (.tuple #[.int .i64 (penI m e d s p), .bool (penB m e d s p)]) ∧ Grew W w' := by
  unfold penI penB penA penC
  have bi : ∀ n b, s.testBit n = b → (((ofP s n 1 : Nat) : Int) == 1) = b := fun n b h => by rw [of_one]; exact bit_is s n b h
  cases p3 : decide (p < 3)
  · have p1 : decide (p < 1) = false := by
      rw [decide_eq_false_iff_not] at p3 ⊢
      omega
    have q1 : (p == 1) = false := by
      rw [decide_eq_false_iff_not] at p3
      rw [beq_eq_false_iff_ne]
      omega
    rw [p1, q1]
    cases h3 : s.testBit 3
    · simpa using pendp_m0 c m e d s hm he hd hs c4 c3 c2 c0 p p3 (bi 3 _ h3) p1 q1 so hg
    · cases b1 : firB (ndn (m &&& e) d)
      · simpa using pendp_m1 c m e d s hm he hd hs c4 c3 c2 c0 p p3 (bi 3 _ h3) b1 p1 q1 so hg
      · simpa using pendp_a2 c m e d s hm he hd hs c4 c3 c2 c0 p p3 (bi 3 _ h3) b1 so hg
  · cases b1 : firB (ndn (m &&& e) d)
    · cases p1 : decide (p < 1)
      · cases q1 : p == 1
        · simpa using pendp_h c m e d s hm he hd hs c4 c3 c2 c0 p p3 b1 p1 q1 so hg
        · cases h1 : s.testBit 1
          · simpa using pendp_s0 c m e d s hm he hd hs c4 c3 c2 c0 p p3 b1 p1 q1 (bi 1 _ h1) so hg
          · simpa using pendp_s1 c m e d s hm he hd hs c4 c3 c2 c0 p p3 b1 p1 q1 (bi 1 _ h1) so hg
      · simpa using pendp_u c m e d s hm he hd hs c4 c3 c2 c0 p p3 b1 p1 so hg
    · simpa using pendp_a1 c m e d s hm he hd hs c4 c3 c2 c0 p p3 b1 so hg
end Go.Proofs.YtbkbbcfhmjodlaaDoor
