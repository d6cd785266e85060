/-
  Contracts of the document's own text about instructions: sums.
-/
import Derived.Test.YtgekmhcekkmdhaaDecT
import Derived.Deep.RegionWith
set_option linter.unusedVariables false
set_option linter.unusedSimpArgs false
namespace Go.Proofs.Ytgekmhcekkmdhaa
open Go Go.RowKit

theorem u64_lit (w : World) (ls : List Nat) (vs : Array Value) (hv : vs = (ls.map fun n => Value.int .u64 ((n : Nat) : Int)).toArray) (b : Nat) (hb : b = w.heap.size) (T : TypeId) : U64At (w.alloc (.cells vs T)) b ls := by
  subst hb hv
  intro k hk
  rw [World.cell?_alloc_new]
  simp [hk]
theorem u64_lit_d (w : World) (ls : List Nat) (vs : Array Value) (hv : vs = (ls.map fun n => Value.int .u64 ((n : Nat) : Int)).toArray) (b : Nat) (hb : b = w.heap.size) (T : TypeId) : U64At (w.alloc (.cells vs T)).drew b ls := u64_lit w ls vs hv b hb T
set_option maxHeartbeats 1000000 in
theorem su_0_false (x : Nat) (hx : x < 4294967296) (rd s1 s2 : Int) (hy : fN x 31 25 = 0) {W w : World} (hg : Grew W w) :
    Calls Try.prog 52 #[.int .u32 (x : Nat), iNew rd s1 s2, .bool false] w fun e w' => e = .returned (.tuple #[.agg #[.int .i64 9, .int .i64 (fN x 14 12 : Nat), .bool false, .int .i64 rd, .int .i64 s1, .int .i64 s2, .int .u64 0], .bool true]) ∧ Grew W w' := by
  have gs : W.heap.size ≤ w.heap.size := hg.size
  have b14_12 := fN_lt x 14 12 8 (by decide)
  have b31_25 := fN_lt x 31 25 128 (by decide)
  have hg' : ((fN x 31 25 : Nat) : Int) = 0 := by omega
  have HG := Lib.hid hg'
  clear hy hg'
  go_enter Try.func52, Try.ntmps52
  go_wp2_with fail
  refine (r3f x hx 14 12 (by decide) (by decide) (by decide) _).mono ?_
  rintro e w1 ⟨rfl, h1⟩
  obtain rfl := h1.symm
  go_wp2_with fail
  refine (r3f x hx 31 25 (by decide) (by decide) (by decide) _).mono ?_
  rintro e w1 ⟨rfl, h1⟩
  obtain rfl := h1.symm
  rw [HG.out]
  go_wp2_with fail
  first | go_region_with (fail) | fail
  all_goals
    go_wp2_with fail
    go_returns
    exact ⟨rfl, (by repeat (first | with_reducible exact hg | with_reducible refine Grew.alloc ?_ _ | with_reducible refine Grew.drewN ?_ _ | with_reducible refine Grew.drew1 ?_ | with_reducible refine Grew.setCell ?_ gs _))⟩
set_option maxHeartbeats 1000000 in
theorem su_32_0_false (x : Nat) (hx : x < 4294967296) (rd s1 s2 : Int) (hy : fN x 31 25 = 32) (hk : fN x 14 12 = 0) {W w : World} (hg : Grew W w) :
    Calls Try.prog 52 #[.int .u32 (x : Nat), iNew rd s1 s2, .bool false] w fun e w' => e = .returned (.tuple #[.agg #[.int .i64 9, .int .i64 8, .bool false, .int .i64 rd, .int .i64 s1, .int .i64 s2, .int .u64 0], .bool true]) ∧ Grew W w' := by
  have gs : W.heap.size ≤ w.heap.size := hg.size
  have b14_12 := fN_lt x 14 12 8 (by decide)
  have b31_25 := fN_lt x 31 25 128 (by decide)
  have hg' : ((fN x 31 25 : Nat) : Int) = 32 := by omega
  have HG := Lib.hid hg'
  clear hy hg'
  have hk' : ((fN x 14 12 : Nat) : Int) = 0 := by omega
  have HK := Lib.hid hk'
  clear hk hk'
  go_enter Try.func52, Try.ntmps52
  go_wp2_with fail
  refine (r3f x hx 14 12 (by decide) (by decide) (by decide) _).mono ?_
  rintro e w1 ⟨rfl, h1⟩
  obtain rfl := h1.symm
  rw [HK.out]
  go_wp2_with fail
  refine (r3f x hx 31 25 (by decide) (by decide) (by decide) _).mono ?_
  rintro e w1 ⟨rfl, h1⟩
  obtain rfl := h1.symm
  rw [HG.out]
  go_wp2_with fail
  go_returns
  exact ⟨rfl, (by repeat (first | with_reducible exact hg | with_reducible refine Grew.alloc ?_ _ | with_reducible refine Grew.drewN ?_ _ | with_reducible refine Grew.drew1 ?_ | with_reducible refine Grew.setCell ?_ gs _))⟩
set_option maxHeartbeats 1000000 in
theorem su_32_false (x : Nat) (hx : x < 4294967296) (rd s1 s2 : Int) (hy : fN x 31 25 = 32) (hk : ¬ fN x 14 12 = 0) {W w : World} (hg : Grew W w) :
    Calls Try.prog 52 #[.int .u32 (x : Nat), iNew rd s1 s2, .bool false] w fun e w' => e = .returned (.tuple #[.agg #[.int .i64 9, .int .i64 13, .bool false, .int .i64 rd, .int .i64 s1, .int .i64 s2, .int .u64 0], .bool (((fN x 14 12 : Nat) : Int) == 5)]) ∧ Grew W w' := by
  have gs : W.heap.size ≤ w.heap.size := hg.size
  have b14_12 := fN_lt x 14 12 8 (by decide)
  have b31_25 := fN_lt x 31 25 128 (by decide)
  have hg' : ((fN x 31 25 : Nat) : Int) = 32 := by omega
  have HG := Lib.hid hg'
  clear hy hg'
  have hk' : (((fN x 14 12 : Nat) : Int) == 0) = false := by rw [beq_eq_false_iff_ne]; omega
  clear hk
  go_enter Try.func52, Try.ntmps52
  go_wp2_with fail
  refine (r3f x hx 14 12 (by decide) (by decide) (by decide) _).mono ?_
  rintro e w1 ⟨rfl, h1⟩
  obtain rfl := h1.symm
  go_wp2_with fail
  refine (r3f x hx 31 25 (by decide) (by decide) (by decide) _).mono ?_
  rintro e w1 ⟨rfl, h1⟩
  obtain rfl := h1.symm
  rw [HG.out]
  go_wp2_with fail
  go_returns
  exact ⟨rfl, (by repeat (first | with_reducible exact hg | with_reducible refine Grew.alloc ?_ _ | with_reducible refine Grew.drewN ?_ _ | with_reducible refine Grew.drew1 ?_ | with_reducible refine Grew.setCell ?_ gs _))⟩
set_option maxHeartbeats 1000000 in
theorem su_1_false (x : Nat) (hx : x < 4294967296) (rd s1 s2 : Int) (hy : fN x 31 25 = 1) {W w : World} (hg : Grew W w) :
    Calls Try.prog 52 #[.int .u32 (x : Nat), iNew rd s1 s2, .bool false] w fun e w' => e = .returned (.tuple #[.agg #[.int .i64 9, .int .i64 (16 + (fN x 14 12 : Nat)), .bool false, .int .i64 rd, .int .i64 s1, .int .i64 s2, .int .u64 0], .bool true]) ∧ Grew W w' := by
  have gs : W.heap.size ≤ w.heap.size := hg.size
  have b14_12 := fN_lt x 14 12 8 (by decide)
  have b31_25 := fN_lt x 31 25 128 (by decide)
  have hg' : ((fN x 31 25 : Nat) : Int) = 1 := by omega
  have HG := Lib.hid hg'
  clear hy hg'
  go_enter Try.func52, Try.ntmps52
  go_wp2_with fail
  refine (r3f x hx 14 12 (by decide) (by decide) (by decide) _).mono ?_
  rintro e w1 ⟨rfl, h1⟩
  obtain rfl := h1.symm
  go_wp2_with fail
  refine (r3f x hx 31 25 (by decide) (by decide) (by decide) _).mono ?_
  rintro e w1 ⟨rfl, h1⟩
  obtain rfl := h1.symm
  rw [HG.out]
  go_wp2_with fail
  go_returns
  exact ⟨rfl, (by repeat (first | with_reducible exact hg | with_reducible refine Grew.alloc ?_ _ | with_reducible refine Grew.drewN ?_ _ | with_reducible refine Grew.drew1 ?_ | with_reducible refine Grew.setCell ?_ gs _))⟩
set_option maxHeartbeats 1000000 in
theorem su_n_false (x : Nat) (hx : x < 4294967296) (rd s1 s2 : Int) (h0 : ¬ fN x 31 25 = 0) (h1 : ¬ fN x 31 25 = 1) (h2 : ¬ fN x 31 25 = 32) {W w : World} (hg : Grew W w) :
    Calls Try.prog 52 #[.int .u32 (x : Nat), iNew rd s1 s2, .bool false] w fun e w' => e = .returned (.tuple #[.agg #[.int .i64 9, .int .i64 (fN x 14 12 : Nat), .bool false, .int .i64 rd, .int .i64 s1, .int .i64 s2, .int .u64 0], .bool false]) ∧ Grew W w' := by
  have gs : W.heap.size ≤ w.heap.size := hg.size
  have b14_12 := fN_lt x 14 12 8 (by decide)
  have b31_25 := fN_lt x 31 25 128 (by decide)
  have q0 : (((fN x 31 25 : Nat) : Int) == 0) = false := by rw [beq_eq_false_iff_ne]; omega
  have q1 : (((fN x 31 25 : Nat) : Int) == 1) = false := by rw [beq_eq_false_iff_ne]; omega
  have q32 : (((fN x 31 25 : Nat) : Int) == 32) = false := by rw [beq_eq_false_iff_ne]; omega
  clear h0 h1 h2
  go_enter Try.func52, Try.ntmps52
  go_wp2_with fail
  refine (r3f x hx 14 12 (by decide) (by decide) (by decide) _).mono ?_
  rintro e w1 ⟨rfl, h1⟩
  obtain rfl := h1.symm
  go_wp2_with fail
  refine (r3f x hx 31 25 (by decide) (by decide) (by decide) _).mono ?_
  rintro e w1 ⟨rfl, h1⟩
  obtain rfl := h1.symm
  go_wp2_with fail
  go_returns
  exact ⟨rfl, (by repeat (first | with_reducible exact hg | with_reducible refine Grew.alloc ?_ _ | with_reducible refine Grew.drewN ?_ _ | with_reducible refine Grew.drew1 ?_ | with_reducible refine Grew.setCell ?_ gs _))⟩
set_option maxHeartbeats 1000000 in
theorem su_0_true (x : Nat) (hx : x < 4294967296) (rd s1 s2 : Int) (hy : fN x 31 25 = 0) {W w : World} (hg : Grew W w) :
    Calls Try.prog 52 #[.int .u32 (x : Nat), iNew rd s1 s2, .bool true] w fun e w' => e = .returned (.tuple #[.agg #[.int .i64 9, .int .i64 (fN x 14 12 : Nat), .bool true, .int .i64 rd, .int .i64 s1, .int .i64 s2, .int .u64 0], .bool (memB [0, 1, 5] (fN x 14 12) 0)]) ∧ Grew W w' := by
  have gs : W.heap.size ≤ w.heap.size := hg.size
  have b14_12 := fN_lt x 14 12 8 (by decide)
  have b31_25 := fN_lt x 31 25 128 (by decide)
  have hg' : ((fN x 31 25 : Nat) : Int) = 0 := by omega
  have HG := Lib.hid hg'
  clear hy hg'
  go_enter Try.func52, Try.ntmps52
  go_wp2_with fail
  refine (r3f x hx 14 12 (by decide) (by decide) (by decide) _).mono ?_
  rintro e w1 ⟨rfl, h1⟩
  obtain rfl := h1.symm
  go_wp2_with fail
  refine (r3f x hx 31 25 (by decide) (by decide) (by decide) _).mono ?_
  rintro e w1 ⟨rfl, h1⟩
  obtain rfl := h1.symm
  rw [HG.out]
  go_wp2_with fail
  first | go_region_with ((go_at_call 54; refine (in_c [0, 1, 5] _ (by omega) (by decide) _ _ (u64_lit_d _ [0, 1, 5] _ rfl _ (by simp) _)).mono ?_; rintro e w1 ⟨rfl, h1⟩; obtain rfl := h1.symm)) | fail
  all_goals
    go_wp2_with fail
    go_returns
    exact ⟨rfl, (by repeat (first | with_reducible exact hg | with_reducible refine Grew.alloc ?_ _ | with_reducible refine Grew.drewN ?_ _ | with_reducible refine Grew.drew1 ?_ | with_reducible refine Grew.setCell ?_ gs _))⟩
set_option maxHeartbeats 1000000 in
theorem su_32_0_true (x : Nat) (hx : x < 4294967296) (rd s1 s2 : Int) (hy : fN x 31 25 = 32) (hk : fN x 14 12 = 0) {W w : World} (hg : Grew W w) :
    Calls Try.prog 52 #[.int .u32 (x : Nat), iNew rd s1 s2, .bool true] w fun e w' => e = .returned (.tuple #[.agg #[.int .i64 9, .int .i64 8, .bool true, .int .i64 rd, .int .i64 s1, .int .i64 s2, .int .u64 0], .bool true]) ∧ Grew W w' := by
  have gs : W.heap.size ≤ w.heap.size := hg.size
  have b14_12 := fN_lt x 14 12 8 (by decide)
  have b31_25 := fN_lt x 31 25 128 (by decide)
  have hg' : ((fN x 31 25 : Nat) : Int) = 32 := by omega
  have HG := Lib.hid hg'
  clear hy hg'
  have hk' : ((fN x 14 12 : Nat) : Int) = 0 := by omega
  have HK := Lib.hid hk'
  clear hk hk'
  go_enter Try.func52, Try.ntmps52
  go_wp2_with fail
  refine (r3f x hx 14 12 (by decide) (by decide) (by decide) _).mono ?_
  rintro e w1 ⟨rfl, h1⟩
  obtain rfl := h1.symm
  rw [HK.out]
  go_wp2_with fail
  refine (r3f x hx 31 25 (by decide) (by decide) (by decide) _).mono ?_
  rintro e w1 ⟨rfl, h1⟩
  obtain rfl := h1.symm
  rw [HG.out]
  go_wp2_with fail
  go_returns
  exact ⟨rfl, (by repeat (first | with_reducible exact hg | with_reducible refine Grew.alloc ?_ _ | with_reducible refine Grew.drewN ?_ _ | with_reducible refine Grew.drew1 ?_ | with_reducible refine Grew.setCell ?_ gs _))⟩
set_option maxHeartbeats 1000000 in
theorem su_32_true (x : Nat) (hx : x < 4294967296) (rd s1 s2 : Int) (hy : fN x 31 25 = 32) (hk : ¬ fN x 14 12 = 0) {W w : World} (hg : Grew W w) :
    Calls Try.prog 52 #[.int .u32 (x : Nat), iNew rd s1 s2, .bool true] w fun e w' => e = .returned (.tuple #[.agg #[.int .i64 9, .int .i64 13, .bool true, .int .i64 rd, .int .i64 s1, .int .i64 s2, .int .u64 0], .bool (((fN x 14 12 : Nat) : Int) == 5)]) ∧ Grew W w' := by
  have gs : W.heap.size ≤ w.heap.size := hg.size
  have b14_12 := fN_lt x 14 12 8 (by decide)
  have b31_25 := fN_lt x 31 25 128 (by decide)
  have hg' : ((fN x 31 25 : Nat) : Int) = 32 := by omega
  have HG := Lib.hid hg'
  clear hy hg'
  have hk' : (((fN x 14 12 : Nat) : Int) == 0) = false := by rw [beq_eq_false_iff_ne]; omega
  clear hk
  go_enter Try.func52, Try.ntmps52
  go_wp2_with fail
  refine (r3f x hx 14 12 (by decide) (by decide) (by decide) _).mono ?_
  rintro e w1 ⟨rfl, h1⟩
  obtain rfl := h1.symm
  go_wp2_with fail
  refine (r3f x hx 31 25 (by decide) (by decide) (by decide) _).mono ?_
  rintro e w1 ⟨rfl, h1⟩
  obtain rfl := h1.symm
  rw [HG.out]
  go_wp2_with fail
  go_returns
  exact ⟨rfl, (by repeat (first | with_reducible exact hg | with_reducible refine Grew.alloc ?_ _ | with_reducible refine Grew.drewN ?_ _ | with_reducible refine Grew.drew1 ?_ | with_reducible refine Grew.setCell ?_ gs _))⟩
set_option maxHeartbeats 1000000 in
theorem su_1_true_0 (x : Nat) (hx : x < 4294967296) (rd s1 s2 : Int) (hy : fN x 31 25 = 1) (hk : fN x 14 12 = 0) {W w : World} (hg : Grew W w) :
    Calls Try.prog 52 #[.int .u32 (x : Nat), iNew rd s1 s2, .bool true] w fun e w' => e = .returned (.tuple #[.agg #[.int .i64 9, .int .i64 16, .bool true, .int .i64 rd, .int .i64 s1, .int .i64 s2, .int .u64 0], .bool true]) ∧ Grew W w' := by
  have gs : W.heap.size ≤ w.heap.size := hg.size
  have b14_12 := fN_lt x 14 12 8 (by decide)
  have b31_25 := fN_lt x 31 25 128 (by decide)
  have hg' : ((fN x 31 25 : Nat) : Int) = 1 := by omega
  have HG := Lib.hid hg'
  clear hy hg'
  have hk' : ((fN x 14 12 : Nat) : Int) = 0 := by omega
  have HK := Lib.hid hk'
  clear hk hk'
  go_enter Try.func52, Try.ntmps52
  go_wp2_with fail
  refine (r3f x hx 14 12 (by decide) (by decide) (by decide) _).mono ?_
  rintro e w1 ⟨rfl, h1⟩
  obtain rfl := h1.symm
  rw [HK.out]
  go_wp2_with fail
  refine (r3f x hx 31 25 (by decide) (by decide) (by decide) _).mono ?_
  rintro e w1 ⟨rfl, h1⟩
  obtain rfl := h1.symm
  rw [HG.out]
  go_wp2_with fail
  go_returns
  exact ⟨rfl, (by repeat (first | with_reducible exact hg | with_reducible refine Grew.alloc ?_ _ | with_reducible refine Grew.drewN ?_ _ | with_reducible refine Grew.drew1 ?_ | with_reducible refine Grew.setCell ?_ gs _))⟩
set_option maxHeartbeats 1000000 in
theorem su_1_true_n (x : Nat) (hx : x < 4294967296) (rd s1 s2 : Int) (hy : fN x 31 25 = 1) (hk : ¬ fN x 14 12 = 0) {W w : World} (hg : Grew W w) :
    Calls Try.prog 52 #[.int .u32 (x : Nat), iNew rd s1 s2, .bool true] w fun e w' => e = .returned (.tuple #[.agg #[.int .i64 9, .int .i64 (16 + (fN x 14 12 : Nat)), .bool true, .int .i64 rd, .int .i64 s1, .int .i64 s2, .int .u64 0], .bool (decide (4 ≤ ((fN x 14 12 : Nat) : Int)))]) ∧ Grew W w' := by
  have gs : W.heap.size ≤ w.heap.size := hg.size
  have b14_12 := fN_lt x 14 12 8 (by decide)
  have b31_25 := fN_lt x 31 25 128 (by decide)
  have hg' : ((fN x 31 25 : Nat) : Int) = 1 := by omega
  have HG := Lib.hid hg'
  clear hy hg'
  have hk' : (((fN x 14 12 : Nat) : Int) == 0) = false := by rw [beq_eq_false_iff_ne]; omega
  clear hk
  go_enter Try.func52, Try.ntmps52
  go_wp2_with fail
  refine (r3f x hx 14 12 (by decide) (by decide) (by decide) _).mono ?_
  rintro e w1 ⟨rfl, h1⟩
  obtain rfl := h1.symm
  go_wp2_with fail
  refine (r3f x hx 31 25 (by decide) (by decide) (by decide) _).mono ?_
  rintro e w1 ⟨rfl, h1⟩
  obtain rfl := h1.symm
  rw [HG.out]
  go_wp2_with fail
  go_returns
  exact ⟨rfl, (by repeat (first | with_reducible exact hg | with_reducible refine Grew.alloc ?_ _ | with_reducible refine Grew.drewN ?_ _ | with_reducible refine Grew.drew1 ?_ | with_reducible refine Grew.setCell ?_ gs _))⟩
set_option maxHeartbeats 1000000 in
theorem su_n_true (x : Nat) (hx : x < 4294967296) (rd s1 s2 : Int) (h0 : ¬ fN x 31 25 = 0) (h1 : ¬ fN x 31 25 = 1) (h2 : ¬ fN x 31 25 = 32) {W w : World} (hg : Grew W w) :
    Calls Try.prog 52 #[.int .u32 (x : Nat), iNew rd s1 s2, .bool true] w fun e w' => e = .returned (.tuple #[.agg #[.int .i64 9, .int .i64 (fN x 14 12 : Nat), .bool true, .int .i64 rd, .int .i64 s1, .int .i64 s2, .int .u64 0], .bool false]) ∧ Grew W w' := by
  have gs : W.heap.size ≤ w.heap.size := hg.size
  have b14_12 := fN_lt x 14 12 8 (by decide)
  have b31_25 := fN_lt x 31 25 128 (by decide)
  have q0 : (((fN x 31 25 : Nat) : Int) == 0) = false := by rw [beq_eq_false_iff_ne]; omega
  have q1 : (((fN x 31 25 : Nat) : Int) == 1) = false := by rw [beq_eq_false_iff_ne]; omega
  have q32 : (((fN x 31 25 : Nat) : Int) == 32) = false := by rw [beq_eq_false_iff_ne]; omega
  clear h0 h1 h2
  go_enter Try.func52, Try.ntmps52
  go_wp2_with fail
  refine (r3f x hx 14 12 (by decide) (by decide) (by decide) _).mono ?_
  rintro e w1 ⟨rfl, h1⟩
  obtain rfl := h1.symm
  go_wp2_with fail
  refine (r3f x hx 31 25 (by decide) (by decide) (by decide) _).mono ?_
  rintro e w1 ⟨rfl, h1⟩
  obtain rfl := h1.symm
  go_wp2_with fail
  go_returns
  exact ⟨rfl, (by repeat (first | with_reducible exact hg | with_reducible refine Grew.alloc ?_ _ | with_reducible refine Grew.drewN ?_ _ | with_reducible refine Grew.drew1 ?_ | with_reducible refine Grew.setCell ?_ gs _))⟩
end Go.Proofs.Ytgekmhcekkmdhaa
