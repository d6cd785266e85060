/-
  Contracts of the document's own text about instructions: Amo's row.
-/
import Derived.Test.YtgekmhcekkmdhaaDecU
import Derived.Deep.DeepCutAuto
set_option linter.unusedVariables false
set_option linter.unusedSimpArgs false
namespace Go.Proofs.Ytgekmhcekkmdhaa
open Go Go.RowKit

set_option maxRecDepth 100000 in
set_option maxHeartbeats 4000000 in
theorem rd_47_2a (x : Nat) (hx : x < 4294967296) (ho : fN x 6 0 = 47) (hk : fN x 14 12 = 2) (hm : memB [0, 1, 3, 4, 8, 12, 16, 20, 24, 28] (fN x 31 27) 0 = true) (w : World) :
    Calls Try.prog 28 #[.int .u32 (x : Nat)] w fun e w' => e = .returned (.tuple #[.agg #[.int .i64 13, .int .i64 (fN x 31 27 : Nat), .bool true, .int .i64 (fN x 11 7 : Nat), .int .i64 (fN x 19 15 : Nat), .int .i64 (fN x 24 20 : Nat), .int .u64 0], .bool true]) ∧ Grew w w' := by
  have b11_7 := fN_lt x 11 7 32 (by decide)
  have b19_15 := fN_lt x 19 15 32 (by decide)
  have b24_20 := fN_lt x 24 20 32 (by decide)
  have b14_12 := fN_lt x 14 12 8 (by decide)
  have b31_20 := fN_lt x 31 20 4096 (by decide)
  have b31_25 := fN_lt x 31 25 128 (by decide)
  have b31_27 := fN_lt x 31 27 32 (by decide)
  have b31_26 := fN_lt x 31 26 64 (by decide)
  have b25_20 := fN_lt x 25 20 64 (by decide)
  have h_o : ((fN x 6 0 : Nat) : Int) = 47 := by omega
  have H_o := Lib.hid h_o
  clear h_o
  have h_k : ((fN x 14 12 : Nat) : Int) = 2 := by omega
  have H_k := Lib.hid h_k
  clear h_k
  have HM := Lib.hid hm
  clear hm
  have hwg : IntKind.i64.wrap ((fN x 31 27 : Nat) : Int) = ((fN x 31 27 : Nat) : Int) := IntWalk.i64_in _ (by omega)
  go_enter Try.func28, Try.ntmps28
  go_wp2_with fail
  refine (r3f x hx 11 7 (by decide) (by decide) (by decide) _).mono ?_
  rintro e w1 ⟨rfl, h1⟩
  obtain rfl := h1.symm
  go_wp2_with fail
  refine (r3f x hx 19 15 (by decide) (by decide) (by decide) _).mono ?_
  rintro e w1 ⟨rfl, h1⟩
  obtain rfl := h1.symm
  go_wp2_with fail
  refine (r3f x hx 24 20 (by decide) (by decide) (by decide) _).mono ?_
  rintro e w1 ⟨rfl, h1⟩
  obtain rfl := h1.symm
  go_wp2_with fail
  refine (r3f x hx 14 12 (by decide) (by decide) (by decide) _).mono ?_
  rintro e w1 ⟨rfl, h1⟩
  obtain rfl := h1.symm
  rw [H_k.out]
  go_wp2_with fail
  refine (r3f x hx 6 0 (by decide) (by decide) (by decide) _).mono ?_
  rintro e w1 ⟨rfl, h1⟩
  obtain rfl := h1.symm
  rw [H_o.out]
  go_wp2_with fail
  refine (r3f x hx 31 27 (by decide) (by decide) (by decide) _).mono ?_
  rintro e w1 ⟨rfl, h1⟩
  obtain rfl := h1.symm
  go_wp2_with fail
  refine (in_c [0, 1, 3, 4, 8, 12, 16, 20, 24, 28] (fN x 31 27) (by omega) (by decide) _ _ (u64_lit _ [0, 1, 3, 4, 8, 12, 16, 20, 24, 28] _ rfl _ (by simp) _)).mono ?_
  rintro e w1 ⟨rfl, h1⟩
  obtain rfl := h1.symm
  rw [HM.out]
  go_wp2_with fail
  go_returns
  exact ⟨rfl, (by repeat (first | with_reducible exact Grew.refl _ | with_reducible refine Grew.alloc ?_ _ | with_reducible refine Grew.drewN ?_ _ | with_reducible refine Grew.drew1 ?_ | with_reducible refine Grew.setCell ?_ (by simp) _))⟩
set_option maxRecDepth 100000 in
set_option maxHeartbeats 4000000 in
theorem rd_47_2b (x : Nat) (hx : x < 4294967296) (ho : fN x 6 0 = 47) (hk : fN x 14 12 = 2) (hm : memB [0, 1, 3, 4, 8, 12, 16, 20, 24, 28] (fN x 31 27) 0 = false) (hg : fN x 31 27 = 2) (hr : fN x 24 20 = 0) (w : World) :
    Calls Try.prog 28 #[.int .u32 (x : Nat)] w fun e w' => e = .returned (.tuple #[.agg #[.int .i64 13, .int .i64 2, .bool true, .int .i64 (fN x 11 7 : Nat), .int .i64 (fN x 19 15 : Nat), .int .i64 0, .int .u64 0], .bool true]) ∧ Grew w w' := by
  have b11_7 := fN_lt x 11 7 32 (by decide)
  have b19_15 := fN_lt x 19 15 32 (by decide)
  have b24_20 := fN_lt x 24 20 32 (by decide)
  have b14_12 := fN_lt x 14 12 8 (by decide)
  have b31_20 := fN_lt x 31 20 4096 (by decide)
  have b31_25 := fN_lt x 31 25 128 (by decide)
  have b31_27 := fN_lt x 31 27 32 (by decide)
  have b31_26 := fN_lt x 31 26 64 (by decide)
  have b25_20 := fN_lt x 25 20 64 (by decide)
  have h_o : ((fN x 6 0 : Nat) : Int) = 47 := by omega
  have H_o := Lib.hid h_o
  clear h_o
  have h_k : ((fN x 14 12 : Nat) : Int) = 2 := by omega
  have H_k := Lib.hid h_k
  clear h_k
  have h_g : ((fN x 31 27 : Nat) : Int) = 2 := by omega
  have H_g := Lib.hid h_g
  clear h_g
  have h_r : ((fN x 24 20 : Nat) : Int) = 0 := by omega
  have H_r := Lib.hid h_r
  clear h_r
  have HM := Lib.hid hm
  clear hm
  go_enter Try.func28, Try.ntmps28
  go_wp2_with fail
  refine (r3f x hx 11 7 (by decide) (by decide) (by decide) _).mono ?_
  rintro e w1 ⟨rfl, h1⟩
  obtain rfl := h1.symm
  go_wp2_with fail
  refine (r3f x hx 19 15 (by decide) (by decide) (by decide) _).mono ?_
  rintro e w1 ⟨rfl, h1⟩
  obtain rfl := h1.symm
  go_wp2_with fail
  refine (r3f x hx 24 20 (by decide) (by decide) (by decide) _).mono ?_
  rintro e w1 ⟨rfl, h1⟩
  obtain rfl := h1.symm
  rw [H_r.out]
  go_wp2_with fail
  refine (r3f x hx 14 12 (by decide) (by decide) (by decide) _).mono ?_
  rintro e w1 ⟨rfl, h1⟩
  obtain rfl := h1.symm
  rw [H_k.out]
  go_wp2_with fail
  refine (r3f x hx 6 0 (by decide) (by decide) (by decide) _).mono ?_
  rintro e w1 ⟨rfl, h1⟩
  obtain rfl := h1.symm
  rw [H_o.out]
  go_wp2_with fail
  refine (r3f x hx 31 27 (by decide) (by decide) (by decide) _).mono ?_
  rintro e w1 ⟨rfl, h1⟩
  obtain rfl := h1.symm
  rw [H_g.out]
  go_wp2_with fail
  refine (in_c [0, 1, 3, 4, 8, 12, 16, 20, 24, 28] 2 (by omega) (by decide) _ _ (u64_lit _ [0, 1, 3, 4, 8, 12, 16, 20, 24, 28] _ rfl _ (by simp) _)).mono ?_
  rintro e w1 ⟨rfl, h1⟩
  obtain rfl := h1.symm
  rw [show memB [0, 1, 3, 4, 8, 12, 16, 20, 24, 28] 2 0 = false by decide]
  go_wp2_with fail
  go_returns
  exact ⟨rfl, (by repeat (first | with_reducible exact Grew.refl _ | with_reducible refine Grew.alloc ?_ _ | with_reducible refine Grew.drewN ?_ _ | with_reducible refine Grew.drew1 ?_ | with_reducible refine Grew.setCell ?_ (by simp) _))⟩
set_option maxRecDepth 100000 in
set_option maxHeartbeats 4000000 in
theorem rd_47_2c (x : Nat) (hx : x < 4294967296) (ho : fN x 6 0 = 47) (hk : fN x 14 12 = 2) (hm : memB [0, 1, 3, 4, 8, 12, 16, 20, 24, 28] (fN x 31 27) 0 = false) (hg : fN x 31 27 = 2) (hr : ¬ fN x 24 20 = 0) (w : World) :
    Calls Try.prog 28 #[.int .u32 (x : Nat)] w fun e w' => e = .returned (.tuple #[.agg #[.int .i64 13, .int .i64 2, .bool true, .int .i64 (fN x 11 7 : Nat), .int .i64 (fN x 19 15 : Nat), .int .i64 (fN x 24 20 : Nat), .int .u64 0], .bool false]) ∧ Grew w w' := by
  have b11_7 := fN_lt x 11 7 32 (by decide)
  have b19_15 := fN_lt x 19 15 32 (by decide)
  have b24_20 := fN_lt x 24 20 32 (by decide)
  have b14_12 := fN_lt x 14 12 8 (by decide)
  have b31_20 := fN_lt x 31 20 4096 (by decide)
  have b31_25 := fN_lt x 31 25 128 (by decide)
  have b31_27 := fN_lt x 31 27 32 (by decide)
  have b31_26 := fN_lt x 31 26 64 (by decide)
  have b25_20 := fN_lt x 25 20 64 (by decide)
  have h_o : ((fN x 6 0 : Nat) : Int) = 47 := by omega
  have H_o := Lib.hid h_o
  clear h_o
  have h_k : ((fN x 14 12 : Nat) : Int) = 2 := by omega
  have H_k := Lib.hid h_k
  clear h_k
  have h_g : ((fN x 31 27 : Nat) : Int) = 2 := by omega
  have H_g := Lib.hid h_g
  clear h_g
  have n_r : (((fN x 24 20 : Nat) : Int) == 0) = false := by rw [beq_eq_false_iff_ne]; omega
  have HM := Lib.hid hm
  clear hm
  go_enter Try.func28, Try.ntmps28
  go_wp2_with fail
  refine (r3f x hx 11 7 (by decide) (by decide) (by decide) _).mono ?_
  rintro e w1 ⟨rfl, h1⟩
  obtain rfl := h1.symm
  go_wp2_with fail
  refine (r3f x hx 19 15 (by decide) (by decide) (by decide) _).mono ?_
  rintro e w1 ⟨rfl, h1⟩
  obtain rfl := h1.symm
  go_wp2_with fail
  refine (r3f x hx 24 20 (by decide) (by decide) (by decide) _).mono ?_
  rintro e w1 ⟨rfl, h1⟩
  obtain rfl := h1.symm
  go_wp2_with fail
  refine (r3f x hx 14 12 (by decide) (by decide) (by decide) _).mono ?_
  rintro e w1 ⟨rfl, h1⟩
  obtain rfl := h1.symm
  rw [H_k.out]
  go_wp2_with fail
  refine (r3f x hx 6 0 (by decide) (by decide) (by decide) _).mono ?_
  rintro e w1 ⟨rfl, h1⟩
  obtain rfl := h1.symm
  rw [H_o.out]
  go_wp2_with fail
  refine (r3f x hx 31 27 (by decide) (by decide) (by decide) _).mono ?_
  rintro e w1 ⟨rfl, h1⟩
  obtain rfl := h1.symm
  rw [H_g.out]
  go_wp2_with fail
  refine (in_c [0, 1, 3, 4, 8, 12, 16, 20, 24, 28] 2 (by omega) (by decide) _ _ (u64_lit _ [0, 1, 3, 4, 8, 12, 16, 20, 24, 28] _ rfl _ (by simp) _)).mono ?_
  rintro e w1 ⟨rfl, h1⟩
  obtain rfl := h1.symm
  rw [show memB [0, 1, 3, 4, 8, 12, 16, 20, 24, 28] 2 0 = false by decide]
  go_wp2_with fail
  go_returns
  exact ⟨rfl, (by repeat (first | with_reducible exact Grew.refl _ | with_reducible refine Grew.alloc ?_ _ | with_reducible refine Grew.drewN ?_ _ | with_reducible refine Grew.drew1 ?_ | with_reducible refine Grew.setCell ?_ (by simp) _))⟩
set_option maxRecDepth 100000 in
set_option maxHeartbeats 4000000 in
theorem rd_47_2d (x : Nat) (hx : x < 4294967296) (ho : fN x 6 0 = 47) (hk : fN x 14 12 = 2) (hm : memB [0, 1, 3, 4, 8, 12, 16, 20, 24, 28] (fN x 31 27) 0 = false) (hg : ¬ fN x 31 27 = 2) (w : World) :
    Calls Try.prog 28 #[.int .u32 (x : Nat)] w fun e w' => e = .returned (.tuple #[.agg #[.int .i64 13, .int .i64 (fN x 31 27 : Nat), .bool true, .int .i64 (fN x 11 7 : Nat), .int .i64 (fN x 19 15 : Nat), .int .i64 (fN x 24 20 : Nat), .int .u64 0], .bool false]) ∧ Grew w w' := by
  have b11_7 := fN_lt x 11 7 32 (by decide)
  have b19_15 := fN_lt x 19 15 32 (by decide)
  have b24_20 := fN_lt x 24 20 32 (by decide)
  have b14_12 := fN_lt x 14 12 8 (by decide)
  have b31_20 := fN_lt x 31 20 4096 (by decide)
  have b31_25 := fN_lt x 31 25 128 (by decide)
  have b31_27 := fN_lt x 31 27 32 (by decide)
  have b31_26 := fN_lt x 31 26 64 (by decide)
  have b25_20 := fN_lt x 25 20 64 (by decide)
  have h_o : ((fN x 6 0 : Nat) : Int) = 47 := by omega
  have H_o := Lib.hid h_o
  clear h_o
  have h_k : ((fN x 14 12 : Nat) : Int) = 2 := by omega
  have H_k := Lib.hid h_k
  clear h_k
  have n_g : (((fN x 31 27 : Nat) : Int) == 2) = false := by rw [beq_eq_false_iff_ne]; omega
  have HM := Lib.hid hm
  clear hm
  have hwg : IntKind.i64.wrap ((fN x 31 27 : Nat) : Int) = ((fN x 31 27 : Nat) : Int) := IntWalk.i64_in _ (by omega)
  go_enter Try.func28, Try.ntmps28
  go_wp2_with fail
  refine (r3f x hx 11 7 (by decide) (by decide) (by decide) _).mono ?_
  rintro e w1 ⟨rfl, h1⟩
  obtain rfl := h1.symm
  go_wp2_with fail
  refine (r3f x hx 19 15 (by decide) (by decide) (by decide) _).mono ?_
  rintro e w1 ⟨rfl, h1⟩
  obtain rfl := h1.symm
  go_wp2_with fail
  refine (r3f x hx 24 20 (by decide) (by decide) (by decide) _).mono ?_
  rintro e w1 ⟨rfl, h1⟩
  obtain rfl := h1.symm
  go_wp2_with fail
  refine (r3f x hx 14 12 (by decide) (by decide) (by decide) _).mono ?_
  rintro e w1 ⟨rfl, h1⟩
  obtain rfl := h1.symm
  rw [H_k.out]
  go_wp2_with fail
  refine (r3f x hx 6 0 (by decide) (by decide) (by decide) _).mono ?_
  rintro e w1 ⟨rfl, h1⟩
  obtain rfl := h1.symm
  rw [H_o.out]
  go_wp2_with fail
  refine (r3f x hx 31 27 (by decide) (by decide) (by decide) _).mono ?_
  rintro e w1 ⟨rfl, h1⟩
  obtain rfl := h1.symm
  go_wp2_with fail
  refine (in_c [0, 1, 3, 4, 8, 12, 16, 20, 24, 28] (fN x 31 27) (by omega) (by decide) _ _ (u64_lit _ [0, 1, 3, 4, 8, 12, 16, 20, 24, 28] _ rfl _ (by simp) _)).mono ?_
  rintro e w1 ⟨rfl, h1⟩
  obtain rfl := h1.symm
  rw [HM.out]
  go_wp2_with fail
  go_returns
  exact ⟨rfl, (by repeat (first | with_reducible exact Grew.refl _ | with_reducible refine Grew.alloc ?_ _ | with_reducible refine Grew.drewN ?_ _ | with_reducible refine Grew.drew1 ?_ | with_reducible refine Grew.setCell ?_ (by simp) _))⟩
set_option maxRecDepth 100000 in
set_option maxHeartbeats 4000000 in
theorem rd_47_3a (x : Nat) (hx : x < 4294967296) (ho : fN x 6 0 = 47) (hk : fN x 14 12 = 3) (hm : memB [0, 1, 3, 4, 8, 12, 16, 20, 24, 28] (fN x 31 27) 0 = true) (w : World) :
    Calls Try.prog 28 #[.int .u32 (x : Nat)] w fun e w' => e = .returned (.tuple #[.agg #[.int .i64 13, .int .i64 (fN x 31 27 : Nat), .bool false, .int .i64 (fN x 11 7 : Nat), .int .i64 (fN x 19 15 : Nat), .int .i64 (fN x 24 20 : Nat), .int .u64 0], .bool true]) ∧ Grew w w' := by
  have b11_7 := fN_lt x 11 7 32 (by decide)
  have b19_15 := fN_lt x 19 15 32 (by decide)
  have b24_20 := fN_lt x 24 20 32 (by decide)
  have b14_12 := fN_lt x 14 12 8 (by decide)
  have b31_20 := fN_lt x 31 20 4096 (by decide)
  have b31_25 := fN_lt x 31 25 128 (by decide)
  have b31_27 := fN_lt x 31 27 32 (by decide)
  have b31_26 := fN_lt x 31 26 64 (by decide)
  have b25_20 := fN_lt x 25 20 64 (by decide)
  have h_o : ((fN x 6 0 : Nat) : Int) = 47 := by omega
  have H_o := Lib.hid h_o
  clear h_o
  have h_k : ((fN x 14 12 : Nat) : Int) = 3 := by omega
  have H_k := Lib.hid h_k
  clear h_k
  have HM := Lib.hid hm
  clear hm
  have hwg : IntKind.i64.wrap ((fN x 31 27 : Nat) : Int) = ((fN x 31 27 : Nat) : Int) := IntWalk.i64_in _ (by omega)
  go_enter Try.func28, Try.ntmps28
  go_wp2_with fail
  refine (r3f x hx 11 7 (by decide) (by decide) (by decide) _).mono ?_
  rintro e w1 ⟨rfl, h1⟩
  obtain rfl := h1.symm
  go_wp2_with fail
  refine (r3f x hx 19 15 (by decide) (by decide) (by decide) _).mono ?_
  rintro e w1 ⟨rfl, h1⟩
  obtain rfl := h1.symm
  go_wp2_with fail
  refine (r3f x hx 24 20 (by decide) (by decide) (by decide) _).mono ?_
  rintro e w1 ⟨rfl, h1⟩
  obtain rfl := h1.symm
  go_wp2_with fail
  refine (r3f x hx 14 12 (by decide) (by decide) (by decide) _).mono ?_
  rintro e w1 ⟨rfl, h1⟩
  obtain rfl := h1.symm
  rw [H_k.out]
  go_wp2_with fail
  refine (r3f x hx 6 0 (by decide) (by decide) (by decide) _).mono ?_
  rintro e w1 ⟨rfl, h1⟩
  obtain rfl := h1.symm
  rw [H_o.out]
  go_wp2_with fail
  refine (r3f x hx 31 27 (by decide) (by decide) (by decide) _).mono ?_
  rintro e w1 ⟨rfl, h1⟩
  obtain rfl := h1.symm
  go_wp2_with fail
  refine (in_c [0, 1, 3, 4, 8, 12, 16, 20, 24, 28] (fN x 31 27) (by omega) (by decide) _ _ (u64_lit _ [0, 1, 3, 4, 8, 12, 16, 20, 24, 28] _ rfl _ (by simp) _)).mono ?_
  rintro e w1 ⟨rfl, h1⟩
  obtain rfl := h1.symm
  rw [HM.out]
  go_wp2_with fail
  go_returns
  exact ⟨rfl, (by repeat (first | with_reducible exact Grew.refl _ | with_reducible refine Grew.alloc ?_ _ | with_reducible refine Grew.drewN ?_ _ | with_reducible refine Grew.drew1 ?_ | with_reducible refine Grew.setCell ?_ (by simp) _))⟩
set_option maxRecDepth 100000 in
set_option maxHeartbeats 4000000 in
theorem rd_47_3b (x : Nat) (hx : x < 4294967296) (ho : fN x 6 0 = 47) (hk : fN x 14 12 = 3) (hm : memB [0, 1, 3, 4, 8, 12, 16, 20, 24, 28] (fN x 31 27) 0 = false) (hg : fN x 31 27 = 2) (hr : fN x 24 20 = 0) (w : World) :
    Calls Try.prog 28 #[.int .u32 (x : Nat)] w fun e w' => e = .returned (.tuple #[.agg #[.int .i64 13, .int .i64 2, .bool false, .int .i64 (fN x 11 7 : Nat), .int .i64 (fN x 19 15 : Nat), .int .i64 0, .int .u64 0], .bool true]) ∧ Grew w w' := by
  have b11_7 := fN_lt x 11 7 32 (by decide)
  have b19_15 := fN_lt x 19 15 32 (by decide)
  have b24_20 := fN_lt x 24 20 32 (by decide)
  have b14_12 := fN_lt x 14 12 8 (by decide)
  have b31_20 := fN_lt x 31 20 4096 (by decide)
  have b31_25 := fN_lt x 31 25 128 (by decide)
  have b31_27 := fN_lt x 31 27 32 (by decide)
  have b31_26 := fN_lt x 31 26 64 (by decide)
  have b25_20 := fN_lt x 25 20 64 (by decide)
  have h_o : ((fN x 6 0 : Nat) : Int) = 47 := by omega
  have H_o := Lib.hid h_o
  clear h_o
  have h_k : ((fN x 14 12 : Nat) : Int) = 3 := by omega
  have H_k := Lib.hid h_k
  clear h_k
  have h_g : ((fN x 31 27 : Nat) : Int) = 2 := by omega
  have H_g := Lib.hid h_g
  clear h_g
  have h_r : ((fN x 24 20 : Nat) : Int) = 0 := by omega
  have H_r := Lib.hid h_r
  clear h_r
  have HM := Lib.hid hm
  clear hm
  go_enter Try.func28, Try.ntmps28
  go_wp2_with fail
  refine (r3f x hx 11 7 (by decide) (by decide) (by decide) _).mono ?_
  rintro e w1 ⟨rfl, h1⟩
  obtain rfl := h1.symm
  go_wp2_with fail
  refine (r3f x hx 19 15 (by decide) (by decide) (by decide) _).mono ?_
  rintro e w1 ⟨rfl, h1⟩
  obtain rfl := h1.symm
  go_wp2_with fail
  refine (r3f x hx 24 20 (by decide) (by decide) (by decide) _).mono ?_
  rintro e w1 ⟨rfl, h1⟩
  obtain rfl := h1.symm
  rw [H_r.out]
  go_wp2_with fail
  refine (r3f x hx 14 12 (by decide) (by decide) (by decide) _).mono ?_
  rintro e w1 ⟨rfl, h1⟩
  obtain rfl := h1.symm
  rw [H_k.out]
  go_wp2_with fail
  refine (r3f x hx 6 0 (by decide) (by decide) (by decide) _).mono ?_
  rintro e w1 ⟨rfl, h1⟩
  obtain rfl := h1.symm
  rw [H_o.out]
  go_wp2_with fail
  refine (r3f x hx 31 27 (by decide) (by decide) (by decide) _).mono ?_
  rintro e w1 ⟨rfl, h1⟩
  obtain rfl := h1.symm
  rw [H_g.out]
  go_wp2_with fail
  refine (in_c [0, 1, 3, 4, 8, 12, 16, 20, 24, 28] 2 (by omega) (by decide) _ _ (u64_lit _ [0, 1, 3, 4, 8, 12, 16, 20, 24, 28] _ rfl _ (by simp) _)).mono ?_
  rintro e w1 ⟨rfl, h1⟩
  obtain rfl := h1.symm
  rw [show memB [0, 1, 3, 4, 8, 12, 16, 20, 24, 28] 2 0 = false by decide]
  go_wp2_with fail
  go_returns
  exact ⟨rfl, (by repeat (first | with_reducible exact Grew.refl _ | with_reducible refine Grew.alloc ?_ _ | with_reducible refine Grew.drewN ?_ _ | with_reducible refine Grew.drew1 ?_ | with_reducible refine Grew.setCell ?_ (by simp) _))⟩
set_option maxRecDepth 100000 in
set_option maxHeartbeats 4000000 in
theorem rd_47_3c (x : Nat) (hx : x < 4294967296) (ho : fN x 6 0 = 47) (hk : fN x 14 12 = 3) (hm : memB [0, 1, 3, 4, 8, 12, 16, 20, 24, 28] (fN x 31 27) 0 = false) (hg : fN x 31 27 = 2) (hr : ¬ fN x 24 20 = 0) (w : World) :
    Calls Try.prog 28 #[.int .u32 (x : Nat)] w fun e w' => e = .returned (.tuple #[.agg #[.int .i64 13, .int .i64 2, .bool false, .int .i64 (fN x 11 7 : Nat), .int .i64 (fN x 19 15 : Nat), .int .i64 (fN x 24 20 : Nat), .int .u64 0], .bool false]) ∧ Grew w w' := by
  have b11_7 := fN_lt x 11 7 32 (by decide)
  have b19_15 := fN_lt x 19 15 32 (by decide)
  have b24_20 := fN_lt x 24 20 32 (by decide)
  have b14_12 := fN_lt x 14 12 8 (by decide)
  have b31_20 := fN_lt x 31 20 4096 (by decide)
  have b31_25 := fN_lt x 31 25 128 (by decide)
  have b31_27 := fN_lt x 31 27 32 (by decide)
  have b31_26 := fN_lt x 31 26 64 (by decide)
  have b25_20 := fN_lt x 25 20 64 (by decide)
  have h_o : ((fN x 6 0 : Nat) : Int) = 47 := by omega
  have H_o := Lib.hid h_o
  clear h_o
  have h_k : ((fN x 14 12 : Nat) : Int) = 3 := by omega
  have H_k := Lib.hid h_k
  clear h_k
  have h_g : ((fN x 31 27 : Nat) : Int) = 2 := by omega
  have H_g := Lib.hid h_g
  clear h_g
  have n_r : (((fN x 24 20 : Nat) : Int) == 0) = false := by rw [beq_eq_false_iff_ne]; omega
  have HM := Lib.hid hm
  clear hm
  go_enter Try.func28, Try.ntmps28
  go_wp2_with fail
  refine (r3f x hx 11 7 (by decide) (by decide) (by decide) _).mono ?_
  rintro e w1 ⟨rfl, h1⟩
  obtain rfl := h1.symm
  go_wp2_with fail
  refine (r3f x hx 19 15 (by decide) (by decide) (by decide) _).mono ?_
  rintro e w1 ⟨rfl, h1⟩
  obtain rfl := h1.symm
  go_wp2_with fail
  refine (r3f x hx 24 20 (by decide) (by decide) (by decide) _).mono ?_
  rintro e w1 ⟨rfl, h1⟩
  obtain rfl := h1.symm
  go_wp2_with fail
  refine (r3f x hx 14 12 (by decide) (by decide) (by decide) _).mono ?_
  rintro e w1 ⟨rfl, h1⟩
  obtain rfl := h1.symm
  rw [H_k.out]
  go_wp2_with fail
  refine (r3f x hx 6 0 (by decide) (by decide) (by decide) _).mono ?_
  rintro e w1 ⟨rfl, h1⟩
  obtain rfl := h1.symm
  rw [H_o.out]
  go_wp2_with fail
  refine (r3f x hx 31 27 (by decide) (by decide) (by decide) _).mono ?_
  rintro e w1 ⟨rfl, h1⟩
  obtain rfl := h1.symm
  rw [H_g.out]
  go_wp2_with fail
  refine (in_c [0, 1, 3, 4, 8, 12, 16, 20, 24, 28] 2 (by omega) (by decide) _ _ (u64_lit _ [0, 1, 3, 4, 8, 12, 16, 20, 24, 28] _ rfl _ (by simp) _)).mono ?_
  rintro e w1 ⟨rfl, h1⟩
  obtain rfl := h1.symm
  rw [show memB [0, 1, 3, 4, 8, 12, 16, 20, 24, 28] 2 0 = false by decide]
  go_wp2_with fail
  go_returns
  exact ⟨rfl, (by repeat (first | with_reducible exact Grew.refl _ | with_reducible refine Grew.alloc ?_ _ | with_reducible refine Grew.drewN ?_ _ | with_reducible refine Grew.drew1 ?_ | with_reducible refine Grew.setCell ?_ (by simp) _))⟩
set_option maxRecDepth 100000 in
set_option maxHeartbeats 4000000 in
theorem rd_47_3d (x : Nat) (hx : x < 4294967296) (ho : fN x 6 0 = 47) (hk : fN x 14 12 = 3) (hm : memB [0, 1, 3, 4, 8, 12, 16, 20, 24, 28] (fN x 31 27) 0 = false) (hg : ¬ fN x 31 27 = 2) (w : World) :
    Calls Try.prog 28 #[.int .u32 (x : Nat)] w fun e w' => e = .returned (.tuple #[.agg #[.int .i64 13, .int .i64 (fN x 31 27 : Nat), .bool false, .int .i64 (fN x 11 7 : Nat), .int .i64 (fN x 19 15 : Nat), .int .i64 (fN x 24 20 : Nat), .int .u64 0], .bool false]) ∧ Grew w w' := by
  have b11_7 := fN_lt x 11 7 32 (by decide)
  have b19_15 := fN_lt x 19 15 32 (by decide)
  have b24_20 := fN_lt x 24 20 32 (by decide)
  have b14_12 := fN_lt x 14 12 8 (by decide)
  have b31_20 := fN_lt x 31 20 4096 (by decide)
  have b31_25 := fN_lt x 31 25 128 (by decide)
  have b31_27 := fN_lt x 31 27 32 (by decide)
  have b31_26 := fN_lt x 31 26 64 (by decide)
  have b25_20 := fN_lt x 25 20 64 (by decide)
  have h_o : ((fN x 6 0 : Nat) : Int) = 47 := by omega
  have H_o := Lib.hid h_o
  clear h_o
  have h_k : ((fN x 14 12 : Nat) : Int) = 3 := by omega
  have H_k := Lib.hid h_k
  clear h_k
  have n_g : (((fN x 31 27 : Nat) : Int) == 2) = false := by rw [beq_eq_false_iff_ne]; omega
  have HM := Lib.hid hm
  clear hm
  have hwg : IntKind.i64.wrap ((fN x 31 27 : Nat) : Int) = ((fN x 31 27 : Nat) : Int) := IntWalk.i64_in _ (by omega)
  go_enter Try.func28, Try.ntmps28
  go_wp2_with fail
  refine (r3f x hx 11 7 (by decide) (by decide) (by decide) _).mono ?_
  rintro e w1 ⟨rfl, h1⟩
  obtain rfl := h1.symm
  go_wp2_with fail
  refine (r3f x hx 19 15 (by decide) (by decide) (by decide) _).mono ?_
  rintro e w1 ⟨rfl, h1⟩
  obtain rfl := h1.symm
  go_wp2_with fail
  refine (r3f x hx 24 20 (by decide) (by decide) (by decide) _).mono ?_
  rintro e w1 ⟨rfl, h1⟩
  obtain rfl := h1.symm
  go_wp2_with fail
  refine (r3f x hx 14 12 (by decide) (by decide) (by decide) _).mono ?_
  rintro e w1 ⟨rfl, h1⟩
  obtain rfl := h1.symm
  rw [H_k.out]
  go_wp2_with fail
  refine (r3f x hx 6 0 (by decide) (by decide) (by decide) _).mono ?_
  rintro e w1 ⟨rfl, h1⟩
  obtain rfl := h1.symm
  rw [H_o.out]
  go_wp2_with fail
  refine (r3f x hx 31 27 (by decide) (by decide) (by decide) _).mono ?_
  rintro e w1 ⟨rfl, h1⟩
  obtain rfl := h1.symm
  go_wp2_with fail
  refine (in_c [0, 1, 3, 4, 8, 12, 16, 20, 24, 28] (fN x 31 27) (by omega) (by decide) _ _ (u64_lit _ [0, 1, 3, 4, 8, 12, 16, 20, 24, 28] _ rfl _ (by simp) _)).mono ?_
  rintro e w1 ⟨rfl, h1⟩
  obtain rfl := h1.symm
  rw [HM.out]
  go_wp2_with fail
  go_returns
  exact ⟨rfl, (by repeat (first | with_reducible exact Grew.refl _ | with_reducible refine Grew.alloc ?_ _ | with_reducible refine Grew.drewN ?_ _ | with_reducible refine Grew.drew1 ?_ | with_reducible refine Grew.setCell ?_ (by simp) _))⟩
set_option maxRecDepth 100000 in
set_option maxHeartbeats 4000000 in
theorem rd_47_oa (x : Nat) (hx : x < 4294967296) (ho : fN x 6 0 = 47) (h2 : ¬ fN x 14 12 = 2) (h3 : ¬ fN x 14 12 = 3) (hm : memB [0, 1, 3, 4, 8, 12, 16, 20, 24, 28] (fN x 31 27) 0 = true) (w : World) :
    Calls Try.prog 28 #[.int .u32 (x : Nat)] w fun e w' => e = .returned (.tuple #[.agg #[.int .i64 13, .int .i64 (fN x 31 27 : Nat), .bool false, .int .i64 (fN x 11 7 : Nat), .int .i64 (fN x 19 15 : Nat), .int .i64 (fN x 24 20 : Nat), .int .u64 0], .bool false]) ∧ Grew w w' := by
  have b11_7 := fN_lt x 11 7 32 (by decide)
  have b19_15 := fN_lt x 19 15 32 (by decide)
  have b24_20 := fN_lt x 24 20 32 (by decide)
  have b14_12 := fN_lt x 14 12 8 (by decide)
  have b31_20 := fN_lt x 31 20 4096 (by decide)
  have b31_25 := fN_lt x 31 25 128 (by decide)
  have b31_27 := fN_lt x 31 27 32 (by decide)
  have b31_26 := fN_lt x 31 26 64 (by decide)
  have b25_20 := fN_lt x 25 20 64 (by decide)
  have h_o : ((fN x 6 0 : Nat) : Int) = 47 := by omega
  have H_o := Lib.hid h_o
  clear h_o
  have n_k2 : (((fN x 14 12 : Nat) : Int) == 2) = false := by rw [beq_eq_false_iff_ne]; omega
  have n_k3 : (((fN x 14 12 : Nat) : Int) == 3) = false := by rw [beq_eq_false_iff_ne]; omega
  have HM := Lib.hid hm
  clear hm
  have hwg : IntKind.i64.wrap ((fN x 31 27 : Nat) : Int) = ((fN x 31 27 : Nat) : Int) := IntWalk.i64_in _ (by omega)
  go_enter Try.func28, Try.ntmps28
  go_wp2_with fail
  refine (r3f x hx 11 7 (by decide) (by decide) (by decide) _).mono ?_
  rintro e w1 ⟨rfl, h1⟩
  obtain rfl := h1.symm
  go_wp2_with fail
  refine (r3f x hx 19 15 (by decide) (by decide) (by decide) _).mono ?_
  rintro e w1 ⟨rfl, h1⟩
  obtain rfl := h1.symm
  go_wp2_with fail
  refine (r3f x hx 24 20 (by decide) (by decide) (by decide) _).mono ?_
  rintro e w1 ⟨rfl, h1⟩
  obtain rfl := h1.symm
  go_wp2_with fail
  refine (r3f x hx 14 12 (by decide) (by decide) (by decide) _).mono ?_
  rintro e w1 ⟨rfl, h1⟩
  obtain rfl := h1.symm
  go_wp2_with fail
  refine (r3f x hx 6 0 (by decide) (by decide) (by decide) _).mono ?_
  rintro e w1 ⟨rfl, h1⟩
  obtain rfl := h1.symm
  rw [H_o.out]
  go_wp2_with fail
  refine (r3f x hx 31 27 (by decide) (by decide) (by decide) _).mono ?_
  rintro e w1 ⟨rfl, h1⟩
  obtain rfl := h1.symm
  go_wp2_with fail
  refine (in_c [0, 1, 3, 4, 8, 12, 16, 20, 24, 28] (fN x 31 27) (by omega) (by decide) _ _ (u64_lit _ [0, 1, 3, 4, 8, 12, 16, 20, 24, 28] _ rfl _ (by simp) _)).mono ?_
  rintro e w1 ⟨rfl, h1⟩
  obtain rfl := h1.symm
  rw [HM.out]
  go_wp2_with fail
  go_returns
  exact ⟨rfl, (by repeat (first | with_reducible exact Grew.refl _ | with_reducible refine Grew.alloc ?_ _ | with_reducible refine Grew.drewN ?_ _ | with_reducible refine Grew.drew1 ?_ | with_reducible refine Grew.setCell ?_ (by simp) _))⟩
set_option maxRecDepth 100000 in
set_option maxHeartbeats 4000000 in
theorem rd_47_ob (x : Nat) (hx : x < 4294967296) (ho : fN x 6 0 = 47) (h2 : ¬ fN x 14 12 = 2) (h3 : ¬ fN x 14 12 = 3) (hm : memB [0, 1, 3, 4, 8, 12, 16, 20, 24, 28] (fN x 31 27) 0 = false) (hg : fN x 31 27 = 2) (hr : fN x 24 20 = 0) (w : World) :
    Calls Try.prog 28 #[.int .u32 (x : Nat)] w fun e w' => e = .returned (.tuple #[.agg #[.int .i64 13, .int .i64 2, .bool false, .int .i64 (fN x 11 7 : Nat), .int .i64 (fN x 19 15 : Nat), .int .i64 0, .int .u64 0], .bool false]) ∧ Grew w w' := by
  have b11_7 := fN_lt x 11 7 32 (by decide)
  have b19_15 := fN_lt x 19 15 32 (by decide)
  have b24_20 := fN_lt x 24 20 32 (by decide)
  have b14_12 := fN_lt x 14 12 8 (by decide)
  have b31_20 := fN_lt x 31 20 4096 (by decide)
  have b31_25 := fN_lt x 31 25 128 (by decide)
  have b31_27 := fN_lt x 31 27 32 (by decide)
  have b31_26 := fN_lt x 31 26 64 (by decide)
  have b25_20 := fN_lt x 25 20 64 (by decide)
  have h_o : ((fN x 6 0 : Nat) : Int) = 47 := by omega
  have H_o := Lib.hid h_o
  clear h_o
  have h_g : ((fN x 31 27 : Nat) : Int) = 2 := by omega
  have H_g := Lib.hid h_g
  clear h_g
  have h_r : ((fN x 24 20 : Nat) : Int) = 0 := by omega
  have H_r := Lib.hid h_r
  clear h_r
  have n_k2 : (((fN x 14 12 : Nat) : Int) == 2) = false := by rw [beq_eq_false_iff_ne]; omega
  have n_k3 : (((fN x 14 12 : Nat) : Int) == 3) = false := by rw [beq_eq_false_iff_ne]; omega
  have HM := Lib.hid hm
  clear hm
  go_enter Try.func28, Try.ntmps28
  go_wp2_with fail
  refine (r3f x hx 11 7 (by decide) (by decide) (by decide) _).mono ?_
  rintro e w1 ⟨rfl, h1⟩
  obtain rfl := h1.symm
  go_wp2_with fail
  refine (r3f x hx 19 15 (by decide) (by decide) (by decide) _).mono ?_
  rintro e w1 ⟨rfl, h1⟩
  obtain rfl := h1.symm
  go_wp2_with fail
  refine (r3f x hx 24 20 (by decide) (by decide) (by decide) _).mono ?_
  rintro e w1 ⟨rfl, h1⟩
  obtain rfl := h1.symm
  rw [H_r.out]
  go_wp2_with fail
  refine (r3f x hx 14 12 (by decide) (by decide) (by decide) _).mono ?_
  rintro e w1 ⟨rfl, h1⟩
  obtain rfl := h1.symm
  go_wp2_with fail
  refine (r3f x hx 6 0 (by decide) (by decide) (by decide) _).mono ?_
  rintro e w1 ⟨rfl, h1⟩
  obtain rfl := h1.symm
  rw [H_o.out]
  go_wp2_with fail
  refine (r3f x hx 31 27 (by decide) (by decide) (by decide) _).mono ?_
  rintro e w1 ⟨rfl, h1⟩
  obtain rfl := h1.symm
  rw [H_g.out]
  go_wp2_with fail
  refine (in_c [0, 1, 3, 4, 8, 12, 16, 20, 24, 28] 2 (by omega) (by decide) _ _ (u64_lit _ [0, 1, 3, 4, 8, 12, 16, 20, 24, 28] _ rfl _ (by simp) _)).mono ?_
  rintro e w1 ⟨rfl, h1⟩
  obtain rfl := h1.symm
  rw [show memB [0, 1, 3, 4, 8, 12, 16, 20, 24, 28] 2 0 = false by decide]
  go_wp2_with fail
  go_returns
  exact ⟨rfl, (by repeat (first | with_reducible exact Grew.refl _ | with_reducible refine Grew.alloc ?_ _ | with_reducible refine Grew.drewN ?_ _ | with_reducible refine Grew.drew1 ?_ | with_reducible refine Grew.setCell ?_ (by simp) _))⟩
set_option maxRecDepth 100000 in
set_option maxHeartbeats 4000000 in
theorem rd_47_oc (x : Nat) (hx : x < 4294967296) (ho : fN x 6 0 = 47) (h2 : ¬ fN x 14 12 = 2) (h3 : ¬ fN x 14 12 = 3) (hm : memB [0, 1, 3, 4, 8, 12, 16, 20, 24, 28] (fN x 31 27) 0 = false) (hg : fN x 31 27 = 2) (hr : ¬ fN x 24 20 = 0) (w : World) :
    Calls Try.prog 28 #[.int .u32 (x : Nat)] w fun e w' => e = .returned (.tuple #[.agg #[.int .i64 13, .int .i64 2, .bool false, .int .i64 (fN x 11 7 : Nat), .int .i64 (fN x 19 15 : Nat), .int .i64 (fN x 24 20 : Nat), .int .u64 0], .bool false]) ∧ Grew w w' := by
  have b11_7 := fN_lt x 11 7 32 (by decide)
  have b19_15 := fN_lt x 19 15 32 (by decide)
  have b24_20 := fN_lt x 24 20 32 (by decide)
  have b14_12 := fN_lt x 14 12 8 (by decide)
  have b31_20 := fN_lt x 31 20 4096 (by decide)
  have b31_25 := fN_lt x 31 25 128 (by decide)
  have b31_27 := fN_lt x 31 27 32 (by decide)
  have b31_26 := fN_lt x 31 26 64 (by decide)
  have b25_20 := fN_lt x 25 20 64 (by decide)
  have h_o : ((fN x 6 0 : Nat) : Int) = 47 := by omega
  have H_o := Lib.hid h_o
  clear h_o
  have h_g : ((fN x 31 27 : Nat) : Int) = 2 := by omega
  have H_g := Lib.hid h_g
  clear h_g
  have n_r : (((fN x 24 20 : Nat) : Int) == 0) = false := by rw [beq_eq_false_iff_ne]; omega
  have n_k2 : (((fN x 14 12 : Nat) : Int) == 2) = false := by rw [beq_eq_false_iff_ne]; omega
  have n_k3 : (((fN x 14 12 : Nat) : Int) == 3) = false := by rw [beq_eq_false_iff_ne]; omega
  have HM := Lib.hid hm
  clear hm
  go_enter Try.func28, Try.ntmps28
  go_wp2_with fail
  refine (r3f x hx 11 7 (by decide) (by decide) (by decide) _).mono ?_
  rintro e w1 ⟨rfl, h1⟩
  obtain rfl := h1.symm
  go_wp2_with fail
  refine (r3f x hx 19 15 (by decide) (by decide) (by decide) _).mono ?_
  rintro e w1 ⟨rfl, h1⟩
  obtain rfl := h1.symm
  go_wp2_with fail
  refine (r3f x hx 24 20 (by decide) (by decide) (by decide) _).mono ?_
  rintro e w1 ⟨rfl, h1⟩
  obtain rfl := h1.symm
  go_wp2_with fail
  refine (r3f x hx 14 12 (by decide) (by decide) (by decide) _).mono ?_
  rintro e w1 ⟨rfl, h1⟩
  obtain rfl := h1.symm
  go_wp2_with fail
  refine (r3f x hx 6 0 (by decide) (by decide) (by decide) _).mono ?_
  rintro e w1 ⟨rfl, h1⟩
  obtain rfl := h1.symm
  rw [H_o.out]
  go_wp2_with fail
  refine (r3f x hx 31 27 (by decide) (by decide) (by decide) _).mono ?_
  rintro e w1 ⟨rfl, h1⟩
  obtain rfl := h1.symm
  rw [H_g.out]
  go_wp2_with fail
  refine (in_c [0, 1, 3, 4, 8, 12, 16, 20, 24, 28] 2 (by omega) (by decide) _ _ (u64_lit _ [0, 1, 3, 4, 8, 12, 16, 20, 24, 28] _ rfl _ (by simp) _)).mono ?_
  rintro e w1 ⟨rfl, h1⟩
  obtain rfl := h1.symm
  rw [show memB [0, 1, 3, 4, 8, 12, 16, 20, 24, 28] 2 0 = false by decide]
  go_wp2_with fail
  go_returns
  exact ⟨rfl, (by repeat (first | with_reducible exact Grew.refl _ | with_reducible refine Grew.alloc ?_ _ | with_reducible refine Grew.drewN ?_ _ | with_reducible refine Grew.drew1 ?_ | with_reducible refine Grew.setCell ?_ (by simp) _))⟩
set_option maxRecDepth 100000 in
set_option maxHeartbeats 4000000 in
theorem rd_47_od (x : Nat) (hx : x < 4294967296) (ho : fN x 6 0 = 47) (h2 : ¬ fN x 14 12 = 2) (h3 : ¬ fN x 14 12 = 3) (hm : memB [0, 1, 3, 4, 8, 12, 16, 20, 24, 28] (fN x 31 27) 0 = false) (hg : ¬ fN x 31 27 = 2) (w : World) :
    Calls Try.prog 28 #[.int .u32 (x : Nat)] w fun e w' => e = .returned (.tuple #[.agg #[.int .i64 13, .int .i64 (fN x 31 27 : Nat), .bool false, .int .i64 (fN x 11 7 : Nat), .int .i64 (fN x 19 15 : Nat), .int .i64 (fN x 24 20 : Nat), .int .u64 0], .bool false]) ∧ Grew w w' := by
  have b11_7 := fN_lt x 11 7 32 (by decide)
  have b19_15 := fN_lt x 19 15 32 (by decide)
  have b24_20 := fN_lt x 24 20 32 (by decide)
  have b14_12 := fN_lt x 14 12 8 (by decide)
  have b31_20 := fN_lt x 31 20 4096 (by decide)
  have b31_25 := fN_lt x 31 25 128 (by decide)
  have b31_27 := fN_lt x 31 27 32 (by decide)
  have b31_26 := fN_lt x 31 26 64 (by decide)
  have b25_20 := fN_lt x 25 20 64 (by decide)
  have h_o : ((fN x 6 0 : Nat) : Int) = 47 := by omega
  have H_o := Lib.hid h_o
  clear h_o
  have n_g : (((fN x 31 27 : Nat) : Int) == 2) = false := by rw [beq_eq_false_iff_ne]; omega
  have n_k2 : (((fN x 14 12 : Nat) : Int) == 2) = false := by rw [beq_eq_false_iff_ne]; omega
  have n_k3 : (((fN x 14 12 : Nat) : Int) == 3) = false := by rw [beq_eq_false_iff_ne]; omega
  have HM := Lib.hid hm
  clear hm
  have hwg : IntKind.i64.wrap ((fN x 31 27 : Nat) : Int) = ((fN x 31 27 : Nat) : Int) := IntWalk.i64_in _ (by omega)
  go_enter Try.func28, Try.ntmps28
  go_wp2_with fail
  refine (r3f x hx 11 7 (by decide) (by decide) (by decide) _).mono ?_
  rintro e w1 ⟨rfl, h1⟩
  obtain rfl := h1.symm
  go_wp2_with fail
  refine (r3f x hx 19 15 (by decide) (by decide) (by decide) _).mono ?_
  rintro e w1 ⟨rfl, h1⟩
  obtain rfl := h1.symm
  go_wp2_with fail
  refine (r3f x hx 24 20 (by decide) (by decide) (by decide) _).mono ?_
  rintro e w1 ⟨rfl, h1⟩
  obtain rfl := h1.symm
  go_wp2_with fail
  refine (r3f x hx 14 12 (by decide) (by decide) (by decide) _).mono ?_
  rintro e w1 ⟨rfl, h1⟩
  obtain rfl := h1.symm
  go_wp2_with fail
  refine (r3f x hx 6 0 (by decide) (by decide) (by decide) _).mono ?_
  rintro e w1 ⟨rfl, h1⟩
  obtain rfl := h1.symm
  rw [H_o.out]
  go_wp2_with fail
  refine (r3f x hx 31 27 (by decide) (by decide) (by decide) _).mono ?_
  rintro e w1 ⟨rfl, h1⟩
  obtain rfl := h1.symm
  go_wp2_with fail
  refine (in_c [0, 1, 3, 4, 8, 12, 16, 20, 24, 28] (fN x 31 27) (by omega) (by decide) _ _ (u64_lit _ [0, 1, 3, 4, 8, 12, 16, 20, 24, 28] _ rfl _ (by simp) _)).mono ?_
  rintro e w1 ⟨rfl, h1⟩
  obtain rfl := h1.symm
  rw [HM.out]
  go_wp2_with fail
  go_returns
  exact ⟨rfl, (by repeat (first | with_reducible exact Grew.refl _ | with_reducible refine Grew.alloc ?_ _ | with_reducible refine Grew.drewN ?_ _ | with_reducible refine Grew.drew1 ?_ | with_reducible refine Grew.setCell ?_ (by simp) _))⟩
end Go.Proofs.Ytgekmhcekkmdhaa
