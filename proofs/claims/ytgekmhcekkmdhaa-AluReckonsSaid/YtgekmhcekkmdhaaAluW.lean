/-
  The document's Do of layer 4 answers what package alu's Do does.
-/
import Derived.Test.YtgekmhcekkmdhaaAluV
set_option linter.unusedVariables false
set_option linter.unusedSimpArgs false
namespace Go.Proofs.Ytgekmhcekkmdhaa
open Go Go.RowKit

theorem sh_64 (b : Int) : b % 64 % 64 = b % 64 := by omega
theorem rDo_n0 (a b : Int) (a0 : 0 ≤ a) (a1 : a < 18446744073709551616) (b0 : 0 ≤ b) (b1 : b < 18446744073709551616) (w : World) : Calls Try.prog 18 #[.int .i64 0, .bool false, .int .u64 a, .int .u64 b] w fun e w' => e = .returned (.int .u64 (doPV 0 false a b)) ∧ w' = w := by
  rw [show doPV 0 false a b = addV a b by simp [doPV, opV]]
  go_enter Try.func18, Try.ntmps18
  go_wp2_with fail
  refine (rdo_0 64 (by decide) (by decide) a b a0 a1 b0 b1 _).mono ?_
  rintro e w1 ⟨rfl, h1⟩
  obtain rfl := h1.symm
  go_wp2_with fail
  go_ret
  exact ⟨rfl, rfl⟩
theorem rDo_n1 (a b : Int) (a0 : 0 ≤ a) (a1 : a < 18446744073709551616) (b0 : 0 ≤ b) (b1 : b < 18446744073709551616) (w : World) : Calls Try.prog 18 #[.int .i64 1, .bool false, .int .u64 a, .int .u64 b] w fun e w' => e = .returned (.int .u64 (doPV 1 false a b)) ∧ w' = w := by
  rw [show doPV 1 false a b = sllV a (b % 64) by simp [doPV, opV, sllV, sh_64]]
  go_enter Try.func18, Try.ntmps18
  go_wp2_with fail
  refine (rdo_1 64 (by decide) (by decide) a b a0 a1 b0 b1 _).mono ?_
  rintro e w1 ⟨rfl, h1⟩
  obtain rfl := h1.symm
  go_wp2_with fail
  go_ret
  exact ⟨rfl, rfl⟩
theorem rDo_n2 (a b : Int) (a0 : 0 ≤ a) (a1 : a < 18446744073709551616) (b0 : 0 ≤ b) (b1 : b < 18446744073709551616) (w : World) : Calls Try.prog 18 #[.int .i64 2, .bool false, .int .u64 a, .int .u64 b] w fun e w' => e = .returned (.int .u64 (doPV 2 false a b)) ∧ w' = w := by
  rw [show doPV 2 false a b = sltV a b by simp [doPV, opV]]
  go_enter Try.func18, Try.ntmps18
  go_wp2_with fail
  refine (rdo_2 64 (by decide) (by decide) a b a0 a1 b0 b1 _).mono ?_
  rintro e w1 ⟨rfl, h1⟩
  obtain rfl := h1.symm
  go_wp2_with fail
  go_ret
  exact ⟨rfl, rfl⟩
theorem rDo_n3 (a b : Int) (a0 : 0 ≤ a) (a1 : a < 18446744073709551616) (b0 : 0 ≤ b) (b1 : b < 18446744073709551616) (w : World) : Calls Try.prog 18 #[.int .i64 3, .bool false, .int .u64 a, .int .u64 b] w fun e w' => e = .returned (.int .u64 (doPV 3 false a b)) ∧ w' = w := by
  rw [show doPV 3 false a b = sltuV a b by simp [doPV, opV]]
  go_enter Try.func18, Try.ntmps18
  go_wp2_with fail
  refine (rdo_3 64 (by decide) (by decide) a b a0 a1 b0 b1 _).mono ?_
  rintro e w1 ⟨rfl, h1⟩
  obtain rfl := h1.symm
  go_wp2_with fail
  go_ret
  exact ⟨rfl, rfl⟩
theorem rDo_n4 (a b : Int) (a0 : 0 ≤ a) (a1 : a < 18446744073709551616) (b0 : 0 ≤ b) (b1 : b < 18446744073709551616) (w : World) : Calls Try.prog 18 #[.int .i64 4, .bool false, .int .u64 a, .int .u64 b] w fun e w' => e = .returned (.int .u64 (doPV 4 false a b)) ∧ w' = w := by
  rw [show doPV 4 false a b = xorV a b by simp [doPV, opV]]
  go_enter Try.func18, Try.ntmps18
  go_wp2_with fail
  refine (rdo_4 64 (by decide) (by decide) a b a0 a1 b0 b1 _).mono ?_
  rintro e w1 ⟨rfl, h1⟩
  obtain rfl := h1.symm
  go_wp2_with fail
  go_ret
  exact ⟨rfl, rfl⟩
theorem rDo_n5 (a b : Int) (a0 : 0 ≤ a) (a1 : a < 18446744073709551616) (b0 : 0 ≤ b) (b1 : b < 18446744073709551616) (w : World) : Calls Try.prog 18 #[.int .i64 5, .bool false, .int .u64 a, .int .u64 b] w fun e w' => e = .returned (.int .u64 (doPV 5 false a b)) ∧ w' = w := by
  rw [show doPV 5 false a b = srlV a (b % 64) by simp [doPV, opV, srlV, sh_64]]
  go_enter Try.func18, Try.ntmps18
  go_wp2_with fail
  refine (rdo_5 64 (by decide) (by decide) a b a0 a1 b0 b1 _).mono ?_
  rintro e w1 ⟨rfl, h1⟩
  obtain rfl := h1.symm
  go_wp2_with fail
  go_ret
  exact ⟨rfl, rfl⟩
theorem rDo_n6 (a b : Int) (a0 : 0 ≤ a) (a1 : a < 18446744073709551616) (b0 : 0 ≤ b) (b1 : b < 18446744073709551616) (w : World) : Calls Try.prog 18 #[.int .i64 6, .bool false, .int .u64 a, .int .u64 b] w fun e w' => e = .returned (.int .u64 (doPV 6 false a b)) ∧ w' = w := by
  rw [show doPV 6 false a b = orV a b by simp [doPV, opV]]
  go_enter Try.func18, Try.ntmps18
  go_wp2_with fail
  refine (rdo_6 64 (by decide) (by decide) a b a0 a1 b0 b1 _).mono ?_
  rintro e w1 ⟨rfl, h1⟩
  obtain rfl := h1.symm
  go_wp2_with fail
  go_ret
  exact ⟨rfl, rfl⟩
theorem rDo_n7 (a b : Int) (a0 : 0 ≤ a) (a1 : a < 18446744073709551616) (b0 : 0 ≤ b) (b1 : b < 18446744073709551616) (w : World) : Calls Try.prog 18 #[.int .i64 7, .bool false, .int .u64 a, .int .u64 b] w fun e w' => e = .returned (.int .u64 (doPV 7 false a b)) ∧ w' = w := by
  rw [show doPV 7 false a b = andV a b by simp [doPV, opV]]
  go_enter Try.func18, Try.ntmps18
  go_wp2_with fail
  refine (rdo_7 64 (by decide) (by decide) a b a0 a1 b0 b1 _).mono ?_
  rintro e w1 ⟨rfl, h1⟩
  obtain rfl := h1.symm
  go_wp2_with fail
  go_ret
  exact ⟨rfl, rfl⟩
theorem rDo_n8 (a b : Int) (a0 : 0 ≤ a) (a1 : a < 18446744073709551616) (b0 : 0 ≤ b) (b1 : b < 18446744073709551616) (w : World) : Calls Try.prog 18 #[.int .i64 8, .bool false, .int .u64 a, .int .u64 b] w fun e w' => e = .returned (.int .u64 (doPV 8 false a b)) ∧ w' = w := by
  rw [show doPV 8 false a b = subV a b by simp [doPV, opV]]
  go_enter Try.func18, Try.ntmps18
  go_wp2_with fail
  refine (rdo_8 64 (by decide) (by decide) a b a0 a1 b0 b1 _).mono ?_
  rintro e w1 ⟨rfl, h1⟩
  obtain rfl := h1.symm
  go_wp2_with fail
  go_ret
  exact ⟨rfl, rfl⟩
theorem rDo_n13 (a b : Int) (a0 : 0 ≤ a) (a1 : a < 18446744073709551616) (b0 : 0 ≤ b) (b1 : b < 18446744073709551616) (w : World) : Calls Try.prog 18 #[.int .i64 13, .bool false, .int .u64 a, .int .u64 b] w fun e w' => e = .returned (.int .u64 (doPV 13 false a b)) ∧ w' = w := by
  rw [show doPV 13 false a b = sraV a (b % 64) by simp [doPV, opV, sraV, sh_64]]
  go_enter Try.func18, Try.ntmps18
  go_wp2_with fail
  refine (rdo_13 64 (by decide) (by decide) a b a0 a1 b0 b1 _).mono ?_
  rintro e w1 ⟨rfl, h1⟩
  obtain rfl := h1.symm
  go_wp2_with fail
  go_ret
  exact ⟨rfl, rfl⟩
theorem rDo_n16 (a b : Int) (a0 : 0 ≤ a) (a1 : a < 18446744073709551616) (b0 : 0 ≤ b) (b1 : b < 18446744073709551616) (w : World) : Calls Try.prog 18 #[.int .i64 16, .bool false, .int .u64 a, .int .u64 b] w fun e w' => e = .returned (.int .u64 (doPV 16 false a b)) ∧ w' = w := by
  rw [show doPV 16 false a b = mulV a b by simp [doPV, opV]]
  go_enter Try.func18, Try.ntmps18
  go_wp2_with fail
  refine (rdo_16 64 (by decide) (by decide) a b a0 a1 b0 b1 _).mono ?_
  rintro e w1 ⟨rfl, h1⟩
  obtain rfl := h1.symm
  go_wp2_with fail
  go_ret
  exact ⟨rfl, rfl⟩
theorem rDo_n17 (a b : Int) (a0 : 0 ≤ a) (a1 : a < 18446744073709551616) (b0 : 0 ≤ b) (b1 : b < 18446744073709551616) (w : World) : Calls Try.prog 18 #[.int .i64 17, .bool false, .int .u64 a, .int .u64 b] w fun e w' => e = .returned (.int .u64 (doPV 17 false a b)) ∧ w' = w := by
  rw [show doPV 17 false a b = hisV a b by simp [doPV, opV]]
  go_enter Try.func18, Try.ntmps18
  go_wp2_with fail
  refine (rdo_17 64 (by decide) (by decide) a b a0 a1 b0 b1 _).mono ?_
  rintro e w1 ⟨rfl, h1⟩
  obtain rfl := h1.symm
  go_wp2_with fail
  go_ret
  exact ⟨rfl, rfl⟩
theorem rDo_n18 (a b : Int) (a0 : 0 ≤ a) (a1 : a < 18446744073709551616) (b0 : 0 ≤ b) (b1 : b < 18446744073709551616) (w : World) : Calls Try.prog 18 #[.int .i64 18, .bool false, .int .u64 a, .int .u64 b] w fun e w' => e = .returned (.int .u64 (doPV 18 false a b)) ∧ w' = w := by
  rw [show doPV 18 false a b = himV a b by simp [doPV, opV]]
  go_enter Try.func18, Try.ntmps18
  go_wp2_with fail
  refine (rdo_18 64 (by decide) (by decide) a b a0 a1 b0 b1 _).mono ?_
  rintro e w1 ⟨rfl, h1⟩
  obtain rfl := h1.symm
  go_wp2_with fail
  go_ret
  exact ⟨rfl, rfl⟩
theorem rDo_n19 (a b : Int) (a0 : 0 ≤ a) (a1 : a < 18446744073709551616) (b0 : 0 ≤ b) (b1 : b < 18446744073709551616) (w : World) : Calls Try.prog 18 #[.int .i64 19, .bool false, .int .u64 a, .int .u64 b] w fun e w' => e = .returned (.int .u64 (doPV 19 false a b)) ∧ w' = w := by
  rw [show doPV 19 false a b = hiV a b by simp [doPV, opV]]
  go_enter Try.func18, Try.ntmps18
  go_wp2_with fail
  refine (rdo_19 64 (by decide) (by decide) a b a0 a1 b0 b1 _).mono ?_
  rintro e w1 ⟨rfl, h1⟩
  obtain rfl := h1.symm
  go_wp2_with fail
  go_ret
  exact ⟨rfl, rfl⟩
theorem rDo_n20 (a b : Int) (a0 : 0 ≤ a) (a1 : a < 18446744073709551616) (b0 : 0 ≤ b) (b1 : b < 18446744073709551616) (w : World) : Calls Try.prog 18 #[.int .i64 20, .bool false, .int .u64 a, .int .u64 b] w fun e w' => e = .returned (.int .u64 (doPV 20 false a b)) ∧ w' = w := by
  rw [show doPV 20 false a b = divV a b by simp [doPV, opV]]
  go_enter Try.func18, Try.ntmps18
  go_wp2_with fail
  refine (rdo_20 64 (by decide) (by decide) a b a0 a1 b0 b1 _).mono ?_
  rintro e w1 ⟨rfl, h1⟩
  obtain rfl := h1.symm
  go_wp2_with fail
  go_ret
  exact ⟨rfl, rfl⟩
theorem rDo_n21 (a b : Int) (a0 : 0 ≤ a) (a1 : a < 18446744073709551616) (b0 : 0 ≤ b) (b1 : b < 18446744073709551616) (w : World) : Calls Try.prog 18 #[.int .i64 21, .bool false, .int .u64 a, .int .u64 b] w fun e w' => e = .returned (.int .u64 (doPV 21 false a b)) ∧ w' = w := by
  rw [show doPV 21 false a b = divuV a b by simp [doPV, opV]]
  go_enter Try.func18, Try.ntmps18
  go_wp2_with fail
  refine (rdo_21 64 (by decide) (by decide) a b a0 a1 b0 b1 _).mono ?_
  rintro e w1 ⟨rfl, h1⟩
  obtain rfl := h1.symm
  go_wp2_with fail
  go_ret
  exact ⟨rfl, rfl⟩
theorem rDo_n22 (a b : Int) (a0 : 0 ≤ a) (a1 : a < 18446744073709551616) (b0 : 0 ≤ b) (b1 : b < 18446744073709551616) (w : World) : Calls Try.prog 18 #[.int .i64 22, .bool false, .int .u64 a, .int .u64 b] w fun e w' => e = .returned (.int .u64 (doPV 22 false a b)) ∧ w' = w := by
  rw [show doPV 22 false a b = remV a b by simp [doPV, opV]]
  go_enter Try.func18, Try.ntmps18
  go_wp2_with fail
  refine (rdo_22 64 (by decide) (by decide) a b a0 a1 b0 b1 _).mono ?_
  rintro e w1 ⟨rfl, h1⟩
  obtain rfl := h1.symm
  go_wp2_with fail
  go_ret
  exact ⟨rfl, rfl⟩
theorem rDo_n23 (a b : Int) (a0 : 0 ≤ a) (a1 : a < 18446744073709551616) (b0 : 0 ≤ b) (b1 : b < 18446744073709551616) (w : World) : Calls Try.prog 18 #[.int .i64 23, .bool false, .int .u64 a, .int .u64 b] w fun e w' => e = .returned (.int .u64 (doPV 23 false a b)) ∧ w' = w := by
  rw [show doPV 23 false a b = remuV a b by simp [doPV, opV]]
  go_enter Try.func18, Try.ntmps18
  go_wp2_with fail
  refine (rdo_23 64 (by decide) (by decide) a b a0 a1 b0 b1 _).mono ?_
  rintro e w1 ⟨rfl, h1⟩
  obtain rfl := h1.symm
  go_wp2_with fail
  go_ret
  exact ⟨rfl, rfl⟩
theorem rDo_w0 (a b : Int) (a0 : 0 ≤ a) (a1 : a < 18446744073709551616) (b0 : 0 ≤ b) (b1 : b < 18446744073709551616) (w : World) : Calls Try.prog 18 #[.int .i64 0, .bool true, .int .u64 a, .int .u64 b] w fun e w' => e = .returned (.int .u64 (doPV 0 true a b)) ∧ w' = w := by
  have H := Lib.hid (word_0 a b)
  have ha : 0 ≤ a % 4294967296 ∧ a % 4294967296 < 18446744073709551616 := by omega
  have hb : 0 ≤ b % 4294967296 ∧ b % 4294967296 < 18446744073709551616 := by omega
  have hv := opV_lt 0 (a % 4294967296) (b % 4294967296) ha.1 ha.2 hb.1 hb.2
  rw [show opV 0 (a % 4294967296) (b % 4294967296) = addV (a % 4294967296) (b % 4294967296) by simp [opV]] at hv
  go_enter Try.func18, Try.ntmps18
  go_wp2_with fail
  refine (rdo_0 32 (by decide) (by decide) (a % 4294967296) (b % 4294967296) ha.1 ha.2 hb.1 hb.2 _).mono ?_
  rintro e w1 ⟨rfl, h1⟩
  obtain rfl := h1.symm
  go_wp2_with fail
  refine (refSext_c _ 32 hv.1 hv.2 _).mono ?_
  rintro e w1 ⟨rfl, h1⟩
  obtain rfl := h1.symm
  go_wp2_with fail
  go_ret
  exact ⟨ret_u64 H.out, rfl⟩
theorem rDo_w1 (a b : Int) (a0 : 0 ≤ a) (a1 : a < 18446744073709551616) (b0 : 0 ≤ b) (b1 : b < 18446744073709551616) (w : World) : Calls Try.prog 18 #[.int .i64 1, .bool true, .int .u64 a, .int .u64 b] w fun e w' => e = .returned (.int .u64 (doPV 1 true a b)) ∧ w' = w := by
  have H := Lib.hid (word_1 a b)
  have ha : 0 ≤ a % 4294967296 ∧ a % 4294967296 < 18446744073709551616 := by omega
  have hb : 0 ≤ b % 4294967296 ∧ b % 4294967296 < 18446744073709551616 := by omega
  have hv := opV_lt 1 (a % 4294967296) (b % 32) ha.1 ha.2 (by omega) (by omega)
  rw [show opV 1 (a % 4294967296) (b % 32) = sllV (a % 4294967296) (b % 32) by simp [opV]] at hv
  go_enter Try.func18, Try.ntmps18
  go_wp2_with fail
  refine (rdo_1 32 (by decide) (by decide) (a % 4294967296) (b % 4294967296) ha.1 ha.2 hb.1 hb.2 _).mono ?_
  rintro e w1 ⟨rfl, h1⟩
  obtain rfl := h1.symm
  go_wp2_with fail
  refine (refSext_c _ 32 hv.1 hv.2 _).mono ?_
  rintro e w1 ⟨rfl, h1⟩
  obtain rfl := h1.symm
  go_wp2_with fail
  go_ret
  exact ⟨ret_u64 H.out, rfl⟩
theorem rDo_w5 (a b : Int) (a0 : 0 ≤ a) (a1 : a < 18446744073709551616) (b0 : 0 ≤ b) (b1 : b < 18446744073709551616) (w : World) : Calls Try.prog 18 #[.int .i64 5, .bool true, .int .u64 a, .int .u64 b] w fun e w' => e = .returned (.int .u64 (doPV 5 true a b)) ∧ w' = w := by
  have H := Lib.hid (word_5 a b)
  have ha : 0 ≤ a % 4294967296 ∧ a % 4294967296 < 18446744073709551616 := by omega
  have hb : 0 ≤ b % 4294967296 ∧ b % 4294967296 < 18446744073709551616 := by omega
  have hv := opV_lt 5 (a % 4294967296) (b % 32) ha.1 ha.2 (by omega) (by omega)
  rw [show opV 5 (a % 4294967296) (b % 32) = srlV (a % 4294967296) (b % 32) by simp [opV]] at hv
  go_enter Try.func18, Try.ntmps18
  go_wp2_with fail
  refine (rdo_5 32 (by decide) (by decide) (a % 4294967296) (b % 4294967296) ha.1 ha.2 hb.1 hb.2 _).mono ?_
  rintro e w1 ⟨rfl, h1⟩
  obtain rfl := h1.symm
  go_wp2_with fail
  refine (refSext_c _ 32 hv.1 hv.2 _).mono ?_
  rintro e w1 ⟨rfl, h1⟩
  obtain rfl := h1.symm
  go_wp2_with fail
  go_ret
  exact ⟨ret_u64 H.out, rfl⟩
theorem rDo_w8 (a b : Int) (a0 : 0 ≤ a) (a1 : a < 18446744073709551616) (b0 : 0 ≤ b) (b1 : b < 18446744073709551616) (w : World) : Calls Try.prog 18 #[.int .i64 8, .bool true, .int .u64 a, .int .u64 b] w fun e w' => e = .returned (.int .u64 (doPV 8 true a b)) ∧ w' = w := by
  have H := Lib.hid (word_8 a b)
  have ha : 0 ≤ a % 4294967296 ∧ a % 4294967296 < 18446744073709551616 := by omega
  have hb : 0 ≤ b % 4294967296 ∧ b % 4294967296 < 18446744073709551616 := by omega
  have hv := opV_lt 8 (a % 4294967296) (b % 4294967296) ha.1 ha.2 hb.1 hb.2
  rw [show opV 8 (a % 4294967296) (b % 4294967296) = subV (a % 4294967296) (b % 4294967296) by simp [opV]] at hv
  go_enter Try.func18, Try.ntmps18
  go_wp2_with fail
  refine (rdo_8 32 (by decide) (by decide) (a % 4294967296) (b % 4294967296) ha.1 ha.2 hb.1 hb.2 _).mono ?_
  rintro e w1 ⟨rfl, h1⟩
  obtain rfl := h1.symm
  go_wp2_with fail
  refine (refSext_c _ 32 hv.1 hv.2 _).mono ?_
  rintro e w1 ⟨rfl, h1⟩
  obtain rfl := h1.symm
  go_wp2_with fail
  go_ret
  exact ⟨ret_u64 H.out, rfl⟩
theorem rDo_w13 (a b : Int) (a0 : 0 ≤ a) (a1 : a < 18446744073709551616) (b0 : 0 ≤ b) (b1 : b < 18446744073709551616) (w : World) : Calls Try.prog 18 #[.int .i64 13, .bool true, .int .u64 a, .int .u64 b] w fun e w' => e = .returned (.int .u64 (doPV 13 true a b)) ∧ w' = w := by
  have H := Lib.hid (word_13 a b)
  have ha := sext_b a a0 a1
  have hb := sext_b b b0 b1
  have hv := opV_lt 13 (sextV a 32) ((sextV b 32) % 32) ha.1 ha.2 (by omega) (by omega)
  rw [show opV 13 (sextV a 32) ((sextV b 32) % 32) = sraV (sextV a 32) ((sextV b 32) % 32) by simp [opV]] at hv
  go_enter Try.func18, Try.ntmps18
  go_wp2_with fail
  refine (refSext_c a 32 a0 a1 _).mono ?_
  rintro e w1 ⟨rfl, h1⟩
  obtain rfl := h1.symm
  go_wp2_with fail
  refine (refSext_c b 32 b0 b1 _).mono ?_
  rintro e w1 ⟨rfl, h1⟩
  obtain rfl := h1.symm
  go_wp2_with fail
  refine (rdo_13 32 (by decide) (by decide) (sextV a 32) (sextV b 32) ha.1 ha.2 hb.1 hb.2 _).mono ?_
  rintro e w1 ⟨rfl, h1⟩
  obtain rfl := h1.symm
  go_wp2_with fail
  refine (refSext_c _ 32 hv.1 hv.2 _).mono ?_
  rintro e w1 ⟨rfl, h1⟩
  obtain rfl := h1.symm
  go_wp2_with fail
  go_ret
  exact ⟨ret_u64 H.out, rfl⟩
theorem rDo_w16 (a b : Int) (a0 : 0 ≤ a) (a1 : a < 18446744073709551616) (b0 : 0 ≤ b) (b1 : b < 18446744073709551616) (w : World) : Calls Try.prog 18 #[.int .i64 16, .bool true, .int .u64 a, .int .u64 b] w fun e w' => e = .returned (.int .u64 (doPV 16 true a b)) ∧ w' = w := by
  have H := Lib.hid (word_16 a b)
  have ha : 0 ≤ a % 4294967296 ∧ a % 4294967296 < 18446744073709551616 := by omega
  have hb : 0 ≤ b % 4294967296 ∧ b % 4294967296 < 18446744073709551616 := by omega
  have hv := opV_lt 16 (a % 4294967296) (b % 4294967296) ha.1 ha.2 hb.1 hb.2
  rw [show opV 16 (a % 4294967296) (b % 4294967296) = mulV (a % 4294967296) (b % 4294967296) by simp [opV]] at hv
  go_enter Try.func18, Try.ntmps18
  go_wp2_with fail
  refine (rdo_16 32 (by decide) (by decide) (a % 4294967296) (b % 4294967296) ha.1 ha.2 hb.1 hb.2 _).mono ?_
  rintro e w1 ⟨rfl, h1⟩
  obtain rfl := h1.symm
  go_wp2_with fail
  refine (refSext_c _ 32 hv.1 hv.2 _).mono ?_
  rintro e w1 ⟨rfl, h1⟩
  obtain rfl := h1.symm
  go_wp2_with fail
  go_ret
  exact ⟨ret_u64 H.out, rfl⟩
theorem rDo_w20 (a b : Int) (a0 : 0 ≤ a) (a1 : a < 18446744073709551616) (b0 : 0 ≤ b) (b1 : b < 18446744073709551616) (w : World) : Calls Try.prog 18 #[.int .i64 20, .bool true, .int .u64 a, .int .u64 b] w fun e w' => e = .returned (.int .u64 (doPV 20 true a b)) ∧ w' = w := by
  have H := Lib.hid (word_20 a b)
  have ha := sext_b a a0 a1
  have hb := sext_b b b0 b1
  have hv := opV_lt 20 (sextV a 32) (sextV b 32) ha.1 ha.2 hb.1 hb.2
  rw [show opV 20 (sextV a 32) (sextV b 32) = divV (sextV a 32) (sextV b 32) by simp [opV]] at hv
  go_enter Try.func18, Try.ntmps18
  go_wp2_with fail
  refine (refSext_c a 32 a0 a1 _).mono ?_
  rintro e w1 ⟨rfl, h1⟩
  obtain rfl := h1.symm
  go_wp2_with fail
  refine (refSext_c b 32 b0 b1 _).mono ?_
  rintro e w1 ⟨rfl, h1⟩
  obtain rfl := h1.symm
  go_wp2_with fail
  refine (rdo_20 32 (by decide) (by decide) (sextV a 32) (sextV b 32) ha.1 ha.2 hb.1 hb.2 _).mono ?_
  rintro e w1 ⟨rfl, h1⟩
  obtain rfl := h1.symm
  go_wp2_with fail
  refine (refSext_c _ 32 hv.1 hv.2 _).mono ?_
  rintro e w1 ⟨rfl, h1⟩
  obtain rfl := h1.symm
  go_wp2_with fail
  go_ret
  exact ⟨ret_u64 H.out, rfl⟩
theorem rDo_w21 (a b : Int) (a0 : 0 ≤ a) (a1 : a < 18446744073709551616) (b0 : 0 ≤ b) (b1 : b < 18446744073709551616) (w : World) : Calls Try.prog 18 #[.int .i64 21, .bool true, .int .u64 a, .int .u64 b] w fun e w' => e = .returned (.int .u64 (doPV 21 true a b)) ∧ w' = w := by
  have H := Lib.hid (word_21 a b)
  have ha : 0 ≤ a % 4294967296 ∧ a % 4294967296 < 18446744073709551616 := by omega
  have hb : 0 ≤ b % 4294967296 ∧ b % 4294967296 < 18446744073709551616 := by omega
  have hv := opV_lt 21 (a % 4294967296) (b % 4294967296) ha.1 ha.2 hb.1 hb.2
  rw [show opV 21 (a % 4294967296) (b % 4294967296) = divuV (a % 4294967296) (b % 4294967296) by simp [opV]] at hv
  go_enter Try.func18, Try.ntmps18
  go_wp2_with fail
  refine (rdo_21 32 (by decide) (by decide) (a % 4294967296) (b % 4294967296) ha.1 ha.2 hb.1 hb.2 _).mono ?_
  rintro e w1 ⟨rfl, h1⟩
  obtain rfl := h1.symm
  go_wp2_with fail
  refine (refSext_c _ 32 hv.1 hv.2 _).mono ?_
  rintro e w1 ⟨rfl, h1⟩
  obtain rfl := h1.symm
  go_wp2_with fail
  go_ret
  exact ⟨ret_u64 H.out, rfl⟩
theorem rDo_w22 (a b : Int) (a0 : 0 ≤ a) (a1 : a < 18446744073709551616) (b0 : 0 ≤ b) (b1 : b < 18446744073709551616) (w : World) : Calls Try.prog 18 #[.int .i64 22, .bool true, .int .u64 a, .int .u64 b] w fun e w' => e = .returned (.int .u64 (doPV 22 true a b)) ∧ w' = w := by
  have H := Lib.hid (word_22 a b)
  have ha := sext_b a a0 a1
  have hb := sext_b b b0 b1
  have hv := opV_lt 22 (sextV a 32) (sextV b 32) ha.1 ha.2 hb.1 hb.2
  rw [show opV 22 (sextV a 32) (sextV b 32) = remV (sextV a 32) (sextV b 32) by simp [opV]] at hv
  go_enter Try.func18, Try.ntmps18
  go_wp2_with fail
  refine (refSext_c a 32 a0 a1 _).mono ?_
  rintro e w1 ⟨rfl, h1⟩
  obtain rfl := h1.symm
  go_wp2_with fail
  refine (refSext_c b 32 b0 b1 _).mono ?_
  rintro e w1 ⟨rfl, h1⟩
  obtain rfl := h1.symm
  go_wp2_with fail
  refine (rdo_22 32 (by decide) (by decide) (sextV a 32) (sextV b 32) ha.1 ha.2 hb.1 hb.2 _).mono ?_
  rintro e w1 ⟨rfl, h1⟩
  obtain rfl := h1.symm
  go_wp2_with fail
  refine (refSext_c _ 32 hv.1 hv.2 _).mono ?_
  rintro e w1 ⟨rfl, h1⟩
  obtain rfl := h1.symm
  go_wp2_with fail
  go_ret
  exact ⟨ret_u64 H.out, rfl⟩
theorem rDo_w23 (a b : Int) (a0 : 0 ≤ a) (a1 : a < 18446744073709551616) (b0 : 0 ≤ b) (b1 : b < 18446744073709551616) (w : World) : Calls Try.prog 18 #[.int .i64 23, .bool true, .int .u64 a, .int .u64 b] w fun e w' => e = .returned (.int .u64 (doPV 23 true a b)) ∧ w' = w := by
  have H := Lib.hid (word_23 a b)
  have ha : 0 ≤ a % 4294967296 ∧ a % 4294967296 < 18446744073709551616 := by omega
  have hb : 0 ≤ b % 4294967296 ∧ b % 4294967296 < 18446744073709551616 := by omega
  have hv := opV_lt 23 (a % 4294967296) (b % 4294967296) ha.1 ha.2 hb.1 hb.2
  rw [show opV 23 (a % 4294967296) (b % 4294967296) = remuV (a % 4294967296) (b % 4294967296) by simp [opV]] at hv
  go_enter Try.func18, Try.ntmps18
  go_wp2_with fail
  refine (rdo_23 32 (by decide) (by decide) (a % 4294967296) (b % 4294967296) ha.1 ha.2 hb.1 hb.2 _).mono ?_
  rintro e w1 ⟨rfl, h1⟩
  obtain rfl := h1.symm
  go_wp2_with fail
  refine (refSext_c _ 32 hv.1 hv.2 _).mono ?_
  rintro e w1 ⟨rfl, h1⟩
  obtain rfl := h1.symm
  go_wp2_with fail
  go_ret
  exact ⟨ret_u64 H.out, rfl⟩
theorem rDo_wnone (f : Int) (h0 : ¬ f = 0) (h1 : ¬ f = 1) (h5 : ¬ f = 5) (h8 : ¬ f = 8) (h13 : ¬ f = 13) (h16 : ¬ f = 16) (h20 : ¬ f = 20) (h21 : ¬ f = 21) (h22 : ¬ f = 22) (h23 : ¬ f = 23) (a b : Int) (a0 : 0 ≤ a) (b0 : 0 ≤ b) (w : World) : Calls Try.prog 18 #[.int .i64 f, .bool true, .int .u64 a, .int .u64 b] w fun e w' => e = .returned (.int .u64 0) ∧ w' = w := by
  go_enter Try.func18, Try.ntmps18
  go_wp2_with fail
  go_ret
  exact ⟨rfl, rfl⟩
theorem rDo_nnone (f : Int) (h0 : ¬ f = 0) (h1 : ¬ f = 1) (h2 : ¬ f = 2) (h3 : ¬ f = 3) (h4 : ¬ f = 4) (h5 : ¬ f = 5) (h6 : ¬ f = 6) (h7 : ¬ f = 7) (h8 : ¬ f = 8) (h13 : ¬ f = 13) (h16 : ¬ f = 16) (h17 : ¬ f = 17) (h18 : ¬ f = 18) (h19 : ¬ f = 19) (h20 : ¬ f = 20) (h21 : ¬ f = 21) (h22 : ¬ f = 22) (h23 : ¬ f = 23) (a b : Int) (w : World) : Calls Try.prog 18 #[.int .i64 f, .bool false, .int .u64 a, .int .u64 b] w fun e w' => e = .returned (.int .u64 0) ∧ w' = w := by
  go_enter Try.func18, Try.ntmps18
  go_wp2_with fail
  refine (rdo_none f h0 h1 h2 h3 h4 h5 h6 h7 h8 h13 h16 h17 h18 h19 h20 h21 h22 h23 64 a b _).mono ?_
  rintro e w1 ⟨rfl, h1⟩
  obtain rfl := h1.symm
  go_wp2_with fail
  go_ret
  exact ⟨rfl, rfl⟩
theorem rDo_c (f : Int) (word : Bool) (a b : Int) (a0 : 0 ≤ a) (a1 : a < 18446744073709551616) (b0 : 0 ≤ b) (b1 : b < 18446744073709551616) (w : World) : Calls Try.prog 18 #[.int .i64 f, .bool word, .int .u64 a, .int .u64 b] w fun e w' => e = .returned (.int .u64 (doPV f word a b)) ∧ w' = w := by
  cases word
  · by_cases h0 : f = 0
    · subst h0; exact rDo_n0 a b a0 a1 b0 b1 w
    by_cases h1 : f = 1
    · subst h1; exact rDo_n1 a b a0 a1 b0 b1 w
    by_cases h2 : f = 2
    · subst h2; exact rDo_n2 a b a0 a1 b0 b1 w
    by_cases h3 : f = 3
    · subst h3; exact rDo_n3 a b a0 a1 b0 b1 w
    by_cases h4 : f = 4
    · subst h4; exact rDo_n4 a b a0 a1 b0 b1 w
    by_cases h5 : f = 5
    · subst h5; exact rDo_n5 a b a0 a1 b0 b1 w
    by_cases h6 : f = 6
    · subst h6; exact rDo_n6 a b a0 a1 b0 b1 w
    by_cases h7 : f = 7
    · subst h7; exact rDo_n7 a b a0 a1 b0 b1 w
    by_cases h8 : f = 8
    · subst h8; exact rDo_n8 a b a0 a1 b0 b1 w
    by_cases h13 : f = 13
    · subst h13; exact rDo_n13 a b a0 a1 b0 b1 w
    by_cases h16 : f = 16
    · subst h16; exact rDo_n16 a b a0 a1 b0 b1 w
    by_cases h17 : f = 17
    · subst h17; exact rDo_n17 a b a0 a1 b0 b1 w
    by_cases h18 : f = 18
    · subst h18; exact rDo_n18 a b a0 a1 b0 b1 w
    by_cases h19 : f = 19
    · subst h19; exact rDo_n19 a b a0 a1 b0 b1 w
    by_cases h20 : f = 20
    · subst h20; exact rDo_n20 a b a0 a1 b0 b1 w
    by_cases h21 : f = 21
    · subst h21; exact rDo_n21 a b a0 a1 b0 b1 w
    by_cases h22 : f = 22
    · subst h22; exact rDo_n22 a b a0 a1 b0 b1 w
    by_cases h23 : f = 23
    · subst h23; exact rDo_n23 a b a0 a1 b0 b1 w
    rw [show doPV f false a b = 0 by simp [doPV, opV, h0, h1, h2, h3, h4, h5, h6, h7, h8, h13, h16, h17, h18, h19, h20, h21, h22, h23]]
    exact rDo_nnone f h0 h1 h2 h3 h4 h5 h6 h7 h8 h13 h16 h17 h18 h19 h20 h21 h22 h23 a b w
  · by_cases h0 : f = 0
    · subst h0; exact rDo_w0 a b a0 a1 b0 b1 w
    by_cases h1 : f = 1
    · subst h1; exact rDo_w1 a b a0 a1 b0 b1 w
    by_cases h5 : f = 5
    · subst h5; exact rDo_w5 a b a0 a1 b0 b1 w
    by_cases h8 : f = 8
    · subst h8; exact rDo_w8 a b a0 a1 b0 b1 w
    by_cases h13 : f = 13
    · subst h13; exact rDo_w13 a b a0 a1 b0 b1 w
    by_cases h16 : f = 16
    · subst h16; exact rDo_w16 a b a0 a1 b0 b1 w
    by_cases h20 : f = 20
    · subst h20; exact rDo_w20 a b a0 a1 b0 b1 w
    by_cases h21 : f = 21
    · subst h21; exact rDo_w21 a b a0 a1 b0 b1 w
    by_cases h22 : f = 22
    · subst h22; exact rDo_w22 a b a0 a1 b0 b1 w
    by_cases h23 : f = 23
    · subst h23; exact rDo_w23 a b a0 a1 b0 b1 w
    rw [show doPV f true a b = 0 by
      have hn : hasNarrow f = false := by unfold hasNarrow; rw [decide_eq_false_iff_not]; omega
      unfold doPV; rw [hn]; simp]
    exact rDo_wnone f h0 h1 h5 h8 h13 h16 h20 h21 h22 h23 a b a0 b0 w
end Go.Proofs.Ytgekmhcekkmdhaa
