/-
  The document's do, Do, Cond and Amo of layer 4 answer what package alu answers.
-/
import Derived.Test.YtgekmhcekkmdhaaAluS
set_option linter.unusedVariables false
set_option linter.unusedSimpArgs false
namespace Go.Proofs.Ytgekmhcekkmdhaa
open Go Go.RowKit

/-! ### Signed comparison by turning the sign round -/
theorem xor_top (a : Int) (a0 : 0 ≤ a) (a1 : a < 18446744073709551616) : bits .xor .u64 a 9223372036854775808 = if a < 9223372036854775808 then a + 9223372036854775808 else a - 9223372036854775808 := by
  rw [u64_xor a 9223372036854775808 a0 a1 (by decide) (by decide)]
  obtain ⟨A, rfl⟩ := Int.eq_ofNat_of_zero_le a0
  rw [Int.toNat_natCast, show (9223372036854775808 : Int).toNat = 2 ^ 63 by decide]
  have h1 : (A ^^^ 2 ^ 63) % 2 ^ 63 = A % 2 ^ 63 := by rw [Nat.xor_mod_two_pow]; simp
  have h2 : (A ^^^ 2 ^ 63) / 2 ^ 63 = A / 2 ^ 63 ^^^ 1 := by rw [Nat.xor_div_two_pow]
  have h3 : A / 2 ^ 63 = 0 ∨ A / 2 ^ 63 = 1 := by omega
  have h4 := Nat.div_add_mod (A ^^^ 2 ^ 63) (2 ^ 63)
  have h5 := Nat.div_add_mod A (2 ^ 63)
  rcases h3 with h3 | h3
  · rw [h3, show (0 : Nat) ^^^ 1 = 1 by decide] at h2
    rw [h1, h2] at h4
    rw [if_pos (by omega)]
    omega
  · rw [h3, show (1 : Nat) ^^^ 1 = 0 by decide] at h2
    rw [h1, h2] at h4
    rw [if_neg (by omega)]
    omega
theorem less_eq (a b : Int) (a0 : 0 ≤ a) (a1 : a < 18446744073709551616) (b0 : 0 ≤ b) (b1 : b < 18446744073709551616) : lessV a b = decide (wrap64 a < wrap64 b) := by
  unfold lessV
  rw [xor_top a a0 a1, xor_top b b0 b1, wrap64_val a a0 a1, wrap64_val b b0 b1]
  congr 1
  split <;> split <;> simp <;> omega
theorem slt_eq (a b : Int) (a0 : 0 ≤ a) (a1 : a < 18446744073709551616) (b0 : 0 ≤ b) (b1 : b < 18446744073709551616) : flagV (lessV a b) = sltV a b := by rw [less_eq a b a0 a1 b0 b1]; rfl
theorem cond_eq (f : Int) (a b : Int) (a0 : 0 ≤ a) (a1 : a < 18446744073709551616) (b0 : 0 ≤ b) (b1 : b < 18446744073709551616) : condR f a b = condV f a b := by
  unfold condR condV
  rw [less_eq a b a0 a1 b0 b1, ← decide_not]
  simp only [Int.not_lt]
theorem amo_eq (f : Int) (a b : Int) (a0 : 0 ≤ a) (a1 : a < 18446744073709551616) (b0 : 0 ≤ b) (b1 : b < 18446744073709551616) : amoR f a b = amoPV f a b := by
  have e16 := amo_16 a b a0 a1 b0 b1
  have e20 := amo_20 a b a0 a1 b0 b1
  rw [AmoV_n] at e16 e20
  rw [show amoPV 16 a b = IntKind.u64.wrap (pickV (wrap64 a) (wrap64 b) false) by simp [amoPV]] at e16
  rw [show amoPV 20 a b = IntKind.u64.wrap (pickV (wrap64 a) (wrap64 b) true) by simp [amoPV]] at e20
  have e24 := amo_24 a b
  have e28 := amo_28 a b
  rw [AmoV_n] at e24 e28
  rw [show amoPV 24 a b = pickV a b false by simp [amoPV]] at e24
  rw [show amoPV 28 a b = pickV a b true by simp [amoPV]] at e28
  unfold amoR amoPV
  rw [e16, e20, e24, e28, less_eq b a b0 b1 a0 a1, less_eq a b a0 a1 b0 b1]
  simp only [decide_eq_true_eq]
  have h1 : (if wrap64 a < wrap64 b then b else a) = if wrap64 b < wrap64 a then a else b := by
    by_cases h : wrap64 a = wrap64 b
    · rw [wrap64_inj a b a0 a1 b0 b1 h]
    · split <;> split <;> first | rfl | omega
  have h2 : (if a < b then b else a) = if b < a then a else b := by
    split <;> split <;> omega
  rw [h1, h2]
theorem Amo_eq (f : Int) (word : Bool) (a b : Int) (a0 : 0 ≤ a) (a1 : a < 18446744073709551616) (b0 : 0 ≤ b) (b1 : b < 18446744073709551616) : AmoR f word a b = AmoV f word a b := by
  have ha := sext_b a a0 a1
  have hb := sext_b b b0 b1
  unfold AmoR AmoV
  rw [amo_eq f a b a0 a1 b0 b1, amo_eq f _ _ ha.1 ha.2 hb.1 hb.2, field32]

/-! ### Words -/
theorem sext_cong (x y : Int) (h : x % 4294967296 = y % 4294967296) : sextV x 32 = sextV y 32 := by rw [sext32, sext32, h]
theorem sext_mod (a : Int) : sextV a 32 % 4294967296 = a % 4294967296 := by rw [sext32]; split <;> omega
theorem word_0 (a b : Int) : sextV (addV (a % 4294967296) (b % 4294967296)) 32 = doPV 0 true a b := by
  rw [show doPV 0 true a b = sextV (addV (sextV a 32) (sextV b 32)) 32 by simp [doPV, hasNarrow, opV, nA, nB]]
  refine sext_cong _ _ ?_
  have h1 := sext_mod a
  have h2 := sext_mod b
  unfold addV
  rw [wrap_u64, wrap_u64]
  omega
theorem word_8 (a b : Int) : sextV (subV (a % 4294967296) (b % 4294967296)) 32 = doPV 8 true a b := by
  rw [show doPV 8 true a b = sextV (subV (sextV a 32) (sextV b 32)) 32 by simp [doPV, hasNarrow, opV, nA, nB]]
  refine sext_cong _ _ ?_
  have h1 := sext_mod a
  have h2 := sext_mod b
  unfold subV
  rw [wrap_u64, wrap_u64]
  omega
theorem wrap_mod32 (x : Int) : IntKind.u64.wrap x % 4294967296 = x % 4294967296 := by rw [wrap_u64]; omega
theorem word_16 (a b : Int) : sextV (mulV (a % 4294967296) (b % 4294967296)) 32 = doPV 16 true a b := by
  rw [show doPV 16 true a b = sextV (mulV (sextV a 32) (sextV b 32)) 32 by simp [doPV, hasNarrow, opV, nA, nB]]
  refine sext_cong _ _ ?_
  unfold mulV
  rw [wrap_mod32, wrap_mod32, Int.mul_emod (sextV a 32), sext_mod, sext_mod]
theorem word_1 (a b : Int) : sextV (sllV (a % 4294967296) (b % 32)) 32 = doPV 1 true a b := by
  rw [show doPV 1 true a b = sextV (sllV (fieldV a 31 0) (b % 32)) 32 by simp [doPV, hasNarrow, opV, nA, nB], field32]
theorem word_5 (a b : Int) : sextV (srlV (a % 4294967296) (b % 32)) 32 = doPV 5 true a b := by
  rw [show doPV 5 true a b = sextV (srlV (fieldV a 31 0) (b % 32)) 32 by simp [doPV, hasNarrow, opV, nA, nB], field32]
theorem word_13 (a b : Int) : sextV (sraV (sextV a 32) (sextV b 32 % 32)) 32 = doPV 13 true a b := by
  rw [show doPV 13 true a b = sextV (sraV (sextV a 32) (b % 32)) 32 by simp [doPV, hasNarrow, opV, nA, nB], show sextV b 32 % 32 = b % 32 by rw [sext32]; split <;> omega]
theorem word_20 (a b : Int) : sextV (divV (sextV a 32) (sextV b 32)) 32 = doPV 20 true a b := by simp [doPV, hasNarrow, opV, nA, nB]
theorem word_22 (a b : Int) : sextV (remV (sextV a 32) (sextV b 32)) 32 = doPV 22 true a b := by simp [doPV, hasNarrow, opV, nA, nB]
theorem word_21 (a b : Int) : sextV (divuV (a % 4294967296) (b % 4294967296)) 32 = doPV 21 true a b := by simp [doPV, hasNarrow, opV, nA, nB, field32]
theorem word_23 (a b : Int) : sextV (remuV (a % 4294967296) (b % 4294967296)) 32 = doPV 23 true a b := by simp [doPV, hasNarrow, opV, nA, nB, field32]

/-! ### do -/
set_option maxRecDepth 100000 in
theorem rdo_0 (n : Int) (n0 : 1 ≤ n) (n1 : n ≤ 64) (a b : Int) (a0 : 0 ≤ a) (a1 : a < 18446744073709551616) (b0 : 0 ≤ b) (b1 : b < 18446744073709551616) (w : World) : Calls Try.prog 34 #[.int .i64 0, .int .u64 n, .int .u64 a, .int .u64 b] w fun e w' => e = .returned (.int .u64 (addV a b)) ∧ w' = w := by
  go_enter Try.func34, Try.ntmps34
  go_wp2_with fail
  go_ret
  exact ⟨rfl, rfl⟩
set_option maxRecDepth 100000 in
theorem rdo_1 (n : Int) (n0 : 1 ≤ n) (n1 : n ≤ 64) (a b : Int) (a0 : 0 ≤ a) (a1 : a < 18446744073709551616) (b0 : 0 ≤ b) (b1 : b < 18446744073709551616) (w : World) : Calls Try.prog 34 #[.int .i64 1, .int .u64 n, .int .u64 a, .int .u64 b] w fun e w' => e = .returned (.int .u64 (sllV a (b % n))) ∧ w' = w := by
  have c0 : 0 ≤ b % n := Int.emod_nonneg b (by omega)
  have c1 : b % n < n := Int.emod_lt_of_pos b (by omega)
  have c2 : b % n < 64 := by omega
  have H := Lib.hid (show b % n % 64 = b % n by omega)
  go_enter Try.func34, Try.ntmps34
  go_wp2_with fail
  go_ret
  exact ⟨ret_u64 (by unfold sllV; rw [H.out]), rfl⟩
set_option maxRecDepth 100000 in
theorem rdo_2 (n : Int) (n0 : 1 ≤ n) (n1 : n ≤ 64) (a b : Int) (a0 : 0 ≤ a) (a1 : a < 18446744073709551616) (b0 : 0 ≤ b) (b1 : b < 18446744073709551616) (w : World) : Calls Try.prog 34 #[.int .i64 2, .int .u64 n, .int .u64 a, .int .u64 b] w fun e w' => e = .returned (.int .u64 (sltV a b)) ∧ w' = w := by
  go_enter Try.func34, Try.ntmps34
  go_wp2_with fail
  refine (less_c a b a0 a1 b0 b1 _).mono ?_
  rintro e w1 ⟨rfl, h1⟩
  obtain rfl := h1.symm
  go_wp2_with fail
  refine (one_c _ _).mono ?_
  rintro e w1 ⟨rfl, h1⟩
  obtain rfl := h1.symm
  go_wp2_with fail
  go_ret
  exact ⟨ret_u64 (slt_eq a b a0 a1 b0 b1), rfl⟩
set_option maxRecDepth 100000 in
theorem rdo_3 (n : Int) (n0 : 1 ≤ n) (n1 : n ≤ 64) (a b : Int) (a0 : 0 ≤ a) (a1 : a < 18446744073709551616) (b0 : 0 ≤ b) (b1 : b < 18446744073709551616) (w : World) : Calls Try.prog 34 #[.int .i64 3, .int .u64 n, .int .u64 a, .int .u64 b] w fun e w' => e = .returned (.int .u64 (sltuV a b)) ∧ w' = w := by
  go_enter Try.func34, Try.ntmps34
  go_wp2_with fail
  refine (one_c _ _).mono ?_
  rintro e w1 ⟨rfl, h1⟩
  obtain rfl := h1.symm
  go_wp2_with fail
  go_ret
  exact ⟨rfl, rfl⟩
set_option maxRecDepth 100000 in
theorem rdo_4 (n : Int) (n0 : 1 ≤ n) (n1 : n ≤ 64) (a b : Int) (a0 : 0 ≤ a) (a1 : a < 18446744073709551616) (b0 : 0 ≤ b) (b1 : b < 18446744073709551616) (w : World) : Calls Try.prog 34 #[.int .i64 4, .int .u64 n, .int .u64 a, .int .u64 b] w fun e w' => e = .returned (.int .u64 (xorV a b)) ∧ w' = w := by
  go_enter Try.func34, Try.ntmps34
  go_wp2_with fail
  go_ret
  exact ⟨rfl, rfl⟩
set_option maxRecDepth 100000 in
theorem rdo_5 (n : Int) (n0 : 1 ≤ n) (n1 : n ≤ 64) (a b : Int) (a0 : 0 ≤ a) (a1 : a < 18446744073709551616) (b0 : 0 ≤ b) (b1 : b < 18446744073709551616) (w : World) : Calls Try.prog 34 #[.int .i64 5, .int .u64 n, .int .u64 a, .int .u64 b] w fun e w' => e = .returned (.int .u64 (srlV a (b % n))) ∧ w' = w := by
  have c0 : 0 ≤ b % n := Int.emod_nonneg b (by omega)
  have c1 : b % n < n := Int.emod_lt_of_pos b (by omega)
  have c2 : b % n < 64 := by omega
  have H := Lib.hid (show b % n % 64 = b % n by omega)
  go_enter Try.func34, Try.ntmps34
  go_wp2_with fail
  go_ret
  exact ⟨ret_u64 (by unfold srlV; rw [H.out]), rfl⟩
set_option maxRecDepth 100000 in
theorem rdo_6 (n : Int) (n0 : 1 ≤ n) (n1 : n ≤ 64) (a b : Int) (a0 : 0 ≤ a) (a1 : a < 18446744073709551616) (b0 : 0 ≤ b) (b1 : b < 18446744073709551616) (w : World) : Calls Try.prog 34 #[.int .i64 6, .int .u64 n, .int .u64 a, .int .u64 b] w fun e w' => e = .returned (.int .u64 (orV a b)) ∧ w' = w := by
  go_enter Try.func34, Try.ntmps34
  go_wp2_with fail
  go_ret
  exact ⟨rfl, rfl⟩
set_option maxRecDepth 100000 in
theorem rdo_7 (n : Int) (n0 : 1 ≤ n) (n1 : n ≤ 64) (a b : Int) (a0 : 0 ≤ a) (a1 : a < 18446744073709551616) (b0 : 0 ≤ b) (b1 : b < 18446744073709551616) (w : World) : Calls Try.prog 34 #[.int .i64 7, .int .u64 n, .int .u64 a, .int .u64 b] w fun e w' => e = .returned (.int .u64 (andV a b)) ∧ w' = w := by
  go_enter Try.func34, Try.ntmps34
  go_wp2_with fail
  go_ret
  exact ⟨rfl, rfl⟩
set_option maxRecDepth 100000 in
theorem rdo_8 (n : Int) (n0 : 1 ≤ n) (n1 : n ≤ 64) (a b : Int) (a0 : 0 ≤ a) (a1 : a < 18446744073709551616) (b0 : 0 ≤ b) (b1 : b < 18446744073709551616) (w : World) : Calls Try.prog 34 #[.int .i64 8, .int .u64 n, .int .u64 a, .int .u64 b] w fun e w' => e = .returned (.int .u64 (subV a b)) ∧ w' = w := by
  go_enter Try.func34, Try.ntmps34
  go_wp2_with fail
  go_ret
  exact ⟨rfl, rfl⟩
set_option maxRecDepth 100000 in
theorem rdo_13 (n : Int) (n0 : 1 ≤ n) (n1 : n ≤ 64) (a b : Int) (a0 : 0 ≤ a) (a1 : a < 18446744073709551616) (b0 : 0 ≤ b) (b1 : b < 18446744073709551616) (w : World) : Calls Try.prog 34 #[.int .i64 13, .int .u64 n, .int .u64 a, .int .u64 b] w fun e w' => e = .returned (.int .u64 (sraV a (b % n))) ∧ w' = w := by
  have c0 : 0 ≤ b % n := Int.emod_nonneg b (by omega)
  have c1 : b % n < n := Int.emod_lt_of_pos b (by omega)
  have c2 : b % n < 64 := by omega
  go_enter Try.func34, Try.ntmps34
  go_wp2_with fail
  refine (rsra_c a (b % n) a0 a1 c0 c2 _).mono ?_
  rintro e w1 ⟨rfl, h1⟩
  obtain rfl := h1.symm
  go_wp2_with fail
  go_ret
  exact ⟨rfl, rfl⟩
set_option maxRecDepth 100000 in
theorem rdo_16 (n : Int) (n0 : 1 ≤ n) (n1 : n ≤ 64) (a b : Int) (a0 : 0 ≤ a) (a1 : a < 18446744073709551616) (b0 : 0 ≤ b) (b1 : b < 18446744073709551616) (w : World) : Calls Try.prog 34 #[.int .i64 16, .int .u64 n, .int .u64 a, .int .u64 b] w fun e w' => e = .returned (.int .u64 (mulV a b)) ∧ w' = w := by
  go_enter Try.func34, Try.ntmps34
  go_wp2_with fail
  go_ret
  exact ⟨rfl, rfl⟩
set_option maxRecDepth 100000 in
theorem rdo_17 (n : Int) (n0 : 1 ≤ n) (n1 : n ≤ 64) (a b : Int) (a0 : 0 ≤ a) (a1 : a < 18446744073709551616) (b0 : 0 ≤ b) (b1 : b < 18446744073709551616) (w : World) : Calls Try.prog 34 #[.int .i64 17, .int .u64 n, .int .u64 a, .int .u64 b] w fun e w' => e = .returned (.int .u64 (hisV a b)) ∧ w' = w := by
  go_enter Try.func34, Try.ntmps34
  go_wp2_with fail
  refine (high_c a b a0 a1 b0 b1 _).mono ?_
  rintro e w1 ⟨rfl, h1⟩
  obtain rfl := h1.symm
  go_wp2_with fail
  refine (neg_c a _).mono ?_
  rintro e w1 ⟨rfl, h1⟩
  obtain rfl := h1.symm
  go_wp2_with fail
  refine (one_c _ _).mono ?_
  rintro e w1 ⟨rfl, h1⟩
  obtain rfl := h1.symm
  go_wp2_with fail
  refine (neg_c b _).mono ?_
  rintro e w1 ⟨rfl, h1⟩
  obtain rfl := h1.symm
  go_wp2_with fail
  refine (one_c _ _).mono ?_
  rintro e w1 ⟨rfl, h1⟩
  obtain rfl := h1.symm
  go_wp2_with fail
  go_ret
  exact ⟨ret_u64 (by rw [him_val a b b0 b1]; exact his_val2 a b a0 a1), rfl⟩
set_option maxRecDepth 100000 in
theorem rdo_18 (n : Int) (n0 : 1 ≤ n) (n1 : n ≤ 64) (a b : Int) (a0 : 0 ≤ a) (a1 : a < 18446744073709551616) (b0 : 0 ≤ b) (b1 : b < 18446744073709551616) (w : World) : Calls Try.prog 34 #[.int .i64 18, .int .u64 n, .int .u64 a, .int .u64 b] w fun e w' => e = .returned (.int .u64 (himV a b)) ∧ w' = w := by
  go_enter Try.func34, Try.ntmps34
  go_wp2_with fail
  refine (high_c a b a0 a1 b0 b1 _).mono ?_
  rintro e w1 ⟨rfl, h1⟩
  obtain rfl := h1.symm
  go_wp2_with fail
  refine (neg_c a _).mono ?_
  rintro e w1 ⟨rfl, h1⟩
  obtain rfl := h1.symm
  go_wp2_with fail
  refine (one_c _ _).mono ?_
  rintro e w1 ⟨rfl, h1⟩
  obtain rfl := h1.symm
  go_wp2_with fail
  go_ret
  exact ⟨ret_u64 (him_val a b b0 b1), rfl⟩
set_option maxRecDepth 100000 in
theorem rdo_19 (n : Int) (n0 : 1 ≤ n) (n1 : n ≤ 64) (a b : Int) (a0 : 0 ≤ a) (a1 : a < 18446744073709551616) (b0 : 0 ≤ b) (b1 : b < 18446744073709551616) (w : World) : Calls Try.prog 34 #[.int .i64 19, .int .u64 n, .int .u64 a, .int .u64 b] w fun e w' => e = .returned (.int .u64 (hiV a b)) ∧ w' = w := by
  go_enter Try.func34, Try.ntmps34
  go_wp2_with fail
  refine (high_c a b a0 a1 b0 b1 _).mono ?_
  rintro e w1 ⟨rfl, h1⟩
  obtain rfl := h1.symm
  go_wp2_with fail
  go_ret
  exact ⟨rfl, rfl⟩
set_option maxRecDepth 100000 in
theorem rdo_20 (n : Int) (n0 : 1 ≤ n) (n1 : n ≤ 64) (a b : Int) (a0 : 0 ≤ a) (a1 : a < 18446744073709551616) (b0 : 0 ≤ b) (b1 : b < 18446744073709551616) (w : World) : Calls Try.prog 34 #[.int .i64 20, .int .u64 n, .int .u64 a, .int .u64 b] w fun e w' => e = .returned (.int .u64 (divV a b)) ∧ w' = w := by
  go_enter Try.func34, Try.ntmps34
  go_wp2_with fail
  refine (quo_20 a b a0 a1 b0 b1 _).mono ?_
  rintro e w1 ⟨rfl, h1⟩
  obtain rfl := h1.symm
  go_wp2_with fail
  go_ret
  exact ⟨rfl, rfl⟩
set_option maxRecDepth 100000 in
theorem rdo_21 (n : Int) (n0 : 1 ≤ n) (n1 : n ≤ 64) (a b : Int) (a0 : 0 ≤ a) (a1 : a < 18446744073709551616) (b0 : 0 ≤ b) (b1 : b < 18446744073709551616) (w : World) : Calls Try.prog 34 #[.int .i64 21, .int .u64 n, .int .u64 a, .int .u64 b] w fun e w' => e = .returned (.int .u64 (divuV a b)) ∧ w' = w := by
  go_enter Try.func34, Try.ntmps34
  go_wp2_with fail
  refine (quo_21 a b a0 a1 b0 b1 _).mono ?_
  rintro e w1 ⟨rfl, h1⟩
  obtain rfl := h1.symm
  go_wp2_with fail
  go_ret
  exact ⟨rfl, rfl⟩
set_option maxRecDepth 100000 in
theorem rdo_22 (n : Int) (n0 : 1 ≤ n) (n1 : n ≤ 64) (a b : Int) (a0 : 0 ≤ a) (a1 : a < 18446744073709551616) (b0 : 0 ≤ b) (b1 : b < 18446744073709551616) (w : World) : Calls Try.prog 34 #[.int .i64 22, .int .u64 n, .int .u64 a, .int .u64 b] w fun e w' => e = .returned (.int .u64 (remV a b)) ∧ w' = w := by
  go_enter Try.func34, Try.ntmps34
  go_wp2_with fail
  refine (quo_22 a b a0 a1 b0 b1 _).mono ?_
  rintro e w1 ⟨rfl, h1⟩
  obtain rfl := h1.symm
  go_wp2_with fail
  go_ret
  exact ⟨rfl, rfl⟩
set_option maxRecDepth 100000 in
theorem rdo_23 (n : Int) (n0 : 1 ≤ n) (n1 : n ≤ 64) (a b : Int) (a0 : 0 ≤ a) (a1 : a < 18446744073709551616) (b0 : 0 ≤ b) (b1 : b < 18446744073709551616) (w : World) : Calls Try.prog 34 #[.int .i64 23, .int .u64 n, .int .u64 a, .int .u64 b] w fun e w' => e = .returned (.int .u64 (remuV a b)) ∧ w' = w := by
  go_enter Try.func34, Try.ntmps34
  go_wp2_with fail
  refine (quo_23 a b a0 a1 b0 b1 _).mono ?_
  rintro e w1 ⟨rfl, h1⟩
  obtain rfl := h1.symm
  go_wp2_with fail
  go_ret
  exact ⟨rfl, rfl⟩
set_option maxRecDepth 100000 in
theorem rdo_none (f : Int) (h0 : ¬ f = 0) (h1 : ¬ f = 1) (h2 : ¬ f = 2) (h3 : ¬ f = 3) (h4 : ¬ f = 4) (h5 : ¬ f = 5) (h6 : ¬ f = 6) (h7 : ¬ f = 7) (h8 : ¬ f = 8) (h13 : ¬ f = 13) (h16 : ¬ f = 16) (h17 : ¬ f = 17) (h18 : ¬ f = 18) (h19 : ¬ f = 19) (h20 : ¬ f = 20) (h21 : ¬ f = 21) (h22 : ¬ f = 22) (h23 : ¬ f = 23) (n a b : Int) (w : World) : Calls Try.prog 34 #[.int .i64 f, .int .u64 n, .int .u64 a, .int .u64 b] w fun e w' => e = .returned (.int .u64 0) ∧ w' = w := by
  go_enter Try.func34, Try.ntmps34
  go_wp2_with fail
  go_ret
  exact ⟨rfl, rfl⟩
end Go.Proofs.Ytgekmhcekkmdhaa
