/-
  Contracts of package alu: the upper half of a product, and how words are made of a pair.
-/
import Derived.Test.YtgekmhcekkmdhaaAluA
import Derived.Deep.DeepCutAuto
set_option linter.unusedVariables false
set_option linter.unusedSimpArgs false
namespace Go.Proofs.Ytgekmhcekkmdhaa
open Go.RowKit

theorem mul64_val (a b : Int) (a0 : 0 ≤ a) (a1 : a < 18446744073709551616) (b0 : 0 ≤ b) (b1 : b < 18446744073709551616) :
    IntKind.u64.wrap (IntKind.u64.wrap (IntKind.u64.wrap (a / 4294967296 * (b / 4294967296)) +
        IntKind.u64.wrap (IntKind.u64.wrap (a / 4294967296 * (b % 4294967296)) + IntKind.u64.wrap (a % 4294967296 * (b % 4294967296)) / 4294967296) / 4294967296) +
      IntKind.u64.wrap (IntKind.u64.wrap (IntKind.u64.wrap (a / 4294967296 * (b % 4294967296)) + IntKind.u64.wrap (a % 4294967296 * (b % 4294967296)) / 4294967296) % 4294967296 + IntKind.u64.wrap (a % 4294967296 * (b / 4294967296))) / 4294967296) = hiV a b := by
  have p0 : 0 ≤ a / 4294967296 := by omega
  have p1 : a / 4294967296 < 4294967296 := by omega
  have q0 : 0 ≤ a % 4294967296 := by omega
  have q1 : a % 4294967296 < 4294967296 := by omega
  have r0 : 0 ≤ b / 4294967296 := by omega
  have r1 : b / 4294967296 < 4294967296 := by omega
  have s0 : 0 ≤ b % 4294967296 := by omega
  have s1 : b % 4294967296 < 4294967296 := by omega
  have hp := hi_pieces _ _ _ _ p0 p1 q0 q1 r0 r1 s0 s1
  have hl := hi_lt a b a0 a1 b0 b1
  rw [show a / 4294967296 * 4294967296 + a % 4294967296 = a by omega, show b / 4294967296 * 4294967296 + b % 4294967296 = b by omega] at hp
  have h1 := prod_le _ _ p0 p1 r0 r1
  have h2 := prod_le _ _ p0 p1 s0 s1
  have h3 := prod_le _ _ q0 q1 r0 r1
  have h4 := prod_le _ _ q0 q1 s0 s1
  unfold hiV at *
  generalize a / 4294967296 * (b / 4294967296) = A at *
  generalize a / 4294967296 * (b % 4294967296) = B at *
  generalize a % 4294967296 * (b / 4294967296) = C at *
  generalize a % 4294967296 * (b % 4294967296) = D at *
  generalize a * b / 18446744073709551616 = E at *
  clear p0 p1 q0 q1 r0 r1 s0 s1 a0 a1 b0 b1
  rw [IntWalk.u64_in A (by omega), IntWalk.u64_in B (by omega), IntWalk.u64_in C (by omega), IntWalk.u64_in D (by omega)]
  rw [IntWalk.u64_in (B + D / 4294967296) (by omega)]
  rw [IntWalk.u64_in (A + _) (by omega), IntWalk.u64_in (_ % _ + C) (by omega), IntWalk.u64_in _ (by omega)]
  omega
theorem and32 (a : Int) (a0 : 0 ≤ a) (a1 : a < 18446744073709551616) : bits .and .u64 a 4294967295 = a % 4294967296 := by
  have h := and_mask a 32 a0 a1 (by decide)
  have e : (2 : Int) ^ 32 = 4294967296 := by decide
  rw [e] at h
  exact h
theorem mul64_c (a b : Int) (a0 : 0 ≤ a) (a1 : a < 18446744073709551616) (b0 : 0 ≤ b) (b1 : b < 18446744073709551616) (w : World) :
    Calls Try.prog 95 #[.int .u64 a, .int .u64 b] w fun e w' => e = .returned (.tuple #[.int .u64 (hiV a b), .int .u64 (mulV a b)]) ∧ w' = w := by
  have H := Lib.hid (mul64_val a b a0 a1 b0 b1)
  go_enter Try.func95, Try.ntmps95
  go_wp2
  go_ret2
  rw [← H.out, and32 a a0 a1, and32 b b0 b1]
  rw [and32 _ (wrap_lt _).1 (wrap_lt _).2]
  exact ⟨rfl, rfl⟩
theorem m_hi (a b : Int) (a0 : 0 ≤ a) (a1 : a < 18446744073709551616) (b0 : 0 ≤ b) (b1 : b < 18446744073709551616) {W w : World} (hg : Grew W w) :
    Calls Try.prog 79 #[pr a b] w fun e w' => e = .returned (.int .u64 (hiV a b)) ∧ Grew W w' := by
  go_enter Try.func79, Try.ntmps79
  go_wp2_with fail
  refine (mul64_c a b a0 a1 b0 b1 _).mono ?_
  rintro e w1 ⟨rfl, h1⟩
  obtain rfl := h1.symm
  go_wp2_with fail
  go_ret
  exact ⟨rfl, hg.alloc _⟩
set_option maxHeartbeats 1000000 in
theorem m_him (a b : Int) (a0 : 0 ≤ a) (a1 : a < 18446744073709551616) (b0 : 0 ≤ b) (b1 : b < 18446744073709551616) {W w : World} (hg : Grew W w) :
    Calls Try.prog 78 #[pr a b] w fun e w' => e = .returned (.int .u64 (himV a b)) ∧ Grew W w' := by
  have hh := hi_lt a b a0 a1 b0 b1
  have ka := Blk.new w #[.int .u64 a, .int .u64 b] 59 w.heap.size rfl
  have ga := hg.alloc (.cells #[.int .u64 a, .int .u64 b] 59)
  go_enter Try.func78, Try.ntmps78
  go_upto_region 1 with fail
  generalize w.alloc (.cells #[.int .u64 a, .int .u64 b] 59) = wa at *
  have c0 : wa.cell? ⟨w.heap.size, 0, none⟩ = some (.int .u64 a) := ka.cell 0
  have c1 : wa.cell? ⟨w.heap.size, 1, none⟩ = some (.int .u64 b) := ka.cell 1
  have hsa := ka.lt
  clear ka
  go_region_held3 (fun w' => w'.cell? ⟨w.heap.size, 0, none⟩ = some (.int .u64 a) ∧ w'.cell? ⟨w.heap.size, 1, none⟩ = some (.int .u64 b)) (go_keep) (first | (go_at_call 79; refine (m_hi a b a0 a1 b0 b1 (Grew.refl _)).mono ?_; rintro e w5 ⟨rfl, g5⟩; have g35 := (Grew.refl wa).drew1.trans g5; have s0 : w5.cell? ⟨w.heap.size, 0, none⟩ = some (.int .u64 a) := (by rw [(gcell g35).1 _ _ hsa]; exact c0); have s1 : w5.cell? ⟨w.heap.size, 1, none⟩ = some (.int .u64 b) := (by rw [(gcell g35).1 _ _ hsa]; exact c1)) | (go_at_call 94; refine (signs_c _ a0 a1 _).mono ?_; rintro e w' ⟨rfl, h'⟩; obtain rfl := h'.symm))
  all_goals
    go_wp2_with fail
    go_ret
    exact ⟨ret_u64 rfl, ga.trans g35⟩
theorem him_lt (a b : Int) (_a0 : 0 ≤ a) (_a1 : a < 18446744073709551616) (_b0 : 0 ≤ b) (_b1 : b < 18446744073709551616) : 0 ≤ himV a b ∧ himV a b < 18446744073709551616 := wrap_lt _
set_option maxHeartbeats 1000000 in
theorem m_his (a b : Int) (a0 : 0 ≤ a) (a1 : a < 18446744073709551616) (b0 : 0 ≤ b) (b1 : b < 18446744073709551616) {W w : World} (hg : Grew W w) :
    Calls Try.prog 77 #[pr a b] w fun e w' => e = .returned (.int .u64 (hisV a b)) ∧ Grew W w' := by
  have hh := him_lt a b a0 a1 b0 b1
  have ka := Blk.new w #[.int .u64 a, .int .u64 b] 59 w.heap.size rfl
  have ga := hg.alloc (.cells #[.int .u64 a, .int .u64 b] 59)
  go_enter Try.func77, Try.ntmps77
  go_upto_region 1 with fail
  generalize w.alloc (.cells #[.int .u64 a, .int .u64 b] 59) = wa at *
  have c0 : wa.cell? ⟨w.heap.size, 0, none⟩ = some (.int .u64 a) := ka.cell 0
  have c1 : wa.cell? ⟨w.heap.size, 1, none⟩ = some (.int .u64 b) := ka.cell 1
  have hsa := ka.lt
  clear ka
  go_region_held3 (fun w' => w'.cell? ⟨w.heap.size, 0, none⟩ = some (.int .u64 a) ∧ w'.cell? ⟨w.heap.size, 1, none⟩ = some (.int .u64 b)) (go_keep) (first | (go_at_call 78; refine (m_him a b a0 a1 b0 b1 (Grew.refl _)).mono ?_; rintro e w5 ⟨rfl, g5⟩; have g35 := (Grew.refl wa).drew1.trans g5; have s0 : w5.cell? ⟨w.heap.size, 0, none⟩ = some (.int .u64 a) := (by rw [(gcell g35).1 _ _ hsa]; exact c0); have s1 : w5.cell? ⟨w.heap.size, 1, none⟩ = some (.int .u64 b) := (by rw [(gcell g35).1 _ _ hsa]; exact c1)) | (go_at_call 94; refine (signs_c _ b0 b1 _).mono ?_; rintro e w' ⟨rfl, h'⟩; obtain rfl := h'.symm))
  all_goals
    go_wp2_with fail
    go_ret
    exact ⟨ret_u64 rfl, ga.trans g35⟩
set_option maxHeartbeats 1000000 in
theorem p_signed (a b : Int) (a0 : 0 ≤ a) (a1 : a < 18446744073709551616) (b0 : 0 ≤ b) (b1 : b < 18446744073709551616) {W w : World} (hg : Grew W w) :
    Calls Try.prog 38 #[pr a b] w fun e w' => e = .returned (pr (sextV a 32) (sextV b 32)) ∧ Grew W w' := by
  go_enter Try.func38, Try.ntmps38
  go_wp2_with fail
  refine region_quiet_tail 7 (by kernel_rfl) (by kernel_rfl) ?_
  simp only [List.take_succ_cons, List.take_zero, List.drop_succ_cons, List.drop_zero]
  repeat (first | go_big_quiet_step ((first | (go_at_call 33; with_reducible exact Calls.quiet_of_same (sext_c a 32 a0 a1 _)) | (go_at_call 33; with_reducible exact Calls.quiet_of_same (sext_c b 32 b0 b1 _)))) | quiet_step ((first | (go_at_call 33; with_reducible exact Calls.quiet_of_same (sext_c a 32 a0 a1 _)) | (go_at_call 33; with_reducible exact Calls.quiet_of_same (sext_c b 32 b0 b1 _)))))
  refine wpQuiet_nil ?_
  intro nq
  go_wp2_with fail
  go_returns
  have hs : W.heap.size ≤ w.heap.size + 1 := Nat.le_succ_of_le hg.size
  exact ⟨rfl, (by repeat (first | with_reducible exact hg | with_reducible refine Grew.alloc ?_ _ | with_reducible refine Grew.drewN ?_ _ | with_reducible refine Grew.setCell ?_ hs _))⟩
set_option maxHeartbeats 1000000 in
theorem p_unsigned (a b : Int) (a0 : 0 ≤ a) (a1 : a < 18446744073709551616) (b0 : 0 ≤ b) (b1 : b < 18446744073709551616) {W w : World} (hg : Grew W w) :
    Calls Try.prog 82 #[pr a b] w fun e w' => e = .returned (pr (fieldV a 31 0) (fieldV b 31 0)) ∧ Grew W w' := by
  go_enter Try.func82, Try.ntmps82
  go_wp2_with fail
  refine region_quiet_tail 7 (by kernel_rfl) (by kernel_rfl) ?_
  simp only [List.take_succ_cons, List.take_zero, List.drop_succ_cons, List.drop_zero]
  repeat (first | go_big_quiet_step ((first | (go_at_call 37; with_reducible exact Calls.quiet_of (low_c a a0 a1 _)) | (go_at_call 37; with_reducible exact Calls.quiet_of (low_c b b0 b1 _)))) | quiet_step ((first | (go_at_call 37; with_reducible exact Calls.quiet_of (low_c a a0 a1 _)) | (go_at_call 37; with_reducible exact Calls.quiet_of (low_c b b0 b1 _)))))
  refine wpQuiet_nil ?_
  intro nq
  go_wp2_with fail
  go_returns
  have hs : W.heap.size ≤ w.heap.size + 1 := Nat.le_succ_of_le hg.size
  exact ⟨rfl, (by repeat (first | with_reducible exact hg | with_reducible refine Grew.alloc ?_ _ | with_reducible refine Grew.drewN ?_ _ | with_reducible refine Grew.setCell ?_ hs _))⟩
set_option maxHeartbeats 1000000 in
theorem p_signedShift (a b : Int) (a0 : 0 ≤ a) (a1 : a < 18446744073709551616) (b0 : 0 ≤ b) (b1 : b < 18446744073709551616) {W w : World} (hg : Grew W w) :
    Calls Try.prog 75 #[pr a b] w fun e w' => e = .returned (pr (sextV a 32) (b % 32)) ∧ Grew W w' := by
  go_enter Try.func75, Try.ntmps75
  go_wp2_with fail
  refine region_quiet_tail 7 (by kernel_rfl) (by kernel_rfl) ?_
  simp only [List.take_succ_cons, List.take_zero, List.drop_succ_cons, List.drop_zero]
  repeat (first | go_big_quiet_step ((first | (go_at_call 33; with_reducible exact Calls.quiet_of_same (sext_c a 32 a0 a1 _)) | (go_at_call 33; with_reducible exact Calls.quiet_of_same (sext_c b 32 b0 b1 _)))) | quiet_step ((first | (go_at_call 33; with_reducible exact Calls.quiet_of_same (sext_c a 32 a0 a1 _)) | (go_at_call 33; with_reducible exact Calls.quiet_of_same (sext_c b 32 b0 b1 _)))))
  refine wpQuiet_nil ?_
  intro nq
  go_wp2_with fail
  go_returns
  have hs : W.heap.size ≤ w.heap.size + 1 := Nat.le_succ_of_le hg.size
  exact ⟨rfl, (by repeat (first | with_reducible exact hg | with_reducible refine Grew.alloc ?_ _ | with_reducible refine Grew.drewN ?_ _ | with_reducible refine Grew.setCell ?_ hs _))⟩
set_option maxHeartbeats 1000000 in
theorem p_unsignedShift (a b : Int) (a0 : 0 ≤ a) (a1 : a < 18446744073709551616) (b0 : 0 ≤ b) (b1 : b < 18446744073709551616) {W w : World} (hg : Grew W w) :
    Calls Try.prog 66 #[pr a b] w fun e w' => e = .returned (pr (fieldV a 31 0) (b % 32)) ∧ Grew W w' := by
  go_enter Try.func66, Try.ntmps66
  go_wp2_with fail
  refine region_quiet_tail 7 (by kernel_rfl) (by kernel_rfl) ?_
  simp only [List.take_succ_cons, List.take_zero, List.drop_succ_cons, List.drop_zero]
  repeat (first | go_big_quiet_step ((first | (go_at_call 37; with_reducible exact Calls.quiet_of (low_c a a0 a1 _)) | (go_at_call 37; with_reducible exact Calls.quiet_of (low_c b b0 b1 _)))) | quiet_step ((first | (go_at_call 37; with_reducible exact Calls.quiet_of (low_c a a0 a1 _)) | (go_at_call 37; with_reducible exact Calls.quiet_of (low_c b b0 b1 _)))))
  refine wpQuiet_nil ?_
  intro nq
  go_wp2_with fail
  go_returns
  have hs : W.heap.size ≤ w.heap.size + 1 := Nat.le_succ_of_le hg.size
  exact ⟨rfl, (by repeat (first | with_reducible exact hg | with_reducible refine Grew.alloc ?_ _ | with_reducible refine Grew.drewN ?_ _ | with_reducible refine Grew.setCell ?_ hs _))⟩
end Go.Proofs.Ytgekmhcekkmdhaa
