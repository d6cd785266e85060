/-
  What must come at any rate ('heads' of the statements about package alu): true.
-/
import Derived.Test.YtgekmhcekkmdhaaAluE
set_option linter.unusedVariables false
set_option linter.unusedSimpArgs false
namespace Go.Proofs.Ytgekmhcekkmdhaa
open Go.RowKit

theorem do_h1 : doPV 20 false 18446744073709551609 2 = 18446744073709551613 := by decide +kernel
theorem do_h2 : doPV 22 false 18446744073709551609 2 = 18446744073709551615 := by decide +kernel
theorem do_h3 : doPV 0 true 2147483647 1 = 18446744071562067968 := by decide +kernel
theorem do_h4 : doPV 19 false 9223372036854775808 4 = 2 := by decide +kernel
theorem cond_h1 : condV 4 18446744073709551609 0 = true := by decide +kernel
theorem cond_h2 : condV 6 18446744073709551609 0 = false := by decide +kernel
theorem amo_h1 : AmoV 16 true 4294967295 5 = 4294967295 := by decide +kernel
theorem do_is (f : Int) (word : Bool) (a b v : Int) (hv : doPV f word a b = v) (a0 : 0 ≤ a) (a1 : a < 18446744073709551616) (b0 : 0 ≤ b) (b1 : b < 18446744073709551616) {W w : World} (hg : Grew W w) :
    Calls Try.prog 17 #[.int .i64 f, .bool word, .int .u64 a, .int .u64 b] w fun e w' => e = .returned (.int .u64 v) ∧ Grew W w' := by
  subst hv
  exact (do_c f word a b a0 a1 b0 b1 w).mono fun _ _ ⟨h1, h2⟩ => ⟨h1, hg.trans h2⟩
theorem cond_is (f : Int) (a b : Int) (v : Bool) (hv : condV f a b = v) (a0 : 0 ≤ a) (a1 : a < 18446744073709551616) (b0 : 0 ≤ b) (b1 : b < 18446744073709551616) {W w : World} (hg : Grew W w) :
    Calls Try.prog 19 #[.int .i64 f, .int .u64 a, .int .u64 b] w fun e w' => e = .returned (.bool v) ∧ Grew W w' := by
  subst hv
  exact (cond_c f a b a0 a1 b0 b1 w).mono fun _ _ ⟨h1, h2⟩ => ⟨h1, by rw [h2]; exact hg⟩
theorem Amo_is (f : Int) (word : Bool) (a b v : Int) (hv : AmoV f word a b = v) (a0 : 0 ≤ a) (a1 : a < 18446744073709551616) (b0 : 0 ≤ b) (b1 : b < 18446744073709551616) {W w : World} (hg : Grew W w) :
    Calls Try.prog 21 #[.int .i64 f, .bool word, .int .u64 a, .int .u64 b] w fun e w' => e = .returned (.int .u64 v) ∧ Grew W w' := by
  subst hv
  exact (Amo_c f word a b a0 a1 b0 b1 w).mono fun _ _ ⟨h1, h2⟩ => ⟨h1, hg.trans h2⟩

set_option maxHeartbeats 1000000 in
theorem heads_c {W w : World} (hg : Grew W w) : Calls Try.prog 16 #[] w fun e w' => e = .returned (.bool true) ∧ Grew W w' := by
  go_enter Try.func16, Try.ntmps16
  go_wp2_with fail
  refine (do_is _ _ _ _ _ do_h1 (by decide) (by decide) (by decide) (by decide) hg).mono ?_
  rintro e w1 ⟨rfl, g1⟩
  go_wp2_with fail
  refine (do_is _ _ _ _ _ do_h2 (by decide) (by decide) (by decide) (by decide) g1).mono ?_
  rintro e w2 ⟨rfl, g2⟩
  go_wp2_with fail
  refine (do_is _ _ _ _ _ do_h3 (by decide) (by decide) (by decide) (by decide) g2).mono ?_
  rintro e w3 ⟨rfl, g3⟩
  go_wp2_with fail
  refine (cond_is _ _ _ _ cond_h1 (by decide) (by decide) (by decide) (by decide) g3).mono ?_
  rintro e w4 ⟨rfl, g4⟩
  go_wp2_with fail
  refine (cond_is _ _ _ _ cond_h2 (by decide) (by decide) (by decide) (by decide) g4).mono ?_
  rintro e w5 ⟨rfl, g5⟩
  go_wp2_with fail
  refine (Amo_is _ _ _ _ _ amo_h1 (by decide) (by decide) (by decide) (by decide) g5).mono ?_
  rintro e w6 ⟨rfl, g6⟩
  go_wp2_with fail
  refine (do_is _ _ _ _ _ do_h4 (by decide) (by decide) (by decide) (by decide) g6).mono ?_
  rintro e w7 ⟨rfl, g7⟩
  go_wp2_with fail
  go_ret
  exact ⟨rfl, g7⟩
end Go.Proofs.Ytgekmhcekkmdhaa
