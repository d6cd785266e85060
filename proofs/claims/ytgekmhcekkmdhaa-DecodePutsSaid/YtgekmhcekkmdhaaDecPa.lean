/-
  Contracts of the document's own text about instructions put together: put, jump, branch, imm12, sum.
-/
import Derived.Test.YtgekmhcekkmdhaaDecX
import Derived.Test.YtgekmhcekkmdhaaTail
import Derived.Deep.RegionHeld3
import Derived.Deep.DeepCutAuto
set_option linter.unusedVariables false
set_option linter.unusedSimpArgs false
namespace Go.Proofs.Ytgekmhcekkmdhaa
open Go Go.RowKit

/-! ### What these answer -/
def putN (op k hi rd s1 s2 : Nat) : Nat := ((((hi * 33554432 ||| s2 * 1048576) ||| s1 * 32768) ||| k * 4096) ||| rd * 128) ||| op
def jmpN (m : Nat) : Nat := ((m / 1048576 % 2 * 2147483648 ||| m / 2 % 1024 * 2097152) ||| m / 2048 % 2 * 1048576) ||| m / 4096 % 256 * 4096
def brcN (m : Nat) : Nat := ((m / 4096 % 2 * 2147483648 ||| m / 32 % 64 * 33554432) ||| m / 2 % 16 * 256) ||| m / 2048 % 2 * 128
def i12N (m : Nat) : Nat := m % 4096 * 1048576
/-- F's lowest bits. -/
def flN (f : Int) (n : Int) : Nat := (f % n).toNat
def opsN (d : Bool) : Nat := if d then 59 else 51
def sumN (f : Int) (d : Bool) (rd s1 s2 : Nat) : Nat :=
  if 16 ≤ f then putN (opsN d) (flN f 8) 1 rd s1 s2 else if f = 8 ∨ f = 13 then putN (opsN d) (flN f 8) 32 rd s1 s2 else putN (opsN d) (flN f 8) 0 rd s1 s2
theorem putN_lt (op k hi rd s1 s2 : Nat) (h1 : op < 128) (h2 : k < 32) (h3 : hi < 128) (h4 : rd < 32) (h5 : s1 < 32) (h6 : s2 < 32) : putN op k hi rd s1 s2 < 4294967296 := by
  unfold putN
  refine or32_lt (or32_lt (or32_lt (or32_lt (or32_lt ?_ ?_) ?_) ?_) ?_) ?_ <;> omega
theorem flN_lt (f : Int) (n : Nat) (hn : 0 < n) : flN f n < n := by
  unfold flN
  have h1 := Int.emod_nonneg f (show (n : Int) ≠ 0 by omega)
  have h2 := Int.emod_lt_of_pos f (show (0 : Int) < n by omega)
  omega
theorem fl32 (f : Int) : (IntKind.u64.wrap f).tmod 32 = (flN f 32 : Nat) := by
  rw [Int.tmod_eq_emod_of_nonneg (by rw [wrap_u64]; omega), wrap_u64]
  unfold flN
  omega
theorem fl8 (f : Int) : (IntKind.u64.wrap f).tmod 8 = (flN f 8 : Nat) := by
  rw [Int.tmod_eq_emod_of_nonneg (by rw [wrap_u64]; omega), wrap_u64]
  unfold flN
  omega
abbrev iP (c f : Int) (d : Bool) (rd s1 s2 m : Nat) : Value := .agg #[.int .i64 c, .int .i64 f, .bool d, .int .i64 (rd : Nat), .int .i64 (s1 : Nat), .int .i64 (s2 : Nat), .int .u64 (m : Nat)]

theorem put_c (op k hi : Nat) (c f : Int) (d : Bool) (rd s1 s2 m : Nat) (h1 : op < 128) (h2 : k < 32) (h3 : hi < 128) (h4 : rd < 32) (h5 : s1 < 32) (h6 : s2 < 32) {W w : World} (hg : Grew W w) :
    Calls Try.prog 59 #[.int .u64 (op : Nat), iP c f d rd s1 s2 m, .int .u64 (k : Nat), .int .u64 (hi : Nat)] w fun e w' => e = .returned (.int .u64 (putN op k hi rd s1 s2 : Nat)) ∧ Grew W w' := by
  have ga := hg.alloc (.cells #[.int .i64 c, .int .i64 f, .bool d, .int .i64 (rd : Nat), .int .i64 (s1 : Nat), .int .i64 (s2 : Nat), .int .u64 (m : Nat)] 26)
  go_enter Try.func59, Try.ntmps59
  go_wp2_with fail
  go_ret
  refine ⟨ret_u64 ?_, ga⟩
  unfold putN
  simp (disch := (repeat (first | omega | apply or64_lt))) only [mulc, divc, modc, or64, or64_lit, wrap64c]
theorem jump_c (m : Nat) (hm : m < 18446744073709551616) (w : World) : Calls Try.prog 60 #[.int .u64 (m : Nat)] w fun e w' => e = .returned (.int .u64 (jmpN m : Nat)) ∧ w' = w := by
  go_enter Try.func60, Try.ntmps60
  go_wp2_with fail
  go_ret
  refine ⟨ret_u64 ?_, rfl⟩
  unfold jmpN
  simp (disch := (repeat (first | omega | apply or64_lt))) only [mulc, divc, modc, or64, or64_lit, wrap64c]
theorem branch_c (m : Nat) (hm : m < 18446744073709551616) (w : World) : Calls Try.prog 62 #[.int .u64 (m : Nat)] w fun e w' => e = .returned (.int .u64 (brcN m : Nat)) ∧ w' = w := by
  go_enter Try.func62, Try.ntmps62
  go_wp2_with fail
  go_ret
  refine ⟨ret_u64 ?_, rfl⟩
  unfold brcN
  simp (disch := (repeat (first | omega | apply or64_lt))) only [mulc, divc, modc, or64, or64_lit, wrap64c]
theorem imm12_c (c f : Int) (d : Bool) (rd s1 s2 m : Nat) (hm : m < 18446744073709551616) {W w : World} (hg : Grew W w) : Calls Try.prog 61 #[iP c f d rd s1 s2 m] w fun e w' => e = .returned (.int .u64 (i12N m : Nat)) ∧ Grew W w' := by
  have ga := hg.alloc (.cells #[.int .i64 c, .int .i64 f, .bool d, .int .i64 (rd : Nat), .int .i64 (s1 : Nat), .int .i64 (s2 : Nat), .int .u64 (m : Nat)] 26)
  go_enter Try.func61, Try.ntmps61
  go_wp2_with fail
  go_ret
  refine ⟨ret_u64 ?_, ga⟩
  unfold i12N
  simp (disch := (repeat (first | omega | apply or64_lt))) only [mulc, divc, modc, or64, or64_lit, wrap64c]
theorem sum_c (c f : Int) (d : Bool) (rd s1 s2 m : Nat) (h4 : rd < 32) (h5 : s1 < 32) (h6 : s2 < 32) {W w : World} (hg : Grew W w) :
    Calls Try.prog 63 #[iP c f d rd s1 s2 m] w fun e w' => e = .returned (.int .u64 (sumN f d rd s1 s2 : Nat)) ∧ Grew W w' := by
  have ga := hg.alloc (.cells #[.int .i64 c, .int .i64 f, .bool d, .int .i64 (rd : Nat), .int .i64 (s1 : Nat), .int .i64 (s2 : Nat), .int .u64 (m : Nat)] 26)
  have hk := fl8 f
  have k8 : flN f 8 < 8 := flN_lt f 8 (by decide)
  have k32 : flN f 8 < 32 := by omega
  generalize hq : flN f 8 = q at *
  by_cases h16 : 16 ≤ f
  · skip
    cases d
    · rw [show sumN f false rd s1 s2 = putN 51 q 1 rd s1 s2 by unfold sumN opsN; rw [if_pos h16, hq]; rfl]
      go_enter Try.func63, Try.ntmps63
      go_wp2_with fail
      refine (put_c 51 q 1 c f false rd s1 s2 m (by decide) k32 (by decide) h4 h5 h6 ga).mono ?_
      rintro e w1 ⟨rfl, g1⟩
      go_wp2_with fail
      go_ret
      exact ⟨rfl, g1⟩
    · rw [show sumN f true rd s1 s2 = putN 59 q 1 rd s1 s2 by unfold sumN opsN; rw [if_pos h16, hq]; rfl]
      go_enter Try.func63, Try.ntmps63
      go_wp2_with fail
      refine (put_c 59 q 1 c f true rd s1 s2 m (by decide) k32 (by decide) h4 h5 h6 ga).mono ?_
      rintro e w1 ⟨rfl, g1⟩
      go_wp2_with fail
      go_ret
      exact ⟨rfl, g1⟩
  · by_cases h8 : f = 8
    · have b8 : (f == 8) = true := by rw [beq_iff_eq]; omega
      clear h8
      cases d
      · rw [show sumN f false rd s1 s2 = putN 51 q 32 rd s1 s2 by unfold sumN opsN; rw [if_neg h16, if_pos (.inl (by simpa using b8)), hq]; rfl]
        go_enter Try.func63, Try.ntmps63
        go_wp2_with fail
        refine (put_c 51 q 32 c f false rd s1 s2 m (by decide) k32 (by decide) h4 h5 h6 ga).mono ?_
        rintro e w1 ⟨rfl, g1⟩
        go_wp2_with fail
        go_ret
        exact ⟨rfl, g1⟩
      · rw [show sumN f true rd s1 s2 = putN 59 q 32 rd s1 s2 by unfold sumN opsN; rw [if_neg h16, if_pos (.inl (by simpa using b8)), hq]; rfl]
        go_enter Try.func63, Try.ntmps63
        go_wp2_with fail
        refine (put_c 59 q 32 c f true rd s1 s2 m (by decide) k32 (by decide) h4 h5 h6 ga).mono ?_
        rintro e w1 ⟨rfl, g1⟩
        go_wp2_with fail
        go_ret
        exact ⟨rfl, g1⟩
    · by_cases h13 : f = 13
      · have b8 : (f == 8) = false := by rw [beq_eq_false_iff_ne]; omega
        have b13 : (f == 13) = true := by rw [beq_iff_eq]; omega
        clear h13
        cases d
        · rw [show sumN f false rd s1 s2 = putN 51 q 32 rd s1 s2 by unfold sumN opsN; rw [if_neg h16, if_pos (.inr (by simpa using b13)), hq]; rfl]
          go_enter Try.func63, Try.ntmps63
          go_wp2_with fail
          refine (put_c 51 q 32 c f false rd s1 s2 m (by decide) k32 (by decide) h4 h5 h6 ga).mono ?_
          rintro e w1 ⟨rfl, g1⟩
          go_wp2_with fail
          go_ret
          exact ⟨rfl, g1⟩
        · rw [show sumN f true rd s1 s2 = putN 59 q 32 rd s1 s2 by unfold sumN opsN; rw [if_neg h16, if_pos (.inr (by simpa using b13)), hq]; rfl]
          go_enter Try.func63, Try.ntmps63
          go_wp2_with fail
          refine (put_c 59 q 32 c f true rd s1 s2 m (by decide) k32 (by decide) h4 h5 h6 ga).mono ?_
          rintro e w1 ⟨rfl, g1⟩
          go_wp2_with fail
          go_ret
          exact ⟨rfl, g1⟩
      · have b8 : (f == 8) = false := by rw [beq_eq_false_iff_ne]; omega
        have b13 : (f == 13) = false := by rw [beq_eq_false_iff_ne]; omega
        cases d
        · rw [show sumN f false rd s1 s2 = putN 51 q 0 rd s1 s2 by unfold sumN opsN; rw [if_neg h16, if_neg (by omega), hq]; rfl]
          go_enter Try.func63, Try.ntmps63
          go_wp2_with fail
          refine (put_c 51 q 0 c f false rd s1 s2 m (by decide) k32 (by decide) h4 h5 h6 ga).mono ?_
          rintro e w1 ⟨rfl, g1⟩
          go_wp2_with fail
          go_ret
          exact ⟨rfl, g1⟩
        · rw [show sumN f true rd s1 s2 = putN 59 q 0 rd s1 s2 by unfold sumN opsN; rw [if_neg h16, if_neg (by omega), hq]; rfl]
          go_enter Try.func63, Try.ntmps63
          go_wp2_with fail
          refine (put_c 59 q 0 c f true rd s1 s2 m (by decide) k32 (by decide) h4 h5 h6 ga).mono ?_
          rintro e w1 ⟨rfl, g1⟩
          go_wp2_with fail
          go_ret
          exact ⟨rfl, g1⟩
end Go.Proofs.Ytgekmhcekkmdhaa
