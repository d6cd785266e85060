/-
  The document's traps (drawbridgeref06): bit, with, place.
-/
import Derived.Test.YtbkbbcfhmjodlaaDoorTrapN
import Derived.Test.YtbkbbcfhmjodlaaDoorBitI
import Derived.Test.YtbkbbcfhmjodlaaDoorTrapW
set_option linter.unusedVariables false
set_option linter.unusedSimpArgs false
namespace Go.Proofs.YtbkbbcfhmjodlaaDoor
open Go.RowKit

theorem bit_c (x n : Nat) (hx : x < 2 ^ 64) (hn : n < 64) (w : World) : Calls Tryd.prog 26 #[.int .u64 (x : Nat), .int .i64 (n : Nat)] w fun e w' => e = .returned (.int .u64 (bitN x n : Nat)) ∧ w = w' := by
  have x1 : (x : Int) < 18446744073709551616 := by omega
  have n1 : (n : Int) < 64 := by omega
  clear hx hn
  go_enter Tryd.func26, Tryd.ntmps26
  go_wp2
  go_ret
  exact ⟨ret_u64 (by unfold bitN; rw [Int.tmod_eq_emod_of_nonneg (Int.ediv_nonneg (by omega) (Int.le_of_lt (pow_pos' n)))]; simp), rfl⟩
theorem set_c (x n b : Nat) (hx : x < 2 ^ 64) (hn : n < 64) (hb : b < 2) (w : World) : Calls Tryd.prog 27 #[.int .u64 (x : Nat), .int .i64 (n : Nat), .int .u64 (b : Nat)] w fun e w' => e = .returned (.int .u64 (setN x n b : Nat)) ∧ w = w' := by
  have x1 : (x : Int) < 18446744073709551616 := by omega
  have n1 : (n : Int) < 64 := by omega
  have b1 : (b : Int) < 2 := by omega
  have H1 := Lib.hid hx
  have H2 := Lib.hid hn
  have H3 := Lib.hid hb
  clear hx hn hb
  go_enter Tryd.func27, Tryd.ntmps27
  go_wp2
  go_ret
  refine ⟨ret_u64 ?_, rfl⟩
  have e1 : IntKind.u64.wrap (2 ^ n) = ((2 ^ n : Nat) : Int) := by rw [IntWalk.u64_in _ (by have := pow_le_63 (m := n) (by have := H2.out; omega); omega)]; simp
  have e2 : IntKind.u64.wrap ((b : Int) * 2 ^ n) = ((b * 2 ^ n : Nat) : Int) := by
    have h := shl_lt H2.out H3.out
    have e : (b : Int) * 2 ^ n = ((b * 2 ^ n : Nat) : Int) := by simp
    rw [e, IntWalk.u64_in _ (by omega)]
  rw [e1, e2, b_not x _ H1.out (pow_lt64 H2.out), b_or _ _ (ndn_lt _ _ H1.out) (shl_lt H2.out H3.out)]
  rfl
def placeV (vec cause : Int) (irq : Bool) : Int := if irq = true ∧ vec % 2 = 1 then (bits .andNot .u64 vec 3 + (4 * cause) % 18446744073709551616) % 18446744073709551616 else bits .andNot .u64 vec 3
theorem place_c (vec cause : Int) (irq : Bool) (v0 : 0 ≤ vec) (v1 : vec < 18446744073709551616) (c0 : 0 ≤ cause) (c1 : cause < 18446744073709551616) (w : World) :
    Calls Tryd.prog 28 #[.int .u64 vec, .int .u64 cause, .bool irq] w fun e w' => e = .returned (.int .u64 (placeV vec cause irq)) ∧ w = w' := by
  cases irq
  · go_enter Tryd.func28, Tryd.ntmps28
    go_wp2
    go_ret
    exact ⟨ret_u64 (by simp [placeV]), rfl⟩
  · by_cases h : vec % 2 = 1
    · go_enter Tryd.func28, Tryd.ntmps28
      go_wp2
      go_ret
      exact ⟨ret_u64 (by simp [placeV, h, wrap_u64]), rfl⟩
    · have h' : (vec % 2 == 1) = false := by simpa using h
      go_enter Tryd.func28, Tryd.ntmps28
      go_wp2
      go_ret
      exact ⟨ret_u64 (by simp [placeV, h]), rfl⟩
end Go.Proofs.YtbkbbcfhmjodlaaDoor
