/-
  Control registers as one value, loaded and stored whole; contracts of package csr's small functions.
-/
import Derived.Test.YtpehfmchcjanhaaDoorOpenCsr
import Derived.Test.YtpehfmchcjanhaaDoorGrew
import Derived.Test.YtpehfmchcjanhaaDoorTail
import Derived.Great.BuildSlice
import Derived.Deep.WholeRow
import Derived.Deep.DeepCutAuto
set_option linter.unusedVariables false
set_option linter.unusedSimpArgs false
namespace Go.Proofs.YtpehfmchcjanhaaDoor
open Go.RowKit

theorem csA_size (c : Nat → Int) : (csA c).size = 17 := rfl
@[simp] theorem csA_0 (c : Nat → Int) : (csA c)[0]? = some (.int .u64 (c 0)) := rfl
@[simp] theorem csA_1 (c : Nat → Int) : (csA c)[1]? = some (.int .u64 (c 1)) := rfl
@[simp] theorem csA_2 (c : Nat → Int) : (csA c)[2]? = some (.int .u64 (c 2)) := rfl
@[simp] theorem csA_3 (c : Nat → Int) : (csA c)[3]? = some (.int .u64 (c 3)) := rfl
@[simp] theorem csA_4 (c : Nat → Int) : (csA c)[4]? = some (.int .u64 (c 4)) := rfl
@[simp] theorem csA_5 (c : Nat → Int) : (csA c)[5]? = some (.int .u64 (c 5)) := rfl
@[simp] theorem csA_6 (c : Nat → Int) : (csA c)[6]? = some (.int .u64 (c 6)) := rfl
@[simp] theorem csA_7 (c : Nat → Int) : (csA c)[7]? = some (.int .u64 (c 7)) := rfl
@[simp] theorem csA_8 (c : Nat → Int) : (csA c)[8]? = some (.int .u64 (c 8)) := rfl
@[simp] theorem csA_9 (c : Nat → Int) : (csA c)[9]? = some (.int .u64 (c 9)) := rfl
@[simp] theorem csA_10 (c : Nat → Int) : (csA c)[10]? = some (.int .u64 (c 10)) := rfl
@[simp] theorem csA_11 (c : Nat → Int) : (csA c)[11]? = some (.int .u64 (c 11)) := rfl
@[simp] theorem csA_12 (c : Nat → Int) : (csA c)[12]? = some (.int .u64 (c 12)) := rfl
@[simp] theorem csA_13 (c : Nat → Int) : (csA c)[13]? = some (.int .u64 (c 13)) := rfl
@[simp] theorem csA_14 (c : Nat → Int) : (csA c)[14]? = some (.int .u64 (c 14)) := rfl
@[simp] theorem csA_15 (c : Nat → Int) : (csA c)[15]? = some (.int .u64 (c 15)) := rfl
@[simp] theorem csA_16 (c : Nat → Int) : (csA c)[16]? = some (.int .u64 (c 16)) := rfl
theorem csA_one (c : Nat → Int) : ((csA c).all fun x => x.oneCell') = true := by simp [csA, Value.oneCell']
theorem csInfo : (Tryd.prog.info? 24).map (·.size) = some 17 := by kernel_rfl
theorem stInfo : (Tryd.prog.info? 36).map (·.size) = some 17 := by kernel_rfl

/-! ### small functions -/
theorem within_c (x m : Int) (w : World) : Calls Tryd.prog 14 #[.int .u64 x, .int .u64 m] w fun e w' => e = .returned (.bool (bits .andNot .u64 x m == 0)) ∧ w = w' := by
  go_enter Tryd.func14, Tryd.ntmps14
  go_wp2
  go_ret
  exact ⟨rfl, rfl⟩
/-- What of bits comes from x, all others from old. -/
def mrg (old x m : Int) : Int := bits .or .u64 (bits .andNot .u64 old m) (bits .and .u64 x m)
theorem merge_c (o x m : Int) (w : World) : Calls Tryd.prog 26 #[.int .u64 o, .int .u64 x, .int .u64 m] w fun e w' => e = .returned (.int .u64 (mrg o x m)) ∧ w = w' := by
  go_enter Tryd.func26, Tryd.ntmps26
  go_wp2
  go_ret
  exact ⟨rfl, rfl⟩
theorem mixed_c (o x m : Int) (w : World) : Calls Tryd.prog 30 #[.int .u64 o, .int .u64 x, .int .u64 m] w fun e w' => e = .returned (.int .u64 (mrg o x m)) ∧ w = w' := by
  go_enter Tryd.func30, Tryd.ntmps30
  go_wp2
  go_ret
  exact ⟨rfl, rfl⟩
def keptV (x : Int) : Int := if bits .and .u64 x 6144 = 4096 then bits .and .u64 (bits .andNot .u64 x 6144) 8264106 else bits .and .u64 x 8264106
theorem kept_c (x : Int) (w : World) : Calls Tryd.prog 13 #[.int .u64 x] w fun e w' => e = .returned (.int .u64 (keptV x)) ∧ w = w' := by
  by_cases h : bits .and .u64 x 6144 = 4096
  · rw [show keptV x = bits .and .u64 (bits .andNot .u64 x 6144) 8264106 from if_pos h]
    go_enter Tryd.func13, Tryd.ntmps13
    go_wp2
    go_ret
    exact ⟨rfl, rfl⟩
  · rw [show keptV x = bits .and .u64 x 8264106 from if_neg h]
    have hd : (bits .and .u64 x 6144 == 4096) = false := by simpa using h
    go_enter Tryd.func13, Tryd.ntmps13
    go_wp2
    go_ret
    exact ⟨rfl, rfl⟩
/-- May Satp be x? -/
def satpB (x : Int) : Bool := x / 1152921504606846976 == 0 || x / 1152921504606846976 == 8
theorem satp_c (x : Int) (h0 : 0 ≤ x) (h1 : x < 18446744073709551616) (w : World) : Calls Tryd.prog 15 #[.int .u64 x] w fun e w' => e = .returned (.bool (satpB x)) ∧ w = w' := by
  go_enter Tryd.func15, Tryd.ntmps15
  go_wp2
  · rename_i h
    go_ret
    exact ⟨by unfold satpB; simp [h], rfl⟩
  · go_ret
    exact ⟨rfl, rfl⟩
end Go.Proofs.YtpehfmchcjanhaaDoor
