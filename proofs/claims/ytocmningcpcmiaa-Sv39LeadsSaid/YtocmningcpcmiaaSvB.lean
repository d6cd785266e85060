/-
  Contracts of the document's own pages: f, Fault, allowed.
-/
import Derived.Test.YtocmningcpcmiaaRows
import Derived.Test.YtocmningcpcmiaaBitsA
import Derived.Test.YtocmningcpcmiaaSvA
import Derived.WalkKit
import Derived.Outline
import Derived.Deep.QuietTactic
import Derived.BigQuiet
set_option linter.unusedVariables false
set_option linter.unusedSimpArgs false
namespace Go.Proofs.Ytocmningcpcmiaa
open Go.RowKit

theorem ref8f_c (x hi lo : Int) (hx0 : 0 ≤ x) (hx1 : x < 18446744073709551616) (w : World) :
    Calls Try.prog 30 #[.int .u64 x, .int .i64 hi, .int .i64 lo] w fun e w' => e = .returned (.int .u64 (fieldV x hi lo)) ∧ w = w' := by
  go_enter Try.func30, Try.ntmps30
  go_wp2_with fail
  refine (refField_c x hi lo hx0 hx1 _).mono ?_
  rintro e w1 ⟨rfl, h1⟩
  obtain rfl := h1.symm
  go_wp2_with fail
  go_ret
  exact ⟨rfl, rfl⟩
theorem ref8Fault_c (kind : Int) (page : Bool) (w : World) :
    Calls Try.prog 13 #[.int .i64 kind, .bool page] w fun e w' => e = .returned (.int .i64 (faultV kind page)) ∧ w = w' := by
  by_cases h0 : kind = 0
  · subst h0
    cases page
    all_goals
      go_enter Try.func13, Try.ntmps13
      go_wp2
      go_ret
      exact ⟨rfl, rfl⟩
  by_cases h2 : kind = 2
  · subst h2
    cases page
    all_goals
      go_enter Try.func13, Try.ntmps13
      go_wp2
      go_ret
      exact ⟨rfl, rfl⟩
  · have e0 : (kind == 0) = false := by simpa using h0
    have e2 : (kind == 2) = false := by simpa using h2
    have hv : ∀ p, faultV kind p = if p then 13 else 5 := fun p => by unfold faultV; rw [if_neg h0, if_neg h2]
    have HV := Lib.hid hv
    clear hv
    cases page
    all_goals
      go_enter Try.func13, Try.ntmps13
      go_wp2
      go_ret
      exact ⟨by rw [HV.out]; rfl, rfl⟩
end Go.Proofs.Ytocmningcpcmiaa
