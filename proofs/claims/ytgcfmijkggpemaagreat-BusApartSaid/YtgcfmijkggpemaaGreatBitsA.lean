/-
  Contracts of package bits, what answers numbers and bools: mask, Field, Sext, Align; and the document's own Field, Sext, Align.
-/
import Derived.Test.YtgcfmijkggpemaaGreatRows
import Derived.Test.YtgcfmijkggpemaaGreatMath
import Derived.WalkKit
import Derived.Outline
import Derived.Deep.QuietTactic
import Derived.BigQuiet
set_option maxRecDepth 4000
set_option linter.unusedVariables false
set_option linter.unusedSimpArgs false
namespace Go.Proofs.YtgcfmijkggpemaaGreat
open Go.RowKit

theorem mask_c (n : Int) (h0 : 0 ≤ n) (h1 : n ≤ 64) (w : World) : Calls Tryz.prog 111 #[.int .i64 n] w fun e w' => e = .returned (.int .u64 (2 ^ n.toNat - 1)) ∧ w' = w := by
  go_enter Tryz.func111, Tryz.ntmps111
  go_wp2
  go_ret
  exact ⟨ret_u64 (mask_val n h0 h1), rfl⟩


theorem field_in (x hi lo : Int) (hx0 : 0 ≤ x) (hx1 : x < 18446744073709551616) (h0 : 0 ≤ lo) (h1 : lo ≤ hi) (h2 : hi ≤ 63) (w : World) :
    Calls Tryz.prog 97 #[.int .u64 x, .int .i64 hi, .int .i64 lo] w fun e w' => e = .returned (.int .u64 (fieldV x hi lo)) ∧ Drew w w' := by
  have e1 : IntKind.i64.wrap (hi - lo) = hi - lo := IntWalk.i64_in _ (by omega)
  have e2 : IntKind.i64.wrap (hi - lo + 1) = hi - lo + 1 := IntWalk.i64_in _ (by omega)
  have e3 : 0 ≤ hi - lo + 1 := by omega
  have e4 : hi - lo + 1 ≤ 64 := by omega
  go_enter Tryz.func97, Tryz.ntmps97
  go_wp2_with fail
  go_quiet ((go_at_call 111; exact Calls.quiet_of_same (mask_c _ (by omega) (by omega) _)))
  go_wp2
  go_ret
  exact ⟨ret_u64 (field_val x hi lo hx0 hx1 h0 h1 h2), _, rfl⟩
theorem fieldV_out {x hi lo : Int} (h : ¬ (0 ≤ lo ∧ lo ≤ hi ∧ hi ≤ 63)) : fieldV x hi lo = 0 := by unfold fieldV; rw [if_neg h]
theorem field_out (x hi lo : Int) (h : ¬ (0 ≤ lo ∧ lo ≤ hi ∧ hi ≤ 63)) (w : World) :
    Calls Tryz.prog 97 #[.int .u64 x, .int .i64 hi, .int .i64 lo] w fun e w' => e = .returned (.int .u64 (fieldV x hi lo)) ∧ Drew w w' := by
  rw [fieldV_out h]
  by_cases a : lo < 0
  · go_enter Tryz.func97, Tryz.ntmps97
    go_wp2
    go_ret
    exact ⟨rfl, Drew.refl _⟩
  · by_cases b : hi < lo
    · go_enter Tryz.func97, Tryz.ntmps97
      go_wp2
      go_ret
      exact ⟨rfl, Drew.refl _⟩
    · have c : 64 ≤ hi := by omega
      go_enter Tryz.func97, Tryz.ntmps97
      go_wp2
      go_ret
      exact ⟨rfl, Drew.refl _⟩
theorem field_c (x hi lo : Int) (hx0 : 0 ≤ x) (hx1 : x < 18446744073709551616) (w : World) :
    Calls Tryz.prog 97 #[.int .u64 x, .int .i64 hi, .int .i64 lo] w fun e w' => e = .returned (.int .u64 (fieldV x hi lo)) ∧ Drew w w' := by
  by_cases h : 0 ≤ lo ∧ lo ≤ hi ∧ hi ≤ 63
  · exact field_in x hi lo hx0 hx1 h.1 h.2.1 h.2.2 w
  · exact field_out x hi lo h w



/-! ### The document's own -/


end Go.Proofs.YtgcfmijkggpemaaGreat
