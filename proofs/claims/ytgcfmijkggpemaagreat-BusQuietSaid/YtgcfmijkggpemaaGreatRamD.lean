/-
  Contracts of the document's own memory: Bytes, Read, Fill, Write, New, Same.
-/
import Derived.Test.YtgcfmijkggpemaaGreatRows
import Derived.Test.YtgcfmijkggpemaaGreatRamC
import Derived.WalkKit
import Derived.Outline
import Derived.Handy
import Derived.StillTailTactics
import Derived.Deep.QuietTactic
import Derived.BigQuiet
import Derived.Deep.DeepCutAuto
import Derived.Deep.RegionHeld3
set_option maxRecDepth 4000
set_option linter.unusedVariables false
set_option linter.unusedSimpArgs false
namespace Go.Proofs.YtgcfmijkggpemaaGreat
open Go.RowKit

theorem nil_ok : AreBytes [] := fun x hx => by simp at hx
theorem bytesV_ok {xs : List Int} (h : AreBytes xs) (x n : Int) : AreBytes (bytesV xs x n) := by
  unfold bytesV; split
  · exact h.cut _ _
  · exact nil_ok

/-! ### Bytes -/


/-! ### Read -/
end Go.Proofs.YtgcfmijkggpemaaGreat
