/-
  The document's own Load where there is nothing, and its Store, to package clint's answers.
-/
import Derived.Test.YtgcfmijkggpemaaGreatClE
set_option maxRecDepth 4000
set_option linter.unusedVariables false
set_option linter.unusedSimpArgs false
namespace Go.Proofs.YtgcfmijkggpemaaGreat
open Go.RowKit


/-! ### Store -/
end Go.Proofs.YtgcfmijkggpemaaGreat
