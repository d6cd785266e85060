/-
  The document's own Best, claim, Load.
-/
import Derived.Test.YtgcfmijkggpemaaGreatPlO
set_option maxRecDepth 4000
set_option linter.unusedVariables false
set_option linter.unusedSimpArgs false
namespace Go.Proofs.YtgcfmijkggpemaaGreat
open Go.RowKit

end Go.Proofs.YtgcfmijkggpemaaGreat
