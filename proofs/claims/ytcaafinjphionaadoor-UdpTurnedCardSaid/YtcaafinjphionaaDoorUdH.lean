/-
  What the laws of layer 18 ask of the program, of the landed package; what must come at any rate.
-/
import Derived.Test.YtcaafinjphionaaDoorUdD
import Derived.Test.YtcaafinjphionaaDoorUdK
set_option maxRecDepth 4000
set_option linter.unusedVariables false
set_option linter.unusedSimpArgs false
namespace Go.Proofs.YtcaafinjphionaaDoor
open Go.RowKit

theorem put18_c : PutC := Put18_c
theorem get18_c : GetC := Get18_c
theorem heads_c : HeadC := heads_of put18_c get18_c
end Go.Proofs.YtcaafinjphionaaDoor
