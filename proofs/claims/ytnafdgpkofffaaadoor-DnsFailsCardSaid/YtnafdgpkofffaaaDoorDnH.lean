/-
  Package dns's heads come.
-/
import Derived.Test.YtnafdgpkofffaaaDoorDnO
import Derived.Test.YtnafdgpkofffaaaDoorDnK
set_option maxRecDepth 4000
set_option linter.unusedVariables false
set_option linter.unusedSimpArgs false
namespace Go.Proofs.YtnafdgpkofffaaaDoor
open Go.RowKit

theorem heads_c : HeadC := heads_of ask21_c question21_c id21_c with21_c fail21_c query21_c
end Go.Proofs.YtnafdgpkofffaaaDoor
