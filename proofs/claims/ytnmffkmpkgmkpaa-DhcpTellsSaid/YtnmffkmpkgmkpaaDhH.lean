/-
  What the laws of layer 20 ask of the program, of the landed package; what must come at any rate.
-/
import Derived.Test.YtnmffkmpkgmkpaaDhF
import Derived.Test.YtnmffkmpkgmkpaaDhI
import Derived.Test.YtnmffkmpkgmkpaaDhK
set_option maxRecDepth 4000
set_option linter.unusedVariables false
set_option linter.unusedSimpArgs false
namespace Go.Proofs.Ytnmffkmpkgmkpaa
open Go.RowKit

theorem heads_c : HeadC := heads_of put20_c get20_c
end Go.Proofs.Ytnmffkmpkgmkpaa
