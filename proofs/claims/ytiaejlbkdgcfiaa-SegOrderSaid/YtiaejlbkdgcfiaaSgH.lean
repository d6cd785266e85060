/-
  What the laws of layer 19 ask of the program, of the landed package; what must come at any rate.
-/
import Derived.Test.YtiaejlbkdgcfiaaSgF
import Derived.Test.YtiaejlbkdgcfiaaSgK
set_option maxRecDepth 4000
set_option linter.unusedVariables false
set_option linter.unusedSimpArgs false
namespace Go.Proofs.Ytiaejlbkdgcfiaa
open Go.RowKit

theorem heads_c : HeadC := heads_of put19_c get19_c less19_c len19_c
end Go.Proofs.Ytiaejlbkdgcfiaa
