/-
  The document's own questions for names: small functions.
-/
import Derived.Test.YtnafdgpkofffaaaDoorDnN
import Derived.Test.YtnafdgpkofffaaaDoorPutB
import Derived.LoopTactic
import Derived.OwnWalk
set_option maxRecDepth 4000
set_option linter.unusedVariables false
set_option linter.unusedSimpArgs false
namespace Go.Proofs.YtnafdgpkofffaaaDoor
open Go.RowKit

theorem putL_two21 (x : Int) : putL x 2 true = [x / 256 % 256, x % 256] := by
  simp [putL, placeV, byteV, List.range_succ]
theorem putL_wrap21 (x : Int) : putL (x % 18446744073709551616) 2 true = putL x 2 true := by
  rw [putL_two21, putL_two21, show x % 18446744073709551616 / 256 % 256 = x / 256 % 256 by omega, show x % 18446744073709551616 % 256 = x % 256 by omega]
end Go.Proofs.YtnafdgpkofffaaaDoor
