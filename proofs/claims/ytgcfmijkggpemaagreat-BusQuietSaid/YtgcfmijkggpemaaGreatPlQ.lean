/-
  The document's own claim, Load.
-/
import Derived.Test.YtgcfmijkggpemaaGreatPlP
set_option maxRecDepth 4000
set_option linter.unusedVariables false
set_option linter.unusedSimpArgs false
namespace Go.Proofs.YtgcfmijkggpemaaGreat
open Go.RowKit

theorem claim_none {s : VS} (h : s.Ok) : (s.claim 0).ps = s.ps := by
  have h1 : bits .andNot .i64 s.n (onlyV 0) = s.n := by rcases h.n with e | e | e | e <;> rw [e] <;> decide
  have h2 : bits .or .i64 s.k (onlyV 0) = s.k := by rcases h.k with e | e | e | e <;> rw [e] <;> decide
  simp only [VS.claim, h1, h2]
end Go.Proofs.YtgcfmijkggpemaaGreat
