/-
  The document's own Set, New, Best, claim, Load.
-/
import Derived.Test.YtgcfmijkggpemaaGreatPlN
set_option maxRecDepth 4000
set_option linter.unusedVariables false
set_option linter.unusedSimpArgs false
namespace Go.Proofs.YtgcfmijkggpemaaGreat
open Go.RowKit

/-- What the operations of a region give. -/
def nwR (W : World) : (Nat → Value) → Nat → Value → World → Prop
  | _, 0, v, w => ∃ b0, v = .slice (some ⟨b0, 0, none⟩) 3 3 ∧ Ints.Row w W.heap.size (.slice (some ⟨b0, 0, none⟩) 3 3) [0, 0, 0]
  | _, 1, v, w => ∃ b0, v = .slice (some ⟨b0, 0, none⟩) 2 2 ∧ Ints.Row w W.heap.size (.slice (some ⟨b0, 0, none⟩) 2 2) [0, 0]
  | _, 2, v, w => ∃ b0, v = .slice (some ⟨b0, 0, none⟩) 2 2 ∧ Ints.Row w W.heap.size (.slice (some ⟨b0, 0, none⟩) 2 2) [0, 0]
  | _, _, _, _ => True
theorem nwR_grew {W : World} : ∀ vs j v w w', Grew w w' → nwR W vs j v w → nwR W vs j v w'
  | _, 0, _, _, _, g, ⟨b0, e, h0⟩ => ⟨b0, e, h0.grew g⟩
  | _, 1, _, _, _, g, ⟨b0, e, h0⟩ => ⟨b0, e, h0.grew g⟩
  | _, 2, _, _, _, g, ⟨b0, e, h0⟩ => ⟨b0, e, h0.grew g⟩
  | _, _ + 3, _, _, _, _, _ => True.intro
theorem nwR_lt {W : World} : ∀ vs j v w, ([0, 1, 2] : List Nat).contains j = true → nwR W vs j v w → ∀ g, leadsTo v = some g → g < w.heap.size
  | _, 0, _, w, _, ⟨b0, e, h0⟩ => by subst e; intro g hg; simp only [leadsTo, Option.some.injEq] at hg; subst hg; exact h0.lt
  | _, 1, _, w, _, ⟨b0, e, h0⟩ => by subst e; intro g hg; simp only [leadsTo, Option.some.injEq] at hg; subst hg; exact h0.lt
  | _, 2, _, w, _, ⟨b0, e, h0⟩ => by subst e; intro g hg; simp only [leadsTo, Option.some.injEq] at hg; subst hg; exact h0.lt
  | _, _ + 3, _, _, hc, _ => by simp at hc
theorem nwR_loc {W : World} : ∀ (vs vs' : Nat → Value) j v w, (∀ k ∈ ([[], [], []] : List (List Nat)).getD j [], vs k = vs' k) → nwR W vs j v w → nwR W vs' j v w
  | _, _, 0, _, _, _, h => h
  | _, _, 1, _, _, _, h => h
  | _, _, 2, _, _, _, h => h
  | _, _, _ + 3, _, _, _, _ => True.intro
end Go.Proofs.YtgcfmijkggpemaaGreat
