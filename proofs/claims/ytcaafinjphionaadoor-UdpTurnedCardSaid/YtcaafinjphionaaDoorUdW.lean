/-
  What the laws of layer 18 ask of the program's Put and Get, and of what must come at any rate.
-/
import Derived.Test.YtcaafinjphionaaDoorUdS
import Derived.Test.YtcaafinjphionaaDoorIpL
set_option maxRecDepth 4000
set_option linter.unusedVariables false
set_option linter.unusedSimpArgs false
namespace Go.Proofs.YtcaafinjphionaaDoor
open Go.RowKit

/-- The program's Put answers what is written down for it. -/
def PutC : Prop := ∀ {v : Value} {f : UD} (src dst : Int), 0 ≤ src ∧ src < 4294967296 → 0 ≤ dst ∧ dst < 4294967296 → f.x.length ≤ 140737488355328 → ∀ {w : World}, Ud w v f →
    Calls Tryd.prog 7 #[v, .int .u32 src, .int .u32 dst] w fun e w' => ∃ u, e = .returned (.tuple #[u, .int .i64 (putUE f)]) ∧ Buf w' u (putUB f src dst) ∧ Grew w w'
/-- The program's Get, where the type handle stands in its variable. -/
def GetC : Prop := ∀ {v : Value} {xs : List Int} (src dst : Int), 0 ≤ src ∧ src < 4294967296 → 0 ≤ dst ∧ dst < 4294967296 → ∀ {w : World}, SenW w → xs.length ≤ 140737488355328 → Buf w v xs →
    Calls Tryd.prog 9 #[v, .int .u32 src, .int .u32 dst] w fun e w' => ∃ u, e = .returned (.tuple #[u, .int .i64 (getUE xs src dst)]) ∧ Ud w' u (getU xs src dst) ∧ Grew w w'
/-- What must come at any rate. -/
def HeadC : Prop := ∀ {W w : World}, Grew W w → SenW w → Calls Tryd.prog 6 #[] w fun e w' => e = .returned (.bool true) ∧ Grew W w'
theorem same_true18 {v u : Value} {xs : List Int} {w : World} (hv : Buf w v xs) (hu : Buf w u xs) :
    Calls Tryd.prog 11 #[v, u] w fun e w' => e = .returned (.bool true) ∧ Grew w w' :=
  (sameB_c w hv hu).mono fun _ _ ⟨h1, h2⟩ => ⟨by rw [h1, decide_eq_true rfl], by subst h2; exact Grew.refl _⟩
end Go.Proofs.YtcaafinjphionaaDoor
