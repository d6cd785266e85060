/-
  What the laws of layer 20 ask of the program, and of what must come at any rate.
-/
import Derived.Test.YtnmffkmpkgmkpaaDhS
set_option maxRecDepth 4000
set_option linter.unusedVariables false
set_option linter.unusedSimpArgs false
namespace Go.Proofs.Ytnmffkmpkgmkpaa
open Go.RowKit

/-- The program's Put answers what is written down for it. -/
def PutC : Prop := ∀ {v : Value} {f : DHR}, f.x.length ≤ 140737488355328 → ∀ {w : World}, Dh w v f →
    Calls Try.prog 10 #[v] w fun e w' => ∃ u, e = .returned (.tuple #[u, .int .i64 (putDHE f)]) ∧ Buf w' u (putDHB f) ∧ Grew w w'
/-- The program's Get. -/
def GetC : Prop := ∀ {v : Value} {xs : List Int}, ∀ {w : World}, xs.length ≤ 140737488355328 → Buf w v xs →
    Calls Try.prog 8 #[v] w fun e w' => ∃ u, e = .returned (.tuple #[u, .int .i64 (getDHE xs)]) ∧ Dh w' u (getDH xs) ∧ Grew w w'
/-- What must come at any rate. -/
def HeadC : Prop := ∀ {W w : World}, Grew W w → Calls Try.prog 7 #[] w fun e w' => e = .returned (.bool true) ∧ Grew W w'
theorem same_true20 {v u : Value} {xs : List Int} {w : World} (hv : Buf w v xs) (hu : Buf w u xs) :
    Calls Try.prog 13 #[v, u] w fun e w' => e = .returned (.bool true) ∧ Grew w w' :=
  (sameB_c w hv hu).mono fun _ _ ⟨h1, h2⟩ => ⟨by rw [h1, decide_eq_true rfl], by subst h2; exact Grew.refl _⟩
end Go.Proofs.Ytnmffkmpkgmkpaa
