/-
  What the laws of layer 19 ask of the program, and of what must come at any rate.
-/
import Derived.Test.YtiaejlbkdgcfiaaSgS
set_option maxRecDepth 4000
set_option linter.unusedVariables false
set_option linter.unusedSimpArgs false
namespace Go.Proofs.Ytiaejlbkdgcfiaa
open Go.RowKit

/-- The program's Put answers what is written down for it. -/
def PutC : Prop := ∀ {v : Value} {f : SGR} (src dst : Int), 0 ≤ src ∧ src < 4294967296 → 0 ≤ dst ∧ dst < 4294967296 → f.x.length ≤ 140737488355328 → ∀ {w : World}, Sg w v f →
    Calls Try.prog 8 #[v, .int .u32 src, .int .u32 dst] w fun e w' => ∃ u, e = .returned (.tuple #[u, .int .i64 (putSGE f)]) ∧ Buf w' u (putSGB f src dst) ∧ Grew w w'
/-- The program's Get. -/
def GetC : Prop := ∀ {v : Value} {xs : List Int} (src dst : Int), 0 ≤ src ∧ src < 4294967296 → 0 ≤ dst ∧ dst < 4294967296 → ∀ {w : World}, xs.length ≤ 140737488355328 → Buf w v xs →
    Calls Try.prog 10 #[v, .int .u32 src, .int .u32 dst] w fun e w' => ∃ u, e = .returned (.tuple #[u, .int .i64 (getSGE xs src dst)]) ∧ Sg w' u (getSG xs src dst) ∧ Grew w w'
def LessC : Prop := ∀ (a b : Int), 0 ≤ a ∧ a < 4294967296 → 0 ≤ b ∧ b < 4294967296 → ∀ (w : World), Calls Try.prog 17 #[.int .u32 a, .int .u32 b] w fun e w' => e = .returned (.bool (lessSG a b)) ∧ Grew w w'
def LenC : Prop := ∀ {v : Value} {f : SGR} {w : World}, f.x.length ≤ 140737488355328 → Sg w v f → Calls Try.prog 15 #[v] w fun e w' => e = .returned (.int .i64 (lenSG f)) ∧ Grew w w'
/-- What must come at any rate. -/
def HeadC : Prop := ∀ {W w : World}, Grew W w → Calls Try.prog 7 #[] w fun e w' => e = .returned (.bool true) ∧ Grew W w'
theorem same_true19 {v u : Value} {xs : List Int} {w : World} (hv : Buf w v xs) (hu : Buf w u xs) :
    Calls Try.prog 12 #[v, u] w fun e w' => e = .returned (.bool true) ∧ Grew w w' :=
  (sameB_c w hv hu).mono fun _ _ ⟨h1, h2⟩ => ⟨by rw [h1, decide_eq_true rfl], by subst h2; exact Grew.refl _⟩
theorem refLessG_c (a b : Int) (ha : 0 ≤ a ∧ a < 4294967296) (hb : 0 ≤ b ∧ b < 4294967296) (w : World) :
    Calls Try.prog 18 #[.int .u32 a, .int .u32 b] w fun e w' => e = .returned (.bool (lessSG a b)) ∧ Grew w w' :=
  (refLess_c a b ha hb w).mono fun _ _ ⟨h1, h2⟩ => ⟨h1, by subst h2; exact Grew.refl _⟩
end Go.Proofs.Ytiaejlbkdgcfiaa
