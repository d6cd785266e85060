/-
  What the laws of layer 21 ask of the program, and of what must come at any rate.
-/
import Derived.Test.YtnafdgpkofffaaaDoorDnQ
import Derived.Test.YtnafdgpkofffaaaDoorIpL
set_option maxRecDepth 4000
set_option linter.unusedVariables false
set_option linter.unusedSimpArgs false
namespace Go.Proofs.YtnafdgpkofffaaaDoor
open Go.RowKit

/-- The program's Question. -/
def QuestionC : Prop := ∀ {v : Value} {xs : List Int} {w : World}, xs.length ≤ 140737488355328 → SenW w → Buf w v xs →
    Calls Tryd.prog 8 #[v] w fun e w' => e = .returned (.tuple #[.string (strOfNums (qsV xs).1), .int .i64 (qsV xs).2.1, .int .i64 (qsV xs).2.2.2]) ∧ Grew w w'
/-- Ask. -/
def AskC : Prop := ∀ {xs : List Int} (id kind : Int) {w : World}, intI id → intI kind → AreBytes xs → xs.length ≤ 2000 → SenW w → 
    Calls Tryd.prog 7 #[.int .i64 id, .string (strOfNums xs), .int .i64 kind] w fun e w' => ∃ u, e = .returned (.tuple #[u, .int .i64 (askE id xs kind)]) ∧ Buf w' u (askV id xs kind) ∧ Grew w w'
/-- Id. -/
def IdC : Prop := ∀ {v : Value} {xs : List Int} {w : World}, xs.length ≤ 140737488355328 → Buf w v xs → Calls Tryd.prog 9 #[v] w fun e w' => e = .returned (.tuple #[.int .i64 (idV xs).1, .bool (idV xs).2]) ∧ Grew w w'
/-- With. -/
def WithC : Prop := ∀ {v : Value} {xs : List Int} (id : Int) {w : World}, intI id → xs.length ≤ 70000 → Buf w v xs → Calls Tryd.prog 12 #[v, .int .i64 id] w fun e w' => ∃ u, e = .returned u ∧ Buf w' u (withV xs id) ∧ Grew w w'
/-- Query. -/
def QueryC : Prop := ∀ {v : Value} {xs : List Int} {w : World}, xs.length ≤ 140737488355328 → Buf w v xs → Calls Tryd.prog 11 #[v] w fun e w' => e = .returned (.bool (qyV xs)) ∧ Grew w w'
/-- Fail. -/
def FailC : Prop := ∀ {v : Value} {xs : List Int} (code : Int) {w : World}, intI code → xs.length ≤ 70000 → SenW w → Buf w v xs → Calls Tryd.prog 14 #[v, .int .i64 code] w fun e w' => ∃ u, e = .returned (.tuple #[u, .bool (failOk xs)]) ∧ Buf w' u (failV xs code) ∧ Grew w w'
/-- What must come at any rate. -/
def HeadC : Prop := ∀ {W w : World}, Grew W w → SenW w → Calls Tryd.prog 6 #[] w fun e w' => e = .returned (.bool true) ∧ Grew W w'
theorem sameT {v u : Value} {xs : List Int} {w : World} (hv : Buf w v xs) (hu : Buf w u xs) :
    Calls Tryd.prog 13 #[v, u] w fun e w' => e = .returned (.bool true) ∧ Grew w w' :=
  (sameB_c w hv hu).mono fun _ _ ⟨h1, h2⟩ => ⟨by rw [h1, decide_eq_true rfl], by subst h2; exact Grew.refl _⟩
end Go.Proofs.YtnafdgpkofffaaaDoor
