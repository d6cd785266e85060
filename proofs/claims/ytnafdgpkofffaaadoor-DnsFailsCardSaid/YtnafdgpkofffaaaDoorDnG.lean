/-
  The document's own questions for names: question, Question, Id, Query, With.
-/
import Derived.Test.YtnafdgpkofffaaaDoorDnM
import Derived.Test.YtnafdgpkofffaaaDoorRowSet
set_option maxRecDepth 4000
set_option linter.unusedVariables false
set_option linter.unusedSimpArgs false
namespace Go.Proofs.YtnafdgpkofffaaaDoor
open Go.RowKit

theorem results_four {fn : Func} {t u v x : Tmp} (h : fn.results = #[.tmp t, .tmp u, .tmp v, .tmp x]) (tmps : Array Value) (P : Program) (w : World) :
    (results fn tmps).run P w = .ok (.tuple #[tmps.getD t undef, tmps.getD u undef, tmps.getD v undef, tmps.getD x undef]) w := by
  simp [results, h, go_sem]
def idV (b : List Int) : Int × Bool := if b.length < 12 then (0, false) else (getV (cutL b 0 2) true, true)
def withV (b : List Int) (id : Int) : List Int := if b.length < 12 then b else (b.set 0 (id / 256 % 256)).set 1 (id % 256)
def qyV (b : List Int) : Bool := decide (12 ≤ b.length) && decide (b.getD 2 0 < 128)
theorem namF_at (b : List Int) (p : Nat) : ∀ f k T, (namF b p f k T).2.2 = 0 → b.length < k + f → 0 ≤ (namF b p f k T).2.1 ∧ (k : Int) < (namF b p f k T).2.1 ∧ (namF b p f k T).2.1 ≤ b.length
  | 0, k, T, h, _ => by simp [namF] at h
  | f + 1, k, T, h, hl => by
    unfold namF at h ⊢
    split at h
    · simp at h
    · rename_i h1
      rw [if_neg h1]
      split at h
      · rename_i h2
        rw [if_pos h2]
        simp only
        omega
      · rename_i h2
        rw [if_neg h2]
        split at h
        · simp at h
        · rename_i h3
          rw [if_neg h3]
          split at h
          · rename_i h4; exact absurd h h4
          · rename_i h4
            rw [if_neg h4]
            split at h
            · simp at h
            · rename_i h5
              rw [if_neg h5]
              have := namF_at b p f _ _ h (by omega)
              omega
theorem namV_at {b : List Int} {p : Nat} (h : (namV b p).2.2 = 0) : 0 ≤ (namV b p).2.1 ∧ (p : Int) < (namV b p).2.1 ∧ (namV b p).2.1 ≤ b.length := namF_at b p _ p [] h (by omega)
end Go.Proofs.YtnafdgpkofffaaaDoor
