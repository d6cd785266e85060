/-
  The document's own questions for names: Ask and Fail.
-/
import Derived.Test.YtnafdgpkofffaaaDoorDnA
set_option maxRecDepth 4000
set_option linter.unusedVariables false
set_option linter.unusedSimpArgs false
namespace Go.Proofs.YtnafdgpkofffaaaDoor
open Go.RowKit

def askOk (id : Int) (xs : List Int) (kind : Int) : Bool := (lblV xs).2 && (decide (0 ≤ id) && (decide (id ≤ 65535) && (decide (0 ≤ kind) && decide (kind ≤ 65535))))
def askW (id : Int) (xs : List Int) (kind : Int) : List Int := putL id 2 true ++ [1, 0, 0, 1, 0, 0, 0, 0, 0, 0] ++ (lblV xs).1 ++ putL kind 2 true ++ [0, 1]
def askV (id : Int) (xs : List Int) (kind : Int) : List Int := if askOk id xs kind = true then askW id xs kind else []
def askE (id : Int) (xs : List Int) (kind : Int) : Int := if askOk id xs kind = true then 0 else 2
def failOk (b : List Int) : Bool := (qsV b).2.2.2 == 0 && qyV b
def failW (b : List Int) (code : Int) : List Int := [b.getD 0 0, b.getD 1 0, 129, 128 + code % 16, 0, 1] ++ List.replicate 6 0 ++ cutL b 12 (qsV b).2.2.1.toNat
def failV (b : List Int) (code : Int) : List Int := if failOk b = true then failW b code else []
theorem lblV_some {xs : List Int} (h : (lblV xs).2 = true) : ∃ o, lblO xs = some o ∧ (lblV xs).1 = o ++ [0] := by
  unfold lblV at h ⊢
  cases e : lblO xs with
  | none => rw [e] at h; simp at h
  | some o => exact ⟨o, rfl, rfl⟩
theorem labsF_len : ∀ cur r o, labsF cur r = some o → o.length = cur.length + r.length + 1
  | cur, [], o, h => by
    rw [labsF_nil] at h
    split at h
    · simp only [Option.some.injEq] at h; subst h; simp
    · simp at h
  | cur, c :: r, o, h => by
    by_cases e : c = 46
    · subst e
      rw [labsF_dot] at h
      split at h
      · obtain ⟨x, hx, rfl⟩ := Option.map_eq_some_iff.1 h
        have := labsF_len [] r x hx
        simp only [List.length_cons, List.length_append, List.length_nil] at this ⊢
        omega
      · simp at h
    · rw [labsF_let e] at h
      split at h
      · have := labsF_len (cur ++ [c]) r o h
        simp only [List.length_cons, List.length_append, List.length_nil] at this ⊢
        omega
      · simp at h
theorem lblV_len {xs : List Int} (h : (lblV xs).2 = true) : (lblV xs).1.length ≤ 256 := by
  obtain ⟨o, ho, hv⟩ := lblV_some h
  have h2 : (lblV xs).2 = decide (o.length + 1 ≤ 255) := by unfold lblV; rw [ho]
  rw [h2] at h
  have := of_decide_eq_true h
  rw [hv, List.length_append, List.length_singleton]
  omega
theorem and15 (x : Int) : bits .and .i64 x 15 = x % 16 := by
  show IntKind.i64.wrap ((BitVec.ofInt 64 x &&& BitVec.ofInt 64 15).toNat : Int) = _
  rw [BitVec.toNat_and, show (BitVec.ofInt 64 15).toNat = 2 ^ 4 - 1 from rfl, Nat.and_two_pow_sub_one_eq_mod, BitVec.toNat_ofInt, IntKind.wrap_i64]
  omega
theorem qsV_end {b : List Int} (h : (qsV b).2.2.2 = 0) : 12 ≤ b.length ∧ 16 ≤ (qsV b).2.2.1 ∧ (qsV b).2.2.1 ≤ b.length := by
  unfold qsV at h ⊢
  split at h
  · simp at h
  · rename_i h1
    rw [if_neg h1]
    split at h
    · simp at h
    · rename_i h2
      rw [if_neg h2]
      split at h
      · rename_i h3; exact absurd h h3
      · rename_i h3
        rw [if_neg h3]
        split at h
        · simp at h
        · rename_i h4
          rw [if_neg h4]
          have := namV_at (b := b) (p := 12) (by omega)
          simp only
          omega
end Go.Proofs.YtnafdgpkofffaaaDoor
