/-
  The document's own questions for names: the labels of a text; Ask.
-/
import Derived.Test.YtnafdgpkofffaaaDoorDnG
import Derived.Test.YtnafdgpkofffaaaDoorStrA
set_option maxRecDepth 4000
set_option linter.unusedVariables false
set_option linter.unusedSimpArgs false
namespace Go.Proofs.YtnafdgpkofffaaaDoor
open Go.RowKit

/-- A text without one dot at its end. -/
def trimV (xs : List Int) : List Int := if 0 < xs.length ∧ xs.getD (xs.length - 1) 0 = 46 then cutL xs 0 (xs.length - 1) else xs
def lenOk (cur : List Int) : Bool := decide (1 ≤ cur.length ∧ cur.length ≤ 63)
/-- Labels with dots between; cur: what has been read of the first one. -/
def labsF : List Int → List Int → Option (List Int)
  | cur, [] => if lenOk cur then some ((cur.length : Int) :: cur) else none
  | cur, c :: r => if c = 46 then (if lenOk cur then (labsF [] r).map fun x => (cur.length : Int) :: (cur ++ x) else none) else if (letV c).2 = true then labsF (cur ++ [c]) r else none
def lblO (xs : List Int) : Option (List Int) := if trimV xs = [] then some [] else labsF [] (trimV xs)
def lblV (xs : List Int) : List Int × Bool :=
  match lblO xs with
  | some o => (o ++ [0], decide (o.length + 1 ≤ 255))
  | none => ([], false)
theorem labsF_ok : ∀ cur r o, AreBytes cur → AreBytes r → labsF cur r = some o → AreBytes o
  | cur, [], o, hc, _, h => by
    unfold labsF at h
    split at h
    · rename_i hl
      simp only [Option.some.injEq] at h
      subst h
      unfold lenOk at hl
      have := of_decide_eq_true hl
      intro x hx
      rcases List.mem_cons.1 hx with rfl | hx
      · omega
      · exact hc x hx
    · simp at h
  | cur, c :: r, o, hc, hr, h => by
    have hr' : AreBytes r := fun z hz => hr z (List.mem_cons_of_mem _ hz)
    unfold labsF at h
    split at h
    · split at h
      · rename_i hl
        obtain ⟨x, hx, rfl⟩ := Option.map_eq_some_iff.1 h
        have := labsF_ok [] r x (fun z hz => by simp at hz) hr' hx
        unfold lenOk at hl
        have hl' := of_decide_eq_true hl
        intro y hy
        rcases List.mem_cons.1 hy with rfl | hy
        · omega
        · rcases List.mem_append.1 hy with hy | hy
          · exact hc y hy
          · exact this y hy
      · simp at h
    · split at h
      · exact labsF_ok (cur ++ [c]) r o (hc.app (fun z hz => by simp only [List.mem_cons, List.not_mem_nil, or_false] at hz; subst hz; exact hr z (by simp))) hr' h
      · simp at h
theorem labsF_nil (cur : List Int) : labsF cur [] = if lenOk cur = true then some ((cur.length : Int) :: cur) else none := by rw [labsF]
theorem labsF_dot (cur r : List Int) : labsF cur (46 :: r) = if lenOk cur = true then (labsF [] r).map (fun x => (cur.length : Int) :: (cur ++ x)) else none := by rw [labsF, if_pos rfl]
theorem labsF_let {c : Int} (h : c ≠ 46) (cur r : List Int) : labsF cur (c :: r) = if (letV c).2 = true then labsF (cur ++ [c]) r else none := by rw [labsF, if_neg h]
theorem cut_snoc {t : List Int} {from' i : Nat} (h : from' ≤ i) (hi : i < t.length) : cutL t from' (i + 1) = cutL t from' i ++ [t.getD i 0] := by
  rw [← cutL_join t h (by omega : i ≤ i + 1)]
  congr 1
  unfold cutL
  rw [drop_cons hi, show i + 1 - i = 1 by omega]
  rfl
end Go.Proofs.YtnafdgpkofffaaaDoor
