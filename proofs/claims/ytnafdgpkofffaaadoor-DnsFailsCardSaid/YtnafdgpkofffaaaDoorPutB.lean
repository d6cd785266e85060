/-
  Put (the program's, the document's) of a size from 0 to 8: a row of the call's own. For every later stage that writes numbers.
-/
import Derived.Test.YtnafdgpkofffaaaDoorBuf
import Derived.WalkKit
set_option maxRecDepth 4000
set_option linter.unusedVariables false
set_option linter.unusedSimpArgs false
namespace Go.Proofs.YtnafdgpkofffaaaDoor
open Go.RowKit

theorem putB_len (x : Int) (n : Nat) (big : Bool) : (putL x n big).length = n := by simp [putL]
theorem putB_ok (x : Int) (n : Nat) (big : Bool) : AreBytes (putL x n big) := by
  intro y hy
  simp only [putL, List.mem_map] at hy
  obtain ⟨i, _, rfl⟩ := hy
  unfold byteV
  omega
theorem putB_row {w w' : World} {v : Value} {x : Int} {n : Nat} {big : Bool} (h : w'.ownsRow w.heap.size 5 1 v n ((putL x n big).map (Value.int .u8))) : Row w' w.heap.size v (putL x n big) := by
  unfold Row
  rw [putB_len]
  exact h
theorem putB_c (x s : Int) (n : Nat) (big : Bool) (hs : s = n) (hn : n ≤ 8) (hx0 : 0 ≤ x) (hx1 : x < 18446744073709551616) (w : World) :
    Calls Tryd.prog 32 #[.int .u64 x, .int .i64 s, .bool big] w fun e w' => ∃ u, e = .returned u ∧ Row w' w.heap.size u (putL x n big) ∧ Buf w' u (putL x n big) ∧ Grew w w' := by
  refine (put_c x s big hx0 hx1 w).mono ?_
  rintro e w' ⟨rfl, ho, hb⟩
  rw [show (max 0 (min s 8)).toNat = n by omega] at ho ⊢
  exact ⟨_, rfl, putB_row ho, (putB_row ho).buf (putB_ok _ _ _), hb⟩
end Go.Proofs.YtnafdgpkofffaaaDoor
