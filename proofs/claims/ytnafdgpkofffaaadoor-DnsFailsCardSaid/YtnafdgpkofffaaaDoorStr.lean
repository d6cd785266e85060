/-
  Strings as lists of bytes. For every later stage with strings.
-/
import Derived.Test.YtnafdgpkofffaaaDoorClone
import Derived.Laws.Concat
set_option maxRecDepth 4000
set_option linter.unusedVariables false
set_option linter.unusedSimpArgs false
namespace Go.Proofs.YtnafdgpkofffaaaDoor
open Go.RowKit

theorem strOf_append (xs ys : List Int) : strOfNums (xs ++ ys) = strOfNums xs ++ strOfNums ys := by
  unfold strOfNums
  rw [ByteArray.mk_append_mk, List.map_append]
theorem strOf_size (xs : List Int) : (strOfNums xs).size = xs.length := by
  simp [strOfNums, ByteArray.size]
theorem strOf_nil : strOfNums [] = ⟨#[]⟩ := rfl
/-- A text as its bytes. -/
def numsOf (s : ByteArray) : List Int := s.data.toList.map fun b => (b.toNat : Int)
theorem numsOf_ok (s : ByteArray) : AreBytes (numsOf s) := fun x hx => by
  obtain ⟨b, _, rfl⟩ := List.mem_map.1 hx
  have h := UInt8.toNat_lt b
  exact ⟨Int.natCast_nonneg _, by omega⟩
theorem numsOf_len (s : ByteArray) : (numsOf s).length = s.size := by
  unfold numsOf ByteArray.size
  rw [List.length_map, Array.length_toList]
theorem strOf_nums (s : ByteArray) : strOfNums (numsOf s) = s := by
  obtain ⟨d⟩ := s
  unfold strOfNums numsOf
  congr 1
  simp only [List.map_map]
  have : ((fun n : Int => UInt8.ofNat n.toNat) ∘ fun b : UInt8 => (b.toNat : Int)) = id := by
    funext b
    simp
  rw [this, List.map_id]
theorem run_str_add {P : Program} (w : World) (xs ys : List Int) (h : xs.length + ys.length ≤ 9223372036854775807) : (Op.stringOp .add (strOfNums xs) (strOfNums ys)).run P w = .ok (.string (strOfNums (xs ++ ys))) w := by
  rw [run_string_add_sum w _ _ (by rw [strOf_size, strOf_size]; exact h), strOf_append]
end Go.Proofs.YtnafdgpkofffaaaDoor
