/-
  The walk's bits of numbers (Int, 64 bits) as plain ones (Nat).
-/
import Derived.Test.YtbkbbcfhmjodlaaDoorCsrM
set_option linter.unusedVariables false
set_option linter.unusedSimpArgs false
namespace Go.Proofs.YtbkbbcfhmjodlaaDoor
open Go.RowKit

theorem b_and (a b : Nat) (ha : a < 2 ^ 64) (hb : b < 2 ^ 64) : bits .and .u64 (a : Int) (b : Int) = ((a &&& b : Nat) : Int) := u64_and_nat a b (by simpa using ha) (by simpa using hb)
theorem b_or (a b : Nat) (ha : a < 2 ^ 64) (hb : b < 2 ^ 64) : bits .or .u64 (a : Int) (b : Int) = ((a ||| b : Nat) : Int) := u64_or_nat a b (by simpa using ha) (by simpa using hb)
theorem b_xor (a b : Nat) (ha : a < 2 ^ 64) (hb : b < 2 ^ 64) : bits .xor .u64 (a : Int) (b : Int) = ((a ^^^ b : Nat) : Int) := u64_xor_nat a b (by simpa using ha) (by simpa using hb)
theorem b_not (a b : Nat) (ha : a < 2 ^ 64) (hb : b < 2 ^ 64) : bits .andNot .u64 (a : Int) (b : Int) = ((ndn a b : Nat) : Int) := u64_andNot_nat a b (by simpa using ha) (by simpa using hb)
theorem nat_of {x : Int} (h0 : 0 ≤ x) (h1 : x < 18446744073709551616) : ∃ n : Nat, n < 2 ^ 64 ∧ x = (n : Int) := ⟨x.toNat, by omega, by omega⟩
theorem l_and (a : Nat) (ha : a < 2 ^ 64) (m : Nat) (hm : m < 2 ^ 64) (M : Int) (hM : M = (m : Int)) : bits .and .u64 (a : Int) M = ((a &&& m : Nat) : Int) := by rw [hM, b_and a m ha hm]
theorem l_or (a : Nat) (ha : a < 2 ^ 64) (m : Nat) (hm : m < 2 ^ 64) (M : Int) (hM : M = (m : Int)) : bits .or .u64 (a : Int) M = ((a ||| m : Nat) : Int) := by rw [hM, b_or a m ha hm]
theorem l_not (a : Nat) (ha : a < 2 ^ 64) (m : Nat) (hm : m < 2 ^ 64) (M : Int) (hM : M = (m : Int)) : bits .andNot .u64 (a : Int) M = ((ndn a m : Nat) : Int) := by rw [hM, b_not a m ha hm]
theorem cast_bd {n : Nat} (h : n < 2 ^ 64) : 0 ≤ (n : Int) ∧ (n : Int) < 18446744073709551616 := by omega
theorem orn_bd (a m k : Nat) (ha : a < 2 ^ 64) (hm : m < 2 ^ 64) (hk : k < 2 ^ 64) (M K : Int) (hM : M = (m : Int)) (hK : K = (k : Int)) : bits .or .u64 (bits .andNot .u64 (a : Int) M) K = ((ndn a m ||| k : Nat) : Int) := by rw [l_not a ha m hm M hM, l_or _ (ndn_lt _ _ ha) k hk K hK]
theorem ora_bd (a m k : Nat) (ha : a < 2 ^ 64) (hm : m < 2 ^ 64) (hk : k < 2 ^ 64) (M K : Int) (hM : M = (m : Int)) (hK : K = (k : Int)) : bits .or .u64 (bits .and .u64 (a : Int) M) K = (((a &&& m) ||| k : Nat) : Int) := by rw [l_and a ha m hm M hM, l_or _ (and_lt _ _ ha) k hk K hK]
end Go.Proofs.YtbkbbcfhmjodlaaDoor
