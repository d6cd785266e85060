/-
  Plain numbers of layer 4: what each sum answers, of the program's text (V) and of the document's (R), and that these are the same.
-/
import Derived.Test.YtgekmhcekkmdhaaMath
import Derived.IntWalk
set_option linter.unusedVariables false
set_option linter.unusedSimpArgs false
namespace Go.Proofs.Ytgekmhcekkmdhaa
open Go.RowKit

/-! ### What the methods of a pair answer -/
def addV (a b : Int) : Int := IntKind.u64.wrap (a + b)
def subV (a b : Int) : Int := IntKind.u64.wrap (a - b)
def mulV (a b : Int) : Int := IntKind.u64.wrap (a * b)
def xorV (a b : Int) : Int := bits .xor .u64 a b
def orV (a b : Int) : Int := bits .or .u64 a b
def andV (a b : Int) : Int := bits .and .u64 a b
def sllV (a b : Int) : Int := IntKind.u64.wrap (a * 2 ^ (b % 64).toNat)
def srlV (a b : Int) : Int := a / 2 ^ (b % 64).toNat
def sraV (a b : Int) : Int := IntKind.u64.wrap (wrap64 a / 2 ^ (b % 64).toNat)
def flagV (x : Bool) : Int := if x = true then 1 else 0
def sltV (a b : Int) : Int := flagV (decide (wrap64 a < wrap64 b))
def sltuV (a b : Int) : Int := flagV (decide (a < b))
def signsV (a : Int) : Int := if a < 9223372036854775808 then 0 else 18446744073709551615
def hiV (a b : Int) : Int := a * b / 18446744073709551616
def himV (a b : Int) : Int := IntKind.u64.wrap (hiV a b - bits .and .u64 b (signsV a))
def hisV (a b : Int) : Int := IntKind.u64.wrap (himV a b - bits .and .u64 a (signsV b))
def divV (a b : Int) : Int := if b = 0 then 18446744073709551615 else IntKind.u64.wrap (wrap64 ((wrap64 a).tdiv (wrap64 b)))
def remV (a b : Int) : Int := if b = 0 then a else IntKind.u64.wrap ((wrap64 a).tmod (wrap64 b))
def divuV (a b : Int) : Int := if b = 0 then 18446744073709551615 else a / b
def remuV (a b : Int) : Int := if b = 0 then a else a % b

/-! ### Bounds -/
theorem wrap_lt (n : Int) : 0 ≤ IntKind.u64.wrap n ∧ IntKind.u64.wrap n < 18446744073709551616 := by rw [wrap_u64]; omega
theorem wrap64_val (a : Int) (h0 : 0 ≤ a) (h1 : a < 18446744073709551616) : wrap64 a = if a < 9223372036854775808 then a else a - 18446744073709551616 := by
  unfold wrap64
  split <;> omega
theorem and_lt (a b : Int) (a0 : 0 ≤ a) (a1 : a < 18446744073709551616) (b0 : 0 ≤ b) (b1 : b < 18446744073709551616) : 0 ≤ bits .and .u64 a b ∧ bits .and .u64 a b < 18446744073709551616 := by
  rw [u64_and a b a0 a1 b0 b1]
  have : a.toNat &&& b.toNat < 2 ^ 64 := Nat.and_lt_two_pow _ (by omega)
  omega
theorem or_lt (a b : Int) (a0 : 0 ≤ a) (a1 : a < 18446744073709551616) (b0 : 0 ≤ b) (b1 : b < 18446744073709551616) : 0 ≤ bits .or .u64 a b ∧ bits .or .u64 a b < 18446744073709551616 := by
  rw [u64_or a b a0 a1 b0 b1]
  have : a.toNat ||| b.toNat < 2 ^ 64 := Nat.or_lt_two_pow (by omega) (by omega)
  omega
theorem xor_lt (a b : Int) (a0 : 0 ≤ a) (a1 : a < 18446744073709551616) (b0 : 0 ≤ b) (b1 : b < 18446744073709551616) : 0 ≤ bits .xor .u64 a b ∧ bits .xor .u64 a b < 18446744073709551616 := by
  rw [u64_xor a b a0 a1 b0 b1]
  have : a.toNat ^^^ b.toNat < 2 ^ 64 := Nat.xor_lt_two_pow (by omega) (by omega)
  omega
theorem hi_lt (a b : Int) (a0 : 0 ≤ a) (a1 : a < 18446744073709551616) (b0 : 0 ≤ b) (b1 : b < 18446744073709551616) : 0 ≤ hiV a b ∧ hiV a b < 18446744073709551616 := by
  unfold hiV
  have h1 : 0 ≤ a * b := Int.mul_nonneg a0 b0
  have h2 : a * b < 18446744073709551616 * 18446744073709551616 := Int.lt_of_le_of_lt (Int.mul_le_mul (Int.le_of_lt_add_one (by omega : a < 18446744073709551615 + 1)) (Int.le_of_lt_add_one (by omega : b < 18446744073709551615 + 1)) b0 (by omega)) (by decide)
  omega

/-! ### The upper half of a product, by pieces -/
theorem split_mul (p q r s : Int) : (p * 4294967296 + q) * (r * 4294967296 + s) = p * r * 18446744073709551616 + (p * s + q * r) * 4294967296 + q * s := by
  have e1 : p * 4294967296 * (r * 4294967296) = p * r * 18446744073709551616 := by
    rw [Int.mul_assoc, Int.mul_comm 4294967296, Int.mul_assoc, ← Int.mul_assoc]; rfl
  have e2 : p * 4294967296 * s = p * s * 4294967296 := by rw [Int.mul_assoc, Int.mul_comm 4294967296, Int.mul_assoc]
  have e3 : q * (r * 4294967296) = q * r * 4294967296 := by rw [Int.mul_assoc]
  rw [Int.add_mul, Int.mul_add, Int.mul_add, e1, e2, e3, Int.add_mul]
  omega
theorem prod_le (p s : Int) (p0 : 0 ≤ p) (p1 : p < 4294967296) (s0 : 0 ≤ s) (s1 : s < 4294967296) : 0 ≤ p * s ∧ p * s ≤ 18446744065119617025 := by
  refine ⟨Int.mul_nonneg p0 s0, ?_⟩
  have : p * s ≤ 4294967295 * 4294967295 := Int.mul_le_mul (by omega) (by omega) s0 (by omega)
  omega
theorem hi_pieces (p q r s : Int) (p0 : 0 ≤ p) (p1 : p < 4294967296) (q0 : 0 ≤ q) (q1 : q < 4294967296) (r0 : 0 ≤ r) (r1 : r < 4294967296) (s0 : 0 ≤ s) (s1 : s < 4294967296) :
    (p * r + (p * s + q * s / 4294967296) / 4294967296) + ((p * s + q * s / 4294967296) % 4294967296 + q * r) / 4294967296 = (p * 4294967296 + q) * (r * 4294967296 + s) / 18446744073709551616 := by
  rw [split_mul]
  have h1 := prod_le p r p0 p1 r0 r1
  have h2 := prod_le p s p0 p1 s0 s1
  have h3 := prod_le q r q0 q1 r0 r1
  have h4 := prod_le q s q0 q1 s0 s1
  generalize p * r = A at *
  generalize p * s = B at *
  generalize q * r = C at *
  generalize q * s = D at *
  omega
end Go.Proofs.Ytgekmhcekkmdhaa
