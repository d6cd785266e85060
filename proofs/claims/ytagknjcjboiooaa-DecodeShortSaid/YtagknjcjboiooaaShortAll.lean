/-
  Each of the 65,536 compressed instructions, looked at by the kernel: what it stands for, by the document's own text, is a word that package decode tells, of the classes 1 to 11.
-/
import Derived.Test.YtagknjcjboiooaaRvcR2
import Derived.Test.YtagknjcjboiooaaDecN
import Derived.KernelRfl
set_option linter.unusedVariables false
set_option linter.unusedSimpArgs false
namespace Go.Proofs.Ytagknjcjboiooaa
open Go.RowKit

def chkS (h : Nat) : Bool := if refB h then (match kOf (refW h) with | ⟨c, _, _⟩ => decide (1 ≤ c) && decide (c ≤ 11)) && decide (refW h < 4294967296) else true
def allB (f : Nat → Bool) : Nat → Nat → Bool
  | 0, b => f b
  | k + 1, b => allB f k (2 * b) && allB f k (2 * b + 1)
theorem allB_of (f : Nat → Bool) : ∀ (k b : Nat), allB f k b = true → ∀ x, b * 2 ^ k ≤ x → x < (b + 1) * 2 ^ k → f x = true
  | 0, b, h, x, h1, h2 => by
    obtain rfl : x = b := by omega
    exact h
  | k + 1, b, h, x, h1, h2 => by
    have h3 : allB f k (2 * b) = true ∧ allB f k (2 * b + 1) = true := by simpa [allB] using h
    have e : 2 ^ (k + 1) = 2 * 2 ^ k := by rw [Nat.pow_succ]; omega
    have e1 : b * 2 ^ (k + 1) = 2 * b * 2 ^ k := by rw [e, ← Nat.mul_assoc, Nat.mul_comm b 2]
    have e2 : (b + 1) * 2 ^ (k + 1) = (2 * b + 1 + 1) * 2 ^ k := by rw [e, ← Nat.mul_assoc]; congr 1; omega
    by_cases hx : x < (2 * b + 1) * 2 ^ k
    · exact allB_of f k (2 * b) h3.1 x (by omega) hx
    · exact allB_of f k (2 * b + 1) h3.2 x (by omega) (by omega)

set_option maxRecDepth 100000
theorem all0 : allB chkS 12 0 = true := by kernel_rfl
theorem all1 : allB chkS 12 1 = true := by kernel_rfl
theorem all2 : allB chkS 12 2 = true := by kernel_rfl
theorem all3 : allB chkS 12 3 = true := by kernel_rfl
theorem all4 : allB chkS 12 4 = true := by kernel_rfl
theorem all5 : allB chkS 12 5 = true := by kernel_rfl
theorem all6 : allB chkS 12 6 = true := by kernel_rfl
theorem all7 : allB chkS 12 7 = true := by kernel_rfl
theorem all8 : allB chkS 12 8 = true := by kernel_rfl
theorem all9 : allB chkS 12 9 = true := by kernel_rfl
theorem all10 : allB chkS 12 10 = true := by kernel_rfl
theorem all11 : allB chkS 12 11 = true := by kernel_rfl
theorem all12 : allB chkS 12 12 = true := by kernel_rfl
theorem all13 : allB chkS 12 13 = true := by kernel_rfl
theorem all14 : allB chkS 12 14 = true := by kernel_rfl
theorem all15 : allB chkS 12 15 = true := by kernel_rfl
theorem chk_all (h : Nat) (hh : h < 65536) : chkS h = true := by
  obtain e | e | e | e | e | e | e | e | e | e | e | e | e | e | e | e : h / 4096 = 0 ∨ h / 4096 = 1 ∨ h / 4096 = 2 ∨ h / 4096 = 3 ∨ h / 4096 = 4 ∨ h / 4096 = 5 ∨ h / 4096 = 6 ∨ h / 4096 = 7 ∨ h / 4096 = 8 ∨ h / 4096 = 9 ∨ h / 4096 = 10 ∨ h / 4096 = 11 ∨ h / 4096 = 12 ∨ h / 4096 = 13 ∨ h / 4096 = 14 ∨ h / 4096 = 15 := by omega
  · exact allB_of chkS 12 0 all0 h (by omega) (by omega)
  · exact allB_of chkS 12 1 all1 h (by omega) (by omega)
  · exact allB_of chkS 12 2 all2 h (by omega) (by omega)
  · exact allB_of chkS 12 3 all3 h (by omega) (by omega)
  · exact allB_of chkS 12 4 all4 h (by omega) (by omega)
  · exact allB_of chkS 12 5 all5 h (by omega) (by omega)
  · exact allB_of chkS 12 6 all6 h (by omega) (by omega)
  · exact allB_of chkS 12 7 all7 h (by omega) (by omega)
  · exact allB_of chkS 12 8 all8 h (by omega) (by omega)
  · exact allB_of chkS 12 9 all9 h (by omega) (by omega)
  · exact allB_of chkS 12 10 all10 h (by omega) (by omega)
  · exact allB_of chkS 12 11 all11 h (by omega) (by omega)
  · exact allB_of chkS 12 12 all12 h (by omega) (by omega)
  · exact allB_of chkS 12 13 all13 h (by omega) (by omega)
  · exact allB_of chkS 12 14 all14 h (by omega) (by omega)
  · exact allB_of chkS 12 15 all15 h (by omega) (by omega)
end Go.Proofs.Ytagknjcjboiooaa
