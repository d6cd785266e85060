/-
  The document's own with, Store.
-/
import Derived.Test.YtgcfmijkggpemaaGreatPlQ
set_option maxRecDepth 4000
set_option linter.unusedVariables false
set_option linter.unusedSimpArgs false
namespace Go.Proofs.YtgcfmijkggpemaaGreat
open Go.RowKit

theorem and6_u64 {y : Int} (h0 : 0 ≤ y) (h1 : y < 4294967296) : bits .and .u64 y 6 = bits .and .i64 y 6 := by
  have e : bits .and .i64 y 6 = IntKind.i64.wrap (bits .and .u64 (y % 18446744073709551616) (6 % 18446744073709551616)) := i64_and_u64 y 6
  rw [e, show y % 18446744073709551616 = y by omega, show (6 : Int) % 18446744073709551616 = 6 from rfl]
  obtain ⟨Y, rfl⟩ := Int.eq_ofNat_of_zero_le h0
  rw [show (6 : Int) = ((6 : Nat) : Int) from rfl, u64_and_nat Y 6 (by omega) (by omega), six_nat, IntKind.wrap_i64]
  omega
theorem at_head {w : World} {base m c : Nat} {a : Option Addr} {xs : List Int} (h : Ints.Row w base (.slice a m c) xs) (hl : xs.length = m) (hm : 0 < m) : ∃ b, a = some ⟨b, 0, none⟩ := by
  rcases h.2 with ⟨e, h0⟩ | ⟨b', cap, cur, e, _⟩
  · omega
  · simp only [Value.slice.injEq] at e
    exact ⟨b', e.1⟩
end Go.Proofs.YtgcfmijkggpemaaGreat
