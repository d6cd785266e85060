/-
  Contracts of package ram: Bytes, Read, Fill, Write, New.
-/
import Derived.Test.YtoehdhhodidehaaRows
import Derived.Test.YtoehdhhodidehaaRamA
import Derived.Test.YtoehdhhodidehaaClass
import Derived.WalkKit
import Derived.Outline
import Derived.Handy
import Derived.StillTailTactics
import Derived.Deep.QuietTactic
import Derived.BigQuiet
import Derived.Deep.DeepCutAuto
set_option maxRecDepth 4000
set_option linter.unusedVariables false
set_option linter.unusedSimpArgs false
namespace Go.Proofs.Ytoehdhhodidehaa
open Go.RowKit

theorem takes_box {w : World} {v : Value} {xs : List Int} (h : Buf w v xs) (cs : Array Value) (T : TypeId) : Buf (w.alloc (.cells cs T)) v xs := h.grew ((Grew.refl w).alloc _)

/-- The n bytes from x on; none, unless all of them are memory. -/
def bytesV (xs : List Int) (x n : Int) : List Int := if insideV xs.length x n then cutL xs (x - 2147483648).toNat ((x - 2147483648).toNat + n.toNat) else []
theorem bytesV_in {xs : List Int} {lo k : Nat} (h : lo + k ≤ xs.length) : bytesV xs (2147483648 + (lo : Int)) k = cutL xs lo (lo + k) := by
  unfold bytesV
  rw [insideV_at, if_pos (decide_eq_true h)]
  congr 1 <;> omega
theorem bytesV_out {xs : List Int} {x n : Int} (h : insideV xs.length x n = false) : bytesV xs x n = [] := by unfold bytesV; rw [h]; rfl

theorem part_c {a : Option Addr} {m c : Nat} {xs : List Int} (x n : Int) (hx0 : 0 ≤ x) (hx1 : x < 18446744073709551616) (hn0 : -9223372036854775808 ≤ n) (hn1 : n ≤ 9223372036854775807) (w : World) (hb : Buf w (.slice a m c) xs) :
    Calls Try.prog 77 #[.agg #[.slice a m c], .int .u64 x, .int .i64 n] w fun e w' => ∃ a' n' c', e = .returned (.tuple #[.slice a' n' c', .bool (insideV xs.length x n)]) ∧ Buf w' (.slice a' n' c') (bytesV xs x n) ∧
      (0 < n' → a' = a.map (·.add (x - 2147483648).toNat)) ∧ Grew w w' := by
  obtain ⟨rfl, _⟩ := hb.lenEq
  cases hv : insideV xs.length x n
  · refine (part_no x n hb.len hx0 hx1 hn0 hn1 hv w).mono ?_
    rintro e w' ⟨rfl, g⟩
    exact ⟨none, 0, 0, rfl, by rw [bytesV_out hv]; exact Buf.nil _, fun h => absurd h (by omega), g⟩
  · obtain ⟨lo, k, rfl, rfl, h⟩ := insideV_no hv
    refine (part_yes lo k h w hb).mono ?_
    rintro e w' ⟨a', c', rfl, hb', ha, g⟩
    refine ⟨a', k, c', rfl, by rw [bytesV_in h]; exact hb', fun hk => ?_, g⟩
    rw [ha hk, show (2147483648 + (lo : Int) - 2147483648).toNat = lo by omega]

/-! ### Bytes -/
theorem bytesV_length (xs : List Int) (x n : Int) : (bytesV xs x n).length ≤ xs.length := by
  cases h : insideV xs.length x n
  · rw [bytesV_out h]; simp
  · obtain ⟨lo, k, rfl, rfl, h'⟩ := insideV_no h
    rw [bytesV_in h', cutL_length (by omega) h']; omega
theorem bytes_c {v : Value} {xs : List Int} (x n : Int) (hx0 : 0 ≤ x) (hx1 : x < 18446744073709551616) (hn0 : -9223372036854775808 ≤ n) (hn1 : n ≤ 9223372036854775807) (w : World) (hb : Buf w v xs) (hl : xs.length ≤ 140737488355328) :
    Calls Try.prog 58 #[.agg #[v], .int .u64 x, .int .i64 n] w fun e w' => ∃ u, e = .returned (.tuple #[u, .bool (insideV xs.length x n)]) ∧ Buf w' u (bytesV xs x n) ∧ Grew w w' := by
  obtain ⟨a, c, rfl, hc, ha⟩ := hb.shape
  have hlen := bytesV_length xs x n
  generalize hz : bytesV xs x n = zs at *
  have HZ := Lib.hid hz
  have HB := Lib.hid hb
  have hok : AreBytes zs := by
    rw [← hz]; unfold bytesV; split
    · exact hb.ok.cut _ _
    · intro x hx; simp at hx
  have hp : ∀ w', Buf w' (.slice a xs.length c) xs → Calls Try.prog 77 #[.agg #[.slice a xs.length c], .int .u64 x, .int .i64 n] w' fun e w'' => ∃ a' n' c', e = .returned (.tuple #[.slice a' n' c', .bool (insideV xs.length x n)]) ∧ Buf w'' (.slice a' n' c') zs ∧ Grew w' w'' := fun w' h => by
    refine (part_c x n hx0 hx1 hn0 hn1 w' h).mono ?_
    rintro e w'' ⟨a', n', c', rfl, h2, _, g⟩
    exact ⟨a', n', c', rfl, by rw [← HZ.out]; exact h2, g⟩
  generalize insideV xs.length x n = b at *
  have HP := Lib.hid hp
  clear hp hz hb ha hc
  go_enter Try.func58, Try.ntmps58
  go_wp2_with fail
  refine (HP.out _ (takes_box HB.out _ _)).mono ?_
  rintro e w1 ⟨a', n', c', rfl, hb1, g1⟩
  have HB1 := Lib.hid hb1
  clear hb1
  obtain ⟨c1, f1⟩ := gcell g1
  go_wp2_with fail
  refine (copied_c _ HB1.out (by omega)).mono ?_
  rintro e w2 ⟨g, rfl, hr, g2⟩
  go_wp2_with fail
  go_ret2
  exact ⟨_, rfl, hr.buf hok, (((Grew.refl w).alloc _).trans g1).trans g2⟩

/-! ### Read -/
def readV (xs : List Int) (x n : Int) : Int := if sizeV n then getV (bytesV xs x n) false else 0
theorem getV_nil : getV [] false = 0 := by decide
end Go.Proofs.Ytoehdhhodidehaa
