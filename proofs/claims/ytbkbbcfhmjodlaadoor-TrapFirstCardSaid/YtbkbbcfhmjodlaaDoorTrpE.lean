/-
  Package trap: to whom a trap goes.
-/
import Derived.Test.YtbkbbcfhmjodlaaDoorTrpD
set_option linter.unusedVariables false
set_option linter.unusedSimpArgs false
namespace Go.Proofs.YtbkbbcfhmjodlaaDoor
open Go.RowKit

set_option maxRecDepth 100000 in
set_option maxHeartbeats 2000000 in
/-- Whether a trap goes to the Supervisor: dl the register of delegation, k the cause. -/
theorem delegated_c (c : Nat → Int) (p cause : Int) (irq : Bool) (dl k : Nat) (hd : dl < 2 ^ 64) (cd : delV c irq = (dl : Int)) (hk : IntKind.u64.wrap cause = (k : Int)) (hk1 : k < 2 ^ 64) (low b : Bool) (p1 : decide (p ≤ 1) = low) (pb : (((bitN dl (k % 64) : Nat) : Int) == 1) = b) {W w : World} (hg : Grew W w) :
    Calls Tryd.prog 22 #[csV c, .int .i64 p, .int .i64 cause, .bool irq] w fun e w' => e = .returned (.bool (low && b)) ∧ Grew W w' := by
  have hm : (k : Int) % 64 = ((k % 64 : Nat) : Int) := by omega
  have hml : ((k % 64 : Nat) : Int) < 64 := by omega
  have k1 : (k : Int) < 18446744073709551616 := by omega
  have d1 : (dl : Int) < 18446744073709551616 := by omega
  have E := and_one dl (k % 64) hd
  clear hd hk1
  cases irq <;> cases low
  all_goals
    simp only [delV, if_true, Bool.false_eq_true, if_false] at cd
    go_enter Tryd.func22, Tryd.ntmps22
    go_upto_region 1 with fail
    have g1 := hg.alloc (.cells (csA c) 24)
    have kb := Blk.new w (csA c) 24 _ rfl
    generalize w.alloc (.cells (csA c) 24) = w1 at *
    have y1 : w1.cell? ⟨w.heap.size, 1, none⟩ = some (.int .u64 (c 1)) := by rw [kb.cell, csA_1]
    have y2 : w1.cell? ⟨w.heap.size, 2, none⟩ = some (.int .u64 (c 2)) := by rw [kb.cell, csA_2]
    rw [cd] at *
    go_upto_region 5 with fail
    rw [hm]
    generalize k % 64 = m at *
    clear y1 y2 kb hk hm
    go_wp2
    go_ret
    exact ⟨rfl, g1⟩
end Go.Proofs.YtbkbbcfhmjodlaaDoor
