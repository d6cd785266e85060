/-
  Contracts: the document's own Expand and Short answer what the program's do.
-/
import Derived.Test.YtchogiglejnlhaaRvcE
import Derived.Test.YtchogiglejnlhaaRvcH
namespace Go.Proofs.Ytchogiglejnlhaa
open Go.RowKit

theorem rexpand (h : Nat) (hh : h < 65536) (w : World) :
    Calls Try.prog 7 #[.int .u16 h] w fun e w' => e = .returned (.tuple #[.int .u32 (expN h : Nat), .bool (okB h)]) ∧ w' = w := by
  rw [chk_eq h hh, chk_ok h hh]
  have hm : h % 4 = 0 ∨ h % 4 = 1 ∨ h % 4 = 2 ∨ h % 4 = 3 := by omega
  rcases hm with hm | hm | hm | hm
  · have r1 : refW h = zV h := by unfold refW; rw [if_pos hm]
    have r2 : refB h = zB h := by unfold refB; rw [if_pos hm]
    rw [r1, r2]
    clear r1 r2
    have hi : ((h : Nat) : Int) % 4 = 0 := by omega
    clear hm
    cases hb : zB h
    all_goals
      go_enter Try.func7, Try.ntmps7
      go_wp2_with ((go_at_call 12; refine (rzero h hh _).mono ?_; rintro e w' ⟨rfl, rfl⟩))
      go_ret2
      exact ⟨rfl, rfl⟩
  · have r1 : refW h = oV h := by unfold refW; rw [if_neg (show ¬ h % 4 = 0 by omega), if_pos hm]
    have r2 : refB h = oB h := by unfold refB; rw [if_neg (show ¬ h % 4 = 0 by omega), if_pos hm]
    rw [r1, r2]
    clear r1 r2
    have hi : ((h : Nat) : Int) % 4 = 1 := by omega
    clear hm
    cases hb : oB h
    all_goals
      go_enter Try.func7, Try.ntmps7
      go_wp2_with ((go_at_call 13; refine (rone h hh _).mono ?_; rintro e w' ⟨rfl, rfl⟩))
      go_ret2
      exact ⟨rfl, rfl⟩
  · have r1 : refW h = tV h := by unfold refW; rw [if_neg (show ¬ h % 4 = 0 by omega), if_neg (show ¬ h % 4 = 1 by omega), if_pos hm]
    have r2 : refB h = tB h := by unfold refB; rw [if_neg (show ¬ h % 4 = 0 by omega), if_neg (show ¬ h % 4 = 1 by omega), if_pos hm]
    rw [r1, r2]
    clear r1 r2
    have hi : ((h : Nat) : Int) % 4 = 2 := by omega
    clear hm
    cases hb : tB h
    all_goals
      go_enter Try.func7, Try.ntmps7
      go_wp2_with ((go_at_call 14; refine (rtwo h hh _).mono ?_; rintro e w' ⟨rfl, rfl⟩))
      go_ret2
      exact ⟨rfl, rfl⟩
  · have r1 : refB h = false := by unfold refB; rw [if_neg (by omega), if_neg (by omega), if_neg (by omega)]
    rw [r1]
    clear r1
    have hi : ((h : Nat) : Int) % 4 = 3 := by omega
    clear hm
    go_enter Try.func7, Try.ntmps7
    go_wp2_with fail
    go_ret2
    exact ⟨rfl, rfl⟩
theorem rshort (h : Nat) (_hh : h < 65536) (w : World) : Calls Try.prog 9 #[.int .u16 h] w fun e w' => e = .returned (.bool (shB h)) ∧ w' = w := by
  rw [shB_eq]
  go_enter Try.func9, Try.ntmps9
  go_wp2_with fail
  go_ret
  exact ⟨ret_bool (by rw [Bool.eq_iff_iff]; simp; omega), rfl⟩
end Go.Proofs.Ytchogiglejnlhaa
