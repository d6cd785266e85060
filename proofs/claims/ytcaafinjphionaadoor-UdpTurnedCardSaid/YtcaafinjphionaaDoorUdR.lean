/-
  The document's own datagrams: small functions.
-/
import Derived.Test.YtcaafinjphionaaDoorUdN
import Derived.Test.YtcaafinjphionaaDoorPutB
set_option maxRecDepth 4000
set_option linter.unusedVariables false
set_option linter.unusedSimpArgs false
namespace Go.Proofs.YtcaafinjphionaaDoor
open Go.RowKit

theorem refPort_c (n : Int) (b : Bool) (hb : portV n = b) (w : World) :
    Calls Tryd.prog 18 #[.int .i64 n] w fun e w' => e = .returned (.bool b) ∧ w' = w := by
  subst hb
  by_cases h1 : 0 ≤ n
  · cases h2 : decide (n ≤ 65535)
    · rw [show portV n = false by unfold portV; simp at h2; exact decide_eq_false (by omega)]
      go_enter Tryd.func18, Tryd.ntmps18
      go_wp2_with fail
      go_ret
      exact ⟨rfl, rfl⟩
    · rw [show portV n = true by unfold portV; simp at h2; exact decide_eq_true (by omega)]
      go_enter Tryd.func18, Tryd.ntmps18
      go_wp2_with fail
      go_ret
      exact ⟨rfl, rfl⟩
  · rw [show portV n = false by unfold portV; exact decide_eq_false (by omega)]
    go_enter Tryd.func18, Tryd.ntmps18
    go_wp2_with fail
    go_ret
    exact ⟨rfl, rfl⟩
theorem refTwo18_c (x : Int) (h0 : 0 ≤ x) (h1 : x ≤ 9223372036854775807) (w : World) :
    Calls Tryd.prog 19 #[.int .i64 x] w fun e w' => ∃ a c, e = .returned (.slice a 2 c) ∧ Row w' w.heap.size (.slice a 2 c) (putL x 2 true) ∧ Buf w' (.slice a 2 c) (putL x 2 true) ∧ Grew w w' := by
  have hw : IntKind.u64.wrap x = x := IntWalk.u64_in x (by omega)
  go_enter Tryd.func19, Tryd.ntmps19
  go_wp2_with fail
  try rw [hw]
  refine (refPutB_c x _ 2 true (by rfl) (by omega) (by omega) (by omega) _).mono ?_
  rintro e w1 ⟨u1, rfl, r1, b1, g1⟩
  obtain ⟨a, c, rfl, _, _⟩ := b1.shape
  rw [putB_len] at b1 r1 ⊢
  have B1 := Lib.hid b1
  have R1 := Lib.hid r1
  clear b1 r1
  go_wp2_with fail
  go_ret
  exact ⟨_, _, rfl, R1.out, B1.out, g1⟩
end Go.Proofs.YtcaafinjphionaaDoor
