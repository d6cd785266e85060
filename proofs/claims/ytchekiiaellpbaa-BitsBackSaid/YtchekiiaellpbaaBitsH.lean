/-
  What must come at any rate ('heads' of the statements about package bits): true.
-/
import Derived.Test.YtchekiiaellpbaaRows
import Derived.Test.YtchekiiaellpbaaBitsC
import Derived.WalkKit
import Derived.Outline
import Derived.Deep.QuietTactic
import Derived.BigQuiet
namespace Go.Proofs.Ytchekiiaellpbaa
open Go.RowKit

theorem below_drewN {B : Nat} {a w : World} (h : Below B a w) (n : Nat) : Below B a (w.drewN n) := ⟨h.os, h.tape, h.output, h.size, h.block⟩
theorem sext_h : sextV 4095 12 = 18446744073709551615 := by decide
theorem field_h : fieldV 43981 11 4 = 188 := by decide
theorem put_h : putL 258 2 true = [1, 2] := by decide
theorem get_h : getV [1, 2] false = 513 := by decide
theorem align_h1 : alignV 8 4 = true := by decide
theorem align_h2 : alignV 8 3 = false := by decide
theorem AreBytes.lit12 : AreBytes [1, 2] := by intro x hx; simp at hx; omega
theorem row12 (w : World) (g : Nat) (hg : g = w.heap.size) : BytesIn (w.alloc (.cells #[.int .u8 1, .int .u8 2] 5)) (.slice (some ⟨g, 0, none⟩) 2 2) [1, 2] := by
  subst hg
  exact BytesIn.of_own (base := w.heap.size) (e := 5) (n := 2) (World.ownsRow_lit w #[.int .u8 1, .int .u8 2] 2 (Nat.le_refl _) (by unfold maxLen; omega) rfl)

set_option maxHeartbeats 1000000 in
theorem heads_c (w : World) : Calls Try.prog 9 #[] w fun e w' => e = .returned (.bool true) ∧ Below w.heap.size w w' := by
  go_enter Try.func9, Try.ntmps9
  go_wp2_with fail
  refine (sext_c 4095 12 (by omega) (by omega) _).mono ?_
  rintro e w' ⟨rfl, rfl⟩
  rw [sext_h]
  go_wp2_with fail
  refine (field_c 43981 11 4 (by omega) (by omega) _).mono ?_
  rintro e w1 ⟨rfl, n1, rfl⟩
  rw [field_h]
  go_wp2_with fail
  refine (put_new 258 2 true (by omega) (by omega) _).mono ?_
  rintro e w2 ⟨v, rfl, hn⟩
  rw [show (max 0 (min (2 : Int) 8)).toNat = 2 by decide, put_h] at hn
  have HN := Lib.hid hn
  clear hn
  go_wp2_with fail
  refine (same_c _ (HN.out.alloc _).bytes (row12 _ _ (by simp))).mono ?_
  rintro e w3 ⟨rfl, rfl⟩
  go_wp2_with fail
  refine (get_c false AreBytes.lit12 (by simp) _ (row12 _ _ (by simp))).mono ?_
  rintro e w4 ⟨rfl, rfl⟩
  rw [get_h]
  go_wp2_with fail
  refine (align_c 8 4 (by omega) (by omega) _).mono ?_
  rintro e w5 ⟨rfl, rfl⟩
  rw [align_h1]
  go_wp2_with fail
  refine (align_c 8 3 (by omega) (by omega) _).mono ?_
  rintro e w6 ⟨rfl, rfl⟩
  rw [align_h2]
  go_wp2_with fail
  go_ret
  have hb : Below w'.heap.size w' w2 := (below_drewN (Below.refl _ w') n1).trans HN.out.below
  exact ⟨rfl, (hb.alloc hb.size _).alloc (by have := hb.size; simp; omega) _⟩
end Go.Proofs.Ytchekiiaellpbaa
