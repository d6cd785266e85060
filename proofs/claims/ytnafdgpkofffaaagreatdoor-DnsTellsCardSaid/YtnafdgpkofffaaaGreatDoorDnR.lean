/-
  The document's own questions for names: small functions.
-/
import Derived.Test.YtnafdgpkofffaaaGreatDoorDnN
import Derived.Test.YtnafdgpkofffaaaGreatDoorPutB
import Derived.LoopTactic
import Derived.OwnWalk
set_option maxRecDepth 4000
set_option linter.unusedVariables false
set_option linter.unusedSimpArgs false
namespace Go.Proofs.YtnafdgpkofffaaaGreatDoor
open Go.RowKit

theorem letter_up (c : Int) (h1 : 65 ≤ c) (h2 : c ≤ 90) (w : World) :
    Calls Tryz.prog 45 #[.int .u8 c] w fun e w' => e = .returned (.tuple #[.int .u8 (c + 32), .bool true]) ∧ w' = w := by
  have ew : (c + 32) % 256 = c + 32 := by omega
  have d90 : decide (c ≤ 90) = true := decide_eq_true (by omega)
  have d122 : decide (c ≤ 122) = true := decide_eq_true (by omega)
  have d57 : decide (c ≤ 57) = false := decide_eq_false (by omega)
  have g65 : decide (65 ≤ c) = true := decide_eq_true (by omega)
  have g97 : decide (97 ≤ c) = false := decide_eq_false (by omega)
  have g48 : decide (48 ≤ c) = true := decide_eq_true (by omega)
  go_enter Tryz.func45, Tryz.ntmps45
  go_wp2_with fail
  go_ret2
  exact ⟨by first | rfl | (rw [ew]), rfl⟩
theorem letter_lo (c : Int) (h1 : 97 ≤ c) (h2 : c ≤ 122) (w : World) :
    Calls Tryz.prog 45 #[.int .u8 c] w fun e w' => e = .returned (.tuple #[.int .u8 (c), .bool true]) ∧ w' = w := by
  have hne : (c == 45) = false := by rw [beq_eq_false_iff_ne]; omega
  have hnu : (c == 95) = false := by rw [beq_eq_false_iff_ne]; omega
  have d90 : decide (c ≤ 90) = false := decide_eq_false (by omega)
  have d122 : decide (c ≤ 122) = true := decide_eq_true (by omega)
  have d57 : decide (c ≤ 57) = false := decide_eq_false (by omega)
  have g65 : decide (65 ≤ c) = true := decide_eq_true (by omega)
  have g97 : decide (97 ≤ c) = true := decide_eq_true (by omega)
  have g48 : decide (48 ≤ c) = true := decide_eq_true (by omega)
  go_enter Tryz.func45, Tryz.ntmps45
  go_wp2_with fail
  go_ret2
  exact ⟨by first | rfl | (rw [ew]), rfl⟩
theorem letter_no1 (c : Int) (h1 : 122 < c) (h2 : c < 256) (w : World) :
    Calls Tryz.prog 45 #[.int .u8 c] w fun e w' => e = .returned (.tuple #[.int .u8 (c), .bool false]) ∧ w' = w := by
  have hne : (c == 45) = false := by rw [beq_eq_false_iff_ne]; omega
  have hnu : (c == 95) = false := by rw [beq_eq_false_iff_ne]; omega
  have d90 : decide (c ≤ 90) = false := decide_eq_false (by omega)
  have d122 : decide (c ≤ 122) = false := decide_eq_false (by omega)
  have d57 : decide (c ≤ 57) = false := decide_eq_false (by omega)
  have g65 : decide (65 ≤ c) = true := decide_eq_true (by omega)
  have g97 : decide (97 ≤ c) = true := decide_eq_true (by omega)
  have g48 : decide (48 ≤ c) = true := decide_eq_true (by omega)
  go_enter Tryz.func45, Tryz.ntmps45
  go_wp2_with fail
  go_ret2
  exact ⟨by first | rfl | (rw [ew]), rfl⟩
theorem letter_dig (c : Int) (h1 : 48 ≤ c) (h2 : c ≤ 57) (w : World) :
    Calls Tryz.prog 45 #[.int .u8 c] w fun e w' => e = .returned (.tuple #[.int .u8 (c), .bool true]) ∧ w' = w := by
  have hne : (c == 45) = false := by rw [beq_eq_false_iff_ne]; omega
  have hnu : (c == 95) = false := by rw [beq_eq_false_iff_ne]; omega
  have d90 : decide (c ≤ 90) = true := decide_eq_true (by omega)
  have d122 : decide (c ≤ 122) = true := decide_eq_true (by omega)
  have d57 : decide (c ≤ 57) = true := decide_eq_true (by omega)
  have g65 : decide (65 ≤ c) = false := decide_eq_false (by omega)
  have g97 : decide (97 ≤ c) = false := decide_eq_false (by omega)
  have g48 : decide (48 ≤ c) = true := decide_eq_true (by omega)
  go_enter Tryz.func45, Tryz.ntmps45
  go_wp2_with fail
  go_ret2
  exact ⟨by first | rfl | (rw [ew]), rfl⟩
theorem letter_no2 (c : Int) (h1 : 57 < c) (h2 : c < 65) (w : World) :
    Calls Tryz.prog 45 #[.int .u8 c] w fun e w' => e = .returned (.tuple #[.int .u8 (c), .bool false]) ∧ w' = w := by
  have hne : (c == 45) = false := by rw [beq_eq_false_iff_ne]; omega
  have hnu : (c == 95) = false := by rw [beq_eq_false_iff_ne]; omega
  have d90 : decide (c ≤ 90) = true := decide_eq_true (by omega)
  have d122 : decide (c ≤ 122) = true := decide_eq_true (by omega)
  have d57 : decide (c ≤ 57) = false := decide_eq_false (by omega)
  have g65 : decide (65 ≤ c) = false := decide_eq_false (by omega)
  have g97 : decide (97 ≤ c) = false := decide_eq_false (by omega)
  have g48 : decide (48 ≤ c) = true := decide_eq_true (by omega)
  go_enter Tryz.func45, Tryz.ntmps45
  go_wp2_with fail
  go_ret2
  exact ⟨by first | rfl | (rw [ew]), rfl⟩
theorem letter_no4 (c : Int) (h1 : 0 ≤ c) (h2 : c < 45) (w : World) :
    Calls Tryz.prog 45 #[.int .u8 c] w fun e w' => e = .returned (.tuple #[.int .u8 (c), .bool false]) ∧ w' = w := by
  have hne : (c == 45) = false := by rw [beq_eq_false_iff_ne]; omega
  have hnu : (c == 95) = false := by rw [beq_eq_false_iff_ne]; omega
  have d90 : decide (c ≤ 90) = true := decide_eq_true (by omega)
  have d122 : decide (c ≤ 122) = true := decide_eq_true (by omega)
  have d57 : decide (c ≤ 57) = true := decide_eq_true (by omega)
  have g65 : decide (65 ≤ c) = false := decide_eq_false (by omega)
  have g97 : decide (97 ≤ c) = false := decide_eq_false (by omega)
  have g48 : decide (48 ≤ c) = false := decide_eq_false (by omega)
  go_enter Tryz.func45, Tryz.ntmps45
  go_wp2_with fail
  go_ret2
  exact ⟨by first | rfl | (rw [ew]), rfl⟩
theorem letter_no5 (c : Int) (h1 : 46 ≤ c) (h2 : c < 48) (w : World) :
    Calls Tryz.prog 45 #[.int .u8 c] w fun e w' => e = .returned (.tuple #[.int .u8 (c), .bool false]) ∧ w' = w := by
  have hne : (c == 45) = false := by rw [beq_eq_false_iff_ne]; omega
  have hnu : (c == 95) = false := by rw [beq_eq_false_iff_ne]; omega
  have d90 : decide (c ≤ 90) = true := decide_eq_true (by omega)
  have d122 : decide (c ≤ 122) = true := decide_eq_true (by omega)
  have d57 : decide (c ≤ 57) = true := decide_eq_true (by omega)
  have g65 : decide (65 ≤ c) = false := decide_eq_false (by omega)
  have g97 : decide (97 ≤ c) = false := decide_eq_false (by omega)
  have g48 : decide (48 ≤ c) = false := decide_eq_false (by omega)
  go_enter Tryz.func45, Tryz.ntmps45
  go_wp2_with fail
  go_ret2
  exact ⟨by first | rfl | (rw [ew]), rfl⟩
theorem letter_no6 (c : Int) (h1 : 91 ≤ c) (h2 : c < 95) (w : World) :
    Calls Tryz.prog 45 #[.int .u8 c] w fun e w' => e = .returned (.tuple #[.int .u8 (c), .bool false]) ∧ w' = w := by
  have hne : (c == 45) = false := by rw [beq_eq_false_iff_ne]; omega
  have hnu : (c == 95) = false := by rw [beq_eq_false_iff_ne]; omega
  have d90 : decide (c ≤ 90) = false := decide_eq_false (by omega)
  have d122 : decide (c ≤ 122) = true := decide_eq_true (by omega)
  have d57 : decide (c ≤ 57) = false := decide_eq_false (by omega)
  have g65 : decide (65 ≤ c) = true := decide_eq_true (by omega)
  have g97 : decide (97 ≤ c) = false := decide_eq_false (by omega)
  have g48 : decide (48 ≤ c) = true := decide_eq_true (by omega)
  go_enter Tryz.func45, Tryz.ntmps45
  go_wp2_with fail
  go_ret2
  exact ⟨by first | rfl | (rw [ew]), rfl⟩
theorem letter_dash (w : World) :
    Calls Tryz.prog 45 #[.int .u8 45] w fun e w' => e = .returned (.tuple #[.int .u8 45, .bool true]) ∧ w' = w := by
  go_enter Tryz.func45, Tryz.ntmps45
  go_wp2_with fail
  go_ret2
  exact ⟨rfl, rfl⟩
theorem letter_und (w : World) :
    Calls Tryz.prog 45 #[.int .u8 95] w fun e w' => e = .returned (.tuple #[.int .u8 95, .bool true]) ∧ w' = w := by
  go_enter Tryz.func45, Tryz.ntmps45
  go_wp2_with fail
  go_ret2
  exact ⟨rfl, rfl⟩
theorem letter_grv (w : World) :
    Calls Tryz.prog 45 #[.int .u8 96] w fun e w' => e = .returned (.tuple #[.int .u8 96, .bool false]) ∧ w' = w := by
  go_enter Tryz.func45, Tryz.ntmps45
  go_wp2_with fail
  go_ret2
  exact ⟨rfl, rfl⟩
theorem letter_c (c : Int) (h : 0 ≤ c ∧ c < 256) (w : World) :
    Calls Tryz.prog 45 #[.int .u8 c] w fun e w' => e = .returned (.tuple #[.int .u8 (letV c).1, .bool (letV c).2]) ∧ w' = w := by
  unfold letV
  by_cases a : 65 ≤ c ∧ c ≤ 90
  · rw [if_pos a]; exact letter_up c a.1 a.2 w
  · rw [if_neg a]
    by_cases b : 97 ≤ c ∧ c ≤ 122
    · rw [show decide ((97 ≤ c ∧ c ≤ 122) ∨ (48 ≤ c ∧ c ≤ 57) ∨ c = 45 ∨ c = 95) = true from decide_eq_true (.inl b)]; exact letter_lo c b.1 b.2 w
    · by_cases d : 48 ≤ c ∧ c ≤ 57
      · rw [show decide ((97 ≤ c ∧ c ≤ 122) ∨ (48 ≤ c ∧ c ≤ 57) ∨ c = 45 ∨ c = 95) = true from decide_eq_true (.inr (.inl d))]; exact letter_dig c d.1 d.2 w
      · by_cases e1 : c = 45
        · subst e1; exact letter_dash w
        · by_cases e2 : c = 95
          · subst e2; exact letter_und w
          · rw [show decide ((97 ≤ c ∧ c ≤ 122) ∨ (48 ≤ c ∧ c ≤ 57) ∨ c = 45 ∨ c = 95) = false from decide_eq_false (by omega)]
            by_cases f1 : 122 < c
            · exact letter_no1 c f1 h.2 w
            · by_cases f2 : c = 96
              · subst f2; exact letter_grv w
              · by_cases f3 : 91 ≤ c
                · exact letter_no6 c f3 (by omega) w
                · by_cases f4 : 57 < c
                  · exact letter_no2 c f4 (by omega) w
                  · by_cases f5 : c < 45
                    · exact letter_no4 c h.1 f5 w
                    · exact letter_no5 c (by omega) (by omega) w
theorem putL_two21 (x : Int) : putL x 2 true = [x / 256 % 256, x % 256] := by
  simp [putL, placeV, byteV, List.range_succ]
theorem putL_wrap21 (x : Int) : putL (x % 18446744073709551616) 2 true = putL x 2 true := by
  rw [putL_two21, putL_two21, show x % 18446744073709551616 / 256 % 256 = x / 256 % 256 by omega, show x % 18446744073709551616 % 256 = x % 256 by omega]
theorem refTwo21_c (x : Int) (w : World) :
    Calls Tryz.prog 30 #[.int .i64 x] w fun e w' => ∃ a c, e = .returned (.slice a 2 c) ∧ Row w' w.heap.size (.slice a 2 c) (putL x 2 true) ∧ Buf w' (.slice a 2 c) (putL x 2 true) ∧ Grew w w' := by
  rw [← putL_wrap21]
  have hw : IntKind.u64.wrap x = x % 18446744073709551616 := by rw [wrap_u64]
  have hy : 0 ≤ x % 18446744073709551616 ∧ x % 18446744073709551616 < 18446744073709551616 := by omega
  generalize x % 18446744073709551616 = y at *
  go_enter Tryz.func30, Tryz.ntmps30
  go_wp2_with fail
  try rw [hw]
  refine (refPutB_c y _ 2 true (by rfl) (by omega) hy.1 hy.2 _).mono ?_
  rintro e w1 ⟨u1, rfl, r1, b1, g1⟩
  obtain ⟨a, c, rfl, _, _⟩ := b1.shape
  rw [putB_len] at b1 r1 ⊢
  have B1 := Lib.hid b1
  have R1 := Lib.hid r1
  clear b1 r1 hw
  go_wp2_with fail
  go_ret
  exact ⟨_, _, rfl, R1.out, B1.out, g1⟩
theorem refNum21_c {v : Value} {xs : List Int} (h2 : xs.length = 2) {w : World} (hb : Buf w v xs) :
    Calls Tryz.prog 33 #[v] w fun e w' => e = .returned (.int .i64 (getV xs true)) ∧ w' = w := by
  have HB := Lib.hid (refGet_c true hb.ok (by omega) w hb.bytes)
  have hg := getG_lt hb.ok true h2 (by omega)
  rw [show (2 : Int) ^ (8 * 2) = 65536 by decide] at hg
  clear hb
  generalize getV xs true = z at *
  have ew : IntKind.i64.wrap z = z := IntWalk.i64_in _ (by omega)
  go_enter Tryz.func33, Tryz.ntmps33
  go_wp2_with fail
  refine HB.out.mono ?_
  rintro e w1 ⟨rfl, h1⟩
  obtain rfl := h1.symm
  go_wp2_with fail
  go_ret
  exact ⟨by first | rfl | (rw [ew]), rfl⟩
end Go.Proofs.YtnafdgpkofffaaaGreatDoor
