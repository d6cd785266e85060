/-
  The statement SegOrder: that of two unlike numbers just one is ahead, but those 2^31 apart, and that a number some way on is ahead, whatever turns over. For every three numbers. Conditions: none but those of the statement's row.
-/
import Derived.Test.YtiaejlbkdgcfiaaSgH
import Derived.Test.YtiaejlbkdgcfiaaSgW
import Derived.Test.YtiaejlbkdgcfiaaSgQ
import Derived.Test.YtiaejlbkdgcfiaaSgP
import Derived.Test.YtiaejlbkdgcfiaaLaw
set_option maxRecDepth 4000
set_option linter.unusedVariables false
set_option linter.unusedSimpArgs false
namespace Go.Proofs.Ytiaejlbkdgcfiaa.segOrder
open Go.ChangeShapes Go.WideShapes Go.ChangeAt Go.RowKit

set_option maxHeartbeats 1000000 in
theorem walk_0 (hL : LessC) (hD : HeadC) (a b n : Int) (ha : 0 ≤ a ∧ a < 4294967296) (hb : 0 ≤ b ∧ b < 4294967296) (hn : 0 ≤ n ∧ n < 4294967296) (e1 : lessSG a b = true) (e2 : lessSG b a = false) (hne : (a == b) = false) {W : World} :
    Calls Try.prog 5 #[.int .u32 a, .int .u32 b, .int .u32 n] W fun e w' => e = .returned (.bool true) ∧ Below W.heap.size W w' := by
  have hon := less_on (a := a) hn
  have hmv := less_moved a b n
  have hw1 : IntKind.u32.wrap (a + n) = (a + n) % 4294967296 := IntKind.wrap_u32 _
  have hw2 : IntKind.u32.wrap (b + n) = (b + n) % 4294967296 := IntKind.wrap_u32 _
  have hw3 : IntKind.u32.wrap (b - a) = (b - a) % 4294967296 := IntKind.wrap_u32 _
  have h1 : 0 ≤ (a + n) % 4294967296 ∧ (a + n) % 4294967296 < 4294967296 := by omega
  have h2 : 0 ≤ (b + n) % 4294967296 ∧ (b + n) % 4294967296 < 4294967296 := by omega
  have C1 := Lib.hid (fun w => hL a b ha hb w)
  have C2 := Lib.hid (fun w => hL b a hb ha w)
  have C3 := Lib.hid (fun w => hL a ((a + n) % 4294967296) ha h1 w)
  have C4 := Lib.hid (fun w => hL ((a + n) % 4294967296) ((b + n) % 4294967296) h1 h2 w)
  rw [hon] at C3
  rw [hmv, e1] at C4
  rw [e1] at C1
  rw [e2] at C2
  clear hon hmv h1 h2 e1 e2
  generalize (a + n) % 4294967296 = an at *
  generalize (b + n) % 4294967296 = bn at *
  generalize (b - a) % 4294967296 = bd at *
  have E1 : (true == true) = true := by simp
  have hne' : (a != b) = true := by simpa using hne
  by_cases n1 : 1 ≤ n
  · by_cases n2 : n < 2147483648
    · rw [decide_eq_true ⟨n1, n2⟩] at C3
      have d1 : decide (1 ≤ n) = true := decide_eq_true n1
      have d2 : decide (n < 2147483648) = true := decide_eq_true n2
      go_enter Try.func5, Try.ntmps5
      go_wp2_with fail
      refine (C1.out _).mono ?_
      rintro e w1 ⟨rfl, g1⟩
      go_wp2_with fail
      refine (C2.out _).mono ?_
      rintro e w2 ⟨rfl, g2⟩
      go_wp2_with fail
      refine (C3.out _).mono ?_
      rintro e w3 ⟨rfl, g3⟩
      go_wp2_with fail
      refine (C4.out _).mono ?_
      rintro e w4 ⟨rfl, g4⟩
      go_wp2_with fail
      refine (hD (((g1.trans g2).trans g3).trans g4)).mono ?_
      rintro e wh ⟨rfl, gh⟩
      go_wp2_with fail
      go_ret
      exact ⟨rfl, gh⟩
    · rw [decide_eq_false (by omega)] at C3
      have d1 : decide (1 ≤ n) = true := decide_eq_true n1
      have d2 : decide (n < 2147483648) = false := decide_eq_false n2
      go_enter Try.func5, Try.ntmps5
      go_wp2_with fail
      refine (C1.out _).mono ?_
      rintro e w1 ⟨rfl, g1⟩
      go_wp2_with fail
      refine (C2.out _).mono ?_
      rintro e w2 ⟨rfl, g2⟩
      go_wp2_with fail
      refine (C3.out _).mono ?_
      rintro e w3 ⟨rfl, g3⟩
      go_wp2_with fail
      refine (C4.out _).mono ?_
      rintro e w4 ⟨rfl, g4⟩
      go_wp2_with fail
      refine (hD (((g1.trans g2).trans g3).trans g4)).mono ?_
      rintro e wh ⟨rfl, gh⟩
      go_wp2_with fail
      go_ret
      exact ⟨rfl, gh⟩
  · rw [decide_eq_false (by omega)] at C3
    have d1 : decide (1 ≤ n) = false := decide_eq_false n1
    go_enter Try.func5, Try.ntmps5
    go_wp2_with fail
    refine (C1.out _).mono ?_
    rintro e w1 ⟨rfl, g1⟩
    go_wp2_with fail
    refine (C2.out _).mono ?_
    rintro e w2 ⟨rfl, g2⟩
    go_wp2_with fail
    refine (C3.out _).mono ?_
    rintro e w3 ⟨rfl, g3⟩
    go_wp2_with fail
    refine (C4.out _).mono ?_
    rintro e w4 ⟨rfl, g4⟩
    go_wp2_with fail
    refine (hD (((g1.trans g2).trans g3).trans g4)).mono ?_
    rintro e wh ⟨rfl, gh⟩
    go_wp2_with fail
    go_ret
    exact ⟨rfl, gh⟩
set_option maxHeartbeats 1000000 in
theorem walk_1 (hL : LessC) (hD : HeadC) (a b n : Int) (ha : 0 ≤ a ∧ a < 4294967296) (hb : 0 ≤ b ∧ b < 4294967296) (hn : 0 ≤ n ∧ n < 4294967296) (e1 : lessSG a b = false) (e2 : lessSG b a = true) (hne : (a == b) = false) {W : World} :
    Calls Try.prog 5 #[.int .u32 a, .int .u32 b, .int .u32 n] W fun e w' => e = .returned (.bool true) ∧ Below W.heap.size W w' := by
  have hon := less_on (a := a) hn
  have hmv := less_moved a b n
  have hw1 : IntKind.u32.wrap (a + n) = (a + n) % 4294967296 := IntKind.wrap_u32 _
  have hw2 : IntKind.u32.wrap (b + n) = (b + n) % 4294967296 := IntKind.wrap_u32 _
  have hw3 : IntKind.u32.wrap (b - a) = (b - a) % 4294967296 := IntKind.wrap_u32 _
  have h1 : 0 ≤ (a + n) % 4294967296 ∧ (a + n) % 4294967296 < 4294967296 := by omega
  have h2 : 0 ≤ (b + n) % 4294967296 ∧ (b + n) % 4294967296 < 4294967296 := by omega
  have C1 := Lib.hid (fun w => hL a b ha hb w)
  have C2 := Lib.hid (fun w => hL b a hb ha w)
  have C3 := Lib.hid (fun w => hL a ((a + n) % 4294967296) ha h1 w)
  have C4 := Lib.hid (fun w => hL ((a + n) % 4294967296) ((b + n) % 4294967296) h1 h2 w)
  rw [hon] at C3
  rw [hmv, e1] at C4
  rw [e1] at C1
  rw [e2] at C2
  clear hon hmv h1 h2 e1 e2
  generalize (a + n) % 4294967296 = an at *
  generalize (b + n) % 4294967296 = bn at *
  generalize (b - a) % 4294967296 = bd at *
  have E1 : (false == false) = true := by simp
  have hne' : (a != b) = true := by simpa using hne
  by_cases n1 : 1 ≤ n
  · by_cases n2 : n < 2147483648
    · rw [decide_eq_true ⟨n1, n2⟩] at C3
      have d1 : decide (1 ≤ n) = true := decide_eq_true n1
      have d2 : decide (n < 2147483648) = true := decide_eq_true n2
      go_enter Try.func5, Try.ntmps5
      go_wp2_with fail
      refine (C1.out _).mono ?_
      rintro e w1 ⟨rfl, g1⟩
      go_wp2_with fail
      refine (C2.out _).mono ?_
      rintro e w2 ⟨rfl, g2⟩
      go_wp2_with fail
      refine (C3.out _).mono ?_
      rintro e w3 ⟨rfl, g3⟩
      go_wp2_with fail
      refine (C4.out _).mono ?_
      rintro e w4 ⟨rfl, g4⟩
      go_wp2_with fail
      refine (hD (((g1.trans g2).trans g3).trans g4)).mono ?_
      rintro e wh ⟨rfl, gh⟩
      go_wp2_with fail
      go_ret
      exact ⟨rfl, gh⟩
    · rw [decide_eq_false (by omega)] at C3
      have d1 : decide (1 ≤ n) = true := decide_eq_true n1
      have d2 : decide (n < 2147483648) = false := decide_eq_false n2
      go_enter Try.func5, Try.ntmps5
      go_wp2_with fail
      refine (C1.out _).mono ?_
      rintro e w1 ⟨rfl, g1⟩
      go_wp2_with fail
      refine (C2.out _).mono ?_
      rintro e w2 ⟨rfl, g2⟩
      go_wp2_with fail
      refine (C3.out _).mono ?_
      rintro e w3 ⟨rfl, g3⟩
      go_wp2_with fail
      refine (C4.out _).mono ?_
      rintro e w4 ⟨rfl, g4⟩
      go_wp2_with fail
      refine (hD (((g1.trans g2).trans g3).trans g4)).mono ?_
      rintro e wh ⟨rfl, gh⟩
      go_wp2_with fail
      go_ret
      exact ⟨rfl, gh⟩
  · rw [decide_eq_false (by omega)] at C3
    have d1 : decide (1 ≤ n) = false := decide_eq_false n1
    go_enter Try.func5, Try.ntmps5
    go_wp2_with fail
    refine (C1.out _).mono ?_
    rintro e w1 ⟨rfl, g1⟩
    go_wp2_with fail
    refine (C2.out _).mono ?_
    rintro e w2 ⟨rfl, g2⟩
    go_wp2_with fail
    refine (C3.out _).mono ?_
    rintro e w3 ⟨rfl, g3⟩
    go_wp2_with fail
    refine (C4.out _).mono ?_
    rintro e w4 ⟨rfl, g4⟩
    go_wp2_with fail
    refine (hD (((g1.trans g2).trans g3).trans g4)).mono ?_
    rintro e wh ⟨rfl, gh⟩
    go_wp2_with fail
    go_ret
    exact ⟨rfl, gh⟩
set_option maxHeartbeats 1000000 in
theorem walk_2 (hL : LessC) (hD : HeadC) (a b n : Int) (ha : 0 ≤ a ∧ a < 4294967296) (hb : 0 ≤ b ∧ b < 4294967296) (hn : 0 ≤ n ∧ n < 4294967296) (e1 : lessSG a b = false) (e2 : lessSG b a = false) (hne : (a == b) = true) {W : World} :
    Calls Try.prog 5 #[.int .u32 a, .int .u32 b, .int .u32 n] W fun e w' => e = .returned (.bool true) ∧ Below W.heap.size W w' := by
  have hon := less_on (a := a) hn
  have hmv := less_moved a b n
  have hw1 : IntKind.u32.wrap (a + n) = (a + n) % 4294967296 := IntKind.wrap_u32 _
  have hw2 : IntKind.u32.wrap (b + n) = (b + n) % 4294967296 := IntKind.wrap_u32 _
  have hw3 : IntKind.u32.wrap (b - a) = (b - a) % 4294967296 := IntKind.wrap_u32 _
  have h1 : 0 ≤ (a + n) % 4294967296 ∧ (a + n) % 4294967296 < 4294967296 := by omega
  have h2 : 0 ≤ (b + n) % 4294967296 ∧ (b + n) % 4294967296 < 4294967296 := by omega
  have C1 := Lib.hid (fun w => hL a b ha hb w)
  have C2 := Lib.hid (fun w => hL b a hb ha w)
  have C3 := Lib.hid (fun w => hL a ((a + n) % 4294967296) ha h1 w)
  have C4 := Lib.hid (fun w => hL ((a + n) % 4294967296) ((b + n) % 4294967296) h1 h2 w)
  rw [hon] at C3
  rw [hmv, e1] at C4
  rw [e1] at C1
  rw [e2] at C2
  clear hon hmv h1 h2 e1 e2
  generalize (a + n) % 4294967296 = an at *
  generalize (b + n) % 4294967296 = bn at *
  generalize (b - a) % 4294967296 = bd at *
  have E1 : (false == false) = true := by simp
  have hne' : (a != b) = false := by simpa using hne
  by_cases n1 : 1 ≤ n
  · by_cases n2 : n < 2147483648
    · rw [decide_eq_true ⟨n1, n2⟩] at C3
      have d1 : decide (1 ≤ n) = true := decide_eq_true n1
      have d2 : decide (n < 2147483648) = true := decide_eq_true n2
      go_enter Try.func5, Try.ntmps5
      go_wp2_with fail
      refine (C1.out _).mono ?_
      rintro e w1 ⟨rfl, g1⟩
      go_wp2_with fail
      refine (C2.out _).mono ?_
      rintro e w2 ⟨rfl, g2⟩
      go_wp2_with fail
      refine (C3.out _).mono ?_
      rintro e w3 ⟨rfl, g3⟩
      go_wp2_with fail
      refine (C4.out _).mono ?_
      rintro e w4 ⟨rfl, g4⟩
      go_wp2_with fail
      refine (hD (((g1.trans g2).trans g3).trans g4)).mono ?_
      rintro e wh ⟨rfl, gh⟩
      go_wp2_with fail
      go_ret
      exact ⟨rfl, gh⟩
    · rw [decide_eq_false (by omega)] at C3
      have d1 : decide (1 ≤ n) = true := decide_eq_true n1
      have d2 : decide (n < 2147483648) = false := decide_eq_false n2
      go_enter Try.func5, Try.ntmps5
      go_wp2_with fail
      refine (C1.out _).mono ?_
      rintro e w1 ⟨rfl, g1⟩
      go_wp2_with fail
      refine (C2.out _).mono ?_
      rintro e w2 ⟨rfl, g2⟩
      go_wp2_with fail
      refine (C3.out _).mono ?_
      rintro e w3 ⟨rfl, g3⟩
      go_wp2_with fail
      refine (C4.out _).mono ?_
      rintro e w4 ⟨rfl, g4⟩
      go_wp2_with fail
      refine (hD (((g1.trans g2).trans g3).trans g4)).mono ?_
      rintro e wh ⟨rfl, gh⟩
      go_wp2_with fail
      go_ret
      exact ⟨rfl, gh⟩
  · rw [decide_eq_false (by omega)] at C3
    have d1 : decide (1 ≤ n) = false := decide_eq_false n1
    go_enter Try.func5, Try.ntmps5
    go_wp2_with fail
    refine (C1.out _).mono ?_
    rintro e w1 ⟨rfl, g1⟩
    go_wp2_with fail
    refine (C2.out _).mono ?_
    rintro e w2 ⟨rfl, g2⟩
    go_wp2_with fail
    refine (C3.out _).mono ?_
    rintro e w3 ⟨rfl, g3⟩
    go_wp2_with fail
    refine (C4.out _).mono ?_
    rintro e w4 ⟨rfl, g4⟩
    go_wp2_with fail
    refine (hD (((g1.trans g2).trans g3).trans g4)).mono ?_
    rintro e wh ⟨rfl, gh⟩
    go_wp2_with fail
    go_ret
    exact ⟨rfl, gh⟩
set_option maxHeartbeats 1000000 in
theorem walk_3 (hL : LessC) (hD : HeadC) (a b n : Int) (ha : 0 ≤ a ∧ a < 4294967296) (hb : 0 ≤ b ∧ b < 4294967296) (hn : 0 ≤ n ∧ n < 4294967296) (e1 : lessSG a b = false) (e2 : lessSG b a = false) (hne : (a == b) = false) (hd31 : (b - a) % 4294967296 = 2147483648) {W : World} :
    Calls Try.prog 5 #[.int .u32 a, .int .u32 b, .int .u32 n] W fun e w' => e = .returned (.bool true) ∧ Below W.heap.size W w' := by
  have hon := less_on (a := a) hn
  have hmv := less_moved a b n
  have hw1 : IntKind.u32.wrap (a + n) = (a + n) % 4294967296 := IntKind.wrap_u32 _
  have hw2 : IntKind.u32.wrap (b + n) = (b + n) % 4294967296 := IntKind.wrap_u32 _
  have hw3 : IntKind.u32.wrap (b - a) = (b - a) % 4294967296 := IntKind.wrap_u32 _
  have h1 : 0 ≤ (a + n) % 4294967296 ∧ (a + n) % 4294967296 < 4294967296 := by omega
  have h2 : 0 ≤ (b + n) % 4294967296 ∧ (b + n) % 4294967296 < 4294967296 := by omega
  have C1 := Lib.hid (fun w => hL a b ha hb w)
  have C2 := Lib.hid (fun w => hL b a hb ha w)
  have C3 := Lib.hid (fun w => hL a ((a + n) % 4294967296) ha h1 w)
  have C4 := Lib.hid (fun w => hL ((a + n) % 4294967296) ((b + n) % 4294967296) h1 h2 w)
  rw [hon] at C3
  rw [hmv, e1] at C4
  rw [e1] at C1
  rw [e2] at C2
  clear hon hmv h1 h2 e1 e2
  generalize (a + n) % 4294967296 = an at *
  generalize (b + n) % 4294967296 = bn at *
  rw [hd31] at hw3
  have E1 : (false == false) = true := by simp
  have hne' : (a != b) = true := by simpa using hne
  clear hd31
  by_cases n1 : 1 ≤ n
  · by_cases n2 : n < 2147483648
    · rw [decide_eq_true ⟨n1, n2⟩] at C3
      have d1 : decide (1 ≤ n) = true := decide_eq_true n1
      have d2 : decide (n < 2147483648) = true := decide_eq_true n2
      go_enter Try.func5, Try.ntmps5
      go_wp2_with fail
      refine (C1.out _).mono ?_
      rintro e w1 ⟨rfl, g1⟩
      go_wp2_with fail
      refine (C2.out _).mono ?_
      rintro e w2 ⟨rfl, g2⟩
      go_wp2_with fail
      refine (C3.out _).mono ?_
      rintro e w3 ⟨rfl, g3⟩
      go_wp2_with fail
      refine (C4.out _).mono ?_
      rintro e w4 ⟨rfl, g4⟩
      go_wp2_with fail
      refine (hD (((g1.trans g2).trans g3).trans g4)).mono ?_
      rintro e wh ⟨rfl, gh⟩
      go_wp2_with fail
      go_ret
      exact ⟨rfl, gh⟩
    · rw [decide_eq_false (by omega)] at C3
      have d1 : decide (1 ≤ n) = true := decide_eq_true n1
      have d2 : decide (n < 2147483648) = false := decide_eq_false n2
      go_enter Try.func5, Try.ntmps5
      go_wp2_with fail
      refine (C1.out _).mono ?_
      rintro e w1 ⟨rfl, g1⟩
      go_wp2_with fail
      refine (C2.out _).mono ?_
      rintro e w2 ⟨rfl, g2⟩
      go_wp2_with fail
      refine (C3.out _).mono ?_
      rintro e w3 ⟨rfl, g3⟩
      go_wp2_with fail
      refine (C4.out _).mono ?_
      rintro e w4 ⟨rfl, g4⟩
      go_wp2_with fail
      refine (hD (((g1.trans g2).trans g3).trans g4)).mono ?_
      rintro e wh ⟨rfl, gh⟩
      go_wp2_with fail
      go_ret
      exact ⟨rfl, gh⟩
  · rw [decide_eq_false (by omega)] at C3
    have d1 : decide (1 ≤ n) = false := decide_eq_false n1
    go_enter Try.func5, Try.ntmps5
    go_wp2_with fail
    refine (C1.out _).mono ?_
    rintro e w1 ⟨rfl, g1⟩
    go_wp2_with fail
    refine (C2.out _).mono ?_
    rintro e w2 ⟨rfl, g2⟩
    go_wp2_with fail
    refine (C3.out _).mono ?_
    rintro e w3 ⟨rfl, g3⟩
    go_wp2_with fail
    refine (C4.out _).mono ?_
    rintro e w4 ⟨rfl, g4⟩
    go_wp2_with fail
    refine (hD (((g1.trans g2).trans g3).trans g4)).mono ?_
    rintro e wh ⟨rfl, gh⟩
    go_wp2_with fail
    go_ret
    exact ⟨rfl, gh⟩
theorem walk0 (_hP : PutC) (_hG : GetC) (hL : LessC) (_hN : LenC) (hD : HeadC) (a : Int) (ha : 0 ≤ a ∧ a < 4294967296) (b : Int) (hb : 0 ≤ b ∧ b < 4294967296) (n : Int) (hn : 0 ≤ n ∧ n < 4294967296) {W : World} :
    Calls Try.prog 5 #[.int .u32 a, .int .u32 b, .int .u32 n] W fun e w' => e = .returned (.bool true) ∧ Below W.heap.size W w' := by
  obtain ⟨k1, k2, k3⟩ := less_or ha hb
  cases e1 : lessSG a b <;> cases e2 : lessSG b a
  · by_cases h : a = b
    · exact walk_2 hL hD a b n ha hb hn e1 e2 (by simpa using h)
    · exact walk_3 hL hD a b n ha hb hn e1 e2 (by simpa using h) (k2 e1 e2 h)
  · have h : a ≠ b := fun h => by subst h; rw [k3 rfl] at e2; simp at e2
    exact walk_1 hL hD a b n ha hb hn e1 e2 (by simpa using h)
  · have h : a ≠ b := fun h => by rw [k3 h] at e1; simp at e1
    exact walk_0 hL hD a b n ha hb hn e1 e2 (by simpa using h)
  · rw [e1, e2] at k1; simp at k1
theorem walk (a : Int) (ha : 0 ≤ a ∧ a < 4294967296) (b : Int) (hb : 0 ≤ b ∧ b < 4294967296) (n : Int) (hn : 0 ≤ n ∧ n < 4294967296) (W : World) :
    Calls Try.prog 5 #[.int .u32 a, .int .u32 b, .int .u32 n] W fun e w' => e = .returned (.bool true) ∧ Below W.heap.size W w' :=
  walk0 put19_c get19_c less19_c len19_c heads_c a ha b hb n hn
set_option maxRecDepth 100000 in
theorem lifted (os : Os) (started : os.Started) (H : Type) (enc : TypeId × Value → H) :
    ReturnsInHanded {} Try.checked os 5 .any (Rows.segOrderSpec.pre6 enc Try.prog Try.f5 Rows.segOrderRow.domain false) (Rows.segOrderSpec.post enc Try.prog Try.f5 false true false false) := by
  refine returnsInHanded_of_change (C := Try.checked) own started (by kernel_rfl) Try.func5
    (ChangeSpec.witness6 (enc := enc) (C := Try.checked) false ⟨#[], #[.int .u32 0, .int .u32 0, .int .u32 0], []⟩ 8 (by kernel_rfl) (by kernel_rfl) (by kernel_rfl) (by kernel_rfl)) ?_
  intro W base args ds gs before hval0 hW _ _
  have hval : ∀ (j : Nat) t v, Try.f5.params[j]? = some t → args[j]? = some v → Value.okWide Try.prog W .any base t v := hval0
  have hW' := hW
  obtain ⟨p, q, hA0, hV, rfl, hfz, hnd⟩ := hW
  have hA : DataW.TrodAll enc Try.prog W 0 (fun _ => true) true Try.f5.params.toList args.toList ds p := hA0
  rw [Try.params5] at hA hval
  obtain ⟨v0, vs0, d0, ds0, p0, q0, hargs, rfl, rfl, h0, r'0⟩ := trodAll_cons hA
  obtain ⟨v1, vs1, d1, ds1, p1, q1, rfl, rfl, rfl, h1, r'1⟩ := trodAll_cons r'0
  obtain ⟨v2, vs2, d2, ds2, p2, q2, rfl, rfl, rfl, h2, r'2⟩ := trodAll_cons r'1
  obtain ⟨rfl, rfl, rfl⟩ := trodAll_nil r'2
  obtain rfl : args = #[v0, v1, v2] := by cases args; simp_all
  obtain ⟨a0, rfl, rfl, rfl, w0⟩ := open_int Try.underlying22 (hval 0 22 v0 rfl rfl) h0
  obtain ⟨a1, rfl, rfl, rfl, w1⟩ := open_int Try.underlying22 (hval 1 22 v1 rfl rfl) h1
  obtain ⟨a2, rfl, rfl, rfl, w2⟩ := open_int Try.underlying22 (hval 2 22 v2 rfl rfl) h2
  refine (walk a0 (wf_u32 w0) a1 (wf_u32 w1) a2 (wf_u32 w2) W).mono fun e W' ⟨he, hb⟩ => ?_
  subst he
  exact ⟨_, rfl, law_post hW' rfl rfl laid (by kernel_rfl) rfl Try.underlying4 hb⟩

theorem over : Rows.segOrderRow.holds Try.pinned (OpenSpec.ofChange Rows.segOrderSpec) :=
  OpenClaim.holds_of_wide 5 Try.f5 rfl rfl rfl rfl rfl rfl rfl ⟨rfl, rfl, rfl, rfl, rfl⟩ rfl rfl rfl rfl rfl (by kernel_rfl) Try.func5 (by kernel_rfl)
    (of_decide_eq_true (by kernel_rfl)) (by unfold Func.isWrapper; first | (rw [if_pos (by decide +kernel)]; kernel_rfl) | (rw [if_neg (by decide +kernel)]; exact ⟨rfl, rfl⟩))
    (fun os started H enc _ => lifted os started H enc)

theorem proved : Rows.SegOrderSaid := over
#print axioms proved
end Go.Proofs.Ytiaejlbkdgcfiaa.segOrder
