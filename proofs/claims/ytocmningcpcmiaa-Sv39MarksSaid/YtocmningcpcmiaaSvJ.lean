/-
  Contracts of package sv39: entries, what is left of an address, Fault.
-/
import Derived.Test.YtocmningcpcmiaaRows
import Derived.Test.YtocmningcpcmiaaBitsA
import Derived.Test.YtocmningcpcmiaaGrew
import Derived.Test.YtocmningcpcmiaaSvA
import Derived.WalkKit
import Derived.Outline
import Derived.Handy
import Derived.Deep.QuietTactic
import Derived.BigQuiet
set_option linter.unusedVariables false
set_option linter.unusedSimpArgs false
namespace Go.Proofs.Ytocmningcpcmiaa
open Go.RowKit

/-! ### Plain numbers -/
theorem bit_two (x b : Int) : fieldV x b b = 0 ∨ fieldV x b b = 1 := by
  unfold fieldV
  split
  · rw [show (b - b + 1).toNat = 1 by omega, show (2 : Int) ^ 1 = 2 by decide]; omega
  · exact .inl rfl
theorem badE_eq (x : Int) : badE x = (!(fieldV x 0 0 == 1) || (fieldV x 2 2 == 1 && !(fieldV x 1 1 == 1)) || !(fieldV x 63 54 == 0)) := by
  have h21 : fieldV x 2 1 = 2 * fieldV x 2 2 + fieldV x 1 1 := by
    unfold fieldV
    rw [if_pos (by omega), if_pos (by omega), if_pos (by omega)]
    simp only [show (2 : Int).toNat = 2 by decide, show (1 : Int).toNat = 1 by decide, show ((2 : Int) - 1 + 1).toNat = 2 by decide, show ((2 : Int) - 2 + 1).toNat = 1 by decide, show ((1 : Int) - 1 + 1).toNat = 1 by decide]
    omega
  unfold badE
  rw [h21]
  have h0 := bit_two x 0
  have h1 := bit_two x 1
  have h2 := bit_two x 2
  rcases h0 with h0 | h0 <;> rcases h1 with h1 | h1 <;> rcases h2 with h2 | h2 <;> rw [h0, h1, h2] <;> rfl
theorem noneE_eq (x : Int) : noneE x = (fieldV x 4 4 == 1 || fieldV x 6 6 == 1 || fieldV x 7 7 == 1) := by
  have h76 : fieldV x 7 6 = 2 * fieldV x 7 7 + fieldV x 6 6 := by
    unfold fieldV
    rw [if_pos (by omega), if_pos (by omega), if_pos (by omega)]
    simp only [show (7 : Int).toNat = 7 by decide, show (6 : Int).toNat = 6 by decide, show ((7 : Int) - 6 + 1).toNat = 2 by decide, show ((7 : Int) - 7 + 1).toNat = 1 by decide, show ((6 : Int) - 6 + 1).toNat = 1 by decide]
    omega
  unfold noneE
  rw [h76]
  have h0 := bit_two x 4
  have h1 := bit_two x 6
  have h2 := bit_two x 7
  rcases h0 with h0 | h0 <;> rcases h1 with h1 | h1 <;> rcases h2 with h2 | h2 <;> rw [h0, h1, h2] <;> rfl
/-- Nothing of a page's address is left on level l: its lowest number bits are 0. -/
theorem low_eq (x : Int) (l : Nat) (hl : l ≤ 2) : (fieldV (fieldV x 53 10 * 4096) (11 + 9 * (l : Int)) 0 == 0) = lowV x l := by
  have key : fieldV (fieldV x 53 10 * 4096) (11 + 9 * (l : Int)) 0 = 0 ↔ l = 0 ∨ fieldV x (9 + 9 * (l : Int)) 10 = 0 := by
    unfold fieldV
    rcases (show l = 0 ∨ l = 1 ∨ l = 2 by omega) with rfl | rfl | rfl
    · simp
    · simp; omega
    · simp; omega
  unfold lowV
  rw [Bool.eq_iff_iff]
  simpa using key

/-! ### Fields -/
theorem fld (x hi lo : Int) (hx0 : 0 ≤ x) (hx1 : x < 18446744073709551616) {W w : World} (g : Grew W w) :
    Calls Try.prog 17 #[.int .u64 x, .int .i64 hi, .int .i64 lo] w fun e w' => e = .returned (.int .u64 (fieldV x hi lo)) ∧ Grew W w' :=
  (field_c x hi lo hx0 hx1 w).mono fun _ _ ⟨he, hd⟩ => ⟨he, g.drew hd⟩
theorem has_c (x b : Int) (hx0 : 0 ≤ x) (hx1 : x < 18446744073709551616) {W w : World} (g : Grew W w) :
    Calls Try.prog 46 #[.int .u64 x, .int .i64 b] w fun e w' => e = .returned (.bool (fieldV x b b == 1)) ∧ Grew W w' := by
  go_enter Try.func46, Try.ntmps46
  go_wp2_with fail
  refine (fld _ _ _ hx0 hx1 g).mono ?_
  rintro e w1 ⟨rfl, g1⟩
  go_wp2_with fail
  go_ret
  exact ⟨rfl, g1⟩
theorem page_c (x : Int) (hx0 : 0 ≤ x) (hx1 : x < 18446744073709551616) {W w : World} (g : Grew W w) :
    Calls Try.prog 24 #[.int .u64 x] w fun e w' => e = .returned (.int .u64 (fieldV x 53 10 * 4096)) ∧ Grew W w' := by
  obtain ⟨f0, f1⟩ := table_lt x 53 10 (by omega) (by omega) (by omega) (by decide)
  go_enter Try.func24, Try.ntmps24
  go_wp2_with fail
  refine (fld _ _ _ hx0 hx1 g).mono ?_
  rintro e w1 ⟨rfl, g1⟩
  go_wp2_with fail
  go_ret
  exact ⟨rfl, g1⟩
theorem right_c (x : Int) (hx0 : 0 ≤ x) (hx1 : x < 18446744073709551616) {W w : World} (g : Grew W w) :
    Calls Try.prog 44 #[.int .u64 x] w fun e w' => e = .returned (.bool (!badE x)) ∧ Grew W w' := by
  have HV := Lib.hid (badE_eq x)
  cases h2 : (fieldV x 2 2 == 1) <;> cases h1 : (fieldV x 1 1 == 1) <;> cases h0 : (fieldV x 0 0 == 1) <;> cases h6 : (fieldV x 63 54 == 0)
  all_goals
    go_enter Try.func44, Try.ntmps44
    go_wp2_with (first | (go_at_call 46; refine (has_c _ _ hx0 hx1 (by assumption)).mono ?_; rintro e' w' ⟨rfl, g'⟩) | (go_at_call 17; refine (fld _ _ _ hx0 hx1 (by assumption)).mono ?_; rintro e' w' ⟨rfl, g'⟩))
    go_ret
    exact ⟨by rw [HV.out, h2, h1, h0, h6]; rfl, by assumption⟩
theorem table_c (x : Int) (hx0 : 0 ≤ x) (hx1 : x < 18446744073709551616) {W w : World} (g : Grew W w) :
    Calls Try.prog 45 #[.int .u64 x] w fun e w' => e = .returned (.bool (!leafE x)) ∧ Grew W w' := by
  have HV := Lib.hid (show leafE x = (fieldV x 1 1 == 1 || fieldV x 3 3 == 1) from rfl)
  cases h1 : (fieldV x 1 1 == 1) <;> cases h3 : (fieldV x 3 3 == 1)
  all_goals
    go_enter Try.func45, Try.ntmps45
    go_wp2_with (go_at_call 46; refine (has_c _ _ hx0 hx1 (by assumption)).mono ?_; rintro e' w' ⟨rfl, g'⟩)
    go_ret
    exact ⟨by rw [HV.out, h1, h3]; rfl, by assumption⟩
theorem leads_c (x : Int) (hx0 : 0 ≤ x) (hx1 : x < 18446744073709551616) {W w : World} (g : Grew W w) :
    Calls Try.prog 23 #[.int .u64 x] w fun e w' => e = .returned (.bool (!badE x && !leafE x && !noneE x)) ∧ Grew W w' := by
  have hn := noneE_eq x
  have hr := fun w (g : Grew W w) => right_c x hx0 hx1 g
  have ht := fun w (g : Grew W w) => table_c x hx0 hx1 g
  have hh := fun (b : Int) w (g : Grew W w) => has_c x b hx0 hx1 g
  generalize badE x = B at *
  generalize leafE x = L at *
  generalize noneE x = N at *
  have HN := Lib.hid hn
  have HR := Lib.hid hr
  have HT := Lib.hid ht
  have HH := Lib.hid hh
  clear hr ht hh hn
  cases B <;> cases L <;> cases h4 : (fieldV x 4 4 == 1) <;> cases h6 : (fieldV x 6 6 == 1) <;> cases h7 : (fieldV x 7 7 == 1)
  all_goals
    go_enter Try.func23, Try.ntmps23
    go_wp2_with (first | (go_at_call 44; refine (HR.out _ (by assumption)).mono ?_; rintro e' w' ⟨rfl, g'⟩) | (go_at_call 45; refine (HT.out _ (by assumption)).mono ?_; rintro e' w' ⟨rfl, g'⟩) | (go_at_call 46; refine (HH.out _ _ (by assumption)).mono ?_; rintro e' w' ⟨rfl, g'⟩))
    go_ret
    exact ⟨by rw [HN.out, h4, h6, h7]; rfl, by assumption⟩

/-! ### What is left of an address -/
theorem restBits_c (k : Int) (l : Nat) (hl : l ≤ 2) (hk : k + l = 2) (w : World) :
    Calls Try.prog 40 #[.int .i64 k] w fun e w' => e = .returned (.int .i64 (12 + 9 * l)) ∧ w = w' := by
  obtain rfl : k = 2 - l := by omega
  have h0 : (l : Int) ≤ 2 := by omega
  go_enter Try.func40, Try.ntmps40
  go_wp2_with fail
  go_ret
  exact ⟨ret_i64 (by omega), rfl⟩
theorem rest_c (x k : Int) (l : Nat) (hl : l ≤ 2) (hk : k + l = 2) (hx0 : 0 ≤ x) (hx1 : x < 18446744073709551616) {W w : World} (g : Grew W w) :
    Calls Try.prog 29 #[.int .u64 x, .int .i64 k] w fun e w' => e = .returned (.int .u64 (fieldV x (11 + 9 * l) 0)) ∧ Grew W w' := by
  have h0 : (l : Int) ≤ 2 := by omega
  have e1 : IntKind.i64.wrap (12 + 9 * (l : Int) - 1) = 11 + 9 * (l : Int) := by rw [IntWalk.i64_in _ (by omega)]; omega
  go_enter Try.func29, Try.ntmps29
  go_wp2_with fail
  refine (restBits_c k l hl hk w).mono ?_
  rintro e w1 ⟨rfl, h⟩
  obtain rfl := h
  go_wp2_with fail
  try rw [show (12 : Int) + 9 * (l : Int) - 1 = 11 + 9 * (l : Int) by omega]
  refine (fld _ _ _ hx0 hx1 g).mono ?_
  rintro e w1 ⟨rfl, g1⟩
  go_wp2_with fail
  go_ret
  exact ⟨rfl, g1⟩
theorem index_c (x k : Int) (l : Nat) (hl : l ≤ 2) (hk : k + l = 2) (hx0 : 0 ≤ x) (hx1 : x < 18446744073709551616) {W w : World} (g : Grew W w) :
    Calls Try.prog 21 #[.int .u64 x, .int .i64 k] w fun e w' => e = .returned (.int .u64 (fieldV x (20 + 9 * l) (12 + 9 * l))) ∧ Grew W w' := by
  have h0 : (l : Int) ≤ 2 := by omega
  go_enter Try.func21, Try.ntmps21
  go_wp2_with fail
  refine (restBits_c k l hl hk w).mono ?_
  rintro e w1 ⟨rfl, h⟩
  obtain rfl := h
  go_wp2_with fail
  rw [show (12 : Int) + 9 * (l : Int) + 9 - 1 = 20 + 9 * (l : Int) by omega]
  refine (fld _ _ _ hx0 hx1 g).mono ?_
  rintro e w1 ⟨rfl, g1⟩
  go_wp2_with fail
  go_ret
  exact ⟨rfl, g1⟩
theorem isLeaf_c (x k : Int) (l : Nat) (hl : l ≤ 2) (hk : k + l = 2) (hx0 : 0 ≤ x) (hx1 : x < 18446744073709551616) {W w : World} (g : Grew W w) :
    Calls Try.prog 25 #[.int .u64 x, .int .i64 k] w fun e w' => e = .returned (.bool (!badE x && leafE x && lowV x l)) ∧ Grew W w' := by
  obtain ⟨f0, f1⟩ := table_lt x 53 10 (by omega) (by omega) (by omega) (by decide)
  have hlow := low_eq x l hl
  have hr := fun w (g : Grew W w) => right_c x hx0 hx1 g
  have ht := fun w (g : Grew W w) => table_c x hx0 hx1 g
  have hp := fun w (g : Grew W w) => page_c x hx0 hx1 g
  have hs := fun w (g : Grew W w) => rest_c (fieldV x 53 10 * 4096) k l hl hk (by omega) (by omega) g
  generalize badE x = B at *
  generalize leafE x = L at *
  generalize fieldV x 53 10 * 4096 = P at *
  generalize fieldV P (11 + 9 * (l : Int)) 0 = F at *
  generalize lowV x l = Q at *
  have HR := Lib.hid hr
  have HT := Lib.hid ht
  have HP := Lib.hid hp
  have HS := Lib.hid hs
  clear hr ht hp hs
  cases B <;> cases L <;> cases Q
  all_goals
    go_enter Try.func25, Try.ntmps25
    go_wp2_with (first | (go_at_call 44; refine (HR.out _ (by assumption)).mono ?_; rintro e' w' ⟨rfl, g'⟩) | (go_at_call 45; refine (HT.out _ (by assumption)).mono ?_; rintro e' w' ⟨rfl, g'⟩) | (go_at_call 24; refine (HP.out _ (by assumption)).mono ?_; rintro e' w' ⟨rfl, g'⟩) | (go_at_call 29; refine (HS.out _ (by assumption)).mono ?_; rintro e' w' ⟨rfl, g'⟩))
    go_ret
    exact ⟨rfl, by assumption⟩
theorem marked_c (x k : Int) (w : World) :
    Calls Try.prog 28 #[.int .u64 x, .int .i64 k] w fun e w' => e = .returned (.int .u64 (markE x k)) ∧ w = w' := by
  by_cases h2 : k = 2
  · subst h2
    go_enter Try.func28, Try.ntmps28
    go_wp2_with fail
    go_ret
    exact ⟨rfl, rfl⟩
  · have HV := Lib.hid (show markE x k = bits .or .u64 x 64 by unfold markE; rw [if_neg h2])
    have h2' : (k == 2) = false := by simpa using h2
    go_enter Try.func28, Try.ntmps28
    go_wp2_with fail
    go_ret
    exact ⟨by rw [HV.out]; rfl, rfl⟩

/-! ### Fault -/
theorem fault_c (kind : Int) (page : Bool) (w : World) :
    Calls Try.prog 12 #[.int .i64 kind, .bool page] w fun e w' => e = .returned (.int .i64 (faultV kind page)) ∧ w = w' := by
  by_cases h0 : kind = 0
  · subst h0
    cases page
    all_goals
      go_enter Try.func12, Try.ntmps12
      go_wp2
      go_ret
      exact ⟨rfl, rfl⟩
  by_cases h2 : kind = 2
  · subst h2
    cases page
    all_goals
      go_enter Try.func12, Try.ntmps12
      go_wp2
      go_ret
      exact ⟨rfl, rfl⟩
  · have e0 : (kind == 0) = false := by simpa using h0
    have e2 : (kind == 2) = false := by simpa using h2
    have hv : ∀ p, faultV kind p = if p then 13 else 5 := fun p => by unfold faultV; rw [if_neg h0, if_neg h2]
    have HV := Lib.hid hv
    clear hv
    cases page
    all_goals
      go_enter Try.func12, Try.ntmps12
      go_wp2
      go_ret
      exact ⟨by rw [HV.out]; rfl, rfl⟩
end Go.Proofs.Ytocmningcpcmiaa
