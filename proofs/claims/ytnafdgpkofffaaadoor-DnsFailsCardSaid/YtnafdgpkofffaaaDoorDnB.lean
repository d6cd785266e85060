/-
  Package dns: small functions; a message's head.
-/
import Derived.Test.YtnafdgpkofffaaaDoorDnX
import Derived.Test.YtnafdgpkofffaaaDoorPutB
import Derived.Test.YtnafdgpkofffaaaDoorCat
import Derived.Test.YtnafdgpkofffaaaDoorDeps
import Derived.LoopTactic
import Derived.OwnWalk
set_option maxRecDepth 4000
set_option linter.unusedVariables false
set_option linter.unusedSimpArgs false
namespace Go.Proofs.YtnafdgpkofffaaaDoor
open Go.RowKit

theorem isLetter_up (c : Int) (h1 : 65 ≤ c) (h2 : c ≤ 90) (w : World) :
    Calls Tryd.prog 39 #[.int .u8 c] w fun e w' => e = .returned (.bool true) ∧ w' = w := by
  have hne : (c == 45) = false := by rw [beq_eq_false_iff_ne]; omega
  have hnu : (c == 95) = false := by rw [beq_eq_false_iff_ne]; omega
  have d90 : decide (c ≤ 90) = true := decide_eq_true (by omega)
  have d122 : decide (c ≤ 122) = true := decide_eq_true (by omega)
  have d57 : decide (c ≤ 57) = false := decide_eq_false (by omega)
  have g65 : decide (65 ≤ c) = true := decide_eq_true (by omega)
  have g97 : decide (97 ≤ c) = false := decide_eq_false (by omega)
  have g48 : decide (48 ≤ c) = true := decide_eq_true (by omega)
  go_enter Tryd.func39, Tryd.ntmps39
  go_wp2_with fail
  go_ret
  exact ⟨rfl, rfl⟩
theorem isLetter_lo (c : Int) (h1 : 97 ≤ c) (h2 : c ≤ 122) (w : World) :
    Calls Tryd.prog 39 #[.int .u8 c] w fun e w' => e = .returned (.bool true) ∧ w' = w := by
  have hne : (c == 45) = false := by rw [beq_eq_false_iff_ne]; omega
  have hnu : (c == 95) = false := by rw [beq_eq_false_iff_ne]; omega
  have d90 : decide (c ≤ 90) = false := decide_eq_false (by omega)
  have d122 : decide (c ≤ 122) = true := decide_eq_true (by omega)
  have d57 : decide (c ≤ 57) = false := decide_eq_false (by omega)
  have g65 : decide (65 ≤ c) = true := decide_eq_true (by omega)
  have g97 : decide (97 ≤ c) = true := decide_eq_true (by omega)
  have g48 : decide (48 ≤ c) = true := decide_eq_true (by omega)
  go_enter Tryd.func39, Tryd.ntmps39
  go_wp2_with fail
  go_ret
  exact ⟨rfl, rfl⟩
theorem isLetter_no1 (c : Int) (h1 : 122 < c) (h2 : c < 256) (w : World) :
    Calls Tryd.prog 39 #[.int .u8 c] w fun e w' => e = .returned (.bool false) ∧ w' = w := by
  have hne : (c == 45) = false := by rw [beq_eq_false_iff_ne]; omega
  have hnu : (c == 95) = false := by rw [beq_eq_false_iff_ne]; omega
  have d90 : decide (c ≤ 90) = false := decide_eq_false (by omega)
  have d122 : decide (c ≤ 122) = false := decide_eq_false (by omega)
  have d57 : decide (c ≤ 57) = false := decide_eq_false (by omega)
  have g65 : decide (65 ≤ c) = true := decide_eq_true (by omega)
  have g97 : decide (97 ≤ c) = true := decide_eq_true (by omega)
  have g48 : decide (48 ≤ c) = true := decide_eq_true (by omega)
  go_enter Tryd.func39, Tryd.ntmps39
  go_wp2_with fail
  go_ret
  exact ⟨rfl, rfl⟩
theorem isLetter_dig (c : Int) (h1 : 48 ≤ c) (h2 : c ≤ 57) (w : World) :
    Calls Tryd.prog 39 #[.int .u8 c] w fun e w' => e = .returned (.bool true) ∧ w' = w := by
  have hne : (c == 45) = false := by rw [beq_eq_false_iff_ne]; omega
  have hnu : (c == 95) = false := by rw [beq_eq_false_iff_ne]; omega
  have d90 : decide (c ≤ 90) = true := decide_eq_true (by omega)
  have d122 : decide (c ≤ 122) = true := decide_eq_true (by omega)
  have d57 : decide (c ≤ 57) = true := decide_eq_true (by omega)
  have g65 : decide (65 ≤ c) = false := decide_eq_false (by omega)
  have g97 : decide (97 ≤ c) = false := decide_eq_false (by omega)
  have g48 : decide (48 ≤ c) = true := decide_eq_true (by omega)
  go_enter Tryd.func39, Tryd.ntmps39
  go_wp2_with fail
  go_ret
  exact ⟨rfl, rfl⟩
theorem isLetter_no2 (c : Int) (h1 : 57 < c) (h2 : c < 65) (w : World) :
    Calls Tryd.prog 39 #[.int .u8 c] w fun e w' => e = .returned (.bool false) ∧ w' = w := by
  have hne : (c == 45) = false := by rw [beq_eq_false_iff_ne]; omega
  have hnu : (c == 95) = false := by rw [beq_eq_false_iff_ne]; omega
  have d90 : decide (c ≤ 90) = true := decide_eq_true (by omega)
  have d122 : decide (c ≤ 122) = true := decide_eq_true (by omega)
  have d57 : decide (c ≤ 57) = false := decide_eq_false (by omega)
  have g65 : decide (65 ≤ c) = false := decide_eq_false (by omega)
  have g97 : decide (97 ≤ c) = false := decide_eq_false (by omega)
  have g48 : decide (48 ≤ c) = true := decide_eq_true (by omega)
  go_enter Tryd.func39, Tryd.ntmps39
  go_wp2_with fail
  go_ret
  exact ⟨rfl, rfl⟩
theorem isLetter_no4 (c : Int) (h1 : 0 ≤ c) (h2 : c < 45) (w : World) :
    Calls Tryd.prog 39 #[.int .u8 c] w fun e w' => e = .returned (.bool false) ∧ w' = w := by
  have hne : (c == 45) = false := by rw [beq_eq_false_iff_ne]; omega
  have hnu : (c == 95) = false := by rw [beq_eq_false_iff_ne]; omega
  have d90 : decide (c ≤ 90) = true := decide_eq_true (by omega)
  have d122 : decide (c ≤ 122) = true := decide_eq_true (by omega)
  have d57 : decide (c ≤ 57) = true := decide_eq_true (by omega)
  have g65 : decide (65 ≤ c) = false := decide_eq_false (by omega)
  have g97 : decide (97 ≤ c) = false := decide_eq_false (by omega)
  have g48 : decide (48 ≤ c) = false := decide_eq_false (by omega)
  go_enter Tryd.func39, Tryd.ntmps39
  go_wp2_with fail
  go_ret
  exact ⟨rfl, rfl⟩
theorem isLetter_no5 (c : Int) (h1 : 46 ≤ c) (h2 : c < 48) (w : World) :
    Calls Tryd.prog 39 #[.int .u8 c] w fun e w' => e = .returned (.bool false) ∧ w' = w := by
  have hne : (c == 45) = false := by rw [beq_eq_false_iff_ne]; omega
  have hnu : (c == 95) = false := by rw [beq_eq_false_iff_ne]; omega
  have d90 : decide (c ≤ 90) = true := decide_eq_true (by omega)
  have d122 : decide (c ≤ 122) = true := decide_eq_true (by omega)
  have d57 : decide (c ≤ 57) = true := decide_eq_true (by omega)
  have g65 : decide (65 ≤ c) = false := decide_eq_false (by omega)
  have g97 : decide (97 ≤ c) = false := decide_eq_false (by omega)
  have g48 : decide (48 ≤ c) = false := decide_eq_false (by omega)
  go_enter Tryd.func39, Tryd.ntmps39
  go_wp2_with fail
  go_ret
  exact ⟨rfl, rfl⟩
theorem isLetter_no6 (c : Int) (h1 : 91 ≤ c) (h2 : c < 95) (w : World) :
    Calls Tryd.prog 39 #[.int .u8 c] w fun e w' => e = .returned (.bool false) ∧ w' = w := by
  have hne : (c == 45) = false := by rw [beq_eq_false_iff_ne]; omega
  have hnu : (c == 95) = false := by rw [beq_eq_false_iff_ne]; omega
  have d90 : decide (c ≤ 90) = false := decide_eq_false (by omega)
  have d122 : decide (c ≤ 122) = true := decide_eq_true (by omega)
  have d57 : decide (c ≤ 57) = false := decide_eq_false (by omega)
  have g65 : decide (65 ≤ c) = true := decide_eq_true (by omega)
  have g97 : decide (97 ≤ c) = false := decide_eq_false (by omega)
  have g48 : decide (48 ≤ c) = true := decide_eq_true (by omega)
  go_enter Tryd.func39, Tryd.ntmps39
  go_wp2_with fail
  go_ret
  exact ⟨rfl, rfl⟩
theorem isLetter_dash (w : World) :
    Calls Tryd.prog 39 #[.int .u8 45] w fun e w' => e = .returned (.bool true) ∧ w' = w := by
  go_enter Tryd.func39, Tryd.ntmps39
  go_wp2_with fail
  go_ret
  exact ⟨rfl, rfl⟩
theorem isLetter_und (w : World) :
    Calls Tryd.prog 39 #[.int .u8 95] w fun e w' => e = .returned (.bool true) ∧ w' = w := by
  go_enter Tryd.func39, Tryd.ntmps39
  go_wp2_with fail
  go_ret
  exact ⟨rfl, rfl⟩
theorem isLetter_grv (w : World) :
    Calls Tryd.prog 39 #[.int .u8 96] w fun e w' => e = .returned (.bool false) ∧ w' = w := by
  go_enter Tryd.func39, Tryd.ntmps39
  go_wp2_with fail
  go_ret
  exact ⟨rfl, rfl⟩
theorem isLetter_c (c : Int) (h : 0 ≤ c ∧ c < 256) (w : World) :
    Calls Tryd.prog 39 #[.int .u8 c] w fun e w' => e = .returned (.bool (letV c).2) ∧ w' = w := by
  unfold letV
  by_cases a : 65 ≤ c ∧ c ≤ 90
  · rw [if_pos a]; exact isLetter_up c a.1 a.2 w
  · rw [if_neg a]
    by_cases b : 97 ≤ c ∧ c ≤ 122
    · rw [show decide ((97 ≤ c ∧ c ≤ 122) ∨ (48 ≤ c ∧ c ≤ 57) ∨ c = 45 ∨ c = 95) = true from decide_eq_true (.inl b)]; exact isLetter_lo c b.1 b.2 w
    · by_cases d : 48 ≤ c ∧ c ≤ 57
      · rw [show decide ((97 ≤ c ∧ c ≤ 122) ∨ (48 ≤ c ∧ c ≤ 57) ∨ c = 45 ∨ c = 95) = true from decide_eq_true (.inr (.inl d))]; exact isLetter_dig c d.1 d.2 w
      · by_cases e1 : c = 45
        · subst e1; exact isLetter_dash w
        · by_cases e2 : c = 95
          · subst e2; exact isLetter_und w
          · rw [show decide ((97 ≤ c ∧ c ≤ 122) ∨ (48 ≤ c ∧ c ≤ 57) ∨ c = 45 ∨ c = 95) = false from decide_eq_false (by omega)]
            by_cases f1 : 122 < c
            · exact isLetter_no1 c f1 h.2 w
            · by_cases f2 : c = 96
              · subst f2; exact isLetter_grv w
              · by_cases f3 : 91 ≤ c
                · exact isLetter_no6 c f3 (by omega) w
                · by_cases f4 : 57 < c
                  · exact isLetter_no2 c f4 (by omega) w
                  · by_cases f5 : c < 45
                    · exact isLetter_no4 c h.1 f5 w
                    · exact isLetter_no5 c (by omega) (by omega) w
theorem isNumber_c (x : Int) (w : World) : Calls Tryd.prog 16 #[.int .i64 x] w fun e w' => e = .returned (.bool (decide (0 ≤ x) && decide (x ≤ 65535))) ∧ w' = w := by
  by_cases h : 0 ≤ x
  · by_cases h2 : x ≤ 65535
    · rw [decide_eq_true h, decide_eq_true h2]
      go_enter Tryd.func16, Tryd.ntmps16
      go_wp2_with fail
      go_ret
      exact ⟨rfl, rfl⟩
    · rw [decide_eq_true h, decide_eq_false h2]
      go_enter Tryd.func16, Tryd.ntmps16
      go_wp2_with fail
      go_ret
      exact ⟨rfl, rfl⟩
  · rw [decide_eq_false h]
    go_enter Tryd.func16, Tryd.ntmps16
    go_wp2_with fail
    go_ret
    exact ⟨rfl, rfl⟩
theorem hasHead_c (a : Option Addr) (n c : Nat) (w : World) : Calls Tryd.prog 25 #[.slice a n c] w fun e w' => e = .returned (.bool (decide (12 ≤ n))) ∧ w' = w := by
  by_cases h : 12 ≤ n
  · have h' : (12 : Int) ≤ (n : Int) := by omega
    rw [decide_eq_true h]
    go_enter Tryd.func25, Tryd.ntmps25
    go_wp2_with fail
    go_ret
    exact ⟨rfl, rfl⟩
  · have h' : ¬ (12 : Int) ≤ (n : Int) := by omega
    rw [decide_eq_false h]
    go_enter Tryd.func25, Tryd.ntmps25
    go_wp2_with fail
    go_ret
    exact ⟨rfl, rfl⟩
theorem pairAt_c {v : Value} {xs : List Int} (K : Int) (k k2 : Nat) (hK : K = k) (hk2 : k2 = k + 2) (hk : k2 ≤ xs.length) (w : World) (hb : Buf w v xs) :
    Calls Tryd.prog 26 #[v, .int .i64 K] w fun e w' => e = .returned (.int .i64 (getV (cutL xs k k2) true)) ∧ w' = w := by
  subst hK hk2
  have hlen := hb.len
  obtain ⟨a, c, rfl, _, _⟩ := hb.shape
  obtain ⟨a', c', hcut, x1, hrun, x3, x4⟩ := hb.run_cut (lo := k) (hi := k + 2) (by omega) (by omega)
  clear x1 x3 x4
  unfold maxLen at hlen
  have hl2 : (cutL xs k (k + 2)).length = 2 := by rw [cutL_length (by omega) hk]; omega
  have e1 : wrap64 ((k : Int) + 2) = ((k + 2 : Nat) : Int) := by rw [IntWalk.wrap64_in _ (by omega)]; omega
  have e2 : IntKind.i64.wrap ((k : Int) + 2) = ((k + 2 : Nat) : Int) := by rw [IntWalk.i64_in _ (by omega)]; omega
  have hr : ∀ w', (Instr.sliceAt 22 (.slice a xs.length c) (some (.int .i64 k)) (some (.int .i64 ((k + 2 : Nat) : Int))) none).run Tryd.prog w' = .ok (.slice a' 2 c') w' := fun w' => by have := hrun .i64 .i64 w'; rwa [show k + 2 - k = 2 by omega] at this
  rw [show k + 2 - k = 2 by omega] at hcut
  have hg := getG_lt hcut.ok true hl2 (by omega)
  have hw : IntKind.i64.wrap (getV (cutL xs k (k + 2)) true) = getV (cutL xs k (k + 2)) true := IntWalk.i64_in _ (by omega)
  have HG := Lib.hid (fun w' (g : Grew w w') => get_c true (hcut.grew g).ok (by omega) w' (hcut.grew g).bytes)
  clear hrun hg hl2 hcut hb hk hlen
  generalize getV (cutL xs k (k + 2)) true = z at *
  generalize ((k + 2 : Nat) : Int) = k2 at *
  go_enter Tryd.func26, Tryd.ntmps26
  go_wp2_with fail
  refine (HG.out _ (Grew.refl _)).mono ?_
  rintro e w1 ⟨rfl, h1⟩
  obtain rfl := h1.symm
  go_wp2_with fail
  go_ret
  exact ⟨by first | rfl | rw [hw], rfl⟩
theorem pair_c (x : Int) (w : World) :
    Calls Tryd.prog 22 #[.int .i64 x] w fun e w' => ∃ a c, e = .returned (.slice a 2 c) ∧ Buf w' (.slice a 2 c) (putL x 2 true) ∧ Grew w w' := by
  rw [← putL_wrap21]
  have hw : IntKind.u64.wrap x = x % 18446744073709551616 := by rw [wrap_u64]
  have hy : 0 ≤ x % 18446744073709551616 ∧ x % 18446744073709551616 < 18446744073709551616 := by omega
  generalize x % 18446744073709551616 = y at *
  go_enter Tryd.func22, Tryd.ntmps22
  go_wp2_with fail
  try rw [hw]
  refine (putB_c y _ 2 true (by rfl) (by omega) hy.1 hy.2 _).mono ?_
  rintro e w1 ⟨u1, rfl, r1, b1, g1⟩
  obtain ⟨a, c, rfl, _, _⟩ := b1.shape
  rw [putB_len] at b1 ⊢
  have B1 := Lib.hid b1
  clear b1 r1 hw
  go_wp2_with fail
  go_ret
  exact ⟨_, _, rfl, B1.out, g1⟩
/-- What the operations of a region give. -/
def rgHO (W : World) (x y : Int) : (Nat → Value) → Nat → Value → World → Prop
  | _, 0, v, _ => v = .int .i64 x
  | _, 1, v, w => ∃ a c, v = .slice a 2 c ∧ Buf w (.slice a 2 c) (putL x 2 true)
  | _, 2, v, _ => v = .int .i64 y
  | _, 3, v, w => ∃ a c, v = .slice a 2 c ∧ Buf w (.slice a 2 c) (putL y 2 true)
  | _, 4, v, w => ∃ a c, v = .slice a 2 c ∧ Buf w (.slice a 2 c) (putL 1 2 true)
  | _, 5, v, w => ∃ b0, v = .slice (some ⟨b0, 0, none⟩) 6 6 ∧ Buf w (.slice (some ⟨b0, 0, none⟩) 6 6) [0, 0, 0, 0, 0, 0]
  | _, _, _, _ => True
theorem rgHO_grew {W : World} {x y : Int} : ∀ vs j v w w', Grew w w' → rgHO W x y vs j v w → rgHO W x y vs j v w'
  | _, 0, _, _, _, _, h => h
  | _, 1, _, _, _, g, ⟨b0, b1, e, h0⟩ => ⟨b0, b1, e, h0.grew g⟩
  | _, 2, _, _, _, _, h => h
  | _, 3, _, _, _, g, ⟨b0, b1, e, h0⟩ => ⟨b0, b1, e, h0.grew g⟩
  | _, 4, _, _, _, g, ⟨b0, b1, e, h0⟩ => ⟨b0, b1, e, h0.grew g⟩
  | _, 5, _, _, _, g, ⟨b0, e, h0⟩ => ⟨b0, e, h0.grew g⟩
  | _, _ + 6, _, _, _, _, _ => True.intro
theorem rgHO_lt {W : World} {x y : Int} : ∀ vs j v w, ([] : List Nat).contains j = true → rgHO W x y vs j v w → ∀ g, leadsTo v = some g → g < w.heap.size
  | _, 0, _, _, hc, _ => by simp at hc
  | _, 1, _, _, hc, _ => by simp at hc
  | _, 2, _, _, hc, _ => by simp at hc
  | _, 3, _, _, hc, _ => by simp at hc
  | _, 4, _, _, hc, _ => by simp at hc
  | _, 5, _, _, hc, _ => by simp at hc
  | _, _ + 6, _, _, hc, _ => by simp at hc
theorem rgHO_loc {W : World} {x y : Int} : ∀ (vs vs' : Nat → Value) j v w, (∀ k ∈ ([[], [], [], [], [], []] : List (List Nat)).getD j [], vs k = vs' k) → rgHO W x y vs j v w → rgHO W x y vs' j v w
  | _, _, 0, _, _, _, h => h
  | _, _, 1, _, _, _, h => h
  | _, _, 2, _, _, _, h => h
  | _, _, 3, _, _, _, h => h
  | _, _, 4, _, _, _, h => h
  | _, _, 5, _, _, _, h => h
  | _, _, _ + 6, _, _, _, _ => True.intro
theorem make6 (u : World) : (Instr.makeSlice 22 (.int .i64 6) (.int .i64 6)).run Tryd.prog u = .ok (.slice (some ⟨u.heap.size, 0, none⟩) 6 6) (u.alloc (.cells #[.int .u8 0, .int .u8 0, .int .u8 0, .int .u8 0, .int .u8 0, .int .u8 0] 5)) := by
  obtain ⟨i0, hi, hz0, hz1, hz2⟩ := info_parts u8_info
  have := run_make (P := Tryd.prog) (w := u) 22 5 i0 (.int .u8 0) Tryd.underlying22 hi hz0 .i64 .i64 6 6 (by decide) (by decide) (by rw [hz2]; decide) (by decide)
  rw [hz1, show madeCells (Value.int .u8 0).cells (Int.toNat 6 * 1) = #[.int .u8 0, .int .u8 0, .int .u8 0, .int .u8 0, .int .u8 0, .int .u8 0] by kernel_rfl] at this
  exact this
def headD (x y : Int) : List Int := putL x 2 true ++ putL y 2 true ++ [0, 1] ++ [0, 0, 0, 0, 0, 0]
theorem headD_len (x y : Int) : (headD x y).length = 12 := by simp [headD, putB_len]
theorem headD_flat (x y : Int) : [putL x 2 true, putL y 2 true, putL 1 2 true, [0, 0, 0, 0, 0, 0]].flatten = headD x y := by
  have e0 : putL 1 2 true = [0, 1] := by decide
  unfold headD
  rw [e0]
  simp
set_option maxHeartbeats 2000000 in
theorem headOf_c (x y : Int) (w : World) :
    Calls Tryd.prog 19 #[.int .i64 x, .int .i64 y] w fun e w' => ∃ a c, e = .returned (.slice a 12 c) ∧ Buf w' (.slice a 12 c) (headD x y) ∧ Grew w w' := by
  have HM6 := Lib.hid make6
  have HFL := Lib.hid (headD_flat x y)
  have HLN := Lib.hid (show [putL x 2 true, putL y 2 true, putL 1 2 true, [0, 0, 0, 0, 0, 0]].flatten.length ≤ 140737488355328 by rw [headD_flat, headD_len]; omega)
  go_enter Tryd.func19, Tryd.ntmps19
  go_upto_region 1 with fail
  refine region_deps 6 [some 5, some 6, some 7, some 8, some 9, some 10] [[], [], [], [], [], []] [] (rgHO w x y) rgHO_grew rgHO_lt rgHO_loc (Grew.refl w) (by kernel_rfl) (by kernel_rfl) ?_ ?_
  · simp only [List.take_succ_cons, List.take_zero]
    refine GivesAll.cons (fun vs w1 g1 hd K hK => ?_) ?_
    · simp only [putsT, Nat.zero_add, Nat.reduceAdd, List.getD_cons_zero, List.getD_cons_succ, Act.put, List.setIfInBounds_toArray, List.set_cons_zero, List.set_cons_succ] at hK ⊢
      go_simp
      exact hK _ _ (Grew.refl _) rfl (fun h => by simp at h)
    refine GivesAll.cons (fun vs w1 g1 hd K hK => ?_) ?_
    · have e0 : vs 0 = .int .i64 x := hd 0 (by kernel_rfl)
      simp only [putsT, Nat.zero_add, Nat.reduceAdd, List.getD_cons_zero, List.getD_cons_succ, Act.put, List.setIfInBounds_toArray, List.set_cons_zero, List.set_cons_succ, e0] at hK ⊢
      go_simp
      refine Calls.mono (pair_c x w1) ?_
      rintro e w5 ⟨a, c, rfl, hb, g5⟩
      exact hK _ _ g5 ⟨_, _, rfl, hb⟩ (fun h => by simp at h)
    refine GivesAll.cons (fun vs w1 g1 hd K hK => ?_) ?_
    · simp only [putsT, Nat.zero_add, Nat.reduceAdd, List.getD_cons_zero, List.getD_cons_succ, Act.put, List.setIfInBounds_toArray, List.set_cons_zero, List.set_cons_succ] at hK ⊢
      go_simp
      exact hK _ _ (Grew.refl _) rfl (fun h => by simp at h)
    refine GivesAll.cons (fun vs w1 g1 hd K hK => ?_) ?_
    · have e2 : vs 2 = .int .i64 y := hd 2 (by kernel_rfl)
      simp only [putsT, Nat.zero_add, Nat.reduceAdd, List.getD_cons_zero, List.getD_cons_succ, Act.put, List.setIfInBounds_toArray, List.set_cons_zero, List.set_cons_succ, e2] at hK ⊢
      go_simp
      refine Calls.mono (pair_c y w1) ?_
      rintro e w5 ⟨a, c, rfl, hb, g5⟩
      exact hK _ _ g5 ⟨_, _, rfl, hb⟩ (fun h => by simp at h)
    refine GivesAll.cons (fun vs w1 g1 hd K hK => ?_) ?_
    · simp only [putsT, Nat.zero_add, Nat.reduceAdd, List.getD_cons_zero, List.getD_cons_succ, Act.put, List.setIfInBounds_toArray, List.set_cons_zero, List.set_cons_succ] at hK ⊢
      go_simp
      refine Calls.mono (pair_c 1 w1) ?_
      rintro e w5 ⟨a, c, rfl, hb, g5⟩
      exact hK _ _ g5 ⟨_, _, rfl, hb⟩ (fun h => by simp at h)
    refine GivesAll.cons (fun vs w1 g1 hd K hK => ?_) ?_
    · simp only [putsT, Nat.zero_add, Nat.reduceAdd, List.getD_cons_zero, List.getD_cons_succ, Act.put, List.setIfInBounds_toArray, List.set_cons_zero, List.set_cons_succ] at hK ⊢
      have hmk := HM6.out
      go_simp
      exact hK _ _ ((Grew.refl _).alloc _) ⟨_, rfl, (Row.lit w1 w1.heap.size (Nat.le_refl _) #[.int .u8 0, .int .u8 0, .int .u8 0, .int .u8 0, .int .u8 0, .int .u8 0] [0, 0, 0, 0, 0, 0] rfl (by unfold maxLen; simp) _ rfl 6 rfl).buf (fun z hz => by simp only [List.mem_cons, List.not_mem_nil, or_false] at hz; omega)⟩ (fun h => by simp at h)
    exact GivesAll.nil
  intro vs wz gz hv hap
  have e0 : vs 0 = .int .i64 x := hv 0 (by decide)
  obtain ⟨a_1, c_1, e1, r1_0⟩ := hv 1 (by decide)
  have e2 : vs 2 = .int .i64 y := hv 2 (by decide)
  obtain ⟨a_3, c_3, e3, r3_0⟩ := hv 3 (by decide)
  obtain ⟨a_4, c_4, e4, r4_0⟩ := hv 4 (by decide)
  obtain ⟨b0_5, e5, r5_0⟩ := hv 5 (by decide)
  clear hv hap
  simp only [putsT, Nat.zero_add, Nat.reduceAdd, List.getD_cons_zero, List.getD_cons_succ, Act.put, List.setIfInBounds_toArray, List.set_cons_zero, List.set_cons_succ, List.drop_succ_cons, List.drop_zero, e0, e1, e2, e3, e4, e5]
  clear e0 e1 e2 e3 e4 e5
  have HLB := Lib.hid (Bufs.ofBlk (Blk.new wz #[.slice a_1 2 c_1, .slice a_3 2 c_3, .slice a_4 2 c_4, .slice (some ⟨b0_5, 0, none⟩) 6 6] 22 _ rfl) [putL x 2 true, putL y 2 true, putL 1 2 true, [0, 0, 0, 0, 0, 0]] 4 4 rfl (by unfold maxLen; simp) (fun i hi => by
    match i, hi with
    | 0, _ => exact ⟨_, rfl, (r1_0).grew ((Grew.refl wz).alloc _)⟩
    | 1, _ => exact ⟨_, rfl, (r3_0).grew ((Grew.refl wz).alloc _)⟩
    | 2, _ => exact ⟨_, rfl, (r4_0).grew ((Grew.refl wz).alloc _)⟩
    | 3, _ => exact ⟨_, rfl, (r5_0).grew ((Grew.refl wz).alloc _)⟩))
  have gA : Grew wz (wz.alloc (.cells #[.slice a_1 2 c_1, .slice a_3 2 c_3, .slice a_4 2 c_4, .slice (some ⟨b0_5, 0, none⟩) 6 6] 22)) := (Grew.refl _).alloc _
  go_wp2_with (go_at_call 18; refine (concat_b _ HLB.out HLN.out).mono ?_; rintro e w9 ⟨u, rfl, hrow, HC, g9⟩; rw [HFL.out] at HC; obtain ⟨ua, uc, rfl, z1, z2⟩ := HC.shape; rw [headD_len] at HC; have HC9 := Lib.hid HC; clear HC hrow z1 z2)
  go_ret
  exact ⟨_, _, rfl, HC9.out, (gz.trans gA).trans g9⟩
end Go.Proofs.YtnafdgpkofffaaaDoor
