/-
  Package trap: parts of Status, what sets them, small functions.
-/
import Derived.Test.YtbkbbcfhmjodlaaDoorTrapE
import Derived.Test.YtbkbbcfhmjodlaaDoorClass
set_option linter.unusedVariables false
set_option linter.unusedSimpArgs false
namespace Go.Proofs.YtbkbbcfhmjodlaaDoor
open Go.RowKit

/-- Status with x in the part from low on, most at most. -/
def setP (s low most x : Nat) : Nat := ndn s (most * 2 ^ low) ||| (x &&& most) * 2 ^ low
def ofP (s low most : Nat) : Nat := s / 2 ^ low &&& most
theorem ofP_lt (s low most : Nat) (hs : s < 2 ^ 64) : ofP s low most < 2 ^ 64 := Nat.lt_of_le_of_lt Nat.and_le_left (Nat.lt_of_le_of_lt (Nat.div_le_self _ _) hs)
theorem setP_lt (s low most x : Nat) (hs : s < 2 ^ 64) (hm : most * 2 ^ low < 2 ^ 64) : setP s low most x < 2 ^ 64 := or_lt (ndn_lt _ _ hs) (Nat.lt_of_le_of_lt (Nat.mul_le_mul_right _ Nat.and_le_right) hm)
theorem one_lt {low : Nat} (h : low < 64) : 1 * 2 ^ low < 2 ^ 64 := by rw [Nat.one_mul]; exact pow_lt64 h
abbrev partV (low most : Nat) : Value := .agg #[.int .i64 (low : Nat), .int .u64 (most : Nat)]
abbrev partsA (a b c m : Nat) : Array Value := #[.int .i64 (a : Nat), .int .u64 1, .int .i64 (b : Nat), .int .u64 1, .int .i64 (c : Nat), .int .u64 (m : Nat)]
/-- A privilege's parts: in, was (a bit each), from. -/
abbrev partsV (a b c m : Nat) : Value := .agg (partsA a b c m)
/-- The function that sets parts of what the pointer in block b points to. -/
abbrev setV (b : Nat) : Value := .func (.func 36) #[] #[.pointer (some ⟨b, 0, none⟩)]

theorem of_c (s low most : Nat) (hs : s < 2 ^ 64) (hl : low < 64) (hm : most < 2 ^ 64) {W w : World} (hg : Grew W w) :
    Calls Tryd.prog 32 #[partV low most, .int .u64 (s : Nat)] w fun e w' => e = .returned (.int .u64 (ofP s low most : Nat)) ∧ Grew W w' := by
  have s1 : (s : Int) < 18446744073709551616 := by omega
  have l1 : (low : Int) < 64 := by omega
  have m1 : (most : Int) < 18446744073709551616 := by omega
  have E : bits .and .u64 ((s : Int) / 2 ^ low) (most : Int) = ((ofP s low most : Nat) : Int) := by
    have h : s / 2 ^ low < 2 ^ 64 := Nat.lt_of_le_of_lt (Nat.div_le_self _ _) hs
    have e : (s : Int) / 2 ^ low = ((s / 2 ^ low : Nat) : Int) := by simp
    rw [e, b_and _ _ h hm]
    rfl
  clear hs hl hm
  go_enter Tryd.func32, Tryd.ntmps32
  go_wp2
  go_quiet (fail)
  go_wp2
  go_ret
  exact ⟨rfl, by repeat (first | exact hg | refine Grew.alloc ?_ _ | refine Grew.drewN ?_ _ | refine Grew.drew1 ?_)⟩
theorem setter_c (p : Nat) (w : World) :
    Calls Tryd.prog 33 #[.pointer (some ⟨p, 0, none⟩)] w fun e w' => e = .returned (setV w.heap.size) ∧ w' = w.alloc (.cells #[.pointer (some ⟨p, 0, none⟩)] 55) := by
  go_enter Tryd.func33, Tryd.ntmps33
  go_wp2
  go_ret
  exact ⟨rfl, rfl⟩
theorem set_p (s low most x p q : Nat) (hs : s < 2 ^ 64) (hl : low < 64) (hm : most * 2 ^ low < 2 ^ 64) (hx : x < 2 ^ 64) {TP TQ : TypeId} {W w : World} (hg : Grew W w) (hp : W.heap.size ≤ p)
    (kq : Blk w q #[.pointer (some ⟨p, 0, none⟩)] TQ) (kp : Blk w p #[.int .u64 (s : Nat)] TP) :
    Calls Tryd.prog 36 #[partV low most, .int .u64 (x : Nat), .pointer (some ⟨q, 0, none⟩)] w fun e w' =>
      e = .returned (.tuple #[]) ∧ Grew W w' ∧ Blk w' p #[.int .u64 (setP s low most x : Nat)] TP ∧ w.heap.size ≤ w'.heap.size ∧ ∀ b cs T, b ≠ p → Blk w b cs T → Blk w' b cs T := by
  have l1 : (low : Int) < 64 := by omega
  have m1 : (most : Int) < 18446744073709551616 := by
    have : 1 ≤ 2 ^ low := Nat.one_le_two_pow
    have : most * 1 ≤ most * 2 ^ low := Nat.mul_le_mul_left _ this
    omega
  have x1 : (x : Int) < 18446744073709551616 := by omega
  have s1 : (s : Int) < 18446744073709551616 := by omega
  have hpq : p ≠ q := by
    rintro rfl
    have := kq.cell 0
    rw [kp.cell] at this
    cases this
  have plt := kp.lt
  have qlt := kq.lt
  have HS := Lib.hid hs
  have HM := Lib.hid hm
  have HX := Lib.hid hx
  clear hs hm hx
  go_enter Tryd.func36, Tryd.ntmps36
  go_wp2
  have kb := Blk.new w #[.int .i64 (low : Nat), .int .u64 (most : Nat)] 37 _ rfl
  have g1 := hg.alloc (.cells #[.int .i64 (low : Nat), .int .u64 (most : Nat)] 37)
  have kq1 := kq.alloc (.cells #[.int .i64 (low : Nat), .int .u64 (most : Nat)] 37)
  have kp1 := kp.alloc (.cells #[.int .i64 (low : Nat), .int .u64 (most : Nat)] 37)
  have keep1 := fun b cs T (h : Blk w b cs T) => h.alloc (.cells #[.int .i64 (low : Nat), .int .u64 (most : Nat)] 37)
  have size1 : w.heap.size ≤ (w.alloc (.cells #[.int .i64 (low : Nat), .int .u64 (most : Nat)] 37)).heap.size := by simp
  generalize w.alloc (.cells #[.int .i64 (low : Nat), .int .u64 (most : Nat)] 37) = w1 at *
  have c0 : w1.cell? ⟨w.heap.size, 0, none⟩ = some (.int .i64 (low : Nat)) := by rw [kb.cell]; rfl
  have c1 : w1.cell? ⟨w.heap.size, 1, none⟩ = some (.int .u64 (most : Nat)) := by rw [kb.cell]; rfl
  have cq : w1.cell? ⟨q, 0, none⟩ = some (.pointer (some ⟨p, 0, none⟩)) := by rw [kq1.cell]; rfl
  have cp : w1.cell? ⟨p, 0, none⟩ = some (.int .u64 (s : Nat)) := by rw [kp1.cell]; rfl
  have fp := kp1.free 0
  have E1 : bits .and .u64 (x : Int) (most : Int) = ((x &&& most : Nat) : Int) := b_and x most HX.out (by omega)
  have E2 : IntKind.u64.wrap ((most : Int) * 2 ^ low) = ((most * 2 ^ low : Nat) : Int) := by
    have e : (most : Int) * 2 ^ low = ((most * 2 ^ low : Nat) : Int) := by simp
    have := HM.out
    rw [e, IntWalk.u64_in _ (by omega)]
  have hxm : (x &&& most) * 2 ^ low < 2 ^ 64 := Nat.lt_of_le_of_lt (Nat.mul_le_mul_right _ Nat.and_le_right) HM.out
  have E3 : IntKind.u64.wrap (((x &&& most : Nat) : Int) * 2 ^ low) = (((x &&& most) * 2 ^ low : Nat) : Int) := by
    have e : ((x &&& most : Nat) : Int) * 2 ^ low = (((x &&& most) * 2 ^ low : Nat) : Int) := by simp
    rw [e, IntWalk.u64_in _ (by omega)]
  have E4 : bits .andNot .u64 (s : Int) ((most * 2 ^ low : Nat) : Int) = ((ndn s (most * 2 ^ low) : Nat) : Int) := b_not _ _ HS.out HM.out
  have E5 : bits .or .u64 ((ndn s (most * 2 ^ low) : Nat) : Int) (((x &&& most) * 2 ^ low : Nat) : Int) = ((setP s low most x : Nat) : Int) := by rw [b_or _ _ (ndn_lt _ _ HS.out) hxm]; rfl
  refine region_quiet_tail 19 (by kernel_rfl) (by kernel_rfl) ?_
  simp only [List.take_succ_cons, List.take_zero, List.drop_succ_cons, List.drop_zero]
  repeat (first | go_big_quiet_step (fail) | quiet_step (fail))
  refine wpQuiet_nil ?_
  intro nq
  go_wp2
  go_end0
  refine ⟨rfl, (g1.drewN nq).setCell hp _, ?_, ?_, fun b cs T hne hk => ((keep1 b cs T hk).drewN nq).other hne _⟩
  · have := (kp1.drewN nq).set (o := 0) (.int .u64 (setP s low most x : Nat))
    rw [show (most : Int) * 2 ^ low = ((most * 2 ^ low : Nat) : Int) by simp, show ((x &&& most : Nat) : Int) * 2 ^ low = (((x &&& most) * 2 ^ low : Nat) : Int) by simp, E4, E5]
    exact this
  · simpa using size1
def whN (p : Int) : Nat := if (IntKind.u64.wrap p).toNat % 4 = 2 then 0 else (IntKind.u64.wrap p).toNat % 4
theorem whN_lt (p : Int) : whN p < 4 := by unfold whN; split <;> omega
theorem whence_c (p : Int) (w : World) : Calls Tryd.prog 34 #[.int .i64 p] w fun e w' => e = .returned (.int .u64 (whN p : Nat)) ∧ w = w' := by
  obtain ⟨k, hk1, hk⟩ : ∃ k : Nat, k < 2 ^ 64 ∧ IntKind.u64.wrap p = (k : Int) := nat_of (by rw [wrap_u64]; omega) (by rw [wrap_u64]; omega)
  have E : bits .and .u64 (k : Int) 3 = ((k &&& 3 : Nat) : Int) := l_and k hk1 3 (by decide) 3 rfl
  have e3 : k &&& 3 = k % 4 := Nat.and_two_pow_sub_one_eq_mod k 2
  rw [e3] at E
  have hw : whN p = if k % 4 = 2 then 0 else k % 4 := by unfold whN; rw [hk]; rfl
  clear e3 hk1
  by_cases h : k % 4 = 2
  · rw [hw, if_pos h]
    rw [h] at E
    have E' : bits .and .u64 (IntKind.u64.wrap p) 3 = 2 := by rw [hk]; exact E
    clear E hw h hk
    go_enter Tryd.func34, Tryd.ntmps34
    go_wp2
    go_ret
    exact ⟨rfl, rfl⟩
  · rw [hw, if_neg h]
    have E' : bits .and .u64 (IntKind.u64.wrap p) 3 = ((k % 4 : Nat) : Int) := by rw [hk]; exact E
    have hb : (((k % 4 : Nat) : Int) == 2) = false := by rw [beq_eq_false_iff_ne]; omega
    clear E hw h hk
    generalize k % 4 = m at *
    go_enter Tryd.func34, Tryd.ntmps34
    go_wp2
    go_ret
    exact ⟨rfl, rfl⟩
theorem told_c (cause : Int) (k : Nat) (hk : IntKind.u64.wrap cause = (k : Int)) (irq : Bool) (y : Int) (hy : whyV k irq = y) (w : World) : Calls Tryd.prog 24 #[.int .i64 cause, .bool irq] w fun e w' => e = .returned (.int .u64 y) ∧ w = w' := by
  subst hy
  cases irq
  · go_enter Tryd.func24, Tryd.ntmps24
    go_wp2
    go_ret
    exact ⟨ret_u64 (by simp [whyV]), rfl⟩
  · go_enter Tryd.func24, Tryd.ntmps24
    go_wp2
    go_ret
    exact ⟨ret_u64 (by simp [whyV]), rfl⟩
theorem lead_c (vec cause : Int) (k : Nat) (hk : IntKind.u64.wrap cause = (k : Int)) (irq : Bool) (v0 : 0 ≤ vec) (v1 : vec < 18446744073709551616) (w : World) :
    Calls Tryd.prog 25 #[.int .u64 vec, .int .i64 cause, .bool irq] w fun e w' => e = .returned (.int .u64 (placeV vec k irq)) ∧ w = w' := by
  have E : bits .and .u64 vec 1 = vec % 2 := by
    obtain ⟨n, hn, rfl⟩ := nat_of v0 v1
    rw [l_and n hn 1 (by decide) 1 rfl, show n &&& 1 = n % 2 from Nat.and_two_pow_sub_one_eq_mod n 1]
    simp
  cases irq
  · go_enter Tryd.func25, Tryd.ntmps25
    go_wp2
    go_ret
    exact ⟨ret_u64 (by simp [placeV]), rfl⟩
  · by_cases h : vec % 2 = 1
    · rw [h] at E
      go_enter Tryd.func25, Tryd.ntmps25
      go_wp2
      go_ret
      exact ⟨ret_u64 (by simp [placeV, h, wrap_u64]), rfl⟩
    · have h' : (vec % 2 == 1) = false := by simpa using h
      go_enter Tryd.func25, Tryd.ntmps25
      go_wp2
      go_ret
      exact ⟨ret_u64 (by simp [placeV, h]), rfl⟩
end Go.Proofs.YtbkbbcfhmjodlaaDoor
