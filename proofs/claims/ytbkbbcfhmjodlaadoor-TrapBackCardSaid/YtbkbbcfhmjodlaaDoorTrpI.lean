/-
  What a trap and a return make: one answer, the program's and the document's.
-/
import Derived.Test.YtbkbbcfhmjodlaaDoorTrpH
set_option linter.unusedVariables false
set_option linter.unusedSimpArgs false
namespace Go.Proofs.YtbkbbcfhmjodlaaDoor
open Go.RowKit

theorem setP_one (s n x : Nat) : setP s n 1 x = setN s n (x % 2) := by
  unfold setP setN
  rw [Nat.one_mul, show x &&& 1 = x % 2 from Nat.and_two_pow_sub_one_eq_mod x 1]
theorem whN_two (p : Int) : whN p % 2 = (IntKind.u64.wrap p).toNat % 2 := by unfold whN; split <;> omega
/-- Status behind a trap: to the Supervisor, to the Machine. -/
def entS (s : Nat) (p : Int) : Nat := setN (setN (setN s 5 (bitN s 1)) 1 0) 8 (whN p % 2)
def entM (s : Nat) (p : Int) : Nat := ndn (setN (setN s 7 (bitN s 3)) 3 0) 6144 ||| whN p * 2048
theorem mod_bit (s n : Nat) : bitN s n % 2 = bitN s n := by have := bitN_lt s n; omega
theorem entS_p (s : Nat) (p : Int) : entS s p = setP (setP (setP s 5 1 (ofP s 1 1)) 1 1 0) 8 1 (whN p) := by
  unfold entS
  rw [setP_one, setP_one, setP_one, of_one, mod_bit]
theorem entM_p (s : Nat) (p : Int) : entM s p = setP (setP (setP s 7 1 (ofP s 3 1)) 3 1 0) 11 3 (whN p) := by
  unfold entM
  have hw := whN_lt p
  rw [setP_one s, setP_one _ 3, of_one, mod_bit]
  show _ = ndn _ (3 * 2 ^ 11) ||| (whN p &&& 3) * 2 ^ 11
  rw [show whN p &&& 3 = whN p % 4 from Nat.and_two_pow_sub_one_eq_mod _ 2, Nat.mod_eq_of_lt hw]
theorem leaveM (s : Nat) : leaveN 3 7 11 3 s = mretS s := by
  unfold leaveN mretS
  rw [setP_one s, setP_one _ 7, of_one, mod_bit]
  show ndn _ 6144 ||| 0 = _
  rw [Nat.or_zero]
theorem leaveS (s : Nat) : setP (leaveN 1 5 8 1 s) 17 1 0 = sretN s := by
  unfold leaveN sretN
  rw [setP_one, setP_one, setP_one, setP_one, of_one, mod_bit]
theorem of_three (s : Nat) : ofP s 11 3 = s / 2048 % 4 := Nat.and_two_pow_sub_one_eq_mod _ 2

/-- The numbers of a trap. -/
def stN (c : Nat → Int) : Nat := (c 0).toNat
def kN (cause : Int) : Nat := (IntKind.u64.wrap cause).toNat
theorem kN_is (cause : Int) : IntKind.u64.wrap cause = (kN cause : Int) := by unfold kN; rw [wrap_u64]; omega
theorem kN_lt (cause : Int) : kN cause < 2 ^ 64 := by unfold kN; rw [wrap_u64]; omega
theorem stN_is {c : Nat → Int} (hc : csOk c) : c 0 = (stN c : Int) := by have := hc 0; unfold stN; omega
theorem stN_lt {c : Nat → Int} (hc : csOk c) : stN c < 2 ^ 64 := by have := hc 0; unfold stN; omega
def delN (c : Nat → Int) (irq : Bool) : Nat := (delV c irq).toNat
theorem delV_ok {c : Nat → Int} (hc : csOk c) (irq : Bool) : 0 ≤ delV c irq ∧ delV c irq < 18446744073709551616 := by
  unfold delV
  split
  · exact hc 2
  · exact hc 1
theorem delN_is {c : Nat → Int} (hc : csOk c) (irq : Bool) : delV c irq = (delN c irq : Int) := by have := delV_ok hc irq; unfold delN; omega
theorem delN_lt {c : Nat → Int} (hc : csOk c) (irq : Bool) : delN c irq < 2 ^ 64 := by have := delV_ok hc irq; unfold delN; omega
/-- Does it go to the Supervisor? -/
def toS (c : Nat → Int) (p cause : Int) (irq : Bool) : Bool := decide (p ≤ 1) && (delN c irq).testBit (kN cause % 64)
def pcV (pc : Int) : Int := bits .andNot .u64 pc 1
def entC (c : Nat → Int) (p pc cause : Int) (irq : Bool) (tval : Int) : Nat → Int :=
  if toS c p cause irq = true then upd (upd (upd (upd c 0 (entS (stN c) p : Nat)) 13 (whyV (kN cause) irq)) 12 (pcV pc)) 14 tval
  else upd (upd (upd (upd c 0 (entM (stN c) p : Nat)) 8 (whyV (kN cause) irq)) 7 (pcV pc)) 9 tval
def entP (c : Nat → Int) (p cause : Int) (irq : Bool) : Int := if toS c p cause irq = true then 1 else 3
def entA (c : Nat → Int) (p cause : Int) (irq : Bool) : Int := placeV (if toS c p cause irq = true then c 10 else c 5) (kN cause) irq
abbrev entV (c : Nat → Int) (p pc cause : Int) (irq : Bool) (tval : Int) : Value := .tuple #[csV (entC c p pc cause irq tval), .int .i64 (entP c p cause irq), .int .u64 (entA c p cause irq)]

theorem enter_p (c : Nat → Int) (hc : csOk c) (p pc cause : Int) (irq : Bool) (tval : Int) {W w : World} (hg : Grew W w) :
    Calls Tryd.prog 10 #[csV c, .int .i64 p, .int .u64 pc, .int .i64 cause, .bool irq, .int .u64 tval] w fun e w' => e = .returned (entV c p pc cause irq tval) ∧ Grew W w' := by
  unfold entV entC entP entA
  have pb := bit_is (delN c irq) (kN cause % 64) _ rfl
  cases h : toS c p cause irq
  · simp only [Bool.false_eq_true, if_false]
    exact enterp_m c (stN c) (delN c irq) (kN cause) _ p pc cause tval _ _ irq _ _ (stN_lt hc) (stN_is hc) (delN_lt hc irq) (delN_is hc irq) (kN_is cause) (kN_lt cause) (entM_p _ _) rfl rfl (hc 5).1 (hc 5).2 rfl pb h hg
  · simp only [if_true]
    exact enterp_s c (stN c) (delN c irq) (kN cause) _ p pc cause tval _ _ irq _ _ (stN_lt hc) (stN_is hc) (delN_lt hc irq) (delN_is hc irq) (kN_is cause) (kN_lt cause) (entS_p _ _) rfl rfl (hc 10).1 (hc 10).2 rfl pb h hg
theorem mret_p (c : Nat → Int) (hc : csOk c) {W w : World} (hg : Grew W w) :
    Calls Tryd.prog 12 #[csV c] w fun e w' => e = .returned (.tuple #[csV (upd c 0 (mretN (stN c) : Nat)), .int .i64 (stN c / 2048 % 4 : Nat), .int .u64 (c 7)]) ∧ Grew W w' := by
  have h := mretp_c c (stN c) (stN_lt hc) (stN_is hc) (decide (ofP (stN c) 11 3 = 3)) (by
    by_cases h : ofP (stN c) 11 3 = 3
    · rw [h]; rfl
    · rw [decide_eq_false h]
      simp only [Bool.not_false, bne_iff_ne]
      omega) (mretN (stN c)) (by
    unfold mretN
    rw [leaveM, of_three, setP_one]
    by_cases h : stN c / 2048 % 4 = 3
    · rw [if_pos h, if_pos (by simpa using h)]
    · rw [if_neg h, if_neg (by simpa using h)]) hg
  rw [of_three] at h
  exact h
theorem sret_p (c : Nat → Int) (hc : csOk c) {W w : World} (hg : Grew W w) :
    Calls Tryd.prog 14 #[csV c] w fun e w' => e = .returned (.tuple #[csV (upd c 0 (sretN (stN c) : Nat)), .int .i64 (bitN (stN c) 8 : Nat), .int .u64 (c 12)]) ∧ Grew W w' := by
  have hb := bitN_lt (stN c) 8
  have h := sretp_c c (stN c) (stN_lt hc) (stN_is hc) false (by
    rw [of_one]
    simp only [Bool.not_false, bne_iff_ne]
    omega) (sretN (stN c)) (by rw [if_neg (by simp), leaveS]) hg
  rw [of_one] at h
  exact h
def penIc (c : Nat → Int) (p : Int) : Int := penI (c 4).toNat (c 3).toNat (c 2).toNat (stN c) p
def penBc (c : Nat → Int) (p : Int) : Bool := penB (c 4).toNat (c 3).toNat (c 2).toNat (stN c) p
theorem pend_p (c : Nat → Int) (hc : csOk c) (p : Int) {W w : World} (so : Ord W) (hg : Grew W w) :
    Calls Tryd.prog 8 #[csV c, .int .i64 p] w fun e w' => e = .returned (.tuple #[.int .i64 (penIc c p), .bool (penBc c p)]) ∧ Grew W w' := by
  have h4 := hc 4
  have h3 := hc 3
  have h2 := hc 2
  exact pendp_c c _ _ _ _ (by omega) (by omega) (by omega) (stN_lt hc) (by omega) (by omega) (by omega) (stN_is hc) p so hg
theorem pend_d (c : Nat → Int) (hc : csOk c) (p : Int) {W w : World} (hg : Grew W w) :
    Calls Tryd.prog 16 #[csV c, .int .i64 p] w fun e w' => e = .returned (.tuple #[.int .i64 (penIc c p), .bool (penBc c p)]) ∧ Grew W w' := by
  have h4 := hc 4
  have h3 := hc 3
  have h2 := hc 2
  exact pend_c c _ _ _ _ (by omega) (by omega) (by omega) (stN_lt hc) (by omega) (by omega) (by omega) (stN_is hc) p hg
theorem mret_d (c : Nat → Int) (hc : csOk c) {W w : World} (hg : Grew W w) :
    Calls Tryd.prog 13 #[csV c] w fun e w' => e = .returned (.tuple #[csV (upd c 0 (mretN (stN c) : Nat)), .int .i64 (stN c / 2048 % 4 : Nat), .int .u64 (c 7)]) ∧ Grew W w' := by
  unfold mretN
  by_cases h : stN c / 2048 % 4 = 3
  · rw [if_pos h, h]
    exact mret_three c (stN c) (stN_lt hc) (stN_is hc) h hg
  · rw [if_neg h]
    exact mret_less c (stN c) (stN_lt hc) (stN_is hc) _ (by omega) (by simp only [bne_iff_ne]; omega) hg
theorem sret_d (c : Nat → Int) (hc : csOk c) {W w : World} (hg : Grew W w) :
    Calls Tryd.prog 15 #[csV c] w fun e w' => e = .returned (.tuple #[csV (upd c 0 (sretN (stN c) : Nat)), .int .i64 (bitN (stN c) 8 : Nat), .int .u64 (c 12)]) ∧ Grew W w' :=
  sret_ref c (stN c) (stN_lt hc) (stN_is hc) hg
end Go.Proofs.YtbkbbcfhmjodlaaDoor
