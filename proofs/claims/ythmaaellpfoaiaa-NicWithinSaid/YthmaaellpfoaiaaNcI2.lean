/-
  Plain facts: which bytes of memory are others behind a send, or a frame that comes.
-/
import Derived.Test.YthmaaellpfoaiaaRows
import Derived.Test.YthmaaellpfoaiaaNcZ
import Derived.WalkKit
import Derived.Outline
import Derived.Handy
import Derived.StillTailTactics
import Derived.Deep.QuietTactic
import Derived.BigQuiet
import Derived.Deep.DeepCutAuto
import Derived.Deep.RegionHeld3
import Derived.Great.BuildSlice
import Derived.Deep.WholeRow
import Derived.Lib.SliceRun
import Derived.BigFrame
set_option maxRecDepth 4000
set_option linter.unusedVariables false
set_option linter.unusedSimpArgs false
namespace Go.Proofs.Ythmaaellpfoaiaa
open Go.RowKit

/-- Is p within n bytes from a on? -/
def insB (p a n : Int) : Bool := decide (a ≤ p) && decide (p - a < n)
theorem inside_b (p a n : Int) (hp0 : 0 ≤ p) (hp1 : p < 18446744073709551616) (ha0 : 0 ≤ a) (ha1 : a < 18446744073709551616) (hn0 : 0 ≤ n) (hn1 : n ≤ 9223372036854775807) (w : World) : Calls Try.prog 29 #[.int .u64 p, .int .u64 a, .int .i64 n] w fun e w' => e = .returned (.bool (insB p a n)) ∧ w = w' := by
  have hw : IntKind.u64.wrap n = n := IntWalk.u64_in _ (by omega)
  unfold insB
  by_cases h1 : a ≤ p
  · have hs : IntKind.u64.wrap (p - a) = p - a := IntWalk.u64_in _ (by omega)
    rw [decide_eq_true h1, Bool.true_and]
    go_enter Try.func29, Try.ntmps29
    go_wp2_with fail
    go_ret
    exact ⟨rfl, rfl⟩
  · rw [decide_eq_false h1, Bool.false_and]
    go_enter Try.func29, Try.ntmps29
    go_wp2_with fail
    go_ret
    exact ⟨rfl, rfl⟩
theorem fillV_else {xs ys : List Int} {x : Int} {i : Nat} (h : (fillV xs x ys).getD i 0 ≠ xs.getD i 0) : insB (2147483648 + (i : Int)) x ys.length = true := by
  unfold fillV at h
  split at h
  · rename_i hi
    obtain ⟨lo, k, rfl, hk, hlo⟩ := insideV_no hi
    have hk' : k = ys.length := by omega
    subst hk'
    rw [show (2147483648 + (lo : Int) - 2147483648).toNat = lo by omega] at h
    have hg := lay_get xs ys lo i hlo
    have : lo ≤ i ∧ i < lo + ys.length := by
      refine ⟨Nat.le_of_not_lt fun hlt => ?_, Nat.lt_of_not_le fun hle => ?_⟩
      · rw [if_pos hlt] at hg
        exact h (by rw [List.getD_eq_getElem?_getD, List.getD_eq_getElem?_getD, hg])
      · rw [if_neg (by omega), if_neg (by omega)] at hg
        exact h (by rw [List.getD_eq_getElem?_getD, List.getD_eq_getElem?_getD, hg])
    unfold insB
    rw [decide_eq_true (by omega), decide_eq_true (by omega)]
    rfl
  · exact absurd rfl h
theorem writeV_else {xs : List Int} {x n y : Int} {i : Nat} (h0 : 0 ≤ n) (h : (writeV xs x n y).getD i 0 ≠ xs.getD i 0) : insB (2147483648 + (i : Int)) x n = true := by
  unfold writeV at h
  split at h
  · have := fillV_else h
    rw [putL_length] at this
    rwa [show ((n.toNat : Nat) : Int) = n by omega] at this
  · exact absurd rfl h
theorem sendR_else {c : Nat → Int} {xs : List Int} {i : Nat} (h : (sendR c xs).xs.getD i 0 ≠ xs.getD i 0) : insB (2147483648 + (i : Int)) (atT c + 10) 4 = true := by
  unfold sendR at h
  split at h
  · split at h
    · split at h
      · split at h
        · exact writeV_else (by decide) h
        · exact writeV_else (by decide) h
      · exact absurd rfl h
    · exact absurd rfl h
  · exact absurd rfl h
theorem insB_sub {p a n b m : Int} (h : insB p a n = true) (h1 : b ≤ a) (h2 : a + n ≤ b + m) : insB p b m = true := by
  unfold insB at *
  simp only [Bool.and_eq_true, decide_eq_true_eq] at h ⊢
  omega
/-- The parts of a descriptor, read alone. -/
theorem parts_read {xs : List Int} {x : Int} (h : insideV xs.length x 16 = true) : readV xs x 8 = adrV (bytesV xs x 16) ∧ readV xs (x + 8) 2 = lenV (bytesV xs x 16) := by
  obtain ⟨lo, rfl, hlo⟩ := inside16 h
  have e16 : bytesV xs (2147483648 + (lo : Int)) 16 = cutL xs lo (lo + 16) := by rw [show (16 : Int) = ((16 : Nat) : Int) from rfl, bytesV_in hlo]
  have e8 : bytesV xs (2147483648 + (lo : Int)) 8 = cutL xs lo (lo + 8) := by rw [show (8 : Int) = ((8 : Nat) : Int) from rfl, bytesV_in (by omega)]
  have e2 : bytesV xs (2147483648 + (lo : Int) + 8) 2 = cutL xs (lo + 8) (lo + 8 + 2) := by rw [show 2147483648 + (lo : Int) + 8 = 2147483648 + ((lo + 8 : Nat) : Int) by omega, show (2 : Int) = ((2 : Nat) : Int) from rfl, bytesV_in (by omega)]
  have c0 : cutL (cutL xs lo (lo + 16)) 0 8 = cutL xs lo (lo + 8) := by
    simp only [cutL, List.drop_zero, show lo + 16 - lo = 16 by omega, show lo + 8 - lo = 8 by omega, Nat.sub_zero]
    rw [List.take_take]; rfl
  have c8 : cutL (cutL xs lo (lo + 16)) 8 10 = cutL xs (lo + 8) (lo + 8 + 2) := by
    simp only [cutL, show lo + 16 - lo = 16 by omega, show lo + 8 + 2 - (lo + 8) = 2 by omega, show 10 - 8 = 2 by omega]
    rw [List.drop_take, List.take_take, List.drop_drop]
    rfl
  unfold readV adrV lenV
  rw [show sizeV 8 = true from rfl, show sizeV 2 = true from rfl, e8, e2, e16, c0, c8]
  exact ⟨rfl, rfl⟩
theorem recvR_else {c : Nat → Int} {xs fs : List Int} {i : Nat} (hx : AreBytes xs) (h : (recvR c xs fs).xs.getD i 0 ≠ xs.getD i 0) : readV xs (atR c + 10) 1 % 2 ≠ 0 ∧ (insB (2147483648 + (i : Int)) (atR c + 8) 6 = true ∨ insB (2147483648 + (i : Int)) (readV xs (atR c) 8) (readV xs (atR c + 8) 2) = true) := by
  unfold recvR at h
  split at h
  rotate_left
  · exact absurd rfl h
  split at h
  rotate_left
  · exact absurd rfl h
  split at h
  rotate_left
  · exact absurd rfl h
  rename_i hin
  have h16 := bytesV_16 hin
  obtain ⟨hf1, hf2⟩ := flag_read hin
  obtain ⟨hp1, hp2⟩ := parts_read hin
  split at h
  rotate_left
  · exact absurd rfl h
  rename_i hown
  rw [own_flag (bytesV_ok hx _ _) h16] at hown
  have hodd : readV xs (atR c + 10) 1 % 2 ≠ 0 := by
    rw [hf2]
    unfold bitB at hown
    rw [Int.ediv_one] at hown
    have : (bytesV xs (atR c) 16).getD 10 0 % 2 = 1 := by simpa using hown
    omega
  refine ⟨hodd, ?_⟩
  rw [hp1, hp2]
  split at h
  · left
    exact insB_sub (writeV_else (x := atR c + 10) (n := 4) (by decide) h) (by omega) (by omega)
  · rename_i hroom
    have hroom' : decide (lenV (bytesV xs (atR c) 16) < (fs.length : Int)) = false := by
      cases hd : decide (lenV (bytesV xs (atR c) 16) < (fs.length : Int))
      · rfl
      · rw [hd] at hroom; simp at hroom
    have hle : (fs.length : Int) ≤ lenV (bytesV xs (atR c) 16) := by simpa using hroom'
    by_cases h3 : (fillV (writeV xs (atR c + 8) 2 (fs.length : Int)) (adrV (bytesV xs (atR c) 16)) fs).getD i 0 = xs.getD i 0
    · left
      refine insB_sub (writeV_else (xs := fillV (writeV xs (atR c + 8) 2 (fs.length : Int)) (adrV (bytesV xs (atR c) 16)) fs) (x := atR c + 10) (n := 4) (y := bothV (bytesV xs (atR c) 16) 1) (by decide) (by rw [h3]; exact h)) (by omega) (by omega)
    · by_cases h4 : (writeV xs (atR c + 8) 2 (fs.length : Int)).getD i 0 = xs.getD i 0
      · right
        exact insB_sub (fillV_else (by rw [h4]; exact h3)) (Int.le_refl _) (by omega)
      · left
        exact insB_sub (writeV_else (x := atR c + 8) (n := 2) (by decide) h4) (Int.le_refl _) (by omega)
theorem within_meas {t k : Nat} (h : k < t) (hw : wrap64 ((k : Int) + 1) = (k : Int) + 1) : t - (intOf (.int .i64 (wrap64 ((k : Int) + 1)))).toNat < t - (intOf (.int .i64 (k : Int))).toNat := by
  rw [hw]
  show t - ((k : Int) + 1).toNat < t - ((k : Int)).toNat
  omega
theorem within_wrap {t k : Nat} (h : k < t) (h1 : ((t : Nat) : Int) ≤ 70000) : wrap64 ((k : Int) + 1) = (k : Int) + 1 := IntWalk.wrap64_in _ (by omega)
theorem within_meas2 {t k : Nat} (h : k < t) : t - (intOf (.int .i64 ((k : Int) + 1))).toNat < t - (intOf (.int .i64 (k : Int))).toNat := by
  show t - ((k : Int) + 1).toNat < t - ((k : Int)).toNat
  omega
theorem readV_lt2 {xs : List Int} (h : AreBytes xs) (x : Int) : 0 ≤ readV xs x 2 ∧ readV xs x 2 < 65536 := by
  unfold readV
  rw [show sizeV 2 = true from rfl, if_pos rfl]
  have hl : (bytesV xs x 2).length ≤ 2 := by
    unfold bytesV
    split
    · simp only [cutL, List.length_take]; omega
    · simp
  have := getV_ltn (bytesV_ok h x 2) 2 hl
  have e : getV (bytesV xs x 2) false < 65536 := this.2.1
  exact ⟨this.1, e⟩
theorem readV_lt8 {xs : List Int} (h : AreBytes xs) (x n : Int) : 0 ≤ readV xs x n ∧ readV xs x n < 18446744073709551616 := by
  unfold readV
  split
  · exact getV_lt (bytesV_ok h x n) false
  · omega
end Go.Proofs.Ythmaaellpfoaiaa
