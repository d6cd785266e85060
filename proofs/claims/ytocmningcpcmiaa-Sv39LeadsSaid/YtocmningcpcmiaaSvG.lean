/-
  Plain facts of pages (layer 8): a walk finds a leaf, whoever asks; again; two places of one page; marks; a user's page. No program is looked at here.
-/
import Derived.Test.YtocmningcpcmiaaSvA
import Derived.Test.YtocmningcpcmiaaRamL
set_option linter.unusedVariables false
set_option linter.unusedSimpArgs false
namespace Go.Proofs.Ytocmningcpcmiaa
open Go.RowKit

/-- What the tables tell, whoever asks. -/
inductive Found where
  | no (page : Bool)
  | leaf (p e : Int) (l : Nat)
def svFind (xs : List Int) (x : Int) : Nat → Int → Found
  | 0, _ => .no true
  | l + 1, table =>
    if insideV xs.length (entP table x l) 8 then
      if badE (readV xs (entP table x l) 8) then .no true
      else if leafE (readV xs (entP table x l) 8) then .leaf (entP table x l) (readV xs (entP table x l) 8) l
      else if noneE (readV xs (entP table x l) 8) then .no true
      else svFind xs x l (fieldV (readV xs (entP table x l) 8) 53 10 * 4096)
    else .no false
def done (xs : List Int) (status priv x kind : Int) : Found → Sv
  | .no page => noV xs kind page
  | .leaf p e l => if allowV e status priv kind l then ⟨fieldV (markE e kind) 53 10 * 4096 + fieldV x (11 + 9 * l) 0, writeV xs p 8 (markE e kind), 0, true⟩ else noV xs kind true
theorem svGo_find (xs : List Int) (status priv x kind : Int) : ∀ (l : Nat) (table : Int), svGo xs status priv x kind l table = done xs status priv x kind (svFind xs x l table)
  | 0, _ => rfl
  | l + 1, table => by
    simp only [svGo, svFind]
    split
    · split
      · rfl
      · split
        · rfl
        · split
          · rfl
          · exact svGo_find xs status priv x kind l _
    · rfl
def found (xs : List Int) (satp x : Int) : Found := if sextV x 39 = x then svFind xs x 3 (fieldV satp 43 0 * 4096) else .no true
theorem svV_find (xs : List Int) (satp status priv x kind : Int) : svV xs satp status priv x kind = if 3 ≤ priv ∨ ¬ fieldV satp 63 60 = 8 then ⟨x, xs, 0, true⟩ else done xs status priv x kind (found xs satp x) := by
  unfold svV found
  split
  · rfl
  · split
    · exact svGo_find _ _ _ _ _ _ _
    · rfl

/-! ### What a leaf is -/
structure IsLeaf (xs : List Int) (p e : Int) (l : Nat) : Prop where
  inside : insideV xs.length p 8 = true
  read : readV xs p 8 = e
  good : badE e = false
  leaf : leafE e = true
  level : l ≤ 2
  aligned : p % 8 = 0
theorem entP_al (table x : Int) (l : Nat) (h : table % 8 = 0) : entP table x l % 8 = 0 := by unfold entP; omega
theorem svFind_leaf (xs : List Int) (x : Int) : ∀ (l : Nat) (table : Int), l ≤ 3 → table % 8 = 0 → ∀ p e l', svFind xs x l table = .leaf p e l' → IsLeaf xs p e l'
  | 0, _, _, _, p, e, l', h => by simp [svFind] at h
  | l + 1, table, hl, ht, p, e, l', h => by
    simp only [svFind] at h
    split at h
    · rename_i hin
      split at h
      · cases h
      · rename_i hb
        split at h
        · rename_i hlf
          cases h
          exact ⟨hin, rfl, by simpa using hb, hlf, by omega, entP_al _ _ _ ht⟩
        · split at h
          · cases h
          · exact svFind_leaf xs x l _ (by omega) (by omega) p e l' h
    · cases h
theorem found_leaf {xs : List Int} {satp x p e : Int} {l : Nat} (h : found xs satp x = .leaf p e l) : IsLeaf xs p e l := by
  unfold found at h
  split at h
  · exact svFind_leaf xs x 3 _ (by omega) (by omega) p e l h
  · cases h

/-! ### Marks turn nothing that pages look at -/
theorem field_nat (X hi lo : Nat) (h1 : lo ≤ hi) (h2 : hi ≤ 63) : fieldV (X : Int) hi lo = ((X >>> lo % 2 ^ (hi - lo + 1) : Nat) : Int) := by
  unfold fieldV
  rw [if_pos (by omega), show ((hi : Int) - lo + 1).toNat = hi - lo + 1 by omega, Int.toNat_natCast, Nat.shiftRight_eq_div_pow]
  simp
theorem or_nat (X m : Nat) (hX : X < 18446744073709551616) (hm : m < 18446744073709551616) : bits .or .u64 (X : Int) (m : Int) = ((X ||| m : Nat) : Int) := by
  rw [u64_or _ _ (by omega) (by omega) (by omega) (by omega), Int.toNat_natCast, Int.toNat_natCast]
theorem field_or (e : Int) (he : 0 ≤ e ∧ e < 18446744073709551616) (m hi lo : Nat) (hm : m < 18446744073709551616) (h1 : lo ≤ hi) (h2 : hi ≤ 63) (hout : ∀ i, lo ≤ i → i ≤ hi → m.testBit i = false) :
    fieldV (bits .or .u64 e (m : Int)) hi lo = fieldV e hi lo := by
  obtain ⟨X, rfl⟩ := Int.eq_ofNat_of_zero_le he.1
  rw [or_nat X m (by omega) hm, field_nat _ _ _ h1 h2, field_nat _ _ _ h1 h2]
  congr 1
  apply Nat.eq_of_testBit_eq
  intro i
  rw [Nat.testBit_mod_two_pow, Nat.testBit_mod_two_pow, Nat.testBit_shiftRight, Nat.testBit_shiftRight, Nat.testBit_or]
  by_cases hi' : i < hi - lo + 1
  · rw [hout (lo + i) (by omega) (by omega), Bool.or_false]
  · simp [hi']
theorem tb64 (i : Nat) (h : i ≠ 6) : (64 : Nat).testBit i = false := by
  rw [show (64 : Nat) = 2 ^ 6 by decide, Nat.testBit_two_pow]; simpa using fun h' => h h'.symm
theorem tb128 (i : Nat) (h : i ≠ 7) : (128 : Nat).testBit i = false := by
  rw [show (128 : Nat) = 2 ^ 7 by decide, Nat.testBit_two_pow]; simpa using fun h' => h h'.symm
theorem field_mark (e kind : Int) (he : 0 ≤ e ∧ e < 18446744073709551616) (hi lo : Nat) (h1 : lo ≤ hi) (h2 : hi ≤ 63) (hout : hi < 6 ∨ 7 < lo) : fieldV (markE e kind) hi lo = fieldV e hi lo := by
  have a := fun (e : Int) he => field_or e he 64 hi lo (by omega) h1 h2 (fun i q1 q2 => tb64 i (by omega))
  have b := fun (e : Int) he => field_or e he 128 hi lo (by omega) h1 h2 (fun i q1 q2 => tb128 i (by omega))
  unfold markE
  split
  · exact (b _ (orI_lt _ _ he (by omega))).trans (a _ he)
  · exact a _ he
theorem bad_mark (e kind : Int) (he : 0 ≤ e ∧ e < 18446744073709551616) : badE (markE e kind) = badE e := by
  have h1 := field_mark e kind he 0 0 (by omega) (by omega) (by omega)
  have h2 := field_mark e kind he 2 1 (by omega) (by omega) (by omega)
  have h3 := field_mark e kind he 63 54 (by omega) (by omega) (by omega)
  simp only [badE]
  rw [show fieldV (markE e kind) 0 0 = fieldV e 0 0 from h1, show fieldV (markE e kind) 2 1 = fieldV e 2 1 from h2, show fieldV (markE e kind) 63 54 = fieldV e 63 54 from h3]
theorem leaf_mark (e kind : Int) (he : 0 ≤ e ∧ e < 18446744073709551616) : leafE (markE e kind) = leafE e := by
  simp only [leafE]
  rw [show fieldV (markE e kind) 1 1 = fieldV e 1 1 from field_mark e kind he 1 1 (by omega) (by omega) (by omega), show fieldV (markE e kind) 3 3 = fieldV e 3 3 from field_mark e kind he 3 3 (by omega) (by omega) (by omega)]
theorem allow_mark (e kind status priv kind' : Int) (l : Nat) (hl : l ≤ 2) (he : 0 ≤ e ∧ e < 18446744073709551616) : allowV (markE e kind) status priv kind' l = allowV e status priv kind' l := by
  have hlow : fieldV (markE e kind) (9 + 9 * (l : Int)) 10 = fieldV e (9 + 9 * (l : Int)) 10 ∨ l = 0 := by
    by_cases h : l = 0
    · exact .inr h
    · left
      have := field_mark e kind he (9 + 9 * l) 10 (by omega) (by omega) (by omega)
      rw [show ((9 + 9 * l : Nat) : Int) = 9 + 9 * (l : Int) by omega] at this
      exact this
  simp only [allowV, userV, permV, lowV]
  rw [show fieldV (markE e kind) 1 1 = fieldV e 1 1 from field_mark e kind he 1 1 (by omega) (by omega) (by omega), show fieldV (markE e kind) 2 2 = fieldV e 2 2 from field_mark e kind he 2 2 (by omega) (by omega) (by omega),
    show fieldV (markE e kind) 3 3 = fieldV e 3 3 from field_mark e kind he 3 3 (by omega) (by omega) (by omega), show fieldV (markE e kind) 4 4 = fieldV e 4 4 from field_mark e kind he 4 4 (by omega) (by omega) (by omega)]
  rcases hlow with h | h
  · rw [h]
  · subst h; simp
theorem mark_mark (e kind : Int) (he : 0 ≤ e ∧ e < 18446744073709551616) : markE (markE e kind) kind = markE e kind := by
  obtain ⟨X, rfl⟩ := Int.eq_ofNat_of_zero_le he.1
  have hX : X < 2 ^ 64 := by omega
  have l1 : X ||| 64 < 2 ^ 64 := Nat.or_lt_two_pow hX (by omega)
  have l2 : X ||| 64 ||| 128 < 2 ^ 64 := Nat.or_lt_two_pow l1 (by omega)
  have l3 : X ||| 64 ||| 128 ||| 64 < 2 ^ 64 := Nat.or_lt_two_pow l2 (by omega)
  have o := fun (Y m : Nat) (hY : Y < 2 ^ 64) (hm : m < 2 ^ 64) => or_nat Y m (by omega) (by omega)
  unfold markE
  split
  · have e1 : bits .or .u64 (bits .or .u64 (X : Int) 64) 128 = ((X ||| 64 ||| 128 : Nat) : Int) := by
      rw [show (64 : Int) = ((64 : Nat) : Int) from rfl, show (128 : Int) = ((128 : Nat) : Int) from rfl, o X 64 hX (by omega), o _ 128 l1 (by omega)]
    rw [e1, show (64 : Int) = ((64 : Nat) : Int) from rfl, show (128 : Int) = ((128 : Nat) : Int) from rfl, o _ 64 l2 (by omega), o _ 128 l3 (by omega)]
    congr 1
    apply Nat.eq_of_testBit_eq
    intro i
    simp only [Nat.testBit_or]
    cases X.testBit i <;> cases (64 : Nat).testBit i <;> cases (128 : Nat).testBit i <;> rfl
  · have e1 : bits .or .u64 (X : Int) 64 = ((X ||| 64 : Nat) : Int) := by
      rw [show (64 : Int) = ((64 : Nat) : Int) from rfl, o X 64 hX (by omega)]
    rw [e1, show (64 : Int) = ((64 : Nat) : Int) from rfl, o _ 64 l1 (by omega)]
    congr 1
    apply Nat.eq_of_testBit_eq
    intro i
    simp only [Nat.testBit_or]
    cases X.testBit i <;> cases (64 : Nat).testBit i <;> rfl

/-! ### Again -/
theorem svFind_again (xs : List Int) (x p e kind : Int) (l : Nat) (hb : AreBytes xs) (hL : IsLeaf xs p e l) : ∀ (k : Nat) (table : Int), table % 8 = 0 → svFind xs x k table = .leaf p e l → svFind (writeV xs p 8 (markE e kind)) x k table = .leaf p (markE e kind) l
  | 0, _, _, h => by simp [svFind] at h
  | k + 1, table, ht, h => by
    have he : 0 ≤ e ∧ e < 18446744073709551616 := by rw [← hL.read]; exact readV_lt hb _ _
    have hlen : (writeV xs p 8 (markE e kind)).length = xs.length := writeV_length _ _ _ _
    have hal := entP_al table x k ht
    simp only [svFind] at h ⊢
    rw [hlen]
    by_cases hin : insideV xs.length (entP table x k) 8 = true
    · rw [if_pos hin] at h ⊢
      by_cases hp : entP table x k = p
      · rw [hp, hL.read] at h
        rw [hp, read_write8 hL.inside (markE_lt e kind he).1 (markE_lt e kind he).2, bad_mark e kind he, leaf_mark e kind he, hL.good, hL.leaf]
        rw [hL.good, hL.leaf] at h
        simp only [Bool.false_eq_true, if_false, if_true] at h ⊢
        injection h with h1 h2 h3
        rw [h3]
      · rw [read_else8 hL.inside hL.aligned hal hp]
        split at h
        · cases h
        · rename_i hbad
          rw [if_neg hbad]
          split at h
          · cases h; exact absurd rfl hp
          · rename_i hleaf
            rw [if_neg hleaf]
            split at h
            · cases h
            · rename_i hnone
              rw [if_neg hnone]
              exact svFind_again xs x p e kind l hb hL k _ (by omega) h
    · rw [if_neg hin] at h; cases h
theorem found_again {xs : List Int} {satp x p e : Int} {l : Nat} (kind : Int) (hb : AreBytes xs) (h : found xs satp x = .leaf p e l) : found (writeV xs p 8 (markE e kind)) satp x = .leaf p (markE e kind) l := by
  have hL := found_leaf h
  unfold found at *
  split at h
  · rename_i hx
    rw [if_pos hx]
    exact svFind_again xs x p e kind l hb hL 3 _ (by omega) h
  · cases h
theorem fault_pos (kind : Int) (page : Bool) : 0 < faultV kind page := by
  unfold faultV
  repeat' split
  all_goals omega
/-- A fault: nothing is another. -/
theorem sv_no {xs : List Int} {satp status priv x kind : Int} (h : (svV xs satp status priv x kind).ok = false) : ∃ page, svV xs satp status priv x kind = noV xs kind page := by
  rw [svV_find] at *
  split at h
  · cases h
  · rename_i hm
    rw [if_neg hm]
    cases hf : found xs satp x with
    | no page => exact ⟨page, rfl⟩
    | leaf p e l =>
      rw [hf] at h
      simp only [done] at h ⊢
      split at h
      · cases h
      · rename_i ha
        rw [if_neg ha]
        exact ⟨true, rfl⟩
/-- What was translated is translated the same again. -/
theorem sv_again {xs : List Int} (hb : AreBytes xs) {satp status priv x kind : Int} (h : (svV xs satp status priv x kind).ok = true) :
    svV (svV xs satp status priv x kind).mem satp status priv x kind = svV xs satp status priv x kind ∧ (svV xs satp status priv x kind).cause = 0 := by
  rw [svV_find xs] at *
  split at h
  · rename_i hm
    rw [if_pos hm, svV_find, if_pos hm]
    exact ⟨rfl, rfl⟩
  · rename_i hm
    rw [if_neg hm, svV_find, if_neg hm]
    cases hf : found xs satp x with
    | no page => rw [hf] at h; cases h
    | leaf p e l =>
      have hL := found_leaf hf
      have he : 0 ≤ e ∧ e < 18446744073709551616 := by rw [← hL.read]; exact readV_lt hb _ _
      rw [hf] at h
      simp only [done] at h ⊢
      split at h
      · rename_i ha
        rw [if_pos ha]
        dsimp only
        rw [found_again kind hb hf]
        refine ⟨?_, rfl⟩
        simp only [done]
        rw [allow_mark e kind status priv kind l hL.level he, if_pos ha, mark_mark e kind he]
        have hin : insideV (writeV xs p 8 (markE e kind)).length p 8 = true := by rw [writeV_length]; exact hL.inside
        have hw := write_read8 (xs := writeV xs p 8 (markE e kind)) (writeV_ok _ _ _ hb) hin
        rw [read_write8 hL.inside (markE_lt e kind he).1 (markE_lt e kind he).2] at hw
        rw [hw]
      · cases h
end Go.Proofs.Ytocmningcpcmiaa
