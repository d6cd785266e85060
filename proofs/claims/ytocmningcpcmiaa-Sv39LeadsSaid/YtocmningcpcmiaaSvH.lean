/-
  Plain facts of pages (layer 8): two places of one page; what is marked; a user's page. No program is looked at here.
-/
import Derived.Test.YtocmningcpcmiaaSvG
set_option linter.unusedVariables false
set_option linter.unusedSimpArgs false
namespace Go.Proofs.Ytocmningcpcmiaa
open Go.RowKit

/-! ### Two places of one page -/
theorem field_page {x y : Int} (h : x / 4096 = y / 4096) (l : Nat) (hl : l ≤ 2) : fieldV x (20 + 9 * l) (12 + 9 * l) = fieldV y (20 + 9 * l) (12 + 9 * l) := by
  obtain rfl | rfl | rfl : l = 0 ∨ l = 1 ∨ l = 2 := by omega
  all_goals
    unfold fieldV
    rw [if_pos (by omega), if_pos (by omega)]
    simp only [show ((12 : Int) + 9 * ((0 : Nat) : Int)).toNat = 12 by decide, show ((12 : Int) + 9 * ((1 : Nat) : Int)).toNat = 21 by decide, show ((12 : Int) + 9 * ((2 : Nat) : Int)).toNat = 30 by decide, show (2 : Int) ^ 12 = 4096 by decide, show (2 : Int) ^ 21 = 2097152 by decide, show (2 : Int) ^ 30 = 1073741824 by decide]
    congr 1 <;> omega
theorem svFind_page (xs : List Int) {x y : Int} (h : x / 4096 = y / 4096) : ∀ (k : Nat) (table : Int), k ≤ 3 → svFind xs x k table = svFind xs y k table
  | 0, _, _ => rfl
  | k + 1, table, hk => by
    have he : entP table x k = entP table y k := by unfold entP; rw [field_page h k (by omega)]
    simp only [svFind]
    rw [he, svFind_page xs h k _ (by omega)]
theorem sext_page {x y : Int} (h : x / 4096 = y / 4096) (hx : 0 ≤ x ∧ x < 18446744073709551616) (hy : 0 ≤ y ∧ y < 18446744073709551616) (hs : sextV x 39 = x) : sextV y 39 = y := by
  unfold sextV at *
  rw [if_neg (by omega), if_neg (by omega)] at *
  simp only [show (39 : Int).toNat = 39 by decide, show (39 - 1 : Nat) = 38 by decide, show (2 : Int) ^ 39 = 549755813888 by decide, show (2 : Int) ^ 38 = 274877906944 by decide] at *
  split at hs
  · rw [if_pos (by omega)]; omega
  · rw [if_neg (by omega)]; omega
theorem found_page {xs : List Int} {satp x y : Int} (h : x / 4096 = y / 4096) (hx : 0 ≤ x ∧ x < 18446744073709551616) (hy : 0 ≤ y ∧ y < 18446744073709551616) : found xs satp x = found xs satp y := by
  unfold found
  by_cases hs : sextV x 39 = x
  · rw [if_pos hs, if_pos (sext_page h hx hy hs), svFind_page xs h 3 _ (by omega)]
  · rw [if_neg hs, if_neg (fun h' => hs (sext_page h.symm hy hx h'))]
theorem low_at (q a : Int) (l : Nat) (hl : l ≤ 2) (ha : 0 ≤ a ∧ a < 4096) : ∃ t, 0 ≤ t ∧ t < 262144 ∧ fieldV (4096 * q + a) (11 + 9 * l) 0 = 4096 * t + a ∧ ∀ b, 0 ≤ b ∧ b < 4096 → fieldV (4096 * q + b) (11 + 9 * l) 0 = 4096 * t + b := by
  have key : ∀ b, 0 ≤ b ∧ b < 4096 → fieldV (4096 * q + b) (11 + 9 * l) 0 = 4096 * (q % 2 ^ (9 * l)) + b := by
    intro b hb
    obtain rfl | rfl | rfl : l = 0 ∨ l = 1 ∨ l = 2 := by omega
    all_goals
      unfold fieldV
      rw [if_pos (by omega)]
      simp only [show ((11 : Int) + 9 * ((0 : Nat) : Int) - 0 + 1).toNat = 12 by decide, show ((11 : Int) + 9 * ((1 : Nat) : Int) - 0 + 1).toNat = 21 by decide, show ((11 : Int) + 9 * ((2 : Nat) : Int) - 0 + 1).toNat = 30 by decide, show (2 : Int) ^ 12 = 4096 by decide, show (2 : Int) ^ 21 = 2097152 by decide, show (2 : Int) ^ 30 = 1073741824 by decide,
        show (0 : Int).toNat = 0 by decide, Int.pow_zero, Int.ediv_one, show (2 : Int) ^ (9 * 0) = 1 by decide, show (2 : Int) ^ (9 * 1) = 512 by decide, show (2 : Int) ^ (9 * 2) = 262144 by decide]
      omega
  refine ⟨q % 2 ^ (9 * l), ?_, ?_, key a ha, key⟩
  · exact Int.emod_nonneg _ (Int.ne_of_gt (pow_pos' _))
  · have h1 := Int.emod_lt_of_pos q (pow_pos' (9 * l))
    have h2 := pow_le_pow' (m := 9 * l) (n := 18) (by omega)
    rw [show (2 : Int) ^ 18 = 262144 by decide] at h2
    omega
/-- The whole of it. -/
theorem sv_offset {xs : List Int} (satp status priv kind q a b : Int) (hq : 0 ≤ q ∧ q < 4503599627370496) (ha : 0 ≤ a ∧ a < 4096) (hb : 0 ≤ b ∧ b < 4096) :
    (svV xs satp status priv (4096 * q + a) kind).ok = (svV xs satp status priv (4096 * q + b) kind).ok ∧ (svV xs satp status priv (4096 * q + a) kind).mem = (svV xs satp status priv (4096 * q + b) kind).mem ∧
      ((svV xs satp status priv (4096 * q + a) kind).ok = true → ∃ r, 0 ≤ r ∧ r < 4503599627370496 ∧ (svV xs satp status priv (4096 * q + a) kind).addr = 4096 * r + a ∧ (svV xs satp status priv (4096 * q + b) kind).addr = 4096 * r + b) := by
  rw [svV_find, svV_find]
  by_cases hm : 3 ≤ priv ∨ ¬ fieldV satp 63 60 = 8
  · rw [if_pos hm, if_pos hm]
    exact ⟨rfl, rfl, fun _ => ⟨q, hq.1, hq.2, rfl, rfl⟩⟩
  · rw [if_neg hm, if_neg hm, found_page (x := 4096 * q + a) (y := 4096 * q + b) (by omega) (by omega) (by omega)]
    cases hf : found xs satp (4096 * q + b) with
    | no page => exact ⟨rfl, rfl, fun h => by cases h⟩
    | leaf p e l =>
      have hL := found_leaf hf
      simp only [done]
      split
      · refine ⟨rfl, rfl, fun _ => ?_⟩
        obtain ⟨t, t0, t1, ht, hall⟩ := low_at q a l hL.level ha
        have hF := table_lt (markE e kind) 53 10 (by omega) (by omega) (by omega) (by decide)
        refine ⟨fieldV (markE e kind) 53 10 + t, by omega, by omega, ?_, ?_⟩
        · dsimp only; rw [ht]; omega
        · dsimp only; rw [hall b hb]; omega
      · exact ⟨rfl, rfl, fun h => by cases h⟩

/-! ### What is marked -/
theorem byte_field (e : Int) (i : Nat) (hi : i ≤ 7) : byteV e i = fieldV e (8 * i + 7 : Nat) (8 * i : Nat) := by
  unfold byteV fieldV
  rw [if_pos (by omega), show (((8 * i + 7 : Nat) : Int) - ((8 * i : Nat) : Int) + 1).toNat = 8 by omega, Int.toNat_natCast]
  rfl
theorem byte_mark (e kind : Int) (he : 0 ≤ e ∧ e < 18446744073709551616) (i : Nat) (h1 : 1 ≤ i) (h7 : i ≤ 7) : byteV (markE e kind) i = byteV e i := by
  rw [byte_field _ i h7, byte_field _ i h7]
  exact field_mark e kind he (8 * i + 7) (8 * i) (by omega) (by omega) (by omega)
/-- What a mark makes of a byte. -/
def markB (b : Nat) (kind : Int) : Nat := if kind = 2 then b ||| 64 ||| 128 else b ||| 64
theorem or_mod (X m : Nat) (hm : m < 256) : (X ||| m) % 256 = X % 256 ||| m := by
  apply Nat.eq_of_testBit_eq
  intro i
  rw [show (256 : Nat) = 2 ^ 8 by decide, Nat.testBit_mod_two_pow, Nat.testBit_or, Nat.testBit_or, Nat.testBit_mod_two_pow]
  by_cases h : i < 8
  · simp [h]
  · have : m.testBit i = false := Nat.testBit_lt_two_pow (Nat.lt_of_lt_of_le hm (by rw [show (256 : Nat) = 2 ^ 8 by decide]; exact Nat.pow_le_pow_right (by omega) (by omega)))
    simp [h, this]
theorem byte_mark0 (e kind : Int) (he : 0 ≤ e ∧ e < 18446744073709551616) : byteV (markE e kind) 0 = (markB (byteV e 0).toNat kind : Int) := by
  obtain ⟨X, rfl⟩ := Int.eq_ofNat_of_zero_le he.1
  have hX : X < 2 ^ 64 := by omega
  have hb : ∀ Y : Nat, byteV (Y : Int) 0 = ((Y % 256 : Nat) : Int) := fun Y => by unfold byteV; simp
  unfold markE markB
  split
  · have e1 : bits .or .u64 (bits .or .u64 (X : Int) 64) 128 = ((X ||| 64 ||| 128 : Nat) : Int) := by
      rw [show (64 : Int) = ((64 : Nat) : Int) from rfl, show (128 : Int) = ((128 : Nat) : Int) from rfl, or_nat X 64 (by omega) (by omega), or_nat _ 128 (by have : X ||| 64 < 2 ^ 64 := Nat.or_lt_two_pow hX (by omega); omega) (by omega)]
    rw [e1, hb, hb, Int.toNat_natCast, or_mod _ 128 (by omega), or_mod _ 64 (by omega)]
  · have e1 : bits .or .u64 (X : Int) 64 = ((X ||| 64 : Nat) : Int) := by
      rw [show (64 : Int) = ((64 : Nat) : Int) from rfl, or_nat X 64 (by omega) (by omega)]
    rw [e1, hb, hb, Int.toNat_natCast, or_mod _ 64 (by omega)]
/-- Nothing is another but one byte, which is marked. -/
theorem sv_marks {xs : List Int} (hb : AreBytes xs) (satp status priv x kind : Int) : ∃ lo : Nat, lo % 8 = 0 ∧ ∀ i, i < xs.length → (svV xs satp status priv x kind).mem.getD i 0 = xs.getD i 0 ∨ (i = lo ∧ (svV xs satp status priv x kind).mem.getD i 0 = (markB (xs.getD i 0).toNat kind : Int)) := by
  rw [svV_find]
  split
  · exact ⟨0, rfl, fun i _ => .inl rfl⟩
  · cases hf : found xs satp x with
    | no page => exact ⟨0, rfl, fun i _ => .inl rfl⟩
    | leaf p e l =>
      have hL := found_leaf hf
      have he : 0 ≤ e ∧ e < 18446744073709551616 := by rw [← hL.read]; exact readV_lt hb _ _
      simp only [done]
      split
      · obtain ⟨lo, rfl, hlo⟩ := inside8 hL.inside
        have hal := hL.aligned
        refine ⟨lo, by omega, fun i hi => ?_⟩
        dsimp only
        have hcl : (cutL xs lo (lo + 8)).length = 8 := by rw [cutL_length (by omega) hlo]; omega
        have hput : putL e 8 false = cutL xs lo (lo + 8) := by
          have := putL_getV (hb.cut lo (lo + 8)) (by omega)
          rw [hcl] at this
          rw [← hL.read, read8 hlo]; exact this
        have hbyte : ∀ j, j < 8 → byteV e j = xs.getD (lo + j) 0 := fun j hj => by
          have h1 := putL_getElem e 8 j hj
          rw [hput] at h1
          have h2 := cutL_getD (xs := xs) (lo := lo) (hi := lo + 8) (i := j) (by omega)
          rw [List.getD_eq_getElem?_getD, h1] at h2
          exact h2
        rw [write8 hlo, List.getD_eq_getElem?_getD, lay_get _ _ _ _ (by rw [putL_length]; exact hlo), putL_length]
        by_cases h1 : i < lo
        · rw [if_pos h1, ← List.getD_eq_getElem?_getD]; exact .inl rfl
        · rw [if_neg h1]
          by_cases h2 : i < lo + 8
          · rw [if_pos h2, putL_getElem _ 8 (i - lo) (by omega)]
            by_cases h3 : i = lo
            · subst h3
              right
              refine ⟨rfl, ?_⟩
              rw [show i - i = 0 by omega]
              simp only [Option.getD_some]
              rw [byte_mark0 e kind he, hbyte 0 (by omega), Nat.add_zero]
            · left
              simp only [Option.getD_some]
              rw [byte_mark e kind he (i - lo) (by omega) (by omega), hbyte (i - lo) (by omega), show lo + (i - lo) = i by omega]
          · rw [if_neg h2, ← List.getD_eq_getElem?_getD]; exact .inl rfl
      · exact ⟨0, rfl, fun i _ => .inl rfl⟩

/-! ### A user's page -/
theorem sv_user {xs : List Int} {satp status x kind : Int} (hm : fieldV satp 63 60 = 8) (h : (svV xs satp status 0 x kind).ok = true) (status' kind' : Int) (hs : kind' = 0 ∨ fieldV status' 18 18 = 0) : (svV xs satp status' 1 x kind').ok = false := by
  rw [svV_find] at *
  rw [if_neg (by omega)] at *
  cases hf : found xs satp x with
  | no page => rw [hf] at h; cases h
  | leaf p e l =>
    rw [hf] at h
    simp only [done] at h ⊢
    split at h
    · rename_i ha
      have hu : (fieldV e 4 4 == 1) = true := by
        simp only [allowV, userV, Bool.and_eq_true] at ha
        have := ha.1.1
        rw [if_pos (by omega)] at this
        exact this
      have hn : allowV e status' 1 kind' l = false := by
        simp only [allowV, userV]
        rw [if_neg (by omega), hu]
        rcases hs with h | h
        · simp [h]
        · simp [h]
      rw [if_neg (by rw [hn]; exact Bool.false_ne_true)]
      rfl
    · cases h
end Go.Proofs.Ytocmningcpcmiaa
