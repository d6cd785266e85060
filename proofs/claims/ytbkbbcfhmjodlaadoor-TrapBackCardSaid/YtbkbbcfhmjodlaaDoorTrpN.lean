/-
  Bits of Status behind traps and returns; registers that may be stay so (TrapBack's plain part).
-/
import Derived.Test.YtbkbbcfhmjodlaaDoorTrpM
import Derived.Test.YtbkbbcfhmjodlaaDoorCheck5
set_option linter.unusedVariables false
set_option linter.unusedSimpArgs false
namespace Go.Proofs.YtbkbbcfhmjodlaaDoor
open Go.RowKit

theorem tb_two (i : Nat) : Nat.testBit 6144 i = (decide (i = 11) || decide (i = 12)) := by
  rw [show 6144 = 2 ^ 11 ||| 2 ^ 12 by decide, Nat.testBit_or, Nat.testBit_two_pow, Nat.testBit_two_pow]
  simp [eq_comm]
theorem tb_entS (s : Nat) (p : Int) (hs : s < 2 ^ 64) (i : Nat) : (entS s p).testBit i = if i = 8 then decide (whN p % 2 = 1) else if i = 1 then false else if i = 5 then s.testBit 1 else s.testBit i := by
  unfold entS
  have h1 := setN_lt s 5 _ hs (by decide) (bitN_lt s 1)
  have h2 := setN_lt _ 1 0 h1 (by decide) (by decide)
  rw [tb_set _ 8 _ i h2 (by decide) (Nat.mod_lt _ (by decide)), tb_set _ 1 0 i h1 (by decide) (by decide), tb_set s 5 _ i hs (by decide) (bitN_lt s 1)]
  have : decide (bitN s 1 = 1) = s.testBit 1 := by rw [← tb_bit]; rfl
  rw [this]
  rfl
theorem tb_entM (s : Nat) (p : Int) (hs : s < 2 ^ 64) (i : Nat) : (entM s p).testBit i = if i = 12 then decide (whN p / 2 = 1) else if i = 11 then decide (whN p % 2 = 1) else if i = 3 then false else if i = 7 then s.testBit 3 else s.testBit i := by
  unfold entM
  have hw := whN_lt p
  have h1 := setN_lt s 7 _ hs (by decide) (bitN_lt s 3)
  have h2 := setN_lt _ 3 0 h1 (by decide) (by decide)
  rw [Nat.testBit_or, tb_ndn _ _ _ h2 (by decide), tb_set _ 3 0 i h1 (by decide) (by decide), tb_set s 7 _ i hs (by decide) (bitN_lt s 3), tb_two, show whN p * 2048 = whN p * 2 ^ 11 from rfl, Nat.testBit_mul_two_pow]
  have e7 : decide (bitN s 3 = 1) = s.testBit 3 := by rw [← tb_bit]; rfl
  rw [e7]
  by_cases h12 : i = 12
  · subst h12
    have hz : (whN p).testBit 1 = decide (whN p / 2 = 1) := by
      rw [Nat.testBit_eq_decide_div_mod_eq]
      have : (whN p / 2 ^ 1 % 2 = 1) ↔ whN p / 2 = 1 := by omega
      simp only [this]
    rw [if_pos rfl]
    simp [hz]
  · by_cases h11 : i = 11
    · subst h11
      rw [if_neg (by decide), if_pos rfl, Nat.testBit_eq_decide_div_mod_eq]
      simp
    · have hz : (decide (11 ≤ i) && (whN p).testBit (i - 11)) = false := by
        by_cases hi : 11 ≤ i
        · rw [Nat.testBit_lt_two_pow (Nat.lt_of_lt_of_le hw (show 2 ^ 2 ≤ 2 ^ (i - 11) from Nat.pow_le_pow_right (by decide) (by omega)))]
          simp
        · simp [hi]
      rw [hz]
      simp [h12, h11]
theorem tb_mretS (s : Nat) (hs : s < 2 ^ 64) (i : Nat) : (mretS s).testBit i = if i = 12 then false else if i = 11 then false else if i = 7 then true else if i = 3 then s.testBit 7 else s.testBit i := by
  unfold mretS
  have h1 := setN_lt s 3 _ hs (by decide) (bitN_lt s 7)
  have h2 := setN_lt _ 7 1 h1 (by decide) (by decide)
  rw [tb_ndn _ _ _ h2 (by decide), tb_set _ 7 1 i h1 (by decide) (by decide), tb_set s 3 _ i hs (by decide) (bitN_lt s 7), tb_two]
  have e7 : decide (bitN s 7 = 1) = s.testBit 7 := by rw [← tb_bit]; rfl
  rw [e7]
  by_cases h12 : i = 12
  · subst h12; simp
  · by_cases h11 : i = 11
    · subst h11; simp
    · simp [h12, h11]
theorem mretN_lt (s : Nat) (hs : s < 2 ^ 64) : mretN s < 2 ^ 64 := by
  unfold mretN
  split
  · exact mretS_lt s hs
  · exact setN_lt _ _ _ (mretS_lt s hs) (by decide) (by decide)
theorem tb_mretN (s : Nat) (hs : s < 2 ^ 64) (i : Nat) : (mretN s).testBit i = true → (mretS s).testBit i = true := by
  unfold mretN
  split
  · exact id
  · rw [tb_set _ 17 0 i (mretS_lt s hs) (by decide) (by decide)]
    split
    · intro h; simp at h
    · exact id
theorem mretN_3 (s : Nat) (hs : s < 2 ^ 64) : (mretN s).testBit 3 = s.testBit 7 := by
  have h : (mretN s).testBit 3 = (mretS s).testBit 3 := by
    unfold mretN
    split
    · rfl
    · rw [tb_set _ 17 0 3 (mretS_lt s hs) (by decide) (by decide), if_neg (by decide)]
  rw [h, tb_mretS s hs]
  rfl
theorem sretN_lt (s : Nat) (hs : s < 2 ^ 64) : sretN s < 2 ^ 64 :=
  setN_lt _ _ _ (setN_lt _ _ _ (setN_lt _ _ _ (setN_lt _ _ _ hs (by decide) (bitN_lt _ _)) (by decide) (by decide)) (by decide) (by decide)) (by decide) (by decide)
theorem tb_sretN (s : Nat) (hs : s < 2 ^ 64) (i : Nat) : (sretN s).testBit i = if i = 17 then false else if i = 8 then false else if i = 5 then true else if i = 1 then s.testBit 5 else s.testBit i := by
  unfold sretN
  have h1 := setN_lt s 1 _ hs (by decide) (bitN_lt s 5)
  have h2 := setN_lt _ 5 1 h1 (by decide) (by decide)
  have h3 := setN_lt _ 8 0 h2 (by decide) (by decide)
  rw [tb_set _ 17 0 i h3 (by decide) (by decide), tb_set _ 8 0 i h2 (by decide) (by decide), tb_set _ 5 1 i h1 (by decide) (by decide), tb_set s 1 _ i hs (by decide) (bitN_lt s 5)]
  have e7 : decide (bitN s 5 = 1) = s.testBit 5 := by rw [← tb_bit]; rfl
  rw [e7]
  rfl
theorem entS_lt (s : Nat) (p : Int) (hs : s < 2 ^ 64) : entS s p < 2 ^ 64 :=
  setN_lt _ _ _ (setN_lt _ _ _ (setN_lt _ _ _ hs (by decide) (bitN_lt _ _)) (by decide) (by decide)) (by decide) (Nat.mod_lt _ (by decide))
theorem entM_lt (s : Nat) (p : Int) (hs : s < 2 ^ 64) : entM s p < 2 ^ 64 := by
  have := whN_lt p
  exact or_lt (ndn_lt _ _ (setN_lt _ _ _ (setN_lt _ _ _ hs (by decide) (bitN_lt _ _)) (by decide) (by decide))) (by omega)

/-- Status that may be. -/
def okS (s : Nat) : Prop := (∀ i, s.testBit i = true → Nat.testBit 8264106 i = true) ∧ (s.testBit 12 = true → s.testBit 11 = true)
theorem ok_iff (s : Nat) (hs : s < 2 ^ 64) : statN s = s ↔ okS s := by
  rw [← kept_stat s hs, kept_iff s hs, two_bits]
  have hb12 : s.testBit 12 = true ↔ s / 4096 % 2 = 1 := by rw [Nat.testBit_eq_decide_div_mod_eq]; simp
  have hb11 : s.testBit 11 = true ↔ s / 2048 % 2 = 1 := by rw [Nat.testBit_eq_decide_div_mod_eq]; simp
  unfold okS
  rw [hb12, hb11]
  constructor
  · rintro ⟨h1, h2⟩
    exact ⟨fun i => mask_sub h1 i, by omega⟩
  · rintro ⟨h1, h2⟩
    refine ⟨?_, by omega⟩
    apply Nat.eq_of_testBit_eq
    intro i
    rw [Nat.testBit_and]
    cases h : s.testBit i
    · rfl
    · rw [h1 i h]; rfl
theorem ok_entS (s : Nat) (p : Int) (hs : s < 2 ^ 64) (h : okS s) : okS (entS s p) := by
  constructor
  · intro i hi
    rw [tb_entS s p hs] at hi
    split at hi
    · rename_i e; subst e; decide
    · split at hi
      · cases hi
      · split at hi
        · rename_i e; subst e; decide
        · exact h.1 i hi
  · rw [tb_entS s p hs, tb_entS s p hs]
    exact h.2
theorem ok_entM (s : Nat) (p : Int) (hs : s < 2 ^ 64) (h : okS s) : okS (entM s p) := by
  constructor
  · intro i hi
    rw [tb_entM s p hs] at hi
    split at hi
    · rename_i e; subst e; decide
    · split at hi
      · rename_i e; subst e; decide
      · split at hi
        · cases hi
        · split at hi
          · rename_i e; subst e; decide
          · exact h.1 i hi
  · rw [tb_entM s p hs, tb_entM s p hs, if_pos rfl, if_neg (by decide), if_pos rfl]
    unfold whN
    simp only [decide_eq_true_iff]
    split <;> omega
theorem ok_mretN (s : Nat) (hs : s < 2 ^ 64) (h : okS s) : okS (mretN s) := by
  constructor
  · intro i hi
    have hi := tb_mretN s hs i hi
    rw [tb_mretS s hs] at hi
    split at hi
    · cases hi
    · split at hi
      · cases hi
      · split at hi
        · rename_i e; subst e; decide
        · split at hi
          · rename_i e; subst e; decide
          · exact h.1 i hi
  · intro hi
    have hi := tb_mretN s hs 12 hi
    rw [tb_mretS s hs, if_pos rfl] at hi
    cases hi
theorem ok_sretN (s : Nat) (hs : s < 2 ^ 64) (h : okS s) : okS (sretN s) := by
  constructor
  · intro i hi
    rw [tb_sretN s hs] at hi
    split at hi
    · cases hi
    · split at hi
      · cases hi
      · split at hi
        · rename_i e; subst e; decide
        · split at hi
          · rename_i e; subst e; decide
          · exact h.1 i hi
  · rw [tb_sretN s hs, tb_sretN s hs]
    exact h.2
theorem statV_nat (x : Nat) (hx : x < 2 ^ 64) : statV (x : Int) = ((statN x : Nat) : Int) := by
  unfold statV statY statN
  rw [l_and x hx 8264106 (by decide) 8264106 rfl]
  by_cases h : (x &&& 8264106) / 2048 % 4 = 2
  · rw [if_pos h, if_pos (by omega)]
    omega
  · rw [if_neg h, if_neg (by omega)]
/-- What Check asks of all registers but Status. -/
def restB (c : Nat → Int) : Bool := !(bits .andNot .u64 (c 1) 46079 != 0) && (!(bits .andNot .u64 (c 2) 546 != 0) && (!(bits .andNot .u64 (c 3) 2730 != 0) && (!(bits .andNot .u64 (c 4) 2730 != 0) && ((bits .and .u64 (c 5) 2 == 0) && ((bits .and .u64 (c 10) 2 == 0) && ((bits .and .u64 (c 7) 1 == 0) && ((bits .and .u64 (c 12) 1 == 0) && ((c 15 / 1152921504606846976 == 0) || (c 15 / 1152921504606846976 == 8)))))))))
theorem chk5_iff (c : Nat → Int) (s : Nat) (hs : s < 2 ^ 64) (h0 : c 0 = (s : Int)) : chk5B c = true ↔ okS s ∧ restB c = true := by
  have e : chk5B c = (!(c 0 != statV (c 0)) && restB c) := by unfold chk5B restB; rfl
  rw [e, Bool.and_eq_true, ← ok_iff s hs, h0, statV_nat s hs]
  constructor
  · rintro ⟨h1, h2⟩
    refine ⟨?_, h2⟩
    simp only [Bool.not_eq_true', bne_eq_false_iff_eq] at h1
    omega
  · rintro ⟨h1, h2⟩
    refine ⟨?_, h2⟩
    rw [h1]
    simp
theorem pcV_ok (pc : Int) (h0 : 0 ≤ pc) (h1 : pc < 18446744073709551616) : 0 ≤ pcV pc ∧ pcV pc < 18446744073709551616 ∧ bits .and .u64 (pcV pc) 1 = 0 := by
  unfold pcV
  obtain ⟨n, hn, rfl⟩ := nat_of h0 h1
  rw [l_not n hn 1 (by decide) 1 rfl, l_and _ (ndn_lt _ _ hn) 1 (by decide) 1 rfl]
  have hl := ndn_lt n 1 hn
  refine ⟨by omega, by omega, ?_⟩
  have : ndn n 1 &&& 1 = 0 := by
    apply Nat.eq_of_testBit_eq
    intro i
    rw [Nat.testBit_and, tb_ndn _ _ _ hn (by decide), Nat.zero_testBit]
    cases n.testBit i <;> cases Nat.testBit 1 i <;> rfl
  rw [this]
  rfl
theorem rest_S (c : Nat → Int) (a b t r : Int) (h : restB c = true) (hb : bits .and .u64 b 1 = 0) : restB (upd (upd (upd (upd c 0 r) 13 a) 12 b) 14 t) = true := by
  unfold restB at *
  simp only [Bool.and_eq_true] at h ⊢
  obtain ⟨h1, h2, h3, h4, h5, h6, h7, h8, h9⟩ := h
  refine ⟨h1, h2, h3, h4, h5, h6, h7, ?_, h9⟩
  show (bits .and .u64 b 1 == 0) = true
  rw [hb]; rfl
theorem rest_M (c : Nat → Int) (a b t r : Int) (h : restB c = true) (hb : bits .and .u64 b 1 = 0) : restB (upd (upd (upd (upd c 0 r) 8 a) 7 b) 9 t) = true := by
  unfold restB at *
  simp only [Bool.and_eq_true] at h ⊢
  obtain ⟨h1, h2, h3, h4, h5, h6, h7, h8, h9⟩ := h
  refine ⟨h1, h2, h3, h4, h5, h6, ?_, h8, h9⟩
  show (bits .and .u64 b 1 == 0) = true
  rw [hb]; rfl
theorem rest_0 (c : Nat → Int) (r : Int) (h : restB c = true) : restB (upd c 0 r) = true := h
theorem place_even (vec k : Int) (irq : Bool) (v0 : 0 ≤ vec) (v1 : vec < 18446744073709551616) : 0 ≤ placeV vec k irq ∧ placeV vec k irq < 18446744073709551616 ∧ placeV vec k irq % 2 = 0 := by
  obtain ⟨n, hn, rfl⟩ := nat_of v0 v1
  have hl := ndn_lt n 3 hn
  have he : ndn n 3 % 2 = 0 := by
    have := bit_of (rfl : ndn n 3 = ndn n 3) 0
    have h0 : (ndn n 3).testBit 0 = false := by rw [tb_ndn _ _ _ hn (by decide)]; simp
    rw [Nat.testBit_zero] at h0
    simpa using h0
  unfold placeV
  rw [l_not n hn 3 (by decide) 3 rfl]
  split
  · omega
  · omega
end Go.Proofs.YtbkbbcfhmjodlaaDoor
