/-
  Which interrupt comes: plain facts.
-/
import Derived.Test.YtbkbbcfhmjodlaaDoorTrpL
set_option linter.unusedVariables false
set_option linter.unusedSimpArgs false
namespace Go.Proofs.YtbkbbcfhmjodlaaDoor
open Go.RowKit

theorem fir_some {x : Nat} (h : firB x = true) : ∃ j, j < 6 ∧ firI x = (ordA j : Nat) ∧ x.testBit (ordA j) = true := by
  unfold firB at h
  have h' : firN x < 6 := by simpa using h
  exact ⟨firN x, h', by unfold firI; rw [if_pos h'], fir_at x h'⟩
theorem fir_none {x : Nat} (h : firB x = false) : firI x = 0 := by
  unfold firB at h
  have h' : ¬ firN x < 6 := by simpa using h
  unfold firI
  rw [if_neg h']
theorem fir_is {x j : Nat} (hj : j < 6) (h : x.testBit (ordA j) = true) : firB x = true := by
  unfold firB
  rw [decide_eq_true_iff]
  rcases Nat.lt_or_ge (firN x) 6 with h' | h'
  · exact h'
  · have := fir_before x (k := j) (by omega) hj
    rw [h] at this
    cases this
theorem tb_ndn_and {m e d i : Nat} (hm : m < 2 ^ 64) (hd : d < 2 ^ 64) : (ndn (m &&& e) d).testBit i = ((m.testBit i && e.testBit i) && !d.testBit i) := by
  rw [tb_ndn _ _ _ (and_lt m e hm) hd, Nat.testBit_and]
theorem pen_some {m e d s : Nat} {p : Int} (hm : m < 2 ^ 64) (hd : d < 2 ^ 64) (h : penB m e d s p = true) : ∃ j, j < 6 ∧ penI m e d s p = (ordA j : Nat) ∧ m.testBit (ordA j) = true ∧ e.testBit (ordA j) = true := by
  unfold penB at h
  unfold penI
  by_cases hA : penA m e d s p = true
  · rw [if_pos hA]
    have hf : firB (ndn (m &&& e) d) = true := by
      unfold penA at hA
      exact ((Bool.and_eq_true ..).mp hA).2
    obtain ⟨j, hj, hi, hb⟩ := fir_some hf
    rw [tb_ndn_and hm hd] at hb
    simp only [Bool.and_eq_true] at hb
    exact ⟨j, hj, hi, hb.1.1, hb.1.2⟩
  · rw [if_neg hA] at h ⊢
    by_cases hC : penC s p = true
    · rw [if_pos hC] at h ⊢
      obtain ⟨j, hj, hi, hb⟩ := fir_some h
      rw [Nat.testBit_and, Nat.testBit_and] at hb
      simp only [Bool.and_eq_true] at hb
      exact ⟨j, hj, hi, hb.1.1, hb.1.2⟩
    · rw [if_neg hC] at h
      cases h
theorem pen_none {m e d s : Nat} {p : Int} (h : penB m e d s p = false) : penI m e d s p = 0 := by
  unfold penB at h
  unfold penI
  by_cases hA : penA m e d s p = true
  · rw [if_pos hA] at h
    cases h
  · rw [if_neg hA] at h ⊢
    by_cases hC : penC s p = true
    · rw [if_pos hC] at h ⊢
      exact fir_none h
    · rw [if_neg hC]
theorem ord_le (j : Nat) : ordA j ≤ 11 := by
  match j with
  | 0 | 1 | 2 | 3 | 4 | 5 => decide
  | k + 6 => simp [ordA, ordL]
theorem pen_range {m e d s : Nat} {p : Int} (hm : m < 2 ^ 64) (hd : d < 2 ^ 64) : 0 ≤ penI m e d s p ∧ penI m e d s p ≤ 11 := by
  cases h : penB m e d s p
  · rw [pen_none h]; omega
  · obtain ⟨j, _, hi, _⟩ := pen_some hm hd h
    have := ord_le j
    rw [hi]; omega
theorem mask_bits (i : Nat) (h : Nat.testBit 2730 i = true) : ∃ j, j < 6 ∧ ordA j = i := by
  have hi : i < 12 := by
    rcases Nat.lt_or_ge i 12 with h' | h'
    · exact h'
    · have : (2730 : Nat) < 2 ^ i := Nat.lt_of_lt_of_le (by decide) (Nat.pow_le_pow_right (by decide) h')
      rw [Nat.testBit_lt_two_pow this] at h
      cases h
  have hall : ((List.range 12).all fun i => !Nat.testBit 2730 i || (List.range 6).any fun j => ordA j == i) = true := by decide +kernel
  have h1 := List.all_eq_true.1 hall i (List.mem_range.2 hi)
  simp only [h, Bool.not_true, Bool.false_or] at h1
  obtain ⟨j, hj, he⟩ := List.any_eq_true.1 h1
  exact ⟨j, List.mem_range.1 hj, eq_of_beq he⟩
theorem ord_mask (j : Nat) (hj : j < 6) : Nat.testBit 2730 (ordA j) = true := by
  obtain rfl | rfl | rfl | rfl | rfl | rfl : j = 0 ∨ j = 1 ∨ j = 2 ∨ j = 3 ∨ j = 4 ∨ j = 5 := by omega
  all_goals decide
/-- The machine's interrupts, of which one comes to a privilege below. -/
theorem pen_mine {m e d s : Nat} {p : Int} (hm : m < 2 ^ 64) (hd : d < 2 ^ 64) (hp : p < 3) (h : ndn (m &&& e) d &&& 2730 ≠ 0) :
    penB m e d s p = true ∧ ∃ j, j < 6 ∧ penI m e d s p = (ordA j : Nat) ∧ (ndn (m &&& e) d &&& 2730).testBit (ordA j) = true := by
  obtain ⟨i, hi⟩ : ∃ i, (ndn (m &&& e) d &&& 2730).testBit i = true := by
    apply Classical.byContradiction
    intro hn
    apply h
    apply Nat.eq_of_testBit_eq
    intro i
    rw [Nat.zero_testBit]
    cases hb : (ndn (m &&& e) d &&& 2730).testBit i
    · rfl
    · exact absurd ⟨i, hb⟩ hn
  rw [Nat.testBit_and, Bool.and_eq_true] at hi
  obtain ⟨j, hj, rfl⟩ := mask_bits i hi.2
  have hf := fir_is hj hi.1
  have hA : penA m e d s p = true := by
    unfold penA
    rw [hf, decide_eq_true hp]
    rfl
  obtain ⟨k, hk, he, hb⟩ := fir_some hf
  refine ⟨by unfold penB; rw [if_pos hA], k, hk, by unfold penI; rw [if_pos hA]; exact he, ?_⟩
  rw [Nat.testBit_and, hb, ord_mask k hk]
  rfl
theorem pen_quiet {m e d s : Nat} {p : Int} (hp : 3 ≤ p) (h : s.testBit 3 = false) : penB m e d s p = false := by
  have p3 : decide (p < 3) = false := by rw [decide_eq_false_iff_not]; omega
  have p1 : decide (p < 1) = false := by rw [decide_eq_false_iff_not]; omega
  have q1 : (p == 1) = false := by rw [beq_eq_false_iff_ne]; omega
  unfold penB penA penC
  rw [p3, p1, q1, h]
  simp
theorem and_pow (x n : Nat) : (x &&& 2 ^ n = 0) ↔ x.testBit n = false := by
  constructor
  · intro h
    have := bit_of h n
    rw [Nat.testBit_and, Nat.testBit_two_pow, Nat.zero_testBit] at this
    simpa using this
  · intro h
    apply Nat.eq_of_testBit_eq
    intro i
    rw [Nat.testBit_and, Nat.testBit_two_pow, Nat.zero_testBit]
    by_cases hi : n = i
    · subst hi; rw [h]; rfl
    · simp [hi]
theorem min_entP (c : Nat → Int) (p cause : Int) (irq : Bool) : p ≤ entP c p cause irq ∨ entP c p cause irq = 3 := by
  unfold entP
  by_cases h : toS c p cause irq = true
  · rw [if_pos h]
    unfold toS at h
    have := ((Bool.and_eq_true ..).mp h).1
    left
    simpa using this
  · right
    rw [if_neg h]
end Go.Proofs.YtbkbbcfhmjodlaaDoor
