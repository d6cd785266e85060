/-
  Plain mathematics of the bits of control registers. No program is looked at here.
-/
import Derived.Test.YtbkbbcfhmjodlaaDoorMath
set_option linter.unusedVariables false
set_option linter.unusedSimpArgs false
namespace Go.Proofs.YtbkbbcfhmjodlaaDoor
open Go.RowKit

/-- a without the bits m. -/
def ndn (a m : Nat) : Nat := a &&& (18446744073709551615 - m)
theorem tb_ndn (a m i : Nat) (ha : a < 2 ^ 64) (hm : m < 2 ^ 64) : (ndn a m).testBit i = (a.testBit i && !m.testBit i) := by
  unfold ndn
  rw [Nat.testBit_and, show 18446744073709551615 - m = 2 ^ 64 - (m + 1) by omega, Nat.testBit_two_pow_sub_succ hm]
  rcases Nat.lt_or_ge i 64 with h | h
  · simp [h]
  · have : a.testBit i = false := Nat.testBit_lt_two_pow (Nat.lt_of_lt_of_le ha (Nat.pow_le_pow_right (by decide) h))
    simp [this]
theorem ndn_lt (a m : Nat) (ha : a < 2 ^ 64) : ndn a m < 2 ^ 64 := Nat.lt_of_le_of_lt Nat.and_le_left ha
theorem and_lt (a m : Nat) (ha : a < 2 ^ 64) : a &&& m < 2 ^ 64 := Nat.lt_of_le_of_lt Nat.and_le_left ha
theorem and_lt' (a m : Nat) (hm : m < 2 ^ 64) : a &&& m < 2 ^ 64 := Nat.lt_of_le_of_lt Nat.and_le_right hm
theorem or_lt {a b : Nat} (ha : a < 2 ^ 64) (hb : b < 2 ^ 64) : a ||| b < 2 ^ 64 := Nat.or_lt_two_pow ha hb
def mrgN (o x m : Nat) : Nat := ndn o m ||| (x &&& m)
theorem mrgN_lt (o x m : Nat) (ho : o < 2 ^ 64) (hx : x < 2 ^ 64) : mrgN o x m < 2 ^ 64 := or_lt (ndn_lt o m ho) (and_lt x m hx)
theorem tb_mrg (o x m i : Nat) (ho : o < 2 ^ 64) (hm : m < 2 ^ 64) : (mrgN o x m).testBit i = ((o.testBit i && !m.testBit i) || (x.testBit i && m.testBit i)) := by
  rw [mrgN, Nat.testBit_or, tb_ndn o m i ho hm, Nat.testBit_and]
theorem bit_of {a b : Nat} (h : a = b) (i : Nat) : a.testBit i = b.testBit i := by rw [h]

/-! ### bits 12 and 11 -/
theorem two_bits (y : Nat) : y &&& 6144 = y / 2048 % 4 * 2048 := by
  apply Nat.eq_of_testBit_eq
  intro i
  rw [Nat.testBit_and, show (6144 : Nat) = (2 ^ 2 - 1) * 2 ^ 11 by decide, show y / 2048 % 4 * 2048 = (y / 2 ^ 11 % 2 ^ 2) * 2 ^ 11 by rfl, Nat.testBit_mul_two_pow, Nat.testBit_mul_two_pow, Nat.testBit_two_pow_sub_one, Nat.testBit_mod_two_pow, Nat.testBit_div_two_pow]
  by_cases h : 11 ≤ i
  · simp [h, show i - 11 + 11 = i by omega, Bool.and_comm]
  · simp [h]
theorem drop_bits (y : Nat) (hy : y < 2 ^ 64) (h : y / 2048 % 4 = 2) : ndn y 6144 = y - 4096 := by
  have e : y - 4096 = 2 ^ 13 * (y / 2 ^ 13) + y % 2 ^ 11 := by omega
  rw [e]
  apply Nat.eq_of_testBit_eq
  intro i
  rw [tb_ndn y 6144 i hy (by decide), Nat.two_pow_add_eq_or_of_lt (i := 13) (by omega), Nat.testBit_or, Nat.mul_comm, Nat.testBit_mul_two_pow, Nat.testBit_div_two_pow, Nat.testBit_mod_two_pow, show (6144 : Nat) = (2 ^ 2 - 1) * 2 ^ 11 by decide, Nat.testBit_mul_two_pow, Nat.testBit_two_pow_sub_one]
  by_cases h1 : 13 ≤ i
  · simp [h1, show i - 13 + 13 = i by omega, show 11 ≤ i by omega, show ¬ i - 11 < 2 by omega, show ¬ i < 11 by omega]
  · by_cases h2 : 11 ≤ i
    · simp [h1, h2, show i - 11 < 2 by omega, show ¬ i < 11 by omega]
    · simp [h1, h2, show i < 11 by omega]

/-! ### what is kept of x in Status -/
def keptN (x : Nat) : Nat := if x &&& 6144 = 4096 then ndn x 6144 &&& 8264106 else x &&& 8264106
def statN (x : Nat) : Nat := if (x &&& 8264106) / 2048 % 4 = 2 then (x &&& 8264106) - 4096 else x &&& 8264106
theorem kept_stat (x : Nat) (hx : x < 2 ^ 64) : keptN x = statN x := by
  have e1 : (x &&& 8264106) &&& 6144 = x &&& 6144 := by rw [Nat.and_assoc, show (8264106 &&& 6144 : Nat) = 6144 by decide]
  have e2 := two_bits (x &&& 8264106)
  rw [e1] at e2
  unfold keptN statN
  by_cases h : (x &&& 8264106) / 2048 % 4 = 2
  · rw [if_pos h, if_pos (by rw [e2, h]), ← drop_bits _ (and_lt _ _ hx) h]
    apply Nat.eq_of_testBit_eq
    intro i
    rw [Nat.testBit_and, tb_ndn x _ i hx (by decide), tb_ndn _ _ i (and_lt _ _ hx) (by decide), Nat.testBit_and]
    cases x.testBit i <;> cases Nat.testBit 6144 i <;> cases Nat.testBit 8264106 i <;> rfl
  · rw [if_neg h, if_neg (by rw [e2]; omega)]
/-- Status has but its bits, bits 12-11 not 2. -/
theorem kept_iff (x : Nat) (hx : x < 2 ^ 64) : keptN x = x ↔ x &&& 8264106 = x ∧ x &&& 6144 ≠ 4096 := by
  unfold keptN
  by_cases h : x &&& 6144 = 4096
  · rw [if_pos h]
    refine ⟨fun e => ?_, fun e => absurd h e.2⟩
    exfalso
    have h12 := bit_of h 12
    have e12 := bit_of e 12
    rw [Nat.testBit_and, tb_ndn x _ 12 hx (by decide)] at e12
    rw [Nat.testBit_and, ← e12] at h12
    revert h12
    cases x.testBit 12 <;> decide
  · rw [if_neg h]
    exact ⟨fun e => ⟨e, h⟩, fun e => e.1⟩
theorem kept_kept (x : Nat) (hx : x < 2 ^ 64) : keptN (keptN x) = keptN x := by
  have hl : keptN x < 2 ^ 64 := by unfold keptN; split; exact and_lt _ _ (ndn_lt _ _ hx); exact and_lt _ _ hx
  rw [kept_iff _ hl]
  unfold keptN
  by_cases h : x &&& 6144 = 4096
  · rw [if_pos h]
    constructor
    · rw [Nat.and_assoc, Nat.and_self]
    · intro e
      have e12 := bit_of e 12
      rw [Nat.testBit_and, Nat.testBit_and, tb_ndn x _ 12 hx (by decide)] at e12
      revert e12
      cases x.testBit 12 <;> decide
  · rw [if_neg h]
    constructor
    · rw [Nat.and_assoc, Nat.and_self]
    · rw [Nat.and_assoc]
      exact h
theorem keptN_lt (x : Nat) (hx : x < 2 ^ 64) : keptN x < 2 ^ 64 := by unfold keptN; split; exact and_lt _ _ (ndn_lt _ _ hx); exact and_lt _ _ hx

/-! ### within a mask -/
theorem within_iff (a m : Nat) (ha : a < 2 ^ 64) (hm : m < 2 ^ 64) : ndn a m = 0 ↔ ∀ i, a.testBit i = true → m.testBit i = true := by
  constructor
  · intro h i hi
    have := bit_of h i
    rw [tb_ndn a m i ha hm, hi, Nat.zero_testBit] at this
    simpa using this
  · intro h
    apply Nat.eq_of_testBit_eq
    intro i
    rw [tb_ndn a m i ha hm, Nat.zero_testBit]
    cases hi : a.testBit i
    · rfl
    · rw [h i hi]; rfl
theorem within_and (x m M : Nat) (hx : x < 2 ^ 64) (hM : M < 2 ^ 64) (hmM : ∀ i, m.testBit i = true → M.testBit i = true) : ndn (x &&& m) M = 0 := by
  rw [within_iff _ _ (and_lt _ _ hx) hM]
  intro i hi
  rw [Nat.testBit_and, Bool.and_eq_true] at hi
  exact hmM i hi.2
theorem within_mrg (o x m M : Nat) (ho : o < 2 ^ 64) (hx : x < 2 ^ 64) (hm : m < 2 ^ 64) (hM : M < 2 ^ 64) (h : ndn o M = 0) (hmM : ∀ i, m.testBit i = true → M.testBit i = true) : ndn (mrgN o x m) M = 0 := by
  rw [within_iff _ _ (mrgN_lt _ _ _ ho hx) hM]
  rw [within_iff _ _ ho hM] at h
  intro i hi
  rw [tb_mrg o x m i ho hm, Bool.or_eq_true, Bool.and_eq_true, Bool.and_eq_true] at hi
  rcases hi with hi | hi
  · exact h i hi.1
  · exact hmM i hi.2
theorem mask_sub {m M : Nat} (h : m &&& M = m) : ∀ i, m.testBit i = true → M.testBit i = true := by
  intro i hi
  have := bit_of h i
  rw [Nat.testBit_and, hi] at this
  simpa using this
theorem and_sub (a m : Nat) : ∀ i, (a &&& m).testBit i = true → m.testBit i = true := by
  intro i hi
  rw [Nat.testBit_and, Bool.and_eq_true] at hi
  exact hi.2
theorem and_within (a m : Nat) (ha : a < 2 ^ 64) (hm : m < 2 ^ 64) (h : ndn a m = 0) : a &&& m = a := by
  rw [within_iff _ _ ha hm] at h
  apply Nat.eq_of_testBit_eq
  intro i
  rw [Nat.testBit_and]
  cases hi : a.testBit i
  · rfl
  · rw [h i hi]; rfl
theorem kept_mrg (s x : Nat) (hs : s < 2 ^ 64) (hx : x < 2 ^ 64) (h : keptN s = s) : keptN (mrgN s x 786722) = mrgN s x 786722 := by
  rw [kept_iff _ hs] at h
  rw [kept_iff _ (mrgN_lt _ _ _ hs hx)]
  have sub := mask_sub (m := 786722) (M := 8264106) (by decide)
  constructor
  · apply Nat.eq_of_testBit_eq
    intro i
    have h1 := bit_of h.1 i
    have h2 := sub i
    rw [Nat.testBit_and] at h1
    rw [Nat.testBit_and, tb_mrg s x _ i hs (by decide)]
    revert h1 h2
    cases s.testBit i <;> cases x.testBit i <;> cases Nat.testBit 786722 i <;> cases Nat.testBit 8264106 i <;> decide
  · intro e
    apply h.2
    rw [← e]
    apply Nat.eq_of_testBit_eq
    intro i
    have dis : Nat.testBit 786722 i = true → Nat.testBit 6144 i = false := by
      have := bit_of (show 786722 &&& 6144 = 0 by decide) i
      rw [Nat.testBit_and, Nat.zero_testBit] at this
      intro h
      rw [h] at this
      simpa using this
    rw [Nat.testBit_and, Nat.testBit_and, tb_mrg s x _ i hs (by decide)]
    revert dis
    cases s.testBit i <;> cases x.testBit i <;> cases Nat.testBit 786722 i <;> cases Nat.testBit 6144 i <;> decide

/-! ### what is read is written back; twice is once -/
theorem mrg_twice (o x m : Nat) (ho : o < 2 ^ 64) (hx : x < 2 ^ 64) (hm : m < 2 ^ 64) : mrgN (mrgN o x m) x m = mrgN o x m := by
  apply Nat.eq_of_testBit_eq
  intro i
  rw [tb_mrg _ x m i (mrgN_lt _ _ _ ho hx) hm, tb_mrg o x m i ho hm]
  cases o.testBit i <;> cases x.testBit i <;> cases m.testBit i <;> rfl
/-- Read through what leaves the mask's bits alone, and written back. -/
theorem mrg_back (o v m : Nat) (ho : o < 2 ^ 64) (hm : m < 2 ^ 64) (h : ∀ i, m.testBit i = true → v.testBit i = o.testBit i) : mrgN o v m = o := by
  apply Nat.eq_of_testBit_eq
  intro i
  rw [tb_mrg o v m i ho hm]
  have := h i
  revert this
  cases o.testBit i <;> cases v.testBit i <;> cases m.testBit i <;> decide
theorem not_in {m M : Nat} (h : m &&& M = 0) {i : Nat} (hi : m.testBit i = true) : M.testBit i = false := by
  have := bit_of h i
  rw [Nat.testBit_and, Nat.zero_testBit, hi] at this
  simpa using this
/-- A view of s by the mask m: with other bits k laid over it. -/
theorem view_bit (s m k i : Nat) (hi : m.testBit i = true) (hk : m &&& k = 0) : ((s &&& m) ||| k).testBit i = s.testBit i := by
  rw [Nat.testBit_or, Nat.testBit_and, hi, not_in hk hi]
  simp
theorem both_bit (a b i : Nat) (hi : b.testBit i = true) : (a &&& b).testBit i = a.testBit i := by
  rw [Nat.testBit_and, hi, Bool.and_true]
/-- Status, read by the machine and written back. -/
theorem status_back (s : Nat) (hs : s < 2 ^ 64) (h : keptN s = s) : keptN (ndn s 64424509440 ||| 42949672960) = s := by
  rw [kept_iff _ hs] at h
  have e1 : (ndn s 64424509440 ||| 42949672960) &&& 8264106 = s := by
    apply Nat.eq_of_testBit_eq
    intro i
    have h1 := bit_of h.1 i
    rw [Nat.testBit_and] at h1
    rw [Nat.testBit_and, Nat.testBit_or, tb_ndn s _ i hs (by decide)]
    have d1 : Nat.testBit 8264106 i = true → Nat.testBit 64424509440 i = false := not_in (by decide)
    have d2 : Nat.testBit 8264106 i = true → Nat.testBit 42949672960 i = false := not_in (by decide)
    revert h1 d1 d2
    cases s.testBit i <;> cases Nat.testBit 8264106 i <;> cases Nat.testBit 64424509440 i <;> cases Nat.testBit 42949672960 i <;> decide
  have e2 : (ndn s 64424509440 ||| 42949672960) &&& 6144 = s &&& 6144 := by
    rw [show (6144 : Nat) = 8264106 &&& 6144 by decide, ← Nat.and_assoc, e1, ← Nat.and_assoc, h.1]
  unfold keptN
  rw [if_neg (by rw [e2]; exact h.2), e1]

/-! ### the supervisor's view -/
theorem view_apart (s x : Nat) (hs : s < 2 ^ 64) (hx : x < 2 ^ 64) : ndn ((ndn s 64424509440 ||| 42949672960) ^^^ (ndn (mrgN s x 786722) 64424509440 ||| 42949672960)) 786722 = 0 := by
  have l1 : ndn s 64424509440 ||| 42949672960 < 2 ^ 64 := or_lt (ndn_lt _ _ hs) (by decide)
  have l2 : ndn (mrgN s x 786722) 64424509440 ||| 42949672960 < 2 ^ 64 := or_lt (ndn_lt _ _ (mrgN_lt _ _ _ hs hx)) (by decide)
  rw [within_iff _ _ (Nat.xor_lt_two_pow l1 l2) (by decide)]
  intro i hi
  rw [Nat.testBit_xor, Nat.testBit_or, Nat.testBit_or, tb_ndn s _ i hs (by decide), tb_ndn _ _ i (mrgN_lt _ _ _ hs hx) (by decide), tb_mrg s x _ i hs (by decide)] at hi
  revert hi
  cases s.testBit i <;> cases x.testBit i <;> cases Nat.testBit 786722 i <;> cases Nat.testBit 64424509440 i <;> cases Nat.testBit 42949672960 i <;> decide
theorem view_now (s x : Nat) (hs : s < 2 ^ 64) (hx : x < 2 ^ 64) : (ndn (mrgN s x 786722) 64424509440 ||| 42949672960) &&& 786722 = x &&& 786722 := by
  apply Nat.eq_of_testBit_eq
  intro i
  have d1 : Nat.testBit 786722 i = true → Nat.testBit 64424509440 i = false := not_in (by decide)
  have d2 : Nat.testBit 786722 i = true → Nat.testBit 42949672960 i = false := not_in (by decide)
  rw [Nat.testBit_and, Nat.testBit_or, tb_ndn _ _ i (mrgN_lt _ _ _ hs hx) (by decide), tb_mrg s x _ i hs (by decide), Nat.testBit_and]
  revert d1 d2
  cases s.testBit i <;> cases x.testBit i <;> cases Nat.testBit 786722 i <;> cases Nat.testBit 64424509440 i <;> cases Nat.testBit 42949672960 i <;> decide
theorem view_seen (s x : Nat) (hs : s < 2 ^ 64) : ((mrgN s x 786722 &&& 786722) ||| 8589934592) &&& 786722 = x &&& 786722 := by
  apply Nat.eq_of_testBit_eq
  intro i
  have d2 : Nat.testBit 786722 i = true → Nat.testBit 8589934592 i = false := not_in (by decide)
  rw [Nat.testBit_and, Nat.testBit_or, Nat.testBit_and, tb_mrg s x _ i hs (by decide), Nat.testBit_and]
  revert d2
  cases s.testBit i <;> cases x.testBit i <;> cases Nat.testBit 786722 i <;> cases Nat.testBit 8589934592 i <;> decide
theorem one_bit (s : Nat) : (s &&& 1048576 = 0) ↔ ¬ s / 1048576 % 2 = 1 := by
  have e : s &&& 1048576 = s / 2 ^ 20 % 2 ^ 1 * 2 ^ 20 := by
    apply Nat.eq_of_testBit_eq
    intro i
    rw [Nat.testBit_and, show (1048576 : Nat) = (2 ^ 1 - 1) * 2 ^ 20 by decide, Nat.testBit_mul_two_pow, Nat.testBit_mul_two_pow, Nat.testBit_two_pow_sub_one, Nat.testBit_mod_two_pow, Nat.testBit_div_two_pow]
    by_cases h : 20 ≤ i
    · simp [h, show i - 20 + 20 = i by omega, Bool.and_comm]
    · simp [h]
  rw [e]
  omega
end Go.Proofs.YtbkbbcfhmjodlaaDoor
