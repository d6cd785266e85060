/-
  Plain mathematics of numbers of 64 bits, for the walks of package bits and of all that stands on it. No program is looked at here.
-/
import Derived.WalkKit
import Derived.DataShut
import Derived.Lib.Hide
import Derived.Deep.QuietTactic
set_option maxRecDepth 4000
set_option linter.unusedVariables false
set_option linter.unusedSimpArgs false
namespace Go.Proofs.YtnafdgpkofffaaaDoor
open Go.RowKit

/-! ### u64 -/
theorem wrap_u64 (n : Int) : IntKind.u64.wrap n = n % 18446744073709551616 := by simp [IntKind.wrap, IntKind.bits, IntKind.signed]
theorem wrap_u8 (n : Int) : IntKind.u8.wrap n = n % 256 := by simp [IntKind.wrap, IntKind.bits, IntKind.signed]
theorem wf_u64 {x : Int} (h : (Lit.int .u64 x).wf = true) : 0 ≤ x ∧ x < 18446744073709551616 := by
  have h2 := (Lit.wf_int_iff .u64 x).1 h
  simp only [IntKind.min, IntKind.max, IntKind.bits, IntKind.signed] at h2
  simp at h2; omega
theorem wf_i64 {x : Int} (h : (Lit.int .i64 x).wf = true) : -9223372036854775808 ≤ x ∧ x ≤ 9223372036854775807 := by
  have h2 := (Lit.wf_int_iff .i64 x).1 h
  simp only [IntKind.min, IntKind.max, IntKind.bits, IntKind.signed] at h2
  simp at h2; omega
theorem wf_u32 {x : Int} (h : (Lit.int .u32 x).wf = true) : 0 ≤ x ∧ x < 4294967296 := by
  have h2 := (Lit.wf_int_iff .u32 x).1 h
  simp only [IntKind.min, IntKind.max, IntKind.bits, IntKind.signed] at h2
  simp at h2; omega
theorem wf_u16 {x : Int} (h : (Lit.int .u16 x).wf = true) : 0 ≤ x ∧ x < 65536 := by
  have h2 := (Lit.wf_int_iff .u16 x).1 h
  simp only [IntKind.min, IntKind.max, IntKind.bits, IntKind.signed] at h2
  simp at h2; omega
theorem wf_u8 {x : Int} (h : (Lit.int .u8 x).wf = true) : 0 ≤ x ∧ x < 256 := by
  have h2 := (Lit.wf_int_iff .u8 x).1 h
  simp only [IntKind.min, IntKind.max, IntKind.bits, IntKind.signed] at h2
  simp at h2; omega
theorem ret_u64 {a b : Int} (h : a = b) : Ending.returned (.int .u64 a) = .returned (.int .u64 b) := by rw [h]
theorem ret_i64 {a b : Int} (h : a = b) : Ending.returned (.int .i64 a) = .returned (.int .i64 b) := by rw [h]
theorem ret_bool {a b : Bool} (h : a = b) : Ending.returned (.bool a) = .returned (.bool b) := by rw [h]

/-! ### powers of two -/
theorem two63 : (2 : Int) ^ 63 = 9223372036854775808 := by decide
theorem two64 : (2 : Int) ^ 64 = 18446744073709551616 := by decide
theorem two64N : (2 : Nat) ^ 64 = 18446744073709551616 := by decide
theorem pow_pos' (m : Nat) : (0 : Int) < 2 ^ m := Int.pow_pos (by decide)
theorem pow_le_pow' {m n : Nat} (h : m ≤ n) : (2 : Int) ^ m ≤ 2 ^ n := by
  rcases Nat.lt_or_ge m n with hlt | hge
  · exact Int.le_of_lt (Int.pow_lt_pow_of_lt (by decide) hlt)
  · rw [show m = n by omega]; exact Int.le_refl _
theorem pow_le_63 {m : Nat} (h : m ≤ 63) : (1 : Int) ≤ 2 ^ m ∧ (2 : Int) ^ m ≤ 9223372036854775808 := by
  have h1 := pow_pos' m
  have h2 := pow_le_pow' h
  rw [two63] at h2
  omega
theorem pow_le_64 {m : Nat} (h : m ≤ 64) : (1 : Int) ≤ 2 ^ m ∧ (2 : Int) ^ m ≤ 18446744073709551616 := by
  have h1 := pow_pos' m
  have h2 := pow_le_pow' h
  rw [two64] at h2
  omega
theorem pow_split {m n : Nat} (h : m ≤ n) : (2 : Int) ^ n = 2 ^ m * 2 ^ (n - m) := by rw [← Int.pow_add]; congr 1; omega
theorem cast_pow (m : Nat) : ((2 ^ m : Nat) : Int) = 2 ^ m := by simp
theorem pow_inj_le {m n : Nat} (h : (2 : Int) ^ m ≤ 2 ^ n) : m ≤ n := by
  rcases Nat.lt_or_ge n m with hlt | hge
  · exfalso
    have h2 := Int.pow_lt_pow_of_lt (a := 2) (by decide) hlt
    omega
  · exact hge

theorem and_mask (a : Int) (m : Nat) (h0 : 0 ≤ a) (h1 : a < 18446744073709551616) (hm : m ≤ 64) : bits .and .u64 a (2 ^ m - 1) = a % 2 ^ m := by
  have hp := pow_le_64 hm
  rw [u64_and a (2 ^ m - 1) h0 h1 (by omega) (by omega)]
  obtain ⟨A, rfl⟩ := Int.eq_ofNat_of_zero_le h0
  have e : ((2 : Int) ^ m - 1).toNat = 2 ^ m - 1 := by
    have := cast_pow m
    omega
  rw [e, Int.toNat_natCast, Nat.and_two_pow_sub_one_eq_mod]
  simp

/-! ### what package bits answers -/
/-- Bits hi to lo. -/
def fieldV (x hi lo : Int) : Int := if 0 ≤ lo ∧ lo ≤ hi ∧ hi ≤ 63 then x / 2 ^ lo.toNat % 2 ^ (hi - lo + 1).toNat else 0
/-- The lowest n bits with their sign. -/
def sextV (x n : Int) : Int :=
  if n < 1 then 0 else if 63 < n then x else if x % 2 ^ n.toNat < 2 ^ (n.toNat - 1) then x % 2 ^ n.toNat else x % 2 ^ n.toNat + (18446744073709551616 - 2 ^ n.toNat)
/-- Is x a multiple of size? -/
def alignV (x size : Int) : Bool := decide (size = 1 ∨ size = 2 ∨ size = 4 ∨ size = 8) && decide (x % size = 0)

theorem fieldV_lt (x hi lo : Int) (_hx0 : 0 ≤ x) (_hx1 : x < 18446744073709551616) : 0 ≤ fieldV x hi lo ∧ fieldV x hi lo < 18446744073709551616 := by
  unfold fieldV
  split
  · rename_i h
    have h1 := Int.emod_nonneg (x / 2 ^ lo.toNat) (Int.ne_of_gt (pow_pos' (hi - lo + 1).toNat))
    have h2 := Int.emod_lt_of_pos (x / 2 ^ lo.toNat) (pow_pos' (hi - lo + 1).toNat)
    have h3 := (pow_le_64 (m := (hi - lo + 1).toNat) (by omega)).2
    omega
  · omega
theorem sextV_lt (x n : Int) (hx0 : 0 ≤ x) (hx1 : x < 18446744073709551616) : 0 ≤ sextV x n ∧ sextV x n < 18446744073709551616 := by
  unfold sextV
  split
  · omega
  · split
    · omega
    · have h1 := Int.emod_nonneg x (Int.ne_of_gt (pow_pos' n.toNat))
      have h2 := Int.emod_lt_of_pos x (pow_pos' n.toNat)
      have h3 := (pow_le_64 (m := n.toNat) (by omega)).2
      split <;> omega

/-! ### the operations of the program's text come to these -/
theorem mask_val (n : Int) (h0 : 0 ≤ n) (h1 : n ≤ 64) : IntKind.u64.wrap (IntKind.u64.wrap (2 ^ n.toNat) - 1) = 2 ^ n.toNat - 1 := by
  by_cases h : n = 64
  · subst h; decide
  · have := pow_le_63 (m := n.toNat) (by omega)
    rw [IntWalk.u64_in (2 ^ n.toNat) (by omega), IntWalk.u64_in _ (by omega)]
theorem div_pow_lt (x : Int) (m : Nat) (hx0 : 0 ≤ x) (hx1 : x < 18446744073709551616) : 0 ≤ x / 2 ^ m ∧ x / 2 ^ m < 18446744073709551616 := by
  have h1 : 0 ≤ x / 2 ^ m := Int.ediv_nonneg hx0 (Int.le_of_lt (pow_pos' m))
  have h2 : x / 2 ^ m ≤ x := Int.ediv_le_self _ hx0
  omega
theorem field_val (x hi lo : Int) (hx0 : 0 ≤ x) (hx1 : x < 18446744073709551616) (h0 : 0 ≤ lo) (h1 : lo ≤ hi) (h2 : hi ≤ 63) :
    bits .and .u64 (x / 2 ^ lo.toNat) (2 ^ (hi - lo + 1).toNat - 1) = fieldV x hi lo := by
  have h3 := div_pow_lt x lo.toNat hx0 hx1
  rw [and_mask _ _ h3.1 h3.2 (by omega)]
  unfold fieldV
  rw [if_pos ⟨h0, h1, h2⟩]
/-- x's n lowest bits, brought to the top and down again with their sign. -/
theorem sext_shift (x : Int) (n : Nat) (hn1 : 1 ≤ n) (hn2 : n ≤ 63) (_hx0 : 0 ≤ x) :
    IntKind.u64.wrap (IntKind.i64.wrap (IntKind.u64.wrap (x * 2 ^ (64 - n))) / 2 ^ (64 - n)) = sextV x n := by
  have hsp : (18446744073709551616 : Int) = 2 ^ n * 2 ^ (64 - n) := by rw [← two64]; exact pow_split (by omega)
  have hp := pow_pos' (64 - n)
  have hq := pow_pos' n
  have hhalf : (2 : Int) ^ n = 2 * 2 ^ (n - 1) := by
    have := pow_split (m := 1) (n := n) (by omega)
    simpa using this
  have h63 : (9223372036854775808 : Int) = 2 ^ (n - 1) * 2 ^ (64 - n) := by
    rw [← two63]
    have := pow_split (m := n - 1) (n := 63) (by omega)
    rw [this]
    congr 2
    omega
  have e1 : IntKind.u64.wrap (x * 2 ^ (64 - n)) = (x % 2 ^ n) * 2 ^ (64 - n) := by
    rw [wrap_u64, hsp, Int.mul_comm x, Int.mul_comm (2 ^ n), Int.mul_emod_mul_of_pos _ _ hp, Int.mul_comm]
  have hm0 := Int.emod_nonneg x (Int.ne_of_gt hq)
  have hm1 := Int.emod_lt_of_pos x hq
  have hhp := pow_pos' (n - 1)
  have hn63 := (pow_le_63 (m := n) hn2).2
  rw [e1]
  unfold sextV
  rw [if_neg (by omega), if_neg (by omega)]
  simp only [Int.toNat_natCast]
  generalize hy : x % 2 ^ n = y at *
  by_cases hlt : y < 2 ^ (n - 1)
  · rw [if_pos hlt]
    have hb : y * 2 ^ (64 - n) < 9223372036854775808 := by
      rw [h63]; exact Int.mul_lt_mul_of_pos_right hlt hp
    have hb0 : 0 ≤ y * 2 ^ (64 - n) := Int.mul_nonneg hm0 (Int.le_of_lt hp)
    rw [IntWalk.i64_in _ (by omega), Int.mul_ediv_cancel _ (Int.ne_of_gt hp), IntWalk.u64_in _ (by omega)]
  · rw [if_neg hlt]
    have hb : 9223372036854775808 ≤ y * 2 ^ (64 - n) := by
      rw [h63]; exact Int.mul_le_mul_of_nonneg_right (by omega) (Int.le_of_lt hp)
    have hb1 : y * 2 ^ (64 - n) < 18446744073709551616 := by
      rw [hsp]; exact Int.mul_lt_mul_of_pos_right hm1 hp
    have e2 : IntKind.i64.wrap (y * 2 ^ (64 - n)) = (y - 2 ^ n) * 2 ^ (64 - n) := by
      rw [IntKind.wrap_i64, Int.sub_mul, ← hsp]; omega
    rw [e2, Int.mul_ediv_cancel _ (Int.ne_of_gt hp), wrap_u64]
    omega
theorem sext_val (x n : Int) (hn1 : 1 ≤ n) (hn2 : n ≤ 63) (hx0 : 0 ≤ x) :
    IntKind.u64.wrap (IntKind.i64.wrap (IntKind.u64.wrap (x * 2 ^ (64 - n).toNat)) / 2 ^ (64 - n).toNat) = sextV x n := by
  have h := sext_shift x n.toNat (by omega) (by omega) hx0
  rw [show (64 - n).toNat = 64 - n.toNat by omega, h, show ((n.toNat : Nat) : Int) = n by omega]

/-! ### Fields side by side -/
theorem fieldV_whole (x : Int) (hx : 0 ≤ x ∧ x < 18446744073709551616) : fieldV x 63 0 = x := by
  unfold fieldV
  rw [if_pos (by omega)]
  simp; omega
theorem fieldV_high (x c : Int) (hx : 0 ≤ x ∧ x < 18446744073709551616) (h1 : 1 ≤ c) (h2 : c ≤ 63) : fieldV x 63 c = x / 2 ^ c.toNat := by
  unfold fieldV
  rw [if_pos (by omega)]
  refine Int.emod_eq_of_lt (div_pow_lt x _ hx.1 hx.2).1 ?_
  refine Int.ediv_lt_of_lt_mul (pow_pos' _) ?_
  rw [← Int.pow_add, show (63 - c + 1).toNat + c.toNat = 64 by omega, two64]
  exact hx.2
theorem fieldV_low (x c : Int) (h1 : 1 ≤ c) (h2 : c ≤ 63) : fieldV x (c - 1) 0 = x % 2 ^ c.toNat := by
  unfold fieldV
  rw [if_pos (by omega)]
  simp only [Int.toNat_zero, Int.pow_zero, Int.ediv_one]
  rw [show (c - 1 - 0 + 1).toNat = c.toNat by omega]
theorem or_add (a b : Int) (m : Nat) (ha : 0 ≤ a) (hm : a < 2 ^ m) (hb : 0 ≤ b) (h64 : a + b * 2 ^ m < 18446744073709551616) : bits .or .u64 a (b * 2 ^ m) = a + b * 2 ^ m := by
  have hp := pow_pos' m
  have h0 : 0 ≤ b * 2 ^ m := Int.mul_nonneg hb (Int.le_of_lt hp)
  rw [u64_or a (b * 2 ^ m) ha (by omega) h0 (by omega)]
  obtain ⟨A, rfl⟩ := Int.eq_ofNat_of_zero_le ha
  obtain ⟨C, rfl⟩ := Int.eq_ofNat_of_zero_le hb
  have e : ((C : Int) * 2 ^ m) = ((2 ^ m * C : Nat) : Int) := by simp [Int.mul_comm]
  have hA : A < 2 ^ m := by
    have := cast_pow m
    omega
  rw [e, Int.toNat_natCast, Int.toNat_natCast, Nat.or_comm, ← Nat.two_pow_add_eq_or_of_lt hA]
  omega

/-! ### A value that reads as bytes -/
/-- From off on block b holds these bytes. -/
def BytesAt (w : World) (b off : Nat) (xs : List Int) : Prop := ∀ i, i < xs.length → w.cell? ⟨b, off + i, none⟩ = some (.int .u8 (xs.getD i 0))
def AreBytes (xs : List Int) : Prop := ∀ x ∈ xs, 0 ≤ x ∧ x < 256
theorem AreBytes.getD {xs : List Int} (h : AreBytes xs) (i : Nat) : 0 ≤ xs.getD i 0 ∧ xs.getD i 0 < 256 := by
  by_cases hi : i < xs.length
  · rw [List.getD_eq_getElem?_getD, List.getElem?_eq_getElem hi]; exact h _ (List.getElem_mem hi)
  · rw [List.getD_eq_getElem?_getD, List.getElem?_eq_none (by omega)]; simp
def BytesIn (w : World) (v : Value) (xs : List Int) : Prop :=
  (∃ a c, v = .slice a 0 c ∧ xs = []) ∨ ∃ b off c, v = .slice (some ⟨b, off, none⟩) xs.length c ∧ BytesAt w b off xs
theorem BytesIn.of_own {w : World} {base : Nat} {e : TypeId} {v : Value} {n : Nat} {xs : List Int} (h : w.ownsRow base e 1 v n (xs.map (Value.int .u8))) : BytesIn w v xs := by
  have hl := h.1
  rcases h.2 with ⟨rfl, rfl⟩ | ⟨g, cap, cur, rfl, _⟩
  · left; exact ⟨none, 0, rfl, by cases xs <;> simp_all⟩
  · right
    have hn : n = xs.length := by simpa using hl.symm
    subst hn
    refine ⟨g, 0, cap, rfl, fun i hi => ?_⟩
    rw [Nat.zero_add, h.cellAt i (by omega)]
    simp [hi]
theorem BytesIn.below {B : Nat} {w w' : World} {v : Value} {xs : List Int} (h : BytesIn w v xs) (hb : Below B w w') (hv : ∀ g, v.ownBlock = some g → g < B) : BytesIn w' v xs := by
  rcases h with h | ⟨b, off, c, rfl, h⟩
  · exact .inl h
  · exact .inr ⟨b, off, c, rfl, fun i hi => by rw [hb.cell (by exact hv b rfl)]; exact h i hi⟩
/-- Only the count of draws may have turned. -/
def Drew (w w' : World) : Prop := ∃ n, w' = w.drewN n
theorem Drew.refl (w : World) : Drew w w := ⟨0, rfl⟩
end Go.Proofs.YtnafdgpkofffaaaDoor
