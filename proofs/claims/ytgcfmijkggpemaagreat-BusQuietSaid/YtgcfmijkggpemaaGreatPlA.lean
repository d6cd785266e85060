/-
  Package plic: plain numbers: bits of ints, levels and sources, a controller as lists and as eight numbers, what is told.
-/
import Derived.Test.YtgcfmijkggpemaaGreatMath
import Derived.WalkKit
set_option maxRecDepth 4000
set_option linter.unusedVariables false
set_option linter.unusedSimpArgs false
namespace Go.Proofs.YtgcfmijkggpemaaGreat
open Go.RowKit

/-! ### Bits of ints -/
theorem ofInt_mod (a : Int) : BitVec.ofInt 64 (a % 18446744073709551616) = BitVec.ofInt 64 a := by
  apply BitVec.eq_of_toNat_eq
  simp [BitVec.toNat_ofInt]
theorem i64_and_u64 (a b : Int) : bits .and .i64 a b = IntKind.i64.wrap (bits .and .u64 (a % 18446744073709551616) (b % 18446744073709551616)) := by
  show IntKind.i64.wrap ((BitVec.ofInt 64 a &&& BitVec.ofInt 64 b).toNat : Int) = IntKind.i64.wrap (IntKind.u64.wrap ((BitVec.ofInt 64 _ &&& BitVec.ofInt 64 _).toNat : Int))
  rw [ofInt_mod, ofInt_mod, wrap_u64]
  simp only [IntKind.wrap_i64]
  omega
theorem six_nat (X : Nat) : X &&& 6 = 2 * (X / 2 % 4) := by
  rw [show 2 * (X / 2 % 4) = (X / 2 % 2 ^ 2) * 2 ^ 1 by omega, ← Nat.shiftLeft_eq]
  apply Nat.eq_of_testBit_eq
  intro i
  rw [Nat.testBit_and, Nat.testBit_shiftLeft, Nat.testBit_mod_two_pow, show X / 2 = X / 2 ^ 1 by simp, Nat.testBit_div_two_pow]
  match i with
  | 0 => simp
  | 1 => have h1 : Nat.testBit 6 1 = true := by decide
         simp [h1]
  | 2 => have h1 : Nat.testBit 6 2 = true := by decide
         simp [h1]
  | k + 3 =>
    have h6 : Nat.testBit 6 (k + 3) = false := Nat.testBit_lt_two_pow (Nat.lt_of_lt_of_le (by decide : 6 < 2 ^ 3) (Nat.pow_le_pow_right (by decide) (by omega)))
    simp [h6]
    intro h; omega
/-- Some of the two sources. -/
def Src (x : Int) : Prop := x = 0 ∨ x = 2 ∨ x = 4 ∨ x = 6
theorem and_six (n : Int) : Src (bits .and .i64 n 6) := by
  rw [i64_and_u64]
  obtain ⟨X, hX⟩ := Int.eq_ofNat_of_zero_le (Int.emod_nonneg n (by decide : (18446744073709551616 : Int) ≠ 0))
  rw [hX, show (6 : Int) % 18446744073709551616 = ((6 : Nat) : Int) from rfl, u64_and_nat X 6 (by omega) (by omega), six_nat, IntKind.wrap_i64]
  unfold Src
  omega
theorem and_low {x : Int} (hx : 0 ≤ x ∧ x < 8) : Src (bits .and .i64 x 6) := and_six x
theorem src_of {x : Int} (h0 : -9223372036854775808 ≤ x) (h1 : x ≤ 9223372036854775807) (h : bits .andNot .i64 x 6 = 0) : Src x := by
  have h' : IntKind.i64.wrap ((BitVec.ofInt 64 x &&& ~~~BitVec.ofInt 64 6).toNat : Int) = 0 := h
  have hlt := (BitVec.ofInt 64 x &&& ~~~BitVec.ofInt 64 6).isLt
  have hz : (BitVec.ofInt 64 x &&& ~~~BitVec.ofInt 64 6).toNat = 0 := by
    rw [IntKind.wrap_i64] at h'
    omega
  have hv : BitVec.ofInt 64 x &&& ~~~BitVec.ofInt 64 6 = 0#64 := BitVec.eq_of_toNat_eq (by simpa using hz)
  have he : BitVec.ofInt 64 x = BitVec.ofInt 64 x &&& BitVec.ofInt 64 6 := by
    have hs : BitVec.ofInt 64 x = (BitVec.ofInt 64 x &&& BitVec.ofInt 64 6) ||| (BitVec.ofInt 64 x &&& ~~~BitVec.ofInt 64 6) := by
      apply BitVec.eq_of_getLsbD_eq
      intro i hi
      simp only [BitVec.getLsbD_or, BitVec.getLsbD_and, BitVec.getLsbD_not, hi, decide_true, Bool.true_and]
      cases (BitVec.ofInt 64 x).getLsbD i <;> cases (BitVec.ofInt 64 6).getLsbD i <;> rfl
    rw [hv, BitVec.or_zero] at hs
    exact hs
  have hn : (BitVec.ofInt 64 x).toNat = (BitVec.ofInt 64 x).toNat &&& 6 := by
    have := congrArg BitVec.toNat he
    rw [BitVec.toNat_and] at this
    exact this
  rw [six_nat, BitVec.toNat_ofInt] at hn
  unfold Src
  omega

/-! ### Levels, sources -/
def lvl (x : Int) : Bool := decide (0 ≤ x) && decide (x < 8)
def src (x : Int) : Bool := bits .andNot .i64 x 6 == 0
theorem lvl_of {x : Int} (h : lvl x = true) : 0 ≤ x ∧ x < 8 := by simpa [lvl] using h
theorem lvl_mk {x : Int} (h : 0 ≤ x ∧ x < 8) : lvl x = true := by simpa [lvl] using h
theorem src_mk {x : Int} (h : Src x) : src x = true := by rcases h with rfl | rfl | rfl | rfl <;> decide
/-- The bit of a source. -/
def onlyV (n : Int) : Int := if n = 1 then 2 else if n = 2 then 4 else 0
theorem onlyV_src (n : Int) : Src (onlyV n) := by unfold onlyV Src; split <;> (try split) <;> omega

/-! ### A controller -/
/-- A controller, its rows as lists. -/
structure PS where
  pr : List Int
  n : Int
  k : Int
  en : List Int
  th : List Int
/-- May it be? -/
def plChk (s : PS) : Bool := s.pr.length == 3 && s.pr.all lvl && (s.pr.getD 0 0 == 0) && (s.en.length == 2 && s.en.all src) && (s.th.length == 2 && s.th.all lvl) && src s.n && src s.k
/-- One that may be, as eight numbers. -/
structure VS where
  p1 : Int
  p2 : Int
  n : Int
  k : Int
  e0 : Int
  t0 : Int
  e1 : Int
  t1 : Int
abbrev VS.ps (s : VS) : PS := ⟨[0, s.p1, s.p2], s.n, s.k, [s.e0, s.e1], [s.t0, s.t1]⟩
structure VS.Ok (s : VS) : Prop where
  p1 : 0 ≤ s.p1 ∧ s.p1 < 8
  p2 : 0 ≤ s.p2 ∧ s.p2 < 8
  n : Src s.n
  k : Src s.k
  e0 : Src s.e0
  t0 : 0 ≤ s.t0 ∧ s.t0 < 8
  e1 : Src s.e1
  t1 : 0 ≤ s.t1 ∧ s.t1 < 8
/-- All numbers are ints. -/
def plIntI (x : Int) : Prop := -9223372036854775808 ≤ x ∧ x ≤ 9223372036854775807
theorem chk_of {s : PS} (hn : plIntI s.n) (hk : plIntI s.k) (he : ∀ x ∈ s.en, plIntI x) (h : plChk s = true) : ∃ v : VS, v.Ok ∧ s = v.ps := by
  obtain ⟨pr, n, k, en, th⟩ := s
  simp only [plChk, Bool.and_eq_true, beq_iff_eq] at h
  obtain ⟨⟨⟨⟨⟨⟨h1, h2⟩, h3⟩, h4, h5⟩, h6, h7⟩, h8⟩, h9⟩ := h
  match pr, h1 with
  | [p0, p1, p2], _ =>
    match en, h4 with
    | [e0, e1], _ =>
      match th, h6 with
      | [t0, t1], _ =>
        simp only [List.getD_cons_zero] at h3
        subst h3
        simp only [List.all_cons, List.all_nil, Bool.and_true, Bool.and_eq_true] at h2 h5 h7
        have so : ∀ x, plIntI x → src x = true → Src x := fun x hx h => src_of hx.1 hx.2 (by simpa [src] using h)
        exact ⟨⟨p1, p2, n, k, e0, t0, e1, t1⟩, ⟨lvl_of h2.2.1, lvl_of h2.2.2, so _ hn h8, so _ hk h9, so _ (he _ (by simp)) h5.1, lvl_of h7.1, so _ (he _ (by simp)) h5.2, lvl_of h7.2⟩, rfl⟩
theorem chk_mk {s : VS} (h : s.Ok) : plChk s.ps = true := by
  simp [plChk, lvl_mk h.p1, lvl_mk h.p2, src_mk h.n, src_mk h.k, src_mk h.e0, src_mk h.e1, lvl_mk h.t0, lvl_mk h.t1]
  decide

/-! ### What is told -/
/-- Of sources that are told of (0, 2, 4, 6), above t: the one of the greatest priority. -/
def bestV (told t p1 p2 : Int) : Int :=
  if (told = 2 ∨ told = 6) ∧ t < p1 then (if (told = 4 ∨ told = 6) ∧ p1 < p2 then 2 else 1) else if (told = 4 ∨ told = 6) ∧ t < p2 then 2 else 0
theorem bestV_in (told t p1 p2 : Int) : bestV told t p1 p2 = 0 ∨ bestV told t p1 p2 = 1 ∨ bestV told t p1 p2 = 2 := by
  unfold bestV
  repeat' split
  all_goals omega
def VS.e (s : VS) (c : Int) : Int := if c = 0 then s.e0 else s.e1
def VS.t (s : VS) (c : Int) : Int := if c = 0 then s.t0 else s.t1
/-- What is told to a context. -/
def VS.best (s : VS) (c : Int) : Int := bestV (bits .and .i64 s.n (s.e c)) (s.t c) s.p1 s.p2
theorem VS.best_in (s : VS) (c : Int) : s.best c = 0 ∨ s.best c = 1 ∨ s.best c = 2 := bestV_in _ _ _ _
/-- Lines are up. -/
def setN (n k lines : Int) : Int := bits .or .i64 n (bits .andNot .i64 (bits .and .i64 lines 6) k)
theorem setN_src {n k : Int} (hn : Src n) (hk : Src k) (lines : Int) : Src (setN n k lines) := by
  unfold setN
  have h := and_six lines
  generalize bits .and .i64 lines 6 = m at *
  rcases hn with rfl | rfl | rfl | rfl <;> rcases hk with rfl | rfl | rfl | rfl <;> rcases h with rfl | rfl | rfl | rfl <;> (unfold Src; decide)
def VS.set (s : VS) (lines : Int) : VS := { s with n := setN s.n s.k lines }
theorem VS.Ok.set {s : VS} (h : s.Ok) (lines : Int) : (s.set lines).Ok := ⟨h.p1, h.p2, setN_src h.n h.k lines, h.k, h.e0, h.t0, h.e1, h.t1⟩
/-- A source is claimed. -/
def VS.claim (s : VS) (b : Int) : VS := { s with n := bits .andNot .i64 s.n (onlyV b), k := bits .or .i64 s.k (onlyV b) }
theorem src_not {a b : Int} (ha : Src a) (hb : Src b) : Src (bits .andNot .i64 a b) := by
  rcases ha with rfl | rfl | rfl | rfl <;> rcases hb with rfl | rfl | rfl | rfl <;> (unfold Src; decide)
theorem src_or {a b : Int} (ha : Src a) (hb : Src b) : Src (bits .or .i64 a b) := by
  rcases ha with rfl | rfl | rfl | rfl <;> rcases hb with rfl | rfl | rfl | rfl <;> (unfold Src; decide)
theorem src_and {a b : Int} (ha : Src a) (hb : Src b) : Src (bits .and .i64 a b) := by
  rcases ha with rfl | rfl | rfl | rfl <;> rcases hb with rfl | rfl | rfl | rfl <;> (unfold Src; decide)
theorem VS.Ok.claim {s : VS} (h : s.Ok) (b : Int) : (s.claim b).Ok := ⟨h.p1, h.p2, src_not h.n (onlyV_src b), src_or h.k (onlyV_src b), h.e0, h.t0, h.e1, h.t1⟩
/-- A source is given back. -/
def VS.back (s : VS) (c x : Int) : VS := { s with k := bits .andNot .i64 s.k (bits .and .i64 (onlyV x) (s.e c)) }
theorem VS.Ok.e {s : VS} (h : s.Ok) (c : Int) : Src (s.e c) := by unfold VS.e; split; exact h.e0; exact h.e1
theorem VS.Ok.t {s : VS} (h : s.Ok) (c : Int) : 0 ≤ s.t c ∧ s.t c < 8 := by unfold VS.t; split; exact h.t0; exact h.t1
theorem VS.Ok.back {s : VS} (h : s.Ok) (c x : Int) : (s.back c x).Ok := ⟨h.p1, h.p2, h.n, src_not h.k (src_and (onlyV_src x) (h.e c)), h.e0, h.t0, h.e1, h.t1⟩

/-! ### Registers -/
/-- Which register stands at a place: 1, 2: a priority; 3: what is pending; 4, 5: what is let through to a context; 6, 7: above which level; 8, 9: its desk. 0: none. -/
def regAt (off : Int) : Int :=
  if off = 4 then 1 else if off = 8 then 2 else if off = 4096 then 3 else if off = 8192 then 4 else if off = 8320 then 5 else if off = 2097152 then 6 else if off = 2101248 then 7 else if off = 2097156 then 8 else if off = 2101252 then 9 else 0
/-- What is loaded. -/
def VS.load (s : VS) (r : Int) : Int :=
  if r = 1 then s.p1 else if r = 2 then s.p2 else if r = 3 then s.n else if r = 4 then s.e0 else if r = 5 then s.e1 else if r = 6 then s.t0 else if r = 7 then s.t1 else if r = 8 then s.best 0 else if r = 9 then s.best 1 else 0
/-- What becomes of the controller. -/
def VS.loaded (s : VS) (r : Int) : VS := if r = 8 then s.claim (s.best 0) else if r = 9 then s.claim (s.best 1) else s
/-- What becomes of it when x (32 bits) is stored. -/
def VS.store (s : VS) (r x : Int) : VS :=
  if r = 1 then { s with p1 := x % 8 } else if r = 2 then { s with p2 := x % 8 } else if r = 4 then { s with e0 := bits .and .i64 x 6 } else if r = 5 then { s with e1 := bits .and .i64 x 6 }
  else if r = 6 then { s with t0 := x % 8 } else if r = 7 then { s with t1 := x % 8 } else if r = 8 then s.back 0 x else if r = 9 then s.back 1 x else s
theorem VS.Ok.loaded {s : VS} (h : s.Ok) (r : Int) : (s.loaded r).Ok := by
  unfold VS.loaded
  split
  · exact h.claim _
  · split
    · exact h.claim _
    · exact h
theorem VS.Ok.store {s : VS} (h : s.Ok) (r x : Int) : (s.store r x).Ok := by
  have hx : 0 ≤ x % 8 ∧ x % 8 < 8 := by omega
  have hb := and_six x
  unfold VS.store
  repeat' split
  · exact ⟨hx, h.p2, h.n, h.k, h.e0, h.t0, h.e1, h.t1⟩
  · exact ⟨h.p1, hx, h.n, h.k, h.e0, h.t0, h.e1, h.t1⟩
  · exact ⟨h.p1, h.p2, h.n, h.k, hb, h.t0, h.e1, h.t1⟩
  · exact ⟨h.p1, h.p2, h.n, h.k, h.e0, h.t0, hb, h.t1⟩
  · exact ⟨h.p1, h.p2, h.n, h.k, h.e0, hx, h.e1, h.t1⟩
  · exact ⟨h.p1, h.p2, h.n, h.k, h.e0, h.t0, h.e1, hx⟩
  · exact h.back 0 x
  · exact h.back 1 x
  · exact h
theorem Src.bd {x : Int} (h : Src x) : 0 ≤ x ∧ x ≤ 6 := by unfold Src at h; omega
theorem VS.Ok.load {s : VS} (h : s.Ok) (r : Int) : 0 ≤ s.load r ∧ s.load r ≤ 7 := by
  have b0 := s.best_in 0
  have b1 := s.best_in 1
  have := h.p1; have := h.p2; have := h.n.bd; have := h.e0.bd; have := h.e1.bd; have := h.t0; have := h.t1
  unfold VS.load
  repeat' split
  all_goals omega
end Go.Proofs.YtgcfmijkggpemaaGreat
