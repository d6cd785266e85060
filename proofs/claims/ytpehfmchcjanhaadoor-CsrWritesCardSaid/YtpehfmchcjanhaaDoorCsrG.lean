/-
  Package csr's Read and Write, whole: what is read, what is written, and when.
-/
import Derived.Test.YtpehfmchcjanhaaDoorCsrF
set_option linter.unusedVariables false
set_option linter.unusedSimpArgs false
namespace Go.Proofs.YtpehfmchcjanhaaDoor
open Go.RowKit

/-- Is there a register n? -/
def inB (n : Int) : Bool := (List.range 26).any fun k => nmR k == n
theorem in_yes {k : Nat} (hk : k < 26) : inB (nmR k) = true := List.any_eq_true.2 ⟨k, List.mem_range.2 hk, by simp⟩
theorem in_no {n : Int} (h : ∀ k, k < 26 → (nmR k == n) = false) : inB n = false := by
  rw [inB, List.any_eq_false]
  intro k hk
  rw [h k (List.mem_range.1 hk)]
  simp
theorem in_cases (n : Int) : (∃ k, k < 26 ∧ n = nmR k) ∨ (∀ k, k < 26 → (nmR k == n) = false) := by
  by_cases h : ∃ k, k < 26 ∧ n = nmR k
  · exact .inl h
  · refine .inr fun k hk => ?_
    rw [beq_eq_false_iff_ne]
    intro e
    exact h ⟨k, hk, e.symm⟩
/-- Does Read tell it? Does Write write it? -/
def rdB (c : Nat → Int) (n p : Int) : Bool := inB n && (!decide (p < lvV n) && !hidB c n p)
def wrB (c : Nat → Int) (n p : Int) : Bool := rdB c n p && !roB n
/-- The registers when x is written to n. -/
def wrV (c : Nat → Int) (n x : Int) : Nat → Int :=
  if n = 768 then upd c 0 (keptV x) else
  if n = 256 then upd c 0 (mrg (c 0) x 786722) else
  if n = 770 then upd c 1 (bits .and .u64 x 46079) else
  if n = 771 then upd c 2 (bits .and .u64 x 546) else
  if n = 772 then upd c 3 (bits .and .u64 x 2730) else
  if n = 260 then upd c 3 (mrg (c 3) x (bits .and .u64 (c 2) 2730)) else
  if n = 836 then upd c 4 (mrg (c 4) x 546) else
  if n = 324 then upd c 4 (mrg (c 4) x (bits .and .u64 (c 2) 2)) else
  if n = 773 then upd c 5 (bits .and .u64 x 18446744073709551613) else
  if n = 261 then upd c 10 (bits .and .u64 x 18446744073709551613) else
  if n = 832 then upd c 6 (x) else
  if n = 320 then upd c 11 (x) else
  if n = 833 then upd c 7 (bits .and .u64 x 18446744073709551614) else
  if n = 321 then upd c 12 (bits .and .u64 x 18446744073709551614) else
  if n = 834 then upd c 8 (x) else
  if n = 322 then upd c 13 (x) else
  if n = 835 then upd c 9 (x) else
  if n = 323 then upd c 14 (x) else
  if n = 384 then (if satpB x = true then upd c 15 x else c) else
  if n = 2816 then upd c 16 (x) else
  c

set_option maxRecDepth 100000 in
theorem with_all (c : Nat → Int) (n x : Int) (h0 : 0 ≤ x) (h1 : x < 18446744073709551616) {W w : World} (hg : Grew W w) :
    Calls Tryd.prog 17 #[csV c, .int .i64 n, .int .u64 x] w fun e w' => e = .returned (csV (wrV c n x)) ∧ Grew W w' := by
  unfold wrV
  by_cases e768 : n = 768
  · subst e768
    simp only [Int.reduceEq, if_true, if_false]
    exact with_768 c x hg
  rw [if_neg e768]
  by_cases e256 : n = 256
  · subst e256
    simp only [Int.reduceEq, if_true, if_false]
    exact with_256 c x hg
  rw [if_neg e256]
  by_cases e770 : n = 770
  · subst e770
    simp only [Int.reduceEq, if_true, if_false]
    exact with_770 c x hg
  rw [if_neg e770]
  by_cases e771 : n = 771
  · subst e771
    simp only [Int.reduceEq, if_true, if_false]
    exact with_771 c x hg
  rw [if_neg e771]
  by_cases e772 : n = 772
  · subst e772
    simp only [Int.reduceEq, if_true, if_false]
    exact with_772 c x hg
  rw [if_neg e772]
  by_cases e260 : n = 260
  · subst e260
    simp only [Int.reduceEq, if_true, if_false]
    exact with_260 c x hg
  rw [if_neg e260]
  by_cases e836 : n = 836
  · subst e836
    simp only [Int.reduceEq, if_true, if_false]
    exact with_836 c x hg
  rw [if_neg e836]
  by_cases e324 : n = 324
  · subst e324
    simp only [Int.reduceEq, if_true, if_false]
    exact with_324 c x hg
  rw [if_neg e324]
  by_cases e773 : n = 773
  · subst e773
    simp only [Int.reduceEq, if_true, if_false]
    exact with_773 c x hg
  rw [if_neg e773]
  by_cases e261 : n = 261
  · subst e261
    simp only [Int.reduceEq, if_true, if_false]
    exact with_261 c x hg
  rw [if_neg e261]
  by_cases e832 : n = 832
  · subst e832
    simp only [Int.reduceEq, if_true, if_false]
    exact with_832 c x hg
  rw [if_neg e832]
  by_cases e320 : n = 320
  · subst e320
    simp only [Int.reduceEq, if_true, if_false]
    exact with_320 c x hg
  rw [if_neg e320]
  by_cases e833 : n = 833
  · subst e833
    simp only [Int.reduceEq, if_true, if_false]
    exact with_833 c x hg
  rw [if_neg e833]
  by_cases e321 : n = 321
  · subst e321
    simp only [Int.reduceEq, if_true, if_false]
    exact with_321 c x hg
  rw [if_neg e321]
  by_cases e834 : n = 834
  · subst e834
    simp only [Int.reduceEq, if_true, if_false]
    exact with_834 c x hg
  rw [if_neg e834]
  by_cases e322 : n = 322
  · subst e322
    simp only [Int.reduceEq, if_true, if_false]
    exact with_322 c x hg
  rw [if_neg e322]
  by_cases e835 : n = 835
  · subst e835
    simp only [Int.reduceEq, if_true, if_false]
    exact with_835 c x hg
  rw [if_neg e835]
  by_cases e323 : n = 323
  · subst e323
    simp only [Int.reduceEq, if_true, if_false]
    exact with_323 c x hg
  rw [if_neg e323]
  by_cases e384 : n = 384
  · subst e384
    simp only [Int.reduceEq, if_true, if_false]
    by_cases hs : satpB x = true
    · rw [if_pos hs]; exact with_satp c x h0 h1 hs hg
    · rw [if_neg hs]; exact with_nosatp c x h0 h1 (by simpa using hs) hg
  rw [if_neg e384]
  by_cases e2816 : n = 2816
  · subst e2816
    simp only [Int.reduceEq, if_true, if_false]
    exact with_2816 c x hg
  rw [if_neg e2816]
  exact with_other c x n ⟨by simpa using e768, by simpa using e256, by simpa using e770, by simpa using e771, by simpa using e772, by simpa using e260, by simpa using e836, by simpa using e324, by simpa using e773, by simpa using e261, by simpa using e832, by simpa using e320, by simpa using e833, by simpa using e321, by simpa using e834, by simpa using e322, by simpa using e835, by simpa using e323, by simpa using e384, by simpa using e2816⟩ hg

theorem Read_yes (c : Nat → Int) (k : Nat) (hk : k < 26) (p : Int) (hb : rdB c (nmR k) p = true) {a0 a1 : Addr} {W w : World} (sn : Sen W a0 a1) (hg : Grew W w) :
    Calls Tryd.prog 11 #[csV c, .int .i64 (nmR k), .int .i64 p] w fun e w' => e = .returned (.tuple #[.int .u64 (valR c k), .bool true]) ∧ Grew W w' := by
  simp only [rdB, Bool.and_eq_true, Bool.not_eq_true'] at hb
  cases ho : roB (nmR k)
  · exact read_ok c k hk p hb.2.1 hb.2.2 ho a0 a1 sn hg
  · exact read_only c k hk p hb.2.1 hb.2.2 ho a0 a1 sn hg
/-- What find answers, where Read tells nothing. -/
theorem find_no (c : Nat → Int) (n p : Int) (hb : rdB c n p = false) {a0 a1 : Addr} {W w : World} (sn : Sen W a0 a1) (hg : Grew W w) :
    Calls Tryd.prog 16 #[csV c, .int .i64 n, .int .i64 p] w fun e w' => e = .returned (.tuple #[.nilFunc, rsV n p (erV a0)]) ∧ Grew W w' := by
  rcases in_cases n with ⟨k, hk, rfl⟩ | h
  · rw [rdB, in_yes hk, Bool.true_and] at hb
    cases hl : decide (p < lvV (nmR k))
    · rw [hl, Bool.not_false, Bool.true_and, Bool.not_eq_false'] at hb
      exact find_hid c k hk p hl hb a0 a1 hg sn.z sn.c0 sn.c1
    · exact find_low c k hk p hl a0 a1 hg sn.z sn.c0 sn.c1
  · exact find_none c n p h a0 hg (by have := sn.z; omega) (by have := sn.c0; exact this)
theorem Read_no (c : Nat → Int) (n p : Int) (hb : rdB c n p = false) {a0 a1 : Addr} {W w : World} (sn : Sen W a0 a1) (hg : Grew W w) :
    Calls Tryd.prog 11 #[csV c, .int .i64 n, .int .i64 p] w fun e w' => e = .returned (.tuple #[.int .u64 0, .bool false]) ∧ Grew W w' :=
  read_refused c n p a0 a1 sn hg fun sn hg => find_no c n p hb sn hg
theorem Write_yes (c : Nat → Int) (n p x : Int) (h0 : 0 ≤ x) (h1 : x < 18446744073709551616) (hb : wrB c n p = true) {a0 a1 : Addr} {W w : World} (sn : Sen W a0 a1) (hg : Grew W w) :
    Calls Tryd.prog 10 #[csV c, .int .i64 n, .int .i64 p, .int .u64 x] w fun e w' => e = .returned (.tuple #[csV (wrV c n x), .bool true]) ∧ Grew W w' := by
  simp only [wrB, Bool.and_eq_true, Bool.not_eq_true'] at hb
  obtain ⟨hr, ho⟩ := hb
  rcases in_cases n with ⟨k, hk, rfl⟩ | h
  · simp only [rdB, Bool.and_eq_true, Bool.not_eq_true'] at hr
    exact write_done c _ _ p x _ a0 a1 sn hg (fun sn hg => find_ok c k hk p hr.2.1 hr.2.2 ho a0 a1 hg sn.z sn.c0 sn.c1) fun hg => with_all c _ x h0 h1 hg
  · rw [rdB, in_no h] at hr
    cases hr
theorem Write_no (c : Nat → Int) (n p x : Int) (hb : wrB c n p = false) {a0 a1 : Addr} {W w : World} (sn : Sen W a0 a1) (hg : Grew W w) :
    Calls Tryd.prog 10 #[csV c, .int .i64 n, .int .i64 p, .int .u64 x] w fun e w' => e = .returned (.tuple #[csV c, .bool false]) ∧ Grew W w' := by
  cases hr : rdB c n p
  · exact write_refused c n p x _ a0 a0 a1 sn hg fun sn hg => find_no c n p hr sn hg
  · rw [wrB, hr, Bool.true_and, Bool.not_eq_false'] at hb
    rcases in_cases n with ⟨k, hk, rfl⟩ | h
    · simp only [rdB, Bool.and_eq_true, Bool.not_eq_true'] at hr
      exact write_refused c _ p x _ a1 a0 a1 sn hg fun sn hg => find_only c k hk p hr.2.1 hr.2.2 hb a0 a1 hg sn.z sn.c0 sn.c1
    · rw [rdB, in_no h] at hr
      cases hr

end Go.Proofs.YtpehfmchcjanhaaDoor
