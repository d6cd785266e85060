/-
  Plain facts about messages: what is put is got, whatever stands behind; an option put ahead counts; what is got may be put.
-/
import Derived.Test.YtnmffkmpkgmkpaaDhN
set_option maxRecDepth 4000
set_option linter.unusedVariables false
set_option linter.unusedSimpArgs false
namespace Go.Proofs.Ytnmffkmpkgmkpaa
open Go.RowKit

/-- An option as it is found. -/
def opL (k x : Int) : List (Int × List Int) := if x = 0 then [] else [(k, putL x 4 true)]
def lsDH (f : DHR) : List (Int × List Int) := (53, [f.ty]) :: (opL 50 f.wa ++ (opL 54 f.se ++ (opL 51 f.le ++ (opL 1 f.ma ++ (opL 3 f.ro ++ opL 6 f.dn)))))
theorem optV_opL {k : Int} (x : Int) (t : List Int) (h0 : k ≠ 0) (h1 : k ≠ 255) : optV (opDH k x ++ t) = (opL k x ++ (optV t).1, (optV t).2) := by
  rw [optV_op t h0 h1]
  unfold opL
  split
  · rfl
  · rfl
theorem optV_os (f : DHR) (t : List Int) : optV (osDH f ++ ([255] ++ t)) = (lsDH f, true) := by
  have e : osDH f ++ ([255] ++ t) = 53 :: (([f.ty] : List Int).length : Int) :: ([f.ty] ++ (opDH 50 f.wa ++ (opDH 54 f.se ++ (opDH 51 f.le ++ (opDH 1 f.ma ++ (opDH 3 f.ro ++ (opDH 6 f.dn ++ (255 :: t)))))))) := by
    unfold osDH
    simp only [List.append_assoc]
    rfl
  rw [e, optV_opt (by decide) (by decide)]
  rw [optV_opL _ _ (by decide) (by decide), optV_opL _ _ (by decide) (by decide), optV_opL _ _ (by decide) (by decide), optV_opL _ _ (by decide) (by decide), optV_opL _ _ (by decide) (by decide), optV_opL _ _ (by decide) (by decide), optV_end]
  simp only [List.append_nil]
  rfl
theorem fst_skip {k kind : Int} (h : k ≠ kind) (x : Int) (r : List (Int × List Int)) (size : Nat) (more : Bool) : fstV (opL k x ++ r) kind size more = fstV r kind size more := by
  unfold opL
  split
  · rfl
  · unfold fstV
    rw [List.cons_append, List.find?_cons, show (k == kind) = false by simpa using h]
    rfl
theorem fst_hit (k x : Int) (r : List (Int × List Int)) (more : Bool) : fstV (opL k x ++ r) k 4 more = if x = 0 then fstV r k 4 more else some (putL x 4 true) := by
  unfold opL
  split
  · rfl
  · unfold fstV
    have h4 : (putL x 4 true).length = 4 := putB_len x 4 true
    rw [List.cons_append, List.find?_cons, show (k == k) = true by simp, show fitsV 4 more (putL x 4 true).length = true by rw [h4]; rfl]
    simp [List.take_of_length_le (Nat.le_of_eq h4)]
theorem fst_cons {k kind : Int} (h : k ≠ kind) (d : List Int) (r : List (Int × List Int)) (size : Nat) (more : Bool) : fstV ((k, d) :: r) kind size more = fstV r kind size more := by
  unfold fstV
  rw [List.find?_cons, show (k == kind) = false by simpa using h]
  rfl
theorem fst_nil (kind : Int) (size : Nat) (more : Bool) : fstV [] kind size more = none := rfl
theorem four_of {b : List Int} {ps : List (Int × List Int)} (hb : (optV b).1 = ps) {k x : Int} {more : Bool} (hx : 0 ≤ x ∧ x < 4294967296) (h : fstV ps k 4 more = if x = 0 then none else some (putL x 4 true)) : fourV b k more = x := by
  unfold fourV
  rw [hb, h]
  by_cases h0 : x = 0
  · rw [if_pos h0]; exact h0.symm
  · rw [if_neg h0]
    exact getV_putG_eq (by omega) true hx.1 (by rw [show (2 : Int) ^ (8 * 4) = 4294967296 by decide]; exact hx.2)
theorem fst_ls {f : DHR} (kind : Int) (more : Bool) (h53 : (53 : Int) ≠ kind) : fstV (lsDH f) kind 4 more = fstV (opL 50 f.wa ++ (opL 54 f.se ++ (opL 51 f.le ++ (opL 1 f.ma ++ (opL 3 f.ro ++ (opL 6 f.dn ++ [])))))) kind 4 more := by
  unfold lsDH
  rw [fst_cons h53, List.append_nil]
theorem ls_50 (f : DHR) (m : Bool) : fstV (lsDH f) 50 4 m = if f.wa = 0 then none else some (putL f.wa 4 true) := by
  rw [fst_ls _ _ (by decide), fst_hit, fst_skip (by decide), fst_skip (by decide), fst_skip (by decide), fst_skip (by decide), fst_skip (by decide), fst_nil]
theorem ls_54 (f : DHR) (m : Bool) : fstV (lsDH f) 54 4 m = if f.se = 0 then none else some (putL f.se 4 true) := by
  rw [fst_ls _ _ (by decide), fst_skip (by decide), fst_hit, fst_skip (by decide), fst_skip (by decide), fst_skip (by decide), fst_skip (by decide), fst_nil]
theorem ls_51 (f : DHR) (m : Bool) : fstV (lsDH f) 51 4 m = if f.le = 0 then none else some (putL f.le 4 true) := by
  rw [fst_ls _ _ (by decide), fst_skip (by decide), fst_skip (by decide), fst_hit, fst_skip (by decide), fst_skip (by decide), fst_skip (by decide), fst_nil]
theorem ls_1 (f : DHR) (m : Bool) : fstV (lsDH f) 1 4 m = if f.ma = 0 then none else some (putL f.ma 4 true) := by
  rw [fst_ls _ _ (by decide), fst_skip (by decide), fst_skip (by decide), fst_skip (by decide), fst_hit, fst_skip (by decide), fst_skip (by decide), fst_nil]
theorem ls_3 (f : DHR) (m : Bool) : fstV (lsDH f) 3 4 m = if f.ro = 0 then none else some (putL f.ro 4 true) := by
  rw [fst_ls _ _ (by decide), fst_skip (by decide), fst_skip (by decide), fst_skip (by decide), fst_skip (by decide), fst_hit, fst_skip (by decide), fst_nil]
theorem ls_6 (f : DHR) (m : Bool) : fstV (lsDH f) 6 4 m = if f.dn = 0 then none else some (putL f.dn 4 true) := by
  rw [fst_ls _ _ (by decide), fst_skip (by decide), fst_skip (by decide), fst_skip (by decide), fst_skip (by decide), fst_skip (by decide), fst_hit, fst_nil]
theorem ls_53 (f : DHR) : fstV (lsDH f) 53 1 false = some [f.ty] := by
  unfold lsDH fstV
  rw [List.find?_cons]
  rfl
/-! ### The first 240 bytes -/
theorem cut_mid20 (p x r : List Int) (lo hi : Nat) (h1 : lo = p.length) (h2 : hi = lo + x.length) : cutL (p ++ (x ++ r)) lo hi = x := by
  subst h1 h2
  unfold cutL
  rw [List.drop_left' rfl, show p.length + x.length - p.length = x.length by omega, List.take_left' rfl]
theorem hd_all (f : DHR) (t : List Int) : hdDH f ++ t = ([f.op, 1, 6, 0] ++ (putL f.xid 4 true ++ ([0, 0, 0, 0] ++ (putL f.ci 4 true ++ (putL f.yi 4 true ++ (List.replicate 8 0 ++ (f.x ++ (List.replicate 202 0 ++ ([99, 130, 83, 99] ++ t))))))))) := by unfold hdDH; simp only [List.append_assoc]
theorem hd_4 {f : DHR} (h6 : f.x.length = 6) (t : List Int) : cutL (hdDH f ++ t) 4 8 = putL f.xid 4 true := by
  rw [hd_all, show ([f.op, 1, 6, 0] ++ (putL f.xid 4 true ++ ([0, 0, 0, 0] ++ (putL f.ci 4 true ++ (putL f.yi 4 true ++ (List.replicate 8 0 ++ (f.x ++ (List.replicate 202 0 ++ ([99, 130, 83, 99] ++ t))))))))) = ([f.op, 1, 6, 0]) ++ (putL f.xid 4 true ++ ([0, 0, 0, 0] ++ (putL f.ci 4 true ++ (putL f.yi 4 true ++ (List.replicate 8 0 ++ (f.x ++ (List.replicate 202 0 ++ ([99, 130, 83, 99] ++ t)))))))) by simp only [List.append_assoc]]
  exact cut_mid20 _ _ _ _ _ (by simp [putB_len, h6]) (by simp [putB_len, h6])
theorem hd_12 {f : DHR} (h6 : f.x.length = 6) (t : List Int) : cutL (hdDH f ++ t) 12 16 = putL f.ci 4 true := by
  rw [hd_all, show ([f.op, 1, 6, 0] ++ (putL f.xid 4 true ++ ([0, 0, 0, 0] ++ (putL f.ci 4 true ++ (putL f.yi 4 true ++ (List.replicate 8 0 ++ (f.x ++ (List.replicate 202 0 ++ ([99, 130, 83, 99] ++ t))))))))) = ([f.op, 1, 6, 0] ++ putL f.xid 4 true ++ [0, 0, 0, 0]) ++ (putL f.ci 4 true ++ (putL f.yi 4 true ++ (List.replicate 8 0 ++ (f.x ++ (List.replicate 202 0 ++ ([99, 130, 83, 99] ++ t)))))) by simp only [List.append_assoc]]
  exact cut_mid20 _ _ _ _ _ (by simp [putB_len, h6]) (by simp [putB_len, h6])
theorem hd_16 {f : DHR} (h6 : f.x.length = 6) (t : List Int) : cutL (hdDH f ++ t) 16 20 = putL f.yi 4 true := by
  rw [hd_all, show ([f.op, 1, 6, 0] ++ (putL f.xid 4 true ++ ([0, 0, 0, 0] ++ (putL f.ci 4 true ++ (putL f.yi 4 true ++ (List.replicate 8 0 ++ (f.x ++ (List.replicate 202 0 ++ ([99, 130, 83, 99] ++ t))))))))) = ([f.op, 1, 6, 0] ++ putL f.xid 4 true ++ [0, 0, 0, 0] ++ putL f.ci 4 true) ++ (putL f.yi 4 true ++ (List.replicate 8 0 ++ (f.x ++ (List.replicate 202 0 ++ ([99, 130, 83, 99] ++ t))))) by simp only [List.append_assoc]]
  exact cut_mid20 _ _ _ _ _ (by simp [putB_len, h6]) (by simp [putB_len, h6])
theorem hd_28 {f : DHR} (h6 : f.x.length = 6) (t : List Int) : cutL (hdDH f ++ t) 28 34 = f.x := by
  rw [hd_all, show ([f.op, 1, 6, 0] ++ (putL f.xid 4 true ++ ([0, 0, 0, 0] ++ (putL f.ci 4 true ++ (putL f.yi 4 true ++ (List.replicate 8 0 ++ (f.x ++ (List.replicate 202 0 ++ ([99, 130, 83, 99] ++ t))))))))) = ([f.op, 1, 6, 0] ++ putL f.xid 4 true ++ [0, 0, 0, 0] ++ putL f.ci 4 true ++ putL f.yi 4 true ++ List.replicate 8 0) ++ (f.x ++ (List.replicate 202 0 ++ ([99, 130, 83, 99] ++ t))) by simp only [List.append_assoc]]
  exact cut_mid20 _ _ _ _ _ (by simp [putB_len, h6]) (by simp [putB_len, h6])
theorem hd_236 {f : DHR} (h6 : f.x.length = 6) (t : List Int) : cutL (hdDH f ++ t) 236 240 = [99, 130, 83, 99] := by
  rw [hd_all, show ([f.op, 1, 6, 0] ++ (putL f.xid 4 true ++ ([0, 0, 0, 0] ++ (putL f.ci 4 true ++ (putL f.yi 4 true ++ (List.replicate 8 0 ++ (f.x ++ (List.replicate 202 0 ++ ([99, 130, 83, 99] ++ t))))))))) = ([f.op, 1, 6, 0] ++ putL f.xid 4 true ++ [0, 0, 0, 0] ++ putL f.ci 4 true ++ putL f.yi 4 true ++ List.replicate 8 0 ++ f.x ++ List.replicate 202 0) ++ ([99, 130, 83, 99] ++ t) by simp only [List.append_assoc]]
  exact cut_mid20 _ _ _ _ _ (by simp [putB_len, h6]) (by simp [putB_len, h6])
theorem hd_get {f : DHR} (t : List Int) : (hdDH f ++ t).getD 0 0 = f.op ∧ (hdDH f ++ t).getD 1 0 = 1 ∧ (hdDH f ++ t).getD 2 0 = 6 := by
  rw [hd_all]
  exact ⟨rfl, rfl, rfl⟩
theorem hdOk_hd {f : DHR} (h : okDH f = true) (t : List Int) : hdOk (hdDH f ++ t) = true := by
  have hk := okDH_spec h
  have hg := hd_get (f := f) t
  unfold hdOk
  rw [hg.1, hg.2.1, hg.2.2, hd_236 hk.2.1]
  rcases hk.1 with e | e <;> rw [e] <;> decide
theorem drop_hd {f : DHR} (h6 : f.x.length = 6) (t : List Int) : (hdDH f ++ t).drop 240 = t := List.drop_left' (hdDH_len h6)
/-- What is put is got, whatever stands behind; with what may be another Want, told ahead. -/
theorem get_hd {f : DHR} (h : okDH f = true) {t : List Int} {ps : List (Int × List Int)} (ht : optV t = (ps, true)) (hty : fstV ps 53 1 false = some [f.ty]) :
    getDHE (hdDH f ++ t) = 0 := by
  have hk := okDH_spec h
  have hl := hdDH_len hk.2.1
  have hd := drop_hd hk.2.1 t
  have htv : typV t = f.ty := by unfold typV; rw [ht, hty]; rfl
  unfold getDHE
  rw [if_neg (by rw [List.length_append]; omega), if_neg (by rw [hdOk_hd h]; simp), hd, htv, ht, if_neg (by simp; omega)]
theorem got_hd {f : DHR} (h : okDH f = true) (hq : u32I f.xid) (hc : u32I f.ci) (hy : u32I f.yi) {t : List Int} {ps : List (Int × List Int)} (ht : optV t = (ps, true)) (hty : fstV ps 53 1 false = some [f.ty]) :
    getDH (hdDH f ++ t) = ⟨f.op, f.xid, f.ci, f.yi, f.x, f.ty, fourV t 50 false, fourV t 54 false, fourV t 51 false, fourV t 1 false, fourV t 3 true, fourV t 6 true⟩ := by
  have hk := okDH_spec h
  have hd := drop_hd hk.2.1 t
  have htv : typV t = f.ty := by unfold typV; rw [ht, hty]; rfl
  have e4 : ∀ x : Int, u32I x → getV (putL x 4 true) true = x := fun x hx => getV_putG_eq (by omega) true hx.1 (by rw [show (2 : Int) ^ (8 * 4) = 4294967296 by decide]; exact hx.2)
  unfold getDH dhOf
  rw [if_pos (get_hd h ht hty), hd, htv, (hd_get t).1, hd_4 hk.2.1, hd_12 hk.2.1, hd_16 hk.2.1, hd_28 hk.2.1, e4 _ hq, e4 _ hc, e4 _ hy]
theorem get_put20 {f : DHR} (h : okDH f = true) {w : World} {v : Value} (hv : Dh w v f) (ms : List Int) : getDHE (putDH f ++ ms) = 0 ∧ getDH (putDH f ++ ms) = f := by
  have e : putDH f ++ ms = hdDH f ++ (osDH f ++ ([255] ++ ms)) := by unfold putDH; simp only [List.append_assoc]
  have ht := optV_os f ms
  have hp : ∀ {x : List (Int × List Int)} {y : Bool}, optV (osDH f ++ ([255] ++ ms)) = (x, y) → (optV (osDH f ++ ([255] ++ ms))).1 = x := fun h => by rw [h]
  rw [e]
  refine ⟨get_hd h ht (ls_53 f), ?_⟩
  rw [got_hd h hv.xid hv.ci hv.yi ht (ls_53 f), four_of (hp ht) hv.wa (ls_50 f _), four_of (hp ht) hv.se (ls_54 f _), four_of (hp ht) hv.le (ls_51 f _), four_of (hp ht) hv.ma (ls_1 f _), four_of (hp ht) hv.ro (ls_3 f _), four_of (hp ht) hv.dn (ls_6 f _)]
/-- Noughts, a Want and an unknown option ahead of the others. -/
theorem optV_zeros (n : Nat) (t : List Int) : optV (List.replicate n 0 ++ t) = optV t := by
  induction n with
  | zero => rfl
  | succ n ih => rw [List.replicate_succ, List.cons_append, optV_zero]; exact ih
def aheadV (n : Nat) (want : Int) (odd : List Int) : List Int := List.replicate n 0 ++ ([50, 4] ++ putL want 4 true ++ [200, (odd.length : Int)])
theorem optV_ahead (n : Nat) (want : Int) (odd t : List Int) : optV (aheadV n want odd ++ (odd ++ t)) = ((50, putL want 4 true) :: (200, odd) :: (optV t).1, (optV t).2) := by
  unfold aheadV
  have e : List.replicate n 0 ++ ([50, 4] ++ putL want 4 true ++ [200, (odd.length : Int)]) ++ (odd ++ t) = List.replicate n 0 ++ (50 :: ((putL want 4 true).length : Int) :: (putL want 4 true ++ (200 :: (odd.length : Int) :: (odd ++ t)))) := by
    rw [putB_len]
    simp only [List.append_assoc]
    rfl
  rw [e, optV_zeros, optV_opt (by decide) (by decide), optV_opt (by decide) (by decide)]
theorem fst_first {want : Int} (r : List (Int × List Int)) (m : Bool) : fstV ((50, putL want 4 true) :: r) 50 4 m = some (putL want 4 true) := by
  unfold fstV
  have h4 : (putL want 4 true).length = 4 := putB_len want 4 true
  rw [List.find?_cons, show ((50 : Int) == 50) = true by decide, show fitsV 4 m (putL want 4 true).length = true by rw [h4]; rfl]
  simp [List.take_of_length_le (Nat.le_of_eq h4)]
def withWant (f : DHR) (want : Int) : DHR := ⟨f.op, f.xid, f.ci, f.yi, f.x, f.ty, want, f.se, f.le, f.ma, f.ro, f.dn⟩
theorem get_ahead {f : DHR} (h : okDH f = true) {w : World} {v : Value} (hv : Dh w v f) (n : Nat) (want : Int) (hw : 0 ≤ want ∧ want < 4294967296) (h0 : want ≠ 0) (odd : List Int) :
    getDHE (hdDH f ++ (aheadV n want odd ++ (odd ++ (osDH f ++ [255])))) = 0 ∧ getDH (hdDH f ++ (aheadV n want odd ++ (odd ++ (osDH f ++ [255])))) = withWant f want := by
  have ht0 := optV_os f []
  rw [List.append_nil] at ht0
  have ht : optV (aheadV n want odd ++ (odd ++ (osDH f ++ [255]))) = ((50, putL want 4 true) :: (200, odd) :: lsDH f, true) := by rw [optV_ahead, ht0]
  have hp : (optV (aheadV n want odd ++ (odd ++ (osDH f ++ [255])))).1 = (50, putL want 4 true) :: (200, odd) :: lsDH f := by rw [ht]
  have hs : ∀ {kind : Int} {size : Nat} {m : Bool}, (50 : Int) ≠ kind → (200 : Int) ≠ kind → fstV ((50, putL want 4 true) :: (200, odd) :: lsDH f) kind size m = fstV (lsDH f) kind size m := fun h1 h2 => by rw [fst_cons h1, fst_cons h2]
  have h53 : fstV ((50, putL want 4 true) :: (200, odd) :: lsDH f) 53 1 false = some [f.ty] := by rw [hs (by decide) (by decide), ls_53]
  refine ⟨get_hd h ht h53, ?_⟩
  rw [got_hd h hv.xid hv.ci hv.yi ht h53, four_of hp hw (by rw [fst_first, if_neg h0]), four_of hp hv.se (by rw [hs (by decide) (by decide), ls_54]), four_of hp hv.le (by rw [hs (by decide) (by decide), ls_51]), four_of hp hv.ma (by rw [hs (by decide) (by decide), ls_1]), four_of hp hv.ro (by rw [hs (by decide) (by decide), ls_3]), four_of hp hv.dn (by rw [hs (by decide) (by decide), ls_6])]
  rfl
/-- What is got may be put. -/
theorem ok_got {b : List Int} (h : getDHE b = 0) : okDH (dhOf b) = true ∧ getDH b = dhOf b := by
  refine ⟨?_, by unfold getDH; rw [if_pos h]⟩
  unfold getDHE at h
  split at h
  · simp at h
  · rename_i h240
    split at h
    · simp at h
    · rename_i hh
      split at h
      · simp at h
      · rename_i ht
        have hho : hdOk b = true := by simpa using hh
        unfold hdOk at hho
        simp only [Bool.and_eq_true, Bool.or_eq_true, beq_iff_eq] at hho
        have ht1 : ¬ typV (b.drop 240) < 1 := fun e => ht (.inr (.inl e))
        have ht8 : ¬ 8 < typV (b.drop 240) := fun e => ht (.inr (.inr e))
        refine okDH_of hho.1.1.1 ?_ ?_ ?_
        · show (cutL b 28 34).length = 6
          rw [cutL_length (by omega) (by omega)]
        · show 1 ≤ typV (b.drop 240); omega
        · show typV (b.drop 240) ≤ 8; omega
theorem dhOf_dh {b : List Int} (ok : AreBytes b) (h : 240 ≤ b.length) {w : World} {a : Option Addr} {c : Nat} (hb : Buf w (.slice a (cutL b 28 34).length c) (cutL b 28 34)) : Dh w (dhV (dhOf b) a c) (dhOf b) := by
  have hos : AreBytes (b.drop 240) := fun z hz => ok z (List.mem_of_mem_drop hz)
  have g4 : ∀ lo hi, hi = lo + 4 → hi ≤ b.length → u32I (getV (cutL b lo hi) true) := fun lo hi e h => by
    have := getG_lt (ok.cut lo hi) true (n := 4) (by rw [cutL_length (by omega) h]; omega) (by omega)
    rwa [show (2 : Int) ^ (8 * 4) = 4294967296 by decide] at this
  have i0 := ok.getD 0
  have it := typV_lt hos
  exact ⟨⟨a, c, rfl, hb⟩, by show intI (b.getD 0 0); unfold intI; omega, g4 4 8 rfl (by omega), g4 12 16 rfl (by omega), g4 16 20 rfl (by omega), by show intI (typV (b.drop 240)); unfold intI; omega,
    fourV_lt hos _ _, fourV_lt hos _ _, fourV_lt hos _ _, fourV_lt hos _ _, fourV_lt hos _ _, fourV_lt hos _ _⟩
theorem putDH_len {f : DHR} (h : okDH f = true) : 244 ≤ (putDH f).length ∧ (putDH f).length ≤ 280 := by
  have hk := okDH_spec h
  have ho := osDH_len f
  unfold putDH
  rw [List.length_append, List.length_append, hdDH_len hk.2.1]
  simp only [List.length_cons, List.length_nil]
  omega
theorem putDH_head {f : DHR} (h : okDH f = true) : cutL (putDH f) 0 240 = hdDH f ∧ cutL (putDH f) 240 (putDH f).length = osDH f ++ [255] := by
  have hk := okDH_spec h
  have hl := hdDH_len hk.2.1
  have e : putDH f = hdDH f ++ (osDH f ++ [255]) := by unfold putDH; simp only [List.append_assoc]
  constructor
  · rw [e, cutL_left _ _ _ _ (by omega), cutL_whole hl]
  · rw [cutL_rest, e]; exact List.drop_left' hl
end Go.Proofs.Ytnmffkmpkgmkpaa
