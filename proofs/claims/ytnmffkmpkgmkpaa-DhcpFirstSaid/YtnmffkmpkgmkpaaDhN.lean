/-
  Messages of who gets an address, as lists of bytes and numbers; what they are put to, and what bytes are got to. Values that read as them.
-/
import Derived.Test.YtnmffkmpkgmkpaaPutG
import Derived.Test.YtnmffkmpkgmkpaaKept
import Derived.Test.YtnmffkmpkgmkpaaClone
import Derived.Test.YtnmffkmpkgmkpaaStep
import Derived.Test.YtnmffkmpkgmkpaaZerB
set_option maxRecDepth 4000
set_option linter.unusedVariables false
set_option linter.unusedSimpArgs false
namespace Go.Proofs.Ytnmffkmpkgmkpaa
open Go.RowKit

structure DHR where
  op : Int
  xid : Int
  ci : Int
  yi : Int
  x : List Int
  ty : Int
  wa : Int
  se : Int
  le : Int
  ma : Int
  ro : Int
  dn : Int
def zDH : DHR := ⟨0, 0, 0, 0, [], 0, 0, 0, 0, 0, 0, 0⟩
abbrev dhV (f : DHR) (a1 : Option Addr) (c1 : Nat) : Value := .agg #[.int .i64 f.op, .int .u32 f.xid, .int .u32 f.ci, .int .u32 f.yi, .slice a1 f.x.length c1, .int .i64 f.ty, .int .u32 f.wa, .int .u32 f.se, .int .u32 f.le, .int .u32 f.ma, .int .u32 f.ro, .int .u32 f.dn]
/-- v reads as f. -/
structure Dh (w : World) (v : Value) (f : DHR) : Prop where
  shape : ∃ a1 c1, v = dhV f a1 c1 ∧ Buf w (.slice a1 f.x.length c1) f.x
  op : intI f.op
  xid : u32I f.xid
  ci : u32I f.ci
  yi : u32I f.yi
  ty : intI f.ty
  wa : u32I f.wa
  se : u32I f.se
  le : u32I f.le
  ma : u32I f.ma
  ro : u32I f.ro
  dn : u32I f.dn
theorem Dh.grew {w w' : World} {v : Value} {f : DHR} (h : Dh w v f) (g : Grew w w') : Dh w' v f := by
  obtain ⟨a1, c1, e, h1⟩ := h.shape
  exact ⟨⟨a1, c1, e, h1.grew g⟩, h.op, h.xid, h.ci, h.yi, h.ty, h.wa, h.se, h.le, h.ma, h.ro, h.dn⟩
theorem Dh.kept {w w' : World} {v : Value} {f : DHR} (h : Dh w v f) (g : BufsKept w w') : Dh w' v f := by
  obtain ⟨a1, c1, e, h1⟩ := h.shape
  exact ⟨⟨a1, c1, e, g _ _ h1⟩, h.op, h.xid, h.ci, h.yi, h.ty, h.wa, h.se, h.le, h.ma, h.ro, h.dn⟩
theorem Dh.zero (w : World) : Dh w (.agg #[.int .i64 0, .int .u32 0, .int .u32 0, .int .u32 0, .slice none 0 0, .int .i64 0, .int .u32 0, .int .u32 0, .int .u32 0, .int .u32 0, .int .u32 0, .int .u32 0]) zDH := ⟨⟨none, 0, rfl, Buf.nil w⟩, by simp [intI, zDH], by simp [u32I, zDH], by simp [u32I, zDH], by simp [u32I, zDH], by simp [intI, zDH], by simp [u32I, zDH], by simp [u32I, zDH], by simp [u32I, zDH], by simp [u32I, zDH], by simp [u32I, zDH], by simp [u32I, zDH]⟩
theorem Dh.of {w : World} {a1 : Option Addr} {n1 c1 : Nat} {op : Int} {xid : Int} {ci : Int} {yi : Int} {x : List Int} {ty : Int} {wa : Int} {se : Int} {le : Int} {ma : Int} {ro : Int} {dn : Int} (h1 : Buf w (.slice a1 n1 c1) x) (kop : intI op) (kxid : u32I xid) (kci : u32I ci) (kyi : u32I yi) (kty : intI ty) (kwa : u32I wa) (kse : u32I se) (kle : u32I le) (kma : u32I ma) (kro : u32I ro) (kdn : u32I dn) :
    Dh w (.agg #[.int .i64 op, .int .u32 xid, .int .u32 ci, .int .u32 yi, .slice a1 n1 c1, .int .i64 ty, .int .u32 wa, .int .u32 se, .int .u32 le, .int .u32 ma, .int .u32 ro, .int .u32 dn]) ⟨op, xid, ci, yi, x, ty, wa, se, le, ma, ro, dn⟩ := by
  obtain ⟨rfl, _⟩ := h1.lenEq
  exact ⟨⟨_, _, rfl, h1⟩, kop, kxid, kci, kyi, kty, kwa, kse, kle, kma, kro, kdn⟩

theorem zeros_ok (n : Nat) : AreBytes (List.replicate n 0) := fun x hx => by
  obtain ⟨_, rfl⟩ := List.mem_replicate.1 hx
  omega
/-! ### What is put -/
def okDH (f : DHR) : Bool := (f.op == 1 || f.op == 2) && decide (f.x.length = 6) && decide (1 ≤ f.ty) && decide (f.ty ≤ 8)
/-- An option of a number; none of 0. -/
def opDH (k x : Int) : List Int := if x = 0 then [] else [k, 4] ++ putL x 4 true
/-- The first 240 bytes. -/
def hdDH (f : DHR) : List Int := [f.op, 1, 6, 0] ++ putL f.xid 4 true ++ [0, 0, 0, 0] ++ putL f.ci 4 true ++ putL f.yi 4 true ++ List.replicate 8 0 ++ f.x ++ List.replicate 202 0 ++ [99, 130, 83, 99]
/-- All options. -/
def osDH (f : DHR) : List Int := [53, 1, f.ty] ++ opDH 50 f.wa ++ opDH 54 f.se ++ opDH 51 f.le ++ opDH 1 f.ma ++ opDH 3 f.ro ++ opDH 6 f.dn
def putDH (f : DHR) : List Int := hdDH f ++ osDH f ++ [255]
def putDHB (f : DHR) : List Int := if okDH f then putDH f else []
def putDHE (f : DHR) : Int := if okDH f then 0 else 2
/-! ### What is got -/
/-- Options as they stand: each with its bytes, up to a 255, the end, or what is none; whether they are options to the end. -/
def optF : Nat → List Int → List (Int × List Int) × Bool
  | 0, _ => ([], true)
  | _ + 1, [] => ([], true)
  | k + 1, x :: r =>
    if x = 255 then ([], true) else if x = 0 then optF k r
    else match r with
      | [] => ([], false)
      | n :: t => if (t.length : Int) < n then ([], false) else ((x, t.take n.toNat) :: (optF k (t.drop n.toNat)).1, (optF k (t.drop n.toNat)).2)
def optV (b : List Int) : List (Int × List Int) × Bool := optF (b.length + 1) b
/-- As long as it must be? -/
def fitsV (size : Nat) (more : Bool) (n : Nat) : Bool := n == size || (more && decide (size < n))
/-- The first option of a kind that is as long as it must be. -/
def fstV (ps : List (Int × List Int)) (kind : Int) (size : Nat) (more : Bool) : Option (List Int) := (ps.find? fun p => p.1 == kind && fitsV size more p.2.length).map fun p => p.2.take size
/-- What find tells. -/
def fndV (b : List Int) (kind : Int) (size : Nat) (more : Bool) : List Int × Bool × Bool :=
  match fstV (optV b).1 kind size more with
  | some d => (d, true, true)
  | none => ([], false, (optV b).2)
def fourV (b : List Int) (kind : Int) (more : Bool) : Int :=
  match fstV (optV b).1 kind 4 more with
  | some d => getV d true
  | none => 0
/-- Its type; 0 without. -/
def typV (b : List Int) : Int :=
  match fstV (optV b).1 53 1 false with
  | some d => d.getD 0 0
  | none => 0
def hdOk (b : List Int) : Bool := (b.getD 0 0 == 1 || b.getD 0 0 == 2) && b.getD 1 0 == 1 && b.getD 2 0 == 6 && getV (cutL b 236 240) true == 1669485411
def getDHE (b : List Int) : Int :=
  if b.length < 240 then 160 else if hdOk b = false then 161
  else if (optV (b.drop 240)).2 = false ∨ typV (b.drop 240) < 1 ∨ 8 < typV (b.drop 240) then 161 else 0
def dhOf (b : List Int) : DHR := ⟨b.getD 0 0, getV (cutL b 4 8) true, getV (cutL b 12 16) true, getV (cutL b 16 20) true, cutL b 28 34, typV (b.drop 240),
  fourV (b.drop 240) 50 false, fourV (b.drop 240) 54 false, fourV (b.drop 240) 51 false, fourV (b.drop 240) 1 false, fourV (b.drop 240) 3 true, fourV (b.drop 240) 6 true⟩
def getDH (b : List Int) : DHR := if getDHE b = 0 then dhOf b else zDH

theorem okDH_spec {f : DHR} (h : okDH f = true) : (f.op = 1 ∨ f.op = 2) ∧ f.x.length = 6 ∧ 1 ≤ f.ty ∧ f.ty ≤ 8 := by
  unfold okDH at h
  simp only [Bool.and_eq_true, Bool.or_eq_true, beq_iff_eq, decide_eq_true_eq] at h
  omega
theorem okDH_of {f : DHR} (h1 : f.op = 1 ∨ f.op = 2) (h2 : f.x.length = 6) (h3 : 1 ≤ f.ty) (h4 : f.ty ≤ 8) : okDH f = true := by
  unfold okDH
  simp only [Bool.and_eq_true, Bool.or_eq_true, beq_iff_eq, decide_eq_true_eq]
  omega
theorem opDH_len (k x : Int) : (opDH k x).length = 0 ∨ (opDH k x).length = 6 := by
  unfold opDH
  split
  · exact .inl rfl
  · exact .inr (by simp [putB_len])
theorem bytes_lit' {a b : Int} (ha : 0 ≤ a ∧ a < 256) (hb : 0 ≤ b ∧ b < 256) : AreBytes [a, b] := fun z hz => by
  simp only [List.mem_cons, List.not_mem_nil, or_false] at hz
  omega
theorem opDH_ok {k : Int} (x : Int) (h : 0 ≤ k ∧ k < 256) : AreBytes (opDH k x) := by
  unfold opDH
  split
  · intro z hz; simp at hz
  · exact (bytes_lit' h (by omega)).app (putB_ok _ _ _)
theorem hdDH_len {f : DHR} (h : f.x.length = 6) : (hdDH f).length = 240 := by simp [hdDH, putB_len, h]
theorem hdDH_ok {f : DHR} (h : f.op = 1 ∨ f.op = 2) (hx : AreBytes f.x) : AreBytes (hdDH f) := by
  unfold hdDH
  refine (((((((AreBytes.app ?_ (putB_ok _ _ _)).app ?_).app (putB_ok _ _ _)).app (putB_ok _ _ _)).app (zeros_ok _)).app hx).app (zeros_ok _)).app ?_
  · intro z hz; simp only [List.mem_cons, List.not_mem_nil, or_false] at hz; omega
  · intro z hz; simp only [List.mem_cons, List.not_mem_nil, or_false] at hz; omega
  · intro z hz; simp only [List.mem_cons, List.not_mem_nil, or_false] at hz; omega
theorem osDH_ok {f : DHR} (h1 : 1 ≤ f.ty) (h2 : f.ty ≤ 8) : AreBytes (osDH f) := by
  unfold osDH
  refine ((((((AreBytes.app ?_ (opDH_ok _ (by omega))).app (opDH_ok _ (by omega))).app (opDH_ok _ (by omega))).app (opDH_ok _ (by omega))).app (opDH_ok _ (by omega))).app (opDH_ok _ (by omega)))
  intro z hz; simp only [List.mem_cons, List.not_mem_nil, or_false] at hz; omega
theorem osDH_len (f : DHR) : 3 ≤ (osDH f).length ∧ (osDH f).length ≤ 39 := by
  have h1 := opDH_len 50 f.wa
  have h2 := opDH_len 54 f.se
  have h3 := opDH_len 51 f.le
  have h4 := opDH_len 1 f.ma
  have h5 := opDH_len 3 f.ro
  have h6 := opDH_len 6 f.dn
  simp only [osDH, List.length_append, List.length_cons, List.length_nil]
  omega
theorem putDH_ok {f : DHR} (h : okDH f = true) (hx : AreBytes f.x) : AreBytes (putDH f) := by
  have hk := okDH_spec h
  refine ((hdDH_ok hk.1 hx).app (osDH_ok hk.2.2.1 hk.2.2.2)).app ?_
  intro z hz; simp only [List.mem_cons, List.not_mem_nil, or_false] at hz; omega

/-! ### Options, one by one -/
theorem optF_more : ∀ k k' (b : List Int), b.length < k → b.length < k' → optF k b = optF k' b
  | 0, _, _, h, _ => by omega
  | _ + 1, 0, _, _, h => by omega
  | k + 1, k' + 1, [], _, _ => rfl
  | k + 1, k' + 1, x :: r, h1, h2 => by
    simp only [List.length_cons] at h1 h2
    unfold optF
    split
    · rfl
    · split
      · exact optF_more k k' r (by omega) (by omega)
      · match r with
        | [] => rfl
        | n :: t =>
          simp only [List.length_cons] at h1 h2
          simp only
          split
          · rfl
          · rw [optF_more k k' (t.drop n.toNat) (by simp; omega) (by simp; omega)]
theorem optV_nil : optV [] = ([], true) := rfl
theorem optV_end (r : List Int) : optV (255 :: r) = ([], true) := by
  unfold optV optF
  rw [if_pos rfl]
theorem optV_zero (r : List Int) : optV (0 :: r) = optV r := by
  conv => lhs; unfold optV optF
  rw [if_neg (by decide), if_pos rfl]
  exact optF_more _ _ _ (by simp) (by omega)
theorem optV_short {x : Int} (h0 : x ≠ 0) (h1 : x ≠ 255) : optV [x] = ([], false) := by
  unfold optV optF
  rw [if_neg h1, if_neg h0]
theorem optV_bad {x n : Int} {t : List Int} (h0 : x ≠ 0) (h1 : x ≠ 255) (h2 : (t.length : Int) < n) : optV (x :: n :: t) = ([], false) := by
  unfold optV optF
  rw [if_neg h1, if_neg h0]
  simp only
  rw [if_pos h2]
theorem optV_one {x n : Int} {t : List Int} (h0 : x ≠ 0) (h1 : x ≠ 255) (h2 : ¬ (t.length : Int) < n) : optV (x :: n :: t) = ((x, t.take n.toNat) :: (optV (t.drop n.toNat)).1, (optV (t.drop n.toNat)).2) := by
  conv => lhs; unfold optV optF
  rw [if_neg h1, if_neg h0]
  simp only
  rw [if_neg h2, optF_more _ ((t.drop n.toNat).length + 1) (t.drop n.toNat) (by simp; omega) (by omega)]
  rfl
theorem optV_opt {x : Int} {d t : List Int} (h0 : x ≠ 0) (h1 : x ≠ 255) : optV (x :: (d.length : Int) :: (d ++ t)) = ((x, d) :: (optV t).1, (optV t).2) := by
  rw [optV_one h0 h1 (by rw [List.length_append]; omega), Int.toNat_natCast, List.take_left' rfl, List.drop_left' rfl]
theorem optV_op {k x : Int} (t : List Int) (h0 : k ≠ 0) (h1 : k ≠ 255) : optV (opDH k x ++ t) = if x = 0 then optV t else ((k, putL x 4 true) :: (optV t).1, (optV t).2) := by
  unfold opDH
  split
  · rfl
  · have := optV_opt (d := putL x 4 true) (t := t) h0 h1
    rw [putB_len] at this
    exact this
/-- Whatever is found is bytes. -/
theorem optF_ok : ∀ k (b : List Int), AreBytes b → ∀ p ∈ (optF k b).1, AreBytes p.2
  | 0, _, _, p, hp => by simp [optF] at hp
  | _ + 1, [], _, p, hp => by simp [optF] at hp
  | k + 1, x :: r, h, p, hp => by
    have hr : AreBytes r := fun z hz => h z (List.mem_cons_of_mem _ hz)
    unfold optF at hp
    split at hp
    · simp at hp
    · split at hp
      · exact optF_ok k r hr p hp
      · match r, hr, hp with
        | [], _, hp => simp at hp
        | n :: t, hr, hp =>
          simp only at hp
          split at hp
          · simp at hp
          · have ht : AreBytes t := fun z hz => hr z (List.mem_cons_of_mem _ hz)
            rcases List.mem_cons.1 hp with rfl | hp
            · exact fun z hz => ht z (List.mem_of_mem_take hz)
            · exact optF_ok k _ (fun z hz => ht z (List.mem_of_mem_drop hz)) p hp
theorem fstV_ok {b : List Int} (h : AreBytes b) {kind : Int} {size : Nat} {more : Bool} {d : List Int} (hd : fstV (optV b).1 kind size more = some d) : AreBytes d ∧ d.length = size := by
  unfold fstV at hd
  obtain ⟨p, hp, rfl⟩ := Option.map_eq_some_iff.1 hd
  have h1 := List.mem_of_find?_eq_some hp
  have h2 := List.find?_some hp
  refine ⟨fun z hz => optF_ok _ b h p h1 z (List.mem_of_mem_take hz), ?_⟩
  simp only [fitsV, Bool.and_eq_true, Bool.or_eq_true, beq_iff_eq, decide_eq_true_eq] at h2
  rw [List.length_take]
  omega
theorem fourV_lt {b : List Int} (h : AreBytes b) (kind : Int) (more : Bool) : 0 ≤ fourV b kind more ∧ fourV b kind more < 4294967296 := by
  unfold fourV
  cases e : fstV (optV b).1 kind 4 more with
  | none => exact ⟨by decide, by decide⟩
  | some d =>
    have hd := fstV_ok h e
    have := getG_lt hd.1 true hd.2 (by omega)
    rwa [show (2 : Int) ^ (8 * 4) = 4294967296 by decide] at this
theorem typV_lt {b : List Int} (h : AreBytes b) : 0 ≤ typV b ∧ typV b < 256 := by
  unfold typV
  cases e : fstV (optV b).1 53 1 false with
  | none => exact ⟨by decide, by decide⟩
  | some d => exact (fstV_ok h e).1.getD 0
/-! ### find, step by step -/
theorem fndV_nil (kind : Int) (size : Nat) (more : Bool) : fndV [] kind size more = ([], false, true) := rfl
theorem fndV_end {b : List Int} (h : 0 < b.length) (h0 : b.getD 0 0 = 255) (kind : Int) (size : Nat) (more : Bool) : fndV b kind size more = ([], false, true) := by
  obtain ⟨x, r, rfl⟩ : ∃ x r, b = x :: r := ⟨b.head (List.ne_nil_of_length_pos h), b.tail, by simp⟩
  simp at h0
  subst h0
  unfold fndV
  rw [optV_end]
  rfl
theorem fndV_zero {b : List Int} (h : 0 < b.length) (h0 : b.getD 0 0 = 0) (kind : Int) (size : Nat) (more : Bool) : fndV b kind size more = fndV (b.drop 1) kind size more := by
  obtain ⟨x, r, rfl⟩ : ∃ x r, b = x :: r := ⟨b.head (List.ne_nil_of_length_pos h), b.tail, by simp⟩
  simp at h0
  subst h0
  unfold fndV
  rw [optV_zero]
  rfl
theorem fndV_bad {b : List Int} (h : 0 < b.length) (h0 : b.getD 0 0 ≠ 0) (h1 : b.getD 0 0 ≠ 255) (h2 : b.length ≤ 1 ∨ ((b.length : Int) - 2 < b.getD 1 0)) (kind : Int) (size : Nat) (more : Bool) : fndV b kind size more = ([], false, false) := by
  match b, h, h0, h1, h2 with
  | [x], _, h0, h1, _ =>
    unfold fndV
    rw [optV_short (by simpa using h0) (by simpa using h1)]
    rfl
  | x :: n :: t, _, h0, h1, h2 =>
    unfold fndV
    rw [optV_bad (by simpa using h0) (by simpa using h1) (by simp at h2; omega)]
    rfl
theorem fndV_hit {b : List Int} (h : 0 < b.length) (h0 : b.getD 0 0 ≠ 0) (h1 : b.getD 0 0 ≠ 255) (h2 : ¬ (b.length ≤ 1 ∨ ((b.length : Int) - 2 < b.getD 1 0))) {kind : Int} {size : Nat} {more : Bool} (h3 : b.getD 0 0 = kind) (h4 : 0 ≤ b.getD 1 0) (h5 : fitsV size more (b.getD 1 0).toNat = true) : fndV b kind size more = (cutL b 2 (2 + size), true, true) := by
  match b, h, h0, h1, h2, h3, h4, h5 with
  | [x], _, _, _, h2, _, _, _ => simp at h2
  | x :: n :: t, _, h0, h1, h2, h3, h4, h5 =>
    simp only [List.getD_cons_zero, List.getD_cons_succ, List.length_cons] at h0 h1 h2 h3 h4 h5
    have hl : (t.take n.toNat).length = n.toNat := by rw [List.length_take]; omega
    have hs : size ≤ n.toNat := by
      simp only [fitsV, Bool.or_eq_true, Bool.and_eq_true, beq_iff_eq, decide_eq_true_eq] at h5
      omega
    unfold fndV fstV
    rw [optV_one h0 h1 (by omega)]
    simp only [List.find?_cons, h3, beq_self_eq_true, Bool.true_and, hl, h5, Option.map_some]
    congr 1
    unfold cutL
    rw [List.take_take, show 2 + size - 2 = size by omega, show min size n.toNat = size by omega]
    rfl
theorem fndV_skip {b : List Int} (h : 0 < b.length) (h0 : b.getD 0 0 ≠ 0) (h1 : b.getD 0 0 ≠ 255) (h2 : ¬ (b.length ≤ 1 ∨ ((b.length : Int) - 2 < b.getD 1 0))) {kind : Int} {size : Nat} {more : Bool} (h4 : 0 ≤ b.getD 1 0) (h5 : b.getD 0 0 ≠ kind ∨ fitsV size more (b.getD 1 0).toNat = false) : fndV b kind size more = fndV (b.drop (2 + (b.getD 1 0).toNat)) kind size more := by
  match b, h, h0, h1, h2, h4, h5 with
  | [x], _, _, _, h2, _, _ => simp at h2
  | x :: n :: t, _, h0, h1, h2, h4, h5 =>
    simp only [List.getD_cons_zero, List.getD_cons_succ, List.length_cons] at h0 h1 h2 h4 h5
    have hl : (t.take n.toNat).length = n.toNat := by rw [List.length_take]; omega
    have hn : (x == kind && fitsV size more n.toNat) = false := by
      rcases h5 with h5 | h5
      · rw [show (x == kind) = false by simpa using h5]; rfl
      · rw [h5, Bool.and_false]
    have hd : (x :: n :: t).drop (2 + n.toNat) = t.drop n.toNat := by rw [Nat.add_comm]; rfl
    have hg : (x :: n :: t).getD 1 0 = n := rfl
    rw [hg, hd]
    unfold fndV fstV
    rw [optV_one h0 h1 (by omega)]
    simp only [List.find?_cons, hl, hn]
end Go.Proofs.Ytnmffkmpkgmkpaa
