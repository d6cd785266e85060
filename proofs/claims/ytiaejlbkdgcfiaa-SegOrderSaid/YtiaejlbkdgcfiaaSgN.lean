/-
  Segments as lists of bytes and numbers; what they are put to, and what bytes are got to. Values that read as them.
-/
import Derived.Test.YtiaejlbkdgcfiaaSmC
import Derived.Test.YtiaejlbkdgcfiaaPutG
import Derived.Test.YtiaejlbkdgcfiaaKept
import Derived.Test.YtiaejlbkdgcfiaaClone
import Derived.Test.YtiaejlbkdgcfiaaStep
import Derived.Test.YtiaejlbkdgcfiaaOff
set_option maxRecDepth 4000
set_option linter.unusedVariables false
set_option linter.unusedSimpArgs false
namespace Go.Proofs.Ytiaejlbkdgcfiaa
open Go.RowKit

structure SGR where
  s : Int
  d : Int
  q : Int
  a : Int
  fl : Int
  wn : Int
  m : Int
  x : List Int
def zSG : SGR := ⟨0, 0, 0, 0, 0, 0, 0, []⟩
abbrev sgV (f : SGR) (a1 : Option Addr) (c1 : Nat) : Value := .agg #[.int .i64 f.s, .int .i64 f.d, .int .u32 f.q, .int .u32 f.a, .int .i64 f.fl, .int .i64 f.wn, .int .i64 f.m, .slice a1 f.x.length c1]
/-- v reads as f. -/
structure Sg (w : World) (v : Value) (f : SGR) : Prop where
  shape : ∃ a1 c1, v = sgV f a1 c1 ∧ Buf w (.slice a1 f.x.length c1) f.x
  s : intI f.s
  d : intI f.d
  q : u32I f.q
  a : u32I f.a
  fl : intI f.fl
  wn : intI f.wn
  m : intI f.m
theorem Sg.grew {w w' : World} {v : Value} {f : SGR} (h : Sg w v f) (g : Grew w w') : Sg w' v f := by
  obtain ⟨a1, c1, e, h1⟩ := h.shape
  exact ⟨⟨a1, c1, e, h1.grew g⟩, h.s, h.d, h.q, h.a, h.fl, h.wn, h.m⟩
theorem Sg.kept {w w' : World} {v : Value} {f : SGR} (h : Sg w v f) (g : BufsKept w w') : Sg w' v f := by
  obtain ⟨a1, c1, e, h1⟩ := h.shape
  exact ⟨⟨a1, c1, e, g _ _ h1⟩, h.s, h.d, h.q, h.a, h.fl, h.wn, h.m⟩
theorem Sg.zero (w : World) : Sg w (.agg #[.int .i64 0, .int .i64 0, .int .u32 0, .int .u32 0, .int .i64 0, .int .i64 0, .int .i64 0, .slice none 0 0]) zSG := ⟨⟨none, 0, rfl, Buf.nil w⟩, by simp [intI, zSG], by simp [intI, zSG], by simp [u32I, zSG], by simp [u32I, zSG], by simp [intI, zSG], by simp [intI, zSG], by simp [intI, zSG]⟩
theorem Sg.of {w : World} {a1 : Option Addr} {n1 c1 : Nat} {s : Int} {d : Int} {q : Int} {a : Int} {fl : Int} {wn : Int} {m : Int} {x : List Int} (h1 : Buf w (.slice a1 n1 c1) x) (ks : intI s) (kd : intI d) (kq : u32I q) (ka : u32I a) (kfl : intI fl) (kwn : intI wn) (km : intI m) :
    Sg w (.agg #[.int .i64 s, .int .i64 d, .int .u32 q, .int .u32 a, .int .i64 fl, .int .i64 wn, .int .i64 m, .slice a1 n1 c1]) ⟨s, d, q, a, fl, wn, m, x⟩ := by
  obtain ⟨rfl, _⟩ := h1.lenEq
  exact ⟨⟨_, _, rfl, h1⟩, ks, kd, kq, ka, kfl, kwn, km⟩

/-! ### What is put -/
def wordV (n : Int) : Bool := decide (0 ≤ n ∧ n ≤ 65535)
def okSG (f : SGR) : Bool := wordV f.s && wordV f.d && wordV f.wn && wordV f.m && decide (0 ≤ f.fl) && decide (f.fl ≤ 63) && decide (f.x.length ≤ 60000)
/-- Its options. -/
def opSG (f : SGR) : List Int := if f.m = 0 then [] else [2, 4] ++ putL f.m 2 true
/-- How many bytes a segment has. -/
def slN (f : SGR) : Nat := 20 + (opSG f).length + f.x.length
/-- Twelve bytes that no checksum hangs on. -/
def pre12 (f : SGR) : List Int := putL f.s 2 true ++ putL f.d 2 true ++ putL f.q 4 true ++ putL f.a 4 true
/-- Its bytes with noughts in the checksum's place. -/
def rawSG (f : SGR) : List Int := pre12 f ++ [80 + 4 * ((opSG f).length : Int), f.fl] ++ putL f.wn 2 true ++ [0, 0, 0, 0] ++ opSG f ++ f.x
def psSG (src dst : Int) (n : Nat) : List Int := pseudoV src dst 6 (n : Nat)
def ckSG (f : SGR) (src dst : Int) : Int := sumV (psSG src dst (slN f) ++ rawSG f)
def putSG (f : SGR) (src dst : Int) : List Int := putTwo (rawSG f) 16 (ckSG f src dst / 256) (ckSG f src dst % 256)
def putSGB (f : SGR) (src dst : Int) : List Int := if okSG f then putSG f src dst else []
def putSGE (f : SGR) : Int := if okSG f then 0 else 2
/-! ### What is got -/
/-- How many bytes the head has that these bytes tell of. -/
def hoSG (b : List Int) : Nat := (b.getD 12 0 / 16).toNat * 4
/-- Options, from the i-th byte on, n and fd what has been found: at most k of them. -/
def mssF (b : List Int) : Nat → Nat → Int → Bool → Int × Bool
  | 0, _, n, _ => (n, true)
  | k + 1, i, n, fd =>
    if ¬ i < b.length then (n, true)
    else if b.getD i 0 = 0 then (n, true)
    else if b.getD i 0 = 1 then mssF b k (i + 1) n fd
    else if b.length ≤ i + 1 ∨ b.getD (i + 1) 0 < 2 ∨ ((b.length - i : Nat) : Int) < b.getD (i + 1) 0 then (0, false)
    else if b.getD i 0 = 2 ∧ b.getD (i + 1) 0 = 4 ∧ fd = false then mssF b k (i + 4) (getV (cutL b (i + 2) (i + 4)) true) true
    else mssF b k (i + (b.getD (i + 1) 0).toNat) n fd
def mssV (b : List Int) : Int × Bool := mssF b (b.length + 1) 0 0 false
def sgOf (b : List Int) : SGR := ⟨getV (cutL b 0 2) true, getV (cutL b 2 4) true, getV (cutL b 4 8) true, getV (cutL b 8 12) true, b.getD 13 0 % 64, getV (cutL b 14 16) true, (mssV (cutL b 20 (hoSG b))).1, cutL b (hoSG b) b.length⟩
def getSGE (b : List Int) (src dst : Int) : Int :=
  if b.length < 20 then 160 else if 65535 < b.length ∨ hoSG b < 20 then 161 else if b.length < hoSG b then 160 else if sumV (psSG src dst b.length ++ b) ≠ 0 then 162 else if (mssV (cutL b 20 (hoSG b))).2 = false then 161 else 0
def getSG (b : List Int) (src dst : Int) : SGR := if getSGE b src dst = 0 then sgOf b else zSG
def lessSG (a b : Int) : Bool := decide (1 ≤ (b - a) % 4294967296 ∧ (b - a) % 4294967296 < 2147483648)
def lenSG (f : SGR) : Int := (f.x.length : Int) + (if (bits .and .i64 f.fl 2 != 0) = true then 1 else 0) + (if (bits .and .i64 f.fl 1 != 0) = true then 1 else 0)

theorem okSG_spec {f : SGR} (h : okSG f = true) : (0 ≤ f.s ∧ f.s ≤ 65535) ∧ (0 ≤ f.d ∧ f.d ≤ 65535) ∧ (0 ≤ f.wn ∧ f.wn ≤ 65535) ∧ (0 ≤ f.m ∧ f.m ≤ 65535) ∧ (0 ≤ f.fl ∧ f.fl ≤ 63) ∧ f.x.length ≤ 60000 := by
  unfold okSG wordV at h
  simp only [Bool.and_eq_true, decide_eq_true_eq] at h
  omega
theorem opSG_len (f : SGR) : (opSG f).length = 0 ∨ (opSG f).length = 4 := by
  unfold opSG
  split
  · exact .inl rfl
  · exact .inr (by simp [putB_len])
theorem opSG_ok (f : SGR) : AreBytes (opSG f) := by
  unfold opSG
  split
  · intro z hz; simp at hz
  · exact (two_ok 2 4 (by omega) (by omega)).append (putB_ok _ _ _)
theorem pre12_len (f : SGR) : (pre12 f).length = 12 := by simp [pre12, putB_len]
theorem pre12_ok (f : SGR) : AreBytes (pre12 f) := (((putB_ok _ _ _).append (putB_ok _ _ _)).append (putB_ok _ _ _)).append (putB_ok _ _ _)
theorem rawSG_len (f : SGR) : (rawSG f).length = slN f := by
  unfold rawSG slN
  simp only [List.length_append, pre12_len, putB_len, List.length_cons, List.length_nil]
theorem zeros4_ok : AreBytes [0, 0, 0, 0] := fun z hz => by
  simp only [List.mem_cons, List.not_mem_nil, or_false] at hz
  omega
theorem rawSG_ok {f : SGR} (h : okSG f = true) (hx : AreBytes f.x) : AreBytes (rawSG f) := by
  have hk := okSG_spec h
  have ho := opSG_len f
  exact (((((pre12_ok f).append (two_ok _ _ (by omega) (by omega))).append (putB_ok _ _ _)).append zeros4_ok).append (opSG_ok f)).append hx
theorem psSG_len (src dst : Int) (n : Nat) : (psSG src dst n).length = 12 := pseudoV_len ..
theorem psSG_ok (src dst : Int) (n : Nat) : AreBytes (psSG src dst n) := pseudoV_ok _ _ _ _
theorem ckSG_lt (f : SGR) (src dst : Int) : 0 ≤ ckSG f src dst ∧ ckSG f src dst ≤ 65535 := sumV_lt _
theorem putSG_len (f : SGR) (src dst : Int) : (putSG f src dst).length = slN f := by
  have hl := rawSG_len f
  unfold putSG
  rw [putTwo_len _ _ (by rw [hl]; unfold slN; omega), hl]
theorem putSG_ok {f : SGR} (h : okSG f = true) (hx : AreBytes f.x) (src dst : Int) : AreBytes (putSG f src dst) := by
  have := ckSG_lt f src dst
  exact putTwo_ok (rawSG_ok h hx) 16 (by omega) (by omega)
/-- More steps than there are bytes make no difference. -/
theorem mssF_more (b : List Int) : ∀ k k' i n fd, b.length < i + k → b.length < i + k' → mssF b k i n fd = mssF b k' i n fd
  | 0, 0, _, _, _, _, _ => rfl
  | 0, k' + 1, i, n, fd, h, _ => by
    unfold mssF
    rw [if_pos (show ¬ i < b.length by omega)]
  | k + 1, 0, i, n, fd, _, h => by
    unfold mssF
    rw [if_pos (show ¬ i < b.length by omega)]
  | k + 1, k' + 1, i, n, fd, h1, h2 => by
    unfold mssF
    split
    · rfl
    · split
      · rfl
      · split
        · exact mssF_more b k k' _ _ _ (by omega) (by omega)
        · split
          · rfl
          · split
            · exact mssF_more b k k' _ _ _ (by omega) (by omega)
            · rename_i h3 _
              exact mssF_more b k k' _ _ _ (by omega) (by omega)
/-- What is told from the i-th byte on. -/
def mssAt (b : List Int) (i : Nat) (n : Int) (fd : Bool) : Int × Bool := mssF b (b.length + 1) i n fd
theorem mssAt_end {b : List Int} {i : Nat} {n : Int} {fd : Bool} (h : ¬ i < b.length) : mssAt b i n fd = (n, true) := by
  unfold mssAt mssF
  rw [if_pos h]
theorem mssAt_zero {b : List Int} {i : Nat} {n : Int} {fd : Bool} (h : i < b.length) (h0 : b.getD i 0 = 0) : mssAt b i n fd = (n, true) := by
  unfold mssAt mssF
  rw [if_neg (by omega), if_pos h0]
theorem mssAt_one {b : List Int} {i : Nat} {n : Int} {fd : Bool} (h : i < b.length) (h1 : b.getD i 0 = 1) : mssAt b i n fd = mssAt b (i + 1) n fd := by
  conv => lhs; unfold mssAt mssF
  rw [if_neg (by omega), if_neg (by omega), if_pos h1]
  exact mssF_more b _ _ _ _ _ (by omega) (by omega)
theorem mssAt_bad {b : List Int} {i : Nat} {n : Int} {fd : Bool} (h : i < b.length) (h0 : b.getD i 0 ≠ 0) (h1 : b.getD i 0 ≠ 1) (h2 : b.length ≤ i + 1 ∨ b.getD (i + 1) 0 < 2 ∨ ((b.length - i : Nat) : Int) < b.getD (i + 1) 0) : mssAt b i n fd = (0, false) := by
  unfold mssAt mssF
  rw [if_neg (by omega), if_neg h0, if_neg h1, if_pos h2]
theorem mssAt_mss {b : List Int} {i : Nat} {n : Int} {fd : Bool} (h : i < b.length) (h0 : b.getD i 0 ≠ 0) (h1 : b.getD i 0 ≠ 1) (h2 : ¬ (b.length ≤ i + 1 ∨ b.getD (i + 1) 0 < 2 ∨ ((b.length - i : Nat) : Int) < b.getD (i + 1) 0)) (h3 : b.getD i 0 = 2 ∧ b.getD (i + 1) 0 = 4 ∧ fd = false) : mssAt b i n fd = mssAt b (i + 4) (getV (cutL b (i + 2) (i + 4)) true) true := by
  conv => lhs; unfold mssAt mssF
  rw [if_neg (by omega), if_neg h0, if_neg h1, if_neg h2, if_pos h3]
  exact mssF_more b _ _ _ _ _ (by omega) (by omega)
theorem mssAt_skip {b : List Int} {i : Nat} {n : Int} {fd : Bool} (h : i < b.length) (h0 : b.getD i 0 ≠ 0) (h1 : b.getD i 0 ≠ 1) (h2 : ¬ (b.length ≤ i + 1 ∨ b.getD (i + 1) 0 < 2 ∨ ((b.length - i : Nat) : Int) < b.getD (i + 1) 0)) (h3 : ¬ (b.getD i 0 = 2 ∧ b.getD (i + 1) 0 = 4 ∧ fd = false)) : mssAt b i n fd = mssAt b (i + (b.getD (i + 1) 0).toNat) n fd := by
  conv => lhs; unfold mssAt mssF
  rw [if_neg (by omega), if_neg h0, if_neg h1, if_neg h2, if_neg h3]
  exact mssF_more b _ _ _ _ _ (by omega) (by omega)
/-- Numbers of options are of two bytes. -/
theorem mssF_lt {b : List Int} (ok : AreBytes b) : ∀ k i n fd, (0 ≤ n ∧ n ≤ 65535) → 0 ≤ (mssF b k i n fd).1 ∧ (mssF b k i n fd).1 ≤ 65535
  | 0, _, _, _, h => h
  | k + 1, i, n, fd, h => by
    unfold mssF
    split
    · exact h
    · split
      · exact h
      · split
        · exact mssF_lt ok k _ _ _ h
        · split
          · exact ⟨by decide, by decide⟩
          · split
            · refine mssF_lt ok k _ _ _ ?_
              by_cases hl : i + 4 ≤ b.length
              · have := getG_lt (ok.cut (i + 2) (i + 4)) true (n := 2) (by rw [cutL_length (by omega) hl]; omega) (by omega)
                rw [show (2 : Int) ^ (8 * 2) = 65536 by decide] at this
                omega
              · exfalso
                rename_i h3 h4
                omega
            · exact mssF_lt ok k _ _ _ h
theorem mssV_lt {b : List Int} (ok : AreBytes b) : 0 ≤ (mssV b).1 ∧ (mssV b).1 ≤ 65535 := mssF_lt ok _ _ _ _ ⟨by decide, by decide⟩
end Go.Proofs.Ytiaejlbkdgcfiaa
