/-
  Datagrams as lists of bytes and numbers; what they are put to, and what bytes are got to. Values that read as them.
-/
import Derived.Test.YtcaafinjphionaaDoorSmC
import Derived.Test.YtcaafinjphionaaDoorPutG
import Derived.Test.YtcaafinjphionaaDoorKept
import Derived.Test.YtcaafinjphionaaDoorClone
import Derived.Test.YtcaafinjphionaaDoorStep
import Derived.Test.YtcaafinjphionaaDoorOff
set_option maxRecDepth 4000
set_option linter.unusedVariables false
set_option linter.unusedSimpArgs false
namespace Go.Proofs.YtcaafinjphionaaDoor
open Go.RowKit

structure UD where
  s : Int
  d : Int
  x : List Int
def zU : UD := ⟨0, 0, []⟩
abbrev udV (f : UD) (a1 : Option Addr) (c1 : Nat) : Value := .agg #[.int .i64 f.s, .int .i64 f.d, .slice a1 f.x.length c1]
/-- v reads as f. -/
structure Ud (w : World) (v : Value) (f : UD) : Prop where
  shape : ∃ a1 c1, v = udV f a1 c1 ∧ Buf w (.slice a1 f.x.length c1) f.x
  s : intI f.s
  d : intI f.d
theorem Ud.grew {w w' : World} {v : Value} {f : UD} (h : Ud w v f) (g : Grew w w') : Ud w' v f := by
  obtain ⟨a1, c1, e, h1⟩ := h.shape
  exact ⟨⟨a1, c1, e, h1.grew g⟩, h.s, h.d⟩
theorem Ud.kept {w w' : World} {v : Value} {f : UD} (h : Ud w v f) (g : BufsKept w w') : Ud w' v f := by
  obtain ⟨a1, c1, e, h1⟩ := h.shape
  exact ⟨⟨a1, c1, e, g _ _ h1⟩, h.s, h.d⟩
theorem Ud.zero (w : World) : Ud w (.agg #[.int .i64 0, .int .i64 0, .slice none 0 0]) zU := ⟨⟨none, 0, rfl, Buf.nil w⟩, by simp [intI, zU], by simp [intI, zU]⟩
theorem Ud.of {w : World} {a1 : Option Addr} {n1 c1 : Nat} {s : Int} {d : Int} {x : List Int} (h1 : Buf w (.slice a1 n1 c1) x) (ks : intI s) (kd : intI d) :
    Ud w (.agg #[.int .i64 s, .int .i64 d, .slice a1 n1 c1]) ⟨s, d, x⟩ := by
  obtain ⟨rfl, _⟩ := h1.lenEq
  exact ⟨⟨_, _, rfl, h1⟩, ks, kd⟩

/-! ### What is put, what is got -/
def portV (n : Int) : Bool := decide (0 ≤ n ∧ n ≤ 65535)
def okU (u : UD) : Bool := portV u.s && portV u.d && decide (u.x.length ≤ 65507)
/-- How many bytes a datagram has. -/
def ulN (u : UD) : Nat := 8 + u.x.length
/-- Its bytes with noughts in the checksum's place. -/
def rawU (u : UD) : List Int := putL u.s 2 true ++ putL u.d 2 true ++ putL (ulN u : Nat) 2 true ++ [0, 0] ++ u.x
def psU (src dst : Int) (n : Nat) : List Int := pseudoV src dst 17 (n : Nat)
def csU (u : UD) (src dst : Int) : Int := sumV (psU src dst (ulN u) ++ rawU u)
def ckU (u : UD) (src dst : Int) : Int := if csU u src dst = 0 then 65535 else csU u src dst
def putU (u : UD) (src dst : Int) : List Int := putTwo (rawU u) 6 (ckU u src dst / 256) (ckU u src dst % 256)
def putUB (u : UD) (src dst : Int) : List Int := if okU u then putU u src dst else []
def putUE (u : UD) : Int := if okU u then 0 else 2
/-- The length that these bytes tell of. -/
def nU (b : List Int) : Nat := (getV (cutL b 4 6) true).toNat
def udOf (b : List Int) : UD := ⟨getV (cutL b 0 2) true, getV (cutL b 2 4) true, cutL b 8 (nU b)⟩
def summedU (b : List Int) : Bool := b.getD 6 0 != 0 || b.getD 7 0 != 0
def getUE (b : List Int) (src dst : Int) : Int :=
  if b.length < 8 then 160 else if nU b < 8 then 161 else if b.length < nU b then 160 else if summedU b = true ∧ sumV (psU src dst (nU b) ++ cutL b 0 (nU b)) ≠ 0 then 162 else 0
def getU (b : List Int) (src dst : Int) : UD := if getUE b src dst = 0 then udOf b else zU

theorem okU_spec {u : UD} (h : okU u = true) : (0 ≤ u.s ∧ u.s ≤ 65535) ∧ (0 ≤ u.d ∧ u.d ≤ 65535) ∧ u.x.length ≤ 65507 := by
  unfold okU portV at h
  simp only [Bool.and_eq_true, decide_eq_true_eq] at h
  exact ⟨h.1.1, h.1.2, h.2⟩
theorem rawU_len (u : UD) : (rawU u).length = ulN u := by
  unfold rawU ulN
  simp only [List.length_append, putB_len, List.length_cons, List.length_nil]
theorem rawU_ok {u : UD} (hx : AreBytes u.x) : AreBytes (rawU u) :=
  ((((putB_ok _ _ _).append (putB_ok _ _ _)).append (putB_ok _ _ _)).append (two_ok 0 0 (by omega) (by omega))).append hx
theorem psU_len (src dst : Int) (n : Nat) : (psU src dst n).length = 12 := pseudoV_len ..
theorem psU_ok (src dst : Int) (n : Nat) : AreBytes (psU src dst n) := pseudoV_ok _ _ _ _
theorem ckU_lt (u : UD) (src dst : Int) : 0 ≤ ckU u src dst ∧ ckU u src dst ≤ 65535 := by
  have := sumV_lt (psU src dst (ulN u) ++ rawU u)
  unfold ckU csU
  split <;> omega
theorem putU_len (u : UD) (src dst : Int) : (putU u src dst).length = ulN u := by
  have hl : (rawU u).length = ulN u := rawU_len u
  unfold putU
  rw [putTwo_len _ _ (by rw [hl]; unfold ulN; omega), hl]
theorem putU_ok {u : UD} (hx : AreBytes u.x) (src dst : Int) : AreBytes (putU u src dst) := by
  have := ckU_lt u src dst
  exact putTwo_ok (rawU_ok hx) 6 (by omega) (by omega)
end Go.Proofs.YtcaafinjphionaaDoor
