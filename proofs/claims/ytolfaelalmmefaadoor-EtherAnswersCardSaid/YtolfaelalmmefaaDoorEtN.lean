/-
  Frames and messages as lists of bytes and numbers; what they are put to, and what bytes are got to. Values that read as them.
-/
import Derived.Test.YtolfaelalmmefaaDoorEtB
set_option maxRecDepth 4000
set_option linter.unusedVariables false
set_option linter.unusedSimpArgs false
namespace Go.Proofs.YtolfaelalmmefaaDoor
open Go.RowKit

structure FR where
  d : List Int
  s : List Int
  t : Int
  x : List Int
structure AR where
  op : Int
  sm : List Int
  si : Int
  tm : List Int
  ti : Int
def zF : FR := ⟨[], [], 0, []⟩
def zA : AR := ⟨0, [], 0, [], 0⟩
def intI (x : Int) : Prop := -9223372036854775808 ≤ x ∧ x ≤ 9223372036854775807
def u32I (x : Int) : Prop := 0 ≤ x ∧ x < 4294967296
abbrev frV (f : FR) (a1 : Option Addr) (c1 : Nat) (a2 : Option Addr) (c2 : Nat) (a3 : Option Addr) (c3 : Nat) : Value := .agg #[.slice a1 f.d.length c1, .slice a2 f.s.length c2, .int .i64 f.t, .slice a3 f.x.length c3]
abbrev arV (f : AR) (a1 : Option Addr) (c1 : Nat) (a2 : Option Addr) (c2 : Nat) : Value := .agg #[.int .i64 f.op, .slice a1 f.sm.length c1, .int .u32 f.si, .slice a2 f.tm.length c2, .int .u32 f.ti]
/-- v reads as f. -/
structure Fr (w : World) (v : Value) (f : FR) : Prop where
  shape : ∃ a1 c1 a2 c2 a3 c3, v = frV f a1 c1 a2 c2 a3 c3 ∧ Buf w (.slice a1 f.d.length c1) f.d ∧ Buf w (.slice a2 f.s.length c2) f.s ∧ Buf w (.slice a3 f.x.length c3) f.x
  t : intI f.t
structure Ar (w : World) (v : Value) (f : AR) : Prop where
  shape : ∃ a1 c1 a2 c2, v = arV f a1 c1 a2 c2 ∧ Buf w (.slice a1 f.sm.length c1) f.sm ∧ Buf w (.slice a2 f.tm.length c2) f.tm
  op : intI f.op
  si : u32I f.si
  ti : u32I f.ti
theorem Fr.grew {w w' : World} {v : Value} {f : FR} (h : Fr w v f) (g : Grew w w') : Fr w' v f := by
  obtain ⟨⟨a1, c1, a2, c2, a3, c3, e, h1, h2, h3⟩, ht⟩ := h
  exact ⟨⟨a1, c1, a2, c2, a3, c3, e, h1.grew g, h2.grew g, h3.grew g⟩, ht⟩
theorem Ar.grew {w w' : World} {v : Value} {f : AR} (h : Ar w v f) (g : Grew w w') : Ar w' v f := by
  obtain ⟨⟨a1, c1, a2, c2, e, h1, h2⟩, ho, hs, ht⟩ := h
  exact ⟨⟨a1, c1, a2, c2, e, h1.grew g, h2.grew g⟩, ho, hs, ht⟩
theorem Fr.kept {w w' : World} {v : Value} {f : FR} (h : Fr w v f) (g : BufsKept w w') : Fr w' v f := by
  obtain ⟨⟨a1, c1, a2, c2, a3, c3, e, h1, h2, h3⟩, ht⟩ := h
  exact ⟨⟨a1, c1, a2, c2, a3, c3, e, g _ _ h1, g _ _ h2, g _ _ h3⟩, ht⟩
theorem Ar.kept {w w' : World} {v : Value} {f : AR} (h : Ar w v f) (g : BufsKept w w') : Ar w' v f := by
  obtain ⟨⟨a1, c1, a2, c2, e, h1, h2⟩, ho, hs, ht⟩ := h
  exact ⟨⟨a1, c1, a2, c2, e, g _ _ h1, g _ _ h2⟩, ho, hs, ht⟩
theorem Fr.zero (w : World) : Fr w (.agg #[.slice none 0 0, .slice none 0 0, .int .i64 0, .slice none 0 0]) zF := ⟨⟨none, 0, none, 0, none, 0, rfl, Buf.nil w, Buf.nil w, Buf.nil w⟩, by simp [intI, zF]⟩
theorem Ar.zero (w : World) : Ar w (.agg #[.int .i64 0, .slice none 0 0, .int .u32 0, .slice none 0 0, .int .u32 0]) zA := ⟨⟨none, 0, none, 0, rfl, Buf.nil w, Buf.nil w⟩, by simp [intI, zA], by simp [u32I, zA], by simp [u32I, zA]⟩

theorem Fr.of {w : World} {a1 a2 a3 : Option Addr} {n1 c1 n2 c2 n3 c3 : Nat} {d s x : List Int} {t : Int} (h1 : Buf w (.slice a1 n1 c1) d) (h2 : Buf w (.slice a2 n2 c2) s) (h3 : Buf w (.slice a3 n3 c3) x) (ht : intI t) :
    Fr w (.agg #[.slice a1 n1 c1, .slice a2 n2 c2, .int .i64 t, .slice a3 n3 c3]) ⟨d, s, t, x⟩ := by
  obtain ⟨rfl, _⟩ := h1.lenEq
  obtain ⟨rfl, _⟩ := h2.lenEq
  obtain ⟨rfl, _⟩ := h3.lenEq
  exact ⟨⟨_, _, _, _, _, _, rfl, h1, h2, h3⟩, ht⟩
theorem Ar.of {w : World} {a1 a2 : Option Addr} {n1 c1 n2 c2 : Nat} {sm tm : List Int} {op si ti : Int} (h1 : Buf w (.slice a1 n1 c1) sm) (h2 : Buf w (.slice a2 n2 c2) tm) (ho : intI op) (hs : u32I si) (ht : u32I ti) :
    Ar w (.agg #[.int .i64 op, .slice a1 n1 c1, .int .u32 si, .slice a2 n2 c2, .int .u32 ti]) ⟨op, sm, si, tm, ti⟩ := by
  obtain ⟨rfl, _⟩ := h1.lenEq
  obtain ⟨rfl, _⟩ := h2.lenEq
  exact ⟨⟨_, _, _, _, rfl, h1, h2⟩, ho, hs, ht⟩

/-! ### What is put, what is got -/
def okF (f : FR) : Bool := decide (f.d.length = 6 ∧ f.s.length = 6 ∧ 0 ≤ f.t ∧ f.t ≤ 65535 ∧ f.x.length ≤ 1500)
def putF (f : FR) : List Int := f.d ++ (f.s ++ (putL f.t 2 true ++ f.x))
def putFB (f : FR) : List Int := if okF f then putF f else []
def putFE (f : FR) : Int := if okF f then 0 else 2
def frOf (b : List Int) : FR := ⟨cutL b 0 6, cutL b 6 12, getV (cutL b 12 14) true, cutL b 14 b.length⟩
def getF (b : List Int) : FR := if b.length < 14 ∨ 1514 < b.length then zF else frOf b
def getFE (b : List Int) : Int := if b.length < 14 then 160 else if 1514 < b.length then 161 else 0
def okA (a : AR) : Bool := decide (a.sm.length = 6 ∧ a.tm.length = 6 ∧ (a.op = 1 ∨ a.op = 2))
def putA (a : AR) : List Int := headL ++ (putL a.op 2 true ++ (a.sm ++ (putL a.si 4 true ++ (a.tm ++ putL a.ti 4 true))))
def putAB (a : AR) : List Int := if okA a then putA a else []
def putAE (a : AR) : Int := if okA a then 0 else 2
def arOf (b : List Int) : AR := ⟨getV (cutL b 6 8) true, cutL b 8 14, getV (cutL b 14 18) true, cutL b 18 24, getV (cutL b 24 28) true⟩
def isA (b : List Int) : Bool := decide (cutL b 0 6 = headL) && decide ((arOf b).op = 1 ∨ (arOf b).op = 2)
def getA (b : List Int) : AR := if b.length < 28 ∨ isA b = false then zA else arOf b
def getAE (b : List Int) : Int := if b.length < 28 then 160 else if isA b then 0 else 161
def asks (a : AR) (mac : List Int) (ip : Int) : Bool := decide (a.op = 1 ∧ a.ti = ip ∧ mac.length = 6)
def ansA (a : AR) (mac : List Int) (ip : Int) : AR := if asks a mac ip then ⟨2, mac, ip, a.sm, a.si⟩ else zA
theorem cut_zero_all (xs : List Int) {a b : Nat} (h : a ≤ b) (hb : b ≤ xs.length) (c : Nat) (hc : c ≤ b - a) : cutL (cutL xs a b) 0 c = cutL xs a (a + c) := by
  unfold cutL
  simp only [List.drop_zero, Nat.sub_zero, Nat.add_sub_cancel_left]
  rw [List.take_take, Nat.min_eq_left hc]
theorem cut_cut (xs : List Int) {a b : Nat} (h : a ≤ b) (hb : b ≤ xs.length) (c : Nat) (hc : c ≤ b - a) : cutL (cutL xs a b) c (b - a) = cutL xs (a + c) b := by
  unfold cutL
  rw [List.drop_take, List.take_take, List.drop_drop, show min (b - a - c) (b - a - c) = b - (a + c) by omega]
end Go.Proofs.YtolfaelalmmefaaDoor
