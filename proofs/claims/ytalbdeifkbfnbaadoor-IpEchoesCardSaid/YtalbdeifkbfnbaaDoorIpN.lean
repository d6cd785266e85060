/-
  Packets as lists of bytes and numbers; what they are put to, and what bytes are got to. Values that read as them.
-/
import Derived.Test.YtalbdeifkbfnbaaDoorSmB
import Derived.Test.YtalbdeifkbfnbaaDoorPutG
import Derived.Test.YtalbdeifkbfnbaaDoorKept
import Derived.Test.YtalbdeifkbfnbaaDoorClone
import Derived.Test.YtalbdeifkbfnbaaDoorStep
set_option maxRecDepth 4000
set_option linter.unusedVariables false
set_option linter.unusedSimpArgs false
namespace Go.Proofs.YtalbdeifkbfnbaaDoor
open Go.RowKit

structure PK where
  tos : Int
  id : Int
  fl : Int
  off : Int
  ttl : Int
  pr : Int
  si : Int
  di : Int
  o : List Int
  x : List Int
def zP : PK := ⟨0, 0, 0, 0, 0, 0, 0, 0, [], []⟩
abbrev pkV (f : PK) (a1 : Option Addr) (c1 : Nat) (a2 : Option Addr) (c2 : Nat) : Value := .agg #[.int .i64 f.tos, .int .i64 f.id, .int .i64 f.fl, .int .i64 f.off, .int .i64 f.ttl, .int .i64 f.pr, .int .u32 f.si, .int .u32 f.di, .slice a1 f.o.length c1, .slice a2 f.x.length c2]
/-- v reads as f. -/
structure Pk (w : World) (v : Value) (f : PK) : Prop where
  shape : ∃ a1 c1 a2 c2, v = pkV f a1 c1 a2 c2 ∧ Buf w (.slice a1 f.o.length c1) f.o ∧ Buf w (.slice a2 f.x.length c2) f.x
  tos : intI f.tos
  id : intI f.id
  fl : intI f.fl
  off : intI f.off
  ttl : intI f.ttl
  pr : intI f.pr
  si : u32I f.si
  di : u32I f.di
theorem Pk.grew {w w' : World} {v : Value} {f : PK} (h : Pk w v f) (g : Grew w w') : Pk w' v f := by
  obtain ⟨a1, c1, a2, c2, e, h1, h2⟩ := h.shape
  exact ⟨⟨a1, c1, a2, c2, e, h1.grew g, h2.grew g⟩, h.tos, h.id, h.fl, h.off, h.ttl, h.pr, h.si, h.di⟩
theorem Pk.kept {w w' : World} {v : Value} {f : PK} (h : Pk w v f) (g : BufsKept w w') : Pk w' v f := by
  obtain ⟨a1, c1, a2, c2, e, h1, h2⟩ := h.shape
  exact ⟨⟨a1, c1, a2, c2, e, g _ _ h1, g _ _ h2⟩, h.tos, h.id, h.fl, h.off, h.ttl, h.pr, h.si, h.di⟩
theorem Pk.zero (w : World) : Pk w (.agg #[.int .i64 0, .int .i64 0, .int .i64 0, .int .i64 0, .int .i64 0, .int .i64 0, .int .u32 0, .int .u32 0, .slice none 0 0, .slice none 0 0]) zP := ⟨⟨none, 0, none, 0, rfl, Buf.nil w, Buf.nil w⟩, by simp [intI, zP], by simp [intI, zP], by simp [intI, zP], by simp [intI, zP], by simp [intI, zP], by simp [intI, zP], by simp [u32I, zP], by simp [u32I, zP]⟩
theorem Pk.of {w : World} {a1 : Option Addr} {n1 c1 : Nat} {a2 : Option Addr} {n2 c2 : Nat} {tos : Int} {id : Int} {fl : Int} {off : Int} {ttl : Int} {pr : Int} {si : Int} {di : Int} {o : List Int} {x : List Int} (h1 : Buf w (.slice a1 n1 c1) o) (h2 : Buf w (.slice a2 n2 c2) x) (ktos : intI tos) (kid : intI id) (kfl : intI fl) (koff : intI off) (kttl : intI ttl) (kpr : intI pr) (ksi : u32I si) (kdi : u32I di) :
    Pk w (.agg #[.int .i64 tos, .int .i64 id, .int .i64 fl, .int .i64 off, .int .i64 ttl, .int .i64 pr, .int .u32 si, .int .u32 di, .slice a1 n1 c1, .slice a2 n2 c2]) ⟨tos, id, fl, off, ttl, pr, si, di, o, x⟩ := by
  obtain ⟨rfl, _⟩ := h1.lenEq
  obtain ⟨rfl, _⟩ := h2.lenEq
  exact ⟨⟨_, _, _, _, rfl, h1, h2⟩, ktos, kid, kfl, koff, kttl, kpr, ksi, kdi⟩

/-! ### What is put, what is got -/
def inV (n most : Int) : Bool := decide (0 ≤ n ∧ n ≤ most)
def okP (p : PK) : Bool := inV p.tos 255 && inV p.ttl 255 && inV p.pr 255 && inV p.id 65535 && inV p.fl 7 && inV p.off 8191 && decide (p.o.length ≤ 40) && decide (p.o.length % 4 = 0) && decide (p.x.length + p.o.length ≤ 65515)
/-- How many bytes the head has. -/
def hdN (p : PK) : Nat := 20 + p.o.length
def headP (p : PK) : List Int := [64 + (hdN p : Int) / 4, p.tos] ++ (putL ((hdN p : Int) + (p.x.length : Int)) 2 true ++ (putL p.id 2 true ++ (putL (p.fl * 8192 + p.off) 2 true ++ ([p.ttl, p.pr, 0, 0] ++ (putL p.si 4 true ++ (putL p.di 4 true ++ p.o))))))
def putP (p : PK) : List Int := patchV (headP p) 10 ++ p.x
def putPB (p : PK) : List Int := if okP p then putP p else []
def putPE (p : PK) : Int := if okP p then 0 else 2
/-- How many bytes the head has that these bytes tell of, and all together. -/
def hlV (b : List Int) : Nat := ((b.getD 0 0) % 16 * 4).toNat
def alV (b : List Int) : Nat := (getV (cutL b 2 4) true).toNat
def xfV (b : List Int) : Int := getV (cutL b 6 8) true
def pkOf (b : List Int) : PK := ⟨b.getD 1 0, getV (cutL b 4 6) true, xfV b / 8192, xfV b % 8192, b.getD 8 0, b.getD 9 0, getV (cutL b 12 16) true, getV (cutL b 16 20) true, cutL b 20 (hlV b), cutL b (hlV b) (alV b)⟩
def getPE (b : List Int) : Int :=
  if b.length < 20 then 160 else if b.getD 0 0 / 16 ≠ 4 ∨ hlV b < 20 then 161 else if b.length < hlV b then 160 else if sumV (cutL b 0 (hlV b)) ≠ 0 then 162 else if alV b < hlV b then 161 else if b.length < alV b then 160 else 0
def getP (b : List Int) : PK := if getPE b = 0 then pkOf b else zP

theorem okP_spec {p : PK} (h : okP p = true) : ((0 ≤ p.tos ∧ p.tos ≤ 255) ∧ (0 ≤ p.ttl ∧ p.ttl ≤ 255) ∧ (0 ≤ p.pr ∧ p.pr ≤ 255) ∧ (0 ≤ p.id ∧ p.id ≤ 65535) ∧ (0 ≤ p.fl ∧ p.fl ≤ 7) ∧ (0 ≤ p.off ∧ p.off ≤ 8191)) ∧ p.o.length ≤ 40 ∧ p.o.length % 4 = 0 ∧ p.x.length + p.o.length ≤ 65515 := by
  unfold okP inV at h
  simp only [Bool.and_eq_true, decide_eq_true_eq] at h
  exact ⟨⟨h.1.1.1.1.1.1.1.1, h.1.1.1.1.1.1.1.2, h.1.1.1.1.1.1.2, h.1.1.1.1.1.2, h.1.1.1.1.2, h.1.1.1.2⟩, h.1.1.2, h.1.2, h.2⟩
theorem headP_len (p : PK) : (headP p).length = hdN p := by
  unfold headP hdN
  simp only [List.length_append, putB_len, List.length_cons, List.length_nil]
  omega
theorem headP_ok {p : PK} (h : okP p = true) (ho : AreBytes p.o) : AreBytes (headP p) := by
  have hk := okP_spec h
  unfold headP
  refine AreBytes.app (fun z hz => ?_) (AreBytes.app (putB_ok _ _ _) (AreBytes.app (putB_ok _ _ _) (AreBytes.app (putB_ok _ _ _) (AreBytes.app (fun z hz => ?_) (AreBytes.app (putB_ok _ _ _) (AreBytes.app (putB_ok _ _ _) ho))))))
  · simp only [List.mem_cons, List.not_mem_nil, or_false] at hz
    unfold hdN at hz
    omega
  · simp only [List.mem_cons, List.not_mem_nil, or_false] at hz
    omega
end Go.Proofs.YtalbdeifkbfnbaaDoor
