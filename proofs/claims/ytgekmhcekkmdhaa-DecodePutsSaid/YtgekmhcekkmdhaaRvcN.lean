/-
  Plain numbers of compressed instructions: what package rvc and the document's own text answer, as natural numbers, and that both are the same for each of the 65,536 ones. No program is looked at here.
-/
import Derived.Test.YtgekmhcekkmdhaaMath
set_option linter.unusedVariables false
set_option linter.unusedSimpArgs false
namespace Go.Proofs.Ytgekmhcekkmdhaa
open Go.RowKit

theorem or64 (a b : Nat) (ha : a < 18446744073709551616) (hb : b < 18446744073709551616) : bits .or .u64 (a : Int) (b : Int) = ((a ||| b : Nat) : Int) := by
  rw [u64_or _ _ (by omega) (by omega) (by omega) (by omega), Int.toNat_natCast, Int.toNat_natCast]
theorem or64_lt {a b : Nat} (ha : a < 18446744073709551616) (hb : b < 18446744073709551616) : a ||| b < 18446744073709551616 :=
  Nat.or_lt_two_pow (n := 64) ha hb

theorem or64_lit (a k : Nat) (ha : a < 18446744073709551616) (hb : (OfNat.ofNat k : Nat) < 18446744073709551616) : bits .or .u64 (a : Int) (no_index (OfNat.ofNat k)) = ((a ||| OfNat.ofNat k : Nat) : Int) := or64 a k ha hb
theorem wrap64c (n : Nat) (h : n < 18446744073709551616) : IntKind.u64.wrap (n : Int) = (n : Int) := IntWalk.u64_in _ (by omega)
theorem or32 (a b : Nat) (ha : a < 4294967296) (hb : b < 4294967296) : bits .or .u32 (a : Int) (b : Int) = ((a ||| b : Nat) : Int) := by
  rw [u32_or _ _ (by omega) (by omega) (by omega) (by omega), Int.toNat_natCast, Int.toNat_natCast]
theorem or32_lt {a b : Nat} (ha : a < 4294967296) (hb : b < 4294967296) : a ||| b < 4294967296 :=
  Nat.or_lt_two_pow (n := 32) ha hb
theorem mod32 (n : Nat) (h : n < 4294967296) : (n : Int) % 4294967296 = (n : Int) := by omega
theorem mulc (x k : Nat) : (x : Int) * (no_index (OfNat.ofNat k) : Int) = ((x * (OfNat.ofNat k : Nat) : Nat) : Int) := rfl
theorem or32_lit (a k : Nat) (ha : a < 4294967296) (hb : (OfNat.ofNat k : Nat) < 4294967296) : bits .or .u32 (a : Int) (no_index (OfNat.ofNat k)) = ((a ||| OfNat.ofNat k : Nat) : Int) := or32 a k ha hb
theorem wrap_u32 (n : Int) : IntKind.u32.wrap n = n % 4294967296 := by simp [IntKind.wrap, IntKind.bits, IntKind.signed]
theorem wrap32c (n : Nat) (h : n < 4294967296) : IntKind.u32.wrap (n : Int) = (n : Int) := by rw [wrap_u32]; omega
theorem modc (x k : Nat) : (x : Int) % (no_index (OfNat.ofNat k) : Int) = ((x % (OfNat.ofNat k : Nat) : Nat) : Int) := rfl
theorem divc (x k : Nat) : (x : Int) / (no_index (OfNat.ofNat k) : Int) = ((x / (OfNat.ofNat k : Nat) : Nat) : Int) := rfl
theorem wrap_cast (x p : Nat) (hl : x * 2 ^ p < 18446744073709551616) : IntKind.u64.wrap ((x : Int) * 2 ^ p) = ((x * 2 ^ p : Nat) : Int) := by
  have : (x : Int) * 2 ^ p = ((x * 2 ^ p : Nat) : Int) := by simp
  rw [this]
  exact IntWalk.u64_in _ (by omega)

/-- Bits hi to lo of h. -/
def fN (h : Nat) (hi lo : Int) : Nat := h / 2 ^ lo.toNat % 2 ^ (hi - lo + 1).toNat
theorem fN_field (h : Nat) (hi lo : Int) (h0 : 0 ≤ lo) (h1 : lo ≤ hi) (h2 : hi ≤ 63) : fieldV (h : Int) hi lo = (fN h hi lo : Int) := by
  unfold fieldV fN
  rw [if_pos ⟨h0, h1, h2⟩]
  simp
/-- A bit is brought to its place. -/
def bitAt (h : Nat) (i p : Int) : Nat := fN h i i * 2 ^ p.toNat
theorem fN_bit (h : Nat) (i : Int) : fN h i i < 2 := by
  unfold fN
  rw [show (i - i + 1).toNat = 1 by omega]
  exact Nat.mod_lt _ (by decide)
theorem bitAt_lt (h : Nat) (i p : Int) (hp : p.toNat ≤ 63) : bitAt h i p < 18446744073709551616 := by
  have h1 := fN_bit h i
  have h2 : 2 ^ p.toNat ≤ 2 ^ 63 := Nat.pow_le_pow_right (by decide) hp
  have h3 : fN h i i * 2 ^ p.toNat ≤ 1 * 2 ^ 63 := Nat.mul_le_mul (by omega) h2
  unfold bitAt
  omega
/-- The first k bits from high down, each at its place. -/
def gK (h : Nat) (high : Int) (ps : List Int) : Nat → Nat
  | 0 => 0
  | k + 1 => gK h high ps k ||| bitAt h (high - k) (ps.getD k 0)
def gN (h : Nat) (high : Int) (ps : List Int) : Nat := gK h high ps ps.length
def Places (ps : List Int) : Prop := ∀ k, 0 ≤ ps.getD k 0 ∧ ps.getD k 0 ≤ 20
theorem gK_lt (h : Nat) (high : Int) (ps : List Int) (hp : Places ps) (k : Nat) : gK h high ps k < 18446744073709551616 := by
  induction k with
  | zero => show 0 < _; omega
  | succ k ih => exact or64_lt ih (bitAt_lt _ _ _ (by have := hp k; omega))
theorem gN_lt (h : Nat) (high : Int) (ps : List Int) (hp : Places ps) : gN h high ps < 18446744073709551616 := gK_lt h high ps hp _
theorem Places.of (ps : List Int) (h : (ps.all fun p => decide (0 ≤ p) && decide (p ≤ 20)) = true) : Places ps := by
  intro k
  by_cases hk : k < ps.length
  · rw [List.getD_eq_getElem?_getD, List.getElem?_eq_getElem hk]
    have := List.all_eq_true.1 h _ (List.getElem_mem hk)
    simpa using this
  · rw [List.getD_eq_getElem?_getD, List.getElem?_eq_none (by omega)]; simp

/-- A number's n lowest bits with their sign. -/
def sxN (x : Nat) (n : Int) : Nat := if x % 2 ^ n.toNat < 2 ^ (n.toNat - 1) then x % 2 ^ n.toNat else x % 2 ^ n.toNat + (18446744073709551616 - 2 ^ n.toNat)
theorem sxN_sext (x : Nat) (n : Int) (h1 : 1 ≤ n) (h2 : n ≤ 63) : sextV (x : Int) n = (sxN x n : Int) := by
  have h3 := (pow_le_63 (m := n.toNat) (by omega)).2
  have c1 := cast_pow n.toNat
  have c2 := cast_pow (n.toNat - 1)
  have c3 : ((x % 2 ^ n.toNat : Nat) : Int) = (x : Int) % 2 ^ n.toNat := by simp
  unfold sextV sxN
  rw [if_neg (by omega), if_neg (by omega)]
  by_cases hb : x % 2 ^ n.toNat < 2 ^ (n.toNat - 1)
  · rw [if_pos hb, if_pos (by omega), c3]
  · rw [if_neg hb, if_neg (by omega)]
    omega
theorem sxN_lt (x : Nat) (n : Int) (h1 : 1 ≤ n) (h2 : n ≤ 63) : sxN x n < 18446744073709551616 := by
  have h3 := (pow_le_63 (m := n.toNat) (by omega)).2
  have c1 := cast_pow n.toNat
  have h4 : x % 2 ^ n.toNat < 2 ^ n.toNat := Nat.mod_lt _ (Nat.pow_pos (by decide))
  unfold sxN
  split <;> omega
theorem fN_lt (h : Nat) (hi lo : Int) (n : Nat) (hn : 2 ^ (hi - lo + 1).toNat ≤ n) : fN h hi lo < n :=
  Nat.lt_of_lt_of_le (Nat.mod_lt _ (Nat.pow_pos (by decide))) hn

/-! ### Forms of an instruction -/
def imN (op f rd rs1 imm : Nat) : Nat := fN imm 11 0 * 1048576 ||| rs1 * 32768 ||| f * 4096 ||| rd * 128 ||| op
def rgN (op f g rd rs1 rs2 : Nat) : Nat := g * 33554432 ||| rs2 * 1048576 ||| rs1 * 32768 ||| f * 4096 ||| rd * 128 ||| op
def stN (f rs1 rs2 imm : Nat) : Nat := fN imm 11 5 * 33554432 ||| rs2 * 1048576 ||| rs1 * 32768 ||| f * 4096 ||| fN imm 4 0 * 128 ||| 35
def luN (rd imm : Nat) : Nat := fN imm 31 12 * 4096 ||| rd * 128 ||| 55
def jlN (rd imm : Nat) : Nat := (fN imm 20 20 * 524288 ||| fN imm 10 1 * 512 ||| fN imm 11 11 * 256 ||| fN imm 19 12) * 4096 ||| rd * 128 ||| 111
def brN (f rs1 rs2 imm : Nat) : Nat := (fN imm 12 12 * 64 ||| fN imm 10 5) * 33554432 ||| rs2 * 1048576 ||| rs1 * 32768 ||| f * 4096 ||| (fN imm 4 1 * 2 ||| fN imm 11 11) * 128 ||| 99

/-! ### Parts of a short instruction -/
def rdN (h : Nat) : Nat := fN h 11 7
def rs2N (h : Nat) : Nat := fN h 6 2
def upN (h : Nat) : Nat := 8 + fN h 9 7
def loN (h : Nat) : Nat := 8 + fN h 4 2
theorem rdN_lt (h : Nat) : rdN h < 32 := fN_lt _ _ _ _ (by decide)
theorem rs2N_lt (h : Nat) : rs2N h < 32 := fN_lt _ _ _ _ (by decide)
theorem upN_lt (h : Nat) : upN h < 32 := by have := fN_lt h 9 7 8 (by decide); unfold upN; omega
theorem loN_lt (h : Nat) : loN h < 32 := by have := fN_lt h 4 2 8 (by decide); unfold loN; omega
def pairN (h : Nat) (hi1 : Int) (ps1 : List Int) (hi2 : Int) (ps2 : List Int) : Nat := gN h hi1 ps1 ||| gN h hi2 ps2
theorem pairN_lt (h : Nat) (hi1 : Int) (ps1 : List Int) (hi2 : Int) (ps2 : List Int) (h1 : Places ps1) (h2 : Places ps2) : pairN h hi1 ps1 hi2 ps2 < 18446744073709551616 := or64_lt (gN_lt _ _ _ h1) (gN_lt _ _ _ h2)
theorem pairN_or (h : Nat) (hi1 : Int) (ps1 : List Int) (hi2 : Int) (ps2 : List Int) (h1 : Places ps1) (h2 : Places ps2) : bits .or .u64 (gN h hi1 ps1 : Int) (gN h hi2 ps2 : Int) = (pairN h hi1 ps1 hi2 ps2 : Int) := or64 _ _ (gN_lt _ _ _ h1) (gN_lt _ _ _ h2)
def sixN (h : Nat) : Nat := pairN h 12 [5] 6 [4, 3, 2, 1, 0]
def ssixN (h : Nat) : Nat := sxN (sixN h) 6
def wordN (h : Nat) : Nat := pairN h 12 [5, 4, 3] 6 [2, 6]
def doubleN (h : Nat) : Nat := pairN h 12 [5, 4, 3] 6 [7, 6]
theorem sixN_lt (h : Nat) : sixN h < 18446744073709551616 := pairN_lt _ _ _ _ _ (Places.of _ (by decide)) (Places.of _ (by decide))
theorem ssixN_lt (h : Nat) : ssixN h < 18446744073709551616 := sxN_lt _ _ (by decide) (by decide)
theorem wordN_lt (h : Nat) : wordN h < 18446744073709551616 := pairN_lt _ _ _ _ _ (Places.of _ (by decide)) (Places.of _ (by decide))
theorem doubleN_lt (h : Nat) : doubleN h < 18446744073709551616 := pairN_lt _ _ _ _ _ (Places.of _ (by decide)) (Places.of _ (by decide))

/-! ### Rows -/
def addStackI (h : Nat) : Nat := gN h 12 [5, 4, 9, 8, 7, 6, 2, 3]
def addStackN (h : Nat) : Nat := if addStackI h = 0 then 0 else imN 19 0 (loN h) 2 (addStackI h)
def loadWordN (h : Nat) : Nat := imN 3 2 (loN h) (upN h) (wordN h)
def loadDoubleN (h : Nat) : Nat := imN 3 3 (loN h) (upN h) (doubleN h)
def storeWordN (h : Nat) : Nat := stN 2 (upN h) (loN h) (wordN h)
def storeDoubleN (h : Nat) : Nat := stN 3 (upN h) (loN h) (doubleN h)
def addImmN (h : Nat) : Nat :=
  if fN h 15 13 = 1 then (if rdN h = 0 then 0 else imN 27 0 (rdN h) (rdN h) (ssixN h))
  else if fN h 15 13 = 0 then imN 19 0 (rdN h) (rdN h) (ssixN h) else imN 19 0 (rdN h) 0 (ssixN h)
def upper2I (h : Nat) : Nat := sxN (pairN h 12 [9] 6 [4, 6, 8, 7, 5]) 10
def upperI (h : Nat) : Nat := sxN (pairN h 12 [17] 6 [16, 15, 14, 13, 12]) 18
def upperN (h : Nat) : Nat := if sixN h = 0 then 0 else if rdN h = 2 then imN 19 0 2 2 (upper2I h) else luN (rdN h) (upperI h)
def selN (h : Nat) : Nat := pairN h 12 [2] 6 [1, 0]
def regsN (h : Nat) : Nat :=
  if selN h = 0 then rgN 51 0 32 (upN h) (upN h) (loN h)
  else if selN h = 1 then rgN 51 4 0 (upN h) (upN h) (loN h)
  else if selN h = 2 then rgN 51 6 0 (upN h) (upN h) (loN h)
  else if selN h = 3 then rgN 51 7 0 (upN h) (upN h) (loN h)
  else if selN h = 4 then rgN 59 0 32 (upN h) (upN h) (loN h)
  else if selN h = 5 then rgN 59 0 0 (upN h) (upN h) (loN h) else 0
def reckonN (h : Nat) : Nat :=
  if fN h 11 10 = 0 then imN 19 5 (upN h) (upN h) (sixN h)
  else if fN h 11 10 = 1 then imN 19 5 (upN h) (upN h) (sixN h ||| 1024)
  else if fN h 11 10 = 2 then imN 19 7 (upN h) (upN h) (ssixN h) else regsN h
def jumpI (h : Nat) : Nat := sxN (gN h 12 [11, 4, 9, 8, 10, 6, 7, 3, 2, 1, 5]) 12
def jumpN (h : Nat) : Nat := jlN 0 (jumpI h)
def branchI (h : Nat) : Nat := sxN (pairN h 12 [8, 4, 3] 6 [7, 6, 2, 1, 5]) 9
def branchN (h : Nat) : Nat := brN (fN h 13 13) (upN h) 0 (branchI h)
def shiftLeftN (h : Nat) : Nat := imN 19 1 (rdN h) (rdN h) (sixN h)
def unstackN (h f imm : Nat) : Nat := if rdN h = 0 then 0 else imN 3 f (rdN h) 2 imm
def unWordI (h : Nat) : Nat := pairN h 12 [5] 6 [4, 3, 2, 7, 6]
def unDoubleI (h : Nat) : Nat := pairN h 12 [5] 6 [4, 3, 8, 7, 6]
def unWordN (h : Nat) : Nat := unstackN h 2 (unWordI h)
def unDoubleN (h : Nat) : Nat := unstackN h 3 (unDoubleI h)
def stWordN (h : Nat) : Nat := stN 2 2 (rs2N h) (gN h 12 [5, 4, 3, 2, 7, 6])
def stDoubleN (h : Nat) : Nat := stN 3 2 (rs2N h) (gN h 12 [5, 4, 3, 8, 7, 6])
def moveN (h : Nat) : Nat :=
  if rs2N h = 0 then
    (if rdN h = 0 then (if fN h 12 12 = 1 then 1048691 else 0)
     else if fN h 12 12 = 1 then imN 103 0 1 (rdN h) 0 else imN 103 0 0 (rdN h) 0)
  else if fN h 12 12 = 1 then rgN 51 0 0 (rdN h) (rdN h) (rs2N h) else rgN 51 0 0 (rdN h) 0 (rs2N h)
/-- What the row of bits 1-0, 15-13 answers. -/
def rowN (a b h : Nat) : Nat :=
  if a = 0 then (if b = 0 then addStackN h else if b = 2 then loadWordN h else if b = 3 then loadDoubleN h else if b = 6 then storeWordN h else if b = 7 then storeDoubleN h else 0)
  else if a = 1 then (if b = 0 then addImmN h else if b = 1 then addImmN h else if b = 2 then addImmN h else if b = 3 then upperN h else if b = 4 then reckonN h else if b = 5 then jumpN h else if b = 6 then branchN h else if b = 7 then branchN h else 0)
  else if a = 2 then (if b = 0 then shiftLeftN h else if b = 2 then unWordN h else if b = 3 then unDoubleN h else if b = 4 then moveN h else if b = 6 then stWordN h else if b = 7 then stDoubleN h else 0) else 0
def expN (h : Nat) : Nat := rowN (fN h 1 0) (fN h 15 13) h
end Go.Proofs.Ytgekmhcekkmdhaa
