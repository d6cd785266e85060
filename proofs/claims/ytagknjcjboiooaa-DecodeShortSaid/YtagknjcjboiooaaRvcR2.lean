/-
  Plain numbers of compressed instructions, as the document's own text has them.
-/
import Derived.Test.YtagknjcjboiooaaRvcN
set_option linter.unusedVariables false
set_option linter.unusedSimpArgs false
namespace Go.Proofs.Ytagknjcjboiooaa
open Go.RowKit

def wordR (h : Nat) : Nat := fN h 12 10 * 8 ||| fN h 6 6 * 4 ||| fN h 5 5 * 64
theorem wordR_or (h : Nat) : (bits .or .u32 (bits .or .u32 (((fN h 12 10 : Nat) : Int) * 8) (((fN h 6 6 : Nat) : Int) * 4)) (((fN h 5 5 : Nat) : Int) * 64)) = (wordR h : Int) := by
  have b0 := fN_lt h 12 10 8 (by decide)
  have b1 := fN_lt h 6 6 2 (by decide)
  have b2 := fN_lt h 5 5 2 (by decide)
  unfold wordR
  simp (disch := (repeat (first | omega | apply or32_lt))) only [mulc, or32]
theorem wordR_lt (h : Nat) : wordR h < 4294967296 := by
  have b0 := fN_lt h 12 10 8 (by decide)
  have b1 := fN_lt h 6 6 2 (by decide)
  have b2 := fN_lt h 5 5 2 (by decide)
  unfold wordR
  repeat (first | omega | apply or32_lt)
def doubleR (h : Nat) : Nat := fN h 12 10 * 8 ||| fN h 6 5 * 64
theorem doubleR_or (h : Nat) : (bits .or .u32 (((fN h 12 10 : Nat) : Int) * 8) (((fN h 6 5 : Nat) : Int) * 64)) = (doubleR h : Int) := by
  have b0 := fN_lt h 12 10 8 (by decide)
  have b1 := fN_lt h 6 5 4 (by decide)
  unfold doubleR
  simp (disch := (repeat (first | omega | apply or32_lt))) only [mulc, or32]
theorem doubleR_lt (h : Nat) : doubleR h < 4294967296 := by
  have b0 := fN_lt h 12 10 8 (by decide)
  have b1 := fN_lt h 6 5 4 (by decide)
  unfold doubleR
  repeat (first | omega | apply or32_lt)
def z0R (h : Nat) : Nat := fN h 12 11 * 16 ||| fN h 10 7 * 64 ||| fN h 6 6 * 4 ||| fN h 5 5 * 8
theorem z0R_or (h : Nat) : (bits .or .u32 (bits .or .u32 (bits .or .u32 (((fN h 12 11 : Nat) : Int) * 16) (((fN h 10 7 : Nat) : Int) * 64)) (((fN h 6 6 : Nat) : Int) * 4)) (((fN h 5 5 : Nat) : Int) * 8)) = (z0R h : Int) := by
  have b0 := fN_lt h 12 11 4 (by decide)
  have b1 := fN_lt h 10 7 16 (by decide)
  have b2 := fN_lt h 6 6 2 (by decide)
  have b3 := fN_lt h 5 5 2 (by decide)
  unfold z0R
  simp (disch := (repeat (first | omega | apply or32_lt))) only [mulc, or32]
theorem z0R_lt (h : Nat) : z0R h < 4294967296 := by
  have b0 := fN_lt h 12 11 4 (by decide)
  have b1 := fN_lt h 10 7 16 (by decide)
  have b2 := fN_lt h 6 6 2 (by decide)
  have b3 := fN_lt h 5 5 2 (by decide)
  unfold z0R
  repeat (first | omega | apply or32_lt)
def sixR (h : Nat) : Nat := fN h 12 12 * 32 ||| fN h 6 2
theorem sixR_or (h : Nat) : (bits .or .u32 (((fN h 12 12 : Nat) : Int) * 32) ((fN h 6 2 : Nat) : Int)) = (sixR h : Int) := by
  have b0 := fN_lt h 12 12 2 (by decide)
  have b1 := fN_lt h 6 2 32 (by decide)
  unfold sixR
  simp (disch := (repeat (first | omega | apply or32_lt))) only [mulc, or32]
theorem sixR_lt (h : Nat) : sixR h < 4294967296 := by
  have b0 := fN_lt h 12 12 2 (by decide)
  have b1 := fN_lt h 6 2 32 (by decide)
  unfold sixR
  repeat (first | omega | apply or32_lt)
def u2R (h : Nat) : Nat := fN h 12 12 * 512 ||| fN h 6 6 * 16 ||| fN h 5 5 * 64 ||| fN h 4 3 * 128 ||| fN h 2 2 * 32
theorem u2R_or (h : Nat) : (bits .or .u32 (bits .or .u32 (bits .or .u32 (bits .or .u32 (((fN h 12 12 : Nat) : Int) * 512) (((fN h 6 6 : Nat) : Int) * 16)) (((fN h 5 5 : Nat) : Int) * 64)) (((fN h 4 3 : Nat) : Int) * 128)) (((fN h 2 2 : Nat) : Int) * 32)) = (u2R h : Int) := by
  have b0 := fN_lt h 12 12 2 (by decide)
  have b1 := fN_lt h 6 6 2 (by decide)
  have b2 := fN_lt h 5 5 2 (by decide)
  have b3 := fN_lt h 4 3 4 (by decide)
  have b4 := fN_lt h 2 2 2 (by decide)
  unfold u2R
  simp (disch := (repeat (first | omega | apply or32_lt))) only [mulc, or32]
theorem u2R_lt (h : Nat) : u2R h < 4294967296 := by
  have b0 := fN_lt h 12 12 2 (by decide)
  have b1 := fN_lt h 6 6 2 (by decide)
  have b2 := fN_lt h 5 5 2 (by decide)
  have b3 := fN_lt h 4 3 4 (by decide)
  have b4 := fN_lt h 2 2 2 (by decide)
  unfold u2R
  repeat (first | omega | apply or32_lt)
def jR (h : Nat) : Nat := fN h 12 12 * 2048 ||| fN h 11 11 * 16 ||| fN h 10 9 * 256 ||| fN h 8 8 * 1024 ||| fN h 7 7 * 64 ||| fN h 6 6 * 128 ||| fN h 5 3 * 2 ||| fN h 2 2 * 32
theorem jR_or (h : Nat) : (bits .or .u32 (bits .or .u32 (bits .or .u32 (bits .or .u32 (bits .or .u32 (bits .or .u32 (bits .or .u32 (((fN h 12 12 : Nat) : Int) * 2048) (((fN h 11 11 : Nat) : Int) * 16)) (((fN h 10 9 : Nat) : Int) * 256)) (((fN h 8 8 : Nat) : Int) * 1024)) (((fN h 7 7 : Nat) : Int) * 64)) (((fN h 6 6 : Nat) : Int) * 128)) (((fN h 5 3 : Nat) : Int) * 2)) (((fN h 2 2 : Nat) : Int) * 32)) = (jR h : Int) := by
  have b0 := fN_lt h 12 12 2 (by decide)
  have b1 := fN_lt h 11 11 2 (by decide)
  have b2 := fN_lt h 10 9 4 (by decide)
  have b3 := fN_lt h 8 8 2 (by decide)
  have b4 := fN_lt h 7 7 2 (by decide)
  have b5 := fN_lt h 6 6 2 (by decide)
  have b6 := fN_lt h 5 3 8 (by decide)
  have b7 := fN_lt h 2 2 2 (by decide)
  unfold jR
  simp (disch := (repeat (first | omega | apply or32_lt))) only [mulc, or32]
theorem jR_lt (h : Nat) : jR h < 4294967296 := by
  have b0 := fN_lt h 12 12 2 (by decide)
  have b1 := fN_lt h 11 11 2 (by decide)
  have b2 := fN_lt h 10 9 4 (by decide)
  have b3 := fN_lt h 8 8 2 (by decide)
  have b4 := fN_lt h 7 7 2 (by decide)
  have b5 := fN_lt h 6 6 2 (by decide)
  have b6 := fN_lt h 5 3 8 (by decide)
  have b7 := fN_lt h 2 2 2 (by decide)
  unfold jR
  repeat (first | omega | apply or32_lt)
def bR (h : Nat) : Nat := fN h 12 12 * 256 ||| fN h 11 10 * 8 ||| fN h 6 5 * 64 ||| fN h 4 3 * 2 ||| fN h 2 2 * 32
theorem bR_or (h : Nat) : (bits .or .u32 (bits .or .u32 (bits .or .u32 (bits .or .u32 (((fN h 12 12 : Nat) : Int) * 256) (((fN h 11 10 : Nat) : Int) * 8)) (((fN h 6 5 : Nat) : Int) * 64)) (((fN h 4 3 : Nat) : Int) * 2)) (((fN h 2 2 : Nat) : Int) * 32)) = (bR h : Int) := by
  have b0 := fN_lt h 12 12 2 (by decide)
  have b1 := fN_lt h 11 10 4 (by decide)
  have b2 := fN_lt h 6 5 4 (by decide)
  have b3 := fN_lt h 4 3 4 (by decide)
  have b4 := fN_lt h 2 2 2 (by decide)
  unfold bR
  simp (disch := (repeat (first | omega | apply or32_lt))) only [mulc, or32]
theorem bR_lt (h : Nat) : bR h < 4294967296 := by
  have b0 := fN_lt h 12 12 2 (by decide)
  have b1 := fN_lt h 11 10 4 (by decide)
  have b2 := fN_lt h 6 5 4 (by decide)
  have b3 := fN_lt h 4 3 4 (by decide)
  have b4 := fN_lt h 2 2 2 (by decide)
  unfold bR
  repeat (first | omega | apply or32_lt)
def t2R (h : Nat) : Nat := fN h 12 12 * 32 ||| fN h 6 4 * 4 ||| fN h 3 2 * 64
theorem t2R_or (h : Nat) : (bits .or .u32 (bits .or .u32 (((fN h 12 12 : Nat) : Int) * 32) (((fN h 6 4 : Nat) : Int) * 4)) (((fN h 3 2 : Nat) : Int) * 64)) = (t2R h : Int) := by
  have b0 := fN_lt h 12 12 2 (by decide)
  have b1 := fN_lt h 6 4 8 (by decide)
  have b2 := fN_lt h 3 2 4 (by decide)
  unfold t2R
  simp (disch := (repeat (first | omega | apply or32_lt))) only [mulc, or32]
theorem t2R_lt (h : Nat) : t2R h < 4294967296 := by
  have b0 := fN_lt h 12 12 2 (by decide)
  have b1 := fN_lt h 6 4 8 (by decide)
  have b2 := fN_lt h 3 2 4 (by decide)
  unfold t2R
  repeat (first | omega | apply or32_lt)
def t3R (h : Nat) : Nat := fN h 12 12 * 32 ||| fN h 6 5 * 8 ||| fN h 4 2 * 64
theorem t3R_or (h : Nat) : (bits .or .u32 (bits .or .u32 (((fN h 12 12 : Nat) : Int) * 32) (((fN h 6 5 : Nat) : Int) * 8)) (((fN h 4 2 : Nat) : Int) * 64)) = (t3R h : Int) := by
  have b0 := fN_lt h 12 12 2 (by decide)
  have b1 := fN_lt h 6 5 4 (by decide)
  have b2 := fN_lt h 4 2 8 (by decide)
  unfold t3R
  simp (disch := (repeat (first | omega | apply or32_lt))) only [mulc, or32]
theorem t3R_lt (h : Nat) : t3R h < 4294967296 := by
  have b0 := fN_lt h 12 12 2 (by decide)
  have b1 := fN_lt h 6 5 4 (by decide)
  have b2 := fN_lt h 4 2 8 (by decide)
  unfold t3R
  repeat (first | omega | apply or32_lt)
def t6R (h : Nat) : Nat := fN h 12 9 * 4 ||| fN h 8 7 * 64
theorem t6R_or (h : Nat) : (bits .or .u32 (((fN h 12 9 : Nat) : Int) * 4) (((fN h 8 7 : Nat) : Int) * 64)) = (t6R h : Int) := by
  have b0 := fN_lt h 12 9 16 (by decide)
  have b1 := fN_lt h 8 7 4 (by decide)
  unfold t6R
  simp (disch := (repeat (first | omega | apply or32_lt))) only [mulc, or32]
theorem t6R_lt (h : Nat) : t6R h < 4294967296 := by
  have b0 := fN_lt h 12 9 16 (by decide)
  have b1 := fN_lt h 8 7 4 (by decide)
  unfold t6R
  repeat (first | omega | apply or32_lt)
def t7R (h : Nat) : Nat := fN h 12 10 * 8 ||| fN h 9 7 * 64
theorem t7R_or (h : Nat) : (bits .or .u32 (((fN h 12 10 : Nat) : Int) * 8) (((fN h 9 7 : Nat) : Int) * 64)) = (t7R h : Int) := by
  have b0 := fN_lt h 12 10 8 (by decide)
  have b1 := fN_lt h 9 7 8 (by decide)
  unfold t7R
  simp (disch := (repeat (first | omega | apply or32_lt))) only [mulc, or32]
theorem t7R_lt (h : Nat) : t7R h < 4294967296 := by
  have b0 := fN_lt h 12 10 8 (by decide)
  have b1 := fN_lt h 9 7 8 (by decide)
  unfold t7R
  repeat (first | omega | apply or32_lt)
def selR (h : Nat) : Nat := fN h 12 12 * 4 ||| fN h 6 5
theorem selR_or (h : Nat) : (bits .or .u32 (((fN h 12 12 : Nat) : Int) * 4) ((fN h 6 5 : Nat) : Int)) = (selR h : Int) := by
  have b0 := fN_lt h 12 12 2 (by decide)
  have b1 := fN_lt h 6 5 4 (by decide)
  unfold selR
  simp (disch := (repeat (first | omega | apply or32_lt))) only [mulc, or32]
theorem selR_lt (h : Nat) : selR h < 4294967296 := by
  have b0 := fN_lt h 12 12 2 (by decide)
  have b1 := fN_lt h 6 5 4 (by decide)
  unfold selR
  repeat (first | omega | apply or32_lt)
/-- A number's n lowest bits with their sign, in 32 bits. -/
def sxR (x : Nat) (n : Int) : Nat := sxN x n % 4294967296
theorem sxR_lt (x : Nat) (n : Int) : sxR x n < 4294967296 := Nat.mod_lt _ (by decide)
def itR (imm rs1 f rd op : Nat) : Nat := imm % 4096 * 1048576 ||| rs1 * 32768 ||| f * 4096 ||| rd * 128 ||| op
def stR (imm rs2 rs1 f : Nat) : Nat := imm / 32 % 128 * 33554432 ||| rs2 * 1048576 ||| rs1 * 32768 ||| f * 4096 ||| imm % 32 * 128 ||| 35
def rtR (g rs2 rs1 f rd op : Nat) : Nat := g * 33554432 ||| rs2 * 1048576 ||| rs1 * 32768 ||| f * 4096 ||| rd * 128 ||| op
def btR (imm rs1 f : Nat) : Nat := imm / 4096 % 2 * 2147483648 ||| imm / 32 % 64 * 33554432 ||| rs1 * 32768 ||| f * 4096 ||| imm / 2 % 16 * 256 ||| imm / 2048 % 2 * 128 ||| 99
def jtR (imm rd : Nat) : Nat := imm / 1048576 % 2 * 2147483648 ||| imm / 2 % 1024 * 2097152 ||| imm / 2048 % 2 * 1048576 ||| imm / 4096 % 256 * 4096 ||| rd * 128 ||| 111
def rdR (h : Nat) : Nat := fN h 11 7
def nb (x : Nat) : Bool := (x : Int) != 0
def zV (h : Nat) : Nat :=
  if fN h 15 13 = 0 then itR (z0R h) 2 0 (loN h) 19
  else if fN h 15 13 = 2 then itR (wordR h) (upN h) 2 (loN h) 3
  else if fN h 15 13 = 3 then itR (doubleR h) (upN h) 3 (loN h) 3
  else if fN h 15 13 = 6 then stR (wordR h) (loN h) (upN h) 2
  else if fN h 15 13 = 7 then stR (doubleR h) (loN h) (upN h) 3 else 0
def zB (h : Nat) : Bool :=
  if fN h 15 13 = 0 then nb (z0R h)
  else if fN h 15 13 = 2 then true else if fN h 15 13 = 3 then true else if fN h 15 13 = 6 then true else if fN h 15 13 = 7 then true else false
def sumV (h : Nat) : Nat :=
  if fN h 11 10 = 0 then itR (sixR h) (upN h) 5 (upN h) 19
  else if fN h 11 10 = 1 then itR (sixR h ||| 1024) (upN h) 5 (upN h) 19
  else if fN h 11 10 = 2 then itR (sxR (sixR h) 6) (upN h) 7 (upN h) 19
  else if selR h = 0 then rtR 32 (loN h) (upN h) 0 (upN h) 51
  else if selR h = 1 then rtR 0 (loN h) (upN h) 4 (upN h) 51
  else if selR h = 2 then rtR 0 (loN h) (upN h) 6 (upN h) 51
  else if selR h = 3 then rtR 0 (loN h) (upN h) 7 (upN h) 51
  else if selR h = 4 then rtR 32 (loN h) (upN h) 0 (upN h) 59
  else if selR h = 5 then rtR 0 (loN h) (upN h) 0 (upN h) 59 else 0
def sB (h : Nat) : Bool :=
  if fN h 11 10 = 0 then true else if fN h 11 10 = 1 then true else if fN h 11 10 = 2 then true
  else if selR h = 0 then true else if selR h = 1 then true else if selR h = 2 then true else if selR h = 3 then true else if selR h = 4 then true else if selR h = 5 then true else false
def oI (h : Nat) : Nat := sxR (sixR h) 6
def o3I (h : Nat) : Nat := sxR (u2R h) 10
def luR (imm rd : Nat) : Nat := imm * 4096 % 4294967296 ||| rd * 128 ||| 55
def oV (h : Nat) : Nat :=
  if fN h 15 13 = 0 then itR (oI h) (rdR h) 0 (rdR h) 19
  else if fN h 15 13 = 1 then itR (oI h) (rdR h) 0 (rdR h) 27
  else if fN h 15 13 = 2 then itR (oI h) 0 0 (rdR h) 19
  else if fN h 15 13 = 3 then (if rdR h = 2 then itR (o3I h) 2 0 2 19 else luR (oI h) (rdR h))
  else if fN h 15 13 = 4 then sumV h
  else if fN h 15 13 = 5 then jtR (sxR (jR h) 12) 0 else btR (sxR (bR h) 9) (upN h) (fN h 13 13)
def oB (h : Nat) : Bool :=
  if fN h 15 13 = 0 then true
  else if fN h 15 13 = 1 then nb (rdR h)
  else if fN h 15 13 = 2 then true
  else if fN h 15 13 = 3 then (if rdR h = 2 then nb (o3I h) else nb (oI h))
  else if fN h 15 13 = 4 then sB h else if fN h 15 13 = 5 then true else true
def hrR (h : Nat) : Nat := fN h 12 12 * rdR h
def tV (h : Nat) : Nat :=
  if fN h 15 13 = 0 then itR (sixR h) (rdR h) 1 (rdR h) 19
  else if fN h 15 13 = 2 then itR (t2R h) 2 2 (rdR h) 3
  else if fN h 15 13 = 3 then itR (t3R h) 2 3 (rdR h) 3
  else if fN h 15 13 = 4 then (if fN h 6 2 = 0 then (if rdR h = 0 then 1048691 else itR 0 (rdR h) 0 (fN h 12 12) 103) else rtR 0 (fN h 6 2) (hrR h) 0 (rdR h) 51)
  else if fN h 15 13 = 6 then stR (t6R h) (fN h 6 2) 2 2
  else if fN h 15 13 = 7 then stR (t7R h) (fN h 6 2) 2 3 else 0
def is1 (x : Nat) : Bool := (x : Int) == 1
def tB (h : Nat) : Bool :=
  if fN h 15 13 = 0 then true
  else if fN h 15 13 = 2 then nb (rdR h)
  else if fN h 15 13 = 3 then nb (rdR h)
  else if fN h 15 13 = 4 then (if fN h 6 2 = 0 then (if rdR h = 0 then is1 (fN h 12 12) else true) else true)
  else if fN h 15 13 = 6 then true else if fN h 15 13 = 7 then true else false
def refW (h : Nat) : Nat := if h % 4 = 0 then zV h else if h % 4 = 1 then oV h else if h % 4 = 2 then tV h else 0
def refB (h : Nat) : Bool := if h % 4 = 0 then zB h else if h % 4 = 1 then oB h else if h % 4 = 2 then tB h else false
end Go.Proofs.Ytagknjcjboiooaa
