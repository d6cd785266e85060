/-
  Plain numbers of pages (layer 8): what Fault, an entry's tests and Translate answer. No program is looked at here.
-/
import Derived.Test.YtocmningcpcmiaaMath
import Derived.Test.YtocmningcpcmiaaRamC
set_option linter.unusedVariables false
set_option linter.unusedSimpArgs false
namespace Go.Proofs.Ytocmningcpcmiaa
open Go.RowKit

def faultV (kind : Int) (page : Bool) : Int := if kind = 0 then (if page then 12 else 1) else if kind = 2 then (if page then 15 else 7) else (if page then 13 else 5)
/-- May a leaf e of level l be? -/
def permV (e status kind : Int) : Bool := if kind = 0 then fieldV e 3 3 == 1 else if kind = 2 then fieldV e 2 2 == 1 else fieldV e 1 1 == 1 || (fieldV e 3 3 == 1 && fieldV status 19 19 == 1)
def userV (e status priv kind : Int) : Bool := if priv < 1 then fieldV e 4 4 == 1 else !(fieldV e 4 4 == 1) || (!decide (kind = 0) && !(fieldV status 18 18 == 0))
def lowV (e : Int) (l : Nat) : Bool := decide (l = 0) || fieldV e (9 + 9 * l) 10 == 0
def allowV (e status priv kind : Int) (l : Nat) : Bool := userV e status priv kind && permV e status kind && lowV e l
/-- Which entries are none; which are leaves; which lead nowhere. -/
def badE (e : Int) : Bool := fieldV e 0 0 == 0 || fieldV e 2 1 == 2 || fieldV e 63 54 != 0
def leafE (e : Int) : Bool := fieldV e 1 1 == 1 || fieldV e 3 3 == 1
def noneE (e : Int) : Bool := fieldV e 4 4 == 1 || fieldV e 7 6 != 0
/-- A leaf with its marks. -/
def markE (e kind : Int) : Int := if kind = 2 then bits .or .u64 (bits .or .u64 e 64) 128 else bits .or .u64 e 64
/-- Where the entry of level l stands. -/
def entP (table x : Int) (l : Nat) : Int := table + 8 * fieldV x (20 + 9 * l) (12 + 9 * l)
structure Sv where
  addr : Int
  mem : List Int
  cause : Int
  ok : Bool
def noV (xs : List Int) (kind : Int) (page : Bool) : Sv := ⟨0, xs, faultV kind page, false⟩
def svGo (xs : List Int) (status priv x kind : Int) : Nat → Int → Sv
  | 0, _ => noV xs kind true
  | l + 1, table =>
    if insideV xs.length (entP table x l) 8 then
      if badE (readV xs (entP table x l) 8) then noV xs kind true
      else if leafE (readV xs (entP table x l) 8) then
        if allowV (readV xs (entP table x l) 8) status priv kind l then
          ⟨fieldV (markE (readV xs (entP table x l) 8) kind) 53 10 * 4096 + fieldV x (11 + 9 * l) 0, writeV xs (entP table x l) 8 (markE (readV xs (entP table x l) 8) kind), 0, true⟩
        else noV xs kind true
      else if noneE (readV xs (entP table x l) 8) then noV xs kind true
      else svGo xs status priv x kind l (fieldV (readV xs (entP table x l) 8) 53 10 * 4096)
    else noV xs kind false
def svV (xs : List Int) (satp status priv x kind : Int) : Sv :=
  if 3 ≤ priv ∨ ¬ fieldV satp 63 60 = 8 then ⟨x, xs, 0, true⟩
  else if sextV x 39 = x then svGo xs status priv x kind 3 (fieldV satp 43 0 * 4096) else noV xs kind true

/-! ### Bounds -/
theorem fieldV_small (x hi lo : Int) (n : Nat) (_h0 : 0 ≤ lo) (_h1 : lo ≤ hi) (_h2 : hi ≤ 63) (hn : (hi - lo + 1).toNat = n) : 0 ≤ fieldV x hi lo ∧ fieldV x hi lo < 2 ^ n := by
  unfold fieldV
  rw [if_pos (by omega), hn]
  exact ⟨Int.emod_nonneg _ (Int.ne_of_gt (pow_pos' n)), Int.emod_lt_of_pos _ (pow_pos' n)⟩
theorem table_lt (e : Int) (hi lo : Int) (h0 : 0 ≤ lo) (h1 : lo ≤ hi) (h2 : hi ≤ 63) (hn : (hi - lo + 1).toNat = 44) : 0 ≤ fieldV e hi lo ∧ fieldV e hi lo < 17592186044416 := fieldV_small e hi lo 44 h0 h1 h2 hn
theorem entP_lt (table x : Int) (l : Nat) (hl : l ≤ 2) (h0 : 0 ≤ table) (h1 : table < 72057594037927936) : 0 ≤ entP table x l ∧ entP table x l < 72057594037932032 := by
  have h := fieldV_small x (20 + 9 * l) (12 + 9 * l) 9 (by omega) (by omega) (by omega) (by omega)
  have e : (2 : Int) ^ 9 = 512 := by decide
  unfold entP
  omega
theorem readV_lt {xs : List Int} (h : AreBytes xs) (x n : Int) : 0 ≤ readV xs x n ∧ readV xs x n < 18446744073709551616 := by
  unfold readV
  split
  · refine getV_lt ?_ false
    unfold bytesV; split
    · exact h.cut _ _
    · intro y hy; simp at hy
  · omega
theorem orI_lt (a b : Int) (ha : 0 ≤ a ∧ a < 18446744073709551616) (hb : 0 ≤ b ∧ b < 18446744073709551616) : 0 ≤ bits .or .u64 a b ∧ bits .or .u64 a b < 18446744073709551616 := by
  rw [u64_or a b ha.1 ha.2 hb.1 hb.2]
  have h : a.toNat ||| b.toNat < 2 ^ 64 := Nat.or_lt_two_pow (by omega) (by omega)
  omega
theorem markE_lt (e kind : Int) (he : 0 ≤ e ∧ e < 18446744073709551616) : 0 ≤ markE e kind ∧ markE e kind < 18446744073709551616 := by
  unfold markE
  split
  · exact orI_lt _ _ (orI_lt _ _ he (by omega)) (by omega)
  · exact orI_lt _ _ he (by omega)
theorem svGo_len (xs : List Int) (status priv x kind : Int) : ∀ (l : Nat) (table : Int), (svGo xs status priv x kind l table).mem.length = xs.length := by
  intro l
  induction l with
  | zero => intro t; rfl
  | succ l ih =>
    intro t
    simp only [svGo]
    repeat' split
    all_goals first | rfl | exact ih _ | (dsimp only; exact writeV_length _ _ _ _)
end Go.Proofs.Ytocmningcpcmiaa
