/-
  Plain shapes of instructions: which parts of a word a row names. No program is looked at here.
-/
import Derived.Test.YtgekmhcekkmdhaaDecN
set_option linter.unusedVariables false
set_option linter.unusedSimpArgs false
namespace Go.Proofs.Ytgekmhcekkmdhaa
open Go.RowKit

/-- Bits hi to lo of a word are an immediate's from pl on. -/
structure Run where
  hi : Int
  lo : Int
  pl : Int
instance : Inhabited Run := ⟨⟨0, 0, 0⟩⟩
structure Shp where
  rd : Bool
  rs1 : Bool
  rs2 : Bool
  runs : List Run
  wide : Int
def tw (n : Int) : Shp := ⟨true, true, false, [⟨31, 20, 0⟩], n⟩
def immShp (f : Int) : Shp := if f = 1 ∨ f = 5 ∨ f = 13 then ⟨true, true, false, [⟨25, 20, 0⟩], 64⟩ else tw 12
def shp (c f : Int) : Shp :=
  if c = 1 ∨ c = 2 then ⟨true, false, false, [⟨31, 12, 12⟩], 32⟩
  else if c = 3 then ⟨true, false, false, [⟨31, 31, 20⟩, ⟨30, 21, 1⟩, ⟨20, 20, 11⟩, ⟨19, 12, 12⟩], 21⟩
  else if c = 5 then ⟨false, true, true, [⟨31, 31, 12⟩, ⟨30, 25, 5⟩, ⟨11, 8, 1⟩, ⟨7, 7, 11⟩], 13⟩
  else if c = 7 then ⟨false, true, true, [⟨31, 25, 5⟩, ⟨11, 7, 0⟩], 12⟩
  else if c = 4 ∨ c = 6 then tw 12
  else if c = 8 then immShp f
  else if c = 12 then tw 64
  else if c = 9 ∨ c = 13 then ⟨true, true, true, [], 0⟩
  else if c = 11 then ⟨false, f == 5, f == 5, [], 0⟩
  else ⟨false, false, false, [], 0⟩

def Run.ok (r : Run) : Bool := decide (0 ≤ r.lo) && decide (r.lo ≤ r.hi) && decide (r.hi ≤ 31) && decide (0 ≤ r.pl) && decide (r.pl + r.hi - r.lo ≤ 31)
theorem shp_ok (c f : Int) : (shp c f).runs.all Run.ok = true := by
  unfold shp immShp tw
  repeat (first | split | rfl)
theorem run_at {rs : List Run} (h : rs.all Run.ok = true) {k : Nat} (hk : k < rs.length) : 0 ≤ (rs.getD k default).lo ∧ (rs.getD k default).lo ≤ (rs.getD k default).hi ∧ (rs.getD k default).hi ≤ 31 ∧ 0 ≤ (rs.getD k default).pl ∧ (rs.getD k default).pl + (rs.getD k default).hi - (rs.getD k default).lo ≤ 31 := by
  rw [List.getD_eq_getElem?_getD, List.getElem?_eq_getElem hk]
  have := List.all_eq_true.1 h _ (List.getElem_mem hk)
  simp only [Run.ok, Bool.and_eq_true, decide_eq_true_eq] at this
  simp only [Option.getD_some]
  omega

/-- The immediate's bits out of the first k runs. -/
def orK (x : Nat) (rs : List Run) : Nat → Nat
  | 0 => 0
  | k + 1 => orK x rs k ||| fN x (rs.getD k default).hi (rs.getD k default).lo * 2 ^ (rs.getD k default).pl.toNat
/-- What the first k runs lay into a word that is a at first. -/
def spK (y : Nat) (rs : List Run) (a : Nat) : Nat → Nat
  | 0 => a
  | k + 1 => spK y rs a k ||| fN y ((rs.getD k default).pl + (rs.getD k default).hi - (rs.getD k default).lo) (rs.getD k default).pl * 2 ^ (rs.getD k default).lo.toNat
theorem run_lt (x : Nat) (hi lo pl : Int) (_h0 : 0 ≤ lo) (h1 : lo ≤ hi) (h2 : hi ≤ 31) (h3 : 0 ≤ pl) (h4 : pl + hi - lo ≤ 31) : fN x hi lo * 2 ^ pl.toNat < 4294967296 := by
  have h : fN x hi lo < 2 ^ (hi - lo + 1).toNat := Nat.mod_lt _ (Nat.pow_pos (by decide))
  have h5 : fN x hi lo * 2 ^ pl.toNat < 2 ^ (hi - lo + 1).toNat * 2 ^ pl.toNat := Nat.mul_lt_mul_of_pos_right h (Nat.pow_pos (by decide))
  rw [← Nat.pow_add] at h5
  have h6 : 2 ^ ((hi - lo + 1).toNat + pl.toNat) ≤ 2 ^ 32 := Nat.pow_le_pow_right (by decide) (by omega)
  omega
theorem orK_lt (x : Nat) (rs : List Run) (h : rs.all Run.ok = true) : ∀ k, k ≤ rs.length → orK x rs k < 4294967296
  | 0, _ => by show 0 < _; omega
  | k + 1, hk => by
    obtain ⟨a, b, c, d, e⟩ := run_at h (k := k) (by omega)
    exact or32_lt (orK_lt x rs h k (by omega)) (run_lt x _ _ _ a b c d e)
theorem spK_lt (y : Nat) (rs : List Run) (h : rs.all Run.ok = true) (a : Nat) (ha : a < 4294967296) : ∀ k, k ≤ rs.length → spK y rs a k < 4294967296
  | 0, _ => ha
  | k + 1, hk => by
    obtain ⟨a1, b, c, d, e⟩ := run_at h (k := k) (by omega)
    exact or32_lt (spK_lt y rs h a ha k (by omega)) (run_lt y _ _ _ d (by omega) (by omega) a1 (by omega))
end Go.Proofs.Ytgekmhcekkmdhaa
