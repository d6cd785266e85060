/-
  Plain numbers of instructions taken apart: what package decode answers. No program is looked at here.
-/
import Derived.Test.YtgekmhcekkmdhaaRvcN
set_option linter.unusedVariables false
set_option linter.unusedSimpArgs false
namespace Go.Proofs.Ytgekmhcekkmdhaa
open Go.RowKit

/-- What 'only' answers. -/
def onI (b : Bool) (c : Int) : Int := if b then c else 0
def onB (b d : Bool) : Bool := if b then d else false
/-- Class, F, Word. -/
structure Kd where
  c : Int
  f : Int
  d : Bool
def kOn (b : Bool) (c f : Int) (d : Bool) : Kd := ⟨onI b c, onI b f, onB b d⟩
def kNo : Kd := ⟨0, 0, false⟩
def kImm (f g : Int) (d : Bool) : Kd :=
  if f = 1 then kOn (g == 0) 8 f d
  else if f = 5 then (if g = 32 then ⟨8, 13, d⟩ else kOn (g == 0) 8 f d)
  else if f = 0 then ⟨8, f, d⟩ else kOn (!d) 8 f d
def regShift (f : Int) : Bool := f == 1 || f == 5
def kReg (f g : Int) (d : Bool) : Kd :=
  if g = 0 then kOn (!d || f == 0 || regShift f) 9 f d
  else if g = 32 then kOn (f == 0 || f == 5) 9 (f + 8) d
  else if g = 1 then kOn (!d || f + 16 == 16 || decide (20 ≤ f + 16)) 9 (f + 16) d
  else kNo
def kSys (x : Nat) (f g : Int) : Kd :=
  if x = 115 then ⟨11, 0, false⟩
  else if x = 1048691 then ⟨11, 1, false⟩
  else if x = 270532723 then ⟨11, 2, false⟩
  else if x = 807403635 then ⟨11, 3, false⟩
  else if x = 273678451 then ⟨11, 4, false⟩
  else if f ≠ 0 then kOn (f != 4) 12 f false
  else kOn (g == 9 && ((fN x 11 7 : Nat) : Int) == 0) 11 5 false
def amoIs (q : Nat) : Bool := q == 0 || q == 1 || q == 3 || q == 4 || q == 8 || q == 12 || q == 16 || q == 20 || q == 24 || q == 28
def kAmo (x : Nat) (f : Int) : Kd :=
  if f = 2 ∨ f = 3 then
    (if amoIs (fN x 31 27) then ⟨13, (fN x 31 27 : Nat), f == 2⟩
     else if fN x 31 27 = 2 then kOn (((fN x 24 20 : Nat) : Int) == 0) 13 (fN x 31 27 : Nat) (f == 2) else kNo)
  else kNo
def kF (x : Nat) (f g : Int) : Kd :=
  if fN x 6 0 = 55 then ⟨1, 0, false⟩
  else if fN x 6 0 = 23 then ⟨2, 0, false⟩
  else if fN x 6 0 = 111 then ⟨3, 0, false⟩
  else if fN x 6 0 = 103 then kOn (f == 0) 4 0 false
  else if fN x 6 0 = 99 then kOn (f != 2 && f != 3) 5 f false
  else if fN x 6 0 = 3 then kOn (f != 7) 6 f false
  else if fN x 6 0 = 35 then kOn (decide (f ≤ 3)) 7 f false
  else if fN x 6 0 = 19 then kImm f (g - g % 2) false
  else if fN x 6 0 = 27 then kImm f g true
  else if fN x 6 0 = 51 then kReg f g false
  else if fN x 6 0 = 59 then kReg f g true
  else if fN x 6 0 = 15 then kOn (decide (f ≤ 1)) 10 f false
  else if fN x 6 0 = 115 then kSys x f g
  else if fN x 6 0 = 47 then kAmo x f
  else kNo
def kOf (x : Nat) : Kd := kF x (fN x 14 12 : Nat) (fN x 31 25 : Nat)
end Go.Proofs.Ytgekmhcekkmdhaa
