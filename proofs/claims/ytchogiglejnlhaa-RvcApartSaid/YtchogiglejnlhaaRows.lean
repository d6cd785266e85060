/-
  No cell of these rows narrows 'for every input' (looked for: loops, veiled, ifaces, maps, wideKeys, modest, calm, conditions, laid).
  DERIVED. THE GIVEN ROWS OF THIS SEAT. 3 by the template 'for every input the law returns true; each argument reads behind the call as it read before'; 0 by the template 'total and deterministic' (their statements: YtchogiglejnlhaaTotals.lean).
  GIVEN WITH THE SEED: the statements are not yours to turn. If you find one false, say at which input.
  Laid BY PROGRAM, IN A SANDBOX (cutbox-rows.mjs): the forced cells as the released guide's own fill.sh prints them over the translation 340ad76ae73f4c4d… (all of the seat's roots in one cut). By AI agents, Wed Nov 11 2026. No macro, syntax, notation, axiom, sorry.
-/
import Derived.Test.YtchogiglejnlhaaChecked
import GoSem.Claim
import GoSem.ClaimJoined
import GoSem.ClaimMapViews
import Derived.JoinedTies
import Derived.KernelRfl
namespace Go.Proofs.Ytchogiglejnlhaa
/- THE CELL 'sum', in the pinned program and in every row, IS THE sha256 OF THE DUMP (.gsa) THAT YtchogiglejnlhaaProg.lean LOADS. Nothing in Lean hashes anything: it is a label: what it is worth is what the hold of that sum in a sandbox is worth. -/
noncomputable def Try.pinned : Pinned := { name := "ytchogiglejnlhaa", sum := "340ad76ae73f4c4d16b920a5772879a9c02d338aeb0e8c843c8b72c96d5b9694", checked := Try.checked }
namespace Rows
def none {H : Type} : Left H := { results := [], args := [] }

/-- 'drawbridgelaw02.RvcExpands': WHATEVER THE INPUT: true; the input reads as it did. -/
def rvcExpandsSpec : ChangeSpec := { name := "rvcExpands", fn := fun _ => fun
  | [d] => { results := [.lit (.bool true)], args := [d] }
  | _ => none }
def rvcExpandsRow : OpenClaim := { program := "ytchogiglejnlhaa", sum := "340ad76ae73f4c4d16b920a5772879a9c02d338aeb0e8c843c8b72c96d5b9694", func := "drawbridge/drawbridgelaw02.RvcExpands", spec := "rvcExpands", unfollowed := true, recurses := true, apart := false }
def RvcExpandsSaid : Prop := rvcExpandsRow.holds Try.pinned (OpenSpec.ofChange rvcExpandsSpec)

/-- ITS FALSE NEIGHBOUR: 'it returns false'. Refute it at one input. -/
def rvcExpandsWrong : ChangeSpec := { name := "rvcExpands", fn := fun _ => fun
  | [d] => { results := [.lit (.bool false)], args := [d] }
  | _ => none }
def RvcExpandsWrongFalsely : Prop := rvcExpandsRow.holds Try.pinned (OpenSpec.ofChange rvcExpandsWrong)

/-- 'drawbridgelaw02.RvcLong': WHATEVER THE INPUT: true; the input reads as it did. -/
def rvcLongSpec : ChangeSpec := { name := "rvcLong", fn := fun _ => fun
  | [d] => { results := [.lit (.bool true)], args := [d] }
  | _ => none }
def rvcLongRow : OpenClaim := { program := "ytchogiglejnlhaa", sum := "340ad76ae73f4c4d16b920a5772879a9c02d338aeb0e8c843c8b72c96d5b9694", func := "drawbridge/drawbridgelaw02.RvcLong", spec := "rvcLong", unfollowed := true, recurses := true, apart := false }
def RvcLongSaid : Prop := rvcLongRow.holds Try.pinned (OpenSpec.ofChange rvcLongSpec)

/-- ITS FALSE NEIGHBOUR: 'it returns false'. Refute it at one input. -/
def rvcLongWrong : ChangeSpec := { name := "rvcLong", fn := fun _ => fun
  | [d] => { results := [.lit (.bool false)], args := [d] }
  | _ => none }
def RvcLongWrongFalsely : Prop := rvcLongRow.holds Try.pinned (OpenSpec.ofChange rvcLongWrong)

/-- 'drawbridgelaw02.RvcApart': WHATEVER THE INPUT: true; the input reads as it did. -/
def rvcApartSpec : ChangeSpec := { name := "rvcApart", fn := fun _ => fun
  | [d1, d2, d3] => { results := [.lit (.bool true)], args := [d1, d2, d3] }
  | _ => none }
def rvcApartRow : OpenClaim := { program := "ytchogiglejnlhaa", sum := "340ad76ae73f4c4d16b920a5772879a9c02d338aeb0e8c843c8b72c96d5b9694", func := "drawbridge/drawbridgelaw02.RvcApart", spec := "rvcApart", unfollowed := true, recurses := true, apart := false }
def RvcApartSaid : Prop := rvcApartRow.holds Try.pinned (OpenSpec.ofChange rvcApartSpec)

/-- ITS FALSE NEIGHBOUR: 'it returns false'. Refute it at one input. -/
def rvcApartWrong : ChangeSpec := { name := "rvcApart", fn := fun _ => fun
  | [d1, d2, d3] => { results := [.lit (.bool false)], args := [d1, d2, d3] }
  | _ => none }
def RvcApartWrongFalsely : Prop := rvcApartRow.holds Try.pinned (OpenSpec.ofChange rvcApartWrong)

/- THE SECOND FORM. 'bulk': how many values and letters a reading holds, each counted each time it is reached (what is shared counts as often as it is met; a slice's spare places count too). A statement '..UptoSaid' is the law's where the arguments, and the package variables that the reading takes, are together of bulk at most 1048576: NARROWER than '..Said'. Prove '..Said' where nothing that the law and all that it calls make is longer than what came in: it says more and counts as full. Else prove '..UptoSaid'. A law counts once. -/
mutual
def uptoBulk {H : Type} : DataW H → Nat
  | .lit (.string bytes) => bytes.length + 1
  | .lit _ => 1
  | .nil => 1
  | .ptr d => uptoBulk d + 1
  | .slice elems spare => uptoBulkAll elems + uptoBulkAll spare + 1
  | .agg parts => uptoBulkAll parts + 1
  | .iface _ d => uptoBulk d + 1
  | .map entries => uptoBulkEntries entries + 1
  | .held _ => 1
def uptoBulkAll {H : Type} : List (DataW H) → Nat
  | [] => 0
  | d :: r => uptoBulk d + uptoBulkAll r
def uptoBulkEntries {H : Type} : List (Lit × DataW H) → Nat
  | [] => 0
  | x :: r => uptoBulkEntry x + uptoBulkEntries r
def uptoBulkEntry {H : Type} : Lit × DataW H → Nat
  | (.string bytes, d) => bytes.length + uptoBulk d + 1
  | (_, d) => uptoBulk d + 1
 end
def uptoSmall : (H : Type) → List (DataW H) → Bool := fun _ ds => decide (uptoBulkAll ds ≤ 1048576)
def OpenSpec.upto (s : _root_.Go.ChangeSpec) : _root_.Go.OpenSpec := { _root_.Go.OpenSpec.ofChange s with cond := some uptoSmall }

/-- 'drawbridgelaw02.RvcExpands', WHERE WHAT IT READS IS OF BULK AT MOST 1048576: true; the input reads as it did. -/
def rvcExpandsUptoRow : OpenClaim := { program := "ytchogiglejnlhaa", sum := "340ad76ae73f4c4d16b920a5772879a9c02d338aeb0e8c843c8b72c96d5b9694", func := "drawbridge/drawbridgelaw02.RvcExpands", spec := "rvcExpands", unfollowed := true, recurses := true, apart := false, narrowed := true }
def RvcExpandsUptoSaid : Prop := rvcExpandsUptoRow.holds Try.pinned (OpenSpec.upto rvcExpandsSpec)

/-- 'drawbridgelaw02.RvcLong', WHERE WHAT IT READS IS OF BULK AT MOST 1048576: true; the input reads as it did. -/
def rvcLongUptoRow : OpenClaim := { program := "ytchogiglejnlhaa", sum := "340ad76ae73f4c4d16b920a5772879a9c02d338aeb0e8c843c8b72c96d5b9694", func := "drawbridge/drawbridgelaw02.RvcLong", spec := "rvcLong", unfollowed := true, recurses := true, apart := false, narrowed := true }
def RvcLongUptoSaid : Prop := rvcLongUptoRow.holds Try.pinned (OpenSpec.upto rvcLongSpec)

/-- 'drawbridgelaw02.RvcApart', WHERE WHAT IT READS IS OF BULK AT MOST 1048576: true; the input reads as it did. -/
def rvcApartUptoRow : OpenClaim := { program := "ytchogiglejnlhaa", sum := "340ad76ae73f4c4d16b920a5772879a9c02d338aeb0e8c843c8b72c96d5b9694", func := "drawbridge/drawbridgelaw02.RvcApart", spec := "rvcApart", unfollowed := true, recurses := true, apart := false, narrowed := true }
def RvcApartUptoSaid : Prop := rvcApartUptoRow.holds Try.pinned (OpenSpec.upto rvcApartSpec)

end Rows
end Go.Proofs.Ytchogiglejnlhaa
