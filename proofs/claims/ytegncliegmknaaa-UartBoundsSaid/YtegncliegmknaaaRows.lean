/-
  No cell of these rows narrows 'for every input' (looked for: loops, veiled, ifaces, maps, wideKeys, modest, calm, conditions, laid).
  DERIVED. THE GIVEN ROWS OF THIS SEAT. 3 by the template 'for every input the law returns true; each argument reads behind the call as it read before'; 0 by the template 'total and deterministic' (their statements: YtegncliegmknaaaTotals.lean).
  GIVEN WITH THE SEED: the statements are not yours to turn. If you find one false, say at which input.
  Laid BY PROGRAM, IN A SANDBOX (cutbox-rows.mjs): the forced cells as the released guide's own fill.sh prints them over the translation 417ca81509c5e9bb… (all of the seat's roots in one cut). By AI agents, Wed Nov 11 2026. No macro, syntax, notation, axiom, sorry.
-/
import Derived.Test.YtegncliegmknaaaChecked
import GoSem.Claim
import GoSem.ClaimJoined
import GoSem.ClaimMapViews
import Derived.JoinedTies
import Derived.KernelRfl
namespace Go.Proofs.Ytegncliegmknaaa
/- THE CELL 'sum', in the pinned program and in every row, IS THE sha256 OF THE DUMP (.gsa) THAT YtegncliegmknaaaProg.lean LOADS. Nothing in Lean hashes anything: it is a label: what it is worth is what the hold of that sum in a sandbox is worth. -/
noncomputable def Try.pinned : Pinned := { name := "ytegncliegmknaaa", sum := "417ca81509c5e9bba6ab8050b9791da1e2502600098a860debb87f0194527557", checked := Try.checked }
namespace Rows
def none {H : Type} : Left H := { results := [], args := [] }

/-- 'drawbridgelaw11.UartBounds': WHATEVER THE INPUT: true; the input reads as it did. -/
def uartBoundsSpec : ChangeSpec := { name := "uartBounds", fn := fun _ => fun
  | [d] => { results := [.lit (.bool true)], args := [d] }
  | _ => none }
def uartBoundsRow : OpenClaim := { program := "ytegncliegmknaaa", sum := "417ca81509c5e9bba6ab8050b9791da1e2502600098a860debb87f0194527557", func := "drawbridge/drawbridgelaw11.UartBounds", spec := "uartBounds", apart := false }
def UartBoundsSaid : Prop := uartBoundsRow.holds Try.pinned (OpenSpec.ofChange uartBoundsSpec)

/-- ITS FALSE NEIGHBOUR: 'it returns false'. Refute it at one input. -/
def uartBoundsWrong : ChangeSpec := { name := "uartBounds", fn := fun _ => fun
  | [d] => { results := [.lit (.bool false)], args := [d] }
  | _ => none }
def UartBoundsWrongFalsely : Prop := uartBoundsRow.holds Try.pinned (OpenSpec.ofChange uartBoundsWrong)

/-- 'drawbridgelaw11.UartOrder': WHATEVER THE INPUT: true; the input reads as it did. -/
def uartOrderSpec : ChangeSpec := { name := "uartOrder", fn := fun _ => fun
  | [d] => { results := [.lit (.bool true)], args := [d] }
  | _ => none }
def uartOrderRow : OpenClaim := { program := "ytegncliegmknaaa", sum := "417ca81509c5e9bba6ab8050b9791da1e2502600098a860debb87f0194527557", func := "drawbridge/drawbridgelaw11.UartOrder", spec := "uartOrder", apart := false }
def UartOrderSaid : Prop := uartOrderRow.holds Try.pinned (OpenSpec.ofChange uartOrderSpec)

/-- ITS FALSE NEIGHBOUR: 'it returns false'. Refute it at one input. -/
def uartOrderWrong : ChangeSpec := { name := "uartOrder", fn := fun _ => fun
  | [d] => { results := [.lit (.bool false)], args := [d] }
  | _ => none }
def UartOrderWrongFalsely : Prop := uartOrderRow.holds Try.pinned (OpenSpec.ofChange uartOrderWrong)

/-- 'drawbridgelaw11.UartOut': WHATEVER THE INPUT: true; the input reads as it did. -/
def uartOutSpec : ChangeSpec := { name := "uartOut", fn := fun _ => fun
  | [d1, d2] => { results := [.lit (.bool true)], args := [d1, d2] }
  | _ => none }
def uartOutRow : OpenClaim := { program := "ytegncliegmknaaa", sum := "417ca81509c5e9bba6ab8050b9791da1e2502600098a860debb87f0194527557", func := "drawbridge/drawbridgelaw11.UartOut", spec := "uartOut", apart := false }
def UartOutSaid : Prop := uartOutRow.holds Try.pinned (OpenSpec.ofChange uartOutSpec)

/-- ITS FALSE NEIGHBOUR: 'it returns false'. Refute it at one input. -/
def uartOutWrong : ChangeSpec := { name := "uartOut", fn := fun _ => fun
  | [d1, d2] => { results := [.lit (.bool false)], args := [d1, d2] }
  | _ => none }
def UartOutWrongFalsely : Prop := uartOutRow.holds Try.pinned (OpenSpec.ofChange uartOutWrong)

/- THE SECOND FORM. 'bulk': how many values and letters a reading holds, each counted each time it is reached (what is shared counts as often as it is met; a slice's spare places count too). A statement '..UptoSaid' is the law's where the arguments, and the package variables that the reading takes, are together of bulk at most 1048576: NARROWER than '..Said'. Prove '..Said' where nothing that the law and all that it calls make is longer than what came in: it says more and counts as full. Else prove '..UptoSaid'. A law counts once. -/
mutual
def uptoBulk {H : Type} : DataW H → Nat
  | .lit (.string bytes) => bytes.length + 1
  | .lit _ => 1
  | .nil => 1
  | .ptr d => uptoBulk d + 1
  | .slice elems spare => uptoBulkAll elems + uptoBulkAll spare + 1
  | .agg parts => uptoBulkAll parts + 1
  | .iface _ d => uptoBulk d + 1
  | .map entries => uptoBulkEntries entries + 1
  | .held _ => 1
def uptoBulkAll {H : Type} : List (DataW H) → Nat
  | [] => 0
  | d :: r => uptoBulk d + uptoBulkAll r
def uptoBulkEntries {H : Type} : List (Lit × DataW H) → Nat
  | [] => 0
  | x :: r => uptoBulkEntry x + uptoBulkEntries r
def uptoBulkEntry {H : Type} : Lit × DataW H → Nat
  | (.string bytes, d) => bytes.length + uptoBulk d + 1
  | (_, d) => uptoBulk d + 1
 end
def uptoSmall : (H : Type) → List (DataW H) → Bool := fun _ ds => decide (uptoBulkAll ds ≤ 1048576)
def OpenSpec.upto (s : _root_.Go.ChangeSpec) : _root_.Go.OpenSpec := { _root_.Go.OpenSpec.ofChange s with cond := some uptoSmall }

/-- 'drawbridgelaw11.UartBounds', WHERE WHAT IT READS IS OF BULK AT MOST 1048576: true; the input reads as it did. -/
def uartBoundsUptoRow : OpenClaim := { program := "ytegncliegmknaaa", sum := "417ca81509c5e9bba6ab8050b9791da1e2502600098a860debb87f0194527557", func := "drawbridge/drawbridgelaw11.UartBounds", spec := "uartBounds", apart := false, narrowed := true }
def UartBoundsUptoSaid : Prop := uartBoundsUptoRow.holds Try.pinned (OpenSpec.upto uartBoundsSpec)

/-- 'drawbridgelaw11.UartOrder', WHERE WHAT IT READS IS OF BULK AT MOST 1048576: true; the input reads as it did. -/
def uartOrderUptoRow : OpenClaim := { program := "ytegncliegmknaaa", sum := "417ca81509c5e9bba6ab8050b9791da1e2502600098a860debb87f0194527557", func := "drawbridge/drawbridgelaw11.UartOrder", spec := "uartOrder", apart := false, narrowed := true }
def UartOrderUptoSaid : Prop := uartOrderUptoRow.holds Try.pinned (OpenSpec.upto uartOrderSpec)

/-- 'drawbridgelaw11.UartOut', WHERE WHAT IT READS IS OF BULK AT MOST 1048576: true; the input reads as it did. -/
def uartOutUptoRow : OpenClaim := { program := "ytegncliegmknaaa", sum := "417ca81509c5e9bba6ab8050b9791da1e2502600098a860debb87f0194527557", func := "drawbridge/drawbridgelaw11.UartOut", spec := "uartOut", apart := false, narrowed := true }
def UartOutUptoSaid : Prop := uartOutUptoRow.holds Try.pinned (OpenSpec.upto uartOutSpec)

end Rows
end Go.Proofs.Ytegncliegmknaaa
