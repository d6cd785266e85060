/-
  NARROWER THAN 'FOR EVERY INPUT', by the rows' own cells (each row's printed sentence says how): TrapFirst: laid · TrapEnters: laid · TrapReturns: laid · TrapBack: laid · TrapLess: laid.
  DERIVED. THE GIVEN ROWS OF THIS SEAT. 5 by the template 'for every input the law returns true; each argument reads behind the call as it read before'; 0 by the template 'total and deterministic' (their statements: YtbkbbcfhmjodlaaDoorTotals.lean).
  GIVEN WITH THE SEED: the statements are not yours to turn. If you find one false, say at which input.
  Laid BY PROGRAM, IN A SANDBOX (cutbox-rows.mjs): the forced cells as the released guide's own fill.sh prints them over the translation 5f177de151ade1af… (all of the seat's roots in one cut). By AI agents, Wed Nov 11 2026. No macro, syntax, notation, axiom, sorry.
-/
import Derived.Test.YtbkbbcfhmjodlaaDoorChecked
import GoSem.Claim
import GoSem.ClaimJoined
import GoSem.ClaimMapViews
import Derived.JoinedTies
import Derived.KernelRfl
namespace Go.Proofs.YtbkbbcfhmjodlaaDoor
/- THE CELL 'sum', in the pinned program and in every row, IS THE sha256 OF THE DUMP (.gsa) THAT YtbkbbcfhmjodlaaDoorProg.lean LOADS. Nothing in Lean hashes anything: it is a label: what it is worth is what the hold of that sum in a sandbox is worth. -/
noncomputable def Tryd.pinned : Pinned := { name := "ytbkbbcfhmjodlaadoor", sum := "5f177de151ade1afb6b1c2184bc2169874a023ca06224362f4e5fdb78c1a5317", checked := Tryd.checked }
namespace Rows
def none {H : Type} : Left H := { results := [], args := [] }

/- WHAT THE LISTED PACKAGE-LEVEL VARIABLES READ AS WHEN THE CALL BEGINS. Each datum BY PROGRAM (the guide's laid-datum.mjs) off the statement by which the dump's own 'gosem.cut.vars' lays the variable. In a bare row this is a premise. The card (YtbkbbcfhmjodlaaDoorCards.lean) ties it to the program's text. -/
def laid_drawbridge_trap_order {H : Type} : DataW H := .agg [.lit (.int .i64 11), .lit (.int .i64 3), .lit (.int .i64 7), .lit (.int .i64 9), .lit (.int .i64 1), .lit (.int .i64 5)]

/-- 'drawbridgelaw06.TrapFirst': WHATEVER THE INPUT: true; the input reads as it did. -/
def trapFirstSpec : ChangeSpec := { name := "trapFirst", fn := fun _ => fun
  | [d1, d2] => { results := [.lit (.bool true)], args := [d1, d2] }
  | _ => none }
def trapFirstRow : OpenClaim := { program := "ytbkbbcfhmjodlaadoor", sum := "5f177de151ade1afb6b1c2184bc2169874a023ca06224362f4e5fdb78c1a5317", func := "drawbridge/drawbridgelaw06.TrapFirst", spec := "trapFirst", unfollowed := true, recurses := true, named := ["drawbridge/trap.order"], apart := false, laid := [("drawbridge/trap.order", laid_drawbridge_trap_order)] }
def TrapFirstSaid : Prop := trapFirstRow.holds Tryd.pinned (OpenSpec.ofChange trapFirstSpec)

/-- ITS FALSE NEIGHBOUR: 'it returns false'. Refute it at one input. -/
def trapFirstWrong : ChangeSpec := { name := "trapFirst", fn := fun _ => fun
  | [d1, d2] => { results := [.lit (.bool false)], args := [d1, d2] }
  | _ => none }
def TrapFirstWrongFalsely : Prop := trapFirstRow.holds Tryd.pinned (OpenSpec.ofChange trapFirstWrong)

/-- 'drawbridgelaw06.TrapEnters': WHATEVER THE INPUT: true; the input reads as it did. -/
def trapEntersSpec : ChangeSpec := { name := "trapEnters", fn := fun _ => fun
  | [d1, d2, d3, d4, d5, d6] => { results := [.lit (.bool true)], args := [d1, d2, d3, d4, d5, d6] }
  | _ => none }
def trapEntersRow : OpenClaim := { program := "ytbkbbcfhmjodlaadoor", sum := "5f177de151ade1afb6b1c2184bc2169874a023ca06224362f4e5fdb78c1a5317", func := "drawbridge/drawbridgelaw06.TrapEnters", spec := "trapEnters", unfollowed := true, recurses := true, named := ["drawbridge/trap.order"], apart := false, laid := [("drawbridge/trap.order", laid_drawbridge_trap_order)] }
def TrapEntersSaid : Prop := trapEntersRow.holds Tryd.pinned (OpenSpec.ofChange trapEntersSpec)

/-- ITS FALSE NEIGHBOUR: 'it returns false'. Refute it at one input. -/
def trapEntersWrong : ChangeSpec := { name := "trapEnters", fn := fun _ => fun
  | [d1, d2, d3, d4, d5, d6] => { results := [.lit (.bool false)], args := [d1, d2, d3, d4, d5, d6] }
  | _ => none }
def TrapEntersWrongFalsely : Prop := trapEntersRow.holds Tryd.pinned (OpenSpec.ofChange trapEntersWrong)

/-- 'drawbridgelaw06.TrapReturns': WHATEVER THE INPUT: true; the input reads as it did. -/
def trapReturnsSpec : ChangeSpec := { name := "trapReturns", fn := fun _ => fun
  | [d1, d2] => { results := [.lit (.bool true)], args := [d1, d2] }
  | _ => none }
def trapReturnsRow : OpenClaim := { program := "ytbkbbcfhmjodlaadoor", sum := "5f177de151ade1afb6b1c2184bc2169874a023ca06224362f4e5fdb78c1a5317", func := "drawbridge/drawbridgelaw06.TrapReturns", spec := "trapReturns", unfollowed := true, recurses := true, named := ["drawbridge/trap.order"], apart := false, laid := [("drawbridge/trap.order", laid_drawbridge_trap_order)] }
def TrapReturnsSaid : Prop := trapReturnsRow.holds Tryd.pinned (OpenSpec.ofChange trapReturnsSpec)

/-- ITS FALSE NEIGHBOUR: 'it returns false'. Refute it at one input. -/
def trapReturnsWrong : ChangeSpec := { name := "trapReturns", fn := fun _ => fun
  | [d1, d2] => { results := [.lit (.bool false)], args := [d1, d2] }
  | _ => none }
def TrapReturnsWrongFalsely : Prop := trapReturnsRow.holds Tryd.pinned (OpenSpec.ofChange trapReturnsWrong)

/-- 'drawbridgelaw06.TrapBack': WHATEVER THE INPUT: true; the input reads as it did. -/
def trapBackSpec : ChangeSpec := { name := "trapBack", fn := fun _ => fun
  | [d1, d2, d3, d4, d5] => { results := [.lit (.bool true)], args := [d1, d2, d3, d4, d5] }
  | _ => none }
def trapBackRow : OpenClaim := { program := "ytbkbbcfhmjodlaadoor", sum := "5f177de151ade1afb6b1c2184bc2169874a023ca06224362f4e5fdb78c1a5317", func := "drawbridge/drawbridgelaw06.TrapBack", spec := "trapBack", unfollowed := true, recurses := true, named := ["drawbridge/trap.order"], apart := false, laid := [("drawbridge/trap.order", laid_drawbridge_trap_order)] }
def TrapBackSaid : Prop := trapBackRow.holds Tryd.pinned (OpenSpec.ofChange trapBackSpec)

/-- ITS FALSE NEIGHBOUR: 'it returns false'. Refute it at one input. -/
def trapBackWrong : ChangeSpec := { name := "trapBack", fn := fun _ => fun
  | [d1, d2, d3, d4, d5] => { results := [.lit (.bool false)], args := [d1, d2, d3, d4, d5] }
  | _ => none }
def TrapBackWrongFalsely : Prop := trapBackRow.holds Tryd.pinned (OpenSpec.ofChange trapBackWrong)

/-- 'drawbridgelaw06.TrapLess': WHATEVER THE INPUT: true; the input reads as it did. -/
def trapLessSpec : ChangeSpec := { name := "trapLess", fn := fun _ => fun
  | [d1, d2] => { results := [.lit (.bool true)], args := [d1, d2] }
  | _ => none }
def trapLessRow : OpenClaim := { program := "ytbkbbcfhmjodlaadoor", sum := "5f177de151ade1afb6b1c2184bc2169874a023ca06224362f4e5fdb78c1a5317", func := "drawbridge/drawbridgelaw06.TrapLess", spec := "trapLess", unfollowed := true, recurses := true, named := ["drawbridge/trap.order"], apart := false, laid := [("drawbridge/trap.order", laid_drawbridge_trap_order)] }
def TrapLessSaid : Prop := trapLessRow.holds Tryd.pinned (OpenSpec.ofChange trapLessSpec)

/-- ITS FALSE NEIGHBOUR: 'it returns false'. Refute it at one input. -/
def trapLessWrong : ChangeSpec := { name := "trapLess", fn := fun _ => fun
  | [d1, d2] => { results := [.lit (.bool false)], args := [d1, d2] }
  | _ => none }
def TrapLessWrongFalsely : Prop := trapLessRow.holds Tryd.pinned (OpenSpec.ofChange trapLessWrong)

/- THE SECOND FORM. 'bulk': how many values and letters a reading holds, each counted each time it is reached (what is shared counts as often as it is met; a slice's spare places count too). A statement '..UptoSaid' is the law's where the arguments, and the package variables that the reading takes, are together of bulk at most 1048576: NARROWER than '..Said'. Prove '..Said' where nothing that the law and all that it calls make is longer than what came in: it says more and counts as full. Else prove '..UptoSaid'. A law counts once. -/
mutual
def uptoBulk {H : Type} : DataW H → Nat
  | .lit (.string bytes) => bytes.length + 1
  | .lit _ => 1
  | .nil => 1
  | .ptr d => uptoBulk d + 1
  | .slice elems spare => uptoBulkAll elems + uptoBulkAll spare + 1
  | .agg parts => uptoBulkAll parts + 1
  | .iface _ d => uptoBulk d + 1
  | .map entries => uptoBulkEntries entries + 1
  | .held _ => 1
def uptoBulkAll {H : Type} : List (DataW H) → Nat
  | [] => 0
  | d :: r => uptoBulk d + uptoBulkAll r
def uptoBulkEntries {H : Type} : List (Lit × DataW H) → Nat
  | [] => 0
  | x :: r => uptoBulkEntry x + uptoBulkEntries r
def uptoBulkEntry {H : Type} : Lit × DataW H → Nat
  | (.string bytes, d) => bytes.length + uptoBulk d + 1
  | (_, d) => uptoBulk d + 1
 end
def uptoSmall : (H : Type) → List (DataW H) → Bool := fun _ ds => decide (uptoBulkAll ds ≤ 1048576)
def OpenSpec.upto (s : _root_.Go.ChangeSpec) : _root_.Go.OpenSpec := { _root_.Go.OpenSpec.ofChange s with cond := some uptoSmall }

/-- 'drawbridgelaw06.TrapFirst', WHERE WHAT IT READS IS OF BULK AT MOST 1048576: true; the input reads as it did. -/
def trapFirstUptoRow : OpenClaim := { program := "ytbkbbcfhmjodlaadoor", sum := "5f177de151ade1afb6b1c2184bc2169874a023ca06224362f4e5fdb78c1a5317", func := "drawbridge/drawbridgelaw06.TrapFirst", spec := "trapFirst", unfollowed := true, recurses := true, named := ["drawbridge/trap.order"], apart := false, laid := [("drawbridge/trap.order", laid_drawbridge_trap_order)], narrowed := true }
def TrapFirstUptoSaid : Prop := trapFirstUptoRow.holds Tryd.pinned (OpenSpec.upto trapFirstSpec)

/-- 'drawbridgelaw06.TrapEnters', WHERE WHAT IT READS IS OF BULK AT MOST 1048576: true; the input reads as it did. -/
def trapEntersUptoRow : OpenClaim := { program := "ytbkbbcfhmjodlaadoor", sum := "5f177de151ade1afb6b1c2184bc2169874a023ca06224362f4e5fdb78c1a5317", func := "drawbridge/drawbridgelaw06.TrapEnters", spec := "trapEnters", unfollowed := true, recurses := true, named := ["drawbridge/trap.order"], apart := false, laid := [("drawbridge/trap.order", laid_drawbridge_trap_order)], narrowed := true }
def TrapEntersUptoSaid : Prop := trapEntersUptoRow.holds Tryd.pinned (OpenSpec.upto trapEntersSpec)

/-- 'drawbridgelaw06.TrapReturns', WHERE WHAT IT READS IS OF BULK AT MOST 1048576: true; the input reads as it did. -/
def trapReturnsUptoRow : OpenClaim := { program := "ytbkbbcfhmjodlaadoor", sum := "5f177de151ade1afb6b1c2184bc2169874a023ca06224362f4e5fdb78c1a5317", func := "drawbridge/drawbridgelaw06.TrapReturns", spec := "trapReturns", unfollowed := true, recurses := true, named := ["drawbridge/trap.order"], apart := false, laid := [("drawbridge/trap.order", laid_drawbridge_trap_order)], narrowed := true }
def TrapReturnsUptoSaid : Prop := trapReturnsUptoRow.holds Tryd.pinned (OpenSpec.upto trapReturnsSpec)

/-- 'drawbridgelaw06.TrapBack', WHERE WHAT IT READS IS OF BULK AT MOST 1048576: true; the input reads as it did. -/
def trapBackUptoRow : OpenClaim := { program := "ytbkbbcfhmjodlaadoor", sum := "5f177de151ade1afb6b1c2184bc2169874a023ca06224362f4e5fdb78c1a5317", func := "drawbridge/drawbridgelaw06.TrapBack", spec := "trapBack", unfollowed := true, recurses := true, named := ["drawbridge/trap.order"], apart := false, laid := [("drawbridge/trap.order", laid_drawbridge_trap_order)], narrowed := true }
def TrapBackUptoSaid : Prop := trapBackUptoRow.holds Tryd.pinned (OpenSpec.upto trapBackSpec)

/-- 'drawbridgelaw06.TrapLess', WHERE WHAT IT READS IS OF BULK AT MOST 1048576: true; the input reads as it did. -/
def trapLessUptoRow : OpenClaim := { program := "ytbkbbcfhmjodlaadoor", sum := "5f177de151ade1afb6b1c2184bc2169874a023ca06224362f4e5fdb78c1a5317", func := "drawbridge/drawbridgelaw06.TrapLess", spec := "trapLess", unfollowed := true, recurses := true, named := ["drawbridge/trap.order"], apart := false, laid := [("drawbridge/trap.order", laid_drawbridge_trap_order)], narrowed := true }
def TrapLessUptoSaid : Prop := trapLessUptoRow.holds Tryd.pinned (OpenSpec.upto trapLessSpec)

end Rows
end Go.Proofs.YtbkbbcfhmjodlaaDoor
