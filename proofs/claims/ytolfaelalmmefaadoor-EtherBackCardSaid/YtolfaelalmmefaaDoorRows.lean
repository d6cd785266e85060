/-
  NARROWER THAN 'FOR EVERY INPUT', by the rows' own cells (each row's printed sentence says how): EtherAgain: laid · EtherTells: laid · EtherArps: laid · EtherBack: laid · EtherAnswers: laid.
  DERIVED. THE GIVEN ROWS OF THIS SEAT. 5 by the template 'for every input the law returns true; each argument reads behind the call as it read before'; 0 by the template 'total and deterministic' (their statements: YtolfaelalmmefaaDoorTotals.lean).
  GIVEN WITH THE SEED: the statements are not yours to turn. If you find one false, say at which input.
  Laid BY PROGRAM, IN A SANDBOX (cutbox-rows.mjs): the forced cells as the released guide's own fill.sh prints them over the translation c100e4b52592a439… (all of the seat's roots in one cut). By AI agents, Wed Nov 11 2026. No macro, syntax, notation, axiom, sorry.
-/
import Derived.Test.YtolfaelalmmefaaDoorChecked
import GoSem.Claim
import GoSem.ClaimJoined
import GoSem.ClaimMapViews
import Derived.JoinedTies
import Derived.KernelRfl
namespace Go.Proofs.YtolfaelalmmefaaDoor
/- THE CELL 'sum', in the pinned program and in every row, IS THE sha256 OF THE DUMP (.gsa) THAT YtolfaelalmmefaaDoorProg.lean LOADS. Nothing in Lean hashes anything: it is a label: what it is worth is what the hold of that sum in a sandbox is worth. -/
noncomputable def Tryd.pinned : Pinned := { name := "ytolfaelalmmefaadoor", sum := "c100e4b52592a4394d46a70c9254af8ef8914fc301b5ceed9b1b99d3b1ad6e1b", checked := Tryd.checked }
namespace Rows
def none {H : Type} : Left H := { results := [], args := [] }

/- WHAT THE LISTED PACKAGE-LEVEL VARIABLES READ AS WHEN THE CALL BEGINS. Each datum BY PROGRAM (the guide's laid-datum.mjs) off the statement by which the dump's own 'gosem.cut.vars' lays the variable. In a bare row this is a premise. The card (YtolfaelalmmefaaDoorCards.lean) ties it to the program's text. -/
def laid_drawbridge_ether_errShort {H : Type} : DataW H := .iface "*errors.errorString" (.ptr (.agg [.lit (.string [116, 104, 101, 121, 32, 97, 114, 101, 32, 116, 111, 111, 32, 102, 101, 119])]))
def laid_drawbridge_ether_errLong {H : Type} : DataW H := .iface "*errors.errorString" (.ptr (.agg [.lit (.string [116, 104, 101, 121, 32, 97, 114, 101, 32, 116, 111, 111, 32, 109, 97, 110, 121])]))
def laid_drawbridge_ether_errOther {H : Type} : DataW H := .iface "*errors.errorString" (.ptr (.agg [.lit (.string [116, 104, 101, 121, 32, 97, 114, 101, 32, 111, 102, 32, 97, 110, 111, 116, 104, 101, 114, 32, 102, 111, 114, 109])]))

/-- 'drawbridgelaw16.EtherAgain': WHATEVER THE INPUT: true; the input reads as it did. -/
def etherAgainSpec : ChangeSpec := { name := "etherAgain", fn := fun _ => fun
  | [d] => { results := [.lit (.bool true)], args := [d] }
  | _ => none }
def etherAgainRow : OpenClaim := { program := "ytolfaelalmmefaadoor", sum := "c100e4b52592a4394d46a70c9254af8ef8914fc301b5ceed9b1b99d3b1ad6e1b", func := "drawbridge/drawbridgelaw16.EtherAgain", spec := "etherAgain", inPlace := ["internal/reflectlite.TypeOf"], unfollowed := true, recurses := true, named := ["drawbridge/ether.errShort", "drawbridge/ether.errLong", "drawbridge/ether.errOther"], apart := false, laid := [("drawbridge/ether.errShort", laid_drawbridge_ether_errShort), ("drawbridge/ether.errLong", laid_drawbridge_ether_errLong), ("drawbridge/ether.errOther", laid_drawbridge_ether_errOther)] }
def EtherAgainSaid : Prop := etherAgainRow.holds Tryd.pinned (OpenSpec.ofChange etherAgainSpec)

/-- ITS FALSE NEIGHBOUR: 'it returns false'. Refute it at one input. -/
def etherAgainWrong : ChangeSpec := { name := "etherAgain", fn := fun _ => fun
  | [d] => { results := [.lit (.bool false)], args := [d] }
  | _ => none }
def EtherAgainWrongFalsely : Prop := etherAgainRow.holds Tryd.pinned (OpenSpec.ofChange etherAgainWrong)

/-- 'drawbridgelaw16.EtherTells': WHATEVER THE INPUT: true; the input reads as it did. -/
def etherTellsSpec : ChangeSpec := { name := "etherTells", fn := fun _ => fun
  | [d1, d2] => { results := [.lit (.bool true)], args := [d1, d2] }
  | _ => none }
def etherTellsRow : OpenClaim := { program := "ytolfaelalmmefaadoor", sum := "c100e4b52592a4394d46a70c9254af8ef8914fc301b5ceed9b1b99d3b1ad6e1b", func := "drawbridge/drawbridgelaw16.EtherTells", spec := "etherTells", inPlace := ["internal/reflectlite.TypeOf"], unfollowed := true, recurses := true, named := ["drawbridge/ether.errShort", "drawbridge/ether.errLong", "drawbridge/ether.errOther"], apart := false, laid := [("drawbridge/ether.errShort", laid_drawbridge_ether_errShort), ("drawbridge/ether.errLong", laid_drawbridge_ether_errLong), ("drawbridge/ether.errOther", laid_drawbridge_ether_errOther)] }
def EtherTellsSaid : Prop := etherTellsRow.holds Tryd.pinned (OpenSpec.ofChange etherTellsSpec)

/-- ITS FALSE NEIGHBOUR: 'it returns false'. Refute it at one input. -/
def etherTellsWrong : ChangeSpec := { name := "etherTells", fn := fun _ => fun
  | [d1, d2] => { results := [.lit (.bool false)], args := [d1, d2] }
  | _ => none }
def EtherTellsWrongFalsely : Prop := etherTellsRow.holds Tryd.pinned (OpenSpec.ofChange etherTellsWrong)

/-- 'drawbridgelaw16.EtherArps': WHATEVER THE INPUT: true; the input reads as it did. -/
def etherArpsSpec : ChangeSpec := { name := "etherArps", fn := fun _ => fun
  | [d1, d2, d3, d4] => { results := [.lit (.bool true)], args := [d1, d2, d3, d4] }
  | _ => none }
def etherArpsRow : OpenClaim := { program := "ytolfaelalmmefaadoor", sum := "c100e4b52592a4394d46a70c9254af8ef8914fc301b5ceed9b1b99d3b1ad6e1b", func := "drawbridge/drawbridgelaw16.EtherArps", spec := "etherArps", inPlace := ["internal/reflectlite.TypeOf"], unfollowed := true, recurses := true, named := ["drawbridge/ether.errShort", "drawbridge/ether.errLong", "drawbridge/ether.errOther"], apart := false, laid := [("drawbridge/ether.errShort", laid_drawbridge_ether_errShort), ("drawbridge/ether.errLong", laid_drawbridge_ether_errLong), ("drawbridge/ether.errOther", laid_drawbridge_ether_errOther)] }
def EtherArpsSaid : Prop := etherArpsRow.holds Tryd.pinned (OpenSpec.ofChange etherArpsSpec)

/-- ITS FALSE NEIGHBOUR: 'it returns false'. Refute it at one input. -/
def etherArpsWrong : ChangeSpec := { name := "etherArps", fn := fun _ => fun
  | [d1, d2, d3, d4] => { results := [.lit (.bool false)], args := [d1, d2, d3, d4] }
  | _ => none }
def EtherArpsWrongFalsely : Prop := etherArpsRow.holds Tryd.pinned (OpenSpec.ofChange etherArpsWrong)

/-- 'drawbridgelaw16.EtherBack': WHATEVER THE INPUT: true; the input reads as it did. -/
def etherBackSpec : ChangeSpec := { name := "etherBack", fn := fun _ => fun
  | [d1, d2, d3] => { results := [.lit (.bool true)], args := [d1, d2, d3] }
  | _ => none }
def etherBackRow : OpenClaim := { program := "ytolfaelalmmefaadoor", sum := "c100e4b52592a4394d46a70c9254af8ef8914fc301b5ceed9b1b99d3b1ad6e1b", func := "drawbridge/drawbridgelaw16.EtherBack", spec := "etherBack", inPlace := ["internal/reflectlite.TypeOf"], unfollowed := true, recurses := true, named := ["drawbridge/ether.errShort", "drawbridge/ether.errLong", "drawbridge/ether.errOther"], apart := false, laid := [("drawbridge/ether.errShort", laid_drawbridge_ether_errShort), ("drawbridge/ether.errLong", laid_drawbridge_ether_errLong), ("drawbridge/ether.errOther", laid_drawbridge_ether_errOther)] }
def EtherBackSaid : Prop := etherBackRow.holds Tryd.pinned (OpenSpec.ofChange etherBackSpec)

/-- ITS FALSE NEIGHBOUR: 'it returns false'. Refute it at one input. -/
def etherBackWrong : ChangeSpec := { name := "etherBack", fn := fun _ => fun
  | [d1, d2, d3] => { results := [.lit (.bool false)], args := [d1, d2, d3] }
  | _ => none }
def EtherBackWrongFalsely : Prop := etherBackRow.holds Tryd.pinned (OpenSpec.ofChange etherBackWrong)

/-- 'drawbridgelaw16.EtherAnswers': WHATEVER THE INPUT: true; the input reads as it did. -/
def etherAnswersSpec : ChangeSpec := { name := "etherAnswers", fn := fun _ => fun
  | [d1, d2, d3] => { results := [.lit (.bool true)], args := [d1, d2, d3] }
  | _ => none }
def etherAnswersRow : OpenClaim := { program := "ytolfaelalmmefaadoor", sum := "c100e4b52592a4394d46a70c9254af8ef8914fc301b5ceed9b1b99d3b1ad6e1b", func := "drawbridge/drawbridgelaw16.EtherAnswers", spec := "etherAnswers", inPlace := ["internal/reflectlite.TypeOf"], unfollowed := true, recurses := true, named := ["drawbridge/ether.errShort", "drawbridge/ether.errLong", "drawbridge/ether.errOther"], apart := false, laid := [("drawbridge/ether.errShort", laid_drawbridge_ether_errShort), ("drawbridge/ether.errLong", laid_drawbridge_ether_errLong), ("drawbridge/ether.errOther", laid_drawbridge_ether_errOther)] }
def EtherAnswersSaid : Prop := etherAnswersRow.holds Tryd.pinned (OpenSpec.ofChange etherAnswersSpec)

/-- ITS FALSE NEIGHBOUR: 'it returns false'. Refute it at one input. -/
def etherAnswersWrong : ChangeSpec := { name := "etherAnswers", fn := fun _ => fun
  | [d1, d2, d3] => { results := [.lit (.bool false)], args := [d1, d2, d3] }
  | _ => none }
def EtherAnswersWrongFalsely : Prop := etherAnswersRow.holds Tryd.pinned (OpenSpec.ofChange etherAnswersWrong)

/- THE SECOND FORM. 'bulk': how many values and letters a reading holds, each counted each time it is reached (what is shared counts as often as it is met; a slice's spare places count too). A statement '..UptoSaid' is the law's where the arguments, and the package variables that the reading takes, are together of bulk at most 1048576: NARROWER than '..Said'. Prove '..Said' where nothing that the law and all that it calls make is longer than what came in: it says more and counts as full. Else prove '..UptoSaid'. A law counts once. -/
mutual
def uptoBulk {H : Type} : DataW H → Nat
  | .lit (.string bytes) => bytes.length + 1
  | .lit _ => 1
  | .nil => 1
  | .ptr d => uptoBulk d + 1
  | .slice elems spare => uptoBulkAll elems + uptoBulkAll spare + 1
  | .agg parts => uptoBulkAll parts + 1
  | .iface _ d => uptoBulk d + 1
  | .map entries => uptoBulkEntries entries + 1
  | .held _ => 1
def uptoBulkAll {H : Type} : List (DataW H) → Nat
  | [] => 0
  | d :: r => uptoBulk d + uptoBulkAll r
def uptoBulkEntries {H : Type} : List (Lit × DataW H) → Nat
  | [] => 0
  | x :: r => uptoBulkEntry x + uptoBulkEntries r
def uptoBulkEntry {H : Type} : Lit × DataW H → Nat
  | (.string bytes, d) => bytes.length + uptoBulk d + 1
  | (_, d) => uptoBulk d + 1
 end
def uptoSmall : (H : Type) → List (DataW H) → Bool := fun _ ds => decide (uptoBulkAll ds ≤ 1048576)
def OpenSpec.upto (s : _root_.Go.ChangeSpec) : _root_.Go.OpenSpec := { _root_.Go.OpenSpec.ofChange s with cond := some uptoSmall }

/-- 'drawbridgelaw16.EtherAgain', WHERE WHAT IT READS IS OF BULK AT MOST 1048576: true; the input reads as it did. -/
def etherAgainUptoRow : OpenClaim := { program := "ytolfaelalmmefaadoor", sum := "c100e4b52592a4394d46a70c9254af8ef8914fc301b5ceed9b1b99d3b1ad6e1b", func := "drawbridge/drawbridgelaw16.EtherAgain", spec := "etherAgain", inPlace := ["internal/reflectlite.TypeOf"], unfollowed := true, recurses := true, named := ["drawbridge/ether.errShort", "drawbridge/ether.errLong", "drawbridge/ether.errOther"], apart := false, laid := [("drawbridge/ether.errShort", laid_drawbridge_ether_errShort), ("drawbridge/ether.errLong", laid_drawbridge_ether_errLong), ("drawbridge/ether.errOther", laid_drawbridge_ether_errOther)], narrowed := true }
def EtherAgainUptoSaid : Prop := etherAgainUptoRow.holds Tryd.pinned (OpenSpec.upto etherAgainSpec)

/-- 'drawbridgelaw16.EtherTells', WHERE WHAT IT READS IS OF BULK AT MOST 1048576: true; the input reads as it did. -/
def etherTellsUptoRow : OpenClaim := { program := "ytolfaelalmmefaadoor", sum := "c100e4b52592a4394d46a70c9254af8ef8914fc301b5ceed9b1b99d3b1ad6e1b", func := "drawbridge/drawbridgelaw16.EtherTells", spec := "etherTells", inPlace := ["internal/reflectlite.TypeOf"], unfollowed := true, recurses := true, named := ["drawbridge/ether.errShort", "drawbridge/ether.errLong", "drawbridge/ether.errOther"], apart := false, laid := [("drawbridge/ether.errShort", laid_drawbridge_ether_errShort), ("drawbridge/ether.errLong", laid_drawbridge_ether_errLong), ("drawbridge/ether.errOther", laid_drawbridge_ether_errOther)], narrowed := true }
def EtherTellsUptoSaid : Prop := etherTellsUptoRow.holds Tryd.pinned (OpenSpec.upto etherTellsSpec)

/-- 'drawbridgelaw16.EtherArps', WHERE WHAT IT READS IS OF BULK AT MOST 1048576: true; the input reads as it did. -/
def etherArpsUptoRow : OpenClaim := { program := "ytolfaelalmmefaadoor", sum := "c100e4b52592a4394d46a70c9254af8ef8914fc301b5ceed9b1b99d3b1ad6e1b", func := "drawbridge/drawbridgelaw16.EtherArps", spec := "etherArps", inPlace := ["internal/reflectlite.TypeOf"], unfollowed := true, recurses := true, named := ["drawbridge/ether.errShort", "drawbridge/ether.errLong", "drawbridge/ether.errOther"], apart := false, laid := [("drawbridge/ether.errShort", laid_drawbridge_ether_errShort), ("drawbridge/ether.errLong", laid_drawbridge_ether_errLong), ("drawbridge/ether.errOther", laid_drawbridge_ether_errOther)], narrowed := true }
def EtherArpsUptoSaid : Prop := etherArpsUptoRow.holds Tryd.pinned (OpenSpec.upto etherArpsSpec)

/-- 'drawbridgelaw16.EtherBack', WHERE WHAT IT READS IS OF BULK AT MOST 1048576: true; the input reads as it did. -/
def etherBackUptoRow : OpenClaim := { program := "ytolfaelalmmefaadoor", sum := "c100e4b52592a4394d46a70c9254af8ef8914fc301b5ceed9b1b99d3b1ad6e1b", func := "drawbridge/drawbridgelaw16.EtherBack", spec := "etherBack", inPlace := ["internal/reflectlite.TypeOf"], unfollowed := true, recurses := true, named := ["drawbridge/ether.errShort", "drawbridge/ether.errLong", "drawbridge/ether.errOther"], apart := false, laid := [("drawbridge/ether.errShort", laid_drawbridge_ether_errShort), ("drawbridge/ether.errLong", laid_drawbridge_ether_errLong), ("drawbridge/ether.errOther", laid_drawbridge_ether_errOther)], narrowed := true }
def EtherBackUptoSaid : Prop := etherBackUptoRow.holds Tryd.pinned (OpenSpec.upto etherBackSpec)

/-- 'drawbridgelaw16.EtherAnswers', WHERE WHAT IT READS IS OF BULK AT MOST 1048576: true; the input reads as it did. -/
def etherAnswersUptoRow : OpenClaim := { program := "ytolfaelalmmefaadoor", sum := "c100e4b52592a4394d46a70c9254af8ef8914fc301b5ceed9b1b99d3b1ad6e1b", func := "drawbridge/drawbridgelaw16.EtherAnswers", spec := "etherAnswers", inPlace := ["internal/reflectlite.TypeOf"], unfollowed := true, recurses := true, named := ["drawbridge/ether.errShort", "drawbridge/ether.errLong", "drawbridge/ether.errOther"], apart := false, laid := [("drawbridge/ether.errShort", laid_drawbridge_ether_errShort), ("drawbridge/ether.errLong", laid_drawbridge_ether_errLong), ("drawbridge/ether.errOther", laid_drawbridge_ether_errOther)], narrowed := true }
def EtherAnswersUptoSaid : Prop := etherAnswersUptoRow.holds Tryd.pinned (OpenSpec.upto etherAnswersSpec)

end Rows
end Go.Proofs.YtolfaelalmmefaaDoor
