/-
  NARROWER THAN 'FOR EVERY INPUT', by the rows' own cells (each row's printed sentence says how): CsrViews: laid · CsrWrites: laid · CsrStays: laid · CsrAgain: laid · CsrGuards: laid.
  DERIVED. THE GIVEN ROWS OF THIS SEAT. 5 by the template 'for every input the law returns true; each argument reads behind the call as it read before'; 0 by the template 'total and deterministic' (their statements: YtpehfmchcjanhaaDoorTotals.lean).
  GIVEN WITH THE SEED: the statements are not yours to turn. If you find one false, say at which input.
  Laid BY PROGRAM, IN A SANDBOX (cutbox-rows.mjs): the forced cells as the released guide's own fill.sh prints them over the translation 7d7fd5de954fcb54… (all of the seat's roots in one cut). By AI agents, Wed Nov 11 2026. No macro, syntax, notation, axiom, sorry.
-/
import Derived.Test.YtpehfmchcjanhaaDoorChecked
import GoSem.Claim
import GoSem.ClaimJoined
import GoSem.ClaimMapViews
import Derived.JoinedTies
import Derived.KernelRfl
namespace Go.Proofs.YtpehfmchcjanhaaDoor
/- THE CELL 'sum', in the pinned program and in every row, IS THE sha256 OF THE DUMP (.gsa) THAT YtpehfmchcjanhaaDoorProg.lean LOADS. Nothing in Lean hashes anything: it is a label: what it is worth is what the hold of that sum in a sandbox is worth. -/
noncomputable def Tryd.pinned : Pinned := { name := "ytpehfmchcjanhaadoor", sum := "7d7fd5de954fcb54852f2dcdc8047ec3f8920683fbe32593acdea4083b1378cb", checked := Tryd.checked }
namespace Rows
def none {H : Type} : Left H := { results := [], args := [] }

/- WHAT THE LISTED PACKAGE-LEVEL VARIABLES READ AS WHEN THE CALL BEGINS. Each datum BY PROGRAM (the guide's laid-datum.mjs) off the statement by which the dump's own 'gosem.cut.vars' lays the variable. In a bare row this is a premise. The card (YtpehfmchcjanhaaDoorCards.lean) ties it to the program's text. -/
def laid_drawbridge_csr_errNone {H : Type} : DataW H := .iface "*errors.errorString" (.ptr (.agg [.lit (.string [116, 104, 101, 114, 101, 32, 105, 115, 32, 110, 111, 32, 115, 117, 99, 104, 32, 114, 101, 103, 105, 115, 116, 101, 114])]))
def laid_drawbridge_csr_errOnlyRead {H : Type} : DataW H := .iface "*errors.errorString" (.ptr (.agg [.lit (.string [105, 116, 32, 105, 115, 32, 111, 110, 108, 121, 32, 114, 101, 97, 100])]))

/-- 'drawbridgelaw05.CsrViews': WHATEVER THE INPUT: true; the input reads as it did. -/
def csrViewsSpec : ChangeSpec := { name := "csrViews", fn := fun _ => fun
  | [d1, d2] => { results := [.lit (.bool true)], args := [d1, d2] }
  | _ => none }
def csrViewsRow : OpenClaim := { program := "ytpehfmchcjanhaadoor", sum := "7d7fd5de954fcb54852f2dcdc8047ec3f8920683fbe32593acdea4083b1378cb", func := "drawbridge/drawbridgelaw05.CsrViews", spec := "csrViews", inPlace := ["internal/reflectlite.TypeOf"], unfollowed := true, recurses := true, named := ["drawbridge/csr.errNone", "drawbridge/csr.errOnlyRead"], apart := false, laid := [("drawbridge/csr.errNone", laid_drawbridge_csr_errNone), ("drawbridge/csr.errOnlyRead", laid_drawbridge_csr_errOnlyRead)] }
def CsrViewsSaid : Prop := csrViewsRow.holds Tryd.pinned (OpenSpec.ofChange csrViewsSpec)

/-- ITS FALSE NEIGHBOUR: 'it returns false'. Refute it at one input. -/
def csrViewsWrong : ChangeSpec := { name := "csrViews", fn := fun _ => fun
  | [d1, d2] => { results := [.lit (.bool false)], args := [d1, d2] }
  | _ => none }
def CsrViewsWrongFalsely : Prop := csrViewsRow.holds Tryd.pinned (OpenSpec.ofChange csrViewsWrong)

/-- 'drawbridgelaw05.CsrWrites': WHATEVER THE INPUT: true; the input reads as it did. -/
def csrWritesSpec : ChangeSpec := { name := "csrWrites", fn := fun _ => fun
  | [d1, d2, d3, d4] => { results := [.lit (.bool true)], args := [d1, d2, d3, d4] }
  | _ => none }
def csrWritesRow : OpenClaim := { program := "ytpehfmchcjanhaadoor", sum := "7d7fd5de954fcb54852f2dcdc8047ec3f8920683fbe32593acdea4083b1378cb", func := "drawbridge/drawbridgelaw05.CsrWrites", spec := "csrWrites", inPlace := ["internal/reflectlite.TypeOf"], unfollowed := true, recurses := true, named := ["drawbridge/csr.errNone", "drawbridge/csr.errOnlyRead"], apart := false, laid := [("drawbridge/csr.errNone", laid_drawbridge_csr_errNone), ("drawbridge/csr.errOnlyRead", laid_drawbridge_csr_errOnlyRead)] }
def CsrWritesSaid : Prop := csrWritesRow.holds Tryd.pinned (OpenSpec.ofChange csrWritesSpec)

/-- ITS FALSE NEIGHBOUR: 'it returns false'. Refute it at one input. -/
def csrWritesWrong : ChangeSpec := { name := "csrWrites", fn := fun _ => fun
  | [d1, d2, d3, d4] => { results := [.lit (.bool false)], args := [d1, d2, d3, d4] }
  | _ => none }
def CsrWritesWrongFalsely : Prop := csrWritesRow.holds Tryd.pinned (OpenSpec.ofChange csrWritesWrong)

/-- 'drawbridgelaw05.CsrStays': WHATEVER THE INPUT: true; the input reads as it did. -/
def csrStaysSpec : ChangeSpec := { name := "csrStays", fn := fun _ => fun
  | [d1, d2, d3, d4] => { results := [.lit (.bool true)], args := [d1, d2, d3, d4] }
  | _ => none }
def csrStaysRow : OpenClaim := { program := "ytpehfmchcjanhaadoor", sum := "7d7fd5de954fcb54852f2dcdc8047ec3f8920683fbe32593acdea4083b1378cb", func := "drawbridge/drawbridgelaw05.CsrStays", spec := "csrStays", inPlace := ["internal/reflectlite.TypeOf"], unfollowed := true, recurses := true, named := ["drawbridge/csr.errNone", "drawbridge/csr.errOnlyRead"], apart := false, laid := [("drawbridge/csr.errNone", laid_drawbridge_csr_errNone), ("drawbridge/csr.errOnlyRead", laid_drawbridge_csr_errOnlyRead)] }
def CsrStaysSaid : Prop := csrStaysRow.holds Tryd.pinned (OpenSpec.ofChange csrStaysSpec)

/-- ITS FALSE NEIGHBOUR: 'it returns false'. Refute it at one input. -/
def csrStaysWrong : ChangeSpec := { name := "csrStays", fn := fun _ => fun
  | [d1, d2, d3, d4] => { results := [.lit (.bool false)], args := [d1, d2, d3, d4] }
  | _ => none }
def CsrStaysWrongFalsely : Prop := csrStaysRow.holds Tryd.pinned (OpenSpec.ofChange csrStaysWrong)

/-- 'drawbridgelaw05.CsrAgain': WHATEVER THE INPUT: true; the input reads as it did. -/
def csrAgainSpec : ChangeSpec := { name := "csrAgain", fn := fun _ => fun
  | [d1, d2, d3, d4] => { results := [.lit (.bool true)], args := [d1, d2, d3, d4] }
  | _ => none }
def csrAgainRow : OpenClaim := { program := "ytpehfmchcjanhaadoor", sum := "7d7fd5de954fcb54852f2dcdc8047ec3f8920683fbe32593acdea4083b1378cb", func := "drawbridge/drawbridgelaw05.CsrAgain", spec := "csrAgain", inPlace := ["internal/reflectlite.TypeOf"], unfollowed := true, recurses := true, named := ["drawbridge/csr.errNone", "drawbridge/csr.errOnlyRead"], apart := false, laid := [("drawbridge/csr.errNone", laid_drawbridge_csr_errNone), ("drawbridge/csr.errOnlyRead", laid_drawbridge_csr_errOnlyRead)] }
def CsrAgainSaid : Prop := csrAgainRow.holds Tryd.pinned (OpenSpec.ofChange csrAgainSpec)

/-- ITS FALSE NEIGHBOUR: 'it returns false'. Refute it at one input. -/
def csrAgainWrong : ChangeSpec := { name := "csrAgain", fn := fun _ => fun
  | [d1, d2, d3, d4] => { results := [.lit (.bool false)], args := [d1, d2, d3, d4] }
  | _ => none }
def CsrAgainWrongFalsely : Prop := csrAgainRow.holds Tryd.pinned (OpenSpec.ofChange csrAgainWrong)

/-- 'drawbridgelaw05.CsrGuards': WHATEVER THE INPUT: true; the input reads as it did. -/
def csrGuardsSpec : ChangeSpec := { name := "csrGuards", fn := fun _ => fun
  | [d1, d2, d3, d4] => { results := [.lit (.bool true)], args := [d1, d2, d3, d4] }
  | _ => none }
def csrGuardsRow : OpenClaim := { program := "ytpehfmchcjanhaadoor", sum := "7d7fd5de954fcb54852f2dcdc8047ec3f8920683fbe32593acdea4083b1378cb", func := "drawbridge/drawbridgelaw05.CsrGuards", spec := "csrGuards", inPlace := ["internal/reflectlite.TypeOf"], unfollowed := true, recurses := true, named := ["drawbridge/csr.errNone", "drawbridge/csr.errOnlyRead"], apart := false, laid := [("drawbridge/csr.errNone", laid_drawbridge_csr_errNone), ("drawbridge/csr.errOnlyRead", laid_drawbridge_csr_errOnlyRead)] }
def CsrGuardsSaid : Prop := csrGuardsRow.holds Tryd.pinned (OpenSpec.ofChange csrGuardsSpec)

/-- ITS FALSE NEIGHBOUR: 'it returns false'. Refute it at one input. -/
def csrGuardsWrong : ChangeSpec := { name := "csrGuards", fn := fun _ => fun
  | [d1, d2, d3, d4] => { results := [.lit (.bool false)], args := [d1, d2, d3, d4] }
  | _ => none }
def CsrGuardsWrongFalsely : Prop := csrGuardsRow.holds Tryd.pinned (OpenSpec.ofChange csrGuardsWrong)

/- THE SECOND FORM. 'bulk': how many values and letters a reading holds, each counted each time it is reached (what is shared counts as often as it is met; a slice's spare places count too). A statement '..UptoSaid' is the law's where the arguments, and the package variables that the reading takes, are together of bulk at most 1048576: NARROWER than '..Said'. Prove '..Said' where nothing that the law and all that it calls make is longer than what came in: it says more and counts as full. Else prove '..UptoSaid'. A law counts once. -/
mutual
def uptoBulk {H : Type} : DataW H → Nat
  | .lit (.string bytes) => bytes.length + 1
  | .lit _ => 1
  | .nil => 1
  | .ptr d => uptoBulk d + 1
  | .slice elems spare => uptoBulkAll elems + uptoBulkAll spare + 1
  | .agg parts => uptoBulkAll parts + 1
  | .iface _ d => uptoBulk d + 1
  | .map entries => uptoBulkEntries entries + 1
  | .held _ => 1
def uptoBulkAll {H : Type} : List (DataW H) → Nat
  | [] => 0
  | d :: r => uptoBulk d + uptoBulkAll r
def uptoBulkEntries {H : Type} : List (Lit × DataW H) → Nat
  | [] => 0
  | x :: r => uptoBulkEntry x + uptoBulkEntries r
def uptoBulkEntry {H : Type} : Lit × DataW H → Nat
  | (.string bytes, d) => bytes.length + uptoBulk d + 1
  | (_, d) => uptoBulk d + 1
 end
def uptoSmall : (H : Type) → List (DataW H) → Bool := fun _ ds => decide (uptoBulkAll ds ≤ 1048576)
def OpenSpec.upto (s : _root_.Go.ChangeSpec) : _root_.Go.OpenSpec := { _root_.Go.OpenSpec.ofChange s with cond := some uptoSmall }

/-- 'drawbridgelaw05.CsrViews', WHERE WHAT IT READS IS OF BULK AT MOST 1048576: true; the input reads as it did. -/
def csrViewsUptoRow : OpenClaim := { program := "ytpehfmchcjanhaadoor", sum := "7d7fd5de954fcb54852f2dcdc8047ec3f8920683fbe32593acdea4083b1378cb", func := "drawbridge/drawbridgelaw05.CsrViews", spec := "csrViews", inPlace := ["internal/reflectlite.TypeOf"], unfollowed := true, recurses := true, named := ["drawbridge/csr.errNone", "drawbridge/csr.errOnlyRead"], apart := false, laid := [("drawbridge/csr.errNone", laid_drawbridge_csr_errNone), ("drawbridge/csr.errOnlyRead", laid_drawbridge_csr_errOnlyRead)], narrowed := true }
def CsrViewsUptoSaid : Prop := csrViewsUptoRow.holds Tryd.pinned (OpenSpec.upto csrViewsSpec)

/-- 'drawbridgelaw05.CsrWrites', WHERE WHAT IT READS IS OF BULK AT MOST 1048576: true; the input reads as it did. -/
def csrWritesUptoRow : OpenClaim := { program := "ytpehfmchcjanhaadoor", sum := "7d7fd5de954fcb54852f2dcdc8047ec3f8920683fbe32593acdea4083b1378cb", func := "drawbridge/drawbridgelaw05.CsrWrites", spec := "csrWrites", inPlace := ["internal/reflectlite.TypeOf"], unfollowed := true, recurses := true, named := ["drawbridge/csr.errNone", "drawbridge/csr.errOnlyRead"], apart := false, laid := [("drawbridge/csr.errNone", laid_drawbridge_csr_errNone), ("drawbridge/csr.errOnlyRead", laid_drawbridge_csr_errOnlyRead)], narrowed := true }
def CsrWritesUptoSaid : Prop := csrWritesUptoRow.holds Tryd.pinned (OpenSpec.upto csrWritesSpec)

/-- 'drawbridgelaw05.CsrStays', WHERE WHAT IT READS IS OF BULK AT MOST 1048576: true; the input reads as it did. -/
def csrStaysUptoRow : OpenClaim := { program := "ytpehfmchcjanhaadoor", sum := "7d7fd5de954fcb54852f2dcdc8047ec3f8920683fbe32593acdea4083b1378cb", func := "drawbridge/drawbridgelaw05.CsrStays", spec := "csrStays", inPlace := ["internal/reflectlite.TypeOf"], unfollowed := true, recurses := true, named := ["drawbridge/csr.errNone", "drawbridge/csr.errOnlyRead"], apart := false, laid := [("drawbridge/csr.errNone", laid_drawbridge_csr_errNone), ("drawbridge/csr.errOnlyRead", laid_drawbridge_csr_errOnlyRead)], narrowed := true }
def CsrStaysUptoSaid : Prop := csrStaysUptoRow.holds Tryd.pinned (OpenSpec.upto csrStaysSpec)

/-- 'drawbridgelaw05.CsrAgain', WHERE WHAT IT READS IS OF BULK AT MOST 1048576: true; the input reads as it did. -/
def csrAgainUptoRow : OpenClaim := { program := "ytpehfmchcjanhaadoor", sum := "7d7fd5de954fcb54852f2dcdc8047ec3f8920683fbe32593acdea4083b1378cb", func := "drawbridge/drawbridgelaw05.CsrAgain", spec := "csrAgain", inPlace := ["internal/reflectlite.TypeOf"], unfollowed := true, recurses := true, named := ["drawbridge/csr.errNone", "drawbridge/csr.errOnlyRead"], apart := false, laid := [("drawbridge/csr.errNone", laid_drawbridge_csr_errNone), ("drawbridge/csr.errOnlyRead", laid_drawbridge_csr_errOnlyRead)], narrowed := true }
def CsrAgainUptoSaid : Prop := csrAgainUptoRow.holds Tryd.pinned (OpenSpec.upto csrAgainSpec)

/-- 'drawbridgelaw05.CsrGuards', WHERE WHAT IT READS IS OF BULK AT MOST 1048576: true; the input reads as it did. -/
def csrGuardsUptoRow : OpenClaim := { program := "ytpehfmchcjanhaadoor", sum := "7d7fd5de954fcb54852f2dcdc8047ec3f8920683fbe32593acdea4083b1378cb", func := "drawbridge/drawbridgelaw05.CsrGuards", spec := "csrGuards", inPlace := ["internal/reflectlite.TypeOf"], unfollowed := true, recurses := true, named := ["drawbridge/csr.errNone", "drawbridge/csr.errOnlyRead"], apart := false, laid := [("drawbridge/csr.errNone", laid_drawbridge_csr_errNone), ("drawbridge/csr.errOnlyRead", laid_drawbridge_csr_errOnlyRead)], narrowed := true }
def CsrGuardsUptoSaid : Prop := csrGuardsUptoRow.holds Tryd.pinned (OpenSpec.upto csrGuardsSpec)

end Rows
end Go.Proofs.YtpehfmchcjanhaaDoor
