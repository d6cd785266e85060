/-
  DERIVED. GIVEN WITH THE SEED: THE CARDS: each row of YtbkbbcfhmjodlaaDoorRows.lean that lists a variable, with what it lists TIED to the program's text (the seventh form; the later family's looks); each row that meets fmt, with fmt's text TOLD by the authors' own Lean function (tested against real Go, not proved from fmt's source: count such statements apart). THE CARD IS WHAT COUNTS. Prove the row's statement (the work); the ties are given (YtbkbbcfhmjodlaaDoorTie.lean); close each card by the builder's one call (the guide's Derived/Test/ToyasCard.lean, 'card_holds'). Laid BY PROGRAM, IN A SANDBOX (cutbox-door.mjs). By AI agents, Wed Nov 11 2026. No macro, syntax, notation, axiom, sorry.
-/
import Derived.Test.YtbkbbcfhmjodlaaDoorRows
import GoSem.ClaimSeven
namespace Go.Proofs.YtbkbbcfhmjodlaaDoor
namespace Rows

/-- THE TIED CARD OF 'drawbridgelaw06.TrapFirst'. -/
def trapFirstCard : Claim7 := { stood := { row := trapFirstRow, standIns := [], harness := (true, "5a2de055db51c088cf2a3b85619d20d3303f2d76b6b5da127bfb99916e68e0f6"), looks := false }, kinds := [], alts := [], laidByText := true, laidKinds := [.data], laidTests := true, laidLooks := .later }
def TrapFirstCardSaid : Prop := Claim7.holds Tryd.pinned (.plain (OpenSpec.ofChange trapFirstSpec)) trapFirstCard

/-- THE TIED CARD OF 'drawbridgelaw06.TrapEnters'. -/
def trapEntersCard : Claim7 := { stood := { row := trapEntersRow, standIns := [], harness := (true, "5a2de055db51c088cf2a3b85619d20d3303f2d76b6b5da127bfb99916e68e0f6"), looks := false }, kinds := [], alts := [], laidByText := true, laidKinds := [.data], laidTests := true, laidLooks := .later }
def TrapEntersCardSaid : Prop := Claim7.holds Tryd.pinned (.plain (OpenSpec.ofChange trapEntersSpec)) trapEntersCard

/-- THE TIED CARD OF 'drawbridgelaw06.TrapReturns'. -/
def trapReturnsCard : Claim7 := { stood := { row := trapReturnsRow, standIns := [], harness := (true, "5a2de055db51c088cf2a3b85619d20d3303f2d76b6b5da127bfb99916e68e0f6"), looks := false }, kinds := [], alts := [], laidByText := true, laidKinds := [.data], laidTests := true, laidLooks := .later }
def TrapReturnsCardSaid : Prop := Claim7.holds Tryd.pinned (.plain (OpenSpec.ofChange trapReturnsSpec)) trapReturnsCard

/-- THE TIED CARD OF 'drawbridgelaw06.TrapBack'. -/
def trapBackCard : Claim7 := { stood := { row := trapBackRow, standIns := [], harness := (true, "5a2de055db51c088cf2a3b85619d20d3303f2d76b6b5da127bfb99916e68e0f6"), looks := false }, kinds := [], alts := [], laidByText := true, laidKinds := [.data], laidTests := true, laidLooks := .later }
def TrapBackCardSaid : Prop := Claim7.holds Tryd.pinned (.plain (OpenSpec.ofChange trapBackSpec)) trapBackCard

/-- THE TIED CARD OF 'drawbridgelaw06.TrapLess'. -/
def trapLessCard : Claim7 := { stood := { row := trapLessRow, standIns := [], harness := (true, "5a2de055db51c088cf2a3b85619d20d3303f2d76b6b5da127bfb99916e68e0f6"), looks := false }, kinds := [], alts := [], laidByText := true, laidKinds := [.data], laidTests := true, laidLooks := .later }
def TrapLessCardSaid : Prop := Claim7.holds Tryd.pinned (.plain (OpenSpec.ofChange trapLessSpec)) trapLessCard

/-- THE SECOND FORM's CARD OF 'drawbridgelaw06.TrapFirst'. -/
def trapFirstUptoCard : Claim7 := { stood := { row := trapFirstUptoRow, standIns := [], harness := (true, "5a2de055db51c088cf2a3b85619d20d3303f2d76b6b5da127bfb99916e68e0f6"), looks := false }, kinds := [], alts := [], laidByText := true, laidKinds := [.data], laidTests := true, laidLooks := .later }
def TrapFirstUptoCardSaid : Prop := Claim7.holds Tryd.pinned (.plain (OpenSpec.upto trapFirstSpec)) trapFirstUptoCard

/-- THE SECOND FORM's CARD OF 'drawbridgelaw06.TrapEnters'. -/
def trapEntersUptoCard : Claim7 := { stood := { row := trapEntersUptoRow, standIns := [], harness := (true, "5a2de055db51c088cf2a3b85619d20d3303f2d76b6b5da127bfb99916e68e0f6"), looks := false }, kinds := [], alts := [], laidByText := true, laidKinds := [.data], laidTests := true, laidLooks := .later }
def TrapEntersUptoCardSaid : Prop := Claim7.holds Tryd.pinned (.plain (OpenSpec.upto trapEntersSpec)) trapEntersUptoCard

/-- THE SECOND FORM's CARD OF 'drawbridgelaw06.TrapReturns'. -/
def trapReturnsUptoCard : Claim7 := { stood := { row := trapReturnsUptoRow, standIns := [], harness := (true, "5a2de055db51c088cf2a3b85619d20d3303f2d76b6b5da127bfb99916e68e0f6"), looks := false }, kinds := [], alts := [], laidByText := true, laidKinds := [.data], laidTests := true, laidLooks := .later }
def TrapReturnsUptoCardSaid : Prop := Claim7.holds Tryd.pinned (.plain (OpenSpec.upto trapReturnsSpec)) trapReturnsUptoCard

/-- THE SECOND FORM's CARD OF 'drawbridgelaw06.TrapBack'. -/
def trapBackUptoCard : Claim7 := { stood := { row := trapBackUptoRow, standIns := [], harness := (true, "5a2de055db51c088cf2a3b85619d20d3303f2d76b6b5da127bfb99916e68e0f6"), looks := false }, kinds := [], alts := [], laidByText := true, laidKinds := [.data], laidTests := true, laidLooks := .later }
def TrapBackUptoCardSaid : Prop := Claim7.holds Tryd.pinned (.plain (OpenSpec.upto trapBackSpec)) trapBackUptoCard

/-- THE SECOND FORM's CARD OF 'drawbridgelaw06.TrapLess'. -/
def trapLessUptoCard : Claim7 := { stood := { row := trapLessUptoRow, standIns := [], harness := (true, "5a2de055db51c088cf2a3b85619d20d3303f2d76b6b5da127bfb99916e68e0f6"), looks := false }, kinds := [], alts := [], laidByText := true, laidKinds := [.data], laidTests := true, laidLooks := .later }
def TrapLessUptoCardSaid : Prop := Claim7.holds Tryd.pinned (.plain (OpenSpec.upto trapLessSpec)) trapLessUptoCard
end Rows
end Go.Proofs.YtbkbbcfhmjodlaaDoor
