/-
  DERIVED. GIVEN WITH THE SEED: THE CARDS: each row of YtpehfmchcjanhaaDoorRows.lean that lists a variable, with what it lists TIED to the program's text (the seventh form; the later family's looks); each row that meets fmt, with fmt's text TOLD by the authors' own Lean function (tested against real Go, not proved from fmt's source: count such statements apart). THE CARD IS WHAT COUNTS. Prove the row's statement (the work); the ties are given (YtpehfmchcjanhaaDoorTie.lean); close each card by the builder's one call (the guide's Derived/Test/ToyasCard.lean, 'card_holds'). Laid BY PROGRAM, IN A SANDBOX (cutbox-door.mjs). By AI agents, Wed Nov 11 2026. No macro, syntax, notation, axiom, sorry.
-/
import Derived.Test.YtpehfmchcjanhaaDoorRows
import GoSem.ClaimSeven
namespace Go.Proofs.YtpehfmchcjanhaaDoor
namespace Rows

/-- THE TIED CARD OF 'drawbridgelaw05.CsrViews'. -/
def csrViewsCard : Claim7 := { stood := { row := csrViewsRow, standIns := [], harness := (true, "65fed1295375f4c80fe8ab151b03500c681c048f1693e7cbdb8ef4f205d6fec4"), looks := true }, kinds := [], alts := [], laidByText := true, laidKinds := [.sentinel, .sentinel], laidTests := true, laidLooks := .later }
def CsrViewsCardSaid : Prop := Claim7.holds Tryd.pinned (.plain (OpenSpec.ofChange csrViewsSpec)) csrViewsCard

/-- THE TIED CARD OF 'drawbridgelaw05.CsrWrites'. -/
def csrWritesCard : Claim7 := { stood := { row := csrWritesRow, standIns := [], harness := (true, "65fed1295375f4c80fe8ab151b03500c681c048f1693e7cbdb8ef4f205d6fec4"), looks := true }, kinds := [], alts := [], laidByText := true, laidKinds := [.sentinel, .sentinel], laidTests := true, laidLooks := .later }
def CsrWritesCardSaid : Prop := Claim7.holds Tryd.pinned (.plain (OpenSpec.ofChange csrWritesSpec)) csrWritesCard

/-- THE TIED CARD OF 'drawbridgelaw05.CsrStays'. -/
def csrStaysCard : Claim7 := { stood := { row := csrStaysRow, standIns := [], harness := (true, "65fed1295375f4c80fe8ab151b03500c681c048f1693e7cbdb8ef4f205d6fec4"), looks := true }, kinds := [], alts := [], laidByText := true, laidKinds := [.sentinel, .sentinel], laidTests := true, laidLooks := .later }
def CsrStaysCardSaid : Prop := Claim7.holds Tryd.pinned (.plain (OpenSpec.ofChange csrStaysSpec)) csrStaysCard

/-- THE TIED CARD OF 'drawbridgelaw05.CsrAgain'. -/
def csrAgainCard : Claim7 := { stood := { row := csrAgainRow, standIns := [], harness := (true, "65fed1295375f4c80fe8ab151b03500c681c048f1693e7cbdb8ef4f205d6fec4"), looks := true }, kinds := [], alts := [], laidByText := true, laidKinds := [.sentinel, .sentinel], laidTests := true, laidLooks := .later }
def CsrAgainCardSaid : Prop := Claim7.holds Tryd.pinned (.plain (OpenSpec.ofChange csrAgainSpec)) csrAgainCard

/-- THE TIED CARD OF 'drawbridgelaw05.CsrGuards'. -/
def csrGuardsCard : Claim7 := { stood := { row := csrGuardsRow, standIns := [], harness := (true, "65fed1295375f4c80fe8ab151b03500c681c048f1693e7cbdb8ef4f205d6fec4"), looks := true }, kinds := [], alts := [], laidByText := true, laidKinds := [.sentinel, .sentinel], laidTests := true, laidLooks := .later }
def CsrGuardsCardSaid : Prop := Claim7.holds Tryd.pinned (.plain (OpenSpec.ofChange csrGuardsSpec)) csrGuardsCard

/-- THE SECOND FORM's CARD OF 'drawbridgelaw05.CsrViews'. -/
def csrViewsUptoCard : Claim7 := { stood := { row := csrViewsUptoRow, standIns := [], harness := (true, "65fed1295375f4c80fe8ab151b03500c681c048f1693e7cbdb8ef4f205d6fec4"), looks := true }, kinds := [], alts := [], laidByText := true, laidKinds := [.sentinel, .sentinel], laidTests := true, laidLooks := .later }
def CsrViewsUptoCardSaid : Prop := Claim7.holds Tryd.pinned (.plain (OpenSpec.upto csrViewsSpec)) csrViewsUptoCard

/-- THE SECOND FORM's CARD OF 'drawbridgelaw05.CsrWrites'. -/
def csrWritesUptoCard : Claim7 := { stood := { row := csrWritesUptoRow, standIns := [], harness := (true, "65fed1295375f4c80fe8ab151b03500c681c048f1693e7cbdb8ef4f205d6fec4"), looks := true }, kinds := [], alts := [], laidByText := true, laidKinds := [.sentinel, .sentinel], laidTests := true, laidLooks := .later }
def CsrWritesUptoCardSaid : Prop := Claim7.holds Tryd.pinned (.plain (OpenSpec.upto csrWritesSpec)) csrWritesUptoCard

/-- THE SECOND FORM's CARD OF 'drawbridgelaw05.CsrStays'. -/
def csrStaysUptoCard : Claim7 := { stood := { row := csrStaysUptoRow, standIns := [], harness := (true, "65fed1295375f4c80fe8ab151b03500c681c048f1693e7cbdb8ef4f205d6fec4"), looks := true }, kinds := [], alts := [], laidByText := true, laidKinds := [.sentinel, .sentinel], laidTests := true, laidLooks := .later }
def CsrStaysUptoCardSaid : Prop := Claim7.holds Tryd.pinned (.plain (OpenSpec.upto csrStaysSpec)) csrStaysUptoCard

/-- THE SECOND FORM's CARD OF 'drawbridgelaw05.CsrAgain'. -/
def csrAgainUptoCard : Claim7 := { stood := { row := csrAgainUptoRow, standIns := [], harness := (true, "65fed1295375f4c80fe8ab151b03500c681c048f1693e7cbdb8ef4f205d6fec4"), looks := true }, kinds := [], alts := [], laidByText := true, laidKinds := [.sentinel, .sentinel], laidTests := true, laidLooks := .later }
def CsrAgainUptoCardSaid : Prop := Claim7.holds Tryd.pinned (.plain (OpenSpec.upto csrAgainSpec)) csrAgainUptoCard

/-- THE SECOND FORM's CARD OF 'drawbridgelaw05.CsrGuards'. -/
def csrGuardsUptoCard : Claim7 := { stood := { row := csrGuardsUptoRow, standIns := [], harness := (true, "65fed1295375f4c80fe8ab151b03500c681c048f1693e7cbdb8ef4f205d6fec4"), looks := true }, kinds := [], alts := [], laidByText := true, laidKinds := [.sentinel, .sentinel], laidTests := true, laidLooks := .later }
def CsrGuardsUptoCardSaid : Prop := Claim7.holds Tryd.pinned (.plain (OpenSpec.upto csrGuardsSpec)) csrGuardsUptoCard
end Rows
end Go.Proofs.YtpehfmchcjanhaaDoor
