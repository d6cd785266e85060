/-
  DERIVED. GIVEN WITH THE SEED: THE CARDS: each row of YtolfaelalmmefaaDoorRows.lean that lists a variable, with what it lists TIED to the program's text (the seventh form; the later family's looks); each row that meets fmt, with fmt's text TOLD by the authors' own Lean function (tested against real Go, not proved from fmt's source: count such statements apart). THE CARD IS WHAT COUNTS. Prove the row's statement (the work); the ties are given (YtolfaelalmmefaaDoorTie.lean); close each card by the builder's one call (the guide's Derived/Test/ToyasCard.lean, 'card_holds'). Laid BY PROGRAM, IN A SANDBOX (cutbox-door.mjs). By AI agents, Wed Nov 11 2026. No macro, syntax, notation, axiom, sorry.
-/
import Derived.Test.YtolfaelalmmefaaDoorRows
import GoSem.ClaimSeven
namespace Go.Proofs.YtolfaelalmmefaaDoor
namespace Rows

/-- THE TIED CARD OF 'drawbridgelaw16.EtherAgain'. -/
def etherAgainCard : Claim7 := { stood := { row := etherAgainRow, standIns := [], harness := (true, "a2c06a512ced77c313b22baff18bfb29c8efec508169582f510659950973801a"), looks := true }, kinds := [], alts := [], laidByText := true, laidKinds := [.sentinel, .sentinel, .sentinel], laidTests := true, laidLooks := .later }
def EtherAgainCardSaid : Prop := Claim7.holds Tryd.pinned (.plain (OpenSpec.ofChange etherAgainSpec)) etherAgainCard

/-- THE TIED CARD OF 'drawbridgelaw16.EtherTells'. -/
def etherTellsCard : Claim7 := { stood := { row := etherTellsRow, standIns := [], harness := (true, "a2c06a512ced77c313b22baff18bfb29c8efec508169582f510659950973801a"), looks := true }, kinds := [], alts := [], laidByText := true, laidKinds := [.sentinel, .sentinel, .sentinel], laidTests := true, laidLooks := .later }
def EtherTellsCardSaid : Prop := Claim7.holds Tryd.pinned (.plain (OpenSpec.ofChange etherTellsSpec)) etherTellsCard

/-- THE TIED CARD OF 'drawbridgelaw16.EtherArps'. -/
def etherArpsCard : Claim7 := { stood := { row := etherArpsRow, standIns := [], harness := (true, "a2c06a512ced77c313b22baff18bfb29c8efec508169582f510659950973801a"), looks := true }, kinds := [], alts := [], laidByText := true, laidKinds := [.sentinel, .sentinel, .sentinel], laidTests := true, laidLooks := .later }
def EtherArpsCardSaid : Prop := Claim7.holds Tryd.pinned (.plain (OpenSpec.ofChange etherArpsSpec)) etherArpsCard

/-- THE TIED CARD OF 'drawbridgelaw16.EtherBack'. -/
def etherBackCard : Claim7 := { stood := { row := etherBackRow, standIns := [], harness := (true, "a2c06a512ced77c313b22baff18bfb29c8efec508169582f510659950973801a"), looks := true }, kinds := [], alts := [], laidByText := true, laidKinds := [.sentinel, .sentinel, .sentinel], laidTests := true, laidLooks := .later }
def EtherBackCardSaid : Prop := Claim7.holds Tryd.pinned (.plain (OpenSpec.ofChange etherBackSpec)) etherBackCard

/-- THE TIED CARD OF 'drawbridgelaw16.EtherAnswers'. -/
def etherAnswersCard : Claim7 := { stood := { row := etherAnswersRow, standIns := [], harness := (true, "a2c06a512ced77c313b22baff18bfb29c8efec508169582f510659950973801a"), looks := true }, kinds := [], alts := [], laidByText := true, laidKinds := [.sentinel, .sentinel, .sentinel], laidTests := true, laidLooks := .later }
def EtherAnswersCardSaid : Prop := Claim7.holds Tryd.pinned (.plain (OpenSpec.ofChange etherAnswersSpec)) etherAnswersCard

/-- THE SECOND FORM's CARD OF 'drawbridgelaw16.EtherAgain'. -/
def etherAgainUptoCard : Claim7 := { stood := { row := etherAgainUptoRow, standIns := [], harness := (true, "a2c06a512ced77c313b22baff18bfb29c8efec508169582f510659950973801a"), looks := true }, kinds := [], alts := [], laidByText := true, laidKinds := [.sentinel, .sentinel, .sentinel], laidTests := true, laidLooks := .later }
def EtherAgainUptoCardSaid : Prop := Claim7.holds Tryd.pinned (.plain (OpenSpec.upto etherAgainSpec)) etherAgainUptoCard

/-- THE SECOND FORM's CARD OF 'drawbridgelaw16.EtherTells'. -/
def etherTellsUptoCard : Claim7 := { stood := { row := etherTellsUptoRow, standIns := [], harness := (true, "a2c06a512ced77c313b22baff18bfb29c8efec508169582f510659950973801a"), looks := true }, kinds := [], alts := [], laidByText := true, laidKinds := [.sentinel, .sentinel, .sentinel], laidTests := true, laidLooks := .later }
def EtherTellsUptoCardSaid : Prop := Claim7.holds Tryd.pinned (.plain (OpenSpec.upto etherTellsSpec)) etherTellsUptoCard

/-- THE SECOND FORM's CARD OF 'drawbridgelaw16.EtherArps'. -/
def etherArpsUptoCard : Claim7 := { stood := { row := etherArpsUptoRow, standIns := [], harness := (true, "a2c06a512ced77c313b22baff18bfb29c8efec508169582f510659950973801a"), looks := true }, kinds := [], alts := [], laidByText := true, laidKinds := [.sentinel, .sentinel, .sentinel], laidTests := true, laidLooks := .later }
def EtherArpsUptoCardSaid : Prop := Claim7.holds Tryd.pinned (.plain (OpenSpec.upto etherArpsSpec)) etherArpsUptoCard

/-- THE SECOND FORM's CARD OF 'drawbridgelaw16.EtherBack'. -/
def etherBackUptoCard : Claim7 := { stood := { row := etherBackUptoRow, standIns := [], harness := (true, "a2c06a512ced77c313b22baff18bfb29c8efec508169582f510659950973801a"), looks := true }, kinds := [], alts := [], laidByText := true, laidKinds := [.sentinel, .sentinel, .sentinel], laidTests := true, laidLooks := .later }
def EtherBackUptoCardSaid : Prop := Claim7.holds Tryd.pinned (.plain (OpenSpec.upto etherBackSpec)) etherBackUptoCard

/-- THE SECOND FORM's CARD OF 'drawbridgelaw16.EtherAnswers'. -/
def etherAnswersUptoCard : Claim7 := { stood := { row := etherAnswersUptoRow, standIns := [], harness := (true, "a2c06a512ced77c313b22baff18bfb29c8efec508169582f510659950973801a"), looks := true }, kinds := [], alts := [], laidByText := true, laidKinds := [.sentinel, .sentinel, .sentinel], laidTests := true, laidLooks := .later }
def EtherAnswersUptoCardSaid : Prop := Claim7.holds Tryd.pinned (.plain (OpenSpec.upto etherAnswersSpec)) etherAnswersUptoCard
end Rows
end Go.Proofs.YtolfaelalmmefaaDoor
