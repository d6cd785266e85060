/-
  DERIVED. GIVEN WITH THE SEED: THE CARDS: each row of YtnafdgpkofffaaaGreatDoorRows.lean that lists a variable, with what it lists TIED to the program's text (the seventh form; the later family's looks); each row that meets fmt, with fmt's text TOLD by the authors' own Lean function (tested against real Go, not proved from fmt's source: count such statements apart). THE CARD IS WHAT COUNTS. Prove the row's statement (the work); the ties are given (YtnafdgpkofffaaaGreatDoorTie.lean); close each card by the builder's one call (the guide's Derived/Test/ToyasCard.lean, 'card_holds'). Laid BY PROGRAM, IN A SANDBOX (cutbox-door.mjs). By AI agents, Wed Nov 11 2026. No macro, syntax, notation, axiom, sorry.
-/
import Derived.Test.YtnafdgpkofffaaaGreatDoorRows
import GoSem.ClaimSeven
namespace Go.Proofs.YtnafdgpkofffaaaGreatDoor
namespace Rows

/-- THE TIED CARD OF 'drawbridgelaw21.DnsTells'. -/
def dnsTellsCard : Claim7 := { stood := { row := dnsTellsRow, standIns := [], harness := (true, "482df65bf402e8ea9c109e76b9af4fa00aa1e07565acbc356762bf8ef1a5d205"), looks := true }, kinds := [], alts := [], laidByText := true, laidKinds := [.data, .handle, .pinned, .pinned], laidTests := true, laidLooks := .later }
def DnsTellsCardSaid : Prop := Claim7.holds Tryz.pinned (.plain (OpenSpec.ofChange dnsTellsSpec)) dnsTellsCard

/-- THE SECOND FORM's CARD OF 'drawbridgelaw21.DnsTells'. -/
def dnsTellsUptoCard : Claim7 := { stood := { row := dnsTellsUptoRow, standIns := [], harness := (true, "482df65bf402e8ea9c109e76b9af4fa00aa1e07565acbc356762bf8ef1a5d205"), looks := true }, kinds := [], alts := [], laidByText := true, laidKinds := [.data, .handle, .pinned, .pinned], laidTests := true, laidLooks := .later }
def DnsTellsUptoCardSaid : Prop := Claim7.holds Tryz.pinned (.plain (OpenSpec.upto dnsTellsSpec)) dnsTellsUptoCard
end Rows
end Go.Proofs.YtnafdgpkofffaaaGreatDoor
