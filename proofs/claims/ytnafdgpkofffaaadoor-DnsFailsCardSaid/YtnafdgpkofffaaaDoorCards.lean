/-
  DERIVED. GIVEN WITH THE SEED: THE CARDS: each row of YtnafdgpkofffaaaDoorRows.lean that lists a variable, with what it lists TIED to the program's text (the seventh form; the later family's looks); each row that meets fmt, with fmt's text TOLD by the authors' own Lean function (tested against real Go, not proved from fmt's source: count such statements apart). THE CARD IS WHAT COUNTS. Prove the row's statement (the work); the ties are given (YtnafdgpkofffaaaDoorTie.lean); close each card by the builder's one call (the guide's Derived/Test/ToyasCard.lean, 'card_holds'). Laid BY PROGRAM, IN A SANDBOX (cutbox-door.mjs). By AI agents, Wed Nov 11 2026. No macro, syntax, notation, axiom, sorry.
-/
import Derived.Test.YtnafdgpkofffaaaDoorRows
import GoSem.ClaimSeven
namespace Go.Proofs.YtnafdgpkofffaaaDoor
namespace Rows

/-- THE TIED CARD OF 'drawbridgelaw21.DnsBack'. -/
def dnsBackCard : Claim7 := { stood := { row := dnsBackRow, standIns := [], harness := (true, "e547ad9ac354d5f30d41a878a925f272c46b331fc6472366935c5a2cd07d637a"), looks := true }, kinds := [], alts := [], laidByText := true, laidKinds := [.data, .handle, .pinned, .pinned], laidTests := true, laidLooks := .later }
def DnsBackCardSaid : Prop := Claim7.holds Tryd.pinned (.plain (OpenSpec.ofChange dnsBackSpec)) dnsBackCard

/-- THE TIED CARD OF 'drawbridgelaw21.DnsWith'. -/
def dnsWithCard : Claim7 := { stood := { row := dnsWithRow, standIns := [], harness := (true, "e547ad9ac354d5f30d41a878a925f272c46b331fc6472366935c5a2cd07d637a"), looks := true }, kinds := [], alts := [], laidByText := true, laidKinds := [.data, .handle, .pinned, .pinned], laidTests := true, laidLooks := .later }
def DnsWithCardSaid : Prop := Claim7.holds Tryd.pinned (.plain (OpenSpec.ofChange dnsWithSpec)) dnsWithCard

/-- THE TIED CARD OF 'drawbridgelaw21.DnsFails'. -/
def dnsFailsCard : Claim7 := { stood := { row := dnsFailsRow, standIns := [], harness := (true, "e547ad9ac354d5f30d41a878a925f272c46b331fc6472366935c5a2cd07d637a"), looks := true }, kinds := [], alts := [], laidByText := true, laidKinds := [.data, .handle, .pinned, .pinned], laidTests := true, laidLooks := .later }
def DnsFailsCardSaid : Prop := Claim7.holds Tryd.pinned (.plain (OpenSpec.ofChange dnsFailsSpec)) dnsFailsCard

/-- THE SECOND FORM's CARD OF 'drawbridgelaw21.DnsBack'. -/
def dnsBackUptoCard : Claim7 := { stood := { row := dnsBackUptoRow, standIns := [], harness := (true, "e547ad9ac354d5f30d41a878a925f272c46b331fc6472366935c5a2cd07d637a"), looks := true }, kinds := [], alts := [], laidByText := true, laidKinds := [.data, .handle, .pinned, .pinned], laidTests := true, laidLooks := .later }
def DnsBackUptoCardSaid : Prop := Claim7.holds Tryd.pinned (.plain (OpenSpec.upto dnsBackSpec)) dnsBackUptoCard

/-- THE SECOND FORM's CARD OF 'drawbridgelaw21.DnsWith'. -/
def dnsWithUptoCard : Claim7 := { stood := { row := dnsWithUptoRow, standIns := [], harness := (true, "e547ad9ac354d5f30d41a878a925f272c46b331fc6472366935c5a2cd07d637a"), looks := true }, kinds := [], alts := [], laidByText := true, laidKinds := [.data, .handle, .pinned, .pinned], laidTests := true, laidLooks := .later }
def DnsWithUptoCardSaid : Prop := Claim7.holds Tryd.pinned (.plain (OpenSpec.upto dnsWithSpec)) dnsWithUptoCard

/-- THE SECOND FORM's CARD OF 'drawbridgelaw21.DnsFails'. -/
def dnsFailsUptoCard : Claim7 := { stood := { row := dnsFailsUptoRow, standIns := [], harness := (true, "e547ad9ac354d5f30d41a878a925f272c46b331fc6472366935c5a2cd07d637a"), looks := true }, kinds := [], alts := [], laidByText := true, laidKinds := [.data, .handle, .pinned, .pinned], laidTests := true, laidLooks := .later }
def DnsFailsUptoCardSaid : Prop := Claim7.holds Tryd.pinned (.plain (OpenSpec.upto dnsFailsSpec)) dnsFailsUptoCard
end Rows
end Go.Proofs.YtnafdgpkofffaaaDoor
