/-
  DERIVED. GIVEN WITH THE SEED: THE CARDS: each row of YtiacbphnclgikaaGreatDoorRows.lean that lists a variable, with what it lists TIED to the program's text (the seventh form; the later family's looks); each row that meets fmt, with fmt's text TOLD by the authors' own Lean function (tested against real Go, not proved from fmt's source: count such statements apart). THE CARD IS WHAT COUNTS. Prove the row's statement (the work); the ties are given (YtiacbphnclgikaaGreatDoorTie.lean); close each card by the builder's one call (the guide's Derived/Test/ToyasCard.lean, 'card_holds'). Laid BY PROGRAM, IN A SANDBOX (cutbox-door.mjs). By AI agents, Wed Nov 11 2026. No macro, syntax, notation, axiom, sorry.
-/
import Derived.Test.YtiacbphnclgikaaGreatDoorRows
import GoSem.ClaimSeven
namespace Go.Proofs.YtiacbphnclgikaaGreatDoor
namespace Rows

/-- THE TIED CARD OF 'mooringlaw17.PacketMatchesReference'. -/
def packetMatchesReferenceCard : Claim7 := { stood := { row := packetMatchesReferenceRow, standIns := [], harness := (true, "97b48aa5a3ee57c0fa238df72f4527076fd14ad2af1d8ba8d8dc58bba0bd159b"), looks := true }, kinds := [], alts := [], laidByText := true, laidKinds := [.data], laidTests := true, laidLooks := .later }
def PacketMatchesReferenceCardSaid : Prop := Claim7.holds Tryz.pinned (.plain (OpenSpec.ofChange packetMatchesReferenceSpec)) packetMatchesReferenceCard

/-- THE TIED CARD OF 'mooringlaw17.PacketDecodes'. -/
def packetDecodesCard : Claim7 := { stood := { row := packetDecodesRow, standIns := [], harness := (true, "97b48aa5a3ee57c0fa238df72f4527076fd14ad2af1d8ba8d8dc58bba0bd159b"), looks := true }, kinds := [], alts := [], laidByText := true, laidKinds := [.data], laidTests := true, laidLooks := .later }
def PacketDecodesCardSaid : Prop := Claim7.holds Tryz.pinned (.plain (OpenSpec.ofChange packetDecodesSpec)) packetDecodesCard

/-- THE SECOND FORM's CARD OF 'mooringlaw17.PacketMatchesReference'. -/
def packetMatchesReferenceUptoCard : Claim7 := { stood := { row := packetMatchesReferenceUptoRow, standIns := [], harness := (true, "97b48aa5a3ee57c0fa238df72f4527076fd14ad2af1d8ba8d8dc58bba0bd159b"), looks := true }, kinds := [], alts := [], laidByText := true, laidKinds := [.data], laidTests := true, laidLooks := .later }
def PacketMatchesReferenceUptoCardSaid : Prop := Claim7.holds Tryz.pinned (.plain (OpenSpec.upto packetMatchesReferenceSpec)) packetMatchesReferenceUptoCard

/-- THE SECOND FORM's CARD OF 'mooringlaw17.PacketDecodes'. -/
def packetDecodesUptoCard : Claim7 := { stood := { row := packetDecodesUptoRow, standIns := [], harness := (true, "97b48aa5a3ee57c0fa238df72f4527076fd14ad2af1d8ba8d8dc58bba0bd159b"), looks := true }, kinds := [], alts := [], laidByText := true, laidKinds := [.data], laidTests := true, laidLooks := .later }
def PacketDecodesUptoCardSaid : Prop := Claim7.holds Tryz.pinned (.plain (OpenSpec.upto packetDecodesSpec)) packetDecodesUptoCard
end Rows
end Go.Proofs.YtiacbphnclgikaaGreatDoor
