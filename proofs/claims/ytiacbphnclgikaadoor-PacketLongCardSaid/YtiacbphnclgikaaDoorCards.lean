/-
  DERIVED. GIVEN WITH THE SEED: THE CARDS: each row of YtiacbphnclgikaaDoorRows.lean that lists a variable, with what it lists TIED to the program's text (the seventh form; the later family's looks); each row that meets fmt, with fmt's text TOLD by the authors' own Lean function (tested against real Go, not proved from fmt's source: count such statements apart). THE CARD IS WHAT COUNTS. Prove the row's statement (the work); the ties are given (YtiacbphnclgikaaDoorTie.lean); close each card by the builder's one call (the guide's Derived/Test/ToyasCard.lean, 'card_holds'). Laid BY PROGRAM, IN A SANDBOX (cutbox-door.mjs). By AI agents, Wed Nov 11 2026. No macro, syntax, notation, axiom, sorry.
-/
import Derived.Test.YtiacbphnclgikaaDoorRows
import GoSem.ClaimSeven
namespace Go.Proofs.YtiacbphnclgikaaDoor
namespace Rows

/-- THE TIED CARD OF 'mooringlaw17.PacketPeeks'. -/
def packetPeeksCard : Claim7 := { stood := { row := packetPeeksRow, standIns := [], harness := (true, "ba468d5d5159c92b9591d3a6fd23f4cba21d34c14a4a18edb3855614980abd02"), looks := true }, kinds := [], alts := [], laidByText := true, laidKinds := [.data], laidTests := true, laidLooks := .later }
def PacketPeeksCardSaid : Prop := Claim7.holds Tryd.pinned (.plain (OpenSpec.ofChange packetPeeksSpec)) packetPeeksCard

/-- THE TIED CARD OF 'mooringlaw17.PacketSame'. -/
def packetSameCard : Claim7 := { stood := { row := packetSameRow, standIns := [], harness := (true, "ba468d5d5159c92b9591d3a6fd23f4cba21d34c14a4a18edb3855614980abd02"), looks := true }, kinds := [], alts := [], laidByText := true, laidKinds := [.data], laidTests := true, laidLooks := .later }
def PacketSameCardSaid : Prop := Claim7.holds Tryd.pinned (.plain (OpenSpec.ofChange packetSameSpec)) packetSameCard

/-- THE TIED CARD OF 'mooringlaw17.PacketLong'. -/
def packetLongCard : Claim7 := { stood := { row := packetLongRow, standIns := [], harness := (true, "ba468d5d5159c92b9591d3a6fd23f4cba21d34c14a4a18edb3855614980abd02"), looks := true }, kinds := [], alts := [], laidByText := true, laidKinds := [.data], laidTests := true, laidLooks := .later }
def PacketLongCardSaid : Prop := Claim7.holds Tryd.pinned (.plain (OpenSpec.ofChange packetLongSpec)) packetLongCard

/-- THE SECOND FORM's CARD OF 'mooringlaw17.PacketPeeks'. -/
def packetPeeksUptoCard : Claim7 := { stood := { row := packetPeeksUptoRow, standIns := [], harness := (true, "ba468d5d5159c92b9591d3a6fd23f4cba21d34c14a4a18edb3855614980abd02"), looks := true }, kinds := [], alts := [], laidByText := true, laidKinds := [.data], laidTests := true, laidLooks := .later }
def PacketPeeksUptoCardSaid : Prop := Claim7.holds Tryd.pinned (.plain (OpenSpec.upto packetPeeksSpec)) packetPeeksUptoCard

/-- THE SECOND FORM's CARD OF 'mooringlaw17.PacketSame'. -/
def packetSameUptoCard : Claim7 := { stood := { row := packetSameUptoRow, standIns := [], harness := (true, "ba468d5d5159c92b9591d3a6fd23f4cba21d34c14a4a18edb3855614980abd02"), looks := true }, kinds := [], alts := [], laidByText := true, laidKinds := [.data], laidTests := true, laidLooks := .later }
def PacketSameUptoCardSaid : Prop := Claim7.holds Tryd.pinned (.plain (OpenSpec.upto packetSameSpec)) packetSameUptoCard

/-- THE SECOND FORM's CARD OF 'mooringlaw17.PacketLong'. -/
def packetLongUptoCard : Claim7 := { stood := { row := packetLongUptoRow, standIns := [], harness := (true, "ba468d5d5159c92b9591d3a6fd23f4cba21d34c14a4a18edb3855614980abd02"), looks := true }, kinds := [], alts := [], laidByText := true, laidKinds := [.data], laidTests := true, laidLooks := .later }
def PacketLongUptoCardSaid : Prop := Claim7.holds Tryd.pinned (.plain (OpenSpec.upto packetLongSpec)) packetLongUptoCard
end Rows
end Go.Proofs.YtiacbphnclgikaaDoor
