/-
  DERIVED. GIVEN WITH THE SEED: THE CARDS: each row of YtflbpohcoghonaaDoorRows.lean that lists a variable, with what it lists TIED to the program's text (the seventh form; the later family's looks); each row that meets fmt, with fmt's text TOLD by the authors' own Lean function (tested against real Go, not proved from fmt's source: count such statements apart). THE CARD IS WHAT COUNTS. Prove the row's statement (the work); the ties are given (YtflbpohcoghonaaDoorTie.lean); close each card by the builder's one call (the guide's Derived/Test/ToyasCard.lean, 'card_holds'). Laid BY PROGRAM, IN A SANDBOX (cutbox-door.mjs). By AI agents, Wed Nov 11 2026. No macro, syntax, notation, axiom, sorry.
-/
import Derived.Test.YtflbpohcoghonaaDoorRows
import GoSem.ClaimSeven
namespace Go.Proofs.YtflbpohcoghonaaDoor
namespace Rows

/-- THE TIED CARD OF 'mooringlaw11.HashMatchesReference'. -/
def hashMatchesReferenceCard : Claim7 := { stood := { row := hashMatchesReferenceRow, standIns := [], harness := (true, "bb281ddac54bce29831013d3adbeb0e724cdd1cbfec2f9459082d640122ca4fb"), looks := false }, kinds := [], alts := [], laidByText := true, laidKinds := [.data], laidTests := true, laidLooks := .later }
def HashMatchesReferenceCardSaid : Prop := Claim7.holds Tryd.pinned (.plain (OpenSpec.ofChange hashMatchesReferenceSpec)) hashMatchesReferenceCard

/-- THE TIED CARD OF 'mooringlaw11.HashParts'. -/
def hashPartsCard : Claim7 := { stood := { row := hashPartsRow, standIns := [], harness := (true, "bb281ddac54bce29831013d3adbeb0e724cdd1cbfec2f9459082d640122ca4fb"), looks := false }, kinds := [], alts := [], laidByText := true, laidKinds := [.data], laidTests := true, laidLooks := .later }
def HashPartsCardSaid : Prop := Claim7.holds Tryd.pinned (.plain (OpenSpec.ofChange hashPartsSpec)) hashPartsCard

/-- THE TIED CARD OF 'mooringlaw11.HashPads'. -/
def hashPadsCard : Claim7 := { stood := { row := hashPadsRow, standIns := [], harness := (true, "bb281ddac54bce29831013d3adbeb0e724cdd1cbfec2f9459082d640122ca4fb"), looks := false }, kinds := [], alts := [], laidByText := true, laidKinds := [.data], laidTests := true, laidLooks := .later }
def HashPadsCardSaid : Prop := Claim7.holds Tryd.pinned (.plain (OpenSpec.ofChange hashPadsSpec)) hashPadsCard

/-- THE TIED CARD OF 'mooringlaw11.HashRests'. -/
def hashRestsCard : Claim7 := { stood := { row := hashRestsRow, standIns := [], harness := (true, "bb281ddac54bce29831013d3adbeb0e724cdd1cbfec2f9459082d640122ca4fb"), looks := false }, kinds := [], alts := [], laidByText := true, laidKinds := [.data], laidTests := true, laidLooks := .later }
def HashRestsCardSaid : Prop := Claim7.holds Tryd.pinned (.plain (OpenSpec.ofChange hashRestsSpec)) hashRestsCard

/-- THE SECOND FORM's CARD OF 'mooringlaw11.HashMatchesReference'. -/
def hashMatchesReferenceUptoCard : Claim7 := { stood := { row := hashMatchesReferenceUptoRow, standIns := [], harness := (true, "bb281ddac54bce29831013d3adbeb0e724cdd1cbfec2f9459082d640122ca4fb"), looks := false }, kinds := [], alts := [], laidByText := true, laidKinds := [.data], laidTests := true, laidLooks := .later }
def HashMatchesReferenceUptoCardSaid : Prop := Claim7.holds Tryd.pinned (.plain (OpenSpec.upto hashMatchesReferenceSpec)) hashMatchesReferenceUptoCard

/-- THE SECOND FORM's CARD OF 'mooringlaw11.HashParts'. -/
def hashPartsUptoCard : Claim7 := { stood := { row := hashPartsUptoRow, standIns := [], harness := (true, "bb281ddac54bce29831013d3adbeb0e724cdd1cbfec2f9459082d640122ca4fb"), looks := false }, kinds := [], alts := [], laidByText := true, laidKinds := [.data], laidTests := true, laidLooks := .later }
def HashPartsUptoCardSaid : Prop := Claim7.holds Tryd.pinned (.plain (OpenSpec.upto hashPartsSpec)) hashPartsUptoCard

/-- THE SECOND FORM's CARD OF 'mooringlaw11.HashPads'. -/
def hashPadsUptoCard : Claim7 := { stood := { row := hashPadsUptoRow, standIns := [], harness := (true, "bb281ddac54bce29831013d3adbeb0e724cdd1cbfec2f9459082d640122ca4fb"), looks := false }, kinds := [], alts := [], laidByText := true, laidKinds := [.data], laidTests := true, laidLooks := .later }
def HashPadsUptoCardSaid : Prop := Claim7.holds Tryd.pinned (.plain (OpenSpec.upto hashPadsSpec)) hashPadsUptoCard

/-- THE SECOND FORM's CARD OF 'mooringlaw11.HashRests'. -/
def hashRestsUptoCard : Claim7 := { stood := { row := hashRestsUptoRow, standIns := [], harness := (true, "bb281ddac54bce29831013d3adbeb0e724cdd1cbfec2f9459082d640122ca4fb"), looks := false }, kinds := [], alts := [], laidByText := true, laidKinds := [.data], laidTests := true, laidLooks := .later }
def HashRestsUptoCardSaid : Prop := Claim7.holds Tryd.pinned (.plain (OpenSpec.upto hashRestsSpec)) hashRestsUptoCard
end Rows
end Go.Proofs.YtflbpohcoghonaaDoor
