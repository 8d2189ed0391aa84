/-
  DERIVED. GIVEN WITH THE SEED: THE CARDS: each row of YthfnpjjckpnfbaaGreatDoorRows.lean that lists a variable, with what it lists TIED to the program's text (the seventh form; the later family's looks); each row that meets fmt, with fmt's text TOLD by the authors' own Lean function (tested against real Go, not proved from fmt's source: count such statements apart). THE CARD IS WHAT COUNTS. Prove the row's statement (the work); the ties are given (YthfnpjjckpnfbaaGreatDoorTie.lean); close each card by the builder's one call (the guide's Derived/Test/ToyasCard.lean, 'card_holds'). Laid BY PROGRAM, IN A SANDBOX (cutbox-door.mjs). By AI agents, Wed Nov 11 2026. No macro, syntax, notation, axiom, sorry.
-/
import Derived.Test.YthfnpjjckpnfbaaGreatDoorRows
import GoSem.ClaimSeven
namespace Go.Proofs.YthfnpjjckpnfbaaGreatDoor
namespace Rows

/-- THE TIED CARD OF 'mooringlaw13.OpenMatchesReference'. -/
def openMatchesReferenceCard : Claim7 := { stood := { row := openMatchesReferenceRow, standIns := [], harness := (true, "5b02f7809e461c978857592287506365c2f0afec59d12a884a4243cfb5e58e97"), looks := true }, kinds := [], alts := [], laidByText := true, laidKinds := [.data], laidTests := true, laidLooks := .later }
def OpenMatchesReferenceCardSaid : Prop := Claim7.holds Tryz.pinned (.plain (OpenSpec.ofChange openMatchesReferenceSpec)) openMatchesReferenceCard

/-- THE TIED CARD OF 'mooringlaw13.OpenInverts'. -/
def openInvertsCard : Claim7 := { stood := { row := openInvertsRow, standIns := [], harness := (true, "5b02f7809e461c978857592287506365c2f0afec59d12a884a4243cfb5e58e97"), looks := true }, kinds := [], alts := [], laidByText := true, laidKinds := [.data], laidTests := true, laidLooks := .later }
def OpenInvertsCardSaid : Prop := Claim7.holds Tryz.pinned (.plain (OpenSpec.ofChange openInvertsSpec)) openInvertsCard

/-- THE TIED CARD OF 'mooringlaw13.OpenDecrypts'. -/
def openDecryptsCard : Claim7 := { stood := { row := openDecryptsRow, standIns := [], harness := (true, "5b02f7809e461c978857592287506365c2f0afec59d12a884a4243cfb5e58e97"), looks := true }, kinds := [], alts := [], laidByText := true, laidKinds := [.data], laidTests := true, laidLooks := .later }
def OpenDecryptsCardSaid : Prop := Claim7.holds Tryz.pinned (.plain (OpenSpec.ofChange openDecryptsSpec)) openDecryptsCard

/-- THE TIED CARD OF 'mooringlaw13.OpenTags'. -/
def openTagsCard : Claim7 := { stood := { row := openTagsRow, standIns := [], harness := (true, "5b02f7809e461c978857592287506365c2f0afec59d12a884a4243cfb5e58e97"), looks := true }, kinds := [], alts := [], laidByText := true, laidKinds := [.data], laidTests := true, laidLooks := .later }
def OpenTagsCardSaid : Prop := Claim7.holds Tryz.pinned (.plain (OpenSpec.ofChange openTagsSpec)) openTagsCard

/-- THE TIED CARD OF 'mooringlaw13.OpenLengths'. -/
def openLengthsCard : Claim7 := { stood := { row := openLengthsRow, standIns := [], harness := (true, "5b02f7809e461c978857592287506365c2f0afec59d12a884a4243cfb5e58e97"), looks := true }, kinds := [], alts := [], laidByText := true, laidKinds := [.data], laidTests := true, laidLooks := .later }
def OpenLengthsCardSaid : Prop := Claim7.holds Tryz.pinned (.plain (OpenSpec.ofChange openLengthsSpec)) openLengthsCard

/-- THE SECOND FORM's CARD OF 'mooringlaw13.OpenMatchesReference'. -/
def openMatchesReferenceUptoCard : Claim7 := { stood := { row := openMatchesReferenceUptoRow, standIns := [], harness := (true, "5b02f7809e461c978857592287506365c2f0afec59d12a884a4243cfb5e58e97"), looks := true }, kinds := [], alts := [], laidByText := true, laidKinds := [.data], laidTests := true, laidLooks := .later }
def OpenMatchesReferenceUptoCardSaid : Prop := Claim7.holds Tryz.pinned (.plain (OpenSpec.upto openMatchesReferenceSpec)) openMatchesReferenceUptoCard

/-- THE SECOND FORM's CARD OF 'mooringlaw13.OpenInverts'. -/
def openInvertsUptoCard : Claim7 := { stood := { row := openInvertsUptoRow, standIns := [], harness := (true, "5b02f7809e461c978857592287506365c2f0afec59d12a884a4243cfb5e58e97"), looks := true }, kinds := [], alts := [], laidByText := true, laidKinds := [.data], laidTests := true, laidLooks := .later }
def OpenInvertsUptoCardSaid : Prop := Claim7.holds Tryz.pinned (.plain (OpenSpec.upto openInvertsSpec)) openInvertsUptoCard

/-- THE SECOND FORM's CARD OF 'mooringlaw13.OpenDecrypts'. -/
def openDecryptsUptoCard : Claim7 := { stood := { row := openDecryptsUptoRow, standIns := [], harness := (true, "5b02f7809e461c978857592287506365c2f0afec59d12a884a4243cfb5e58e97"), looks := true }, kinds := [], alts := [], laidByText := true, laidKinds := [.data], laidTests := true, laidLooks := .later }
def OpenDecryptsUptoCardSaid : Prop := Claim7.holds Tryz.pinned (.plain (OpenSpec.upto openDecryptsSpec)) openDecryptsUptoCard

/-- THE SECOND FORM's CARD OF 'mooringlaw13.OpenTags'. -/
def openTagsUptoCard : Claim7 := { stood := { row := openTagsUptoRow, standIns := [], harness := (true, "5b02f7809e461c978857592287506365c2f0afec59d12a884a4243cfb5e58e97"), looks := true }, kinds := [], alts := [], laidByText := true, laidKinds := [.data], laidTests := true, laidLooks := .later }
def OpenTagsUptoCardSaid : Prop := Claim7.holds Tryz.pinned (.plain (OpenSpec.upto openTagsSpec)) openTagsUptoCard

/-- THE SECOND FORM's CARD OF 'mooringlaw13.OpenLengths'. -/
def openLengthsUptoCard : Claim7 := { stood := { row := openLengthsUptoRow, standIns := [], harness := (true, "5b02f7809e461c978857592287506365c2f0afec59d12a884a4243cfb5e58e97"), looks := true }, kinds := [], alts := [], laidByText := true, laidKinds := [.data], laidTests := true, laidLooks := .later }
def OpenLengthsUptoCardSaid : Prop := Claim7.holds Tryz.pinned (.plain (OpenSpec.upto openLengthsSpec)) openLengthsUptoCard
end Rows
end Go.Proofs.YthfnpjjckpnfbaaGreatDoor
