/-
  DERIVED. GIVEN WITH THE SEED: THE CARDS: each row of YtdfponbfgcfpdaaDoorRows.lean that lists a variable, with what it lists TIED to the program's text (the seventh form; the later family's looks); each row that meets fmt, with fmt's text TOLD by the authors' own Lean function (tested against real Go, not proved from fmt's source: count such statements apart). THE CARD IS WHAT COUNTS. Prove the row's statement (the work); the ties are given (YtdfponbfgcfpdaaDoorTie.lean); close each card by the builder's one call (the guide's Derived/Test/ToyasCard.lean, 'card_holds'). Laid BY PROGRAM, IN A SANDBOX (cutbox-door.mjs). By AI agents, Wed Nov 11 2026. No macro, syntax, notation, axiom, sorry.
-/
import Derived.Test.YtdfponbfgcfpdaaDoorRows
import GoSem.ClaimSeven
namespace Go.Proofs.YtdfponbfgcfpdaaDoor
namespace Rows

/-- THE TIED CARD OF 'mooringlaw05.KeysMatchReference'. -/
def keysMatchReferenceCard : Claim7 := { stood := { row := keysMatchReferenceRow, standIns := [], harness := (true, "658d22d8c2dacec27aa6542bc691d2bc6b4c52ccee59b8b7dda776335fa4d9dd"), looks := false }, kinds := [], alts := [], laidByText := true, laidKinds := [.data], laidTests := true, laidLooks := .later }
def KeysMatchReferenceCardSaid : Prop := Claim7.holds Tryd.pinned (.plain (OpenSpec.ofChange keysMatchReferenceSpec)) keysMatchReferenceCard

/-- THE TIED CARD OF 'mooringlaw05.KeysConstants'. -/
def keysConstantsCard : Claim7 := { stood := { row := keysConstantsRow, standIns := [], harness := (true, "658d22d8c2dacec27aa6542bc691d2bc6b4c52ccee59b8b7dda776335fa4d9dd"), looks := false }, kinds := [], alts := [], laidByText := true, laidKinds := [.data], laidTests := true, laidLooks := .later }
def KeysConstantsCardSaid : Prop := Claim7.holds Tryd.pinned (.plain (OpenSpec.ofChange keysConstantsSpec)) keysConstantsCard

/-- THE TIED CARD OF 'mooringlaw05.KeysRestore'. -/
def keysRestoreCard : Claim7 := { stood := { row := keysRestoreRow, standIns := [], harness := (true, "658d22d8c2dacec27aa6542bc691d2bc6b4c52ccee59b8b7dda776335fa4d9dd"), looks := false }, kinds := [], alts := [], laidByText := true, laidKinds := [.data], laidTests := true, laidLooks := .later }
def KeysRestoreCardSaid : Prop := Claim7.holds Tryd.pinned (.plain (OpenSpec.ofChange keysRestoreSpec)) keysRestoreCard

/-- THE TIED CARD OF 'mooringlaw05.KeysApart'. -/
def keysApartCard : Claim7 := { stood := { row := keysApartRow, standIns := [], harness := (true, "658d22d8c2dacec27aa6542bc691d2bc6b4c52ccee59b8b7dda776335fa4d9dd"), looks := false }, kinds := [], alts := [], laidByText := true, laidKinds := [.data], laidTests := true, laidLooks := .later }
def KeysApartCardSaid : Prop := Claim7.holds Tryd.pinned (.plain (OpenSpec.ofChange keysApartSpec)) keysApartCard

/-- THE TIED CARD OF 'mooringlaw05.KeysFollow'. -/
def keysFollowCard : Claim7 := { stood := { row := keysFollowRow, standIns := [], harness := (true, "658d22d8c2dacec27aa6542bc691d2bc6b4c52ccee59b8b7dda776335fa4d9dd"), looks := false }, kinds := [], alts := [], laidByText := true, laidKinds := [.data], laidTests := true, laidLooks := .later }
def KeysFollowCardSaid : Prop := Claim7.holds Tryd.pinned (.plain (OpenSpec.ofChange keysFollowSpec)) keysFollowCard

/-- THE SECOND FORM's CARD OF 'mooringlaw05.KeysMatchReference'. -/
def keysMatchReferenceUptoCard : Claim7 := { stood := { row := keysMatchReferenceUptoRow, standIns := [], harness := (true, "658d22d8c2dacec27aa6542bc691d2bc6b4c52ccee59b8b7dda776335fa4d9dd"), looks := false }, kinds := [], alts := [], laidByText := true, laidKinds := [.data], laidTests := true, laidLooks := .later }
def KeysMatchReferenceUptoCardSaid : Prop := Claim7.holds Tryd.pinned (.plain (OpenSpec.upto keysMatchReferenceSpec)) keysMatchReferenceUptoCard

/-- THE SECOND FORM's CARD OF 'mooringlaw05.KeysConstants'. -/
def keysConstantsUptoCard : Claim7 := { stood := { row := keysConstantsUptoRow, standIns := [], harness := (true, "658d22d8c2dacec27aa6542bc691d2bc6b4c52ccee59b8b7dda776335fa4d9dd"), looks := false }, kinds := [], alts := [], laidByText := true, laidKinds := [.data], laidTests := true, laidLooks := .later }
def KeysConstantsUptoCardSaid : Prop := Claim7.holds Tryd.pinned (.plain (OpenSpec.upto keysConstantsSpec)) keysConstantsUptoCard

/-- THE SECOND FORM's CARD OF 'mooringlaw05.KeysRestore'. -/
def keysRestoreUptoCard : Claim7 := { stood := { row := keysRestoreUptoRow, standIns := [], harness := (true, "658d22d8c2dacec27aa6542bc691d2bc6b4c52ccee59b8b7dda776335fa4d9dd"), looks := false }, kinds := [], alts := [], laidByText := true, laidKinds := [.data], laidTests := true, laidLooks := .later }
def KeysRestoreUptoCardSaid : Prop := Claim7.holds Tryd.pinned (.plain (OpenSpec.upto keysRestoreSpec)) keysRestoreUptoCard

/-- THE SECOND FORM's CARD OF 'mooringlaw05.KeysApart'. -/
def keysApartUptoCard : Claim7 := { stood := { row := keysApartUptoRow, standIns := [], harness := (true, "658d22d8c2dacec27aa6542bc691d2bc6b4c52ccee59b8b7dda776335fa4d9dd"), looks := false }, kinds := [], alts := [], laidByText := true, laidKinds := [.data], laidTests := true, laidLooks := .later }
def KeysApartUptoCardSaid : Prop := Claim7.holds Tryd.pinned (.plain (OpenSpec.upto keysApartSpec)) keysApartUptoCard

/-- THE SECOND FORM's CARD OF 'mooringlaw05.KeysFollow'. -/
def keysFollowUptoCard : Claim7 := { stood := { row := keysFollowUptoRow, standIns := [], harness := (true, "658d22d8c2dacec27aa6542bc691d2bc6b4c52ccee59b8b7dda776335fa4d9dd"), looks := false }, kinds := [], alts := [], laidByText := true, laidKinds := [.data], laidTests := true, laidLooks := .later }
def KeysFollowUptoCardSaid : Prop := Claim7.holds Tryd.pinned (.plain (OpenSpec.upto keysFollowSpec)) keysFollowUptoCard
end Rows
end Go.Proofs.YtdfponbfgcfpdaaDoor
