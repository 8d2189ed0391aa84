/-
  DERIVED. GIVEN WITH THE SEED: THE CARDS: each row of YtejgeefhnpeejaaDoorRows.lean that lists a variable, with what it lists TIED to the program's text (the seventh form; the later family's looks); each row that meets fmt, with fmt's text TOLD by the authors' own Lean function (tested against real Go, not proved from fmt's source: count such statements apart). THE CARD IS WHAT COUNTS. Prove the row's statement (the work); the ties are given (YtejgeefhnpeejaaDoorTie.lean); close each card by the builder's one call (the guide's Derived/Test/ToyasCard.lean, 'card_holds'). Laid BY PROGRAM, IN A SANDBOX (cutbox-door.mjs). By AI agents, Wed Nov 11 2026. No macro, syntax, notation, axiom, sorry.
-/
import Derived.Test.YtejgeefhnpeejaaDoorRows
import GoSem.ClaimSeven
namespace Go.Proofs.YtejgeefhnpeejaaDoor
namespace Rows

/-- THE TIED CARD OF 'mooringlaw07.FastMatchesReference'. -/
def fastMatchesReferenceCard : Claim7 := { stood := { row := fastMatchesReferenceRow, standIns := [], harness := (true, "481e383b50ba7f0bae99e8779cc2958fb9b8d97f67210d02828cc2a5731f0645"), looks := false }, kinds := [], alts := [], laidByText := true, laidKinds := [.data], laidTests := true, laidLooks := .later }
def FastMatchesReferenceCardSaid : Prop := Claim7.holds Tryd.pinned (.plain (OpenSpec.ofChange fastMatchesReferenceSpec)) fastMatchesReferenceCard

/-- THE TIED CARD OF 'mooringlaw07.FastBack'. -/
def fastBackCard : Claim7 := { stood := { row := fastBackRow, standIns := [], harness := (true, "481e383b50ba7f0bae99e8779cc2958fb9b8d97f67210d02828cc2a5731f0645"), looks := false }, kinds := [], alts := [], laidByText := true, laidKinds := [.data], laidTests := true, laidLooks := .later }
def FastBackCardSaid : Prop := Claim7.holds Tryd.pinned (.plain (OpenSpec.ofChange fastBackSpec)) fastBackCard

/-- THE TIED CARD OF 'mooringlaw07.FastLists'. -/
def fastListsCard : Claim7 := { stood := { row := fastListsRow, standIns := [], harness := (true, "481e383b50ba7f0bae99e8779cc2958fb9b8d97f67210d02828cc2a5731f0645"), looks := false }, kinds := [], alts := [], laidByText := true, laidKinds := [.data], laidTests := true, laidLooks := .later }
def FastListsCardSaid : Prop := Claim7.holds Tryd.pinned (.plain (OpenSpec.ofChange fastListsSpec)) fastListsCard

/-- THE TIED CARD OF 'mooringlaw07.FastNil'. -/
def fastNilCard : Claim7 := { stood := { row := fastNilRow, standIns := [], harness := (true, "481e383b50ba7f0bae99e8779cc2958fb9b8d97f67210d02828cc2a5731f0645"), looks := false }, kinds := [], alts := [], laidByText := true, laidKinds := [.data], laidTests := true, laidLooks := .later }
def FastNilCardSaid : Prop := Claim7.holds Tryd.pinned (.plain (OpenSpec.ofChange fastNilSpec)) fastNilCard

/-- THE TIED CARD OF 'mooringlaw07.FastChains'. -/
def fastChainsCard : Claim7 := { stood := { row := fastChainsRow, standIns := [], harness := (true, "481e383b50ba7f0bae99e8779cc2958fb9b8d97f67210d02828cc2a5731f0645"), looks := false }, kinds := [], alts := [], laidByText := true, laidKinds := [.data], laidTests := true, laidLooks := .later }
def FastChainsCardSaid : Prop := Claim7.holds Tryd.pinned (.plain (OpenSpec.ofChange fastChainsSpec)) fastChainsCard

/-- THE SECOND FORM's CARD OF 'mooringlaw07.FastMatchesReference'. -/
def fastMatchesReferenceUptoCard : Claim7 := { stood := { row := fastMatchesReferenceUptoRow, standIns := [], harness := (true, "481e383b50ba7f0bae99e8779cc2958fb9b8d97f67210d02828cc2a5731f0645"), looks := false }, kinds := [], alts := [], laidByText := true, laidKinds := [.data], laidTests := true, laidLooks := .later }
def FastMatchesReferenceUptoCardSaid : Prop := Claim7.holds Tryd.pinned (.plain (OpenSpec.upto fastMatchesReferenceSpec)) fastMatchesReferenceUptoCard

/-- THE SECOND FORM's CARD OF 'mooringlaw07.FastBack'. -/
def fastBackUptoCard : Claim7 := { stood := { row := fastBackUptoRow, standIns := [], harness := (true, "481e383b50ba7f0bae99e8779cc2958fb9b8d97f67210d02828cc2a5731f0645"), looks := false }, kinds := [], alts := [], laidByText := true, laidKinds := [.data], laidTests := true, laidLooks := .later }
def FastBackUptoCardSaid : Prop := Claim7.holds Tryd.pinned (.plain (OpenSpec.upto fastBackSpec)) fastBackUptoCard

/-- THE SECOND FORM's CARD OF 'mooringlaw07.FastLists'. -/
def fastListsUptoCard : Claim7 := { stood := { row := fastListsUptoRow, standIns := [], harness := (true, "481e383b50ba7f0bae99e8779cc2958fb9b8d97f67210d02828cc2a5731f0645"), looks := false }, kinds := [], alts := [], laidByText := true, laidKinds := [.data], laidTests := true, laidLooks := .later }
def FastListsUptoCardSaid : Prop := Claim7.holds Tryd.pinned (.plain (OpenSpec.upto fastListsSpec)) fastListsUptoCard

/-- THE SECOND FORM's CARD OF 'mooringlaw07.FastNil'. -/
def fastNilUptoCard : Claim7 := { stood := { row := fastNilUptoRow, standIns := [], harness := (true, "481e383b50ba7f0bae99e8779cc2958fb9b8d97f67210d02828cc2a5731f0645"), looks := false }, kinds := [], alts := [], laidByText := true, laidKinds := [.data], laidTests := true, laidLooks := .later }
def FastNilUptoCardSaid : Prop := Claim7.holds Tryd.pinned (.plain (OpenSpec.upto fastNilSpec)) fastNilUptoCard

/-- THE SECOND FORM's CARD OF 'mooringlaw07.FastChains'. -/
def fastChainsUptoCard : Claim7 := { stood := { row := fastChainsUptoRow, standIns := [], harness := (true, "481e383b50ba7f0bae99e8779cc2958fb9b8d97f67210d02828cc2a5731f0645"), looks := false }, kinds := [], alts := [], laidByText := true, laidKinds := [.data], laidTests := true, laidLooks := .later }
def FastChainsUptoCardSaid : Prop := Claim7.holds Tryd.pinned (.plain (OpenSpec.upto fastChainsSpec)) fastChainsUptoCard
end Rows
end Go.Proofs.YtejgeefhnpeejaaDoor
