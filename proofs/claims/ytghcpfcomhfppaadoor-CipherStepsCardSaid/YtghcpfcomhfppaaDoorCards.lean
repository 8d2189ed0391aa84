/-
  DERIVED. GIVEN WITH THE SEED: THE CARDS: each row of YtghcpfcomhfppaaDoorRows.lean that lists a variable, with what it lists TIED to the program's text (the seventh form; the later family's looks); each row that meets fmt, with fmt's text TOLD by the authors' own Lean function (tested against real Go, not proved from fmt's source: count such statements apart). THE CARD IS WHAT COUNTS. Prove the row's statement (the work); the ties are given (YtghcpfcomhfppaaDoorTie.lean); close each card by the builder's one call (the guide's Derived/Test/ToyasCard.lean, 'card_holds'). Laid BY PROGRAM, IN A SANDBOX (cutbox-door.mjs). By AI agents, Wed Nov 11 2026. No macro, syntax, notation, axiom, sorry.
-/
import Derived.Test.YtghcpfcomhfppaaDoorRows
import GoSem.ClaimSeven
namespace Go.Proofs.YtghcpfcomhfppaaDoor
namespace Rows

/-- THE TIED CARD OF 'mooringlaw06.CipherMatchesReference'. -/
def cipherMatchesReferenceCard : Claim7 := { stood := { row := cipherMatchesReferenceRow, standIns := [], harness := (true, "179b1dabf1e57106535342d506cfc1c9763762f76412be2b156f5afe05dfaf53"), looks := false }, kinds := [], alts := [], laidByText := true, laidKinds := [.data], laidTests := true, laidLooks := .later }
def CipherMatchesReferenceCardSaid : Prop := Claim7.holds Tryd.pinned (.plain (OpenSpec.ofChange cipherMatchesReferenceSpec)) cipherMatchesReferenceCard

/-- THE TIED CARD OF 'mooringlaw06.CipherSteps'. -/
def cipherStepsCard : Claim7 := { stood := { row := cipherStepsRow, standIns := [], harness := (true, "179b1dabf1e57106535342d506cfc1c9763762f76412be2b156f5afe05dfaf53"), looks := false }, kinds := [], alts := [], laidByText := true, laidKinds := [.data], laidTests := true, laidLooks := .later }
def CipherStepsCardSaid : Prop := Claim7.holds Tryd.pinned (.plain (OpenSpec.ofChange cipherStepsSpec)) cipherStepsCard

/-- THE TIED CARD OF 'mooringlaw06.CipherBack'. -/
def cipherBackCard : Claim7 := { stood := { row := cipherBackRow, standIns := [], harness := (true, "179b1dabf1e57106535342d506cfc1c9763762f76412be2b156f5afe05dfaf53"), looks := false }, kinds := [], alts := [], laidByText := true, laidKinds := [.data], laidTests := true, laidLooks := .later }
def CipherBackCardSaid : Prop := Claim7.holds Tryd.pinned (.plain (OpenSpec.ofChange cipherBackSpec)) cipherBackCard

/-- THE TIED CARD OF 'mooringlaw06.CipherLinear'. -/
def cipherLinearCard : Claim7 := { stood := { row := cipherLinearRow, standIns := [], harness := (true, "179b1dabf1e57106535342d506cfc1c9763762f76412be2b156f5afe05dfaf53"), looks := false }, kinds := [], alts := [], laidByText := true, laidKinds := [.data], laidTests := true, laidLooks := .later }
def CipherLinearCardSaid : Prop := Claim7.holds Tryd.pinned (.plain (OpenSpec.ofChange cipherLinearSpec)) cipherLinearCard

/-- THE TIED CARD OF 'mooringlaw06.CipherRounds'. -/
def cipherRoundsCard : Claim7 := { stood := { row := cipherRoundsRow, standIns := [], harness := (true, "179b1dabf1e57106535342d506cfc1c9763762f76412be2b156f5afe05dfaf53"), looks := false }, kinds := [], alts := [], laidByText := true, laidKinds := [.data], laidTests := true, laidLooks := .later }
def CipherRoundsCardSaid : Prop := Claim7.holds Tryd.pinned (.plain (OpenSpec.ofChange cipherRoundsSpec)) cipherRoundsCard

/-- THE SECOND FORM's CARD OF 'mooringlaw06.CipherMatchesReference'. -/
def cipherMatchesReferenceUptoCard : Claim7 := { stood := { row := cipherMatchesReferenceUptoRow, standIns := [], harness := (true, "179b1dabf1e57106535342d506cfc1c9763762f76412be2b156f5afe05dfaf53"), looks := false }, kinds := [], alts := [], laidByText := true, laidKinds := [.data], laidTests := true, laidLooks := .later }
def CipherMatchesReferenceUptoCardSaid : Prop := Claim7.holds Tryd.pinned (.plain (OpenSpec.upto cipherMatchesReferenceSpec)) cipherMatchesReferenceUptoCard

/-- THE SECOND FORM's CARD OF 'mooringlaw06.CipherSteps'. -/
def cipherStepsUptoCard : Claim7 := { stood := { row := cipherStepsUptoRow, standIns := [], harness := (true, "179b1dabf1e57106535342d506cfc1c9763762f76412be2b156f5afe05dfaf53"), looks := false }, kinds := [], alts := [], laidByText := true, laidKinds := [.data], laidTests := true, laidLooks := .later }
def CipherStepsUptoCardSaid : Prop := Claim7.holds Tryd.pinned (.plain (OpenSpec.upto cipherStepsSpec)) cipherStepsUptoCard

/-- THE SECOND FORM's CARD OF 'mooringlaw06.CipherBack'. -/
def cipherBackUptoCard : Claim7 := { stood := { row := cipherBackUptoRow, standIns := [], harness := (true, "179b1dabf1e57106535342d506cfc1c9763762f76412be2b156f5afe05dfaf53"), looks := false }, kinds := [], alts := [], laidByText := true, laidKinds := [.data], laidTests := true, laidLooks := .later }
def CipherBackUptoCardSaid : Prop := Claim7.holds Tryd.pinned (.plain (OpenSpec.upto cipherBackSpec)) cipherBackUptoCard

/-- THE SECOND FORM's CARD OF 'mooringlaw06.CipherLinear'. -/
def cipherLinearUptoCard : Claim7 := { stood := { row := cipherLinearUptoRow, standIns := [], harness := (true, "179b1dabf1e57106535342d506cfc1c9763762f76412be2b156f5afe05dfaf53"), looks := false }, kinds := [], alts := [], laidByText := true, laidKinds := [.data], laidTests := true, laidLooks := .later }
def CipherLinearUptoCardSaid : Prop := Claim7.holds Tryd.pinned (.plain (OpenSpec.upto cipherLinearSpec)) cipherLinearUptoCard

/-- THE SECOND FORM's CARD OF 'mooringlaw06.CipherRounds'. -/
def cipherRoundsUptoCard : Claim7 := { stood := { row := cipherRoundsUptoRow, standIns := [], harness := (true, "179b1dabf1e57106535342d506cfc1c9763762f76412be2b156f5afe05dfaf53"), looks := false }, kinds := [], alts := [], laidByText := true, laidKinds := [.data], laidTests := true, laidLooks := .later }
def CipherRoundsUptoCardSaid : Prop := Claim7.holds Tryd.pinned (.plain (OpenSpec.upto cipherRoundsSpec)) cipherRoundsUptoCard
end Rows
end Go.Proofs.YtghcpfcomhfppaaDoor
