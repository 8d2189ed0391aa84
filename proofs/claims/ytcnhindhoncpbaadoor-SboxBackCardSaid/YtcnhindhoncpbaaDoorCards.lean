/-
  DERIVED. GIVEN WITH THE SEED: THE CARDS: each row of YtcnhindhoncpbaaDoorRows.lean that lists a variable, with what it lists TIED to the program's text (the seventh form; the later family's looks); each row that meets fmt, with fmt's text TOLD by the authors' own Lean function (tested against real Go, not proved from fmt's source: count such statements apart). THE CARD IS WHAT COUNTS. Prove the row's statement (the work); the ties are given (YtcnhindhoncpbaaDoorTie.lean); close each card by the builder's one call (the guide's Derived/Test/ToyasCard.lean, 'card_holds'). Laid BY PROGRAM, IN A SANDBOX (cutbox-door.mjs). By AI agents, Wed Nov 11 2026. No macro, syntax, notation, axiom, sorry.
-/
import Derived.Test.YtcnhindhoncpbaaDoorRows
import GoSem.ClaimSeven
namespace Go.Proofs.YtcnhindhoncpbaaDoor
namespace Rows

/-- THE TIED CARD OF 'mooringlaw04.SboxMatchesReference'. -/
def sboxMatchesReferenceCard : Claim7 := { stood := { row := sboxMatchesReferenceRow, standIns := [], harness := (true, "d6e159251990bbc0717170cc61b6c0f9281e8526815b1160530ca6d7d4d34fb1"), looks := false }, kinds := [], alts := [], laidByText := true, laidKinds := [.data], laidTests := true, laidLooks := .later }
def SboxMatchesReferenceCardSaid : Prop := Claim7.holds Tryd.pinned (.plain (OpenSpec.ofChange sboxMatchesReferenceSpec)) sboxMatchesReferenceCard

/-- THE TIED CARD OF 'mooringlaw04.SboxBack'. -/
def sboxBackCard : Claim7 := { stood := { row := sboxBackRow, standIns := [], harness := (true, "d6e159251990bbc0717170cc61b6c0f9281e8526815b1160530ca6d7d4d34fb1"), looks := false }, kinds := [], alts := [], laidByText := true, laidKinds := [.data], laidTests := true, laidLooks := .later }
def SboxBackCardSaid : Prop := Claim7.holds Tryd.pinned (.plain (OpenSpec.ofChange sboxBackSpec)) sboxBackCard

/-- THE TIED CARD OF 'mooringlaw04.SboxWords'. -/
def sboxWordsCard : Claim7 := { stood := { row := sboxWordsRow, standIns := [], harness := (true, "d6e159251990bbc0717170cc61b6c0f9281e8526815b1160530ca6d7d4d34fb1"), looks := false }, kinds := [], alts := [], laidByText := true, laidKinds := [.data], laidTests := true, laidLooks := .later }
def SboxWordsCardSaid : Prop := Claim7.holds Tryd.pinned (.plain (OpenSpec.ofChange sboxWordsSpec)) sboxWordsCard

/-- THE TIED CARD OF 'mooringlaw04.SboxFixed'. -/
def sboxFixedCard : Claim7 := { stood := { row := sboxFixedRow, standIns := [], harness := (true, "d6e159251990bbc0717170cc61b6c0f9281e8526815b1160530ca6d7d4d34fb1"), looks := false }, kinds := [], alts := [], laidByText := true, laidKinds := [.data], laidTests := true, laidLooks := .later }
def SboxFixedCardSaid : Prop := Claim7.holds Tryd.pinned (.plain (OpenSpec.ofChange sboxFixedSpec)) sboxFixedCard

/-- THE SECOND FORM's CARD OF 'mooringlaw04.SboxMatchesReference'. -/
def sboxMatchesReferenceUptoCard : Claim7 := { stood := { row := sboxMatchesReferenceUptoRow, standIns := [], harness := (true, "d6e159251990bbc0717170cc61b6c0f9281e8526815b1160530ca6d7d4d34fb1"), looks := false }, kinds := [], alts := [], laidByText := true, laidKinds := [.data], laidTests := true, laidLooks := .later }
def SboxMatchesReferenceUptoCardSaid : Prop := Claim7.holds Tryd.pinned (.plain (OpenSpec.upto sboxMatchesReferenceSpec)) sboxMatchesReferenceUptoCard

/-- THE SECOND FORM's CARD OF 'mooringlaw04.SboxBack'. -/
def sboxBackUptoCard : Claim7 := { stood := { row := sboxBackUptoRow, standIns := [], harness := (true, "d6e159251990bbc0717170cc61b6c0f9281e8526815b1160530ca6d7d4d34fb1"), looks := false }, kinds := [], alts := [], laidByText := true, laidKinds := [.data], laidTests := true, laidLooks := .later }
def SboxBackUptoCardSaid : Prop := Claim7.holds Tryd.pinned (.plain (OpenSpec.upto sboxBackSpec)) sboxBackUptoCard

/-- THE SECOND FORM's CARD OF 'mooringlaw04.SboxWords'. -/
def sboxWordsUptoCard : Claim7 := { stood := { row := sboxWordsUptoRow, standIns := [], harness := (true, "d6e159251990bbc0717170cc61b6c0f9281e8526815b1160530ca6d7d4d34fb1"), looks := false }, kinds := [], alts := [], laidByText := true, laidKinds := [.data], laidTests := true, laidLooks := .later }
def SboxWordsUptoCardSaid : Prop := Claim7.holds Tryd.pinned (.plain (OpenSpec.upto sboxWordsSpec)) sboxWordsUptoCard

/-- THE SECOND FORM's CARD OF 'mooringlaw04.SboxFixed'. -/
def sboxFixedUptoCard : Claim7 := { stood := { row := sboxFixedUptoRow, standIns := [], harness := (true, "d6e159251990bbc0717170cc61b6c0f9281e8526815b1160530ca6d7d4d34fb1"), looks := false }, kinds := [], alts := [], laidByText := true, laidKinds := [.data], laidTests := true, laidLooks := .later }
def SboxFixedUptoCardSaid : Prop := Claim7.holds Tryd.pinned (.plain (OpenSpec.upto sboxFixedSpec)) sboxFixedUptoCard
end Rows
end Go.Proofs.YtcnhindhoncpbaaDoor
