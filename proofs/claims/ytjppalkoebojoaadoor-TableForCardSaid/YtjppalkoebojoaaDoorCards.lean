/-
  DERIVED. GIVEN WITH THE SEED: THE CARDS: each row of YtjppalkoebojoaaDoorRows.lean that lists a variable, with what it lists TIED to the program's text (the seventh form; the later family's looks); each row that meets fmt, with fmt's text TOLD by the authors' own Lean function (tested against real Go, not proved from fmt's source: count such statements apart). THE CARD IS WHAT COUNTS. Prove the row's statement (the work); the ties are given (YtjppalkoebojoaaDoorTie.lean); close each card by the builder's one call (the guide's Derived/Test/ToyasCard.lean, 'card_holds'). Laid BY PROGRAM, IN A SANDBOX (cutbox-door.mjs). By AI agents, Wed Nov 11 2026. No macro, syntax, notation, axiom, sorry.
-/
import Derived.Test.YtjppalkoebojoaaDoorRows
import GoSem.ClaimSeven
namespace Go.Proofs.YtjppalkoebojoaaDoor
namespace Rows

/-- THE TIED CARD OF 'mooringlaw09.TableMatchesReference'. -/
def tableMatchesReferenceCard : Claim7 := { stood := { row := tableMatchesReferenceRow, standIns := [], harness := (true, "7450f27764dd7a783c9a9ad31153827fc9ee49abe72c4650d79b4ea9df21bd15"), looks := false }, kinds := [], alts := [], laidByText := true, laidKinds := [.data], laidTests := true, laidLooks := .later }
def TableMatchesReferenceCardSaid : Prop := Claim7.holds Tryd.pinned (.plain (OpenSpec.ofChange tableMatchesReferenceSpec)) tableMatchesReferenceCard

/-- THE TIED CARD OF 'mooringlaw09.TableFor'. -/
def tableForCard : Claim7 := { stood := { row := tableForRow, standIns := [], harness := (true, "7450f27764dd7a783c9a9ad31153827fc9ee49abe72c4650d79b4ea9df21bd15"), looks := false }, kinds := [], alts := [], laidByText := true, laidKinds := [.data], laidTests := true, laidLooks := .later }
def TableForCardSaid : Prop := Claim7.holds Tryd.pinned (.plain (OpenSpec.ofChange tableForSpec)) tableForCard

/-- THE TIED CARD OF 'mooringlaw09.TableNil'. -/
def tableNilCard : Claim7 := { stood := { row := tableNilRow, standIns := [], harness := (true, "7450f27764dd7a783c9a9ad31153827fc9ee49abe72c4650d79b4ea9df21bd15"), looks := false }, kinds := [], alts := [], laidByText := true, laidKinds := [.data], laidTests := true, laidLooks := .later }
def TableNilCardSaid : Prop := Claim7.holds Tryd.pinned (.plain (OpenSpec.ofChange tableNilSpec)) tableNilCard

/-- THE TIED CARD OF 'mooringlaw09.TableLinear'. -/
def tableLinearCard : Claim7 := { stood := { row := tableLinearRow, standIns := [], harness := (true, "7450f27764dd7a783c9a9ad31153827fc9ee49abe72c4650d79b4ea9df21bd15"), looks := false }, kinds := [], alts := [], laidByText := true, laidKinds := [.data], laidTests := true, laidLooks := .later }
def TableLinearCardSaid : Prop := Claim7.holds Tryd.pinned (.plain (OpenSpec.ofChange tableLinearSpec)) tableLinearCard

/-- THE SECOND FORM's CARD OF 'mooringlaw09.TableMatchesReference'. -/
def tableMatchesReferenceUptoCard : Claim7 := { stood := { row := tableMatchesReferenceUptoRow, standIns := [], harness := (true, "7450f27764dd7a783c9a9ad31153827fc9ee49abe72c4650d79b4ea9df21bd15"), looks := false }, kinds := [], alts := [], laidByText := true, laidKinds := [.data], laidTests := true, laidLooks := .later }
def TableMatchesReferenceUptoCardSaid : Prop := Claim7.holds Tryd.pinned (.plain (OpenSpec.upto tableMatchesReferenceSpec)) tableMatchesReferenceUptoCard

/-- THE SECOND FORM's CARD OF 'mooringlaw09.TableFor'. -/
def tableForUptoCard : Claim7 := { stood := { row := tableForUptoRow, standIns := [], harness := (true, "7450f27764dd7a783c9a9ad31153827fc9ee49abe72c4650d79b4ea9df21bd15"), looks := false }, kinds := [], alts := [], laidByText := true, laidKinds := [.data], laidTests := true, laidLooks := .later }
def TableForUptoCardSaid : Prop := Claim7.holds Tryd.pinned (.plain (OpenSpec.upto tableForSpec)) tableForUptoCard

/-- THE SECOND FORM's CARD OF 'mooringlaw09.TableNil'. -/
def tableNilUptoCard : Claim7 := { stood := { row := tableNilUptoRow, standIns := [], harness := (true, "7450f27764dd7a783c9a9ad31153827fc9ee49abe72c4650d79b4ea9df21bd15"), looks := false }, kinds := [], alts := [], laidByText := true, laidKinds := [.data], laidTests := true, laidLooks := .later }
def TableNilUptoCardSaid : Prop := Claim7.holds Tryd.pinned (.plain (OpenSpec.upto tableNilSpec)) tableNilUptoCard

/-- THE SECOND FORM's CARD OF 'mooringlaw09.TableLinear'. -/
def tableLinearUptoCard : Claim7 := { stood := { row := tableLinearUptoRow, standIns := [], harness := (true, "7450f27764dd7a783c9a9ad31153827fc9ee49abe72c4650d79b4ea9df21bd15"), looks := false }, kinds := [], alts := [], laidByText := true, laidKinds := [.data], laidTests := true, laidLooks := .later }
def TableLinearUptoCardSaid : Prop := Claim7.holds Tryd.pinned (.plain (OpenSpec.upto tableLinearSpec)) tableLinearUptoCard
end Rows
end Go.Proofs.YtjppalkoebojoaaDoor
