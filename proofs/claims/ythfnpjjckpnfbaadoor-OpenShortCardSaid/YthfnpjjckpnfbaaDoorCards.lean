/-
  DERIVED. GIVEN WITH THE SEED: THE CARDS: each row of YthfnpjjckpnfbaaDoorRows.lean that lists a variable, with what it lists TIED to the program's text (the seventh form; the later family's looks); each row that meets fmt, with fmt's text TOLD by the authors' own Lean function (tested against real Go, not proved from fmt's source: count such statements apart). THE CARD IS WHAT COUNTS. Prove the row's statement (the work); the ties are given (YthfnpjjckpnfbaaDoorTie.lean); close each card by the builder's one call (the guide's Derived/Test/ToyasCard.lean, 'card_holds'). Laid BY PROGRAM, IN A SANDBOX (cutbox-door.mjs). By AI agents, Wed Nov 11 2026. No macro, syntax, notation, axiom, sorry.
-/
import Derived.Test.YthfnpjjckpnfbaaDoorRows
import GoSem.ClaimSeven
namespace Go.Proofs.YthfnpjjckpnfbaaDoor
namespace Rows

/-- THE TIED CARD OF 'mooringlaw13.OpenShort'. -/
def openShortCard : Claim7 := { stood := { row := openShortRow, standIns := [], harness := (true, "91501cfe434d66c3c4c4136e3688a5cdf43af08f23cad4421341127a8f89e122"), looks := true }, kinds := [], alts := [], laidByText := true, laidKinds := [.data], laidTests := true, laidLooks := .later }
def OpenShortCardSaid : Prop := Claim7.holds Tryd.pinned (.plain (OpenSpec.ofChange openShortSpec)) openShortCard

/-- THE SECOND FORM's CARD OF 'mooringlaw13.OpenShort'. -/
def openShortUptoCard : Claim7 := { stood := { row := openShortUptoRow, standIns := [], harness := (true, "91501cfe434d66c3c4c4136e3688a5cdf43af08f23cad4421341127a8f89e122"), looks := true }, kinds := [], alts := [], laidByText := true, laidKinds := [.data], laidTests := true, laidLooks := .later }
def OpenShortUptoCardSaid : Prop := Claim7.holds Tryd.pinned (.plain (OpenSpec.upto openShortSpec)) openShortUptoCard
end Rows
end Go.Proofs.YthfnpjjckpnfbaaDoor
