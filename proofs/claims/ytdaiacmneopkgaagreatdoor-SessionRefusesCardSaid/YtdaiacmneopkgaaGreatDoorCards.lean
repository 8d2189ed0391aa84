/-
  DERIVED. GIVEN WITH THE SEED: THE CARDS: each row of YtdaiacmneopkgaaGreatDoorRows.lean that lists a variable, with what it lists TIED to the program's text (the seventh form; the later family's looks); each row that meets fmt, with fmt's text TOLD by the authors' own Lean function (tested against real Go, not proved from fmt's source: count such statements apart). THE CARD IS WHAT COUNTS. Prove the row's statement (the work); the ties are given (YtdaiacmneopkgaaGreatDoorTie.lean); close each card by the builder's one call (the guide's Derived/Test/ToyasCard.lean, 'card_holds'). Laid BY PROGRAM, IN A SANDBOX (cutbox-door.mjs). By AI agents, Wed Nov 11 2026. No macro, syntax, notation, axiom, sorry.
-/
import Derived.Test.YtdaiacmneopkgaaGreatDoorRows
import GoSem.ClaimSeven
namespace Go.Proofs.YtdaiacmneopkgaaGreatDoor
namespace Rows

/-- THE TIED CARD OF 'mooringlaw22.SessionMatchesReference'. -/
def sessionMatchesReferenceCard : Claim7 := { stood := { row := sessionMatchesReferenceRow, standIns := [], harness := (true, "86287ca5e36e5fad95631cbd3caa5e206181f297d3d99463523adb38982ce2fb"), looks := true }, kinds := [], alts := [], laidByText := true, laidKinds := [.data], laidTests := true, laidLooks := .later }
def SessionMatchesReferenceCardSaid : Prop := Claim7.holds Tryz.pinned (.plain (OpenSpec.ofChange sessionMatchesReferenceSpec)) sessionMatchesReferenceCard

/-- THE TIED CARD OF 'mooringlaw22.SessionNumbers'. -/
def sessionNumbersCard : Claim7 := { stood := { row := sessionNumbersRow, standIns := [], harness := (true, "86287ca5e36e5fad95631cbd3caa5e206181f297d3d99463523adb38982ce2fb"), looks := true }, kinds := [], alts := [], laidByText := true, laidKinds := [.data], laidTests := true, laidLooks := .later }
def SessionNumbersCardSaid : Prop := Claim7.holds Tryz.pinned (.plain (OpenSpec.ofChange sessionNumbersSpec)) sessionNumbersCard

/-- THE TIED CARD OF 'mooringlaw22.SessionRefuses'. -/
def sessionRefusesCard : Claim7 := { stood := { row := sessionRefusesRow, standIns := [], harness := (true, "86287ca5e36e5fad95631cbd3caa5e206181f297d3d99463523adb38982ce2fb"), looks := true }, kinds := [], alts := [], laidByText := true, laidKinds := [.data], laidTests := true, laidLooks := .later }
def SessionRefusesCardSaid : Prop := Claim7.holds Tryz.pinned (.plain (OpenSpec.ofChange sessionRefusesSpec)) sessionRefusesCard

/-- THE TIED CARD OF 'mooringlaw22.SessionNil'. -/
def sessionNilCard : Claim7 := { stood := { row := sessionNilRow, standIns := [], harness := (true, "86287ca5e36e5fad95631cbd3caa5e206181f297d3d99463523adb38982ce2fb"), looks := true }, kinds := [], alts := [], laidByText := true, laidKinds := [.data], laidTests := true, laidLooks := .later }
def SessionNilCardSaid : Prop := Claim7.holds Tryz.pinned (.plain (OpenSpec.ofChange sessionNilSpec)) sessionNilCard

/-- THE TIED CARD OF 'mooringlaw22.SessionRoams'. -/
def sessionRoamsCard : Claim7 := { stood := { row := sessionRoamsRow, standIns := [], harness := (true, "86287ca5e36e5fad95631cbd3caa5e206181f297d3d99463523adb38982ce2fb"), looks := true }, kinds := [], alts := [], laidByText := true, laidKinds := [.data], laidTests := true, laidLooks := .later }
def SessionRoamsCardSaid : Prop := Claim7.holds Tryz.pinned (.plain (OpenSpec.ofChange sessionRoamsSpec)) sessionRoamsCard

/-- THE SECOND FORM's CARD OF 'mooringlaw22.SessionMatchesReference'. -/
def sessionMatchesReferenceUptoCard : Claim7 := { stood := { row := sessionMatchesReferenceUptoRow, standIns := [], harness := (true, "86287ca5e36e5fad95631cbd3caa5e206181f297d3d99463523adb38982ce2fb"), looks := true }, kinds := [], alts := [], laidByText := true, laidKinds := [.data], laidTests := true, laidLooks := .later }
def SessionMatchesReferenceUptoCardSaid : Prop := Claim7.holds Tryz.pinned (.plain (OpenSpec.upto sessionMatchesReferenceSpec)) sessionMatchesReferenceUptoCard

/-- THE SECOND FORM's CARD OF 'mooringlaw22.SessionNumbers'. -/
def sessionNumbersUptoCard : Claim7 := { stood := { row := sessionNumbersUptoRow, standIns := [], harness := (true, "86287ca5e36e5fad95631cbd3caa5e206181f297d3d99463523adb38982ce2fb"), looks := true }, kinds := [], alts := [], laidByText := true, laidKinds := [.data], laidTests := true, laidLooks := .later }
def SessionNumbersUptoCardSaid : Prop := Claim7.holds Tryz.pinned (.plain (OpenSpec.upto sessionNumbersSpec)) sessionNumbersUptoCard

/-- THE SECOND FORM's CARD OF 'mooringlaw22.SessionRefuses'. -/
def sessionRefusesUptoCard : Claim7 := { stood := { row := sessionRefusesUptoRow, standIns := [], harness := (true, "86287ca5e36e5fad95631cbd3caa5e206181f297d3d99463523adb38982ce2fb"), looks := true }, kinds := [], alts := [], laidByText := true, laidKinds := [.data], laidTests := true, laidLooks := .later }
def SessionRefusesUptoCardSaid : Prop := Claim7.holds Tryz.pinned (.plain (OpenSpec.upto sessionRefusesSpec)) sessionRefusesUptoCard

/-- THE SECOND FORM's CARD OF 'mooringlaw22.SessionNil'. -/
def sessionNilUptoCard : Claim7 := { stood := { row := sessionNilUptoRow, standIns := [], harness := (true, "86287ca5e36e5fad95631cbd3caa5e206181f297d3d99463523adb38982ce2fb"), looks := true }, kinds := [], alts := [], laidByText := true, laidKinds := [.data], laidTests := true, laidLooks := .later }
def SessionNilUptoCardSaid : Prop := Claim7.holds Tryz.pinned (.plain (OpenSpec.upto sessionNilSpec)) sessionNilUptoCard

/-- THE SECOND FORM's CARD OF 'mooringlaw22.SessionRoams'. -/
def sessionRoamsUptoCard : Claim7 := { stood := { row := sessionRoamsUptoRow, standIns := [], harness := (true, "86287ca5e36e5fad95631cbd3caa5e206181f297d3d99463523adb38982ce2fb"), looks := true }, kinds := [], alts := [], laidByText := true, laidKinds := [.data], laidTests := true, laidLooks := .later }
def SessionRoamsUptoCardSaid : Prop := Claim7.holds Tryz.pinned (.plain (OpenSpec.upto sessionRoamsSpec)) sessionRoamsUptoCard
end Rows
end Go.Proofs.YtdaiacmneopkgaaGreatDoor
