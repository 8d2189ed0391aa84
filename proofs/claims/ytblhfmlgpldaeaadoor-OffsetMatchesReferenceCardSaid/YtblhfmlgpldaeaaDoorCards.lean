/-
  DERIVED. GIVEN WITH THE SEED: THE CARDS: each row of YtblhfmlgpldaeaaDoorRows.lean that lists a variable, with what it lists TIED to the program's text (the seventh form; the later family's looks); each row that meets fmt, with fmt's text TOLD by the authors' own Lean function (tested against real Go, not proved from fmt's source: count such statements apart). THE CARD IS WHAT COUNTS. Prove the row's statement (the work); the ties are given (YtblhfmlgpldaeaaDoorTie.lean); close each card by the builder's one call (the guide's Derived/Test/ToyasCard.lean, 'card_holds'). Laid BY PROGRAM, IN A SANDBOX (cutbox-door.mjs). By AI agents, Wed Nov 11 2026. No macro, syntax, notation, axiom, sorry.
-/
import Derived.Test.YtblhfmlgpldaeaaDoorRows
import GoSem.ClaimSeven
namespace Go.Proofs.YtblhfmlgpldaeaaDoor
namespace Rows

/-- THE TIED CARD OF 'mooringlaw10.OffsetMatchesReference'. -/
def offsetMatchesReferenceCard : Claim7 := { stood := { row := offsetMatchesReferenceRow, standIns := [], harness := (true, "285fe047db8a1ca667b33e7cc4f610cfca607bef185ad10c60b52fcfd7705f8c"), looks := false }, kinds := [], alts := [], laidByText := true, laidKinds := [.data], laidTests := true, laidLooks := .later }
def OffsetMatchesReferenceCardSaid : Prop := Claim7.holds Tryd.pinned (.plain (OpenSpec.ofChange offsetMatchesReferenceSpec)) offsetMatchesReferenceCard

/-- THE TIED CARD OF 'mooringlaw10.OffsetStretches'. -/
def offsetStretchesCard : Claim7 := { stood := { row := offsetStretchesRow, standIns := [], harness := (true, "285fe047db8a1ca667b33e7cc4f610cfca607bef185ad10c60b52fcfd7705f8c"), looks := false }, kinds := [], alts := [], laidByText := true, laidKinds := [.data], laidTests := true, laidLooks := .later }
def OffsetStretchesCardSaid : Prop := Claim7.holds Tryd.pinned (.plain (OpenSpec.ofChange offsetStretchesSpec)) offsetStretchesCard

/-- THE TIED CARD OF 'mooringlaw10.OffsetSteps'. -/
def offsetStepsCard : Claim7 := { stood := { row := offsetStepsRow, standIns := [], harness := (true, "285fe047db8a1ca667b33e7cc4f610cfca607bef185ad10c60b52fcfd7705f8c"), looks := false }, kinds := [], alts := [], laidByText := true, laidKinds := [.data], laidTests := true, laidLooks := .later }
def OffsetStepsCardSaid : Prop := Claim7.holds Tryd.pinned (.plain (OpenSpec.ofChange offsetStepsSpec)) offsetStepsCard

/-- THE TIED CARD OF 'mooringlaw10.OffsetTops'. -/
def offsetTopsCard : Claim7 := { stood := { row := offsetTopsRow, standIns := [], harness := (true, "285fe047db8a1ca667b33e7cc4f610cfca607bef185ad10c60b52fcfd7705f8c"), looks := false }, kinds := [], alts := [], laidByText := true, laidKinds := [.data], laidTests := true, laidLooks := .later }
def OffsetTopsCardSaid : Prop := Claim7.holds Tryd.pinned (.plain (OpenSpec.ofChange offsetTopsSpec)) offsetTopsCard

/-- THE TIED CARD OF 'mooringlaw10.OffsetNexts'. -/
def offsetNextsCard : Claim7 := { stood := { row := offsetNextsRow, standIns := [], harness := (true, "285fe047db8a1ca667b33e7cc4f610cfca607bef185ad10c60b52fcfd7705f8c"), looks := false }, kinds := [], alts := [], laidByText := true, laidKinds := [.data], laidTests := true, laidLooks := .later }
def OffsetNextsCardSaid : Prop := Claim7.holds Tryd.pinned (.plain (OpenSpec.ofChange offsetNextsSpec)) offsetNextsCard

/-- THE SECOND FORM's CARD OF 'mooringlaw10.OffsetMatchesReference'. -/
def offsetMatchesReferenceUptoCard : Claim7 := { stood := { row := offsetMatchesReferenceUptoRow, standIns := [], harness := (true, "285fe047db8a1ca667b33e7cc4f610cfca607bef185ad10c60b52fcfd7705f8c"), looks := false }, kinds := [], alts := [], laidByText := true, laidKinds := [.data], laidTests := true, laidLooks := .later }
def OffsetMatchesReferenceUptoCardSaid : Prop := Claim7.holds Tryd.pinned (.plain (OpenSpec.upto offsetMatchesReferenceSpec)) offsetMatchesReferenceUptoCard

/-- THE SECOND FORM's CARD OF 'mooringlaw10.OffsetStretches'. -/
def offsetStretchesUptoCard : Claim7 := { stood := { row := offsetStretchesUptoRow, standIns := [], harness := (true, "285fe047db8a1ca667b33e7cc4f610cfca607bef185ad10c60b52fcfd7705f8c"), looks := false }, kinds := [], alts := [], laidByText := true, laidKinds := [.data], laidTests := true, laidLooks := .later }
def OffsetStretchesUptoCardSaid : Prop := Claim7.holds Tryd.pinned (.plain (OpenSpec.upto offsetStretchesSpec)) offsetStretchesUptoCard

/-- THE SECOND FORM's CARD OF 'mooringlaw10.OffsetSteps'. -/
def offsetStepsUptoCard : Claim7 := { stood := { row := offsetStepsUptoRow, standIns := [], harness := (true, "285fe047db8a1ca667b33e7cc4f610cfca607bef185ad10c60b52fcfd7705f8c"), looks := false }, kinds := [], alts := [], laidByText := true, laidKinds := [.data], laidTests := true, laidLooks := .later }
def OffsetStepsUptoCardSaid : Prop := Claim7.holds Tryd.pinned (.plain (OpenSpec.upto offsetStepsSpec)) offsetStepsUptoCard

/-- THE SECOND FORM's CARD OF 'mooringlaw10.OffsetTops'. -/
def offsetTopsUptoCard : Claim7 := { stood := { row := offsetTopsUptoRow, standIns := [], harness := (true, "285fe047db8a1ca667b33e7cc4f610cfca607bef185ad10c60b52fcfd7705f8c"), looks := false }, kinds := [], alts := [], laidByText := true, laidKinds := [.data], laidTests := true, laidLooks := .later }
def OffsetTopsUptoCardSaid : Prop := Claim7.holds Tryd.pinned (.plain (OpenSpec.upto offsetTopsSpec)) offsetTopsUptoCard

/-- THE SECOND FORM's CARD OF 'mooringlaw10.OffsetNexts'. -/
def offsetNextsUptoCard : Claim7 := { stood := { row := offsetNextsUptoRow, standIns := [], harness := (true, "285fe047db8a1ca667b33e7cc4f610cfca607bef185ad10c60b52fcfd7705f8c"), looks := false }, kinds := [], alts := [], laidByText := true, laidKinds := [.data], laidTests := true, laidLooks := .later }
def OffsetNextsUptoCardSaid : Prop := Claim7.holds Tryd.pinned (.plain (OpenSpec.upto offsetNextsSpec)) offsetNextsUptoCard
end Rows
end Go.Proofs.YtblhfmlgpldaeaaDoor
