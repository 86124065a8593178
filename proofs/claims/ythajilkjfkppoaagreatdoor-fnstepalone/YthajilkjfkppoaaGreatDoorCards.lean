/-
  DERIVED. GIVEN WITH THE SEED: THE CARDS: each row of YthajilkjfkppoaaGreatDoorRows.lean that lists a variable, with what it lists TIED to the program's text (the seventh form; the later family's looks); each row that meets fmt, with fmt's text TOLD by the authors' own Lean function (tested against real Go, not proved from fmt's source: count such statements apart). THE CARD IS WHAT COUNTS. Prove the row's statement (the work); the ties are given (YthajilkjfkppoaaGreatDoorTie.lean); close each card by the builder's one call (the guide's Derived/Test/ToyasCard.lean, 'card_holds'). Laid BY PROGRAM, IN A SANDBOX (cutbox-door.mjs). By AI agents, Wed Nov 11 2026. No macro, syntax, notation, axiom, sorry.
-/
import Derived.Test.YthajilkjfkppoaaGreatDoorRows
import GoSem.ClaimSeven
namespace Go.Proofs.YthajilkjfkppoaaGreatDoor
namespace Rows

/-- THE TIED CARD OF 'laws.FnStepAlone'. -/
def fnStepAloneCard : Claim7 := { stood := { row := fnStepAloneRow, standIns := [], harness := (true, "979da33055c85ba13dc84401e7aaf2b862d92f17c7c4efb3ba0d67d50e916e24"), looks := true }, kinds := [], alts := [], laidByText := true, laidKinds := [.handle], laidTests := true, laidLooks := .later }
def FnStepAloneCardSaid : Prop := Claim7.holds Tryz.pinned (.plain (OpenSpec.ofChange fnStepAloneSpec)) fnStepAloneCard

/-- THE TIED CARD OF 'laws.FnStepDrive'. -/
def fnStepDriveCard : Claim7 := { stood := { row := fnStepDriveRow, standIns := [], harness := (true, "979da33055c85ba13dc84401e7aaf2b862d92f17c7c4efb3ba0d67d50e916e24"), looks := true }, kinds := [], alts := [], laidByText := true, laidKinds := [.handle], laidTests := true, laidLooks := .later }
def FnStepDriveCardSaid : Prop := Claim7.holds Tryz.pinned (.plain (OpenSpec.ofChange fnStepDriveSpec)) fnStepDriveCard

/-- THE SECOND FORM's CARD OF 'laws.FnStepAlone'. -/
def fnStepAloneUptoCard : Claim7 := { stood := { row := fnStepAloneUptoRow, standIns := [], harness := (true, "979da33055c85ba13dc84401e7aaf2b862d92f17c7c4efb3ba0d67d50e916e24"), looks := true }, kinds := [], alts := [], laidByText := true, laidKinds := [.handle], laidTests := true, laidLooks := .later }
def FnStepAloneUptoCardSaid : Prop := Claim7.holds Tryz.pinned (.plain (OpenSpec.upto fnStepAloneSpec)) fnStepAloneUptoCard

/-- THE SECOND FORM's CARD OF 'laws.FnStepDrive'. -/
def fnStepDriveUptoCard : Claim7 := { stood := { row := fnStepDriveUptoRow, standIns := [], harness := (true, "979da33055c85ba13dc84401e7aaf2b862d92f17c7c4efb3ba0d67d50e916e24"), looks := true }, kinds := [], alts := [], laidByText := true, laidKinds := [.handle], laidTests := true, laidLooks := .later }
def FnStepDriveUptoCardSaid : Prop := Claim7.holds Tryz.pinned (.plain (OpenSpec.upto fnStepDriveSpec)) fnStepDriveUptoCard
end Rows
end Go.Proofs.YthajilkjfkppoaaGreatDoor
