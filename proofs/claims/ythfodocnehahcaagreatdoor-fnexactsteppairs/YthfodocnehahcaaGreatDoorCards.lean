/-
  DERIVED. GIVEN WITH THE SEED: THE CARDS: each row of YthfodocnehahcaaGreatDoorRows.lean that lists a variable, with what it lists TIED to the program's text (the seventh form; the later family's looks); each row that meets fmt, with fmt's text TOLD by the authors' own Lean function (tested against real Go, not proved from fmt's source: count such statements apart). THE CARD IS WHAT COUNTS. Prove the row's statement (the work); the ties are given (YthfodocnehahcaaGreatDoorTie.lean); close each card by the builder's one call (the guide's Derived/Test/ToyasCard.lean, 'card_holds'). Laid BY PROGRAM, IN A SANDBOX (cutbox-door.mjs). By AI agents, Wed Nov 11 2026. No macro, syntax, notation, axiom, sorry.
-/
import Derived.Test.YthfodocnehahcaaGreatDoorRows
import GoSem.ClaimSeven
namespace Go.Proofs.YthfodocnehahcaaGreatDoor
namespace Rows

/-- THE TIED CARD OF 'laws.FnExactStepPairs'. -/
def fnExactStepPairsCard : Claim7 := { stood := { row := fnExactStepPairsRow, standIns := [], harness := (true, "e0eac9e681973796438011f2681326b06c90cfd37f83939a6e2f2140afd27a9e"), looks := true }, kinds := [], alts := [], laidByText := true, laidKinds := [.handle], laidTests := true, laidLooks := .later }
def FnExactStepPairsCardSaid : Prop := Claim7.holds Tryz.pinned (.plain (OpenSpec.ofChange fnExactStepPairsSpec)) fnExactStepPairsCard

/-- THE SECOND FORM's CARD OF 'laws.FnExactStepPairs'. -/
def fnExactStepPairsUptoCard : Claim7 := { stood := { row := fnExactStepPairsUptoRow, standIns := [], harness := (true, "e0eac9e681973796438011f2681326b06c90cfd37f83939a6e2f2140afd27a9e"), looks := true }, kinds := [], alts := [], laidByText := true, laidKinds := [.handle], laidTests := true, laidLooks := .later }
def FnExactStepPairsUptoCardSaid : Prop := Claim7.holds Tryz.pinned (.plain (OpenSpec.upto fnExactStepPairsSpec)) fnExactStepPairsUptoCard
end Rows
end Go.Proofs.YthfodocnehahcaaGreatDoor
