/-
  DERIVED. GIVEN WITH THE SEED: THE CARDS: each row of YtpmjnpmnocjjgaaGreatDoorRows.lean that lists a variable, with what it lists TIED to the program's text (the seventh form; the later family's looks); each row that meets fmt, with fmt's text TOLD by the authors' own Lean function (tested against real Go, not proved from fmt's source: count such statements apart). THE CARD IS WHAT COUNTS. Prove the row's statement (the work); the ties are given (YtpmjnpmnocjjgaaGreatDoorTie.lean); close each card by the builder's one call (the guide's Derived/Test/ToyasCard.lean, 'card_holds'). Laid BY PROGRAM, IN A SANDBOX (cutbox-door.mjs). By AI agents, Wed Nov 11 2026. No macro, syntax, notation, axiom, sorry.
-/
import Derived.Test.YtpmjnpmnocjjgaaGreatDoorRows
import GoSem.ClaimSeven
namespace Go.Proofs.YtpmjnpmnocjjgaaGreatDoor
namespace Rows

/-- THE TIED CARD OF 'laws.FnStepGroups'. -/
def fnStepGroupsCard : Claim7 := { stood := { row := fnStepGroupsRow, standIns := [], harness := (true, "76829679acd6d4ec759c5c25f6f04421522dccf40a3028ce378222d38c311053"), looks := true }, kinds := [], alts := [], laidByText := true, laidKinds := [.handle], laidTests := true, laidLooks := .later }
def FnStepGroupsCardSaid : Prop := Claim7.holds Tryz.pinned (.plain (OpenSpec.ofChange fnStepGroupsSpec)) fnStepGroupsCard

/-- THE SECOND FORM's CARD OF 'laws.FnStepGroups'. -/
def fnStepGroupsUptoCard : Claim7 := { stood := { row := fnStepGroupsUptoRow, standIns := [], harness := (true, "76829679acd6d4ec759c5c25f6f04421522dccf40a3028ce378222d38c311053"), looks := true }, kinds := [], alts := [], laidByText := true, laidKinds := [.handle], laidTests := true, laidLooks := .later }
def FnStepGroupsUptoCardSaid : Prop := Claim7.holds Tryz.pinned (.plain (OpenSpec.upto fnStepGroupsSpec)) fnStepGroupsUptoCard
end Rows
end Go.Proofs.YtpmjnpmnocjjgaaGreatDoor
