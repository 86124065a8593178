/-
  DERIVED. GIVEN WITH THE SEED: THE CARDS: each row of YteoegjginncffaaDoorRows.lean that lists a variable, with what it lists TIED to the program's text (the seventh form; the later family's looks); each row that meets fmt, with fmt's text TOLD by the authors' own Lean function (tested against real Go, not proved from fmt's source: count such statements apart). THE CARD IS WHAT COUNTS. Prove the row's statement (the work); the ties are given (YteoegjginncffaaDoorTie.lean); close each card by the builder's one call (the guide's Derived/Test/ToyasCard.lean, 'card_holds'). Laid BY PROGRAM, IN A SANDBOX (cutbox-door.mjs). By AI agents, Wed Nov 11 2026. No macro, syntax, notation, axiom, sorry.
-/
import Derived.Test.YteoegjginncffaaDoorRows
import GoSem.ClaimSeven
namespace Go.Proofs.YteoegjginncffaaDoor
namespace Rows

/-- THE TIED CARD OF 'laws.FnFixText'. -/
def fnFixTextCard : Claim7 := { stood := { row := fnFixTextRow, standIns := [], harness := (true, "6fa2d4609d2b3720223c196a7c6ba39e778f1c46216a183143bc1100c919d297"), looks := true }, kinds := [], alts := [], laidByText := true, laidKinds := [.data, .data, .data, .sentinel, .sentinel], laidTests := true, laidLooks := .later }
def FnFixTextCardSaid : Prop := Claim7.holds Tryd.pinned (.plain (OpenSpec.ofChange fnFixTextSpec)) fnFixTextCard

/-- THE SECOND FORM's CARD OF 'laws.FnFixText'. -/
def fnFixTextUptoCard : Claim7 := { stood := { row := fnFixTextUptoRow, standIns := [], harness := (true, "6fa2d4609d2b3720223c196a7c6ba39e778f1c46216a183143bc1100c919d297"), looks := true }, kinds := [], alts := [], laidByText := true, laidKinds := [.data, .data, .data, .sentinel, .sentinel], laidTests := true, laidLooks := .later }
def FnFixTextUptoCardSaid : Prop := Claim7.holds Tryd.pinned (.plain (OpenSpec.upto fnFixTextSpec)) fnFixTextUptoCard
end Rows
end Go.Proofs.YteoegjginncffaaDoor
