/-
  DERIVED. GIVEN WITH THE SEED: THE CARDS: each row of YtbidnnpmomgghaaDoorRows.lean that lists a variable, with what it lists TIED to the program's text (the seventh form; the later family's looks); each row that meets fmt, with fmt's text TOLD by the authors' own Lean function (tested against real Go, not proved from fmt's source: count such statements apart). THE CARD IS WHAT COUNTS. Prove the row's statement (the work); the ties are given (YtbidnnpmomgghaaDoorTie.lean); close each card by the builder's one call (the guide's Derived/Test/ToyasCard.lean, 'card_holds'). Laid BY PROGRAM, IN A SANDBOX (cutbox-door.mjs). By AI agents, Wed Nov 11 2026. No macro, syntax, notation, axiom, sorry.
-/
import Derived.Test.YtbidnnpmomgghaaDoorRows
import GoSem.ClaimSeven
namespace Go.Proofs.YtbidnnpmomgghaaDoor
namespace Rows

/-- THE TIED CARD OF 'laws.FnExactFixText'. -/
def fnExactFixTextCard : Claim7 := { stood := { row := fnExactFixTextRow, standIns := [], harness := (true, "e671535fd21143bf9613bc56752af696c86167faf9a0f6a16ca7f056ff35787d"), looks := false }, kinds := [], alts := [], laidByText := true, laidKinds := [.data, .data, .data], laidTests := true, laidLooks := .later }
def FnExactFixTextCardSaid : Prop := Claim7.holds Tryd.pinned (.plain (OpenSpec.ofChange fnExactFixTextSpec)) fnExactFixTextCard

/-- THE SECOND FORM's CARD OF 'laws.FnExactFixText'. -/
def fnExactFixTextUptoCard : Claim7 := { stood := { row := fnExactFixTextUptoRow, standIns := [], harness := (true, "e671535fd21143bf9613bc56752af696c86167faf9a0f6a16ca7f056ff35787d"), looks := false }, kinds := [], alts := [], laidByText := true, laidKinds := [.data, .data, .data], laidTests := true, laidLooks := .later }
def FnExactFixTextUptoCardSaid : Prop := Claim7.holds Tryd.pinned (.plain (OpenSpec.upto fnExactFixTextSpec)) fnExactFixTextUptoCard
end Rows
end Go.Proofs.YtbidnnpmomgghaaDoor
