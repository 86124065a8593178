/-
  DERIVED. GIVEN WITH THE SEED: THE CARDS: each row of YtoidlgploodadaaDoorRows.lean that lists a variable, with what it lists TIED to the program's text (the seventh form; the later family's looks); each row that meets fmt, with fmt's text TOLD by the authors' own Lean function (tested against real Go, not proved from fmt's source: count such statements apart). THE CARD IS WHAT COUNTS. Prove the row's statement (the work); the ties are given (YtoidlgploodadaaDoorTie.lean); close each card by the builder's one call (the guide's Derived/Test/ToyasCard.lean, 'card_holds'). Laid BY PROGRAM, IN A SANDBOX (cutbox-door.mjs). By AI agents, Wed Nov 11 2026. No macro, syntax, notation, axiom, sorry.
-/
import Derived.Test.YtoidlgploodadaaDoorRows
import GoSem.ClaimSeven
namespace Go.Proofs.YtoidlgploodadaaDoor
namespace Rows

/-- THE TIED CARD OF 'laws.FnExactStill'. -/
def fnExactStillCard : Claim7 := { stood := { row := fnExactStillRow, standIns := [], harness := (true, "d69e4ef8248609af849f41153c72987fe9a2f11120fd5cef0ab65fe12be06ec0"), looks := true }, kinds := [], alts := [], laidByText := true, laidKinds := [.handle], laidTests := true, laidLooks := .later }
def FnExactStillCardSaid : Prop := Claim7.holds Tryd.pinned (.plain (OpenSpec.ofChange fnExactStillSpec)) fnExactStillCard

/-- THE SECOND FORM's CARD OF 'laws.FnExactStill'. -/
def fnExactStillUptoCard : Claim7 := { stood := { row := fnExactStillUptoRow, standIns := [], harness := (true, "d69e4ef8248609af849f41153c72987fe9a2f11120fd5cef0ab65fe12be06ec0"), looks := true }, kinds := [], alts := [], laidByText := true, laidKinds := [.handle], laidTests := true, laidLooks := .later }
def FnExactStillUptoCardSaid : Prop := Claim7.holds Tryd.pinned (.plain (OpenSpec.upto fnExactStillSpec)) fnExactStillUptoCard
end Rows
end Go.Proofs.YtoidlgploodadaaDoor
