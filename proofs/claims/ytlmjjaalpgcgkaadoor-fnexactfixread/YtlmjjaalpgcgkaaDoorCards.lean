/-
  DERIVED. GIVEN WITH THE SEED: THE CARDS: each row of YtlmjjaalpgcgkaaDoorRows.lean that lists a variable, with what it lists TIED to the program's text (the seventh form; the later family's looks); each row that meets fmt, with fmt's text TOLD by the authors' own Lean function (tested against real Go, not proved from fmt's source: count such statements apart). THE CARD IS WHAT COUNTS. Prove the row's statement (the work); the ties are given (YtlmjjaalpgcgkaaDoorTie.lean); close each card by the builder's one call (the guide's Derived/Test/ToyasCard.lean, 'card_holds'). Laid BY PROGRAM, IN A SANDBOX (cutbox-door.mjs). By AI agents, Wed Nov 11 2026. No macro, syntax, notation, axiom, sorry.
-/
import Derived.Test.YtlmjjaalpgcgkaaDoorRows
import GoSem.ClaimSeven
namespace Go.Proofs.YtlmjjaalpgcgkaaDoor
namespace Rows

/-- THE TIED CARD OF 'laws.FnExactFixRead'. -/
def fnExactFixReadCard : Claim7 := { stood := { row := fnExactFixReadRow, standIns := [], harness := (true, "5b3f2ee27948203f6917c30f681b613ee241a2c3e95b67900f0ba5073adc91fa"), looks := true }, kinds := [], alts := [], laidByText := true, laidKinds := [.data, .data, .data, .sentinel, .sentinel], laidTests := true, laidLooks := .later }
def FnExactFixReadCardSaid : Prop := Claim7.holds Tryd.pinned (.plain (OpenSpec.ofChange fnExactFixReadSpec)) fnExactFixReadCard

/-- THE SECOND FORM's CARD OF 'laws.FnExactFixRead'. -/
def fnExactFixReadUptoCard : Claim7 := { stood := { row := fnExactFixReadUptoRow, standIns := [], harness := (true, "5b3f2ee27948203f6917c30f681b613ee241a2c3e95b67900f0ba5073adc91fa"), looks := true }, kinds := [], alts := [], laidByText := true, laidKinds := [.data, .data, .data, .sentinel, .sentinel], laidTests := true, laidLooks := .later }
def FnExactFixReadUptoCardSaid : Prop := Claim7.holds Tryd.pinned (.plain (OpenSpec.upto fnExactFixReadSpec)) fnExactFixReadUptoCard
end Rows
end Go.Proofs.YtlmjjaalpgcgkaaDoor
