/-
  DERIVED. GIVEN WITH THE SEED: THE CARDS: each row of YtcalhcfinkhemaaGreatDoorRows.lean that lists a variable, with what it lists TIED to the program's text (the seventh form; the later family's looks); each row that meets fmt, with fmt's text TOLD by the authors' own Lean function (tested against real Go, not proved from fmt's source: count such statements apart). THE CARD IS WHAT COUNTS. Prove the row's statement (the work); the ties are given (YtcalhcfinkhemaaGreatDoorTie.lean); close each card by the builder's one call (the guide's Derived/Test/ToyasCard.lean, 'card_holds'). Laid BY PROGRAM, IN A SANDBOX (cutbox-door.mjs). By AI agents, Wed Nov 11 2026. No macro, syntax, notation, axiom, sorry.
-/
import Derived.Test.YtcalhcfinkhemaaGreatDoorRows
import GoSem.ClaimSeven
namespace Go.Proofs.YtcalhcfinkhemaaGreatDoor
namespace Rows

/-- THE TIED CARD OF 'laws.FnStepFixed'. -/
def fnStepFixedCard : Claim7 := { stood := { row := fnStepFixedRow, standIns := [], harness := (true, "defebb88b800a9ee7a0c6b664f907eb2fc21d659852a50a795f42b4ac8486d22"), looks := true }, kinds := [], alts := [], laidByText := true, laidKinds := [.handle], laidTests := true, laidLooks := .later }
def FnStepFixedCardSaid : Prop := Claim7.holds Tryz.pinned (.plain (OpenSpec.ofChange fnStepFixedSpec)) fnStepFixedCard

/-- THE TIED CARD OF 'laws.FnStepSleep'. -/
def fnStepSleepCard : Claim7 := { stood := { row := fnStepSleepRow, standIns := [], harness := (true, "defebb88b800a9ee7a0c6b664f907eb2fc21d659852a50a795f42b4ac8486d22"), looks := true }, kinds := [], alts := [], laidByText := true, laidKinds := [.handle], laidTests := true, laidLooks := .later }
def FnStepSleepCardSaid : Prop := Claim7.holds Tryz.pinned (.plain (OpenSpec.ofChange fnStepSleepSpec)) fnStepSleepCard

/-- THE TIED CARD OF 'laws.FnStepRest'. -/
def fnStepRestCard : Claim7 := { stood := { row := fnStepRestRow, standIns := [], harness := (true, "defebb88b800a9ee7a0c6b664f907eb2fc21d659852a50a795f42b4ac8486d22"), looks := true }, kinds := [], alts := [], laidByText := true, laidKinds := [.handle], laidTests := true, laidLooks := .later }
def FnStepRestCardSaid : Prop := Claim7.holds Tryz.pinned (.plain (OpenSpec.ofChange fnStepRestSpec)) fnStepRestCard

/-- THE TIED CARD OF 'laws.FnSteps'. -/
def fnStepsCard : Claim7 := { stood := { row := fnStepsRow, standIns := [], harness := (true, "defebb88b800a9ee7a0c6b664f907eb2fc21d659852a50a795f42b4ac8486d22"), looks := true }, kinds := [], alts := [], laidByText := true, laidKinds := [.handle], laidTests := true, laidLooks := .later }
def FnStepsCardSaid : Prop := Claim7.holds Tryz.pinned (.plain (OpenSpec.ofChange fnStepsSpec)) fnStepsCard

/-- THE TIED CARD OF 'laws.FnStill'. -/
def fnStillCard : Claim7 := { stood := { row := fnStillRow, standIns := [], harness := (true, "defebb88b800a9ee7a0c6b664f907eb2fc21d659852a50a795f42b4ac8486d22"), looks := true }, kinds := [], alts := [], laidByText := true, laidKinds := [.handle], laidTests := true, laidLooks := .later }
def FnStillCardSaid : Prop := Claim7.holds Tryz.pinned (.plain (OpenSpec.ofChange fnStillSpec)) fnStillCard

/-- THE SECOND FORM's CARD OF 'laws.FnStepFixed'. -/
def fnStepFixedUptoCard : Claim7 := { stood := { row := fnStepFixedUptoRow, standIns := [], harness := (true, "defebb88b800a9ee7a0c6b664f907eb2fc21d659852a50a795f42b4ac8486d22"), looks := true }, kinds := [], alts := [], laidByText := true, laidKinds := [.handle], laidTests := true, laidLooks := .later }
def FnStepFixedUptoCardSaid : Prop := Claim7.holds Tryz.pinned (.plain (OpenSpec.upto fnStepFixedSpec)) fnStepFixedUptoCard

/-- THE SECOND FORM's CARD OF 'laws.FnStepSleep'. -/
def fnStepSleepUptoCard : Claim7 := { stood := { row := fnStepSleepUptoRow, standIns := [], harness := (true, "defebb88b800a9ee7a0c6b664f907eb2fc21d659852a50a795f42b4ac8486d22"), looks := true }, kinds := [], alts := [], laidByText := true, laidKinds := [.handle], laidTests := true, laidLooks := .later }
def FnStepSleepUptoCardSaid : Prop := Claim7.holds Tryz.pinned (.plain (OpenSpec.upto fnStepSleepSpec)) fnStepSleepUptoCard

/-- THE SECOND FORM's CARD OF 'laws.FnStepRest'. -/
def fnStepRestUptoCard : Claim7 := { stood := { row := fnStepRestUptoRow, standIns := [], harness := (true, "defebb88b800a9ee7a0c6b664f907eb2fc21d659852a50a795f42b4ac8486d22"), looks := true }, kinds := [], alts := [], laidByText := true, laidKinds := [.handle], laidTests := true, laidLooks := .later }
def FnStepRestUptoCardSaid : Prop := Claim7.holds Tryz.pinned (.plain (OpenSpec.upto fnStepRestSpec)) fnStepRestUptoCard

/-- THE SECOND FORM's CARD OF 'laws.FnSteps'. -/
def fnStepsUptoCard : Claim7 := { stood := { row := fnStepsUptoRow, standIns := [], harness := (true, "defebb88b800a9ee7a0c6b664f907eb2fc21d659852a50a795f42b4ac8486d22"), looks := true }, kinds := [], alts := [], laidByText := true, laidKinds := [.handle], laidTests := true, laidLooks := .later }
def FnStepsUptoCardSaid : Prop := Claim7.holds Tryz.pinned (.plain (OpenSpec.upto fnStepsSpec)) fnStepsUptoCard

/-- THE SECOND FORM's CARD OF 'laws.FnStill'. -/
def fnStillUptoCard : Claim7 := { stood := { row := fnStillUptoRow, standIns := [], harness := (true, "defebb88b800a9ee7a0c6b664f907eb2fc21d659852a50a795f42b4ac8486d22"), looks := true }, kinds := [], alts := [], laidByText := true, laidKinds := [.handle], laidTests := true, laidLooks := .later }
def FnStillUptoCardSaid : Prop := Claim7.holds Tryz.pinned (.plain (OpenSpec.upto fnStillSpec)) fnStillUptoCard
end Rows
end Go.Proofs.YtcalhcfinkhemaaGreatDoor
