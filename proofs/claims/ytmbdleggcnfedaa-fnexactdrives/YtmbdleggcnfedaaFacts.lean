/- Closed facts of the loaded program, each a theorem of its own. -/
import Derived.Test.YtmbdleggcnfedaaGen
import Derived.ProofKit
namespace Go.Proofs.Ytmbdleggcnfedaa
set_option maxRecDepth 100000
def ordL : { l : List Char // Try.prog.initOrder = String.ofList l } := ⟨_, rfl⟩
theorem ordT : Try.prog.initOrder.toList = ordL.1 := (congrArg String.toList ordL.2).trans String.toList_ofList
theorem headE : ((behindMainWord (wordsSigns ordL.1)).head? == some "cut".toList) = true := by kernel_rfl
theorem makeT : Try.prog.make = some .cut := make_of ordT headE
theorem liftsFinalT : Try.prog.liftsFinal = false := liftsFinal_of ordT headE
theorem laysLaterT : Try.prog.laysLater = false := by kernel_rfl
theorem bearsReflectT : Try.prog.bearsReflect = false := by kernel_rfl
theorem doorFitsT : Try.prog.doorFits [] = true := by kernel_rfl
theorem mayEnterT : Try.prog.mayEnter = true := mayEnter_of ordT headE laysLaterT bearsReflectT doorFitsT
theorem ownT : ownKnob Try.prog.godebug = none := by kernel_rfl
theorem laidOutT : laidOutB Try.prog = true := by kernel_rfl
theorem mapsRowedT : mapsRowed Try.prog = true := by kernel_rfl
theorem stopsHeardT : Try.prog.stopsHeard = true := by kernel_rfl
theorem plainKeysT : Try.prog.plainKeys = true := by kernel_rfl
end Go.Proofs.Ytmbdleggcnfedaa
