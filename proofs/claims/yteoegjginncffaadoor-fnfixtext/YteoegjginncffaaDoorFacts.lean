/- Closed facts of the loaded program, each a theorem of its own. -/
import Derived.Test.YteoegjginncffaaDoorGen
import Derived.ProofKit
namespace Go.Proofs.YteoegjginncffaaDoor
set_option maxRecDepth 100000
def ordL : { l : List Char // Tryd.prog.initOrder = String.ofList l } := ⟨_, rfl⟩
theorem ordT : Tryd.prog.initOrder.toList = ordL.1 := (congrArg String.toList ordL.2).trans String.toList_ofList
theorem headE : ((behindMainWord (wordsSigns ordL.1)).head? == some "cut".toList) = true := by kernel_rfl
theorem makeT : Tryd.prog.make = some .cut := make_of ordT headE
theorem liftsFinalT : Tryd.prog.liftsFinal = false := liftsFinal_of ordT headE
theorem laysLaterT : Tryd.prog.laysLater = false := by kernel_rfl
theorem bearsReflectT : Tryd.prog.bearsReflect = false := by kernel_rfl
theorem doorFitsT : Tryd.prog.doorFits [] = true := by kernel_rfl
theorem mayEnterT : Tryd.prog.mayEnter = true := mayEnter_of ordT headE laysLaterT bearsReflectT doorFitsT
theorem ownT : ownKnob Tryd.prog.godebug = none := by kernel_rfl
theorem laidOutT : laidOutB Tryd.prog = true := by kernel_rfl
theorem mapsRowedT : mapsRowed Tryd.prog = true := by kernel_rfl
theorem stopsHeardT : Tryd.prog.stopsHeard = true := by kernel_rfl
theorem plainKeysT : Tryd.prog.plainKeys = true := by kernel_rfl
end Go.Proofs.YteoegjginncffaaDoor
