/- Texts of a proof. -/
import Derived.Test.YtbdbbdjifgpgeaaGreatB32
import Derived.Test.YtbdbbdjifgpgeaaGreatB19
import Derived.Deep.RegionHeld3
import Derived.Deep.DeepCutAuto
set_option maxHeartbeats 16000000
set_option maxRecDepth 20000
namespace Go.Proofs.YtbdbbdjifgpgeaaGreat
open Go.RowKit
set_option linter.unusedVariables false
set_option linter.unusedSimpArgs false
def B2 (x:Int):Prop:= -2000000000≤x∧x≤2000000000
def HN (X Y D:Int):Prop:=B2 X∧B2 Y
end Go.Proofs.YtbdbbdjifgpgeaaGreat
