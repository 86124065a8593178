/- What may not be is 0. -/
import Derived.Test.YtbngdlbecdloiaaB13
import Derived.Deep.QuietTactic
import Derived.BigQuiet
import Derived.Deep.RegionWith
import Derived.Deep.RegionHeld3
set_option maxHeartbeats 16000000
set_option maxRecDepth 20000
namespace Go.Proofs.Ytbngdlbecdloiaa
open Go.RowKit
set_option linter.unusedVariables false
set_option linter.unusedSimpArgs false

/-- a number, or 0 where it may not be -/
def bb (o : Bool) (x : Int) : Int := if o = true then x else 0
theorem bb_t (x : Int) : bb true x = x := rfl
theorem bb_f (x : Int) : bb false x = 0 := rfl

end Go.Proofs.Ytbngdlbecdloiaa
