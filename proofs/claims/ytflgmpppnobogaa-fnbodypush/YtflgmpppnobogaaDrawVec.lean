/- The contracts of the draws of ways. -/
import Derived.Test.YtflgmpppnobogaaDrawNum
import Derived.Test.YtflgmpppnobogaaVec
namespace Go.Proofs.Ytflgmpppnobogaa
open Go.RowKit
set_option linter.unusedVariables false
set_option linter.unusedSimpArgs false

end Go.Proofs.Ytflgmpppnobogaa
