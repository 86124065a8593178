/- The contracts of the draws of numbers. -/
import Derived.Test.YtflgmpppnobogaaRd
namespace Go.Proofs.Ytflgmpppnobogaa
open Go.RowKit
set_option linter.unusedVariables false

end Go.Proofs.Ytflgmpppnobogaa
