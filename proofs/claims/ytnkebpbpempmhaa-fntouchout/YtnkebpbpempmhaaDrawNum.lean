/- The contracts of the draws of numbers. -/
import Derived.Test.YtnkebpbpempmhaaRd
namespace Go.Proofs.Ytnkebpbpempmhaa
open Go.RowKit
set_option linter.unusedVariables false

end Go.Proofs.Ytnkebpbpempmhaa
