/- The contracts of the draws of ways. -/
import Derived.Test.YtnkebpbpempmhaaDrawNum
import Derived.Test.YtnkebpbpempmhaaVec
namespace Go.Proofs.Ytnkebpbpempmhaa
open Go.RowKit
set_option linter.unusedVariables false
set_option linter.unusedSimpArgs false

end Go.Proofs.Ytnkebpbpempmhaa
