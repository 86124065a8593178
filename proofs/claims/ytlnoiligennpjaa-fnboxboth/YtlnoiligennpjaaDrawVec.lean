/- The contracts of the draws of ways. -/
import Derived.Test.YtlnoiligennpjaaDrawNum
import Derived.Test.YtlnoiligennpjaaVec
namespace Go.Proofs.Ytlnoiligennpjaa
open Go.RowKit
set_option linter.unusedVariables false
set_option linter.unusedSimpArgs false

end Go.Proofs.Ytlnoiligennpjaa
