/- The contracts of the draws of numbers. -/
import Derived.Test.YtlnoiligennpjaaRd
namespace Go.Proofs.Ytlnoiligennpjaa
open Go.RowKit
set_option linter.unusedVariables false

end Go.Proofs.Ytlnoiligennpjaa
