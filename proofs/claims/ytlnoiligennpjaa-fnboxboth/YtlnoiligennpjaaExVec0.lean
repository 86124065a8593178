/- The walks of the exact laws of chapter 2. -/
import Derived.Test.YtlnoiligennpjaaVecU
import Derived.Test.YtlnoiligennpjaaSVecC
import Derived.Test.YtlnoiligennpjaaVecAdd
import Derived.Test.YtlnoiligennpjaaVecSub
import Derived.Deep.QuietTactic
import Derived.BigQuiet
import Derived.Deep.RegionWith
namespace Go.Proofs.Ytlnoiligennpjaa
open Go.RowKit
set_option linter.unusedVariables false
set_option linter.unusedSimpArgs false

end Go.Proofs.Ytlnoiligennpjaa
