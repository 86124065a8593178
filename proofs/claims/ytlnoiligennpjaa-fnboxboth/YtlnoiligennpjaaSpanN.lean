/- The contract of BoxNear. -/
import Derived.Test.YtlnoiligennpjaaMeetTF
import Derived.Test.YtlnoiligennpjaaSpanNe
import Derived.Test.YtlnoiligennpjaaSpanD
import Derived.Deep.QuietTactic
import Derived.BigQuiet
import Derived.Deep.RegionWith
import Derived.Deep.RegionHeld3
namespace Go.Proofs.Ytlnoiligennpjaa
open Go.RowKit
set_option linter.unusedVariables false
set_option linter.unusedSimpArgs false

end Go.Proofs.Ytlnoiligennpjaa
