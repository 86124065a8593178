/- The contract of VecUnit. -/
import Derived.Test.YtaejoonpgiddoaaVecC
import Derived.Deep.QuietTactic
import Derived.BigQuiet
import Derived.Deep.RegionWith
namespace Go.Proofs.Ytaejoonpgiddoaa
open Go.RowKit
set_option linter.unusedVariables false
set_option linter.unusedSimpArgs false

end Go.Proofs.Ytaejoonpgiddoaa
