/- The walks of the exact laws of chapter 2. -/
import Derived.Test.YtpgoicdblbpcaaaVecU
import Derived.Test.YtpgoicdblbpcaaaSVecC
import Derived.Test.YtpgoicdblbpcaaaVecAdd
import Derived.Test.YtpgoicdblbpcaaaVecSub
import Derived.Deep.QuietTactic
import Derived.BigQuiet
import Derived.Deep.RegionWith
namespace Go.Proofs.Ytpgoicdblbpcaaa
open Go.RowKit
set_option linter.unusedVariables false
set_option linter.unusedSimpArgs false

end Go.Proofs.Ytpgoicdblbpcaaa
