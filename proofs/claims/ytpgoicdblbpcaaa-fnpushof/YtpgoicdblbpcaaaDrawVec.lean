/- The contracts of the draws of ways. -/
import Derived.Test.YtpgoicdblbpcaaaDrawNum
import Derived.Test.YtpgoicdblbpcaaaVec
namespace Go.Proofs.Ytpgoicdblbpcaaa
open Go.RowKit
set_option linter.unusedVariables false
set_option linter.unusedSimpArgs false

end Go.Proofs.Ytpgoicdblbpcaaa
