/- The contracts of the draws of numbers. -/
import Derived.Test.YtpgoicdblbpcaaaRd
namespace Go.Proofs.Ytpgoicdblbpcaaa
open Go.RowKit
set_option linter.unusedVariables false

end Go.Proofs.Ytpgoicdblbpcaaa
