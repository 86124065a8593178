/- The contracts of the number functions of chapter 1, each for every argument of its domain. -/
import Derived.Test.YtmbdleggcnfedaaRows
import Derived.Test.YtmbdleggcnfedaaPlain
import Derived.Test.YtmbdleggcnfedaaMem
import Derived.WalkKit
import Derived.WalkSpells
import Derived.WalkLawsBesides
namespace Go.Proofs.Ytmbdleggcnfedaa
open Go.RowKit

end Go.Proofs.Ytmbdleggcnfedaa
