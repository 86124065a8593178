/- The contracts of the number functions of chapter 1, each for every argument of its domain. -/
import Derived.Test.YtlnoiligennpjaaRows
import Derived.Test.YtlnoiligennpjaaPlain
import Derived.Test.YtlnoiligennpjaaMem
import Derived.WalkKit
import Derived.WalkSpells
import Derived.WalkLawsBesides
namespace Go.Proofs.Ytlnoiligennpjaa
open Go.RowKit

end Go.Proofs.Ytlnoiligennpjaa
