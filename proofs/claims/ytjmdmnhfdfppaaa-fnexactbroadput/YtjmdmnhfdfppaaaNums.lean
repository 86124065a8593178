/- The contracts of the number functions of chapter 1, each for every argument of its domain. -/
import Derived.Test.YtjmdmnhfdfppaaaRows
import Derived.Test.YtjmdmnhfdfppaaaPlain
import Derived.Test.YtjmdmnhfdfppaaaMem
import Derived.WalkKit
import Derived.WalkSpells
import Derived.WalkLawsBesides
namespace Go.Proofs.Ytjmdmnhfdfppaaa
open Go.RowKit

end Go.Proofs.Ytjmdmnhfdfppaaa
