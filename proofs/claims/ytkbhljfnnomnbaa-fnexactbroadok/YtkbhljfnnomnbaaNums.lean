/- The contracts of the number functions of chapter 1, each for every argument of its domain. -/
import Derived.Test.YtkbhljfnnomnbaaRows
import Derived.Test.YtkbhljfnnomnbaaPlain
import Derived.Test.YtkbhljfnnomnbaaMem
import Derived.WalkKit
import Derived.WalkSpells
import Derived.WalkLawsBesides
namespace Go.Proofs.Ytkbhljfnnomnbaa
open Go.RowKit

end Go.Proofs.Ytkbhljfnnomnbaa
