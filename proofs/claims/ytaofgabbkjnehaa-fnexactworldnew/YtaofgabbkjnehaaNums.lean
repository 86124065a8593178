/- The contracts of the number functions of chapter 1, each for every argument of its domain. -/
import Derived.Test.YtaofgabbkjnehaaRows
import Derived.Test.YtaofgabbkjnehaaPlain
import Derived.Test.YtaofgabbkjnehaaMem
import Derived.WalkKit
import Derived.WalkSpells
import Derived.WalkLawsBesides
namespace Go.Proofs.Ytaofgabbkjnehaa
open Go.RowKit

end Go.Proofs.Ytaofgabbkjnehaa
