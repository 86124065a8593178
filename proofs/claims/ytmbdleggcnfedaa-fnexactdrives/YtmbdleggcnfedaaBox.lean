/- The contracts of boxes. -/
import Derived.Test.YtmbdleggcnfedaaVec
import Derived.Test.YtmbdleggcnfedaaSVec
import Derived.Deep.QuietTactic
import Derived.BigQuiet
import Derived.Deep.RegionWith
import Derived.Deep.RegionHeld3
namespace Go.Proofs.Ytmbdleggcnfedaa
open Go.RowKit
set_option linter.unusedVariables false
set_option linter.unusedSimpArgs false

abbrev b4 (a b c d : Int) : Value := .agg #[.int .i64 a, .int .i64 b, .int .i64 c, .int .i64 d]
/-- none greater -/
def leB (x y u v : Int) : Bool := decide (x ≤ u ∧ y ≤ v)
/-- whether a box is ok -/
def bokB (a b c d : Int) : Bool := vokB a b && (vokB c d && leB a b c d)

end Go.Proofs.Ytmbdleggcnfedaa
