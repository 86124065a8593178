/- The contract of BoxMeets, and the walk of its exact law. -/
import Derived.Test.YthhjgeckebghjaaMeet
import Derived.Deep.QuietTactic
import Derived.BigQuiet
import Derived.Deep.RegionWith
namespace Go.Proofs.Ythhjgeckebghjaa
open Go.RowKit
set_option linter.unusedVariables false
set_option linter.unusedSimpArgs false

theorem boxMeets_any (a b c d r s t u : Int) (w : World) :
    Calls Try.prog 82 #[b4 a b c d, b4 r s t u] w fun e w' => e = .returned (.bool (bokB a b c d && (bokB r s t u && (leB a b t u && leB r s c d)))) ∧ Below w.heap.size w w' := by
  cases h1 : bokB a b c d with
  | false => have k := meet_n1 a b c d r s t u w h1; rw [h1] at k; exact k
  | true =>
    cases h2 : bokB r s t u with
    | false => have k := meet_n2 a b c d r s t u w h1 h2; rw [h1, h2] at k; exact k
    | true =>
      cases h3 : leB a b t u with
      | false => have k := meet_n3 a b c d r s t u w h1 h2 h3; rw [h1, h2, h3] at k; exact k
      | true =>
        cases h4 : leB r s c d with
        | false => have k := meet_n4 a b c d r s t u w h1 h2 h3 h4; rw [h1, h2, h3, h4] at k; exact k
        | true => have k := meet_y a b c d r s t u w h1 h2 h3 h4; rw [h1, h2, h3, h4] at k; exact k

end Go.Proofs.Ythhjgeckebghjaa
