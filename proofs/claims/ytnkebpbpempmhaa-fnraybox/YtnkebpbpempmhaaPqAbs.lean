/- The contract of the laws' own magnitude. -/
import Derived.Test.YtnkebpbpempmhaaPlain
import Derived.Test.YtnkebpbpempmhaaMem
namespace Go.Proofs.Ytnkebpbpempmhaa
open Go.RowKit
set_option linter.unusedVariables false

theorem pqAbs_any (n : Int) (w : World) (h : -9000000000000000000 ≤ n) (h' : n ≤ 9000000000000000000) :
    Calls Try.prog 28 #[.int .i64 n] w fun e w' => e = .returned (.int .i64 (absZ n)) ∧ w' = w := by
  go_enter Try.func28, Try.ntmps28
  go_wp2
  all_goals
    go_ret
    refine ⟨ret_int ?_, rfl⟩
    unfold absZ
    split <;> omega
end Go.Proofs.Ytnkebpbpempmhaa
