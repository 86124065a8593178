/- The contract of the laws' own magnitude. -/
import Derived.Test.YtpgoicdblbpcaaaPlain
import Derived.Test.YtpgoicdblbpcaaaMem
namespace Go.Proofs.Ytpgoicdblbpcaaa
open Go.RowKit
set_option linter.unusedVariables false

theorem pqAbs_any (n : Int) (w : World) (h : -9000000000000000000 ≤ n) (h' : n ≤ 9000000000000000000) :
    Calls Try.prog 13 #[.int .i64 n] w fun e w' => e = .returned (.int .i64 (absZ n)) ∧ w' = w := by
  go_enter Try.func13, Try.ntmps13
  go_wp2
  all_goals
    go_ret
    refine ⟨ret_int ?_, rfl⟩
    unfold absZ
    split <;> omega
end Go.Proofs.Ytpgoicdblbpcaaa
