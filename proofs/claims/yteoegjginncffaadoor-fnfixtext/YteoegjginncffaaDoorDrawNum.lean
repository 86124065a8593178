/- The contracts of the draws of numbers. -/
import Derived.Test.YteoegjginncffaaDoorRd
namespace Go.Proofs.YteoegjginncffaaDoor
open Go.RowKit
set_option linter.unusedVariables false

set_option maxHeartbeats 1000000 in
theorem l11Num_rb (w0 : World) (rb p : Nat) (w : World) (hr : RB w0 w rb p) (hp : p ≤ 998000) :
    Calls Tryd.prog 11 #[.pointer (some ⟨rb, 0, none⟩)] w fun e w' => ∃ v : Int, e = .returned (.int .i64 v) ∧ -1099511627776 ≤ v ∧ v ≤ 1099511627776 ∧ RB w0 w' rb (p + 9) := by
  go_enter Tryd.func11, Tryd.ntmps11
  go_wp2_with (first
    | (go_at_call 24; refine (pick_rb w0 rb _ _ _ (by assumption) (by omega) (by omega) (by omega)).mono ?_; rintro e w1 ⟨v1, rfl, v10, v11, hr1⟩)
    | (go_at_call 25; refine (big_rb w0 rb _ _ _ (by assumption) (by omega) (by omega) (by omega)).mono ?_; rintro e w2 ⟨v2, rfl, v20, v21, hr2⟩)
    | (go_at_call 23; refine (one_rb 0 1099511627776 w0 rb _ _ _ _ _ _ (by assumption) (by omega) (by repeat (first | exact AllBd.nil | refine AllBd.cons (by omega) (by omega) ?_)) (by rfl) (by omega) (by omega)).mono ?_; rintro e w4 ⟨v4, rfl, v40, v41, hr4⟩))
  all_goals
    go_ret
    exact ⟨_, rfl, by omega, by omega, RB.mono (by assumption) (by omega)⟩
end Go.Proofs.YteoegjginncffaaDoor
