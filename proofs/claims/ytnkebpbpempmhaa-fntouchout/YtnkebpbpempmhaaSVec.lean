/- The contracts of the specification's ways. -/
import Derived.Test.YtnkebpbpempmhaaVec
import Derived.Deep.QuietTactic
import Derived.BigQuiet
import Derived.Deep.RegionWith
namespace Go.Proofs.Ytnkebpbpempmhaa
open Go.RowKit
set_option linter.unusedVariables false
set_option linter.unusedSimpArgs false

set_option maxHeartbeats 1000000 in
theorem l2Clamp_any (x y : Int) (w : World) :
    Calls Try.prog 127 #[vv x y] w fun e w' => e = .returned (vv (fc x) (fc y)) ∧ Below w.heap.size w w' := by
  have hset := cset_map
  go_enter Try.func127, Try.ntmps127
  go_wp2
  go_region_with (go_at_call 128; refine (sFixClamp_any _ _).mono ?_; rintro e w' ⟨rfl, rfl⟩)
  all_goals
    go_wp2
    exact bodyPost_ret (v := vv (fc x) (fc y)) (by simp [results, Try.results127, go_sem, *]) rfl ⟨rfl, by repeat (first | with_reducible apply Below.refl | (with_reducible apply Below.setCell; rotate_left; focus (first | omega | (simp; done) | (simp; omega))) | (with_reducible apply Below.alloc; rotate_left; focus (first | omega | (simp; done) | (simp; omega))) | with_reducible apply Below.drew | with_reducible apply belowDrewN | (with_reducible apply Below.trans; rotate_left; with_reducible apply Below.mono; with_reducible assumption; focus (first | omega | (simp; done) | (simp; omega))))⟩

theorem l1In_any (n l h : Int) (w : World) :
    Calls Try.prog 65 #[.int .i64 n, .int .i64 l, .int .i64 h] w fun e w' => e = .returned (.bool (decide (l ≤ n ∧ n ≤ h))) ∧ w' = w := by
  go_enter Try.func65, Try.ntmps65
  go_wp2
  all_goals
    go_ret
    refine ⟨ret_bool ?_, rfl⟩
    first | (simp; omega) | (simp; done)

theorem sVecOk_any (x y : Int) (w : World) :
    Calls Try.prog 46 #[vv x y] w fun e w' => e = .returned (.bool (vokB x y)) ∧ Below w.heap.size w w' := by
  have hset := cset_map
  go_enter Try.func46, Try.ntmps46
  go_wp2_with (go_at_call 65; refine (l1In_any _ _ _ _).mono ?_; rintro e w' ⟨rfl, rfl⟩)
  all_goals
    go_ret
    refine ⟨ret_bool ?_, by repeat (first | with_reducible apply Below.refl | (with_reducible apply Below.setCell; rotate_left; focus (first | omega | (simp; done) | (simp; omega))) | (with_reducible apply Below.alloc; rotate_left; focus (first | omega | (simp; done) | (simp; omega))) | with_reducible apply Below.drew | with_reducible apply belowDrewN | (with_reducible apply Below.trans; rotate_left; with_reducible apply Below.mono; with_reducible assumption; focus (first | omega | (simp; done) | (simp; omega))))⟩
    unfold vokB
    first | (simp; omega) | (simp [*]; done) | (simp at *; omega)

end Go.Proofs.Ytnkebpbpempmhaa
