/- The contracts of the specification's BoxBoth and BoxNear. -/
import Derived.Test.YtlnoiligennpjaaSMeet
import Derived.Test.YtlnoiligennpjaaExVec0
import Derived.Test.YtlnoiligennpjaaSpanD
import Derived.Deep.QuietTactic
import Derived.BigQuiet
import Derived.Deep.RegionWith
import Derived.Deep.RegionHeld3
namespace Go.Proofs.Ytlnoiligennpjaa
open Go.RowKit
set_option linter.unusedVariables false
set_option linter.unusedSimpArgs false

theorem l3Less_any (x y : Int) (w : World) :
    Calls Try.prog 14 #[.int .i64 x, .int .i64 y] w fun e w' => e = .returned (.int .i64 (mn x y)) ∧ w' = w := by
  go_enter Try.func14, Try.ntmps14
  go_wp2
  all_goals
    go_ret
    refine ⟨?_, rfl⟩
    unfold mn
    split <;> first | rfl | (exfalso; omega) | (have hxy : x = y := (by omega); subst hxy; rfl) | (exfalso; simp at *; omega)

theorem l3More_any (x y : Int) (w : World) :
    Calls Try.prog 15 #[.int .i64 x, .int .i64 y] w fun e w' => e = .returned (.int .i64 (mx x y)) ∧ w' = w := by
  go_enter Try.func15, Try.ntmps15
  go_wp2
  all_goals
    go_ret
    refine ⟨?_, rfl⟩
    unfold mx
    split <;> first | rfl | (exfalso; omega) | (have hxy : x = y := (by omega); subst hxy; rfl) | (exfalso; simp at *; omega)

theorem sBoxOk_t (a b c d : Int) (w : World) (h : bokB a b c d = true) : Calls Try.prog 7 #[b4 a b c d] w fun e w' => e = .returned (.bool true) ∧ Below w.heap.size w w' := by
  have k := sBoxOk_any a b c d w
  rw [h] at k
  exact k
theorem sBoxOk_n (a b c d : Int) (w : World) (h : bokB a b c d = false) : Calls Try.prog 7 #[b4 a b c d] w fun e w' => e = .returned (.bool false) ∧ Below w.heap.size w w' := by
  have k := sBoxOk_any a b c d w
  rw [h] at k
  exact k
theorem sVecOk_t (x y : Int) (w : World) (h : vokB x y = true) : Calls Try.prog 16 #[vv x y] w fun e w' => e = .returned (.bool true) ∧ Below w.heap.size w w' := by
  have k := sVecOk_any x y w
  rw [h] at k
  exact k
theorem sVecOk_n (x y : Int) (w : World) (h : vokB x y = false) : Calls Try.prog 16 #[vv x y] w fun e w' => e = .returned (.bool false) ∧ Below w.heap.size w w' := by
  have k := sVecOk_any x y w
  rw [h] at k
  exact k
end Go.Proofs.Ytlnoiligennpjaa
