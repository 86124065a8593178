/- The contracts of the specification's BoxBoth and BoxNear. -/
import Derived.Test.YtcmnmeghlebngaaSMeet
import Derived.Test.YtcmnmeghlebngaaExVec0
import Derived.Test.YtcmnmeghlebngaaSpanD
import Derived.Deep.QuietTactic
import Derived.BigQuiet
import Derived.Deep.RegionWith
import Derived.Deep.RegionHeld3
namespace Go.Proofs.Ytcmnmeghlebngaa
open Go.RowKit
set_option linter.unusedVariables false
set_option linter.unusedSimpArgs false

theorem l3Less_any (x y : Int) (w : World) :
    Calls Try.prog 194 #[.int .i64 x, .int .i64 y] w fun e w' => e = .returned (.int .i64 (mn x y)) ∧ w' = w := by
  go_enter Try.func194, Try.ntmps194
  go_wp2
  all_goals
    go_ret
    refine ⟨?_, rfl⟩
    unfold mn
    split <;> first | rfl | (exfalso; omega) | (have hxy : x = y := (by omega); subst hxy; rfl) | (exfalso; simp at *; omega)

theorem l3More_any (x y : Int) (w : World) :
    Calls Try.prog 195 #[.int .i64 x, .int .i64 y] w fun e w' => e = .returned (.int .i64 (mx x y)) ∧ w' = w := by
  go_enter Try.func195, Try.ntmps195
  go_wp2
  all_goals
    go_ret
    refine ⟨?_, rfl⟩
    unfold mx
    split <;> first | rfl | (exfalso; omega) | (have hxy : x = y := (by omega); subst hxy; rfl) | (exfalso; simp at *; omega)

theorem sBoxOk_t (a b c d : Int) (w : World) (h : bokB a b c d = true) : Calls Try.prog 44 #[b4 a b c d] w fun e w' => e = .returned (.bool true) ∧ Below w.heap.size w w' := by
  have k := sBoxOk_any a b c d w
  rw [h] at k
  exact k
theorem sBoxOk_n (a b c d : Int) (w : World) (h : bokB a b c d = false) : Calls Try.prog 44 #[b4 a b c d] w fun e w' => e = .returned (.bool false) ∧ Below w.heap.size w w' := by
  have k := sBoxOk_any a b c d w
  rw [h] at k
  exact k
theorem sVecOk_t (x y : Int) (w : World) (h : vokB x y = true) : Calls Try.prog 106 #[vv x y] w fun e w' => e = .returned (.bool true) ∧ Below w.heap.size w w' := by
  have k := sVecOk_any x y w
  rw [h] at k
  exact k
theorem sVecOk_n (x y : Int) (w : World) (h : vokB x y = false) : Calls Try.prog 106 #[vv x y] w fun e w' => e = .returned (.bool false) ∧ Below w.heap.size w w' := by
  have k := sVecOk_any x y w
  rw [h] at k
  exact k
set_option maxHeartbeats 1000000 in
theorem eqBox_same (a b c d : Int) (w : World) :
    Calls Try.prog 200 #[b4 a b c d, b4 a b c d] w fun e w' => e = .returned (.bool true) ∧ Below w.heap.size w w' := by
  have hset := cset_map
  go_enter Try.func200, Try.ntmps200
  go_wp2_with (go_at_call 146; refine (eqVec_same _ _ _).mono ?_; rintro e w1 ⟨rfl, hb1⟩; obtain ⟨hc1, hf1⟩ := bcell hb1; have hl1 := blt hb1; have hz1 := hb1.size; (try simp only [World.size_drew, World.size_alloc, World.size_setCell] at hc1 hf1 hl1 hz1); (try have hq1x0 : w.heap.size < w1.heap.size := (by omega)); (try have hq1x1 : w.heap.size + 1 < w1.heap.size := (by omega)); (try have hq1x2 : w.heap.size + 1 + 1 < w1.heap.size := (by omega)))
  all_goals
    go_ret
    exact ⟨rfl, by repeat (first | with_reducible apply Below.refl | (with_reducible apply Below.setCell; rotate_left; focus (first | omega | (simp; done) | (simp; omega))) | (with_reducible apply Below.alloc; rotate_left; focus (first | omega | (simp; done) | (simp; omega))) | with_reducible apply Below.drew | with_reducible apply belowDrewN | (with_reducible apply Below.trans; rotate_left; with_reducible apply Below.mono; with_reducible assumption; focus (first | omega | (simp; done) | (simp; omega))))⟩

end Go.Proofs.Ytcmnmeghlebngaa
