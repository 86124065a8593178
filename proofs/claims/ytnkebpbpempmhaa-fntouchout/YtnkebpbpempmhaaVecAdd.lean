/- The contract of VecAdd. -/
import Derived.Test.YtnkebpbpempmhaaVec
import Derived.Deep.QuietTactic
import Derived.BigQuiet
import Derived.Deep.RegionWith
namespace Go.Proofs.Ytnkebpbpempmhaa
open Go.RowKit
set_option linter.unusedVariables false
set_option linter.unusedSimpArgs false

set_option maxHeartbeats 2000000 in
theorem vecAdd_any (x y u v : Int) (w : World) :
    Calls Try.prog 36 #[vv x y, vv u v] w fun e w' => e = .returned (vv (fc (fc x + fc u)) (fc (fc y + fc v))) ∧ Below w.heap.size w w' := by
  have hx := fc_bd x
  have hy := fc_bd y
  have hu := fc_bd u
  have hv := fc_bd v
  have hset := cset_map
  go_enter Try.func36, Try.ntmps36
  go_wp2
  go_region_with (first
    | (go_at_call 79; refine (fixWayOf_any _ _ _).mono ?_; rintro e w1 ⟨rfl, hb1⟩; obtain ⟨hc1, hf1⟩ := bcell hb1; have hz1 := hb1.size; (try simp at hz1); have hq1x0a : w.heap.size < w1.heap.size := (by omega); have hq1x1a : w.heap.size + 1 < w1.heap.size := (by omega); have hq1x2a : w.heap.size + 1 + 1 < w1.heap.size := (by omega); have hq1x2b : w.heap.size + 2 < w1.heap.size := (by omega))
    | (go_at_call 81; refine (plus_any _ _ _ _ _ (by omega) (by omega) (by omega) (by omega)).mono ?_; rintro e w2 ⟨rfl, hb2⟩; obtain ⟨hc2, hf2⟩ := bcell hb2; have hz2 := hb2.size; (try simp at hz2); have hq2x0a : w.heap.size < w2.heap.size := (by omega); have hq2x1a : w.heap.size + 1 < w2.heap.size := (by omega); have hq2x2a : w.heap.size + 1 + 1 < w2.heap.size := (by omega); have hq2x2b : w.heap.size + 2 < w2.heap.size := (by omega))
    | (go_at_call 80; refine (wayHeld_any _ _ _ _ (by omega) (by omega)).mono ?_; rintro e w3 ⟨rfl, hb3⟩; obtain ⟨hc3, hf3⟩ := bcell hb3; have hz3 := hb3.size; (try simp at hz3); have hq3x0a : w.heap.size < w3.heap.size := (by omega); have hq3x1a : w.heap.size + 1 < w3.heap.size := (by omega); have hq3x2a : w.heap.size + 1 + 1 < w3.heap.size := (by omega); have hq3x2b : w.heap.size + 2 < w3.heap.size := (by omega))
    | (go_at_call 67; refine (vec_any _ _ _).mono ?_; rintro e w4 ⟨rfl, hb4⟩; obtain ⟨hc4, hf4⟩ := bcell hb4; have hz4 := hb4.size; (try simp at hz4); have hq4x0a : w.heap.size < w4.heap.size := (by omega); have hq4x1a : w.heap.size + 1 < w4.heap.size := (by omega); have hq4x2a : w.heap.size + 1 + 1 < w4.heap.size := (by omega); have hq4x2b : w.heap.size + 2 < w4.heap.size := (by omega)))
  all_goals
    go_wp2
    exact bodyPost_ret (v := vv (clampZ 1000000000 (fc x + fc u)) (clampZ 1000000000 (fc y + fc v))) (by simp [results, Try.results36, go_sem, *]) rfl ⟨rfl, by repeat (first | with_reducible apply Below.refl | (with_reducible apply Below.setCell; rotate_left; focus (first | omega | (simp; done) | (simp; omega))) | (with_reducible apply Below.alloc; rotate_left; focus (first | omega | (simp; done) | (simp; omega))) | with_reducible apply Below.drew | with_reducible apply belowDrewN | (with_reducible apply Below.trans; rotate_left; with_reducible apply Below.mono; with_reducible assumption; focus (first | omega | (simp; done) | (simp; omega))))⟩

end Go.Proofs.Ytnkebpbpempmhaa
