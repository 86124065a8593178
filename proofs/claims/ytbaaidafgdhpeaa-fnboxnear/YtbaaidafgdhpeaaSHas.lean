/- The contract of the specification's BoxHas. -/
import Derived.Test.YtbaaidafgdhpeaaSMeet
import Derived.Test.YtbaaidafgdhpeaaSpan
import Derived.Deep.QuietTactic
import Derived.BigQuiet
import Derived.Deep.RegionWith
import Derived.Deep.RegionHeld3
namespace Go.Proofs.Ytbaaidafgdhpeaa
open Go.RowKit
set_option linter.unusedVariables false
set_option linter.unusedSimpArgs false

theorem hasq (a b c d r s t u : Int) (h : bokB r s t u = true) : (ptB a b c d r s && ptB a b c d t u) = (leB a b r s && leB t u c d) := by
  unfold bokB leB at h
  simp only [Bool.and_eq_true, decide_eq_true_eq] at h
  unfold ptB leB
  rw [Bool.eq_iff_iff]
  simp only [Bool.and_eq_true, decide_eq_true_eq]
  omega
set_option maxHeartbeats 2000000 in
theorem sBoxHas_any (a b c d r s t u : Int) (w : World) :
    Calls Try.prog 38 #[b4 a b c d, b4 r s t u] w fun e w' => e = .returned (.bool (bokB a b c d && (bokB r s t u && (leB a b r s && leB t u c d)))) ∧ Below w.heap.size w w' := by
  have hset := cset_map
  go_enter Try.func38, Try.ntmps38
  go_wp2_with (first
    | (go_at_call 32; refine (sBoxOk_any _ _ _ _ _).mono ?_; rintro e w1 ⟨rfl, hb1⟩; obtain ⟨hc1, hf1⟩ := bcell hb1; have hl1 := blt hb1; have hz1 := hb1.size; (try simp only [World.size_drew, World.size_alloc, World.size_setCell] at hc1 hf1 hl1 hz1); (try have hq1x0 : w.heap.size < w1.heap.size := (by omega)); (try have hq1x1 : w.heap.size + 1 < w1.heap.size := (by omega)); (try have hq1x2 : w.heap.size + 1 + 1 < w1.heap.size := (by omega)))
    | (go_at_call 78; refine (l3Point_any _ _ _ _ _ _ _).mono ?_; rintro e w2 ⟨rfl, hb2⟩; obtain ⟨hc2, hf2⟩ := bcell hb2; have hl2 := blt hb2; have hz2 := hb2.size; (try simp only [World.size_drew, World.size_alloc, World.size_setCell] at hc2 hf2 hl2 hz2); (try have hq2x0 : w.heap.size < w2.heap.size := (by omega)); (try have hq2x1 : w.heap.size + 1 < w2.heap.size := (by omega)); (try have hq2x2 : w.heap.size + 1 + 1 < w2.heap.size := (by omega))))
  all_goals
    go_ret
    refine ⟨ret_bool ?_, by repeat (first | with_reducible apply Below.refl | (with_reducible apply Below.setCell; rotate_left; focus (first | omega | (simp; done) | (simp; omega))) | (with_reducible apply Below.alloc; rotate_left; focus (first | omega | (simp; done) | (simp; omega))) | with_reducible apply Below.drew | with_reducible apply belowDrewN | (with_reducible apply Below.trans; rotate_left; with_reducible apply Below.mono; with_reducible assumption; focus (first | omega | (simp; done) | (simp; omega))))⟩
    first | (simp [*]; done) | (rw [← hasq a b c d r s t u (by assumption)]; simp [*]; done)

end Go.Proofs.Ytbaaidafgdhpeaa
