/- BodyPush, by the program. -/
import Derived.Test.YtflgmpppnobogaaBPush
import Derived.Deep.RegionHeld3
import Derived.Deep.DeepCutAuto
namespace Go.Proofs.Ytflgmpppnobogaa
open Go.RowKit
set_option linter.unusedVariables false
set_option linter.unusedSimpArgs false

set_option maxRecDepth 20000 in
set_option maxHeartbeats 8000000 in
theorem bodyPush_2 (V : Nat → Int) (p q : Int) (w : World) (eb : bodyB V = true) (ed : inB 20000000 p q = false) :
    Calls Try.prog 24 #[bodyW V, vv p q] w fun e w' => e = .returned (bodyW (fun _ => 0)) ∧ Below w.heap.size w w' := by
  have hset := cset_map
  go_enter Try.func24, Try.ntmps24
  go_wp2_with (first
      | (go_at_call 56; refine (isDrive_q _ _ _ _ (by with_reducible assumption)).mono ?_; rintro e w2 ⟨rfl, hb2⟩; obtain ⟨hc2, hf2⟩ := bcell hb2; have hz2 := hb2.size; (try simp only [World.size_drew, World.size_alloc, World.size_setCell] at hc2 hf2 hz2); have hk2x0 := fun o => hc2 (w.heap.size + 1) o (by omega); have hj2x0 := fun o => hf2 (w.heap.size + 1) o (by omega); have hq2x0 : w.heap.size + 1 < w2.heap.size := (by omega); have hk2x1 := fun o => hc2 (w.heap.size + 1 + 1) o (by omega); have hj2x1 := fun o => hf2 (w.heap.size + 1 + 1) o (by omega); have hq2x1 : w.heap.size + 1 + 1 < w2.heap.size := (by omega); have hk2x2 := fun o => hc2 (w1.heap.size) o (by omega); have hj2x2 := fun o => hf2 (w1.heap.size) o (by omega); have hq2x2 : w1.heap.size < w2.heap.size := (by omega); clear hc2 hf2)
      | (go_at_call 43; refine (handleOf_any V _ _ (by with_reducible assumption)).mono ?_; rintro e w1 ⟨cb, G, rfl, hcb, h, hb1⟩; obtain ⟨hc1, hf1⟩ := bcell hb1; have hz1 := hb1.size; (try simp only [World.size_drew, World.size_alloc, World.size_setCell] at hc1 hf1 hz1 hcb); have hl1 := h.cbl; have hk1x0 := fun o => hc1 (w.heap.size + 1) o (by omega); have hj1x0 := fun o => hf1 (w.heap.size + 1) o (by omega); have hq1x0 : w.heap.size + 1 < w1.heap.size := (by omega); have hres : ∀ j, j < 12 → w1.cell? ⟨w.heap.size + 1 + 1, j, none⟩ = some (.int .i64 0) := (by intro j hj; rw [hc1 _ _ (by omega)]; (rcases (show j = 0 ∨ j = 1 ∨ j = 2 ∨ j = 3 ∨ j = 4 ∨ j = 5 ∨ j = 6 ∨ j = 7 ∨ j = 8 ∨ j = 9 ∨ j = 10 ∨ j = 11 by omega) with rfl | rfl | rfl | rfl | rfl | rfl | rfl | rfl | rfl | rfl | rfl | rfl <;> (first | (go_simp; done) | (simp; done)))); have hfre : ∀ j, j < 12 → w1.frozen? ⟨w.heap.size + 1 + 1, j, none⟩ = false := (by intro j hj; rw [hf1 _ _ (by omega)]; (rcases (show j = 0 ∨ j = 1 ∨ j = 2 ∨ j = 3 ∨ j = 4 ∨ j = 5 ∨ j = 6 ∨ j = 7 ∨ j = 8 ∨ j = 9 ∨ j = 10 ∨ j = 11 by omega) with rfl | rfl | rfl | rfl | rfl | rfl | rfl | rfl | rfl | rfl | rfl | rfl <;> (first | (go_simp; done) | (simp; done)))); have hqr : w.heap.size + 1 + 1 < w1.heap.size := (by omega); clear hc1 hf1))
  exact bodyPost_ret (v := bodyW (fun _ => 0)) (by simp [results, Try.results24, go_sem, *]) rfl ⟨rfl, by repeat (first | with_reducible apply Below.refl | (with_reducible apply Below.setCell; rotate_left; focus (first | omega | (simp; done) | (simp; omega))) | (with_reducible apply Below.alloc; rotate_left; focus (first | omega | (simp; done) | (simp; omega))) | with_reducible apply Below.drew | with_reducible apply belowDrewN | (with_reducible apply Below.trans; rotate_left; with_reducible apply Below.mono; with_reducible assumption; focus (first | omega | (simp; done) | (simp; omega))))⟩
end Go.Proofs.Ytflgmpppnobogaa
