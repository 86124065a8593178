/- BodyPush, by the program. -/
import Derived.Test.YtflgmpppnobogaaBPush
import Derived.Deep.RegionHeld3
import Derived.Deep.DeepCutAuto
namespace Go.Proofs.Ytflgmpppnobogaa
open Go.RowKit
set_option linter.unusedVariables false
set_option linter.unusedSimpArgs false

set_option maxRecDepth 20000 in
set_option maxHeartbeats 8000000 in
theorem bodyPush_1 (V : Nat → Int) (p q : Int) (w : World) (eb : bodyB V = false) :
    Calls Try.prog 24 #[bodyW V, vv p q] w fun e w' => e = .returned (bodyW (fun _ => 0)) ∧ Below w.heap.size w w' := by
  have hset := cset_map
  go_enter Try.func24, Try.ntmps24
  go_upto_region 1 with fail
  go_cut [6] (fun s wc => s = .bool false ∧ (∀ j, j < 12 → wc.cell? ⟨w.heap.size + 1 + 1, j, none⟩ = some (.int .i64 0)) ∧ (∀ j, j < 12 → wc.frozen? ⟨w.heap.size + 1 + 1, j, none⟩ = false) ∧ w.heap.size + 1 + 1 < wc.heap.size ∧ Below w.heap.size w wc)
  case first =>
    go_wp2_with (go_at_call 43; refine (handleOf_any V _ _ (by with_reducible assumption)).mono ?_; rintro e w1 ⟨cb, G, rfl, hcb, h, hb1⟩; obtain ⟨hc1, hf1⟩ := bcell hb1; have hz1 := hb1.size; (try simp only [World.size_drew, World.size_alloc, World.size_setCell] at hc1 hf1 hz1 hcb); have hl1 := h.cbl; have hk1x0 := fun o => hc1 (w.heap.size + 1) o (by omega); have hj1x0 := fun o => hf1 (w.heap.size + 1) o (by omega); have hq1x0 : w.heap.size + 1 < w1.heap.size := (by omega); have hres : ∀ j, j < 12 → w1.cell? ⟨w.heap.size + 1 + 1, j, none⟩ = some (.int .i64 0) := (by intro j hj; rw [hc1 _ _ (by omega)]; (rcases (show j = 0 ∨ j = 1 ∨ j = 2 ∨ j = 3 ∨ j = 4 ∨ j = 5 ∨ j = 6 ∨ j = 7 ∨ j = 8 ∨ j = 9 ∨ j = 10 ∨ j = 11 by omega) with rfl | rfl | rfl | rfl | rfl | rfl | rfl | rfl | rfl | rfl | rfl | rfl <;> (first | (go_simp; done) | (simp; done)))); have hfre : ∀ j, j < 12 → w1.frozen? ⟨w.heap.size + 1 + 1, j, none⟩ = false := (by intro j hj; rw [hf1 _ _ (by omega)]; (rcases (show j = 0 ∨ j = 1 ∨ j = 2 ∨ j = 3 ∨ j = 4 ∨ j = 5 ∨ j = 6 ∨ j = 7 ∨ j = 8 ∨ j = 9 ∨ j = 10 ∨ j = 11 by omega) with rfl | rfl | rfl | rfl | rfl | rfl | rfl | rfl | rfl | rfl | rfl | rfl <;> (first | (go_simp; done) | (simp; done)))); have hqr : w.heap.size + 1 + 1 < w1.heap.size := (by omega); clear hc1 hf1)
    go_meet
    exact ⟨rfl, fun j hj => (by have := hres j hj; go_simp), fun j hj => (by have := hfre j hj; go_simp), (by first | omega | (simp; omega)), by repeat (first | with_reducible apply Below.refl | (with_reducible apply Below.setCell; rotate_left; focus (first | omega | (simp; done) | (simp; omega))) | (with_reducible apply Below.alloc; rotate_left; focus (first | omega | (simp; done) | (simp; omega))) | with_reducible apply Below.drew | with_reducible apply belowDrewN | (with_reducible apply Below.trans; rotate_left; with_reducible apply Below.mono; with_reducible assumption; focus (first | omega | (simp; done) | (simp; omega))))⟩
  case rest =>
  obtain ⟨rfl, hres, hfre, hqr, hbel⟩ := hcut
  go_wp2_with fail
  exact bodyPost_ret (v := bodyW (fun _ => 0)) (by simp [results, Try.results24, go_sem, *]) rfl ⟨rfl, by repeat (first | with_reducible apply Below.refl | (with_reducible apply Below.setCell; rotate_left; focus (first | omega | (simp; done) | (simp; omega))) | (with_reducible apply Below.alloc; rotate_left; focus (first | omega | (simp; done) | (simp; omega))) | with_reducible apply Below.drew | with_reducible apply belowDrewN | (with_reducible apply Below.trans; rotate_left; with_reducible apply Below.mono; with_reducible assumption; focus (first | omega | (simp; done) | (simp; omega))))⟩
end Go.Proofs.Ytflgmpppnobogaa
