/- The walk of the exact law of BodyMove. -/
import Derived.Test.YtaejoonpgiddoaaBMove
import Derived.Deep.RegionHeld3
import Derived.Deep.DeepCutAuto
namespace Go.Proofs.Ytaejoonpgiddoaa
open Go.RowKit
set_option linter.unusedVariables false
set_option linter.unusedSimpArgs false

set_option maxRecDepth 20000 in
set_option maxHeartbeats 16000000 in
theorem fnExactBodyMove_walk (V : Nat → Int) (w : World)  :
    Calls Try.prog 12 #[bodyW V] w fun e w' => e = .returned (.bool true) ∧ Below w.heap.size w w' := by
  have hset := cset_map
  obtain ⟨U, eU⟩ : ∃ U, bmV V = U := ⟨_, rfl⟩
  go_enter Try.func12, Try.ntmps12
  go_upto_region 1 with fail
  go_cut [3] (fun s wc => ∃ B, s = .pointer (some ⟨B, 0, none⟩) ∧ (wc.cell? ⟨w.heap.size, 0, none⟩ = some (.int .i64 (V 0)) ∧ wc.cell? ⟨w.heap.size, 1, none⟩ = some (.int .i64 (V 1)) ∧ wc.cell? ⟨w.heap.size, 2, none⟩ = some (.int .i64 (V 2)) ∧ wc.cell? ⟨w.heap.size, 3, none⟩ = some (.int .i64 (V 3)) ∧ wc.cell? ⟨w.heap.size, 4, none⟩ = some (.int .i64 (V 4)) ∧ wc.cell? ⟨w.heap.size, 5, none⟩ = some (.int .i64 (V 5)) ∧ wc.cell? ⟨w.heap.size, 6, none⟩ = some (.int .i64 (V 6)) ∧ wc.cell? ⟨w.heap.size, 7, none⟩ = some (.int .i64 (V 7)) ∧ wc.cell? ⟨w.heap.size, 8, none⟩ = some (.int .i64 (V 8)) ∧ wc.cell? ⟨w.heap.size, 9, none⟩ = some (.int .i64 (V 9)) ∧ wc.cell? ⟨w.heap.size, 10, none⟩ = some (.int .i64 (V 10)) ∧ wc.cell? ⟨w.heap.size, 11, none⟩ = some (.int .i64 (V 11))) ∧ (∀ j, j < 12 → wc.cell? ⟨B, j, none⟩ = some (.int .i64 (U j))) ∧ w.heap.size < B ∧ B < wc.heap.size ∧ Below w.heap.size w wc)
  case first =>
    go_wp2_with (first
        | (go_at_call 28; refine (sBodyMove_q V U _ (by with_reducible assumption)).mono ?_; rintro e w2 ⟨rfl, hb2⟩; obtain ⟨hc2, hf2⟩ := bcell hb2; have hz2 := hb2.size; (try simp only [World.size_drew, World.size_alloc, World.size_setCell] at hc2 hf2 hz2); have hk2x0 := fun o => hc2 (w.heap.size) o (by omega); have hj2x0 := fun o => hf2 (w.heap.size) o (by omega); have hq2x0 : w.heap.size < w2.heap.size := (by omega); (try have ht2x0 := fun o => hc2 (w.heap.size + 1) o (by omega)); (try have hu2x0 := fun o => hf2 (w.heap.size + 1) o (by omega)); (try have hv2x0 : w.heap.size + 1 < w2.heap.size := (by omega)); (try have hw2x0 : (w2.heap.size = w.heap.size + 1) = False := eq_false (by omega)); (try have ht2x1 := fun o => hc2 (w1.heap.size) o (by omega)); (try have hu2x1 := fun o => hf2 (w1.heap.size) o (by omega)); (try have hv2x1 : w1.heap.size < w2.heap.size := (by omega)); (try have hw2x1 : (w2.heap.size = w1.heap.size) = False := eq_false (by omega)); clear hc2 hf2)
        | (go_at_call 36; refine (toBody_any V _).mono ?_; rintro e w1 ⟨rfl, hb1⟩; obtain ⟨hc1, hf1⟩ := bcell hb1; have hz1 := hb1.size; (try simp only [World.size_drew, World.size_alloc, World.size_setCell] at hc1 hf1 hz1); have hk1x0 := fun o => hc1 (w.heap.size) o (by omega); have hj1x0 := fun o => hf1 (w.heap.size) o (by omega); have hq1x0 : w.heap.size < w1.heap.size := (by omega); (try have ht1x0 := fun o => hc1 (w.heap.size + 1) o (by omega)); (try have hu1x0 := fun o => hf1 (w.heap.size + 1) o (by omega)); (try have hv1x0 : w.heap.size + 1 < w1.heap.size := (by omega)); (try have hw1x0 : (w1.heap.size = w.heap.size + 1) = False := eq_false (by omega)); clear hc1 hf1))
    go_meet
    exact ⟨_, rfl, ⟨(by go_simp), (by go_simp), (by go_simp), (by go_simp), (by go_simp), (by go_simp), (by go_simp), (by go_simp), (by go_simp), (by go_simp), (by go_simp), (by go_simp)⟩, (fun j hj => by (rcases (show j = 0 ∨ j = 1 ∨ j = 2 ∨ j = 3 ∨ j = 4 ∨ j = 5 ∨ j = 6 ∨ j = 7 ∨ j = 8 ∨ j = 9 ∨ j = 10 ∨ j = 11 by omega) with rfl | rfl | rfl | rfl | rfl | rfl | rfl | rfl | rfl | rfl | rfl | rfl <;> (first | (go_simp; done) | (simp; done)))), (by first | omega | (simp; done) | (simp; omega)), (by first | omega | (simp; done) | (simp; omega)), (by repeat (first | with_reducible apply Below.refl | (with_reducible apply Below.setCell; rotate_left; focus (first | omega | (simp; done) | (simp; omega))) | (with_reducible apply Below.alloc; rotate_left; focus (first | omega | (simp; done) | (simp; omega))) | with_reducible apply Below.drew | with_reducible apply belowDrewN | (with_reducible apply Below.trans; rotate_left; with_reducible apply Below.mono; with_reducible assumption; focus (first | omega | (simp; done) | (simp; omega)))))⟩
  case rest =>
  obtain ⟨B5, rfl, ⟨k0, k1, k2, k3, k4, k5, k6, k7, k8, k9, k10, k11⟩, hin, hlo, hbz, hbel⟩ := hcut
  have uu0 := hin 0 (by omega)
  have uu1 := hin 1 (by omega)
  have uu2 := hin 2 (by omega)
  have uu3 := hin 3 (by omega)
  have uu4 := hin 4 (by omega)
  have uu5 := hin 5 (by omega)
  have uu6 := hin 6 (by omega)
  have uu7 := hin 7 (by omega)
  have uu8 := hin 8 (by omega)
  have uu9 := hin 9 (by omega)
  have uu10 := hin 10 (by omega)
  have uu11 := hin 11 (by omega)
  clear hin
  go_upto_region 2 with fail
  go_cut [4] (fun s wc => ∃ B, s = .pointer (some ⟨B, 0, none⟩) ∧ (∀ j, j < 12 → wc.cell? ⟨B5, j, none⟩ = some (.int .i64 (U j))) ∧ (∀ j, j < 12 → wc.cell? ⟨B, j, none⟩ = some (.int .i64 (U j))) ∧ Below w.heap.size w wc)
  case first =>
    go_wp2_with (first
        | (go_at_call 27; refine (bodyMove_q V U _ (by with_reducible assumption)).mono ?_; rintro e w11 ⟨rfl, hb11⟩; obtain ⟨hc11, hf11⟩ := bcell hb11; have hz11 := hb11.size; (try simp only [World.size_drew, World.size_alloc, World.size_setCell] at hc11 hf11 hz11); have hk11x0 := fun o => hc11 (w.heap.size) o (by omega); have hj11x0 := fun o => hf11 (w.heap.size) o (by omega); have hq11x0 : w.heap.size < w11.heap.size := (by omega); have hk11x1 := fun o => hc11 (B5) o (by omega); have hj11x1 := fun o => hf11 (B5) o (by omega); have hq11x1 : B5 < w11.heap.size := (by omega); (try have ht11x0 := fun o => hc11 (wc.heap.size) o (by omega)); (try have hu11x0 := fun o => hf11 (wc.heap.size) o (by omega)); (try have hv11x0 : wc.heap.size < w11.heap.size := (by omega)); (try have hw11x0 : (w11.heap.size = wc.heap.size) = False := eq_false (by omega)); (try have ht11x1 := fun o => hc11 (w10.heap.size) o (by omega)); (try have hu11x1 := fun o => hf11 (w10.heap.size) o (by omega)); (try have hv11x1 : w10.heap.size < w11.heap.size := (by omega)); (try have hw11x1 : (w11.heap.size = w10.heap.size) = False := eq_false (by omega)); clear hc11 hf11)
        | (go_at_call 36; refine (toBody_any V _).mono ?_; rintro e w10 ⟨rfl, hb10⟩; obtain ⟨hc10, hf10⟩ := bcell hb10; have hz10 := hb10.size; (try simp only [World.size_drew, World.size_alloc, World.size_setCell] at hc10 hf10 hz10); have hk10x0 := fun o => hc10 (w.heap.size) o (by omega); have hj10x0 := fun o => hf10 (w.heap.size) o (by omega); have hq10x0 : w.heap.size < w10.heap.size := (by omega); have hk10x1 := fun o => hc10 (B5) o (by omega); have hj10x1 := fun o => hf10 (B5) o (by omega); have hq10x1 : B5 < w10.heap.size := (by omega); (try have ht10x0 := fun o => hc10 (wc.heap.size) o (by omega)); (try have hu10x0 := fun o => hf10 (wc.heap.size) o (by omega)); (try have hv10x0 : wc.heap.size < w10.heap.size := (by omega)); (try have hw10x0 : (w10.heap.size = wc.heap.size) = False := eq_false (by omega)); clear hc10 hf10))
    go_meet
    exact ⟨_, rfl, (fun j hj => by (rcases (show j = 0 ∨ j = 1 ∨ j = 2 ∨ j = 3 ∨ j = 4 ∨ j = 5 ∨ j = 6 ∨ j = 7 ∨ j = 8 ∨ j = 9 ∨ j = 10 ∨ j = 11 by omega) with rfl | rfl | rfl | rfl | rfl | rfl | rfl | rfl | rfl | rfl | rfl | rfl <;> (first | (go_simp; done) | (simp; done)))), (fun j hj => by (rcases (show j = 0 ∨ j = 1 ∨ j = 2 ∨ j = 3 ∨ j = 4 ∨ j = 5 ∨ j = 6 ∨ j = 7 ∨ j = 8 ∨ j = 9 ∨ j = 10 ∨ j = 11 by omega) with rfl | rfl | rfl | rfl | rfl | rfl | rfl | rfl | rfl | rfl | rfl | rfl <;> (first | (go_simp; done) | (simp; done)))), (by repeat (first | with_reducible apply Below.refl | (with_reducible apply Below.setCell; rotate_left; focus (first | omega | (simp; done) | (simp; omega))) | (with_reducible apply Below.alloc; rotate_left; focus (first | omega | (simp; done) | (simp; omega))) | with_reducible apply Below.drew | with_reducible apply belowDrewN | (with_reducible apply Below.trans; rotate_left; with_reducible apply Below.mono; with_reducible assumption; focus (first | omega | (simp; done) | (simp; omega)))))⟩
  case rest =>
  obtain ⟨B6, rfl, hin5, hin6, hbel2⟩ := hcut
  clear k0 k1 k2 k3 k4 k5 k6 k7 k8 k9 k10 k11 uu0 uu1 uu2 uu3 uu4 uu5 uu6 uu7 uu8 uu9 uu10 uu11 hbel hbz hlo
  have uu0 := hin5 0 (by omega)
  have vw0 := hin6 0 (by omega)
  have uu1 := hin5 1 (by omega)
  have vw1 := hin6 1 (by omega)
  have uu2 := hin5 2 (by omega)
  have vw2 := hin6 2 (by omega)
  have uu3 := hin5 3 (by omega)
  have vw3 := hin6 3 (by omega)
  have uu4 := hin5 4 (by omega)
  have vw4 := hin6 4 (by omega)
  have uu5 := hin5 5 (by omega)
  have vw5 := hin6 5 (by omega)
  have uu6 := hin5 6 (by omega)
  have vw6 := hin6 6 (by omega)
  have uu7 := hin5 7 (by omega)
  have vw7 := hin6 7 (by omega)
  have uu8 := hin5 8 (by omega)
  have vw8 := hin6 8 (by omega)
  have uu9 := hin5 9 (by omega)
  have vw9 := hin6 9 (by omega)
  have uu10 := hin5 10 (by omega)
  have vw10 := hin6 10 (by omega)
  have uu11 := hin5 11 (by omega)
  have vw11 := hin6 11 (by omega)
  clear hin5 hin6
  have kz2 := hbel2.size
  go_wp2_with (go_at_call 39; refine (eqBody_same U _).mono ?_; rintro e w30 ⟨rfl, hb30⟩; obtain ⟨hc30, hf30⟩ := bcell hb30; have hz30 := hb30.size; (try simp only [World.size_drew, World.size_alloc, World.size_setCell] at hc30 hf30 hz30); clear hc30 hf30)
  go_ret
  exact ⟨rfl, by repeat (first | with_reducible apply Below.refl | (with_reducible apply Below.setCell; rotate_left; focus (first | omega | (simp; done) | (simp; omega))) | (with_reducible apply Below.alloc; rotate_left; focus (first | omega | (simp; done) | (simp; omega))) | with_reducible apply Below.drew | with_reducible apply belowDrewN | (with_reducible apply Below.trans; rotate_left; with_reducible apply Below.mono; with_reducible assumption; focus (first | omega | (simp; done) | (simp; omega))))⟩
end Go.Proofs.Ytaejoonpgiddoaa
