/- Whether a body is ok, at any row: the test of nine limbs, where one of the first is not met. -/
import Derived.Test.YtpoichpdkkejjaaB3
import Derived.Deep.RegionHeld3
import Derived.Deep.DeepCutAuto
namespace Go.Proofs.Ytpoichpdkkejjaa
open Go.RowKit
set_option linter.unusedVariables false
set_option linter.unusedSimpArgs false

set_option maxHeartbeats 8000000 in
theorem kOk_0 {cb n k : Nat} {V : Nat → Int} {G : Nat → Nat} {w : World} (h : HAt w cb n k V G) (k0 : decide (0 ≤ V 0 ∧ V 0 ≤ 999999999) = false) :
    Calls Try.prog 21 #[hdk cb k] w fun e w' => e = .returned (.bool false) ∧ Below w.heap.size w w' := by
  have hset := cset_map
  have l1 := h.cbl
  have hkn := h.kn
  have hnl := h.nl
  obtain ⟨c0, hc0, hv0, _, l0g, lc0⟩ := h.col 0 (by omega)
  generalize hG0 : G 0 = g0 at hc0 hv0 l0g lc0
  clear hG0
  go_enter Try.func21, Try.ntmps21
  go_upto_region 1 with fail
  refine wp_region_held_drew (S := fun w' => w'.cell? ⟨w.heap.size, 0, none⟩ = some (.int .i64 (k : Int)) ∧ w'.cell? ⟨w.heap.size, 1, none⟩ = some (.pointer (some ⟨cb, 0, none⟩)) ∧ w'.cell? ⟨cb, 0, none⟩ = some (.slice (some ⟨g0, 0, none⟩) n c0) ∧ w'.cell? ⟨g0, k, none⟩ = some (.int .i64 (V 0))) (by kernel_rfl) ?_ (fun hHeld => ?_)
  · (try dsimp only)
    (first | (go_simp; done) | (go_keep; done))
  refine tq 0 hHeld ?_
  refine tq 1 hHeld ?_
  refine tq 2 hHeld ?_
  refine tq 3 hHeld ?_
  refine tq 4 hHeld ?_
  refine tq 5 hHeld ?_
  refine tq 6 hHeld ?_
  refine tq 7 hHeld ?_
  refine tq 8 hHeld ?_
  (refine tc 9 fun K hK => ?_; go_simp; (go_at_call 34; refine (upTo_q _ _ _ _ (by with_reducible assumption)).mono ?_; rintro e w1 ⟨rfl, hb1⟩; obtain ⟨hc1, hf1⟩ := bcell hb1; have hz1 := hb1.size; (try simp only [World.size_drew, World.size_alloc, World.size_setCell] at hc1 hf1 hz1); have hk1x0 := fun o => hc1 (w.heap.size) o (by omega); have hj1x0 := fun o => hf1 (w.heap.size) o (by omega); have hq1x0 : w.heap.size < w1.heap.size := (by omega); have hk1x1 := fun o => hc1 (cb) o (by omega); have hj1x1 := fun o => hf1 (cb) o (by omega); have hq1x1 : cb < w1.heap.size := (by omega); have hk1x2 := fun o => hc1 (g0) o (by omega); have hj1x2 := fun o => hf1 (g0) o (by omega); have hq1x2 : g0 < w1.heap.size := (by omega); clear hc1 hf1); (try go_wp2_with fail); refine tr hK (fun hHeld => ?_); clear hK K)
  refine tq 10 hHeld ?_
  refine tn 11 hHeld ?_
  refine tn 12 hHeld ?_
  refine tn 13 hHeld ?_
  refine tq 14 hHeld ?_
  refine tq 15 hHeld ?_
  refine tn 16 hHeld ?_
  refine tn 17 hHeld ?_
  refine tn 18 hHeld ?_
  refine tq 19 hHeld ?_
  refine tq 20 hHeld ?_
  refine tn 21 hHeld ?_
  refine tn 22 hHeld ?_
  refine tn 23 hHeld ?_
  refine tq 24 hHeld ?_
  refine tq 25 hHeld ?_
  refine tn 26 hHeld ?_
  refine tn 27 hHeld ?_
  refine tn 28 hHeld ?_
  refine tq 29 hHeld ?_
  refine tq 30 hHeld ?_
  refine tn 31 hHeld ?_
  refine tn 32 hHeld ?_
  refine tn 33 hHeld ?_
  refine tq 34 hHeld ?_
  refine tq 35 hHeld ?_
  refine tn 36 hHeld ?_
  refine tn 37 hHeld ?_
  refine tn 38 hHeld ?_
  refine tq 39 hHeld ?_
  refine tq 40 hHeld ?_
  refine tn 41 hHeld ?_
  refine tn 42 hHeld ?_
  refine tn 43 hHeld ?_
  refine tq 44 hHeld ?_
  refine tq 45 hHeld ?_
  refine tn 46 hHeld ?_
  refine tn 47 hHeld ?_
  refine tq 48 hHeld ?_
  refine tq 49 hHeld ?_
  refine wpAnyH_done (by kernel_rfl) ?_ _
  go_wp2_with fail
  go_ret
  exact ⟨rfl, by repeat (first | with_reducible apply Below.refl | (with_reducible apply Below.setCell; rotate_left; focus (first | omega | (simp; done) | (simp; omega))) | (with_reducible apply Below.alloc; rotate_left; focus (first | omega | (simp; done) | (simp; omega))) | with_reducible apply Below.drew | with_reducible apply belowDrewN | (with_reducible apply Below.trans; rotate_left; with_reducible apply Below.mono; with_reducible assumption; focus (first | omega | (simp; done) | (simp; omega))))⟩

set_option maxHeartbeats 8000000 in
theorem kOk_1 {cb n k : Nat} {V : Nat → Int} {G : Nat → Nat} {w : World} (h : HAt w cb n k V G) (k0 : decide (0 ≤ V 0 ∧ V 0 ≤ 999999999) = true) (k1 : shB (V 1) (V 2) (V 3) = false) :
    Calls Try.prog 21 #[hdk cb k] w fun e w' => e = .returned (.bool false) ∧ Below w.heap.size w w' := by
  have hset := cset_map
  have l1 := h.cbl
  have hkn := h.kn
  have hnl := h.nl
  obtain ⟨c0, hc0, hv0, _, l0g, lc0⟩ := h.col 0 (by omega)
  generalize hG0 : G 0 = g0 at hc0 hv0 l0g lc0
  clear hG0
  go_enter Try.func21, Try.ntmps21
  go_upto_region 1 with fail
  refine wp_region_held_drew (S := fun w' => w'.cell? ⟨w.heap.size, 0, none⟩ = some (.int .i64 (k : Int)) ∧ w'.cell? ⟨w.heap.size, 1, none⟩ = some (.pointer (some ⟨cb, 0, none⟩)) ∧ w'.cell? ⟨cb, 0, none⟩ = some (.slice (some ⟨g0, 0, none⟩) n c0) ∧ w'.cell? ⟨g0, k, none⟩ = some (.int .i64 (V 0))) (by kernel_rfl) ?_ (fun hHeld => ?_)
  · (try dsimp only)
    (first | (go_simp; done) | (go_keep; done))
  refine tq 0 hHeld ?_
  refine tq 1 hHeld ?_
  refine tq 2 hHeld ?_
  refine tq 3 hHeld ?_
  refine tq 4 hHeld ?_
  refine tq 5 hHeld ?_
  refine tq 6 hHeld ?_
  refine tq 7 hHeld ?_
  refine tq 8 hHeld ?_
  (refine tc 9 fun K hK => ?_; go_simp; (go_at_call 34; refine (upTo_q _ _ _ _ (by with_reducible assumption)).mono ?_; rintro e w1 ⟨rfl, hb1⟩; obtain ⟨hc1, hf1⟩ := bcell hb1; have hz1 := hb1.size; (try simp only [World.size_drew, World.size_alloc, World.size_setCell] at hc1 hf1 hz1); have hk1x0 := fun o => hc1 (w.heap.size) o (by omega); have hj1x0 := fun o => hf1 (w.heap.size) o (by omega); have hq1x0 : w.heap.size < w1.heap.size := (by omega); have hk1x1 := fun o => hc1 (cb) o (by omega); have hj1x1 := fun o => hf1 (cb) o (by omega); have hq1x1 : cb < w1.heap.size := (by omega); have hk1x2 := fun o => hc1 (g0) o (by omega); have hj1x2 := fun o => hf1 (g0) o (by omega); have hq1x2 : g0 < w1.heap.size := (by omega); clear hc1 hf1); (try go_wp2_with fail); refine tr hK (fun hHeld => ?_); clear hK K)
  refine tq 10 hHeld ?_
  refine tq 11 hHeld ?_
  (refine tc 12 fun K hK => ?_; go_simp; (go_at_call 36; refine (kShape (HAt.below h (by repeat (first | with_reducible apply Below.refl | (with_reducible apply Below.setCell; rotate_left; focus (first | omega | (simp; done) | (simp; omega))) | (with_reducible apply Below.alloc; rotate_left; focus (first | omega | (simp; done) | (simp; omega))) | with_reducible apply Below.drew | with_reducible apply belowDrewN | (with_reducible apply Below.trans; rotate_left; with_reducible apply Below.mono; with_reducible assumption; focus (first | omega | (simp; done) | (simp; omega))))))).mono ?_; rintro e w2 ⟨rfl, hb2⟩; obtain ⟨hc2, hf2⟩ := bcell hb2; have hz2 := hb2.size; (try simp only [World.size_drew, World.size_alloc, World.size_setCell] at hc2 hf2 hz2); have hk2x0 := fun o => hc2 (w.heap.size) o (by omega); have hj2x0 := fun o => hf2 (w.heap.size) o (by omega); have hq2x0 : w.heap.size < w2.heap.size := (by omega); have hk2x1 := fun o => hc2 (cb) o (by omega); have hj2x1 := fun o => hf2 (cb) o (by omega); have hq2x1 : cb < w2.heap.size := (by omega); have hk2x2 := fun o => hc2 (g0) o (by omega); have hj2x2 := fun o => hf2 (g0) o (by omega); have hq2x2 : g0 < w2.heap.size := (by omega); clear hc2 hf2); (try go_wp2_with fail); refine tr hK (fun hHeld => ?_); clear hK K)
  (refine tc 13 fun K hK => ?_; go_simp; (go_at_call 35; refine (shapeOk_q _ _ _ _ _ (by with_reducible assumption)).mono ?_; rintro e w3 ⟨rfl, hb3⟩; obtain ⟨hc3, hf3⟩ := bcell hb3; have hz3 := hb3.size; (try simp only [World.size_drew, World.size_alloc, World.size_setCell] at hc3 hf3 hz3); have hk3x0 := fun o => hc3 (w.heap.size) o (by omega); have hj3x0 := fun o => hf3 (w.heap.size) o (by omega); have hq3x0 : w.heap.size < w3.heap.size := (by omega); have hk3x1 := fun o => hc3 (cb) o (by omega); have hj3x1 := fun o => hf3 (cb) o (by omega); have hq3x1 : cb < w3.heap.size := (by omega); have hk3x2 := fun o => hc3 (g0) o (by omega); have hj3x2 := fun o => hf3 (g0) o (by omega); have hq3x2 : g0 < w3.heap.size := (by omega); clear hc3 hf3); (try go_wp2_with fail); refine tr hK (fun hHeld => ?_); clear hK K)
  refine tq 14 hHeld ?_
  refine tq 15 hHeld ?_
  refine tn 16 hHeld ?_
  refine tn 17 hHeld ?_
  refine tn 18 hHeld ?_
  refine tq 19 hHeld ?_
  refine tq 20 hHeld ?_
  refine tn 21 hHeld ?_
  refine tn 22 hHeld ?_
  refine tn 23 hHeld ?_
  refine tq 24 hHeld ?_
  refine tq 25 hHeld ?_
  refine tn 26 hHeld ?_
  refine tn 27 hHeld ?_
  refine tn 28 hHeld ?_
  refine tq 29 hHeld ?_
  refine tq 30 hHeld ?_
  refine tn 31 hHeld ?_
  refine tn 32 hHeld ?_
  refine tn 33 hHeld ?_
  refine tq 34 hHeld ?_
  refine tq 35 hHeld ?_
  refine tn 36 hHeld ?_
  refine tn 37 hHeld ?_
  refine tn 38 hHeld ?_
  refine tq 39 hHeld ?_
  refine tq 40 hHeld ?_
  refine tn 41 hHeld ?_
  refine tn 42 hHeld ?_
  refine tn 43 hHeld ?_
  refine tq 44 hHeld ?_
  refine tq 45 hHeld ?_
  refine tn 46 hHeld ?_
  refine tn 47 hHeld ?_
  refine tq 48 hHeld ?_
  refine tq 49 hHeld ?_
  refine wpAnyH_done (by kernel_rfl) ?_ _
  go_wp2_with fail
  go_ret
  exact ⟨rfl, by repeat (first | with_reducible apply Below.refl | (with_reducible apply Below.setCell; rotate_left; focus (first | omega | (simp; done) | (simp; omega))) | (with_reducible apply Below.alloc; rotate_left; focus (first | omega | (simp; done) | (simp; omega))) | with_reducible apply Below.drew | with_reducible apply belowDrewN | (with_reducible apply Below.trans; rotate_left; with_reducible apply Below.mono; with_reducible assumption; focus (first | omega | (simp; done) | (simp; omega))))⟩

set_option maxHeartbeats 8000000 in
theorem kOk_2 {cb n k : Nat} {V : Nat → Int} {G : Nat → Nat} {w : World} (h : HAt w cb n k V G) (k0 : decide (0 ≤ V 0 ∧ V 0 ≤ 999999999) = true) (k1 : shB (V 1) (V 2) (V 3) = true) (k2 : inB 2560000 (V 4) (V 5) = false) :
    Calls Try.prog 21 #[hdk cb k] w fun e w' => e = .returned (.bool false) ∧ Below w.heap.size w w' := by
  have hset := cset_map
  have l1 := h.cbl
  have hkn := h.kn
  have hnl := h.nl
  obtain ⟨c0, hc0, hv0, _, l0g, lc0⟩ := h.col 0 (by omega)
  generalize hG0 : G 0 = g0 at hc0 hv0 l0g lc0
  clear hG0
  go_enter Try.func21, Try.ntmps21
  go_upto_region 1 with fail
  refine wp_region_held_drew (S := fun w' => w'.cell? ⟨w.heap.size, 0, none⟩ = some (.int .i64 (k : Int)) ∧ w'.cell? ⟨w.heap.size, 1, none⟩ = some (.pointer (some ⟨cb, 0, none⟩)) ∧ w'.cell? ⟨cb, 0, none⟩ = some (.slice (some ⟨g0, 0, none⟩) n c0) ∧ w'.cell? ⟨g0, k, none⟩ = some (.int .i64 (V 0))) (by kernel_rfl) ?_ (fun hHeld => ?_)
  · (try dsimp only)
    (first | (go_simp; done) | (go_keep; done))
  refine tq 0 hHeld ?_
  refine tq 1 hHeld ?_
  refine tq 2 hHeld ?_
  refine tq 3 hHeld ?_
  refine tq 4 hHeld ?_
  refine tq 5 hHeld ?_
  refine tq 6 hHeld ?_
  refine tq 7 hHeld ?_
  refine tq 8 hHeld ?_
  (refine tc 9 fun K hK => ?_; go_simp; (go_at_call 34; refine (upTo_q _ _ _ _ (by with_reducible assumption)).mono ?_; rintro e w1 ⟨rfl, hb1⟩; obtain ⟨hc1, hf1⟩ := bcell hb1; have hz1 := hb1.size; (try simp only [World.size_drew, World.size_alloc, World.size_setCell] at hc1 hf1 hz1); have hk1x0 := fun o => hc1 (w.heap.size) o (by omega); have hj1x0 := fun o => hf1 (w.heap.size) o (by omega); have hq1x0 : w.heap.size < w1.heap.size := (by omega); have hk1x1 := fun o => hc1 (cb) o (by omega); have hj1x1 := fun o => hf1 (cb) o (by omega); have hq1x1 : cb < w1.heap.size := (by omega); have hk1x2 := fun o => hc1 (g0) o (by omega); have hj1x2 := fun o => hf1 (g0) o (by omega); have hq1x2 : g0 < w1.heap.size := (by omega); clear hc1 hf1); (try go_wp2_with fail); refine tr hK (fun hHeld => ?_); clear hK K)
  refine tq 10 hHeld ?_
  refine tq 11 hHeld ?_
  (refine tc 12 fun K hK => ?_; go_simp; (go_at_call 36; refine (kShape (HAt.below h (by repeat (first | with_reducible apply Below.refl | (with_reducible apply Below.setCell; rotate_left; focus (first | omega | (simp; done) | (simp; omega))) | (with_reducible apply Below.alloc; rotate_left; focus (first | omega | (simp; done) | (simp; omega))) | with_reducible apply Below.drew | with_reducible apply belowDrewN | (with_reducible apply Below.trans; rotate_left; with_reducible apply Below.mono; with_reducible assumption; focus (first | omega | (simp; done) | (simp; omega))))))).mono ?_; rintro e w2 ⟨rfl, hb2⟩; obtain ⟨hc2, hf2⟩ := bcell hb2; have hz2 := hb2.size; (try simp only [World.size_drew, World.size_alloc, World.size_setCell] at hc2 hf2 hz2); have hk2x0 := fun o => hc2 (w.heap.size) o (by omega); have hj2x0 := fun o => hf2 (w.heap.size) o (by omega); have hq2x0 : w.heap.size < w2.heap.size := (by omega); have hk2x1 := fun o => hc2 (cb) o (by omega); have hj2x1 := fun o => hf2 (cb) o (by omega); have hq2x1 : cb < w2.heap.size := (by omega); have hk2x2 := fun o => hc2 (g0) o (by omega); have hj2x2 := fun o => hf2 (g0) o (by omega); have hq2x2 : g0 < w2.heap.size := (by omega); clear hc2 hf2); (try go_wp2_with fail); refine tr hK (fun hHeld => ?_); clear hK K)
  (refine tc 13 fun K hK => ?_; go_simp; (go_at_call 35; refine (shapeOk_q _ _ _ _ _ (by with_reducible assumption)).mono ?_; rintro e w3 ⟨rfl, hb3⟩; obtain ⟨hc3, hf3⟩ := bcell hb3; have hz3 := hb3.size; (try simp only [World.size_drew, World.size_alloc, World.size_setCell] at hc3 hf3 hz3); have hk3x0 := fun o => hc3 (w.heap.size) o (by omega); have hj3x0 := fun o => hf3 (w.heap.size) o (by omega); have hq3x0 : w.heap.size < w3.heap.size := (by omega); have hk3x1 := fun o => hc3 (cb) o (by omega); have hj3x1 := fun o => hf3 (cb) o (by omega); have hq3x1 : cb < w3.heap.size := (by omega); have hk3x2 := fun o => hc3 (g0) o (by omega); have hj3x2 := fun o => hf3 (g0) o (by omega); have hq3x2 : g0 < w3.heap.size := (by omega); clear hc3 hf3); (try go_wp2_with fail); refine tr hK (fun hHeld => ?_); clear hK K)
  refine tq 14 hHeld ?_
  refine tq 15 hHeld ?_
  refine tq 16 hHeld ?_
  (refine tc 17 fun K hK => ?_; go_simp; (go_at_call 37; refine (kAt (HAt.below h (by repeat (first | with_reducible apply Below.refl | (with_reducible apply Below.setCell; rotate_left; focus (first | omega | (simp; done) | (simp; omega))) | (with_reducible apply Below.alloc; rotate_left; focus (first | omega | (simp; done) | (simp; omega))) | with_reducible apply Below.drew | with_reducible apply belowDrewN | (with_reducible apply Below.trans; rotate_left; with_reducible apply Below.mono; with_reducible assumption; focus (first | omega | (simp; done) | (simp; omega))))))).mono ?_; rintro e w4 ⟨rfl, hb4⟩; obtain ⟨hc4, hf4⟩ := bcell hb4; have hz4 := hb4.size; (try simp only [World.size_drew, World.size_alloc, World.size_setCell] at hc4 hf4 hz4); have hk4x0 := fun o => hc4 (w.heap.size) o (by omega); have hj4x0 := fun o => hf4 (w.heap.size) o (by omega); have hq4x0 : w.heap.size < w4.heap.size := (by omega); have hk4x1 := fun o => hc4 (cb) o (by omega); have hj4x1 := fun o => hf4 (cb) o (by omega); have hq4x1 : cb < w4.heap.size := (by omega); have hk4x2 := fun o => hc4 (g0) o (by omega); have hj4x2 := fun o => hf4 (g0) o (by omega); have hq4x2 : g0 < w4.heap.size := (by omega); clear hc4 hf4); (try go_wp2_with fail); refine tr hK (fun hHeld => ?_); clear hK K)
  (refine tc 18 fun K hK => ?_; go_simp; (go_at_call 38; refine (within2_q _ _ _ _ _ (by omega) (by omega) (by with_reducible assumption)).mono ?_; rintro e w5 ⟨rfl, hb5⟩; obtain ⟨hc5, hf5⟩ := bcell hb5; have hz5 := hb5.size; (try simp only [World.size_drew, World.size_alloc, World.size_setCell] at hc5 hf5 hz5); have hk5x0 := fun o => hc5 (w.heap.size) o (by omega); have hj5x0 := fun o => hf5 (w.heap.size) o (by omega); have hq5x0 : w.heap.size < w5.heap.size := (by omega); have hk5x1 := fun o => hc5 (cb) o (by omega); have hj5x1 := fun o => hf5 (cb) o (by omega); have hq5x1 : cb < w5.heap.size := (by omega); have hk5x2 := fun o => hc5 (g0) o (by omega); have hj5x2 := fun o => hf5 (g0) o (by omega); have hq5x2 : g0 < w5.heap.size := (by omega); clear hc5 hf5); (try go_wp2_with fail); refine tr hK (fun hHeld => ?_); clear hK K)
  refine tq 19 hHeld ?_
  refine tq 20 hHeld ?_
  refine tn 21 hHeld ?_
  refine tn 22 hHeld ?_
  refine tn 23 hHeld ?_
  refine tq 24 hHeld ?_
  refine tq 25 hHeld ?_
  refine tn 26 hHeld ?_
  refine tn 27 hHeld ?_
  refine tn 28 hHeld ?_
  refine tq 29 hHeld ?_
  refine tq 30 hHeld ?_
  refine tn 31 hHeld ?_
  refine tn 32 hHeld ?_
  refine tn 33 hHeld ?_
  refine tq 34 hHeld ?_
  refine tq 35 hHeld ?_
  refine tn 36 hHeld ?_
  refine tn 37 hHeld ?_
  refine tn 38 hHeld ?_
  refine tq 39 hHeld ?_
  refine tq 40 hHeld ?_
  refine tn 41 hHeld ?_
  refine tn 42 hHeld ?_
  refine tn 43 hHeld ?_
  refine tq 44 hHeld ?_
  refine tq 45 hHeld ?_
  refine tn 46 hHeld ?_
  refine tn 47 hHeld ?_
  refine tq 48 hHeld ?_
  refine tq 49 hHeld ?_
  refine wpAnyH_done (by kernel_rfl) ?_ _
  go_wp2_with fail
  go_ret
  exact ⟨rfl, by repeat (first | with_reducible apply Below.refl | (with_reducible apply Below.setCell; rotate_left; focus (first | omega | (simp; done) | (simp; omega))) | (with_reducible apply Below.alloc; rotate_left; focus (first | omega | (simp; done) | (simp; omega))) | with_reducible apply Below.drew | with_reducible apply belowDrewN | (with_reducible apply Below.trans; rotate_left; with_reducible apply Below.mono; with_reducible assumption; focus (first | omega | (simp; done) | (simp; omega))))⟩

set_option maxHeartbeats 8000000 in
theorem kOk_3 {cb n k : Nat} {V : Nat → Int} {G : Nat → Nat} {w : World} (h : HAt w cb n k V G) (k0 : decide (0 ≤ V 0 ∧ V 0 ≤ 999999999) = true) (k1 : shB (V 1) (V 2) (V 3) = true) (k2 : inB 2560000 (V 4) (V 5) = true) (k3 : inB 20000000 (V 6) (V 7) = false) :
    Calls Try.prog 21 #[hdk cb k] w fun e w' => e = .returned (.bool false) ∧ Below w.heap.size w w' := by
  have hset := cset_map
  have l1 := h.cbl
  have hkn := h.kn
  have hnl := h.nl
  obtain ⟨c0, hc0, hv0, _, l0g, lc0⟩ := h.col 0 (by omega)
  generalize hG0 : G 0 = g0 at hc0 hv0 l0g lc0
  clear hG0
  go_enter Try.func21, Try.ntmps21
  go_upto_region 1 with fail
  refine wp_region_held_drew (S := fun w' => w'.cell? ⟨w.heap.size, 0, none⟩ = some (.int .i64 (k : Int)) ∧ w'.cell? ⟨w.heap.size, 1, none⟩ = some (.pointer (some ⟨cb, 0, none⟩)) ∧ w'.cell? ⟨cb, 0, none⟩ = some (.slice (some ⟨g0, 0, none⟩) n c0) ∧ w'.cell? ⟨g0, k, none⟩ = some (.int .i64 (V 0))) (by kernel_rfl) ?_ (fun hHeld => ?_)
  · (try dsimp only)
    (first | (go_simp; done) | (go_keep; done))
  refine tq 0 hHeld ?_
  refine tq 1 hHeld ?_
  refine tq 2 hHeld ?_
  refine tq 3 hHeld ?_
  refine tq 4 hHeld ?_
  refine tq 5 hHeld ?_
  refine tq 6 hHeld ?_
  refine tq 7 hHeld ?_
  refine tq 8 hHeld ?_
  (refine tc 9 fun K hK => ?_; go_simp; (go_at_call 34; refine (upTo_q _ _ _ _ (by with_reducible assumption)).mono ?_; rintro e w1 ⟨rfl, hb1⟩; obtain ⟨hc1, hf1⟩ := bcell hb1; have hz1 := hb1.size; (try simp only [World.size_drew, World.size_alloc, World.size_setCell] at hc1 hf1 hz1); have hk1x0 := fun o => hc1 (w.heap.size) o (by omega); have hj1x0 := fun o => hf1 (w.heap.size) o (by omega); have hq1x0 : w.heap.size < w1.heap.size := (by omega); have hk1x1 := fun o => hc1 (cb) o (by omega); have hj1x1 := fun o => hf1 (cb) o (by omega); have hq1x1 : cb < w1.heap.size := (by omega); have hk1x2 := fun o => hc1 (g0) o (by omega); have hj1x2 := fun o => hf1 (g0) o (by omega); have hq1x2 : g0 < w1.heap.size := (by omega); clear hc1 hf1); (try go_wp2_with fail); refine tr hK (fun hHeld => ?_); clear hK K)
  refine tq 10 hHeld ?_
  refine tq 11 hHeld ?_
  (refine tc 12 fun K hK => ?_; go_simp; (go_at_call 36; refine (kShape (HAt.below h (by repeat (first | with_reducible apply Below.refl | (with_reducible apply Below.setCell; rotate_left; focus (first | omega | (simp; done) | (simp; omega))) | (with_reducible apply Below.alloc; rotate_left; focus (first | omega | (simp; done) | (simp; omega))) | with_reducible apply Below.drew | with_reducible apply belowDrewN | (with_reducible apply Below.trans; rotate_left; with_reducible apply Below.mono; with_reducible assumption; focus (first | omega | (simp; done) | (simp; omega))))))).mono ?_; rintro e w2 ⟨rfl, hb2⟩; obtain ⟨hc2, hf2⟩ := bcell hb2; have hz2 := hb2.size; (try simp only [World.size_drew, World.size_alloc, World.size_setCell] at hc2 hf2 hz2); have hk2x0 := fun o => hc2 (w.heap.size) o (by omega); have hj2x0 := fun o => hf2 (w.heap.size) o (by omega); have hq2x0 : w.heap.size < w2.heap.size := (by omega); have hk2x1 := fun o => hc2 (cb) o (by omega); have hj2x1 := fun o => hf2 (cb) o (by omega); have hq2x1 : cb < w2.heap.size := (by omega); have hk2x2 := fun o => hc2 (g0) o (by omega); have hj2x2 := fun o => hf2 (g0) o (by omega); have hq2x2 : g0 < w2.heap.size := (by omega); clear hc2 hf2); (try go_wp2_with fail); refine tr hK (fun hHeld => ?_); clear hK K)
  (refine tc 13 fun K hK => ?_; go_simp; (go_at_call 35; refine (shapeOk_q _ _ _ _ _ (by with_reducible assumption)).mono ?_; rintro e w3 ⟨rfl, hb3⟩; obtain ⟨hc3, hf3⟩ := bcell hb3; have hz3 := hb3.size; (try simp only [World.size_drew, World.size_alloc, World.size_setCell] at hc3 hf3 hz3); have hk3x0 := fun o => hc3 (w.heap.size) o (by omega); have hj3x0 := fun o => hf3 (w.heap.size) o (by omega); have hq3x0 : w.heap.size < w3.heap.size := (by omega); have hk3x1 := fun o => hc3 (cb) o (by omega); have hj3x1 := fun o => hf3 (cb) o (by omega); have hq3x1 : cb < w3.heap.size := (by omega); have hk3x2 := fun o => hc3 (g0) o (by omega); have hj3x2 := fun o => hf3 (g0) o (by omega); have hq3x2 : g0 < w3.heap.size := (by omega); clear hc3 hf3); (try go_wp2_with fail); refine tr hK (fun hHeld => ?_); clear hK K)
  refine tq 14 hHeld ?_
  refine tq 15 hHeld ?_
  refine tq 16 hHeld ?_
  (refine tc 17 fun K hK => ?_; go_simp; (go_at_call 37; refine (kAt (HAt.below h (by repeat (first | with_reducible apply Below.refl | (with_reducible apply Below.setCell; rotate_left; focus (first | omega | (simp; done) | (simp; omega))) | (with_reducible apply Below.alloc; rotate_left; focus (first | omega | (simp; done) | (simp; omega))) | with_reducible apply Below.drew | with_reducible apply belowDrewN | (with_reducible apply Below.trans; rotate_left; with_reducible apply Below.mono; with_reducible assumption; focus (first | omega | (simp; done) | (simp; omega))))))).mono ?_; rintro e w4 ⟨rfl, hb4⟩; obtain ⟨hc4, hf4⟩ := bcell hb4; have hz4 := hb4.size; (try simp only [World.size_drew, World.size_alloc, World.size_setCell] at hc4 hf4 hz4); have hk4x0 := fun o => hc4 (w.heap.size) o (by omega); have hj4x0 := fun o => hf4 (w.heap.size) o (by omega); have hq4x0 : w.heap.size < w4.heap.size := (by omega); have hk4x1 := fun o => hc4 (cb) o (by omega); have hj4x1 := fun o => hf4 (cb) o (by omega); have hq4x1 : cb < w4.heap.size := (by omega); have hk4x2 := fun o => hc4 (g0) o (by omega); have hj4x2 := fun o => hf4 (g0) o (by omega); have hq4x2 : g0 < w4.heap.size := (by omega); clear hc4 hf4); (try go_wp2_with fail); refine tr hK (fun hHeld => ?_); clear hK K)
  (refine tc 18 fun K hK => ?_; go_simp; (go_at_call 38; refine (within2_q _ _ _ _ _ (by omega) (by omega) (by with_reducible assumption)).mono ?_; rintro e w5 ⟨rfl, hb5⟩; obtain ⟨hc5, hf5⟩ := bcell hb5; have hz5 := hb5.size; (try simp only [World.size_drew, World.size_alloc, World.size_setCell] at hc5 hf5 hz5); have hk5x0 := fun o => hc5 (w.heap.size) o (by omega); have hj5x0 := fun o => hf5 (w.heap.size) o (by omega); have hq5x0 : w.heap.size < w5.heap.size := (by omega); have hk5x1 := fun o => hc5 (cb) o (by omega); have hj5x1 := fun o => hf5 (cb) o (by omega); have hq5x1 : cb < w5.heap.size := (by omega); have hk5x2 := fun o => hc5 (g0) o (by omega); have hj5x2 := fun o => hf5 (g0) o (by omega); have hq5x2 : g0 < w5.heap.size := (by omega); clear hc5 hf5); (try go_wp2_with fail); refine tr hK (fun hHeld => ?_); clear hK K)
  refine tq 19 hHeld ?_
  refine tq 20 hHeld ?_
  refine tq 21 hHeld ?_
  (refine tc 22 fun K hK => ?_; go_simp; (go_at_call 14; refine (kDrive (HAt.below h (by repeat (first | with_reducible apply Below.refl | (with_reducible apply Below.setCell; rotate_left; focus (first | omega | (simp; done) | (simp; omega))) | (with_reducible apply Below.alloc; rotate_left; focus (first | omega | (simp; done) | (simp; omega))) | with_reducible apply Below.drew | with_reducible apply belowDrewN | (with_reducible apply Below.trans; rotate_left; with_reducible apply Below.mono; with_reducible assumption; focus (first | omega | (simp; done) | (simp; omega))))))).mono ?_; rintro e w6 ⟨rfl, hb6⟩; obtain ⟨hc6, hf6⟩ := bcell hb6; have hz6 := hb6.size; (try simp only [World.size_drew, World.size_alloc, World.size_setCell] at hc6 hf6 hz6); have hk6x0 := fun o => hc6 (w.heap.size) o (by omega); have hj6x0 := fun o => hf6 (w.heap.size) o (by omega); have hq6x0 : w.heap.size < w6.heap.size := (by omega); have hk6x1 := fun o => hc6 (cb) o (by omega); have hj6x1 := fun o => hf6 (cb) o (by omega); have hq6x1 : cb < w6.heap.size := (by omega); have hk6x2 := fun o => hc6 (g0) o (by omega); have hj6x2 := fun o => hf6 (g0) o (by omega); have hq6x2 : g0 < w6.heap.size := (by omega); clear hc6 hf6); (try go_wp2_with fail); refine tr hK (fun hHeld => ?_); clear hK K)
  (refine tc 23 fun K hK => ?_; go_simp; (go_at_call 38; refine (within2_q _ _ _ _ _ (by omega) (by omega) (by with_reducible assumption)).mono ?_; rintro e w7 ⟨rfl, hb7⟩; obtain ⟨hc7, hf7⟩ := bcell hb7; have hz7 := hb7.size; (try simp only [World.size_drew, World.size_alloc, World.size_setCell] at hc7 hf7 hz7); have hk7x0 := fun o => hc7 (w.heap.size) o (by omega); have hj7x0 := fun o => hf7 (w.heap.size) o (by omega); have hq7x0 : w.heap.size < w7.heap.size := (by omega); have hk7x1 := fun o => hc7 (cb) o (by omega); have hj7x1 := fun o => hf7 (cb) o (by omega); have hq7x1 : cb < w7.heap.size := (by omega); have hk7x2 := fun o => hc7 (g0) o (by omega); have hj7x2 := fun o => hf7 (g0) o (by omega); have hq7x2 : g0 < w7.heap.size := (by omega); clear hc7 hf7); (try go_wp2_with fail); refine tr hK (fun hHeld => ?_); clear hK K)
  refine tq 24 hHeld ?_
  refine tq 25 hHeld ?_
  refine tn 26 hHeld ?_
  refine tn 27 hHeld ?_
  refine tn 28 hHeld ?_
  refine tq 29 hHeld ?_
  refine tq 30 hHeld ?_
  refine tn 31 hHeld ?_
  refine tn 32 hHeld ?_
  refine tn 33 hHeld ?_
  refine tq 34 hHeld ?_
  refine tq 35 hHeld ?_
  refine tn 36 hHeld ?_
  refine tn 37 hHeld ?_
  refine tn 38 hHeld ?_
  refine tq 39 hHeld ?_
  refine tq 40 hHeld ?_
  refine tn 41 hHeld ?_
  refine tn 42 hHeld ?_
  refine tn 43 hHeld ?_
  refine tq 44 hHeld ?_
  refine tq 45 hHeld ?_
  refine tn 46 hHeld ?_
  refine tn 47 hHeld ?_
  refine tq 48 hHeld ?_
  refine tq 49 hHeld ?_
  refine wpAnyH_done (by kernel_rfl) ?_ _
  go_wp2_with fail
  go_ret
  exact ⟨rfl, by repeat (first | with_reducible apply Below.refl | (with_reducible apply Below.setCell; rotate_left; focus (first | omega | (simp; done) | (simp; omega))) | (with_reducible apply Below.alloc; rotate_left; focus (first | omega | (simp; done) | (simp; omega))) | with_reducible apply Below.drew | with_reducible apply belowDrewN | (with_reducible apply Below.trans; rotate_left; with_reducible apply Below.mono; with_reducible assumption; focus (first | omega | (simp; done) | (simp; omega))))⟩

set_option maxHeartbeats 8000000 in
theorem kOk_4 {cb n k : Nat} {V : Nat → Int} {G : Nat → Nat} {w : World} (h : HAt w cb n k V G) (k0 : decide (0 ≤ V 0 ∧ V 0 ≤ 999999999) = true) (k1 : shB (V 1) (V 2) (V 3) = true) (k2 : inB 2560000 (V 4) (V 5) = true) (k3 : inB 20000000 (V 6) (V 7) = true) (k4 : decide (0 ≤ V 8 ∧ V 8 ≤ 1000) = false) :
    Calls Try.prog 21 #[hdk cb k] w fun e w' => e = .returned (.bool false) ∧ Below w.heap.size w w' := by
  have hset := cset_map
  have l1 := h.cbl
  have hkn := h.kn
  have hnl := h.nl
  obtain ⟨c0, hc0, hv0, _, l0g, lc0⟩ := h.col 0 (by omega)
  generalize hG0 : G 0 = g0 at hc0 hv0 l0g lc0
  clear hG0
  go_enter Try.func21, Try.ntmps21
  go_upto_region 1 with fail
  refine wp_region_held_drew (S := fun w' => w'.cell? ⟨w.heap.size, 0, none⟩ = some (.int .i64 (k : Int)) ∧ w'.cell? ⟨w.heap.size, 1, none⟩ = some (.pointer (some ⟨cb, 0, none⟩)) ∧ w'.cell? ⟨cb, 0, none⟩ = some (.slice (some ⟨g0, 0, none⟩) n c0) ∧ w'.cell? ⟨g0, k, none⟩ = some (.int .i64 (V 0))) (by kernel_rfl) ?_ (fun hHeld => ?_)
  · (try dsimp only)
    (first | (go_simp; done) | (go_keep; done))
  refine tq 0 hHeld ?_
  refine tq 1 hHeld ?_
  refine tq 2 hHeld ?_
  refine tq 3 hHeld ?_
  refine tq 4 hHeld ?_
  refine tq 5 hHeld ?_
  refine tq 6 hHeld ?_
  refine tq 7 hHeld ?_
  refine tq 8 hHeld ?_
  (refine tc 9 fun K hK => ?_; go_simp; (go_at_call 34; refine (upTo_q _ _ _ _ (by with_reducible assumption)).mono ?_; rintro e w1 ⟨rfl, hb1⟩; obtain ⟨hc1, hf1⟩ := bcell hb1; have hz1 := hb1.size; (try simp only [World.size_drew, World.size_alloc, World.size_setCell] at hc1 hf1 hz1); have hk1x0 := fun o => hc1 (w.heap.size) o (by omega); have hj1x0 := fun o => hf1 (w.heap.size) o (by omega); have hq1x0 : w.heap.size < w1.heap.size := (by omega); have hk1x1 := fun o => hc1 (cb) o (by omega); have hj1x1 := fun o => hf1 (cb) o (by omega); have hq1x1 : cb < w1.heap.size := (by omega); have hk1x2 := fun o => hc1 (g0) o (by omega); have hj1x2 := fun o => hf1 (g0) o (by omega); have hq1x2 : g0 < w1.heap.size := (by omega); clear hc1 hf1); (try go_wp2_with fail); refine tr hK (fun hHeld => ?_); clear hK K)
  refine tq 10 hHeld ?_
  refine tq 11 hHeld ?_
  (refine tc 12 fun K hK => ?_; go_simp; (go_at_call 36; refine (kShape (HAt.below h (by repeat (first | with_reducible apply Below.refl | (with_reducible apply Below.setCell; rotate_left; focus (first | omega | (simp; done) | (simp; omega))) | (with_reducible apply Below.alloc; rotate_left; focus (first | omega | (simp; done) | (simp; omega))) | with_reducible apply Below.drew | with_reducible apply belowDrewN | (with_reducible apply Below.trans; rotate_left; with_reducible apply Below.mono; with_reducible assumption; focus (first | omega | (simp; done) | (simp; omega))))))).mono ?_; rintro e w2 ⟨rfl, hb2⟩; obtain ⟨hc2, hf2⟩ := bcell hb2; have hz2 := hb2.size; (try simp only [World.size_drew, World.size_alloc, World.size_setCell] at hc2 hf2 hz2); have hk2x0 := fun o => hc2 (w.heap.size) o (by omega); have hj2x0 := fun o => hf2 (w.heap.size) o (by omega); have hq2x0 : w.heap.size < w2.heap.size := (by omega); have hk2x1 := fun o => hc2 (cb) o (by omega); have hj2x1 := fun o => hf2 (cb) o (by omega); have hq2x1 : cb < w2.heap.size := (by omega); have hk2x2 := fun o => hc2 (g0) o (by omega); have hj2x2 := fun o => hf2 (g0) o (by omega); have hq2x2 : g0 < w2.heap.size := (by omega); clear hc2 hf2); (try go_wp2_with fail); refine tr hK (fun hHeld => ?_); clear hK K)
  (refine tc 13 fun K hK => ?_; go_simp; (go_at_call 35; refine (shapeOk_q _ _ _ _ _ (by with_reducible assumption)).mono ?_; rintro e w3 ⟨rfl, hb3⟩; obtain ⟨hc3, hf3⟩ := bcell hb3; have hz3 := hb3.size; (try simp only [World.size_drew, World.size_alloc, World.size_setCell] at hc3 hf3 hz3); have hk3x0 := fun o => hc3 (w.heap.size) o (by omega); have hj3x0 := fun o => hf3 (w.heap.size) o (by omega); have hq3x0 : w.heap.size < w3.heap.size := (by omega); have hk3x1 := fun o => hc3 (cb) o (by omega); have hj3x1 := fun o => hf3 (cb) o (by omega); have hq3x1 : cb < w3.heap.size := (by omega); have hk3x2 := fun o => hc3 (g0) o (by omega); have hj3x2 := fun o => hf3 (g0) o (by omega); have hq3x2 : g0 < w3.heap.size := (by omega); clear hc3 hf3); (try go_wp2_with fail); refine tr hK (fun hHeld => ?_); clear hK K)
  refine tq 14 hHeld ?_
  refine tq 15 hHeld ?_
  refine tq 16 hHeld ?_
  (refine tc 17 fun K hK => ?_; go_simp; (go_at_call 37; refine (kAt (HAt.below h (by repeat (first | with_reducible apply Below.refl | (with_reducible apply Below.setCell; rotate_left; focus (first | omega | (simp; done) | (simp; omega))) | (with_reducible apply Below.alloc; rotate_left; focus (first | omega | (simp; done) | (simp; omega))) | with_reducible apply Below.drew | with_reducible apply belowDrewN | (with_reducible apply Below.trans; rotate_left; with_reducible apply Below.mono; with_reducible assumption; focus (first | omega | (simp; done) | (simp; omega))))))).mono ?_; rintro e w4 ⟨rfl, hb4⟩; obtain ⟨hc4, hf4⟩ := bcell hb4; have hz4 := hb4.size; (try simp only [World.size_drew, World.size_alloc, World.size_setCell] at hc4 hf4 hz4); have hk4x0 := fun o => hc4 (w.heap.size) o (by omega); have hj4x0 := fun o => hf4 (w.heap.size) o (by omega); have hq4x0 : w.heap.size < w4.heap.size := (by omega); have hk4x1 := fun o => hc4 (cb) o (by omega); have hj4x1 := fun o => hf4 (cb) o (by omega); have hq4x1 : cb < w4.heap.size := (by omega); have hk4x2 := fun o => hc4 (g0) o (by omega); have hj4x2 := fun o => hf4 (g0) o (by omega); have hq4x2 : g0 < w4.heap.size := (by omega); clear hc4 hf4); (try go_wp2_with fail); refine tr hK (fun hHeld => ?_); clear hK K)
  (refine tc 18 fun K hK => ?_; go_simp; (go_at_call 38; refine (within2_q _ _ _ _ _ (by omega) (by omega) (by with_reducible assumption)).mono ?_; rintro e w5 ⟨rfl, hb5⟩; obtain ⟨hc5, hf5⟩ := bcell hb5; have hz5 := hb5.size; (try simp only [World.size_drew, World.size_alloc, World.size_setCell] at hc5 hf5 hz5); have hk5x0 := fun o => hc5 (w.heap.size) o (by omega); have hj5x0 := fun o => hf5 (w.heap.size) o (by omega); have hq5x0 : w.heap.size < w5.heap.size := (by omega); have hk5x1 := fun o => hc5 (cb) o (by omega); have hj5x1 := fun o => hf5 (cb) o (by omega); have hq5x1 : cb < w5.heap.size := (by omega); have hk5x2 := fun o => hc5 (g0) o (by omega); have hj5x2 := fun o => hf5 (g0) o (by omega); have hq5x2 : g0 < w5.heap.size := (by omega); clear hc5 hf5); (try go_wp2_with fail); refine tr hK (fun hHeld => ?_); clear hK K)
  refine tq 19 hHeld ?_
  refine tq 20 hHeld ?_
  refine tq 21 hHeld ?_
  (refine tc 22 fun K hK => ?_; go_simp; (go_at_call 14; refine (kDrive (HAt.below h (by repeat (first | with_reducible apply Below.refl | (with_reducible apply Below.setCell; rotate_left; focus (first | omega | (simp; done) | (simp; omega))) | (with_reducible apply Below.alloc; rotate_left; focus (first | omega | (simp; done) | (simp; omega))) | with_reducible apply Below.drew | with_reducible apply belowDrewN | (with_reducible apply Below.trans; rotate_left; with_reducible apply Below.mono; with_reducible assumption; focus (first | omega | (simp; done) | (simp; omega))))))).mono ?_; rintro e w6 ⟨rfl, hb6⟩; obtain ⟨hc6, hf6⟩ := bcell hb6; have hz6 := hb6.size; (try simp only [World.size_drew, World.size_alloc, World.size_setCell] at hc6 hf6 hz6); have hk6x0 := fun o => hc6 (w.heap.size) o (by omega); have hj6x0 := fun o => hf6 (w.heap.size) o (by omega); have hq6x0 : w.heap.size < w6.heap.size := (by omega); have hk6x1 := fun o => hc6 (cb) o (by omega); have hj6x1 := fun o => hf6 (cb) o (by omega); have hq6x1 : cb < w6.heap.size := (by omega); have hk6x2 := fun o => hc6 (g0) o (by omega); have hj6x2 := fun o => hf6 (g0) o (by omega); have hq6x2 : g0 < w6.heap.size := (by omega); clear hc6 hf6); (try go_wp2_with fail); refine tr hK (fun hHeld => ?_); clear hK K)
  (refine tc 23 fun K hK => ?_; go_simp; (go_at_call 38; refine (within2_q _ _ _ _ _ (by omega) (by omega) (by with_reducible assumption)).mono ?_; rintro e w7 ⟨rfl, hb7⟩; obtain ⟨hc7, hf7⟩ := bcell hb7; have hz7 := hb7.size; (try simp only [World.size_drew, World.size_alloc, World.size_setCell] at hc7 hf7 hz7); have hk7x0 := fun o => hc7 (w.heap.size) o (by omega); have hj7x0 := fun o => hf7 (w.heap.size) o (by omega); have hq7x0 : w.heap.size < w7.heap.size := (by omega); have hk7x1 := fun o => hc7 (cb) o (by omega); have hj7x1 := fun o => hf7 (cb) o (by omega); have hq7x1 : cb < w7.heap.size := (by omega); have hk7x2 := fun o => hc7 (g0) o (by omega); have hj7x2 := fun o => hf7 (g0) o (by omega); have hq7x2 : g0 < w7.heap.size := (by omega); clear hc7 hf7); (try go_wp2_with fail); refine tr hK (fun hHeld => ?_); clear hK K)
  refine tq 24 hHeld ?_
  refine tq 25 hHeld ?_
  refine tq 26 hHeld ?_
  (refine tc 27 fun K hK => ?_; go_simp; (go_at_call 39; refine (kMass (HAt.below h (by repeat (first | with_reducible apply Below.refl | (with_reducible apply Below.setCell; rotate_left; focus (first | omega | (simp; done) | (simp; omega))) | (with_reducible apply Below.alloc; rotate_left; focus (first | omega | (simp; done) | (simp; omega))) | with_reducible apply Below.drew | with_reducible apply belowDrewN | (with_reducible apply Below.trans; rotate_left; with_reducible apply Below.mono; with_reducible assumption; focus (first | omega | (simp; done) | (simp; omega))))))).mono ?_; rintro e w8 ⟨rfl, hb8⟩; obtain ⟨hc8, hf8⟩ := bcell hb8; have hz8 := hb8.size; (try simp only [World.size_drew, World.size_alloc, World.size_setCell] at hc8 hf8 hz8); have hk8x0 := fun o => hc8 (w.heap.size) o (by omega); have hj8x0 := fun o => hf8 (w.heap.size) o (by omega); have hq8x0 : w.heap.size < w8.heap.size := (by omega); have hk8x1 := fun o => hc8 (cb) o (by omega); have hj8x1 := fun o => hf8 (cb) o (by omega); have hq8x1 : cb < w8.heap.size := (by omega); have hk8x2 := fun o => hc8 (g0) o (by omega); have hj8x2 := fun o => hf8 (g0) o (by omega); have hq8x2 : g0 < w8.heap.size := (by omega); clear hc8 hf8); (try go_wp2_with fail); refine tr hK (fun hHeld => ?_); clear hK K)
  (refine tc 28 fun K hK => ?_; go_simp; (go_at_call 34; refine (upTo_q _ _ _ _ (by with_reducible assumption)).mono ?_; rintro e w9 ⟨rfl, hb9⟩; obtain ⟨hc9, hf9⟩ := bcell hb9; have hz9 := hb9.size; (try simp only [World.size_drew, World.size_alloc, World.size_setCell] at hc9 hf9 hz9); have hk9x0 := fun o => hc9 (w.heap.size) o (by omega); have hj9x0 := fun o => hf9 (w.heap.size) o (by omega); have hq9x0 : w.heap.size < w9.heap.size := (by omega); have hk9x1 := fun o => hc9 (cb) o (by omega); have hj9x1 := fun o => hf9 (cb) o (by omega); have hq9x1 : cb < w9.heap.size := (by omega); have hk9x2 := fun o => hc9 (g0) o (by omega); have hj9x2 := fun o => hf9 (g0) o (by omega); have hq9x2 : g0 < w9.heap.size := (by omega); clear hc9 hf9); (try go_wp2_with fail); refine tr hK (fun hHeld => ?_); clear hK K)
  refine tq 29 hHeld ?_
  refine tq 30 hHeld ?_
  refine tn 31 hHeld ?_
  refine tn 32 hHeld ?_
  refine tn 33 hHeld ?_
  refine tq 34 hHeld ?_
  refine tq 35 hHeld ?_
  refine tn 36 hHeld ?_
  refine tn 37 hHeld ?_
  refine tn 38 hHeld ?_
  refine tq 39 hHeld ?_
  refine tq 40 hHeld ?_
  refine tn 41 hHeld ?_
  refine tn 42 hHeld ?_
  refine tn 43 hHeld ?_
  refine tq 44 hHeld ?_
  refine tq 45 hHeld ?_
  refine tn 46 hHeld ?_
  refine tn 47 hHeld ?_
  refine tq 48 hHeld ?_
  refine tq 49 hHeld ?_
  refine wpAnyH_done (by kernel_rfl) ?_ _
  go_wp2_with fail
  go_ret
  exact ⟨rfl, by repeat (first | with_reducible apply Below.refl | (with_reducible apply Below.setCell; rotate_left; focus (first | omega | (simp; done) | (simp; omega))) | (with_reducible apply Below.alloc; rotate_left; focus (first | omega | (simp; done) | (simp; omega))) | with_reducible apply Below.drew | with_reducible apply belowDrewN | (with_reducible apply Below.trans; rotate_left; with_reducible apply Below.mono; with_reducible assumption; focus (first | omega | (simp; done) | (simp; omega))))⟩

set_option maxHeartbeats 8000000 in
theorem kOk_5 {cb n k : Nat} {V : Nat → Int} {G : Nat → Nat} {w : World} (h : HAt w cb n k V G) (k0 : decide (0 ≤ V 0 ∧ V 0 ≤ 999999999) = true) (k1 : shB (V 1) (V 2) (V 3) = true) (k2 : inB 2560000 (V 4) (V 5) = true) (k3 : inB 20000000 (V 6) (V 7) = true) (k4 : decide (0 ≤ V 8 ∧ V 8 ≤ 1000) = true) (k5 : decide (0 ≤ V 9 ∧ V 9 ≤ 256) = false) :
    Calls Try.prog 21 #[hdk cb k] w fun e w' => e = .returned (.bool false) ∧ Below w.heap.size w w' := by
  have hset := cset_map
  have l1 := h.cbl
  have hkn := h.kn
  have hnl := h.nl
  obtain ⟨c0, hc0, hv0, _, l0g, lc0⟩ := h.col 0 (by omega)
  generalize hG0 : G 0 = g0 at hc0 hv0 l0g lc0
  clear hG0
  go_enter Try.func21, Try.ntmps21
  go_upto_region 1 with fail
  refine wp_region_held_drew (S := fun w' => w'.cell? ⟨w.heap.size, 0, none⟩ = some (.int .i64 (k : Int)) ∧ w'.cell? ⟨w.heap.size, 1, none⟩ = some (.pointer (some ⟨cb, 0, none⟩)) ∧ w'.cell? ⟨cb, 0, none⟩ = some (.slice (some ⟨g0, 0, none⟩) n c0) ∧ w'.cell? ⟨g0, k, none⟩ = some (.int .i64 (V 0))) (by kernel_rfl) ?_ (fun hHeld => ?_)
  · (try dsimp only)
    (first | (go_simp; done) | (go_keep; done))
  refine tq 0 hHeld ?_
  refine tq 1 hHeld ?_
  refine tq 2 hHeld ?_
  refine tq 3 hHeld ?_
  refine tq 4 hHeld ?_
  refine tq 5 hHeld ?_
  refine tq 6 hHeld ?_
  refine tq 7 hHeld ?_
  refine tq 8 hHeld ?_
  (refine tc 9 fun K hK => ?_; go_simp; (go_at_call 34; refine (upTo_q _ _ _ _ (by with_reducible assumption)).mono ?_; rintro e w1 ⟨rfl, hb1⟩; obtain ⟨hc1, hf1⟩ := bcell hb1; have hz1 := hb1.size; (try simp only [World.size_drew, World.size_alloc, World.size_setCell] at hc1 hf1 hz1); have hk1x0 := fun o => hc1 (w.heap.size) o (by omega); have hj1x0 := fun o => hf1 (w.heap.size) o (by omega); have hq1x0 : w.heap.size < w1.heap.size := (by omega); have hk1x1 := fun o => hc1 (cb) o (by omega); have hj1x1 := fun o => hf1 (cb) o (by omega); have hq1x1 : cb < w1.heap.size := (by omega); have hk1x2 := fun o => hc1 (g0) o (by omega); have hj1x2 := fun o => hf1 (g0) o (by omega); have hq1x2 : g0 < w1.heap.size := (by omega); clear hc1 hf1); (try go_wp2_with fail); refine tr hK (fun hHeld => ?_); clear hK K)
  refine tq 10 hHeld ?_
  refine tq 11 hHeld ?_
  (refine tc 12 fun K hK => ?_; go_simp; (go_at_call 36; refine (kShape (HAt.below h (by repeat (first | with_reducible apply Below.refl | (with_reducible apply Below.setCell; rotate_left; focus (first | omega | (simp; done) | (simp; omega))) | (with_reducible apply Below.alloc; rotate_left; focus (first | omega | (simp; done) | (simp; omega))) | with_reducible apply Below.drew | with_reducible apply belowDrewN | (with_reducible apply Below.trans; rotate_left; with_reducible apply Below.mono; with_reducible assumption; focus (first | omega | (simp; done) | (simp; omega))))))).mono ?_; rintro e w2 ⟨rfl, hb2⟩; obtain ⟨hc2, hf2⟩ := bcell hb2; have hz2 := hb2.size; (try simp only [World.size_drew, World.size_alloc, World.size_setCell] at hc2 hf2 hz2); have hk2x0 := fun o => hc2 (w.heap.size) o (by omega); have hj2x0 := fun o => hf2 (w.heap.size) o (by omega); have hq2x0 : w.heap.size < w2.heap.size := (by omega); have hk2x1 := fun o => hc2 (cb) o (by omega); have hj2x1 := fun o => hf2 (cb) o (by omega); have hq2x1 : cb < w2.heap.size := (by omega); have hk2x2 := fun o => hc2 (g0) o (by omega); have hj2x2 := fun o => hf2 (g0) o (by omega); have hq2x2 : g0 < w2.heap.size := (by omega); clear hc2 hf2); (try go_wp2_with fail); refine tr hK (fun hHeld => ?_); clear hK K)
  (refine tc 13 fun K hK => ?_; go_simp; (go_at_call 35; refine (shapeOk_q _ _ _ _ _ (by with_reducible assumption)).mono ?_; rintro e w3 ⟨rfl, hb3⟩; obtain ⟨hc3, hf3⟩ := bcell hb3; have hz3 := hb3.size; (try simp only [World.size_drew, World.size_alloc, World.size_setCell] at hc3 hf3 hz3); have hk3x0 := fun o => hc3 (w.heap.size) o (by omega); have hj3x0 := fun o => hf3 (w.heap.size) o (by omega); have hq3x0 : w.heap.size < w3.heap.size := (by omega); have hk3x1 := fun o => hc3 (cb) o (by omega); have hj3x1 := fun o => hf3 (cb) o (by omega); have hq3x1 : cb < w3.heap.size := (by omega); have hk3x2 := fun o => hc3 (g0) o (by omega); have hj3x2 := fun o => hf3 (g0) o (by omega); have hq3x2 : g0 < w3.heap.size := (by omega); clear hc3 hf3); (try go_wp2_with fail); refine tr hK (fun hHeld => ?_); clear hK K)
  refine tq 14 hHeld ?_
  refine tq 15 hHeld ?_
  refine tq 16 hHeld ?_
  (refine tc 17 fun K hK => ?_; go_simp; (go_at_call 37; refine (kAt (HAt.below h (by repeat (first | with_reducible apply Below.refl | (with_reducible apply Below.setCell; rotate_left; focus (first | omega | (simp; done) | (simp; omega))) | (with_reducible apply Below.alloc; rotate_left; focus (first | omega | (simp; done) | (simp; omega))) | with_reducible apply Below.drew | with_reducible apply belowDrewN | (with_reducible apply Below.trans; rotate_left; with_reducible apply Below.mono; with_reducible assumption; focus (first | omega | (simp; done) | (simp; omega))))))).mono ?_; rintro e w4 ⟨rfl, hb4⟩; obtain ⟨hc4, hf4⟩ := bcell hb4; have hz4 := hb4.size; (try simp only [World.size_drew, World.size_alloc, World.size_setCell] at hc4 hf4 hz4); have hk4x0 := fun o => hc4 (w.heap.size) o (by omega); have hj4x0 := fun o => hf4 (w.heap.size) o (by omega); have hq4x0 : w.heap.size < w4.heap.size := (by omega); have hk4x1 := fun o => hc4 (cb) o (by omega); have hj4x1 := fun o => hf4 (cb) o (by omega); have hq4x1 : cb < w4.heap.size := (by omega); have hk4x2 := fun o => hc4 (g0) o (by omega); have hj4x2 := fun o => hf4 (g0) o (by omega); have hq4x2 : g0 < w4.heap.size := (by omega); clear hc4 hf4); (try go_wp2_with fail); refine tr hK (fun hHeld => ?_); clear hK K)
  (refine tc 18 fun K hK => ?_; go_simp; (go_at_call 38; refine (within2_q _ _ _ _ _ (by omega) (by omega) (by with_reducible assumption)).mono ?_; rintro e w5 ⟨rfl, hb5⟩; obtain ⟨hc5, hf5⟩ := bcell hb5; have hz5 := hb5.size; (try simp only [World.size_drew, World.size_alloc, World.size_setCell] at hc5 hf5 hz5); have hk5x0 := fun o => hc5 (w.heap.size) o (by omega); have hj5x0 := fun o => hf5 (w.heap.size) o (by omega); have hq5x0 : w.heap.size < w5.heap.size := (by omega); have hk5x1 := fun o => hc5 (cb) o (by omega); have hj5x1 := fun o => hf5 (cb) o (by omega); have hq5x1 : cb < w5.heap.size := (by omega); have hk5x2 := fun o => hc5 (g0) o (by omega); have hj5x2 := fun o => hf5 (g0) o (by omega); have hq5x2 : g0 < w5.heap.size := (by omega); clear hc5 hf5); (try go_wp2_with fail); refine tr hK (fun hHeld => ?_); clear hK K)
  refine tq 19 hHeld ?_
  refine tq 20 hHeld ?_
  refine tq 21 hHeld ?_
  (refine tc 22 fun K hK => ?_; go_simp; (go_at_call 14; refine (kDrive (HAt.below h (by repeat (first | with_reducible apply Below.refl | (with_reducible apply Below.setCell; rotate_left; focus (first | omega | (simp; done) | (simp; omega))) | (with_reducible apply Below.alloc; rotate_left; focus (first | omega | (simp; done) | (simp; omega))) | with_reducible apply Below.drew | with_reducible apply belowDrewN | (with_reducible apply Below.trans; rotate_left; with_reducible apply Below.mono; with_reducible assumption; focus (first | omega | (simp; done) | (simp; omega))))))).mono ?_; rintro e w6 ⟨rfl, hb6⟩; obtain ⟨hc6, hf6⟩ := bcell hb6; have hz6 := hb6.size; (try simp only [World.size_drew, World.size_alloc, World.size_setCell] at hc6 hf6 hz6); have hk6x0 := fun o => hc6 (w.heap.size) o (by omega); have hj6x0 := fun o => hf6 (w.heap.size) o (by omega); have hq6x0 : w.heap.size < w6.heap.size := (by omega); have hk6x1 := fun o => hc6 (cb) o (by omega); have hj6x1 := fun o => hf6 (cb) o (by omega); have hq6x1 : cb < w6.heap.size := (by omega); have hk6x2 := fun o => hc6 (g0) o (by omega); have hj6x2 := fun o => hf6 (g0) o (by omega); have hq6x2 : g0 < w6.heap.size := (by omega); clear hc6 hf6); (try go_wp2_with fail); refine tr hK (fun hHeld => ?_); clear hK K)
  (refine tc 23 fun K hK => ?_; go_simp; (go_at_call 38; refine (within2_q _ _ _ _ _ (by omega) (by omega) (by with_reducible assumption)).mono ?_; rintro e w7 ⟨rfl, hb7⟩; obtain ⟨hc7, hf7⟩ := bcell hb7; have hz7 := hb7.size; (try simp only [World.size_drew, World.size_alloc, World.size_setCell] at hc7 hf7 hz7); have hk7x0 := fun o => hc7 (w.heap.size) o (by omega); have hj7x0 := fun o => hf7 (w.heap.size) o (by omega); have hq7x0 : w.heap.size < w7.heap.size := (by omega); have hk7x1 := fun o => hc7 (cb) o (by omega); have hj7x1 := fun o => hf7 (cb) o (by omega); have hq7x1 : cb < w7.heap.size := (by omega); have hk7x2 := fun o => hc7 (g0) o (by omega); have hj7x2 := fun o => hf7 (g0) o (by omega); have hq7x2 : g0 < w7.heap.size := (by omega); clear hc7 hf7); (try go_wp2_with fail); refine tr hK (fun hHeld => ?_); clear hK K)
  refine tq 24 hHeld ?_
  refine tq 25 hHeld ?_
  refine tq 26 hHeld ?_
  (refine tc 27 fun K hK => ?_; go_simp; (go_at_call 39; refine (kMass (HAt.below h (by repeat (first | with_reducible apply Below.refl | (with_reducible apply Below.setCell; rotate_left; focus (first | omega | (simp; done) | (simp; omega))) | (with_reducible apply Below.alloc; rotate_left; focus (first | omega | (simp; done) | (simp; omega))) | with_reducible apply Below.drew | with_reducible apply belowDrewN | (with_reducible apply Below.trans; rotate_left; with_reducible apply Below.mono; with_reducible assumption; focus (first | omega | (simp; done) | (simp; omega))))))).mono ?_; rintro e w8 ⟨rfl, hb8⟩; obtain ⟨hc8, hf8⟩ := bcell hb8; have hz8 := hb8.size; (try simp only [World.size_drew, World.size_alloc, World.size_setCell] at hc8 hf8 hz8); have hk8x0 := fun o => hc8 (w.heap.size) o (by omega); have hj8x0 := fun o => hf8 (w.heap.size) o (by omega); have hq8x0 : w.heap.size < w8.heap.size := (by omega); have hk8x1 := fun o => hc8 (cb) o (by omega); have hj8x1 := fun o => hf8 (cb) o (by omega); have hq8x1 : cb < w8.heap.size := (by omega); have hk8x2 := fun o => hc8 (g0) o (by omega); have hj8x2 := fun o => hf8 (g0) o (by omega); have hq8x2 : g0 < w8.heap.size := (by omega); clear hc8 hf8); (try go_wp2_with fail); refine tr hK (fun hHeld => ?_); clear hK K)
  (refine tc 28 fun K hK => ?_; go_simp; (go_at_call 34; refine (upTo_q _ _ _ _ (by with_reducible assumption)).mono ?_; rintro e w9 ⟨rfl, hb9⟩; obtain ⟨hc9, hf9⟩ := bcell hb9; have hz9 := hb9.size; (try simp only [World.size_drew, World.size_alloc, World.size_setCell] at hc9 hf9 hz9); have hk9x0 := fun o => hc9 (w.heap.size) o (by omega); have hj9x0 := fun o => hf9 (w.heap.size) o (by omega); have hq9x0 : w.heap.size < w9.heap.size := (by omega); have hk9x1 := fun o => hc9 (cb) o (by omega); have hj9x1 := fun o => hf9 (cb) o (by omega); have hq9x1 : cb < w9.heap.size := (by omega); have hk9x2 := fun o => hc9 (g0) o (by omega); have hj9x2 := fun o => hf9 (g0) o (by omega); have hq9x2 : g0 < w9.heap.size := (by omega); clear hc9 hf9); (try go_wp2_with fail); refine tr hK (fun hHeld => ?_); clear hK K)
  refine tq 29 hHeld ?_
  refine tq 30 hHeld ?_
  refine tq 31 hHeld ?_
  (refine tc 32 fun K hK => ?_; go_simp; (go_at_call 40; refine (kBounce (HAt.below h (by repeat (first | with_reducible apply Below.refl | (with_reducible apply Below.setCell; rotate_left; focus (first | omega | (simp; done) | (simp; omega))) | (with_reducible apply Below.alloc; rotate_left; focus (first | omega | (simp; done) | (simp; omega))) | with_reducible apply Below.drew | with_reducible apply belowDrewN | (with_reducible apply Below.trans; rotate_left; with_reducible apply Below.mono; with_reducible assumption; focus (first | omega | (simp; done) | (simp; omega))))))).mono ?_; rintro e w10 ⟨rfl, hb10⟩; obtain ⟨hc10, hf10⟩ := bcell hb10; have hz10 := hb10.size; (try simp only [World.size_drew, World.size_alloc, World.size_setCell] at hc10 hf10 hz10); have hk10x0 := fun o => hc10 (w.heap.size) o (by omega); have hj10x0 := fun o => hf10 (w.heap.size) o (by omega); have hq10x0 : w.heap.size < w10.heap.size := (by omega); have hk10x1 := fun o => hc10 (cb) o (by omega); have hj10x1 := fun o => hf10 (cb) o (by omega); have hq10x1 : cb < w10.heap.size := (by omega); have hk10x2 := fun o => hc10 (g0) o (by omega); have hj10x2 := fun o => hf10 (g0) o (by omega); have hq10x2 : g0 < w10.heap.size := (by omega); clear hc10 hf10); (try go_wp2_with fail); refine tr hK (fun hHeld => ?_); clear hK K)
  (refine tc 33 fun K hK => ?_; go_simp; (go_at_call 34; refine (upTo_q _ _ _ _ (by with_reducible assumption)).mono ?_; rintro e w11 ⟨rfl, hb11⟩; obtain ⟨hc11, hf11⟩ := bcell hb11; have hz11 := hb11.size; (try simp only [World.size_drew, World.size_alloc, World.size_setCell] at hc11 hf11 hz11); have hk11x0 := fun o => hc11 (w.heap.size) o (by omega); have hj11x0 := fun o => hf11 (w.heap.size) o (by omega); have hq11x0 : w.heap.size < w11.heap.size := (by omega); have hk11x1 := fun o => hc11 (cb) o (by omega); have hj11x1 := fun o => hf11 (cb) o (by omega); have hq11x1 : cb < w11.heap.size := (by omega); have hk11x2 := fun o => hc11 (g0) o (by omega); have hj11x2 := fun o => hf11 (g0) o (by omega); have hq11x2 : g0 < w11.heap.size := (by omega); clear hc11 hf11); (try go_wp2_with fail); refine tr hK (fun hHeld => ?_); clear hK K)
  refine tq 34 hHeld ?_
  refine tq 35 hHeld ?_
  refine tn 36 hHeld ?_
  refine tn 37 hHeld ?_
  refine tn 38 hHeld ?_
  refine tq 39 hHeld ?_
  refine tq 40 hHeld ?_
  refine tn 41 hHeld ?_
  refine tn 42 hHeld ?_
  refine tn 43 hHeld ?_
  refine tq 44 hHeld ?_
  refine tq 45 hHeld ?_
  refine tn 46 hHeld ?_
  refine tn 47 hHeld ?_
  refine tq 48 hHeld ?_
  refine tq 49 hHeld ?_
  refine wpAnyH_done (by kernel_rfl) ?_ _
  go_wp2_with fail
  go_ret
  exact ⟨rfl, by repeat (first | with_reducible apply Below.refl | (with_reducible apply Below.setCell; rotate_left; focus (first | omega | (simp; done) | (simp; omega))) | (with_reducible apply Below.alloc; rotate_left; focus (first | omega | (simp; done) | (simp; omega))) | with_reducible apply Below.drew | with_reducible apply belowDrewN | (with_reducible apply Below.trans; rotate_left; with_reducible apply Below.mono; with_reducible assumption; focus (first | omega | (simp; done) | (simp; omega))))⟩
end Go.Proofs.Ytpoichpdkkejjaa
