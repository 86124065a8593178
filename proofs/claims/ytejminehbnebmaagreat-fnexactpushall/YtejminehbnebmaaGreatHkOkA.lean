/- Whether a body is ok, at any row: the test of nine limbs, where one of the first is not met. -/
import Derived.Test.YtejminehbnebmaaGreatB3
import Derived.Test.YtejminehbnebmaaGreatB5
import Derived.Deep.RegionHeld3
import Derived.Deep.DeepCutAuto
namespace Go.Proofs.YtejminehbnebmaaGreat
open Go.RowKit
set_option linter.unusedVariables false
set_option linter.unusedSimpArgs false

set_option maxHeartbeats 8000000 in
theorem kOk_0 {cb n k : Nat} {V : Nat → Int} {G : Nat → Nat} {w : World} (h : HAt w cb n k V G) (k0 : decide (0 ≤ V 0 ∧ V 0 ≤ 999999999) = false) :
    Calls Tryz.prog 49 #[hdk cb k] w fun e w' => e = .returned (.bool false) ∧ Below w.heap.size w w' := by
  have hset := cset_map
  have l1 := h.cbl
  have hkn := h.kn
  have hnl := h.nl
  obtain ⟨c0, hc0, hv0, _, l0g, lc0⟩ := h.col 0 (by omega)
  generalize hG0 : G 0 = g0 at hc0 hv0 l0g lc0
  clear hG0
  go_enter Tryz.func49, Tryz.ntmps49
  go_upto_region 1 with fail
  refine wp_region_held_drew (S := fun w' => w'.cell? ⟨w.heap.size, 0, none⟩ = some (.int .i64 (k : Int)) ∧ w'.cell? ⟨w.heap.size, 1, none⟩ = some (.pointer (some ⟨cb, 0, none⟩)) ∧ w'.cell? ⟨cb, 0, none⟩ = some (.slice (some ⟨g0, 0, none⟩) n c0) ∧ w'.cell? ⟨g0, k, none⟩ = some (.int .i64 (V 0))) (by kernel_rfl) ?_ (fun hHeld => ?_)
  · (try dsimp only)
    (first | (go_simp; done) | (go_keep; done))
  refine tq 0 hHeld ?_
  refine tq 1 hHeld ?_
  refine tq 2 hHeld ?_
  refine tq 3 hHeld ?_
  refine tq 4 hHeld ?_
  refine tq 5 hHeld ?_
  refine tq 6 hHeld ?_
  refine tq 7 hHeld ?_
  refine tq 8 hHeld ?_
  (refine tc 9 fun K hK => ?_; go_simp; (go_at_call 74; refine (upTo_q _ _ _ _ (by with_reducible assumption)).mono ?_; rintro e w1 ⟨rfl, hb1⟩; obtain ⟨hc1, hf1⟩ := bcell hb1; have hz1 := hb1.size; (try simp only [World.size_drew, World.size_alloc, World.size_setCell] at hc1 hf1 hz1); obtain ⟨hk1x0, hj1x0, hq1x0⟩ := kfa hb1 (w.heap.size); obtain ⟨hk1x1, hj1x1, hq1x1⟩ := kfa hb1 (cb); obtain ⟨hk1x2, hj1x2, hq1x2⟩ := kfa hb1 (g0); clear hc1 hf1); (try go_wp2_with fail); refine tr hK (fun hHeld => ?_); clear hK K)
  refine tq 10 hHeld ?_
  refine tn 11 hHeld ?_
  refine tn 12 hHeld ?_
  refine tn 13 hHeld ?_
  refine tq 14 hHeld ?_
  refine tq 15 hHeld ?_
  refine tn 16 hHeld ?_
  refine tn 17 hHeld ?_
  refine tn 18 hHeld ?_
  refine tq 19 hHeld ?_
  refine tq 20 hHeld ?_
  refine tn 21 hHeld ?_
  refine tn 22 hHeld ?_
  refine tn 23 hHeld ?_
  refine tq 24 hHeld ?_
  refine tq 25 hHeld ?_
  refine tn 26 hHeld ?_
  refine tn 27 hHeld ?_
  refine tn 28 hHeld ?_
  refine tq 29 hHeld ?_
  refine tq 30 hHeld ?_
  refine tn 31 hHeld ?_
  refine tn 32 hHeld ?_
  refine tn 33 hHeld ?_
  refine tq 34 hHeld ?_
  refine tq 35 hHeld ?_
  refine tn 36 hHeld ?_
  refine tn 37 hHeld ?_
  refine tn 38 hHeld ?_
  refine tq 39 hHeld ?_
  refine tq 40 hHeld ?_
  refine tn 41 hHeld ?_
  refine tn 42 hHeld ?_
  refine tn 43 hHeld ?_
  refine tq 44 hHeld ?_
  refine tq 45 hHeld ?_
  refine tn 46 hHeld ?_
  refine tn 47 hHeld ?_
  refine tq 48 hHeld ?_
  refine tq 49 hHeld ?_
  refine wpAnyH_done (by kernel_rfl) ?_ _
  go_wp2_with fail
  go_ret
  exact ⟨rfl, bel_a⟩

set_option maxHeartbeats 8000000 in
theorem kOk_1 {cb n k : Nat} {V : Nat → Int} {G : Nat → Nat} {w : World} (h : HAt w cb n k V G) (k0 : decide (0 ≤ V 0 ∧ V 0 ≤ 999999999) = true) (k1 : shB (V 1) (V 2) (V 3) = false) :
    Calls Tryz.prog 49 #[hdk cb k] w fun e w' => e = .returned (.bool false) ∧ Below w.heap.size w w' := by
  have hset := cset_map
  have l1 := h.cbl
  have hkn := h.kn
  have hnl := h.nl
  obtain ⟨c0, hc0, hv0, _, l0g, lc0⟩ := h.col 0 (by omega)
  generalize hG0 : G 0 = g0 at hc0 hv0 l0g lc0
  clear hG0
  go_enter Tryz.func49, Tryz.ntmps49
  go_upto_region 1 with fail
  refine wp_region_held_drew (S := fun w' => w'.cell? ⟨w.heap.size, 0, none⟩ = some (.int .i64 (k : Int)) ∧ w'.cell? ⟨w.heap.size, 1, none⟩ = some (.pointer (some ⟨cb, 0, none⟩)) ∧ w'.cell? ⟨cb, 0, none⟩ = some (.slice (some ⟨g0, 0, none⟩) n c0) ∧ w'.cell? ⟨g0, k, none⟩ = some (.int .i64 (V 0))) (by kernel_rfl) ?_ (fun hHeld => ?_)
  · (try dsimp only)
    (first | (go_simp; done) | (go_keep; done))
  refine tq 0 hHeld ?_
  refine tq 1 hHeld ?_
  refine tq 2 hHeld ?_
  refine tq 3 hHeld ?_
  refine tq 4 hHeld ?_
  refine tq 5 hHeld ?_
  refine tq 6 hHeld ?_
  refine tq 7 hHeld ?_
  refine tq 8 hHeld ?_
  (refine tc 9 fun K hK => ?_; go_simp; (go_at_call 74; refine (upTo_q _ _ _ _ (by with_reducible assumption)).mono ?_; rintro e w1 ⟨rfl, hb1⟩; obtain ⟨hc1, hf1⟩ := bcell hb1; have hz1 := hb1.size; (try simp only [World.size_drew, World.size_alloc, World.size_setCell] at hc1 hf1 hz1); obtain ⟨hk1x0, hj1x0, hq1x0⟩ := kfa hb1 (w.heap.size); obtain ⟨hk1x1, hj1x1, hq1x1⟩ := kfa hb1 (cb); obtain ⟨hk1x2, hj1x2, hq1x2⟩ := kfa hb1 (g0); clear hc1 hf1); (try go_wp2_with fail); refine tr hK (fun hHeld => ?_); clear hK K)
  refine tq 10 hHeld ?_
  refine tq 11 hHeld ?_
  (refine tc 12 fun K hK => ?_; go_simp; (go_at_call 57; refine (kShape (HAt.below h (bel_a))).mono ?_; rintro e w2 ⟨rfl, hb2⟩; obtain ⟨hc2, hf2⟩ := bcell hb2; have hz2 := hb2.size; (try simp only [World.size_drew, World.size_alloc, World.size_setCell] at hc2 hf2 hz2); obtain ⟨hk2x0, hj2x0, hq2x0⟩ := kfa hb2 (w.heap.size); obtain ⟨hk2x1, hj2x1, hq2x1⟩ := kfa hb2 (cb); obtain ⟨hk2x2, hj2x2, hq2x2⟩ := kfa hb2 (g0); clear hc2 hf2); (try go_wp2_with fail); refine tr hK (fun hHeld => ?_); clear hK K)
  (refine tc 13 fun K hK => ?_; go_simp; (go_at_call 75; refine (shapeOk_q _ _ _ _ _ (by with_reducible assumption)).mono ?_; rintro e w3 ⟨rfl, hb3⟩; obtain ⟨hc3, hf3⟩ := bcell hb3; have hz3 := hb3.size; (try simp only [World.size_drew, World.size_alloc, World.size_setCell] at hc3 hf3 hz3); obtain ⟨hk3x0, hj3x0, hq3x0⟩ := kfa hb3 (w.heap.size); obtain ⟨hk3x1, hj3x1, hq3x1⟩ := kfa hb3 (cb); obtain ⟨hk3x2, hj3x2, hq3x2⟩ := kfa hb3 (g0); clear hc3 hf3); (try go_wp2_with fail); refine tr hK (fun hHeld => ?_); clear hK K)
  refine tq 14 hHeld ?_
  refine tq 15 hHeld ?_
  refine tn 16 hHeld ?_
  refine tn 17 hHeld ?_
  refine tn 18 hHeld ?_
  refine tq 19 hHeld ?_
  refine tq 20 hHeld ?_
  refine tn 21 hHeld ?_
  refine tn 22 hHeld ?_
  refine tn 23 hHeld ?_
  refine tq 24 hHeld ?_
  refine tq 25 hHeld ?_
  refine tn 26 hHeld ?_
  refine tn 27 hHeld ?_
  refine tn 28 hHeld ?_
  refine tq 29 hHeld ?_
  refine tq 30 hHeld ?_
  refine tn 31 hHeld ?_
  refine tn 32 hHeld ?_
  refine tn 33 hHeld ?_
  refine tq 34 hHeld ?_
  refine tq 35 hHeld ?_
  refine tn 36 hHeld ?_
  refine tn 37 hHeld ?_
  refine tn 38 hHeld ?_
  refine tq 39 hHeld ?_
  refine tq 40 hHeld ?_
  refine tn 41 hHeld ?_
  refine tn 42 hHeld ?_
  refine tn 43 hHeld ?_
  refine tq 44 hHeld ?_
  refine tq 45 hHeld ?_
  refine tn 46 hHeld ?_
  refine tn 47 hHeld ?_
  refine tq 48 hHeld ?_
  refine tq 49 hHeld ?_
  refine wpAnyH_done (by kernel_rfl) ?_ _
  go_wp2_with fail
  go_ret
  exact ⟨rfl, bel_a⟩

set_option maxHeartbeats 8000000 in
theorem kOk_2 {cb n k : Nat} {V : Nat → Int} {G : Nat → Nat} {w : World} (h : HAt w cb n k V G) (k0 : decide (0 ≤ V 0 ∧ V 0 ≤ 999999999) = true) (k1 : shB (V 1) (V 2) (V 3) = true) (k2 : inB 2560000 (V 4) (V 5) = false) :
    Calls Tryz.prog 49 #[hdk cb k] w fun e w' => e = .returned (.bool false) ∧ Below w.heap.size w w' := by
  have hset := cset_map
  have l1 := h.cbl
  have hkn := h.kn
  have hnl := h.nl
  obtain ⟨c0, hc0, hv0, _, l0g, lc0⟩ := h.col 0 (by omega)
  generalize hG0 : G 0 = g0 at hc0 hv0 l0g lc0
  clear hG0
  go_enter Tryz.func49, Tryz.ntmps49
  go_upto_region 1 with fail
  refine wp_region_held_drew (S := fun w' => w'.cell? ⟨w.heap.size, 0, none⟩ = some (.int .i64 (k : Int)) ∧ w'.cell? ⟨w.heap.size, 1, none⟩ = some (.pointer (some ⟨cb, 0, none⟩)) ∧ w'.cell? ⟨cb, 0, none⟩ = some (.slice (some ⟨g0, 0, none⟩) n c0) ∧ w'.cell? ⟨g0, k, none⟩ = some (.int .i64 (V 0))) (by kernel_rfl) ?_ (fun hHeld => ?_)
  · (try dsimp only)
    (first | (go_simp; done) | (go_keep; done))
  refine tq 0 hHeld ?_
  refine tq 1 hHeld ?_
  refine tq 2 hHeld ?_
  refine tq 3 hHeld ?_
  refine tq 4 hHeld ?_
  refine tq 5 hHeld ?_
  refine tq 6 hHeld ?_
  refine tq 7 hHeld ?_
  refine tq 8 hHeld ?_
  (refine tc 9 fun K hK => ?_; go_simp; (go_at_call 74; refine (upTo_q _ _ _ _ (by with_reducible assumption)).mono ?_; rintro e w1 ⟨rfl, hb1⟩; obtain ⟨hc1, hf1⟩ := bcell hb1; have hz1 := hb1.size; (try simp only [World.size_drew, World.size_alloc, World.size_setCell] at hc1 hf1 hz1); obtain ⟨hk1x0, hj1x0, hq1x0⟩ := kfa hb1 (w.heap.size); obtain ⟨hk1x1, hj1x1, hq1x1⟩ := kfa hb1 (cb); obtain ⟨hk1x2, hj1x2, hq1x2⟩ := kfa hb1 (g0); clear hc1 hf1); (try go_wp2_with fail); refine tr hK (fun hHeld => ?_); clear hK K)
  refine tq 10 hHeld ?_
  refine tq 11 hHeld ?_
  (refine tc 12 fun K hK => ?_; go_simp; (go_at_call 57; refine (kShape (HAt.below h (bel_a))).mono ?_; rintro e w2 ⟨rfl, hb2⟩; obtain ⟨hc2, hf2⟩ := bcell hb2; have hz2 := hb2.size; (try simp only [World.size_drew, World.size_alloc, World.size_setCell] at hc2 hf2 hz2); obtain ⟨hk2x0, hj2x0, hq2x0⟩ := kfa hb2 (w.heap.size); obtain ⟨hk2x1, hj2x1, hq2x1⟩ := kfa hb2 (cb); obtain ⟨hk2x2, hj2x2, hq2x2⟩ := kfa hb2 (g0); clear hc2 hf2); (try go_wp2_with fail); refine tr hK (fun hHeld => ?_); clear hK K)
  (refine tc 13 fun K hK => ?_; go_simp; (go_at_call 75; refine (shapeOk_q _ _ _ _ _ (by with_reducible assumption)).mono ?_; rintro e w3 ⟨rfl, hb3⟩; obtain ⟨hc3, hf3⟩ := bcell hb3; have hz3 := hb3.size; (try simp only [World.size_drew, World.size_alloc, World.size_setCell] at hc3 hf3 hz3); obtain ⟨hk3x0, hj3x0, hq3x0⟩ := kfa hb3 (w.heap.size); obtain ⟨hk3x1, hj3x1, hq3x1⟩ := kfa hb3 (cb); obtain ⟨hk3x2, hj3x2, hq3x2⟩ := kfa hb3 (g0); clear hc3 hf3); (try go_wp2_with fail); refine tr hK (fun hHeld => ?_); clear hK K)
  refine tq 14 hHeld ?_
  refine tq 15 hHeld ?_
  refine tq 16 hHeld ?_
  (refine tc 17 fun K hK => ?_; go_simp; (go_at_call 58; refine (kAt (HAt.below h (bel_a))).mono ?_; rintro e w4 ⟨rfl, hb4⟩; obtain ⟨hc4, hf4⟩ := bcell hb4; have hz4 := hb4.size; (try simp only [World.size_drew, World.size_alloc, World.size_setCell] at hc4 hf4 hz4); obtain ⟨hk4x0, hj4x0, hq4x0⟩ := kfa hb4 (w.heap.size); obtain ⟨hk4x1, hj4x1, hq4x1⟩ := kfa hb4 (cb); obtain ⟨hk4x2, hj4x2, hq4x2⟩ := kfa hb4 (g0); clear hc4 hf4); (try go_wp2_with fail); refine tr hK (fun hHeld => ?_); clear hK K)
  (refine tc 18 fun K hK => ?_; go_simp; (go_at_call 76; refine (within2_q _ _ _ _ _ (by omega) (by omega) (by with_reducible assumption)).mono ?_; rintro e w5 ⟨rfl, hb5⟩; obtain ⟨hc5, hf5⟩ := bcell hb5; have hz5 := hb5.size; (try simp only [World.size_drew, World.size_alloc, World.size_setCell] at hc5 hf5 hz5); obtain ⟨hk5x0, hj5x0, hq5x0⟩ := kfa hb5 (w.heap.size); obtain ⟨hk5x1, hj5x1, hq5x1⟩ := kfa hb5 (cb); obtain ⟨hk5x2, hj5x2, hq5x2⟩ := kfa hb5 (g0); clear hc5 hf5); (try go_wp2_with fail); refine tr hK (fun hHeld => ?_); clear hK K)
  refine tq 19 hHeld ?_
  refine tq 20 hHeld ?_
  refine tn 21 hHeld ?_
  refine tn 22 hHeld ?_
  refine tn 23 hHeld ?_
  refine tq 24 hHeld ?_
  refine tq 25 hHeld ?_
  refine tn 26 hHeld ?_
  refine tn 27 hHeld ?_
  refine tn 28 hHeld ?_
  refine tq 29 hHeld ?_
  refine tq 30 hHeld ?_
  refine tn 31 hHeld ?_
  refine tn 32 hHeld ?_
  refine tn 33 hHeld ?_
  refine tq 34 hHeld ?_
  refine tq 35 hHeld ?_
  refine tn 36 hHeld ?_
  refine tn 37 hHeld ?_
  refine tn 38 hHeld ?_
  refine tq 39 hHeld ?_
  refine tq 40 hHeld ?_
  refine tn 41 hHeld ?_
  refine tn 42 hHeld ?_
  refine tn 43 hHeld ?_
  refine tq 44 hHeld ?_
  refine tq 45 hHeld ?_
  refine tn 46 hHeld ?_
  refine tn 47 hHeld ?_
  refine tq 48 hHeld ?_
  refine tq 49 hHeld ?_
  refine wpAnyH_done (by kernel_rfl) ?_ _
  go_wp2_with fail
  go_ret
  exact ⟨rfl, bel_a⟩

set_option maxHeartbeats 8000000 in
theorem kOk_3 {cb n k : Nat} {V : Nat → Int} {G : Nat → Nat} {w : World} (h : HAt w cb n k V G) (k0 : decide (0 ≤ V 0 ∧ V 0 ≤ 999999999) = true) (k1 : shB (V 1) (V 2) (V 3) = true) (k2 : inB 2560000 (V 4) (V 5) = true) (k3 : inB 20000000 (V 6) (V 7) = false) :
    Calls Tryz.prog 49 #[hdk cb k] w fun e w' => e = .returned (.bool false) ∧ Below w.heap.size w w' := by
  have hset := cset_map
  have l1 := h.cbl
  have hkn := h.kn
  have hnl := h.nl
  obtain ⟨c0, hc0, hv0, _, l0g, lc0⟩ := h.col 0 (by omega)
  generalize hG0 : G 0 = g0 at hc0 hv0 l0g lc0
  clear hG0
  go_enter Tryz.func49, Tryz.ntmps49
  go_upto_region 1 with fail
  refine wp_region_held_drew (S := fun w' => w'.cell? ⟨w.heap.size, 0, none⟩ = some (.int .i64 (k : Int)) ∧ w'.cell? ⟨w.heap.size, 1, none⟩ = some (.pointer (some ⟨cb, 0, none⟩)) ∧ w'.cell? ⟨cb, 0, none⟩ = some (.slice (some ⟨g0, 0, none⟩) n c0) ∧ w'.cell? ⟨g0, k, none⟩ = some (.int .i64 (V 0))) (by kernel_rfl) ?_ (fun hHeld => ?_)
  · (try dsimp only)
    (first | (go_simp; done) | (go_keep; done))
  refine tq 0 hHeld ?_
  refine tq 1 hHeld ?_
  refine tq 2 hHeld ?_
  refine tq 3 hHeld ?_
  refine tq 4 hHeld ?_
  refine tq 5 hHeld ?_
  refine tq 6 hHeld ?_
  refine tq 7 hHeld ?_
  refine tq 8 hHeld ?_
  (refine tc 9 fun K hK => ?_; go_simp; (go_at_call 74; refine (upTo_q _ _ _ _ (by with_reducible assumption)).mono ?_; rintro e w1 ⟨rfl, hb1⟩; obtain ⟨hc1, hf1⟩ := bcell hb1; have hz1 := hb1.size; (try simp only [World.size_drew, World.size_alloc, World.size_setCell] at hc1 hf1 hz1); obtain ⟨hk1x0, hj1x0, hq1x0⟩ := kfa hb1 (w.heap.size); obtain ⟨hk1x1, hj1x1, hq1x1⟩ := kfa hb1 (cb); obtain ⟨hk1x2, hj1x2, hq1x2⟩ := kfa hb1 (g0); clear hc1 hf1); (try go_wp2_with fail); refine tr hK (fun hHeld => ?_); clear hK K)
  refine tq 10 hHeld ?_
  refine tq 11 hHeld ?_
  (refine tc 12 fun K hK => ?_; go_simp; (go_at_call 57; refine (kShape (HAt.below h (bel_a))).mono ?_; rintro e w2 ⟨rfl, hb2⟩; obtain ⟨hc2, hf2⟩ := bcell hb2; have hz2 := hb2.size; (try simp only [World.size_drew, World.size_alloc, World.size_setCell] at hc2 hf2 hz2); obtain ⟨hk2x0, hj2x0, hq2x0⟩ := kfa hb2 (w.heap.size); obtain ⟨hk2x1, hj2x1, hq2x1⟩ := kfa hb2 (cb); obtain ⟨hk2x2, hj2x2, hq2x2⟩ := kfa hb2 (g0); clear hc2 hf2); (try go_wp2_with fail); refine tr hK (fun hHeld => ?_); clear hK K)
  (refine tc 13 fun K hK => ?_; go_simp; (go_at_call 75; refine (shapeOk_q _ _ _ _ _ (by with_reducible assumption)).mono ?_; rintro e w3 ⟨rfl, hb3⟩; obtain ⟨hc3, hf3⟩ := bcell hb3; have hz3 := hb3.size; (try simp only [World.size_drew, World.size_alloc, World.size_setCell] at hc3 hf3 hz3); obtain ⟨hk3x0, hj3x0, hq3x0⟩ := kfa hb3 (w.heap.size); obtain ⟨hk3x1, hj3x1, hq3x1⟩ := kfa hb3 (cb); obtain ⟨hk3x2, hj3x2, hq3x2⟩ := kfa hb3 (g0); clear hc3 hf3); (try go_wp2_with fail); refine tr hK (fun hHeld => ?_); clear hK K)
  refine tq 14 hHeld ?_
  refine tq 15 hHeld ?_
  refine tq 16 hHeld ?_
  (refine tc 17 fun K hK => ?_; go_simp; (go_at_call 58; refine (kAt (HAt.below h (bel_a))).mono ?_; rintro e w4 ⟨rfl, hb4⟩; obtain ⟨hc4, hf4⟩ := bcell hb4; have hz4 := hb4.size; (try simp only [World.size_drew, World.size_alloc, World.size_setCell] at hc4 hf4 hz4); obtain ⟨hk4x0, hj4x0, hq4x0⟩ := kfa hb4 (w.heap.size); obtain ⟨hk4x1, hj4x1, hq4x1⟩ := kfa hb4 (cb); obtain ⟨hk4x2, hj4x2, hq4x2⟩ := kfa hb4 (g0); clear hc4 hf4); (try go_wp2_with fail); refine tr hK (fun hHeld => ?_); clear hK K)
  (refine tc 18 fun K hK => ?_; go_simp; (go_at_call 76; refine (within2_q _ _ _ _ _ (by omega) (by omega) (by with_reducible assumption)).mono ?_; rintro e w5 ⟨rfl, hb5⟩; obtain ⟨hc5, hf5⟩ := bcell hb5; have hz5 := hb5.size; (try simp only [World.size_drew, World.size_alloc, World.size_setCell] at hc5 hf5 hz5); obtain ⟨hk5x0, hj5x0, hq5x0⟩ := kfa hb5 (w.heap.size); obtain ⟨hk5x1, hj5x1, hq5x1⟩ := kfa hb5 (cb); obtain ⟨hk5x2, hj5x2, hq5x2⟩ := kfa hb5 (g0); clear hc5 hf5); (try go_wp2_with fail); refine tr hK (fun hHeld => ?_); clear hK K)
  refine tq 19 hHeld ?_
  refine tq 20 hHeld ?_
  refine tq 21 hHeld ?_
  (refine tc 22 fun K hK => ?_; go_simp; (go_at_call 60; refine (kDrive (HAt.below h (bel_a))).mono ?_; rintro e w6 ⟨rfl, hb6⟩; obtain ⟨hc6, hf6⟩ := bcell hb6; have hz6 := hb6.size; (try simp only [World.size_drew, World.size_alloc, World.size_setCell] at hc6 hf6 hz6); obtain ⟨hk6x0, hj6x0, hq6x0⟩ := kfa hb6 (w.heap.size); obtain ⟨hk6x1, hj6x1, hq6x1⟩ := kfa hb6 (cb); obtain ⟨hk6x2, hj6x2, hq6x2⟩ := kfa hb6 (g0); clear hc6 hf6); (try go_wp2_with fail); refine tr hK (fun hHeld => ?_); clear hK K)
  (refine tc 23 fun K hK => ?_; go_simp; (go_at_call 76; refine (within2_q _ _ _ _ _ (by omega) (by omega) (by with_reducible assumption)).mono ?_; rintro e w7 ⟨rfl, hb7⟩; obtain ⟨hc7, hf7⟩ := bcell hb7; have hz7 := hb7.size; (try simp only [World.size_drew, World.size_alloc, World.size_setCell] at hc7 hf7 hz7); obtain ⟨hk7x0, hj7x0, hq7x0⟩ := kfa hb7 (w.heap.size); obtain ⟨hk7x1, hj7x1, hq7x1⟩ := kfa hb7 (cb); obtain ⟨hk7x2, hj7x2, hq7x2⟩ := kfa hb7 (g0); clear hc7 hf7); (try go_wp2_with fail); refine tr hK (fun hHeld => ?_); clear hK K)
  refine tq 24 hHeld ?_
  refine tq 25 hHeld ?_
  refine tn 26 hHeld ?_
  refine tn 27 hHeld ?_
  refine tn 28 hHeld ?_
  refine tq 29 hHeld ?_
  refine tq 30 hHeld ?_
  refine tn 31 hHeld ?_
  refine tn 32 hHeld ?_
  refine tn 33 hHeld ?_
  refine tq 34 hHeld ?_
  refine tq 35 hHeld ?_
  refine tn 36 hHeld ?_
  refine tn 37 hHeld ?_
  refine tn 38 hHeld ?_
  refine tq 39 hHeld ?_
  refine tq 40 hHeld ?_
  refine tn 41 hHeld ?_
  refine tn 42 hHeld ?_
  refine tn 43 hHeld ?_
  refine tq 44 hHeld ?_
  refine tq 45 hHeld ?_
  refine tn 46 hHeld ?_
  refine tn 47 hHeld ?_
  refine tq 48 hHeld ?_
  refine tq 49 hHeld ?_
  refine wpAnyH_done (by kernel_rfl) ?_ _
  go_wp2_with fail
  go_ret
  exact ⟨rfl, bel_a⟩

set_option maxHeartbeats 8000000 in
theorem kOk_4 {cb n k : Nat} {V : Nat → Int} {G : Nat → Nat} {w : World} (h : HAt w cb n k V G) (k0 : decide (0 ≤ V 0 ∧ V 0 ≤ 999999999) = true) (k1 : shB (V 1) (V 2) (V 3) = true) (k2 : inB 2560000 (V 4) (V 5) = true) (k3 : inB 20000000 (V 6) (V 7) = true) (k4 : decide (0 ≤ V 8 ∧ V 8 ≤ 1000) = false) :
    Calls Tryz.prog 49 #[hdk cb k] w fun e w' => e = .returned (.bool false) ∧ Below w.heap.size w w' := by
  have hset := cset_map
  have l1 := h.cbl
  have hkn := h.kn
  have hnl := h.nl
  obtain ⟨c0, hc0, hv0, _, l0g, lc0⟩ := h.col 0 (by omega)
  generalize hG0 : G 0 = g0 at hc0 hv0 l0g lc0
  clear hG0
  go_enter Tryz.func49, Tryz.ntmps49
  go_upto_region 1 with fail
  refine wp_region_held_drew (S := fun w' => w'.cell? ⟨w.heap.size, 0, none⟩ = some (.int .i64 (k : Int)) ∧ w'.cell? ⟨w.heap.size, 1, none⟩ = some (.pointer (some ⟨cb, 0, none⟩)) ∧ w'.cell? ⟨cb, 0, none⟩ = some (.slice (some ⟨g0, 0, none⟩) n c0) ∧ w'.cell? ⟨g0, k, none⟩ = some (.int .i64 (V 0))) (by kernel_rfl) ?_ (fun hHeld => ?_)
  · (try dsimp only)
    (first | (go_simp; done) | (go_keep; done))
  refine tq 0 hHeld ?_
  refine tq 1 hHeld ?_
  refine tq 2 hHeld ?_
  refine tq 3 hHeld ?_
  refine tq 4 hHeld ?_
  refine tq 5 hHeld ?_
  refine tq 6 hHeld ?_
  refine tq 7 hHeld ?_
  refine tq 8 hHeld ?_
  (refine tc 9 fun K hK => ?_; go_simp; (go_at_call 74; refine (upTo_q _ _ _ _ (by with_reducible assumption)).mono ?_; rintro e w1 ⟨rfl, hb1⟩; obtain ⟨hc1, hf1⟩ := bcell hb1; have hz1 := hb1.size; (try simp only [World.size_drew, World.size_alloc, World.size_setCell] at hc1 hf1 hz1); obtain ⟨hk1x0, hj1x0, hq1x0⟩ := kfa hb1 (w.heap.size); obtain ⟨hk1x1, hj1x1, hq1x1⟩ := kfa hb1 (cb); obtain ⟨hk1x2, hj1x2, hq1x2⟩ := kfa hb1 (g0); clear hc1 hf1); (try go_wp2_with fail); refine tr hK (fun hHeld => ?_); clear hK K)
  refine tq 10 hHeld ?_
  refine tq 11 hHeld ?_
  (refine tc 12 fun K hK => ?_; go_simp; (go_at_call 57; refine (kShape (HAt.below h (bel_a))).mono ?_; rintro e w2 ⟨rfl, hb2⟩; obtain ⟨hc2, hf2⟩ := bcell hb2; have hz2 := hb2.size; (try simp only [World.size_drew, World.size_alloc, World.size_setCell] at hc2 hf2 hz2); obtain ⟨hk2x0, hj2x0, hq2x0⟩ := kfa hb2 (w.heap.size); obtain ⟨hk2x1, hj2x1, hq2x1⟩ := kfa hb2 (cb); obtain ⟨hk2x2, hj2x2, hq2x2⟩ := kfa hb2 (g0); clear hc2 hf2); (try go_wp2_with fail); refine tr hK (fun hHeld => ?_); clear hK K)
  (refine tc 13 fun K hK => ?_; go_simp; (go_at_call 75; refine (shapeOk_q _ _ _ _ _ (by with_reducible assumption)).mono ?_; rintro e w3 ⟨rfl, hb3⟩; obtain ⟨hc3, hf3⟩ := bcell hb3; have hz3 := hb3.size; (try simp only [World.size_drew, World.size_alloc, World.size_setCell] at hc3 hf3 hz3); obtain ⟨hk3x0, hj3x0, hq3x0⟩ := kfa hb3 (w.heap.size); obtain ⟨hk3x1, hj3x1, hq3x1⟩ := kfa hb3 (cb); obtain ⟨hk3x2, hj3x2, hq3x2⟩ := kfa hb3 (g0); clear hc3 hf3); (try go_wp2_with fail); refine tr hK (fun hHeld => ?_); clear hK K)
  refine tq 14 hHeld ?_
  refine tq 15 hHeld ?_
  refine tq 16 hHeld ?_
  (refine tc 17 fun K hK => ?_; go_simp; (go_at_call 58; refine (kAt (HAt.below h (bel_a))).mono ?_; rintro e w4 ⟨rfl, hb4⟩; obtain ⟨hc4, hf4⟩ := bcell hb4; have hz4 := hb4.size; (try simp only [World.size_drew, World.size_alloc, World.size_setCell] at hc4 hf4 hz4); obtain ⟨hk4x0, hj4x0, hq4x0⟩ := kfa hb4 (w.heap.size); obtain ⟨hk4x1, hj4x1, hq4x1⟩ := kfa hb4 (cb); obtain ⟨hk4x2, hj4x2, hq4x2⟩ := kfa hb4 (g0); clear hc4 hf4); (try go_wp2_with fail); refine tr hK (fun hHeld => ?_); clear hK K)
  (refine tc 18 fun K hK => ?_; go_simp; (go_at_call 76; refine (within2_q _ _ _ _ _ (by omega) (by omega) (by with_reducible assumption)).mono ?_; rintro e w5 ⟨rfl, hb5⟩; obtain ⟨hc5, hf5⟩ := bcell hb5; have hz5 := hb5.size; (try simp only [World.size_drew, World.size_alloc, World.size_setCell] at hc5 hf5 hz5); obtain ⟨hk5x0, hj5x0, hq5x0⟩ := kfa hb5 (w.heap.size); obtain ⟨hk5x1, hj5x1, hq5x1⟩ := kfa hb5 (cb); obtain ⟨hk5x2, hj5x2, hq5x2⟩ := kfa hb5 (g0); clear hc5 hf5); (try go_wp2_with fail); refine tr hK (fun hHeld => ?_); clear hK K)
  refine tq 19 hHeld ?_
  refine tq 20 hHeld ?_
  refine tq 21 hHeld ?_
  (refine tc 22 fun K hK => ?_; go_simp; (go_at_call 60; refine (kDrive (HAt.below h (bel_a))).mono ?_; rintro e w6 ⟨rfl, hb6⟩; obtain ⟨hc6, hf6⟩ := bcell hb6; have hz6 := hb6.size; (try simp only [World.size_drew, World.size_alloc, World.size_setCell] at hc6 hf6 hz6); obtain ⟨hk6x0, hj6x0, hq6x0⟩ := kfa hb6 (w.heap.size); obtain ⟨hk6x1, hj6x1, hq6x1⟩ := kfa hb6 (cb); obtain ⟨hk6x2, hj6x2, hq6x2⟩ := kfa hb6 (g0); clear hc6 hf6); (try go_wp2_with fail); refine tr hK (fun hHeld => ?_); clear hK K)
  (refine tc 23 fun K hK => ?_; go_simp; (go_at_call 76; refine (within2_q _ _ _ _ _ (by omega) (by omega) (by with_reducible assumption)).mono ?_; rintro e w7 ⟨rfl, hb7⟩; obtain ⟨hc7, hf7⟩ := bcell hb7; have hz7 := hb7.size; (try simp only [World.size_drew, World.size_alloc, World.size_setCell] at hc7 hf7 hz7); obtain ⟨hk7x0, hj7x0, hq7x0⟩ := kfa hb7 (w.heap.size); obtain ⟨hk7x1, hj7x1, hq7x1⟩ := kfa hb7 (cb); obtain ⟨hk7x2, hj7x2, hq7x2⟩ := kfa hb7 (g0); clear hc7 hf7); (try go_wp2_with fail); refine tr hK (fun hHeld => ?_); clear hK K)
  refine tq 24 hHeld ?_
  refine tq 25 hHeld ?_
  refine tq 26 hHeld ?_
  (refine tc 27 fun K hK => ?_; go_simp; (go_at_call 61; refine (kMass (HAt.below h (bel_a))).mono ?_; rintro e w8 ⟨rfl, hb8⟩; obtain ⟨hc8, hf8⟩ := bcell hb8; have hz8 := hb8.size; (try simp only [World.size_drew, World.size_alloc, World.size_setCell] at hc8 hf8 hz8); obtain ⟨hk8x0, hj8x0, hq8x0⟩ := kfa hb8 (w.heap.size); obtain ⟨hk8x1, hj8x1, hq8x1⟩ := kfa hb8 (cb); obtain ⟨hk8x2, hj8x2, hq8x2⟩ := kfa hb8 (g0); clear hc8 hf8); (try go_wp2_with fail); refine tr hK (fun hHeld => ?_); clear hK K)
  (refine tc 28 fun K hK => ?_; go_simp; (go_at_call 74; refine (upTo_q _ _ _ _ (by with_reducible assumption)).mono ?_; rintro e w9 ⟨rfl, hb9⟩; obtain ⟨hc9, hf9⟩ := bcell hb9; have hz9 := hb9.size; (try simp only [World.size_drew, World.size_alloc, World.size_setCell] at hc9 hf9 hz9); obtain ⟨hk9x0, hj9x0, hq9x0⟩ := kfa hb9 (w.heap.size); obtain ⟨hk9x1, hj9x1, hq9x1⟩ := kfa hb9 (cb); obtain ⟨hk9x2, hj9x2, hq9x2⟩ := kfa hb9 (g0); clear hc9 hf9); (try go_wp2_with fail); refine tr hK (fun hHeld => ?_); clear hK K)
  refine tq 29 hHeld ?_
  refine tq 30 hHeld ?_
  refine tn 31 hHeld ?_
  refine tn 32 hHeld ?_
  refine tn 33 hHeld ?_
  refine tq 34 hHeld ?_
  refine tq 35 hHeld ?_
  refine tn 36 hHeld ?_
  refine tn 37 hHeld ?_
  refine tn 38 hHeld ?_
  refine tq 39 hHeld ?_
  refine tq 40 hHeld ?_
  refine tn 41 hHeld ?_
  refine tn 42 hHeld ?_
  refine tn 43 hHeld ?_
  refine tq 44 hHeld ?_
  refine tq 45 hHeld ?_
  refine tn 46 hHeld ?_
  refine tn 47 hHeld ?_
  refine tq 48 hHeld ?_
  refine tq 49 hHeld ?_
  refine wpAnyH_done (by kernel_rfl) ?_ _
  go_wp2_with fail
  go_ret
  exact ⟨rfl, bel_a⟩

set_option maxHeartbeats 8000000 in
theorem kOk_5 {cb n k : Nat} {V : Nat → Int} {G : Nat → Nat} {w : World} (h : HAt w cb n k V G) (k0 : decide (0 ≤ V 0 ∧ V 0 ≤ 999999999) = true) (k1 : shB (V 1) (V 2) (V 3) = true) (k2 : inB 2560000 (V 4) (V 5) = true) (k3 : inB 20000000 (V 6) (V 7) = true) (k4 : decide (0 ≤ V 8 ∧ V 8 ≤ 1000) = true) (k5 : decide (0 ≤ V 9 ∧ V 9 ≤ 256) = false) :
    Calls Tryz.prog 49 #[hdk cb k] w fun e w' => e = .returned (.bool false) ∧ Below w.heap.size w w' := by
  have hset := cset_map
  have l1 := h.cbl
  have hkn := h.kn
  have hnl := h.nl
  obtain ⟨c0, hc0, hv0, _, l0g, lc0⟩ := h.col 0 (by omega)
  generalize hG0 : G 0 = g0 at hc0 hv0 l0g lc0
  clear hG0
  go_enter Tryz.func49, Tryz.ntmps49
  go_upto_region 1 with fail
  refine wp_region_held_drew (S := fun w' => w'.cell? ⟨w.heap.size, 0, none⟩ = some (.int .i64 (k : Int)) ∧ w'.cell? ⟨w.heap.size, 1, none⟩ = some (.pointer (some ⟨cb, 0, none⟩)) ∧ w'.cell? ⟨cb, 0, none⟩ = some (.slice (some ⟨g0, 0, none⟩) n c0) ∧ w'.cell? ⟨g0, k, none⟩ = some (.int .i64 (V 0))) (by kernel_rfl) ?_ (fun hHeld => ?_)
  · (try dsimp only)
    (first | (go_simp; done) | (go_keep; done))
  refine tq 0 hHeld ?_
  refine tq 1 hHeld ?_
  refine tq 2 hHeld ?_
  refine tq 3 hHeld ?_
  refine tq 4 hHeld ?_
  refine tq 5 hHeld ?_
  refine tq 6 hHeld ?_
  refine tq 7 hHeld ?_
  refine tq 8 hHeld ?_
  (refine tc 9 fun K hK => ?_; go_simp; (go_at_call 74; refine (upTo_q _ _ _ _ (by with_reducible assumption)).mono ?_; rintro e w1 ⟨rfl, hb1⟩; obtain ⟨hc1, hf1⟩ := bcell hb1; have hz1 := hb1.size; (try simp only [World.size_drew, World.size_alloc, World.size_setCell] at hc1 hf1 hz1); obtain ⟨hk1x0, hj1x0, hq1x0⟩ := kfa hb1 (w.heap.size); obtain ⟨hk1x1, hj1x1, hq1x1⟩ := kfa hb1 (cb); obtain ⟨hk1x2, hj1x2, hq1x2⟩ := kfa hb1 (g0); clear hc1 hf1); (try go_wp2_with fail); refine tr hK (fun hHeld => ?_); clear hK K)
  refine tq 10 hHeld ?_
  refine tq 11 hHeld ?_
  (refine tc 12 fun K hK => ?_; go_simp; (go_at_call 57; refine (kShape (HAt.below h (bel_a))).mono ?_; rintro e w2 ⟨rfl, hb2⟩; obtain ⟨hc2, hf2⟩ := bcell hb2; have hz2 := hb2.size; (try simp only [World.size_drew, World.size_alloc, World.size_setCell] at hc2 hf2 hz2); obtain ⟨hk2x0, hj2x0, hq2x0⟩ := kfa hb2 (w.heap.size); obtain ⟨hk2x1, hj2x1, hq2x1⟩ := kfa hb2 (cb); obtain ⟨hk2x2, hj2x2, hq2x2⟩ := kfa hb2 (g0); clear hc2 hf2); (try go_wp2_with fail); refine tr hK (fun hHeld => ?_); clear hK K)
  (refine tc 13 fun K hK => ?_; go_simp; (go_at_call 75; refine (shapeOk_q _ _ _ _ _ (by with_reducible assumption)).mono ?_; rintro e w3 ⟨rfl, hb3⟩; obtain ⟨hc3, hf3⟩ := bcell hb3; have hz3 := hb3.size; (try simp only [World.size_drew, World.size_alloc, World.size_setCell] at hc3 hf3 hz3); obtain ⟨hk3x0, hj3x0, hq3x0⟩ := kfa hb3 (w.heap.size); obtain ⟨hk3x1, hj3x1, hq3x1⟩ := kfa hb3 (cb); obtain ⟨hk3x2, hj3x2, hq3x2⟩ := kfa hb3 (g0); clear hc3 hf3); (try go_wp2_with fail); refine tr hK (fun hHeld => ?_); clear hK K)
  refine tq 14 hHeld ?_
  refine tq 15 hHeld ?_
  refine tq 16 hHeld ?_
  (refine tc 17 fun K hK => ?_; go_simp; (go_at_call 58; refine (kAt (HAt.below h (bel_a))).mono ?_; rintro e w4 ⟨rfl, hb4⟩; obtain ⟨hc4, hf4⟩ := bcell hb4; have hz4 := hb4.size; (try simp only [World.size_drew, World.size_alloc, World.size_setCell] at hc4 hf4 hz4); obtain ⟨hk4x0, hj4x0, hq4x0⟩ := kfa hb4 (w.heap.size); obtain ⟨hk4x1, hj4x1, hq4x1⟩ := kfa hb4 (cb); obtain ⟨hk4x2, hj4x2, hq4x2⟩ := kfa hb4 (g0); clear hc4 hf4); (try go_wp2_with fail); refine tr hK (fun hHeld => ?_); clear hK K)
  (refine tc 18 fun K hK => ?_; go_simp; (go_at_call 76; refine (within2_q _ _ _ _ _ (by omega) (by omega) (by with_reducible assumption)).mono ?_; rintro e w5 ⟨rfl, hb5⟩; obtain ⟨hc5, hf5⟩ := bcell hb5; have hz5 := hb5.size; (try simp only [World.size_drew, World.size_alloc, World.size_setCell] at hc5 hf5 hz5); obtain ⟨hk5x0, hj5x0, hq5x0⟩ := kfa hb5 (w.heap.size); obtain ⟨hk5x1, hj5x1, hq5x1⟩ := kfa hb5 (cb); obtain ⟨hk5x2, hj5x2, hq5x2⟩ := kfa hb5 (g0); clear hc5 hf5); (try go_wp2_with fail); refine tr hK (fun hHeld => ?_); clear hK K)
  refine tq 19 hHeld ?_
  refine tq 20 hHeld ?_
  refine tq 21 hHeld ?_
  (refine tc 22 fun K hK => ?_; go_simp; (go_at_call 60; refine (kDrive (HAt.below h (bel_a))).mono ?_; rintro e w6 ⟨rfl, hb6⟩; obtain ⟨hc6, hf6⟩ := bcell hb6; have hz6 := hb6.size; (try simp only [World.size_drew, World.size_alloc, World.size_setCell] at hc6 hf6 hz6); obtain ⟨hk6x0, hj6x0, hq6x0⟩ := kfa hb6 (w.heap.size); obtain ⟨hk6x1, hj6x1, hq6x1⟩ := kfa hb6 (cb); obtain ⟨hk6x2, hj6x2, hq6x2⟩ := kfa hb6 (g0); clear hc6 hf6); (try go_wp2_with fail); refine tr hK (fun hHeld => ?_); clear hK K)
  (refine tc 23 fun K hK => ?_; go_simp; (go_at_call 76; refine (within2_q _ _ _ _ _ (by omega) (by omega) (by with_reducible assumption)).mono ?_; rintro e w7 ⟨rfl, hb7⟩; obtain ⟨hc7, hf7⟩ := bcell hb7; have hz7 := hb7.size; (try simp only [World.size_drew, World.size_alloc, World.size_setCell] at hc7 hf7 hz7); obtain ⟨hk7x0, hj7x0, hq7x0⟩ := kfa hb7 (w.heap.size); obtain ⟨hk7x1, hj7x1, hq7x1⟩ := kfa hb7 (cb); obtain ⟨hk7x2, hj7x2, hq7x2⟩ := kfa hb7 (g0); clear hc7 hf7); (try go_wp2_with fail); refine tr hK (fun hHeld => ?_); clear hK K)
  refine tq 24 hHeld ?_
  refine tq 25 hHeld ?_
  refine tq 26 hHeld ?_
  (refine tc 27 fun K hK => ?_; go_simp; (go_at_call 61; refine (kMass (HAt.below h (bel_a))).mono ?_; rintro e w8 ⟨rfl, hb8⟩; obtain ⟨hc8, hf8⟩ := bcell hb8; have hz8 := hb8.size; (try simp only [World.size_drew, World.size_alloc, World.size_setCell] at hc8 hf8 hz8); obtain ⟨hk8x0, hj8x0, hq8x0⟩ := kfa hb8 (w.heap.size); obtain ⟨hk8x1, hj8x1, hq8x1⟩ := kfa hb8 (cb); obtain ⟨hk8x2, hj8x2, hq8x2⟩ := kfa hb8 (g0); clear hc8 hf8); (try go_wp2_with fail); refine tr hK (fun hHeld => ?_); clear hK K)
  (refine tc 28 fun K hK => ?_; go_simp; (go_at_call 74; refine (upTo_q _ _ _ _ (by with_reducible assumption)).mono ?_; rintro e w9 ⟨rfl, hb9⟩; obtain ⟨hc9, hf9⟩ := bcell hb9; have hz9 := hb9.size; (try simp only [World.size_drew, World.size_alloc, World.size_setCell] at hc9 hf9 hz9); obtain ⟨hk9x0, hj9x0, hq9x0⟩ := kfa hb9 (w.heap.size); obtain ⟨hk9x1, hj9x1, hq9x1⟩ := kfa hb9 (cb); obtain ⟨hk9x2, hj9x2, hq9x2⟩ := kfa hb9 (g0); clear hc9 hf9); (try go_wp2_with fail); refine tr hK (fun hHeld => ?_); clear hK K)
  refine tq 29 hHeld ?_
  refine tq 30 hHeld ?_
  refine tq 31 hHeld ?_
  (refine tc 32 fun K hK => ?_; go_simp; (go_at_call 62; refine (kBounce (HAt.below h (bel_a))).mono ?_; rintro e w10 ⟨rfl, hb10⟩; obtain ⟨hc10, hf10⟩ := bcell hb10; have hz10 := hb10.size; (try simp only [World.size_drew, World.size_alloc, World.size_setCell] at hc10 hf10 hz10); obtain ⟨hk10x0, hj10x0, hq10x0⟩ := kfa hb10 (w.heap.size); obtain ⟨hk10x1, hj10x1, hq10x1⟩ := kfa hb10 (cb); obtain ⟨hk10x2, hj10x2, hq10x2⟩ := kfa hb10 (g0); clear hc10 hf10); (try go_wp2_with fail); refine tr hK (fun hHeld => ?_); clear hK K)
  (refine tc 33 fun K hK => ?_; go_simp; (go_at_call 74; refine (upTo_q _ _ _ _ (by with_reducible assumption)).mono ?_; rintro e w11 ⟨rfl, hb11⟩; obtain ⟨hc11, hf11⟩ := bcell hb11; have hz11 := hb11.size; (try simp only [World.size_drew, World.size_alloc, World.size_setCell] at hc11 hf11 hz11); obtain ⟨hk11x0, hj11x0, hq11x0⟩ := kfa hb11 (w.heap.size); obtain ⟨hk11x1, hj11x1, hq11x1⟩ := kfa hb11 (cb); obtain ⟨hk11x2, hj11x2, hq11x2⟩ := kfa hb11 (g0); clear hc11 hf11); (try go_wp2_with fail); refine tr hK (fun hHeld => ?_); clear hK K)
  refine tq 34 hHeld ?_
  refine tq 35 hHeld ?_
  refine tn 36 hHeld ?_
  refine tn 37 hHeld ?_
  refine tn 38 hHeld ?_
  refine tq 39 hHeld ?_
  refine tq 40 hHeld ?_
  refine tn 41 hHeld ?_
  refine tn 42 hHeld ?_
  refine tn 43 hHeld ?_
  refine tq 44 hHeld ?_
  refine tq 45 hHeld ?_
  refine tn 46 hHeld ?_
  refine tn 47 hHeld ?_
  refine tq 48 hHeld ?_
  refine tq 49 hHeld ?_
  refine wpAnyH_done (by kernel_rfl) ?_ _
  go_wp2_with fail
  go_ret
  exact ⟨rfl, bel_a⟩
end Go.Proofs.YtejminehbnebmaaGreat
