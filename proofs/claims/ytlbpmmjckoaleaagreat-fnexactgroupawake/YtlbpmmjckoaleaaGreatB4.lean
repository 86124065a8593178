/- Whether a body is ok, at any row: where a later one is not met; and all. Bodies that were given, in columns; whether they are ok. Places that are joined: the program's unions. -/
import Derived.Test.YtlbpmmjckoaleaaGreatB3
import Derived.Deep.RegionHeld3
import Derived.Deep.DeepCutAuto
import Derived.Test.YtlbpmmjckoaleaaGreatB2
import Derived.LoopNIn
import Derived.LoopIn
import Derived.OwnWalkIn
import Derived.Test.YtlbpmmjckoaleaaGreatB1
namespace Go.Proofs.YtlbpmmjckoaleaaGreat
open Go.RowKit
set_option linter.unusedVariables false
set_option linter.unusedSimpArgs false

set_option maxHeartbeats 8000000 in
theorem kOk_6 {cb n k : Nat} {V : Nat → Int} {G : Nat → Nat} {w : World} (h : HAt w cb n k V G) (k0 : decide (0 ≤ V 0 ∧ V 0 ≤ 999999999) = true) (k1 : shB (V 1) (V 2) (V 3) = true) (k2 : inB 2560000 (V 4) (V 5) = true) (k3 : inB 20000000 (V 6) (V 7) = true) (k4 : decide (0 ≤ V 8 ∧ V 8 ≤ 1000) = true) (k5 : decide (0 ≤ V 9 ∧ V 9 ≤ 256) = true) (k6 : decide (0 ≤ V 10 ∧ V 10 ≤ 256) = false) :
    Calls Tryz.prog 43 #[hdk cb k] w fun e w' => e = .returned (.bool false) ∧ Below w.heap.size w w' := by
  have hset := cset_map
  have l1 := h.cbl
  have hkn := h.kn
  have hnl := h.nl
  obtain ⟨c0, hc0, hv0, _, l0g, lc0⟩ := h.col 0 (by omega)
  generalize hG0 : G 0 = g0 at hc0 hv0 l0g lc0
  clear hG0
  go_enter Tryz.func43, Tryz.ntmps43
  go_upto_region 1 with fail
  refine wp_region_held_drew (S := fun w' => w'.cell? ⟨w.heap.size, 0, none⟩ = some (.int .i64 (k : Int)) ∧ w'.cell? ⟨w.heap.size, 1, none⟩ = some (.pointer (some ⟨cb, 0, none⟩)) ∧ w'.cell? ⟨cb, 0, none⟩ = some (.slice (some ⟨g0, 0, none⟩) n c0) ∧ w'.cell? ⟨g0, k, none⟩ = some (.int .i64 (V 0))) (by kernel_rfl) ?_ (fun hHeld => ?_)
  · (try dsimp only)
    (first | (go_simp; done) | (go_keep; done))
  refine tq 0 hHeld ?_
  refine tq 1 hHeld ?_
  refine tq 2 hHeld ?_
  refine tq 3 hHeld ?_
  refine tq 4 hHeld ?_
  refine tq 5 hHeld ?_
  refine tq 6 hHeld ?_
  refine tq 7 hHeld ?_
  refine tq 8 hHeld ?_
  (refine tc 9 fun K hK => ?_; go_simp; (go_at_call 64; refine (upTo_q _ _ _ _ (by with_reducible assumption)).mono ?_; rintro e w1 ⟨rfl, hb1⟩; obtain ⟨hc1, hf1⟩ := bcell hb1; have hz1 := hb1.size; (try simp only [World.size_drew, World.size_alloc, World.size_setCell] at hc1 hf1 hz1); obtain ⟨hk1x0, hj1x0, hq1x0⟩ := kfa hb1 (w.heap.size); obtain ⟨hk1x1, hj1x1, hq1x1⟩ := kfa hb1 (cb); obtain ⟨hk1x2, hj1x2, hq1x2⟩ := kfa hb1 (g0); clear hc1 hf1); (try go_wp2_with fail); refine tr hK (fun hHeld => ?_); clear hK K)
  refine tq 10 hHeld ?_
  refine tq 11 hHeld ?_
  (refine tc 12 fun K hK => ?_; go_simp; (go_at_call 66; refine (kShape (HAt.below h (bel_a))).mono ?_; rintro e w2 ⟨rfl, hb2⟩; obtain ⟨hc2, hf2⟩ := bcell hb2; have hz2 := hb2.size; (try simp only [World.size_drew, World.size_alloc, World.size_setCell] at hc2 hf2 hz2); obtain ⟨hk2x0, hj2x0, hq2x0⟩ := kfa hb2 (w.heap.size); obtain ⟨hk2x1, hj2x1, hq2x1⟩ := kfa hb2 (cb); obtain ⟨hk2x2, hj2x2, hq2x2⟩ := kfa hb2 (g0); clear hc2 hf2); (try go_wp2_with fail); refine tr hK (fun hHeld => ?_); clear hK K)
  (refine tc 13 fun K hK => ?_; go_simp; (go_at_call 65; refine (shapeOk_q _ _ _ _ _ (by with_reducible assumption)).mono ?_; rintro e w3 ⟨rfl, hb3⟩; obtain ⟨hc3, hf3⟩ := bcell hb3; have hz3 := hb3.size; (try simp only [World.size_drew, World.size_alloc, World.size_setCell] at hc3 hf3 hz3); obtain ⟨hk3x0, hj3x0, hq3x0⟩ := kfa hb3 (w.heap.size); obtain ⟨hk3x1, hj3x1, hq3x1⟩ := kfa hb3 (cb); obtain ⟨hk3x2, hj3x2, hq3x2⟩ := kfa hb3 (g0); clear hc3 hf3); (try go_wp2_with fail); refine tr hK (fun hHeld => ?_); clear hK K)
  refine tq 14 hHeld ?_
  refine tq 15 hHeld ?_
  refine tq 16 hHeld ?_
  (refine tc 17 fun K hK => ?_; go_simp; (go_at_call 67; refine (kAt (HAt.below h (bel_a))).mono ?_; rintro e w4 ⟨rfl, hb4⟩; obtain ⟨hc4, hf4⟩ := bcell hb4; have hz4 := hb4.size; (try simp only [World.size_drew, World.size_alloc, World.size_setCell] at hc4 hf4 hz4); obtain ⟨hk4x0, hj4x0, hq4x0⟩ := kfa hb4 (w.heap.size); obtain ⟨hk4x1, hj4x1, hq4x1⟩ := kfa hb4 (cb); obtain ⟨hk4x2, hj4x2, hq4x2⟩ := kfa hb4 (g0); clear hc4 hf4); (try go_wp2_with fail); refine tr hK (fun hHeld => ?_); clear hK K)
  (refine tc 18 fun K hK => ?_; go_simp; (go_at_call 68; refine (within2_q _ _ _ _ _ (by omega) (by omega) (by with_reducible assumption)).mono ?_; rintro e w5 ⟨rfl, hb5⟩; obtain ⟨hc5, hf5⟩ := bcell hb5; have hz5 := hb5.size; (try simp only [World.size_drew, World.size_alloc, World.size_setCell] at hc5 hf5 hz5); obtain ⟨hk5x0, hj5x0, hq5x0⟩ := kfa hb5 (w.heap.size); obtain ⟨hk5x1, hj5x1, hq5x1⟩ := kfa hb5 (cb); obtain ⟨hk5x2, hj5x2, hq5x2⟩ := kfa hb5 (g0); clear hc5 hf5); (try go_wp2_with fail); refine tr hK (fun hHeld => ?_); clear hK K)
  refine tq 19 hHeld ?_
  refine tq 20 hHeld ?_
  refine tq 21 hHeld ?_
  (refine tc 22 fun K hK => ?_; go_simp; (go_at_call 69; refine (kDrive (HAt.below h (bel_a))).mono ?_; rintro e w6 ⟨rfl, hb6⟩; obtain ⟨hc6, hf6⟩ := bcell hb6; have hz6 := hb6.size; (try simp only [World.size_drew, World.size_alloc, World.size_setCell] at hc6 hf6 hz6); obtain ⟨hk6x0, hj6x0, hq6x0⟩ := kfa hb6 (w.heap.size); obtain ⟨hk6x1, hj6x1, hq6x1⟩ := kfa hb6 (cb); obtain ⟨hk6x2, hj6x2, hq6x2⟩ := kfa hb6 (g0); clear hc6 hf6); (try go_wp2_with fail); refine tr hK (fun hHeld => ?_); clear hK K)
  (refine tc 23 fun K hK => ?_; go_simp; (go_at_call 68; refine (within2_q _ _ _ _ _ (by omega) (by omega) (by with_reducible assumption)).mono ?_; rintro e w7 ⟨rfl, hb7⟩; obtain ⟨hc7, hf7⟩ := bcell hb7; have hz7 := hb7.size; (try simp only [World.size_drew, World.size_alloc, World.size_setCell] at hc7 hf7 hz7); obtain ⟨hk7x0, hj7x0, hq7x0⟩ := kfa hb7 (w.heap.size); obtain ⟨hk7x1, hj7x1, hq7x1⟩ := kfa hb7 (cb); obtain ⟨hk7x2, hj7x2, hq7x2⟩ := kfa hb7 (g0); clear hc7 hf7); (try go_wp2_with fail); refine tr hK (fun hHeld => ?_); clear hK K)
  refine tq 24 hHeld ?_
  refine tq 25 hHeld ?_
  refine tq 26 hHeld ?_
  (refine tc 27 fun K hK => ?_; go_simp; (go_at_call 70; refine (kMass (HAt.below h (bel_a))).mono ?_; rintro e w8 ⟨rfl, hb8⟩; obtain ⟨hc8, hf8⟩ := bcell hb8; have hz8 := hb8.size; (try simp only [World.size_drew, World.size_alloc, World.size_setCell] at hc8 hf8 hz8); obtain ⟨hk8x0, hj8x0, hq8x0⟩ := kfa hb8 (w.heap.size); obtain ⟨hk8x1, hj8x1, hq8x1⟩ := kfa hb8 (cb); obtain ⟨hk8x2, hj8x2, hq8x2⟩ := kfa hb8 (g0); clear hc8 hf8); (try go_wp2_with fail); refine tr hK (fun hHeld => ?_); clear hK K)
  (refine tc 28 fun K hK => ?_; go_simp; (go_at_call 64; refine (upTo_q _ _ _ _ (by with_reducible assumption)).mono ?_; rintro e w9 ⟨rfl, hb9⟩; obtain ⟨hc9, hf9⟩ := bcell hb9; have hz9 := hb9.size; (try simp only [World.size_drew, World.size_alloc, World.size_setCell] at hc9 hf9 hz9); obtain ⟨hk9x0, hj9x0, hq9x0⟩ := kfa hb9 (w.heap.size); obtain ⟨hk9x1, hj9x1, hq9x1⟩ := kfa hb9 (cb); obtain ⟨hk9x2, hj9x2, hq9x2⟩ := kfa hb9 (g0); clear hc9 hf9); (try go_wp2_with fail); refine tr hK (fun hHeld => ?_); clear hK K)
  refine tq 29 hHeld ?_
  refine tq 30 hHeld ?_
  refine tq 31 hHeld ?_
  (refine tc 32 fun K hK => ?_; go_simp; (go_at_call 71; refine (kBounce (HAt.below h (bel_a))).mono ?_; rintro e w10 ⟨rfl, hb10⟩; obtain ⟨hc10, hf10⟩ := bcell hb10; have hz10 := hb10.size; (try simp only [World.size_drew, World.size_alloc, World.size_setCell] at hc10 hf10 hz10); obtain ⟨hk10x0, hj10x0, hq10x0⟩ := kfa hb10 (w.heap.size); obtain ⟨hk10x1, hj10x1, hq10x1⟩ := kfa hb10 (cb); obtain ⟨hk10x2, hj10x2, hq10x2⟩ := kfa hb10 (g0); clear hc10 hf10); (try go_wp2_with fail); refine tr hK (fun hHeld => ?_); clear hK K)
  (refine tc 33 fun K hK => ?_; go_simp; (go_at_call 64; refine (upTo_q _ _ _ _ (by with_reducible assumption)).mono ?_; rintro e w11 ⟨rfl, hb11⟩; obtain ⟨hc11, hf11⟩ := bcell hb11; have hz11 := hb11.size; (try simp only [World.size_drew, World.size_alloc, World.size_setCell] at hc11 hf11 hz11); obtain ⟨hk11x0, hj11x0, hq11x0⟩ := kfa hb11 (w.heap.size); obtain ⟨hk11x1, hj11x1, hq11x1⟩ := kfa hb11 (cb); obtain ⟨hk11x2, hj11x2, hq11x2⟩ := kfa hb11 (g0); clear hc11 hf11); (try go_wp2_with fail); refine tr hK (fun hHeld => ?_); clear hK K)
  refine tq 34 hHeld ?_
  refine tq 35 hHeld ?_
  refine tq 36 hHeld ?_
  (refine tc 37 fun K hK => ?_; go_simp; (go_at_call 72; refine (kRub (HAt.below h (bel_a))).mono ?_; rintro e w12 ⟨rfl, hb12⟩; obtain ⟨hc12, hf12⟩ := bcell hb12; have hz12 := hb12.size; (try simp only [World.size_drew, World.size_alloc, World.size_setCell] at hc12 hf12 hz12); obtain ⟨hk12x0, hj12x0, hq12x0⟩ := kfa hb12 (w.heap.size); obtain ⟨hk12x1, hj12x1, hq12x1⟩ := kfa hb12 (cb); obtain ⟨hk12x2, hj12x2, hq12x2⟩ := kfa hb12 (g0); clear hc12 hf12); (try go_wp2_with fail); refine tr hK (fun hHeld => ?_); clear hK K)
  (refine tc 38 fun K hK => ?_; go_simp; (go_at_call 64; refine (upTo_q _ _ _ _ (by with_reducible assumption)).mono ?_; rintro e w13 ⟨rfl, hb13⟩; obtain ⟨hc13, hf13⟩ := bcell hb13; have hz13 := hb13.size; (try simp only [World.size_drew, World.size_alloc, World.size_setCell] at hc13 hf13 hz13); obtain ⟨hk13x0, hj13x0, hq13x0⟩ := kfa hb13 (w.heap.size); obtain ⟨hk13x1, hj13x1, hq13x1⟩ := kfa hb13 (cb); obtain ⟨hk13x2, hj13x2, hq13x2⟩ := kfa hb13 (g0); clear hc13 hf13); (try go_wp2_with fail); refine tr hK (fun hHeld => ?_); clear hK K)
  refine tq 39 hHeld ?_
  refine tq 40 hHeld ?_
  refine tn 41 hHeld ?_
  refine tn 42 hHeld ?_
  refine tn 43 hHeld ?_
  refine tq 44 hHeld ?_
  refine tq 45 hHeld ?_
  refine tn 46 hHeld ?_
  refine tn 47 hHeld ?_
  refine tq 48 hHeld ?_
  refine tq 49 hHeld ?_
  refine wpAnyH_done (by kernel_rfl) ?_ _
  go_wp2_with fail
  go_ret
  exact ⟨rfl, bel_a⟩

set_option maxHeartbeats 8000000 in
theorem kOk_7 {cb n k : Nat} {V : Nat → Int} {G : Nat → Nat} {w : World} (h : HAt w cb n k V G) (k0 : decide (0 ≤ V 0 ∧ V 0 ≤ 999999999) = true) (k1 : shB (V 1) (V 2) (V 3) = true) (k2 : inB 2560000 (V 4) (V 5) = true) (k3 : inB 20000000 (V 6) (V 7) = true) (k4 : decide (0 ≤ V 8 ∧ V 8 ≤ 1000) = true) (k5 : decide (0 ≤ V 9 ∧ V 9 ≤ 256) = true) (k6 : decide (0 ≤ V 10 ∧ V 10 ≤ 256) = true) (k7 : decide (0 ≤ V 11 ∧ V 11 ≤ 8) = false) :
    Calls Tryz.prog 43 #[hdk cb k] w fun e w' => e = .returned (.bool false) ∧ Below w.heap.size w w' := by
  have hset := cset_map
  have l1 := h.cbl
  have hkn := h.kn
  have hnl := h.nl
  obtain ⟨c0, hc0, hv0, _, l0g, lc0⟩ := h.col 0 (by omega)
  generalize hG0 : G 0 = g0 at hc0 hv0 l0g lc0
  clear hG0
  go_enter Tryz.func43, Tryz.ntmps43
  go_upto_region 1 with fail
  refine wp_region_held_drew (S := fun w' => w'.cell? ⟨w.heap.size, 0, none⟩ = some (.int .i64 (k : Int)) ∧ w'.cell? ⟨w.heap.size, 1, none⟩ = some (.pointer (some ⟨cb, 0, none⟩)) ∧ w'.cell? ⟨cb, 0, none⟩ = some (.slice (some ⟨g0, 0, none⟩) n c0) ∧ w'.cell? ⟨g0, k, none⟩ = some (.int .i64 (V 0))) (by kernel_rfl) ?_ (fun hHeld => ?_)
  · (try dsimp only)
    (first | (go_simp; done) | (go_keep; done))
  refine tq 0 hHeld ?_
  refine tq 1 hHeld ?_
  refine tq 2 hHeld ?_
  refine tq 3 hHeld ?_
  refine tq 4 hHeld ?_
  refine tq 5 hHeld ?_
  refine tq 6 hHeld ?_
  refine tq 7 hHeld ?_
  refine tq 8 hHeld ?_
  (refine tc 9 fun K hK => ?_; go_simp; (go_at_call 64; refine (upTo_q _ _ _ _ (by with_reducible assumption)).mono ?_; rintro e w1 ⟨rfl, hb1⟩; obtain ⟨hc1, hf1⟩ := bcell hb1; have hz1 := hb1.size; (try simp only [World.size_drew, World.size_alloc, World.size_setCell] at hc1 hf1 hz1); obtain ⟨hk1x0, hj1x0, hq1x0⟩ := kfa hb1 (w.heap.size); obtain ⟨hk1x1, hj1x1, hq1x1⟩ := kfa hb1 (cb); obtain ⟨hk1x2, hj1x2, hq1x2⟩ := kfa hb1 (g0); clear hc1 hf1); (try go_wp2_with fail); refine tr hK (fun hHeld => ?_); clear hK K)
  refine tq 10 hHeld ?_
  refine tq 11 hHeld ?_
  (refine tc 12 fun K hK => ?_; go_simp; (go_at_call 66; refine (kShape (HAt.below h (bel_a))).mono ?_; rintro e w2 ⟨rfl, hb2⟩; obtain ⟨hc2, hf2⟩ := bcell hb2; have hz2 := hb2.size; (try simp only [World.size_drew, World.size_alloc, World.size_setCell] at hc2 hf2 hz2); obtain ⟨hk2x0, hj2x0, hq2x0⟩ := kfa hb2 (w.heap.size); obtain ⟨hk2x1, hj2x1, hq2x1⟩ := kfa hb2 (cb); obtain ⟨hk2x2, hj2x2, hq2x2⟩ := kfa hb2 (g0); clear hc2 hf2); (try go_wp2_with fail); refine tr hK (fun hHeld => ?_); clear hK K)
  (refine tc 13 fun K hK => ?_; go_simp; (go_at_call 65; refine (shapeOk_q _ _ _ _ _ (by with_reducible assumption)).mono ?_; rintro e w3 ⟨rfl, hb3⟩; obtain ⟨hc3, hf3⟩ := bcell hb3; have hz3 := hb3.size; (try simp only [World.size_drew, World.size_alloc, World.size_setCell] at hc3 hf3 hz3); obtain ⟨hk3x0, hj3x0, hq3x0⟩ := kfa hb3 (w.heap.size); obtain ⟨hk3x1, hj3x1, hq3x1⟩ := kfa hb3 (cb); obtain ⟨hk3x2, hj3x2, hq3x2⟩ := kfa hb3 (g0); clear hc3 hf3); (try go_wp2_with fail); refine tr hK (fun hHeld => ?_); clear hK K)
  refine tq 14 hHeld ?_
  refine tq 15 hHeld ?_
  refine tq 16 hHeld ?_
  (refine tc 17 fun K hK => ?_; go_simp; (go_at_call 67; refine (kAt (HAt.below h (bel_a))).mono ?_; rintro e w4 ⟨rfl, hb4⟩; obtain ⟨hc4, hf4⟩ := bcell hb4; have hz4 := hb4.size; (try simp only [World.size_drew, World.size_alloc, World.size_setCell] at hc4 hf4 hz4); obtain ⟨hk4x0, hj4x0, hq4x0⟩ := kfa hb4 (w.heap.size); obtain ⟨hk4x1, hj4x1, hq4x1⟩ := kfa hb4 (cb); obtain ⟨hk4x2, hj4x2, hq4x2⟩ := kfa hb4 (g0); clear hc4 hf4); (try go_wp2_with fail); refine tr hK (fun hHeld => ?_); clear hK K)
  (refine tc 18 fun K hK => ?_; go_simp; (go_at_call 68; refine (within2_q _ _ _ _ _ (by omega) (by omega) (by with_reducible assumption)).mono ?_; rintro e w5 ⟨rfl, hb5⟩; obtain ⟨hc5, hf5⟩ := bcell hb5; have hz5 := hb5.size; (try simp only [World.size_drew, World.size_alloc, World.size_setCell] at hc5 hf5 hz5); obtain ⟨hk5x0, hj5x0, hq5x0⟩ := kfa hb5 (w.heap.size); obtain ⟨hk5x1, hj5x1, hq5x1⟩ := kfa hb5 (cb); obtain ⟨hk5x2, hj5x2, hq5x2⟩ := kfa hb5 (g0); clear hc5 hf5); (try go_wp2_with fail); refine tr hK (fun hHeld => ?_); clear hK K)
  refine tq 19 hHeld ?_
  refine tq 20 hHeld ?_
  refine tq 21 hHeld ?_
  (refine tc 22 fun K hK => ?_; go_simp; (go_at_call 69; refine (kDrive (HAt.below h (bel_a))).mono ?_; rintro e w6 ⟨rfl, hb6⟩; obtain ⟨hc6, hf6⟩ := bcell hb6; have hz6 := hb6.size; (try simp only [World.size_drew, World.size_alloc, World.size_setCell] at hc6 hf6 hz6); obtain ⟨hk6x0, hj6x0, hq6x0⟩ := kfa hb6 (w.heap.size); obtain ⟨hk6x1, hj6x1, hq6x1⟩ := kfa hb6 (cb); obtain ⟨hk6x2, hj6x2, hq6x2⟩ := kfa hb6 (g0); clear hc6 hf6); (try go_wp2_with fail); refine tr hK (fun hHeld => ?_); clear hK K)
  (refine tc 23 fun K hK => ?_; go_simp; (go_at_call 68; refine (within2_q _ _ _ _ _ (by omega) (by omega) (by with_reducible assumption)).mono ?_; rintro e w7 ⟨rfl, hb7⟩; obtain ⟨hc7, hf7⟩ := bcell hb7; have hz7 := hb7.size; (try simp only [World.size_drew, World.size_alloc, World.size_setCell] at hc7 hf7 hz7); obtain ⟨hk7x0, hj7x0, hq7x0⟩ := kfa hb7 (w.heap.size); obtain ⟨hk7x1, hj7x1, hq7x1⟩ := kfa hb7 (cb); obtain ⟨hk7x2, hj7x2, hq7x2⟩ := kfa hb7 (g0); clear hc7 hf7); (try go_wp2_with fail); refine tr hK (fun hHeld => ?_); clear hK K)
  refine tq 24 hHeld ?_
  refine tq 25 hHeld ?_
  refine tq 26 hHeld ?_
  (refine tc 27 fun K hK => ?_; go_simp; (go_at_call 70; refine (kMass (HAt.below h (bel_a))).mono ?_; rintro e w8 ⟨rfl, hb8⟩; obtain ⟨hc8, hf8⟩ := bcell hb8; have hz8 := hb8.size; (try simp only [World.size_drew, World.size_alloc, World.size_setCell] at hc8 hf8 hz8); obtain ⟨hk8x0, hj8x0, hq8x0⟩ := kfa hb8 (w.heap.size); obtain ⟨hk8x1, hj8x1, hq8x1⟩ := kfa hb8 (cb); obtain ⟨hk8x2, hj8x2, hq8x2⟩ := kfa hb8 (g0); clear hc8 hf8); (try go_wp2_with fail); refine tr hK (fun hHeld => ?_); clear hK K)
  (refine tc 28 fun K hK => ?_; go_simp; (go_at_call 64; refine (upTo_q _ _ _ _ (by with_reducible assumption)).mono ?_; rintro e w9 ⟨rfl, hb9⟩; obtain ⟨hc9, hf9⟩ := bcell hb9; have hz9 := hb9.size; (try simp only [World.size_drew, World.size_alloc, World.size_setCell] at hc9 hf9 hz9); obtain ⟨hk9x0, hj9x0, hq9x0⟩ := kfa hb9 (w.heap.size); obtain ⟨hk9x1, hj9x1, hq9x1⟩ := kfa hb9 (cb); obtain ⟨hk9x2, hj9x2, hq9x2⟩ := kfa hb9 (g0); clear hc9 hf9); (try go_wp2_with fail); refine tr hK (fun hHeld => ?_); clear hK K)
  refine tq 29 hHeld ?_
  refine tq 30 hHeld ?_
  refine tq 31 hHeld ?_
  (refine tc 32 fun K hK => ?_; go_simp; (go_at_call 71; refine (kBounce (HAt.below h (bel_a))).mono ?_; rintro e w10 ⟨rfl, hb10⟩; obtain ⟨hc10, hf10⟩ := bcell hb10; have hz10 := hb10.size; (try simp only [World.size_drew, World.size_alloc, World.size_setCell] at hc10 hf10 hz10); obtain ⟨hk10x0, hj10x0, hq10x0⟩ := kfa hb10 (w.heap.size); obtain ⟨hk10x1, hj10x1, hq10x1⟩ := kfa hb10 (cb); obtain ⟨hk10x2, hj10x2, hq10x2⟩ := kfa hb10 (g0); clear hc10 hf10); (try go_wp2_with fail); refine tr hK (fun hHeld => ?_); clear hK K)
  (refine tc 33 fun K hK => ?_; go_simp; (go_at_call 64; refine (upTo_q _ _ _ _ (by with_reducible assumption)).mono ?_; rintro e w11 ⟨rfl, hb11⟩; obtain ⟨hc11, hf11⟩ := bcell hb11; have hz11 := hb11.size; (try simp only [World.size_drew, World.size_alloc, World.size_setCell] at hc11 hf11 hz11); obtain ⟨hk11x0, hj11x0, hq11x0⟩ := kfa hb11 (w.heap.size); obtain ⟨hk11x1, hj11x1, hq11x1⟩ := kfa hb11 (cb); obtain ⟨hk11x2, hj11x2, hq11x2⟩ := kfa hb11 (g0); clear hc11 hf11); (try go_wp2_with fail); refine tr hK (fun hHeld => ?_); clear hK K)
  refine tq 34 hHeld ?_
  refine tq 35 hHeld ?_
  refine tq 36 hHeld ?_
  (refine tc 37 fun K hK => ?_; go_simp; (go_at_call 72; refine (kRub (HAt.below h (bel_a))).mono ?_; rintro e w12 ⟨rfl, hb12⟩; obtain ⟨hc12, hf12⟩ := bcell hb12; have hz12 := hb12.size; (try simp only [World.size_drew, World.size_alloc, World.size_setCell] at hc12 hf12 hz12); obtain ⟨hk12x0, hj12x0, hq12x0⟩ := kfa hb12 (w.heap.size); obtain ⟨hk12x1, hj12x1, hq12x1⟩ := kfa hb12 (cb); obtain ⟨hk12x2, hj12x2, hq12x2⟩ := kfa hb12 (g0); clear hc12 hf12); (try go_wp2_with fail); refine tr hK (fun hHeld => ?_); clear hK K)
  (refine tc 38 fun K hK => ?_; go_simp; (go_at_call 64; refine (upTo_q _ _ _ _ (by with_reducible assumption)).mono ?_; rintro e w13 ⟨rfl, hb13⟩; obtain ⟨hc13, hf13⟩ := bcell hb13; have hz13 := hb13.size; (try simp only [World.size_drew, World.size_alloc, World.size_setCell] at hc13 hf13 hz13); obtain ⟨hk13x0, hj13x0, hq13x0⟩ := kfa hb13 (w.heap.size); obtain ⟨hk13x1, hj13x1, hq13x1⟩ := kfa hb13 (cb); obtain ⟨hk13x2, hj13x2, hq13x2⟩ := kfa hb13 (g0); clear hc13 hf13); (try go_wp2_with fail); refine tr hK (fun hHeld => ?_); clear hK K)
  refine tq 39 hHeld ?_
  refine tq 40 hHeld ?_
  refine tq 41 hHeld ?_
  (refine tc 42 fun K hK => ?_; go_simp; (go_at_call 73; refine (kQuiet (HAt.below h (bel_a))).mono ?_; rintro e w14 ⟨rfl, hb14⟩; obtain ⟨hc14, hf14⟩ := bcell hb14; have hz14 := hb14.size; (try simp only [World.size_drew, World.size_alloc, World.size_setCell] at hc14 hf14 hz14); obtain ⟨hk14x0, hj14x0, hq14x0⟩ := kfa hb14 (w.heap.size); obtain ⟨hk14x1, hj14x1, hq14x1⟩ := kfa hb14 (cb); obtain ⟨hk14x2, hj14x2, hq14x2⟩ := kfa hb14 (g0); clear hc14 hf14); (try go_wp2_with fail); refine tr hK (fun hHeld => ?_); clear hK K)
  (refine tc 43 fun K hK => ?_; go_simp; (go_at_call 64; refine (upTo_q _ _ _ _ (by with_reducible assumption)).mono ?_; rintro e w15 ⟨rfl, hb15⟩; obtain ⟨hc15, hf15⟩ := bcell hb15; have hz15 := hb15.size; (try simp only [World.size_drew, World.size_alloc, World.size_setCell] at hc15 hf15 hz15); obtain ⟨hk15x0, hj15x0, hq15x0⟩ := kfa hb15 (w.heap.size); obtain ⟨hk15x1, hj15x1, hq15x1⟩ := kfa hb15 (cb); obtain ⟨hk15x2, hj15x2, hq15x2⟩ := kfa hb15 (g0); clear hc15 hf15); (try go_wp2_with fail); refine tr hK (fun hHeld => ?_); clear hK K)
  refine tq 44 hHeld ?_
  refine tq 45 hHeld ?_
  refine tn 46 hHeld ?_
  refine tn 47 hHeld ?_
  refine tq 48 hHeld ?_
  refine tq 49 hHeld ?_
  refine wpAnyH_done (by kernel_rfl) ?_ _
  go_wp2_with fail
  go_ret
  exact ⟨rfl, bel_a⟩

set_option maxHeartbeats 8000000 in
theorem kOk_8 {cb n k : Nat} {V : Nat → Int} {G : Nat → Nat} {w : World} (h : HAt w cb n k V G) (k0 : decide (0 ≤ V 0 ∧ V 0 ≤ 999999999) = true) (k1 : shB (V 1) (V 2) (V 3) = true) (k2 : inB 2560000 (V 4) (V 5) = true) (k3 : inB 20000000 (V 6) (V 7) = true) (k4 : decide (0 ≤ V 8 ∧ V 8 ≤ 1000) = true) (k5 : decide (0 ≤ V 9 ∧ V 9 ≤ 256) = true) (k6 : decide (0 ≤ V 10 ∧ V 10 ≤ 256) = true) (k7 : decide (0 ≤ V 11 ∧ V 11 ≤ 8) = true) (k8 : restB V = false) :
    Calls Tryz.prog 43 #[hdk cb k] w fun e w' => e = .returned (.bool false) ∧ Below w.heap.size w w' := by
  have hset := cset_map
  have l1 := h.cbl
  have hkn := h.kn
  have hnl := h.nl
  obtain ⟨c0, hc0, hv0, _, l0g, lc0⟩ := h.col 0 (by omega)
  generalize hG0 : G 0 = g0 at hc0 hv0 l0g lc0
  clear hG0
  go_enter Tryz.func43, Tryz.ntmps43
  go_upto_region 1 with fail
  refine wp_region_held_drew (S := fun w' => w'.cell? ⟨w.heap.size, 0, none⟩ = some (.int .i64 (k : Int)) ∧ w'.cell? ⟨w.heap.size, 1, none⟩ = some (.pointer (some ⟨cb, 0, none⟩)) ∧ w'.cell? ⟨cb, 0, none⟩ = some (.slice (some ⟨g0, 0, none⟩) n c0) ∧ w'.cell? ⟨g0, k, none⟩ = some (.int .i64 (V 0))) (by kernel_rfl) ?_ (fun hHeld => ?_)
  · (try dsimp only)
    (first | (go_simp; done) | (go_keep; done))
  refine tq 0 hHeld ?_
  refine tq 1 hHeld ?_
  refine tq 2 hHeld ?_
  refine tq 3 hHeld ?_
  refine tq 4 hHeld ?_
  refine tq 5 hHeld ?_
  refine tq 6 hHeld ?_
  refine tq 7 hHeld ?_
  refine tq 8 hHeld ?_
  (refine tc 9 fun K hK => ?_; go_simp; (go_at_call 64; refine (upTo_q _ _ _ _ (by with_reducible assumption)).mono ?_; rintro e w1 ⟨rfl, hb1⟩; obtain ⟨hc1, hf1⟩ := bcell hb1; have hz1 := hb1.size; (try simp only [World.size_drew, World.size_alloc, World.size_setCell] at hc1 hf1 hz1); obtain ⟨hk1x0, hj1x0, hq1x0⟩ := kfa hb1 (w.heap.size); obtain ⟨hk1x1, hj1x1, hq1x1⟩ := kfa hb1 (cb); obtain ⟨hk1x2, hj1x2, hq1x2⟩ := kfa hb1 (g0); clear hc1 hf1); (try go_wp2_with fail); refine tr hK (fun hHeld => ?_); clear hK K)
  refine tq 10 hHeld ?_
  refine tq 11 hHeld ?_
  (refine tc 12 fun K hK => ?_; go_simp; (go_at_call 66; refine (kShape (HAt.below h (bel_a))).mono ?_; rintro e w2 ⟨rfl, hb2⟩; obtain ⟨hc2, hf2⟩ := bcell hb2; have hz2 := hb2.size; (try simp only [World.size_drew, World.size_alloc, World.size_setCell] at hc2 hf2 hz2); obtain ⟨hk2x0, hj2x0, hq2x0⟩ := kfa hb2 (w.heap.size); obtain ⟨hk2x1, hj2x1, hq2x1⟩ := kfa hb2 (cb); obtain ⟨hk2x2, hj2x2, hq2x2⟩ := kfa hb2 (g0); clear hc2 hf2); (try go_wp2_with fail); refine tr hK (fun hHeld => ?_); clear hK K)
  (refine tc 13 fun K hK => ?_; go_simp; (go_at_call 65; refine (shapeOk_q _ _ _ _ _ (by with_reducible assumption)).mono ?_; rintro e w3 ⟨rfl, hb3⟩; obtain ⟨hc3, hf3⟩ := bcell hb3; have hz3 := hb3.size; (try simp only [World.size_drew, World.size_alloc, World.size_setCell] at hc3 hf3 hz3); obtain ⟨hk3x0, hj3x0, hq3x0⟩ := kfa hb3 (w.heap.size); obtain ⟨hk3x1, hj3x1, hq3x1⟩ := kfa hb3 (cb); obtain ⟨hk3x2, hj3x2, hq3x2⟩ := kfa hb3 (g0); clear hc3 hf3); (try go_wp2_with fail); refine tr hK (fun hHeld => ?_); clear hK K)
  refine tq 14 hHeld ?_
  refine tq 15 hHeld ?_
  refine tq 16 hHeld ?_
  (refine tc 17 fun K hK => ?_; go_simp; (go_at_call 67; refine (kAt (HAt.below h (bel_a))).mono ?_; rintro e w4 ⟨rfl, hb4⟩; obtain ⟨hc4, hf4⟩ := bcell hb4; have hz4 := hb4.size; (try simp only [World.size_drew, World.size_alloc, World.size_setCell] at hc4 hf4 hz4); obtain ⟨hk4x0, hj4x0, hq4x0⟩ := kfa hb4 (w.heap.size); obtain ⟨hk4x1, hj4x1, hq4x1⟩ := kfa hb4 (cb); obtain ⟨hk4x2, hj4x2, hq4x2⟩ := kfa hb4 (g0); clear hc4 hf4); (try go_wp2_with fail); refine tr hK (fun hHeld => ?_); clear hK K)
  (refine tc 18 fun K hK => ?_; go_simp; (go_at_call 68; refine (within2_q _ _ _ _ _ (by omega) (by omega) (by with_reducible assumption)).mono ?_; rintro e w5 ⟨rfl, hb5⟩; obtain ⟨hc5, hf5⟩ := bcell hb5; have hz5 := hb5.size; (try simp only [World.size_drew, World.size_alloc, World.size_setCell] at hc5 hf5 hz5); obtain ⟨hk5x0, hj5x0, hq5x0⟩ := kfa hb5 (w.heap.size); obtain ⟨hk5x1, hj5x1, hq5x1⟩ := kfa hb5 (cb); obtain ⟨hk5x2, hj5x2, hq5x2⟩ := kfa hb5 (g0); clear hc5 hf5); (try go_wp2_with fail); refine tr hK (fun hHeld => ?_); clear hK K)
  refine tq 19 hHeld ?_
  refine tq 20 hHeld ?_
  refine tq 21 hHeld ?_
  (refine tc 22 fun K hK => ?_; go_simp; (go_at_call 69; refine (kDrive (HAt.below h (bel_a))).mono ?_; rintro e w6 ⟨rfl, hb6⟩; obtain ⟨hc6, hf6⟩ := bcell hb6; have hz6 := hb6.size; (try simp only [World.size_drew, World.size_alloc, World.size_setCell] at hc6 hf6 hz6); obtain ⟨hk6x0, hj6x0, hq6x0⟩ := kfa hb6 (w.heap.size); obtain ⟨hk6x1, hj6x1, hq6x1⟩ := kfa hb6 (cb); obtain ⟨hk6x2, hj6x2, hq6x2⟩ := kfa hb6 (g0); clear hc6 hf6); (try go_wp2_with fail); refine tr hK (fun hHeld => ?_); clear hK K)
  (refine tc 23 fun K hK => ?_; go_simp; (go_at_call 68; refine (within2_q _ _ _ _ _ (by omega) (by omega) (by with_reducible assumption)).mono ?_; rintro e w7 ⟨rfl, hb7⟩; obtain ⟨hc7, hf7⟩ := bcell hb7; have hz7 := hb7.size; (try simp only [World.size_drew, World.size_alloc, World.size_setCell] at hc7 hf7 hz7); obtain ⟨hk7x0, hj7x0, hq7x0⟩ := kfa hb7 (w.heap.size); obtain ⟨hk7x1, hj7x1, hq7x1⟩ := kfa hb7 (cb); obtain ⟨hk7x2, hj7x2, hq7x2⟩ := kfa hb7 (g0); clear hc7 hf7); (try go_wp2_with fail); refine tr hK (fun hHeld => ?_); clear hK K)
  refine tq 24 hHeld ?_
  refine tq 25 hHeld ?_
  refine tq 26 hHeld ?_
  (refine tc 27 fun K hK => ?_; go_simp; (go_at_call 70; refine (kMass (HAt.below h (bel_a))).mono ?_; rintro e w8 ⟨rfl, hb8⟩; obtain ⟨hc8, hf8⟩ := bcell hb8; have hz8 := hb8.size; (try simp only [World.size_drew, World.size_alloc, World.size_setCell] at hc8 hf8 hz8); obtain ⟨hk8x0, hj8x0, hq8x0⟩ := kfa hb8 (w.heap.size); obtain ⟨hk8x1, hj8x1, hq8x1⟩ := kfa hb8 (cb); obtain ⟨hk8x2, hj8x2, hq8x2⟩ := kfa hb8 (g0); clear hc8 hf8); (try go_wp2_with fail); refine tr hK (fun hHeld => ?_); clear hK K)
  (refine tc 28 fun K hK => ?_; go_simp; (go_at_call 64; refine (upTo_q _ _ _ _ (by with_reducible assumption)).mono ?_; rintro e w9 ⟨rfl, hb9⟩; obtain ⟨hc9, hf9⟩ := bcell hb9; have hz9 := hb9.size; (try simp only [World.size_drew, World.size_alloc, World.size_setCell] at hc9 hf9 hz9); obtain ⟨hk9x0, hj9x0, hq9x0⟩ := kfa hb9 (w.heap.size); obtain ⟨hk9x1, hj9x1, hq9x1⟩ := kfa hb9 (cb); obtain ⟨hk9x2, hj9x2, hq9x2⟩ := kfa hb9 (g0); clear hc9 hf9); (try go_wp2_with fail); refine tr hK (fun hHeld => ?_); clear hK K)
  refine tq 29 hHeld ?_
  refine tq 30 hHeld ?_
  refine tq 31 hHeld ?_
  (refine tc 32 fun K hK => ?_; go_simp; (go_at_call 71; refine (kBounce (HAt.below h (bel_a))).mono ?_; rintro e w10 ⟨rfl, hb10⟩; obtain ⟨hc10, hf10⟩ := bcell hb10; have hz10 := hb10.size; (try simp only [World.size_drew, World.size_alloc, World.size_setCell] at hc10 hf10 hz10); obtain ⟨hk10x0, hj10x0, hq10x0⟩ := kfa hb10 (w.heap.size); obtain ⟨hk10x1, hj10x1, hq10x1⟩ := kfa hb10 (cb); obtain ⟨hk10x2, hj10x2, hq10x2⟩ := kfa hb10 (g0); clear hc10 hf10); (try go_wp2_with fail); refine tr hK (fun hHeld => ?_); clear hK K)
  (refine tc 33 fun K hK => ?_; go_simp; (go_at_call 64; refine (upTo_q _ _ _ _ (by with_reducible assumption)).mono ?_; rintro e w11 ⟨rfl, hb11⟩; obtain ⟨hc11, hf11⟩ := bcell hb11; have hz11 := hb11.size; (try simp only [World.size_drew, World.size_alloc, World.size_setCell] at hc11 hf11 hz11); obtain ⟨hk11x0, hj11x0, hq11x0⟩ := kfa hb11 (w.heap.size); obtain ⟨hk11x1, hj11x1, hq11x1⟩ := kfa hb11 (cb); obtain ⟨hk11x2, hj11x2, hq11x2⟩ := kfa hb11 (g0); clear hc11 hf11); (try go_wp2_with fail); refine tr hK (fun hHeld => ?_); clear hK K)
  refine tq 34 hHeld ?_
  refine tq 35 hHeld ?_
  refine tq 36 hHeld ?_
  (refine tc 37 fun K hK => ?_; go_simp; (go_at_call 72; refine (kRub (HAt.below h (bel_a))).mono ?_; rintro e w12 ⟨rfl, hb12⟩; obtain ⟨hc12, hf12⟩ := bcell hb12; have hz12 := hb12.size; (try simp only [World.size_drew, World.size_alloc, World.size_setCell] at hc12 hf12 hz12); obtain ⟨hk12x0, hj12x0, hq12x0⟩ := kfa hb12 (w.heap.size); obtain ⟨hk12x1, hj12x1, hq12x1⟩ := kfa hb12 (cb); obtain ⟨hk12x2, hj12x2, hq12x2⟩ := kfa hb12 (g0); clear hc12 hf12); (try go_wp2_with fail); refine tr hK (fun hHeld => ?_); clear hK K)
  (refine tc 38 fun K hK => ?_; go_simp; (go_at_call 64; refine (upTo_q _ _ _ _ (by with_reducible assumption)).mono ?_; rintro e w13 ⟨rfl, hb13⟩; obtain ⟨hc13, hf13⟩ := bcell hb13; have hz13 := hb13.size; (try simp only [World.size_drew, World.size_alloc, World.size_setCell] at hc13 hf13 hz13); obtain ⟨hk13x0, hj13x0, hq13x0⟩ := kfa hb13 (w.heap.size); obtain ⟨hk13x1, hj13x1, hq13x1⟩ := kfa hb13 (cb); obtain ⟨hk13x2, hj13x2, hq13x2⟩ := kfa hb13 (g0); clear hc13 hf13); (try go_wp2_with fail); refine tr hK (fun hHeld => ?_); clear hK K)
  refine tq 39 hHeld ?_
  refine tq 40 hHeld ?_
  refine tq 41 hHeld ?_
  (refine tc 42 fun K hK => ?_; go_simp; (go_at_call 73; refine (kQuiet (HAt.below h (bel_a))).mono ?_; rintro e w14 ⟨rfl, hb14⟩; obtain ⟨hc14, hf14⟩ := bcell hb14; have hz14 := hb14.size; (try simp only [World.size_drew, World.size_alloc, World.size_setCell] at hc14 hf14 hz14); obtain ⟨hk14x0, hj14x0, hq14x0⟩ := kfa hb14 (w.heap.size); obtain ⟨hk14x1, hj14x1, hq14x1⟩ := kfa hb14 (cb); obtain ⟨hk14x2, hj14x2, hq14x2⟩ := kfa hb14 (g0); clear hc14 hf14); (try go_wp2_with fail); refine tr hK (fun hHeld => ?_); clear hK K)
  (refine tc 43 fun K hK => ?_; go_simp; (go_at_call 64; refine (upTo_q _ _ _ _ (by with_reducible assumption)).mono ?_; rintro e w15 ⟨rfl, hb15⟩; obtain ⟨hc15, hf15⟩ := bcell hb15; have hz15 := hb15.size; (try simp only [World.size_drew, World.size_alloc, World.size_setCell] at hc15 hf15 hz15); obtain ⟨hk15x0, hj15x0, hq15x0⟩ := kfa hb15 (w.heap.size); obtain ⟨hk15x1, hj15x1, hq15x1⟩ := kfa hb15 (cb); obtain ⟨hk15x2, hj15x2, hq15x2⟩ := kfa hb15 (g0); clear hc15 hf15); (try go_wp2_with fail); refine tr hK (fun hHeld => ?_); clear hK K)
  refine tq 44 hHeld ?_
  refine tq 45 hHeld ?_
  refine tq 46 hHeld ?_
  (refine tc 47 fun K hK => ?_; go_simp; (go_at_call 74; refine (kRestOk (HAt.below h (bel_a)) _ (by with_reducible assumption)).mono ?_; rintro e w16 ⟨rfl, hb16⟩; obtain ⟨hc16, hf16⟩ := bcell hb16; have hz16 := hb16.size; (try simp only [World.size_drew, World.size_alloc, World.size_setCell] at hc16 hf16 hz16); obtain ⟨hk16x0, hj16x0, hq16x0⟩ := kfa hb16 (w.heap.size); obtain ⟨hk16x1, hj16x1, hq16x1⟩ := kfa hb16 (cb); obtain ⟨hk16x2, hj16x2, hq16x2⟩ := kfa hb16 (g0); clear hc16 hf16); (try go_wp2_with fail); refine tr hK (fun hHeld => ?_); clear hK K)
  refine tq 48 hHeld ?_
  refine tq 49 hHeld ?_
  refine wpAnyH_done (by kernel_rfl) ?_ _
  go_wp2_with fail
  go_ret
  exact ⟨rfl, bel_a⟩

set_option maxHeartbeats 8000000 in
theorem kOk_9 {cb n k : Nat} {V : Nat → Int} {G : Nat → Nat} {w : World} (h : HAt w cb n k V G) (k0 : decide (0 ≤ V 0 ∧ V 0 ≤ 999999999) = true) (k1 : shB (V 1) (V 2) (V 3) = true) (k2 : inB 2560000 (V 4) (V 5) = true) (k3 : inB 20000000 (V 6) (V 7) = true) (k4 : decide (0 ≤ V 8 ∧ V 8 ≤ 1000) = true) (k5 : decide (0 ≤ V 9 ∧ V 9 ≤ 256) = true) (k6 : decide (0 ≤ V 10 ∧ V 10 ≤ 256) = true) (k7 : decide (0 ≤ V 11 ∧ V 11 ≤ 8) = true) (k8 : restB V = true) :
    Calls Tryz.prog 43 #[hdk cb k] w fun e w' => e = .returned (.bool true) ∧ Below w.heap.size w w' := by
  have hset := cset_map
  have l1 := h.cbl
  have hkn := h.kn
  have hnl := h.nl
  obtain ⟨c0, hc0, hv0, _, l0g, lc0⟩ := h.col 0 (by omega)
  generalize hG0 : G 0 = g0 at hc0 hv0 l0g lc0
  clear hG0
  go_enter Tryz.func43, Tryz.ntmps43
  go_upto_region 1 with fail
  refine wp_region_held_drew (S := fun w' => w'.cell? ⟨w.heap.size, 0, none⟩ = some (.int .i64 (k : Int)) ∧ w'.cell? ⟨w.heap.size, 1, none⟩ = some (.pointer (some ⟨cb, 0, none⟩)) ∧ w'.cell? ⟨cb, 0, none⟩ = some (.slice (some ⟨g0, 0, none⟩) n c0) ∧ w'.cell? ⟨g0, k, none⟩ = some (.int .i64 (V 0))) (by kernel_rfl) ?_ (fun hHeld => ?_)
  · (try dsimp only)
    (first | (go_simp; done) | (go_keep; done))
  refine tq 0 hHeld ?_
  refine tq 1 hHeld ?_
  refine tq 2 hHeld ?_
  refine tq 3 hHeld ?_
  refine tq 4 hHeld ?_
  refine tq 5 hHeld ?_
  refine tq 6 hHeld ?_
  refine tq 7 hHeld ?_
  refine tq 8 hHeld ?_
  (refine tc 9 fun K hK => ?_; go_simp; (go_at_call 64; refine (upTo_q _ _ _ _ (by with_reducible assumption)).mono ?_; rintro e w1 ⟨rfl, hb1⟩; obtain ⟨hc1, hf1⟩ := bcell hb1; have hz1 := hb1.size; (try simp only [World.size_drew, World.size_alloc, World.size_setCell] at hc1 hf1 hz1); obtain ⟨hk1x0, hj1x0, hq1x0⟩ := kfa hb1 (w.heap.size); obtain ⟨hk1x1, hj1x1, hq1x1⟩ := kfa hb1 (cb); obtain ⟨hk1x2, hj1x2, hq1x2⟩ := kfa hb1 (g0); clear hc1 hf1); (try go_wp2_with fail); refine tr hK (fun hHeld => ?_); clear hK K)
  refine tq 10 hHeld ?_
  refine tq 11 hHeld ?_
  (refine tc 12 fun K hK => ?_; go_simp; (go_at_call 66; refine (kShape (HAt.below h (bel_a))).mono ?_; rintro e w2 ⟨rfl, hb2⟩; obtain ⟨hc2, hf2⟩ := bcell hb2; have hz2 := hb2.size; (try simp only [World.size_drew, World.size_alloc, World.size_setCell] at hc2 hf2 hz2); obtain ⟨hk2x0, hj2x0, hq2x0⟩ := kfa hb2 (w.heap.size); obtain ⟨hk2x1, hj2x1, hq2x1⟩ := kfa hb2 (cb); obtain ⟨hk2x2, hj2x2, hq2x2⟩ := kfa hb2 (g0); clear hc2 hf2); (try go_wp2_with fail); refine tr hK (fun hHeld => ?_); clear hK K)
  (refine tc 13 fun K hK => ?_; go_simp; (go_at_call 65; refine (shapeOk_q _ _ _ _ _ (by with_reducible assumption)).mono ?_; rintro e w3 ⟨rfl, hb3⟩; obtain ⟨hc3, hf3⟩ := bcell hb3; have hz3 := hb3.size; (try simp only [World.size_drew, World.size_alloc, World.size_setCell] at hc3 hf3 hz3); obtain ⟨hk3x0, hj3x0, hq3x0⟩ := kfa hb3 (w.heap.size); obtain ⟨hk3x1, hj3x1, hq3x1⟩ := kfa hb3 (cb); obtain ⟨hk3x2, hj3x2, hq3x2⟩ := kfa hb3 (g0); clear hc3 hf3); (try go_wp2_with fail); refine tr hK (fun hHeld => ?_); clear hK K)
  refine tq 14 hHeld ?_
  refine tq 15 hHeld ?_
  refine tq 16 hHeld ?_
  (refine tc 17 fun K hK => ?_; go_simp; (go_at_call 67; refine (kAt (HAt.below h (bel_a))).mono ?_; rintro e w4 ⟨rfl, hb4⟩; obtain ⟨hc4, hf4⟩ := bcell hb4; have hz4 := hb4.size; (try simp only [World.size_drew, World.size_alloc, World.size_setCell] at hc4 hf4 hz4); obtain ⟨hk4x0, hj4x0, hq4x0⟩ := kfa hb4 (w.heap.size); obtain ⟨hk4x1, hj4x1, hq4x1⟩ := kfa hb4 (cb); obtain ⟨hk4x2, hj4x2, hq4x2⟩ := kfa hb4 (g0); clear hc4 hf4); (try go_wp2_with fail); refine tr hK (fun hHeld => ?_); clear hK K)
  (refine tc 18 fun K hK => ?_; go_simp; (go_at_call 68; refine (within2_q _ _ _ _ _ (by omega) (by omega) (by with_reducible assumption)).mono ?_; rintro e w5 ⟨rfl, hb5⟩; obtain ⟨hc5, hf5⟩ := bcell hb5; have hz5 := hb5.size; (try simp only [World.size_drew, World.size_alloc, World.size_setCell] at hc5 hf5 hz5); obtain ⟨hk5x0, hj5x0, hq5x0⟩ := kfa hb5 (w.heap.size); obtain ⟨hk5x1, hj5x1, hq5x1⟩ := kfa hb5 (cb); obtain ⟨hk5x2, hj5x2, hq5x2⟩ := kfa hb5 (g0); clear hc5 hf5); (try go_wp2_with fail); refine tr hK (fun hHeld => ?_); clear hK K)
  refine tq 19 hHeld ?_
  refine tq 20 hHeld ?_
  refine tq 21 hHeld ?_
  (refine tc 22 fun K hK => ?_; go_simp; (go_at_call 69; refine (kDrive (HAt.below h (bel_a))).mono ?_; rintro e w6 ⟨rfl, hb6⟩; obtain ⟨hc6, hf6⟩ := bcell hb6; have hz6 := hb6.size; (try simp only [World.size_drew, World.size_alloc, World.size_setCell] at hc6 hf6 hz6); obtain ⟨hk6x0, hj6x0, hq6x0⟩ := kfa hb6 (w.heap.size); obtain ⟨hk6x1, hj6x1, hq6x1⟩ := kfa hb6 (cb); obtain ⟨hk6x2, hj6x2, hq6x2⟩ := kfa hb6 (g0); clear hc6 hf6); (try go_wp2_with fail); refine tr hK (fun hHeld => ?_); clear hK K)
  (refine tc 23 fun K hK => ?_; go_simp; (go_at_call 68; refine (within2_q _ _ _ _ _ (by omega) (by omega) (by with_reducible assumption)).mono ?_; rintro e w7 ⟨rfl, hb7⟩; obtain ⟨hc7, hf7⟩ := bcell hb7; have hz7 := hb7.size; (try simp only [World.size_drew, World.size_alloc, World.size_setCell] at hc7 hf7 hz7); obtain ⟨hk7x0, hj7x0, hq7x0⟩ := kfa hb7 (w.heap.size); obtain ⟨hk7x1, hj7x1, hq7x1⟩ := kfa hb7 (cb); obtain ⟨hk7x2, hj7x2, hq7x2⟩ := kfa hb7 (g0); clear hc7 hf7); (try go_wp2_with fail); refine tr hK (fun hHeld => ?_); clear hK K)
  refine tq 24 hHeld ?_
  refine tq 25 hHeld ?_
  refine tq 26 hHeld ?_
  (refine tc 27 fun K hK => ?_; go_simp; (go_at_call 70; refine (kMass (HAt.below h (bel_a))).mono ?_; rintro e w8 ⟨rfl, hb8⟩; obtain ⟨hc8, hf8⟩ := bcell hb8; have hz8 := hb8.size; (try simp only [World.size_drew, World.size_alloc, World.size_setCell] at hc8 hf8 hz8); obtain ⟨hk8x0, hj8x0, hq8x0⟩ := kfa hb8 (w.heap.size); obtain ⟨hk8x1, hj8x1, hq8x1⟩ := kfa hb8 (cb); obtain ⟨hk8x2, hj8x2, hq8x2⟩ := kfa hb8 (g0); clear hc8 hf8); (try go_wp2_with fail); refine tr hK (fun hHeld => ?_); clear hK K)
  (refine tc 28 fun K hK => ?_; go_simp; (go_at_call 64; refine (upTo_q _ _ _ _ (by with_reducible assumption)).mono ?_; rintro e w9 ⟨rfl, hb9⟩; obtain ⟨hc9, hf9⟩ := bcell hb9; have hz9 := hb9.size; (try simp only [World.size_drew, World.size_alloc, World.size_setCell] at hc9 hf9 hz9); obtain ⟨hk9x0, hj9x0, hq9x0⟩ := kfa hb9 (w.heap.size); obtain ⟨hk9x1, hj9x1, hq9x1⟩ := kfa hb9 (cb); obtain ⟨hk9x2, hj9x2, hq9x2⟩ := kfa hb9 (g0); clear hc9 hf9); (try go_wp2_with fail); refine tr hK (fun hHeld => ?_); clear hK K)
  refine tq 29 hHeld ?_
  refine tq 30 hHeld ?_
  refine tq 31 hHeld ?_
  (refine tc 32 fun K hK => ?_; go_simp; (go_at_call 71; refine (kBounce (HAt.below h (bel_a))).mono ?_; rintro e w10 ⟨rfl, hb10⟩; obtain ⟨hc10, hf10⟩ := bcell hb10; have hz10 := hb10.size; (try simp only [World.size_drew, World.size_alloc, World.size_setCell] at hc10 hf10 hz10); obtain ⟨hk10x0, hj10x0, hq10x0⟩ := kfa hb10 (w.heap.size); obtain ⟨hk10x1, hj10x1, hq10x1⟩ := kfa hb10 (cb); obtain ⟨hk10x2, hj10x2, hq10x2⟩ := kfa hb10 (g0); clear hc10 hf10); (try go_wp2_with fail); refine tr hK (fun hHeld => ?_); clear hK K)
  (refine tc 33 fun K hK => ?_; go_simp; (go_at_call 64; refine (upTo_q _ _ _ _ (by with_reducible assumption)).mono ?_; rintro e w11 ⟨rfl, hb11⟩; obtain ⟨hc11, hf11⟩ := bcell hb11; have hz11 := hb11.size; (try simp only [World.size_drew, World.size_alloc, World.size_setCell] at hc11 hf11 hz11); obtain ⟨hk11x0, hj11x0, hq11x0⟩ := kfa hb11 (w.heap.size); obtain ⟨hk11x1, hj11x1, hq11x1⟩ := kfa hb11 (cb); obtain ⟨hk11x2, hj11x2, hq11x2⟩ := kfa hb11 (g0); clear hc11 hf11); (try go_wp2_with fail); refine tr hK (fun hHeld => ?_); clear hK K)
  refine tq 34 hHeld ?_
  refine tq 35 hHeld ?_
  refine tq 36 hHeld ?_
  (refine tc 37 fun K hK => ?_; go_simp; (go_at_call 72; refine (kRub (HAt.below h (bel_a))).mono ?_; rintro e w12 ⟨rfl, hb12⟩; obtain ⟨hc12, hf12⟩ := bcell hb12; have hz12 := hb12.size; (try simp only [World.size_drew, World.size_alloc, World.size_setCell] at hc12 hf12 hz12); obtain ⟨hk12x0, hj12x0, hq12x0⟩ := kfa hb12 (w.heap.size); obtain ⟨hk12x1, hj12x1, hq12x1⟩ := kfa hb12 (cb); obtain ⟨hk12x2, hj12x2, hq12x2⟩ := kfa hb12 (g0); clear hc12 hf12); (try go_wp2_with fail); refine tr hK (fun hHeld => ?_); clear hK K)
  (refine tc 38 fun K hK => ?_; go_simp; (go_at_call 64; refine (upTo_q _ _ _ _ (by with_reducible assumption)).mono ?_; rintro e w13 ⟨rfl, hb13⟩; obtain ⟨hc13, hf13⟩ := bcell hb13; have hz13 := hb13.size; (try simp only [World.size_drew, World.size_alloc, World.size_setCell] at hc13 hf13 hz13); obtain ⟨hk13x0, hj13x0, hq13x0⟩ := kfa hb13 (w.heap.size); obtain ⟨hk13x1, hj13x1, hq13x1⟩ := kfa hb13 (cb); obtain ⟨hk13x2, hj13x2, hq13x2⟩ := kfa hb13 (g0); clear hc13 hf13); (try go_wp2_with fail); refine tr hK (fun hHeld => ?_); clear hK K)
  refine tq 39 hHeld ?_
  refine tq 40 hHeld ?_
  refine tq 41 hHeld ?_
  (refine tc 42 fun K hK => ?_; go_simp; (go_at_call 73; refine (kQuiet (HAt.below h (bel_a))).mono ?_; rintro e w14 ⟨rfl, hb14⟩; obtain ⟨hc14, hf14⟩ := bcell hb14; have hz14 := hb14.size; (try simp only [World.size_drew, World.size_alloc, World.size_setCell] at hc14 hf14 hz14); obtain ⟨hk14x0, hj14x0, hq14x0⟩ := kfa hb14 (w.heap.size); obtain ⟨hk14x1, hj14x1, hq14x1⟩ := kfa hb14 (cb); obtain ⟨hk14x2, hj14x2, hq14x2⟩ := kfa hb14 (g0); clear hc14 hf14); (try go_wp2_with fail); refine tr hK (fun hHeld => ?_); clear hK K)
  (refine tc 43 fun K hK => ?_; go_simp; (go_at_call 64; refine (upTo_q _ _ _ _ (by with_reducible assumption)).mono ?_; rintro e w15 ⟨rfl, hb15⟩; obtain ⟨hc15, hf15⟩ := bcell hb15; have hz15 := hb15.size; (try simp only [World.size_drew, World.size_alloc, World.size_setCell] at hc15 hf15 hz15); obtain ⟨hk15x0, hj15x0, hq15x0⟩ := kfa hb15 (w.heap.size); obtain ⟨hk15x1, hj15x1, hq15x1⟩ := kfa hb15 (cb); obtain ⟨hk15x2, hj15x2, hq15x2⟩ := kfa hb15 (g0); clear hc15 hf15); (try go_wp2_with fail); refine tr hK (fun hHeld => ?_); clear hK K)
  refine tq 44 hHeld ?_
  refine tq 45 hHeld ?_
  refine tq 46 hHeld ?_
  (refine tc 47 fun K hK => ?_; go_simp; (go_at_call 74; refine (kRestOk (HAt.below h (bel_a)) _ (by with_reducible assumption)).mono ?_; rintro e w16 ⟨rfl, hb16⟩; obtain ⟨hc16, hf16⟩ := bcell hb16; have hz16 := hb16.size; (try simp only [World.size_drew, World.size_alloc, World.size_setCell] at hc16 hf16 hz16); obtain ⟨hk16x0, hj16x0, hq16x0⟩ := kfa hb16 (w.heap.size); obtain ⟨hk16x1, hj16x1, hq16x1⟩ := kfa hb16 (cb); obtain ⟨hk16x2, hj16x2, hq16x2⟩ := kfa hb16 (g0); clear hc16 hf16); (try go_wp2_with fail); refine tr hK (fun hHeld => ?_); clear hK K)
  refine tq 48 hHeld ?_
  refine tq 49 hHeld ?_
  refine wpAnyH_done (by kernel_rfl) ?_ _
  go_wp2_with fail
  go_ret
  exact ⟨rfl, bel_a⟩

theorem kOk_any {cb n k : Nat} {V : Nat → Int} {G : Nat → Nat} {w : World} (h : HAt w cb n k V G) :
    Calls Tryz.prog 43 #[hdk cb k] w fun e w' => e = .returned (.bool (bodyB V)) ∧ Below w.heap.size w w' := by
  unfold bodyB
  cases k0 : decide (0 ≤ V 0 ∧ V 0 ≤ 999999999) with
  | false => exact kOk_0 h k0
  | true =>
    cases k1 : shB (V 1) (V 2) (V 3) with
    | false => exact kOk_1 h k0 k1
    | true =>
      cases k2 : inB 2560000 (V 4) (V 5) with
      | false => exact kOk_2 h k0 k1 k2
      | true =>
        cases k3 : inB 20000000 (V 6) (V 7) with
        | false => exact kOk_3 h k0 k1 k2 k3
        | true =>
          cases k4 : decide (0 ≤ V 8 ∧ V 8 ≤ 1000) with
          | false => exact kOk_4 h k0 k1 k2 k3 k4
          | true =>
            cases k5 : decide (0 ≤ V 9 ∧ V 9 ≤ 256) with
            | false => exact kOk_5 h k0 k1 k2 k3 k4 k5
            | true =>
              cases k6 : decide (0 ≤ V 10 ∧ V 10 ≤ 256) with
              | false => exact kOk_6 h k0 k1 k2 k3 k4 k5 k6
              | true =>
                cases k7 : decide (0 ≤ V 11 ∧ V 11 ≤ 8) with
                | false => exact kOk_7 h k0 k1 k2 k3 k4 k5 k6 k7
                | true =>
                  cases k8 : restB V with
                  | false => exact kOk_8 h k0 k1 k2 k3 k4 k5 k6 k7 k8
                  | true =>
                    exact kOk_9 h k0 k1 k2 k3 k4 k5 k6 k7 k8
theorem kOk_q {cb n k : Nat} {V : Nat → Int} {G : Nat → Nat} {w : World} (h : HAt w cb n k V G) (b : Bool) (e : bodyB V = b) :
    Calls Tryz.prog 43 #[hdk cb k] w fun e w' => e = .returned (.bool b) ∧ Below w.heap.size w w' := by
  subst e; exact kOk_any h
end Go.Proofs.YtlbpmmjckoaleaaGreat
namespace Go.Proofs.YtlbpmmjckoaleaaGreat
open Go.RowKit
set_option linter.unusedVariables false
set_option linter.unusedSimpArgs false

/-- the body of place k is ok, and behind the one ahead of it -/
def stepBB (U : Nat → Int) (k : Nat) : Bool := bodyB (fun j => U (k * 12 + j)) && (decide (k = 0) || decide (U ((k - 1) * 12) < U (k * 12)))
def allBB (U : Nat → Int) : Nat → Bool
  | 0 => true
  | k + 1 => allBB U k && stepBB U k
theorem allBB_no {U : Nat → Int} {k : Nat} (h : stepBB U k = false) : ∀ n, k < n → allBB U n = false
  | 0, l => absurd l (Nat.not_lt_zero _)
  | n + 1, l => by
    unfold allBB
    rcases Nat.lt_succ_iff_lt_or_eq.1 l with l | rfl
    · rw [allBB_no h n l]; rfl
    · rw [h, Bool.and_false]
def bodsB (n : Nat) (U : Nat → Int) : Bool := decide (n ≤ 12) && allBB U n
/-- what columnsOf leaves -/
def CsPost (n : Nat) (U : Nat → Int) (w : World) (e : Ending) (w' : World) : Prop :=
  Below w.heap.size w w' ∧ ((bodsB n U = true ∧ ∃ cb S, e = .returned (.tuple #[.pointer (some ⟨cb, 0, none⟩), .bool true]) ∧ w.heap.size ≤ cb ∧ Cs w' cb n (colOf U) S) ∨
    (bodsB n U = false ∧ e = .returned (.tuple #[.pointer none, .bool false])))
set_option maxRecDepth 20000 in
set_option maxHeartbeats 4000000 in
theorem columnsOf_any (a : Option Addr) (n c : Nat) (U : Nat → Int) (w : World) (h : Flat w a (n * 12) U) (hn : n ≤ 1048576) :
    Calls Tryz.prog 27 #[.slice a n c] w (CsPost n U w) := by
  have hset := cset_map
  by_cases h12 : n ≤ 12
  · have h12' : ¬ (12 : Int) < (n : Int) := by omega
    refine calls_of_wp_marks Tryz.func27 rfl ?_
    simp only [Tryz.ntmps27, List.size_toArray, List.length_cons, List.length_nil, Nat.reduceAdd, Nat.reduceSub, Array.replicate_succ, Array.replicate_zero, List.push_toArray, List.append_toArray, List.nil_append, List.cons_append]
    go_wp2_with (go_at_call 41; refine (rowsOf_any a n c U _ (h.below (bel_a)) (by omega)).mono ?_; rintro e w1 ⟨rfl, hb1, S, hC⟩)
    have hz1 := hb1.size
    simp only [World.size_alloc] at hz1
    have hB : Below w.heap.size w (w1.alloc (Obj.cells #[.pointer (some ⟨w.heap.size + 1 + 1, 0, none⟩)] 54)) := ((bel_a : Below w.heap.size w w1)).alloc (by omega) _
    have hw1 : Below w1.heap.size w1 (w1.alloc (Obj.cells #[.pointer (some ⟨w.heap.size + 1 + 1, 0, none⟩)] 54)) := (Below.refl _ _).alloc (Nat.le_refl _) _
    have hC2 := hC.below hw1
    simp only [World.size_alloc] at hC2
    have r2 : (w1.alloc (Obj.cells #[.pointer (some ⟨w.heap.size + 1 + 1, 0, none⟩)] 54)).cell? ⟨w.heap.size, 0, none⟩ = some (.pointer none) := (hw1.cell (p := ⟨w.heap.size, 0, none⟩) (by simp; omega)).trans ((hb1.cell (p := ⟨w.heap.size, 0, none⟩) (by simp; omega)).trans (by go_simp))
    have r3 : (w1.alloc (Obj.cells #[.pointer (some ⟨w.heap.size + 1 + 1, 0, none⟩)] 54)).cell? ⟨w.heap.size + 1, 0, none⟩ = some (.bool false) := (hw1.cell (p := ⟨w.heap.size + 1, 0, none⟩) (by simp; omega)).trans ((hb1.cell (p := ⟨w.heap.size + 1, 0, none⟩) (by simp)).trans (by go_simp))
    have f2 : (w1.alloc (Obj.cells #[.pointer (some ⟨w.heap.size + 1 + 1, 0, none⟩)] 54)).frozen? ⟨w.heap.size, 0, none⟩ = false := (hw1.frozen (p := ⟨w.heap.size, 0, none⟩) (by simp; omega)).trans ((hb1.frozen (p := ⟨w.heap.size, 0, none⟩) (by simp; omega)).trans (by go_simp))
    have f3 : (w1.alloc (Obj.cells #[.pointer (some ⟨w.heap.size + 1 + 1, 0, none⟩)] 54)).frozen? ⟨w.heap.size + 1, 0, none⟩ = false := (hw1.frozen (p := ⟨w.heap.size + 1, 0, none⟩) (by simp; omega)).trans ((hb1.frozen (p := ⟨w.heap.size + 1, 0, none⟩) (by simp)).trans (by go_simp))
    have r4 : (w1.alloc (Obj.cells #[.pointer (some ⟨w.heap.size + 1 + 1, 0, none⟩)] 54)).cell? ⟨w1.heap.size, 0, none⟩ = some (.pointer (some ⟨w.heap.size + 1 + 1, 0, none⟩)) := by go_simp
    have hz2 : w1.heap.size < (w1.alloc (Obj.cells #[.pointer (some ⟨w.heap.size + 1 + 1, 0, none⟩)] 54)).heap.size := by simp
    generalize (w1.alloc (Obj.cells #[.pointer (some ⟨w.heap.size + 1 + 1, 0, none⟩)] 54)) = w2 at hB hC2 r2 r3 f2 f3 r4 hz2 ⊢
    clear hw1 hC hb1
    have hcl := hC2.lt
    have hcb0 : w.heap.size + 1 < w.heap.size + 1 + 1 := by omega
    generalize w.heap.size + 1 + 1 = cb at hC2 r4 hcl hcb0 ⊢
    generalize hbv : w1.heap.size = bv at hz1 hz2 r4 ⊢
    clear hbv
    obtain ⟨ad, cc, hS0⟩ := (hC2.own 0 (by omega)).is
    have hd0 := hC2.hd 0 (by omega)
    rw [hS0] at hd0
    refine wp_range_out (gf := 42) (bound := #[.pointer (some ⟨cb, 0, none⟩)]) rfl each_enters (each_it cb n _ _ w2 hcl hd0 hn) (fun _ => rfl) (fun k W => Below w2.heap.size w2 W ∧ allBB U k = true)
      (fun c W => c = .ret ∧ Below w.heap.size w W ∧ W.cell? ⟨w.heap.size, 0, none⟩ = some (.pointer none) ∧ W.cell? ⟨w.heap.size + 1, 0, none⟩ = some (.bool false) ∧ bodsB n U = false) ?_ ?_ ⟨Below.refl _ _, rfl⟩ ?round ?done ?stop
    · rintro k A B ⟨h1, h2⟩ hs
      exact ⟨h1.trans hs.below, h2⟩
    · rintro c A B ⟨h1, h2, h3, h4, h5⟩ hs
      exact ⟨h1, h2.trans (hs.below.mono hB.size), hs.cell h3, hs.cell h4, h5⟩
    case round =>
      rintro l k W hl ⟨hbW, hall⟩ hk
      simp only [List.zip_toArray, List.zip_cons_cons, List.zip_nil_left, List.foldl_toArray, List.foldl_cons, List.foldl_nil, List.setIfInBounds_toArray, List.set_cons_succ, List.set_cons_zero]
      refine wpIn_region_plain (by rintro ⟨_, _, h⟩; exact h) (by kernel_rfl) ?_
      go_wp2
      refine ⟨(KeepsOthers.alloc _ _).from _, fun W2 hS hr => ?_⟩
      have hbX : Below w2.heap.size w2 (W.alloc (Obj.cells #[.int .i64 (k : Int), .pointer (some ⟨cb, 0, none⟩)] 80)) := hbW.alloc hbW.size _
      have hb2 := hbX.trans hS.below
      have hzW := hbW.size
      have v0 : W2.cell? ⟨W.heap.size, 0, none⟩ = some (.int .i64 (k : Int)) := hS.cell (by go_simp)
      have v1 : W2.cell? ⟨W.heap.size, 1, none⟩ = some (.pointer (some ⟨cb, 0, none⟩)) := hS.cell (by go_simp)
      have r4' : W2.cell? ⟨bv, 0, none⟩ = some (.pointer (some ⟨cb, 0, none⟩)) := (hb2.cell (p := ⟨bv, 0, none⟩) hz2).trans r4
      have hC3 := hC2.below hb2
      have hz3 : W.heap.size < W2.heap.size := by have := hS.size; simp at this; omega
      clear hS hbX hr
      have hh := hC3.hat hk (by omega)
      obtain ⟨g0, c0, e0, hd3, hv3, _, hg3, hcg⟩ := hC3.at (i := 0) (k := k) (by omega) hk
      refine wpIn_block ?_
      refine wpIn_seq_k fun K hK => ?_
      cases hi : bodyB (fun i => colOf U i k) with
      | false =>
        have hno : Shut (stepBB U k = false) := by show stepBB U k = false; rw [stepBB, show (fun j => U (k * 12 + j)) = (fun i => colOf U i k) from rfl, hi]; rfl
        refine wpIn_region_held_drew (S := fun w' => w'.cell? ⟨W.heap.size, 0, none⟩ = some (.int .i64 (k : Int)) ∧ w'.cell? ⟨W.heap.size, 1, none⟩ = some (.pointer (some ⟨cb, 0, none⟩)) ∧ w'.cell? ⟨bv, 0, none⟩ = some (.pointer (some ⟨cb, 0, none⟩)) ∧ w'.cell? ⟨cb, 0, none⟩ = some (.slice (some ⟨g0, 0, none⟩) n c0) ∧ w'.cell? ⟨g0, k, none⟩ = some (.int .i64 (colOf U 0 k))) (by kernel_rfl) (by rintro ⟨_, _, h⟩; exact h) (by kernel_rfl) ?_ (fun hHeld => ?_)
        · (try dsimp only)
          (first | (go_simp; done) | (go_keep; done))
        refine tq 0 hHeld ?_
        (refine tc 1 fun K hK => ?_; go_simp; (go_at_call 43; refine (kOk_q (HAt.below hh (Below.drew (Below.refl _ _))) _ hi).mono ?_; rintro e w5 ⟨rfl, hb5⟩; obtain ⟨hc5, hf5⟩ := bcell hb5; have hz5 := hb5.size; (try simp only [World.size_drew, World.size_alloc, World.size_setCell] at hc5 hf5 hz5); have hk1 := fun o => hc5 W.heap.size o (by omega); have hk2 := fun o => hc5 bv o (by omega); have hk3 := fun o => hc5 cb o (by omega); have hk4 := fun o => hc5 g0 o (by omega); clear hc5 hf5); (try go_wp2_with fail); refine tr hK (fun hHeld => ?_); clear hK K)
        refine tq 2 hHeld ?_
        refine tq 3 hHeld ?_
        refine tn 4 hHeld ?_
        refine tn 5 hHeld ?_
        refine tn 6 hHeld ?_
        refine tn 7 hHeld ?_
        refine tn 8 hHeld ?_
        refine tn 9 hHeld ?_
        refine tn 10 hHeld ?_
        refine tn 11 hHeld ?_
        refine tn 12 hHeld ?_
        refine tn 13 hHeld ?_
        refine tn 14 hHeld ?_
        refine tn 15 hHeld ?_
        refine tn 16 hHeld ?_
        refine tn 17 hHeld ?_
        refine tn 18 hHeld ?_
        refine tn 19 hHeld ?_
        refine tn 20 hHeld ?_
        refine tn 21 hHeld ?_
        refine tn 22 hHeld ?_
        refine tn 23 hHeld ?_
        refine tn 24 hHeld ?_
        refine tn 25 hHeld ?_
        refine tn 26 hHeld ?_
        refine tq 27 hHeld ?_
        refine wpAnyH_done (by kernel_rfl) ?_ _
        refine hK _ _ ?_
        refine wpIn_cond_true rfl ?_
        refine wpIn_seq_k fun K2 hK2 => ?_
        refine wpIn_region_plain (by rintro ⟨_, _, h⟩; exact h) (by kernel_rfl) ?_
        have hb25 := hb2.trans (hb5.ofDr.mono hb2.size)
        have hBB : Below w.heap.size w w5 := hB.trans (hb25.mono hB.size)
        have q2 : w5.cell? ⟨w.heap.size, 0, none⟩ = some (.pointer none) := (hb25.cell (p := ⟨w.heap.size, 0, none⟩) (by simp; omega)).trans r2
        have q3 : w5.cell? ⟨w.heap.size + 1, 0, none⟩ = some (.bool false) := (hb25.cell (p := ⟨w.heap.size + 1, 0, none⟩) (by simp; omega)).trans r3
        have p2 : w5.frozen? ⟨w.heap.size, 0, none⟩ = false := (hb25.frozen (p := ⟨w.heap.size, 0, none⟩) (by simp; omega)).trans f2
        have p3 : w5.frozen? ⟨w.heap.size + 1, 0, none⟩ = false := (hb25.frozen (p := ⟨w.heap.size + 1, 0, none⟩) (by simp; omega)).trans f3
        go_wp2
        refine wpIn_ret ?_
        exact ⟨(KeepsFrom.of_below hb5.ofDr).trans (((KeepsOthers.setCell _ _ _).trans (KeepsOthers.setCell _ _ _)).from _), rfl, (hBB.setCell (by simp) _).setCell (by simp) _, by go_simp, by go_simp, by rw [bodsB, allBB_no hno.out n hk, Bool.and_false]⟩
      | true =>
        by_cases hk0 : 0 < k
        · have hd0' : decide (0 < k) = true := decide_eq_true hk0
          obtain ⟨j, hj⟩ : ∃ j, j + 1 = k := ⟨k - 1, by omega⟩
          have hj' : (k : Int) - 1 = (j : Int) := by omega
          have hjn : j < n := by omega
          have hwj : IntKind.i64.wrap (j : Int) = (j : Int) := i64w (by omega)
          obtain ⟨g0', c0', e0', _, p3, _⟩ := hC3.at (i := 0) (k := j) (by omega) hjn
          rw [e0] at e0'
          simp only [Value.slice.injEq, Option.some.injEq, Addr.mk.injEq] at e0'
          obtain ⟨⟨rfl, _⟩, _, rfl⟩ := e0'
          have HJ : Shut (j + 1 = k) := hj
          clear hj
          by_cases hge : colOf U 0 j < colOf U 0 k
          · have hdg : decide (colOf U 0 k ≤ colOf U 0 j) = false := decide_eq_false (by omega)
            have hyes : Shut (stepBB U k = true) := by show stepBB U k = true; rw [stepBB, show (fun j => U (k * 12 + j)) = (fun i => colOf U i k) from rfl, hi, show k - 1 = j from by have := HJ.out; omega]; simp only [Bool.true_and]; rw [show U (j * 12) = colOf U 0 j from rfl, show U (k * 12) = colOf U 0 k from rfl]; simp [hge]
            refine wpIn_region_held_drew (S := fun w' => w'.cell? ⟨W.heap.size, 0, none⟩ = some (.int .i64 (k : Int)) ∧ w'.cell? ⟨W.heap.size, 1, none⟩ = some (.pointer (some ⟨cb, 0, none⟩)) ∧ w'.cell? ⟨bv, 0, none⟩ = some (.pointer (some ⟨cb, 0, none⟩)) ∧ w'.cell? ⟨cb, 0, none⟩ = some (.slice (some ⟨g0, 0, none⟩) n c0) ∧ w'.cell? ⟨g0, k, none⟩ = some (.int .i64 (colOf U 0 k)) ∧ w'.cell? ⟨g0, j, none⟩ = some (.int .i64 (colOf U 0 j))) (by kernel_rfl) (by rintro ⟨_, _, h⟩; exact h) (by kernel_rfl) ?_ (fun hHeld => ?_)
            · (try dsimp only)
              (first | (go_simp; done) | (go_keep; done))
            refine tq 0 hHeld ?_
            (refine tc 1 fun K hK => ?_; go_simp; (go_at_call 43; refine (kOk_q (HAt.below hh (Below.drew (Below.refl _ _))) _ hi).mono ?_; rintro e w5 ⟨rfl, hb5⟩; obtain ⟨hc5, hf5⟩ := bcell hb5; have hz5 := hb5.size; (try simp only [World.size_drew, World.size_alloc, World.size_setCell] at hc5 hf5 hz5); have hk1 := fun o => hc5 W.heap.size o (by omega); have hk2 := fun o => hc5 bv o (by omega); have hk3 := fun o => hc5 cb o (by omega); have hk4 := fun o => hc5 g0 o (by omega); clear hc5 hf5); (try go_wp2_with fail); refine tr hK (fun hHeld => ?_); clear hK K)
            refine tq 2 hHeld ?_
            refine tq 3 hHeld ?_
            refine tq 4 hHeld ?_
            refine tq 5 hHeld ?_
            refine tq 6 hHeld ?_
            refine tq 7 hHeld ?_
            refine tq 8 hHeld ?_
            refine tq 9 hHeld ?_
            refine tq 10 hHeld ?_
            refine tq 11 hHeld ?_
            refine tq 12 hHeld ?_
            refine tq 13 hHeld ?_
            refine tq 14 hHeld ?_
            refine tq 15 hHeld ?_
            refine tq 16 hHeld ?_
            refine tq 17 hHeld ?_
            refine tq 18 hHeld ?_
            refine tq 19 hHeld ?_
            refine tq 20 hHeld ?_
            refine tq 21 hHeld ?_
            refine tq 22 hHeld ?_
            refine tq 23 hHeld ?_
            refine tq 24 hHeld ?_
            refine tq 25 hHeld ?_
            refine tq 26 hHeld ?_
            refine tq 27 hHeld ?_
            refine wpAnyH_done (by kernel_rfl) ?_ _
            refine hK _ _ ?_
            refine wpIn_cond_false rfl ?_
            refine wpIn_skip ?_
            exact ⟨KeepsFrom.of_below hb5.ofDr, hb2.trans (hb5.ofDr.mono hb2.size), by rw [allBB, hall, hyes.out]; rfl⟩
          · have hdg : decide (colOf U 0 k ≤ colOf U 0 j) = true := decide_eq_true (by omega)
            have hno : Shut (stepBB U k = false) := by show stepBB U k = false; rw [stepBB, show k - 1 = j from by have := HJ.out; omega]; have := HJ.out; rw [show U (j * 12) = colOf U 0 j from rfl, show U (k * 12) = colOf U 0 k from rfl]; simp [hge]; omega
            refine wpIn_region_held_drew (S := fun w' => w'.cell? ⟨W.heap.size, 0, none⟩ = some (.int .i64 (k : Int)) ∧ w'.cell? ⟨W.heap.size, 1, none⟩ = some (.pointer (some ⟨cb, 0, none⟩)) ∧ w'.cell? ⟨bv, 0, none⟩ = some (.pointer (some ⟨cb, 0, none⟩)) ∧ w'.cell? ⟨cb, 0, none⟩ = some (.slice (some ⟨g0, 0, none⟩) n c0) ∧ w'.cell? ⟨g0, k, none⟩ = some (.int .i64 (colOf U 0 k)) ∧ w'.cell? ⟨g0, j, none⟩ = some (.int .i64 (colOf U 0 j))) (by kernel_rfl) (by rintro ⟨_, _, h⟩; exact h) (by kernel_rfl) ?_ (fun hHeld => ?_)
            · (try dsimp only)
              (first | (go_simp; done) | (go_keep; done))
            refine tq 0 hHeld ?_
            (refine tc 1 fun K hK => ?_; go_simp; (go_at_call 43; refine (kOk_q (HAt.below hh (Below.drew (Below.refl _ _))) _ hi).mono ?_; rintro e w5 ⟨rfl, hb5⟩; obtain ⟨hc5, hf5⟩ := bcell hb5; have hz5 := hb5.size; (try simp only [World.size_drew, World.size_alloc, World.size_setCell] at hc5 hf5 hz5); have hk1 := fun o => hc5 W.heap.size o (by omega); have hk2 := fun o => hc5 bv o (by omega); have hk3 := fun o => hc5 cb o (by omega); have hk4 := fun o => hc5 g0 o (by omega); clear hc5 hf5); (try go_wp2_with fail); refine tr hK (fun hHeld => ?_); clear hK K)
            refine tq 2 hHeld ?_
            refine tq 3 hHeld ?_
            refine tq 4 hHeld ?_
            refine tq 5 hHeld ?_
            refine tq 6 hHeld ?_
            refine tq 7 hHeld ?_
            refine tq 8 hHeld ?_
            refine tq 9 hHeld ?_
            refine tq 10 hHeld ?_
            refine tq 11 hHeld ?_
            refine tq 12 hHeld ?_
            refine tq 13 hHeld ?_
            refine tq 14 hHeld ?_
            refine tq 15 hHeld ?_
            refine tq 16 hHeld ?_
            refine tq 17 hHeld ?_
            refine tq 18 hHeld ?_
            refine tq 19 hHeld ?_
            refine tq 20 hHeld ?_
            refine tq 21 hHeld ?_
            refine tq 22 hHeld ?_
            refine tq 23 hHeld ?_
            refine tq 24 hHeld ?_
            refine tq 25 hHeld ?_
            refine tq 26 hHeld ?_
            refine tq 27 hHeld ?_
            refine wpAnyH_done (by kernel_rfl) ?_ _
            refine hK _ _ ?_
            refine wpIn_cond_true rfl ?_
            refine wpIn_seq_k fun K2 hK2 => ?_
            refine wpIn_region_plain (by rintro ⟨_, _, h⟩; exact h) (by kernel_rfl) ?_
            have hb25 := hb2.trans (hb5.ofDr.mono hb2.size)
            have hBB : Below w.heap.size w w5 := hB.trans (hb25.mono hB.size)
            have q2 : w5.cell? ⟨w.heap.size, 0, none⟩ = some (.pointer none) := (hb25.cell (p := ⟨w.heap.size, 0, none⟩) (by simp; omega)).trans r2
            have q3 : w5.cell? ⟨w.heap.size + 1, 0, none⟩ = some (.bool false) := (hb25.cell (p := ⟨w.heap.size + 1, 0, none⟩) (by simp; omega)).trans r3
            have p2 : w5.frozen? ⟨w.heap.size, 0, none⟩ = false := (hb25.frozen (p := ⟨w.heap.size, 0, none⟩) (by simp; omega)).trans f2
            have p3 : w5.frozen? ⟨w.heap.size + 1, 0, none⟩ = false := (hb25.frozen (p := ⟨w.heap.size + 1, 0, none⟩) (by simp; omega)).trans f3
            go_wp2
            refine wpIn_ret ?_
            exact ⟨(KeepsFrom.of_below hb5.ofDr).trans (((KeepsOthers.setCell _ _ _).trans (KeepsOthers.setCell _ _ _)).from _), rfl, (hBB.setCell (by simp) _).setCell (by simp) _, by go_simp, by go_simp, by rw [bodsB, allBB_no hno.out n hk, Bool.and_false]⟩
        · have hd0' : decide (0 < k) = false := decide_eq_false hk0
          have HK : Shut (k = 0) := (by omega : k = 0)
          clear hk0
          have hyes : Shut (stepBB U k = true) := by show stepBB U k = true; rw [stepBB, show (fun j => U (k * 12 + j)) = (fun i => colOf U i k) from rfl, hi, HK.out]; rfl
          refine wpIn_region_held_drew (S := fun w' => w'.cell? ⟨W.heap.size, 0, none⟩ = some (.int .i64 (k : Int)) ∧ w'.cell? ⟨W.heap.size, 1, none⟩ = some (.pointer (some ⟨cb, 0, none⟩)) ∧ w'.cell? ⟨bv, 0, none⟩ = some (.pointer (some ⟨cb, 0, none⟩)) ∧ w'.cell? ⟨cb, 0, none⟩ = some (.slice (some ⟨g0, 0, none⟩) n c0) ∧ w'.cell? ⟨g0, k, none⟩ = some (.int .i64 (colOf U 0 k))) (by kernel_rfl) (by rintro ⟨_, _, h⟩; exact h) (by kernel_rfl) ?_ (fun hHeld => ?_)
          · (try dsimp only)
            (first | (go_simp; done) | (go_keep; done))
          refine tq 0 hHeld ?_
          (refine tc 1 fun K hK => ?_; go_simp; (go_at_call 43; refine (kOk_q (HAt.below hh (Below.drew (Below.refl _ _))) _ hi).mono ?_; rintro e w5 ⟨rfl, hb5⟩; obtain ⟨hc5, hf5⟩ := bcell hb5; have hz5 := hb5.size; (try simp only [World.size_drew, World.size_alloc, World.size_setCell] at hc5 hf5 hz5); have hk1 := fun o => hc5 W.heap.size o (by omega); have hk2 := fun o => hc5 bv o (by omega); have hk3 := fun o => hc5 cb o (by omega); have hk4 := fun o => hc5 g0 o (by omega); clear hc5 hf5); (try go_wp2_with fail); refine tr hK (fun hHeld => ?_); clear hK K)
          refine tq 2 hHeld ?_
          refine tq 3 hHeld ?_
          refine tq 4 hHeld ?_
          refine tq 5 hHeld ?_
          refine tq 6 hHeld ?_
          refine tq 7 hHeld ?_
          refine tn 8 hHeld ?_
          refine tn 9 hHeld ?_
          refine tn 10 hHeld ?_
          refine tn 11 hHeld ?_
          refine tn 12 hHeld ?_
          refine tn 13 hHeld ?_
          refine tn 14 hHeld ?_
          refine tn 15 hHeld ?_
          refine tn 16 hHeld ?_
          refine tn 17 hHeld ?_
          refine tn 18 hHeld ?_
          refine tn 19 hHeld ?_
          refine tn 20 hHeld ?_
          refine tn 21 hHeld ?_
          refine tn 22 hHeld ?_
          refine tn 23 hHeld ?_
          refine tn 24 hHeld ?_
          refine tn 25 hHeld ?_
          refine tq 26 hHeld ?_
          refine tq 27 hHeld ?_
          refine wpAnyH_done (by kernel_rfl) ?_ _
          refine hK _ _ ?_
          refine wpIn_cond_false rfl ?_
          refine wpIn_skip ?_
          exact ⟨KeepsFrom.of_below hb5.ofDr, hb2.trans (hb5.ofDr.mono hb2.size), by rw [allBB, hall, hyes.out]; rfl⟩
    case done =>
      rintro D W hD ⟨hbW, hall⟩ hK
      have q2 := (hbW.cell (p := ⟨w.heap.size, 0, none⟩) (by simp; omega)).trans r2
      have q3 := (hbW.cell (p := ⟨w.heap.size + 1, 0, none⟩) (by simp; omega)).trans r3
      have q4 := (hbW.cell (p := ⟨bv, 0, none⟩) hz2).trans r4
      have p2 := (hbW.frozen (p := ⟨w.heap.size, 0, none⟩) (by simp; omega)).trans f2
      have p3 := (hbW.frozen (p := ⟨w.heap.size + 1, 0, none⟩) (by simp; omega)).trans f3
      have hC4 := hC2.below hbW
      have hBW : Below w.heap.size w W := hB.trans (hbW.mono hB.size)
      have hzW := hbW.size
      go_wp2
      have hF : Fr (fun b => b = w.heap.size ∨ b = w.heap.size + 1) W ((W.setCell ⟨w.heap.size, 0, none⟩ (.pointer (some ⟨cb, 0, none⟩))).setCell ⟨w.heap.size + 1, 0, none⟩ (.bool true)) := (Fr.setCell (.inl rfl) _).trans (Fr.setCell (.inr rfl) _)
      refine marks_ret (B := w2.heap.size) hD rfl (hF.kind _ _ hK rfl) fun W' hS => ⟨.tuple #[.pointer (some ⟨cb, 0, none⟩), .bool true], ?_, ?_, .inl ⟨?_, cb, S, rfl, ?_, ?_⟩⟩
      · have x2 : W'.cell? ⟨w.heap.size, 0, none⟩ = some (.pointer (some ⟨cb, 0, none⟩)) := hS.cell (by go_simp)
        have x3 : W'.cell? ⟨w.heap.size + 1, 0, none⟩ = some (.bool true) := hS.cell (by go_simp)
        simp [results, Tryz.results27, go_sem, *]
      · exact ((hBW.setCell (by simp) _).setCell (by simp) _).trans (hS.below.mono (by omega))
      · rw [bodsB, hall, decide_eq_true h12]; rfl
      · omega
      · exact (hC4.frame hF (by omega) (fun b hb => by have := (hC2.xlt hb).1; omega)).sm hS
    case stop =>
      rintro D c W hD ⟨rfl, hbW, q2, q3, hno⟩ hK
      go_wp2
      refine marks_ret (B := w2.heap.size) hD rfl hK fun W' hS => ⟨.tuple #[.pointer none, .bool false], ?_, hbW.trans (hS.below.mono (by omega)), .inr ⟨hno, rfl⟩⟩
      have x2 := hS.cell q2
      have x3 := hS.cell q3
      simp [results, Tryz.results27, go_sem, *]
  · have h12' : (12 : Int) < (n : Int) := by omega
    refine calls_of_wp_marks Tryz.func27 rfl ?_
    simp only [Tryz.ntmps27, List.size_toArray, List.length_cons, List.length_nil, Nat.reduceAdd, Nat.reduceSub, Array.replicate_succ, Array.replicate_zero, List.push_toArray, List.append_toArray, List.nil_append, List.cons_append]
    go_wp2
    refine marks_ret0 (v := .tuple #[.pointer none, .bool false]) rfl (by simp [results, Tryz.results27, go_sem, *]) ⟨bel_a, .inr ⟨by rw [bodsB, decide_eq_false h12]; rfl, rfl⟩⟩
end Go.Proofs.YtlbpmmjckoaleaaGreat
namespace Go.Proofs.YtlbpmmjckoaleaaGreat
open Go.RowKit
set_option linter.unusedVariables false
set_option linter.unusedSimpArgs false
/-- the top of a place: each is under a lesser one, or under itself -/
def rootF (F : Nat → Nat) (i : Nat) : Nat := if h : F i < i then rootF F (F i) else i
termination_by i
theorem root_lt {F : Nat → Nat} {i : Nat} (h : F i < i) : rootF F i = rootF F (F i) := by rw [rootF, dif_pos h]
theorem root_self {F : Nat → Nat} {i : Nat} (h : ¬ F i < i) : rootF F i = i := by rw [rootF, dif_neg h]
theorem root_step {F : Nat → Nat} (le : ∀ i, F i ≤ i) (i : Nat) : rootF F (F i) = rootF F i := by
  by_cases h : F i < i
  · rw [root_lt h]
  · have e : F i = i := by have := le i; omega
    rw [e]
theorem root_le (F : Nat → Nat) : ∀ i, rootF F i ≤ i := by
  intro i
  induction i using Nat.strongRecOn with
  | ind i ih =>
    by_cases h : F i < i
    · rw [root_lt h]; exact Nat.le_trans (ih _ h) (Nat.le_of_lt h)
    · rw [root_self h]; exact Nat.le_refl _
theorem root_top (F : Nat → Nat) : ∀ i, ¬ F (rootF F i) < rootF F i := by
  intro i
  induction i using Nat.strongRecOn with
  | ind i ih =>
    by_cases h : F i < i
    · rw [root_lt h]; exact ih _ h
    · rw [root_self h]; exact h
def setF (F : Nat → Nat) (p v : Nat) : Nat → Nat := fun j => if j = p then v else F j
theorem setF_at (F : Nat → Nat) (p v : Nat) : setF F p v p = v := if_pos rfl
theorem setF_ne {F : Nat → Nat} {p v j : Nat} (h : j ≠ p) : setF F p v j = F j := if_neg h
theorem setF_le {F : Nat → Nat} {p v : Nat} (le : ∀ i, F i ≤ i) (hv : v ≤ p) : ∀ i, setF F p v i ≤ i := fun i => by
  by_cases e : i = p
  · subst e; rw [setF_at]; exact hv
  · rw [setF_ne e]; exact le i
/-- a place that is put nearer to its top -/
theorem root_half {F : Nat → Nat} (le : ∀ i, F i ≤ i) (p : Nat) : ∀ j, rootF (setF F p (F (F p))) j = rootF F j := by
  intro j
  induction j using Nat.strongRecOn with
  | ind j ih =>
    by_cases e : j = p
    · subst e
      have l1 := le j
      have l2 := le (F j)
      by_cases h : F (F j) < j
      · rw [root_lt (by rw [setF_at]; exact h), setF_at, ih _ h, root_step le, root_step le]
      · rw [root_self (by rw [setF_at]; exact h), root_self (by omega)]
    · by_cases h : F j < j
      · rw [root_lt (by rw [setF_ne e]; exact h), setF_ne e, ih _ h, root_step le]
      · rw [root_self (by rw [setF_ne e]; exact h), root_self h]
/-- two tops that are joined -/
theorem root_join {F : Nat → Nat} {m M : Nat} (hm : ¬ F m < m) (hM : ¬ F M < M) (hmM : m ≤ M) : ∀ j, rootF (setF F M m) j = if rootF F j = M then m else rootF F j := by
  intro j
  induction j using Nat.strongRecOn with
  | ind j ih =>
    by_cases e : j = M
    · subst e
      rw [root_self (F := F) hM, if_pos rfl]
      by_cases h : m < j
      · rw [root_lt (by rw [setF_at]; exact h), setF_at, root_self (by rw [setF_ne (by omega)]; exact hm)]
      · rw [root_self (by rw [setF_at]; exact h)]; omega
    · by_cases h : F j < j
      · rw [root_lt (by rw [setF_ne e]; exact h), setF_ne e, ih _ h, ← root_lt h]
      · rw [root_self (by rw [setF_ne e]; exact h), root_self h, if_neg e]
/-- the program's unions in memory -/
structure Uf (w : World) (ub g n c : Nat) (F : Nat → Nat) : Prop where
  hd : w.cell? ⟨ub, 0, none⟩ = some (.slice (some ⟨g, 0, none⟩) n c)
  row : ∀ i, i < n → w.cell? ⟨g, i, none⟩ = some (.int .i64 (F i : Int))
  fz : ∀ i, w.frozen? ⟨g, i, none⟩ = false
  le : ∀ i, F i ≤ i
  ne : ub ≠ g
  l1 : ub < w.heap.size
  l2 : g < w.heap.size
theorem Uf.on {w w' : World} {ub g n c : Nat} {F : Nat → Nat} (h : Uf w ub g n c F) (k : Below w.heap.size w w') : Uf w' ub g n c F :=
  ⟨(k.cell (p := ⟨ub, 0, none⟩) h.l1).trans h.hd, fun i hi => (k.cell (p := ⟨g, i, none⟩) h.l2).trans (h.row i hi), fun i => (k.frozen (p := ⟨g, i, none⟩) h.l2).trans (h.fz i), h.le, h.ne, Nat.lt_of_lt_of_le h.l1 k.size, Nat.lt_of_lt_of_le h.l2 k.size⟩
theorem Uf.set {w : World} {ub g n c : Nat} {F : Nat → Nat} (h : Uf w ub g n c F) {p v : Nat} (hp : p < n) (hv : v ≤ p) : Uf (w.setCell ⟨g, p, none⟩ (.int .i64 (v : Int))) ub g n c (setF F p v) := by
  refine ⟨?_, fun i hi => ?_, fun i => by rw [World.frozen?_setCell]; exact h.fz i, setF_le h.le hv, h.ne, by simpa using h.l1, by simpa using h.l2⟩
  · rw [cset_far (by simp; have := h.ne; omega)]; exact h.hd
  · by_cases e : i = p
    · subst e; rw [cset_map, h.row i hi, setF_at]; rfl
    · rw [cset_other (by intro q; cases q; exact e rfl), setF_ne e]; exact h.row i hi
set_option maxRecDepth 20000 in
set_option maxHeartbeats 8000000 in
theorem top_q (ub g n c p : Nat) (F : Nat → Nat) (w : World) (h : Uf w ub g n c F) (hp : p < n) :
    Calls Tryz.prog 49 #[.pointer (some ⟨ub, 0, none⟩), .int .i64 (p : Int)] w fun e w' => e = .returned (.int .i64 (rootF F p : Int)) ∧ (∃ F', Uf w' ub g n c F' ∧ ∀ j, rootF F' j = rootF F j) ∧ Fr (fun b => b = g) w w' := by
  have hset := cset_map
  go_enter Tryz.func49, Tryz.ntmps49
  go_upto_region 1 with fail
  go_loopw [1] (fun s1 wr => ∃ (q : Nat) (F' : Nat → Nat), s1 = .int .i64 (q : Int) ∧ q < n ∧ Uf wr ub g n c F' ∧ (∀ j, rootF F' j = rootF F j) ∧ rootF F' q = rootF F p ∧ Fr (fun b => b = g) w wr) (fun s1 _ => (intOf s1).toNat)
  case atStart => exact ⟨p, F, rfl, hp, h, fun _ => rfl, rfl, Fr.refl _ _⟩
  case round =>
    obtain ⟨q, F', rfl, hqn, hU, hall0, hrt0, hF⟩ := hrel
    have hall : Shut (∀ j, rootF F' j = rootF F j) := hall0
    have hrt : Shut (rootF F' q = rootF F p) := hrt0
    clear hall0 hrt0
    have hqi : (q : Int) < (n : Int) := by omega
    have u0 := hU.hd
    have uq := hU.row q hqn
    have uf := hU.fz
    have hle := hU.le
    by_cases e : F' q = q
    · have ee : ((F' q : Int) != (q : Int)) = false := by simp [e]
      have hv : rootF F p = q := by rw [← hrt.out, root_self (by omega)]
      clear e hrt
      go_wp2_with fail
      go_ret
      refine ⟨?_, ⟨F', hU, hall.out⟩, hF⟩
      rw [hv]
      rfl
    · have hlq : F' q < q := by have := hle q; omega
      have ee : ((F' q : Int) != (q : Int)) = true := by simp; omega
      have HH0 := root_half hle q
      have HR0 : rootF F' (F' (F' q)) = rootF F' q := by rw [root_step hle, root_step hle]
      have hr2 := hle (F' q)
      have ur := hU.row (F' q) (by omega)
      obtain ⟨s, hs⟩ : ∃ s, F' q = s := ⟨_, rfl⟩
      rw [hs] at uq ee hlq HH0 HR0 hr2 ur
      obtain ⟨r, hr⟩ : ∃ r, F' s = r := ⟨_, rfl⟩
      rw [hr] at HH0 HR0 hr2 ur
      have HH : Shut (∀ j, rootF (setF F' q r) j = rootF F j) := fun j => (HH0 j).trans (hall.out j)
      have HR : Shut (rootF (setF F' q r) r = rootF F p) := (HH0 r).trans (HR0.trans hrt.out)
      clear HH0 HR0 hall hrt e hs hr hle
      have hsi : (s : Int) < (n : Int) := by omega
      have hr2q : r ≤ q := by omega
      go_upto_region 2 with fail
      refine wp_region_held_drew (S := fun w' => w'.cell? ⟨ub, 0, none⟩ = some (.slice (some ⟨g, 0, none⟩) n c)) (by kernel_rfl) ?_ (fun hHeld => ?_)
      · (try dsimp only)
        (first | (go_simp; done) | (go_keep; done))
      refine tq 0 hHeld ?_
      refine tq 1 hHeld ?_
      refine tq 2 hHeld ?_
      refine tq 3 hHeld ?_
      refine tq 4 hHeld ?_
      refine tq 5 hHeld ?_
      refine tq 6 hHeld ?_
      refine tq 7 hHeld ?_
      refine tq 8 hHeld ?_
      refine tq 9 hHeld ?_
      refine tq 10 hHeld ?_
      refine tq 11 hHeld ?_
      refine tq 12 hHeld ?_
      refine tq 13 hHeld ?_
      refine tq 14 hHeld ?_
      refine tc 15 fun K hK => ?_
      (go_simp
       refine tr hK (fun hHeld => ?_)
       clear hK K)
      refine tq 16 hHeld ?_
      refine tc 17 fun K hK => ?_
      (go_simp
       refine tr hK (fun hHeld => ?_)
       clear hK K)
      refine tq 18 hHeld ?_
      refine tc 19 fun K hK => ?_
      (go_simp
       have hU2 := hU.set (v := r) hqn hr2q
       have hF2 := hF.trans (Fr.setCell (X := fun b => b = g) (p := ⟨g, q, none⟩) rfl (.int .i64 (r : Int)))
       clear u0 uq ur
       replace hU2 := hU2.on (Below.drew (Below.refl _ _))
       replace hF2 := hF2.drew
       generalize (wr.setCell ⟨g, q, none⟩ (.int .i64 (r : Int))).drew = w5 at hU2 hF2 ⊢
       have u0 := hU2.hd
       refine tr hK (fun hHeld => ?_)
       clear hK K)
      refine wpAnyH_done (by kernel_rfl) ?_ _
      have uq := hU2.row q hqn
      rw [setF_at] at uq
      go_wp2_with fail
      go_roundw
      case rel => exact ⟨r, _, rfl, by omega, hU2, HH.out, HR.out, hF2⟩
      case measure => simp [intOf]; omega
set_option maxRecDepth 20000 in
set_option maxHeartbeats 8000000 in
theorem join_q (ub g n c p q : Nat) (F : Nat → Nat) (w : World) (h : Uf w ub g n c F) (hp : p < n) (hq : q < n) :
    Calls Tryz.prog 77 #[.pointer (some ⟨ub, 0, none⟩), .int .i64 (p : Int), .int .i64 (q : Int)] w fun e w' => e = .returned (.tuple #[]) ∧ (∃ F', Uf w' ub g n c F' ∧ ∀ j, rootF F' j = if rootF F j = max (rootF F p) (rootF F q) then min (rootF F p) (rootF F q) else rootF F j) ∧ Fr (fun b => b = g) w w' := by
  have hset := cset_map
  have lp := root_le F p
  have lq := root_le F q
  go_enter Tryz.func77, Tryz.ntmps77
  go_upto_region 1 with (first
    | (have _ := hF1; go_at_call 49; refine (top_q ub g n c q F1 _ hU1 hq).mono ?_; rintro e w2 ⟨rfl, ⟨F2, hU2, hE2⟩, hF2⟩)
    | (go_at_call 49; refine (top_q ub g n c p F _ h hp).mono ?_; rintro e w1 ⟨rfl, ⟨F1, hU1, hE1⟩, hF1⟩))
  have hE : ∀ j, rootF F2 j = rootF F j := fun j => (hE2 j).trans (hE1 j)
  have hF := hF1.trans hF2
  (try rw [hE1 q])
  have hU := hU2
  obtain ⟨F', hF'⟩ : ∃ F', F2 = F' := ⟨_, rfl⟩
  rw [hF'] at hU hE
  clear hE1 hE2 hF1 hF2 hU1 hU2 hF'
  have tp : ¬ F' (rootF F p) < rootF F p := by rw [← hE p]; exact root_top F' p
  have tq' : ¬ F' (rootF F q) < rootF F q := by rw [← hE q]; exact root_top F' q
  generalize hA0 : rootF F p = A at lp tp ⊢
  generalize hB0 : rootF F q = B at lq tq' ⊢
  have hA : Shut (rootF F p = A) := hA0
  have hB : Shut (rootF F q = B) := hB0
  have HE : Shut (∀ j, rootF F' j = rootF F j) := hE
  clear hA0 hB0 hE
  have u0 := hU.hd
  have uf := hU.fz
  by_cases hAB : A < B
  · have i1 : (A : Int) < (B : Int) := by omega
    have i2 : ¬ (B : Int) < (A : Int) := by omega
    have i3 : (B : Int) < (n : Int) := by omega
    have uB := hU.row B (by omega)
    have hJ : Shut (∀ j, rootF (setF F' B A) j = if rootF F' j = B then A else rootF F' j) := root_join (m := A) (M := B) tp tq' (by omega)
    have hmx : Shut (max A B = B ∧ min A B = A) := by show _ ∧ _; omega
    have hU2 := hU.set (p := B) (v := A) (by omega) (by omega)
    clear tp tq' lp lq
    go_wp2_with fail
    go_end0
    exact ⟨rfl, ⟨_, hU2, fun j => by rw [hJ.out j, HE.out j, hA.out, hB.out, hmx.out.1, hmx.out.2]⟩, hF.trans (Fr.setCell (X := fun b => b = g) rfl _)⟩
  · by_cases hBA : B < A
    · have i1 : (B : Int) < (A : Int) := by omega
      have i2 : ¬ (A : Int) < (B : Int) := by omega
      have i3 : (A : Int) < (n : Int) := by omega
      have uB := hU.row A (by omega)
      have hJ : Shut (∀ j, rootF (setF F' A B) j = if rootF F' j = A then B else rootF F' j) := root_join (m := B) (M := A) tq' tp (by omega)
      have hmx : Shut (max A B = A ∧ min A B = B) := by show _ ∧ _; omega
      have hU2 := hU.set (p := A) (v := B) (by omega) (by omega)
      clear tp tq' lp lq
      go_wp2_with fail
      go_end0
      exact ⟨rfl, ⟨_, hU2, fun j => by rw [hJ.out j, HE.out j, hA.out, hB.out, hmx.out.1, hmx.out.2]⟩, hF.trans (Fr.setCell (X := fun b => b = g) rfl _)⟩
    · obtain rfl : A = B := by omega
      have i2 : ¬ (A : Int) < (A : Int) := by omega
      have i3 : (A : Int) < (n : Int) := by omega
      have uB := hU.row A (by omega)
      have hJ : Shut (∀ j, rootF (setF F' A A) j = if rootF F' j = A then A else rootF F' j) := root_join (m := A) (M := A) tp tp (by omega)
      have hmx : Shut (max A A = A ∧ min A A = A) := by show _ ∧ _; omega
      have hU2 := hU.set (p := A) (v := A) (by omega) (by omega)
      clear tp tq' lp lq
      go_wp2_with fail
      go_end0
      exact ⟨rfl, ⟨_, hU2, fun j => by rw [hJ.out j, HE.out j, hA.out, hB.out, hmx.out.1, hmx.out.2]⟩, hF.trans (Fr.setCell (X := fun b => b = g) rfl _)⟩
end Go.Proofs.YtlbpmmjckoaleaaGreat
