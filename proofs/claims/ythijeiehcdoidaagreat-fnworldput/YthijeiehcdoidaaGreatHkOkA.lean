/- Texts of a proof. -/
import Derived.Test.YthijeiehcdoidaaGreatB3
import Derived.Test.YthijeiehcdoidaaGreatB4
import Derived.Test.YthijeiehcdoidaaGreatB6
import Derived.Deep.RegionHeld3
import Derived.Deep.DeepCutAuto
set_option maxHeartbeats 16000000
set_option maxRecDepth 20000
namespace Go.Proofs.YthijeiehcdoidaaGreat
open Go.RowKit
set_option linter.unusedVariables false
set_option linter.unusedSimpArgs false
theorem kOk_0 {cb n k : Nat} {V : Nat → Int} {G : Nat → Nat} {w : World} (h : HAt w cb n k V G) (k0 : decide (0 ≤ V 0 ∧ V 0 ≤ 999999999) = false) :
 Calls Tryz.prog 100 #[hdk cb k] w fun e w' => e = .returned (.bool false) ∧ Below w.heap.size w w' := by
 have hset := cset_map
 have l1 := h.cbl
 have hkn := h.kn
 have hnl := h.nl
 obtain ⟨c0, hc0, hv0, _, l0g, lc0⟩ := h.col 0 (by omega)
 generalize hG0 : G 0 = g0 at hc0 hv0 l0g lc0
 clear hG0
 go_enter Tryz.func100, Tryz.ntmps100
 go_upto_region 1 with fail
 refine wp_region_held_drew (S := fun w' => w'.cell? ⟨w.heap.size, 0, none⟩ = some (.int .i64 (k : Int)) ∧ w'.cell? ⟨w.heap.size, 1, none⟩ = some (.pointer (some ⟨cb, 0, none⟩)) ∧ w'.cell? ⟨cb, 0, none⟩ = some (.slice (some ⟨g0, 0, none⟩) n c0) ∧ w'.cell? ⟨g0, k, none⟩ = some (.int .i64 (V 0))) (by kernel_rfl) ?_ (fun hHeld => ?_)
 · (try dsimp only)
   (first | (go_simp; done) | (go_keep; done))
 refine tq 0 hHeld ?_
 refine tq 1 hHeld ?_
 refine tq 2 hHeld ?_
 refine tq 3 hHeld ?_
 refine tq 4 hHeld ?_
 refine tq 5 hHeld ?_
 refine tq 6 hHeld ?_
 refine tq 7 hHeld ?_
 refine tq 8 hHeld ?_
 (refine tc 9 fun K hK => ?_; go_simp; (go_at_call 40; refine (upTo_q _ _ _ _ (by with_reducible assumption)).mono ?_; rintro e w1 ⟨rfl, hb1⟩; have hz1 := hb1.size; (try simp only [zz] at hz1); have := kfa hb1 w.heap.size; have := kfa hb1 cb; have := kfa hb1 g0); (try go_wp2_with fail); refine tr hK (fun hHeld => ?_); clear hK K)
 refine tq 10 hHeld ?_
 refine tn 11 hHeld ?_
 refine tn 12 hHeld ?_
 refine tn 13 hHeld ?_
 refine tq 14 hHeld ?_
 refine tq 15 hHeld ?_
 refine tn 16 hHeld ?_
 refine tn 17 hHeld ?_
 refine tn 18 hHeld ?_
 refine tq 19 hHeld ?_
 refine tq 20 hHeld ?_
 refine tn 21 hHeld ?_
 refine tn 22 hHeld ?_
 refine tn 23 hHeld ?_
 refine tq 24 hHeld ?_
 refine tq 25 hHeld ?_
 refine tn 26 hHeld ?_
 refine tn 27 hHeld ?_
 refine tn 28 hHeld ?_
 refine tq 29 hHeld ?_
 refine tq 30 hHeld ?_
 refine tn 31 hHeld ?_
 refine tn 32 hHeld ?_
 refine tn 33 hHeld ?_
 refine tq 34 hHeld ?_
 refine tq 35 hHeld ?_
 refine tn 36 hHeld ?_
 refine tn 37 hHeld ?_
 refine tn 38 hHeld ?_
 refine tq 39 hHeld ?_
 refine tq 40 hHeld ?_
 refine tn 41 hHeld ?_
 refine tn 42 hHeld ?_
 refine tn 43 hHeld ?_
 refine tq 44 hHeld ?_
 refine tq 45 hHeld ?_
 refine tn 46 hHeld ?_
 refine tn 47 hHeld ?_
 refine tq 48 hHeld ?_
 refine tq 49 hHeld ?_
 refine wpAnyH_done (by kernel_rfl) ?_ _
 go_wp2_with fail
 go_ret
 exact ⟨rfl, bel_a⟩
theorem kOk_1 {cb n k : Nat} {V : Nat → Int} {G : Nat → Nat} {w : World} (h : HAt w cb n k V G) (k0 : decide (0 ≤ V 0 ∧ V 0 ≤ 999999999) = true) (k1 : shB (V 1) (V 2) (V 3) = false) :
 Calls Tryz.prog 100 #[hdk cb k] w fun e w' => e = .returned (.bool false) ∧ Below w.heap.size w w' := by
 have hset := cset_map
 have l1 := h.cbl
 have hkn := h.kn
 have hnl := h.nl
 obtain ⟨c0, hc0, hv0, _, l0g, lc0⟩ := h.col 0 (by omega)
 generalize hG0 : G 0 = g0 at hc0 hv0 l0g lc0
 clear hG0
 go_enter Tryz.func100, Tryz.ntmps100
 go_upto_region 1 with fail
 refine wp_region_held_drew (S := fun w' => w'.cell? ⟨w.heap.size, 0, none⟩ = some (.int .i64 (k : Int)) ∧ w'.cell? ⟨w.heap.size, 1, none⟩ = some (.pointer (some ⟨cb, 0, none⟩)) ∧ w'.cell? ⟨cb, 0, none⟩ = some (.slice (some ⟨g0, 0, none⟩) n c0) ∧ w'.cell? ⟨g0, k, none⟩ = some (.int .i64 (V 0))) (by kernel_rfl) ?_ (fun hHeld => ?_)
 · (try dsimp only)
   (first | (go_simp; done) | (go_keep; done))
 refine tq 0 hHeld ?_
 refine tq 1 hHeld ?_
 refine tq 2 hHeld ?_
 refine tq 3 hHeld ?_
 refine tq 4 hHeld ?_
 refine tq 5 hHeld ?_
 refine tq 6 hHeld ?_
 refine tq 7 hHeld ?_
 refine tq 8 hHeld ?_
 (refine tc 9 fun K hK => ?_; go_simp; (go_at_call 40; refine (upTo_q _ _ _ _ (by with_reducible assumption)).mono ?_; rintro e w1 ⟨rfl, hb1⟩; have hz1 := hb1.size; (try simp only [zz] at hz1); have := kfa hb1 w.heap.size; have := kfa hb1 cb; have := kfa hb1 g0); (try go_wp2_with fail); refine tr hK (fun hHeld => ?_); clear hK K)
 refine tq 10 hHeld ?_
 refine tq 11 hHeld ?_
 (refine tc 12 fun K hK => ?_; go_simp; (go_at_call 123; refine (kShape (HAt.below h (bel_a))).mono ?_; rintro e w2 ⟨rfl, hb2⟩; have hz2 := hb2.size; (try simp only [zz] at hz2); have := kfa hb2 w.heap.size; have := kfa hb2 cb; have := kfa hb2 g0); (try go_wp2_with fail); refine tr hK (fun hHeld => ?_); clear hK K)
 (refine tc 13 fun K hK => ?_; go_simp; (go_at_call 122; refine (shapeOk_q _ _ _ _ _ (by with_reducible assumption)).mono ?_; rintro e w3 ⟨rfl, hb3⟩; have hz3 := hb3.size; (try simp only [zz] at hz3); have := kfa hb3 w.heap.size; have := kfa hb3 cb; have := kfa hb3 g0); (try go_wp2_with fail); refine tr hK (fun hHeld => ?_); clear hK K)
 refine tq 14 hHeld ?_
 refine tq 15 hHeld ?_
 refine tn 16 hHeld ?_
 refine tn 17 hHeld ?_
 refine tn 18 hHeld ?_
 refine tq 19 hHeld ?_
 refine tq 20 hHeld ?_
 refine tn 21 hHeld ?_
 refine tn 22 hHeld ?_
 refine tn 23 hHeld ?_
 refine tq 24 hHeld ?_
 refine tq 25 hHeld ?_
 refine tn 26 hHeld ?_
 refine tn 27 hHeld ?_
 refine tn 28 hHeld ?_
 refine tq 29 hHeld ?_
 refine tq 30 hHeld ?_
 refine tn 31 hHeld ?_
 refine tn 32 hHeld ?_
 refine tn 33 hHeld ?_
 refine tq 34 hHeld ?_
 refine tq 35 hHeld ?_
 refine tn 36 hHeld ?_
 refine tn 37 hHeld ?_
 refine tn 38 hHeld ?_
 refine tq 39 hHeld ?_
 refine tq 40 hHeld ?_
 refine tn 41 hHeld ?_
 refine tn 42 hHeld ?_
 refine tn 43 hHeld ?_
 refine tq 44 hHeld ?_
 refine tq 45 hHeld ?_
 refine tn 46 hHeld ?_
 refine tn 47 hHeld ?_
 refine tq 48 hHeld ?_
 refine tq 49 hHeld ?_
 refine wpAnyH_done (by kernel_rfl) ?_ _
 go_wp2_with fail
 go_ret
 exact ⟨rfl, bel_a⟩
theorem kOk_2 {cb n k : Nat} {V : Nat → Int} {G : Nat → Nat} {w : World} (h : HAt w cb n k V G) (k0 : decide (0 ≤ V 0 ∧ V 0 ≤ 999999999) = true) (k1 : shB (V 1) (V 2) (V 3) = true) (k2 : inB 2560000 (V 4) (V 5) = false) :
 Calls Tryz.prog 100 #[hdk cb k] w fun e w' => e = .returned (.bool false) ∧ Below w.heap.size w w' := by
 have hset := cset_map
 have l1 := h.cbl
 have hkn := h.kn
 have hnl := h.nl
 obtain ⟨c0, hc0, hv0, _, l0g, lc0⟩ := h.col 0 (by omega)
 generalize hG0 : G 0 = g0 at hc0 hv0 l0g lc0
 clear hG0
 go_enter Tryz.func100, Tryz.ntmps100
 go_upto_region 1 with fail
 refine wp_region_held_drew (S := fun w' => w'.cell? ⟨w.heap.size, 0, none⟩ = some (.int .i64 (k : Int)) ∧ w'.cell? ⟨w.heap.size, 1, none⟩ = some (.pointer (some ⟨cb, 0, none⟩)) ∧ w'.cell? ⟨cb, 0, none⟩ = some (.slice (some ⟨g0, 0, none⟩) n c0) ∧ w'.cell? ⟨g0, k, none⟩ = some (.int .i64 (V 0))) (by kernel_rfl) ?_ (fun hHeld => ?_)
 · (try dsimp only)
   (first | (go_simp; done) | (go_keep; done))
 refine tq 0 hHeld ?_
 refine tq 1 hHeld ?_
 refine tq 2 hHeld ?_
 refine tq 3 hHeld ?_
 refine tq 4 hHeld ?_
 refine tq 5 hHeld ?_
 refine tq 6 hHeld ?_
 refine tq 7 hHeld ?_
 refine tq 8 hHeld ?_
 (refine tc 9 fun K hK => ?_; go_simp; (go_at_call 40; refine (upTo_q _ _ _ _ (by with_reducible assumption)).mono ?_; rintro e w1 ⟨rfl, hb1⟩; have hz1 := hb1.size; (try simp only [zz] at hz1); have := kfa hb1 w.heap.size; have := kfa hb1 cb; have := kfa hb1 g0); (try go_wp2_with fail); refine tr hK (fun hHeld => ?_); clear hK K)
 refine tq 10 hHeld ?_
 refine tq 11 hHeld ?_
 (refine tc 12 fun K hK => ?_; go_simp; (go_at_call 123; refine (kShape (HAt.below h (bel_a))).mono ?_; rintro e w2 ⟨rfl, hb2⟩; have hz2 := hb2.size; (try simp only [zz] at hz2); have := kfa hb2 w.heap.size; have := kfa hb2 cb; have := kfa hb2 g0); (try go_wp2_with fail); refine tr hK (fun hHeld => ?_); clear hK K)
 (refine tc 13 fun K hK => ?_; go_simp; (go_at_call 122; refine (shapeOk_q _ _ _ _ _ (by with_reducible assumption)).mono ?_; rintro e w3 ⟨rfl, hb3⟩; have hz3 := hb3.size; (try simp only [zz] at hz3); have := kfa hb3 w.heap.size; have := kfa hb3 cb; have := kfa hb3 g0); (try go_wp2_with fail); refine tr hK (fun hHeld => ?_); clear hK K)
 refine tq 14 hHeld ?_
 refine tq 15 hHeld ?_
 refine tq 16 hHeld ?_
 (refine tc 17 fun K hK => ?_; go_simp; (go_at_call 124; refine (kAt (HAt.below h (bel_a))).mono ?_; rintro e w4 ⟨rfl, hb4⟩; have hz4 := hb4.size; (try simp only [zz] at hz4); have := kfa hb4 w.heap.size; have := kfa hb4 cb; have := kfa hb4 g0); (try go_wp2_with fail); refine tr hK (fun hHeld => ?_); clear hK K)
 (refine tc 18 fun K hK => ?_; go_simp; (go_at_call 57; refine (within2_q _ _ _ _ _ (by omega) (by omega) (by with_reducible assumption)).mono ?_; rintro e w5 ⟨rfl, hb5⟩; have hz5 := hb5.size; (try simp only [zz] at hz5); have := kfa hb5 w.heap.size; have := kfa hb5 cb; have := kfa hb5 g0); (try go_wp2_with fail); refine tr hK (fun hHeld => ?_); clear hK K)
 refine tq 19 hHeld ?_
 refine tq 20 hHeld ?_
 refine tn 21 hHeld ?_
 refine tn 22 hHeld ?_
 refine tn 23 hHeld ?_
 refine tq 24 hHeld ?_
 refine tq 25 hHeld ?_
 refine tn 26 hHeld ?_
 refine tn 27 hHeld ?_
 refine tn 28 hHeld ?_
 refine tq 29 hHeld ?_
 refine tq 30 hHeld ?_
 refine tn 31 hHeld ?_
 refine tn 32 hHeld ?_
 refine tn 33 hHeld ?_
 refine tq 34 hHeld ?_
 refine tq 35 hHeld ?_
 refine tn 36 hHeld ?_
 refine tn 37 hHeld ?_
 refine tn 38 hHeld ?_
 refine tq 39 hHeld ?_
 refine tq 40 hHeld ?_
 refine tn 41 hHeld ?_
 refine tn 42 hHeld ?_
 refine tn 43 hHeld ?_
 refine tq 44 hHeld ?_
 refine tq 45 hHeld ?_
 refine tn 46 hHeld ?_
 refine tn 47 hHeld ?_
 refine tq 48 hHeld ?_
 refine tq 49 hHeld ?_
 refine wpAnyH_done (by kernel_rfl) ?_ _
 go_wp2_with fail
 go_ret
 exact ⟨rfl, bel_a⟩
theorem kOk_3 {cb n k : Nat} {V : Nat → Int} {G : Nat → Nat} {w : World} (h : HAt w cb n k V G) (k0 : decide (0 ≤ V 0 ∧ V 0 ≤ 999999999) = true) (k1 : shB (V 1) (V 2) (V 3) = true) (k2 : inB 2560000 (V 4) (V 5) = true) (k3 : inB 20000000 (V 6) (V 7) = false) :
 Calls Tryz.prog 100 #[hdk cb k] w fun e w' => e = .returned (.bool false) ∧ Below w.heap.size w w' := by
 have hset := cset_map
 have l1 := h.cbl
 have hkn := h.kn
 have hnl := h.nl
 obtain ⟨c0, hc0, hv0, _, l0g, lc0⟩ := h.col 0 (by omega)
 generalize hG0 : G 0 = g0 at hc0 hv0 l0g lc0
 clear hG0
 go_enter Tryz.func100, Tryz.ntmps100
 go_upto_region 1 with fail
 refine wp_region_held_drew (S := fun w' => w'.cell? ⟨w.heap.size, 0, none⟩ = some (.int .i64 (k : Int)) ∧ w'.cell? ⟨w.heap.size, 1, none⟩ = some (.pointer (some ⟨cb, 0, none⟩)) ∧ w'.cell? ⟨cb, 0, none⟩ = some (.slice (some ⟨g0, 0, none⟩) n c0) ∧ w'.cell? ⟨g0, k, none⟩ = some (.int .i64 (V 0))) (by kernel_rfl) ?_ (fun hHeld => ?_)
 · (try dsimp only)
   (first | (go_simp; done) | (go_keep; done))
 refine tq 0 hHeld ?_
 refine tq 1 hHeld ?_
 refine tq 2 hHeld ?_
 refine tq 3 hHeld ?_
 refine tq 4 hHeld ?_
 refine tq 5 hHeld ?_
 refine tq 6 hHeld ?_
 refine tq 7 hHeld ?_
 refine tq 8 hHeld ?_
 (refine tc 9 fun K hK => ?_; go_simp; (go_at_call 40; refine (upTo_q _ _ _ _ (by with_reducible assumption)).mono ?_; rintro e w1 ⟨rfl, hb1⟩; have hz1 := hb1.size; (try simp only [zz] at hz1); have := kfa hb1 w.heap.size; have := kfa hb1 cb; have := kfa hb1 g0); (try go_wp2_with fail); refine tr hK (fun hHeld => ?_); clear hK K)
 refine tq 10 hHeld ?_
 refine tq 11 hHeld ?_
 (refine tc 12 fun K hK => ?_; go_simp; (go_at_call 123; refine (kShape (HAt.below h (bel_a))).mono ?_; rintro e w2 ⟨rfl, hb2⟩; have hz2 := hb2.size; (try simp only [zz] at hz2); have := kfa hb2 w.heap.size; have := kfa hb2 cb; have := kfa hb2 g0); (try go_wp2_with fail); refine tr hK (fun hHeld => ?_); clear hK K)
 (refine tc 13 fun K hK => ?_; go_simp; (go_at_call 122; refine (shapeOk_q _ _ _ _ _ (by with_reducible assumption)).mono ?_; rintro e w3 ⟨rfl, hb3⟩; have hz3 := hb3.size; (try simp only [zz] at hz3); have := kfa hb3 w.heap.size; have := kfa hb3 cb; have := kfa hb3 g0); (try go_wp2_with fail); refine tr hK (fun hHeld => ?_); clear hK K)
 refine tq 14 hHeld ?_
 refine tq 15 hHeld ?_
 refine tq 16 hHeld ?_
 (refine tc 17 fun K hK => ?_; go_simp; (go_at_call 124; refine (kAt (HAt.below h (bel_a))).mono ?_; rintro e w4 ⟨rfl, hb4⟩; have hz4 := hb4.size; (try simp only [zz] at hz4); have := kfa hb4 w.heap.size; have := kfa hb4 cb; have := kfa hb4 g0); (try go_wp2_with fail); refine tr hK (fun hHeld => ?_); clear hK K)
 (refine tc 18 fun K hK => ?_; go_simp; (go_at_call 57; refine (within2_q _ _ _ _ _ (by omega) (by omega) (by with_reducible assumption)).mono ?_; rintro e w5 ⟨rfl, hb5⟩; have hz5 := hb5.size; (try simp only [zz] at hz5); have := kfa hb5 w.heap.size; have := kfa hb5 cb; have := kfa hb5 g0); (try go_wp2_with fail); refine tr hK (fun hHeld => ?_); clear hK K)
 refine tq 19 hHeld ?_
 refine tq 20 hHeld ?_
 refine tq 21 hHeld ?_
 (refine tc 22 fun K hK => ?_; go_simp; (go_at_call 125; refine (kDrive (HAt.below h (bel_a))).mono ?_; rintro e w6 ⟨rfl, hb6⟩; have hz6 := hb6.size; (try simp only [zz] at hz6); have := kfa hb6 w.heap.size; have := kfa hb6 cb; have := kfa hb6 g0); (try go_wp2_with fail); refine tr hK (fun hHeld => ?_); clear hK K)
 (refine tc 23 fun K hK => ?_; go_simp; (go_at_call 57; refine (within2_q _ _ _ _ _ (by omega) (by omega) (by with_reducible assumption)).mono ?_; rintro e w7 ⟨rfl, hb7⟩; have hz7 := hb7.size; (try simp only [zz] at hz7); have := kfa hb7 w.heap.size; have := kfa hb7 cb; have := kfa hb7 g0); (try go_wp2_with fail); refine tr hK (fun hHeld => ?_); clear hK K)
 refine tq 24 hHeld ?_
 refine tq 25 hHeld ?_
 refine tn 26 hHeld ?_
 refine tn 27 hHeld ?_
 refine tn 28 hHeld ?_
 refine tq 29 hHeld ?_
 refine tq 30 hHeld ?_
 refine tn 31 hHeld ?_
 refine tn 32 hHeld ?_
 refine tn 33 hHeld ?_
 refine tq 34 hHeld ?_
 refine tq 35 hHeld ?_
 refine tn 36 hHeld ?_
 refine tn 37 hHeld ?_
 refine tn 38 hHeld ?_
 refine tq 39 hHeld ?_
 refine tq 40 hHeld ?_
 refine tn 41 hHeld ?_
 refine tn 42 hHeld ?_
 refine tn 43 hHeld ?_
 refine tq 44 hHeld ?_
 refine tq 45 hHeld ?_
 refine tn 46 hHeld ?_
 refine tn 47 hHeld ?_
 refine tq 48 hHeld ?_
 refine tq 49 hHeld ?_
 refine wpAnyH_done (by kernel_rfl) ?_ _
 go_wp2_with fail
 go_ret
 exact ⟨rfl, bel_a⟩
theorem kOk_4 {cb n k : Nat} {V : Nat → Int} {G : Nat → Nat} {w : World} (h : HAt w cb n k V G) (k0 : decide (0 ≤ V 0 ∧ V 0 ≤ 999999999) = true) (k1 : shB (V 1) (V 2) (V 3) = true) (k2 : inB 2560000 (V 4) (V 5) = true) (k3 : inB 20000000 (V 6) (V 7) = true) (k4 : decide (0 ≤ V 8 ∧ V 8 ≤ 1000) = false) :
 Calls Tryz.prog 100 #[hdk cb k] w fun e w' => e = .returned (.bool false) ∧ Below w.heap.size w w' := by
 have hset := cset_map
 have l1 := h.cbl
 have hkn := h.kn
 have hnl := h.nl
 obtain ⟨c0, hc0, hv0, _, l0g, lc0⟩ := h.col 0 (by omega)
 generalize hG0 : G 0 = g0 at hc0 hv0 l0g lc0
 clear hG0
 go_enter Tryz.func100, Tryz.ntmps100
 go_upto_region 1 with fail
 refine wp_region_held_drew (S := fun w' => w'.cell? ⟨w.heap.size, 0, none⟩ = some (.int .i64 (k : Int)) ∧ w'.cell? ⟨w.heap.size, 1, none⟩ = some (.pointer (some ⟨cb, 0, none⟩)) ∧ w'.cell? ⟨cb, 0, none⟩ = some (.slice (some ⟨g0, 0, none⟩) n c0) ∧ w'.cell? ⟨g0, k, none⟩ = some (.int .i64 (V 0))) (by kernel_rfl) ?_ (fun hHeld => ?_)
 · (try dsimp only)
   (first | (go_simp; done) | (go_keep; done))
 refine tq 0 hHeld ?_
 refine tq 1 hHeld ?_
 refine tq 2 hHeld ?_
 refine tq 3 hHeld ?_
 refine tq 4 hHeld ?_
 refine tq 5 hHeld ?_
 refine tq 6 hHeld ?_
 refine tq 7 hHeld ?_
 refine tq 8 hHeld ?_
 (refine tc 9 fun K hK => ?_; go_simp; (go_at_call 40; refine (upTo_q _ _ _ _ (by with_reducible assumption)).mono ?_; rintro e w1 ⟨rfl, hb1⟩; have hz1 := hb1.size; (try simp only [zz] at hz1); have := kfa hb1 w.heap.size; have := kfa hb1 cb; have := kfa hb1 g0); (try go_wp2_with fail); refine tr hK (fun hHeld => ?_); clear hK K)
 refine tq 10 hHeld ?_
 refine tq 11 hHeld ?_
 (refine tc 12 fun K hK => ?_; go_simp; (go_at_call 123; refine (kShape (HAt.below h (bel_a))).mono ?_; rintro e w2 ⟨rfl, hb2⟩; have hz2 := hb2.size; (try simp only [zz] at hz2); have := kfa hb2 w.heap.size; have := kfa hb2 cb; have := kfa hb2 g0); (try go_wp2_with fail); refine tr hK (fun hHeld => ?_); clear hK K)
 (refine tc 13 fun K hK => ?_; go_simp; (go_at_call 122; refine (shapeOk_q _ _ _ _ _ (by with_reducible assumption)).mono ?_; rintro e w3 ⟨rfl, hb3⟩; have hz3 := hb3.size; (try simp only [zz] at hz3); have := kfa hb3 w.heap.size; have := kfa hb3 cb; have := kfa hb3 g0); (try go_wp2_with fail); refine tr hK (fun hHeld => ?_); clear hK K)
 refine tq 14 hHeld ?_
 refine tq 15 hHeld ?_
 refine tq 16 hHeld ?_
 (refine tc 17 fun K hK => ?_; go_simp; (go_at_call 124; refine (kAt (HAt.below h (bel_a))).mono ?_; rintro e w4 ⟨rfl, hb4⟩; have hz4 := hb4.size; (try simp only [zz] at hz4); have := kfa hb4 w.heap.size; have := kfa hb4 cb; have := kfa hb4 g0); (try go_wp2_with fail); refine tr hK (fun hHeld => ?_); clear hK K)
 (refine tc 18 fun K hK => ?_; go_simp; (go_at_call 57; refine (within2_q _ _ _ _ _ (by omega) (by omega) (by with_reducible assumption)).mono ?_; rintro e w5 ⟨rfl, hb5⟩; have hz5 := hb5.size; (try simp only [zz] at hz5); have := kfa hb5 w.heap.size; have := kfa hb5 cb; have := kfa hb5 g0); (try go_wp2_with fail); refine tr hK (fun hHeld => ?_); clear hK K)
 refine tq 19 hHeld ?_
 refine tq 20 hHeld ?_
 refine tq 21 hHeld ?_
 (refine tc 22 fun K hK => ?_; go_simp; (go_at_call 125; refine (kDrive (HAt.below h (bel_a))).mono ?_; rintro e w6 ⟨rfl, hb6⟩; have hz6 := hb6.size; (try simp only [zz] at hz6); have := kfa hb6 w.heap.size; have := kfa hb6 cb; have := kfa hb6 g0); (try go_wp2_with fail); refine tr hK (fun hHeld => ?_); clear hK K)
 (refine tc 23 fun K hK => ?_; go_simp; (go_at_call 57; refine (within2_q _ _ _ _ _ (by omega) (by omega) (by with_reducible assumption)).mono ?_; rintro e w7 ⟨rfl, hb7⟩; have hz7 := hb7.size; (try simp only [zz] at hz7); have := kfa hb7 w.heap.size; have := kfa hb7 cb; have := kfa hb7 g0); (try go_wp2_with fail); refine tr hK (fun hHeld => ?_); clear hK K)
 refine tq 24 hHeld ?_
 refine tq 25 hHeld ?_
 refine tq 26 hHeld ?_
 (refine tc 27 fun K hK => ?_; go_simp; (go_at_call 126; refine (kMass (HAt.below h (bel_a))).mono ?_; rintro e w8 ⟨rfl, hb8⟩; have hz8 := hb8.size; (try simp only [zz] at hz8); have := kfa hb8 w.heap.size; have := kfa hb8 cb; have := kfa hb8 g0); (try go_wp2_with fail); refine tr hK (fun hHeld => ?_); clear hK K)
 (refine tc 28 fun K hK => ?_; go_simp; (go_at_call 40; refine (upTo_q _ _ _ _ (by with_reducible assumption)).mono ?_; rintro e w9 ⟨rfl, hb9⟩; have hz9 := hb9.size; (try simp only [zz] at hz9); have := kfa hb9 w.heap.size; have := kfa hb9 cb; have := kfa hb9 g0); (try go_wp2_with fail); refine tr hK (fun hHeld => ?_); clear hK K)
 refine tq 29 hHeld ?_
 refine tq 30 hHeld ?_
 refine tn 31 hHeld ?_
 refine tn 32 hHeld ?_
 refine tn 33 hHeld ?_
 refine tq 34 hHeld ?_
 refine tq 35 hHeld ?_
 refine tn 36 hHeld ?_
 refine tn 37 hHeld ?_
 refine tn 38 hHeld ?_
 refine tq 39 hHeld ?_
 refine tq 40 hHeld ?_
 refine tn 41 hHeld ?_
 refine tn 42 hHeld ?_
 refine tn 43 hHeld ?_
 refine tq 44 hHeld ?_
 refine tq 45 hHeld ?_
 refine tn 46 hHeld ?_
 refine tn 47 hHeld ?_
 refine tq 48 hHeld ?_
 refine tq 49 hHeld ?_
 refine wpAnyH_done (by kernel_rfl) ?_ _
 go_wp2_with fail
 go_ret
 exact ⟨rfl, bel_a⟩
theorem kOk_5 {cb n k : Nat} {V : Nat → Int} {G : Nat → Nat} {w : World} (h : HAt w cb n k V G) (k0 : decide (0 ≤ V 0 ∧ V 0 ≤ 999999999) = true) (k1 : shB (V 1) (V 2) (V 3) = true) (k2 : inB 2560000 (V 4) (V 5) = true) (k3 : inB 20000000 (V 6) (V 7) = true) (k4 : decide (0 ≤ V 8 ∧ V 8 ≤ 1000) = true) (k5 : decide (0 ≤ V 9 ∧ V 9 ≤ 256) = false) :
 Calls Tryz.prog 100 #[hdk cb k] w fun e w' => e = .returned (.bool false) ∧ Below w.heap.size w w' := by
 have hset := cset_map
 have l1 := h.cbl
 have hkn := h.kn
 have hnl := h.nl
 obtain ⟨c0, hc0, hv0, _, l0g, lc0⟩ := h.col 0 (by omega)
 generalize hG0 : G 0 = g0 at hc0 hv0 l0g lc0
 clear hG0
 go_enter Tryz.func100, Tryz.ntmps100
 go_upto_region 1 with fail
 refine wp_region_held_drew (S := fun w' => w'.cell? ⟨w.heap.size, 0, none⟩ = some (.int .i64 (k : Int)) ∧ w'.cell? ⟨w.heap.size, 1, none⟩ = some (.pointer (some ⟨cb, 0, none⟩)) ∧ w'.cell? ⟨cb, 0, none⟩ = some (.slice (some ⟨g0, 0, none⟩) n c0) ∧ w'.cell? ⟨g0, k, none⟩ = some (.int .i64 (V 0))) (by kernel_rfl) ?_ (fun hHeld => ?_)
 · (try dsimp only)
   (first | (go_simp; done) | (go_keep; done))
 refine tq 0 hHeld ?_
 refine tq 1 hHeld ?_
 refine tq 2 hHeld ?_
 refine tq 3 hHeld ?_
 refine tq 4 hHeld ?_
 refine tq 5 hHeld ?_
 refine tq 6 hHeld ?_
 refine tq 7 hHeld ?_
 refine tq 8 hHeld ?_
 (refine tc 9 fun K hK => ?_; go_simp; (go_at_call 40; refine (upTo_q _ _ _ _ (by with_reducible assumption)).mono ?_; rintro e w1 ⟨rfl, hb1⟩; have hz1 := hb1.size; (try simp only [zz] at hz1); have := kfa hb1 w.heap.size; have := kfa hb1 cb; have := kfa hb1 g0); (try go_wp2_with fail); refine tr hK (fun hHeld => ?_); clear hK K)
 refine tq 10 hHeld ?_
 refine tq 11 hHeld ?_
 (refine tc 12 fun K hK => ?_; go_simp; (go_at_call 123; refine (kShape (HAt.below h (bel_a))).mono ?_; rintro e w2 ⟨rfl, hb2⟩; have hz2 := hb2.size; (try simp only [zz] at hz2); have := kfa hb2 w.heap.size; have := kfa hb2 cb; have := kfa hb2 g0); (try go_wp2_with fail); refine tr hK (fun hHeld => ?_); clear hK K)
 (refine tc 13 fun K hK => ?_; go_simp; (go_at_call 122; refine (shapeOk_q _ _ _ _ _ (by with_reducible assumption)).mono ?_; rintro e w3 ⟨rfl, hb3⟩; have hz3 := hb3.size; (try simp only [zz] at hz3); have := kfa hb3 w.heap.size; have := kfa hb3 cb; have := kfa hb3 g0); (try go_wp2_with fail); refine tr hK (fun hHeld => ?_); clear hK K)
 refine tq 14 hHeld ?_
 refine tq 15 hHeld ?_
 refine tq 16 hHeld ?_
 (refine tc 17 fun K hK => ?_; go_simp; (go_at_call 124; refine (kAt (HAt.below h (bel_a))).mono ?_; rintro e w4 ⟨rfl, hb4⟩; have hz4 := hb4.size; (try simp only [zz] at hz4); have := kfa hb4 w.heap.size; have := kfa hb4 cb; have := kfa hb4 g0); (try go_wp2_with fail); refine tr hK (fun hHeld => ?_); clear hK K)
 (refine tc 18 fun K hK => ?_; go_simp; (go_at_call 57; refine (within2_q _ _ _ _ _ (by omega) (by omega) (by with_reducible assumption)).mono ?_; rintro e w5 ⟨rfl, hb5⟩; have hz5 := hb5.size; (try simp only [zz] at hz5); have := kfa hb5 w.heap.size; have := kfa hb5 cb; have := kfa hb5 g0); (try go_wp2_with fail); refine tr hK (fun hHeld => ?_); clear hK K)
 refine tq 19 hHeld ?_
 refine tq 20 hHeld ?_
 refine tq 21 hHeld ?_
 (refine tc 22 fun K hK => ?_; go_simp; (go_at_call 125; refine (kDrive (HAt.below h (bel_a))).mono ?_; rintro e w6 ⟨rfl, hb6⟩; have hz6 := hb6.size; (try simp only [zz] at hz6); have := kfa hb6 w.heap.size; have := kfa hb6 cb; have := kfa hb6 g0); (try go_wp2_with fail); refine tr hK (fun hHeld => ?_); clear hK K)
 (refine tc 23 fun K hK => ?_; go_simp; (go_at_call 57; refine (within2_q _ _ _ _ _ (by omega) (by omega) (by with_reducible assumption)).mono ?_; rintro e w7 ⟨rfl, hb7⟩; have hz7 := hb7.size; (try simp only [zz] at hz7); have := kfa hb7 w.heap.size; have := kfa hb7 cb; have := kfa hb7 g0); (try go_wp2_with fail); refine tr hK (fun hHeld => ?_); clear hK K)
 refine tq 24 hHeld ?_
 refine tq 25 hHeld ?_
 refine tq 26 hHeld ?_
 (refine tc 27 fun K hK => ?_; go_simp; (go_at_call 126; refine (kMass (HAt.below h (bel_a))).mono ?_; rintro e w8 ⟨rfl, hb8⟩; have hz8 := hb8.size; (try simp only [zz] at hz8); have := kfa hb8 w.heap.size; have := kfa hb8 cb; have := kfa hb8 g0); (try go_wp2_with fail); refine tr hK (fun hHeld => ?_); clear hK K)
 (refine tc 28 fun K hK => ?_; go_simp; (go_at_call 40; refine (upTo_q _ _ _ _ (by with_reducible assumption)).mono ?_; rintro e w9 ⟨rfl, hb9⟩; have hz9 := hb9.size; (try simp only [zz] at hz9); have := kfa hb9 w.heap.size; have := kfa hb9 cb; have := kfa hb9 g0); (try go_wp2_with fail); refine tr hK (fun hHeld => ?_); clear hK K)
 refine tq 29 hHeld ?_
 refine tq 30 hHeld ?_
 refine tq 31 hHeld ?_
 (refine tc 32 fun K hK => ?_; go_simp; (go_at_call 127; refine (kBounce (HAt.below h (bel_a))).mono ?_; rintro e w10 ⟨rfl, hb10⟩; have hz10 := hb10.size; (try simp only [zz] at hz10); have := kfa hb10 w.heap.size; have := kfa hb10 cb; have := kfa hb10 g0); (try go_wp2_with fail); refine tr hK (fun hHeld => ?_); clear hK K)
 (refine tc 33 fun K hK => ?_; go_simp; (go_at_call 40; refine (upTo_q _ _ _ _ (by with_reducible assumption)).mono ?_; rintro e w11 ⟨rfl, hb11⟩; have hz11 := hb11.size; (try simp only [zz] at hz11); have := kfa hb11 w.heap.size; have := kfa hb11 cb; have := kfa hb11 g0); (try go_wp2_with fail); refine tr hK (fun hHeld => ?_); clear hK K)
 refine tq 34 hHeld ?_
 refine tq 35 hHeld ?_
 refine tn 36 hHeld ?_
 refine tn 37 hHeld ?_
 refine tn 38 hHeld ?_
 refine tq 39 hHeld ?_
 refine tq 40 hHeld ?_
 refine tn 41 hHeld ?_
 refine tn 42 hHeld ?_
 refine tn 43 hHeld ?_
 refine tq 44 hHeld ?_
 refine tq 45 hHeld ?_
 refine tn 46 hHeld ?_
 refine tn 47 hHeld ?_
 refine tq 48 hHeld ?_
 refine tq 49 hHeld ?_
 refine wpAnyH_done (by kernel_rfl) ?_ _
 go_wp2_with fail
 go_ret
 exact ⟨rfl, bel_a⟩
end Go.Proofs.YthijeiehcdoidaaGreat
