/- Texts of a proof. -/
import Derived.Test.YthijeiehcdoidaaGreatB3
import Derived.Test.YthijeiehcdoidaaGreatB4
import Derived.Test.YthijeiehcdoidaaGreatHkOkA
import Derived.Deep.RegionHeld3
import Derived.Deep.DeepCutAuto
set_option maxHeartbeats 16000000
set_option maxRecDepth 20000
namespace Go.Proofs.YthijeiehcdoidaaGreat
open Go.RowKit
set_option linter.unusedVariables false
set_option linter.unusedSimpArgs false
theorem kOk_6 {cb n k : Nat} {V : Nat → Int} {G : Nat → Nat} {w : World} (h : HAt w cb n k V G) (k0 : decide (0 ≤ V 0 ∧ V 0 ≤ 999999999) = true) (k1 : shB (V 1) (V 2) (V 3) = true) (k2 : inB 2560000 (V 4) (V 5) = true) (k3 : inB 20000000 (V 6) (V 7) = true) (k4 : decide (0 ≤ V 8 ∧ V 8 ≤ 1000) = true) (k5 : decide (0 ≤ V 9 ∧ V 9 ≤ 256) = true) (k6 : decide (0 ≤ V 10 ∧ V 10 ≤ 256) = false) :
 Calls Tryz.prog 100 #[hdk cb k] w fun e w' => e = .returned (.bool false) ∧ Below w.heap.size w w' := by
 have hset := cset_map
 have l1 := h.cbl
 have hkn := h.kn
 have hnl := h.nl
 obtain ⟨c0, hc0, hv0, _, l0g, lc0⟩ := h.col 0 (by omega)
 generalize hG0 : G 0 = g0 at hc0 hv0 l0g lc0
 clear hG0
 go_enter Tryz.func100, Tryz.ntmps100
 go_upto_region 1 with fail
 refine wp_region_held_drew (S := fun w' => w'.cell? ⟨w.heap.size, 0, none⟩ = some (.int .i64 (k : Int)) ∧ w'.cell? ⟨w.heap.size, 1, none⟩ = some (.pointer (some ⟨cb, 0, none⟩)) ∧ w'.cell? ⟨cb, 0, none⟩ = some (.slice (some ⟨g0, 0, none⟩) n c0) ∧ w'.cell? ⟨g0, k, none⟩ = some (.int .i64 (V 0))) (by kernel_rfl) ?_ (fun hHeld => ?_)
 · (try dsimp only)
   (first | (go_simp; done) | (go_keep; done))
 refine tq 0 hHeld ?_
 refine tq 1 hHeld ?_
 refine tq 2 hHeld ?_
 refine tq 3 hHeld ?_
 refine tq 4 hHeld ?_
 refine tq 5 hHeld ?_
 refine tq 6 hHeld ?_
 refine tq 7 hHeld ?_
 refine tq 8 hHeld ?_
 (refine tc 9 fun K hK => ?_; go_simp; (go_at_call 40; refine (upTo_q _ _ _ _ (by with_reducible assumption)).mono ?_; rintro e w1 ⟨rfl, hb1⟩; have hz1 := hb1.size; (try simp only [zz] at hz1); have := kfa hb1 w.heap.size; have := kfa hb1 cb; have := kfa hb1 g0); (try go_wp2_with fail); refine tr hK (fun hHeld => ?_); clear hK K)
 refine tq 10 hHeld ?_
 refine tq 11 hHeld ?_
 (refine tc 12 fun K hK => ?_; go_simp; (go_at_call 123; refine (kShape (HAt.below h (bel_a))).mono ?_; rintro e w2 ⟨rfl, hb2⟩; have hz2 := hb2.size; (try simp only [zz] at hz2); have := kfa hb2 w.heap.size; have := kfa hb2 cb; have := kfa hb2 g0); (try go_wp2_with fail); refine tr hK (fun hHeld => ?_); clear hK K)
 (refine tc 13 fun K hK => ?_; go_simp; (go_at_call 122; refine (shapeOk_q _ _ _ _ _ (by with_reducible assumption)).mono ?_; rintro e w3 ⟨rfl, hb3⟩; have hz3 := hb3.size; (try simp only [zz] at hz3); have := kfa hb3 w.heap.size; have := kfa hb3 cb; have := kfa hb3 g0); (try go_wp2_with fail); refine tr hK (fun hHeld => ?_); clear hK K)
 refine tq 14 hHeld ?_
 refine tq 15 hHeld ?_
 refine tq 16 hHeld ?_
 (refine tc 17 fun K hK => ?_; go_simp; (go_at_call 124; refine (kAt (HAt.below h (bel_a))).mono ?_; rintro e w4 ⟨rfl, hb4⟩; have hz4 := hb4.size; (try simp only [zz] at hz4); have := kfa hb4 w.heap.size; have := kfa hb4 cb; have := kfa hb4 g0); (try go_wp2_with fail); refine tr hK (fun hHeld => ?_); clear hK K)
 (refine tc 18 fun K hK => ?_; go_simp; (go_at_call 57; refine (within2_q _ _ _ _ _ (by omega) (by omega) (by with_reducible assumption)).mono ?_; rintro e w5 ⟨rfl, hb5⟩; have hz5 := hb5.size; (try simp only [zz] at hz5); have := kfa hb5 w.heap.size; have := kfa hb5 cb; have := kfa hb5 g0); (try go_wp2_with fail); refine tr hK (fun hHeld => ?_); clear hK K)
 refine tq 19 hHeld ?_
 refine tq 20 hHeld ?_
 refine tq 21 hHeld ?_
 (refine tc 22 fun K hK => ?_; go_simp; (go_at_call 125; refine (kDrive (HAt.below h (bel_a))).mono ?_; rintro e w6 ⟨rfl, hb6⟩; have hz6 := hb6.size; (try simp only [zz] at hz6); have := kfa hb6 w.heap.size; have := kfa hb6 cb; have := kfa hb6 g0); (try go_wp2_with fail); refine tr hK (fun hHeld => ?_); clear hK K)
 (refine tc 23 fun K hK => ?_; go_simp; (go_at_call 57; refine (within2_q _ _ _ _ _ (by omega) (by omega) (by with_reducible assumption)).mono ?_; rintro e w7 ⟨rfl, hb7⟩; have hz7 := hb7.size; (try simp only [zz] at hz7); have := kfa hb7 w.heap.size; have := kfa hb7 cb; have := kfa hb7 g0); (try go_wp2_with fail); refine tr hK (fun hHeld => ?_); clear hK K)
 refine tq 24 hHeld ?_
 refine tq 25 hHeld ?_
 refine tq 26 hHeld ?_
 (refine tc 27 fun K hK => ?_; go_simp; (go_at_call 126; refine (kMass (HAt.below h (bel_a))).mono ?_; rintro e w8 ⟨rfl, hb8⟩; have hz8 := hb8.size; (try simp only [zz] at hz8); have := kfa hb8 w.heap.size; have := kfa hb8 cb; have := kfa hb8 g0); (try go_wp2_with fail); refine tr hK (fun hHeld => ?_); clear hK K)
 (refine tc 28 fun K hK => ?_; go_simp; (go_at_call 40; refine (upTo_q _ _ _ _ (by with_reducible assumption)).mono ?_; rintro e w9 ⟨rfl, hb9⟩; have hz9 := hb9.size; (try simp only [zz] at hz9); have := kfa hb9 w.heap.size; have := kfa hb9 cb; have := kfa hb9 g0); (try go_wp2_with fail); refine tr hK (fun hHeld => ?_); clear hK K)
 refine tq 29 hHeld ?_
 refine tq 30 hHeld ?_
 refine tq 31 hHeld ?_
 (refine tc 32 fun K hK => ?_; go_simp; (go_at_call 127; refine (kBounce (HAt.below h (bel_a))).mono ?_; rintro e w10 ⟨rfl, hb10⟩; have hz10 := hb10.size; (try simp only [zz] at hz10); have := kfa hb10 w.heap.size; have := kfa hb10 cb; have := kfa hb10 g0); (try go_wp2_with fail); refine tr hK (fun hHeld => ?_); clear hK K)
 (refine tc 33 fun K hK => ?_; go_simp; (go_at_call 40; refine (upTo_q _ _ _ _ (by with_reducible assumption)).mono ?_; rintro e w11 ⟨rfl, hb11⟩; have hz11 := hb11.size; (try simp only [zz] at hz11); have := kfa hb11 w.heap.size; have := kfa hb11 cb; have := kfa hb11 g0); (try go_wp2_with fail); refine tr hK (fun hHeld => ?_); clear hK K)
 refine tq 34 hHeld ?_
 refine tq 35 hHeld ?_
 refine tq 36 hHeld ?_
 (refine tc 37 fun K hK => ?_; go_simp; (go_at_call 128; refine (kRub (HAt.below h (bel_a))).mono ?_; rintro e w12 ⟨rfl, hb12⟩; have hz12 := hb12.size; (try simp only [zz] at hz12); have := kfa hb12 w.heap.size; have := kfa hb12 cb; have := kfa hb12 g0); (try go_wp2_with fail); refine tr hK (fun hHeld => ?_); clear hK K)
 (refine tc 38 fun K hK => ?_; go_simp; (go_at_call 40; refine (upTo_q _ _ _ _ (by with_reducible assumption)).mono ?_; rintro e w13 ⟨rfl, hb13⟩; have hz13 := hb13.size; (try simp only [zz] at hz13); have := kfa hb13 w.heap.size; have := kfa hb13 cb; have := kfa hb13 g0); (try go_wp2_with fail); refine tr hK (fun hHeld => ?_); clear hK K)
 refine tq 39 hHeld ?_
 refine tq 40 hHeld ?_
 refine tn 41 hHeld ?_
 refine tn 42 hHeld ?_
 refine tn 43 hHeld ?_
 refine tq 44 hHeld ?_
 refine tq 45 hHeld ?_
 refine tn 46 hHeld ?_
 refine tn 47 hHeld ?_
 refine tq 48 hHeld ?_
 refine tq 49 hHeld ?_
 refine wpAnyH_done (by kernel_rfl) ?_ _
 go_wp2_with fail
 go_ret
 exact ⟨rfl, bel_a⟩
theorem kOk_7 {cb n k : Nat} {V : Nat → Int} {G : Nat → Nat} {w : World} (h : HAt w cb n k V G) (k0 : decide (0 ≤ V 0 ∧ V 0 ≤ 999999999) = true) (k1 : shB (V 1) (V 2) (V 3) = true) (k2 : inB 2560000 (V 4) (V 5) = true) (k3 : inB 20000000 (V 6) (V 7) = true) (k4 : decide (0 ≤ V 8 ∧ V 8 ≤ 1000) = true) (k5 : decide (0 ≤ V 9 ∧ V 9 ≤ 256) = true) (k6 : decide (0 ≤ V 10 ∧ V 10 ≤ 256) = true) (k7 : decide (0 ≤ V 11 ∧ V 11 ≤ 8) = false) :
 Calls Tryz.prog 100 #[hdk cb k] w fun e w' => e = .returned (.bool false) ∧ Below w.heap.size w w' := by
 have hset := cset_map
 have l1 := h.cbl
 have hkn := h.kn
 have hnl := h.nl
 obtain ⟨c0, hc0, hv0, _, l0g, lc0⟩ := h.col 0 (by omega)
 generalize hG0 : G 0 = g0 at hc0 hv0 l0g lc0
 clear hG0
 go_enter Tryz.func100, Tryz.ntmps100
 go_upto_region 1 with fail
 refine wp_region_held_drew (S := fun w' => w'.cell? ⟨w.heap.size, 0, none⟩ = some (.int .i64 (k : Int)) ∧ w'.cell? ⟨w.heap.size, 1, none⟩ = some (.pointer (some ⟨cb, 0, none⟩)) ∧ w'.cell? ⟨cb, 0, none⟩ = some (.slice (some ⟨g0, 0, none⟩) n c0) ∧ w'.cell? ⟨g0, k, none⟩ = some (.int .i64 (V 0))) (by kernel_rfl) ?_ (fun hHeld => ?_)
 · (try dsimp only)
   (first | (go_simp; done) | (go_keep; done))
 refine tq 0 hHeld ?_
 refine tq 1 hHeld ?_
 refine tq 2 hHeld ?_
 refine tq 3 hHeld ?_
 refine tq 4 hHeld ?_
 refine tq 5 hHeld ?_
 refine tq 6 hHeld ?_
 refine tq 7 hHeld ?_
 refine tq 8 hHeld ?_
 (refine tc 9 fun K hK => ?_; go_simp; (go_at_call 40; refine (upTo_q _ _ _ _ (by with_reducible assumption)).mono ?_; rintro e w1 ⟨rfl, hb1⟩; have hz1 := hb1.size; (try simp only [zz] at hz1); have := kfa hb1 w.heap.size; have := kfa hb1 cb; have := kfa hb1 g0); (try go_wp2_with fail); refine tr hK (fun hHeld => ?_); clear hK K)
 refine tq 10 hHeld ?_
 refine tq 11 hHeld ?_
 (refine tc 12 fun K hK => ?_; go_simp; (go_at_call 123; refine (kShape (HAt.below h (bel_a))).mono ?_; rintro e w2 ⟨rfl, hb2⟩; have hz2 := hb2.size; (try simp only [zz] at hz2); have := kfa hb2 w.heap.size; have := kfa hb2 cb; have := kfa hb2 g0); (try go_wp2_with fail); refine tr hK (fun hHeld => ?_); clear hK K)
 (refine tc 13 fun K hK => ?_; go_simp; (go_at_call 122; refine (shapeOk_q _ _ _ _ _ (by with_reducible assumption)).mono ?_; rintro e w3 ⟨rfl, hb3⟩; have hz3 := hb3.size; (try simp only [zz] at hz3); have := kfa hb3 w.heap.size; have := kfa hb3 cb; have := kfa hb3 g0); (try go_wp2_with fail); refine tr hK (fun hHeld => ?_); clear hK K)
 refine tq 14 hHeld ?_
 refine tq 15 hHeld ?_
 refine tq 16 hHeld ?_
 (refine tc 17 fun K hK => ?_; go_simp; (go_at_call 124; refine (kAt (HAt.below h (bel_a))).mono ?_; rintro e w4 ⟨rfl, hb4⟩; have hz4 := hb4.size; (try simp only [zz] at hz4); have := kfa hb4 w.heap.size; have := kfa hb4 cb; have := kfa hb4 g0); (try go_wp2_with fail); refine tr hK (fun hHeld => ?_); clear hK K)
 (refine tc 18 fun K hK => ?_; go_simp; (go_at_call 57; refine (within2_q _ _ _ _ _ (by omega) (by omega) (by with_reducible assumption)).mono ?_; rintro e w5 ⟨rfl, hb5⟩; have hz5 := hb5.size; (try simp only [zz] at hz5); have := kfa hb5 w.heap.size; have := kfa hb5 cb; have := kfa hb5 g0); (try go_wp2_with fail); refine tr hK (fun hHeld => ?_); clear hK K)
 refine tq 19 hHeld ?_
 refine tq 20 hHeld ?_
 refine tq 21 hHeld ?_
 (refine tc 22 fun K hK => ?_; go_simp; (go_at_call 125; refine (kDrive (HAt.below h (bel_a))).mono ?_; rintro e w6 ⟨rfl, hb6⟩; have hz6 := hb6.size; (try simp only [zz] at hz6); have := kfa hb6 w.heap.size; have := kfa hb6 cb; have := kfa hb6 g0); (try go_wp2_with fail); refine tr hK (fun hHeld => ?_); clear hK K)
 (refine tc 23 fun K hK => ?_; go_simp; (go_at_call 57; refine (within2_q _ _ _ _ _ (by omega) (by omega) (by with_reducible assumption)).mono ?_; rintro e w7 ⟨rfl, hb7⟩; have hz7 := hb7.size; (try simp only [zz] at hz7); have := kfa hb7 w.heap.size; have := kfa hb7 cb; have := kfa hb7 g0); (try go_wp2_with fail); refine tr hK (fun hHeld => ?_); clear hK K)
 refine tq 24 hHeld ?_
 refine tq 25 hHeld ?_
 refine tq 26 hHeld ?_
 (refine tc 27 fun K hK => ?_; go_simp; (go_at_call 126; refine (kMass (HAt.below h (bel_a))).mono ?_; rintro e w8 ⟨rfl, hb8⟩; have hz8 := hb8.size; (try simp only [zz] at hz8); have := kfa hb8 w.heap.size; have := kfa hb8 cb; have := kfa hb8 g0); (try go_wp2_with fail); refine tr hK (fun hHeld => ?_); clear hK K)
 (refine tc 28 fun K hK => ?_; go_simp; (go_at_call 40; refine (upTo_q _ _ _ _ (by with_reducible assumption)).mono ?_; rintro e w9 ⟨rfl, hb9⟩; have hz9 := hb9.size; (try simp only [zz] at hz9); have := kfa hb9 w.heap.size; have := kfa hb9 cb; have := kfa hb9 g0); (try go_wp2_with fail); refine tr hK (fun hHeld => ?_); clear hK K)
 refine tq 29 hHeld ?_
 refine tq 30 hHeld ?_
 refine tq 31 hHeld ?_
 (refine tc 32 fun K hK => ?_; go_simp; (go_at_call 127; refine (kBounce (HAt.below h (bel_a))).mono ?_; rintro e w10 ⟨rfl, hb10⟩; have hz10 := hb10.size; (try simp only [zz] at hz10); have := kfa hb10 w.heap.size; have := kfa hb10 cb; have := kfa hb10 g0); (try go_wp2_with fail); refine tr hK (fun hHeld => ?_); clear hK K)
 (refine tc 33 fun K hK => ?_; go_simp; (go_at_call 40; refine (upTo_q _ _ _ _ (by with_reducible assumption)).mono ?_; rintro e w11 ⟨rfl, hb11⟩; have hz11 := hb11.size; (try simp only [zz] at hz11); have := kfa hb11 w.heap.size; have := kfa hb11 cb; have := kfa hb11 g0); (try go_wp2_with fail); refine tr hK (fun hHeld => ?_); clear hK K)
 refine tq 34 hHeld ?_
 refine tq 35 hHeld ?_
 refine tq 36 hHeld ?_
 (refine tc 37 fun K hK => ?_; go_simp; (go_at_call 128; refine (kRub (HAt.below h (bel_a))).mono ?_; rintro e w12 ⟨rfl, hb12⟩; have hz12 := hb12.size; (try simp only [zz] at hz12); have := kfa hb12 w.heap.size; have := kfa hb12 cb; have := kfa hb12 g0); (try go_wp2_with fail); refine tr hK (fun hHeld => ?_); clear hK K)
 (refine tc 38 fun K hK => ?_; go_simp; (go_at_call 40; refine (upTo_q _ _ _ _ (by with_reducible assumption)).mono ?_; rintro e w13 ⟨rfl, hb13⟩; have hz13 := hb13.size; (try simp only [zz] at hz13); have := kfa hb13 w.heap.size; have := kfa hb13 cb; have := kfa hb13 g0); (try go_wp2_with fail); refine tr hK (fun hHeld => ?_); clear hK K)
 refine tq 39 hHeld ?_
 refine tq 40 hHeld ?_
 refine tq 41 hHeld ?_
 (refine tc 42 fun K hK => ?_; go_simp; (go_at_call 108; refine (kQuiet (HAt.below h (bel_a))).mono ?_; rintro e w14 ⟨rfl, hb14⟩; have hz14 := hb14.size; (try simp only [zz] at hz14); have := kfa hb14 w.heap.size; have := kfa hb14 cb; have := kfa hb14 g0); (try go_wp2_with fail); refine tr hK (fun hHeld => ?_); clear hK K)
 (refine tc 43 fun K hK => ?_; go_simp; (go_at_call 40; refine (upTo_q _ _ _ _ (by with_reducible assumption)).mono ?_; rintro e w15 ⟨rfl, hb15⟩; have hz15 := hb15.size; (try simp only [zz] at hz15); have := kfa hb15 w.heap.size; have := kfa hb15 cb; have := kfa hb15 g0); (try go_wp2_with fail); refine tr hK (fun hHeld => ?_); clear hK K)
 refine tq 44 hHeld ?_
 refine tq 45 hHeld ?_
 refine tn 46 hHeld ?_
 refine tn 47 hHeld ?_
 refine tq 48 hHeld ?_
 refine tq 49 hHeld ?_
 refine wpAnyH_done (by kernel_rfl) ?_ _
 go_wp2_with fail
 go_ret
 exact ⟨rfl, bel_a⟩
theorem kOk_8 {cb n k : Nat} {V : Nat → Int} {G : Nat → Nat} {w : World} (h : HAt w cb n k V G) (k0 : decide (0 ≤ V 0 ∧ V 0 ≤ 999999999) = true) (k1 : shB (V 1) (V 2) (V 3) = true) (k2 : inB 2560000 (V 4) (V 5) = true) (k3 : inB 20000000 (V 6) (V 7) = true) (k4 : decide (0 ≤ V 8 ∧ V 8 ≤ 1000) = true) (k5 : decide (0 ≤ V 9 ∧ V 9 ≤ 256) = true) (k6 : decide (0 ≤ V 10 ∧ V 10 ≤ 256) = true) (k7 : decide (0 ≤ V 11 ∧ V 11 ≤ 8) = true) (k8 : restB V = false) :
 Calls Tryz.prog 100 #[hdk cb k] w fun e w' => e = .returned (.bool false) ∧ Below w.heap.size w w' := by
 have hset := cset_map
 have l1 := h.cbl
 have hkn := h.kn
 have hnl := h.nl
 obtain ⟨c0, hc0, hv0, _, l0g, lc0⟩ := h.col 0 (by omega)
 generalize hG0 : G 0 = g0 at hc0 hv0 l0g lc0
 clear hG0
 go_enter Tryz.func100, Tryz.ntmps100
 go_upto_region 1 with fail
 refine wp_region_held_drew (S := fun w' => w'.cell? ⟨w.heap.size, 0, none⟩ = some (.int .i64 (k : Int)) ∧ w'.cell? ⟨w.heap.size, 1, none⟩ = some (.pointer (some ⟨cb, 0, none⟩)) ∧ w'.cell? ⟨cb, 0, none⟩ = some (.slice (some ⟨g0, 0, none⟩) n c0) ∧ w'.cell? ⟨g0, k, none⟩ = some (.int .i64 (V 0))) (by kernel_rfl) ?_ (fun hHeld => ?_)
 · (try dsimp only)
   (first | (go_simp; done) | (go_keep; done))
 refine tq 0 hHeld ?_
 refine tq 1 hHeld ?_
 refine tq 2 hHeld ?_
 refine tq 3 hHeld ?_
 refine tq 4 hHeld ?_
 refine tq 5 hHeld ?_
 refine tq 6 hHeld ?_
 refine tq 7 hHeld ?_
 refine tq 8 hHeld ?_
 (refine tc 9 fun K hK => ?_; go_simp; (go_at_call 40; refine (upTo_q _ _ _ _ (by with_reducible assumption)).mono ?_; rintro e w1 ⟨rfl, hb1⟩; have hz1 := hb1.size; (try simp only [zz] at hz1); have := kfa hb1 w.heap.size; have := kfa hb1 cb; have := kfa hb1 g0); (try go_wp2_with fail); refine tr hK (fun hHeld => ?_); clear hK K)
 refine tq 10 hHeld ?_
 refine tq 11 hHeld ?_
 (refine tc 12 fun K hK => ?_; go_simp; (go_at_call 123; refine (kShape (HAt.below h (bel_a))).mono ?_; rintro e w2 ⟨rfl, hb2⟩; have hz2 := hb2.size; (try simp only [zz] at hz2); have := kfa hb2 w.heap.size; have := kfa hb2 cb; have := kfa hb2 g0); (try go_wp2_with fail); refine tr hK (fun hHeld => ?_); clear hK K)
 (refine tc 13 fun K hK => ?_; go_simp; (go_at_call 122; refine (shapeOk_q _ _ _ _ _ (by with_reducible assumption)).mono ?_; rintro e w3 ⟨rfl, hb3⟩; have hz3 := hb3.size; (try simp only [zz] at hz3); have := kfa hb3 w.heap.size; have := kfa hb3 cb; have := kfa hb3 g0); (try go_wp2_with fail); refine tr hK (fun hHeld => ?_); clear hK K)
 refine tq 14 hHeld ?_
 refine tq 15 hHeld ?_
 refine tq 16 hHeld ?_
 (refine tc 17 fun K hK => ?_; go_simp; (go_at_call 124; refine (kAt (HAt.below h (bel_a))).mono ?_; rintro e w4 ⟨rfl, hb4⟩; have hz4 := hb4.size; (try simp only [zz] at hz4); have := kfa hb4 w.heap.size; have := kfa hb4 cb; have := kfa hb4 g0); (try go_wp2_with fail); refine tr hK (fun hHeld => ?_); clear hK K)
 (refine tc 18 fun K hK => ?_; go_simp; (go_at_call 57; refine (within2_q _ _ _ _ _ (by omega) (by omega) (by with_reducible assumption)).mono ?_; rintro e w5 ⟨rfl, hb5⟩; have hz5 := hb5.size; (try simp only [zz] at hz5); have := kfa hb5 w.heap.size; have := kfa hb5 cb; have := kfa hb5 g0); (try go_wp2_with fail); refine tr hK (fun hHeld => ?_); clear hK K)
 refine tq 19 hHeld ?_
 refine tq 20 hHeld ?_
 refine tq 21 hHeld ?_
 (refine tc 22 fun K hK => ?_; go_simp; (go_at_call 125; refine (kDrive (HAt.below h (bel_a))).mono ?_; rintro e w6 ⟨rfl, hb6⟩; have hz6 := hb6.size; (try simp only [zz] at hz6); have := kfa hb6 w.heap.size; have := kfa hb6 cb; have := kfa hb6 g0); (try go_wp2_with fail); refine tr hK (fun hHeld => ?_); clear hK K)
 (refine tc 23 fun K hK => ?_; go_simp; (go_at_call 57; refine (within2_q _ _ _ _ _ (by omega) (by omega) (by with_reducible assumption)).mono ?_; rintro e w7 ⟨rfl, hb7⟩; have hz7 := hb7.size; (try simp only [zz] at hz7); have := kfa hb7 w.heap.size; have := kfa hb7 cb; have := kfa hb7 g0); (try go_wp2_with fail); refine tr hK (fun hHeld => ?_); clear hK K)
 refine tq 24 hHeld ?_
 refine tq 25 hHeld ?_
 refine tq 26 hHeld ?_
 (refine tc 27 fun K hK => ?_; go_simp; (go_at_call 126; refine (kMass (HAt.below h (bel_a))).mono ?_; rintro e w8 ⟨rfl, hb8⟩; have hz8 := hb8.size; (try simp only [zz] at hz8); have := kfa hb8 w.heap.size; have := kfa hb8 cb; have := kfa hb8 g0); (try go_wp2_with fail); refine tr hK (fun hHeld => ?_); clear hK K)
 (refine tc 28 fun K hK => ?_; go_simp; (go_at_call 40; refine (upTo_q _ _ _ _ (by with_reducible assumption)).mono ?_; rintro e w9 ⟨rfl, hb9⟩; have hz9 := hb9.size; (try simp only [zz] at hz9); have := kfa hb9 w.heap.size; have := kfa hb9 cb; have := kfa hb9 g0); (try go_wp2_with fail); refine tr hK (fun hHeld => ?_); clear hK K)
 refine tq 29 hHeld ?_
 refine tq 30 hHeld ?_
 refine tq 31 hHeld ?_
 (refine tc 32 fun K hK => ?_; go_simp; (go_at_call 127; refine (kBounce (HAt.below h (bel_a))).mono ?_; rintro e w10 ⟨rfl, hb10⟩; have hz10 := hb10.size; (try simp only [zz] at hz10); have := kfa hb10 w.heap.size; have := kfa hb10 cb; have := kfa hb10 g0); (try go_wp2_with fail); refine tr hK (fun hHeld => ?_); clear hK K)
 (refine tc 33 fun K hK => ?_; go_simp; (go_at_call 40; refine (upTo_q _ _ _ _ (by with_reducible assumption)).mono ?_; rintro e w11 ⟨rfl, hb11⟩; have hz11 := hb11.size; (try simp only [zz] at hz11); have := kfa hb11 w.heap.size; have := kfa hb11 cb; have := kfa hb11 g0); (try go_wp2_with fail); refine tr hK (fun hHeld => ?_); clear hK K)
 refine tq 34 hHeld ?_
 refine tq 35 hHeld ?_
 refine tq 36 hHeld ?_
 (refine tc 37 fun K hK => ?_; go_simp; (go_at_call 128; refine (kRub (HAt.below h (bel_a))).mono ?_; rintro e w12 ⟨rfl, hb12⟩; have hz12 := hb12.size; (try simp only [zz] at hz12); have := kfa hb12 w.heap.size; have := kfa hb12 cb; have := kfa hb12 g0); (try go_wp2_with fail); refine tr hK (fun hHeld => ?_); clear hK K)
 (refine tc 38 fun K hK => ?_; go_simp; (go_at_call 40; refine (upTo_q _ _ _ _ (by with_reducible assumption)).mono ?_; rintro e w13 ⟨rfl, hb13⟩; have hz13 := hb13.size; (try simp only [zz] at hz13); have := kfa hb13 w.heap.size; have := kfa hb13 cb; have := kfa hb13 g0); (try go_wp2_with fail); refine tr hK (fun hHeld => ?_); clear hK K)
 refine tq 39 hHeld ?_
 refine tq 40 hHeld ?_
 refine tq 41 hHeld ?_
 (refine tc 42 fun K hK => ?_; go_simp; (go_at_call 108; refine (kQuiet (HAt.below h (bel_a))).mono ?_; rintro e w14 ⟨rfl, hb14⟩; have hz14 := hb14.size; (try simp only [zz] at hz14); have := kfa hb14 w.heap.size; have := kfa hb14 cb; have := kfa hb14 g0); (try go_wp2_with fail); refine tr hK (fun hHeld => ?_); clear hK K)
 (refine tc 43 fun K hK => ?_; go_simp; (go_at_call 40; refine (upTo_q _ _ _ _ (by with_reducible assumption)).mono ?_; rintro e w15 ⟨rfl, hb15⟩; have hz15 := hb15.size; (try simp only [zz] at hz15); have := kfa hb15 w.heap.size; have := kfa hb15 cb; have := kfa hb15 g0); (try go_wp2_with fail); refine tr hK (fun hHeld => ?_); clear hK K)
 refine tq 44 hHeld ?_
 refine tq 45 hHeld ?_
 refine tq 46 hHeld ?_
 (refine tc 47 fun K hK => ?_; go_simp; (go_at_call 129; refine (kRestOk (HAt.below h (bel_a)) _ (by with_reducible assumption)).mono ?_; rintro e w16 ⟨rfl, hb16⟩; have hz16 := hb16.size; (try simp only [zz] at hz16); have := kfa hb16 w.heap.size; have := kfa hb16 cb; have := kfa hb16 g0); (try go_wp2_with fail); refine tr hK (fun hHeld => ?_); clear hK K)
 refine tq 48 hHeld ?_
 refine tq 49 hHeld ?_
 refine wpAnyH_done (by kernel_rfl) ?_ _
 go_wp2_with fail
 go_ret
 exact ⟨rfl, bel_a⟩
theorem kOk_9 {cb n k : Nat} {V : Nat → Int} {G : Nat → Nat} {w : World} (h : HAt w cb n k V G) (k0 : decide (0 ≤ V 0 ∧ V 0 ≤ 999999999) = true) (k1 : shB (V 1) (V 2) (V 3) = true) (k2 : inB 2560000 (V 4) (V 5) = true) (k3 : inB 20000000 (V 6) (V 7) = true) (k4 : decide (0 ≤ V 8 ∧ V 8 ≤ 1000) = true) (k5 : decide (0 ≤ V 9 ∧ V 9 ≤ 256) = true) (k6 : decide (0 ≤ V 10 ∧ V 10 ≤ 256) = true) (k7 : decide (0 ≤ V 11 ∧ V 11 ≤ 8) = true) (k8 : restB V = true) :
 Calls Tryz.prog 100 #[hdk cb k] w fun e w' => e = .returned (.bool true) ∧ Below w.heap.size w w' := by
 have hset := cset_map
 have l1 := h.cbl
 have hkn := h.kn
 have hnl := h.nl
 obtain ⟨c0, hc0, hv0, _, l0g, lc0⟩ := h.col 0 (by omega)
 generalize hG0 : G 0 = g0 at hc0 hv0 l0g lc0
 clear hG0
 go_enter Tryz.func100, Tryz.ntmps100
 go_upto_region 1 with fail
 refine wp_region_held_drew (S := fun w' => w'.cell? ⟨w.heap.size, 0, none⟩ = some (.int .i64 (k : Int)) ∧ w'.cell? ⟨w.heap.size, 1, none⟩ = some (.pointer (some ⟨cb, 0, none⟩)) ∧ w'.cell? ⟨cb, 0, none⟩ = some (.slice (some ⟨g0, 0, none⟩) n c0) ∧ w'.cell? ⟨g0, k, none⟩ = some (.int .i64 (V 0))) (by kernel_rfl) ?_ (fun hHeld => ?_)
 · (try dsimp only)
   (first | (go_simp; done) | (go_keep; done))
 refine tq 0 hHeld ?_
 refine tq 1 hHeld ?_
 refine tq 2 hHeld ?_
 refine tq 3 hHeld ?_
 refine tq 4 hHeld ?_
 refine tq 5 hHeld ?_
 refine tq 6 hHeld ?_
 refine tq 7 hHeld ?_
 refine tq 8 hHeld ?_
 (refine tc 9 fun K hK => ?_; go_simp; (go_at_call 40; refine (upTo_q _ _ _ _ (by with_reducible assumption)).mono ?_; rintro e w1 ⟨rfl, hb1⟩; have hz1 := hb1.size; (try simp only [zz] at hz1); have := kfa hb1 w.heap.size; have := kfa hb1 cb; have := kfa hb1 g0); (try go_wp2_with fail); refine tr hK (fun hHeld => ?_); clear hK K)
 refine tq 10 hHeld ?_
 refine tq 11 hHeld ?_
 (refine tc 12 fun K hK => ?_; go_simp; (go_at_call 123; refine (kShape (HAt.below h (bel_a))).mono ?_; rintro e w2 ⟨rfl, hb2⟩; have hz2 := hb2.size; (try simp only [zz] at hz2); have := kfa hb2 w.heap.size; have := kfa hb2 cb; have := kfa hb2 g0); (try go_wp2_with fail); refine tr hK (fun hHeld => ?_); clear hK K)
 (refine tc 13 fun K hK => ?_; go_simp; (go_at_call 122; refine (shapeOk_q _ _ _ _ _ (by with_reducible assumption)).mono ?_; rintro e w3 ⟨rfl, hb3⟩; have hz3 := hb3.size; (try simp only [zz] at hz3); have := kfa hb3 w.heap.size; have := kfa hb3 cb; have := kfa hb3 g0); (try go_wp2_with fail); refine tr hK (fun hHeld => ?_); clear hK K)
 refine tq 14 hHeld ?_
 refine tq 15 hHeld ?_
 refine tq 16 hHeld ?_
 (refine tc 17 fun K hK => ?_; go_simp; (go_at_call 124; refine (kAt (HAt.below h (bel_a))).mono ?_; rintro e w4 ⟨rfl, hb4⟩; have hz4 := hb4.size; (try simp only [zz] at hz4); have := kfa hb4 w.heap.size; have := kfa hb4 cb; have := kfa hb4 g0); (try go_wp2_with fail); refine tr hK (fun hHeld => ?_); clear hK K)
 (refine tc 18 fun K hK => ?_; go_simp; (go_at_call 57; refine (within2_q _ _ _ _ _ (by omega) (by omega) (by with_reducible assumption)).mono ?_; rintro e w5 ⟨rfl, hb5⟩; have hz5 := hb5.size; (try simp only [zz] at hz5); have := kfa hb5 w.heap.size; have := kfa hb5 cb; have := kfa hb5 g0); (try go_wp2_with fail); refine tr hK (fun hHeld => ?_); clear hK K)
 refine tq 19 hHeld ?_
 refine tq 20 hHeld ?_
 refine tq 21 hHeld ?_
 (refine tc 22 fun K hK => ?_; go_simp; (go_at_call 125; refine (kDrive (HAt.below h (bel_a))).mono ?_; rintro e w6 ⟨rfl, hb6⟩; have hz6 := hb6.size; (try simp only [zz] at hz6); have := kfa hb6 w.heap.size; have := kfa hb6 cb; have := kfa hb6 g0); (try go_wp2_with fail); refine tr hK (fun hHeld => ?_); clear hK K)
 (refine tc 23 fun K hK => ?_; go_simp; (go_at_call 57; refine (within2_q _ _ _ _ _ (by omega) (by omega) (by with_reducible assumption)).mono ?_; rintro e w7 ⟨rfl, hb7⟩; have hz7 := hb7.size; (try simp only [zz] at hz7); have := kfa hb7 w.heap.size; have := kfa hb7 cb; have := kfa hb7 g0); (try go_wp2_with fail); refine tr hK (fun hHeld => ?_); clear hK K)
 refine tq 24 hHeld ?_
 refine tq 25 hHeld ?_
 refine tq 26 hHeld ?_
 (refine tc 27 fun K hK => ?_; go_simp; (go_at_call 126; refine (kMass (HAt.below h (bel_a))).mono ?_; rintro e w8 ⟨rfl, hb8⟩; have hz8 := hb8.size; (try simp only [zz] at hz8); have := kfa hb8 w.heap.size; have := kfa hb8 cb; have := kfa hb8 g0); (try go_wp2_with fail); refine tr hK (fun hHeld => ?_); clear hK K)
 (refine tc 28 fun K hK => ?_; go_simp; (go_at_call 40; refine (upTo_q _ _ _ _ (by with_reducible assumption)).mono ?_; rintro e w9 ⟨rfl, hb9⟩; have hz9 := hb9.size; (try simp only [zz] at hz9); have := kfa hb9 w.heap.size; have := kfa hb9 cb; have := kfa hb9 g0); (try go_wp2_with fail); refine tr hK (fun hHeld => ?_); clear hK K)
 refine tq 29 hHeld ?_
 refine tq 30 hHeld ?_
 refine tq 31 hHeld ?_
 (refine tc 32 fun K hK => ?_; go_simp; (go_at_call 127; refine (kBounce (HAt.below h (bel_a))).mono ?_; rintro e w10 ⟨rfl, hb10⟩; have hz10 := hb10.size; (try simp only [zz] at hz10); have := kfa hb10 w.heap.size; have := kfa hb10 cb; have := kfa hb10 g0); (try go_wp2_with fail); refine tr hK (fun hHeld => ?_); clear hK K)
 (refine tc 33 fun K hK => ?_; go_simp; (go_at_call 40; refine (upTo_q _ _ _ _ (by with_reducible assumption)).mono ?_; rintro e w11 ⟨rfl, hb11⟩; have hz11 := hb11.size; (try simp only [zz] at hz11); have := kfa hb11 w.heap.size; have := kfa hb11 cb; have := kfa hb11 g0); (try go_wp2_with fail); refine tr hK (fun hHeld => ?_); clear hK K)
 refine tq 34 hHeld ?_
 refine tq 35 hHeld ?_
 refine tq 36 hHeld ?_
 (refine tc 37 fun K hK => ?_; go_simp; (go_at_call 128; refine (kRub (HAt.below h (bel_a))).mono ?_; rintro e w12 ⟨rfl, hb12⟩; have hz12 := hb12.size; (try simp only [zz] at hz12); have := kfa hb12 w.heap.size; have := kfa hb12 cb; have := kfa hb12 g0); (try go_wp2_with fail); refine tr hK (fun hHeld => ?_); clear hK K)
 (refine tc 38 fun K hK => ?_; go_simp; (go_at_call 40; refine (upTo_q _ _ _ _ (by with_reducible assumption)).mono ?_; rintro e w13 ⟨rfl, hb13⟩; have hz13 := hb13.size; (try simp only [zz] at hz13); have := kfa hb13 w.heap.size; have := kfa hb13 cb; have := kfa hb13 g0); (try go_wp2_with fail); refine tr hK (fun hHeld => ?_); clear hK K)
 refine tq 39 hHeld ?_
 refine tq 40 hHeld ?_
 refine tq 41 hHeld ?_
 (refine tc 42 fun K hK => ?_; go_simp; (go_at_call 108; refine (kQuiet (HAt.below h (bel_a))).mono ?_; rintro e w14 ⟨rfl, hb14⟩; have hz14 := hb14.size; (try simp only [zz] at hz14); have := kfa hb14 w.heap.size; have := kfa hb14 cb; have := kfa hb14 g0); (try go_wp2_with fail); refine tr hK (fun hHeld => ?_); clear hK K)
 (refine tc 43 fun K hK => ?_; go_simp; (go_at_call 40; refine (upTo_q _ _ _ _ (by with_reducible assumption)).mono ?_; rintro e w15 ⟨rfl, hb15⟩; have hz15 := hb15.size; (try simp only [zz] at hz15); have := kfa hb15 w.heap.size; have := kfa hb15 cb; have := kfa hb15 g0); (try go_wp2_with fail); refine tr hK (fun hHeld => ?_); clear hK K)
 refine tq 44 hHeld ?_
 refine tq 45 hHeld ?_
 refine tq 46 hHeld ?_
 (refine tc 47 fun K hK => ?_; go_simp; (go_at_call 129; refine (kRestOk (HAt.below h (bel_a)) _ (by with_reducible assumption)).mono ?_; rintro e w16 ⟨rfl, hb16⟩; have hz16 := hb16.size; (try simp only [zz] at hz16); have := kfa hb16 w.heap.size; have := kfa hb16 cb; have := kfa hb16 g0); (try go_wp2_with fail); refine tr hK (fun hHeld => ?_); clear hK K)
 refine tq 48 hHeld ?_
 refine tq 49 hHeld ?_
 refine wpAnyH_done (by kernel_rfl) ?_ _
 go_wp2_with fail
 go_ret
 exact ⟨rfl, bel_a⟩
theorem kOk_any {cb n k : Nat} {V : Nat → Int} {G : Nat → Nat} {w : World} (h : HAt w cb n k V G) :
 Calls Tryz.prog 100 #[hdk cb k] w fun e w' => e = .returned (.bool (bodyB V)) ∧ Below w.heap.size w w' := by
 unfold bodyB
 cases k0 : decide (0 ≤ V 0 ∧ V 0 ≤ 999999999) with
 | false => exact kOk_0 h k0
 | true =>
  cases k1 : shB (V 1) (V 2) (V 3) with
  | false => exact kOk_1 h k0 k1
  | true =>
   cases k2 : inB 2560000 (V 4) (V 5) with
   | false => exact kOk_2 h k0 k1 k2
   | true =>
    cases k3 : inB 20000000 (V 6) (V 7) with
    | false => exact kOk_3 h k0 k1 k2 k3
    | true =>
     cases k4 : decide (0 ≤ V 8 ∧ V 8 ≤ 1000) with
     | false => exact kOk_4 h k0 k1 k2 k3 k4
     | true =>
      cases k5 : decide (0 ≤ V 9 ∧ V 9 ≤ 256) with
      | false => exact kOk_5 h k0 k1 k2 k3 k4 k5
      | true =>
       cases k6 : decide (0 ≤ V 10 ∧ V 10 ≤ 256) with
       | false => exact kOk_6 h k0 k1 k2 k3 k4 k5 k6
       | true =>
        cases k7 : decide (0 ≤ V 11 ∧ V 11 ≤ 8) with
        | false => exact kOk_7 h k0 k1 k2 k3 k4 k5 k6 k7
        | true =>
         cases k8 : restB V with
         | false => exact kOk_8 h k0 k1 k2 k3 k4 k5 k6 k7 k8
         | true =>
          exact kOk_9 h k0 k1 k2 k3 k4 k5 k6 k7 k8
theorem kOk_q {cb n k : Nat} {V : Nat → Int} {G : Nat → Nat} {w : World} (h : HAt w cb n k V G) (b : Bool) (e : bodyB V = b) :
 Calls Tryz.prog 100 #[hdk cb k] w fun e w' => e = .returned (.bool b) ∧ Below w.heap.size w w' := by
 subst e; exact kOk_any h
end Go.Proofs.YthijeiehcdoidaaGreat
