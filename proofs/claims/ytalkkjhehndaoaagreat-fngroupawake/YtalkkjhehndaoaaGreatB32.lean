/- Texts of a proof. -/
import Derived.Test.YtalkkjhehndaoaaGreatB2
import Derived.Test.YtalkkjhehndaoaaGreatB4
import Derived.Test.YtalkkjhehndaoaaGreatB31
import Derived.Deep.RegionHeld3
import Derived.Deep.DeepCutAuto
set_option maxHeartbeats 16000000
set_option maxRecDepth 20000
namespace Go.Proofs.YtalkkjhehndaoaaGreat
open Go.RowKit
set_option linter.unusedVariables false
set_option linter.unusedSimpArgs false
theorem roundsTouch_q (x y g1 h1 u v g2 h2 X Y D : Int) (K : Bool) (w : World) (lg1 : 1 ≤ g1 ∧ g1 ≤ 25600) (lg2 : 1 ≤ g2 ∧ g2 ≤ 25600) (px : -2560000 ≤ x ∧ x ≤ 2560000) (py : -2560000 ≤ y ∧ y ≤ 2560000) (pu : -2560000 ≤ u ∧ u ≤ 2560000) (pv : -2560000 ≤ v ∧ v ≤ 2560000) (e : rdT (u - x) (v - y) (g1 + g2) = ((X, Y, D), K)) :
 Calls Tryz.prog 110 #[b4 x y g1 h1, b4 u v g2 h2] w fun e w' => e = .returned (.tuple #[s3 X Y D, .bool K]) ∧ Below w.heap.size w w' := by
 have hset := cset_map
 have w1 := i64w (n := g1 + g2) (by omega)
 go_enter Tryz.func110, Tryz.ntmps110
 go_upto_region 1 with fail
 refine wp_region_held_drew (S := fun w' => w'.cell? ⟨w.heap.size, 0, none⟩ = some (.int .i64 x) ∧ w'.cell? ⟨w.heap.size, 1, none⟩ = some (.int .i64 y) ∧ w'.cell? ⟨w.heap.size, 2, none⟩ = some (.int .i64 g1) ∧ w'.cell? ⟨w.heap.size, 3, none⟩ = some (.int .i64 h1) ∧ w'.cell? ⟨w.heap.size + 1, 0, none⟩ = some (.int .i64 u) ∧ w'.cell? ⟨w.heap.size + 1, 1, none⟩ = some (.int .i64 v) ∧ w'.cell? ⟨w.heap.size + 1, 2, none⟩ = some (.int .i64 g2) ∧ w'.cell? ⟨w.heap.size + 1, 3, none⟩ = some (.int .i64 h2)) (by kernel_rfl) ?_ (fun hHeld => ?_)
 · (try dsimp only)
   (first | (go_simp; done) | (go_keep; done))
 refine tq 0 hHeld ?_
 refine tq 1 hHeld ?_
 refine tq 2 hHeld ?_
 refine tq 3 hHeld ?_
 refine tq 5 hHeld ?_
 refine tq 7 hHeld ?_
 (refine tc 4 fun K hK => ?_; go_simp; (go_at_call 119; refine (less_any _ _ _ _ _ (by omega) (by omega) (by omega) (by omega)).mono ?_; rintro e w1 ⟨rfl, hb1⟩; obtain ⟨hc1, hf1⟩ := bcell hb1; have hz1 := hb1.size; (try simp only [World.size_drew, World.size_alloc, World.size_setCell] at hc1 hf1 hz1); obtain ⟨hk1x0, hj1x0, hq1x0⟩ := kfa hb1 (w.heap.size); obtain ⟨hk1x1, hj1x1, hq1x1⟩ := kfa hb1 (w.heap.size + 1); obtain ⟨hk1x2, hj1x2, hq1x2⟩ := kfa hb1 (w.heap.size + 1 + 1); clear hc1 hf1); (try go_wp2_with fail); refine tr hK (fun hHeld => ?_); clear hK K)
 (refine tc 6 fun K hK => ?_; go_simp; (go_at_call 120; refine (placedWide_q _ _ _ _ _).mono ?_; rintro e w2 ⟨rfl, hb2⟩; obtain ⟨hc2, hf2⟩ := bcell hb2; have hz2 := hb2.size; (try simp only [World.size_drew, World.size_alloc, World.size_setCell] at hc2 hf2 hz2); obtain ⟨hk2x0, hj2x0, hq2x0⟩ := kfa hb2 (w.heap.size); obtain ⟨hk2x1, hj2x1, hq2x1⟩ := kfa hb2 (w.heap.size + 1); obtain ⟨hk2x2, hj2x2, hq2x2⟩ := kfa hb2 (w.heap.size + 1 + 1); clear hc2 hf2); (try go_wp2_with fail); refine tr hK (fun hHeld => ?_); clear hK K)
 (refine tc 8 fun K hK => ?_; go_simp; (go_at_call 120; refine (placedWide_q _ _ _ _ _).mono ?_; rintro e w3 ⟨rfl, hb3⟩; obtain ⟨hc3, hf3⟩ := bcell hb3; have hz3 := hb3.size; (try simp only [World.size_drew, World.size_alloc, World.size_setCell] at hc3 hf3 hz3); obtain ⟨hk3x0, hj3x0, hq3x0⟩ := kfa hb3 (w.heap.size); obtain ⟨hk3x1, hj3x1, hq3x1⟩ := kfa hb3 (w.heap.size + 1); obtain ⟨hk3x2, hj3x2, hq3x2⟩ := kfa hb3 (w.heap.size + 1 + 1); clear hc3 hf3); (try go_wp2_with fail); refine tr hK (fun hHeld => ?_); clear hK K)
 refine tq 9 hHeld ?_
 (refine tc 10 fun K hK => ?_; go_simp; (go_at_call 118; refine (roundDent_q _ _ _ X Y D _ _ (by omega) (by omega) (by omega) e).mono ?_; rintro e w4 ⟨rfl, hb4⟩; obtain ⟨hc4, hf4⟩ := bcell hb4; have hz4 := hb4.size; (try simp only [World.size_drew, World.size_alloc, World.size_setCell] at hc4 hf4 hz4); obtain ⟨hk4x0, hj4x0, hq4x0⟩ := kfa hb4 (w.heap.size); obtain ⟨hk4x1, hj4x1, hq4x1⟩ := kfa hb4 (w.heap.size + 1); obtain ⟨hk4x2, hj4x2, hq4x2⟩ := kfa hb4 (w.heap.size + 1 + 1); clear hc4 hf4); (try go_wp2_with fail); refine tr hK (fun hHeld => ?_); clear hK K)
 refine tq 11 hHeld ?_
 refine tq 12 hHeld ?_
 (refine tc 13 fun K hK => ?_; go_simp; refine tr hK (fun hHeld => ?_); clear hK K)
 refine tq 14 hHeld ?_
 refine wpAnyH_done (by kernel_rfl) ?_ _
 go_wp2_with fail
 exact bodyPost_ret (v := .tuple #[s3 X Y D, .bool K]) (by simp [results, Tryz.results110, go_sem, *]) rfl ⟨rfl, bel_a⟩
theorem smeet_z (a b c d r s t u : Int) (z : Bool) (w : World) (e : (leB a b t u && leB r s c d) = z) :
 Calls Tryz.prog 126 #[b4 a b c d, b4 r s t u] w fun e w' => e = .returned (.bool z) ∧ Below w.heap.size w w' := by
 subst e; exact spanMeets_any a b c d r s t u w
theorem shas_z (a b c d r s t u : Int) (z : Bool) (w : World) (e : (leB a b r s && leB t u c d) = z) :
 Calls Tryz.prog 123 #[b4 a b c d, b4 r s t u] w fun e w' => e = .returned (.bool z) ∧ Below w.heap.size w w' := by
 subst e; exact spanHas_any a b c d r s t u w
theorem snear_z (a b c d x y X Y : Int) (w : World) (e1 : mn (mx x a) c = X) (e2 : mn (mx y b) d = Y) :
 Calls Tryz.prog 125 #[b4 a b c d, vv x y] w fun e w' => e = .returned (vv X Y) ∧ Below w.heap.size w w' := by
 subst e1; subst e2; exact spanNear_any a b c d x y w
theorem boxesTouch_q (x y g1 h1 u v g2 h2 X Y D : Int) (K : Bool) (w : World) (lg1 : 1 ≤ g1 ∧ g1 ≤ 25600) (lh1 : 1 ≤ h1 ∧ h1 ≤ 25600) (lg2 : 1 ≤ g2 ∧ g2 ≤ 25600) (lh2 : 1 ≤ h2 ∧ h2 ≤ 25600) (px : -2560000 ≤ x ∧ x ≤ 2560000) (py : -2560000 ≤ y ∧ y ≤ 2560000) (pu : -2560000 ≤ u ∧ u ≤ 2560000) (pv : -2560000 ≤ v ∧ v ≤ 2560000) (e : bxT (x - g1) (y - h1) (x + g1) (y + h1) (u - g2) (v - h2) (u + g2) (v + h2) = ((X, Y, D), K)) :
 Calls Tryz.prog 113 #[b4 x y g1 h1, b4 u v g2 h2] w fun e w' => e = .returned (.tuple #[s3 X Y D, .bool K]) ∧ Below w.heap.size w w' := by
 have hset := cset_map
 unfold bxT at e
 cases eM : (leB (x - g1) (y - h1) (u + g2) (v + h2) && leB (u - g2) (v - h2) (x + g1) (y + h1)) with
 | false =>
  rw [if_neg (by simp [eM])] at e
  simp only [Prod.mk.injEq] at e
  obtain ⟨⟨eX, eY, eD⟩, eK⟩ := e
  subst eX
  subst eY
  subst eD
  subst eK
  go_enter Tryz.func113, Tryz.ntmps113
  go_upto_region 1 with fail
  refine wp_region_held_drew (S := fun w' => w'.cell? ⟨w.heap.size, 0, none⟩ = some (.int .i64 x) ∧ w'.cell? ⟨w.heap.size, 1, none⟩ = some (.int .i64 y) ∧ w'.cell? ⟨w.heap.size, 2, none⟩ = some (.int .i64 g1) ∧ w'.cell? ⟨w.heap.size, 3, none⟩ = some (.int .i64 h1) ∧ w'.cell? ⟨w.heap.size + 1, 0, none⟩ = some (.int .i64 u) ∧ w'.cell? ⟨w.heap.size + 1, 1, none⟩ = some (.int .i64 v) ∧ w'.cell? ⟨w.heap.size + 1, 2, none⟩ = some (.int .i64 g2) ∧ w'.cell? ⟨w.heap.size + 1, 3, none⟩ = some (.int .i64 h2)) (by kernel_rfl) ?_ (fun hHeld => ?_)
  · (try dsimp only)
    (first | (go_simp; done) | (go_keep; done))
  refine tq 0 hHeld ?_
  refine tq 2 hHeld ?_
  (refine tc 1 fun K hK => ?_; go_simp; (go_at_call 122; refine (placedBounds_q _ _ _ _ _ (by omega) (by omega) (by omega) (by omega)).mono ?_; rintro e w1 ⟨rfl, hb1⟩; obtain ⟨hc1, hf1⟩ := bcell hb1; have hz1 := hb1.size; (try simp only [World.size_drew, World.size_alloc, World.size_setCell] at hc1 hf1 hz1); obtain ⟨hk1x0, hj1x0, hq1x0⟩ := kfa hb1 (w.heap.size); obtain ⟨hk1x1, hj1x1, hq1x1⟩ := kfa hb1 (w.heap.size + 1); obtain ⟨hk1x2, hj1x2, hq1x2⟩ := kfa hb1 (w.heap.size + 1 + 1); clear hc1 hf1); (try go_wp2_with fail); refine tr hK (fun hHeld => ?_); clear hK K)
  (refine tc 3 fun K hK => ?_; go_simp; (go_at_call 122; refine (placedBounds_q _ _ _ _ _ (by omega) (by omega) (by omega) (by omega)).mono ?_; rintro e w2 ⟨rfl, hb2⟩; obtain ⟨hc2, hf2⟩ := bcell hb2; have hz2 := hb2.size; (try simp only [World.size_drew, World.size_alloc, World.size_setCell] at hc2 hf2 hz2); obtain ⟨hk2x0, hj2x0, hq2x0⟩ := kfa hb2 (w.heap.size); obtain ⟨hk2x1, hj2x1, hq2x1⟩ := kfa hb2 (w.heap.size + 1); obtain ⟨hk2x2, hj2x2, hq2x2⟩ := kfa hb2 (w.heap.size + 1 + 1); clear hc2 hf2); (try go_wp2_with fail); refine tr hK (fun hHeld => ?_); clear hK K)
  (refine tc 4 fun K hK => ?_; go_simp; (go_at_call 126; refine (smeet_z _ _ _ _ _ _ _ _ _ _ eM).mono ?_; rintro e w3 ⟨rfl, hb3⟩; obtain ⟨hc3, hf3⟩ := bcell hb3; have hz3 := hb3.size; (try simp only [World.size_drew, World.size_alloc, World.size_setCell] at hc3 hf3 hz3); obtain ⟨hk3x0, hj3x0, hq3x0⟩ := kfa hb3 (w.heap.size); obtain ⟨hk3x1, hj3x1, hq3x1⟩ := kfa hb3 (w.heap.size + 1); obtain ⟨hk3x2, hj3x2, hq3x2⟩ := kfa hb3 (w.heap.size + 1 + 1); clear hc3 hf3); (try go_wp2_with fail); refine tr hK (fun hHeld => ?_); clear hK K)
  refine tq 5 hHeld ?_
  refine wpAnyH_done (by kernel_rfl) ?_ _
  go_wp2_with fail
  exact bodyPost_ret (v := .tuple #[s3 0 0 0, .bool false]) (by simp [results, Tryz.results113, go_sem, *]) rfl ⟨rfl, bel_a⟩
 | true =>
  rw [if_pos eM] at e
  obtain ⟨⟨P, Q, E⟩, eD⟩ : ∃ z, bsT (x + g1 - (u - g2)) (u + g2 - (x - g1)) (y + h1 - (v - h2)) (v + h2 - (y - h1)) = z := ⟨_, rfl⟩
  rw [eD] at e
  simp only [Prod.mk.injEq] at e
  obtain ⟨⟨eX, eY, eZ⟩, eK⟩ := e
  subst eX
  subst eY
  subst eZ
  subst eK
  go_enter Tryz.func113, Tryz.ntmps113
  go_upto_region 1 with fail
  refine wp_region_held_drew (S := fun w' => w'.cell? ⟨w.heap.size, 0, none⟩ = some (.int .i64 x) ∧ w'.cell? ⟨w.heap.size, 1, none⟩ = some (.int .i64 y) ∧ w'.cell? ⟨w.heap.size, 2, none⟩ = some (.int .i64 g1) ∧ w'.cell? ⟨w.heap.size, 3, none⟩ = some (.int .i64 h1) ∧ w'.cell? ⟨w.heap.size + 1, 0, none⟩ = some (.int .i64 u) ∧ w'.cell? ⟨w.heap.size + 1, 1, none⟩ = some (.int .i64 v) ∧ w'.cell? ⟨w.heap.size + 1, 2, none⟩ = some (.int .i64 g2) ∧ w'.cell? ⟨w.heap.size + 1, 3, none⟩ = some (.int .i64 h2)) (by kernel_rfl) ?_ (fun hHeld => ?_)
  · (try dsimp only)
    (first | (go_simp; done) | (go_keep; done))
  refine tq 0 hHeld ?_
  refine tq 2 hHeld ?_
  (refine tc 1 fun K hK => ?_; go_simp; (go_at_call 122; refine (placedBounds_q _ _ _ _ _ (by omega) (by omega) (by omega) (by omega)).mono ?_; rintro e w1 ⟨rfl, hb1⟩; obtain ⟨hc1, hf1⟩ := bcell hb1; have hz1 := hb1.size; (try simp only [World.size_drew, World.size_alloc, World.size_setCell] at hc1 hf1 hz1); obtain ⟨hk1x0, hj1x0, hq1x0⟩ := kfa hb1 (w.heap.size); obtain ⟨hk1x1, hj1x1, hq1x1⟩ := kfa hb1 (w.heap.size + 1); obtain ⟨hk1x2, hj1x2, hq1x2⟩ := kfa hb1 (w.heap.size + 1 + 1); clear hc1 hf1); (try go_wp2_with fail); refine tr hK (fun hHeld => ?_); clear hK K)
  (refine tc 3 fun K hK => ?_; go_simp; (go_at_call 122; refine (placedBounds_q _ _ _ _ _ (by omega) (by omega) (by omega) (by omega)).mono ?_; rintro e w2 ⟨rfl, hb2⟩; obtain ⟨hc2, hf2⟩ := bcell hb2; have hz2 := hb2.size; (try simp only [World.size_drew, World.size_alloc, World.size_setCell] at hc2 hf2 hz2); obtain ⟨hk2x0, hj2x0, hq2x0⟩ := kfa hb2 (w.heap.size); obtain ⟨hk2x1, hj2x1, hq2x1⟩ := kfa hb2 (w.heap.size + 1); obtain ⟨hk2x2, hj2x2, hq2x2⟩ := kfa hb2 (w.heap.size + 1 + 1); clear hc2 hf2); (try go_wp2_with fail); refine tr hK (fun hHeld => ?_); clear hK K)
  (refine tc 4 fun K hK => ?_; go_simp; (go_at_call 126; refine (smeet_z _ _ _ _ _ _ _ _ _ _ eM).mono ?_; rintro e w3 ⟨rfl, hb3⟩; obtain ⟨hc3, hf3⟩ := bcell hb3; have hz3 := hb3.size; (try simp only [World.size_drew, World.size_alloc, World.size_setCell] at hc3 hf3 hz3); obtain ⟨hk3x0, hj3x0, hq3x0⟩ := kfa hb3 (w.heap.size); obtain ⟨hk3x1, hj3x1, hq3x1⟩ := kfa hb3 (w.heap.size + 1); obtain ⟨hk3x2, hj3x2, hq3x2⟩ := kfa hb3 (w.heap.size + 1 + 1); clear hc3 hf3); (try go_wp2_with fail); refine tr hK (fun hHeld => ?_); clear hK K)
  refine tq 5 hHeld ?_
  refine wpAnyH_done (by kernel_rfl) ?_ _
  go_upto_region 3 with fail
  refine wp_region_held_drew (S := fun w' => w'.cell? ⟨w.heap.size, 0, none⟩ = some (.int .i64 x) ∧ w'.cell? ⟨w.heap.size, 1, none⟩ = some (.int .i64 y) ∧ w'.cell? ⟨w.heap.size, 2, none⟩ = some (.int .i64 g1) ∧ w'.cell? ⟨w.heap.size, 3, none⟩ = some (.int .i64 h1) ∧ w'.cell? ⟨w.heap.size + 1, 0, none⟩ = some (.int .i64 u) ∧ w'.cell? ⟨w.heap.size + 1, 1, none⟩ = some (.int .i64 v) ∧ w'.cell? ⟨w.heap.size + 1, 2, none⟩ = some (.int .i64 g2) ∧ w'.cell? ⟨w.heap.size + 1, 3, none⟩ = some (.int .i64 h2)) (by kernel_rfl) ?_ (fun hHeld => ?_)
  · (try dsimp only)
    (first | (go_simp; done) | (go_keep; done))
  refine tq 0 hHeld ?_
  refine tq 2 hHeld ?_
  (refine tc 1 fun K hK => ?_; go_simp; (go_at_call 122; refine (placedBounds_q _ _ _ _ _ (by omega) (by omega) (by omega) (by omega)).mono ?_; rintro e w4 ⟨rfl, hb4⟩; obtain ⟨hc4, hf4⟩ := bcell hb4; have hz4 := hb4.size; (try simp only [World.size_drew, World.size_alloc, World.size_setCell] at hc4 hf4 hz4); obtain ⟨hk4x0, hj4x0, hq4x0⟩ := kfa hb4 (w.heap.size); obtain ⟨hk4x1, hj4x1, hq4x1⟩ := kfa hb4 (w.heap.size + 1); obtain ⟨hk4x2, hj4x2, hq4x2⟩ := kfa hb4 (w.heap.size + 1 + 1); clear hc4 hf4); (try go_wp2_with fail); refine tr hK (fun hHeld => ?_); clear hK K)
  (refine tc 3 fun K hK => ?_; go_simp; (go_at_call 122; refine (placedBounds_q _ _ _ _ _ (by omega) (by omega) (by omega) (by omega)).mono ?_; rintro e w5 ⟨rfl, hb5⟩; obtain ⟨hc5, hf5⟩ := bcell hb5; have hz5 := hb5.size; (try simp only [World.size_drew, World.size_alloc, World.size_setCell] at hc5 hf5 hz5); obtain ⟨hk5x0, hj5x0, hq5x0⟩ := kfa hb5 (w.heap.size); obtain ⟨hk5x1, hj5x1, hq5x1⟩ := kfa hb5 (w.heap.size + 1); obtain ⟨hk5x2, hj5x2, hq5x2⟩ := kfa hb5 (w.heap.size + 1 + 1); clear hc5 hf5); (try go_wp2_with fail); refine tr hK (fun hHeld => ?_); clear hK K)
  (refine tc 4 fun K hK => ?_; go_simp; (go_at_call 124; refine (spanDent_q _ _ _ _ _ _ _ _ P Q E _ (by omega) (by omega) (by omega) (by omega) (by omega) (by omega) (by omega) (by omega) eD).mono ?_; rintro e w6 ⟨rfl, hb6⟩; obtain ⟨hc6, hf6⟩ := bcell hb6; have hz6 := hb6.size; (try simp only [World.size_drew, World.size_alloc, World.size_setCell] at hc6 hf6 hz6); obtain ⟨hk6x0, hj6x0, hq6x0⟩ := kfa hb6 (w.heap.size); obtain ⟨hk6x1, hj6x1, hq6x1⟩ := kfa hb6 (w.heap.size + 1); obtain ⟨hk6x2, hj6x2, hq6x2⟩ := kfa hb6 (w.heap.size + 1 + 1); clear hc6 hf6); (try go_wp2_with fail); refine tr hK (fun hHeld => ?_); clear hK K)
  (refine tc 5 fun K hK => ?_; go_simp; refine tr hK (fun hHeld => ?_); clear hK K)
  refine tq 6 hHeld ?_
  refine wpAnyH_done (by kernel_rfl) ?_ _
  go_wp2_with fail
  exact bodyPost_ret (v := .tuple #[s3 P Q E, .bool true]) (by simp [results, Tryz.results113, go_sem, *]) rfl ⟨rfl, bel_a⟩
theorem boxTouchesRound_q (x y g1 h1 u v g2 h2 X Y D : Int) (K : Bool) (w : World) (lg1 : 1 ≤ g1 ∧ g1 ≤ 25600) (lh1 : 1 ≤ h1 ∧ h1 ≤ 25600) (lg2 : 1 ≤ g2 ∧ g2 ≤ 25600) (px : -2560000 ≤ x ∧ x ≤ 2560000) (py : -2560000 ≤ y ∧ y ≤ 2560000) (pu : -2560000 ≤ u ∧ u ≤ 2560000) (pv : -2560000 ≤ v ∧ v ≤ 2560000) (e : mxT (x - g1) (y - h1) (x + g1) (y + h1) u v g2 = ((X, Y, D), K)) :
 Calls Tryz.prog 112 #[b4 x y g1 h1, b4 u v g2 h2] w fun e w' => e = .returned (.tuple #[s3 X Y D, .bool K]) ∧ Below w.heap.size w w' := by
 have hset := cset_map
 have eQ : ptB (x - g1) (y - h1) (x + g1) (y + h1) u v = (leB (x - g1) (y - h1) u v && leB u v (x + g1) (y + h1)) := by
  unfold ptB leB
  by_cases q : (x - g1 ≤ u ∧ u ≤ x + g1) ∧ (y - h1 ≤ v ∧ v ≤ y + h1)
  · rw [decide_eq_true q, decide_eq_true (by omega), decide_eq_true (by omega)]; rfl
  · rw [decide_eq_false q]
    by_cases z : x - g1 ≤ u ∧ y - h1 ≤ v
    · rw [decide_eq_true z, decide_eq_false (by omega)]; rfl
    · rw [decide_eq_false z]; rfl
 unfold mxT at e
 rw [eQ] at e
 clear eQ
 cases eH : (leB (x - g1) (y - h1) u v && leB u v (x + g1) (y + h1)) with
 | true =>
  rw [if_pos eH] at e
  have hb := bsT_bd (s0 := x + g1 - u) (s1 := u - (x - g1)) (s2 := y + h1 - v) (s3 := v - (y - h1)) (B := 6000000) (by omega) (by omega) (by omega) (by omega)
  obtain ⟨⟨P, Q, E⟩, eD⟩ : ∃ z, bsT (x + g1 - u) (u - (x - g1)) (y + h1 - v) (v - (y - h1)) = z := ⟨_, rfl⟩
  rw [eD] at e hb
  dsimp only at hb
  simp only [Prod.mk.injEq] at e
  obtain ⟨⟨eX, eY, eZ⟩, eK⟩ := e
  subst eX
  subst eY
  subst eZ
  subst eK
  have w1 := i64w (n := E + g2) (by have := hb.1; have := hb.2.1; omega)
  clear hb
  go_enter Tryz.func112, Tryz.ntmps112
  go_upto_region 2 with fail
  refine wp_region_held_drew (S := fun w' => w'.cell? ⟨w.heap.size, 0, none⟩ = some (.int .i64 x) ∧ w'.cell? ⟨w.heap.size, 1, none⟩ = some (.int .i64 y) ∧ w'.cell? ⟨w.heap.size, 2, none⟩ = some (.int .i64 g1) ∧ w'.cell? ⟨w.heap.size, 3, none⟩ = some (.int .i64 h1) ∧ w'.cell? ⟨w.heap.size + 1, 0, none⟩ = some (.int .i64 u) ∧ w'.cell? ⟨w.heap.size + 1, 1, none⟩ = some (.int .i64 v) ∧ w'.cell? ⟨w.heap.size + 1, 2, none⟩ = some (.int .i64 g2) ∧ w'.cell? ⟨w.heap.size + 1, 3, none⟩ = some (.int .i64 h2) ∧ w'.cell? ⟨w.heap.size + 1 + 1 + 1, 0, none⟩ = some (.int .i64 u) ∧ w'.cell? ⟨w.heap.size + 1 + 1 + 1, 1, none⟩ = some (.int .i64 v) ∧ w'.cell? ⟨w.heap.size + 1 + 1 + 1, 2, none⟩ = some (.int .i64 u) ∧ w'.cell? ⟨w.heap.size + 1 + 1 + 1, 3, none⟩ = some (.int .i64 v)) (by kernel_rfl) ?_ (fun hHeld => ?_)
  · (try dsimp only)
    (first | (go_simp; done) | (go_keep; done))
  refine tq 0 hHeld ?_
  refine tq 2 hHeld ?_
  (refine tc 1 fun K hK => ?_; go_simp; (go_at_call 122; refine (placedBounds_q _ _ _ _ _ (by omega) (by omega) (by omega) (by omega)).mono ?_; rintro e w1 ⟨rfl, hb1⟩; obtain ⟨hc1, hf1⟩ := bcell hb1; have hz1 := hb1.size; (try simp only [World.size_drew, World.size_alloc, World.size_setCell] at hc1 hf1 hz1); obtain ⟨hk1x0, hj1x0, hq1x0⟩ := kfa hb1 (w.heap.size); obtain ⟨hk1x1, hj1x1, hq1x1⟩ := kfa hb1 (w.heap.size + 1); obtain ⟨hk1x2, hj1x2, hq1x2⟩ := kfa hb1 (w.heap.size + 1 + 1); obtain ⟨hk1x3, hj1x3, hq1x3⟩ := kfa hb1 (w.heap.size + 1 + 1 + 1); clear hc1 hf1); (try go_wp2_with fail); refine tr hK (fun hHeld => ?_); clear hK K)
  (refine tc 3 fun K hK => ?_; go_simp; (go_at_call 123; refine (shas_z _ _ _ _ _ _ _ _ _ _ eH).mono ?_; rintro e w2 ⟨rfl, hb2⟩; obtain ⟨hc2, hf2⟩ := bcell hb2; have hz2 := hb2.size; (try simp only [World.size_drew, World.size_alloc, World.size_setCell] at hc2 hf2 hz2); obtain ⟨hk2x0, hj2x0, hq2x0⟩ := kfa hb2 (w.heap.size); obtain ⟨hk2x1, hj2x1, hq2x1⟩ := kfa hb2 (w.heap.size + 1); obtain ⟨hk2x2, hj2x2, hq2x2⟩ := kfa hb2 (w.heap.size + 1 + 1); obtain ⟨hk2x3, hj2x3, hq2x3⟩ := kfa hb2 (w.heap.size + 1 + 1 + 1); clear hc2 hf2); (try go_wp2_with fail); refine tr hK (fun hHeld => ?_); clear hK K)
  refine wpAnyH_done (by kernel_rfl) ?_ _
  go_upto_region 3 with fail
  go_cut [7] (fun s7 wc => ∃ db : Nat, s7 = .pointer (some ⟨db, 0, none⟩) ∧ (wc.cell? ⟨w.heap.size + 1, 0, none⟩ = some (.int .i64 u) ∧ wc.cell? ⟨w.heap.size + 1, 1, none⟩ = some (.int .i64 v) ∧ wc.cell? ⟨w.heap.size + 1, 2, none⟩ = some (.int .i64 g2) ∧ wc.cell? ⟨w.heap.size + 1, 3, none⟩ = some (.int .i64 h2) ∧ wc.cell? ⟨w.heap.size + 1 + 1, 0, none⟩ = some (.int .i64 0) ∧ wc.cell? ⟨w.heap.size + 1 + 1, 1, none⟩ = some (.int .i64 0) ∧ wc.cell? ⟨w.heap.size + 1 + 1, 2, none⟩ = some (.int .i64 0) ∧ wc.cell? ⟨db, 0, none⟩ = some (.int .i64 P) ∧ wc.cell? ⟨db, 1, none⟩ = some (.int .i64 Q) ∧ wc.cell? ⟨db, 2, none⟩ = some (.int .i64 E)) ∧ (wc.frozen? ⟨w.heap.size + 1 + 1, 0, none⟩ = false ∧ wc.frozen? ⟨w.heap.size + 1 + 1, 1, none⟩ = false ∧ wc.frozen? ⟨w.heap.size + 1 + 1, 2, none⟩ = false ∧ wc.frozen? ⟨db, 0, none⟩ = false ∧ wc.frozen? ⟨db, 1, none⟩ = false ∧ wc.frozen? ⟨db, 2, none⟩ = false) ∧ (w.heap.size + 1 + 1 < db ∧ db < wc.heap.size) ∧ Below w.heap.size w wc)
  case first =>
   refine wp_region_held_drew (S := fun w' => w'.cell? ⟨w.heap.size, 0, none⟩ = some (.int .i64 x) ∧ w'.cell? ⟨w.heap.size, 1, none⟩ = some (.int .i64 y) ∧ w'.cell? ⟨w.heap.size, 2, none⟩ = some (.int .i64 g1) ∧ w'.cell? ⟨w.heap.size, 3, none⟩ = some (.int .i64 h1) ∧ w'.cell? ⟨w.heap.size + 1, 0, none⟩ = some (.int .i64 u) ∧ w'.cell? ⟨w.heap.size + 1, 1, none⟩ = some (.int .i64 v) ∧ w'.cell? ⟨w.heap.size + 1, 2, none⟩ = some (.int .i64 g2) ∧ w'.cell? ⟨w.heap.size + 1, 3, none⟩ = some (.int .i64 h2) ∧ w'.cell? ⟨w.heap.size + 1 + 1 + 1, 0, none⟩ = some (.int .i64 u) ∧ w'.cell? ⟨w.heap.size + 1 + 1 + 1, 1, none⟩ = some (.int .i64 v) ∧ w'.cell? ⟨w.heap.size + 1 + 1 + 1, 2, none⟩ = some (.int .i64 u) ∧ w'.cell? ⟨w.heap.size + 1 + 1 + 1, 3, none⟩ = some (.int .i64 v)) (by kernel_rfl) ?_ (fun hHeld => ?_)
   · (try dsimp only)
     (first | (go_simp; done) | (go_keep; done))
   refine tq 0 hHeld ?_
   refine tq 2 hHeld ?_
   refine wpAnyH_ready (rs := [1, 4]) (by kernel_rfl) (by simp) ?_
   refine AllReadyH.cons rfl (fun K hK => ?_) (AllReadyH.cons rfl (fun K hK => ?_) AllReadyH.nil)
   · (go_simp; (go_at_call 122; refine (placedBounds_q _ _ _ _ _ (by omega) (by omega) (by omega) (by omega)).mono ?_; rintro e w3 ⟨rfl, hb3⟩; obtain ⟨hc3, hf3⟩ := bcell hb3; have hz3 := hb3.size; (try simp only [World.size_drew, World.size_alloc, World.size_setCell] at hc3 hf3 hz3); obtain ⟨hk3x0, hj3x0, hq3x0⟩ := kfa hb3 (w.heap.size); obtain ⟨hk3x1, hj3x1, hq3x1⟩ := kfa hb3 (w.heap.size + 1); obtain ⟨hk3x2, hj3x2, hq3x2⟩ := kfa hb3 (w.heap.size + 1 + 1); obtain ⟨hk3x3, hj3x3, hq3x3⟩ := kfa hb3 (w.heap.size + 1 + 1 + 1); (try have hk3y0 := fun o => hc3 (w.heap.size + 1 + 1 + 1 + 1) o (by omega)); (try have hj3y0 := fun o => hf3 (w.heap.size + 1 + 1 + 1 + 1) o (by omega)); (try have hq3y0 : w.heap.size + 1 + 1 + 1 + 1 < w3.heap.size := (by omega)); (try have hr3y0 : (w.heap.size + 1 + 1 + 1 + 1 = w3.heap.size) = False := eq_false (by omega)); (try have ht3y0 : (w3.heap.size = w.heap.size + 1 + 1 + 1 + 1) = False := eq_false (by omega)); (try have hk3y1 := fun o => hc3 (w2.heap.size) o (by omega)); (try have hj3y1 := fun o => hf3 (w2.heap.size) o (by omega)); (try have hq3y1 : w2.heap.size < w3.heap.size := (by omega)); (try have hr3y1 : (w2.heap.size = w3.heap.size) = False := eq_false (by omega)); (try have ht3y1 : (w3.heap.size = w2.heap.size) = False := eq_false (by omega)); clear hc3 hf3); (try go_wp2_with fail); refine tr hK (fun hHeld => ?_); clear hK K)
     refine wpAnyH_ready (rs := [3, 4]) (by kernel_rfl) (by simp) ?_
     refine AllReadyH.cons rfl (fun K hK => ?_) (AllReadyH.cons rfl (fun K hK => ?_) AllReadyH.nil)
     · (go_simp; (go_at_call 124; refine (spanDent_q _ _ _ _ _ _ _ _ P Q E _ (by omega) (by omega) (by omega) (by omega) (by omega) (by omega) (by omega) (by omega) eD).mono ?_; rintro e w4 ⟨rfl, hb4⟩; obtain ⟨hc4, hf4⟩ := bcell hb4; have hz4 := hb4.size; (try simp only [World.size_drew, World.size_alloc, World.size_setCell] at hc4 hf4 hz4); obtain ⟨hk4x0, hj4x0, hq4x0⟩ := kfa hb4 (w.heap.size); obtain ⟨hk4x1, hj4x1, hq4x1⟩ := kfa hb4 (w.heap.size + 1); obtain ⟨hk4x2, hj4x2, hq4x2⟩ := kfa hb4 (w.heap.size + 1 + 1); obtain ⟨hk4x3, hj4x3, hq4x3⟩ := kfa hb4 (w.heap.size + 1 + 1 + 1); (try have hk4y0 := fun o => hc4 (w.heap.size + 1 + 1 + 1 + 1) o (by omega)); (try have hj4y0 := fun o => hf4 (w.heap.size + 1 + 1 + 1 + 1) o (by omega)); (try have hq4y0 : w.heap.size + 1 + 1 + 1 + 1 < w4.heap.size := (by omega)); (try have hr4y0 : (w.heap.size + 1 + 1 + 1 + 1 = w4.heap.size) = False := eq_false (by omega)); (try have ht4y0 : (w4.heap.size = w.heap.size + 1 + 1 + 1 + 1) = False := eq_false (by omega)); (try have hk4y1 := fun o => hc4 (w2.heap.size) o (by omega)); (try have hj4y1 := fun o => hf4 (w2.heap.size) o (by omega)); (try have hq4y1 : w2.heap.size < w4.heap.size := (by omega)); (try have hr4y1 : (w2.heap.size = w4.heap.size) = False := eq_false (by omega)); (try have ht4y1 : (w4.heap.size = w2.heap.size) = False := eq_false (by omega)); (try have hk4y2 := fun o => hc4 (w3.heap.size) o (by omega)); (try have hj4y2 := fun o => hf4 (w3.heap.size) o (by omega)); (try have hq4y2 : w3.heap.size < w4.heap.size := (by omega)); (try have hr4y2 : (w3.heap.size = w4.heap.size) = False := eq_false (by omega)); (try have ht4y2 : (w4.heap.size = w3.heap.size) = False := eq_false (by omega)); clear hc4 hf4); (try go_wp2_with fail); refine tr hK (fun hHeld => ?_); clear hK K)
       (refine tc 4 fun K hK => ?_; go_simp; refine tr hK (fun hHeld => ?_); clear hK K)
       (refine tc 5 fun K hK => ?_; go_simp; refine tr hK (fun hHeld => ?_); clear hK K)
       refine wpAnyH_done (by kernel_rfl) ?_ _
       go_wp2_with fail
       go_meet
       exact ⟨_, rfl, ⟨(by go_simp), (by go_simp), (by go_simp), (by go_simp), (by go_simp), (by go_simp), (by go_simp), (by go_simp), (by go_simp), (by go_simp)⟩, ⟨(by go_simp), (by go_simp), (by go_simp), (by go_simp), (by go_simp), (by go_simp)⟩, ⟨(by first | omega | (simp; omega)), (by first | omega | (simp; omega) | simp)⟩, bel_a⟩
     · (go_simp; refine tr hK (fun hHeld => ?_); clear hK K)
       (refine tc 3 fun K hK => ?_; go_simp; (go_at_call 124; refine (spanDent_q _ _ _ _ _ _ _ _ P Q E _ (by omega) (by omega) (by omega) (by omega) (by omega) (by omega) (by omega) (by omega) eD).mono ?_; rintro e w4 ⟨rfl, hb4⟩; obtain ⟨hc4, hf4⟩ := bcell hb4; have hz4 := hb4.size; (try simp only [World.size_drew, World.size_alloc, World.size_setCell] at hc4 hf4 hz4); obtain ⟨hk4x0, hj4x0, hq4x0⟩ := kfa hb4 (w.heap.size); obtain ⟨hk4x1, hj4x1, hq4x1⟩ := kfa hb4 (w.heap.size + 1); obtain ⟨hk4x2, hj4x2, hq4x2⟩ := kfa hb4 (w.heap.size + 1 + 1); obtain ⟨hk4x3, hj4x3, hq4x3⟩ := kfa hb4 (w.heap.size + 1 + 1 + 1); (try have hk4y0 := fun o => hc4 (w.heap.size + 1 + 1 + 1 + 1) o (by omega)); (try have hj4y0 := fun o => hf4 (w.heap.size + 1 + 1 + 1 + 1) o (by omega)); (try have hq4y0 : w.heap.size + 1 + 1 + 1 + 1 < w4.heap.size := (by omega)); (try have hr4y0 : (w.heap.size + 1 + 1 + 1 + 1 = w4.heap.size) = False := eq_false (by omega)); (try have ht4y0 : (w4.heap.size = w.heap.size + 1 + 1 + 1 + 1) = False := eq_false (by omega)); (try have hk4y1 := fun o => hc4 (w2.heap.size) o (by omega)); (try have hj4y1 := fun o => hf4 (w2.heap.size) o (by omega)); (try have hq4y1 : w2.heap.size < w4.heap.size := (by omega)); (try have hr4y1 : (w2.heap.size = w4.heap.size) = False := eq_false (by omega)); (try have ht4y1 : (w4.heap.size = w2.heap.size) = False := eq_false (by omega)); (try have hk4y2 := fun o => hc4 (w3.heap.size) o (by omega)); (try have hj4y2 := fun o => hf4 (w3.heap.size) o (by omega)); (try have hq4y2 : w3.heap.size < w4.heap.size := (by omega)); (try have hr4y2 : (w3.heap.size = w4.heap.size) = False := eq_false (by omega)); (try have ht4y2 : (w4.heap.size = w3.heap.size) = False := eq_false (by omega)); clear hc4 hf4); (try go_wp2_with fail); refine tr hK (fun hHeld => ?_); clear hK K)
       (refine tc 5 fun K hK => ?_; go_simp; refine tr hK (fun hHeld => ?_); clear hK K)
       refine wpAnyH_done (by kernel_rfl) ?_ _
       go_wp2_with fail
       go_meet
       exact ⟨_, rfl, ⟨(by go_simp), (by go_simp), (by go_simp), (by go_simp), (by go_simp), (by go_simp), (by go_simp), (by go_simp), (by go_simp), (by go_simp)⟩, ⟨(by go_simp), (by go_simp), (by go_simp), (by go_simp), (by go_simp), (by go_simp)⟩, ⟨(by first | omega | (simp; omega)), (by first | omega | (simp; omega) | simp)⟩, bel_a⟩
   · (go_simp; refine tr hK (fun hHeld => ?_); clear hK K)
     (refine tc 1 fun K hK => ?_; go_simp; (go_at_call 122; refine (placedBounds_q _ _ _ _ _ (by omega) (by omega) (by omega) (by omega)).mono ?_; rintro e w3 ⟨rfl, hb3⟩; obtain ⟨hc3, hf3⟩ := bcell hb3; have hz3 := hb3.size; (try simp only [World.size_drew, World.size_alloc, World.size_setCell] at hc3 hf3 hz3); obtain ⟨hk3x0, hj3x0, hq3x0⟩ := kfa hb3 (w.heap.size); obtain ⟨hk3x1, hj3x1, hq3x1⟩ := kfa hb3 (w.heap.size + 1); obtain ⟨hk3x2, hj3x2, hq3x2⟩ := kfa hb3 (w.heap.size + 1 + 1); obtain ⟨hk3x3, hj3x3, hq3x3⟩ := kfa hb3 (w.heap.size + 1 + 1 + 1); (try have hk3y0 := fun o => hc3 (w.heap.size + 1 + 1 + 1 + 1) o (by omega)); (try have hj3y0 := fun o => hf3 (w.heap.size + 1 + 1 + 1 + 1) o (by omega)); (try have hq3y0 : w.heap.size + 1 + 1 + 1 + 1 < w3.heap.size := (by omega)); (try have hr3y0 : (w.heap.size + 1 + 1 + 1 + 1 = w3.heap.size) = False := eq_false (by omega)); (try have ht3y0 : (w3.heap.size = w.heap.size + 1 + 1 + 1 + 1) = False := eq_false (by omega)); (try have hk3y1 := fun o => hc3 (w2.heap.size) o (by omega)); (try have hj3y1 := fun o => hf3 (w2.heap.size) o (by omega)); (try have hq3y1 : w2.heap.size < w3.heap.size := (by omega)); (try have hr3y1 : (w2.heap.size = w3.heap.size) = False := eq_false (by omega)); (try have ht3y1 : (w3.heap.size = w2.heap.size) = False := eq_false (by omega)); clear hc3 hf3); (try go_wp2_with fail); refine tr hK (fun hHeld => ?_); clear hK K)
     (refine tc 3 fun K hK => ?_; go_simp; (go_at_call 124; refine (spanDent_q _ _ _ _ _ _ _ _ P Q E _ (by omega) (by omega) (by omega) (by omega) (by omega) (by omega) (by omega) (by omega) eD).mono ?_; rintro e w4 ⟨rfl, hb4⟩; obtain ⟨hc4, hf4⟩ := bcell hb4; have hz4 := hb4.size; (try simp only [World.size_drew, World.size_alloc, World.size_setCell] at hc4 hf4 hz4); obtain ⟨hk4x0, hj4x0, hq4x0⟩ := kfa hb4 (w.heap.size); obtain ⟨hk4x1, hj4x1, hq4x1⟩ := kfa hb4 (w.heap.size + 1); obtain ⟨hk4x2, hj4x2, hq4x2⟩ := kfa hb4 (w.heap.size + 1 + 1); obtain ⟨hk4x3, hj4x3, hq4x3⟩ := kfa hb4 (w.heap.size + 1 + 1 + 1); (try have hk4y0 := fun o => hc4 (w.heap.size + 1 + 1 + 1 + 1) o (by omega)); (try have hj4y0 := fun o => hf4 (w.heap.size + 1 + 1 + 1 + 1) o (by omega)); (try have hq4y0 : w.heap.size + 1 + 1 + 1 + 1 < w4.heap.size := (by omega)); (try have hr4y0 : (w.heap.size + 1 + 1 + 1 + 1 = w4.heap.size) = False := eq_false (by omega)); (try have ht4y0 : (w4.heap.size = w.heap.size + 1 + 1 + 1 + 1) = False := eq_false (by omega)); (try have hk4y1 := fun o => hc4 (w2.heap.size) o (by omega)); (try have hj4y1 := fun o => hf4 (w2.heap.size) o (by omega)); (try have hq4y1 : w2.heap.size < w4.heap.size := (by omega)); (try have hr4y1 : (w2.heap.size = w4.heap.size) = False := eq_false (by omega)); (try have ht4y1 : (w4.heap.size = w2.heap.size) = False := eq_false (by omega)); (try have hk4y2 := fun o => hc4 (w3.heap.size) o (by omega)); (try have hj4y2 := fun o => hf4 (w3.heap.size) o (by omega)); (try have hq4y2 : w3.heap.size < w4.heap.size := (by omega)); (try have hr4y2 : (w3.heap.size = w4.heap.size) = False := eq_false (by omega)); (try have ht4y2 : (w4.heap.size = w3.heap.size) = False := eq_false (by omega)); clear hc4 hf4); (try go_wp2_with fail); refine tr hK (fun hHeld => ?_); clear hK K)
     (refine tc 5 fun K hK => ?_; go_simp; refine tr hK (fun hHeld => ?_); clear hK K)
     refine wpAnyH_done (by kernel_rfl) ?_ _
     go_wp2_with fail
     go_meet
     exact ⟨_, rfl, ⟨(by go_simp), (by go_simp), (by go_simp), (by go_simp), (by go_simp), (by go_simp), (by go_simp), (by go_simp), (by go_simp), (by go_simp)⟩, ⟨(by go_simp), (by go_simp), (by go_simp), (by go_simp), (by go_simp), (by go_simp)⟩, ⟨(by first | omega | (simp; omega)), (by first | omega | (simp; omega) | simp)⟩, bel_a⟩
  case rest =>
  obtain ⟨db, rfl, ⟨r0, r1, r2, r3, r4, r5, r6, r7, r8, r9⟩, ⟨f0, f1, f2, f3, f4, f5⟩, ⟨l1, l2⟩, hbw⟩ := hcut
  have n1 : (w.heap.size + 1 = db) = False := eq_false (by omega)
  have n2 : (db = w.heap.size + 1) = False := eq_false (by omega)
  have n3 : (w.heap.size + 1 + 1 = db) = False := eq_false (by omega)
  have n4 : (db = w.heap.size + 1 + 1) = False := eq_false (by omega)
  have l3 : w.heap.size + 1 < wc.heap.size := by omega
  have l4 : w.heap.size + 1 + 1 < wc.heap.size := by omega
  go_upto_region 4 with fail
  refine wp_region_held_drew (S := fun w' => w'.cell? ⟨w.heap.size + 1, 0, none⟩ = some (.int .i64 u) ∧ w'.cell? ⟨w.heap.size + 1, 1, none⟩ = some (.int .i64 v) ∧ w'.cell? ⟨w.heap.size + 1, 2, none⟩ = some (.int .i64 g2) ∧ w'.cell? ⟨w.heap.size + 1, 3, none⟩ = some (.int .i64 h2)) (by kernel_rfl) ?_ (fun hHeld => ?_)
  · (try dsimp only)
    (first | (go_simp; done) | (go_keep; done))
  refine tq 0 hHeld ?_
  refine tq 2 hHeld ?_
  refine wpAnyH_ready (rs := [1, 3]) (by kernel_rfl) (by simp) ?_
  refine AllReadyH.cons rfl (fun K hK => ?_) (AllReadyH.cons rfl (fun K hK => ?_) AllReadyH.nil)
  · (go_simp; refine tr hK (fun hHeld => ?_); clear hK K)
    (refine tc 3 fun K hK => ?_; go_simp; (go_at_call 120; refine (placedWide_q _ _ _ _ _).mono ?_; rintro e w5 ⟨rfl, hb5⟩; obtain ⟨hc5, hf5⟩ := bcell hb5; have hz5 := hb5.size; (try simp only [World.size_drew, World.size_alloc, World.size_setCell] at hc5 hf5 hz5); obtain ⟨hk5x0, hj5x0, hq5x0⟩ := kfa hb5 (w.heap.size + 1); obtain ⟨hk5x1, hj5x1, hq5x1⟩ := kfa hb5 (w.heap.size + 1 + 1); obtain ⟨hk5x2, hj5x2, hq5x2⟩ := kfa hb5 (db); clear hc5 hf5); (try go_wp2_with fail); refine tr hK (fun hHeld => ?_); clear hK K)
    refine tq 4 hHeld ?_
    refine tq 5 hHeld ?_
    (refine tc 6 fun K hK => ?_; go_simp; refine tr hK (fun hHeld => ?_); clear hK K)
    refine wpAnyH_done (by kernel_rfl) ?_ _
    go_wp2_with fail
    exact bodyPost_ret (v := .tuple #[s3 P Q (E + g2), .bool true]) (by simp [results, Tryz.results112, go_sem, *]) rfl ⟨rfl, bel_a⟩
  · (go_simp; (go_at_call 120; refine (placedWide_q _ _ _ _ _).mono ?_; rintro e w5 ⟨rfl, hb5⟩; obtain ⟨hc5, hf5⟩ := bcell hb5; have hz5 := hb5.size; (try simp only [World.size_drew, World.size_alloc, World.size_setCell] at hc5 hf5 hz5); obtain ⟨hk5x0, hj5x0, hq5x0⟩ := kfa hb5 (w.heap.size + 1); obtain ⟨hk5x1, hj5x1, hq5x1⟩ := kfa hb5 (w.heap.size + 1 + 1); obtain ⟨hk5x2, hj5x2, hq5x2⟩ := kfa hb5 (db); clear hc5 hf5); (try go_wp2_with fail); refine tr hK (fun hHeld => ?_); clear hK K)
    (refine tc 1 fun K hK => ?_; go_simp; refine tr hK (fun hHeld => ?_); clear hK K)
    refine tq 4 hHeld ?_
    refine tq 5 hHeld ?_
    (refine tc 6 fun K hK => ?_; go_simp; refine tr hK (fun hHeld => ?_); clear hK K)
    refine wpAnyH_done (by kernel_rfl) ?_ _
    go_wp2_with fail
    exact bodyPost_ret (v := .tuple #[s3 P Q (E + g2), .bool true]) (by simp [results, Tryz.results112, go_sem, *]) rfl ⟨rfl, bel_a⟩
 | false =>
  rw [if_neg (by simp [eH])] at e
  have n1 := near_in (a := x - g1) (c := x + g1) (x := u) (B := 3000000) (by omega) (by omega) (by omega)
  have n2 := near_in (a := y - h1) (c := y + h1) (x := v) (B := 3000000) (by omega) (by omega) (by omega)
  obtain ⟨nx, eN1⟩ : ∃ z, mn (mx u (x - g1)) (x + g1) = z := ⟨_, rfl⟩
  obtain ⟨ny, eN2⟩ : ∃ z, mn (mx v (y - h1)) (y + h1) = z := ⟨_, rfl⟩
  rw [eN1] at e n1
  rw [eN2] at e n2
  go_enter Tryz.func112, Tryz.ntmps112
  go_upto_region 2 with fail
  refine wp_region_held_drew (S := fun w' => w'.cell? ⟨w.heap.size, 0, none⟩ = some (.int .i64 x) ∧ w'.cell? ⟨w.heap.size, 1, none⟩ = some (.int .i64 y) ∧ w'.cell? ⟨w.heap.size, 2, none⟩ = some (.int .i64 g1) ∧ w'.cell? ⟨w.heap.size, 3, none⟩ = some (.int .i64 h1) ∧ w'.cell? ⟨w.heap.size + 1, 0, none⟩ = some (.int .i64 u) ∧ w'.cell? ⟨w.heap.size + 1, 1, none⟩ = some (.int .i64 v) ∧ w'.cell? ⟨w.heap.size + 1, 2, none⟩ = some (.int .i64 g2) ∧ w'.cell? ⟨w.heap.size + 1, 3, none⟩ = some (.int .i64 h2) ∧ w'.cell? ⟨w.heap.size + 1 + 1 + 1, 0, none⟩ = some (.int .i64 u) ∧ w'.cell? ⟨w.heap.size + 1 + 1 + 1, 1, none⟩ = some (.int .i64 v) ∧ w'.cell? ⟨w.heap.size + 1 + 1 + 1, 2, none⟩ = some (.int .i64 u) ∧ w'.cell? ⟨w.heap.size + 1 + 1 + 1, 3, none⟩ = some (.int .i64 v)) (by kernel_rfl) ?_ (fun hHeld => ?_)
  · (try dsimp only)
    (first | (go_simp; done) | (go_keep; done))
  refine tq 0 hHeld ?_
  refine tq 2 hHeld ?_
  (refine tc 1 fun K hK => ?_; go_simp; (go_at_call 122; refine (placedBounds_q _ _ _ _ _ (by omega) (by omega) (by omega) (by omega)).mono ?_; rintro e w1 ⟨rfl, hb1⟩; obtain ⟨hc1, hf1⟩ := bcell hb1; have hz1 := hb1.size; (try simp only [World.size_drew, World.size_alloc, World.size_setCell] at hc1 hf1 hz1); obtain ⟨hk1x0, hj1x0, hq1x0⟩ := kfa hb1 (w.heap.size); obtain ⟨hk1x1, hj1x1, hq1x1⟩ := kfa hb1 (w.heap.size + 1); obtain ⟨hk1x2, hj1x2, hq1x2⟩ := kfa hb1 (w.heap.size + 1 + 1); obtain ⟨hk1x3, hj1x3, hq1x3⟩ := kfa hb1 (w.heap.size + 1 + 1 + 1); clear hc1 hf1); (try go_wp2_with fail); refine tr hK (fun hHeld => ?_); clear hK K)
  (refine tc 3 fun K hK => ?_; go_simp; (go_at_call 123; refine (shas_z _ _ _ _ _ _ _ _ _ _ eH).mono ?_; rintro e w2 ⟨rfl, hb2⟩; obtain ⟨hc2, hf2⟩ := bcell hb2; have hz2 := hb2.size; (try simp only [World.size_drew, World.size_alloc, World.size_setCell] at hc2 hf2 hz2); obtain ⟨hk2x0, hj2x0, hq2x0⟩ := kfa hb2 (w.heap.size); obtain ⟨hk2x1, hj2x1, hq2x1⟩ := kfa hb2 (w.heap.size + 1); obtain ⟨hk2x2, hj2x2, hq2x2⟩ := kfa hb2 (w.heap.size + 1 + 1); obtain ⟨hk2x3, hj2x3, hq2x3⟩ := kfa hb2 (w.heap.size + 1 + 1 + 1); clear hc2 hf2); (try go_wp2_with fail); refine tr hK (fun hHeld => ?_); clear hK K)
  refine wpAnyH_done (by kernel_rfl) ?_ _
  go_upto_region 6 with fail
  refine wp_region_held_drew (S := fun w' => w'.cell? ⟨w.heap.size, 0, none⟩ = some (.int .i64 x) ∧ w'.cell? ⟨w.heap.size, 1, none⟩ = some (.int .i64 y) ∧ w'.cell? ⟨w.heap.size, 2, none⟩ = some (.int .i64 g1) ∧ w'.cell? ⟨w.heap.size, 3, none⟩ = some (.int .i64 h1) ∧ w'.cell? ⟨w.heap.size + 1, 0, none⟩ = some (.int .i64 u) ∧ w'.cell? ⟨w.heap.size + 1, 1, none⟩ = some (.int .i64 v) ∧ w'.cell? ⟨w.heap.size + 1, 2, none⟩ = some (.int .i64 g2) ∧ w'.cell? ⟨w.heap.size + 1, 3, none⟩ = some (.int .i64 h2) ∧ w'.cell? ⟨w.heap.size + 1 + 1 + 1, 0, none⟩ = some (.int .i64 u) ∧ w'.cell? ⟨w.heap.size + 1 + 1 + 1, 1, none⟩ = some (.int .i64 v) ∧ w'.cell? ⟨w.heap.size + 1 + 1 + 1, 2, none⟩ = some (.int .i64 u) ∧ w'.cell? ⟨w.heap.size + 1 + 1 + 1, 3, none⟩ = some (.int .i64 v)) (by kernel_rfl) ?_ (fun hHeld => ?_)
  · (try dsimp only)
    (first | (go_simp; done) | (go_keep; done))
  refine tq 0 hHeld ?_
  refine tq 1 hHeld ?_
  refine tq 2 hHeld ?_
  refine tq 4 hHeld ?_
  refine tq 5 hHeld ?_
  refine tq 8 hHeld ?_
  (refine tc 3 fun K hK => ?_; go_simp; (go_at_call 122; refine (placedBounds_q _ _ _ _ _ (by omega) (by omega) (by omega) (by omega)).mono ?_; rintro e w3 ⟨rfl, hb3⟩; obtain ⟨hc3, hf3⟩ := bcell hb3; have hz3 := hb3.size; (try simp only [World.size_drew, World.size_alloc, World.size_setCell] at hc3 hf3 hz3); obtain ⟨hk3x0, hj3x0, hq3x0⟩ := kfa hb3 (w.heap.size); obtain ⟨hk3x1, hj3x1, hq3x1⟩ := kfa hb3 (w.heap.size + 1); obtain ⟨hk3x2, hj3x2, hq3x2⟩ := kfa hb3 (w.heap.size + 1 + 1); obtain ⟨hk3x3, hj3x3, hq3x3⟩ := kfa hb3 (w.heap.size + 1 + 1 + 1); clear hc3 hf3); (try go_wp2_with fail); refine tr hK (fun hHeld => ?_); clear hK K)
  (refine tc 6 fun K hK => ?_; go_simp; (go_at_call 125; refine (snear_z _ _ _ _ _ _ _ _ _ eN1 eN2).mono ?_; rintro e w4 ⟨rfl, hb4⟩; obtain ⟨hc4, hf4⟩ := bcell hb4; have hz4 := hb4.size; (try simp only [World.size_drew, World.size_alloc, World.size_setCell] at hc4 hf4 hz4); obtain ⟨hk4x0, hj4x0, hq4x0⟩ := kfa hb4 (w.heap.size); obtain ⟨hk4x1, hj4x1, hq4x1⟩ := kfa hb4 (w.heap.size + 1); obtain ⟨hk4x2, hj4x2, hq4x2⟩ := kfa hb4 (w.heap.size + 1 + 1); obtain ⟨hk4x3, hj4x3, hq4x3⟩ := kfa hb4 (w.heap.size + 1 + 1 + 1); clear hc4 hf4); (try go_wp2_with fail); refine tr hK (fun hHeld => ?_); clear hK K)
  (refine tc 7 fun K hK => ?_; go_simp; (go_at_call 119; refine (less_any _ _ _ _ _ (by omega) (by omega) (by omega) (by omega)).mono ?_; rintro e w5 ⟨rfl, hb5⟩; obtain ⟨hc5, hf5⟩ := bcell hb5; have hz5 := hb5.size; (try simp only [World.size_drew, World.size_alloc, World.size_setCell] at hc5 hf5 hz5); obtain ⟨hk5x0, hj5x0, hq5x0⟩ := kfa hb5 (w.heap.size); obtain ⟨hk5x1, hj5x1, hq5x1⟩ := kfa hb5 (w.heap.size + 1); obtain ⟨hk5x2, hj5x2, hq5x2⟩ := kfa hb5 (w.heap.size + 1 + 1); obtain ⟨hk5x3, hj5x3, hq5x3⟩ := kfa hb5 (w.heap.size + 1 + 1 + 1); clear hc5 hf5); (try go_wp2_with fail); refine tr hK (fun hHeld => ?_); clear hK K)
  (refine tc 9 fun K hK => ?_; go_simp; (go_at_call 120; refine (placedWide_q _ _ _ _ _).mono ?_; rintro e w6 ⟨rfl, hb6⟩; obtain ⟨hc6, hf6⟩ := bcell hb6; have hz6 := hb6.size; (try simp only [World.size_drew, World.size_alloc, World.size_setCell] at hc6 hf6 hz6); obtain ⟨hk6x0, hj6x0, hq6x0⟩ := kfa hb6 (w.heap.size); obtain ⟨hk6x1, hj6x1, hq6x1⟩ := kfa hb6 (w.heap.size + 1); obtain ⟨hk6x2, hj6x2, hq6x2⟩ := kfa hb6 (w.heap.size + 1 + 1); obtain ⟨hk6x3, hj6x3, hq6x3⟩ := kfa hb6 (w.heap.size + 1 + 1 + 1); clear hc6 hf6); (try go_wp2_with fail); refine tr hK (fun hHeld => ?_); clear hK K)
  (refine tc 10 fun K hK => ?_; go_simp; (go_at_call 118; refine (roundDent_q _ _ _ X Y D _ _ (by omega) (by omega) (by omega) e).mono ?_; rintro e w7 ⟨rfl, hb7⟩; obtain ⟨hc7, hf7⟩ := bcell hb7; have hz7 := hb7.size; (try simp only [World.size_drew, World.size_alloc, World.size_setCell] at hc7 hf7 hz7); obtain ⟨hk7x0, hj7x0, hq7x0⟩ := kfa hb7 (w.heap.size); obtain ⟨hk7x1, hj7x1, hq7x1⟩ := kfa hb7 (w.heap.size + 1); obtain ⟨hk7x2, hj7x2, hq7x2⟩ := kfa hb7 (w.heap.size + 1 + 1); obtain ⟨hk7x3, hj7x3, hq7x3⟩ := kfa hb7 (w.heap.size + 1 + 1 + 1); clear hc7 hf7); (try go_wp2_with fail); refine tr hK (fun hHeld => ?_); clear hK K)
  refine tq 11 hHeld ?_
  refine tq 12 hHeld ?_
  (refine tc 13 fun K hK => ?_; go_simp; refine tr hK (fun hHeld => ?_); clear hK K)
  refine tq 14 hHeld ?_
  refine wpAnyH_done (by kernel_rfl) ?_ _
  go_wp2_with fail
  exact bodyPost_ret (v := .tuple #[s3 X Y D, .bool K]) (by simp [results, Tryz.results112, go_sem, *]) rfl ⟨rfl, bel_a⟩
end Go.Proofs.YtalkkjhehndaoaaGreat
