/- Texts of a proof. -/
import Derived.Test.YtlbpmmjckoaleaaGreatB6
import Derived.Deep.QuietTactic
import Derived.BigQuiet
import Derived.Deep.RegionWith
import Derived.Deep.RegionHeld3
import Derived.Test.YtlbpmmjckoaleaaGreatB7
import Derived.Test.YtlbpmmjckoaleaaGreatB3
import Derived.Test.YtlbpmmjckoaleaaGreatB15
import Derived.Deep.DeepCutAuto
set_option maxHeartbeats 16000000
set_option maxRecDepth 20000
namespace Go.Proofs.YtlbpmmjckoaleaaGreat
open Go.RowKit
set_option linter.unusedVariables false
set_option linter.unusedSimpArgs false
theorem spanNear_any (a b c d x y : Int) (w : World) :
    Calls Tryz.prog 112 #[b4 a b c d, vv x y] w fun e w' => e = .returned (vv (mn (mx x a) c) (mn (mx y b) d)) ∧ Below w.heap.size w w' := by
  have hset := cset_map
  go_enter Tryz.func112, Tryz.ntmps112
  go_wp2
  go_region_held3 (fun w' => w'.cell? ⟨w.heap.size, 0, none⟩ = some (.int .i64 a) ∧ w'.cell? ⟨w.heap.size, 1, none⟩ = some (.int .i64 b) ∧ w'.cell? ⟨w.heap.size, 2, none⟩ = some (.int .i64 c) ∧ w'.cell? ⟨w.heap.size, 3, none⟩ = some (.int .i64 d) ∧ w'.cell? ⟨w.heap.size + 1, 0, none⟩ = some (.int .i64 x) ∧ w'.cell? ⟨w.heap.size + 1, 1, none⟩ = some (.int .i64 y)) (first | (go_simp; done) | (go_keep; done)) (first
    | (go_at_call 121; refine (least_any _ _ _ _ _).mono ?_; rintro e w2 ⟨rfl, hb2⟩; obtain ⟨hc2, hf2⟩ := bcell hb2; have hl2 := blt hb2; have hz2 := hb2.size; (try simp only [World.size_drew, World.size_alloc, World.size_setCell] at hc2 hf2 hl2 hz2); (try have hq2x0 : w.heap.size < w2.heap.size := (by omega)); (try have hq2x1 : w.heap.size + 1 < w2.heap.size := (by omega)); (try have hq2x2 : w.heap.size + 1 + 1 < w2.heap.size := (by omega)))
    | (go_at_call 120; refine (greatest_any _ _ _ _ _).mono ?_; rintro e w1 ⟨rfl, hb1⟩; obtain ⟨hc1, hf1⟩ := bcell hb1; have hl1 := blt hb1; have hz1 := hb1.size; (try simp only [World.size_drew, World.size_alloc, World.size_setCell] at hc1 hf1 hl1 hz1); (try have hq1x0 : w.heap.size < w1.heap.size := (by omega)); (try have hq1x1 : w.heap.size + 1 < w1.heap.size := (by omega)); (try have hq1x2 : w.heap.size + 1 + 1 < w1.heap.size := (by omega))))
  all_goals
    go_wp2
    exact bodyPost_ret (v := vv (mn (mx x a) c) (mn (mx y b) d)) (by simp [results, Tryz.results112, go_sem, *]) rfl ⟨rfl, bel_a⟩
theorem roundsTouch_q (x y g1 h1 u v g2 h2 X Y D : Int) (K : Bool) (w : World) (lg1 : 1 ≤ g1 ∧ g1 ≤ 25600) (lg2 : 1 ≤ g2 ∧ g2 ≤ 25600) (px : -2560000 ≤ x ∧ x ≤ 2560000) (py : -2560000 ≤ y ∧ y ≤ 2560000) (pu : -2560000 ≤ u ∧ u ≤ 2560000) (pv : -2560000 ≤ v ∧ v ≤ 2560000) (e : rdT (u - x) (v - y) (g1 + g2) = ((X, Y, D), K)) :
    Calls Tryz.prog 101 #[b4 x y g1 h1, b4 u v g2 h2] w fun e w' => e = .returned (.tuple #[s3 X Y D, .bool K]) ∧ Below w.heap.size w w' := by
  have hset := cset_map
  have w1 := i64w (n := g1 + g2) (by omega)
  go_enter Tryz.func101, Tryz.ntmps101
  go_upto_region 1 with fail
  refine wp_region_held_drew (S := fun w' => w'.cell? ⟨w.heap.size, 0, none⟩ = some (.int .i64 x) ∧ w'.cell? ⟨w.heap.size, 1, none⟩ = some (.int .i64 y) ∧ w'.cell? ⟨w.heap.size, 2, none⟩ = some (.int .i64 g1) ∧ w'.cell? ⟨w.heap.size, 3, none⟩ = some (.int .i64 h1) ∧ w'.cell? ⟨w.heap.size + 1, 0, none⟩ = some (.int .i64 u) ∧ w'.cell? ⟨w.heap.size + 1, 1, none⟩ = some (.int .i64 v) ∧ w'.cell? ⟨w.heap.size + 1, 2, none⟩ = some (.int .i64 g2) ∧ w'.cell? ⟨w.heap.size + 1, 3, none⟩ = some (.int .i64 h2)) (by kernel_rfl) ?_ (fun hHeld => ?_)
  · (try dsimp only)
    (first | (go_simp; done) | (go_keep; done))
  refine tq 0 hHeld ?_
  refine tq 1 hHeld ?_
  refine tq 2 hHeld ?_
  refine tq 3 hHeld ?_
  refine tq 5 hHeld ?_
  refine tq 7 hHeld ?_
  (refine tc 4 fun K hK => ?_; go_simp; (go_at_call 106; refine (less_any _ _ _ _ _ (by omega) (by omega) (by omega) (by omega)).mono ?_; rintro e w1 ⟨rfl, hb1⟩; obtain ⟨hc1, hf1⟩ := bcell hb1; have hz1 := hb1.size; (try simp only [World.size_drew, World.size_alloc, World.size_setCell] at hc1 hf1 hz1); obtain ⟨hk1x0, hj1x0, hq1x0⟩ := kfa hb1 (w.heap.size); obtain ⟨hk1x1, hj1x1, hq1x1⟩ := kfa hb1 (w.heap.size + 1); obtain ⟨hk1x2, hj1x2, hq1x2⟩ := kfa hb1 (w.heap.size + 1 + 1); clear hc1 hf1); (try go_wp2_with fail); refine tr hK (fun hHeld => ?_); clear hK K)
  (refine tc 6 fun K hK => ?_; go_simp; (go_at_call 107; refine (placedWide_q _ _ _ _ _).mono ?_; rintro e w2 ⟨rfl, hb2⟩; obtain ⟨hc2, hf2⟩ := bcell hb2; have hz2 := hb2.size; (try simp only [World.size_drew, World.size_alloc, World.size_setCell] at hc2 hf2 hz2); obtain ⟨hk2x0, hj2x0, hq2x0⟩ := kfa hb2 (w.heap.size); obtain ⟨hk2x1, hj2x1, hq2x1⟩ := kfa hb2 (w.heap.size + 1); obtain ⟨hk2x2, hj2x2, hq2x2⟩ := kfa hb2 (w.heap.size + 1 + 1); clear hc2 hf2); (try go_wp2_with fail); refine tr hK (fun hHeld => ?_); clear hK K)
  (refine tc 8 fun K hK => ?_; go_simp; (go_at_call 107; refine (placedWide_q _ _ _ _ _).mono ?_; rintro e w3 ⟨rfl, hb3⟩; obtain ⟨hc3, hf3⟩ := bcell hb3; have hz3 := hb3.size; (try simp only [World.size_drew, World.size_alloc, World.size_setCell] at hc3 hf3 hz3); obtain ⟨hk3x0, hj3x0, hq3x0⟩ := kfa hb3 (w.heap.size); obtain ⟨hk3x1, hj3x1, hq3x1⟩ := kfa hb3 (w.heap.size + 1); obtain ⟨hk3x2, hj3x2, hq3x2⟩ := kfa hb3 (w.heap.size + 1 + 1); clear hc3 hf3); (try go_wp2_with fail); refine tr hK (fun hHeld => ?_); clear hK K)
  refine tq 9 hHeld ?_
  (refine tc 10 fun K hK => ?_; go_simp; (go_at_call 105; refine (roundDent_q _ _ _ X Y D _ _ (by omega) (by omega) (by omega) e).mono ?_; rintro e w4 ⟨rfl, hb4⟩; obtain ⟨hc4, hf4⟩ := bcell hb4; have hz4 := hb4.size; (try simp only [World.size_drew, World.size_alloc, World.size_setCell] at hc4 hf4 hz4); obtain ⟨hk4x0, hj4x0, hq4x0⟩ := kfa hb4 (w.heap.size); obtain ⟨hk4x1, hj4x1, hq4x1⟩ := kfa hb4 (w.heap.size + 1); obtain ⟨hk4x2, hj4x2, hq4x2⟩ := kfa hb4 (w.heap.size + 1 + 1); clear hc4 hf4); (try go_wp2_with fail); refine tr hK (fun hHeld => ?_); clear hK K)
  refine tq 11 hHeld ?_
  refine tq 12 hHeld ?_
  (refine tc 13 fun K hK => ?_; go_simp; refine tr hK (fun hHeld => ?_); clear hK K)
  refine tq 14 hHeld ?_
  refine wpAnyH_done (by kernel_rfl) ?_ _
  go_wp2_with fail
  exact bodyPost_ret (v := .tuple #[s3 X Y D, .bool K]) (by simp [results, Tryz.results101, go_sem, *]) rfl ⟨rfl, bel_a⟩
theorem smeet_z (a b c d r s t u : Int) (z : Bool) (w : World) (e : (leB a b t u && leB r s c d) = z) :
    Calls Tryz.prog 113 #[b4 a b c d, b4 r s t u] w fun e w' => e = .returned (.bool z) ∧ Below w.heap.size w w' := by
  subst e; exact spanMeets_any a b c d r s t u w
theorem shas_z (a b c d r s t u : Int) (z : Bool) (w : World) (e : (leB a b r s && leB t u c d) = z) :
    Calls Tryz.prog 110 #[b4 a b c d, b4 r s t u] w fun e w' => e = .returned (.bool z) ∧ Below w.heap.size w w' := by
  subst e; exact spanHas_any a b c d r s t u w
theorem snear_z (a b c d x y X Y : Int) (w : World) (e1 : mn (mx x a) c = X) (e2 : mn (mx y b) d = Y) :
    Calls Tryz.prog 112 #[b4 a b c d, vv x y] w fun e w' => e = .returned (vv X Y) ∧ Below w.heap.size w w' := by
  subst e1; subst e2; exact spanNear_any a b c d x y w
theorem boxesTouch_q (x y g1 h1 u v g2 h2 X Y D : Int) (K : Bool) (w : World) (lg1 : 1 ≤ g1 ∧ g1 ≤ 25600) (lh1 : 1 ≤ h1 ∧ h1 ≤ 25600) (lg2 : 1 ≤ g2 ∧ g2 ≤ 25600) (lh2 : 1 ≤ h2 ∧ h2 ≤ 25600) (px : -2560000 ≤ x ∧ x ≤ 2560000) (py : -2560000 ≤ y ∧ y ≤ 2560000) (pu : -2560000 ≤ u ∧ u ≤ 2560000) (pv : -2560000 ≤ v ∧ v ≤ 2560000) (e : bxT (x - g1) (y - h1) (x + g1) (y + h1) (u - g2) (v - h2) (u + g2) (v + h2) = ((X, Y, D), K)) :
    Calls Tryz.prog 104 #[b4 x y g1 h1, b4 u v g2 h2] w fun e w' => e = .returned (.tuple #[s3 X Y D, .bool K]) ∧ Below w.heap.size w w' := by
  have hset := cset_map
  unfold bxT at e
  cases eM : (leB (x - g1) (y - h1) (u + g2) (v + h2) && leB (u - g2) (v - h2) (x + g1) (y + h1)) with
  | false =>
    rw [if_neg (by simp [eM])] at e
    simp only [Prod.mk.injEq] at e
    obtain ⟨⟨eX, eY, eD⟩, eK⟩ := e
    subst eX
    subst eY
    subst eD
    subst eK
    go_enter Tryz.func104, Tryz.ntmps104
    go_upto_region 1 with fail
    refine wp_region_held_drew (S := fun w' => w'.cell? ⟨w.heap.size, 0, none⟩ = some (.int .i64 x) ∧ w'.cell? ⟨w.heap.size, 1, none⟩ = some (.int .i64 y) ∧ w'.cell? ⟨w.heap.size, 2, none⟩ = some (.int .i64 g1) ∧ w'.cell? ⟨w.heap.size, 3, none⟩ = some (.int .i64 h1) ∧ w'.cell? ⟨w.heap.size + 1, 0, none⟩ = some (.int .i64 u) ∧ w'.cell? ⟨w.heap.size + 1, 1, none⟩ = some (.int .i64 v) ∧ w'.cell? ⟨w.heap.size + 1, 2, none⟩ = some (.int .i64 g2) ∧ w'.cell? ⟨w.heap.size + 1, 3, none⟩ = some (.int .i64 h2)) (by kernel_rfl) ?_ (fun hHeld => ?_)
    · (try dsimp only)
      (first | (go_simp; done) | (go_keep; done))
    refine tq 0 hHeld ?_
    refine tq 2 hHeld ?_
    (refine tc 1 fun K hK => ?_; go_simp; (go_at_call 109; refine (placedBounds_q _ _ _ _ _ (by omega) (by omega) (by omega) (by omega)).mono ?_; rintro e w1 ⟨rfl, hb1⟩; obtain ⟨hc1, hf1⟩ := bcell hb1; have hz1 := hb1.size; (try simp only [World.size_drew, World.size_alloc, World.size_setCell] at hc1 hf1 hz1); obtain ⟨hk1x0, hj1x0, hq1x0⟩ := kfa hb1 (w.heap.size); obtain ⟨hk1x1, hj1x1, hq1x1⟩ := kfa hb1 (w.heap.size + 1); obtain ⟨hk1x2, hj1x2, hq1x2⟩ := kfa hb1 (w.heap.size + 1 + 1); clear hc1 hf1); (try go_wp2_with fail); refine tr hK (fun hHeld => ?_); clear hK K)
    (refine tc 3 fun K hK => ?_; go_simp; (go_at_call 109; refine (placedBounds_q _ _ _ _ _ (by omega) (by omega) (by omega) (by omega)).mono ?_; rintro e w2 ⟨rfl, hb2⟩; obtain ⟨hc2, hf2⟩ := bcell hb2; have hz2 := hb2.size; (try simp only [World.size_drew, World.size_alloc, World.size_setCell] at hc2 hf2 hz2); obtain ⟨hk2x0, hj2x0, hq2x0⟩ := kfa hb2 (w.heap.size); obtain ⟨hk2x1, hj2x1, hq2x1⟩ := kfa hb2 (w.heap.size + 1); obtain ⟨hk2x2, hj2x2, hq2x2⟩ := kfa hb2 (w.heap.size + 1 + 1); clear hc2 hf2); (try go_wp2_with fail); refine tr hK (fun hHeld => ?_); clear hK K)
    (refine tc 4 fun K hK => ?_; go_simp; (go_at_call 113; refine (smeet_z _ _ _ _ _ _ _ _ _ _ eM).mono ?_; rintro e w3 ⟨rfl, hb3⟩; obtain ⟨hc3, hf3⟩ := bcell hb3; have hz3 := hb3.size; (try simp only [World.size_drew, World.size_alloc, World.size_setCell] at hc3 hf3 hz3); obtain ⟨hk3x0, hj3x0, hq3x0⟩ := kfa hb3 (w.heap.size); obtain ⟨hk3x1, hj3x1, hq3x1⟩ := kfa hb3 (w.heap.size + 1); obtain ⟨hk3x2, hj3x2, hq3x2⟩ := kfa hb3 (w.heap.size + 1 + 1); clear hc3 hf3); (try go_wp2_with fail); refine tr hK (fun hHeld => ?_); clear hK K)
    refine tq 5 hHeld ?_
    refine wpAnyH_done (by kernel_rfl) ?_ _
    go_wp2_with fail
    exact bodyPost_ret (v := .tuple #[s3 0 0 0, .bool false]) (by simp [results, Tryz.results104, go_sem, *]) rfl ⟨rfl, bel_a⟩
  | true =>
    rw [if_pos eM] at e
    obtain ⟨⟨P, Q, E⟩, eD⟩ : ∃ z, bsT (x + g1 - (u - g2)) (u + g2 - (x - g1)) (y + h1 - (v - h2)) (v + h2 - (y - h1)) = z := ⟨_, rfl⟩
    rw [eD] at e
    simp only [Prod.mk.injEq] at e
    obtain ⟨⟨eX, eY, eZ⟩, eK⟩ := e
    subst eX
    subst eY
    subst eZ
    subst eK
    go_enter Tryz.func104, Tryz.ntmps104
    go_upto_region 1 with fail
    refine wp_region_held_drew (S := fun w' => w'.cell? ⟨w.heap.size, 0, none⟩ = some (.int .i64 x) ∧ w'.cell? ⟨w.heap.size, 1, none⟩ = some (.int .i64 y) ∧ w'.cell? ⟨w.heap.size, 2, none⟩ = some (.int .i64 g1) ∧ w'.cell? ⟨w.heap.size, 3, none⟩ = some (.int .i64 h1) ∧ w'.cell? ⟨w.heap.size + 1, 0, none⟩ = some (.int .i64 u) ∧ w'.cell? ⟨w.heap.size + 1, 1, none⟩ = some (.int .i64 v) ∧ w'.cell? ⟨w.heap.size + 1, 2, none⟩ = some (.int .i64 g2) ∧ w'.cell? ⟨w.heap.size + 1, 3, none⟩ = some (.int .i64 h2)) (by kernel_rfl) ?_ (fun hHeld => ?_)
    · (try dsimp only)
      (first | (go_simp; done) | (go_keep; done))
    refine tq 0 hHeld ?_
    refine tq 2 hHeld ?_
    (refine tc 1 fun K hK => ?_; go_simp; (go_at_call 109; refine (placedBounds_q _ _ _ _ _ (by omega) (by omega) (by omega) (by omega)).mono ?_; rintro e w1 ⟨rfl, hb1⟩; obtain ⟨hc1, hf1⟩ := bcell hb1; have hz1 := hb1.size; (try simp only [World.size_drew, World.size_alloc, World.size_setCell] at hc1 hf1 hz1); obtain ⟨hk1x0, hj1x0, hq1x0⟩ := kfa hb1 (w.heap.size); obtain ⟨hk1x1, hj1x1, hq1x1⟩ := kfa hb1 (w.heap.size + 1); obtain ⟨hk1x2, hj1x2, hq1x2⟩ := kfa hb1 (w.heap.size + 1 + 1); clear hc1 hf1); (try go_wp2_with fail); refine tr hK (fun hHeld => ?_); clear hK K)
    (refine tc 3 fun K hK => ?_; go_simp; (go_at_call 109; refine (placedBounds_q _ _ _ _ _ (by omega) (by omega) (by omega) (by omega)).mono ?_; rintro e w2 ⟨rfl, hb2⟩; obtain ⟨hc2, hf2⟩ := bcell hb2; have hz2 := hb2.size; (try simp only [World.size_drew, World.size_alloc, World.size_setCell] at hc2 hf2 hz2); obtain ⟨hk2x0, hj2x0, hq2x0⟩ := kfa hb2 (w.heap.size); obtain ⟨hk2x1, hj2x1, hq2x1⟩ := kfa hb2 (w.heap.size + 1); obtain ⟨hk2x2, hj2x2, hq2x2⟩ := kfa hb2 (w.heap.size + 1 + 1); clear hc2 hf2); (try go_wp2_with fail); refine tr hK (fun hHeld => ?_); clear hK K)
    (refine tc 4 fun K hK => ?_; go_simp; (go_at_call 113; refine (smeet_z _ _ _ _ _ _ _ _ _ _ eM).mono ?_; rintro e w3 ⟨rfl, hb3⟩; obtain ⟨hc3, hf3⟩ := bcell hb3; have hz3 := hb3.size; (try simp only [World.size_drew, World.size_alloc, World.size_setCell] at hc3 hf3 hz3); obtain ⟨hk3x0, hj3x0, hq3x0⟩ := kfa hb3 (w.heap.size); obtain ⟨hk3x1, hj3x1, hq3x1⟩ := kfa hb3 (w.heap.size + 1); obtain ⟨hk3x2, hj3x2, hq3x2⟩ := kfa hb3 (w.heap.size + 1 + 1); clear hc3 hf3); (try go_wp2_with fail); refine tr hK (fun hHeld => ?_); clear hK K)
    refine tq 5 hHeld ?_
    refine wpAnyH_done (by kernel_rfl) ?_ _
    go_upto_region 3 with fail
    refine wp_region_held_drew (S := fun w' => w'.cell? ⟨w.heap.size, 0, none⟩ = some (.int .i64 x) ∧ w'.cell? ⟨w.heap.size, 1, none⟩ = some (.int .i64 y) ∧ w'.cell? ⟨w.heap.size, 2, none⟩ = some (.int .i64 g1) ∧ w'.cell? ⟨w.heap.size, 3, none⟩ = some (.int .i64 h1) ∧ w'.cell? ⟨w.heap.size + 1, 0, none⟩ = some (.int .i64 u) ∧ w'.cell? ⟨w.heap.size + 1, 1, none⟩ = some (.int .i64 v) ∧ w'.cell? ⟨w.heap.size + 1, 2, none⟩ = some (.int .i64 g2) ∧ w'.cell? ⟨w.heap.size + 1, 3, none⟩ = some (.int .i64 h2)) (by kernel_rfl) ?_ (fun hHeld => ?_)
    · (try dsimp only)
      (first | (go_simp; done) | (go_keep; done))
    refine tq 0 hHeld ?_
    refine tq 2 hHeld ?_
    (refine tc 1 fun K hK => ?_; go_simp; (go_at_call 109; refine (placedBounds_q _ _ _ _ _ (by omega) (by omega) (by omega) (by omega)).mono ?_; rintro e w4 ⟨rfl, hb4⟩; obtain ⟨hc4, hf4⟩ := bcell hb4; have hz4 := hb4.size; (try simp only [World.size_drew, World.size_alloc, World.size_setCell] at hc4 hf4 hz4); obtain ⟨hk4x0, hj4x0, hq4x0⟩ := kfa hb4 (w.heap.size); obtain ⟨hk4x1, hj4x1, hq4x1⟩ := kfa hb4 (w.heap.size + 1); obtain ⟨hk4x2, hj4x2, hq4x2⟩ := kfa hb4 (w.heap.size + 1 + 1); clear hc4 hf4); (try go_wp2_with fail); refine tr hK (fun hHeld => ?_); clear hK K)
    (refine tc 3 fun K hK => ?_; go_simp; (go_at_call 109; refine (placedBounds_q _ _ _ _ _ (by omega) (by omega) (by omega) (by omega)).mono ?_; rintro e w5 ⟨rfl, hb5⟩; obtain ⟨hc5, hf5⟩ := bcell hb5; have hz5 := hb5.size; (try simp only [World.size_drew, World.size_alloc, World.size_setCell] at hc5 hf5 hz5); obtain ⟨hk5x0, hj5x0, hq5x0⟩ := kfa hb5 (w.heap.size); obtain ⟨hk5x1, hj5x1, hq5x1⟩ := kfa hb5 (w.heap.size + 1); obtain ⟨hk5x2, hj5x2, hq5x2⟩ := kfa hb5 (w.heap.size + 1 + 1); clear hc5 hf5); (try go_wp2_with fail); refine tr hK (fun hHeld => ?_); clear hK K)
    (refine tc 4 fun K hK => ?_; go_simp; (go_at_call 111; refine (spanDent_q _ _ _ _ _ _ _ _ P Q E _ (by omega) (by omega) (by omega) (by omega) (by omega) (by omega) (by omega) (by omega) eD).mono ?_; rintro e w6 ⟨rfl, hb6⟩; obtain ⟨hc6, hf6⟩ := bcell hb6; have hz6 := hb6.size; (try simp only [World.size_drew, World.size_alloc, World.size_setCell] at hc6 hf6 hz6); obtain ⟨hk6x0, hj6x0, hq6x0⟩ := kfa hb6 (w.heap.size); obtain ⟨hk6x1, hj6x1, hq6x1⟩ := kfa hb6 (w.heap.size + 1); obtain ⟨hk6x2, hj6x2, hq6x2⟩ := kfa hb6 (w.heap.size + 1 + 1); clear hc6 hf6); (try go_wp2_with fail); refine tr hK (fun hHeld => ?_); clear hK K)
    (refine tc 5 fun K hK => ?_; go_simp; refine tr hK (fun hHeld => ?_); clear hK K)
    refine tq 6 hHeld ?_
    refine wpAnyH_done (by kernel_rfl) ?_ _
    go_wp2_with fail
    exact bodyPost_ret (v := .tuple #[s3 P Q E, .bool true]) (by simp [results, Tryz.results104, go_sem, *]) rfl ⟨rfl, bel_a⟩
end Go.Proofs.YtlbpmmjckoaleaaGreat
