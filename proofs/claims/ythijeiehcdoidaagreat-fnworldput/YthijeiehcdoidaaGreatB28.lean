/- Texts of a proof. -/
import Derived.Test.YthijeiehcdoidaaGreatB3
import Derived.Test.YthijeiehcdoidaaGreatB17
import Derived.Test.YthijeiehcdoidaaGreatB11
import Derived.Deep.RegionHeld3
import Derived.Deep.DeepCutAuto
import Derived.Test.YthijeiehcdoidaaGreatB7
import Derived.Test.YthijeiehcdoidaaGreatB4
import Derived.Test.YthijeiehcdoidaaGreatB1
import Derived.Test.YthijeiehcdoidaaGreatB14
import Derived.Test.YthijeiehcdoidaaGreatB2
import Derived.Test.YthijeiehcdoidaaGreatB20
set_option maxHeartbeats 16000000
set_option maxRecDepth 20000
namespace Go.Proofs.YthijeiehcdoidaaGreat
open Go.RowKit
set_option linter.unusedVariables false
set_option linter.unusedSimpArgs false
theorem l10Copy_any (T P : Int) (a : Option Addr) (n c : Nat) (U : Nat → Int) (a' : Option Addr) (m c' : Nat) (Q : Nat → Int) (w : World) (h : Flat w a (n * 12) U) (h' : Flat w a' (m * 2) Q) (hn : n ≤ 1048576) (hm : m ≤ 1048576) :
 Calls Tryz.prog 37 #[worldW T P a n c a' m c'] w fun e w' => ∃ a1 c1 a2 c2, e = .returned (worldW T P a1 n c1 a2 m c2) ∧ OutW w w' a1 n c1 U a2 m c2 Q := by
 have hset := cset_map
 go_enter Tryz.func37, Tryz.ntmps37
 go_upto_region 1 with fail
 refine wp_region_held_drew (S := fun w' => w'.cell? ⟨w.heap.size, 0, none⟩ = some (.int .i64 T) ∧ w'.cell? ⟨w.heap.size, 1, none⟩ = some (.int .i64 P) ∧ w'.cell? ⟨w.heap.size, 2, none⟩ = some (.slice a n c) ∧ w'.cell? ⟨w.heap.size, 3, none⟩ = some (.slice a' m c')) (by kernel_rfl) ?_ (fun hHeld => ?_)
 · (try dsimp only)
   (first | (go_simp; done) | (go_keep; done))
 refine tq 0 hHeld ?_
 refine tq 1 hHeld ?_
 refine tq 2 hHeld ?_
 refine tq 3 hHeld ?_
 refine tq 4 hHeld ?_
 refine tq 5 hHeld ?_
 refine tq 8 hHeld ?_
 refine tq 9 hHeld ?_
 refine wpAnyH_ready (rs := [6, 7]) (by kernel_rfl) (by simp) ?_
 refine AllReadyH.cons rfl (fun K hK => ?_) (AllReadyH.cons rfl (fun K hK => ?_) AllReadyH.nil)
 focus
  (go_simp; (go_at_call 72; refine (l8Copy_any a n c U _ (h.below (bel_a)) hn).mono ?_; rintro e w1 ⟨a1, c1, rfl, hO1⟩; have hb1 := hO1.bel; obtain ⟨hc1, hf1⟩ := bcell hb1; have hz1 := hb1.size; (try simp only [zz] at hc1 hf1 hz1); have hk1x0 := fun o => hc1 (w.heap.size) o (by omega); have hk1x1 := fun o => hc1 (w.heap.size + 1) o (by omega); have hj1x1 := fun o => hf1 (w.heap.size + 1) o (by omega); have hq1x1 : w.heap.size + 1 < w1.heap.size := (by omega)); (try go_wp2_with fail); refine tr hK (fun hHeld => ?_); clear hK K)
  refine tc 7 fun K hK => ?_
  (go_simp; refine tr hK (fun hHeld => ?_); clear hK K)
  refine tc 10 fun K hK => ?_
  have hp : OwnL (w1.alloc (.cells #[] 58)) (w.heap.size + 1 + 1) 58 2 (.slice (some ⟨w1.heap.size, 0, none⟩) 0 0) 0 (fun _ => 0) := OwnL.fresh0 _ _ _ _ _ _ rfl (by omega)
  have hE2 : Below w.heap.size w (w1.alloc (.cells #[] 58)) := bel_a
  have ho1x : OwnL (w1.alloc (.cells #[] 58)) (w.heap.size + 1 + 1) 41 12 (.slice a1 n c1) n U := (hO1.own.below (bel_a)).base (by first | omega | (simp; done) | (simp; omega))
  refine step_app0 (by rfl) _ _ _ (by rfl) (w.heap.size + 1 + 1) 58 2 16 zcPair Tryz.underlying24 infoItPair (by rfl) (by decide) _ (fun _ => 0) (by rfl) hp _ m _ Q (by rfl) (h'.below hE2) (by unfold maxLen; omega) (by omega) (by first | omega | (simp; done) | (simp; omega)) ?_
  intro a2 c2 w2 ho2 hg2
  have hz2 := hg2.size
  (try simp only [World.size_alloc] at hz2)
  have hb2 : Below w.heap.size w w2 := hE2.grown hg2 (by first | omega | (simp; omega)) (fun b e => by have := (hp.lt b e).1; omega)
  have ho1z : OwnL w2 (w.heap.size + 1 + 1) 41 12 (.slice a1 n c1) n U := ho1x.kept hg2 (.inr (fun e => by have := hO1.own.lt (w1.heap.size) e; simp at this; try omega))
  have f2 : ∀ b o, b < w.heap.size + 1 + 1 → w2.cell? ⟨b, o, none⟩ = World.cell? (w1.alloc (.cells #[] 58)) ⟨b, o, none⟩ := fun b o hb => hg2.cell_far ⟨b, o, none⟩ (by first | omega | (simp; done) | (simp; omega)) (fun e => by simp [Value.ownBlock] at e; try omega)
  have g2 : ∀ o, w2.frozen? ⟨w.heap.size + 1, o, none⟩ = World.frozen? (w1.alloc (.cells #[] 58)) ⟨w.heap.size + 1, o, none⟩ := fun o => hg2.frozen_far ⟨w.heap.size + 1, o, none⟩ (by first | omega | (simp; done) | (simp; omega)) (fun e => by simp [Value.ownBlock] at e; try omega)
 rotate_left
 focus
  (go_simp; refine tr hK (fun hHeld => ?_); clear hK K)
  refine tc 6 fun K hK => ?_
  (go_simp; (go_at_call 72; refine (l8Copy_any a n c U _ (h.below (bel_a)) hn).mono ?_; rintro e w1 ⟨a1, c1, rfl, hO1⟩; have hb1 := hO1.bel; obtain ⟨hc1, hf1⟩ := bcell hb1; have hz1 := hb1.size; (try simp only [zz] at hc1 hf1 hz1); have hk1x0 := fun o => hc1 (w.heap.size) o (by omega); have hk1x1 := fun o => hc1 (w.heap.size + 1) o (by omega); have hj1x1 := fun o => hf1 (w.heap.size + 1) o (by omega); have hq1x1 : w.heap.size + 1 < w1.heap.size := (by omega)); (try go_wp2_with fail); refine tr hK (fun hHeld => ?_); clear hK K)
  refine tc 10 fun K hK => ?_
  have hp : OwnL w1 (w.heap.size + 1 + 1) 58 2 (.slice (some ⟨w.heap.size + 1 + 1, 0, none⟩) 0 0) 0 (fun _ => 0) := (OwnL.fresh0 _ _ _ _ _ _ (by simp) (by first | omega | (simp; done) | (simp; omega))).drewO.below hb1
  have hE2 : Below w.heap.size w w1 := bel_a
  have ho1x : OwnL w1 (w.heap.size + 1 + 1) 41 12 (.slice a1 n c1) n U := (hO1.own.below (bel_a)).base (by first | omega | (simp; done) | (simp; omega))
  refine step_app0 (by rfl) _ _ _ (by rfl) (w.heap.size + 1 + 1) 58 2 16 zcPair Tryz.underlying24 infoItPair (by rfl) (by decide) _ (fun _ => 0) (by rfl) hp _ m _ Q (by rfl) (h'.below hE2) (by unfold maxLen; omega) (by omega) (by first | omega | (simp; done) | (simp; omega)) ?_
  intro a2 c2 w2 ho2 hg2
  have hz2 := hg2.size
  (try simp only [World.size_alloc] at hz2)
  have hb2 : Below w.heap.size w w2 := hE2.grown hg2 (by first | omega | (simp; omega)) (fun b e => by have := (hp.lt b e).1; omega)
  have ho1z : OwnL w2 (w.heap.size + 1 + 1) 41 12 (.slice a1 n c1) n U := ho1x.kept hg2 (.inr (fun e => by have := hO1.own.lt (w.heap.size + 1 + 1) e; simp at this; try omega))
  have f2 : ∀ b o, b < w.heap.size + 1 + 1 → w2.cell? ⟨b, o, none⟩ = World.cell? w1 ⟨b, o, none⟩ := fun b o hb => hg2.cell_far ⟨b, o, none⟩ (by first | omega | (simp; done) | (simp; omega)) (fun e => by simp [Value.ownBlock] at e; try omega)
  have g2 : ∀ o, w2.frozen? ⟨w.heap.size + 1, o, none⟩ = World.frozen? w1 ⟨w.heap.size + 1, o, none⟩ := fun o => hg2.frozen_far ⟨w.heap.size + 1, o, none⟩ (by first | omega | (simp; done) | (simp; omega)) (fun e => by simp [Value.ownBlock] at e; try omega)
 all_goals
  have hq2 : w.heap.size + 1 < w2.heap.size := by omega
  have s0 : w2.cell? ⟨w.heap.size, 0, none⟩ = some (.int .i64 T) := (f2 _ _ (by omega)).trans (by go_simp)
  have s1 : w2.cell? ⟨w.heap.size, 1, none⟩ = some (.int .i64 P) := (f2 _ _ (by omega)).trans (by go_simp)
  have s2 : w2.cell? ⟨w.heap.size, 2, none⟩ = some (.slice a n c) := (f2 _ _ (by omega)).trans (by go_simp)
  have s3 : w2.cell? ⟨w.heap.size, 3, none⟩ = some (.slice a' m c') := (f2 _ _ (by omega)).trans (by go_simp)
  have u0 : w2.cell? ⟨w.heap.size + 1, 0, none⟩ = some (.int .i64 0) := (f2 _ _ (by omega)).trans (by go_simp)
  have u1 : w2.cell? ⟨w.heap.size + 1, 1, none⟩ = some (.int .i64 0) := (f2 _ _ (by omega)).trans (by go_simp)
  have u2 : w2.cell? ⟨w.heap.size + 1, 2, none⟩ = some (.slice none 0 0) := (f2 _ _ (by omega)).trans (by go_simp)
  have u3 : w2.cell? ⟨w.heap.size + 1, 3, none⟩ = some (.slice none 0 0) := (f2 _ _ (by omega)).trans (by go_simp)
  have v0 : w2.frozen? ⟨w.heap.size + 1, 0, none⟩ = false := (g2 _).trans (by go_simp)
  have v1 : w2.frozen? ⟨w.heap.size + 1, 1, none⟩ = false := (g2 _).trans (by go_simp)
  have v2 : w2.frozen? ⟨w.heap.size + 1, 2, none⟩ = false := (g2 _).trans (by go_simp)
  have v3 : w2.frozen? ⟨w.heap.size + 1, 3, none⟩ = false := (g2 _).trans (by go_simp)
  clear f2 g2
  refine tr hK (fun hHeld => ?_) ⟨s0, s1, s2, s3⟩
  clear hK K
  refine tq 11 hHeld ?_
  refine tc 12 fun K hK => ?_
  (go_simp; refine tr hK (fun hHeld => ?_); clear hK K)
  refine wpAnyH_done (by kernel_rfl) ?_ _
  go_wp2_with fail
  exact bodyPost_ret (v := worldW T P a1 n c1 a2 m c2) (by simp [results, Tryz.results37, go_sem, *]) rfl ⟨_, _, _, _, rfl, bel_a, ((((ho1z.setO (by first | omega | (simp; done) | (simp; omega)) _).setO (by first | omega | (simp; done) | (simp; omega)) _).setO (by first | omega | (simp; done) | (simp; omega)) _).setO (by first | omega | (simp; done) | (simp; omega)) _).base (by first | omega | (simp; done) | (simp; omega)), ((((ho2.setO (by first | omega | (simp; done) | (simp; omega)) _).setO (by first | omega | (simp; done) | (simp; omega)) _).setO (by first | omega | (simp; done) | (simp; omega)) _).setO (by first | omega | (simp; done) | (simp; omega)) _).base (by first | omega | (simp; done) | (simp; omega)), ho1z.neT ho2 (by decide)⟩
theorem unit_z (x y X Y : Int) (w : World) (hx : -1000000000 ≤ x ∧ x ≤ 1000000000) (hy : -1000000000 ≤ y ∧ y ≤ 1000000000) (e1 : ux x y = X) (e2 : uy x y = Y) :
 Calls Tryz.prog 152 #[vv x y] w fun e w' => e = .returned (vv X Y) ∧ Below w.heap.size w w' := by
 subst e1; subst e2; exact unit_any x y w hx hy
theorem length_z (x y L : Int) (w : World) (hx : -1000000000 ≤ x ∧ x ≤ 1000000000) (hy : -1000000000 ≤ y ∧ y ≤ 1000000000) (e : vl x y = L) :
 Calls Tryz.prog 153 #[vv x y] w fun e w' => e = .returned (.int .i64 L) ∧ Below w.heap.size w w' := by
 subst e; exact length_any x y w hx hy
theorem roundDent_q (dx dy g X Y D : Int) (K : Bool) (w : World) (qx : -6000000 ≤ dx ∧ dx ≤ 6000000) (qy : -6000000 ≤ dy ∧ dy ≤ 6000000) (g0 : 0 ≤ g ∧ g ≤ 100000) (e : rdT dx dy g = ((X, Y, D), K)) :
 Calls Tryz.prog 131 #[vv dx dy, .int .i64 g] w fun e w' => e = .returned (.tuple #[s3 X Y D, .bool K]) ∧ Below w.heap.size w w' := by
 have hset := cset_map
 have m3 := mul_bd (a := g) (b := g) (A := 100000) (B := 100000) (by omega) (by omega)
 have w3 := i64w (n := g * g) (by omega)
 unfold rdT at e
 cases dd : decide (g * g < dx * dx + dy * dy) with
 | true =>
  have hn := of_decide_eq_true dd
  rw [if_neg (by omega)] at e
  simp only [Prod.mk.injEq] at e
  obtain ⟨⟨eX, eY, eD⟩, eK⟩ := e
  subst eX
  subst eY
  subst eD
  subst eK
  clear hn m3
  go_enter Tryz.func131, Tryz.ntmps131
  go_wp2_with (go_at_call 118; refine (products_any _ _ _ _ _ (by omega) (by omega) (by omega) (by omega)).mono ?_; rintro e w1 ⟨rfl, hb1⟩; have hz1 := hb1.size; (try simp only [zz] at hz1); have := kf2 hb1 w.heap.size)
  exact bodyPost_ret (v := .tuple #[s3 0 0 0, .bool false]) (by simp [results, Tryz.results131, go_sem, *]) rfl ⟨rfl, bel_a⟩
 | false =>
  have hn := of_decide_eq_false dd
  rw [if_pos (by omega)] at e
  obtain ⟨L, eL⟩ : ∃ z, vl dx dy = z := ⟨_, rfl⟩
  have lb := vl_bd dx dy
  rw [eL] at lb e
  simp only [Prod.mk.injEq] at e
  obtain ⟨⟨eX, eY, eD⟩, eK⟩ := e
  subst eD
  subst eK
  have w4 := i64w (n := g - L) (by omega)
  clear hn m3
  go_enter Tryz.func131, Tryz.ntmps131
  go_upto_region 3 with (go_at_call 118; refine (products_any _ _ _ _ _ (by omega) (by omega) (by omega) (by omega)).mono ?_; rintro e w1 ⟨rfl, hb1⟩; have hz1 := hb1.size; (try simp only [zz] at hz1); have := kf2 hb1 w.heap.size)
  refine wp_region_held_drew (S := fun w' => w'.cell? ⟨w.heap.size, 0, none⟩ = some (.int .i64 dx) ∧ w'.cell? ⟨w.heap.size, 1, none⟩ = some (.int .i64 dy)) (by kernel_rfl) ?_ (fun hHeld => ?_)
  · (try dsimp only)
    (first | (go_simp; done) | (go_keep; done))
  refine tq 0 hHeld ?_
  refine tq 2 hHeld ?_
  refine tq 3 hHeld ?_
  (refine tc 1 fun K hK => ?_; go_simp; (go_at_call 152; refine (unit_z _ _ _ _ _ (by omega) (by omega) eX eY).mono ?_; rintro e w2 ⟨rfl, hb2⟩; have hz2 := hb2.size; (try simp only [zz] at hz2); have := kf2 hb2 w.heap.size); (try go_wp2_with fail); refine tr hK (fun hHeld => ?_); clear hK K)
  (refine tc 4 fun K hK => ?_; go_simp; (go_at_call 153; refine (length_z _ _ _ _ (by omega) (by omega) eL).mono ?_; rintro e w3 ⟨rfl, hb3⟩; have hz3 := hb3.size; (try simp only [zz] at hz3); have := kf2 hb3 w.heap.size); (try go_wp2_with fail); refine tr hK (fun hHeld => ?_); clear hK K)
  refine tq 5 hHeld ?_
  refine tq 6 hHeld ?_
  (refine tc 7 fun K hK => ?_; go_simp; refine tr hK (fun hHeld => ?_); clear hK K)
  refine tq 8 hHeld ?_
  refine wpAnyH_done (by kernel_rfl) ?_ _
  go_wp2_with fail
  exact bodyPost_ret (v := .tuple #[s3 X Y (g - L), .bool true]) (by simp [results, Tryz.results131, go_sem, *]) rfl ⟨rfl, bel_a⟩
theorem placedBounds_q (x y g h : Int) (w : World) (qx : -3000000 ≤ x ∧ x ≤ 3000000) (qy : -3000000 ≤ y ∧ y ≤ 3000000) (qg : -3000000 ≤ g ∧ g ≤ 3000000) (qh : -3000000 ≤ h ∧ h ≤ 3000000) :
 Calls Tryz.prog 134 #[b4 x y g h] w fun e w' => e = .returned (b4 (x - g) (y - h) (x + g) (y + h)) ∧ Below w.heap.size w w' := by
 have hset := cset_map
 go_enter Tryz.func134, Tryz.ntmps134
 go_wp2_with (go_at_call 60; refine (spanAround_any _ _ _ _ _ (by omega) (by omega) (by omega) (by omega)).mono ?_; rintro e w1 ⟨rfl, hb1⟩; have hz1 := hb1.size; (try simp only [zz] at hz1); have := kf2 hb1 w.heap.size)
 exact bodyPost_ret (v := b4 (x - g) (y - h) (x + g) (y + h)) (by simp [results, Tryz.results134, go_sem, *]) rfl ⟨rfl, bel_a⟩
theorem placedWide_q (x y g h : Int) (w : World) :
 Calls Tryz.prog 132 #[b4 x y g h] w fun e w' => e = .returned (.int .i64 g) ∧ Below w.heap.size w w' := by
 have hset := cset_map
 go_enter Tryz.func132, Tryz.ntmps132
 go_wp2_with fail
 go_ret
 exact ⟨rfl, bel_a⟩
theorem dentHit_q (X Y D : Int) (w : World) :
 Calls Tryz.prog 79 #[s3 X Y D] w fun e w' => e = .returned (s3 X Y D) ∧ Below w.heap.size w w' := by
 have hset := cset_map
 go_enter Tryz.func79, Tryz.ntmps79
 go_upto_region 1 with fail
 refine wp_region_held_drew (S := fun w' => w'.cell? ⟨w.heap.size, 0, none⟩ = some (.int .i64 X) ∧ w'.cell? ⟨w.heap.size, 1, none⟩ = some (.int .i64 Y) ∧ w'.cell? ⟨w.heap.size, 2, none⟩ = some (.int .i64 D)) (by kernel_rfl) ?_ (fun hHeld => ?_)
 · (try dsimp only)
   (first | (go_simp; done) | (go_keep; done))
 refine tq 0 hHeld ?_
 refine tq 1 hHeld ?_
 refine tq 3 hHeld ?_
 refine tq 4 hHeld ?_
 (refine tc 2 fun K hK => ?_; go_simp; (go_at_call 107; refine (vec_any _ _ _).mono ?_; rintro e w1 ⟨rfl, hb1⟩; have hz1 := hb1.size; (try simp only [zz] at hz1); have := kf2 hb1 w.heap.size); (try go_wp2_with fail); refine tr hK (fun hHeld => ?_); clear hK K)
 refine tq 5 hHeld ?_
 (refine tc 6 fun K hK => ?_; go_simp; refine tr hK (fun hHeld => ?_); clear hK K)
 refine wpAnyH_done (by kernel_rfl) ?_ _
 go_wp2_with fail
 exact bodyPost_ret (v := s3 X Y D) (by simp [results, Tryz.results79, go_sem, *]) rfl ⟨rfl, bel_a⟩
theorem opp_z (x y : Int) (w : World) (hx : -2000000000 ≤ x ∧ x ≤ 2000000000) (hy : -2000000000 ≤ y ∧ y ≤ 2000000000) :
 Calls Tryz.prog 154 #[vv x y] w fun e w' => e = .returned (vv (-x) (-y)) ∧ Below w.heap.size w w' := by
 have hset := cset_map
 have w1 := i64w (n := -x) (by omega)
 have w2 := i64w (n := -y) (by omega)
 go_enter Tryz.func154, Tryz.ntmps154
 go_wp2_with fail
 exact bodyPost_ret (v := vv (-x) (-y)) (by simp [results, Tryz.results154, go_sem, *]) rfl ⟨rfl, bel_a⟩
theorem dentTurned_q (X Y D : Int) (w : World) (hx : -2000000000 ≤ X ∧ X ≤ 2000000000) (hy : -2000000000 ≤ Y ∧ Y ≤ 2000000000) :
 Calls Tryz.prog 133 #[s3 X Y D] w fun e w' => e = .returned (s3 (-X) (-Y) D) ∧ Below w.heap.size w w' := by
 have hset := cset_map
 go_enter Tryz.func133, Tryz.ntmps133
 go_upto_region 1 with fail
 refine wp_region_held_drew (S := fun w' => w'.cell? ⟨w.heap.size, 0, none⟩ = some (.int .i64 X) ∧ w'.cell? ⟨w.heap.size, 1, none⟩ = some (.int .i64 Y) ∧ w'.cell? ⟨w.heap.size, 2, none⟩ = some (.int .i64 D)) (by kernel_rfl) ?_ (fun hHeld => ?_)
 · (try dsimp only)
   (first | (go_simp; done) | (go_keep; done))
 refine tq 0 hHeld ?_
 refine tq 1 hHeld ?_
 refine tq 3 hHeld ?_
 refine tq 4 hHeld ?_
 (refine tc 2 fun K hK => ?_; go_simp; (go_at_call 154; refine (opp_z _ _ _ (by omega) (by omega)).mono ?_; rintro e w1 ⟨rfl, hb1⟩; have hz1 := hb1.size; (try simp only [zz] at hz1); have := kf2 hb1 w.heap.size); (try go_wp2_with fail); refine tr hK (fun hHeld => ?_); clear hK K)
 refine tq 5 hHeld ?_
 (refine tc 6 fun K hK => ?_; go_simp; refine tr hK (fun hHeld => ?_); clear hK K)
 refine wpAnyH_done (by kernel_rfl) ?_ _
 go_wp2_with fail
 exact bodyPost_ret (v := s3 (-X) (-Y) D) (by simp [results, Tryz.results133, go_sem, *]) rfl ⟨rfl, bel_a⟩
end Go.Proofs.YthijeiehcdoidaaGreat
