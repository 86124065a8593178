/- Texts of a proof. -/
import Derived.Test.YtmnhankcbkfhaaaGreatDoorB4
import Derived.Test.YtmnhankcbkfhaaaGreatDoorB1
import Derived.Test.YtmnhankcbkfhaaaGreatDoorB19
import Derived.Test.YtmnhankcbkfhaaaGreatDoorB15
import Derived.Handy
import Derived.Deep.RegionHeld3
import Derived.Deep.DeepCutAuto
set_option maxHeartbeats 16000000
set_option maxRecDepth 20000
namespace Go.Proofs.YtmnhankcbkfhaaaGreatDoor
open Go.RowKit
set_option linter.unusedVariables false
set_option linter.unusedSimpArgs false
theorem wayHeld_z (x y l a b : Int) (w : World) (h0 : 0 ≤ l) (h1 : l ≤ 4000000000) (ea : clampZ l x = a) (eb : clampZ l y = b) :
 Calls Tryz.prog 123 #[vv x y, .int .i64 l] w fun e w' => e = .returned (vv a b) ∧ Below w.heap.size w w' := by
 subst ea eb; exact wayHeld_any x y l w h0 h1
theorem kMove_c {cb n k : Nat} {C : Nat → Nat → Int} {S : Nat → Value} {w : World} (h : Cs w cb n C S) (hk : k < n) (hn : n ≤ 1048576) (p q A B D E : Int) (V : Nat → Int) (hV : ∀ i, V i = C i k) (b4 : -2560000 ≤ V 4 ∧ V 4 ≤ 2560000) (b5 : -2560000 ≤ V 5 ∧ V 5 ≤ 2560000) (bp : -20000000 ≤ p ∧ p ≤ 20000000) (bq : -20000000 ≤ q ∧ q ≤ 20000000)
 (eA : clampZ 2560000 (V 4 + p) = A) (eB : clampZ 2560000 (V 5 + q) = B) (eC : (if A = V 4 + p then V 6 else 0) = D) (eD : (if B = V 5 + q then V 7 else 0) = E) :
 Calls Tryz.prog 126 #[hdk cb k, vv p q] w fun e w' => e = .returned (.tuple #[]) ∧ Cs w' cb n (setC (setC (setC (setC C 4 k A) 5 k B) 6 k D) 7 k E) S ∧ Fr (Xc S) w w' := by
 have hset := cset_map
 have h0 : HAt w cb n k V (gOf S) := by rw [show V = fun i => C i k from funext hV]; exact h.hat hk hn
 clear hV
 have l1 := h0.cbl
 have hx : ∀ b, w.heap.size ≤ b → ¬ Xc S b := fun b hb x => by have := (h.xlt x).2; omega
 go_enter Tryz.func126, Tryz.ntmps126
 go_upto_region 1 with fail
 go_cut [4] (fun s wc => ∃ Ba, s = .pointer (some ⟨Ba, 0, none⟩) ∧ wc.cell? ⟨w.heap.size, 0, none⟩ = some (.int .i64 (k : Int)) ∧ wc.cell? ⟨w.heap.size, 1, none⟩ = some (.pointer (some ⟨cb, 0, none⟩)) ∧ wc.cell? ⟨Ba, 0, none⟩ = some (.int .i64 (V 4 + p)) ∧ wc.cell? ⟨Ba, 1, none⟩ = some (.int .i64 (V 5 + q)) ∧ w.heap.size + 1 < Ba ∧ Ba < wc.heap.size ∧ Below w.heap.size w wc)
 case first =>
  refine wp_region_held_drew (S := fun w' => w'.cell? ⟨w.heap.size, 0, none⟩ = some (.int .i64 (k : Int)) ∧ w'.cell? ⟨w.heap.size, 1, none⟩ = some (.pointer (some ⟨cb, 0, none⟩)) ∧ w'.cell? ⟨w.heap.size + 1, 0, none⟩ = some (.int .i64 p) ∧ w'.cell? ⟨w.heap.size + 1, 1, none⟩ = some (.int .i64 q)) (by kernel_rfl) ?_ (fun hHeld => ?_)
  · (try dsimp only)
    (first | (go_simp; done) | (go_keep; done))
  refine tq 0 hHeld ?_
  refine tq 2 hHeld ?_
  refine wpAnyH_ready (rs := [1, 4]) (by kernel_rfl) (by simp) ?_
  refine AllReadyH.cons rfl (fun K hK => ?_) (AllReadyH.cons rfl (fun K hK => ?_) AllReadyH.nil)
  · (go_simp; (go_at_call 88; refine (kAt (h0.below (bel_a))).mono ?_; rintro e w1 ⟨rfl, hb1⟩; obtain ⟨hc1, hf1⟩ := bcell hb1; have hz1 := hb1.size; (try simp only [zz] at hc1 hf1 hz1); have := kf2 hb1 w.heap.size; (try have q := kfz hc1 hf1 hz1 (w.heap.size + 1 + 1) (by omega); obtain ⟨ht1x0, hu1x0, hv1x0, hw1x0⟩ := q); clear hc1 hf1); (try go_wp2_with fail); refine tr hK (fun hHeld => ?_); clear hK K)
    refine wpAnyH_ready (rs := [3, 4]) (by kernel_rfl) (by simp) ?_
    refine AllReadyH.cons rfl (fun K hK => ?_) (AllReadyH.cons rfl (fun K hK => ?_) AllReadyH.nil)
    · (go_simp; (go_at_call 144; refine (plus_any _ _ _ _ _ (by omega) (by omega) (by omega) (by omega)).mono ?_; rintro e w2 ⟨rfl, hb2⟩; obtain ⟨hc2, hf2⟩ := bcell hb2; have hz2 := hb2.size; (try simp only [zz] at hc2 hf2 hz2); have := kf2 hb2 w.heap.size; (try have q := kfz hc2 hf2 hz2 (w.heap.size + 1 + 1) (by omega); obtain ⟨ht2x0, hu2x0, hv2x0, hw2x0⟩ := q); (try have q := kfz hc2 hf2 hz2 (w1.heap.size) (by omega); obtain ⟨ht2x1, hu2x1, hv2x1, hw2x1⟩ := q); clear hc2 hf2); (try go_wp2_with fail); refine tr hK (fun hHeld => ?_); clear hK K)
      (refine tc 4 fun K hK => ?_; go_simp; refine tr hK (fun hHeld => ?_); clear hK K)
      (refine tc 5 fun K hK => ?_; go_simp; refine tr hK (fun hHeld => ?_); clear hK K)
      refine wpAnyH_done (by kernel_rfl) ?_ _
      go_wp2_with fail
      go_meet
      exact ⟨_, rfl, (by go_simp), (by go_simp), (by go_simp), (by go_simp), (by first | omega | (simp; done) | (simp; omega)), (by first | omega | (simp; done) | (simp; omega)), bel_a⟩
    · (go_simp; refine tr hK (fun hHeld => ?_); clear hK K)
      (refine tc 3 fun K hK => ?_; go_simp; (go_at_call 144; refine (plus_any _ _ _ _ _ (by omega) (by omega) (by omega) (by omega)).mono ?_; rintro e w2 ⟨rfl, hb2⟩; obtain ⟨hc2, hf2⟩ := bcell hb2; have hz2 := hb2.size; (try simp only [zz] at hc2 hf2 hz2); have := kf2 hb2 w.heap.size; (try have q := kfz hc2 hf2 hz2 (w.heap.size + 1 + 1) (by omega); obtain ⟨ht2x0, hu2x0, hv2x0, hw2x0⟩ := q); (try have q := kfz hc2 hf2 hz2 (w1.heap.size) (by omega); obtain ⟨ht2x1, hu2x1, hv2x1, hw2x1⟩ := q); clear hc2 hf2); (try go_wp2_with fail); refine tr hK (fun hHeld => ?_); clear hK K)
      (refine tc 5 fun K hK => ?_; go_simp; refine tr hK (fun hHeld => ?_); clear hK K)
      refine wpAnyH_done (by kernel_rfl) ?_ _
      go_wp2_with fail
      go_meet
      exact ⟨_, rfl, (by go_simp), (by go_simp), (by go_simp), (by go_simp), (by first | omega | (simp; done) | (simp; omega)), (by first | omega | (simp; done) | (simp; omega)), bel_a⟩
  · (go_simp; refine tr hK (fun hHeld => ?_); clear hK K)
    (refine tc 1 fun K hK => ?_; go_simp; (go_at_call 88; refine (kAt (h0.below (bel_a))).mono ?_; rintro e w1 ⟨rfl, hb1⟩; obtain ⟨hc1, hf1⟩ := bcell hb1; have hz1 := hb1.size; (try simp only [zz] at hc1 hf1 hz1); have := kf2 hb1 w.heap.size; (try have q := kfz hc1 hf1 hz1 (w.heap.size + 1 + 1) (by omega); obtain ⟨ht1x0, hu1x0, hv1x0, hw1x0⟩ := q); clear hc1 hf1); (try go_wp2_with fail); refine tr hK (fun hHeld => ?_); clear hK K)
    (refine tc 3 fun K hK => ?_; go_simp; (go_at_call 144; refine (plus_any _ _ _ _ _ (by omega) (by omega) (by omega) (by omega)).mono ?_; rintro e w2 ⟨rfl, hb2⟩; obtain ⟨hc2, hf2⟩ := bcell hb2; have hz2 := hb2.size; (try simp only [zz] at hc2 hf2 hz2); have := kf2 hb2 w.heap.size; (try have q := kfz hc2 hf2 hz2 (w.heap.size + 1 + 1) (by omega); obtain ⟨ht2x0, hu2x0, hv2x0, hw2x0⟩ := q); (try have q := kfz hc2 hf2 hz2 (w1.heap.size) (by omega); obtain ⟨ht2x1, hu2x1, hv2x1, hw2x1⟩ := q); clear hc2 hf2); (try go_wp2_with fail); refine tr hK (fun hHeld => ?_); clear hK K)
    (refine tc 5 fun K hK => ?_; go_simp; refine tr hK (fun hHeld => ?_); clear hK K)
    refine wpAnyH_done (by kernel_rfl) ?_ _
    go_wp2_with fail
    go_meet
    exact ⟨_, rfl, (by go_simp), (by go_simp), (by go_simp), (by go_simp), (by first | omega | (simp; done) | (simp; omega)), (by first | omega | (simp; done) | (simp; omega)), bel_a⟩
 case rest =>
 obtain ⟨Ba, rfl, x0, x1, x2, x3, hlo, hhi, hbel⟩ := hcut
 have nBa : (wc.heap.size = Ba) = False := eq_false (by omega)
 go_upto_region 2 with fail
 go_cut [5, 6] (fun s s' wc => ∃ Bt Bd, s = .pointer (some ⟨Bt, 0, none⟩) ∧ s' = .pointer (some ⟨Bd, 0, none⟩) ∧ wc.cell? ⟨w.heap.size, 0, none⟩ = some (.int .i64 (k : Int)) ∧ wc.cell? ⟨w.heap.size, 1, none⟩ = some (.pointer (some ⟨cb, 0, none⟩)) ∧ wc.cell? ⟨Ba, 0, none⟩ = some (.int .i64 (V 4 + p)) ∧ wc.cell? ⟨Ba, 1, none⟩ = some (.int .i64 (V 5 + q)) ∧ wc.cell? ⟨Bt, 0, none⟩ = some (.int .i64 A) ∧ wc.cell? ⟨Bt, 1, none⟩ = some (.int .i64 B) ∧ wc.cell? ⟨Bd, 0, none⟩ = some (.int .i64 (V 6)) ∧ wc.cell? ⟨Bd, 1, none⟩ = some (.int .i64 (V 7)) ∧ wc.frozen? ⟨Bd, 0, none⟩ = false ∧ wc.frozen? ⟨Bd, 1, none⟩ = false ∧ Ba < Bt ∧ Ba < Bd ∧ Bt ≠ Bd ∧ Bt < wc.heap.size ∧ Bd < wc.heap.size ∧ Below w.heap.size w wc)
 case first =>
  refine wp_region_held_drew (S := fun w' => w'.cell? ⟨w.heap.size, 0, none⟩ = some (.int .i64 (k : Int)) ∧ w'.cell? ⟨w.heap.size, 1, none⟩ = some (.pointer (some ⟨cb, 0, none⟩)) ∧ w'.cell? ⟨Ba, 0, none⟩ = some (.int .i64 (V 4 + p)) ∧ w'.cell? ⟨Ba, 1, none⟩ = some (.int .i64 (V 5 + q))) (by kernel_rfl) ?_ (fun hHeld => ?_)
  · (try dsimp only)
    (first | (go_simp; done) | (go_keep; done))
  refine tq 0 hHeld ?_
  refine tq 2 hHeld ?_
  refine wpAnyH_ready (rs := [1, 4, 5]) (by kernel_rfl) (by simp) ?_
  refine AllReadyH.cons rfl (fun K hK => ?_) (AllReadyH.cons rfl (fun K hK => ?_) (AllReadyH.cons rfl (fun K hK => ?_) AllReadyH.nil))
  · (go_simp; (go_at_call 123; refine (wayHeld_z _ _ _ _ _ _ (by omega) (by omega) (by with_reducible assumption) (by with_reducible assumption)).mono ?_; rintro e w11 ⟨rfl, hb11⟩; obtain ⟨hc11, hf11⟩ := bcell hb11; have hz11 := hb11.size; (try simp only [zz] at hc11 hf11 hz11); have := kfa hb11 w.heap.size; have := kfa hb11 Ba; (try have q := kfz hc11 hf11 hz11 (wc.heap.size) (by omega); obtain ⟨ht11x0, hu11x0, hv11x0, hw11x0⟩ := q); (try have q := kfz hc11 hf11 hz11 (wc.heap.size + 1) (by omega); obtain ⟨ht11x1, hu11x1, hv11x1, hw11x1⟩ := q); clear hc11 hf11); (try go_wp2_with fail); refine tr hK (fun hHeld => ?_); clear hK K)
    refine wpAnyH_ready (rs := [3, 4, 5]) (by kernel_rfl) (by simp) ?_
    refine AllReadyH.cons rfl (fun K hK => ?_) (AllReadyH.cons rfl (fun K hK => ?_) (AllReadyH.cons rfl (fun K hK => ?_) AllReadyH.nil))
    · (go_simp; (go_at_call 90; refine (kDrive (h0.below (bel_a))).mono ?_; rintro e w12 ⟨rfl, hb12⟩; obtain ⟨hc12, hf12⟩ := bcell hb12; have hz12 := hb12.size; (try simp only [zz] at hc12 hf12 hz12); have := kfa hb12 w.heap.size; have := kfa hb12 Ba; (try have q := kfz hc12 hf12 hz12 (wc.heap.size) (by omega); obtain ⟨ht12x0, hu12x0, hv12x0, hw12x0⟩ := q); (try have q := kfz hc12 hf12 hz12 (wc.heap.size + 1) (by omega); obtain ⟨ht12x1, hu12x1, hv12x1, hw12x1⟩ := q); (try have q := kfz hc12 hf12 hz12 (w11.heap.size) (by omega); obtain ⟨ht12x2, hu12x2, hv12x2, hw12x2⟩ := q); (try have q := kfz hc12 hf12 hz12 (w11.heap.size + 1) (by omega); obtain ⟨ht12x3, hu12x3, hv12x3, hw12x3⟩ := q); clear hc12 hf12); (try go_wp2_with fail); refine tr hK (fun hHeld => ?_); clear hK K)
      refine wpAnyH_ready (rs := [4, 5]) (by kernel_rfl) (by simp) ?_
      refine AllReadyH.cons rfl (fun K hK => ?_) (AllReadyH.cons rfl (fun K hK => ?_) AllReadyH.nil)
      · (go_simp; refine tr hK (fun hHeld => ?_); clear hK K)
        (refine tc 5 fun K hK => ?_; go_simp; refine tr hK (fun hHeld => ?_); clear hK K)
        (refine tc 6 fun K hK => ?_; go_simp; refine tr hK (fun hHeld => ?_); clear hK K)
        (refine tc 7 fun K hK => ?_; go_simp; refine tr hK (fun hHeld => ?_); clear hK K)
        refine wpAnyH_done (by kernel_rfl) ?_ _
        go_wp2_with fail
        go_meet
        exact ⟨_, _, rfl, rfl, (by go_simp), (by go_simp), (by go_simp), (by go_simp), (by go_simp), (by go_simp), (by go_simp), (by go_simp), (by first | (go_simp; done) | (simp; done)), (by first | (go_simp; done) | (simp; done)), (by first | omega | (simp; done) | (simp; omega)), (by first | omega | (simp; done) | (simp; omega)), (by first | omega | (simp; done) | (simp; omega)), (by first | omega | (simp; done) | (simp; omega)), (by first | omega | (simp; done) | (simp; omega)), bel_a⟩
      · (go_simp; refine tr hK (fun hHeld => ?_); clear hK K)
        (refine tc 4 fun K hK => ?_; go_simp; refine tr hK (fun hHeld => ?_); clear hK K)
        (refine tc 6 fun K hK => ?_; go_simp; refine tr hK (fun hHeld => ?_); clear hK K)
        (refine tc 7 fun K hK => ?_; go_simp; refine tr hK (fun hHeld => ?_); clear hK K)
        refine wpAnyH_done (by kernel_rfl) ?_ _
        go_wp2_with fail
        go_meet
        exact ⟨_, _, rfl, rfl, (by go_simp), (by go_simp), (by go_simp), (by go_simp), (by go_simp), (by go_simp), (by go_simp), (by go_simp), (by first | (go_simp; done) | (simp; done)), (by first | (go_simp; done) | (simp; done)), (by first | omega | (simp; done) | (simp; omega)), (by first | omega | (simp; done) | (simp; omega)), (by first | omega | (simp; done) | (simp; omega)), (by first | omega | (simp; done) | (simp; omega)), (by first | omega | (simp; done) | (simp; omega)), bel_a⟩
    · (go_simp; refine tr hK (fun hHeld => ?_); clear hK K)
      refine wpAnyH_ready (rs := [3, 5]) (by kernel_rfl) (by simp) ?_
      refine AllReadyH.cons rfl (fun K hK => ?_) (AllReadyH.cons rfl (fun K hK => ?_) AllReadyH.nil)
      · (go_simp; (go_at_call 90; refine (kDrive (h0.below (bel_a))).mono ?_; rintro e w12 ⟨rfl, hb12⟩; obtain ⟨hc12, hf12⟩ := bcell hb12; have hz12 := hb12.size; (try simp only [zz] at hc12 hf12 hz12); have := kfa hb12 w.heap.size; have := kfa hb12 Ba; (try have q := kfz hc12 hf12 hz12 (wc.heap.size) (by omega); obtain ⟨ht12x0, hu12x0, hv12x0, hw12x0⟩ := q); (try have q := kfz hc12 hf12 hz12 (wc.heap.size + 1) (by omega); obtain ⟨ht12x1, hu12x1, hv12x1, hw12x1⟩ := q); (try have q := kfz hc12 hf12 hz12 (w11.heap.size) (by omega); obtain ⟨ht12x2, hu12x2, hv12x2, hw12x2⟩ := q); (try have q := kfz hc12 hf12 hz12 (w11.heap.size + 1) (by omega); obtain ⟨ht12x3, hu12x3, hv12x3, hw12x3⟩ := q); clear hc12 hf12); (try go_wp2_with fail); refine tr hK (fun hHeld => ?_); clear hK K)
        (refine tc 5 fun K hK => ?_; go_simp; refine tr hK (fun hHeld => ?_); clear hK K)
        (refine tc 6 fun K hK => ?_; go_simp; refine tr hK (fun hHeld => ?_); clear hK K)
        (refine tc 7 fun K hK => ?_; go_simp; refine tr hK (fun hHeld => ?_); clear hK K)
        refine wpAnyH_done (by kernel_rfl) ?_ _
        go_wp2_with fail
        go_meet
        exact ⟨_, _, rfl, rfl, (by go_simp), (by go_simp), (by go_simp), (by go_simp), (by go_simp), (by go_simp), (by go_simp), (by go_simp), (by first | (go_simp; done) | (simp; done)), (by first | (go_simp; done) | (simp; done)), (by first | omega | (simp; done) | (simp; omega)), (by first | omega | (simp; done) | (simp; omega)), (by first | omega | (simp; done) | (simp; omega)), (by first | omega | (simp; done) | (simp; omega)), (by first | omega | (simp; done) | (simp; omega)), bel_a⟩
      · (go_simp; refine tr hK (fun hHeld => ?_); clear hK K)
        (refine tc 3 fun K hK => ?_; go_simp; (go_at_call 90; refine (kDrive (h0.below (bel_a))).mono ?_; rintro e w12 ⟨rfl, hb12⟩; obtain ⟨hc12, hf12⟩ := bcell hb12; have hz12 := hb12.size; (try simp only [zz] at hc12 hf12 hz12); have := kfa hb12 w.heap.size; have := kfa hb12 Ba; (try have q := kfz hc12 hf12 hz12 (wc.heap.size) (by omega); obtain ⟨ht12x0, hu12x0, hv12x0, hw12x0⟩ := q); (try have q := kfz hc12 hf12 hz12 (wc.heap.size + 1) (by omega); obtain ⟨ht12x1, hu12x1, hv12x1, hw12x1⟩ := q); (try have q := kfz hc12 hf12 hz12 (w11.heap.size) (by omega); obtain ⟨ht12x2, hu12x2, hv12x2, hw12x2⟩ := q); (try have q := kfz hc12 hf12 hz12 (w11.heap.size + 1) (by omega); obtain ⟨ht12x3, hu12x3, hv12x3, hw12x3⟩ := q); clear hc12 hf12); (try go_wp2_with fail); refine tr hK (fun hHeld => ?_); clear hK K)
        (refine tc 6 fun K hK => ?_; go_simp; refine tr hK (fun hHeld => ?_); clear hK K)
        (refine tc 7 fun K hK => ?_; go_simp; refine tr hK (fun hHeld => ?_); clear hK K)
        refine wpAnyH_done (by kernel_rfl) ?_ _
        go_wp2_with fail
        go_meet
        exact ⟨_, _, rfl, rfl, (by go_simp), (by go_simp), (by go_simp), (by go_simp), (by go_simp), (by go_simp), (by go_simp), (by go_simp), (by first | (go_simp; done) | (simp; done)), (by first | (go_simp; done) | (simp; done)), (by first | omega | (simp; done) | (simp; omega)), (by first | omega | (simp; done) | (simp; omega)), (by first | omega | (simp; done) | (simp; omega)), (by first | omega | (simp; done) | (simp; omega)), (by first | omega | (simp; done) | (simp; omega)), bel_a⟩
    · (go_simp; refine tr hK (fun hHeld => ?_); clear hK K)
      refine wpAnyH_ready (rs := [3, 4]) (by kernel_rfl) (by simp) ?_
      refine AllReadyH.cons rfl (fun K hK => ?_) (AllReadyH.cons rfl (fun K hK => ?_) AllReadyH.nil)
      · (go_simp; (go_at_call 90; refine (kDrive (h0.below (bel_a))).mono ?_; rintro e w12 ⟨rfl, hb12⟩; obtain ⟨hc12, hf12⟩ := bcell hb12; have hz12 := hb12.size; (try simp only [zz] at hc12 hf12 hz12); have := kfa hb12 w.heap.size; have := kfa hb12 Ba; (try have q := kfz hc12 hf12 hz12 (wc.heap.size) (by omega); obtain ⟨ht12x0, hu12x0, hv12x0, hw12x0⟩ := q); (try have q := kfz hc12 hf12 hz12 (wc.heap.size + 1) (by omega); obtain ⟨ht12x1, hu12x1, hv12x1, hw12x1⟩ := q); (try have q := kfz hc12 hf12 hz12 (w11.heap.size) (by omega); obtain ⟨ht12x2, hu12x2, hv12x2, hw12x2⟩ := q); (try have q := kfz hc12 hf12 hz12 (w11.heap.size + 1) (by omega); obtain ⟨ht12x3, hu12x3, hv12x3, hw12x3⟩ := q); clear hc12 hf12); (try go_wp2_with fail); refine tr hK (fun hHeld => ?_); clear hK K)
        (refine tc 4 fun K hK => ?_; go_simp; refine tr hK (fun hHeld => ?_); clear hK K)
        (refine tc 6 fun K hK => ?_; go_simp; refine tr hK (fun hHeld => ?_); clear hK K)
        (refine tc 7 fun K hK => ?_; go_simp; refine tr hK (fun hHeld => ?_); clear hK K)
        refine wpAnyH_done (by kernel_rfl) ?_ _
        go_wp2_with fail
        go_meet
        exact ⟨_, _, rfl, rfl, (by go_simp), (by go_simp), (by go_simp), (by go_simp), (by go_simp), (by go_simp), (by go_simp), (by go_simp), (by first | (go_simp; done) | (simp; done)), (by first | (go_simp; done) | (simp; done)), (by first | omega | (simp; done) | (simp; omega)), (by first | omega | (simp; done) | (simp; omega)), (by first | omega | (simp; done) | (simp; omega)), (by first | omega | (simp; done) | (simp; omega)), (by first | omega | (simp; done) | (simp; omega)), bel_a⟩
      · (go_simp; refine tr hK (fun hHeld => ?_); clear hK K)
        (refine tc 3 fun K hK => ?_; go_simp; (go_at_call 90; refine (kDrive (h0.below (bel_a))).mono ?_; rintro e w12 ⟨rfl, hb12⟩; obtain ⟨hc12, hf12⟩ := bcell hb12; have hz12 := hb12.size; (try simp only [zz] at hc12 hf12 hz12); have := kfa hb12 w.heap.size; have := kfa hb12 Ba; (try have q := kfz hc12 hf12 hz12 (wc.heap.size) (by omega); obtain ⟨ht12x0, hu12x0, hv12x0, hw12x0⟩ := q); (try have q := kfz hc12 hf12 hz12 (wc.heap.size + 1) (by omega); obtain ⟨ht12x1, hu12x1, hv12x1, hw12x1⟩ := q); (try have q := kfz hc12 hf12 hz12 (w11.heap.size) (by omega); obtain ⟨ht12x2, hu12x2, hv12x2, hw12x2⟩ := q); (try have q := kfz hc12 hf12 hz12 (w11.heap.size + 1) (by omega); obtain ⟨ht12x3, hu12x3, hv12x3, hw12x3⟩ := q); clear hc12 hf12); (try go_wp2_with fail); refine tr hK (fun hHeld => ?_); clear hK K)
        (refine tc 6 fun K hK => ?_; go_simp; refine tr hK (fun hHeld => ?_); clear hK K)
        (refine tc 7 fun K hK => ?_; go_simp; refine tr hK (fun hHeld => ?_); clear hK K)
        refine wpAnyH_done (by kernel_rfl) ?_ _
        go_wp2_with fail
        go_meet
        exact ⟨_, _, rfl, rfl, (by go_simp), (by go_simp), (by go_simp), (by go_simp), (by go_simp), (by go_simp), (by go_simp), (by go_simp), (by first | (go_simp; done) | (simp; done)), (by first | (go_simp; done) | (simp; done)), (by first | omega | (simp; done) | (simp; omega)), (by first | omega | (simp; done) | (simp; omega)), (by first | omega | (simp; done) | (simp; omega)), (by first | omega | (simp; done) | (simp; omega)), (by first | omega | (simp; done) | (simp; omega)), bel_a⟩
  · (go_simp; refine tr hK (fun hHeld => ?_); clear hK K)
    refine wpAnyH_ready (rs := [1, 5]) (by kernel_rfl) (by simp) ?_
    refine AllReadyH.cons rfl (fun K hK => ?_) (AllReadyH.cons rfl (fun K hK => ?_) AllReadyH.nil)
    · (go_simp; (go_at_call 123; refine (wayHeld_z _ _ _ _ _ _ (by omega) (by omega) (by with_reducible assumption) (by with_reducible assumption)).mono ?_; rintro e w11 ⟨rfl, hb11⟩; obtain ⟨hc11, hf11⟩ := bcell hb11; have hz11 := hb11.size; (try simp only [zz] at hc11 hf11 hz11); have := kfa hb11 w.heap.size; have := kfa hb11 Ba; (try have q := kfz hc11 hf11 hz11 (wc.heap.size) (by omega); obtain ⟨ht11x0, hu11x0, hv11x0, hw11x0⟩ := q); (try have q := kfz hc11 hf11 hz11 (wc.heap.size + 1) (by omega); obtain ⟨ht11x1, hu11x1, hv11x1, hw11x1⟩ := q); clear hc11 hf11); (try go_wp2_with fail); refine tr hK (fun hHeld => ?_); clear hK K)
      refine wpAnyH_ready (rs := [3, 5]) (by kernel_rfl) (by simp) ?_
      refine AllReadyH.cons rfl (fun K hK => ?_) (AllReadyH.cons rfl (fun K hK => ?_) AllReadyH.nil)
      · (go_simp; (go_at_call 90; refine (kDrive (h0.below (bel_a))).mono ?_; rintro e w12 ⟨rfl, hb12⟩; obtain ⟨hc12, hf12⟩ := bcell hb12; have hz12 := hb12.size; (try simp only [zz] at hc12 hf12 hz12); have := kfa hb12 w.heap.size; have := kfa hb12 Ba; (try have q := kfz hc12 hf12 hz12 (wc.heap.size) (by omega); obtain ⟨ht12x0, hu12x0, hv12x0, hw12x0⟩ := q); (try have q := kfz hc12 hf12 hz12 (wc.heap.size + 1) (by omega); obtain ⟨ht12x1, hu12x1, hv12x1, hw12x1⟩ := q); (try have q := kfz hc12 hf12 hz12 (w11.heap.size) (by omega); obtain ⟨ht12x2, hu12x2, hv12x2, hw12x2⟩ := q); (try have q := kfz hc12 hf12 hz12 (w11.heap.size + 1) (by omega); obtain ⟨ht12x3, hu12x3, hv12x3, hw12x3⟩ := q); clear hc12 hf12); (try go_wp2_with fail); refine tr hK (fun hHeld => ?_); clear hK K)
        (refine tc 5 fun K hK => ?_; go_simp; refine tr hK (fun hHeld => ?_); clear hK K)
        (refine tc 6 fun K hK => ?_; go_simp; refine tr hK (fun hHeld => ?_); clear hK K)
        (refine tc 7 fun K hK => ?_; go_simp; refine tr hK (fun hHeld => ?_); clear hK K)
        refine wpAnyH_done (by kernel_rfl) ?_ _
        go_wp2_with fail
        go_meet
        exact ⟨_, _, rfl, rfl, (by go_simp), (by go_simp), (by go_simp), (by go_simp), (by go_simp), (by go_simp), (by go_simp), (by go_simp), (by first | (go_simp; done) | (simp; done)), (by first | (go_simp; done) | (simp; done)), (by first | omega | (simp; done) | (simp; omega)), (by first | omega | (simp; done) | (simp; omega)), (by first | omega | (simp; done) | (simp; omega)), (by first | omega | (simp; done) | (simp; omega)), (by first | omega | (simp; done) | (simp; omega)), bel_a⟩
      · (go_simp; refine tr hK (fun hHeld => ?_); clear hK K)
        (refine tc 3 fun K hK => ?_; go_simp; (go_at_call 90; refine (kDrive (h0.below (bel_a))).mono ?_; rintro e w12 ⟨rfl, hb12⟩; obtain ⟨hc12, hf12⟩ := bcell hb12; have hz12 := hb12.size; (try simp only [zz] at hc12 hf12 hz12); have := kfa hb12 w.heap.size; have := kfa hb12 Ba; (try have q := kfz hc12 hf12 hz12 (wc.heap.size) (by omega); obtain ⟨ht12x0, hu12x0, hv12x0, hw12x0⟩ := q); (try have q := kfz hc12 hf12 hz12 (wc.heap.size + 1) (by omega); obtain ⟨ht12x1, hu12x1, hv12x1, hw12x1⟩ := q); (try have q := kfz hc12 hf12 hz12 (w11.heap.size) (by omega); obtain ⟨ht12x2, hu12x2, hv12x2, hw12x2⟩ := q); (try have q := kfz hc12 hf12 hz12 (w11.heap.size + 1) (by omega); obtain ⟨ht12x3, hu12x3, hv12x3, hw12x3⟩ := q); clear hc12 hf12); (try go_wp2_with fail); refine tr hK (fun hHeld => ?_); clear hK K)
        (refine tc 6 fun K hK => ?_; go_simp; refine tr hK (fun hHeld => ?_); clear hK K)
        (refine tc 7 fun K hK => ?_; go_simp; refine tr hK (fun hHeld => ?_); clear hK K)
        refine wpAnyH_done (by kernel_rfl) ?_ _
        go_wp2_with fail
        go_meet
        exact ⟨_, _, rfl, rfl, (by go_simp), (by go_simp), (by go_simp), (by go_simp), (by go_simp), (by go_simp), (by go_simp), (by go_simp), (by first | (go_simp; done) | (simp; done)), (by first | (go_simp; done) | (simp; done)), (by first | omega | (simp; done) | (simp; omega)), (by first | omega | (simp; done) | (simp; omega)), (by first | omega | (simp; done) | (simp; omega)), (by first | omega | (simp; done) | (simp; omega)), (by first | omega | (simp; done) | (simp; omega)), bel_a⟩
    · (go_simp; refine tr hK (fun hHeld => ?_); clear hK K)
      (refine tc 1 fun K hK => ?_; go_simp; (go_at_call 123; refine (wayHeld_z _ _ _ _ _ _ (by omega) (by omega) (by with_reducible assumption) (by with_reducible assumption)).mono ?_; rintro e w11 ⟨rfl, hb11⟩; obtain ⟨hc11, hf11⟩ := bcell hb11; have hz11 := hb11.size; (try simp only [zz] at hc11 hf11 hz11); have := kfa hb11 w.heap.size; have := kfa hb11 Ba; (try have q := kfz hc11 hf11 hz11 (wc.heap.size) (by omega); obtain ⟨ht11x0, hu11x0, hv11x0, hw11x0⟩ := q); (try have q := kfz hc11 hf11 hz11 (wc.heap.size + 1) (by omega); obtain ⟨ht11x1, hu11x1, hv11x1, hw11x1⟩ := q); clear hc11 hf11); (try go_wp2_with fail); refine tr hK (fun hHeld => ?_); clear hK K)
      (refine tc 3 fun K hK => ?_; go_simp; (go_at_call 90; refine (kDrive (h0.below (bel_a))).mono ?_; rintro e w12 ⟨rfl, hb12⟩; obtain ⟨hc12, hf12⟩ := bcell hb12; have hz12 := hb12.size; (try simp only [zz] at hc12 hf12 hz12); have := kfa hb12 w.heap.size; have := kfa hb12 Ba; (try have q := kfz hc12 hf12 hz12 (wc.heap.size) (by omega); obtain ⟨ht12x0, hu12x0, hv12x0, hw12x0⟩ := q); (try have q := kfz hc12 hf12 hz12 (wc.heap.size + 1) (by omega); obtain ⟨ht12x1, hu12x1, hv12x1, hw12x1⟩ := q); (try have q := kfz hc12 hf12 hz12 (w11.heap.size) (by omega); obtain ⟨ht12x2, hu12x2, hv12x2, hw12x2⟩ := q); (try have q := kfz hc12 hf12 hz12 (w11.heap.size + 1) (by omega); obtain ⟨ht12x3, hu12x3, hv12x3, hw12x3⟩ := q); clear hc12 hf12); (try go_wp2_with fail); refine tr hK (fun hHeld => ?_); clear hK K)
      (refine tc 6 fun K hK => ?_; go_simp; refine tr hK (fun hHeld => ?_); clear hK K)
      (refine tc 7 fun K hK => ?_; go_simp; refine tr hK (fun hHeld => ?_); clear hK K)
      refine wpAnyH_done (by kernel_rfl) ?_ _
      go_wp2_with fail
      go_meet
      exact ⟨_, _, rfl, rfl, (by go_simp), (by go_simp), (by go_simp), (by go_simp), (by go_simp), (by go_simp), (by go_simp), (by go_simp), (by first | (go_simp; done) | (simp; done)), (by first | (go_simp; done) | (simp; done)), (by first | omega | (simp; done) | (simp; omega)), (by first | omega | (simp; done) | (simp; omega)), (by first | omega | (simp; done) | (simp; omega)), (by first | omega | (simp; done) | (simp; omega)), (by first | omega | (simp; done) | (simp; omega)), bel_a⟩
  · (go_simp; refine tr hK (fun hHeld => ?_); clear hK K)
    refine wpAnyH_ready (rs := [1, 4]) (by kernel_rfl) (by simp) ?_
    refine AllReadyH.cons rfl (fun K hK => ?_) (AllReadyH.cons rfl (fun K hK => ?_) AllReadyH.nil)
    · (go_simp; (go_at_call 123; refine (wayHeld_z _ _ _ _ _ _ (by omega) (by omega) (by with_reducible assumption) (by with_reducible assumption)).mono ?_; rintro e w11 ⟨rfl, hb11⟩; obtain ⟨hc11, hf11⟩ := bcell hb11; have hz11 := hb11.size; (try simp only [zz] at hc11 hf11 hz11); have := kfa hb11 w.heap.size; have := kfa hb11 Ba; (try have q := kfz hc11 hf11 hz11 (wc.heap.size) (by omega); obtain ⟨ht11x0, hu11x0, hv11x0, hw11x0⟩ := q); (try have q := kfz hc11 hf11 hz11 (wc.heap.size + 1) (by omega); obtain ⟨ht11x1, hu11x1, hv11x1, hw11x1⟩ := q); clear hc11 hf11); (try go_wp2_with fail); refine tr hK (fun hHeld => ?_); clear hK K)
      refine wpAnyH_ready (rs := [3, 4]) (by kernel_rfl) (by simp) ?_
      refine AllReadyH.cons rfl (fun K hK => ?_) (AllReadyH.cons rfl (fun K hK => ?_) AllReadyH.nil)
      · (go_simp; (go_at_call 90; refine (kDrive (h0.below (bel_a))).mono ?_; rintro e w12 ⟨rfl, hb12⟩; obtain ⟨hc12, hf12⟩ := bcell hb12; have hz12 := hb12.size; (try simp only [zz] at hc12 hf12 hz12); have := kfa hb12 w.heap.size; have := kfa hb12 Ba; (try have q := kfz hc12 hf12 hz12 (wc.heap.size) (by omega); obtain ⟨ht12x0, hu12x0, hv12x0, hw12x0⟩ := q); (try have q := kfz hc12 hf12 hz12 (wc.heap.size + 1) (by omega); obtain ⟨ht12x1, hu12x1, hv12x1, hw12x1⟩ := q); (try have q := kfz hc12 hf12 hz12 (w11.heap.size) (by omega); obtain ⟨ht12x2, hu12x2, hv12x2, hw12x2⟩ := q); (try have q := kfz hc12 hf12 hz12 (w11.heap.size + 1) (by omega); obtain ⟨ht12x3, hu12x3, hv12x3, hw12x3⟩ := q); clear hc12 hf12); (try go_wp2_with fail); refine tr hK (fun hHeld => ?_); clear hK K)
        (refine tc 4 fun K hK => ?_; go_simp; refine tr hK (fun hHeld => ?_); clear hK K)
        (refine tc 6 fun K hK => ?_; go_simp; refine tr hK (fun hHeld => ?_); clear hK K)
        (refine tc 7 fun K hK => ?_; go_simp; refine tr hK (fun hHeld => ?_); clear hK K)
        refine wpAnyH_done (by kernel_rfl) ?_ _
        go_wp2_with fail
        go_meet
        exact ⟨_, _, rfl, rfl, (by go_simp), (by go_simp), (by go_simp), (by go_simp), (by go_simp), (by go_simp), (by go_simp), (by go_simp), (by first | (go_simp; done) | (simp; done)), (by first | (go_simp; done) | (simp; done)), (by first | omega | (simp; done) | (simp; omega)), (by first | omega | (simp; done) | (simp; omega)), (by first | omega | (simp; done) | (simp; omega)), (by first | omega | (simp; done) | (simp; omega)), (by first | omega | (simp; done) | (simp; omega)), bel_a⟩
      · (go_simp; refine tr hK (fun hHeld => ?_); clear hK K)
        (refine tc 3 fun K hK => ?_; go_simp; (go_at_call 90; refine (kDrive (h0.below (bel_a))).mono ?_; rintro e w12 ⟨rfl, hb12⟩; obtain ⟨hc12, hf12⟩ := bcell hb12; have hz12 := hb12.size; (try simp only [zz] at hc12 hf12 hz12); have := kfa hb12 w.heap.size; have := kfa hb12 Ba; (try have q := kfz hc12 hf12 hz12 (wc.heap.size) (by omega); obtain ⟨ht12x0, hu12x0, hv12x0, hw12x0⟩ := q); (try have q := kfz hc12 hf12 hz12 (wc.heap.size + 1) (by omega); obtain ⟨ht12x1, hu12x1, hv12x1, hw12x1⟩ := q); (try have q := kfz hc12 hf12 hz12 (w11.heap.size) (by omega); obtain ⟨ht12x2, hu12x2, hv12x2, hw12x2⟩ := q); (try have q := kfz hc12 hf12 hz12 (w11.heap.size + 1) (by omega); obtain ⟨ht12x3, hu12x3, hv12x3, hw12x3⟩ := q); clear hc12 hf12); (try go_wp2_with fail); refine tr hK (fun hHeld => ?_); clear hK K)
        (refine tc 6 fun K hK => ?_; go_simp; refine tr hK (fun hHeld => ?_); clear hK K)
        (refine tc 7 fun K hK => ?_; go_simp; refine tr hK (fun hHeld => ?_); clear hK K)
        refine wpAnyH_done (by kernel_rfl) ?_ _
        go_wp2_with fail
        go_meet
        exact ⟨_, _, rfl, rfl, (by go_simp), (by go_simp), (by go_simp), (by go_simp), (by go_simp), (by go_simp), (by go_simp), (by go_simp), (by first | (go_simp; done) | (simp; done)), (by first | (go_simp; done) | (simp; done)), (by first | omega | (simp; done) | (simp; omega)), (by first | omega | (simp; done) | (simp; omega)), (by first | omega | (simp; done) | (simp; omega)), (by first | omega | (simp; done) | (simp; omega)), (by first | omega | (simp; done) | (simp; omega)), bel_a⟩
    · (go_simp; refine tr hK (fun hHeld => ?_); clear hK K)
      (refine tc 1 fun K hK => ?_; go_simp; (go_at_call 123; refine (wayHeld_z _ _ _ _ _ _ (by omega) (by omega) (by with_reducible assumption) (by with_reducible assumption)).mono ?_; rintro e w11 ⟨rfl, hb11⟩; obtain ⟨hc11, hf11⟩ := bcell hb11; have hz11 := hb11.size; (try simp only [zz] at hc11 hf11 hz11); have := kfa hb11 w.heap.size; have := kfa hb11 Ba; (try have q := kfz hc11 hf11 hz11 (wc.heap.size) (by omega); obtain ⟨ht11x0, hu11x0, hv11x0, hw11x0⟩ := q); (try have q := kfz hc11 hf11 hz11 (wc.heap.size + 1) (by omega); obtain ⟨ht11x1, hu11x1, hv11x1, hw11x1⟩ := q); clear hc11 hf11); (try go_wp2_with fail); refine tr hK (fun hHeld => ?_); clear hK K)
      (refine tc 3 fun K hK => ?_; go_simp; (go_at_call 90; refine (kDrive (h0.below (bel_a))).mono ?_; rintro e w12 ⟨rfl, hb12⟩; obtain ⟨hc12, hf12⟩ := bcell hb12; have hz12 := hb12.size; (try simp only [zz] at hc12 hf12 hz12); have := kfa hb12 w.heap.size; have := kfa hb12 Ba; (try have q := kfz hc12 hf12 hz12 (wc.heap.size) (by omega); obtain ⟨ht12x0, hu12x0, hv12x0, hw12x0⟩ := q); (try have q := kfz hc12 hf12 hz12 (wc.heap.size + 1) (by omega); obtain ⟨ht12x1, hu12x1, hv12x1, hw12x1⟩ := q); (try have q := kfz hc12 hf12 hz12 (w11.heap.size) (by omega); obtain ⟨ht12x2, hu12x2, hv12x2, hw12x2⟩ := q); (try have q := kfz hc12 hf12 hz12 (w11.heap.size + 1) (by omega); obtain ⟨ht12x3, hu12x3, hv12x3, hw12x3⟩ := q); clear hc12 hf12); (try go_wp2_with fail); refine tr hK (fun hHeld => ?_); clear hK K)
      (refine tc 6 fun K hK => ?_; go_simp; refine tr hK (fun hHeld => ?_); clear hK K)
      (refine tc 7 fun K hK => ?_; go_simp; refine tr hK (fun hHeld => ?_); clear hK K)
      refine wpAnyH_done (by kernel_rfl) ?_ _
      go_wp2_with fail
      go_meet
      exact ⟨_, _, rfl, rfl, (by go_simp), (by go_simp), (by go_simp), (by go_simp), (by go_simp), (by go_simp), (by go_simp), (by go_simp), (by first | (go_simp; done) | (simp; done)), (by first | (go_simp; done) | (simp; done)), (by first | omega | (simp; done) | (simp; omega)), (by first | omega | (simp; done) | (simp; omega)), (by first | omega | (simp; done) | (simp; omega)), (by first | omega | (simp; done) | (simp; omega)), (by first | omega | (simp; done) | (simp; omega)), bel_a⟩
 case rest =>
 obtain ⟨Bt, Bd, rfl, rfl, y0, y1, y2, y3, y4, y5, y6, y7, z0, z1, m0, m1, m2, m3, m4, hbel2⟩ := hcut
 clear x0 x1 x2 x3 hbel hhi nBa
 have kz := hbel2.size
 have ne1 : (Bt = Bd) = False := eq_false m2
 have ne2 : (Bd = Bt) = False := eq_false (by omega)
 have ne3 : (Ba = Bd) = False := eq_false (by omega)
 have ne4 : (Bd = Ba) = False := eq_false (by omega)
 have ne5 : (w.heap.size = Bd) = False := eq_false (by omega)
 have ne6 : (Bd = w.heap.size) = False := eq_false (by omega)
 have lq : w.heap.size < wc.heap.size := by omega
 go_wp2_with fail
 by_cases cA : A = V 4 + p
 focus
  rw [if_pos cA] at eC; subst eC
  by_cases cB : B = V 5 + q
  focus
   rw [if_pos cB] at eD; subst eD
  rotate_left
  focus
   rw [if_neg cB] at eD; subst eD
 rotate_left 2
 focus
  rw [if_neg cA] at eC; subst eC
  by_cases cB : B = V 5 + q
  focus
   rw [if_pos cB] at eD; subst eD
  rotate_left
  focus
   rw [if_neg cB] at eD; subst eD
 all_goals
  refine wp_loop_rounds 3 ?_
  rw [rounds_succ]
  go_upto_region 6 with fail
  refine wp_region_held_drew (S := fun w' => w'.cell? ⟨Bt, 0, none⟩ = some (.int .i64 A) ∧ w'.cell? ⟨Bt, 1, none⟩ = some (.int .i64 B) ∧ w'.cell? ⟨Ba, 0, none⟩ = some (.int .i64 (V 4 + p)) ∧ w'.cell? ⟨Ba, 1, none⟩ = some (.int .i64 (V 5 + q))) (by kernel_rfl) ?_ (fun hHeld => ?_)
  · (try dsimp only)
    (first | (go_simp; done) | (go_keep; done))
  refine tq 0 hHeld ?_
  refine tq 1 hHeld ?_
  refine tq 2 hHeld ?_
  refine tq 3 hHeld ?_
  refine tq 4 hHeld ?_
  refine tq 5 hHeld ?_
  refine tq 6 hHeld ?_
  refine wpAnyH_done (by kernel_rfl) ?_ _
  go_wp2_with fail
  rw [rounds_succ]
  go_upto_region 6 with fail
  refine wp_region_held_drew (S := fun w' => w'.cell? ⟨Bt, 0, none⟩ = some (.int .i64 A) ∧ w'.cell? ⟨Bt, 1, none⟩ = some (.int .i64 B) ∧ w'.cell? ⟨Ba, 0, none⟩ = some (.int .i64 (V 4 + p)) ∧ w'.cell? ⟨Ba, 1, none⟩ = some (.int .i64 (V 5 + q))) (by kernel_rfl) ?_ (fun hHeld => ?_)
  · (try dsimp only)
    (first | (go_simp; done) | (go_keep; done))
  refine tq 0 hHeld ?_
  refine tq 1 hHeld ?_
  refine tq 2 hHeld ?_
  refine tq 3 hHeld ?_
  refine tq 4 hHeld ?_
  refine tq 5 hHeld ?_
  refine tq 6 hHeld ?_
  refine wpAnyH_done (by kernel_rfl) ?_ _
  go_wp2_with fail
  rw [rounds_succ]
  go_wp2_with (first
   | (go_at_call 122; refine (kSetDrive hr21 hk hn _ _).mono ?_; rintro e w22 ⟨rfl, hr22, hF22⟩)
   | (go_at_call 145; refine (kSetAt (h.below (bel_a)) hk hn _ _).mono ?_; rintro e w21 ⟨rfl, hr21, hF21⟩; have hz21 := hF21.size; (try simp only [zz] at hz21); have hk21x0 := fun o => hF21.cell (p := ⟨w.heap.size, o, none⟩) (by first | omega | (simp; done) | (simp; omega)) (hx _ (by first | omega | (simp; done) | (simp; omega))); have hj21x0 := fun o => hF21.frozen (p := ⟨w.heap.size, o, none⟩) (by first | omega | (simp; done) | (simp; omega)) (hx _ (by first | omega | (simp; done) | (simp; omega))); have hq21x0 : w.heap.size < w21.heap.size := (by omega); have hk21x1 := fun o => hF21.cell (p := ⟨Bd, o, none⟩) (by first | omega | (simp; done) | (simp; omega)) (hx _ (by first | omega | (simp; done) | (simp; omega))); have hj21x1 := fun o => hF21.frozen (p := ⟨Bd, o, none⟩) (by first | omega | (simp; done) | (simp; omega)) (hx _ (by first | omega | (simp; done) | (simp; omega))); have hq21x1 : Bd < w21.heap.size := (by omega)))
  go_end0
  exact ⟨rfl, (by (try rw [cA]); (try rw [cB]); exact hr22), ((Fr.of_below (bel_a)).trans hF21).trans hF22⟩
end Go.Proofs.YtmnhankcbkfhaaaGreatDoor
