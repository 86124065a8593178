/- How something round and a box touch, by the program. -/
import Derived.Test.YtnkebpbpempmhaaITch4
import Derived.Deep.RegionHeld3
import Derived.Deep.DeepCutAuto
namespace Go.Proofs.Ytnkebpbpempmhaa
open Go.RowKit
set_option linter.unusedVariables false
set_option linter.unusedSimpArgs false

theorem mxT_no {a b c d x y g P Q E : Int} (e : mxT a b c d x y g = ((P, Q, E), false)) : P = 0 ∧ Q = 0 ∧ E = 0 := by
  unfold mxT at e
  split at e
  · simp only [Prod.mk.injEq] at e; exact absurd e.2 (by decide)
  · unfold rdT at e
    split at e
    · simp only [Prod.mk.injEq] at e; exact absurd e.2 (by decide)
    · simp only [Prod.mk.injEq] at e; omega
set_option maxHeartbeats 4000000 in
theorem roundTouchesBox_q (x y g1 h1 u v g2 h2 X Y D : Int) (K : Bool) (w : World) (lg1 : 1 ≤ g1 ∧ g1 ≤ 25600) (lg2 : 1 ≤ g2 ∧ g2 ≤ 25600) (lh2 : 1 ≤ h2 ∧ h2 ≤ 25600) (px : -2560000 ≤ x ∧ x ≤ 2560000) (py : -2560000 ≤ y ∧ y ≤ 2560000) (pu : -2560000 ≤ u ∧ u ≤ 2560000) (pv : -2560000 ≤ v ∧ v ≤ 2560000) (e : tnT (mxT (u - g2) (v - h2) (u + g2) (v + h2) x y g1) = ((X, Y, D), K)) :
    Calls Try.prog 90 #[b4 x y g1 h1, b4 u v g2 h2] w fun e w' => e = .returned (.tuple #[s3 X Y D, .bool K]) ∧ Below w.heap.size w w' := by
  have hset := cset_map
  obtain ⟨⟨⟨P, Q, E⟩, Z⟩, eM⟩ : ∃ z, mxT (u - g2) (v - h2) (u + g2) (v + h2) x y g1 = z := ⟨_, rfl⟩
  obtain ⟨hP, hQ⟩ := mxT_bd (by omega) (by omega) (by omega) (by omega) (by omega) (by omega) eM
  rw [eM] at e
  unfold tnT at e
  cases Z with
  | true =>
    simp only [if_true, Prod.mk.injEq] at e
    obtain ⟨⟨eX, eY, eD⟩, eK⟩ := e
    subst eX
    subst eY
    subst eD
    subst eK
    go_enter Try.func90, Try.ntmps90
    go_wp2_with (first
    | (go_at_call 112; refine (dentTurned_q _ _ _ _ (by omega) (by omega)).mono ?_; rintro e w2 ⟨rfl, hb2⟩; obtain ⟨hc2, hf2⟩ := bcell hb2; have hz2 := hb2.size; (try simp only [World.size_drew, World.size_alloc, World.size_setCell] at hc2 hf2 hz2); have hk2x0 := fun o => hc2 (w.heap.size) o (by omega); have hj2x0 := fun o => hf2 (w.heap.size) o (by omega); have hq2x0 : w.heap.size < w2.heap.size := (by omega); have hk2x1 := fun o => hc2 (w.heap.size + 1) o (by omega); have hj2x1 := fun o => hf2 (w.heap.size + 1) o (by omega); have hq2x1 : w.heap.size + 1 < w2.heap.size := (by omega); have hk2x2 := fun o => hc2 (w.heap.size + 1 + 1) o (by omega); have hj2x2 := fun o => hf2 (w.heap.size + 1 + 1) o (by omega); have hq2x2 : w.heap.size + 1 + 1 < w2.heap.size := (by omega); clear hc2 hf2)
    | (go_at_call 91; refine (boxTouchesRound_q _ _ _ _ _ _ _ _ P Q E true _ (by omega) (by omega) (by omega) (by omega) (by omega) (by omega) (by omega) eM).mono ?_; rintro e w1 ⟨rfl, hb1⟩; obtain ⟨hc1, hf1⟩ := bcell hb1; have hz1 := hb1.size; (try simp only [World.size_drew, World.size_alloc, World.size_setCell] at hc1 hf1 hz1); have hk1x0 := fun o => hc1 (w.heap.size) o (by omega); have hj1x0 := fun o => hf1 (w.heap.size) o (by omega); have hq1x0 : w.heap.size < w1.heap.size := (by omega); have hk1x1 := fun o => hc1 (w.heap.size + 1) o (by omega); have hj1x1 := fun o => hf1 (w.heap.size + 1) o (by omega); have hq1x1 : w.heap.size + 1 < w1.heap.size := (by omega); have hk1x2 := fun o => hc1 (w.heap.size + 1 + 1) o (by omega); have hj1x2 := fun o => hf1 (w.heap.size + 1 + 1) o (by omega); have hq1x2 : w.heap.size + 1 + 1 < w1.heap.size := (by omega); clear hc1 hf1))
    exact bodyPost_ret (v := .tuple #[s3 (-P) (-Q) E, .bool true]) (by simp [results, Try.results90, go_sem, *]) rfl ⟨rfl, by repeat (first | with_reducible apply Below.refl | (with_reducible apply Below.setCell; rotate_left; focus (first | omega | (simp; done) | (simp; omega))) | (with_reducible apply Below.alloc; rotate_left; focus (first | omega | (simp; done) | (simp; omega))) | with_reducible apply Below.drew | with_reducible apply belowDrewN | (with_reducible apply Below.trans; rotate_left; with_reducible apply Below.mono; with_reducible assumption; focus (first | omega | (simp; done) | (simp; omega))))⟩
  | false =>
    rw [if_neg (by simp)] at e
    simp only [Prod.mk.injEq] at e
    obtain ⟨⟨eX, eY, eD⟩, eK⟩ := e
    subst eX
    subst eY
    subst eD
    subst eK
    obtain ⟨z1, z2, z3⟩ := mxT_no eM
    subst z1
    subst z2
    subst z3
    go_enter Try.func90, Try.ntmps90
    go_wp2_with (first
    | (go_at_call 112; refine (dentTurned_q _ _ _ _ (by omega) (by omega)).mono ?_; rintro e w2 ⟨rfl, hb2⟩; obtain ⟨hc2, hf2⟩ := bcell hb2; have hz2 := hb2.size; (try simp only [World.size_drew, World.size_alloc, World.size_setCell] at hc2 hf2 hz2); have hk2x0 := fun o => hc2 (w.heap.size) o (by omega); have hj2x0 := fun o => hf2 (w.heap.size) o (by omega); have hq2x0 : w.heap.size < w2.heap.size := (by omega); have hk2x1 := fun o => hc2 (w.heap.size + 1) o (by omega); have hj2x1 := fun o => hf2 (w.heap.size + 1) o (by omega); have hq2x1 : w.heap.size + 1 < w2.heap.size := (by omega); have hk2x2 := fun o => hc2 (w.heap.size + 1 + 1) o (by omega); have hj2x2 := fun o => hf2 (w.heap.size + 1 + 1) o (by omega); have hq2x2 : w.heap.size + 1 + 1 < w2.heap.size := (by omega); clear hc2 hf2)
    | (go_at_call 91; refine (boxTouchesRound_q _ _ _ _ _ _ _ _ 0 0 0 false _ (by omega) (by omega) (by omega) (by omega) (by omega) (by omega) (by omega) eM).mono ?_; rintro e w1 ⟨rfl, hb1⟩; obtain ⟨hc1, hf1⟩ := bcell hb1; have hz1 := hb1.size; (try simp only [World.size_drew, World.size_alloc, World.size_setCell] at hc1 hf1 hz1); have hk1x0 := fun o => hc1 (w.heap.size) o (by omega); have hj1x0 := fun o => hf1 (w.heap.size) o (by omega); have hq1x0 : w.heap.size < w1.heap.size := (by omega); have hk1x1 := fun o => hc1 (w.heap.size + 1) o (by omega); have hj1x1 := fun o => hf1 (w.heap.size + 1) o (by omega); have hq1x1 : w.heap.size + 1 < w1.heap.size := (by omega); have hk1x2 := fun o => hc1 (w.heap.size + 1 + 1) o (by omega); have hj1x2 := fun o => hf1 (w.heap.size + 1 + 1) o (by omega); have hq1x2 : w.heap.size + 1 + 1 < w1.heap.size := (by omega); clear hc1 hf1))
    exact bodyPost_ret (v := .tuple #[s3 0 0 0, .bool false]) (by simp [results, Try.results90, go_sem, *]) rfl ⟨rfl, by repeat (first | with_reducible apply Below.refl | (with_reducible apply Below.setCell; rotate_left; focus (first | omega | (simp; done) | (simp; omega))) | (with_reducible apply Below.alloc; rotate_left; focus (first | omega | (simp; done) | (simp; omega))) | with_reducible apply Below.drew | with_reducible apply belowDrewN | (with_reducible apply Below.trans; rotate_left; with_reducible apply Below.mono; with_reducible assumption; focus (first | omega | (simp; done) | (simp; omega))))⟩
end Go.Proofs.Ytnkebpbpempmhaa
