/- A ray and a box, by the specification and by the program. -/
import Derived.Test.YtnkebpbpempmhaaSRay
import Derived.Deep.RegionHeld3
import Derived.Deep.DeepCutAuto
namespace Go.Proofs.Ytnkebpbpempmhaa
open Go.RowKit
set_option linter.unusedVariables false
set_option linter.unusedSimpArgs false

theorem l5Slab_q (f g l h a b : Int) (F L : Int) (K : Bool) (w : World) (hf : -3000000 ≤ f ∧ f ≤ 3000000) (hg : -3000000 ≤ g ∧ g ≤ 3000000) (hl : -3000000 ≤ l ∧ l ≤ 3000000) (hh : -3000000 ≤ h ∧ h ≤ 3000000) (ha : 0 ≤ a) (hb : b ≤ 256) (hab : a ≤ b) (eF : msF a (btA f g l h) = F) (eL : msL b (btB f g l h) = L) (eK : (btC f g l h && !decide (msL b (btB f g l h) < msF a (btA f g l h))) = K) :
    Calls Try.prog 104 #[.int .i64 f, .int .i64 g, .int .i64 l, .int .i64 h, .int .i64 a, .int .i64 b] w fun e w' => e = .returned (.tuple #[.int .i64 F, .int .i64 L, .bool K]) ∧ w' = w := by
  subst eF eL eK
  exact l5Slab_any f g l h a b w hf hg hl hh ha hb hab
theorem msF_ge (a n : Int) (h : 0 ≤ a) : 0 ≤ msF a n := by unfold msF; split <;> omega
theorem msL_le (b n : Int) (h : b ≤ 256) : msL b n ≤ 256 := by unfold msL; split <;> omega

set_option maxHeartbeats 2000000 in
theorem l5RayBox_any (x y u v p q r t : Int) (w : World) (hx : -3000000 ≤ x ∧ x ≤ 3000000) (hy : -3000000 ≤ y ∧ y ≤ 3000000) (hu : -3000000 ≤ u ∧ u ≤ 3000000) (hv : -3000000 ≤ v ∧ v ≤ 3000000) (hp : -3000000 ≤ p ∧ p ≤ 3000000) (hq : -3000000 ≤ q ∧ q ≤ 3000000) (hr : -3000000 ≤ r ∧ r ≤ 3000000) (ht : -3000000 ≤ t ∧ t ≤ 3000000) :
    Calls Try.prog 75 #[b4 x y u v, b4 p q r t] w fun e w' => e = .returned (.tuple #[.int .i64 (rsF x y u v p q r t), .bool (rsK x y u v p q r t)]) ∧ Below w.heap.size w w' := by
  have hset := cset_map
  have z1 := msF_ge 0 (btA x u p r) (by omega)
  have z2 := msL_le 256 (btB x u p r) (by omega)
  obtain ⟨F1, hF1⟩ : ∃ n, msF 0 (btA x u p r) = n := ⟨_, rfl⟩
  obtain ⟨L1, hL1⟩ : ∃ n, msL 256 (btB x u p r) = n := ⟨_, rfl⟩
  obtain ⟨F2, hF2⟩ : ∃ n, msF F1 (btA y v q t) = n := ⟨_, rfl⟩
  obtain ⟨L2, hL2⟩ : ∃ n, msL L1 (btB y v q t) = n := ⟨_, rfl⟩
  have hK : rsK x y u v p q r t = (btC x u p r && (!decide (L1 < F1) && (btC y v q t && !decide (L2 < F2)))) := by unfold rsK; rw [hF1, hL1, hF2, hL2]
  have hF : rsF x y u v p q r t = if rsK x y u v p q r t = true then F2 else 0 := by unfold rsF; rw [hF1, hF2]
  rw [hF1] at z1
  rw [hL1] at z2
  cases k0 : (btC x u p r && !decide (msL 256 (btB x u p r) < msF 0 (btA x u p r))) with
  | false =>
    have e1 : rsK x y u v p q r t = false := by rw [hK, ← Bool.and_assoc]; rw [hL1, hF1] at k0; rw [k0]; rfl
    have e2 : rsF x y u v p q r t = 0 := by rw [hF, e1]; rfl
    rw [e1, e2]
    clear hK hF e1 e2
    go_enter Try.func75, Try.ntmps75
    go_wp2_with (go_at_call 104; refine (l5Slab_q _ _ _ _ _ _ _ _ _ _ (by omega) (by omega) (by omega) (by omega) (by omega) (by omega) (by omega) (by with_reducible assumption) (by with_reducible assumption) (by with_reducible assumption)).mono ?_; rintro e w' ⟨rfl, rfl⟩)
    go_ret2
    exact ⟨rfl, by repeat (first | with_reducible apply Below.refl | (with_reducible apply Below.setCell; rotate_left; focus (first | omega | (simp; done) | (simp; omega))) | (with_reducible apply Below.alloc; rotate_left; focus (first | omega | (simp; done) | (simp; omega))) | with_reducible apply Below.drew | with_reducible apply belowDrewN | (with_reducible apply Below.trans; rotate_left; with_reducible apply Below.mono; with_reducible assumption; focus (first | omega | (simp; done) | (simp; omega))))⟩
  | true =>
    have k9 := k0
    rw [hL1, hF1] at k9
    have hle : F1 ≤ L1 := by simp only [Bool.and_eq_true, Bool.not_eq_true', decide_eq_false_iff_not] at k9; omega
    cases k1 : (btC y v q t && !decide (msL L1 (btB y v q t) < msF F1 (btA y v q t))) with
    | false =>
      have e1 : rsK x y u v p q r t = false := by rw [hK, ← Bool.and_assoc, k9]; rw [hL2, hF2] at k1; rw [k1]; rfl
      have e2 : rsF x y u v p q r t = 0 := by rw [hF, e1]; rfl
      rw [e1, e2]
      clear hK hF e1 e2 k9
      go_enter Try.func75, Try.ntmps75
      go_wp2_with (go_at_call 104; refine (l5Slab_q _ _ _ _ _ _ _ _ _ _ (by omega) (by omega) (by omega) (by omega) (by omega) (by omega) (by omega) (by with_reducible assumption) (by with_reducible assumption) (by with_reducible assumption)).mono ?_; rintro e w' ⟨rfl, rfl⟩)
      go_ret2
      exact ⟨rfl, by repeat (first | with_reducible apply Below.refl | (with_reducible apply Below.setCell; rotate_left; focus (first | omega | (simp; done) | (simp; omega))) | (with_reducible apply Below.alloc; rotate_left; focus (first | omega | (simp; done) | (simp; omega))) | with_reducible apply Below.drew | with_reducible apply belowDrewN | (with_reducible apply Below.trans; rotate_left; with_reducible apply Below.mono; with_reducible assumption; focus (first | omega | (simp; done) | (simp; omega))))⟩
    | true =>
      have e1 : rsK x y u v p q r t = true := by rw [hK, ← Bool.and_assoc, k9]; rw [hL2, hF2] at k1; rw [k1]; rfl
      have e2 : rsF x y u v p q r t = F2 := by rw [hF, e1]; rfl
      rw [e1, e2]
      clear hK hF e1 e2 k9
      go_enter Try.func75, Try.ntmps75
      go_wp2_with (go_at_call 104; refine (l5Slab_q _ _ _ _ _ _ _ _ _ _ (by omega) (by omega) (by omega) (by omega) (by omega) (by omega) (by omega) (by with_reducible assumption) (by with_reducible assumption) (by with_reducible assumption)).mono ?_; rintro e w' ⟨rfl, rfl⟩)
      go_ret2
      exact ⟨rfl, by repeat (first | with_reducible apply Below.refl | (with_reducible apply Below.setCell; rotate_left; focus (first | omega | (simp; done) | (simp; omega))) | (with_reducible apply Below.alloc; rotate_left; focus (first | omega | (simp; done) | (simp; omega))) | with_reducible apply Below.drew | with_reducible apply belowDrewN | (with_reducible apply Below.trans; rotate_left; with_reducible apply Below.mono; with_reducible assumption; focus (first | omega | (simp; done) | (simp; omega))))⟩
end Go.Proofs.Ytnkebpbpempmhaa
