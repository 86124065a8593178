/- Pairs that meet now and did not ahead, whatever the boxes: both sides. -/
import Derived.Test.YtbngdlbecdloiaaBrNw
import Derived.Test.YtbngdlbecdloiaaBrNs
import Derived.Deep.RegionHeld3
import Derived.Deep.DeepCutAuto
set_option maxHeartbeats 16000000
set_option maxRecDepth 20000
namespace Go.Proofs.Ytbngdlbecdloiaa
open Go.RowKit
set_option linter.unusedVariables false
set_option linter.unusedSimpArgs false
def nwP (na : Nat) (Ua : Nat → Int) (n : Nat) (U : Nat → Int) : List (Nat × Nat) := nwL (ofL (bpT na Ua)) (bpN na Ua) U (bpL n U n)
def nwT (na : Nat) (Ua : Nat → Int) (n : Nat) (U : Nat → Int) : List Int := bif broadB na Ua && broadB n U then bpV U (nwP na Ua n U) else []
def nwN (na : Nat) (Ua : Nat → Int) (n : Nat) (U : Nat → Int) : Nat := bif broadB na Ua && broadB n U then (nwP na Ua n U).length else 0
theorem nwN_le (na : Nat) (Ua : Nat → Int) (n : Nat) (U : Nat → Int) : nwN na Ua n U ≤ 576 := by
  unfold nwN
  cases h : broadB na Ua && broadB n U with
  | false => exact Nat.zero_le _
  | true =>
    have h0 := (Bool.and_eq_true _ _ ▸ h : broadB na Ua = true ∧ broadB n U = true).2
    have h1 := nwL_len (ofL (bpT na Ua)) (bpN na Ua) U (bpL n U n)
    have h2 := bpL_len n U n
    have h3 := broadB_n h0
    have := Nat.mul_le_mul h3 h3
    show (nwP na Ua n U).length ≤ 576
    unfold nwP
    omega
set_option maxRecDepth 20000 in
set_option maxHeartbeats 8000000 in
theorem new_i (ai : Option Addr) (na ca : Nat) (Ua : Nat → Int) (bi : Option Addr) (n ci : Nat) (U : Nat → Int) (N : Nat) (R : Nat → Int) (w : World) (ha : Flat w ai (na * 5) Ua) (h : Flat w bi (n * 5) U) (hna : na ≤ 1048576) (hn : n ≤ 1048576) (hN : nwN na Ua n U = N) (hR : R = ofL (nwT na Ua n U)) :
    Calls Try.prog 31 #[.agg #[.slice ai na ca], .agg #[.slice bi n ci]] w fun e w' => ∃ a' c', e = .returned (.slice a' N c') ∧ OutL w w' 48 2 a' N c' R := by
  have hset := cset_map
  have fl : ∀ w', Below w.heap.size w w' → Flat w' bi (n * 5) U := fun w' hb => h.below hb
  have fa : ∀ w', Below w.heap.size w w' → Flat w' ai (na * 5) Ua := fun w' hb => ha.below hb
  subst hR
  unfold nwN at hN
  unfold nwT
  cases k0 : broadB na Ua with
  | false =>
    rw [k0] at hN
    subst hN
    have hb1 : Below w.heap.size w ((w.alloc (.cells #[.slice ai na ca] 25)).alloc (.cells #[.slice bi n ci] 25)) := ((Below.refl _ _).alloc (Nat.le_refl _) _).alloc (by simp) _
    have y0 : ((w.alloc (.cells #[.slice ai na ca] 25)).alloc (.cells #[.slice bi n ci] 25)).cell? ⟨w.heap.size, 0, none⟩ = some (.slice ai na ca) := by go_simp
    have y1 : ((w.alloc (.cells #[.slice ai na ca] 25)).alloc (.cells #[.slice bi n ci] 25)).cell? ⟨w.heap.size + 1, 0, none⟩ = some (.slice bi n ci) := by go_simp
    have hz1 : w.heap.size + 1 < ((w.alloc (.cells #[.slice ai na ca] 25)).alloc (.cells #[.slice bi n ci] 25)).heap.size := by simp
    go_enter Try.func31, Try.ntmps31
    go_upto_region 1 with fail
    generalize ((w.alloc (.cells #[.slice ai na ca] 25)).alloc (.cells #[.slice bi n ci] 25)) = w1 at hb1 y0 y1 hz1 ⊢
    have hbb := hb1
    go_wp2_with (go_at_call 13; refine (broadOk_q _ _ _ Ua _ _ (fa _ hbb) hna k0).mono ?_; rintro e w3 ⟨rfl, hb3⟩; have u3 := hbb.trans (hb3.mono hbb.size); have z1 := keepc hb3 y1)
    go_ret
    exact ⟨none, 0, rfl, u3, OwnL.nil _ _ _ _ _⟩
  | true =>
    cases k1 : broadB n U with
    | false =>
      rw [k0, k1] at hN
      subst hN
      have hb1 : Below w.heap.size w ((w.alloc (.cells #[.slice ai na ca] 25)).alloc (.cells #[.slice bi n ci] 25)) := ((Below.refl _ _).alloc (Nat.le_refl _) _).alloc (by simp) _
      have y0 : ((w.alloc (.cells #[.slice ai na ca] 25)).alloc (.cells #[.slice bi n ci] 25)).cell? ⟨w.heap.size, 0, none⟩ = some (.slice ai na ca) := by go_simp
      have y1 : ((w.alloc (.cells #[.slice ai na ca] 25)).alloc (.cells #[.slice bi n ci] 25)).cell? ⟨w.heap.size + 1, 0, none⟩ = some (.slice bi n ci) := by go_simp
      have hz1 : w.heap.size + 1 < ((w.alloc (.cells #[.slice ai na ca] 25)).alloc (.cells #[.slice bi n ci] 25)).heap.size := by simp
      go_enter Try.func31, Try.ntmps31
      go_upto_region 1 with fail
      generalize ((w.alloc (.cells #[.slice ai na ca] 25)).alloc (.cells #[.slice bi n ci] 25)) = w1 at hb1 y0 y1 hz1 ⊢
      have hbb := hb1
      go_wp2_with (first | (have _ := u3; go_at_call 13; refine (broadOk_q _ _ _ U _ _ (fl _ u3) hn k1).mono ?_; rintro e w4 ⟨rfl, hb4⟩) | (go_at_call 13; refine (broadOk_q _ _ _ Ua _ _ (fa _ hbb) hna k0).mono ?_; rintro e w3 ⟨rfl, hb3⟩; have u3 := hbb.trans (hb3.mono hbb.size); have z1 := keepc hb3 y1))
      go_ret
      exact ⟨none, 0, rfl, u3.trans (hb4.mono u3.size), OwnL.nil _ _ _ _ _⟩
    | true =>
      rw [k0, k1] at hN
      subst hN
      exact (iBn_t ai na ca Ua bi n ci U w ha h hna hn k0 k1 (bpN na Ua) (ofL (bpT na Ua)) rfl rfl).mono fun e w' h => h
set_option maxRecDepth 20000 in
set_option maxHeartbeats 8000000 in
theorem new_s (ai : Option Addr) (na ca : Nat) (Ua : Nat → Int) (bi : Option Addr) (n ci : Nat) (U : Nat → Int) (N : Nat) (R : Nat → Int) (w : World) (ha : Flat w ai (na * 5) Ua) (h : Flat w bi (n * 5) U) (hna : na ≤ 1048576) (hn : n ≤ 1048576) (hN : nwN na Ua n U = N) (hR : R = ofL (nwT na Ua n U)) :
    Calls Try.prog 32 #[.agg #[.slice ai na ca], .agg #[.slice bi n ci]] w fun e w' => ∃ a' c', e = .returned (.slice a' N c') ∧ OutL w w' 48 2 a' N c' R := by
  have hset := cset_map
  have fl : ∀ w', Below w.heap.size w w' → Flat w' bi (n * 5) U := fun w' hb => h.below hb
  have fa : ∀ w', Below w.heap.size w w' → Flat w' ai (na * 5) Ua := fun w' hb => ha.below hb
  subst hR
  unfold nwN at hN
  unfold nwT
  cases k0 : broadB na Ua with
  | false =>
    rw [k0] at hN
    subst hN
    have hb1 : Below w.heap.size w ((w.alloc (.cells #[.slice ai na ca] 25)).alloc (.cells #[.slice bi n ci] 25)) := ((Below.refl _ _).alloc (Nat.le_refl _) _).alloc (by simp) _
    have y0 : ((w.alloc (.cells #[.slice ai na ca] 25)).alloc (.cells #[.slice bi n ci] 25)).cell? ⟨w.heap.size, 0, none⟩ = some (.slice ai na ca) := by go_simp
    have y1 : ((w.alloc (.cells #[.slice ai na ca] 25)).alloc (.cells #[.slice bi n ci] 25)).cell? ⟨w.heap.size + 1, 0, none⟩ = some (.slice bi n ci) := by go_simp
    have hz1 : w.heap.size + 1 < ((w.alloc (.cells #[.slice ai na ca] 25)).alloc (.cells #[.slice bi n ci] 25)).heap.size := by simp
    go_enter Try.func32, Try.ntmps32
    go_upto_region 1 with fail
    generalize ((w.alloc (.cells #[.slice ai na ca] 25)).alloc (.cells #[.slice bi n ci] 25)) = w1 at hb1 y0 y1 hz1 ⊢
    go_upto_region 2 with fail
    have hL := LsV.new w1 48 2
    have y0 := keepc hL.bel y0
    have y1 := keepc hL.bel y1
    have hz2 : w1.heap.size < (w1.alloc (.cells #[] 48)).heap.size := by simp
    generalize (w1.alloc (.cells #[] 48)) = w2 at hL y0 y1 hz2 ⊢
    have hbb := hb1.trans (hL.bel.mono hb1.size)
    go_wp2_with (go_at_call 14; refine (sBroadOk_q _ _ _ Ua _ _ (fa _ hbb) hna k0).mono ?_; rintro e w3 ⟨rfl, hb3⟩; have u3 := hbb.trans (hb3.mono hbb.size); have z1 := keepc hb3 y1)
    go_ret
    exact ⟨_, _, rfl, hb1.trans ((hL.below hb3).bel.mono hb1.size), (hL.below hb3).own.base hb1.size⟩
  | true =>
    cases k1 : broadB n U with
    | false =>
      rw [k0, k1] at hN
      subst hN
      have hb1 : Below w.heap.size w ((w.alloc (.cells #[.slice ai na ca] 25)).alloc (.cells #[.slice bi n ci] 25)) := ((Below.refl _ _).alloc (Nat.le_refl _) _).alloc (by simp) _
      have y0 : ((w.alloc (.cells #[.slice ai na ca] 25)).alloc (.cells #[.slice bi n ci] 25)).cell? ⟨w.heap.size, 0, none⟩ = some (.slice ai na ca) := by go_simp
      have y1 : ((w.alloc (.cells #[.slice ai na ca] 25)).alloc (.cells #[.slice bi n ci] 25)).cell? ⟨w.heap.size + 1, 0, none⟩ = some (.slice bi n ci) := by go_simp
      have hz1 : w.heap.size + 1 < ((w.alloc (.cells #[.slice ai na ca] 25)).alloc (.cells #[.slice bi n ci] 25)).heap.size := by simp
      go_enter Try.func32, Try.ntmps32
      go_upto_region 1 with fail
      generalize ((w.alloc (.cells #[.slice ai na ca] 25)).alloc (.cells #[.slice bi n ci] 25)) = w1 at hb1 y0 y1 hz1 ⊢
      go_upto_region 2 with fail
      have hL := LsV.new w1 48 2
      have y0 := keepc hL.bel y0
      have y1 := keepc hL.bel y1
      have hz2 : w1.heap.size < (w1.alloc (.cells #[] 48)).heap.size := by simp
      generalize (w1.alloc (.cells #[] 48)) = w2 at hL y0 y1 hz2 ⊢
      have hbb := hb1.trans (hL.bel.mono hb1.size)
      go_wp2_with (first | (have _ := u3; go_at_call 14; refine (sBroadOk_q _ _ _ U _ _ (fl _ u3) hn k1).mono ?_; rintro e w4 ⟨rfl, hb4⟩) | (go_at_call 14; refine (sBroadOk_q _ _ _ Ua _ _ (fa _ hbb) hna k0).mono ?_; rintro e w3 ⟨rfl, hb3⟩; have u3 := hbb.trans (hb3.mono hbb.size); have z1 := keepc hb3 y1))
      go_ret
      exact ⟨_, _, rfl, hb1.trans (((hL.below hb3).below hb4).bel.mono hb1.size), ((hL.below hb3).below hb4).own.base hb1.size⟩
    | true =>
      rw [k0, k1] at hN
      subst hN
      have e1 : bpN na Ua = (bpL na Ua na).length := by unfold bpN; rw [k0]; rfl
      have e2 : ofL (bpT na Ua) = ofL (bpV Ua (bpL na Ua na)) := by unfold bpT; rw [k0]; rfl
      exact (sBn_t ai na ca Ua bi n ci U w ha h hna hn k0 k1 (bpN na Ua) (ofL (bpT na Ua)) e1.symm e2).mono fun e w' h => h
end Go.Proofs.Ytbngdlbecdloiaa
