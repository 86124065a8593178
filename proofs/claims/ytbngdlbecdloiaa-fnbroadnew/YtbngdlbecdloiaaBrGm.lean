/- What meets without one: mathematics of promise 19. -/
import Derived.Test.YtbngdlbecdloiaaB40
set_option maxHeartbeats 16000000
set_option maxRecDepth 20000
namespace Go.Proofs.Ytbngdlbecdloiaa
open Go.RowKit
set_option linter.unusedVariables false
set_option linter.unusedSimpArgs false
def skp (k i : Nat) : Nat := if i < k then i else i + 1
theorem skp_lt (k i j : Nat) : (skp k i < skp k j) = (i < j) := by
  unfold skp
  apply propext
  split <;> split <;> omega
theorem skp_ne (k i : Nat) : skp k i ≠ k := by unfold skp; split <;> omega
/-- the places without one -/
theorem range_skp (k : Nat) : ∀ m, k ≤ m → (List.range (m + 1)).filter (fun j => decide (j ≠ k)) = (List.range m).map (skp k)
  | 0, h => by
    obtain rfl : k = 0 := by omega
    rfl
  | m + 1, h => by
    rw [List.range_succ, List.filter_append]
    by_cases e : k = m + 1
    · subst e
      have h1 : (List.range (m + 1)).filter (fun j => decide (j ≠ m + 1)) = List.range (m + 1) := List.filter_eq_self.2 (fun a ha => by have := List.mem_range.1 ha; simp; omega)
      have h2 : (List.range (m + 1)).map (skp (m + 1)) = List.range (m + 1) := by
        rw [List.map_congr_left (g := id) (fun a ha => by have := List.mem_range.1 ha; unfold skp; rw [if_pos this]; rfl), List.map_id]
      rw [h1, h2]
      simp
    · rw [range_skp k m (by omega), List.range_succ (n := m), List.map_append]
      congr 1
      have h3 : skp k m = m + 1 := by unfold skp; rw [if_neg (by omega)]
      have h4 : m + 1 ≠ k := by omega
      simp [h3, h4]
theorem filter_skp (k m : Nat) (h : k ≤ m) (A : Nat → Bool) : (List.range (m + 1)).filter (fun j => decide (j ≠ k) && A j) = ((List.range m).filter (fun j => A (skp k j))).map (skp k) := by
  have e : (List.range (m + 1)).filter (fun j => decide (j ≠ k) && A j) = ((List.range (m + 1)).filter (fun j => decide (j ≠ k))).filter A := by
    rw [List.filter_filter]
    congr 1
    funext j
    exact Bool.and_comm _ _
  rw [e, range_skp k m h, List.filter_map]
  rfl
def skp2 (k : Nat) (p : Nat × Nat) : Nat × Nat := (skp k p.1, skp k p.2)
def no2 (k : Nat) (p : Nat × Nat) : Bool := decide (p.1 ≠ k) && decide (p.2 ≠ k)
theorem Mt_cong {U V : Nat → Int} {a b c d : Int} {i j : Nat} (h : ∀ q, q < 5 → U (i * 5 + q) = V (j * 5 + q)) : Mt U a b c d i = Mt V a b c d j := by
  unfold Mt
  rw [h 1 (by omega), h 2 (by omega), h 3 (by omega), h 4 (by omega)]
theorem of_no {U : Nat → Int} {k : Nat} (N : Nat) : (bpOf k (bpIn N U k)).filter (no2 k) = [] := by
  apply List.filter_eq_nil_iff.2
  intro p hp
  unfold bpOf at hp
  simp only [List.mem_map] at hp
  obtain ⟨j, _, rfl⟩ := hp
  simp [no2]
theorem of_skp {U L : Nat → Int} {k M i : Nat} (hk : k ≤ M) (hi : i < M) (hL : ∀ i q, i < M → q < 5 → L (i * 5 + q) = U (skp k i * 5 + q)) :
    (bpOf (skp k i) (bpIn (M + 1) U (skp k i))).filter (no2 k) = (bpOf i (bpIn M L i)).map (skp2 k) := by
  have c1 := hL i 1 hi (by omega)
  have c2 := hL i 2 hi (by omega)
  have c3 := hL i 3 hi (by omega)
  have c4 := hL i 4 hi (by omega)
  have hn := skp_ne k i
  have e1 : (bpOf (skp k i) (bpIn (M + 1) U (skp k i))).filter (no2 k) = (((List.range (M + 1)).filter (fun j => decide (j ≠ k) && (decide (skp k i < j) && Mt U (U (skp k i * 5 + 1)) (U (skp k i * 5 + 2)) (U (skp k i * 5 + 3)) (U (skp k i * 5 + 4)) j)))).map (fun j => (skp k i, j)) := by
    unfold bpOf bpIn
    rw [List.filter_map, List.filter_filter, List.filter_filter]
    congr 1
    congr 1
    funext j
    simp [no2, hn, Bool.and_assoc]
  rw [e1, filter_skp k M hk, List.map_map]
  unfold bpOf bpIn
  rw [List.filter_filter, List.map_map]
  have e2 : (List.range M).filter (fun j => decide (skp k i < skp k j) && Mt U (U (skp k i * 5 + 1)) (U (skp k i * 5 + 2)) (U (skp k i * 5 + 3)) (U (skp k i * 5 + 4)) (skp k j)) = (List.range M).filter (fun j => decide (i < j) && Mt L (L (i * 5 + 1)) (L (i * 5 + 2)) (L (i * 5 + 3)) (L (i * 5 + 4)) j) := by
    apply List.filter_congr
    intro j hj
    have hj := List.mem_range.1 hj
    rw [c1, c2, c3, c4, Mt_cong (U := L) (V := U) (fun q hq => hL j q hj hq)]
    simp only [skp_lt]
  rw [e2]
  rfl
theorem pairs_skp {U L : Nat → Int} {k M : Nat} (hk : k ≤ M) (hL : ∀ i q, i < M → q < 5 → L (i * 5 + q) = U (skp k i * 5 + q)) : ∀ m, m ≤ M → (bpL (M + 1) U (if m ≤ k then m else m + 1)).filter (no2 k) = (bpL M L m).map (skp2 k)
  | 0, _ => by rw [if_pos (by omega)]; rfl
  | m + 1, h => by
    have ih := pairs_skp hk hL m (by omega)
    rw [bpL, List.map_append, ← ih, ← of_skp hk (show m < M by omega) hL, ← List.filter_append]
    by_cases l : m + 1 ≤ k
    · rw [if_pos l, if_pos (by omega), bpL]
      rw [show skp k m = m by unfold skp; rw [if_pos (by omega)]]
    · rw [if_neg l]
      have hs : skp k m = m + 1 := by unfold skp; rw [if_neg (by omega)]
      by_cases e : m ≤ k
      · obtain rfl : m = k := by omega
        rw [if_pos (by omega), hs, bpL, bpL, List.filter_append, List.filter_append, List.filter_append, of_no, List.append_nil]
      · rw [if_neg e, hs, bpL]
theorem pairs_gone {U L : Nat → Int} {k M : Nat} (hk : k ≤ M) (hL : ∀ i q, i < M → q < 5 → L (i * 5 + q) = U (skp k i * 5 + q)) : (bpL M L M).map (skp2 k) = (bpL (M + 1) U (M + 1)).filter (no2 k) := by
  rw [← pairs_skp hk hL M (Nat.le_refl _)]
  by_cases l : M ≤ k
  · obtain rfl : k = M := by omega
    rw [if_pos l, bpL, List.filter_append, of_no, List.append_nil]
  · rw [if_neg l]
theorem bpV_skp {U L : Nat → Int} {k M : Nat} (hL : ∀ i q, i < M → q < 5 → L (i * 5 + q) = U (skp k i * 5 + q)) : ∀ l : List (Nat × Nat), (∀ p, p ∈ l → p.1 < M ∧ p.2 < M) → bpV L l = bpV U (l.map (skp2 k))
  | [], _ => rfl
  | p :: l, h => by
    have hp := h p (List.mem_cons_self ..)
    have h1 := hL p.1 0 hp.1 (by omega)
    have h2 := hL p.2 0 hp.2 (by omega)
    rw [List.map_cons, bpV, bpV, bpV_skp hL l (fun q hq => h q (List.mem_cons_of_mem _ hq))]
    rw [Nat.add_zero, Nat.add_zero] at h1 h2
    rw [h1, h2]
    rfl
theorem bpL_bd (N : Nat) (U : Nat → Int) : ∀ m, m ≤ N → ∀ p, p ∈ bpL N U m → p.1 < N ∧ p.2 < N ∧ p.1 < p.2
  | 0, _, p, hp => by cases hp
  | m + 1, h, p, hp => by
    rw [bpL, List.mem_append] at hp
    rcases hp with hp | hp
    · exact bpL_bd N U m (by omega) p hp
    · unfold bpOf bpIn at hp
      simp only [List.mem_map, List.mem_filter, List.mem_range] at hp
      obtain ⟨j, ⟨⟨h1, _⟩, h2⟩, rfl⟩ := hp
      exact ⟨by show m < N; omega, h1, of_decide_eq_true h2⟩
theorem cat_skp (k : Nat) (U : Nat → Int) : ∀ i q, q < 5 → cat (k * 5) U (fun q => U (q + (k + 1) * 5)) (i * 5 + q) = U (skp k i * 5 + q) := by
  intro i q hq
  unfold cat skp
  by_cases l : i < k
  · rw [if_pos (by omega), if_pos l]
  · rw [if_neg (by omega), if_neg l]
    show U _ = U _
    congr 1
    omega
/-- by their numbers -/
def idN (U : Nat → Int) (id : Int) (p : Nat × Nat) : Bool := (U (p.1 * 5) != id) && (U (p.2 * 5) != id)
theorem broad_inj {n : Nat} {U : Nat → Int} (h : broadB n U = true) {i j : Nat} (hi : i < n) (hj : j < n) (e : U (i * 5) = U (j * 5)) : i = j := by
  rcases Nat.lt_trichotomy i j with l | l | l
  · have := broad_asc h l hj; omega
  · exact l
  · have := broad_asc h l hi; omega
theorem idN_no {n k : Nat} {U : Nat → Int} {id : Int} (h : broadB n U = true) (hk : k < n) (e : U (k * 5) = id) : ∀ p : Nat × Nat, p.1 < n → p.2 < n → idN U id p = no2 k p := by
  intro p h1 h2
  have g : ∀ i, i < n → (U (i * 5) != id) = decide (i ≠ k) := fun i hi => by
    by_cases l : i = k
    · subst l; simp [e]
    · have : ¬ U (i * 5) = id := fun q => l (broad_inj h hi hk (q.trans e.symm))
      simp [l, this]
  unfold idN no2
  rw [g _ h1, g _ h2]
theorem gone_ok {n k M : Nat} {U : Nat → Int} {id : Int} (h : broadB n U = true) (hk : k < n) (hM : M + 1 = n) : broadB M (cat (k * 5) U (fun q => U (q + (k + 1) * 5))) = true := by
  have h24 := broad_le h
  have c0 : ∀ i, cat (k * 5) U (fun q => U (q + (k + 1) * 5)) (i * 5) = U (skp k i * 5) := fun i => by have := cat_skp k U i 0 (by omega); simpa using this
  have hs : ∀ i, i < M → skp k i < n := fun i hi => by unfold skp; split <;> omega
  refine broad_of (by omega) (fun i hi => ?_) (fun i hi => ?_)
  · rw [itemB_cong (fun j hj => cat_skp k U i j hj)]; exact broad_item h (hs i hi)
  · rw [c0, c0]
    refine broad_asc h ?_ (hs _ hi)
    rw [skp_lt]
    omega
/-- what is left of all that meet is what meets of all that is left -/
theorem gone_pairs {n k M : Nat} {U : Nat → Int} {id : Int} (h : broadB n U = true) (hk : k < n) (e : U (k * 5) = id) (hM : M + 1 = n) : bpT M (cat (k * 5) U (fun q => U (q + (k + 1) * 5))) = bpV U ((bpL n U n).filter (idN U id)) := by
  have hL : ∀ i q, i < M → q < 5 → cat (k * 5) U (fun q => U (q + (k + 1) * 5)) (i * 5 + q) = U (skp k i * 5 + q) := fun i q _ hq => cat_skp k U i q hq
  unfold bpT
  rw [gone_ok (id := id) h hk hM]
  show bpV _ _ = _
  rw [bpV_skp hL _ (fun p hp => ⟨(bpL_bd M _ M (Nat.le_refl _) p hp).1, (bpL_bd M _ M (Nat.le_refl _) p hp).2.1⟩), pairs_gone (by omega) hL]
  subst hM
  congr 1
  apply List.filter_congr
  intro p hp
  have hb := bpL_bd _ U _ (Nat.le_refl _) p hp
  exact (idN_no h hk e p hb.1 hb.2.1).symm
theorem gone_len {n k M : Nat} {U : Nat → Int} {id : Int} (h : broadB n U = true) (hk : k < n) (e : U (k * 5) = id) (hM : M + 1 = n) : bpN M (cat (k * 5) U (fun q => U (q + (k + 1) * 5))) = ((bpL n U n).filter (idN U id)).length := by
  have h1 := gone_pairs h hk e hM
  have h2 := congrArg List.length h1
  unfold bpT at h2
  unfold bpN
  rw [gone_ok (id := id) h hk hM] at h2 ⊢
  rw [bpV_len] at h2
  have h3 : (bpV (cat (k * 5) U (fun q => U (q + (k + 1) * 5))) (bpL M (cat (k * 5) U (fun q => U (q + (k + 1) * 5))) M)).length = _ := bpV_len _ _
  show (bpL M (cat (k * 5) U (fun q => U (q + (k + 1) * 5))) M).length = _
  have h4 : (bpV (cat (k * 5) U (fun q => U (q + (k + 1) * 5))) (bpL M (cat (k * 5) U (fun q => U (q + (k + 1) * 5))) M)).length = ((bpL n U n).filter (idN U id)).length * 2 := h2
  omega
end Go.Proofs.Ytbngdlbecdloiaa
