/- Texts of a proof. -/
import Derived.Test.YthijeiehcdoidaaGreatWdPi
import Derived.Test.YthijeiehcdoidaaGreatB38
import Derived.Test.YthijeiehcdoidaaGreatB12
set_option maxHeartbeats 16000000
set_option maxRecDepth 20000
namespace Go.Proofs.YthijeiehcdoidaaGreat
open Go.RowKit
set_option linter.unusedVariables false
set_option linter.unusedSimpArgs false
theorem insb_lo {U V : Nat → Int} {p k j : Nat} (h : k < p) (hj : j < 12) : insU U p V (k * 12 + j) = U (k * 12 + j) := by unfold insU; rw [if_pos (by omega)]
theorem insb_at {U V : Nat → Int} {p j : Nat} (hj : j < 12) : insU U p V (p * 12 + j) = V j := by
 unfold insU; rw [if_neg (by omega), if_pos (by omega)]; congr 1; omega
theorem insb_hi {U V : Nat → Int} {p k j : Nat} (h : p < k) (hj : j < 12) : insU U p V (k * 12 + j) = U ((k - 1) * 12 + j) := by
 unfold insU; rw [if_neg (by omega), if_neg (by omega)]; congr 1; omega
theorem insb_lo0 {U V : Nat → Int} {p k : Nat} (h : k < p) : insU U p V (k * 12) = U (k * 12) := insb_lo (j := 0) h (by omega)
theorem insb_at0 {U V : Nat → Int} {p : Nat} : insU U p V (p * 12) = V 0 := insb_at (j := 0) (by omega)
theorem insb_hi0 {U V : Nat → Int} {p k : Nat} (h : p < k) : insU U p V (k * 12) = U ((k - 1) * 12) := insb_hi (j := 0) h (by omega)
theorem insb_ok {n p : Nat} {U V : Nat → Int} (hB : bodsB n U = true) (hV : bodyB V = true) (hn : n < 12) (hp : idP U n (V 0) p) (ht : ¬ (p < n ∧ U (p * 12) = V 0)) : bodsB (n + 1) (insU U p V) = true := by
 have b := Bods.of hB
 have hpn := hp.le
 refine (Bods.mk (by omega) (fun k hk => ?_) (fun k hk => ?_)).to
 · rcases Nat.lt_trichotomy k p with l | l | l
   · rw [bodyB_cong (fun j hj => insb_lo l hj)]; exact b.ok k (by omega)
   · subst l; rw [bodyB_cong (fun j hj => insb_at hj)]; exact hV
   · rw [bodyB_cong (fun j hj => insb_hi l hj)]; exact b.ok (k - 1) (by omega)
 · rcases Nat.lt_trichotomy (k + 1) p with l | l | l
   · rw [insb_lo0 (by omega), insb_lo0 l]; exact b.asc k (by omega)
   · rw [insb_lo0 (by omega), l, insb_at0]; exact hp.lo k (by omega)
   · by_cases e : k = p
     · subst e
       rw [insb_at0, insb_hi0 l]
       have h1 := hp.hi (by omega)
       rw [show k + 1 - 1 = k by omega]
       by_cases q : U (k * 12) = V 0
       · exact absurd ⟨by omega, q⟩ ht
       · omega
     · rw [insb_hi0 (by omega), insb_hi0 l]
       have h1 := b.asc (k - 1) (by omega)
       rw [show k - 1 + 1 = k by omega] at h1
       rw [show k + 1 - 1 = k by omega]
       exact h1
theorem insb_has {n p : Nat} {U V : Nat → Int} {id : Int} (hp : p ≤ n) (h : hasF U n id = true) : hasF (insU U p V) (n + 1) id = true := by
 unfold hasF at *
 rw [List.any_eq_true] at *
 obtain ⟨k, hk, hd⟩ := h
 rw [List.mem_range] at hk
 rw [decide_eq_true_eq] at hd
 by_cases l : k < p
 · exact ⟨k, List.mem_range.2 (by omega), by rw [decide_eq_true_eq, insb_lo0 l]; exact hd⟩
 · exact ⟨k + 1, List.mem_range.2 (by omega), by rw [decide_eq_true_eq, insb_hi0 (by omega), show k + 1 - 1 = k by omega]; exact hd⟩
theorem insb_pairs {n p : Nat} {U V Q : Nat → Int} (hp : p ≤ n) : ∀ m, allPB U n Q m = true → allPB (insU U p V) (n + 1) Q m = true
 | 0, _ => rfl
 | m + 1, h => by
  unfold allPB stepPB at *
  simp only [Bool.and_eq_true] at *
  exact ⟨insb_pairs hp m h.1, h.2.1, insb_has hp h.2.2.1, insb_has hp h.2.2.2.1, h.2.2.2.2⟩
theorem insb_world {T P : Int} {n m p : Nat} {U V Q : Nat → Int} (hW : worldB T P n U m Q = true) (hV : bodyB V = true) (hn : n < 12) (hp : idP U n (V 0) p) (ht : ¬ (p < n ∧ U (p * 12) = V 0)) : worldB T P (n + 1) (insU U p V) m Q = true := by
 unfold worldB at *
 simp only [Bool.and_eq_true] at *
 exact ⟨hW.1, hW.2.1, insb_ok hW.2.2.1 hV hn hp ht, insb_pairs hp.le m hW.2.2.2⟩
theorem insb_idP {n p : Nat} {U V : Nat → Int} (hp : idP U n (V 0) p) : idP (insU U p V) (n + 1) (V 0) p :=
 ⟨by have := hp.le; omega, fun q hq => by rw [insb_lo0 hq]; exact hp.lo q hq, fun _ => by rw [insb_at0]; omega⟩
theorem insb_back {n p i j : Nat} {U V W : Nat → Int} (hp : p ≤ n) (hi : i < n) (hj : j < 12) (h11 : j ≠ 11) : delU (wakeR W (insU U p V) p (n + 1)) p (i * 12 + j) = U (i * 12 + j) := by
 have hk : ∀ k, wakeR W (insU U p V) p (n + 1) (k * 12 + j) = insU U p V (k * 12 + j) := fun k => by
  unfold wakeR
  rw [if_neg (by rintro ⟨_, h, _⟩; omega)]
 by_cases l : i < p
 · rw [del_lo l hj, hk, insb_lo l hj]
 · rw [del_hi (by omega), hk, insb_hi (by omega) hj, show i + 1 - 1 = i by omega]
theorem putWA_same {T P : Int} {n m p : Nat} {U V Q : Nat → Int} {A : WA} (hW : worldB T P n U m Q = true) (e : putWA T P n U m Q V p = A) (hk : A.k ≠ 0) : A = ⟨T, P, n, U, m, Q, A.k⟩ := by
 subst e
 unfold putWA at *
 rw [hW] at *
 simp only [cond_true] at *
 cases h1 : bodyB V with
 | false => rfl
 | true =>
  simp only [h1, cond_true] at *
  cases h2 : decide (p < n ∧ U (p * 12) = V 0) with
  | true => rfl
  | false =>
   simp only [h2, cond_false] at *
   cases h3 : decide (n = 12) with
   | true => rfl
   | false => simp only [h3, cond_false] at hk; exact absurd rfl hk
theorem putWA_new {T P : Int} {n m p : Nat} {U V Q : Nat → Int} {A : WA} (hW : worldB T P n U m Q = true) (e : putWA T P n U m Q V p = A) (hk : A.k = 0) : A = ⟨T, P, n + 1, insU U p V, m, Q, 0⟩ ∧ bodyB V = true ∧ ¬ (p < n ∧ U (p * 12) = V 0) ∧ n < 12 := by
 have h12 : n ≤ 12 := by unfold worldB at hW; simp only [Bool.and_eq_true] at hW; exact (Bods.of hW.2.2.1).le
 subst e
 unfold putWA at *
 rw [hW] at *
 simp only [cond_true] at *
 cases h1 : bodyB V with
 | false => simp only [h1, cond_false] at hk; exact absurd hk (by decide)
 | true =>
  simp only [h1, cond_true] at hk ⊢
  cases h2 : decide (p < n ∧ U (p * 12) = V 0) with
  | true => simp only [h2, cond_true] at hk; exact absurd hk (by decide)
  | false =>
   have h2' := of_decide_eq_false h2
   simp only [h2, cond_false] at hk ⊢
   cases h3 : decide (n = 12) with
   | true => simp only [h3, cond_true] at hk; exact absurd hk (by decide)
   | false => exact ⟨rfl, (by first | exact trivial | rfl), h2', by have := of_decide_eq_false h3; omega⟩
theorem putWA_again {T P : Int} {n m p : Nat} {U V Q : Nat → Int} (hW : worldB T P (n + 1) (insU U p V) m Q = true) (hV : bodyB V = true) (hp : p ≤ n) : putWA T P (n + 1) (insU U p V) m Q V p = ⟨T, P, n + 1, insU U p V, m, Q, 2⟩ := by
 unfold putWA
 rw [hW, hV, decide_eq_true (show p < n + 1 ∧ insU U p V (p * 12) = V 0 from ⟨by omega, insb_at0⟩)]
 rfl
theorem goneWA_of {T P : Int} {n m p : Nat} {U V Q : Nat → Int} (hW : worldB T P (n + 1) (insU U p V) m Q = true) (hp : p ≤ n) : ∃ m' Q', goneWA T P (n + 1) (insU U p V) m Q (V 0) p = ⟨T, P, n, delU (wakeR (fun j => insU U p V (p * 12 + j)) (insU U p V) p (n + 1)) p, m', Q', 0⟩ := by
 unfold goneWA
 rw [hW, decide_eq_true (show p < n + 1 ∧ insU U p V (p * 12) = V 0 from ⟨by omega, insb_at0⟩)]
 exact ⟨_, _, rfl⟩
end Go.Proofs.YthijeiehcdoidaaGreat
