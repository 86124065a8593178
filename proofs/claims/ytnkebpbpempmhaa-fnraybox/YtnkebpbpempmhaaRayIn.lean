/- Where a ray is in a box at a part of its way it met it, then at the latest. -/
import Derived.Test.YtnkebpbpempmhaaRayBF
import Derived.Test.YtnkebpbpempmhaaRayRF
import Derived.Test.YtnkebpbpempmhaaShB
namespace Go.Proofs.Ytnkebpbpempmhaa
open Go.RowKit
theorem dz_pos {n m : Int} (h : 0 < m) : downZ n m * m ≤ n ∧ n < downZ n m * m + m := by
  have e := Int.mul_tdiv_add_tmod n m
  have c : n.tdiv m * m = m * n.tdiv m := Int.mul_comm _ _
  have a := Int.tmod_lt_of_pos n h
  have b := Int.lt_tmod_of_pos n h
  have s1 : 0 ≤ n → 0 ≤ n.tmod m := fun q => Int.tmod_nonneg m q
  have s2 : n ≤ 0 → n.tmod m ≤ 0 := by
    intro q
    have := Int.tmod_nonneg m (show 0 ≤ -n by omega)
    rw [Int.neg_tmod] at this; omega
  have hm : decide (m < 0) = false := decide_eq_false (by omega)
  unfold downZ
  rw [hm]
  split
  · next q =>
    obtain ⟨q1, q2⟩ := q
    have q3 : n < 0 := by
      cases e2 : decide (n < 0) with
      | true => exact of_decide_eq_true e2
      | false => exact absurd e2 q2
    have := s2 (by omega)
    rw [Int.sub_mul, Int.one_mul]
    omega
  · next q =>
    by_cases z : n < 0
    · have q1 : n.tdiv m * m = n := by
        refine Decidable.byContradiction fun k => q ⟨k, ?_⟩
        rw [decide_eq_true z]; simp
      omega
    · have := s1 (by omega)
      omega
theorem dz_neg (n m : Int) (hm : m ≠ 0) : downZ n m = downZ (-n) (-m) := by
  unfold downZ
  rw [Int.neg_tdiv, Int.tdiv_neg, Int.neg_neg]
  by_cases hn : n = 0
  · subst hn; simp
  have e1 : decide (-n < 0) = !decide (n < 0) := by
    rcases Int.lt_or_le n 0 with q | q
    · rw [decide_eq_true q, decide_eq_false (by omega)]; rfl
    · rw [decide_eq_false (show ¬ n < 0 by omega), decide_eq_true (by omega)]; rfl
  have e2 : decide (-m < 0) = !decide (m < 0) := by
    rcases Int.lt_or_le m 0 with q | q
    · rw [decide_eq_true q, decide_eq_false (by omega)]; rfl
    · rw [decide_eq_false (show ¬ m < 0 by omega), decide_eq_true (by omega)]; rfl
  rw [e1, e2]
  have e3 : (n.tdiv m * -m ≠ -n ∧ (!decide (n < 0)) ≠ (!decide (m < 0))) ↔ (n.tdiv m * m ≠ n ∧ decide (n < 0) ≠ decide (m < 0)) := by
    rw [Int.mul_neg]
    constructor
    · rintro ⟨a, b⟩; exact ⟨by omega, by intro c; exact b (by rw [c])⟩
    · rintro ⟨a, b⟩; refine ⟨by omega, ?_⟩
      intro c; apply b; revert c; cases decide (n < 0) <;> cases decide (m < 0) <;> simp
  simp only [e3]
theorem dz_le {n m k : Int} (h : 0 < m) (q : n ≤ k * m) : downZ n m ≤ k := by
  obtain ⟨a, _⟩ := dz_pos (n := n) h
  have : downZ n m * m ≤ k * m := by omega
  exact Int.le_of_mul_le_mul_right this h
theorem le_dz {n m k : Int} (h : 0 < m) (q : k * m ≤ n) : k ≤ downZ n m := by
  obtain ⟨_, a⟩ := dz_pos (n := n) h
  have : k * m < (downZ n m + 1) * m := by rw [Int.add_mul, Int.one_mul]; omega
  have := Int.lt_of_mul_lt_mul_right this (by omega)
  omega
theorem dz_mono {n n' m : Int} (h : 0 < m) (q : n ≤ n') : downZ n m ≤ downZ n' m := le_dz h (by have := (dz_pos (n := n) h).1; omega)
/-- where a ray is between two sides at a part of its way, it began there, and had not ended -/
theorem slab_in {f g l h k : Int} (k0 : 0 ≤ k) (k1 : k ≤ 256) (a : (l - f) * 256 ≤ g * k) (b : g * k ≤ (h - f) * 256) : btC f g l h = true ∧ btA f g l h ≤ k ∧ k ≤ btB f g l h := by
  unfold btC btA btB
  by_cases g0 : g = 0
  · subst g0
    rw [if_pos rfl, if_pos rfl, if_pos rfl]
    rw [Int.zero_mul] at a b
    exact ⟨decide_eq_true (by omega), by omega, by omega⟩
  · rw [if_neg g0, if_neg g0, if_neg g0]
    refine ⟨rfl, ?_⟩
    have c : g * k = k * g := Int.mul_comm _ _
    by_cases gn : g < 0
    · rw [if_pos gn, if_pos gn]
      constructor
      · rw [dz_neg _ _ g0]; exact dz_le (by omega) (by rw [Int.mul_neg]; omega)
      · rw [dz_neg _ _ g0, Int.neg_neg]
        have : downZ ((l - f) * 256) (-g) ≤ -k := dz_le (by omega) (by rw [Int.neg_mul_neg]; omega)
        omega
    · rw [if_neg gn, if_neg gn]
      constructor
      · exact dz_le (by omega) (by omega)
      · have : downZ (-((h - f) * 256)) g ≤ -k := dz_le (by omega) (by rw [Int.neg_mul]; omega)
        omega
theorem slab_more {f g l h : Int} : btC f g l h = true → btC f g (l - 1) (h + 1) = true ∧ btA f g (l - 1) (h + 1) ≤ btA f g l h ∧ btB f g l h ≤ btB f g (l - 1) (h + 1) := by
  unfold btC btA btB
  by_cases g0 : g = 0
  · subst g0
    simp only [if_true, decide_eq_true_eq]
    omega
  · simp only [if_neg g0]
    intro _
    refine ⟨trivial, ?_⟩
    by_cases gn : g < 0
    · simp only [if_pos gn]
      have a := dz_mono (n := -((h + 1 - f) * 256)) (n' := -((h - f) * 256)) (m := -g) (by omega) (by omega)
      have b := dz_mono (n := -(-((l - f) * 256)) - 256) (n' := -(-((l - f) * 256))) (m := -g) (by omega) (by omega)
      rw [dz_neg ((h + 1 - f) * 256) _ g0, dz_neg ((h - f) * 256) _ g0, dz_neg (-((l - 1 - f) * 256)) _ g0, dz_neg (-((l - f) * 256)) _ g0]
      have e : -(-((l - 1 - f) * 256)) = -(-((l - f) * 256)) - 256 := by omega
      rw [e]
      omega
    · simp only [if_neg gn]
      have a := dz_mono (n := (l - 1 - f) * 256) (n' := (l - f) * 256) (m := g) (by omega) (by omega)
      have b := dz_mono (n := -((h + 1 - f) * 256)) (n' := -((h - f) * 256)) (m := g) (by omega) (by omega)
      omega
theorem rsK_in {x y u v p q r t k : Int} (k0 : 0 ≤ k) (k1 : k ≤ 256) (a : (p - x) * 256 ≤ u * k) (b : u * k ≤ (r - x) * 256) (c : (q - y) * 256 ≤ v * k) (d : v * k ≤ (t - y) * 256) :
    rsK x y u v p q r t = true ∧ 0 ≤ rsF x y u v p q r t ∧ rsF x y u v p q r t ≤ k := by
  obtain ⟨a1, a2, a3⟩ := slab_in k0 k1 a b
  obtain ⟨b1, b2, b3⟩ := slab_in k0 k1 c d
  have hk : rsK x y u v p q r t = true := by
    unfold rsK msF msL
    rw [a1, b1]
    simp only [Bool.true_and, Bool.and_eq_true, Bool.not_eq_true', decide_eq_false_iff_not]
    constructor <;> repeat' split
    all_goals omega
  refine ⟨hk, ?_⟩
  unfold rsF
  rw [if_pos hk]
  unfold msF
  constructor <;> repeat' split
  all_goals omega
theorem rsK_more {x y u v p q r t : Int} (h : rsK x y u v p q r t = true) : rsK x y u v (p - 1) (q - 1) (r + 1) (t + 1) = true := by
  unfold rsK at h ⊢
  simp only [Bool.and_eq_true, Bool.not_eq_true', decide_eq_false_iff_not] at h ⊢
  obtain ⟨a, b, c, d⟩ := h
  obtain ⟨a1, a2, a3⟩ := slab_more a
  obtain ⟨c1, c2, c3⟩ := slab_more c
  refine ⟨a1, ?_, c1, ?_⟩
  · revert b; unfold msF msL; intro b; repeat' split
    all_goals (repeat' split at b)
    all_goals omega
  · revert d; unfold msF msL; intro d; repeat' split
    all_goals (repeat' split at d)
    all_goals omega
theorem sq_le {a g : Int} (g0 : 0 ≤ g) {b : Int} (h : a * a + b * b ≤ g * g) : -g ≤ a ∧ a ≤ g := by
  have hb : 0 ≤ b * b := by
    rcases Int.le_total 0 b with q | q
    · exact Int.mul_nonneg q q
    · have := Int.mul_nonneg (show 0 ≤ -b by omega) (show 0 ≤ -b by omega)
      rw [Int.neg_mul_neg] at this; exact this
  constructor
  · refine Decidable.byContradiction fun k => ?_
    have : (g + 1) * (g + 1) ≤ -a * -a := Int.mul_le_mul (by omega) (by omega) (by omega) (by omega)
    rw [Int.neg_mul_neg] at this
    have e : (g + 1) * (g + 1) = g * g + 2 * g + 1 := by rw [Int.add_mul, Int.mul_add]; omega
    omega
  · refine Decidable.byContradiction fun k => ?_
    have : (g + 1) * (g + 1) ≤ a * a := Int.mul_le_mul (by omega) (by omega) (by omega) (by omega)
    have e : (g + 1) * (g + 1) = g * g + 2 * g + 1 := by rw [Int.add_mul, Int.mul_add]; omega
    omega
theorem td_near (n : Int) : n.tdiv 256 * 256 - 256 < n ∧ n < n.tdiv 256 * 256 + 256 := by
  have e := Int.mul_tdiv_add_tmod n 256
  have a := Int.tmod_lt_of_pos n (show (0 : Int) < 256 by decide)
  have b : -256 < n.tmod 256 := Int.lt_tmod_of_pos n (by decide)
  omega
theorem rrF_met {H : Int → Bool} : ∀ (n : Nat) (t F : Int), rrF H n t = (F, true) → t ≤ F ∧ F < t + n ∧ H F = true := by
  intro n
  induction n with
  | zero => intro t F h; unfold rrF at h; cases h
  | succ n ih =>
    intro t F h
    cases e : H t with
    | true =>
      obtain ⟨rfl, _⟩ := rrF_t h e
      exact ⟨by omega, by omega, e⟩
    | false =>
      obtain ⟨h1, h2, h3⟩ := ih (t + 1) F (rrF_n h e)
      exact ⟨by omega, by omega, h3⟩
theorem near_rsK {x y c d k g h p q F : Int} (sh : shB k g h = true) (e : rsP x y c d k g h p q = (F, true)) :
    rayB x y c d = true ∧ rsK x y c d (p - g - 1) (q - hh k g h - 1) (p + g + 1) (q + hh k g h + 1) = true := by
  have hc : (rayB x y c d && (shB k g h && inB 2560000 p q)) = true := by
    cases e2 : (rayB x y c d && (shB k g h && inB 2560000 p q)) with
    | true => rfl
    | false => exact absurd (rsP_n e e2).2 (by decide)
  have hr : rayB x y c d = true := by simp only [Bool.and_eq_true] at hc; exact hc.1
  refine ⟨hr, ?_⟩
  rcases shB_cases sh with ⟨rfl, rfl, g0, g1⟩ | ⟨rfl, g0, g1, h0, h1⟩
  · have hh1 : hh 1 g 0 = g := by unfold hh; rw [if_pos rfl]
    rw [hh1]
    obtain ⟨f0, f1, f2⟩ := rrF_met _ _ _ (rsP_r e hc)
    unfold rhB bxx at f2
    have f3 := of_decide_eq_true f2
    have a := sq_le (by omega) f3
    have b := sq_le (a := y + (d * F).tdiv 256 - q) (b := x + (c * F).tdiv 256 - p) (g := g) (by omega) (by omega)
    have n1 := td_near (c * F)
    have n2 := td_near (d * F)
    exact (rsK_in (k := F) (by omega) (by omega) (by omega) (by omega) (by omega) (by omega)).1
  · have hh2 : hh 2 g h = h := by unfold hh; rw [if_neg (by decide)]
    rw [hh2]
    have hk := (rsP_b e hc).2
    exact rsK_more hk
theorem near_rbK {x y c d k g h p q F : Int} (sh : shB k g h = true) (n1 : absZ p + g < 2560000) (n2 : absZ q + g + h < 2560000) (e : rsP x y c d k g h p q = (F, true)) :
    rbK x y c d (p - g - 1) (q - hh k g h - 1) (p + g + 1) (q + hh k g h + 1) = true := by
  obtain ⟨a, b⟩ := near_rsK sh e
  have hb : 1 ≤ hh k g h ∧ hh k g h ≤ g + h ∧ 1 ≤ g := by
    rcases shB_cases sh with ⟨rfl, rfl, g0, g1⟩ | ⟨rfl, g0, g1, h0, h1⟩
    · unfold hh; rw [if_pos rfl]; omega
    · unfold hh; rw [if_neg (by decide)]; omega
  have p1 : -(2560000 - g) < p ∧ p < 2560000 - g := by unfold absZ at n1; split at n1 <;> omega
  have q1 : -(2560000 - g - h) < q ∧ q < 2560000 - g - h := by unfold absZ at n2; split at n2 <;> omega
  unfold rbK
  rw [a, b]
  simp only [Bool.true_and, Bool.and_true, Bool.and_eq_true]
  unfold bokB vokB leB inB
  simp only [Bool.and_eq_true, decide_eq_true_eq]
  omega
theorem at_once {k g h p q : Int} (sh : shB k g h = true) (n1 : absZ p + g < 2560000) (n2 : absZ q + g + h < 2560000) : rsP p q 300 (-7) k g h p q = (0, true) := by
  have hb : 1 ≤ g ∧ 0 ≤ h := by
    rcases shB_cases sh with ⟨rfl, rfl, g0, g1⟩ | ⟨rfl, g0, g1, h0, h1⟩ <;> omega
  have p1 : -2560000 ≤ p ∧ p ≤ 2560000 := by unfold absZ at n1; split at n1 <;> omega
  have q1 : -2560000 ≤ q ∧ q ≤ 2560000 := by unfold absZ at n2; split at n2 <;> omega
  have hi : inB 2560000 p q = true := by unfold inB; simp only [decide_eq_true_eq]; omega
  have hr : rayB p q 300 (-7) = true := by unfold rayB; rw [hi]; rfl
  unfold rsP
  rw [hr, sh, hi]
  simp only [Bool.and_true, if_true]
  rcases shB_cases sh with ⟨rfl, rfl, g0, g1⟩ | ⟨rfl, g0, g1, h0, h1⟩
  · rw [if_pos rfl]
    have e : rhB p q 300 (-7) p q g 0 = true := by
      unfold rhB bxx
      have z : (300 * 0 : Int).tdiv 256 = 0 := by decide
      have z2 : (-7 * 0 : Int).tdiv 256 = 0 := by decide
      rw [z, z2, show p + 0 - p = 0 by omega, show q + 0 - q = 0 by omega]
      have := Int.mul_nonneg (show 0 ≤ g by omega) (show 0 ≤ g by omega)
      exact decide_eq_true (by omega)
    show rrF _ (256 + 1) 0 = _
    unfold rrF
    rw [if_pos e]
  · rw [if_neg (by decide)]
    obtain ⟨a, b, c⟩ := rsK_in (x := p) (y := q) (u := 300) (v := -7) (p := p - g) (q := q - h) (r := p + g) (t := q + h) (k := 0) (by omega) (by omega) (by omega) (by omega) (by omega) (by omega)
    rw [a, show rsF p q 300 (-7) (p - g) (q - h) (p + g) (q + h) = 0 by omega]
end Go.Proofs.Ytnkebpbpempmhaa
