/- What is pushed out as deep as it was in is hardly in: promise 26, as plain mathematics. -/
import Derived.Test.YtnkebpbpempmhaaTchM
namespace Go.Proofs.Ytnkebpbpempmhaa
open Go.RowKit
set_option linter.unusedVariables false
set_option linter.unusedSimpArgs false
/-- how far a part of a way goes, on one side -/
theorem step_pos {x L n : Int} (hx : 0 ≤ x) (hL : 1 ≤ L) (hn : 0 ≤ n) :
    0 ≤ ((x * 256).tdiv L * n).tdiv 256 ∧ 256 * x * (L + n) - ((L - 1) * n + 255 * L) ≤ 256 * L * (x + ((x * 256).tdiv L * n).tdiv 256) := by
  have e1 : (x * 256).tdiv L = x * 256 / L := Int.tdiv_eq_ediv_of_nonneg (by omega)
  rw [e1]
  have p0 : 0 ≤ x * 256 / L := Int.ediv_nonneg (by omega) (by omega)
  have p2 := Int.lt_ediv_add_one_mul_self (x * 256) (show 0 < L by omega)
  generalize x * 256 / L = p at *
  have pn : 0 ≤ p * n := Int.mul_nonneg p0 hn
  have e2 : (p * n).tdiv 256 = p * n / 256 := Int.tdiv_eq_ediv_of_nonneg pn
  rw [e2]
  obtain ⟨t, et⟩ : ∃ t, p * n / 256 = t := ⟨_, rfl⟩
  have t1 : 0 ≤ t ∧ p * n - 255 ≤ 256 * t := by omega
  rw [et]
  refine ⟨t1.1, ?_⟩
  have h1 : x * 256 - (L - 1) ≤ p * L := by rw [Int.add_mul] at p2; omega
  have h2 : (x * 256 - (L - 1)) * n ≤ p * L * n := Int.mul_le_mul_of_nonneg_right h1 hn
  have h3 : (p * n - 255) * L ≤ 256 * t * L := Int.mul_le_mul_of_nonneg_right t1.2 (by omega)
  have a1 : p * L * n = p * n * L := by rw [Int.mul_assoc, Int.mul_comm L n, ← Int.mul_assoc]
  have a2 : (x * 256 - (L - 1)) * n = 256 * x * n - (L - 1) * n := by rw [Int.sub_mul, Int.mul_comm x 256]
  have a3 : (p * n - 255) * L = p * n * L - 255 * L := by rw [Int.sub_mul]
  have a4 : 256 * L * (x + t) = 256 * x * L + 256 * t * L := by rw [Int.mul_add, Int.mul_assoc, Int.mul_assoc, Int.mul_assoc, Int.mul_assoc, Int.mul_comm L x, Int.mul_comm L t]
  have a5 : 256 * x * (L + n) = 256 * x * L + 256 * x * n := by rw [Int.mul_add]
  omega
theorem step_any (x : Int) {L n t : Int} (hL : 1 ≤ L) (hn : 0 ≤ n) (et : ((x * 256).tdiv L * n).tdiv 256 = t) :
    (0 ≤ x → 0 ≤ t) ∧ (x ≤ 0 → t ≤ 0) ∧ ∃ X A, 0 ≤ X ∧ 0 ≤ A ∧ (x + t) * (x + t) = X * X ∧ A * A = x * x ∧ 256 * A * (L + n) - ((L - 1) * n + 255 * L) ≤ 256 * L * X := by
  rcases Int.le_total 0 x with h | h
  · obtain ⟨h1, h2⟩ := step_pos h hL hn
    rw [et] at h1 h2
    refine ⟨fun _ => h1, fun h0 => ?_, x + t, x, by omega, h, rfl, rfl, h2⟩
    have : x = 0 := by omega
    subst this
    simp at et
    omega
  · obtain ⟨h1, h2⟩ := step_pos (x := -x) (by omega) hL hn
    have e : ((-x * 256).tdiv L * n).tdiv 256 = -t := by rw [Int.neg_mul, Int.neg_tdiv, Int.neg_mul, Int.neg_tdiv, et]
    rw [e] at h1 h2
    refine ⟨fun h0 => ?_, fun _ => by omega, -x + -t, -x, by omega, by omega, ?_, Int.neg_mul_neg x x, h2⟩
    · have : x = 0 := by omega
      subst this
      simp at et
      omega
    · rw [← Int.neg_add, Int.neg_mul_neg]
theorem rd_zero_unit {dx dy : Int} (hz : vl dx dy = 0) : ux dx dy = 0 ∧ uy dx dy = 256 := ⟨by unfold ux; rw [if_pos hz], by unfold uy; rw [if_pos hz]⟩
theorem rd_out {dx dy g X Y D X2 Y2 D2 : Int} (hx : -10000000 ≤ dx ∧ dx ≤ 10000000) (hy : -10000000 ≤ dy ∧ dy ≤ 10000000) (hg : 0 ≤ g) (hg1 : g ≤ 10000000) (e : rdT dx dy g = ((X, Y, D), true))
    (hx' : -10000000 ≤ dx + (X * (D + 2)).tdiv 256 ∧ dx + (X * (D + 2)).tdiv 256 ≤ 10000000) (hy' : -10000000 ≤ dy + (Y * (D + 2)).tdiv 256 ∧ dy + (Y * (D + 2)).tdiv 256 ≤ 10000000)
    (e2 : rdT (dx + (X * (D + 2)).tdiv 256) (dy + (Y * (D + 2)).tdiv 256) g = ((X2, Y2, D2), true)) : D2 ≤ 6 + D.tdiv 8 := by
  have f := rd_facts hx hy hg e
  unfold rdT at e e2
  split at e
  · rename_i hs
    split at e2
    · rename_i hs2
      simp only [Prod.mk.injEq, and_true] at e e2
      obtain ⟨eX, eY, eD⟩ := e
      obtain ⟨_, _, eD2⟩ := e2
      have ed : D.tdiv 8 = D / 8 := Int.tdiv_eq_ediv_of_nonneg f.1
      obtain ⟨v0, r1, r2⟩ := vlr hx hy
      obtain ⟨v0', r1', r2'⟩ := vlr hx' hy'
      by_cases hz : vl dx dy = 0
      · obtain ⟨q1, q2⟩ := rd_zero_unit hz
        rw [q1] at eX
        rw [q2] at eY
        subst eX
        subst eY
        have t1 : ((0 : Int) * (D + 2)).tdiv 256 = 0 := by rw [Int.zero_mul]; rfl
        have t2 : ((256 : Int) * (D + 2)).tdiv 256 = D + 2 := Int.mul_tdiv_cancel_left _ (by decide)
        rw [t1, t2] at hs2
        rw [hz] at r1 r2 eD
        have zx : dx = 0 := by have := sq_nonneg dx; have := sq_nonneg dy; have := sq_abs_le (a := dx) (b := 0) (by omega) (by omega); omega
        have zy : dy = 0 := by have := sq_nonneg dx; have := sq_nonneg dy; have := sq_abs_le (a := dy) (b := 0) (by omega) (by omega); omega
        subst zx
        subst zy
        have := sq_mono (a := g + 1) (b := 0 + (D + 2)) (by omega) (by omega)
        have := sq_succ g
        omega
      · have ex : ux dx dy = (dx * 256).tdiv (vl dx dy) := by unfold ux; rw [if_neg hz]
        have ey : uy dx dy = (dy * 256).tdiv (vl dx dy) := by unfold uy; rw [if_neg hz]
        rw [ex] at eX
        rw [ey] at eY
        subst eX
        subst eY
        generalize vl dx dy = L at *
        obtain ⟨tx, etx⟩ : ∃ t, ((dx * 256).tdiv L * (D + 2)).tdiv 256 = t := ⟨_, rfl⟩
        obtain ⟨ty, ety⟩ : ∃ t, ((dy * 256).tdiv L * (D + 2)).tdiv 256 = t := ⟨_, rfl⟩
        obtain ⟨_, _, P, A, P0, A0, eP, eA, hP⟩ := step_any dx (by omega) (by omega) etx
        obtain ⟨_, _, Q, B, Q0, B0, eQ, eB, hQ⟩ := step_any dy (by omega) (by omega) ety
        rw [etx, ety] at v0' r1' r2' eD2
        generalize vl (dx + tx) (dy + ty) = M at *
        rw [eP, eQ] at r1' r2'
        rw [← eA, ← eB] at r1 r2
        rw [ed]
        obtain ⟨T, eT⟩ : ∃ T, L + D - D / 8 - 6 = T := ⟨_, rfl⟩
        rcases Int.lt_or_le T 0 with hT | hT
        · omega
        rcases Int.lt_or_le (P * P + Q * Q) (T * T) with hlt | hge
        · exfalso
          obtain ⟨n, en⟩ : ∃ n, D + 2 = n := ⟨_, rfl⟩
          rw [en] at hP hQ
          obtain ⟨E, eE⟩ : ∃ E, (L - 1) * n + 255 * L = E := ⟨_, rfl⟩
          rw [eE] at hP hQ
          have E0 : 0 < E := by have := Int.mul_nonneg (show 0 ≤ L - 1 by omega) (show 0 ≤ n by omega); omega
          obtain ⟨C, eC⟩ : ∃ C, 256 * L = C := ⟨_, rfl⟩
          rw [eC] at hP hQ
          have C0 : 0 < C := by omega
          -- the pushed way, so often as long
          have k1 : C * P * (C * P) + C * Q * (C * Q) < C * T * (C * T) := by
            rw [mul4 C P C P, mul4 C Q C Q, mul4 C T C T, ← Int.mul_add]
            exact Int.mul_lt_mul_of_pos_left hlt (Int.mul_pos C0 C0)
          have k2 : E * E + E * E < 2 * E * (2 * E) := by
            have := Int.mul_pos E0 E0
            rw [mul4]; omega
          have k3 := tri_lt (x := C * P) (y := C * Q) (u := E) (v := E) (Int.mul_nonneg (by omega) hT) (by omega) k1 k2
          have hAB : 0 ≤ 256 * A * (L + n) := Int.mul_nonneg (by omega) (by omega)
          have hBB : 0 ≤ 256 * B * (L + n) := Int.mul_nonneg (by omega) (by omega)
          have k4 := sq_mono hAB (show 256 * A * (L + n) ≤ C * P + E by omega)
          have k5 := sq_mono hBB (show 256 * B * (L + n) ≤ C * Q + E by omega)
          have k6 : 256 * A * (L + n) * (256 * A * (L + n)) + 256 * B * (L + n) * (256 * B * (L + n)) = (A * A + B * B) * (256 * (L + n) * (256 * (L + n))) := by
            rw [Int.mul_comm 256 A, Int.mul_comm 256 B, Int.mul_assoc A, Int.mul_assoc B, mul4, mul4 B, ← Int.add_mul]
          have k7 : L * L * (256 * (L + n) * (256 * (L + n))) ≤ (A * A + B * B) * (256 * (L + n) * (256 * (L + n))) := Int.mul_le_mul_of_nonneg_right r1 (sq_nonneg _)
          have k8 : L * (256 * (L + n)) * (L * (256 * (L + n))) < (C * T + 2 * E) * (C * T + 2 * E) := by rw [mul4]; omega
          have k9 : L * (256 * (L + n)) < C * T + 2 * E := lt_of_sq (by have := Int.mul_nonneg (show 0 ≤ C by omega) hT; omega) k8
          -- and that is not so
          have j1 : L * (256 * (L + n)) = 256 * (L * (L + n)) := by rw [Int.mul_left_comm]
          have j2 : C * T = 256 * (L * T) := by rw [← eC, Int.mul_assoc]
          have j3 : (L - 1) * n = L * n - n := by rw [Int.sub_mul, Int.one_mul]
          have j4 : L * (256 * (L + n)) - L * (256 * T) - L * (2 * n + 510) = L * (256 * (L + n) - 256 * T - (2 * n + 510)) := by rw [Int.mul_sub, Int.mul_sub]
          have j5 : L * (256 * T) = 256 * (L * T) := by rw [Int.mul_left_comm]
          have j6 : L * (2 * n + 510) = 2 * (L * n) + L * 510 := by rw [Int.mul_add, Int.mul_left_comm]
          have j7 : 0 ≤ L * (256 * (L + n) - 256 * T - (2 * n + 510)) := Int.mul_nonneg (by omega) (by omega)
          omega
        · have : T ≤ M := by
            rcases Int.lt_or_le M T with h | h
            · have := sq_mono (a := M + 1) (b := T) (by omega) (by omega)
              omega
            · exact h
          omega
    · simp at e2
  · simp at e
theorem rd_sign {dx dy g X Y D tx ty : Int} (hx : -10000000 ≤ dx ∧ dx ≤ 10000000) (hy : -10000000 ≤ dy ∧ dy ≤ 10000000) (hg : 0 ≤ g) (hne : ¬(dx = 0 ∧ dy = 0)) (e : rdT dx dy g = ((X, Y, D), true))
    (etx : (X * (D + 2)).tdiv 256 = tx) (ety : (Y * (D + 2)).tdiv 256 = ty) : ((0 ≤ dx → 0 ≤ tx) ∧ (dx ≤ 0 → tx ≤ 0)) ∧ (0 ≤ dy → 0 ≤ ty) ∧ (dy ≤ 0 → ty ≤ 0) := by
  have f := rd_facts hx hy hg e
  unfold rdT at e
  split at e
  · simp only [Prod.mk.injEq, and_true] at e
    obtain ⟨eX, eY, eD⟩ := e
    obtain ⟨v0, r1, r2⟩ := vlr hx hy
    have hz : vl dx dy ≠ 0 := by
      intro hz
      rw [hz] at r2
      have := sq_nonneg dx
      have := sq_nonneg dy
      have := sq_abs_le (a := dx) (b := 0) (by omega) (by omega)
      have := sq_abs_le (a := dy) (b := 0) (by omega) (by omega)
      exact hne ⟨by omega, by omega⟩
    have ex : ux dx dy = (dx * 256).tdiv (vl dx dy) := by unfold ux; rw [if_neg hz]
    have ey : uy dx dy = (dy * 256).tdiv (vl dx dy) := by unfold uy; rw [if_neg hz]
    rw [ex] at eX
    rw [ey] at eY
    subst eX
    subst eY
    obtain ⟨a1, a2, _⟩ := step_any dx (by omega) (by omega) etx
    obtain ⟨b1, b2, _⟩ := step_any dy (by omega) (by omega) ety
    exact ⟨⟨a1, a2⟩, b1, b2⟩
  · simp at e
theorem rd_far {dx dy g : Int} (hg : 0 ≤ g) (h : (g < dx ∨ dx < -g) ∨ (g < dy ∨ dy < -g)) : (rdT dx dy g).2 = false := by
  unfold rdT
  rw [if_neg]
  intro q
  have := sq_nonneg dx
  have := sq_nonneg dy
  have := sq_abs_le (a := dx) hg (by omega)
  have := sq_abs_le (a := dy) hg (by omega)
  omega
theorem bs_cases (s0 s1 s2 s3 : Int) : bsT s0 s1 s2 s3 = (256, 0, s0) ∨ bsT s0 s1 s2 s3 = (-256, 0, s1) ∨ bsT s0 s1 s2 s3 = (0, 256, s2) ∨ bsT s0 s1 s2 s3 = (0, -256, s3) := by
  unfold bsT
  by_cases a : s1 < s0 <;> simp only [a, if_true, if_false]
  · by_cases b : s2 < s1 <;> simp only [b, if_true, if_false]
    · by_cases c : s3 < s2 <;> simp [c]
    · by_cases c : s3 < s1 <;> simp [c]
  · by_cases b : s2 < s0 <;> simp only [b, if_true, if_false]
    · by_cases c : s3 < s2 <;> simp [c]
    · by_cases c : s3 < s0 <;> simp [c]
theorem go256 (n : Int) : ((256 : Int) * n).tdiv 256 = n := Int.mul_tdiv_cancel_left _ (by decide)
theorem go256n (n : Int) : ((-256 : Int) * n).tdiv 256 = -n := by rw [Int.neg_mul, Int.neg_tdiv, go256]
theorem go0 (n : Int) : ((0 : Int) * n).tdiv 256 = 0 := by rw [Int.zero_mul]; rfl
/-- out of a box, as far as it is in on one side: what is round does not touch it any more -/
theorem mx_far {a b c d x y g : Int} (ha : a ≤ c) (hb : b ≤ d) (hg : 0 ≤ g) (h : (c + g < x ∨ x < a - g) ∨ (d + g < y ∨ y < b - g)) : (mxT a b c d x y g).2 = false := by
  unfold mxT
  rw [if_neg]
  · refine rd_far hg ?_
    rcases h with h | h
    · refine .inl ?_; unfold mn mx; repeat' split <;> omega
    · refine .inr ?_; unfold mn mx; repeat' split <;> omega
  · unfold ptB; simp only [decide_eq_true_eq]; omega
theorem mx_out {a b c d x y g X Y D X2 Y2 D2 tx ty : Int} (ha : -2600000 ≤ a ∧ a ≤ c ∧ c ≤ 2600000) (hb : -2600000 ≤ b ∧ b ≤ d ∧ d ≤ 2600000) (hx : -2560000 ≤ x ∧ x ≤ 2560000) (hy : -2560000 ≤ y ∧ y ≤ 2560000) (hg : 0 ≤ g) (hg1 : g ≤ 25600)
    (e : mxT a b c d x y g = ((X, Y, D), true)) (etx : (X * (D + 2)).tdiv 256 = tx) (ety : (Y * (D + 2)).tdiv 256 = ty) (hx' : -6000000 ≤ x + tx - c ∧ x + tx - a ≤ 6000000) (hy' : -6000000 ≤ y + ty - d ∧ y + ty - b ≤ 6000000)
    (e2 : mxT a b c d (x + tx) (y + ty) g = ((X2, Y2, D2), true)) : D2 ≤ 6 + D.tdiv 8 := by
  have far : ¬((c + g < x + tx ∨ x + tx < a - g) ∨ (d + g < y + ty ∨ y + ty < b - g)) := by
    intro h
    have q := mx_far (x := x + tx) (y := y + ty) ha.2.1 hb.2.1 hg h
    rw [e2] at q
    cases q
  unfold mxT at e
  split at e
  · rename_i h
    exfalso
    unfold ptB at h
    simp only [decide_eq_true_eq] at h
    simp only [Prod.mk.injEq, and_true] at e
    obtain ⟨eX, eY, eD⟩ := e
    rcases bs_cases (c - x) (x - a) (d - y) (y - b) with q | q | q | q
    all_goals
      rw [q] at eX eY eD
      dsimp only at eX eY eD
      rw [← eX] at etx
      rw [← eY] at ety
      simp only [go256, go256n, go0] at etx ety
      omega
  · rename_i h
    unfold ptB at h
    simp only [decide_eq_true_eq] at h
    unfold mxT at e2
    have n1 : (x < a ∧ mn (mx x a) c = a) ∨ (a ≤ x ∧ x ≤ c ∧ mn (mx x a) c = x) ∨ (c < x ∧ mn (mx x a) c = c) := by unfold mn mx; repeat' split <;> omega
    have n2 : (y < b ∧ mn (mx y b) d = b) ∨ (b ≤ y ∧ y ≤ d ∧ mn (mx y b) d = y) ∨ (d < y ∧ mn (mx y b) d = d) := by unfold mn mx; repeat' split <;> omega
    obtain ⟨p, ep⟩ : ∃ p, mn (mx x a) c = p := ⟨_, rfl⟩
    obtain ⟨q, eq⟩ : ∃ q, mn (mx y b) d = q := ⟨_, rfl⟩
    rw [ep] at n1 e
    rw [eq] at n2 e
    obtain ⟨⟨s1, s2⟩, s3, s4⟩ := rd_sign (by omega) (by omega) hg (by omega) e etx ety
    have m1 : x + tx - mn (mx (x + tx) a) c = x - p + tx := by unfold mn mx; repeat' split <;> omega
    have m2 : y + ty - mn (mx (y + ty) b) d = y - q + ty := by unfold mn mx; repeat' split <;> omega
    split at e2
    · rename_i h2
      unfold ptB at h2
      simp only [decide_eq_true_eq] at h2
      exfalso
      omega
    · rw [m1, m2] at e2
      subst etx
      subst ety
      exact rd_out (by omega) (by omega) hg (by omega) e (by omega) (by omega) e2
theorem mx_shift (a b c d x y g t s : Int) : mxT (a - t) (b - s) (c - t) (d - s) x y g = mxT a b c d (x + t) (y + s) g := by
  have e1 : ptB (a - t) (b - s) (c - t) (d - s) x y = ptB a b c d (x + t) (y + s) := by unfold ptB; rw [Bool.eq_iff_iff]; simp only [decide_eq_true_eq]; omega
  have e2 : c - t - x = c - (x + t) := by omega
  have e3 : x - (a - t) = x + t - a := by omega
  have e4 : d - s - y = d - (y + s) := by omega
  have e5 : y - (b - s) = y + s - b := by omega
  have e6 : x - mn (mx x (a - t)) (c - t) = x + t - mn (mx (x + t) a) c := by unfold mn mx; repeat' split <;> omega
  have e7 : y - mn (mx y (b - s)) (d - s) = y + s - mn (mx (y + s) b) d := by unfold mn mx; repeat' split <;> omega
  unfold mxT
  rw [e1, e2, e3, e4, e5, e6, e7]
theorem bx_out {a b c d r s t u X Y D X2 Y2 D2 tx ty : Int} (h1 : a ≤ c) (h2 : b ≤ d) (h3 : r ≤ t) (h4 : s ≤ u) (e : bxT a b c d r s t u = ((X, Y, D), true)) (etx : (X * (D + 2)).tdiv 256 = tx) (ety : (Y * (D + 2)).tdiv 256 = ty)
    (e2 : bxT a b c d (r + tx) (s + ty) (t + tx) (u + ty) = ((X2, Y2, D2), true)) : False := by
  unfold bxT at e e2
  split at e
  · split at e2
    · rename_i h
      unfold leB at h
      simp only [Bool.and_eq_true, decide_eq_true_eq] at h
      simp only [Prod.mk.injEq, and_true] at e
      rcases bs_cases (c - r) (t - a) (d - s) (u - b) with q | q | q | q
      all_goals
        rw [q] at e
        simp only [Prod.mk.injEq] at e
        obtain ⟨eX, eY, eD⟩ := e
        rw [← eX] at etx
        rw [← eY] at ety
        simp only [go256, go256n, go0] at etx ety
        omega
    · simp at e2
  · simp at e
theorem touch_out {k g h x y m c d u v X Y D X2 Y2 D2 tx ty : Int} (e : toT k g h x y m c d u v = ((X, Y, D), true)) (etx : (X * (D + 2)).tdiv 256 = tx) (ety : (Y * (D + 2)).tdiv 256 = ty)
    (e2 : toT k g h x y m c d (u + tx) (v + ty) = ((X2, Y2, D2), true)) : D2 ≤ 6 + D.tdiv 8 := by
  have hz : okT k g h x y m c d u v = true := by
    cases q : okT k g h x y m c d u v with
    | true => rfl
    | false =>
      unfold toT at e; unfold okT at q; rw [q] at e
      simp at e
  have hz2 : okT k g h x y m c d (u + tx) (v + ty) = true := by
    cases q : okT k g h x y m c d (u + tx) (v + ty) with
    | true => rfl
    | false =>
      unfold toT at e2; unfold okT at q; rw [q] at e2
      simp at e2
  unfold okT at hz hz2
  simp only [Bool.and_eq_true] at hz hz2
  obtain ⟨s1, s2, p1, p2⟩ := hz
  obtain ⟨_, _, _, p3⟩ := hz2
  have t1 : toT k g h x y m c d u v = tcT k g h x y m c d u v := by unfold toT; rw [if_pos (by simp [*])]
  have t2 : toT k g h x y m c d (u + tx) (v + ty) = tcT k g h x y m c d (u + tx) (v + ty) := by unfold toT; rw [if_pos (by simp [*])]
  rw [t1] at e
  rw [t2] at e2
  obtain ⟨⟨x0, x1⟩, y0, y1⟩ := inB_of p1
  obtain ⟨⟨u0, u1⟩, v0, v1⟩ := inB_of p2
  obtain ⟨⟨u2, u3⟩, v2, v3⟩ := inB_of p3
  clear t1 t2 p1 p2 p3
  rcases shB_kinds s1 with ⟨rfl, rfl, a0, a1⟩ | ⟨rfl, a0, a1, a2, a3⟩
  · rcases shB_kinds s2 with ⟨rfl, rfl, b0, b1⟩ | ⟨rfl, b0, b1, b2, b3⟩
    · have q1 : ∀ u v, tcT 1 g 0 x y 1 c 0 u v = rdT (u - x) (v - y) (g + c) := by intro u v; unfold tcT; simp
      rw [q1] at e e2
      rw [show u + tx - x = u - x + tx by omega, show v + ty - y = v - y + ty by omega] at e2
      subst etx
      subst ety
      exact rd_out (by omega) (by omega) (by omega) (by omega) e (by omega) (by omega) e2
    · have q1 : ∀ u v, tcT 1 g 0 x y 2 c d u v = tnT (mxT (u - c) (v - d) (u + c) (v + d) x y g) := by intro u v; unfold tcT; simp
      rw [q1] at e e2
      obtain ⟨⟨⟨X0, Y0, D0⟩, K0⟩, e0⟩ : ∃ F, mxT (u - c) (v - d) (u + c) (v + d) x y g = F := ⟨_, rfl⟩
      obtain ⟨⟨⟨X3, Y3, D3⟩, K3⟩, e3⟩ : ∃ F, mxT (u + tx - c) (v + ty - d) (u + tx + c) (v + ty + d) x y g = F := ⟨_, rfl⟩
      rw [e0] at e
      rw [e3] at e2
      unfold tnT at e e2
      dsimp only at e e2
      split at e
      · rename_i h1
        split at e2
        · rename_i h2
          subst h1
          subst h2
          simp only [Prod.mk.injEq, and_true] at e e2
          obtain ⟨eX, eY, eD⟩ := e
          obtain ⟨_, _, eD2⟩ := e2
          subst eD
          subst eD2
          have w1 : (X0 * (D0 + 2)).tdiv 256 = -tx := by rw [← eX, Int.neg_mul, Int.neg_tdiv] at etx; omega
          have w2 : (Y0 * (D0 + 2)).tdiv 256 = -ty := by rw [← eY, Int.neg_mul, Int.neg_tdiv] at ety; omega
          have sh := mx_shift (u - c) (v - d) (u + c) (v + d) x y g (-tx) (-ty)
          rw [show u - c - -tx = u + tx - c by omega, show v - d - -ty = v + ty - d by omega, show u + c - -tx = u + tx + c by omega, show v + d - -ty = v + ty + d by omega, e3] at sh
          exact mx_out (by omega) (by omega) (by omega) (by omega) (by omega) (by omega) e0 w1 w2 (by omega) (by omega) sh.symm
        · simp at e2
      · simp at e
  · rcases shB_kinds s2 with ⟨rfl, rfl, b0, b1⟩ | ⟨rfl, b0, b1, b2, b3⟩
    · have q1 : ∀ u v, tcT 2 g h x y 1 c 0 u v = mxT (x - g) (y - h) (x + g) (y + h) u v c := by intro u v; unfold tcT; simp
      rw [q1] at e e2
      exact mx_out (by omega) (by omega) (by omega) (by omega) (by omega) (by omega) e etx ety (by omega) (by omega) e2
    · have q1 : ∀ u v, tcT 2 g h x y 2 c d u v = bxT (x - g) (y - h) (x + g) (y + h) (u - c) (v - d) (u + c) (v + d) := by intro u v; unfold tcT; simp
      rw [q1] at e e2
      rw [show u + tx - c = u - c + tx by omega, show v + ty - d = v - d + ty by omega, show u + tx + c = u + c + tx by omega, show v + ty + d = v + d + ty by omega] at e2
      exact (bx_out (by omega) (by omega) (by omega) (by omega) e etx ety e2).elim
theorem rd_deep {dx dy g X Y D : Int} (hx : -10000000 ≤ dx ∧ dx ≤ 10000000) (hy : -10000000 ≤ dy ∧ dy ≤ 10000000) (e : rdT dx dy g = ((X, Y, D), true)) : D ≤ g := by
  unfold rdT at e
  split at e
  · simp only [Prod.mk.injEq, and_true] at e
    have := (vlr hx hy).1
    omega
  · simp at e
theorem mx_deep {a b c d x y g X Y D : Int} (ha : -2600000 ≤ a ∧ a ≤ c ∧ c ≤ 2600000) (hb : -2600000 ≤ b ∧ b ≤ d ∧ d ≤ 2600000) (hx : -2560000 ≤ x ∧ x ≤ 2560000) (hy : -2560000 ≤ y ∧ y ≤ 2560000) (hg : 0 ≤ g) (hg1 : g ≤ 25600)
    (e : mxT a b c d x y g = ((X, Y, D), true)) : D ≤ 10000000 := by
  unfold mxT at e
  split at e
  · simp only [Prod.mk.injEq, and_true] at e
    obtain ⟨_, _, eD⟩ := e
    rcases bs_cases (c - x) (x - a) (d - y) (y - b) with q | q | q | q <;> rw [q] at eD <;> dsimp only at eD <;> omega
  · have n1 : mn (mx x a) c ≤ c ∧ a ≤ mn (mx x a) c := by unfold mn mx; repeat' split <;> omega
    have n2 : mn (mx y b) d ≤ d ∧ b ≤ mn (mx y b) d := by unfold mn mx; repeat' split <;> omega
    have := rd_deep (by omega) (by omega) e
    omega
theorem touch_deep {k g h x y m c d u v X Y D : Int} (e : toT k g h x y m c d u v = ((X, Y, D), true)) : D ≤ 10000000 := by
  have hz : okT k g h x y m c d u v = true := by
    cases q : okT k g h x y m c d u v with
    | true => rfl
    | false =>
      unfold toT at e; unfold okT at q; rw [q] at e
      simp at e
  unfold okT at hz
  simp only [Bool.and_eq_true] at hz
  obtain ⟨s1, s2, p1, p2⟩ := hz
  have t1 : toT k g h x y m c d u v = tcT k g h x y m c d u v := by unfold toT; rw [if_pos (by simp [*])]
  rw [t1] at e
  obtain ⟨⟨x0, x1⟩, y0, y1⟩ := inB_of p1
  obtain ⟨⟨u0, u1⟩, v0, v1⟩ := inB_of p2
  clear t1 p1 p2
  rcases shB_kinds s1 with ⟨rfl, rfl, a0, a1⟩ | ⟨rfl, a0, a1, a2, a3⟩
  · rcases shB_kinds s2 with ⟨rfl, rfl, b0, b1⟩ | ⟨rfl, b0, b1, b2, b3⟩
    · have q1 : tcT 1 g 0 x y 1 c 0 u v = rdT (u - x) (v - y) (g + c) := by unfold tcT; simp
      rw [q1] at e
      have := rd_deep (by omega) (by omega) e
      omega
    · have q1 : tcT 1 g 0 x y 2 c d u v = tnT (mxT (u - c) (v - d) (u + c) (v + d) x y g) := by unfold tcT; simp
      rw [q1] at e
      obtain ⟨⟨⟨X0, Y0, D0⟩, K0⟩, e0⟩ : ∃ F, mxT (u - c) (v - d) (u + c) (v + d) x y g = F := ⟨_, rfl⟩
      rw [e0] at e
      unfold tnT at e
      dsimp only at e
      split at e
      · rename_i h1
        subst h1
        simp only [Prod.mk.injEq, and_true] at e
        have := mx_deep (by omega) (by omega) (by omega) (by omega) (by omega) (by omega) e0
        omega
      · simp at e
  · rcases shB_kinds s2 with ⟨rfl, rfl, b0, b1⟩ | ⟨rfl, b0, b1, b2, b3⟩
    · have q1 : tcT 2 g h x y 1 c 0 u v = mxT (x - g) (y - h) (x + g) (y + h) u v c := by unfold tcT; simp
      rw [q1] at e
      exact mx_deep (by omega) (by omega) (by omega) (by omega) (by omega) (by omega) e
    · have q1 : tcT 2 g h x y 2 c d u v = bxT (x - g) (y - h) (x + g) (y + h) (u - c) (v - d) (u + c) (v + d) := by unfold tcT; simp
      rw [q1] at e
      unfold bxT at e
      split at e
      · simp only [Prod.mk.injEq, and_true] at e
        rcases bs_cases (x + g - (u - c)) (u + c - (x - g)) (y + h - (v - d)) (v + d - (y - h)) with q | q | q | q <;> rw [q] at e <;> simp only [Prod.mk.injEq] at e <;> omega
      · simp at e
end Go.Proofs.Ytnkebpbpempmhaa
