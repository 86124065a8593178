/- How two shapes touch: what promise 24 asks, as plain mathematics. -/
import Derived.Test.YtnkebpbpempmhaaPlainV
import Derived.Test.YtnkebpbpempmhaaSTch4
import Derived.Test.YtnkebpbpempmhaaShC
import Derived.Test.YtnkebpbpempmhaaBox
namespace Go.Proofs.Ytnkebpbpempmhaa
open Go.RowKit
set_option linter.unusedVariables false
set_option linter.unusedSimpArgs false
theorem sq_succ (b : Int) : (b + 1) * (b + 1) = b * b + 2 * b + 1 := by simp only [Int.add_mul, Int.mul_add, Int.one_mul, Int.mul_one]; omega
theorem sq_abs_le {a b : Int} (hb : 0 ≤ b) (h : a * a ≤ b * b) : -b ≤ a ∧ a ≤ b := by
  have e := sq_succ b
  have h1 : a ≤ b := le_of_sq hb (by omega)
  have h2 : -a ≤ b := le_of_sq hb (by rw [Int.neg_mul_neg]; omega)
  omega
theorem mul4 (a b c d : Int) : a * b * (c * d) = a * c * (b * d) := by rw [Int.mul_assoc, Int.mul_assoc, Int.mul_left_comm b c d]
theorem vlr {x y : Int} (hx : -10000000 ≤ x ∧ x ≤ 10000000) (hy : -10000000 ≤ y ∧ y ≤ 10000000) :
    0 ≤ vl x y ∧ vl x y * vl x y ≤ x * x + y * y ∧ x * x + y * y < (vl x y + 1) * (vl x y + 1) := by
  have h0 : 0 ≤ x * x + y * y := by have := sq_nonneg x; have := sq_nonneg y; omega
  have b1 := mul_bd (a := x) (b := x) (A := 10000000) (B := 10000000) (by omega) (by omega)
  have b2 := mul_bd (a := y) (b := y) (A := 10000000) (B := 10000000) (by omega) (by omega)
  obtain ⟨a, b, c⟩ := rootZ_is h0
  have hle := rootZ_le (n := x * x + y * y) (B := 99999999) (by omega) (by omega)
  have e : vl x y = rootZ (x * x + y * y) := by unfold vl clampZ; repeat' split <;> omega
  rw [e]
  exact ⟨a, b, c⟩
theorem vl_ng (x y : Int) : vl (-x) (-y) = vl x y := by unfold vl; rw [Int.neg_mul_neg, Int.neg_mul_neg]
theorem cutA {z n : Int} (hn : 0 < n) : ∃ p, 0 ≤ p ∧ (z.tdiv n = p ∨ z.tdiv n = -p) ∧ p * n ≤ (z.natAbs : Int) ∧ (z.natAbs : Int) < (p + 1) * n := by
  rcases Int.le_total 0 z with h | h
  · have e : z.tdiv n = z / n := Int.tdiv_eq_ediv_of_nonneg h
    have q0 : 0 ≤ z / n := Int.ediv_nonneg h (by omega)
    have q1 := Int.ediv_mul_le z (show n ≠ 0 by omega)
    have q2 := Int.lt_ediv_add_one_mul_self z hn
    exact ⟨z / n, q0, .inl e, by omega, by omega⟩
  · have e : z.tdiv n = -((-z) / n) := by rw [← Int.tdiv_eq_ediv_of_nonneg (show 0 ≤ -z by omega), Int.neg_tdiv, Int.neg_neg]
    have q0 : 0 ≤ (-z) / n := Int.ediv_nonneg (by omega) (by omega)
    have q1 := Int.ediv_mul_le (-z) (show n ≠ 0 by omega)
    have q2 := Int.lt_ediv_add_one_mul_self (-z) hn
    exact ⟨(-z) / n, q0, .inr e, by omega, by omega⟩
theorem cut_sq {x n t : Int} (hn : 0 < n) (e : t = (x * 256).tdiv n) : ∃ p, 0 ≤ p ∧ t * t = p * p ∧ p * p * (n * n) ≤ x * x * 65536 ∧ x * x * 65536 ≤ (p + 1) * (p + 1) * (n * n) := by
  obtain ⟨p, p0, pe, p1, p2⟩ := cutA (z := x * 256) (n := n) hn
  have sx : ((x * 256).natAbs : Int) * ((x * 256).natAbs : Int) = x * x * 65536 := by rw [Int.natAbs_mul_self', mul4]; rfl
  have a1 := sq_mono (Int.mul_nonneg p0 (by omega : 0 ≤ n)) p1
  have a2 := sq_mono (a := ((x * 256).natAbs : Int)) (by omega) (Int.le_of_lt p2)
  rw [sx, mul4] at a1 a2
  refine ⟨p, p0, ?_, a1, a2⟩
  subst e
  rcases pe with e | e <;> rw [e]
  rw [Int.neg_mul_neg]
theorem unit_len {x y : Int} (hx : -10000000 ≤ x ∧ x ≤ 10000000) (hy : -10000000 ≤ y ∧ y ≤ 10000000) :
    62500 ≤ ux x y * ux x y + uy x y * uy x y ∧ ux x y * ux x y + uy x y * uy x y ≤ 131769 := by
  obtain ⟨v0, r1, r2⟩ := vlr hx hy
  by_cases hz : vl x y = 0
  · have ex : ux x y = 0 := by unfold ux; rw [if_pos hz]
    have ey : uy x y = 256 := by unfold uy; rw [if_pos hz]
    rw [ex, ey]; decide
  have ex : ux x y = (x * 256).tdiv (vl x y) := by unfold ux; rw [if_neg hz]
  have ey : uy x y = (y * 256).tdiv (vl x y) := by unfold uy; rw [if_neg hz]
  generalize vl x y = n at *
  obtain ⟨p, p0, pe, p1, p2⟩ := cut_sq (by omega) ex
  obtain ⟨q, q0, qe, q1, q2⟩ := cut_sq (by omega) ey
  rw [pe, qe]
  have sn := sq_succ n
  have sp := sq_succ p
  have sq := sq_succ q
  have hN : 1 ≤ n * n := sq_mono (a := 1) (by omega) (by omega)
  have xx := sq_nonneg x
  have yy := sq_nonneg y
  constructor
  · have h1 : 65536 * (n * n) ≤ ((p + 1) * (p + 1) + (q + 1) * (q + 1)) * (n * n) := by rw [Int.add_mul]; omega
    have h2 : 65536 ≤ (p + 1) * (p + 1) + (q + 1) * (q + 1) := Int.le_of_mul_le_mul_right h1 (by omega)
    rcases Int.lt_or_le (p * p + q * q) 62500 with h | h
    · have pp := sq_nonneg p
      have qq := sq_nonneg q
      have g1 : p < 250 := lt_of_sq (by omega) (by omega)
      have g2 : q < 250 := lt_of_sq (by omega) (by omega)
      omega
    · exact h
  · have hle : (p * p + q * q) * (n * n) ≤ 131072 * (n * n) := by
      rw [Int.add_mul]
      rcases (show n = 1 ∨ 2 ≤ n by omega) with h | h
      · subst h
        have gx : x ≤ 1 := le_of_sq (by omega) (by omega)
        have gx' : -x ≤ 1 := le_of_sq (by omega) (by rw [Int.neg_mul_neg]; omega)
        have gy : y ≤ 1 := le_of_sq (by omega) (by omega)
        have gy' : -y ≤ 1 := le_of_sq (by omega) (by rw [Int.neg_mul_neg]; omega)
        have tx : x * x ≤ 1 := by rcases (show x = -1 ∨ x = 0 ∨ x = 1 by omega) with rfl | rfl | rfl <;> decide
        have ty : y * y ≤ 1 := by rcases (show y = -1 ∨ y = 0 ∨ y = 1 by omega) with rfl | rfl | rfl <;> decide
        omega
      · have h2 : 2 * n ≤ n * n := Int.mul_le_mul_of_nonneg_right h (by omega)
        omega
    have := Int.le_of_mul_le_mul_right hle (by omega)
    omega
theorem rd_facts {dx dy g X Y D : Int} (hx : -10000000 ≤ dx ∧ dx ≤ 10000000) (hy : -10000000 ≤ dy ∧ dy ≤ 10000000) (hg : 0 ≤ g) (e : rdT dx dy g = ((X, Y, D), true)) :
    0 ≤ D ∧ (62500 ≤ X * X + Y * Y ∧ X * X + Y * Y ≤ 131769) ∧ (-g ≤ dx ∧ dx ≤ g) ∧ (-g ≤ dy ∧ dy ≤ g) := by
  unfold rdT at e
  split at e
  · rename_i h
    simp only [Prod.mk.injEq, and_true] at e
    obtain ⟨rfl, rfl, rfl⟩ := e
    obtain ⟨v0, r1, r2⟩ := vlr hx hy
    have xx := sq_nonneg dx
    have yy := sq_nonneg dy
    have := sq_succ g
    have h3 : vl dx dy ≤ g := le_of_sq hg (by omega)
    exact ⟨by omega, unit_len hx hy, sq_abs_le hg (by omega), sq_abs_le hg (by omega)⟩
  · simp at e
theorem rd_sym (dx dy g : Int) : (rdT (-dx) (-dy) g).2 = (rdT dx dy g).2 ∧ (rdT (-dx) (-dy) g).1.2.2 = (rdT dx dy g).1.2.2 := by
  unfold rdT; rw [Int.neg_mul_neg, Int.neg_mul_neg, vl_ng]; split <;> simp
theorem bs_facts {s0 s1 s2 s3 : Int} (h0 : 0 ≤ s0) (h1 : 0 ≤ s1) (h2 : 0 ≤ s2) (h3 : 0 ≤ s3) :
    (bsT s0 s1 s2 s3).1 * (bsT s0 s1 s2 s3).1 + (bsT s0 s1 s2 s3).2.1 * (bsT s0 s1 s2 s3).2.1 = 65536 ∧ 0 ≤ (bsT s0 s1 s2 s3).2.2 := by
  unfold bsT
  by_cases a : s1 < s0 <;> simp only [a, if_true, if_false]
  · by_cases b : s2 < s1 <;> simp only [b, if_true, if_false]
    · by_cases c : s3 < s2 <;> simp only [c, if_true, if_false] <;> exact ⟨by decide, by omega⟩
    · by_cases c : s3 < s1 <;> simp only [c, if_true, if_false] <;> exact ⟨by decide, by omega⟩
  · by_cases b : s2 < s0 <;> simp only [b, if_true, if_false]
    · by_cases c : s3 < s2 <;> simp only [c, if_true, if_false] <;> exact ⟨by decide, by omega⟩
    · by_cases c : s3 < s0 <;> simp only [c, if_true, if_false] <;> exact ⟨by decide, by omega⟩
theorem bs_deep (s0 s1 s2 s3 : Int) : (bsT s0 s1 s2 s3).2.2 = mn (mn (mn s0 s1) s2) s3 := by
  unfold bsT mn
  by_cases a : s1 < s0 <;> simp only [a, if_true, if_false]
  · by_cases b : s2 < s1 <;> simp only [b, if_true, if_false]
    · by_cases c : s3 < s2 <;> simp only [c, if_true, if_false]
    · by_cases c : s3 < s1 <;> simp only [c, if_true, if_false]
  · by_cases b : s2 < s0 <;> simp only [b, if_true, if_false]
    · by_cases c : s3 < s2 <;> simp only [c, if_true, if_false]
    · by_cases c : s3 < s0 <;> simp only [c, if_true, if_false]
theorem bs_sym (s0 s1 s2 s3 : Int) : (bsT s1 s0 s3 s2).2.2 = (bsT s0 s1 s2 s3).2.2 := by
  rw [bs_deep, bs_deep]; unfold mn; repeat' split <;> omega
theorem meet_ok {A B C D R S T U : Int} (h1 : -1000000000 ≤ A ∧ A ≤ C ∧ C ≤ 1000000000) (h2 : -1000000000 ≤ B ∧ B ≤ D ∧ D ≤ 1000000000) (h3 : -1000000000 ≤ R ∧ R ≤ T ∧ T ≤ 1000000000) (h4 : -1000000000 ≤ S ∧ S ≤ U ∧ U ≤ 1000000000)
    (a1 : A ≤ T) (a2 : B ≤ U) (a3 : R ≤ C) (a4 : S ≤ D) : (bokB A B C D && (bokB R S T U && (leB A B T U && leB R S C D))) = true := by
  unfold bokB vokB leB; simp only [Bool.and_eq_true, decide_eq_true_eq]; omega
theorem sb_ok {k g h x y : Int} (s : shB k g h = true) (p : inB 2560000 x y = true) : sbA k g h x y = x - g ∧ sbB k g h x y = y - hh k g h ∧ sbC k g h x y = x + g ∧ sbD k g h x y = y + hh k g h := by
  unfold sbA sbB sbC sbD; rw [s, p]; exact ⟨rfl, rfl, rfl, rfl⟩
/-- the near point of a box is within reach: the bounds meet -/
theorem mx_facts {a b c d x y g X Y D : Int} (ha : -10000000 ≤ a ∧ a ≤ c ∧ c ≤ 10000000) (hb : -10000000 ≤ b ∧ b ≤ d ∧ d ≤ 10000000) (hx : -2560000 ≤ x ∧ x ≤ 2560000) (hy : -2560000 ≤ y ∧ y ≤ 2560000) (ha' : -2600000 ≤ a ∧ c ≤ 2600000) (hb' : -2600000 ≤ b ∧ d ≤ 2600000) (hg : 0 ≤ g) (e : mxT a b c d x y g = ((X, Y, D), true)) :
    0 ≤ D ∧ (62500 ≤ X * X + Y * Y ∧ X * X + Y * Y ≤ 131769) ∧ (a ≤ x + g ∧ x - g ≤ c) ∧ (b ≤ y + g ∧ y - g ≤ d) := by
  unfold mxT at e
  split at e
  · rename_i h
    unfold ptB at h
    simp only [decide_eq_true_eq] at h
    have f := bs_facts (s0 := c - x) (s1 := x - a) (s2 := d - y) (s3 := y - b) (by omega) (by omega) (by omega) (by omega)
    simp only [Prod.mk.injEq, and_true] at e
    obtain ⟨rfl, rfl, rfl⟩ := e
    exact ⟨by omega, by omega, by omega, by omega⟩
  · have n1 : mn (mx x a) c ≤ c ∧ a ≤ mn (mx x a) c := by unfold mn mx; repeat' split <;> omega
    have n2 : mn (mx y b) d ≤ d ∧ b ≤ mn (mx y b) d := by unfold mn mx; repeat' split <;> omega
    obtain ⟨f1, f2, f3, f4⟩ := rd_facts (by omega) (by omega) hg e
    exact ⟨f1, f2, by omega, by omega⟩
theorem tn_facts {m : (Int × Int × Int) × Bool} : (tnT m).2 = m.2 ∧ (m.2 = true → tnT m = ((-m.1.1, -m.1.2.1, m.1.2.2), true)) := by
  unfold tnT; cases h : m.2 <;> simp
def okT (k g h x y m c d u v : Int) : Bool := shB k g h && (shB m c d && (inB 2560000 x y && inB 2560000 u v))
theorem touch_facts {k g h x y m c d u v X Y D X2 Y2 D2 : Int} {K K2 : Bool} (e : toT k g h x y m c d u v = ((X, Y, D), K)) (e2 : toT m c d u v k g h x y = ((X2, Y2, D2), K2)) :
    K2 = K ∧ (K = true → D2 = D ∧ 0 ≤ D ∧ (62500 ≤ X * X + Y * Y ∧ X * X + Y * Y ≤ 131769) ∧
      (bokB (sbA k g h x y) (sbB k g h x y) (sbC k g h x y) (sbD k g h x y) && (bokB (sbA m c d u v) (sbB m c d u v) (sbC m c d u v) (sbD m c d u v) && (leB (sbA k g h x y) (sbB k g h x y) (sbC m c d u v) (sbD m c d u v) && leB (sbA m c d u v) (sbB m c d u v) (sbC k g h x y) (sbD k g h x y)))) = true) := by
  cases hz : okT k g h x y m c d u v with
  | false =>
    have z1 : toT k g h x y m c d u v = ((0, 0, 0), false) := by unfold toT; unfold okT at hz; rw [hz]; rfl
    have z2 : toT m c d u v k g h x y = ((0, 0, 0), false) := by
      unfold toT; rw [if_neg]
      intro q
      unfold okT at hz
      simp only [Bool.and_eq_true] at q
      rw [q.1, q.2.1, q.2.2.1, q.2.2.2] at hz
      cases hz
    rw [z1] at e
    rw [z2] at e2
    simp only [Prod.mk.injEq] at e e2
    obtain ⟨_, rfl⟩ := e
    obtain ⟨_, rfl⟩ := e2
    exact ⟨rfl, fun q => by cases q⟩
  | true =>
    unfold okT at hz
    simp only [Bool.and_eq_true] at hz
    obtain ⟨s1, s2, p1, p2⟩ := hz
    have t1 : toT k g h x y m c d u v = tcT k g h x y m c d u v := by unfold toT; rw [if_pos (by simp [*])]
    have t2 : toT m c d u v k g h x y = tcT m c d u v k g h x y := by unfold toT; rw [if_pos (by simp [*])]
    rw [t1] at e
    rw [t2] at e2
    obtain ⟨eA, eB, eC, eD⟩ := sb_ok s1 p1
    obtain ⟨fA, fB, fC, fD⟩ := sb_ok s2 p2
    rw [eA, eB, eC, eD, fA, fB, fC, fD]
    obtain ⟨⟨x0, x1⟩, y0, y1⟩ := inB_of p1
    obtain ⟨⟨u0, u1⟩, v0, v1⟩ := inB_of p2
    clear t1 t2 eA eB eC eD fA fB fC fD p1 p2
    rcases shB_kinds s1 with ⟨rfl, rfl, a0, a1⟩ | ⟨rfl, a0, a1, a2, a3⟩
    · have hh1 : hh 1 g 0 = g := by unfold hh; simp
      rw [hh1]
      rcases shB_kinds s2 with ⟨rfl, rfl, b0, b1⟩ | ⟨rfl, b0, b1, b2, b3⟩
      · have hh2 : hh 1 c 0 = c := by unfold hh; simp
        rw [hh2]
        have q1 : tcT 1 g 0 x y 1 c 0 u v = rdT (u - x) (v - y) (g + c) := by unfold tcT; simp
        have q2 : tcT 1 c 0 u v 1 g 0 x y = rdT (-(u - x)) (-(v - y)) (g + c) := by unfold tcT; simp [Int.add_comm, Int.neg_sub]
        rw [q1] at e
        rw [q2] at e2
        obtain ⟨r1, r2⟩ := rd_sym (u - x) (v - y) (g + c)
        rw [e, e2] at r1 r2
        dsimp only at r1 r2
        refine ⟨r1, fun q => ?_⟩
        subst q
        obtain ⟨f1, f2, f3, f4⟩ := rd_facts (by omega) (by omega) (by omega) e
        exact ⟨r2, f1, f2, meet_ok (by omega) (by omega) (by omega) (by omega) (by omega) (by omega) (by omega) (by omega)⟩
      · have hh2 : hh 2 c d = d := by unfold hh; simp
        rw [hh2]
        have q1 : tcT 1 g 0 x y 2 c d u v = tnT (mxT (u - c) (v - d) (u + c) (v + d) x y g) := by unfold tcT; simp
        have q2 : tcT 2 c d u v 1 g 0 x y = mxT (u - c) (v - d) (u + c) (v + d) x y g := by unfold tcT; simp
        rw [q1] at e
        rw [q2] at e2
        obtain ⟨r1, r2⟩ := tn_facts (m := mxT (u - c) (v - d) (u + c) (v + d) x y g)
        rw [e, e2] at r1
        rw [e, e2] at r2
        dsimp only at r1 r2
        refine ⟨r1.symm, fun q => ?_⟩
        subst q
        subst r1
        obtain ⟨f1, f2, f3, f4⟩ := mx_facts (by omega) (by omega) (by omega) (by omega) (by omega) (by omega) (by omega) e2
        have r3 := r2 rfl
        simp only [Prod.mk.injEq, and_true] at r3
        obtain ⟨rfl, rfl, rfl⟩ := r3
        rw [Int.neg_mul_neg, Int.neg_mul_neg]
        exact ⟨rfl, f1, f2, meet_ok (by omega) (by omega) (by omega) (by omega) (by omega) (by omega) (by omega) (by omega)⟩
    · have hh1 : hh 2 g h = h := by unfold hh; simp
      rw [hh1]
      rcases shB_kinds s2 with ⟨rfl, rfl, b0, b1⟩ | ⟨rfl, b0, b1, b2, b3⟩
      · have hh2 : hh 1 c 0 = c := by unfold hh; simp
        rw [hh2]
        have q1 : tcT 2 g h x y 1 c 0 u v = mxT (x - g) (y - h) (x + g) (y + h) u v c := by unfold tcT; simp
        have q2 : tcT 1 c 0 u v 2 g h x y = tnT (mxT (x - g) (y - h) (x + g) (y + h) u v c) := by unfold tcT; simp
        rw [q1] at e
        rw [q2] at e2
        obtain ⟨r1, r2⟩ := tn_facts (m := mxT (x - g) (y - h) (x + g) (y + h) u v c)
        rw [e2, e] at r1
        rw [e2, e] at r2
        dsimp only at r1 r2
        refine ⟨r1, fun q => ?_⟩
        subst q
        obtain ⟨f1, f2, f3, f4⟩ := mx_facts (by omega) (by omega) (by omega) (by omega) (by omega) (by omega) (by omega) e
        have r3 := r2 rfl
        simp only [Prod.mk.injEq] at r3
        exact ⟨r3.1.2.2, f1, f2, meet_ok (by omega) (by omega) (by omega) (by omega) (by omega) (by omega) (by omega) (by omega)⟩
      · have hh2 : hh 2 c d = d := by unfold hh; simp
        rw [hh2]
        have q1 : tcT 2 g h x y 2 c d u v = bxT (x - g) (y - h) (x + g) (y + h) (u - c) (v - d) (u + c) (v + d) := by unfold tcT; simp
        have q2 : tcT 2 c d u v 2 g h x y = bxT (u - c) (v - d) (u + c) (v + d) (x - g) (y - h) (x + g) (y + h) := by unfold tcT; simp
        rw [q1] at e
        rw [q2] at e2
        unfold bxT at e e2
        rw [Bool.and_comm] at e2
        split at e
        · rename_i z
          rw [if_pos z] at e2
          unfold leB at z
          simp only [Bool.and_eq_true, decide_eq_true_eq] at z
          have f := bs_facts (s0 := x + g - (u - c)) (s1 := u + c - (x - g)) (s2 := y + h - (v - d)) (s3 := v + d - (y - h)) (by omega) (by omega) (by omega) (by omega)
          have f2 := bs_sym (x + g - (u - c)) (u + c - (x - g)) (y + h - (v - d)) (v + d - (y - h))
          simp only [Prod.mk.injEq] at e e2
          obtain ⟨e, rfl⟩ := e
          obtain ⟨e2, rfl⟩ := e2
          rw [e] at f f2
          rw [e2] at f2
          dsimp only at f f2
          exact ⟨rfl, fun _ => ⟨f2, f.2, by omega, meet_ok (by omega) (by omega) (by omega) (by omega) (by omega) (by omega) (by omega) (by omega)⟩⟩
        · rename_i z
          rw [if_neg z] at e2
          simp only [Prod.mk.injEq] at e e2
          obtain ⟨_, rfl⟩ := e
          obtain ⟨_, rfl⟩ := e2
          exact ⟨rfl, fun q => by cases q⟩
end Go.Proofs.Ytnkebpbpempmhaa
