/- The walk of the law of promise 11. -/
import Derived.Test.YtpfedfoiopcilaaDrawV2
import Derived.Test.YtpfedfoiopcilaaVecC
import Derived.Test.YtpfedfoiopcilaaVecU
import Derived.Test.YtpfedfoiopcilaaSVecC
import Derived.Test.YtpfedfoiopcilaaSBase
import Derived.Test.YtpfedfoiopcilaaPlainV
namespace Go.Proofs.Ytpfedfoiopcilaa
open Go.RowKit
set_option linter.unusedVariables false
set_option linter.unusedSimpArgs false
theorem vl_root {x y : Int} (h : vl x y < 1000000000) : vl x y * vl x y ≤ x * x + y * y ∧ x * x + y * y < (vl x y + 1) * (vl x y + 1) := by
  have h0 : 0 ≤ x * x + y * y := by have := sq_nonneg x; have := sq_nonneg y; omega
  obtain ⟨a, b, c⟩ := rootZ_is h0
  have e : vl x y = rootZ (x * x + y * y) := by unfold vl clampZ at *; repeat' split at h <;> (try omega); repeat' split <;> omega
  rw [e]
  exact ⟨b, c⟩
theorem vok_bd11 {x y : Int} (h : vokB x y = true) : fc x = x ∧ fc y = y := by
  unfold vokB at h; simp only [decide_eq_true_eq] at h; exact ⟨fc_id (by omega) (by omega), fc_id (by omega) (by omega)⟩
theorem dn_negw11 {y : Int} (h : Dn y) : IntKind.i64.wrap (-y) = -y := by unfold Dn at h; exact i64w (by omega)
theorem vl_zero : vl 0 0 = 0 := by
  have h : rootZ (0 * 0 + 0 * 0) = 0 := rootZ_of ⟨by omega, by omega, by omega⟩
  unfold vl
  rw [h]
  rfl
theorem ux_zero : ux 0 0 = 0 := by unfold ux; rw [if_pos vl_zero]
theorem uy_zero : uy 0 0 = 256 := by unfold uy; rw [if_pos vl_zero]
theorem vl_neg (x y : Int) : vl (-x) (-y) = vl x y := by unfold vl; rw [Int.neg_mul_neg, Int.neg_mul_neg]
theorem ux_neg {x y : Int} (h : vl x y ≠ 0) : ux (-x) (-y) = -ux x y := by
  unfold ux; rw [vl_neg, if_neg h, if_neg h, Int.neg_mul, Int.neg_tdiv]
theorem uy_neg {x y : Int} (h : vl x y ≠ 0) : uy (-x) (-y) = -uy x y := by
  unfold uy; rw [vl_neg, if_neg h, if_neg h, Int.neg_mul, Int.neg_tdiv]
/-- What a division cut towards 0 leaves. -/
theorem cut_abs {z n : Int} (hn : 0 < n) : ∃ p, 0 ≤ p ∧ (z.tdiv n = p ∨ z.tdiv n = -p) ∧ p * n ≤ (z.natAbs : Int) ∧ (z.natAbs : Int) < (p + 1) * n ∧ 0 ≤ z * z.tdiv n := by
  rcases Int.le_total 0 z with h | h
  · have e : z.tdiv n = z / n := Int.tdiv_eq_ediv_of_nonneg h
    have q0 : 0 ≤ z / n := Int.ediv_nonneg h (by omega)
    have q1 := Int.ediv_mul_le z (show n ≠ 0 by omega)
    have q2 := Int.lt_ediv_add_one_mul_self z hn
    refine ⟨z / n, q0, .inl e, by omega, by omega, ?_⟩
    rw [e]; exact Int.mul_nonneg h q0
  · have e : z.tdiv n = -((-z) / n) := by rw [← Int.tdiv_eq_ediv_of_nonneg (show 0 ≤ -z by omega), Int.neg_tdiv, Int.neg_neg]
    have q0 : 0 ≤ (-z) / n := Int.ediv_nonneg (by omega) (by omega)
    have q1 := Int.ediv_mul_le (-z) (show n ≠ 0 by omega)
    have q2 := Int.lt_ediv_add_one_mul_self (-z) hn
    refine ⟨(-z) / n, q0, .inr e, by omega, by omega, ?_⟩
    rw [e, Int.mul_neg, ← Int.neg_mul]; exact Int.mul_nonneg (by omega) q0
theorem sq_abs (z : Int) : (z.natAbs : Int) * (z.natAbs : Int) = z * z := Int.natAbs_mul_self' z
theorem mmmc (a b c d : Int) : a * b * (c * d) = a * c * (b * d) := by rw [Int.mul_assoc, Int.mul_assoc, Int.mul_left_comm b c d]
theorem mul_cancel_lt {a b n : Int} (hn : 0 < n) (h : a * n < b * n) : a < b := Int.lt_of_mul_lt_mul_right h (by omega)

/-- The whole of promise 11's arithmetic. -/
theorem unit_ok {x y : Int} (h0 : 256 ≤ vl x y) (h1 : vl x y < 1000000000) :
    64009 ≤ ux x y * ux x y + uy x y * uy x y ∧ ux x y * ux x y + uy x y * uy x y ≤ 66564 ∧ 0 ≤ x * ux x y ∧ 0 ≤ y * uy x y ∧ (-1000 ≤ ux x y ∧ ux x y ≤ 1000) ∧ (-1000 ≤ uy x y ∧ uy x y ≤ 1000) := by
  obtain ⟨r1, r2⟩ := vl_root h1
  generalize hn : vl x y = n at *
  have hne : vl x y ≠ 0 := by omega
  have ex : ux x y = (x * 256).tdiv n := by unfold ux; rw [if_neg hne, hn]
  have ey : uy x y = (y * 256).tdiv n := by unfold uy; rw [if_neg hne, hn]
  obtain ⟨p, p0, pe, p1, p2, p3⟩ := cut_abs (z := x * 256) (n := n) (by omega)
  obtain ⟨q, q0, qe, q1, q2, q3⟩ := cut_abs (z := y * 256) (n := n) (by omega)
  rw [← ex] at pe p3
  rw [← ey] at qe q3
  have sx : ux x y * ux x y = p * p := by
    rcases pe with e | e
    · rw [e]
    · rw [e]; exact Int.neg_mul_neg p p
  have sy : uy x y * uy x y = q * q := by
    rcases qe with e | e
    · rw [e]
    · rw [e]; exact Int.neg_mul_neg q q
  have X : ((x * 256).natAbs : Int) * ((x * 256).natAbs : Int) = 65536 * (x * x) := by rw [sq_abs, mmmc]; omega
  have Y : ((y * 256).natAbs : Int) * ((y * 256).natAbs : Int) = 65536 * (y * y) := by rw [sq_abs, mmmc]; omega
  generalize ((x * 256).natAbs : Int) = X0 at *
  generalize ((y * 256).natAbs : Int) = Y0 at *
  have pn0 : 0 ≤ p * n := Int.mul_nonneg p0 (by omega)
  have qn0 : 0 ≤ q * n := Int.mul_nonneg q0 (by omega)
  have a1 := sq_mono pn0 p1
  have a2 := sq_mono qn0 q1
  have b1 := sq_mono (show 0 ≤ X0 by omega) (show X0 ≤ (p + 1) * n by omega)
  have b2 := sq_mono (show 0 ≤ Y0 by omega) (show Y0 ≤ (q + 1) * n by omega)
  have c1 : p * n * (p * n) = p * p * (n * n) := by simp only [Int.mul_assoc, Int.mul_comm, Int.mul_left_comm]
  have c2 : q * n * (q * n) = q * q * (n * n) := by simp only [Int.mul_assoc, Int.mul_comm, Int.mul_left_comm]
  have d1 : (p + 1) * n * ((p + 1) * n) = (p + 1) * (p + 1) * (n * n) := by simp only [Int.mul_assoc, Int.mul_comm, Int.mul_left_comm]
  have d2 : (q + 1) * n * ((q + 1) * n) = (q + 1) * (q + 1) * (n * n) := by simp only [Int.mul_assoc, Int.mul_comm, Int.mul_left_comm]
  have nn : 65536 ≤ n * n := by have := sq_mono (show (0 : Int) ≤ 256 by omega) h0; omega
  have up1 := sq_mono (show 0 ≤ 256 * (n + 1) by omega) (show 256 * (n + 1) ≤ 257 * n by omega)
  have up2 : 256 * (n + 1) * (256 * (n + 1)) = 65536 * ((n + 1) * (n + 1)) := by rw [mmmc]; omega
  have up3 : 257 * n * (257 * n) = 66049 * (n * n) := by rw [mmmc]; omega
  have e1 : (p * p + q * q) * (n * n) = p * p * (n * n) + q * q * (n * n) := Int.add_mul _ _ _
  have e2 : ((p + 1) * (p + 1) + (q + 1) * (q + 1)) * (n * n) = (p + 1) * (p + 1) * (n * n) + (q + 1) * (q + 1) * (n * n) := Int.add_mul _ _ _
  have S1 : p * p + q * q < 66049 + 1 := mul_cancel_lt (n := n * n) (by omega) (by rw [Int.add_mul 66049 1 (n * n)]; omega)
  have S2 : 65536 - 1 < (p + 1) * (p + 1) + (q + 1) * (q + 1) := mul_cancel_lt (n := n * n) (by omega) (by rw [Int.sub_mul]; omega)
  have S3 : (p + 1) * (p + 1) + (q + 1) * (q + 1) = p * p + q * q + 2 * (p + q) + 2 := by simp only [Int.mul_add, Int.add_mul, Int.mul_one, Int.one_mul]; omega
  have D : 0 ≤ (p - q) * (p - q) := sq_nonneg _
  have D2 : (p + q) * (p + q) = 2 * (p * p + q * q) - (p - q) * (p - q) := by
    simp only [Int.mul_add, Int.add_mul, Int.mul_sub, Int.sub_mul, Int.mul_comm q p]; omega
  have D3 : p + q ≤ 400 := by
    rcases Int.lt_or_le 400 (p + q) with h | h
    · have := sq_mono (show (0 : Int) ≤ 400 by omega) (show 400 ≤ p + q by omega); omega
    · exact h
  have bx : -1000 ≤ ux x y ∧ ux x y ≤ 1000 := by rcases pe with e | e <;> omega
  have by' : -1000 ≤ uy x y ∧ uy x y ≤ 1000 := by rcases qe with e | e <;> omega
  refine ⟨by omega, by omega, ?_, ?_, bx, by'⟩
  · have t : x * 256 * ux x y = 256 * (x * ux x y) := by simp only [Int.mul_assoc, Int.mul_comm, Int.mul_left_comm]
    omega
  · have t : y * 256 * uy x y = 256 * (y * uy x y) := by simp only [Int.mul_assoc, Int.mul_comm, Int.mul_left_comm]
    omega

set_option maxHeartbeats 8000000 in
theorem fnVecUnit_walk (a : Option Addr) (len cap : Nat) (w : World) (hb : Bytes w a len cap) :
    Calls Try.prog 8 #[.slice a len cap] w fun e w' => e = .returned (.bool true) ∧ Below w.heap.size w w' := by
  have hset := cset_map
  go_enter Try.func8, Try.ntmps8
  go_wp2_with (first
    | (go_at_call 41; refine (drawVecUnit_any _ _ _ _ hb).mono ?_; rintro e w1 ⟨x, y, rfl, hd, hb1⟩; obtain ⟨hc1, hf1⟩ := bcell hb1; have hl1 := blt hb1; have hz1 := hb1.size; (try simp only [World.size_drew, World.size_alloc, World.size_setCell] at hc1 hf1 hl1 hz1); (try have hq1x0 : w.heap.size < w1.heap.size := (by omega)); have hz1 : vl 0 0 = 0 := vl_zero; have hz2 : ux 0 0 = 0 := ux_zero; have hz3 : uy 0 0 = 256 := uy_zero; have h00 : fc 0 = 0 := rfl; have en1 := dn_negw11 hd.1; have en2 := dn_negw11 hd.2)
    | (go_at_call 42; refine (vecUnit_any _ _ _).mono ?_; rintro e w2 ⟨rfl, hb2⟩; obtain ⟨hc2, hf2⟩ := bcell hb2; have hl2 := blt hb2; have hz2 := hb2.size; (try simp only [World.size_drew, World.size_alloc, World.size_setCell] at hc2 hf2 hl2 hz2); (try have hq2x0 : w1.heap.size < w2.heap.size := (by omega)); (try have hq2x1 : w1.heap.size + 1 < w2.heap.size := (by omega))))
  · go_ret
    exact ⟨rfl, Below.refl _ _⟩
  go_region_held3 (fun w' => w'.cell? ⟨w1.heap.size, 0, none⟩ = some (.int .i64 x) ∧ w'.cell? ⟨w1.heap.size, 1, none⟩ = some (.int .i64 y) ∧ w'.cell? ⟨w2.heap.size, 0, none⟩ = some (.int .i64 (ux (fc x) (fc y))) ∧ w'.cell? ⟨w2.heap.size, 1, none⟩ = some (.int .i64 (uy (fc x) (fc y)))) (first | trivial | (go_simp; done) | (go_keep; done)) (first
    | (go_at_call 43; refine (sVecUnit_any _ _ _).mono ?_; rintro e w3 ⟨rfl, hb3⟩; obtain ⟨hc3, hf3⟩ := bcell hb3; have hl3 := blt hb3; have hz3 := hb3.size; (try simp only [World.size_drew, World.size_alloc, World.size_setCell] at hc3 hf3 hl3 hz3); (try have hq3x0 : w1.heap.size < w3.heap.size := (by omega)); (try have hq3x1 : w1.heap.size + 1 < w3.heap.size := (by omega)); (try have hr3x0 : w2.heap.size < w3.heap.size := (by omega)); (try have hs3x0 : ¬ w2.heap.size = w3.heap.size := (by omega)); (try have ht3x0 : ¬ w3.heap.size = w2.heap.size := (by omega)))
    | (have _ := hb3; go_at_call 42; refine (vecUnit_any _ _ _).mono ?_; rintro e w4 ⟨rfl, hb4⟩; obtain ⟨hc4, hf4⟩ := bcell hb4; have hl4 := blt hb4; have hz4 := hb4.size; (try simp only [World.size_drew, World.size_alloc, World.size_setCell] at hc4 hf4 hl4 hz4); (try have hq4x0 : w1.heap.size < w4.heap.size := (by omega)); (try have hq4x1 : w1.heap.size + 1 < w4.heap.size := (by omega)); (try have hr4x0 : w2.heap.size < w4.heap.size := (by omega)); (try have hs4x0 : ¬ w2.heap.size = w4.heap.size := (by omega)); (try have ht4x0 : ¬ w4.heap.size = w2.heap.size := (by omega))))
  go_wp2_with (first
    | (go_at_call 37; refine (vecLen_any _ _ _).mono ?_; rintro e w5 ⟨rfl, hb5⟩; obtain ⟨hc5, hf5⟩ := bcell hb5; have hl5 := blt hb5; have hz5 := hb5.size; (try simp only [World.size_drew, World.size_alloc, World.size_setCell] at hc5 hf5 hl5 hz5); (try have hq5x0 : w1.heap.size < w5.heap.size := (by omega)); (try have hq5x1 : w1.heap.size + 1 < w5.heap.size := (by omega)); (try have hr5x0 : w2.heap.size < w5.heap.size := (by omega)); (try have hs5x0 : ¬ w2.heap.size = w5.heap.size := (by omega)); (try have ht5x0 : ¬ w5.heap.size = w2.heap.size := (by omega))))
  cases h1 : vokB x y with
  | false =>
    go_wp2_with (first
      | (go_at_call 25; refine (sVecOk_n _ _ _ (by assumption)).mono ?_; rintro e w6 ⟨rfl, hb6⟩; obtain ⟨hc6, hf6⟩ := bcell hb6; have hl6 := blt hb6; have hz6 := hb6.size; (try simp only [World.size_drew, World.size_alloc, World.size_setCell] at hc6 hf6 hl6 hz6); (try have hq6x0 : w1.heap.size < w6.heap.size := (by omega)); (try have hq6x1 : w1.heap.size + 1 < w6.heap.size := (by omega)); (try have hr6x0 : w2.heap.size < w6.heap.size := (by omega)); (try have hs6x0 : ¬ w2.heap.size = w6.heap.size := (by omega)); (try have ht6x0 : ¬ w6.heap.size = w2.heap.size := (by omega))))
    all_goals
      go_ret
      exact ⟨rfl, by repeat (first | exact Below.refl _ _ | refine Below.setCell ?_ (by first | omega | (simp; done) | (simp; omega)) _ | refine Below.alloc ?_ (by first | omega | (simp; done) | (simp; omega)) _ | refine Below.drew ?_ | refine belowDrewN ?_ _ | refine Below.trans ?_ (Below.mono (by assumption) (by first | (simp; done) | (simp; omega) | omega)))⟩
  | true =>
    obtain ⟨fx, fy⟩ := vok_bd11 h1
    by_cases hx : x = 0
    · subst hx
      by_cases hy : y = 0
      · subst hy
        go_wp2_with (first
          | (go_at_call 25; refine (sVecOk_t _ _ _ (by assumption)).mono ?_; rintro e w6 ⟨rfl, hb6⟩; obtain ⟨hc6, hf6⟩ := bcell hb6; have hl6 := blt hb6; have hz6 := hb6.size; (try simp only [World.size_drew, World.size_alloc, World.size_setCell] at hc6 hf6 hl6 hz6); (try have hq6x0 : w1.heap.size < w6.heap.size := (by omega)); (try have hq6x1 : w1.heap.size + 1 < w6.heap.size := (by omega)); (try have hr6x0 : w2.heap.size < w6.heap.size := (by omega)); (try have hs6x0 : ¬ w2.heap.size = w6.heap.size := (by omega)); (try have ht6x0 : ¬ w6.heap.size = w2.heap.size := (by omega))))
        all_goals
          go_ret
          exact ⟨rfl, by repeat (first | exact Below.refl _ _ | refine Below.setCell ?_ (by first | omega | (simp; done) | (simp; omega)) _ | refine Below.alloc ?_ (by first | omega | (simp; done) | (simp; omega)) _ | refine Below.drew ?_ | refine belowDrewN ?_ _ | refine Below.trans ?_ (Below.mono (by assumption) (by first | (simp; done) | (simp; omega) | omega)))⟩
      · have _ := hy
        have a1 := vl_bd 0 y
        by_cases hL : 256 ≤ vl 0 y ∧ vl 0 y < 1000000000
        · obtain ⟨hL2, hL1⟩ := hL
          have hne : vl 0 y ≠ 0 := (by omega)
          obtain ⟨s1, s2, s3, s4, s5, s6⟩ := unit_ok (x := 0) (y := y) hL2 hL1
          have hu1 : ux 0 (-y) = -ux 0 y := by have := ux_neg hne; simpa using this
          have hu2 : uy 0 (-y) = -uy 0 y := by have := uy_neg hne; simpa using this
          have bx : -1000000000 ≤ (0 : Int) ∧ (0 : Int) ≤ 1000000000 := (by omega)
          have by' := fc_bd y
          rw [fy] at by'
          have fny : fc (-y) = -y := by rw [fc_neg, fy]
          have p1 := mul_bd (a := (ux 0 y)) (b := (ux 0 y)) (A := 1000) (B := 1000) s5 s5
          have p2 := mul_bd (a := (uy 0 y)) (b := (uy 0 y)) (A := 1000) (B := 1000) s6 s6
          have p3 := mul_bd (a := 0) (b := (ux 0 y)) (A := 1000000000) (B := 1000) bx s5
          have p4 := mul_bd (a := y) (b := (uy 0 y)) (A := 1000000000) (B := 1000) by' s6
          have e1 : IntKind.i64.wrap ((ux 0 y) * (ux 0 y)) = (ux 0 y) * (ux 0 y) := i64w (by omega)
          have e2 : IntKind.i64.wrap ((uy 0 y) * (uy 0 y)) = (uy 0 y) * (uy 0 y) := i64w (by omega)
          have e3 : IntKind.i64.wrap ((ux 0 y) * (ux 0 y) + (uy 0 y) * (uy 0 y)) = (ux 0 y) * (ux 0 y) + (uy 0 y) * (uy 0 y) := i64w (by omega)
          have e4 : IntKind.i64.wrap (0 * (ux 0 y)) = 0 * (ux 0 y) := i64w (by omega)
          have e5 : IntKind.i64.wrap (y * (uy 0 y)) = y * (uy 0 y) := i64w (by omega)
          have e6 : IntKind.i64.wrap (-(ux 0 y)) = -(ux 0 y) := i64w (by omega)
          have e7 : IntKind.i64.wrap (-(uy 0 y)) = -(uy 0 y) := i64w (by omega)
          go_wp2_with (first
            | (go_at_call 25; refine (sVecOk_t _ _ _ (by assumption)).mono ?_; rintro e w6 ⟨rfl, hb6⟩; obtain ⟨hc6, hf6⟩ := bcell hb6; have hl6 := blt hb6; have hz6 := hb6.size; (try simp only [World.size_drew, World.size_alloc, World.size_setCell] at hc6 hf6 hl6 hz6); (try have hq6x0 : w1.heap.size < w6.heap.size := (by omega)); (try have hq6x1 : w1.heap.size + 1 < w6.heap.size := (by omega)); (try have hr6x0 : w2.heap.size < w6.heap.size := (by omega)); (try have hs6x0 : ¬ w2.heap.size = w6.heap.size := (by omega)); (try have ht6x0 : ¬ w6.heap.size = w2.heap.size := (by omega)))
            | (have _ := hb6; go_at_call 42; refine (vecUnit_any _ _ _).mono ?_; rintro e w7 ⟨rfl, hb7⟩; obtain ⟨hc7, hf7⟩ := bcell hb7; have hl7 := blt hb7; have hz7 := hb7.size; (try simp only [World.size_drew, World.size_alloc, World.size_setCell] at hc7 hf7 hl7 hz7); (try have hq7x0 : w1.heap.size < w7.heap.size := (by omega)); (try have hq7x1 : w1.heap.size + 1 < w7.heap.size := (by omega)); (try have hr7x0 : w2.heap.size < w7.heap.size := (by omega)); (try have hs7x0 : ¬ w2.heap.size = w7.heap.size := (by omega)); (try have ht7x0 : ¬ w7.heap.size = w2.heap.size := (by omega))))
          all_goals
            first
              | (exfalso; omega)
              | (go_ret; exact ⟨ret_bool (by first | rfl | (simp [*]; done) | (simp [*]; omega)), by repeat (first | exact Below.refl _ _ | refine Below.setCell ?_ (by first | omega | (simp; done) | (simp; omega)) _ | refine Below.alloc ?_ (by first | omega | (simp; done) | (simp; omega)) _ | refine Below.drew ?_ | refine belowDrewN ?_ _ | refine Below.trans ?_ (Below.mono (by assumption) (by first | (simp; done) | (simp; omega) | omega)))⟩)
        · go_wp2_with (first
            | (go_at_call 25; refine (sVecOk_t _ _ _ (by assumption)).mono ?_; rintro e w6 ⟨rfl, hb6⟩; obtain ⟨hc6, hf6⟩ := bcell hb6; have hl6 := blt hb6; have hz6 := hb6.size; (try simp only [World.size_drew, World.size_alloc, World.size_setCell] at hc6 hf6 hl6 hz6); (try have hq6x0 : w1.heap.size < w6.heap.size := (by omega)); (try have hq6x1 : w1.heap.size + 1 < w6.heap.size := (by omega)); (try have hr6x0 : w2.heap.size < w6.heap.size := (by omega)); (try have hs6x0 : ¬ w2.heap.size = w6.heap.size := (by omega)); (try have ht6x0 : ¬ w6.heap.size = w2.heap.size := (by omega))))
          all_goals
            first
              | (exfalso; omega)
              | (go_ret; exact ⟨rfl, by repeat (first | exact Below.refl _ _ | refine Below.setCell ?_ (by first | omega | (simp; done) | (simp; omega)) _ | refine Below.alloc ?_ (by first | omega | (simp; done) | (simp; omega)) _ | refine Below.drew ?_ | refine belowDrewN ?_ _ | refine Below.trans ?_ (Below.mono (by assumption) (by first | (simp; done) | (simp; omega) | omega)))⟩)
    · have _ := hx
      have a1 := vl_bd x y
      by_cases hL : 256 ≤ vl x y ∧ vl x y < 1000000000
      · obtain ⟨hL2, hL1⟩ := hL
        have hne : vl x y ≠ 0 := (by omega)
        obtain ⟨s1, s2, s3, s4, s5, s6⟩ := unit_ok (x := x) (y := y) hL2 hL1
        have hu1 := ux_neg hne
        have hu2 := uy_neg hne
        have bx := fc_bd x
        rw [fx] at bx
        have fnx : fc (-x) = -x := by rw [fc_neg, fx]
        have by' := fc_bd y
        rw [fy] at by'
        have fny : fc (-y) = -y := by rw [fc_neg, fy]
        have p1 := mul_bd (a := (ux x y)) (b := (ux x y)) (A := 1000) (B := 1000) s5 s5
        have p2 := mul_bd (a := (uy x y)) (b := (uy x y)) (A := 1000) (B := 1000) s6 s6
        have p3 := mul_bd (a := x) (b := (ux x y)) (A := 1000000000) (B := 1000) bx s5
        have p4 := mul_bd (a := y) (b := (uy x y)) (A := 1000000000) (B := 1000) by' s6
        have e1 : IntKind.i64.wrap ((ux x y) * (ux x y)) = (ux x y) * (ux x y) := i64w (by omega)
        have e2 : IntKind.i64.wrap ((uy x y) * (uy x y)) = (uy x y) * (uy x y) := i64w (by omega)
        have e3 : IntKind.i64.wrap ((ux x y) * (ux x y) + (uy x y) * (uy x y)) = (ux x y) * (ux x y) + (uy x y) * (uy x y) := i64w (by omega)
        have e4 : IntKind.i64.wrap (x * (ux x y)) = x * (ux x y) := i64w (by omega)
        have e5 : IntKind.i64.wrap (y * (uy x y)) = y * (uy x y) := i64w (by omega)
        have e6 : IntKind.i64.wrap (-(ux x y)) = -(ux x y) := i64w (by omega)
        have e7 : IntKind.i64.wrap (-(uy x y)) = -(uy x y) := i64w (by omega)
        go_wp2_with (first
          | (go_at_call 25; refine (sVecOk_t _ _ _ (by assumption)).mono ?_; rintro e w6 ⟨rfl, hb6⟩; obtain ⟨hc6, hf6⟩ := bcell hb6; have hl6 := blt hb6; have hz6 := hb6.size; (try simp only [World.size_drew, World.size_alloc, World.size_setCell] at hc6 hf6 hl6 hz6); (try have hq6x0 : w1.heap.size < w6.heap.size := (by omega)); (try have hq6x1 : w1.heap.size + 1 < w6.heap.size := (by omega)); (try have hr6x0 : w2.heap.size < w6.heap.size := (by omega)); (try have hs6x0 : ¬ w2.heap.size = w6.heap.size := (by omega)); (try have ht6x0 : ¬ w6.heap.size = w2.heap.size := (by omega)))
          | (have _ := hb6; go_at_call 42; refine (vecUnit_any _ _ _).mono ?_; rintro e w7 ⟨rfl, hb7⟩; obtain ⟨hc7, hf7⟩ := bcell hb7; have hl7 := blt hb7; have hz7 := hb7.size; (try simp only [World.size_drew, World.size_alloc, World.size_setCell] at hc7 hf7 hl7 hz7); (try have hq7x0 : w1.heap.size < w7.heap.size := (by omega)); (try have hq7x1 : w1.heap.size + 1 < w7.heap.size := (by omega)); (try have hr7x0 : w2.heap.size < w7.heap.size := (by omega)); (try have hs7x0 : ¬ w2.heap.size = w7.heap.size := (by omega)); (try have ht7x0 : ¬ w7.heap.size = w2.heap.size := (by omega))))
        all_goals
          first
            | (exfalso; omega)
            | (go_ret; exact ⟨ret_bool (by first | rfl | (simp [*]; done) | (simp [*]; omega)), by repeat (first | exact Below.refl _ _ | refine Below.setCell ?_ (by first | omega | (simp; done) | (simp; omega)) _ | refine Below.alloc ?_ (by first | omega | (simp; done) | (simp; omega)) _ | refine Below.drew ?_ | refine belowDrewN ?_ _ | refine Below.trans ?_ (Below.mono (by assumption) (by first | (simp; done) | (simp; omega) | omega)))⟩)
      · go_wp2_with (first
          | (go_at_call 25; refine (sVecOk_t _ _ _ (by assumption)).mono ?_; rintro e w6 ⟨rfl, hb6⟩; obtain ⟨hc6, hf6⟩ := bcell hb6; have hl6 := blt hb6; have hz6 := hb6.size; (try simp only [World.size_drew, World.size_alloc, World.size_setCell] at hc6 hf6 hl6 hz6); (try have hq6x0 : w1.heap.size < w6.heap.size := (by omega)); (try have hq6x1 : w1.heap.size + 1 < w6.heap.size := (by omega)); (try have hr6x0 : w2.heap.size < w6.heap.size := (by omega)); (try have hs6x0 : ¬ w2.heap.size = w6.heap.size := (by omega)); (try have ht6x0 : ¬ w6.heap.size = w2.heap.size := (by omega))))
        all_goals
          first
            | (exfalso; omega)
            | (go_ret; exact ⟨rfl, by repeat (first | exact Below.refl _ _ | refine Below.setCell ?_ (by first | omega | (simp; done) | (simp; omega)) _ | refine Below.alloc ?_ (by first | omega | (simp; done) | (simp; omega)) _ | refine Below.drew ?_ | refine belowDrewN ?_ _ | refine Below.trans ?_ (Below.mono (by assumption) (by first | (simp; done) | (simp; omega) | omega)))⟩)
end Go.Proofs.Ytpfedfoiopcilaa
