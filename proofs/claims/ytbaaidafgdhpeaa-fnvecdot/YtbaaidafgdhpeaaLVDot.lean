/- The walk of the law of promise 9. -/
import Derived.Test.YtbaaidafgdhpeaaDrawV2
import Derived.Test.YtbaaidafgdhpeaaVecC
import Derived.Test.YtbaaidafgdhpeaaSVecC
import Derived.Test.YtbaaidafgdhpeaaSBase
import Derived.Test.YtbaaidafgdhpeaaPlainV
namespace Go.Proofs.Ytbaaidafgdhpeaa
open Go.RowKit
set_option linter.unusedVariables false
set_option linter.unusedSimpArgs false
theorem vl_root {x y : Int} (h : vl x y < 1000000000) : vl x y * vl x y ≤ x * x + y * y ∧ x * x + y * y < (vl x y + 1) * (vl x y + 1) := by
  have h0 : 0 ≤ x * x + y * y := by have := sq_nonneg x; have := sq_nonneg y; omega
  obtain ⟨a, b, c⟩ := rootZ_is h0
  have e : vl x y = rootZ (x * x + y * y) := by unfold vl clampZ at *; repeat' split at h <;> (try omega); repeat' split <;> omega
  rw [e]
  exact ⟨b, c⟩
theorem vok_bd9 {x y : Int} (h : vokB x y = true) : fc x = x ∧ fc y = y := by
  unfold vokB at h; simp only [decide_eq_true_eq] at h; exact ⟨fc_id (by omega) (by omega), fc_id (by omega) (by omega)⟩
theorem vdot_comm (x y u v : Int) : vdot u v x y = vdot x y u v := by unfold vdot; rw [Int.mul_comm, Int.mul_comm (fc v)]
theorem vdot_self (x y : Int) : 0 ≤ vdot x y x y := by
  unfold vdot
  have h1 := sq_nonneg (fc x)
  have h2 := sq_nonneg (fc y)
  have h3 : 0 ≤ (fc x * fc x + fc y * fc y).tdiv 256 := Int.tdiv_nonneg (by omega) (by omega)
  rcases fc_cases ((fc x * fc x + fc y * fc y).tdiv 256) with ⟨k1, k2⟩ | ⟨k1, k2⟩ | ⟨k1, k2, k3⟩ <;> omega
theorem vdot_side (x y : Int) : vdot x y (-y) x = 0 := by
  unfold vdot
  rw [fc_neg, Int.mul_neg, Int.mul_comm (fc y) (fc x), Int.add_left_neg]
  rfl
theorem dn_negw {y : Int} (h : Dn y) : IntKind.i64.wrap (-y) = -y := by unfold Dn at h; exact i64w (by omega)
theorem tdiv_abs {D P : Int} (h : -P ≤ D ∧ D ≤ P) : -(P.tdiv 256) ≤ D.tdiv 256 ∧ D.tdiv 256 ≤ P.tdiv 256 := by
  have e1 : P.tdiv 256 = P / 256 := Int.tdiv_eq_ediv_of_nonneg (by omega)
  rw [e1]
  rcases Int.le_total 0 D with k | k
  · rw [Int.tdiv_eq_ediv_of_nonneg k]; omega
  · have e2 : D.tdiv 256 = -((-D) / 256) := by rw [← Int.tdiv_eq_ediv_of_nonneg (show 0 ≤ -D by omega), Int.neg_tdiv, Int.neg_neg]
    rw [e2]; omega
theorem fc_abs {z P : Int} (h : -P ≤ z ∧ z ≤ P) : -P ≤ fc z ∧ fc z ≤ P := by
  rcases fc_cases z with ⟨k1, k2⟩ | ⟨k1, k2⟩ | ⟨k1, k2, k3⟩ <;> omega
def absD (n : Int) : Int := if n < 0 then -n else n
theorem pqAbsD_any (n : Int) (w : World) (h : -4000000000000000000 ≤ n ∧ n ≤ 4000000000000000000) :
    Calls Try.prog 17 #[.int .i64 n] w fun e w' => e = .returned (.int .i64 (absD n)) ∧ w' = w := by
  go_enter Try.func17, Try.ntmps17
  go_wp2
  all_goals
    go_ret
    refine ⟨?_, rfl⟩
    unfold absD
    split <;> first | rfl | (exfalso; omega) | (exfalso; simp at *; omega)
theorem vdot_le {x y u v : Int} (fx : fc x = x) (fy : fc y = y) (fu : fc u = u) (fv : fc v = v) (h1 : vl x y < 1000000000) (h2 : vl u v < 1000000000) :
    absD (vdot x y u v) ≤ ((vl x y + 1) * (vl u v + 1)).tdiv 256 + 1 := by
  have a1 := vl_bd x y
  have a2 := vl_bd u v
  have k := cs_abs (x := x) (y := y) (u := u) (v := v) (A := vl x y + 1) (B := vl u v + 1) (by omega) (by omega) (vl_root h1).2 (vl_root h2).2
  have t := fc_abs (tdiv_abs (D := x * u + y * v) (P := (vl x y + 1) * (vl u v + 1)) (by omega))
  unfold vdot
  rw [fx, fy, fu, fv]
  unfold absD
  split <;> omega

theorem vdot_bd (x y u v : Int) : -1000000000 ≤ vdot x y u v ∧ vdot x y u v ≤ 1000000000 := fc_bd _

set_option maxHeartbeats 8000000 in
theorem fnVecDot_walk (a : Option Addr) (len cap : Nat) (w : World) (hb : Bytes w a len cap) :
    Calls Try.prog 3 #[.slice a len cap] w fun e w' => e = .returned (.bool true) ∧ Below w.heap.size w w' := by
  have hset := cset_map
  go_enter Try.func3, Try.ntmps3
  go_wp2_with (first
    | (go_at_call 12; refine (drawVecDot_any _ _ _ _ hb).mono ?_; rintro e w1 ⟨x, y, u, v, rfl, hd, hb1⟩; obtain ⟨hc1, hf1⟩ := bcell hb1; have hl1 := blt hb1; have hz1 := hb1.size; (try simp only [World.size_drew, World.size_alloc, World.size_setCell] at hc1 hf1 hl1 hz1); (try have hq1x0 : w.heap.size < w1.heap.size := (by omega)); have hn1 := vdot_comm x y u v; have hn0 := vdot_self x y; have hn9 : ¬ vdot x y x y < 0 := (by omega); have ea1 := dn_negw hd.2.1; have hside := vdot_side x y)
    | (go_at_call 13; refine (vecDot_any _ _ _ _ _).mono ?_; rintro e w2 ⟨rfl, hb2⟩; obtain ⟨hc2, hf2⟩ := bcell hb2; have hl2 := blt hb2; have hz2 := hb2.size; (try simp only [World.size_drew, World.size_alloc, World.size_setCell] at hc2 hf2 hl2 hz2); (try have hq2x0 : w1.heap.size < w2.heap.size := (by omega)); (try have hq2x1 : w1.heap.size + 1 < w2.heap.size := (by omega))))
  · go_ret
    exact ⟨rfl, Below.refl _ _⟩
  cases h1 : vokB x y with
  | false =>
    go_wp2_with (first
      | (go_at_call 14; refine (sVecDot_any _ _ _ _ _).mono ?_; rintro e w4 ⟨rfl, hb4⟩; obtain ⟨hc4, hf4⟩ := bcell hb4; have hl4 := blt hb4; have hz4 := hb4.size; (try simp only [World.size_drew, World.size_alloc, World.size_setCell] at hc4 hf4 hl4 hz4); (try have hq4x0 : w1.heap.size < w4.heap.size := (by omega)); (try have hq4x1 : w1.heap.size + 1 < w4.heap.size := (by omega)))
      | (go_at_call 13; refine (vecDot_any _ _ _ _ _).mono ?_; rintro e w5 ⟨rfl, hb5⟩; obtain ⟨hc5, hf5⟩ := bcell hb5; have hl5 := blt hb5; have hz5 := hb5.size; (try simp only [World.size_drew, World.size_alloc, World.size_setCell] at hc5 hf5 hl5 hz5); (try have hq5x0 : w1.heap.size < w5.heap.size := (by omega)); (try have hq5x1 : w1.heap.size + 1 < w5.heap.size := (by omega)))
      | (go_at_call 15; refine (sVecOk_n _ _ _ (by assumption)).mono ?_; rintro e w6 ⟨rfl, hb6⟩; obtain ⟨hc6, hf6⟩ := bcell hb6; have hl6 := blt hb6; have hz6 := hb6.size; (try simp only [World.size_drew, World.size_alloc, World.size_setCell] at hc6 hf6 hl6 hz6); (try have hq6x0 : w1.heap.size < w6.heap.size := (by omega)); (try have hq6x1 : w1.heap.size + 1 < w6.heap.size := (by omega)); (try have hr6x0 : w5.heap.size < w6.heap.size := (by omega)); (try have hs6x0 : ¬ w5.heap.size = w6.heap.size := (by omega)); (try have ht6x0 : ¬ w6.heap.size = w5.heap.size := (by omega))))
    all_goals
      go_ret
      exact ⟨rfl, by repeat (first | with_reducible apply Below.refl | (with_reducible apply Below.setCell; rotate_left; focus (first | omega | (simp; done) | (simp; omega))) | (with_reducible apply Below.alloc; rotate_left; focus (first | omega | (simp; done) | (simp; omega))) | with_reducible apply Below.drew | with_reducible apply belowDrewN | (with_reducible apply Below.trans; rotate_left; with_reducible apply Below.mono; with_reducible assumption; focus (first | omega | (simp; done) | (simp; omega))))⟩
  | true =>
    cases h2 : vokB u v with
    | false =>
      go_wp2_with (first
        | (go_at_call 14; refine (sVecDot_any _ _ _ _ _).mono ?_; rintro e w4 ⟨rfl, hb4⟩; obtain ⟨hc4, hf4⟩ := bcell hb4; have hl4 := blt hb4; have hz4 := hb4.size; (try simp only [World.size_drew, World.size_alloc, World.size_setCell] at hc4 hf4 hl4 hz4); (try have hq4x0 : w1.heap.size < w4.heap.size := (by omega)); (try have hq4x1 : w1.heap.size + 1 < w4.heap.size := (by omega)))
        | (go_at_call 13; refine (vecDot_any _ _ _ _ _).mono ?_; rintro e w5 ⟨rfl, hb5⟩; obtain ⟨hc5, hf5⟩ := bcell hb5; have hl5 := blt hb5; have hz5 := hb5.size; (try simp only [World.size_drew, World.size_alloc, World.size_setCell] at hc5 hf5 hl5 hz5); (try have hq5x0 : w1.heap.size < w5.heap.size := (by omega)); (try have hq5x1 : w1.heap.size + 1 < w5.heap.size := (by omega)))
        | (go_at_call 15; refine (sVecOk_t _ _ _ (by assumption)).mono ?_; rintro e w6 ⟨rfl, hb6⟩; obtain ⟨hc6, hf6⟩ := bcell hb6; have hl6 := blt hb6; have hz6 := hb6.size; (try simp only [World.size_drew, World.size_alloc, World.size_setCell] at hc6 hf6 hl6 hz6); (try have hq6x0 : w1.heap.size < w6.heap.size := (by omega)); (try have hq6x1 : w1.heap.size + 1 < w6.heap.size := (by omega)); (try have hr6x0 : w5.heap.size < w6.heap.size := (by omega)); (try have hs6x0 : ¬ w5.heap.size = w6.heap.size := (by omega)); (try have ht6x0 : ¬ w6.heap.size = w5.heap.size := (by omega)))
        | (go_at_call 15; refine (sVecOk_n _ _ _ (by assumption)).mono ?_; rintro e w6 ⟨rfl, hb6⟩; obtain ⟨hc6, hf6⟩ := bcell hb6; have hl6 := blt hb6; have hz6 := hb6.size; (try simp only [World.size_drew, World.size_alloc, World.size_setCell] at hc6 hf6 hl6 hz6); (try have hq6x0 : w1.heap.size < w6.heap.size := (by omega)); (try have hq6x1 : w1.heap.size + 1 < w6.heap.size := (by omega)); (try have hr6x0 : w5.heap.size < w6.heap.size := (by omega)); (try have hs6x0 : ¬ w5.heap.size = w6.heap.size := (by omega)); (try have ht6x0 : ¬ w6.heap.size = w5.heap.size := (by omega))))
      all_goals
        go_ret
        exact ⟨rfl, by repeat (first | with_reducible apply Below.refl | (with_reducible apply Below.setCell; rotate_left; focus (first | omega | (simp; done) | (simp; omega))) | (with_reducible apply Below.alloc; rotate_left; focus (first | omega | (simp; done) | (simp; omega))) | with_reducible apply Below.drew | with_reducible apply belowDrewN | (with_reducible apply Below.trans; rotate_left; with_reducible apply Below.mono; with_reducible assumption; focus (first | omega | (simp; done) | (simp; omega))))⟩
    | true =>
      obtain ⟨fx, fy⟩ := vok_bd9 h1
      obtain ⟨fu, fv⟩ := vok_bd9 h2
      have a1 := vl_bd x y
      have a2 := vl_bd u v
      by_cases hL1 : vl x y < 1000000000
      · by_cases hL2 : vl u v < 1000000000
        · have hle := vdot_le fx fy fu fv hL1 hL2
          have p4 := mul_bd (a := vl x y + 1) (b := vl u v + 1) (A := 1000000001) (B := 1000000001) (by omega) (by omega)
          have p5 : -(1000000001 * 1000000001) ≤ ((vl x y + 1) * (vl u v + 1)).tdiv 256 ∧ ((vl x y + 1) * (vl u v + 1)).tdiv 256 ≤ 1000000001 * 1000000001 := by
            have p0 : 0 ≤ (vl x y + 1) * (vl u v + 1) := Int.mul_nonneg (by omega) (by omega)
            rw [Int.tdiv_eq_ediv_of_nonneg p0]; omega
          have e4 : IntKind.i64.wrap ((vl x y + 1) * (vl u v + 1)) = (vl x y + 1) * (vl u v + 1) := i64w (by omega)
          have e5 : IntKind.i64.wrap (vl x y + 1) = vl x y + 1 := i64w (by omega)
          have e6 : IntKind.i64.wrap (vl u v + 1) = vl u v + 1 := i64w (by omega)
          have e7 : IntKind.i64.wrap (((vl x y + 1) * (vl u v + 1)).tdiv 256) = ((vl x y + 1) * (vl u v + 1)).tdiv 256 := i64w (by omega)
          have e8 : IntKind.i64.wrap (((vl x y + 1) * (vl u v + 1)).tdiv 256 + 1) = ((vl x y + 1) * (vl u v + 1)).tdiv 256 + 1 := i64w (by omega)
          have hdb := vdot_bd x y u v
          go_wp2_with (first
            | (go_at_call 14; refine (sVecDot_any _ _ _ _ _).mono ?_; rintro e w4 ⟨rfl, hb4⟩; obtain ⟨hc4, hf4⟩ := bcell hb4; have hl4 := blt hb4; have hz4 := hb4.size; (try simp only [World.size_drew, World.size_alloc, World.size_setCell] at hc4 hf4 hl4 hz4); (try have hq4x0 : w1.heap.size < w4.heap.size := (by omega)); (try have hq4x1 : w1.heap.size + 1 < w4.heap.size := (by omega)))
            | (go_at_call 13; refine (vecDot_any _ _ _ _ _).mono ?_; rintro e w5 ⟨rfl, hb5⟩; obtain ⟨hc5, hf5⟩ := bcell hb5; have hl5 := blt hb5; have hz5 := hb5.size; (try simp only [World.size_drew, World.size_alloc, World.size_setCell] at hc5 hf5 hl5 hz5); (try have hq5x0 : w1.heap.size < w5.heap.size := (by omega)); (try have hq5x1 : w1.heap.size + 1 < w5.heap.size := (by omega)))
            | (go_at_call 15; refine (sVecOk_t _ _ _ (by assumption)).mono ?_; rintro e w6 ⟨rfl, hb6⟩; obtain ⟨hc6, hf6⟩ := bcell hb6; have hl6 := blt hb6; have hz6 := hb6.size; (try simp only [World.size_drew, World.size_alloc, World.size_setCell] at hc6 hf6 hl6 hz6); (try have hq6x0 : w1.heap.size < w6.heap.size := (by omega)); (try have hq6x1 : w1.heap.size + 1 < w6.heap.size := (by omega)); (try have hr6x0 : w5.heap.size < w6.heap.size := (by omega)); (try have hs6x0 : ¬ w5.heap.size = w6.heap.size := (by omega)); (try have ht6x0 : ¬ w6.heap.size = w5.heap.size := (by omega)))
            | (go_at_call 16; refine (vecLen_any _ _ _).mono ?_; rintro e w7 ⟨rfl, hb7⟩; obtain ⟨hc7, hf7⟩ := bcell hb7; have hl7 := blt hb7; have hz7 := hb7.size; (try simp only [World.size_drew, World.size_alloc, World.size_setCell] at hc7 hf7 hl7 hz7); (try have hq7x0 : w1.heap.size < w7.heap.size := (by omega)); (try have hq7x1 : w1.heap.size + 1 < w7.heap.size := (by omega)); (try have hr7x0 : w5.heap.size < w7.heap.size := (by omega)); (try have hs7x0 : ¬ w5.heap.size = w7.heap.size := (by omega)); (try have ht7x0 : ¬ w7.heap.size = w5.heap.size := (by omega))))
          go_region_held3 (fun w' => w'.cell? ⟨w1.heap.size, 0, none⟩ = some (.int .i64 x) ∧ w'.cell? ⟨w1.heap.size, 1, none⟩ = some (.int .i64 y) ∧ w'.cell? ⟨w1.heap.size + 1, 0, none⟩ = some (.int .i64 u) ∧ w'.cell? ⟨w1.heap.size + 1, 1, none⟩ = some (.int .i64 v) ∧ w'.cell? ⟨w5.heap.size, 0, none⟩ = some (.int .i64 (-y)) ∧ w'.cell? ⟨w5.heap.size, 1, none⟩ = some (.int .i64 x)) (first | trivial | (go_simp; done) | (go_keep; done)) (first
            | (go_at_call 13; refine (vecDot_any _ _ _ _ _).mono ?_; rintro e w8 ⟨rfl, hb8⟩; obtain ⟨hc8, hf8⟩ := bcell hb8; have hl8 := blt hb8; have hz8 := hb8.size; (try simp only [World.size_drew, World.size_alloc, World.size_setCell] at hc8 hf8 hl8 hz8); (try have hq8x0 : w1.heap.size < w8.heap.size := (by omega)); (try have hq8x1 : w1.heap.size + 1 < w8.heap.size := (by omega)); (try have hr8x0 : w5.heap.size < w8.heap.size := (by omega)); (try have hs8x0 : ¬ w5.heap.size = w8.heap.size := (by omega)); (try have ht8x0 : ¬ w8.heap.size = w5.heap.size := (by omega)))
            | (go_at_call 17; refine (pqAbsD_any _ _ (by omega)).mono ?_; rintro e w' ⟨rfl, rfl⟩)
            | (go_at_call 16; refine (vecLen_any _ _ _).mono ?_; rintro e w7 ⟨rfl, hb7⟩; obtain ⟨hc7, hf7⟩ := bcell hb7; have hl7 := blt hb7; have hz7 := hb7.size; (try simp only [World.size_drew, World.size_alloc, World.size_setCell] at hc7 hf7 hl7 hz7); (try have hq7x0 : w1.heap.size < w7.heap.size := (by omega)); (try have hq7x1 : w1.heap.size + 1 < w7.heap.size := (by omega)); (try have hr7x0 : w5.heap.size < w7.heap.size := (by omega)); (try have hs7x0 : ¬ w5.heap.size = w7.heap.size := (by omega)); (try have ht7x0 : ¬ w7.heap.size = w5.heap.size := (by omega))))
          all_goals
            go_wp2
            go_ret
            exact ⟨ret_bool (by first | rfl | (simp [*]; done) | (simp [*]; omega)), by repeat (first | with_reducible apply Below.refl | (with_reducible apply Below.setCell; rotate_left; focus (first | omega | (simp; done) | (simp; omega))) | (with_reducible apply Below.alloc; rotate_left; focus (first | omega | (simp; done) | (simp; omega))) | with_reducible apply Below.drew | with_reducible apply belowDrewN | (with_reducible apply Below.trans; rotate_left; with_reducible apply Below.mono; with_reducible assumption; focus (first | omega | (simp; done) | (simp; omega))))⟩
        · go_wp2_with (first
            | (go_at_call 14; refine (sVecDot_any _ _ _ _ _).mono ?_; rintro e w4 ⟨rfl, hb4⟩; obtain ⟨hc4, hf4⟩ := bcell hb4; have hl4 := blt hb4; have hz4 := hb4.size; (try simp only [World.size_drew, World.size_alloc, World.size_setCell] at hc4 hf4 hl4 hz4); (try have hq4x0 : w1.heap.size < w4.heap.size := (by omega)); (try have hq4x1 : w1.heap.size + 1 < w4.heap.size := (by omega)))
            | (go_at_call 13; refine (vecDot_any _ _ _ _ _).mono ?_; rintro e w5 ⟨rfl, hb5⟩; obtain ⟨hc5, hf5⟩ := bcell hb5; have hl5 := blt hb5; have hz5 := hb5.size; (try simp only [World.size_drew, World.size_alloc, World.size_setCell] at hc5 hf5 hl5 hz5); (try have hq5x0 : w1.heap.size < w5.heap.size := (by omega)); (try have hq5x1 : w1.heap.size + 1 < w5.heap.size := (by omega)))
            | (go_at_call 15; refine (sVecOk_t _ _ _ (by assumption)).mono ?_; rintro e w6 ⟨rfl, hb6⟩; obtain ⟨hc6, hf6⟩ := bcell hb6; have hl6 := blt hb6; have hz6 := hb6.size; (try simp only [World.size_drew, World.size_alloc, World.size_setCell] at hc6 hf6 hl6 hz6); (try have hq6x0 : w1.heap.size < w6.heap.size := (by omega)); (try have hq6x1 : w1.heap.size + 1 < w6.heap.size := (by omega)); (try have hr6x0 : w5.heap.size < w6.heap.size := (by omega)); (try have hs6x0 : ¬ w5.heap.size = w6.heap.size := (by omega)); (try have ht6x0 : ¬ w6.heap.size = w5.heap.size := (by omega)))
            | (go_at_call 16; refine (vecLen_any _ _ _).mono ?_; rintro e w7 ⟨rfl, hb7⟩; obtain ⟨hc7, hf7⟩ := bcell hb7; have hl7 := blt hb7; have hz7 := hb7.size; (try simp only [World.size_drew, World.size_alloc, World.size_setCell] at hc7 hf7 hl7 hz7); (try have hq7x0 : w1.heap.size < w7.heap.size := (by omega)); (try have hq7x1 : w1.heap.size + 1 < w7.heap.size := (by omega)); (try have hr7x0 : w5.heap.size < w7.heap.size := (by omega)); (try have hs7x0 : ¬ w5.heap.size = w7.heap.size := (by omega)); (try have ht7x0 : ¬ w7.heap.size = w5.heap.size := (by omega))))
          all_goals
            go_ret
            exact ⟨rfl, by repeat (first | with_reducible apply Below.refl | (with_reducible apply Below.setCell; rotate_left; focus (first | omega | (simp; done) | (simp; omega))) | (with_reducible apply Below.alloc; rotate_left; focus (first | omega | (simp; done) | (simp; omega))) | with_reducible apply Below.drew | with_reducible apply belowDrewN | (with_reducible apply Below.trans; rotate_left; with_reducible apply Below.mono; with_reducible assumption; focus (first | omega | (simp; done) | (simp; omega))))⟩
      · go_wp2_with (first
          | (go_at_call 14; refine (sVecDot_any _ _ _ _ _).mono ?_; rintro e w4 ⟨rfl, hb4⟩; obtain ⟨hc4, hf4⟩ := bcell hb4; have hl4 := blt hb4; have hz4 := hb4.size; (try simp only [World.size_drew, World.size_alloc, World.size_setCell] at hc4 hf4 hl4 hz4); (try have hq4x0 : w1.heap.size < w4.heap.size := (by omega)); (try have hq4x1 : w1.heap.size + 1 < w4.heap.size := (by omega)))
          | (go_at_call 13; refine (vecDot_any _ _ _ _ _).mono ?_; rintro e w5 ⟨rfl, hb5⟩; obtain ⟨hc5, hf5⟩ := bcell hb5; have hl5 := blt hb5; have hz5 := hb5.size; (try simp only [World.size_drew, World.size_alloc, World.size_setCell] at hc5 hf5 hl5 hz5); (try have hq5x0 : w1.heap.size < w5.heap.size := (by omega)); (try have hq5x1 : w1.heap.size + 1 < w5.heap.size := (by omega)))
          | (go_at_call 15; refine (sVecOk_t _ _ _ (by assumption)).mono ?_; rintro e w6 ⟨rfl, hb6⟩; obtain ⟨hc6, hf6⟩ := bcell hb6; have hl6 := blt hb6; have hz6 := hb6.size; (try simp only [World.size_drew, World.size_alloc, World.size_setCell] at hc6 hf6 hl6 hz6); (try have hq6x0 : w1.heap.size < w6.heap.size := (by omega)); (try have hq6x1 : w1.heap.size + 1 < w6.heap.size := (by omega)); (try have hr6x0 : w5.heap.size < w6.heap.size := (by omega)); (try have hs6x0 : ¬ w5.heap.size = w6.heap.size := (by omega)); (try have ht6x0 : ¬ w6.heap.size = w5.heap.size := (by omega)))
          | (go_at_call 16; refine (vecLen_any _ _ _).mono ?_; rintro e w7 ⟨rfl, hb7⟩; obtain ⟨hc7, hf7⟩ := bcell hb7; have hl7 := blt hb7; have hz7 := hb7.size; (try simp only [World.size_drew, World.size_alloc, World.size_setCell] at hc7 hf7 hl7 hz7); (try have hq7x0 : w1.heap.size < w7.heap.size := (by omega)); (try have hq7x1 : w1.heap.size + 1 < w7.heap.size := (by omega)); (try have hr7x0 : w5.heap.size < w7.heap.size := (by omega)); (try have hs7x0 : ¬ w5.heap.size = w7.heap.size := (by omega)); (try have ht7x0 : ¬ w7.heap.size = w5.heap.size := (by omega))))
        all_goals
          go_ret
          exact ⟨rfl, by repeat (first | with_reducible apply Below.refl | (with_reducible apply Below.setCell; rotate_left; focus (first | omega | (simp; done) | (simp; omega))) | (with_reducible apply Below.alloc; rotate_left; focus (first | omega | (simp; done) | (simp; omega))) | with_reducible apply Below.drew | with_reducible apply belowDrewN | (with_reducible apply Below.trans; rotate_left; with_reducible apply Below.mono; with_reducible assumption; focus (first | omega | (simp; done) | (simp; omega))))⟩
end Go.Proofs.Ytbaaidafgdhpeaa
