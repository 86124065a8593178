/- The walk of the law of promise 10. -/
import Derived.Test.YtpfedfoiopcilaaDrawV2
import Derived.Test.YtpfedfoiopcilaaVecC
import Derived.Test.YtpfedfoiopcilaaSVecC
import Derived.Test.YtpfedfoiopcilaaVecAdd
import Derived.Test.YtpfedfoiopcilaaSBase
import Derived.Test.YtpfedfoiopcilaaPlainV
namespace Go.Proofs.Ytpfedfoiopcilaa
open Go.RowKit
set_option linter.unusedVariables false
set_option linter.unusedSimpArgs false
theorem vl_root {x y : Int} (h : vl x y < 1000000000) : vl x y * vl x y ≤ x * x + y * y ∧ x * x + y * y < (vl x y + 1) * (vl x y + 1) := by
  have h0 : 0 ≤ x * x + y * y := by have := sq_nonneg x; have := sq_nonneg y; omega
  obtain ⟨a, b, c⟩ := rootZ_is h0
  have e : vl x y = rootZ (x * x + y * y) := by unfold vl clampZ at *; repeat' split at h <;> (try omega); repeat' split <;> omega
  rw [e]
  exact ⟨b, c⟩
theorem vl_tri (x y u v : Int) : vl (fc (x + u)) (fc (y + v)) ≤ vl x y + vl u v + 2 := by
  have h0 : 0 ≤ x * x + y * y := by have := sq_nonneg x; have := sq_nonneg y; omega
  have k0 : 0 ≤ u * u + v * v := by have := sq_nonneg u; have := sq_nonneg v; omega
  obtain ⟨a1, b1, c1⟩ := rootZ_is h0
  obtain ⟨a2, b2, c2⟩ := rootZ_is k0
  have t := tri_lt (A := rootZ (x * x + y * y) + 1) (B := rootZ (u * u + v * v) + 1) (by omega) (by omega) c1 c2
  have f1 := fc_sq_le (x + u)
  have f2 := fc_sq_le (y + v)
  have r := rootZ_le (n := fc (x + u) * fc (x + u) + fc (y + v) * fc (y + v)) (B := rootZ (x * x + y * y) + rootZ (u * u + v * v) + 1) (by omega) (by
    have e : rootZ (x * x + y * y) + rootZ (u * u + v * v) + 1 + 1 = rootZ (x * x + y * y) + 1 + (rootZ (u * u + v * v) + 1) := by omega
    rw [e]; omega)
  unfold vl clampZ
  repeat' split
  all_goals omega

theorem vok_bd10 {x y : Int} (h : vokB x y = true) : fc x = x ∧ fc y = y := by
  unfold vokB at h; simp only [decide_eq_true_eq] at h; exact ⟨fc_id (by omega) (by omega), fc_id (by omega) (by omega)⟩

set_option maxHeartbeats 8000000 in
theorem fnVecLen_walk (a : Option Addr) (len cap : Nat) (a2 : Option Addr) (len2 cap2 : Nat) (w : World) (hb : Bytes w a len cap) (hbm : Bytes w a2 len2 cap2) :
    Calls Try.prog 7 #[.slice a len cap, .slice a2 len2 cap2] w fun e w' => e = .returned (.bool true) ∧ Below w.heap.size w w' := by
  have hset := cset_map
  go_enter Try.func7, Try.ntmps7
  go_wp2_with (first
    | (have hb1A : Below w.heap.size w w1 := hb1; have hb1' := (hbm.below hb1A).below ((Below.refl _ _).alloc (Nat.le_refl _) (.cells #[.int .i64 x, .int .i64 y] 24)); go_at_call 39; refine (drawVecLen_any _ _ _ _ hb1').mono ?_; rintro e w2 ⟨u, v, rfl, u0, u1, v0, v1, hb2⟩; obtain ⟨hc2, hf2⟩ := bcell hb2; have hl2 := blt hb2; have hz2 := hb2.size; (try simp only [World.size_drew, World.size_alloc, World.size_setCell] at hc2 hf2 hl2 hz2); (try have hq2x0 : w1.heap.size < w2.heap.size := (by omega)); (try have hq2x1 : w1.heap.size + 1 < w2.heap.size := (by omega)))
    | (go_at_call 39; refine (drawVecLen_any _ _ _ _ hb).mono ?_; rintro e w1 ⟨x, y, rfl, x0, x1, y0, y1, hb1⟩; obtain ⟨hc1, hf1⟩ := bcell hb1; have hl1 := blt hb1; have hz1 := hb1.size; (try simp only [World.size_drew, World.size_alloc, World.size_setCell] at hc1 hf1 hl1 hz1); (try have hq1x0 : w.heap.size < w1.heap.size := (by omega)))
    | (go_at_call 37; refine (vecLen_any _ _ _).mono ?_; rintro e w3 ⟨rfl, hb3⟩; obtain ⟨hc3, hf3⟩ := bcell hb3; have hl3 := blt hb3; have hz3 := hb3.size; (try simp only [World.size_drew, World.size_alloc, World.size_setCell] at hc3 hf3 hl3 hz3); (try have hq3x0 : w1.heap.size < w3.heap.size := (by omega)); (try have hq3x1 : w1.heap.size + 1 < w3.heap.size := (by omega)); (try have hr3x0 : w2.heap.size < w3.heap.size := (by omega)); (try have hs3x0 : ¬ w2.heap.size = w3.heap.size := (by omega)); (try have ht3x0 : ¬ w3.heap.size = w2.heap.size := (by omega))))
  · go_ret
    exact ⟨rfl, Below.refl _ _⟩
  · have hv0 := vl_bd (fc x) (fc y)
    cases h1 : vokB x y with
    | false =>
      go_wp2_with (first
        | (go_at_call 40; refine (sVecLen_any _ _ _).mono ?_; rintro e w4 ⟨rfl, hb4⟩; obtain ⟨hc4, hf4⟩ := bcell hb4; have hl4 := blt hb4; have hz4 := hb4.size; (try simp only [World.size_drew, World.size_alloc, World.size_setCell] at hc4 hf4 hl4 hz4); (try have hq4x0 : w1.heap.size < w4.heap.size := (by omega)); (try have hq4x1 : w1.heap.size + 1 < w4.heap.size := (by omega)); (try have hr4x0 : w2.heap.size < w4.heap.size := (by omega)); (try have hs4x0 : ¬ w2.heap.size = w4.heap.size := (by omega)); (try have ht4x0 : ¬ w4.heap.size = w2.heap.size := (by omega)))
        | (go_at_call 25; refine (sVecOk_n _ _ _ (by assumption)).mono ?_; rintro e w5 ⟨rfl, hb5⟩; obtain ⟨hc5, hf5⟩ := bcell hb5; have hl5 := blt hb5; have hz5 := hb5.size; (try simp only [World.size_drew, World.size_alloc, World.size_setCell] at hc5 hf5 hl5 hz5); (try have hq5x0 : w1.heap.size < w5.heap.size := (by omega)); (try have hq5x1 : w1.heap.size + 1 < w5.heap.size := (by omega)); (try have hr5x0 : w2.heap.size < w5.heap.size := (by omega)); (try have hs5x0 : ¬ w2.heap.size = w5.heap.size := (by omega)); (try have ht5x0 : ¬ w5.heap.size = w2.heap.size := (by omega))))
      all_goals
        go_ret
        exact ⟨ret_bool (by first | rfl | (simp; omega)), by repeat (first | exact Below.refl _ _ | refine Below.setCell ?_ (by first | omega | (simp; done) | (simp; omega)) _ | refine Below.alloc ?_ (by first | omega | (simp; done) | (simp; omega)) _ | refine Below.drew ?_ | refine belowDrewN ?_ _ | refine Below.trans ?_ (Below.mono (by assumption) (by first | (simp; done) | (simp; omega) | omega)))⟩
    | true =>
      cases h2 : vokB u v with
      | false =>
        go_wp2_with (first
          | (go_at_call 40; refine (sVecLen_any _ _ _).mono ?_; rintro e w4 ⟨rfl, hb4⟩; obtain ⟨hc4, hf4⟩ := bcell hb4; have hl4 := blt hb4; have hz4 := hb4.size; (try simp only [World.size_drew, World.size_alloc, World.size_setCell] at hc4 hf4 hl4 hz4); (try have hq4x0 : w1.heap.size < w4.heap.size := (by omega)); (try have hq4x1 : w1.heap.size + 1 < w4.heap.size := (by omega)); (try have hr4x0 : w2.heap.size < w4.heap.size := (by omega)); (try have hs4x0 : ¬ w2.heap.size = w4.heap.size := (by omega)); (try have ht4x0 : ¬ w4.heap.size = w2.heap.size := (by omega)))
          | (go_at_call 25; refine (sVecOk_t _ _ _ (by assumption)).mono ?_; rintro e w5 ⟨rfl, hb5⟩; obtain ⟨hc5, hf5⟩ := bcell hb5; have hl5 := blt hb5; have hz5 := hb5.size; (try simp only [World.size_drew, World.size_alloc, World.size_setCell] at hc5 hf5 hl5 hz5); (try have hq5x0 : w1.heap.size < w5.heap.size := (by omega)); (try have hq5x1 : w1.heap.size + 1 < w5.heap.size := (by omega)); (try have hr5x0 : w2.heap.size < w5.heap.size := (by omega)); (try have hs5x0 : ¬ w2.heap.size = w5.heap.size := (by omega)); (try have ht5x0 : ¬ w5.heap.size = w2.heap.size := (by omega)))
          | (go_at_call 25; refine (sVecOk_n _ _ _ (by assumption)).mono ?_; rintro e w5 ⟨rfl, hb5⟩; obtain ⟨hc5, hf5⟩ := bcell hb5; have hl5 := blt hb5; have hz5 := hb5.size; (try simp only [World.size_drew, World.size_alloc, World.size_setCell] at hc5 hf5 hl5 hz5); (try have hq5x0 : w1.heap.size < w5.heap.size := (by omega)); (try have hq5x1 : w1.heap.size + 1 < w5.heap.size := (by omega)); (try have hr5x0 : w2.heap.size < w5.heap.size := (by omega)); (try have hs5x0 : ¬ w2.heap.size = w5.heap.size := (by omega)); (try have ht5x0 : ¬ w5.heap.size = w2.heap.size := (by omega))))
        all_goals
          go_ret
          exact ⟨ret_bool (by first | rfl | (simp; omega)), by repeat (first | exact Below.refl _ _ | refine Below.setCell ?_ (by first | omega | (simp; done) | (simp; omega)) _ | refine Below.alloc ?_ (by first | omega | (simp; done) | (simp; omega)) _ | refine Below.drew ?_ | refine belowDrewN ?_ _ | refine Below.trans ?_ (Below.mono (by assumption) (by first | (simp; done) | (simp; omega) | omega)))⟩
      | true =>
        obtain ⟨fx, fy⟩ := vok_bd10 h1
        obtain ⟨fu, fv⟩ := vok_bd10 h2
        have bx := fc_bd x
        have by' := fc_bd y
        rw [fx] at bx
        rw [fy] at by'
        rw [fx, fy] at hv0
        have hm0 := vl_bd u v
        have ht := vl_tri x y u v
        have hff1 := fc_fc (x + u)
        have hff2 := fc_fc (y + v)
        have p1 := mul_bd (a := x) (b := x) (A := 1000000000) (B := 1000000000) bx bx
        have p2 := mul_bd (a := y) (b := y) (A := 1000000000) (B := 1000000000) by' by'
        have p3 := mul_bd (a := vl x y) (b := vl x y) (A := 1000000000) (B := 1000000000) (by omega) (by omega)
        have p4 := mul_bd (a := vl x y + 1) (b := vl x y + 1) (A := 1000000001) (B := 1000000001) (by omega) (by omega)
        have e1 : IntKind.i64.wrap (x * x) = x * x := i64w (by omega)
        have e2 : IntKind.i64.wrap (y * y) = y * y := i64w (by omega)
        have e3 : IntKind.i64.wrap (x * x + y * y) = x * x + y * y := i64w (by omega)
        have e4 : IntKind.i64.wrap (vl x y * vl x y) = vl x y * vl x y := i64w (by omega)
        have e5 : IntKind.i64.wrap (vl x y + 1) = vl x y + 1 := i64w (by omega)
        have e6 : IntKind.i64.wrap ((vl x y + 1) * (vl x y + 1)) = (vl x y + 1) * (vl x y + 1) := i64w (by omega)
        have e7 : IntKind.i64.wrap (vl x y + vl u v) = vl x y + vl u v := i64w (by omega)
        have e8 : IntKind.i64.wrap (vl x y + vl u v + 2) = vl x y + vl u v + 2 := i64w (by omega)
        by_cases hlt : vl x y < 1000000000
        · obtain ⟨q1, q2⟩ := vl_root hlt
          go_wp2_with (first
            | (go_at_call 40; refine (sVecLen_any _ _ _).mono ?_; rintro e w4 ⟨rfl, hb4⟩; obtain ⟨hc4, hf4⟩ := bcell hb4; have hl4 := blt hb4; have hz4 := hb4.size; (try simp only [World.size_drew, World.size_alloc, World.size_setCell] at hc4 hf4 hl4 hz4); (try have hq4x0 : w1.heap.size < w4.heap.size := (by omega)); (try have hq4x1 : w1.heap.size + 1 < w4.heap.size := (by omega)); (try have hr4x0 : w2.heap.size < w4.heap.size := (by omega)); (try have hs4x0 : ¬ w2.heap.size = w4.heap.size := (by omega)); (try have ht4x0 : ¬ w4.heap.size = w2.heap.size := (by omega)))
            | (go_at_call 25; refine (sVecOk_t _ _ _ (by assumption)).mono ?_; rintro e w5 ⟨rfl, hb5⟩; obtain ⟨hc5, hf5⟩ := bcell hb5; have hl5 := blt hb5; have hz5 := hb5.size; (try simp only [World.size_drew, World.size_alloc, World.size_setCell] at hc5 hf5 hl5 hz5); (try have hq5x0 : w1.heap.size < w5.heap.size := (by omega)); (try have hq5x1 : w1.heap.size + 1 < w5.heap.size := (by omega)); (try have hr5x0 : w2.heap.size < w5.heap.size := (by omega)); (try have hs5x0 : ¬ w2.heap.size = w5.heap.size := (by omega)); (try have ht5x0 : ¬ w5.heap.size = w2.heap.size := (by omega))))
          go_region_held3 (fun w' => w'.cell? ⟨w1.heap.size, 0, none⟩ = some (.int .i64 x) ∧ w'.cell? ⟨w1.heap.size, 1, none⟩ = some (.int .i64 y) ∧ w'.cell? ⟨w2.heap.size, 0, none⟩ = some (.int .i64 u) ∧ w'.cell? ⟨w2.heap.size, 1, none⟩ = some (.int .i64 v)) (first | trivial | (go_simp; done) | (go_keep; done)) (first
            | (go_at_call 22; refine (vecAdd_any _ _ _ _ _).mono ?_; rintro e w6 ⟨rfl, hb6⟩; obtain ⟨hc6, hf6⟩ := bcell hb6; have hl6 := blt hb6; have hz6 := hb6.size; (try simp only [World.size_drew, World.size_alloc, World.size_setCell] at hc6 hf6 hl6 hz6); (try have hq6x0 : w1.heap.size < w6.heap.size := (by omega)); (try have hq6x1 : w1.heap.size + 1 < w6.heap.size := (by omega)); (try have hr6x0 : w2.heap.size < w6.heap.size := (by omega)); (try have hs6x0 : ¬ w2.heap.size = w6.heap.size := (by omega)); (try have ht6x0 : ¬ w6.heap.size = w2.heap.size := (by omega)))
            | (go_at_call 37; refine (vecLen_any _ _ _).mono ?_; rintro e w7 ⟨rfl, hb7⟩; obtain ⟨hc7, hf7⟩ := bcell hb7; have hl7 := blt hb7; have hz7 := hb7.size; (try simp only [World.size_drew, World.size_alloc, World.size_setCell] at hc7 hf7 hl7 hz7); (try have hq7x0 : w1.heap.size < w7.heap.size := (by omega)); (try have hq7x1 : w1.heap.size + 1 < w7.heap.size := (by omega)); (try have hr7x0 : w2.heap.size < w7.heap.size := (by omega)); (try have hs7x0 : ¬ w2.heap.size = w7.heap.size := (by omega)); (try have ht7x0 : ¬ w7.heap.size = w2.heap.size := (by omega))))
          all_goals
            go_wp2
            go_ret
            exact ⟨ret_bool (by first | rfl | (simp [*]; done) | (simp [*]; omega)), by repeat (first | exact Below.refl _ _ | refine Below.setCell ?_ (by first | omega | (simp; done) | (simp; omega)) _ | refine Below.alloc ?_ (by first | omega | (simp; done) | (simp; omega)) _ | refine Below.drew ?_ | refine belowDrewN ?_ _ | refine Below.trans ?_ (Below.mono (by assumption) (by first | (simp; done) | (simp; omega) | omega)))⟩
        · go_wp2_with (first
            | (go_at_call 40; refine (sVecLen_any _ _ _).mono ?_; rintro e w4 ⟨rfl, hb4⟩; obtain ⟨hc4, hf4⟩ := bcell hb4; have hl4 := blt hb4; have hz4 := hb4.size; (try simp only [World.size_drew, World.size_alloc, World.size_setCell] at hc4 hf4 hl4 hz4); (try have hq4x0 : w1.heap.size < w4.heap.size := (by omega)); (try have hq4x1 : w1.heap.size + 1 < w4.heap.size := (by omega)); (try have hr4x0 : w2.heap.size < w4.heap.size := (by omega)); (try have hs4x0 : ¬ w2.heap.size = w4.heap.size := (by omega)); (try have ht4x0 : ¬ w4.heap.size = w2.heap.size := (by omega)))
            | (go_at_call 25; refine (sVecOk_t _ _ _ (by assumption)).mono ?_; rintro e w5 ⟨rfl, hb5⟩; obtain ⟨hc5, hf5⟩ := bcell hb5; have hl5 := blt hb5; have hz5 := hb5.size; (try simp only [World.size_drew, World.size_alloc, World.size_setCell] at hc5 hf5 hl5 hz5); (try have hq5x0 : w1.heap.size < w5.heap.size := (by omega)); (try have hq5x1 : w1.heap.size + 1 < w5.heap.size := (by omega)); (try have hr5x0 : w2.heap.size < w5.heap.size := (by omega)); (try have hs5x0 : ¬ w2.heap.size = w5.heap.size := (by omega)); (try have ht5x0 : ¬ w5.heap.size = w2.heap.size := (by omega))))
          go_region_held3 (fun w' => w'.cell? ⟨w1.heap.size, 0, none⟩ = some (.int .i64 x) ∧ w'.cell? ⟨w1.heap.size, 1, none⟩ = some (.int .i64 y) ∧ w'.cell? ⟨w2.heap.size, 0, none⟩ = some (.int .i64 u) ∧ w'.cell? ⟨w2.heap.size, 1, none⟩ = some (.int .i64 v)) (first | trivial | (go_simp; done) | (go_keep; done)) (first
            | (go_at_call 22; refine (vecAdd_any _ _ _ _ _).mono ?_; rintro e w6 ⟨rfl, hb6⟩; obtain ⟨hc6, hf6⟩ := bcell hb6; have hl6 := blt hb6; have hz6 := hb6.size; (try simp only [World.size_drew, World.size_alloc, World.size_setCell] at hc6 hf6 hl6 hz6); (try have hq6x0 : w1.heap.size < w6.heap.size := (by omega)); (try have hq6x1 : w1.heap.size + 1 < w6.heap.size := (by omega)); (try have hr6x0 : w2.heap.size < w6.heap.size := (by omega)); (try have hs6x0 : ¬ w2.heap.size = w6.heap.size := (by omega)); (try have ht6x0 : ¬ w6.heap.size = w2.heap.size := (by omega)))
            | (go_at_call 37; refine (vecLen_any _ _ _).mono ?_; rintro e w7 ⟨rfl, hb7⟩; obtain ⟨hc7, hf7⟩ := bcell hb7; have hl7 := blt hb7; have hz7 := hb7.size; (try simp only [World.size_drew, World.size_alloc, World.size_setCell] at hc7 hf7 hl7 hz7); (try have hq7x0 : w1.heap.size < w7.heap.size := (by omega)); (try have hq7x1 : w1.heap.size + 1 < w7.heap.size := (by omega)); (try have hr7x0 : w2.heap.size < w7.heap.size := (by omega)); (try have hs7x0 : ¬ w2.heap.size = w7.heap.size := (by omega)); (try have ht7x0 : ¬ w7.heap.size = w2.heap.size := (by omega))))
          all_goals
            go_wp2
            go_ret
            exact ⟨ret_bool (by first | rfl | (simp [*]; done) | (simp [*]; omega)), by repeat (first | exact Below.refl _ _ | refine Below.setCell ?_ (by first | omega | (simp; done) | (simp; omega)) _ | refine Below.alloc ?_ (by first | omega | (simp; done) | (simp; omega)) _ | refine Below.drew ?_ | refine belowDrewN ?_ _ | refine Below.trans ?_ (Below.mono (by assumption) (by first | (simp; done) | (simp; omega) | omega)))⟩
  · go_ret
    exact ⟨rfl, Below.refl _ _⟩
end Go.Proofs.Ytpfedfoiopcilaa
