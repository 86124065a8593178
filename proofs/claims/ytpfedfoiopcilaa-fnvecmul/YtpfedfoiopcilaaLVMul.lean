/- The walk of the law of promise 8. -/
import Derived.Test.YtpfedfoiopcilaaDrawV2
import Derived.Test.YtpfedfoiopcilaaVecC
import Derived.Test.YtpfedfoiopcilaaSVecC
import Derived.Test.YtpfedfoiopcilaaSBase
import Derived.Test.YtpfedfoiopcilaaNums
namespace Go.Proofs.Ytpfedfoiopcilaa
open Go.RowKit
set_option linter.unusedVariables false
set_option linter.unusedSimpArgs false
theorem fc_negw (n : Int) : IntKind.i64.wrap (-fc n) = -fc n := by have := fc_bd n; exact i64w (by omega)
theorem fmul_negw (x n : Int) : IntKind.i64.wrap (-fmul x n) = -fmul x n := by have := fmul_bd x n; exact i64w (by omega)
theorem fmul_turn (x n : Int) : fmul x (-fc n) = -fmul x n := by
  rw [fmul_comm, fmul_neg, fmul_comm]
  unfold fmul
  rw [fc_fc]
theorem vok_bd8 {x y : Int} (h : vokB x y = true) : fc x = x ∧ fc y = y := by
  unfold vokB at h; simp only [decide_eq_true_eq] at h; exact ⟨fc_id (by omega) (by omega), fc_id (by omega) (by omega)⟩
theorem fmul_256 {x : Int} (h : fc x = x) : fmul x 256 = x := by have := fmul_one x; rw [h] at this; exact this

set_option maxHeartbeats 8000000 in
theorem fnVecMul_walk (a : Option Addr) (len cap : Nat) (w : World) (hb : Bytes w a len cap) :
    Calls Try.prog 5 #[.slice a len cap] w fun e w' => e = .returned (.bool true) ∧ Below w.heap.size w w' := by
  have hset := cset_map
  go_enter Try.func5, Try.ntmps5
  go_wp2_with (first
    | (go_at_call 29; refine (drawVecMul_any _ _ _ _ hb).mono ?_; rintro e w1 ⟨x, y, n, rfl, hd, hb1⟩; obtain ⟨hc1, hf1⟩ := bcell hb1; have hl1 := blt hb1; have hz1 := hb1.size; (try simp only [World.size_drew, World.size_alloc, World.size_setCell] at hc1 hf1 hl1 hz1); (try have hq1x0 : w.heap.size < w1.heap.size := (by omega)); have hn1 := fmul_turn x n; have hn2 := fmul_turn y n; have hw0 := fc_negw n; have hw1 := fmul_negw x n; have hw2 := fmul_negw y n)
    | (go_at_call 30; refine (vecMul_any _ _ _ _).mono ?_; rintro e w2 ⟨rfl, hb2⟩; obtain ⟨hc2, hf2⟩ := bcell hb2; have hl2 := blt hb2; have hz2 := hb2.size; (try simp only [World.size_drew, World.size_alloc, World.size_setCell] at hc2 hf2 hl2 hz2); (try have hq2x0 : w1.heap.size < w2.heap.size := (by omega)); (try have hq2x1 : w1.heap.size + 1 < w2.heap.size := (by omega))))
  · go_ret
    exact ⟨rfl, Below.refl _ _⟩
  go_region_held3 (fun w' => w'.cell? ⟨w1.heap.size, 0, none⟩ = some (.int .i64 x) ∧ w'.cell? ⟨w1.heap.size, 1, none⟩ = some (.int .i64 y) ∧ w'.cell? ⟨w2.heap.size, 0, none⟩ = some (.int .i64 (fmul x n)) ∧ w'.cell? ⟨w2.heap.size, 1, none⟩ = some (.int .i64 (fmul y n))) (first | trivial | (go_simp; done) | (go_keep; done)) (first
    | (go_at_call 31; refine (sVecMul_any _ _ _ _).mono ?_; rintro e w3 ⟨rfl, hb3⟩; obtain ⟨hc3, hf3⟩ := bcell hb3; have hl3 := blt hb3; have hz3 := hb3.size; (try simp only [World.size_drew, World.size_alloc, World.size_setCell] at hc3 hf3 hl3 hz3); (try have hq3x0 : w1.heap.size < w3.heap.size := (by omega)); (try have hq3x1 : w1.heap.size + 1 < w3.heap.size := (by omega)); (try have hr3x0 : w2.heap.size < w3.heap.size := (by omega)); (try have hs3x0 : ¬ w2.heap.size = w3.heap.size := (by omega)); (try have ht3x0 : ¬ w3.heap.size = w2.heap.size := (by omega)))
    | (go_at_call 32; refine (fixMul_any _ _ _).mono ?_; rintro e w' ⟨rfl, rfl⟩))
  go_wp2_with (first
    | (go_at_call 33; refine (fixClamp_any _ _).mono ?_; rintro e w' ⟨rfl, rfl⟩)
    | (have _ := hb3; go_at_call 30; refine (vecMul_any _ _ _ _).mono ?_; rintro e w4 ⟨rfl, hb4⟩; obtain ⟨hc4, hf4⟩ := bcell hb4; have hl4 := blt hb4; have hz4 := hb4.size; (try simp only [World.size_drew, World.size_alloc, World.size_setCell] at hc4 hf4 hl4 hz4); (try have hq4x0 : w1.heap.size < w4.heap.size := (by omega)); (try have hq4x1 : w1.heap.size + 1 < w4.heap.size := (by omega)); (try have hr4x0 : w2.heap.size < w4.heap.size := (by omega)); (try have hs4x0 : ¬ w2.heap.size = w4.heap.size := (by omega)); (try have ht4x0 : ¬ w4.heap.size = w2.heap.size := (by omega))))
  cases h1 : vokB x y with
  | false =>
    first
      | go_region_with (first
        | (go_at_call 25; refine (sVecOk_n _ _ _ (by assumption)).mono ?_; rintro e w6 ⟨rfl, hb6⟩; obtain ⟨hc6, hf6⟩ := bcell hb6; have hl6 := blt hb6; have hz6 := hb6.size; (try simp only [World.size_drew, World.size_alloc, World.size_setCell] at hc6 hf6 hl6 hz6); (try have hq6x0 : w1.heap.size < w6.heap.size := (by omega)); (try have hq6x1 : w1.heap.size + 1 < w6.heap.size := (by omega)); (try have hr6x0 : w2.heap.size < w6.heap.size := (by omega)); (try have hs6x0 : ¬ w2.heap.size = w6.heap.size := (by omega)); (try have ht6x0 : ¬ w6.heap.size = w2.heap.size := (by omega)); (try have hr6x1 : w4.heap.size < w6.heap.size := (by omega)); (try have hs6x1 : ¬ w4.heap.size = w6.heap.size := (by omega)); (try have ht6x1 : ¬ w6.heap.size = w4.heap.size := (by omega))))
      | fail
    all_goals
      go_wp2
      go_ret
      exact ⟨rfl, by repeat (first | exact Below.refl _ _ | refine Below.setCell ?_ (by first | omega | (simp; done) | (simp; omega)) _ | refine Below.alloc ?_ (by first | omega | (simp; done) | (simp; omega)) _ | refine Below.drew ?_ | refine belowDrewN ?_ _ | refine Below.trans ?_ (Below.mono (by assumption) (by first | (simp; done) | (simp; omega) | omega)))⟩
  | true =>
    obtain ⟨fx, fy⟩ := vok_bd8 h1
    have hx1 := fmul_256 fx
    have hy1 := fmul_256 fy
    go_region_held3 (fun w' => w'.cell? ⟨w1.heap.size, 0, none⟩ = some (.int .i64 x) ∧ w'.cell? ⟨w1.heap.size, 1, none⟩ = some (.int .i64 y) ∧ w'.cell? ⟨w2.heap.size, 0, none⟩ = some (.int .i64 (fmul x n)) ∧ w'.cell? ⟨w2.heap.size, 1, none⟩ = some (.int .i64 (fmul y n)) ∧ w'.cell? ⟨w4.heap.size, 0, none⟩ = some (.int .i64 (-fmul x n)) ∧ w'.cell? ⟨w4.heap.size, 1, none⟩ = some (.int .i64 (-fmul y n))) (first | trivial | (go_simp; done) | (go_keep; done)) (first
      | (go_at_call 25; refine (sVecOk_t _ _ _ (by assumption)).mono ?_; rintro e w6 ⟨rfl, hb6⟩; obtain ⟨hc6, hf6⟩ := bcell hb6; have hl6 := blt hb6; have hz6 := hb6.size; (try simp only [World.size_drew, World.size_alloc, World.size_setCell] at hc6 hf6 hl6 hz6); (try have hq6x0 : w1.heap.size < w6.heap.size := (by omega)); (try have hq6x1 : w1.heap.size + 1 < w6.heap.size := (by omega)); (try have hr6x0 : w2.heap.size < w6.heap.size := (by omega)); (try have hs6x0 : ¬ w2.heap.size = w6.heap.size := (by omega)); (try have ht6x0 : ¬ w6.heap.size = w2.heap.size := (by omega)); (try have hr6x1 : w4.heap.size < w6.heap.size := (by omega)); (try have hs6x1 : ¬ w4.heap.size = w6.heap.size := (by omega)); (try have ht6x1 : ¬ w6.heap.size = w4.heap.size := (by omega)))
      | (go_at_call 30; refine (vecMul_any _ _ _ _).mono ?_; rintro e w5 ⟨rfl, hb5⟩; obtain ⟨hc5, hf5⟩ := bcell hb5; have hl5 := blt hb5; have hz5 := hb5.size; (try simp only [World.size_drew, World.size_alloc, World.size_setCell] at hc5 hf5 hl5 hz5); (try have hq5x0 : w1.heap.size < w5.heap.size := (by omega)); (try have hq5x1 : w1.heap.size + 1 < w5.heap.size := (by omega)); (try have hr5x0 : w2.heap.size < w5.heap.size := (by omega)); (try have hs5x0 : ¬ w2.heap.size = w5.heap.size := (by omega)); (try have ht5x0 : ¬ w5.heap.size = w2.heap.size := (by omega)); (try have hr5x1 : w4.heap.size < w5.heap.size := (by omega)); (try have hs5x1 : ¬ w4.heap.size = w5.heap.size := (by omega)); (try have ht5x1 : ¬ w5.heap.size = w4.heap.size := (by omega))))
    all_goals
      go_wp2
      go_ret
      exact ⟨rfl, by repeat (first | exact Below.refl _ _ | refine Below.setCell ?_ (by first | omega | (simp; done) | (simp; omega)) _ | refine Below.alloc ?_ (by first | omega | (simp; done) | (simp; omega)) _ | refine Below.drew ?_ | refine belowDrewN ?_ _ | refine Below.trans ?_ (Below.mono (by assumption) (by first | (simp; done) | (simp; omega) | omega)))⟩
end Go.Proofs.Ytpfedfoiopcilaa
