/- The walk of the law of promise 7. -/
import Derived.Test.YtpfedfoiopcilaaDrawV2
import Derived.Test.YtpfedfoiopcilaaVecSub
import Derived.Test.YtpfedfoiopcilaaSVec
namespace Go.Proofs.Ytpfedfoiopcilaa
open Go.RowKit
set_option linter.unusedVariables false
set_option linter.unusedSimpArgs false
theorem fcsub_neg (u x : Int) : fc (fc u - fc x) = -fc (fc x - fc u) := by
  rcases fc_cases (fc u - fc x) with ⟨h1, h2⟩ | ⟨h1, h2⟩ | ⟨h1, h2, h3⟩ <;> rcases fc_cases (fc x - fc u) with ⟨k1, k2⟩ | ⟨k1, k2⟩ | ⟨k1, k2, k3⟩ <;> omega
theorem fcsub_self (x : Int) : fc (fc x - fc x) = 0 := by rw [Int.sub_self]; rfl
theorem fc_negw (n : Int) : IntKind.i64.wrap (-fc n) = -fc n := by have := fc_bd n; exact i64w (by omega)

set_option maxHeartbeats 4000000 in
theorem fnVecSub_walk (a : Option Addr) (len cap : Nat) (w : World) (hb : Bytes w a len cap) :
    Calls Try.prog 4 #[.slice a len cap] w fun e w' => e = .returned (.bool true) ∧ Below w.heap.size w w' := by
  have hset := cset_map
  go_enter Try.func4, Try.ntmps4
  go_wp2_with (first
    | (go_at_call 27; refine (drawVecSub_any _ _ _ _ hb).mono ?_; rintro e w1 ⟨x, y, u, v, rfl, hd, hb1⟩; obtain ⟨hc1, hf1⟩ := bcell hb1; have hl1 := blt hb1; have hz1 := hb1.size; (try simp only [World.size_drew, World.size_alloc, World.size_setCell] at hc1 hf1 hl1 hz1); (try have hq1x0 : w.heap.size < w1.heap.size := (by omega)); have hn1 := fcsub_neg u x; have hn2 := fcsub_neg v y; have h00 : fc 0 = 0 := rfl; have hs1 := fcsub_self x; have hs2 := fcsub_self y; have hw1 := fc_negw (fc x - fc u); have hw2 := fc_negw (fc y - fc v))
    | (have _ := hb2; go_at_call 26; refine (vecSub_any _ _ _ _ _).mono ?_; rintro e w4 ⟨rfl, hb4⟩; obtain ⟨hc4, hf4⟩ := bcell hb4; have hl4 := blt hb4; have hz4 := hb4.size; (try simp only [World.size_drew, World.size_alloc, World.size_setCell] at hc4 hf4 hl4 hz4); (try have hq4x0 : w1.heap.size < w4.heap.size := (by omega)); (try have hq4x1 : w1.heap.size + 1 < w4.heap.size := (by omega)); (try have hr4x0 : w2.heap.size < w4.heap.size := (by omega)); (try have hs4x0 : ¬ w2.heap.size = w4.heap.size := (by omega)); (try have ht4x0 : ¬ w4.heap.size = w2.heap.size := (by omega)))
    | (go_at_call 26; refine (vecSub_any _ _ _ _ _).mono ?_; rintro e w2 ⟨rfl, hb2⟩; obtain ⟨hc2, hf2⟩ := bcell hb2; have hl2 := blt hb2; have hz2 := hb2.size; (try simp only [World.size_drew, World.size_alloc, World.size_setCell] at hc2 hf2 hl2 hz2); (try have hq2x0 : w1.heap.size < w2.heap.size := (by omega)); (try have hq2x1 : w1.heap.size + 1 < w2.heap.size := (by omega))))
  · go_ret
    exact ⟨rfl, Below.refl _ _⟩
  go_region_held3 (fun w' => w'.cell? ⟨w1.heap.size, 0, none⟩ = some (.int .i64 x) ∧ w'.cell? ⟨w1.heap.size, 1, none⟩ = some (.int .i64 y) ∧ w'.cell? ⟨w1.heap.size + 1, 0, none⟩ = some (.int .i64 u) ∧ w'.cell? ⟨w1.heap.size + 1, 1, none⟩ = some (.int .i64 v) ∧ w'.cell? ⟨w2.heap.size, 0, none⟩ = some (.int .i64 (fc (fc x - fc u))) ∧ w'.cell? ⟨w2.heap.size, 1, none⟩ = some (.int .i64 (fc (fc y - fc v))) ∧ w'.cell? ⟨w4.heap.size, 0, none⟩ = some (.int .i64 (-fc (fc x - fc u))) ∧ w'.cell? ⟨w4.heap.size, 1, none⟩ = some (.int .i64 (-fc (fc y - fc v)))) (first | trivial | (go_simp; done) | (go_keep; done)) (first
    | (go_at_call 28; refine (sVecSub_any _ _ _ _ _).mono ?_; rintro e w3 ⟨rfl, hb3⟩; obtain ⟨hc3, hf3⟩ := bcell hb3; have hl3 := blt hb3; have hz3 := hb3.size; (try simp only [World.size_drew, World.size_alloc, World.size_setCell] at hc3 hf3 hl3 hz3); (try have hq3x0 : w1.heap.size < w3.heap.size := (by omega)); (try have hq3x1 : w1.heap.size + 1 < w3.heap.size := (by omega)); (try have hr3x0 : w2.heap.size < w3.heap.size := (by omega)); (try have hs3x0 : ¬ w2.heap.size = w3.heap.size := (by omega)); (try have ht3x0 : ¬ w3.heap.size = w2.heap.size := (by omega)); (try have hr3x1 : w4.heap.size < w3.heap.size := (by omega)); (try have hs3x1 : ¬ w4.heap.size = w3.heap.size := (by omega)); (try have ht3x1 : ¬ w3.heap.size = w4.heap.size := (by omega)))
    | (have _ := hb4; go_at_call 26; refine (vecSub_any _ _ _ _ _).mono ?_; rintro e w5 ⟨rfl, hb5⟩; obtain ⟨hc5, hf5⟩ := bcell hb5; have hl5 := blt hb5; have hz5 := hb5.size; (try simp only [World.size_drew, World.size_alloc, World.size_setCell] at hc5 hf5 hl5 hz5); (try have hq5x0 : w1.heap.size < w5.heap.size := (by omega)); (try have hq5x1 : w1.heap.size + 1 < w5.heap.size := (by omega)); (try have hr5x0 : w2.heap.size < w5.heap.size := (by omega)); (try have hs5x0 : ¬ w2.heap.size = w5.heap.size := (by omega)); (try have ht5x0 : ¬ w5.heap.size = w2.heap.size := (by omega)); (try have hr5x1 : w4.heap.size < w5.heap.size := (by omega)); (try have hs5x1 : ¬ w4.heap.size = w5.heap.size := (by omega)); (try have ht5x1 : ¬ w5.heap.size = w4.heap.size := (by omega))))
  all_goals
    go_wp2
    go_ret
    exact ⟨rfl, by repeat (first | exact Below.refl _ _ | refine Below.setCell ?_ (by first | omega | (simp; done) | (simp; omega)) _ | refine Below.alloc ?_ (by first | omega | (simp; done) | (simp; omega)) _ | refine Below.drew ?_ | refine belowDrewN ?_ _ | refine Below.trans ?_ (Below.mono (by assumption) (by first | (simp; done) | (simp; omega) | omega)))⟩
end Go.Proofs.Ytpfedfoiopcilaa
