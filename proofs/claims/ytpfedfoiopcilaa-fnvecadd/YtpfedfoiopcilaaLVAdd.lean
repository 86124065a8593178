/- The walk of the law of promise 6. -/
import Derived.Test.YtpfedfoiopcilaaDrawV2
import Derived.Test.YtpfedfoiopcilaaVecSub
import Derived.Test.YtpfedfoiopcilaaVecAdd
import Derived.Test.YtpfedfoiopcilaaSVec
import Derived.Test.YtpfedfoiopcilaaSBase
namespace Go.Proofs.Ytpfedfoiopcilaa
open Go.RowKit
set_option linter.unusedVariables false
set_option linter.unusedSimpArgs false
theorem fcadd_comm (u x : Int) : fc (fc u + fc x) = fc (fc x + fc u) := by rw [Int.add_comm]
theorem vok_fc (a b : Int) : vokB (fc a) (fc b) = true := by have := fc_bd a; have := fc_bd b; unfold vokB; simp; omega
theorem dn_addw {x u : Int} (h : Dn x) (k : Dn u) : IntKind.i64.wrap (x + u) = x + u := by unfold Dn at *; exact i64w (by omega)
theorem vok_bd {x y : Int} (h : vokB x y = true) : fc x = x ∧ fc y = y := by
  unfold vokB at h; simp only [decide_eq_true_eq] at h; exact ⟨fc_id (by omega) (by omega), fc_id (by omega) (by omega)⟩

set_option maxHeartbeats 8000000 in
theorem fnVecAdd_walk (a : Option Addr) (len cap : Nat) (w : World) (hb : Bytes w a len cap) :
    Calls Try.prog 3 #[.slice a len cap] w fun e w' => e = .returned (.bool true) ∧ Below w.heap.size w w' := by
  have hset := cset_map
  go_enter Try.func3, Try.ntmps3
  go_wp2_with (first
    | (go_at_call 21; refine (drawVecAdd_any _ _ _ _ hb).mono ?_; rintro e w1 ⟨x, y, u, v, rfl, hd, hb1⟩; obtain ⟨hc1, hf1⟩ := bcell hb1; have hl1 := blt hb1; have hz1 := hb1.size; (try simp only [World.size_drew, World.size_alloc, World.size_setCell] at hc1 hf1 hl1 hz1); (try have hq1x0 : w.heap.size < w1.heap.size := (by omega)); have hn1 := fcadd_comm u x; have hn2 := fcadd_comm v y; have hok := vok_fc (fc x + fc u) (fc y + fc v); have ea1 := dn_addw hd.1 hd.2.2.1; have ea2 := dn_addw hd.2.1 hd.2.2.2)
    | (go_at_call 22; refine (vecAdd_any _ _ _ _ _).mono ?_; rintro e w2 ⟨rfl, hb2⟩; obtain ⟨hc2, hf2⟩ := bcell hb2; have hl2 := blt hb2; have hz2 := hb2.size; (try simp only [World.size_drew, World.size_alloc, World.size_setCell] at hc2 hf2 hl2 hz2); (try have hq2x0 : w1.heap.size < w2.heap.size := (by omega)); (try have hq2x1 : w1.heap.size + 1 < w2.heap.size := (by omega))))
  · go_ret
    exact ⟨rfl, Below.refl _ _⟩
  go_region_held3 (fun w' => w'.cell? ⟨w1.heap.size, 0, none⟩ = some (.int .i64 x) ∧ w'.cell? ⟨w1.heap.size, 1, none⟩ = some (.int .i64 y) ∧ w'.cell? ⟨w1.heap.size + 1, 0, none⟩ = some (.int .i64 u) ∧ w'.cell? ⟨w1.heap.size + 1, 1, none⟩ = some (.int .i64 v) ∧ w'.cell? ⟨w2.heap.size, 0, none⟩ = some (.int .i64 (fc (fc x + fc u))) ∧ w'.cell? ⟨w2.heap.size, 1, none⟩ = some (.int .i64 (fc (fc y + fc v)))) (first | trivial | (go_simp; done) | (go_keep; done)) (first
    | (go_at_call 23; refine (sVecAdd_any _ _ _ _ _).mono ?_; rintro e w4 ⟨rfl, hb4⟩; obtain ⟨hc4, hf4⟩ := bcell hb4; have hl4 := blt hb4; have hz4 := hb4.size; (try simp only [World.size_drew, World.size_alloc, World.size_setCell] at hc4 hf4 hl4 hz4); (try have hq4x0 : w1.heap.size < w4.heap.size := (by omega)); (try have hq4x1 : w1.heap.size + 1 < w4.heap.size := (by omega)); (try have hr4x0 : w2.heap.size < w4.heap.size := (by omega)); (try have hs4x0 : ¬ w2.heap.size = w4.heap.size := (by omega)); (try have ht4x0 : ¬ w4.heap.size = w2.heap.size := (by omega)); (try have hr4x1 : w3.heap.size < w4.heap.size := (by omega)); (try have hs4x1 : ¬ w3.heap.size = w4.heap.size := (by omega)); (try have ht4x1 : ¬ w4.heap.size = w3.heap.size := (by omega)))
    | (go_at_call 22; refine (vecAdd_any _ _ _ _ _).mono ?_; rintro e w3 ⟨rfl, hb3⟩; obtain ⟨hc3, hf3⟩ := bcell hb3; have hl3 := blt hb3; have hz3 := hb3.size; (try simp only [World.size_drew, World.size_alloc, World.size_setCell] at hc3 hf3 hl3 hz3); (try have hq3x0 : w1.heap.size < w3.heap.size := (by omega)); (try have hq3x1 : w1.heap.size + 1 < w3.heap.size := (by omega)); (try have hr3x0 : w2.heap.size < w3.heap.size := (by omega)); (try have hs3x0 : ¬ w2.heap.size = w3.heap.size := (by omega)); (try have ht3x0 : ¬ w3.heap.size = w2.heap.size := (by omega)); (try have hr3x1 : w3.heap.size < w3.heap.size := (by omega)); (try have hs3x1 : ¬ w3.heap.size = w3.heap.size := (by omega)); (try have ht3x1 : ¬ w3.heap.size = w3.heap.size := (by omega)))
    | (go_at_call 24; refine (vecOk_any _ _ _).mono ?_; rintro e w5 ⟨rfl, hb5⟩; obtain ⟨hc5, hf5⟩ := bcell hb5; have hl5 := blt hb5; have hz5 := hb5.size; (try simp only [World.size_drew, World.size_alloc, World.size_setCell] at hc5 hf5 hl5 hz5); (try have hq5x0 : w1.heap.size < w5.heap.size := (by omega)); (try have hq5x1 : w1.heap.size + 1 < w5.heap.size := (by omega)); (try have hr5x0 : w2.heap.size < w5.heap.size := (by omega)); (try have hs5x0 : ¬ w2.heap.size = w5.heap.size := (by omega)); (try have ht5x0 : ¬ w5.heap.size = w2.heap.size := (by omega)); (try have hr5x1 : w3.heap.size < w5.heap.size := (by omega)); (try have hs5x1 : ¬ w3.heap.size = w5.heap.size := (by omega)); (try have ht5x1 : ¬ w5.heap.size = w3.heap.size := (by omega)))
    | (go_at_call 25; refine (sVecOk_any _ _ _).mono ?_; rintro e w6 ⟨rfl, hb6⟩; obtain ⟨hc6, hf6⟩ := bcell hb6; have hl6 := blt hb6; have hz6 := hb6.size; (try simp only [World.size_drew, World.size_alloc, World.size_setCell] at hc6 hf6 hl6 hz6); (try have hq6x0 : w1.heap.size < w6.heap.size := (by omega)); (try have hq6x1 : w1.heap.size + 1 < w6.heap.size := (by omega)); (try have hr6x0 : w2.heap.size < w6.heap.size := (by omega)); (try have hs6x0 : ¬ w2.heap.size = w6.heap.size := (by omega)); (try have ht6x0 : ¬ w6.heap.size = w2.heap.size := (by omega)); (try have hr6x1 : w3.heap.size < w6.heap.size := (by omega)); (try have hs6x1 : ¬ w3.heap.size = w6.heap.size := (by omega)); (try have ht6x1 : ¬ w6.heap.size = w3.heap.size := (by omega))))
  cases h1 : vokB x y with
  | false =>
    go_wp2_with (first
      | (go_at_call 25; refine (sVecOk_n _ _ _ (by assumption)).mono ?_; rintro e w6 ⟨rfl, hb6⟩; obtain ⟨hc6, hf6⟩ := bcell hb6; have hl6 := blt hb6; have hz6 := hb6.size; (try simp only [World.size_drew, World.size_alloc, World.size_setCell] at hc6 hf6 hl6 hz6); (try have hq6x0 : w1.heap.size < w6.heap.size := (by omega)); (try have hq6x1 : w1.heap.size + 1 < w6.heap.size := (by omega)); (try have hr6x0 : w2.heap.size < w6.heap.size := (by omega)); (try have hs6x0 : ¬ w2.heap.size = w6.heap.size := (by omega)); (try have ht6x0 : ¬ w6.heap.size = w2.heap.size := (by omega)); (try have hr6x1 : w5.heap.size < w6.heap.size := (by omega)); (try have hs6x1 : ¬ w5.heap.size = w6.heap.size := (by omega)); (try have ht6x1 : ¬ w6.heap.size = w5.heap.size := (by omega))))
    all_goals
      go_ret
      exact ⟨rfl, by repeat (first | exact Below.refl _ _ | refine Below.setCell ?_ (by first | omega | (simp; done) | (simp; omega)) _ | refine Below.alloc ?_ (by first | omega | (simp; done) | (simp; omega)) _ | refine Below.drew ?_ | refine belowDrewN ?_ _ | refine Below.trans ?_ (Below.mono (by assumption) (by first | (simp; done) | (simp; omega) | omega)))⟩
  | true =>
    cases h2 : vokB u v with
    | false =>
      go_wp2_with (first
        | (go_at_call 25; refine (sVecOk_t _ _ _ (by assumption)).mono ?_; rintro e w6 ⟨rfl, hb6⟩; obtain ⟨hc6, hf6⟩ := bcell hb6; have hl6 := blt hb6; have hz6 := hb6.size; (try simp only [World.size_drew, World.size_alloc, World.size_setCell] at hc6 hf6 hl6 hz6); (try have hq6x0 : w1.heap.size < w6.heap.size := (by omega)); (try have hq6x1 : w1.heap.size + 1 < w6.heap.size := (by omega)); (try have hr6x0 : w2.heap.size < w6.heap.size := (by omega)); (try have hs6x0 : ¬ w2.heap.size = w6.heap.size := (by omega)); (try have ht6x0 : ¬ w6.heap.size = w2.heap.size := (by omega)); (try have hr6x1 : w5.heap.size < w6.heap.size := (by omega)); (try have hs6x1 : ¬ w5.heap.size = w6.heap.size := (by omega)); (try have ht6x1 : ¬ w6.heap.size = w5.heap.size := (by omega)))
        | (go_at_call 25; refine (sVecOk_n _ _ _ (by assumption)).mono ?_; rintro e w6 ⟨rfl, hb6⟩; obtain ⟨hc6, hf6⟩ := bcell hb6; have hl6 := blt hb6; have hz6 := hb6.size; (try simp only [World.size_drew, World.size_alloc, World.size_setCell] at hc6 hf6 hl6 hz6); (try have hq6x0 : w1.heap.size < w6.heap.size := (by omega)); (try have hq6x1 : w1.heap.size + 1 < w6.heap.size := (by omega)); (try have hr6x0 : w2.heap.size < w6.heap.size := (by omega)); (try have hs6x0 : ¬ w2.heap.size = w6.heap.size := (by omega)); (try have ht6x0 : ¬ w6.heap.size = w2.heap.size := (by omega)); (try have hr6x1 : w5.heap.size < w6.heap.size := (by omega)); (try have hs6x1 : ¬ w5.heap.size = w6.heap.size := (by omega)); (try have ht6x1 : ¬ w6.heap.size = w5.heap.size := (by omega))))
      all_goals
        go_ret
        exact ⟨rfl, by repeat (first | exact Below.refl _ _ | refine Below.setCell ?_ (by first | omega | (simp; done) | (simp; omega)) _ | refine Below.alloc ?_ (by first | omega | (simp; done) | (simp; omega)) _ | refine Below.drew ?_ | refine belowDrewN ?_ _ | refine Below.trans ?_ (Below.mono (by assumption) (by first | (simp; done) | (simp; omega) | omega)))⟩
    | true =>
      cases h3 : vokB (x + u) (y + v) with
      | false =>
        go_wp2_with (first
          | (go_at_call 25; refine (sVecOk_t _ _ _ (by assumption)).mono ?_; rintro e w6 ⟨rfl, hb6⟩; obtain ⟨hc6, hf6⟩ := bcell hb6; have hl6 := blt hb6; have hz6 := hb6.size; (try simp only [World.size_drew, World.size_alloc, World.size_setCell] at hc6 hf6 hl6 hz6); (try have hq6x0 : w1.heap.size < w6.heap.size := (by omega)); (try have hq6x1 : w1.heap.size + 1 < w6.heap.size := (by omega)); (try have hr6x0 : w2.heap.size < w6.heap.size := (by omega)); (try have hs6x0 : ¬ w2.heap.size = w6.heap.size := (by omega)); (try have ht6x0 : ¬ w6.heap.size = w2.heap.size := (by omega)); (try have hr6x1 : w5.heap.size < w6.heap.size := (by omega)); (try have hs6x1 : ¬ w5.heap.size = w6.heap.size := (by omega)); (try have ht6x1 : ¬ w6.heap.size = w5.heap.size := (by omega)))
          | (go_at_call 25; refine (sVecOk_n _ _ _ (by assumption)).mono ?_; rintro e w6 ⟨rfl, hb6⟩; obtain ⟨hc6, hf6⟩ := bcell hb6; have hl6 := blt hb6; have hz6 := hb6.size; (try simp only [World.size_drew, World.size_alloc, World.size_setCell] at hc6 hf6 hl6 hz6); (try have hq6x0 : w1.heap.size < w6.heap.size := (by omega)); (try have hq6x1 : w1.heap.size + 1 < w6.heap.size := (by omega)); (try have hr6x0 : w2.heap.size < w6.heap.size := (by omega)); (try have hs6x0 : ¬ w2.heap.size = w6.heap.size := (by omega)); (try have ht6x0 : ¬ w6.heap.size = w2.heap.size := (by omega)); (try have hr6x1 : w5.heap.size < w6.heap.size := (by omega)); (try have hs6x1 : ¬ w5.heap.size = w6.heap.size := (by omega)); (try have ht6x1 : ¬ w6.heap.size = w5.heap.size := (by omega))))
        all_goals
          go_ret
          exact ⟨rfl, by repeat (first | exact Below.refl _ _ | refine Below.setCell ?_ (by first | omega | (simp; done) | (simp; omega)) _ | refine Below.alloc ?_ (by first | omega | (simp; done) | (simp; omega)) _ | refine Below.drew ?_ | refine belowDrewN ?_ _ | refine Below.trans ?_ (Below.mono (by assumption) (by first | (simp; done) | (simp; omega) | omega)))⟩
      | true =>
        obtain ⟨fx, fy⟩ := vok_bd h1
        obtain ⟨fu, fv⟩ := vok_bd h2
        obtain ⟨fs, ft⟩ := vok_bd h3
        have hx1 : fc (fc x + fc u) = x + u := by rw [fx, fu, fs]
        have hy1 : fc (fc y + fc v) = y + v := by rw [fy, fv, ft]
        have hx2 : fc (fc (x + u) - fc u) = x := by rw [fs, fu, Int.add_sub_cancel, fx]
        have hy2 : fc (fc (y + v) - fc v) = y := by rw [ft, fv, Int.add_sub_cancel, fy]
        have h00 : fc 0 = 0 := rfl
        have hx3 : fc (fc x + 0) = x := by rw [Int.add_zero, fc_fc, fx]
        have hy3 : fc (fc y + 0) = y := by rw [Int.add_zero, fc_fc, fy]
        go_wp2_with (first
          | (go_at_call 25; refine (sVecOk_t _ _ _ (by assumption)).mono ?_; rintro e w6 ⟨rfl, hb6⟩; obtain ⟨hc6, hf6⟩ := bcell hb6; have hl6 := blt hb6; have hz6 := hb6.size; (try simp only [World.size_drew, World.size_alloc, World.size_setCell] at hc6 hf6 hl6 hz6); (try have hq6x0 : w1.heap.size < w6.heap.size := (by omega)); (try have hq6x1 : w1.heap.size + 1 < w6.heap.size := (by omega)); (try have hr6x0 : w2.heap.size < w6.heap.size := (by omega)); (try have hs6x0 : ¬ w2.heap.size = w6.heap.size := (by omega)); (try have ht6x0 : ¬ w6.heap.size = w2.heap.size := (by omega)); (try have hr6x1 : w5.heap.size < w6.heap.size := (by omega)); (try have hs6x1 : ¬ w5.heap.size = w6.heap.size := (by omega)); (try have ht6x1 : ¬ w6.heap.size = w5.heap.size := (by omega))))
        go_region_held3 (fun w' => w'.cell? ⟨w1.heap.size, 0, none⟩ = some (.int .i64 x) ∧ w'.cell? ⟨w1.heap.size, 1, none⟩ = some (.int .i64 y) ∧ w'.cell? ⟨w1.heap.size + 1, 0, none⟩ = some (.int .i64 u) ∧ w'.cell? ⟨w1.heap.size + 1, 1, none⟩ = some (.int .i64 v) ∧ w'.cell? ⟨w2.heap.size, 0, none⟩ = some (.int .i64 (x + u)) ∧ w'.cell? ⟨w2.heap.size, 1, none⟩ = some (.int .i64 (y + v)) ∧ w'.cell? ⟨w5.heap.size, 0, none⟩ = some (.int .i64 (x + u)) ∧ w'.cell? ⟨w5.heap.size, 1, none⟩ = some (.int .i64 (y + v))) (first | trivial | (go_simp; done) | (go_keep; done)) (first
            | (go_at_call 26; refine (vecSub_any _ _ _ _ _).mono ?_; rintro e w7 ⟨rfl, hb7⟩; obtain ⟨hc7, hf7⟩ := bcell hb7; have hl7 := blt hb7; have hz7 := hb7.size; (try simp only [World.size_drew, World.size_alloc, World.size_setCell] at hc7 hf7 hl7 hz7); (try have hq7x0 : w1.heap.size < w7.heap.size := (by omega)); (try have hq7x1 : w1.heap.size + 1 < w7.heap.size := (by omega)); (try have hr7x0 : w2.heap.size < w7.heap.size := (by omega)); (try have hs7x0 : ¬ w2.heap.size = w7.heap.size := (by omega)); (try have ht7x0 : ¬ w7.heap.size = w2.heap.size := (by omega)); (try have hr7x1 : w5.heap.size < w7.heap.size := (by omega)); (try have hs7x1 : ¬ w5.heap.size = w7.heap.size := (by omega)); (try have ht7x1 : ¬ w7.heap.size = w5.heap.size := (by omega)))
            | (go_at_call 22; refine (vecAdd_any _ _ _ _ _).mono ?_; rintro e w8 ⟨rfl, hb8⟩; obtain ⟨hc8, hf8⟩ := bcell hb8; have hl8 := blt hb8; have hz8 := hb8.size; (try simp only [World.size_drew, World.size_alloc, World.size_setCell] at hc8 hf8 hl8 hz8); (try have hq8x0 : w1.heap.size < w8.heap.size := (by omega)); (try have hq8x1 : w1.heap.size + 1 < w8.heap.size := (by omega)); (try have hr8x0 : w2.heap.size < w8.heap.size := (by omega)); (try have hs8x0 : ¬ w2.heap.size = w8.heap.size := (by omega)); (try have ht8x0 : ¬ w8.heap.size = w2.heap.size := (by omega)); (try have hr8x1 : w5.heap.size < w8.heap.size := (by omega)); (try have hs8x1 : ¬ w5.heap.size = w8.heap.size := (by omega)); (try have ht8x1 : ¬ w8.heap.size = w5.heap.size := (by omega))))
        all_goals
          go_wp2
          go_ret
          exact ⟨rfl, by repeat (first | exact Below.refl _ _ | refine Below.setCell ?_ (by first | omega | (simp; done) | (simp; omega)) _ | refine Below.alloc ?_ (by first | omega | (simp; done) | (simp; omega)) _ | refine Below.drew ?_ | refine belowDrewN ?_ _ | refine Below.trans ?_ (Below.mono (by assumption) (by first | (simp; done) | (simp; omega) | omega)))⟩
end Go.Proofs.Ytpfedfoiopcilaa
