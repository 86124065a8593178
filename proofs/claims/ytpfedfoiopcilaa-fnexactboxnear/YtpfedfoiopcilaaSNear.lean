/- The contract of the specification's BoxNear. -/
import Derived.Test.YtpfedfoiopcilaaSBase
import Derived.Deep.QuietTactic
import Derived.BigQuiet
import Derived.Deep.RegionWith
import Derived.Deep.RegionHeld3
namespace Go.Proofs.Ytpfedfoiopcilaa
open Go.RowKit
set_option linter.unusedVariables false
set_option linter.unusedSimpArgs false

set_option maxHeartbeats 4000000 in
theorem l3Near_any (a b c d x y : Int) (w : World) :
    Calls Try.prog 110 #[b4 a b c d, vv x y] w fun e w' => e = .returned (vv (mn (mx x a) c) (mn (mx y b) d)) ∧ Below w.heap.size w w' := by
  have hset := cset_map
  go_enter Try.func110, Try.ntmps110
  go_wp2
  go_region_held3 (fun w' => w'.cell? ⟨w.heap.size, 0, none⟩ = some (.int .i64 a) ∧ w'.cell? ⟨w.heap.size, 1, none⟩ = some (.int .i64 b) ∧ w'.cell? ⟨w.heap.size, 2, none⟩ = some (.int .i64 c) ∧ w'.cell? ⟨w.heap.size, 3, none⟩ = some (.int .i64 d) ∧ w'.cell? ⟨w.heap.size + 1, 0, none⟩ = some (.int .i64 x) ∧ w'.cell? ⟨w.heap.size + 1, 1, none⟩ = some (.int .i64 y)) (first | trivial | (go_simp; done) | (go_keep; done)) (first
    | (go_at_call 115; refine (l3Less_any _ _ _).mono ?_; rintro e w' ⟨rfl, rfl⟩)
    | (go_at_call 116; refine (l3More_any _ _ _).mono ?_; rintro e w' ⟨rfl, rfl⟩))
  all_goals
    go_wp2
    exact bodyPost_ret (v := vv (mn (mx x a) c) (mn (mx y b) d)) (by simp [results, Try.results110, go_sem, *]) rfl ⟨rfl, by repeat (first | exact Below.refl _ _ | refine Below.setCell ?_ (by first | omega | (simp; done) | (simp; omega)) _ | refine Below.alloc ?_ (by first | omega | (simp; done) | (simp; omega)) _ | refine Below.drew ?_ | refine belowDrewN ?_ _ | refine Below.trans ?_ (Below.mono (by assumption) (by first | (simp; done) | (simp; omega) | omega)))⟩

set_option maxHeartbeats 4000000 in
theorem snear_n1 (a b c d x y : Int) (w : World) (h1 : bokB a b c d = false) :
    Calls Try.prog 65 #[b4 a b c d, vv x y] w fun e w' => e = .returned (vv 0 0) ∧ Below w.heap.size w w' := by
  have hset := cset_map
  go_enter Try.func65, Try.ntmps65
  go_wp2_with (first
    | (go_at_call 57; refine (sBoxOk_t _ _ _ _ _ (by assumption)).mono ?_; rintro e w1 ⟨rfl, hb1⟩; obtain ⟨hc1, hf1⟩ := bcell hb1; have hl1 := blt hb1; have hz1 := hb1.size; (try simp only [World.size_drew, World.size_alloc, World.size_setCell] at hc1 hf1 hl1 hz1); (try have hq1x0 : w.heap.size < w1.heap.size := (by omega)); (try have hq1x1 : w.heap.size + 1 < w1.heap.size := (by omega)); (try have hq1x2 : w.heap.size + 1 + 1 < w1.heap.size := (by omega)))
    | (go_at_call 57; refine (sBoxOk_n _ _ _ _ _ (by assumption)).mono ?_; rintro e w1 ⟨rfl, hb1⟩; obtain ⟨hc1, hf1⟩ := bcell hb1; have hl1 := blt hb1; have hz1 := hb1.size; (try simp only [World.size_drew, World.size_alloc, World.size_setCell] at hc1 hf1 hl1 hz1); (try have hq1x0 : w.heap.size < w1.heap.size := (by omega)); (try have hq1x1 : w.heap.size + 1 < w1.heap.size := (by omega)); (try have hq1x2 : w.heap.size + 1 + 1 < w1.heap.size := (by omega)))
    | (go_at_call 25; refine (sVecOk_t _ _ _ (by assumption)).mono ?_; rintro e w1 ⟨rfl, hb1⟩; obtain ⟨hc1, hf1⟩ := bcell hb1; have hl1 := blt hb1; have hz1 := hb1.size; (try simp only [World.size_drew, World.size_alloc, World.size_setCell] at hc1 hf1 hl1 hz1); (try have hq1x0 : w.heap.size < w1.heap.size := (by omega)); (try have hq1x1 : w.heap.size + 1 < w1.heap.size := (by omega)); (try have hq1x2 : w.heap.size + 1 + 1 < w1.heap.size := (by omega)))
    | (go_at_call 25; refine (sVecOk_n _ _ _ (by assumption)).mono ?_; rintro e w1 ⟨rfl, hb1⟩; obtain ⟨hc1, hf1⟩ := bcell hb1; have hl1 := blt hb1; have hz1 := hb1.size; (try simp only [World.size_drew, World.size_alloc, World.size_setCell] at hc1 hf1 hl1 hz1); (try have hq1x0 : w.heap.size < w1.heap.size := (by omega)); (try have hq1x1 : w.heap.size + 1 < w1.heap.size := (by omega)); (try have hq1x2 : w.heap.size + 1 + 1 < w1.heap.size := (by omega)))
    | (go_at_call 110; refine (l3Near_any _ _ _ _ _ _ _).mono ?_; rintro e w2 ⟨rfl, hb2⟩; obtain ⟨hc2, hf2⟩ := bcell hb2; have hl2 := blt hb2; have hz2 := hb2.size; (try simp only [World.size_drew, World.size_alloc, World.size_setCell] at hc2 hf2 hl2 hz2); (try have hq2x0 : w.heap.size < w2.heap.size := (by omega)); (try have hq2x1 : w.heap.size + 1 < w2.heap.size := (by omega)); (try have hq2x2 : w.heap.size + 1 + 1 < w2.heap.size := (by omega))))
  all_goals
    exact bodyPost_ret (v := vv 0 0) (by simp [results, Try.results65, go_sem, *]) rfl ⟨rfl, by repeat (first | exact Below.refl _ _ | refine Below.setCell ?_ (by first | omega | (simp; done) | (simp; omega)) _ | refine Below.alloc ?_ (by first | omega | (simp; done) | (simp; omega)) _ | refine Below.drew ?_ | refine belowDrewN ?_ _ | refine Below.trans ?_ (Below.mono (by assumption) (by first | (simp; done) | (simp; omega) | omega)))⟩

set_option maxHeartbeats 4000000 in
theorem snear_n2 (a b c d x y : Int) (w : World) (h1 : bokB a b c d = true) (h2 : vokB x y = false) :
    Calls Try.prog 65 #[b4 a b c d, vv x y] w fun e w' => e = .returned (vv 0 0) ∧ Below w.heap.size w w' := by
  have hset := cset_map
  go_enter Try.func65, Try.ntmps65
  go_wp2_with (first
    | (go_at_call 57; refine (sBoxOk_t _ _ _ _ _ (by assumption)).mono ?_; rintro e w1 ⟨rfl, hb1⟩; obtain ⟨hc1, hf1⟩ := bcell hb1; have hl1 := blt hb1; have hz1 := hb1.size; (try simp only [World.size_drew, World.size_alloc, World.size_setCell] at hc1 hf1 hl1 hz1); (try have hq1x0 : w.heap.size < w1.heap.size := (by omega)); (try have hq1x1 : w.heap.size + 1 < w1.heap.size := (by omega)); (try have hq1x2 : w.heap.size + 1 + 1 < w1.heap.size := (by omega)))
    | (go_at_call 57; refine (sBoxOk_n _ _ _ _ _ (by assumption)).mono ?_; rintro e w1 ⟨rfl, hb1⟩; obtain ⟨hc1, hf1⟩ := bcell hb1; have hl1 := blt hb1; have hz1 := hb1.size; (try simp only [World.size_drew, World.size_alloc, World.size_setCell] at hc1 hf1 hl1 hz1); (try have hq1x0 : w.heap.size < w1.heap.size := (by omega)); (try have hq1x1 : w.heap.size + 1 < w1.heap.size := (by omega)); (try have hq1x2 : w.heap.size + 1 + 1 < w1.heap.size := (by omega)))
    | (go_at_call 25; refine (sVecOk_t _ _ _ (by assumption)).mono ?_; rintro e w1 ⟨rfl, hb1⟩; obtain ⟨hc1, hf1⟩ := bcell hb1; have hl1 := blt hb1; have hz1 := hb1.size; (try simp only [World.size_drew, World.size_alloc, World.size_setCell] at hc1 hf1 hl1 hz1); (try have hq1x0 : w.heap.size < w1.heap.size := (by omega)); (try have hq1x1 : w.heap.size + 1 < w1.heap.size := (by omega)); (try have hq1x2 : w.heap.size + 1 + 1 < w1.heap.size := (by omega)))
    | (go_at_call 25; refine (sVecOk_n _ _ _ (by assumption)).mono ?_; rintro e w1 ⟨rfl, hb1⟩; obtain ⟨hc1, hf1⟩ := bcell hb1; have hl1 := blt hb1; have hz1 := hb1.size; (try simp only [World.size_drew, World.size_alloc, World.size_setCell] at hc1 hf1 hl1 hz1); (try have hq1x0 : w.heap.size < w1.heap.size := (by omega)); (try have hq1x1 : w.heap.size + 1 < w1.heap.size := (by omega)); (try have hq1x2 : w.heap.size + 1 + 1 < w1.heap.size := (by omega)))
    | (go_at_call 110; refine (l3Near_any _ _ _ _ _ _ _).mono ?_; rintro e w2 ⟨rfl, hb2⟩; obtain ⟨hc2, hf2⟩ := bcell hb2; have hl2 := blt hb2; have hz2 := hb2.size; (try simp only [World.size_drew, World.size_alloc, World.size_setCell] at hc2 hf2 hl2 hz2); (try have hq2x0 : w.heap.size < w2.heap.size := (by omega)); (try have hq2x1 : w.heap.size + 1 < w2.heap.size := (by omega)); (try have hq2x2 : w.heap.size + 1 + 1 < w2.heap.size := (by omega))))
  all_goals
    exact bodyPost_ret (v := vv 0 0) (by simp [results, Try.results65, go_sem, *]) rfl ⟨rfl, by repeat (first | exact Below.refl _ _ | refine Below.setCell ?_ (by first | omega | (simp; done) | (simp; omega)) _ | refine Below.alloc ?_ (by first | omega | (simp; done) | (simp; omega)) _ | refine Below.drew ?_ | refine belowDrewN ?_ _ | refine Below.trans ?_ (Below.mono (by assumption) (by first | (simp; done) | (simp; omega) | omega)))⟩

set_option maxHeartbeats 8000000 in
theorem snear_y (a b c d x y : Int) (w : World) (h1 : bokB a b c d = true) (h2 : vokB x y = true) :
    Calls Try.prog 65 #[b4 a b c d, vv x y] w fun e w' => e = .returned (vv (mn (mx x a) c) (mn (mx y b) d)) ∧ Below w.heap.size w w' := by
  have hset := cset_map
  go_enter Try.func65, Try.ntmps65
  go_wp2_with (first
    | (go_at_call 57; refine (sBoxOk_t _ _ _ _ _ (by assumption)).mono ?_; rintro e w1 ⟨rfl, hb1⟩; obtain ⟨hc1, hf1⟩ := bcell hb1; have hl1 := blt hb1; have hz1 := hb1.size; (try simp only [World.size_drew, World.size_alloc, World.size_setCell] at hc1 hf1 hl1 hz1); (try have hq1x0 : w.heap.size < w1.heap.size := (by omega)); (try have hq1x1 : w.heap.size + 1 < w1.heap.size := (by omega)); (try have hq1x2 : w.heap.size + 1 + 1 < w1.heap.size := (by omega)))
    | (go_at_call 57; refine (sBoxOk_n _ _ _ _ _ (by assumption)).mono ?_; rintro e w1 ⟨rfl, hb1⟩; obtain ⟨hc1, hf1⟩ := bcell hb1; have hl1 := blt hb1; have hz1 := hb1.size; (try simp only [World.size_drew, World.size_alloc, World.size_setCell] at hc1 hf1 hl1 hz1); (try have hq1x0 : w.heap.size < w1.heap.size := (by omega)); (try have hq1x1 : w.heap.size + 1 < w1.heap.size := (by omega)); (try have hq1x2 : w.heap.size + 1 + 1 < w1.heap.size := (by omega)))
    | (go_at_call 25; refine (sVecOk_t _ _ _ (by assumption)).mono ?_; rintro e w1 ⟨rfl, hb1⟩; obtain ⟨hc1, hf1⟩ := bcell hb1; have hl1 := blt hb1; have hz1 := hb1.size; (try simp only [World.size_drew, World.size_alloc, World.size_setCell] at hc1 hf1 hl1 hz1); (try have hq1x0 : w.heap.size < w1.heap.size := (by omega)); (try have hq1x1 : w.heap.size + 1 < w1.heap.size := (by omega)); (try have hq1x2 : w.heap.size + 1 + 1 < w1.heap.size := (by omega)))
    | (go_at_call 25; refine (sVecOk_n _ _ _ (by assumption)).mono ?_; rintro e w1 ⟨rfl, hb1⟩; obtain ⟨hc1, hf1⟩ := bcell hb1; have hl1 := blt hb1; have hz1 := hb1.size; (try simp only [World.size_drew, World.size_alloc, World.size_setCell] at hc1 hf1 hl1 hz1); (try have hq1x0 : w.heap.size < w1.heap.size := (by omega)); (try have hq1x1 : w.heap.size + 1 < w1.heap.size := (by omega)); (try have hq1x2 : w.heap.size + 1 + 1 < w1.heap.size := (by omega)))
    | (go_at_call 110; refine (l3Near_any _ _ _ _ _ _ _).mono ?_; rintro e w2 ⟨rfl, hb2⟩; obtain ⟨hc2, hf2⟩ := bcell hb2; have hl2 := blt hb2; have hz2 := hb2.size; (try simp only [World.size_drew, World.size_alloc, World.size_setCell] at hc2 hf2 hl2 hz2); (try have hq2x0 : w.heap.size < w2.heap.size := (by omega)); (try have hq2x1 : w.heap.size + 1 < w2.heap.size := (by omega)); (try have hq2x2 : w.heap.size + 1 + 1 < w2.heap.size := (by omega))))
  all_goals
    exact bodyPost_ret (v := vv (mn (mx x a) c) (mn (mx y b) d)) (by simp [results, Try.results65, go_sem, *]) rfl ⟨rfl, by repeat (first | exact Below.refl _ _ | refine Below.setCell ?_ (by first | omega | (simp; done) | (simp; omega)) _ | refine Below.alloc ?_ (by first | omega | (simp; done) | (simp; omega)) _ | refine Below.drew ?_ | refine belowDrewN ?_ _ | refine Below.trans ?_ (Below.mono (by assumption) (by first | (simp; done) | (simp; omega) | omega)))⟩

theorem sBoxNear_any (a b c d x y : Int) (w : World) :
    Calls Try.prog 65 #[b4 a b c d, vv x y] w fun e w' => e = .returned (vv (bb (bokB a b c d && vokB x y) (mn (mx x a) c)) (bb (bokB a b c d && vokB x y) (mn (mx y b) d))) ∧ Below w.heap.size w w' := by
  cases h1 : bokB a b c d with
  | false => simp only [Bool.false_and, bb_f]; exact snear_n1 a b c d x y w h1
  | true =>
    cases h2 : vokB x y with
    | false => simp only [Bool.true_and, bb_f]; exact snear_n2 a b c d x y w h1 h2
    | true => simp only [Bool.true_and, bb_t]; exact snear_y a b c d x y w h1 h2

end Go.Proofs.Ytpfedfoiopcilaa
