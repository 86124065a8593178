/- The contracts of ShapeBounds. -/
import Derived.Test.YtnkebpbpempmhaaShB
import Derived.Test.YtnkebpbpempmhaaSpanAr
import Derived.Test.YtnkebpbpempmhaaSpanD
import Derived.Deep.QuietTactic
import Derived.BigQuiet
import Derived.Deep.RegionWith
import Derived.Deep.RegionHeld3
namespace Go.Proofs.Ytnkebpbpempmhaa
open Go.RowKit
set_option linter.unusedVariables false
set_option linter.unusedSimpArgs false

theorem me_r (v : Int) (w : World) : (method 267 128 (.agg #[.int .i64 v]) "loop.example/parquetry/impl.reach").run Try.prog w = .ok (150, .agg #[.int .i64 v]) w := by kernel_rfl
theorem me_b (v u : Int) (w : World) : (method 267 130 (.agg #[.int .i64 v, .int .i64 u]) "loop.example/parquetry/impl.reach").run Try.prog w = .ok (108, .agg #[.int .i64 v, .int .i64 u]) w := by kernel_rfl

set_option maxHeartbeats 2000000 in
theorem shBounds_n (k wd h x y : Int) (w : World) (hs : shB k wd h = false) :
    Calls Try.prog 21 #[s3 k wd h, vv x y] w fun e w' => e = .returned (b4 0 0 0 0) ∧ Below w.heap.size w w' := by
  have hset := cset_map
  go_enter Try.func21, Try.ntmps21
  go_wp2_with (first
    | (go_at_call 62; refine (figureOf_none _ _ _ _ (by assumption)).mono ?_; rintro e w1 ⟨rfl, hb1⟩; obtain ⟨hc1, hf1⟩ := bcell hb1; have hl1 := blt hb1; have hz1 := hb1.size; (try simp only [World.size_drew, World.size_alloc, World.size_setCell] at hc1 hf1 hl1 hz1); (try have hq1x0 : w.heap.size < w1.heap.size := (by omega)); (try have hq1x1 : w.heap.size + 1 < w1.heap.size := (by omega)); (try have hq1x2 : w.heap.size + 1 + 1 < w1.heap.size := (by omega))))
  all_goals
    exact bodyPost_ret (v := b4 0 0 0 0) (by simp [results, Try.results21, go_sem, *]) rfl ⟨rfl, by repeat (first | with_reducible apply Below.refl | (with_reducible apply Below.setCell; rotate_left; focus (first | omega | (simp; done) | (simp; omega))) | (with_reducible apply Below.alloc; rotate_left; focus (first | omega | (simp; done) | (simp; omega))) | with_reducible apply Below.drew | with_reducible apply belowDrewN | (with_reducible apply Below.trans; rotate_left; with_reducible apply Below.mono; with_reducible assumption; focus (first | omega | (simp; done) | (simp; omega))))⟩

set_option maxHeartbeats 2000000 in
theorem shBounds_rn (wd x y : Int) (w : World) (h1 : 1 ≤ wd) (h2 : wd ≤ 25600) (h0 : inB 2560000 x y = false) :
    Calls Try.prog 21 #[s3 1 wd 0, vv x y] w fun e w' => e = .returned (b4 0 0 0 0) ∧ Below w.heap.size w w' := by
  have hset := cset_map
  go_enter Try.func21, Try.ntmps21
  go_wp2_with (first
    | (go_at_call 62; refine (figureOf_round _ _ (by assumption) (by assumption)).mono ?_; rintro e w1 ⟨rfl, hb1⟩; obtain ⟨hc1, hf1⟩ := bcell hb1; have hl1 := blt hb1; have hz1 := hb1.size; (try simp only [World.size_drew, World.size_alloc, World.size_setCell] at hc1 hf1 hl1 hz1); (try have hq1x0 : w.heap.size < w1.heap.size := (by omega)); (try have hq1x1 : w.heap.size + 1 < w1.heap.size := (by omega)); (try have hq1x2 : w.heap.size + 1 + 1 < w1.heap.size := (by omega)))
    | (go_at_call 63; refine (isPlace_n _ _ _ (by assumption)).mono ?_; rintro e w2 ⟨rfl, hb2⟩; obtain ⟨hc2, hf2⟩ := bcell hb2; have hl2 := blt hb2; have hz2 := hb2.size; (try simp only [World.size_drew, World.size_alloc, World.size_setCell] at hc2 hf2 hl2 hz2); (try have hq2x0 : w.heap.size < w2.heap.size := (by omega)); (try have hq2x1 : w.heap.size + 1 < w2.heap.size := (by omega)); (try have hq2x2 : w.heap.size + 1 + 1 < w2.heap.size := (by omega)); (try have hq2x3 : w.heap.size + 1 + 1 + 1 < w2.heap.size := (by omega))))
  all_goals
    exact bodyPost_ret (v := b4 0 0 0 0) (by simp [results, Try.results21, go_sem, *]) rfl ⟨rfl, by repeat (first | with_reducible apply Below.refl | (with_reducible apply Below.setCell; rotate_left; focus (first | omega | (simp; done) | (simp; omega))) | (with_reducible apply Below.alloc; rotate_left; focus (first | omega | (simp; done) | (simp; omega))) | with_reducible apply Below.drew | with_reducible apply belowDrewN | (with_reducible apply Below.trans; rotate_left; with_reducible apply Below.mono; with_reducible assumption; focus (first | omega | (simp; done) | (simp; omega))))⟩

set_option maxRecDepth 20000 in
set_option maxHeartbeats 4000000 in
theorem shBounds_rt (wd x y : Int) (w : World) (h1 : 1 ≤ wd) (h2 : wd ≤ 25600) (h0 : inB 2560000 x y = true) :
    Calls Try.prog 21 #[s3 1 wd 0, vv x y] w fun e w' => e = .returned (b4 (x - wd) (y - wd) (x + wd) (y + wd)) ∧ Below w.heap.size w w' := by
  have hp := inB_of h0
  have hm1 := me_r
  have hm2 := me_b
  have hset := cset_map
  go_enter Try.func21, Try.ntmps21
  go_wp2_with (first
    | (go_at_call 62; refine (figureOf_round _ _ (by assumption) (by assumption)).mono ?_; rintro e w1 ⟨rfl, hb1⟩; obtain ⟨hc1, hf1⟩ := bcell hb1; have hl1 := blt hb1; have hz1 := hb1.size; (try simp only [World.size_drew, World.size_alloc, World.size_setCell] at hc1 hf1 hl1 hz1); (try have hq1x0 : w.heap.size < w1.heap.size := (by omega)); (try have hq1x1 : w.heap.size + 1 < w1.heap.size := (by omega)); (try have hq1x2 : w.heap.size + 1 + 1 < w1.heap.size := (by omega)))
    | (go_at_call 63; refine (isPlace_t _ _ _ (by assumption)).mono ?_; rintro e w2 ⟨rfl, hb2⟩; obtain ⟨hc2, hf2⟩ := bcell hb2; have hl2 := blt hb2; have hz2 := hb2.size; (try simp only [World.size_drew, World.size_alloc, World.size_setCell] at hc2 hf2 hl2 hz2); (try have hq2x0 : w.heap.size < w2.heap.size := (by omega)); (try have hq2x1 : w.heap.size + 1 < w2.heap.size := (by omega)); (try have hq2x2 : w.heap.size + 1 + 1 < w2.heap.size := (by omega)); (try have hq2x3 : w.heap.size + 1 + 1 + 1 < w2.heap.size := (by omega)))
    | (go_at_call 48; refine (wayOf_any _ _ _).mono ?_; rintro e w3 ⟨rfl, hb3⟩; obtain ⟨hc3, hf3⟩ := bcell hb3; have hl3 := blt hb3; have hz3 := hb3.size; (try simp only [World.size_drew, World.size_alloc, World.size_setCell] at hc3 hf3 hl3 hz3); (try have hq3x0 : w.heap.size < w3.heap.size := (by omega)); (try have hq3x1 : w.heap.size + 1 < w3.heap.size := (by omega)); (try have hq3x2 : w.heap.size + 1 + 1 < w3.heap.size := (by omega)); (try have hq3x3 : w.heap.size + 1 + 1 + 1 < w3.heap.size := (by omega)))
    | (go_at_call 150; refine (reach_r _ _).mono ?_; rintro e w4 ⟨rfl, hb4⟩; obtain ⟨hc4, hf4⟩ := bcell hb4; have hl4 := blt hb4; have hz4 := hb4.size; (try simp only [World.size_drew, World.size_alloc, World.size_setCell] at hc4 hf4 hl4 hz4); (try have hq4x0 : w.heap.size < w4.heap.size := (by omega)); (try have hq4x1 : w.heap.size + 1 < w4.heap.size := (by omega)); (try have hq4x2 : w.heap.size + 1 + 1 < w4.heap.size := (by omega)); (try have hq4x3 : w.heap.size + 1 + 1 + 1 < w4.heap.size := (by omega)))
    | (go_at_call 64; refine (spanAround_any _ _ _ _ _ (by omega) (by omega) (by omega) (by omega)).mono ?_; rintro e w5 ⟨rfl, hb5⟩; obtain ⟨hc5, hf5⟩ := bcell hb5; have hl5 := blt hb5; have hz5 := hb5.size; (try simp only [World.size_drew, World.size_alloc, World.size_setCell] at hc5 hf5 hl5 hz5); (try have hq5x0 : w.heap.size < w5.heap.size := (by omega)); (try have hq5x1 : w.heap.size + 1 < w5.heap.size := (by omega)); (try have hq5x2 : w.heap.size + 1 + 1 < w5.heap.size := (by omega)); (try have hq5x3 : w.heap.size + 1 + 1 + 1 < w5.heap.size := (by omega)))
    | (go_at_call 43; refine (spanBox_any _ _ _ _ _).mono ?_; rintro e w6 ⟨rfl, hb6⟩; obtain ⟨hc6, hf6⟩ := bcell hb6; have hl6 := blt hb6; have hz6 := hb6.size; (try simp only [World.size_drew, World.size_alloc, World.size_setCell] at hc6 hf6 hl6 hz6); (try have hq6x0 : w.heap.size < w6.heap.size := (by omega)); (try have hq6x1 : w.heap.size + 1 < w6.heap.size := (by omega)); (try have hq6x2 : w.heap.size + 1 + 1 < w6.heap.size := (by omega)); (try have hq6x3 : w.heap.size + 1 + 1 + 1 < w6.heap.size := (by omega))))
  all_goals
    exact bodyPost_ret (v := b4 (x - wd) (y - wd) (x + wd) (y + wd)) (by simp [results, Try.results21, go_sem, *]) rfl ⟨rfl, by repeat (first | with_reducible apply Below.refl | (with_reducible apply Below.setCell; rotate_left; focus (first | omega | (simp; done) | (simp; omega))) | (with_reducible apply Below.alloc; rotate_left; focus (first | omega | (simp; done) | (simp; omega))) | with_reducible apply Below.drew | with_reducible apply belowDrewN | (with_reducible apply Below.trans; rotate_left; with_reducible apply Below.mono; with_reducible assumption; focus (first | omega | (simp; done) | (simp; omega))))⟩

set_option maxHeartbeats 2000000 in
theorem shBounds_bn (wd h x y : Int) (w : World) (h1 : 1 ≤ wd) (h2 : wd ≤ 25600) (h3 : 1 ≤ h) (h4 : h ≤ 25600) (h0 : inB 2560000 x y = false) :
    Calls Try.prog 21 #[s3 2 wd h, vv x y] w fun e w' => e = .returned (b4 0 0 0 0) ∧ Below w.heap.size w w' := by
  have hset := cset_map
  go_enter Try.func21, Try.ntmps21
  go_wp2_with (first
    | (go_at_call 62; refine (figureOf_box _ _ _ (by assumption) (by assumption) (by assumption) (by assumption)).mono ?_; rintro e w1 ⟨rfl, hb1⟩; obtain ⟨hc1, hf1⟩ := bcell hb1; have hl1 := blt hb1; have hz1 := hb1.size; (try simp only [World.size_drew, World.size_alloc, World.size_setCell] at hc1 hf1 hl1 hz1); (try have hq1x0 : w.heap.size < w1.heap.size := (by omega)); (try have hq1x1 : w.heap.size + 1 < w1.heap.size := (by omega)); (try have hq1x2 : w.heap.size + 1 + 1 < w1.heap.size := (by omega)))
    | (go_at_call 63; refine (isPlace_n _ _ _ (by assumption)).mono ?_; rintro e w2 ⟨rfl, hb2⟩; obtain ⟨hc2, hf2⟩ := bcell hb2; have hl2 := blt hb2; have hz2 := hb2.size; (try simp only [World.size_drew, World.size_alloc, World.size_setCell] at hc2 hf2 hl2 hz2); (try have hq2x0 : w.heap.size < w2.heap.size := (by omega)); (try have hq2x1 : w.heap.size + 1 < w2.heap.size := (by omega)); (try have hq2x2 : w.heap.size + 1 + 1 < w2.heap.size := (by omega)); (try have hq2x3 : w.heap.size + 1 + 1 + 1 < w2.heap.size := (by omega))))
  all_goals
    exact bodyPost_ret (v := b4 0 0 0 0) (by simp [results, Try.results21, go_sem, *]) rfl ⟨rfl, by repeat (first | with_reducible apply Below.refl | (with_reducible apply Below.setCell; rotate_left; focus (first | omega | (simp; done) | (simp; omega))) | (with_reducible apply Below.alloc; rotate_left; focus (first | omega | (simp; done) | (simp; omega))) | with_reducible apply Below.drew | with_reducible apply belowDrewN | (with_reducible apply Below.trans; rotate_left; with_reducible apply Below.mono; with_reducible assumption; focus (first | omega | (simp; done) | (simp; omega))))⟩

set_option maxRecDepth 20000 in
set_option maxHeartbeats 4000000 in
theorem shBounds_bt (wd h x y : Int) (w : World) (h1 : 1 ≤ wd) (h2 : wd ≤ 25600) (h3 : 1 ≤ h) (h4 : h ≤ 25600) (h0 : inB 2560000 x y = true) :
    Calls Try.prog 21 #[s3 2 wd h, vv x y] w fun e w' => e = .returned (b4 (x - wd) (y - h) (x + wd) (y + h)) ∧ Below w.heap.size w w' := by
  have hp := inB_of h0
  have hm1 := me_r
  have hm2 := me_b
  have hset := cset_map
  go_enter Try.func21, Try.ntmps21
  go_wp2_with (first
    | (go_at_call 62; refine (figureOf_box _ _ _ (by assumption) (by assumption) (by assumption) (by assumption)).mono ?_; rintro e w1 ⟨rfl, hb1⟩; obtain ⟨hc1, hf1⟩ := bcell hb1; have hl1 := blt hb1; have hz1 := hb1.size; (try simp only [World.size_drew, World.size_alloc, World.size_setCell] at hc1 hf1 hl1 hz1); (try have hq1x0 : w.heap.size < w1.heap.size := (by omega)); (try have hq1x1 : w.heap.size + 1 < w1.heap.size := (by omega)); (try have hq1x2 : w.heap.size + 1 + 1 < w1.heap.size := (by omega)))
    | (go_at_call 63; refine (isPlace_t _ _ _ (by assumption)).mono ?_; rintro e w2 ⟨rfl, hb2⟩; obtain ⟨hc2, hf2⟩ := bcell hb2; have hl2 := blt hb2; have hz2 := hb2.size; (try simp only [World.size_drew, World.size_alloc, World.size_setCell] at hc2 hf2 hl2 hz2); (try have hq2x0 : w.heap.size < w2.heap.size := (by omega)); (try have hq2x1 : w.heap.size + 1 < w2.heap.size := (by omega)); (try have hq2x2 : w.heap.size + 1 + 1 < w2.heap.size := (by omega)); (try have hq2x3 : w.heap.size + 1 + 1 + 1 < w2.heap.size := (by omega)))
    | (go_at_call 48; refine (wayOf_any _ _ _).mono ?_; rintro e w3 ⟨rfl, hb3⟩; obtain ⟨hc3, hf3⟩ := bcell hb3; have hl3 := blt hb3; have hz3 := hb3.size; (try simp only [World.size_drew, World.size_alloc, World.size_setCell] at hc3 hf3 hl3 hz3); (try have hq3x0 : w.heap.size < w3.heap.size := (by omega)); (try have hq3x1 : w.heap.size + 1 < w3.heap.size := (by omega)); (try have hq3x2 : w.heap.size + 1 + 1 < w3.heap.size := (by omega)); (try have hq3x3 : w.heap.size + 1 + 1 + 1 < w3.heap.size := (by omega)))
    | (go_at_call 108; refine (reach_b _ _ _).mono ?_; rintro e w4 ⟨rfl, hb4⟩; obtain ⟨hc4, hf4⟩ := bcell hb4; have hl4 := blt hb4; have hz4 := hb4.size; (try simp only [World.size_drew, World.size_alloc, World.size_setCell] at hc4 hf4 hl4 hz4); (try have hq4x0 : w.heap.size < w4.heap.size := (by omega)); (try have hq4x1 : w.heap.size + 1 < w4.heap.size := (by omega)); (try have hq4x2 : w.heap.size + 1 + 1 < w4.heap.size := (by omega)); (try have hq4x3 : w.heap.size + 1 + 1 + 1 < w4.heap.size := (by omega)))
    | (go_at_call 64; refine (spanAround_any _ _ _ _ _ (by omega) (by omega) (by omega) (by omega)).mono ?_; rintro e w5 ⟨rfl, hb5⟩; obtain ⟨hc5, hf5⟩ := bcell hb5; have hl5 := blt hb5; have hz5 := hb5.size; (try simp only [World.size_drew, World.size_alloc, World.size_setCell] at hc5 hf5 hl5 hz5); (try have hq5x0 : w.heap.size < w5.heap.size := (by omega)); (try have hq5x1 : w.heap.size + 1 < w5.heap.size := (by omega)); (try have hq5x2 : w.heap.size + 1 + 1 < w5.heap.size := (by omega)); (try have hq5x3 : w.heap.size + 1 + 1 + 1 < w5.heap.size := (by omega)))
    | (go_at_call 43; refine (spanBox_any _ _ _ _ _).mono ?_; rintro e w6 ⟨rfl, hb6⟩; obtain ⟨hc6, hf6⟩ := bcell hb6; have hl6 := blt hb6; have hz6 := hb6.size; (try simp only [World.size_drew, World.size_alloc, World.size_setCell] at hc6 hf6 hl6 hz6); (try have hq6x0 : w.heap.size < w6.heap.size := (by omega)); (try have hq6x1 : w.heap.size + 1 < w6.heap.size := (by omega)); (try have hq6x2 : w.heap.size + 1 + 1 < w6.heap.size := (by omega)); (try have hq6x3 : w.heap.size + 1 + 1 + 1 < w6.heap.size := (by omega))))
  all_goals
    exact bodyPost_ret (v := b4 (x - wd) (y - h) (x + wd) (y + h)) (by simp [results, Try.results21, go_sem, *]) rfl ⟨rfl, by repeat (first | with_reducible apply Below.refl | (with_reducible apply Below.setCell; rotate_left; focus (first | omega | (simp; done) | (simp; omega))) | (with_reducible apply Below.alloc; rotate_left; focus (first | omega | (simp; done) | (simp; omega))) | with_reducible apply Below.drew | with_reducible apply belowDrewN | (with_reducible apply Below.trans; rotate_left; with_reducible apply Below.mono; with_reducible assumption; focus (first | omega | (simp; done) | (simp; omega))))⟩

def sbA (k wd h x y : Int) : Int := bb (shB k wd h && inB 2560000 x y) (x - wd)
def sbB (k wd h x y : Int) : Int := bb (shB k wd h && inB 2560000 x y) (y - hh k wd h)
def sbC (k wd h x y : Int) : Int := bb (shB k wd h && inB 2560000 x y) (x + wd)
def sbD (k wd h x y : Int) : Int := bb (shB k wd h && inB 2560000 x y) (y + hh k wd h)

theorem shapeBounds_any (k wd h x y : Int) (w : World) :
    Calls Try.prog 21 #[s3 k wd h, vv x y] w fun e w' => e = .returned (b4 (sbA k wd h x y) (sbB k wd h x y) (sbC k wd h x y) (sbD k wd h x y)) ∧ Below w.heap.size w w' := by
  unfold sbA sbB sbC sbD
  cases hs : shB k wd h with
  | false => simp only [Bool.false_and, bb_f]; exact shBounds_n k wd h x y w hs
  | true =>
    have hq := hs
    unfold shB at hq
    simp only [Bool.or_eq_true] at hq
    cases h0 : inB 2560000 x y with
    | false =>
      simp only [Bool.true_and, bb_f]
      rcases hq with hq | hq
      · unfold rdB at hq; obtain ⟨rfl, ⟨h1, h2⟩, rfl⟩ := of_decide_eq_true hq; exact shBounds_rn wd x y w h1 h2 h0
      · unfold bxB at hq; obtain ⟨rfl, ⟨h1, h2⟩, h3, h4⟩ := of_decide_eq_true hq; exact shBounds_bn wd h x y w h1 h2 h3 h4 h0
    | true =>
      simp only [Bool.true_and, bb_t]
      rcases hq with hq | hq
      · unfold rdB at hq; obtain ⟨rfl, ⟨h1, h2⟩, rfl⟩ := of_decide_eq_true hq; exact shBounds_rt wd x y w h1 h2 h0
      · unfold bxB at hq; obtain ⟨rfl, ⟨h1, h2⟩, h3, h4⟩ := of_decide_eq_true hq; exact shBounds_bt wd h x y w h1 h2 h3 h4 h0

end Go.Proofs.Ytnkebpbpempmhaa
