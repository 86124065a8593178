/- Texts of a proof. -/
import Derived.Test.YtdajfjipomkpdaaGreatB3
import Derived.Deep.QuietTactic
import Derived.BigQuiet
import Derived.Deep.RegionWith
import Derived.Deep.RegionHeld3
import Derived.Test.YtdajfjipomkpdaaGreatB2
import Derived.Test.YtdajfjipomkpdaaGreatB14
import Derived.Test.YtdajfjipomkpdaaGreatB1
import Derived.Test.YtdajfjipomkpdaaGreatB18
import Derived.Test.YtdajfjipomkpdaaGreatB8
import Derived.Deep.DeepCutAuto
import Derived.Handy
import Derived.Deep.LoopGhost
import Derived.Below
import Derived.Test.YtdajfjipomkpdaaGreatB6
namespace Go.Proofs.YtdajfjipomkpdaaGreat
open Go.RowKit
set_option linter.unusedVariables false
set_option linter.unusedSimpArgs false
def hasV (k g h x y u v : Int) : Bool := if k = 2 then ptB (x - g) (y - h) (x + g) (y + h) u v else decide ((u - x) * (u - x) + (v - y) * (v - y) ≤ g * g)
def shV (k g h x y u v : Int) : Bool := shB k g h && (inB 2560000 x y && (inB 2560000 u v && hasV k g h x y u v))
set_option maxHeartbeats 8000000 in
theorem spanAround_any (x y u v : Int) (w : World) (hx : -4000000000 ≤ x ∧ x ≤ 4000000000) (hy : -4000000000 ≤ y ∧ y ≤ 4000000000) (hu : -4000000000 ≤ u ∧ u ≤ 4000000000) (hv : -4000000000 ≤ v ∧ v ≤ 4000000000) :
    Calls Tryz.prog 35 #[vv x y, vv u v] w fun e w' => e = .returned (b4 (x - u) (y - v) (x + u) (y + v)) ∧ Below w.heap.size w w' := by
  have hset := cset_map
  go_enter Tryz.func35, Tryz.ntmps35
  go_wp2
  go_region_held3 (fun w' => w'.cell? ⟨w.heap.size, 0, none⟩ = some (.int .i64 x) ∧ w'.cell? ⟨w.heap.size, 1, none⟩ = some (.int .i64 y) ∧ w'.cell? ⟨w.heap.size + 1, 0, none⟩ = some (.int .i64 u) ∧ w'.cell? ⟨w.heap.size + 1, 1, none⟩ = some (.int .i64 v)) (first | (go_simp; done) | (go_keep; done)) (first
    | (go_at_call 56; refine (plus_any _ _ _ _ _ (by omega) (by omega) (by omega) (by omega)).mono ?_; rintro e w1 ⟨rfl, hb1⟩; obtain ⟨hc1, hf1⟩ := bcell hb1; have hl1 := blt hb1; have hz1 := hb1.size; (try simp only [World.size_drew, World.size_alloc, World.size_setCell] at hc1 hf1 hl1 hz1); (try have hq1x0 : w.heap.size < w1.heap.size := (by omega)); (try have hq1x1 : w.heap.size + 1 < w1.heap.size := (by omega)); (try have hq1x2 : w.heap.size + 1 + 1 < w1.heap.size := (by omega)))
    | (go_at_call 44; refine (less_any _ _ _ _ _ (by omega) (by omega) (by omega) (by omega)).mono ?_; rintro e w1 ⟨rfl, hb1⟩; obtain ⟨hc1, hf1⟩ := bcell hb1; have hl1 := blt hb1; have hz1 := hb1.size; (try simp only [World.size_drew, World.size_alloc, World.size_setCell] at hc1 hf1 hl1 hz1); (try have hq1x0 : w.heap.size < w1.heap.size := (by omega)); (try have hq1x1 : w.heap.size + 1 < w1.heap.size := (by omega)); (try have hq1x2 : w.heap.size + 1 + 1 < w1.heap.size := (by omega))))
  all_goals
    go_wp2
    exact bodyPost_ret (v := b4 (x - u) (y - v) (x + u) (y + v)) (by simp [results, Tryz.results35, go_sem, *]) rfl ⟨rfl, bel_a⟩
theorem me_r (v : Int) (w : World) : (method 287 91 (.agg #[.int .i64 v]) "loop.example/parquetry/impl.reach").run Tryz.prog w = .ok (165, .agg #[.int .i64 v]) w := by kernel_rfl
theorem me_b (v u : Int) (w : World) : (method 287 93 (.agg #[.int .i64 v, .int .i64 u]) "loop.example/parquetry/impl.reach").run Tryz.prog w = .ok (166, .agg #[.int .i64 v, .int .i64 u]) w := by kernel_rfl
set_option maxHeartbeats 2000000 in
theorem shBounds_n (k wd h x y : Int) (w : World) (hs : shB k wd h = false) :
    Calls Tryz.prog 12 #[s3 k wd h, vv x y] w fun e w' => e = .returned (b4 0 0 0 0) ∧ Below w.heap.size w w' := by
  have hset := cset_map
  go_enter Tryz.func12, Tryz.ntmps12
  go_wp2_with (first
    | (go_at_call 33; refine (figureOf_none _ _ _ _ (by assumption)).mono ?_; rintro e w1 ⟨rfl, hb1⟩; obtain ⟨hc1, hf1⟩ := bcell hb1; have hl1 := blt hb1; have hz1 := hb1.size; (try simp only [World.size_drew, World.size_alloc, World.size_setCell] at hc1 hf1 hl1 hz1); (try have hq1x0 : w.heap.size < w1.heap.size := (by omega)); (try have hq1x1 : w.heap.size + 1 < w1.heap.size := (by omega)); (try have hq1x2 : w.heap.size + 1 + 1 < w1.heap.size := (by omega))))
  all_goals
    exact bodyPost_ret (v := b4 0 0 0 0) (by simp [results, Tryz.results12, go_sem, *]) rfl ⟨rfl, bel_a⟩
set_option maxHeartbeats 2000000 in
theorem shBounds_rn (wd x y : Int) (w : World) (h1 : 1 ≤ wd) (h2 : wd ≤ 25600) (h0 : inB 2560000 x y = false) :
    Calls Tryz.prog 12 #[s3 1 wd 0, vv x y] w fun e w' => e = .returned (b4 0 0 0 0) ∧ Below w.heap.size w w' := by
  have hset := cset_map
  go_enter Tryz.func12, Tryz.ntmps12
  go_wp2_with (first
    | (go_at_call 33; refine (figureOf_round _ _ (by assumption) (by assumption)).mono ?_; rintro e w1 ⟨rfl, hb1⟩; obtain ⟨hc1, hf1⟩ := bcell hb1; have hl1 := blt hb1; have hz1 := hb1.size; (try simp only [World.size_drew, World.size_alloc, World.size_setCell] at hc1 hf1 hl1 hz1); (try have hq1x0 : w.heap.size < w1.heap.size := (by omega)); (try have hq1x1 : w.heap.size + 1 < w1.heap.size := (by omega)); (try have hq1x2 : w.heap.size + 1 + 1 < w1.heap.size := (by omega)))
    | (go_at_call 34; refine (isPlace_n _ _ _ (by assumption)).mono ?_; rintro e w2 ⟨rfl, hb2⟩; obtain ⟨hc2, hf2⟩ := bcell hb2; have hl2 := blt hb2; have hz2 := hb2.size; (try simp only [World.size_drew, World.size_alloc, World.size_setCell] at hc2 hf2 hl2 hz2); (try have hq2x0 : w.heap.size < w2.heap.size := (by omega)); (try have hq2x1 : w.heap.size + 1 < w2.heap.size := (by omega)); (try have hq2x2 : w.heap.size + 1 + 1 < w2.heap.size := (by omega)); (try have hq2x3 : w.heap.size + 1 + 1 + 1 < w2.heap.size := (by omega))))
  all_goals
    exact bodyPost_ret (v := b4 0 0 0 0) (by simp [results, Tryz.results12, go_sem, *]) rfl ⟨rfl, bel_a⟩
set_option maxRecDepth 20000 in
set_option maxHeartbeats 4000000 in
theorem shBounds_rt (wd x y : Int) (w : World) (h1 : 1 ≤ wd) (h2 : wd ≤ 25600) (h0 : inB 2560000 x y = true) :
    Calls Tryz.prog 12 #[s3 1 wd 0, vv x y] w fun e w' => e = .returned (b4 (x - wd) (y - wd) (x + wd) (y + wd)) ∧ Below w.heap.size w w' := by
  have hp := inB_of h0
  have hm1 := me_r
  have hm2 := me_b
  have hset := cset_map
  go_enter Tryz.func12, Tryz.ntmps12
  go_wp2_with (first
    | (go_at_call 33; refine (figureOf_round _ _ (by assumption) (by assumption)).mono ?_; rintro e w1 ⟨rfl, hb1⟩; obtain ⟨hc1, hf1⟩ := bcell hb1; have hl1 := blt hb1; have hz1 := hb1.size; (try simp only [World.size_drew, World.size_alloc, World.size_setCell] at hc1 hf1 hl1 hz1); (try have hq1x0 : w.heap.size < w1.heap.size := (by omega)); (try have hq1x1 : w.heap.size + 1 < w1.heap.size := (by omega)); (try have hq1x2 : w.heap.size + 1 + 1 < w1.heap.size := (by omega)))
    | (go_at_call 34; refine (isPlace_t _ _ _ (by assumption)).mono ?_; rintro e w2 ⟨rfl, hb2⟩; obtain ⟨hc2, hf2⟩ := bcell hb2; have hl2 := blt hb2; have hz2 := hb2.size; (try simp only [World.size_drew, World.size_alloc, World.size_setCell] at hc2 hf2 hl2 hz2); (try have hq2x0 : w.heap.size < w2.heap.size := (by omega)); (try have hq2x1 : w.heap.size + 1 < w2.heap.size := (by omega)); (try have hq2x2 : w.heap.size + 1 + 1 < w2.heap.size := (by omega)); (try have hq2x3 : w.heap.size + 1 + 1 + 1 < w2.heap.size := (by omega)))
    | (go_at_call 36; refine (wayOf_any _ _ _).mono ?_; rintro e w3 ⟨rfl, hb3⟩; obtain ⟨hc3, hf3⟩ := bcell hb3; have hl3 := blt hb3; have hz3 := hb3.size; (try simp only [World.size_drew, World.size_alloc, World.size_setCell] at hc3 hf3 hl3 hz3); (try have hq3x0 : w.heap.size < w3.heap.size := (by omega)); (try have hq3x1 : w.heap.size + 1 < w3.heap.size := (by omega)); (try have hq3x2 : w.heap.size + 1 + 1 < w3.heap.size := (by omega)); (try have hq3x3 : w.heap.size + 1 + 1 + 1 < w3.heap.size := (by omega)))
    | (go_at_call 165; refine (reach_r _ _).mono ?_; rintro e w4 ⟨rfl, hb4⟩; obtain ⟨hc4, hf4⟩ := bcell hb4; have hl4 := blt hb4; have hz4 := hb4.size; (try simp only [World.size_drew, World.size_alloc, World.size_setCell] at hc4 hf4 hl4 hz4); (try have hq4x0 : w.heap.size < w4.heap.size := (by omega)); (try have hq4x1 : w.heap.size + 1 < w4.heap.size := (by omega)); (try have hq4x2 : w.heap.size + 1 + 1 < w4.heap.size := (by omega)); (try have hq4x3 : w.heap.size + 1 + 1 + 1 < w4.heap.size := (by omega)))
    | (go_at_call 35; refine (spanAround_any _ _ _ _ _ (by omega) (by omega) (by omega) (by omega)).mono ?_; rintro e w5 ⟨rfl, hb5⟩; obtain ⟨hc5, hf5⟩ := bcell hb5; have hl5 := blt hb5; have hz5 := hb5.size; (try simp only [World.size_drew, World.size_alloc, World.size_setCell] at hc5 hf5 hl5 hz5); (try have hq5x0 : w.heap.size < w5.heap.size := (by omega)); (try have hq5x1 : w.heap.size + 1 < w5.heap.size := (by omega)); (try have hq5x2 : w.heap.size + 1 + 1 < w5.heap.size := (by omega)); (try have hq5x3 : w.heap.size + 1 + 1 + 1 < w5.heap.size := (by omega)))
    | (go_at_call 37; refine (spanBox_any _ _ _ _ _).mono ?_; rintro e w6 ⟨rfl, hb6⟩; obtain ⟨hc6, hf6⟩ := bcell hb6; have hl6 := blt hb6; have hz6 := hb6.size; (try simp only [World.size_drew, World.size_alloc, World.size_setCell] at hc6 hf6 hl6 hz6); (try have hq6x0 : w.heap.size < w6.heap.size := (by omega)); (try have hq6x1 : w.heap.size + 1 < w6.heap.size := (by omega)); (try have hq6x2 : w.heap.size + 1 + 1 < w6.heap.size := (by omega)); (try have hq6x3 : w.heap.size + 1 + 1 + 1 < w6.heap.size := (by omega))))
  all_goals
    exact bodyPost_ret (v := b4 (x - wd) (y - wd) (x + wd) (y + wd)) (by simp [results, Tryz.results12, go_sem, *]) rfl ⟨rfl, bel_a⟩
set_option maxHeartbeats 2000000 in
theorem shBounds_bn (wd h x y : Int) (w : World) (h1 : 1 ≤ wd) (h2 : wd ≤ 25600) (h3 : 1 ≤ h) (h4 : h ≤ 25600) (h0 : inB 2560000 x y = false) :
    Calls Tryz.prog 12 #[s3 2 wd h, vv x y] w fun e w' => e = .returned (b4 0 0 0 0) ∧ Below w.heap.size w w' := by
  have hset := cset_map
  go_enter Tryz.func12, Tryz.ntmps12
  go_wp2_with (first
    | (go_at_call 33; refine (figureOf_box _ _ _ (by assumption) (by assumption) (by assumption) (by assumption)).mono ?_; rintro e w1 ⟨rfl, hb1⟩; obtain ⟨hc1, hf1⟩ := bcell hb1; have hl1 := blt hb1; have hz1 := hb1.size; (try simp only [World.size_drew, World.size_alloc, World.size_setCell] at hc1 hf1 hl1 hz1); (try have hq1x0 : w.heap.size < w1.heap.size := (by omega)); (try have hq1x1 : w.heap.size + 1 < w1.heap.size := (by omega)); (try have hq1x2 : w.heap.size + 1 + 1 < w1.heap.size := (by omega)))
    | (go_at_call 34; refine (isPlace_n _ _ _ (by assumption)).mono ?_; rintro e w2 ⟨rfl, hb2⟩; obtain ⟨hc2, hf2⟩ := bcell hb2; have hl2 := blt hb2; have hz2 := hb2.size; (try simp only [World.size_drew, World.size_alloc, World.size_setCell] at hc2 hf2 hl2 hz2); (try have hq2x0 : w.heap.size < w2.heap.size := (by omega)); (try have hq2x1 : w.heap.size + 1 < w2.heap.size := (by omega)); (try have hq2x2 : w.heap.size + 1 + 1 < w2.heap.size := (by omega)); (try have hq2x3 : w.heap.size + 1 + 1 + 1 < w2.heap.size := (by omega))))
  all_goals
    exact bodyPost_ret (v := b4 0 0 0 0) (by simp [results, Tryz.results12, go_sem, *]) rfl ⟨rfl, bel_a⟩
set_option maxRecDepth 20000 in
set_option maxHeartbeats 4000000 in
theorem shBounds_bt (wd h x y : Int) (w : World) (h1 : 1 ≤ wd) (h2 : wd ≤ 25600) (h3 : 1 ≤ h) (h4 : h ≤ 25600) (h0 : inB 2560000 x y = true) :
    Calls Tryz.prog 12 #[s3 2 wd h, vv x y] w fun e w' => e = .returned (b4 (x - wd) (y - h) (x + wd) (y + h)) ∧ Below w.heap.size w w' := by
  have hp := inB_of h0
  have hm1 := me_r
  have hm2 := me_b
  have hset := cset_map
  go_enter Tryz.func12, Tryz.ntmps12
  go_wp2_with (first
    | (go_at_call 33; refine (figureOf_box _ _ _ (by assumption) (by assumption) (by assumption) (by assumption)).mono ?_; rintro e w1 ⟨rfl, hb1⟩; obtain ⟨hc1, hf1⟩ := bcell hb1; have hl1 := blt hb1; have hz1 := hb1.size; (try simp only [World.size_drew, World.size_alloc, World.size_setCell] at hc1 hf1 hl1 hz1); (try have hq1x0 : w.heap.size < w1.heap.size := (by omega)); (try have hq1x1 : w.heap.size + 1 < w1.heap.size := (by omega)); (try have hq1x2 : w.heap.size + 1 + 1 < w1.heap.size := (by omega)))
    | (go_at_call 34; refine (isPlace_t _ _ _ (by assumption)).mono ?_; rintro e w2 ⟨rfl, hb2⟩; obtain ⟨hc2, hf2⟩ := bcell hb2; have hl2 := blt hb2; have hz2 := hb2.size; (try simp only [World.size_drew, World.size_alloc, World.size_setCell] at hc2 hf2 hl2 hz2); (try have hq2x0 : w.heap.size < w2.heap.size := (by omega)); (try have hq2x1 : w.heap.size + 1 < w2.heap.size := (by omega)); (try have hq2x2 : w.heap.size + 1 + 1 < w2.heap.size := (by omega)); (try have hq2x3 : w.heap.size + 1 + 1 + 1 < w2.heap.size := (by omega)))
    | (go_at_call 36; refine (wayOf_any _ _ _).mono ?_; rintro e w3 ⟨rfl, hb3⟩; obtain ⟨hc3, hf3⟩ := bcell hb3; have hl3 := blt hb3; have hz3 := hb3.size; (try simp only [World.size_drew, World.size_alloc, World.size_setCell] at hc3 hf3 hl3 hz3); (try have hq3x0 : w.heap.size < w3.heap.size := (by omega)); (try have hq3x1 : w.heap.size + 1 < w3.heap.size := (by omega)); (try have hq3x2 : w.heap.size + 1 + 1 < w3.heap.size := (by omega)); (try have hq3x3 : w.heap.size + 1 + 1 + 1 < w3.heap.size := (by omega)))
    | (go_at_call 166; refine (reach_b _ _ _).mono ?_; rintro e w4 ⟨rfl, hb4⟩; obtain ⟨hc4, hf4⟩ := bcell hb4; have hl4 := blt hb4; have hz4 := hb4.size; (try simp only [World.size_drew, World.size_alloc, World.size_setCell] at hc4 hf4 hl4 hz4); (try have hq4x0 : w.heap.size < w4.heap.size := (by omega)); (try have hq4x1 : w.heap.size + 1 < w4.heap.size := (by omega)); (try have hq4x2 : w.heap.size + 1 + 1 < w4.heap.size := (by omega)); (try have hq4x3 : w.heap.size + 1 + 1 + 1 < w4.heap.size := (by omega)))
    | (go_at_call 35; refine (spanAround_any _ _ _ _ _ (by omega) (by omega) (by omega) (by omega)).mono ?_; rintro e w5 ⟨rfl, hb5⟩; obtain ⟨hc5, hf5⟩ := bcell hb5; have hl5 := blt hb5; have hz5 := hb5.size; (try simp only [World.size_drew, World.size_alloc, World.size_setCell] at hc5 hf5 hl5 hz5); (try have hq5x0 : w.heap.size < w5.heap.size := (by omega)); (try have hq5x1 : w.heap.size + 1 < w5.heap.size := (by omega)); (try have hq5x2 : w.heap.size + 1 + 1 < w5.heap.size := (by omega)); (try have hq5x3 : w.heap.size + 1 + 1 + 1 < w5.heap.size := (by omega)))
    | (go_at_call 37; refine (spanBox_any _ _ _ _ _).mono ?_; rintro e w6 ⟨rfl, hb6⟩; obtain ⟨hc6, hf6⟩ := bcell hb6; have hl6 := blt hb6; have hz6 := hb6.size; (try simp only [World.size_drew, World.size_alloc, World.size_setCell] at hc6 hf6 hl6 hz6); (try have hq6x0 : w.heap.size < w6.heap.size := (by omega)); (try have hq6x1 : w.heap.size + 1 < w6.heap.size := (by omega)); (try have hq6x2 : w.heap.size + 1 + 1 < w6.heap.size := (by omega)); (try have hq6x3 : w.heap.size + 1 + 1 + 1 < w6.heap.size := (by omega))))
  all_goals
    exact bodyPost_ret (v := b4 (x - wd) (y - h) (x + wd) (y + h)) (by simp [results, Tryz.results12, go_sem, *]) rfl ⟨rfl, bel_a⟩
def sbA (k wd h x y : Int) : Int := bb (shB k wd h && inB 2560000 x y) (x - wd)
def sbB (k wd h x y : Int) : Int := bb (shB k wd h && inB 2560000 x y) (y - hh k wd h)
def sbC (k wd h x y : Int) : Int := bb (shB k wd h && inB 2560000 x y) (x + wd)
def sbD (k wd h x y : Int) : Int := bb (shB k wd h && inB 2560000 x y) (y + hh k wd h)
theorem shapeBounds_any (k wd h x y : Int) (w : World) :
    Calls Tryz.prog 12 #[s3 k wd h, vv x y] w fun e w' => e = .returned (b4 (sbA k wd h x y) (sbB k wd h x y) (sbC k wd h x y) (sbD k wd h x y)) ∧ Below w.heap.size w w' := by
  unfold sbA sbB sbC sbD
  cases hs : shB k wd h with
  | false => simp only [Bool.false_and, bb_f]; exact shBounds_n k wd h x y w hs
  | true =>
    have hq := hs
    unfold shB at hq
    simp only [Bool.or_eq_true] at hq
    cases h0 : inB 2560000 x y with
    | false =>
      simp only [Bool.true_and, bb_f]
      rcases hq with hq | hq
      · unfold rdB at hq; obtain ⟨rfl, ⟨h1, h2⟩, rfl⟩ := of_decide_eq_true hq; exact shBounds_rn wd x y w h1 h2 h0
      · unfold bxB at hq; obtain ⟨rfl, ⟨h1, h2⟩, h3, h4⟩ := of_decide_eq_true hq; exact shBounds_bn wd h x y w h1 h2 h3 h4 h0
    | true =>
      simp only [Bool.true_and, bb_t]
      rcases hq with hq | hq
      · unfold rdB at hq; obtain ⟨rfl, ⟨h1, h2⟩, rfl⟩ := of_decide_eq_true hq; exact shBounds_rt wd x y w h1 h2 h0
      · unfold bxB at hq; obtain ⟨rfl, ⟨h1, h2⟩, h3, h4⟩ := of_decide_eq_true hq; exact shBounds_bt wd h x y w h1 h2 h3 h4 h0
theorem boxOk_t (a b c d : Int) (w : World) (h : bokB a b c d = true) : Calls Tryz.prog 30 #[b4 a b c d] w fun e w' => e = .returned (.bool true) ∧ Below w.heap.size w w' := by
  have k := boxOk_any a b c d w
  rw [h] at k
  exact k
theorem boxOk_n (a b c d : Int) (w : World) (h : bokB a b c d = false) : Calls Tryz.prog 30 #[b4 a b c d] w fun e w' => e = .returned (.bool false) ∧ Below w.heap.size w w' := by
  have k := boxOk_any a b c d w
  rw [h] at k
  exact k
set_option maxHeartbeats 4000000 in
theorem meet_n1 (a b c d r s t u : Int) (w : World) (h1 : bokB a b c d = false) :
    Calls Tryz.prog 11 #[b4 a b c d, b4 r s t u] w fun e w' => e = .returned (.bool (bokB a b c d && (bokB r s t u && (leB a b t u && leB r s c d)))) ∧ Below w.heap.size w w' := by
  have hset := cset_map
  go_enter Tryz.func11, Tryz.ntmps11
  go_wp2_with (first
    | (go_at_call 30; refine (boxOk_t _ _ _ _ _ (by assumption)).mono ?_; rintro e w1 ⟨rfl, hb1⟩; obtain ⟨hc1, hf1⟩ := bcell hb1; have hl1 := blt hb1; have hz1 := hb1.size; (try simp only [World.size_drew, World.size_alloc, World.size_setCell] at hc1 hf1 hl1 hz1); (try have hq1x0 : w.heap.size < w1.heap.size := (by omega)); (try have hq1x1 : w.heap.size + 1 < w1.heap.size := (by omega)); (try have hq1x2 : w.heap.size + 1 + 1 < w1.heap.size := (by omega)))
    | (go_at_call 30; refine (boxOk_n _ _ _ _ _ (by assumption)).mono ?_; rintro e w1 ⟨rfl, hb1⟩; obtain ⟨hc1, hf1⟩ := bcell hb1; have hl1 := blt hb1; have hz1 := hb1.size; (try simp only [World.size_drew, World.size_alloc, World.size_setCell] at hc1 hf1 hl1 hz1); (try have hq1x0 : w.heap.size < w1.heap.size := (by omega)); (try have hq1x1 : w.heap.size + 1 < w1.heap.size := (by omega)); (try have hq1x2 : w.heap.size + 1 + 1 < w1.heap.size := (by omega))))
  all_goals
    go_ret
    refine ⟨ret_bool ?_, bel_a⟩
    simp [*]
set_option maxHeartbeats 4000000 in
theorem meet_n2 (a b c d r s t u : Int) (w : World) (h1 : bokB a b c d = true) (h2 : bokB r s t u = false) :
    Calls Tryz.prog 11 #[b4 a b c d, b4 r s t u] w fun e w' => e = .returned (.bool (bokB a b c d && (bokB r s t u && (leB a b t u && leB r s c d)))) ∧ Below w.heap.size w w' := by
  have hset := cset_map
  go_enter Tryz.func11, Tryz.ntmps11
  go_wp2_with (first
    | (go_at_call 30; refine (boxOk_t _ _ _ _ _ (by assumption)).mono ?_; rintro e w1 ⟨rfl, hb1⟩; obtain ⟨hc1, hf1⟩ := bcell hb1; have hl1 := blt hb1; have hz1 := hb1.size; (try simp only [World.size_drew, World.size_alloc, World.size_setCell] at hc1 hf1 hl1 hz1); (try have hq1x0 : w.heap.size < w1.heap.size := (by omega)); (try have hq1x1 : w.heap.size + 1 < w1.heap.size := (by omega)); (try have hq1x2 : w.heap.size + 1 + 1 < w1.heap.size := (by omega)))
    | (go_at_call 30; refine (boxOk_n _ _ _ _ _ (by assumption)).mono ?_; rintro e w1 ⟨rfl, hb1⟩; obtain ⟨hc1, hf1⟩ := bcell hb1; have hl1 := blt hb1; have hz1 := hb1.size; (try simp only [World.size_drew, World.size_alloc, World.size_setCell] at hc1 hf1 hl1 hz1); (try have hq1x0 : w.heap.size < w1.heap.size := (by omega)); (try have hq1x1 : w.heap.size + 1 < w1.heap.size := (by omega)); (try have hq1x2 : w.heap.size + 1 + 1 < w1.heap.size := (by omega))))
  all_goals
    go_ret
    refine ⟨ret_bool ?_, bel_a⟩
    simp [*]
set_option maxHeartbeats 8000000 in
theorem meet_y (a b c d r s t u : Int) (w : World) (h1 : bokB a b c d = true) (h2 : bokB r s t u = true) :
    Calls Tryz.prog 11 #[b4 a b c d, b4 r s t u] w fun e w' => e = .returned (.bool (bokB a b c d && (bokB r s t u && (leB a b t u && leB r s c d)))) ∧ Below w.heap.size w w' := by
  have hset := cset_map
  go_enter Tryz.func11, Tryz.ntmps11
  go_wp2_with (first
    | (go_at_call 30; refine (boxOk_t _ _ _ _ _ (by assumption)).mono ?_; rintro e w1 ⟨rfl, hb1⟩; obtain ⟨hc1, hf1⟩ := bcell hb1; have hl1 := blt hb1; have hz1 := hb1.size; (try simp only [World.size_drew, World.size_alloc, World.size_setCell] at hc1 hf1 hl1 hz1); (try have hq1x0 : w.heap.size < w1.heap.size := (by omega)); (try have hq1x1 : w.heap.size + 1 < w1.heap.size := (by omega)); (try have hq1x2 : w.heap.size + 1 + 1 < w1.heap.size := (by omega)))
    | (go_at_call 30; refine (boxOk_n _ _ _ _ _ (by assumption)).mono ?_; rintro e w1 ⟨rfl, hb1⟩; obtain ⟨hc1, hf1⟩ := bcell hb1; have hl1 := blt hb1; have hz1 := hb1.size; (try simp only [World.size_drew, World.size_alloc, World.size_setCell] at hc1 hf1 hl1 hz1); (try have hq1x0 : w.heap.size < w1.heap.size := (by omega)); (try have hq1x1 : w.heap.size + 1 < w1.heap.size := (by omega)); (try have hq1x2 : w.heap.size + 1 + 1 < w1.heap.size := (by omega))))
  go_region_held3 (fun w' => w'.cell? ⟨w.heap.size, 0, none⟩ = some (.int .i64 a) ∧ w'.cell? ⟨w.heap.size, 1, none⟩ = some (.int .i64 b) ∧ w'.cell? ⟨w.heap.size, 2, none⟩ = some (.int .i64 c) ∧ w'.cell? ⟨w.heap.size, 3, none⟩ = some (.int .i64 d) ∧ w'.cell? ⟨w.heap.size + 1, 0, none⟩ = some (.int .i64 r) ∧ w'.cell? ⟨w.heap.size + 1, 1, none⟩ = some (.int .i64 s) ∧ w'.cell? ⟨w.heap.size + 1, 2, none⟩ = some (.int .i64 t) ∧ w'.cell? ⟨w.heap.size + 1, 3, none⟩ = some (.int .i64 u)) (first | (go_simp; done) | (go_keep; done)) (first
    | (go_at_call 31; refine (spanOf_any _ _ _ _ _).mono ?_; rintro e w2 ⟨rfl, hb2⟩; obtain ⟨hc2, hf2⟩ := bcell hb2; have hl2 := blt hb2; have hz2 := hb2.size; (try simp only [World.size_drew, World.size_alloc, World.size_setCell] at hc2 hf2 hl2 hz2); (try have hq2x0 : w.heap.size < w2.heap.size := (by omega)); (try have hq2x1 : w.heap.size + 1 < w2.heap.size := (by omega)); (try have hq2x2 : w.heap.size + 1 + 1 < w2.heap.size := (by omega)))
    | (go_at_call 32; refine (spanMeets_any _ _ _ _ _ _ _ _ _).mono ?_; rintro e w3 ⟨rfl, hb3⟩; obtain ⟨hc3, hf3⟩ := bcell hb3; have hl3 := blt hb3; have hz3 := hb3.size; (try simp only [World.size_drew, World.size_alloc, World.size_setCell] at hc3 hf3 hl3 hz3); (try have hq3x0 : w.heap.size < w3.heap.size := (by omega)); (try have hq3x1 : w.heap.size + 1 < w3.heap.size := (by omega)); (try have hq3x2 : w.heap.size + 1 + 1 < w3.heap.size := (by omega))))
  all_goals
    go_wp2
    go_ret
    refine ⟨ret_bool ?_, bel_a⟩
    simp [*]
theorem boxMeets_any (a b c d r s t u : Int) (w : World) :
    Calls Tryz.prog 11 #[b4 a b c d, b4 r s t u] w fun e w' => e = .returned (.bool (bokB a b c d && (bokB r s t u && (leB a b t u && leB r s c d)))) ∧ Below w.heap.size w w' := by
  cases h1 : bokB a b c d with
  | false => have k := meet_n1 a b c d r s t u w h1; rw [h1] at k; exact k
  | true =>
    cases h2 : bokB r s t u with
    | false => have k := meet_n2 a b c d r s t u w h1 h2; rw [h1, h2] at k; exact k
    | true => have k := meet_y a b c d r s t u w h1 h2; rw [h1, h2] at k; exact k
def idL (p : Nat → Bool) (U : Nat → Int) : Nat → List Int
  | 0 => []
  | k + 1 => idL p U k ++ (if p k = true then [U (k * 12)] else [])
theorem idL_yes {p : Nat → Bool} {U : Nat → Int} {k : Nat} (h : p k = true) : idL p U (k + 1) = idL p U k ++ [U (k * 12)] := by rw [idL, if_pos h]
theorem idL_no {p : Nat → Bool} {U : Nat → Int} {k : Nat} (h : p k = false) : idL p U (k + 1) = idL p U k := by rw [idL, if_neg (by rw [h]; simp), List.append_nil]
theorem idL_none {p : Nat → Bool} {U : Nat → Int} (h : ∀ k, p k = false) : ∀ k, idL p U k = []
  | 0 => rfl
  | k + 1 => by rw [idL_no (h k), idL_none h k]
theorem idL_len (p : Nat → Bool) (U : Nat → Int) : ∀ k, (idL p U k).length ≤ k
  | 0 => Nat.le_refl _
  | k + 1 => by
    have := idL_len p U k
    cases h : p k with
    | true => rw [idL_yes h, List.length_append]; simp; omega
    | false => rw [idL_no h]; omega
def idsA (T P : Int) (n : Nat) (U : Nat → Int) (m : Nat) (Q : Nat → Int) (p : Nat → Bool) : List Int := bif worldB T P n U m Q then idL p U n else []
theorem idsA_len (T P : Int) (n : Nat) (U : Nat → Int) (m : Nat) (Q : Nat → Int) (p : Nat → Bool) : (idsA T P n U m Q p).length ≤ n := by
  unfold idsA
  cases worldB T P n U m Q with
  | true => exact idL_len p U n
  | false => simp
def hasAt (x y : Int) (U : Nat → Int) (k : Nat) : Bool := shV (U (k * 12 + 1)) (U (k * 12 + 2)) (U (k * 12 + 3)) (U (k * 12 + 4)) (U (k * 12 + 5)) x y
def sbX (f : Int → Int → Int → Int → Int → Int) (U : Nat → Int) (k : Nat) : Int := f (U (k * 12 + 1)) (U (k * 12 + 2)) (U (k * 12 + 3)) (U (k * 12 + 4)) (U (k * 12 + 5))
def meetAt (x y u v : Int) (U : Nat → Int) (k : Nat) : Bool := bokB (sbX sbA U k) (sbX sbB U k) (sbX sbC U k) (sbX sbD U k) && (bokB x y u v && (leB (sbX sbA U k) (sbX sbB U k) u v && leB x y (sbX sbC U k) (sbX sbD U k)))
theorem boxMeets_q (a b c d r s t u : Int) (q : Bool) (w : World) (e : (bokB a b c d && (bokB r s t u && (leB a b t u && leB r s c d))) = q) : Calls Tryz.prog 11 #[b4 a b c d, b4 r s t u] w fun e w' => e = .returned (.bool q) ∧ Below w.heap.size w w' := by subst e; exact boxMeets_any a b c d r s t u w
theorem WdR.start (w : World) (T P : Int) (a a' : Option Addr) (n c m c' : Nat) : WdR w T P a n c a' m c' (w.alloc (Obj.cells #[.int .i64 T, .int .i64 P, .slice a n c, .slice a' m c'] 26)) := ⟨(Below.refl _ _).alloc (Nat.le_refl _) _, by simp, by go_simp, by go_simp, by go_simp, by go_simp⟩
set_option maxRecDepth 20000 in
set_option maxHeartbeats 8000000 in
theorem pqInts_same (a a' : Option Addr) (N c c' : Nat) (R : Nat → Int) (w : World) (h : Flat w a (N * 1) R) (h' : Flat w a' (N * 1) R) (hN : N ≤ 1000) :
    Calls Tryz.prog 7 #[.slice a N c, .slice a' N c'] w fun e w' => e = .returned (.bool true) ∧ Below w.heap.size w w' := by
  have hset := cset_map
  have e0 : ((N : Int) != (N : Int)) = false := by simp
  go_enter Tryz.func7, Tryz.ntmps7
  go_upto_region 4 with fail
  go_loopw [5] (fun s wr => ∃ k : Nat, k ≤ N ∧ s = .int .i64 (k : Int) ∧ Below w.heap.size w wr) (fun s _ => N - (intOf s).toNat)
  case atStart => exact ⟨0, Nat.zero_le _, rfl, Below.refl _ _⟩
  case round =>
    obtain ⟨k, hk, rfl, hw⟩ := hrel
    by_cases hlt : k < N
    · have hkN : (k : Int) < (N : Int) := by omega
      obtain ⟨b1, o1, e1, _, hc1⟩ := (h.below hw) (by omega)
      obtain ⟨b2, o2, e2, _, hc2⟩ := (h'.below hw) (by omega)
      have r0 := hc1 k (by omega)
      have s0 := hc2 k (by omega)
      clear hc1 hc2
      subst e1 e2
      have hev : (R k != R k) = false := by simp
      go_upto_region 6 with fail
      refine wp_region_held_drew (S := fun w' => w'.cell? ⟨b1, o1 + k, none⟩ = some (.int .i64 (R k)) ∧ w'.cell? ⟨b2, o2 + k, none⟩ = some (.int .i64 (R k))) (by kernel_rfl) ?_ (fun hHeld => ?_)
      · (try dsimp only)
        (first | (go_simp; done) | (go_keep; done))
      refine tq 0 hHeld ?_
      refine tq 1 hHeld ?_
      refine tq 2 hHeld ?_
      refine tq 3 hHeld ?_
      refine tq 4 hHeld ?_
      refine tq 5 hHeld ?_
      refine tq 6 hHeld ?_
      refine tq 7 hHeld ?_
      refine tq 8 hHeld ?_
      refine wpAnyH_done (by kernel_rfl) ?_ _
      go_wp2_with fail
      go_roundw
      case rel => exact ⟨k + 1, by omega, by go_num, hw.drew⟩
      case measure => simp [intOf]; omega
    · obtain rfl : k = N := by omega
      go_wp2_with fail
      go_ret
      exact ⟨rfl, hw⟩
def Xb (w : World) (b : Nat) (x y u v : Int) : Prop := w.heap[b]? = some (.cells #[.int .i64 x, .int .i64 y, .int .i64 u, .int .i64 v] 30 (0, 0))
theorem Xb.lt {w : World} {b : Nat} {x y u v : Int} (h : Xb w b x y u v) : b < w.heap.size := by
  rcases Nat.lt_or_ge b w.heap.size with q | q
  · exact q
  · unfold Xb at h; rw [Array.getElem?_eq_none q] at h; cases h
theorem Xb.c0 {w : World} {b : Nat} {x y u v : Int} (h : Xb w b x y u v) : w.cell? ⟨b, 0, none⟩ = some (.int .i64 x) := by unfold Xb at h; simp [World.cell?, h]
theorem Xb.c1 {w : World} {b : Nat} {x y u v : Int} (h : Xb w b x y u v) : w.cell? ⟨b, 1, none⟩ = some (.int .i64 y) := by unfold Xb at h; simp [World.cell?, h]
theorem Xb.c2 {w : World} {b : Nat} {x y u v : Int} (h : Xb w b x y u v) : w.cell? ⟨b, 2, none⟩ = some (.int .i64 u) := by unfold Xb at h; simp [World.cell?, h]
theorem Xb.c3 {w : World} {b : Nat} {x y u v : Int} (h : Xb w b x y u v) : w.cell? ⟨b, 3, none⟩ = some (.int .i64 v) := by unfold Xb at h; simp [World.cell?, h]
theorem Xb.f {w : World} {b : Nat} {x y u v : Int} (h : Xb w b x y u v) : ∀ o, w.frozen? ⟨b, o, none⟩ = false := by unfold Xb at h; intro o; simp [World.frozen?, h]
theorem Xb.but {w w' : World} {b rb : Nat} {x y u v : Int} (h : Xb w b x y u v) (hb : But rb w w') (hn : b ≠ rb) : Xb w' b x y u v := (hb.block b h.lt hn).trans h
theorem Xb.on {w w' : World} {b : Nat} {x y u v : Int} (h : Xb w b x y u v) (hb : Below w.heap.size w w') : Xb w' b x y u v := (hb.block b h.lt).trans h
theorem Xb.new (w : World) (x y u v : Int) : Xb (w.alloc (.cells #[.int .i64 x, .int .i64 y, .int .i64 u, .int .i64 v] 30)) w.heap.size x y u v := by show (w.heap.push _)[w.heap.size]? = _; simp
theorem Xb.far {w : World} {b b' o : Nat} {x y u v : Int} (h : Xb w b x y u v) (hn : b ≠ b') (z : Value) : Xb (w.setCell ⟨b', o, none⟩ z) b x y u v := (Below.heap_setCell w ⟨b', o, none⟩ z b hn).trans h
theorem Xb.put {w : World} {b : Nat} {x y u v : Int} (h : Xb w b x y u v) (x' y' u' v' : Int) : Xb ((((w.setCell ⟨b, 0, none⟩ (.int .i64 x')).setCell ⟨b, 1, none⟩ (.int .i64 y')).setCell ⟨b, 2, none⟩ (.int .i64 u')).setCell ⟨b, 3, none⟩ (.int .i64 v')) b x' y' u' v' :=
  setBlk (i := 3) (setBlk (i := 2) (setBlk (i := 1) (setBlk (i := 0) h (.int .i64 x')) (.int .i64 y')) (.int .i64 u')) (.int .i64 v')
theorem pre_idL (p : Nat → Bool) (U : Nat → Int) (j : Nat) : ∀ m, j ≤ m → ∃ r, idL p U m = idL p U j ++ r
  | 0, h => by obtain rfl : j = 0 := by omega
               exact ⟨[], by simp⟩
  | m + 1, h => by
    by_cases e : j = m + 1
    · subst e; exact ⟨[], by simp⟩
    · obtain ⟨r, hr⟩ := pre_idL p U j m (by omega)
      exact ⟨r ++ _, by rw [idL, hr, List.append_assoc]⟩
theorem idL_all {p : Nat → Bool} {U : Nat → Int} : ∀ n, (∀ k, k < n → p k = true) → (idL p U n).length = n
  | 0, _ => rfl
  | n + 1, h => by rw [idL_yes (h n (by omega)), List.length_append, idL_all n (fun k hk => h k (by omega))]; rfl
set_option maxRecDepth 20000 in
set_option maxHeartbeats 8000000 in
theorem clIn_q (k fb : Nat) (U : Nat → Int) (x y u v : Int) (b : Bool) (w : World) (g0 : w.cell? ⟨fb, 0, none⟩ = some (.int .i64 x)) (g1 : w.cell? ⟨fb, 1, none⟩ = some (.int .i64 y)) (g2 : w.cell? ⟨fb, 2, none⟩ = some (.int .i64 u)) (g3 : w.cell? ⟨fb, 3, none⟩ = some (.int .i64 v)) (gl : fb < w.heap.size) (e : meetAt x y u v U k = b) :
    Calls Tryz.prog 22 #[.agg #[.int .i64 (U (k * 12)), .int .i64 (U (k * 12 + 1)), .int .i64 (U (k * 12 + 2)), .int .i64 (U (k * 12 + 3)), .int .i64 (U (k * 12 + 4)), .int .i64 (U (k * 12 + 5)), .int .i64 (U (k * 12 + 6)), .int .i64 (U (k * 12 + 7)), .int .i64 (U (k * 12 + 8)), .int .i64 (U (k * 12 + 9)), .int .i64 (U (k * 12 + 10)), .int .i64 (U (k * 12 + 11))], .pointer (some ⟨fb, 0, none⟩)] w fun e w' => e = .returned (.bool b) ∧ Below w.heap.size w w' := by
  have hset := cset_map
  go_enter Tryz.func22, Tryz.ntmps22
  go_upto_region 1 with fail
  refine wp_region_held_drew (S := fun w' => w'.cell? ⟨fb, 0, none⟩ = some (.int .i64 x) ∧ w'.cell? ⟨fb, 1, none⟩ = some (.int .i64 y) ∧ w'.cell? ⟨fb, 2, none⟩ = some (.int .i64 u) ∧ w'.cell? ⟨fb, 3, none⟩ = some (.int .i64 v) ∧ w'.cell? ⟨w.heap.size, 0, none⟩ = some (.int .i64 (U (k * 12))) ∧ w'.cell? ⟨w.heap.size, 1, none⟩ = some (.int .i64 (U (k * 12 + 1))) ∧ w'.cell? ⟨w.heap.size, 2, none⟩ = some (.int .i64 (U (k * 12 + 2))) ∧ w'.cell? ⟨w.heap.size, 3, none⟩ = some (.int .i64 (U (k * 12 + 3))) ∧ w'.cell? ⟨w.heap.size, 4, none⟩ = some (.int .i64 (U (k * 12 + 4))) ∧ w'.cell? ⟨w.heap.size, 5, none⟩ = some (.int .i64 (U (k * 12 + 5)))) (by kernel_rfl) ?_ (fun hHeld => ?_)
  · (try dsimp only)
    (first | (go_simp; done) | (go_keep; done))
  refine tq 0 hHeld ?_
  refine tq 1 hHeld ?_
  refine tq 2 hHeld ?_
  refine tq 3 hHeld ?_
  refine tq 5 hHeld ?_
  (refine tc 4 fun K hK => ?_; go_simp; (go_at_call 12; refine (shapeBounds_any _ _ _ _ _ _).mono ?_; rintro e w4 ⟨rfl, hb4⟩; obtain ⟨hc4, hf4⟩ := bcell hb4; have hz4 := hb4.size; (try simp only [World.size_drew, World.size_alloc, World.size_setCell] at hc4 hf4 hz4); have hk4x0 := fun o => hc4 (w.heap.size) o (by omega); have hj4x0 := fun o => hf4 (w.heap.size) o (by omega); have hq4x0 : w.heap.size < w4.heap.size := (by omega); have hk4x1 := fun o => hc4 (fb) o (by omega); have hj4x1 := fun o => hf4 (fb) o (by omega); have hq4x1 : fb < w4.heap.size := (by omega); clear hc4 hf4); (try go_wp2_with fail); refine tr hK (fun hHeld => ?_); clear hK K)
  (refine tc 6 fun K hK => ?_; go_simp; (go_at_call 11; refine (boxMeets_q _ _ _ _ _ _ _ _ b _ e).mono ?_; rintro e w5 ⟨rfl, hb5⟩; obtain ⟨hc5, hf5⟩ := bcell hb5; have hz5 := hb5.size; (try simp only [World.size_drew, World.size_alloc, World.size_setCell] at hc5 hf5 hz5); have hk5x0 := fun o => hc5 (w.heap.size) o (by omega); have hj5x0 := fun o => hf5 (w.heap.size) o (by omega); have hq5x0 : w.heap.size < w5.heap.size := (by omega); have hk5x1 := fun o => hc5 (fb) o (by omega); have hj5x1 := fun o => hf5 (fb) o (by omega); have hq5x1 : fb < w5.heap.size := (by omega); clear hc5 hf5); (try go_wp2_with fail); refine tr hK (fun hHeld => ?_); clear hK K)
  refine tq 7 hHeld ?_
  refine wpAnyH_done (by kernel_rfl) ?_ _
  go_wp2_with fail
  go_ret
  exact ⟨rfl, bel_a⟩
set_option maxRecDepth 20000 in
set_option maxHeartbeats 8000000 in
theorem idsIn_q (T P : Int) (a : Option Addr) (n c : Nat) (U : Nat → Int) (a' : Option Addr) (m c' : Nat) (Q : Nat → Int) (fb : Nat) (x y u v : Int) (w : World) (h : Flat w a (n * 12) U) (h' : Flat w a' (m * 2) Q) (hn : n ≤ 1048576) (hm : m ≤ 1048576) (g0 : w.cell? ⟨fb, 0, none⟩ = some (.int .i64 x)) (g1 : w.cell? ⟨fb, 1, none⟩ = some (.int .i64 y)) (g2 : w.cell? ⟨fb, 2, none⟩ = some (.int .i64 u)) (g3 : w.cell? ⟨fb, 3, none⟩ = some (.int .i64 v)) (gl : fb < w.heap.size) :
    Calls Tryz.prog 21 #[worldW T P a n c a' m c', .func (.func 22) #[] #[.pointer (some ⟨fb, 0, none⟩)]] w fun e w' => ∃ a0 N c0, e = .returned (.slice a0 N c0) ∧ (idsA T P n U m Q (meetAt x y u v U)).length = N * 1 ∧ OutL w w' 3 1 a0 N c0 (ofL (idsA T P n U m Q (meetAt x y u v U))) := by
  have hset := cset_map
  have hS := WdR.start w T P a a' n c m c'
  cases hok : worldB T P n U m Q with
  | false =>
    unfold idsA
    rw [hok]
    go_enter Tryz.func21, Tryz.ntmps21
    go_wp2_with (go_at_call 50; refine (worldOk_q T P a n c U a' m c' Q _ (h.below hS.bel) (h'.below hS.bel) hn hm false hok).mono ?_; rintro e w1 ⟨rfl, hb1⟩)
    go_ret
    exact ⟨_, _, _, rfl, by simp, (hS.on hb1).bel, OwnL.nil _ _ _ _ _⟩
  | true =>
    unfold idsA
    rw [hok]
    have z2 := hS.c2
    go_enter Tryz.func21, Tryz.ntmps21
    go_upto_region 4 with (go_at_call 50; refine (worldOk_q T P a n c U a' m c' Q _ (h.below hS.bel) (h'.below hS.bel) hn hm true hok).mono ?_; rintro e w1 ⟨rfl, hb1⟩)
    have hB1 := hS.on hb1
    clear hb1 hS z2
    have z2 := hB1.c2
    go_wp2
    clear z2
    go_loopw [5, 7, 14] (fun s5 _ s wr => ∃ (k : Nat) (aL : Option Addr) (mL cL : Nat), k ≤ n ∧ s = .int .i64 (k : Int) ∧ s5 = .slice aL mL cL ∧ LsV w1 wr 3 1 aL mL cL (idL (meetAt x y u v U) U k)) (fun _ _ s _ => n - (intOf s).toNat)
    case atStart => exact ⟨0, _, _, _, Nat.zero_le _, rfl, rfl, LsV.nil _ _ _⟩
    case round =>
      obtain ⟨k, aL, mL, cL, hk, rfl, rfl, hL⟩ := hrel
      by_cases hlt : k < n
      · have hB := hB1.on hL.bel
        obtain ⟨b, o, rfl, hbl, hc⟩ := (h.below hB.bel) (by omega)
        have c0 := hc (k * 12) (by omega)
        have c1 := hc (k * 12 + 1) (by omega)
        have c2 := hc (k * 12 + 2) (by omega)
        have c3 := hc (k * 12 + 3) (by omega)
        have c4 := hc (k * 12 + 4) (by omega)
        have c5 := hc (k * 12 + 5) (by omega)
        have c6 := hc (k * 12 + 6) (by omega)
        have c7 := hc (k * 12 + 7) (by omega)
        have c8 := hc (k * 12 + 8) (by omega)
        have c9 := hc (k * 12 + 9) (by omega)
        have c10 := hc (k * 12 + 10) (by omega)
        have c11 := hc (k * 12 + 11) (by omega)
        simp only [← Nat.add_assoc] at c0 c1 c2 c3 c4 c5 c6 c7 c8 c9 c10 c11
        clear hc
        have hwl := hB.bel.size
        have d0 : wr.cell? ⟨fb, 0, none⟩ = some (.int .i64 x) := (hB.bel.cell (p := ⟨fb, 0, none⟩) gl).trans g0
        have d1 : wr.cell? ⟨fb, 1, none⟩ = some (.int .i64 y) := (hB.bel.cell (p := ⟨fb, 1, none⟩) gl).trans g1
        have d2 : wr.cell? ⟨fb, 2, none⟩ = some (.int .i64 u) := (hB.bel.cell (p := ⟨fb, 2, none⟩) gl).trans g2
        have d3 : wr.cell? ⟨fb, 3, none⟩ = some (.int .i64 v) := (hB.bel.cell (p := ⟨fb, 3, none⟩) gl).trans g3
        have hgl : fb < wr.heap.size := by omega
        have hmk := hL.len
        have hmj := idL_len (meetAt x y u v U) U k
        obtain ⟨vb, hv⟩ : ∃ vb, meetAt x y u v U k = vb := ⟨_, rfl⟩
        have hE : Below wr.heap.size wr (wr.alloc (Obj.cells #[.int .i64 (U (k * 12)), .int .i64 (U (k * 12 + 1)), .int .i64 (U (k * 12 + 2)), .int .i64 (U (k * 12 + 3)), .int .i64 (U (k * 12 + 4)), .int .i64 (U (k * 12 + 5)), .int .i64 (U (k * 12 + 6)), .int .i64 (U (k * 12 + 7)), .int .i64 (U (k * 12 + 8)), .int .i64 (U (k * 12 + 9)), .int .i64 (U (k * 12 + 10)), .int .i64 (U (k * 12 + 11))] 43)) := (Below.refl _ _).alloc (Nat.le_refl _) _
        cases vb with
        | false =>
          go_wp2_with (go_at_call 22; refine (clIn_q k fb U x y u v false _ (by go_simp) (by go_simp) (by go_simp) (by go_simp) (by simp; omega) hv).mono ?_; rintro e w2 ⟨rfl, hb2⟩)
          go_roundw
          case rel => exact ⟨k + 1, _, _, _, by omega, by go_num, rfl, by rw [idL_no hv]; exact (hL.below hE).below hb2⟩
          case measure => simp [intOf]; omega
        | true =>
          go_upto_region 8 with (go_at_call 22; refine (clIn_q k fb U x y u v true _ (by go_simp) (by go_simp) (by go_simp) (by go_simp) (by simp; omega) hv).mono ?_; rintro e w2 ⟨rfl, hb2⟩)
          have x0 : w2.cell? ⟨wr.heap.size, 0, none⟩ = some (.int .i64 (U (k * 12))) := (hb2.cell (p := ⟨wr.heap.size, 0, none⟩) (by simp)).trans (by go_simp)
          have hL2 := (hL.below hE).below hb2
          have hbz := hL2.bel.size
          go_wp2_with (refine wpList_app rfl _ _ _ rfl w1.heap.size 3 1 8 (.int .i64 0) Tryz.underlying33 (by kernel_rfl) (by rfl) (by omega) (.slice aL mL cL) mL (ofL (idL (meetAt x y u v U) U k)) rfl (hL2.below ((Below.refl _ _).alloc (Nat.le_refl _) _)).own _ 1 _ (ofL [U (k * 12)]) rfl (flat1 _ _ _) (by unfold maxLen; omega) (by omega) (by simp only [World.size_alloc]; omega) ?_; intro a3 c3 w3 ho3 hg3)
          have hP := (hL2.below ((Below.refl _ _).alloc (Nat.le_refl _) _)).push (x := [U (k * 12)]) rfl hg3 ho3
          go_roundw
          case rel => exact ⟨k + 1, _, _, _, by omega, by go_num, rfl, by rw [idL_yes hv]; exact hP⟩
          case measure => simp [intOf]; omega
      · obtain rfl : k = n := by omega
        go_wp2
        go_ret
        exact ⟨_, _, _, rfl, hL.len, hL.out hB1.bel⟩
def downZ (n m : Int) : Int := if n.tdiv m * m ≠ n ∧ decide (n < 0) ≠ decide (m < 0) then n.tdiv m - 1 else n.tdiv m
def btA (f g l h : Int) : Int := if g = 0 then 0 else if g < 0 then downZ ((h - f) * 256) g else downZ ((l - f) * 256) g
def btB (f g l h : Int) : Int := if g = 0 then 256 else if g < 0 then -downZ (-((l - f) * 256)) g else -downZ (-((h - f) * 256)) g
def btC (f g l h : Int) : Bool := if g = 0 then decide (l ≤ f ∧ f ≤ h) else true
def msF (f a : Int) : Int := if f < a then a else f
def msL (l b : Int) : Int := if b < l then b else l
def rsK (x y u v p q r t : Int) : Bool := btC x u p r && (!decide (msL 256 (btB x u p r) < msF 0 (btA x u p r)) && (btC y v q t && !decide (msL (msL 256 (btB x u p r)) (btB y v q t) < msF (msF 0 (btA x u p r)) (btA y v q t))))
def rsF (x y u v p q r t : Int) : Int := if rsK x y u v p q r t = true then msF (msF 0 (btA x u p r)) (btA y v q t) else 0
def rayB (x y u v : Int) : Bool := inB 2560000 x y && (inB 2560000 u v && !decide (u = 0 ∧ v = 0))
def rbK (x y u v p q r t : Int) : Bool := rayB x y u v && (bokB p q r t && (inB 2560000 p q && (inB 2560000 r t && rsK x y u v p q r t)))
def rbF (x y u v p q r t : Int) : Int := if rbK x y u v p q r t = true then rsF x y u v p q r t else 0
def bxx (x u t : Int) : Int := x + (u * t).tdiv 256
def rhB (x y u v p q g t : Int) : Bool := decide ((bxx x u t - p) * (bxx x u t - p) + (bxx y v t - q) * (bxx y v t - q) ≤ g * g)
def rrF (H : Int → Bool) : Nat → Int → Int × Bool
  | 0, _ => (0, false)
  | n + 1, t => if H t = true then (t, true) else rrF H n (t + 1)
def rsP (x y u v k g h p q : Int) : Int × Bool := if (rayB x y u v && (shB k g h && inB 2560000 p q)) = true then (if k = 1 then rrF (rhB x y u v p q g) 257 0 else (rsF x y u v (p - g) (q - h) (p + g) (q + h), rsK x y u v (p - g) (q - h) (p + g) (q + h))) else (0, false)
def rsAt (x y u v : Int) (U : Nat → Int) (k : Nat) : Int × Bool := rsP x y u v (U (k * 12 + 1)) (U (k * 12 + 2)) (U (k * 12 + 3)) (U (k * 12 + 4)) (U (k * 12 + 5))
def rayN (x y u v : Int) (U : Nat → Int) : Nat → Int × Int
  | 0 => (-1, 0)
  | k + 1 => if (rsAt x y u v U k).2 = true ∧ ((rayN x y u v U k).1 < 0 ∨ (rsAt x y u v U k).1 < (rayN x y u v U k).2) then (U (k * 12), (rsAt x y u v U k).1) else rayN x y u v U k
def rayA (T P : Int) (n : Nat) (U : Nat → Int) (m : Nat) (Q : Nat → Int) (x y u v : Int) : Int × Int := bif worldB T P n U m Q then rayN x y u v U n else (-1, 0)
structure RyR (w : World) (T P : Int) (a : Option Addr) (n c : Nat) (a' : Option Addr) (m c' : Nat) (x y u v : Int) (wr : World) : Prop where
  wd : WdR w T P a n c a' m c' wr
  big : w.heap.size + 1 < wr.heap.size
  r0 : wr.cell? ⟨w.heap.size + 1, 0, none⟩ = some (.int .i64 x)
  r1 : wr.cell? ⟨w.heap.size + 1, 1, none⟩ = some (.int .i64 y)
  r2 : wr.cell? ⟨w.heap.size + 1, 2, none⟩ = some (.int .i64 u)
  r3 : wr.cell? ⟨w.heap.size + 1, 3, none⟩ = some (.int .i64 v)
theorem RyR.on {w wr w' : World} {T P x y u v : Int} {a a' : Option Addr} {n c m c' : Nat} (h : RyR w T P a n c a' m c' x y u v wr) (hb : Below wr.heap.size wr w') : RyR w T P a n c a' m c' x y u v w' :=
  ⟨h.wd.on hb, Nat.lt_of_lt_of_le h.big hb.size, (hb.cell (p := ⟨w.heap.size + 1, 0, none⟩) h.big).trans h.r0, (hb.cell (p := ⟨w.heap.size + 1, 1, none⟩) h.big).trans h.r1, (hb.cell (p := ⟨w.heap.size + 1, 2, none⟩) h.big).trans h.r2, (hb.cell (p := ⟨w.heap.size + 1, 3, none⟩) h.big).trans h.r3⟩
end Go.Proofs.YtdajfjipomkpdaaGreat
namespace Go.Proofs.YtdajfjipomkpdaaGreat
open Go.RowKit
set_option linter.unusedVariables false
theorem shB_two {k g h : Int} (e : shB k g h = true) : (k = 1 ∧ h = 0 ∧ 1 ≤ g ∧ g ≤ 25600) ∨ (k = 2 ∧ 1 ≤ g ∧ g ≤ 25600 ∧ 1 ≤ h ∧ h ≤ 25600) := by
  unfold shB rdB bxB at e; simp only [Bool.or_eq_true, decide_eq_true_eq] at e; omega
end Go.Proofs.YtdajfjipomkpdaaGreat
namespace Go.Proofs.YtdajfjipomkpdaaGreat
open Go.RowKit
set_option linter.unusedVariables false
set_option linter.unusedSimpArgs false
structure VcR (w : World) (T P : Int) (a : Option Addr) (n c : Nat) (a' : Option Addr) (m c' : Nat) (x y : Int) (wr : World) : Prop where
  wd : WdR w T P a n c a' m c' wr
  big : w.heap.size + 1 < wr.heap.size
  r0 : wr.cell? ⟨w.heap.size + 1, 0, none⟩ = some (.int .i64 x)
  r1 : wr.cell? ⟨w.heap.size + 1, 1, none⟩ = some (.int .i64 y)
theorem VcR.on {w wr w' : World} {T P x y : Int} {a a' : Option Addr} {n c m c' : Nat} (h : VcR w T P a n c a' m c' x y wr) (hb : Below wr.heap.size wr w') : VcR w T P a n c a' m c' x y w' :=
  ⟨h.wd.on hb, Nat.lt_of_lt_of_le h.big hb.size, (hb.cell (p := ⟨w.heap.size + 1, 0, none⟩) h.big).trans h.r0, (hb.cell (p := ⟨w.heap.size + 1, 1, none⟩) h.big).trans h.r1⟩
theorem VcR.startB (w : World) (T P : Int) (x y : Int) (a a' : Option Addr) (n c m c' : Nat) : VcR w T P a n c a' m c' x y ((w.alloc (Obj.cells #[.int .i64 T, .int .i64 P, .slice a n c, .slice a' m c'] 26)).alloc (Obj.cells #[.int .i64 x, .int .i64 y] 28)) :=
  ⟨⟨((Below.refl _ _).alloc (Nat.le_refl _) _).alloc (by simp) _, by simp; omega, by go_simp, by go_simp, by go_simp, by go_simp⟩, by simp, by go_simp, by go_simp⟩
theorem OutL.under {w0 w w' : World} {t k : Nat} {a : Option Addr} {n c : Nat} {R : Nat → Int} (h : OutL w w' t k a n c R) (hb : Below w0.heap.size w0 w) : OutL w0 w' t k a n c R := ⟨hb.trans (h.bel.mono hb.size), h.own.base hb.size⟩
theorem bods_of_world {T P : Int} {n m : Nat} {U Q : Nat → Int} (h : worldB T P n U m Q = true) : bodsB n U = true := by
  unfold worldB at h
  simp only [Bool.and_eq_true] at h
  exact h.2.2.1
theorem RyR.startB (w : World) (T P : Int) (x y u v : Int) (a a' : Option Addr) (n c m c' : Nat) : RyR w T P a n c a' m c' x y u v ((w.alloc (Obj.cells #[.int .i64 T, .int .i64 P, .slice a n c, .slice a' m c'] 26)).alloc (Obj.cells #[.int .i64 x, .int .i64 y, .int .i64 u, .int .i64 v] 30)) :=
  ⟨⟨((Below.refl _ _).alloc (Nat.le_refl _) _).alloc (by simp) _, by simp; omega, by go_simp, by go_simp, by go_simp, by go_simp⟩, by simp, by go_simp, by go_simp, by go_simp, by go_simp⟩
set_option maxRecDepth 20000 in
set_option maxHeartbeats 8000000 in
theorem worldIn_q (T P : Int) (a : Option Addr) (n c : Nat) (U : Nat → Int) (a' : Option Addr) (m c' : Nat) (Q : Nat → Int) (x y u v : Int) (w : World) (h : Flat w a (n * 12) U) (h' : Flat w a' (m * 2) Q) (hn : n ≤ 1048576) (hm : m ≤ 1048576) :
    Calls Tryz.prog 6 #[worldW T P a n c a' m c', b4 x y u v] w fun e w' => ∃ a0 N c0, e = .returned (.slice a0 N c0) ∧ (idsA T P n U m Q (meetAt x y u v U)).length = N * 1 ∧ OutL w w' 3 1 a0 N c0 (ofL (idsA T P n U m Q (meetAt x y u v U))) := by
  have hset := cset_map
  have hS := RyR.startB w T P x y u v a a' n c m c'
  go_enter Tryz.func6, Tryz.ntmps6
  go_wp2_with (go_at_call 21; refine (idsIn_q T P a n c U a' m c' Q (w.heap.size + 1) x y u v _ (h.below hS.wd.bel) (h'.below hS.wd.bel) hn hm hS.r0 hS.r1 hS.r2 hS.r3 hS.big).mono ?_; rintro e w2 ⟨a0, N, c0, rfl, hN, hO⟩)
  go_ret
  exact ⟨_, _, _, rfl, hN, hO.under hS.wd.bel⟩
theorem meetAt_no {x y u v : Int} {U : Nat → Int} (h : bokB x y u v = false) (k : Nat) : meetAt x y u v U k = false := by unfold meetAt; rw [h]; simp
theorem sBoxOk_q (x y u v : Int) (b : Bool) (w : World) (e : bokB x y u v = b) : Calls Tryz.prog 10 #[b4 x y u v] w fun e w' => e = .returned (.bool b) ∧ Below w.heap.size w w' := by subst e; exact sBoxOk_any x y u v w
theorem l3Meets_q (a b c d r s t u : Int) (q : Bool) (w : World) (e : (leB a b t u && leB r s c d) = q) : Calls Tryz.prog 23 #[b4 a b c d, b4 r s t u] w fun e w' => e = .returned (.bool q) ∧ Below w.heap.size w w' := by subst e; exact l3Meets_any a b c d r s t u w
theorem l3Bounds_k (k g h x y : Int) (w : World) (s : shB k g h = true) (p : inB 2560000 x y = true) :
    Calls Tryz.prog 24 #[s3 k g h, vv x y] w fun e w' => e = .returned (b4 (sbA k g h x y) (sbB k g h x y) (sbC k g h x y) (sbD k g h x y)) ∧ Below w.heap.size w w' := by
  unfold sbA sbB sbC sbD
  rw [s, p]
  have hp := inB_of p
  rcases shB_two s with ⟨rfl, rfl, a1, a2⟩ | ⟨rfl, a1, a2, a3, a4⟩
  · exact l3Bounds_r g x y w a1 a2 hp.1 hp.2
  · exact l3Bounds_b g h x y w a1 a2 a3 a4 hp.1 hp.2
theorem sb_ok {k g h x y : Int} (s : shB k g h = true) (p : inB 2560000 x y = true) : bokB (sbA k g h x y) (sbB k g h x y) (sbC k g h x y) (sbD k g h x y) = true := by
  unfold sbA sbB sbC sbD bokB vokB leB
  rw [s, p]
  have hp := inB_of p
  rcases shB_two s with ⟨rfl, rfl, a1, a2⟩ | ⟨rfl, a1, a2, a3, a4⟩ <;> simp [bb, hh] <;> omega
set_option maxRecDepth 20000 in
set_option maxHeartbeats 8000000 in
theorem sWorldIn_q (T P : Int) (a : Option Addr) (n c : Nat) (U : Nat → Int) (a' : Option Addr) (m c' : Nat) (Q : Nat → Int) (x y u v : Int) (w : World) (h : Flat w a (n * 12) U) (h' : Flat w a' (m * 2) Q) (hn : n ≤ 1048576) (hm : m ≤ 1048576) :
    Calls Tryz.prog 8 #[worldW T P a n c a' m c', b4 x y u v] w fun e w' => ∃ a0 N c0, e = .returned (.slice a0 N c0) ∧ (idsA T P n U m Q (meetAt x y u v U)).length = N * 1 ∧ OutL w w' 3 1 a0 N c0 (ofL (idsA T P n U m Q (meetAt x y u v U))) := by
  have hset := cset_map
  have hS := RyR.startB w T P x y u v a a' n c m c'
  have hN := LsV.newAt ((w.alloc (Obj.cells #[.int .i64 T, .int .i64 P, .slice a n c, .slice a' m c'] 26)).alloc (Obj.cells #[.int .i64 x, .int .i64 y, .int .i64 u, .int .i64 v] 30)) 3 1 (w.heap.size + 1 + 1) (by simp)
  have hE := hN.bel
  cases hok : worldB T P n U m Q with
  | false =>
    unfold idsA
    rw [hok, cond_false]
    go_enter Tryz.func8, Tryz.ntmps8
    go_wp2_with (go_at_call 9; refine (sWorldOk_q T P a n c U a' m c' Q _ (h.below (hS.on hE).wd.bel) (h'.below (hS.on hE).wd.bel) hn hm false hok).mono ?_; rintro e w1 ⟨rfl, hb1⟩; have hB0 := (hS.on hE).on hb1; have r0 := hB0.r0; have r1 := hB0.r1; have r2 := hB0.r2; have r3 := hB0.r3)
    go_ret
    exact ⟨_, _, _, rfl, by simp, (hN.below hb1).out hS.wd.bel⟩
  | true =>
    unfold idsA
    rw [hok]
    cases hck : bokB x y u v with
    | false =>
      rw [cond_true, idL_none (meetAt_no hck)]
      go_enter Tryz.func8, Tryz.ntmps8
      go_wp2_with (first
        | (go_at_call 9; refine (sWorldOk_q T P a n c U a' m c' Q _ (h.below (hS.on hE).wd.bel) (h'.below (hS.on hE).wd.bel) hn hm true hok).mono ?_; rintro e w1 ⟨rfl, hb1⟩; have hB0 := (hS.on hE).on hb1; have r0 := hB0.r0; have r1 := hB0.r1; have r2 := hB0.r2; have r3 := hB0.r3)
        | (go_at_call 10; refine (sBoxOk_q _ _ _ _ _ _ hck).mono ?_; rintro e w3 ⟨rfl, hb3⟩))
      go_ret
      exact ⟨_, _, _, rfl, by simp, ((hN.below hb1).below hb3).out hS.wd.bel⟩
    | true =>
      go_enter Tryz.func8, Tryz.ntmps8
      go_upto_region 4 with (first
        | (go_at_call 9; refine (sWorldOk_q T P a n c U a' m c' Q _ (h.below (hS.on hE).wd.bel) (h'.below (hS.on hE).wd.bel) hn hm true hok).mono ?_; rintro e w1 ⟨rfl, hb1⟩; have hB0 := (hS.on hE).on hb1; have r0 := hB0.r0; have r1 := hB0.r1; have r2 := hB0.r2; have r3 := hB0.r3)
        | (go_at_call 10; refine (sBoxOk_q _ _ _ _ _ _ hck).mono ?_; rintro e w3 ⟨rfl, hb3⟩))
      have hL0 := (hN.below hb1).below hb3
      clear hb1 hb3 hB0 r0 r1 r2 r3 hE hN
      have hwb := bods_of_world hok
      generalize ((w.alloc (Obj.cells #[.int .i64 T, .int .i64 P, .slice a n c, .slice a' m c'] 26)).alloc (Obj.cells #[.int .i64 x, .int .i64 y, .int .i64 u, .int .i64 v] 30)) = wb at hS hL0 ⊢
      go_wp2
      go_loopw [5, 6] (fun s5 s wr => ∃ (k : Nat) (aL : Option Addr) (mL cL : Nat), k ≤ n ∧ s = .int .i64 (k : Int) ∧ s5 = .slice aL mL cL ∧ LsV wb wr 3 1 aL mL cL (idL (meetAt x y u v U) U k)) (fun _ s _ => n - (intOf s).toNat)
      case atStart => exact ⟨0, _, _, _, Nat.zero_le _, rfl, rfl, hL0⟩
      case round =>
        clear hL0
        obtain ⟨k, aL, mL, cL, hk, rfl, rfl, hL⟩ := hrel
        have hB := hS.on hL.bel
        have hbig := hB.big
        have z2 := hB.wd.c2
        by_cases hlt : k < n
        · have hkn : (k : Int) < (n : Int) := by omega
          obtain ⟨hs1, hs2⟩ := bods_sh hwb hlt
          obtain ⟨b, o, rfl, hbl, hc⟩ := (h.below hB.wd.bel) (by omega)
          have c0 := hc (k * 12) (by omega)
          have c1 := hc (k * 12 + 1) (by omega)
          have c2 := hc (k * 12 + 2) (by omega)
          have c3 := hc (k * 12 + 3) (by omega)
          have c4 := hc (k * 12 + 4) (by omega)
          have c5 := hc (k * 12 + 5) (by omega)
          simp only [← Nat.add_assoc] at c0 c1 c2 c3 c4 c5
          clear hc
          have r0 := hB.r0
          have r1 := hB.r1
          have r2 := hB.r2
          have r3 := hB.r3
          have hmk := hL.len
          have hmj := idL_len (meetAt x y u v U) U k
          obtain ⟨vb, hvp⟩ : ∃ vb, meetAt x y u v U k = vb := ⟨_, rfl⟩
          have hv := hvp
          unfold meetAt sbX at hv
          rw [sb_ok hs1 hs2, hck] at hv
          simp only [Bool.true_and] at hv
          go_upto_region 7 with fail
          go_cut [38] (fun s wd => s = .bool vb ∧ Below wr.heap.size wr wd)
          case first =>
            refine wp_region_held_drew (S := fun w' => w'.cell? ⟨w.heap.size + 1, 0, none⟩ = some (.int .i64 x) ∧ w'.cell? ⟨w.heap.size + 1, 1, none⟩ = some (.int .i64 y) ∧ w'.cell? ⟨w.heap.size + 1, 2, none⟩ = some (.int .i64 u) ∧ w'.cell? ⟨w.heap.size + 1, 3, none⟩ = some (.int .i64 v) ∧ w'.cell? ⟨w.heap.size, 2, none⟩ = some (.slice (some ⟨b, o, none⟩) n c) ∧ w'.cell? ⟨b, o + k * 12 + 1, none⟩ = some (.int .i64 (U (k * 12 + 1))) ∧ w'.cell? ⟨b, o + k * 12 + 2, none⟩ = some (.int .i64 (U (k * 12 + 2))) ∧ w'.cell? ⟨b, o + k * 12 + 3, none⟩ = some (.int .i64 (U (k * 12 + 3))) ∧ w'.cell? ⟨b, o + k * 12 + 4, none⟩ = some (.int .i64 (U (k * 12 + 4))) ∧ w'.cell? ⟨b, o + k * 12 + 5, none⟩ = some (.int .i64 (U (k * 12 + 5)))) (by kernel_rfl) ?_ (fun hHeld => ?_)
            · (try dsimp only)
              (first | (go_simp; done) | (go_keep; done))
            refine tq 0 hHeld ?_
            refine tq 1 hHeld ?_
            refine tq 2 hHeld ?_
            refine tq 3 hHeld ?_
            refine tq 4 hHeld ?_
            refine tq 5 hHeld ?_
            refine tq 6 hHeld ?_
            refine tq 7 hHeld ?_
            refine tq 8 hHeld ?_
            refine tq 9 hHeld ?_
            refine tq 10 hHeld ?_
            refine tq 11 hHeld ?_
            refine tq 13 hHeld ?_
            (refine tc 12 fun K hK => ?_; go_simp; (go_at_call 24; refine (l3Bounds_k _ _ _ _ _ _ hs1 hs2).mono ?_; rintro e w14 ⟨rfl, hb14⟩; obtain ⟨hc14, hf14⟩ := bcell hb14; have hz14 := hb14.size; (try simp only [World.size_drew, World.size_alloc, World.size_setCell] at hc14 hf14 hz14); have hk14x0 := fun o => hc14 (w.heap.size) o (by omega); have hj14x0 := fun o => hf14 (w.heap.size) o (by omega); have hq14x0 : w.heap.size < w14.heap.size := (by omega); have hk14x1 := fun o => hc14 (w.heap.size + 1) o (by omega); have hj14x1 := fun o => hf14 (w.heap.size + 1) o (by omega); have hq14x1 : w.heap.size + 1 < w14.heap.size := (by omega); have hk14x2 := fun o => hc14 (b) o (by omega); have hj14x2 := fun o => hf14 (b) o (by omega); have hq14x2 : b < w14.heap.size := (by omega); clear hc14 hf14); (try go_wp2_with fail); refine tr hK (fun hHeld => ?_); clear hK K)
            (refine tc 14 fun K hK => ?_; go_simp; (go_at_call 23; refine (l3Meets_q _ _ _ _ _ _ _ _ vb _ hv).mono ?_; rintro e w15 ⟨rfl, hb15⟩; obtain ⟨hc15, hf15⟩ := bcell hb15; have hz15 := hb15.size; (try simp only [World.size_drew, World.size_alloc, World.size_setCell] at hc15 hf15 hz15); have hk15x0 := fun o => hc15 (w.heap.size) o (by omega); have hj15x0 := fun o => hf15 (w.heap.size) o (by omega); have hq15x0 : w.heap.size < w15.heap.size := (by omega); have hk15x1 := fun o => hc15 (w.heap.size + 1) o (by omega); have hj15x1 := fun o => hf15 (w.heap.size + 1) o (by omega); have hq15x1 : w.heap.size + 1 < w15.heap.size := (by omega); have hk15x2 := fun o => hc15 (b) o (by omega); have hj15x2 := fun o => hf15 (b) o (by omega); have hq15x2 : b < w15.heap.size := (by omega); clear hc15 hf15); (try go_wp2_with fail); refine tr hK (fun hHeld => ?_); clear hK K)
            refine wpAnyH_done (by kernel_rfl) ?_ _
            go_wp2_with fail
            go_meet
            exact ⟨rfl, bel_a⟩
          case rest =>
          obtain ⟨rfl, hbd⟩ := hcut
          have hL2 := hL.below hbd
          have hB2 := hB.on hbd
          have x0 := (hbd.cell (p := ⟨b, o + k * 12, none⟩) hbl).trans c0
          clear c0 c1 c2 c3 c4 c5 z2 r0 r1 r2 r3 hv hB hL
          have z2 := hB2.wd.c2
          have hbz := hL2.bel.size
          cases vb with
          | false =>
            go_wp2
            go_roundw
            case rel => exact ⟨k + 1, _, _, _, by omega, by go_num, rfl, by rw [idL_no hvp]; exact hL2⟩
            case measure => simp [intOf]; omega
          | true =>
            go_wp2_with (refine wpList_app rfl _ _ _ rfl wb.heap.size 3 1 8 (.int .i64 0) Tryz.underlying33 (by kernel_rfl) (by rfl) (by omega) (.slice aL mL cL) mL (ofL (idL (meetAt x y u v U) U k)) rfl (hL2.below ((Below.refl _ _).alloc (Nat.le_refl _) _)).own _ 1 _ (ofL [U (k * 12)]) rfl (flat1 _ _ _) (by unfold maxLen; omega) (by omega) (by simp only [World.size_alloc]; omega) ?_; intro a3 c3 w3 ho3 hg3)
            have hP := (hL2.below ((Below.refl _ _).alloc (Nat.le_refl _) _)).push (x := [U (k * 12)]) rfl hg3 ho3
            go_roundw
            case rel => exact ⟨k + 1, _, _, _, by omega, by go_num, rfl, by rw [idL_yes hvp]; exact hP⟩
            case measure => simp [intOf]; omega
        · obtain rfl : k = n := by omega
          go_wp2
          go_ret
          exact ⟨_, _, _, rfl, hL.len, hL.out hS.wd.bel⟩
end Go.Proofs.YtdajfjipomkpdaaGreat
