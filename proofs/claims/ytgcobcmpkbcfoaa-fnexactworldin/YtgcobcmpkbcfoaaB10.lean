/- What may not be is 0. The contracts of ShapeBounds. The contract of a box's function. The contract of BoxMeets. The numbers of bodies that have a point, and of those that lie in a box: as lists. The numbers of bodies, by the program: WorldIn. The numbers of bodies, by the program: WorldAt. The contracts of quotients cut downwards and upwards, and of rays. -/
import Derived.Test.YtgcobcmpkbcfoaaB3
import Derived.Deep.QuietTactic
import Derived.BigQuiet
import Derived.Deep.RegionWith
import Derived.Deep.RegionHeld3
import Derived.Test.YtgcobcmpkbcfoaaB9
import Derived.Deep.DeepCutAuto
namespace Go.Proofs.Ytgcobcmpkbcfoaa
open Go.RowKit
set_option linter.unusedVariables false
set_option linter.unusedSimpArgs false

/-- a number, or 0 where it may not be -/
def bb (o : Bool) (x : Int) : Int := if o = true then x else 0
theorem bb_t (x : Int) : bb true x = x := rfl
theorem bb_f (x : Int) : bb false x = 0 := rfl

end Go.Proofs.Ytgcobcmpkbcfoaa
namespace Go.Proofs.Ytgcobcmpkbcfoaa
open Go.RowKit
set_option linter.unusedVariables false
set_option linter.unusedSimpArgs false

theorem me_r (v : Int) (w : World) : (method 283 142 (.agg #[.int .i64 v]) "loop.example/parquetry/impl.reach").run Try.prog w = .ok (146, .agg #[.int .i64 v]) w := by kernel_rfl
theorem me_b (v u : Int) (w : World) : (method 283 144 (.agg #[.int .i64 v, .int .i64 u]) "loop.example/parquetry/impl.reach").run Try.prog w = .ok (100, .agg #[.int .i64 v, .int .i64 u]) w := by kernel_rfl

set_option maxHeartbeats 2000000 in
theorem shBounds_n (k wd h x y : Int) (w : World) (hs : shB k wd h = false) :
    Calls Try.prog 50 #[s3 k wd h, vv x y] w fun e w' => e = .returned (b4 0 0 0 0) ∧ Below w.heap.size w w' := by
  have hset := cset_map
  go_enter Try.func50, Try.ntmps50
  go_wp2_with (first
    | (go_at_call 64; refine (figureOf_none _ _ _ _ (by assumption)).mono ?_; rintro e w1 ⟨rfl, hb1⟩; obtain ⟨hc1, hf1⟩ := bcell hb1; have hl1 := blt hb1; have hz1 := hb1.size; (try simp only [World.size_drew, World.size_alloc, World.size_setCell] at hc1 hf1 hl1 hz1); (try have hq1x0 : w.heap.size < w1.heap.size := (by omega)); (try have hq1x1 : w.heap.size + 1 < w1.heap.size := (by omega)); (try have hq1x2 : w.heap.size + 1 + 1 < w1.heap.size := (by omega))))
  all_goals
    exact bodyPost_ret (v := b4 0 0 0 0) (by simp [results, Try.results50, go_sem, *]) rfl ⟨rfl, by repeat (first | with_reducible apply Below.refl | (with_reducible apply Below.setCell; rotate_left; focus (first | omega | (simp; done) | (simp; omega))) | (with_reducible apply Below.alloc; rotate_left; focus (first | omega | (simp; done) | (simp; omega))) | with_reducible apply Below.drew | with_reducible apply belowDrewN | (with_reducible apply Below.trans; rotate_left; with_reducible apply Below.mono; with_reducible assumption; focus (first | omega | (simp; done) | (simp; omega))))⟩

set_option maxHeartbeats 2000000 in
theorem shBounds_rn (wd x y : Int) (w : World) (h1 : 1 ≤ wd) (h2 : wd ≤ 25600) (h0 : inB 2560000 x y = false) :
    Calls Try.prog 50 #[s3 1 wd 0, vv x y] w fun e w' => e = .returned (b4 0 0 0 0) ∧ Below w.heap.size w w' := by
  have hset := cset_map
  go_enter Try.func50, Try.ntmps50
  go_wp2_with (first
    | (go_at_call 64; refine (figureOf_round _ _ (by assumption) (by assumption)).mono ?_; rintro e w1 ⟨rfl, hb1⟩; obtain ⟨hc1, hf1⟩ := bcell hb1; have hl1 := blt hb1; have hz1 := hb1.size; (try simp only [World.size_drew, World.size_alloc, World.size_setCell] at hc1 hf1 hl1 hz1); (try have hq1x0 : w.heap.size < w1.heap.size := (by omega)); (try have hq1x1 : w.heap.size + 1 < w1.heap.size := (by omega)); (try have hq1x2 : w.heap.size + 1 + 1 < w1.heap.size := (by omega)))
    | (go_at_call 65; refine (isPlace_n _ _ _ (by assumption)).mono ?_; rintro e w2 ⟨rfl, hb2⟩; obtain ⟨hc2, hf2⟩ := bcell hb2; have hl2 := blt hb2; have hz2 := hb2.size; (try simp only [World.size_drew, World.size_alloc, World.size_setCell] at hc2 hf2 hl2 hz2); (try have hq2x0 : w.heap.size < w2.heap.size := (by omega)); (try have hq2x1 : w.heap.size + 1 < w2.heap.size := (by omega)); (try have hq2x2 : w.heap.size + 1 + 1 < w2.heap.size := (by omega)); (try have hq2x3 : w.heap.size + 1 + 1 + 1 < w2.heap.size := (by omega))))
  all_goals
    exact bodyPost_ret (v := b4 0 0 0 0) (by simp [results, Try.results50, go_sem, *]) rfl ⟨rfl, by repeat (first | with_reducible apply Below.refl | (with_reducible apply Below.setCell; rotate_left; focus (first | omega | (simp; done) | (simp; omega))) | (with_reducible apply Below.alloc; rotate_left; focus (first | omega | (simp; done) | (simp; omega))) | with_reducible apply Below.drew | with_reducible apply belowDrewN | (with_reducible apply Below.trans; rotate_left; with_reducible apply Below.mono; with_reducible assumption; focus (first | omega | (simp; done) | (simp; omega))))⟩

set_option maxRecDepth 20000 in
set_option maxHeartbeats 4000000 in
theorem shBounds_rt (wd x y : Int) (w : World) (h1 : 1 ≤ wd) (h2 : wd ≤ 25600) (h0 : inB 2560000 x y = true) :
    Calls Try.prog 50 #[s3 1 wd 0, vv x y] w fun e w' => e = .returned (b4 (x - wd) (y - wd) (x + wd) (y + wd)) ∧ Below w.heap.size w w' := by
  have hp := inB_of h0
  have hm1 := me_r
  have hm2 := me_b
  have hset := cset_map
  go_enter Try.func50, Try.ntmps50
  go_wp2_with (first
    | (go_at_call 64; refine (figureOf_round _ _ (by assumption) (by assumption)).mono ?_; rintro e w1 ⟨rfl, hb1⟩; obtain ⟨hc1, hf1⟩ := bcell hb1; have hl1 := blt hb1; have hz1 := hb1.size; (try simp only [World.size_drew, World.size_alloc, World.size_setCell] at hc1 hf1 hl1 hz1); (try have hq1x0 : w.heap.size < w1.heap.size := (by omega)); (try have hq1x1 : w.heap.size + 1 < w1.heap.size := (by omega)); (try have hq1x2 : w.heap.size + 1 + 1 < w1.heap.size := (by omega)))
    | (go_at_call 65; refine (isPlace_t _ _ _ (by assumption)).mono ?_; rintro e w2 ⟨rfl, hb2⟩; obtain ⟨hc2, hf2⟩ := bcell hb2; have hl2 := blt hb2; have hz2 := hb2.size; (try simp only [World.size_drew, World.size_alloc, World.size_setCell] at hc2 hf2 hl2 hz2); (try have hq2x0 : w.heap.size < w2.heap.size := (by omega)); (try have hq2x1 : w.heap.size + 1 < w2.heap.size := (by omega)); (try have hq2x2 : w.heap.size + 1 + 1 < w2.heap.size := (by omega)); (try have hq2x3 : w.heap.size + 1 + 1 + 1 < w2.heap.size := (by omega)))
    | (go_at_call 67; refine (wayOf_any _ _ _).mono ?_; rintro e w3 ⟨rfl, hb3⟩; obtain ⟨hc3, hf3⟩ := bcell hb3; have hl3 := blt hb3; have hz3 := hb3.size; (try simp only [World.size_drew, World.size_alloc, World.size_setCell] at hc3 hf3 hl3 hz3); (try have hq3x0 : w.heap.size < w3.heap.size := (by omega)); (try have hq3x1 : w.heap.size + 1 < w3.heap.size := (by omega)); (try have hq3x2 : w.heap.size + 1 + 1 < w3.heap.size := (by omega)); (try have hq3x3 : w.heap.size + 1 + 1 + 1 < w3.heap.size := (by omega)))
    | (go_at_call 146; refine (reach_r _ _).mono ?_; rintro e w4 ⟨rfl, hb4⟩; obtain ⟨hc4, hf4⟩ := bcell hb4; have hl4 := blt hb4; have hz4 := hb4.size; (try simp only [World.size_drew, World.size_alloc, World.size_setCell] at hc4 hf4 hl4 hz4); (try have hq4x0 : w.heap.size < w4.heap.size := (by omega)); (try have hq4x1 : w.heap.size + 1 < w4.heap.size := (by omega)); (try have hq4x2 : w.heap.size + 1 + 1 < w4.heap.size := (by omega)); (try have hq4x3 : w.heap.size + 1 + 1 + 1 < w4.heap.size := (by omega)))
    | (go_at_call 73; refine (spanAround_any _ _ _ _ _ (by omega) (by omega) (by omega) (by omega)).mono ?_; rintro e w5 ⟨rfl, hb5⟩; obtain ⟨hc5, hf5⟩ := bcell hb5; have hl5 := blt hb5; have hz5 := hb5.size; (try simp only [World.size_drew, World.size_alloc, World.size_setCell] at hc5 hf5 hl5 hz5); (try have hq5x0 : w.heap.size < w5.heap.size := (by omega)); (try have hq5x1 : w.heap.size + 1 < w5.heap.size := (by omega)); (try have hq5x2 : w.heap.size + 1 + 1 < w5.heap.size := (by omega)); (try have hq5x3 : w.heap.size + 1 + 1 + 1 < w5.heap.size := (by omega)))
    | (go_at_call 74; refine (spanBox_any _ _ _ _ _).mono ?_; rintro e w6 ⟨rfl, hb6⟩; obtain ⟨hc6, hf6⟩ := bcell hb6; have hl6 := blt hb6; have hz6 := hb6.size; (try simp only [World.size_drew, World.size_alloc, World.size_setCell] at hc6 hf6 hl6 hz6); (try have hq6x0 : w.heap.size < w6.heap.size := (by omega)); (try have hq6x1 : w.heap.size + 1 < w6.heap.size := (by omega)); (try have hq6x2 : w.heap.size + 1 + 1 < w6.heap.size := (by omega)); (try have hq6x3 : w.heap.size + 1 + 1 + 1 < w6.heap.size := (by omega))))
  all_goals
    exact bodyPost_ret (v := b4 (x - wd) (y - wd) (x + wd) (y + wd)) (by simp [results, Try.results50, go_sem, *]) rfl ⟨rfl, by repeat (first | with_reducible apply Below.refl | (with_reducible apply Below.setCell; rotate_left; focus (first | omega | (simp; done) | (simp; omega))) | (with_reducible apply Below.alloc; rotate_left; focus (first | omega | (simp; done) | (simp; omega))) | with_reducible apply Below.drew | with_reducible apply belowDrewN | (with_reducible apply Below.trans; rotate_left; with_reducible apply Below.mono; with_reducible assumption; focus (first | omega | (simp; done) | (simp; omega))))⟩

set_option maxHeartbeats 2000000 in
theorem shBounds_bn (wd h x y : Int) (w : World) (h1 : 1 ≤ wd) (h2 : wd ≤ 25600) (h3 : 1 ≤ h) (h4 : h ≤ 25600) (h0 : inB 2560000 x y = false) :
    Calls Try.prog 50 #[s3 2 wd h, vv x y] w fun e w' => e = .returned (b4 0 0 0 0) ∧ Below w.heap.size w w' := by
  have hset := cset_map
  go_enter Try.func50, Try.ntmps50
  go_wp2_with (first
    | (go_at_call 64; refine (figureOf_box _ _ _ (by assumption) (by assumption) (by assumption) (by assumption)).mono ?_; rintro e w1 ⟨rfl, hb1⟩; obtain ⟨hc1, hf1⟩ := bcell hb1; have hl1 := blt hb1; have hz1 := hb1.size; (try simp only [World.size_drew, World.size_alloc, World.size_setCell] at hc1 hf1 hl1 hz1); (try have hq1x0 : w.heap.size < w1.heap.size := (by omega)); (try have hq1x1 : w.heap.size + 1 < w1.heap.size := (by omega)); (try have hq1x2 : w.heap.size + 1 + 1 < w1.heap.size := (by omega)))
    | (go_at_call 65; refine (isPlace_n _ _ _ (by assumption)).mono ?_; rintro e w2 ⟨rfl, hb2⟩; obtain ⟨hc2, hf2⟩ := bcell hb2; have hl2 := blt hb2; have hz2 := hb2.size; (try simp only [World.size_drew, World.size_alloc, World.size_setCell] at hc2 hf2 hl2 hz2); (try have hq2x0 : w.heap.size < w2.heap.size := (by omega)); (try have hq2x1 : w.heap.size + 1 < w2.heap.size := (by omega)); (try have hq2x2 : w.heap.size + 1 + 1 < w2.heap.size := (by omega)); (try have hq2x3 : w.heap.size + 1 + 1 + 1 < w2.heap.size := (by omega))))
  all_goals
    exact bodyPost_ret (v := b4 0 0 0 0) (by simp [results, Try.results50, go_sem, *]) rfl ⟨rfl, by repeat (first | with_reducible apply Below.refl | (with_reducible apply Below.setCell; rotate_left; focus (first | omega | (simp; done) | (simp; omega))) | (with_reducible apply Below.alloc; rotate_left; focus (first | omega | (simp; done) | (simp; omega))) | with_reducible apply Below.drew | with_reducible apply belowDrewN | (with_reducible apply Below.trans; rotate_left; with_reducible apply Below.mono; with_reducible assumption; focus (first | omega | (simp; done) | (simp; omega))))⟩

set_option maxRecDepth 20000 in
set_option maxHeartbeats 4000000 in
theorem shBounds_bt (wd h x y : Int) (w : World) (h1 : 1 ≤ wd) (h2 : wd ≤ 25600) (h3 : 1 ≤ h) (h4 : h ≤ 25600) (h0 : inB 2560000 x y = true) :
    Calls Try.prog 50 #[s3 2 wd h, vv x y] w fun e w' => e = .returned (b4 (x - wd) (y - h) (x + wd) (y + h)) ∧ Below w.heap.size w w' := by
  have hp := inB_of h0
  have hm1 := me_r
  have hm2 := me_b
  have hset := cset_map
  go_enter Try.func50, Try.ntmps50
  go_wp2_with (first
    | (go_at_call 64; refine (figureOf_box _ _ _ (by assumption) (by assumption) (by assumption) (by assumption)).mono ?_; rintro e w1 ⟨rfl, hb1⟩; obtain ⟨hc1, hf1⟩ := bcell hb1; have hl1 := blt hb1; have hz1 := hb1.size; (try simp only [World.size_drew, World.size_alloc, World.size_setCell] at hc1 hf1 hl1 hz1); (try have hq1x0 : w.heap.size < w1.heap.size := (by omega)); (try have hq1x1 : w.heap.size + 1 < w1.heap.size := (by omega)); (try have hq1x2 : w.heap.size + 1 + 1 < w1.heap.size := (by omega)))
    | (go_at_call 65; refine (isPlace_t _ _ _ (by assumption)).mono ?_; rintro e w2 ⟨rfl, hb2⟩; obtain ⟨hc2, hf2⟩ := bcell hb2; have hl2 := blt hb2; have hz2 := hb2.size; (try simp only [World.size_drew, World.size_alloc, World.size_setCell] at hc2 hf2 hl2 hz2); (try have hq2x0 : w.heap.size < w2.heap.size := (by omega)); (try have hq2x1 : w.heap.size + 1 < w2.heap.size := (by omega)); (try have hq2x2 : w.heap.size + 1 + 1 < w2.heap.size := (by omega)); (try have hq2x3 : w.heap.size + 1 + 1 + 1 < w2.heap.size := (by omega)))
    | (go_at_call 67; refine (wayOf_any _ _ _).mono ?_; rintro e w3 ⟨rfl, hb3⟩; obtain ⟨hc3, hf3⟩ := bcell hb3; have hl3 := blt hb3; have hz3 := hb3.size; (try simp only [World.size_drew, World.size_alloc, World.size_setCell] at hc3 hf3 hl3 hz3); (try have hq3x0 : w.heap.size < w3.heap.size := (by omega)); (try have hq3x1 : w.heap.size + 1 < w3.heap.size := (by omega)); (try have hq3x2 : w.heap.size + 1 + 1 < w3.heap.size := (by omega)); (try have hq3x3 : w.heap.size + 1 + 1 + 1 < w3.heap.size := (by omega)))
    | (go_at_call 100; refine (reach_b _ _ _).mono ?_; rintro e w4 ⟨rfl, hb4⟩; obtain ⟨hc4, hf4⟩ := bcell hb4; have hl4 := blt hb4; have hz4 := hb4.size; (try simp only [World.size_drew, World.size_alloc, World.size_setCell] at hc4 hf4 hl4 hz4); (try have hq4x0 : w.heap.size < w4.heap.size := (by omega)); (try have hq4x1 : w.heap.size + 1 < w4.heap.size := (by omega)); (try have hq4x2 : w.heap.size + 1 + 1 < w4.heap.size := (by omega)); (try have hq4x3 : w.heap.size + 1 + 1 + 1 < w4.heap.size := (by omega)))
    | (go_at_call 73; refine (spanAround_any _ _ _ _ _ (by omega) (by omega) (by omega) (by omega)).mono ?_; rintro e w5 ⟨rfl, hb5⟩; obtain ⟨hc5, hf5⟩ := bcell hb5; have hl5 := blt hb5; have hz5 := hb5.size; (try simp only [World.size_drew, World.size_alloc, World.size_setCell] at hc5 hf5 hl5 hz5); (try have hq5x0 : w.heap.size < w5.heap.size := (by omega)); (try have hq5x1 : w.heap.size + 1 < w5.heap.size := (by omega)); (try have hq5x2 : w.heap.size + 1 + 1 < w5.heap.size := (by omega)); (try have hq5x3 : w.heap.size + 1 + 1 + 1 < w5.heap.size := (by omega)))
    | (go_at_call 74; refine (spanBox_any _ _ _ _ _).mono ?_; rintro e w6 ⟨rfl, hb6⟩; obtain ⟨hc6, hf6⟩ := bcell hb6; have hl6 := blt hb6; have hz6 := hb6.size; (try simp only [World.size_drew, World.size_alloc, World.size_setCell] at hc6 hf6 hl6 hz6); (try have hq6x0 : w.heap.size < w6.heap.size := (by omega)); (try have hq6x1 : w.heap.size + 1 < w6.heap.size := (by omega)); (try have hq6x2 : w.heap.size + 1 + 1 < w6.heap.size := (by omega)); (try have hq6x3 : w.heap.size + 1 + 1 + 1 < w6.heap.size := (by omega))))
  all_goals
    exact bodyPost_ret (v := b4 (x - wd) (y - h) (x + wd) (y + h)) (by simp [results, Try.results50, go_sem, *]) rfl ⟨rfl, by repeat (first | with_reducible apply Below.refl | (with_reducible apply Below.setCell; rotate_left; focus (first | omega | (simp; done) | (simp; omega))) | (with_reducible apply Below.alloc; rotate_left; focus (first | omega | (simp; done) | (simp; omega))) | with_reducible apply Below.drew | with_reducible apply belowDrewN | (with_reducible apply Below.trans; rotate_left; with_reducible apply Below.mono; with_reducible assumption; focus (first | omega | (simp; done) | (simp; omega))))⟩

def sbA (k wd h x y : Int) : Int := bb (shB k wd h && inB 2560000 x y) (x - wd)
def sbB (k wd h x y : Int) : Int := bb (shB k wd h && inB 2560000 x y) (y - hh k wd h)
def sbC (k wd h x y : Int) : Int := bb (shB k wd h && inB 2560000 x y) (x + wd)
def sbD (k wd h x y : Int) : Int := bb (shB k wd h && inB 2560000 x y) (y + hh k wd h)

theorem shapeBounds_any (k wd h x y : Int) (w : World) :
    Calls Try.prog 50 #[s3 k wd h, vv x y] w fun e w' => e = .returned (b4 (sbA k wd h x y) (sbB k wd h x y) (sbC k wd h x y) (sbD k wd h x y)) ∧ Below w.heap.size w w' := by
  unfold sbA sbB sbC sbD
  cases hs : shB k wd h with
  | false => simp only [Bool.false_and, bb_f]; exact shBounds_n k wd h x y w hs
  | true =>
    have hq := hs
    unfold shB at hq
    simp only [Bool.or_eq_true] at hq
    cases h0 : inB 2560000 x y with
    | false =>
      simp only [Bool.true_and, bb_f]
      rcases hq with hq | hq
      · unfold rdB at hq; obtain ⟨rfl, ⟨h1, h2⟩, rfl⟩ := of_decide_eq_true hq; exact shBounds_rn wd x y w h1 h2 h0
      · unfold bxB at hq; obtain ⟨rfl, ⟨h1, h2⟩, h3, h4⟩ := of_decide_eq_true hq; exact shBounds_bn wd h x y w h1 h2 h3 h4 h0
    | true =>
      simp only [Bool.true_and, bb_t]
      rcases hq with hq | hq
      · unfold rdB at hq; obtain ⟨rfl, ⟨h1, h2⟩, rfl⟩ := of_decide_eq_true hq; exact shBounds_rt wd x y w h1 h2 h0
      · unfold bxB at hq; obtain ⟨rfl, ⟨h1, h2⟩, h3, h4⟩ := of_decide_eq_true hq; exact shBounds_bt wd h x y w h1 h2 h3 h4 h0

end Go.Proofs.Ytgcobcmpkbcfoaa
namespace Go.Proofs.Ytgcobcmpkbcfoaa
open Go.RowKit
set_option linter.unusedVariables false
set_option linter.unusedSimpArgs false

theorem boxOk_t (a b c d : Int) (w : World) (h : bokB a b c d = true) : Calls Try.prog 70 #[b4 a b c d] w fun e w' => e = .returned (.bool true) ∧ Below w.heap.size w w' := by
  have k := boxOk_any a b c d w
  rw [h] at k
  exact k
theorem boxOk_n (a b c d : Int) (w : World) (h : bokB a b c d = false) : Calls Try.prog 70 #[b4 a b c d] w fun e w' => e = .returned (.bool false) ∧ Below w.heap.size w w' := by
  have k := boxOk_any a b c d w
  rw [h] at k
  exact k
theorem noneGreater_t (x y u v : Int) (w : World) (h : leB x y u v = true) : Calls Try.prog 93 #[vv x y, vv u v] w fun e w' => e = .returned (.bool true) ∧ Below w.heap.size w w' := by
  have k := noneGreater_any x y u v w
  rw [h] at k
  exact k
theorem noneGreater_n (x y u v : Int) (w : World) (h : leB x y u v = false) : Calls Try.prog 93 #[vv x y, vv u v] w fun e w' => e = .returned (.bool false) ∧ Below w.heap.size w w' := by
  have k := noneGreater_any x y u v w
  rw [h] at k
  exact k

end Go.Proofs.Ytgcobcmpkbcfoaa
namespace Go.Proofs.Ytgcobcmpkbcfoaa
open Go.RowKit
set_option linter.unusedVariables false
set_option linter.unusedSimpArgs false

set_option maxHeartbeats 4000000 in
theorem meet_n1 (a b c d r s t u : Int) (w : World) (h1 : bokB a b c d = false) :
    Calls Try.prog 49 #[b4 a b c d, b4 r s t u] w fun e w' => e = .returned (.bool (bokB a b c d && (bokB r s t u && (leB a b t u && leB r s c d)))) ∧ Below w.heap.size w w' := by
  have hset := cset_map
  go_enter Try.func49, Try.ntmps49
  go_wp2_with (first
    | (go_at_call 70; refine (boxOk_t _ _ _ _ _ (by assumption)).mono ?_; rintro e w1 ⟨rfl, hb1⟩; obtain ⟨hc1, hf1⟩ := bcell hb1; have hl1 := blt hb1; have hz1 := hb1.size; (try simp only [World.size_drew, World.size_alloc, World.size_setCell] at hc1 hf1 hl1 hz1); (try have hq1x0 : w.heap.size < w1.heap.size := (by omega)); (try have hq1x1 : w.heap.size + 1 < w1.heap.size := (by omega)); (try have hq1x2 : w.heap.size + 1 + 1 < w1.heap.size := (by omega)))
    | (go_at_call 70; refine (boxOk_n _ _ _ _ _ (by assumption)).mono ?_; rintro e w1 ⟨rfl, hb1⟩; obtain ⟨hc1, hf1⟩ := bcell hb1; have hl1 := blt hb1; have hz1 := hb1.size; (try simp only [World.size_drew, World.size_alloc, World.size_setCell] at hc1 hf1 hl1 hz1); (try have hq1x0 : w.heap.size < w1.heap.size := (by omega)); (try have hq1x1 : w.heap.size + 1 < w1.heap.size := (by omega)); (try have hq1x2 : w.heap.size + 1 + 1 < w1.heap.size := (by omega))))
  all_goals
    go_ret
    refine ⟨ret_bool ?_, by repeat (first | with_reducible apply Below.refl | (with_reducible apply Below.setCell; rotate_left; focus (first | omega | (simp; done) | (simp; omega))) | (with_reducible apply Below.alloc; rotate_left; focus (first | omega | (simp; done) | (simp; omega))) | with_reducible apply Below.drew | with_reducible apply belowDrewN | (with_reducible apply Below.trans; rotate_left; with_reducible apply Below.mono; with_reducible assumption; focus (first | omega | (simp; done) | (simp; omega))))⟩
    simp [*]

set_option maxHeartbeats 4000000 in
theorem meet_n2 (a b c d r s t u : Int) (w : World) (h1 : bokB a b c d = true) (h2 : bokB r s t u = false) :
    Calls Try.prog 49 #[b4 a b c d, b4 r s t u] w fun e w' => e = .returned (.bool (bokB a b c d && (bokB r s t u && (leB a b t u && leB r s c d)))) ∧ Below w.heap.size w w' := by
  have hset := cset_map
  go_enter Try.func49, Try.ntmps49
  go_wp2_with (first
    | (go_at_call 70; refine (boxOk_t _ _ _ _ _ (by assumption)).mono ?_; rintro e w1 ⟨rfl, hb1⟩; obtain ⟨hc1, hf1⟩ := bcell hb1; have hl1 := blt hb1; have hz1 := hb1.size; (try simp only [World.size_drew, World.size_alloc, World.size_setCell] at hc1 hf1 hl1 hz1); (try have hq1x0 : w.heap.size < w1.heap.size := (by omega)); (try have hq1x1 : w.heap.size + 1 < w1.heap.size := (by omega)); (try have hq1x2 : w.heap.size + 1 + 1 < w1.heap.size := (by omega)))
    | (go_at_call 70; refine (boxOk_n _ _ _ _ _ (by assumption)).mono ?_; rintro e w1 ⟨rfl, hb1⟩; obtain ⟨hc1, hf1⟩ := bcell hb1; have hl1 := blt hb1; have hz1 := hb1.size; (try simp only [World.size_drew, World.size_alloc, World.size_setCell] at hc1 hf1 hl1 hz1); (try have hq1x0 : w.heap.size < w1.heap.size := (by omega)); (try have hq1x1 : w.heap.size + 1 < w1.heap.size := (by omega)); (try have hq1x2 : w.heap.size + 1 + 1 < w1.heap.size := (by omega))))
  all_goals
    go_ret
    refine ⟨ret_bool ?_, by repeat (first | with_reducible apply Below.refl | (with_reducible apply Below.setCell; rotate_left; focus (first | omega | (simp; done) | (simp; omega))) | (with_reducible apply Below.alloc; rotate_left; focus (first | omega | (simp; done) | (simp; omega))) | with_reducible apply Below.drew | with_reducible apply belowDrewN | (with_reducible apply Below.trans; rotate_left; with_reducible apply Below.mono; with_reducible assumption; focus (first | omega | (simp; done) | (simp; omega))))⟩
    simp [*]

set_option maxHeartbeats 8000000 in
theorem meet_y (a b c d r s t u : Int) (w : World) (h1 : bokB a b c d = true) (h2 : bokB r s t u = true) :
    Calls Try.prog 49 #[b4 a b c d, b4 r s t u] w fun e w' => e = .returned (.bool (bokB a b c d && (bokB r s t u && (leB a b t u && leB r s c d)))) ∧ Below w.heap.size w w' := by
  have hset := cset_map
  go_enter Try.func49, Try.ntmps49
  go_wp2_with (first
    | (go_at_call 70; refine (boxOk_t _ _ _ _ _ (by assumption)).mono ?_; rintro e w1 ⟨rfl, hb1⟩; obtain ⟨hc1, hf1⟩ := bcell hb1; have hl1 := blt hb1; have hz1 := hb1.size; (try simp only [World.size_drew, World.size_alloc, World.size_setCell] at hc1 hf1 hl1 hz1); (try have hq1x0 : w.heap.size < w1.heap.size := (by omega)); (try have hq1x1 : w.heap.size + 1 < w1.heap.size := (by omega)); (try have hq1x2 : w.heap.size + 1 + 1 < w1.heap.size := (by omega)))
    | (go_at_call 70; refine (boxOk_n _ _ _ _ _ (by assumption)).mono ?_; rintro e w1 ⟨rfl, hb1⟩; obtain ⟨hc1, hf1⟩ := bcell hb1; have hl1 := blt hb1; have hz1 := hb1.size; (try simp only [World.size_drew, World.size_alloc, World.size_setCell] at hc1 hf1 hl1 hz1); (try have hq1x0 : w.heap.size < w1.heap.size := (by omega)); (try have hq1x1 : w.heap.size + 1 < w1.heap.size := (by omega)); (try have hq1x2 : w.heap.size + 1 + 1 < w1.heap.size := (by omega))))
  go_region_held3 (fun w' => w'.cell? ⟨w.heap.size, 0, none⟩ = some (.int .i64 a) ∧ w'.cell? ⟨w.heap.size, 1, none⟩ = some (.int .i64 b) ∧ w'.cell? ⟨w.heap.size, 2, none⟩ = some (.int .i64 c) ∧ w'.cell? ⟨w.heap.size, 3, none⟩ = some (.int .i64 d) ∧ w'.cell? ⟨w.heap.size + 1, 0, none⟩ = some (.int .i64 r) ∧ w'.cell? ⟨w.heap.size + 1, 1, none⟩ = some (.int .i64 s) ∧ w'.cell? ⟨w.heap.size + 1, 2, none⟩ = some (.int .i64 t) ∧ w'.cell? ⟨w.heap.size + 1, 3, none⟩ = some (.int .i64 u)) (first | (go_simp; done) | (go_keep; done)) (first
    | (go_at_call 71; refine (spanOf_any _ _ _ _ _).mono ?_; rintro e w2 ⟨rfl, hb2⟩; obtain ⟨hc2, hf2⟩ := bcell hb2; have hl2 := blt hb2; have hz2 := hb2.size; (try simp only [World.size_drew, World.size_alloc, World.size_setCell] at hc2 hf2 hl2 hz2); (try have hq2x0 : w.heap.size < w2.heap.size := (by omega)); (try have hq2x1 : w.heap.size + 1 < w2.heap.size := (by omega)); (try have hq2x2 : w.heap.size + 1 + 1 < w2.heap.size := (by omega)))
    | (go_at_call 72; refine (spanMeets_any _ _ _ _ _ _ _ _ _).mono ?_; rintro e w3 ⟨rfl, hb3⟩; obtain ⟨hc3, hf3⟩ := bcell hb3; have hl3 := blt hb3; have hz3 := hb3.size; (try simp only [World.size_drew, World.size_alloc, World.size_setCell] at hc3 hf3 hl3 hz3); (try have hq3x0 : w.heap.size < w3.heap.size := (by omega)); (try have hq3x1 : w.heap.size + 1 < w3.heap.size := (by omega)); (try have hq3x2 : w.heap.size + 1 + 1 < w3.heap.size := (by omega))))
  all_goals
    go_wp2
    go_ret
    refine ⟨ret_bool ?_, by repeat (first | with_reducible apply Below.refl | (with_reducible apply Below.setCell; rotate_left; focus (first | omega | (simp; done) | (simp; omega))) | (with_reducible apply Below.alloc; rotate_left; focus (first | omega | (simp; done) | (simp; omega))) | with_reducible apply Below.drew | with_reducible apply belowDrewN | (with_reducible apply Below.trans; rotate_left; with_reducible apply Below.mono; with_reducible assumption; focus (first | omega | (simp; done) | (simp; omega))))⟩
    simp [*]

theorem boxMeets_any (a b c d r s t u : Int) (w : World) :
    Calls Try.prog 49 #[b4 a b c d, b4 r s t u] w fun e w' => e = .returned (.bool (bokB a b c d && (bokB r s t u && (leB a b t u && leB r s c d)))) ∧ Below w.heap.size w w' := by
  cases h1 : bokB a b c d with
  | false => have k := meet_n1 a b c d r s t u w h1; rw [h1] at k; exact k
  | true =>
    cases h2 : bokB r s t u with
    | false => have k := meet_n2 a b c d r s t u w h1 h2; rw [h1, h2] at k; exact k
    | true => have k := meet_y a b c d r s t u w h1 h2; rw [h1, h2] at k; exact k

end Go.Proofs.Ytgcobcmpkbcfoaa
namespace Go.Proofs.Ytgcobcmpkbcfoaa
open Go.RowKit
set_option linter.unusedVariables false
set_option linter.unusedSimpArgs false

def idL (p : Nat → Bool) (U : Nat → Int) : Nat → List Int
  | 0 => []
  | k + 1 => idL p U k ++ (if p k = true then [U (k * 12)] else [])
theorem idL_yes {p : Nat → Bool} {U : Nat → Int} {k : Nat} (h : p k = true) : idL p U (k + 1) = idL p U k ++ [U (k * 12)] := by rw [idL, if_pos h]
theorem idL_no {p : Nat → Bool} {U : Nat → Int} {k : Nat} (h : p k = false) : idL p U (k + 1) = idL p U k := by rw [idL, if_neg (by rw [h]; simp), List.append_nil]
theorem idL_none {p : Nat → Bool} {U : Nat → Int} (h : ∀ k, p k = false) : ∀ k, idL p U k = []
  | 0 => rfl
  | k + 1 => by rw [idL_no (h k), idL_none h k]
theorem idL_len (p : Nat → Bool) (U : Nat → Int) : ∀ k, (idL p U k).length ≤ k
  | 0 => Nat.le_refl _
  | k + 1 => by
    have := idL_len p U k
    cases h : p k with
    | true => rw [idL_yes h, List.length_append]; simp; omega
    | false => rw [idL_no h]; omega
def idsA (T P : Int) (n : Nat) (U : Nat → Int) (m : Nat) (Q : Nat → Int) (p : Nat → Bool) : List Int := bif worldB T P n U m Q then idL p U n else []
theorem idsA_len (T P : Int) (n : Nat) (U : Nat → Int) (m : Nat) (Q : Nat → Int) (p : Nat → Bool) : (idsA T P n U m Q p).length ≤ n := by
  unfold idsA
  cases worldB T P n U m Q with
  | true => exact idL_len p U n
  | false => simp
/-- whether the body of place k has a point -/
def hasAt (x y : Int) (U : Nat → Int) (k : Nat) : Bool := shV (U (k * 12 + 1)) (U (k * 12 + 2)) (U (k * 12 + 3)) (U (k * 12 + 4)) (U (k * 12 + 5)) x y
def sbX (f : Int → Int → Int → Int → Int → Int) (U : Nat → Int) (k : Nat) : Int := f (U (k * 12 + 1)) (U (k * 12 + 2)) (U (k * 12 + 3)) (U (k * 12 + 4)) (U (k * 12 + 5))
/-- whether the bounds of the body of place k meet a box -/
def meetAt (x y u v : Int) (U : Nat → Int) (k : Nat) : Bool := bokB (sbX sbA U k) (sbX sbB U k) (sbX sbC U k) (sbX sbD U k) && (bokB x y u v && (leB (sbX sbA U k) (sbX sbB U k) u v && leB x y (sbX sbC U k) (sbX sbD U k)))
theorem shapeHas_q (k g h x y u v : Int) (b : Bool) (w : World) (e : shV k g h x y u v = b) : Calls Try.prog 42 #[s3 k g h, vv x y, vv u v] w fun e w' => e = .returned (.bool b) ∧ Below w.heap.size w w' := by subst e; exact shapeHas_any k g h x y u v w
theorem boxMeets_q (a b c d r s t u : Int) (q : Bool) (w : World) (e : (bokB a b c d && (bokB r s t u && (leB a b t u && leB r s c d))) = q) : Calls Try.prog 49 #[b4 a b c d, b4 r s t u] w fun e w' => e = .returned (.bool q) ∧ Below w.heap.size w w' := by subst e; exact boxMeets_any a b c d r s t u w
theorem WdR.start (w : World) (T P : Int) (a a' : Option Addr) (n c m c' : Nat) : WdR w T P a n c a' m c' (w.alloc (Obj.cells #[.int .i64 T, .int .i64 P, .slice a n c, .slice a' m c'] 31)) := ⟨(Below.refl _ _).alloc (Nat.le_refl _) _, by simp, by go_simp, by go_simp, by go_simp, by go_simp⟩
end Go.Proofs.Ytgcobcmpkbcfoaa
namespace Go.Proofs.Ytgcobcmpkbcfoaa
open Go.RowKit
set_option linter.unusedVariables false
set_option linter.unusedSimpArgs false

set_option maxRecDepth 20000 in
set_option maxHeartbeats 8000000 in
theorem clIn_q (k fb : Nat) (U : Nat → Int) (x y u v : Int) (b : Bool) (w : World) (g0 : w.cell? ⟨fb, 0, none⟩ = some (.int .i64 x)) (g1 : w.cell? ⟨fb, 1, none⟩ = some (.int .i64 y)) (g2 : w.cell? ⟨fb, 2, none⟩ = some (.int .i64 u)) (g3 : w.cell? ⟨fb, 3, none⟩ = some (.int .i64 v)) (gl : fb < w.heap.size) (e : meetAt x y u v U k = b) :
    Calls Try.prog 48 #[.agg #[.int .i64 (U (k * 12)), .int .i64 (U (k * 12 + 1)), .int .i64 (U (k * 12 + 2)), .int .i64 (U (k * 12 + 3)), .int .i64 (U (k * 12 + 4)), .int .i64 (U (k * 12 + 5)), .int .i64 (U (k * 12 + 6)), .int .i64 (U (k * 12 + 7)), .int .i64 (U (k * 12 + 8)), .int .i64 (U (k * 12 + 9)), .int .i64 (U (k * 12 + 10)), .int .i64 (U (k * 12 + 11))], .pointer (some ⟨fb, 0, none⟩)] w fun e w' => e = .returned (.bool b) ∧ Below w.heap.size w w' := by
  have hset := cset_map
  go_enter Try.func48, Try.ntmps48
  go_upto_region 1 with fail
  refine wp_region_held_drew (S := fun w' => w'.cell? ⟨fb, 0, none⟩ = some (.int .i64 x) ∧ w'.cell? ⟨fb, 1, none⟩ = some (.int .i64 y) ∧ w'.cell? ⟨fb, 2, none⟩ = some (.int .i64 u) ∧ w'.cell? ⟨fb, 3, none⟩ = some (.int .i64 v) ∧ w'.cell? ⟨w.heap.size, 0, none⟩ = some (.int .i64 (U (k * 12))) ∧ w'.cell? ⟨w.heap.size, 1, none⟩ = some (.int .i64 (U (k * 12 + 1))) ∧ w'.cell? ⟨w.heap.size, 2, none⟩ = some (.int .i64 (U (k * 12 + 2))) ∧ w'.cell? ⟨w.heap.size, 3, none⟩ = some (.int .i64 (U (k * 12 + 3))) ∧ w'.cell? ⟨w.heap.size, 4, none⟩ = some (.int .i64 (U (k * 12 + 4))) ∧ w'.cell? ⟨w.heap.size, 5, none⟩ = some (.int .i64 (U (k * 12 + 5)))) (by kernel_rfl) ?_ (fun hHeld => ?_)
  · (try dsimp only)
    (first | (go_simp; done) | (go_keep; done))
  refine tq 0 hHeld ?_
  refine tq 1 hHeld ?_
  refine tq 2 hHeld ?_
  refine tq 3 hHeld ?_
  refine tq 5 hHeld ?_
  (refine tc 4 fun K hK => ?_; go_simp; (go_at_call 50; refine (shapeBounds_any _ _ _ _ _ _).mono ?_; rintro e w4 ⟨rfl, hb4⟩; obtain ⟨hc4, hf4⟩ := bcell hb4; have hz4 := hb4.size; (try simp only [World.size_drew, World.size_alloc, World.size_setCell] at hc4 hf4 hz4); have hk4x0 := fun o => hc4 (w.heap.size) o (by omega); have hj4x0 := fun o => hf4 (w.heap.size) o (by omega); have hq4x0 : w.heap.size < w4.heap.size := (by omega); have hk4x1 := fun o => hc4 (fb) o (by omega); have hj4x1 := fun o => hf4 (fb) o (by omega); have hq4x1 : fb < w4.heap.size := (by omega); clear hc4 hf4); (try go_wp2_with fail); refine tr hK (fun hHeld => ?_); clear hK K)
  (refine tc 6 fun K hK => ?_; go_simp; (go_at_call 49; refine (boxMeets_q _ _ _ _ _ _ _ _ b _ e).mono ?_; rintro e w5 ⟨rfl, hb5⟩; obtain ⟨hc5, hf5⟩ := bcell hb5; have hz5 := hb5.size; (try simp only [World.size_drew, World.size_alloc, World.size_setCell] at hc5 hf5 hz5); have hk5x0 := fun o => hc5 (w.heap.size) o (by omega); have hj5x0 := fun o => hf5 (w.heap.size) o (by omega); have hq5x0 : w.heap.size < w5.heap.size := (by omega); have hk5x1 := fun o => hc5 (fb) o (by omega); have hj5x1 := fun o => hf5 (fb) o (by omega); have hq5x1 : fb < w5.heap.size := (by omega); clear hc5 hf5); (try go_wp2_with fail); refine tr hK (fun hHeld => ?_); clear hK K)
  refine tq 7 hHeld ?_
  refine wpAnyH_done (by kernel_rfl) ?_ _
  go_wp2_with fail
  go_ret
  exact ⟨rfl, by repeat (first | with_reducible apply Below.refl | (with_reducible apply Below.setCell; rotate_left; focus (first | omega | (simp; done) | (simp; omega))) | (with_reducible apply Below.alloc; rotate_left; focus (first | omega | (simp; done) | (simp; omega))) | with_reducible apply Below.drew | with_reducible apply belowDrewN | (with_reducible apply Below.trans; rotate_left; with_reducible apply Below.mono; with_reducible assumption; focus (first | omega | (simp; done) | (simp; omega))))⟩

set_option maxRecDepth 20000 in
set_option maxHeartbeats 8000000 in
theorem idsIn_q (T P : Int) (a : Option Addr) (n c : Nat) (U : Nat → Int) (a' : Option Addr) (m c' : Nat) (Q : Nat → Int) (fb : Nat) (x y u v : Int) (w : World) (h : Flat w a (n * 12) U) (h' : Flat w a' (m * 2) Q) (hn : n ≤ 1048576) (hm : m ≤ 1048576) (g0 : w.cell? ⟨fb, 0, none⟩ = some (.int .i64 x)) (g1 : w.cell? ⟨fb, 1, none⟩ = some (.int .i64 y)) (g2 : w.cell? ⟨fb, 2, none⟩ = some (.int .i64 u)) (g3 : w.cell? ⟨fb, 3, none⟩ = some (.int .i64 v)) (gl : fb < w.heap.size) :
    Calls Try.prog 40 #[worldW T P a n c a' m c', .func (.func 48) #[] #[.pointer (some ⟨fb, 0, none⟩)]] w fun e w' => ∃ a0 N c0, e = .returned (.slice a0 N c0) ∧ (idsA T P n U m Q (meetAt x y u v U)).length = N * 1 ∧ OutL w w' 3 1 a0 N c0 (ofL (idsA T P n U m Q (meetAt x y u v U))) := by
  have hset := cset_map
  have hS := WdR.start w T P a a' n c m c'
  cases hok : worldB T P n U m Q with
  | false =>
    unfold idsA
    rw [hok]
    go_enter Try.func40, Try.ntmps40
    go_wp2_with (go_at_call 10; refine (worldOk_q T P a n c U a' m c' Q _ (h.below hS.bel) (h'.below hS.bel) hn hm false hok).mono ?_; rintro e w1 ⟨rfl, hb1⟩)
    go_ret
    exact ⟨_, _, _, rfl, by simp, (hS.on hb1).bel, OwnL.nil _ _ _ _ _⟩
  | true =>
    unfold idsA
    rw [hok]
    have z2 := hS.c2
    go_enter Try.func40, Try.ntmps40
    go_upto_region 4 with (go_at_call 10; refine (worldOk_q T P a n c U a' m c' Q _ (h.below hS.bel) (h'.below hS.bel) hn hm true hok).mono ?_; rintro e w1 ⟨rfl, hb1⟩)
    have hB1 := hS.on hb1
    clear hb1 hS z2
    have z2 := hB1.c2
    go_wp2
    clear z2
    go_loopw [5, 7, 14] (fun s5 _ s wr => ∃ (k : Nat) (aL : Option Addr) (mL cL : Nat), k ≤ n ∧ s = .int .i64 (k : Int) ∧ s5 = .slice aL mL cL ∧ LsV w1 wr 3 1 aL mL cL (idL (meetAt x y u v U) U k)) (fun _ _ s _ => n - (intOf s).toNat)
    case atStart => exact ⟨0, _, _, _, Nat.zero_le _, rfl, rfl, LsV.nil _ _ _⟩
    case round =>
      obtain ⟨k, aL, mL, cL, hk, rfl, rfl, hL⟩ := hrel
      by_cases hlt : k < n
      · have hB := hB1.on hL.bel
        obtain ⟨b, o, rfl, hbl, hc⟩ := (h.below hB.bel) (by omega)
        have c0 := hc (k * 12) (by omega)
        have c1 := hc (k * 12 + 1) (by omega)
        have c2 := hc (k * 12 + 2) (by omega)
        have c3 := hc (k * 12 + 3) (by omega)
        have c4 := hc (k * 12 + 4) (by omega)
        have c5 := hc (k * 12 + 5) (by omega)
        have c6 := hc (k * 12 + 6) (by omega)
        have c7 := hc (k * 12 + 7) (by omega)
        have c8 := hc (k * 12 + 8) (by omega)
        have c9 := hc (k * 12 + 9) (by omega)
        have c10 := hc (k * 12 + 10) (by omega)
        have c11 := hc (k * 12 + 11) (by omega)
        simp only [← Nat.add_assoc] at c0 c1 c2 c3 c4 c5 c6 c7 c8 c9 c10 c11
        clear hc
        have hwl := hB.bel.size
        have d0 : wr.cell? ⟨fb, 0, none⟩ = some (.int .i64 x) := (hB.bel.cell (p := ⟨fb, 0, none⟩) gl).trans g0
        have d1 : wr.cell? ⟨fb, 1, none⟩ = some (.int .i64 y) := (hB.bel.cell (p := ⟨fb, 1, none⟩) gl).trans g1
        have d2 : wr.cell? ⟨fb, 2, none⟩ = some (.int .i64 u) := (hB.bel.cell (p := ⟨fb, 2, none⟩) gl).trans g2
        have d3 : wr.cell? ⟨fb, 3, none⟩ = some (.int .i64 v) := (hB.bel.cell (p := ⟨fb, 3, none⟩) gl).trans g3
        have hgl : fb < wr.heap.size := by omega
        have hmk := hL.len
        have hmj := idL_len (meetAt x y u v U) U k
        obtain ⟨vb, hv⟩ : ∃ vb, meetAt x y u v U k = vb := ⟨_, rfl⟩
        have hE : Below wr.heap.size wr (wr.alloc (Obj.cells #[.int .i64 (U (k * 12)), .int .i64 (U (k * 12 + 1)), .int .i64 (U (k * 12 + 2)), .int .i64 (U (k * 12 + 3)), .int .i64 (U (k * 12 + 4)), .int .i64 (U (k * 12 + 5)), .int .i64 (U (k * 12 + 6)), .int .i64 (U (k * 12 + 7)), .int .i64 (U (k * 12 + 8)), .int .i64 (U (k * 12 + 9)), .int .i64 (U (k * 12 + 10)), .int .i64 (U (k * 12 + 11))] 81)) := (Below.refl _ _).alloc (Nat.le_refl _) _
        cases vb with
        | false =>
          go_wp2_with (go_at_call 48; refine (clIn_q k fb U x y u v false _ (by go_simp) (by go_simp) (by go_simp) (by go_simp) (by simp; omega) hv).mono ?_; rintro e w2 ⟨rfl, hb2⟩)
          go_roundw
          case rel => exact ⟨k + 1, _, _, _, by omega, by go_num, rfl, by rw [idL_no hv]; exact (hL.below hE).below hb2⟩
          case measure => simp [intOf]; omega
        | true =>
          go_upto_region 8 with (go_at_call 48; refine (clIn_q k fb U x y u v true _ (by go_simp) (by go_simp) (by go_simp) (by go_simp) (by simp; omega) hv).mono ?_; rintro e w2 ⟨rfl, hb2⟩)
          have x0 : w2.cell? ⟨wr.heap.size, 0, none⟩ = some (.int .i64 (U (k * 12))) := (hb2.cell (p := ⟨wr.heap.size, 0, none⟩) (by simp)).trans (by go_simp)
          have hL2 := (hL.below hE).below hb2
          have hbz := hL2.bel.size
          go_wp2_with (refine wpList_app rfl _ _ _ rfl w1.heap.size 3 1 8 (.int .i64 0) Try.underlying37 (by kernel_rfl) (by rfl) (by omega) (.slice aL mL cL) mL (ofL (idL (meetAt x y u v U) U k)) rfl (hL2.below ((Below.refl _ _).alloc (Nat.le_refl _) _)).own _ 1 _ (ofL [U (k * 12)]) rfl (flat1 _ _ _) (by unfold maxLen; omega) (by omega) (by simp only [World.size_alloc]; omega) ?_; intro a3 c3 w3 ho3 hg3)
          have hP := (hL2.below ((Below.refl _ _).alloc (Nat.le_refl _) _)).push (x := [U (k * 12)]) rfl hg3 ho3
          go_roundw
          case rel => exact ⟨k + 1, _, _, _, by omega, by go_num, rfl, by rw [idL_yes hv]; exact hP⟩
          case measure => simp [intOf]; omega
      · obtain rfl : k = n := by omega
        go_wp2
        go_ret
        exact ⟨_, _, _, rfl, hL.len, hL.out hB1.bel⟩
end Go.Proofs.Ytgcobcmpkbcfoaa
namespace Go.Proofs.Ytgcobcmpkbcfoaa
open Go.RowKit
set_option linter.unusedVariables false
set_option linter.unusedSimpArgs false

set_option maxRecDepth 20000 in
set_option maxHeartbeats 8000000 in
theorem clAt_q (k fb : Nat) (U : Nat → Int) (x y : Int) (b : Bool) (w : World) (g0 : w.cell? ⟨fb, 0, none⟩ = some (.int .i64 x)) (g1 : w.cell? ⟨fb, 1, none⟩ = some (.int .i64 y)) (gl : fb < w.heap.size) (e : hasAt x y U k = b) :
    Calls Try.prog 41 #[.agg #[.int .i64 (U (k * 12)), .int .i64 (U (k * 12 + 1)), .int .i64 (U (k * 12 + 2)), .int .i64 (U (k * 12 + 3)), .int .i64 (U (k * 12 + 4)), .int .i64 (U (k * 12 + 5)), .int .i64 (U (k * 12 + 6)), .int .i64 (U (k * 12 + 7)), .int .i64 (U (k * 12 + 8)), .int .i64 (U (k * 12 + 9)), .int .i64 (U (k * 12 + 10)), .int .i64 (U (k * 12 + 11))], .pointer (some ⟨fb, 0, none⟩)] w fun e w' => e = .returned (.bool b) ∧ Below w.heap.size w w' := by
  have hset := cset_map
  go_enter Try.func41, Try.ntmps41
  go_wp2_with (go_at_call 42; refine (shapeHas_q _ _ _ _ _ _ _ b _ e).mono ?_; rintro e w4 ⟨rfl, hb4⟩; obtain ⟨hc4, hf4⟩ := bcell hb4; have hz4 := hb4.size; (try simp only [World.size_drew, World.size_alloc, World.size_setCell] at hc4 hf4 hz4); have hk4x0 := fun o => hc4 (w.heap.size) o (by omega); have hj4x0 := fun o => hf4 (w.heap.size) o (by omega); have hq4x0 : w.heap.size < w4.heap.size := (by omega); have hk4x1 := fun o => hc4 (fb) o (by omega); have hj4x1 := fun o => hf4 (fb) o (by omega); have hq4x1 : fb < w4.heap.size := (by omega); clear hc4 hf4)
  go_ret
  exact ⟨rfl, by repeat (first | with_reducible apply Below.refl | (with_reducible apply Below.setCell; rotate_left; focus (first | omega | (simp; done) | (simp; omega))) | (with_reducible apply Below.alloc; rotate_left; focus (first | omega | (simp; done) | (simp; omega))) | with_reducible apply Below.drew | with_reducible apply belowDrewN | (with_reducible apply Below.trans; rotate_left; with_reducible apply Below.mono; with_reducible assumption; focus (first | omega | (simp; done) | (simp; omega))))⟩

set_option maxRecDepth 20000 in
set_option maxHeartbeats 8000000 in
theorem idsAt_q (T P : Int) (a : Option Addr) (n c : Nat) (U : Nat → Int) (a' : Option Addr) (m c' : Nat) (Q : Nat → Int) (fb : Nat) (x y : Int) (w : World) (h : Flat w a (n * 12) U) (h' : Flat w a' (m * 2) Q) (hn : n ≤ 1048576) (hm : m ≤ 1048576) (g0 : w.cell? ⟨fb, 0, none⟩ = some (.int .i64 x)) (g1 : w.cell? ⟨fb, 1, none⟩ = some (.int .i64 y)) (gl : fb < w.heap.size) :
    Calls Try.prog 40 #[worldW T P a n c a' m c', .func (.func 41) #[] #[.pointer (some ⟨fb, 0, none⟩)]] w fun e w' => ∃ a0 N c0, e = .returned (.slice a0 N c0) ∧ (idsA T P n U m Q (hasAt x y U)).length = N * 1 ∧ OutL w w' 3 1 a0 N c0 (ofL (idsA T P n U m Q (hasAt x y U))) := by
  have hset := cset_map
  have hS := WdR.start w T P a a' n c m c'
  cases hok : worldB T P n U m Q with
  | false =>
    unfold idsA
    rw [hok]
    go_enter Try.func40, Try.ntmps40
    go_wp2_with (go_at_call 10; refine (worldOk_q T P a n c U a' m c' Q _ (h.below hS.bel) (h'.below hS.bel) hn hm false hok).mono ?_; rintro e w1 ⟨rfl, hb1⟩)
    go_ret
    exact ⟨_, _, _, rfl, by simp, (hS.on hb1).bel, OwnL.nil _ _ _ _ _⟩
  | true =>
    unfold idsA
    rw [hok]
    have z2 := hS.c2
    go_enter Try.func40, Try.ntmps40
    go_upto_region 4 with (go_at_call 10; refine (worldOk_q T P a n c U a' m c' Q _ (h.below hS.bel) (h'.below hS.bel) hn hm true hok).mono ?_; rintro e w1 ⟨rfl, hb1⟩)
    have hB1 := hS.on hb1
    clear hb1 hS z2
    have z2 := hB1.c2
    go_wp2
    clear z2
    go_loopw [5, 7, 14] (fun s5 _ s wr => ∃ (k : Nat) (aL : Option Addr) (mL cL : Nat), k ≤ n ∧ s = .int .i64 (k : Int) ∧ s5 = .slice aL mL cL ∧ LsV w1 wr 3 1 aL mL cL (idL (hasAt x y U) U k)) (fun _ _ s _ => n - (intOf s).toNat)
    case atStart => exact ⟨0, _, _, _, Nat.zero_le _, rfl, rfl, LsV.nil _ _ _⟩
    case round =>
      obtain ⟨k, aL, mL, cL, hk, rfl, rfl, hL⟩ := hrel
      by_cases hlt : k < n
      · have hB := hB1.on hL.bel
        obtain ⟨b, o, rfl, hbl, hc⟩ := (h.below hB.bel) (by omega)
        have c0 := hc (k * 12) (by omega)
        have c1 := hc (k * 12 + 1) (by omega)
        have c2 := hc (k * 12 + 2) (by omega)
        have c3 := hc (k * 12 + 3) (by omega)
        have c4 := hc (k * 12 + 4) (by omega)
        have c5 := hc (k * 12 + 5) (by omega)
        have c6 := hc (k * 12 + 6) (by omega)
        have c7 := hc (k * 12 + 7) (by omega)
        have c8 := hc (k * 12 + 8) (by omega)
        have c9 := hc (k * 12 + 9) (by omega)
        have c10 := hc (k * 12 + 10) (by omega)
        have c11 := hc (k * 12 + 11) (by omega)
        simp only [← Nat.add_assoc] at c0 c1 c2 c3 c4 c5 c6 c7 c8 c9 c10 c11
        clear hc
        have hwl := hB.bel.size
        have d0 : wr.cell? ⟨fb, 0, none⟩ = some (.int .i64 x) := (hB.bel.cell (p := ⟨fb, 0, none⟩) gl).trans g0
        have d1 : wr.cell? ⟨fb, 1, none⟩ = some (.int .i64 y) := (hB.bel.cell (p := ⟨fb, 1, none⟩) gl).trans g1
        have hgl : fb < wr.heap.size := by omega
        have hmk := hL.len
        have hmj := idL_len (hasAt x y U) U k
        obtain ⟨vb, hv⟩ : ∃ vb, hasAt x y U k = vb := ⟨_, rfl⟩
        have hE : Below wr.heap.size wr (wr.alloc (Obj.cells #[.int .i64 (U (k * 12)), .int .i64 (U (k * 12 + 1)), .int .i64 (U (k * 12 + 2)), .int .i64 (U (k * 12 + 3)), .int .i64 (U (k * 12 + 4)), .int .i64 (U (k * 12 + 5)), .int .i64 (U (k * 12 + 6)), .int .i64 (U (k * 12 + 7)), .int .i64 (U (k * 12 + 8)), .int .i64 (U (k * 12 + 9)), .int .i64 (U (k * 12 + 10)), .int .i64 (U (k * 12 + 11))] 81)) := (Below.refl _ _).alloc (Nat.le_refl _) _
        cases vb with
        | false =>
          go_wp2_with (go_at_call 41; refine (clAt_q k fb U x y false _ (by go_simp) (by go_simp) (by simp; omega) hv).mono ?_; rintro e w2 ⟨rfl, hb2⟩)
          go_roundw
          case rel => exact ⟨k + 1, _, _, _, by omega, by go_num, rfl, by rw [idL_no hv]; exact (hL.below hE).below hb2⟩
          case measure => simp [intOf]; omega
        | true =>
          go_upto_region 8 with (go_at_call 41; refine (clAt_q k fb U x y true _ (by go_simp) (by go_simp) (by simp; omega) hv).mono ?_; rintro e w2 ⟨rfl, hb2⟩)
          have x0 : w2.cell? ⟨wr.heap.size, 0, none⟩ = some (.int .i64 (U (k * 12))) := (hb2.cell (p := ⟨wr.heap.size, 0, none⟩) (by simp)).trans (by go_simp)
          have hL2 := (hL.below hE).below hb2
          have hbz := hL2.bel.size
          go_wp2_with (refine wpList_app rfl _ _ _ rfl w1.heap.size 3 1 8 (.int .i64 0) Try.underlying37 (by kernel_rfl) (by rfl) (by omega) (.slice aL mL cL) mL (ofL (idL (hasAt x y U) U k)) rfl (hL2.below ((Below.refl _ _).alloc (Nat.le_refl _) _)).own _ 1 _ (ofL [U (k * 12)]) rfl (flat1 _ _ _) (by unfold maxLen; omega) (by omega) (by simp only [World.size_alloc]; omega) ?_; intro a3 c3 w3 ho3 hg3)
          have hP := (hL2.below ((Below.refl _ _).alloc (Nat.le_refl _) _)).push (x := [U (k * 12)]) rfl hg3 ho3
          go_roundw
          case rel => exact ⟨k + 1, _, _, _, by omega, by go_num, rfl, by rw [idL_yes hv]; exact hP⟩
          case measure => simp [intOf]; omega
      · obtain rfl : k = n := by omega
        go_wp2
        go_ret
        exact ⟨_, _, _, rfl, hL.len, hL.out hB1.bel⟩
end Go.Proofs.Ytgcobcmpkbcfoaa
namespace Go.Proofs.Ytgcobcmpkbcfoaa
open Go.RowKit
set_option linter.unusedVariables false
set_option linter.unusedSimpArgs false

/-- a quotient, cut downwards -/
def downZ (n m : Int) : Int := if n.tdiv m * m ≠ n ∧ decide (n < 0) ≠ decide (m < 0) then n.tdiv m - 1 else n.tdiv m

theorem downZ_bd {n m B : Int} (h : -B ≤ n ∧ n ≤ B) : -B - 1 ≤ downZ n m ∧ downZ n m ≤ B := by
  have := tdiv_bd m h
  unfold downZ
  split <;> omega

set_option maxHeartbeats 1000000 in
theorem downOver_any (n m : Int) (w : World) (hn : -4000000000000 ≤ n ∧ n ≤ 4000000000000) (hm : -1000000000 ≤ m ∧ m ≤ 1000000000) (h0 : m ≠ 0) :
    Calls Try.prog 123 #[.int .i64 n, .int .i64 m] w fun e w' => e = .returned (.int .i64 (downZ n m)) ∧ w' = w := by
  have hq := tdiv_bd (x := n) (B := 4000000000000) m hn
  have hz : (m == 0) = false := by simp; exact h0
  have hk : n.tdiv m * m = n - n.tmod m := by have := Int.tdiv_mul_add_tmod n m; omega
  have hr : -4000000000000 ≤ n.tmod m ∧ n.tmod m ≤ 4000000000000 := by
    have q := tmod_abs n h0
    unfold absZ at q
    split at q <;> split at q <;> omega
  have hw1 := w64 (n := n.tdiv m) (by omega)
  have hw2 := w64 (n := n.tdiv m * m) (by omega)
  have hw3 := w64 (n := n.tdiv m - 1) (by omega)
  have hv1 := i64w (n := n.tdiv m) (by omega)
  have hv2 := i64w (n := n.tdiv m * m) (by omega)
  have hv3 := i64w (n := n.tdiv m - 1) (by omega)
  clear hk hr
  by_cases c1 : n.tdiv m * m = n
  · have e : downZ n m = n.tdiv m := by unfold downZ; rw [if_neg (fun q => q.1 c1)]
    rw [e]
    go_enter Try.func123, Try.ntmps123
    go_wp2
    all_goals
      go_ret
      exact ⟨rfl, rfl⟩
  · have d1 : (n.tdiv m * m == n) = false := by simp; exact c1
    by_cases c2 : n < 0
    · have d2 : decide (n < 0) = true := decide_eq_true c2
      by_cases c3 : m < 0
      · have d3 : decide (m < 0) = true := decide_eq_true c3
        have e : downZ n m = n.tdiv m := by unfold downZ; rw [if_neg (fun q => q.2 (by rw [d2, d3]))]
        rw [e]
        go_enter Try.func123, Try.ntmps123
        go_wp2
        all_goals
          go_ret
          exact ⟨rfl, rfl⟩
      · have d3 : decide (m < 0) = false := decide_eq_false c3
        have e : downZ n m = n.tdiv m - 1 := by unfold downZ; rw [if_pos ⟨c1, by rw [d2, d3]; decide⟩]
        rw [e]
        go_enter Try.func123, Try.ntmps123
        go_wp2
        all_goals
          go_ret
          exact ⟨rfl, rfl⟩
    · have d2 : decide (n < 0) = false := decide_eq_false c2
      by_cases c3 : m < 0
      · have d3 : decide (m < 0) = true := decide_eq_true c3
        have e : downZ n m = n.tdiv m - 1 := by unfold downZ; rw [if_pos ⟨c1, by rw [d2, d3]; decide⟩]
        rw [e]
        go_enter Try.func123, Try.ntmps123
        go_wp2
        all_goals
          go_ret
          exact ⟨rfl, rfl⟩
      · have d3 : decide (m < 0) = false := decide_eq_false c3
        have e : downZ n m = n.tdiv m := by unfold downZ; rw [if_neg (fun q => q.2 (by rw [d2, d3]))]
        rw [e]
        go_enter Try.func123, Try.ntmps123
        go_wp2
        all_goals
          go_ret
          exact ⟨rfl, rfl⟩

set_option maxHeartbeats 1000000 in
theorem upOver_any (n m : Int) (w : World) (hn : -3000000000000 ≤ n ∧ n ≤ 3000000000000) (hm : -1000000000 ≤ m ∧ m ≤ 1000000000) (h0 : m ≠ 0) :
    Calls Try.prog 124 #[.int .i64 n, .int .i64 m] w fun e w' => e = .returned (.int .i64 (-downZ (-n) m)) ∧ w' = w := by
  have hb := downZ_bd (n := -n) (m := m) (B := 3000000000000) (by omega)
  go_enter Try.func124, Try.ntmps124
  go_wp2_with (go_at_call 123; refine (downOver_any _ _ _ (by omega) (by omega) h0).mono ?_; rintro e w' ⟨rfl, rfl⟩)
  go_ret
  exact ⟨rfl, rfl⟩
end Go.Proofs.Ytgcobcmpkbcfoaa
