/- The contract of ShapeHas. -/
import Derived.Test.YtnkebpbpempmhaaShB
import Derived.Deep.QuietTactic
import Derived.BigQuiet
import Derived.Deep.RegionWith
import Derived.Deep.RegionHeld3
namespace Go.Proofs.Ytnkebpbpempmhaa
open Go.RowKit
set_option linter.unusedVariables false
set_option linter.unusedSimpArgs false

/-- whether a shape at a place has a point -/
def hasV (k g h x y u v : Int) : Bool := if k = 2 then ptB (x - g) (y - h) (x + g) (y + h) u v else decide ((u - x) * (u - x) + (v - y) * (v - y) ≤ g * g)
def shV (k g h x y u v : Int) : Bool := shB k g h && (inB 2560000 x y && (inB 2560000 u v && hasV k g h x y u v))
theorem hasV_b (g h x y u v : Int) : decide ((-g ≤ u - x ∧ u - x ≤ g) ∧ (-h ≤ v - y ∧ v - y ≤ h)) = hasV 2 g h x y u v := by
  unfold hasV ptB; rw [if_pos rfl]; rw [Bool.eq_iff_iff]; simp only [decide_eq_true_eq]; omega
theorem hasV_r (g x y u v : Int) : decide ((u - x) * (u - x) + (v - y) * (v - y) ≤ g * g) = hasV 1 g 0 x y u v := rfl

set_option maxHeartbeats 2000000 in
theorem shHas_n (k g h x y u v : Int) (w : World) (hs : shB k g h = false) :
    Calls Try.prog 24 #[s3 k g h, vv x y, vv u v] w fun e w' => e = .returned (.bool false) ∧ Below w.heap.size w w' := by
  have hset := cset_map
  go_enter Try.func24, Try.ntmps24
  go_wp2_with (first
    | (go_at_call 62; refine (figureOf_none _ _ _ _ (by assumption)).mono ?_; rintro e w1 ⟨rfl, hb1⟩; obtain ⟨hc1, hf1⟩ := bcell hb1; have hl1 := blt hb1; have hz1 := hb1.size; (try simp only [World.size_drew, World.size_alloc, World.size_setCell] at hc1 hf1 hl1 hz1); (try have hq1x0 : w.heap.size < w1.heap.size := (by omega)); (try have hq1x1 : w.heap.size + 1 < w1.heap.size := (by omega)); (try have hq1x2 : w.heap.size + 1 + 1 < w1.heap.size := (by omega))))
  all_goals
    go_ret
    exact ⟨ret_bool (by simp [*]), by repeat (first | with_reducible apply Below.refl | (with_reducible apply Below.setCell; rotate_left; focus (first | omega | (simp; done) | (simp; omega))) | (with_reducible apply Below.alloc; rotate_left; focus (first | omega | (simp; done) | (simp; omega))) | with_reducible apply Below.drew | with_reducible apply belowDrewN | (with_reducible apply Below.trans; rotate_left; with_reducible apply Below.mono; with_reducible assumption; focus (first | omega | (simp; done) | (simp; omega))))⟩

set_option maxHeartbeats 2000000 in
theorem shHas_r1 (g x y u v : Int) (w : World) (h1 : 1 ≤ g) (h2 : g ≤ 25600) (h0 : inB 2560000 x y = false) :
    Calls Try.prog 24 #[s3 1 g 0, vv x y, vv u v] w fun e w' => e = .returned (.bool false) ∧ Below w.heap.size w w' := by
  have hset := cset_map
  go_enter Try.func24, Try.ntmps24
  go_wp2_with (first
    | (go_at_call 62; refine (figureOf_round _ _ (by assumption) (by assumption)).mono ?_; rintro e w1 ⟨rfl, hb1⟩; obtain ⟨hc1, hf1⟩ := bcell hb1; have hl1 := blt hb1; have hz1 := hb1.size; (try simp only [World.size_drew, World.size_alloc, World.size_setCell] at hc1 hf1 hl1 hz1); (try have hq1x0 : w.heap.size < w1.heap.size := (by omega)); (try have hq1x1 : w.heap.size + 1 < w1.heap.size := (by omega)); (try have hq1x2 : w.heap.size + 1 + 1 < w1.heap.size := (by omega)))
    | (go_at_call 63; refine (isPlace_n _ _ _ (by assumption)).mono ?_; rintro e w2 ⟨rfl, hb2⟩; obtain ⟨hc2, hf2⟩ := bcell hb2; have hl2 := blt hb2; have hz2 := hb2.size; (try simp only [World.size_drew, World.size_alloc, World.size_setCell] at hc2 hf2 hl2 hz2); (try have hq2x0 : w.heap.size < w2.heap.size := (by omega)); (try have hq2x1 : w.heap.size + 1 < w2.heap.size := (by omega)); (try have hq2x2 : w.heap.size + 1 + 1 < w2.heap.size := (by omega)); (try have hq2x3 : w.heap.size + 1 + 1 + 1 < w2.heap.size := (by omega))))
  all_goals
    go_ret
    exact ⟨ret_bool (by simp [*]), by repeat (first | with_reducible apply Below.refl | (with_reducible apply Below.setCell; rotate_left; focus (first | omega | (simp; done) | (simp; omega))) | (with_reducible apply Below.alloc; rotate_left; focus (first | omega | (simp; done) | (simp; omega))) | with_reducible apply Below.drew | with_reducible apply belowDrewN | (with_reducible apply Below.trans; rotate_left; with_reducible apply Below.mono; with_reducible assumption; focus (first | omega | (simp; done) | (simp; omega))))⟩

set_option maxHeartbeats 2000000 in
theorem shHas_r2 (g x y u v : Int) (w : World) (h1 : 1 ≤ g) (h2 : g ≤ 25600) (h0 : inB 2560000 x y = true) (h9 : inB 2560000 u v = false) :
    Calls Try.prog 24 #[s3 1 g 0, vv x y, vv u v] w fun e w' => e = .returned (.bool false) ∧ Below w.heap.size w w' := by
  have hset := cset_map
  go_enter Try.func24, Try.ntmps24
  go_wp2_with (first
    | (go_at_call 62; refine (figureOf_round _ _ (by assumption) (by assumption)).mono ?_; rintro e w1 ⟨rfl, hb1⟩; obtain ⟨hc1, hf1⟩ := bcell hb1; have hl1 := blt hb1; have hz1 := hb1.size; (try simp only [World.size_drew, World.size_alloc, World.size_setCell] at hc1 hf1 hl1 hz1); (try have hq1x0 : w.heap.size < w1.heap.size := (by omega)); (try have hq1x1 : w.heap.size + 1 < w1.heap.size := (by omega)); (try have hq1x2 : w.heap.size + 1 + 1 < w1.heap.size := (by omega)))
    | (go_at_call 63; refine (isPlace_t _ _ _ (by assumption)).mono ?_; rintro e w2 ⟨rfl, hb2⟩; obtain ⟨hc2, hf2⟩ := bcell hb2; have hl2 := blt hb2; have hz2 := hb2.size; (try simp only [World.size_drew, World.size_alloc, World.size_setCell] at hc2 hf2 hl2 hz2); (try have hq2x0 : w.heap.size < w2.heap.size := (by omega)); (try have hq2x1 : w.heap.size + 1 < w2.heap.size := (by omega)); (try have hq2x2 : w.heap.size + 1 + 1 < w2.heap.size := (by omega)); (try have hq2x3 : w.heap.size + 1 + 1 + 1 < w2.heap.size := (by omega)))
    | (go_at_call 63; refine (isPlace_n _ _ _ (by assumption)).mono ?_; rintro e w2 ⟨rfl, hb2⟩; obtain ⟨hc2, hf2⟩ := bcell hb2; have hl2 := blt hb2; have hz2 := hb2.size; (try simp only [World.size_drew, World.size_alloc, World.size_setCell] at hc2 hf2 hl2 hz2); (try have hq2x0 : w.heap.size < w2.heap.size := (by omega)); (try have hq2x1 : w.heap.size + 1 < w2.heap.size := (by omega)); (try have hq2x2 : w.heap.size + 1 + 1 < w2.heap.size := (by omega)); (try have hq2x3 : w.heap.size + 1 + 1 + 1 < w2.heap.size := (by omega))))
  all_goals
    go_ret
    exact ⟨ret_bool (by simp [*]), by repeat (first | with_reducible apply Below.refl | (with_reducible apply Below.setCell; rotate_left; focus (first | omega | (simp; done) | (simp; omega))) | (with_reducible apply Below.alloc; rotate_left; focus (first | omega | (simp; done) | (simp; omega))) | with_reducible apply Below.drew | with_reducible apply belowDrewN | (with_reducible apply Below.trans; rotate_left; with_reducible apply Below.mono; with_reducible assumption; focus (first | omega | (simp; done) | (simp; omega))))⟩

set_option maxRecDepth 20000 in
set_option maxHeartbeats 4000000 in
theorem shHas_rt (g x y u v : Int) (w : World) (h1 : 1 ≤ g) (h2 : g ≤ 25600) (h0 : inB 2560000 x y = true) (h9 : inB 2560000 u v = true) :
    Calls Try.prog 24 #[s3 1 g 0, vv x y, vv u v] w fun e w' => e = .returned (.bool (hasV 1 g 0 x y u v)) ∧ Below w.heap.size w w' := by
  rw [← hasV_r]
  have hp := inB_of h0
  have hp9 := inB_of h9
  have hset := cset_map
  go_enter Try.func24, Try.ntmps24
  go_wp2_with (first
    | (go_at_call 62; refine (figureOf_round _ _ (by assumption) (by assumption)).mono ?_; rintro e w1 ⟨rfl, hb1⟩; obtain ⟨hc1, hf1⟩ := bcell hb1; have hl1 := blt hb1; have hz1 := hb1.size; (try simp only [World.size_drew, World.size_alloc, World.size_setCell] at hc1 hf1 hl1 hz1); (try have hq1x0 : w.heap.size < w1.heap.size := (by omega)); (try have hq1x1 : w.heap.size + 1 < w1.heap.size := (by omega)); (try have hq1x2 : w.heap.size + 1 + 1 < w1.heap.size := (by omega)))
    | (go_at_call 63; refine (isPlace_t _ _ _ (by assumption)).mono ?_; rintro e w2 ⟨rfl, hb2⟩; obtain ⟨hc2, hf2⟩ := bcell hb2; have hl2 := blt hb2; have hz2 := hb2.size; (try simp only [World.size_drew, World.size_alloc, World.size_setCell] at hc2 hf2 hl2 hz2); (try have hq2x0 : w.heap.size < w2.heap.size := (by omega)); (try have hq2x1 : w.heap.size + 1 < w2.heap.size := (by omega)); (try have hq2x2 : w.heap.size + 1 + 1 < w2.heap.size := (by omega)); (try have hq2x3 : w.heap.size + 1 + 1 + 1 < w2.heap.size := (by omega))))
  go_region_held3 (fun w' => w'.cell? ⟨w.heap.size + 1, 0, none⟩ = some (.int .i64 x) ∧ w'.cell? ⟨w.heap.size + 1, 1, none⟩ = some (.int .i64 y) ∧ w'.cell? ⟨w.heap.size + 1 + 1, 0, none⟩ = some (.int .i64 u) ∧ w'.cell? ⟨w.heap.size + 1 + 1, 1, none⟩ = some (.int .i64 v)) (first | (go_simp; done) | (go_keep; done)) (first
    | (go_at_call 48; refine (wayOf_any _ _ _).mono ?_; rintro e w3 ⟨rfl, hb3⟩; obtain ⟨hc3, hf3⟩ := bcell hb3; have hl3 := blt hb3; have hz3 := hb3.size; (try simp only [World.size_drew, World.size_alloc, World.size_setCell] at hc3 hf3 hl3 hz3); (try have hq3x0 : w.heap.size < w3.heap.size := (by omega)); (try have hq3x1 : w.heap.size + 1 < w3.heap.size := (by omega)); (try have hq3x2 : w.heap.size + 1 + 1 < w3.heap.size := (by omega)); (try have hq3x3 : w.heap.size + 1 + 1 + 1 < w3.heap.size := (by omega)))
    | (go_at_call 69; refine (less_any _ _ _ _ _ (by omega) (by omega) (by omega) (by omega)).mono ?_; rintro e w5 ⟨rfl, hb5⟩; obtain ⟨hc5, hf5⟩ := bcell hb5; have hl5 := blt hb5; have hz5 := hb5.size; (try simp only [World.size_drew, World.size_alloc, World.size_setCell] at hc5 hf5 hl5 hz5); (try have hq5x0 : w.heap.size < w5.heap.size := (by omega)); (try have hq5x1 : w.heap.size + 1 < w5.heap.size := (by omega)); (try have hq5x2 : w.heap.size + 1 + 1 < w5.heap.size := (by omega)); (try have hq5x3 : w.heap.size + 1 + 1 + 1 < w5.heap.size := (by omega)))
    | (go_at_call 68; refine (figureHas_r _ _ _ _ (by omega) (by omega) (by omega) (by omega)).mono ?_; rintro e w6 ⟨rfl, hb6⟩; obtain ⟨hc6, hf6⟩ := bcell hb6; have hl6 := blt hb6; have hz6 := hb6.size; (try simp only [World.size_drew, World.size_alloc, World.size_setCell] at hc6 hf6 hl6 hz6); (try have hq6x0 : w.heap.size < w6.heap.size := (by omega)); (try have hq6x1 : w.heap.size + 1 < w6.heap.size := (by omega)); (try have hq6x2 : w.heap.size + 1 + 1 < w6.heap.size := (by omega)); (try have hq6x3 : w.heap.size + 1 + 1 + 1 < w6.heap.size := (by omega))))
  all_goals
    go_wp2
  all_goals
    go_ret
    refine ⟨ret_bool ?_, by repeat (first | with_reducible apply Below.refl | (with_reducible apply Below.setCell; rotate_left; focus (first | omega | (simp; done) | (simp; omega))) | (with_reducible apply Below.alloc; rotate_left; focus (first | omega | (simp; done) | (simp; omega))) | with_reducible apply Below.drew | with_reducible apply belowDrewN | (with_reducible apply Below.trans; rotate_left; with_reducible apply Below.mono; with_reducible assumption; focus (first | omega | (simp; done) | (simp; omega))))⟩
    first | rfl | (simp [*]; done)

set_option maxHeartbeats 2000000 in
theorem shHas_b1 (g h x y u v : Int) (w : World) (h1 : 1 ≤ g) (h2 : g ≤ 25600) (h3 : 1 ≤ h) (h4 : h ≤ 25600) (h0 : inB 2560000 x y = false) :
    Calls Try.prog 24 #[s3 2 g h, vv x y, vv u v] w fun e w' => e = .returned (.bool false) ∧ Below w.heap.size w w' := by
  have hset := cset_map
  go_enter Try.func24, Try.ntmps24
  go_wp2_with (first
    | (go_at_call 62; refine (figureOf_box _ _ _ (by assumption) (by assumption) (by assumption) (by assumption)).mono ?_; rintro e w1 ⟨rfl, hb1⟩; obtain ⟨hc1, hf1⟩ := bcell hb1; have hl1 := blt hb1; have hz1 := hb1.size; (try simp only [World.size_drew, World.size_alloc, World.size_setCell] at hc1 hf1 hl1 hz1); (try have hq1x0 : w.heap.size < w1.heap.size := (by omega)); (try have hq1x1 : w.heap.size + 1 < w1.heap.size := (by omega)); (try have hq1x2 : w.heap.size + 1 + 1 < w1.heap.size := (by omega)))
    | (go_at_call 63; refine (isPlace_n _ _ _ (by assumption)).mono ?_; rintro e w2 ⟨rfl, hb2⟩; obtain ⟨hc2, hf2⟩ := bcell hb2; have hl2 := blt hb2; have hz2 := hb2.size; (try simp only [World.size_drew, World.size_alloc, World.size_setCell] at hc2 hf2 hl2 hz2); (try have hq2x0 : w.heap.size < w2.heap.size := (by omega)); (try have hq2x1 : w.heap.size + 1 < w2.heap.size := (by omega)); (try have hq2x2 : w.heap.size + 1 + 1 < w2.heap.size := (by omega)); (try have hq2x3 : w.heap.size + 1 + 1 + 1 < w2.heap.size := (by omega))))
  all_goals
    go_ret
    exact ⟨ret_bool (by simp [*]), by repeat (first | with_reducible apply Below.refl | (with_reducible apply Below.setCell; rotate_left; focus (first | omega | (simp; done) | (simp; omega))) | (with_reducible apply Below.alloc; rotate_left; focus (first | omega | (simp; done) | (simp; omega))) | with_reducible apply Below.drew | with_reducible apply belowDrewN | (with_reducible apply Below.trans; rotate_left; with_reducible apply Below.mono; with_reducible assumption; focus (first | omega | (simp; done) | (simp; omega))))⟩

set_option maxHeartbeats 2000000 in
theorem shHas_b2 (g h x y u v : Int) (w : World) (h1 : 1 ≤ g) (h2 : g ≤ 25600) (h3 : 1 ≤ h) (h4 : h ≤ 25600) (h0 : inB 2560000 x y = true) (h9 : inB 2560000 u v = false) :
    Calls Try.prog 24 #[s3 2 g h, vv x y, vv u v] w fun e w' => e = .returned (.bool false) ∧ Below w.heap.size w w' := by
  have hset := cset_map
  go_enter Try.func24, Try.ntmps24
  go_wp2_with (first
    | (go_at_call 62; refine (figureOf_box _ _ _ (by assumption) (by assumption) (by assumption) (by assumption)).mono ?_; rintro e w1 ⟨rfl, hb1⟩; obtain ⟨hc1, hf1⟩ := bcell hb1; have hl1 := blt hb1; have hz1 := hb1.size; (try simp only [World.size_drew, World.size_alloc, World.size_setCell] at hc1 hf1 hl1 hz1); (try have hq1x0 : w.heap.size < w1.heap.size := (by omega)); (try have hq1x1 : w.heap.size + 1 < w1.heap.size := (by omega)); (try have hq1x2 : w.heap.size + 1 + 1 < w1.heap.size := (by omega)))
    | (go_at_call 63; refine (isPlace_t _ _ _ (by assumption)).mono ?_; rintro e w2 ⟨rfl, hb2⟩; obtain ⟨hc2, hf2⟩ := bcell hb2; have hl2 := blt hb2; have hz2 := hb2.size; (try simp only [World.size_drew, World.size_alloc, World.size_setCell] at hc2 hf2 hl2 hz2); (try have hq2x0 : w.heap.size < w2.heap.size := (by omega)); (try have hq2x1 : w.heap.size + 1 < w2.heap.size := (by omega)); (try have hq2x2 : w.heap.size + 1 + 1 < w2.heap.size := (by omega)); (try have hq2x3 : w.heap.size + 1 + 1 + 1 < w2.heap.size := (by omega)))
    | (go_at_call 63; refine (isPlace_n _ _ _ (by assumption)).mono ?_; rintro e w2 ⟨rfl, hb2⟩; obtain ⟨hc2, hf2⟩ := bcell hb2; have hl2 := blt hb2; have hz2 := hb2.size; (try simp only [World.size_drew, World.size_alloc, World.size_setCell] at hc2 hf2 hl2 hz2); (try have hq2x0 : w.heap.size < w2.heap.size := (by omega)); (try have hq2x1 : w.heap.size + 1 < w2.heap.size := (by omega)); (try have hq2x2 : w.heap.size + 1 + 1 < w2.heap.size := (by omega)); (try have hq2x3 : w.heap.size + 1 + 1 + 1 < w2.heap.size := (by omega))))
  all_goals
    go_ret
    exact ⟨ret_bool (by simp [*]), by repeat (first | with_reducible apply Below.refl | (with_reducible apply Below.setCell; rotate_left; focus (first | omega | (simp; done) | (simp; omega))) | (with_reducible apply Below.alloc; rotate_left; focus (first | omega | (simp; done) | (simp; omega))) | with_reducible apply Below.drew | with_reducible apply belowDrewN | (with_reducible apply Below.trans; rotate_left; with_reducible apply Below.mono; with_reducible assumption; focus (first | omega | (simp; done) | (simp; omega))))⟩

set_option maxRecDepth 20000 in
set_option maxHeartbeats 4000000 in
theorem shHas_bt (g h x y u v : Int) (w : World) (h1 : 1 ≤ g) (h2 : g ≤ 25600) (h3 : 1 ≤ h) (h4 : h ≤ 25600) (h0 : inB 2560000 x y = true) (h9 : inB 2560000 u v = true) :
    Calls Try.prog 24 #[s3 2 g h, vv x y, vv u v] w fun e w' => e = .returned (.bool (hasV 2 g h x y u v)) ∧ Below w.heap.size w w' := by
  rw [← hasV_b]
  have hp := inB_of h0
  have hp9 := inB_of h9
  have hset := cset_map
  go_enter Try.func24, Try.ntmps24
  go_wp2_with (first
    | (go_at_call 62; refine (figureOf_box _ _ _ (by assumption) (by assumption) (by assumption) (by assumption)).mono ?_; rintro e w1 ⟨rfl, hb1⟩; obtain ⟨hc1, hf1⟩ := bcell hb1; have hl1 := blt hb1; have hz1 := hb1.size; (try simp only [World.size_drew, World.size_alloc, World.size_setCell] at hc1 hf1 hl1 hz1); (try have hq1x0 : w.heap.size < w1.heap.size := (by omega)); (try have hq1x1 : w.heap.size + 1 < w1.heap.size := (by omega)); (try have hq1x2 : w.heap.size + 1 + 1 < w1.heap.size := (by omega)))
    | (go_at_call 63; refine (isPlace_t _ _ _ (by assumption)).mono ?_; rintro e w2 ⟨rfl, hb2⟩; obtain ⟨hc2, hf2⟩ := bcell hb2; have hl2 := blt hb2; have hz2 := hb2.size; (try simp only [World.size_drew, World.size_alloc, World.size_setCell] at hc2 hf2 hl2 hz2); (try have hq2x0 : w.heap.size < w2.heap.size := (by omega)); (try have hq2x1 : w.heap.size + 1 < w2.heap.size := (by omega)); (try have hq2x2 : w.heap.size + 1 + 1 < w2.heap.size := (by omega)); (try have hq2x3 : w.heap.size + 1 + 1 + 1 < w2.heap.size := (by omega))))
  go_region_held3 (fun w' => w'.cell? ⟨w.heap.size + 1, 0, none⟩ = some (.int .i64 x) ∧ w'.cell? ⟨w.heap.size + 1, 1, none⟩ = some (.int .i64 y) ∧ w'.cell? ⟨w.heap.size + 1 + 1, 0, none⟩ = some (.int .i64 u) ∧ w'.cell? ⟨w.heap.size + 1 + 1, 1, none⟩ = some (.int .i64 v)) (first | (go_simp; done) | (go_keep; done)) (first
    | (go_at_call 48; refine (wayOf_any _ _ _).mono ?_; rintro e w3 ⟨rfl, hb3⟩; obtain ⟨hc3, hf3⟩ := bcell hb3; have hl3 := blt hb3; have hz3 := hb3.size; (try simp only [World.size_drew, World.size_alloc, World.size_setCell] at hc3 hf3 hl3 hz3); (try have hq3x0 : w.heap.size < w3.heap.size := (by omega)); (try have hq3x1 : w.heap.size + 1 < w3.heap.size := (by omega)); (try have hq3x2 : w.heap.size + 1 + 1 < w3.heap.size := (by omega)); (try have hq3x3 : w.heap.size + 1 + 1 + 1 < w3.heap.size := (by omega)))
    | (go_at_call 69; refine (less_any _ _ _ _ _ (by omega) (by omega) (by omega) (by omega)).mono ?_; rintro e w5 ⟨rfl, hb5⟩; obtain ⟨hc5, hf5⟩ := bcell hb5; have hl5 := blt hb5; have hz5 := hb5.size; (try simp only [World.size_drew, World.size_alloc, World.size_setCell] at hc5 hf5 hl5 hz5); (try have hq5x0 : w.heap.size < w5.heap.size := (by omega)); (try have hq5x1 : w.heap.size + 1 < w5.heap.size := (by omega)); (try have hq5x2 : w.heap.size + 1 + 1 < w5.heap.size := (by omega)); (try have hq5x3 : w.heap.size + 1 + 1 + 1 < w5.heap.size := (by omega)))
    | (go_at_call 68; refine (figureHas_b _ _ _ _ _ (by omega) (by omega) (by omega) (by omega)).mono ?_; rintro e w6 ⟨rfl, hb6⟩; obtain ⟨hc6, hf6⟩ := bcell hb6; have hl6 := blt hb6; have hz6 := hb6.size; (try simp only [World.size_drew, World.size_alloc, World.size_setCell] at hc6 hf6 hl6 hz6); (try have hq6x0 : w.heap.size < w6.heap.size := (by omega)); (try have hq6x1 : w.heap.size + 1 < w6.heap.size := (by omega)); (try have hq6x2 : w.heap.size + 1 + 1 < w6.heap.size := (by omega)); (try have hq6x3 : w.heap.size + 1 + 1 + 1 < w6.heap.size := (by omega))))
  all_goals
    go_wp2
  all_goals
    go_ret
    refine ⟨ret_bool ?_, by repeat (first | with_reducible apply Below.refl | (with_reducible apply Below.setCell; rotate_left; focus (first | omega | (simp; done) | (simp; omega))) | (with_reducible apply Below.alloc; rotate_left; focus (first | omega | (simp; done) | (simp; omega))) | with_reducible apply Below.drew | with_reducible apply belowDrewN | (with_reducible apply Below.trans; rotate_left; with_reducible apply Below.mono; with_reducible assumption; focus (first | omega | (simp; done) | (simp; omega))))⟩
    first | rfl | (simp [*]; done)

theorem shapeHas_any (k g h x y u v : Int) (w : World) :
    Calls Try.prog 24 #[s3 k g h, vv x y, vv u v] w fun e w' => e = .returned (.bool (shV k g h x y u v)) ∧ Below w.heap.size w w' := by
  unfold shV
  cases hs : shB k g h with
  | false => simp only [Bool.false_and]; exact shHas_n k g h x y u v w hs
  | true =>
    have hq := hs
    unfold shB at hq
    simp only [Bool.or_eq_true] at hq
    rcases hq with hq | hq
    · unfold rdB at hq; obtain ⟨rfl, ⟨h1, h2⟩, rfl⟩ := of_decide_eq_true hq
      cases h0 : inB 2560000 x y with
      | false => exact shHas_r1 g x y u v w h1 h2 h0
      | true =>
        cases h9 : inB 2560000 u v with
        | false => exact shHas_r2 g x y u v w h1 h2 h0 h9
        | true => exact shHas_rt g x y u v w h1 h2 h0 h9
    · unfold bxB at hq; obtain ⟨rfl, ⟨h1, h2⟩, h3, h4⟩ := of_decide_eq_true hq
      cases h0 : inB 2560000 x y with
      | false => exact shHas_b1 g h x y u v w h1 h2 h3 h4 h0
      | true =>
        cases h9 : inB 2560000 u v with
        | false => exact shHas_b2 g h x y u v w h1 h2 h3 h4 h0 h9
        | true => exact shHas_bt g h x y u v w h1 h2 h3 h4 h0 h9

end Go.Proofs.Ytnkebpbpempmhaa
