/- Texts of a proof. -/
import Derived.Test.YtdajfjipomkpdaaGreatB3
import Derived.Deep.QuietTactic
import Derived.BigQuiet
import Derived.Deep.RegionWith
import Derived.Deep.RegionHeld3
import Derived.Test.YtdajfjipomkpdaaGreatB2
import Derived.Test.YtdajfjipomkpdaaGreatB14
import Derived.Test.YtdajfjipomkpdaaGreatB1
import Derived.Test.YtdajfjipomkpdaaGreatB18
import Derived.Test.YtdajfjipomkpdaaGreatB8
import Derived.Deep.DeepCutAuto
import Derived.Test.YtdajfjipomkpdaaGreatB17
import Derived.Handy
import Derived.Deep.LoopGhost
import Derived.Below
namespace Go.Proofs.YtdajfjipomkpdaaGreat
open Go.RowKit
set_option linter.unusedVariables false
set_option linter.unusedSimpArgs false
def hasV (k g h x y u v : Int) : Bool := if k = 2 then ptB (x - g) (y - h) (x + g) (y + h) u v else decide ((u - x) * (u - x) + (v - y) * (v - y) ≤ g * g)
def shV (k g h x y u v : Int) : Bool := shB k g h && (inB 2560000 x y && (inB 2560000 u v && hasV k g h x y u v))
theorem hasV_b (g h x y u v : Int) : decide ((-g ≤ u - x ∧ u - x ≤ g) ∧ (-h ≤ v - y ∧ v - y ≤ h)) = hasV 2 g h x y u v := by
  unfold hasV ptB; rw [if_pos rfl]; rw [Bool.eq_iff_iff]; simp only [decide_eq_true_eq]; omega
theorem hasV_r (g x y u v : Int) : decide ((u - x) * (u - x) + (v - y) * (v - y) ≤ g * g) = hasV 1 g 0 x y u v := rfl
set_option maxHeartbeats 2000000 in
theorem shHas_n (k g h x y u v : Int) (w : World) (hs : shB k g h = false) :
    Calls Tryz.prog 16 #[s3 k g h, vv x y, vv u v] w fun e w' => e = .returned (.bool false) ∧ Below w.heap.size w w' := by
  have hset := cset_map
  go_enter Tryz.func16, Tryz.ntmps16
  go_wp2_with (first
    | (go_at_call 33; refine (figureOf_none _ _ _ _ (by assumption)).mono ?_; rintro e w1 ⟨rfl, hb1⟩; obtain ⟨hc1, hf1⟩ := bcell hb1; have hl1 := blt hb1; have hz1 := hb1.size; (try simp only [World.size_drew, World.size_alloc, World.size_setCell] at hc1 hf1 hl1 hz1); (try have hq1x0 : w.heap.size < w1.heap.size := (by omega)); (try have hq1x1 : w.heap.size + 1 < w1.heap.size := (by omega)); (try have hq1x2 : w.heap.size + 1 + 1 < w1.heap.size := (by omega))))
  all_goals
    go_ret
    exact ⟨ret_bool (by simp [*]), bel_a⟩
set_option maxHeartbeats 2000000 in
theorem shHas_r1 (g x y u v : Int) (w : World) (h1 : 1 ≤ g) (h2 : g ≤ 25600) (h0 : inB 2560000 x y = false) :
    Calls Tryz.prog 16 #[s3 1 g 0, vv x y, vv u v] w fun e w' => e = .returned (.bool false) ∧ Below w.heap.size w w' := by
  have hset := cset_map
  go_enter Tryz.func16, Tryz.ntmps16
  go_wp2_with (first
    | (go_at_call 33; refine (figureOf_round _ _ (by assumption) (by assumption)).mono ?_; rintro e w1 ⟨rfl, hb1⟩; obtain ⟨hc1, hf1⟩ := bcell hb1; have hl1 := blt hb1; have hz1 := hb1.size; (try simp only [World.size_drew, World.size_alloc, World.size_setCell] at hc1 hf1 hl1 hz1); (try have hq1x0 : w.heap.size < w1.heap.size := (by omega)); (try have hq1x1 : w.heap.size + 1 < w1.heap.size := (by omega)); (try have hq1x2 : w.heap.size + 1 + 1 < w1.heap.size := (by omega)))
    | (go_at_call 34; refine (isPlace_n _ _ _ (by assumption)).mono ?_; rintro e w2 ⟨rfl, hb2⟩; obtain ⟨hc2, hf2⟩ := bcell hb2; have hl2 := blt hb2; have hz2 := hb2.size; (try simp only [World.size_drew, World.size_alloc, World.size_setCell] at hc2 hf2 hl2 hz2); (try have hq2x0 : w.heap.size < w2.heap.size := (by omega)); (try have hq2x1 : w.heap.size + 1 < w2.heap.size := (by omega)); (try have hq2x2 : w.heap.size + 1 + 1 < w2.heap.size := (by omega)); (try have hq2x3 : w.heap.size + 1 + 1 + 1 < w2.heap.size := (by omega))))
  all_goals
    go_ret
    exact ⟨ret_bool (by simp [*]), bel_a⟩
set_option maxHeartbeats 2000000 in
theorem shHas_r2 (g x y u v : Int) (w : World) (h1 : 1 ≤ g) (h2 : g ≤ 25600) (h0 : inB 2560000 x y = true) (h9 : inB 2560000 u v = false) :
    Calls Tryz.prog 16 #[s3 1 g 0, vv x y, vv u v] w fun e w' => e = .returned (.bool false) ∧ Below w.heap.size w w' := by
  have hset := cset_map
  go_enter Tryz.func16, Tryz.ntmps16
  go_wp2_with (first
    | (go_at_call 33; refine (figureOf_round _ _ (by assumption) (by assumption)).mono ?_; rintro e w1 ⟨rfl, hb1⟩; obtain ⟨hc1, hf1⟩ := bcell hb1; have hl1 := blt hb1; have hz1 := hb1.size; (try simp only [World.size_drew, World.size_alloc, World.size_setCell] at hc1 hf1 hl1 hz1); (try have hq1x0 : w.heap.size < w1.heap.size := (by omega)); (try have hq1x1 : w.heap.size + 1 < w1.heap.size := (by omega)); (try have hq1x2 : w.heap.size + 1 + 1 < w1.heap.size := (by omega)))
    | (go_at_call 34; refine (isPlace_t _ _ _ (by assumption)).mono ?_; rintro e w2 ⟨rfl, hb2⟩; obtain ⟨hc2, hf2⟩ := bcell hb2; have hl2 := blt hb2; have hz2 := hb2.size; (try simp only [World.size_drew, World.size_alloc, World.size_setCell] at hc2 hf2 hl2 hz2); (try have hq2x0 : w.heap.size < w2.heap.size := (by omega)); (try have hq2x1 : w.heap.size + 1 < w2.heap.size := (by omega)); (try have hq2x2 : w.heap.size + 1 + 1 < w2.heap.size := (by omega)); (try have hq2x3 : w.heap.size + 1 + 1 + 1 < w2.heap.size := (by omega)))
    | (go_at_call 34; refine (isPlace_n _ _ _ (by assumption)).mono ?_; rintro e w2 ⟨rfl, hb2⟩; obtain ⟨hc2, hf2⟩ := bcell hb2; have hl2 := blt hb2; have hz2 := hb2.size; (try simp only [World.size_drew, World.size_alloc, World.size_setCell] at hc2 hf2 hl2 hz2); (try have hq2x0 : w.heap.size < w2.heap.size := (by omega)); (try have hq2x1 : w.heap.size + 1 < w2.heap.size := (by omega)); (try have hq2x2 : w.heap.size + 1 + 1 < w2.heap.size := (by omega)); (try have hq2x3 : w.heap.size + 1 + 1 + 1 < w2.heap.size := (by omega))))
  all_goals
    go_ret
    exact ⟨ret_bool (by simp [*]), bel_a⟩
set_option maxRecDepth 20000 in
set_option maxHeartbeats 4000000 in
theorem shHas_rt (g x y u v : Int) (w : World) (h1 : 1 ≤ g) (h2 : g ≤ 25600) (h0 : inB 2560000 x y = true) (h9 : inB 2560000 u v = true) :
    Calls Tryz.prog 16 #[s3 1 g 0, vv x y, vv u v] w fun e w' => e = .returned (.bool (hasV 1 g 0 x y u v)) ∧ Below w.heap.size w w' := by
  rw [← hasV_r]
  have hp := inB_of h0
  have hp9 := inB_of h9
  have hset := cset_map
  go_enter Tryz.func16, Tryz.ntmps16
  go_wp2_with (first
    | (go_at_call 33; refine (figureOf_round _ _ (by assumption) (by assumption)).mono ?_; rintro e w1 ⟨rfl, hb1⟩; obtain ⟨hc1, hf1⟩ := bcell hb1; have hl1 := blt hb1; have hz1 := hb1.size; (try simp only [World.size_drew, World.size_alloc, World.size_setCell] at hc1 hf1 hl1 hz1); (try have hq1x0 : w.heap.size < w1.heap.size := (by omega)); (try have hq1x1 : w.heap.size + 1 < w1.heap.size := (by omega)); (try have hq1x2 : w.heap.size + 1 + 1 < w1.heap.size := (by omega)))
    | (go_at_call 34; refine (isPlace_t _ _ _ (by assumption)).mono ?_; rintro e w2 ⟨rfl, hb2⟩; obtain ⟨hc2, hf2⟩ := bcell hb2; have hl2 := blt hb2; have hz2 := hb2.size; (try simp only [World.size_drew, World.size_alloc, World.size_setCell] at hc2 hf2 hl2 hz2); (try have hq2x0 : w.heap.size < w2.heap.size := (by omega)); (try have hq2x1 : w.heap.size + 1 < w2.heap.size := (by omega)); (try have hq2x2 : w.heap.size + 1 + 1 < w2.heap.size := (by omega)); (try have hq2x3 : w.heap.size + 1 + 1 + 1 < w2.heap.size := (by omega))))
  go_region_held3 (fun w' => w'.cell? ⟨w.heap.size + 1, 0, none⟩ = some (.int .i64 x) ∧ w'.cell? ⟨w.heap.size + 1, 1, none⟩ = some (.int .i64 y) ∧ w'.cell? ⟨w.heap.size + 1 + 1, 0, none⟩ = some (.int .i64 u) ∧ w'.cell? ⟨w.heap.size + 1 + 1, 1, none⟩ = some (.int .i64 v)) (first | (go_simp; done) | (go_keep; done)) (first
    | (go_at_call 36; refine (wayOf_any _ _ _).mono ?_; rintro e w3 ⟨rfl, hb3⟩; obtain ⟨hc3, hf3⟩ := bcell hb3; have hl3 := blt hb3; have hz3 := hb3.size; (try simp only [World.size_drew, World.size_alloc, World.size_setCell] at hc3 hf3 hl3 hz3); (try have hq3x0 : w.heap.size < w3.heap.size := (by omega)); (try have hq3x1 : w.heap.size + 1 < w3.heap.size := (by omega)); (try have hq3x2 : w.heap.size + 1 + 1 < w3.heap.size := (by omega)); (try have hq3x3 : w.heap.size + 1 + 1 + 1 < w3.heap.size := (by omega)))
    | (go_at_call 44; refine (less_any _ _ _ _ _ (by omega) (by omega) (by omega) (by omega)).mono ?_; rintro e w5 ⟨rfl, hb5⟩; obtain ⟨hc5, hf5⟩ := bcell hb5; have hl5 := blt hb5; have hz5 := hb5.size; (try simp only [World.size_drew, World.size_alloc, World.size_setCell] at hc5 hf5 hl5 hz5); (try have hq5x0 : w.heap.size < w5.heap.size := (by omega)); (try have hq5x1 : w.heap.size + 1 < w5.heap.size := (by omega)); (try have hq5x2 : w.heap.size + 1 + 1 < w5.heap.size := (by omega)); (try have hq5x3 : w.heap.size + 1 + 1 + 1 < w5.heap.size := (by omega)))
    | (go_at_call 43; refine (figureHas_r _ _ _ _ (by omega) (by omega) (by omega) (by omega)).mono ?_; rintro e w6 ⟨rfl, hb6⟩; obtain ⟨hc6, hf6⟩ := bcell hb6; have hl6 := blt hb6; have hz6 := hb6.size; (try simp only [World.size_drew, World.size_alloc, World.size_setCell] at hc6 hf6 hl6 hz6); (try have hq6x0 : w.heap.size < w6.heap.size := (by omega)); (try have hq6x1 : w.heap.size + 1 < w6.heap.size := (by omega)); (try have hq6x2 : w.heap.size + 1 + 1 < w6.heap.size := (by omega)); (try have hq6x3 : w.heap.size + 1 + 1 + 1 < w6.heap.size := (by omega))))
  all_goals
    go_wp2
  all_goals
    go_ret
    refine ⟨ret_bool ?_, bel_a⟩
    first | rfl | (simp [*]; done)
set_option maxHeartbeats 2000000 in
theorem shHas_b1 (g h x y u v : Int) (w : World) (h1 : 1 ≤ g) (h2 : g ≤ 25600) (h3 : 1 ≤ h) (h4 : h ≤ 25600) (h0 : inB 2560000 x y = false) :
    Calls Tryz.prog 16 #[s3 2 g h, vv x y, vv u v] w fun e w' => e = .returned (.bool false) ∧ Below w.heap.size w w' := by
  have hset := cset_map
  go_enter Tryz.func16, Tryz.ntmps16
  go_wp2_with (first
    | (go_at_call 33; refine (figureOf_box _ _ _ (by assumption) (by assumption) (by assumption) (by assumption)).mono ?_; rintro e w1 ⟨rfl, hb1⟩; obtain ⟨hc1, hf1⟩ := bcell hb1; have hl1 := blt hb1; have hz1 := hb1.size; (try simp only [World.size_drew, World.size_alloc, World.size_setCell] at hc1 hf1 hl1 hz1); (try have hq1x0 : w.heap.size < w1.heap.size := (by omega)); (try have hq1x1 : w.heap.size + 1 < w1.heap.size := (by omega)); (try have hq1x2 : w.heap.size + 1 + 1 < w1.heap.size := (by omega)))
    | (go_at_call 34; refine (isPlace_n _ _ _ (by assumption)).mono ?_; rintro e w2 ⟨rfl, hb2⟩; obtain ⟨hc2, hf2⟩ := bcell hb2; have hl2 := blt hb2; have hz2 := hb2.size; (try simp only [World.size_drew, World.size_alloc, World.size_setCell] at hc2 hf2 hl2 hz2); (try have hq2x0 : w.heap.size < w2.heap.size := (by omega)); (try have hq2x1 : w.heap.size + 1 < w2.heap.size := (by omega)); (try have hq2x2 : w.heap.size + 1 + 1 < w2.heap.size := (by omega)); (try have hq2x3 : w.heap.size + 1 + 1 + 1 < w2.heap.size := (by omega))))
  all_goals
    go_ret
    exact ⟨ret_bool (by simp [*]), bel_a⟩
set_option maxHeartbeats 2000000 in
theorem shHas_b2 (g h x y u v : Int) (w : World) (h1 : 1 ≤ g) (h2 : g ≤ 25600) (h3 : 1 ≤ h) (h4 : h ≤ 25600) (h0 : inB 2560000 x y = true) (h9 : inB 2560000 u v = false) :
    Calls Tryz.prog 16 #[s3 2 g h, vv x y, vv u v] w fun e w' => e = .returned (.bool false) ∧ Below w.heap.size w w' := by
  have hset := cset_map
  go_enter Tryz.func16, Tryz.ntmps16
  go_wp2_with (first
    | (go_at_call 33; refine (figureOf_box _ _ _ (by assumption) (by assumption) (by assumption) (by assumption)).mono ?_; rintro e w1 ⟨rfl, hb1⟩; obtain ⟨hc1, hf1⟩ := bcell hb1; have hl1 := blt hb1; have hz1 := hb1.size; (try simp only [World.size_drew, World.size_alloc, World.size_setCell] at hc1 hf1 hl1 hz1); (try have hq1x0 : w.heap.size < w1.heap.size := (by omega)); (try have hq1x1 : w.heap.size + 1 < w1.heap.size := (by omega)); (try have hq1x2 : w.heap.size + 1 + 1 < w1.heap.size := (by omega)))
    | (go_at_call 34; refine (isPlace_t _ _ _ (by assumption)).mono ?_; rintro e w2 ⟨rfl, hb2⟩; obtain ⟨hc2, hf2⟩ := bcell hb2; have hl2 := blt hb2; have hz2 := hb2.size; (try simp only [World.size_drew, World.size_alloc, World.size_setCell] at hc2 hf2 hl2 hz2); (try have hq2x0 : w.heap.size < w2.heap.size := (by omega)); (try have hq2x1 : w.heap.size + 1 < w2.heap.size := (by omega)); (try have hq2x2 : w.heap.size + 1 + 1 < w2.heap.size := (by omega)); (try have hq2x3 : w.heap.size + 1 + 1 + 1 < w2.heap.size := (by omega)))
    | (go_at_call 34; refine (isPlace_n _ _ _ (by assumption)).mono ?_; rintro e w2 ⟨rfl, hb2⟩; obtain ⟨hc2, hf2⟩ := bcell hb2; have hl2 := blt hb2; have hz2 := hb2.size; (try simp only [World.size_drew, World.size_alloc, World.size_setCell] at hc2 hf2 hl2 hz2); (try have hq2x0 : w.heap.size < w2.heap.size := (by omega)); (try have hq2x1 : w.heap.size + 1 < w2.heap.size := (by omega)); (try have hq2x2 : w.heap.size + 1 + 1 < w2.heap.size := (by omega)); (try have hq2x3 : w.heap.size + 1 + 1 + 1 < w2.heap.size := (by omega))))
  all_goals
    go_ret
    exact ⟨ret_bool (by simp [*]), bel_a⟩
set_option maxRecDepth 20000 in
set_option maxHeartbeats 4000000 in
theorem shHas_bt (g h x y u v : Int) (w : World) (h1 : 1 ≤ g) (h2 : g ≤ 25600) (h3 : 1 ≤ h) (h4 : h ≤ 25600) (h0 : inB 2560000 x y = true) (h9 : inB 2560000 u v = true) :
    Calls Tryz.prog 16 #[s3 2 g h, vv x y, vv u v] w fun e w' => e = .returned (.bool (hasV 2 g h x y u v)) ∧ Below w.heap.size w w' := by
  rw [← hasV_b]
  have hp := inB_of h0
  have hp9 := inB_of h9
  have hset := cset_map
  go_enter Tryz.func16, Tryz.ntmps16
  go_wp2_with (first
    | (go_at_call 33; refine (figureOf_box _ _ _ (by assumption) (by assumption) (by assumption) (by assumption)).mono ?_; rintro e w1 ⟨rfl, hb1⟩; obtain ⟨hc1, hf1⟩ := bcell hb1; have hl1 := blt hb1; have hz1 := hb1.size; (try simp only [World.size_drew, World.size_alloc, World.size_setCell] at hc1 hf1 hl1 hz1); (try have hq1x0 : w.heap.size < w1.heap.size := (by omega)); (try have hq1x1 : w.heap.size + 1 < w1.heap.size := (by omega)); (try have hq1x2 : w.heap.size + 1 + 1 < w1.heap.size := (by omega)))
    | (go_at_call 34; refine (isPlace_t _ _ _ (by assumption)).mono ?_; rintro e w2 ⟨rfl, hb2⟩; obtain ⟨hc2, hf2⟩ := bcell hb2; have hl2 := blt hb2; have hz2 := hb2.size; (try simp only [World.size_drew, World.size_alloc, World.size_setCell] at hc2 hf2 hl2 hz2); (try have hq2x0 : w.heap.size < w2.heap.size := (by omega)); (try have hq2x1 : w.heap.size + 1 < w2.heap.size := (by omega)); (try have hq2x2 : w.heap.size + 1 + 1 < w2.heap.size := (by omega)); (try have hq2x3 : w.heap.size + 1 + 1 + 1 < w2.heap.size := (by omega))))
  go_region_held3 (fun w' => w'.cell? ⟨w.heap.size + 1, 0, none⟩ = some (.int .i64 x) ∧ w'.cell? ⟨w.heap.size + 1, 1, none⟩ = some (.int .i64 y) ∧ w'.cell? ⟨w.heap.size + 1 + 1, 0, none⟩ = some (.int .i64 u) ∧ w'.cell? ⟨w.heap.size + 1 + 1, 1, none⟩ = some (.int .i64 v)) (first | (go_simp; done) | (go_keep; done)) (first
    | (go_at_call 36; refine (wayOf_any _ _ _).mono ?_; rintro e w3 ⟨rfl, hb3⟩; obtain ⟨hc3, hf3⟩ := bcell hb3; have hl3 := blt hb3; have hz3 := hb3.size; (try simp only [World.size_drew, World.size_alloc, World.size_setCell] at hc3 hf3 hl3 hz3); (try have hq3x0 : w.heap.size < w3.heap.size := (by omega)); (try have hq3x1 : w.heap.size + 1 < w3.heap.size := (by omega)); (try have hq3x2 : w.heap.size + 1 + 1 < w3.heap.size := (by omega)); (try have hq3x3 : w.heap.size + 1 + 1 + 1 < w3.heap.size := (by omega)))
    | (go_at_call 44; refine (less_any _ _ _ _ _ (by omega) (by omega) (by omega) (by omega)).mono ?_; rintro e w5 ⟨rfl, hb5⟩; obtain ⟨hc5, hf5⟩ := bcell hb5; have hl5 := blt hb5; have hz5 := hb5.size; (try simp only [World.size_drew, World.size_alloc, World.size_setCell] at hc5 hf5 hl5 hz5); (try have hq5x0 : w.heap.size < w5.heap.size := (by omega)); (try have hq5x1 : w.heap.size + 1 < w5.heap.size := (by omega)); (try have hq5x2 : w.heap.size + 1 + 1 < w5.heap.size := (by omega)); (try have hq5x3 : w.heap.size + 1 + 1 + 1 < w5.heap.size := (by omega)))
    | (go_at_call 43; refine (figureHas_b _ _ _ _ _ (by omega) (by omega) (by omega) (by omega)).mono ?_; rintro e w6 ⟨rfl, hb6⟩; obtain ⟨hc6, hf6⟩ := bcell hb6; have hl6 := blt hb6; have hz6 := hb6.size; (try simp only [World.size_drew, World.size_alloc, World.size_setCell] at hc6 hf6 hl6 hz6); (try have hq6x0 : w.heap.size < w6.heap.size := (by omega)); (try have hq6x1 : w.heap.size + 1 < w6.heap.size := (by omega)); (try have hq6x2 : w.heap.size + 1 + 1 < w6.heap.size := (by omega)); (try have hq6x3 : w.heap.size + 1 + 1 + 1 < w6.heap.size := (by omega))))
  all_goals
    go_wp2
  all_goals
    go_ret
    refine ⟨ret_bool ?_, bel_a⟩
    first | rfl | (simp [*]; done)
theorem shapeHas_any (k g h x y u v : Int) (w : World) :
    Calls Tryz.prog 16 #[s3 k g h, vv x y, vv u v] w fun e w' => e = .returned (.bool (shV k g h x y u v)) ∧ Below w.heap.size w w' := by
  unfold shV
  cases hs : shB k g h with
  | false => simp only [Bool.false_and]; exact shHas_n k g h x y u v w hs
  | true =>
    have hq := hs
    unfold shB at hq
    simp only [Bool.or_eq_true] at hq
    rcases hq with hq | hq
    · unfold rdB at hq; obtain ⟨rfl, ⟨h1, h2⟩, rfl⟩ := of_decide_eq_true hq
      cases h0 : inB 2560000 x y with
      | false => exact shHas_r1 g x y u v w h1 h2 h0
      | true =>
        cases h9 : inB 2560000 u v with
        | false => exact shHas_r2 g x y u v w h1 h2 h0 h9
        | true => exact shHas_rt g x y u v w h1 h2 h0 h9
    · unfold bxB at hq; obtain ⟨rfl, ⟨h1, h2⟩, h3, h4⟩ := of_decide_eq_true hq
      cases h0 : inB 2560000 x y with
      | false => exact shHas_b1 g h x y u v w h1 h2 h3 h4 h0
      | true =>
        cases h9 : inB 2560000 u v with
        | false => exact shHas_b2 g h x y u v w h1 h2 h3 h4 h0 h9
        | true => exact shHas_bt g h x y u v w h1 h2 h3 h4 h0 h9
set_option maxHeartbeats 8000000 in
theorem spanAround_any (x y u v : Int) (w : World) (hx : -4000000000 ≤ x ∧ x ≤ 4000000000) (hy : -4000000000 ≤ y ∧ y ≤ 4000000000) (hu : -4000000000 ≤ u ∧ u ≤ 4000000000) (hv : -4000000000 ≤ v ∧ v ≤ 4000000000) :
    Calls Tryz.prog 35 #[vv x y, vv u v] w fun e w' => e = .returned (b4 (x - u) (y - v) (x + u) (y + v)) ∧ Below w.heap.size w w' := by
  have hset := cset_map
  go_enter Tryz.func35, Tryz.ntmps35
  go_wp2
  go_region_held3 (fun w' => w'.cell? ⟨w.heap.size, 0, none⟩ = some (.int .i64 x) ∧ w'.cell? ⟨w.heap.size, 1, none⟩ = some (.int .i64 y) ∧ w'.cell? ⟨w.heap.size + 1, 0, none⟩ = some (.int .i64 u) ∧ w'.cell? ⟨w.heap.size + 1, 1, none⟩ = some (.int .i64 v)) (first | (go_simp; done) | (go_keep; done)) (first
    | (go_at_call 56; refine (plus_any _ _ _ _ _ (by omega) (by omega) (by omega) (by omega)).mono ?_; rintro e w1 ⟨rfl, hb1⟩; obtain ⟨hc1, hf1⟩ := bcell hb1; have hl1 := blt hb1; have hz1 := hb1.size; (try simp only [World.size_drew, World.size_alloc, World.size_setCell] at hc1 hf1 hl1 hz1); (try have hq1x0 : w.heap.size < w1.heap.size := (by omega)); (try have hq1x1 : w.heap.size + 1 < w1.heap.size := (by omega)); (try have hq1x2 : w.heap.size + 1 + 1 < w1.heap.size := (by omega)))
    | (go_at_call 44; refine (less_any _ _ _ _ _ (by omega) (by omega) (by omega) (by omega)).mono ?_; rintro e w1 ⟨rfl, hb1⟩; obtain ⟨hc1, hf1⟩ := bcell hb1; have hl1 := blt hb1; have hz1 := hb1.size; (try simp only [World.size_drew, World.size_alloc, World.size_setCell] at hc1 hf1 hl1 hz1); (try have hq1x0 : w.heap.size < w1.heap.size := (by omega)); (try have hq1x1 : w.heap.size + 1 < w1.heap.size := (by omega)); (try have hq1x2 : w.heap.size + 1 + 1 < w1.heap.size := (by omega))))
  all_goals
    go_wp2
    exact bodyPost_ret (v := b4 (x - u) (y - v) (x + u) (y + v)) (by simp [results, Tryz.results35, go_sem, *]) rfl ⟨rfl, bel_a⟩
theorem me_r (v : Int) (w : World) : (method 287 91 (.agg #[.int .i64 v]) "loop.example/parquetry/impl.reach").run Tryz.prog w = .ok (165, .agg #[.int .i64 v]) w := by kernel_rfl
theorem me_b (v u : Int) (w : World) : (method 287 93 (.agg #[.int .i64 v, .int .i64 u]) "loop.example/parquetry/impl.reach").run Tryz.prog w = .ok (166, .agg #[.int .i64 v, .int .i64 u]) w := by kernel_rfl
set_option maxHeartbeats 2000000 in
theorem shBounds_n (k wd h x y : Int) (w : World) (hs : shB k wd h = false) :
    Calls Tryz.prog 12 #[s3 k wd h, vv x y] w fun e w' => e = .returned (b4 0 0 0 0) ∧ Below w.heap.size w w' := by
  have hset := cset_map
  go_enter Tryz.func12, Tryz.ntmps12
  go_wp2_with (first
    | (go_at_call 33; refine (figureOf_none _ _ _ _ (by assumption)).mono ?_; rintro e w1 ⟨rfl, hb1⟩; obtain ⟨hc1, hf1⟩ := bcell hb1; have hl1 := blt hb1; have hz1 := hb1.size; (try simp only [World.size_drew, World.size_alloc, World.size_setCell] at hc1 hf1 hl1 hz1); (try have hq1x0 : w.heap.size < w1.heap.size := (by omega)); (try have hq1x1 : w.heap.size + 1 < w1.heap.size := (by omega)); (try have hq1x2 : w.heap.size + 1 + 1 < w1.heap.size := (by omega))))
  all_goals
    exact bodyPost_ret (v := b4 0 0 0 0) (by simp [results, Tryz.results12, go_sem, *]) rfl ⟨rfl, bel_a⟩
set_option maxHeartbeats 2000000 in
theorem shBounds_rn (wd x y : Int) (w : World) (h1 : 1 ≤ wd) (h2 : wd ≤ 25600) (h0 : inB 2560000 x y = false) :
    Calls Tryz.prog 12 #[s3 1 wd 0, vv x y] w fun e w' => e = .returned (b4 0 0 0 0) ∧ Below w.heap.size w w' := by
  have hset := cset_map
  go_enter Tryz.func12, Tryz.ntmps12
  go_wp2_with (first
    | (go_at_call 33; refine (figureOf_round _ _ (by assumption) (by assumption)).mono ?_; rintro e w1 ⟨rfl, hb1⟩; obtain ⟨hc1, hf1⟩ := bcell hb1; have hl1 := blt hb1; have hz1 := hb1.size; (try simp only [World.size_drew, World.size_alloc, World.size_setCell] at hc1 hf1 hl1 hz1); (try have hq1x0 : w.heap.size < w1.heap.size := (by omega)); (try have hq1x1 : w.heap.size + 1 < w1.heap.size := (by omega)); (try have hq1x2 : w.heap.size + 1 + 1 < w1.heap.size := (by omega)))
    | (go_at_call 34; refine (isPlace_n _ _ _ (by assumption)).mono ?_; rintro e w2 ⟨rfl, hb2⟩; obtain ⟨hc2, hf2⟩ := bcell hb2; have hl2 := blt hb2; have hz2 := hb2.size; (try simp only [World.size_drew, World.size_alloc, World.size_setCell] at hc2 hf2 hl2 hz2); (try have hq2x0 : w.heap.size < w2.heap.size := (by omega)); (try have hq2x1 : w.heap.size + 1 < w2.heap.size := (by omega)); (try have hq2x2 : w.heap.size + 1 + 1 < w2.heap.size := (by omega)); (try have hq2x3 : w.heap.size + 1 + 1 + 1 < w2.heap.size := (by omega))))
  all_goals
    exact bodyPost_ret (v := b4 0 0 0 0) (by simp [results, Tryz.results12, go_sem, *]) rfl ⟨rfl, bel_a⟩
set_option maxRecDepth 20000 in
set_option maxHeartbeats 4000000 in
theorem shBounds_rt (wd x y : Int) (w : World) (h1 : 1 ≤ wd) (h2 : wd ≤ 25600) (h0 : inB 2560000 x y = true) :
    Calls Tryz.prog 12 #[s3 1 wd 0, vv x y] w fun e w' => e = .returned (b4 (x - wd) (y - wd) (x + wd) (y + wd)) ∧ Below w.heap.size w w' := by
  have hp := inB_of h0
  have hm1 := me_r
  have hm2 := me_b
  have hset := cset_map
  go_enter Tryz.func12, Tryz.ntmps12
  go_wp2_with (first
    | (go_at_call 33; refine (figureOf_round _ _ (by assumption) (by assumption)).mono ?_; rintro e w1 ⟨rfl, hb1⟩; obtain ⟨hc1, hf1⟩ := bcell hb1; have hl1 := blt hb1; have hz1 := hb1.size; (try simp only [World.size_drew, World.size_alloc, World.size_setCell] at hc1 hf1 hl1 hz1); (try have hq1x0 : w.heap.size < w1.heap.size := (by omega)); (try have hq1x1 : w.heap.size + 1 < w1.heap.size := (by omega)); (try have hq1x2 : w.heap.size + 1 + 1 < w1.heap.size := (by omega)))
    | (go_at_call 34; refine (isPlace_t _ _ _ (by assumption)).mono ?_; rintro e w2 ⟨rfl, hb2⟩; obtain ⟨hc2, hf2⟩ := bcell hb2; have hl2 := blt hb2; have hz2 := hb2.size; (try simp only [World.size_drew, World.size_alloc, World.size_setCell] at hc2 hf2 hl2 hz2); (try have hq2x0 : w.heap.size < w2.heap.size := (by omega)); (try have hq2x1 : w.heap.size + 1 < w2.heap.size := (by omega)); (try have hq2x2 : w.heap.size + 1 + 1 < w2.heap.size := (by omega)); (try have hq2x3 : w.heap.size + 1 + 1 + 1 < w2.heap.size := (by omega)))
    | (go_at_call 36; refine (wayOf_any _ _ _).mono ?_; rintro e w3 ⟨rfl, hb3⟩; obtain ⟨hc3, hf3⟩ := bcell hb3; have hl3 := blt hb3; have hz3 := hb3.size; (try simp only [World.size_drew, World.size_alloc, World.size_setCell] at hc3 hf3 hl3 hz3); (try have hq3x0 : w.heap.size < w3.heap.size := (by omega)); (try have hq3x1 : w.heap.size + 1 < w3.heap.size := (by omega)); (try have hq3x2 : w.heap.size + 1 + 1 < w3.heap.size := (by omega)); (try have hq3x3 : w.heap.size + 1 + 1 + 1 < w3.heap.size := (by omega)))
    | (go_at_call 165; refine (reach_r _ _).mono ?_; rintro e w4 ⟨rfl, hb4⟩; obtain ⟨hc4, hf4⟩ := bcell hb4; have hl4 := blt hb4; have hz4 := hb4.size; (try simp only [World.size_drew, World.size_alloc, World.size_setCell] at hc4 hf4 hl4 hz4); (try have hq4x0 : w.heap.size < w4.heap.size := (by omega)); (try have hq4x1 : w.heap.size + 1 < w4.heap.size := (by omega)); (try have hq4x2 : w.heap.size + 1 + 1 < w4.heap.size := (by omega)); (try have hq4x3 : w.heap.size + 1 + 1 + 1 < w4.heap.size := (by omega)))
    | (go_at_call 35; refine (spanAround_any _ _ _ _ _ (by omega) (by omega) (by omega) (by omega)).mono ?_; rintro e w5 ⟨rfl, hb5⟩; obtain ⟨hc5, hf5⟩ := bcell hb5; have hl5 := blt hb5; have hz5 := hb5.size; (try simp only [World.size_drew, World.size_alloc, World.size_setCell] at hc5 hf5 hl5 hz5); (try have hq5x0 : w.heap.size < w5.heap.size := (by omega)); (try have hq5x1 : w.heap.size + 1 < w5.heap.size := (by omega)); (try have hq5x2 : w.heap.size + 1 + 1 < w5.heap.size := (by omega)); (try have hq5x3 : w.heap.size + 1 + 1 + 1 < w5.heap.size := (by omega)))
    | (go_at_call 37; refine (spanBox_any _ _ _ _ _).mono ?_; rintro e w6 ⟨rfl, hb6⟩; obtain ⟨hc6, hf6⟩ := bcell hb6; have hl6 := blt hb6; have hz6 := hb6.size; (try simp only [World.size_drew, World.size_alloc, World.size_setCell] at hc6 hf6 hl6 hz6); (try have hq6x0 : w.heap.size < w6.heap.size := (by omega)); (try have hq6x1 : w.heap.size + 1 < w6.heap.size := (by omega)); (try have hq6x2 : w.heap.size + 1 + 1 < w6.heap.size := (by omega)); (try have hq6x3 : w.heap.size + 1 + 1 + 1 < w6.heap.size := (by omega))))
  all_goals
    exact bodyPost_ret (v := b4 (x - wd) (y - wd) (x + wd) (y + wd)) (by simp [results, Tryz.results12, go_sem, *]) rfl ⟨rfl, bel_a⟩
set_option maxHeartbeats 2000000 in
theorem shBounds_bn (wd h x y : Int) (w : World) (h1 : 1 ≤ wd) (h2 : wd ≤ 25600) (h3 : 1 ≤ h) (h4 : h ≤ 25600) (h0 : inB 2560000 x y = false) :
    Calls Tryz.prog 12 #[s3 2 wd h, vv x y] w fun e w' => e = .returned (b4 0 0 0 0) ∧ Below w.heap.size w w' := by
  have hset := cset_map
  go_enter Tryz.func12, Tryz.ntmps12
  go_wp2_with (first
    | (go_at_call 33; refine (figureOf_box _ _ _ (by assumption) (by assumption) (by assumption) (by assumption)).mono ?_; rintro e w1 ⟨rfl, hb1⟩; obtain ⟨hc1, hf1⟩ := bcell hb1; have hl1 := blt hb1; have hz1 := hb1.size; (try simp only [World.size_drew, World.size_alloc, World.size_setCell] at hc1 hf1 hl1 hz1); (try have hq1x0 : w.heap.size < w1.heap.size := (by omega)); (try have hq1x1 : w.heap.size + 1 < w1.heap.size := (by omega)); (try have hq1x2 : w.heap.size + 1 + 1 < w1.heap.size := (by omega)))
    | (go_at_call 34; refine (isPlace_n _ _ _ (by assumption)).mono ?_; rintro e w2 ⟨rfl, hb2⟩; obtain ⟨hc2, hf2⟩ := bcell hb2; have hl2 := blt hb2; have hz2 := hb2.size; (try simp only [World.size_drew, World.size_alloc, World.size_setCell] at hc2 hf2 hl2 hz2); (try have hq2x0 : w.heap.size < w2.heap.size := (by omega)); (try have hq2x1 : w.heap.size + 1 < w2.heap.size := (by omega)); (try have hq2x2 : w.heap.size + 1 + 1 < w2.heap.size := (by omega)); (try have hq2x3 : w.heap.size + 1 + 1 + 1 < w2.heap.size := (by omega))))
  all_goals
    exact bodyPost_ret (v := b4 0 0 0 0) (by simp [results, Tryz.results12, go_sem, *]) rfl ⟨rfl, bel_a⟩
set_option maxRecDepth 20000 in
set_option maxHeartbeats 4000000 in
theorem shBounds_bt (wd h x y : Int) (w : World) (h1 : 1 ≤ wd) (h2 : wd ≤ 25600) (h3 : 1 ≤ h) (h4 : h ≤ 25600) (h0 : inB 2560000 x y = true) :
    Calls Tryz.prog 12 #[s3 2 wd h, vv x y] w fun e w' => e = .returned (b4 (x - wd) (y - h) (x + wd) (y + h)) ∧ Below w.heap.size w w' := by
  have hp := inB_of h0
  have hm1 := me_r
  have hm2 := me_b
  have hset := cset_map
  go_enter Tryz.func12, Tryz.ntmps12
  go_wp2_with (first
    | (go_at_call 33; refine (figureOf_box _ _ _ (by assumption) (by assumption) (by assumption) (by assumption)).mono ?_; rintro e w1 ⟨rfl, hb1⟩; obtain ⟨hc1, hf1⟩ := bcell hb1; have hl1 := blt hb1; have hz1 := hb1.size; (try simp only [World.size_drew, World.size_alloc, World.size_setCell] at hc1 hf1 hl1 hz1); (try have hq1x0 : w.heap.size < w1.heap.size := (by omega)); (try have hq1x1 : w.heap.size + 1 < w1.heap.size := (by omega)); (try have hq1x2 : w.heap.size + 1 + 1 < w1.heap.size := (by omega)))
    | (go_at_call 34; refine (isPlace_t _ _ _ (by assumption)).mono ?_; rintro e w2 ⟨rfl, hb2⟩; obtain ⟨hc2, hf2⟩ := bcell hb2; have hl2 := blt hb2; have hz2 := hb2.size; (try simp only [World.size_drew, World.size_alloc, World.size_setCell] at hc2 hf2 hl2 hz2); (try have hq2x0 : w.heap.size < w2.heap.size := (by omega)); (try have hq2x1 : w.heap.size + 1 < w2.heap.size := (by omega)); (try have hq2x2 : w.heap.size + 1 + 1 < w2.heap.size := (by omega)); (try have hq2x3 : w.heap.size + 1 + 1 + 1 < w2.heap.size := (by omega)))
    | (go_at_call 36; refine (wayOf_any _ _ _).mono ?_; rintro e w3 ⟨rfl, hb3⟩; obtain ⟨hc3, hf3⟩ := bcell hb3; have hl3 := blt hb3; have hz3 := hb3.size; (try simp only [World.size_drew, World.size_alloc, World.size_setCell] at hc3 hf3 hl3 hz3); (try have hq3x0 : w.heap.size < w3.heap.size := (by omega)); (try have hq3x1 : w.heap.size + 1 < w3.heap.size := (by omega)); (try have hq3x2 : w.heap.size + 1 + 1 < w3.heap.size := (by omega)); (try have hq3x3 : w.heap.size + 1 + 1 + 1 < w3.heap.size := (by omega)))
    | (go_at_call 166; refine (reach_b _ _ _).mono ?_; rintro e w4 ⟨rfl, hb4⟩; obtain ⟨hc4, hf4⟩ := bcell hb4; have hl4 := blt hb4; have hz4 := hb4.size; (try simp only [World.size_drew, World.size_alloc, World.size_setCell] at hc4 hf4 hl4 hz4); (try have hq4x0 : w.heap.size < w4.heap.size := (by omega)); (try have hq4x1 : w.heap.size + 1 < w4.heap.size := (by omega)); (try have hq4x2 : w.heap.size + 1 + 1 < w4.heap.size := (by omega)); (try have hq4x3 : w.heap.size + 1 + 1 + 1 < w4.heap.size := (by omega)))
    | (go_at_call 35; refine (spanAround_any _ _ _ _ _ (by omega) (by omega) (by omega) (by omega)).mono ?_; rintro e w5 ⟨rfl, hb5⟩; obtain ⟨hc5, hf5⟩ := bcell hb5; have hl5 := blt hb5; have hz5 := hb5.size; (try simp only [World.size_drew, World.size_alloc, World.size_setCell] at hc5 hf5 hl5 hz5); (try have hq5x0 : w.heap.size < w5.heap.size := (by omega)); (try have hq5x1 : w.heap.size + 1 < w5.heap.size := (by omega)); (try have hq5x2 : w.heap.size + 1 + 1 < w5.heap.size := (by omega)); (try have hq5x3 : w.heap.size + 1 + 1 + 1 < w5.heap.size := (by omega)))
    | (go_at_call 37; refine (spanBox_any _ _ _ _ _).mono ?_; rintro e w6 ⟨rfl, hb6⟩; obtain ⟨hc6, hf6⟩ := bcell hb6; have hl6 := blt hb6; have hz6 := hb6.size; (try simp only [World.size_drew, World.size_alloc, World.size_setCell] at hc6 hf6 hl6 hz6); (try have hq6x0 : w.heap.size < w6.heap.size := (by omega)); (try have hq6x1 : w.heap.size + 1 < w6.heap.size := (by omega)); (try have hq6x2 : w.heap.size + 1 + 1 < w6.heap.size := (by omega)); (try have hq6x3 : w.heap.size + 1 + 1 + 1 < w6.heap.size := (by omega))))
  all_goals
    exact bodyPost_ret (v := b4 (x - wd) (y - h) (x + wd) (y + h)) (by simp [results, Tryz.results12, go_sem, *]) rfl ⟨rfl, bel_a⟩
def sbA (k wd h x y : Int) : Int := bb (shB k wd h && inB 2560000 x y) (x - wd)
def sbB (k wd h x y : Int) : Int := bb (shB k wd h && inB 2560000 x y) (y - hh k wd h)
def sbC (k wd h x y : Int) : Int := bb (shB k wd h && inB 2560000 x y) (x + wd)
def sbD (k wd h x y : Int) : Int := bb (shB k wd h && inB 2560000 x y) (y + hh k wd h)
theorem shapeBounds_any (k wd h x y : Int) (w : World) :
    Calls Tryz.prog 12 #[s3 k wd h, vv x y] w fun e w' => e = .returned (b4 (sbA k wd h x y) (sbB k wd h x y) (sbC k wd h x y) (sbD k wd h x y)) ∧ Below w.heap.size w w' := by
  unfold sbA sbB sbC sbD
  cases hs : shB k wd h with
  | false => simp only [Bool.false_and, bb_f]; exact shBounds_n k wd h x y w hs
  | true =>
    have hq := hs
    unfold shB at hq
    simp only [Bool.or_eq_true] at hq
    cases h0 : inB 2560000 x y with
    | false =>
      simp only [Bool.true_and, bb_f]
      rcases hq with hq | hq
      · unfold rdB at hq; obtain ⟨rfl, ⟨h1, h2⟩, rfl⟩ := of_decide_eq_true hq; exact shBounds_rn wd x y w h1 h2 h0
      · unfold bxB at hq; obtain ⟨rfl, ⟨h1, h2⟩, h3, h4⟩ := of_decide_eq_true hq; exact shBounds_bn wd h x y w h1 h2 h3 h4 h0
    | true =>
      simp only [Bool.true_and, bb_t]
      rcases hq with hq | hq
      · unfold rdB at hq; obtain ⟨rfl, ⟨h1, h2⟩, rfl⟩ := of_decide_eq_true hq; exact shBounds_rt wd x y w h1 h2 h0
      · unfold bxB at hq; obtain ⟨rfl, ⟨h1, h2⟩, h3, h4⟩ := of_decide_eq_true hq; exact shBounds_bt wd h x y w h1 h2 h3 h4 h0
theorem boxOk_t (a b c d : Int) (w : World) (h : bokB a b c d = true) : Calls Tryz.prog 30 #[b4 a b c d] w fun e w' => e = .returned (.bool true) ∧ Below w.heap.size w w' := by
  have k := boxOk_any a b c d w
  rw [h] at k
  exact k
theorem boxOk_n (a b c d : Int) (w : World) (h : bokB a b c d = false) : Calls Tryz.prog 30 #[b4 a b c d] w fun e w' => e = .returned (.bool false) ∧ Below w.heap.size w w' := by
  have k := boxOk_any a b c d w
  rw [h] at k
  exact k
set_option maxHeartbeats 4000000 in
theorem meet_n1 (a b c d r s t u : Int) (w : World) (h1 : bokB a b c d = false) :
    Calls Tryz.prog 11 #[b4 a b c d, b4 r s t u] w fun e w' => e = .returned (.bool (bokB a b c d && (bokB r s t u && (leB a b t u && leB r s c d)))) ∧ Below w.heap.size w w' := by
  have hset := cset_map
  go_enter Tryz.func11, Tryz.ntmps11
  go_wp2_with (first
    | (go_at_call 30; refine (boxOk_t _ _ _ _ _ (by assumption)).mono ?_; rintro e w1 ⟨rfl, hb1⟩; obtain ⟨hc1, hf1⟩ := bcell hb1; have hl1 := blt hb1; have hz1 := hb1.size; (try simp only [World.size_drew, World.size_alloc, World.size_setCell] at hc1 hf1 hl1 hz1); (try have hq1x0 : w.heap.size < w1.heap.size := (by omega)); (try have hq1x1 : w.heap.size + 1 < w1.heap.size := (by omega)); (try have hq1x2 : w.heap.size + 1 + 1 < w1.heap.size := (by omega)))
    | (go_at_call 30; refine (boxOk_n _ _ _ _ _ (by assumption)).mono ?_; rintro e w1 ⟨rfl, hb1⟩; obtain ⟨hc1, hf1⟩ := bcell hb1; have hl1 := blt hb1; have hz1 := hb1.size; (try simp only [World.size_drew, World.size_alloc, World.size_setCell] at hc1 hf1 hl1 hz1); (try have hq1x0 : w.heap.size < w1.heap.size := (by omega)); (try have hq1x1 : w.heap.size + 1 < w1.heap.size := (by omega)); (try have hq1x2 : w.heap.size + 1 + 1 < w1.heap.size := (by omega))))
  all_goals
    go_ret
    refine ⟨ret_bool ?_, bel_a⟩
    simp [*]
set_option maxHeartbeats 4000000 in
theorem meet_n2 (a b c d r s t u : Int) (w : World) (h1 : bokB a b c d = true) (h2 : bokB r s t u = false) :
    Calls Tryz.prog 11 #[b4 a b c d, b4 r s t u] w fun e w' => e = .returned (.bool (bokB a b c d && (bokB r s t u && (leB a b t u && leB r s c d)))) ∧ Below w.heap.size w w' := by
  have hset := cset_map
  go_enter Tryz.func11, Tryz.ntmps11
  go_wp2_with (first
    | (go_at_call 30; refine (boxOk_t _ _ _ _ _ (by assumption)).mono ?_; rintro e w1 ⟨rfl, hb1⟩; obtain ⟨hc1, hf1⟩ := bcell hb1; have hl1 := blt hb1; have hz1 := hb1.size; (try simp only [World.size_drew, World.size_alloc, World.size_setCell] at hc1 hf1 hl1 hz1); (try have hq1x0 : w.heap.size < w1.heap.size := (by omega)); (try have hq1x1 : w.heap.size + 1 < w1.heap.size := (by omega)); (try have hq1x2 : w.heap.size + 1 + 1 < w1.heap.size := (by omega)))
    | (go_at_call 30; refine (boxOk_n _ _ _ _ _ (by assumption)).mono ?_; rintro e w1 ⟨rfl, hb1⟩; obtain ⟨hc1, hf1⟩ := bcell hb1; have hl1 := blt hb1; have hz1 := hb1.size; (try simp only [World.size_drew, World.size_alloc, World.size_setCell] at hc1 hf1 hl1 hz1); (try have hq1x0 : w.heap.size < w1.heap.size := (by omega)); (try have hq1x1 : w.heap.size + 1 < w1.heap.size := (by omega)); (try have hq1x2 : w.heap.size + 1 + 1 < w1.heap.size := (by omega))))
  all_goals
    go_ret
    refine ⟨ret_bool ?_, bel_a⟩
    simp [*]
set_option maxHeartbeats 8000000 in
theorem meet_y (a b c d r s t u : Int) (w : World) (h1 : bokB a b c d = true) (h2 : bokB r s t u = true) :
    Calls Tryz.prog 11 #[b4 a b c d, b4 r s t u] w fun e w' => e = .returned (.bool (bokB a b c d && (bokB r s t u && (leB a b t u && leB r s c d)))) ∧ Below w.heap.size w w' := by
  have hset := cset_map
  go_enter Tryz.func11, Tryz.ntmps11
  go_wp2_with (first
    | (go_at_call 30; refine (boxOk_t _ _ _ _ _ (by assumption)).mono ?_; rintro e w1 ⟨rfl, hb1⟩; obtain ⟨hc1, hf1⟩ := bcell hb1; have hl1 := blt hb1; have hz1 := hb1.size; (try simp only [World.size_drew, World.size_alloc, World.size_setCell] at hc1 hf1 hl1 hz1); (try have hq1x0 : w.heap.size < w1.heap.size := (by omega)); (try have hq1x1 : w.heap.size + 1 < w1.heap.size := (by omega)); (try have hq1x2 : w.heap.size + 1 + 1 < w1.heap.size := (by omega)))
    | (go_at_call 30; refine (boxOk_n _ _ _ _ _ (by assumption)).mono ?_; rintro e w1 ⟨rfl, hb1⟩; obtain ⟨hc1, hf1⟩ := bcell hb1; have hl1 := blt hb1; have hz1 := hb1.size; (try simp only [World.size_drew, World.size_alloc, World.size_setCell] at hc1 hf1 hl1 hz1); (try have hq1x0 : w.heap.size < w1.heap.size := (by omega)); (try have hq1x1 : w.heap.size + 1 < w1.heap.size := (by omega)); (try have hq1x2 : w.heap.size + 1 + 1 < w1.heap.size := (by omega))))
  go_region_held3 (fun w' => w'.cell? ⟨w.heap.size, 0, none⟩ = some (.int .i64 a) ∧ w'.cell? ⟨w.heap.size, 1, none⟩ = some (.int .i64 b) ∧ w'.cell? ⟨w.heap.size, 2, none⟩ = some (.int .i64 c) ∧ w'.cell? ⟨w.heap.size, 3, none⟩ = some (.int .i64 d) ∧ w'.cell? ⟨w.heap.size + 1, 0, none⟩ = some (.int .i64 r) ∧ w'.cell? ⟨w.heap.size + 1, 1, none⟩ = some (.int .i64 s) ∧ w'.cell? ⟨w.heap.size + 1, 2, none⟩ = some (.int .i64 t) ∧ w'.cell? ⟨w.heap.size + 1, 3, none⟩ = some (.int .i64 u)) (first | (go_simp; done) | (go_keep; done)) (first
    | (go_at_call 31; refine (spanOf_any _ _ _ _ _).mono ?_; rintro e w2 ⟨rfl, hb2⟩; obtain ⟨hc2, hf2⟩ := bcell hb2; have hl2 := blt hb2; have hz2 := hb2.size; (try simp only [World.size_drew, World.size_alloc, World.size_setCell] at hc2 hf2 hl2 hz2); (try have hq2x0 : w.heap.size < w2.heap.size := (by omega)); (try have hq2x1 : w.heap.size + 1 < w2.heap.size := (by omega)); (try have hq2x2 : w.heap.size + 1 + 1 < w2.heap.size := (by omega)))
    | (go_at_call 32; refine (spanMeets_any _ _ _ _ _ _ _ _ _).mono ?_; rintro e w3 ⟨rfl, hb3⟩; obtain ⟨hc3, hf3⟩ := bcell hb3; have hl3 := blt hb3; have hz3 := hb3.size; (try simp only [World.size_drew, World.size_alloc, World.size_setCell] at hc3 hf3 hl3 hz3); (try have hq3x0 : w.heap.size < w3.heap.size := (by omega)); (try have hq3x1 : w.heap.size + 1 < w3.heap.size := (by omega)); (try have hq3x2 : w.heap.size + 1 + 1 < w3.heap.size := (by omega))))
  all_goals
    go_wp2
    go_ret
    refine ⟨ret_bool ?_, bel_a⟩
    simp [*]
theorem boxMeets_any (a b c d r s t u : Int) (w : World) :
    Calls Tryz.prog 11 #[b4 a b c d, b4 r s t u] w fun e w' => e = .returned (.bool (bokB a b c d && (bokB r s t u && (leB a b t u && leB r s c d)))) ∧ Below w.heap.size w w' := by
  cases h1 : bokB a b c d with
  | false => have k := meet_n1 a b c d r s t u w h1; rw [h1] at k; exact k
  | true =>
    cases h2 : bokB r s t u with
    | false => have k := meet_n2 a b c d r s t u w h1 h2; rw [h1, h2] at k; exact k
    | true => have k := meet_y a b c d r s t u w h1 h2; rw [h1, h2] at k; exact k
def idL (p : Nat → Bool) (U : Nat → Int) : Nat → List Int
  | 0 => []
  | k + 1 => idL p U k ++ (if p k = true then [U (k * 12)] else [])
theorem idL_yes {p : Nat → Bool} {U : Nat → Int} {k : Nat} (h : p k = true) : idL p U (k + 1) = idL p U k ++ [U (k * 12)] := by rw [idL, if_pos h]
theorem idL_no {p : Nat → Bool} {U : Nat → Int} {k : Nat} (h : p k = false) : idL p U (k + 1) = idL p U k := by rw [idL, if_neg (by rw [h]; simp), List.append_nil]
theorem idL_none {p : Nat → Bool} {U : Nat → Int} (h : ∀ k, p k = false) : ∀ k, idL p U k = []
  | 0 => rfl
  | k + 1 => by rw [idL_no (h k), idL_none h k]
theorem idL_len (p : Nat → Bool) (U : Nat → Int) : ∀ k, (idL p U k).length ≤ k
  | 0 => Nat.le_refl _
  | k + 1 => by
    have := idL_len p U k
    cases h : p k with
    | true => rw [idL_yes h, List.length_append]; simp; omega
    | false => rw [idL_no h]; omega
def idsA (T P : Int) (n : Nat) (U : Nat → Int) (m : Nat) (Q : Nat → Int) (p : Nat → Bool) : List Int := bif worldB T P n U m Q then idL p U n else []
theorem idsA_len (T P : Int) (n : Nat) (U : Nat → Int) (m : Nat) (Q : Nat → Int) (p : Nat → Bool) : (idsA T P n U m Q p).length ≤ n := by
  unfold idsA
  cases worldB T P n U m Q with
  | true => exact idL_len p U n
  | false => simp
def hasAt (x y : Int) (U : Nat → Int) (k : Nat) : Bool := shV (U (k * 12 + 1)) (U (k * 12 + 2)) (U (k * 12 + 3)) (U (k * 12 + 4)) (U (k * 12 + 5)) x y
def sbX (f : Int → Int → Int → Int → Int → Int) (U : Nat → Int) (k : Nat) : Int := f (U (k * 12 + 1)) (U (k * 12 + 2)) (U (k * 12 + 3)) (U (k * 12 + 4)) (U (k * 12 + 5))
def meetAt (x y u v : Int) (U : Nat → Int) (k : Nat) : Bool := bokB (sbX sbA U k) (sbX sbB U k) (sbX sbC U k) (sbX sbD U k) && (bokB x y u v && (leB (sbX sbA U k) (sbX sbB U k) u v && leB x y (sbX sbC U k) (sbX sbD U k)))
theorem shapeHas_q (k g h x y u v : Int) (b : Bool) (w : World) (e : shV k g h x y u v = b) : Calls Tryz.prog 16 #[s3 k g h, vv x y, vv u v] w fun e w' => e = .returned (.bool b) ∧ Below w.heap.size w w' := by subst e; exact shapeHas_any k g h x y u v w
theorem boxMeets_q (a b c d r s t u : Int) (q : Bool) (w : World) (e : (bokB a b c d && (bokB r s t u && (leB a b t u && leB r s c d))) = q) : Calls Tryz.prog 11 #[b4 a b c d, b4 r s t u] w fun e w' => e = .returned (.bool q) ∧ Below w.heap.size w w' := by subst e; exact boxMeets_any a b c d r s t u w
theorem WdR.start (w : World) (T P : Int) (a a' : Option Addr) (n c m c' : Nat) : WdR w T P a n c a' m c' (w.alloc (Obj.cells #[.int .i64 T, .int .i64 P, .slice a n c, .slice a' m c'] 26)) := ⟨(Below.refl _ _).alloc (Nat.le_refl _) _, by simp, by go_simp, by go_simp, by go_simp, by go_simp⟩
set_option maxRecDepth 20000 in
set_option maxHeartbeats 8000000 in
theorem pqInts_same (a a' : Option Addr) (N c c' : Nat) (R : Nat → Int) (w : World) (h : Flat w a (N * 1) R) (h' : Flat w a' (N * 1) R) (hN : N ≤ 1000) :
    Calls Tryz.prog 7 #[.slice a N c, .slice a' N c'] w fun e w' => e = .returned (.bool true) ∧ Below w.heap.size w w' := by
  have hset := cset_map
  have e0 : ((N : Int) != (N : Int)) = false := by simp
  go_enter Tryz.func7, Tryz.ntmps7
  go_upto_region 4 with fail
  go_loopw [5] (fun s wr => ∃ k : Nat, k ≤ N ∧ s = .int .i64 (k : Int) ∧ Below w.heap.size w wr) (fun s _ => N - (intOf s).toNat)
  case atStart => exact ⟨0, Nat.zero_le _, rfl, Below.refl _ _⟩
  case round =>
    obtain ⟨k, hk, rfl, hw⟩ := hrel
    by_cases hlt : k < N
    · have hkN : (k : Int) < (N : Int) := by omega
      obtain ⟨b1, o1, e1, _, hc1⟩ := (h.below hw) (by omega)
      obtain ⟨b2, o2, e2, _, hc2⟩ := (h'.below hw) (by omega)
      have r0 := hc1 k (by omega)
      have s0 := hc2 k (by omega)
      clear hc1 hc2
      subst e1 e2
      have hev : (R k != R k) = false := by simp
      go_upto_region 6 with fail
      refine wp_region_held_drew (S := fun w' => w'.cell? ⟨b1, o1 + k, none⟩ = some (.int .i64 (R k)) ∧ w'.cell? ⟨b2, o2 + k, none⟩ = some (.int .i64 (R k))) (by kernel_rfl) ?_ (fun hHeld => ?_)
      · (try dsimp only)
        (first | (go_simp; done) | (go_keep; done))
      refine tq 0 hHeld ?_
      refine tq 1 hHeld ?_
      refine tq 2 hHeld ?_
      refine tq 3 hHeld ?_
      refine tq 4 hHeld ?_
      refine tq 5 hHeld ?_
      refine tq 6 hHeld ?_
      refine tq 7 hHeld ?_
      refine tq 8 hHeld ?_
      refine wpAnyH_done (by kernel_rfl) ?_ _
      go_wp2_with fail
      go_roundw
      case rel => exact ⟨k + 1, by omega, by go_num, hw.drew⟩
      case measure => simp [intOf]; omega
    · obtain rfl : k = N := by omega
      go_wp2_with fail
      go_ret
      exact ⟨rfl, hw⟩
set_option maxRecDepth 20000 in
set_option maxHeartbeats 8000000 in
theorem pqHas_q (a : Option Addr) (N c : Nat) (R : Nat → Int) (v : Int) (B : Bool) (w : World) (h : Flat w a (N * 1) R) (hN : N ≤ 1000) (hB : B = true ↔ ∃ q, q < N ∧ R q = v) :
    Calls Tryz.prog 17 #[.slice a N c, .int .i64 v] w fun e w' => e = .returned (.bool B) ∧ Below w.heap.size w w' := by
  have hset := cset_map
  go_enter Tryz.func17, Tryz.ntmps17
  go_upto_region 2 with fail
  go_loopw [5] (fun s wr => ∃ k : Nat, k ≤ N ∧ s = .int .i64 (k : Int) ∧ (∀ q, q < k → R q ≠ v) ∧ Below w.heap.size w wr) (fun s _ => N - (intOf s).toNat)
  case atStart => exact ⟨0, Nat.zero_le _, rfl, fun q hq => by omega, Below.refl _ _⟩
  case round =>
    obtain ⟨k, hk, rfl, hno, hw⟩ := hrel
    have HB : Shut (B = true ↔ ∃ q, q < N ∧ R q = v) := hB
    have HNO : Shut (∀ q, q < k → R q ≠ v) := hno
    clear hB hno
    by_cases hlt : k < N
    · have hkN : (k : Int) < (N : Int) := by omega
      obtain ⟨b1, o1, e1, _, hc1⟩ := (h.below hw) (by omega)
      have r0 := hc1 k (by omega)
      clear hc1
      subst e1
      by_cases hv : R k = v
      · have hev : (R k == v) = true := by simp [hv]
        have hBt : B = true := HB.out.2 ⟨k, hlt, hv⟩
        clear hv
        subst hBt
        go_wp2_with fail
        go_ret
        exact ⟨rfl, hw⟩
      · have hev : (R k == v) = false := by simp [hv]
        have HN2 : Shut (∀ q, q < k + 1 → R q ≠ v) := fun q hq => by
          by_cases e : q = k
          · subst e; exact hv
          · exact HNO.out q (by omega)
        clear hv HNO
        go_wp2_with fail
        go_roundw
        case rel => exact ⟨k + 1, by omega, by go_num, HN2.out, hw⟩
        case measure => simp [intOf]; omega
    · obtain rfl : k = N := by omega
      have hBf : B = false := by
        cases B with
        | false => rfl
        | true => obtain ⟨q, hq, e⟩ := HB.out.1 rfl; exact absurd e (HNO.out q hq)
      subst hBf
      go_wp2_with fail
      go_ret
      exact ⟨rfl, hw⟩
def Xb (w : World) (b : Nat) (x y u v : Int) : Prop := w.heap[b]? = some (.cells #[.int .i64 x, .int .i64 y, .int .i64 u, .int .i64 v] 30 (0, 0))
theorem Xb.lt {w : World} {b : Nat} {x y u v : Int} (h : Xb w b x y u v) : b < w.heap.size := by
  rcases Nat.lt_or_ge b w.heap.size with q | q
  · exact q
  · unfold Xb at h; rw [Array.getElem?_eq_none q] at h; cases h
theorem Xb.c0 {w : World} {b : Nat} {x y u v : Int} (h : Xb w b x y u v) : w.cell? ⟨b, 0, none⟩ = some (.int .i64 x) := by unfold Xb at h; simp [World.cell?, h]
theorem Xb.c1 {w : World} {b : Nat} {x y u v : Int} (h : Xb w b x y u v) : w.cell? ⟨b, 1, none⟩ = some (.int .i64 y) := by unfold Xb at h; simp [World.cell?, h]
theorem Xb.c2 {w : World} {b : Nat} {x y u v : Int} (h : Xb w b x y u v) : w.cell? ⟨b, 2, none⟩ = some (.int .i64 u) := by unfold Xb at h; simp [World.cell?, h]
theorem Xb.c3 {w : World} {b : Nat} {x y u v : Int} (h : Xb w b x y u v) : w.cell? ⟨b, 3, none⟩ = some (.int .i64 v) := by unfold Xb at h; simp [World.cell?, h]
theorem Xb.f {w : World} {b : Nat} {x y u v : Int} (h : Xb w b x y u v) : ∀ o, w.frozen? ⟨b, o, none⟩ = false := by unfold Xb at h; intro o; simp [World.frozen?, h]
theorem Xb.but {w w' : World} {b rb : Nat} {x y u v : Int} (h : Xb w b x y u v) (hb : But rb w w') (hn : b ≠ rb) : Xb w' b x y u v := (hb.block b h.lt hn).trans h
theorem Xb.on {w w' : World} {b : Nat} {x y u v : Int} (h : Xb w b x y u v) (hb : Below w.heap.size w w') : Xb w' b x y u v := (hb.block b h.lt).trans h
theorem Xb.new (w : World) (x y u v : Int) : Xb (w.alloc (.cells #[.int .i64 x, .int .i64 y, .int .i64 u, .int .i64 v] 30)) w.heap.size x y u v := by show (w.heap.push _)[w.heap.size]? = _; simp
theorem Xb.far {w : World} {b b' o : Nat} {x y u v : Int} (h : Xb w b x y u v) (hn : b ≠ b') (z : Value) : Xb (w.setCell ⟨b', o, none⟩ z) b x y u v := (Below.heap_setCell w ⟨b', o, none⟩ z b hn).trans h
theorem Xb.put {w : World} {b : Nat} {x y u v : Int} (h : Xb w b x y u v) (x' y' u' v' : Int) : Xb ((((w.setCell ⟨b, 0, none⟩ (.int .i64 x')).setCell ⟨b, 1, none⟩ (.int .i64 y')).setCell ⟨b, 2, none⟩ (.int .i64 u')).setCell ⟨b, 3, none⟩ (.int .i64 v')) b x' y' u' v' :=
  setBlk (i := 3) (setBlk (i := 2) (setBlk (i := 1) (setBlk (i := 0) h (.int .i64 x')) (.int .i64 y')) (.int .i64 u')) (.int .i64 v')
theorem mem_idL {p : Nat → Bool} {U : Nat → Int} {v : Int} : ∀ n, (v ∈ idL p U n ↔ ∃ k, k < n ∧ p k = true ∧ U (k * 12) = v)
  | 0 => by simp [idL]
  | n + 1 => by
    rw [idL, List.mem_append, mem_idL n]
    constructor
    · rintro (⟨k, hk, h1, h2⟩ | h)
      · exact ⟨k, by omega, h1, h2⟩
      · by_cases hp : p n = true
        · rw [if_pos hp, List.mem_singleton] at h; exact ⟨n, by omega, hp, h.symm⟩
        · rw [if_neg hp] at h; cases h
    · rintro ⟨k, hk, h1, h2⟩
      by_cases e : k = n
      · subst e; right; rw [if_pos h1, List.mem_singleton]; exact h2.symm
      · left; exact ⟨k, by omega, h1, h2⟩
theorem gd0 {L : List Int} {q : Nat} (hq : q < L.length) : L.getD q 0 = L[q] := by rw [List.getD_eq_getElem?_getD, List.getElem?_eq_getElem hq]; rfl
theorem ofL_mem {L : List Int} {v : Int} : (∃ q, q < L.length ∧ ofL L q = v) ↔ v ∈ L := by
  unfold ofL
  constructor
  · rintro ⟨q, hq, e⟩; rw [← e, gd0 hq]; exact List.getElem_mem hq
  · intro h; obtain ⟨q, hq, e⟩ := List.getElem_of_mem h; exact ⟨q, hq, by rw [gd0 hq]; exact e⟩
theorem Dz.on {w wr : World} {rb p xb vb : Nat} {v0 v1 : Value} {a : Option Addr} {n c : Nat} {U : Nat → Int} {a' : Option Addr} {m c' : Nat} {Q : Nat → Int} {x y : Int} {r0 r1 r2 r3 : Value} {s0 s1 : Int} {w1 : World} (h : Dz w wr rb p xb vb v0 v1 a n c U a' m c' Q x y r0 r1 r2 r3 s0 s1) (k : Below wr.heap.size wr w1) : Dz w w1 rb p xb vb v0 v1 a n c U a' m c' Q x y r0 r1 r2 r3 s0 s1 :=
  ⟨h.rs.blw k, h.bel.trans (k.mono h.bel.size), h.lo, h.hx, h.hv, h.v.on k, h.u.on k, h.r.on k, h.s.on k, h.ob.below k, h.op.below k⟩
theorem Dz.put {w wr : World} {rb p xb vb : Nat} {v0 v1 : Value} {a : Option Addr} {n c : Nat} {U : Nat → Int} {a' : Option Addr} {m c' : Nat} {Q : Nat → Int} {x y : Int} {r0 r1 r2 r3 : Value} {s0 s1 : Int} (h : Dz w wr rb p xb vb v0 v1 a n c U a' m c' Q x y r0 r1 r2 r3 s0 s1) (z t : Int) : Dz w ((wr.setCell ⟨vb, 0, none⟩ (.int .i64 z)).setCell ⟨vb, 1, none⟩ (.int .i64 t)) rb p xb vb v0 v1 a n c U a' m c' Q z t r0 r1 r2 r3 s0 s1 := by
  have h1 := h.lo; have h2 := h.hx; have h3 := h.hv
  have k := h.setx z
  have hF : Fr (fun j => j = vb) (wr.setCell ⟨vb, 0, none⟩ (.int .i64 z)) ((wr.setCell ⟨vb, 0, none⟩ (.int .i64 z)).setCell ⟨vb, 1, none⟩ (.int .i64 t)) := Fr.setCell (X := fun j => j = vb) rfl _
  exact ⟨k.rs.setNew (show rb < vb from h.hv) _, k.bel.setCell (show w.heap.size ≤ vb by omega) _, h.lo, h.hx, h.hv, k.v.far (k.v.neU k.u) _, k.u.set1 t, k.r.far (by omega) _, k.s.far (by omega) _, k.ob.frame hF (fun b e q => k.u.ne k.ob (by decide) b e q), k.op.frame hF (fun b e q => k.u.ne k.op (by decide) b e q)⟩
theorem Dz.oth {w wr : World} {rb p xb vb : Nat} {v0 v1 : Value} {a : Option Addr} {n c : Nat} {U : Nat → Int} {a' : Option Addr} {m c' : Nat} {Q : Nat → Int} {x y : Int} {r0 r1 r2 r3 : Value} {s0 s1 : Int} {tb o : Nat} {e f : Int} (h : Dz w wr rb p xb vb v0 v1 a n c U a' m c' Q x y r0 r1 r2 r3 s0 s1) (ht : Ub wr tb e f) (hr : rb < tb) (hn : vb ≠ tb) (z : Value) : Dz w (wr.setCell ⟨tb, o, none⟩ z) rb p xb vb v0 v1 a n c U a' m c' Q x y r0 r1 r2 r3 s0 s1 := by
  have h1 := h.lo; have h2 := h.hx; have h3 := h.hv
  have hF : Fr (fun j => j = tb) wr (wr.setCell ⟨tb, o, none⟩ z) := Fr.setCell (X := fun j => j = tb) rfl _
  exact ⟨h.rs.setNew (show rb < tb from hr) _, h.bel.setCell (show w.heap.size ≤ tb by omega) _, h.lo, h.hx, h.hv, h.v.far (h.v.neU ht) _, h.u.far hn _, h.r.far (by omega) _, h.s.far (by omega) _, h.ob.frame hF (fun b e q => ht.ne h.ob (by decide) b e q), h.op.frame hF (fun b e q => ht.ne h.op (by decide) b e q)⟩
theorem De.drw {w wr : World} {xb vb : Nat} {v0 v1 : Value} {a : Option Addr} {n c : Nat} {U : Nat → Int} {a' : Option Addr} {m c' : Nat} {Q : Nat → Int} {x y : Int} {r0 r1 r2 r3 : Value} {s0 s1 : Int} (h : De w wr xb vb v0 v1 a n c U a' m c' Q x y r0 r1 r2 r3 s0 s1) : De w wr.drew xb vb v0 v1 a n c U a' m c' Q x y r0 r1 r2 r3 s0 s1 :=
  have k : Below wr.heap.size wr wr.drew := Below.drew (Below.refl _ _)
  ⟨h.bel.drew, h.hx, h.hv, h.v.on k, h.u.on k, h.r.on k, h.s.on k, h.ob.below k, h.op.below k⟩
set_option maxRecDepth 20000 in
set_option maxHeartbeats 8000000 in
theorem drawWorldAt_w (ac : Option Addr) (len cap : Nat) (w : World) (hb : Bytes w ac len cap) :
    Calls Tryz.prog 13 #[.slice ac len cap] w fun e w' => ∃ (T P : Int) (a : Option Addr) (n c : Nat) (U : Nat → Int) (a' : Option Addr) (m c' : Nat) (Q : Nat → Int) (x y : Int), e = .returned (.tuple #[worldW T P a n c a' m c', vv x y]) ∧ (n ≤ 13 ∧ m ≤ 433) ∧ OutW w w' a n c U a' m c' Q := by
  have hset := cset_map
  have hE0 : Below w.heap.size w ((w.alloc (.cells #[.int .i64 0, .int .i64 0, .slice none 0 0, .slice none 0 0] 26)).alloc (.cells #[.int .i64 0, .int .i64 0] 28)) := ((Below.refl _ _).alloc (Nat.le_refl _) _).alloc (by simp) _
  have hb0 := hb.on hE0
  have hR : Wb ((w.alloc (.cells #[.int .i64 0, .int .i64 0, .slice none 0 0, .slice none 0 0] 26)).alloc (.cells #[.int .i64 0, .int .i64 0] 28)) w.heap.size (.int .i64 0) (.int .i64 0) (.slice none 0 0) (.slice none 0 0) := (Wb.new w _ _ _ _).on (balloc _ _)
  have hS : Ub ((w.alloc (.cells #[.int .i64 0, .int .i64 0, .slice none 0 0, .slice none 0 0] 26)).alloc (.cells #[.int .i64 0, .int .i64 0] 28)) (w.heap.size + 1) 0 0 := by have q := Ub.new (w.alloc (.cells #[.int .i64 0, .int .i64 0, .slice none 0 0, .slice none 0 0] 26)) 0 0; rw [show (w.alloc (.cells #[.int .i64 0, .int .i64 0, .slice none 0 0, .slice none 0 0] 26)).heap.size = w.heap.size + 1 by simp] at q; exact q
  have hz : ((w.alloc (.cells #[.int .i64 0, .int .i64 0, .slice none 0 0, .slice none 0 0] 26)).alloc (.cells #[.int .i64 0, .int .i64 0] 28)).heap.size = w.heap.size + 1 + 1 := by simp
  go_enter Tryz.func13, Tryz.ntmps13
  go_upto_region 1 with fail
  generalize ((w.alloc (.cells #[.int .i64 0, .int .i64 0, .slice none 0 0, .slice none 0 0] 26)).alloc (.cells #[.int .i64 0, .int .i64 0] 28)) = w0 at hE0 hb0 hR hS hz ⊢
  go_cut [4] (fun s4 wc => ∃ rb : Nat, s4 = .pointer (some ⟨rb, 0, none⟩) ∧ w.heap.size + 1 < rb ∧ rb < wc.heap.size ∧ RS wc rb 0 ∧ Below w.heap.size w wc ∧ Wb wc w.heap.size (.int .i64 0) (.int .i64 0) (.slice none 0 0) (.slice none 0 0) ∧ Ub wc (w.heap.size + 1) 0 0)
  case first =>
    go_wp2_with (go_at_call 18; refine (l1Open_rb _ _ _ _ hb0).mono ?_; rintro e w1 ⟨rfl, hr1, hbel⟩)
    go_meet
    rw [hz] at hr1
    exact ⟨w.heap.size + 1 + 1, rfl, by omega, (RS.of hr1).lt, RS.of hr1, hE0.trans (hbel.mono hE0.size), hR.on hbel, hS.on hbel⟩
  case rest =>
  clear hE0 hb0 hR hS hz
  obtain ⟨rb, rfl, hlo, hrl, hrs, hbel, hR, hS⟩ := hcut
  go_upto_region 2 with fail
  go_cut [5] (fun s5 wc => ∃ (xb : Nat) (T P : Int) (a : Option Addr) (n c : Nat) (U : Nat → Int) (a' : Option Addr) (m c' : Nat) (Q : Nat → Int), s5 = .pointer (some ⟨xb, 0, none⟩) ∧ (n ≤ 13 ∧ m ≤ 433) ∧ RS wc rb 71100 ∧ Below w.heap.size w wc ∧ rb < xb ∧ Wb wc xb (.int .i64 T) (.int .i64 P) (.slice a n c) (.slice a' m c') ∧ Wb wc w.heap.size (.int .i64 0) (.int .i64 0) (.slice none 0 0) (.slice none 0 0) ∧ Ub wc (w.heap.size + 1) 0 0 ∧ OwnL wc (rb + 1) 43 12 (.slice a n c) n U ∧ OwnL wc (rb + 1) 59 2 (.slice a' m c') m Q)
  case first =>
    go_wp2_with (go_at_call 19; refine (l11AnyWorld_w rb 0 _ (by exact hrs) (by omega)).mono ?_; rintro e w2 ⟨T, P, a, n, c, U, a', m, c', Q, rfl, ⟨hn, hm⟩, hD⟩)
    go_meet
    have hE : Below w2.heap.size w2 (w2.alloc (.cells #[.int .i64 T, .int .i64 P, .slice a n c, .slice a' m c'] 26)) := balloc _ _
    have hk := hD.but
    have l1 := hD.lo
    have l2 := hD.hi
    have l3 := hD.sz
    have l4 := hk.size
    exact ⟨w2.heap.size, T, P, a, n, c, U, a', m, c', Q, rfl, ⟨hn, hm⟩, (hD.rs.mono (by omega)).blw hE, (hbel.trans (hk.below (by omega) hbel.size)).trans (hE.mono (by have := hbel.size; omega)), by omega, Wb.new _ _ _ _ _, (hR.but hk (by omega)).on hE, (hS.but hk (by omega)).on hE, (hD.ob.base (by omega)).below hE, (hD.op.base (by omega)).below hE⟩
  case rest =>
  clear hR hS hrs hbel hrl
  obtain ⟨xb, T, P, a, n, c, U, a', m, c', Q, rfl, ⟨hn, hm⟩, hrs, hbel, hxb, hX, hR, hS, hob, hop⟩ := hcut
  go_upto_region 3 with fail
  go_cut [6] (fun s6 wc => ∃ (vb : Nat) (x y : Int), s6 = .pointer (some ⟨vb, 0, none⟩) ∧ Dz w wc rb 72200 xb vb (.int .i64 T) (.int .i64 P) a n c U a' m c' Q x y (.int .i64 0) (.int .i64 0) (.slice none 0 0) (.slice none 0 0) 0 0)
  case first =>
    go_wp2_with (go_at_call 38; refine (l11AnyPlace_s rb 71100 _ hrs (by omega)).mono ?_; rintro e w3 ⟨x, y, rfl, hxy, hr3⟩)
    go_meet
    have hE : Below w3.heap.size w3 (w3.alloc (.cells #[.int .i64 x, .int .i64 y] 28)) := balloc _ _
    have hk := RB.but hr3
    have hrl := hrs.lt
    have hl3 := hk.size
    exact ⟨w3.heap.size, x, y, rfl, ((RS.of hr3).mono (by omega)).blw hE, (hbel.trans (hk.below (by omega) hbel.size)).trans (hE.mono (by have := hbel.size; omega)), hlo, hxb, by omega, (hX.but hk (by omega)).on hE, Ub.new _ _ _, (hR.but hk (by omega)).on hE, (hS.but hk (by omega)).on hE, (hob.but hk (by omega)).below hE, (hop.but hk (by omega)).below hE⟩
  case rest =>
  clear hrs hbel hlo hxb hX hR hS hob hop
  obtain ⟨vb, x, y, rfl, hD⟩ := hcut
  go_upto_region 4 with fail
  go_cut [22] (fun s22 wc => ∃ B : Bool, s22 = .bool B ∧ (B = true → 0 < n) ∧ Dz w wc rb 72201 xb vb (.int .i64 T) (.int .i64 P) a n c U a' m c' Q x y (.int .i64 0) (.int .i64 0) (.slice none 0 0) (.slice none 0 0) 0 0)
  case first =>
    have x2 := hD.v.vb.c2
    by_cases hn0 : 0 < n
    · have e1 : (0 : Int) < (n : Int) := by omega
      go_wp2_with (go_at_call 39; refine (pick_s rb (72200) _ _ (by exact hD.rs) (by omega) (by omega) (by omega)).mono ?_; rintro e w4 ⟨v4, rfl, va4, vb4, hr4⟩)
      go_meet
      exact ⟨_, rfl, fun _ => hn0, hD.call hr4⟩
    · have e1 : ¬ (0 : Int) < (n : Int) := by omega
      go_wp2_with fail
      go_meet
      exact ⟨false, rfl, fun e => (by cases e), hD.mono (by omega)⟩
  case rest =>
  clear hD
  obtain ⟨B, rfl, hBn, hD⟩ := hcut
  rename_i hKK
  refine hKK _ _ ?_
  go_cut [] (fun wc => ∃ x y : Int, Dz w wc rb 72300 xb vb (.int .i64 T) (.int .i64 P) a n c U a' m c' Q x y (.int .i64 0) (.int .i64 0) (.slice none 0 0) (.slice none 0 0) 0 0)
  case first =>
    cases B with
    | false =>
      go_wp2_with fail
      go_meet
      exact ⟨_, _, hD.mono (by omega)⟩
    | true =>
      have hn1 := hBn rfl
      clear hBn
      obtain ⟨g0, o0, eg0, _, _⟩ := hD.ob.flat (by omega)
      subst eg0
      have x2 := hD.v.vb.c2
      have hn1' : (1 : Int) ≤ (n : Int) := by omega
      go_upto_region 5 with fail
      go_cut [7] (fun s7 wc => ∃ (tb : Nat) (X0 Y0 : Int), s7 = .pointer (some ⟨tb, 0, none⟩) ∧ rb < tb ∧ vb ≠ tb ∧ Ub wc tb X0 Y0 ∧ Dz w wc rb 72202 xb vb (.int .i64 T) (.int .i64 P) (some ⟨g0, o0, none⟩) n c U a' m c' Q x y (.int .i64 0) (.int .i64 0) (.slice none 0 0) (.slice none 0 0) 0 0)
      case first =>
        refine wp_region_held_drew (S := fun w' => w'.cell? ⟨xb, 2, none⟩ = some (.slice (some ⟨g0, o0, none⟩) n c)) (by kernel_rfl) ?_ (fun hHeld => ?_)
        · (try dsimp only)
          (first | (go_simp; done) | (go_keep; done))
        refine tq 0 hHeld ?_
        refine tq 1 hHeld ?_
        refine tq 2 hHeld ?_
        refine tq 3 hHeld ?_
        refine tq 4 hHeld ?_
        refine tq 5 hHeld ?_
        refine wpAnyH_ready (rs := [6, 10]) (by kernel_rfl) (by simp) ?_
        refine AllReadyH.cons rfl (fun K hK => ?_) (AllReadyH.cons rfl (fun K hK => ?_) AllReadyH.nil)
        · (go_simp
           replace hD := hD.drew
           (go_at_call 39; refine (pick_s rb 72201 _ _ (by exact hD.rs) (by omega) (by omega) (by omega)).mono ?_; rintro e w6 ⟨vk, rfl, vak, vbk, hrk⟩)
           obtain ⟨k, rfl⟩ := Int.eq_ofNat_of_zero_le vak
           have hkn : (k : Int) < (n : Int) := by omega
           clear x2
           replace hD := hD.call hrk
           clear hrk vbk vak
           have x2 := hD.v.vb.c2
           obtain ⟨g0', o0', eg0, _, hc0⟩ := hD.ob.flat (by omega)
           cases eg0
           have t4 : w6.cell? ⟨g0, o0 + k * 12 + 4, none⟩ = some (.int .i64 (U (k * 12 + 4))) := by have q := hc0 (k * 12 + 4) (by omega); simpa [Nat.add_assoc] using q
           have t5 : w6.cell? ⟨g0, o0 + k * 12 + 5, none⟩ = some (.int .i64 (U (k * 12 + 5))) := by have q := hc0 (k * 12 + 5) (by omega); simpa [Nat.add_assoc] using q
           clear hc0
           (try go_wp2_with fail)
           refine tr hK (fun hHeld => ?_)
           clear hK K)
          refine tq 7 hHeld ?_
          refine tq 8 hHeld ?_
          refine wpAnyH_ready (rs := [9, 10]) (by kernel_rfl) (by simp) ?_
          refine AllReadyH.cons rfl (fun K hK => ?_) (AllReadyH.cons rfl (fun K hK => ?_) AllReadyH.nil)
          · (go_simp
             refine tr hK (fun hHeld => ?_)
             clear hK K)
            refine tc 10 fun K hK => ?_
            (go_simp
             have hT := Ub.new w6 0 0
             have htb : rb < w6.heap.size := hD.rs.lt
             have htv : vb ≠ w6.heap.size := by have := hD.u.lt; omega
             clear x2 t4 t5
             replace hD := hD.on (balloc w6 (Obj.cells #[.int .i64 0, .int .i64 0] 28))
             generalize w6.alloc (Obj.cells #[.int .i64 0, .int .i64 0] 28) = w10 at hD hT ⊢
             generalize w6.heap.size = tb at hT htb htv ⊢
             have x2 := hD.v.vb.c2
             obtain ⟨g0', o0', eg0, _, hc0⟩ := hD.ob.flat (by omega)
             cases eg0
             have t4 : w10.cell? ⟨g0, o0 + k * 12 + 4, none⟩ = some (.int .i64 (U (k * 12 + 4))) := by have q := hc0 (k * 12 + 4) (by omega); simpa [Nat.add_assoc] using q
             have t5 : w10.cell? ⟨g0, o0 + k * 12 + 5, none⟩ = some (.int .i64 (U (k * 12 + 5))) := by have q := hc0 (k * 12 + 5) (by omega); simpa [Nat.add_assoc] using q
             clear hc0
             have e0 := hT.c0
             have e1 := hT.c1
             have ef := hT.f
             refine tr hK (fun hHeld => ?_)
             clear hK K)
            refine tc 11 fun K hK => ?_
            (go_simp
             have hT2 := (hT.set0 (U (k * 12 + 4))).set1 (U (k * 12 + 5))
             have hD2 := (hD.oth (o := 0) hT htb htv (.int .i64 (U (k * 12 + 4)))).oth (o := 1) (hT.set0 _) htb htv (.int .i64 (U (k * 12 + 5)))
             clear x2 t4 t5 e0 e1 ef hT hD
             generalize (w10.setCell ⟨tb, 0, none⟩ (.int .i64 (U (k * 12 + 4)))).setCell ⟨tb, 1, none⟩ (.int .i64 (U (k * 12 + 5))) = w11 at hD2 hT2 ⊢
             have x2 := hD2.v.vb.c2
             refine tr hK (fun hHeld => ?_)
             clear hK K)
            refine wpAnyH_done (by kernel_rfl) ?_ _
            go_wp2_with fail
            go_meet
            exact ⟨tb, _, _, rfl, htb, htv, hT2, hD2⟩
          · (go_simp
             have hT := Ub.new w6 0 0
             have htb : rb < w6.heap.size := hD.rs.lt
             have htv : vb ≠ w6.heap.size := by have := hD.u.lt; omega
             clear x2 t4 t5
             replace hD := hD.on (balloc w6 (Obj.cells #[.int .i64 0, .int .i64 0] 28))
             generalize w6.alloc (Obj.cells #[.int .i64 0, .int .i64 0] 28) = w10 at hD hT ⊢
             generalize w6.heap.size = tb at hT htb htv ⊢
             have x2 := hD.v.vb.c2
             obtain ⟨g0', o0', eg0, _, hc0⟩ := hD.ob.flat (by omega)
             cases eg0
             have t4 : w10.cell? ⟨g0, o0 + k * 12 + 4, none⟩ = some (.int .i64 (U (k * 12 + 4))) := by have q := hc0 (k * 12 + 4) (by omega); simpa [Nat.add_assoc] using q
             have t5 : w10.cell? ⟨g0, o0 + k * 12 + 5, none⟩ = some (.int .i64 (U (k * 12 + 5))) := by have q := hc0 (k * 12 + 5) (by omega); simpa [Nat.add_assoc] using q
             clear hc0
             have e0 := hT.c0
             have e1 := hT.c1
             have ef := hT.f
             refine tr hK (fun hHeld => ?_)
             clear hK K)
            refine tc 9 fun K hK => ?_
            (go_simp
             refine tr hK (fun hHeld => ?_)
             clear hK K)
            refine tc 11 fun K hK => ?_
            (go_simp
             have hT2 := (hT.set0 (U (k * 12 + 4))).set1 (U (k * 12 + 5))
             have hD2 := (hD.oth (o := 0) hT htb htv (.int .i64 (U (k * 12 + 4)))).oth (o := 1) (hT.set0 _) htb htv (.int .i64 (U (k * 12 + 5)))
             clear x2 t4 t5 e0 e1 ef hT hD
             generalize (w10.setCell ⟨tb, 0, none⟩ (.int .i64 (U (k * 12 + 4)))).setCell ⟨tb, 1, none⟩ (.int .i64 (U (k * 12 + 5))) = w11 at hD2 hT2 ⊢
             have x2 := hD2.v.vb.c2
             refine tr hK (fun hHeld => ?_)
             clear hK K)
            refine wpAnyH_done (by kernel_rfl) ?_ _
            go_wp2_with fail
            go_meet
            exact ⟨tb, _, _, rfl, htb, htv, hT2, hD2⟩
        · (go_simp
           have hT := (Ub.new wc 0 0).on (Below.drew (Below.refl _ _))
           have htb : rb < wc.heap.size := hD.rs.lt
           have htv : vb ≠ wc.heap.size := by have := hD.u.lt; omega
           clear x2
           replace hD := (hD.on (balloc wc (Obj.cells #[.int .i64 0, .int .i64 0] 28))).drew
           generalize (wc.alloc (Obj.cells #[.int .i64 0, .int .i64 0] 28)).drew = w10 at hD hT ⊢
           generalize wc.heap.size = tb at hT htb htv ⊢
           have x2 := hD.v.vb.c2
           have e0 := hT.c0
           have e1 := hT.c1
           have ef := hT.f
           refine tr hK (fun hHeld => ?_)
           clear hK K)
          refine tc 6 fun K hK => ?_
          (go_simp
           (go_at_call 39; refine (pick_s rb 72201 _ _ (by exact hD.rs) (by omega) (by omega) (by omega)).mono ?_; rintro e w6 ⟨vk, rfl, vak, vbk, hrk⟩)
           obtain ⟨k, rfl⟩ := Int.eq_ofNat_of_zero_le vak
           have hkn : (k : Int) < (n : Int) := by omega
           clear x2
           replace hD := hD.call hrk
           replace hT := hT.but (RB.but hrk) (by omega)
           clear e0 e1 ef
           have e0 := hT.c0
           have e1 := hT.c1
           have ef := hT.f
           clear hrk vbk vak
           have x2 := hD.v.vb.c2
           obtain ⟨g0', o0', eg0, _, hc0⟩ := hD.ob.flat (by omega)
           cases eg0
           have t4 : w6.cell? ⟨g0, o0 + k * 12 + 4, none⟩ = some (.int .i64 (U (k * 12 + 4))) := by have q := hc0 (k * 12 + 4) (by omega); simpa [Nat.add_assoc] using q
           have t5 : w6.cell? ⟨g0, o0 + k * 12 + 5, none⟩ = some (.int .i64 (U (k * 12 + 5))) := by have q := hc0 (k * 12 + 5) (by omega); simpa [Nat.add_assoc] using q
           clear hc0
           (try go_wp2_with fail)
           refine tr hK (fun hHeld => ?_)
           clear hK K)
          refine tq 7 hHeld ?_
          refine tq 8 hHeld ?_
          refine tc 9 fun K hK => ?_
          (go_simp
           refine tr hK (fun hHeld => ?_)
           clear hK K)
          refine tc 11 fun K hK => ?_
          (go_simp
           have hT2 := (hT.set0 (U (k * 12 + 4))).set1 (U (k * 12 + 5))
           have hD2 := (hD.oth (o := 0) hT htb htv (.int .i64 (U (k * 12 + 4)))).oth (o := 1) (hT.set0 _) htb htv (.int .i64 (U (k * 12 + 5)))
           clear x2 t4 t5 e0 e1 ef hT hD
           generalize (w6.setCell ⟨tb, 0, none⟩ (.int .i64 (U (k * 12 + 4)))).setCell ⟨tb, 1, none⟩ (.int .i64 (U (k * 12 + 5))) = w11 at hD2 hT2 ⊢
           have x2 := hD2.v.vb.c2
           refine tr hK (fun hHeld => ?_)
           clear hK K)
          refine wpAnyH_done (by kernel_rfl) ?_ _
          go_wp2_with fail
          go_meet
          exact ⟨tb, _, _, rfl, htb, htv, hT2, hD2⟩
      case rest =>
      clear hD x2
      obtain ⟨tb, X0, Y0, rfl, htb, htv, hT, hD⟩ := hcut
      have e0 := hT.c0
      have e1 := hT.c1
      have ef := hT.f
      have u0 := hD.u.c0
      have u1 := hD.u.c1
      have uf := hD.u.f
      go_upto_region 6 with fail
      refine wp_region_held_drew (S := fun w' => w'.cell? ⟨tb, 0, none⟩ = some (.int .i64 X0) ∧ w'.cell? ⟨tb, 1, none⟩ = some (.int .i64 Y0)) (by kernel_rfl) ?_ (fun hHeld => ?_)
      · (try dsimp only)
        (first | (go_simp; done) | (go_keep; done))
      refine tq 0 hHeld ?_
      refine tq 1 hHeld ?_
      refine tq 2 hHeld ?_
      refine tq 7 hHeld ?_
      refine tq 8 hHeld ?_
      refine tq 9 hHeld ?_
      refine tc 3 fun K hK => ?_
      (go_simp
       replace hD := hD.drew
       replace hT := hT.on (Below.drew (Below.refl _ _))
       (go_at_call 39; refine (pick_s rb 72202 _ _ (by exact hD.rs) (by omega) (by omega) (by omega)).mono ?_; rintro e w3 ⟨v3, rfl, va3, vb3, hr3⟩)
       clear e0 e1 ef u0 u1 uf
       replace hD := hD.call hr3
       replace hT := hT.but (RB.but hr3) (by omega)
       clear hr3
       have hm3 : IntKind.i64.wrap (v3 * 2) = v3 * 2 := i64w (by omega)
       obtain ⟨X1, hX1⟩ : ∃ z, IntKind.i64.wrap (X0 + v3 * 2) = z := ⟨_, rfl⟩
       obtain ⟨X2, hX2⟩ : ∃ z, IntKind.i64.wrap (X1 - 256) = z := ⟨_, rfl⟩
       have e0 := hT.c0
       have e1 := hT.c1
       have ef := hT.f
       have u0 := hD.u.c0
       have u1 := hD.u.c1
       have uf := hD.u.f
       (try go_wp2_with fail)
       refine tr hK (fun hHeld => ?_)
       clear hK K)
      refine tq 4 hHeld ?_
      refine tq 5 hHeld ?_
      refine tq 6 hHeld ?_
      refine tc 10 fun K hK => ?_
      (go_simp
       (go_at_call 39; refine (pick_s rb 72203 _ _ (by exact hD.rs) (by omega) (by omega) (by omega)).mono ?_; rintro e w10 ⟨v10, rfl, va10, vb10, hr10⟩)
       clear e0 e1 ef u0 u1 uf
       replace hD := hD.call hr10
       replace hT := hT.but (RB.but hr10) (by omega)
       clear hr10
       have hm10 : IntKind.i64.wrap (v10 * 2) = v10 * 2 := i64w (by omega)
       obtain ⟨Y1, hY1⟩ : ∃ z, IntKind.i64.wrap (Y0 + v10 * 2) = z := ⟨_, rfl⟩
       obtain ⟨Y2, hY2⟩ : ∃ z, IntKind.i64.wrap (Y1 - 256) = z := ⟨_, rfl⟩
       have e0 := hT.c0
       have e1 := hT.c1
       have ef := hT.f
       have u0 := hD.u.c0
       have u1 := hD.u.c1
       have uf := hD.u.f
       (try go_wp2_with fail)
       refine tr hK (fun hHeld => ?_)
       clear hK K)
      refine tq 11 hHeld ?_
      refine tq 12 hHeld ?_
      refine tq 13 hHeld ?_
      refine tq 14 hHeld ?_
      refine tc 15 fun K hK => ?_
      (go_simp
       have hT2 := (hT.far (b' := vb) (o := 0) htv.symm (.int .i64 X2)).far (b' := vb) (o := 1) htv.symm (.int .i64 Y2)
       have hD2 := hD.put X2 Y2
       clear e0 e1 ef u0 u1 uf hT hD
       generalize (w10.setCell ⟨vb, 0, none⟩ (.int .i64 X2)).setCell ⟨vb, 1, none⟩ (.int .i64 Y2) = w9 at hD2 hT2 ⊢
       have e0 := hT2.c0
       have e1 := hT2.c1
       have ef := hT2.f
       refine tr hK (fun hHeld => ?_)
       clear hK K)
      refine wpAnyH_done (by kernel_rfl) ?_ _
      go_wp2_with fail
      go_meet
      exact ⟨_, _, hD2.mono (by omega)⟩
  case rest =>
  clear hD x y hBn
  obtain ⟨x, y, hD⟩ := hcut
  have hE := hD.de
  clear hD
  have x0 := hE.v.vb.c0
  have x1 := hE.v.vb.c1
  have x2 := hE.v.vb.c2
  have x3 := hE.v.vb.c3
  have xf := hE.v.vb.f
  have u0 := hE.u.c0
  have u1 := hE.u.c1
  have uf := hE.u.f
  have y0 := hE.r.vb.c0
  have y1 := hE.r.vb.c1
  have y2 := hE.r.vb.c2
  have y3 := hE.r.vb.c3
  have yf := hE.r.vb.f
  have s0 := hE.s.c0
  have s1 := hE.s.c1
  have sf := hE.s.f
  go_upto_region 7 with fail
  refine wp_region_held_drew (S := fun w' => w'.cell? ⟨xb, 0, none⟩ = some (.int .i64 T) ∧ w'.cell? ⟨xb, 1, none⟩ = some (.int .i64 P) ∧ w'.cell? ⟨xb, 2, none⟩ = some (.slice a n c) ∧ w'.cell? ⟨xb, 3, none⟩ = some (.slice a' m c') ∧ w'.cell? ⟨vb, 0, none⟩ = some (.int .i64 x) ∧ w'.cell? ⟨vb, 1, none⟩ = some (.int .i64 y)) (by kernel_rfl) ?_ (fun hHeld => ?_)
  · (try dsimp only)
    (first | (go_simp; done) | (go_keep; done))
  refine tq 0 hHeld ?_
  refine tq 1 hHeld ?_
  refine tc 2 fun K hK => ?_
  (go_simp
   have hE2 := (hE.setr).drw
   clear x0 x1 x2 x3 xf u0 u1 uf y0 y1 y2 y3 yf s0 s1 sf hE
   have hE := hE2
   clear hE2
   generalize ((((wc.setCell ⟨w.heap.size, 0, none⟩ (.int .i64 T)).setCell ⟨w.heap.size, 1, none⟩ (.int .i64 P)).setCell ⟨w.heap.size, 2, none⟩ (.slice a n c)).setCell ⟨w.heap.size, 3, none⟩ (.slice a' m c')).drew = w52 at hE ⊢
   have x0 := hE.v.vb.c0
   have x1 := hE.v.vb.c1
   have x2 := hE.v.vb.c2
   have x3 := hE.v.vb.c3
   have xf := hE.v.vb.f
   have u0 := hE.u.c0
   have u1 := hE.u.c1
   have uf := hE.u.f
   have y0 := hE.r.vb.c0
   have y1 := hE.r.vb.c1
   have y2 := hE.r.vb.c2
   have y3 := hE.r.vb.c3
   have yf := hE.r.vb.f
   have s0 := hE.s.c0
   have s1 := hE.s.c1
   have sf := hE.s.f
   refine tr hK (fun hHeld => ?_)
   clear hK K)
  refine tc 3 fun K hK => ?_
  (go_simp
   have hE2 := hE.sets
   clear x0 x1 x2 x3 xf u0 u1 uf y0 y1 y2 y3 yf s0 s1 sf hE
   have hE := hE2
   clear hE2
   generalize ((w52.setCell ⟨w.heap.size + 1, 0, none⟩ (.int .i64 x)).setCell ⟨w.heap.size + 1, 1, none⟩ (.int .i64 y)) = w53 at hE ⊢
   have x0 := hE.v.vb.c0
   have x1 := hE.v.vb.c1
   have x2 := hE.v.vb.c2
   have x3 := hE.v.vb.c3
   have xf := hE.v.vb.f
   have u0 := hE.u.c0
   have u1 := hE.u.c1
   have uf := hE.u.f
   have y0 := hE.r.vb.c0
   have y1 := hE.r.vb.c1
   have y2 := hE.r.vb.c2
   have y3 := hE.r.vb.c3
   have yf := hE.r.vb.f
   have s0 := hE.s.c0
   have s1 := hE.s.c1
   have sf := hE.s.f
   refine tr hK (fun hHeld => ?_)
   clear hK K)
  refine wpAnyH_done (by kernel_rfl) ?_ _
  go_wp2_with fail
  exact bodyPost_ret (v := .tuple #[worldW T P a n c a' m c', vv x y]) (by simp [results, Tryz.results13, go_sem, y0, y1, y2, y3, s0, s1]) rfl ⟨T, P, a, n, c, U, a', m, c', Q, x, y, rfl, ⟨hn, hm⟩, hE.bel, hE.ob.base (by omega), hE.op.base (by omega), OwnL.neT hE.ob hE.op (by decide)⟩
set_option maxRecDepth 20000 in
set_option maxHeartbeats 8000000 in
theorem clAt_q (k fb : Nat) (U : Nat → Int) (x y : Int) (b : Bool) (w : World) (g0 : w.cell? ⟨fb, 0, none⟩ = some (.int .i64 x)) (g1 : w.cell? ⟨fb, 1, none⟩ = some (.int .i64 y)) (gl : fb < w.heap.size) (e : hasAt x y U k = b) :
    Calls Tryz.prog 40 #[.agg #[.int .i64 (U (k * 12)), .int .i64 (U (k * 12 + 1)), .int .i64 (U (k * 12 + 2)), .int .i64 (U (k * 12 + 3)), .int .i64 (U (k * 12 + 4)), .int .i64 (U (k * 12 + 5)), .int .i64 (U (k * 12 + 6)), .int .i64 (U (k * 12 + 7)), .int .i64 (U (k * 12 + 8)), .int .i64 (U (k * 12 + 9)), .int .i64 (U (k * 12 + 10)), .int .i64 (U (k * 12 + 11))], .pointer (some ⟨fb, 0, none⟩)] w fun e w' => e = .returned (.bool b) ∧ Below w.heap.size w w' := by
  have hset := cset_map
  go_enter Tryz.func40, Tryz.ntmps40
  go_wp2_with (go_at_call 16; refine (shapeHas_q _ _ _ _ _ _ _ b _ e).mono ?_; rintro e w4 ⟨rfl, hb4⟩; obtain ⟨hc4, hf4⟩ := bcell hb4; have hz4 := hb4.size; (try simp only [World.size_drew, World.size_alloc, World.size_setCell] at hc4 hf4 hz4); have hk4x0 := fun o => hc4 (w.heap.size) o (by omega); have hj4x0 := fun o => hf4 (w.heap.size) o (by omega); have hq4x0 : w.heap.size < w4.heap.size := (by omega); have hk4x1 := fun o => hc4 (fb) o (by omega); have hj4x1 := fun o => hf4 (fb) o (by omega); have hq4x1 : fb < w4.heap.size := (by omega); clear hc4 hf4)
  go_ret
  exact ⟨rfl, bel_a⟩
set_option maxRecDepth 20000 in
set_option maxHeartbeats 8000000 in
theorem idsAt_q (T P : Int) (a : Option Addr) (n c : Nat) (U : Nat → Int) (a' : Option Addr) (m c' : Nat) (Q : Nat → Int) (fb : Nat) (x y : Int) (w : World) (h : Flat w a (n * 12) U) (h' : Flat w a' (m * 2) Q) (hn : n ≤ 1048576) (hm : m ≤ 1048576) (g0 : w.cell? ⟨fb, 0, none⟩ = some (.int .i64 x)) (g1 : w.cell? ⟨fb, 1, none⟩ = some (.int .i64 y)) (gl : fb < w.heap.size) :
    Calls Tryz.prog 21 #[worldW T P a n c a' m c', .func (.func 40) #[] #[.pointer (some ⟨fb, 0, none⟩)]] w fun e w' => ∃ a0 N c0, e = .returned (.slice a0 N c0) ∧ (idsA T P n U m Q (hasAt x y U)).length = N * 1 ∧ OutL w w' 3 1 a0 N c0 (ofL (idsA T P n U m Q (hasAt x y U))) := by
  have hset := cset_map
  have hS := WdR.start w T P a a' n c m c'
  cases hok : worldB T P n U m Q with
  | false =>
    unfold idsA
    rw [hok]
    go_enter Tryz.func21, Tryz.ntmps21
    go_wp2_with (go_at_call 50; refine (worldOk_q T P a n c U a' m c' Q _ (h.below hS.bel) (h'.below hS.bel) hn hm false hok).mono ?_; rintro e w1 ⟨rfl, hb1⟩)
    go_ret
    exact ⟨_, _, _, rfl, by simp, (hS.on hb1).bel, OwnL.nil _ _ _ _ _⟩
  | true =>
    unfold idsA
    rw [hok]
    have z2 := hS.c2
    go_enter Tryz.func21, Tryz.ntmps21
    go_upto_region 4 with (go_at_call 50; refine (worldOk_q T P a n c U a' m c' Q _ (h.below hS.bel) (h'.below hS.bel) hn hm true hok).mono ?_; rintro e w1 ⟨rfl, hb1⟩)
    have hB1 := hS.on hb1
    clear hb1 hS z2
    have z2 := hB1.c2
    go_wp2
    clear z2
    go_loopw [5, 7, 14] (fun s5 _ s wr => ∃ (k : Nat) (aL : Option Addr) (mL cL : Nat), k ≤ n ∧ s = .int .i64 (k : Int) ∧ s5 = .slice aL mL cL ∧ LsV w1 wr 3 1 aL mL cL (idL (hasAt x y U) U k)) (fun _ _ s _ => n - (intOf s).toNat)
    case atStart => exact ⟨0, _, _, _, Nat.zero_le _, rfl, rfl, LsV.nil _ _ _⟩
    case round =>
      obtain ⟨k, aL, mL, cL, hk, rfl, rfl, hL⟩ := hrel
      by_cases hlt : k < n
      · have hB := hB1.on hL.bel
        obtain ⟨b, o, rfl, hbl, hc⟩ := (h.below hB.bel) (by omega)
        have c0 := hc (k * 12) (by omega)
        have c1 := hc (k * 12 + 1) (by omega)
        have c2 := hc (k * 12 + 2) (by omega)
        have c3 := hc (k * 12 + 3) (by omega)
        have c4 := hc (k * 12 + 4) (by omega)
        have c5 := hc (k * 12 + 5) (by omega)
        have c6 := hc (k * 12 + 6) (by omega)
        have c7 := hc (k * 12 + 7) (by omega)
        have c8 := hc (k * 12 + 8) (by omega)
        have c9 := hc (k * 12 + 9) (by omega)
        have c10 := hc (k * 12 + 10) (by omega)
        have c11 := hc (k * 12 + 11) (by omega)
        simp only [← Nat.add_assoc] at c0 c1 c2 c3 c4 c5 c6 c7 c8 c9 c10 c11
        clear hc
        have hwl := hB.bel.size
        have d0 : wr.cell? ⟨fb, 0, none⟩ = some (.int .i64 x) := (hB.bel.cell (p := ⟨fb, 0, none⟩) gl).trans g0
        have d1 : wr.cell? ⟨fb, 1, none⟩ = some (.int .i64 y) := (hB.bel.cell (p := ⟨fb, 1, none⟩) gl).trans g1
        have hgl : fb < wr.heap.size := by omega
        have hmk := hL.len
        have hmj := idL_len (hasAt x y U) U k
        obtain ⟨vb, hv⟩ : ∃ vb, hasAt x y U k = vb := ⟨_, rfl⟩
        have hE : Below wr.heap.size wr (wr.alloc (Obj.cells #[.int .i64 (U (k * 12)), .int .i64 (U (k * 12 + 1)), .int .i64 (U (k * 12 + 2)), .int .i64 (U (k * 12 + 3)), .int .i64 (U (k * 12 + 4)), .int .i64 (U (k * 12 + 5)), .int .i64 (U (k * 12 + 6)), .int .i64 (U (k * 12 + 7)), .int .i64 (U (k * 12 + 8)), .int .i64 (U (k * 12 + 9)), .int .i64 (U (k * 12 + 10)), .int .i64 (U (k * 12 + 11))] 43)) := (Below.refl _ _).alloc (Nat.le_refl _) _
        cases vb with
        | false =>
          go_wp2_with (go_at_call 40; refine (clAt_q k fb U x y false _ (by go_simp) (by go_simp) (by simp; omega) hv).mono ?_; rintro e w2 ⟨rfl, hb2⟩)
          go_roundw
          case rel => exact ⟨k + 1, _, _, _, by omega, by go_num, rfl, by rw [idL_no hv]; exact (hL.below hE).below hb2⟩
          case measure => simp [intOf]; omega
        | true =>
          go_upto_region 8 with (go_at_call 40; refine (clAt_q k fb U x y true _ (by go_simp) (by go_simp) (by simp; omega) hv).mono ?_; rintro e w2 ⟨rfl, hb2⟩)
          have x0 : w2.cell? ⟨wr.heap.size, 0, none⟩ = some (.int .i64 (U (k * 12))) := (hb2.cell (p := ⟨wr.heap.size, 0, none⟩) (by simp)).trans (by go_simp)
          have hL2 := (hL.below hE).below hb2
          have hbz := hL2.bel.size
          go_wp2_with (refine wpList_app rfl _ _ _ rfl w1.heap.size 3 1 8 (.int .i64 0) Tryz.underlying33 (by kernel_rfl) (by rfl) (by omega) (.slice aL mL cL) mL (ofL (idL (hasAt x y U) U k)) rfl (hL2.below ((Below.refl _ _).alloc (Nat.le_refl _) _)).own _ 1 _ (ofL [U (k * 12)]) rfl (flat1 _ _ _) (by unfold maxLen; omega) (by omega) (by simp only [World.size_alloc]; omega) ?_; intro a3 c3 w3 ho3 hg3)
          have hP := (hL2.below ((Below.refl _ _).alloc (Nat.le_refl _) _)).push (x := [U (k * 12)]) rfl hg3 ho3
          go_roundw
          case rel => exact ⟨k + 1, _, _, _, by omega, by go_num, rfl, by rw [idL_yes hv]; exact hP⟩
          case measure => simp [intOf]; omega
      · obtain rfl : k = n := by omega
        go_wp2
        go_ret
        exact ⟨_, _, _, rfl, hL.len, hL.out hB1.bel⟩
def downZ (n m : Int) : Int := if n.tdiv m * m ≠ n ∧ decide (n < 0) ≠ decide (m < 0) then n.tdiv m - 1 else n.tdiv m
def btA (f g l h : Int) : Int := if g = 0 then 0 else if g < 0 then downZ ((h - f) * 256) g else downZ ((l - f) * 256) g
def btB (f g l h : Int) : Int := if g = 0 then 256 else if g < 0 then -downZ (-((l - f) * 256)) g else -downZ (-((h - f) * 256)) g
def btC (f g l h : Int) : Bool := if g = 0 then decide (l ≤ f ∧ f ≤ h) else true
def msF (f a : Int) : Int := if f < a then a else f
def msL (l b : Int) : Int := if b < l then b else l
def rsK (x y u v p q r t : Int) : Bool := btC x u p r && (!decide (msL 256 (btB x u p r) < msF 0 (btA x u p r)) && (btC y v q t && !decide (msL (msL 256 (btB x u p r)) (btB y v q t) < msF (msF 0 (btA x u p r)) (btA y v q t))))
def rsF (x y u v p q r t : Int) : Int := if rsK x y u v p q r t = true then msF (msF 0 (btA x u p r)) (btA y v q t) else 0
def rayB (x y u v : Int) : Bool := inB 2560000 x y && (inB 2560000 u v && !decide (u = 0 ∧ v = 0))
def rbK (x y u v p q r t : Int) : Bool := rayB x y u v && (bokB p q r t && (inB 2560000 p q && (inB 2560000 r t && rsK x y u v p q r t)))
def rbF (x y u v p q r t : Int) : Int := if rbK x y u v p q r t = true then rsF x y u v p q r t else 0
def bxx (x u t : Int) : Int := x + (u * t).tdiv 256
def rhB (x y u v p q g t : Int) : Bool := decide ((bxx x u t - p) * (bxx x u t - p) + (bxx y v t - q) * (bxx y v t - q) ≤ g * g)
def rrF (H : Int → Bool) : Nat → Int → Int × Bool
  | 0, _ => (0, false)
  | n + 1, t => if H t = true then (t, true) else rrF H n (t + 1)
end Go.Proofs.YtdajfjipomkpdaaGreat
