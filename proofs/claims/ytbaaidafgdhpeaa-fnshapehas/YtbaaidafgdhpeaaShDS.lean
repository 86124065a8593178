/- The contract of the specification's ShapeHas. -/
import Derived.Test.YtbaaidafgdhpeaaShD
import Derived.Deep.QuietTactic
import Derived.BigQuiet
import Derived.Deep.RegionWith
import Derived.Deep.RegionHeld3
namespace Go.Proofs.Ytbaaidafgdhpeaa
open Go.RowKit
set_option linter.unusedVariables false
set_option linter.unusedSimpArgs false

set_option maxHeartbeats 2000000 in
theorem sShHas_n (k g h x y u v : Int) (w : World) (hs : shB k g h = false) :
    Calls Try.prog 28 #[s3 k g h, vv x y, vv u v] w fun e w' => e = .returned (.bool false) ∧ Below w.heap.size w w' := by
  have hset := cset_map
  go_enter Try.func28, Try.ntmps28
  go_wp2_with (first
    | (go_at_call 23; refine (sShapeOk_n _ _ _ _ (by assumption)).mono ?_; rintro e w1 ⟨rfl, hb1⟩; obtain ⟨hc1, hf1⟩ := bcell hb1; have hl1 := blt hb1; have hz1 := hb1.size; (try simp only [World.size_drew, World.size_alloc, World.size_setCell] at hc1 hf1 hl1 hz1); (try have hq1x0 : w.heap.size < w1.heap.size := (by omega)); (try have hq1x1 : w.heap.size + 1 < w1.heap.size := (by omega)); (try have hq1x2 : w.heap.size + 1 + 1 < w1.heap.size := (by omega)); (try have hq1x3 : w.heap.size + 1 + 1 + 1 < w1.heap.size := (by omega))))
  all_goals
    go_ret
    exact ⟨ret_bool (by simp [*]), by repeat (first | with_reducible apply Below.refl | (with_reducible apply Below.setCell; rotate_left; focus (first | omega | (simp; done) | (simp; omega))) | (with_reducible apply Below.alloc; rotate_left; focus (first | omega | (simp; done) | (simp; omega))) | with_reducible apply Below.drew | with_reducible apply belowDrewN | (with_reducible apply Below.trans; rotate_left; with_reducible apply Below.mono; with_reducible assumption; focus (first | omega | (simp; done) | (simp; omega))))⟩

set_option maxHeartbeats 2000000 in
theorem sShHas_r1 (g x y u v : Int) (w : World) (h1 : 1 ≤ g) (h2 : g ≤ 25600) (h0 : inB 2560000 x y = false) :
    Calls Try.prog 28 #[s3 1 g 0, vv x y, vv u v] w fun e w' => e = .returned (.bool false) ∧ Below w.heap.size w w' := by
  have hs : shB 1 g 0 = true := by unfold shB rdB; simp; omega
  have hset := cset_map
  go_enter Try.func28, Try.ntmps28
  go_wp2_with (first
    | (go_at_call 23; refine (sShapeOk_t _ _ _ _ (by assumption)).mono ?_; rintro e w1 ⟨rfl, hb1⟩; obtain ⟨hc1, hf1⟩ := bcell hb1; have hl1 := blt hb1; have hz1 := hb1.size; (try simp only [World.size_drew, World.size_alloc, World.size_setCell] at hc1 hf1 hl1 hz1); (try have hq1x0 : w.heap.size < w1.heap.size := (by omega)); (try have hq1x1 : w.heap.size + 1 < w1.heap.size := (by omega)); (try have hq1x2 : w.heap.size + 1 + 1 < w1.heap.size := (by omega)); (try have hq1x3 : w.heap.size + 1 + 1 + 1 < w1.heap.size := (by omega)))
    | (go_at_call 58; refine (l3Place_n _ _ _ (by assumption)).mono ?_; rintro e w2 ⟨rfl, hb2⟩; obtain ⟨hc2, hf2⟩ := bcell hb2; have hl2 := blt hb2; have hz2 := hb2.size; (try simp only [World.size_drew, World.size_alloc, World.size_setCell] at hc2 hf2 hl2 hz2); (try have hq2x0 : w.heap.size < w2.heap.size := (by omega)); (try have hq2x1 : w.heap.size + 1 < w2.heap.size := (by omega)); (try have hq2x2 : w.heap.size + 1 + 1 < w2.heap.size := (by omega)); (try have hq2x3 : w.heap.size + 1 + 1 + 1 < w2.heap.size := (by omega))))
  all_goals
    go_ret
    exact ⟨ret_bool (by simp [*]), by repeat (first | with_reducible apply Below.refl | (with_reducible apply Below.setCell; rotate_left; focus (first | omega | (simp; done) | (simp; omega))) | (with_reducible apply Below.alloc; rotate_left; focus (first | omega | (simp; done) | (simp; omega))) | with_reducible apply Below.drew | with_reducible apply belowDrewN | (with_reducible apply Below.trans; rotate_left; with_reducible apply Below.mono; with_reducible assumption; focus (first | omega | (simp; done) | (simp; omega))))⟩

set_option maxHeartbeats 2000000 in
theorem sShHas_r2 (g x y u v : Int) (w : World) (h1 : 1 ≤ g) (h2 : g ≤ 25600) (h0 : inB 2560000 x y = true) (h9 : inB 2560000 u v = false) :
    Calls Try.prog 28 #[s3 1 g 0, vv x y, vv u v] w fun e w' => e = .returned (.bool false) ∧ Below w.heap.size w w' := by
  have hs : shB 1 g 0 = true := by unfold shB rdB; simp; omega
  have hset := cset_map
  go_enter Try.func28, Try.ntmps28
  go_wp2_with (first
    | (go_at_call 23; refine (sShapeOk_t _ _ _ _ (by assumption)).mono ?_; rintro e w1 ⟨rfl, hb1⟩; obtain ⟨hc1, hf1⟩ := bcell hb1; have hl1 := blt hb1; have hz1 := hb1.size; (try simp only [World.size_drew, World.size_alloc, World.size_setCell] at hc1 hf1 hl1 hz1); (try have hq1x0 : w.heap.size < w1.heap.size := (by omega)); (try have hq1x1 : w.heap.size + 1 < w1.heap.size := (by omega)); (try have hq1x2 : w.heap.size + 1 + 1 < w1.heap.size := (by omega)); (try have hq1x3 : w.heap.size + 1 + 1 + 1 < w1.heap.size := (by omega)))
    | (go_at_call 58; refine (l3Place_t _ _ _ (by assumption)).mono ?_; rintro e w2 ⟨rfl, hb2⟩; obtain ⟨hc2, hf2⟩ := bcell hb2; have hl2 := blt hb2; have hz2 := hb2.size; (try simp only [World.size_drew, World.size_alloc, World.size_setCell] at hc2 hf2 hl2 hz2); (try have hq2x0 : w.heap.size < w2.heap.size := (by omega)); (try have hq2x1 : w.heap.size + 1 < w2.heap.size := (by omega)); (try have hq2x2 : w.heap.size + 1 + 1 < w2.heap.size := (by omega)); (try have hq2x3 : w.heap.size + 1 + 1 + 1 < w2.heap.size := (by omega)))
    | (go_at_call 58; refine (l3Place_n _ _ _ (by assumption)).mono ?_; rintro e w2 ⟨rfl, hb2⟩; obtain ⟨hc2, hf2⟩ := bcell hb2; have hl2 := blt hb2; have hz2 := hb2.size; (try simp only [World.size_drew, World.size_alloc, World.size_setCell] at hc2 hf2 hl2 hz2); (try have hq2x0 : w.heap.size < w2.heap.size := (by omega)); (try have hq2x1 : w.heap.size + 1 < w2.heap.size := (by omega)); (try have hq2x2 : w.heap.size + 1 + 1 < w2.heap.size := (by omega)); (try have hq2x3 : w.heap.size + 1 + 1 + 1 < w2.heap.size := (by omega))))
  all_goals
    go_ret
    exact ⟨ret_bool (by simp [*]), by repeat (first | with_reducible apply Below.refl | (with_reducible apply Below.setCell; rotate_left; focus (first | omega | (simp; done) | (simp; omega))) | (with_reducible apply Below.alloc; rotate_left; focus (first | omega | (simp; done) | (simp; omega))) | with_reducible apply Below.drew | with_reducible apply belowDrewN | (with_reducible apply Below.trans; rotate_left; with_reducible apply Below.mono; with_reducible assumption; focus (first | omega | (simp; done) | (simp; omega))))⟩

set_option maxHeartbeats 4000000 in
theorem sShHas_rt (g x y u v : Int) (w : World) (h1 : 1 ≤ g) (h2 : g ≤ 25600) (h0 : inB 2560000 x y = true) (h9 : inB 2560000 u v = true) :
    Calls Try.prog 28 #[s3 1 g 0, vv x y, vv u v] w fun e w' => e = .returned (.bool (hasV 1 g 0 x y u v)) ∧ Below w.heap.size w w' := by
  rw [← hasV_r]
  have hp := inB_of h0
  have hp9 := inB_of h9
  have hs : shB 1 g 0 = true := by unfold shB rdB; simp; omega
  have hset := cset_map
  go_enter Try.func28, Try.ntmps28
  go_wp2_with (first
    | (go_at_call 23; refine (sShapeOk_t _ _ _ _ (by assumption)).mono ?_; rintro e w1 ⟨rfl, hb1⟩; obtain ⟨hc1, hf1⟩ := bcell hb1; have hl1 := blt hb1; have hz1 := hb1.size; (try simp only [World.size_drew, World.size_alloc, World.size_setCell] at hc1 hf1 hl1 hz1); (try have hq1x0 : w.heap.size < w1.heap.size := (by omega)); (try have hq1x1 : w.heap.size + 1 < w1.heap.size := (by omega)); (try have hq1x2 : w.heap.size + 1 + 1 < w1.heap.size := (by omega)); (try have hq1x3 : w.heap.size + 1 + 1 + 1 < w1.heap.size := (by omega)))
    | (go_at_call 58; refine (l3Place_t _ _ _ (by assumption)).mono ?_; rintro e w2 ⟨rfl, hb2⟩; obtain ⟨hc2, hf2⟩ := bcell hb2; have hl2 := blt hb2; have hz2 := hb2.size; (try simp only [World.size_drew, World.size_alloc, World.size_setCell] at hc2 hf2 hl2 hz2); (try have hq2x0 : w.heap.size < w2.heap.size := (by omega)); (try have hq2x1 : w.heap.size + 1 < w2.heap.size := (by omega)); (try have hq2x2 : w.heap.size + 1 + 1 < w2.heap.size := (by omega)); (try have hq2x3 : w.heap.size + 1 + 1 + 1 < w2.heap.size := (by omega)))
    | (go_at_call 68; refine (l3Has_r _ _ _ _ _ _ (by omega) (by omega) (by omega) (by omega) (by omega) (by omega)).mono ?_; rintro e w3 ⟨rfl, hb3⟩; obtain ⟨hc3, hf3⟩ := bcell hb3; have hl3 := blt hb3; have hz3 := hb3.size; (try simp only [World.size_drew, World.size_alloc, World.size_setCell] at hc3 hf3 hl3 hz3); (try have hq3x0 : w.heap.size < w3.heap.size := (by omega)); (try have hq3x1 : w.heap.size + 1 < w3.heap.size := (by omega)); (try have hq3x2 : w.heap.size + 1 + 1 < w3.heap.size := (by omega)); (try have hq3x3 : w.heap.size + 1 + 1 + 1 < w3.heap.size := (by omega))))
  all_goals
    go_ret
    refine ⟨ret_bool ?_, by repeat (first | with_reducible apply Below.refl | (with_reducible apply Below.setCell; rotate_left; focus (first | omega | (simp; done) | (simp; omega))) | (with_reducible apply Below.alloc; rotate_left; focus (first | omega | (simp; done) | (simp; omega))) | with_reducible apply Below.drew | with_reducible apply belowDrewN | (with_reducible apply Below.trans; rotate_left; with_reducible apply Below.mono; with_reducible assumption; focus (first | omega | (simp; done) | (simp; omega))))⟩
    first | rfl | (simp [*]; done)

set_option maxHeartbeats 2000000 in
theorem sShHas_b1 (g h x y u v : Int) (w : World) (h1 : 1 ≤ g) (h2 : g ≤ 25600) (h3 : 1 ≤ h) (h4 : h ≤ 25600) (h0 : inB 2560000 x y = false) :
    Calls Try.prog 28 #[s3 2 g h, vv x y, vv u v] w fun e w' => e = .returned (.bool false) ∧ Below w.heap.size w w' := by
  have hs : shB 2 g h = true := by unfold shB bxB; simp; omega
  have hset := cset_map
  go_enter Try.func28, Try.ntmps28
  go_wp2_with (first
    | (go_at_call 23; refine (sShapeOk_t _ _ _ _ (by assumption)).mono ?_; rintro e w1 ⟨rfl, hb1⟩; obtain ⟨hc1, hf1⟩ := bcell hb1; have hl1 := blt hb1; have hz1 := hb1.size; (try simp only [World.size_drew, World.size_alloc, World.size_setCell] at hc1 hf1 hl1 hz1); (try have hq1x0 : w.heap.size < w1.heap.size := (by omega)); (try have hq1x1 : w.heap.size + 1 < w1.heap.size := (by omega)); (try have hq1x2 : w.heap.size + 1 + 1 < w1.heap.size := (by omega)); (try have hq1x3 : w.heap.size + 1 + 1 + 1 < w1.heap.size := (by omega)))
    | (go_at_call 58; refine (l3Place_n _ _ _ (by assumption)).mono ?_; rintro e w2 ⟨rfl, hb2⟩; obtain ⟨hc2, hf2⟩ := bcell hb2; have hl2 := blt hb2; have hz2 := hb2.size; (try simp only [World.size_drew, World.size_alloc, World.size_setCell] at hc2 hf2 hl2 hz2); (try have hq2x0 : w.heap.size < w2.heap.size := (by omega)); (try have hq2x1 : w.heap.size + 1 < w2.heap.size := (by omega)); (try have hq2x2 : w.heap.size + 1 + 1 < w2.heap.size := (by omega)); (try have hq2x3 : w.heap.size + 1 + 1 + 1 < w2.heap.size := (by omega))))
  all_goals
    go_ret
    exact ⟨ret_bool (by simp [*]), by repeat (first | with_reducible apply Below.refl | (with_reducible apply Below.setCell; rotate_left; focus (first | omega | (simp; done) | (simp; omega))) | (with_reducible apply Below.alloc; rotate_left; focus (first | omega | (simp; done) | (simp; omega))) | with_reducible apply Below.drew | with_reducible apply belowDrewN | (with_reducible apply Below.trans; rotate_left; with_reducible apply Below.mono; with_reducible assumption; focus (first | omega | (simp; done) | (simp; omega))))⟩

set_option maxHeartbeats 2000000 in
theorem sShHas_b2 (g h x y u v : Int) (w : World) (h1 : 1 ≤ g) (h2 : g ≤ 25600) (h3 : 1 ≤ h) (h4 : h ≤ 25600) (h0 : inB 2560000 x y = true) (h9 : inB 2560000 u v = false) :
    Calls Try.prog 28 #[s3 2 g h, vv x y, vv u v] w fun e w' => e = .returned (.bool false) ∧ Below w.heap.size w w' := by
  have hs : shB 2 g h = true := by unfold shB bxB; simp; omega
  have hset := cset_map
  go_enter Try.func28, Try.ntmps28
  go_wp2_with (first
    | (go_at_call 23; refine (sShapeOk_t _ _ _ _ (by assumption)).mono ?_; rintro e w1 ⟨rfl, hb1⟩; obtain ⟨hc1, hf1⟩ := bcell hb1; have hl1 := blt hb1; have hz1 := hb1.size; (try simp only [World.size_drew, World.size_alloc, World.size_setCell] at hc1 hf1 hl1 hz1); (try have hq1x0 : w.heap.size < w1.heap.size := (by omega)); (try have hq1x1 : w.heap.size + 1 < w1.heap.size := (by omega)); (try have hq1x2 : w.heap.size + 1 + 1 < w1.heap.size := (by omega)); (try have hq1x3 : w.heap.size + 1 + 1 + 1 < w1.heap.size := (by omega)))
    | (go_at_call 58; refine (l3Place_t _ _ _ (by assumption)).mono ?_; rintro e w2 ⟨rfl, hb2⟩; obtain ⟨hc2, hf2⟩ := bcell hb2; have hl2 := blt hb2; have hz2 := hb2.size; (try simp only [World.size_drew, World.size_alloc, World.size_setCell] at hc2 hf2 hl2 hz2); (try have hq2x0 : w.heap.size < w2.heap.size := (by omega)); (try have hq2x1 : w.heap.size + 1 < w2.heap.size := (by omega)); (try have hq2x2 : w.heap.size + 1 + 1 < w2.heap.size := (by omega)); (try have hq2x3 : w.heap.size + 1 + 1 + 1 < w2.heap.size := (by omega)))
    | (go_at_call 58; refine (l3Place_n _ _ _ (by assumption)).mono ?_; rintro e w2 ⟨rfl, hb2⟩; obtain ⟨hc2, hf2⟩ := bcell hb2; have hl2 := blt hb2; have hz2 := hb2.size; (try simp only [World.size_drew, World.size_alloc, World.size_setCell] at hc2 hf2 hl2 hz2); (try have hq2x0 : w.heap.size < w2.heap.size := (by omega)); (try have hq2x1 : w.heap.size + 1 < w2.heap.size := (by omega)); (try have hq2x2 : w.heap.size + 1 + 1 < w2.heap.size := (by omega)); (try have hq2x3 : w.heap.size + 1 + 1 + 1 < w2.heap.size := (by omega))))
  all_goals
    go_ret
    exact ⟨ret_bool (by simp [*]), by repeat (first | with_reducible apply Below.refl | (with_reducible apply Below.setCell; rotate_left; focus (first | omega | (simp; done) | (simp; omega))) | (with_reducible apply Below.alloc; rotate_left; focus (first | omega | (simp; done) | (simp; omega))) | with_reducible apply Below.drew | with_reducible apply belowDrewN | (with_reducible apply Below.trans; rotate_left; with_reducible apply Below.mono; with_reducible assumption; focus (first | omega | (simp; done) | (simp; omega))))⟩

set_option maxHeartbeats 4000000 in
theorem sShHas_bt (g h x y u v : Int) (w : World) (h1 : 1 ≤ g) (h2 : g ≤ 25600) (h3 : 1 ≤ h) (h4 : h ≤ 25600) (h0 : inB 2560000 x y = true) (h9 : inB 2560000 u v = true) :
    Calls Try.prog 28 #[s3 2 g h, vv x y, vv u v] w fun e w' => e = .returned (.bool (hasV 2 g h x y u v)) ∧ Below w.heap.size w w' := by
  rw [show hasV 2 g h x y u v = ptB (x - g) (y - h) (x + g) (y + h) u v from rfl]
  have hp := inB_of h0
  have hp9 := inB_of h9
  have hs : shB 2 g h = true := by unfold shB bxB; simp; omega
  have hset := cset_map
  go_enter Try.func28, Try.ntmps28
  go_wp2_with (first
    | (go_at_call 23; refine (sShapeOk_t _ _ _ _ (by assumption)).mono ?_; rintro e w1 ⟨rfl, hb1⟩; obtain ⟨hc1, hf1⟩ := bcell hb1; have hl1 := blt hb1; have hz1 := hb1.size; (try simp only [World.size_drew, World.size_alloc, World.size_setCell] at hc1 hf1 hl1 hz1); (try have hq1x0 : w.heap.size < w1.heap.size := (by omega)); (try have hq1x1 : w.heap.size + 1 < w1.heap.size := (by omega)); (try have hq1x2 : w.heap.size + 1 + 1 < w1.heap.size := (by omega)); (try have hq1x3 : w.heap.size + 1 + 1 + 1 < w1.heap.size := (by omega)))
    | (go_at_call 58; refine (l3Place_t _ _ _ (by assumption)).mono ?_; rintro e w2 ⟨rfl, hb2⟩; obtain ⟨hc2, hf2⟩ := bcell hb2; have hl2 := blt hb2; have hz2 := hb2.size; (try simp only [World.size_drew, World.size_alloc, World.size_setCell] at hc2 hf2 hl2 hz2); (try have hq2x0 : w.heap.size < w2.heap.size := (by omega)); (try have hq2x1 : w.heap.size + 1 < w2.heap.size := (by omega)); (try have hq2x2 : w.heap.size + 1 + 1 < w2.heap.size := (by omega)); (try have hq2x3 : w.heap.size + 1 + 1 + 1 < w2.heap.size := (by omega)))
    | (go_at_call 68; refine (l3Has_b _ _ _ _ _ _ _ (by omega) (by omega) (by omega) (by omega) (by omega) (by omega) (by omega) (by omega)).mono ?_; rintro e w3 ⟨rfl, hb3⟩; obtain ⟨hc3, hf3⟩ := bcell hb3; have hl3 := blt hb3; have hz3 := hb3.size; (try simp only [World.size_drew, World.size_alloc, World.size_setCell] at hc3 hf3 hl3 hz3); (try have hq3x0 : w.heap.size < w3.heap.size := (by omega)); (try have hq3x1 : w.heap.size + 1 < w3.heap.size := (by omega)); (try have hq3x2 : w.heap.size + 1 + 1 < w3.heap.size := (by omega)); (try have hq3x3 : w.heap.size + 1 + 1 + 1 < w3.heap.size := (by omega))))
  all_goals
    go_ret
    refine ⟨ret_bool ?_, by repeat (first | with_reducible apply Below.refl | (with_reducible apply Below.setCell; rotate_left; focus (first | omega | (simp; done) | (simp; omega))) | (with_reducible apply Below.alloc; rotate_left; focus (first | omega | (simp; done) | (simp; omega))) | with_reducible apply Below.drew | with_reducible apply belowDrewN | (with_reducible apply Below.trans; rotate_left; with_reducible apply Below.mono; with_reducible assumption; focus (first | omega | (simp; done) | (simp; omega))))⟩
    first | rfl | (simp [*]; done)

theorem sShapeHas_any (k g h x y u v : Int) (w : World) :
    Calls Try.prog 28 #[s3 k g h, vv x y, vv u v] w fun e w' => e = .returned (.bool (shV k g h x y u v)) ∧ Below w.heap.size w w' := by
  unfold shV
  cases hs : shB k g h with
  | false => simp only [Bool.false_and]; exact sShHas_n k g h x y u v w hs
  | true =>
    have hq := hs
    unfold shB at hq
    simp only [Bool.or_eq_true] at hq
    rcases hq with hq | hq
    · unfold rdB at hq; obtain ⟨rfl, ⟨h1, h2⟩, rfl⟩ := of_decide_eq_true hq
      cases h0 : inB 2560000 x y with
      | false => exact sShHas_r1 g x y u v w h1 h2 h0
      | true =>
        cases h9 : inB 2560000 u v with
        | false => exact sShHas_r2 g x y u v w h1 h2 h0 h9
        | true => exact sShHas_rt g x y u v w h1 h2 h0 h9
    · unfold bxB at hq; obtain ⟨rfl, ⟨h1, h2⟩, h3, h4⟩ := of_decide_eq_true hq
      cases h0 : inB 2560000 x y with
      | false => exact sShHas_b1 g h x y u v w h1 h2 h3 h4 h0
      | true =>
        cases h9 : inB 2560000 u v with
        | false => exact sShHas_b2 g h x y u v w h1 h2 h3 h4 h0 h9
        | true => exact sShHas_bt g h x y u v w h1 h2 h3 h4 h0 h9

end Go.Proofs.Ytbaaidafgdhpeaa
