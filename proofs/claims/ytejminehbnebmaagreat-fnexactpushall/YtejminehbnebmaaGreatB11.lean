/- Bodies, by the specification. Lists of bodies, row by row: copies, one row replaced; speeds and sleep by the specification. Lists of bodies changed row by row: plain mathematics. A body of columns that is changed: its drive, its place, for how long it was quiet. -/
import Derived.Test.YtejminehbnebmaaGreatB3
import Derived.Test.YtejminehbnebmaaGreatB5
import Derived.Deep.RegionHeld3
import Derived.Deep.DeepCutAuto
import Derived.Test.YtejminehbnebmaaGreatB10
namespace Go.Proofs.YtejminehbnebmaaGreat
open Go.RowKit
set_option linter.unusedVariables false
set_option linter.unusedSimpArgs false

abbrev bodyW (V : Nat → Int) : Value := .agg #[.int .i64 (V 0), .int .i64 (V 1), .int .i64 (V 2), .int .i64 (V 3), .int .i64 (V 4), .int .i64 (V 5), .int .i64 (V 6), .int .i64 (V 7), .int .i64 (V 8), .int .i64 (V 9), .int .i64 (V 10), .int .i64 (V 11)]
theorem l1In_q (n l h : Int) (b : Bool) (w : World) (e : decide (l ≤ n ∧ n ≤ h) = b) :
    Calls Tryz.prog 26 #[.int .i64 n, .int .i64 l, .int .i64 h] w fun e w' => e = .returned (.bool b) ∧ Below w.heap.size w w' := by
  subst e; exact (l1In_any n l h w).mono fun e w' ⟨a, b⟩ => ⟨a, b ▸ Below.refl _ _⟩
theorem sShapeOk_q (k wd h : Int) (b : Bool) (w : World) (e : shB k wd h = b) :
    Calls Tryz.prog 42 #[s3 k wd h] w fun e w' => e = .returned (.bool b) ∧ Below w.heap.size w w' := by
  subst e; exact sShapeOk_any k wd h w
theorem l3Place_q (x y : Int) (b : Bool) (w : World) (e : inB 2560000 x y = b) :
    Calls Tryz.prog 43 #[vv x y] w fun e w' => e = .returned (.bool b) ∧ Below w.heap.size w w' := by
  subst e; exact l3Place_any x y w
set_option maxHeartbeats 1000000 in
theorem l6Drive_any (x y : Int) (w : World) :
    Calls Tryz.prog 44 #[vv x y] w fun e w' => e = .returned (.bool (inB 20000000 x y)) ∧ Below w.heap.size w w' := by
  have hset := cset_map
  go_enter Tryz.func44, Tryz.ntmps44
  go_wp2_with (go_at_call 26; refine (l1In_any _ _ _ _).mono ?_; rintro e w' ⟨rfl, rfl⟩)
  all_goals
    go_ret
    refine ⟨ret_bool ?_, bel_a⟩
    unfold inB
    first | (simp [*]; done) | (simp at *; omega) | (simp [*]; omega)
theorem l6Drive_q (x y : Int) (b : Bool) (w : World) (e : inB 20000000 x y = b) :
    Calls Tryz.prog 44 #[vv x y] w fun e w' => e = .returned (.bool b) ∧ Below w.heap.size w w' := by
  subst e; exact l6Drive_any x y w

set_option maxRecDepth 20000 in
set_option maxHeartbeats 8000000 in
theorem sBodyOk_0 (V : Nat → Int) (w : World) (k0 : decide (0 ≤ V 0 ∧ V 0 ≤ 999999999) = false) :
    Calls Tryz.prog 25 #[bodyW V] w fun e w' => e = .returned (.bool false) ∧ Below w.heap.size w w' := by
  have hset := cset_map
  go_enter Tryz.func25, Tryz.ntmps25
  go_wp2_with (first
      | (go_at_call 26; refine (l1In_q _ _ _ _ _ (by with_reducible assumption)).mono ?_; rintro e w1 ⟨rfl, hb1⟩; obtain ⟨hc1, hf1⟩ := bcell hb1; have hz1 := hb1.size; (try simp only [World.size_drew, World.size_alloc, World.size_setCell] at hc1 hf1 hz1); obtain ⟨hk1x0, hj1x0, hq1x0⟩ := kfa hb1 (w.heap.size); clear hc1 hf1)
      | (go_at_call 42; refine (sShapeOk_q _ _ _ _ _ (by with_reducible assumption)).mono ?_; rintro e w2 ⟨rfl, hb2⟩; obtain ⟨hc2, hf2⟩ := bcell hb2; have hz2 := hb2.size; (try simp only [World.size_drew, World.size_alloc, World.size_setCell] at hc2 hf2 hz2); obtain ⟨hk2x0, hj2x0, hq2x0⟩ := kfa hb2 (w.heap.size); clear hc2 hf2)
      | (go_at_call 43; refine (l3Place_q _ _ _ _ (by with_reducible assumption)).mono ?_; rintro e w3 ⟨rfl, hb3⟩; obtain ⟨hc3, hf3⟩ := bcell hb3; have hz3 := hb3.size; (try simp only [World.size_drew, World.size_alloc, World.size_setCell] at hc3 hf3 hz3); obtain ⟨hk3x0, hj3x0, hq3x0⟩ := kfa hb3 (w.heap.size); clear hc3 hf3)
      | (go_at_call 44; refine (l6Drive_q _ _ _ _ (by with_reducible assumption)).mono ?_; rintro e w4 ⟨rfl, hb4⟩; obtain ⟨hc4, hf4⟩ := bcell hb4; have hz4 := hb4.size; (try simp only [World.size_drew, World.size_alloc, World.size_setCell] at hc4 hf4 hz4); obtain ⟨hk4x0, hj4x0, hq4x0⟩ := kfa hb4 (w.heap.size); clear hc4 hf4))
  go_ret
  exact ⟨rfl, bel_a⟩

set_option maxRecDepth 20000 in
set_option maxHeartbeats 8000000 in
theorem sBodyOk_1 (V : Nat → Int) (w : World) (k0 : decide (0 ≤ V 0 ∧ V 0 ≤ 999999999) = true) (k1 : shB (V 1) (V 2) (V 3) = false) :
    Calls Tryz.prog 25 #[bodyW V] w fun e w' => e = .returned (.bool false) ∧ Below w.heap.size w w' := by
  have hset := cset_map
  go_enter Tryz.func25, Tryz.ntmps25
  go_wp2_with (first
      | (go_at_call 26; refine (l1In_q _ _ _ _ _ (by with_reducible assumption)).mono ?_; rintro e w1 ⟨rfl, hb1⟩; obtain ⟨hc1, hf1⟩ := bcell hb1; have hz1 := hb1.size; (try simp only [World.size_drew, World.size_alloc, World.size_setCell] at hc1 hf1 hz1); obtain ⟨hk1x0, hj1x0, hq1x0⟩ := kfa hb1 (w.heap.size); clear hc1 hf1)
      | (go_at_call 42; refine (sShapeOk_q _ _ _ _ _ (by with_reducible assumption)).mono ?_; rintro e w2 ⟨rfl, hb2⟩; obtain ⟨hc2, hf2⟩ := bcell hb2; have hz2 := hb2.size; (try simp only [World.size_drew, World.size_alloc, World.size_setCell] at hc2 hf2 hz2); obtain ⟨hk2x0, hj2x0, hq2x0⟩ := kfa hb2 (w.heap.size); clear hc2 hf2)
      | (go_at_call 43; refine (l3Place_q _ _ _ _ (by with_reducible assumption)).mono ?_; rintro e w3 ⟨rfl, hb3⟩; obtain ⟨hc3, hf3⟩ := bcell hb3; have hz3 := hb3.size; (try simp only [World.size_drew, World.size_alloc, World.size_setCell] at hc3 hf3 hz3); obtain ⟨hk3x0, hj3x0, hq3x0⟩ := kfa hb3 (w.heap.size); clear hc3 hf3)
      | (go_at_call 44; refine (l6Drive_q _ _ _ _ (by with_reducible assumption)).mono ?_; rintro e w4 ⟨rfl, hb4⟩; obtain ⟨hc4, hf4⟩ := bcell hb4; have hz4 := hb4.size; (try simp only [World.size_drew, World.size_alloc, World.size_setCell] at hc4 hf4 hz4); obtain ⟨hk4x0, hj4x0, hq4x0⟩ := kfa hb4 (w.heap.size); clear hc4 hf4))
  go_ret
  exact ⟨rfl, bel_a⟩

set_option maxRecDepth 20000 in
set_option maxHeartbeats 8000000 in
theorem sBodyOk_2 (V : Nat → Int) (w : World) (k0 : decide (0 ≤ V 0 ∧ V 0 ≤ 999999999) = true) (k1 : shB (V 1) (V 2) (V 3) = true) (k2 : inB 2560000 (V 4) (V 5) = false) :
    Calls Tryz.prog 25 #[bodyW V] w fun e w' => e = .returned (.bool false) ∧ Below w.heap.size w w' := by
  have hset := cset_map
  go_enter Tryz.func25, Tryz.ntmps25
  go_wp2_with (first
      | (go_at_call 26; refine (l1In_q _ _ _ _ _ (by with_reducible assumption)).mono ?_; rintro e w1 ⟨rfl, hb1⟩; obtain ⟨hc1, hf1⟩ := bcell hb1; have hz1 := hb1.size; (try simp only [World.size_drew, World.size_alloc, World.size_setCell] at hc1 hf1 hz1); obtain ⟨hk1x0, hj1x0, hq1x0⟩ := kfa hb1 (w.heap.size); clear hc1 hf1)
      | (go_at_call 42; refine (sShapeOk_q _ _ _ _ _ (by with_reducible assumption)).mono ?_; rintro e w2 ⟨rfl, hb2⟩; obtain ⟨hc2, hf2⟩ := bcell hb2; have hz2 := hb2.size; (try simp only [World.size_drew, World.size_alloc, World.size_setCell] at hc2 hf2 hz2); obtain ⟨hk2x0, hj2x0, hq2x0⟩ := kfa hb2 (w.heap.size); clear hc2 hf2)
      | (go_at_call 43; refine (l3Place_q _ _ _ _ (by with_reducible assumption)).mono ?_; rintro e w3 ⟨rfl, hb3⟩; obtain ⟨hc3, hf3⟩ := bcell hb3; have hz3 := hb3.size; (try simp only [World.size_drew, World.size_alloc, World.size_setCell] at hc3 hf3 hz3); obtain ⟨hk3x0, hj3x0, hq3x0⟩ := kfa hb3 (w.heap.size); clear hc3 hf3)
      | (go_at_call 44; refine (l6Drive_q _ _ _ _ (by with_reducible assumption)).mono ?_; rintro e w4 ⟨rfl, hb4⟩; obtain ⟨hc4, hf4⟩ := bcell hb4; have hz4 := hb4.size; (try simp only [World.size_drew, World.size_alloc, World.size_setCell] at hc4 hf4 hz4); obtain ⟨hk4x0, hj4x0, hq4x0⟩ := kfa hb4 (w.heap.size); clear hc4 hf4))
  go_ret
  exact ⟨rfl, bel_a⟩

set_option maxRecDepth 20000 in
set_option maxHeartbeats 8000000 in
theorem sBodyOk_3 (V : Nat → Int) (w : World) (k0 : decide (0 ≤ V 0 ∧ V 0 ≤ 999999999) = true) (k1 : shB (V 1) (V 2) (V 3) = true) (k2 : inB 2560000 (V 4) (V 5) = true) (k3 : inB 20000000 (V 6) (V 7) = false) :
    Calls Tryz.prog 25 #[bodyW V] w fun e w' => e = .returned (.bool false) ∧ Below w.heap.size w w' := by
  have hset := cset_map
  go_enter Tryz.func25, Tryz.ntmps25
  go_wp2_with (first
      | (go_at_call 26; refine (l1In_q _ _ _ _ _ (by with_reducible assumption)).mono ?_; rintro e w1 ⟨rfl, hb1⟩; obtain ⟨hc1, hf1⟩ := bcell hb1; have hz1 := hb1.size; (try simp only [World.size_drew, World.size_alloc, World.size_setCell] at hc1 hf1 hz1); obtain ⟨hk1x0, hj1x0, hq1x0⟩ := kfa hb1 (w.heap.size); clear hc1 hf1)
      | (go_at_call 42; refine (sShapeOk_q _ _ _ _ _ (by with_reducible assumption)).mono ?_; rintro e w2 ⟨rfl, hb2⟩; obtain ⟨hc2, hf2⟩ := bcell hb2; have hz2 := hb2.size; (try simp only [World.size_drew, World.size_alloc, World.size_setCell] at hc2 hf2 hz2); obtain ⟨hk2x0, hj2x0, hq2x0⟩ := kfa hb2 (w.heap.size); clear hc2 hf2)
      | (go_at_call 43; refine (l3Place_q _ _ _ _ (by with_reducible assumption)).mono ?_; rintro e w3 ⟨rfl, hb3⟩; obtain ⟨hc3, hf3⟩ := bcell hb3; have hz3 := hb3.size; (try simp only [World.size_drew, World.size_alloc, World.size_setCell] at hc3 hf3 hz3); obtain ⟨hk3x0, hj3x0, hq3x0⟩ := kfa hb3 (w.heap.size); clear hc3 hf3)
      | (go_at_call 44; refine (l6Drive_q _ _ _ _ (by with_reducible assumption)).mono ?_; rintro e w4 ⟨rfl, hb4⟩; obtain ⟨hc4, hf4⟩ := bcell hb4; have hz4 := hb4.size; (try simp only [World.size_drew, World.size_alloc, World.size_setCell] at hc4 hf4 hz4); obtain ⟨hk4x0, hj4x0, hq4x0⟩ := kfa hb4 (w.heap.size); clear hc4 hf4))
  go_ret
  exact ⟨rfl, bel_a⟩

set_option maxRecDepth 20000 in
set_option maxHeartbeats 8000000 in
theorem sBodyOk_4 (V : Nat → Int) (w : World) (k0 : decide (0 ≤ V 0 ∧ V 0 ≤ 999999999) = true) (k1 : shB (V 1) (V 2) (V 3) = true) (k2 : inB 2560000 (V 4) (V 5) = true) (k3 : inB 20000000 (V 6) (V 7) = true) (k4 : decide (0 ≤ V 8 ∧ V 8 ≤ 1000) = false) :
    Calls Tryz.prog 25 #[bodyW V] w fun e w' => e = .returned (.bool false) ∧ Below w.heap.size w w' := by
  have hset := cset_map
  go_enter Tryz.func25, Tryz.ntmps25
  go_wp2_with (first
      | (go_at_call 26; refine (l1In_q _ _ _ _ _ (by with_reducible assumption)).mono ?_; rintro e w1 ⟨rfl, hb1⟩; obtain ⟨hc1, hf1⟩ := bcell hb1; have hz1 := hb1.size; (try simp only [World.size_drew, World.size_alloc, World.size_setCell] at hc1 hf1 hz1); obtain ⟨hk1x0, hj1x0, hq1x0⟩ := kfa hb1 (w.heap.size); clear hc1 hf1)
      | (go_at_call 42; refine (sShapeOk_q _ _ _ _ _ (by with_reducible assumption)).mono ?_; rintro e w2 ⟨rfl, hb2⟩; obtain ⟨hc2, hf2⟩ := bcell hb2; have hz2 := hb2.size; (try simp only [World.size_drew, World.size_alloc, World.size_setCell] at hc2 hf2 hz2); obtain ⟨hk2x0, hj2x0, hq2x0⟩ := kfa hb2 (w.heap.size); clear hc2 hf2)
      | (go_at_call 43; refine (l3Place_q _ _ _ _ (by with_reducible assumption)).mono ?_; rintro e w3 ⟨rfl, hb3⟩; obtain ⟨hc3, hf3⟩ := bcell hb3; have hz3 := hb3.size; (try simp only [World.size_drew, World.size_alloc, World.size_setCell] at hc3 hf3 hz3); obtain ⟨hk3x0, hj3x0, hq3x0⟩ := kfa hb3 (w.heap.size); clear hc3 hf3)
      | (go_at_call 44; refine (l6Drive_q _ _ _ _ (by with_reducible assumption)).mono ?_; rintro e w4 ⟨rfl, hb4⟩; obtain ⟨hc4, hf4⟩ := bcell hb4; have hz4 := hb4.size; (try simp only [World.size_drew, World.size_alloc, World.size_setCell] at hc4 hf4 hz4); obtain ⟨hk4x0, hj4x0, hq4x0⟩ := kfa hb4 (w.heap.size); clear hc4 hf4))
  go_ret
  exact ⟨rfl, bel_a⟩

set_option maxRecDepth 20000 in
set_option maxHeartbeats 8000000 in
theorem sBodyOk_5 (V : Nat → Int) (w : World) (k0 : decide (0 ≤ V 0 ∧ V 0 ≤ 999999999) = true) (k1 : shB (V 1) (V 2) (V 3) = true) (k2 : inB 2560000 (V 4) (V 5) = true) (k3 : inB 20000000 (V 6) (V 7) = true) (k4 : decide (0 ≤ V 8 ∧ V 8 ≤ 1000) = true) (k5 : decide (0 ≤ V 9 ∧ V 9 ≤ 256) = false) :
    Calls Tryz.prog 25 #[bodyW V] w fun e w' => e = .returned (.bool false) ∧ Below w.heap.size w w' := by
  have hset := cset_map
  go_enter Tryz.func25, Tryz.ntmps25
  go_wp2_with (first
      | (go_at_call 26; refine (l1In_q _ _ _ _ _ (by with_reducible assumption)).mono ?_; rintro e w1 ⟨rfl, hb1⟩; obtain ⟨hc1, hf1⟩ := bcell hb1; have hz1 := hb1.size; (try simp only [World.size_drew, World.size_alloc, World.size_setCell] at hc1 hf1 hz1); obtain ⟨hk1x0, hj1x0, hq1x0⟩ := kfa hb1 (w.heap.size); clear hc1 hf1)
      | (go_at_call 42; refine (sShapeOk_q _ _ _ _ _ (by with_reducible assumption)).mono ?_; rintro e w2 ⟨rfl, hb2⟩; obtain ⟨hc2, hf2⟩ := bcell hb2; have hz2 := hb2.size; (try simp only [World.size_drew, World.size_alloc, World.size_setCell] at hc2 hf2 hz2); obtain ⟨hk2x0, hj2x0, hq2x0⟩ := kfa hb2 (w.heap.size); clear hc2 hf2)
      | (go_at_call 43; refine (l3Place_q _ _ _ _ (by with_reducible assumption)).mono ?_; rintro e w3 ⟨rfl, hb3⟩; obtain ⟨hc3, hf3⟩ := bcell hb3; have hz3 := hb3.size; (try simp only [World.size_drew, World.size_alloc, World.size_setCell] at hc3 hf3 hz3); obtain ⟨hk3x0, hj3x0, hq3x0⟩ := kfa hb3 (w.heap.size); clear hc3 hf3)
      | (go_at_call 44; refine (l6Drive_q _ _ _ _ (by with_reducible assumption)).mono ?_; rintro e w4 ⟨rfl, hb4⟩; obtain ⟨hc4, hf4⟩ := bcell hb4; have hz4 := hb4.size; (try simp only [World.size_drew, World.size_alloc, World.size_setCell] at hc4 hf4 hz4); obtain ⟨hk4x0, hj4x0, hq4x0⟩ := kfa hb4 (w.heap.size); clear hc4 hf4))
  go_ret
  exact ⟨rfl, bel_a⟩

set_option maxRecDepth 20000 in
set_option maxHeartbeats 8000000 in
theorem sBodyOk_6 (V : Nat → Int) (w : World) (k0 : decide (0 ≤ V 0 ∧ V 0 ≤ 999999999) = true) (k1 : shB (V 1) (V 2) (V 3) = true) (k2 : inB 2560000 (V 4) (V 5) = true) (k3 : inB 20000000 (V 6) (V 7) = true) (k4 : decide (0 ≤ V 8 ∧ V 8 ≤ 1000) = true) (k5 : decide (0 ≤ V 9 ∧ V 9 ≤ 256) = true) (k6 : decide (0 ≤ V 10 ∧ V 10 ≤ 256) = false) :
    Calls Tryz.prog 25 #[bodyW V] w fun e w' => e = .returned (.bool false) ∧ Below w.heap.size w w' := by
  have hset := cset_map
  go_enter Tryz.func25, Tryz.ntmps25
  go_wp2_with (first
      | (go_at_call 26; refine (l1In_q _ _ _ _ _ (by with_reducible assumption)).mono ?_; rintro e w1 ⟨rfl, hb1⟩; obtain ⟨hc1, hf1⟩ := bcell hb1; have hz1 := hb1.size; (try simp only [World.size_drew, World.size_alloc, World.size_setCell] at hc1 hf1 hz1); obtain ⟨hk1x0, hj1x0, hq1x0⟩ := kfa hb1 (w.heap.size); clear hc1 hf1)
      | (go_at_call 42; refine (sShapeOk_q _ _ _ _ _ (by with_reducible assumption)).mono ?_; rintro e w2 ⟨rfl, hb2⟩; obtain ⟨hc2, hf2⟩ := bcell hb2; have hz2 := hb2.size; (try simp only [World.size_drew, World.size_alloc, World.size_setCell] at hc2 hf2 hz2); obtain ⟨hk2x0, hj2x0, hq2x0⟩ := kfa hb2 (w.heap.size); clear hc2 hf2)
      | (go_at_call 43; refine (l3Place_q _ _ _ _ (by with_reducible assumption)).mono ?_; rintro e w3 ⟨rfl, hb3⟩; obtain ⟨hc3, hf3⟩ := bcell hb3; have hz3 := hb3.size; (try simp only [World.size_drew, World.size_alloc, World.size_setCell] at hc3 hf3 hz3); obtain ⟨hk3x0, hj3x0, hq3x0⟩ := kfa hb3 (w.heap.size); clear hc3 hf3)
      | (go_at_call 44; refine (l6Drive_q _ _ _ _ (by with_reducible assumption)).mono ?_; rintro e w4 ⟨rfl, hb4⟩; obtain ⟨hc4, hf4⟩ := bcell hb4; have hz4 := hb4.size; (try simp only [World.size_drew, World.size_alloc, World.size_setCell] at hc4 hf4 hz4); obtain ⟨hk4x0, hj4x0, hq4x0⟩ := kfa hb4 (w.heap.size); clear hc4 hf4))
  go_ret
  exact ⟨rfl, bel_a⟩

set_option maxRecDepth 20000 in
set_option maxHeartbeats 8000000 in
theorem sBodyOk_7 (V : Nat → Int) (w : World) (k0 : decide (0 ≤ V 0 ∧ V 0 ≤ 999999999) = true) (k1 : shB (V 1) (V 2) (V 3) = true) (k2 : inB 2560000 (V 4) (V 5) = true) (k3 : inB 20000000 (V 6) (V 7) = true) (k4 : decide (0 ≤ V 8 ∧ V 8 ≤ 1000) = true) (k5 : decide (0 ≤ V 9 ∧ V 9 ≤ 256) = true) (k6 : decide (0 ≤ V 10 ∧ V 10 ≤ 256) = true) (k7 : decide (0 ≤ V 11 ∧ V 11 ≤ 8) = false) :
    Calls Tryz.prog 25 #[bodyW V] w fun e w' => e = .returned (.bool false) ∧ Below w.heap.size w w' := by
  have hset := cset_map
  go_enter Tryz.func25, Tryz.ntmps25
  go_wp2_with (first
      | (go_at_call 26; refine (l1In_q _ _ _ _ _ (by with_reducible assumption)).mono ?_; rintro e w1 ⟨rfl, hb1⟩; obtain ⟨hc1, hf1⟩ := bcell hb1; have hz1 := hb1.size; (try simp only [World.size_drew, World.size_alloc, World.size_setCell] at hc1 hf1 hz1); obtain ⟨hk1x0, hj1x0, hq1x0⟩ := kfa hb1 (w.heap.size); clear hc1 hf1)
      | (go_at_call 42; refine (sShapeOk_q _ _ _ _ _ (by with_reducible assumption)).mono ?_; rintro e w2 ⟨rfl, hb2⟩; obtain ⟨hc2, hf2⟩ := bcell hb2; have hz2 := hb2.size; (try simp only [World.size_drew, World.size_alloc, World.size_setCell] at hc2 hf2 hz2); obtain ⟨hk2x0, hj2x0, hq2x0⟩ := kfa hb2 (w.heap.size); clear hc2 hf2)
      | (go_at_call 43; refine (l3Place_q _ _ _ _ (by with_reducible assumption)).mono ?_; rintro e w3 ⟨rfl, hb3⟩; obtain ⟨hc3, hf3⟩ := bcell hb3; have hz3 := hb3.size; (try simp only [World.size_drew, World.size_alloc, World.size_setCell] at hc3 hf3 hz3); obtain ⟨hk3x0, hj3x0, hq3x0⟩ := kfa hb3 (w.heap.size); clear hc3 hf3)
      | (go_at_call 44; refine (l6Drive_q _ _ _ _ (by with_reducible assumption)).mono ?_; rintro e w4 ⟨rfl, hb4⟩; obtain ⟨hc4, hf4⟩ := bcell hb4; have hz4 := hb4.size; (try simp only [World.size_drew, World.size_alloc, World.size_setCell] at hc4 hf4 hz4); obtain ⟨hk4x0, hj4x0, hq4x0⟩ := kfa hb4 (w.heap.size); clear hc4 hf4))
  go_ret
  exact ⟨rfl, bel_a⟩

set_option maxRecDepth 20000 in
set_option maxHeartbeats 8000000 in
theorem sBodyOk_8 (V : Nat → Int) (w : World) (k0 : decide (0 ≤ V 0 ∧ V 0 ≤ 999999999) = true) (k1 : shB (V 1) (V 2) (V 3) = true) (k2 : inB 2560000 (V 4) (V 5) = true) (k3 : inB 20000000 (V 6) (V 7) = true) (k4 : decide (0 ≤ V 8 ∧ V 8 ≤ 1000) = true) (k5 : decide (0 ≤ V 9 ∧ V 9 ≤ 256) = true) (k6 : decide (0 ≤ V 10 ∧ V 10 ≤ 256) = true) (k7 : decide (0 ≤ V 11 ∧ V 11 ≤ 8) = true) :
    Calls Tryz.prog 25 #[bodyW V] w fun e w' => e = .returned (.bool (restB V)) ∧ Below w.heap.size w w' := by
  have hset := cset_map
  have k7' := k7
  simp only [decide_eq_true_eq] at k7'
  obtain ⟨k70, k71⟩ := k7'
  unfold restB
  go_enter Tryz.func25, Tryz.ntmps25
  go_upto_region 3 with (first
      | (go_at_call 26; refine (l1In_q _ _ _ _ _ (by with_reducible assumption)).mono ?_; rintro e w1 ⟨rfl, hb1⟩; obtain ⟨hc1, hf1⟩ := bcell hb1; have hz1 := hb1.size; (try simp only [World.size_drew, World.size_alloc, World.size_setCell] at hc1 hf1 hz1); obtain ⟨hk1x0, hj1x0, hq1x0⟩ := kfa hb1 (w.heap.size); clear hc1 hf1)
      | (go_at_call 42; refine (sShapeOk_q _ _ _ _ _ (by with_reducible assumption)).mono ?_; rintro e w2 ⟨rfl, hb2⟩; obtain ⟨hc2, hf2⟩ := bcell hb2; have hz2 := hb2.size; (try simp only [World.size_drew, World.size_alloc, World.size_setCell] at hc2 hf2 hz2); obtain ⟨hk2x0, hj2x0, hq2x0⟩ := kfa hb2 (w.heap.size); clear hc2 hf2)
      | (go_at_call 43; refine (l3Place_q _ _ _ _ (by with_reducible assumption)).mono ?_; rintro e w3 ⟨rfl, hb3⟩; obtain ⟨hc3, hf3⟩ := bcell hb3; have hz3 := hb3.size; (try simp only [World.size_drew, World.size_alloc, World.size_setCell] at hc3 hf3 hz3); obtain ⟨hk3x0, hj3x0, hq3x0⟩ := kfa hb3 (w.heap.size); clear hc3 hf3)
      | (go_at_call 44; refine (l6Drive_q _ _ _ _ (by with_reducible assumption)).mono ?_; rintro e w4 ⟨rfl, hb4⟩; obtain ⟨hc4, hf4⟩ := bcell hb4; have hz4 := hb4.size; (try simp only [World.size_drew, World.size_alloc, World.size_setCell] at hc4 hf4 hz4); obtain ⟨hk4x0, hj4x0, hq4x0⟩ := kfa hb4 (w.heap.size); clear hc4 hf4))
  clear k0 k1 k2 k3 k4 k5 k6 k7
  by_cases f8 : V 8 = 0 <;> by_cases f11 : V 11 = 0 <;> by_cases f88 : V 11 < 8 <;> by_cases f6 : V 6 = 0 <;> by_cases f7 : V 7 = 0
  all_goals (try (exfalso; omega))
  all_goals
    have f9 : (V 11 = 8) = (¬ V 11 < 8) := propext (by omega)
    go_wp2_with fail
    all_goals
      go_ret
      exact ⟨ret_bool (by simp [*]), bel_a⟩

theorem sBodyOk_q (V : Nat → Int) (b : Bool) (w : World) (e : bodyB V = b) :
    Calls Tryz.prog 25 #[bodyW V] w fun e w' => e = .returned (.bool b) ∧ Below w.heap.size w w' := by
  subst e
  unfold bodyB
  cases k0 : decide (0 ≤ V 0 ∧ V 0 ≤ 999999999) with
  | false => exact sBodyOk_0 V w k0
  | true =>
    cases k1 : shB (V 1) (V 2) (V 3) with
    | false => exact sBodyOk_1 V w k0 k1
    | true =>
      cases k2 : inB 2560000 (V 4) (V 5) with
      | false => exact sBodyOk_2 V w k0 k1 k2
      | true =>
        cases k3 : inB 20000000 (V 6) (V 7) with
        | false => exact sBodyOk_3 V w k0 k1 k2 k3
        | true =>
          cases k4 : decide (0 ≤ V 8 ∧ V 8 ≤ 1000) with
          | false => exact sBodyOk_4 V w k0 k1 k2 k3 k4
          | true =>
            cases k5 : decide (0 ≤ V 9 ∧ V 9 ≤ 256) with
            | false => exact sBodyOk_5 V w k0 k1 k2 k3 k4 k5
            | true =>
              cases k6 : decide (0 ≤ V 10 ∧ V 10 ≤ 256) with
              | false => exact sBodyOk_6 V w k0 k1 k2 k3 k4 k5 k6
              | true =>
                cases k7 : decide (0 ≤ V 11 ∧ V 11 ≤ 8) with
                | false => exact sBodyOk_7 V w k0 k1 k2 k3 k4 k5 k6 k7
                | true =>
                  simp only [Bool.true_and]
                  exact sBodyOk_8 V w k0 k1 k2 k3 k4 k5 k6 k7

theorem bodyB_bd {V : Nat → Int} (h : bodyB V = true) : (0 ≤ V 8 ∧ V 8 ≤ 1000) ∧ (0 ≤ V 11 ∧ V 11 ≤ 8) ∧ (-2560000 ≤ V 4 ∧ V 4 ≤ 2560000) ∧ (-2560000 ≤ V 5 ∧ V 5 ≤ 2560000) ∧ (-20000000 ≤ V 6 ∧ V 6 ≤ 20000000) ∧ (-20000000 ≤ V 7 ∧ V 7 ≤ 20000000) ∧ (0 ≤ V 9 ∧ V 9 ≤ 256) ∧ (0 ≤ V 10 ∧ V 10 ≤ 256) ∧ shB (V 1) (V 2) (V 3) = true ∧ restB V = true := by
  unfold bodyB at h
  simp only [Bool.and_eq_true, decide_eq_true_eq] at h
  obtain ⟨a0, a1, a2, a3, a4, a5, a6, a7, a8⟩ := h
  obtain ⟨p1, p2⟩ := inB_of a2
  obtain ⟨q1, q2⟩ := inB_of a3
  exact ⟨a4, a7, p1, p2, q1, q2, a5, a6, a1, a8⟩
def spX (V : Nat → Int) : Int := if V 8 = 0 then 0 else (V 6).tdiv (V 8)
def spY (V : Nat → Int) : Int := if V 8 = 0 then 0 else (V 7).tdiv (V 8)
end Go.Proofs.YtejminehbnebmaaGreat
namespace Go.Proofs.YtejminehbnebmaaGreat
open Go.RowKit
set_option linter.unusedVariables false
set_option linter.unusedSimpArgs false
theorem OwnL.fresh0 (w : World) (base t k : Nat) (U : Nat → Int) (s : Nat) (e : w.heap.size = s) (h : base ≤ w.heap.size) : OwnL (w.alloc (.cells #[] t)) base t k (.slice (Option.some ⟨s, 0, none⟩) 0 0) 0 U := by
  subst e
  exact ⟨by simp [numL], .inr ⟨w.heap.size, 0, #[], rfl, h, Go.Deep.blk_alloc_new _ _, Nat.le_refl _, Nat.zero_le _, by simp, by simp [numL]⟩⟩
theorem OwnL.drewO {w : World} {base t k n : Nat} {v : Value} {U : Nat → Int} (h : OwnL w base t k v n U) : OwnL w.drew base t k v n U := World.ownsRow.drew h
theorem cat_0 (k : Nat) (X Y : Nat → Int) : ∀ q, cat (0 * k) X Y q = Y q := by intro q; simp [cat]
section
variable {P : Program} {ops : Array Oper} {o : Oper} {a : Act} {w : World} {Q : Exit → Act → World → Prop}
theorem wpList_app0 {rest : List Oper} (hgd : o.guard = none) (s x : Operand) (t : TypeId) (ho : o.op = .call { callee := .builtin .append, args := #[s, x], argTypes := #[t, t] })
    (base e k bytes : Nat) (z : Value) (ht : P.underlying t = some (.slice e)) (hinfo : (P.info? e).map (fun i => (i.zero, i.size, i.bytes)) = some (some z, k, bytes)) (hzs : z.cells.size = k) (hk : 0 < k)
    (v : Value) (U : Nat → Int) (hs : a.eval s = v) (h : OwnL w base e k v 0 U) (ad : Option Addr) (m c : Nat) (X : Nat → Int) (hxx : a.eval x = .slice ad m c) (hx : Flat w ad (m * k) X)
    (h63 : m ≤ maxLen) (hbytes : m * bytes ≤ 140737488355328) (hbase : base ≤ w.heap.size)
    (hK : ∀ a' c' w', OwnL w' base e k (.slice a' m c') m X → w.grownBy w' v.ownBlock → wpList P ops Q rest (a.put o.dst (.slice a' m c')) w') : wpList P ops Q (o :: rest) a w :=
  wpList_app hgd s x t ho base e k bytes z ht hinfo hzs hk v 0 U hs h ad m c X hxx hx (by rw [Nat.zero_add]; exact h63) (by rw [Nat.zero_add]; exact hbytes) hbase fun a' c' w' h1 h2 => by
    rw [Nat.zero_add] at h1 ⊢
    exact hK a' c' w' (h1.congr fun q _ => cat_0 k _ _ q) h2
theorem step_app0 {K : Act → World → Prop} {E : Prop} (hgd : o.guard = none) (s x : Operand) (t : TypeId) (ho : o.op = .call { callee := .builtin .append, args := #[s, x], argTypes := #[t, t] })
    (base e k bytes : Nat) (z : Value) (ht : P.underlying t = some (.slice e)) (hinfo : (P.info? e).map (fun i => (i.zero, i.size, i.bytes)) = some (some z, k, bytes)) (hzs : z.cells.size = k) (hk : 0 < k)
    (v : Value) (U : Nat → Int) (hs : a.eval s = v) (h : OwnL w base e k v 0 U) (ad : Option Addr) (m c : Nat) (X : Nat → Int) (hxx : a.eval x = .slice ad m c) (hx : Flat w ad (m * k) X)
    (h63 : m ≤ maxLen) (hbytes : m * bytes ≤ 140737488355328) (hbase : base ≤ w.heap.size)
    (hK : ∀ a' c' w', OwnL w' base e k (.slice a' m c') m X → w.grownBy w' v.ownBlock → K (a.put o.dst (.slice a' m c')) w') :
    if Region.wanted o (yielded ops a.tmps) = true then Oper.wp P o a w K Q else E :=
  step_app hgd s x t ho base e k bytes z ht hinfo hzs hk v 0 U hs h ad m c X hxx hx (by rw [Nat.zero_add]; exact h63) (by rw [Nat.zero_add]; exact hbytes) hbase fun a' c' w' h1 h2 => by
    rw [Nat.zero_add] at h1 ⊢
    exact hK a' c' w' (h1.congr fun q _ => cat_0 k _ _ q) h2
end
set_option maxRecDepth 20000 in
set_option maxHeartbeats 4000000 in
theorem l8Copy_any (a : Option Addr) (n c : Nat) (U : Nat → Int) (w : World) (h : Flat w a (n * 12) U) (hn : n ≤ 1048576) :
    Calls Tryz.prog 28 #[.slice a n c] w fun e w' => ∃ a1 c1, e = .returned (.slice a1 n c1) ∧ OutL w w' 43 12 a1 n c1 U := by
  have hset := cset_map
  have hE : Below w.heap.size w (w.alloc (.cells #[] 43)) := (Below.refl _ _).alloc (Nat.le_refl _) _
  have ho := OwnL.fresh0 w w.heap.size 43 12 (fun _ => 0) _ rfl (Nat.le_refl _)
  go_enter Tryz.func28, Tryz.ntmps28
  go_wp2_with (refine wpList_app0 rfl _ _ _ rfl w.heap.size 43 12 96 zcBody Tryz.underlying26 infoItBody rfl (by decide) _ (fun _ => 0) rfl ho _ n _ U rfl (h.below hE) (by unfold maxLen; omega) (by omega) (by simp) ?_; intro a1 c1 w1 ho1 hg1)
  go_ret
  exact ⟨_, _, rfl, hE.grown hg1 (by simp) (fun b e => (ho.lt b e).1), ho1⟩

/-- a list of which one thing was replaced -/
def putRow (U : Nat → Int) (p : Nat) (V : Nat → Int) : Nat → Int := fun q => if p * 12 ≤ q ∧ q < p * 12 + 12 then V (q - p * 12) else U q
theorem put12 {w4 : World} {base n g c p : Nat} {U : Nat → Int} (h : OwnL w4 base 43 12 (.slice (some ⟨g, 0, none⟩) n c) n U) (hp : p < n) (V : Nat → Int) :
    OwnL ((((((((((((w4.setCell ⟨g, p * 12, none⟩ (.int .i64 (V 0))).setCell ⟨g, p * 12 + 1, none⟩ (.int .i64 (V 1))).setCell ⟨g, p * 12 + 2, none⟩ (.int .i64 (V 2))).setCell ⟨g, p * 12 + 3, none⟩ (.int .i64 (V 3))).setCell ⟨g, p * 12 + 4, none⟩ (.int .i64 (V 4))).setCell ⟨g, p * 12 + 5, none⟩ (.int .i64 (V 5))).setCell ⟨g, p * 12 + 6, none⟩ (.int .i64 (V 6))).setCell ⟨g, p * 12 + 7, none⟩ (.int .i64 (V 7))).setCell ⟨g, p * 12 + 8, none⟩ (.int .i64 (V 8))).setCell ⟨g, p * 12 + 9, none⟩ (.int .i64 (V 9))).setCell ⟨g, p * 12 + 10, none⟩ (.int .i64 (V 10))).setCell ⟨g, p * 12 + 11, none⟩ (.int .i64 (V 11))) base 43 12 (.slice (some ⟨g, 0, none⟩) n c) n (putRow U p V) := by
  have q1 := h.setq (p * 12) (by omega) (V 0)
  have q2 := q1.setq (p * 12 + 1) (by omega) (V 1)
  have q3 := q2.setq (p * 12 + 2) (by omega) (V 2)
  have q4 := q3.setq (p * 12 + 3) (by omega) (V 3)
  have q5 := q4.setq (p * 12 + 4) (by omega) (V 4)
  have q6 := q5.setq (p * 12 + 5) (by omega) (V 5)
  have q7 := q6.setq (p * 12 + 6) (by omega) (V 6)
  have q8 := q7.setq (p * 12 + 7) (by omega) (V 7)
  have q9 := q8.setq (p * 12 + 8) (by omega) (V 8)
  have q10 := q9.setq (p * 12 + 9) (by omega) (V 9)
  have q11 := q10.setq (p * 12 + 10) (by omega) (V 10)
  have q12 := q11.setq (p * 12 + 11) (by omega) (V 11)
  refine q12.congr fun q _ => ?_
  unfold putRow
  by_cases e : p * 12 ≤ q ∧ q < p * 12 + 12
  · rw [if_pos e]
    obtain ⟨d, rfl⟩ : ∃ d, q = p * 12 + d := ⟨q - p * 12, by omega⟩
    rw [Nat.add_sub_cancel_left]
    rcases (show d = 0 ∨ d = 1 ∨ d = 2 ∨ d = 3 ∨ d = 4 ∨ d = 5 ∨ d = 6 ∨ d = 7 ∨ d = 8 ∨ d = 9 ∨ d = 10 ∨ d = 11 by omega) with rfl | rfl | rfl | rfl | rfl | rfl | rfl | rfl | rfl | rfl | rfl | rfl <;> simp
  · rw [if_neg e]
    repeat rw [if_neg (by omega)]
theorem putFr {w4 : World} {g p : Nat} (V : Nat → Int) : Fr (fun b => b = g) w4 ((((((((((((w4.setCell ⟨g, p * 12, none⟩ (.int .i64 (V 0))).setCell ⟨g, p * 12 + 1, none⟩ (.int .i64 (V 1))).setCell ⟨g, p * 12 + 2, none⟩ (.int .i64 (V 2))).setCell ⟨g, p * 12 + 3, none⟩ (.int .i64 (V 3))).setCell ⟨g, p * 12 + 4, none⟩ (.int .i64 (V 4))).setCell ⟨g, p * 12 + 5, none⟩ (.int .i64 (V 5))).setCell ⟨g, p * 12 + 6, none⟩ (.int .i64 (V 6))).setCell ⟨g, p * 12 + 7, none⟩ (.int .i64 (V 7))).setCell ⟨g, p * 12 + 8, none⟩ (.int .i64 (V 8))).setCell ⟨g, p * 12 + 9, none⟩ (.int .i64 (V 9))).setCell ⟨g, p * 12 + 10, none⟩ (.int .i64 (V 10))).setCell ⟨g, p * 12 + 11, none⟩ (.int .i64 (V 11))) :=
  (((((((((((((Fr.refl (fun b => b = g) w4).trans (Fr.setCell (X := fun b => b = g) rfl _)).trans (Fr.setCell (X := fun b => b = g) rfl _)).trans (Fr.setCell (X := fun b => b = g) rfl _)).trans (Fr.setCell (X := fun b => b = g) rfl _)).trans (Fr.setCell (X := fun b => b = g) rfl _)).trans (Fr.setCell (X := fun b => b = g) rfl _)).trans (Fr.setCell (X := fun b => b = g) rfl _)).trans (Fr.setCell (X := fun b => b = g) rfl _)).trans (Fr.setCell (X := fun b => b = g) rfl _)).trans (Fr.setCell (X := fun b => b = g) rfl _)).trans (Fr.setCell (X := fun b => b = g) rfl _)).trans (Fr.setCell (X := fun b => b = g) rfl _))
theorem OutL.on {w w1 w2 : World} {t k n c : Nat} {a : Option Addr} {R : Nat → Int} (h : OutL w w1 t k a n c R) (hb : Below w1.heap.size w1 w2) : OutL w w2 t k a n c R := ⟨h.bel.trans (hb.mono h.bel.size), h.own.below hb⟩
set_option maxHeartbeats 4000000 in
theorem l6Speed_any (V : Nat → Int) (w : World) (b6 : -20000000 ≤ V 6 ∧ V 6 ≤ 20000000) (b7 : -20000000 ≤ V 7 ∧ V 7 ≤ 20000000) :
    Calls Tryz.prog 70 #[bodyW V] w fun e w' => e = .returned (vv (spX V) (spY V)) ∧ Below w.heap.size w w' := by
  have t6 := tdiv_bd (x := V 6) (B := 20000000) (V 8) (by omega)
  have t7 := tdiv_bd (x := V 7) (B := 20000000) (V 8) (by omega)
  have e6 : IntKind.i64.wrap ((V 6).tdiv (V 8)) = (V 6).tdiv (V 8) := i64w (by omega)
  have e7 : IntKind.i64.wrap ((V 7).tdiv (V 8)) = (V 7).tdiv (V 8) := i64w (by omega)
  have hset := cset_map
  unfold spX spY
  by_cases m : V 8 = 0
  · rw [if_pos m, if_pos m]
    go_enter Tryz.func70, Tryz.ntmps70
    go_wp2_with fail
    exact bodyPost_ret (v := vv 0 0) (by simp [results, Tryz.results70, go_sem, *]) rfl ⟨rfl, bel_a⟩
  · rw [if_neg m, if_neg m]
    go_enter Tryz.func70, Tryz.ntmps70
    go_upto_region 3 with fail
    refine wp_region_held_drew (S := fun w' => w'.cell? ⟨w.heap.size, 0, none⟩ = some (.int .i64 (V 0)) ∧ w'.cell? ⟨w.heap.size, 1, none⟩ = some (.int .i64 (V 1)) ∧ w'.cell? ⟨w.heap.size, 2, none⟩ = some (.int .i64 (V 2)) ∧ w'.cell? ⟨w.heap.size, 3, none⟩ = some (.int .i64 (V 3)) ∧ w'.cell? ⟨w.heap.size, 4, none⟩ = some (.int .i64 (V 4)) ∧ w'.cell? ⟨w.heap.size, 5, none⟩ = some (.int .i64 (V 5)) ∧ w'.cell? ⟨w.heap.size, 6, none⟩ = some (.int .i64 (V 6)) ∧ w'.cell? ⟨w.heap.size, 7, none⟩ = some (.int .i64 (V 7)) ∧ w'.cell? ⟨w.heap.size, 8, none⟩ = some (.int .i64 (V 8)) ∧ w'.cell? ⟨w.heap.size, 9, none⟩ = some (.int .i64 (V 9)) ∧ w'.cell? ⟨w.heap.size, 10, none⟩ = some (.int .i64 (V 10)) ∧ w'.cell? ⟨w.heap.size, 11, none⟩ = some (.int .i64 (V 11))) (by kernel_rfl) ?_ (fun hHeld => ?_)
    · (try dsimp only)
      (first | (go_simp; done) | (go_keep; done))
    refine tq 0 hHeld ?_
    refine tq 1 hHeld ?_
    refine tq 2 hHeld ?_
    refine tq 3 hHeld ?_
    refine tq 4 hHeld ?_
    refine tq 5 hHeld ?_
    refine tq 6 hHeld ?_
    refine tq 7 hHeld ?_
    refine tq 8 hHeld ?_
    refine tq 9 hHeld ?_
    refine tq 10 hHeld ?_
    refine tq 11 hHeld ?_
    refine tq 12 hHeld ?_
    (refine tc 13 fun K hK => ?_; go_simp; refine tr hK (fun hHeld => ?_); clear hK K)
    refine wpAnyH_done (by kernel_rfl) ?_ _
    go_wp2_with fail
    exact bodyPost_ret (v := vv ((V 6).tdiv (V 8)) ((V 7).tdiv (V 8))) (by simp [results, Tryz.results70, go_sem, *]) rfl ⟨rfl, bel_a⟩

end Go.Proofs.YtejminehbnebmaaGreat
namespace Go.Proofs.YtejminehbnebmaaGreat
open Go.RowKit
set_option linter.unusedVariables false
set_option linter.unusedSimpArgs false
/-- the first k rows changed -/
def mapR (f : Nat → (Nat → Int) → Nat → Int) (U : Nat → Int) (k : Nat) : Nat → Int := fun q => if q < k * 12 then f (q / 12) (fun j => U (q / 12 * 12 + j)) (q % 12) else U q
theorem mapR_0 (f : Nat → (Nat → Int) → Nat → Int) (U : Nat → Int) : mapR f U 0 = U := by funext q; unfold mapR; rw [if_neg (by omega)]
theorem mapR_row (f : Nat → (Nat → Int) → Nat → Int) (U : Nat → Int) (k j : Nat) : mapR f U k (k * 12 + j) = U (k * 12 + j) := by unfold mapR; rw [if_neg (by omega)]
theorem mapR_in {f : Nat → (Nat → Int) → Nat → Int} {U : Nat → Int} {k n j : Nat} (h : k < n) (hj : j < 12) : mapR f U n (k * 12 + j) = f k (fun j => U (k * 12 + j)) j := by
  unfold mapR
  rw [if_pos (by omega), show (k * 12 + j) / 12 = k by omega, show (k * 12 + j) % 12 = j by omega]
theorem mapR_set (f : Nat → (Nat → Int) → Nat → Int) (U : Nat → Int) (k : Nat) : putRow (mapR f U k) k (f k (fun j => U (k * 12 + j))) = mapR f U (k + 1) := by
  funext q
  unfold putRow
  by_cases h : k * 12 ≤ q ∧ q < k * 12 + 12
  · rw [if_pos h]
    obtain ⟨d, rfl⟩ : ∃ d, q = k * 12 + d := ⟨q - k * 12, by omega⟩
    rw [mapR_in (by omega) (by omega), Nat.add_sub_cancel_left]
  · rw [if_neg h]
    unfold mapR
    by_cases l : q < k * 12
    · rw [if_pos l, if_pos (by omega)]
    · rw [if_neg l, if_neg (by omega)]
theorem mapR_same {f : Nat → (Nat → Int) → Nat → Int} {U : Nat → Int} {k : Nat} (h : ∀ j, j < 12 → f k (fun j => U (k * 12 + j)) j = U (k * 12 + j)) : mapR f U (k + 1) = mapR f U k := by
  rw [← mapR_set]
  funext q
  unfold putRow
  by_cases e : k * 12 ≤ q ∧ q < k * 12 + 12
  · rw [if_pos e]
    obtain ⟨d, rfl⟩ : ∃ d, q = k * 12 + d := ⟨q - k * 12, by omega⟩
    rw [Nat.add_sub_cancel_left, h d (by omega), mapR_row]
  · rw [if_neg e]
theorem mapR_one {f : Nat → (Nat → Int) → Nat → Int} {U : Nat → Int} {k j : Nat} {x : Int} (hj : j < 12) (h : ∀ i, i < 12 → f k (fun j => U (k * 12 + j)) i = if i = j then x else U (k * 12 + i)) : (fun r => if r = k * 12 + j then x else mapR f U k r) = mapR f U (k + 1) := by
  rw [← mapR_set]
  funext q
  unfold putRow
  by_cases e : k * 12 ≤ q ∧ q < k * 12 + 12
  · rw [if_pos e]
    obtain ⟨d, rfl⟩ : ∃ d, q = k * 12 + d := ⟨q - k * 12, by omega⟩
    rw [Nat.add_sub_cancel_left, h d (by omega), mapR_row]
    by_cases e2 : d = j
    · rw [if_pos e2, if_pos (by omega)]
    · rw [if_neg e2, if_neg (by omega)]
  · rw [if_neg e, if_neg (by omega)]
theorem bodyB_cong {V W : Nat → Int} (h : ∀ j, j < 12 → V j = W j) : bodyB V = bodyB W := by
  unfold bodyB restB
  simp only [h 0 (by omega), h 1 (by omega), h 2 (by omega), h 3 (by omega), h 4 (by omega), h 5 (by omega), h 6 (by omega), h 7 (by omega), h 8 (by omega), h 9 (by omega), h 10 (by omega), h 11 (by omega)]
/-- bodies that are ok, said row by row -/
structure Bods (n : Nat) (U : Nat → Int) : Prop where
  le : n ≤ 12
  ok : ∀ k, k < n → bodyB (fun j => U (k * 12 + j)) = true
  asc : ∀ k, k + 1 < n → U (k * 12) < U ((k + 1) * 12)
theorem Bods.of {n : Nat} {U : Nat → Int} (h : bodsB n U = true) : Bods n U := by
  unfold bodsB at h
  rw [Bool.and_eq_true] at h
  have key : ∀ m, allBB U m = true → ∀ k, k < m → stepBB U k = true := by
    intro m
    induction m with
    | zero => intro _ k l; omega
    | succ m ih =>
      intro hm k l
      unfold allBB at hm
      rw [Bool.and_eq_true] at hm
      by_cases e : k = m
      · subst e; exact hm.2
      · exact ih hm.1 k (by omega)
  refine ⟨of_decide_eq_true h.1, fun k hk => ?_, fun k hk => ?_⟩
  · have := key n h.2 k hk
    unfold stepBB at this
    rw [Bool.and_eq_true] at this
    exact this.1
  · have := key n h.2 (k + 1) hk
    unfold stepBB at this
    simp at this
    exact this.2
theorem Bods.to {n : Nat} {U : Nat → Int} (h : Bods n U) : bodsB n U = true := by
  have key : ∀ m, m ≤ n → allBB U m = true := by
    intro m
    induction m with
    | zero => intro _; rfl
    | succ m ih =>
      intro hm
      unfold allBB
      rw [ih (by omega), Bool.true_and]
      unfold stepBB
      rw [h.ok m (by omega), Bool.true_and]
      by_cases e : m = 0
      · simp [e]
      · obtain ⟨k, rfl⟩ : ∃ k, m = k + 1 := ⟨m - 1, by omega⟩
        have := h.asc k (by omega)
        simp
        exact this
  unfold bodsB
  rw [key n (Nat.le_refl _), decide_eq_true h.le]
  rfl
/-- rows changed, each still a body, its number kept -/
theorem Bods.map {n : Nat} {U : Nat → Int} {f : Nat → (Nat → Int) → Nat → Int} (h : Bods n U) (hf : ∀ k, k < n → bodyB (f k (fun j => U (k * 12 + j))) = true) (h0 : ∀ k, k < n → f k (fun j => U (k * 12 + j)) 0 = U (k * 12)) : Bods n (mapR f U n) := by
  refine ⟨h.le, fun k hk => ?_, fun k hk => ?_⟩
  · rw [bodyB_cong (W := f k (fun j => U (k * 12 + j))) (fun j hj => mapR_in hk hj)]; exact hf k hk
  · have e1 := mapR_in (f := f) (U := U) (k := k) (n := n) (j := 0) (by omega) (by omega)
    have e2 := mapR_in (f := f) (U := U) (k := k + 1) (n := n) (j := 0) hk (by omega)
    rw [Nat.add_zero] at e1 e2
    rw [e1, e2, h0 k (by omega), h0 (k + 1) hk]
    exact h.asc k hk
end Go.Proofs.YtejminehbnebmaaGreat
namespace Go.Proofs.YtejminehbnebmaaGreat
open Go.RowKit
set_option linter.unusedVariables false
set_option linter.unusedSimpArgs false

set_option maxHeartbeats 4000000 in
theorem kSetQuiet {cb n k : Nat} {C : Nat → Nat → Int} {S : Nat → Value} {w : World} (h : Cs w cb n C S) (hk : k < n) (hn : n ≤ 1048576) (y : Int) :
    Calls Tryz.prog 88 #[hdk cb k, .int .i64 y] w fun e w' => e = .returned (.tuple #[]) ∧ Cs w' cb n (setC C 11 k y) S ∧ Fr (Xc S) w w' := by
  have hset := cset_map
  have l1 := h.lt
  have hkn : (k : Int) < (n : Int) := by omega
  obtain ⟨g11, c11, e11, hc11, hv11, hf11, l11g, lc11⟩ := h.at (i := 11) (by omega) hk
  go_enter Tryz.func88, Tryz.ntmps88
  go_upto_region 1 with fail
  refine wp_region_held_drew (S := fun w' => w'.cell? ⟨w.heap.size, 0, none⟩ = some (.int .i64 (k : Int)) ∧ w'.cell? ⟨w.heap.size, 1, none⟩ = some (.pointer (some ⟨cb, 0, none⟩)) ∧ w'.cell? ⟨cb, 11, none⟩ = some (.slice (some ⟨g11, 0, none⟩) n c11)) (by kernel_rfl) ?_ (fun hHeld => ?_)
  · (try dsimp only)
    (first | (go_simp; done) | (go_keep; done))
  refine tq 0 hHeld ?_
  refine tq 1 hHeld ?_
  refine tq 2 hHeld ?_
  refine tq 3 hHeld ?_
  refine tq 4 hHeld ?_
  refine tq 5 hHeld ?_
  refine tq 6 hHeld ?_
  refine tq 7 hHeld ?_
  refine tq 8 hHeld ?_
  (refine tc 9 fun K hK => ?_; go_simp; refine tr hK (fun hHeld => ?_); clear hK K)
  refine wpAnyH_done (by kernel_rfl) ?_ _
  go_wp2_with fail
  go_end0
  have hE : Below (w.setCell ⟨g11, k, none⟩ (.int .i64 y)).heap.size (w.setCell ⟨g11, k, none⟩ (.int .i64 y)) ((w.setCell ⟨g11, k, none⟩ (.int .i64 y)).alloc (Obj.cells #[.int .i64 (k : Int), .pointer (some ⟨cb, 0, none⟩)] 86)).drew := bel_a
  exact ⟨rfl, (h.set (i := 11) (by omega) hk e11 y).below hE, ((Fr.refl (Xc S) w).trans (Fr.setCell (X := Xc S) (p := ⟨g11, k, none⟩) ⟨11, by omega, by rw [e11]; rfl⟩ (.int .i64 y))).trans (Fr.of_below hE)⟩

set_option maxHeartbeats 4000000 in
theorem kSetDrive {cb n k : Nat} {C : Nat → Nat → Int} {S : Nat → Value} {w : World} (h : Cs w cb n C S) (hk : k < n) (hn : n ≤ 1048576) (x y : Int) :
    Calls Tryz.prog 87 #[hdk cb k, vv x y] w fun e w' => e = .returned (.tuple #[]) ∧ Cs w' cb n (setC (setC C 6 k x) 7 k y) S ∧ Fr (Xc S) w w' := by
  have hset := cset_map
  have l1 := h.lt
  have hkn : (k : Int) < (n : Int) := by omega
  obtain ⟨g6, c6, e6, hc6, hv6, hf6, l6g, lc6⟩ := h.at (i := 6) (by omega) hk
  obtain ⟨g7, c7, e7, hc7, hv7, hf7, l7g, lc7⟩ := h.at (i := 7) (by omega) hk
  have ne : g6 ≠ g7 := fun q => h.dis 6 7 (by omega) (by omega) (by omega) g6 (by rw [e6]; rfl) (by rw [e7, q]; rfl)
  go_enter Tryz.func87, Tryz.ntmps87
  go_upto_region 1 with fail
  refine wp_region_held_drew (S := fun w' => w'.cell? ⟨w.heap.size, 0, none⟩ = some (.int .i64 (k : Int)) ∧ w'.cell? ⟨w.heap.size, 1, none⟩ = some (.pointer (some ⟨cb, 0, none⟩)) ∧ w'.cell? ⟨cb, 6, none⟩ = some (.slice (some ⟨g6, 0, none⟩) n c6) ∧ w'.cell? ⟨cb, 7, none⟩ = some (.slice (some ⟨g7, 0, none⟩) n c7) ∧ w'.cell? ⟨w.heap.size + 1, 0, none⟩ = some (.int .i64 x) ∧ w'.cell? ⟨w.heap.size + 1, 1, none⟩ = some (.int .i64 y)) (by kernel_rfl) ?_ (fun hHeld => ?_)
  · (try dsimp only)
    (first | (go_simp; done) | (go_keep; done))
  refine tq 0 hHeld ?_
  refine tq 1 hHeld ?_
  refine tq 2 hHeld ?_
  refine tq 3 hHeld ?_
  refine tq 4 hHeld ?_
  refine tq 5 hHeld ?_
  refine tq 6 hHeld ?_
  refine tq 7 hHeld ?_
  refine tq 8 hHeld ?_
  refine tq 9 hHeld ?_
  refine tq 10 hHeld ?_
  refine tq 11 hHeld ?_
  refine tq 12 hHeld ?_
  refine tq 13 hHeld ?_
  refine tq 14 hHeld ?_
  refine tq 15 hHeld ?_
  refine tq 16 hHeld ?_
  refine tq 17 hHeld ?_
  refine tq 18 hHeld ?_
  (refine tc 19 fun K hK => ?_; go_simp; refine tr hK (fun hHeld => ?_); clear hK K)
  refine tq 20 hHeld ?_
  (refine tc 21 fun K hK => ?_; go_simp; refine tr hK (fun hHeld => ?_); clear hK K)
  refine wpAnyH_done (by kernel_rfl) ?_ _
  go_wp2_with fail
  go_end0
  have hE : Below ((w.setCell ⟨g6, k, none⟩ (.int .i64 x)).setCell ⟨g7, k, none⟩ (.int .i64 y)).heap.size ((w.setCell ⟨g6, k, none⟩ (.int .i64 x)).setCell ⟨g7, k, none⟩ (.int .i64 y)) ((((w.setCell ⟨g6, k, none⟩ (.int .i64 x)).setCell ⟨g7, k, none⟩ (.int .i64 y)).alloc (Obj.cells #[.int .i64 (k : Int), .pointer (some ⟨cb, 0, none⟩)] 86)).alloc (Obj.cells #[.int .i64 x, .int .i64 y] 81)).drew := bel_a
  exact ⟨rfl, ((h.set (i := 6) (by omega) hk e6 x).set (i := 7) (by omega) hk e7 y).below hE, (((Fr.refl (Xc S) w).trans (Fr.setCell (X := Xc S) (p := ⟨g6, k, none⟩) ⟨6, by omega, by rw [e6]; rfl⟩ (.int .i64 x))).trans (Fr.setCell (X := Xc S) (p := ⟨g7, k, none⟩) ⟨7, by omega, by rw [e7]; rfl⟩ (.int .i64 y))).trans (Fr.of_below hE)⟩
end Go.Proofs.YtejminehbnebmaaGreat
