/- Bodies, by the specification. Lists of bodies, row by row: copies, one row replaced; speeds and sleep by the specification. Lists of bodies changed row by row: plain mathematics. A body of columns that is changed: its drive, its place, for how long it was quiet. A body of columns, handed out; one that is pushed. One body that was given, by its handle. BodyOk, BodySleeps and BodyPush, by the program. A body that is pushed, by the specification; two bodies that are the same. All that is awake is pulled down, by the specification. A body that came in, turned into the program's own. A body that moves by a way, by the specification. All that is awake moves, by the specification. Two bodies are moved apart, by the specification. For how many steps each body was quiet, by the specification. Each part of a step keeps bodies ok: plain mathematics. Bodies moved apart stay ok; all contacts, one behind the other. -/
import Derived.Test.YtlbpmmjckoaleaaGreatB3
import Derived.Deep.RegionHeld3
import Derived.Deep.DeepCutAuto
import Derived.Test.YtlbpmmjckoaleaaGreatB8
import Derived.Test.YtlbpmmjckoaleaaGreatB5
import Derived.Test.YtlbpmmjckoaleaaGreatB1
import Derived.Test.YtlbpmmjckoaleaaGreatB4
import Derived.Test.YtlbpmmjckoaleaaGreatB2
namespace Go.Proofs.YtlbpmmjckoaleaaGreat
open Go.RowKit
set_option linter.unusedVariables false
set_option linter.unusedSimpArgs false

abbrev bodyW (V : Nat → Int) : Value := .agg #[.int .i64 (V 0), .int .i64 (V 1), .int .i64 (V 2), .int .i64 (V 3), .int .i64 (V 4), .int .i64 (V 5), .int .i64 (V 6), .int .i64 (V 7), .int .i64 (V 8), .int .i64 (V 9), .int .i64 (V 10), .int .i64 (V 11)]
theorem l1In_q (n l h : Int) (b : Bool) (w : World) (e : decide (l ≤ n ∧ n ≤ h) = b) :
    Calls Tryz.prog 54 #[.int .i64 n, .int .i64 l, .int .i64 h] w fun e w' => e = .returned (.bool b) ∧ Below w.heap.size w w' := by
  subst e; exact (l1In_any n l h w).mono fun e w' ⟨a, b⟩ => ⟨a, b ▸ Below.refl _ _⟩
theorem sShapeOk_q (k wd h : Int) (b : Bool) (w : World) (e : shB k wd h = b) :
    Calls Tryz.prog 55 #[s3 k wd h] w fun e w' => e = .returned (.bool b) ∧ Below w.heap.size w w' := by
  subst e; exact sShapeOk_any k wd h w
theorem l3Place_q (x y : Int) (b : Bool) (w : World) (e : inB 2560000 x y = b) :
    Calls Tryz.prog 56 #[vv x y] w fun e w' => e = .returned (.bool b) ∧ Below w.heap.size w w' := by
  subst e; exact l3Place_any x y w
set_option maxHeartbeats 1000000 in
theorem l6Drive_any (x y : Int) (w : World) :
    Calls Tryz.prog 57 #[vv x y] w fun e w' => e = .returned (.bool (inB 20000000 x y)) ∧ Below w.heap.size w w' := by
  have hset := cset_map
  go_enter Tryz.func57, Tryz.ntmps57
  go_wp2_with (go_at_call 54; refine (l1In_any _ _ _ _).mono ?_; rintro e w' ⟨rfl, rfl⟩)
  all_goals
    go_ret
    refine ⟨ret_bool ?_, bel_a⟩
    unfold inB
    first | (simp [*]; done) | (simp at *; omega) | (simp [*]; omega)
theorem l6Drive_q (x y : Int) (b : Bool) (w : World) (e : inB 20000000 x y = b) :
    Calls Tryz.prog 57 #[vv x y] w fun e w' => e = .returned (.bool b) ∧ Below w.heap.size w w' := by
  subst e; exact l6Drive_any x y w

set_option maxRecDepth 20000 in
set_option maxHeartbeats 8000000 in
theorem sBodyOk_0 (V : Nat → Int) (w : World) (k0 : decide (0 ≤ V 0 ∧ V 0 ≤ 999999999) = false) :
    Calls Tryz.prog 35 #[bodyW V] w fun e w' => e = .returned (.bool false) ∧ Below w.heap.size w w' := by
  have hset := cset_map
  go_enter Tryz.func35, Tryz.ntmps35
  go_wp2_with (first
      | (go_at_call 54; refine (l1In_q _ _ _ _ _ (by with_reducible assumption)).mono ?_; rintro e w1 ⟨rfl, hb1⟩; obtain ⟨hc1, hf1⟩ := bcell hb1; have hz1 := hb1.size; (try simp only [World.size_drew, World.size_alloc, World.size_setCell] at hc1 hf1 hz1); obtain ⟨hk1x0, hj1x0, hq1x0⟩ := kfa hb1 (w.heap.size); clear hc1 hf1)
      | (go_at_call 55; refine (sShapeOk_q _ _ _ _ _ (by with_reducible assumption)).mono ?_; rintro e w2 ⟨rfl, hb2⟩; obtain ⟨hc2, hf2⟩ := bcell hb2; have hz2 := hb2.size; (try simp only [World.size_drew, World.size_alloc, World.size_setCell] at hc2 hf2 hz2); obtain ⟨hk2x0, hj2x0, hq2x0⟩ := kfa hb2 (w.heap.size); clear hc2 hf2)
      | (go_at_call 56; refine (l3Place_q _ _ _ _ (by with_reducible assumption)).mono ?_; rintro e w3 ⟨rfl, hb3⟩; obtain ⟨hc3, hf3⟩ := bcell hb3; have hz3 := hb3.size; (try simp only [World.size_drew, World.size_alloc, World.size_setCell] at hc3 hf3 hz3); obtain ⟨hk3x0, hj3x0, hq3x0⟩ := kfa hb3 (w.heap.size); clear hc3 hf3)
      | (go_at_call 57; refine (l6Drive_q _ _ _ _ (by with_reducible assumption)).mono ?_; rintro e w4 ⟨rfl, hb4⟩; obtain ⟨hc4, hf4⟩ := bcell hb4; have hz4 := hb4.size; (try simp only [World.size_drew, World.size_alloc, World.size_setCell] at hc4 hf4 hz4); obtain ⟨hk4x0, hj4x0, hq4x0⟩ := kfa hb4 (w.heap.size); clear hc4 hf4))
  go_ret
  exact ⟨rfl, bel_a⟩

set_option maxRecDepth 20000 in
set_option maxHeartbeats 8000000 in
theorem sBodyOk_1 (V : Nat → Int) (w : World) (k0 : decide (0 ≤ V 0 ∧ V 0 ≤ 999999999) = true) (k1 : shB (V 1) (V 2) (V 3) = false) :
    Calls Tryz.prog 35 #[bodyW V] w fun e w' => e = .returned (.bool false) ∧ Below w.heap.size w w' := by
  have hset := cset_map
  go_enter Tryz.func35, Tryz.ntmps35
  go_wp2_with (first
      | (go_at_call 54; refine (l1In_q _ _ _ _ _ (by with_reducible assumption)).mono ?_; rintro e w1 ⟨rfl, hb1⟩; obtain ⟨hc1, hf1⟩ := bcell hb1; have hz1 := hb1.size; (try simp only [World.size_drew, World.size_alloc, World.size_setCell] at hc1 hf1 hz1); obtain ⟨hk1x0, hj1x0, hq1x0⟩ := kfa hb1 (w.heap.size); clear hc1 hf1)
      | (go_at_call 55; refine (sShapeOk_q _ _ _ _ _ (by with_reducible assumption)).mono ?_; rintro e w2 ⟨rfl, hb2⟩; obtain ⟨hc2, hf2⟩ := bcell hb2; have hz2 := hb2.size; (try simp only [World.size_drew, World.size_alloc, World.size_setCell] at hc2 hf2 hz2); obtain ⟨hk2x0, hj2x0, hq2x0⟩ := kfa hb2 (w.heap.size); clear hc2 hf2)
      | (go_at_call 56; refine (l3Place_q _ _ _ _ (by with_reducible assumption)).mono ?_; rintro e w3 ⟨rfl, hb3⟩; obtain ⟨hc3, hf3⟩ := bcell hb3; have hz3 := hb3.size; (try simp only [World.size_drew, World.size_alloc, World.size_setCell] at hc3 hf3 hz3); obtain ⟨hk3x0, hj3x0, hq3x0⟩ := kfa hb3 (w.heap.size); clear hc3 hf3)
      | (go_at_call 57; refine (l6Drive_q _ _ _ _ (by with_reducible assumption)).mono ?_; rintro e w4 ⟨rfl, hb4⟩; obtain ⟨hc4, hf4⟩ := bcell hb4; have hz4 := hb4.size; (try simp only [World.size_drew, World.size_alloc, World.size_setCell] at hc4 hf4 hz4); obtain ⟨hk4x0, hj4x0, hq4x0⟩ := kfa hb4 (w.heap.size); clear hc4 hf4))
  go_ret
  exact ⟨rfl, bel_a⟩

set_option maxRecDepth 20000 in
set_option maxHeartbeats 8000000 in
theorem sBodyOk_2 (V : Nat → Int) (w : World) (k0 : decide (0 ≤ V 0 ∧ V 0 ≤ 999999999) = true) (k1 : shB (V 1) (V 2) (V 3) = true) (k2 : inB 2560000 (V 4) (V 5) = false) :
    Calls Tryz.prog 35 #[bodyW V] w fun e w' => e = .returned (.bool false) ∧ Below w.heap.size w w' := by
  have hset := cset_map
  go_enter Tryz.func35, Tryz.ntmps35
  go_wp2_with (first
      | (go_at_call 54; refine (l1In_q _ _ _ _ _ (by with_reducible assumption)).mono ?_; rintro e w1 ⟨rfl, hb1⟩; obtain ⟨hc1, hf1⟩ := bcell hb1; have hz1 := hb1.size; (try simp only [World.size_drew, World.size_alloc, World.size_setCell] at hc1 hf1 hz1); obtain ⟨hk1x0, hj1x0, hq1x0⟩ := kfa hb1 (w.heap.size); clear hc1 hf1)
      | (go_at_call 55; refine (sShapeOk_q _ _ _ _ _ (by with_reducible assumption)).mono ?_; rintro e w2 ⟨rfl, hb2⟩; obtain ⟨hc2, hf2⟩ := bcell hb2; have hz2 := hb2.size; (try simp only [World.size_drew, World.size_alloc, World.size_setCell] at hc2 hf2 hz2); obtain ⟨hk2x0, hj2x0, hq2x0⟩ := kfa hb2 (w.heap.size); clear hc2 hf2)
      | (go_at_call 56; refine (l3Place_q _ _ _ _ (by with_reducible assumption)).mono ?_; rintro e w3 ⟨rfl, hb3⟩; obtain ⟨hc3, hf3⟩ := bcell hb3; have hz3 := hb3.size; (try simp only [World.size_drew, World.size_alloc, World.size_setCell] at hc3 hf3 hz3); obtain ⟨hk3x0, hj3x0, hq3x0⟩ := kfa hb3 (w.heap.size); clear hc3 hf3)
      | (go_at_call 57; refine (l6Drive_q _ _ _ _ (by with_reducible assumption)).mono ?_; rintro e w4 ⟨rfl, hb4⟩; obtain ⟨hc4, hf4⟩ := bcell hb4; have hz4 := hb4.size; (try simp only [World.size_drew, World.size_alloc, World.size_setCell] at hc4 hf4 hz4); obtain ⟨hk4x0, hj4x0, hq4x0⟩ := kfa hb4 (w.heap.size); clear hc4 hf4))
  go_ret
  exact ⟨rfl, bel_a⟩

set_option maxRecDepth 20000 in
set_option maxHeartbeats 8000000 in
theorem sBodyOk_3 (V : Nat → Int) (w : World) (k0 : decide (0 ≤ V 0 ∧ V 0 ≤ 999999999) = true) (k1 : shB (V 1) (V 2) (V 3) = true) (k2 : inB 2560000 (V 4) (V 5) = true) (k3 : inB 20000000 (V 6) (V 7) = false) :
    Calls Tryz.prog 35 #[bodyW V] w fun e w' => e = .returned (.bool false) ∧ Below w.heap.size w w' := by
  have hset := cset_map
  go_enter Tryz.func35, Tryz.ntmps35
  go_wp2_with (first
      | (go_at_call 54; refine (l1In_q _ _ _ _ _ (by with_reducible assumption)).mono ?_; rintro e w1 ⟨rfl, hb1⟩; obtain ⟨hc1, hf1⟩ := bcell hb1; have hz1 := hb1.size; (try simp only [World.size_drew, World.size_alloc, World.size_setCell] at hc1 hf1 hz1); obtain ⟨hk1x0, hj1x0, hq1x0⟩ := kfa hb1 (w.heap.size); clear hc1 hf1)
      | (go_at_call 55; refine (sShapeOk_q _ _ _ _ _ (by with_reducible assumption)).mono ?_; rintro e w2 ⟨rfl, hb2⟩; obtain ⟨hc2, hf2⟩ := bcell hb2; have hz2 := hb2.size; (try simp only [World.size_drew, World.size_alloc, World.size_setCell] at hc2 hf2 hz2); obtain ⟨hk2x0, hj2x0, hq2x0⟩ := kfa hb2 (w.heap.size); clear hc2 hf2)
      | (go_at_call 56; refine (l3Place_q _ _ _ _ (by with_reducible assumption)).mono ?_; rintro e w3 ⟨rfl, hb3⟩; obtain ⟨hc3, hf3⟩ := bcell hb3; have hz3 := hb3.size; (try simp only [World.size_drew, World.size_alloc, World.size_setCell] at hc3 hf3 hz3); obtain ⟨hk3x0, hj3x0, hq3x0⟩ := kfa hb3 (w.heap.size); clear hc3 hf3)
      | (go_at_call 57; refine (l6Drive_q _ _ _ _ (by with_reducible assumption)).mono ?_; rintro e w4 ⟨rfl, hb4⟩; obtain ⟨hc4, hf4⟩ := bcell hb4; have hz4 := hb4.size; (try simp only [World.size_drew, World.size_alloc, World.size_setCell] at hc4 hf4 hz4); obtain ⟨hk4x0, hj4x0, hq4x0⟩ := kfa hb4 (w.heap.size); clear hc4 hf4))
  go_ret
  exact ⟨rfl, bel_a⟩

set_option maxRecDepth 20000 in
set_option maxHeartbeats 8000000 in
theorem sBodyOk_4 (V : Nat → Int) (w : World) (k0 : decide (0 ≤ V 0 ∧ V 0 ≤ 999999999) = true) (k1 : shB (V 1) (V 2) (V 3) = true) (k2 : inB 2560000 (V 4) (V 5) = true) (k3 : inB 20000000 (V 6) (V 7) = true) (k4 : decide (0 ≤ V 8 ∧ V 8 ≤ 1000) = false) :
    Calls Tryz.prog 35 #[bodyW V] w fun e w' => e = .returned (.bool false) ∧ Below w.heap.size w w' := by
  have hset := cset_map
  go_enter Tryz.func35, Tryz.ntmps35
  go_wp2_with (first
      | (go_at_call 54; refine (l1In_q _ _ _ _ _ (by with_reducible assumption)).mono ?_; rintro e w1 ⟨rfl, hb1⟩; obtain ⟨hc1, hf1⟩ := bcell hb1; have hz1 := hb1.size; (try simp only [World.size_drew, World.size_alloc, World.size_setCell] at hc1 hf1 hz1); obtain ⟨hk1x0, hj1x0, hq1x0⟩ := kfa hb1 (w.heap.size); clear hc1 hf1)
      | (go_at_call 55; refine (sShapeOk_q _ _ _ _ _ (by with_reducible assumption)).mono ?_; rintro e w2 ⟨rfl, hb2⟩; obtain ⟨hc2, hf2⟩ := bcell hb2; have hz2 := hb2.size; (try simp only [World.size_drew, World.size_alloc, World.size_setCell] at hc2 hf2 hz2); obtain ⟨hk2x0, hj2x0, hq2x0⟩ := kfa hb2 (w.heap.size); clear hc2 hf2)
      | (go_at_call 56; refine (l3Place_q _ _ _ _ (by with_reducible assumption)).mono ?_; rintro e w3 ⟨rfl, hb3⟩; obtain ⟨hc3, hf3⟩ := bcell hb3; have hz3 := hb3.size; (try simp only [World.size_drew, World.size_alloc, World.size_setCell] at hc3 hf3 hz3); obtain ⟨hk3x0, hj3x0, hq3x0⟩ := kfa hb3 (w.heap.size); clear hc3 hf3)
      | (go_at_call 57; refine (l6Drive_q _ _ _ _ (by with_reducible assumption)).mono ?_; rintro e w4 ⟨rfl, hb4⟩; obtain ⟨hc4, hf4⟩ := bcell hb4; have hz4 := hb4.size; (try simp only [World.size_drew, World.size_alloc, World.size_setCell] at hc4 hf4 hz4); obtain ⟨hk4x0, hj4x0, hq4x0⟩ := kfa hb4 (w.heap.size); clear hc4 hf4))
  go_ret
  exact ⟨rfl, bel_a⟩

set_option maxRecDepth 20000 in
set_option maxHeartbeats 8000000 in
theorem sBodyOk_5 (V : Nat → Int) (w : World) (k0 : decide (0 ≤ V 0 ∧ V 0 ≤ 999999999) = true) (k1 : shB (V 1) (V 2) (V 3) = true) (k2 : inB 2560000 (V 4) (V 5) = true) (k3 : inB 20000000 (V 6) (V 7) = true) (k4 : decide (0 ≤ V 8 ∧ V 8 ≤ 1000) = true) (k5 : decide (0 ≤ V 9 ∧ V 9 ≤ 256) = false) :
    Calls Tryz.prog 35 #[bodyW V] w fun e w' => e = .returned (.bool false) ∧ Below w.heap.size w w' := by
  have hset := cset_map
  go_enter Tryz.func35, Tryz.ntmps35
  go_wp2_with (first
      | (go_at_call 54; refine (l1In_q _ _ _ _ _ (by with_reducible assumption)).mono ?_; rintro e w1 ⟨rfl, hb1⟩; obtain ⟨hc1, hf1⟩ := bcell hb1; have hz1 := hb1.size; (try simp only [World.size_drew, World.size_alloc, World.size_setCell] at hc1 hf1 hz1); obtain ⟨hk1x0, hj1x0, hq1x0⟩ := kfa hb1 (w.heap.size); clear hc1 hf1)
      | (go_at_call 55; refine (sShapeOk_q _ _ _ _ _ (by with_reducible assumption)).mono ?_; rintro e w2 ⟨rfl, hb2⟩; obtain ⟨hc2, hf2⟩ := bcell hb2; have hz2 := hb2.size; (try simp only [World.size_drew, World.size_alloc, World.size_setCell] at hc2 hf2 hz2); obtain ⟨hk2x0, hj2x0, hq2x0⟩ := kfa hb2 (w.heap.size); clear hc2 hf2)
      | (go_at_call 56; refine (l3Place_q _ _ _ _ (by with_reducible assumption)).mono ?_; rintro e w3 ⟨rfl, hb3⟩; obtain ⟨hc3, hf3⟩ := bcell hb3; have hz3 := hb3.size; (try simp only [World.size_drew, World.size_alloc, World.size_setCell] at hc3 hf3 hz3); obtain ⟨hk3x0, hj3x0, hq3x0⟩ := kfa hb3 (w.heap.size); clear hc3 hf3)
      | (go_at_call 57; refine (l6Drive_q _ _ _ _ (by with_reducible assumption)).mono ?_; rintro e w4 ⟨rfl, hb4⟩; obtain ⟨hc4, hf4⟩ := bcell hb4; have hz4 := hb4.size; (try simp only [World.size_drew, World.size_alloc, World.size_setCell] at hc4 hf4 hz4); obtain ⟨hk4x0, hj4x0, hq4x0⟩ := kfa hb4 (w.heap.size); clear hc4 hf4))
  go_ret
  exact ⟨rfl, bel_a⟩

set_option maxRecDepth 20000 in
set_option maxHeartbeats 8000000 in
theorem sBodyOk_6 (V : Nat → Int) (w : World) (k0 : decide (0 ≤ V 0 ∧ V 0 ≤ 999999999) = true) (k1 : shB (V 1) (V 2) (V 3) = true) (k2 : inB 2560000 (V 4) (V 5) = true) (k3 : inB 20000000 (V 6) (V 7) = true) (k4 : decide (0 ≤ V 8 ∧ V 8 ≤ 1000) = true) (k5 : decide (0 ≤ V 9 ∧ V 9 ≤ 256) = true) (k6 : decide (0 ≤ V 10 ∧ V 10 ≤ 256) = false) :
    Calls Tryz.prog 35 #[bodyW V] w fun e w' => e = .returned (.bool false) ∧ Below w.heap.size w w' := by
  have hset := cset_map
  go_enter Tryz.func35, Tryz.ntmps35
  go_wp2_with (first
      | (go_at_call 54; refine (l1In_q _ _ _ _ _ (by with_reducible assumption)).mono ?_; rintro e w1 ⟨rfl, hb1⟩; obtain ⟨hc1, hf1⟩ := bcell hb1; have hz1 := hb1.size; (try simp only [World.size_drew, World.size_alloc, World.size_setCell] at hc1 hf1 hz1); obtain ⟨hk1x0, hj1x0, hq1x0⟩ := kfa hb1 (w.heap.size); clear hc1 hf1)
      | (go_at_call 55; refine (sShapeOk_q _ _ _ _ _ (by with_reducible assumption)).mono ?_; rintro e w2 ⟨rfl, hb2⟩; obtain ⟨hc2, hf2⟩ := bcell hb2; have hz2 := hb2.size; (try simp only [World.size_drew, World.size_alloc, World.size_setCell] at hc2 hf2 hz2); obtain ⟨hk2x0, hj2x0, hq2x0⟩ := kfa hb2 (w.heap.size); clear hc2 hf2)
      | (go_at_call 56; refine (l3Place_q _ _ _ _ (by with_reducible assumption)).mono ?_; rintro e w3 ⟨rfl, hb3⟩; obtain ⟨hc3, hf3⟩ := bcell hb3; have hz3 := hb3.size; (try simp only [World.size_drew, World.size_alloc, World.size_setCell] at hc3 hf3 hz3); obtain ⟨hk3x0, hj3x0, hq3x0⟩ := kfa hb3 (w.heap.size); clear hc3 hf3)
      | (go_at_call 57; refine (l6Drive_q _ _ _ _ (by with_reducible assumption)).mono ?_; rintro e w4 ⟨rfl, hb4⟩; obtain ⟨hc4, hf4⟩ := bcell hb4; have hz4 := hb4.size; (try simp only [World.size_drew, World.size_alloc, World.size_setCell] at hc4 hf4 hz4); obtain ⟨hk4x0, hj4x0, hq4x0⟩ := kfa hb4 (w.heap.size); clear hc4 hf4))
  go_ret
  exact ⟨rfl, bel_a⟩

set_option maxRecDepth 20000 in
set_option maxHeartbeats 8000000 in
theorem sBodyOk_7 (V : Nat → Int) (w : World) (k0 : decide (0 ≤ V 0 ∧ V 0 ≤ 999999999) = true) (k1 : shB (V 1) (V 2) (V 3) = true) (k2 : inB 2560000 (V 4) (V 5) = true) (k3 : inB 20000000 (V 6) (V 7) = true) (k4 : decide (0 ≤ V 8 ∧ V 8 ≤ 1000) = true) (k5 : decide (0 ≤ V 9 ∧ V 9 ≤ 256) = true) (k6 : decide (0 ≤ V 10 ∧ V 10 ≤ 256) = true) (k7 : decide (0 ≤ V 11 ∧ V 11 ≤ 8) = false) :
    Calls Tryz.prog 35 #[bodyW V] w fun e w' => e = .returned (.bool false) ∧ Below w.heap.size w w' := by
  have hset := cset_map
  go_enter Tryz.func35, Tryz.ntmps35
  go_wp2_with (first
      | (go_at_call 54; refine (l1In_q _ _ _ _ _ (by with_reducible assumption)).mono ?_; rintro e w1 ⟨rfl, hb1⟩; obtain ⟨hc1, hf1⟩ := bcell hb1; have hz1 := hb1.size; (try simp only [World.size_drew, World.size_alloc, World.size_setCell] at hc1 hf1 hz1); obtain ⟨hk1x0, hj1x0, hq1x0⟩ := kfa hb1 (w.heap.size); clear hc1 hf1)
      | (go_at_call 55; refine (sShapeOk_q _ _ _ _ _ (by with_reducible assumption)).mono ?_; rintro e w2 ⟨rfl, hb2⟩; obtain ⟨hc2, hf2⟩ := bcell hb2; have hz2 := hb2.size; (try simp only [World.size_drew, World.size_alloc, World.size_setCell] at hc2 hf2 hz2); obtain ⟨hk2x0, hj2x0, hq2x0⟩ := kfa hb2 (w.heap.size); clear hc2 hf2)
      | (go_at_call 56; refine (l3Place_q _ _ _ _ (by with_reducible assumption)).mono ?_; rintro e w3 ⟨rfl, hb3⟩; obtain ⟨hc3, hf3⟩ := bcell hb3; have hz3 := hb3.size; (try simp only [World.size_drew, World.size_alloc, World.size_setCell] at hc3 hf3 hz3); obtain ⟨hk3x0, hj3x0, hq3x0⟩ := kfa hb3 (w.heap.size); clear hc3 hf3)
      | (go_at_call 57; refine (l6Drive_q _ _ _ _ (by with_reducible assumption)).mono ?_; rintro e w4 ⟨rfl, hb4⟩; obtain ⟨hc4, hf4⟩ := bcell hb4; have hz4 := hb4.size; (try simp only [World.size_drew, World.size_alloc, World.size_setCell] at hc4 hf4 hz4); obtain ⟨hk4x0, hj4x0, hq4x0⟩ := kfa hb4 (w.heap.size); clear hc4 hf4))
  go_ret
  exact ⟨rfl, bel_a⟩

set_option maxRecDepth 20000 in
set_option maxHeartbeats 8000000 in
theorem sBodyOk_8 (V : Nat → Int) (w : World) (k0 : decide (0 ≤ V 0 ∧ V 0 ≤ 999999999) = true) (k1 : shB (V 1) (V 2) (V 3) = true) (k2 : inB 2560000 (V 4) (V 5) = true) (k3 : inB 20000000 (V 6) (V 7) = true) (k4 : decide (0 ≤ V 8 ∧ V 8 ≤ 1000) = true) (k5 : decide (0 ≤ V 9 ∧ V 9 ≤ 256) = true) (k6 : decide (0 ≤ V 10 ∧ V 10 ≤ 256) = true) (k7 : decide (0 ≤ V 11 ∧ V 11 ≤ 8) = true) :
    Calls Tryz.prog 35 #[bodyW V] w fun e w' => e = .returned (.bool (restB V)) ∧ Below w.heap.size w w' := by
  have hset := cset_map
  have k7' := k7
  simp only [decide_eq_true_eq] at k7'
  obtain ⟨k70, k71⟩ := k7'
  unfold restB
  go_enter Tryz.func35, Tryz.ntmps35
  go_upto_region 3 with (first
      | (go_at_call 54; refine (l1In_q _ _ _ _ _ (by with_reducible assumption)).mono ?_; rintro e w1 ⟨rfl, hb1⟩; obtain ⟨hc1, hf1⟩ := bcell hb1; have hz1 := hb1.size; (try simp only [World.size_drew, World.size_alloc, World.size_setCell] at hc1 hf1 hz1); obtain ⟨hk1x0, hj1x0, hq1x0⟩ := kfa hb1 (w.heap.size); clear hc1 hf1)
      | (go_at_call 55; refine (sShapeOk_q _ _ _ _ _ (by with_reducible assumption)).mono ?_; rintro e w2 ⟨rfl, hb2⟩; obtain ⟨hc2, hf2⟩ := bcell hb2; have hz2 := hb2.size; (try simp only [World.size_drew, World.size_alloc, World.size_setCell] at hc2 hf2 hz2); obtain ⟨hk2x0, hj2x0, hq2x0⟩ := kfa hb2 (w.heap.size); clear hc2 hf2)
      | (go_at_call 56; refine (l3Place_q _ _ _ _ (by with_reducible assumption)).mono ?_; rintro e w3 ⟨rfl, hb3⟩; obtain ⟨hc3, hf3⟩ := bcell hb3; have hz3 := hb3.size; (try simp only [World.size_drew, World.size_alloc, World.size_setCell] at hc3 hf3 hz3); obtain ⟨hk3x0, hj3x0, hq3x0⟩ := kfa hb3 (w.heap.size); clear hc3 hf3)
      | (go_at_call 57; refine (l6Drive_q _ _ _ _ (by with_reducible assumption)).mono ?_; rintro e w4 ⟨rfl, hb4⟩; obtain ⟨hc4, hf4⟩ := bcell hb4; have hz4 := hb4.size; (try simp only [World.size_drew, World.size_alloc, World.size_setCell] at hc4 hf4 hz4); obtain ⟨hk4x0, hj4x0, hq4x0⟩ := kfa hb4 (w.heap.size); clear hc4 hf4))
  clear k0 k1 k2 k3 k4 k5 k6 k7
  by_cases f8 : V 8 = 0 <;> by_cases f11 : V 11 = 0 <;> by_cases f88 : V 11 < 8 <;> by_cases f6 : V 6 = 0 <;> by_cases f7 : V 7 = 0
  all_goals (try (exfalso; omega))
  all_goals
    have f9 : (V 11 = 8) = (¬ V 11 < 8) := propext (by omega)
    go_wp2_with fail
    all_goals
      go_ret
      exact ⟨ret_bool (by simp [*]), bel_a⟩

theorem sBodyOk_q (V : Nat → Int) (b : Bool) (w : World) (e : bodyB V = b) :
    Calls Tryz.prog 35 #[bodyW V] w fun e w' => e = .returned (.bool b) ∧ Below w.heap.size w w' := by
  subst e
  unfold bodyB
  cases k0 : decide (0 ≤ V 0 ∧ V 0 ≤ 999999999) with
  | false => exact sBodyOk_0 V w k0
  | true =>
    cases k1 : shB (V 1) (V 2) (V 3) with
    | false => exact sBodyOk_1 V w k0 k1
    | true =>
      cases k2 : inB 2560000 (V 4) (V 5) with
      | false => exact sBodyOk_2 V w k0 k1 k2
      | true =>
        cases k3 : inB 20000000 (V 6) (V 7) with
        | false => exact sBodyOk_3 V w k0 k1 k2 k3
        | true =>
          cases k4 : decide (0 ≤ V 8 ∧ V 8 ≤ 1000) with
          | false => exact sBodyOk_4 V w k0 k1 k2 k3 k4
          | true =>
            cases k5 : decide (0 ≤ V 9 ∧ V 9 ≤ 256) with
            | false => exact sBodyOk_5 V w k0 k1 k2 k3 k4 k5
            | true =>
              cases k6 : decide (0 ≤ V 10 ∧ V 10 ≤ 256) with
              | false => exact sBodyOk_6 V w k0 k1 k2 k3 k4 k5 k6
              | true =>
                cases k7 : decide (0 ≤ V 11 ∧ V 11 ≤ 8) with
                | false => exact sBodyOk_7 V w k0 k1 k2 k3 k4 k5 k6 k7
                | true =>
                  simp only [Bool.true_and]
                  exact sBodyOk_8 V w k0 k1 k2 k3 k4 k5 k6 k7

theorem bodyB_bd {V : Nat → Int} (h : bodyB V = true) : (0 ≤ V 8 ∧ V 8 ≤ 1000) ∧ (0 ≤ V 11 ∧ V 11 ≤ 8) ∧ (-2560000 ≤ V 4 ∧ V 4 ≤ 2560000) ∧ (-2560000 ≤ V 5 ∧ V 5 ≤ 2560000) ∧ (-20000000 ≤ V 6 ∧ V 6 ≤ 20000000) ∧ (-20000000 ≤ V 7 ∧ V 7 ≤ 20000000) ∧ (0 ≤ V 9 ∧ V 9 ≤ 256) ∧ (0 ≤ V 10 ∧ V 10 ≤ 256) ∧ shB (V 1) (V 2) (V 3) = true ∧ restB V = true := by
  unfold bodyB at h
  simp only [Bool.and_eq_true, decide_eq_true_eq] at h
  obtain ⟨a0, a1, a2, a3, a4, a5, a6, a7, a8⟩ := h
  obtain ⟨p1, p2⟩ := inB_of a2
  obtain ⟨q1, q2⟩ := inB_of a3
  exact ⟨a4, a7, p1, p2, q1, q2, a5, a6, a1, a8⟩
def spX (V : Nat → Int) : Int := if V 8 = 0 then 0 else (V 6).tdiv (V 8)
def spY (V : Nat → Int) : Int := if V 8 = 0 then 0 else (V 7).tdiv (V 8)
end Go.Proofs.YtlbpmmjckoaleaaGreat
namespace Go.Proofs.YtlbpmmjckoaleaaGreat
open Go.RowKit
set_option linter.unusedVariables false
set_option linter.unusedSimpArgs false
theorem OwnL.fresh0 (w : World) (base t k : Nat) (U : Nat → Int) (s : Nat) (e : w.heap.size = s) (h : base ≤ w.heap.size) : OwnL (w.alloc (.cells #[] t)) base t k (.slice (Option.some ⟨s, 0, none⟩) 0 0) 0 U := by
  subst e
  exact ⟨by simp [numL], .inr ⟨w.heap.size, 0, #[], rfl, h, Go.Deep.blk_alloc_new _ _, Nat.le_refl _, Nat.zero_le _, by simp, by simp [numL]⟩⟩
theorem OwnL.drewO {w : World} {base t k n : Nat} {v : Value} {U : Nat → Int} (h : OwnL w base t k v n U) : OwnL w.drew base t k v n U := World.ownsRow.drew h
theorem cat_0 (k : Nat) (X Y : Nat → Int) : ∀ q, cat (0 * k) X Y q = Y q := by intro q; simp [cat]
section
variable {P : Program} {ops : Array Oper} {o : Oper} {a : Act} {w : World} {Q : Exit → Act → World → Prop}
theorem wpList_app0 {rest : List Oper} (hgd : o.guard = none) (s x : Operand) (t : TypeId) (ho : o.op = .call { callee := .builtin .append, args := #[s, x], argTypes := #[t, t] })
    (base e k bytes : Nat) (z : Value) (ht : P.underlying t = some (.slice e)) (hinfo : (P.info? e).map (fun i => (i.zero, i.size, i.bytes)) = some (some z, k, bytes)) (hzs : z.cells.size = k) (hk : 0 < k)
    (v : Value) (U : Nat → Int) (hs : a.eval s = v) (h : OwnL w base e k v 0 U) (ad : Option Addr) (m c : Nat) (X : Nat → Int) (hxx : a.eval x = .slice ad m c) (hx : Flat w ad (m * k) X)
    (h63 : m ≤ maxLen) (hbytes : m * bytes ≤ 140737488355328) (hbase : base ≤ w.heap.size)
    (hK : ∀ a' c' w', OwnL w' base e k (.slice a' m c') m X → w.grownBy w' v.ownBlock → wpList P ops Q rest (a.put o.dst (.slice a' m c')) w') : wpList P ops Q (o :: rest) a w :=
  wpList_app hgd s x t ho base e k bytes z ht hinfo hzs hk v 0 U hs h ad m c X hxx hx (by rw [Nat.zero_add]; exact h63) (by rw [Nat.zero_add]; exact hbytes) hbase fun a' c' w' h1 h2 => by
    rw [Nat.zero_add] at h1 ⊢
    exact hK a' c' w' (h1.congr fun q _ => cat_0 k _ _ q) h2
theorem step_app0 {K : Act → World → Prop} {E : Prop} (hgd : o.guard = none) (s x : Operand) (t : TypeId) (ho : o.op = .call { callee := .builtin .append, args := #[s, x], argTypes := #[t, t] })
    (base e k bytes : Nat) (z : Value) (ht : P.underlying t = some (.slice e)) (hinfo : (P.info? e).map (fun i => (i.zero, i.size, i.bytes)) = some (some z, k, bytes)) (hzs : z.cells.size = k) (hk : 0 < k)
    (v : Value) (U : Nat → Int) (hs : a.eval s = v) (h : OwnL w base e k v 0 U) (ad : Option Addr) (m c : Nat) (X : Nat → Int) (hxx : a.eval x = .slice ad m c) (hx : Flat w ad (m * k) X)
    (h63 : m ≤ maxLen) (hbytes : m * bytes ≤ 140737488355328) (hbase : base ≤ w.heap.size)
    (hK : ∀ a' c' w', OwnL w' base e k (.slice a' m c') m X → w.grownBy w' v.ownBlock → K (a.put o.dst (.slice a' m c')) w') :
    if Region.wanted o (yielded ops a.tmps) = true then Oper.wp P o a w K Q else E :=
  step_app hgd s x t ho base e k bytes z ht hinfo hzs hk v 0 U hs h ad m c X hxx hx (by rw [Nat.zero_add]; exact h63) (by rw [Nat.zero_add]; exact hbytes) hbase fun a' c' w' h1 h2 => by
    rw [Nat.zero_add] at h1 ⊢
    exact hK a' c' w' (h1.congr fun q _ => cat_0 k _ _ q) h2
end
/-- a list of which one thing was replaced -/
def putRow (U : Nat → Int) (p : Nat) (V : Nat → Int) : Nat → Int := fun q => if p * 12 ≤ q ∧ q < p * 12 + 12 then V (q - p * 12) else U q
theorem put12 {w4 : World} {base n g c p : Nat} {U : Nat → Int} (h : OwnL w4 base 48 12 (.slice (some ⟨g, 0, none⟩) n c) n U) (hp : p < n) (V : Nat → Int) :
    OwnL ((((((((((((w4.setCell ⟨g, p * 12, none⟩ (.int .i64 (V 0))).setCell ⟨g, p * 12 + 1, none⟩ (.int .i64 (V 1))).setCell ⟨g, p * 12 + 2, none⟩ (.int .i64 (V 2))).setCell ⟨g, p * 12 + 3, none⟩ (.int .i64 (V 3))).setCell ⟨g, p * 12 + 4, none⟩ (.int .i64 (V 4))).setCell ⟨g, p * 12 + 5, none⟩ (.int .i64 (V 5))).setCell ⟨g, p * 12 + 6, none⟩ (.int .i64 (V 6))).setCell ⟨g, p * 12 + 7, none⟩ (.int .i64 (V 7))).setCell ⟨g, p * 12 + 8, none⟩ (.int .i64 (V 8))).setCell ⟨g, p * 12 + 9, none⟩ (.int .i64 (V 9))).setCell ⟨g, p * 12 + 10, none⟩ (.int .i64 (V 10))).setCell ⟨g, p * 12 + 11, none⟩ (.int .i64 (V 11))) base 48 12 (.slice (some ⟨g, 0, none⟩) n c) n (putRow U p V) := by
  have q1 := h.setq (p * 12) (by omega) (V 0)
  have q2 := q1.setq (p * 12 + 1) (by omega) (V 1)
  have q3 := q2.setq (p * 12 + 2) (by omega) (V 2)
  have q4 := q3.setq (p * 12 + 3) (by omega) (V 3)
  have q5 := q4.setq (p * 12 + 4) (by omega) (V 4)
  have q6 := q5.setq (p * 12 + 5) (by omega) (V 5)
  have q7 := q6.setq (p * 12 + 6) (by omega) (V 6)
  have q8 := q7.setq (p * 12 + 7) (by omega) (V 7)
  have q9 := q8.setq (p * 12 + 8) (by omega) (V 8)
  have q10 := q9.setq (p * 12 + 9) (by omega) (V 9)
  have q11 := q10.setq (p * 12 + 10) (by omega) (V 10)
  have q12 := q11.setq (p * 12 + 11) (by omega) (V 11)
  refine q12.congr fun q _ => ?_
  unfold putRow
  by_cases e : p * 12 ≤ q ∧ q < p * 12 + 12
  · rw [if_pos e]
    obtain ⟨d, rfl⟩ : ∃ d, q = p * 12 + d := ⟨q - p * 12, by omega⟩
    rw [Nat.add_sub_cancel_left]
    rcases (show d = 0 ∨ d = 1 ∨ d = 2 ∨ d = 3 ∨ d = 4 ∨ d = 5 ∨ d = 6 ∨ d = 7 ∨ d = 8 ∨ d = 9 ∨ d = 10 ∨ d = 11 by omega) with rfl | rfl | rfl | rfl | rfl | rfl | rfl | rfl | rfl | rfl | rfl | rfl <;> simp
  · rw [if_neg e]
    repeat rw [if_neg (by omega)]
theorem putFr {w4 : World} {g p : Nat} (V : Nat → Int) : Fr (fun b => b = g) w4 ((((((((((((w4.setCell ⟨g, p * 12, none⟩ (.int .i64 (V 0))).setCell ⟨g, p * 12 + 1, none⟩ (.int .i64 (V 1))).setCell ⟨g, p * 12 + 2, none⟩ (.int .i64 (V 2))).setCell ⟨g, p * 12 + 3, none⟩ (.int .i64 (V 3))).setCell ⟨g, p * 12 + 4, none⟩ (.int .i64 (V 4))).setCell ⟨g, p * 12 + 5, none⟩ (.int .i64 (V 5))).setCell ⟨g, p * 12 + 6, none⟩ (.int .i64 (V 6))).setCell ⟨g, p * 12 + 7, none⟩ (.int .i64 (V 7))).setCell ⟨g, p * 12 + 8, none⟩ (.int .i64 (V 8))).setCell ⟨g, p * 12 + 9, none⟩ (.int .i64 (V 9))).setCell ⟨g, p * 12 + 10, none⟩ (.int .i64 (V 10))).setCell ⟨g, p * 12 + 11, none⟩ (.int .i64 (V 11))) :=
  (((((((((((((Fr.refl (fun b => b = g) w4).trans (Fr.setCell (X := fun b => b = g) rfl _)).trans (Fr.setCell (X := fun b => b = g) rfl _)).trans (Fr.setCell (X := fun b => b = g) rfl _)).trans (Fr.setCell (X := fun b => b = g) rfl _)).trans (Fr.setCell (X := fun b => b = g) rfl _)).trans (Fr.setCell (X := fun b => b = g) rfl _)).trans (Fr.setCell (X := fun b => b = g) rfl _)).trans (Fr.setCell (X := fun b => b = g) rfl _)).trans (Fr.setCell (X := fun b => b = g) rfl _)).trans (Fr.setCell (X := fun b => b = g) rfl _)).trans (Fr.setCell (X := fun b => b = g) rfl _)).trans (Fr.setCell (X := fun b => b = g) rfl _))
theorem OutL.on {w w1 w2 : World} {t k n c : Nat} {a : Option Addr} {R : Nat → Int} (h : OutL w w1 t k a n c R) (hb : Below w1.heap.size w1 w2) : OutL w w2 t k a n c R := ⟨h.bel.trans (hb.mono h.bel.size), h.own.below hb⟩
set_option maxHeartbeats 2000000 in
theorem l6Sleeps_k (V : Nat → Int) (w : World) (b : Bool) (e : decide (8 ≤ V 11) = b) :
    Calls Tryz.prog 46 #[bodyW V] w fun e w' => e = .returned (.bool b) ∧ Below w.heap.size w w' := by
  have hset := cset_map
  subst e
  go_enter Tryz.func46, Tryz.ntmps46
  go_wp2_with fail
  go_ret
  exact ⟨ret_bool (by simp), bel_a⟩
end Go.Proofs.YtlbpmmjckoaleaaGreat
namespace Go.Proofs.YtlbpmmjckoaleaaGreat
open Go.RowKit
set_option linter.unusedVariables false
set_option linter.unusedSimpArgs false
/-- the first k rows changed -/
def mapR (f : Nat → (Nat → Int) → Nat → Int) (U : Nat → Int) (k : Nat) : Nat → Int := fun q => if q < k * 12 then f (q / 12) (fun j => U (q / 12 * 12 + j)) (q % 12) else U q
theorem mapR_0 (f : Nat → (Nat → Int) → Nat → Int) (U : Nat → Int) : mapR f U 0 = U := by funext q; unfold mapR; rw [if_neg (by omega)]
theorem mapR_row (f : Nat → (Nat → Int) → Nat → Int) (U : Nat → Int) (k j : Nat) : mapR f U k (k * 12 + j) = U (k * 12 + j) := by unfold mapR; rw [if_neg (by omega)]
theorem mapR_in {f : Nat → (Nat → Int) → Nat → Int} {U : Nat → Int} {k n j : Nat} (h : k < n) (hj : j < 12) : mapR f U n (k * 12 + j) = f k (fun j => U (k * 12 + j)) j := by
  unfold mapR
  rw [if_pos (by omega), show (k * 12 + j) / 12 = k by omega, show (k * 12 + j) % 12 = j by omega]
theorem mapR_set (f : Nat → (Nat → Int) → Nat → Int) (U : Nat → Int) (k : Nat) : putRow (mapR f U k) k (f k (fun j => U (k * 12 + j))) = mapR f U (k + 1) := by
  funext q
  unfold putRow
  by_cases h : k * 12 ≤ q ∧ q < k * 12 + 12
  · rw [if_pos h]
    obtain ⟨d, rfl⟩ : ∃ d, q = k * 12 + d := ⟨q - k * 12, by omega⟩
    rw [mapR_in (by omega) (by omega), Nat.add_sub_cancel_left]
  · rw [if_neg h]
    unfold mapR
    by_cases l : q < k * 12
    · rw [if_pos l, if_pos (by omega)]
    · rw [if_neg l, if_neg (by omega)]
theorem mapR_same {f : Nat → (Nat → Int) → Nat → Int} {U : Nat → Int} {k : Nat} (h : ∀ j, j < 12 → f k (fun j => U (k * 12 + j)) j = U (k * 12 + j)) : mapR f U (k + 1) = mapR f U k := by
  rw [← mapR_set]
  funext q
  unfold putRow
  by_cases e : k * 12 ≤ q ∧ q < k * 12 + 12
  · rw [if_pos e]
    obtain ⟨d, rfl⟩ : ∃ d, q = k * 12 + d := ⟨q - k * 12, by omega⟩
    rw [Nat.add_sub_cancel_left, h d (by omega), mapR_row]
  · rw [if_neg e]
theorem mapR_one {f : Nat → (Nat → Int) → Nat → Int} {U : Nat → Int} {k j : Nat} {x : Int} (hj : j < 12) (h : ∀ i, i < 12 → f k (fun j => U (k * 12 + j)) i = if i = j then x else U (k * 12 + i)) : (fun r => if r = k * 12 + j then x else mapR f U k r) = mapR f U (k + 1) := by
  rw [← mapR_set]
  funext q
  unfold putRow
  by_cases e : k * 12 ≤ q ∧ q < k * 12 + 12
  · rw [if_pos e]
    obtain ⟨d, rfl⟩ : ∃ d, q = k * 12 + d := ⟨q - k * 12, by omega⟩
    rw [Nat.add_sub_cancel_left, h d (by omega), mapR_row]
    by_cases e2 : d = j
    · rw [if_pos e2, if_pos (by omega)]
    · rw [if_neg e2, if_neg (by omega)]
  · rw [if_neg e, if_neg (by omega)]
theorem bodyB_cong {V W : Nat → Int} (h : ∀ j, j < 12 → V j = W j) : bodyB V = bodyB W := by
  unfold bodyB restB
  simp only [h 0 (by omega), h 1 (by omega), h 2 (by omega), h 3 (by omega), h 4 (by omega), h 5 (by omega), h 6 (by omega), h 7 (by omega), h 8 (by omega), h 9 (by omega), h 10 (by omega), h 11 (by omega)]
/-- bodies that are ok, said row by row -/
structure Bods (n : Nat) (U : Nat → Int) : Prop where
  le : n ≤ 12
  ok : ∀ k, k < n → bodyB (fun j => U (k * 12 + j)) = true
  asc : ∀ k, k + 1 < n → U (k * 12) < U ((k + 1) * 12)
theorem Bods.of {n : Nat} {U : Nat → Int} (h : bodsB n U = true) : Bods n U := by
  unfold bodsB at h
  rw [Bool.and_eq_true] at h
  have key : ∀ m, allBB U m = true → ∀ k, k < m → stepBB U k = true := by
    intro m
    induction m with
    | zero => intro _ k l; omega
    | succ m ih =>
      intro hm k l
      unfold allBB at hm
      rw [Bool.and_eq_true] at hm
      by_cases e : k = m
      · subst e; exact hm.2
      · exact ih hm.1 k (by omega)
  refine ⟨of_decide_eq_true h.1, fun k hk => ?_, fun k hk => ?_⟩
  · have := key n h.2 k hk
    unfold stepBB at this
    rw [Bool.and_eq_true] at this
    exact this.1
  · have := key n h.2 (k + 1) hk
    unfold stepBB at this
    simp at this
    exact this.2
theorem Bods.to {n : Nat} {U : Nat → Int} (h : Bods n U) : bodsB n U = true := by
  have key : ∀ m, m ≤ n → allBB U m = true := by
    intro m
    induction m with
    | zero => intro _; rfl
    | succ m ih =>
      intro hm
      unfold allBB
      rw [ih (by omega), Bool.true_and]
      unfold stepBB
      rw [h.ok m (by omega), Bool.true_and]
      by_cases e : m = 0
      · simp [e]
      · obtain ⟨k, rfl⟩ : ∃ k, m = k + 1 := ⟨m - 1, by omega⟩
        have := h.asc k (by omega)
        simp
        exact this
  unfold bodsB
  rw [key n (Nat.le_refl _), decide_eq_true h.le]
  rfl
/-- rows changed, each still a body, its number kept -/
theorem Bods.map {n : Nat} {U : Nat → Int} {f : Nat → (Nat → Int) → Nat → Int} (h : Bods n U) (hf : ∀ k, k < n → bodyB (f k (fun j => U (k * 12 + j))) = true) (h0 : ∀ k, k < n → f k (fun j => U (k * 12 + j)) 0 = U (k * 12)) : Bods n (mapR f U n) := by
  refine ⟨h.le, fun k hk => ?_, fun k hk => ?_⟩
  · rw [bodyB_cong (W := f k (fun j => U (k * 12 + j))) (fun j hj => mapR_in hk hj)]; exact hf k hk
  · have e1 := mapR_in (f := f) (U := U) (k := k) (n := n) (j := 0) (by omega) (by omega)
    have e2 := mapR_in (f := f) (U := U) (k := k + 1) (n := n) (j := 0) hk (by omega)
    rw [Nat.add_zero] at e1 e2
    rw [e1, e2, h0 k (by omega), h0 (k + 1) hk]
    exact h.asc k hk
end Go.Proofs.YtlbpmmjckoaleaaGreat
namespace Go.Proofs.YtlbpmmjckoaleaaGreat
open Go.RowKit
set_option linter.unusedVariables false
set_option linter.unusedSimpArgs false

end Go.Proofs.YtlbpmmjckoaleaaGreat
namespace Go.Proofs.YtlbpmmjckoaleaaGreat
open Go.RowKit
set_option linter.unusedVariables false
set_option linter.unusedSimpArgs false

set_option maxRecDepth 20000 in
set_option maxHeartbeats 8000000 in
theorem kBody {cb n k : Nat} {V : Nat → Int} {G : Nat → Nat} {w : World} (h : HAt w cb n k V G) :
    Calls Tryz.prog 53 #[hdk cb k] w fun e w' => e = .returned (bodyW V) ∧ Below w.heap.size w w' := by
  have hset := cset_map
  have l1 := h.cbl
  have hkn := h.kn
  have hnl := h.nl
  obtain ⟨c0, hc0, hv0, _, l0g, q0⟩ := h.col 0 (by omega)
  generalize hG0 : G 0 = g0 at hc0 hv0 l0g q0
  clear hG0 q0
  go_enter Tryz.func53, Tryz.ntmps53
  go_upto_region 1 with fail
  refine wp_region_held_drew (S := fun w' => w'.cell? ⟨w.heap.size, 0, none⟩ = some (.int .i64 (k : Int)) ∧ w'.cell? ⟨w.heap.size, 1, none⟩ = some (.pointer (some ⟨cb, 0, none⟩)) ∧ w'.cell? ⟨cb, 0, none⟩ = some (.slice (some ⟨g0, 0, none⟩) n c0) ∧ w'.cell? ⟨g0, k, none⟩ = some (.int .i64 (V 0))) (by kernel_rfl) ?_ (fun hHeld => ?_)
  · (try dsimp only)
    (first | (go_simp; done) | (go_keep; done))
  refine tq 0 hHeld ?_
  refine tq 1 hHeld ?_
  refine tq 2 hHeld ?_
  refine tq 3 hHeld ?_
  refine tq 4 hHeld ?_
  refine tq 5 hHeld ?_
  refine tq 6 hHeld ?_
  refine tq 7 hHeld ?_
  refine tq 8 hHeld ?_
  refine tq 9 hHeld ?_
  refine tq 11 hHeld ?_
  refine tq 14 hHeld ?_
  refine tq 17 hHeld ?_
  refine tq 19 hHeld ?_
  refine tq 21 hHeld ?_
  refine tq 23 hHeld ?_
  (refine tc 10 fun K hK => ?_; go_simp; (go_at_call 66; refine (kShape (HAt.below h (bel_a))).mono ?_; rintro e w1 ⟨rfl, hb1⟩; obtain ⟨hc1, hf1⟩ := bcell hb1; have hz1 := hb1.size; (try simp only [World.size_drew, World.size_alloc, World.size_setCell] at hc1 hf1 hz1); have hk1x0 := fun o => hc1 (w.heap.size) o (by omega); have hj1x0 := fun o => hf1 (w.heap.size) o (by omega); have hq1x0 : w.heap.size < w1.heap.size := (by omega); have hk1x1 := fun o => hc1 (w.heap.size + 1) o (by omega); have hj1x1 := fun o => hf1 (w.heap.size + 1) o (by omega); have hq1x1 : w.heap.size + 1 < w1.heap.size := (by omega); have hk1x2 := fun o => hc1 (cb) o (by omega); have hj1x2 := fun o => hf1 (cb) o (by omega); have hq1x2 : cb < w1.heap.size := (by omega); have hk1x3 := fun o => hc1 (g0) o (by omega); have hj1x3 := fun o => hf1 (g0) o (by omega); have hq1x3 : g0 < w1.heap.size := (by omega); clear hc1 hf1); (try go_wp2_with fail); refine tr hK (fun hHeld => ?_); clear hK K)
  (refine tc 12 fun K hK => ?_; go_simp; (go_at_call 67; refine (kAt (HAt.below h (bel_a))).mono ?_; rintro e w2 ⟨rfl, hb2⟩; obtain ⟨hc2, hf2⟩ := bcell hb2; have hz2 := hb2.size; (try simp only [World.size_drew, World.size_alloc, World.size_setCell] at hc2 hf2 hz2); have hk2x0 := fun o => hc2 (w.heap.size) o (by omega); have hj2x0 := fun o => hf2 (w.heap.size) o (by omega); have hq2x0 : w.heap.size < w2.heap.size := (by omega); have hk2x1 := fun o => hc2 (w.heap.size + 1) o (by omega); have hj2x1 := fun o => hf2 (w.heap.size + 1) o (by omega); have hq2x1 : w.heap.size + 1 < w2.heap.size := (by omega); have hk2x2 := fun o => hc2 (cb) o (by omega); have hj2x2 := fun o => hf2 (cb) o (by omega); have hq2x2 : cb < w2.heap.size := (by omega); have hk2x3 := fun o => hc2 (g0) o (by omega); have hj2x3 := fun o => hf2 (g0) o (by omega); have hq2x3 : g0 < w2.heap.size := (by omega); clear hc2 hf2); (try go_wp2_with fail); refine tr hK (fun hHeld => ?_); clear hK K)
  (refine tc 13 fun K hK => ?_; go_simp; (go_at_call 79; refine (vec_any _ _ _).mono ?_; rintro e w3 ⟨rfl, hb3⟩; obtain ⟨hc3, hf3⟩ := bcell hb3; have hz3 := hb3.size; (try simp only [World.size_drew, World.size_alloc, World.size_setCell] at hc3 hf3 hz3); have hk3x0 := fun o => hc3 (w.heap.size) o (by omega); have hj3x0 := fun o => hf3 (w.heap.size) o (by omega); have hq3x0 : w.heap.size < w3.heap.size := (by omega); have hk3x1 := fun o => hc3 (w.heap.size + 1) o (by omega); have hj3x1 := fun o => hf3 (w.heap.size + 1) o (by omega); have hq3x1 : w.heap.size + 1 < w3.heap.size := (by omega); have hk3x2 := fun o => hc3 (cb) o (by omega); have hj3x2 := fun o => hf3 (cb) o (by omega); have hq3x2 : cb < w3.heap.size := (by omega); have hk3x3 := fun o => hc3 (g0) o (by omega); have hj3x3 := fun o => hf3 (g0) o (by omega); have hq3x3 : g0 < w3.heap.size := (by omega); clear hc3 hf3); (try go_wp2_with fail); refine tr hK (fun hHeld => ?_); clear hK K)
  (refine tc 15 fun K hK => ?_; go_simp; (go_at_call 69; refine (kDrive (HAt.below h (bel_a))).mono ?_; rintro e w4 ⟨rfl, hb4⟩; obtain ⟨hc4, hf4⟩ := bcell hb4; have hz4 := hb4.size; (try simp only [World.size_drew, World.size_alloc, World.size_setCell] at hc4 hf4 hz4); have hk4x0 := fun o => hc4 (w.heap.size) o (by omega); have hj4x0 := fun o => hf4 (w.heap.size) o (by omega); have hq4x0 : w.heap.size < w4.heap.size := (by omega); have hk4x1 := fun o => hc4 (w.heap.size + 1) o (by omega); have hj4x1 := fun o => hf4 (w.heap.size + 1) o (by omega); have hq4x1 : w.heap.size + 1 < w4.heap.size := (by omega); have hk4x2 := fun o => hc4 (cb) o (by omega); have hj4x2 := fun o => hf4 (cb) o (by omega); have hq4x2 : cb < w4.heap.size := (by omega); have hk4x3 := fun o => hc4 (g0) o (by omega); have hj4x3 := fun o => hf4 (g0) o (by omega); have hq4x3 : g0 < w4.heap.size := (by omega); clear hc4 hf4); (try go_wp2_with fail); refine tr hK (fun hHeld => ?_); clear hK K)
  (refine tc 16 fun K hK => ?_; go_simp; (go_at_call 79; refine (vec_any _ _ _).mono ?_; rintro e w5 ⟨rfl, hb5⟩; obtain ⟨hc5, hf5⟩ := bcell hb5; have hz5 := hb5.size; (try simp only [World.size_drew, World.size_alloc, World.size_setCell] at hc5 hf5 hz5); have hk5x0 := fun o => hc5 (w.heap.size) o (by omega); have hj5x0 := fun o => hf5 (w.heap.size) o (by omega); have hq5x0 : w.heap.size < w5.heap.size := (by omega); have hk5x1 := fun o => hc5 (w.heap.size + 1) o (by omega); have hj5x1 := fun o => hf5 (w.heap.size + 1) o (by omega); have hq5x1 : w.heap.size + 1 < w5.heap.size := (by omega); have hk5x2 := fun o => hc5 (cb) o (by omega); have hj5x2 := fun o => hf5 (cb) o (by omega); have hq5x2 : cb < w5.heap.size := (by omega); have hk5x3 := fun o => hc5 (g0) o (by omega); have hj5x3 := fun o => hf5 (g0) o (by omega); have hq5x3 : g0 < w5.heap.size := (by omega); clear hc5 hf5); (try go_wp2_with fail); refine tr hK (fun hHeld => ?_); clear hK K)
  (refine tc 18 fun K hK => ?_; go_simp; (go_at_call 70; refine (kMass (HAt.below h (bel_a))).mono ?_; rintro e w6 ⟨rfl, hb6⟩; obtain ⟨hc6, hf6⟩ := bcell hb6; have hz6 := hb6.size; (try simp only [World.size_drew, World.size_alloc, World.size_setCell] at hc6 hf6 hz6); have hk6x0 := fun o => hc6 (w.heap.size) o (by omega); have hj6x0 := fun o => hf6 (w.heap.size) o (by omega); have hq6x0 : w.heap.size < w6.heap.size := (by omega); have hk6x1 := fun o => hc6 (w.heap.size + 1) o (by omega); have hj6x1 := fun o => hf6 (w.heap.size + 1) o (by omega); have hq6x1 : w.heap.size + 1 < w6.heap.size := (by omega); have hk6x2 := fun o => hc6 (cb) o (by omega); have hj6x2 := fun o => hf6 (cb) o (by omega); have hq6x2 : cb < w6.heap.size := (by omega); have hk6x3 := fun o => hc6 (g0) o (by omega); have hj6x3 := fun o => hf6 (g0) o (by omega); have hq6x3 : g0 < w6.heap.size := (by omega); clear hc6 hf6); (try go_wp2_with fail); refine tr hK (fun hHeld => ?_); clear hK K)
  (refine tc 20 fun K hK => ?_; go_simp; (go_at_call 71; refine (kBounce (HAt.below h (bel_a))).mono ?_; rintro e w7 ⟨rfl, hb7⟩; obtain ⟨hc7, hf7⟩ := bcell hb7; have hz7 := hb7.size; (try simp only [World.size_drew, World.size_alloc, World.size_setCell] at hc7 hf7 hz7); have hk7x0 := fun o => hc7 (w.heap.size) o (by omega); have hj7x0 := fun o => hf7 (w.heap.size) o (by omega); have hq7x0 : w.heap.size < w7.heap.size := (by omega); have hk7x1 := fun o => hc7 (w.heap.size + 1) o (by omega); have hj7x1 := fun o => hf7 (w.heap.size + 1) o (by omega); have hq7x1 : w.heap.size + 1 < w7.heap.size := (by omega); have hk7x2 := fun o => hc7 (cb) o (by omega); have hj7x2 := fun o => hf7 (cb) o (by omega); have hq7x2 : cb < w7.heap.size := (by omega); have hk7x3 := fun o => hc7 (g0) o (by omega); have hj7x3 := fun o => hf7 (g0) o (by omega); have hq7x3 : g0 < w7.heap.size := (by omega); clear hc7 hf7); (try go_wp2_with fail); refine tr hK (fun hHeld => ?_); clear hK K)
  (refine tc 22 fun K hK => ?_; go_simp; (go_at_call 72; refine (kRub (HAt.below h (bel_a))).mono ?_; rintro e w8 ⟨rfl, hb8⟩; obtain ⟨hc8, hf8⟩ := bcell hb8; have hz8 := hb8.size; (try simp only [World.size_drew, World.size_alloc, World.size_setCell] at hc8 hf8 hz8); have hk8x0 := fun o => hc8 (w.heap.size) o (by omega); have hj8x0 := fun o => hf8 (w.heap.size) o (by omega); have hq8x0 : w.heap.size < w8.heap.size := (by omega); have hk8x1 := fun o => hc8 (w.heap.size + 1) o (by omega); have hj8x1 := fun o => hf8 (w.heap.size + 1) o (by omega); have hq8x1 : w.heap.size + 1 < w8.heap.size := (by omega); have hk8x2 := fun o => hc8 (cb) o (by omega); have hj8x2 := fun o => hf8 (cb) o (by omega); have hq8x2 : cb < w8.heap.size := (by omega); have hk8x3 := fun o => hc8 (g0) o (by omega); have hj8x3 := fun o => hf8 (g0) o (by omega); have hq8x3 : g0 < w8.heap.size := (by omega); clear hc8 hf8); (try go_wp2_with fail); refine tr hK (fun hHeld => ?_); clear hK K)
  (refine tc 24 fun K hK => ?_; go_simp; (go_at_call 73; refine (kQuiet (HAt.below h (bel_a))).mono ?_; rintro e w9 ⟨rfl, hb9⟩; obtain ⟨hc9, hf9⟩ := bcell hb9; have hz9 := hb9.size; (try simp only [World.size_drew, World.size_alloc, World.size_setCell] at hc9 hf9 hz9); have hk9x0 := fun o => hc9 (w.heap.size) o (by omega); have hj9x0 := fun o => hf9 (w.heap.size) o (by omega); have hq9x0 : w.heap.size < w9.heap.size := (by omega); have hk9x1 := fun o => hc9 (w.heap.size + 1) o (by omega); have hj9x1 := fun o => hf9 (w.heap.size + 1) o (by omega); have hq9x1 : w.heap.size + 1 < w9.heap.size := (by omega); have hk9x2 := fun o => hc9 (cb) o (by omega); have hj9x2 := fun o => hf9 (cb) o (by omega); have hq9x2 : cb < w9.heap.size := (by omega); have hk9x3 := fun o => hc9 (g0) o (by omega); have hj9x3 := fun o => hf9 (g0) o (by omega); have hq9x3 : g0 < w9.heap.size := (by omega); clear hc9 hf9); (try go_wp2_with fail); refine tr hK (fun hHeld => ?_); clear hK K)
  refine tq 25 hHeld ?_
  (refine tc 26 fun K hK => ?_; go_simp; refine tr hK (fun hHeld => ?_); clear hK K)
  refine wpAnyH_done (by kernel_rfl) ?_ _
  go_wp2_with fail
  exact bodyPost_ret (v := bodyW V) (by simp [results, Tryz.results53, go_sem, *]) rfl ⟨rfl, bel_a⟩

/-- columns of which a row was pushed -/
def pushC (C : Nat → Nat → Int) (k : Nat) (p q : Int) : Nat → Nat → Int := if C 8 k = 0 then C else setC (setC (setC C 6 k (clampZ 20000000 (C 6 k + p))) 7 k (clampZ 20000000 (C 7 k + q))) 11 k 0
end Go.Proofs.YtlbpmmjckoaleaaGreat
namespace Go.Proofs.YtlbpmmjckoaleaaGreat
open Go.RowKit
set_option linter.unusedVariables false
set_option linter.unusedSimpArgs false

theorem flatB (w : World) (V : Nat → Int) (t : TypeId) (s : Nat) (e : w.heap.size = s) : Flat (w.alloc (Obj.cells #[.int .i64 (V 0), .int .i64 (V 1), .int .i64 (V 2), .int .i64 (V 3), .int .i64 (V 4), .int .i64 (V 5), .int .i64 (V 6), .int .i64 (V 7), .int .i64 (V 8), .int .i64 (V 9), .int .i64 (V 10), .int .i64 (V 11)] t)) (some ⟨s, 0, none⟩) (1 * 12) V := by
  subst e
  intro _
  refine ⟨w.heap.size, 0, rfl, by simp, fun j hj => ?_⟩
  rw [Nat.zero_add]
  rcases (show j = 0 ∨ j = 1 ∨ j = 2 ∨ j = 3 ∨ j = 4 ∨ j = 5 ∨ j = 6 ∨ j = 7 ∨ j = 8 ∨ j = 9 ∨ j = 10 ∨ j = 11 by omega) with rfl | rfl | rfl | rfl | rfl | rfl | rfl | rfl | rfl | rfl | rfl | rfl <;> go_simp
theorem handle_0 (cb : Nat) (w : World) : Calls Tryz.prog 63 #[.pointer (some ⟨cb, 0, none⟩), .int .i64 0] w fun e w' => e = .returned (.agg #[.int .i64 0, .pointer (some ⟨cb, 0, none⟩)]) ∧ Below w.heap.size w w' := handle_any cb 0 w
theorem kOk_z {cb n : Nat} {V : Nat → Int} {G : Nat → Nat} {w : World} (h : HAt w cb n 0 V G) (b : Bool) (e : bodyB V = b) :
    Calls Tryz.prog 43 #[.agg #[.int .i64 0, .pointer (some ⟨cb, 0, none⟩)]] w fun e w' => e = .returned (.bool b) ∧ Below w.heap.size w w' := kOk_q h b e
theorem Cs.setO {w : World} {cb n b o : Nat} {C : Nat → Nat → Int} {S : Nat → Value} (h : Cs w cb n C S) (hb : b < cb) (v : Value) : Cs (w.setCell ⟨b, o, none⟩ v) cb n C S :=
  h.frame (X := fun x => x = b) (Fr.setCell (X := fun x => x = b) rfl _) (by show ¬ cb = b; omega) (fun x hx e => by have := (h.xlt hx).1; omega)
end Go.Proofs.YtlbpmmjckoaleaaGreat
namespace Go.Proofs.YtlbpmmjckoaleaaGreat
open Go.RowKit
set_option linter.unusedVariables false
set_option linter.unusedSimpArgs false

def setV (V : Nat → Int) (k : Nat) (a : Int) : Nat → Int := fun j => if j = k then a else V j
/-- a body that was pushed -/
def pushV (V : Nat → Int) (p q : Int) : Nat → Int := if V 8 = 0 then V else setV (setV (setV V 6 (clampZ 20000000 (V 6 + p))) 7 (clampZ 20000000 (V 7 + q))) 11 0
theorem pushC_V (C : Nat → Nat → Int) (k : Nat) (p q : Int) : (fun i => pushC C k p q i k) = pushV (fun i => C i k) p q := by
  funext i
  unfold pushC pushV
  by_cases m : C 8 k = 0
  · rw [if_pos m, if_pos m]
  · rw [if_neg m, if_neg m]; simp [setC, setV]
end Go.Proofs.YtlbpmmjckoaleaaGreat
namespace Go.Proofs.YtlbpmmjckoaleaaGreat
open Go.RowKit
set_option linter.unusedVariables false
set_option linter.unusedSimpArgs false

theorem mnmx (n m : Int) (h : 0 ≤ m) : mn (mx n (-m)) m = clampZ m n := by unfold mn mx clampZ; repeat (first | omega | split)
structure PB (w wx : World) (U : Nat → Int) (p q : Int) : Prop where
  inn : ∀ j, j < 12 → wx.cell? ⟨w.heap.size, j, none⟩ = some (.int .i64 (U j))
  v0 : wx.cell? ⟨w.heap.size + 1, 0, none⟩ = some (.int .i64 p)
  v1 : wx.cell? ⟨w.heap.size + 1, 1, none⟩ = some (.int .i64 q)
  res : ∀ j, j < 12 → wx.cell? ⟨w.heap.size + 1 + 1, j, none⟩ = some (.int .i64 0)
  nfi : ∀ j, j < 12 → wx.frozen? ⟨w.heap.size, j, none⟩ = false
  nfr : ∀ j, j < 12 → wx.frozen? ⟨w.heap.size + 1 + 1, j, none⟩ = false
  bel : Below w.heap.size w wx
  big : w.heap.size + 1 + 1 < wx.heap.size
theorem PB.drew {w wx : World} {U : Nat → Int} {p q : Int} (h : PB w wx U p q) : PB w wx.drew U p q := ⟨h.inn, h.v0, h.v1, h.res, h.nfi, h.nfr, h.bel.drew, h.big⟩
theorem PB.set {w wx : World} {U : Nat → Int} {p q : Int} (h : PB w wx U p q) {k : Nat} (hk : k < 12) (a : Int) : PB w (wx.setCell ⟨w.heap.size, k, none⟩ (.int .i64 a)) (setV U k a) p q := by
  refine ⟨fun j hj => ?_, ?_, ?_, fun j hj => ?_, fun j hj => ?_, fun j hj => ?_, ?_, ?_⟩
  · by_cases e : j = k
    · subst e; rw [cset_same (h.inn j hj)]; simp [setV]
    · rw [cset_other (by intro x; injection x with x1 x2; exact e x2.symm), h.inn j hj]; simp [setV, e]
  · rw [cset_far (by simp)]; exact h.v0
  · rw [cset_far (by simp)]; exact h.v1
  · rw [cset_far (by simp; omega)]; exact h.res j hj
  · rw [World.frozen?_setCell]; exact h.nfi j hj
  · rw [World.frozen?_setCell]; exact h.nfr j hj
  · exact h.bel.setCell (by simp) _
  · simpa using h.big
theorem PB.start (w : World) (V : Nat → Int) (p q : Int) : PB w (((w.alloc (.cells #[.int .i64 (V 0), .int .i64 (V 1), .int .i64 (V 2), .int .i64 (V 3), .int .i64 (V 4), .int .i64 (V 5), .int .i64 (V 6), .int .i64 (V 7), .int .i64 (V 8), .int .i64 (V 9), .int .i64 (V 10), .int .i64 (V 11)] 48)).alloc (.cells #[.int .i64 p, .int .i64 q] 46)).alloc (.cells #[.int .i64 0, .int .i64 0, .int .i64 0, .int .i64 0, .int .i64 0, .int .i64 0, .int .i64 0, .int .i64 0, .int .i64 0, .int .i64 0, .int .i64 0, .int .i64 0] 48)) V p q := ⟨(fun j hj => by (rcases (show j = 0 ∨ j = 1 ∨ j = 2 ∨ j = 3 ∨ j = 4 ∨ j = 5 ∨ j = 6 ∨ j = 7 ∨ j = 8 ∨ j = 9 ∨ j = 10 ∨ j = 11 by omega) with rfl | rfl | rfl | rfl | rfl | rfl | rfl | rfl | rfl | rfl | rfl | rfl <;> (first | (go_simp; done) | (simp; done)))), by go_simp, by go_simp, (fun j hj => by (rcases (show j = 0 ∨ j = 1 ∨ j = 2 ∨ j = 3 ∨ j = 4 ∨ j = 5 ∨ j = 6 ∨ j = 7 ∨ j = 8 ∨ j = 9 ∨ j = 10 ∨ j = 11 by omega) with rfl | rfl | rfl | rfl | rfl | rfl | rfl | rfl | rfl | rfl | rfl | rfl <;> (first | (go_simp; done) | (simp; done)))), (fun j hj => by (rcases (show j = 0 ∨ j = 1 ∨ j = 2 ∨ j = 3 ∨ j = 4 ∨ j = 5 ∨ j = 6 ∨ j = 7 ∨ j = 8 ∨ j = 9 ∨ j = 10 ∨ j = 11 by omega) with rfl | rfl | rfl | rfl | rfl | rfl | rfl | rfl | rfl | rfl | rfl | rfl <;> (first | (go_simp; done) | (simp; done)))), (fun j hj => by (rcases (show j = 0 ∨ j = 1 ∨ j = 2 ∨ j = 3 ∨ j = 4 ∨ j = 5 ∨ j = 6 ∨ j = 7 ∨ j = 8 ∨ j = 9 ∨ j = 10 ∨ j = 11 by omega) with rfl | rfl | rfl | rfl | rfl | rfl | rfl | rfl | rfl | rfl | rfl | rfl <;> (first | (go_simp; done) | (simp; done)))), bel_a, by simp⟩

end Go.Proofs.YtlbpmmjckoaleaaGreat
namespace Go.Proofs.YtlbpmmjckoaleaaGreat
open Go.RowKit
set_option linter.unusedVariables false
set_option linter.unusedSimpArgs false
/-- a body that is awake, and can move -/
def liveV (V : Nat → Int) : Bool := decide (0 < V 8) && !decide (8 ≤ V 11)
def pullV (g : Int) (V : Nat → Int) : Nat → Int := bif liveV V then setV V 7 (clampZ 20000000 (V 7 - g * V 8)) else V
theorem live_t {V : Nat → Int} (h1 : 0 < V 8) (h2 : decide (8 ≤ V 11) = false) : liveV V = true := by unfold liveV; rw [h2]; simp [h1]
theorem live_m {V : Nat → Int} (h1 : ¬ 0 < V 8) : liveV V = false := by unfold liveV; simp [h1]
theorem live_s {V : Nat → Int} (h2 : decide (8 ≤ V 11) = true) : liveV V = false := by unfold liveV; rw [h2]; simp
end Go.Proofs.YtlbpmmjckoaleaaGreat
namespace Go.Proofs.YtlbpmmjckoaleaaGreat
open Go.RowKit
set_option linter.unusedVariables false
set_option linter.unusedSimpArgs false

structure TB (w wx : World) (V : Nat → Int) (m : Nat) : Prop where
  inn : ∀ j, j < 12 → wx.cell? ⟨w.heap.size, j, none⟩ = some (.int .i64 (V j))
  out : ∀ j, j < 12 → wx.cell? ⟨w.heap.size + 1 + 1, j, none⟩ = some (.int .i64 (if j < m then V j else 0))
  res : ∀ j, j < 12 → wx.cell? ⟨w.heap.size + 1, j, none⟩ = some (.int .i64 0)
  nfo : ∀ j, j < 12 → wx.frozen? ⟨w.heap.size + 1 + 1, j, none⟩ = false
  nfr : ∀ j, j < 12 → wx.frozen? ⟨w.heap.size + 1, j, none⟩ = false
  bel : Below w.heap.size w wx
  big : w.heap.size + 1 + 1 < wx.heap.size
theorem TB.below {w wx w1 : World} {V : Nat → Int} {m : Nat} (h : TB w wx V m) (hb : Below wx.heap.size wx w1) : TB w w1 V m := by
  have big := h.big
  exact ⟨fun j hj => (hb.cell (by simp; omega)).trans (h.inn j hj), fun j hj => (hb.cell (by simp; omega)).trans (h.out j hj), fun j hj => (hb.cell (by simp; omega)).trans (h.res j hj), fun j hj => (hb.frozen (by simp; omega)).trans (h.nfo j hj), fun j hj => (hb.frozen (by simp; omega)).trans (h.nfr j hj), h.bel.trans (hb.mono (by omega)), Nat.lt_of_lt_of_le big hb.size⟩
theorem TB.step {w w1 : World} {V : Nat → Int} {m : Nat} (h : TB w w1 V m) (hm : m < 12) : TB w (w1.setCell ⟨w.heap.size + 1 + 1, m, none⟩ (.int .i64 (V m))) V (m + 1) := by
  have big := h.big
  refine ⟨fun j hj => ?_, fun j hj => ?_, fun j hj => ?_, fun j hj => ?_, fun j hj => ?_, ?_, ?_⟩
  · rw [cset_far (by simp; omega)]; exact h.inn j hj
  · by_cases e : j = m
    · subst e; rw [cset_same (h.out j hj), if_pos (by omega)]
    · rw [cset_other (by intro q; injection q with q1 q2; exact e q2.symm), h.out j hj]
      by_cases q : j < m
      · rw [if_pos q, if_pos (by omega)]
      · rw [if_neg q, if_neg (by omega)]
  · rw [cset_far (by simp)]; exact h.res j hj
  · rw [World.frozen?_setCell]; exact h.nfo j hj
  · rw [World.frozen?_setCell]; exact h.nfr j hj
  · exact h.bel.setCell (by simp; omega) _
  · simpa using big
set_option maxRecDepth 20000 in
set_option maxHeartbeats 8000000 in
theorem toBody_any (V : Nat → Int) (w : World) :
    Calls Tryz.prog 26 #[bodyW V] w fun e w' => e = .returned (bodyW V) ∧ Below w.heap.size w w' := by
  have hset := cset_map
  go_enter Tryz.func26, Tryz.ntmps26
  go_upto_region 2 with fail
  have h0 : TB w (((w.alloc (.cells #[.int .i64 (V 0), .int .i64 (V 1), .int .i64 (V 2), .int .i64 (V 3), .int .i64 (V 4), .int .i64 (V 5), .int .i64 (V 6), .int .i64 (V 7), .int .i64 (V 8), .int .i64 (V 9), .int .i64 (V 10), .int .i64 (V 11)] 53)).alloc (.cells #[.int .i64 0, .int .i64 0, .int .i64 0, .int .i64 0, .int .i64 0, .int .i64 0, .int .i64 0, .int .i64 0, .int .i64 0, .int .i64 0, .int .i64 0, .int .i64 0] 48)).alloc (.cells #[.int .i64 0, .int .i64 0, .int .i64 0, .int .i64 0, .int .i64 0, .int .i64 0, .int .i64 0, .int .i64 0, .int .i64 0, .int .i64 0, .int .i64 0, .int .i64 0] 48)) V 0 := ⟨(by intro i hi; rcases (show i = 0 ∨ i = 1 ∨ i = 2 ∨ i = 3 ∨ i = 4 ∨ i = 5 ∨ i = 6 ∨ i = 7 ∨ i = 8 ∨ i = 9 ∨ i = 10 ∨ i = 11 by omega) with rfl | rfl | rfl | rfl | rfl | rfl | rfl | rfl | rfl | rfl | rfl | rfl <;> (first | (go_simp; done) | (simp; done))), (by intro i hi; rcases (show i = 0 ∨ i = 1 ∨ i = 2 ∨ i = 3 ∨ i = 4 ∨ i = 5 ∨ i = 6 ∨ i = 7 ∨ i = 8 ∨ i = 9 ∨ i = 10 ∨ i = 11 by omega) with rfl | rfl | rfl | rfl | rfl | rfl | rfl | rfl | rfl | rfl | rfl | rfl <;> (first | (go_simp; done) | (simp; done))), (by intro i hi; rcases (show i = 0 ∨ i = 1 ∨ i = 2 ∨ i = 3 ∨ i = 4 ∨ i = 5 ∨ i = 6 ∨ i = 7 ∨ i = 8 ∨ i = 9 ∨ i = 10 ∨ i = 11 by omega) with rfl | rfl | rfl | rfl | rfl | rfl | rfl | rfl | rfl | rfl | rfl | rfl <;> (first | (go_simp; done) | (simp; done))), (by intro i hi; rcases (show i = 0 ∨ i = 1 ∨ i = 2 ∨ i = 3 ∨ i = 4 ∨ i = 5 ∨ i = 6 ∨ i = 7 ∨ i = 8 ∨ i = 9 ∨ i = 10 ∨ i = 11 by omega) with rfl | rfl | rfl | rfl | rfl | rfl | rfl | rfl | rfl | rfl | rfl | rfl <;> (first | (go_simp; done) | (simp; done))), (by intro i hi; rcases (show i = 0 ∨ i = 1 ∨ i = 2 ∨ i = 3 ∨ i = 4 ∨ i = 5 ∨ i = 6 ∨ i = 7 ∨ i = 8 ∨ i = 9 ∨ i = 10 ∨ i = 11 by omega) with rfl | rfl | rfl | rfl | rfl | rfl | rfl | rfl | rfl | rfl | rfl | rfl <;> (first | (go_simp; done) | (simp; done))), bel_a, by simp⟩
  generalize (((w.alloc (.cells #[.int .i64 (V 0), .int .i64 (V 1), .int .i64 (V 2), .int .i64 (V 3), .int .i64 (V 4), .int .i64 (V 5), .int .i64 (V 6), .int .i64 (V 7), .int .i64 (V 8), .int .i64 (V 9), .int .i64 (V 10), .int .i64 (V 11)] 53)).alloc (.cells #[.int .i64 0, .int .i64 0, .int .i64 0, .int .i64 0, .int .i64 0, .int .i64 0, .int .i64 0, .int .i64 0, .int .i64 0, .int .i64 0, .int .i64 0, .int .i64 0] 48)).alloc (.cells #[.int .i64 0, .int .i64 0, .int .i64 0, .int .i64 0, .int .i64 0, .int .i64 0, .int .i64 0, .int .i64 0, .int .i64 0, .int .i64 0, .int .i64 0, .int .i64 0] 48)) = wx0 at h0 ⊢
  have i0 := h0.inn 0 (by omega)
  have o0 := h0.out 0 (by omega)
  have f0 := h0.nfo 0 (by omega)
  have z0 := h0.big
  go_cut [] (fun wc => TB w wc V 1)
  case first =>
    go_wp2_with fail
    go_meet
    exact (h0.step (by omega))
  case rest =>
  have h1 := hcut
  clear hcut z0 h0 i0 o0 f0
  go_upto_region 3 with fail
  have i1 := h1.inn 1 (by omega)
  have o1 := h1.out 1 (by omega)
  have f1 := h1.nfo 1 (by omega)
  have i2 := h1.inn 2 (by omega)
  have o2 := h1.out 2 (by omega)
  have f2 := h1.nfo 2 (by omega)
  have i3 := h1.inn 3 (by omega)
  have o3 := h1.out 3 (by omega)
  have f3 := h1.nfo 3 (by omega)
  have z0 := h1.big
  go_cut [] (fun wc => TB w wc V 4)
  case first =>
    go_wp2_with (go_at_call 39; refine (toShape_any _ _ _ _).mono ?_; rintro e w1 ⟨rfl, hb1⟩; obtain ⟨hc1, hf1⟩ := bcell hb1; have hz1 := hb1.size; (try simp only [World.size_drew, World.size_alloc, World.size_setCell] at hc1 hf1 hz1); have hk1x0 := fun o => hc1 (w.heap.size) o (by omega); have hj1x0 := fun o => hf1 (w.heap.size) o (by omega); have hq1x0 : w.heap.size < w1.heap.size := (by omega); have hk1x1 := fun o => hc1 (w.heap.size + 1 + 1) o (by omega); have hj1x1 := fun o => hf1 (w.heap.size + 1 + 1) o (by omega); have hq1x1 : w.heap.size + 1 + 1 < w1.heap.size := (by omega); clear hc1 hf1)
    go_meet
    exact ((((TB.below h1 hb1).step (by omega)).step (by omega)).step (by omega))
  case rest =>
  have h2 := hcut
  clear hcut z0 h1 i1 o1 f1 i2 o2 f2 i3 o3 f3
  go_upto_region 4 with fail
  have i4 := h2.inn 4 (by omega)
  have o4 := h2.out 4 (by omega)
  have f4 := h2.nfo 4 (by omega)
  have i5 := h2.inn 5 (by omega)
  have o5 := h2.out 5 (by omega)
  have f5 := h2.nfo 5 (by omega)
  have z0 := h2.big
  go_cut [] (fun wc => TB w wc V 6)
  case first =>
    go_wp2_with (go_at_call 40; refine (toVec_any _ _ _).mono ?_; rintro e w1 ⟨rfl, hb1⟩; obtain ⟨hc1, hf1⟩ := bcell hb1; have hz1 := hb1.size; (try simp only [World.size_drew, World.size_alloc, World.size_setCell] at hc1 hf1 hz1); have hk1x0 := fun o => hc1 (w.heap.size) o (by omega); have hj1x0 := fun o => hf1 (w.heap.size) o (by omega); have hq1x0 : w.heap.size < w1.heap.size := (by omega); have hk1x1 := fun o => hc1 (w.heap.size + 1 + 1) o (by omega); have hj1x1 := fun o => hf1 (w.heap.size + 1 + 1) o (by omega); have hq1x1 : w.heap.size + 1 + 1 < w1.heap.size := (by omega); clear hc1 hf1)
    go_meet
    exact (((TB.below h2 hb1).step (by omega)).step (by omega))
  case rest =>
  have h3 := hcut
  clear hcut z0 h2 i4 o4 f4 i5 o5 f5
  go_upto_region 5 with fail
  have i6 := h3.inn 6 (by omega)
  have o6 := h3.out 6 (by omega)
  have f6 := h3.nfo 6 (by omega)
  have i7 := h3.inn 7 (by omega)
  have o7 := h3.out 7 (by omega)
  have f7 := h3.nfo 7 (by omega)
  have z0 := h3.big
  go_cut [] (fun wc => TB w wc V 8)
  case first =>
    go_wp2_with (go_at_call 40; refine (toVec_any _ _ _).mono ?_; rintro e w1 ⟨rfl, hb1⟩; obtain ⟨hc1, hf1⟩ := bcell hb1; have hz1 := hb1.size; (try simp only [World.size_drew, World.size_alloc, World.size_setCell] at hc1 hf1 hz1); have hk1x0 := fun o => hc1 (w.heap.size) o (by omega); have hj1x0 := fun o => hf1 (w.heap.size) o (by omega); have hq1x0 : w.heap.size < w1.heap.size := (by omega); have hk1x1 := fun o => hc1 (w.heap.size + 1 + 1) o (by omega); have hj1x1 := fun o => hf1 (w.heap.size + 1 + 1) o (by omega); have hq1x1 : w.heap.size + 1 + 1 < w1.heap.size := (by omega); clear hc1 hf1)
    go_meet
    exact (((TB.below h3 hb1).step (by omega)).step (by omega))
  case rest =>
  have h4 := hcut
  clear hcut z0 h3 i6 o6 f6 i7 o7 f7
  go_upto_region 6 with fail
  have i8 := h4.inn 8 (by omega)
  have o8 := h4.out 8 (by omega)
  have f8 := h4.nfo 8 (by omega)
  have z0 := h4.big
  go_cut [] (fun wc => TB w wc V 9)
  case first =>
    go_wp2_with fail
    go_meet
    exact (h4.step (by omega))
  case rest =>
  have h5 := hcut
  clear hcut z0 h4 i8 o8 f8
  go_upto_region 7 with fail
  have i9 := h5.inn 9 (by omega)
  have o9 := h5.out 9 (by omega)
  have f9 := h5.nfo 9 (by omega)
  have z0 := h5.big
  go_cut [] (fun wc => TB w wc V 10)
  case first =>
    go_wp2_with fail
    go_meet
    exact (h5.step (by omega))
  case rest =>
  have h6 := hcut
  clear hcut z0 h5 i9 o9 f9
  go_upto_region 8 with fail
  have i10 := h6.inn 10 (by omega)
  have o10 := h6.out 10 (by omega)
  have f10 := h6.nfo 10 (by omega)
  have z0 := h6.big
  go_cut [] (fun wc => TB w wc V 11)
  case first =>
    go_wp2_with fail
    go_meet
    exact (h6.step (by omega))
  case rest =>
  have h7 := hcut
  clear hcut z0 h6 i10 o10 f10
  go_upto_region 9 with fail
  have i11 := h7.inn 11 (by omega)
  have o11 := h7.out 11 (by omega)
  have f11 := h7.nfo 11 (by omega)
  have z0 := h7.big
  go_cut [] (fun wc => TB w wc V 12)
  case first =>
    go_wp2_with fail
    go_meet
    exact (h7.step (by omega))
  case rest =>
  have h8 := hcut
  clear hcut z0 h7 i11 o11 f11
  go_upto_region 10 with fail
  have o0 : wc.cell? ⟨w.heap.size + 1 + 1, 0, none⟩ = some (.int .i64 (V 0)) := h8.out 0 (by omega)
  have r0 := h8.res 0 (by omega)
  have f0 := h8.nfr 0 (by omega)
  have o1 : wc.cell? ⟨w.heap.size + 1 + 1, 1, none⟩ = some (.int .i64 (V 1)) := h8.out 1 (by omega)
  have r1 := h8.res 1 (by omega)
  have f1 := h8.nfr 1 (by omega)
  have o2 : wc.cell? ⟨w.heap.size + 1 + 1, 2, none⟩ = some (.int .i64 (V 2)) := h8.out 2 (by omega)
  have r2 := h8.res 2 (by omega)
  have f2 := h8.nfr 2 (by omega)
  have o3 : wc.cell? ⟨w.heap.size + 1 + 1, 3, none⟩ = some (.int .i64 (V 3)) := h8.out 3 (by omega)
  have r3 := h8.res 3 (by omega)
  have f3 := h8.nfr 3 (by omega)
  have o4 : wc.cell? ⟨w.heap.size + 1 + 1, 4, none⟩ = some (.int .i64 (V 4)) := h8.out 4 (by omega)
  have r4 := h8.res 4 (by omega)
  have f4 := h8.nfr 4 (by omega)
  have o5 : wc.cell? ⟨w.heap.size + 1 + 1, 5, none⟩ = some (.int .i64 (V 5)) := h8.out 5 (by omega)
  have r5 := h8.res 5 (by omega)
  have f5 := h8.nfr 5 (by omega)
  have o6 : wc.cell? ⟨w.heap.size + 1 + 1, 6, none⟩ = some (.int .i64 (V 6)) := h8.out 6 (by omega)
  have r6 := h8.res 6 (by omega)
  have f6 := h8.nfr 6 (by omega)
  have o7 : wc.cell? ⟨w.heap.size + 1 + 1, 7, none⟩ = some (.int .i64 (V 7)) := h8.out 7 (by omega)
  have r7 := h8.res 7 (by omega)
  have f7 := h8.nfr 7 (by omega)
  have o8 : wc.cell? ⟨w.heap.size + 1 + 1, 8, none⟩ = some (.int .i64 (V 8)) := h8.out 8 (by omega)
  have r8 := h8.res 8 (by omega)
  have f8 := h8.nfr 8 (by omega)
  have o9 : wc.cell? ⟨w.heap.size + 1 + 1, 9, none⟩ = some (.int .i64 (V 9)) := h8.out 9 (by omega)
  have r9 := h8.res 9 (by omega)
  have f9 := h8.nfr 9 (by omega)
  have o10 : wc.cell? ⟨w.heap.size + 1 + 1, 10, none⟩ = some (.int .i64 (V 10)) := h8.out 10 (by omega)
  have r10 := h8.res 10 (by omega)
  have f10 := h8.nfr 10 (by omega)
  have o11 : wc.cell? ⟨w.heap.size + 1 + 1, 11, none⟩ = some (.int .i64 (V 11)) := h8.out 11 (by omega)
  have r11 := h8.res 11 (by omega)
  have f11 := h8.nfr 11 (by omega)
  have z0 := h8.big
  have hbel := h8.bel
  clear h8
  go_wp2_with fail
  exact bodyPost_ret (v := bodyW V) (by simp [results, Tryz.results26, go_sem, *]) rfl ⟨rfl, bel_a⟩
end Go.Proofs.YtlbpmmjckoaleaaGreat
namespace Go.Proofs.YtlbpmmjckoaleaaGreat
open Go.RowKit
set_option linter.unusedVariables false
set_option linter.unusedSimpArgs false

def mvX (V : Nat → Int) (p : Int) : Int := clampZ 2560000 (V 4 + p)
def mvY (V : Nat → Int) (q : Int) : Int := clampZ 2560000 (V 5 + q)
def moveV (V : Nat → Int) (p q : Int) : Nat → Int := setV (setV (setV (setV V 4 (mvX V p)) 5 (mvY V q)) 6 (if mvX V p = V 4 + p then V 6 else 0)) 7 (if mvY V q = V 5 + q then V 7 else 0)
theorem setV_self (V : Nat → Int) (k : Nat) : setV V k (V k) = V := by funext j; unfold setV; split <;> simp_all
theorem setV_at (V : Nat → Int) (k j : Nat) (a : Int) (h : j ≠ k) : setV V k a j = V j := by unfold setV; rw [if_neg h]
theorem setV_is (V : Nat → Int) (k : Nat) (a : Int) : setV V k a k = a := by unfold setV; rw [if_pos rfl]

end Go.Proofs.YtlbpmmjckoaleaaGreat
namespace Go.Proofs.YtlbpmmjckoaleaaGreat
open Go.RowKit
set_option linter.unusedVariables false
set_option linter.unusedSimpArgs false
theorem sp_bd {V : Nat → Int} (b6 : -20000000 ≤ V 6 ∧ V 6 ≤ 20000000) (b7 : -20000000 ≤ V 7 ∧ V 7 ≤ 20000000) : (-20000000 ≤ spX V ∧ spX V ≤ 20000000) ∧ (-20000000 ≤ spY V ∧ spY V ≤ 20000000) := by
  have t6 := tdiv_bd (x := V 6) (B := 20000000) (V 8) (by omega)
  have t7 := tdiv_bd (x := V 7) (B := 20000000) (V 8) (by omega)
  unfold spX spY
  by_cases m : V 8 = 0
  · rw [if_pos m, if_pos m]; omega
  · rw [if_neg m, if_neg m]; omega
def goV (V : Nat → Int) : Nat → Int := bif liveV V then moveV V (spX V) (spY V) else V
end Go.Proofs.YtlbpmmjckoaleaaGreat
namespace Go.Proofs.YtlbpmmjckoaleaaGreat
open Go.RowKit
set_option linter.unusedVariables false
set_option linter.unusedSimpArgs false
structure Hide (p : Prop) : Prop where
  out : p
theorem tdiv_le {x B m : Int} (hm : 0 < m) (hB : 0 ≤ B) (h : -(B * m) ≤ x ∧ x ≤ B * m) : -B ≤ x.tdiv m ∧ x.tdiv m ≤ B := by
  by_cases h0 : 0 ≤ x
  · rw [Int.tdiv_eq_ediv_of_nonneg h0]
    have q1 := Int.ediv_nonneg h0 (Int.le_of_lt hm)
    exact ⟨by omega, Int.ediv_le_of_le_mul hm h.2⟩
  · have e : x.tdiv m = -((-x) / m) := by rw [← Int.tdiv_eq_ediv_of_nonneg (show 0 ≤ -x by omega), Int.neg_tdiv, Int.neg_neg]
    rw [e]
    have q1 := Int.ediv_nonneg (show 0 ≤ -x by omega) (Int.le_of_lt hm)
    have q2 := Int.ediv_le_of_le_mul hm (show -x ≤ B * m by omega)
    omega
/-- what a body takes of a way apart -/
def shareV (V W : Nat → Int) (n : Int) : Int := bif decide (V 8 = 0) then 0 else bif decide (W 8 = 0) then n else (n * W 8).tdiv (V 8 + W 8)
theorem share_bd {V W : Nat → Int} {n : Int} (h0 : 0 ≤ V 8) (h1 : 0 ≤ W 8) (hn : 0 ≤ n) : 0 ≤ shareV V W n ∧ shareV V W n ≤ n := by
  unfold shareV
  by_cases m0 : V 8 = 0
  · rw [decide_eq_true m0]; exact ⟨Int.le_refl _, hn⟩
  · rw [decide_eq_false m0]
    by_cases m1 : W 8 = 0
    · rw [decide_eq_true m1]; exact ⟨hn, Int.le_refl _⟩
    · rw [decide_eq_false m1]
      show 0 ≤ (n * W 8).tdiv (V 8 + W 8) ∧ (n * W 8).tdiv (V 8 + W 8) ≤ n
      have p0 : 0 ≤ n * W 8 := Int.mul_nonneg hn h1
      rw [Int.tdiv_eq_ediv_of_nonneg p0]
      refine ⟨Int.ediv_nonneg p0 (by omega), ?_⟩
      refine Int.ediv_le_of_le_mul (by omega) ?_
      exact Int.mul_le_mul_of_nonneg_left (by omega) hn
/-- two bodies of a list moved apart -/
def apartU (U : Nat → Int) (A B : Nat) (X Y D : Int) : Nat → Int :=
  bif decide (0 < (D - 64).tdiv 4) then
    (let U1 := bif decide (0 < U (A * 12 + 8)) then putRow U A (moveV (fun j => U (A * 12 + j)) ((-X * shareV (fun j => U (A * 12 + j)) (fun j => U (B * 12 + j)) ((D - 64).tdiv 4)).tdiv 256) ((-Y * shareV (fun j => U (A * 12 + j)) (fun j => U (B * 12 + j)) ((D - 64).tdiv 4)).tdiv 256)) else U
     bif decide (0 < U (B * 12 + 8)) then putRow U1 B (moveV (fun j => U (B * 12 + j)) ((X * shareV (fun j => U (B * 12 + j)) (fun j => U (A * 12 + j)) ((D - 64).tdiv 4)).tdiv 256) ((Y * shareV (fun j => U (B * 12 + j)) (fun j => U (A * 12 + j)) ((D - 64).tdiv 4)).tdiv 256)) else U1)
  else U
structure Ap8 (w wc : World) (A B : Nat) (X Y D : Int) (ba bb : Nat) (VA VB : Nat → Int) : Prop where
  k0 : wc.cell? ⟨w.heap.size, 0, none⟩ = some (.int .i64 (A : Int))
  k1 : wc.cell? ⟨w.heap.size, 1, none⟩ = some (.int .i64 (B : Int))
  k2 : wc.cell? ⟨w.heap.size, 2, none⟩ = some (.int .i64 X)
  k3 : wc.cell? ⟨w.heap.size, 3, none⟩ = some (.int .i64 Y)
  k4 : wc.cell? ⟨w.heap.size, 4, none⟩ = some (.int .i64 D)
  ca : ∀ j, j < 12 → wc.cell? ⟨ba, j, none⟩ = some (.int .i64 (VA j))
  cb : ∀ j, j < 12 → wc.cell? ⟨bb, j, none⟩ = some (.int .i64 (VB j))
  l0 : w.heap.size < wc.heap.size
  la : ba < wc.heap.size
  lb : bb < wc.heap.size
  ga : w.heap.size < ba
  gb : w.heap.size < bb
theorem Ap8.on {w wc w' : World} {A B : Nat} {X Y D : Int} {ba bb : Nat} {VA VB : Nat → Int} (h : Ap8 w wc A B X Y D ba bb VA VB) (hb : Below wc.heap.size wc w') : Ap8 w w' A B X Y D ba bb VA VB :=
  have k := fun j => hb.cell (p := ⟨w.heap.size, j, none⟩) h.l0
  ⟨(k 0).trans h.k0, (k 1).trans h.k1, (k 2).trans h.k2, (k 3).trans h.k3, (k 4).trans h.k4, fun j hj => (hb.cell (p := ⟨ba, j, none⟩) h.la).trans (h.ca j hj), fun j hj => (hb.cell (p := ⟨bb, j, none⟩) h.lb).trans (h.cb j hj), Nat.lt_of_lt_of_le h.l0 hb.size, Nat.lt_of_lt_of_le h.la hb.size, Nat.lt_of_lt_of_le h.lb hb.size, h.ga, h.gb⟩
theorem Ap8.fr {w wc w' : World} {A B g : Nat} {X Y D : Int} {ba bb : Nat} {VA VB : Nat → Int} (h : Ap8 w wc A B X Y D ba bb VA VB) (hs : Fr (fun b => b = g) wc w') (hg : g < w.heap.size) : Ap8 w w' A B X Y D ba bb VA VB := by
  have ga := h.ga
  have gb := h.gb
  have k := fun j => hs.cell (p := ⟨w.heap.size, j, none⟩) h.l0 (by simp; omega)
  exact ⟨(k 0).trans h.k0, (k 1).trans h.k1, (k 2).trans h.k2, (k 3).trans h.k3, (k 4).trans h.k4, fun j hj => (hs.cell (p := ⟨ba, j, none⟩) h.la (by simp; omega)).trans (h.ca j hj), fun j hj => (hs.cell (p := ⟨bb, j, none⟩) h.lb (by simp; omega)).trans (h.cb j hj), Nat.lt_of_lt_of_le h.l0 hs.size, Nat.lt_of_lt_of_le h.la hs.size, Nat.lt_of_lt_of_le h.lb hs.size, h.ga, h.gb⟩
end Go.Proofs.YtlbpmmjckoaleaaGreat
namespace Go.Proofs.YtlbpmmjckoaleaaGreat
open Go.RowKit
set_option linter.unusedVariables false
set_option linter.unusedSimpArgs false
/-- a body's count of quiet steps: V now, r what it was -/
def quietV (r : Int) (V : Nat → Int) : Nat → Int := bif decide (V 8 = 0) || decide (8 ≤ V 11) then V else setV V 11 (bif decide (-8 ≤ spX V ∧ spX V ≤ 8) && decide (-8 ≤ spY V ∧ spY V ≤ 8) then mn (r + 1) 7 else 0)
end Go.Proofs.YtlbpmmjckoaleaaGreat
namespace Go.Proofs.YtlbpmmjckoaleaaGreat
open Go.RowKit
set_option linter.unusedVariables false
set_option linter.unusedSimpArgs false
/-- a body that is ok, said plainly -/
structure BOk (V : Nat → Int) : Prop where
  i0 : 0 ≤ V 0 ∧ V 0 ≤ 999999999
  sh : shB (V 1) (V 2) (V 3) = true
  a4 : -2560000 ≤ V 4 ∧ V 4 ≤ 2560000
  a5 : -2560000 ≤ V 5 ∧ V 5 ≤ 2560000
  d6 : -20000000 ≤ V 6 ∧ V 6 ≤ 20000000
  d7 : -20000000 ≤ V 7 ∧ V 7 ≤ 20000000
  m8 : 0 ≤ V 8 ∧ V 8 ≤ 1000
  b9 : 0 ≤ V 9 ∧ V 9 ≤ 256
  r10 : 0 ≤ V 10 ∧ V 10 ≤ 256
  q11 : 0 ≤ V 11 ∧ V 11 ≤ 8
  fx : V 8 = 0 → V 11 = 0
  rs : (V 8 ≠ 0 ∧ V 11 ≠ 8) ∨ (V 6 = 0 ∧ V 7 = 0)
theorem BOk.of {V : Nat → Int} (h : bodyB V = true) : BOk V := by
  unfold bodyB restB inB at h
  simp only [Bool.and_eq_true, decide_eq_true_eq] at h
  obtain ⟨a0, a1, a2, a3, a4, a5, a6, a7, a8, a9⟩ := h
  exact ⟨a0, a1, by omega, by omega, by omega, by omega, a4, a5, a6, a7, a8, a9⟩
theorem BOk.to {V : Nat → Int} (h : BOk V) : bodyB V = true := by
  obtain ⟨a0, a1, a2, a3, a4, a5, a6, a7, a8, a9, b0, b1⟩ := h
  unfold bodyB restB inB
  simp only [Bool.and_eq_true, decide_eq_true_eq]
  exact ⟨a0, a1, by omega, by omega, a6, a7, a8, a9, b0, b1⟩
theorem clampZ_in (l n : Int) (h : 0 ≤ l) : -l ≤ clampZ l n ∧ clampZ l n ≤ l := by unfold clampZ; repeat (first | omega | split)
theorem setV_ne {V : Nat → Int} {k j : Nat} {a : Int} (h : j ≠ k) : setV V k a j = V j := by unfold setV; rw [if_neg h]
theorem setV_eq {V : Nat → Int} {k : Nat} {a : Int} : setV V k a k = a := by unfold setV; rw [if_pos rfl]
theorem pull_ok {V : Nat → Int} (g : Int) (h : BOk V) : BOk (pullV g V) := by
  unfold pullV
  cases hl : liveV V with
  | false => exact h
  | true =>
    unfold liveV at hl
    simp only [Bool.and_eq_true, decide_eq_true_eq, Bool.not_eq_true', decide_eq_false_iff_not] at hl
    have c := clampZ_in 20000000 (V 7 - g * V 8) (by omega)
    generalize clampZ 20000000 (V 7 - g * V 8) = y at c
    show BOk (setV V 7 y)
    obtain ⟨a0, a1, a2, a3, a4, a5, a6, a7, a8, a9, b0, b1⟩ := h
    constructor <;> simp only [setV, reduceIte] <;> (first | assumption | omega | (simp; assumption) | (simp; omega))
theorem setV4 (V : Nat → Int) (x y u v : Int) : (∀ j, j ≠ 4 → j ≠ 5 → j ≠ 6 → j ≠ 7 → setV (setV (setV (setV V 4 x) 5 y) 6 u) 7 v j = V j) ∧ setV (setV (setV (setV V 4 x) 5 y) 6 u) 7 v 4 = x ∧ setV (setV (setV (setV V 4 x) 5 y) 6 u) 7 v 5 = y ∧ setV (setV (setV (setV V 4 x) 5 y) 6 u) 7 v 6 = u ∧ setV (setV (setV (setV V 4 x) 5 y) 6 u) 7 v 7 = v := by
  refine ⟨fun j h4 h5 h6 h7 => ?_, ?_, ?_, ?_, setV_eq⟩
  · rw [setV_ne h7, setV_ne h6, setV_ne h5, setV_ne h4]
  · rw [setV_ne (by decide), setV_ne (by decide), setV_ne (by decide), setV_eq]
  · rw [setV_ne (by decide), setV_ne (by decide), setV_eq]
  · rw [setV_ne (by decide), setV_eq]
theorem setV3 (V : Nat → Int) (x y u : Int) : (∀ j, j ≠ 6 → j ≠ 7 → j ≠ 11 → setV (setV (setV V 6 x) 7 y) 11 u j = V j) ∧ setV (setV (setV V 6 x) 7 y) 11 u 6 = x ∧ setV (setV (setV V 6 x) 7 y) 11 u 7 = y ∧ setV (setV (setV V 6 x) 7 y) 11 u 11 = u := by
  refine ⟨fun j h6 h7 h11 => ?_, ?_, ?_, setV_eq⟩
  · rw [setV_ne h11, setV_ne h7, setV_ne h6]
  · rw [setV_ne (by decide), setV_ne (by decide), setV_eq]
  · rw [setV_ne (by decide), setV_eq]
theorem move_ok {V : Nat → Int} (p q : Int) (h : BOk V) (hm : V 8 ≠ 0) : BOk (moveV V p q) := by
  have c1 := clampZ_in 2560000 (V 4 + p) (by omega)
  have c2 := clampZ_in 2560000 (V 5 + q) (by omega)
  unfold moveV mvX mvY
  generalize clampZ 2560000 (V 4 + p) = x at c1
  generalize clampZ 2560000 (V 5 + q) = y at c2
  obtain ⟨a0, a1, a2, a3, a4, a5, a6, a7, a8, a9, b0, b1⟩ := h
  obtain ⟨u, hu⟩ : ∃ u, (if x = V 4 + p then V 6 else 0) = u := ⟨_, rfl⟩
  obtain ⟨v, hv⟩ : ∃ v, (if y = V 5 + q then V 7 else 0) = v := ⟨_, rfl⟩
  rw [hu, hv]
  have bu : (-20000000 ≤ u ∧ u ≤ 20000000) ∧ (V 6 = 0 → u = 0) := by rw [← hu]; split <;> constructor <;> (try intro) <;> omega
  have bv : (-20000000 ≤ v ∧ v ≤ 20000000) ∧ (V 7 = 0 → v = 0) := by rw [← hv]; split <;> constructor <;> (try intro) <;> omega
  obtain ⟨e, e4, e5, e6, e7⟩ := setV4 V x y u v
  generalize setV (setV (setV (setV V 4 x) 5 y) 6 u) 7 v = W at e e4 e5 e6 e7
  have w0 := e 0 (by decide) (by decide) (by decide) (by decide)
  have w1 := e 1 (by decide) (by decide) (by decide) (by decide)
  have w2 := e 2 (by decide) (by decide) (by decide) (by decide)
  have w3 := e 3 (by decide) (by decide) (by decide) (by decide)
  have w8 := e 8 (by decide) (by decide) (by decide) (by decide)
  have w9 := e 9 (by decide) (by decide) (by decide) (by decide)
  have wa := e 10 (by decide) (by decide) (by decide) (by decide)
  have wb := e 11 (by decide) (by decide) (by decide) (by decide)
  exact ⟨by rw [w0]; exact a0, by rw [w1, w2, w3]; exact a1, by rw [e4]; exact c1, by rw [e5]; exact c2, by rw [e6]; exact bu.1, by rw [e7]; exact bv.1, by rw [w8]; exact a6, by rw [w9]; exact a7, by rw [wa]; exact a8, by rw [wb]; exact a9, by rw [w8, wb]; exact b0, by rw [w8, wb, e6, e7]; rcases b1 with q | q; exact .inl q; exact .inr ⟨bu.2 q.1, bv.2 q.2⟩⟩
theorem go_ok {V : Nat → Int} (h : BOk V) : BOk (goV V) := by
  unfold goV
  cases hl : liveV V with
  | false => exact h
  | true =>
    unfold liveV at hl
    simp only [Bool.and_eq_true, decide_eq_true_eq, Bool.not_eq_true', decide_eq_false_iff_not] at hl
    exact move_ok _ _ h (by omega)
theorem quiet_ok {V : Nat → Int} (r : Int) (h : BOk V) (hr : 0 ≤ r ∧ r ≤ 8) : BOk (quietV r V) := by
  unfold quietV
  cases hl : (decide (V 8 = 0) || decide (8 ≤ V 11)) with
  | true => exact h
  | false =>
    simp only [Bool.or_eq_false_iff, decide_eq_false_iff_not] at hl
    obtain ⟨z, hz⟩ : ∃ z, (bif decide (-8 ≤ spX V ∧ spX V ≤ 8) && decide (-8 ≤ spY V ∧ spY V ≤ 8) then mn (r + 1) 7 else 0) = z := ⟨_, rfl⟩
    rw [hz]
    have bz : 0 ≤ z ∧ z ≤ 7 := by
      rw [← hz]
      cases (decide (-8 ≤ spX V ∧ spX V ≤ 8) && decide (-8 ≤ spY V ∧ spY V ≤ 8))
      · exact ⟨by show (0 : Int) ≤ 0; omega, by show (0 : Int) ≤ 7; omega⟩
      · show 0 ≤ mn (r + 1) 7 ∧ mn (r + 1) 7 ≤ 7
        unfold mn
        split <;> omega
    show BOk (setV V 11 z)
    obtain ⟨a0, a1, a2, a3, a4, a5, a6, a7, a8, a9, b0, b1⟩ := h
    constructor <;> simp only [setV, reduceIte] <;> (first | assumption | omega | (simp; assumption) | (simp; omega))
theorem push_ok {V : Nat → Int} (p q : Int) (h : BOk V) : BOk (pushV V p q) := by
  unfold pushV
  by_cases m : V 8 = 0
  · rw [if_pos m]; exact h
  · rw [if_neg m]
    have c1 := clampZ_in 20000000 (V 6 + p) (by omega)
    have c2 := clampZ_in 20000000 (V 7 + q) (by omega)
    generalize clampZ 20000000 (V 6 + p) = x at c1
    generalize clampZ 20000000 (V 7 + q) = y at c2
    obtain ⟨a0, a1, a2, a3, a4, a5, a6, a7, a8, a9, b0, b1⟩ := h
    obtain ⟨e, e6, e7, eb⟩ := setV3 V x y 0
    generalize setV (setV (setV V 6 x) 7 y) 11 0 = W at e e6 e7 eb
    have w0 := e 0 (by decide) (by decide) (by decide)
    have w1 := e 1 (by decide) (by decide) (by decide)
    have w2 := e 2 (by decide) (by decide) (by decide)
    have w3 := e 3 (by decide) (by decide) (by decide)
    have w4 := e 4 (by decide) (by decide) (by decide)
    have w5 := e 5 (by decide) (by decide) (by decide)
    have w8 := e 8 (by decide) (by decide) (by decide)
    have w9 := e 9 (by decide) (by decide) (by decide)
    have wa := e 10 (by decide) (by decide) (by decide)
    exact ⟨by rw [w0]; exact a0, by rw [w1, w2, w3]; exact a1, by rw [w4]; exact a2, by rw [w5]; exact a3, by rw [e6]; exact c1, by rw [e7]; exact c2, by rw [w8]; exact a6, by rw [w9]; exact a7, by rw [wa]; exact a8, by rw [eb]; omega, by rw [eb]; exact fun _ => rfl, .inl ⟨by rw [w8]; exact m, by rw [eb]; decide⟩⟩
/-- one row replaced by a body with the same number -/
theorem Bods.put {n : Nat} {U : Nat → Int} {k : Nat} {V : Nat → Int} (h : Bods n U) (hk : k < n) (hV : BOk V) (h0 : V 0 = U (k * 12)) : Bods n (putRow U k V) := by
  have at_ : ∀ i j, i ≠ k → j < 12 → putRow U k V (i * 12 + j) = U (i * 12 + j) := fun i j hi hj => by unfold putRow; rw [if_neg (by omega)]
  have at0 : ∀ i, putRow U k V (i * 12) = U (i * 12) := fun i => by
    by_cases e : i = k
    · subst e; unfold putRow; rw [if_pos (by omega), Nat.sub_self]; exact h0
    · have := at_ i 0 e (by omega); simpa using this
  refine ⟨h.le, fun i hi => ?_, fun i hi => ?_⟩
  · by_cases e : i = k
    · subst e
      rw [bodyB_cong (W := V) (fun j hj => by unfold putRow; rw [if_pos (by omega), Nat.add_sub_cancel_left])]
      exact hV.to
    · rw [bodyB_cong (W := fun j => U (i * 12 + j)) (fun j hj => at_ i j e hj)]
      exact h.ok i hi
  · rw [at0, at0]; exact h.asc i hi
theorem Bods.row {n : Nat} {U : Nat → Int} (h : Bods n U) {k : Nat} (hk : k < n) : BOk (fun j => U (k * 12 + j)) := BOk.of (h.ok k hk)
theorem Bods.pull {n : Nat} {U : Nat → Int} (h : Bods n U) (g : Int) : Bods n (mapR (fun _ V => pullV g V) U n) :=
  h.map (fun k hk => (pull_ok g (h.row hk)).to) (fun k hk => by show pullV g (fun j => U (k * 12 + j)) 0 = _; unfold pullV; cases liveV (fun j => U (k * 12 + j)) <;> rfl)
theorem Bods.go {n : Nat} {U : Nat → Int} (h : Bods n U) : Bods n (mapR (fun _ V => goV V) U n) :=
  h.map (fun k hk => (go_ok (h.row hk)).to) (fun k hk => by show goV (fun j => U (k * 12 + j)) 0 = _; unfold goV; cases liveV (fun j => U (k * 12 + j)) <;> rfl)
theorem Bods.quiet {n : Nat} {U U2 : Nat → Int} (h : Bods n U) (h2 : Bods n U2) : Bods n (mapR (fun i V => quietV (U2 (i * 12 + 11)) V) U n) :=
  h.map (fun k hk => (quiet_ok _ (h.row hk) (h2.row hk).q11).to) (fun k hk => by show quietV _ (fun j => U (k * 12 + j)) 0 = _; unfold quietV; cases (decide ((fun j => U (k * 12 + j)) 8 = 0) || decide (8 ≤ (fun j => U (k * 12 + j)) 11)) <;> rfl)
end Go.Proofs.YtlbpmmjckoaleaaGreat
namespace Go.Proofs.YtlbpmmjckoaleaaGreat
open Go.RowKit
set_option linter.unusedVariables false
set_option linter.unusedSimpArgs false
theorem moveV_0 (V : Nat → Int) (p q : Int) : moveV V p q 0 = V 0 := rfl
theorem moveV_8 (V : Nat → Int) (p q : Int) : moveV V p q 8 = V 8 := rfl
theorem putRow_8 {U V : Nat → Int} {k i : Nat} (h : V 8 = U (k * 12 + 8)) : putRow U k V (i * 12 + 8) = U (i * 12 + 8) := by
  unfold putRow
  by_cases e : i = k
  · subst e; rw [if_pos (by omega), Nat.add_sub_cancel_left]; exact h
  · rw [if_neg (by omega)]
theorem putRow_else {U V : Nat → Int} {k i j : Nat} (e : i ≠ k) (hj : j < 12) : putRow U k V (i * 12 + j) = U (i * 12 + j) := by unfold putRow; rw [if_neg (by omega)]
theorem Bods.apart {n : Nat} {U : Nat → Int} (h : Bods n U) {A B : Nat} (hA : A < n) (hB : B < n) (hAB : A ≠ B) (X Y D : Int) : Bods n (apartU U A B X Y D) ∧ ∀ i, apartU U A B X Y D (i * 12 + 8) = U (i * 12 + 8) := by
  unfold apartU
  cases decide (0 < (D - 64).tdiv 4) with
  | false => exact ⟨h, fun i => rfl⟩
  | true =>
    simp only [cond_true]
    generalize (-X * shareV (fun j => U (A * 12 + j)) (fun j => U (B * 12 + j)) ((D - 64).tdiv 4)).tdiv 256 = p
    generalize (-Y * shareV (fun j => U (A * 12 + j)) (fun j => U (B * 12 + j)) ((D - 64).tdiv 4)).tdiv 256 = q
    generalize (X * shareV (fun j => U (B * 12 + j)) (fun j => U (A * 12 + j)) ((D - 64).tdiv 4)).tdiv 256 = r
    generalize (Y * shareV (fun j => U (B * 12 + j)) (fun j => U (A * 12 + j)) ((D - 64).tdiv 4)).tdiv 256 = s
    have key : ∀ U1 : Nat → Int, Bods n U1 → (∀ i, U1 (i * 12 + 8) = U (i * 12 + 8)) → (U1 (B * 12) = U (B * 12)) → Bods n (bif decide (0 < U (B * 12 + 8)) then putRow U1 B (moveV (fun j => U (B * 12 + j)) r s) else U1) ∧ ∀ i, (bif decide (0 < U (B * 12 + 8)) then putRow U1 B (moveV (fun j => U (B * 12 + j)) r s) else U1) (i * 12 + 8) = U (i * 12 + 8) := by
      intro U1 h1 h8 h0
      by_cases m : 0 < U (B * 12 + 8)
      · rw [decide_eq_true m]
        exact ⟨h1.put hB (move_ok r s (h.row hB) (by show U (B * 12 + 8) ≠ 0; omega)) (by rw [moveV_0, h0]; rfl), fun i => (putRow_8 (by rw [moveV_8, h8])).trans (h8 i)⟩
      · rw [decide_eq_false m]; exact ⟨h1, h8⟩
    by_cases m : 0 < U (A * 12 + 8)
    · rw [decide_eq_true m]
      refine key _ (h.put hA (move_ok p q (h.row hA) (by show U (A * 12 + 8) ≠ 0; omega)) (by rw [moveV_0]; rfl)) (fun i => putRow_8 (by rw [moveV_8])) ?_
      have := putRow_else (U := U) (V := moveV (fun j => U (A * 12 + j)) p q) (k := A) (i := B) (j := 0) (fun e => hAB e.symm) (by omega)
      simpa using this
    · rw [decide_eq_false m]; exact key U h (fun i => rfl) rfl
def apartN (C U : Nat → Int) : Nat → Nat → Int
  | 0 => U
  | k + 1 => apartU (apartN C U k) (C (k * 5)).toNat (C (k * 5 + 1)).toNat (C (k * 5 + 2)) (C (k * 5 + 3)) (C (k * 5 + 4))
/-- contacts that are ok: places of bodies, two different ones; the hit within limits -/
structure CtOk (n m : Nat) (C : Nat → Int) : Prop where
  a : ∀ k, k < m → 0 ≤ C (k * 5) ∧ C (k * 5) < (n : Int)
  b : ∀ k, k < m → 0 ≤ C (k * 5 + 1) ∧ C (k * 5 + 1) < (n : Int)
  ne : ∀ k, k < m → C (k * 5) ≠ C (k * 5 + 1)
  x : ∀ k, k < m → -256 ≤ C (k * 5 + 2) ∧ C (k * 5 + 2) ≤ 256
  y : ∀ k, k < m → -256 ≤ C (k * 5 + 3) ∧ C (k * 5 + 3) ≤ 256
  d : ∀ k, k < m → 0 ≤ C (k * 5 + 4) ∧ C (k * 5 + 4) ≤ 102400
theorem Bods.aparts {n m : Nat} {U C : Nat → Int} (h : Bods n U) (hC : CtOk n m C) : ∀ k, k ≤ m → Bods n (apartN C U k) ∧ ∀ i, apartN C U k (i * 12 + 8) = U (i * 12 + 8)
  | 0, _ => ⟨h, fun i => rfl⟩
  | k + 1, hk => by
    obtain ⟨h1, h2⟩ := Bods.aparts h hC k (by omega)
    have ha := hC.a k (by omega)
    have hb := hC.b k (by omega)
    have hn := hC.ne k (by omega)
    obtain ⟨q1, q2⟩ := h1.apart (A := (C (k * 5)).toNat) (B := (C (k * 5 + 1)).toNat) (by omega) (by omega) (by omega) (C (k * 5 + 2)) (C (k * 5 + 3)) (C (k * 5 + 4))
    exact ⟨q1, fun i => (q2 i).trans (h2 i)⟩
end Go.Proofs.YtlbpmmjckoaleaaGreat
