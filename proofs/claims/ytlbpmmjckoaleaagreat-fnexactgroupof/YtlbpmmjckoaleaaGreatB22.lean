/- Texts of a proof. -/
import Derived.Test.YtlbpmmjckoaleaaGreatB1
import Derived.Test.YtlbpmmjckoaleaaGreatB2
import Derived.Lib.AppendZeros
import Derived.Deep.RegionHeld3
import Derived.Deep.DeepCutAuto
import Derived.Test.YtlbpmmjckoaleaaGreatB7
import Derived.Test.YtlbpmmjckoaleaaGreatB12
import Derived.Test.YtlbpmmjckoaleaaGreatB3
import Derived.Test.YtlbpmmjckoaleaaGreatCsOf
set_option maxHeartbeats 16000000
set_option maxRecDepth 20000
namespace Go.Proofs.YtlbpmmjckoaleaaGreat
open Go.RowKit
set_option linter.unusedVariables false
set_option linter.unusedSimpArgs false
def lenS (L : Nat → Nat) : Nat → Nat
  | 0 => 0
  | k + 1 => lenS L k + L k
abbrev zcBody : Value := .agg #[.int .i64 0, .int .i64 0, .int .i64 0, .int .i64 0, .int .i64 0, .int .i64 0, .int .i64 0, .int .i64 0, .int .i64 0, .int .i64 0, .int .i64 0, .int .i64 0]
theorem infoItBody : (Tryz.prog.info? 48).map (fun i => (i.zero, i.size, i.bytes)) = some (some zcBody, 12, 96) := by kernel_rfl
def catSBody (L : Nat → Nat) (X : Nat → Nat → Int) : Nat → Nat → Int
  | 0 => fun _ => 0
  | k + 1 => cat (lenS L k * 12) (catSBody L X k) (X k)
abbrev zcPair : Value := .agg #[.int .i64 0, .int .i64 0]
def catSPair (L : Nat → Nat) (X : Nat → Nat → Int) : Nat → Nat → Int
  | 0 => fun _ => 0
  | k + 1 => cat (lenS L k * 2) (catSPair L X k) (X k)
abbrev bodyW (V : Nat → Int) : Value := .agg #[.int .i64 (V 0), .int .i64 (V 1), .int .i64 (V 2), .int .i64 (V 3), .int .i64 (V 4), .int .i64 (V 5), .int .i64 (V 6), .int .i64 (V 7), .int .i64 (V 8), .int .i64 (V 9), .int .i64 (V 10), .int .i64 (V 11)]
theorem l1In_q (n l h : Int) (b : Bool) (w : World) (e : decide (l ≤ n ∧ n ≤ h) = b) :
    Calls Tryz.prog 54 #[.int .i64 n, .int .i64 l, .int .i64 h] w fun e w' => e = .returned (.bool b) ∧ Below w.heap.size w w' := by
  subst e; exact (l1In_any n l h w).mono fun e w' ⟨a, b⟩ => ⟨a, b ▸ Below.refl _ _⟩
theorem sShapeOk_q (k wd h : Int) (b : Bool) (w : World) (e : shB k wd h = b) :
    Calls Tryz.prog 55 #[s3 k wd h] w fun e w' => e = .returned (.bool b) ∧ Below w.heap.size w w' := by
  subst e; exact sShapeOk_any k wd h w
theorem l3Place_q (x y : Int) (b : Bool) (w : World) (e : inB 2560000 x y = b) :
    Calls Tryz.prog 56 #[vv x y] w fun e w' => e = .returned (.bool b) ∧ Below w.heap.size w w' := by
  subst e; exact l3Place_any x y w
theorem l6Drive_any (x y : Int) (w : World) :
    Calls Tryz.prog 57 #[vv x y] w fun e w' => e = .returned (.bool (inB 20000000 x y)) ∧ Below w.heap.size w w' := by
  have hset := cset_map
  go_enter Tryz.func57, Tryz.ntmps57
  go_wp2_with (go_at_call 54; refine (l1In_any _ _ _ _).mono ?_; rintro e w' ⟨rfl, rfl⟩)
  all_goals
    go_ret
    refine ⟨ret_bool ?_, bel_a⟩
    unfold inB
    first | (simp [*]; done) | (simp at *; omega) | (simp [*]; omega)
theorem l6Drive_q (x y : Int) (b : Bool) (w : World) (e : inB 20000000 x y = b) :
    Calls Tryz.prog 57 #[vv x y] w fun e w' => e = .returned (.bool b) ∧ Below w.heap.size w w' := by
  subst e; exact l6Drive_any x y w
theorem sBodyOk_0 (V : Nat → Int) (w : World) (k0 : decide (0 ≤ V 0 ∧ V 0 ≤ 999999999) = false) :
    Calls Tryz.prog 35 #[bodyW V] w fun e w' => e = .returned (.bool false) ∧ Below w.heap.size w w' := by
  have hset := cset_map
  go_enter Tryz.func35, Tryz.ntmps35
  go_wp2_with (first
      | (go_at_call 54; refine (l1In_q _ _ _ _ _ (by with_reducible assumption)).mono ?_; rintro e w1 ⟨rfl, hb1⟩; obtain ⟨hc1, hf1⟩ := bcell hb1; have hz1 := hb1.size; (try simp only [World.size_drew, World.size_alloc, World.size_setCell] at hc1 hf1 hz1); obtain ⟨hk1x0, hj1x0, hq1x0⟩ := kfa hb1 (w.heap.size); clear hc1 hf1)
      | (go_at_call 55; refine (sShapeOk_q _ _ _ _ _ (by with_reducible assumption)).mono ?_; rintro e w2 ⟨rfl, hb2⟩; obtain ⟨hc2, hf2⟩ := bcell hb2; have hz2 := hb2.size; (try simp only [World.size_drew, World.size_alloc, World.size_setCell] at hc2 hf2 hz2); obtain ⟨hk2x0, hj2x0, hq2x0⟩ := kfa hb2 (w.heap.size); clear hc2 hf2)
      | (go_at_call 56; refine (l3Place_q _ _ _ _ (by with_reducible assumption)).mono ?_; rintro e w3 ⟨rfl, hb3⟩; obtain ⟨hc3, hf3⟩ := bcell hb3; have hz3 := hb3.size; (try simp only [World.size_drew, World.size_alloc, World.size_setCell] at hc3 hf3 hz3); obtain ⟨hk3x0, hj3x0, hq3x0⟩ := kfa hb3 (w.heap.size); clear hc3 hf3)
      | (go_at_call 57; refine (l6Drive_q _ _ _ _ (by with_reducible assumption)).mono ?_; rintro e w4 ⟨rfl, hb4⟩; obtain ⟨hc4, hf4⟩ := bcell hb4; have hz4 := hb4.size; (try simp only [World.size_drew, World.size_alloc, World.size_setCell] at hc4 hf4 hz4); obtain ⟨hk4x0, hj4x0, hq4x0⟩ := kfa hb4 (w.heap.size); clear hc4 hf4))
  go_ret
  exact ⟨rfl, bel_a⟩
theorem sBodyOk_1 (V : Nat → Int) (w : World) (k0 : decide (0 ≤ V 0 ∧ V 0 ≤ 999999999) = true) (k1 : shB (V 1) (V 2) (V 3) = false) :
    Calls Tryz.prog 35 #[bodyW V] w fun e w' => e = .returned (.bool false) ∧ Below w.heap.size w w' := by
  have hset := cset_map
  go_enter Tryz.func35, Tryz.ntmps35
  go_wp2_with (first
      | (go_at_call 54; refine (l1In_q _ _ _ _ _ (by with_reducible assumption)).mono ?_; rintro e w1 ⟨rfl, hb1⟩; obtain ⟨hc1, hf1⟩ := bcell hb1; have hz1 := hb1.size; (try simp only [World.size_drew, World.size_alloc, World.size_setCell] at hc1 hf1 hz1); obtain ⟨hk1x0, hj1x0, hq1x0⟩ := kfa hb1 (w.heap.size); clear hc1 hf1)
      | (go_at_call 55; refine (sShapeOk_q _ _ _ _ _ (by with_reducible assumption)).mono ?_; rintro e w2 ⟨rfl, hb2⟩; obtain ⟨hc2, hf2⟩ := bcell hb2; have hz2 := hb2.size; (try simp only [World.size_drew, World.size_alloc, World.size_setCell] at hc2 hf2 hz2); obtain ⟨hk2x0, hj2x0, hq2x0⟩ := kfa hb2 (w.heap.size); clear hc2 hf2)
      | (go_at_call 56; refine (l3Place_q _ _ _ _ (by with_reducible assumption)).mono ?_; rintro e w3 ⟨rfl, hb3⟩; obtain ⟨hc3, hf3⟩ := bcell hb3; have hz3 := hb3.size; (try simp only [World.size_drew, World.size_alloc, World.size_setCell] at hc3 hf3 hz3); obtain ⟨hk3x0, hj3x0, hq3x0⟩ := kfa hb3 (w.heap.size); clear hc3 hf3)
      | (go_at_call 57; refine (l6Drive_q _ _ _ _ (by with_reducible assumption)).mono ?_; rintro e w4 ⟨rfl, hb4⟩; obtain ⟨hc4, hf4⟩ := bcell hb4; have hz4 := hb4.size; (try simp only [World.size_drew, World.size_alloc, World.size_setCell] at hc4 hf4 hz4); obtain ⟨hk4x0, hj4x0, hq4x0⟩ := kfa hb4 (w.heap.size); clear hc4 hf4))
  go_ret
  exact ⟨rfl, bel_a⟩
theorem sBodyOk_2 (V : Nat → Int) (w : World) (k0 : decide (0 ≤ V 0 ∧ V 0 ≤ 999999999) = true) (k1 : shB (V 1) (V 2) (V 3) = true) (k2 : inB 2560000 (V 4) (V 5) = false) :
    Calls Tryz.prog 35 #[bodyW V] w fun e w' => e = .returned (.bool false) ∧ Below w.heap.size w w' := by
  have hset := cset_map
  go_enter Tryz.func35, Tryz.ntmps35
  go_wp2_with (first
      | (go_at_call 54; refine (l1In_q _ _ _ _ _ (by with_reducible assumption)).mono ?_; rintro e w1 ⟨rfl, hb1⟩; obtain ⟨hc1, hf1⟩ := bcell hb1; have hz1 := hb1.size; (try simp only [World.size_drew, World.size_alloc, World.size_setCell] at hc1 hf1 hz1); obtain ⟨hk1x0, hj1x0, hq1x0⟩ := kfa hb1 (w.heap.size); clear hc1 hf1)
      | (go_at_call 55; refine (sShapeOk_q _ _ _ _ _ (by with_reducible assumption)).mono ?_; rintro e w2 ⟨rfl, hb2⟩; obtain ⟨hc2, hf2⟩ := bcell hb2; have hz2 := hb2.size; (try simp only [World.size_drew, World.size_alloc, World.size_setCell] at hc2 hf2 hz2); obtain ⟨hk2x0, hj2x0, hq2x0⟩ := kfa hb2 (w.heap.size); clear hc2 hf2)
      | (go_at_call 56; refine (l3Place_q _ _ _ _ (by with_reducible assumption)).mono ?_; rintro e w3 ⟨rfl, hb3⟩; obtain ⟨hc3, hf3⟩ := bcell hb3; have hz3 := hb3.size; (try simp only [World.size_drew, World.size_alloc, World.size_setCell] at hc3 hf3 hz3); obtain ⟨hk3x0, hj3x0, hq3x0⟩ := kfa hb3 (w.heap.size); clear hc3 hf3)
      | (go_at_call 57; refine (l6Drive_q _ _ _ _ (by with_reducible assumption)).mono ?_; rintro e w4 ⟨rfl, hb4⟩; obtain ⟨hc4, hf4⟩ := bcell hb4; have hz4 := hb4.size; (try simp only [World.size_drew, World.size_alloc, World.size_setCell] at hc4 hf4 hz4); obtain ⟨hk4x0, hj4x0, hq4x0⟩ := kfa hb4 (w.heap.size); clear hc4 hf4))
  go_ret
  exact ⟨rfl, bel_a⟩
theorem sBodyOk_3 (V : Nat → Int) (w : World) (k0 : decide (0 ≤ V 0 ∧ V 0 ≤ 999999999) = true) (k1 : shB (V 1) (V 2) (V 3) = true) (k2 : inB 2560000 (V 4) (V 5) = true) (k3 : inB 20000000 (V 6) (V 7) = false) :
    Calls Tryz.prog 35 #[bodyW V] w fun e w' => e = .returned (.bool false) ∧ Below w.heap.size w w' := by
  have hset := cset_map
  go_enter Tryz.func35, Tryz.ntmps35
  go_wp2_with (first
      | (go_at_call 54; refine (l1In_q _ _ _ _ _ (by with_reducible assumption)).mono ?_; rintro e w1 ⟨rfl, hb1⟩; obtain ⟨hc1, hf1⟩ := bcell hb1; have hz1 := hb1.size; (try simp only [World.size_drew, World.size_alloc, World.size_setCell] at hc1 hf1 hz1); obtain ⟨hk1x0, hj1x0, hq1x0⟩ := kfa hb1 (w.heap.size); clear hc1 hf1)
      | (go_at_call 55; refine (sShapeOk_q _ _ _ _ _ (by with_reducible assumption)).mono ?_; rintro e w2 ⟨rfl, hb2⟩; obtain ⟨hc2, hf2⟩ := bcell hb2; have hz2 := hb2.size; (try simp only [World.size_drew, World.size_alloc, World.size_setCell] at hc2 hf2 hz2); obtain ⟨hk2x0, hj2x0, hq2x0⟩ := kfa hb2 (w.heap.size); clear hc2 hf2)
      | (go_at_call 56; refine (l3Place_q _ _ _ _ (by with_reducible assumption)).mono ?_; rintro e w3 ⟨rfl, hb3⟩; obtain ⟨hc3, hf3⟩ := bcell hb3; have hz3 := hb3.size; (try simp only [World.size_drew, World.size_alloc, World.size_setCell] at hc3 hf3 hz3); obtain ⟨hk3x0, hj3x0, hq3x0⟩ := kfa hb3 (w.heap.size); clear hc3 hf3)
      | (go_at_call 57; refine (l6Drive_q _ _ _ _ (by with_reducible assumption)).mono ?_; rintro e w4 ⟨rfl, hb4⟩; obtain ⟨hc4, hf4⟩ := bcell hb4; have hz4 := hb4.size; (try simp only [World.size_drew, World.size_alloc, World.size_setCell] at hc4 hf4 hz4); obtain ⟨hk4x0, hj4x0, hq4x0⟩ := kfa hb4 (w.heap.size); clear hc4 hf4))
  go_ret
  exact ⟨rfl, bel_a⟩
theorem sBodyOk_4 (V : Nat → Int) (w : World) (k0 : decide (0 ≤ V 0 ∧ V 0 ≤ 999999999) = true) (k1 : shB (V 1) (V 2) (V 3) = true) (k2 : inB 2560000 (V 4) (V 5) = true) (k3 : inB 20000000 (V 6) (V 7) = true) (k4 : decide (0 ≤ V 8 ∧ V 8 ≤ 1000) = false) :
    Calls Tryz.prog 35 #[bodyW V] w fun e w' => e = .returned (.bool false) ∧ Below w.heap.size w w' := by
  have hset := cset_map
  go_enter Tryz.func35, Tryz.ntmps35
  go_wp2_with (first
      | (go_at_call 54; refine (l1In_q _ _ _ _ _ (by with_reducible assumption)).mono ?_; rintro e w1 ⟨rfl, hb1⟩; obtain ⟨hc1, hf1⟩ := bcell hb1; have hz1 := hb1.size; (try simp only [World.size_drew, World.size_alloc, World.size_setCell] at hc1 hf1 hz1); obtain ⟨hk1x0, hj1x0, hq1x0⟩ := kfa hb1 (w.heap.size); clear hc1 hf1)
      | (go_at_call 55; refine (sShapeOk_q _ _ _ _ _ (by with_reducible assumption)).mono ?_; rintro e w2 ⟨rfl, hb2⟩; obtain ⟨hc2, hf2⟩ := bcell hb2; have hz2 := hb2.size; (try simp only [World.size_drew, World.size_alloc, World.size_setCell] at hc2 hf2 hz2); obtain ⟨hk2x0, hj2x0, hq2x0⟩ := kfa hb2 (w.heap.size); clear hc2 hf2)
      | (go_at_call 56; refine (l3Place_q _ _ _ _ (by with_reducible assumption)).mono ?_; rintro e w3 ⟨rfl, hb3⟩; obtain ⟨hc3, hf3⟩ := bcell hb3; have hz3 := hb3.size; (try simp only [World.size_drew, World.size_alloc, World.size_setCell] at hc3 hf3 hz3); obtain ⟨hk3x0, hj3x0, hq3x0⟩ := kfa hb3 (w.heap.size); clear hc3 hf3)
      | (go_at_call 57; refine (l6Drive_q _ _ _ _ (by with_reducible assumption)).mono ?_; rintro e w4 ⟨rfl, hb4⟩; obtain ⟨hc4, hf4⟩ := bcell hb4; have hz4 := hb4.size; (try simp only [World.size_drew, World.size_alloc, World.size_setCell] at hc4 hf4 hz4); obtain ⟨hk4x0, hj4x0, hq4x0⟩ := kfa hb4 (w.heap.size); clear hc4 hf4))
  go_ret
  exact ⟨rfl, bel_a⟩
theorem sBodyOk_5 (V : Nat → Int) (w : World) (k0 : decide (0 ≤ V 0 ∧ V 0 ≤ 999999999) = true) (k1 : shB (V 1) (V 2) (V 3) = true) (k2 : inB 2560000 (V 4) (V 5) = true) (k3 : inB 20000000 (V 6) (V 7) = true) (k4 : decide (0 ≤ V 8 ∧ V 8 ≤ 1000) = true) (k5 : decide (0 ≤ V 9 ∧ V 9 ≤ 256) = false) :
    Calls Tryz.prog 35 #[bodyW V] w fun e w' => e = .returned (.bool false) ∧ Below w.heap.size w w' := by
  have hset := cset_map
  go_enter Tryz.func35, Tryz.ntmps35
  go_wp2_with (first
      | (go_at_call 54; refine (l1In_q _ _ _ _ _ (by with_reducible assumption)).mono ?_; rintro e w1 ⟨rfl, hb1⟩; obtain ⟨hc1, hf1⟩ := bcell hb1; have hz1 := hb1.size; (try simp only [World.size_drew, World.size_alloc, World.size_setCell] at hc1 hf1 hz1); obtain ⟨hk1x0, hj1x0, hq1x0⟩ := kfa hb1 (w.heap.size); clear hc1 hf1)
      | (go_at_call 55; refine (sShapeOk_q _ _ _ _ _ (by with_reducible assumption)).mono ?_; rintro e w2 ⟨rfl, hb2⟩; obtain ⟨hc2, hf2⟩ := bcell hb2; have hz2 := hb2.size; (try simp only [World.size_drew, World.size_alloc, World.size_setCell] at hc2 hf2 hz2); obtain ⟨hk2x0, hj2x0, hq2x0⟩ := kfa hb2 (w.heap.size); clear hc2 hf2)
      | (go_at_call 56; refine (l3Place_q _ _ _ _ (by with_reducible assumption)).mono ?_; rintro e w3 ⟨rfl, hb3⟩; obtain ⟨hc3, hf3⟩ := bcell hb3; have hz3 := hb3.size; (try simp only [World.size_drew, World.size_alloc, World.size_setCell] at hc3 hf3 hz3); obtain ⟨hk3x0, hj3x0, hq3x0⟩ := kfa hb3 (w.heap.size); clear hc3 hf3)
      | (go_at_call 57; refine (l6Drive_q _ _ _ _ (by with_reducible assumption)).mono ?_; rintro e w4 ⟨rfl, hb4⟩; obtain ⟨hc4, hf4⟩ := bcell hb4; have hz4 := hb4.size; (try simp only [World.size_drew, World.size_alloc, World.size_setCell] at hc4 hf4 hz4); obtain ⟨hk4x0, hj4x0, hq4x0⟩ := kfa hb4 (w.heap.size); clear hc4 hf4))
  go_ret
  exact ⟨rfl, bel_a⟩
theorem sBodyOk_6 (V : Nat → Int) (w : World) (k0 : decide (0 ≤ V 0 ∧ V 0 ≤ 999999999) = true) (k1 : shB (V 1) (V 2) (V 3) = true) (k2 : inB 2560000 (V 4) (V 5) = true) (k3 : inB 20000000 (V 6) (V 7) = true) (k4 : decide (0 ≤ V 8 ∧ V 8 ≤ 1000) = true) (k5 : decide (0 ≤ V 9 ∧ V 9 ≤ 256) = true) (k6 : decide (0 ≤ V 10 ∧ V 10 ≤ 256) = false) :
    Calls Tryz.prog 35 #[bodyW V] w fun e w' => e = .returned (.bool false) ∧ Below w.heap.size w w' := by
  have hset := cset_map
  go_enter Tryz.func35, Tryz.ntmps35
  go_wp2_with (first
      | (go_at_call 54; refine (l1In_q _ _ _ _ _ (by with_reducible assumption)).mono ?_; rintro e w1 ⟨rfl, hb1⟩; obtain ⟨hc1, hf1⟩ := bcell hb1; have hz1 := hb1.size; (try simp only [World.size_drew, World.size_alloc, World.size_setCell] at hc1 hf1 hz1); obtain ⟨hk1x0, hj1x0, hq1x0⟩ := kfa hb1 (w.heap.size); clear hc1 hf1)
      | (go_at_call 55; refine (sShapeOk_q _ _ _ _ _ (by with_reducible assumption)).mono ?_; rintro e w2 ⟨rfl, hb2⟩; obtain ⟨hc2, hf2⟩ := bcell hb2; have hz2 := hb2.size; (try simp only [World.size_drew, World.size_alloc, World.size_setCell] at hc2 hf2 hz2); obtain ⟨hk2x0, hj2x0, hq2x0⟩ := kfa hb2 (w.heap.size); clear hc2 hf2)
      | (go_at_call 56; refine (l3Place_q _ _ _ _ (by with_reducible assumption)).mono ?_; rintro e w3 ⟨rfl, hb3⟩; obtain ⟨hc3, hf3⟩ := bcell hb3; have hz3 := hb3.size; (try simp only [World.size_drew, World.size_alloc, World.size_setCell] at hc3 hf3 hz3); obtain ⟨hk3x0, hj3x0, hq3x0⟩ := kfa hb3 (w.heap.size); clear hc3 hf3)
      | (go_at_call 57; refine (l6Drive_q _ _ _ _ (by with_reducible assumption)).mono ?_; rintro e w4 ⟨rfl, hb4⟩; obtain ⟨hc4, hf4⟩ := bcell hb4; have hz4 := hb4.size; (try simp only [World.size_drew, World.size_alloc, World.size_setCell] at hc4 hf4 hz4); obtain ⟨hk4x0, hj4x0, hq4x0⟩ := kfa hb4 (w.heap.size); clear hc4 hf4))
  go_ret
  exact ⟨rfl, bel_a⟩
theorem sBodyOk_7 (V : Nat → Int) (w : World) (k0 : decide (0 ≤ V 0 ∧ V 0 ≤ 999999999) = true) (k1 : shB (V 1) (V 2) (V 3) = true) (k2 : inB 2560000 (V 4) (V 5) = true) (k3 : inB 20000000 (V 6) (V 7) = true) (k4 : decide (0 ≤ V 8 ∧ V 8 ≤ 1000) = true) (k5 : decide (0 ≤ V 9 ∧ V 9 ≤ 256) = true) (k6 : decide (0 ≤ V 10 ∧ V 10 ≤ 256) = true) (k7 : decide (0 ≤ V 11 ∧ V 11 ≤ 8) = false) :
    Calls Tryz.prog 35 #[bodyW V] w fun e w' => e = .returned (.bool false) ∧ Below w.heap.size w w' := by
  have hset := cset_map
  go_enter Tryz.func35, Tryz.ntmps35
  go_wp2_with (first
      | (go_at_call 54; refine (l1In_q _ _ _ _ _ (by with_reducible assumption)).mono ?_; rintro e w1 ⟨rfl, hb1⟩; obtain ⟨hc1, hf1⟩ := bcell hb1; have hz1 := hb1.size; (try simp only [World.size_drew, World.size_alloc, World.size_setCell] at hc1 hf1 hz1); obtain ⟨hk1x0, hj1x0, hq1x0⟩ := kfa hb1 (w.heap.size); clear hc1 hf1)
      | (go_at_call 55; refine (sShapeOk_q _ _ _ _ _ (by with_reducible assumption)).mono ?_; rintro e w2 ⟨rfl, hb2⟩; obtain ⟨hc2, hf2⟩ := bcell hb2; have hz2 := hb2.size; (try simp only [World.size_drew, World.size_alloc, World.size_setCell] at hc2 hf2 hz2); obtain ⟨hk2x0, hj2x0, hq2x0⟩ := kfa hb2 (w.heap.size); clear hc2 hf2)
      | (go_at_call 56; refine (l3Place_q _ _ _ _ (by with_reducible assumption)).mono ?_; rintro e w3 ⟨rfl, hb3⟩; obtain ⟨hc3, hf3⟩ := bcell hb3; have hz3 := hb3.size; (try simp only [World.size_drew, World.size_alloc, World.size_setCell] at hc3 hf3 hz3); obtain ⟨hk3x0, hj3x0, hq3x0⟩ := kfa hb3 (w.heap.size); clear hc3 hf3)
      | (go_at_call 57; refine (l6Drive_q _ _ _ _ (by with_reducible assumption)).mono ?_; rintro e w4 ⟨rfl, hb4⟩; obtain ⟨hc4, hf4⟩ := bcell hb4; have hz4 := hb4.size; (try simp only [World.size_drew, World.size_alloc, World.size_setCell] at hc4 hf4 hz4); obtain ⟨hk4x0, hj4x0, hq4x0⟩ := kfa hb4 (w.heap.size); clear hc4 hf4))
  go_ret
  exact ⟨rfl, bel_a⟩
theorem sBodyOk_8 (V : Nat → Int) (w : World) (k0 : decide (0 ≤ V 0 ∧ V 0 ≤ 999999999) = true) (k1 : shB (V 1) (V 2) (V 3) = true) (k2 : inB 2560000 (V 4) (V 5) = true) (k3 : inB 20000000 (V 6) (V 7) = true) (k4 : decide (0 ≤ V 8 ∧ V 8 ≤ 1000) = true) (k5 : decide (0 ≤ V 9 ∧ V 9 ≤ 256) = true) (k6 : decide (0 ≤ V 10 ∧ V 10 ≤ 256) = true) (k7 : decide (0 ≤ V 11 ∧ V 11 ≤ 8) = true) :
    Calls Tryz.prog 35 #[bodyW V] w fun e w' => e = .returned (.bool (restB V)) ∧ Below w.heap.size w w' := by
  have hset := cset_map
  have k7' := k7
  simp only [decide_eq_true_eq] at k7'
  obtain ⟨k70, k71⟩ := k7'
  unfold restB
  go_enter Tryz.func35, Tryz.ntmps35
  go_upto_region 3 with (first
      | (go_at_call 54; refine (l1In_q _ _ _ _ _ (by with_reducible assumption)).mono ?_; rintro e w1 ⟨rfl, hb1⟩; obtain ⟨hc1, hf1⟩ := bcell hb1; have hz1 := hb1.size; (try simp only [World.size_drew, World.size_alloc, World.size_setCell] at hc1 hf1 hz1); obtain ⟨hk1x0, hj1x0, hq1x0⟩ := kfa hb1 (w.heap.size); clear hc1 hf1)
      | (go_at_call 55; refine (sShapeOk_q _ _ _ _ _ (by with_reducible assumption)).mono ?_; rintro e w2 ⟨rfl, hb2⟩; obtain ⟨hc2, hf2⟩ := bcell hb2; have hz2 := hb2.size; (try simp only [World.size_drew, World.size_alloc, World.size_setCell] at hc2 hf2 hz2); obtain ⟨hk2x0, hj2x0, hq2x0⟩ := kfa hb2 (w.heap.size); clear hc2 hf2)
      | (go_at_call 56; refine (l3Place_q _ _ _ _ (by with_reducible assumption)).mono ?_; rintro e w3 ⟨rfl, hb3⟩; obtain ⟨hc3, hf3⟩ := bcell hb3; have hz3 := hb3.size; (try simp only [World.size_drew, World.size_alloc, World.size_setCell] at hc3 hf3 hz3); obtain ⟨hk3x0, hj3x0, hq3x0⟩ := kfa hb3 (w.heap.size); clear hc3 hf3)
      | (go_at_call 57; refine (l6Drive_q _ _ _ _ (by with_reducible assumption)).mono ?_; rintro e w4 ⟨rfl, hb4⟩; obtain ⟨hc4, hf4⟩ := bcell hb4; have hz4 := hb4.size; (try simp only [World.size_drew, World.size_alloc, World.size_setCell] at hc4 hf4 hz4); obtain ⟨hk4x0, hj4x0, hq4x0⟩ := kfa hb4 (w.heap.size); clear hc4 hf4))
  clear k0 k1 k2 k3 k4 k5 k6 k7
  by_cases f8 : V 8 = 0 <;> by_cases f11 : V 11 = 0 <;> by_cases f88 : V 11 < 8 <;> by_cases f6 : V 6 = 0 <;> by_cases f7 : V 7 = 0
  all_goals (try (exfalso; omega))
  all_goals
    have f9 : (V 11 = 8) = (¬ V 11 < 8) := propext (by omega)
    go_wp2_with fail
    all_goals
      go_ret
      exact ⟨ret_bool (by simp [*]), bel_a⟩
theorem sBodyOk_q (V : Nat → Int) (b : Bool) (w : World) (e : bodyB V = b) :
    Calls Tryz.prog 35 #[bodyW V] w fun e w' => e = .returned (.bool b) ∧ Below w.heap.size w w' := by
  subst e
  unfold bodyB
  cases k0 : decide (0 ≤ V 0 ∧ V 0 ≤ 999999999) with
  | false => exact sBodyOk_0 V w k0
  | true =>
    cases k1 : shB (V 1) (V 2) (V 3) with
    | false => exact sBodyOk_1 V w k0 k1
    | true =>
      cases k2 : inB 2560000 (V 4) (V 5) with
      | false => exact sBodyOk_2 V w k0 k1 k2
      | true =>
        cases k3 : inB 20000000 (V 6) (V 7) with
        | false => exact sBodyOk_3 V w k0 k1 k2 k3
        | true =>
          cases k4 : decide (0 ≤ V 8 ∧ V 8 ≤ 1000) with
          | false => exact sBodyOk_4 V w k0 k1 k2 k3 k4
          | true =>
            cases k5 : decide (0 ≤ V 9 ∧ V 9 ≤ 256) with
            | false => exact sBodyOk_5 V w k0 k1 k2 k3 k4 k5
            | true =>
              cases k6 : decide (0 ≤ V 10 ∧ V 10 ≤ 256) with
              | false => exact sBodyOk_6 V w k0 k1 k2 k3 k4 k5 k6
              | true =>
                cases k7 : decide (0 ≤ V 11 ∧ V 11 ≤ 8) with
                | false => exact sBodyOk_7 V w k0 k1 k2 k3 k4 k5 k6 k7
                | true =>
                  simp only [Bool.true_and]
                  exact sBodyOk_8 V w k0 k1 k2 k3 k4 k5 k6 k7
def spX (V : Nat → Int) : Int := if V 8 = 0 then 0 else (V 6).tdiv (V 8)
def spY (V : Nat → Int) : Int := if V 8 = 0 then 0 else (V 7).tdiv (V 8)
end Go.Proofs.YtlbpmmjckoaleaaGreat
namespace Go.Proofs.YtlbpmmjckoaleaaGreat
open Go.RowKit
set_option linter.unusedVariables false
set_option linter.unusedSimpArgs false
section
variable {P : Program} {ops : Array Oper} {o : Oper} {a : Act} {w : World} {Q : Exit → Act → World → Prop}
end
def putRow (U : Nat → Int) (p : Nat) (V : Nat → Int) : Nat → Int := fun q => if p * 12 ≤ q ∧ q < p * 12 + 12 then V (q - p * 12) else U q
theorem OutL.on {w w1 w2 : World} {t k n c : Nat} {a : Option Addr} {R : Nat → Int} (h : OutL w w1 t k a n c R) (hb : Below w1.heap.size w1 w2) : OutL w w2 t k a n c R := ⟨h.bel.trans (hb.mono h.bel.size), h.own.below hb⟩
end Go.Proofs.YtlbpmmjckoaleaaGreat
namespace Go.Proofs.YtlbpmmjckoaleaaGreat
open Go.RowKit
set_option linter.unusedVariables false
set_option linter.unusedSimpArgs false
def mapR (f : Nat → (Nat → Int) → Nat → Int) (U : Nat → Int) (k : Nat) : Nat → Int := fun q => if q < k * 12 then f (q / 12) (fun j => U (q / 12 * 12 + j)) (q % 12) else U q
theorem mapR_in {f : Nat → (Nat → Int) → Nat → Int} {U : Nat → Int} {k n j : Nat} (h : k < n) (hj : j < 12) : mapR f U n (k * 12 + j) = f k (fun j => U (k * 12 + j)) j := by
  unfold mapR
  rw [if_pos (by omega), show (k * 12 + j) / 12 = k by omega, show (k * 12 + j) % 12 = j by omega]
theorem bodyB_cong {V W : Nat → Int} (h : ∀ j, j < 12 → V j = W j) : bodyB V = bodyB W := by
  unfold bodyB restB
  simp only [h 0 (by omega), h 1 (by omega), h 2 (by omega), h 3 (by omega), h 4 (by omega), h 5 (by omega), h 6 (by omega), h 7 (by omega), h 8 (by omega), h 9 (by omega), h 10 (by omega), h 11 (by omega)]
structure Bods (n : Nat) (U : Nat → Int) : Prop where
  le : n ≤ 12
  ok : ∀ k, k < n → bodyB (fun j => U (k * 12 + j)) = true
  asc : ∀ k, k + 1 < n → U (k * 12) < U ((k + 1) * 12)
theorem Bods.of {n : Nat} {U : Nat → Int} (h : bodsB n U = true) : Bods n U := by
  unfold bodsB at h
  rw [Bool.and_eq_true] at h
  have key : ∀ m, allBB U m = true → ∀ k, k < m → stepBB U k = true := by
    intro m
    induction m with
    | zero => intro _ k l; omega
    | succ m ih =>
      intro hm k l
      unfold allBB at hm
      rw [Bool.and_eq_true] at hm
      by_cases e : k = m
      · subst e; exact hm.2
      · exact ih hm.1 k (by omega)
  refine ⟨of_decide_eq_true h.1, fun k hk => ?_, fun k hk => ?_⟩
  · have := key n h.2 k hk
    unfold stepBB at this
    rw [Bool.and_eq_true] at this
    exact this.1
  · have := key n h.2 (k + 1) hk
    unfold stepBB at this
    simp at this
    exact this.2
theorem Bods.to {n : Nat} {U : Nat → Int} (h : Bods n U) : bodsB n U = true := by
  have key : ∀ m, m ≤ n → allBB U m = true := by
    intro m
    induction m with
    | zero => intro _; rfl
    | succ m ih =>
      intro hm
      unfold allBB
      rw [ih (by omega), Bool.true_and]
      unfold stepBB
      rw [h.ok m (by omega), Bool.true_and]
      by_cases e : m = 0
      · simp [e]
      · obtain ⟨k, rfl⟩ : ∃ k, m = k + 1 := ⟨m - 1, by omega⟩
        have := h.asc k (by omega)
        simp
        exact this
  unfold bodsB
  rw [key n (Nat.le_refl _), decide_eq_true h.le]
  rfl
theorem Bods.map {n : Nat} {U : Nat → Int} {f : Nat → (Nat → Int) → Nat → Int} (h : Bods n U) (hf : ∀ k, k < n → bodyB (f k (fun j => U (k * 12 + j))) = true) (h0 : ∀ k, k < n → f k (fun j => U (k * 12 + j)) 0 = U (k * 12)) : Bods n (mapR f U n) := by
  refine ⟨h.le, fun k hk => ?_, fun k hk => ?_⟩
  · rw [bodyB_cong (W := f k (fun j => U (k * 12 + j))) (fun j hj => mapR_in hk hj)]; exact hf k hk
  · have e1 := mapR_in (f := f) (U := U) (k := k) (n := n) (j := 0) (by omega) (by omega)
    have e2 := mapR_in (f := f) (U := U) (k := k + 1) (n := n) (j := 0) hk (by omega)
    rw [Nat.add_zero] at e1 e2
    rw [e1, e2, h0 k (by omega), h0 (k + 1) hk]
    exact h.asc k hk
end Go.Proofs.YtlbpmmjckoaleaaGreat
