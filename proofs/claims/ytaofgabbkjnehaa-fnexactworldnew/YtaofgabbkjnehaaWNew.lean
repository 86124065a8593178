/- WorldNew, by the program and by the specification, and what its exact law calls. -/
import Derived.Test.YtaofgabbkjnehaaVec
import Derived.Test.YtaofgabbkjnehaaSVec
import Derived.Handy
import Derived.Deep.RegionHeld3
import Derived.Deep.DeepCutAuto
namespace Go.Proofs.Ytaofgabbkjnehaa
open Go.RowKit
set_option linter.unusedVariables false
set_option linter.unusedSimpArgs false

abbrev wl (n : Int) : Value := .agg #[.int .i64 0, .int .i64 n, .slice none 0 0, .slice none 0 0]
theorem upTo_w (n l : Int) (w : World) :
    Calls Try.prog 10 #[.int .i64 n, .int .i64 l] w fun e w' => e = .returned (.bool (decide (0 ≤ n ∧ n ≤ l))) ∧ w' = w := by
  go_enter Try.func10, Try.ntmps10
  go_wp2
  all_goals
    go_ret
    refine ⟨ret_bool ?_, rfl⟩
    first | (simp [*]; done) | (simp at *; omega) | (simp [*]; omega)
def pl (n : Int) : Int := if 0 ≤ n ∧ n ≤ 2560 then n else 0

set_option maxHeartbeats 4000000 in
theorem worldNew_any (n m : Int) (w : World) (e : pl n = m) : Calls Try.prog 5 #[.int .i64 n] w fun e w' => e = .returned (wl m) ∧ Below w.heap.size w w' := by
  have hset := cset_map
  subst e
  unfold pl
  by_cases h : 0 ≤ n ∧ n ≤ 2560
  · have d : decide (0 ≤ n ∧ n ≤ 2560) = true := decide_eq_true h
    rw [if_pos h]
    clear h
    go_enter Try.func5, Try.ntmps5
    go_wp2_with (go_at_call 10; refine (upTo_w _ _ _).mono ?_; rintro e w' ⟨rfl, rfl⟩)
    exact bodyPost_ret (v := wl n) (by simp [results, Try.results5, go_sem, *]) rfl ⟨rfl, by repeat (first | with_reducible apply Below.refl | (with_reducible apply Below.setCell; rotate_left; focus (first | omega | (simp; done) | (simp; omega))) | (with_reducible apply Below.alloc; rotate_left; focus (first | omega | (simp; done) | (simp; omega))) | with_reducible apply Below.drew | with_reducible apply belowDrewN | (with_reducible apply Below.trans; rotate_left; with_reducible apply Below.mono; with_reducible assumption; focus (first | omega | (simp; done) | (simp; omega))))⟩
  · have d : decide (0 ≤ n ∧ n ≤ 2560) = false := decide_eq_false h
    rw [if_neg h]
    clear h
    go_enter Try.func5, Try.ntmps5
    go_wp2_with (go_at_call 10; refine (upTo_w _ _ _).mono ?_; rintro e w' ⟨rfl, rfl⟩)
    exact bodyPost_ret (v := wl 0) (by simp [results, Try.results5, go_sem, *]) rfl ⟨rfl, by repeat (first | with_reducible apply Below.refl | (with_reducible apply Below.setCell; rotate_left; focus (first | omega | (simp; done) | (simp; omega))) | (with_reducible apply Below.alloc; rotate_left; focus (first | omega | (simp; done) | (simp; omega))) | with_reducible apply Below.drew | with_reducible apply belowDrewN | (with_reducible apply Below.trans; rotate_left; with_reducible apply Below.mono; with_reducible assumption; focus (first | omega | (simp; done) | (simp; omega))))⟩

set_option maxHeartbeats 4000000 in
theorem sWorldNew_any (n m : Int) (w : World) (e : pl n = m) : Calls Try.prog 4 #[.int .i64 n] w fun e w' => e = .returned (wl m) ∧ Below w.heap.size w w' := by
  have hset := cset_map
  subst e
  unfold pl
  by_cases h : 0 ≤ n ∧ n ≤ 2560
  · have d : decide (0 ≤ n ∧ n ≤ 2560) = true := decide_eq_true h
    rw [if_pos h]
    clear h
    go_enter Try.func4, Try.ntmps4
    go_wp2_with (go_at_call 9; refine (l1In_any _ _ _ _).mono ?_; rintro e w' ⟨rfl, rfl⟩)
    exact bodyPost_ret (v := wl n) (by simp [results, Try.results4, go_sem, *]) rfl ⟨rfl, by repeat (first | with_reducible apply Below.refl | (with_reducible apply Below.setCell; rotate_left; focus (first | omega | (simp; done) | (simp; omega))) | (with_reducible apply Below.alloc; rotate_left; focus (first | omega | (simp; done) | (simp; omega))) | with_reducible apply Below.drew | with_reducible apply belowDrewN | (with_reducible apply Below.trans; rotate_left; with_reducible apply Below.mono; with_reducible assumption; focus (first | omega | (simp; done) | (simp; omega))))⟩
  · have d : decide (0 ≤ n ∧ n ≤ 2560) = false := decide_eq_false h
    rw [if_neg h]
    clear h
    go_enter Try.func4, Try.ntmps4
    go_wp2_with (go_at_call 9; refine (l1In_any _ _ _ _).mono ?_; rintro e w' ⟨rfl, rfl⟩)
    exact bodyPost_ret (v := wl 0) (by simp [results, Try.results4, go_sem, *]) rfl ⟨rfl, by repeat (first | with_reducible apply Below.refl | (with_reducible apply Below.setCell; rotate_left; focus (first | omega | (simp; done) | (simp; omega))) | (with_reducible apply Below.alloc; rotate_left; focus (first | omega | (simp; done) | (simp; omega))) | with_reducible apply Below.drew | with_reducible apply belowDrewN | (with_reducible apply Below.trans; rotate_left; with_reducible apply Below.mono; with_reducible assumption; focus (first | omega | (simp; done) | (simp; omega))))⟩

set_option maxRecDepth 20000 in
set_option maxHeartbeats 4000000 in
theorem eqBodyS_nil (w : World) : Calls Try.prog 11 #[.slice none 0 0, .slice none 0 0] w fun e w' => e = .returned (.bool true) ∧ w' = w := by
  have hset := cset_map
  go_enter Try.func11, Try.ntmps11
  go_wp2_with fail
  refine wp_loop_rounds 1 ?_
  rw [rounds_succ]
  go_wp2_with fail
  go_ret
  exact ⟨rfl, rfl⟩

set_option maxRecDepth 20000 in
set_option maxHeartbeats 4000000 in
theorem eqPairS_nil (w : World) : Calls Try.prog 12 #[.slice none 0 0, .slice none 0 0] w fun e w' => e = .returned (.bool true) ∧ w' = w := by
  have hset := cset_map
  go_enter Try.func12, Try.ntmps12
  go_wp2_with fail
  refine wp_loop_rounds 1 ?_
  rw [rounds_succ]
  go_wp2_with fail
  go_ret
  exact ⟨rfl, rfl⟩

set_option maxRecDepth 20000 in
set_option maxHeartbeats 4000000 in
theorem markBodyS_nil (w : World) : Calls Try.prog 13 #[.slice none 0 0, .int .i64 1] w fun e w' => e = .returned (.int .i64 1) ∧ w' = w := by
  have hset := cset_map
  go_enter Try.func13, Try.ntmps13
  go_wp2_with fail
  refine wp_loop_rounds 1 ?_
  rw [rounds_succ]
  go_wp2_with fail
  go_ret
  exact ⟨rfl, rfl⟩

set_option maxRecDepth 20000 in
set_option maxHeartbeats 4000000 in
theorem markPairS_nil (w : World) : Calls Try.prog 14 #[.slice none 0 0, .int .i64 1] w fun e w' => e = .returned (.int .i64 1) ∧ w' = w := by
  have hset := cset_map
  go_enter Try.func14, Try.ntmps14
  go_wp2_with fail
  refine wp_loop_rounds 1 ?_
  rw [rounds_succ]
  go_wp2_with fail
  go_ret
  exact ⟨rfl, rfl⟩

set_option maxRecDepth 20000 in
set_option maxHeartbeats 4000000 in
theorem heldBodyS_nil (w : World) : Calls Try.prog 15 #[.slice none 0 0, .int .i64 1] w fun e w' => e = .returned (.int .i64 1) ∧ w' = w := by
  have hset := cset_map
  go_enter Try.func15, Try.ntmps15
  go_wp2_with fail
  refine wp_loop_rounds 1 ?_
  rw [rounds_succ]
  go_wp2_with fail
  go_ret
  exact ⟨rfl, rfl⟩

set_option maxRecDepth 20000 in
set_option maxHeartbeats 4000000 in
theorem heldPairS_nil (w : World) : Calls Try.prog 16 #[.slice none 0 0, .int .i64 1] w fun e w' => e = .returned (.int .i64 1) ∧ w' = w := by
  have hset := cset_map
  go_enter Try.func16, Try.ntmps16
  go_wp2_with fail
  refine wp_loop_rounds 1 ?_
  rw [rounds_succ]
  go_wp2_with fail
  go_ret
  exact ⟨rfl, rfl⟩

set_option maxRecDepth 20000 in
set_option maxHeartbeats 4000000 in
theorem eqWorld_nil (n : Int) (w : World) : Calls Try.prog 6 #[wl n, wl n] w fun e w' => e = .returned (.bool true) ∧ Below w.heap.size w w' := by
  have hset := cset_map
  go_enter Try.func6, Try.ntmps6
  go_wp2_with (first
    | (go_at_call 11; refine (eqBodyS_nil _).mono ?_; rintro e w' ⟨rfl, rfl⟩)
    | (go_at_call 12; refine (eqPairS_nil _).mono ?_; rintro e w' ⟨rfl, rfl⟩))
  go_ret
  exact ⟨rfl, by repeat (first | with_reducible apply Below.refl | (with_reducible apply Below.setCell; rotate_left; focus (first | omega | (simp; done) | (simp; omega))) | (with_reducible apply Below.alloc; rotate_left; focus (first | omega | (simp; done) | (simp; omega))) | with_reducible apply Below.drew | with_reducible apply belowDrewN | (with_reducible apply Below.trans; rotate_left; with_reducible apply Below.mono; with_reducible assumption; focus (first | omega | (simp; done) | (simp; omega))))⟩

set_option maxRecDepth 20000 in
set_option maxHeartbeats 4000000 in
theorem markWorld_nil (n : Int) (w : World) : Calls Try.prog 7 #[wl n, .int .i64 1] w fun e w' => e = .returned (.int .i64 1) ∧ Below w.heap.size w w' := by
  have hset := cset_map
  go_enter Try.func7, Try.ntmps7
  go_wp2_with (first
    | (go_at_call 13; refine (markBodyS_nil _).mono ?_; rintro e w' ⟨rfl, rfl⟩)
    | (go_at_call 14; refine (markPairS_nil _).mono ?_; rintro e w' ⟨rfl, rfl⟩))
  go_ret
  exact ⟨rfl, by repeat (first | with_reducible apply Below.refl | (with_reducible apply Below.setCell; rotate_left; focus (first | omega | (simp; done) | (simp; omega))) | (with_reducible apply Below.alloc; rotate_left; focus (first | omega | (simp; done) | (simp; omega))) | with_reducible apply Below.drew | with_reducible apply belowDrewN | (with_reducible apply Below.trans; rotate_left; with_reducible apply Below.mono; with_reducible assumption; focus (first | omega | (simp; done) | (simp; omega))))⟩

set_option maxRecDepth 20000 in
set_option maxHeartbeats 4000000 in
theorem heldWorld_nil (n : Int) (w : World) : Calls Try.prog 8 #[wl n, .int .i64 1] w fun e w' => e = .returned (.int .i64 1) ∧ Below w.heap.size w w' := by
  have hset := cset_map
  go_enter Try.func8, Try.ntmps8
  go_wp2_with (first
    | (go_at_call 15; refine (heldBodyS_nil _).mono ?_; rintro e w' ⟨rfl, rfl⟩)
    | (go_at_call 16; refine (heldPairS_nil _).mono ?_; rintro e w' ⟨rfl, rfl⟩))
  go_ret
  exact ⟨rfl, by repeat (first | with_reducible apply Below.refl | (with_reducible apply Below.setCell; rotate_left; focus (first | omega | (simp; done) | (simp; omega))) | (with_reducible apply Below.alloc; rotate_left; focus (first | omega | (simp; done) | (simp; omega))) | with_reducible apply Below.drew | with_reducible apply belowDrewN | (with_reducible apply Below.trans; rotate_left; with_reducible apply Below.mono; with_reducible assumption; focus (first | omega | (simp; done) | (simp; omega))))⟩

set_option maxHeartbeats 8000000 in
theorem fnExactWorldNew_walk (n : Int) (w : World) : Calls Try.prog 3 #[.int .i64 n] w fun e w' => e = .returned (.bool true) ∧ Below w.heap.size w w' := by
  have hset := cset_map
  obtain ⟨m, em⟩ : ∃ m, pl n = m := ⟨_, rfl⟩
  go_enter Try.func3, Try.ntmps3
  go_wp2_with (first
    | (have _ := hb7; go_at_call 8; refine (heldWorld_nil m _).mono ?_; rintro e w8 ⟨rfl, hb8⟩; obtain ⟨hc8, hf8⟩ := bcell hb8; have hz8 := hb8.size; (try simp only [World.size_drew, World.size_alloc, World.size_setCell] at hc8 hf8 hz8); have hk8x0 := fun o => hc8 (w1.heap.size) o (by omega); have hj8x0 := fun o => hf8 (w1.heap.size) o (by omega); have hq8x0 : w1.heap.size < w8.heap.size := (by omega); have hk8x1 := fun o => hc8 (w2.heap.size) o (by omega); have hj8x1 := fun o => hf8 (w2.heap.size) o (by omega); have hq8x1 : w2.heap.size < w8.heap.size := (by omega); clear hc8 hf8)
    | (have _ := hb6; go_at_call 6; refine (eqWorld_nil m _).mono ?_; rintro e w7 ⟨rfl, hb7⟩; obtain ⟨hc7, hf7⟩ := bcell hb7; have hz7 := hb7.size; (try simp only [World.size_drew, World.size_alloc, World.size_setCell] at hc7 hf7 hz7); have hk7x0 := fun o => hc7 (w1.heap.size) o (by omega); have hj7x0 := fun o => hf7 (w1.heap.size) o (by omega); have hq7x0 : w1.heap.size < w7.heap.size := (by omega); have hk7x1 := fun o => hc7 (w2.heap.size) o (by omega); have hj7x1 := fun o => hf7 (w2.heap.size) o (by omega); have hq7x1 : w2.heap.size < w7.heap.size := (by omega); clear hc7 hf7)
    | (have _ := hb5; go_at_call 5; refine (worldNew_any n m _ em).mono ?_; rintro e w6 ⟨rfl, hb6⟩; obtain ⟨hc6, hf6⟩ := bcell hb6; have hz6 := hb6.size; (try simp only [World.size_drew, World.size_alloc, World.size_setCell] at hc6 hf6 hz6); have hk6x0 := fun o => hc6 (w1.heap.size) o (by omega); have hj6x0 := fun o => hf6 (w1.heap.size) o (by omega); have hq6x0 : w1.heap.size < w6.heap.size := (by omega); have hk6x1 := fun o => hc6 (w2.heap.size) o (by omega); have hj6x1 := fun o => hf6 (w2.heap.size) o (by omega); have hq6x1 : w2.heap.size < w6.heap.size := (by omega); clear hc6 hf6)
    | (have _ := hb4; go_at_call 8; refine (heldWorld_nil m _).mono ?_; rintro e w5 ⟨rfl, hb5⟩; obtain ⟨hc5, hf5⟩ := bcell hb5; have hz5 := hb5.size; (try simp only [World.size_drew, World.size_alloc, World.size_setCell] at hc5 hf5 hz5); have hk5x0 := fun o => hc5 (w1.heap.size) o (by omega); have hj5x0 := fun o => hf5 (w1.heap.size) o (by omega); have hq5x0 : w1.heap.size < w5.heap.size := (by omega); have hk5x1 := fun o => hc5 (w2.heap.size) o (by omega); have hj5x1 := fun o => hf5 (w2.heap.size) o (by omega); have hq5x1 : w2.heap.size < w5.heap.size := (by omega); clear hc5 hf5)
    | (have _ := hb3; go_at_call 7; refine (markWorld_nil m _).mono ?_; rintro e w4 ⟨rfl, hb4⟩; obtain ⟨hc4, hf4⟩ := bcell hb4; have hz4 := hb4.size; (try simp only [World.size_drew, World.size_alloc, World.size_setCell] at hc4 hf4 hz4); have hk4x0 := fun o => hc4 (w1.heap.size) o (by omega); have hj4x0 := fun o => hf4 (w1.heap.size) o (by omega); have hq4x0 : w1.heap.size < w4.heap.size := (by omega); have hk4x1 := fun o => hc4 (w2.heap.size) o (by omega); have hj4x1 := fun o => hf4 (w2.heap.size) o (by omega); have hq4x1 : w2.heap.size < w4.heap.size := (by omega); clear hc4 hf4)
    | (have _ := hb2; go_at_call 6; refine (eqWorld_nil m _).mono ?_; rintro e w3 ⟨rfl, hb3⟩; obtain ⟨hc3, hf3⟩ := bcell hb3; have hz3 := hb3.size; (try simp only [World.size_drew, World.size_alloc, World.size_setCell] at hc3 hf3 hz3); have hk3x0 := fun o => hc3 (w1.heap.size) o (by omega); have hj3x0 := fun o => hf3 (w1.heap.size) o (by omega); have hq3x0 : w1.heap.size < w3.heap.size := (by omega); have hk3x1 := fun o => hc3 (w2.heap.size) o (by omega); have hj3x1 := fun o => hf3 (w2.heap.size) o (by omega); have hq3x1 : w2.heap.size < w3.heap.size := (by omega); clear hc3 hf3)
    | (have _ := hb1; go_at_call 5; refine (worldNew_any n m _ em).mono ?_; rintro e w2 ⟨rfl, hb2⟩; obtain ⟨hc2, hf2⟩ := bcell hb2; have hz2 := hb2.size; (try simp only [World.size_drew, World.size_alloc, World.size_setCell] at hc2 hf2 hz2); have hk2x0 := fun o => hc2 (w1.heap.size) o (by omega); have hj2x0 := fun o => hf2 (w1.heap.size) o (by omega); have hq2x0 : w1.heap.size < w2.heap.size := (by omega); clear hc2 hf2)
    | (go_at_call 4; refine (sWorldNew_any n m _ em).mono ?_; rintro e w1 ⟨rfl, hb1⟩; obtain ⟨hc1, hf1⟩ := bcell hb1; have hz1 := hb1.size; (try simp only [World.size_drew, World.size_alloc, World.size_setCell] at hc1 hf1 hz1); clear hc1 hf1))
  go_ret
  exact ⟨rfl, by repeat (first | with_reducible apply Below.refl | (with_reducible apply Below.setCell; rotate_left; focus (first | omega | (simp; done) | (simp; omega))) | (with_reducible apply Below.alloc; rotate_left; focus (first | omega | (simp; done) | (simp; omega))) | with_reducible apply Below.drew | with_reducible apply belowDrewN | (with_reducible apply Below.trans; rotate_left; with_reducible apply Below.mono; with_reducible assumption; focus (first | omega | (simp; done) | (simp; omega))))⟩
end Go.Proofs.Ytaofgabbkjnehaa
