/- Texts of a proof. -/
import Derived.Test.YtfiaokkolcodgaaGreatB4
import Derived.Test.YtfiaokkolcodgaaGreatB25
import Derived.Deep.RegionHeld3
import Derived.Deep.DeepCutAuto
set_option maxHeartbeats 16000000
set_option maxRecDepth 20000
namespace Go.Proofs.YtfiaokkolcodgaaGreat
open Go.RowKit
set_option linter.unusedVariables false
set_option linter.unusedSimpArgs false
def atB (n : Nat) (a b x y d : Int) : Bool := hitB x y d && (decide (0 ≤ a ∧ a < (n : Int)) && (decide (0 ≤ b ∧ b < (n : Int)) && !decide (a = b)))
theorem meetingAt_no {cb n : Nat} {C : Nat → Nat → Int} {S : Nat → Value} {w : World} (hC : Cs w cb n C S) (hn : n ≤ 1048576) (a b x y d : Int) (e : atB n a b x y d = false) :
 Calls Tryz.prog 37 #[.pointer (some ⟨cb, 0, none⟩), .agg #[.int .i64 a, .int .i64 b, .int .i64 x, .int .i64 y, .int .i64 d]] w fun e w' => e = .returned (.tuple #[.agg #[.int .i64 0, .int .i64 0, .int .i64 0, .int .i64 0, .pointer none, .int .i64 0, .pointer none], .bool false]) ∧ Below w.heap.size w w' := by
 have hset := cset_map
 have l1 := hC.lt
 obtain ⟨ad, cc, hS0⟩ := (hC.own 0 (by omega)).is
 have hd0 := hC.hd 0 (by omega)
 rw [hS0] at hd0
 clear hS0
 unfold atB at e
 obtain ⟨mi, emi⟩ : ∃ mi, (if b < a then b else a) = mi := ⟨_, rfl⟩
 obtain ⟨ma, ema⟩ : ∃ ma, (if a < b then b else a) = ma := ⟨_, rfl⟩
 cases k1 : hitB x y d with
 | false =>
  go_enter Tryz.func37, Tryz.ntmps37
  go_upto_region 2 with (go_at_call 61; refine (dentOf_q _ _ _ _ _ (by with_reducible assumption)).mono ?_; rintro e w1 ⟨rfl, hb1⟩; have hz1 := hb1.size; (try simp only [World.size_drew, World.size_alloc, World.size_setCell] at hz1); obtain ⟨hk1x0, hj1x0, hq1x0⟩ := kfa hb1 (w.heap.size); obtain ⟨hk1x1, hj1x1, hq1x1⟩ := kfa hb1 (w.heap.size + 1); obtain ⟨hk1x2, hj1x2, hq1x2⟩ := kfa hb1 (cb))
  refine wp_region_held_drew (S := fun w' => w'.cell? ⟨w.heap.size, 0, none⟩ = some (.int .i64 a) ∧ w'.cell? ⟨w.heap.size, 1, none⟩ = some (.int .i64 b) ∧ w'.cell? ⟨w.heap.size, 2, none⟩ = some (.int .i64 x) ∧ w'.cell? ⟨w.heap.size, 3, none⟩ = some (.int .i64 y) ∧ w'.cell? ⟨w.heap.size, 4, none⟩ = some (.int .i64 d) ∧ w'.cell? ⟨cb, 0, none⟩ = some (.slice ad n cc)) (by kernel_rfl) ?_ (fun hHeld => ?_)
  · (try dsimp only)
    (first | (go_simp; done) | (go_keep; done))
  refine tq 0 hHeld ?_
  refine tq 1 hHeld ?_
  refine tq 2 hHeld ?_
  refine tn 3 hHeld ?_
  refine tn 4 hHeld ?_
  refine tn 5 hHeld ?_
  refine tn 6 hHeld ?_
  refine tn 7 hHeld ?_
  refine tn 8 hHeld ?_
  refine tq 9 hHeld ?_
  refine tq 10 hHeld ?_
  refine tn 11 hHeld ?_
  refine tn 12 hHeld ?_
  refine tn 13 hHeld ?_
  refine tn 14 hHeld ?_
  refine tn 15 hHeld ?_
  refine tn 16 hHeld ?_
  refine tn 17 hHeld ?_
  refine tn 18 hHeld ?_
  refine tn 19 hHeld ?_
  refine tn 20 hHeld ?_
  refine tn 21 hHeld ?_
  refine tq 22 hHeld ?_
  refine tq 23 hHeld ?_
  refine tn 24 hHeld ?_
  refine tn 25 hHeld ?_
  refine tn 26 hHeld ?_
  refine tn 27 hHeld ?_
  refine tn 28 hHeld ?_
  refine tq 29 hHeld ?_
  refine wpAnyH_done (by kernel_rfl) ?_ _
  go_wp2_with fail
  exact bodyPost_ret (v := .tuple #[.agg #[.int .i64 0, .int .i64 0, .int .i64 0, .int .i64 0, .pointer none, .int .i64 0, .pointer none], .bool false]) (by simp [results, Tryz.results37, go_sem, *]) rfl ⟨rfl, bel_a⟩
 | true =>
  by_cases k2 : mi < 0
  · have d2 : decide (mi < 0) = true := decide_eq_true k2
    go_enter Tryz.func37, Tryz.ntmps37
    go_upto_region 2 with (go_at_call 61; refine (dentOf_q _ _ _ _ _ (by with_reducible assumption)).mono ?_; rintro e w1 ⟨rfl, hb1⟩; have hz1 := hb1.size; (try simp only [World.size_drew, World.size_alloc, World.size_setCell] at hz1); obtain ⟨hk1x0, hj1x0, hq1x0⟩ := kfa hb1 (w.heap.size); obtain ⟨hk1x1, hj1x1, hq1x1⟩ := kfa hb1 (w.heap.size + 1); obtain ⟨hk1x2, hj1x2, hq1x2⟩ := kfa hb1 (cb))
    refine wp_region_held_drew (S := fun w' => w'.cell? ⟨w.heap.size, 0, none⟩ = some (.int .i64 a) ∧ w'.cell? ⟨w.heap.size, 1, none⟩ = some (.int .i64 b) ∧ w'.cell? ⟨w.heap.size, 2, none⟩ = some (.int .i64 x) ∧ w'.cell? ⟨w.heap.size, 3, none⟩ = some (.int .i64 y) ∧ w'.cell? ⟨w.heap.size, 4, none⟩ = some (.int .i64 d) ∧ w'.cell? ⟨cb, 0, none⟩ = some (.slice ad n cc)) (by kernel_rfl) ?_ (fun hHeld => ?_)
    · (try dsimp only)
      (first | (go_simp; done) | (go_keep; done))
    refine tq 0 hHeld ?_
    refine tq 1 hHeld ?_
    refine tq 2 hHeld ?_
    refine tq 3 hHeld ?_
    refine tq 4 hHeld ?_
    refine tq 5 hHeld ?_
    refine tq 6 hHeld ?_
    refine tq 7 hHeld ?_
    refine tq 8 hHeld ?_
    refine tq 9 hHeld ?_
    refine tq 10 hHeld ?_
    refine tn 11 hHeld ?_
    refine tn 12 hHeld ?_
    refine tn 13 hHeld ?_
    refine tn 14 hHeld ?_
    refine tn 15 hHeld ?_
    refine tn 16 hHeld ?_
    refine tn 17 hHeld ?_
    refine tn 18 hHeld ?_
    refine tn 19 hHeld ?_
    refine tn 20 hHeld ?_
    refine tn 21 hHeld ?_
    refine tq 22 hHeld ?_
    refine tq 23 hHeld ?_
    refine tn 24 hHeld ?_
    refine tn 25 hHeld ?_
    refine tn 26 hHeld ?_
    refine tn 27 hHeld ?_
    refine tn 28 hHeld ?_
    refine tq 29 hHeld ?_
    refine wpAnyH_done (by kernel_rfl) ?_ _
    go_wp2_with fail
    exact bodyPost_ret (v := .tuple #[.agg #[.int .i64 0, .int .i64 0, .int .i64 0, .int .i64 0, .pointer none, .int .i64 0, .pointer none], .bool false]) (by simp [results, Tryz.results37, go_sem, *]) rfl ⟨rfl, bel_a⟩
  · have d2 : decide (mi < 0) = false := decide_eq_false k2
    by_cases k3 : (n : Int) ≤ ma
    · have d3 : decide ((n : Int) ≤ ma) = true := decide_eq_true k3
      go_enter Tryz.func37, Tryz.ntmps37
      go_upto_region 2 with (go_at_call 61; refine (dentOf_q _ _ _ _ _ (by with_reducible assumption)).mono ?_; rintro e w1 ⟨rfl, hb1⟩; have hz1 := hb1.size; (try simp only [World.size_drew, World.size_alloc, World.size_setCell] at hz1); obtain ⟨hk1x0, hj1x0, hq1x0⟩ := kfa hb1 (w.heap.size); obtain ⟨hk1x1, hj1x1, hq1x1⟩ := kfa hb1 (w.heap.size + 1); obtain ⟨hk1x2, hj1x2, hq1x2⟩ := kfa hb1 (cb))
      refine wp_region_held_drew (S := fun w' => w'.cell? ⟨w.heap.size, 0, none⟩ = some (.int .i64 a) ∧ w'.cell? ⟨w.heap.size, 1, none⟩ = some (.int .i64 b) ∧ w'.cell? ⟨w.heap.size, 2, none⟩ = some (.int .i64 x) ∧ w'.cell? ⟨w.heap.size, 3, none⟩ = some (.int .i64 y) ∧ w'.cell? ⟨w.heap.size, 4, none⟩ = some (.int .i64 d) ∧ w'.cell? ⟨cb, 0, none⟩ = some (.slice ad n cc)) (by kernel_rfl) ?_ (fun hHeld => ?_)
      · (try dsimp only)
        (first | (go_simp; done) | (go_keep; done))
      refine tq 0 hHeld ?_
      refine tq 1 hHeld ?_
      refine tq 2 hHeld ?_
      refine tq 3 hHeld ?_
      refine tq 4 hHeld ?_
      refine tq 5 hHeld ?_
      refine tq 6 hHeld ?_
      refine tq 7 hHeld ?_
      refine tq 8 hHeld ?_
      refine tq 9 hHeld ?_
      refine tq 10 hHeld ?_
      refine tq 11 hHeld ?_
      refine tq 12 hHeld ?_
      refine tq 13 hHeld ?_
      refine tq 14 hHeld ?_
      refine tq 15 hHeld ?_
      refine tq 16 hHeld ?_
      refine tq 17 hHeld ?_
      refine tq 18 hHeld ?_
      refine tq 19 hHeld ?_
      refine tq 20 hHeld ?_
      refine tq 21 hHeld ?_
      refine tq 22 hHeld ?_
      refine tq 23 hHeld ?_
      refine tn 24 hHeld ?_
      refine tn 25 hHeld ?_
      refine tn 26 hHeld ?_
      refine tn 27 hHeld ?_
      refine tn 28 hHeld ?_
      refine tq 29 hHeld ?_
      refine wpAnyH_done (by kernel_rfl) ?_ _
      go_wp2_with fail
      exact bodyPost_ret (v := .tuple #[.agg #[.int .i64 0, .int .i64 0, .int .i64 0, .int .i64 0, .pointer none, .int .i64 0, .pointer none], .bool false]) (by simp [results, Tryz.results37, go_sem, *]) rfl ⟨rfl, bel_a⟩
    · have d3 : decide ((n : Int) ≤ ma) = false := decide_eq_false k3
      have k4 : a = b := by
       rw [k1] at e
       by_cases q : a = b
       · exact q
       · exfalso
         rw [decide_eq_true (show 0 ≤ a ∧ a < (n : Int) by split at emi <;> split at ema <;> omega), decide_eq_true (show 0 ≤ b ∧ b < (n : Int) by split at emi <;> split at ema <;> omega), decide_eq_false q] at e
         simp at e
      have k4b : (a == b) = true := by simp [k4]
      have k4c : decide (a = b) = true := decide_eq_true k4
      clear e k4
      go_enter Tryz.func37, Tryz.ntmps37
      go_upto_region 2 with (go_at_call 61; refine (dentOf_q _ _ _ _ _ (by with_reducible assumption)).mono ?_; rintro e w1 ⟨rfl, hb1⟩; have hz1 := hb1.size; (try simp only [World.size_drew, World.size_alloc, World.size_setCell] at hz1); obtain ⟨hk1x0, hj1x0, hq1x0⟩ := kfa hb1 (w.heap.size); obtain ⟨hk1x1, hj1x1, hq1x1⟩ := kfa hb1 (w.heap.size + 1); obtain ⟨hk1x2, hj1x2, hq1x2⟩ := kfa hb1 (cb))
      refine wp_region_held_drew (S := fun w' => w'.cell? ⟨w.heap.size, 0, none⟩ = some (.int .i64 a) ∧ w'.cell? ⟨w.heap.size, 1, none⟩ = some (.int .i64 b) ∧ w'.cell? ⟨w.heap.size, 2, none⟩ = some (.int .i64 x) ∧ w'.cell? ⟨w.heap.size, 3, none⟩ = some (.int .i64 y) ∧ w'.cell? ⟨w.heap.size, 4, none⟩ = some (.int .i64 d) ∧ w'.cell? ⟨cb, 0, none⟩ = some (.slice ad n cc)) (by kernel_rfl) ?_ (fun hHeld => ?_)
      · (try dsimp only)
        (first | (go_simp; done) | (go_keep; done))
      refine tq 0 hHeld ?_
      refine tq 1 hHeld ?_
      refine tq 2 hHeld ?_
      refine tq 3 hHeld ?_
      refine tq 4 hHeld ?_
      refine tq 5 hHeld ?_
      refine tq 6 hHeld ?_
      refine tq 7 hHeld ?_
      refine tq 8 hHeld ?_
      refine tq 9 hHeld ?_
      refine tq 10 hHeld ?_
      refine tq 11 hHeld ?_
      refine tq 12 hHeld ?_
      refine tq 13 hHeld ?_
      refine tq 14 hHeld ?_
      refine tq 15 hHeld ?_
      refine tq 16 hHeld ?_
      refine tq 17 hHeld ?_
      refine tq 18 hHeld ?_
      refine tq 19 hHeld ?_
      refine tq 20 hHeld ?_
      refine tq 21 hHeld ?_
      refine tq 22 hHeld ?_
      refine tq 23 hHeld ?_
      refine tq 24 hHeld ?_
      refine tq 25 hHeld ?_
      refine tq 26 hHeld ?_
      refine tq 27 hHeld ?_
      refine tq 28 hHeld ?_
      refine tq 29 hHeld ?_
      refine wpAnyH_done (by kernel_rfl) ?_ _
      go_wp2_with fail
      exact bodyPost_ret (v := .tuple #[.agg #[.int .i64 0, .int .i64 0, .int .i64 0, .int .i64 0, .pointer none, .int .i64 0, .pointer none], .bool false]) (by simp [results, Tryz.results37, go_sem, *]) rfl ⟨rfl, bel_a⟩
theorem handle_i (cb : Nat) (a : Int) (w : World) (ha : 0 ≤ a) :
 Calls Tryz.prog 50 #[.pointer (some ⟨cb, 0, none⟩), .int .i64 a] w fun e w' => e = .returned (.agg #[.int .i64 a, .pointer (some ⟨cb, 0, none⟩)]) ∧ Below w.heap.size w w' := by
 obtain ⟨A, rfl⟩ : ∃ A : Nat, a = (A : Int) := ⟨a.toNat, by omega⟩
 exact handle_any cb A w
theorem meetingAt_yes {cb n : Nat} {C : Nat → Nat → Int} {S : Nat → Value} {w : World} (hC : Cs w cb n C S) (hn : n ≤ 1048576) (a b x y d : Int) (e : atB n a b x y d = true) :
 Calls Tryz.prog 37 #[.pointer (some ⟨cb, 0, none⟩), .agg #[.int .i64 a, .int .i64 b, .int .i64 x, .int .i64 y, .int .i64 d]] w fun e w' => e = .returned (.tuple #[.agg #[.int .i64 x, .int .i64 y, .int .i64 d, .int .i64 a, .pointer (some ⟨cb, 0, none⟩), .int .i64 b, .pointer (some ⟨cb, 0, none⟩)], .bool true]) ∧ Below w.heap.size w w' := by
 have hset := cset_map
 have l1 := hC.lt
 obtain ⟨ad, cc, hS0⟩ := (hC.own 0 (by omega)).is
 have hd0 := hC.hd 0 (by omega)
 rw [hS0] at hd0
 clear hS0
 unfold atB at e
 simp only [Bool.and_eq_true, decide_eq_true_eq, Bool.not_eq_true', decide_eq_false_iff_not] at e
 obtain ⟨k1, ha, hb, hab⟩ := e
 obtain ⟨mi, emi⟩ : ∃ mi, (if b < a then b else a) = mi := ⟨_, rfl⟩
 obtain ⟨ma, ema⟩ : ∃ ma, (if a < b then b else a) = ma := ⟨_, rfl⟩
 have k2 : ¬ (mi < 0) := by split at emi <;> omega
 have k3 : ¬ ((n : Int) ≤ ma) := by split at ema <;> omega
 have d2 : decide (mi < 0) = false := decide_eq_false k2
 have d3 : decide ((n : Int) ≤ ma) = false := decide_eq_false k3
 have d5 : decide (a = b) = false := decide_eq_false hab
 have k4 : (a == b) = false := by simp [hab]
 have k5 : (a = b) = False := eq_false hab
 go_enter Tryz.func37, Tryz.ntmps37
 go_upto_region 2 with (go_at_call 61; refine (dentOf_q _ _ _ _ _ (by with_reducible assumption)).mono ?_; rintro e w1 ⟨rfl, hb1⟩; have hz1 := hb1.size; (try simp only [World.size_drew, World.size_alloc, World.size_setCell] at hz1); obtain ⟨hk1x0, hj1x0, hq1x0⟩ := kfa hb1 (w.heap.size); obtain ⟨hk1x1, hj1x1, hq1x1⟩ := kfa hb1 (w.heap.size + 1); obtain ⟨hk1x2, hj1x2, hq1x2⟩ := kfa hb1 (cb))
 refine wp_region_held_drew (S := fun w' => w'.cell? ⟨w.heap.size, 0, none⟩ = some (.int .i64 a) ∧ w'.cell? ⟨w.heap.size, 1, none⟩ = some (.int .i64 b) ∧ w'.cell? ⟨w.heap.size, 2, none⟩ = some (.int .i64 x) ∧ w'.cell? ⟨w.heap.size, 3, none⟩ = some (.int .i64 y) ∧ w'.cell? ⟨w.heap.size, 4, none⟩ = some (.int .i64 d) ∧ w'.cell? ⟨cb, 0, none⟩ = some (.slice ad n cc)) (by kernel_rfl) ?_ (fun hHeld => ?_)
 · (try dsimp only)
   (first | (go_simp; done) | (go_keep; done))
 refine tq 0 hHeld ?_
 refine tq 1 hHeld ?_
 refine tq 2 hHeld ?_
 refine tq 3 hHeld ?_
 refine tq 4 hHeld ?_
 refine tq 5 hHeld ?_
 refine tq 6 hHeld ?_
 refine tq 7 hHeld ?_
 refine tq 8 hHeld ?_
 refine tq 9 hHeld ?_
 refine tq 10 hHeld ?_
 refine tq 11 hHeld ?_
 refine tq 12 hHeld ?_
 refine tq 13 hHeld ?_
 refine tq 14 hHeld ?_
 refine tq 15 hHeld ?_
 refine tq 16 hHeld ?_
 refine tq 17 hHeld ?_
 refine tq 18 hHeld ?_
 refine tq 19 hHeld ?_
 refine tq 20 hHeld ?_
 refine tq 21 hHeld ?_
 refine tq 22 hHeld ?_
 refine tq 23 hHeld ?_
 refine tq 24 hHeld ?_
 refine tq 25 hHeld ?_
 refine tq 26 hHeld ?_
 refine tq 27 hHeld ?_
 refine tq 28 hHeld ?_
 refine tq 29 hHeld ?_
 refine wpAnyH_done (by kernel_rfl) ?_ _
 go_upto_region 4 with fail
 refine wp_region_held_drew (S := fun w' => w'.cell? ⟨w.heap.size, 0, none⟩ = some (.int .i64 a) ∧ w'.cell? ⟨w.heap.size, 1, none⟩ = some (.int .i64 b) ∧ w'.cell? ⟨w.heap.size, 2, none⟩ = some (.int .i64 x) ∧ w'.cell? ⟨w.heap.size, 3, none⟩ = some (.int .i64 y) ∧ w'.cell? ⟨w.heap.size, 4, none⟩ = some (.int .i64 d) ∧ w'.cell? ⟨w1.heap.size, 0, none⟩ = some (.int .i64 x) ∧ w'.cell? ⟨w1.heap.size, 1, none⟩ = some (.int .i64 y) ∧ w'.cell? ⟨w1.heap.size, 2, none⟩ = some (.int .i64 d)) (by kernel_rfl) ?_ (fun hHeld => ?_)
 · (try dsimp only)
   (first | (go_simp; done) | (go_keep; done))
 refine tq 0 hHeld ?_
 refine tq 1 hHeld ?_
 refine tq 2 hHeld ?_
 refine tq 3 hHeld ?_
 refine tq 5 hHeld ?_
 refine tq 6 hHeld ?_
 refine tq 7 hHeld ?_
 (refine tc 4 fun K hK => ?_; go_simp; (go_at_call 50; refine (handle_i cb a _ ha.1).mono ?_; rintro e w2 ⟨rfl, hb2⟩; have hz2 := hb2.size; (try simp only [World.size_drew, World.size_alloc, World.size_setCell] at hz2); obtain ⟨hk2x0, hj2x0, hq2x0⟩ := kfa hb2 (w.heap.size); obtain ⟨hk2x1, hj2x1, hq2x1⟩ := kfa hb2 (w.heap.size + 1); obtain ⟨hk2x2, hj2x2, hq2x2⟩ := kfa hb2 (w1.heap.size)); (try go_wp2_with fail); refine tr hK (fun hHeld => ?_); clear hK K)
 (refine tc 8 fun K hK => ?_; go_simp; (go_at_call 50; refine (handle_i cb b _ hb.1).mono ?_; rintro e w3 ⟨rfl, hb3⟩; have hz3 := hb3.size; (try simp only [World.size_drew, World.size_alloc, World.size_setCell] at hz3); obtain ⟨hk3x0, hj3x0, hq3x0⟩ := kfa hb3 (w.heap.size); obtain ⟨hk3x1, hj3x1, hq3x1⟩ := kfa hb3 (w.heap.size + 1); obtain ⟨hk3x2, hj3x2, hq3x2⟩ := kfa hb3 (w1.heap.size)); (try go_wp2_with fail); refine tr hK (fun hHeld => ?_); clear hK K)
 refine tq 9 hHeld ?_
 (refine tc 10 fun K hK => ?_; go_simp; refine tr hK (fun hHeld => ?_); clear hK K)
 refine tq 11 hHeld ?_
 refine wpAnyH_done (by kernel_rfl) ?_ _
 go_wp2_with fail
 exact bodyPost_ret (v := .tuple #[.agg #[.int .i64 x, .int .i64 y, .int .i64 d, .int .i64 a, .pointer (some ⟨cb, 0, none⟩), .int .i64 b, .pointer (some ⟨cb, 0, none⟩)], .bool true]) (by simp [results, Tryz.results37, go_sem, *]) rfl ⟨rfl, bel_a⟩
end Go.Proofs.YtfiaokkolcodgaaGreat
