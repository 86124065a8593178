/- Bodies that were given, in columns; whether they are ok. Bodies and the ring of their contacts. Bodies and the ring of their contacts, by the program. Lists put together in new memory: slices.Concat. -/
import Derived.Test.YtejminehbnebmaaGreatB7
import Derived.Test.YtejminehbnebmaaGreatB5
import Derived.Test.YtejminehbnebmaaGreatHkOk
import Derived.LoopNIn
import Derived.LoopIn
import Derived.OwnWalkIn
import Derived.Deep.RegionHeld3
import Derived.Deep.DeepCutAuto
import Derived.Test.YtejminehbnebmaaGreatB4
import Derived.Test.YtejminehbnebmaaGreatMAt
import Derived.Test.YtejminehbnebmaaGreatB1
import Derived.Lib.AppendZeros
namespace Go.Proofs.YtejminehbnebmaaGreat
open Go.RowKit
set_option linter.unusedVariables false
set_option linter.unusedSimpArgs false

/-- the body of place k is ok, and behind the one ahead of it -/
def stepBB (U : Nat → Int) (k : Nat) : Bool := bodyB (fun j => U (k * 12 + j)) && (decide (k = 0) || decide (U ((k - 1) * 12) < U (k * 12)))
def allBB (U : Nat → Int) : Nat → Bool
  | 0 => true
  | k + 1 => allBB U k && stepBB U k
theorem allBB_no {U : Nat → Int} {k : Nat} (h : stepBB U k = false) : ∀ n, k < n → allBB U n = false
  | 0, l => absurd l (Nat.not_lt_zero _)
  | n + 1, l => by
    unfold allBB
    rcases Nat.lt_succ_iff_lt_or_eq.1 l with l | rfl
    · rw [allBB_no h n l]; rfl
    · rw [h, Bool.and_false]
def bodsB (n : Nat) (U : Nat → Int) : Bool := decide (n ≤ 12) && allBB U n
/-- what columnsOf leaves -/
def CsPost (n : Nat) (U : Nat → Int) (w : World) (e : Ending) (w' : World) : Prop :=
  Below w.heap.size w w' ∧ ((bodsB n U = true ∧ ∃ cb S, e = .returned (.tuple #[.pointer (some ⟨cb, 0, none⟩), .bool true]) ∧ w.heap.size ≤ cb ∧ Cs w' cb n (colOf U) S) ∨
    (bodsB n U = false ∧ e = .returned (.tuple #[.pointer none, .bool false])))
set_option maxRecDepth 20000 in
set_option maxHeartbeats 4000000 in
theorem columnsOf_any (a : Option Addr) (n c : Nat) (U : Nat → Int) (w : World) (h : Flat w a (n * 12) U) (hn : n ≤ 1048576) :
    Calls Tryz.prog 33 #[.slice a n c] w (CsPost n U w) := by
  have hset := cset_map
  by_cases h12 : n ≤ 12
  · have h12' : ¬ (12 : Int) < (n : Int) := by omega
    refine calls_of_wp_marks Tryz.func33 rfl ?_
    simp only [Tryz.ntmps33, List.size_toArray, List.length_cons, List.length_nil, Nat.reduceAdd, Nat.reduceSub, Array.replicate_succ, Array.replicate_zero, List.push_toArray, List.append_toArray, List.nil_append, List.cons_append]
    go_wp2_with (go_at_call 48; refine (rowsOf_any a n c U _ (h.below (bel_a)) (by omega)).mono ?_; rintro e w1 ⟨rfl, hb1, S, hC⟩)
    have hz1 := hb1.size
    simp only [World.size_alloc] at hz1
    have hB : Below w.heap.size w (w1.alloc (Obj.cells #[.pointer (some ⟨w.heap.size + 1 + 1, 0, none⟩)] 58)) := ((bel_a : Below w.heap.size w w1)).alloc (by omega) _
    have hw1 : Below w1.heap.size w1 (w1.alloc (Obj.cells #[.pointer (some ⟨w.heap.size + 1 + 1, 0, none⟩)] 58)) := (Below.refl _ _).alloc (Nat.le_refl _) _
    have hC2 := hC.below hw1
    simp only [World.size_alloc] at hC2
    have r2 : (w1.alloc (Obj.cells #[.pointer (some ⟨w.heap.size + 1 + 1, 0, none⟩)] 58)).cell? ⟨w.heap.size, 0, none⟩ = some (.pointer none) := (hw1.cell (p := ⟨w.heap.size, 0, none⟩) (by simp; omega)).trans ((hb1.cell (p := ⟨w.heap.size, 0, none⟩) (by simp; omega)).trans (by go_simp))
    have r3 : (w1.alloc (Obj.cells #[.pointer (some ⟨w.heap.size + 1 + 1, 0, none⟩)] 58)).cell? ⟨w.heap.size + 1, 0, none⟩ = some (.bool false) := (hw1.cell (p := ⟨w.heap.size + 1, 0, none⟩) (by simp; omega)).trans ((hb1.cell (p := ⟨w.heap.size + 1, 0, none⟩) (by simp)).trans (by go_simp))
    have f2 : (w1.alloc (Obj.cells #[.pointer (some ⟨w.heap.size + 1 + 1, 0, none⟩)] 58)).frozen? ⟨w.heap.size, 0, none⟩ = false := (hw1.frozen (p := ⟨w.heap.size, 0, none⟩) (by simp; omega)).trans ((hb1.frozen (p := ⟨w.heap.size, 0, none⟩) (by simp; omega)).trans (by go_simp))
    have f3 : (w1.alloc (Obj.cells #[.pointer (some ⟨w.heap.size + 1 + 1, 0, none⟩)] 58)).frozen? ⟨w.heap.size + 1, 0, none⟩ = false := (hw1.frozen (p := ⟨w.heap.size + 1, 0, none⟩) (by simp; omega)).trans ((hb1.frozen (p := ⟨w.heap.size + 1, 0, none⟩) (by simp)).trans (by go_simp))
    have r4 : (w1.alloc (Obj.cells #[.pointer (some ⟨w.heap.size + 1 + 1, 0, none⟩)] 58)).cell? ⟨w1.heap.size, 0, none⟩ = some (.pointer (some ⟨w.heap.size + 1 + 1, 0, none⟩)) := by go_simp
    have hz2 : w1.heap.size < (w1.alloc (Obj.cells #[.pointer (some ⟨w.heap.size + 1 + 1, 0, none⟩)] 58)).heap.size := by simp
    generalize (w1.alloc (Obj.cells #[.pointer (some ⟨w.heap.size + 1 + 1, 0, none⟩)] 58)) = w2 at hB hC2 r2 r3 f2 f3 r4 hz2 ⊢
    clear hw1 hC hb1
    have hcl := hC2.lt
    have hcb0 : w.heap.size + 1 < w.heap.size + 1 + 1 := by omega
    generalize w.heap.size + 1 + 1 = cb at hC2 r4 hcl hcb0 ⊢
    generalize hbv : w1.heap.size = bv at hz1 hz2 r4 ⊢
    clear hbv
    obtain ⟨ad, cc, hS0⟩ := (hC2.own 0 (by omega)).is
    have hd0 := hC2.hd 0 (by omega)
    rw [hS0] at hd0
    refine wp_range_out (gf := 37) (bound := #[.pointer (some ⟨cb, 0, none⟩)]) rfl each_enters (each_it cb n _ _ w2 hcl hd0 hn) (fun _ => rfl) (fun k W => Below w2.heap.size w2 W ∧ allBB U k = true)
      (fun c W => c = .ret ∧ Below w.heap.size w W ∧ W.cell? ⟨w.heap.size, 0, none⟩ = some (.pointer none) ∧ W.cell? ⟨w.heap.size + 1, 0, none⟩ = some (.bool false) ∧ bodsB n U = false) ?_ ?_ ⟨Below.refl _ _, rfl⟩ ?round ?done ?stop
    · rintro k A B ⟨h1, h2⟩ hs
      exact ⟨h1.trans hs.below, h2⟩
    · rintro c A B ⟨h1, h2, h3, h4, h5⟩ hs
      exact ⟨h1, h2.trans (hs.below.mono hB.size), hs.cell h3, hs.cell h4, h5⟩
    case round =>
      rintro l k W hl ⟨hbW, hall⟩ hk
      simp only [List.zip_toArray, List.zip_cons_cons, List.zip_nil_left, List.foldl_toArray, List.foldl_cons, List.foldl_nil, List.setIfInBounds_toArray, List.set_cons_succ, List.set_cons_zero]
      refine wpIn_region_plain (by rintro ⟨_, _, h⟩; exact h) (by kernel_rfl) ?_
      go_wp2
      refine ⟨(KeepsOthers.alloc _ _).from _, fun W2 hS hr => ?_⟩
      have hbX : Below w2.heap.size w2 (W.alloc (Obj.cells #[.int .i64 (k : Int), .pointer (some ⟨cb, 0, none⟩)] 86)) := hbW.alloc hbW.size _
      have hb2 := hbX.trans hS.below
      have hzW := hbW.size
      have v0 : W2.cell? ⟨W.heap.size, 0, none⟩ = some (.int .i64 (k : Int)) := hS.cell (by go_simp)
      have v1 : W2.cell? ⟨W.heap.size, 1, none⟩ = some (.pointer (some ⟨cb, 0, none⟩)) := hS.cell (by go_simp)
      have r4' : W2.cell? ⟨bv, 0, none⟩ = some (.pointer (some ⟨cb, 0, none⟩)) := (hb2.cell (p := ⟨bv, 0, none⟩) hz2).trans r4
      have hC3 := hC2.below hb2
      have hz3 : W.heap.size < W2.heap.size := by have := hS.size; simp at this; omega
      clear hS hbX hr
      have hh := hC3.hat hk (by omega)
      obtain ⟨g0, c0, e0, hd3, hv3, _, hg3, hcg⟩ := hC3.at (i := 0) (k := k) (by omega) hk
      refine wpIn_block ?_
      refine wpIn_seq_k fun K hK => ?_
      cases hi : bodyB (fun i => colOf U i k) with
      | false =>
        have hno : Shut (stepBB U k = false) := by show stepBB U k = false; rw [stepBB, show (fun j => U (k * 12 + j)) = (fun i => colOf U i k) from rfl, hi]; rfl
        refine wpIn_region_held_drew (S := fun w' => w'.cell? ⟨W.heap.size, 0, none⟩ = some (.int .i64 (k : Int)) ∧ w'.cell? ⟨W.heap.size, 1, none⟩ = some (.pointer (some ⟨cb, 0, none⟩)) ∧ w'.cell? ⟨bv, 0, none⟩ = some (.pointer (some ⟨cb, 0, none⟩)) ∧ w'.cell? ⟨cb, 0, none⟩ = some (.slice (some ⟨g0, 0, none⟩) n c0) ∧ w'.cell? ⟨g0, k, none⟩ = some (.int .i64 (colOf U 0 k))) (by kernel_rfl) (by rintro ⟨_, _, h⟩; exact h) (by kernel_rfl) ?_ (fun hHeld => ?_)
        · (try dsimp only)
          (first | (go_simp; done) | (go_keep; done))
        refine tq 0 hHeld ?_
        (refine tc 1 fun K hK => ?_; go_simp; (go_at_call 49; refine (kOk_q (HAt.below hh (Below.drew (Below.refl _ _))) _ hi).mono ?_; rintro e w5 ⟨rfl, hb5⟩; obtain ⟨hc5, hf5⟩ := bcell hb5; have hz5 := hb5.size; (try simp only [World.size_drew, World.size_alloc, World.size_setCell] at hc5 hf5 hz5); have hk1 := fun o => hc5 W.heap.size o (by omega); have hk2 := fun o => hc5 bv o (by omega); have hk3 := fun o => hc5 cb o (by omega); have hk4 := fun o => hc5 g0 o (by omega); clear hc5 hf5); (try go_wp2_with fail); refine tr hK (fun hHeld => ?_); clear hK K)
        refine tq 2 hHeld ?_
        refine tq 3 hHeld ?_
        refine tn 4 hHeld ?_
        refine tn 5 hHeld ?_
        refine tn 6 hHeld ?_
        refine tn 7 hHeld ?_
        refine tn 8 hHeld ?_
        refine tn 9 hHeld ?_
        refine tn 10 hHeld ?_
        refine tn 11 hHeld ?_
        refine tn 12 hHeld ?_
        refine tn 13 hHeld ?_
        refine tn 14 hHeld ?_
        refine tn 15 hHeld ?_
        refine tn 16 hHeld ?_
        refine tn 17 hHeld ?_
        refine tn 18 hHeld ?_
        refine tn 19 hHeld ?_
        refine tn 20 hHeld ?_
        refine tn 21 hHeld ?_
        refine tn 22 hHeld ?_
        refine tn 23 hHeld ?_
        refine tn 24 hHeld ?_
        refine tn 25 hHeld ?_
        refine tn 26 hHeld ?_
        refine tq 27 hHeld ?_
        refine wpAnyH_done (by kernel_rfl) ?_ _
        refine hK _ _ ?_
        refine wpIn_cond_true rfl ?_
        refine wpIn_seq_k fun K2 hK2 => ?_
        refine wpIn_region_plain (by rintro ⟨_, _, h⟩; exact h) (by kernel_rfl) ?_
        have hb25 := hb2.trans (hb5.ofDr.mono hb2.size)
        have hBB : Below w.heap.size w w5 := hB.trans (hb25.mono hB.size)
        have q2 : w5.cell? ⟨w.heap.size, 0, none⟩ = some (.pointer none) := (hb25.cell (p := ⟨w.heap.size, 0, none⟩) (by simp; omega)).trans r2
        have q3 : w5.cell? ⟨w.heap.size + 1, 0, none⟩ = some (.bool false) := (hb25.cell (p := ⟨w.heap.size + 1, 0, none⟩) (by simp; omega)).trans r3
        have p2 : w5.frozen? ⟨w.heap.size, 0, none⟩ = false := (hb25.frozen (p := ⟨w.heap.size, 0, none⟩) (by simp; omega)).trans f2
        have p3 : w5.frozen? ⟨w.heap.size + 1, 0, none⟩ = false := (hb25.frozen (p := ⟨w.heap.size + 1, 0, none⟩) (by simp; omega)).trans f3
        go_wp2
        refine wpIn_ret ?_
        exact ⟨(KeepsFrom.of_below hb5.ofDr).trans (((KeepsOthers.setCell _ _ _).trans (KeepsOthers.setCell _ _ _)).from _), rfl, (hBB.setCell (by simp) _).setCell (by simp) _, by go_simp, by go_simp, by rw [bodsB, allBB_no hno.out n hk, Bool.and_false]⟩
      | true =>
        by_cases hk0 : 0 < k
        · have hd0' : decide (0 < k) = true := decide_eq_true hk0
          obtain ⟨j, hj⟩ : ∃ j, j + 1 = k := ⟨k - 1, by omega⟩
          have hj' : (k : Int) - 1 = (j : Int) := by omega
          have hjn : j < n := by omega
          have hwj : IntKind.i64.wrap (j : Int) = (j : Int) := i64w (by omega)
          obtain ⟨g0', c0', e0', _, p3, _⟩ := hC3.at (i := 0) (k := j) (by omega) hjn
          rw [e0] at e0'
          simp only [Value.slice.injEq, Option.some.injEq, Addr.mk.injEq] at e0'
          obtain ⟨⟨rfl, _⟩, _, rfl⟩ := e0'
          have HJ : Shut (j + 1 = k) := hj
          clear hj
          by_cases hge : colOf U 0 j < colOf U 0 k
          · have hdg : decide (colOf U 0 k ≤ colOf U 0 j) = false := decide_eq_false (by omega)
            have hyes : Shut (stepBB U k = true) := by show stepBB U k = true; rw [stepBB, show (fun j => U (k * 12 + j)) = (fun i => colOf U i k) from rfl, hi, show k - 1 = j from by have := HJ.out; omega]; simp only [Bool.true_and]; rw [show U (j * 12) = colOf U 0 j from rfl, show U (k * 12) = colOf U 0 k from rfl]; simp [hge]
            refine wpIn_region_held_drew (S := fun w' => w'.cell? ⟨W.heap.size, 0, none⟩ = some (.int .i64 (k : Int)) ∧ w'.cell? ⟨W.heap.size, 1, none⟩ = some (.pointer (some ⟨cb, 0, none⟩)) ∧ w'.cell? ⟨bv, 0, none⟩ = some (.pointer (some ⟨cb, 0, none⟩)) ∧ w'.cell? ⟨cb, 0, none⟩ = some (.slice (some ⟨g0, 0, none⟩) n c0) ∧ w'.cell? ⟨g0, k, none⟩ = some (.int .i64 (colOf U 0 k)) ∧ w'.cell? ⟨g0, j, none⟩ = some (.int .i64 (colOf U 0 j))) (by kernel_rfl) (by rintro ⟨_, _, h⟩; exact h) (by kernel_rfl) ?_ (fun hHeld => ?_)
            · (try dsimp only)
              (first | (go_simp; done) | (go_keep; done))
            refine tq 0 hHeld ?_
            (refine tc 1 fun K hK => ?_; go_simp; (go_at_call 49; refine (kOk_q (HAt.below hh (Below.drew (Below.refl _ _))) _ hi).mono ?_; rintro e w5 ⟨rfl, hb5⟩; obtain ⟨hc5, hf5⟩ := bcell hb5; have hz5 := hb5.size; (try simp only [World.size_drew, World.size_alloc, World.size_setCell] at hc5 hf5 hz5); have hk1 := fun o => hc5 W.heap.size o (by omega); have hk2 := fun o => hc5 bv o (by omega); have hk3 := fun o => hc5 cb o (by omega); have hk4 := fun o => hc5 g0 o (by omega); clear hc5 hf5); (try go_wp2_with fail); refine tr hK (fun hHeld => ?_); clear hK K)
            refine tq 2 hHeld ?_
            refine tq 3 hHeld ?_
            refine tq 4 hHeld ?_
            refine tq 5 hHeld ?_
            refine tq 6 hHeld ?_
            refine tq 7 hHeld ?_
            refine tq 8 hHeld ?_
            refine tq 9 hHeld ?_
            refine tq 10 hHeld ?_
            refine tq 11 hHeld ?_
            refine tq 12 hHeld ?_
            refine tq 13 hHeld ?_
            refine tq 14 hHeld ?_
            refine tq 15 hHeld ?_
            refine tq 16 hHeld ?_
            refine tq 17 hHeld ?_
            refine tq 18 hHeld ?_
            refine tq 19 hHeld ?_
            refine tq 20 hHeld ?_
            refine tq 21 hHeld ?_
            refine tq 22 hHeld ?_
            refine tq 23 hHeld ?_
            refine tq 24 hHeld ?_
            refine tq 25 hHeld ?_
            refine tq 26 hHeld ?_
            refine tq 27 hHeld ?_
            refine wpAnyH_done (by kernel_rfl) ?_ _
            refine hK _ _ ?_
            refine wpIn_cond_false rfl ?_
            refine wpIn_skip ?_
            exact ⟨KeepsFrom.of_below hb5.ofDr, hb2.trans (hb5.ofDr.mono hb2.size), by rw [allBB, hall, hyes.out]; rfl⟩
          · have hdg : decide (colOf U 0 k ≤ colOf U 0 j) = true := decide_eq_true (by omega)
            have hno : Shut (stepBB U k = false) := by show stepBB U k = false; rw [stepBB, show k - 1 = j from by have := HJ.out; omega]; have := HJ.out; rw [show U (j * 12) = colOf U 0 j from rfl, show U (k * 12) = colOf U 0 k from rfl]; simp [hge]; omega
            refine wpIn_region_held_drew (S := fun w' => w'.cell? ⟨W.heap.size, 0, none⟩ = some (.int .i64 (k : Int)) ∧ w'.cell? ⟨W.heap.size, 1, none⟩ = some (.pointer (some ⟨cb, 0, none⟩)) ∧ w'.cell? ⟨bv, 0, none⟩ = some (.pointer (some ⟨cb, 0, none⟩)) ∧ w'.cell? ⟨cb, 0, none⟩ = some (.slice (some ⟨g0, 0, none⟩) n c0) ∧ w'.cell? ⟨g0, k, none⟩ = some (.int .i64 (colOf U 0 k)) ∧ w'.cell? ⟨g0, j, none⟩ = some (.int .i64 (colOf U 0 j))) (by kernel_rfl) (by rintro ⟨_, _, h⟩; exact h) (by kernel_rfl) ?_ (fun hHeld => ?_)
            · (try dsimp only)
              (first | (go_simp; done) | (go_keep; done))
            refine tq 0 hHeld ?_
            (refine tc 1 fun K hK => ?_; go_simp; (go_at_call 49; refine (kOk_q (HAt.below hh (Below.drew (Below.refl _ _))) _ hi).mono ?_; rintro e w5 ⟨rfl, hb5⟩; obtain ⟨hc5, hf5⟩ := bcell hb5; have hz5 := hb5.size; (try simp only [World.size_drew, World.size_alloc, World.size_setCell] at hc5 hf5 hz5); have hk1 := fun o => hc5 W.heap.size o (by omega); have hk2 := fun o => hc5 bv o (by omega); have hk3 := fun o => hc5 cb o (by omega); have hk4 := fun o => hc5 g0 o (by omega); clear hc5 hf5); (try go_wp2_with fail); refine tr hK (fun hHeld => ?_); clear hK K)
            refine tq 2 hHeld ?_
            refine tq 3 hHeld ?_
            refine tq 4 hHeld ?_
            refine tq 5 hHeld ?_
            refine tq 6 hHeld ?_
            refine tq 7 hHeld ?_
            refine tq 8 hHeld ?_
            refine tq 9 hHeld ?_
            refine tq 10 hHeld ?_
            refine tq 11 hHeld ?_
            refine tq 12 hHeld ?_
            refine tq 13 hHeld ?_
            refine tq 14 hHeld ?_
            refine tq 15 hHeld ?_
            refine tq 16 hHeld ?_
            refine tq 17 hHeld ?_
            refine tq 18 hHeld ?_
            refine tq 19 hHeld ?_
            refine tq 20 hHeld ?_
            refine tq 21 hHeld ?_
            refine tq 22 hHeld ?_
            refine tq 23 hHeld ?_
            refine tq 24 hHeld ?_
            refine tq 25 hHeld ?_
            refine tq 26 hHeld ?_
            refine tq 27 hHeld ?_
            refine wpAnyH_done (by kernel_rfl) ?_ _
            refine hK _ _ ?_
            refine wpIn_cond_true rfl ?_
            refine wpIn_seq_k fun K2 hK2 => ?_
            refine wpIn_region_plain (by rintro ⟨_, _, h⟩; exact h) (by kernel_rfl) ?_
            have hb25 := hb2.trans (hb5.ofDr.mono hb2.size)
            have hBB : Below w.heap.size w w5 := hB.trans (hb25.mono hB.size)
            have q2 : w5.cell? ⟨w.heap.size, 0, none⟩ = some (.pointer none) := (hb25.cell (p := ⟨w.heap.size, 0, none⟩) (by simp; omega)).trans r2
            have q3 : w5.cell? ⟨w.heap.size + 1, 0, none⟩ = some (.bool false) := (hb25.cell (p := ⟨w.heap.size + 1, 0, none⟩) (by simp; omega)).trans r3
            have p2 : w5.frozen? ⟨w.heap.size, 0, none⟩ = false := (hb25.frozen (p := ⟨w.heap.size, 0, none⟩) (by simp; omega)).trans f2
            have p3 : w5.frozen? ⟨w.heap.size + 1, 0, none⟩ = false := (hb25.frozen (p := ⟨w.heap.size + 1, 0, none⟩) (by simp; omega)).trans f3
            go_wp2
            refine wpIn_ret ?_
            exact ⟨(KeepsFrom.of_below hb5.ofDr).trans (((KeepsOthers.setCell _ _ _).trans (KeepsOthers.setCell _ _ _)).from _), rfl, (hBB.setCell (by simp) _).setCell (by simp) _, by go_simp, by go_simp, by rw [bodsB, allBB_no hno.out n hk, Bool.and_false]⟩
        · have hd0' : decide (0 < k) = false := decide_eq_false hk0
          have HK : Shut (k = 0) := (by omega : k = 0)
          clear hk0
          have hyes : Shut (stepBB U k = true) := by show stepBB U k = true; rw [stepBB, show (fun j => U (k * 12 + j)) = (fun i => colOf U i k) from rfl, hi, HK.out]; rfl
          refine wpIn_region_held_drew (S := fun w' => w'.cell? ⟨W.heap.size, 0, none⟩ = some (.int .i64 (k : Int)) ∧ w'.cell? ⟨W.heap.size, 1, none⟩ = some (.pointer (some ⟨cb, 0, none⟩)) ∧ w'.cell? ⟨bv, 0, none⟩ = some (.pointer (some ⟨cb, 0, none⟩)) ∧ w'.cell? ⟨cb, 0, none⟩ = some (.slice (some ⟨g0, 0, none⟩) n c0) ∧ w'.cell? ⟨g0, k, none⟩ = some (.int .i64 (colOf U 0 k))) (by kernel_rfl) (by rintro ⟨_, _, h⟩; exact h) (by kernel_rfl) ?_ (fun hHeld => ?_)
          · (try dsimp only)
            (first | (go_simp; done) | (go_keep; done))
          refine tq 0 hHeld ?_
          (refine tc 1 fun K hK => ?_; go_simp; (go_at_call 49; refine (kOk_q (HAt.below hh (Below.drew (Below.refl _ _))) _ hi).mono ?_; rintro e w5 ⟨rfl, hb5⟩; obtain ⟨hc5, hf5⟩ := bcell hb5; have hz5 := hb5.size; (try simp only [World.size_drew, World.size_alloc, World.size_setCell] at hc5 hf5 hz5); have hk1 := fun o => hc5 W.heap.size o (by omega); have hk2 := fun o => hc5 bv o (by omega); have hk3 := fun o => hc5 cb o (by omega); have hk4 := fun o => hc5 g0 o (by omega); clear hc5 hf5); (try go_wp2_with fail); refine tr hK (fun hHeld => ?_); clear hK K)
          refine tq 2 hHeld ?_
          refine tq 3 hHeld ?_
          refine tq 4 hHeld ?_
          refine tq 5 hHeld ?_
          refine tq 6 hHeld ?_
          refine tq 7 hHeld ?_
          refine tn 8 hHeld ?_
          refine tn 9 hHeld ?_
          refine tn 10 hHeld ?_
          refine tn 11 hHeld ?_
          refine tn 12 hHeld ?_
          refine tn 13 hHeld ?_
          refine tn 14 hHeld ?_
          refine tn 15 hHeld ?_
          refine tn 16 hHeld ?_
          refine tn 17 hHeld ?_
          refine tn 18 hHeld ?_
          refine tn 19 hHeld ?_
          refine tn 20 hHeld ?_
          refine tn 21 hHeld ?_
          refine tn 22 hHeld ?_
          refine tn 23 hHeld ?_
          refine tn 24 hHeld ?_
          refine tn 25 hHeld ?_
          refine tq 26 hHeld ?_
          refine tq 27 hHeld ?_
          refine wpAnyH_done (by kernel_rfl) ?_ _
          refine hK _ _ ?_
          refine wpIn_cond_false rfl ?_
          refine wpIn_skip ?_
          exact ⟨KeepsFrom.of_below hb5.ofDr, hb2.trans (hb5.ofDr.mono hb2.size), by rw [allBB, hall, hyes.out]; rfl⟩
    case done =>
      rintro D W hD ⟨hbW, hall⟩ hK
      have q2 := (hbW.cell (p := ⟨w.heap.size, 0, none⟩) (by simp; omega)).trans r2
      have q3 := (hbW.cell (p := ⟨w.heap.size + 1, 0, none⟩) (by simp; omega)).trans r3
      have q4 := (hbW.cell (p := ⟨bv, 0, none⟩) hz2).trans r4
      have p2 := (hbW.frozen (p := ⟨w.heap.size, 0, none⟩) (by simp; omega)).trans f2
      have p3 := (hbW.frozen (p := ⟨w.heap.size + 1, 0, none⟩) (by simp; omega)).trans f3
      have hC4 := hC2.below hbW
      have hBW : Below w.heap.size w W := hB.trans (hbW.mono hB.size)
      have hzW := hbW.size
      go_wp2
      have hF : Fr (fun b => b = w.heap.size ∨ b = w.heap.size + 1) W ((W.setCell ⟨w.heap.size, 0, none⟩ (.pointer (some ⟨cb, 0, none⟩))).setCell ⟨w.heap.size + 1, 0, none⟩ (.bool true)) := (Fr.setCell (.inl rfl) _).trans (Fr.setCell (.inr rfl) _)
      refine marks_ret (B := w2.heap.size) hD rfl (hF.kind _ _ hK rfl) fun W' hS => ⟨.tuple #[.pointer (some ⟨cb, 0, none⟩), .bool true], ?_, ?_, .inl ⟨?_, cb, S, rfl, ?_, ?_⟩⟩
      · have x2 : W'.cell? ⟨w.heap.size, 0, none⟩ = some (.pointer (some ⟨cb, 0, none⟩)) := hS.cell (by go_simp)
        have x3 : W'.cell? ⟨w.heap.size + 1, 0, none⟩ = some (.bool true) := hS.cell (by go_simp)
        simp [results, Tryz.results33, go_sem, *]
      · exact ((hBW.setCell (by simp) _).setCell (by simp) _).trans (hS.below.mono (by omega))
      · rw [bodsB, hall, decide_eq_true h12]; rfl
      · omega
      · exact (hC4.frame hF (by omega) (fun b hb => by have := (hC2.xlt hb).1; omega)).sm hS
    case stop =>
      rintro D c W hD ⟨rfl, hbW, q2, q3, hno⟩ hK
      go_wp2
      refine marks_ret (B := w2.heap.size) hD rfl hK fun W' hS => ⟨.tuple #[.pointer none, .bool false], ?_, hbW.trans (hS.below.mono (by omega)), .inr ⟨hno, rfl⟩⟩
      have x2 := hS.cell q2
      have x3 := hS.cell q3
      simp [results, Tryz.results33, go_sem, *]
  · have h12' : (12 : Int) < (n : Int) := by omega
    refine calls_of_wp_marks Tryz.func33 rfl ?_
    simp only [Tryz.ntmps33, List.size_toArray, List.length_cons, List.length_nil, Nat.reduceAdd, Nat.reduceSub, Array.replicate_succ, Array.replicate_zero, List.push_toArray, List.append_toArray, List.nil_append, List.cons_append]
    go_wp2
    refine marks_ret0 (v := .tuple #[.pointer none, .bool false]) rfl (by simp [results, Tryz.results33, go_sem, *]) ⟨bel_a, .inr ⟨by rw [bodsB, decide_eq_false h12]; rfl, rfl⟩⟩
end Go.Proofs.YtejminehbnebmaaGreat
namespace Go.Proofs.YtejminehbnebmaaGreat
open Go.RowKit
set_option linter.unusedVariables false
set_option linter.unusedSimpArgs false

def ctsB (n : Nat) (C : Nat → Int) : Nat → Bool
  | 0 => true
  | k + 1 => ctsB n C k && atB n (C (k * 5)) (C (k * 5 + 1)) (C (k * 5 + 2)) (C (k * 5 + 3)) (C (k * 5 + 4))
theorem ctsB_le {n : Nat} {C : Nat → Int} {m : Nat} (h : ctsB n C m = true) : ∀ k, k < m → atB n (C (k * 5)) (C (k * 5 + 1)) (C (k * 5 + 2)) (C (k * 5 + 3)) (C (k * 5 + 4)) = true := by
  induction m with
  | zero => intro k hk; omega
  | succ m ih =>
    intro k hk
    rw [ctsB, Bool.and_eq_true] at h
    by_cases e : k = m
    · subst e; exact h.2
    · exact ih h.1 k (by omega)
theorem ctsB_no {n : Nat} {C : Nat → Int} {k : Nat} (h : atB n (C (k * 5)) (C (k * 5 + 1)) (C (k * 5 + 2)) (C (k * 5 + 3)) (C (k * 5 + 4)) = false) {m : Nat} (hk : k < m) : ctsB n C m = false := by
  cases e : ctsB n C m with
  | false => rfl
  | true => rw [ctsB_le e k hk] at h; cases h
/-- columns, and a ring of so many contacts in memory behind them -/
structure Mo (w wr : World) (cb n rb k : Nat) (U C : Nat → Int) (S : Nat → Value) (v : Value) : Prop where
  cs : Cs wr cb n (colOf U) S
  r0 : wr.cell? ⟨rb, 0, none⟩ = some v
  r1 : wr.cell? ⟨rb, 1, none⟩ = some (.int .i64 0)
  f0 : wr.frozen? ⟨rb, 0, none⟩ = false
  f1 : wr.frozen? ⟨rb, 1, none⟩ = false
  ml : ML wr (rb + 1) cb v C k
  bel : Below w.heap.size w wr
  rl : rb < wr.heap.size
theorem Mo.on {w wr : World} {cb n rb k : Nat} {U C : Nat → Int} {S : Nat → Value} {v : Value} {w' : World} (h : Mo w wr cb n rb k U C S v) (hb : Below wr.heap.size wr w') : Mo w w' cb n rb k U C S v :=
  ⟨h.cs.below hb, (hb.cell (p := ⟨rb, 0, none⟩) h.rl).trans h.r0, (hb.cell (p := ⟨rb, 1, none⟩) h.rl).trans h.r1, (hb.frozen (p := ⟨rb, 0, none⟩) h.rl).trans h.f0, (hb.frozen (p := ⟨rb, 1, none⟩) h.rl).trans h.f1, h.ml.below hb, h.bel.trans (hb.mono h.bel.size), Nat.lt_of_lt_of_le h.rl hb.size⟩
theorem Mo.push {w wr : World} {cb n rb k : Nat} {U C : Nat → Int} {S : Nat → Value} {v : Value} {W w7 : World} {g c : Nat} (h : Mo w wr cb n rb k U C S v) (hb : Below wr.heap.size wr W) (hg : W.grownBy w7 v.ownBlock) (ho : ML w7 (rb + 1) cb (.slice (some ⟨g, 0, none⟩) (k + 1) c) C (k + 1)) (hwr : w.heap.size ≤ rb) (hcb : cb < rb) (hxr : ∀ b, Xc S b → b < rb) :
    (w7.cell? ⟨rb, 0, none⟩ = some v ∧ w7.frozen? ⟨rb, 0, none⟩ = false ∧ rb < w7.heap.size) ∧ Mo w (w7.setCell ⟨rb, 0, none⟩ (.slice (some ⟨g, 0, none⟩) (k + 1) c)) cb n rb (k + 1) U C S (.slice (some ⟨g, 0, none⟩) (k + 1) c) := by
  have h1 := h.on hb
  have hlt := h1.ml.lt
  have hF : Fr (fun b => v.ownBlock = some b) W w7 := Fr.grown hg (fun b e => e) h1.ml.isCells
  have nr : ¬ v.ownBlock = some rb := fun e => by have := (hlt rb e).1; omega
  have n0 := (hF.cell (p := ⟨rb, 0, none⟩) h1.rl nr).trans h1.r0
  have n1 := (hF.cell (p := ⟨rb, 1, none⟩) h1.rl nr).trans h1.r1
  have m0 := (hF.frozen (p := ⟨rb, 0, none⟩) h1.rl nr).trans h1.f0
  have m1 := (hF.frozen (p := ⟨rb, 1, none⟩) h1.rl nr).trans h1.f1
  have l7 : rb < w7.heap.size := Nat.lt_of_lt_of_le h1.rl hF.size
  have c7 := h1.cs.frame hF (fun e => by have := (hlt cb e).1; omega) (fun b hx e => by have := (hlt b e).1; have := hxr b hx; omega)
  have hS : Fr (fun b => b = rb) w7 (w7.setCell ⟨rb, 0, none⟩ (.slice (some ⟨g, 0, none⟩) (k + 1) c)) := Fr.setCell (X := fun b => b = rb) rfl _
  refine ⟨⟨n0, m0, l7⟩, c7.frame hS (by show ¬ cb = rb; omega) (fun b hx e => by have := hxr b hx; omega), by go_simp, by go_simp, by go_simp, by go_simp, ho.frame hS (fun b e e2 => by have := (ho.lt b e).1; omega), ?_, by simpa using l7⟩
  exact (h1.bel.trans (hF.below (by have := h1.bel.size; omega) (fun b e => by have := (hlt b e).1; omega))).trans (hS.below (by have := hF.size; have := h1.bel.size; omega) (fun b e => by omega))
theorem columnsOf_t (a : Option Addr) (n c : Nat) (U : Nat → Int) (w : World) (h : Flat w a (n * 12) U) (hn : n ≤ 1048576) (hk : bodsB n U = true) :
    Calls Tryz.prog 33 #[.slice a n c] w fun e w' => ∃ cb S, e = .returned (.tuple #[.pointer (some ⟨cb, 0, none⟩), .bool true]) ∧ w.heap.size ≤ cb ∧ Cs w' cb n (colOf U) S ∧ Below w.heap.size w w' :=
  (columnsOf_any a n c U w h hn).mono fun e w' ⟨h1, h2⟩ => by
    rcases h2 with ⟨_, cb, S, r1, r2, r3⟩ | ⟨q, _⟩
    · exact ⟨cb, S, r1, r2, r3, h1⟩
    · rw [hk] at q; cases q
theorem columnsOf_f (a : Option Addr) (n c : Nat) (U : Nat → Int) (w : World) (h : Flat w a (n * 12) U) (hn : n ≤ 1048576) (hk : bodsB n U = false) :
    Calls Tryz.prog 33 #[.slice a n c] w fun e w' => e = .returned (.tuple #[.pointer none, .bool false]) ∧ Below w.heap.size w w' :=
  (columnsOf_any a n c U w h hn).mono fun e w' ⟨h1, h2⟩ => by
    rcases h2 with ⟨q, _⟩ | ⟨_, r⟩
    · rw [hk] at q; cases q
    · exact ⟨r, h1⟩
end Go.Proofs.YtejminehbnebmaaGreat
namespace Go.Proofs.YtejminehbnebmaaGreat
open Go.RowKit
set_option linter.unusedVariables false
set_option linter.unusedSimpArgs false

set_option maxRecDepth 20000 in
set_option maxHeartbeats 8000000 in
theorem meetingsOf_any (a : Option Addr) (n c : Nat) (U : Nat → Int) (ac : Option Addr) (m cc : Nat) (Ct : Nat → Int) (w : World) (h : Flat w a (n * 12) U) (hn : n ≤ 1048576) (h2 : Flat w ac (m * 5) Ct) (hm : m ≤ 1048576) :
    Calls Tryz.prog 20 #[.slice a n c, .slice ac m cc] w fun e w' => Below w.heap.size w w' ∧ (((bodsB n U && decide (m ≤ 144) && ctsB n Ct m) = true ∧ ∃ cb rb S v, e = .returned (.tuple #[.pointer (some ⟨cb, 0, none⟩), .pointer (some ⟨rb, 0, none⟩), .bool true]) ∧ w.heap.size ≤ cb ∧ cb < rb ∧ (∀ b, Xc S b → b < rb) ∧ Mo w w' cb n rb m U Ct S v) ∨
      ((bodsB n U && decide (m ≤ 144) && ctsB n Ct m) = false ∧ e = .returned (.tuple #[.pointer none, .pointer none, .bool false]))) := by
  have hset := cset_map
  cases kb : bodsB n U with
  | false =>
    go_enter Tryz.func20, Tryz.ntmps20
    go_wp2_with (go_at_call 33; refine (columnsOf_f a n c U _ h hn kb).mono ?_; rintro e w1 ⟨rfl, hb1⟩)
    exact bodyPost_ret (v := .tuple #[.pointer none, .pointer none, .bool false]) (by simp [results, Tryz.results20, go_sem, *]) rfl ⟨bel_a, .inr ⟨rfl, rfl⟩⟩
  | true =>
    by_cases km : m ≤ 144
    · have km1 : ¬ ((144 : Int) < (m : Int)) := by omega
      have km2 : decide ((144 : Int) < (m : Int)) = false := decide_eq_false km1
      have km3 : decide (m ≤ 144) = true := decide_eq_true km
      rw [km3]
      clear km3
      go_enter Tryz.func20, Tryz.ntmps20
      go_upto_region 6 with (go_at_call 33; refine (columnsOf_t a n c U _ h hn kb).mono ?_; rintro e w1 ⟨cb, S, rfl, hcb, hC, hb1⟩; have hz1 := hb1.size)
      go_loopw [30] (fun s wr => ∃ (k : Nat) (v : Value), k ≤ m ∧ s = .int .i64 (k : Int) ∧ Mo w wr cb n w1.heap.size k U Ct S v ∧ ctsB n Ct k = true) (fun s _ => m - (intOf s).toNat)
      case atStart => exact ⟨0, .slice none 0 0, Nat.zero_le _, rfl, ⟨hC.below (bel_a), by go_simp, by go_simp, by go_simp, by go_simp, ML.nil _ _ _ _, bel_a, by simp⟩, rfl⟩
      case round =>
        obtain ⟨k, v, hk, rfl, hM, hok⟩ := hrel
        by_cases hlt : k < m
        · have hkm : (k : Int) < (m : Int) := by omega
          obtain ⟨b2, o2, e2, hbl2, hc2⟩ := (h2.below hM.bel) (by omega)
          obtain ⟨A, hA⟩ : ∃ A, Ct (k * 5) = A := ⟨_, rfl⟩
          obtain ⟨B, hBB⟩ : ∃ B, Ct (k * 5 + 1) = B := ⟨_, rfl⟩
          obtain ⟨X, hX⟩ : ∃ X, Ct (k * 5 + 2) = X := ⟨_, rfl⟩
          obtain ⟨Y, hY⟩ : ∃ Y, Ct (k * 5 + 3) = Y := ⟨_, rfl⟩
          obtain ⟨D, hD⟩ : ∃ D, Ct (k * 5 + 4) = D := ⟨_, rfl⟩
          have r0 := hc2 (k * 5) (by omega)
          have r1 := hc2 (k * 5 + 1) (by omega)
          have r2 := hc2 (k * 5 + 2) (by omega)
          have r3 := hc2 (k * 5 + 3) (by omega)
          have r4 := hc2 (k * 5 + 4) (by omega)
          simp only [← Nat.add_assoc] at r0 r1 r2 r3 r4
          rw [hA] at r0
          rw [hBB] at r1
          rw [hX] at r2
          rw [hY] at r3
          rw [hD] at r4
          clear hc2
          subst e2
          cases kt : atB n A B X Y D with
          | false =>
            have hno : ctsB n Ct m = false := ctsB_no (k := k) (by rw [hA, hBB, hX, hY, hD]; exact kt) hlt
            clear hA hBB hX hY hD
            have hbw := hM.bel
            go_wp2_with (go_at_call 34; refine (meetingAt_no (hM.cs.below (bel_a)) hn _ _ _ _ _ kt).mono ?_; rintro e w3 ⟨rfl, hb3⟩; have hbx : Below wr.heap.size wr w3 := ((Below.refl _ _).alloc (Nat.le_refl _) _).trans (hb3.mono (by simp)); have hzx := hbx.size)
            exact bodyPost_ret (v := .tuple #[.pointer none, .pointer none, .bool false]) (by simp [results, Tryz.results20, go_sem, *]) rfl ⟨(hbw.trans (hbx.mono hbw.size)).trans (Below.mono (bel_a : Below w3.heap.size w3 _) (by have := hbw.size; omega)), .inr ⟨by rw [hno]; rfl, rfl⟩⟩
          | true =>
            go_upto_region 11 with (go_at_call 34; refine (meetingAt_yes (hM.cs.below (bel_a)) hn _ _ _ _ _ kt).mono ?_; rintro e w3 ⟨rfl, hb3⟩; have hbx : Below wr.heap.size wr w3 := ((Below.refl _ _).alloc (Nat.le_refl _) _).trans (hb3.mono (by simp)); have hzx := hbx.size; have hM3 := hM.on hbx)
            have x0 := hM3.r0
            have xl := hM3.rl
            have l33 : cb < w1.heap.size := hC.lt
            refine wp_region_held_drew (S := fun w' => w'.cell? ⟨w3.heap.size, 0, none⟩ = some (.int .i64 X) ∧ w'.cell? ⟨w3.heap.size, 1, none⟩ = some (.int .i64 Y) ∧ w'.cell? ⟨w3.heap.size, 2, none⟩ = some (.int .i64 D) ∧ w'.cell? ⟨w3.heap.size, 3, none⟩ = some (.int .i64 A) ∧ w'.cell? ⟨w3.heap.size, 4, none⟩ = some (.pointer (some ⟨cb, 0, none⟩)) ∧ w'.cell? ⟨w3.heap.size, 5, none⟩ = some (.int .i64 B) ∧ w'.cell? ⟨w3.heap.size, 6, none⟩ = some (.pointer (some ⟨cb, 0, none⟩))) (by kernel_rfl) ?_ (fun hHeld => ?_)
            · (try dsimp only)
              (first | (go_simp; done) | (go_keep; done))
            refine tq 0 hHeld ?_
            refine tq 1 hHeld ?_
            refine tq 2 hHeld ?_
            refine tq 3 hHeld ?_
            refine tq 5 hHeld ?_
            refine wpAnyH_ready (rs := [4, 6]) (by kernel_rfl) (by simp) ?_
            refine AllReadyH.cons rfl (fun K hK => ?_) (AllReadyH.cons rfl (fun K hK => ?_) AllReadyH.nil)
            · (go_simp; refine tr hK (fun hHeld => ?_); clear hK K)
              refine tc 6 fun K hK => ?_
              (go_simp; refine tr hK (fun hHeld => ?_); clear hK K)
              refine tc 7 fun K hK => ?_
              (refine step_mapp (by rfl) _ _ _ (by rfl) Tryz.underlying76 (w1.heap.size + 1) cb v Ct k (by rfl) (hM3.ml.below (bel_a)) (w3.heap.size + 1) (by first | rfl | (simp; done) | (go_simp; done)) (by intro i hi; rcases (show i = 0 ∨ i = 1 ∨ i = 2 ∨ i = 3 ∨ i = 4 ∨ i = 5 ∨ i = 6 by omega) with rfl | rfl | rfl | rfl | rfl | rfl | rfl <;> (unfold mv7; rw [hX, hY, hD, hA, hBB]; go_simp)) (by omega) (by first | omega | (simp; done) | (simp; omega)) ?_
               intro g7 c7 w7 ho7 hg7
               have far := fun o => hg7.cell_far ⟨w3.heap.size, o, none⟩ (by first | omega | (simp; done) | (simp; omega)) (fun e => Nat.lt_irrefl _ (hM3.ml.lt _ e.symm).2)
               obtain ⟨⟨n0, nf, l7⟩, hM8⟩ := hM3.push (bel_a) hg7 ho7 (by omega) hC.lt (fun b hb => (hC.xlt hb).2)
               refine tr hK (fun hHeld => ?_)
               clear hK K)
              refine tq 8 hHeld ?_
              refine tq 9 hHeld ?_
              refine tc 10 fun K hK => ?_
              (go_simp; refine tr hK (fun hHeld => ?_); clear hK K)
              refine wpAnyH_done (by kernel_rfl) ?_ _
              go_wp2_with fail
              go_roundw
              case rel => exact ⟨k + 1, _, by omega, by go_num, hM8.on (bel_a), by rw [ctsB, hok, hA, hBB, hX, hY, hD, kt]; rfl⟩
              case measure => simp [intOf]; omega
            · (go_simp; refine tr hK (fun hHeld => ?_); clear hK K)
              refine tc 4 fun K hK => ?_
              (go_simp; refine tr hK (fun hHeld => ?_); clear hK K)
              refine tc 7 fun K hK => ?_
              (refine step_mapp (by rfl) _ _ _ (by rfl) Tryz.underlying76 (w1.heap.size + 1) cb v Ct k (by rfl) (hM3.ml.below (bel_a)) (w3.heap.size + 1) (by first | rfl | (simp; done) | (go_simp; done)) (by intro i hi; rcases (show i = 0 ∨ i = 1 ∨ i = 2 ∨ i = 3 ∨ i = 4 ∨ i = 5 ∨ i = 6 by omega) with rfl | rfl | rfl | rfl | rfl | rfl | rfl <;> (unfold mv7; rw [hX, hY, hD, hA, hBB]; go_simp)) (by omega) (by first | omega | (simp; done) | (simp; omega)) ?_
               intro g7 c7 w7 ho7 hg7
               have far := fun o => hg7.cell_far ⟨w3.heap.size, o, none⟩ (by first | omega | (simp; done) | (simp; omega)) (fun e => Nat.lt_irrefl _ (hM3.ml.lt _ e.symm).2)
               obtain ⟨⟨n0, nf, l7⟩, hM8⟩ := hM3.push (bel_a) hg7 ho7 (by omega) hC.lt (fun b hb => (hC.xlt hb).2)
               refine tr hK (fun hHeld => ?_)
               clear hK K)
              refine tq 8 hHeld ?_
              refine tq 9 hHeld ?_
              refine tc 10 fun K hK => ?_
              (go_simp; refine tr hK (fun hHeld => ?_); clear hK K)
              refine wpAnyH_done (by kernel_rfl) ?_ _
              go_wp2_with fail
              go_roundw
              case rel => exact ⟨k + 1, _, by omega, by go_num, hM8.on (bel_a), by rw [ctsB, hok, hA, hBB, hX, hY, hD, kt]; rfl⟩
              case measure => simp [intOf]; omega
        · obtain rfl : k = m := by omega
          have hbw := hM.bel
          go_wp2_with fail
          exact bodyPost_ret (v := .tuple #[.pointer (some ⟨cb, 0, none⟩), .pointer (some ⟨w1.heap.size, 0, none⟩), .bool true]) (by simp [results, Tryz.results20, go_sem, *]) rfl ⟨hbw, .inl ⟨by rw [hok]; rfl, cb, _, S, v, rfl, hcb, hC.lt, fun b hb => (hC.xlt hb).2, hM⟩⟩
    · have km1 : (144 : Int) < (m : Int) := by omega
      have km2 : decide ((144 : Int) < (m : Int)) = true := decide_eq_true km1
      go_enter Tryz.func20, Tryz.ntmps20
      go_wp2_with (go_at_call 33; refine (columnsOf_t a n c U _ h hn kb).mono ?_; rintro e w1 ⟨cb, S, rfl, hcb, hC, hb1⟩; have hz1 := hb1.size)
      exact bodyPost_ret (v := .tuple #[.pointer none, .pointer none, .bool false]) (by simp [results, Tryz.results20, go_sem, *]) rfl ⟨bel_a, .inr ⟨by rw [decide_eq_false km]; rfl, rfl⟩⟩
end Go.Proofs.YtejminehbnebmaaGreat
namespace Go.Proofs.YtejminehbnebmaaGreat
open Go.RowKit
set_option linter.unusedVariables false
set_option linter.unusedSimpArgs false
def lenS (L : Nat → Nat) : Nat → Nat
  | 0 => 0
  | k + 1 => lenS L k + L k
theorem lenS_mono (L : Nat → Nat) : ∀ (k r : Nat), k ≤ r → lenS L k ≤ lenS L r
  | k, 0, h => by rw [Nat.le_zero.1 h]; exact Nat.le_refl _
  | k, r + 1, h => by
    rcases Nat.lt_or_eq_of_le h with h | h
    · exact Nat.le_trans (lenS_mono L k r (by omega)) (show lenS L r ≤ lenS L r + L r by omega)
    · rw [h]; exact Nat.le_refl _
abbrev zcBody : Value := .agg #[.int .i64 0, .int .i64 0, .int .i64 0, .int .i64 0, .int .i64 0, .int .i64 0, .int .i64 0, .int .i64 0, .int .i64 0, .int .i64 0, .int .i64 0, .int .i64 0]
theorem infoItBody : (Tryz.prog.info? 43).map (fun i => (i.zero, i.size, i.bytes)) = some (some zcBody, 12, 96) := by kernel_rfl
def catSBody (L : Nat → Nat) (X : Nat → Nat → Int) : Nat → Nat → Int
  | 0 => fun _ => 0
  | k + 1 => cat (lenS L k * 12) (catSBody L X k) (X k)
theorem cat0Body (X Y : Nat → Int) : ∀ q, cat (0 * 12) X Y q = Y q := by intro q; simp [cat]
abbrev zcPair : Value := .agg #[.int .i64 0, .int .i64 0]
def catSPair (L : Nat → Nat) (X : Nat → Nat → Int) : Nat → Nat → Int
  | 0 => fun _ => 0
  | k + 1 => cat (lenS L k * 2) (catSPair L X k) (X k)
theorem cat0Pair (X Y : Nat → Int) : ∀ q, cat (0 * 2) X Y q = Y q := by intro q; simp [cat]
end Go.Proofs.YtejminehbnebmaaGreat
