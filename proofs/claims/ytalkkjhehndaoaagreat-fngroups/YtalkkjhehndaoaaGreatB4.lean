/- Texts of a proof. -/
import Derived.Test.YtalkkjhehndaoaaGreatB2
import Derived.Test.YtalkkjhehndaoaaGreatB3
import Derived.LoopNIn
import Derived.LoopIn
import Derived.OwnWalkIn
import Derived.Deep.RegionHeld3
import Derived.Deep.DeepCutAuto
import Derived.Test.YtalkkjhehndaoaaGreatB1
import Derived.Deep.QuietTactic
import Derived.BigQuiet
import Derived.Deep.RegionWith
set_option maxHeartbeats 16000000
set_option maxRecDepth 20000
namespace Go.Proofs.YtalkkjhehndaoaaGreat
open Go.RowKit
set_option linter.unusedVariables false
set_option linter.unusedSimpArgs false
def stepBB (U : Nat → Int) (k : Nat) : Bool := bodyB (fun j => U (k * 12 + j)) && (decide (k = 0) || decide (U ((k - 1) * 12) < U (k * 12)))
def allBB (U : Nat → Int) : Nat → Bool
 | 0 => true
 | k + 1 => allBB U k && stepBB U k
theorem allBB_no {U : Nat → Int} {k : Nat} (h : stepBB U k = false) : ∀ n, k < n → allBB U n = false
 | 0, l => absurd l (Nat.not_lt_zero _)
 | n + 1, l => by
  unfold allBB
  rcases Nat.lt_succ_iff_lt_or_eq.1 l with l | rfl
  · rw [allBB_no h n l]; rfl
  · rw [h, Bool.and_false]
def bodsB (n : Nat) (U : Nat → Int) : Bool := decide (n ≤ 12) && allBB U n
def CsPost (n : Nat) (U : Nat → Int) (w : World) (e : Ending) (w' : World) : Prop :=
 Below w.heap.size w w' ∧ ((bodsB n U = true ∧ ∃ cb S, e = .returned (.tuple #[.pointer (some ⟨cb, 0, none⟩), .bool true]) ∧ w.heap.size ≤ cb ∧ Cs w' cb n (colOf U) S) ∨
  (bodsB n U = false ∧ e = .returned (.tuple #[.pointer none, .bool false])))
theorem columnsOf_any (a : Option Addr) (n c : Nat) (U : Nat → Int) (w : World) (h : Flat w a (n * 12) U) (hn : n ≤ 1048576) :
 Calls Tryz.prog 18 #[.slice a n c] w (CsPost n U w) := by
 have hset := cset_map
 by_cases h12 : n ≤ 12
 · have h12' : ¬ (12 : Int) < (n : Int) := by omega
   refine calls_of_wp_marks Tryz.func18 rfl ?_
   simp only [Tryz.ntmps18, List.size_toArray, List.length_cons, List.length_nil, Nat.reduceAdd, Nat.reduceSub, Array.replicate_succ, Array.replicate_zero, List.push_toArray, List.append_toArray, List.nil_append, List.cons_append]
   go_wp2_with (go_at_call 32; refine (rowsOf_any a n c U _ (h.below (bel_a)) (by omega)).mono ?_; rintro e w1 ⟨rfl, hb1, S, hC⟩)
   have hz1 := hb1.size
   simp only [World.size_alloc] at hz1
   have hB : Below w.heap.size w (w1.alloc (Obj.cells #[.pointer (some ⟨w.heap.size + 1 + 1, 0, none⟩)] 48)) := ((bel_a : Below w.heap.size w w1)).alloc (by omega) _
   have hw1 : Below w1.heap.size w1 (w1.alloc (Obj.cells #[.pointer (some ⟨w.heap.size + 1 + 1, 0, none⟩)] 48)) := (Below.refl _ _).alloc (Nat.le_refl _) _
   have hC2 := hC.below hw1
   simp only [World.size_alloc] at hC2
   have r2 : (w1.alloc (Obj.cells #[.pointer (some ⟨w.heap.size + 1 + 1, 0, none⟩)] 48)).cell? ⟨w.heap.size, 0, none⟩ = some (.pointer none) := (hw1.cell (p := ⟨w.heap.size, 0, none⟩) (by simp; omega)).trans ((hb1.cell (p := ⟨w.heap.size, 0, none⟩) (by simp; omega)).trans (by go_simp))
   have r3 : (w1.alloc (Obj.cells #[.pointer (some ⟨w.heap.size + 1 + 1, 0, none⟩)] 48)).cell? ⟨w.heap.size + 1, 0, none⟩ = some (.bool false) := (hw1.cell (p := ⟨w.heap.size + 1, 0, none⟩) (by simp; omega)).trans ((hb1.cell (p := ⟨w.heap.size + 1, 0, none⟩) (by simp)).trans (by go_simp))
   have f2 : (w1.alloc (Obj.cells #[.pointer (some ⟨w.heap.size + 1 + 1, 0, none⟩)] 48)).frozen? ⟨w.heap.size, 0, none⟩ = false := (hw1.frozen (p := ⟨w.heap.size, 0, none⟩) (by simp; omega)).trans ((hb1.frozen (p := ⟨w.heap.size, 0, none⟩) (by simp; omega)).trans (by go_simp))
   have f3 : (w1.alloc (Obj.cells #[.pointer (some ⟨w.heap.size + 1 + 1, 0, none⟩)] 48)).frozen? ⟨w.heap.size + 1, 0, none⟩ = false := (hw1.frozen (p := ⟨w.heap.size + 1, 0, none⟩) (by simp; omega)).trans ((hb1.frozen (p := ⟨w.heap.size + 1, 0, none⟩) (by simp)).trans (by go_simp))
   have r4 : (w1.alloc (Obj.cells #[.pointer (some ⟨w.heap.size + 1 + 1, 0, none⟩)] 48)).cell? ⟨w1.heap.size, 0, none⟩ = some (.pointer (some ⟨w.heap.size + 1 + 1, 0, none⟩)) := by go_simp
   have hz2 : w1.heap.size < (w1.alloc (Obj.cells #[.pointer (some ⟨w.heap.size + 1 + 1, 0, none⟩)] 48)).heap.size := by simp
   generalize (w1.alloc (Obj.cells #[.pointer (some ⟨w.heap.size + 1 + 1, 0, none⟩)] 48)) = w2 at hB hC2 r2 r3 f2 f3 r4 hz2 ⊢
   clear hw1 hC hb1
   have hcl := hC2.lt
   have hcb0 : w.heap.size + 1 < w.heap.size + 1 + 1 := by omega
   generalize w.heap.size + 1 + 1 = cb at hC2 r4 hcl hcb0 ⊢
   generalize hbv : w1.heap.size = bv at hz1 hz2 r4 ⊢
   clear hbv
   obtain ⟨ad, cc, hS0⟩ := (hC2.own 0 (by omega)).is
   have hd0 := hC2.hd 0 (by omega)
   rw [hS0] at hd0
   refine wp_range_out (gf := 33) (bound := #[.pointer (some ⟨cb, 0, none⟩)]) rfl each_enters (each_it cb n _ _ w2 hcl hd0 hn) (fun _ => rfl) (fun k W => Below w2.heap.size w2 W ∧ allBB U k = true)
    (fun c W => c = .ret ∧ Below w.heap.size w W ∧ W.cell? ⟨w.heap.size, 0, none⟩ = some (.pointer none) ∧ W.cell? ⟨w.heap.size + 1, 0, none⟩ = some (.bool false) ∧ bodsB n U = false) ?_ ?_ ⟨Below.refl _ _, rfl⟩ ?round ?done ?stop
   · rintro k A B ⟨h1, h2⟩ hs
     exact ⟨h1.trans hs.below, h2⟩
   · rintro c A B ⟨h1, h2, h3, h4, h5⟩ hs
     exact ⟨h1, h2.trans (hs.below.mono hB.size), hs.cell h3, hs.cell h4, h5⟩
   case round =>
    rintro l k W hl ⟨hbW, hall⟩ hk
    simp only [List.zip_toArray, List.zip_cons_cons, List.zip_nil_left, List.foldl_toArray, List.foldl_cons, List.foldl_nil, List.setIfInBounds_toArray, List.set_cons_succ, List.set_cons_zero]
    refine wpIn_region_plain (by rintro ⟨_, _, h⟩; exact h) (by kernel_rfl) ?_
    go_wp2
    refine ⟨(KeepsOthers.alloc _ _).from _, fun W2 hS hr => ?_⟩
    have hbX : Below w2.heap.size w2 (W.alloc (Obj.cells #[.int .i64 (k : Int), .pointer (some ⟨cb, 0, none⟩)] 60)) := hbW.alloc hbW.size _
    have hb2 := hbX.trans hS.below
    have hzW := hbW.size
    have v0 : W2.cell? ⟨W.heap.size, 0, none⟩ = some (.int .i64 (k : Int)) := hS.cell (by go_simp)
    have v1 : W2.cell? ⟨W.heap.size, 1, none⟩ = some (.pointer (some ⟨cb, 0, none⟩)) := hS.cell (by go_simp)
    have r4' : W2.cell? ⟨bv, 0, none⟩ = some (.pointer (some ⟨cb, 0, none⟩)) := (hb2.cell (p := ⟨bv, 0, none⟩) hz2).trans r4
    have hC3 := hC2.below hb2
    have hz3 : W.heap.size < W2.heap.size := by have := hS.size; simp at this; omega
    clear hS hbX hr
    have hh := hC3.hat hk (by omega)
    obtain ⟨g0, c0, e0, hd3, hv3, _, hg3, hcg⟩ := hC3.at (i := 0) (k := k) (by omega) hk
    refine wpIn_block ?_
    refine wpIn_seq_k fun K hK => ?_
    cases hi : bodyB (fun i => colOf U i k) with
    | false =>
     have hno : Shut (stepBB U k = false) := by show stepBB U k = false; rw [stepBB, show (fun j => U (k * 12 + j)) = (fun i => colOf U i k) from rfl, hi]; rfl
     refine wpIn_region_held_drew (S := fun w' => w'.cell? ⟨W.heap.size, 0, none⟩ = some (.int .i64 (k : Int)) ∧ w'.cell? ⟨W.heap.size, 1, none⟩ = some (.pointer (some ⟨cb, 0, none⟩)) ∧ w'.cell? ⟨bv, 0, none⟩ = some (.pointer (some ⟨cb, 0, none⟩)) ∧ w'.cell? ⟨cb, 0, none⟩ = some (.slice (some ⟨g0, 0, none⟩) n c0) ∧ w'.cell? ⟨g0, k, none⟩ = some (.int .i64 (colOf U 0 k))) (by kernel_rfl) (by rintro ⟨_, _, h⟩; exact h) (by kernel_rfl) ?_ (fun hHeld => ?_)
     · (try dsimp only)
       (first | (go_simp; done) | (go_keep; done))
     refine tq 0 hHeld ?_
     (refine tc 1 fun K hK => ?_; go_simp; (go_at_call 34; refine (kOk_q (HAt.below hh (Below.drew (Below.refl _ _))) _ hi).mono ?_; rintro e w5 ⟨rfl, hb5⟩; obtain ⟨hc5, hf5⟩ := bcell hb5; have hz5 := hb5.size; (try simp only [World.size_drew, World.size_alloc, World.size_setCell] at hc5 hf5 hz5); have hk1 := fun o => hc5 W.heap.size o (by omega); have hk2 := fun o => hc5 bv o (by omega); have hk3 := fun o => hc5 cb o (by omega); have hk4 := fun o => hc5 g0 o (by omega); clear hc5 hf5); (try go_wp2_with fail); refine tr hK (fun hHeld => ?_); clear hK K)
     refine tq 2 hHeld ?_
     refine tq 3 hHeld ?_
     refine tn 4 hHeld ?_
     refine tn 5 hHeld ?_
     refine tn 6 hHeld ?_
     refine tn 7 hHeld ?_
     refine tn 8 hHeld ?_
     refine tn 9 hHeld ?_
     refine tn 10 hHeld ?_
     refine tn 11 hHeld ?_
     refine tn 12 hHeld ?_
     refine tn 13 hHeld ?_
     refine tn 14 hHeld ?_
     refine tn 15 hHeld ?_
     refine tn 16 hHeld ?_
     refine tn 17 hHeld ?_
     refine tn 18 hHeld ?_
     refine tn 19 hHeld ?_
     refine tn 20 hHeld ?_
     refine tn 21 hHeld ?_
     refine tn 22 hHeld ?_
     refine tn 23 hHeld ?_
     refine tn 24 hHeld ?_
     refine tn 25 hHeld ?_
     refine tn 26 hHeld ?_
     refine tq 27 hHeld ?_
     refine wpAnyH_done (by kernel_rfl) ?_ _
     refine hK _ _ ?_
     refine wpIn_cond_true rfl ?_
     refine wpIn_seq_k fun K2 hK2 => ?_
     refine wpIn_region_plain (by rintro ⟨_, _, h⟩; exact h) (by kernel_rfl) ?_
     have hb25 := hb2.trans (hb5.ofDr.mono hb2.size)
     have hBB : Below w.heap.size w w5 := hB.trans (hb25.mono hB.size)
     have q2 : w5.cell? ⟨w.heap.size, 0, none⟩ = some (.pointer none) := (hb25.cell (p := ⟨w.heap.size, 0, none⟩) (by simp; omega)).trans r2
     have q3 : w5.cell? ⟨w.heap.size + 1, 0, none⟩ = some (.bool false) := (hb25.cell (p := ⟨w.heap.size + 1, 0, none⟩) (by simp; omega)).trans r3
     have p2 : w5.frozen? ⟨w.heap.size, 0, none⟩ = false := (hb25.frozen (p := ⟨w.heap.size, 0, none⟩) (by simp; omega)).trans f2
     have p3 : w5.frozen? ⟨w.heap.size + 1, 0, none⟩ = false := (hb25.frozen (p := ⟨w.heap.size + 1, 0, none⟩) (by simp; omega)).trans f3
     go_wp2
     refine wpIn_ret ?_
     exact ⟨(KeepsFrom.of_below hb5.ofDr).trans (((KeepsOthers.setCell _ _ _).trans (KeepsOthers.setCell _ _ _)).from _), rfl, (hBB.setCell (by simp) _).setCell (by simp) _, by go_simp, by go_simp, by rw [bodsB, allBB_no hno.out n hk, Bool.and_false]⟩
    | true =>
     by_cases hk0 : 0 < k
     · have hd0' : decide (0 < k) = true := decide_eq_true hk0
       obtain ⟨j, hj⟩ : ∃ j, j + 1 = k := ⟨k - 1, by omega⟩
       have hj' : (k : Int) - 1 = (j : Int) := by omega
       have hjn : j < n := by omega
       have hwj : IntKind.i64.wrap (j : Int) = (j : Int) := i64w (by omega)
       obtain ⟨g0', c0', e0', _, p3, _⟩ := hC3.at (i := 0) (k := j) (by omega) hjn
       rw [e0] at e0'
       simp only [Value.slice.injEq, Option.some.injEq, Addr.mk.injEq] at e0'
       obtain ⟨⟨rfl, _⟩, _, rfl⟩ := e0'
       have HJ : Shut (j + 1 = k) := hj
       clear hj
       by_cases hge : colOf U 0 j < colOf U 0 k
       · have hdg : decide (colOf U 0 k ≤ colOf U 0 j) = false := decide_eq_false (by omega)
         have hyes : Shut (stepBB U k = true) := by show stepBB U k = true; rw [stepBB, show (fun j => U (k * 12 + j)) = (fun i => colOf U i k) from rfl, hi, show k - 1 = j from by have := HJ.out; omega]; simp only [Bool.true_and]; rw [show U (j * 12) = colOf U 0 j from rfl, show U (k * 12) = colOf U 0 k from rfl]; simp [hge]
         refine wpIn_region_held_drew (S := fun w' => w'.cell? ⟨W.heap.size, 0, none⟩ = some (.int .i64 (k : Int)) ∧ w'.cell? ⟨W.heap.size, 1, none⟩ = some (.pointer (some ⟨cb, 0, none⟩)) ∧ w'.cell? ⟨bv, 0, none⟩ = some (.pointer (some ⟨cb, 0, none⟩)) ∧ w'.cell? ⟨cb, 0, none⟩ = some (.slice (some ⟨g0, 0, none⟩) n c0) ∧ w'.cell? ⟨g0, k, none⟩ = some (.int .i64 (colOf U 0 k)) ∧ w'.cell? ⟨g0, j, none⟩ = some (.int .i64 (colOf U 0 j))) (by kernel_rfl) (by rintro ⟨_, _, h⟩; exact h) (by kernel_rfl) ?_ (fun hHeld => ?_)
         · (try dsimp only)
           (first | (go_simp; done) | (go_keep; done))
         refine tq 0 hHeld ?_
         (refine tc 1 fun K hK => ?_; go_simp; (go_at_call 34; refine (kOk_q (HAt.below hh (Below.drew (Below.refl _ _))) _ hi).mono ?_; rintro e w5 ⟨rfl, hb5⟩; obtain ⟨hc5, hf5⟩ := bcell hb5; have hz5 := hb5.size; (try simp only [World.size_drew, World.size_alloc, World.size_setCell] at hc5 hf5 hz5); have hk1 := fun o => hc5 W.heap.size o (by omega); have hk2 := fun o => hc5 bv o (by omega); have hk3 := fun o => hc5 cb o (by omega); have hk4 := fun o => hc5 g0 o (by omega); clear hc5 hf5); (try go_wp2_with fail); refine tr hK (fun hHeld => ?_); clear hK K)
         refine tq 2 hHeld ?_
         refine tq 3 hHeld ?_
         refine tq 4 hHeld ?_
         refine tq 5 hHeld ?_
         refine tq 6 hHeld ?_
         refine tq 7 hHeld ?_
         refine tq 8 hHeld ?_
         refine tq 9 hHeld ?_
         refine tq 10 hHeld ?_
         refine tq 11 hHeld ?_
         refine tq 12 hHeld ?_
         refine tq 13 hHeld ?_
         refine tq 14 hHeld ?_
         refine tq 15 hHeld ?_
         refine tq 16 hHeld ?_
         refine tq 17 hHeld ?_
         refine tq 18 hHeld ?_
         refine tq 19 hHeld ?_
         refine tq 20 hHeld ?_
         refine tq 21 hHeld ?_
         refine tq 22 hHeld ?_
         refine tq 23 hHeld ?_
         refine tq 24 hHeld ?_
         refine tq 25 hHeld ?_
         refine tq 26 hHeld ?_
         refine tq 27 hHeld ?_
         refine wpAnyH_done (by kernel_rfl) ?_ _
         refine hK _ _ ?_
         refine wpIn_cond_false rfl ?_
         refine wpIn_skip ?_
         exact ⟨KeepsFrom.of_below hb5.ofDr, hb2.trans (hb5.ofDr.mono hb2.size), by rw [allBB, hall, hyes.out]; rfl⟩
       · have hdg : decide (colOf U 0 k ≤ colOf U 0 j) = true := decide_eq_true (by omega)
         have hno : Shut (stepBB U k = false) := by show stepBB U k = false; rw [stepBB, show k - 1 = j from by have := HJ.out; omega]; have := HJ.out; rw [show U (j * 12) = colOf U 0 j from rfl, show U (k * 12) = colOf U 0 k from rfl]; simp [hge]; omega
         refine wpIn_region_held_drew (S := fun w' => w'.cell? ⟨W.heap.size, 0, none⟩ = some (.int .i64 (k : Int)) ∧ w'.cell? ⟨W.heap.size, 1, none⟩ = some (.pointer (some ⟨cb, 0, none⟩)) ∧ w'.cell? ⟨bv, 0, none⟩ = some (.pointer (some ⟨cb, 0, none⟩)) ∧ w'.cell? ⟨cb, 0, none⟩ = some (.slice (some ⟨g0, 0, none⟩) n c0) ∧ w'.cell? ⟨g0, k, none⟩ = some (.int .i64 (colOf U 0 k)) ∧ w'.cell? ⟨g0, j, none⟩ = some (.int .i64 (colOf U 0 j))) (by kernel_rfl) (by rintro ⟨_, _, h⟩; exact h) (by kernel_rfl) ?_ (fun hHeld => ?_)
         · (try dsimp only)
           (first | (go_simp; done) | (go_keep; done))
         refine tq 0 hHeld ?_
         (refine tc 1 fun K hK => ?_; go_simp; (go_at_call 34; refine (kOk_q (HAt.below hh (Below.drew (Below.refl _ _))) _ hi).mono ?_; rintro e w5 ⟨rfl, hb5⟩; obtain ⟨hc5, hf5⟩ := bcell hb5; have hz5 := hb5.size; (try simp only [World.size_drew, World.size_alloc, World.size_setCell] at hc5 hf5 hz5); have hk1 := fun o => hc5 W.heap.size o (by omega); have hk2 := fun o => hc5 bv o (by omega); have hk3 := fun o => hc5 cb o (by omega); have hk4 := fun o => hc5 g0 o (by omega); clear hc5 hf5); (try go_wp2_with fail); refine tr hK (fun hHeld => ?_); clear hK K)
         refine tq 2 hHeld ?_
         refine tq 3 hHeld ?_
         refine tq 4 hHeld ?_
         refine tq 5 hHeld ?_
         refine tq 6 hHeld ?_
         refine tq 7 hHeld ?_
         refine tq 8 hHeld ?_
         refine tq 9 hHeld ?_
         refine tq 10 hHeld ?_
         refine tq 11 hHeld ?_
         refine tq 12 hHeld ?_
         refine tq 13 hHeld ?_
         refine tq 14 hHeld ?_
         refine tq 15 hHeld ?_
         refine tq 16 hHeld ?_
         refine tq 17 hHeld ?_
         refine tq 18 hHeld ?_
         refine tq 19 hHeld ?_
         refine tq 20 hHeld ?_
         refine tq 21 hHeld ?_
         refine tq 22 hHeld ?_
         refine tq 23 hHeld ?_
         refine tq 24 hHeld ?_
         refine tq 25 hHeld ?_
         refine tq 26 hHeld ?_
         refine tq 27 hHeld ?_
         refine wpAnyH_done (by kernel_rfl) ?_ _
         refine hK _ _ ?_
         refine wpIn_cond_true rfl ?_
         refine wpIn_seq_k fun K2 hK2 => ?_
         refine wpIn_region_plain (by rintro ⟨_, _, h⟩; exact h) (by kernel_rfl) ?_
         have hb25 := hb2.trans (hb5.ofDr.mono hb2.size)
         have hBB : Below w.heap.size w w5 := hB.trans (hb25.mono hB.size)
         have q2 : w5.cell? ⟨w.heap.size, 0, none⟩ = some (.pointer none) := (hb25.cell (p := ⟨w.heap.size, 0, none⟩) (by simp; omega)).trans r2
         have q3 : w5.cell? ⟨w.heap.size + 1, 0, none⟩ = some (.bool false) := (hb25.cell (p := ⟨w.heap.size + 1, 0, none⟩) (by simp; omega)).trans r3
         have p2 : w5.frozen? ⟨w.heap.size, 0, none⟩ = false := (hb25.frozen (p := ⟨w.heap.size, 0, none⟩) (by simp; omega)).trans f2
         have p3 : w5.frozen? ⟨w.heap.size + 1, 0, none⟩ = false := (hb25.frozen (p := ⟨w.heap.size + 1, 0, none⟩) (by simp; omega)).trans f3
         go_wp2
         refine wpIn_ret ?_
         exact ⟨(KeepsFrom.of_below hb5.ofDr).trans (((KeepsOthers.setCell _ _ _).trans (KeepsOthers.setCell _ _ _)).from _), rfl, (hBB.setCell (by simp) _).setCell (by simp) _, by go_simp, by go_simp, by rw [bodsB, allBB_no hno.out n hk, Bool.and_false]⟩
     · have hd0' : decide (0 < k) = false := decide_eq_false hk0
       have HK : Shut (k = 0) := (by omega : k = 0)
       clear hk0
       have hyes : Shut (stepBB U k = true) := by show stepBB U k = true; rw [stepBB, show (fun j => U (k * 12 + j)) = (fun i => colOf U i k) from rfl, hi, HK.out]; rfl
       refine wpIn_region_held_drew (S := fun w' => w'.cell? ⟨W.heap.size, 0, none⟩ = some (.int .i64 (k : Int)) ∧ w'.cell? ⟨W.heap.size, 1, none⟩ = some (.pointer (some ⟨cb, 0, none⟩)) ∧ w'.cell? ⟨bv, 0, none⟩ = some (.pointer (some ⟨cb, 0, none⟩)) ∧ w'.cell? ⟨cb, 0, none⟩ = some (.slice (some ⟨g0, 0, none⟩) n c0) ∧ w'.cell? ⟨g0, k, none⟩ = some (.int .i64 (colOf U 0 k))) (by kernel_rfl) (by rintro ⟨_, _, h⟩; exact h) (by kernel_rfl) ?_ (fun hHeld => ?_)
       · (try dsimp only)
         (first | (go_simp; done) | (go_keep; done))
       refine tq 0 hHeld ?_
       (refine tc 1 fun K hK => ?_; go_simp; (go_at_call 34; refine (kOk_q (HAt.below hh (Below.drew (Below.refl _ _))) _ hi).mono ?_; rintro e w5 ⟨rfl, hb5⟩; obtain ⟨hc5, hf5⟩ := bcell hb5; have hz5 := hb5.size; (try simp only [World.size_drew, World.size_alloc, World.size_setCell] at hc5 hf5 hz5); have hk1 := fun o => hc5 W.heap.size o (by omega); have hk2 := fun o => hc5 bv o (by omega); have hk3 := fun o => hc5 cb o (by omega); have hk4 := fun o => hc5 g0 o (by omega); clear hc5 hf5); (try go_wp2_with fail); refine tr hK (fun hHeld => ?_); clear hK K)
       refine tq 2 hHeld ?_
       refine tq 3 hHeld ?_
       refine tq 4 hHeld ?_
       refine tq 5 hHeld ?_
       refine tq 6 hHeld ?_
       refine tq 7 hHeld ?_
       refine tn 8 hHeld ?_
       refine tn 9 hHeld ?_
       refine tn 10 hHeld ?_
       refine tn 11 hHeld ?_
       refine tn 12 hHeld ?_
       refine tn 13 hHeld ?_
       refine tn 14 hHeld ?_
       refine tn 15 hHeld ?_
       refine tn 16 hHeld ?_
       refine tn 17 hHeld ?_
       refine tn 18 hHeld ?_
       refine tn 19 hHeld ?_
       refine tn 20 hHeld ?_
       refine tn 21 hHeld ?_
       refine tn 22 hHeld ?_
       refine tn 23 hHeld ?_
       refine tn 24 hHeld ?_
       refine tn 25 hHeld ?_
       refine tq 26 hHeld ?_
       refine tq 27 hHeld ?_
       refine wpAnyH_done (by kernel_rfl) ?_ _
       refine hK _ _ ?_
       refine wpIn_cond_false rfl ?_
       refine wpIn_skip ?_
       exact ⟨KeepsFrom.of_below hb5.ofDr, hb2.trans (hb5.ofDr.mono hb2.size), by rw [allBB, hall, hyes.out]; rfl⟩
   case done =>
    rintro D W hD ⟨hbW, hall⟩ hK
    have q2 := (hbW.cell (p := ⟨w.heap.size, 0, none⟩) (by simp; omega)).trans r2
    have q3 := (hbW.cell (p := ⟨w.heap.size + 1, 0, none⟩) (by simp; omega)).trans r3
    have q4 := (hbW.cell (p := ⟨bv, 0, none⟩) hz2).trans r4
    have p2 := (hbW.frozen (p := ⟨w.heap.size, 0, none⟩) (by simp; omega)).trans f2
    have p3 := (hbW.frozen (p := ⟨w.heap.size + 1, 0, none⟩) (by simp; omega)).trans f3
    have hC4 := hC2.below hbW
    have hBW : Below w.heap.size w W := hB.trans (hbW.mono hB.size)
    have hzW := hbW.size
    go_wp2
    have hF : Fr (fun b => b = w.heap.size ∨ b = w.heap.size + 1) W ((W.setCell ⟨w.heap.size, 0, none⟩ (.pointer (some ⟨cb, 0, none⟩))).setCell ⟨w.heap.size + 1, 0, none⟩ (.bool true)) := (Fr.setCell (.inl rfl) _).trans (Fr.setCell (.inr rfl) _)
    refine marks_ret (B := w2.heap.size) hD rfl (hF.kind _ _ hK rfl) fun W' hS => ⟨.tuple #[.pointer (some ⟨cb, 0, none⟩), .bool true], ?_, ?_, .inl ⟨?_, cb, S, rfl, ?_, ?_⟩⟩
    · have x2 : W'.cell? ⟨w.heap.size, 0, none⟩ = some (.pointer (some ⟨cb, 0, none⟩)) := hS.cell (by go_simp)
      have x3 : W'.cell? ⟨w.heap.size + 1, 0, none⟩ = some (.bool true) := hS.cell (by go_simp)
      simp [results, Tryz.results18, go_sem, *]
    · exact ((hBW.setCell (by simp) _).setCell (by simp) _).trans (hS.below.mono (by omega))
    · rw [bodsB, hall, decide_eq_true h12]; rfl
    · omega
    · exact (hC4.frame hF (by omega) (fun b hb => by have := (hC2.xlt hb).1; omega)).sm hS
   case stop =>
    rintro D c W hD ⟨rfl, hbW, q2, q3, hno⟩ hK
    go_wp2
    refine marks_ret (B := w2.heap.size) hD rfl hK fun W' hS => ⟨.tuple #[.pointer none, .bool false], ?_, hbW.trans (hS.below.mono (by omega)), .inr ⟨hno, rfl⟩⟩
    have x2 := hS.cell q2
    have x3 := hS.cell q3
    simp [results, Tryz.results18, go_sem, *]
 · have h12' : (12 : Int) < (n : Int) := by omega
   refine calls_of_wp_marks Tryz.func18 rfl ?_
   simp only [Tryz.ntmps18, List.size_toArray, List.length_cons, List.length_nil, Nat.reduceAdd, Nat.reduceSub, Array.replicate_succ, Array.replicate_zero, List.push_toArray, List.append_toArray, List.nil_append, List.cons_append]
   go_wp2
   refine marks_ret0 (v := .tuple #[.pointer none, .bool false]) rfl (by simp [results, Tryz.results18, go_sem, *]) ⟨bel_a, .inr ⟨by rw [bodsB, decide_eq_false h12]; rfl, rfl⟩⟩
def rootF (F : Nat → Nat) (i : Nat) : Nat := if h : F i < i then rootF F (F i) else i
termination_by i
theorem root_lt {F : Nat → Nat} {i : Nat} (h : F i < i) : rootF F i = rootF F (F i) := by rw [rootF, dif_pos h]
theorem root_self {F : Nat → Nat} {i : Nat} (h : ¬ F i < i) : rootF F i = i := by rw [rootF, dif_neg h]
theorem root_step {F : Nat → Nat} (le : ∀ i, F i ≤ i) (i : Nat) : rootF F (F i) = rootF F i := by
 by_cases h : F i < i
 · rw [root_lt h]
 · have e : F i = i := by have := le i; omega
   rw [e]
theorem root_le (F : Nat → Nat) : ∀ i, rootF F i ≤ i := by
 intro i
 induction i using Nat.strongRecOn with
 | ind i ih =>
  by_cases h : F i < i
  · rw [root_lt h]; exact Nat.le_trans (ih _ h) (Nat.le_of_lt h)
  · rw [root_self h]; exact Nat.le_refl _
theorem root_top (F : Nat → Nat) : ∀ i, ¬ F (rootF F i) < rootF F i := by
 intro i
 induction i using Nat.strongRecOn with
 | ind i ih =>
  by_cases h : F i < i
  · rw [root_lt h]; exact ih _ h
  · rw [root_self h]; exact h
def setF (F : Nat → Nat) (p v : Nat) : Nat → Nat := fun j => if j = p then v else F j
theorem setF_at (F : Nat → Nat) (p v : Nat) : setF F p v p = v := if_pos rfl
theorem setF_ne {F : Nat → Nat} {p v j : Nat} (h : j ≠ p) : setF F p v j = F j := if_neg h
theorem setF_le {F : Nat → Nat} {p v : Nat} (le : ∀ i, F i ≤ i) (hv : v ≤ p) : ∀ i, setF F p v i ≤ i := fun i => by
 by_cases e : i = p
 · subst e; rw [setF_at]; exact hv
 · rw [setF_ne e]; exact le i
theorem root_half {F : Nat → Nat} (le : ∀ i, F i ≤ i) (p : Nat) : ∀ j, rootF (setF F p (F (F p))) j = rootF F j := by
 intro j
 induction j using Nat.strongRecOn with
 | ind j ih =>
  by_cases e : j = p
  · subst e
    have l1 := le j
    have l2 := le (F j)
    by_cases h : F (F j) < j
    · rw [root_lt (by rw [setF_at]; exact h), setF_at, ih _ h, root_step le, root_step le]
    · rw [root_self (by rw [setF_at]; exact h), root_self (by omega)]
  · by_cases h : F j < j
    · rw [root_lt (by rw [setF_ne e]; exact h), setF_ne e, ih _ h, root_step le]
    · rw [root_self (by rw [setF_ne e]; exact h), root_self h]
theorem root_join {F : Nat → Nat} {m M : Nat} (hm : ¬ F m < m) (hM : ¬ F M < M) (hmM : m ≤ M) : ∀ j, rootF (setF F M m) j = if rootF F j = M then m else rootF F j := by
 intro j
 induction j using Nat.strongRecOn with
 | ind j ih =>
  by_cases e : j = M
  · subst e
    rw [root_self (F := F) hM, if_pos rfl]
    by_cases h : m < j
    · rw [root_lt (by rw [setF_at]; exact h), setF_at, root_self (by rw [setF_ne (by omega)]; exact hm)]
    · rw [root_self (by rw [setF_at]; exact h)]; omega
  · by_cases h : F j < j
    · rw [root_lt (by rw [setF_ne e]; exact h), setF_ne e, ih _ h, ← root_lt h]
    · rw [root_self (by rw [setF_ne e]; exact h), root_self h, if_neg e]
structure Uf (w : World) (ub g n c : Nat) (F : Nat → Nat) : Prop where
 hd : w.cell? ⟨ub, 0, none⟩ = some (.slice (some ⟨g, 0, none⟩) n c)
 row : ∀ i, i < n → w.cell? ⟨g, i, none⟩ = some (.int .i64 (F i : Int))
 fz : ∀ i, w.frozen? ⟨g, i, none⟩ = false
 le : ∀ i, F i ≤ i
 ne : ub ≠ g
 l1 : ub < w.heap.size
 l2 : g < w.heap.size
theorem Uf.on {w w' : World} {ub g n c : Nat} {F : Nat → Nat} (h : Uf w ub g n c F) (k : Below w.heap.size w w') : Uf w' ub g n c F :=
 ⟨(k.cell (p := ⟨ub, 0, none⟩) h.l1).trans h.hd, fun i hi => (k.cell (p := ⟨g, i, none⟩) h.l2).trans (h.row i hi), fun i => (k.frozen (p := ⟨g, i, none⟩) h.l2).trans (h.fz i), h.le, h.ne, Nat.lt_of_lt_of_le h.l1 k.size, Nat.lt_of_lt_of_le h.l2 k.size⟩
theorem Uf.set {w : World} {ub g n c : Nat} {F : Nat → Nat} (h : Uf w ub g n c F) {p v : Nat} (hp : p < n) (hv : v ≤ p) : Uf (w.setCell ⟨g, p, none⟩ (.int .i64 (v : Int))) ub g n c (setF F p v) := by
 refine ⟨?_, fun i hi => ?_, fun i => by rw [World.frozen?_setCell]; exact h.fz i, setF_le h.le hv, h.ne, by simpa using h.l1, by simpa using h.l2⟩
 · rw [cset_far (by simp; have := h.ne; omega)]; exact h.hd
 · by_cases e : i = p
   · subst e; rw [cset_map, h.row i hi, setF_at]; rfl
   · rw [cset_other (by intro q; cases q; exact e rfl), setF_ne e]; exact h.row i hi
theorem top_q (ub g n c p : Nat) (F : Nat → Nat) (w : World) (h : Uf w ub g n c F) (hp : p < n) :
 Calls Tryz.prog 46 #[.pointer (some ⟨ub, 0, none⟩), .int .i64 (p : Int)] w fun e w' => e = .returned (.int .i64 (rootF F p : Int)) ∧ (∃ F', Uf w' ub g n c F' ∧ ∀ j, rootF F' j = rootF F j) ∧ Fr (fun b => b = g) w w' := by
 have hset := cset_map
 go_enter Tryz.func46, Tryz.ntmps46
 go_upto_region 1 with fail
 go_loopw [1] (fun s1 wr => ∃ (q : Nat) (F' : Nat → Nat), s1 = .int .i64 (q : Int) ∧ q < n ∧ Uf wr ub g n c F' ∧ (∀ j, rootF F' j = rootF F j) ∧ rootF F' q = rootF F p ∧ Fr (fun b => b = g) w wr) (fun s1 _ => (intOf s1).toNat)
 case atStart => exact ⟨p, F, rfl, hp, h, fun _ => rfl, rfl, Fr.refl _ _⟩
 case round =>
  obtain ⟨q, F', rfl, hqn, hU, hall0, hrt0, hF⟩ := hrel
  have hall : Shut (∀ j, rootF F' j = rootF F j) := hall0
  have hrt : Shut (rootF F' q = rootF F p) := hrt0
  clear hall0 hrt0
  have hqi : (q : Int) < (n : Int) := by omega
  have u0 := hU.hd
  have uq := hU.row q hqn
  have uf := hU.fz
  have hle := hU.le
  by_cases e : F' q = q
  · have ee : ((F' q : Int) != (q : Int)) = false := by simp [e]
    have hv : rootF F p = q := by rw [← hrt.out, root_self (by omega)]
    clear e hrt
    go_wp2_with fail
    go_ret
    refine ⟨?_, ⟨F', hU, hall.out⟩, hF⟩
    rw [hv]
    rfl
  · have hlq : F' q < q := by have := hle q; omega
    have ee : ((F' q : Int) != (q : Int)) = true := by simp; omega
    have HH0 := root_half hle q
    have HR0 : rootF F' (F' (F' q)) = rootF F' q := by rw [root_step hle, root_step hle]
    have hr2 := hle (F' q)
    have ur := hU.row (F' q) (by omega)
    obtain ⟨s, hs⟩ : ∃ s, F' q = s := ⟨_, rfl⟩
    rw [hs] at uq ee hlq HH0 HR0 hr2 ur
    obtain ⟨r, hr⟩ : ∃ r, F' s = r := ⟨_, rfl⟩
    rw [hr] at HH0 HR0 hr2 ur
    have HH : Shut (∀ j, rootF (setF F' q r) j = rootF F j) := fun j => (HH0 j).trans (hall.out j)
    have HR : Shut (rootF (setF F' q r) r = rootF F p) := (HH0 r).trans (HR0.trans hrt.out)
    clear HH0 HR0 hall hrt e hs hr hle
    have hsi : (s : Int) < (n : Int) := by omega
    have hr2q : r ≤ q := by omega
    go_upto_region 2 with fail
    refine wp_region_held_drew (S := fun w' => w'.cell? ⟨ub, 0, none⟩ = some (.slice (some ⟨g, 0, none⟩) n c)) (by kernel_rfl) ?_ (fun hHeld => ?_)
    · (try dsimp only)
      (first | (go_simp; done) | (go_keep; done))
    refine tq 0 hHeld ?_
    refine tq 1 hHeld ?_
    refine tq 2 hHeld ?_
    refine tq 3 hHeld ?_
    refine tq 4 hHeld ?_
    refine tq 5 hHeld ?_
    refine tq 6 hHeld ?_
    refine tq 7 hHeld ?_
    refine tq 8 hHeld ?_
    refine tq 9 hHeld ?_
    refine tq 10 hHeld ?_
    refine tq 11 hHeld ?_
    refine tq 12 hHeld ?_
    refine tq 13 hHeld ?_
    refine tq 14 hHeld ?_
    refine tc 15 fun K hK => ?_
    (go_simp
     refine tr hK (fun hHeld => ?_)
     clear hK K)
    refine tq 16 hHeld ?_
    refine tc 17 fun K hK => ?_
    (go_simp
     refine tr hK (fun hHeld => ?_)
     clear hK K)
    refine tq 18 hHeld ?_
    refine tc 19 fun K hK => ?_
    (go_simp
     have hU2 := hU.set (v := r) hqn hr2q
     have hF2 := hF.trans (Fr.setCell (X := fun b => b = g) (p := ⟨g, q, none⟩) rfl (.int .i64 (r : Int)))
     clear u0 uq ur
     replace hU2 := hU2.on (Below.drew (Below.refl _ _))
     replace hF2 := hF2.drew
     generalize (wr.setCell ⟨g, q, none⟩ (.int .i64 (r : Int))).drew = w5 at hU2 hF2 ⊢
     have u0 := hU2.hd
     refine tr hK (fun hHeld => ?_)
     clear hK K)
    refine wpAnyH_done (by kernel_rfl) ?_ _
    have uq := hU2.row q hqn
    rw [setF_at] at uq
    go_wp2_with fail
    go_roundw
    case rel => exact ⟨r, _, rfl, by omega, hU2, HH.out, HR.out, hF2⟩
    case measure => simp [intOf]; omega
theorem join_q (ub g n c p q : Nat) (F : Nat → Nat) (w : World) (h : Uf w ub g n c F) (hp : p < n) (hq : q < n) :
 Calls Tryz.prog 75 #[.pointer (some ⟨ub, 0, none⟩), .int .i64 (p : Int), .int .i64 (q : Int)] w fun e w' => e = .returned (.tuple #[]) ∧ (∃ F', Uf w' ub g n c F' ∧ ∀ j, rootF F' j = if rootF F j = max (rootF F p) (rootF F q) then min (rootF F p) (rootF F q) else rootF F j) ∧ Fr (fun b => b = g) w w' := by
 have hset := cset_map
 have lp := root_le F p
 have lq := root_le F q
 go_enter Tryz.func75, Tryz.ntmps75
 go_upto_region 1 with (first
  | (have _ := hF1; go_at_call 46; refine (top_q ub g n c q F1 _ hU1 hq).mono ?_; rintro e w2 ⟨rfl, ⟨F2, hU2, hE2⟩, hF2⟩)
  | (go_at_call 46; refine (top_q ub g n c p F _ h hp).mono ?_; rintro e w1 ⟨rfl, ⟨F1, hU1, hE1⟩, hF1⟩))
 have hE : ∀ j, rootF F2 j = rootF F j := fun j => (hE2 j).trans (hE1 j)
 have hF := hF1.trans hF2
 (try rw [hE1 q])
 have hU := hU2
 obtain ⟨F', hF'⟩ : ∃ F', F2 = F' := ⟨_, rfl⟩
 rw [hF'] at hU hE
 clear hE1 hE2 hF1 hF2 hU1 hU2 hF'
 have tp : ¬ F' (rootF F p) < rootF F p := by rw [← hE p]; exact root_top F' p
 have tq' : ¬ F' (rootF F q) < rootF F q := by rw [← hE q]; exact root_top F' q
 generalize hA0 : rootF F p = A at lp tp ⊢
 generalize hB0 : rootF F q = B at lq tq' ⊢
 have hA : Shut (rootF F p = A) := hA0
 have hB : Shut (rootF F q = B) := hB0
 have HE : Shut (∀ j, rootF F' j = rootF F j) := hE
 clear hA0 hB0 hE
 have u0 := hU.hd
 have uf := hU.fz
 by_cases hAB : A < B
 · have i1 : (A : Int) < (B : Int) := by omega
   have i2 : ¬ (B : Int) < (A : Int) := by omega
   have i3 : (B : Int) < (n : Int) := by omega
   have uB := hU.row B (by omega)
   have hJ : Shut (∀ j, rootF (setF F' B A) j = if rootF F' j = B then A else rootF F' j) := root_join (m := A) (M := B) tp tq' (by omega)
   have hmx : Shut (max A B = B ∧ min A B = A) := by show _ ∧ _; omega
   have hU2 := hU.set (p := B) (v := A) (by omega) (by omega)
   clear tp tq' lp lq
   go_wp2_with fail
   go_end0
   exact ⟨rfl, ⟨_, hU2, fun j => by rw [hJ.out j, HE.out j, hA.out, hB.out, hmx.out.1, hmx.out.2]⟩, hF.trans (Fr.setCell (X := fun b => b = g) rfl _)⟩
 · by_cases hBA : B < A
   · have i1 : (B : Int) < (A : Int) := by omega
     have i2 : ¬ (A : Int) < (B : Int) := by omega
     have i3 : (A : Int) < (n : Int) := by omega
     have uB := hU.row A (by omega)
     have hJ : Shut (∀ j, rootF (setF F' A B) j = if rootF F' j = A then B else rootF F' j) := root_join (m := B) (M := A) tq' tp (by omega)
     have hmx : Shut (max A B = A ∧ min A B = B) := by show _ ∧ _; omega
     have hU2 := hU.set (p := A) (v := B) (by omega) (by omega)
     clear tp tq' lp lq
     go_wp2_with fail
     go_end0
     exact ⟨rfl, ⟨_, hU2, fun j => by rw [hJ.out j, HE.out j, hA.out, hB.out, hmx.out.1, hmx.out.2]⟩, hF.trans (Fr.setCell (X := fun b => b = g) rfl _)⟩
   · obtain rfl : A = B := by omega
     have i2 : ¬ (A : Int) < (A : Int) := by omega
     have i3 : (A : Int) < (n : Int) := by omega
     have uB := hU.row A (by omega)
     have hJ : Shut (∀ j, rootF (setF F' A A) j = if rootF F' j = A then A else rootF F' j) := root_join (m := A) (M := A) tp tp (by omega)
     have hmx : Shut (max A A = A ∧ min A A = A) := by show _ ∧ _; omega
     have hU2 := hU.set (p := A) (v := A) (by omega) (by omega)
     clear tp tq' lp lq
     go_wp2_with fail
     go_end0
     exact ⟨rfl, ⟨_, hU2, fun j => by rw [hJ.out j, HE.out j, hA.out, hB.out, hmx.out.1, hmx.out.2]⟩, hF.trans (Fr.setCell (X := fun b => b = g) rfl _)⟩
def stp (G : Nat → Nat) : Option (Nat × Nat) → Nat → Nat
 | none => G
 | some (A, B) => fun j => if j = A ∨ j = B then min (G A) (G B) else G j
def rnd (E : Nat → Option (Nat × Nat)) (G : Nat → Nat) : Nat → Nat → Nat
 | 0 => G
 | k + 1 => stp (rnd E G k) (E k)
def rnds (E : Nat → Option (Nat × Nat)) (M : Nat) : Nat → Nat → Nat
 | 0 => fun j => j
 | r + 1 => rnd E (rnds E M r) M
def jn (L : Nat → Nat) : Option (Nat × Nat) → Nat → Nat
 | none => L
 | some (A, B) => fun j => if L j = max (L A) (L B) then min (L A) (L B) else L j
def lab (E : Nat → Option (Nat × Nat)) : Nat → Nat → Nat
 | 0 => fun j => j
 | k + 1 => jn (lab E k) (E k)
theorem lab_le (E : Nat → Option (Nat × Nat)) : ∀ k j, lab E k j ≤ j
 | 0, j => Nat.le_refl _
 | k + 1, j => by
  have ih := lab_le E k
  rw [lab]
  cases h : E k with
  | none => exact ih j
  | some p =>
   obtain ⟨A, B⟩ := p
   show (if lab E k j = max (lab E k A) (lab E k B) then min (lab E k A) (lab E k B) else lab E k j) ≤ j
   have := ih j
   split <;> omega
theorem lab_edge (E : Nat → Option (Nat × Nat)) : ∀ k i A B, i < k → E i = some (A, B) → lab E k A = lab E k B
 | 0, i, _, _, h, _ => absurd h (Nat.not_lt_zero _)
 | k + 1, i, A, B, h, e => by
  rw [lab]
  cases hk : E k with
  | none =>
   by_cases hi : i = k
   · subst hi; rw [hk] at e; cases e
   · exact lab_edge E k i A B (by omega) e
  | some p =>
   obtain ⟨C, D⟩ := p
   show (if lab E k A = max (lab E k C) (lab E k D) then min (lab E k C) (lab E k D) else lab E k A) = (if lab E k B = max (lab E k C) (lab E k D) then min (lab E k C) (lab E k D) else lab E k B)
   by_cases hi : i = k
   · subst hi
     rw [hk] at e
     simp only [Option.some.injEq, Prod.mk.injEq] at e
     obtain ⟨rfl, rfl⟩ := e
     split <;> split <;> omega
   · rw [lab_edge E k i A B (by omega) e]
theorem lab_set (E : Nat → Option (Nat × Nat)) (X : Nat → Prop) : ∀ k, (∀ i A B, i < k → E i = some (A, B) → (X A ↔ X B)) → ∀ j, (X (lab E k j) ↔ X j)
 | 0, _, j => Iff.rfl
 | k + 1, hX, j => by
  have ih := lab_set E X k (fun i A B h e => hX i A B (by omega) e)
  rw [lab]
  cases hk : E k with
  | none => exact ih j
  | some p =>
   obtain ⟨A, B⟩ := p
   show X (if lab E k j = max (lab E k A) (lab E k B) then min (lab E k A) (lab E k B) else lab E k j) ↔ X j
   have hAB := hX k A B (Nat.lt_succ_self _) hk
   have h1 := ih A
   have h2 := ih B
   have h3 := ih j
   by_cases e : lab E k j = max (lab E k A) (lab E k B)
   · rw [if_pos e]
     rcases Nat.le_total (lab E k A) (lab E k B) with q | q
     · rw [Nat.min_eq_left q]
       rw [Nat.max_eq_right q] at e
       rw [e] at h3
       exact h1.trans (hAB.trans (h2.symm.trans h3))
     · rw [Nat.min_eq_right q]
       rw [Nat.max_eq_left q] at e
       rw [e] at h3
       exact h2.trans (hAB.symm.trans (h1.symm.trans h3))
   · rw [if_neg e]; exact h3
theorem lab_idem (E : Nat → Option (Nat × Nat)) (k j : Nat) : lab E k (lab E k j) = lab E k j :=
 (lab_set E (fun x => lab E k x = lab E k j) k (fun i A B h e => by rw [lab_edge E k i A B h e]) j).2 rfl
theorem stp_le (G : Nat → Nat) (e : Option (Nat × Nat)) (j : Nat) : stp G e j ≤ G j := by
 cases e with
 | none => exact Nat.le_refl _
 | some p =>
  obtain ⟨A, B⟩ := p
  show (if j = A ∨ j = B then min (G A) (G B) else G j) ≤ G j
  by_cases h : j = A ∨ j = B
  · rw [if_pos h]
    rcases h with rfl | rfl
    · exact Nat.min_le_left _ _
    · exact Nat.min_le_right _ _
  · rw [if_neg h]; exact Nat.le_refl _
theorem rnd_le (E : Nat → Option (Nat × Nat)) (G : Nat → Nat) : ∀ k j, rnd E G k j ≤ G j
 | 0, _ => Nat.le_refl _
 | k + 1, j => Nat.le_trans (stp_le _ _ _) (rnd_le E G k j)
theorem rnd_mono (E : Nat → Option (Nat × Nat)) (G : Nat → Nat) (k : Nat) : ∀ m, k ≤ m → ∀ j, rnd E G m j ≤ rnd E G k j
 | 0, h, j => by obtain rfl : k = 0 := by omega
  exact Nat.le_refl _
 | m + 1, h, j => by
  by_cases e : k = m + 1
  · subst e; exact Nat.le_refl _
  · exact Nat.le_trans (stp_le _ _ _) (rnd_mono E G k m (by omega) j)
def Same (L G : Nat → Nat) : Prop := ∀ j, L (G j) = L j
theorem stp_same {L G : Nat → Nat} {e : Option (Nat × Nat)} (h : Same L G) (he : ∀ A B, e = some (A, B) → L A = L B) : Same L (stp G e) := by
 intro j
 cases e with
 | none => exact h j
 | some p =>
  obtain ⟨A, B⟩ := p
  have q := he A B rfl
  show L (if j = A ∨ j = B then min (G A) (G B) else G j) = L j
  by_cases hj : j = A ∨ j = B
  · rw [if_pos hj]
    have hm : L (min (G A) (G B)) = L A := by
     rcases Nat.le_total (G A) (G B) with z | z
     · rw [Nat.min_eq_left z]; exact h A
     · rw [Nat.min_eq_right z]; exact (h B).trans q.symm
    rw [hm]
    rcases hj with rfl | rfl
    · rfl
    · exact q
  · rw [if_neg hj]; exact h j
theorem rnd_same {E : Nat → Option (Nat × Nat)} {L G : Nat → Nat} {M : Nat} (hE : ∀ i A B, i < M → E i = some (A, B) → L A = L B) (h : Same L G) : ∀ k, k ≤ M → Same L (rnd E G k)
 | 0, _ => h
 | k + 1, hk => stp_same (rnd_same hE h k (by omega)) (fun A B e => hE k A B (by omega) e)
theorem rnds_same {E : Nat → Option (Nat × Nat)} {L : Nat → Nat} {M : Nat} (hE : ∀ i A B, i < M → E i = some (A, B) → L A = L B) : ∀ r, Same L (rnds E M r)
 | 0 => fun _ => rfl
 | r + 1 => rnd_same hE (rnds_same hE r) M (Nat.le_refl _)
theorem rnds_le (E : Nat → Option (Nat × Nat)) (M : Nat) : ∀ r j, rnds E M r j ≤ j
 | 0, _ => Nat.le_refl _
 | r + 1, j => Nat.le_trans (rnd_le E _ M j) (rnds_le E M r j)
def cntp (p : Nat → Bool) : Nat → Nat
 | 0 => 0
 | n + 1 => cntp p n + (if p n = true then 1 else 0)
theorem cntp_le (p : Nat → Bool) : ∀ n, cntp p n ≤ n
 | 0 => Nat.le_refl _
 | n + 1 => by have := cntp_le p n; rw [cntp]; split <;> omega
theorem cntp_mono {p q : Nat → Bool} : ∀ n, (∀ v, v < n → p v = true → q v = true) → cntp p n ≤ cntp q n
 | 0, _ => Nat.le_refl _
 | n + 1, h => by
  have a := cntp_mono (p := p) (q := q) n (fun v hv => h v (by omega))
  have b := h n (by omega)
  rw [cntp, cntp]
  by_cases e : p n = true
  · rw [if_pos e, if_pos (b e)]; omega
  · rw [if_neg e]; omega
theorem cntp_lt {p q : Nat → Bool} {y : Nat} : ∀ n, y < n → (∀ v, v < n → p v = true → q v = true) → p y = false → q y = true → cntp p n < cntp q n
 | 0, h, _, _, _ => absurd h (Nat.not_lt_zero _)
 | n + 1, h, hm, h1, h2 => by
  rw [cntp, cntp]
  by_cases e : y = n
  · subst e
    have a := cntp_mono (p := p) (q := q) y (fun v hv => hm v (by omega))
    rw [if_neg (by rw [h1]; simp), if_pos h2]; omega
  · have a := cntp_lt n (by omega) (fun v hv => hm v (by omega)) h1 h2
    have b := hm n (by omega)
    by_cases z : p n = true
    · rw [if_pos z, if_pos (b z)]; omega
    · rw [if_neg z]; omega
theorem rnds_lab (E : Nat → Option (Nat × Nat)) (M n : Nat) (hE : ∀ i A B, i < M → E i = some (A, B) → A < n ∧ B < n) : ∀ v, v < n → rnds E M n v = lab E M v := by
 have hedge := fun i A B (h : i < M) (e : E i = some (A, B)) => lab_edge E M i A B h e
 have hsame := rnds_same (E := E) (L := lab E M) (M := M) hedge
 have hge : ∀ r j, lab E M j ≤ rnds E M r j := fun r j => by
  have a := lab_le E M (rnds E M r j)
  rw [hsame r j] at a
  exact a
 have key : ∀ r, (∀ v, v < n → rnds E M r v = lab E M v) ∨ r < cntp (fun v => decide (rnds E M r v = lab E M v)) n := by
  intro r
  induction r with
  | zero =>
   by_cases h0 : n = 0
   · left; intro v hv; omega
   · right
     have z : lab E M 0 = 0 := by have := lab_le E M 0; omega
     have := cntp_lt (p := fun _ => false) (q := fun v => decide (rnds E M 0 v = lab E M v)) (y := 0) n (by omega) (fun _ _ h => by cases h) rfl (by show decide (0 = lab E M 0) = true; rw [z]; rfl)
     omega
  | succ r ih =>
   have mono : ∀ v, rnds E M r v = lab E M v → rnds E M (r + 1) v = lab E M v := fun v e => by
    have a := rnd_le E (rnds E M r) M v
    have b := hge (r + 1) v
    have c : rnds E M (r + 1) v = rnd E (rnds E M r) M v := rfl
    omega
   rcases ih with ih | ih
   · left; intro v hv; exact mono v (ih v hv)
   · by_cases all : ∀ v, v < n → rnds E M (r + 1) v = lab E M v
     · left; exact all
     · right
       -- an edge that parts what is there from what is not
       have cross : ∃ y, y < n ∧ rnds E M r y ≠ lab E M y ∧ rnds E M (r + 1) y = lab E M y := by
        refine Classical.byContradiction fun hno => all fun v hv => mono v ?_
        have closed : ∀ i A B, i < M → E i = some (A, B) → (rnds E M r A = lab E M A ↔ rnds E M r B = lab E M B) := by
         intro i A B hi e
         have hb := hE i A B hi e
         have hl := hedge i A B hi e
         have st : rnd E (rnds E M r) (i + 1) A = min (rnd E (rnds E M r) i A) (rnd E (rnds E M r) i B) ∧ rnd E (rnds E M r) (i + 1) B = min (rnd E (rnds E M r) i A) (rnd E (rnds E M r) i B) := by
          constructor
          · show stp _ (E i) A = _; rw [e]; show (if A = A ∨ A = B then _ else _) = _; rw [if_pos (.inl rfl)]
          · show stp _ (E i) B = _; rw [e]; show (if B = A ∨ B = B then _ else _) = _; rw [if_pos (.inr rfl)]
         have mA := rnd_mono E (rnds E M r) (i + 1) M (by omega) A
         have mB := rnd_mono E (rnds E M r) (i + 1) M (by omega) B
         have lA := rnd_le E (rnds E M r) i A
         have lB := rnd_le E (rnds E M r) i B
         have gA := hge (r + 1) A
         have gB := hge (r + 1) B
         have cA : rnds E M (r + 1) A = rnd E (rnds E M r) M A := rfl
         have cB : rnds E M (r + 1) B = rnd E (rnds E M r) M B := rfl
         rw [cA] at gA
         rw [cB] at gB
         have eA := st.1
         have eB := st.2
         constructor
         · intro h
           refine Classical.byContradiction fun hn => hno ⟨B, hb.2, hn, ?_⟩
           rw [cB]
           have := Nat.min_le_left (rnd E (rnds E M r) i A) (rnd E (rnds E M r) i B)
           omega
         · intro h
           refine Classical.byContradiction fun hn => hno ⟨A, hb.1, hn, ?_⟩
           rw [cA]
           have := Nat.min_le_right (rnd E (rnds E M r) i A) (rnd E (rnds E M r) i B)
           omega
        refine (lab_set E (fun x => rnds E M r x = lab E M x) M closed v).1 ?_
        have a := rnds_le E M r (lab E M v)
        have b := hge r (lab E M v)
        rw [lab_idem] at b ⊢
        omega
       obtain ⟨y, hy, h1, h2⟩ := cross
       have := cntp_lt (p := fun v => decide (rnds E M r v = lab E M v)) (q := fun v => decide (rnds E M (r + 1) v = lab E M v)) (y := y) n hy (fun v _ h => decide_eq_true (mono v (of_decide_eq_true h))) (decide_eq_false h1) (decide_eq_true h2)
       omega
 rcases key n with h | h
 · exact h
 · have := cntp_le (fun v => decide (rnds E M n v = lab E M v)) n
   omega
theorem OwnL.setq {w : World} {base t k n g c : Nat} {U : Nat → Int} (h : OwnL w base t k (.slice (Option.some ⟨g, 0, none⟩) n c) n U) (q : Nat) (hq : q < n * k) (x : Int) : OwnL (w.setCell ⟨g, q, none⟩ (.int .i64 x)) base t k (.slice (Option.some ⟨g, 0, none⟩) n c) n (fun r => if r = q then x else U r) := by
 have h1 := (World.ownsRow.stored h q (.int .i64 x)).1
 unfold OwnL
 rw [show numL (n * k) (fun r => if r = q then x else U r) = (numL (n * k) U).set q (.int .i64 x) from ?_]
 · exact h1
 · apply List.ext_getElem?
   intro r
   rw [List.getElem?_set, numL_len]
   by_cases hr : r < n * k
   · rw [numL_get hr]
     by_cases e : q = r
     · subst e; simp; omega
     · rw [if_neg e, numL_get hr]; simp [Ne.symm e]
   · rw [List.getElem?_eq_none (by rw [numL_len]; omega)]
     by_cases e : q = r
     · omega
     · rw [if_neg e, List.getElem?_eq_none (by rw [numL_len]; omega)]
theorem OwnL.loc {w : World} {base t k n c : Nat} {a : Option Addr} {U : Nat → Int} (h : OwnL w base t k (.slice a n c) n U) (h0 : 0 < n) : ∃ g, a = Option.some ⟨g, 0, none⟩ ∧ base ≤ g ∧ g < w.heap.size := by
 rcases h.2 with ⟨hv, hn⟩ | ⟨g, cap, cur, hv, hb, hg, _⟩
 · omega
 · simp only [Value.slice.injEq, true_and] at hv
   exact ⟨g, hv.1, hb, (Array.getElem?_eq_some_iff.1 hg).1⟩
theorem OwnL.cellq {w : World} {base t k n g c : Nat} {U : Nat → Int} (h : OwnL w base t k (.slice (Option.some ⟨g, 0, none⟩) n c) n U) {q : Nat} (hq : q < n * k) : w.cell? ⟨g, q, none⟩ = Option.some (.int .i64 (U q)) := by
 rw [World.ownsRow.cellAt h q hq, numL_get hq]
abbrev mixU (p : Nat) (U : Nat → Int) : Nat → Int := fun q => if q < p then 1 + (q : Int) else U q
structure Lv (w : World) (lo hi t k : Nat) (a : Option Addr) (n c : Nat) (U : Nat → Int) : Prop where
 own : OwnL w lo t k (.slice a n c) n U
 top : ∀ b, (Value.slice a n c).ownBlock = some b → b < hi
 le : hi ≤ w.heap.size
theorem Lv.on {w w' : World} {lo hi t k : Nat} {a : Option Addr} {n c : Nat} {U : Nat → Int} (h : Lv w lo hi t k a n c U) (hb : Below w.heap.size w w') : Lv w' lo hi t k a n c U := ⟨h.own.below hb, h.top, Nat.le_trans h.le hb.size⟩
theorem Lv.flat {w : World} {lo hi t k : Nat} {a : Option Addr} {n c : Nat} {U : Nat → Int} (h : Lv w lo hi t k a n c U) : Flat w a (n * k) U := h.own.flat
theorem Lv.below {w0 w w' : World} {lo hi t k B : Nat} {a : Option Addr} {n c : Nat} {U : Nat → Int} (h : Lv w lo hi t k a n c U) (hB : Below B w0 w) (hBw : B ≤ w.heap.size) (hg : w.grownBy w' (Value.slice a n c).ownBlock) (hl : B ≤ lo) : Below B w0 w' :=
 hB.grown hg hBw (fun b e => by have := (h.own.lt b e).1; omega)
theorem Lv.row {w w' : World} {b n t k : Nat} {U : Nat → Int} (h : Row w' b t (n * k) U) (hb : w.heap.size ≤ b) (hn : n ≤ 1048576) : Lv w' w.heap.size w'.heap.size t k (some ⟨b, 0, none⟩) n n U :=
 ⟨h.own hb (by unfold maxLen; omega), fun x e => by simp [Value.ownBlock] at e; subst e; exact h.lt, Nat.le_refl _⟩
structure OutL (w w' : World) (t k : Nat) (a : Option Addr) (n c : Nat) (R : Nat → Int) : Prop where
 bel : Below w.heap.size w w'
 own : OwnL w' w.heap.size t k (.slice a n c) n R
theorem OutL.lv {w w' : World} {t k : Nat} {a : Option Addr} {n c : Nat} {R : Nat → Int} (h : OutL w w' t k a n c R) : Lv w' w.heap.size w'.heap.size t k a n c R := ⟨h.own, fun b e => (h.own.lt b e).2, Nat.le_refl _⟩
def ofL (l : List Int) : Nat → Int := fun q => l.getD q 0
theorem ofL_app (l x : List Int) (q : Nat) (h : q < l.length) : ofL (l ++ x) q = ofL l q := by
 unfold ofL
 rw [List.getD_eq_getElem?_getD, List.getD_eq_getElem?_getD, List.getElem?_append_left h]
theorem ofL_app' (l x : List Int) (q : Nat) (h : l.length ≤ q) : ofL (l ++ x) q = ofL x (q - l.length) := by
 unfold ofL
 rw [List.getD_eq_getElem?_getD, List.getD_eq_getElem?_getD, List.getElem?_append_right h]
theorem cat_ofL (l x : List Int) : cat l.length (ofL l) (ofL x) = ofL (l ++ x) := by
 funext q
 unfold cat
 by_cases h : q < l.length
 · rw [if_pos h, ofL_app l x q h]
 · rw [if_neg h, ofL_app' l x q (by omega)]
theorem step_appk {P : Program} {w : World} {ops : Array Oper} {o : Oper} {a : Act} {K : Act → World → Prop} {Q : Exit → Act → World → Prop} {E : Prop} (hgd : o.guard = none) (s x : Operand) (t : TypeId)
 (ho : o.op = .call { callee := .builtin .append, args := #[s, x], argTypes := #[t, t] })
 (base e k bytes : Nat) (z : Value) (ht : P.underlying t = some (.slice e)) (hinfo : (P.info? e).map (fun i => (i.zero, i.size, i.bytes)) = some (some z, k, bytes)) (hzs : z.cells.size = k) (hk : 0 < k)
 (v : Value) (n : Nat) (U : Nat → Int) (hs : a.eval s = v) (h : OwnL w base e k v n U) (B c : Nat) (X : Nat → Int) (hx : a.eval x = .slice (some ⟨B, 0, none⟩) 1 c) (hv : ∀ q, q < k → w.cell? ⟨B, q, none⟩ = some (.int .i64 (X q)))
 (h63 : n + 1 ≤ maxLen) (hbytes : (n + 1) * bytes ≤ 140737488355328) (hbase : base ≤ w.heap.size) (H : Nat) (hH : w.heap.size = H)
 (hK : ∀ g cap w', OwnL w' base e k (.slice (some ⟨g, 0, none⟩) (n + 1) cap) (n + 1) (cat (n * k) U X) → w.grownBy w' v.ownBlock → (v.ownBlock = some g ∨ g = H) → g < w'.heap.size → K (a.put o.dst (.slice (some ⟨g, 0, none⟩) (n + 1) cap)) w') :
 if Region.wanted o (yielded ops a.tmps) = true then Oper.wp P o a w K Q else E := by
 obtain ⟨i, hi, hzz⟩ := Option.map_eq_some_iff.1 hinfo
 simp only [Prod.mk.injEq] at hzz
 obtain ⟨hz, hsz, hby⟩ := hzz
 refine step_append_lies w hgd s x t ho base e i z k bytes ht hi hz hsz hby hzs hk v n (numL (n * k) U) hs h ⟨B, 0, none⟩ 1 c (numL (1 * k) X) hx (numL_len _ _) ?_ (fun u hu => by obtain ⟨q, _, rfl⟩ := List.mem_map.1 hu; rfl) (by omega) h63 hbytes hbase H hH ?_
 · intro j u hu
   have hj : j < 1 * k := by have := (List.getElem?_eq_some_iff.1 hu).1; rwa [numL_len] at this
   rw [numL_get hj] at hu
   rw [Addr.add_lit, Nat.zero_add, hv j (by omega)]
   exact hu
 · intro g cap w' h2 h3 h4 h5
   refine hK g cap w' ?_ h3 h4 h5
   unfold OwnL
   rw [Nat.add_mul, ← numL_cat]
   exact h2
theorem length_any (x y : Int) (w : World) (hx : -1000000000 ≤ x ∧ x ≤ 1000000000) (hy : -1000000000 ≤ y ∧ y ≤ 1000000000) :
 Calls Tryz.prog 133 #[vv x y] w fun e w' => e = .returned (.int .i64 (vl x y)) ∧ Below w.heap.size w w' := by
 have hs := sq_bd hx hy
 have hset := cset_map
 go_enter Tryz.func133, Tryz.ntmps133
 go_wp2_with (first
  | (go_at_call 131; refine (products_any _ _ _ _ _ (by omega) (by omega) (by omega) (by omega)).mono ?_; rintro e w2 ⟨rfl, hb2⟩; obtain ⟨hc2, hf2⟩ := bcell hb2; have hz2 := hb2.size; (try simp at hz2); have hq2x0a : w.heap.size < w2.heap.size := (by omega))
  | (go_at_call 139; refine (root_any _ _ (by omega)).mono ?_; rintro e w5 ⟨rfl, hb5⟩; obtain ⟨hc5, hf5⟩ := bcell hb5; have hz5 := hb5.size; (try simp at hz5); have hq5x0a : w.heap.size < w5.heap.size := (by omega))
  | (go_at_call 140; refine (held_any _ _ _ (by omega) (by omega)).mono ?_; rintro e w' ⟨rfl, rfl⟩))
 go_ret
 exact ⟨rfl, bel_a⟩
theorem unit_any (x y : Int) (w : World) (hx : -1000000000 ≤ x ∧ x ≤ 1000000000) (hy : -1000000000 ≤ y ∧ y ≤ 1000000000) :
 Calls Tryz.prog 132 #[vv x y] w fun e w' => e = .returned (vv (ux x y) (uy x y)) ∧ Below w.heap.size w w' := by
 have hl := vl_bd x y
 by_cases h0 : vl x y = 0
 · have e1 : ux x y = 0 := if_pos h0
   have e2 : uy x y = 256 := if_pos h0
   have hset := cset_map
   go_enter Tryz.func132, Tryz.ntmps132
   go_wp2_with (go_at_call 133; refine (length_any _ _ _ (by omega) (by omega)).mono ?_; rintro e w6 ⟨rfl, hb6⟩; obtain ⟨hc6, hf6⟩ := bcell hb6; have hz6 := hb6.size; (try simp at hz6); have hq6x0a : w.heap.size < w6.heap.size := (by omega); have hq6x1a : w.heap.size + 1 < w6.heap.size := (by omega))
   exact bodyPost_ret (v := vv 0 256) (by simp [results, Tryz.results132, go_sem, *]) rfl ⟨by rw [e1, e2], bel_a⟩
 · have e1 : ux x y = (x * 256).tdiv (vl x y) := if_neg h0
   have e2 : uy x y = (y * 256).tdiv (vl x y) := if_neg h0
   have t1 := w64 (n := (x * 256).tdiv (vl x y)) (by have := tdiv_bd (x := x * 256) (B := 256000000000) (vl x y) (by omega); omega)
   have t2 := w64 (n := (y * 256).tdiv (vl x y)) (by have := tdiv_bd (x := y * 256) (B := 256000000000) (vl x y) (by omega); omega)
   have s1 := i64w (n := (x * 256).tdiv (vl x y)) (by have := tdiv_bd (x := x * 256) (B := 256000000000) (vl x y) (by omega); omega)
   have s2 := i64w (n := (y * 256).tdiv (vl x y)) (by have := tdiv_bd (x := y * 256) (B := 256000000000) (vl x y) (by omega); omega)
   have E1 : Hid (ux x y = (x * 256).tdiv (vl x y)) := e1
   have E2 : Hid (uy x y = (y * 256).tdiv (vl x y)) := e2
   clear e1 e2
   have hset := cset_map
   go_enter Tryz.func132, Tryz.ntmps132
   go_wp2_with (go_at_call 133; refine (length_any _ _ _ (by omega) (by omega)).mono ?_; rintro e w6 ⟨rfl, hb6⟩; obtain ⟨hc6, hf6⟩ := bcell hb6; have hz6 := hb6.size; (try simp at hz6); have hq6x0a : w.heap.size < w6.heap.size := (by omega); have hq6x1a : w.heap.size + 1 < w6.heap.size := (by omega))
   go_region
   all_goals
    go_wp2
    exact bodyPost_ret (v := vv ((x * 256).tdiv (vl x y)) ((y * 256).tdiv (vl x y))) (by simp [results, Tryz.results132, go_sem, *]) rfl ⟨by rw [E1.out, E2.out], bel_a⟩
def bb (o : Bool) (x : Int) : Int := if o = true then x else 0
theorem l3Less_any (x y : Int) (w : World) :
 Calls Tryz.prog 35 #[.int .i64 x, .int .i64 y] w fun e w' => e = .returned (.int .i64 (mn x y)) ∧ w' = w := by
 go_enter Tryz.func35, Tryz.ntmps35
 go_wp2
 all_goals
  go_ret
  refine ⟨?_, rfl⟩
  unfold mn
  split <;> first | rfl | (exfalso; omega) | (have hxy : x = y := (by omega); subst hxy; rfl) | (exfalso; simp at *; omega)
theorem l3More_any (x y : Int) (w : World) :
 Calls Tryz.prog 79 #[.int .i64 x, .int .i64 y] w fun e w' => e = .returned (.int .i64 (mx x y)) ∧ w' = w := by
 go_enter Tryz.func79, Tryz.ntmps79
 go_wp2
 all_goals
  go_ret
  refine ⟨?_, rfl⟩
  unfold mx
  split <;> first | rfl | (exfalso; omega) | (have hxy : x = y := (by omega); subst hxy; rfl) | (exfalso; simp at *; omega)
theorem l3Near_any (a b c d x y : Int) (w : World) :
 Calls Tryz.prog 95 #[b4 a b c d, vv x y] w fun e w' => e = .returned (vv (mn (mx x a) c) (mn (mx y b) d)) ∧ Below w.heap.size w w' := by
 have hset := cset_map
 go_enter Tryz.func95, Tryz.ntmps95
 go_wp2
 go_region_held3 (fun w' => w'.cell? ⟨w.heap.size, 0, none⟩ = some (.int .i64 a) ∧ w'.cell? ⟨w.heap.size, 1, none⟩ = some (.int .i64 b) ∧ w'.cell? ⟨w.heap.size, 2, none⟩ = some (.int .i64 c) ∧ w'.cell? ⟨w.heap.size, 3, none⟩ = some (.int .i64 d) ∧ w'.cell? ⟨w.heap.size + 1, 0, none⟩ = some (.int .i64 x) ∧ w'.cell? ⟨w.heap.size + 1, 1, none⟩ = some (.int .i64 y)) (first | (go_simp; done) | (go_keep; done)) (first
  | (go_at_call 35; refine (l3Less_any _ _ _).mono ?_; rintro e w' ⟨rfl, rfl⟩)
  | (go_at_call 79; refine (l3More_any _ _ _).mono ?_; rintro e w' ⟨rfl, rfl⟩))
 all_goals
  go_wp2
  exact bodyPost_ret (v := vv (mn (mx x a) c) (mn (mx y b) d)) (by simp [results, Tryz.results95, go_sem, *]) rfl ⟨rfl, bel_a⟩
def rdT (dx dy g : Int) : (Int × Int × Int) × Bool := if dx * dx + dy * dy ≤ g * g then ((ux dx dy, uy dx dy, g - vl dx dy), true) else ((0, 0, 0), false)
def bsT (s0 s1 s2 s3 : Int) : Int × Int × Int :=
 let m1 : Int × Int × Int := if s1 < s0 then (-256, 0, s1) else (256, 0, s0)
 let m2 : Int × Int × Int := if s2 < m1.2.2 then (0, 256, s2) else m1
 if s3 < m2.2.2 then (0, -256, s3) else m2
def bxT (a b c d r s t u : Int) : (Int × Int × Int) × Bool := if (leB a b t u && leB r s c d) = true then (bsT (c - r) (t - a) (d - s) (u - b), true) else ((0, 0, 0), false)
theorem sunit_q (x y X Y : Int) (w : World) (e1 : ux (fc x) (fc y) = X) (e2 : uy (fc x) (fc y) = Y) :
 Calls Tryz.prog 91 #[vv x y] w fun e w' => e = .returned (vv X Y) ∧ Below w.heap.size w w' := by
 subst e1; subst e2; exact sVecUnit_any x y w
theorem slen_q (x y L : Int) (w : World) (e : vl (fc x) (fc y) = L) :
 Calls Tryz.prog 92 #[vv x y] w fun e w' => e = .returned (.int .i64 L) ∧ Below w.heap.size w w' := by
 subst e; exact sVecLen_any x y w
theorem l5Rounds_q (a b x y g X Y D : Int) (K : Bool) (w : World) (qa : -3000000 ≤ a ∧ a ≤ 3000000) (qb : -3000000 ≤ b ∧ b ≤ 3000000) (qx : -3000000 ≤ x ∧ x ≤ 3000000) (qy : -3000000 ≤ y ∧ y ≤ 3000000) (g0 : 0 ≤ g ∧ g ≤ 100000) (e : rdT (x - a) (y - b) g = ((X, Y, D), K)) :
 Calls Tryz.prog 67 #[vv a b, vv x y, .int .i64 g] w fun e w' => e = .returned (.tuple #[s3 X Y D, .bool K]) ∧ Below w.heap.size w w' := by
 have hset := cset_map
 obtain ⟨dx, ex⟩ : ∃ z, x - a = z := ⟨_, rfl⟩
 obtain ⟨dy, ey⟩ : ∃ z, y - b = z := ⟨_, rfl⟩
 have w1 := i64w (n := x - a) (by omega)
 have w2 := i64w (n := y - b) (by omega)
 rw [ex] at e w1
 rw [ey] at e w2
 have m3 := mul_bd (a := g) (b := g) (A := 100000) (B := 100000) (by omega) (by omega)
 have w3 := i64w (n := g * g) (by omega)
 unfold rdT at e
 cases dd : decide (g * g < dx * dx + dy * dy) with
 | true =>
  have hn := of_decide_eq_true dd
  rw [if_neg (by omega)] at e
  cases e
  clear hn m3
  go_enter Tryz.func67, Tryz.ntmps67
  go_wp2_with (go_at_call 90; refine (l2Square_any _ _ _ (by omega) (by omega)).mono ?_; rintro e w1 ⟨rfl, hb1⟩; obtain ⟨hc1, hf1⟩ := bcell hb1; have hz1 := hb1.size; (try simp only [World.size_drew, World.size_alloc, World.size_setCell] at hc1 hf1 hz1); obtain ⟨hk1x0, hj1x0, hq1x0⟩ := kfa hb1 (w.heap.size); obtain ⟨hk1x1, hj1x1, hq1x1⟩ := kfa hb1 (w.heap.size + 1); obtain ⟨hk1x2, hj1x2, hq1x2⟩ := kfa hb1 (w.heap.size + 1 + 1); obtain ⟨hk1x3, hj1x3, hq1x3⟩ := kfa hb1 (w.heap.size + 1 + 1 + 1); clear hc1 hf1)
  exact bodyPost_ret (v := .tuple #[s3 0 0 0, .bool false]) (by simp [results, Tryz.results67, go_sem, *]) rfl ⟨rfl, bel_a⟩
 | false =>
  have hn := of_decide_eq_false dd
  rw [if_pos (by omega)] at e
  obtain ⟨L, eL⟩ : ∃ z, vl dx dy = z := ⟨_, rfl⟩
  have lb := vl_bd dx dy
  rw [eL] at lb
  rw [eL] at e
  simp only [Prod.mk.injEq] at e
  obtain ⟨⟨eX, eY, eD⟩, eK⟩ := e
  subst eD
  subst eK
  have f1 := fc_id (n := dx) (by omega) (by omega)
  have f2 := fc_id (n := dy) (by omega) (by omega)
  have eX : ux (fc dx) (fc dy) = X := by rw [f1, f2]; exact eX
  have eY : uy (fc dx) (fc dy) = Y := by rw [f1, f2]; exact eY
  have eL : vl (fc dx) (fc dy) = L := by rw [f1, f2]; exact eL
  have w4 := i64w (n := g - L) (by omega)
  clear hn m3 f1 f2
  go_enter Tryz.func67, Tryz.ntmps67
  go_upto_region 4 with (go_at_call 90; refine (l2Square_any _ _ _ (by omega) (by omega)).mono ?_; rintro e w1 ⟨rfl, hb1⟩; obtain ⟨hc1, hf1⟩ := bcell hb1; have hz1 := hb1.size; (try simp only [World.size_drew, World.size_alloc, World.size_setCell] at hc1 hf1 hz1); obtain ⟨hk1x0, hj1x0, hq1x0⟩ := kfa hb1 (w.heap.size); obtain ⟨hk1x1, hj1x1, hq1x1⟩ := kfa hb1 (w.heap.size + 1); obtain ⟨hk1x2, hj1x2, hq1x2⟩ := kfa hb1 (w.heap.size + 1 + 1); obtain ⟨hk1x3, hj1x3, hq1x3⟩ := kfa hb1 (w.heap.size + 1 + 1 + 1); clear hc1 hf1)
  refine wp_region_held_drew (S := fun w' => w'.cell? ⟨w.heap.size + 1 + 1 + 1, 0, none⟩ = some (.int .i64 dx) ∧ w'.cell? ⟨w.heap.size + 1 + 1 + 1, 1, none⟩ = some (.int .i64 dy)) (by kernel_rfl) ?_ (fun hHeld => ?_)
  · (try dsimp only)
    (first | (go_simp; done) | (go_keep; done))
  refine tq 0 hHeld ?_
  refine tq 2 hHeld ?_
  refine tq 3 hHeld ?_
  (refine tc 1 fun K hK => ?_; go_simp; (go_at_call 91; refine (sunit_q _ _ _ _ _ eX eY).mono ?_; rintro e w2 ⟨rfl, hb2⟩; obtain ⟨hc2, hf2⟩ := bcell hb2; have hz2 := hb2.size; (try simp only [World.size_drew, World.size_alloc, World.size_setCell] at hc2 hf2 hz2); obtain ⟨hk2x0, hj2x0, hq2x0⟩ := kfa hb2 (w.heap.size); obtain ⟨hk2x1, hj2x1, hq2x1⟩ := kfa hb2 (w.heap.size + 1); obtain ⟨hk2x2, hj2x2, hq2x2⟩ := kfa hb2 (w.heap.size + 1 + 1); obtain ⟨hk2x3, hj2x3, hq2x3⟩ := kfa hb2 (w.heap.size + 1 + 1 + 1); clear hc2 hf2); (try go_wp2_with fail); refine tr hK (fun hHeld => ?_); clear hK K)
  (refine tc 4 fun K hK => ?_; go_simp; (go_at_call 92; refine (slen_q _ _ _ _ eL).mono ?_; rintro e w3 ⟨rfl, hb3⟩; obtain ⟨hc3, hf3⟩ := bcell hb3; have hz3 := hb3.size; (try simp only [World.size_drew, World.size_alloc, World.size_setCell] at hc3 hf3 hz3); obtain ⟨hk3x0, hj3x0, hq3x0⟩ := kfa hb3 (w.heap.size); obtain ⟨hk3x1, hj3x1, hq3x1⟩ := kfa hb3 (w.heap.size + 1); obtain ⟨hk3x2, hj3x2, hq3x2⟩ := kfa hb3 (w.heap.size + 1 + 1); obtain ⟨hk3x3, hj3x3, hq3x3⟩ := kfa hb3 (w.heap.size + 1 + 1 + 1); clear hc3 hf3); (try go_wp2_with fail); refine tr hK (fun hHeld => ?_); clear hK K)
  refine tq 5 hHeld ?_
  refine tq 6 hHeld ?_
  (refine tc 7 fun K hK => ?_; go_simp; refine tr hK (fun hHeld => ?_); clear hK K)
  refine tq 8 hHeld ?_
  refine wpAnyH_done (by kernel_rfl) ?_ _
  go_wp2_with fail
  exact bodyPost_ret (v := .tuple #[s3 X Y (g - L), .bool true]) (by simp [results, Tryz.results67, go_sem, *]) rfl ⟨rfl, bel_a⟩
theorem smeets_q (a b c d r s t u : Int) (z : Bool) (w : World) (e : (leB a b t u && leB r s c d) = z) :
 Calls Tryz.prog 93 #[b4 a b c d, b4 r s t u] w fun e w' => e = .returned (.bool z) ∧ Below w.heap.size w w' := by
 subst e; exact l3Meets_any a b c d r s t u w
theorem l5Boxes_q (a b c d r s t u X Y D : Int) (K : Bool) (w : World) (qa : -3000000 ≤ a ∧ a ≤ 3000000) (qb : -3000000 ≤ b ∧ b ≤ 3000000) (qc : -3000000 ≤ c ∧ c ≤ 3000000) (qd : -3000000 ≤ d ∧ d ≤ 3000000) (qr : -3000000 ≤ r ∧ r ≤ 3000000) (qs : -3000000 ≤ s ∧ s ≤ 3000000) (qt : -3000000 ≤ t ∧ t ≤ 3000000) (qu : -3000000 ≤ u ∧ u ≤ 3000000) (e : bxT a b c d r s t u = ((X, Y, D), K)) :
 Calls Tryz.prog 68 #[b4 a b c d, b4 r s t u] w fun e w' => e = .returned (.tuple #[s3 X Y D, .bool K]) ∧ Below w.heap.size w w' := by
 have hset := cset_map
 unfold bxT at e
 cases eM : (leB a b t u && leB r s c d) with
 | false =>
  rw [if_neg (by simp [eM])] at e
  cases e
  go_enter Tryz.func68, Tryz.ntmps68
  go_wp2_with (go_at_call 93; refine (smeets_q _ _ _ _ _ _ _ _ _ _ eM).mono ?_; rintro e w1 ⟨rfl, hb1⟩; obtain ⟨hc1, hf1⟩ := bcell hb1; have hz1 := hb1.size; (try simp only [World.size_drew, World.size_alloc, World.size_setCell] at hc1 hf1 hz1); obtain ⟨hk1x0, hj1x0, hq1x0⟩ := kfa hb1 (w.heap.size); obtain ⟨hk1x1, hj1x1, hq1x1⟩ := kfa hb1 (w.heap.size + 1); obtain ⟨hk1x2, hj1x2, hq1x2⟩ := kfa hb1 (w.heap.size + 1 + 1); clear hc1 hf1)
  exact bodyPost_ret (v := .tuple #[s3 0 0 0, .bool false]) (by simp [results, Tryz.results68, go_sem, *]) rfl ⟨rfl, bel_a⟩
 | true =>
  rw [if_pos eM] at e
  obtain ⟨s0, es0⟩ : ∃ z, c - r = z := ⟨_, rfl⟩
  have ws0 := i64w (n := c - r) (by omega)
  rw [es0] at e ws0
  obtain ⟨s1, es1⟩ : ∃ z, t - a = z := ⟨_, rfl⟩
  have ws1 := i64w (n := t - a) (by omega)
  rw [es1] at e ws1
  obtain ⟨s2, es2⟩ : ∃ z, d - s = z := ⟨_, rfl⟩
  have ws2 := i64w (n := d - s) (by omega)
  rw [es2] at e ws2
  obtain ⟨s3', es3'⟩ : ∃ z, u - b = z := ⟨_, rfl⟩
  have ws3' := i64w (n := u - b) (by omega)
  rw [es3'] at e ws3'
  unfold bsT at e
  cases d1 : decide (s1 < s0) with
  | true =>
   simp only [if_pos (of_decide_eq_true d1)] at e
   cases d2 : decide (s2 < s1) with
   | true =>
    simp only [if_pos (of_decide_eq_true d2)] at e
    cases d3 : decide (s3' < s2) with
    | true =>
     simp only [if_pos (of_decide_eq_true d3)] at e
     simp only [Prod.mk.injEq] at e
     obtain ⟨⟨eX, eY, eD⟩, eK⟩ := e
     subst eX
     subst eY
     subst eD
     subst eK
     go_enter Tryz.func68, Tryz.ntmps68
     go_wp2_with (go_at_call 93; refine (smeets_q _ _ _ _ _ _ _ _ _ _ eM).mono ?_; rintro e w1 ⟨rfl, hb1⟩; obtain ⟨hc1, hf1⟩ := bcell hb1; have hz1 := hb1.size; (try simp only [World.size_drew, World.size_alloc, World.size_setCell] at hc1 hf1 hz1); obtain ⟨hk1x0, hj1x0, hq1x0⟩ := kfa hb1 (w.heap.size); obtain ⟨hk1x1, hj1x1, hq1x1⟩ := kfa hb1 (w.heap.size + 1); obtain ⟨hk1x2, hj1x2, hq1x2⟩ := kfa hb1 (w.heap.size + 1 + 1); clear hc1 hf1)
     exact bodyPost_ret (v := .tuple #[s3 0 (-256) s3', .bool true]) (by simp [results, Tryz.results68, go_sem, *]) rfl ⟨rfl, bel_a⟩
    | false =>
     simp only [if_neg (of_decide_eq_false d3)] at e
     simp only [Prod.mk.injEq] at e
     obtain ⟨⟨eX, eY, eD⟩, eK⟩ := e
     subst eX
     subst eY
     subst eD
     subst eK
     go_enter Tryz.func68, Tryz.ntmps68
     go_wp2_with (go_at_call 93; refine (smeets_q _ _ _ _ _ _ _ _ _ _ eM).mono ?_; rintro e w1 ⟨rfl, hb1⟩; obtain ⟨hc1, hf1⟩ := bcell hb1; have hz1 := hb1.size; (try simp only [World.size_drew, World.size_alloc, World.size_setCell] at hc1 hf1 hz1); obtain ⟨hk1x0, hj1x0, hq1x0⟩ := kfa hb1 (w.heap.size); obtain ⟨hk1x1, hj1x1, hq1x1⟩ := kfa hb1 (w.heap.size + 1); obtain ⟨hk1x2, hj1x2, hq1x2⟩ := kfa hb1 (w.heap.size + 1 + 1); clear hc1 hf1)
     exact bodyPost_ret (v := .tuple #[s3 0 256 s2, .bool true]) (by simp [results, Tryz.results68, go_sem, *]) rfl ⟨rfl, bel_a⟩
   | false =>
    simp only [if_neg (of_decide_eq_false d2)] at e
    cases d3 : decide (s3' < s1) with
    | true =>
     simp only [if_pos (of_decide_eq_true d3)] at e
     simp only [Prod.mk.injEq] at e
     obtain ⟨⟨eX, eY, eD⟩, eK⟩ := e
     subst eX
     subst eY
     subst eD
     subst eK
     go_enter Tryz.func68, Tryz.ntmps68
     go_wp2_with (go_at_call 93; refine (smeets_q _ _ _ _ _ _ _ _ _ _ eM).mono ?_; rintro e w1 ⟨rfl, hb1⟩; obtain ⟨hc1, hf1⟩ := bcell hb1; have hz1 := hb1.size; (try simp only [World.size_drew, World.size_alloc, World.size_setCell] at hc1 hf1 hz1); obtain ⟨hk1x0, hj1x0, hq1x0⟩ := kfa hb1 (w.heap.size); obtain ⟨hk1x1, hj1x1, hq1x1⟩ := kfa hb1 (w.heap.size + 1); obtain ⟨hk1x2, hj1x2, hq1x2⟩ := kfa hb1 (w.heap.size + 1 + 1); clear hc1 hf1)
     exact bodyPost_ret (v := .tuple #[s3 0 (-256) s3', .bool true]) (by simp [results, Tryz.results68, go_sem, *]) rfl ⟨rfl, bel_a⟩
    | false =>
     simp only [if_neg (of_decide_eq_false d3)] at e
     simp only [Prod.mk.injEq] at e
     obtain ⟨⟨eX, eY, eD⟩, eK⟩ := e
     subst eX
     subst eY
     subst eD
     subst eK
     go_enter Tryz.func68, Tryz.ntmps68
     go_wp2_with (go_at_call 93; refine (smeets_q _ _ _ _ _ _ _ _ _ _ eM).mono ?_; rintro e w1 ⟨rfl, hb1⟩; obtain ⟨hc1, hf1⟩ := bcell hb1; have hz1 := hb1.size; (try simp only [World.size_drew, World.size_alloc, World.size_setCell] at hc1 hf1 hz1); obtain ⟨hk1x0, hj1x0, hq1x0⟩ := kfa hb1 (w.heap.size); obtain ⟨hk1x1, hj1x1, hq1x1⟩ := kfa hb1 (w.heap.size + 1); obtain ⟨hk1x2, hj1x2, hq1x2⟩ := kfa hb1 (w.heap.size + 1 + 1); clear hc1 hf1)
     exact bodyPost_ret (v := .tuple #[s3 (-256) 0 s1, .bool true]) (by simp [results, Tryz.results68, go_sem, *]) rfl ⟨rfl, bel_a⟩
  | false =>
   simp only [if_neg (of_decide_eq_false d1)] at e
   cases d2 : decide (s2 < s0) with
   | true =>
    simp only [if_pos (of_decide_eq_true d2)] at e
    cases d3 : decide (s3' < s2) with
    | true =>
     simp only [if_pos (of_decide_eq_true d3)] at e
     simp only [Prod.mk.injEq] at e
     obtain ⟨⟨eX, eY, eD⟩, eK⟩ := e
     subst eX
     subst eY
     subst eD
     subst eK
     go_enter Tryz.func68, Tryz.ntmps68
     go_wp2_with (go_at_call 93; refine (smeets_q _ _ _ _ _ _ _ _ _ _ eM).mono ?_; rintro e w1 ⟨rfl, hb1⟩; obtain ⟨hc1, hf1⟩ := bcell hb1; have hz1 := hb1.size; (try simp only [World.size_drew, World.size_alloc, World.size_setCell] at hc1 hf1 hz1); obtain ⟨hk1x0, hj1x0, hq1x0⟩ := kfa hb1 (w.heap.size); obtain ⟨hk1x1, hj1x1, hq1x1⟩ := kfa hb1 (w.heap.size + 1); obtain ⟨hk1x2, hj1x2, hq1x2⟩ := kfa hb1 (w.heap.size + 1 + 1); clear hc1 hf1)
     exact bodyPost_ret (v := .tuple #[s3 0 (-256) s3', .bool true]) (by simp [results, Tryz.results68, go_sem, *]) rfl ⟨rfl, bel_a⟩
    | false =>
     simp only [if_neg (of_decide_eq_false d3)] at e
     simp only [Prod.mk.injEq] at e
     obtain ⟨⟨eX, eY, eD⟩, eK⟩ := e
     subst eX
     subst eY
     subst eD
     subst eK
     go_enter Tryz.func68, Tryz.ntmps68
     go_wp2_with (go_at_call 93; refine (smeets_q _ _ _ _ _ _ _ _ _ _ eM).mono ?_; rintro e w1 ⟨rfl, hb1⟩; obtain ⟨hc1, hf1⟩ := bcell hb1; have hz1 := hb1.size; (try simp only [World.size_drew, World.size_alloc, World.size_setCell] at hc1 hf1 hz1); obtain ⟨hk1x0, hj1x0, hq1x0⟩ := kfa hb1 (w.heap.size); obtain ⟨hk1x1, hj1x1, hq1x1⟩ := kfa hb1 (w.heap.size + 1); obtain ⟨hk1x2, hj1x2, hq1x2⟩ := kfa hb1 (w.heap.size + 1 + 1); clear hc1 hf1)
     exact bodyPost_ret (v := .tuple #[s3 0 256 s2, .bool true]) (by simp [results, Tryz.results68, go_sem, *]) rfl ⟨rfl, bel_a⟩
   | false =>
    simp only [if_neg (of_decide_eq_false d2)] at e
    cases d3 : decide (s3' < s0) with
    | true =>
     simp only [if_pos (of_decide_eq_true d3)] at e
     simp only [Prod.mk.injEq] at e
     obtain ⟨⟨eX, eY, eD⟩, eK⟩ := e
     subst eX
     subst eY
     subst eD
     subst eK
     go_enter Tryz.func68, Tryz.ntmps68
     go_wp2_with (go_at_call 93; refine (smeets_q _ _ _ _ _ _ _ _ _ _ eM).mono ?_; rintro e w1 ⟨rfl, hb1⟩; obtain ⟨hc1, hf1⟩ := bcell hb1; have hz1 := hb1.size; (try simp only [World.size_drew, World.size_alloc, World.size_setCell] at hc1 hf1 hz1); obtain ⟨hk1x0, hj1x0, hq1x0⟩ := kfa hb1 (w.heap.size); obtain ⟨hk1x1, hj1x1, hq1x1⟩ := kfa hb1 (w.heap.size + 1); obtain ⟨hk1x2, hj1x2, hq1x2⟩ := kfa hb1 (w.heap.size + 1 + 1); clear hc1 hf1)
     exact bodyPost_ret (v := .tuple #[s3 0 (-256) s3', .bool true]) (by simp [results, Tryz.results68, go_sem, *]) rfl ⟨rfl, bel_a⟩
    | false =>
     simp only [if_neg (of_decide_eq_false d3)] at e
     simp only [Prod.mk.injEq] at e
     obtain ⟨⟨eX, eY, eD⟩, eK⟩ := e
     subst eX
     subst eY
     subst eD
     subst eK
     go_enter Tryz.func68, Tryz.ntmps68
     go_wp2_with (go_at_call 93; refine (smeets_q _ _ _ _ _ _ _ _ _ _ eM).mono ?_; rintro e w1 ⟨rfl, hb1⟩; obtain ⟨hc1, hf1⟩ := bcell hb1; have hz1 := hb1.size; (try simp only [World.size_drew, World.size_alloc, World.size_setCell] at hc1 hf1 hz1); obtain ⟨hk1x0, hj1x0, hq1x0⟩ := kfa hb1 (w.heap.size); obtain ⟨hk1x1, hj1x1, hq1x1⟩ := kfa hb1 (w.heap.size + 1); obtain ⟨hk1x2, hj1x2, hq1x2⟩ := kfa hb1 (w.heap.size + 1 + 1); clear hc1 hf1)
     exact bodyPost_ret (v := .tuple #[s3 256 0 s0, .bool true]) (by simp [results, Tryz.results68, go_sem, *]) rfl ⟨rfl, bel_a⟩
def mxT (a b c d x y g : Int) : (Int × Int × Int) × Bool := if ptB a b c d x y = true then (((bsT (c - x) (x - a) (d - y) (y - b)).1, (bsT (c - x) (x - a) (d - y) (y - b)).2.1, (bsT (c - x) (x - a) (d - y) (y - b)).2.2 + g), true) else rdT (x - mn (mx x a) c) (y - mn (mx y b) d) g
theorem bsT_bd {s0 s1 s2 s3 B : Int} (h0 : -B ≤ s0 ∧ s0 ≤ B) (h1 : -B ≤ s1 ∧ s1 ≤ B) (h2 : -B ≤ s2 ∧ s2 ≤ B) (h3 : -B ≤ s3 ∧ s3 ≤ B) : -B ≤ (bsT s0 s1 s2 s3).2.2 ∧ (bsT s0 s1 s2 s3).2.2 ≤ B ∧ (-256 ≤ (bsT s0 s1 s2 s3).1 ∧ (bsT s0 s1 s2 s3).1 ≤ 256) ∧ (-256 ≤ (bsT s0 s1 s2 s3).2.1 ∧ (bsT s0 s1 s2 s3).2.1 ≤ 256) := by
 unfold bsT
 by_cases a : s1 < s0
 · simp only [if_pos a]
   by_cases b : s2 < s1
   · simp only [if_pos b]
     by_cases c : s3 < s2
     · simp only [if_pos c]; omega
     · simp only [if_neg c]; omega
   · simp only [if_neg b]
     by_cases c : s3 < s1
     · simp only [if_pos c]; omega
     · simp only [if_neg c]; omega
 · simp only [if_neg a]
   by_cases b : s2 < s0
   · simp only [if_pos b]
     by_cases c : s3 < s2
     · simp only [if_pos c]; omega
     · simp only [if_neg c]; omega
   · simp only [if_neg b]
     by_cases c : s3 < s0
     · simp only [if_pos c]; omega
     · simp only [if_neg c]; omega
theorem near_in {a c x B : Int} (ha : -B ≤ a ∧ a ≤ B) (hc : -B ≤ c ∧ c ≤ B) (hx : -B ≤ x ∧ x ≤ B) : -B ≤ mn (mx x a) c ∧ mn (mx x a) c ≤ B := by
 unfold mn mx; repeat' split <;> omega
theorem spoint_q (a b c d x y : Int) (z : Bool) (w : World) (e : ptB a b c d x y = z) :
 Calls Tryz.prog 94 #[b4 a b c d, vv x y] w fun e w' => e = .returned (.bool z) ∧ Below w.heap.size w w' := by
 subst e; exact l3Point_any a b c d x y w
theorem snear_q (a b c d x y X Y : Int) (w : World) (e1 : mn (mx x a) c = X) (e2 : mn (mx y b) d = Y) :
 Calls Tryz.prog 95 #[b4 a b c d, vv x y] w fun e w' => e = .returned (vv X Y) ∧ Below w.heap.size w w' := by
 subst e1; subst e2; exact l3Near_any a b c d x y w
theorem l5Mixed_q (a b c d x y g X Y D : Int) (K : Bool) (w : World) (qa : -3000000 ≤ a ∧ a ≤ 3000000) (qb : -3000000 ≤ b ∧ b ≤ 3000000) (qc : -3000000 ≤ c ∧ c ≤ 3000000) (qd : -3000000 ≤ d ∧ d ≤ 3000000) (qx : -3000000 ≤ x ∧ x ≤ 3000000) (qy : -3000000 ≤ y ∧ y ≤ 3000000) (g0 : 0 ≤ g ∧ g ≤ 100000) (e : mxT a b c d x y g = ((X, Y, D), K)) :
 Calls Tryz.prog 70 #[b4 a b c d, vv x y, .int .i64 g] w fun e w' => e = .returned (.tuple #[s3 X Y D, .bool K]) ∧ Below w.heap.size w w' := by
 have hset := cset_map
 unfold mxT at e
 cases eP : ptB a b c d x y with
 | true =>
  rw [if_pos eP] at e
  have hb := bsT_bd (s0 := c - x) (s1 := x - a) (s2 := d - y) (s3 := y - b) (B := 6000000) (by omega) (by omega) (by omega) (by omega)
  obtain ⟨⟨P, Q, E⟩, eQ⟩ : ∃ z, bsT (c - x) (x - a) (d - y) (y - b) = z := ⟨_, rfl⟩
  rw [eQ] at e hb
  dsimp only at hb
  simp only [Prod.mk.injEq] at e
  obtain ⟨⟨eX, eY, eD⟩, eK⟩ := e
  subst eX
  subst eY
  subst eD
  subst eK
  have eB : bxT a b c d x y x y = ((P, Q, E), true) := by
   have hm : (leB a b x y && leB x y c d) = true := by
    unfold ptB at eP; have := of_decide_eq_true eP; unfold leB; simp only [Bool.and_eq_true, decide_eq_true_eq]; omega
   unfold bxT; rw [if_pos hm, eQ]
  have w1 := i64w (n := E + g) (by have := hb.1; have := hb.2.1; omega)
  clear hb eQ
  go_enter Tryz.func70, Tryz.ntmps70
  go_wp2_with (first
  | (go_at_call 94; refine (spoint_q _ _ _ _ _ _ _ _ eP).mono ?_; rintro e w1 ⟨rfl, hb1⟩; obtain ⟨hc1, hf1⟩ := bcell hb1; have hz1 := hb1.size; (try simp only [World.size_drew, World.size_alloc, World.size_setCell] at hc1 hf1 hz1); obtain ⟨hk1x0, hj1x0, hq1x0⟩ := kfa hb1 (w.heap.size); obtain ⟨hk1x1, hj1x1, hq1x1⟩ := kfa hb1 (w.heap.size + 1); obtain ⟨hk1x2, hj1x2, hq1x2⟩ := kfa hb1 (w.heap.size + 1 + 1); clear hc1 hf1)
  | (go_at_call 68; refine (l5Boxes_q _ _ _ _ _ _ _ _ P Q E true _ (by omega) (by omega) (by omega) (by omega) (by omega) (by omega) (by omega) (by omega) eB).mono ?_; rintro e w2 ⟨rfl, hb2⟩; obtain ⟨hc2, hf2⟩ := bcell hb2; have hz2 := hb2.size; (try simp only [World.size_drew, World.size_alloc, World.size_setCell] at hc2 hf2 hz2); obtain ⟨hk2x0, hj2x0, hq2x0⟩ := kfa hb2 (w.heap.size); obtain ⟨hk2x1, hj2x1, hq2x1⟩ := kfa hb2 (w.heap.size + 1); obtain ⟨hk2x2, hj2x2, hq2x2⟩ := kfa hb2 (w.heap.size + 1 + 1); clear hc2 hf2))
  exact bodyPost_ret (v := .tuple #[s3 P Q (E + g), .bool true]) (by simp [results, Tryz.results70, go_sem, *]) rfl ⟨rfl, bel_a⟩
 | false =>
  rw [if_neg (by simp [eP])] at e
  have n1 := near_in (a := a) (c := c) (x := x) (B := 3000000) (by omega) (by omega) (by omega)
  have n2 := near_in (a := b) (c := d) (x := y) (B := 3000000) (by omega) (by omega) (by omega)
  obtain ⟨nx, eN1⟩ : ∃ z, mn (mx x a) c = z := ⟨_, rfl⟩
  obtain ⟨ny, eN2⟩ : ∃ z, mn (mx y b) d = z := ⟨_, rfl⟩
  rw [eN1] at e n1
  rw [eN2] at e n2
  go_enter Tryz.func70, Tryz.ntmps70
  go_upto_region 5 with (go_at_call 94; refine (spoint_q _ _ _ _ _ _ _ _ eP).mono ?_; rintro e w1 ⟨rfl, hb1⟩; obtain ⟨hc1, hf1⟩ := bcell hb1; have hz1 := hb1.size; (try simp only [World.size_drew, World.size_alloc, World.size_setCell] at hc1 hf1 hz1); obtain ⟨hk1x0, hj1x0, hq1x0⟩ := kfa hb1 (w.heap.size); obtain ⟨hk1x1, hj1x1, hq1x1⟩ := kfa hb1 (w.heap.size + 1); obtain ⟨hk1x2, hj1x2, hq1x2⟩ := kfa hb1 (w.heap.size + 1 + 1); clear hc1 hf1)
  refine wp_region_held_drew (S := fun w' => w'.cell? ⟨w.heap.size, 0, none⟩ = some (.int .i64 a) ∧ w'.cell? ⟨w.heap.size, 1, none⟩ = some (.int .i64 b) ∧ w'.cell? ⟨w.heap.size, 2, none⟩ = some (.int .i64 c) ∧ w'.cell? ⟨w.heap.size, 3, none⟩ = some (.int .i64 d) ∧ w'.cell? ⟨w.heap.size + 1, 0, none⟩ = some (.int .i64 x) ∧ w'.cell? ⟨w.heap.size + 1, 1, none⟩ = some (.int .i64 y)) (by kernel_rfl) ?_ (fun hHeld => ?_)
  · (try dsimp only)
    (first | (go_simp; done) | (go_keep; done))
  refine tq 0 hHeld ?_
  refine tq 1 hHeld ?_
  refine tq 3 hHeld ?_
  refine tq 4 hHeld ?_
  (refine tc 2 fun K hK => ?_; go_simp; (go_at_call 95; refine (snear_q _ _ _ _ _ _ _ _ _ eN1 eN2).mono ?_; rintro e w3 ⟨rfl, hb3⟩; obtain ⟨hc3, hf3⟩ := bcell hb3; have hz3 := hb3.size; (try simp only [World.size_drew, World.size_alloc, World.size_setCell] at hc3 hf3 hz3); obtain ⟨hk3x0, hj3x0, hq3x0⟩ := kfa hb3 (w.heap.size); obtain ⟨hk3x1, hj3x1, hq3x1⟩ := kfa hb3 (w.heap.size + 1); obtain ⟨hk3x2, hj3x2, hq3x2⟩ := kfa hb3 (w.heap.size + 1 + 1); clear hc3 hf3); (try go_wp2_with fail); refine tr hK (fun hHeld => ?_); clear hK K)
  (refine tc 5 fun K hK => ?_; go_simp; (go_at_call 67; refine (l5Rounds_q nx ny x y g X Y D _ _ (by omega) (by omega) (by omega) (by omega) (by omega) e).mono ?_; rintro e w4 ⟨rfl, hb4⟩; obtain ⟨hc4, hf4⟩ := bcell hb4; have hz4 := hb4.size; (try simp only [World.size_drew, World.size_alloc, World.size_setCell] at hc4 hf4 hz4); obtain ⟨hk4x0, hj4x0, hq4x0⟩ := kfa hb4 (w.heap.size); obtain ⟨hk4x1, hj4x1, hq4x1⟩ := kfa hb4 (w.heap.size + 1); obtain ⟨hk4x2, hj4x2, hq4x2⟩ := kfa hb4 (w.heap.size + 1 + 1); clear hc4 hf4); (try go_wp2_with fail); refine tr hK (fun hHeld => ?_); clear hK K)
  refine tq 6 hHeld ?_
  refine tq 7 hHeld ?_
  (refine tc 8 fun K hK => ?_; go_simp; refine tr hK (fun hHeld => ?_); clear hK K)
  refine tq 9 hHeld ?_
  refine wpAnyH_done (by kernel_rfl) ?_ _
  go_wp2_with fail
  exact bodyPost_ret (v := .tuple #[s3 X Y D, .bool K]) (by simp [results, Tryz.results70, go_sem, *]) rfl ⟨rfl, bel_a⟩
theorem l5Turn_q (x y k : Int) (w : World) (hx : -2000000000 ≤ x ∧ x ≤ 2000000000) (hy : -2000000000 ≤ y ∧ y ≤ 2000000000) :
 Calls Tryz.prog 71 #[s3 x y k] w fun e w' => e = .returned (s3 (-x) (-y) k) ∧ Below w.heap.size w w' := by
 have hset := cset_map
 have w1 := i64w (n := -x) (by omega)
 have w2 := i64w (n := -y) (by omega)
 go_enter Tryz.func71, Tryz.ntmps71
 go_wp2_with fail
 exact bodyPost_ret (v := s3 (-x) (-y) k) (by simp [results, Tryz.results71, go_sem, *]) rfl ⟨rfl, bel_a⟩
end Go.Proofs.YtalkkjhehndaoaaGreat
