/- Bodies that were given, in columns; whether they are ok. Columns without a row. Worlds, as numbers: where a number stands among ascending ones; pairs in order. Bodies, by the specification. The contracts of VecMul, VecDot and VecLen. The contract of VecUnit. The contract of VecAdd. The contract of VecSub. The walks of the exact laws of chapter 2. A body that came in, turned into the program's own. Lists of bodies: turned into the program's own, held against each other, how great. Lists in memory of their own, beside others; marks. Worlds: the law's own functions on pairs and worlds. Whether bodies are ok: both sides. BodiesOk, by the program. -/
import Derived.Test.YtpajkdlgkchhkaaGreatDoorB2
import Derived.Test.YtpajkdlgkchhkaaGreatDoorB3
import Derived.LoopNIn
import Derived.LoopIn
import Derived.OwnWalkIn
import Derived.Deep.RegionHeld3
import Derived.Deep.DeepCutAuto
import Derived.Test.YtpajkdlgkchhkaaGreatDoorB1
import Derived.Deep.QuietTactic
import Derived.BigQuiet
import Derived.Deep.RegionWith
namespace Go.Proofs.YtpajkdlgkchhkaaGreatDoor
open Go.RowKit
set_option linter.unusedVariables false
set_option linter.unusedSimpArgs false

/-- the body of place k is ok, and behind the one ahead of it -/
def stepBB (U : Nat → Int) (k : Nat) : Bool := bodyB (fun j => U (k * 12 + j)) && (decide (k = 0) || decide (U ((k - 1) * 12) < U (k * 12)))
def allBB (U : Nat → Int) : Nat → Bool
  | 0 => true
  | k + 1 => allBB U k && stepBB U k
theorem allBB_no {U : Nat → Int} {k : Nat} (h : stepBB U k = false) : ∀ n, k < n → allBB U n = false
  | 0, l => absurd l (Nat.not_lt_zero _)
  | n + 1, l => by
    unfold allBB
    rcases Nat.lt_succ_iff_lt_or_eq.1 l with l | rfl
    · rw [allBB_no h n l]; rfl
    · rw [h, Bool.and_false]
def bodsB (n : Nat) (U : Nat → Int) : Bool := decide (n ≤ 12) && allBB U n
/-- what columnsOf leaves -/
def CsPost (n : Nat) (U : Nat → Int) (w : World) (e : Ending) (w' : World) : Prop :=
  Below w.heap.size w w' ∧ ((bodsB n U = true ∧ ∃ cb S, e = .returned (.tuple #[.pointer (some ⟨cb, 0, none⟩), .bool true]) ∧ w.heap.size ≤ cb ∧ Cs w' cb n (colOf U) S) ∨
    (bodsB n U = false ∧ e = .returned (.tuple #[.pointer none, .bool false])))
set_option maxRecDepth 20000 in
set_option maxHeartbeats 4000000 in
theorem columnsOf_any (a : Option Addr) (n c : Nat) (U : Nat → Int) (w : World) (h : Flat w a (n * 12) U) (hn : n ≤ 1048576) :
    Calls Tryz.prog 38 #[.slice a n c] w (CsPost n U w) := by
  have hset := cset_map
  by_cases h12 : n ≤ 12
  · have h12' : ¬ (12 : Int) < (n : Int) := by omega
    refine calls_of_wp_marks Tryz.func38 rfl ?_
    simp only [Tryz.ntmps38, List.size_toArray, List.length_cons, List.length_nil, Nat.reduceAdd, Nat.reduceSub, Array.replicate_succ, Array.replicate_zero, List.push_toArray, List.append_toArray, List.nil_append, List.cons_append]
    go_wp2_with (go_at_call 14; refine (rowsOf_any a n c U _ (h.below (bel_a)) (by omega)).mono ?_; rintro e w1 ⟨rfl, hb1, S, hC⟩)
    have hz1 := hb1.size
    simp only [World.size_alloc] at hz1
    have hB : Below w.heap.size w (w1.alloc (Obj.cells #[.pointer (some ⟨w.heap.size + 1 + 1, 0, none⟩)] 42)) := ((bel_a : Below w.heap.size w w1)).alloc (by omega) _
    have hw1 : Below w1.heap.size w1 (w1.alloc (Obj.cells #[.pointer (some ⟨w.heap.size + 1 + 1, 0, none⟩)] 42)) := (Below.refl _ _).alloc (Nat.le_refl _) _
    have hC2 := hC.below hw1
    simp only [World.size_alloc] at hC2
    have r2 : (w1.alloc (Obj.cells #[.pointer (some ⟨w.heap.size + 1 + 1, 0, none⟩)] 42)).cell? ⟨w.heap.size, 0, none⟩ = some (.pointer none) := (hw1.cell (p := ⟨w.heap.size, 0, none⟩) (by simp; omega)).trans ((hb1.cell (p := ⟨w.heap.size, 0, none⟩) (by simp; omega)).trans (by go_simp))
    have r3 : (w1.alloc (Obj.cells #[.pointer (some ⟨w.heap.size + 1 + 1, 0, none⟩)] 42)).cell? ⟨w.heap.size + 1, 0, none⟩ = some (.bool false) := (hw1.cell (p := ⟨w.heap.size + 1, 0, none⟩) (by simp; omega)).trans ((hb1.cell (p := ⟨w.heap.size + 1, 0, none⟩) (by simp)).trans (by go_simp))
    have f2 : (w1.alloc (Obj.cells #[.pointer (some ⟨w.heap.size + 1 + 1, 0, none⟩)] 42)).frozen? ⟨w.heap.size, 0, none⟩ = false := (hw1.frozen (p := ⟨w.heap.size, 0, none⟩) (by simp; omega)).trans ((hb1.frozen (p := ⟨w.heap.size, 0, none⟩) (by simp; omega)).trans (by go_simp))
    have f3 : (w1.alloc (Obj.cells #[.pointer (some ⟨w.heap.size + 1 + 1, 0, none⟩)] 42)).frozen? ⟨w.heap.size + 1, 0, none⟩ = false := (hw1.frozen (p := ⟨w.heap.size + 1, 0, none⟩) (by simp; omega)).trans ((hb1.frozen (p := ⟨w.heap.size + 1, 0, none⟩) (by simp)).trans (by go_simp))
    have r4 : (w1.alloc (Obj.cells #[.pointer (some ⟨w.heap.size + 1 + 1, 0, none⟩)] 42)).cell? ⟨w1.heap.size, 0, none⟩ = some (.pointer (some ⟨w.heap.size + 1 + 1, 0, none⟩)) := by go_simp
    have hz2 : w1.heap.size < (w1.alloc (Obj.cells #[.pointer (some ⟨w.heap.size + 1 + 1, 0, none⟩)] 42)).heap.size := by simp
    generalize (w1.alloc (Obj.cells #[.pointer (some ⟨w.heap.size + 1 + 1, 0, none⟩)] 42)) = w2 at hB hC2 r2 r3 f2 f3 r4 hz2 ⊢
    clear hw1 hC hb1
    have hcl := hC2.lt
    have hcb0 : w.heap.size + 1 < w.heap.size + 1 + 1 := by omega
    generalize w.heap.size + 1 + 1 = cb at hC2 r4 hcl hcb0 ⊢
    generalize hbv : w1.heap.size = bv at hz1 hz2 r4 ⊢
    clear hbv
    obtain ⟨ad, cc, hS0⟩ := (hC2.own 0 (by omega)).is
    have hd0 := hC2.hd 0 (by omega)
    rw [hS0] at hd0
    refine wp_range_out (gf := 32) (bound := #[.pointer (some ⟨cb, 0, none⟩)]) rfl each_enters (each_it cb n _ _ w2 hcl hd0 hn) (fun _ => rfl) (fun k W => Below w2.heap.size w2 W ∧ allBB U k = true)
      (fun c W => c = .ret ∧ Below w.heap.size w W ∧ W.cell? ⟨w.heap.size, 0, none⟩ = some (.pointer none) ∧ W.cell? ⟨w.heap.size + 1, 0, none⟩ = some (.bool false) ∧ bodsB n U = false) ?_ ?_ ⟨Below.refl _ _, rfl⟩ ?round ?done ?stop
    · rintro k A B ⟨h1, h2⟩ hs
      exact ⟨h1.trans hs.below, h2⟩
    · rintro c A B ⟨h1, h2, h3, h4, h5⟩ hs
      exact ⟨h1, h2.trans (hs.below.mono hB.size), hs.cell h3, hs.cell h4, h5⟩
    case round =>
      rintro l k W hl ⟨hbW, hall⟩ hk
      simp only [List.zip_toArray, List.zip_cons_cons, List.zip_nil_left, List.foldl_toArray, List.foldl_cons, List.foldl_nil, List.setIfInBounds_toArray, List.set_cons_succ, List.set_cons_zero]
      refine wpIn_region_plain (by rintro ⟨_, _, h⟩; exact h) (by kernel_rfl) ?_
      go_wp2
      refine ⟨(KeepsOthers.alloc _ _).from _, fun W2 hS hr => ?_⟩
      have hbX : Below w2.heap.size w2 (W.alloc (Obj.cells #[.int .i64 (k : Int), .pointer (some ⟨cb, 0, none⟩)] 80)) := hbW.alloc hbW.size _
      have hb2 := hbX.trans hS.below
      have hzW := hbW.size
      have v0 : W2.cell? ⟨W.heap.size, 0, none⟩ = some (.int .i64 (k : Int)) := hS.cell (by go_simp)
      have v1 : W2.cell? ⟨W.heap.size, 1, none⟩ = some (.pointer (some ⟨cb, 0, none⟩)) := hS.cell (by go_simp)
      have r4' : W2.cell? ⟨bv, 0, none⟩ = some (.pointer (some ⟨cb, 0, none⟩)) := (hb2.cell (p := ⟨bv, 0, none⟩) hz2).trans r4
      have hC3 := hC2.below hb2
      have hz3 : W.heap.size < W2.heap.size := by have := hS.size; simp at this; omega
      clear hS hbX hr
      have hh := hC3.hat hk (by omega)
      obtain ⟨g0, c0, e0, hd3, hv3, _, hg3, hcg⟩ := hC3.at (i := 0) (k := k) (by omega) hk
      refine wpIn_block ?_
      refine wpIn_seq_k fun K hK => ?_
      cases hi : bodyB (fun i => colOf U i k) with
      | false =>
        have hno : Shut (stepBB U k = false) := by show stepBB U k = false; rw [stepBB, show (fun j => U (k * 12 + j)) = (fun i => colOf U i k) from rfl, hi]; rfl
        refine wpIn_region_held_drew (S := fun w' => w'.cell? ⟨W.heap.size, 0, none⟩ = some (.int .i64 (k : Int)) ∧ w'.cell? ⟨W.heap.size, 1, none⟩ = some (.pointer (some ⟨cb, 0, none⟩)) ∧ w'.cell? ⟨bv, 0, none⟩ = some (.pointer (some ⟨cb, 0, none⟩)) ∧ w'.cell? ⟨cb, 0, none⟩ = some (.slice (some ⟨g0, 0, none⟩) n c0) ∧ w'.cell? ⟨g0, k, none⟩ = some (.int .i64 (colOf U 0 k))) (by kernel_rfl) (by rintro ⟨_, _, h⟩; exact h) (by kernel_rfl) ?_ (fun hHeld => ?_)
        · (try dsimp only)
          (first | (go_simp; done) | (go_keep; done))
        refine tq 0 hHeld ?_
        (refine tc 1 fun K hK => ?_; go_simp; (go_at_call 66; refine (kOk_q (HAt.below hh (Below.drew (Below.refl _ _))) _ hi).mono ?_; rintro e w5 ⟨rfl, hb5⟩; obtain ⟨hc5, hf5⟩ := bcell hb5; have hz5 := hb5.size; (try simp only [World.size_drew, World.size_alloc, World.size_setCell] at hc5 hf5 hz5); have hk1 := fun o => hc5 W.heap.size o (by omega); have hk2 := fun o => hc5 bv o (by omega); have hk3 := fun o => hc5 cb o (by omega); have hk4 := fun o => hc5 g0 o (by omega); clear hc5 hf5); (try go_wp2_with fail); refine tr hK (fun hHeld => ?_); clear hK K)
        refine tq 2 hHeld ?_
        refine tq 3 hHeld ?_
        refine tn 4 hHeld ?_
        refine tn 5 hHeld ?_
        refine tn 6 hHeld ?_
        refine tn 7 hHeld ?_
        refine tn 8 hHeld ?_
        refine tn 9 hHeld ?_
        refine tn 10 hHeld ?_
        refine tn 11 hHeld ?_
        refine tn 12 hHeld ?_
        refine tn 13 hHeld ?_
        refine tn 14 hHeld ?_
        refine tn 15 hHeld ?_
        refine tn 16 hHeld ?_
        refine tn 17 hHeld ?_
        refine tn 18 hHeld ?_
        refine tn 19 hHeld ?_
        refine tn 20 hHeld ?_
        refine tn 21 hHeld ?_
        refine tn 22 hHeld ?_
        refine tn 23 hHeld ?_
        refine tn 24 hHeld ?_
        refine tn 25 hHeld ?_
        refine tn 26 hHeld ?_
        refine tq 27 hHeld ?_
        refine wpAnyH_done (by kernel_rfl) ?_ _
        refine hK _ _ ?_
        refine wpIn_cond_true rfl ?_
        refine wpIn_seq_k fun K2 hK2 => ?_
        refine wpIn_region_plain (by rintro ⟨_, _, h⟩; exact h) (by kernel_rfl) ?_
        have hb25 := hb2.trans (hb5.ofDr.mono hb2.size)
        have hBB : Below w.heap.size w w5 := hB.trans (hb25.mono hB.size)
        have q2 : w5.cell? ⟨w.heap.size, 0, none⟩ = some (.pointer none) := (hb25.cell (p := ⟨w.heap.size, 0, none⟩) (by simp; omega)).trans r2
        have q3 : w5.cell? ⟨w.heap.size + 1, 0, none⟩ = some (.bool false) := (hb25.cell (p := ⟨w.heap.size + 1, 0, none⟩) (by simp; omega)).trans r3
        have p2 : w5.frozen? ⟨w.heap.size, 0, none⟩ = false := (hb25.frozen (p := ⟨w.heap.size, 0, none⟩) (by simp; omega)).trans f2
        have p3 : w5.frozen? ⟨w.heap.size + 1, 0, none⟩ = false := (hb25.frozen (p := ⟨w.heap.size + 1, 0, none⟩) (by simp; omega)).trans f3
        go_wp2
        refine wpIn_ret ?_
        exact ⟨(KeepsFrom.of_below hb5.ofDr).trans (((KeepsOthers.setCell _ _ _).trans (KeepsOthers.setCell _ _ _)).from _), rfl, (hBB.setCell (by simp) _).setCell (by simp) _, by go_simp, by go_simp, by rw [bodsB, allBB_no hno.out n hk, Bool.and_false]⟩
      | true =>
        by_cases hk0 : 0 < k
        · have hd0' : decide (0 < k) = true := decide_eq_true hk0
          obtain ⟨j, hj⟩ : ∃ j, j + 1 = k := ⟨k - 1, by omega⟩
          have hj' : (k : Int) - 1 = (j : Int) := by omega
          have hjn : j < n := by omega
          have hwj : IntKind.i64.wrap (j : Int) = (j : Int) := i64w (by omega)
          obtain ⟨g0', c0', e0', _, p3, _⟩ := hC3.at (i := 0) (k := j) (by omega) hjn
          rw [e0] at e0'
          simp only [Value.slice.injEq, Option.some.injEq, Addr.mk.injEq] at e0'
          obtain ⟨⟨rfl, _⟩, _, rfl⟩ := e0'
          have HJ : Shut (j + 1 = k) := hj
          clear hj
          by_cases hge : colOf U 0 j < colOf U 0 k
          · have hdg : decide (colOf U 0 k ≤ colOf U 0 j) = false := decide_eq_false (by omega)
            have hyes : Shut (stepBB U k = true) := by show stepBB U k = true; rw [stepBB, show (fun j => U (k * 12 + j)) = (fun i => colOf U i k) from rfl, hi, show k - 1 = j from by have := HJ.out; omega]; simp only [Bool.true_and]; rw [show U (j * 12) = colOf U 0 j from rfl, show U (k * 12) = colOf U 0 k from rfl]; simp [hge]
            refine wpIn_region_held_drew (S := fun w' => w'.cell? ⟨W.heap.size, 0, none⟩ = some (.int .i64 (k : Int)) ∧ w'.cell? ⟨W.heap.size, 1, none⟩ = some (.pointer (some ⟨cb, 0, none⟩)) ∧ w'.cell? ⟨bv, 0, none⟩ = some (.pointer (some ⟨cb, 0, none⟩)) ∧ w'.cell? ⟨cb, 0, none⟩ = some (.slice (some ⟨g0, 0, none⟩) n c0) ∧ w'.cell? ⟨g0, k, none⟩ = some (.int .i64 (colOf U 0 k)) ∧ w'.cell? ⟨g0, j, none⟩ = some (.int .i64 (colOf U 0 j))) (by kernel_rfl) (by rintro ⟨_, _, h⟩; exact h) (by kernel_rfl) ?_ (fun hHeld => ?_)
            · (try dsimp only)
              (first | (go_simp; done) | (go_keep; done))
            refine tq 0 hHeld ?_
            (refine tc 1 fun K hK => ?_; go_simp; (go_at_call 66; refine (kOk_q (HAt.below hh (Below.drew (Below.refl _ _))) _ hi).mono ?_; rintro e w5 ⟨rfl, hb5⟩; obtain ⟨hc5, hf5⟩ := bcell hb5; have hz5 := hb5.size; (try simp only [World.size_drew, World.size_alloc, World.size_setCell] at hc5 hf5 hz5); have hk1 := fun o => hc5 W.heap.size o (by omega); have hk2 := fun o => hc5 bv o (by omega); have hk3 := fun o => hc5 cb o (by omega); have hk4 := fun o => hc5 g0 o (by omega); clear hc5 hf5); (try go_wp2_with fail); refine tr hK (fun hHeld => ?_); clear hK K)
            refine tq 2 hHeld ?_
            refine tq 3 hHeld ?_
            refine tq 4 hHeld ?_
            refine tq 5 hHeld ?_
            refine tq 6 hHeld ?_
            refine tq 7 hHeld ?_
            refine tq 8 hHeld ?_
            refine tq 9 hHeld ?_
            refine tq 10 hHeld ?_
            refine tq 11 hHeld ?_
            refine tq 12 hHeld ?_
            refine tq 13 hHeld ?_
            refine tq 14 hHeld ?_
            refine tq 15 hHeld ?_
            refine tq 16 hHeld ?_
            refine tq 17 hHeld ?_
            refine tq 18 hHeld ?_
            refine tq 19 hHeld ?_
            refine tq 20 hHeld ?_
            refine tq 21 hHeld ?_
            refine tq 22 hHeld ?_
            refine tq 23 hHeld ?_
            refine tq 24 hHeld ?_
            refine tq 25 hHeld ?_
            refine tq 26 hHeld ?_
            refine tq 27 hHeld ?_
            refine wpAnyH_done (by kernel_rfl) ?_ _
            refine hK _ _ ?_
            refine wpIn_cond_false rfl ?_
            refine wpIn_skip ?_
            exact ⟨KeepsFrom.of_below hb5.ofDr, hb2.trans (hb5.ofDr.mono hb2.size), by rw [allBB, hall, hyes.out]; rfl⟩
          · have hdg : decide (colOf U 0 k ≤ colOf U 0 j) = true := decide_eq_true (by omega)
            have hno : Shut (stepBB U k = false) := by show stepBB U k = false; rw [stepBB, show k - 1 = j from by have := HJ.out; omega]; have := HJ.out; rw [show U (j * 12) = colOf U 0 j from rfl, show U (k * 12) = colOf U 0 k from rfl]; simp [hge]; omega
            refine wpIn_region_held_drew (S := fun w' => w'.cell? ⟨W.heap.size, 0, none⟩ = some (.int .i64 (k : Int)) ∧ w'.cell? ⟨W.heap.size, 1, none⟩ = some (.pointer (some ⟨cb, 0, none⟩)) ∧ w'.cell? ⟨bv, 0, none⟩ = some (.pointer (some ⟨cb, 0, none⟩)) ∧ w'.cell? ⟨cb, 0, none⟩ = some (.slice (some ⟨g0, 0, none⟩) n c0) ∧ w'.cell? ⟨g0, k, none⟩ = some (.int .i64 (colOf U 0 k)) ∧ w'.cell? ⟨g0, j, none⟩ = some (.int .i64 (colOf U 0 j))) (by kernel_rfl) (by rintro ⟨_, _, h⟩; exact h) (by kernel_rfl) ?_ (fun hHeld => ?_)
            · (try dsimp only)
              (first | (go_simp; done) | (go_keep; done))
            refine tq 0 hHeld ?_
            (refine tc 1 fun K hK => ?_; go_simp; (go_at_call 66; refine (kOk_q (HAt.below hh (Below.drew (Below.refl _ _))) _ hi).mono ?_; rintro e w5 ⟨rfl, hb5⟩; obtain ⟨hc5, hf5⟩ := bcell hb5; have hz5 := hb5.size; (try simp only [World.size_drew, World.size_alloc, World.size_setCell] at hc5 hf5 hz5); have hk1 := fun o => hc5 W.heap.size o (by omega); have hk2 := fun o => hc5 bv o (by omega); have hk3 := fun o => hc5 cb o (by omega); have hk4 := fun o => hc5 g0 o (by omega); clear hc5 hf5); (try go_wp2_with fail); refine tr hK (fun hHeld => ?_); clear hK K)
            refine tq 2 hHeld ?_
            refine tq 3 hHeld ?_
            refine tq 4 hHeld ?_
            refine tq 5 hHeld ?_
            refine tq 6 hHeld ?_
            refine tq 7 hHeld ?_
            refine tq 8 hHeld ?_
            refine tq 9 hHeld ?_
            refine tq 10 hHeld ?_
            refine tq 11 hHeld ?_
            refine tq 12 hHeld ?_
            refine tq 13 hHeld ?_
            refine tq 14 hHeld ?_
            refine tq 15 hHeld ?_
            refine tq 16 hHeld ?_
            refine tq 17 hHeld ?_
            refine tq 18 hHeld ?_
            refine tq 19 hHeld ?_
            refine tq 20 hHeld ?_
            refine tq 21 hHeld ?_
            refine tq 22 hHeld ?_
            refine tq 23 hHeld ?_
            refine tq 24 hHeld ?_
            refine tq 25 hHeld ?_
            refine tq 26 hHeld ?_
            refine tq 27 hHeld ?_
            refine wpAnyH_done (by kernel_rfl) ?_ _
            refine hK _ _ ?_
            refine wpIn_cond_true rfl ?_
            refine wpIn_seq_k fun K2 hK2 => ?_
            refine wpIn_region_plain (by rintro ⟨_, _, h⟩; exact h) (by kernel_rfl) ?_
            have hb25 := hb2.trans (hb5.ofDr.mono hb2.size)
            have hBB : Below w.heap.size w w5 := hB.trans (hb25.mono hB.size)
            have q2 : w5.cell? ⟨w.heap.size, 0, none⟩ = some (.pointer none) := (hb25.cell (p := ⟨w.heap.size, 0, none⟩) (by simp; omega)).trans r2
            have q3 : w5.cell? ⟨w.heap.size + 1, 0, none⟩ = some (.bool false) := (hb25.cell (p := ⟨w.heap.size + 1, 0, none⟩) (by simp; omega)).trans r3
            have p2 : w5.frozen? ⟨w.heap.size, 0, none⟩ = false := (hb25.frozen (p := ⟨w.heap.size, 0, none⟩) (by simp; omega)).trans f2
            have p3 : w5.frozen? ⟨w.heap.size + 1, 0, none⟩ = false := (hb25.frozen (p := ⟨w.heap.size + 1, 0, none⟩) (by simp; omega)).trans f3
            go_wp2
            refine wpIn_ret ?_
            exact ⟨(KeepsFrom.of_below hb5.ofDr).trans (((KeepsOthers.setCell _ _ _).trans (KeepsOthers.setCell _ _ _)).from _), rfl, (hBB.setCell (by simp) _).setCell (by simp) _, by go_simp, by go_simp, by rw [bodsB, allBB_no hno.out n hk, Bool.and_false]⟩
        · have hd0' : decide (0 < k) = false := decide_eq_false hk0
          have HK : Shut (k = 0) := (by omega : k = 0)
          clear hk0
          have hyes : Shut (stepBB U k = true) := by show stepBB U k = true; rw [stepBB, show (fun j => U (k * 12 + j)) = (fun i => colOf U i k) from rfl, hi, HK.out]; rfl
          refine wpIn_region_held_drew (S := fun w' => w'.cell? ⟨W.heap.size, 0, none⟩ = some (.int .i64 (k : Int)) ∧ w'.cell? ⟨W.heap.size, 1, none⟩ = some (.pointer (some ⟨cb, 0, none⟩)) ∧ w'.cell? ⟨bv, 0, none⟩ = some (.pointer (some ⟨cb, 0, none⟩)) ∧ w'.cell? ⟨cb, 0, none⟩ = some (.slice (some ⟨g0, 0, none⟩) n c0) ∧ w'.cell? ⟨g0, k, none⟩ = some (.int .i64 (colOf U 0 k))) (by kernel_rfl) (by rintro ⟨_, _, h⟩; exact h) (by kernel_rfl) ?_ (fun hHeld => ?_)
          · (try dsimp only)
            (first | (go_simp; done) | (go_keep; done))
          refine tq 0 hHeld ?_
          (refine tc 1 fun K hK => ?_; go_simp; (go_at_call 66; refine (kOk_q (HAt.below hh (Below.drew (Below.refl _ _))) _ hi).mono ?_; rintro e w5 ⟨rfl, hb5⟩; obtain ⟨hc5, hf5⟩ := bcell hb5; have hz5 := hb5.size; (try simp only [World.size_drew, World.size_alloc, World.size_setCell] at hc5 hf5 hz5); have hk1 := fun o => hc5 W.heap.size o (by omega); have hk2 := fun o => hc5 bv o (by omega); have hk3 := fun o => hc5 cb o (by omega); have hk4 := fun o => hc5 g0 o (by omega); clear hc5 hf5); (try go_wp2_with fail); refine tr hK (fun hHeld => ?_); clear hK K)
          refine tq 2 hHeld ?_
          refine tq 3 hHeld ?_
          refine tq 4 hHeld ?_
          refine tq 5 hHeld ?_
          refine tq 6 hHeld ?_
          refine tq 7 hHeld ?_
          refine tn 8 hHeld ?_
          refine tn 9 hHeld ?_
          refine tn 10 hHeld ?_
          refine tn 11 hHeld ?_
          refine tn 12 hHeld ?_
          refine tn 13 hHeld ?_
          refine tn 14 hHeld ?_
          refine tn 15 hHeld ?_
          refine tn 16 hHeld ?_
          refine tn 17 hHeld ?_
          refine tn 18 hHeld ?_
          refine tn 19 hHeld ?_
          refine tn 20 hHeld ?_
          refine tn 21 hHeld ?_
          refine tn 22 hHeld ?_
          refine tn 23 hHeld ?_
          refine tn 24 hHeld ?_
          refine tn 25 hHeld ?_
          refine tq 26 hHeld ?_
          refine tq 27 hHeld ?_
          refine wpAnyH_done (by kernel_rfl) ?_ _
          refine hK _ _ ?_
          refine wpIn_cond_false rfl ?_
          refine wpIn_skip ?_
          exact ⟨KeepsFrom.of_below hb5.ofDr, hb2.trans (hb5.ofDr.mono hb2.size), by rw [allBB, hall, hyes.out]; rfl⟩
    case done =>
      rintro D W hD ⟨hbW, hall⟩ hK
      have q2 := (hbW.cell (p := ⟨w.heap.size, 0, none⟩) (by simp; omega)).trans r2
      have q3 := (hbW.cell (p := ⟨w.heap.size + 1, 0, none⟩) (by simp; omega)).trans r3
      have q4 := (hbW.cell (p := ⟨bv, 0, none⟩) hz2).trans r4
      have p2 := (hbW.frozen (p := ⟨w.heap.size, 0, none⟩) (by simp; omega)).trans f2
      have p3 := (hbW.frozen (p := ⟨w.heap.size + 1, 0, none⟩) (by simp; omega)).trans f3
      have hC4 := hC2.below hbW
      have hBW : Below w.heap.size w W := hB.trans (hbW.mono hB.size)
      have hzW := hbW.size
      go_wp2
      have hF : Fr (fun b => b = w.heap.size ∨ b = w.heap.size + 1) W ((W.setCell ⟨w.heap.size, 0, none⟩ (.pointer (some ⟨cb, 0, none⟩))).setCell ⟨w.heap.size + 1, 0, none⟩ (.bool true)) := (Fr.setCell (.inl rfl) _).trans (Fr.setCell (.inr rfl) _)
      refine marks_ret (B := w2.heap.size) hD rfl (hF.kind _ _ hK rfl) fun W' hS => ⟨.tuple #[.pointer (some ⟨cb, 0, none⟩), .bool true], ?_, ?_, .inl ⟨?_, cb, S, rfl, ?_, ?_⟩⟩
      · have x2 : W'.cell? ⟨w.heap.size, 0, none⟩ = some (.pointer (some ⟨cb, 0, none⟩)) := hS.cell (by go_simp)
        have x3 : W'.cell? ⟨w.heap.size + 1, 0, none⟩ = some (.bool true) := hS.cell (by go_simp)
        simp [results, Tryz.results38, go_sem, *]
      · exact ((hBW.setCell (by simp) _).setCell (by simp) _).trans (hS.below.mono (by omega))
      · rw [bodsB, hall, decide_eq_true h12]; rfl
      · omega
      · exact (hC4.frame hF (by omega) (fun b hb => by have := (hC2.xlt hb).1; omega)).sm hS
    case stop =>
      rintro D c W hD ⟨rfl, hbW, q2, q3, hno⟩ hK
      go_wp2
      refine marks_ret (B := w2.heap.size) hD rfl hK fun W' hS => ⟨.tuple #[.pointer none, .bool false], ?_, hbW.trans (hS.below.mono (by omega)), .inr ⟨hno, rfl⟩⟩
      have x2 := hS.cell q2
      have x3 := hS.cell q3
      simp [results, Tryz.results38, go_sem, *]
  · have h12' : (12 : Int) < (n : Int) := by omega
    refine calls_of_wp_marks Tryz.func38 rfl ?_
    simp only [Tryz.ntmps38, List.size_toArray, List.length_cons, List.length_nil, Nat.reduceAdd, Nat.reduceSub, Array.replicate_succ, Array.replicate_zero, List.push_toArray, List.append_toArray, List.nil_append, List.cons_append]
    go_wp2
    refine marks_ret0 (v := .tuple #[.pointer none, .bool false]) rfl (by simp [results, Tryz.results38, go_sem, *]) ⟨bel_a, .inr ⟨by rw [bodsB, decide_eq_false h12]; rfl, rfl⟩⟩
end Go.Proofs.YtpajkdlgkchhkaaGreatDoor
namespace Go.Proofs.YtpajkdlgkchhkaaGreatDoor
open Go.RowKit
set_option linter.unusedVariables false
set_option linter.unusedSimpArgs false
/-- a range over nothing -/
theorem range0 {P : Program} {g : Operand} {ps : Array Tmp} {assign body : Code} {Q : Exit → Act → World → Prop} {a : Act} {w : World} {gf : Nat} {bound : Array Value}
    (hg : a.eval g = .func (.func gf) bound #[]) (eg : ∀ args w, (callFunc gf args).run P w = .ok (.enter gf args) w)
    {encs : Nat → Array Value} (hit : ItC P gf bound encs 0 w) (hps : ∀ k, (encs k).size = ps.size)
    (hdone : ∀ (D : Nat) (W : World), w.heap.size ≤ D → Sm w.heap.size w W → W.heap[D]? = some (.deferred (some [])) → Q .normal { a with defers := { target := .collected D, args := #[] } :: a.defers } W) :
    (Code.rangeFunc g ps assign body).wp P Q a w :=
  wp_range_out hg eg hit hps (fun _ W => Sm w.heap.size w W) (fun _ _ => False) (fun _ _ _ h s => h.trans s) (fun _ _ _ h _ => h) (Sm.refl _ _) (fun _ _ _ _ _ h => absurd h (Nat.not_lt_zero _)) hdone (fun _ _ _ _ h _ => h.elim)
theorem it0 {P : Program} {gf : Nat} {bound : Array Value} {encs : Nat → Array Value} {w : World} (h : ∀ (l : Nat) W, Below w.heap.size w W → Calls P gf (bound ++ #[.func (.yield l) #[] #[]]) W fun e A => (∃ v, e = .returned v) ∧ Below W.heap.size W A) : ItC P gf bound encs 0 w :=
  fun l J Jx W hb hJb _ _ h0 => callsIn_wide.2 ((h _ W hb).mono fun e A ⟨hv, hA⟩ => ⟨hv, .inl (hJb _ _ _ h0 hA)⟩)
/-- columns whose first one is empty -/
def E0 (w : World) (cb : Nat) : Prop := ∃ ad cc, w.cell? ⟨cb, 0, none⟩ = some (.slice ad 0 cc)
theorem E0.of {w : World} {cb : Nat} {C : Nat → Nat → Int} {S : Nat → Value} (h : Cs w cb 0 C S) : E0 w cb := by
  obtain ⟨ad, cc, hS0⟩ := (h.own 0 (by omega)).is
  have hd0 := h.hd 0 (by omega)
  rw [hS0] at hd0
  exact ⟨ad, cc, hd0⟩
theorem E0.lt {w : World} {cb : Nat} (h : E0 w cb) : cb < w.heap.size := by obtain ⟨ad, cc, h⟩ := h; exact cell_lt (a := ⟨cb, 0, none⟩) h
theorem E0.on {w w' : World} {cb : Nat} (h : E0 w cb) (k : Below w.heap.size w w') : E0 w' cb := by
  have hl := h.lt
  obtain ⟨ad, cc, h⟩ := h
  exact ⟨ad, cc, (k.cell (p := ⟨cb, 0, none⟩) hl).trans h⟩
theorem E0.sm {w w' : World} {B cb : Nat} (h : E0 w cb) (k : Sm B w w') : E0 w' cb := by obtain ⟨ad, cc, h⟩ := h; exact ⟨ad, cc, k.cell h⟩
theorem each0 {w : World} {cb : Nat} (h : E0 w cb) : ItC Tryz.prog 32 #[.pointer (some ⟨cb, 0, none⟩)] (fun k => #[hdk cb k]) 0 w := by
  have hl := h.lt
  obtain ⟨ad, cc, h⟩ := h
  exact each_it cb 0 cc ad w hl h (by omega)
set_option maxRecDepth 20000 in
set_option maxHeartbeats 8000000 in
theorem contacts0 (cb : Nat) (w : World) (hC : E0 w cb) :
    Calls Tryz.prog 36 #[.pointer (some ⟨cb, 0, none⟩)] w fun e w' => e = .returned (.slice none 0 0) ∧ Below w.heap.size w w' := by
  have hset := cset_map
  refine calls_of_wp_marks Tryz.func36 rfl ?_
  simp only [Tryz.ntmps36, List.size_toArray, List.length_cons, List.length_nil, Nat.reduceAdd, Nat.reduceSub, Array.replicate_succ, Array.replicate_zero, List.push_toArray, List.append_toArray, List.nil_append, List.cons_append]
  go_wp2
  have hE : Below w.heap.size w ((w.alloc (Obj.cells #[(.pointer (some ⟨cb, 0, none⟩))] 42)).alloc (Obj.cells #[.slice none 0 0] 87)) := ((Below.refl _ _).alloc (Nat.le_refl _) _).alloc (by simp) _
  have hC2 := hC.on hE
  have r3 : ((w.alloc (Obj.cells #[(.pointer (some ⟨cb, 0, none⟩))] 42)).alloc (Obj.cells #[.slice none 0 0] 87)).cell? ⟨w.heap.size + 1, 0, none⟩ = some (.slice none 0 0) := by go_simp
  generalize ((w.alloc (Obj.cells #[(.pointer (some ⟨cb, 0, none⟩))] 42)).alloc (Obj.cells #[.slice none 0 0] 87)) = w2 at hE hC2 r3 ⊢
  refine range0 (gf := 32) (bound := #[(.pointer (some ⟨cb, 0, none⟩))]) rfl each_enters (each0 hC2) (fun _ => rfl) ?_
  intro D W hD hS hK
  have q3 := hS.cell r3
  go_wp2
  refine marks_ret (B := w2.heap.size) hD rfl hK fun W' hS' => ⟨.slice none 0 0, ?_, rfl, ?_⟩
  · simp [results, Tryz.results36, go_sem, *]
  · exact hE.trans ((hS.trans hS').below.mono hE.size)
set_option maxRecDepth 20000 in
set_option maxHeartbeats 8000000 in
theorem list0 (cb : Nat) (w : World) (hC : E0 w cb) :
    Calls Tryz.prog 16 #[.pointer (some ⟨cb, 0, none⟩)] w fun e w' => e = .returned (.slice none 0 0) ∧ Below w.heap.size w w' := by
  have hset := cset_map
  refine calls_of_wp_marks Tryz.func16 rfl ?_
  simp only [Tryz.ntmps16, List.size_toArray, List.length_cons, List.length_nil, Nat.reduceAdd, Nat.reduceSub, Array.replicate_succ, Array.replicate_zero, List.push_toArray, List.append_toArray, List.nil_append, List.cons_append]
  go_wp2
  have hE : Below w.heap.size w (w.alloc (Obj.cells #[.slice none 0 0] 24)) := (Below.refl _ _).alloc (Nat.le_refl _) _
  have hC2 := hC.on hE
  have r3 : (w.alloc (Obj.cells #[.slice none 0 0] 24)).cell? ⟨w.heap.size, 0, none⟩ = some (.slice none 0 0) := by go_simp
  generalize (w.alloc (Obj.cells #[.slice none 0 0] 24)) = w2 at hE hC2 r3 ⊢
  refine range0 (gf := 32) (bound := #[(.pointer (some ⟨cb, 0, none⟩))]) rfl each_enters (each0 hC2) (fun _ => rfl) ?_
  intro D W hD hS hK
  have q3 := hS.cell r3
  go_wp2
  refine marks_ret (B := w2.heap.size) hD rfl hK fun W' hS' => ⟨.slice none 0 0, ?_, rfl, ?_⟩
  · simp [results, Tryz.results16, go_sem, *]
  · exact hE.trans ((hS.trans hS').below.mono hE.size)
set_option maxRecDepth 20000 in
set_option maxHeartbeats 8000000 in
theorem unions0 (w : World) : Calls Tryz.prog 68 #[.int .i64 0] w fun e w' => (∃ ub : Nat, e = .returned (.pointer (some ⟨ub, 0, none⟩))) ∧ Below w.heap.size w w' := by
  have hset := cset_map
  have hmk : ∀ w, (Instr.makeSlice 133 (.int .i64 0) (.int .i64 0)).run Tryz.prog w = .ok (.slice (some ⟨w.heap.size, 0, none⟩) 0 0) (w.alloc (.cells #[] 78)) := fun w => by have q := make_rows (P := Tryz.prog) 133 78 (.int .i64 0) 1 8 Tryz.underlying133 (by kernel_rfl) .i64 .i64 0 (by omega) (by omega) w; rw [show madeCells (Value.int .i64 0).cells (0 * 1) = #[] from Array.eq_empty_of_size_eq_zero (by unfold madeCells; simp)] at q; simpa using q
  go_enter Tryz.func68, Tryz.ntmps68
  go_upto_region 3 with fail
  generalize hw2 : ((w.alloc (.cells #[] 78)).alloc (Obj.cells #[.slice (some ⟨w.heap.size, 0, none⟩) 0 0] 135)) = w2
  have hE : Below w.heap.size w w2 := by rw [← hw2]; exact ((Below.refl _ _).alloc (Nat.le_refl _) _).alloc (by simp) _
  clear hw2
  go_loopw [14] (fun s wr => s = .int .i64 0 ∧ wr = w2) (fun _ _ => 0)
  case atStart => exact ⟨rfl, rfl⟩
  case round =>
    obtain ⟨rfl, rfl⟩ := hrel
    go_wp2_with fail
    go_ret
    exact ⟨⟨_, rfl⟩, hE⟩
set_option maxRecDepth 20000 in
set_option maxHeartbeats 8000000 in
theorem joined0 (cb : Nat) (w : World) (hC : E0 w cb) : Calls Tryz.prog 43 #[.pointer (some ⟨cb, 0, none⟩)] w fun e w' => (∃ ub : Nat, e = .returned (.pointer (some ⟨ub, 0, none⟩))) ∧ Below w.heap.size w w' := by
  have hset := cset_map
  obtain ⟨ad, cc, hd⟩ := id hC
  go_enter Tryz.func43, Tryz.ntmps43
  go_upto_region 3 with (first
    | (have _ := hb1; go_at_call 36; refine (contacts0 cb _ (hC.on hb1)).mono ?_; rintro e w2 ⟨rfl, hb2⟩)
    | (go_at_call 68; refine (unions0 _).mono ?_; rintro e w1 ⟨⟨ub, rfl⟩, hb1⟩))
  go_loopw [17] (fun s wr => s = .int .i64 0 ∧ wr = w2) (fun _ _ => 0)
  case atStart => exact ⟨rfl, rfl⟩
  case round =>
    obtain ⟨rfl, rfl⟩ := hrel
    go_wp2_with fail
    go_ret
    exact ⟨⟨_, rfl⟩, hb1.trans (hb2.mono hb1.size)⟩
set_option maxRecDepth 20000 in
set_option maxHeartbeats 8000000 in
theorem groups0 (cb l : Nat) (w : World) (hC : E0 w cb) : Calls Tryz.prog 28 #[.pointer (some ⟨cb, 0, none⟩), .func (.yield l) #[] #[]] w fun e w' => (∃ v, e = .returned v) ∧ Below w.heap.size w w' := by
  have hset := cset_map
  refine calls_of_wp_marks Tryz.func28 rfl ?_
  simp only [Tryz.ntmps28, List.size_toArray, List.length_cons, List.length_nil, Nat.reduceAdd, Nat.reduceSub, Array.replicate_succ, Array.replicate_zero, List.push_toArray, List.append_toArray, List.nil_append, List.cons_append]
  go_wp2_with (go_at_call 43; refine (joined0 cb _ (hC.on (bel_a))).mono ?_; rintro e w1 ⟨⟨ub, rfl⟩, hb1⟩; have k0 : w1.cell? ⟨w.heap.size, 0, none⟩ = some (.pointer (some ⟨cb, 0, none⟩)) := (hb1.cell (p := ⟨w.heap.size, 0, none⟩) (by simp; omega)).trans (by go_simp); have hz1 := hb1.size; simp only [World.size_alloc] at hz1; have hq0 : w.heap.size < w1.heap.size := (by omega); have hq1 : ¬ w.heap.size = w1.heap.size := (by omega); have hq2 : ¬ w.heap.size = w1.heap.size + 1 := (by omega))
  have hE0 : Below w.heap.size w ((w.alloc (Obj.cells #[.pointer (some ⟨cb, 0, none⟩)] 42)).alloc (Obj.cells #[.func (.yield l) #[] #[]] 104)) := ((Below.refl _ _).alloc (Nat.le_refl _) _).alloc (by simp) _
  have hE1 := hE0.trans (hb1.mono hE0.size)
  have hE2 : Below w1.heap.size w1 ((w1.alloc (Obj.cells #[.pointer (some ⟨ub, 0, none⟩)] 105)).alloc (Obj.cells #[.int .i64 0] 3)) := ((Below.refl _ _).alloc (Nat.le_refl _) _).alloc (by simp) _
  have hE := hE1.trans (hE2.mono hE1.size)
  have hC2 := hC.on hE
  generalize ((w1.alloc (Obj.cells #[.pointer (some ⟨ub, 0, none⟩)] 105)).alloc (Obj.cells #[.int .i64 0] 3)) = w2 at hE hC2 ⊢
  refine range0 (gf := 32) (bound := #[(.pointer (some ⟨cb, 0, none⟩))]) rfl each_enters (each0 hC2) (fun _ => rfl) ?_
  intro D W hD hS hK
  go_wp2
  refine marks_ret (B := w2.heap.size) hD rfl hK fun W' hS' => ⟨_, results_none rfl _ _ _, ⟨_, rfl⟩, ?_⟩
  exact hE.trans ((hS.trans hS').below.mono hE.size)
theorem groups_enters : ∀ args w, (callFunc 28 args).run Tryz.prog w = .ok (.enter 28 args) w := enters_of Tryz.func28 (by kernel_rfl) rfl
set_option maxRecDepth 20000 in
set_option maxHeartbeats 8000000 in
theorem stepByGroups0 (cb : Nat) (P : Int) (w : World) (hC : E0 w cb) : Calls Tryz.prog 15 #[.pointer (some ⟨cb, 0, none⟩), .int .i64 P] w fun e w' => (∃ v, e = .returned v) ∧ Below w.heap.size w w' := by
  have hset := cset_map
  refine calls_of_wp_marks Tryz.func15 rfl ?_
  simp only [Tryz.ntmps15, List.size_toArray, List.length_cons, List.length_nil, Nat.reduceAdd, Nat.reduceSub, Array.replicate_succ, Array.replicate_zero, List.push_toArray, List.append_toArray, List.nil_append, List.cons_append]
  go_wp2
  have hE : Below w.heap.size w (((w.alloc (Obj.cells #[.pointer (some ⟨cb, 0, none⟩)] 42)).alloc (Obj.cells #[.int .i64 P] 39)).alloc (Obj.cells #[.slice none 0 0] 70)) := (((Below.refl _ _).alloc (Nat.le_refl _) _).alloc (by simp) _).alloc (by simp; omega) _
  have hC2 := hC.on hE
  have r4 : (((w.alloc (Obj.cells #[.pointer (some ⟨cb, 0, none⟩)] 42)).alloc (Obj.cells #[.int .i64 P] 39)).alloc (Obj.cells #[.slice none 0 0] 70)).cell? ⟨w.heap.size + 1 + 1, 0, none⟩ = some (.slice none 0 0) := by go_simp
  generalize (((w.alloc (Obj.cells #[.pointer (some ⟨cb, 0, none⟩)] 42)).alloc (Obj.cells #[.int .i64 P] 39)).alloc (Obj.cells #[.slice none 0 0] 70)) = w2 at hE hC2 r4 ⊢
  refine range0 (gf := 28) (bound := #[(.pointer (some ⟨cb, 0, none⟩))]) (encs := fun _ => #[.int .i64 0, .int .i64 0]) rfl groups_enters (it0 (fun l W hb => by have h := groups0 cb l W (hC2.on hb); simp only [List.append_toArray, List.cons_append, List.nil_append]; exact h)) (fun _ => rfl) ?_
  intro D W hD hS hK
  have q4 := hS.cell r4
  go_upto_region 6 with fail
  go_loopw [24] (fun s wr => s = .int .i64 0 ∧ wr = W) (fun _ _ => 0)
  case atStart => exact ⟨rfl, rfl⟩
  case round =>
    obtain ⟨rfl, rfl⟩ := hrel
    go_wp2_with fail
    refine marks_ret (B := w2.heap.size) hD rfl hK fun W' hS' => ⟨_, results_none rfl _ _ _, ⟨_, rfl⟩, ?_⟩
    exact hE.trans ((hS.trans hS').below.mono hE.size)
set_option maxRecDepth 20000 in
set_option maxHeartbeats 8000000 in
theorem bodies0 (a : Option Addr) (c : Nat) (w : World) : Calls Tryz.prog 34 #[.slice a 0 c] w fun e w' => ∃ cb : Nat, e = .returned (.tuple #[.pointer (some ⟨cb, 0, none⟩), Value.nilIface]) ∧ E0 w' cb ∧ Below w.heap.size w w' := by
  have hset := cset_map
  have hF : Flat w a (0 * 12) (fun _ => 0) := fun h => by omega
  go_enter Tryz.func34, Tryz.ntmps34
  go_wp2_with (go_at_call 38; refine (columnsOf_any a 0 c (fun _ => 0) _ hF (by omega)).mono ?_; rintro e w1 ⟨hb1, (⟨hB, cb, S, rfl, hcb, hCs⟩ | ⟨hB, rfl⟩)⟩)
  all_goals (try (exfalso; revert hB; decide))
  exact bodyPost_ret (v := .tuple #[.pointer (some ⟨cb, 0, none⟩), Value.nilIface]) (by simp [results, Tryz.results34, go_sem]) rfl ⟨cb, rfl, E0.of hCs, hb1⟩
set_option maxRecDepth 20000 in
set_option maxHeartbeats 8000000 in
theorem as0 (x : Value) (w : World) : Calls Tryz.prog 62 #[Value.nilIface, x] w fun e w' => e = .returned (.bool false) ∧ Below w.heap.size w w' := by
  go_enter Tryz.func62, Tryz.ntmps62
  go_wp2
  go_ret
  exact ⟨rfl, Below.refl _ _⟩
set_option maxRecDepth 20000 in
set_option maxHeartbeats 8000000 in
theorem refused0 (w : World) : Calls Tryz.prog 35 #[Value.nilIface] w fun e w' => e = .returned (.bool false) ∧ Below w.heap.size w w' := by
  go_enter Tryz.func35, Tryz.ntmps35
  go_wp2_with (go_at_call 62; refine (as0 _ _).mono ?_; rintro e w1 ⟨rfl, hb1⟩)
  go_ret
  exact ⟨rfl, ((Below.refl _ _).alloc (Nat.le_refl _) _).trans (hb1.mono (by simp))⟩
set_option maxRecDepth 20000 in
set_option maxHeartbeats 8000000 in
theorem stepPairs0 (a : Option Addr) (c : Nat) (w : World) : Calls Tryz.prog 17 #[.slice a 0 c] w fun e w' => e = .returned (.slice none 0 0) ∧ Below w.heap.size w w' := by
  have hset := cset_map
  go_enter Tryz.func17, Tryz.ntmps17
  go_upto_region 6 with (first
    | (have _ := hb2; go_at_call 36; refine (contacts0 cb _ (hC.on hb2)).mono ?_; rintro e w3 ⟨rfl, hb3⟩)
    | (have _ := hb1; go_at_call 35; refine (refused0 _).mono ?_; rintro e w2 ⟨rfl, hb2⟩)
    | (go_at_call 34; refine (bodies0 a c _).mono ?_; rintro e w1 ⟨cb, rfl, hC, hb1⟩))
  go_loopw [5, 18] (fun s5 s wr => s5 = .slice none 0 0 ∧ s = .int .i64 0 ∧ wr = w3) (fun _ _ _ => 0)
  case atStart => exact ⟨rfl, rfl, rfl⟩
  case round =>
    obtain ⟨rfl, rfl, rfl⟩ := hrel
    go_wp2_with fail
    go_ret
    exact ⟨rfl, (hb1.trans (hb2.mono hb1.size)).trans (hb3.mono (Nat.le_trans hb1.size hb2.size))⟩
set_option maxRecDepth 20000 in
set_option maxHeartbeats 8000000 in
theorem eventsOf0 (a a' : Option Addr) (c c' : Nat) (w : World) : Calls Tryz.prog 18 #[.slice a 0 c, .slice a' 0 c'] w fun e w' => e = .returned (.slice none 0 0) ∧ Below w.heap.size w w' := by
  have hset := cset_map
  go_enter Tryz.func18, Tryz.ntmps18
  go_upto_region 3 with fail
  go_loopw [5, 12] (fun s5 s wr => s5 = .slice none 0 0 ∧ s = .int .i64 0 ∧ wr = w) (fun _ _ _ => 0)
  case atStart => exact ⟨rfl, rfl, rfl⟩
  case round =>
    obtain ⟨rfl, rfl, rfl⟩ := hrel
    go_upto_region 9 with fail
    go_loopw [5, 28] (fun s5 s wr2 => s5 = .slice none 0 0 ∧ s = .int .i64 0 ∧ wr2 = wr) (fun _ _ _ => 0)
    case atStart => exact ⟨rfl, rfl, rfl⟩
    case round =>
      obtain ⟨rfl, rfl, rfl⟩ := hrel
      go_wp2_with fail
      go_ret
      exact ⟨rfl, Below.refl _ _⟩
end Go.Proofs.YtpajkdlgkchhkaaGreatDoor
namespace Go.Proofs.YtpajkdlgkchhkaaGreatDoor
open Go.RowKit
set_option linter.unusedVariables false
set_option linter.unusedSimpArgs false
def ascU (U : Nat → Int) (n : Nat) : Prop := ∀ q r, q < r → r < n → U (q * 12) < U (r * 12)
theorem allBB_get {U : Nat → Int} : ∀ {n k : Nat}, allBB U n = true → k < n → stepBB U k = true
  | 0, k, _, l => absurd l (Nat.not_lt_zero _)
  | n + 1, k, h, l => by
    unfold allBB at h
    rw [Bool.and_eq_true] at h
    rcases Nat.lt_succ_iff_lt_or_eq.1 l with l | rfl
    · exact allBB_get h.1 l
    · exact h.2
theorem bodsB_asc {U : Nat → Int} {n : Nat} (h : bodsB n U = true) : ascU U n := by
  unfold bodsB at h
  rw [Bool.and_eq_true] at h
  have one : ∀ r, r + 1 < n → U (r * 12) < U ((r + 1) * 12) := fun r hr => by
    have := allBB_get h.2 hr
    unfold stepBB at this
    rw [Bool.and_eq_true, Bool.or_eq_true, decide_eq_true_eq, decide_eq_true_eq] at this
    rcases this.2 with q | q
    · omega
    · simpa using q
  intro q r hqr hr
  induction r with
  | zero => omega
  | succ r ih =>
    by_cases e : q = r
    · subst e; exact one q hr
    · exact Int.lt_trans (ih (by omega) (by omega)) (one r hr)
/-- p is the first place whose number is not below id -/
structure idP (U : Nat → Int) (n : Nat) (id : Int) (p : Nat) : Prop where
  le : p ≤ n
  lo : ∀ q, q < p → U (q * 12) < id
  hi : p < n → id ≤ U (p * 12)
theorem idP_ex (U : Nat → Int) (id : Int) : ∀ n, ∃ p, idP U n id p
  | 0 => ⟨0, Nat.le_refl _, fun q h => absurd h (Nat.not_lt_zero _), fun h => absurd h (Nat.lt_irrefl _)⟩
  | n + 1 => by
    obtain ⟨p, h1, h2, h3⟩ := idP_ex U id n
    by_cases e : p < n
    · exact ⟨p, by omega, h2, fun _ => h3 e⟩
    · by_cases l : U (n * 12) < id
      · exact ⟨n + 1, Nat.le_refl _, fun q hq => by
          by_cases e2 : q = n
          · subst e2; exact l
          · exact h2 q (by omega), fun h => absurd h (Nat.lt_irrefl _)⟩
      · exact ⟨n, by omega, fun q hq => h2 q (by omega), fun _ => by omega⟩
theorem idP_uniq {U : Nat → Int} {n p q : Nat} {id : Int} (h : idP U n id p) (k : idP U n id q) : p = q := by
  rcases Nat.lt_trichotomy p q with l | l | l
  · have := k.lo p l
    have := h.hi (Nat.lt_of_lt_of_le l k.le)
    omega
  · exact l
  · have := h.lo q l
    have := k.hi (Nat.lt_of_lt_of_le l h.le)
    omega
/-- whether a number is there -/
def hasF (U : Nat → Int) (n : Nat) (id : Int) : Bool := (List.range n).any fun k => decide (U (k * 12) = id)
theorem hasF_at {U : Nat → Int} {n p : Nat} {id : Int} (ha : ascU U n) (h : idP U n id p) : hasF U n id = decide (p < n ∧ U (p * 12) = id) := by
  unfold hasF
  by_cases e : p < n ∧ U (p * 12) = id
  · rw [decide_eq_true e, List.any_eq_true]
    exact ⟨p, List.mem_range.2 e.1, decide_eq_true e.2⟩
  · rw [decide_eq_false e, ← Bool.not_eq_true, List.any_eq_true]
    rintro ⟨k, hk, hd⟩
    rw [List.mem_range] at hk
    rw [decide_eq_true_eq] at hd
    rcases Nat.lt_trichotomy k p with l | l | l
    · have := h.lo k l; omega
    · subst l; exact e ⟨hk, hd⟩
    · have h1 := h.hi (by omega)
      have h2 := ha p k l hk
      omega
def aheadB (a b c d : Int) : Bool := decide (a < c ∨ a = c ∧ b < d)
def stepPB (U : Nat → Int) (n : Nat) (Q : Nat → Int) (i : Nat) : Bool :=
  decide (Q (i * 2) < Q (i * 2 + 1)) && (hasF U n (Q (i * 2)) && (hasF U n (Q (i * 2 + 1)) && (decide (i = 0) || aheadB (Q ((i - 1) * 2)) (Q ((i - 1) * 2 + 1)) (Q (i * 2)) (Q (i * 2 + 1)))))
def allPB (U : Nat → Int) (n : Nat) (Q : Nat → Int) : Nat → Bool
  | 0 => true
  | i + 1 => allPB U n Q i && stepPB U n Q i
theorem allPB_no {U : Nat → Int} {n : Nat} {Q : Nat → Int} {k : Nat} (h : stepPB U n Q k = false) : ∀ m, k < m → allPB U n Q m = false
  | 0, l => absurd l (Nat.not_lt_zero _)
  | m + 1, l => by
    unfold allPB
    rcases Nat.lt_succ_iff_lt_or_eq.1 l with l | rfl
    · rw [allPB_no h m l]; rfl
    · rw [h, Bool.and_false]
/-- whether a world is ok -/
def worldB (T P : Int) (n : Nat) (U : Nat → Int) (m : Nat) (Q : Nat → Int) : Bool := decide (0 ≤ T ∧ T ≤ 100000) && (decide (0 ≤ P ∧ P ≤ 2560) && (bodsB n U && allPB U n Q m))
def cmpI (x y : Int) : Int := if x < y then -1 else if y < x then 1 else 0
end Go.Proofs.YtpajkdlgkchhkaaGreatDoor
namespace Go.Proofs.YtpajkdlgkchhkaaGreatDoor
open Go.RowKit
set_option linter.unusedVariables false
set_option linter.unusedSimpArgs false

abbrev bodyW (V : Nat → Int) : Value := .agg #[.int .i64 (V 0), .int .i64 (V 1), .int .i64 (V 2), .int .i64 (V 3), .int .i64 (V 4), .int .i64 (V 5), .int .i64 (V 6), .int .i64 (V 7), .int .i64 (V 8), .int .i64 (V 9), .int .i64 (V 10), .int .i64 (V 11)]
theorem l1In_q (n l h : Int) (b : Bool) (w : World) (e : decide (l ≤ n ∧ n ≤ h) = b) :
    Calls Tryz.prog 21 #[.int .i64 n, .int .i64 l, .int .i64 h] w fun e w' => e = .returned (.bool b) ∧ Below w.heap.size w w' := by
  subst e; exact (l1In_any n l h w).mono fun e w' ⟨a, b⟩ => ⟨a, b ▸ Below.refl _ _⟩
theorem bodyB_bd {V : Nat → Int} (h : bodyB V = true) : (0 ≤ V 8 ∧ V 8 ≤ 1000) ∧ (0 ≤ V 11 ∧ V 11 ≤ 8) ∧ (-2560000 ≤ V 4 ∧ V 4 ≤ 2560000) ∧ (-2560000 ≤ V 5 ∧ V 5 ≤ 2560000) ∧ (-20000000 ≤ V 6 ∧ V 6 ≤ 20000000) ∧ (-20000000 ≤ V 7 ∧ V 7 ≤ 20000000) ∧ (0 ≤ V 9 ∧ V 9 ≤ 256) ∧ (0 ≤ V 10 ∧ V 10 ≤ 256) ∧ shB (V 1) (V 2) (V 3) = true ∧ restB V = true := by
  unfold bodyB at h
  simp only [Bool.and_eq_true, decide_eq_true_eq] at h
  obtain ⟨a0, a1, a2, a3, a4, a5, a6, a7, a8⟩ := h
  obtain ⟨p1, p2⟩ := inB_of a2
  obtain ⟨q1, q2⟩ := inB_of a3
  exact ⟨a4, a7, p1, p2, q1, q2, a5, a6, a1, a8⟩
def spX (V : Nat → Int) : Int := if V 8 = 0 then 0 else (V 6).tdiv (V 8)
def spY (V : Nat → Int) : Int := if V 8 = 0 then 0 else (V 7).tdiv (V 8)
end Go.Proofs.YtpajkdlgkchhkaaGreatDoor
namespace Go.Proofs.YtpajkdlgkchhkaaGreatDoor
open Go.RowKit
set_option linter.unusedVariables false
set_option linter.unusedSimpArgs false

set_option maxHeartbeats 2000000 in
theorem wayTimes_any (x y n : Int) (w : World) (hx : -1000000000 ≤ x ∧ x ≤ 1000000000) (hy : -1000000000 ≤ y ∧ y ≤ 1000000000) (hn : -1000000000 ≤ n ∧ n ≤ 1000000000) :
    Calls Tryz.prog 141 #[vv x y, .int .i64 n] w fun e w' => e = .returned (vv (fc ((x * n).tdiv 256)) (fc ((y * n).tdiv 256))) ∧ Below w.heap.size w w' := by
  have hset := cset_map
  go_enter Tryz.func141, Tryz.ntmps141
  go_wp2
  go_region_with (go_at_call 154; refine (times_any _ _ _ (by omega) (by omega)).mono ?_; rintro e w' ⟨rfl, rfl⟩)
  all_goals
    go_wp2
    exact bodyPost_ret (v := vv (fc ((x * n).tdiv 256)) (fc ((y * n).tdiv 256))) (by simp [results, Tryz.results141, go_sem, *]) rfl ⟨rfl, bel_a⟩

set_option maxHeartbeats 2000000 in
theorem dot_any (x y u v : Int) (w : World) (hx : -1000000000 ≤ x ∧ x ≤ 1000000000) (hy : -1000000000 ≤ y ∧ y ≤ 1000000000) (hu : -1000000000 ≤ u ∧ u ≤ 1000000000) (hv : -1000000000 ≤ v ∧ v ≤ 1000000000) :
    Calls Tryz.prog 153 #[vv x y, vv u v] w fun e w' => e = .returned (.int .i64 (fc ((x * u + y * v).tdiv 256))) ∧ Below w.heap.size w w' := by
  have p := mul_bd (A := 1000000000) (B := 1000000000) hx hu
  have q := mul_bd (A := 1000000000) (B := 1000000000) hy hv
  have ht := i64w (n := (x * u + y * v).tdiv 256) (by have := tdiv_bd (x := x * u + y * v) (B := 2000000000000000000) 256 (by omega); omega)
  have hset := cset_map
  go_enter Tryz.func153, Tryz.ntmps153
  go_wp2_with (first
    | (go_at_call 143; refine (products_any _ _ _ _ _ (by omega) (by omega) (by omega) (by omega)).mono ?_; rintro e w2 ⟨rfl, hb2⟩; obtain ⟨hc2, hf2⟩ := bcell hb2; have hz2 := hb2.size; (try simp at hz2); have hq2x0a : w.heap.size < w2.heap.size := (by omega); have hq2x1a : w.heap.size + 1 < w2.heap.size := (by omega))
    | (go_at_call 120; refine (held_any _ _ _ (by omega) (by omega)).mono ?_; rintro e w' ⟨rfl, rfl⟩))
  all_goals
    go_ret
    exact ⟨rfl, bel_a⟩

set_option maxHeartbeats 1000000 in
theorem length_any (x y : Int) (w : World) (hx : -1000000000 ≤ x ∧ x ≤ 1000000000) (hy : -1000000000 ≤ y ∧ y ≤ 1000000000) :
    Calls Tryz.prog 145 #[vv x y] w fun e w' => e = .returned (.int .i64 (vl x y)) ∧ Below w.heap.size w w' := by
  have hs := sq_bd hx hy
  have hset := cset_map
  go_enter Tryz.func145, Tryz.ntmps145
  go_wp2_with (first
    | (go_at_call 143; refine (products_any _ _ _ _ _ (by omega) (by omega) (by omega) (by omega)).mono ?_; rintro e w2 ⟨rfl, hb2⟩; obtain ⟨hc2, hf2⟩ := bcell hb2; have hz2 := hb2.size; (try simp at hz2); have hq2x0a : w.heap.size < w2.heap.size := (by omega))
    | (go_at_call 155; refine (root_any _ _ (by omega)).mono ?_; rintro e w5 ⟨rfl, hb5⟩; obtain ⟨hc5, hf5⟩ := bcell hb5; have hz5 := hb5.size; (try simp at hz5); have hq5x0a : w.heap.size < w5.heap.size := (by omega))
    | (go_at_call 120; refine (held_any _ _ _ (by omega) (by omega)).mono ?_; rintro e w' ⟨rfl, rfl⟩))
  go_ret
  exact ⟨rfl, bel_a⟩

end Go.Proofs.YtpajkdlgkchhkaaGreatDoor
namespace Go.Proofs.YtpajkdlgkchhkaaGreatDoor
open Go.RowKit
set_option linter.unusedVariables false
set_option linter.unusedSimpArgs false

set_option maxHeartbeats 2000000 in
theorem unit_any (x y : Int) (w : World) (hx : -1000000000 ≤ x ∧ x ≤ 1000000000) (hy : -1000000000 ≤ y ∧ y ≤ 1000000000) :
    Calls Tryz.prog 144 #[vv x y] w fun e w' => e = .returned (vv (ux x y) (uy x y)) ∧ Below w.heap.size w w' := by
  have hl := vl_bd x y
  by_cases h0 : vl x y = 0
  · have e1 : ux x y = 0 := if_pos h0
    have e2 : uy x y = 256 := if_pos h0
    have hset := cset_map
    go_enter Tryz.func144, Tryz.ntmps144
    go_wp2_with (go_at_call 145; refine (length_any _ _ _ (by omega) (by omega)).mono ?_; rintro e w6 ⟨rfl, hb6⟩; obtain ⟨hc6, hf6⟩ := bcell hb6; have hz6 := hb6.size; (try simp at hz6); have hq6x0a : w.heap.size < w6.heap.size := (by omega); have hq6x1a : w.heap.size + 1 < w6.heap.size := (by omega))
    exact bodyPost_ret (v := vv 0 256) (by simp [results, Tryz.results144, go_sem, *]) rfl ⟨by rw [e1, e2], bel_a⟩
  · have e1 : ux x y = (x * 256).tdiv (vl x y) := if_neg h0
    have e2 : uy x y = (y * 256).tdiv (vl x y) := if_neg h0
    have t1 := w64 (n := (x * 256).tdiv (vl x y)) (by have := tdiv_bd (x := x * 256) (B := 256000000000) (vl x y) (by omega); omega)
    have t2 := w64 (n := (y * 256).tdiv (vl x y)) (by have := tdiv_bd (x := y * 256) (B := 256000000000) (vl x y) (by omega); omega)
    have s1 := i64w (n := (x * 256).tdiv (vl x y)) (by have := tdiv_bd (x := x * 256) (B := 256000000000) (vl x y) (by omega); omega)
    have s2 := i64w (n := (y * 256).tdiv (vl x y)) (by have := tdiv_bd (x := y * 256) (B := 256000000000) (vl x y) (by omega); omega)
    have E1 : Hid (ux x y = (x * 256).tdiv (vl x y)) := e1
    have E2 : Hid (uy x y = (y * 256).tdiv (vl x y)) := e2
    clear e1 e2
    have hset := cset_map
    go_enter Tryz.func144, Tryz.ntmps144
    go_wp2_with (go_at_call 145; refine (length_any _ _ _ (by omega) (by omega)).mono ?_; rintro e w6 ⟨rfl, hb6⟩; obtain ⟨hc6, hf6⟩ := bcell hb6; have hz6 := hb6.size; (try simp at hz6); have hq6x0a : w.heap.size < w6.heap.size := (by omega); have hq6x1a : w.heap.size + 1 < w6.heap.size := (by omega))
    go_region
    all_goals
      go_wp2
      exact bodyPost_ret (v := vv ((x * 256).tdiv (vl x y)) ((y * 256).tdiv (vl x y))) (by simp [results, Tryz.results144, go_sem, *]) rfl ⟨by rw [E1.out, E2.out], bel_a⟩

end Go.Proofs.YtpajkdlgkchhkaaGreatDoor
namespace Go.Proofs.YtpajkdlgkchhkaaGreatDoor
open Go.RowKit
set_option linter.unusedVariables false
set_option linter.unusedSimpArgs false

end Go.Proofs.YtpajkdlgkchhkaaGreatDoor
namespace Go.Proofs.YtpajkdlgkchhkaaGreatDoor
open Go.RowKit
set_option linter.unusedVariables false
set_option linter.unusedSimpArgs false

end Go.Proofs.YtpajkdlgkchhkaaGreatDoor
namespace Go.Proofs.YtpajkdlgkchhkaaGreatDoor
open Go.RowKit
set_option linter.unusedVariables false
set_option linter.unusedSimpArgs false

end Go.Proofs.YtpajkdlgkchhkaaGreatDoor
namespace Go.Proofs.YtpajkdlgkchhkaaGreatDoor
open Go.RowKit
set_option linter.unusedVariables false
set_option linter.unusedSimpArgs false

structure TB (w wx : World) (V : Nat → Int) (m : Nat) : Prop where
  inn : ∀ j, j < 12 → wx.cell? ⟨w.heap.size, j, none⟩ = some (.int .i64 (V j))
  out : ∀ j, j < 12 → wx.cell? ⟨w.heap.size + 1 + 1, j, none⟩ = some (.int .i64 (if j < m then V j else 0))
  res : ∀ j, j < 12 → wx.cell? ⟨w.heap.size + 1, j, none⟩ = some (.int .i64 0)
  nfo : ∀ j, j < 12 → wx.frozen? ⟨w.heap.size + 1 + 1, j, none⟩ = false
  nfr : ∀ j, j < 12 → wx.frozen? ⟨w.heap.size + 1, j, none⟩ = false
  bel : Below w.heap.size w wx
  big : w.heap.size + 1 + 1 < wx.heap.size
theorem TB.below {w wx w1 : World} {V : Nat → Int} {m : Nat} (h : TB w wx V m) (hb : Below wx.heap.size wx w1) : TB w w1 V m := by
  have big := h.big
  exact ⟨fun j hj => (hb.cell (by simp; omega)).trans (h.inn j hj), fun j hj => (hb.cell (by simp; omega)).trans (h.out j hj), fun j hj => (hb.cell (by simp; omega)).trans (h.res j hj), fun j hj => (hb.frozen (by simp; omega)).trans (h.nfo j hj), fun j hj => (hb.frozen (by simp; omega)).trans (h.nfr j hj), h.bel.trans (hb.mono (by omega)), Nat.lt_of_lt_of_le big hb.size⟩
theorem TB.step {w w1 : World} {V : Nat → Int} {m : Nat} (h : TB w w1 V m) (hm : m < 12) : TB w (w1.setCell ⟨w.heap.size + 1 + 1, m, none⟩ (.int .i64 (V m))) V (m + 1) := by
  have big := h.big
  refine ⟨fun j hj => ?_, fun j hj => ?_, fun j hj => ?_, fun j hj => ?_, fun j hj => ?_, ?_, ?_⟩
  · rw [cset_far (by simp; omega)]; exact h.inn j hj
  · by_cases e : j = m
    · subst e; rw [cset_same (h.out j hj), if_pos (by omega)]
    · rw [cset_other (by intro q; injection q with q1 q2; exact e q2.symm), h.out j hj]
      by_cases q : j < m
      · rw [if_pos q, if_pos (by omega)]
      · rw [if_neg q, if_neg (by omega)]
  · rw [cset_far (by simp)]; exact h.res j hj
  · rw [World.frozen?_setCell]; exact h.nfo j hj
  · rw [World.frozen?_setCell]; exact h.nfr j hj
  · exact h.bel.setCell (by simp; omega) _
  · simpa using big
end Go.Proofs.YtpajkdlgkchhkaaGreatDoor
namespace Go.Proofs.YtpajkdlgkchhkaaGreatDoor
open Go.RowKit
set_option linter.unusedVariables false
set_option linter.unusedSimpArgs false

abbrev zeroBd : Value := .agg #[.int .i64 0, .int .i64 0, .int .i64 0, .int .i64 0, .int .i64 0, .int .i64 0, .int .i64 0, .int .i64 0, .int .i64 0, .int .i64 0, .int .i64 0, .int .i64 0]
theorem makeBodies (n : Nat) (hn : n ≤ 1048576) (w : World) : (Instr.makeSlice 24 (.int .i64 (n : Int)) (.int .i64 (n : Int))).run Tryz.prog w = .ok (.slice (some ⟨w.heap.size, 0, none⟩) n n) (w.alloc (.cells (madeCells zeroBd.cells (n * 12)) 62)) :=
  make_rows _ _ zeroBd 12 96 Tryz.underlying24 (by kernel_rfl) _ _ n (by omega) (by omega) w
end Go.Proofs.YtpajkdlgkchhkaaGreatDoor
namespace Go.Proofs.YtpajkdlgkchhkaaGreatDoor
open Go.RowKit
set_option linter.unusedVariables false
set_option linter.unusedSimpArgs false
theorem grown_setG (w : World) (g q : Nat) (v : Value) : w.grownBy (w.setCell ⟨g, q, none⟩ v) (some g) := ⟨rfl, rfl, rfl, by simp, fun k hk hn => Below.heap_setCell _ _ _ _ (fun e => hn (by rw [e]))⟩
theorem grown_trans {w w' w'' : World} {r : Option Nat} (h : w.grownBy w' r) (k : w'.grownBy w'' r) : w.grownBy w'' r := ⟨k.os.trans h.os, k.tape.trans h.tape, k.output.trans h.output, Nat.le_trans h.size k.size, fun i hi hn => (k.block i (Nat.lt_of_lt_of_le hi h.size) hn).trans (h.block i hi hn)⟩
theorem grown_refl (w : World) (r : Option Nat) : w.grownBy w r := ⟨rfl, rfl, rfl, Nat.le_refl _, fun _ _ _ => rfl⟩
theorem OwnL.setq {w : World} {base t k n g c : Nat} {U : Nat → Int} (h : OwnL w base t k (.slice (Option.some ⟨g, 0, none⟩) n c) n U) (q : Nat) (hq : q < n * k) (x : Int) : OwnL (w.setCell ⟨g, q, none⟩ (.int .i64 x)) base t k (.slice (Option.some ⟨g, 0, none⟩) n c) n (fun r => if r = q then x else U r) := by
  have h1 := (World.ownsRow.stored h q (.int .i64 x)).1
  unfold OwnL
  rw [show numL (n * k) (fun r => if r = q then x else U r) = (numL (n * k) U).set q (.int .i64 x) from ?_]
  · exact h1
  · apply List.ext_getElem?
    intro r
    rw [List.getElem?_set, numL_len]
    by_cases hr : r < n * k
    · rw [numL_get hr]
      by_cases e : q = r
      · subst e; simp; omega
      · rw [if_neg e, numL_get hr]; simp [Ne.symm e]
    · rw [List.getElem?_eq_none (by rw [numL_len]; omega)]
      by_cases e : q = r
      · omega
      · rw [if_neg e, List.getElem?_eq_none (by rw [numL_len]; omega)]
theorem OwnL.loc {w : World} {base t k n c : Nat} {a : Option Addr} {U : Nat → Int} (h : OwnL w base t k (.slice a n c) n U) (h0 : 0 < n) : ∃ g, a = Option.some ⟨g, 0, none⟩ ∧ base ≤ g ∧ g < w.heap.size := by
  rcases h.2 with ⟨hv, hn⟩ | ⟨g, cap, cur, hv, hb, hg, _⟩
  · omega
  · simp only [Value.slice.injEq, true_and] at hv
    exact ⟨g, hv.1, hb, (Array.getElem?_eq_some_iff.1 hg).1⟩
theorem OwnL.cellq {w : World} {base t k n g c : Nat} {U : Nat → Int} (h : OwnL w base t k (.slice (Option.some ⟨g, 0, none⟩) n c) n U) {q : Nat} (hq : q < n * k) : w.cell? ⟨g, q, none⟩ = Option.some (.int .i64 (U q)) := by
  rw [World.ownsRow.cellAt h q hq, numL_get hq]
/-- marked up to p -/
abbrev mixU (p : Nat) (U : Nat → Int) : Nat → Int := fun q => if q < p then 1 + (q : Int) else U q
theorem OwnL.mark {w : World} {base t k n g c p : Nat} {U : Nat → Int} (h : OwnL w base t k (.slice (Option.some ⟨g, 0, none⟩) n c) n (mixU p U)) (hp : p < n * k) {x : Int} (hx : x = 1 + (p : Int)) : OwnL (w.setCell ⟨g, p, none⟩ (.int .i64 x)) base t k (.slice (Option.some ⟨g, 0, none⟩) n c) n (mixU (p + 1) U) :=
  (h.setq p hp x).congr fun q _ => by
    subst hx
    by_cases e : q = p
    · subst e; simp [mixU]
    · simp only [mixU, if_neg e]
      by_cases l : q < p
      · rw [if_pos l, if_pos (by omega)]
      · rw [if_neg l, if_neg (by omega)]
/-- a list whose block lies from lo on and below hi -/
structure Lv (w : World) (lo hi t k : Nat) (a : Option Addr) (n c : Nat) (U : Nat → Int) : Prop where
  own : OwnL w lo t k (.slice a n c) n U
  top : ∀ b, (Value.slice a n c).ownBlock = some b → b < hi
  le : hi ≤ w.heap.size
theorem Lv.on {w w' : World} {lo hi t k : Nat} {a : Option Addr} {n c : Nat} {U : Nat → Int} (h : Lv w lo hi t k a n c U) (hb : Below w.heap.size w w') : Lv w' lo hi t k a n c U := ⟨h.own.below hb, h.top, Nat.le_trans h.le hb.size⟩
theorem Lv.flat {w : World} {lo hi t k : Nat} {a : Option Addr} {n c : Nat} {U : Nat → Int} (h : Lv w lo hi t k a n c U) : Flat w a (n * k) U := h.own.flat
/-- another list is marked -/
theorem Lv.gr {w w' : World} {lo hi t k lo' hi' t' k' n' c' : Nat} {a' : Option Addr} {a : Option Addr} {n c : Nat} {U U' : Nat → Int} (h : Lv w lo hi t k a n c U) (h' : Lv w lo' hi' t' k' a' n' c' U') (hg : w.grownBy w' (Value.slice a' n' c').ownBlock) (hs : hi ≤ lo' ∨ hi' ≤ lo) : Lv w' lo hi t k a n c U := by
  refine ⟨?_, h.top, Nat.le_trans h.le hg.size⟩
  cases e : (Value.slice a n c).ownBlock with
  | none => exact h.own.kept hg (.inl e)
  | some b => exact h.own.kept hg (.inr (fun q => by
      have k1 := (h'.own.lt b (q ▸ e)).1
      have k1' := h'.top b (q ▸ e)
      have k2 := (h.own.lt b e).1
      have k3 := h.top b e
      omega))
/-- itself is marked -/
theorem Lv.me {w w' : World} {lo hi t k : Nat} {a : Option Addr} {n c : Nat} {U U' : Nat → Int} (h : Lv w lo hi t k a n c U) (hg : w.grownBy w' (Value.slice a n c).ownBlock) (ho : OwnL w' lo t k (.slice a n c) n U') : Lv w' lo hi t k a n c U' := ⟨ho, h.top, Nat.le_trans h.le hg.size⟩
/-- what lies below the first list -/
theorem Lv.below {w0 w w' : World} {lo hi t k B : Nat} {a : Option Addr} {n c : Nat} {U : Nat → Int} (h : Lv w lo hi t k a n c U) (hB : Below B w0 w) (hBw : B ≤ w.heap.size) (hg : w.grownBy w' (Value.slice a n c).ownBlock) (hl : B ≤ lo) : Below B w0 w' :=
  hB.grown hg hBw (fun b e => by have := (h.own.lt b e).1; omega)
theorem Lv.row {w w' : World} {b n t k : Nat} {U : Nat → Int} (h : Row w' b t (n * k) U) (hb : w.heap.size ≤ b) (hn : n ≤ 1048576) : Lv w' w.heap.size w'.heap.size t k (some ⟨b, 0, none⟩) n n U :=
  ⟨h.own hb (by unfold maxLen; omega), fun x e => by simp [Value.ownBlock] at e; subst e; exact h.lt, Nat.le_refl _⟩
/-- what a function hands out that makes a list -/
structure OutL (w w' : World) (t k : Nat) (a : Option Addr) (n c : Nat) (R : Nat → Int) : Prop where
  bel : Below w.heap.size w w'
  own : OwnL w' w.heap.size t k (.slice a n c) n R
theorem OutL.lv {w w' : World} {t k : Nat} {a : Option Addr} {n c : Nat} {R : Nat → Int} (h : OutL w w' t k a n c R) : Lv w' w.heap.size w'.heap.size t k a n c R := ⟨h.own, fun b e => (h.own.lt b e).2, Nat.le_refl _⟩
/-- a list's numbers -/
def ofL (l : List Int) : Nat → Int := fun q => l.getD q 0
theorem ofL_app (l x : List Int) (q : Nat) (h : q < l.length) : ofL (l ++ x) q = ofL l q := by
  unfold ofL
  rw [List.getD_eq_getElem?_getD, List.getD_eq_getElem?_getD, List.getElem?_append_left h]
theorem ofL_app' (l x : List Int) (q : Nat) (h : l.length ≤ q) : ofL (l ++ x) q = ofL x (q - l.length) := by
  unfold ofL
  rw [List.getD_eq_getElem?_getD, List.getD_eq_getElem?_getD, List.getElem?_append_right h]
theorem cat_ofL (l x : List Int) : cat l.length (ofL l) (ofL x) = ofL (l ++ x) := by
  funext q
  unfold cat
  by_cases h : q < l.length
  · rw [if_pos h, ofL_app l x q h]
  · rw [if_neg h, ofL_app' l x q (by omega)]
/-- APPEND of one thing of k numbers: where the list lies then -/
theorem step_appk {P : Program} {w : World} {ops : Array Oper} {o : Oper} {a : Act} {K : Act → World → Prop} {Q : Exit → Act → World → Prop} {E : Prop} (hgd : o.guard = none) (s x : Operand) (t : TypeId)
    (ho : o.op = .call { callee := .builtin .append, args := #[s, x], argTypes := #[t, t] })
    (base e k bytes : Nat) (z : Value) (ht : P.underlying t = some (.slice e)) (hinfo : (P.info? e).map (fun i => (i.zero, i.size, i.bytes)) = some (some z, k, bytes)) (hzs : z.cells.size = k) (hk : 0 < k)
    (v : Value) (n : Nat) (U : Nat → Int) (hs : a.eval s = v) (h : OwnL w base e k v n U) (B c : Nat) (X : Nat → Int) (hx : a.eval x = .slice (some ⟨B, 0, none⟩) 1 c) (hv : ∀ q, q < k → w.cell? ⟨B, q, none⟩ = some (.int .i64 (X q)))
    (h63 : n + 1 ≤ maxLen) (hbytes : (n + 1) * bytes ≤ 140737488355328) (hbase : base ≤ w.heap.size) (H : Nat) (hH : w.heap.size = H)
    (hK : ∀ g cap w', OwnL w' base e k (.slice (some ⟨g, 0, none⟩) (n + 1) cap) (n + 1) (cat (n * k) U X) → w.grownBy w' v.ownBlock → (v.ownBlock = some g ∨ g = H) → g < w'.heap.size → K (a.put o.dst (.slice (some ⟨g, 0, none⟩) (n + 1) cap)) w') :
    if Region.wanted o (yielded ops a.tmps) = true then Oper.wp P o a w K Q else E := by
  obtain ⟨i, hi, hzz⟩ := Option.map_eq_some_iff.1 hinfo
  simp only [Prod.mk.injEq] at hzz
  obtain ⟨hz, hsz, hby⟩ := hzz
  refine step_append_lies w hgd s x t ho base e i z k bytes ht hi hz hsz hby hzs hk v n (numL (n * k) U) hs h ⟨B, 0, none⟩ 1 c (numL (1 * k) X) hx (numL_len _ _) ?_ (fun u hu => by obtain ⟨q, _, rfl⟩ := List.mem_map.1 hu; rfl) (by omega) h63 hbytes hbase H hH ?_
  · intro j u hu
    have hj : j < 1 * k := by have := (List.getElem?_eq_some_iff.1 hu).1; rwa [numL_len] at this
    rw [numL_get hj] at hu
    rw [Addr.add_lit, Nat.zero_add, hv j (by omega)]
    exact hu
  · intro g cap w' h2 h3 h4 h5
    refine hK g cap w' ?_ h3 h4 h5
    unfold OwnL
    rw [Nat.add_mul, ← numL_cat]
    exact h2
end Go.Proofs.YtpajkdlgkchhkaaGreatDoor
namespace Go.Proofs.YtpajkdlgkchhkaaGreatDoor
open Go.RowKit
set_option linter.unusedVariables false
set_option linter.unusedSimpArgs false

abbrev pairW (V : Nat → Int) : Value := .agg #[.int .i64 (V 0), .int .i64 (V 1)]
abbrev zeroPair : Value := .agg #[.int .i64 0, .int .i64 0]
theorem makePairS (n : Nat) (hn : n ≤ 1048576) (w : World) : (Instr.makeSlice 25 (.int .i64 (n : Int)) (.int .i64 (n : Int))).run Tryz.prog w = .ok (.slice (some ⟨w.heap.size, 0, none⟩) n n) (w.alloc (.cells (madeCells zeroPair.cells (n * 2)) 65)) :=
  make_rows _ _ zeroPair 2 16 Tryz.underlying25 (by kernel_rfl) _ _ n (by omega) (by omega) w
abbrev worldW (T P : Int) (a : Option Addr) (n c : Nat) (a' : Option Addr) (m c' : Nat) : Value := .agg #[.int .i64 T, .int .i64 P, .slice a n c, .slice a' m c']
end Go.Proofs.YtpajkdlgkchhkaaGreatDoor
namespace Go.Proofs.YtpajkdlgkchhkaaGreatDoor
open Go.RowKit
set_option linter.unusedVariables false
set_option linter.unusedSimpArgs false

theorem columnsOf_ok (a : Option Addr) (n c : Nat) (U : Nat → Int) (w : World) (h : Flat w a (n * 12) U) (hn : n ≤ 1048576) (e : bodsB n U = true) :
    Calls Tryz.prog 38 #[.slice a n c] w fun e w' => ∃ cb S, e = .returned (.tuple #[.pointer (some ⟨cb, 0, none⟩), .bool true]) ∧ w.heap.size ≤ cb ∧ Cs w' cb n (colOf U) S ∧ Below w.heap.size w w' :=
  (columnsOf_any a n c U w h hn).mono fun e' w' q => by
    obtain ⟨q1, (⟨_, cb, S, q2, q3, q4⟩ | ⟨q2, _⟩)⟩ := q
    · exact ⟨cb, S, q2, q3, q4, q1⟩
    · rw [e] at q2; cases q2
theorem columnsOf_no (a : Option Addr) (n c : Nat) (U : Nat → Int) (w : World) (h : Flat w a (n * 12) U) (hn : n ≤ 1048576) (e : bodsB n U = false) :
    Calls Tryz.prog 38 #[.slice a n c] w fun e w' => e = .returned (.tuple #[.pointer none, .bool false]) ∧ Below w.heap.size w w' :=
  (columnsOf_any a n c U w h hn).mono fun e' w' q => by
    obtain ⟨q1, (⟨q2, _⟩ | ⟨_, q2⟩)⟩ := q
    · rw [e] at q2; cases q2
    · exact ⟨q2, q1⟩
end Go.Proofs.YtpajkdlgkchhkaaGreatDoor
namespace Go.Proofs.YtpajkdlgkchhkaaGreatDoor
open Go.RowKit
set_option linter.unusedVariables false
set_option linter.unusedSimpArgs false

theorem bodiesOk_q (a : Option Addr) (n c : Nat) (U : Nat → Int) (b : Bool) (w : World) (h : Flat w a (n * 12) U) (hn : n ≤ 1048576) (eb : bodsB n U = b) :
    Calls Tryz.prog 22 #[.slice a n c] w fun e w' => e = .returned (.bool b) ∧ Below w.heap.size w w' := by
  have hset := cset_map
  cases b with
  | true =>
    go_enter Tryz.func22, Tryz.ntmps22
    go_wp2_with (go_at_call 38; refine (columnsOf_ok a n c U _ h hn eb).mono ?_; rintro e w1 ⟨cb, S, rfl, hcb, hC, hb1⟩)
    go_ret
    exact ⟨rfl, bel_a⟩
  | false =>
    go_enter Tryz.func22, Tryz.ntmps22
    go_wp2_with (go_at_call 38; refine (columnsOf_no a n c U _ h hn eb).mono ?_; rintro e w1 ⟨rfl, hb1⟩)
    go_ret
    exact ⟨rfl, bel_a⟩
end Go.Proofs.YtpajkdlgkchhkaaGreatDoor
