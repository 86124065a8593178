/- All that bodies are driven by together: both sides. -/
import Derived.Test.YtmbdleggcnfedaaBdOk
import Derived.Test.YtmbdleggcnfedaaTd
import Derived.Deep.RegionHeld3
import Derived.Deep.DeepCutAuto
namespace Go.Proofs.Ytmbdleggcnfedaa
open Go.RowKit
set_option linter.unusedVariables false
set_option linter.unusedSimpArgs false

def sumD (U : Nat → Int) (j : Nat) : Nat → Int
  | 0 => 0
  | k + 1 => sumD U j k + U (k * 12 + j)
theorem allBB_at {U : Nat → Int} : ∀ {n k : Nat}, allBB U n = true → k < n → stepBB U k = true
  | 0, k, _, l => absurd l (Nat.not_lt_zero _)
  | n + 1, k, h, l => by
    unfold allBB at h
    rw [Bool.and_eq_true] at h
    rcases Nat.lt_succ_iff_lt_or_eq.1 l with l | rfl
    · exact allBB_at h.1 l
    · exact h.2
theorem bodsB_at {U : Nat → Int} {n k : Nat} (h : bodsB n U = true) (l : k < n) : bodyB (fun j => U (k * 12 + j)) = true := by
  unfold bodsB at h
  rw [Bool.and_eq_true] at h
  have := allBB_at h.2 l
  unfold stepBB at this
  rw [Bool.and_eq_true] at this
  exact this.1
theorem bodsB_le {U : Nat → Int} {n : Nat} (h : bodsB n U = true) : n ≤ 12 := by
  unfold bodsB at h
  rw [Bool.and_eq_true, decide_eq_true_eq] at h
  exact h.1
theorem drv_bd {U : Nat → Int} {n k : Nat} (h : bodsB n U = true) (l : k < n) : (-20000000 ≤ U (k * 12 + 6) ∧ U (k * 12 + 6) ≤ 20000000) ∧ (-20000000 ≤ U (k * 12 + 7) ∧ U (k * 12 + 7) ≤ 20000000) := by
  obtain ⟨_, _, _, _, q1, q2, _⟩ := bodyB_bd (bodsB_at h l)
  exact ⟨q1, q2⟩
theorem sumD_bd {U : Nat → Int} {n : Nat} (h : bodsB n U = true) : ∀ k, k ≤ n → (-(20000000 * (k : Int)) ≤ sumD U 6 k ∧ sumD U 6 k ≤ 20000000 * (k : Int)) ∧ (-(20000000 * (k : Int)) ≤ sumD U 7 k ∧ sumD U 7 k ≤ 20000000 * (k : Int))
  | 0, _ => by simp [sumD]
  | k + 1, hk => by
    obtain ⟨q1, q2⟩ := sumD_bd h k (by omega)
    obtain ⟨p1, p2⟩ := drv_bd h (k := k) (by omega)
    simp only [sumD]
    omega
/-- the sum of so many drives lies at ab -/
structure SumAt (w2 W : World) (ab : Nat) (x y : Int) : Prop where
  fr : Fr (fun b => b = ab) w2 W
  cx : W.cell? ⟨ab, 0, none⟩ = some (.int .i64 x)
  cy : W.cell? ⟨ab, 1, none⟩ = some (.int .i64 y)
  fx : W.frozen? ⟨ab, 0, none⟩ = false
  fy : W.frozen? ⟨ab, 1, none⟩ = false
theorem SumAt.sm {B ab : Nat} {w2 W W' : World} {x y : Int} (h : SumAt w2 W ab x y) (hs : Sm B W W') (hB : w2.heap.size ≤ B) : SumAt w2 W' ab x y :=
  ⟨⟨hs.below.os.trans h.fr.os, hs.below.tape.trans h.fr.tape, hs.below.output.trans h.fr.output, Nat.le_trans h.fr.size hs.size, fun k hk hn => (hs.below.block k (by omega)).trans (h.fr.block k hk hn), fun k o hk ho => (hs.below.block k (by have := (Array.getElem?_eq_some_iff.1 hk).1; omega)).trans (h.fr.kind k o hk ho)⟩,
    hs.cell h.cx, hs.cell h.cy, hs.frozen h.cx h.fx, hs.frozen h.cy h.fy⟩
theorem SumAt.below {ab : Nat} {w2 W W' : World} {x y : Int} (h : SumAt w2 W ab x y) (hs : Below W.heap.size W W') : SumAt w2 W' ab x y :=
  h.sm (Sm.of_below hs (Nat.le_refl _)) h.fr.size
theorem SumAt.set {ab : Nat} {w2 W : World} {x y : Int} (h : SumAt w2 W ab x y) (x' y' : Int) : SumAt w2 ((W.setCell ⟨ab, 0, none⟩ (.int .i64 x')).setCell ⟨ab, 1, none⟩ (.int .i64 y')) ab x' y' := by
  have hx := h.cx
  have hy := h.cy
  have fx := h.fx
  have fy := h.fy
  have hset := cset_map
  exact ⟨(h.fr.trans (Fr.setCell (X := fun b => b = ab) rfl _)).trans (Fr.setCell (X := fun b => b = ab) rfl _), by go_simp, by go_simp, by go_simp, by go_simp⟩

set_option maxRecDepth 20000 in
set_option maxHeartbeats 4000000 in
theorem drives_ok (a : Option Addr) (n c : Nat) (U : Nat → Int) (w : World) (h : Flat w a (n * 12) U) (hn : n ≤ 1048576) (hok : bodsB n U = true) :
    Calls Try.prog 11 #[.slice a n c] w fun e w' => e = .returned (vv (sumD U 6 n) (sumD U 7 n)) ∧ Below w.heap.size w w' := by
  have hset := cset_map
  have hn12 := bodsB_le hok
  refine calls_of_wp_marks Try.func11 rfl ?_
  simp only [Try.ntmps11, List.size_toArray, List.length_cons, List.length_nil, Nat.reduceAdd, Nat.reduceSub, Array.replicate_succ, Array.replicate_zero, List.push_toArray, List.append_toArray, List.nil_append, List.cons_append]
  go_wp2_with (go_at_call 15; refine (columnsOf_ok a n c U _ (h.below (by repeat (first | with_reducible apply Below.refl | (with_reducible apply Below.setCell; rotate_left; focus (first | omega | (simp; done) | (simp; omega))) | (with_reducible apply Below.alloc; rotate_left; focus (first | omega | (simp; done) | (simp; omega))) | with_reducible apply Below.drew | with_reducible apply belowDrewN | (with_reducible apply Below.trans; rotate_left; with_reducible apply Below.mono; with_reducible assumption; focus (first | omega | (simp; done) | (simp; omega)))))) hn hok).mono ?_; rintro e w1 ⟨cb, S, rfl, hcb, hC, hb1⟩)
  have hz1 := hb1.size
  simp only [World.size_alloc] at hz1 hcb
  have hcl1 := hC.lt
  have hw1 : Below w1.heap.size w1 (w1.alloc (Obj.cells #[.int .i64 0, .int .i64 0] 49)) := (Below.refl _ _).alloc (Nat.le_refl _) _
  have hB : Below w.heap.size w (w1.alloc (Obj.cells #[.int .i64 0, .int .i64 0] 49)) := (by repeat (first | with_reducible apply Below.refl | (with_reducible apply Below.setCell; rotate_left; focus (first | omega | (simp; done) | (simp; omega))) | (with_reducible apply Below.alloc; rotate_left; focus (first | omega | (simp; done) | (simp; omega))) | with_reducible apply Below.drew | with_reducible apply belowDrewN | (with_reducible apply Below.trans; rotate_left; with_reducible apply Below.mono; with_reducible assumption; focus (first | omega | (simp; done) | (simp; omega)))) : Below w.heap.size w w1).trans (hw1.mono (by omega))
  have hC2 := hC.below hw1
  have r2 : (w1.alloc (Obj.cells #[.int .i64 0, .int .i64 0] 49)).cell? ⟨w.heap.size, 0, none⟩ = some (.int .i64 0) := (hw1.cell (p := ⟨w.heap.size, 0, none⟩) (by simp; omega)).trans ((hb1.cell (p := ⟨w.heap.size, 0, none⟩) (by simp)).trans (by go_simp))
  have r3 : (w1.alloc (Obj.cells #[.int .i64 0, .int .i64 0] 49)).cell? ⟨w.heap.size, 1, none⟩ = some (.int .i64 0) := (hw1.cell (p := ⟨w.heap.size, 1, none⟩) (by simp; omega)).trans ((hb1.cell (p := ⟨w.heap.size, 1, none⟩) (by simp)).trans (by go_simp))
  have f2 : (w1.alloc (Obj.cells #[.int .i64 0, .int .i64 0] 49)).frozen? ⟨w.heap.size, 0, none⟩ = false := (hw1.frozen (p := ⟨w.heap.size, 0, none⟩) (by simp; omega)).trans ((hb1.frozen (p := ⟨w.heap.size, 0, none⟩) (by simp)).trans (by go_simp))
  have f3 : (w1.alloc (Obj.cells #[.int .i64 0, .int .i64 0] 49)).frozen? ⟨w.heap.size, 1, none⟩ = false := (hw1.frozen (p := ⟨w.heap.size, 1, none⟩) (by simp; omega)).trans ((hb1.frozen (p := ⟨w.heap.size, 1, none⟩) (by simp)).trans (by go_simp))
  have hA : SumAt (w1.alloc (Obj.cells #[.int .i64 0, .int .i64 0] 49)) (w1.alloc (Obj.cells #[.int .i64 0, .int .i64 0] 49)) w1.heap.size 0 0 := ⟨Fr.refl _ _, by go_simp, by go_simp, by go_simp, by go_simp⟩
  have hz2 : w1.heap.size < (w1.alloc (Obj.cells #[.int .i64 0, .int .i64 0] 49)).heap.size := by simp
  have hXl : ∀ b, Xc S b → b < w1.heap.size := fun b hb => (hC.xlt hb).2
  generalize (w1.alloc (Obj.cells #[.int .i64 0, .int .i64 0] 49)) = w2 at hB hC2 r2 r3 f2 f3 hA hz2 ⊢
  clear hw1 hC hb1
  have hcl := hC2.lt
  generalize hbv : w1.heap.size = ab at hz1 hz2 hA hXl hcl1 ⊢
  clear hbv
  obtain ⟨ad, cc, hS0⟩ := (hC2.own 0 (by omega)).is
  have hd0 := hC2.hd 0 (by omega)
  rw [hS0] at hd0
  refine wp_range_out (gf := 17) (bound := #[.pointer (some ⟨cb, 0, none⟩)]) rfl each_enters (each_it cb n _ _ w2 hcl hd0 hn) (fun _ => rfl) (fun k W => SumAt w2 W ab (sumD U 6 k) (sumD U 7 k)) (fun _ _ => False) ?_ (fun _ _ _ h _ => h) hA ?round ?done (fun _ _ _ _ h _ => h.elim)
  · intro k A B h1 hs
    exact h1.sm hs (Nat.le_refl _)
  case round =>
    intro l k W hl hF hk
    simp only [List.zip_toArray, List.zip_cons_cons, List.zip_nil_left, List.foldl_toArray, List.foldl_cons, List.foldl_nil, List.setIfInBounds_toArray, List.set_cons_succ, List.set_cons_zero]
    refine wpIn_region_plain (by rintro ⟨_, _, h⟩; exact h) (by kernel_rfl) ?_
    go_wp2
    refine ⟨(KeepsOthers.alloc _ _).from _, fun W2 hS hr => ?_⟩
    have hF2 : SumAt w2 W2 ab (sumD U 6 k) (sumD U 7 k) := (hF.below ((Below.refl _ _).alloc (Nat.le_refl _) _)).sm hS (Nat.le_refl _)
    have hzW := hF.fr.size
    have v0 : W2.cell? ⟨W.heap.size, 0, none⟩ = some (.int .i64 (k : Int)) := hS.cell (by go_simp)
    have v1 : W2.cell? ⟨W.heap.size, 1, none⟩ = some (.pointer (some ⟨cb, 0, none⟩)) := hS.cell (by go_simp)
    have hC3 := hC2.frame hF2.fr (by omega) (fun b hb => by have := hXl b hb; omega)
    have hz3 : W.heap.size < W2.heap.size := by have := hS.size; simp at this; omega
    have hh := hC3.hat hk (by omega)
    obtain ⟨b1, b2⟩ := sumD_bd hok k (by omega)
    obtain ⟨b3, b4⟩ : (-20000000 ≤ colOf U 6 k ∧ colOf U 6 k ≤ 20000000) ∧ (-20000000 ≤ colOf U 7 k ∧ colOf U 7 k ≤ 20000000) := drv_bd hok hk
    have a1 := hF2.cx
    have a2 := hF2.cy
    have a3 := hF2.fx
    have a4 := hF2.fy
    have hab : ab < W2.heap.size := by omega
    have onD : ∀ (X Y : World), SumAt w2 X ab (sumD U 6 k) (sumD U 7 k) → Below X.heap.size X Y → KeepsFrom w2.heap.size X ((Y.setCell ⟨ab, 0, none⟩ (.int .i64 (sumD U 6 k + colOf U 6 k))).setCell ⟨ab, 1, none⟩ (.int .i64 (sumD U 7 k + colOf U 7 k))) ∧ SumAt w2 ((Y.setCell ⟨ab, 0, none⟩ (.int .i64 (sumD U 6 k + colOf U 6 k))).setCell ⟨ab, 1, none⟩ (.int .i64 (sumD U 7 k + colOf U 7 k))) ab (sumD U 6 (k + 1)) (sumD U 7 (k + 1)) := fun X Y hX hXY =>
      ⟨(KeepsFrom.of_below hXY).trans (((KeepsOthers.setCell _ _ _).trans (KeepsOthers.setCell _ _ _)).from _), (hX.below hXY).set _ _⟩
    clear hS hr hF
    refine wpIn_block ?_
    refine wpIn_region_held_drew (S := fun w' => w'.cell? ⟨W.heap.size, 0, none⟩ = some (.int .i64 (k : Int)) ∧ w'.cell? ⟨W.heap.size, 1, none⟩ = some (.pointer (some ⟨cb, 0, none⟩))) (by kernel_rfl) (by rintro ⟨_, _, h⟩; exact h) (by kernel_rfl) ?_ (fun hHeld => ?_)
    · (try dsimp only)
      (first | (go_simp; done) | (go_keep; done))
    refine tq 1 hHeld ?_
    refine wpAnyH_ready (rs := [0, 2]) (by kernel_rfl) (by simp) ?_
    refine AllReadyH.cons (o := { dst := some 18, op := Go.Op.load 49 (Go.Operand.tmp 5), type := 49, pos := "l6_body.go:296", after := #[], guard := none }) rfl (fun K hK => ?_) (AllReadyH.cons (o := { dst := some 20, op := Go.Op.call { callee := Go.Callee.value (Go.Operand.func 19), args := #[Go.Operand.tmp 19], argTypes := #[53] }, type := 49, pos := "l6_body.go:296", after := #[{ on := 1, ground := Go.Ground.data }], guard := none }) rfl (fun K hK => ?_) AllReadyH.nil)
    · (go_simp; refine hK.out _ _ ?_ (fun hHeld => ?_); (focus ((try dsimp only); (first | (go_simp; done) | (go_keep; done)))); clear hK K; (try simp only [Act.put, List.setIfInBounds_toArray, List.set_cons_zero, List.set_cons_succ]))
      (refine tc 2 fun K hK => ?_; go_simp; (go_at_call 19; refine (kDrive (HAt.below hh (Below.drew (Below.refl _ _)))).mono ?_; rintro e w5 ⟨rfl, hb5⟩; obtain ⟨hc5, hf5⟩ := bcell hb5; have hz5 := hb5.size; (try simp only [World.size_drew, World.size_alloc, World.size_setCell] at hc5 hf5 hz5); have hk5x0 := fun o => hc5 W.heap.size o (by omega); have hj5x0 := fun o => hf5 W.heap.size o (by omega); have hk5x1 := fun o => hc5 ab o (by omega); have hj5x1 := fun o => hf5 ab o (by omega); clear hc5 hf5); (try go_wp2_with fail); refine tr hK (fun hHeld => ?_); clear hK K)
      (refine tc 3 fun K hK => ?_; go_simp; (go_at_call 18; refine (plus_any _ _ _ _ _ (by omega) (by omega) (by omega) (by omega)).mono ?_; rintro e w6 ⟨rfl, hb6⟩; obtain ⟨hc6, hf6⟩ := bcell hb6; have hz6 := hb6.size; (try simp only [World.size_drew, World.size_alloc, World.size_setCell] at hc6 hf6 hz6); have hk6x0 := fun o => hc6 W.heap.size o (by omega); have hj6x0 := fun o => hf6 W.heap.size o (by omega); have hk6x1 := fun o => hc6 ab o (by omega); have hj6x1 := fun o => hf6 ab o (by omega); clear hc6 hf6); (try go_wp2_with fail); refine tr hK (fun hHeld => ?_); clear hK K)
      (refine tc 4 fun K hK => ?_; go_simp; refine tr hK (fun hHeld => ?_); clear hK K)
      refine wpAnyH_done (by kernel_rfl) ?_ _
      have hb56 : Below W2.heap.size W2 w6 := hb5.ofDr.trans (hb6.mono hb5.size)
      exact onD W2 w6 hF2 hb56
    · (go_simp; (go_at_call 19; refine (kDrive (HAt.below hh (Below.drew (Below.refl _ _)))).mono ?_; rintro e w5 ⟨rfl, hb5⟩; obtain ⟨hc5, hf5⟩ := bcell hb5; have hz5 := hb5.size; (try simp only [World.size_drew, World.size_alloc, World.size_setCell] at hc5 hf5 hz5); have hk5x0 := fun o => hc5 W.heap.size o (by omega); have hj5x0 := fun o => hf5 W.heap.size o (by omega); have hk5x1 := fun o => hc5 ab o (by omega); have hj5x1 := fun o => hf5 ab o (by omega); clear hc5 hf5); (try go_wp2_with fail); refine hK.out _ _ ?_ (fun hHeld => ?_); (focus ((try dsimp only); (first | (go_simp; done) | (go_keep; done)))); clear hK K; (try simp only [Act.put, List.setIfInBounds_toArray, List.set_cons_zero, List.set_cons_succ]))
      (refine tc 0 fun K hK => ?_; go_simp; refine tr hK (fun hHeld => ?_); clear hK K)
      (refine tc 3 fun K hK => ?_; go_simp; (go_at_call 18; refine (plus_any _ _ _ _ _ (by omega) (by omega) (by omega) (by omega)).mono ?_; rintro e w6 ⟨rfl, hb6⟩; obtain ⟨hc6, hf6⟩ := bcell hb6; have hz6 := hb6.size; (try simp only [World.size_drew, World.size_alloc, World.size_setCell] at hc6 hf6 hz6); have hk6x0 := fun o => hc6 W.heap.size o (by omega); have hj6x0 := fun o => hf6 W.heap.size o (by omega); have hk6x1 := fun o => hc6 ab o (by omega); have hj6x1 := fun o => hf6 ab o (by omega); clear hc6 hf6); (try go_wp2_with fail); refine tr hK (fun hHeld => ?_); clear hK K)
      (refine tc 4 fun K hK => ?_; go_simp; refine tr hK (fun hHeld => ?_); clear hK K)
      refine wpAnyH_done (by kernel_rfl) ?_ _
      have hb56 : Below W2.heap.size W2 w6 := hb5.ofDr.trans (hb6.mono hb5.size)
      exact onD W2 w6 hF2 hb56
  case done =>
    intro D W hD hF hK
    have hzW := hF.fr.size
    have q2 := (hF.fr.cell (p := ⟨w.heap.size, 0, none⟩) (by simp; omega) (by simp; omega)).trans r2
    have q3 := (hF.fr.cell (p := ⟨w.heap.size, 1, none⟩) (by simp; omega) (by simp; omega)).trans r3
    have p2 := (hF.fr.frozen (p := ⟨w.heap.size, 0, none⟩) (by simp; omega) (by simp; omega)).trans f2
    have p3 := (hF.fr.frozen (p := ⟨w.heap.size, 1, none⟩) (by simp; omega) (by simp; omega)).trans f3
    have a1 := hF.cx
    have a2 := hF.cy
    have hBW : Below w.heap.size w W := hB.trans (hF.fr.below (by omega) (fun k e => by omega))
    go_wp2_with (go_at_call 20; refine (vec_any _ _ _).mono ?_; rintro e w7 ⟨rfl, hb7⟩; obtain ⟨hc7, hf7⟩ := bcell hb7; have hz7 := hb7.size; (try simp only [World.size_drew, World.size_alloc, World.size_setCell] at hc7 hf7 hz7); have hk7x0 := fun o => hc7 w.heap.size o (by omega); have hj7x0 := fun o => hf7 w.heap.size o (by omega); clear hc7 hf7)
    have hK7 := (hb7.block D (Array.getElem?_eq_some_iff.1 hK).1).trans hK
    have hF8 : Fr (fun b => b = w.heap.size) w7 ((w7.setCell ⟨w.heap.size, 0, none⟩ (.int .i64 (sumD U 6 n))).setCell ⟨w.heap.size, 1, none⟩ (.int .i64 (sumD U 7 n))) := (Fr.setCell (X := fun b => b = w.heap.size) rfl _).trans (Fr.setCell (X := fun b => b = w.heap.size) rfl _)
    refine marks_ret (B := w2.heap.size) hD rfl (hF8.kind _ _ hK7 rfl) fun W' hS => ⟨vv (sumD U 6 n) (sumD U 7 n), ?_, rfl, ?_⟩
    · have x2 : W'.cell? ⟨w.heap.size, 0, none⟩ = some (.int .i64 (sumD U 6 n)) := hS.cell (by go_simp)
      have x3 : W'.cell? ⟨w.heap.size, 1, none⟩ = some (.int .i64 (sumD U 7 n)) := hS.cell (by go_simp)
      simp [results, Try.results11, go_sem, *]
    · exact (((hBW.trans (hb7.mono (by omega))).setCell (by simp) _).setCell (by simp) _).trans (hS.below.mono (by omega))
theorem drives_no (a : Option Addr) (n c : Nat) (U : Nat → Int) (w : World) (h : Flat w a (n * 12) U) (hn : n ≤ 1048576) (hok : bodsB n U = false) :
    Calls Try.prog 11 #[.slice a n c] w fun e w' => e = .returned (vv 0 0) ∧ Below w.heap.size w w' := by
  have hset := cset_map
  refine calls_of_wp_marks Try.func11 rfl ?_
  simp only [Try.ntmps11, List.size_toArray, List.length_cons, List.length_nil, Nat.reduceAdd, Nat.reduceSub, Array.replicate_succ, Array.replicate_zero, List.push_toArray, List.append_toArray, List.nil_append, List.cons_append]
  go_wp2_with (go_at_call 15; refine (columnsOf_no a n c U _ (h.below (by repeat (first | with_reducible apply Below.refl | (with_reducible apply Below.setCell; rotate_left; focus (first | omega | (simp; done) | (simp; omega))) | (with_reducible apply Below.alloc; rotate_left; focus (first | omega | (simp; done) | (simp; omega))) | with_reducible apply Below.drew | with_reducible apply belowDrewN | (with_reducible apply Below.trans; rotate_left; with_reducible apply Below.mono; with_reducible assumption; focus (first | omega | (simp; done) | (simp; omega)))))) hn hok).mono ?_; rintro e w1 ⟨rfl, hb1⟩; obtain ⟨hc1, hf1⟩ := bcell hb1; have hz1 := hb1.size; (try simp only [World.size_drew, World.size_alloc, World.size_setCell] at hc1 hf1 hz1); have hk1x0 := fun o => hc1 w.heap.size o (by omega); have hj1x0 := fun o => hf1 w.heap.size o (by omega); clear hc1 hf1; have hq1 : w.heap.size < w1.heap.size := (by omega))
  refine marks_ret0 (v := vv 0 0) rfl (by simp [results, Try.results11, go_sem, *]) ⟨rfl, by repeat (first | with_reducible apply Below.refl | (with_reducible apply Below.setCell; rotate_left; focus (first | omega | (simp; done) | (simp; omega))) | (with_reducible apply Below.alloc; rotate_left; focus (first | omega | (simp; done) | (simp; omega))) | with_reducible apply Below.drew | with_reducible apply belowDrewN | (with_reducible apply Below.trans; rotate_left; with_reducible apply Below.mono; with_reducible assumption; focus (first | omega | (simp; done) | (simp; omega))))⟩
end Go.Proofs.Ytmbdleggcnfedaa
