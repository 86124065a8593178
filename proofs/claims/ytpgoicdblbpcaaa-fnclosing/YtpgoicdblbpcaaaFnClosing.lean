/- Two bodies come nearer just as fast either way round. -/
import Derived.Test.YtpgoicdblbpcaaaDrawTw
import Derived.Deep.RegionHeld3
import Derived.Deep.DeepCutAuto
import Derived.Test.YtpgoicdblbpcaaaClose
import Derived.Handy
import Derived.Test.YtpgoicdblbpcaaaFacts
import Derived.ProofKit
import Derived.OpenShut
import Derived.ShutString
import Derived.ChangeOld
import Derived.Lib.SmallJoins
namespace Go.Proofs.Ytpgoicdblbpcaaa
open Go.RowKit
set_option linter.unusedVariables false
set_option linter.unusedSimpArgs false

set_option maxRecDepth 20000 in
set_option maxHeartbeats 16000000 in
theorem drawClosing_any (a : Option Addr) (len cap : Nat) (w : World) (hb : Bytes w a len cap) :
    Calls Try.prog 6 #[.slice a len cap] w fun e w' => ∃ (V U : Nat → Int) (X Y D : Int), e = .returned (.tuple #[bodyW V, bodyW U, s3 X Y D]) ∧ HN X Y D ∧ Below w.heap.size w w' := by
  have hset := cset_map
  have hal : AL w (((w.alloc (.cells #[.int .i64 0, .int .i64 0, .int .i64 0, .int .i64 0, .int .i64 0, .int .i64 0, .int .i64 0, .int .i64 0, .int .i64 0, .int .i64 0, .int .i64 0, .int .i64 0] 28)).alloc (.cells #[.int .i64 0, .int .i64 0, .int .i64 0, .int .i64 0, .int .i64 0, .int .i64 0, .int .i64 0, .int .i64 0, .int .i64 0, .int .i64 0, .int .i64 0, .int .i64 0] 28)).alloc (.cells #[.int .i64 0, .int .i64 0, .int .i64 0] 30)) [(w.heap.size + 1 + 1, 3, (fun _ => 0)), (w.heap.size + 1, 12, (fun _ => 0)), (w.heap.size, 12, (fun _ => 0))] := ((((AL.nil w).new (w.heap.size) 12 (fun _ => 0) (by simp) (by intro i hi; rcases (show i = 0 ∨ i = 1 ∨ i = 2 ∨ i = 3 ∨ i = 4 ∨ i = 5 ∨ i = 6 ∨ i = 7 ∨ i = 8 ∨ i = 9 ∨ i = 10 ∨ i = 11 by omega) with rfl | rfl | rfl | rfl | rfl | rfl | rfl | rfl | rfl | rfl | rfl | rfl <;> rfl)).new (w.heap.size + 1) 12 (fun _ => 0) (by simp) (by intro i hi; rcases (show i = 0 ∨ i = 1 ∨ i = 2 ∨ i = 3 ∨ i = 4 ∨ i = 5 ∨ i = 6 ∨ i = 7 ∨ i = 8 ∨ i = 9 ∨ i = 10 ∨ i = 11 by omega) with rfl | rfl | rfl | rfl | rfl | rfl | rfl | rfl | rfl | rfl | rfl | rfl <;> rfl)).new (w.heap.size + 1 + 1) 3 (fun _ => 0) (by simp) (by intro i hi; rcases (show i = 0 ∨ i = 1 ∨ i = 2 by omega) with rfl | rfl | rfl <;> rfl))
  have hb' := hb.below hal.bel
  go_enter Try.func6, Try.ntmps6
  go_upto_region 1 with fail
  generalize (((w.alloc (.cells #[.int .i64 0, .int .i64 0, .int .i64 0, .int .i64 0, .int .i64 0, .int .i64 0, .int .i64 0, .int .i64 0, .int .i64 0, .int .i64 0, .int .i64 0, .int .i64 0] 28)).alloc (.cells #[.int .i64 0, .int .i64 0, .int .i64 0, .int .i64 0, .int .i64 0, .int .i64 0, .int .i64 0, .int .i64 0, .int .i64 0, .int .i64 0, .int .i64 0, .int .i64 0] 28)).alloc (.cells #[.int .i64 0, .int .i64 0, .int .i64 0] 30)) = w0 at *
  go_wp2_with (first
    | (have _ := hr1; go_at_call 15; refine (l11Two_s w0.heap.size 0 _ (by exact RS.of hr1) (by omega)).mono ?_; rintro e w2 ⟨V, U, X, Y, D, rfl, hXY, hr2⟩; have hD2 := (hal.opened hbel (RS.of hr1)).call hr2; have ga0 : Al w w2 (w.heap.size) 12 (fun _ => 0) := hD2.get (x := (w.heap.size, 12, (fun _ => 0))) (by simp); have cax0c0 := (ga0).2.2.1 0 (by omega); have cax0f0 := (ga0).2.2.2 0 (by omega); have cax0c1 := (ga0).2.2.1 1 (by omega); have cax0f1 := (ga0).2.2.2 1 (by omega); have cax0c2 := (ga0).2.2.1 2 (by omega); have cax0f2 := (ga0).2.2.2 2 (by omega); have cax0c3 := (ga0).2.2.1 3 (by omega); have cax0f3 := (ga0).2.2.2 3 (by omega); have cax0c4 := (ga0).2.2.1 4 (by omega); have cax0f4 := (ga0).2.2.2 4 (by omega); have cax0c5 := (ga0).2.2.1 5 (by omega); have cax0f5 := (ga0).2.2.2 5 (by omega); have cax0c6 := (ga0).2.2.1 6 (by omega); have cax0f6 := (ga0).2.2.2 6 (by omega); have cax0c7 := (ga0).2.2.1 7 (by omega); have cax0f7 := (ga0).2.2.2 7 (by omega); have cax0c8 := (ga0).2.2.1 8 (by omega); have cax0f8 := (ga0).2.2.2 8 (by omega); have cax0c9 := (ga0).2.2.1 9 (by omega); have cax0f9 := (ga0).2.2.2 9 (by omega); have cax0c10 := (ga0).2.2.1 10 (by omega); have cax0f10 := (ga0).2.2.2 10 (by omega); have cax0c11 := (ga0).2.2.1 11 (by omega); have cax0f11 := (ga0).2.2.2 11 (by omega); clear ga0; have ga1 : Al w w2 (w.heap.size + 1) 12 (fun _ => 0) := hD2.get (x := (w.heap.size + 1, 12, (fun _ => 0))) (by simp); have cax1c0 := (ga1).2.2.1 0 (by omega); have cax1f0 := (ga1).2.2.2 0 (by omega); have cax1c1 := (ga1).2.2.1 1 (by omega); have cax1f1 := (ga1).2.2.2 1 (by omega); have cax1c2 := (ga1).2.2.1 2 (by omega); have cax1f2 := (ga1).2.2.2 2 (by omega); have cax1c3 := (ga1).2.2.1 3 (by omega); have cax1f3 := (ga1).2.2.2 3 (by omega); have cax1c4 := (ga1).2.2.1 4 (by omega); have cax1f4 := (ga1).2.2.2 4 (by omega); have cax1c5 := (ga1).2.2.1 5 (by omega); have cax1f5 := (ga1).2.2.2 5 (by omega); have cax1c6 := (ga1).2.2.1 6 (by omega); have cax1f6 := (ga1).2.2.2 6 (by omega); have cax1c7 := (ga1).2.2.1 7 (by omega); have cax1f7 := (ga1).2.2.2 7 (by omega); have cax1c8 := (ga1).2.2.1 8 (by omega); have cax1f8 := (ga1).2.2.2 8 (by omega); have cax1c9 := (ga1).2.2.1 9 (by omega); have cax1f9 := (ga1).2.2.2 9 (by omega); have cax1c10 := (ga1).2.2.1 10 (by omega); have cax1f10 := (ga1).2.2.2 10 (by omega); have cax1c11 := (ga1).2.2.1 11 (by omega); have cax1f11 := (ga1).2.2.2 11 (by omega); clear ga1; have ga2 : Al w w2 (w.heap.size + 1 + 1) 3 (fun _ => 0) := hD2.get (x := (w.heap.size + 1 + 1, 3, (fun _ => 0))) (by simp); have cax2c0 := (ga2).2.2.1 0 (by omega); have cax2f0 := (ga2).2.2.2 0 (by omega); have cax2c1 := (ga2).2.2.1 1 (by omega); have cax2f1 := (ga2).2.2.2 1 (by omega); have cax2c2 := (ga2).2.2.1 2 (by omega); have cax2f2 := (ga2).2.2.2 2 (by omega); clear ga2)
    | (go_at_call 16; refine (l1Open_rb _ _ _ _ hb').mono ?_; rintro e w1 ⟨rfl, hr1, hbel⟩))
  refine bodyPost_ret (v := .tuple #[bodyW V, bodyW U, s3 X Y D]) (by simp [results, Try.results6, go_sem, *]) rfl ⟨V, U, X, Y, D, rfl, hXY, ?_⟩
  exact (((((((((((((((((((((((((((hD2.bel.setCell (by dsimp only; omega) _).setCell (by dsimp only; omega) _).setCell (by dsimp only; omega) _).setCell (by dsimp only; omega) _).setCell (by dsimp only; omega) _).setCell (by dsimp only; omega) _).setCell (by dsimp only; omega) _).setCell (by dsimp only; omega) _).setCell (by dsimp only; omega) _).setCell (by dsimp only; omega) _).setCell (by dsimp only; omega) _).setCell (by dsimp only; omega) _).setCell (by dsimp only; omega) _).setCell (by dsimp only; omega) _).setCell (by dsimp only; omega) _).setCell (by dsimp only; omega) _).setCell (by dsimp only; omega) _).setCell (by dsimp only; omega) _).setCell (by dsimp only; omega) _).setCell (by dsimp only; omega) _).setCell (by dsimp only; omega) _).setCell (by dsimp only; omega) _).setCell (by dsimp only; omega) _).setCell (by dsimp only; omega) _).setCell (by dsimp only; omega) _).setCell (by dsimp only; omega) _).setCell (by dsimp only; omega) _)
end Go.Proofs.Ytpgoicdblbpcaaa
namespace Go.Proofs.Ytpgoicdblbpcaaa
open Go.RowKit
set_option linter.unusedVariables false
set_option linter.unusedSimpArgs false

theorem clo_q (V1 V2 : Nat → Int) (x y k r : Int) (w : World) (e : clV V1 V2 x y k = r) : Calls Try.prog 7 #[bodyW V1, bodyW V2, s3 x y k] w fun e w' => e = .returned (.int .i64 r) ∧ Below w.heap.size w w' := by
  subst e; exact closingI_any V1 V2 x y k w
theorem sclo_q (V1 V2 : Nat → Int) (x y k r : Int) (w : World) (e : clV V1 V2 x y k = r) : Calls Try.prog 8 #[bodyW V1, bodyW V2, s3 x y k] w fun e w' => e = .returned (.int .i64 r) ∧ Below w.heap.size w w' := by
  subst e; exact sClosing_any V1 V2 x y k w
theorem spX_zero {V : Nat → Int} (h : V 6 = 0) : spX V = 0 := by unfold spX; rw [h]; split <;> simp
theorem spY_zero {V : Nat → Int} (h : V 7 = 0) : spY V = 0 := by unfold spY; rw [h]; split <;> simp
theorem turn_mul (a b x : Int) : (a - b) * (-x) = (b - a) * x := by rw [Int.mul_neg, ← Int.neg_mul, Int.neg_sub]
theorem clV_turn (V U : Nat → Int) (x y k : Int) : clV U V (-x) (-y) k = clV V U x y k := by
  have h1 : hitB (-x) (-y) k = hitB x y k := by unfold hitB inB; rw [Bool.eq_iff_iff]; simp only [Bool.and_eq_true, decide_eq_true_eq]; omega
  have h2 : closeV U V (-x) (-y) = closeV V U x y := by unfold closeV; rw [turn_mul, turn_mul]
  unfold clV
  rw [h1, h2]
  cases bodyB U <;> cases bodyB V <;> rfl
theorem clV_zero {V U : Nat → Int} (x y k : Int) (h1 : V 6 = 0 ∧ V 7 = 0) (h2 : U 6 = 0 ∧ U 7 = 0) : clV V U x y k = 0 := by
  have h : closeV V U x y = 0 := by
    unfold closeV
    rw [spX_zero h1.1, spX_zero h2.1, spY_zero h1.2, spY_zero h2.2]
    simp
    rfl
  unfold clV
  rw [h]
  split <;> rfl
set_option maxRecDepth 20000 in
set_option maxHeartbeats 8000000 in
theorem fnClosing_walk (a : Option Addr) (len cap : Nat) (w : World) (hb : Bytes w a len cap) :
    Calls Try.prog 3 #[.slice a len cap] w fun e w' => e = .returned (.bool true) ∧ Below w.heap.size w w' := by
  have hset := cset_map
  go_enter Try.func3, Try.ntmps3
  go_upto_region 4 with (go_at_call 6; refine (drawClosing_any _ _ _ _ hb).mono ?_; rintro e w1 ⟨V, U, X, Y, D, rfl, ⟨⟨x1, x2⟩, y1, y2⟩, hb1⟩)
  · go_wp2_with fail
    go_ret
    exact ⟨rfl, Below.refl _ _⟩
  have hA : AL w (((w1.alloc (.cells #[.int .i64 (V 0), .int .i64 (V 1), .int .i64 (V 2), .int .i64 (V 3), .int .i64 (V 4), .int .i64 (V 5), .int .i64 (V 6), .int .i64 (V 7), .int .i64 (V 8), .int .i64 (V 9), .int .i64 (V 10), .int .i64 (V 11)] 28)).alloc (.cells #[.int .i64 (U 0), .int .i64 (U 1), .int .i64 (U 2), .int .i64 (U 3), .int .i64 (U 4), .int .i64 (U 5), .int .i64 (U 6), .int .i64 (U 7), .int .i64 (U 8), .int .i64 (U 9), .int .i64 (U 10), .int .i64 (U 11)] 28)).alloc (.cells #[.int .i64 X, .int .i64 Y, .int .i64 D] 30)) [(w1.heap.size + 1 + 1, 3, (fun j => [X, Y, D].getD j 0)), (w1.heap.size + 1, 12, U), (w1.heap.size, 12, V)] := (((((AL.nil w).call hb1).new (w1.heap.size) 12 V (by simp) (by intro i hi; rcases (show i = 0 ∨ i = 1 ∨ i = 2 ∨ i = 3 ∨ i = 4 ∨ i = 5 ∨ i = 6 ∨ i = 7 ∨ i = 8 ∨ i = 9 ∨ i = 10 ∨ i = 11 by omega) with rfl | rfl | rfl | rfl | rfl | rfl | rfl | rfl | rfl | rfl | rfl | rfl <;> rfl)).new (w1.heap.size + 1) 12 U (by simp) (by intro i hi; rcases (show i = 0 ∨ i = 1 ∨ i = 2 ∨ i = 3 ∨ i = 4 ∨ i = 5 ∨ i = 6 ∨ i = 7 ∨ i = 8 ∨ i = 9 ∨ i = 10 ∨ i = 11 by omega) with rfl | rfl | rfl | rfl | rfl | rfl | rfl | rfl | rfl | rfl | rfl | rfl <;> rfl)).new (w1.heap.size + 1 + 1) 3 (fun j => [X, Y, D].getD j 0) (by simp) (by intro i hi; rcases (show i = 0 ∨ i = 1 ∨ i = 2 by omega) with rfl | rfl | rfl <;> rfl))
  generalize (((w1.alloc (.cells #[.int .i64 (V 0), .int .i64 (V 1), .int .i64 (V 2), .int .i64 (V 3), .int .i64 (V 4), .int .i64 (V 5), .int .i64 (V 6), .int .i64 (V 7), .int .i64 (V 8), .int .i64 (V 9), .int .i64 (V 10), .int .i64 (V 11)] 28)).alloc (.cells #[.int .i64 (U 0), .int .i64 (U 1), .int .i64 (U 2), .int .i64 (U 3), .int .i64 (U 4), .int .i64 (U 5), .int .i64 (U 6), .int .i64 (U 7), .int .i64 (U 8), .int .i64 (U 9), .int .i64 (U 10), .int .i64 (U 11)] 28)).alloc (.cells #[.int .i64 X, .int .i64 Y, .int .i64 D] 30)) = w0 at *
  generalize w1.heap.size = ab at *
  clear hb1 hb w1
  obtain ⟨c, ec⟩ : ∃ c, clV V U X Y D = c := ⟨_, rfl⟩
  have ec2 : clV U V (-X) (-Y) D = c := (clV_turn V U X Y D).trans ec
  have ga0 : Al w w0 (ab) 12 V := hA.get (x := (ab, 12, V)) (by simp)
  have cax0c0 := (ga0).2.2.1 0 (by omega)
  have cax0f0 := (ga0).2.2.2 0 (by omega)
  have cax0c1 := (ga0).2.2.1 1 (by omega)
  have cax0f1 := (ga0).2.2.2 1 (by omega)
  have cax0c2 := (ga0).2.2.1 2 (by omega)
  have cax0f2 := (ga0).2.2.2 2 (by omega)
  have cax0c3 := (ga0).2.2.1 3 (by omega)
  have cax0f3 := (ga0).2.2.2 3 (by omega)
  have cax0c4 := (ga0).2.2.1 4 (by omega)
  have cax0f4 := (ga0).2.2.2 4 (by omega)
  have cax0c5 := (ga0).2.2.1 5 (by omega)
  have cax0f5 := (ga0).2.2.2 5 (by omega)
  have cax0c6 := (ga0).2.2.1 6 (by omega)
  have cax0f6 := (ga0).2.2.2 6 (by omega)
  have cax0c7 := (ga0).2.2.1 7 (by omega)
  have cax0f7 := (ga0).2.2.2 7 (by omega)
  have cax0c8 := (ga0).2.2.1 8 (by omega)
  have cax0f8 := (ga0).2.2.2 8 (by omega)
  have cax0c9 := (ga0).2.2.1 9 (by omega)
  have cax0f9 := (ga0).2.2.2 9 (by omega)
  have cax0c10 := (ga0).2.2.1 10 (by omega)
  have cax0f10 := (ga0).2.2.2 10 (by omega)
  have cax0c11 := (ga0).2.2.1 11 (by omega)
  have cax0f11 := (ga0).2.2.2 11 (by omega)
  clear ga0
  have ga1 : Al w w0 (ab + 1) 12 U := hA.get (x := (ab + 1, 12, U)) (by simp)
  have cax1c0 := (ga1).2.2.1 0 (by omega)
  have cax1f0 := (ga1).2.2.2 0 (by omega)
  have cax1c1 := (ga1).2.2.1 1 (by omega)
  have cax1f1 := (ga1).2.2.2 1 (by omega)
  have cax1c2 := (ga1).2.2.1 2 (by omega)
  have cax1f2 := (ga1).2.2.2 2 (by omega)
  have cax1c3 := (ga1).2.2.1 3 (by omega)
  have cax1f3 := (ga1).2.2.2 3 (by omega)
  have cax1c4 := (ga1).2.2.1 4 (by omega)
  have cax1f4 := (ga1).2.2.2 4 (by omega)
  have cax1c5 := (ga1).2.2.1 5 (by omega)
  have cax1f5 := (ga1).2.2.2 5 (by omega)
  have cax1c6 := (ga1).2.2.1 6 (by omega)
  have cax1f6 := (ga1).2.2.2 6 (by omega)
  have cax1c7 := (ga1).2.2.1 7 (by omega)
  have cax1f7 := (ga1).2.2.2 7 (by omega)
  have cax1c8 := (ga1).2.2.1 8 (by omega)
  have cax1f8 := (ga1).2.2.2 8 (by omega)
  have cax1c9 := (ga1).2.2.1 9 (by omega)
  have cax1f9 := (ga1).2.2.2 9 (by omega)
  have cax1c10 := (ga1).2.2.1 10 (by omega)
  have cax1f10 := (ga1).2.2.2 10 (by omega)
  have cax1c11 := (ga1).2.2.1 11 (by omega)
  have cax1f11 := (ga1).2.2.2 11 (by omega)
  clear ga1
  have ga2 : Al w w0 (ab + 1 + 1) 3 (fun j => [X, Y, D].getD j 0) := hA.get (x := (ab + 1 + 1, 3, (fun j => [X, Y, D].getD j 0))) (by simp)
  have cax2c0 := (ga2).2.2.1 0 (by omega)
  have cax2f0 := (ga2).2.2.2 0 (by omega)
  have cax2c1 := (ga2).2.2.1 1 (by omega)
  have cax2f1 := (ga2).2.2.2 1 (by omega)
  have cax2c2 := (ga2).2.2.1 2 (by omega)
  have cax2f2 := (ga2).2.2.2 2 (by omega)
  clear ga2
  go_cut [6] (fun s6 wc => s6 = .int .i64 c ∧ AL w wc [(ab + 1 + 1, 3, (fun j => [X, Y, D].getD j 0)), (ab + 1, 12, U), (ab, 12, V)])
  case first =>
    go_wp2_with (go_at_call 7; refine (clo_q V U X Y D c _ (by with_reducible assumption)).mono ?_; rintro e w2 ⟨rfl, hb2⟩)
    go_meet
    exact ⟨rfl, hA.call hb2⟩
  case rest =>
  clear hA cax0c0 cax0f0 cax0c1 cax0f1 cax0c2 cax0f2 cax0c3 cax0f3 cax0c4 cax0f4 cax0c5 cax0f5 cax0c6 cax0f6 cax0c7 cax0f7 cax0c8 cax0f8 cax0c9 cax0f9 cax0c10 cax0f10 cax0c11 cax0f11 cax1c0 cax1f0 cax1c1 cax1f1 cax1c2 cax1f2 cax1c3 cax1f3 cax1c4 cax1f4 cax1c5 cax1f5 cax1c6 cax1f6 cax1c7 cax1f7 cax1c8 cax1f8 cax1c9 cax1f9 cax1c10 cax1f10 cax1c11 cax1f11 cax2c0 cax2f0 cax2c1 cax2f1 cax2c2 cax2f2
  obtain ⟨rfl, hA⟩ := hcut
  have wx := i64w (n := -X) (by omega)
  have wy := i64w (n := -Y) (by omega)
  have gb0 : Al w wc (ab + 1 + 1) 3 (fun j => [X, Y, D].getD j 0) := hA.get (x := (ab + 1 + 1, 3, (fun j => [X, Y, D].getD j 0))) (by simp)
  have cbx0c0 := (gb0).2.2.1 0 (by omega)
  have cbx0f0 := (gb0).2.2.2 0 (by omega)
  have cbx0c1 := (gb0).2.2.1 1 (by omega)
  have cbx0f1 := (gb0).2.2.2 1 (by omega)
  have cbx0c2 := (gb0).2.2.1 2 (by omega)
  have cbx0f2 := (gb0).2.2.2 2 (by omega)
  clear gb0
  go_upto_region 5 with fail
  go_cut [7] (fun s7 wc => ∃ tb : Nat, s7 = .pointer (some ⟨tb, 0, none⟩) ∧ (ab + 1 + 1 < tb) ∧ AL w wc [(tb, 3, (fun j => [(-X), (-Y), D].getD j 0)), (ab + 1 + 1, 3, (fun j => [X, Y, D].getD j 0)), (ab + 1, 12, U), (ab, 12, V)])
  case first =>
    go_wp2_with fail
    go_meet
    have q1 : ab + 1 + 1 < wc.heap.size := hA.lt (x := (ab + 1 + 1, 3, (fun j => [X, Y, D].getD j 0))) (by simp)
    exact ⟨_, rfl, q1, hA.new _ 3 _ rfl (by intro i hi; rcases (show i = 0 ∨ i = 1 ∨ i = 2 by omega) with rfl | rfl | rfl <;> rfl)⟩
  case rest =>
  clear hA wx wy cbx0c0 cbx0f0 cbx0c1 cbx0f1 cbx0c2 cbx0f2
  obtain ⟨tb, rfl, ltb, hA⟩ := hcut
  have gd0 : Al w wc (ab) 12 V := hA.get (x := (ab, 12, V)) (by simp)
  have cdx0c0 := (gd0).2.2.1 0 (by omega)
  have cdx0f0 := (gd0).2.2.2 0 (by omega)
  have cdx0c1 := (gd0).2.2.1 1 (by omega)
  have cdx0f1 := (gd0).2.2.2 1 (by omega)
  have cdx0c2 := (gd0).2.2.1 2 (by omega)
  have cdx0f2 := (gd0).2.2.2 2 (by omega)
  have cdx0c3 := (gd0).2.2.1 3 (by omega)
  have cdx0f3 := (gd0).2.2.2 3 (by omega)
  have cdx0c4 := (gd0).2.2.1 4 (by omega)
  have cdx0f4 := (gd0).2.2.2 4 (by omega)
  have cdx0c5 := (gd0).2.2.1 5 (by omega)
  have cdx0f5 := (gd0).2.2.2 5 (by omega)
  have cdx0c6 := (gd0).2.2.1 6 (by omega)
  have cdx0f6 := (gd0).2.2.2 6 (by omega)
  have cdx0c7 := (gd0).2.2.1 7 (by omega)
  have cdx0f7 := (gd0).2.2.2 7 (by omega)
  have cdx0c8 := (gd0).2.2.1 8 (by omega)
  have cdx0f8 := (gd0).2.2.2 8 (by omega)
  have cdx0c9 := (gd0).2.2.1 9 (by omega)
  have cdx0f9 := (gd0).2.2.2 9 (by omega)
  have cdx0c10 := (gd0).2.2.1 10 (by omega)
  have cdx0f10 := (gd0).2.2.2 10 (by omega)
  have cdx0c11 := (gd0).2.2.1 11 (by omega)
  have cdx0f11 := (gd0).2.2.2 11 (by omega)
  clear gd0
  have gd1 : Al w wc (ab + 1) 12 U := hA.get (x := (ab + 1, 12, U)) (by simp)
  have cdx1c0 := (gd1).2.2.1 0 (by omega)
  have cdx1f0 := (gd1).2.2.2 0 (by omega)
  have cdx1c1 := (gd1).2.2.1 1 (by omega)
  have cdx1f1 := (gd1).2.2.2 1 (by omega)
  have cdx1c2 := (gd1).2.2.1 2 (by omega)
  have cdx1f2 := (gd1).2.2.2 2 (by omega)
  have cdx1c3 := (gd1).2.2.1 3 (by omega)
  have cdx1f3 := (gd1).2.2.2 3 (by omega)
  have cdx1c4 := (gd1).2.2.1 4 (by omega)
  have cdx1f4 := (gd1).2.2.2 4 (by omega)
  have cdx1c5 := (gd1).2.2.1 5 (by omega)
  have cdx1f5 := (gd1).2.2.2 5 (by omega)
  have cdx1c6 := (gd1).2.2.1 6 (by omega)
  have cdx1f6 := (gd1).2.2.2 6 (by omega)
  have cdx1c7 := (gd1).2.2.1 7 (by omega)
  have cdx1f7 := (gd1).2.2.2 7 (by omega)
  have cdx1c8 := (gd1).2.2.1 8 (by omega)
  have cdx1f8 := (gd1).2.2.2 8 (by omega)
  have cdx1c9 := (gd1).2.2.1 9 (by omega)
  have cdx1f9 := (gd1).2.2.2 9 (by omega)
  have cdx1c10 := (gd1).2.2.1 10 (by omega)
  have cdx1f10 := (gd1).2.2.2 10 (by omega)
  have cdx1c11 := (gd1).2.2.1 11 (by omega)
  have cdx1f11 := (gd1).2.2.2 11 (by omega)
  clear gd1
  have gd2 : Al w wc (ab + 1 + 1) 3 (fun j => [X, Y, D].getD j 0) := hA.get (x := (ab + 1 + 1, 3, (fun j => [X, Y, D].getD j 0))) (by simp)
  have cdx2c0 := (gd2).2.2.1 0 (by omega)
  have cdx2f0 := (gd2).2.2.2 0 (by omega)
  have cdx2c1 := (gd2).2.2.1 1 (by omega)
  have cdx2f1 := (gd2).2.2.2 1 (by omega)
  have cdx2c2 := (gd2).2.2.1 2 (by omega)
  have cdx2f2 := (gd2).2.2.2 2 (by omega)
  clear gd2
  have gd3 : Al w wc (tb) 3 (fun j => [(-X), (-Y), D].getD j 0) := hA.get (x := (tb, 3, (fun j => [(-X), (-Y), D].getD j 0))) (by simp)
  have cdx3c0 := (gd3).2.2.1 0 (by omega)
  have cdx3f0 := (gd3).2.2.2 0 (by omega)
  have cdx3c1 := (gd3).2.2.1 1 (by omega)
  have cdx3f1 := (gd3).2.2.2 1 (by omega)
  have cdx3c2 := (gd3).2.2.1 2 (by omega)
  have cdx3f2 := (gd3).2.2.2 2 (by omega)
  clear gd3
  go_upto_region 6 with fail
  go_cut [46] (fun s46 wc => s46 = .bool false ∧ AL w wc [(ab + 1 + 1, 3, (fun j => [X, Y, D].getD j 0)), (ab + 1, 12, U), (ab, 12, V)])
  case first =>
    go_wp2_with (first
    | (go_at_call 7; refine (clo_q U V (-X) (-Y) D _ _ (by with_reducible assumption)).mono ?_; rintro e w4 ⟨rfl, hb4⟩; have hA4 := hA3.call hb4)
    | (go_at_call 8; refine (sclo_q V U X Y D _ _ (by with_reducible assumption)).mono ?_; rintro e w3 ⟨rfl, hb3⟩; have hA3 := hA.call hb3; have ge0 : Al w w3 (ab) 12 V := hA3.get (x := (ab, 12, V)) (by simp); have cex0c0 := (ge0).2.2.1 0 (by omega); have cex0f0 := (ge0).2.2.2 0 (by omega); have cex0c1 := (ge0).2.2.1 1 (by omega); have cex0f1 := (ge0).2.2.2 1 (by omega); have cex0c2 := (ge0).2.2.1 2 (by omega); have cex0f2 := (ge0).2.2.2 2 (by omega); have cex0c3 := (ge0).2.2.1 3 (by omega); have cex0f3 := (ge0).2.2.2 3 (by omega); have cex0c4 := (ge0).2.2.1 4 (by omega); have cex0f4 := (ge0).2.2.2 4 (by omega); have cex0c5 := (ge0).2.2.1 5 (by omega); have cex0f5 := (ge0).2.2.2 5 (by omega); have cex0c6 := (ge0).2.2.1 6 (by omega); have cex0f6 := (ge0).2.2.2 6 (by omega); have cex0c7 := (ge0).2.2.1 7 (by omega); have cex0f7 := (ge0).2.2.2 7 (by omega); have cex0c8 := (ge0).2.2.1 8 (by omega); have cex0f8 := (ge0).2.2.2 8 (by omega); have cex0c9 := (ge0).2.2.1 9 (by omega); have cex0f9 := (ge0).2.2.2 9 (by omega); have cex0c10 := (ge0).2.2.1 10 (by omega); have cex0f10 := (ge0).2.2.2 10 (by omega); have cex0c11 := (ge0).2.2.1 11 (by omega); have cex0f11 := (ge0).2.2.2 11 (by omega); clear ge0; have ge1 : Al w w3 (ab + 1) 12 U := hA3.get (x := (ab + 1, 12, U)) (by simp); have cex1c0 := (ge1).2.2.1 0 (by omega); have cex1f0 := (ge1).2.2.2 0 (by omega); have cex1c1 := (ge1).2.2.1 1 (by omega); have cex1f1 := (ge1).2.2.2 1 (by omega); have cex1c2 := (ge1).2.2.1 2 (by omega); have cex1f2 := (ge1).2.2.2 2 (by omega); have cex1c3 := (ge1).2.2.1 3 (by omega); have cex1f3 := (ge1).2.2.2 3 (by omega); have cex1c4 := (ge1).2.2.1 4 (by omega); have cex1f4 := (ge1).2.2.2 4 (by omega); have cex1c5 := (ge1).2.2.1 5 (by omega); have cex1f5 := (ge1).2.2.2 5 (by omega); have cex1c6 := (ge1).2.2.1 6 (by omega); have cex1f6 := (ge1).2.2.2 6 (by omega); have cex1c7 := (ge1).2.2.1 7 (by omega); have cex1f7 := (ge1).2.2.2 7 (by omega); have cex1c8 := (ge1).2.2.1 8 (by omega); have cex1f8 := (ge1).2.2.2 8 (by omega); have cex1c9 := (ge1).2.2.1 9 (by omega); have cex1f9 := (ge1).2.2.2 9 (by omega); have cex1c10 := (ge1).2.2.1 10 (by omega); have cex1f10 := (ge1).2.2.2 10 (by omega); have cex1c11 := (ge1).2.2.1 11 (by omega); have cex1f11 := (ge1).2.2.2 11 (by omega); clear ge1; have ge2 : Al w w3 (ab + 1 + 1) 3 (fun j => [X, Y, D].getD j 0) := hA3.get (x := (ab + 1 + 1, 3, (fun j => [X, Y, D].getD j 0))) (by simp); have cex2c0 := (ge2).2.2.1 0 (by omega); have cex2f0 := (ge2).2.2.2 0 (by omega); have cex2c1 := (ge2).2.2.1 1 (by omega); have cex2f1 := (ge2).2.2.2 1 (by omega); have cex2c2 := (ge2).2.2.1 2 (by omega); have cex2f2 := (ge2).2.2.2 2 (by omega); clear ge2; have ge3 : Al w w3 (tb) 3 (fun j => [(-X), (-Y), D].getD j 0) := hA3.get (x := (tb, 3, (fun j => [(-X), (-Y), D].getD j 0))) (by simp); have cex3c0 := (ge3).2.2.1 0 (by omega); have cex3f0 := (ge3).2.2.2 0 (by omega); have cex3c1 := (ge3).2.2.1 1 (by omega); have cex3f1 := (ge3).2.2.2 1 (by omega); have cex3c2 := (ge3).2.2.1 2 (by omega); have cex3f2 := (ge3).2.2.2 2 (by omega); clear ge3))
    go_meet
    exact ⟨rfl, hA4.sub (by intro x hx; simp only [List.mem_cons, List.not_mem_nil, or_false] at hx; rcases hx with rfl | rfl | rfl <;> simp)⟩
  case rest =>
  clear hA ec ec2 cdx0c0 cdx0f0 cdx0c1 cdx0f1 cdx0c2 cdx0f2 cdx0c3 cdx0f3 cdx0c4 cdx0f4 cdx0c5 cdx0f5 cdx0c6 cdx0f6 cdx0c7 cdx0f7 cdx0c8 cdx0f8 cdx0c9 cdx0f9 cdx0c10 cdx0f10 cdx0c11 cdx0f11 cdx1c0 cdx1f0 cdx1c1 cdx1f1 cdx1c2 cdx1f2 cdx1c3 cdx1f3 cdx1c4 cdx1f4 cdx1c5 cdx1f5 cdx1c6 cdx1f6 cdx1c7 cdx1f7 cdx1c8 cdx1f8 cdx1c9 cdx1f9 cdx1c10 cdx1f10 cdx1c11 cdx1f11 cdx2c0 cdx2f0 cdx2c1 cdx2f1 cdx2c2 cdx2f2 cdx3c0 cdx3f0 cdx3c1 cdx3f1 cdx3c2 cdx3f2
  obtain ⟨rfl, hA⟩ := hcut
  have gf0 : Al w wc (ab) 12 V := hA.get (x := (ab, 12, V)) (by simp)
  have cfx0c0 := (gf0).2.2.1 0 (by omega)
  have cfx0f0 := (gf0).2.2.2 0 (by omega)
  have cfx0c1 := (gf0).2.2.1 1 (by omega)
  have cfx0f1 := (gf0).2.2.2 1 (by omega)
  have cfx0c2 := (gf0).2.2.1 2 (by omega)
  have cfx0f2 := (gf0).2.2.2 2 (by omega)
  have cfx0c3 := (gf0).2.2.1 3 (by omega)
  have cfx0f3 := (gf0).2.2.2 3 (by omega)
  have cfx0c4 := (gf0).2.2.1 4 (by omega)
  have cfx0f4 := (gf0).2.2.2 4 (by omega)
  have cfx0c5 := (gf0).2.2.1 5 (by omega)
  have cfx0f5 := (gf0).2.2.2 5 (by omega)
  have cfx0c6 := (gf0).2.2.1 6 (by omega)
  have cfx0f6 := (gf0).2.2.2 6 (by omega)
  have cfx0c7 := (gf0).2.2.1 7 (by omega)
  have cfx0f7 := (gf0).2.2.2 7 (by omega)
  have cfx0c8 := (gf0).2.2.1 8 (by omega)
  have cfx0f8 := (gf0).2.2.2 8 (by omega)
  have cfx0c9 := (gf0).2.2.1 9 (by omega)
  have cfx0f9 := (gf0).2.2.2 9 (by omega)
  have cfx0c10 := (gf0).2.2.1 10 (by omega)
  have cfx0f10 := (gf0).2.2.2 10 (by omega)
  have cfx0c11 := (gf0).2.2.1 11 (by omega)
  have cfx0f11 := (gf0).2.2.2 11 (by omega)
  clear gf0
  go_upto_region 8 with fail
  go_cut [] (fun wc => ∃ V : Nat → Int, Shut (V 6 = 0 ∧ V 7 = 0) ∧ AL w wc [(ab, 12, V), (ab + 1 + 1, 3, (fun j => [X, Y, D].getD j 0)), (ab + 1, 12, U)])
  case first =>
    go_wp2_with fail
    go_meet
    exact ⟨_, ⟨rfl, rfl⟩, ((hA.sub (M := [(ab, 12, V), (ab + 1 + 1, 3, (fun j => [X, Y, D].getD j 0)), (ab + 1, 12, U)]) (by intro x hx; simp only [List.mem_cons, List.not_mem_nil, or_false] at hx; rcases hx with rfl | rfl | rfl <;> simp)).set (by intro x hx; simp only [List.mem_cons, List.not_mem_nil, or_false] at hx; rcases hx with rfl | rfl <;> dsimp only <;> omega) 6 (by omega) 0).set (by intro x hx; simp only [List.mem_cons, List.not_mem_nil, or_false] at hx; rcases hx with rfl | rfl <;> dsimp only <;> omega) 7 (by omega) 0⟩
  case rest =>
  clear hA V cfx0c0 cfx0f0 cfx0c1 cfx0f1 cfx0c2 cfx0f2 cfx0c3 cfx0f3 cfx0c4 cfx0f4 cfx0c5 cfx0f5 cfx0c6 cfx0f6 cfx0c7 cfx0f7 cfx0c8 cfx0f8 cfx0c9 cfx0f9 cfx0c10 cfx0f10 cfx0c11 cfx0f11
  obtain ⟨V, hV, hA⟩ := hcut
  have gg0 : Al w wc (ab + 1) 12 U := hA.get (x := (ab + 1, 12, U)) (by simp)
  have cgx0c0 := (gg0).2.2.1 0 (by omega)
  have cgx0f0 := (gg0).2.2.2 0 (by omega)
  have cgx0c1 := (gg0).2.2.1 1 (by omega)
  have cgx0f1 := (gg0).2.2.2 1 (by omega)
  have cgx0c2 := (gg0).2.2.1 2 (by omega)
  have cgx0f2 := (gg0).2.2.2 2 (by omega)
  have cgx0c3 := (gg0).2.2.1 3 (by omega)
  have cgx0f3 := (gg0).2.2.2 3 (by omega)
  have cgx0c4 := (gg0).2.2.1 4 (by omega)
  have cgx0f4 := (gg0).2.2.2 4 (by omega)
  have cgx0c5 := (gg0).2.2.1 5 (by omega)
  have cgx0f5 := (gg0).2.2.2 5 (by omega)
  have cgx0c6 := (gg0).2.2.1 6 (by omega)
  have cgx0f6 := (gg0).2.2.2 6 (by omega)
  have cgx0c7 := (gg0).2.2.1 7 (by omega)
  have cgx0f7 := (gg0).2.2.2 7 (by omega)
  have cgx0c8 := (gg0).2.2.1 8 (by omega)
  have cgx0f8 := (gg0).2.2.2 8 (by omega)
  have cgx0c9 := (gg0).2.2.1 9 (by omega)
  have cgx0f9 := (gg0).2.2.2 9 (by omega)
  have cgx0c10 := (gg0).2.2.1 10 (by omega)
  have cgx0f10 := (gg0).2.2.2 10 (by omega)
  have cgx0c11 := (gg0).2.2.1 11 (by omega)
  have cgx0f11 := (gg0).2.2.2 11 (by omega)
  clear gg0
  go_upto_region 9 with fail
  go_cut [] (fun wc => ∃ U : Nat → Int, Shut (U 6 = 0 ∧ U 7 = 0) ∧ AL w wc [(ab + 1, 12, U), (ab, 12, V), (ab + 1 + 1, 3, (fun j => [X, Y, D].getD j 0))])
  case first =>
    go_wp2_with fail
    go_meet
    exact ⟨_, ⟨rfl, rfl⟩, ((hA.sub (M := [(ab + 1, 12, U), (ab, 12, V), (ab + 1 + 1, 3, (fun j => [X, Y, D].getD j 0))]) (by intro x hx; simp only [List.mem_cons, List.not_mem_nil, or_false] at hx; rcases hx with rfl | rfl | rfl <;> simp)).set (by intro x hx; simp only [List.mem_cons, List.not_mem_nil, or_false] at hx; rcases hx with rfl | rfl <;> dsimp only <;> omega) 6 (by omega) 0).set (by intro x hx; simp only [List.mem_cons, List.not_mem_nil, or_false] at hx; rcases hx with rfl | rfl <;> dsimp only <;> omega) 7 (by omega) 0⟩
  case rest =>
  clear hA U cgx0c0 cgx0f0 cgx0c1 cgx0f1 cgx0c2 cgx0f2 cgx0c3 cgx0f3 cgx0c4 cgx0f4 cgx0c5 cgx0f5 cgx0c6 cgx0f6 cgx0c7 cgx0f7 cgx0c8 cgx0f8 cgx0c9 cgx0f9 cgx0c10 cgx0f10 cgx0c11 cgx0f11
  obtain ⟨U, hU, hA⟩ := hcut
  have gh0 : Al w wc (ab) 12 V := hA.get (x := (ab, 12, V)) (by simp)
  have chx0c0 := (gh0).2.2.1 0 (by omega)
  have chx0f0 := (gh0).2.2.2 0 (by omega)
  have chx0c1 := (gh0).2.2.1 1 (by omega)
  have chx0f1 := (gh0).2.2.2 1 (by omega)
  have chx0c2 := (gh0).2.2.1 2 (by omega)
  have chx0f2 := (gh0).2.2.2 2 (by omega)
  have chx0c3 := (gh0).2.2.1 3 (by omega)
  have chx0f3 := (gh0).2.2.2 3 (by omega)
  have chx0c4 := (gh0).2.2.1 4 (by omega)
  have chx0f4 := (gh0).2.2.2 4 (by omega)
  have chx0c5 := (gh0).2.2.1 5 (by omega)
  have chx0f5 := (gh0).2.2.2 5 (by omega)
  have chx0c6 := (gh0).2.2.1 6 (by omega)
  have chx0f6 := (gh0).2.2.2 6 (by omega)
  have chx0c7 := (gh0).2.2.1 7 (by omega)
  have chx0f7 := (gh0).2.2.2 7 (by omega)
  have chx0c8 := (gh0).2.2.1 8 (by omega)
  have chx0f8 := (gh0).2.2.2 8 (by omega)
  have chx0c9 := (gh0).2.2.1 9 (by omega)
  have chx0f9 := (gh0).2.2.2 9 (by omega)
  have chx0c10 := (gh0).2.2.1 10 (by omega)
  have chx0f10 := (gh0).2.2.2 10 (by omega)
  have chx0c11 := (gh0).2.2.1 11 (by omega)
  have chx0f11 := (gh0).2.2.2 11 (by omega)
  clear gh0
  have gh1 : Al w wc (ab + 1) 12 U := hA.get (x := (ab + 1, 12, U)) (by simp)
  have chx1c0 := (gh1).2.2.1 0 (by omega)
  have chx1f0 := (gh1).2.2.2 0 (by omega)
  have chx1c1 := (gh1).2.2.1 1 (by omega)
  have chx1f1 := (gh1).2.2.2 1 (by omega)
  have chx1c2 := (gh1).2.2.1 2 (by omega)
  have chx1f2 := (gh1).2.2.2 2 (by omega)
  have chx1c3 := (gh1).2.2.1 3 (by omega)
  have chx1f3 := (gh1).2.2.2 3 (by omega)
  have chx1c4 := (gh1).2.2.1 4 (by omega)
  have chx1f4 := (gh1).2.2.2 4 (by omega)
  have chx1c5 := (gh1).2.2.1 5 (by omega)
  have chx1f5 := (gh1).2.2.2 5 (by omega)
  have chx1c6 := (gh1).2.2.1 6 (by omega)
  have chx1f6 := (gh1).2.2.2 6 (by omega)
  have chx1c7 := (gh1).2.2.1 7 (by omega)
  have chx1f7 := (gh1).2.2.2 7 (by omega)
  have chx1c8 := (gh1).2.2.1 8 (by omega)
  have chx1f8 := (gh1).2.2.2 8 (by omega)
  have chx1c9 := (gh1).2.2.1 9 (by omega)
  have chx1f9 := (gh1).2.2.2 9 (by omega)
  have chx1c10 := (gh1).2.2.1 10 (by omega)
  have chx1f10 := (gh1).2.2.2 10 (by omega)
  have chx1c11 := (gh1).2.2.1 11 (by omega)
  have chx1f11 := (gh1).2.2.2 11 (by omega)
  clear gh1
  have gh2 : Al w wc (ab + 1 + 1) 3 (fun j => [X, Y, D].getD j 0) := hA.get (x := (ab + 1 + 1, 3, (fun j => [X, Y, D].getD j 0))) (by simp)
  have chx2c0 := (gh2).2.2.1 0 (by omega)
  have chx2f0 := (gh2).2.2.2 0 (by omega)
  have chx2c1 := (gh2).2.2.1 1 (by omega)
  have chx2f1 := (gh2).2.2.2 1 (by omega)
  have chx2c2 := (gh2).2.2.1 2 (by omega)
  have chx2f2 := (gh2).2.2.2 2 (by omega)
  clear gh2
  have ez : Shut (clV V U X Y D = 0) := clV_zero X Y D hV.out hU.out
  go_wp2_with (go_at_call 7; refine (clo_q V U X Y D 0 _ ez.out).mono ?_; rintro e w5 ⟨rfl, hb5⟩)
  go_ret
  exact ⟨rfl, (hA.call hb5).bel⟩
end Go.Proofs.Ytpgoicdblbpcaaa
namespace Go.Proofs.Ytpgoicdblbpcaaa
open Go.ChangeShapes Go.WideShapes Go.ChangeAt Go.RowKit Go.Joins
set_option linter.unusedVariables false
theorem fnClosing_closed : joinedFacts Try.prog 3 Try.f3 Rows.fnClosingSpec Rows.fnClosingRow = true := by
  unfold joinedFacts
  rw [mayEnterT, liftsFinalT, makeT, laidOutT, mapsRowedT, stopsHeardT, plainKeysT]
  kernel_rfl

set_option maxRecDepth 100000 in
theorem fnClosing_lifted (os : Os) (started : os.Started) (H : Type) (enc : TypeId × Value → H) :
    ReturnsInHanded {} Try.checked os 3 .any (Rows.fnClosingSpec.pre6 enc Try.prog Try.f3 Rows.fnClosingRow.domain false) (Rows.fnClosingSpec.post enc Try.prog Try.f3 false true false false) := by
  refine returnsInHanded_of_change (C := Try.checked) ownT started (by kernel_rfl) Try.func3
    (ChangeSpec.witness6 (enc := enc) (C := Try.checked) false ⟨#[], #[.slice none 0 0], []⟩ 8 (by kernel_rfl) (by kernel_rfl) (by kernel_rfl) (by kernel_rfl)) ?_
  intro W base args ds gs before hval0 hW hcnd _
  have hval : ∀ (j : Nat) t v, Try.f3.params[j]? = some t → args[j]? = some v → Value.okWide Try.prog W .any base t v := hval0
  have hW' := hW
  obtain ⟨p, q, hA0, hV, rfl, hfz, hnd⟩ := hW
  have hA : DataW.TrodAll enc Try.prog W 0 (fun _ => true) true Try.f3.params.toList args.toList ds p := hA0
  rw [Try.params3] at hA hval
  obtain ⟨v0, vs0, d0, ds0, p0, q0, hargs, rfl, rfl, h0, r0⟩ := trodAll_cons hA
  obtain ⟨rfl, rfl, rfl⟩ := trodAll_nil r0
  obtain rfl : args = #[v0] := by cases args; simp_all
  obtain ⟨rfl, rfl⟩ := trodVars_none hV
  obtain ⟨a0, len0, cap0, rfl⟩ := okWide_slice Try.underlying22 (hval 0 22 v0 rfl rfl)
  have k0 := h0
  have lt0 : ∀ x ∈ p0, x.block < W.heap.size := by obtain ⟨m, hm⟩ := k0; exact DataW.trod_lt m _ _ _ hm
  have w0 : Bytes W a0 len0 cap0 := by
    obtain ⟨fuel, hf⟩ := h0
    rcases open_ints Try.underlying22 Try.underlying5 (by kernel_rfl) hf with ⟨hcs, _⟩ | ⟨x, l, c, zs, hcs, _, hl, hm, hz, _, hcell, hwz⟩
    · simp [Value.cells] at hcs
      obtain ⟨rfl, rfl, rfl⟩ := hcs
      exact Bytes.nil W
    · simp [Value.cells] at hcs
      obtain ⟨rfl, rfl, rfl⟩ := hcs
      exact Bytes.of hl (by simpa using hz) hcell hwz
  clear hA0 hval0
  refine (fnClosing_walk _ _ _ W w0).mono fun e W' ⟨he, bel⟩ => ?_
  subst he
  exact ⟨_, rfl, _, _, _, [], _, [], hW', trodAll_mk1 (shut_bool Try.underlying4 _), (trodAll_cons_mk (Below.trod laidOutT (by kernel_rfl) (of_decide_eq_true (by kernel_rfl)) k0 bel lt0) trodAll_mk0), rfl, bel.frame _, fun h => by cases h⟩

theorem fnClosing_over : Rows.fnClosingRow.holds Try.pinned (OpenSpec.ofChange Rows.fnClosingSpec) :=
  OpenClaim.holds_of_wide 3 Try.f3 rfl rfl rfl rfl rfl rfl rfl ⟨rfl, rfl, rfl, rfl, rfl⟩ rfl rfl rfl rfl rfl (by kernel_rfl) Try.func3 fnClosing_closed
    (of_decide_eq_true (by kernel_rfl)) (by unfold Func.isWrapper; first | (rw [if_pos (by decide +kernel)]; kernel_rfl) | (rw [if_neg (by decide +kernel)]; exact ⟨rfl, rfl⟩))
    (fun os started H enc _ => fnClosing_lifted os started H enc)

theorem fnClosing_proved : Rows.FnClosingSaid := fnClosing_over
#print axioms fnClosing_proved
end Go.Proofs.Ytpgoicdblbpcaaa
