/- Only what comes nearer is pushed, and away from the other one. -/
import Derived.Test.YtpgoicdblbpcaaaPuAll
import Derived.Test.YtpgoicdblbpcaaaTwAll
import Derived.Deep.RegionHeld3
import Derived.Deep.DeepCutAuto
import Derived.Test.YtpgoicdblbpcaaaPqAbs
import Derived.Handy
import Derived.Test.YtpgoicdblbpcaaaFacts
import Derived.ProofKit
import Derived.OpenShut
import Derived.ShutString
import Derived.ChangeOld
import Derived.Lib.SmallJoins
namespace Go.Proofs.Ytpgoicdblbpcaaa
open Go.RowKit
set_option linter.unusedVariables false
set_option linter.unusedSimpArgs false
theorem tdiv_mono {a b m : Int} (h0 : 0 ≤ a) (h : a ≤ b) (hm : 0 ≤ m) : 0 ≤ a.tdiv m ∧ a.tdiv m ≤ b.tdiv m := by
  rw [Int.tdiv_eq_ediv_of_nonneg h0, Int.tdiv_eq_ediv_of_nonneg (by omega)]
  rcases (show m = 0 ∨ 0 < m by omega) with rfl | hm
  · simp
  · exact ⟨Int.ediv_nonneg h0 (by omega), Int.ediv_le_ediv hm h⟩
theorem tog_mono {V1 V2 : Nat → Int} {a b : Int} (h1 : 0 ≤ V1 8) (h2 : 0 ≤ V2 8) (h0 : 0 ≤ a) (h : a ≤ b) : 0 ≤ togV V1 V2 a ∧ togV V1 V2 a ≤ togV V1 V2 b := by
  unfold togV
  split
  · exact ⟨Int.mul_nonneg h0 (by omega), Int.mul_le_mul_of_nonneg_right h (by omega)⟩
  · refine tdiv_mono (Int.mul_nonneg (Int.mul_nonneg h0 h1) h2) ?_ (by omega)
    exact Int.mul_le_mul_of_nonneg_right (Int.mul_le_mul_of_nonneg_right h h1) h2
theorem clamp0 (n : Int) : clampZ 0 n = 0 := by unfold clampZ; repeat' split <;> omega
/-- a way as often: on its side, and the oftener the further -/
theorem push_side {a b x : Int} (h0 : 0 ≤ a) (h : a ≤ b) : 0 ≤ clampZ 20000000 ((a * x).tdiv 256) * x ∧ absZ (clampZ 20000000 ((a * x).tdiv 256)) ≤ absZ (clampZ 20000000 ((b * x).tdiv 256)) := by
  rcases Int.le_total 0 x with hx | hx
  · have p0 := Int.mul_nonneg h0 hx
    have p1 := Int.mul_le_mul_of_nonneg_right h hx
    obtain ⟨q0, q1⟩ := tdiv_mono p0 p1 (show (0 : Int) ≤ 256 by decide)
    have c0 : 0 ≤ clampZ 20000000 ((a * x).tdiv 256) := by unfold clampZ; repeat' split <;> omega
    refine ⟨Int.mul_nonneg c0 hx, ?_⟩
    unfold absZ clampZ; repeat' split <;> omega
  · have p0 := Int.mul_nonneg h0 (show 0 ≤ -x by omega)
    have p1 := Int.mul_le_mul_of_nonneg_right h (show 0 ≤ -x by omega)
    obtain ⟨q0, q1⟩ := tdiv_mono p0 p1 (show (0 : Int) ≤ 256 by decide)
    have e1 : (a * -x).tdiv 256 = -((a * x).tdiv 256) := by rw [Int.mul_neg, Int.neg_tdiv]
    have e2 : (b * -x).tdiv 256 = -((b * x).tdiv 256) := by rw [Int.mul_neg, Int.neg_tdiv]
    rw [e1] at q0 q1
    rw [e2] at q1
    have c0 : clampZ 20000000 ((a * x).tdiv 256) ≤ 0 := by unfold clampZ; repeat' split <;> omega
    refine ⟨?_, ?_⟩
    · have := Int.mul_nonneg (show 0 ≤ -clampZ 20000000 ((a * x).tdiv 256) by omega) (show 0 ≤ -x by omega)
      rw [Int.neg_mul_neg] at this
      exact this
    · unfold absZ clampZ; repeat' split <;> omega
theorem push_law {V1 V2 : Nat → Int} {x y : Int} (hc : 0 < closeV V1 V2 x y) (h1 : 0 ≤ V1 8) (h2 : 0 ≤ V2 8) (k1 : 0 ≤ V1 9) (k2 : 0 ≤ V2 9) (r1 : V1 10 = 0) (r2 : 0 ≤ V2 10) :
    (0 ≤ puX V1 V2 x y false * x ∧ 0 ≤ puY V1 V2 x y false * y) ∧ absZ (puX V1 V2 x y false) ≤ absZ (puX V1 V2 x y true) ∧ absZ (puY V1 V2 x y false) ≤ absZ (puY V1 V2 x y true) := by
  have hr : mnR V1 V2 = 0 := by unfold mnR; split <;> omega
  have hA : ∀ bo, pA V1 V2 x y bo = 0 := by intro bo; unfold pA pM; rw [hr, Int.mul_zero, Int.zero_tdiv, clamp0]
  have hm : 0 ≤ mxB V1 V2 := by unfold mxB; split <;> omega
  have hN : pN V1 V2 x y false ≤ pN V1 V2 x y true := by
    unfold pN
    have := (tdiv_mono (a := 0) (b := closeV V1 V2 x y * mxB V1 V2) (m := 256) (by omega) (Int.mul_nonneg (by omega) hm) (by decide)).2
    rw [Int.zero_tdiv] at this
    simp only [cond_true, cond_false]
    omega
  have hP := tog_mono (V1 := V1) (V2 := V2) (a := pN V1 V2 x y false) (b := pN V1 V2 x y true) h1 h2 (by unfold pN; simp only [cond_false]; omega) hN
  have hc' : ¬ closeV V1 V2 x y ≤ 0 := by omega
  have eX : ∀ bo, puX V1 V2 x y bo = clampZ 20000000 ((pP V1 V2 x y bo * x).tdiv 256) := by intro bo; unfold puX; rw [if_neg hc', hA, Int.zero_mul, Int.add_zero]
  have eY : ∀ bo, puY V1 V2 x y bo = clampZ 20000000 ((pP V1 V2 x y bo * y).tdiv 256) := by intro bo; unfold puY; rw [if_neg hc', hA, Int.zero_mul, Int.add_zero]
  rw [eX, eX, eY, eY]
  have sx := push_side (x := x) (a := pP V1 V2 x y false) (b := pP V1 V2 x y true) hP.1 hP.2
  have sy := push_side (x := y) (a := pP V1 V2 x y false) (b := pP V1 V2 x y true) hP.1 hP.2
  exact ⟨⟨sx.1, sy.1⟩, sx.2, sy.2⟩
end Go.Proofs.Ytpgoicdblbpcaaa
namespace Go.Proofs.Ytpgoicdblbpcaaa
open Go.RowKit
set_option linter.unusedVariables false
set_option linter.unusedSimpArgs false

def HNn (X Y D n : Int) : Prop := HN X Y D
theorem AL.headc {w w' : World} {b n : Nat} {V U : Nat → Int} {L : Bls} (h : AL w w' ((b, n, V) :: L)) (k : ∀ i, i < n → V i = U i) : AL w w' ((b, n, U) :: L) := by
  refine ⟨h.bel, fun x hx => ?_⟩
  rcases List.mem_cons.mp hx with rfl | hx
  · exact (h.al _ (List.mem_cons_self ..)).congr k
  · exact h.al x (List.mem_cons_of_mem _ hx)
set_option maxRecDepth 20000 in
set_option maxHeartbeats 16000000 in
theorem drawPushOf_any (a : Option Addr) (len cap : Nat) (w : World) (hb : Bytes w a len cap) :
    Calls Try.prog 9 #[.slice a len cap] w fun e w' => ∃ (V U : Nat → Int) (X Y D n : Int), e = .returned (.tuple #[bodyW V, bodyW U, s3 X Y D, .bool (n == 0)]) ∧ HNn X Y D n ∧ Below w.heap.size w w' := by
  have hset := cset_map
  have hal : AL w (((w.alloc (.cells #[.int .i64 0, .int .i64 0, .int .i64 0, .int .i64 0, .int .i64 0, .int .i64 0, .int .i64 0, .int .i64 0, .int .i64 0, .int .i64 0, .int .i64 0, .int .i64 0] 28)).alloc (.cells #[.int .i64 0, .int .i64 0, .int .i64 0, .int .i64 0, .int .i64 0, .int .i64 0, .int .i64 0, .int .i64 0, .int .i64 0, .int .i64 0, .int .i64 0, .int .i64 0] 28)).alloc (.cells #[.int .i64 0, .int .i64 0, .int .i64 0] 30)) [(w.heap.size + 1 + 1, 3, (fun _ => 0)), (w.heap.size + 1, 12, (fun _ => 0)), (w.heap.size, 12, (fun _ => 0))] := ((((AL.nil w).new (w.heap.size) 12 (fun _ => 0) (by simp) (by intro i hi; rcases (show i = 0 ∨ i = 1 ∨ i = 2 ∨ i = 3 ∨ i = 4 ∨ i = 5 ∨ i = 6 ∨ i = 7 ∨ i = 8 ∨ i = 9 ∨ i = 10 ∨ i = 11 by omega) with rfl | rfl | rfl | rfl | rfl | rfl | rfl | rfl | rfl | rfl | rfl | rfl <;> rfl)).new (w.heap.size + 1) 12 (fun _ => 0) (by simp) (by intro i hi; rcases (show i = 0 ∨ i = 1 ∨ i = 2 ∨ i = 3 ∨ i = 4 ∨ i = 5 ∨ i = 6 ∨ i = 7 ∨ i = 8 ∨ i = 9 ∨ i = 10 ∨ i = 11 by omega) with rfl | rfl | rfl | rfl | rfl | rfl | rfl | rfl | rfl | rfl | rfl | rfl <;> rfl)).new (w.heap.size + 1 + 1) 3 (fun _ => 0) (by simp) (by intro i hi; rcases (show i = 0 ∨ i = 1 ∨ i = 2 by omega) with rfl | rfl | rfl <;> rfl))
  have hb' := hb.below hal.bel
  go_enter Try.func9, Try.ntmps9
  go_upto_region 1 with fail
  generalize (((w.alloc (.cells #[.int .i64 0, .int .i64 0, .int .i64 0, .int .i64 0, .int .i64 0, .int .i64 0, .int .i64 0, .int .i64 0, .int .i64 0, .int .i64 0, .int .i64 0, .int .i64 0] 28)).alloc (.cells #[.int .i64 0, .int .i64 0, .int .i64 0, .int .i64 0, .int .i64 0, .int .i64 0, .int .i64 0, .int .i64 0, .int .i64 0, .int .i64 0, .int .i64 0, .int .i64 0] 28)).alloc (.cells #[.int .i64 0, .int .i64 0, .int .i64 0] 30)) = w0 at *
  go_cut [6] (fun s6 wc => s6 = .pointer (some ⟨w0.heap.size, 0, none⟩) ∧ DL w wc w0.heap.size 0 [(w.heap.size + 1 + 1, 3, (fun _ => 0)), (w.heap.size + 1, 12, (fun _ => 0)), (w.heap.size, 12, (fun _ => 0))])
  case first =>
    go_wp2_with (go_at_call 16; refine (l1Open_rb _ _ _ _ hb').mono ?_; rintro e w1 ⟨rfl, hr1, hbel⟩)
    go_meet
    exact ⟨rfl, hal.opened hbel (RS.of hr1)⟩
  case rest =>
  have hsz : w.heap.size + 1 + 1 < w0.heap.size := hal.lt (x := (w.heap.size + 1 + 1, 3, (fun _ => 0))) (by simp)
  clear hal hb' hb
  obtain ⟨rfl, hD⟩ := hcut
  go_upto_region 2 with fail
  go_cut [7, 8, 9] (fun s7 s8 s9 wc => ∃ (ab bb hb : Nat) (V U : Nat → Int) (X Y D : Int), s7 = .pointer (some ⟨ab, 0, none⟩) ∧ s8 = .pointer (some ⟨bb, 0, none⟩) ∧ s9 = .pointer (some ⟨hb, 0, none⟩) ∧ HN X Y D ∧ (w0.heap.size < ab ∧ ab < bb ∧ bb < hb) ∧ DL w wc w0.heap.size 8000 [(hb, 3, (fun j => [X, Y, D].getD j 0)), (bb, 12, U), (ab, 12, V), (w.heap.size + 1 + 1, 3, (fun _ => 0)), (w.heap.size + 1, 12, (fun _ => 0)), (w.heap.size, 12, (fun _ => 0))])
  case first =>
    go_wp2_with (go_at_call 15; refine (l11Two_s w0.heap.size 0 _ (by exact hD.rs) (by omega)).mono ?_; rintro e w2 ⟨V, U, X, Y, D, rfl, hXY, hr2⟩)
    go_meet
    have hD2 := (hD.call hr2).mono (p1 := 8000) (by omega)
    have q0 := hD2.rs.lt
    refine ⟨_, _, _, V, U, X, Y, D, rfl, rfl, rfl, hXY, ⟨q0, by simp, by simp⟩, ?_⟩
    have h3 := ((hD2.new 12 V (t := 28) (cs := #[.int .i64 (V 0), .int .i64 (V 1), .int .i64 (V 2), .int .i64 (V 3), .int .i64 (V 4), .int .i64 (V 5), .int .i64 (V 6), .int .i64 (V 7), .int .i64 (V 8), .int .i64 (V 9), .int .i64 (V 10), .int .i64 (V 11)]) (by intro i hi; rcases (show i = 0 ∨ i = 1 ∨ i = 2 ∨ i = 3 ∨ i = 4 ∨ i = 5 ∨ i = 6 ∨ i = 7 ∨ i = 8 ∨ i = 9 ∨ i = 10 ∨ i = 11 by omega) with rfl | rfl | rfl | rfl | rfl | rfl | rfl | rfl | rfl | rfl | rfl | rfl <;> rfl)).new 12 U (t := 28) (cs := #[.int .i64 (U 0), .int .i64 (U 1), .int .i64 (U 2), .int .i64 (U 3), .int .i64 (U 4), .int .i64 (U 5), .int .i64 (U 6), .int .i64 (U 7), .int .i64 (U 8), .int .i64 (U 9), .int .i64 (U 10), .int .i64 (U 11)]) (by intro i hi; rcases (show i = 0 ∨ i = 1 ∨ i = 2 ∨ i = 3 ∨ i = 4 ∨ i = 5 ∨ i = 6 ∨ i = 7 ∨ i = 8 ∨ i = 9 ∨ i = 10 ∨ i = 11 by omega) with rfl | rfl | rfl | rfl | rfl | rfl | rfl | rfl | rfl | rfl | rfl | rfl <;> rfl)).new 3 (fun j => [X, Y, D].getD j 0) (t := 30) (cs := #[.int .i64 X, .int .i64 Y, .int .i64 D]) (by intro i hi; rcases (show i = 0 ∨ i = 1 ∨ i = 2 by omega) with rfl | rfl | rfl <;> rfl)
    simpa only [World.size_alloc] using h3
  case rest =>
  clear hD
  obtain ⟨ab, bb, hb, V, U, X, Y, D, rfl, rfl, rfl, hXY, ⟨l1, l2, l3⟩, hD⟩ := hcut
  have n0x1 : (ab = bb) = False := eq_false (by omega)
  have n0x2 : (ab = hb) = False := eq_false (by omega)
  have n0x3 : (ab = w.heap.size) = False := eq_false (by omega)
  have n0x4 : (ab = w.heap.size + 1) = False := eq_false (by omega)
  have n0x5 : (ab = w.heap.size + 1 + 1) = False := eq_false (by omega)
  have n1x0 : (bb = ab) = False := eq_false (by omega)
  have n1x2 : (bb = hb) = False := eq_false (by omega)
  have n1x3 : (bb = w.heap.size) = False := eq_false (by omega)
  have n1x4 : (bb = w.heap.size + 1) = False := eq_false (by omega)
  have n1x5 : (bb = w.heap.size + 1 + 1) = False := eq_false (by omega)
  have n2x0 : (hb = ab) = False := eq_false (by omega)
  have n2x1 : (hb = bb) = False := eq_false (by omega)
  have n2x3 : (hb = w.heap.size) = False := eq_false (by omega)
  have n2x4 : (hb = w.heap.size + 1) = False := eq_false (by omega)
  have n2x5 : (hb = w.heap.size + 1 + 1) = False := eq_false (by omega)
  have n3x0 : (w.heap.size = ab) = False := eq_false (by omega)
  have n3x1 : (w.heap.size = bb) = False := eq_false (by omega)
  have n3x2 : (w.heap.size = hb) = False := eq_false (by omega)
  have n3x4 : (w.heap.size = w.heap.size + 1) = False := eq_false (by omega)
  have n3x5 : (w.heap.size = w.heap.size + 1 + 1) = False := eq_false (by omega)
  have n4x0 : (w.heap.size + 1 = ab) = False := eq_false (by omega)
  have n4x1 : (w.heap.size + 1 = bb) = False := eq_false (by omega)
  have n4x2 : (w.heap.size + 1 = hb) = False := eq_false (by omega)
  have n4x3 : (w.heap.size + 1 = w.heap.size) = False := eq_false (by omega)
  have n4x5 : (w.heap.size + 1 = w.heap.size + 1 + 1) = False := eq_false (by omega)
  have n5x0 : (w.heap.size + 1 + 1 = ab) = False := eq_false (by omega)
  have n5x1 : (w.heap.size + 1 + 1 = bb) = False := eq_false (by omega)
  have n5x2 : (w.heap.size + 1 + 1 = hb) = False := eq_false (by omega)
  have n5x3 : (w.heap.size + 1 + 1 = w.heap.size) = False := eq_false (by omega)
  have n5x4 : (w.heap.size + 1 + 1 = w.heap.size + 1) = False := eq_false (by omega)
  have gk0 : Al w wc (ab) 12 V := hD.get (x := (ab, 12, V)) (by simp)
  have ckx0c0 := (gk0).2.2.1 0 (by omega)
  have ckx0f0 := (gk0).2.2.2 0 (by omega)
  have ckx0c1 := (gk0).2.2.1 1 (by omega)
  have ckx0f1 := (gk0).2.2.2 1 (by omega)
  have ckx0c2 := (gk0).2.2.1 2 (by omega)
  have ckx0f2 := (gk0).2.2.2 2 (by omega)
  have ckx0c3 := (gk0).2.2.1 3 (by omega)
  have ckx0f3 := (gk0).2.2.2 3 (by omega)
  have ckx0c4 := (gk0).2.2.1 4 (by omega)
  have ckx0f4 := (gk0).2.2.2 4 (by omega)
  have ckx0c5 := (gk0).2.2.1 5 (by omega)
  have ckx0f5 := (gk0).2.2.2 5 (by omega)
  have ckx0c6 := (gk0).2.2.1 6 (by omega)
  have ckx0f6 := (gk0).2.2.2 6 (by omega)
  have ckx0c7 := (gk0).2.2.1 7 (by omega)
  have ckx0f7 := (gk0).2.2.2 7 (by omega)
  have ckx0c8 := (gk0).2.2.1 8 (by omega)
  have ckx0f8 := (gk0).2.2.2 8 (by omega)
  have ckx0c9 := (gk0).2.2.1 9 (by omega)
  have ckx0f9 := (gk0).2.2.2 9 (by omega)
  have ckx0c10 := (gk0).2.2.1 10 (by omega)
  have ckx0f10 := (gk0).2.2.2 10 (by omega)
  have ckx0c11 := (gk0).2.2.1 11 (by omega)
  have ckx0f11 := (gk0).2.2.2 11 (by omega)
  clear gk0
  have gk1 : Al w wc (bb) 12 U := hD.get (x := (bb, 12, U)) (by simp)
  have ckx1c0 := (gk1).2.2.1 0 (by omega)
  have ckx1f0 := (gk1).2.2.2 0 (by omega)
  have ckx1c1 := (gk1).2.2.1 1 (by omega)
  have ckx1f1 := (gk1).2.2.2 1 (by omega)
  have ckx1c2 := (gk1).2.2.1 2 (by omega)
  have ckx1f2 := (gk1).2.2.2 2 (by omega)
  have ckx1c3 := (gk1).2.2.1 3 (by omega)
  have ckx1f3 := (gk1).2.2.2 3 (by omega)
  have ckx1c4 := (gk1).2.2.1 4 (by omega)
  have ckx1f4 := (gk1).2.2.2 4 (by omega)
  have ckx1c5 := (gk1).2.2.1 5 (by omega)
  have ckx1f5 := (gk1).2.2.2 5 (by omega)
  have ckx1c6 := (gk1).2.2.1 6 (by omega)
  have ckx1f6 := (gk1).2.2.2 6 (by omega)
  have ckx1c7 := (gk1).2.2.1 7 (by omega)
  have ckx1f7 := (gk1).2.2.2 7 (by omega)
  have ckx1c8 := (gk1).2.2.1 8 (by omega)
  have ckx1f8 := (gk1).2.2.2 8 (by omega)
  have ckx1c9 := (gk1).2.2.1 9 (by omega)
  have ckx1f9 := (gk1).2.2.2 9 (by omega)
  have ckx1c10 := (gk1).2.2.1 10 (by omega)
  have ckx1f10 := (gk1).2.2.2 10 (by omega)
  have ckx1c11 := (gk1).2.2.1 11 (by omega)
  have ckx1f11 := (gk1).2.2.2 11 (by omega)
  clear gk1
  have gk2 : Al w wc (hb) 3 (fun j => [X, Y, D].getD j 0) := hD.get (x := (hb, 3, (fun j => [X, Y, D].getD j 0))) (by simp)
  have ckx2c0 := (gk2).2.2.1 0 (by omega)
  have ckx2f0 := (gk2).2.2.2 0 (by omega)
  have ckx2c1 := (gk2).2.2.1 1 (by omega)
  have ckx2f1 := (gk2).2.2.2 1 (by omega)
  have ckx2c2 := (gk2).2.2.1 2 (by omega)
  have ckx2f2 := (gk2).2.2.2 2 (by omega)
  clear gk2
  go_upto_region 3 with fail
  refine wp_region_held_drew (S := fun w' => w'.cell? ⟨ab, 0, none⟩ = some (.int .i64 (V 0)) ∧ w'.cell? ⟨ab, 1, none⟩ = some (.int .i64 (V 1)) ∧ w'.cell? ⟨ab, 2, none⟩ = some (.int .i64 (V 2)) ∧ w'.cell? ⟨ab, 3, none⟩ = some (.int .i64 (V 3)) ∧ w'.cell? ⟨ab, 4, none⟩ = some (.int .i64 (V 4)) ∧ w'.cell? ⟨ab, 5, none⟩ = some (.int .i64 (V 5)) ∧ w'.cell? ⟨ab, 6, none⟩ = some (.int .i64 (V 6)) ∧ w'.cell? ⟨ab, 7, none⟩ = some (.int .i64 (V 7)) ∧ w'.cell? ⟨ab, 8, none⟩ = some (.int .i64 (V 8)) ∧ w'.cell? ⟨ab, 9, none⟩ = some (.int .i64 (V 9)) ∧ w'.cell? ⟨ab, 10, none⟩ = some (.int .i64 (V 10)) ∧ w'.cell? ⟨ab, 11, none⟩ = some (.int .i64 (V 11)) ∧ w'.cell? ⟨bb, 0, none⟩ = some (.int .i64 (U 0)) ∧ w'.cell? ⟨bb, 1, none⟩ = some (.int .i64 (U 1)) ∧ w'.cell? ⟨bb, 2, none⟩ = some (.int .i64 (U 2)) ∧ w'.cell? ⟨bb, 3, none⟩ = some (.int .i64 (U 3)) ∧ w'.cell? ⟨bb, 4, none⟩ = some (.int .i64 (U 4)) ∧ w'.cell? ⟨bb, 5, none⟩ = some (.int .i64 (U 5)) ∧ w'.cell? ⟨bb, 6, none⟩ = some (.int .i64 (U 6)) ∧ w'.cell? ⟨bb, 7, none⟩ = some (.int .i64 (U 7)) ∧ w'.cell? ⟨bb, 8, none⟩ = some (.int .i64 (U 8)) ∧ w'.cell? ⟨bb, 9, none⟩ = some (.int .i64 (U 9)) ∧ w'.cell? ⟨bb, 10, none⟩ = some (.int .i64 (U 10)) ∧ w'.cell? ⟨bb, 11, none⟩ = some (.int .i64 (U 11)) ∧ w'.cell? ⟨hb, 0, none⟩ = some (.int .i64 X) ∧ w'.cell? ⟨hb, 1, none⟩ = some (.int .i64 Y) ∧ w'.cell? ⟨hb, 2, none⟩ = some (.int .i64 D)) (by kernel_rfl) ?_ (fun hHeld => ?_)
  · (try dsimp only)
    (first | (go_simp; done) | (go_keep; done))
  (refine tk 0 ⟨_, _, _, _, _, _⟩ rfl (by kernel_rfl) (fun _ _ _ h => h) (by rfl) hHeld (by intro w s; (try dsimp only at s); go_simp; (try with_reducible rfl)) ?_; (try simp only [Act.put, List.setIfInBounds_toArray, List.set_cons_zero, List.set_cons_succ]))
  (refine tk 1 ⟨_, _, _, _, _, _⟩ rfl (by kernel_rfl) (fun _ _ _ h => h) (by rfl) hHeld (by intro w s; (try dsimp only at s); go_simp; (try with_reducible rfl)) ?_; (try simp only [Act.put, List.setIfInBounds_toArray, List.set_cons_zero, List.set_cons_succ]))
  (refine tk 2 ⟨_, _, _, _, _, _⟩ rfl (by kernel_rfl) (fun _ _ _ h => h) (by rfl) hHeld (by intro w s; (try dsimp only at s); go_simp; (try with_reducible rfl)) ?_; (try simp only [Act.put, List.setIfInBounds_toArray, List.set_cons_zero, List.set_cons_succ]))
  (refine tk 3 ⟨_, _, _, _, _, _⟩ rfl (by kernel_rfl) (fun _ _ _ h => h) (by rfl) hHeld (by intro w s; (try dsimp only at s); go_simp; (try with_reducible rfl)) ?_; (try simp only [Act.put, List.setIfInBounds_toArray, List.set_cons_zero, List.set_cons_succ]))
  refine wpAnyH_ready (rs := [4]) (by kernel_rfl) (by simp) ?_
  refine AllReadyH.cons (o := ⟨_, _, _, _, _, _⟩) rfl (fun K hK => ?_) AllReadyH.nil
  (go_simp; (go_at_call 21; refine (pick_s w0.heap.size 8000 _ _ (by exact hD.drew.rs) (by omega) (by omega) (by omega)).mono ?_; rintro e w4 ⟨v4, rfl, va4, vb4, hr4⟩; have hD4 := (hD.drew.call hr4).toAL; have gp0 : Al w w4 (ab) 12 V := hD4.get (x := (ab, 12, V)) (by simp); have cpx0c0 := (gp0).2.2.1 0 (by omega); have cpx0f0 := (gp0).2.2.2 0 (by omega); have cpx0c1 := (gp0).2.2.1 1 (by omega); have cpx0f1 := (gp0).2.2.2 1 (by omega); have cpx0c2 := (gp0).2.2.1 2 (by omega); have cpx0f2 := (gp0).2.2.2 2 (by omega); have cpx0c3 := (gp0).2.2.1 3 (by omega); have cpx0f3 := (gp0).2.2.2 3 (by omega); have cpx0c4 := (gp0).2.2.1 4 (by omega); have cpx0f4 := (gp0).2.2.2 4 (by omega); have cpx0c5 := (gp0).2.2.1 5 (by omega); have cpx0f5 := (gp0).2.2.2 5 (by omega); have cpx0c6 := (gp0).2.2.1 6 (by omega); have cpx0f6 := (gp0).2.2.2 6 (by omega); have cpx0c7 := (gp0).2.2.1 7 (by omega); have cpx0f7 := (gp0).2.2.2 7 (by omega); have cpx0c8 := (gp0).2.2.1 8 (by omega); have cpx0f8 := (gp0).2.2.2 8 (by omega); have cpx0c9 := (gp0).2.2.1 9 (by omega); have cpx0f9 := (gp0).2.2.2 9 (by omega); have cpx0c10 := (gp0).2.2.1 10 (by omega); have cpx0f10 := (gp0).2.2.2 10 (by omega); have cpx0c11 := (gp0).2.2.1 11 (by omega); have cpx0f11 := (gp0).2.2.2 11 (by omega); clear gp0; have gp1 : Al w w4 (bb) 12 U := hD4.get (x := (bb, 12, U)) (by simp); have cpx1c0 := (gp1).2.2.1 0 (by omega); have cpx1f0 := (gp1).2.2.2 0 (by omega); have cpx1c1 := (gp1).2.2.1 1 (by omega); have cpx1f1 := (gp1).2.2.2 1 (by omega); have cpx1c2 := (gp1).2.2.1 2 (by omega); have cpx1f2 := (gp1).2.2.2 2 (by omega); have cpx1c3 := (gp1).2.2.1 3 (by omega); have cpx1f3 := (gp1).2.2.2 3 (by omega); have cpx1c4 := (gp1).2.2.1 4 (by omega); have cpx1f4 := (gp1).2.2.2 4 (by omega); have cpx1c5 := (gp1).2.2.1 5 (by omega); have cpx1f5 := (gp1).2.2.2 5 (by omega); have cpx1c6 := (gp1).2.2.1 6 (by omega); have cpx1f6 := (gp1).2.2.2 6 (by omega); have cpx1c7 := (gp1).2.2.1 7 (by omega); have cpx1f7 := (gp1).2.2.2 7 (by omega); have cpx1c8 := (gp1).2.2.1 8 (by omega); have cpx1f8 := (gp1).2.2.2 8 (by omega); have cpx1c9 := (gp1).2.2.1 9 (by omega); have cpx1f9 := (gp1).2.2.2 9 (by omega); have cpx1c10 := (gp1).2.2.1 10 (by omega); have cpx1f10 := (gp1).2.2.2 10 (by omega); have cpx1c11 := (gp1).2.2.1 11 (by omega); have cpx1f11 := (gp1).2.2.2 11 (by omega); clear gp1; have gp2 : Al w w4 (hb) 3 (fun j => [X, Y, D].getD j 0) := hD4.get (x := (hb, 3, (fun j => [X, Y, D].getD j 0))) (by simp); have cpx2c0 := (gp2).2.2.1 0 (by omega); have cpx2f0 := (gp2).2.2.2 0 (by omega); have cpx2c1 := (gp2).2.2.1 1 (by omega); have cpx2f1 := (gp2).2.2.2 1 (by omega); have cpx2c2 := (gp2).2.2.1 2 (by omega); have cpx2f2 := (gp2).2.2.2 2 (by omega); clear gp2; have gp3 : Al w w4 (w.heap.size) 12 (fun _ => 0) := hD4.get (x := (w.heap.size, 12, (fun _ => 0))) (by simp); have cpx3c0 := (gp3).2.2.1 0 (by omega); have cpx3f0 := (gp3).2.2.2 0 (by omega); have cpx3c1 := (gp3).2.2.1 1 (by omega); have cpx3f1 := (gp3).2.2.2 1 (by omega); have cpx3c2 := (gp3).2.2.1 2 (by omega); have cpx3f2 := (gp3).2.2.2 2 (by omega); have cpx3c3 := (gp3).2.2.1 3 (by omega); have cpx3f3 := (gp3).2.2.2 3 (by omega); have cpx3c4 := (gp3).2.2.1 4 (by omega); have cpx3f4 := (gp3).2.2.2 4 (by omega); have cpx3c5 := (gp3).2.2.1 5 (by omega); have cpx3f5 := (gp3).2.2.2 5 (by omega); have cpx3c6 := (gp3).2.2.1 6 (by omega); have cpx3f6 := (gp3).2.2.2 6 (by omega); have cpx3c7 := (gp3).2.2.1 7 (by omega); have cpx3f7 := (gp3).2.2.2 7 (by omega); have cpx3c8 := (gp3).2.2.1 8 (by omega); have cpx3f8 := (gp3).2.2.2 8 (by omega); have cpx3c9 := (gp3).2.2.1 9 (by omega); have cpx3f9 := (gp3).2.2.2 9 (by omega); have cpx3c10 := (gp3).2.2.1 10 (by omega); have cpx3f10 := (gp3).2.2.2 10 (by omega); have cpx3c11 := (gp3).2.2.1 11 (by omega); have cpx3f11 := (gp3).2.2.2 11 (by omega); clear gp3); (try go_wp2_with fail); refine hK.out _ _ ?_ (fun hHeld => ?_); (focus ((try dsimp only); (first | (go_simp; done) | (go_keep; done)))); clear hK K; (try simp only [Act.put, List.setIfInBounds_toArray, List.set_cons_zero, List.set_cons_succ]))
  (refine tk 5 ⟨_, _, _, _, _, _⟩ rfl (by kernel_rfl) (fun _ _ _ h => h) (by rfl) hHeld (by intro w s; (try dsimp only at s); go_simp; (try with_reducible rfl)) ?_; (try simp only [Act.put, List.setIfInBounds_toArray, List.set_cons_zero, List.set_cons_succ]))
  refine wpAnyH_ready (rs := [6]) (by kernel_rfl) (by simp) ?_
  refine AllReadyH.cons (o := ⟨_, _, _, _, _, _⟩) rfl (fun K hK => ?_) AllReadyH.nil
  go_simp
  have hF6 := ((((((((((((((hD4.sub (M := [(w.heap.size, 12, (fun _ => 0)), (hb, 3, (fun j => [X, Y, D].getD j 0)), (bb, 12, U), (ab, 12, V), (w.heap.size + 1 + 1, 3, (fun _ => 0)), (w.heap.size + 1, 12, (fun _ => 0))]) (by intro x hx; simp only [List.mem_cons, List.not_mem_nil, or_false] at hx; rcases hx with rfl | rfl | rfl | rfl | rfl | rfl <;> simp)).set (by intro x hx; simp only [List.mem_cons, List.not_mem_nil, or_false] at hx; rcases hx with rfl | rfl | rfl | rfl | rfl <;> dsimp only <;> omega) 0 (by omega) (V 0)).set (by intro x hx; simp only [List.mem_cons, List.not_mem_nil, or_false] at hx; rcases hx with rfl | rfl | rfl | rfl | rfl <;> dsimp only <;> omega) 1 (by omega) (V 1)).set (by intro x hx; simp only [List.mem_cons, List.not_mem_nil, or_false] at hx; rcases hx with rfl | rfl | rfl | rfl | rfl <;> dsimp only <;> omega) 2 (by omega) (V 2)).set (by intro x hx; simp only [List.mem_cons, List.not_mem_nil, or_false] at hx; rcases hx with rfl | rfl | rfl | rfl | rfl <;> dsimp only <;> omega) 3 (by omega) (V 3)).set (by intro x hx; simp only [List.mem_cons, List.not_mem_nil, or_false] at hx; rcases hx with rfl | rfl | rfl | rfl | rfl <;> dsimp only <;> omega) 4 (by omega) (V 4)).set (by intro x hx; simp only [List.mem_cons, List.not_mem_nil, or_false] at hx; rcases hx with rfl | rfl | rfl | rfl | rfl <;> dsimp only <;> omega) 5 (by omega) (V 5)).set (by intro x hx; simp only [List.mem_cons, List.not_mem_nil, or_false] at hx; rcases hx with rfl | rfl | rfl | rfl | rfl <;> dsimp only <;> omega) 6 (by omega) (V 6)).set (by intro x hx; simp only [List.mem_cons, List.not_mem_nil, or_false] at hx; rcases hx with rfl | rfl | rfl | rfl | rfl <;> dsimp only <;> omega) 7 (by omega) (V 7)).set (by intro x hx; simp only [List.mem_cons, List.not_mem_nil, or_false] at hx; rcases hx with rfl | rfl | rfl | rfl | rfl <;> dsimp only <;> omega) 8 (by omega) (V 8)).set (by intro x hx; simp only [List.mem_cons, List.not_mem_nil, or_false] at hx; rcases hx with rfl | rfl | rfl | rfl | rfl <;> dsimp only <;> omega) 9 (by omega) (V 9)).set (by intro x hx; simp only [List.mem_cons, List.not_mem_nil, or_false] at hx; rcases hx with rfl | rfl | rfl | rfl | rfl <;> dsimp only <;> omega) 10 (by omega) (V 10)).set (by intro x hx; simp only [List.mem_cons, List.not_mem_nil, or_false] at hx; rcases hx with rfl | rfl | rfl | rfl | rfl <;> dsimp only <;> omega) 11 (by omega) (V 11)).headc (U := V) (by intro i hi; rcases (show i = 0 ∨ i = 1 ∨ i = 2 ∨ i = 3 ∨ i = 4 ∨ i = 5 ∨ i = 6 ∨ i = 7 ∨ i = 8 ∨ i = 9 ∨ i = 10 ∨ i = 11 by omega) with rfl | rfl | rfl | rfl | rfl | rfl | rfl | rfl | rfl | rfl | rfl | rfl <;> rfl))
  generalize ((((((((((((w4.setCell ⟨w.heap.size, 0, none⟩ (.int .i64 (V 0))).setCell ⟨w.heap.size, 1, none⟩ (.int .i64 (V 1))).setCell ⟨w.heap.size, 2, none⟩ (.int .i64 (V 2))).setCell ⟨w.heap.size, 3, none⟩ (.int .i64 (V 3))).setCell ⟨w.heap.size, 4, none⟩ (.int .i64 (V 4))).setCell ⟨w.heap.size, 5, none⟩ (.int .i64 (V 5))).setCell ⟨w.heap.size, 6, none⟩ (.int .i64 (V 6))).setCell ⟨w.heap.size, 7, none⟩ (.int .i64 (V 7))).setCell ⟨w.heap.size, 8, none⟩ (.int .i64 (V 8))).setCell ⟨w.heap.size, 9, none⟩ (.int .i64 (V 9))).setCell ⟨w.heap.size, 10, none⟩ (.int .i64 (V 10))).setCell ⟨w.heap.size, 11, none⟩ (.int .i64 (V 11))) = y6 at hF6 ⊢
  have gt60 : Al w y6 (ab) 12 V := hF6.get (x := (ab, 12, V)) (by simp)
  have ct6x0c0 := (gt60).2.2.1 0 (by omega)
  have ct6x0f0 := (gt60).2.2.2 0 (by omega)
  have ct6x0c1 := (gt60).2.2.1 1 (by omega)
  have ct6x0f1 := (gt60).2.2.2 1 (by omega)
  have ct6x0c2 := (gt60).2.2.1 2 (by omega)
  have ct6x0f2 := (gt60).2.2.2 2 (by omega)
  have ct6x0c3 := (gt60).2.2.1 3 (by omega)
  have ct6x0f3 := (gt60).2.2.2 3 (by omega)
  have ct6x0c4 := (gt60).2.2.1 4 (by omega)
  have ct6x0f4 := (gt60).2.2.2 4 (by omega)
  have ct6x0c5 := (gt60).2.2.1 5 (by omega)
  have ct6x0f5 := (gt60).2.2.2 5 (by omega)
  have ct6x0c6 := (gt60).2.2.1 6 (by omega)
  have ct6x0f6 := (gt60).2.2.2 6 (by omega)
  have ct6x0c7 := (gt60).2.2.1 7 (by omega)
  have ct6x0f7 := (gt60).2.2.2 7 (by omega)
  have ct6x0c8 := (gt60).2.2.1 8 (by omega)
  have ct6x0f8 := (gt60).2.2.2 8 (by omega)
  have ct6x0c9 := (gt60).2.2.1 9 (by omega)
  have ct6x0f9 := (gt60).2.2.2 9 (by omega)
  have ct6x0c10 := (gt60).2.2.1 10 (by omega)
  have ct6x0f10 := (gt60).2.2.2 10 (by omega)
  have ct6x0c11 := (gt60).2.2.1 11 (by omega)
  have ct6x0f11 := (gt60).2.2.2 11 (by omega)
  clear gt60
  have gt61 : Al w y6 (bb) 12 U := hF6.get (x := (bb, 12, U)) (by simp)
  have ct6x1c0 := (gt61).2.2.1 0 (by omega)
  have ct6x1f0 := (gt61).2.2.2 0 (by omega)
  have ct6x1c1 := (gt61).2.2.1 1 (by omega)
  have ct6x1f1 := (gt61).2.2.2 1 (by omega)
  have ct6x1c2 := (gt61).2.2.1 2 (by omega)
  have ct6x1f2 := (gt61).2.2.2 2 (by omega)
  have ct6x1c3 := (gt61).2.2.1 3 (by omega)
  have ct6x1f3 := (gt61).2.2.2 3 (by omega)
  have ct6x1c4 := (gt61).2.2.1 4 (by omega)
  have ct6x1f4 := (gt61).2.2.2 4 (by omega)
  have ct6x1c5 := (gt61).2.2.1 5 (by omega)
  have ct6x1f5 := (gt61).2.2.2 5 (by omega)
  have ct6x1c6 := (gt61).2.2.1 6 (by omega)
  have ct6x1f6 := (gt61).2.2.2 6 (by omega)
  have ct6x1c7 := (gt61).2.2.1 7 (by omega)
  have ct6x1f7 := (gt61).2.2.2 7 (by omega)
  have ct6x1c8 := (gt61).2.2.1 8 (by omega)
  have ct6x1f8 := (gt61).2.2.2 8 (by omega)
  have ct6x1c9 := (gt61).2.2.1 9 (by omega)
  have ct6x1f9 := (gt61).2.2.2 9 (by omega)
  have ct6x1c10 := (gt61).2.2.1 10 (by omega)
  have ct6x1f10 := (gt61).2.2.2 10 (by omega)
  have ct6x1c11 := (gt61).2.2.1 11 (by omega)
  have ct6x1f11 := (gt61).2.2.2 11 (by omega)
  clear gt61
  have gt62 : Al w y6 (hb) 3 (fun j => [X, Y, D].getD j 0) := hF6.get (x := (hb, 3, (fun j => [X, Y, D].getD j 0))) (by simp)
  have ct6x2c0 := (gt62).2.2.1 0 (by omega)
  have ct6x2f0 := (gt62).2.2.2 0 (by omega)
  have ct6x2c1 := (gt62).2.2.1 1 (by omega)
  have ct6x2f1 := (gt62).2.2.2 1 (by omega)
  have ct6x2c2 := (gt62).2.2.1 2 (by omega)
  have ct6x2f2 := (gt62).2.2.2 2 (by omega)
  clear gt62
  have gt63 : Al w y6 (w.heap.size + 1) 12 (fun _ => 0) := hF6.get (x := (w.heap.size + 1, 12, (fun _ => 0))) (by simp)
  have ct6x3c0 := (gt63).2.2.1 0 (by omega)
  have ct6x3f0 := (gt63).2.2.2 0 (by omega)
  have ct6x3c1 := (gt63).2.2.1 1 (by omega)
  have ct6x3f1 := (gt63).2.2.2 1 (by omega)
  have ct6x3c2 := (gt63).2.2.1 2 (by omega)
  have ct6x3f2 := (gt63).2.2.2 2 (by omega)
  have ct6x3c3 := (gt63).2.2.1 3 (by omega)
  have ct6x3f3 := (gt63).2.2.2 3 (by omega)
  have ct6x3c4 := (gt63).2.2.1 4 (by omega)
  have ct6x3f4 := (gt63).2.2.2 4 (by omega)
  have ct6x3c5 := (gt63).2.2.1 5 (by omega)
  have ct6x3f5 := (gt63).2.2.2 5 (by omega)
  have ct6x3c6 := (gt63).2.2.1 6 (by omega)
  have ct6x3f6 := (gt63).2.2.2 6 (by omega)
  have ct6x3c7 := (gt63).2.2.1 7 (by omega)
  have ct6x3f7 := (gt63).2.2.2 7 (by omega)
  have ct6x3c8 := (gt63).2.2.1 8 (by omega)
  have ct6x3f8 := (gt63).2.2.2 8 (by omega)
  have ct6x3c9 := (gt63).2.2.1 9 (by omega)
  have ct6x3f9 := (gt63).2.2.2 9 (by omega)
  have ct6x3c10 := (gt63).2.2.1 10 (by omega)
  have ct6x3f10 := (gt63).2.2.2 10 (by omega)
  have ct6x3c11 := (gt63).2.2.1 11 (by omega)
  have ct6x3f11 := (gt63).2.2.2 11 (by omega)
  clear gt63
  refine hK.out _ _ ?_ (fun hHeld => ?_)
  · (try dsimp only)
    (first | (go_simp; done) | (go_keep; done))
  clear hK K
  (try simp only [Act.put, List.setIfInBounds_toArray, List.set_cons_zero, List.set_cons_succ])
  refine wpAnyH_ready (rs := [7]) (by kernel_rfl) (by simp) ?_
  refine AllReadyH.cons (o := ⟨_, _, _, _, _, _⟩) rfl (fun K hK => ?_) AllReadyH.nil
  go_simp
  have hF7 := ((((((((((((((hF6.sub (M := [(w.heap.size + 1, 12, (fun _ => 0)), (w.heap.size, 12, V), (hb, 3, (fun j => [X, Y, D].getD j 0)), (bb, 12, U), (ab, 12, V), (w.heap.size + 1 + 1, 3, (fun _ => 0))]) (by intro x hx; simp only [List.mem_cons, List.not_mem_nil, or_false] at hx; rcases hx with rfl | rfl | rfl | rfl | rfl | rfl <;> simp)).set (by intro x hx; simp only [List.mem_cons, List.not_mem_nil, or_false] at hx; rcases hx with rfl | rfl | rfl | rfl | rfl <;> dsimp only <;> omega) 0 (by omega) (U 0)).set (by intro x hx; simp only [List.mem_cons, List.not_mem_nil, or_false] at hx; rcases hx with rfl | rfl | rfl | rfl | rfl <;> dsimp only <;> omega) 1 (by omega) (U 1)).set (by intro x hx; simp only [List.mem_cons, List.not_mem_nil, or_false] at hx; rcases hx with rfl | rfl | rfl | rfl | rfl <;> dsimp only <;> omega) 2 (by omega) (U 2)).set (by intro x hx; simp only [List.mem_cons, List.not_mem_nil, or_false] at hx; rcases hx with rfl | rfl | rfl | rfl | rfl <;> dsimp only <;> omega) 3 (by omega) (U 3)).set (by intro x hx; simp only [List.mem_cons, List.not_mem_nil, or_false] at hx; rcases hx with rfl | rfl | rfl | rfl | rfl <;> dsimp only <;> omega) 4 (by omega) (U 4)).set (by intro x hx; simp only [List.mem_cons, List.not_mem_nil, or_false] at hx; rcases hx with rfl | rfl | rfl | rfl | rfl <;> dsimp only <;> omega) 5 (by omega) (U 5)).set (by intro x hx; simp only [List.mem_cons, List.not_mem_nil, or_false] at hx; rcases hx with rfl | rfl | rfl | rfl | rfl <;> dsimp only <;> omega) 6 (by omega) (U 6)).set (by intro x hx; simp only [List.mem_cons, List.not_mem_nil, or_false] at hx; rcases hx with rfl | rfl | rfl | rfl | rfl <;> dsimp only <;> omega) 7 (by omega) (U 7)).set (by intro x hx; simp only [List.mem_cons, List.not_mem_nil, or_false] at hx; rcases hx with rfl | rfl | rfl | rfl | rfl <;> dsimp only <;> omega) 8 (by omega) (U 8)).set (by intro x hx; simp only [List.mem_cons, List.not_mem_nil, or_false] at hx; rcases hx with rfl | rfl | rfl | rfl | rfl <;> dsimp only <;> omega) 9 (by omega) (U 9)).set (by intro x hx; simp only [List.mem_cons, List.not_mem_nil, or_false] at hx; rcases hx with rfl | rfl | rfl | rfl | rfl <;> dsimp only <;> omega) 10 (by omega) (U 10)).set (by intro x hx; simp only [List.mem_cons, List.not_mem_nil, or_false] at hx; rcases hx with rfl | rfl | rfl | rfl | rfl <;> dsimp only <;> omega) 11 (by omega) (U 11)).headc (U := U) (by intro i hi; rcases (show i = 0 ∨ i = 1 ∨ i = 2 ∨ i = 3 ∨ i = 4 ∨ i = 5 ∨ i = 6 ∨ i = 7 ∨ i = 8 ∨ i = 9 ∨ i = 10 ∨ i = 11 by omega) with rfl | rfl | rfl | rfl | rfl | rfl | rfl | rfl | rfl | rfl | rfl | rfl <;> rfl))
  generalize ((((((((((((y6.setCell ⟨w.heap.size + 1, 0, none⟩ (.int .i64 (U 0))).setCell ⟨w.heap.size + 1, 1, none⟩ (.int .i64 (U 1))).setCell ⟨w.heap.size + 1, 2, none⟩ (.int .i64 (U 2))).setCell ⟨w.heap.size + 1, 3, none⟩ (.int .i64 (U 3))).setCell ⟨w.heap.size + 1, 4, none⟩ (.int .i64 (U 4))).setCell ⟨w.heap.size + 1, 5, none⟩ (.int .i64 (U 5))).setCell ⟨w.heap.size + 1, 6, none⟩ (.int .i64 (U 6))).setCell ⟨w.heap.size + 1, 7, none⟩ (.int .i64 (U 7))).setCell ⟨w.heap.size + 1, 8, none⟩ (.int .i64 (U 8))).setCell ⟨w.heap.size + 1, 9, none⟩ (.int .i64 (U 9))).setCell ⟨w.heap.size + 1, 10, none⟩ (.int .i64 (U 10))).setCell ⟨w.heap.size + 1, 11, none⟩ (.int .i64 (U 11))) = y7 at hF7 ⊢
  have gt70 : Al w y7 (ab) 12 V := hF7.get (x := (ab, 12, V)) (by simp)
  have ct7x0c0 := (gt70).2.2.1 0 (by omega)
  have ct7x0f0 := (gt70).2.2.2 0 (by omega)
  have ct7x0c1 := (gt70).2.2.1 1 (by omega)
  have ct7x0f1 := (gt70).2.2.2 1 (by omega)
  have ct7x0c2 := (gt70).2.2.1 2 (by omega)
  have ct7x0f2 := (gt70).2.2.2 2 (by omega)
  have ct7x0c3 := (gt70).2.2.1 3 (by omega)
  have ct7x0f3 := (gt70).2.2.2 3 (by omega)
  have ct7x0c4 := (gt70).2.2.1 4 (by omega)
  have ct7x0f4 := (gt70).2.2.2 4 (by omega)
  have ct7x0c5 := (gt70).2.2.1 5 (by omega)
  have ct7x0f5 := (gt70).2.2.2 5 (by omega)
  have ct7x0c6 := (gt70).2.2.1 6 (by omega)
  have ct7x0f6 := (gt70).2.2.2 6 (by omega)
  have ct7x0c7 := (gt70).2.2.1 7 (by omega)
  have ct7x0f7 := (gt70).2.2.2 7 (by omega)
  have ct7x0c8 := (gt70).2.2.1 8 (by omega)
  have ct7x0f8 := (gt70).2.2.2 8 (by omega)
  have ct7x0c9 := (gt70).2.2.1 9 (by omega)
  have ct7x0f9 := (gt70).2.2.2 9 (by omega)
  have ct7x0c10 := (gt70).2.2.1 10 (by omega)
  have ct7x0f10 := (gt70).2.2.2 10 (by omega)
  have ct7x0c11 := (gt70).2.2.1 11 (by omega)
  have ct7x0f11 := (gt70).2.2.2 11 (by omega)
  clear gt70
  have gt71 : Al w y7 (bb) 12 U := hF7.get (x := (bb, 12, U)) (by simp)
  have ct7x1c0 := (gt71).2.2.1 0 (by omega)
  have ct7x1f0 := (gt71).2.2.2 0 (by omega)
  have ct7x1c1 := (gt71).2.2.1 1 (by omega)
  have ct7x1f1 := (gt71).2.2.2 1 (by omega)
  have ct7x1c2 := (gt71).2.2.1 2 (by omega)
  have ct7x1f2 := (gt71).2.2.2 2 (by omega)
  have ct7x1c3 := (gt71).2.2.1 3 (by omega)
  have ct7x1f3 := (gt71).2.2.2 3 (by omega)
  have ct7x1c4 := (gt71).2.2.1 4 (by omega)
  have ct7x1f4 := (gt71).2.2.2 4 (by omega)
  have ct7x1c5 := (gt71).2.2.1 5 (by omega)
  have ct7x1f5 := (gt71).2.2.2 5 (by omega)
  have ct7x1c6 := (gt71).2.2.1 6 (by omega)
  have ct7x1f6 := (gt71).2.2.2 6 (by omega)
  have ct7x1c7 := (gt71).2.2.1 7 (by omega)
  have ct7x1f7 := (gt71).2.2.2 7 (by omega)
  have ct7x1c8 := (gt71).2.2.1 8 (by omega)
  have ct7x1f8 := (gt71).2.2.2 8 (by omega)
  have ct7x1c9 := (gt71).2.2.1 9 (by omega)
  have ct7x1f9 := (gt71).2.2.2 9 (by omega)
  have ct7x1c10 := (gt71).2.2.1 10 (by omega)
  have ct7x1f10 := (gt71).2.2.2 10 (by omega)
  have ct7x1c11 := (gt71).2.2.1 11 (by omega)
  have ct7x1f11 := (gt71).2.2.2 11 (by omega)
  clear gt71
  have gt72 : Al w y7 (hb) 3 (fun j => [X, Y, D].getD j 0) := hF7.get (x := (hb, 3, (fun j => [X, Y, D].getD j 0))) (by simp)
  have ct7x2c0 := (gt72).2.2.1 0 (by omega)
  have ct7x2f0 := (gt72).2.2.2 0 (by omega)
  have ct7x2c1 := (gt72).2.2.1 1 (by omega)
  have ct7x2f1 := (gt72).2.2.2 1 (by omega)
  have ct7x2c2 := (gt72).2.2.1 2 (by omega)
  have ct7x2f2 := (gt72).2.2.2 2 (by omega)
  clear gt72
  have gt73 : Al w y7 (w.heap.size + 1 + 1) 3 (fun _ => 0) := hF7.get (x := (w.heap.size + 1 + 1, 3, (fun _ => 0))) (by simp)
  have ct7x3c0 := (gt73).2.2.1 0 (by omega)
  have ct7x3f0 := (gt73).2.2.2 0 (by omega)
  have ct7x3c1 := (gt73).2.2.1 1 (by omega)
  have ct7x3f1 := (gt73).2.2.2 1 (by omega)
  have ct7x3c2 := (gt73).2.2.1 2 (by omega)
  have ct7x3f2 := (gt73).2.2.2 2 (by omega)
  clear gt73
  refine hK.out _ _ ?_ (fun hHeld => ?_)
  · (try dsimp only)
    (first | (go_simp; done) | (go_keep; done))
  clear hK K
  (try simp only [Act.put, List.setIfInBounds_toArray, List.set_cons_zero, List.set_cons_succ])
  refine wpAnyH_ready (rs := [8]) (by kernel_rfl) (by simp) ?_
  refine AllReadyH.cons (o := ⟨_, _, _, _, _, _⟩) rfl (fun K hK => ?_) AllReadyH.nil
  go_simp
  have hF8 := (((((hF7.sub (M := [(w.heap.size + 1 + 1, 3, (fun _ => 0)), (w.heap.size + 1, 12, U), (w.heap.size, 12, V), (hb, 3, (fun j => [X, Y, D].getD j 0)), (bb, 12, U), (ab, 12, V)]) (by intro x hx; simp only [List.mem_cons, List.not_mem_nil, or_false] at hx; rcases hx with rfl | rfl | rfl | rfl | rfl | rfl <;> simp)).set (by intro x hx; simp only [List.mem_cons, List.not_mem_nil, or_false] at hx; rcases hx with rfl | rfl | rfl | rfl | rfl <;> dsimp only <;> omega) 0 (by omega) X).set (by intro x hx; simp only [List.mem_cons, List.not_mem_nil, or_false] at hx; rcases hx with rfl | rfl | rfl | rfl | rfl <;> dsimp only <;> omega) 1 (by omega) Y).set (by intro x hx; simp only [List.mem_cons, List.not_mem_nil, or_false] at hx; rcases hx with rfl | rfl | rfl | rfl | rfl <;> dsimp only <;> omega) 2 (by omega) D).headc (U := (fun j => [X, Y, D].getD j 0)) (by intro i hi; rcases (show i = 0 ∨ i = 1 ∨ i = 2 by omega) with rfl | rfl | rfl <;> rfl))
  generalize (((y7.setCell ⟨w.heap.size + 1 + 1, 0, none⟩ (.int .i64 X)).setCell ⟨w.heap.size + 1 + 1, 1, none⟩ (.int .i64 Y)).setCell ⟨w.heap.size + 1 + 1, 2, none⟩ (.int .i64 D)) = y8 at hF8 ⊢
  have gt80 : Al w y8 (ab) 12 V := hF8.get (x := (ab, 12, V)) (by simp)
  have ct8x0c0 := (gt80).2.2.1 0 (by omega)
  have ct8x0f0 := (gt80).2.2.2 0 (by omega)
  have ct8x0c1 := (gt80).2.2.1 1 (by omega)
  have ct8x0f1 := (gt80).2.2.2 1 (by omega)
  have ct8x0c2 := (gt80).2.2.1 2 (by omega)
  have ct8x0f2 := (gt80).2.2.2 2 (by omega)
  have ct8x0c3 := (gt80).2.2.1 3 (by omega)
  have ct8x0f3 := (gt80).2.2.2 3 (by omega)
  have ct8x0c4 := (gt80).2.2.1 4 (by omega)
  have ct8x0f4 := (gt80).2.2.2 4 (by omega)
  have ct8x0c5 := (gt80).2.2.1 5 (by omega)
  have ct8x0f5 := (gt80).2.2.2 5 (by omega)
  have ct8x0c6 := (gt80).2.2.1 6 (by omega)
  have ct8x0f6 := (gt80).2.2.2 6 (by omega)
  have ct8x0c7 := (gt80).2.2.1 7 (by omega)
  have ct8x0f7 := (gt80).2.2.2 7 (by omega)
  have ct8x0c8 := (gt80).2.2.1 8 (by omega)
  have ct8x0f8 := (gt80).2.2.2 8 (by omega)
  have ct8x0c9 := (gt80).2.2.1 9 (by omega)
  have ct8x0f9 := (gt80).2.2.2 9 (by omega)
  have ct8x0c10 := (gt80).2.2.1 10 (by omega)
  have ct8x0f10 := (gt80).2.2.2 10 (by omega)
  have ct8x0c11 := (gt80).2.2.1 11 (by omega)
  have ct8x0f11 := (gt80).2.2.2 11 (by omega)
  clear gt80
  have gt81 : Al w y8 (bb) 12 U := hF8.get (x := (bb, 12, U)) (by simp)
  have ct8x1c0 := (gt81).2.2.1 0 (by omega)
  have ct8x1f0 := (gt81).2.2.2 0 (by omega)
  have ct8x1c1 := (gt81).2.2.1 1 (by omega)
  have ct8x1f1 := (gt81).2.2.2 1 (by omega)
  have ct8x1c2 := (gt81).2.2.1 2 (by omega)
  have ct8x1f2 := (gt81).2.2.2 2 (by omega)
  have ct8x1c3 := (gt81).2.2.1 3 (by omega)
  have ct8x1f3 := (gt81).2.2.2 3 (by omega)
  have ct8x1c4 := (gt81).2.2.1 4 (by omega)
  have ct8x1f4 := (gt81).2.2.2 4 (by omega)
  have ct8x1c5 := (gt81).2.2.1 5 (by omega)
  have ct8x1f5 := (gt81).2.2.2 5 (by omega)
  have ct8x1c6 := (gt81).2.2.1 6 (by omega)
  have ct8x1f6 := (gt81).2.2.2 6 (by omega)
  have ct8x1c7 := (gt81).2.2.1 7 (by omega)
  have ct8x1f7 := (gt81).2.2.2 7 (by omega)
  have ct8x1c8 := (gt81).2.2.1 8 (by omega)
  have ct8x1f8 := (gt81).2.2.2 8 (by omega)
  have ct8x1c9 := (gt81).2.2.1 9 (by omega)
  have ct8x1f9 := (gt81).2.2.2 9 (by omega)
  have ct8x1c10 := (gt81).2.2.1 10 (by omega)
  have ct8x1f10 := (gt81).2.2.2 10 (by omega)
  have ct8x1c11 := (gt81).2.2.1 11 (by omega)
  have ct8x1f11 := (gt81).2.2.2 11 (by omega)
  clear gt81
  have gt82 : Al w y8 (hb) 3 (fun j => [X, Y, D].getD j 0) := hF8.get (x := (hb, 3, (fun j => [X, Y, D].getD j 0))) (by simp)
  have ct8x2c0 := (gt82).2.2.1 0 (by omega)
  have ct8x2f0 := (gt82).2.2.2 0 (by omega)
  have ct8x2c1 := (gt82).2.2.1 1 (by omega)
  have ct8x2f1 := (gt82).2.2.2 1 (by omega)
  have ct8x2c2 := (gt82).2.2.1 2 (by omega)
  have ct8x2f2 := (gt82).2.2.2 2 (by omega)
  clear gt82
  have gt83 : Al w y8 (w.heap.size) 12 V := hF8.get (x := (w.heap.size, 12, V)) (by simp)
  have ct8x3c0 := (gt83).2.2.1 0 (by omega)
  have ct8x3f0 := (gt83).2.2.2 0 (by omega)
  have ct8x3c1 := (gt83).2.2.1 1 (by omega)
  have ct8x3f1 := (gt83).2.2.2 1 (by omega)
  have ct8x3c2 := (gt83).2.2.1 2 (by omega)
  have ct8x3f2 := (gt83).2.2.2 2 (by omega)
  have ct8x3c3 := (gt83).2.2.1 3 (by omega)
  have ct8x3f3 := (gt83).2.2.2 3 (by omega)
  have ct8x3c4 := (gt83).2.2.1 4 (by omega)
  have ct8x3f4 := (gt83).2.2.2 4 (by omega)
  have ct8x3c5 := (gt83).2.2.1 5 (by omega)
  have ct8x3f5 := (gt83).2.2.2 5 (by omega)
  have ct8x3c6 := (gt83).2.2.1 6 (by omega)
  have ct8x3f6 := (gt83).2.2.2 6 (by omega)
  have ct8x3c7 := (gt83).2.2.1 7 (by omega)
  have ct8x3f7 := (gt83).2.2.2 7 (by omega)
  have ct8x3c8 := (gt83).2.2.1 8 (by omega)
  have ct8x3f8 := (gt83).2.2.2 8 (by omega)
  have ct8x3c9 := (gt83).2.2.1 9 (by omega)
  have ct8x3f9 := (gt83).2.2.2 9 (by omega)
  have ct8x3c10 := (gt83).2.2.1 10 (by omega)
  have ct8x3f10 := (gt83).2.2.2 10 (by omega)
  have ct8x3c11 := (gt83).2.2.1 11 (by omega)
  have ct8x3f11 := (gt83).2.2.2 11 (by omega)
  clear gt83
  have gt84 : Al w y8 (w.heap.size + 1) 12 U := hF8.get (x := (w.heap.size + 1, 12, U)) (by simp)
  have ct8x4c0 := (gt84).2.2.1 0 (by omega)
  have ct8x4f0 := (gt84).2.2.2 0 (by omega)
  have ct8x4c1 := (gt84).2.2.1 1 (by omega)
  have ct8x4f1 := (gt84).2.2.2 1 (by omega)
  have ct8x4c2 := (gt84).2.2.1 2 (by omega)
  have ct8x4f2 := (gt84).2.2.2 2 (by omega)
  have ct8x4c3 := (gt84).2.2.1 3 (by omega)
  have ct8x4f3 := (gt84).2.2.2 3 (by omega)
  have ct8x4c4 := (gt84).2.2.1 4 (by omega)
  have ct8x4f4 := (gt84).2.2.2 4 (by omega)
  have ct8x4c5 := (gt84).2.2.1 5 (by omega)
  have ct8x4f5 := (gt84).2.2.2 5 (by omega)
  have ct8x4c6 := (gt84).2.2.1 6 (by omega)
  have ct8x4f6 := (gt84).2.2.2 6 (by omega)
  have ct8x4c7 := (gt84).2.2.1 7 (by omega)
  have ct8x4f7 := (gt84).2.2.2 7 (by omega)
  have ct8x4c8 := (gt84).2.2.1 8 (by omega)
  have ct8x4f8 := (gt84).2.2.2 8 (by omega)
  have ct8x4c9 := (gt84).2.2.1 9 (by omega)
  have ct8x4f9 := (gt84).2.2.2 9 (by omega)
  have ct8x4c10 := (gt84).2.2.1 10 (by omega)
  have ct8x4f10 := (gt84).2.2.2 10 (by omega)
  have ct8x4c11 := (gt84).2.2.1 11 (by omega)
  have ct8x4f11 := (gt84).2.2.2 11 (by omega)
  clear gt84
  have gt85 : Al w y8 (w.heap.size + 1 + 1) 3 (fun j => [X, Y, D].getD j 0) := hF8.get (x := (w.heap.size + 1 + 1, 3, (fun j => [X, Y, D].getD j 0))) (by simp)
  have ct8x5c0 := (gt85).2.2.1 0 (by omega)
  have ct8x5f0 := (gt85).2.2.2 0 (by omega)
  have ct8x5c1 := (gt85).2.2.1 1 (by omega)
  have ct8x5f1 := (gt85).2.2.2 1 (by omega)
  have ct8x5c2 := (gt85).2.2.1 2 (by omega)
  have ct8x5f2 := (gt85).2.2.2 2 (by omega)
  clear gt85
  refine hK.out _ _ ?_ (fun hHeld => ?_)
  · (try dsimp only)
    (first | (go_simp; done) | (go_keep; done))
  clear hK K
  (try simp only [Act.put, List.setIfInBounds_toArray, List.set_cons_zero, List.set_cons_succ])
  (refine tk 9 ⟨_, _, _, _, _, _⟩ rfl (by kernel_rfl) (fun _ _ _ h => h) (by rfl) hHeld (by intro w s; (try dsimp only at s); go_simp; (try with_reducible rfl)) ?_; (try simp only [Act.put, List.setIfInBounds_toArray, List.set_cons_zero, List.set_cons_succ]))
  refine wpAnyH_done (by kernel_rfl) ?_ _
  go_wp2_with fail
  refine bodyPost_ret (v := .tuple #[bodyW V, bodyW U, s3 X Y D, .bool (v4 == 0)]) (by simp [results, Try.results9, go_sem, *]) rfl ⟨V, U, X, Y, D, v4, rfl, hXY, ?_⟩
  exact hF8.bel
end Go.Proofs.Ytpgoicdblbpcaaa
namespace Go.Proofs.Ytpgoicdblbpcaaa
open Go.RowKit
set_option linter.unusedVariables false
set_option linter.unusedSimpArgs false

theorem po_q (V1 V2 : Nat → Int) (x y k X Y : Int) (bo : Bool) (w : World) (eX : poX V1 V2 x y k bo = X) (eY : poY V1 V2 x y k bo = Y) : Calls Try.prog 10 #[bodyW V1, bodyW V2, s3 x y k, .bool bo] w fun e w' => e = .returned (vv X Y) ∧ Below w.heap.size w w' := by
  subst eX; subst eY; exact pushOf_any V1 V2 x y k bo w
theorem spo_q (V1 V2 : Nat → Int) (x y k X Y : Int) (bo : Bool) (w : World) (eX : poX V1 V2 x y k bo = X) (eY : poY V1 V2 x y k bo = Y) : Calls Try.prog 11 #[bodyW V1, bodyW V2, s3 x y k, .bool bo] w fun e w' => e = .returned (vv X Y) ∧ Below w.heap.size w w' := by
  subst eX; subst eY; exact sPushOf_any V1 V2 x y k bo w
theorem clo2_q (V1 V2 : Nat → Int) (x y k r : Int) (w : World) (e : clV V1 V2 x y k = r) : Calls Try.prog 7 #[bodyW V1, bodyW V2, s3 x y k] w fun e w' => e = .returned (.int .i64 r) ∧ Below w.heap.size w w' := by
  subst e; exact closingI_any V1 V2 x y k w
theorem sbok_q (V : Nat → Int) (b : Bool) (w : World) (e : bodyB V = b) : Calls Try.prog 12 #[bodyW V] w fun e w' => e = .returned (.bool b) ∧ Below w.heap.size w w' := by
  exact sBodyOk_q V b w e
theorem bodyB_parts {V : Nat → Int} (h : bodyB V = true) : (0 ≤ V 8 ∧ V 8 ≤ 1000) ∧ (0 ≤ V 9 ∧ V 9 ≤ 256) ∧ (0 ≤ V 10 ∧ V 10 ≤ 256) := by
  unfold bodyB at h; simp only [Bool.and_eq_true, decide_eq_true_eq] at h; omega
/-- what does not come nearer, and what can't move, is not pushed -/
theorem po_none {V U : Nat → Int} {x y k : Int} {bo : Bool} (h : clV V U x y k ≤ 0 ∨ (V 8 = 0 ∧ U 8 = 0)) : poX V U x y k bo = 0 ∧ poY V U x y k bo = 0 := by
  unfold poX poY clV at *
  split
  · rename_i q
    rw [if_pos q] at h
    unfold puX puY
    split
    · exact ⟨rfl, rfl⟩
    · rename_i n
      rcases h with h | ⟨h1, h2⟩
      · exact absurd h n
      · have t0 : ∀ m, togV V U m = 0 := by intro m; unfold togV; rw [if_pos (.inl h1), h1, h2]; simp
        have p0 : pP V U x y bo = 0 := t0 _
        have a0 : pA V U x y bo = 0 := by unfold pA pM; rw [p0, Int.zero_mul, Int.zero_tdiv, clamp0]
        rw [p0, a0]
        simp only [Int.zero_mul, Int.add_zero, Int.zero_tdiv]
        exact ⟨rfl, rfl⟩
  · exact ⟨rfl, rfl⟩
theorem po_bd (V U : Nat → Int) (x y k : Int) (bo : Bool) : (-20000000 ≤ poX V U x y k bo ∧ poX V U x y k bo ≤ 20000000) ∧ (-20000000 ≤ poY V U x y k bo ∧ poY V U x y k bo ≤ 20000000) := by
  unfold poX poY puX puY
  constructor
  · split
    · split
      · omega
      · exact clampZ_bd _ (by decide)
    · omega
  · split
    · split
      · omega
      · exact clampZ_bd _ (by decide)
    · omega
theorem po_law {V V' U : Nat → Int} {x y k : Int} (hV : bodyB V = true) (hU : bodyB U = true) (hV' : ∀ j, V' j = if j = 10 then 0 else V j) (hc : 0 < clV V U x y k) :
    (0 ≤ poX V' U x y k false * x ∧ 0 ≤ poY V' U x y k false * y) ∧ absZ (poX V' U x y k false) ≤ absZ (poX V' U x y k true) ∧ absZ (poY V' U x y k false) ≤ absZ (poY V' U x y k true) := by
  have e : ∀ j, j ≠ 10 → V' j = V j := by intro j hj; rw [hV', if_neg hj]
  have e10 : V' 10 = 0 := by rw [hV', if_pos rfl]
  obtain ⟨a8, a9, a10⟩ := bodyB_parts hV
  obtain ⟨b8, b9, b10⟩ := bodyB_parts hU
  have hV2 : bodyB V' = true := by
    unfold bodyB restB at hV ⊢
    rw [e 0 (by decide), e 1 (by decide), e 2 (by decide), e 3 (by decide), e 4 (by decide), e 5 (by decide), e 6 (by decide), e 7 (by decide), e 8 (by decide), e 9 (by decide), e 11 (by decide), e10]
    simp only [Bool.and_eq_true, decide_eq_true_eq] at hV ⊢
    exact ⟨hV.1, hV.2.1, hV.2.2.1, hV.2.2.2.1, hV.2.2.2.2.1, hV.2.2.2.2.2.1, (by omega), hV.2.2.2.2.2.2.2.1, hV.2.2.2.2.2.2.2.2⟩
  have hcl : closeV V' U x y = closeV V U x y := by unfold closeV spX spY; rw [e 6 (by decide), e 7 (by decide), e 8 (by decide)]
  unfold clV at hc
  split at hc
  · rename_i q
    simp only [Bool.and_eq_true] at q
    have q2 : (bodyB V' && (bodyB U && hitB x y k)) = true := by rw [hV2, q.2.1, q.2.2]; rfl
    unfold poX poY
    simp only [if_pos q2]
    rw [← hcl] at hc
    exact push_law hc (by rw [e 8 (by decide)]; omega) (by omega) (by rw [e 9 (by decide)]; omega) (by omega) e10 (by omega)
  · omega
set_option maxRecDepth 20000 in
set_option maxHeartbeats 16000000 in
theorem fnPushOf_walk (a : Option Addr) (len cap : Nat) (w : World) (hb : Bytes w a len cap) :
    Calls Try.prog 4 #[.slice a len cap] w fun e w' => e = .returned (.bool true) ∧ Below w.heap.size w w' := by
  have hset := cset_map
  go_enter Try.func4, Try.ntmps4
  go_upto_region 4 with (go_at_call 9; refine (drawPushOf_any _ _ _ _ hb).mono ?_; rintro e w1 ⟨V, U, X, Y, D, nn, rfl, ⟨⟨x1, x2⟩, y1, y2⟩, hb1⟩; generalize (nn == 0) = bo at *)
  · go_wp2_with fail
    go_ret
    exact ⟨rfl, Below.refl _ _⟩
  have hA : AL w (((w1.alloc (.cells #[.int .i64 (V 0), .int .i64 (V 1), .int .i64 (V 2), .int .i64 (V 3), .int .i64 (V 4), .int .i64 (V 5), .int .i64 (V 6), .int .i64 (V 7), .int .i64 (V 8), .int .i64 (V 9), .int .i64 (V 10), .int .i64 (V 11)] 28)).alloc (.cells #[.int .i64 (U 0), .int .i64 (U 1), .int .i64 (U 2), .int .i64 (U 3), .int .i64 (U 4), .int .i64 (U 5), .int .i64 (U 6), .int .i64 (U 7), .int .i64 (U 8), .int .i64 (U 9), .int .i64 (U 10), .int .i64 (U 11)] 28)).alloc (.cells #[.int .i64 X, .int .i64 Y, .int .i64 D] 30)) [(w1.heap.size + 1 + 1, 3, (fun j => [X, Y, D].getD j 0)), (w1.heap.size + 1, 12, U), (w1.heap.size, 12, V)] := (((((AL.nil w).call hb1).new (w1.heap.size) 12 V (by simp) (by intro i hi; rcases (show i = 0 ∨ i = 1 ∨ i = 2 ∨ i = 3 ∨ i = 4 ∨ i = 5 ∨ i = 6 ∨ i = 7 ∨ i = 8 ∨ i = 9 ∨ i = 10 ∨ i = 11 by omega) with rfl | rfl | rfl | rfl | rfl | rfl | rfl | rfl | rfl | rfl | rfl | rfl <;> rfl)).new (w1.heap.size + 1) 12 U (by simp) (by intro i hi; rcases (show i = 0 ∨ i = 1 ∨ i = 2 ∨ i = 3 ∨ i = 4 ∨ i = 5 ∨ i = 6 ∨ i = 7 ∨ i = 8 ∨ i = 9 ∨ i = 10 ∨ i = 11 by omega) with rfl | rfl | rfl | rfl | rfl | rfl | rfl | rfl | rfl | rfl | rfl | rfl <;> rfl)).new (w1.heap.size + 1 + 1) 3 (fun j => [X, Y, D].getD j 0) (by simp) (by intro i hi; rcases (show i = 0 ∨ i = 1 ∨ i = 2 by omega) with rfl | rfl | rfl <;> rfl))
  generalize (((w1.alloc (.cells #[.int .i64 (V 0), .int .i64 (V 1), .int .i64 (V 2), .int .i64 (V 3), .int .i64 (V 4), .int .i64 (V 5), .int .i64 (V 6), .int .i64 (V 7), .int .i64 (V 8), .int .i64 (V 9), .int .i64 (V 10), .int .i64 (V 11)] 28)).alloc (.cells #[.int .i64 (U 0), .int .i64 (U 1), .int .i64 (U 2), .int .i64 (U 3), .int .i64 (U 4), .int .i64 (U 5), .int .i64 (U 6), .int .i64 (U 7), .int .i64 (U 8), .int .i64 (U 9), .int .i64 (U 10), .int .i64 (U 11)] 28)).alloc (.cells #[.int .i64 X, .int .i64 Y, .int .i64 D] 30)) = w0 at *
  generalize w1.heap.size = ab at *
  clear hb1 hb w1
  obtain ⟨PX, eX⟩ : ∃ c, poX V U X Y D bo = c := ⟨_, rfl⟩
  obtain ⟨PY, eY⟩ : ∃ c, poY V U X Y D bo = c := ⟨_, rfl⟩
  have ga0 : Al w w0 (ab) 12 V := hA.get (x := (ab, 12, V)) (by simp)
  have cax0c0 := (ga0).2.2.1 0 (by omega)
  have cax0f0 := (ga0).2.2.2 0 (by omega)
  have cax0c1 := (ga0).2.2.1 1 (by omega)
  have cax0f1 := (ga0).2.2.2 1 (by omega)
  have cax0c2 := (ga0).2.2.1 2 (by omega)
  have cax0f2 := (ga0).2.2.2 2 (by omega)
  have cax0c3 := (ga0).2.2.1 3 (by omega)
  have cax0f3 := (ga0).2.2.2 3 (by omega)
  have cax0c4 := (ga0).2.2.1 4 (by omega)
  have cax0f4 := (ga0).2.2.2 4 (by omega)
  have cax0c5 := (ga0).2.2.1 5 (by omega)
  have cax0f5 := (ga0).2.2.2 5 (by omega)
  have cax0c6 := (ga0).2.2.1 6 (by omega)
  have cax0f6 := (ga0).2.2.2 6 (by omega)
  have cax0c7 := (ga0).2.2.1 7 (by omega)
  have cax0f7 := (ga0).2.2.2 7 (by omega)
  have cax0c8 := (ga0).2.2.1 8 (by omega)
  have cax0f8 := (ga0).2.2.2 8 (by omega)
  have cax0c9 := (ga0).2.2.1 9 (by omega)
  have cax0f9 := (ga0).2.2.2 9 (by omega)
  have cax0c10 := (ga0).2.2.1 10 (by omega)
  have cax0f10 := (ga0).2.2.2 10 (by omega)
  have cax0c11 := (ga0).2.2.1 11 (by omega)
  have cax0f11 := (ga0).2.2.2 11 (by omega)
  clear ga0
  have ga1 : Al w w0 (ab + 1) 12 U := hA.get (x := (ab + 1, 12, U)) (by simp)
  have cax1c0 := (ga1).2.2.1 0 (by omega)
  have cax1f0 := (ga1).2.2.2 0 (by omega)
  have cax1c1 := (ga1).2.2.1 1 (by omega)
  have cax1f1 := (ga1).2.2.2 1 (by omega)
  have cax1c2 := (ga1).2.2.1 2 (by omega)
  have cax1f2 := (ga1).2.2.2 2 (by omega)
  have cax1c3 := (ga1).2.2.1 3 (by omega)
  have cax1f3 := (ga1).2.2.2 3 (by omega)
  have cax1c4 := (ga1).2.2.1 4 (by omega)
  have cax1f4 := (ga1).2.2.2 4 (by omega)
  have cax1c5 := (ga1).2.2.1 5 (by omega)
  have cax1f5 := (ga1).2.2.2 5 (by omega)
  have cax1c6 := (ga1).2.2.1 6 (by omega)
  have cax1f6 := (ga1).2.2.2 6 (by omega)
  have cax1c7 := (ga1).2.2.1 7 (by omega)
  have cax1f7 := (ga1).2.2.2 7 (by omega)
  have cax1c8 := (ga1).2.2.1 8 (by omega)
  have cax1f8 := (ga1).2.2.2 8 (by omega)
  have cax1c9 := (ga1).2.2.1 9 (by omega)
  have cax1f9 := (ga1).2.2.2 9 (by omega)
  have cax1c10 := (ga1).2.2.1 10 (by omega)
  have cax1f10 := (ga1).2.2.2 10 (by omega)
  have cax1c11 := (ga1).2.2.1 11 (by omega)
  have cax1f11 := (ga1).2.2.2 11 (by omega)
  clear ga1
  have ga2 : Al w w0 (ab + 1 + 1) 3 (fun j => [X, Y, D].getD j 0) := hA.get (x := (ab + 1 + 1, 3, (fun j => [X, Y, D].getD j 0))) (by simp)
  have cax2c0 := (ga2).2.2.1 0 (by omega)
  have cax2f0 := (ga2).2.2.2 0 (by omega)
  have cax2c1 := (ga2).2.2.1 1 (by omega)
  have cax2f1 := (ga2).2.2.2 1 (by omega)
  have cax2c2 := (ga2).2.2.1 2 (by omega)
  have cax2f2 := (ga2).2.2.2 2 (by omega)
  clear ga2
  go_cut [7] (fun s7 wc => ∃ pb : Nat, s7 = .pointer (some ⟨pb, 0, none⟩) ∧ (ab + 1 + 1 < pb) ∧ AL w wc [(pb, 2, (fun j => [PX, PY].getD j 0)), (ab + 1 + 1, 3, (fun j => [X, Y, D].getD j 0)), (ab + 1, 12, U), (ab, 12, V)])
  case first =>
    go_wp2_with (go_at_call 10; refine (po_q V U X Y D PX PY bo _ (by with_reducible assumption) (by with_reducible assumption)).mono ?_; rintro e w2 ⟨rfl, hb2⟩)
    go_meet
    have hA2 := hA.call hb2
    have q1 : ab + 1 + 1 < w2.heap.size := hA2.lt (x := (ab + 1 + 1, 3, (fun j => [X, Y, D].getD j 0))) (by simp)
    exact ⟨_, rfl, q1, hA2.new _ 2 _ rfl (by intro i hi; rcases (show i = 0 ∨ i = 1 by omega) with rfl | rfl <;> rfl)⟩
  case rest =>
  clear hA cax0c0 cax0f0 cax0c1 cax0f1 cax0c2 cax0f2 cax0c3 cax0f3 cax0c4 cax0f4 cax0c5 cax0f5 cax0c6 cax0f6 cax0c7 cax0f7 cax0c8 cax0f8 cax0c9 cax0f9 cax0c10 cax0f10 cax0c11 cax0f11 cax1c0 cax1f0 cax1c1 cax1f1 cax1c2 cax1f2 cax1c3 cax1f3 cax1c4 cax1f4 cax1c5 cax1f5 cax1c6 cax1f6 cax1c7 cax1f7 cax1c8 cax1f8 cax1c9 cax1f9 cax1c10 cax1f10 cax1c11 cax1f11 cax2c0 cax2f0 cax2c1 cax2f1 cax2c2 cax2f2
  obtain ⟨pb, rfl, lpb, hA⟩ := hcut
  have gb0 : Al w wc (ab) 12 V := hA.get (x := (ab, 12, V)) (by simp)
  have cbx0c0 := (gb0).2.2.1 0 (by omega)
  have cbx0f0 := (gb0).2.2.2 0 (by omega)
  have cbx0c1 := (gb0).2.2.1 1 (by omega)
  have cbx0f1 := (gb0).2.2.2 1 (by omega)
  have cbx0c2 := (gb0).2.2.1 2 (by omega)
  have cbx0f2 := (gb0).2.2.2 2 (by omega)
  have cbx0c3 := (gb0).2.2.1 3 (by omega)
  have cbx0f3 := (gb0).2.2.2 3 (by omega)
  have cbx0c4 := (gb0).2.2.1 4 (by omega)
  have cbx0f4 := (gb0).2.2.2 4 (by omega)
  have cbx0c5 := (gb0).2.2.1 5 (by omega)
  have cbx0f5 := (gb0).2.2.2 5 (by omega)
  have cbx0c6 := (gb0).2.2.1 6 (by omega)
  have cbx0f6 := (gb0).2.2.2 6 (by omega)
  have cbx0c7 := (gb0).2.2.1 7 (by omega)
  have cbx0f7 := (gb0).2.2.2 7 (by omega)
  have cbx0c8 := (gb0).2.2.1 8 (by omega)
  have cbx0f8 := (gb0).2.2.2 8 (by omega)
  have cbx0c9 := (gb0).2.2.1 9 (by omega)
  have cbx0f9 := (gb0).2.2.2 9 (by omega)
  have cbx0c10 := (gb0).2.2.1 10 (by omega)
  have cbx0f10 := (gb0).2.2.2 10 (by omega)
  have cbx0c11 := (gb0).2.2.1 11 (by omega)
  have cbx0f11 := (gb0).2.2.2 11 (by omega)
  clear gb0
  have gb1 : Al w wc (ab + 1) 12 U := hA.get (x := (ab + 1, 12, U)) (by simp)
  have cbx1c0 := (gb1).2.2.1 0 (by omega)
  have cbx1f0 := (gb1).2.2.2 0 (by omega)
  have cbx1c1 := (gb1).2.2.1 1 (by omega)
  have cbx1f1 := (gb1).2.2.2 1 (by omega)
  have cbx1c2 := (gb1).2.2.1 2 (by omega)
  have cbx1f2 := (gb1).2.2.2 2 (by omega)
  have cbx1c3 := (gb1).2.2.1 3 (by omega)
  have cbx1f3 := (gb1).2.2.2 3 (by omega)
  have cbx1c4 := (gb1).2.2.1 4 (by omega)
  have cbx1f4 := (gb1).2.2.2 4 (by omega)
  have cbx1c5 := (gb1).2.2.1 5 (by omega)
  have cbx1f5 := (gb1).2.2.2 5 (by omega)
  have cbx1c6 := (gb1).2.2.1 6 (by omega)
  have cbx1f6 := (gb1).2.2.2 6 (by omega)
  have cbx1c7 := (gb1).2.2.1 7 (by omega)
  have cbx1f7 := (gb1).2.2.2 7 (by omega)
  have cbx1c8 := (gb1).2.2.1 8 (by omega)
  have cbx1f8 := (gb1).2.2.2 8 (by omega)
  have cbx1c9 := (gb1).2.2.1 9 (by omega)
  have cbx1f9 := (gb1).2.2.2 9 (by omega)
  have cbx1c10 := (gb1).2.2.1 10 (by omega)
  have cbx1f10 := (gb1).2.2.2 10 (by omega)
  have cbx1c11 := (gb1).2.2.1 11 (by omega)
  have cbx1f11 := (gb1).2.2.2 11 (by omega)
  clear gb1
  have gb2 : Al w wc (ab + 1 + 1) 3 (fun j => [X, Y, D].getD j 0) := hA.get (x := (ab + 1 + 1, 3, (fun j => [X, Y, D].getD j 0))) (by simp)
  have cbx2c0 := (gb2).2.2.1 0 (by omega)
  have cbx2f0 := (gb2).2.2.2 0 (by omega)
  have cbx2c1 := (gb2).2.2.1 1 (by omega)
  have cbx2f1 := (gb2).2.2.2 1 (by omega)
  have cbx2c2 := (gb2).2.2.1 2 (by omega)
  have cbx2f2 := (gb2).2.2.2 2 (by omega)
  clear gb2
  have gb3 : Al w wc (pb) 2 (fun j => [PX, PY].getD j 0) := hA.get (x := (pb, 2, (fun j => [PX, PY].getD j 0))) (by simp)
  have cbx3c0 := (gb3).2.2.1 0 (by omega)
  have cbx3f0 := (gb3).2.2.2 0 (by omega)
  have cbx3c1 := (gb3).2.2.1 1 (by omega)
  have cbx3f1 := (gb3).2.2.2 1 (by omega)
  clear gb3
  go_upto_region 5 with fail
  cases h1 : bodyB V with
  | false =>
    refine wp_region_held_drew (S := fun w' => w'.cell? ⟨ab, 0, none⟩ = some (.int .i64 (V 0)) ∧ w'.cell? ⟨ab, 1, none⟩ = some (.int .i64 (V 1)) ∧ w'.cell? ⟨ab, 2, none⟩ = some (.int .i64 (V 2)) ∧ w'.cell? ⟨ab, 3, none⟩ = some (.int .i64 (V 3)) ∧ w'.cell? ⟨ab, 4, none⟩ = some (.int .i64 (V 4)) ∧ w'.cell? ⟨ab, 5, none⟩ = some (.int .i64 (V 5)) ∧ w'.cell? ⟨ab, 6, none⟩ = some (.int .i64 (V 6)) ∧ w'.cell? ⟨ab, 7, none⟩ = some (.int .i64 (V 7)) ∧ w'.cell? ⟨ab, 8, none⟩ = some (.int .i64 (V 8)) ∧ w'.cell? ⟨ab, 9, none⟩ = some (.int .i64 (V 9)) ∧ w'.cell? ⟨ab, 10, none⟩ = some (.int .i64 (V 10)) ∧ w'.cell? ⟨ab, 11, none⟩ = some (.int .i64 (V 11)) ∧ w'.cell? ⟨ab + 1, 0, none⟩ = some (.int .i64 (U 0)) ∧ w'.cell? ⟨ab + 1, 1, none⟩ = some (.int .i64 (U 1)) ∧ w'.cell? ⟨ab + 1, 2, none⟩ = some (.int .i64 (U 2)) ∧ w'.cell? ⟨ab + 1, 3, none⟩ = some (.int .i64 (U 3)) ∧ w'.cell? ⟨ab + 1, 4, none⟩ = some (.int .i64 (U 4)) ∧ w'.cell? ⟨ab + 1, 5, none⟩ = some (.int .i64 (U 5)) ∧ w'.cell? ⟨ab + 1, 6, none⟩ = some (.int .i64 (U 6)) ∧ w'.cell? ⟨ab + 1, 7, none⟩ = some (.int .i64 (U 7)) ∧ w'.cell? ⟨ab + 1, 8, none⟩ = some (.int .i64 (U 8)) ∧ w'.cell? ⟨ab + 1, 9, none⟩ = some (.int .i64 (U 9)) ∧ w'.cell? ⟨ab + 1, 10, none⟩ = some (.int .i64 (U 10)) ∧ w'.cell? ⟨ab + 1, 11, none⟩ = some (.int .i64 (U 11)) ∧ w'.cell? ⟨ab + 1 + 1, 0, none⟩ = some (.int .i64 X) ∧ w'.cell? ⟨ab + 1 + 1, 1, none⟩ = some (.int .i64 Y) ∧ w'.cell? ⟨ab + 1 + 1, 2, none⟩ = some (.int .i64 D) ∧ w'.cell? ⟨pb, 0, none⟩ = some (.int .i64 PX) ∧ w'.cell? ⟨pb, 1, none⟩ = some (.int .i64 PY)) (by kernel_rfl) ?_ (fun hHeld => ?_)
    · (try dsimp only)
      (first | (go_simp; done) | (go_keep; done))
    (refine tk 0 ⟨_, _, _, _, _, _⟩ rfl (by kernel_rfl) (fun _ _ _ h => h) (by rfl) hHeld (by intro w s; (try dsimp only at s); go_simp; (try with_reducible rfl)) ?_; (try simp only [Act.put, List.setIfInBounds_toArray, List.set_cons_zero, List.set_cons_succ]))
    (refine tk 1 ⟨_, _, _, _, _, _⟩ rfl (by kernel_rfl) (fun _ _ _ h => h) (by rfl) hHeld (by intro w s; (try dsimp only at s); go_simp; (try with_reducible rfl)) ?_; (try simp only [Act.put, List.setIfInBounds_toArray, List.set_cons_zero, List.set_cons_succ]))
    (refine tk 2 ⟨_, _, _, _, _, _⟩ rfl (by kernel_rfl) (fun _ _ _ h => h) (by rfl) hHeld (by intro w s; (try dsimp only at s); go_simp; (try with_reducible rfl)) ?_; (try simp only [Act.put, List.setIfInBounds_toArray, List.set_cons_zero, List.set_cons_succ]))
    (refine tk 3 ⟨_, _, _, _, _, _⟩ rfl (by kernel_rfl) (fun _ _ _ h => h) (by rfl) hHeld (by intro w s; (try dsimp only at s); go_simp; (try with_reducible rfl)) ?_; (try simp only [Act.put, List.setIfInBounds_toArray, List.set_cons_zero, List.set_cons_succ]))
    (refine tk 4 ⟨_, _, _, _, _, _⟩ rfl (by kernel_rfl) (fun _ _ _ h => h) (by rfl) hHeld (by intro w s; (try dsimp only at s); go_simp; (try with_reducible rfl)) ?_; (try simp only [Act.put, List.setIfInBounds_toArray, List.set_cons_zero, List.set_cons_succ]))
    (refine wpAnyH_ready (rs := [5]) (by kernel_rfl) (by simp) ?_; refine AllReadyH.cons (o := ⟨_, _, _, _, _, _⟩) rfl (fun K hK => ?_) AllReadyH.nil; go_simp; (go_at_call 11; refine (spo_q V U X Y D PX PY bo _ (by with_reducible assumption) (by with_reducible assumption)).mono ?_; rintro e w5 ⟨rfl, hb5⟩; have hA5 := hA.drew.call hb5; have gy50 : Al w w5 (ab) 12 V := hA5.get (x := (ab, 12, V)) (by simp); have cy5x0c0 := (gy50).2.2.1 0 (by omega); have cy5x0f0 := (gy50).2.2.2 0 (by omega); have cy5x0c1 := (gy50).2.2.1 1 (by omega); have cy5x0f1 := (gy50).2.2.2 1 (by omega); have cy5x0c2 := (gy50).2.2.1 2 (by omega); have cy5x0f2 := (gy50).2.2.2 2 (by omega); have cy5x0c3 := (gy50).2.2.1 3 (by omega); have cy5x0f3 := (gy50).2.2.2 3 (by omega); have cy5x0c4 := (gy50).2.2.1 4 (by omega); have cy5x0f4 := (gy50).2.2.2 4 (by omega); have cy5x0c5 := (gy50).2.2.1 5 (by omega); have cy5x0f5 := (gy50).2.2.2 5 (by omega); have cy5x0c6 := (gy50).2.2.1 6 (by omega); have cy5x0f6 := (gy50).2.2.2 6 (by omega); have cy5x0c7 := (gy50).2.2.1 7 (by omega); have cy5x0f7 := (gy50).2.2.2 7 (by omega); have cy5x0c8 := (gy50).2.2.1 8 (by omega); have cy5x0f8 := (gy50).2.2.2 8 (by omega); have cy5x0c9 := (gy50).2.2.1 9 (by omega); have cy5x0f9 := (gy50).2.2.2 9 (by omega); have cy5x0c10 := (gy50).2.2.1 10 (by omega); have cy5x0f10 := (gy50).2.2.2 10 (by omega); have cy5x0c11 := (gy50).2.2.1 11 (by omega); have cy5x0f11 := (gy50).2.2.2 11 (by omega); clear gy50; have gy51 : Al w w5 (ab + 1) 12 U := hA5.get (x := (ab + 1, 12, U)) (by simp); have cy5x1c0 := (gy51).2.2.1 0 (by omega); have cy5x1f0 := (gy51).2.2.2 0 (by omega); have cy5x1c1 := (gy51).2.2.1 1 (by omega); have cy5x1f1 := (gy51).2.2.2 1 (by omega); have cy5x1c2 := (gy51).2.2.1 2 (by omega); have cy5x1f2 := (gy51).2.2.2 2 (by omega); have cy5x1c3 := (gy51).2.2.1 3 (by omega); have cy5x1f3 := (gy51).2.2.2 3 (by omega); have cy5x1c4 := (gy51).2.2.1 4 (by omega); have cy5x1f4 := (gy51).2.2.2 4 (by omega); have cy5x1c5 := (gy51).2.2.1 5 (by omega); have cy5x1f5 := (gy51).2.2.2 5 (by omega); have cy5x1c6 := (gy51).2.2.1 6 (by omega); have cy5x1f6 := (gy51).2.2.2 6 (by omega); have cy5x1c7 := (gy51).2.2.1 7 (by omega); have cy5x1f7 := (gy51).2.2.2 7 (by omega); have cy5x1c8 := (gy51).2.2.1 8 (by omega); have cy5x1f8 := (gy51).2.2.2 8 (by omega); have cy5x1c9 := (gy51).2.2.1 9 (by omega); have cy5x1f9 := (gy51).2.2.2 9 (by omega); have cy5x1c10 := (gy51).2.2.1 10 (by omega); have cy5x1f10 := (gy51).2.2.2 10 (by omega); have cy5x1c11 := (gy51).2.2.1 11 (by omega); have cy5x1f11 := (gy51).2.2.2 11 (by omega); clear gy51; have gy52 : Al w w5 (ab + 1 + 1) 3 (fun j => [X, Y, D].getD j 0) := hA5.get (x := (ab + 1 + 1, 3, (fun j => [X, Y, D].getD j 0))) (by simp); have cy5x2c0 := (gy52).2.2.1 0 (by omega); have cy5x2f0 := (gy52).2.2.2 0 (by omega); have cy5x2c1 := (gy52).2.2.1 1 (by omega); have cy5x2f1 := (gy52).2.2.2 1 (by omega); have cy5x2c2 := (gy52).2.2.1 2 (by omega); have cy5x2f2 := (gy52).2.2.2 2 (by omega); clear gy52; have gy53 : Al w w5 (pb) 2 (fun j => [PX, PY].getD j 0) := hA5.get (x := (pb, 2, (fun j => [PX, PY].getD j 0))) (by simp); have cy5x3c0 := (gy53).2.2.1 0 (by omega); have cy5x3f0 := (gy53).2.2.2 0 (by omega); have cy5x3c1 := (gy53).2.2.1 1 (by omega); have cy5x3f1 := (gy53).2.2.2 1 (by omega); clear gy53); (try go_wp2_with fail); refine hK.out _ _ ?_ (fun hHeld => ?_); (focus ((try dsimp only); (first | (go_simp; done) | (go_keep; done)))); clear hK K; (try simp only [Act.put, List.setIfInBounds_toArray, List.set_cons_zero, List.set_cons_succ]))
    (refine tk 6 ⟨_, _, _, _, _, _⟩ rfl (by kernel_rfl) (fun _ _ _ h => h) (by rfl) hHeld (by intro w s; (try dsimp only at s); go_simp; (try with_reducible rfl)) ?_; (try simp only [Act.put, List.setIfInBounds_toArray, List.set_cons_zero, List.set_cons_succ]))
    (refine tk 7 ⟨_, _, _, _, _, _⟩ rfl (by kernel_rfl) (fun _ _ _ h => h) (by rfl) hHeld (by intro w s; (try dsimp only at s); go_simp; (try with_reducible rfl)) ?_; (try simp only [Act.put, List.setIfInBounds_toArray, List.set_cons_zero, List.set_cons_succ]))
    (refine tk 8 ⟨_, _, _, _, _, _⟩ rfl (by kernel_rfl) (fun _ _ _ h => h) (by rfl) hHeld (by intro w s; (try dsimp only at s); go_simp; (try with_reducible rfl)) ?_; (try simp only [Act.put, List.setIfInBounds_toArray, List.set_cons_zero, List.set_cons_succ]))
    (refine wpAnyH_ready (rs := [9]) (by kernel_rfl) (by simp) ?_; refine AllReadyH.cons (o := ⟨_, _, _, _, _, _⟩) rfl (fun K hK => ?_) AllReadyH.nil; go_simp; (go_at_call 12; refine (sbok_q V _ _ (by with_reducible assumption)).mono ?_; rintro e w6 ⟨rfl, hb6⟩; have hA6 := hA5.call hb6; have gy60 : Al w w6 (ab) 12 V := hA6.get (x := (ab, 12, V)) (by simp); have cy6x0c0 := (gy60).2.2.1 0 (by omega); have cy6x0f0 := (gy60).2.2.2 0 (by omega); have cy6x0c1 := (gy60).2.2.1 1 (by omega); have cy6x0f1 := (gy60).2.2.2 1 (by omega); have cy6x0c2 := (gy60).2.2.1 2 (by omega); have cy6x0f2 := (gy60).2.2.2 2 (by omega); have cy6x0c3 := (gy60).2.2.1 3 (by omega); have cy6x0f3 := (gy60).2.2.2 3 (by omega); have cy6x0c4 := (gy60).2.2.1 4 (by omega); have cy6x0f4 := (gy60).2.2.2 4 (by omega); have cy6x0c5 := (gy60).2.2.1 5 (by omega); have cy6x0f5 := (gy60).2.2.2 5 (by omega); have cy6x0c6 := (gy60).2.2.1 6 (by omega); have cy6x0f6 := (gy60).2.2.2 6 (by omega); have cy6x0c7 := (gy60).2.2.1 7 (by omega); have cy6x0f7 := (gy60).2.2.2 7 (by omega); have cy6x0c8 := (gy60).2.2.1 8 (by omega); have cy6x0f8 := (gy60).2.2.2 8 (by omega); have cy6x0c9 := (gy60).2.2.1 9 (by omega); have cy6x0f9 := (gy60).2.2.2 9 (by omega); have cy6x0c10 := (gy60).2.2.1 10 (by omega); have cy6x0f10 := (gy60).2.2.2 10 (by omega); have cy6x0c11 := (gy60).2.2.1 11 (by omega); have cy6x0f11 := (gy60).2.2.2 11 (by omega); clear gy60; have gy61 : Al w w6 (ab + 1) 12 U := hA6.get (x := (ab + 1, 12, U)) (by simp); have cy6x1c0 := (gy61).2.2.1 0 (by omega); have cy6x1f0 := (gy61).2.2.2 0 (by omega); have cy6x1c1 := (gy61).2.2.1 1 (by omega); have cy6x1f1 := (gy61).2.2.2 1 (by omega); have cy6x1c2 := (gy61).2.2.1 2 (by omega); have cy6x1f2 := (gy61).2.2.2 2 (by omega); have cy6x1c3 := (gy61).2.2.1 3 (by omega); have cy6x1f3 := (gy61).2.2.2 3 (by omega); have cy6x1c4 := (gy61).2.2.1 4 (by omega); have cy6x1f4 := (gy61).2.2.2 4 (by omega); have cy6x1c5 := (gy61).2.2.1 5 (by omega); have cy6x1f5 := (gy61).2.2.2 5 (by omega); have cy6x1c6 := (gy61).2.2.1 6 (by omega); have cy6x1f6 := (gy61).2.2.2 6 (by omega); have cy6x1c7 := (gy61).2.2.1 7 (by omega); have cy6x1f7 := (gy61).2.2.2 7 (by omega); have cy6x1c8 := (gy61).2.2.1 8 (by omega); have cy6x1f8 := (gy61).2.2.2 8 (by omega); have cy6x1c9 := (gy61).2.2.1 9 (by omega); have cy6x1f9 := (gy61).2.2.2 9 (by omega); have cy6x1c10 := (gy61).2.2.1 10 (by omega); have cy6x1f10 := (gy61).2.2.2 10 (by omega); have cy6x1c11 := (gy61).2.2.1 11 (by omega); have cy6x1f11 := (gy61).2.2.2 11 (by omega); clear gy61; have gy62 : Al w w6 (ab + 1 + 1) 3 (fun j => [X, Y, D].getD j 0) := hA6.get (x := (ab + 1 + 1, 3, (fun j => [X, Y, D].getD j 0))) (by simp); have cy6x2c0 := (gy62).2.2.1 0 (by omega); have cy6x2f0 := (gy62).2.2.2 0 (by omega); have cy6x2c1 := (gy62).2.2.1 1 (by omega); have cy6x2f1 := (gy62).2.2.2 1 (by omega); have cy6x2c2 := (gy62).2.2.1 2 (by omega); have cy6x2f2 := (gy62).2.2.2 2 (by omega); clear gy62; have gy63 : Al w w6 (pb) 2 (fun j => [PX, PY].getD j 0) := hA6.get (x := (pb, 2, (fun j => [PX, PY].getD j 0))) (by simp); have cy6x3c0 := (gy63).2.2.1 0 (by omega); have cy6x3f0 := (gy63).2.2.2 0 (by omega); have cy6x3c1 := (gy63).2.2.1 1 (by omega); have cy6x3f1 := (gy63).2.2.2 1 (by omega); clear gy63); (try go_wp2_with fail); refine hK.out _ _ ?_ (fun hHeld => ?_); (focus ((try dsimp only); (first | (go_simp; done) | (go_keep; done)))); clear hK K; (try simp only [Act.put, List.setIfInBounds_toArray, List.set_cons_zero, List.set_cons_succ]))
    (refine tk 10 ⟨_, _, _, _, _, _⟩ rfl (by kernel_rfl) (fun _ _ _ h => h) (by rfl) hHeld (by intro w s; (try dsimp only at s); go_simp; (try with_reducible rfl)) ?_; (try simp only [Act.put, List.setIfInBounds_toArray, List.set_cons_zero, List.set_cons_succ]))
    (refine tk 11 ⟨_, _, _, _, _, _⟩ rfl (by kernel_rfl) (fun _ _ _ h => h) (by rfl) hHeld (by intro w s; (try dsimp only at s); go_simp; (try with_reducible rfl)) ?_; (try simp only [Act.put, List.setIfInBounds_toArray, List.set_cons_zero, List.set_cons_succ]))
    (refine tk 12 ⟨_, _, _, _, _, _⟩ rfl (by kernel_rfl) (fun _ _ _ h => h) (by rfl) hHeld (by intro w s; (try dsimp only at s); go_simp; (try with_reducible rfl)) ?_; (try simp only [Act.put, List.setIfInBounds_toArray, List.set_cons_zero, List.set_cons_succ]))
    (refine wpAnyH_take (i := 13) (oi := ⟨_, _, _, _, _, _⟩) (v := undef) rfl (by kernel_rfl) (by kernel_rfl) (by kernel_rfl) (fun _ _ _ h => h) (Or.inr ⟨by rfl, rfl⟩) hHeld ?_; (try simp only [Act.put, List.setIfInBounds_toArray, List.set_cons_zero, List.set_cons_succ]))
    (refine wpAnyH_take (i := 14) (oi := ⟨_, _, _, _, _, _⟩) (v := undef) rfl (by kernel_rfl) (by kernel_rfl) (by kernel_rfl) (fun _ _ _ h => h) (Or.inr ⟨by rfl, rfl⟩) hHeld ?_; (try simp only [Act.put, List.setIfInBounds_toArray, List.set_cons_zero, List.set_cons_succ]))
    (refine wpAnyH_take (i := 15) (oi := ⟨_, _, _, _, _, _⟩) (v := undef) rfl (by kernel_rfl) (by kernel_rfl) (by kernel_rfl) (fun _ _ _ h => h) (Or.inr ⟨by rfl, rfl⟩) hHeld ?_; (try simp only [Act.put, List.setIfInBounds_toArray, List.set_cons_zero, List.set_cons_succ]))
    (refine tk 16 ⟨_, _, _, _, _, _⟩ rfl (by kernel_rfl) (fun _ _ _ h => h) (by rfl) hHeld (by intro w s; (try dsimp only at s); go_simp; (try with_reducible rfl)) ?_; (try simp only [Act.put, List.setIfInBounds_toArray, List.set_cons_zero, List.set_cons_succ]))
    refine wpAnyH_done (by kernel_rfl) ?_ _
    go_upto_region 6 with fail
    refine wp_region_held_drew (S := fun w' => w'.cell? ⟨ab, 0, none⟩ = some (.int .i64 (V 0)) ∧ w'.cell? ⟨ab, 1, none⟩ = some (.int .i64 (V 1)) ∧ w'.cell? ⟨ab, 2, none⟩ = some (.int .i64 (V 2)) ∧ w'.cell? ⟨ab, 3, none⟩ = some (.int .i64 (V 3)) ∧ w'.cell? ⟨ab, 4, none⟩ = some (.int .i64 (V 4)) ∧ w'.cell? ⟨ab, 5, none⟩ = some (.int .i64 (V 5)) ∧ w'.cell? ⟨ab, 6, none⟩ = some (.int .i64 (V 6)) ∧ w'.cell? ⟨ab, 7, none⟩ = some (.int .i64 (V 7)) ∧ w'.cell? ⟨ab, 8, none⟩ = some (.int .i64 (V 8)) ∧ w'.cell? ⟨ab, 9, none⟩ = some (.int .i64 (V 9)) ∧ w'.cell? ⟨ab, 10, none⟩ = some (.int .i64 (V 10)) ∧ w'.cell? ⟨ab, 11, none⟩ = some (.int .i64 (V 11)) ∧ w'.cell? ⟨ab + 1, 0, none⟩ = some (.int .i64 (U 0)) ∧ w'.cell? ⟨ab + 1, 1, none⟩ = some (.int .i64 (U 1)) ∧ w'.cell? ⟨ab + 1, 2, none⟩ = some (.int .i64 (U 2)) ∧ w'.cell? ⟨ab + 1, 3, none⟩ = some (.int .i64 (U 3)) ∧ w'.cell? ⟨ab + 1, 4, none⟩ = some (.int .i64 (U 4)) ∧ w'.cell? ⟨ab + 1, 5, none⟩ = some (.int .i64 (U 5)) ∧ w'.cell? ⟨ab + 1, 6, none⟩ = some (.int .i64 (U 6)) ∧ w'.cell? ⟨ab + 1, 7, none⟩ = some (.int .i64 (U 7)) ∧ w'.cell? ⟨ab + 1, 8, none⟩ = some (.int .i64 (U 8)) ∧ w'.cell? ⟨ab + 1, 9, none⟩ = some (.int .i64 (U 9)) ∧ w'.cell? ⟨ab + 1, 10, none⟩ = some (.int .i64 (U 10)) ∧ w'.cell? ⟨ab + 1, 11, none⟩ = some (.int .i64 (U 11)) ∧ w'.cell? ⟨ab + 1 + 1, 0, none⟩ = some (.int .i64 X) ∧ w'.cell? ⟨ab + 1 + 1, 1, none⟩ = some (.int .i64 Y) ∧ w'.cell? ⟨ab + 1 + 1, 2, none⟩ = some (.int .i64 D) ∧ w'.cell? ⟨pb, 0, none⟩ = some (.int .i64 PX) ∧ w'.cell? ⟨pb, 1, none⟩ = some (.int .i64 PY)) (by kernel_rfl) ?_ (fun hHeld => ?_)
    · (try dsimp only)
      (first | (go_simp; done) | (go_keep; done))
    (refine tk 0 ⟨_, _, _, _, _, _⟩ rfl (by kernel_rfl) (fun _ _ _ h => h) (by rfl) hHeld (by intro w s; (try dsimp only at s); go_simp; (try with_reducible rfl)) ?_; (try simp only [Act.put, List.setIfInBounds_toArray, List.set_cons_zero, List.set_cons_succ]))
    (refine tk 1 ⟨_, _, _, _, _, _⟩ rfl (by kernel_rfl) (fun _ _ _ h => h) (by rfl) hHeld (by intro w s; (try dsimp only at s); go_simp; (try with_reducible rfl)) ?_; (try simp only [Act.put, List.setIfInBounds_toArray, List.set_cons_zero, List.set_cons_succ]))
    (refine tk 2 ⟨_, _, _, _, _, _⟩ rfl (by kernel_rfl) (fun _ _ _ h => h) (by rfl) hHeld (by intro w s; (try dsimp only at s); go_simp; (try with_reducible rfl)) ?_; (try simp only [Act.put, List.setIfInBounds_toArray, List.set_cons_zero, List.set_cons_succ]))
    (refine tk 3 ⟨_, _, _, _, _, _⟩ rfl (by kernel_rfl) (fun _ _ _ h => h) (by rfl) hHeld (by intro w s; (try dsimp only at s); go_simp; (try with_reducible rfl)) ?_; (try simp only [Act.put, List.setIfInBounds_toArray, List.set_cons_zero, List.set_cons_succ]))
    (refine tk 4 ⟨_, _, _, _, _, _⟩ rfl (by kernel_rfl) (fun _ _ _ h => h) (by rfl) hHeld (by intro w s; (try dsimp only at s); go_simp; (try with_reducible rfl)) ?_; (try simp only [Act.put, List.setIfInBounds_toArray, List.set_cons_zero, List.set_cons_succ]))
    (refine wpAnyH_ready (rs := [5]) (by kernel_rfl) (by simp) ?_; refine AllReadyH.cons (o := ⟨_, _, _, _, _, _⟩) rfl (fun K hK => ?_) AllReadyH.nil; go_simp; (go_at_call 11; refine (spo_q V U X Y D PX PY bo _ (by with_reducible assumption) (by with_reducible assumption)).mono ?_; rintro e w8 ⟨rfl, hb8⟩; have hA8 := hA6.drew.call hb8; have gy80 : Al w w8 (ab) 12 V := hA8.get (x := (ab, 12, V)) (by simp); have cy8x0c0 := (gy80).2.2.1 0 (by omega); have cy8x0f0 := (gy80).2.2.2 0 (by omega); have cy8x0c1 := (gy80).2.2.1 1 (by omega); have cy8x0f1 := (gy80).2.2.2 1 (by omega); have cy8x0c2 := (gy80).2.2.1 2 (by omega); have cy8x0f2 := (gy80).2.2.2 2 (by omega); have cy8x0c3 := (gy80).2.2.1 3 (by omega); have cy8x0f3 := (gy80).2.2.2 3 (by omega); have cy8x0c4 := (gy80).2.2.1 4 (by omega); have cy8x0f4 := (gy80).2.2.2 4 (by omega); have cy8x0c5 := (gy80).2.2.1 5 (by omega); have cy8x0f5 := (gy80).2.2.2 5 (by omega); have cy8x0c6 := (gy80).2.2.1 6 (by omega); have cy8x0f6 := (gy80).2.2.2 6 (by omega); have cy8x0c7 := (gy80).2.2.1 7 (by omega); have cy8x0f7 := (gy80).2.2.2 7 (by omega); have cy8x0c8 := (gy80).2.2.1 8 (by omega); have cy8x0f8 := (gy80).2.2.2 8 (by omega); have cy8x0c9 := (gy80).2.2.1 9 (by omega); have cy8x0f9 := (gy80).2.2.2 9 (by omega); have cy8x0c10 := (gy80).2.2.1 10 (by omega); have cy8x0f10 := (gy80).2.2.2 10 (by omega); have cy8x0c11 := (gy80).2.2.1 11 (by omega); have cy8x0f11 := (gy80).2.2.2 11 (by omega); clear gy80; have gy81 : Al w w8 (ab + 1) 12 U := hA8.get (x := (ab + 1, 12, U)) (by simp); have cy8x1c0 := (gy81).2.2.1 0 (by omega); have cy8x1f0 := (gy81).2.2.2 0 (by omega); have cy8x1c1 := (gy81).2.2.1 1 (by omega); have cy8x1f1 := (gy81).2.2.2 1 (by omega); have cy8x1c2 := (gy81).2.2.1 2 (by omega); have cy8x1f2 := (gy81).2.2.2 2 (by omega); have cy8x1c3 := (gy81).2.2.1 3 (by omega); have cy8x1f3 := (gy81).2.2.2 3 (by omega); have cy8x1c4 := (gy81).2.2.1 4 (by omega); have cy8x1f4 := (gy81).2.2.2 4 (by omega); have cy8x1c5 := (gy81).2.2.1 5 (by omega); have cy8x1f5 := (gy81).2.2.2 5 (by omega); have cy8x1c6 := (gy81).2.2.1 6 (by omega); have cy8x1f6 := (gy81).2.2.2 6 (by omega); have cy8x1c7 := (gy81).2.2.1 7 (by omega); have cy8x1f7 := (gy81).2.2.2 7 (by omega); have cy8x1c8 := (gy81).2.2.1 8 (by omega); have cy8x1f8 := (gy81).2.2.2 8 (by omega); have cy8x1c9 := (gy81).2.2.1 9 (by omega); have cy8x1f9 := (gy81).2.2.2 9 (by omega); have cy8x1c10 := (gy81).2.2.1 10 (by omega); have cy8x1f10 := (gy81).2.2.2 10 (by omega); have cy8x1c11 := (gy81).2.2.1 11 (by omega); have cy8x1f11 := (gy81).2.2.2 11 (by omega); clear gy81; have gy82 : Al w w8 (ab + 1 + 1) 3 (fun j => [X, Y, D].getD j 0) := hA8.get (x := (ab + 1 + 1, 3, (fun j => [X, Y, D].getD j 0))) (by simp); have cy8x2c0 := (gy82).2.2.1 0 (by omega); have cy8x2f0 := (gy82).2.2.2 0 (by omega); have cy8x2c1 := (gy82).2.2.1 1 (by omega); have cy8x2f1 := (gy82).2.2.2 1 (by omega); have cy8x2c2 := (gy82).2.2.1 2 (by omega); have cy8x2f2 := (gy82).2.2.2 2 (by omega); clear gy82; have gy83 : Al w w8 (pb) 2 (fun j => [PX, PY].getD j 0) := hA8.get (x := (pb, 2, (fun j => [PX, PY].getD j 0))) (by simp); have cy8x3c0 := (gy83).2.2.1 0 (by omega); have cy8x3f0 := (gy83).2.2.2 0 (by omega); have cy8x3c1 := (gy83).2.2.1 1 (by omega); have cy8x3f1 := (gy83).2.2.2 1 (by omega); clear gy83); (try go_wp2_with fail); refine hK.out _ _ ?_ (fun hHeld => ?_); (focus ((try dsimp only); (first | (go_simp; done) | (go_keep; done)))); clear hK K; (try simp only [Act.put, List.setIfInBounds_toArray, List.set_cons_zero, List.set_cons_succ]))
    (refine tk 6 ⟨_, _, _, _, _, _⟩ rfl (by kernel_rfl) (fun _ _ _ h => h) (by rfl) hHeld (by intro w s; (try dsimp only at s); go_simp; (try with_reducible rfl)) ?_; (try simp only [Act.put, List.setIfInBounds_toArray, List.set_cons_zero, List.set_cons_succ]))
    (refine tk 7 ⟨_, _, _, _, _, _⟩ rfl (by kernel_rfl) (fun _ _ _ h => h) (by rfl) hHeld (by intro w s; (try dsimp only at s); go_simp; (try with_reducible rfl)) ?_; (try simp only [Act.put, List.setIfInBounds_toArray, List.set_cons_zero, List.set_cons_succ]))
    refine wpAnyH_done (by kernel_rfl) ?_ _
    go_wp2_with fail
    go_ret
    exact ⟨rfl, hA8.bel⟩
  | true =>
  cases h2 : bodyB U with
  | false =>
    refine wp_region_held_drew (S := fun w' => w'.cell? ⟨ab, 0, none⟩ = some (.int .i64 (V 0)) ∧ w'.cell? ⟨ab, 1, none⟩ = some (.int .i64 (V 1)) ∧ w'.cell? ⟨ab, 2, none⟩ = some (.int .i64 (V 2)) ∧ w'.cell? ⟨ab, 3, none⟩ = some (.int .i64 (V 3)) ∧ w'.cell? ⟨ab, 4, none⟩ = some (.int .i64 (V 4)) ∧ w'.cell? ⟨ab, 5, none⟩ = some (.int .i64 (V 5)) ∧ w'.cell? ⟨ab, 6, none⟩ = some (.int .i64 (V 6)) ∧ w'.cell? ⟨ab, 7, none⟩ = some (.int .i64 (V 7)) ∧ w'.cell? ⟨ab, 8, none⟩ = some (.int .i64 (V 8)) ∧ w'.cell? ⟨ab, 9, none⟩ = some (.int .i64 (V 9)) ∧ w'.cell? ⟨ab, 10, none⟩ = some (.int .i64 (V 10)) ∧ w'.cell? ⟨ab, 11, none⟩ = some (.int .i64 (V 11)) ∧ w'.cell? ⟨ab + 1, 0, none⟩ = some (.int .i64 (U 0)) ∧ w'.cell? ⟨ab + 1, 1, none⟩ = some (.int .i64 (U 1)) ∧ w'.cell? ⟨ab + 1, 2, none⟩ = some (.int .i64 (U 2)) ∧ w'.cell? ⟨ab + 1, 3, none⟩ = some (.int .i64 (U 3)) ∧ w'.cell? ⟨ab + 1, 4, none⟩ = some (.int .i64 (U 4)) ∧ w'.cell? ⟨ab + 1, 5, none⟩ = some (.int .i64 (U 5)) ∧ w'.cell? ⟨ab + 1, 6, none⟩ = some (.int .i64 (U 6)) ∧ w'.cell? ⟨ab + 1, 7, none⟩ = some (.int .i64 (U 7)) ∧ w'.cell? ⟨ab + 1, 8, none⟩ = some (.int .i64 (U 8)) ∧ w'.cell? ⟨ab + 1, 9, none⟩ = some (.int .i64 (U 9)) ∧ w'.cell? ⟨ab + 1, 10, none⟩ = some (.int .i64 (U 10)) ∧ w'.cell? ⟨ab + 1, 11, none⟩ = some (.int .i64 (U 11)) ∧ w'.cell? ⟨ab + 1 + 1, 0, none⟩ = some (.int .i64 X) ∧ w'.cell? ⟨ab + 1 + 1, 1, none⟩ = some (.int .i64 Y) ∧ w'.cell? ⟨ab + 1 + 1, 2, none⟩ = some (.int .i64 D) ∧ w'.cell? ⟨pb, 0, none⟩ = some (.int .i64 PX) ∧ w'.cell? ⟨pb, 1, none⟩ = some (.int .i64 PY)) (by kernel_rfl) ?_ (fun hHeld => ?_)
    · (try dsimp only)
      (first | (go_simp; done) | (go_keep; done))
    (refine tk 0 ⟨_, _, _, _, _, _⟩ rfl (by kernel_rfl) (fun _ _ _ h => h) (by rfl) hHeld (by intro w s; (try dsimp only at s); go_simp; (try with_reducible rfl)) ?_; (try simp only [Act.put, List.setIfInBounds_toArray, List.set_cons_zero, List.set_cons_succ]))
    (refine tk 1 ⟨_, _, _, _, _, _⟩ rfl (by kernel_rfl) (fun _ _ _ h => h) (by rfl) hHeld (by intro w s; (try dsimp only at s); go_simp; (try with_reducible rfl)) ?_; (try simp only [Act.put, List.setIfInBounds_toArray, List.set_cons_zero, List.set_cons_succ]))
    (refine tk 2 ⟨_, _, _, _, _, _⟩ rfl (by kernel_rfl) (fun _ _ _ h => h) (by rfl) hHeld (by intro w s; (try dsimp only at s); go_simp; (try with_reducible rfl)) ?_; (try simp only [Act.put, List.setIfInBounds_toArray, List.set_cons_zero, List.set_cons_succ]))
    (refine tk 3 ⟨_, _, _, _, _, _⟩ rfl (by kernel_rfl) (fun _ _ _ h => h) (by rfl) hHeld (by intro w s; (try dsimp only at s); go_simp; (try with_reducible rfl)) ?_; (try simp only [Act.put, List.setIfInBounds_toArray, List.set_cons_zero, List.set_cons_succ]))
    (refine tk 4 ⟨_, _, _, _, _, _⟩ rfl (by kernel_rfl) (fun _ _ _ h => h) (by rfl) hHeld (by intro w s; (try dsimp only at s); go_simp; (try with_reducible rfl)) ?_; (try simp only [Act.put, List.setIfInBounds_toArray, List.set_cons_zero, List.set_cons_succ]))
    (refine wpAnyH_ready (rs := [5]) (by kernel_rfl) (by simp) ?_; refine AllReadyH.cons (o := ⟨_, _, _, _, _, _⟩) rfl (fun K hK => ?_) AllReadyH.nil; go_simp; (go_at_call 11; refine (spo_q V U X Y D PX PY bo _ (by with_reducible assumption) (by with_reducible assumption)).mono ?_; rintro e w5 ⟨rfl, hb5⟩; have hA5 := hA.drew.call hb5; have gy50 : Al w w5 (ab) 12 V := hA5.get (x := (ab, 12, V)) (by simp); have cy5x0c0 := (gy50).2.2.1 0 (by omega); have cy5x0f0 := (gy50).2.2.2 0 (by omega); have cy5x0c1 := (gy50).2.2.1 1 (by omega); have cy5x0f1 := (gy50).2.2.2 1 (by omega); have cy5x0c2 := (gy50).2.2.1 2 (by omega); have cy5x0f2 := (gy50).2.2.2 2 (by omega); have cy5x0c3 := (gy50).2.2.1 3 (by omega); have cy5x0f3 := (gy50).2.2.2 3 (by omega); have cy5x0c4 := (gy50).2.2.1 4 (by omega); have cy5x0f4 := (gy50).2.2.2 4 (by omega); have cy5x0c5 := (gy50).2.2.1 5 (by omega); have cy5x0f5 := (gy50).2.2.2 5 (by omega); have cy5x0c6 := (gy50).2.2.1 6 (by omega); have cy5x0f6 := (gy50).2.2.2 6 (by omega); have cy5x0c7 := (gy50).2.2.1 7 (by omega); have cy5x0f7 := (gy50).2.2.2 7 (by omega); have cy5x0c8 := (gy50).2.2.1 8 (by omega); have cy5x0f8 := (gy50).2.2.2 8 (by omega); have cy5x0c9 := (gy50).2.2.1 9 (by omega); have cy5x0f9 := (gy50).2.2.2 9 (by omega); have cy5x0c10 := (gy50).2.2.1 10 (by omega); have cy5x0f10 := (gy50).2.2.2 10 (by omega); have cy5x0c11 := (gy50).2.2.1 11 (by omega); have cy5x0f11 := (gy50).2.2.2 11 (by omega); clear gy50; have gy51 : Al w w5 (ab + 1) 12 U := hA5.get (x := (ab + 1, 12, U)) (by simp); have cy5x1c0 := (gy51).2.2.1 0 (by omega); have cy5x1f0 := (gy51).2.2.2 0 (by omega); have cy5x1c1 := (gy51).2.2.1 1 (by omega); have cy5x1f1 := (gy51).2.2.2 1 (by omega); have cy5x1c2 := (gy51).2.2.1 2 (by omega); have cy5x1f2 := (gy51).2.2.2 2 (by omega); have cy5x1c3 := (gy51).2.2.1 3 (by omega); have cy5x1f3 := (gy51).2.2.2 3 (by omega); have cy5x1c4 := (gy51).2.2.1 4 (by omega); have cy5x1f4 := (gy51).2.2.2 4 (by omega); have cy5x1c5 := (gy51).2.2.1 5 (by omega); have cy5x1f5 := (gy51).2.2.2 5 (by omega); have cy5x1c6 := (gy51).2.2.1 6 (by omega); have cy5x1f6 := (gy51).2.2.2 6 (by omega); have cy5x1c7 := (gy51).2.2.1 7 (by omega); have cy5x1f7 := (gy51).2.2.2 7 (by omega); have cy5x1c8 := (gy51).2.2.1 8 (by omega); have cy5x1f8 := (gy51).2.2.2 8 (by omega); have cy5x1c9 := (gy51).2.2.1 9 (by omega); have cy5x1f9 := (gy51).2.2.2 9 (by omega); have cy5x1c10 := (gy51).2.2.1 10 (by omega); have cy5x1f10 := (gy51).2.2.2 10 (by omega); have cy5x1c11 := (gy51).2.2.1 11 (by omega); have cy5x1f11 := (gy51).2.2.2 11 (by omega); clear gy51; have gy52 : Al w w5 (ab + 1 + 1) 3 (fun j => [X, Y, D].getD j 0) := hA5.get (x := (ab + 1 + 1, 3, (fun j => [X, Y, D].getD j 0))) (by simp); have cy5x2c0 := (gy52).2.2.1 0 (by omega); have cy5x2f0 := (gy52).2.2.2 0 (by omega); have cy5x2c1 := (gy52).2.2.1 1 (by omega); have cy5x2f1 := (gy52).2.2.2 1 (by omega); have cy5x2c2 := (gy52).2.2.1 2 (by omega); have cy5x2f2 := (gy52).2.2.2 2 (by omega); clear gy52; have gy53 : Al w w5 (pb) 2 (fun j => [PX, PY].getD j 0) := hA5.get (x := (pb, 2, (fun j => [PX, PY].getD j 0))) (by simp); have cy5x3c0 := (gy53).2.2.1 0 (by omega); have cy5x3f0 := (gy53).2.2.2 0 (by omega); have cy5x3c1 := (gy53).2.2.1 1 (by omega); have cy5x3f1 := (gy53).2.2.2 1 (by omega); clear gy53); (try go_wp2_with fail); refine hK.out _ _ ?_ (fun hHeld => ?_); (focus ((try dsimp only); (first | (go_simp; done) | (go_keep; done)))); clear hK K; (try simp only [Act.put, List.setIfInBounds_toArray, List.set_cons_zero, List.set_cons_succ]))
    (refine tk 6 ⟨_, _, _, _, _, _⟩ rfl (by kernel_rfl) (fun _ _ _ h => h) (by rfl) hHeld (by intro w s; (try dsimp only at s); go_simp; (try with_reducible rfl)) ?_; (try simp only [Act.put, List.setIfInBounds_toArray, List.set_cons_zero, List.set_cons_succ]))
    (refine tk 7 ⟨_, _, _, _, _, _⟩ rfl (by kernel_rfl) (fun _ _ _ h => h) (by rfl) hHeld (by intro w s; (try dsimp only at s); go_simp; (try with_reducible rfl)) ?_; (try simp only [Act.put, List.setIfInBounds_toArray, List.set_cons_zero, List.set_cons_succ]))
    (refine tk 8 ⟨_, _, _, _, _, _⟩ rfl (by kernel_rfl) (fun _ _ _ h => h) (by rfl) hHeld (by intro w s; (try dsimp only at s); go_simp; (try with_reducible rfl)) ?_; (try simp only [Act.put, List.setIfInBounds_toArray, List.set_cons_zero, List.set_cons_succ]))
    (refine wpAnyH_ready (rs := [9]) (by kernel_rfl) (by simp) ?_; refine AllReadyH.cons (o := ⟨_, _, _, _, _, _⟩) rfl (fun K hK => ?_) AllReadyH.nil; go_simp; (go_at_call 12; refine (sbok_q V _ _ (by with_reducible assumption)).mono ?_; rintro e w6 ⟨rfl, hb6⟩; have hA6 := hA5.call hb6; have gy60 : Al w w6 (ab) 12 V := hA6.get (x := (ab, 12, V)) (by simp); have cy6x0c0 := (gy60).2.2.1 0 (by omega); have cy6x0f0 := (gy60).2.2.2 0 (by omega); have cy6x0c1 := (gy60).2.2.1 1 (by omega); have cy6x0f1 := (gy60).2.2.2 1 (by omega); have cy6x0c2 := (gy60).2.2.1 2 (by omega); have cy6x0f2 := (gy60).2.2.2 2 (by omega); have cy6x0c3 := (gy60).2.2.1 3 (by omega); have cy6x0f3 := (gy60).2.2.2 3 (by omega); have cy6x0c4 := (gy60).2.2.1 4 (by omega); have cy6x0f4 := (gy60).2.2.2 4 (by omega); have cy6x0c5 := (gy60).2.2.1 5 (by omega); have cy6x0f5 := (gy60).2.2.2 5 (by omega); have cy6x0c6 := (gy60).2.2.1 6 (by omega); have cy6x0f6 := (gy60).2.2.2 6 (by omega); have cy6x0c7 := (gy60).2.2.1 7 (by omega); have cy6x0f7 := (gy60).2.2.2 7 (by omega); have cy6x0c8 := (gy60).2.2.1 8 (by omega); have cy6x0f8 := (gy60).2.2.2 8 (by omega); have cy6x0c9 := (gy60).2.2.1 9 (by omega); have cy6x0f9 := (gy60).2.2.2 9 (by omega); have cy6x0c10 := (gy60).2.2.1 10 (by omega); have cy6x0f10 := (gy60).2.2.2 10 (by omega); have cy6x0c11 := (gy60).2.2.1 11 (by omega); have cy6x0f11 := (gy60).2.2.2 11 (by omega); clear gy60; have gy61 : Al w w6 (ab + 1) 12 U := hA6.get (x := (ab + 1, 12, U)) (by simp); have cy6x1c0 := (gy61).2.2.1 0 (by omega); have cy6x1f0 := (gy61).2.2.2 0 (by omega); have cy6x1c1 := (gy61).2.2.1 1 (by omega); have cy6x1f1 := (gy61).2.2.2 1 (by omega); have cy6x1c2 := (gy61).2.2.1 2 (by omega); have cy6x1f2 := (gy61).2.2.2 2 (by omega); have cy6x1c3 := (gy61).2.2.1 3 (by omega); have cy6x1f3 := (gy61).2.2.2 3 (by omega); have cy6x1c4 := (gy61).2.2.1 4 (by omega); have cy6x1f4 := (gy61).2.2.2 4 (by omega); have cy6x1c5 := (gy61).2.2.1 5 (by omega); have cy6x1f5 := (gy61).2.2.2 5 (by omega); have cy6x1c6 := (gy61).2.2.1 6 (by omega); have cy6x1f6 := (gy61).2.2.2 6 (by omega); have cy6x1c7 := (gy61).2.2.1 7 (by omega); have cy6x1f7 := (gy61).2.2.2 7 (by omega); have cy6x1c8 := (gy61).2.2.1 8 (by omega); have cy6x1f8 := (gy61).2.2.2 8 (by omega); have cy6x1c9 := (gy61).2.2.1 9 (by omega); have cy6x1f9 := (gy61).2.2.2 9 (by omega); have cy6x1c10 := (gy61).2.2.1 10 (by omega); have cy6x1f10 := (gy61).2.2.2 10 (by omega); have cy6x1c11 := (gy61).2.2.1 11 (by omega); have cy6x1f11 := (gy61).2.2.2 11 (by omega); clear gy61; have gy62 : Al w w6 (ab + 1 + 1) 3 (fun j => [X, Y, D].getD j 0) := hA6.get (x := (ab + 1 + 1, 3, (fun j => [X, Y, D].getD j 0))) (by simp); have cy6x2c0 := (gy62).2.2.1 0 (by omega); have cy6x2f0 := (gy62).2.2.2 0 (by omega); have cy6x2c1 := (gy62).2.2.1 1 (by omega); have cy6x2f1 := (gy62).2.2.2 1 (by omega); have cy6x2c2 := (gy62).2.2.1 2 (by omega); have cy6x2f2 := (gy62).2.2.2 2 (by omega); clear gy62; have gy63 : Al w w6 (pb) 2 (fun j => [PX, PY].getD j 0) := hA6.get (x := (pb, 2, (fun j => [PX, PY].getD j 0))) (by simp); have cy6x3c0 := (gy63).2.2.1 0 (by omega); have cy6x3f0 := (gy63).2.2.2 0 (by omega); have cy6x3c1 := (gy63).2.2.1 1 (by omega); have cy6x3f1 := (gy63).2.2.2 1 (by omega); clear gy63); (try go_wp2_with fail); refine hK.out _ _ ?_ (fun hHeld => ?_); (focus ((try dsimp only); (first | (go_simp; done) | (go_keep; done)))); clear hK K; (try simp only [Act.put, List.setIfInBounds_toArray, List.set_cons_zero, List.set_cons_succ]))
    (refine tk 10 ⟨_, _, _, _, _, _⟩ rfl (by kernel_rfl) (fun _ _ _ h => h) (by rfl) hHeld (by intro w s; (try dsimp only at s); go_simp; (try with_reducible rfl)) ?_; (try simp only [Act.put, List.setIfInBounds_toArray, List.set_cons_zero, List.set_cons_succ]))
    (refine tk 11 ⟨_, _, _, _, _, _⟩ rfl (by kernel_rfl) (fun _ _ _ h => h) (by rfl) hHeld (by intro w s; (try dsimp only at s); go_simp; (try with_reducible rfl)) ?_; (try simp only [Act.put, List.setIfInBounds_toArray, List.set_cons_zero, List.set_cons_succ]))
    (refine tk 12 ⟨_, _, _, _, _, _⟩ rfl (by kernel_rfl) (fun _ _ _ h => h) (by rfl) hHeld (by intro w s; (try dsimp only at s); go_simp; (try with_reducible rfl)) ?_; (try simp only [Act.put, List.setIfInBounds_toArray, List.set_cons_zero, List.set_cons_succ]))
    (refine tk 13 ⟨_, _, _, _, _, _⟩ rfl (by kernel_rfl) (fun _ _ _ h => h) (by rfl) hHeld (by intro w s; (try dsimp only at s); go_simp; (try with_reducible rfl)) ?_; (try simp only [Act.put, List.setIfInBounds_toArray, List.set_cons_zero, List.set_cons_succ]))
    (refine wpAnyH_ready (rs := [14]) (by kernel_rfl) (by simp) ?_; refine AllReadyH.cons (o := ⟨_, _, _, _, _, _⟩) rfl (fun K hK => ?_) AllReadyH.nil; go_simp; (go_at_call 12; refine (sbok_q U _ _ (by with_reducible assumption)).mono ?_; rintro e w7 ⟨rfl, hb7⟩; have hA7 := hA6.call hb7; have gy70 : Al w w7 (ab) 12 V := hA7.get (x := (ab, 12, V)) (by simp); have cy7x0c0 := (gy70).2.2.1 0 (by omega); have cy7x0f0 := (gy70).2.2.2 0 (by omega); have cy7x0c1 := (gy70).2.2.1 1 (by omega); have cy7x0f1 := (gy70).2.2.2 1 (by omega); have cy7x0c2 := (gy70).2.2.1 2 (by omega); have cy7x0f2 := (gy70).2.2.2 2 (by omega); have cy7x0c3 := (gy70).2.2.1 3 (by omega); have cy7x0f3 := (gy70).2.2.2 3 (by omega); have cy7x0c4 := (gy70).2.2.1 4 (by omega); have cy7x0f4 := (gy70).2.2.2 4 (by omega); have cy7x0c5 := (gy70).2.2.1 5 (by omega); have cy7x0f5 := (gy70).2.2.2 5 (by omega); have cy7x0c6 := (gy70).2.2.1 6 (by omega); have cy7x0f6 := (gy70).2.2.2 6 (by omega); have cy7x0c7 := (gy70).2.2.1 7 (by omega); have cy7x0f7 := (gy70).2.2.2 7 (by omega); have cy7x0c8 := (gy70).2.2.1 8 (by omega); have cy7x0f8 := (gy70).2.2.2 8 (by omega); have cy7x0c9 := (gy70).2.2.1 9 (by omega); have cy7x0f9 := (gy70).2.2.2 9 (by omega); have cy7x0c10 := (gy70).2.2.1 10 (by omega); have cy7x0f10 := (gy70).2.2.2 10 (by omega); have cy7x0c11 := (gy70).2.2.1 11 (by omega); have cy7x0f11 := (gy70).2.2.2 11 (by omega); clear gy70; have gy71 : Al w w7 (ab + 1) 12 U := hA7.get (x := (ab + 1, 12, U)) (by simp); have cy7x1c0 := (gy71).2.2.1 0 (by omega); have cy7x1f0 := (gy71).2.2.2 0 (by omega); have cy7x1c1 := (gy71).2.2.1 1 (by omega); have cy7x1f1 := (gy71).2.2.2 1 (by omega); have cy7x1c2 := (gy71).2.2.1 2 (by omega); have cy7x1f2 := (gy71).2.2.2 2 (by omega); have cy7x1c3 := (gy71).2.2.1 3 (by omega); have cy7x1f3 := (gy71).2.2.2 3 (by omega); have cy7x1c4 := (gy71).2.2.1 4 (by omega); have cy7x1f4 := (gy71).2.2.2 4 (by omega); have cy7x1c5 := (gy71).2.2.1 5 (by omega); have cy7x1f5 := (gy71).2.2.2 5 (by omega); have cy7x1c6 := (gy71).2.2.1 6 (by omega); have cy7x1f6 := (gy71).2.2.2 6 (by omega); have cy7x1c7 := (gy71).2.2.1 7 (by omega); have cy7x1f7 := (gy71).2.2.2 7 (by omega); have cy7x1c8 := (gy71).2.2.1 8 (by omega); have cy7x1f8 := (gy71).2.2.2 8 (by omega); have cy7x1c9 := (gy71).2.2.1 9 (by omega); have cy7x1f9 := (gy71).2.2.2 9 (by omega); have cy7x1c10 := (gy71).2.2.1 10 (by omega); have cy7x1f10 := (gy71).2.2.2 10 (by omega); have cy7x1c11 := (gy71).2.2.1 11 (by omega); have cy7x1f11 := (gy71).2.2.2 11 (by omega); clear gy71; have gy72 : Al w w7 (ab + 1 + 1) 3 (fun j => [X, Y, D].getD j 0) := hA7.get (x := (ab + 1 + 1, 3, (fun j => [X, Y, D].getD j 0))) (by simp); have cy7x2c0 := (gy72).2.2.1 0 (by omega); have cy7x2f0 := (gy72).2.2.2 0 (by omega); have cy7x2c1 := (gy72).2.2.1 1 (by omega); have cy7x2f1 := (gy72).2.2.2 1 (by omega); have cy7x2c2 := (gy72).2.2.1 2 (by omega); have cy7x2f2 := (gy72).2.2.2 2 (by omega); clear gy72; have gy73 : Al w w7 (pb) 2 (fun j => [PX, PY].getD j 0) := hA7.get (x := (pb, 2, (fun j => [PX, PY].getD j 0))) (by simp); have cy7x3c0 := (gy73).2.2.1 0 (by omega); have cy7x3f0 := (gy73).2.2.2 0 (by omega); have cy7x3c1 := (gy73).2.2.1 1 (by omega); have cy7x3f1 := (gy73).2.2.2 1 (by omega); clear gy73); (try go_wp2_with fail); refine hK.out _ _ ?_ (fun hHeld => ?_); (focus ((try dsimp only); (first | (go_simp; done) | (go_keep; done)))); clear hK K; (try simp only [Act.put, List.setIfInBounds_toArray, List.set_cons_zero, List.set_cons_succ]))
    (refine tk 15 ⟨_, _, _, _, _, _⟩ rfl (by kernel_rfl) (fun _ _ _ h => h) (by rfl) hHeld (by intro w s; (try dsimp only at s); go_simp; (try with_reducible rfl)) ?_; (try simp only [Act.put, List.setIfInBounds_toArray, List.set_cons_zero, List.set_cons_succ]))
    (refine tk 16 ⟨_, _, _, _, _, _⟩ rfl (by kernel_rfl) (fun _ _ _ h => h) (by rfl) hHeld (by intro w s; (try dsimp only at s); go_simp; (try with_reducible rfl)) ?_; (try simp only [Act.put, List.setIfInBounds_toArray, List.set_cons_zero, List.set_cons_succ]))
    refine wpAnyH_done (by kernel_rfl) ?_ _
    go_upto_region 6 with fail
    refine wp_region_held_drew (S := fun w' => w'.cell? ⟨ab, 0, none⟩ = some (.int .i64 (V 0)) ∧ w'.cell? ⟨ab, 1, none⟩ = some (.int .i64 (V 1)) ∧ w'.cell? ⟨ab, 2, none⟩ = some (.int .i64 (V 2)) ∧ w'.cell? ⟨ab, 3, none⟩ = some (.int .i64 (V 3)) ∧ w'.cell? ⟨ab, 4, none⟩ = some (.int .i64 (V 4)) ∧ w'.cell? ⟨ab, 5, none⟩ = some (.int .i64 (V 5)) ∧ w'.cell? ⟨ab, 6, none⟩ = some (.int .i64 (V 6)) ∧ w'.cell? ⟨ab, 7, none⟩ = some (.int .i64 (V 7)) ∧ w'.cell? ⟨ab, 8, none⟩ = some (.int .i64 (V 8)) ∧ w'.cell? ⟨ab, 9, none⟩ = some (.int .i64 (V 9)) ∧ w'.cell? ⟨ab, 10, none⟩ = some (.int .i64 (V 10)) ∧ w'.cell? ⟨ab, 11, none⟩ = some (.int .i64 (V 11)) ∧ w'.cell? ⟨ab + 1, 0, none⟩ = some (.int .i64 (U 0)) ∧ w'.cell? ⟨ab + 1, 1, none⟩ = some (.int .i64 (U 1)) ∧ w'.cell? ⟨ab + 1, 2, none⟩ = some (.int .i64 (U 2)) ∧ w'.cell? ⟨ab + 1, 3, none⟩ = some (.int .i64 (U 3)) ∧ w'.cell? ⟨ab + 1, 4, none⟩ = some (.int .i64 (U 4)) ∧ w'.cell? ⟨ab + 1, 5, none⟩ = some (.int .i64 (U 5)) ∧ w'.cell? ⟨ab + 1, 6, none⟩ = some (.int .i64 (U 6)) ∧ w'.cell? ⟨ab + 1, 7, none⟩ = some (.int .i64 (U 7)) ∧ w'.cell? ⟨ab + 1, 8, none⟩ = some (.int .i64 (U 8)) ∧ w'.cell? ⟨ab + 1, 9, none⟩ = some (.int .i64 (U 9)) ∧ w'.cell? ⟨ab + 1, 10, none⟩ = some (.int .i64 (U 10)) ∧ w'.cell? ⟨ab + 1, 11, none⟩ = some (.int .i64 (U 11)) ∧ w'.cell? ⟨ab + 1 + 1, 0, none⟩ = some (.int .i64 X) ∧ w'.cell? ⟨ab + 1 + 1, 1, none⟩ = some (.int .i64 Y) ∧ w'.cell? ⟨ab + 1 + 1, 2, none⟩ = some (.int .i64 D) ∧ w'.cell? ⟨pb, 0, none⟩ = some (.int .i64 PX) ∧ w'.cell? ⟨pb, 1, none⟩ = some (.int .i64 PY)) (by kernel_rfl) ?_ (fun hHeld => ?_)
    · (try dsimp only)
      (first | (go_simp; done) | (go_keep; done))
    (refine tk 0 ⟨_, _, _, _, _, _⟩ rfl (by kernel_rfl) (fun _ _ _ h => h) (by rfl) hHeld (by intro w s; (try dsimp only at s); go_simp; (try with_reducible rfl)) ?_; (try simp only [Act.put, List.setIfInBounds_toArray, List.set_cons_zero, List.set_cons_succ]))
    (refine tk 1 ⟨_, _, _, _, _, _⟩ rfl (by kernel_rfl) (fun _ _ _ h => h) (by rfl) hHeld (by intro w s; (try dsimp only at s); go_simp; (try with_reducible rfl)) ?_; (try simp only [Act.put, List.setIfInBounds_toArray, List.set_cons_zero, List.set_cons_succ]))
    (refine tk 2 ⟨_, _, _, _, _, _⟩ rfl (by kernel_rfl) (fun _ _ _ h => h) (by rfl) hHeld (by intro w s; (try dsimp only at s); go_simp; (try with_reducible rfl)) ?_; (try simp only [Act.put, List.setIfInBounds_toArray, List.set_cons_zero, List.set_cons_succ]))
    (refine tk 3 ⟨_, _, _, _, _, _⟩ rfl (by kernel_rfl) (fun _ _ _ h => h) (by rfl) hHeld (by intro w s; (try dsimp only at s); go_simp; (try with_reducible rfl)) ?_; (try simp only [Act.put, List.setIfInBounds_toArray, List.set_cons_zero, List.set_cons_succ]))
    (refine tk 4 ⟨_, _, _, _, _, _⟩ rfl (by kernel_rfl) (fun _ _ _ h => h) (by rfl) hHeld (by intro w s; (try dsimp only at s); go_simp; (try with_reducible rfl)) ?_; (try simp only [Act.put, List.setIfInBounds_toArray, List.set_cons_zero, List.set_cons_succ]))
    (refine wpAnyH_ready (rs := [5]) (by kernel_rfl) (by simp) ?_; refine AllReadyH.cons (o := ⟨_, _, _, _, _, _⟩) rfl (fun K hK => ?_) AllReadyH.nil; go_simp; (go_at_call 11; refine (spo_q V U X Y D PX PY bo _ (by with_reducible assumption) (by with_reducible assumption)).mono ?_; rintro e w8 ⟨rfl, hb8⟩; have hA8 := hA7.drew.call hb8; have gy80 : Al w w8 (ab) 12 V := hA8.get (x := (ab, 12, V)) (by simp); have cy8x0c0 := (gy80).2.2.1 0 (by omega); have cy8x0f0 := (gy80).2.2.2 0 (by omega); have cy8x0c1 := (gy80).2.2.1 1 (by omega); have cy8x0f1 := (gy80).2.2.2 1 (by omega); have cy8x0c2 := (gy80).2.2.1 2 (by omega); have cy8x0f2 := (gy80).2.2.2 2 (by omega); have cy8x0c3 := (gy80).2.2.1 3 (by omega); have cy8x0f3 := (gy80).2.2.2 3 (by omega); have cy8x0c4 := (gy80).2.2.1 4 (by omega); have cy8x0f4 := (gy80).2.2.2 4 (by omega); have cy8x0c5 := (gy80).2.2.1 5 (by omega); have cy8x0f5 := (gy80).2.2.2 5 (by omega); have cy8x0c6 := (gy80).2.2.1 6 (by omega); have cy8x0f6 := (gy80).2.2.2 6 (by omega); have cy8x0c7 := (gy80).2.2.1 7 (by omega); have cy8x0f7 := (gy80).2.2.2 7 (by omega); have cy8x0c8 := (gy80).2.2.1 8 (by omega); have cy8x0f8 := (gy80).2.2.2 8 (by omega); have cy8x0c9 := (gy80).2.2.1 9 (by omega); have cy8x0f9 := (gy80).2.2.2 9 (by omega); have cy8x0c10 := (gy80).2.2.1 10 (by omega); have cy8x0f10 := (gy80).2.2.2 10 (by omega); have cy8x0c11 := (gy80).2.2.1 11 (by omega); have cy8x0f11 := (gy80).2.2.2 11 (by omega); clear gy80; have gy81 : Al w w8 (ab + 1) 12 U := hA8.get (x := (ab + 1, 12, U)) (by simp); have cy8x1c0 := (gy81).2.2.1 0 (by omega); have cy8x1f0 := (gy81).2.2.2 0 (by omega); have cy8x1c1 := (gy81).2.2.1 1 (by omega); have cy8x1f1 := (gy81).2.2.2 1 (by omega); have cy8x1c2 := (gy81).2.2.1 2 (by omega); have cy8x1f2 := (gy81).2.2.2 2 (by omega); have cy8x1c3 := (gy81).2.2.1 3 (by omega); have cy8x1f3 := (gy81).2.2.2 3 (by omega); have cy8x1c4 := (gy81).2.2.1 4 (by omega); have cy8x1f4 := (gy81).2.2.2 4 (by omega); have cy8x1c5 := (gy81).2.2.1 5 (by omega); have cy8x1f5 := (gy81).2.2.2 5 (by omega); have cy8x1c6 := (gy81).2.2.1 6 (by omega); have cy8x1f6 := (gy81).2.2.2 6 (by omega); have cy8x1c7 := (gy81).2.2.1 7 (by omega); have cy8x1f7 := (gy81).2.2.2 7 (by omega); have cy8x1c8 := (gy81).2.2.1 8 (by omega); have cy8x1f8 := (gy81).2.2.2 8 (by omega); have cy8x1c9 := (gy81).2.2.1 9 (by omega); have cy8x1f9 := (gy81).2.2.2 9 (by omega); have cy8x1c10 := (gy81).2.2.1 10 (by omega); have cy8x1f10 := (gy81).2.2.2 10 (by omega); have cy8x1c11 := (gy81).2.2.1 11 (by omega); have cy8x1f11 := (gy81).2.2.2 11 (by omega); clear gy81; have gy82 : Al w w8 (ab + 1 + 1) 3 (fun j => [X, Y, D].getD j 0) := hA8.get (x := (ab + 1 + 1, 3, (fun j => [X, Y, D].getD j 0))) (by simp); have cy8x2c0 := (gy82).2.2.1 0 (by omega); have cy8x2f0 := (gy82).2.2.2 0 (by omega); have cy8x2c1 := (gy82).2.2.1 1 (by omega); have cy8x2f1 := (gy82).2.2.2 1 (by omega); have cy8x2c2 := (gy82).2.2.1 2 (by omega); have cy8x2f2 := (gy82).2.2.2 2 (by omega); clear gy82; have gy83 : Al w w8 (pb) 2 (fun j => [PX, PY].getD j 0) := hA8.get (x := (pb, 2, (fun j => [PX, PY].getD j 0))) (by simp); have cy8x3c0 := (gy83).2.2.1 0 (by omega); have cy8x3f0 := (gy83).2.2.2 0 (by omega); have cy8x3c1 := (gy83).2.2.1 1 (by omega); have cy8x3f1 := (gy83).2.2.2 1 (by omega); clear gy83); (try go_wp2_with fail); refine hK.out _ _ ?_ (fun hHeld => ?_); (focus ((try dsimp only); (first | (go_simp; done) | (go_keep; done)))); clear hK K; (try simp only [Act.put, List.setIfInBounds_toArray, List.set_cons_zero, List.set_cons_succ]))
    (refine tk 6 ⟨_, _, _, _, _, _⟩ rfl (by kernel_rfl) (fun _ _ _ h => h) (by rfl) hHeld (by intro w s; (try dsimp only at s); go_simp; (try with_reducible rfl)) ?_; (try simp only [Act.put, List.setIfInBounds_toArray, List.set_cons_zero, List.set_cons_succ]))
    (refine tk 7 ⟨_, _, _, _, _, _⟩ rfl (by kernel_rfl) (fun _ _ _ h => h) (by rfl) hHeld (by intro w s; (try dsimp only at s); go_simp; (try with_reducible rfl)) ?_; (try simp only [Act.put, List.setIfInBounds_toArray, List.set_cons_zero, List.set_cons_succ]))
    refine wpAnyH_done (by kernel_rfl) ?_ _
    go_wp2_with fail
    go_ret
    exact ⟨rfl, hA8.bel⟩
  | true =>
  refine wp_region_held_drew (S := fun w' => w'.cell? ⟨ab, 0, none⟩ = some (.int .i64 (V 0)) ∧ w'.cell? ⟨ab, 1, none⟩ = some (.int .i64 (V 1)) ∧ w'.cell? ⟨ab, 2, none⟩ = some (.int .i64 (V 2)) ∧ w'.cell? ⟨ab, 3, none⟩ = some (.int .i64 (V 3)) ∧ w'.cell? ⟨ab, 4, none⟩ = some (.int .i64 (V 4)) ∧ w'.cell? ⟨ab, 5, none⟩ = some (.int .i64 (V 5)) ∧ w'.cell? ⟨ab, 6, none⟩ = some (.int .i64 (V 6)) ∧ w'.cell? ⟨ab, 7, none⟩ = some (.int .i64 (V 7)) ∧ w'.cell? ⟨ab, 8, none⟩ = some (.int .i64 (V 8)) ∧ w'.cell? ⟨ab, 9, none⟩ = some (.int .i64 (V 9)) ∧ w'.cell? ⟨ab, 10, none⟩ = some (.int .i64 (V 10)) ∧ w'.cell? ⟨ab, 11, none⟩ = some (.int .i64 (V 11)) ∧ w'.cell? ⟨ab + 1, 0, none⟩ = some (.int .i64 (U 0)) ∧ w'.cell? ⟨ab + 1, 1, none⟩ = some (.int .i64 (U 1)) ∧ w'.cell? ⟨ab + 1, 2, none⟩ = some (.int .i64 (U 2)) ∧ w'.cell? ⟨ab + 1, 3, none⟩ = some (.int .i64 (U 3)) ∧ w'.cell? ⟨ab + 1, 4, none⟩ = some (.int .i64 (U 4)) ∧ w'.cell? ⟨ab + 1, 5, none⟩ = some (.int .i64 (U 5)) ∧ w'.cell? ⟨ab + 1, 6, none⟩ = some (.int .i64 (U 6)) ∧ w'.cell? ⟨ab + 1, 7, none⟩ = some (.int .i64 (U 7)) ∧ w'.cell? ⟨ab + 1, 8, none⟩ = some (.int .i64 (U 8)) ∧ w'.cell? ⟨ab + 1, 9, none⟩ = some (.int .i64 (U 9)) ∧ w'.cell? ⟨ab + 1, 10, none⟩ = some (.int .i64 (U 10)) ∧ w'.cell? ⟨ab + 1, 11, none⟩ = some (.int .i64 (U 11)) ∧ w'.cell? ⟨ab + 1 + 1, 0, none⟩ = some (.int .i64 X) ∧ w'.cell? ⟨ab + 1 + 1, 1, none⟩ = some (.int .i64 Y) ∧ w'.cell? ⟨ab + 1 + 1, 2, none⟩ = some (.int .i64 D) ∧ w'.cell? ⟨pb, 0, none⟩ = some (.int .i64 PX) ∧ w'.cell? ⟨pb, 1, none⟩ = some (.int .i64 PY)) (by kernel_rfl) ?_ (fun hHeld => ?_)
  · (try dsimp only)
    (first | (go_simp; done) | (go_keep; done))
  (refine tk 0 ⟨_, _, _, _, _, _⟩ rfl (by kernel_rfl) (fun _ _ _ h => h) (by rfl) hHeld (by intro w s; (try dsimp only at s); go_simp; (try with_reducible rfl)) ?_; (try simp only [Act.put, List.setIfInBounds_toArray, List.set_cons_zero, List.set_cons_succ]))
  (refine tk 1 ⟨_, _, _, _, _, _⟩ rfl (by kernel_rfl) (fun _ _ _ h => h) (by rfl) hHeld (by intro w s; (try dsimp only at s); go_simp; (try with_reducible rfl)) ?_; (try simp only [Act.put, List.setIfInBounds_toArray, List.set_cons_zero, List.set_cons_succ]))
  (refine tk 2 ⟨_, _, _, _, _, _⟩ rfl (by kernel_rfl) (fun _ _ _ h => h) (by rfl) hHeld (by intro w s; (try dsimp only at s); go_simp; (try with_reducible rfl)) ?_; (try simp only [Act.put, List.setIfInBounds_toArray, List.set_cons_zero, List.set_cons_succ]))
  (refine tk 3 ⟨_, _, _, _, _, _⟩ rfl (by kernel_rfl) (fun _ _ _ h => h) (by rfl) hHeld (by intro w s; (try dsimp only at s); go_simp; (try with_reducible rfl)) ?_; (try simp only [Act.put, List.setIfInBounds_toArray, List.set_cons_zero, List.set_cons_succ]))
  (refine tk 4 ⟨_, _, _, _, _, _⟩ rfl (by kernel_rfl) (fun _ _ _ h => h) (by rfl) hHeld (by intro w s; (try dsimp only at s); go_simp; (try with_reducible rfl)) ?_; (try simp only [Act.put, List.setIfInBounds_toArray, List.set_cons_zero, List.set_cons_succ]))
  (refine wpAnyH_ready (rs := [5]) (by kernel_rfl) (by simp) ?_; refine AllReadyH.cons (o := ⟨_, _, _, _, _, _⟩) rfl (fun K hK => ?_) AllReadyH.nil; go_simp; (go_at_call 11; refine (spo_q V U X Y D PX PY bo _ (by with_reducible assumption) (by with_reducible assumption)).mono ?_; rintro e w5 ⟨rfl, hb5⟩; have hA5 := hA.drew.call hb5; have gy50 : Al w w5 (ab) 12 V := hA5.get (x := (ab, 12, V)) (by simp); have cy5x0c0 := (gy50).2.2.1 0 (by omega); have cy5x0f0 := (gy50).2.2.2 0 (by omega); have cy5x0c1 := (gy50).2.2.1 1 (by omega); have cy5x0f1 := (gy50).2.2.2 1 (by omega); have cy5x0c2 := (gy50).2.2.1 2 (by omega); have cy5x0f2 := (gy50).2.2.2 2 (by omega); have cy5x0c3 := (gy50).2.2.1 3 (by omega); have cy5x0f3 := (gy50).2.2.2 3 (by omega); have cy5x0c4 := (gy50).2.2.1 4 (by omega); have cy5x0f4 := (gy50).2.2.2 4 (by omega); have cy5x0c5 := (gy50).2.2.1 5 (by omega); have cy5x0f5 := (gy50).2.2.2 5 (by omega); have cy5x0c6 := (gy50).2.2.1 6 (by omega); have cy5x0f6 := (gy50).2.2.2 6 (by omega); have cy5x0c7 := (gy50).2.2.1 7 (by omega); have cy5x0f7 := (gy50).2.2.2 7 (by omega); have cy5x0c8 := (gy50).2.2.1 8 (by omega); have cy5x0f8 := (gy50).2.2.2 8 (by omega); have cy5x0c9 := (gy50).2.2.1 9 (by omega); have cy5x0f9 := (gy50).2.2.2 9 (by omega); have cy5x0c10 := (gy50).2.2.1 10 (by omega); have cy5x0f10 := (gy50).2.2.2 10 (by omega); have cy5x0c11 := (gy50).2.2.1 11 (by omega); have cy5x0f11 := (gy50).2.2.2 11 (by omega); clear gy50; have gy51 : Al w w5 (ab + 1) 12 U := hA5.get (x := (ab + 1, 12, U)) (by simp); have cy5x1c0 := (gy51).2.2.1 0 (by omega); have cy5x1f0 := (gy51).2.2.2 0 (by omega); have cy5x1c1 := (gy51).2.2.1 1 (by omega); have cy5x1f1 := (gy51).2.2.2 1 (by omega); have cy5x1c2 := (gy51).2.2.1 2 (by omega); have cy5x1f2 := (gy51).2.2.2 2 (by omega); have cy5x1c3 := (gy51).2.2.1 3 (by omega); have cy5x1f3 := (gy51).2.2.2 3 (by omega); have cy5x1c4 := (gy51).2.2.1 4 (by omega); have cy5x1f4 := (gy51).2.2.2 4 (by omega); have cy5x1c5 := (gy51).2.2.1 5 (by omega); have cy5x1f5 := (gy51).2.2.2 5 (by omega); have cy5x1c6 := (gy51).2.2.1 6 (by omega); have cy5x1f6 := (gy51).2.2.2 6 (by omega); have cy5x1c7 := (gy51).2.2.1 7 (by omega); have cy5x1f7 := (gy51).2.2.2 7 (by omega); have cy5x1c8 := (gy51).2.2.1 8 (by omega); have cy5x1f8 := (gy51).2.2.2 8 (by omega); have cy5x1c9 := (gy51).2.2.1 9 (by omega); have cy5x1f9 := (gy51).2.2.2 9 (by omega); have cy5x1c10 := (gy51).2.2.1 10 (by omega); have cy5x1f10 := (gy51).2.2.2 10 (by omega); have cy5x1c11 := (gy51).2.2.1 11 (by omega); have cy5x1f11 := (gy51).2.2.2 11 (by omega); clear gy51; have gy52 : Al w w5 (ab + 1 + 1) 3 (fun j => [X, Y, D].getD j 0) := hA5.get (x := (ab + 1 + 1, 3, (fun j => [X, Y, D].getD j 0))) (by simp); have cy5x2c0 := (gy52).2.2.1 0 (by omega); have cy5x2f0 := (gy52).2.2.2 0 (by omega); have cy5x2c1 := (gy52).2.2.1 1 (by omega); have cy5x2f1 := (gy52).2.2.2 1 (by omega); have cy5x2c2 := (gy52).2.2.1 2 (by omega); have cy5x2f2 := (gy52).2.2.2 2 (by omega); clear gy52; have gy53 : Al w w5 (pb) 2 (fun j => [PX, PY].getD j 0) := hA5.get (x := (pb, 2, (fun j => [PX, PY].getD j 0))) (by simp); have cy5x3c0 := (gy53).2.2.1 0 (by omega); have cy5x3f0 := (gy53).2.2.2 0 (by omega); have cy5x3c1 := (gy53).2.2.1 1 (by omega); have cy5x3f1 := (gy53).2.2.2 1 (by omega); clear gy53); (try go_wp2_with fail); refine hK.out _ _ ?_ (fun hHeld => ?_); (focus ((try dsimp only); (first | (go_simp; done) | (go_keep; done)))); clear hK K; (try simp only [Act.put, List.setIfInBounds_toArray, List.set_cons_zero, List.set_cons_succ]))
  (refine tk 6 ⟨_, _, _, _, _, _⟩ rfl (by kernel_rfl) (fun _ _ _ h => h) (by rfl) hHeld (by intro w s; (try dsimp only at s); go_simp; (try with_reducible rfl)) ?_; (try simp only [Act.put, List.setIfInBounds_toArray, List.set_cons_zero, List.set_cons_succ]))
  (refine tk 7 ⟨_, _, _, _, _, _⟩ rfl (by kernel_rfl) (fun _ _ _ h => h) (by rfl) hHeld (by intro w s; (try dsimp only at s); go_simp; (try with_reducible rfl)) ?_; (try simp only [Act.put, List.setIfInBounds_toArray, List.set_cons_zero, List.set_cons_succ]))
  (refine tk 8 ⟨_, _, _, _, _, _⟩ rfl (by kernel_rfl) (fun _ _ _ h => h) (by rfl) hHeld (by intro w s; (try dsimp only at s); go_simp; (try with_reducible rfl)) ?_; (try simp only [Act.put, List.setIfInBounds_toArray, List.set_cons_zero, List.set_cons_succ]))
  (refine wpAnyH_ready (rs := [9]) (by kernel_rfl) (by simp) ?_; refine AllReadyH.cons (o := ⟨_, _, _, _, _, _⟩) rfl (fun K hK => ?_) AllReadyH.nil; go_simp; (go_at_call 12; refine (sbok_q V _ _ (by with_reducible assumption)).mono ?_; rintro e w6 ⟨rfl, hb6⟩; have hA6 := hA5.call hb6; have gy60 : Al w w6 (ab) 12 V := hA6.get (x := (ab, 12, V)) (by simp); have cy6x0c0 := (gy60).2.2.1 0 (by omega); have cy6x0f0 := (gy60).2.2.2 0 (by omega); have cy6x0c1 := (gy60).2.2.1 1 (by omega); have cy6x0f1 := (gy60).2.2.2 1 (by omega); have cy6x0c2 := (gy60).2.2.1 2 (by omega); have cy6x0f2 := (gy60).2.2.2 2 (by omega); have cy6x0c3 := (gy60).2.2.1 3 (by omega); have cy6x0f3 := (gy60).2.2.2 3 (by omega); have cy6x0c4 := (gy60).2.2.1 4 (by omega); have cy6x0f4 := (gy60).2.2.2 4 (by omega); have cy6x0c5 := (gy60).2.2.1 5 (by omega); have cy6x0f5 := (gy60).2.2.2 5 (by omega); have cy6x0c6 := (gy60).2.2.1 6 (by omega); have cy6x0f6 := (gy60).2.2.2 6 (by omega); have cy6x0c7 := (gy60).2.2.1 7 (by omega); have cy6x0f7 := (gy60).2.2.2 7 (by omega); have cy6x0c8 := (gy60).2.2.1 8 (by omega); have cy6x0f8 := (gy60).2.2.2 8 (by omega); have cy6x0c9 := (gy60).2.2.1 9 (by omega); have cy6x0f9 := (gy60).2.2.2 9 (by omega); have cy6x0c10 := (gy60).2.2.1 10 (by omega); have cy6x0f10 := (gy60).2.2.2 10 (by omega); have cy6x0c11 := (gy60).2.2.1 11 (by omega); have cy6x0f11 := (gy60).2.2.2 11 (by omega); clear gy60; have gy61 : Al w w6 (ab + 1) 12 U := hA6.get (x := (ab + 1, 12, U)) (by simp); have cy6x1c0 := (gy61).2.2.1 0 (by omega); have cy6x1f0 := (gy61).2.2.2 0 (by omega); have cy6x1c1 := (gy61).2.2.1 1 (by omega); have cy6x1f1 := (gy61).2.2.2 1 (by omega); have cy6x1c2 := (gy61).2.2.1 2 (by omega); have cy6x1f2 := (gy61).2.2.2 2 (by omega); have cy6x1c3 := (gy61).2.2.1 3 (by omega); have cy6x1f3 := (gy61).2.2.2 3 (by omega); have cy6x1c4 := (gy61).2.2.1 4 (by omega); have cy6x1f4 := (gy61).2.2.2 4 (by omega); have cy6x1c5 := (gy61).2.2.1 5 (by omega); have cy6x1f5 := (gy61).2.2.2 5 (by omega); have cy6x1c6 := (gy61).2.2.1 6 (by omega); have cy6x1f6 := (gy61).2.2.2 6 (by omega); have cy6x1c7 := (gy61).2.2.1 7 (by omega); have cy6x1f7 := (gy61).2.2.2 7 (by omega); have cy6x1c8 := (gy61).2.2.1 8 (by omega); have cy6x1f8 := (gy61).2.2.2 8 (by omega); have cy6x1c9 := (gy61).2.2.1 9 (by omega); have cy6x1f9 := (gy61).2.2.2 9 (by omega); have cy6x1c10 := (gy61).2.2.1 10 (by omega); have cy6x1f10 := (gy61).2.2.2 10 (by omega); have cy6x1c11 := (gy61).2.2.1 11 (by omega); have cy6x1f11 := (gy61).2.2.2 11 (by omega); clear gy61; have gy62 : Al w w6 (ab + 1 + 1) 3 (fun j => [X, Y, D].getD j 0) := hA6.get (x := (ab + 1 + 1, 3, (fun j => [X, Y, D].getD j 0))) (by simp); have cy6x2c0 := (gy62).2.2.1 0 (by omega); have cy6x2f0 := (gy62).2.2.2 0 (by omega); have cy6x2c1 := (gy62).2.2.1 1 (by omega); have cy6x2f1 := (gy62).2.2.2 1 (by omega); have cy6x2c2 := (gy62).2.2.1 2 (by omega); have cy6x2f2 := (gy62).2.2.2 2 (by omega); clear gy62; have gy63 : Al w w6 (pb) 2 (fun j => [PX, PY].getD j 0) := hA6.get (x := (pb, 2, (fun j => [PX, PY].getD j 0))) (by simp); have cy6x3c0 := (gy63).2.2.1 0 (by omega); have cy6x3f0 := (gy63).2.2.2 0 (by omega); have cy6x3c1 := (gy63).2.2.1 1 (by omega); have cy6x3f1 := (gy63).2.2.2 1 (by omega); clear gy63); (try go_wp2_with fail); refine hK.out _ _ ?_ (fun hHeld => ?_); (focus ((try dsimp only); (first | (go_simp; done) | (go_keep; done)))); clear hK K; (try simp only [Act.put, List.setIfInBounds_toArray, List.set_cons_zero, List.set_cons_succ]))
  (refine tk 10 ⟨_, _, _, _, _, _⟩ rfl (by kernel_rfl) (fun _ _ _ h => h) (by rfl) hHeld (by intro w s; (try dsimp only at s); go_simp; (try with_reducible rfl)) ?_; (try simp only [Act.put, List.setIfInBounds_toArray, List.set_cons_zero, List.set_cons_succ]))
  (refine tk 11 ⟨_, _, _, _, _, _⟩ rfl (by kernel_rfl) (fun _ _ _ h => h) (by rfl) hHeld (by intro w s; (try dsimp only at s); go_simp; (try with_reducible rfl)) ?_; (try simp only [Act.put, List.setIfInBounds_toArray, List.set_cons_zero, List.set_cons_succ]))
  (refine tk 12 ⟨_, _, _, _, _, _⟩ rfl (by kernel_rfl) (fun _ _ _ h => h) (by rfl) hHeld (by intro w s; (try dsimp only at s); go_simp; (try with_reducible rfl)) ?_; (try simp only [Act.put, List.setIfInBounds_toArray, List.set_cons_zero, List.set_cons_succ]))
  (refine tk 13 ⟨_, _, _, _, _, _⟩ rfl (by kernel_rfl) (fun _ _ _ h => h) (by rfl) hHeld (by intro w s; (try dsimp only at s); go_simp; (try with_reducible rfl)) ?_; (try simp only [Act.put, List.setIfInBounds_toArray, List.set_cons_zero, List.set_cons_succ]))
  (refine wpAnyH_ready (rs := [14]) (by kernel_rfl) (by simp) ?_; refine AllReadyH.cons (o := ⟨_, _, _, _, _, _⟩) rfl (fun K hK => ?_) AllReadyH.nil; go_simp; (go_at_call 12; refine (sbok_q U _ _ (by with_reducible assumption)).mono ?_; rintro e w7 ⟨rfl, hb7⟩; have hA7 := hA6.call hb7; have gy70 : Al w w7 (ab) 12 V := hA7.get (x := (ab, 12, V)) (by simp); have cy7x0c0 := (gy70).2.2.1 0 (by omega); have cy7x0f0 := (gy70).2.2.2 0 (by omega); have cy7x0c1 := (gy70).2.2.1 1 (by omega); have cy7x0f1 := (gy70).2.2.2 1 (by omega); have cy7x0c2 := (gy70).2.2.1 2 (by omega); have cy7x0f2 := (gy70).2.2.2 2 (by omega); have cy7x0c3 := (gy70).2.2.1 3 (by omega); have cy7x0f3 := (gy70).2.2.2 3 (by omega); have cy7x0c4 := (gy70).2.2.1 4 (by omega); have cy7x0f4 := (gy70).2.2.2 4 (by omega); have cy7x0c5 := (gy70).2.2.1 5 (by omega); have cy7x0f5 := (gy70).2.2.2 5 (by omega); have cy7x0c6 := (gy70).2.2.1 6 (by omega); have cy7x0f6 := (gy70).2.2.2 6 (by omega); have cy7x0c7 := (gy70).2.2.1 7 (by omega); have cy7x0f7 := (gy70).2.2.2 7 (by omega); have cy7x0c8 := (gy70).2.2.1 8 (by omega); have cy7x0f8 := (gy70).2.2.2 8 (by omega); have cy7x0c9 := (gy70).2.2.1 9 (by omega); have cy7x0f9 := (gy70).2.2.2 9 (by omega); have cy7x0c10 := (gy70).2.2.1 10 (by omega); have cy7x0f10 := (gy70).2.2.2 10 (by omega); have cy7x0c11 := (gy70).2.2.1 11 (by omega); have cy7x0f11 := (gy70).2.2.2 11 (by omega); clear gy70; have gy71 : Al w w7 (ab + 1) 12 U := hA7.get (x := (ab + 1, 12, U)) (by simp); have cy7x1c0 := (gy71).2.2.1 0 (by omega); have cy7x1f0 := (gy71).2.2.2 0 (by omega); have cy7x1c1 := (gy71).2.2.1 1 (by omega); have cy7x1f1 := (gy71).2.2.2 1 (by omega); have cy7x1c2 := (gy71).2.2.1 2 (by omega); have cy7x1f2 := (gy71).2.2.2 2 (by omega); have cy7x1c3 := (gy71).2.2.1 3 (by omega); have cy7x1f3 := (gy71).2.2.2 3 (by omega); have cy7x1c4 := (gy71).2.2.1 4 (by omega); have cy7x1f4 := (gy71).2.2.2 4 (by omega); have cy7x1c5 := (gy71).2.2.1 5 (by omega); have cy7x1f5 := (gy71).2.2.2 5 (by omega); have cy7x1c6 := (gy71).2.2.1 6 (by omega); have cy7x1f6 := (gy71).2.2.2 6 (by omega); have cy7x1c7 := (gy71).2.2.1 7 (by omega); have cy7x1f7 := (gy71).2.2.2 7 (by omega); have cy7x1c8 := (gy71).2.2.1 8 (by omega); have cy7x1f8 := (gy71).2.2.2 8 (by omega); have cy7x1c9 := (gy71).2.2.1 9 (by omega); have cy7x1f9 := (gy71).2.2.2 9 (by omega); have cy7x1c10 := (gy71).2.2.1 10 (by omega); have cy7x1f10 := (gy71).2.2.2 10 (by omega); have cy7x1c11 := (gy71).2.2.1 11 (by omega); have cy7x1f11 := (gy71).2.2.2 11 (by omega); clear gy71; have gy72 : Al w w7 (ab + 1 + 1) 3 (fun j => [X, Y, D].getD j 0) := hA7.get (x := (ab + 1 + 1, 3, (fun j => [X, Y, D].getD j 0))) (by simp); have cy7x2c0 := (gy72).2.2.1 0 (by omega); have cy7x2f0 := (gy72).2.2.2 0 (by omega); have cy7x2c1 := (gy72).2.2.1 1 (by omega); have cy7x2f1 := (gy72).2.2.2 1 (by omega); have cy7x2c2 := (gy72).2.2.1 2 (by omega); have cy7x2f2 := (gy72).2.2.2 2 (by omega); clear gy72; have gy73 : Al w w7 (pb) 2 (fun j => [PX, PY].getD j 0) := hA7.get (x := (pb, 2, (fun j => [PX, PY].getD j 0))) (by simp); have cy7x3c0 := (gy73).2.2.1 0 (by omega); have cy7x3f0 := (gy73).2.2.2 0 (by omega); have cy7x3c1 := (gy73).2.2.1 1 (by omega); have cy7x3f1 := (gy73).2.2.2 1 (by omega); clear gy73); (try go_wp2_with fail); refine hK.out _ _ ?_ (fun hHeld => ?_); (focus ((try dsimp only); (first | (go_simp; done) | (go_keep; done)))); clear hK K; (try simp only [Act.put, List.setIfInBounds_toArray, List.set_cons_zero, List.set_cons_succ]))
  (refine tk 15 ⟨_, _, _, _, _, _⟩ rfl (by kernel_rfl) (fun _ _ _ h => h) (by rfl) hHeld (by intro w s; (try dsimp only at s); go_simp; (try with_reducible rfl)) ?_; (try simp only [Act.put, List.setIfInBounds_toArray, List.set_cons_zero, List.set_cons_succ]))
  (refine tk 16 ⟨_, _, _, _, _, _⟩ rfl (by kernel_rfl) (fun _ _ _ h => h) (by rfl) hHeld (by intro w s; (try dsimp only at s); go_simp; (try with_reducible rfl)) ?_; (try simp only [Act.put, List.setIfInBounds_toArray, List.set_cons_zero, List.set_cons_succ]))
  refine wpAnyH_done (by kernel_rfl) ?_ _
  clear hHeld
  obtain ⟨c, ec⟩ : ∃ c, clV V U X Y D = c := ⟨_, rfl⟩
  have hno : Shut ((c ≤ 0 ∨ (V 8 = 0 ∧ U 8 = 0)) → PX = 0 ∧ PY = 0) := fun h => by
    have q := po_none (V := V) (U := U) (x := X) (y := Y) (k := D) (bo := bo) (by rw [ec]; exact h)
    rw [eX, eY] at q
    exact q
  clear eX eY
  go_upto_region 7 with fail
  go_cut [63] (fun s63 wc => ∃ b : Bool, s63 = .bool b ∧ (b = true → c ≤ 0 ∨ (V 8 = 0 ∧ U 8 = 0)) ∧ (b = false → 0 < c) ∧ AL w wc [(pb, 2, (fun j => [PX, PY].getD j 0)), (ab + 1 + 1, 3, (fun j => [X, Y, D].getD j 0)), (ab + 1, 12, U), (ab, 12, V)])
  case first =>
    by_cases m0 : c ≤ 0
    · go_wp2_with (go_at_call 7; refine (clo2_q V U X Y D c _ (by with_reducible assumption)).mono ?_; rintro e w9 ⟨rfl, hb9⟩; have hA9 := hA7.call hb9)
      go_meet
      exact ⟨_, rfl, fun _ => .inl m0, fun h => (by cases h), hA9⟩
    · by_cases m1 : V 8 = 0
      · by_cases m2 : U 8 = 0
        all_goals have s1 : Shut (V 8 = 0) := m1
        all_goals have u1 : (V 8 == 0) = true := (by simp [m1])
        · have u2 : (U 8 == 0) = true := (by simp [m2])
          have s2 : Shut (U 8 = 0) := m2
          clear m1 m2
          go_wp2_with (go_at_call 7; refine (clo2_q V U X Y D c _ (by with_reducible assumption)).mono ?_; rintro e w9 ⟨rfl, hb9⟩; have hA9 := hA7.call hb9; have gz0 : Al w w9 (ab) 12 V := hA9.get (x := (ab, 12, V)) (by simp); have czx0c0 := (gz0).2.2.1 0 (by omega); have czx0f0 := (gz0).2.2.2 0 (by omega); have czx0c1 := (gz0).2.2.1 1 (by omega); have czx0f1 := (gz0).2.2.2 1 (by omega); have czx0c2 := (gz0).2.2.1 2 (by omega); have czx0f2 := (gz0).2.2.2 2 (by omega); have czx0c3 := (gz0).2.2.1 3 (by omega); have czx0f3 := (gz0).2.2.2 3 (by omega); have czx0c4 := (gz0).2.2.1 4 (by omega); have czx0f4 := (gz0).2.2.2 4 (by omega); have czx0c5 := (gz0).2.2.1 5 (by omega); have czx0f5 := (gz0).2.2.2 5 (by omega); have czx0c6 := (gz0).2.2.1 6 (by omega); have czx0f6 := (gz0).2.2.2 6 (by omega); have czx0c7 := (gz0).2.2.1 7 (by omega); have czx0f7 := (gz0).2.2.2 7 (by omega); have czx0c8 := (gz0).2.2.1 8 (by omega); have czx0f8 := (gz0).2.2.2 8 (by omega); have czx0c9 := (gz0).2.2.1 9 (by omega); have czx0f9 := (gz0).2.2.2 9 (by omega); have czx0c10 := (gz0).2.2.1 10 (by omega); have czx0f10 := (gz0).2.2.2 10 (by omega); have czx0c11 := (gz0).2.2.1 11 (by omega); have czx0f11 := (gz0).2.2.2 11 (by omega); clear gz0; have gz1 : Al w w9 (ab + 1) 12 U := hA9.get (x := (ab + 1, 12, U)) (by simp); have czx1c0 := (gz1).2.2.1 0 (by omega); have czx1f0 := (gz1).2.2.2 0 (by omega); have czx1c1 := (gz1).2.2.1 1 (by omega); have czx1f1 := (gz1).2.2.2 1 (by omega); have czx1c2 := (gz1).2.2.1 2 (by omega); have czx1f2 := (gz1).2.2.2 2 (by omega); have czx1c3 := (gz1).2.2.1 3 (by omega); have czx1f3 := (gz1).2.2.2 3 (by omega); have czx1c4 := (gz1).2.2.1 4 (by omega); have czx1f4 := (gz1).2.2.2 4 (by omega); have czx1c5 := (gz1).2.2.1 5 (by omega); have czx1f5 := (gz1).2.2.2 5 (by omega); have czx1c6 := (gz1).2.2.1 6 (by omega); have czx1f6 := (gz1).2.2.2 6 (by omega); have czx1c7 := (gz1).2.2.1 7 (by omega); have czx1f7 := (gz1).2.2.2 7 (by omega); have czx1c8 := (gz1).2.2.1 8 (by omega); have czx1f8 := (gz1).2.2.2 8 (by omega); have czx1c9 := (gz1).2.2.1 9 (by omega); have czx1f9 := (gz1).2.2.2 9 (by omega); have czx1c10 := (gz1).2.2.1 10 (by omega); have czx1f10 := (gz1).2.2.2 10 (by omega); have czx1c11 := (gz1).2.2.1 11 (by omega); have czx1f11 := (gz1).2.2.2 11 (by omega); clear gz1)
          go_meet
          exact ⟨_, rfl, fun _ => .inr ⟨s1.out, s2.out⟩, fun h => (by cases h), hA9⟩
        · have u2 : (U 8 == 0) = false := (by simp [m2])
          clear m1
          go_wp2_with (go_at_call 7; refine (clo2_q V U X Y D c _ (by with_reducible assumption)).mono ?_; rintro e w9 ⟨rfl, hb9⟩; have hA9 := hA7.call hb9; have gz0 : Al w w9 (ab) 12 V := hA9.get (x := (ab, 12, V)) (by simp); have czx0c0 := (gz0).2.2.1 0 (by omega); have czx0f0 := (gz0).2.2.2 0 (by omega); have czx0c1 := (gz0).2.2.1 1 (by omega); have czx0f1 := (gz0).2.2.2 1 (by omega); have czx0c2 := (gz0).2.2.1 2 (by omega); have czx0f2 := (gz0).2.2.2 2 (by omega); have czx0c3 := (gz0).2.2.1 3 (by omega); have czx0f3 := (gz0).2.2.2 3 (by omega); have czx0c4 := (gz0).2.2.1 4 (by omega); have czx0f4 := (gz0).2.2.2 4 (by omega); have czx0c5 := (gz0).2.2.1 5 (by omega); have czx0f5 := (gz0).2.2.2 5 (by omega); have czx0c6 := (gz0).2.2.1 6 (by omega); have czx0f6 := (gz0).2.2.2 6 (by omega); have czx0c7 := (gz0).2.2.1 7 (by omega); have czx0f7 := (gz0).2.2.2 7 (by omega); have czx0c8 := (gz0).2.2.1 8 (by omega); have czx0f8 := (gz0).2.2.2 8 (by omega); have czx0c9 := (gz0).2.2.1 9 (by omega); have czx0f9 := (gz0).2.2.2 9 (by omega); have czx0c10 := (gz0).2.2.1 10 (by omega); have czx0f10 := (gz0).2.2.2 10 (by omega); have czx0c11 := (gz0).2.2.1 11 (by omega); have czx0f11 := (gz0).2.2.2 11 (by omega); clear gz0; have gz1 : Al w w9 (ab + 1) 12 U := hA9.get (x := (ab + 1, 12, U)) (by simp); have czx1c0 := (gz1).2.2.1 0 (by omega); have czx1f0 := (gz1).2.2.2 0 (by omega); have czx1c1 := (gz1).2.2.1 1 (by omega); have czx1f1 := (gz1).2.2.2 1 (by omega); have czx1c2 := (gz1).2.2.1 2 (by omega); have czx1f2 := (gz1).2.2.2 2 (by omega); have czx1c3 := (gz1).2.2.1 3 (by omega); have czx1f3 := (gz1).2.2.2 3 (by omega); have czx1c4 := (gz1).2.2.1 4 (by omega); have czx1f4 := (gz1).2.2.2 4 (by omega); have czx1c5 := (gz1).2.2.1 5 (by omega); have czx1f5 := (gz1).2.2.2 5 (by omega); have czx1c6 := (gz1).2.2.1 6 (by omega); have czx1f6 := (gz1).2.2.2 6 (by omega); have czx1c7 := (gz1).2.2.1 7 (by omega); have czx1f7 := (gz1).2.2.2 7 (by omega); have czx1c8 := (gz1).2.2.1 8 (by omega); have czx1f8 := (gz1).2.2.2 8 (by omega); have czx1c9 := (gz1).2.2.1 9 (by omega); have czx1f9 := (gz1).2.2.2 9 (by omega); have czx1c10 := (gz1).2.2.1 10 (by omega); have czx1f10 := (gz1).2.2.2 10 (by omega); have czx1c11 := (gz1).2.2.1 11 (by omega); have czx1f11 := (gz1).2.2.2 11 (by omega); clear gz1)
          go_meet
          exact ⟨_, rfl, fun h => (by first | (simp at h; omega) | (simp [m0] at h) | cases h), fun _ => (by omega), hA9⟩
      · have u1 : (V 8 == 0) = false := (by simp [m1])
        go_wp2_with (go_at_call 7; refine (clo2_q V U X Y D c _ (by with_reducible assumption)).mono ?_; rintro e w9 ⟨rfl, hb9⟩; have hA9 := hA7.call hb9; have gz0 : Al w w9 (ab) 12 V := hA9.get (x := (ab, 12, V)) (by simp); have czx0c0 := (gz0).2.2.1 0 (by omega); have czx0f0 := (gz0).2.2.2 0 (by omega); have czx0c1 := (gz0).2.2.1 1 (by omega); have czx0f1 := (gz0).2.2.2 1 (by omega); have czx0c2 := (gz0).2.2.1 2 (by omega); have czx0f2 := (gz0).2.2.2 2 (by omega); have czx0c3 := (gz0).2.2.1 3 (by omega); have czx0f3 := (gz0).2.2.2 3 (by omega); have czx0c4 := (gz0).2.2.1 4 (by omega); have czx0f4 := (gz0).2.2.2 4 (by omega); have czx0c5 := (gz0).2.2.1 5 (by omega); have czx0f5 := (gz0).2.2.2 5 (by omega); have czx0c6 := (gz0).2.2.1 6 (by omega); have czx0f6 := (gz0).2.2.2 6 (by omega); have czx0c7 := (gz0).2.2.1 7 (by omega); have czx0f7 := (gz0).2.2.2 7 (by omega); have czx0c8 := (gz0).2.2.1 8 (by omega); have czx0f8 := (gz0).2.2.2 8 (by omega); have czx0c9 := (gz0).2.2.1 9 (by omega); have czx0f9 := (gz0).2.2.2 9 (by omega); have czx0c10 := (gz0).2.2.1 10 (by omega); have czx0f10 := (gz0).2.2.2 10 (by omega); have czx0c11 := (gz0).2.2.1 11 (by omega); have czx0f11 := (gz0).2.2.2 11 (by omega); clear gz0; have gz1 : Al w w9 (ab + 1) 12 U := hA9.get (x := (ab + 1, 12, U)) (by simp); have czx1c0 := (gz1).2.2.1 0 (by omega); have czx1f0 := (gz1).2.2.2 0 (by omega); have czx1c1 := (gz1).2.2.1 1 (by omega); have czx1f1 := (gz1).2.2.2 1 (by omega); have czx1c2 := (gz1).2.2.1 2 (by omega); have czx1f2 := (gz1).2.2.2 2 (by omega); have czx1c3 := (gz1).2.2.1 3 (by omega); have czx1f3 := (gz1).2.2.2 3 (by omega); have czx1c4 := (gz1).2.2.1 4 (by omega); have czx1f4 := (gz1).2.2.2 4 (by omega); have czx1c5 := (gz1).2.2.1 5 (by omega); have czx1f5 := (gz1).2.2.2 5 (by omega); have czx1c6 := (gz1).2.2.1 6 (by omega); have czx1f6 := (gz1).2.2.2 6 (by omega); have czx1c7 := (gz1).2.2.1 7 (by omega); have czx1f7 := (gz1).2.2.2 7 (by omega); have czx1c8 := (gz1).2.2.1 8 (by omega); have czx1f8 := (gz1).2.2.2 8 (by omega); have czx1c9 := (gz1).2.2.1 9 (by omega); have czx1f9 := (gz1).2.2.2 9 (by omega); have czx1c10 := (gz1).2.2.1 10 (by omega); have czx1f10 := (gz1).2.2.2 10 (by omega); have czx1c11 := (gz1).2.2.1 11 (by omega); have czx1f11 := (gz1).2.2.2 11 (by omega); clear gz1)
        go_meet
        exact ⟨_, rfl, fun h => (by first | (simp at h; omega) | (simp [m0] at h) | cases h), fun _ => (by omega), hA9⟩
  case rest =>
  clear hA hA5 hA6 hA7
  obtain ⟨b, rfl, hb1, hb2, hA⟩ := hcut
  cases b with
  | true =>
    obtain ⟨rfl, rfl⟩ := hno.out (hb1 rfl)
    have g0 : Al w wc pb 2 (fun j => [0, 0].getD j 0) := hA.get (x := (pb, 2, (fun j => [0, 0].getD j 0))) (by simp)
    have g0xc0 := (g0).2.2.1 0 (by omega)
    have g0xf0 := (g0).2.2.2 0 (by omega)
    have g0xc1 := (g0).2.2.1 1 (by omega)
    have g0xf1 := (g0).2.2.2 1 (by omega)
    clear hno ec
    go_wp2_with fail
    go_ret
    exact ⟨rfl, hA.bel⟩
  | false =>
  have hc := hb2 rfl
  clear hno hb1 hb2
  have hS : Shut (∀ V' : Nat → Int, (∀ j, V' j = if j = 10 then 0 else V j) → (0 ≤ poX V' U X Y D false * X ∧ 0 ≤ poY V' U X Y D false * Y) ∧ absZ (poX V' U X Y D false) ≤ absZ (poX V' U X Y D true) ∧ absZ (poY V' U X Y D false) ≤ absZ (poY V' U X Y D true)) := fun V' h => po_law h1 h2 h (by rw [ec]; exact hc)
  clear ec hc h1 h2
  have gf0 : Al w wc (ab) 12 V := hA.get (x := (ab, 12, V)) (by simp)
  have cfx0c0 := (gf0).2.2.1 0 (by omega)
  have cfx0f0 := (gf0).2.2.2 0 (by omega)
  have cfx0c1 := (gf0).2.2.1 1 (by omega)
  have cfx0f1 := (gf0).2.2.2 1 (by omega)
  have cfx0c2 := (gf0).2.2.1 2 (by omega)
  have cfx0f2 := (gf0).2.2.2 2 (by omega)
  have cfx0c3 := (gf0).2.2.1 3 (by omega)
  have cfx0f3 := (gf0).2.2.2 3 (by omega)
  have cfx0c4 := (gf0).2.2.1 4 (by omega)
  have cfx0f4 := (gf0).2.2.2 4 (by omega)
  have cfx0c5 := (gf0).2.2.1 5 (by omega)
  have cfx0f5 := (gf0).2.2.2 5 (by omega)
  have cfx0c6 := (gf0).2.2.1 6 (by omega)
  have cfx0f6 := (gf0).2.2.2 6 (by omega)
  have cfx0c7 := (gf0).2.2.1 7 (by omega)
  have cfx0f7 := (gf0).2.2.2 7 (by omega)
  have cfx0c8 := (gf0).2.2.1 8 (by omega)
  have cfx0f8 := (gf0).2.2.2 8 (by omega)
  have cfx0c9 := (gf0).2.2.1 9 (by omega)
  have cfx0f9 := (gf0).2.2.2 9 (by omega)
  have cfx0c10 := (gf0).2.2.1 10 (by omega)
  have cfx0f10 := (gf0).2.2.2 10 (by omega)
  have cfx0c11 := (gf0).2.2.1 11 (by omega)
  have cfx0f11 := (gf0).2.2.2 11 (by omega)
  clear gf0
  go_upto_region 9 with fail
  go_cut [] (fun wc => ∃ V' : Nat → Int, Shut (∀ j, V' j = if j = 10 then 0 else V j) ∧ AL w wc [(ab, 12, V'), (ab + 1 + 1, 3, (fun j => [X, Y, D].getD j 0)), (ab + 1, 12, U)])
  case first =>
    go_wp2_with fail
    go_meet
    exact ⟨_, fun j => rfl, (hA.sub (M := [(ab, 12, V), (ab + 1 + 1, 3, (fun j => [X, Y, D].getD j 0)), (ab + 1, 12, U)]) (by intro x hx; simp only [List.mem_cons, List.not_mem_nil, or_false] at hx; rcases hx with rfl | rfl | rfl <;> simp)).set (by intro x hx; simp only [List.mem_cons, List.not_mem_nil, or_false] at hx; rcases hx with rfl | rfl <;> dsimp only <;> omega) 10 (by omega) 0⟩
  case rest =>
  clear hA cfx0c0 cfx0f0 cfx0c1 cfx0f1 cfx0c2 cfx0f2 cfx0c3 cfx0f3 cfx0c4 cfx0f4 cfx0c5 cfx0f5 cfx0c6 cfx0f6 cfx0c7 cfx0f7 cfx0c8 cfx0f8 cfx0c9 cfx0f9 cfx0c10 cfx0f10 cfx0c11 cfx0f11
  obtain ⟨T, hT, hA⟩ := hcut
  have hL := hS.out T hT.out
  have d1 := po_bd T U X Y D false
  have d2 := po_bd T U X Y D true
  clear hS hT
  generalize e1 : poX T U X Y D false = LX at *
  generalize e2 : poY T U X Y D false = LY at *
  generalize e3 : poX T U X Y D true = MX at *
  generalize e4 : poY T U X Y D true = MY at *
  obtain ⟨⟨g1, g2⟩, g3, g4⟩ := hL
  have gh0 : Al w wc (ab) 12 T := hA.get (x := (ab, 12, T)) (by simp)
  have chx0c0 := (gh0).2.2.1 0 (by omega)
  have chx0f0 := (gh0).2.2.2 0 (by omega)
  have chx0c1 := (gh0).2.2.1 1 (by omega)
  have chx0f1 := (gh0).2.2.2 1 (by omega)
  have chx0c2 := (gh0).2.2.1 2 (by omega)
  have chx0f2 := (gh0).2.2.2 2 (by omega)
  have chx0c3 := (gh0).2.2.1 3 (by omega)
  have chx0f3 := (gh0).2.2.2 3 (by omega)
  have chx0c4 := (gh0).2.2.1 4 (by omega)
  have chx0f4 := (gh0).2.2.2 4 (by omega)
  have chx0c5 := (gh0).2.2.1 5 (by omega)
  have chx0f5 := (gh0).2.2.2 5 (by omega)
  have chx0c6 := (gh0).2.2.1 6 (by omega)
  have chx0f6 := (gh0).2.2.2 6 (by omega)
  have chx0c7 := (gh0).2.2.1 7 (by omega)
  have chx0f7 := (gh0).2.2.2 7 (by omega)
  have chx0c8 := (gh0).2.2.1 8 (by omega)
  have chx0f8 := (gh0).2.2.2 8 (by omega)
  have chx0c9 := (gh0).2.2.1 9 (by omega)
  have chx0f9 := (gh0).2.2.2 9 (by omega)
  have chx0c10 := (gh0).2.2.1 10 (by omega)
  have chx0f10 := (gh0).2.2.2 10 (by omega)
  have chx0c11 := (gh0).2.2.1 11 (by omega)
  have chx0f11 := (gh0).2.2.2 11 (by omega)
  clear gh0
  have gh1 : Al w wc (ab + 1) 12 U := hA.get (x := (ab + 1, 12, U)) (by simp)
  have chx1c0 := (gh1).2.2.1 0 (by omega)
  have chx1f0 := (gh1).2.2.2 0 (by omega)
  have chx1c1 := (gh1).2.2.1 1 (by omega)
  have chx1f1 := (gh1).2.2.2 1 (by omega)
  have chx1c2 := (gh1).2.2.1 2 (by omega)
  have chx1f2 := (gh1).2.2.2 2 (by omega)
  have chx1c3 := (gh1).2.2.1 3 (by omega)
  have chx1f3 := (gh1).2.2.2 3 (by omega)
  have chx1c4 := (gh1).2.2.1 4 (by omega)
  have chx1f4 := (gh1).2.2.2 4 (by omega)
  have chx1c5 := (gh1).2.2.1 5 (by omega)
  have chx1f5 := (gh1).2.2.2 5 (by omega)
  have chx1c6 := (gh1).2.2.1 6 (by omega)
  have chx1f6 := (gh1).2.2.2 6 (by omega)
  have chx1c7 := (gh1).2.2.1 7 (by omega)
  have chx1f7 := (gh1).2.2.2 7 (by omega)
  have chx1c8 := (gh1).2.2.1 8 (by omega)
  have chx1f8 := (gh1).2.2.2 8 (by omega)
  have chx1c9 := (gh1).2.2.1 9 (by omega)
  have chx1f9 := (gh1).2.2.2 9 (by omega)
  have chx1c10 := (gh1).2.2.1 10 (by omega)
  have chx1f10 := (gh1).2.2.2 10 (by omega)
  have chx1c11 := (gh1).2.2.1 11 (by omega)
  have chx1f11 := (gh1).2.2.2 11 (by omega)
  clear gh1
  have gh2 : Al w wc (ab + 1 + 1) 3 (fun j => [X, Y, D].getD j 0) := hA.get (x := (ab + 1 + 1, 3, (fun j => [X, Y, D].getD j 0))) (by simp)
  have chx2c0 := (gh2).2.2.1 0 (by omega)
  have chx2f0 := (gh2).2.2.2 0 (by omega)
  have chx2c1 := (gh2).2.2.1 1 (by omega)
  have chx2f1 := (gh2).2.2.2 1 (by omega)
  have chx2c2 := (gh2).2.2.1 2 (by omega)
  have chx2f2 := (gh2).2.2.2 2 (by omega)
  clear gh2
  go_upto_region 10 with fail
  go_cut [8] (fun s8 wc => ∃ lb : Nat, s8 = .pointer (some ⟨lb, 0, none⟩) ∧ (ab + 1 + 1 < lb) ∧ AL w wc [(lb, 2, (fun j => [LX, LY].getD j 0)), (ab, 12, T), (ab + 1 + 1, 3, (fun j => [X, Y, D].getD j 0)), (ab + 1, 12, U)])
  case first =>
    go_wp2_with (go_at_call 10; refine (po_q T U X Y D LX LY false _ (by with_reducible assumption) (by with_reducible assumption)).mono ?_; rintro e w2 ⟨rfl, hb2⟩)
    go_meet
    have hA2 := hA.call hb2
    have q1 : ab + 1 + 1 < w2.heap.size := hA2.lt (x := (ab + 1 + 1, 3, (fun j => [X, Y, D].getD j 0))) (by simp)
    exact ⟨_, rfl, q1, hA2.new _ 2 _ rfl (by intro i hi; rcases (show i = 0 ∨ i = 1 by omega) with rfl | rfl <;> rfl)⟩
  case rest =>
  clear hA chx0c0 chx0f0 chx0c1 chx0f1 chx0c2 chx0f2 chx0c3 chx0f3 chx0c4 chx0f4 chx0c5 chx0f5 chx0c6 chx0f6 chx0c7 chx0f7 chx0c8 chx0f8 chx0c9 chx0f9 chx0c10 chx0f10 chx0c11 chx0f11 chx1c0 chx1f0 chx1c1 chx1f1 chx1c2 chx1f2 chx1c3 chx1f3 chx1c4 chx1f4 chx1c5 chx1f5 chx1c6 chx1f6 chx1c7 chx1f7 chx1c8 chx1f8 chx1c9 chx1f9 chx1c10 chx1f10 chx1c11 chx1f11 chx2c0 chx2f0 chx2c1 chx2f1 chx2c2 chx2f2
  obtain ⟨lb, rfl, llb, hA⟩ := hcut
  have gi0 : Al w wc (ab) 12 T := hA.get (x := (ab, 12, T)) (by simp)
  have cix0c0 := (gi0).2.2.1 0 (by omega)
  have cix0f0 := (gi0).2.2.2 0 (by omega)
  have cix0c1 := (gi0).2.2.1 1 (by omega)
  have cix0f1 := (gi0).2.2.2 1 (by omega)
  have cix0c2 := (gi0).2.2.1 2 (by omega)
  have cix0f2 := (gi0).2.2.2 2 (by omega)
  have cix0c3 := (gi0).2.2.1 3 (by omega)
  have cix0f3 := (gi0).2.2.2 3 (by omega)
  have cix0c4 := (gi0).2.2.1 4 (by omega)
  have cix0f4 := (gi0).2.2.2 4 (by omega)
  have cix0c5 := (gi0).2.2.1 5 (by omega)
  have cix0f5 := (gi0).2.2.2 5 (by omega)
  have cix0c6 := (gi0).2.2.1 6 (by omega)
  have cix0f6 := (gi0).2.2.2 6 (by omega)
  have cix0c7 := (gi0).2.2.1 7 (by omega)
  have cix0f7 := (gi0).2.2.2 7 (by omega)
  have cix0c8 := (gi0).2.2.1 8 (by omega)
  have cix0f8 := (gi0).2.2.2 8 (by omega)
  have cix0c9 := (gi0).2.2.1 9 (by omega)
  have cix0f9 := (gi0).2.2.2 9 (by omega)
  have cix0c10 := (gi0).2.2.1 10 (by omega)
  have cix0f10 := (gi0).2.2.2 10 (by omega)
  have cix0c11 := (gi0).2.2.1 11 (by omega)
  have cix0f11 := (gi0).2.2.2 11 (by omega)
  clear gi0
  have gi1 : Al w wc (ab + 1) 12 U := hA.get (x := (ab + 1, 12, U)) (by simp)
  have cix1c0 := (gi1).2.2.1 0 (by omega)
  have cix1f0 := (gi1).2.2.2 0 (by omega)
  have cix1c1 := (gi1).2.2.1 1 (by omega)
  have cix1f1 := (gi1).2.2.2 1 (by omega)
  have cix1c2 := (gi1).2.2.1 2 (by omega)
  have cix1f2 := (gi1).2.2.2 2 (by omega)
  have cix1c3 := (gi1).2.2.1 3 (by omega)
  have cix1f3 := (gi1).2.2.2 3 (by omega)
  have cix1c4 := (gi1).2.2.1 4 (by omega)
  have cix1f4 := (gi1).2.2.2 4 (by omega)
  have cix1c5 := (gi1).2.2.1 5 (by omega)
  have cix1f5 := (gi1).2.2.2 5 (by omega)
  have cix1c6 := (gi1).2.2.1 6 (by omega)
  have cix1f6 := (gi1).2.2.2 6 (by omega)
  have cix1c7 := (gi1).2.2.1 7 (by omega)
  have cix1f7 := (gi1).2.2.2 7 (by omega)
  have cix1c8 := (gi1).2.2.1 8 (by omega)
  have cix1f8 := (gi1).2.2.2 8 (by omega)
  have cix1c9 := (gi1).2.2.1 9 (by omega)
  have cix1f9 := (gi1).2.2.2 9 (by omega)
  have cix1c10 := (gi1).2.2.1 10 (by omega)
  have cix1f10 := (gi1).2.2.2 10 (by omega)
  have cix1c11 := (gi1).2.2.1 11 (by omega)
  have cix1f11 := (gi1).2.2.2 11 (by omega)
  clear gi1
  have gi2 : Al w wc (ab + 1 + 1) 3 (fun j => [X, Y, D].getD j 0) := hA.get (x := (ab + 1 + 1, 3, (fun j => [X, Y, D].getD j 0))) (by simp)
  have cix2c0 := (gi2).2.2.1 0 (by omega)
  have cix2f0 := (gi2).2.2.2 0 (by omega)
  have cix2c1 := (gi2).2.2.1 1 (by omega)
  have cix2f1 := (gi2).2.2.2 1 (by omega)
  have cix2c2 := (gi2).2.2.1 2 (by omega)
  have cix2f2 := (gi2).2.2.2 2 (by omega)
  clear gi2
  go_upto_region 11 with fail
  go_cut [9] (fun s9 wc => ∃ mb : Nat, s9 = .pointer (some ⟨mb, 0, none⟩) ∧ (ab + 1 + 1 < mb ∧ lb < mb) ∧ AL w wc [(mb, 2, (fun j => [MX, MY].getD j 0)), (lb, 2, (fun j => [LX, LY].getD j 0)), (ab, 12, T), (ab + 1 + 1, 3, (fun j => [X, Y, D].getD j 0)), (ab + 1, 12, U)])
  case first =>
    go_wp2_with (go_at_call 10; refine (po_q T U X Y D MX MY true _ (by with_reducible assumption) (by with_reducible assumption)).mono ?_; rintro e w2 ⟨rfl, hb2⟩)
    go_meet
    have hA2 := hA.call hb2
    have q1 : ab + 1 + 1 < w2.heap.size := hA2.lt (x := (ab + 1 + 1, 3, (fun j => [X, Y, D].getD j 0))) (by simp)
    have q2 : lb < w2.heap.size := hA2.lt (x := (lb, 2, (fun j => [LX, LY].getD j 0))) (by simp)
    exact ⟨_, rfl, ⟨q1, q2⟩, hA2.new _ 2 _ rfl (by intro i hi; rcases (show i = 0 ∨ i = 1 by omega) with rfl | rfl <;> rfl)⟩
  case rest =>
  clear hA e1 e2 e3 e4 cix0c0 cix0f0 cix0c1 cix0f1 cix0c2 cix0f2 cix0c3 cix0f3 cix0c4 cix0f4 cix0c5 cix0f5 cix0c6 cix0f6 cix0c7 cix0f7 cix0c8 cix0f8 cix0c9 cix0f9 cix0c10 cix0f10 cix0c11 cix0f11 cix1c0 cix1f0 cix1c1 cix1f1 cix1c2 cix1f2 cix1c3 cix1f3 cix1c4 cix1f4 cix1c5 cix1f5 cix1c6 cix1f6 cix1c7 cix1f7 cix1c8 cix1f8 cix1c9 cix1f9 cix1c10 cix1f10 cix1c11 cix1f11 cix2c0 cix2f0 cix2c1 cix2f1 cix2c2 cix2f2
  obtain ⟨mb, rfl, ⟨lmb, lmc⟩, hA⟩ := hcut
  have gj0 : Al w wc (ab + 1 + 1) 3 (fun j => [X, Y, D].getD j 0) := hA.get (x := (ab + 1 + 1, 3, (fun j => [X, Y, D].getD j 0))) (by simp)
  have cjx0c0 := (gj0).2.2.1 0 (by omega)
  have cjx0f0 := (gj0).2.2.2 0 (by omega)
  have cjx0c1 := (gj0).2.2.1 1 (by omega)
  have cjx0f1 := (gj0).2.2.2 1 (by omega)
  have cjx0c2 := (gj0).2.2.1 2 (by omega)
  have cjx0f2 := (gj0).2.2.2 2 (by omega)
  clear gj0
  have gj1 : Al w wc (lb) 2 (fun j => [LX, LY].getD j 0) := hA.get (x := (lb, 2, (fun j => [LX, LY].getD j 0))) (by simp)
  have cjx1c0 := (gj1).2.2.1 0 (by omega)
  have cjx1f0 := (gj1).2.2.2 0 (by omega)
  have cjx1c1 := (gj1).2.2.1 1 (by omega)
  have cjx1f1 := (gj1).2.2.2 1 (by omega)
  clear gj1
  have gj2 : Al w wc (mb) 2 (fun j => [MX, MY].getD j 0) := hA.get (x := (mb, 2, (fun j => [MX, MY].getD j 0))) (by simp)
  have cjx2c0 := (gj2).2.2.1 0 (by omega)
  have cjx2f0 := (gj2).2.2.2 0 (by omega)
  have cjx2c1 := (gj2).2.2.1 1 (by omega)
  have cjx2f1 := (gj2).2.2.2 1 (by omega)
  clear gj2
  have m1 := mul_bd (a := LX) (b := X) (A := 20000000) (B := 2000000000) (by omega) (by omega)
  have m2 := mul_bd (a := LY) (b := Y) (A := 20000000) (B := 2000000000) (by omega) (by omega)
  have w1 := i64w (n := LX * X) (by omega)
  have w2 := i64w (n := LY * Y) (by omega)
  have t1 : (0 ≤ LX * X) = True := eq_true g1
  have t2 : (0 ≤ LY * Y) = True := eq_true g2
  have t3 : (absZ LX ≤ absZ MX) = True := eq_true g3
  have t4 : (absZ LY ≤ absZ MY) = True := eq_true g4
  have t5 : (LX * X ≥ 0) = True := eq_true g1
  have t6 : (LY * Y ≥ 0) = True := eq_true g2
  go_upto_region 12 with fail
  refine wp_region_held_drew (S := fun w' => w'.cell? ⟨ab + 1 + 1, 0, none⟩ = some (.int .i64 X) ∧ w'.cell? ⟨ab + 1 + 1, 1, none⟩ = some (.int .i64 Y) ∧ w'.cell? ⟨ab + 1 + 1, 2, none⟩ = some (.int .i64 D) ∧ w'.cell? ⟨lb, 0, none⟩ = some (.int .i64 LX) ∧ w'.cell? ⟨lb, 1, none⟩ = some (.int .i64 LY) ∧ w'.cell? ⟨mb, 0, none⟩ = some (.int .i64 MX) ∧ w'.cell? ⟨mb, 1, none⟩ = some (.int .i64 MY)) (by kernel_rfl) ?_ (fun hHeld => ?_)
  · (try dsimp only)
    (first | (go_simp; done) | (go_keep; done))
  (refine tk 0 ⟨_, _, _, _, _, _⟩ rfl (by kernel_rfl) (fun _ _ _ h => h) (by rfl) hHeld (by intro w s; (try dsimp only at s); go_simp; (try with_reducible rfl)) ?_; (try simp only [Act.put, List.setIfInBounds_toArray, List.set_cons_zero, List.set_cons_succ]))
  (refine tk 1 ⟨_, _, _, _, _, _⟩ rfl (by kernel_rfl) (fun _ _ _ h => h) (by rfl) hHeld (by intro w s; (try dsimp only at s); go_simp; (try with_reducible rfl)) ?_; (try simp only [Act.put, List.setIfInBounds_toArray, List.set_cons_zero, List.set_cons_succ]))
  (refine tk 2 ⟨_, _, _, _, _, _⟩ rfl (by kernel_rfl) (fun _ _ _ h => h) (by rfl) hHeld (by intro w s; (try dsimp only at s); go_simp; (try with_reducible rfl)) ?_; (try simp only [Act.put, List.setIfInBounds_toArray, List.set_cons_zero, List.set_cons_succ]))
  (refine tk 3 ⟨_, _, _, _, _, _⟩ rfl (by kernel_rfl) (fun _ _ _ h => h) (by rfl) hHeld (by intro w s; (try dsimp only at s); go_simp; (try with_reducible rfl)) ?_; (try simp only [Act.put, List.setIfInBounds_toArray, List.set_cons_zero, List.set_cons_succ]))
  (refine tk 4 ⟨_, _, _, _, _, _⟩ rfl (by kernel_rfl) (fun _ _ _ h => h) (by rfl) hHeld (by intro w s; (try dsimp only at s); go_simp; (try with_reducible rfl)) ?_; (try simp only [Act.put, List.setIfInBounds_toArray, List.set_cons_zero, List.set_cons_succ]))
  (refine tk 5 ⟨_, _, _, _, _, _⟩ rfl (by kernel_rfl) (fun _ _ _ h => h) (by rfl) hHeld (by intro w s; (try dsimp only at s); go_simp; (try with_reducible rfl)) ?_; (try simp only [Act.put, List.setIfInBounds_toArray, List.set_cons_zero, List.set_cons_succ]))
  (refine tk 6 ⟨_, _, _, _, _, _⟩ rfl (by kernel_rfl) (fun _ _ _ h => h) (by rfl) hHeld (by intro w s; (try dsimp only at s); go_simp; (try with_reducible rfl)) ?_; (try simp only [Act.put, List.setIfInBounds_toArray, List.set_cons_zero, List.set_cons_succ]))
  (refine tk 7 ⟨_, _, _, _, _, _⟩ rfl (by kernel_rfl) (fun _ _ _ h => h) (by rfl) hHeld (by intro w s; (try dsimp only at s); go_simp; (try with_reducible rfl)) ?_; (try simp only [Act.put, List.setIfInBounds_toArray, List.set_cons_zero, List.set_cons_succ]))
  (refine tk 8 ⟨_, _, _, _, _, _⟩ rfl (by kernel_rfl) (fun _ _ _ h => h) (by rfl) hHeld (by intro w s; (try dsimp only at s); go_simp; (try with_reducible rfl)) ?_; (try simp only [Act.put, List.setIfInBounds_toArray, List.set_cons_zero, List.set_cons_succ]))
  (refine tk 9 ⟨_, _, _, _, _, _⟩ rfl (by kernel_rfl) (fun _ _ _ h => h) (by rfl) hHeld (by intro w s; (try dsimp only at s); go_simp; (try with_reducible rfl)) ?_; (try simp only [Act.put, List.setIfInBounds_toArray, List.set_cons_zero, List.set_cons_succ]))
  (refine tk 10 ⟨_, _, _, _, _, _⟩ rfl (by kernel_rfl) (fun _ _ _ h => h) (by rfl) hHeld (by intro w s; (try dsimp only at s); go_simp; (try with_reducible rfl)) ?_; (try simp only [Act.put, List.setIfInBounds_toArray, List.set_cons_zero, List.set_cons_succ]))
  (refine tk 11 ⟨_, _, _, _, _, _⟩ rfl (by kernel_rfl) (fun _ _ _ h => h) (by rfl) hHeld (by intro w s; (try dsimp only at s); go_simp; (try with_reducible rfl)) ?_; (try simp only [Act.put, List.setIfInBounds_toArray, List.set_cons_zero, List.set_cons_succ]))
  (refine tk 12 ⟨_, _, _, _, _, _⟩ rfl (by kernel_rfl) (fun _ _ _ h => h) (by rfl) hHeld (by intro w s; (try dsimp only at s); go_simp; (try with_reducible rfl)) ?_; (try simp only [Act.put, List.setIfInBounds_toArray, List.set_cons_zero, List.set_cons_succ]))
  (refine tk 13 ⟨_, _, _, _, _, _⟩ rfl (by kernel_rfl) (fun _ _ _ h => h) (by rfl) hHeld (by intro w s; (try dsimp only at s); go_simp; (try with_reducible rfl)) ?_; (try simp only [Act.put, List.setIfInBounds_toArray, List.set_cons_zero, List.set_cons_succ]))
  (refine tk 14 ⟨_, _, _, _, _, _⟩ rfl (by kernel_rfl) (fun _ _ _ h => h) (by rfl) hHeld (by intro w s; (try dsimp only at s); go_simp; (try with_reducible rfl)) ?_; (try simp only [Act.put, List.setIfInBounds_toArray, List.set_cons_zero, List.set_cons_succ]))
  (refine tk 15 ⟨_, _, _, _, _, _⟩ rfl (by kernel_rfl) (fun _ _ _ h => h) (by rfl) hHeld (by intro w s; (try dsimp only at s); go_simp; (try with_reducible rfl)) ?_; (try simp only [Act.put, List.setIfInBounds_toArray, List.set_cons_zero, List.set_cons_succ]))
  (refine tk 16 ⟨_, _, _, _, _, _⟩ rfl (by kernel_rfl) (fun _ _ _ h => h) (by rfl) hHeld (by intro w s; (try dsimp only at s); go_simp; (try with_reducible rfl)) ?_; (try simp only [Act.put, List.setIfInBounds_toArray, List.set_cons_zero, List.set_cons_succ]))
  (refine tk 17 ⟨_, _, _, _, _, _⟩ rfl (by kernel_rfl) (fun _ _ _ h => h) (by rfl) hHeld (by intro w s; (try dsimp only at s); go_simp; (try with_reducible rfl)) ?_; (try simp only [Act.put, List.setIfInBounds_toArray, List.set_cons_zero, List.set_cons_succ]))
  (refine tk 18 ⟨_, _, _, _, _, _⟩ rfl (by kernel_rfl) (fun _ _ _ h => h) (by rfl) hHeld (by intro w s; (try dsimp only at s); go_simp; (try with_reducible rfl)) ?_; (try simp only [Act.put, List.setIfInBounds_toArray, List.set_cons_zero, List.set_cons_succ]))
  (refine tk 20 ⟨_, _, _, _, _, _⟩ rfl (by kernel_rfl) (fun _ _ _ h => h) (by rfl) hHeld (by intro w s; (try dsimp only at s); go_simp; (try with_reducible rfl)) ?_; (try simp only [Act.put, List.setIfInBounds_toArray, List.set_cons_zero, List.set_cons_succ]))
  (refine tk 21 ⟨_, _, _, _, _, _⟩ rfl (by kernel_rfl) (fun _ _ _ h => h) (by rfl) hHeld (by intro w s; (try dsimp only at s); go_simp; (try with_reducible rfl)) ?_; (try simp only [Act.put, List.setIfInBounds_toArray, List.set_cons_zero, List.set_cons_succ]))
  (refine wpAnyH_ready (rs := [19]) (by kernel_rfl) (by simp) ?_; refine AllReadyH.cons (o := ⟨_, _, _, _, _, _⟩) rfl (fun K hK => ?_) AllReadyH.nil; go_simp; (go_at_call 13; refine (pqAbs_any MX _ (by omega) (by omega)).mono ?_; rintro e w20 ⟨rfl, rfl⟩); (try go_wp2_with fail); refine hK.out _ _ ?_ (fun hHeld => ?_); (focus ((try dsimp only); (first | (go_simp; done) | (go_keep; done)))); clear hK K; (try simp only [Act.put, List.setIfInBounds_toArray, List.set_cons_zero, List.set_cons_succ]))
  (refine wpAnyH_ready (rs := [22]) (by kernel_rfl) (by simp) ?_; refine AllReadyH.cons (o := ⟨_, _, _, _, _, _⟩) rfl (fun K hK => ?_) AllReadyH.nil; go_simp; (go_at_call 13; refine (pqAbs_any LX _ (by omega) (by omega)).mono ?_; rintro e w21 ⟨rfl, rfl⟩); (try go_wp2_with fail); refine hK.out _ _ ?_ (fun hHeld => ?_); (focus ((try dsimp only); (first | (go_simp; done) | (go_keep; done)))); clear hK K; (try simp only [Act.put, List.setIfInBounds_toArray, List.set_cons_zero, List.set_cons_succ]))
  (refine tk 23 ⟨_, _, _, _, _, _⟩ rfl (by kernel_rfl) (fun _ _ _ h => h) (by rfl) hHeld (by intro w s; (try dsimp only at s); go_simp; (try with_reducible rfl)) ?_; (try simp only [Act.put, List.setIfInBounds_toArray, List.set_cons_zero, List.set_cons_succ]))
  (refine tk 24 ⟨_, _, _, _, _, _⟩ rfl (by kernel_rfl) (fun _ _ _ h => h) (by rfl) hHeld (by intro w s; (try dsimp only at s); go_simp; (try with_reducible rfl)) ?_; (try simp only [Act.put, List.setIfInBounds_toArray, List.set_cons_zero, List.set_cons_succ]))
  (refine tk 25 ⟨_, _, _, _, _, _⟩ rfl (by kernel_rfl) (fun _ _ _ h => h) (by rfl) hHeld (by intro w s; (try dsimp only at s); go_simp; (try with_reducible rfl)) ?_; (try simp only [Act.put, List.setIfInBounds_toArray, List.set_cons_zero, List.set_cons_succ]))
  (refine tk 26 ⟨_, _, _, _, _, _⟩ rfl (by kernel_rfl) (fun _ _ _ h => h) (by rfl) hHeld (by intro w s; (try dsimp only at s); go_simp; (try with_reducible rfl)) ?_; (try simp only [Act.put, List.setIfInBounds_toArray, List.set_cons_zero, List.set_cons_succ]))
  (refine tk 27 ⟨_, _, _, _, _, _⟩ rfl (by kernel_rfl) (fun _ _ _ h => h) (by rfl) hHeld (by intro w s; (try dsimp only at s); go_simp; (try with_reducible rfl)) ?_; (try simp only [Act.put, List.setIfInBounds_toArray, List.set_cons_zero, List.set_cons_succ]))
  (refine tk 29 ⟨_, _, _, _, _, _⟩ rfl (by kernel_rfl) (fun _ _ _ h => h) (by rfl) hHeld (by intro w s; (try dsimp only at s); go_simp; (try with_reducible rfl)) ?_; (try simp only [Act.put, List.setIfInBounds_toArray, List.set_cons_zero, List.set_cons_succ]))
  (refine tk 30 ⟨_, _, _, _, _, _⟩ rfl (by kernel_rfl) (fun _ _ _ h => h) (by rfl) hHeld (by intro w s; (try dsimp only at s); go_simp; (try with_reducible rfl)) ?_; (try simp only [Act.put, List.setIfInBounds_toArray, List.set_cons_zero, List.set_cons_succ]))
  (refine wpAnyH_ready (rs := [28]) (by kernel_rfl) (by simp) ?_; refine AllReadyH.cons (o := ⟨_, _, _, _, _, _⟩) rfl (fun K hK => ?_) AllReadyH.nil; go_simp; (go_at_call 13; refine (pqAbs_any MY _ (by omega) (by omega)).mono ?_; rintro e w22 ⟨rfl, rfl⟩); (try go_wp2_with fail); refine hK.out _ _ ?_ (fun hHeld => ?_); (focus ((try dsimp only); (first | (go_simp; done) | (go_keep; done)))); clear hK K; (try simp only [Act.put, List.setIfInBounds_toArray, List.set_cons_zero, List.set_cons_succ]))
  (refine wpAnyH_ready (rs := [31]) (by kernel_rfl) (by simp) ?_; refine AllReadyH.cons (o := ⟨_, _, _, _, _, _⟩) rfl (fun K hK => ?_) AllReadyH.nil; go_simp; (go_at_call 13; refine (pqAbs_any LY _ (by omega) (by omega)).mono ?_; rintro e w23 ⟨rfl, rfl⟩); (try go_wp2_with fail); refine hK.out _ _ ?_ (fun hHeld => ?_); (focus ((try dsimp only); (first | (go_simp; done) | (go_keep; done)))); clear hK K; (try simp only [Act.put, List.setIfInBounds_toArray, List.set_cons_zero, List.set_cons_succ]))
  (refine tk 32 ⟨_, _, _, _, _, _⟩ rfl (by kernel_rfl) (fun _ _ _ h => h) (by rfl) hHeld (by intro w s; (try dsimp only at s); go_simp; (try with_reducible rfl)) ?_; (try simp only [Act.put, List.setIfInBounds_toArray, List.set_cons_zero, List.set_cons_succ]))
  (refine tk 33 ⟨_, _, _, _, _, _⟩ rfl (by kernel_rfl) (fun _ _ _ h => h) (by rfl) hHeld (by intro w s; (try dsimp only at s); go_simp; (try with_reducible rfl)) ?_; (try simp only [Act.put, List.setIfInBounds_toArray, List.set_cons_zero, List.set_cons_succ]))
  (refine tk 34 ⟨_, _, _, _, _, _⟩ rfl (by kernel_rfl) (fun _ _ _ h => h) (by rfl) hHeld (by intro w s; (try dsimp only at s); go_simp; (try with_reducible rfl)) ?_; (try simp only [Act.put, List.setIfInBounds_toArray, List.set_cons_zero, List.set_cons_succ]))
  refine wpAnyH_done (by kernel_rfl) ?_ _
  go_wp2_with fail
  go_ret
  exact ⟨rfl, hA.bel.drew⟩
end Go.Proofs.Ytpgoicdblbpcaaa
namespace Go.Proofs.Ytpgoicdblbpcaaa
open Go.ChangeShapes Go.WideShapes Go.ChangeAt Go.RowKit Go.Joins
set_option linter.unusedVariables false
theorem fnPushOf_closed : joinedFacts Try.prog 4 Try.f4 Rows.fnPushOfSpec Rows.fnPushOfRow = true := by
  unfold joinedFacts
  rw [mayEnterT, liftsFinalT, makeT, laidOutT, mapsRowedT, stopsHeardT, plainKeysT]
  kernel_rfl

set_option maxRecDepth 100000 in
theorem fnPushOf_lifted (os : Os) (started : os.Started) (H : Type) (enc : TypeId × Value → H) :
    ReturnsInHanded {} Try.checked os 4 .any (Rows.fnPushOfSpec.pre6 enc Try.prog Try.f4 Rows.fnPushOfRow.domain false) (Rows.fnPushOfSpec.post enc Try.prog Try.f4 false true false false) := by
  refine returnsInHanded_of_change (C := Try.checked) ownT started (by kernel_rfl) Try.func4
    (ChangeSpec.witness6 (enc := enc) (C := Try.checked) false ⟨#[], #[.slice none 0 0], []⟩ 8 (by kernel_rfl) (by kernel_rfl) (by kernel_rfl) (by kernel_rfl)) ?_
  intro W base args ds gs before hval0 hW hcnd _
  have hval : ∀ (j : Nat) t v, Try.f4.params[j]? = some t → args[j]? = some v → Value.okWide Try.prog W .any base t v := hval0
  have hW' := hW
  obtain ⟨p, q, hA0, hV, rfl, hfz, hnd⟩ := hW
  have hA : DataW.TrodAll enc Try.prog W 0 (fun _ => true) true Try.f4.params.toList args.toList ds p := hA0
  rw [Try.params4] at hA hval
  obtain ⟨v0, vs0, d0, ds0, p0, q0, hargs, rfl, rfl, h0, r0⟩ := trodAll_cons hA
  obtain ⟨rfl, rfl, rfl⟩ := trodAll_nil r0
  obtain rfl : args = #[v0] := by cases args; simp_all
  obtain ⟨rfl, rfl⟩ := trodVars_none hV
  obtain ⟨a0, len0, cap0, rfl⟩ := okWide_slice Try.underlying22 (hval 0 22 v0 rfl rfl)
  have k0 := h0
  have lt0 : ∀ x ∈ p0, x.block < W.heap.size := by obtain ⟨m, hm⟩ := k0; exact DataW.trod_lt m _ _ _ hm
  have w0 : Bytes W a0 len0 cap0 := by
    obtain ⟨fuel, hf⟩ := h0
    rcases open_ints Try.underlying22 Try.underlying5 (by kernel_rfl) hf with ⟨hcs, _⟩ | ⟨x, l, c, zs, hcs, _, hl, hm, hz, _, hcell, hwz⟩
    · simp [Value.cells] at hcs
      obtain ⟨rfl, rfl, rfl⟩ := hcs
      exact Bytes.nil W
    · simp [Value.cells] at hcs
      obtain ⟨rfl, rfl, rfl⟩ := hcs
      exact Bytes.of hl (by simpa using hz) hcell hwz
  clear hA0 hval0
  refine (fnPushOf_walk _ _ _ W w0).mono fun e W' ⟨he, bel⟩ => ?_
  subst he
  exact ⟨_, rfl, _, _, _, [], _, [], hW', trodAll_mk1 (shut_bool Try.underlying4 _), (trodAll_cons_mk (Below.trod laidOutT (by kernel_rfl) (of_decide_eq_true (by kernel_rfl)) k0 bel lt0) trodAll_mk0), rfl, bel.frame _, fun h => by cases h⟩

theorem fnPushOf_over : Rows.fnPushOfRow.holds Try.pinned (OpenSpec.ofChange Rows.fnPushOfSpec) :=
  OpenClaim.holds_of_wide 4 Try.f4 rfl rfl rfl rfl rfl rfl rfl ⟨rfl, rfl, rfl, rfl, rfl⟩ rfl rfl rfl rfl rfl (by kernel_rfl) Try.func4 fnPushOf_closed
    (of_decide_eq_true (by kernel_rfl)) (by unfold Func.isWrapper; first | (rw [if_pos (by decide +kernel)]; kernel_rfl) | (rw [if_neg (by decide +kernel)]; exact ⟨rfl, rfl⟩))
    (fun os started H enc _ => fnPushOf_lifted os started H enc)

theorem fnPushOf_proved : Rows.FnPushOfSaid := fnPushOf_over
#print axioms fnPushOf_proved
end Go.Proofs.Ytpgoicdblbpcaaa
