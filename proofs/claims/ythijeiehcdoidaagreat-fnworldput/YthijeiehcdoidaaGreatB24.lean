/- Texts of a proof. -/
import Derived.Test.YthijeiehcdoidaaGreatB7
import Derived.Test.YthijeiehcdoidaaGreatB4
import Derived.Test.YthijeiehcdoidaaGreatSPdk
import Derived.Deep.RegionHeld3
import Derived.Deep.DeepCutAuto
import Derived.Test.YthijeiehcdoidaaGreatB19
set_option maxHeartbeats 16000000
set_option maxRecDepth 20000
namespace Go.Proofs.YthijeiehcdoidaaGreat
open Go.RowKit
set_option linter.unusedVariables false
set_option linter.unusedSimpArgs false
theorem td256q {x B : Int} (h : -(B * 256) ≤ x ∧ x ≤ B * 256) : -B ≤ x.tdiv 256 ∧ x.tdiv 256 ≤ B := by
 have e := Int.mul_tdiv_add_tmod x 256
 have a := Int.tmod_lt_of_pos x (show (0 : Int) < 256 by decide)
 have b : -256 < x.tmod 256 := Int.lt_tmod_of_pos x (by decide)
 omega
theorem td256p {x : Int} (h : 0 ≤ x) : 0 ≤ x.tdiv 256 := Int.tdiv_nonneg h (by decide)
theorem dot_bd {u v x y : Int} (hu : -40000000 ≤ u ∧ u ≤ 40000000) (hv : -40000000 ≤ v ∧ v ≤ 40000000) (bx : -256 ≤ x ∧ x ≤ 256) (bY : -256 ≤ y ∧ y ≤ 256) : -80000000 ≤ fc ((u * x + v * y).tdiv 256) ∧ fc ((u * x + v * y).tdiv 256) ≤ 80000000 := by
 have p := mul_bd (a := u) (b := x) (A := 40000000) (B := 256) hu bx
 have q := mul_bd (a := v) (b := y) (A := 40000000) (B := 256) hv bY
 have t := td256q (x := u * x + v * y) (B := 80000000) (by omega)
 rw [fc_id (by omega) (by omega)]; exact t
def mxB (V1 V2 : Nat → Int) : Int := if V1 9 < V2 9 then V2 9 else V1 9
def mnR (V1 V2 : Nat → Int) : Int := if V2 10 < V1 10 then V2 10 else V1 10
def pN (V1 V2 : Nat → Int) (x y : Int) (bo : Bool) : Int := bif bo then closeV V1 V2 x y + (closeV V1 V2 x y * mxB V1 V2).tdiv 256 else closeV V1 V2 x y
def pP (V1 V2 : Nat → Int) (x y : Int) (bo : Bool) : Int := togV V1 V2 (pN V1 V2 x y bo)
def pD (V1 V2 : Nat → Int) (x y : Int) : Int := fc (((spX V1 - spX V2) * (-y) + (spY V1 - spY V2) * x).tdiv 256)
def pM (V1 V2 : Nat → Int) (x y : Int) (bo : Bool) : Int := (pP V1 V2 x y bo * mnR V1 V2).tdiv 256
def pA (V1 V2 : Nat → Int) (x y : Int) (bo : Bool) : Int := clampZ (pM V1 V2 x y bo) (togV V1 V2 (pD V1 V2 x y))
def puX (V1 V2 : Nat → Int) (x y : Int) (bo : Bool) : Int := if closeV V1 V2 x y ≤ 0 then 0 else clampZ 20000000 ((pP V1 V2 x y bo * x + pA V1 V2 x y bo * (-y)).tdiv 256)
def puY (V1 V2 : Nat → Int) (x y : Int) (bo : Bool) : Int := if closeV V1 V2 x y ≤ 0 then 0 else clampZ 20000000 ((pP V1 V2 x y bo * y + pA V1 V2 x y bo * x).tdiv 256)
theorem togV_nn (V1 V2 : Nat → Int) (n : Int) (a0 : 0 ≤ V1 8) (a1 : 0 ≤ V2 8) (h : 0 ≤ n) : 0 ≤ togV V1 V2 n := by
 unfold togV; split
 · exact Int.mul_nonneg h (by omega)
 · exact Int.tdiv_nonneg (Int.mul_nonneg (Int.mul_nonneg h a0) a1) (by omega)
theorem close_fixed (V1 V2 : Nat → Int) (x y : Int) (h1 : V1 8 = 0) (h2 : V2 8 = 0) : closeV V1 V2 x y = 0 := by
 unfold closeV spX spY; rw [if_pos h1, if_pos h1, if_pos h2, if_pos h2]; simp [fc, clampZ]
theorem push_bd (V1 V2 : Nat → Int) (x y : Int) (bo : Bool) (a0 : 0 ≤ V1 8 ∧ V1 8 ≤ 1000) (a1 : 0 ≤ V2 8 ∧ V2 8 ≤ 1000) (b6 : -20000000 ≤ V1 6 ∧ V1 6 ≤ 20000000) (b7 : -20000000 ≤ V1 7 ∧ V1 7 ≤ 20000000) (d6 : -20000000 ≤ V2 6 ∧ V2 6 ≤ 20000000) (d7 : -20000000 ≤ V2 7 ∧ V2 7 ≤ 20000000) (bx : -256 ≤ x ∧ x ≤ 256) (bY : -256 ≤ y ∧ y ≤ 256)
 (e9 : 0 ≤ V1 9 ∧ V1 9 ≤ 256) (f9 : 0 ≤ V2 9 ∧ V2 9 ≤ 256) (e10 : 0 ≤ V1 10 ∧ V1 10 ≤ 256) (f10 : 0 ≤ V2 10 ∧ V2 10 ≤ 256) (hc : 0 < closeV V1 V2 x y) :
 closeV V1 V2 x y ≤ 100000000 ∧ (0 ≤ mxB V1 V2 ∧ mxB V1 V2 ≤ 256) ∧ (0 ≤ mnR V1 V2 ∧ mnR V1 V2 ≤ 256) ∧ (0 < pN V1 V2 x y bo ∧ pN V1 V2 x y bo ≤ 200000000) ∧ (0 ≤ pP V1 V2 x y bo ∧ pP V1 V2 x y bo ≤ 200000000000000) ∧ (-100000000 ≤ pD V1 V2 x y ∧ pD V1 V2 x y ≤ 100000000) ∧ (-100000000000000 ≤ togV V1 V2 (pD V1 V2 x y) ∧ togV V1 V2 (pD V1 V2 x y) ≤ 100000000000000) ∧ (0 ≤ pM V1 V2 x y bo ∧ pM V1 V2 x y bo ≤ 200000000000000) ∧ (-200000000000000 ≤ pA V1 V2 x y bo ∧ pA V1 V2 x y bo ≤ 200000000000000) := by
 have sx1 := spX_bd V1 b6
 have sy1 := spY_bd V1 b7
 have sx2 := spX_bd V2 d6
 have sy2 := spY_bd V2 d7
 have hcb : -80000000 ≤ closeV V1 V2 x y ∧ closeV V1 V2 x y ≤ 80000000 := dot_bd (by omega) (by omega) bx bY
 have hD : -80000000 ≤ pD V1 V2 x y ∧ pD V1 V2 x y ≤ 80000000 := dot_bd (by omega) (by omega) (by omega) bx
 have hB : 0 ≤ mxB V1 V2 ∧ mxB V1 V2 ≤ 256 := by unfold mxB; split <;> omega
 have hR : 0 ≤ mnR V1 V2 ∧ mnR V1 V2 ≤ 256 := by unfold mnR; split <;> omega
 have hN : 0 < pN V1 V2 x y bo ∧ pN V1 V2 x y bo ≤ 160000000 := by
  have q := mul_bd (a := closeV V1 V2 x y) (b := mxB V1 V2) (A := 80000000) (B := 256) (by omega) (by omega)
  have q1 := td256q (x := closeV V1 V2 x y * mxB V1 V2) (B := 80000000) (by omega)
  have q2 := td256p (x := closeV V1 V2 x y * mxB V1 V2) (Int.mul_nonneg (by omega) hB.1)
  unfold pN; cases bo
  · simp only [cond_false]; omega
  · simp only [cond_true]; omega
 have hP : 0 ≤ pP V1 V2 x y bo ∧ pP V1 V2 x y bo ≤ 160000000000000 := by
  have q := togV_bd V1 V2 (pN V1 V2 x y bo) 160000000 a0 a1 (by omega) (by omega)
  have q2 := togV_nn V1 V2 (pN V1 V2 x y bo) a0.1 a1.1 (by omega)
  unfold pP; omega
 have hT := togV_bd V1 V2 (pD V1 V2 x y) 80000000 a0 a1 hD (by omega)
 have hM : 0 ≤ pM V1 V2 x y bo ∧ pM V1 V2 x y bo ≤ 160000000000000 := by
  have q := mul_bd (a := pP V1 V2 x y bo) (b := mnR V1 V2) (A := 160000000000000) (B := 256) (by omega) (by omega)
  have q1 := td256q (x := pP V1 V2 x y bo * mnR V1 V2) (B := 160000000000000) (by omega)
  have q2 := td256p (x := pP V1 V2 x y bo * mnR V1 V2) (Int.mul_nonneg hP.1 hR.1)
  unfold pM; omega
 have hA := clampZ_bd (l := pM V1 V2 x y bo) (togV V1 V2 (pD V1 V2 x y)) hM.1
 have hA' : -200000000000000 ≤ pA V1 V2 x y bo ∧ pA V1 V2 x y bo ≤ 200000000000000 := by unfold pA; omega
 exact ⟨by omega, hB, hR, by omega, by omega, by omega, by omega, by omega, hA'⟩
theorem l8Push_z (V1 V2 : Nat → Int) (x y k c : Int) (bo : Bool) (w : World) (b6 : -20000000 ≤ V1 6 ∧ V1 6 ≤ 20000000) (b7 : -20000000 ≤ V1 7 ∧ V1 7 ≤ 20000000) (d6 : -20000000 ≤ V2 6 ∧ V2 6 ≤ 20000000) (d7 : -20000000 ≤ V2 7 ∧ V2 7 ≤ 20000000) (bx : -256 ≤ x ∧ x ≤ 256) (bY : -256 ≤ y ∧ y ≤ 256) (ec : closeV V1 V2 x y = c) (hc : c ≤ 0) :
 Calls Tryz.prog 171 #[bodyW V1, bodyW V2, s3 x y k, .bool bo] w fun e w' => e = .returned (vv 0 0) ∧ Below w.heap.size w w' := by
 have hset := cset_map
 go_enter Tryz.func171, Tryz.ntmps171
 go_wp2_with (go_at_call 180; refine (l8Closing_q V1 V2 x y k _ _ (by omega) (by omega) (by omega) (by omega) (by omega) (by omega) (by with_reducible assumption)).mono ?_; rintro e w1 ⟨rfl, hb1⟩; have hz1 := hb1.size; (try simp only [zz] at hz1); have := kf4 hb1 w.heap.size)
 exact bodyPost_ret (v := vv 0 0) (by simp [results, Tryz.results171, go_sem, *]) rfl ⟨rfl, bel_a⟩
theorem l8Push_any (V1 V2 : Nat → Int) (x y k : Int) (bo : Bool) (w : World) (a0 : 0 ≤ V1 8 ∧ V1 8 ≤ 1000) (a1 : 0 ≤ V2 8 ∧ V2 8 ≤ 1000) (b6 : -20000000 ≤ V1 6 ∧ V1 6 ≤ 20000000) (b7 : -20000000 ≤ V1 7 ∧ V1 7 ≤ 20000000) (d6 : -20000000 ≤ V2 6 ∧ V2 6 ≤ 20000000) (d7 : -20000000 ≤ V2 7 ∧ V2 7 ≤ 20000000) (bx : -256 ≤ x ∧ x ≤ 256) (bY : -256 ≤ y ∧ y ≤ 256) (e9 : 0 ≤ V1 9 ∧ V1 9 ≤ 256) (f9 : 0 ≤ V2 9 ∧ V2 9 ≤ 256) (e10 : 0 ≤ V1 10 ∧ V1 10 ≤ 256) (f10 : 0 ≤ V2 10 ∧ V2 10 ≤ 256) :
 Calls Tryz.prog 171 #[bodyW V1, bodyW V2, s3 x y k, .bool bo] w fun e w' => e = .returned (vv (puX V1 V2 x y bo) (puY V1 V2 x y bo)) ∧ Below w.heap.size w w' := by
 by_cases hc : closeV V1 V2 x y ≤ 0
 · unfold puX puY; rw [if_pos hc, if_pos hc]
   exact l8Push_z V1 V2 x y k _ bo w b6 b7 d6 d7 bx bY rfl hc
 · unfold puX puY; rw [if_neg hc, if_neg hc]
   have hz : (V1 8 = 0 ∧ V2 8 = 0) = False := eq_false (fun ⟨u, v⟩ => hc (by rw [close_fixed V1 V2 x y u v]; omega))
   obtain ⟨q1, q2, q3, q4, q5, q6, q7, q8, q9⟩ := push_bd V1 V2 x y bo a0 a1 b6 b7 d6 d7 bx bY e9 f9 e10 f10 (by omega)
   cases bo
   · exact l8Push_f V1 V2 x y k (mxB V1 V2) (mnR V1 V2) (closeV V1 V2 x y) (pN V1 V2 x y false) (pP V1 V2 x y false) (pD V1 V2 x y) (togV V1 V2 (pD V1 V2 x y)) (pM V1 V2 x y false) (pA V1 V2 x y false) w a0 a1 b6 b7 d6 d7 bx bY rfl rfl rfl rfl rfl rfl rfl rfl rfl ⟨by omega, q1⟩ q2 q3 q4 q5 q6 q7 q8 q9 hz
   · exact l8Push_t V1 V2 x y k (mxB V1 V2) (mnR V1 V2) (closeV V1 V2 x y) (pN V1 V2 x y true) (pP V1 V2 x y true) (pD V1 V2 x y) (togV V1 V2 (pD V1 V2 x y)) (pM V1 V2 x y true) (pA V1 V2 x y true) w a0 a1 b6 b7 d6 d7 bx bY rfl rfl rfl rfl rfl rfl rfl rfl rfl ⟨by omega, q1⟩ q2 q3 q4 q5 q6 q7 q8 q9 hz
def poX (V1 V2 : Nat → Int) (x y k : Int) (bo : Bool) : Int := if (bodyB V1 && (bodyB V2 && hitB x y k)) = true then puX V1 V2 x y bo else 0
def poY (V1 V2 : Nat → Int) (x y k : Int) (bo : Bool) : Int := if (bodyB V1 && (bodyB V2 && hitB x y k)) = true then puY V1 V2 x y bo else 0
def fitsB (V W : Nat → Int) (p q : Int) : Bool := (decide (V 8 = 0) || inB 20000000 (V 6 - p) (V 7 - q)) && (decide (W 8 = 0) || inB 20000000 (W 6 + p) (W 7 + q))
theorem l8Fits_q (V W : Nat → Int) (p q : Int) (b : Bool) (w : World) (b6 : -20000000 ≤ V 6 ∧ V 6 ≤ 20000000) (b7 : -20000000 ≤ V 7 ∧ V 7 ≤ 20000000) (d6 : -20000000 ≤ W 6 ∧ W 6 ≤ 20000000) (d7 : -20000000 ≤ W 7 ∧ W 7 ≤ 20000000) (bp : -20000000 ≤ p ∧ p ≤ 20000000) (bq : -20000000 ≤ q ∧ q ≤ 20000000) (e : fitsB V W p q = b) :
 Calls Tryz.prog 172 #[bodyW V, bodyW W, vv p q] w fun e w' => e = .returned (.bool b) ∧ Below w.heap.size w w' := by
 have hset := cset_map
 have w1 : IntKind.i64.wrap (V 6 - p) = V 6 - p := i64w (by omega)
 have w2 : IntKind.i64.wrap (V 7 - q) = V 7 - q := i64w (by omega)
 have w3 : IntKind.i64.wrap (W 6 + p) = W 6 + p := i64w (by omega)
 have w4 : IntKind.i64.wrap (W 7 + q) = W 7 + q := i64w (by omega)
 clear b6 b7 d6 d7 bp bq
 obtain ⟨D1, hD1⟩ : ∃ b, inB 20000000 (V 6 - p) (V 7 - q) = b := ⟨_, rfl⟩
 obtain ⟨D2, hD2⟩ : ∃ b, inB 20000000 (W 6 + p) (W 7 + q) = b := ⟨_, rfl⟩
 unfold fitsB at e
 rw [hD1, hD2] at e
 by_cases m0 : V 8 = 0
 · have e1 : (V 8 == 0) = true := by simp [m0]
   by_cases m1 : W 8 = 0
   · have e2 : (W 8 == 0) = true := by simp [m1]
     have hb : b = true := by rw [← e]; rw [decide_eq_true m0, decide_eq_true m1]; rfl
     subst hb
     clear e
     have M0 : Shut (V 8 = 0) := m0
     clear m0
     have M1 : Shut (W 8 = 0) := m1
     clear m1
     go_enter Tryz.func172, Tryz.ntmps172
     go_wp2_with fail
     go_ret
     exact ⟨rfl, bel_a⟩
   · have e2 : (W 8 == 0) = false := by simp [m1]
     have hb : b = D2 := by rw [← e]; rw [decide_eq_true m0, decide_eq_false m1]; rfl
     rw [hb]
     clear e hb
     have M0 : Shut (V 8 = 0) := m0
     clear m0
     go_enter Tryz.func172, Tryz.ntmps172
     go_wp2_with (go_at_call 71; refine (l6Drive_q (W 6 + p) (W 7 + q) D2 _ hD2).mono ?_; rintro e w6 ⟨rfl, hb6⟩; have hz6 := hb6.size; (try simp only [zz] at hz6); have := kf5 hb6 w.heap.size)
     go_ret
     exact ⟨by first | rfl | simp, bel_a⟩
 · have e1 : (V 8 == 0) = false := by simp [m0]
   cases D1 with
   | false =>
    have hb : b = false := by rw [← e]; rw [decide_eq_false m0]; rfl
    subst hb
    clear e
    go_enter Tryz.func172, Tryz.ntmps172
    go_wp2_with (go_at_call 71; refine (l6Drive_q (V 6 - p) (V 7 - q) false _ hD1).mono ?_; rintro e w5 ⟨rfl, hb5⟩; have hz5 := hb5.size; (try simp only [zz] at hz5); have := kf5 hb5 w.heap.size)
    go_ret
    exact ⟨rfl, bel_a⟩
   | true =>
    by_cases m1 : W 8 = 0
    · have e2 : (W 8 == 0) = true := by simp [m1]
      have hb : b = true := by rw [← e]; rw [decide_eq_false m0, decide_eq_true m1]; rfl
      subst hb
      clear e
      have M1 : Shut (W 8 = 0) := m1
      clear m1
      go_enter Tryz.func172, Tryz.ntmps172
      go_wp2_with (go_at_call 71; refine (l6Drive_q (V 6 - p) (V 7 - q) true _ hD1).mono ?_; rintro e w5 ⟨rfl, hb5⟩; have hz5 := hb5.size; (try simp only [zz] at hz5); have := kf5 hb5 w.heap.size)
      go_ret
      exact ⟨rfl, bel_a⟩
    · have e2 : (W 8 == 0) = false := by simp [m1]
      have hb : b = D2 := by rw [← e]; rw [decide_eq_false m0, decide_eq_false m1]; rfl
      rw [hb]
      clear e hb
      go_enter Tryz.func172, Tryz.ntmps172
      go_wp2_with (first
       | (have _ := hb5; go_at_call 71; refine (l6Drive_q (W 6 + p) (W 7 + q) D2 _ hD2).mono ?_; rintro e w6 ⟨rfl, hb6⟩; have hz6 := hb6.size; (try simp only [zz] at hz6); have := kf5 hb6 w.heap.size)
       | (go_at_call 71; refine (l6Drive_q (V 6 - p) (V 7 - q) true _ hD1).mono ?_; rintro e w5 ⟨rfl, hb5⟩; have hz5 := hb5.size; (try simp only [zz] at hz5); have := kf5 hb5 w.heap.size))
      go_ret
      exact ⟨by first | rfl | simp, bel_a⟩
def oneU (U : Nat → Int) (A B : Nat) (X Y : Int) (bo : Bool) : Nat → Int :=
 bif (puX (fun j => U (A * 12 + j)) (fun j => U (B * 12 + j)) X Y bo == 0 && puY (fun j => U (A * 12 + j)) (fun j => U (B * 12 + j)) X Y bo == 0) || !fitsB (fun j => U (A * 12 + j)) (fun j => U (B * 12 + j)) (puX (fun j => U (A * 12 + j)) (fun j => U (B * 12 + j)) X Y bo) (puY (fun j => U (A * 12 + j)) (fun j => U (B * 12 + j)) X Y bo) then U
 else putRow (putRow U A (pushV (fun j => U (A * 12 + j)) (-puX (fun j => U (A * 12 + j)) (fun j => U (B * 12 + j)) X Y bo) (-puY (fun j => U (A * 12 + j)) (fun j => U (B * 12 + j)) X Y bo))) B (pushV (fun j => U (B * 12 + j)) (puX (fun j => U (A * 12 + j)) (fun j => U (B * 12 + j)) X Y bo) (puY (fun j => U (A * 12 + j)) (fun j => U (B * 12 + j)) X Y bo))
theorem puX_bd (V1 V2 : Nat → Int) (x y : Int) (bo : Bool) : -20000000 ≤ puX V1 V2 x y bo ∧ puX V1 V2 x y bo ≤ 20000000 := by
 unfold puX
 split
 · omega
 · exact clampZ_bd _ (by omega)
theorem puY_bd (V1 V2 : Nat → Int) (x y : Int) (bo : Bool) : -20000000 ≤ puY V1 V2 x y bo ∧ puY V1 V2 x y bo ≤ 20000000 := by
 unfold puY
 split
 · omega
 · exact clampZ_bd _ (by omega)
structure O8 (w wc : World) (base g n c A B : Nat) (X Y D : Int) (U : Nat → Int) : Prop where
 hC : Nb wc w.heap.size 5 (fun j => [(A : Int), (B : Int), X, Y, D].getD j 0)
 own : OwnL wc base 41 12 (.slice (some ⟨g, 0, none⟩) n c) n U
 fr : Fr (fun b => b = g) w wc
theorem O8.on {w wc w' : World} {base g n c A B : Nat} {X Y D : Int} {U : Nat → Int} (h : O8 w wc base g n c A B X Y D U) (hb : Below wc.heap.size wc w') : O8 w w' base g n c A B X Y D U :=
 ⟨h.hC.on hb, h.own.below hb, h.fr.trans (Fr.of_below hb)⟩
theorem O8.set {w wc w' : World} {base g n c A B pb : Nat} {X Y D : Int} {U : Nat → Int} (h : O8 w wc base g n c A B X Y D U) (hs : Fr (fun b => b = pb) wc w') (h1 : w.heap.size < pb) (h2 : g < pb) : O8 w w' base g n c A B X Y D U :=
 ⟨h.hC.fr hs (by omega), h.own.frame hs (fun b e x => by simp [Value.ownBlock] at e; omega), h.fr.trans' hs (fun i hi e => by omega)⟩
theorem O8.put {w wc w' : World} {base g n c A B : Nat} {X Y D : Int} {U U' : Nat → Int} (h : O8 w wc base g n c A B X Y D U) (hs : Fr (fun b => b = g) wc w') (h1 : g < w.heap.size) (hq : OwnL w' base 41 12 (.slice (some ⟨g, 0, none⟩) n c) n U') : O8 w w' base g n c A B X Y D U' :=
 ⟨h.hC.fr hs (by omega), hq, h.fr.trans hs⟩
theorem O8.ks {w wc : World} {base g n c A B : Nat} {X Y D : Int} {U : Nat → Int} (h : O8 w wc base g n c A B X Y D U) :
 wc.cell? ⟨w.heap.size, 0, none⟩ = some (.int .i64 (A : Int)) ∧ wc.cell? ⟨w.heap.size, 1, none⟩ = some (.int .i64 (B : Int)) ∧ wc.cell? ⟨w.heap.size, 2, none⟩ = some (.int .i64 X) ∧ wc.cell? ⟨w.heap.size, 3, none⟩ = some (.int .i64 Y) ∧ wc.cell? ⟨w.heap.size, 4, none⟩ = some (.int .i64 D) :=
 ⟨h.hC.c 0 (by decide), h.hC.c 1 (by decide), h.hC.c 2 (by decide), h.hC.c 3 (by decide), h.hC.c 4 (by decide)⟩
theorem own12 {w : World} {base g n c A : Nat} {U V : Nat → Int} (h : OwnL w base 41 12 (.slice (some ⟨g, 0, none⟩) n c) n U) (i : ∀ j, j < 12 → A * 12 + j < n * 12) (hV : ∀ j, j < 12 → U (A * 12 + j) = V j) :
 w.cell? ⟨g, A * 12, none⟩ = some (.int .i64 (V 0)) ∧ w.cell? ⟨g, A * 12 + 1, none⟩ = some (.int .i64 (V 1)) ∧ w.cell? ⟨g, A * 12 + 2, none⟩ = some (.int .i64 (V 2)) ∧ w.cell? ⟨g, A * 12 + 3, none⟩ = some (.int .i64 (V 3)) ∧ w.cell? ⟨g, A * 12 + 4, none⟩ = some (.int .i64 (V 4)) ∧ w.cell? ⟨g, A * 12 + 5, none⟩ = some (.int .i64 (V 5)) ∧ w.cell? ⟨g, A * 12 + 6, none⟩ = some (.int .i64 (V 6)) ∧ w.cell? ⟨g, A * 12 + 7, none⟩ = some (.int .i64 (V 7)) ∧ w.cell? ⟨g, A * 12 + 8, none⟩ = some (.int .i64 (V 8)) ∧ w.cell? ⟨g, A * 12 + 9, none⟩ = some (.int .i64 (V 9)) ∧ w.cell? ⟨g, A * 12 + 10, none⟩ = some (.int .i64 (V 10)) ∧ w.cell? ⟨g, A * 12 + 11, none⟩ = some (.int .i64 (V 11)) :=
 have q : ∀ j, j < 12 → w.cell? ⟨g, A * 12 + j, none⟩ = some (.int .i64 (V j)) := fun j hj => (h.cellq (q := A * 12 + j) (i j hj)).trans (congrArg (fun z => some (Value.int .i64 z)) (hV j hj))
 ⟨q 0 (by decide), q 1 (by decide), q 2 (by decide), q 3 (by decide), q 4 (by decide), q 5 (by decide), q 6 (by decide), q 7 (by decide), q 8 (by decide), q 9 (by decide), q 10 (by decide), q 11 (by decide)⟩
theorem l8One_any (base g n c : Nat) (U : Nat → Int) (A B : Nat) (X Y D : Int) (bo : Bool) (w : World) (ho0 : OwnL w base 41 12 (.slice (some ⟨g, 0, none⟩) n c) n U) (hn : n ≤ 1048576) (hA : A < n) (hB : B < n) (hAB : A ≠ B) (hbb : Bods n U) (hX : -256 ≤ X ∧ X ≤ 256) (hY : -256 ≤ Y ∧ Y ≤ 256) :
 Calls Tryz.prog 161 #[.slice (some ⟨g, 0, none⟩) n c, .agg #[.int .i64 (A : Int), .int .i64 (B : Int), .int .i64 X, .int .i64 Y, .int .i64 D], .bool bo] w fun e w' => e = .returned (.tuple #[]) ∧ OwnL w' base 41 12 (.slice (some ⟨g, 0, none⟩) n c) n (oneU U A B X Y bo) ∧ Fr (fun b => b = g) w w' := by
 have hset := cset_map
 have hgl : g < w.heap.size := (ho0.lt g rfl).2
 have hAi : (A : Int) < (n : Int) := by omega
 have hBi : (B : Int) < (n : Int) := by omega
 have iA : ∀ j, j < 12 → A * 12 + j < n * 12 := fun j hj => by omega
 have iB : ∀ j, j < 12 → B * 12 + j < n * 12 := fun j hj => by omega
 obtain ⟨mA, _, _, _, b6A, b7A, b9A, b10A, _⟩ := bodyB_bd (hbb.ok A hA)
 have mA : 0 ≤ (fun j => U (A * 12 + j)) 8 ∧ (fun j => U (A * 12 + j)) 8 ≤ 1000 := mA
 have b6A : -20000000 ≤ (fun j => U (A * 12 + j)) 6 ∧ (fun j => U (A * 12 + j)) 6 ≤ 20000000 := b6A
 have b7A : -20000000 ≤ (fun j => U (A * 12 + j)) 7 ∧ (fun j => U (A * 12 + j)) 7 ≤ 20000000 := b7A
 have b9A : 0 ≤ (fun j => U (A * 12 + j)) 9 ∧ (fun j => U (A * 12 + j)) 9 ≤ 256 := b9A
 have b10A : 0 ≤ (fun j => U (A * 12 + j)) 10 ∧ (fun j => U (A * 12 + j)) 10 ≤ 256 := b10A
 have hVA : ∀ j, U (A * 12 + j) = (fun j => U (A * 12 + j)) j := fun j => rfl
 obtain ⟨mB, _, _, _, b6B, b7B, b9B, b10B, _⟩ := bodyB_bd (hbb.ok B hB)
 have mB : 0 ≤ (fun j => U (B * 12 + j)) 8 ∧ (fun j => U (B * 12 + j)) 8 ≤ 1000 := mB
 have b6B : -20000000 ≤ (fun j => U (B * 12 + j)) 6 ∧ (fun j => U (B * 12 + j)) 6 ≤ 20000000 := b6B
 have b7B : -20000000 ≤ (fun j => U (B * 12 + j)) 7 ∧ (fun j => U (B * 12 + j)) 7 ≤ 20000000 := b7B
 have b9B : 0 ≤ (fun j => U (B * 12 + j)) 9 ∧ (fun j => U (B * 12 + j)) 9 ≤ 256 := b9B
 have b10B : 0 ≤ (fun j => U (B * 12 + j)) 10 ∧ (fun j => U (B * 12 + j)) 10 ≤ 256 := b10B
 have hVB : ∀ j, U (B * 12 + j) = (fun j => U (B * 12 + j)) j := fun j => rfl
 have hE : Below w.heap.size w (w.alloc (Obj.cells #[.int .i64 (A : Int), .int .i64 (B : Int), .int .i64 X, .int .i64 Y, .int .i64 D] 195)) := (Below.refl _ _).alloc (Nat.le_refl _) _
 obtain ⟨R, hR⟩ : ∃ R, oneU U A B X Y bo = R := ⟨_, rfl⟩
 rw [hR]
 unfold oneU at hR
 have bp := puX_bd (fun j => U (A * 12 + j)) (fun j => U (B * 12 + j)) X Y bo
 have bq := puY_bd (fun j => U (A * 12 + j)) (fun j => U (B * 12 + j)) X Y bo
 obtain ⟨p, hp⟩ : ∃ p, puX (fun j => U (A * 12 + j)) (fun j => U (B * 12 + j)) X Y bo = p := ⟨_, rfl⟩
 obtain ⟨q, hq⟩ : ∃ q, puY (fun j => U (A * 12 + j)) (fun j => U (B * 12 + j)) X Y bo = q := ⟨_, rfl⟩
 rw [hp] at bp hR
 rw [hq] at bq hR
 generalize (fun j => U (A * 12 + j)) = VA at hR hVA mA b6A b7A b9A b10A hp hq
 generalize (fun j => U (B * 12 + j)) = VB at hR hVB mB b6B b7B b9B b10B hp hq
 have hbpn : -20000000 ≤ -p ∧ -p ≤ 20000000 := by omega
 have hbqn : -20000000 ≤ -q ∧ -q ≤ 20000000 := by omega
 have wp1 : IntKind.i64.wrap (-p) = -p := i64w (by omega)
 have wq1 : IntKind.i64.wrap (-q) = -q := i64w (by omega)
 obtain ⟨EZ, hEZ⟩ : ∃ b, (p == 0 && q == 0) = b := ⟨_, rfl⟩
 rw [hEZ] at hR
 go_enter Tryz.func161, Tryz.ntmps161
 go_upto_region 1 with fail
 have hO : O8 w (w.alloc (Obj.cells #[.int .i64 (A : Int), .int .i64 (B : Int), .int .i64 X, .int .i64 Y, .int .i64 D] 195)) base g n c A B X Y D U := ⟨⟨fun j hj => by rcases (show j = 0 ∨ j = 1 ∨ j = 2 ∨ j = 3 ∨ j = 4 by omega) with rfl | rfl | rfl | rfl | rfl <;> go_simp, fun o => by go_simp, by simp⟩, ho0.below hE, Fr.of_below hE⟩
 generalize (w.alloc (Obj.cells #[.int .i64 (A : Int), .int .i64 (B : Int), .int .i64 X, .int .i64 Y, .int .i64 D] 195)) = w0 at hO ⊢
 clear hE
 obtain ⟨k0, k1, k2, k3, k4⟩ := hO.ks
 obtain ⟨a0, a1, a2, a3, a4, a5, a6, a7, a8, a9, a10, a11⟩ := own12 hO.own iA (fun j _ => hVA j)
 obtain ⟨b0, b1, b2, b3, b4, b5, b6, b7, b8, b9, b10, b11⟩ := own12 hO.own iB (fun j _ => hVB j)
 go_cut [6] (fun s6 wc => ∃ pb, s6 = .pointer (some ⟨pb, 0, none⟩) ∧ O8 w wc base g n c A B X Y D U ∧ Nb wc pb 2 (fun j => [p, q].getD j 0) ∧ w.heap.size < pb ∧ g < pb)
 case first =>
  refine wp_region_held_drew (S := fun w' => w'.cell? ⟨w.heap.size, 0, none⟩ = some (.int .i64 (A : Int)) ∧ w'.cell? ⟨w.heap.size, 1, none⟩ = some (.int .i64 (B : Int)) ∧ w'.cell? ⟨w.heap.size, 2, none⟩ = some (.int .i64 X) ∧ w'.cell? ⟨w.heap.size, 3, none⟩ = some (.int .i64 Y) ∧ w'.cell? ⟨w.heap.size, 4, none⟩ = some (.int .i64 D) ∧ w'.cell? ⟨g, A * 12, none⟩ = some (.int .i64 (VA 0)) ∧ w'.cell? ⟨g, A * 12 + 1, none⟩ = some (.int .i64 (VA 1)) ∧ w'.cell? ⟨g, A * 12 + 2, none⟩ = some (.int .i64 (VA 2)) ∧ w'.cell? ⟨g, A * 12 + 3, none⟩ = some (.int .i64 (VA 3)) ∧ w'.cell? ⟨g, A * 12 + 4, none⟩ = some (.int .i64 (VA 4)) ∧ w'.cell? ⟨g, A * 12 + 5, none⟩ = some (.int .i64 (VA 5)) ∧ w'.cell? ⟨g, A * 12 + 6, none⟩ = some (.int .i64 (VA 6)) ∧ w'.cell? ⟨g, A * 12 + 7, none⟩ = some (.int .i64 (VA 7)) ∧ w'.cell? ⟨g, A * 12 + 8, none⟩ = some (.int .i64 (VA 8)) ∧ w'.cell? ⟨g, A * 12 + 9, none⟩ = some (.int .i64 (VA 9)) ∧ w'.cell? ⟨g, A * 12 + 10, none⟩ = some (.int .i64 (VA 10)) ∧ w'.cell? ⟨g, A * 12 + 11, none⟩ = some (.int .i64 (VA 11)) ∧ w'.cell? ⟨g, B * 12, none⟩ = some (.int .i64 (VB 0)) ∧ w'.cell? ⟨g, B * 12 + 1, none⟩ = some (.int .i64 (VB 1)) ∧ w'.cell? ⟨g, B * 12 + 2, none⟩ = some (.int .i64 (VB 2)) ∧ w'.cell? ⟨g, B * 12 + 3, none⟩ = some (.int .i64 (VB 3)) ∧ w'.cell? ⟨g, B * 12 + 4, none⟩ = some (.int .i64 (VB 4)) ∧ w'.cell? ⟨g, B * 12 + 5, none⟩ = some (.int .i64 (VB 5)) ∧ w'.cell? ⟨g, B * 12 + 6, none⟩ = some (.int .i64 (VB 6)) ∧ w'.cell? ⟨g, B * 12 + 7, none⟩ = some (.int .i64 (VB 7)) ∧ w'.cell? ⟨g, B * 12 + 8, none⟩ = some (.int .i64 (VB 8)) ∧ w'.cell? ⟨g, B * 12 + 9, none⟩ = some (.int .i64 (VB 9)) ∧ w'.cell? ⟨g, B * 12 + 10, none⟩ = some (.int .i64 (VB 10)) ∧ w'.cell? ⟨g, B * 12 + 11, none⟩ = some (.int .i64 (VB 11))) (by kernel_rfl) ?_ (fun hHeld => ?_)
  · (try dsimp only)
    (first | (go_simp; done) | (go_keep; done))
  refine tq 0 hHeld ?_
  refine tq 1 hHeld ?_
  refine tq 2 hHeld ?_
  refine tq 3 hHeld ?_
  refine tq 4 hHeld ?_
  refine tq 5 hHeld ?_
  refine tq 6 hHeld ?_
  refine tq 7 hHeld ?_
  refine tq 8 hHeld ?_
  refine tq 9 hHeld ?_
  refine tq 10 hHeld ?_
  refine tq 11 hHeld ?_
  refine tq 12 hHeld ?_
  refine wpAnyH_ready (rs := [13, 14]) (by kernel_rfl) (by simp) ?_
  refine AllReadyH.cons rfl (fun K hK => ?_) (AllReadyH.cons rfl (fun K hK => ?_) AllReadyH.nil)
  · (go_simp
     (go_at_call 171; refine (l8Push_any VA VB X Y D bo _ mA mB b6A b7A b6B b7B hX hY b9A b9B b10A b10B).mono ?_; rintro e w5 ⟨rfl, hb5⟩; (try rw [hp, hq]))
     have hb5 := hb5.ofDr
     have hO2 := hO.on hb5
     clear k0 k1 k2 k3 k4 a0 a1 a2 a3 a4 a5 a6 a7 a8 a9 a10 a11 b0 b1 b2 b3 b4 b5 b6 b7 b8 b9 b10 b11
     clear hO
     have hO := hO2
     clear hO2
     obtain ⟨k0, k1, k2, k3, k4⟩ := hO.ks
     obtain ⟨a0, a1, a2, a3, a4, a5, a6, a7, a8, a9, a10, a11⟩ := own12 hO.own iA (fun j _ => hVA j)
     obtain ⟨b0, b1, b2, b3, b4, b5, b6, b7, b8, b9, b10, b11⟩ := own12 hO.own iB (fun j _ => hVB j)
     (try go_wp2_with fail)
     refine tr hK (fun hHeld => ?_)
     clear hK K)
    refine tc 14 fun K hK => ?_
    (go_simp
     have hE : Below w5.heap.size w5 (w5.alloc (Obj.cells #[.int .i64 0, .int .i64 0] 28)) := (Below.refl _ _).alloc (Nat.le_refl _) _
     have hO2 := hO.on hE
     have hV : Nb (w5.alloc (Obj.cells #[.int .i64 0, .int .i64 0] 28)) w5.heap.size 2 (fun _ => 0) := ⟨fun j hj => by rcases (show j = 0 ∨ j = 1 by omega) with rfl | rfl <;> go_simp, fun o => by go_simp, by simp⟩
     have hp1 : w.heap.size < w5.heap.size := hO.hC.l
     have hp2 : g < w5.heap.size := Nat.lt_of_lt_of_le hgl (Nat.le_of_lt hp1)
     clear hE
     clear k0 k1 k2 k3 k4 a0 a1 a2 a3 a4 a5 a6 a7 a8 a9 a10 a11 b0 b1 b2 b3 b4 b5 b6 b7 b8 b9 b10 b11
     clear hO
     have hO := hO2
     clear hO2
     generalize (w5.alloc (Obj.cells #[.int .i64 0, .int .i64 0] 28)) = w6 at hO hV ⊢
     generalize w5.heap.size = pb at hV hp1 hp2 ⊢
     obtain ⟨k0, k1, k2, k3, k4⟩ := hO.ks
     obtain ⟨a0, a1, a2, a3, a4, a5, a6, a7, a8, a9, a10, a11⟩ := own12 hO.own iA (fun j _ => hVA j)
     obtain ⟨b0, b1, b2, b3, b4, b5, b6, b7, b8, b9, b10, b11⟩ := own12 hO.own iB (fun j _ => hVB j)
     (have v0 : w6.cell? ⟨pb, 0, none⟩ = some (.int .i64 0) := hV.c 0 (by decide))
     (have v1 : w6.cell? ⟨pb, 1, none⟩ = some (.int .i64 0) := hV.c 1 (by decide))
     have vf := hV.f
     refine tr hK (fun hHeld => ?_)
     clear hK K)
    refine tc 15 fun K hK => ?_
    (go_simp
     have hs : Fr (fun b => b = pb) w6 ((w6.setCell ⟨pb, 0, none⟩ (.int .i64 p)).setCell ⟨pb, 1, none⟩ (.int .i64 q)) := (Fr.setCell (X := fun b => b = pb) rfl _).trans (Fr.setCell (X := fun b => b = pb) rfl _)
     have hV2 : Nb ((w6.setCell ⟨pb, 0, none⟩ (.int .i64 p)).setCell ⟨pb, 1, none⟩ (.int .i64 q)) pb 2 (fun j => [p, q].getD j 0) := ((hV.set 0 (by decide) p).set 1 (by decide) q).congr (fun j hj => by rcases (show j = 0 ∨ j = 1 by omega) with rfl | rfl <;> rfl)
     have hO2 := hO.set hs hp1 hp2
     clear k0 k1 k2 k3 k4 a0 a1 a2 a3 a4 a5 a6 a7 a8 a9 a10 a11 b0 b1 b2 b3 b4 b5 b6 b7 b8 b9 b10 b11
     clear hs hV v0 v1 vf
     have hV := hV2
     clear hV2
     clear hO
     have hO := hO2
     clear hO2
     generalize ((w6.setCell ⟨pb, 0, none⟩ (.int .i64 p)).setCell ⟨pb, 1, none⟩ (.int .i64 q)) = w7 at hO hV ⊢
     obtain ⟨k0, k1, k2, k3, k4⟩ := hO.ks
     obtain ⟨a0, a1, a2, a3, a4, a5, a6, a7, a8, a9, a10, a11⟩ := own12 hO.own iA (fun j _ => hVA j)
     obtain ⟨b0, b1, b2, b3, b4, b5, b6, b7, b8, b9, b10, b11⟩ := own12 hO.own iB (fun j _ => hVB j)
     refine tr hK (fun hHeld => ?_)
     clear hK K)
    refine wpAnyH_done (by kernel_rfl) ?_ _
    go_wp2_with fail
    go_meet
    exact ⟨pb, rfl, hO, hV, hp1, hp2⟩
  · (go_simp
     have hE : Below w0.heap.size w0 (w0.alloc (Obj.cells #[.int .i64 0, .int .i64 0] 28)).drew := Below.drew ((Below.refl _ _).alloc (Nat.le_refl _) _)
     have hO2 := hO.on hE
     have hV : Nb (w0.alloc (Obj.cells #[.int .i64 0, .int .i64 0] 28)).drew w0.heap.size 2 (fun _ => 0) := ⟨fun j hj => by rcases (show j = 0 ∨ j = 1 by omega) with rfl | rfl <;> go_simp, fun o => by go_simp, by simp⟩
     have hp1 : w.heap.size < w0.heap.size := hO.hC.l
     have hp2 : g < w0.heap.size := Nat.lt_of_lt_of_le hgl (Nat.le_of_lt hp1)
     clear hE
     clear k0 k1 k2 k3 k4 a0 a1 a2 a3 a4 a5 a6 a7 a8 a9 a10 a11 b0 b1 b2 b3 b4 b5 b6 b7 b8 b9 b10 b11
     clear hO
     have hO := hO2
     clear hO2
     generalize (w0.alloc (Obj.cells #[.int .i64 0, .int .i64 0] 28)).drew = w6 at hO hV ⊢
     generalize w0.heap.size = pb at hV hp1 hp2 ⊢
     obtain ⟨k0, k1, k2, k3, k4⟩ := hO.ks
     obtain ⟨a0, a1, a2, a3, a4, a5, a6, a7, a8, a9, a10, a11⟩ := own12 hO.own iA (fun j _ => hVA j)
     obtain ⟨b0, b1, b2, b3, b4, b5, b6, b7, b8, b9, b10, b11⟩ := own12 hO.own iB (fun j _ => hVB j)
     (have v0 : w6.cell? ⟨pb, 0, none⟩ = some (.int .i64 0) := hV.c 0 (by decide))
     (have v1 : w6.cell? ⟨pb, 1, none⟩ = some (.int .i64 0) := hV.c 1 (by decide))
     have vf := hV.f
     refine tr hK (fun hHeld => ?_)
     clear hK K)
    refine tc 13 fun K hK => ?_
    (go_simp
     (go_at_call 171; refine (l8Push_any VA VB X Y D bo _ mA mB b6A b7A b6B b7B hX hY b9A b9B b10A b10B).mono ?_; rintro e w5 ⟨rfl, hb5⟩; (try rw [hp, hq]))
     have hO2 := hO.on hb5
     have hV2 := hV.on hb5
     clear hV v0 v1 vf
     have hV := hV2
     clear hV2
     clear k0 k1 k2 k3 k4 a0 a1 a2 a3 a4 a5 a6 a7 a8 a9 a10 a11 b0 b1 b2 b3 b4 b5 b6 b7 b8 b9 b10 b11
     clear hO
     have hO := hO2
     clear hO2
     obtain ⟨k0, k1, k2, k3, k4⟩ := hO.ks
     obtain ⟨a0, a1, a2, a3, a4, a5, a6, a7, a8, a9, a10, a11⟩ := own12 hO.own iA (fun j _ => hVA j)
     obtain ⟨b0, b1, b2, b3, b4, b5, b6, b7, b8, b9, b10, b11⟩ := own12 hO.own iB (fun j _ => hVB j)
     (have v0 : w5.cell? ⟨pb, 0, none⟩ = some (.int .i64 0) := hV.c 0 (by decide))
     (have v1 : w5.cell? ⟨pb, 1, none⟩ = some (.int .i64 0) := hV.c 1 (by decide))
     have vf := hV.f
     (try go_wp2_with fail)
     refine tr hK (fun hHeld => ?_)
     clear hK K)
    refine tc 15 fun K hK => ?_
    (go_simp
     have hs : Fr (fun b => b = pb) w5 ((w5.setCell ⟨pb, 0, none⟩ (.int .i64 p)).setCell ⟨pb, 1, none⟩ (.int .i64 q)) := (Fr.setCell (X := fun b => b = pb) rfl _).trans (Fr.setCell (X := fun b => b = pb) rfl _)
     have hV2 : Nb ((w5.setCell ⟨pb, 0, none⟩ (.int .i64 p)).setCell ⟨pb, 1, none⟩ (.int .i64 q)) pb 2 (fun j => [p, q].getD j 0) := ((hV.set 0 (by decide) p).set 1 (by decide) q).congr (fun j hj => by rcases (show j = 0 ∨ j = 1 by omega) with rfl | rfl <;> rfl)
     have hO2 := hO.set hs hp1 hp2
     clear k0 k1 k2 k3 k4 a0 a1 a2 a3 a4 a5 a6 a7 a8 a9 a10 a11 b0 b1 b2 b3 b4 b5 b6 b7 b8 b9 b10 b11
     clear hs hV v0 v1 vf
     have hV := hV2
     clear hV2
     clear hO
     have hO := hO2
     clear hO2
     generalize ((w5.setCell ⟨pb, 0, none⟩ (.int .i64 p)).setCell ⟨pb, 1, none⟩ (.int .i64 q)) = w7 at hO hV ⊢
     obtain ⟨k0, k1, k2, k3, k4⟩ := hO.ks
     obtain ⟨a0, a1, a2, a3, a4, a5, a6, a7, a8, a9, a10, a11⟩ := own12 hO.own iA (fun j _ => hVA j)
     obtain ⟨b0, b1, b2, b3, b4, b5, b6, b7, b8, b9, b10, b11⟩ := own12 hO.own iB (fun j _ => hVB j)
     refine tr hK (fun hHeld => ?_)
     clear hK K)
    refine wpAnyH_done (by kernel_rfl) ?_ _
    go_wp2_with fail
    go_meet
    exact ⟨pb, rfl, hO, hV, hp1, hp2⟩
 case rest =>
 clear k0 k1 k2 k3 k4 a0 a1 a2 a3 a4 a5 a6 a7 a8 a9 a10 a11 b0 b1 b2 b3 b4 b5 b6 b7 b8 b9 b10 b11
 clear hO
 obtain ⟨pb, rfl, hO, hV, hp1, hp2⟩ := hcut
 obtain ⟨k0, k1, k2, k3, k4⟩ := hO.ks
 obtain ⟨a0, a1, a2, a3, a4, a5, a6, a7, a8, a9, a10, a11⟩ := own12 hO.own iA (fun j _ => hVA j)
 obtain ⟨b0, b1, b2, b3, b4, b5, b6, b7, b8, b9, b10, b11⟩ := own12 hO.own iB (fun j _ => hVB j)
 (have v0 : wc.cell? ⟨pb, 0, none⟩ = some (.int .i64 p) := hV.c 0 (by decide))
 (have v1 : wc.cell? ⟨pb, 1, none⟩ = some (.int .i64 q) := hV.c 1 (by decide))
 have vf := hV.f
 have hev : ∀ w, (Op.equalIn 10000 28 (.agg #[.int .i64 p, .int .i64 q]) (.agg #[.int .i64 0, .int .i64 0])).run Tryz.prog w = .ok EZ w := fun w => by rw [eq_vec0, hEZ]
 clear hEZ
 cases EZ with
 | true =>
  simp only [Bool.true_or, cond_true] at hR
  subst hR
  go_upto_region 2 with fail
  refine wp_region_held_drew (S := fun w' => w'.cell? ⟨w.heap.size, 0, none⟩ = some (.int .i64 (A : Int)) ∧ w'.cell? ⟨w.heap.size, 1, none⟩ = some (.int .i64 (B : Int)) ∧ w'.cell? ⟨w.heap.size, 2, none⟩ = some (.int .i64 X) ∧ w'.cell? ⟨w.heap.size, 3, none⟩ = some (.int .i64 Y) ∧ w'.cell? ⟨w.heap.size, 4, none⟩ = some (.int .i64 D) ∧ w'.cell? ⟨g, A * 12, none⟩ = some (.int .i64 (VA 0)) ∧ w'.cell? ⟨g, A * 12 + 1, none⟩ = some (.int .i64 (VA 1)) ∧ w'.cell? ⟨g, A * 12 + 2, none⟩ = some (.int .i64 (VA 2)) ∧ w'.cell? ⟨g, A * 12 + 3, none⟩ = some (.int .i64 (VA 3)) ∧ w'.cell? ⟨g, A * 12 + 4, none⟩ = some (.int .i64 (VA 4)) ∧ w'.cell? ⟨g, A * 12 + 5, none⟩ = some (.int .i64 (VA 5)) ∧ w'.cell? ⟨g, A * 12 + 6, none⟩ = some (.int .i64 (VA 6)) ∧ w'.cell? ⟨g, A * 12 + 7, none⟩ = some (.int .i64 (VA 7)) ∧ w'.cell? ⟨g, A * 12 + 8, none⟩ = some (.int .i64 (VA 8)) ∧ w'.cell? ⟨g, A * 12 + 9, none⟩ = some (.int .i64 (VA 9)) ∧ w'.cell? ⟨g, A * 12 + 10, none⟩ = some (.int .i64 (VA 10)) ∧ w'.cell? ⟨g, A * 12 + 11, none⟩ = some (.int .i64 (VA 11)) ∧ w'.cell? ⟨g, B * 12, none⟩ = some (.int .i64 (VB 0)) ∧ w'.cell? ⟨g, B * 12 + 1, none⟩ = some (.int .i64 (VB 1)) ∧ w'.cell? ⟨g, B * 12 + 2, none⟩ = some (.int .i64 (VB 2)) ∧ w'.cell? ⟨g, B * 12 + 3, none⟩ = some (.int .i64 (VB 3)) ∧ w'.cell? ⟨g, B * 12 + 4, none⟩ = some (.int .i64 (VB 4)) ∧ w'.cell? ⟨g, B * 12 + 5, none⟩ = some (.int .i64 (VB 5)) ∧ w'.cell? ⟨g, B * 12 + 6, none⟩ = some (.int .i64 (VB 6)) ∧ w'.cell? ⟨g, B * 12 + 7, none⟩ = some (.int .i64 (VB 7)) ∧ w'.cell? ⟨g, B * 12 + 8, none⟩ = some (.int .i64 (VB 8)) ∧ w'.cell? ⟨g, B * 12 + 9, none⟩ = some (.int .i64 (VB 9)) ∧ w'.cell? ⟨g, B * 12 + 10, none⟩ = some (.int .i64 (VB 10)) ∧ w'.cell? ⟨g, B * 12 + 11, none⟩ = some (.int .i64 (VB 11)) ∧ w'.cell? ⟨pb, 0, none⟩ = some (.int .i64 p) ∧ w'.cell? ⟨pb, 1, none⟩ = some (.int .i64 q)) (by kernel_rfl) ?_ (fun hHeld => ?_)
  · (try dsimp only)
    (first | (go_simp; done) | (go_keep; done))
  refine tq 0 hHeld ?_
  refine tq 1 hHeld ?_
  refine tq 2 hHeld ?_
  refine tq 3 hHeld ?_
  refine tn 4 hHeld ?_
  refine tn 5 hHeld ?_
  refine tn 6 hHeld ?_
  refine tn 7 hHeld ?_
  refine tn 8 hHeld ?_
  refine tn 9 hHeld ?_
  refine tn 10 hHeld ?_
  refine tn 11 hHeld ?_
  refine tn 12 hHeld ?_
  refine tn 13 hHeld ?_
  refine tn 14 hHeld ?_
  refine tn 15 hHeld ?_
  refine tn 16 hHeld ?_
  refine tq 17 hHeld ?_
  refine wpAnyH_done (by kernel_rfl) ?_ _
  go_wp2_with fail
  refine bodyPost_ret (results_none rfl _ _ _) rfl ?_
  exact ⟨rfl, hO.own.drewO, hO.fr.drew⟩
 | false =>
  obtain ⟨fb, hfb⟩ : ∃ b, fitsB VA VB p q = b := ⟨_, rfl⟩
  rw [hfb] at hR
  go_upto_region 2 with fail
  go_cut [38] (fun s38 wc => s38 = .bool (!fb) ∧ O8 w wc base g n c A B X Y D U ∧ Nb wc pb 2 (fun j => [p, q].getD j 0))
  case first =>
   refine wp_region_held_drew (S := fun w' => w'.cell? ⟨w.heap.size, 0, none⟩ = some (.int .i64 (A : Int)) ∧ w'.cell? ⟨w.heap.size, 1, none⟩ = some (.int .i64 (B : Int)) ∧ w'.cell? ⟨w.heap.size, 2, none⟩ = some (.int .i64 X) ∧ w'.cell? ⟨w.heap.size, 3, none⟩ = some (.int .i64 Y) ∧ w'.cell? ⟨w.heap.size, 4, none⟩ = some (.int .i64 D) ∧ w'.cell? ⟨g, A * 12, none⟩ = some (.int .i64 (VA 0)) ∧ w'.cell? ⟨g, A * 12 + 1, none⟩ = some (.int .i64 (VA 1)) ∧ w'.cell? ⟨g, A * 12 + 2, none⟩ = some (.int .i64 (VA 2)) ∧ w'.cell? ⟨g, A * 12 + 3, none⟩ = some (.int .i64 (VA 3)) ∧ w'.cell? ⟨g, A * 12 + 4, none⟩ = some (.int .i64 (VA 4)) ∧ w'.cell? ⟨g, A * 12 + 5, none⟩ = some (.int .i64 (VA 5)) ∧ w'.cell? ⟨g, A * 12 + 6, none⟩ = some (.int .i64 (VA 6)) ∧ w'.cell? ⟨g, A * 12 + 7, none⟩ = some (.int .i64 (VA 7)) ∧ w'.cell? ⟨g, A * 12 + 8, none⟩ = some (.int .i64 (VA 8)) ∧ w'.cell? ⟨g, A * 12 + 9, none⟩ = some (.int .i64 (VA 9)) ∧ w'.cell? ⟨g, A * 12 + 10, none⟩ = some (.int .i64 (VA 10)) ∧ w'.cell? ⟨g, A * 12 + 11, none⟩ = some (.int .i64 (VA 11)) ∧ w'.cell? ⟨g, B * 12, none⟩ = some (.int .i64 (VB 0)) ∧ w'.cell? ⟨g, B * 12 + 1, none⟩ = some (.int .i64 (VB 1)) ∧ w'.cell? ⟨g, B * 12 + 2, none⟩ = some (.int .i64 (VB 2)) ∧ w'.cell? ⟨g, B * 12 + 3, none⟩ = some (.int .i64 (VB 3)) ∧ w'.cell? ⟨g, B * 12 + 4, none⟩ = some (.int .i64 (VB 4)) ∧ w'.cell? ⟨g, B * 12 + 5, none⟩ = some (.int .i64 (VB 5)) ∧ w'.cell? ⟨g, B * 12 + 6, none⟩ = some (.int .i64 (VB 6)) ∧ w'.cell? ⟨g, B * 12 + 7, none⟩ = some (.int .i64 (VB 7)) ∧ w'.cell? ⟨g, B * 12 + 8, none⟩ = some (.int .i64 (VB 8)) ∧ w'.cell? ⟨g, B * 12 + 9, none⟩ = some (.int .i64 (VB 9)) ∧ w'.cell? ⟨g, B * 12 + 10, none⟩ = some (.int .i64 (VB 10)) ∧ w'.cell? ⟨g, B * 12 + 11, none⟩ = some (.int .i64 (VB 11)) ∧ w'.cell? ⟨pb, 0, none⟩ = some (.int .i64 p) ∧ w'.cell? ⟨pb, 1, none⟩ = some (.int .i64 q)) (by kernel_rfl) ?_ (fun hHeld => ?_)
   · (try dsimp only)
     (first | (go_simp; done) | (go_keep; done))
   refine tq 0 hHeld ?_
   refine tq 1 hHeld ?_
   refine tq 2 hHeld ?_
   refine tq 3 hHeld ?_
   refine tq 4 hHeld ?_
   refine tq 5 hHeld ?_
   refine tq 6 hHeld ?_
   refine tq 7 hHeld ?_
   refine tq 8 hHeld ?_
   refine tq 9 hHeld ?_
   refine tq 10 hHeld ?_
   refine tq 11 hHeld ?_
   refine tq 12 hHeld ?_
   refine tq 13 hHeld ?_
   refine tq 14 hHeld ?_
   refine tc 15 fun K hK => ?_
   (go_simp
    (go_at_call 172; refine (l8Fits_q VA VB p q fb _ b6A b7A b6B b7B bp bq hfb).mono ?_; rintro e w5 ⟨rfl, hb5⟩)
    have hb5 := hb5.ofDr
    have hO2 := hO.on hb5
    have hV2 := hV.on hb5
    clear k0 k1 k2 k3 k4 a0 a1 a2 a3 a4 a5 a6 a7 a8 a9 a10 a11 b0 b1 b2 b3 b4 b5 b6 b7 b8 b9 b10 b11
    clear hV v0 v1 vf
    have hV := hV2
    clear hV2
    clear hO
    have hO := hO2
    clear hO2
    obtain ⟨k0, k1, k2, k3, k4⟩ := hO.ks
    obtain ⟨a0, a1, a2, a3, a4, a5, a6, a7, a8, a9, a10, a11⟩ := own12 hO.own iA (fun j _ => hVA j)
    obtain ⟨b0, b1, b2, b3, b4, b5, b6, b7, b8, b9, b10, b11⟩ := own12 hO.own iB (fun j _ => hVB j)
    (have v0 : w5.cell? ⟨pb, 0, none⟩ = some (.int .i64 p) := hV.c 0 (by decide))
    (have v1 : w5.cell? ⟨pb, 1, none⟩ = some (.int .i64 q) := hV.c 1 (by decide))
    have vf := hV.f
    (try go_wp2_with fail)
    refine tr hK (fun hHeld => ?_)
    clear hK K)
   refine tq 16 hHeld ?_
   refine tq 17 hHeld ?_
   refine wpAnyH_done (by kernel_rfl) ?_ _
   go_wp2_with fail
   go_meet
   exact ⟨rfl, hO, hV⟩
  case rest =>
  clear k0 k1 k2 k3 k4 a0 a1 a2 a3 a4 a5 a6 a7 a8 a9 a10 a11 b0 b1 b2 b3 b4 b5 b6 b7 b8 b9 b10 b11
  clear hO hV v0 v1 vf hev
  obtain ⟨rfl, hO, hV⟩ := hcut
  cases fb with
  | false =>
   simp only [Bool.false_or, Bool.not_false, cond_true] at hR
   subst hR
   go_wp2_with fail
   refine bodyPost_ret (results_none rfl _ _ _) rfl ?_
   exact ⟨rfl, hO.own, hO.fr⟩
  | true =>
   simp only [Bool.false_or, Bool.not_true, cond_false] at hR
   obtain ⟨k0, k1, k2, k3, k4⟩ := hO.ks
   obtain ⟨a0, a1, a2, a3, a4, a5, a6, a7, a8, a9, a10, a11⟩ := own12 hO.own iA (fun j _ => hVA j)
   (have v0 : wc.cell? ⟨pb, 0, none⟩ = some (.int .i64 p) := hV.c 0 (by decide))
   (have v1 : wc.cell? ⟨pb, 1, none⟩ = some (.int .i64 q) := hV.c 1 (by decide))
   have vf := hV.f
   obtain ⟨MA, hM⟩ : ∃ M, pushV VA (-p) (-q) = M := ⟨_, rfl⟩
   rw [hM] at hR
   go_upto_region 3 with fail
   refine wp_region_held_drew (S := fun w' => w'.cell? ⟨w.heap.size, 0, none⟩ = some (.int .i64 (A : Int)) ∧ w'.cell? ⟨w.heap.size, 1, none⟩ = some (.int .i64 (B : Int)) ∧ w'.cell? ⟨w.heap.size, 2, none⟩ = some (.int .i64 X) ∧ w'.cell? ⟨w.heap.size, 3, none⟩ = some (.int .i64 Y) ∧ w'.cell? ⟨w.heap.size, 4, none⟩ = some (.int .i64 D) ∧ w'.cell? ⟨pb, 0, none⟩ = some (.int .i64 p) ∧ w'.cell? ⟨pb, 1, none⟩ = some (.int .i64 q)) (by kernel_rfl) ?_ (fun hHeld => ?_)
   · (try dsimp only)
     (first | (go_simp; done) | (go_keep; done))
   refine tq 0 hHeld ?_
   refine tq 1 hHeld ?_
   refine tq 2 hHeld ?_
   refine tq 3 hHeld ?_
   refine tq 4 hHeld ?_
   refine tq 5 hHeld ?_
   refine tq 6 hHeld ?_
   refine tq 8 hHeld ?_
   refine tq 9 hHeld ?_
   refine tq 10 hHeld ?_
   refine tq 11 hHeld ?_
   refine tq 12 hHeld ?_
   refine tq 13 hHeld ?_
   refine tq 14 hHeld ?_
   refine tc 7 fun K hK => ?_
   (go_simp
    refine tr hK (fun hHeld => ?_)
    clear hK K)
   refine tc 15 fun K hK => ?_
   (go_simp
    (go_at_call 173; refine (l6Push_any VA (-p) (-q) _ b6A b7A hbpn hbqn).mono ?_; rintro e wm ⟨rfl, hbm⟩; (try rw [hM]))
    have hbm := hbm.ofDr
    have hO2 := hO.on hbm
    have hV2 := hV.on hbm
    clear k0 k1 k2 k3 k4 a0 a1 a2 a3 a4 a5 a6 a7 a8 a9 a10 a11
    clear hV v0 v1 vf
    have hV := hV2
    clear hV2
    clear hO
    have hO := hO2
    clear hO2
    obtain ⟨k0, k1, k2, k3, k4⟩ := hO.ks
    obtain ⟨a0, a1, a2, a3, a4, a5, a6, a7, a8, a9, a10, a11⟩ := own12 hO.own iA (fun j _ => hVA j)
    (have v0 : wm.cell? ⟨pb, 0, none⟩ = some (.int .i64 p) := hV.c 0 (by decide))
    (have v1 : wm.cell? ⟨pb, 1, none⟩ = some (.int .i64 q) := hV.c 1 (by decide))
    have vf := hV.f
    have umf := hO.own.fro
    (try go_wp2_with fail)
    refine tr hK (fun hHeld => ?_)
    clear hK K)
   refine tq 16 hHeld ?_
   refine tc 17 fun K hK => ?_
   (go_simp
    have hq := put12 hO.own hA MA
    have hfq := putFr (w4 := wm) (g := g) (p := A) MA
    have hO2 := hO.put hfq hgl hq
    have hV2 := hV.fr hfq (by omega)
    clear k0 k1 k2 k3 k4 a0 a1 a2 a3 a4 a5 a6 a7 a8 a9 a10 a11 umf hfq hq
    clear hV v0 v1 vf
    have hV := hV2
    clear hV2
    clear hO
    have hO := hO2
    clear hO2
    generalize ((((((((((((wm.setCell ⟨g, A * 12, none⟩ (.int .i64 (MA 0))).setCell ⟨g, A * 12 + 1, none⟩ (.int .i64 (MA 1))).setCell ⟨g, A * 12 + 2, none⟩ (.int .i64 (MA 2))).setCell ⟨g, A * 12 + 3, none⟩ (.int .i64 (MA 3))).setCell ⟨g, A * 12 + 4, none⟩ (.int .i64 (MA 4))).setCell ⟨g, A * 12 + 5, none⟩ (.int .i64 (MA 5))).setCell ⟨g, A * 12 + 6, none⟩ (.int .i64 (MA 6))).setCell ⟨g, A * 12 + 7, none⟩ (.int .i64 (MA 7))).setCell ⟨g, A * 12 + 8, none⟩ (.int .i64 (MA 8))).setCell ⟨g, A * 12 + 9, none⟩ (.int .i64 (MA 9))).setCell ⟨g, A * 12 + 10, none⟩ (.int .i64 (MA 10))).setCell ⟨g, A * 12 + 11, none⟩ (.int .i64 (MA 11))) = w8 at hO hV ⊢
    obtain ⟨k0, k1, k2, k3, k4⟩ := hO.ks
    (have v0 : w8.cell? ⟨pb, 0, none⟩ = some (.int .i64 p) := hV.c 0 (by decide))
    (have v1 : w8.cell? ⟨pb, 1, none⟩ = some (.int .i64 q) := hV.c 1 (by decide))
    have vf := hV.f
    refine tr hK (fun hHeld => ?_)
    clear hK K)
   refine wpAnyH_done (by kernel_rfl) ?_ _
   have hVB' : ∀ j, j < 12 → putRow U A MA (B * 12 + j) = VB j := fun j hj => (putRow_else (fun e => hAB e.symm) hj).trans (hVB j)
   clear hM
   obtain ⟨b0, b1, b2, b3, b4, b5, b6, b7, b8, b9, b10, b11⟩ := own12 hO.own iB hVB'
   obtain ⟨MB, hM⟩ : ∃ M, pushV VB p q = M := ⟨_, rfl⟩
   rw [hM] at hR
   go_upto_region 4 with fail
   refine wp_region_held_drew (S := fun w' => w'.cell? ⟨w.heap.size, 0, none⟩ = some (.int .i64 (A : Int)) ∧ w'.cell? ⟨w.heap.size, 1, none⟩ = some (.int .i64 (B : Int)) ∧ w'.cell? ⟨w.heap.size, 2, none⟩ = some (.int .i64 X) ∧ w'.cell? ⟨w.heap.size, 3, none⟩ = some (.int .i64 Y) ∧ w'.cell? ⟨w.heap.size, 4, none⟩ = some (.int .i64 D) ∧ w'.cell? ⟨pb, 0, none⟩ = some (.int .i64 p) ∧ w'.cell? ⟨pb, 1, none⟩ = some (.int .i64 q)) (by kernel_rfl) ?_ (fun hHeld => ?_)
   · (try dsimp only)
     (first | (go_simp; done) | (go_keep; done))
   refine tq 0 hHeld ?_
   refine tq 1 hHeld ?_
   refine tq 2 hHeld ?_
   refine tq 3 hHeld ?_
   refine tq 4 hHeld ?_
   refine tq 5 hHeld ?_
   refine tq 6 hHeld ?_
   refine tq 8 hHeld ?_
   refine tc 7 fun K hK => ?_
   (go_simp
    refine tr hK (fun hHeld => ?_)
    clear hK K)
   refine tc 9 fun K hK => ?_
   (go_simp
    (go_at_call 173; refine (l6Push_any VB p q _ b6B b7B bp bq).mono ?_; rintro e wm ⟨rfl, hbm⟩; (try rw [hM]))
    have hbm := hbm.ofDr
    have hO2 := hO.on hbm
    have hV2 := hV.on hbm
    clear k0 k1 k2 k3 k4 b0 b1 b2 b3 b4 b5 b6 b7 b8 b9 b10 b11
    clear hV v0 v1 vf
    have hV := hV2
    clear hV2
    clear hO
    have hO := hO2
    clear hO2
    obtain ⟨k0, k1, k2, k3, k4⟩ := hO.ks
    obtain ⟨b0, b1, b2, b3, b4, b5, b6, b7, b8, b9, b10, b11⟩ := own12 hO.own iB hVB'
    (have v0 : wm.cell? ⟨pb, 0, none⟩ = some (.int .i64 p) := hV.c 0 (by decide))
    (have v1 : wm.cell? ⟨pb, 1, none⟩ = some (.int .i64 q) := hV.c 1 (by decide))
    have vf := hV.f
    have umf := hO.own.fro
    (try go_wp2_with fail)
    refine tr hK (fun hHeld => ?_)
    clear hK K)
   refine tq 10 hHeld ?_
   refine tc 11 fun K hK => ?_
   (go_simp
    have hq := put12 hO.own hB MB
    have hfq := putFr (w4 := wm) (g := g) (p := B) MB
    have hO2 := hO.put hfq hgl hq
    have hV2 := hV.fr hfq (by omega)
    clear k0 k1 k2 k3 k4 b0 b1 b2 b3 b4 b5 b6 b7 b8 b9 b10 b11 umf hfq hq
    clear hV v0 v1 vf
    have hV := hV2
    clear hV2
    clear hO
    have hO := hO2
    clear hO2
    generalize ((((((((((((wm.setCell ⟨g, B * 12, none⟩ (.int .i64 (MB 0))).setCell ⟨g, B * 12 + 1, none⟩ (.int .i64 (MB 1))).setCell ⟨g, B * 12 + 2, none⟩ (.int .i64 (MB 2))).setCell ⟨g, B * 12 + 3, none⟩ (.int .i64 (MB 3))).setCell ⟨g, B * 12 + 4, none⟩ (.int .i64 (MB 4))).setCell ⟨g, B * 12 + 5, none⟩ (.int .i64 (MB 5))).setCell ⟨g, B * 12 + 6, none⟩ (.int .i64 (MB 6))).setCell ⟨g, B * 12 + 7, none⟩ (.int .i64 (MB 7))).setCell ⟨g, B * 12 + 8, none⟩ (.int .i64 (MB 8))).setCell ⟨g, B * 12 + 9, none⟩ (.int .i64 (MB 9))).setCell ⟨g, B * 12 + 10, none⟩ (.int .i64 (MB 10))).setCell ⟨g, B * 12 + 11, none⟩ (.int .i64 (MB 11))) = w9 at hO hV ⊢
    obtain ⟨k0, k1, k2, k3, k4⟩ := hO.ks
    (have v0 : w9.cell? ⟨pb, 0, none⟩ = some (.int .i64 p) := hV.c 0 (by decide))
    (have v1 : w9.cell? ⟨pb, 1, none⟩ = some (.int .i64 q) := hV.c 1 (by decide))
    have vf := hV.f
    refine tr hK (fun hHeld => ?_)
    clear hK K)
   refine wpAnyH_done (by kernel_rfl) ?_ _
   go_wp2_with fail
   go_end0
   exact ⟨rfl, by rw [← hR]; exact hO.own, hO.fr⟩
theorem pushV_0 (V : Nat → Int) (p q : Int) : pushV V p q 0 = V 0 := by unfold pushV; split <;> rfl
theorem pushV_8 (V : Nat → Int) (p q : Int) : pushV V p q 8 = V 8 := by unfold pushV; split <;> rfl
theorem Bods.one {n : Nat} {U : Nat → Int} (h : Bods n U) {A B : Nat} (hA : A < n) (hB : B < n) (hAB : A ≠ B) (X Y : Int) (bo : Bool) : Bods n (oneU U A B X Y bo) ∧ ∀ i, oneU U A B X Y bo (i * 12 + 8) = U (i * 12 + 8) := by
 unfold oneU
 generalize puX (fun j => U (A * 12 + j)) (fun j => U (B * 12 + j)) X Y bo = p
 generalize puY (fun j => U (A * 12 + j)) (fun j => U (B * 12 + j)) X Y bo = q
 generalize ((p == 0 && q == 0) || !fitsB (fun j => U (A * 12 + j)) (fun j => U (B * 12 + j)) p q) = z
 cases z with
 | true => exact ⟨h, fun i => rfl⟩
 | false =>
  simp only [cond_false]
  have hb0 : putRow U A (pushV (fun j => U (A * 12 + j)) (-p) (-q)) (B * 12) = U (B * 12) := by
   have := putRow_else (U := U) (V := pushV (fun j => U (A * 12 + j)) (-p) (-q)) (k := A) (i := B) (j := 0) (fun e => hAB e.symm) (by omega)
   simpa using this
  have h8 : ∀ i, putRow U A (pushV (fun j => U (A * 12 + j)) (-p) (-q)) (i * 12 + 8) = U (i * 12 + 8) := fun i => putRow_8 (by rw [pushV_8])
  exact ⟨(h.put hA (push_ok (-p) (-q) (h.row hA)) (by rw [pushV_0]; rfl)).put hB (push_ok p q (h.row hB)) (by rw [pushV_0, hb0]; rfl), fun i => (putRow_8 (by rw [pushV_8, h8])).trans (h8 i)⟩
def rndN (C : Nat → Int) (bo : Bool) (U : Nat → Int) : Nat → Nat → Int
 | 0 => U
 | k + 1 => oneU (rndN C bo U k) (C (k * 5)).toNat (C (k * 5 + 1)).toNat (C (k * 5 + 2)) (C (k * 5 + 3)) bo
def allN (C U : Nat → Int) (m : Nat) : Nat → Nat → Int
 | 0 => U
 | r + 1 => rndN C (((r : Nat) : Int) == 0) (allN C U m r) m
theorem Bods.rnd {n m : Nat} {U C : Nat → Int} (h : Bods n U) (hC : CtOk n m C) (bo : Bool) : ∀ k, k ≤ m → Bods n (rndN C bo U k) ∧ ∀ i, rndN C bo U k (i * 12 + 8) = U (i * 12 + 8)
 | 0, _ => ⟨h, fun i => rfl⟩
 | k + 1, hk => by
  obtain ⟨h1, h2⟩ := Bods.rnd h hC bo k (by omega)
  have ha := hC.a k (by omega)
  have hb := hC.b k (by omega)
  have hn := hC.ne k (by omega)
  obtain ⟨q1, q2⟩ := h1.one (A := (C (k * 5)).toNat) (B := (C (k * 5 + 1)).toNat) (by omega) (by omega) (by omega) (C (k * 5 + 2)) (C (k * 5 + 3)) bo
  exact ⟨q1, fun i => (q2 i).trans (h2 i)⟩
theorem Bods.all {n m : Nat} {U C : Nat → Int} (h : Bods n U) (hC : CtOk n m C) : ∀ r, Bods n (allN C U m r) ∧ ∀ i, allN C U m r (i * 12 + 8) = U (i * 12 + 8)
 | 0 => ⟨h, fun i => rfl⟩
 | r + 1 => by
  obtain ⟨h1, h2⟩ := Bods.all h hC r
  obtain ⟨q1, q2⟩ := h1.rnd hC (((r : Nat) : Int) == 0) m (Nat.le_refl _)
  exact ⟨q1, fun i => (q2 i).trans (h2 i)⟩
theorem l8All_any (a : Option Addr) (n c : Nat) (U : Nat → Int) (ac : Option Addr) (m cc : Nat) (C : Nat → Int) (w : World) (h : Flat w a (n * 12) U) (hn : n ≤ 1048576) (hm : m ≤ 1048576) (h2 : Flat w ac (m * 5) C) (hbb : Bods n U) (hC : CtOk n m C) :
 Calls Tryz.prog 144 #[.slice a n c, .slice ac m cc] w fun e w' => ∃ a1 c1, e = .returned (.slice a1 n c1) ∧ OutL w w' 41 12 a1 n c1 (allN C U m 4) := by
 have hset := cset_map
 go_enter Tryz.func144, Tryz.ntmps144
 go_upto_region 1 with fail
 go_cut [5] (fun s0 wc => ∃ a1 c1, s0 = .slice a1 n c1 ∧ OutL w wc 41 12 a1 n c1 U)
 case first =>
  go_wp2_with (go_at_call 72; refine (l8Copy_any a n c U _ h hn).mono ?_; rintro e w3 ⟨a1, c1, rfl, hO⟩)
  go_meet
  exact ⟨_, _, rfl, hO⟩
 case rest =>
 obtain ⟨a1, c1, rfl, hO⟩ := hcut
 go_upto_region 3 with fail
 go_loopw [6, 7] (fun s _ wr => ∃ r : Nat, r ≤ 4 ∧ s = .int .i64 (r : Int) ∧ OutL w wr 41 12 a1 n c1 (allN C U m r)) (fun s _ _ => 4 - (intOf s).toNat)
 case atStart => exact ⟨0, Nat.zero_le _, rfl, hO⟩
 case round =>
  clear hO
  obtain ⟨r, hr, rfl, hO⟩ := hrel
  by_cases hlr : r < 4
  · have hr4 : (r : Int) < 4 := by omega
    have hB0 := (hbb.all hC r).1
    have HAL : Shut (allN C U m (r + 1) = rndN C (((r : Nat) : Int) == 0) (allN C U m r) m) := by show _ = _; rw [allN]
    obtain ⟨bo, hbo⟩ : ∃ b, ((r : Int) == 0) = b := ⟨_, rfl⟩
    rw [hbo] at HAL
    generalize allN C U m r = X at hO hB0 HAL
    go_upto_region 6 with fail
    go_loopw [7] (fun s wq => ∃ k : Nat, k ≤ m ∧ s = .int .i64 (k : Int) ∧ OutL w wq 41 12 a1 n c1 (rndN C bo X k)) (fun s _ => m - (intOf s).toNat)
    case atStart => exact ⟨0, Nat.zero_le _, rfl, hO⟩
    case round =>
     clear hO
     obtain ⟨k, hk, rfl, hO⟩ := hrel
     by_cases hlt : k < m
     · have hkm : (k : Int) < (m : Int) := by omega
       have ca := hC.a k hlt
       have cb := hC.b k hlt
       have cx := hC.x k hlt
       have cy := hC.y k hlt
       have cn := hC.ne k hlt
       have hB := (hB0.rnd hC bo k hk).1
       obtain ⟨b2, o2, e2, hbl2, hc2⟩ := (h2.below hO.bel) (by omega)
       have r0 := hc2 (k * 5) (by omega)
       have r1 := hc2 (k * 5 + 1) (by omega)
       have r2 := hc2 (k * 5 + 2) (by omega)
       have r3 := hc2 (k * 5 + 3) (by omega)
       have r4 := hc2 (k * 5 + 4) (by omega)
       simp only [← Nat.add_assoc] at r0 r1 r2 r3 r4
       clear hc2
       subst e2
       have HN : Shut (rndN C bo X (k + 1) = oneU (rndN C bo X k) (C (k * 5)).toNat (C (k * 5 + 1)).toNat (C (k * 5 + 2)) (C (k * 5 + 3)) bo) := by show _ = _; rw [rndN]
       obtain ⟨A, hA⟩ : ∃ A : Nat, C (k * 5) = (A : Int) := ⟨(C (k * 5)).toNat, by omega⟩
       obtain ⟨B, hBB⟩ : ∃ B : Nat, C (k * 5 + 1) = (B : Int) := ⟨(C (k * 5 + 1)).toNat, by omega⟩
       rw [hA, hBB, Int.toNat_natCast, Int.toNat_natCast] at HN
       rw [hA] at ca r0 cn
       rw [hBB] at cb r1 cn
       clear hA hBB
       have hAB : A ≠ B := fun e => cn (by rw [e])
       clear cn
       obtain ⟨g, rfl, hg1, hg2⟩ := hO.own.loc (by omega)
       go_wp2_with (go_at_call 161; refine (l8One_any w.heap.size g n c1 (rndN C bo X k) A B _ _ _ bo _ hO.own hn (by omega) (by omega) hAB hB cx cy).mono ?_; rintro e w5 ⟨rfl, ho5, hf5⟩)
       have hB5 : Below w.heap.size w w5 := hO.bel.trans (hf5.below (by have := hO.bel.size; omega) (fun b e => by omega))
       go_roundw
       case rel => exact ⟨k + 1, by omega, by go_num, hB5, by rw [HN.out]; exact ho5⟩
       case measure => simp [intOf]; omega
     · obtain rfl : k = m := by omega
       go_wp2_with fail
       go_roundw
       case rel => exact ⟨r + 1, by omega, by go_num, by rw [HAL.out]; exact hO⟩
       case measure => simp [intOf]; omega
  · obtain rfl : r = 4 := by omega
    go_wp2_with fail
    go_ret
    exact ⟨_, _, rfl, hO⟩
end Go.Proofs.YthijeiehcdoidaaGreat
