/- What a push comes to, number by number, and how great each is. -/
import Derived.Test.YtflgmpppnobogaaPushed
import Derived.Test.YtflgmpppnobogaaSPushed
namespace Go.Proofs.Ytflgmpppnobogaa
open Go.RowKit
set_option linter.unusedVariables false
set_option linter.unusedSimpArgs false

theorem td256q {x B : Int} (h : -(B * 256) ≤ x ∧ x ≤ B * 256) : -B ≤ x.tdiv 256 ∧ x.tdiv 256 ≤ B := by
  have e := Int.mul_tdiv_add_tmod x 256
  have a := Int.tmod_lt_of_pos x (show (0 : Int) < 256 by decide)
  have b : -256 < x.tmod 256 := Int.lt_tmod_of_pos x (by decide)
  omega
theorem td256p {x : Int} (h : 0 ≤ x) : 0 ≤ x.tdiv 256 := Int.tdiv_nonneg h (by decide)
theorem dot_bd {u v x y : Int} (hu : -40000000 ≤ u ∧ u ≤ 40000000) (hv : -40000000 ≤ v ∧ v ≤ 40000000) (bx : -256 ≤ x ∧ x ≤ 256) (bY : -256 ≤ y ∧ y ≤ 256) : -80000000 ≤ fc ((u * x + v * y).tdiv 256) ∧ fc ((u * x + v * y).tdiv 256) ≤ 80000000 := by
  have p := mul_bd (a := u) (b := x) (A := 40000000) (B := 256) hu bx
  have q := mul_bd (a := v) (b := y) (A := 40000000) (B := 256) hv bY
  have t := td256q (x := u * x + v * y) (B := 80000000) (by omega)
  rw [fc_id (by omega) (by omega)]; exact t
def mxB (V1 V2 : Nat → Int) : Int := if V1 9 < V2 9 then V2 9 else V1 9
def mnR (V1 V2 : Nat → Int) : Int := if V2 10 < V1 10 then V2 10 else V1 10
def pN (V1 V2 : Nat → Int) (x y : Int) (bo : Bool) : Int := bif bo then closeV V1 V2 x y + (closeV V1 V2 x y * mxB V1 V2).tdiv 256 else closeV V1 V2 x y
def pP (V1 V2 : Nat → Int) (x y : Int) (bo : Bool) : Int := togV V1 V2 (pN V1 V2 x y bo)
def pD (V1 V2 : Nat → Int) (x y : Int) : Int := fc (((spX V1 - spX V2) * (-y) + (spY V1 - spY V2) * x).tdiv 256)
def pM (V1 V2 : Nat → Int) (x y : Int) (bo : Bool) : Int := (pP V1 V2 x y bo * mnR V1 V2).tdiv 256
def pA (V1 V2 : Nat → Int) (x y : Int) (bo : Bool) : Int := clampZ (pM V1 V2 x y bo) (togV V1 V2 (pD V1 V2 x y))
def puX (V1 V2 : Nat → Int) (x y : Int) (bo : Bool) : Int := if closeV V1 V2 x y ≤ 0 then 0 else clampZ 20000000 ((pP V1 V2 x y bo * x + pA V1 V2 x y bo * (-y)).tdiv 256)
def puY (V1 V2 : Nat → Int) (x y : Int) (bo : Bool) : Int := if closeV V1 V2 x y ≤ 0 then 0 else clampZ 20000000 ((pP V1 V2 x y bo * y + pA V1 V2 x y bo * x).tdiv 256)
theorem togV_nn (V1 V2 : Nat → Int) (n : Int) (a0 : 0 ≤ V1 8) (a1 : 0 ≤ V2 8) (h : 0 ≤ n) : 0 ≤ togV V1 V2 n := by
  unfold togV; split
  · exact Int.mul_nonneg h (by omega)
  · exact Int.tdiv_nonneg (Int.mul_nonneg (Int.mul_nonneg h a0) a1) (by omega)
theorem close_fixed (V1 V2 : Nat → Int) (x y : Int) (h1 : V1 8 = 0) (h2 : V2 8 = 0) : closeV V1 V2 x y = 0 := by
  unfold closeV spX spY; rw [if_pos h1, if_pos h1, if_pos h2, if_pos h2]; simp [fc, clampZ]
theorem push_bd (V1 V2 : Nat → Int) (x y : Int) (bo : Bool) (a0 : 0 ≤ V1 8 ∧ V1 8 ≤ 1000) (a1 : 0 ≤ V2 8 ∧ V2 8 ≤ 1000) (b6 : -20000000 ≤ V1 6 ∧ V1 6 ≤ 20000000) (b7 : -20000000 ≤ V1 7 ∧ V1 7 ≤ 20000000) (d6 : -20000000 ≤ V2 6 ∧ V2 6 ≤ 20000000) (d7 : -20000000 ≤ V2 7 ∧ V2 7 ≤ 20000000) (bx : -256 ≤ x ∧ x ≤ 256) (bY : -256 ≤ y ∧ y ≤ 256)
    (e9 : 0 ≤ V1 9 ∧ V1 9 ≤ 256) (f9 : 0 ≤ V2 9 ∧ V2 9 ≤ 256) (e10 : 0 ≤ V1 10 ∧ V1 10 ≤ 256) (f10 : 0 ≤ V2 10 ∧ V2 10 ≤ 256) (hc : 0 < closeV V1 V2 x y) :
    closeV V1 V2 x y ≤ 100000000 ∧ (0 ≤ mxB V1 V2 ∧ mxB V1 V2 ≤ 256) ∧ (0 ≤ mnR V1 V2 ∧ mnR V1 V2 ≤ 256) ∧ (0 < pN V1 V2 x y bo ∧ pN V1 V2 x y bo ≤ 200000000) ∧ (0 ≤ pP V1 V2 x y bo ∧ pP V1 V2 x y bo ≤ 200000000000000) ∧ (-100000000 ≤ pD V1 V2 x y ∧ pD V1 V2 x y ≤ 100000000) ∧ (-100000000000000 ≤ togV V1 V2 (pD V1 V2 x y) ∧ togV V1 V2 (pD V1 V2 x y) ≤ 100000000000000) ∧ (0 ≤ pM V1 V2 x y bo ∧ pM V1 V2 x y bo ≤ 200000000000000) ∧ (-200000000000000 ≤ pA V1 V2 x y bo ∧ pA V1 V2 x y bo ≤ 200000000000000) := by
  have sx1 := spX_bd V1 b6
  have sy1 := spY_bd V1 b7
  have sx2 := spX_bd V2 d6
  have sy2 := spY_bd V2 d7
  have hcb : -80000000 ≤ closeV V1 V2 x y ∧ closeV V1 V2 x y ≤ 80000000 := dot_bd (by omega) (by omega) bx bY
  have hD : -80000000 ≤ pD V1 V2 x y ∧ pD V1 V2 x y ≤ 80000000 := dot_bd (by omega) (by omega) (by omega) bx
  have hB : 0 ≤ mxB V1 V2 ∧ mxB V1 V2 ≤ 256 := by unfold mxB; split <;> omega
  have hR : 0 ≤ mnR V1 V2 ∧ mnR V1 V2 ≤ 256 := by unfold mnR; split <;> omega
  have hN : 0 < pN V1 V2 x y bo ∧ pN V1 V2 x y bo ≤ 160000000 := by
    have q := mul_bd (a := closeV V1 V2 x y) (b := mxB V1 V2) (A := 80000000) (B := 256) (by omega) (by omega)
    have q1 := td256q (x := closeV V1 V2 x y * mxB V1 V2) (B := 80000000) (by omega)
    have q2 := td256p (x := closeV V1 V2 x y * mxB V1 V2) (Int.mul_nonneg (by omega) hB.1)
    unfold pN; cases bo
    · simp only [cond_false]; omega
    · simp only [cond_true]; omega
  have hP : 0 ≤ pP V1 V2 x y bo ∧ pP V1 V2 x y bo ≤ 160000000000000 := by
    have q := togV_bd V1 V2 (pN V1 V2 x y bo) 160000000 a0 a1 (by omega) (by omega)
    have q2 := togV_nn V1 V2 (pN V1 V2 x y bo) a0.1 a1.1 (by omega)
    unfold pP; omega
  have hT := togV_bd V1 V2 (pD V1 V2 x y) 80000000 a0 a1 hD (by omega)
  have hM : 0 ≤ pM V1 V2 x y bo ∧ pM V1 V2 x y bo ≤ 160000000000000 := by
    have q := mul_bd (a := pP V1 V2 x y bo) (b := mnR V1 V2) (A := 160000000000000) (B := 256) (by omega) (by omega)
    have q1 := td256q (x := pP V1 V2 x y bo * mnR V1 V2) (B := 160000000000000) (by omega)
    have q2 := td256p (x := pP V1 V2 x y bo * mnR V1 V2) (Int.mul_nonneg hP.1 hR.1)
    unfold pM; omega
  have hA := clampZ_bd (l := pM V1 V2 x y bo) (togV V1 V2 (pD V1 V2 x y)) hM.1
  have hA' : -200000000000000 ≤ pA V1 V2 x y bo ∧ pA V1 V2 x y bo ≤ 200000000000000 := by unfold pA; omega
  exact ⟨by omega, hB, hR, by omega, by omega, by omega, by omega, by omega, hA'⟩
end Go.Proofs.Ytflgmpppnobogaa
