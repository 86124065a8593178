/- What two bodies push each other by, by the specification: any two. Two ways held against each other. The numbers of one block. Whether a push leaves both bodies within limits, by the specification. -/
import Derived.Test.YtejminehbnebmaaGreatSPdk
import Derived.Deep.RegionHeld3
import Derived.Deep.DeepCutAuto
import Derived.Test.YtejminehbnebmaaGreatB3
import Derived.Test.YtejminehbnebmaaGreatB2
namespace Go.Proofs.YtejminehbnebmaaGreat
open Go.RowKit
set_option linter.unusedVariables false
set_option linter.unusedSimpArgs false
theorem td256q {x B : Int} (h : -(B * 256) ≤ x ∧ x ≤ B * 256) : -B ≤ x.tdiv 256 ∧ x.tdiv 256 ≤ B := by
  have e := Int.mul_tdiv_add_tmod x 256
  have a := Int.tmod_lt_of_pos x (show (0 : Int) < 256 by decide)
  have b : -256 < x.tmod 256 := Int.lt_tmod_of_pos x (by decide)
  omega
theorem td256p {x : Int} (h : 0 ≤ x) : 0 ≤ x.tdiv 256 := Int.tdiv_nonneg h (by decide)
theorem dot_bd {u v x y : Int} (hu : -40000000 ≤ u ∧ u ≤ 40000000) (hv : -40000000 ≤ v ∧ v ≤ 40000000) (bx : -256 ≤ x ∧ x ≤ 256) (bY : -256 ≤ y ∧ y ≤ 256) : -80000000 ≤ fc ((u * x + v * y).tdiv 256) ∧ fc ((u * x + v * y).tdiv 256) ≤ 80000000 := by
  have p := mul_bd (a := u) (b := x) (A := 40000000) (B := 256) hu bx
  have q := mul_bd (a := v) (b := y) (A := 40000000) (B := 256) hv bY
  have t := td256q (x := u * x + v * y) (B := 80000000) (by omega)
  rw [fc_id (by omega) (by omega)]; exact t
def mxB (V1 V2 : Nat → Int) : Int := if V1 9 < V2 9 then V2 9 else V1 9
def mnR (V1 V2 : Nat → Int) : Int := if V2 10 < V1 10 then V2 10 else V1 10
def pN (V1 V2 : Nat → Int) (x y : Int) (bo : Bool) : Int := bif bo then closeV V1 V2 x y + (closeV V1 V2 x y * mxB V1 V2).tdiv 256 else closeV V1 V2 x y
def pP (V1 V2 : Nat → Int) (x y : Int) (bo : Bool) : Int := togV V1 V2 (pN V1 V2 x y bo)
def pD (V1 V2 : Nat → Int) (x y : Int) : Int := fc (((spX V1 - spX V2) * (-y) + (spY V1 - spY V2) * x).tdiv 256)
def pM (V1 V2 : Nat → Int) (x y : Int) (bo : Bool) : Int := (pP V1 V2 x y bo * mnR V1 V2).tdiv 256
def pA (V1 V2 : Nat → Int) (x y : Int) (bo : Bool) : Int := clampZ (pM V1 V2 x y bo) (togV V1 V2 (pD V1 V2 x y))
def puX (V1 V2 : Nat → Int) (x y : Int) (bo : Bool) : Int := if closeV V1 V2 x y ≤ 0 then 0 else clampZ 20000000 ((pP V1 V2 x y bo * x + pA V1 V2 x y bo * (-y)).tdiv 256)
def puY (V1 V2 : Nat → Int) (x y : Int) (bo : Bool) : Int := if closeV V1 V2 x y ≤ 0 then 0 else clampZ 20000000 ((pP V1 V2 x y bo * y + pA V1 V2 x y bo * x).tdiv 256)
theorem togV_nn (V1 V2 : Nat → Int) (n : Int) (a0 : 0 ≤ V1 8) (a1 : 0 ≤ V2 8) (h : 0 ≤ n) : 0 ≤ togV V1 V2 n := by
  unfold togV; split
  · exact Int.mul_nonneg h (by omega)
  · exact Int.tdiv_nonneg (Int.mul_nonneg (Int.mul_nonneg h a0) a1) (by omega)
theorem close_fixed (V1 V2 : Nat → Int) (x y : Int) (h1 : V1 8 = 0) (h2 : V2 8 = 0) : closeV V1 V2 x y = 0 := by
  unfold closeV spX spY; rw [if_pos h1, if_pos h1, if_pos h2, if_pos h2]; simp [fc, clampZ]
theorem push_bd (V1 V2 : Nat → Int) (x y : Int) (bo : Bool) (a0 : 0 ≤ V1 8 ∧ V1 8 ≤ 1000) (a1 : 0 ≤ V2 8 ∧ V2 8 ≤ 1000) (b6 : -20000000 ≤ V1 6 ∧ V1 6 ≤ 20000000) (b7 : -20000000 ≤ V1 7 ∧ V1 7 ≤ 20000000) (d6 : -20000000 ≤ V2 6 ∧ V2 6 ≤ 20000000) (d7 : -20000000 ≤ V2 7 ∧ V2 7 ≤ 20000000) (bx : -256 ≤ x ∧ x ≤ 256) (bY : -256 ≤ y ∧ y ≤ 256)
    (e9 : 0 ≤ V1 9 ∧ V1 9 ≤ 256) (f9 : 0 ≤ V2 9 ∧ V2 9 ≤ 256) (e10 : 0 ≤ V1 10 ∧ V1 10 ≤ 256) (f10 : 0 ≤ V2 10 ∧ V2 10 ≤ 256) (hc : 0 < closeV V1 V2 x y) :
    closeV V1 V2 x y ≤ 100000000 ∧ (0 ≤ mxB V1 V2 ∧ mxB V1 V2 ≤ 256) ∧ (0 ≤ mnR V1 V2 ∧ mnR V1 V2 ≤ 256) ∧ (0 < pN V1 V2 x y bo ∧ pN V1 V2 x y bo ≤ 200000000) ∧ (0 ≤ pP V1 V2 x y bo ∧ pP V1 V2 x y bo ≤ 200000000000000) ∧ (-100000000 ≤ pD V1 V2 x y ∧ pD V1 V2 x y ≤ 100000000) ∧ (-100000000000000 ≤ togV V1 V2 (pD V1 V2 x y) ∧ togV V1 V2 (pD V1 V2 x y) ≤ 100000000000000) ∧ (0 ≤ pM V1 V2 x y bo ∧ pM V1 V2 x y bo ≤ 200000000000000) ∧ (-200000000000000 ≤ pA V1 V2 x y bo ∧ pA V1 V2 x y bo ≤ 200000000000000) := by
  have sx1 := spX_bd V1 b6
  have sy1 := spY_bd V1 b7
  have sx2 := spX_bd V2 d6
  have sy2 := spY_bd V2 d7
  have hcb : -80000000 ≤ closeV V1 V2 x y ∧ closeV V1 V2 x y ≤ 80000000 := dot_bd (by omega) (by omega) bx bY
  have hD : -80000000 ≤ pD V1 V2 x y ∧ pD V1 V2 x y ≤ 80000000 := dot_bd (by omega) (by omega) (by omega) bx
  have hB : 0 ≤ mxB V1 V2 ∧ mxB V1 V2 ≤ 256 := by unfold mxB; split <;> omega
  have hR : 0 ≤ mnR V1 V2 ∧ mnR V1 V2 ≤ 256 := by unfold mnR; split <;> omega
  have hN : 0 < pN V1 V2 x y bo ∧ pN V1 V2 x y bo ≤ 160000000 := by
    have q := mul_bd (a := closeV V1 V2 x y) (b := mxB V1 V2) (A := 80000000) (B := 256) (by omega) (by omega)
    have q1 := td256q (x := closeV V1 V2 x y * mxB V1 V2) (B := 80000000) (by omega)
    have q2 := td256p (x := closeV V1 V2 x y * mxB V1 V2) (Int.mul_nonneg (by omega) hB.1)
    unfold pN; cases bo
    · simp only [cond_false]; omega
    · simp only [cond_true]; omega
  have hP : 0 ≤ pP V1 V2 x y bo ∧ pP V1 V2 x y bo ≤ 160000000000000 := by
    have q := togV_bd V1 V2 (pN V1 V2 x y bo) 160000000 a0 a1 (by omega) (by omega)
    have q2 := togV_nn V1 V2 (pN V1 V2 x y bo) a0.1 a1.1 (by omega)
    unfold pP; omega
  have hT := togV_bd V1 V2 (pD V1 V2 x y) 80000000 a0 a1 hD (by omega)
  have hM : 0 ≤ pM V1 V2 x y bo ∧ pM V1 V2 x y bo ≤ 160000000000000 := by
    have q := mul_bd (a := pP V1 V2 x y bo) (b := mnR V1 V2) (A := 160000000000000) (B := 256) (by omega) (by omega)
    have q1 := td256q (x := pP V1 V2 x y bo * mnR V1 V2) (B := 160000000000000) (by omega)
    have q2 := td256p (x := pP V1 V2 x y bo * mnR V1 V2) (Int.mul_nonneg hP.1 hR.1)
    unfold pM; omega
  have hA := clampZ_bd (l := pM V1 V2 x y bo) (togV V1 V2 (pD V1 V2 x y)) hM.1
  have hA' : -200000000000000 ≤ pA V1 V2 x y bo ∧ pA V1 V2 x y bo ≤ 200000000000000 := by unfold pA; omega
  exact ⟨by omega, hB, hR, by omega, by omega, by omega, by omega, by omega, hA'⟩
set_option maxRecDepth 20000 in
set_option maxHeartbeats 8000000 in
theorem l8Push_z (V1 V2 : Nat → Int) (x y k c : Int) (bo : Bool) (w : World) (b6 : -20000000 ≤ V1 6 ∧ V1 6 ≤ 20000000) (b7 : -20000000 ≤ V1 7 ∧ V1 7 ≤ 20000000) (d6 : -20000000 ≤ V2 6 ∧ V2 6 ≤ 20000000) (d7 : -20000000 ≤ V2 7 ∧ V2 7 ≤ 20000000) (bx : -256 ≤ x ∧ x ≤ 256) (bY : -256 ≤ y ∧ y ≤ 256) (ec : closeV V1 V2 x y = c) (hc : c ≤ 0) :
    Calls Tryz.prog 45 #[bodyW V1, bodyW V2, s3 x y k, .bool bo] w fun e w' => e = .returned (vv 0 0) ∧ Below w.heap.size w w' := by
  have hset := cset_map
  go_enter Tryz.func45, Tryz.ntmps45
  go_wp2_with (go_at_call 65; refine (l8Closing_q V1 V2 x y k _ _ (by omega) (by omega) (by omega) (by omega) (by omega) (by omega) (by with_reducible assumption)).mono ?_; rintro e w1 ⟨rfl, hb1⟩; obtain ⟨hc1, hf1⟩ := bcell hb1; have hz1 := hb1.size; (try simp only [World.size_drew, World.size_alloc, World.size_setCell] at hc1 hf1 hz1); have hk1x0 := fun o => hc1 (w.heap.size) o (by omega); have hj1x0 := fun o => hf1 (w.heap.size) o (by omega); have hq1x0 : w.heap.size < w1.heap.size := (by omega); have hk1x1 := fun o => hc1 (w.heap.size + 1) o (by omega); have hj1x1 := fun o => hf1 (w.heap.size + 1) o (by omega); have hq1x1 : w.heap.size + 1 < w1.heap.size := (by omega); have hk1x2 := fun o => hc1 (w.heap.size + 1 + 1) o (by omega); have hj1x2 := fun o => hf1 (w.heap.size + 1 + 1) o (by omega); have hq1x2 : w.heap.size + 1 + 1 < w1.heap.size := (by omega); have hk1x3 := fun o => hc1 (w.heap.size + 1 + 1 + 1) o (by omega); have hj1x3 := fun o => hf1 (w.heap.size + 1 + 1 + 1) o (by omega); have hq1x3 : w.heap.size + 1 + 1 + 1 < w1.heap.size := (by omega); clear hc1 hf1)
  exact bodyPost_ret (v := vv 0 0) (by simp [results, Tryz.results45, go_sem, *]) rfl ⟨rfl, bel_a⟩
theorem l8Push_any (V1 V2 : Nat → Int) (x y k : Int) (bo : Bool) (w : World) (a0 : 0 ≤ V1 8 ∧ V1 8 ≤ 1000) (a1 : 0 ≤ V2 8 ∧ V2 8 ≤ 1000) (b6 : -20000000 ≤ V1 6 ∧ V1 6 ≤ 20000000) (b7 : -20000000 ≤ V1 7 ∧ V1 7 ≤ 20000000) (d6 : -20000000 ≤ V2 6 ∧ V2 6 ≤ 20000000) (d7 : -20000000 ≤ V2 7 ∧ V2 7 ≤ 20000000) (bx : -256 ≤ x ∧ x ≤ 256) (bY : -256 ≤ y ∧ y ≤ 256) (e9 : 0 ≤ V1 9 ∧ V1 9 ≤ 256) (f9 : 0 ≤ V2 9 ∧ V2 9 ≤ 256) (e10 : 0 ≤ V1 10 ∧ V1 10 ≤ 256) (f10 : 0 ≤ V2 10 ∧ V2 10 ≤ 256) :
    Calls Tryz.prog 45 #[bodyW V1, bodyW V2, s3 x y k, .bool bo] w fun e w' => e = .returned (vv (puX V1 V2 x y bo) (puY V1 V2 x y bo)) ∧ Below w.heap.size w w' := by
  by_cases hc : closeV V1 V2 x y ≤ 0
  · unfold puX puY; rw [if_pos hc, if_pos hc]
    exact l8Push_z V1 V2 x y k _ bo w b6 b7 d6 d7 bx bY rfl hc
  · unfold puX puY; rw [if_neg hc, if_neg hc]
    have hz : (V1 8 = 0 ∧ V2 8 = 0) = False := eq_false (fun ⟨u, v⟩ => hc (by rw [close_fixed V1 V2 x y u v]; omega))
    obtain ⟨q1, q2, q3, q4, q5, q6, q7, q8, q9⟩ := push_bd V1 V2 x y bo a0 a1 b6 b7 d6 d7 bx bY e9 f9 e10 f10 (by omega)
    cases bo
    · exact l8Push_f V1 V2 x y k (mxB V1 V2) (mnR V1 V2) (closeV V1 V2 x y) (pN V1 V2 x y false) (pP V1 V2 x y false) (pD V1 V2 x y) (togV V1 V2 (pD V1 V2 x y)) (pM V1 V2 x y false) (pA V1 V2 x y false) w a0 a1 b6 b7 d6 d7 bx bY rfl rfl rfl rfl rfl rfl rfl rfl rfl ⟨by omega, q1⟩ q2 q3 q4 q5 q6 q7 q8 q9 hz
    · exact l8Push_t V1 V2 x y k (mxB V1 V2) (mnR V1 V2) (closeV V1 V2 x y) (pN V1 V2 x y true) (pP V1 V2 x y true) (pD V1 V2 x y) (togV V1 V2 (pD V1 V2 x y)) (pM V1 V2 x y true) (pA V1 V2 x y true) w a0 a1 b6 b7 d6 d7 bx bY rfl rfl rfl rfl rfl rfl rfl rfl rfl ⟨by omega, q1⟩ q2 q3 q4 q5 q6 q7 q8 q9 hz
def poX (V1 V2 : Nat → Int) (x y k : Int) (bo : Bool) : Int := if (bodyB V1 && (bodyB V2 && hitB x y k)) = true then puX V1 V2 x y bo else 0
def poY (V1 V2 : Nat → Int) (x y k : Int) (bo : Bool) : Int := if (bodyB V1 && (bodyB V2 && hitB x y k)) = true then puY V1 V2 x y bo else 0

end Go.Proofs.YtejminehbnebmaaGreat
namespace Go.Proofs.YtejminehbnebmaaGreat
open Go.RowKit
set_option linter.unusedVariables false
set_option linter.unusedSimpArgs false
theorem run_eq_vec (n d : Nat) (hn : n = d + 1) (a b x y : Int) (w : World) : (Op.equalIn (n + 1) 41 (.agg #[.int .i64 a, .int .i64 b]) (.agg #[.int .i64 x, .int .i64 y])).run Tryz.prog w = .ok (a == x && b == y) w := by
  have hi : Tryz.prog.underlying 3 = some (.int .i64) := by kernel_rfl
  have hs : Tryz.prog.stoodInHeld 41 = false := by kernel_rfl
  have hp : ∀ w, (program).run Tryz.prog w = .ok Tryz.prog w := fun w => by rfl
  have p0 : ∀ (a b : Int) w, (part 3 #[.int .i64 a, .int .i64 b] 0).run Tryz.prog w = .ok (.int .i64 a) w := fun a b w => by kernel_rfl
  have p1 : ∀ (a b : Int) w, (part 3 #[.int .i64 a, .int .i64 b] 1).run Tryz.prog w = .ok (.int .i64 b) w := fun a b w => by kernel_rfl
  simp only [Op.equalIn, Sem.run_bind, run_underlying Tryz.underlying41, Result.andThen_ok, hp, hs, Bool.false_eq_true, if_false, Sem.run_pure]
  subst hn
  have h0 : ∀ w, (Op.equalIn (d + 1) 3 (.int .i64 a) (.int .i64 x)).run Tryz.prog w = .ok (a == x) w := fun w => run_equalIn_int w d 3 .i64 .i64 a x hi
  have h1 : ∀ w, (Op.equalIn (d + 1) 3 (.int .i64 b) (.int .i64 y)).run Tryz.prog w = .ok (b == y) w := fun w => run_equalIn_int w d 3 .i64 .i64 b y hi
  simp only [List.forIn_toArray, List.forIn_cons, List.forIn_nil, Sem.run_bind, p0, h0, Result.andThen_ok, Sem.run_ite, Sem.run_pure]
  cases hx : (a == x) <;> cases hy : (b == y) <;> simp [Sem.run_bind, p0, p1, h0, h1, Sem.run_ite, hx, hy]
theorem eq_vec0 (a b x y : Int) (w : World) : (Op.equalIn 10000 41 (.agg #[.int .i64 a, .int .i64 b]) (.agg #[.int .i64 x, .int .i64 y])).run Tryz.prog w = .ok (a == x && b == y) w := run_eq_vec 9999 9998 rfl a b x y w
end Go.Proofs.YtejminehbnebmaaGreat
namespace Go.Proofs.YtejminehbnebmaaGreat
open Go.RowKit
set_option linter.unusedVariables false
set_option linter.unusedSimpArgs false
/-- block b holds the k numbers of V, and may be written to -/
structure Nb (w : World) (b k : Nat) (V : Nat → Int) : Prop where
  c : ∀ j, j < k → w.cell? ⟨b, j, none⟩ = some (.int .i64 (V j))
  f : ∀ o, w.frozen? ⟨b, o, none⟩ = false
  l : b < w.heap.size
theorem Nb.on {w w' : World} {b k : Nat} {V : Nat → Int} (h : Nb w b k V) (hb : Below w.heap.size w w') : Nb w' b k V :=
  ⟨fun j hj => (hb.cell (p := ⟨b, j, none⟩) h.l).trans (h.c j hj), fun o => (hb.frozen (p := ⟨b, o, none⟩) h.l).trans (h.f o), Nat.lt_of_lt_of_le h.l hb.size⟩
theorem Nb.fr {w w' : World} {b k : Nat} {V : Nat → Int} {X : Nat → Prop} (h : Nb w b k V) (hs : Fr X w w') (hx : ¬ X b) : Nb w' b k V :=
  ⟨fun j hj => (hs.cell (p := ⟨b, j, none⟩) h.l hx).trans (h.c j hj), fun o => (hs.frozen (p := ⟨b, o, none⟩) h.l hx).trans (h.f o), Nat.lt_of_lt_of_le h.l hs.size⟩
theorem Nb.dr {w : World} {b k : Nat} {V : Nat → Int} (h : Nb w b k V) : Nb w.drew b k V := ⟨fun j hj => h.c j hj, fun o => h.f o, h.l⟩
theorem Nb.congr {w : World} {b k : Nat} {V W : Nat → Int} (h : Nb w b k V) (e : ∀ j, j < k → V j = W j) : Nb w b k W := ⟨fun j hj => by rw [← e j hj]; exact h.c j hj, h.f, h.l⟩
theorem Nb.set {w : World} {b k : Nat} {V : Nat → Int} (h : Nb w b k V) (j : Nat) (hj : j < k) (x : Int) : Nb (w.setCell ⟨b, j, none⟩ (.int .i64 x)) b k (fun i => if i = j then x else V i) := by
  have h1 := h.c j hj
  refine ⟨fun i hi => ?_, fun o => ?_, by simp; exact h.l⟩
  · by_cases e : i = j
    · subst e; rw [if_pos rfl]; exact World.cell?_setCell_same _ _ _ h1
    · rw [if_neg e, World.cell?_setCell_other _ _ _ _ (by intro h; simp only [Addr.mk.injEq] at h; omega)]; exact h.c i hi
  · have := h.f o; simp [this]
end Go.Proofs.YtejminehbnebmaaGreat
namespace Go.Proofs.YtejminehbnebmaaGreat
open Go.RowKit
set_option linter.unusedVariables false
set_option linter.unusedSimpArgs false
def fitsB (V W : Nat → Int) (p q : Int) : Bool := (decide (V 8 = 0) || inB 20000000 (V 6 - p) (V 7 - q)) && (decide (W 8 = 0) || inB 20000000 (W 6 + p) (W 7 + q))
set_option maxRecDepth 20000 in
set_option maxHeartbeats 8000000 in
theorem l8Fits_q (V W : Nat → Int) (p q : Int) (b : Bool) (w : World) (b6 : -20000000 ≤ V 6 ∧ V 6 ≤ 20000000) (b7 : -20000000 ≤ V 7 ∧ V 7 ≤ 20000000) (d6 : -20000000 ≤ W 6 ∧ W 6 ≤ 20000000) (d7 : -20000000 ≤ W 7 ∧ W 7 ≤ 20000000) (bp : -20000000 ≤ p ∧ p ≤ 20000000) (bq : -20000000 ≤ q ∧ q ≤ 20000000) (e : fitsB V W p q = b) :
    Calls Tryz.prog 46 #[bodyW V, bodyW W, vv p q] w fun e w' => e = .returned (.bool b) ∧ Below w.heap.size w w' := by
  have hset := cset_map
  have w1 : IntKind.i64.wrap (V 6 - p) = V 6 - p := i64w (by omega)
  have w2 : IntKind.i64.wrap (V 7 - q) = V 7 - q := i64w (by omega)
  have w3 : IntKind.i64.wrap (W 6 + p) = W 6 + p := i64w (by omega)
  have w4 : IntKind.i64.wrap (W 7 + q) = W 7 + q := i64w (by omega)
  clear b6 b7 d6 d7 bp bq
  obtain ⟨D1, hD1⟩ : ∃ b, inB 20000000 (V 6 - p) (V 7 - q) = b := ⟨_, rfl⟩
  obtain ⟨D2, hD2⟩ : ∃ b, inB 20000000 (W 6 + p) (W 7 + q) = b := ⟨_, rfl⟩
  unfold fitsB at e
  rw [hD1, hD2] at e
  by_cases m0 : V 8 = 0
  · have e1 : (V 8 == 0) = true := by simp [m0]
    by_cases m1 : W 8 = 0
    · have e2 : (W 8 == 0) = true := by simp [m1]
      have hb : b = true := by rw [← e]; rw [decide_eq_true m0, decide_eq_true m1]; rfl
      subst hb
      clear e
      have M0 : Shut (V 8 = 0) := m0
      clear m0
      have M1 : Shut (W 8 = 0) := m1
      clear m1
      go_enter Tryz.func46, Tryz.ntmps46
      go_wp2_with fail
      go_ret
      exact ⟨rfl, bel_a⟩
    · have e2 : (W 8 == 0) = false := by simp [m1]
      have hb : b = D2 := by rw [← e]; rw [decide_eq_true m0, decide_eq_false m1]; rfl
      rw [hb]
      clear e hb
      have M0 : Shut (V 8 = 0) := m0
      clear m0
      go_enter Tryz.func46, Tryz.ntmps46
      go_wp2_with (go_at_call 44; refine (l6Drive_q (W 6 + p) (W 7 + q) D2 _ hD2).mono ?_; rintro e w6 ⟨rfl, hb6⟩; obtain ⟨hc6, hf6⟩ := bcell hb6; have hz6 := hb6.size; (try simp only [World.size_drew, World.size_alloc, World.size_setCell] at hc6 hf6 hz6); have hk6x0 := fun o => hc6 (w.heap.size) o (by omega); have hj6x0 := fun o => hf6 (w.heap.size) o (by omega); have hq6x0 : w.heap.size < w6.heap.size := (by omega); have hk6x1 := fun o => hc6 (w.heap.size + 1) o (by omega); have hj6x1 := fun o => hf6 (w.heap.size + 1) o (by omega); have hq6x1 : w.heap.size + 1 < w6.heap.size := (by omega); have hk6x2 := fun o => hc6 (w.heap.size + 1 + 1) o (by omega); have hj6x2 := fun o => hf6 (w.heap.size + 1 + 1) o (by omega); have hq6x2 : w.heap.size + 1 + 1 < w6.heap.size := (by omega); have hk6x3 := fun o => hc6 (w.heap.size + 1 + 1 + 1) o (by omega); have hj6x3 := fun o => hf6 (w.heap.size + 1 + 1 + 1) o (by omega); have hq6x3 : w.heap.size + 1 + 1 + 1 < w6.heap.size := (by omega); have hk6x4 := fun o => hc6 (w.heap.size + 1 + 1 + 1 + 1) o (by omega); have hj6x4 := fun o => hf6 (w.heap.size + 1 + 1 + 1 + 1) o (by omega); have hq6x4 : w.heap.size + 1 + 1 + 1 + 1 < w6.heap.size := (by omega); clear hc6 hf6)
      go_ret
      exact ⟨by first | rfl | simp, bel_a⟩
  · have e1 : (V 8 == 0) = false := by simp [m0]
    cases D1 with
    | false =>
      have hb : b = false := by rw [← e]; rw [decide_eq_false m0]; rfl
      subst hb
      clear e
      go_enter Tryz.func46, Tryz.ntmps46
      go_wp2_with (go_at_call 44; refine (l6Drive_q (V 6 - p) (V 7 - q) false _ hD1).mono ?_; rintro e w5 ⟨rfl, hb5⟩; obtain ⟨hc5, hf5⟩ := bcell hb5; have hz5 := hb5.size; (try simp only [World.size_drew, World.size_alloc, World.size_setCell] at hc5 hf5 hz5); have hk5x0 := fun o => hc5 (w.heap.size) o (by omega); have hj5x0 := fun o => hf5 (w.heap.size) o (by omega); have hq5x0 : w.heap.size < w5.heap.size := (by omega); have hk5x1 := fun o => hc5 (w.heap.size + 1) o (by omega); have hj5x1 := fun o => hf5 (w.heap.size + 1) o (by omega); have hq5x1 : w.heap.size + 1 < w5.heap.size := (by omega); have hk5x2 := fun o => hc5 (w.heap.size + 1 + 1) o (by omega); have hj5x2 := fun o => hf5 (w.heap.size + 1 + 1) o (by omega); have hq5x2 : w.heap.size + 1 + 1 < w5.heap.size := (by omega); have hk5x3 := fun o => hc5 (w.heap.size + 1 + 1 + 1) o (by omega); have hj5x3 := fun o => hf5 (w.heap.size + 1 + 1 + 1) o (by omega); have hq5x3 : w.heap.size + 1 + 1 + 1 < w5.heap.size := (by omega); have hk5x4 := fun o => hc5 (w.heap.size + 1 + 1 + 1 + 1) o (by omega); have hj5x4 := fun o => hf5 (w.heap.size + 1 + 1 + 1 + 1) o (by omega); have hq5x4 : w.heap.size + 1 + 1 + 1 + 1 < w5.heap.size := (by omega); clear hc5 hf5)
      go_ret
      exact ⟨rfl, bel_a⟩
    | true =>
      by_cases m1 : W 8 = 0
      · have e2 : (W 8 == 0) = true := by simp [m1]
        have hb : b = true := by rw [← e]; rw [decide_eq_false m0, decide_eq_true m1]; rfl
        subst hb
        clear e
        have M1 : Shut (W 8 = 0) := m1
        clear m1
        go_enter Tryz.func46, Tryz.ntmps46
        go_wp2_with (go_at_call 44; refine (l6Drive_q (V 6 - p) (V 7 - q) true _ hD1).mono ?_; rintro e w5 ⟨rfl, hb5⟩; obtain ⟨hc5, hf5⟩ := bcell hb5; have hz5 := hb5.size; (try simp only [World.size_drew, World.size_alloc, World.size_setCell] at hc5 hf5 hz5); have hk5x0 := fun o => hc5 (w.heap.size) o (by omega); have hj5x0 := fun o => hf5 (w.heap.size) o (by omega); have hq5x0 : w.heap.size < w5.heap.size := (by omega); have hk5x1 := fun o => hc5 (w.heap.size + 1) o (by omega); have hj5x1 := fun o => hf5 (w.heap.size + 1) o (by omega); have hq5x1 : w.heap.size + 1 < w5.heap.size := (by omega); have hk5x2 := fun o => hc5 (w.heap.size + 1 + 1) o (by omega); have hj5x2 := fun o => hf5 (w.heap.size + 1 + 1) o (by omega); have hq5x2 : w.heap.size + 1 + 1 < w5.heap.size := (by omega); have hk5x3 := fun o => hc5 (w.heap.size + 1 + 1 + 1) o (by omega); have hj5x3 := fun o => hf5 (w.heap.size + 1 + 1 + 1) o (by omega); have hq5x3 : w.heap.size + 1 + 1 + 1 < w5.heap.size := (by omega); have hk5x4 := fun o => hc5 (w.heap.size + 1 + 1 + 1 + 1) o (by omega); have hj5x4 := fun o => hf5 (w.heap.size + 1 + 1 + 1 + 1) o (by omega); have hq5x4 : w.heap.size + 1 + 1 + 1 + 1 < w5.heap.size := (by omega); clear hc5 hf5)
        go_ret
        exact ⟨rfl, bel_a⟩
      · have e2 : (W 8 == 0) = false := by simp [m1]
        have hb : b = D2 := by rw [← e]; rw [decide_eq_false m0, decide_eq_false m1]; rfl
        rw [hb]
        clear e hb
        go_enter Tryz.func46, Tryz.ntmps46
        go_wp2_with (first
          | (have _ := hb5; go_at_call 44; refine (l6Drive_q (W 6 + p) (W 7 + q) D2 _ hD2).mono ?_; rintro e w6 ⟨rfl, hb6⟩; obtain ⟨hc6, hf6⟩ := bcell hb6; have hz6 := hb6.size; (try simp only [World.size_drew, World.size_alloc, World.size_setCell] at hc6 hf6 hz6); have hk6x0 := fun o => hc6 (w.heap.size) o (by omega); have hj6x0 := fun o => hf6 (w.heap.size) o (by omega); have hq6x0 : w.heap.size < w6.heap.size := (by omega); have hk6x1 := fun o => hc6 (w.heap.size + 1) o (by omega); have hj6x1 := fun o => hf6 (w.heap.size + 1) o (by omega); have hq6x1 : w.heap.size + 1 < w6.heap.size := (by omega); have hk6x2 := fun o => hc6 (w.heap.size + 1 + 1) o (by omega); have hj6x2 := fun o => hf6 (w.heap.size + 1 + 1) o (by omega); have hq6x2 : w.heap.size + 1 + 1 < w6.heap.size := (by omega); have hk6x3 := fun o => hc6 (w.heap.size + 1 + 1 + 1) o (by omega); have hj6x3 := fun o => hf6 (w.heap.size + 1 + 1 + 1) o (by omega); have hq6x3 : w.heap.size + 1 + 1 + 1 < w6.heap.size := (by omega); have hk6x4 := fun o => hc6 (w.heap.size + 1 + 1 + 1 + 1) o (by omega); have hj6x4 := fun o => hf6 (w.heap.size + 1 + 1 + 1 + 1) o (by omega); have hq6x4 : w.heap.size + 1 + 1 + 1 + 1 < w6.heap.size := (by omega); clear hc6 hf6)
          | (go_at_call 44; refine (l6Drive_q (V 6 - p) (V 7 - q) true _ hD1).mono ?_; rintro e w5 ⟨rfl, hb5⟩; obtain ⟨hc5, hf5⟩ := bcell hb5; have hz5 := hb5.size; (try simp only [World.size_drew, World.size_alloc, World.size_setCell] at hc5 hf5 hz5); have hk5x0 := fun o => hc5 (w.heap.size) o (by omega); have hj5x0 := fun o => hf5 (w.heap.size) o (by omega); have hq5x0 : w.heap.size < w5.heap.size := (by omega); have hk5x1 := fun o => hc5 (w.heap.size + 1) o (by omega); have hj5x1 := fun o => hf5 (w.heap.size + 1) o (by omega); have hq5x1 : w.heap.size + 1 < w5.heap.size := (by omega); have hk5x2 := fun o => hc5 (w.heap.size + 1 + 1) o (by omega); have hj5x2 := fun o => hf5 (w.heap.size + 1 + 1) o (by omega); have hq5x2 : w.heap.size + 1 + 1 < w5.heap.size := (by omega); have hk5x3 := fun o => hc5 (w.heap.size + 1 + 1 + 1) o (by omega); have hj5x3 := fun o => hf5 (w.heap.size + 1 + 1 + 1) o (by omega); have hq5x3 : w.heap.size + 1 + 1 + 1 < w5.heap.size := (by omega); have hk5x4 := fun o => hc5 (w.heap.size + 1 + 1 + 1 + 1) o (by omega); have hj5x4 := fun o => hf5 (w.heap.size + 1 + 1 + 1 + 1) o (by omega); have hq5x4 : w.heap.size + 1 + 1 + 1 + 1 < w5.heap.size := (by omega); clear hc5 hf5))
        go_ret
        exact ⟨by first | rfl | simp, bel_a⟩
end Go.Proofs.YtejminehbnebmaaGreat
