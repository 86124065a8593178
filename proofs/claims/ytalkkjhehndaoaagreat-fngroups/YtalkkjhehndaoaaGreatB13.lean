/- Texts of a proof. -/
import Derived.Test.YtalkkjhehndaoaaGreatB2
import Derived.Test.YtalkkjhehndaoaaGreatB1
import Derived.Test.YtalkkjhehndaoaaGreatB10
import Derived.Test.YtalkkjhehndaoaaGreatB4
import Derived.Deep.RegionHeld3
import Derived.Deep.DeepCutAuto
import Derived.Test.YtalkkjhehndaoaaGreatB12
set_option maxHeartbeats 16000000
set_option maxRecDepth 20000
namespace Go.Proofs.YtalkkjhehndaoaaGreat
open Go.RowKit
set_option linter.unusedVariables false
set_option linter.unusedSimpArgs false
def hitB (x y k : Int) : Bool := inB 256 x y && decide (0 ≤ k ∧ k ≤ 102400)
theorem spX_bd (V : Nat → Int) (h : -20000000 ≤ V 6 ∧ V 6 ≤ 20000000) : -20000000 ≤ spX V ∧ spX V ≤ 20000000 := by
 unfold spX; split
 · omega
 · exact tdiv_bd _ h
theorem spY_bd (V : Nat → Int) (h : -20000000 ≤ V 7 ∧ V 7 ≤ 20000000) : -20000000 ≤ spY V ∧ spY V ≤ 20000000 := by
 unfold spY; split
 · omega
 · exact tdiv_bd _ h
def closeV (V1 V2 : Nat → Int) (x y : Int) : Int := fc (((spX V1 - spX V2) * x + (spY V1 - spY V2) * y).tdiv 256)
def clV (V1 V2 : Nat → Int) (x y k : Int) : Int := if (bodyB V1 && (bodyB V2 && hitB x y k)) = true then closeV V1 V2 x y else 0
theorem sVecSub_q (x y u v : Int) (w : World) (hx : -20000000 ≤ x ∧ x ≤ 20000000) (hy : -20000000 ≤ y ∧ y ≤ 20000000) (hu : -20000000 ≤ u ∧ u ≤ 20000000) (hv : -20000000 ≤ v ∧ v ≤ 20000000) :
 Calls Tryz.prog 130 #[vv x y, vv u v] w fun e w' => e = .returned (vv (x - u) (y - v)) ∧ Below w.heap.size w w' := by
 have q := sVecSub_any x y u v w
 rw [fc_id (n := x) (by omega) (by omega), fc_id (n := y) (by omega) (by omega), fc_id (n := u) (by omega) (by omega), fc_id (n := v) (by omega) (by omega), fc_id (n := x - u) (by omega) (by omega), fc_id (n := y - v) (by omega) (by omega)] at q
 exact q
theorem sVecDot_q (x y u v : Int) (w : World) (hx : -40000000 ≤ x ∧ x ≤ 40000000) (hy : -40000000 ≤ y ∧ y ≤ 40000000) (hu : -256 ≤ u ∧ u ≤ 256) (hv : -256 ≤ v ∧ v ≤ 256) :
 Calls Tryz.prog 129 #[vv x y, vv u v] w fun e w' => e = .returned (.int .i64 (fc ((x * u + y * v).tdiv 256))) ∧ Below w.heap.size w w' := by
 have q := sVecDot_any x y u v w
 unfold vdot at q
 rw [fc_id (n := x) (by omega) (by omega), fc_id (n := y) (by omega) (by omega), fc_id (n := u) (by omega) (by omega), fc_id (n := v) (by omega) (by omega)] at q
 exact q
theorem l8Closing_any (V1 V2 : Nat → Int) (x y k : Int) (w : World) (b6 : -20000000 ≤ V1 6 ∧ V1 6 ≤ 20000000) (b7 : -20000000 ≤ V1 7 ∧ V1 7 ≤ 20000000) (d6 : -20000000 ≤ V2 6 ∧ V2 6 ≤ 20000000) (d7 : -20000000 ≤ V2 7 ∧ V2 7 ≤ 20000000) (bx : -256 ≤ x ∧ x ≤ 256) (bY : -256 ≤ y ∧ y ≤ 256) :
 Calls Tryz.prog 127 #[bodyW V1, bodyW V2, s3 x y k] w fun e w' => e = .returned (.int .i64 (closeV V1 V2 x y)) ∧ Below w.heap.size w w' := by
 have hset := cset_map
 have sx1 := spX_bd V1 b6
 have sy1 := spY_bd V1 b7
 have sx2 := spX_bd V2 d6
 have sy2 := spY_bd V2 d7
 go_enter Tryz.func127, Tryz.ntmps127
 go_upto_region 1 with fail
 refine wp_region_held_drew (S := fun w' => w'.cell? ⟨w.heap.size, 0, none⟩ = some (.int .i64 (V1 0)) ∧ w'.cell? ⟨w.heap.size, 1, none⟩ = some (.int .i64 (V1 1)) ∧ w'.cell? ⟨w.heap.size, 2, none⟩ = some (.int .i64 (V1 2)) ∧ w'.cell? ⟨w.heap.size, 3, none⟩ = some (.int .i64 (V1 3)) ∧ w'.cell? ⟨w.heap.size, 4, none⟩ = some (.int .i64 (V1 4)) ∧ w'.cell? ⟨w.heap.size, 5, none⟩ = some (.int .i64 (V1 5)) ∧ w'.cell? ⟨w.heap.size, 6, none⟩ = some (.int .i64 (V1 6)) ∧ w'.cell? ⟨w.heap.size, 7, none⟩ = some (.int .i64 (V1 7)) ∧ w'.cell? ⟨w.heap.size, 8, none⟩ = some (.int .i64 (V1 8)) ∧ w'.cell? ⟨w.heap.size, 9, none⟩ = some (.int .i64 (V1 9)) ∧ w'.cell? ⟨w.heap.size, 10, none⟩ = some (.int .i64 (V1 10)) ∧ w'.cell? ⟨w.heap.size, 11, none⟩ = some (.int .i64 (V1 11)) ∧ w'.cell? ⟨w.heap.size + 1, 0, none⟩ = some (.int .i64 (V2 0)) ∧ w'.cell? ⟨w.heap.size + 1, 1, none⟩ = some (.int .i64 (V2 1)) ∧ w'.cell? ⟨w.heap.size + 1, 2, none⟩ = some (.int .i64 (V2 2)) ∧ w'.cell? ⟨w.heap.size + 1, 3, none⟩ = some (.int .i64 (V2 3)) ∧ w'.cell? ⟨w.heap.size + 1, 4, none⟩ = some (.int .i64 (V2 4)) ∧ w'.cell? ⟨w.heap.size + 1, 5, none⟩ = some (.int .i64 (V2 5)) ∧ w'.cell? ⟨w.heap.size + 1, 6, none⟩ = some (.int .i64 (V2 6)) ∧ w'.cell? ⟨w.heap.size + 1, 7, none⟩ = some (.int .i64 (V2 7)) ∧ w'.cell? ⟨w.heap.size + 1, 8, none⟩ = some (.int .i64 (V2 8)) ∧ w'.cell? ⟨w.heap.size + 1, 9, none⟩ = some (.int .i64 (V2 9)) ∧ w'.cell? ⟨w.heap.size + 1, 10, none⟩ = some (.int .i64 (V2 10)) ∧ w'.cell? ⟨w.heap.size + 1, 11, none⟩ = some (.int .i64 (V2 11)) ∧ w'.cell? ⟨w.heap.size + 1 + 1, 0, none⟩ = some (.int .i64 x) ∧ w'.cell? ⟨w.heap.size + 1 + 1, 1, none⟩ = some (.int .i64 y) ∧ w'.cell? ⟨w.heap.size + 1 + 1, 2, none⟩ = some (.int .i64 k)) (by kernel_rfl) ?_ (fun hHeld => ?_)
 · (try dsimp only)
   (first | (go_simp; done) | (go_keep; done))
 refine tq 0 hHeld ?_
 refine tq 2 hHeld ?_
 refine tq 5 hHeld ?_
 refine tq 6 hHeld ?_
 (refine tc 1 fun K hK => ?_; go_simp; (go_at_call 103; refine (l6Speed_any V1 _ (by omega) (by omega)).mono ?_; rintro e w1 ⟨rfl, hb1⟩; obtain ⟨hc1, hf1⟩ := bcell hb1; have hz1 := hb1.size; (try simp only [World.size_drew, World.size_alloc, World.size_setCell] at hc1 hf1 hz1); obtain ⟨hk1x0, hj1x0, hq1x0⟩ := kfa hb1 (w.heap.size); obtain ⟨hk1x1, hj1x1, hq1x1⟩ := kfa hb1 (w.heap.size + 1); obtain ⟨hk1x2, hj1x2, hq1x2⟩ := kfa hb1 (w.heap.size + 1 + 1); clear hc1 hf1); (try go_wp2_with fail); refine tr hK (fun hHeld => ?_); clear hK K)
 (refine tc 3 fun K hK => ?_; go_simp; (go_at_call 103; refine (l6Speed_any V2 _ (by omega) (by omega)).mono ?_; rintro e w2 ⟨rfl, hb2⟩; obtain ⟨hc2, hf2⟩ := bcell hb2; have hz2 := hb2.size; (try simp only [World.size_drew, World.size_alloc, World.size_setCell] at hc2 hf2 hz2); obtain ⟨hk2x0, hj2x0, hq2x0⟩ := kfa hb2 (w.heap.size); obtain ⟨hk2x1, hj2x1, hq2x1⟩ := kfa hb2 (w.heap.size + 1); obtain ⟨hk2x2, hj2x2, hq2x2⟩ := kfa hb2 (w.heap.size + 1 + 1); clear hc2 hf2); (try go_wp2_with fail); refine tr hK (fun hHeld => ?_); clear hK K)
 (refine tc 4 fun K hK => ?_; go_simp; (go_at_call 130; refine (sVecSub_q _ _ _ _ _ (by omega) (by omega) (by omega) (by omega)).mono ?_; rintro e w3 ⟨rfl, hb3⟩; obtain ⟨hc3, hf3⟩ := bcell hb3; have hz3 := hb3.size; (try simp only [World.size_drew, World.size_alloc, World.size_setCell] at hc3 hf3 hz3); obtain ⟨hk3x0, hj3x0, hq3x0⟩ := kfa hb3 (w.heap.size); obtain ⟨hk3x1, hj3x1, hq3x1⟩ := kfa hb3 (w.heap.size + 1); obtain ⟨hk3x2, hj3x2, hq3x2⟩ := kfa hb3 (w.heap.size + 1 + 1); clear hc3 hf3); (try go_wp2_with fail); refine tr hK (fun hHeld => ?_); clear hK K)
 (refine tc 7 fun K hK => ?_; go_simp; (go_at_call 129; refine (sVecDot_q _ _ _ _ _ (by omega) (by omega) (by omega) (by omega)).mono ?_; rintro e w4 ⟨rfl, hb4⟩; obtain ⟨hc4, hf4⟩ := bcell hb4; have hz4 := hb4.size; (try simp only [World.size_drew, World.size_alloc, World.size_setCell] at hc4 hf4 hz4); obtain ⟨hk4x0, hj4x0, hq4x0⟩ := kfa hb4 (w.heap.size); obtain ⟨hk4x1, hj4x1, hq4x1⟩ := kfa hb4 (w.heap.size + 1); obtain ⟨hk4x2, hj4x2, hq4x2⟩ := kfa hb4 (w.heap.size + 1 + 1); clear hc4 hf4); (try go_wp2_with fail); refine tr hK (fun hHeld => ?_); clear hK K)
 refine tq 8 hHeld ?_
 refine wpAnyH_done (by kernel_rfl) ?_ _
 go_wp2_with fail
 go_ret
 exact ⟨rfl, bel_a⟩
def togV (V1 V2 : Nat → Int) (n : Int) : Int := if V1 8 = 0 ∨ V2 8 = 0 then n * (V1 8 + V2 8) else (n * V1 8 * V2 8).tdiv (V1 8 + V2 8)
theorem l8Mass_q (V1 V2 : Nat → Int) (n P : Int) (w : World) (a0 : 0 ≤ V1 8 ∧ V1 8 ≤ 1000) (a1 : 0 ≤ V2 8 ∧ V2 8 ≤ 1000) (bn : -1000000000 ≤ n ∧ n ≤ 1000000000) (eP : togV V1 V2 n = P) :
 Calls Tryz.prog 128 #[bodyW V1, bodyW V2, .int .i64 n] w fun e w' => e = .returned (.int .i64 P) ∧ Below w.heap.size w w' := by
 have hset := cset_map
 subst eP
 have p1 := mul_bd (a := n) (b := V1 8 + V2 8) (A := 1000000000) (B := 2000) (by omega) (by omega)
 have p2 := mul_bd (a := n) (b := V1 8) (A := 1000000000) (B := 1000) (by omega) (by omega)
 have p3 := mul_bd (a := n * V1 8) (b := V2 8) (A := 1000000000000) (B := 1000) (by omega) (by omega)
 have p4 := mul_bd (a := n) (b := V2 8) (A := 1000000000) (B := 1000) (by omega) (by omega)
 have p5 := tdiv_bd (x := n * V1 8 * V2 8) (B := 1000000000000000) (V1 8 + V2 8) (by omega)
 unfold togV
 by_cases z1 : V1 8 = 0
 · have e1 : (if V1 8 = 0 ∨ V2 8 = 0 then n * (V1 8 + V2 8) else (n * V1 8 * V2 8).tdiv (V1 8 + V2 8)) = n * V2 8 := by rw [if_pos (.inl z1), z1, Int.zero_add]
   rw [e1]
   clear e1
   go_enter Tryz.func128, Tryz.ntmps128
   go_wp2_with fail
   go_ret
   exact ⟨rfl, bel_a⟩
 · by_cases z2 : V2 8 = 0
   · have e1 : (if V1 8 = 0 ∨ V2 8 = 0 then n * (V1 8 + V2 8) else (n * V1 8 * V2 8).tdiv (V1 8 + V2 8)) = n * V1 8 := by rw [if_pos (.inr z2), z2, Int.add_zero]
     rw [e1]
     clear e1
     go_enter Tryz.func128, Tryz.ntmps128
     go_wp2_with fail
     go_ret
     exact ⟨rfl, bel_a⟩
   · rw [if_neg (by omega)]
     have z3 : (V1 8 + V2 8 = 0) = False := eq_false (by omega)
     go_enter Tryz.func128, Tryz.ntmps128
     go_wp2_with fail
     go_ret
     exact ⟨rfl, bel_a⟩
theorem togV_bd (V1 V2 : Nat → Int) (n B : Int) (a0 : 0 ≤ V1 8 ∧ V1 8 ≤ 1000) (a1 : 0 ≤ V2 8 ∧ V2 8 ≤ 1000) (h : -B ≤ n ∧ n ≤ B) (hB : 0 ≤ B) : -(1000000 * B) ≤ togV V1 V2 n ∧ togV V1 V2 n ≤ 1000000 * B := by
 have p1 := mul_bd (a := n) (b := V1 8 + V2 8) (A := B) (B := 2000) (by omega) (by omega)
 have p2 := mul_bd (a := n) (b := V1 8) (A := B) (B := 1000) (by omega) (by omega)
 have p3 := mul_bd (a := n * V1 8) (b := V2 8) (A := B * 1000) (B := 1000) (by omega) (by omega)
 have p5 := tdiv_bd (x := n * V1 8 * V2 8) (B := B * 1000 * 1000) (V1 8 + V2 8) (by omega)
 unfold togV; split <;> omega
theorem l8Closing_q (V1 V2 : Nat → Int) (x y k c : Int) (w : World) (b6 : -20000000 ≤ V1 6 ∧ V1 6 ≤ 20000000) (b7 : -20000000 ≤ V1 7 ∧ V1 7 ≤ 20000000) (d6 : -20000000 ≤ V2 6 ∧ V2 6 ≤ 20000000) (d7 : -20000000 ≤ V2 7 ∧ V2 7 ≤ 20000000) (bx : -256 ≤ x ∧ x ≤ 256) (bY : -256 ≤ y ∧ y ≤ 256) (ec : closeV V1 V2 x y = c) :
 Calls Tryz.prog 127 #[bodyW V1, bodyW V2, s3 x y k] w fun e w' => e = .returned (.int .i64 c) ∧ Below w.heap.size w w' := by
 subst ec; exact l8Closing_any V1 V2 x y k w b6 b7 d6 d7 bx bY
theorem l3More_q (x y b : Int) (w : World) (e : (if x < y then y else x) = b) : Calls Tryz.prog 79 #[.int .i64 x, .int .i64 y] w fun e w' => e = .returned (.int .i64 b) ∧ w' = w := by
 subst e; exact l3More_any x y w
theorem l3Less_q (x y b : Int) (w : World) (e : (if y < x then y else x) = b) : Calls Tryz.prog 35 #[.int .i64 x, .int .i64 y] w fun e w' => e = .returned (.int .i64 b) ∧ w' = w := by
 subst e; exact l3Less_any x y w
theorem l6Within_w (n m a : Int) (w : World) (h0 : 0 ≤ m) (h1 : m ≤ 1000000000000000) (e : clampZ m n = a) :
 Calls Tryz.prog 51 #[.int .i64 n, .int .i64 m] w fun e w' => e = .returned (.int .i64 a) ∧ w' = w := by
 subst e
 go_enter Tryz.func51, Tryz.ntmps51
 go_wp2_with (first
  | (go_at_call 35; refine (l3Less_any _ _ _).mono ?_; rintro e w' ⟨rfl, rfl⟩)
  | (go_at_call 79; refine (l3More_any _ _ _).mono ?_; rintro e w' ⟨rfl, rfl⟩))
 go_ret
 exact ⟨ret_int (mnmx n m h0), rfl⟩
theorem sVecDot_q2 (x y u v D : Int) (w : World) (hx : -40000000 ≤ x ∧ x ≤ 40000000) (hy : -40000000 ≤ y ∧ y ≤ 40000000) (hu : -256 ≤ u ∧ u ≤ 256) (hv : -256 ≤ v ∧ v ≤ 256) (e : fc ((x * u + y * v).tdiv 256) = D) :
 Calls Tryz.prog 129 #[vv x y, vv u v] w fun e w' => e = .returned (.int .i64 D) ∧ Below w.heap.size w w' := by
 subst e; exact sVecDot_q x y u v w hx hy hu hv
theorem l8Push_t (V1 V2 : Nat → Int) (x y k : Int) (b r c n P D T M A : Int) (w : World) (a0 : 0 ≤ V1 8 ∧ V1 8 ≤ 1000) (a1 : 0 ≤ V2 8 ∧ V2 8 ≤ 1000) (b6 : -20000000 ≤ V1 6 ∧ V1 6 ≤ 20000000) (b7 : -20000000 ≤ V1 7 ∧ V1 7 ≤ 20000000) (d6 : -20000000 ≤ V2 6 ∧ V2 6 ≤ 20000000) (d7 : -20000000 ≤ V2 7 ∧ V2 7 ≤ 20000000) (bx : -256 ≤ x ∧ x ≤ 256) (bY : -256 ≤ y ∧ y ≤ 256) (ec : closeV V1 V2 x y = c) (eb : (if V1 9 < V2 9 then V2 9 else V1 9) = b) (er : (if V2 10 < V1 10 then V2 10 else V1 10) = r) (eP : togV V1 V2 n = P) (eD : fc (((spX V1 - spX V2) * (-y) + (spY V1 - spY V2) * x).tdiv 256) = D) (eS : togV V1 V2 D = T) (eM : (P * r).tdiv 256 = M) (eA : clampZ M T = A) (en : c + (c * b).tdiv 256 = n) (bc : 0 < c ∧ c ≤ 100000000) (b0 : 0 ≤ b ∧ b ≤ 256) (r0 : 0 ≤ r ∧ r ≤ 256) (bn : 0 < n ∧ n ≤ 200000000) (bP : 0 ≤ P ∧ P ≤ 200000000000000) (bD : -100000000 ≤ D ∧ D ≤ 100000000) (bT : -100000000000000 ≤ T ∧ T ≤ 100000000000000) (bM : 0 ≤ M ∧ M ≤ 200000000000000) (bA : -200000000000000 ≤ A ∧ A ≤ 200000000000000) (hz : (V1 8 = 0 ∧ V2 8 = 0) = False) :
 Calls Tryz.prog 114 #[bodyW V1, bodyW V2, s3 x y k, .bool true] w fun e w' => e = .returned (vv (clampZ 20000000 ((P * x + A * (-y)).tdiv 256)) (clampZ 20000000 ((P * y + A * x).tdiv 256))) ∧ Below w.heap.size w w' := by
 have hset := cset_map
 have m1 := mul_bd (a := c) (b := b) (A := 100000000) (B := 256) (by omega) (by omega)
 have m2 := tdiv_bd (x := c * b) (B := 25600000000) 256 (by omega)
 have m3 := mul_bd (a := P) (b := r) (A := 200000000000000) (B := 256) (by omega) (by omega)
 have m4 := mul_bd (a := P) (b := x) (A := 200000000000000) (B := 256) (by omega) (by omega)
 have m5 := mul_bd (a := P) (b := y) (A := 200000000000000) (B := 256) (by omega) (by omega)
 have m6 := mul_bd (a := A) (b := -y) (A := 200000000000000) (B := 256) (by omega) (by omega)
 have m7 := mul_bd (a := A) (b := x) (A := 200000000000000) (B := 256) (by omega) (by omega)
 have m8 := tdiv_bd (x := P * x + A * (-y)) (B := 200000000000000000) 256 (by omega)
 have m9 := tdiv_bd (x := P * y + A * x) (B := 200000000000000000) 256 (by omega)
 have w1_ : IntKind.i64.wrap (c * b) = c * b := i64w (by omega)
 have w2_ : IntKind.i64.wrap ((c * b).tdiv 256) = (c * b).tdiv 256 := i64w (by omega)
 have w3_ : IntKind.i64.wrap (c + (c * b).tdiv 256) = c + (c * b).tdiv 256 := i64w (by omega)
 have w4_ : IntKind.i64.wrap (P * r) = P * r := i64w (by omega)
 have w5_ : IntKind.i64.wrap ((P * r).tdiv 256) = M := by rw [eM]; exact i64w (by omega)
 have w6_ : IntKind.i64.wrap M = M := i64w (by omega)
 have w7_ : IntKind.i64.wrap n = n := i64w (by omega)
 have sx1 := spX_bd V1 b6
 have sy1 := spY_bd V1 b7
 have sx2 := spX_bd V2 d6
 have sy2 := spY_bd V2 d7
 have v1_ : IntKind.i64.wrap (P * x) = P * x := i64w (by omega)
 have v2_ : IntKind.i64.wrap (A * (-y)) = A * (-y) := i64w (by omega)
 have v2__ : IntKind.i64.wrap (A * -y) = A * -y := i64w (by omega)
 have v3_ : IntKind.i64.wrap (P * y) = P * y := i64w (by omega)
 have v4_ : IntKind.i64.wrap (A * x) = A * x := i64w (by omega)
 have v5_ : IntKind.i64.wrap (P * x + A * (-y)) = P * x + A * (-y) := i64w (by omega)
 have v6_ : IntKind.i64.wrap (P * y + A * x) = P * y + A * x := i64w (by omega)
 have v7_ : IntKind.i64.wrap ((P * x + A * (-y)).tdiv 256) = (P * x + A * (-y)).tdiv 256 := i64w (by omega)
 have v8_ : IntKind.i64.wrap ((P * y + A * x).tdiv 256) = (P * y + A * x).tdiv 256 := i64w (by omega)
 have hz' : ¬ (V1 8 = 0 ∧ V2 8 = 0) := fun q => by rw [hz] at q; exact q
 cases z1 : (V1 8 == 0) with
 | false =>
  go_enter Tryz.func114, Tryz.ntmps114
  go_upto_region 4 with (go_at_call 127; refine (l8Closing_q V1 V2 x y k _ _ (by omega) (by omega) (by omega) (by omega) (by omega) (by omega) (by with_reducible assumption)).mono ?_; rintro e w1 ⟨rfl, hb1⟩; obtain ⟨hc1, hf1⟩ := bcell hb1; have hz1 := hb1.size; (try simp only [World.size_drew, World.size_alloc, World.size_setCell] at hc1 hf1 hz1); obtain ⟨hk1x0, hj1x0, hq1x0⟩ := kfa hb1 (w.heap.size); obtain ⟨hk1x1, hj1x1, hq1x1⟩ := kfa hb1 (w.heap.size + 1); obtain ⟨hk1x2, hj1x2, hq1x2⟩ := kfa hb1 (w.heap.size + 1 + 1); obtain ⟨hk1x3, hj1x3, hq1x3⟩ := kfa hb1 (w.heap.size + 1 + 1 + 1); clear hc1 hf1)
  go_upto_region 9 with (first
   | (go_at_call 128; refine (l8Mass_q V1 V2 _ _ _ (by omega) (by omega) (by omega) (by with_reducible assumption)).mono ?_; rintro e w2 ⟨rfl, hb2⟩; obtain ⟨hc2, hf2⟩ := bcell hb2; have hz2 := hb2.size; (try simp only [World.size_drew, World.size_alloc, World.size_setCell] at hc2 hf2 hz2); obtain ⟨hk2x0, hj2x0, hq2x0⟩ := kfa hb2 (w.heap.size); obtain ⟨hk2x1, hj2x1, hq2x1⟩ := kfa hb2 (w.heap.size + 1); obtain ⟨hk2x2, hj2x2, hq2x2⟩ := kfa hb2 (w.heap.size + 1 + 1); obtain ⟨hk2x3, hj2x3, hq2x3⟩ := kfa hb2 (w.heap.size + 1 + 1 + 1); clear hc2 hf2)
   | (go_at_call 79; refine (l3More_q _ _ _ _ (by with_reducible assumption)).mono ?_; rintro e w' ⟨rfl, rfl⟩))
  refine wp_region_held_drew (S := fun w' => w'.cell? ⟨w.heap.size, 0, none⟩ = some (.int .i64 (V1 0)) ∧ w'.cell? ⟨w.heap.size, 1, none⟩ = some (.int .i64 (V1 1)) ∧ w'.cell? ⟨w.heap.size, 2, none⟩ = some (.int .i64 (V1 2)) ∧ w'.cell? ⟨w.heap.size, 3, none⟩ = some (.int .i64 (V1 3)) ∧ w'.cell? ⟨w.heap.size, 4, none⟩ = some (.int .i64 (V1 4)) ∧ w'.cell? ⟨w.heap.size, 5, none⟩ = some (.int .i64 (V1 5)) ∧ w'.cell? ⟨w.heap.size, 6, none⟩ = some (.int .i64 (V1 6)) ∧ w'.cell? ⟨w.heap.size, 7, none⟩ = some (.int .i64 (V1 7)) ∧ w'.cell? ⟨w.heap.size, 8, none⟩ = some (.int .i64 (V1 8)) ∧ w'.cell? ⟨w.heap.size, 9, none⟩ = some (.int .i64 (V1 9)) ∧ w'.cell? ⟨w.heap.size, 10, none⟩ = some (.int .i64 (V1 10)) ∧ w'.cell? ⟨w.heap.size, 11, none⟩ = some (.int .i64 (V1 11)) ∧ w'.cell? ⟨w.heap.size + 1, 0, none⟩ = some (.int .i64 (V2 0)) ∧ w'.cell? ⟨w.heap.size + 1, 1, none⟩ = some (.int .i64 (V2 1)) ∧ w'.cell? ⟨w.heap.size + 1, 2, none⟩ = some (.int .i64 (V2 2)) ∧ w'.cell? ⟨w.heap.size + 1, 3, none⟩ = some (.int .i64 (V2 3)) ∧ w'.cell? ⟨w.heap.size + 1, 4, none⟩ = some (.int .i64 (V2 4)) ∧ w'.cell? ⟨w.heap.size + 1, 5, none⟩ = some (.int .i64 (V2 5)) ∧ w'.cell? ⟨w.heap.size + 1, 6, none⟩ = some (.int .i64 (V2 6)) ∧ w'.cell? ⟨w.heap.size + 1, 7, none⟩ = some (.int .i64 (V2 7)) ∧ w'.cell? ⟨w.heap.size + 1, 8, none⟩ = some (.int .i64 (V2 8)) ∧ w'.cell? ⟨w.heap.size + 1, 9, none⟩ = some (.int .i64 (V2 9)) ∧ w'.cell? ⟨w.heap.size + 1, 10, none⟩ = some (.int .i64 (V2 10)) ∧ w'.cell? ⟨w.heap.size + 1, 11, none⟩ = some (.int .i64 (V2 11)) ∧ w'.cell? ⟨w2.heap.size, 0, none⟩ = some (.int .i64 (-y)) ∧ w'.cell? ⟨w2.heap.size, 1, none⟩ = some (.int .i64 x)) (by kernel_rfl) ?_ (fun hHeld => ?_)
  · (try dsimp only)
    (first | (go_simp; done) | (go_keep; done))
  refine tq 0 hHeld ?_
  refine tq 1 hHeld ?_
  refine tq 2 hHeld ?_
  refine tq 4 hHeld ?_
  refine tq 7 hHeld ?_
  (refine tc 3 fun K hK => ?_; go_simp; (go_at_call 103; refine (l6Speed_any V1 _ (by omega) (by omega)).mono ?_; rintro e w3 ⟨rfl, hb3⟩; obtain ⟨hc3, hf3⟩ := bcell hb3; have hz3 := hb3.size; (try simp only [World.size_drew, World.size_alloc, World.size_setCell] at hc3 hf3 hz3); obtain ⟨hk3x0, hj3x0, hq3x0⟩ := kfa hb3 (w.heap.size); obtain ⟨hk3x1, hj3x1, hq3x1⟩ := kfa hb3 (w.heap.size + 1); obtain ⟨hk3x2, hj3x2, hq3x2⟩ := kfa hb3 (w.heap.size + 1 + 1); obtain ⟨hk3x3, hj3x3, hq3x3⟩ := kfa hb3 (w.heap.size + 1 + 1 + 1); obtain ⟨hk3x4, hj3x4, hq3x4⟩ := kfa hb3 (w2.heap.size); clear hc3 hf3); (try go_wp2_with fail); refine tr hK (fun hHeld => ?_); clear hK K)
  (refine tc 5 fun K hK => ?_; go_simp; (go_at_call 103; refine (l6Speed_any V2 _ (by omega) (by omega)).mono ?_; rintro e w4 ⟨rfl, hb4⟩; obtain ⟨hc4, hf4⟩ := bcell hb4; have hz4 := hb4.size; (try simp only [World.size_drew, World.size_alloc, World.size_setCell] at hc4 hf4 hz4); obtain ⟨hk4x0, hj4x0, hq4x0⟩ := kfa hb4 (w.heap.size); obtain ⟨hk4x1, hj4x1, hq4x1⟩ := kfa hb4 (w.heap.size + 1); obtain ⟨hk4x2, hj4x2, hq4x2⟩ := kfa hb4 (w.heap.size + 1 + 1); obtain ⟨hk4x3, hj4x3, hq4x3⟩ := kfa hb4 (w.heap.size + 1 + 1 + 1); obtain ⟨hk4x4, hj4x4, hq4x4⟩ := kfa hb4 (w2.heap.size); clear hc4 hf4); (try go_wp2_with fail); refine tr hK (fun hHeld => ?_); clear hK K)
  (refine tc 6 fun K hK => ?_; go_simp; (go_at_call 130; refine (sVecSub_q _ _ _ _ _ (by omega) (by omega) (by omega) (by omega)).mono ?_; rintro e w5 ⟨rfl, hb5⟩; obtain ⟨hc5, hf5⟩ := bcell hb5; have hz5 := hb5.size; (try simp only [World.size_drew, World.size_alloc, World.size_setCell] at hc5 hf5 hz5); obtain ⟨hk5x0, hj5x0, hq5x0⟩ := kfa hb5 (w.heap.size); obtain ⟨hk5x1, hj5x1, hq5x1⟩ := kfa hb5 (w.heap.size + 1); obtain ⟨hk5x2, hj5x2, hq5x2⟩ := kfa hb5 (w.heap.size + 1 + 1); obtain ⟨hk5x3, hj5x3, hq5x3⟩ := kfa hb5 (w.heap.size + 1 + 1 + 1); obtain ⟨hk5x4, hj5x4, hq5x4⟩ := kfa hb5 (w2.heap.size); clear hc5 hf5); (try go_wp2_with fail); refine tr hK (fun hHeld => ?_); clear hK K)
  (refine tc 8 fun K hK => ?_; go_simp; (go_at_call 129; refine (sVecDot_q2 _ _ _ _ _ _ (by omega) (by omega) (by omega) (by omega) (by with_reducible assumption)).mono ?_; rintro e w6 ⟨rfl, hb6⟩; obtain ⟨hc6, hf6⟩ := bcell hb6; have hz6 := hb6.size; (try simp only [World.size_drew, World.size_alloc, World.size_setCell] at hc6 hf6 hz6); obtain ⟨hk6x0, hj6x0, hq6x0⟩ := kfa hb6 (w.heap.size); obtain ⟨hk6x1, hj6x1, hq6x1⟩ := kfa hb6 (w.heap.size + 1); obtain ⟨hk6x2, hj6x2, hq6x2⟩ := kfa hb6 (w.heap.size + 1 + 1); obtain ⟨hk6x3, hj6x3, hq6x3⟩ := kfa hb6 (w.heap.size + 1 + 1 + 1); obtain ⟨hk6x4, hj6x4, hq6x4⟩ := kfa hb6 (w2.heap.size); clear hc6 hf6); (try go_wp2_with fail); refine tr hK (fun hHeld => ?_); clear hK K)
  (refine tc 9 fun K hK => ?_; go_simp; (go_at_call 128; refine (l8Mass_q V1 V2 _ _ _ (by omega) (by omega) (by omega) (by with_reducible assumption)).mono ?_; rintro e w7 ⟨rfl, hb7⟩; obtain ⟨hc7, hf7⟩ := bcell hb7; have hz7 := hb7.size; (try simp only [World.size_drew, World.size_alloc, World.size_setCell] at hc7 hf7 hz7); obtain ⟨hk7x0, hj7x0, hq7x0⟩ := kfa hb7 (w.heap.size); obtain ⟨hk7x1, hj7x1, hq7x1⟩ := kfa hb7 (w.heap.size + 1); obtain ⟨hk7x2, hj7x2, hq7x2⟩ := kfa hb7 (w.heap.size + 1 + 1); obtain ⟨hk7x3, hj7x3, hq7x3⟩ := kfa hb7 (w.heap.size + 1 + 1 + 1); obtain ⟨hk7x4, hj7x4, hq7x4⟩ := kfa hb7 (w2.heap.size); clear hc7 hf7); (try go_wp2_with fail); refine tr hK (fun hHeld => ?_); clear hK K)
  refine tq 10 hHeld ?_
  refine wpAnyH_done (by kernel_rfl) ?_ _
  go_upto_region 12 with (first
   | (go_at_call 35; refine (l3Less_q _ _ _ _ (by with_reducible assumption)).mono ?_; rintro e w' ⟨rfl, rfl⟩)
   | (go_at_call 51; refine (l6Within_w _ _ _ _ (by omega) (by omega) (by with_reducible assumption)).mono ?_; rintro e w' ⟨rfl, rfl⟩))
  refine wp_region_held_drew (S := fun w' => w'.cell? ⟨w.heap.size + 1 + 1, 0, none⟩ = some (.int .i64 x) ∧ w'.cell? ⟨w.heap.size + 1 + 1, 1, none⟩ = some (.int .i64 y) ∧ w'.cell? ⟨w.heap.size + 1 + 1, 2, none⟩ = some (.int .i64 k) ∧ w'.cell? ⟨w2.heap.size, 0, none⟩ = some (.int .i64 (-y)) ∧ w'.cell? ⟨w2.heap.size, 1, none⟩ = some (.int .i64 x)) (by kernel_rfl) ?_ (fun hHeld => ?_)
  · (try dsimp only)
    (first | (go_simp; done) | (go_keep; done))
  refine tq 0 hHeld ?_
  refine tq 1 hHeld ?_
  refine tq 2 hHeld ?_
  refine tq 3 hHeld ?_
  refine tq 4 hHeld ?_
  refine tq 5 hHeld ?_
  refine tq 6 hHeld ?_
  refine tq 7 hHeld ?_
  refine tq 8 hHeld ?_
  refine tq 9 hHeld ?_
  refine tq 10 hHeld ?_
  refine tq 12 hHeld ?_
  refine tq 13 hHeld ?_
  refine tq 14 hHeld ?_
  refine tq 15 hHeld ?_
  refine tq 16 hHeld ?_
  refine tq 17 hHeld ?_
  refine tq 18 hHeld ?_
  refine tq 19 hHeld ?_
  refine tq 20 hHeld ?_
  refine tq 21 hHeld ?_
  refine tq 22 hHeld ?_
  (refine tc 11 fun K hK => ?_; go_simp; (go_at_call 51; refine (l6Within_any _ _ _ (by omega) (by omega)).mono ?_; rintro e w' ⟨rfl, rfl⟩); (try go_wp2_with fail); refine tr hK (fun hHeld => ?_); clear hK K)
  (refine tc 23 fun K hK => ?_; go_simp; (go_at_call 51; refine (l6Within_any _ _ _ (by omega) (by omega)).mono ?_; rintro e w' ⟨rfl, rfl⟩); (try go_wp2_with fail); refine tr hK (fun hHeld => ?_); clear hK K)
  refine tq 24 hHeld ?_
  (refine tc 25 fun K hK => ?_; go_simp; refine tr hK (fun hHeld => ?_); clear hK K)
  refine wpAnyH_done (by kernel_rfl) ?_ _
  go_wp2_with fail
  exact bodyPost_ret (v := vv (clampZ 20000000 ((P * x + A * (-y)).tdiv 256)) (clampZ 20000000 ((P * y + A * x).tdiv 256))) (by simp [results, Tryz.results114, go_sem, *]) rfl ⟨rfl, bel_a⟩
 | true =>
  cases z2 : (V2 8 == 0) with
  | true => exact absurd ⟨by simpa using z1, by simpa using z2⟩ hz'
  | false =>
   go_enter Tryz.func114, Tryz.ntmps114
   go_upto_region 4 with (go_at_call 127; refine (l8Closing_q V1 V2 x y k _ _ (by omega) (by omega) (by omega) (by omega) (by omega) (by omega) (by with_reducible assumption)).mono ?_; rintro e w1 ⟨rfl, hb1⟩; obtain ⟨hc1, hf1⟩ := bcell hb1; have hz1 := hb1.size; (try simp only [World.size_drew, World.size_alloc, World.size_setCell] at hc1 hf1 hz1); obtain ⟨hk1x0, hj1x0, hq1x0⟩ := kfa hb1 (w.heap.size); obtain ⟨hk1x1, hj1x1, hq1x1⟩ := kfa hb1 (w.heap.size + 1); obtain ⟨hk1x2, hj1x2, hq1x2⟩ := kfa hb1 (w.heap.size + 1 + 1); obtain ⟨hk1x3, hj1x3, hq1x3⟩ := kfa hb1 (w.heap.size + 1 + 1 + 1); clear hc1 hf1)
   go_upto_region 9 with (first
    | (go_at_call 128; refine (l8Mass_q V1 V2 _ _ _ (by omega) (by omega) (by omega) (by with_reducible assumption)).mono ?_; rintro e w2 ⟨rfl, hb2⟩; obtain ⟨hc2, hf2⟩ := bcell hb2; have hz2 := hb2.size; (try simp only [World.size_drew, World.size_alloc, World.size_setCell] at hc2 hf2 hz2); obtain ⟨hk2x0, hj2x0, hq2x0⟩ := kfa hb2 (w.heap.size); obtain ⟨hk2x1, hj2x1, hq2x1⟩ := kfa hb2 (w.heap.size + 1); obtain ⟨hk2x2, hj2x2, hq2x2⟩ := kfa hb2 (w.heap.size + 1 + 1); obtain ⟨hk2x3, hj2x3, hq2x3⟩ := kfa hb2 (w.heap.size + 1 + 1 + 1); clear hc2 hf2)
    | (go_at_call 79; refine (l3More_q _ _ _ _ (by with_reducible assumption)).mono ?_; rintro e w' ⟨rfl, rfl⟩))
   refine wp_region_held_drew (S := fun w' => w'.cell? ⟨w.heap.size, 0, none⟩ = some (.int .i64 (V1 0)) ∧ w'.cell? ⟨w.heap.size, 1, none⟩ = some (.int .i64 (V1 1)) ∧ w'.cell? ⟨w.heap.size, 2, none⟩ = some (.int .i64 (V1 2)) ∧ w'.cell? ⟨w.heap.size, 3, none⟩ = some (.int .i64 (V1 3)) ∧ w'.cell? ⟨w.heap.size, 4, none⟩ = some (.int .i64 (V1 4)) ∧ w'.cell? ⟨w.heap.size, 5, none⟩ = some (.int .i64 (V1 5)) ∧ w'.cell? ⟨w.heap.size, 6, none⟩ = some (.int .i64 (V1 6)) ∧ w'.cell? ⟨w.heap.size, 7, none⟩ = some (.int .i64 (V1 7)) ∧ w'.cell? ⟨w.heap.size, 8, none⟩ = some (.int .i64 (V1 8)) ∧ w'.cell? ⟨w.heap.size, 9, none⟩ = some (.int .i64 (V1 9)) ∧ w'.cell? ⟨w.heap.size, 10, none⟩ = some (.int .i64 (V1 10)) ∧ w'.cell? ⟨w.heap.size, 11, none⟩ = some (.int .i64 (V1 11)) ∧ w'.cell? ⟨w.heap.size + 1, 0, none⟩ = some (.int .i64 (V2 0)) ∧ w'.cell? ⟨w.heap.size + 1, 1, none⟩ = some (.int .i64 (V2 1)) ∧ w'.cell? ⟨w.heap.size + 1, 2, none⟩ = some (.int .i64 (V2 2)) ∧ w'.cell? ⟨w.heap.size + 1, 3, none⟩ = some (.int .i64 (V2 3)) ∧ w'.cell? ⟨w.heap.size + 1, 4, none⟩ = some (.int .i64 (V2 4)) ∧ w'.cell? ⟨w.heap.size + 1, 5, none⟩ = some (.int .i64 (V2 5)) ∧ w'.cell? ⟨w.heap.size + 1, 6, none⟩ = some (.int .i64 (V2 6)) ∧ w'.cell? ⟨w.heap.size + 1, 7, none⟩ = some (.int .i64 (V2 7)) ∧ w'.cell? ⟨w.heap.size + 1, 8, none⟩ = some (.int .i64 (V2 8)) ∧ w'.cell? ⟨w.heap.size + 1, 9, none⟩ = some (.int .i64 (V2 9)) ∧ w'.cell? ⟨w.heap.size + 1, 10, none⟩ = some (.int .i64 (V2 10)) ∧ w'.cell? ⟨w.heap.size + 1, 11, none⟩ = some (.int .i64 (V2 11)) ∧ w'.cell? ⟨w2.heap.size, 0, none⟩ = some (.int .i64 (-y)) ∧ w'.cell? ⟨w2.heap.size, 1, none⟩ = some (.int .i64 x)) (by kernel_rfl) ?_ (fun hHeld => ?_)
   · (try dsimp only)
     (first | (go_simp; done) | (go_keep; done))
   refine tq 0 hHeld ?_
   refine tq 1 hHeld ?_
   refine tq 2 hHeld ?_
   refine tq 4 hHeld ?_
   refine tq 7 hHeld ?_
   (refine tc 3 fun K hK => ?_; go_simp; (go_at_call 103; refine (l6Speed_any V1 _ (by omega) (by omega)).mono ?_; rintro e w3 ⟨rfl, hb3⟩; obtain ⟨hc3, hf3⟩ := bcell hb3; have hz3 := hb3.size; (try simp only [World.size_drew, World.size_alloc, World.size_setCell] at hc3 hf3 hz3); obtain ⟨hk3x0, hj3x0, hq3x0⟩ := kfa hb3 (w.heap.size); obtain ⟨hk3x1, hj3x1, hq3x1⟩ := kfa hb3 (w.heap.size + 1); obtain ⟨hk3x2, hj3x2, hq3x2⟩ := kfa hb3 (w.heap.size + 1 + 1); obtain ⟨hk3x3, hj3x3, hq3x3⟩ := kfa hb3 (w.heap.size + 1 + 1 + 1); obtain ⟨hk3x4, hj3x4, hq3x4⟩ := kfa hb3 (w2.heap.size); clear hc3 hf3); (try go_wp2_with fail); refine tr hK (fun hHeld => ?_); clear hK K)
   (refine tc 5 fun K hK => ?_; go_simp; (go_at_call 103; refine (l6Speed_any V2 _ (by omega) (by omega)).mono ?_; rintro e w4 ⟨rfl, hb4⟩; obtain ⟨hc4, hf4⟩ := bcell hb4; have hz4 := hb4.size; (try simp only [World.size_drew, World.size_alloc, World.size_setCell] at hc4 hf4 hz4); obtain ⟨hk4x0, hj4x0, hq4x0⟩ := kfa hb4 (w.heap.size); obtain ⟨hk4x1, hj4x1, hq4x1⟩ := kfa hb4 (w.heap.size + 1); obtain ⟨hk4x2, hj4x2, hq4x2⟩ := kfa hb4 (w.heap.size + 1 + 1); obtain ⟨hk4x3, hj4x3, hq4x3⟩ := kfa hb4 (w.heap.size + 1 + 1 + 1); obtain ⟨hk4x4, hj4x4, hq4x4⟩ := kfa hb4 (w2.heap.size); clear hc4 hf4); (try go_wp2_with fail); refine tr hK (fun hHeld => ?_); clear hK K)
   (refine tc 6 fun K hK => ?_; go_simp; (go_at_call 130; refine (sVecSub_q _ _ _ _ _ (by omega) (by omega) (by omega) (by omega)).mono ?_; rintro e w5 ⟨rfl, hb5⟩; obtain ⟨hc5, hf5⟩ := bcell hb5; have hz5 := hb5.size; (try simp only [World.size_drew, World.size_alloc, World.size_setCell] at hc5 hf5 hz5); obtain ⟨hk5x0, hj5x0, hq5x0⟩ := kfa hb5 (w.heap.size); obtain ⟨hk5x1, hj5x1, hq5x1⟩ := kfa hb5 (w.heap.size + 1); obtain ⟨hk5x2, hj5x2, hq5x2⟩ := kfa hb5 (w.heap.size + 1 + 1); obtain ⟨hk5x3, hj5x3, hq5x3⟩ := kfa hb5 (w.heap.size + 1 + 1 + 1); obtain ⟨hk5x4, hj5x4, hq5x4⟩ := kfa hb5 (w2.heap.size); clear hc5 hf5); (try go_wp2_with fail); refine tr hK (fun hHeld => ?_); clear hK K)
   (refine tc 8 fun K hK => ?_; go_simp; (go_at_call 129; refine (sVecDot_q2 _ _ _ _ _ _ (by omega) (by omega) (by omega) (by omega) (by with_reducible assumption)).mono ?_; rintro e w6 ⟨rfl, hb6⟩; obtain ⟨hc6, hf6⟩ := bcell hb6; have hz6 := hb6.size; (try simp only [World.size_drew, World.size_alloc, World.size_setCell] at hc6 hf6 hz6); obtain ⟨hk6x0, hj6x0, hq6x0⟩ := kfa hb6 (w.heap.size); obtain ⟨hk6x1, hj6x1, hq6x1⟩ := kfa hb6 (w.heap.size + 1); obtain ⟨hk6x2, hj6x2, hq6x2⟩ := kfa hb6 (w.heap.size + 1 + 1); obtain ⟨hk6x3, hj6x3, hq6x3⟩ := kfa hb6 (w.heap.size + 1 + 1 + 1); obtain ⟨hk6x4, hj6x4, hq6x4⟩ := kfa hb6 (w2.heap.size); clear hc6 hf6); (try go_wp2_with fail); refine tr hK (fun hHeld => ?_); clear hK K)
   (refine tc 9 fun K hK => ?_; go_simp; (go_at_call 128; refine (l8Mass_q V1 V2 _ _ _ (by omega) (by omega) (by omega) (by with_reducible assumption)).mono ?_; rintro e w7 ⟨rfl, hb7⟩; obtain ⟨hc7, hf7⟩ := bcell hb7; have hz7 := hb7.size; (try simp only [World.size_drew, World.size_alloc, World.size_setCell] at hc7 hf7 hz7); obtain ⟨hk7x0, hj7x0, hq7x0⟩ := kfa hb7 (w.heap.size); obtain ⟨hk7x1, hj7x1, hq7x1⟩ := kfa hb7 (w.heap.size + 1); obtain ⟨hk7x2, hj7x2, hq7x2⟩ := kfa hb7 (w.heap.size + 1 + 1); obtain ⟨hk7x3, hj7x3, hq7x3⟩ := kfa hb7 (w.heap.size + 1 + 1 + 1); obtain ⟨hk7x4, hj7x4, hq7x4⟩ := kfa hb7 (w2.heap.size); clear hc7 hf7); (try go_wp2_with fail); refine tr hK (fun hHeld => ?_); clear hK K)
   refine tq 10 hHeld ?_
   refine wpAnyH_done (by kernel_rfl) ?_ _
   go_upto_region 12 with (first
    | (go_at_call 35; refine (l3Less_q _ _ _ _ (by with_reducible assumption)).mono ?_; rintro e w' ⟨rfl, rfl⟩)
    | (go_at_call 51; refine (l6Within_w _ _ _ _ (by omega) (by omega) (by with_reducible assumption)).mono ?_; rintro e w' ⟨rfl, rfl⟩))
   refine wp_region_held_drew (S := fun w' => w'.cell? ⟨w.heap.size + 1 + 1, 0, none⟩ = some (.int .i64 x) ∧ w'.cell? ⟨w.heap.size + 1 + 1, 1, none⟩ = some (.int .i64 y) ∧ w'.cell? ⟨w.heap.size + 1 + 1, 2, none⟩ = some (.int .i64 k) ∧ w'.cell? ⟨w2.heap.size, 0, none⟩ = some (.int .i64 (-y)) ∧ w'.cell? ⟨w2.heap.size, 1, none⟩ = some (.int .i64 x)) (by kernel_rfl) ?_ (fun hHeld => ?_)
   · (try dsimp only)
     (first | (go_simp; done) | (go_keep; done))
   refine tq 0 hHeld ?_
   refine tq 1 hHeld ?_
   refine tq 2 hHeld ?_
   refine tq 3 hHeld ?_
   refine tq 4 hHeld ?_
   refine tq 5 hHeld ?_
   refine tq 6 hHeld ?_
   refine tq 7 hHeld ?_
   refine tq 8 hHeld ?_
   refine tq 9 hHeld ?_
   refine tq 10 hHeld ?_
   refine tq 12 hHeld ?_
   refine tq 13 hHeld ?_
   refine tq 14 hHeld ?_
   refine tq 15 hHeld ?_
   refine tq 16 hHeld ?_
   refine tq 17 hHeld ?_
   refine tq 18 hHeld ?_
   refine tq 19 hHeld ?_
   refine tq 20 hHeld ?_
   refine tq 21 hHeld ?_
   refine tq 22 hHeld ?_
   (refine tc 11 fun K hK => ?_; go_simp; (go_at_call 51; refine (l6Within_any _ _ _ (by omega) (by omega)).mono ?_; rintro e w' ⟨rfl, rfl⟩); (try go_wp2_with fail); refine tr hK (fun hHeld => ?_); clear hK K)
   (refine tc 23 fun K hK => ?_; go_simp; (go_at_call 51; refine (l6Within_any _ _ _ (by omega) (by omega)).mono ?_; rintro e w' ⟨rfl, rfl⟩); (try go_wp2_with fail); refine tr hK (fun hHeld => ?_); clear hK K)
   refine tq 24 hHeld ?_
   (refine tc 25 fun K hK => ?_; go_simp; refine tr hK (fun hHeld => ?_); clear hK K)
   refine wpAnyH_done (by kernel_rfl) ?_ _
   go_wp2_with fail
   exact bodyPost_ret (v := vv (clampZ 20000000 ((P * x + A * (-y)).tdiv 256)) (clampZ 20000000 ((P * y + A * x).tdiv 256))) (by simp [results, Tryz.results114, go_sem, *]) rfl ⟨rfl, bel_a⟩
theorem l8Push_f (V1 V2 : Nat → Int) (x y k : Int) (b r c n P D T M A : Int) (w : World) (a0 : 0 ≤ V1 8 ∧ V1 8 ≤ 1000) (a1 : 0 ≤ V2 8 ∧ V2 8 ≤ 1000) (b6 : -20000000 ≤ V1 6 ∧ V1 6 ≤ 20000000) (b7 : -20000000 ≤ V1 7 ∧ V1 7 ≤ 20000000) (d6 : -20000000 ≤ V2 6 ∧ V2 6 ≤ 20000000) (d7 : -20000000 ≤ V2 7 ∧ V2 7 ≤ 20000000) (bx : -256 ≤ x ∧ x ≤ 256) (bY : -256 ≤ y ∧ y ≤ 256) (ec : closeV V1 V2 x y = c) (eb : (if V1 9 < V2 9 then V2 9 else V1 9) = b) (er : (if V2 10 < V1 10 then V2 10 else V1 10) = r) (eP : togV V1 V2 n = P) (eD : fc (((spX V1 - spX V2) * (-y) + (spY V1 - spY V2) * x).tdiv 256) = D) (eS : togV V1 V2 D = T) (eM : (P * r).tdiv 256 = M) (eA : clampZ M T = A) (en : c = n) (bc : 0 < c ∧ c ≤ 100000000) (b0 : 0 ≤ b ∧ b ≤ 256) (r0 : 0 ≤ r ∧ r ≤ 256) (bn : 0 < n ∧ n ≤ 200000000) (bP : 0 ≤ P ∧ P ≤ 200000000000000) (bD : -100000000 ≤ D ∧ D ≤ 100000000) (bT : -100000000000000 ≤ T ∧ T ≤ 100000000000000) (bM : 0 ≤ M ∧ M ≤ 200000000000000) (bA : -200000000000000 ≤ A ∧ A ≤ 200000000000000) (hz : (V1 8 = 0 ∧ V2 8 = 0) = False) :
 Calls Tryz.prog 114 #[bodyW V1, bodyW V2, s3 x y k, .bool false] w fun e w' => e = .returned (vv (clampZ 20000000 ((P * x + A * (-y)).tdiv 256)) (clampZ 20000000 ((P * y + A * x).tdiv 256))) ∧ Below w.heap.size w w' := by
 have hset := cset_map
 subst en
 have m1 := mul_bd (a := c) (b := b) (A := 100000000) (B := 256) (by omega) (by omega)
 have m2 := tdiv_bd (x := c * b) (B := 25600000000) 256 (by omega)
 have m3 := mul_bd (a := P) (b := r) (A := 200000000000000) (B := 256) (by omega) (by omega)
 have m4 := mul_bd (a := P) (b := x) (A := 200000000000000) (B := 256) (by omega) (by omega)
 have m5 := mul_bd (a := P) (b := y) (A := 200000000000000) (B := 256) (by omega) (by omega)
 have m6 := mul_bd (a := A) (b := -y) (A := 200000000000000) (B := 256) (by omega) (by omega)
 have m7 := mul_bd (a := A) (b := x) (A := 200000000000000) (B := 256) (by omega) (by omega)
 have m8 := tdiv_bd (x := P * x + A * (-y)) (B := 200000000000000000) 256 (by omega)
 have m9 := tdiv_bd (x := P * y + A * x) (B := 200000000000000000) 256 (by omega)
 have w1_ : IntKind.i64.wrap (c * b) = c * b := i64w (by omega)
 have w2_ : IntKind.i64.wrap ((c * b).tdiv 256) = (c * b).tdiv 256 := i64w (by omega)
 have w3_ : IntKind.i64.wrap (c + (c * b).tdiv 256) = c + (c * b).tdiv 256 := i64w (by omega)
 have w4_ : IntKind.i64.wrap (P * r) = P * r := i64w (by omega)
 have w5_ : IntKind.i64.wrap ((P * r).tdiv 256) = M := by rw [eM]; exact i64w (by omega)
 have w6_ : IntKind.i64.wrap M = M := i64w (by omega)
 have sx1 := spX_bd V1 b6
 have sy1 := spY_bd V1 b7
 have sx2 := spX_bd V2 d6
 have sy2 := spY_bd V2 d7
 have v1_ : IntKind.i64.wrap (P * x) = P * x := i64w (by omega)
 have v2_ : IntKind.i64.wrap (A * (-y)) = A * (-y) := i64w (by omega)
 have v2__ : IntKind.i64.wrap (A * -y) = A * -y := i64w (by omega)
 have v3_ : IntKind.i64.wrap (P * y) = P * y := i64w (by omega)
 have v4_ : IntKind.i64.wrap (A * x) = A * x := i64w (by omega)
 have v5_ : IntKind.i64.wrap (P * x + A * (-y)) = P * x + A * (-y) := i64w (by omega)
 have v6_ : IntKind.i64.wrap (P * y + A * x) = P * y + A * x := i64w (by omega)
 have v7_ : IntKind.i64.wrap ((P * x + A * (-y)).tdiv 256) = (P * x + A * (-y)).tdiv 256 := i64w (by omega)
 have v8_ : IntKind.i64.wrap ((P * y + A * x).tdiv 256) = (P * y + A * x).tdiv 256 := i64w (by omega)
 have hz' : ¬ (V1 8 = 0 ∧ V2 8 = 0) := fun q => by rw [hz] at q; exact q
 cases z1 : (V1 8 == 0) with
 | false =>
  go_enter Tryz.func114, Tryz.ntmps114
  go_upto_region 4 with (go_at_call 127; refine (l8Closing_q V1 V2 x y k _ _ (by omega) (by omega) (by omega) (by omega) (by omega) (by omega) (by with_reducible assumption)).mono ?_; rintro e w1 ⟨rfl, hb1⟩; obtain ⟨hc1, hf1⟩ := bcell hb1; have hz1 := hb1.size; (try simp only [World.size_drew, World.size_alloc, World.size_setCell] at hc1 hf1 hz1); obtain ⟨hk1x0, hj1x0, hq1x0⟩ := kfa hb1 (w.heap.size); obtain ⟨hk1x1, hj1x1, hq1x1⟩ := kfa hb1 (w.heap.size + 1); obtain ⟨hk1x2, hj1x2, hq1x2⟩ := kfa hb1 (w.heap.size + 1 + 1); obtain ⟨hk1x3, hj1x3, hq1x3⟩ := kfa hb1 (w.heap.size + 1 + 1 + 1); clear hc1 hf1)
  go_upto_region 9 with (go_at_call 128; refine (l8Mass_q V1 V2 _ _ _ (by omega) (by omega) (by omega) (by with_reducible assumption)).mono ?_; rintro e w2 ⟨rfl, hb2⟩; obtain ⟨hc2, hf2⟩ := bcell hb2; have hz2 := hb2.size; (try simp only [World.size_drew, World.size_alloc, World.size_setCell] at hc2 hf2 hz2); obtain ⟨hk2x0, hj2x0, hq2x0⟩ := kfa hb2 (w.heap.size); obtain ⟨hk2x1, hj2x1, hq2x1⟩ := kfa hb2 (w.heap.size + 1); obtain ⟨hk2x2, hj2x2, hq2x2⟩ := kfa hb2 (w.heap.size + 1 + 1); obtain ⟨hk2x3, hj2x3, hq2x3⟩ := kfa hb2 (w.heap.size + 1 + 1 + 1); clear hc2 hf2)
  refine wp_region_held_drew (S := fun w' => w'.cell? ⟨w.heap.size, 0, none⟩ = some (.int .i64 (V1 0)) ∧ w'.cell? ⟨w.heap.size, 1, none⟩ = some (.int .i64 (V1 1)) ∧ w'.cell? ⟨w.heap.size, 2, none⟩ = some (.int .i64 (V1 2)) ∧ w'.cell? ⟨w.heap.size, 3, none⟩ = some (.int .i64 (V1 3)) ∧ w'.cell? ⟨w.heap.size, 4, none⟩ = some (.int .i64 (V1 4)) ∧ w'.cell? ⟨w.heap.size, 5, none⟩ = some (.int .i64 (V1 5)) ∧ w'.cell? ⟨w.heap.size, 6, none⟩ = some (.int .i64 (V1 6)) ∧ w'.cell? ⟨w.heap.size, 7, none⟩ = some (.int .i64 (V1 7)) ∧ w'.cell? ⟨w.heap.size, 8, none⟩ = some (.int .i64 (V1 8)) ∧ w'.cell? ⟨w.heap.size, 9, none⟩ = some (.int .i64 (V1 9)) ∧ w'.cell? ⟨w.heap.size, 10, none⟩ = some (.int .i64 (V1 10)) ∧ w'.cell? ⟨w.heap.size, 11, none⟩ = some (.int .i64 (V1 11)) ∧ w'.cell? ⟨w.heap.size + 1, 0, none⟩ = some (.int .i64 (V2 0)) ∧ w'.cell? ⟨w.heap.size + 1, 1, none⟩ = some (.int .i64 (V2 1)) ∧ w'.cell? ⟨w.heap.size + 1, 2, none⟩ = some (.int .i64 (V2 2)) ∧ w'.cell? ⟨w.heap.size + 1, 3, none⟩ = some (.int .i64 (V2 3)) ∧ w'.cell? ⟨w.heap.size + 1, 4, none⟩ = some (.int .i64 (V2 4)) ∧ w'.cell? ⟨w.heap.size + 1, 5, none⟩ = some (.int .i64 (V2 5)) ∧ w'.cell? ⟨w.heap.size + 1, 6, none⟩ = some (.int .i64 (V2 6)) ∧ w'.cell? ⟨w.heap.size + 1, 7, none⟩ = some (.int .i64 (V2 7)) ∧ w'.cell? ⟨w.heap.size + 1, 8, none⟩ = some (.int .i64 (V2 8)) ∧ w'.cell? ⟨w.heap.size + 1, 9, none⟩ = some (.int .i64 (V2 9)) ∧ w'.cell? ⟨w.heap.size + 1, 10, none⟩ = some (.int .i64 (V2 10)) ∧ w'.cell? ⟨w.heap.size + 1, 11, none⟩ = some (.int .i64 (V2 11)) ∧ w'.cell? ⟨w2.heap.size, 0, none⟩ = some (.int .i64 (-y)) ∧ w'.cell? ⟨w2.heap.size, 1, none⟩ = some (.int .i64 x)) (by kernel_rfl) ?_ (fun hHeld => ?_)
  · (try dsimp only)
    (first | (go_simp; done) | (go_keep; done))
  refine tq 0 hHeld ?_
  refine tq 1 hHeld ?_
  refine tq 2 hHeld ?_
  refine tq 4 hHeld ?_
  refine tq 7 hHeld ?_
  (refine tc 3 fun K hK => ?_; go_simp; (go_at_call 103; refine (l6Speed_any V1 _ (by omega) (by omega)).mono ?_; rintro e w3 ⟨rfl, hb3⟩; obtain ⟨hc3, hf3⟩ := bcell hb3; have hz3 := hb3.size; (try simp only [World.size_drew, World.size_alloc, World.size_setCell] at hc3 hf3 hz3); obtain ⟨hk3x0, hj3x0, hq3x0⟩ := kfa hb3 (w.heap.size); obtain ⟨hk3x1, hj3x1, hq3x1⟩ := kfa hb3 (w.heap.size + 1); obtain ⟨hk3x2, hj3x2, hq3x2⟩ := kfa hb3 (w.heap.size + 1 + 1); obtain ⟨hk3x3, hj3x3, hq3x3⟩ := kfa hb3 (w.heap.size + 1 + 1 + 1); obtain ⟨hk3x4, hj3x4, hq3x4⟩ := kfa hb3 (w2.heap.size); clear hc3 hf3); (try go_wp2_with fail); refine tr hK (fun hHeld => ?_); clear hK K)
  (refine tc 5 fun K hK => ?_; go_simp; (go_at_call 103; refine (l6Speed_any V2 _ (by omega) (by omega)).mono ?_; rintro e w4 ⟨rfl, hb4⟩; obtain ⟨hc4, hf4⟩ := bcell hb4; have hz4 := hb4.size; (try simp only [World.size_drew, World.size_alloc, World.size_setCell] at hc4 hf4 hz4); obtain ⟨hk4x0, hj4x0, hq4x0⟩ := kfa hb4 (w.heap.size); obtain ⟨hk4x1, hj4x1, hq4x1⟩ := kfa hb4 (w.heap.size + 1); obtain ⟨hk4x2, hj4x2, hq4x2⟩ := kfa hb4 (w.heap.size + 1 + 1); obtain ⟨hk4x3, hj4x3, hq4x3⟩ := kfa hb4 (w.heap.size + 1 + 1 + 1); obtain ⟨hk4x4, hj4x4, hq4x4⟩ := kfa hb4 (w2.heap.size); clear hc4 hf4); (try go_wp2_with fail); refine tr hK (fun hHeld => ?_); clear hK K)
  (refine tc 6 fun K hK => ?_; go_simp; (go_at_call 130; refine (sVecSub_q _ _ _ _ _ (by omega) (by omega) (by omega) (by omega)).mono ?_; rintro e w5 ⟨rfl, hb5⟩; obtain ⟨hc5, hf5⟩ := bcell hb5; have hz5 := hb5.size; (try simp only [World.size_drew, World.size_alloc, World.size_setCell] at hc5 hf5 hz5); obtain ⟨hk5x0, hj5x0, hq5x0⟩ := kfa hb5 (w.heap.size); obtain ⟨hk5x1, hj5x1, hq5x1⟩ := kfa hb5 (w.heap.size + 1); obtain ⟨hk5x2, hj5x2, hq5x2⟩ := kfa hb5 (w.heap.size + 1 + 1); obtain ⟨hk5x3, hj5x3, hq5x3⟩ := kfa hb5 (w.heap.size + 1 + 1 + 1); obtain ⟨hk5x4, hj5x4, hq5x4⟩ := kfa hb5 (w2.heap.size); clear hc5 hf5); (try go_wp2_with fail); refine tr hK (fun hHeld => ?_); clear hK K)
  (refine tc 8 fun K hK => ?_; go_simp; (go_at_call 129; refine (sVecDot_q2 _ _ _ _ _ _ (by omega) (by omega) (by omega) (by omega) (by with_reducible assumption)).mono ?_; rintro e w6 ⟨rfl, hb6⟩; obtain ⟨hc6, hf6⟩ := bcell hb6; have hz6 := hb6.size; (try simp only [World.size_drew, World.size_alloc, World.size_setCell] at hc6 hf6 hz6); obtain ⟨hk6x0, hj6x0, hq6x0⟩ := kfa hb6 (w.heap.size); obtain ⟨hk6x1, hj6x1, hq6x1⟩ := kfa hb6 (w.heap.size + 1); obtain ⟨hk6x2, hj6x2, hq6x2⟩ := kfa hb6 (w.heap.size + 1 + 1); obtain ⟨hk6x3, hj6x3, hq6x3⟩ := kfa hb6 (w.heap.size + 1 + 1 + 1); obtain ⟨hk6x4, hj6x4, hq6x4⟩ := kfa hb6 (w2.heap.size); clear hc6 hf6); (try go_wp2_with fail); refine tr hK (fun hHeld => ?_); clear hK K)
  (refine tc 9 fun K hK => ?_; go_simp; (go_at_call 128; refine (l8Mass_q V1 V2 _ _ _ (by omega) (by omega) (by omega) (by with_reducible assumption)).mono ?_; rintro e w7 ⟨rfl, hb7⟩; obtain ⟨hc7, hf7⟩ := bcell hb7; have hz7 := hb7.size; (try simp only [World.size_drew, World.size_alloc, World.size_setCell] at hc7 hf7 hz7); obtain ⟨hk7x0, hj7x0, hq7x0⟩ := kfa hb7 (w.heap.size); obtain ⟨hk7x1, hj7x1, hq7x1⟩ := kfa hb7 (w.heap.size + 1); obtain ⟨hk7x2, hj7x2, hq7x2⟩ := kfa hb7 (w.heap.size + 1 + 1); obtain ⟨hk7x3, hj7x3, hq7x3⟩ := kfa hb7 (w.heap.size + 1 + 1 + 1); obtain ⟨hk7x4, hj7x4, hq7x4⟩ := kfa hb7 (w2.heap.size); clear hc7 hf7); (try go_wp2_with fail); refine tr hK (fun hHeld => ?_); clear hK K)
  refine tq 10 hHeld ?_
  refine wpAnyH_done (by kernel_rfl) ?_ _
  go_upto_region 12 with (first
   | (go_at_call 35; refine (l3Less_q _ _ _ _ (by with_reducible assumption)).mono ?_; rintro e w' ⟨rfl, rfl⟩)
   | (go_at_call 51; refine (l6Within_w _ _ _ _ (by omega) (by omega) (by with_reducible assumption)).mono ?_; rintro e w' ⟨rfl, rfl⟩))
  refine wp_region_held_drew (S := fun w' => w'.cell? ⟨w.heap.size + 1 + 1, 0, none⟩ = some (.int .i64 x) ∧ w'.cell? ⟨w.heap.size + 1 + 1, 1, none⟩ = some (.int .i64 y) ∧ w'.cell? ⟨w.heap.size + 1 + 1, 2, none⟩ = some (.int .i64 k) ∧ w'.cell? ⟨w2.heap.size, 0, none⟩ = some (.int .i64 (-y)) ∧ w'.cell? ⟨w2.heap.size, 1, none⟩ = some (.int .i64 x)) (by kernel_rfl) ?_ (fun hHeld => ?_)
  · (try dsimp only)
    (first | (go_simp; done) | (go_keep; done))
  refine tq 0 hHeld ?_
  refine tq 1 hHeld ?_
  refine tq 2 hHeld ?_
  refine tq 3 hHeld ?_
  refine tq 4 hHeld ?_
  refine tq 5 hHeld ?_
  refine tq 6 hHeld ?_
  refine tq 7 hHeld ?_
  refine tq 8 hHeld ?_
  refine tq 9 hHeld ?_
  refine tq 10 hHeld ?_
  refine tq 12 hHeld ?_
  refine tq 13 hHeld ?_
  refine tq 14 hHeld ?_
  refine tq 15 hHeld ?_
  refine tq 16 hHeld ?_
  refine tq 17 hHeld ?_
  refine tq 18 hHeld ?_
  refine tq 19 hHeld ?_
  refine tq 20 hHeld ?_
  refine tq 21 hHeld ?_
  refine tq 22 hHeld ?_
  (refine tc 11 fun K hK => ?_; go_simp; (go_at_call 51; refine (l6Within_any _ _ _ (by omega) (by omega)).mono ?_; rintro e w' ⟨rfl, rfl⟩); (try go_wp2_with fail); refine tr hK (fun hHeld => ?_); clear hK K)
  (refine tc 23 fun K hK => ?_; go_simp; (go_at_call 51; refine (l6Within_any _ _ _ (by omega) (by omega)).mono ?_; rintro e w' ⟨rfl, rfl⟩); (try go_wp2_with fail); refine tr hK (fun hHeld => ?_); clear hK K)
  refine tq 24 hHeld ?_
  (refine tc 25 fun K hK => ?_; go_simp; refine tr hK (fun hHeld => ?_); clear hK K)
  refine wpAnyH_done (by kernel_rfl) ?_ _
  go_wp2_with fail
  exact bodyPost_ret (v := vv (clampZ 20000000 ((P * x + A * (-y)).tdiv 256)) (clampZ 20000000 ((P * y + A * x).tdiv 256))) (by simp [results, Tryz.results114, go_sem, *]) rfl ⟨rfl, bel_a⟩
 | true =>
  cases z2 : (V2 8 == 0) with
  | true => exact absurd ⟨by simpa using z1, by simpa using z2⟩ hz'
  | false =>
   go_enter Tryz.func114, Tryz.ntmps114
   go_upto_region 4 with (go_at_call 127; refine (l8Closing_q V1 V2 x y k _ _ (by omega) (by omega) (by omega) (by omega) (by omega) (by omega) (by with_reducible assumption)).mono ?_; rintro e w1 ⟨rfl, hb1⟩; obtain ⟨hc1, hf1⟩ := bcell hb1; have hz1 := hb1.size; (try simp only [World.size_drew, World.size_alloc, World.size_setCell] at hc1 hf1 hz1); obtain ⟨hk1x0, hj1x0, hq1x0⟩ := kfa hb1 (w.heap.size); obtain ⟨hk1x1, hj1x1, hq1x1⟩ := kfa hb1 (w.heap.size + 1); obtain ⟨hk1x2, hj1x2, hq1x2⟩ := kfa hb1 (w.heap.size + 1 + 1); obtain ⟨hk1x3, hj1x3, hq1x3⟩ := kfa hb1 (w.heap.size + 1 + 1 + 1); clear hc1 hf1)
   go_upto_region 9 with (go_at_call 128; refine (l8Mass_q V1 V2 _ _ _ (by omega) (by omega) (by omega) (by with_reducible assumption)).mono ?_; rintro e w2 ⟨rfl, hb2⟩; obtain ⟨hc2, hf2⟩ := bcell hb2; have hz2 := hb2.size; (try simp only [World.size_drew, World.size_alloc, World.size_setCell] at hc2 hf2 hz2); obtain ⟨hk2x0, hj2x0, hq2x0⟩ := kfa hb2 (w.heap.size); obtain ⟨hk2x1, hj2x1, hq2x1⟩ := kfa hb2 (w.heap.size + 1); obtain ⟨hk2x2, hj2x2, hq2x2⟩ := kfa hb2 (w.heap.size + 1 + 1); obtain ⟨hk2x3, hj2x3, hq2x3⟩ := kfa hb2 (w.heap.size + 1 + 1 + 1); clear hc2 hf2)
   refine wp_region_held_drew (S := fun w' => w'.cell? ⟨w.heap.size, 0, none⟩ = some (.int .i64 (V1 0)) ∧ w'.cell? ⟨w.heap.size, 1, none⟩ = some (.int .i64 (V1 1)) ∧ w'.cell? ⟨w.heap.size, 2, none⟩ = some (.int .i64 (V1 2)) ∧ w'.cell? ⟨w.heap.size, 3, none⟩ = some (.int .i64 (V1 3)) ∧ w'.cell? ⟨w.heap.size, 4, none⟩ = some (.int .i64 (V1 4)) ∧ w'.cell? ⟨w.heap.size, 5, none⟩ = some (.int .i64 (V1 5)) ∧ w'.cell? ⟨w.heap.size, 6, none⟩ = some (.int .i64 (V1 6)) ∧ w'.cell? ⟨w.heap.size, 7, none⟩ = some (.int .i64 (V1 7)) ∧ w'.cell? ⟨w.heap.size, 8, none⟩ = some (.int .i64 (V1 8)) ∧ w'.cell? ⟨w.heap.size, 9, none⟩ = some (.int .i64 (V1 9)) ∧ w'.cell? ⟨w.heap.size, 10, none⟩ = some (.int .i64 (V1 10)) ∧ w'.cell? ⟨w.heap.size, 11, none⟩ = some (.int .i64 (V1 11)) ∧ w'.cell? ⟨w.heap.size + 1, 0, none⟩ = some (.int .i64 (V2 0)) ∧ w'.cell? ⟨w.heap.size + 1, 1, none⟩ = some (.int .i64 (V2 1)) ∧ w'.cell? ⟨w.heap.size + 1, 2, none⟩ = some (.int .i64 (V2 2)) ∧ w'.cell? ⟨w.heap.size + 1, 3, none⟩ = some (.int .i64 (V2 3)) ∧ w'.cell? ⟨w.heap.size + 1, 4, none⟩ = some (.int .i64 (V2 4)) ∧ w'.cell? ⟨w.heap.size + 1, 5, none⟩ = some (.int .i64 (V2 5)) ∧ w'.cell? ⟨w.heap.size + 1, 6, none⟩ = some (.int .i64 (V2 6)) ∧ w'.cell? ⟨w.heap.size + 1, 7, none⟩ = some (.int .i64 (V2 7)) ∧ w'.cell? ⟨w.heap.size + 1, 8, none⟩ = some (.int .i64 (V2 8)) ∧ w'.cell? ⟨w.heap.size + 1, 9, none⟩ = some (.int .i64 (V2 9)) ∧ w'.cell? ⟨w.heap.size + 1, 10, none⟩ = some (.int .i64 (V2 10)) ∧ w'.cell? ⟨w.heap.size + 1, 11, none⟩ = some (.int .i64 (V2 11)) ∧ w'.cell? ⟨w2.heap.size, 0, none⟩ = some (.int .i64 (-y)) ∧ w'.cell? ⟨w2.heap.size, 1, none⟩ = some (.int .i64 x)) (by kernel_rfl) ?_ (fun hHeld => ?_)
   · (try dsimp only)
     (first | (go_simp; done) | (go_keep; done))
   refine tq 0 hHeld ?_
   refine tq 1 hHeld ?_
   refine tq 2 hHeld ?_
   refine tq 4 hHeld ?_
   refine tq 7 hHeld ?_
   (refine tc 3 fun K hK => ?_; go_simp; (go_at_call 103; refine (l6Speed_any V1 _ (by omega) (by omega)).mono ?_; rintro e w3 ⟨rfl, hb3⟩; obtain ⟨hc3, hf3⟩ := bcell hb3; have hz3 := hb3.size; (try simp only [World.size_drew, World.size_alloc, World.size_setCell] at hc3 hf3 hz3); obtain ⟨hk3x0, hj3x0, hq3x0⟩ := kfa hb3 (w.heap.size); obtain ⟨hk3x1, hj3x1, hq3x1⟩ := kfa hb3 (w.heap.size + 1); obtain ⟨hk3x2, hj3x2, hq3x2⟩ := kfa hb3 (w.heap.size + 1 + 1); obtain ⟨hk3x3, hj3x3, hq3x3⟩ := kfa hb3 (w.heap.size + 1 + 1 + 1); obtain ⟨hk3x4, hj3x4, hq3x4⟩ := kfa hb3 (w2.heap.size); clear hc3 hf3); (try go_wp2_with fail); refine tr hK (fun hHeld => ?_); clear hK K)
   (refine tc 5 fun K hK => ?_; go_simp; (go_at_call 103; refine (l6Speed_any V2 _ (by omega) (by omega)).mono ?_; rintro e w4 ⟨rfl, hb4⟩; obtain ⟨hc4, hf4⟩ := bcell hb4; have hz4 := hb4.size; (try simp only [World.size_drew, World.size_alloc, World.size_setCell] at hc4 hf4 hz4); obtain ⟨hk4x0, hj4x0, hq4x0⟩ := kfa hb4 (w.heap.size); obtain ⟨hk4x1, hj4x1, hq4x1⟩ := kfa hb4 (w.heap.size + 1); obtain ⟨hk4x2, hj4x2, hq4x2⟩ := kfa hb4 (w.heap.size + 1 + 1); obtain ⟨hk4x3, hj4x3, hq4x3⟩ := kfa hb4 (w.heap.size + 1 + 1 + 1); obtain ⟨hk4x4, hj4x4, hq4x4⟩ := kfa hb4 (w2.heap.size); clear hc4 hf4); (try go_wp2_with fail); refine tr hK (fun hHeld => ?_); clear hK K)
   (refine tc 6 fun K hK => ?_; go_simp; (go_at_call 130; refine (sVecSub_q _ _ _ _ _ (by omega) (by omega) (by omega) (by omega)).mono ?_; rintro e w5 ⟨rfl, hb5⟩; obtain ⟨hc5, hf5⟩ := bcell hb5; have hz5 := hb5.size; (try simp only [World.size_drew, World.size_alloc, World.size_setCell] at hc5 hf5 hz5); obtain ⟨hk5x0, hj5x0, hq5x0⟩ := kfa hb5 (w.heap.size); obtain ⟨hk5x1, hj5x1, hq5x1⟩ := kfa hb5 (w.heap.size + 1); obtain ⟨hk5x2, hj5x2, hq5x2⟩ := kfa hb5 (w.heap.size + 1 + 1); obtain ⟨hk5x3, hj5x3, hq5x3⟩ := kfa hb5 (w.heap.size + 1 + 1 + 1); obtain ⟨hk5x4, hj5x4, hq5x4⟩ := kfa hb5 (w2.heap.size); clear hc5 hf5); (try go_wp2_with fail); refine tr hK (fun hHeld => ?_); clear hK K)
   (refine tc 8 fun K hK => ?_; go_simp; (go_at_call 129; refine (sVecDot_q2 _ _ _ _ _ _ (by omega) (by omega) (by omega) (by omega) (by with_reducible assumption)).mono ?_; rintro e w6 ⟨rfl, hb6⟩; obtain ⟨hc6, hf6⟩ := bcell hb6; have hz6 := hb6.size; (try simp only [World.size_drew, World.size_alloc, World.size_setCell] at hc6 hf6 hz6); obtain ⟨hk6x0, hj6x0, hq6x0⟩ := kfa hb6 (w.heap.size); obtain ⟨hk6x1, hj6x1, hq6x1⟩ := kfa hb6 (w.heap.size + 1); obtain ⟨hk6x2, hj6x2, hq6x2⟩ := kfa hb6 (w.heap.size + 1 + 1); obtain ⟨hk6x3, hj6x3, hq6x3⟩ := kfa hb6 (w.heap.size + 1 + 1 + 1); obtain ⟨hk6x4, hj6x4, hq6x4⟩ := kfa hb6 (w2.heap.size); clear hc6 hf6); (try go_wp2_with fail); refine tr hK (fun hHeld => ?_); clear hK K)
   (refine tc 9 fun K hK => ?_; go_simp; (go_at_call 128; refine (l8Mass_q V1 V2 _ _ _ (by omega) (by omega) (by omega) (by with_reducible assumption)).mono ?_; rintro e w7 ⟨rfl, hb7⟩; obtain ⟨hc7, hf7⟩ := bcell hb7; have hz7 := hb7.size; (try simp only [World.size_drew, World.size_alloc, World.size_setCell] at hc7 hf7 hz7); obtain ⟨hk7x0, hj7x0, hq7x0⟩ := kfa hb7 (w.heap.size); obtain ⟨hk7x1, hj7x1, hq7x1⟩ := kfa hb7 (w.heap.size + 1); obtain ⟨hk7x2, hj7x2, hq7x2⟩ := kfa hb7 (w.heap.size + 1 + 1); obtain ⟨hk7x3, hj7x3, hq7x3⟩ := kfa hb7 (w.heap.size + 1 + 1 + 1); obtain ⟨hk7x4, hj7x4, hq7x4⟩ := kfa hb7 (w2.heap.size); clear hc7 hf7); (try go_wp2_with fail); refine tr hK (fun hHeld => ?_); clear hK K)
   refine tq 10 hHeld ?_
   refine wpAnyH_done (by kernel_rfl) ?_ _
   go_upto_region 12 with (first
    | (go_at_call 35; refine (l3Less_q _ _ _ _ (by with_reducible assumption)).mono ?_; rintro e w' ⟨rfl, rfl⟩)
    | (go_at_call 51; refine (l6Within_w _ _ _ _ (by omega) (by omega) (by with_reducible assumption)).mono ?_; rintro e w' ⟨rfl, rfl⟩))
   refine wp_region_held_drew (S := fun w' => w'.cell? ⟨w.heap.size + 1 + 1, 0, none⟩ = some (.int .i64 x) ∧ w'.cell? ⟨w.heap.size + 1 + 1, 1, none⟩ = some (.int .i64 y) ∧ w'.cell? ⟨w.heap.size + 1 + 1, 2, none⟩ = some (.int .i64 k) ∧ w'.cell? ⟨w2.heap.size, 0, none⟩ = some (.int .i64 (-y)) ∧ w'.cell? ⟨w2.heap.size, 1, none⟩ = some (.int .i64 x)) (by kernel_rfl) ?_ (fun hHeld => ?_)
   · (try dsimp only)
     (first | (go_simp; done) | (go_keep; done))
   refine tq 0 hHeld ?_
   refine tq 1 hHeld ?_
   refine tq 2 hHeld ?_
   refine tq 3 hHeld ?_
   refine tq 4 hHeld ?_
   refine tq 5 hHeld ?_
   refine tq 6 hHeld ?_
   refine tq 7 hHeld ?_
   refine tq 8 hHeld ?_
   refine tq 9 hHeld ?_
   refine tq 10 hHeld ?_
   refine tq 12 hHeld ?_
   refine tq 13 hHeld ?_
   refine tq 14 hHeld ?_
   refine tq 15 hHeld ?_
   refine tq 16 hHeld ?_
   refine tq 17 hHeld ?_
   refine tq 18 hHeld ?_
   refine tq 19 hHeld ?_
   refine tq 20 hHeld ?_
   refine tq 21 hHeld ?_
   refine tq 22 hHeld ?_
   (refine tc 11 fun K hK => ?_; go_simp; (go_at_call 51; refine (l6Within_any _ _ _ (by omega) (by omega)).mono ?_; rintro e w' ⟨rfl, rfl⟩); (try go_wp2_with fail); refine tr hK (fun hHeld => ?_); clear hK K)
   (refine tc 23 fun K hK => ?_; go_simp; (go_at_call 51; refine (l6Within_any _ _ _ (by omega) (by omega)).mono ?_; rintro e w' ⟨rfl, rfl⟩); (try go_wp2_with fail); refine tr hK (fun hHeld => ?_); clear hK K)
   refine tq 24 hHeld ?_
   (refine tc 25 fun K hK => ?_; go_simp; refine tr hK (fun hHeld => ?_); clear hK K)
   refine wpAnyH_done (by kernel_rfl) ?_ _
   go_wp2_with fail
   exact bodyPost_ret (v := vv (clampZ 20000000 ((P * x + A * (-y)).tdiv 256)) (clampZ 20000000 ((P * y + A * x).tdiv 256))) (by simp [results, Tryz.results114, go_sem, *]) rfl ⟨rfl, bel_a⟩
theorem LV.up {w0 w wr : World} {t g cap n : Nat} {xs : List Value} (h : LV w wr t g cap n xs) (hb : Below w0.heap.size w0 w) : LV w0 wr t g cap n xs :=
 ⟨hb.trans (h.bel.mono hb.size), h.len, ⟨h.own.1, by
  rcases h.own.2 with q | ⟨g', cap', cur, hv, hb', rest⟩
  · exact .inl q
  · exact .inr ⟨g', cap', cur, hv, Nat.le_trans hb.size hb', rest⟩⟩⟩
def joinG (l : List Int) (A B : Nat) : List Int := (l.set A (if ofL l B < ofL l A then ofL l B else ofL l A)).set B (if ofL l B < ofL l A then ofL l B else ofL l A)
def joinL (U C : Nat → Int) (l : List Int) (k : Nat) : List Int :=
 bif decide (U ((C (k * 5)).toNat * 12 + 8) = 0) || decide (U ((C (k * 5 + 1)).toNat * 12 + 8) = 0) then l else joinG l (C (k * 5)).toNat (C (k * 5 + 1)).toNat
def grpI (U C : Nat → Int) (l : List Int) : Nat → List Int
 | 0 => l
 | k + 1 => joinL U C (grpI U C l k) k
def grpR (U C : Nat → Int) (m : Nat) (l : List Int) : Nat → List Int
 | 0 => l
 | r + 1 => grpI U C (grpR U C m l r) m
def rng : Nat → List Int
 | 0 => []
 | i + 1 => rng i ++ [(i : Int)]
theorem joinG_len (l : List Int) (A B : Nat) : (joinG l A B).length = l.length := by unfold joinG; rw [List.length_set, List.length_set]
theorem joinL_len (U C : Nat → Int) (l : List Int) (k : Nat) : (joinL U C l k).length = l.length := by
 unfold joinL
 generalize (decide (U ((C (k * 5)).toNat * 12 + 8) = 0) || decide (U ((C (k * 5 + 1)).toNat * 12 + 8) = 0)) = b
 cases b
 · exact joinG_len _ _ _
 · rfl
theorem grpI_len (U C : Nat → Int) (l : List Int) : ∀ k, (grpI U C l k).length = l.length
 | 0 => rfl
 | k + 1 => by rw [grpI, joinL_len, grpI_len U C l k]
theorem grpR_len (U C : Nat → Int) (m : Nat) (l : List Int) : ∀ r, (grpR U C m l r).length = l.length
 | 0 => rfl
 | r + 1 => by rw [grpR, grpI_len, grpR_len U C m l r]
theorem rng_len : ∀ n, (rng n).length = n
 | 0 => rfl
 | n + 1 => by rw [rng, List.length_append, rng_len n]; rfl
def grpL (U C : Nat → Int) (m n : Nat) : List Int := (numS U (ofL (grpR U C m (rng n) n)) n).1
theorem l7Groups_any (a : Option Addr) (n c : Nat) (U : Nat → Int) (ac : Option Addr) (m cc : Nat) (C : Nat → Int) (w : World) (h : Flat w a (n * 12) U) (hn : n ≤ 1000) (hm : m ≤ 1048576) (h2 : Flat w ac (m * 5) C) (hC : CtOk n m C) :
 Calls Tryz.prog 20 #[.slice a n c, .slice ac m cc] w fun e w' => ∃ g1 c1, e = .returned (.slice (some ⟨g1, 0, none⟩) n c1) ∧ LV w w' 3 g1 c1 n (IV (grpL U C m n)) := by
 have hset := cset_map
 have L1 := LV.new (w := w) 3 (Below.refl _ w) rfl
 go_enter Tryz.func20, Tryz.ntmps20
 go_upto_region 3 with fail
 go_loopw [5, 6] (fun s5 s6 wr => ∃ (i g1 c1 : Nat), i ≤ n ∧ s6 = .int .i64 (i : Int) ∧ s5 = .slice (some ⟨g1, 0, none⟩) i c1 ∧ LV w wr 3 g1 c1 i (IV (rng i))) (fun _ s6 _ => n - (intOf s6).toNat)
 case atStart => exact ⟨0, _, _, Nat.zero_le _, rfl, rfl, L1⟩
 case round =>
  clear L1
  obtain ⟨i, g1, c1, hi, rfl, rfl, H1⟩ := hrel
  by_cases hlt : i < n
  · have hin : (i : Int) < (n : Int) := by omega
    have hE : Below wr.heap.size wr (wr.alloc (Obj.cells #[.int .i64 (i : Int)] 3)) := (Below.refl _ _).alloc (Nat.le_refl _) _
    have hcE : (wr.alloc (Obj.cells #[.int .i64 (i : Int)] 3)).cell? ⟨wr.heap.size, 0, none⟩ = some (.int .i64 (i : Int)) := by go_simp
    have HR : Shut (rng (i + 1) = rng i ++ [(i : Int)]) := by show _ = _; rw [rng]
    go_wp2_with (refine wpList_push rfl _ _ _ rfl 3 8 zcInt Tryz.underlying25 infoInt rfl (by decide) g1 c1 i (IV (rng i)) rfl H1 hE wr.heap.size rfl (.int .i64 (i : Int)) hcE rfl (by omega) ?_; intro g5 c5 w5 hp5 hg5 hl5)
    go_roundw
    case rel => exact ⟨i + 1, g5, c5, by omega, by go_num, rfl, by rw [HR.out, ← IV_app]; exact hp5⟩
    case measure => simp [intOf]; omega
  · obtain rfl : n = i := by omega
    go_upto_region 7 with fail
    go_loopw [7, 8, 9, 10] (fun s7 _ _ _ wr => ∃ r : Nat, r ≤ n ∧ s7 = .int .i64 (r : Int) ∧ LV w wr 3 g1 c1 n (IV (grpR U C m (rng n) r))) (fun s7 _ _ _ _ => n - (intOf s7).toNat)
    case atStart => exact ⟨0, Nat.zero_le _, rfl, H1⟩
    case round =>
     clear H1
     obtain ⟨r, hr, rfl, H1⟩ := hrel
     by_cases hlr : r < n
     · have hri : (r : Int) < (n : Int) := by omega
       have HG : Shut (grpR U C m (rng n) (r + 1) = grpI U C (grpR U C m (rng n) r) m) := by show _ = _; rw [grpR]
       have hl0 : (grpR U C m (rng n) r).length = n := by rw [grpR_len, rng_len]
       generalize grpR U C m (rng n) r = l0 at H1 HG hl0
       go_upto_region 10 with fail
       go_loopw [8, 9, 10] (fun s8 _ _ wq => ∃ k : Nat, k ≤ m ∧ s8 = .int .i64 (k : Int) ∧ LV w wq 3 g1 c1 n (IV (grpI U C l0 k))) (fun s8 _ _ _ => m - (intOf s8).toNat)
       case atStart => exact ⟨0, Nat.zero_le _, rfl, H1⟩
       case round =>
        clear H1
        obtain ⟨k, hk, rfl, H1⟩ := hrel
        by_cases hlt : k < m
        · have hkm : (k : Int) < (m : Int) := by omega
          have ca := hC.a k hlt
          have cb := hC.b k hlt
          have cn := hC.ne k hlt
          obtain ⟨b1, o1, e1, hbl1, hc1⟩ := (h2.below H1.bel) (by omega)
          have r0 := hc1 (k * 5) (by omega)
          have r1 := hc1 (k * 5 + 1) (by omega)
          have r2 := hc1 (k * 5 + 2) (by omega)
          have r3 := hc1 (k * 5 + 3) (by omega)
          have r4 := hc1 (k * 5 + 4) (by omega)
          simp only [← Nat.add_assoc] at r0 r1 r2 r3 r4
          clear hc1
          subst e1
          have HJ : Shut (grpI U C l0 (k + 1) = joinL U C (grpI U C l0 k) k) := by show _ = _; rw [grpI]
          have hll : (grpI U C l0 k).length = n := by rw [grpI_len]; exact hl0
          obtain ⟨l, hl⟩ : ∃ l, grpI U C l0 k = l := ⟨_, rfl⟩
          rw [hl] at HJ H1 hll
          clear hl
          unfold joinL at HJ
          obtain ⟨A, hA⟩ : ∃ A : Nat, C (k * 5) = (A : Int) := ⟨(C (k * 5)).toNat, by omega⟩
          obtain ⟨B, hBB⟩ : ∃ B : Nat, C (k * 5 + 1) = (B : Int) := ⟨(C (k * 5 + 1)).toNat, by omega⟩
          rw [hA, hBB, Int.toNat_natCast, Int.toNat_natCast] at HJ
          rw [hA] at ca r0 cn
          rw [hBB] at cb r1 cn
          clear hA hBB
          have hAB : ¬ A = B := fun e => cn (by rw [e])
          have hBA : ¬ B = A := fun e => cn (by rw [e])
          clear cn
          have hAn : A < n := by omega
          have hBn : B < n := by omega
          have hAi : (A : Int) < (n : Int) := ca.2
          have hBi : (B : Int) < (n : Int) := cb.2
          obtain ⟨b0, o0, e0, hbl0, hc0⟩ := (h.below H1.bel) (by omega)
          have rA := hc0 (A * 12 + 8) (by omega)
          have rB := hc0 (B * 12 + 8) (by omega)
          simp only [← Nat.add_assoc] at rA rB
          clear hc0
          subst e0
          have hE : Below wr.heap.size wr (wr.alloc (Obj.cells #[.int .i64 (A : Int), .int .i64 (B : Int), .int .i64 (C (k * 5 + 2)), .int .i64 (C (k * 5 + 3)), .int .i64 (C (k * 5 + 4))] 40)) := (Below.refl _ _).alloc (Nat.le_refl _) _
          have HE := H1.on hE
          by_cases mA : U (A * 12 + 8) = 0
          · have em : (U (A * 12 + 8) == 0) = true := by simp [mA]
            rw [decide_eq_true mA] at HJ
            clear mA
            have HJ' : Shut (grpI U C l0 (k + 1) = l) := HJ.out
            go_wp2_with fail
            go_roundw
            case rel => exact ⟨k + 1, by omega, by go_num, by rw [HJ'.out]; exact HE⟩
            case measure => simp [intOf]; omega
          · have em : (U (A * 12 + 8) == 0) = false := by simp [mA]
            by_cases mB : U (B * 12 + 8) = 0
            · have em2 : (U (B * 12 + 8) == 0) = true := by simp [mB]
              rw [decide_eq_false mA, decide_eq_true mB] at HJ
              clear mA mB
              have HJ' : Shut (grpI U C l0 (k + 1) = l) := HJ.out
              go_wp2_with fail
              go_roundw
              case rel => exact ⟨k + 1, by omega, by go_num, by rw [HJ'.out]; exact HE⟩
              case measure => simp [intOf]; omega
            · have em2 : (U (B * 12 + 8) == 0) = false := by simp [mB]
              rw [decide_eq_false mA, decide_eq_false mB] at HJ
              clear mA mB
              have HJ' : Shut (grpI U C l0 (k + 1) = joinG l A B) := HJ.out
              unfold joinG at HJ'
              obtain ⟨gm, hgm⟩ : ∃ x, (if ofL l B < ofL l A then ofL l B else ofL l A) = x := ⟨_, rfl⟩
              rw [hgm] at HJ'
              go_upto_region 14 with fail
              have x0 : (wr.alloc (Obj.cells #[.int .i64 (A : Int), .int .i64 (B : Int), .int .i64 (C (k * 5 + 2)), .int .i64 (C (k * 5 + 3)), .int .i64 (C (k * 5 + 4))] 40)).cell? ⟨wr.heap.size, 0, none⟩ = some (.int .i64 (A : Int)) := by go_simp
              have x1 : (wr.alloc (Obj.cells #[.int .i64 (A : Int), .int .i64 (B : Int), .int .i64 (C (k * 5 + 2)), .int .i64 (C (k * 5 + 3)), .int .i64 (C (k * 5 + 4))] 40)).cell? ⟨wr.heap.size, 1, none⟩ = some (.int .i64 (B : Int)) := by go_simp
              have hgp := H1.lt
              generalize (wr.alloc (Obj.cells #[.int .i64 (A : Int), .int .i64 (B : Int), .int .i64 (C (k * 5 + 2)), .int .i64 (C (k * 5 + 3)), .int .i64 (C (k * 5 + 4))] 40)) = wx at hE HE x0 x1 ⊢
              have hbz := hE.size
              generalize wr.heap.size = bp at x0 x1 hgp ⊢
              have yA := HE.ic hAn
              have yB := HE.ic hBn
              have yf := HE.fro
              have hne : ¬ bp = g1 := by omega
              have hne' : ¬ g1 = bp := by omega
              clear r0 r1 r2 r3 r4 rA rB em em2 hE H1
              refine wp_region_held_drew (S := fun w' => w'.cell? ⟨bp, 0, none⟩ = some (.int .i64 (A : Int)) ∧ w'.cell? ⟨bp, 1, none⟩ = some (.int .i64 (B : Int)) ∧ w'.cell? ⟨g1, A, none⟩ = some (.int .i64 (ofL l A)) ∧ w'.cell? ⟨g1, B, none⟩ = some (.int .i64 (ofL l B))) (by kernel_rfl) ?_ (fun hHeld => ?_)
              · (try dsimp only)
                (first | (go_simp; done) | (go_keep; done))
              refine tq 0 hHeld ?_
              refine tq 1 hHeld ?_
              refine tq 2 hHeld ?_
              refine tq 3 hHeld ?_
              refine tq 4 hHeld ?_
              refine tq 5 hHeld ?_
              refine tq 6 hHeld ?_
              refine tq 7 hHeld ?_
              refine tq 8 hHeld ?_
              refine tq 9 hHeld ?_
              refine tc 10 fun K hK => ?_
              (go_simp
               (go_at_call 35; refine (l3Less_q (ofL l A) (ofL l B) gm _ hgm).mono ?_; rintro e w5 ⟨rfl, hw5⟩; subst hw5)
               (try go_wp2_with fail)
               refine tr hK (fun hHeld => ?_)
               clear hK K)
              refine tq 11 hHeld ?_
              refine wpAnyH_done (by kernel_rfl) ?_ _
              go_wp2_with fail
              have q1 := (HE.dr.set A (.int .i64 gm)).set B (.int .i64 gm)
              rw [IV_set, IV_set, ← HJ'.out] at q1
              go_roundw
              case rel => exact ⟨k + 1, by omega, by go_num, q1⟩
              case measure => simp [intOf]; omega
        · obtain rfl : k = m := by omega
          go_wp2_with fail
          go_roundw
          case rel => exact ⟨r + 1, by omega, by go_num, by rw [HG.out]; exact H1⟩
          case measure => simp [intOf]; omega
     · obtain rfl : r = n := by omega
       go_wp2_with (go_at_call 36; refine (l7Number_any a r c U (some ⟨g1, 0, none⟩) c1 (ofL (grpR U C m (rng r) r)) _ (h.below H1.bel) hn H1.flat).mono ?_; rintro e w5 ⟨g5, c5, rfl, hp5⟩)
       go_ret
       exact ⟨_, _, rfl, hp5.up H1.bel⟩
def gnum (fx : Nat → Bool) (L : Nat → Nat) (j : Nat) : Int := if fx j = true then -1 else (cntp (fstB fx L) (L j) : Int)
def fxU (U : Nat → Int) (j : Nat) : Bool := decide (U (j * 12 + 8) = 0)
theorem ofL_set (l : List Int) (A : Nat) (v : Int) (j : Nat) (hA : A < l.length) : ofL (l.set A v) j = if j = A then v else ofL l j := by
 unfold ofL
 rw [List.getD_eq_getElem?_getD, List.getD_eq_getElem?_getD, List.getElem?_set]
 by_cases e : A = j
 · subst e; simp [hA]
 · rw [if_neg e, if_neg (fun q => e q.symm)]
theorem join_eq {U C : Nat → Int} {n m k : Nat} (hC : CtOk n m C) (hk : k < m) {l : List Int} (hl : l.length = n) {G : Nat → Nat} (h : ∀ j, j < n → ofL l j = (G j : Int)) : ∀ j, j < n → ofL (joinL U C l k) j = (stp G (edg U C k) j : Int) := by
 intro j hj
 have ha := hC.a k hk
 have hb := hC.b k hk
 have hA : (C (k * 5)).toNat < n := by omega
 have hB : (C (k * 5 + 1)).toNat < n := by omega
 unfold joinL edg
 generalize (C (k * 5)).toNat = A at hA ⊢
 generalize (C (k * 5 + 1)).toNat = B at hB ⊢
 by_cases hu : U (A * 12 + 8) = 0
 · rw [decide_eq_true hu, if_neg (fun q => q.1 hu)]
   exact h j hj
 · by_cases hv : U (B * 12 + 8) = 0
   · rw [decide_eq_false hu, decide_eq_true hv, if_neg (fun q => q.2 hv)]
     exact h j hj
   · rw [decide_eq_false hu, decide_eq_false hv, if_pos ⟨hu, hv⟩]
     show ofL (joinG l A B) j = ((if j = A ∨ j = B then min (G A) (G B) else G j : Nat) : Int)
     unfold joinG
     rw [ofL_set _ B _ j (by rw [List.length_set]; omega), ofL_set _ A _ j (by omega), h A hA, h B hB, h j hj]
     have hm : (if (G B : Int) < (G A : Int) then (G B : Int) else (G A : Int)) = ((min (G A) (G B) : Nat) : Int) := by split <;> omega
     rw [hm]
     by_cases e1 : j = B
     · rw [if_pos e1, if_pos (Or.inr e1)]
     · rw [if_neg e1]
       by_cases e2 : j = A
       · rw [if_pos e2, if_pos (Or.inl e2)]
       · rw [if_neg e2, if_neg (fun q => q.elim e2 e1)]
theorem grpI_eq {U C : Nat → Int} {n m : Nat} (hC : CtOk n m C) {l : List Int} (hl : l.length = n) {G : Nat → Nat} (h : ∀ j, j < n → ofL l j = (G j : Int)) : ∀ k, k ≤ m → ∀ j, j < n → ofL (grpI U C l k) j = (rnd (edg U C) G k j : Int)
 | 0, _ => h
 | k + 1, hk => by
  rw [grpI, rnd]
  exact join_eq hC hk (by rw [grpI_len]; exact hl) (grpI_eq hC hl h k (by omega))
theorem rng_at : ∀ n j, j < n → ofL (rng n) j = (j : Int)
 | 0, j, h => absurd h (Nat.not_lt_zero _)
 | n + 1, j, h => by
  rw [rng]
  by_cases e : j < n
  · rw [ofL_app _ _ _ (by rw [rng_len]; exact e)]; exact rng_at n j e
  · obtain rfl : j = n := by omega
    rw [ofL_app' _ _ _ (by rw [rng_len]; exact Nat.le_refl _), rng_len, Nat.sub_self]; rfl
theorem grpR_eq {U C : Nat → Int} {n m : Nat} (hC : CtOk n m C) : ∀ r j, j < n → ofL (grpR U C m (rng n) r) j = (rnds (edg U C) m r j : Int)
 | 0 => fun j hj => rng_at n j hj
 | r + 1 => by
  rw [grpR, rnds]
  exact grpI_eq hC (by rw [grpR_len, rng_len]) (grpR_eq hC r) m (Nat.le_refl _)
def fl (p : Nat → Bool) : Nat → List Int
 | 0 => []
 | i + 1 => fl p i ++ (if p i = true then [(i : Int)] else [])
theorem fl_len (p : Nat → Bool) : ∀ i, (fl p i).length = cntp p i
 | 0 => rfl
 | i + 1 => by
  rw [fl, cntp, List.length_append, fl_len p i]
  split <;> rfl
theorem atOf_app (l x : List Int) (v : Int) : ∀ k, k ≤ l.length → atOf (l ++ x) v k = atOf l v k
 | 0, _ => rfl
 | k + 1, h => by rw [atOf, atOf, ofL_app _ _ _ h, atOf_app l x v k (by omega)]
theorem atOf_fl (p : Nat → Bool) (x : Nat) : ∀ i, atOf (fl p i) (x : Int) (cntp p i) = if x < i ∧ p x = true then (cntp p x : Int) else -1
 | 0 => by rw [if_neg (fun q => absurd q.1 (Nat.not_lt_zero _))]; rfl
 | i + 1 => by
  have ih := atOf_fl p x i
  cases hp : p i with
  | false =>
   have e1 : fl p (i + 1) = fl p i := by rw [fl, hp]; simp
   have e2 : cntp p (i + 1) = cntp p i := by rw [cntp, hp]; rfl
   rw [e1, e2, ih]
   by_cases q : x < i ∧ p x = true
   · rw [if_pos q, if_pos ⟨by omega, q.2⟩]
   · rw [if_neg q, if_neg]
     rintro ⟨a, b⟩
     by_cases e : x = i
     · subst e; rw [hp] at b; cases b
     · exact q ⟨by omega, b⟩
  | true =>
   have e1 : fl p (i + 1) = fl p i ++ [(i : Int)] := by rw [fl, hp]; rfl
   have e2 : cntp p (i + 1) = cntp p i + 1 := by rw [cntp, hp]; rfl
   have e3 : ofL (fl p i ++ [(i : Int)]) (cntp p i) = (i : Int) := by
    rw [ofL_app' _ _ _ (by rw [fl_len]; exact Nat.le_refl _), fl_len, Nat.sub_self]; rfl
   rw [e1, e2, atOf, e3, atOf_app _ _ _ _ (by rw [fl_len]; exact Nat.le_refl _), ih]
   by_cases e : i = x
   · subst e
     rw [if_pos rfl, if_pos ⟨by omega, hp⟩]
   · rw [if_neg (by omega)]
     by_cases q : x < i ∧ p x = true
     · rw [if_pos q, if_pos ⟨by omega, q.2⟩]
     · rw [if_neg q, if_neg (fun r => q ⟨by omega, r.2⟩)]
structure Tops (fx : Nat → Bool) (L : Nat → Nat) : Prop where
 le : ∀ j, L j ≤ j
 idem : ∀ j, L (L j) = L j
 fx : ∀ j, fx (L j) = fx j
theorem Tops.fst {fx : Nat → Bool} {L : Nat → Nat} (h : Tops fx L) {j : Nat} (hj : fx j = false) : fstB fx L (L j) = true := by
 unfold fstB; rw [h.fx, hj, decide_eq_true (h.idem j)]; rfl
theorem numS_eq {U G : Nat → Int} {L : Nat → Nat} {n : Nat} (hT : Tops (fxU U) L) (hG : ∀ j, j < n → G j = (L j : Int)) : ∀ i, i ≤ n → (numS U G i).2 = fl (fstB (fxU U) L) i ∧ ∀ j, j < i → ofL (numS U G i).1 j = gnum (fxU U) L j
 | 0, _ => ⟨rfl, fun j h => absurd h (Nat.not_lt_zero _)⟩
 | i + 1, hi => by
  obtain ⟨ih1, ih2⟩ := numS_eq hT hG i (by omega)
  obtain ⟨hl, -⟩ := numS_len U G i
  have fin : ∀ (v : Int) (j : Nat), v = gnum (fxU U) L i → j < i + 1 → ofL ((numS U G i).1 ++ [v]) j = gnum (fxU U) L j := fun v j hv hj => by
   by_cases e : j < i
   · rw [ofL_app _ _ _ (by omega)]; exact ih2 j e
   · obtain rfl : j = i := by omega
     rw [ofL_app' _ _ _ (by omega), hl, Nat.sub_self]
     exact hv
  by_cases hu : U (i * 12 + 8) = 0
  · have hf : fxU U i = true := decide_eq_true hu
    have hb : fstB (fxU U) L i = false := by unfold fstB; rw [hf]; rfl
    rw [numS_z hu, fl, hb]
    exact ⟨by rw [ih1]; simp, fun j hj => fin _ j (by unfold gnum; rw [if_pos hf]) hj⟩
  · have hf : fxU U i = false := decide_eq_false hu
    have ha : atOf (numS U G i).2 (G i) (numS U G i).2.length = if L i < i ∧ fstB (fxU U) L (L i) = true then (cntp (fstB (fxU U) L) (L i) : Int) else -1 := by
     rw [ih1, fl_len, hG i (by omega), atOf_fl]
    have hle := hT.le i
    by_cases e : L i = i
    · rw [if_neg (by omega)] at ha
      have hb : fstB (fxU U) L i = true := by unfold fstB; rw [hf, decide_eq_true e]; rfl
      rw [numS_n hu (by rw [ha]; decide), fl, hb]
      refine ⟨by rw [ih1, hG i (by omega), e]; rfl, fun j hj => fin _ j ?_ hj⟩
      unfold gnum
      rw [if_neg (by rw [hf]; simp), e, ih1, fl_len]
    · rw [if_pos ⟨by omega, hT.fst hf⟩] at ha
      have hb : fstB (fxU U) L i = false := by unfold fstB; rw [decide_eq_false e]; simp
      rw [numS_o hu (by rw [ha]; omega), fl, hb]
      refine ⟨by rw [ih1]; simp, fun j hj => fin _ j ?_ hj⟩
      unfold gnum
      rw [if_neg (by rw [hf]; simp), ha]
theorem lab_tops (U C : Nat → Int) (m : Nat) : Tops (fxU U) (lab (edg U C) m) := by
 refine ⟨lab_le _ m, lab_idem _ m, fun j => ?_⟩
 have h := lab_set (edg U C) (fun j => U (j * 12 + 8) = 0) m (fun i A B _ e => by
  unfold edg at e
  split at e
  · rename_i q
    simp only [Option.some.injEq, Prod.mk.injEq] at e
    obtain ⟨rfl, rfl⟩ := e
    exact ⟨fun x => absurd x q.1, fun x => absurd x q.2⟩
  · cases e) j
 unfold fxU
 exact decide_eq_decide.2 h
theorem grpL_len (U C : Nat → Int) (m n : Nat) : (grpL U C m n).length = n := by unfold grpL; exact (numS_len _ _ n).1
theorem grpL_eq {U C : Nat → Int} {n m : Nat} (hC : CtOk n m C) : ∀ j, j < n → ofL (grpL U C m n) j = gnum (fxU U) (lab (edg U C) m) j := by
 have hE : ∀ i A B, i < m → edg U C i = some (A, B) → A < n ∧ B < n := fun i A B hi e => by
  have ha := hC.a i hi
  have hb := hC.b i hi
  unfold edg at e
  split at e
  · simp only [Option.some.injEq, Prod.mk.injEq] at e
    obtain ⟨rfl, rfl⟩ := e
    omega
  · cases e
 exact (numS_eq (lab_tops U C m) (fun j hj => by rw [grpR_eq hC n j hj, rnds_lab _ m n hE j hj]) n (Nat.le_refl _)).2
def vnum (fx : Nat → Bool) (L : Nat → Nat) (k j : Nat) : Int := if fx j = false ∧ cntp (fstB fx L) (L j) < k then (cntp (fstB fx L) (L j) : Int) else -1
theorem cntp_inj (p : Nat → Bool) {i j : Nat} (hi : p i = true) (hj : p j = true) (h : cntp p i = cntp p j) : i = j := by
 rcases Nat.lt_trichotomy i j with q | q | q
 · have := cntp_in p q hi; omega
 · exact q
 · have := cntp_in p q hj; omega
theorem vnum_0 (fx : Nat → Bool) (L : Nat → Nat) (j : Nat) : vnum fx L 0 j = -1 := if_neg (fun q => absurd q.2 (Nat.not_lt_zero _))
theorem vnum_in {fx : Nat → Bool} {L : Nat → Nat} (hT : Tops fx L) {i k j : Nat} (hf : fstB fx L i = true) (hk : cntp (fstB fx L) i = k) (hj : L j = i) : vnum fx L (k + 1) j = (k : Int) := by
 have hx : fx j = false := by
  rw [← hT.fx, hj]
  unfold fstB at hf
  cases h : fx i with
  | false => rfl
  | true => rw [h] at hf; cases hf
 unfold vnum
 rw [if_pos ⟨hx, by rw [hj, hk]; omega⟩, hj, hk]
theorem vnum_out {fx : Nat → Bool} {L : Nat → Nat} (hT : Tops fx L) {i k j : Nat} (hf : fstB fx L i = true) (hk : cntp (fstB fx L) i = k) (hj : ¬ L j = i) : vnum fx L (k + 1) j = vnum fx L k j := by
 unfold vnum
 by_cases h : fx j = false ∧ cntp (fstB fx L) (L j) < k
 · rw [if_pos h, if_pos ⟨h.1, by omega⟩]
 · rw [if_neg h, if_neg]
   rintro ⟨a, b⟩
   refine hj (cntp_inj _ (hT.fst a) hf ?_)
   have : ¬ cntp (fstB fx L) (L j) < k := fun q => h ⟨a, q⟩
   omega
theorem vnum_all {fx : Nat → Bool} {L : Nat → Nat} (hT : Tops fx L) {n j : Nat} (hj : j < n) : vnum fx L (cntp (fstB fx L) n) j = gnum fx L j := by
 unfold vnum gnum
 cases h : fx j with
 | true => rw [if_neg (fun q => by cases q.1), if_pos rfl]
 | false =>
  have := hT.le j
  rw [if_pos ⟨rfl, cntp_in _ (by omega) (hT.fst h)⟩, if_neg (by simp)]
theorem memL_mem (L : Nat → Nat) (i : Nat) : ∀ n j, j ∈ memL L i n ↔ j < n ∧ L j = i
 | 0, j => by simp [memL]
 | n + 1, j => by
  rw [memL, List.mem_append, memL_mem L i n j]
  by_cases h : L n = i
  · rw [if_pos h, List.mem_singleton]
    constructor
    · rintro (⟨a, b⟩ | rfl)
      · exact ⟨by omega, b⟩
      · exact ⟨by omega, h⟩
    · rintro ⟨a, b⟩
      by_cases e : j = n
      · exact .inr e
      · exact .inl ⟨by omega, b⟩
  · rw [if_neg h]
    constructor
    · rintro (⟨a, b⟩ | h)
      · exact ⟨by omega, b⟩
      · cases h
    · rintro ⟨a, b⟩
      by_cases e : j = n
      · subst e; exact absurd b h
      · exact .inl ⟨by omega, b⟩
end Go.Proofs.YtalkkjhehndaoaaGreat
