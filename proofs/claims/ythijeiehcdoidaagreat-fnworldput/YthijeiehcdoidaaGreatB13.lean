/- Texts of a proof. -/
import Derived.Test.YthijeiehcdoidaaGreatB7
import Derived.Test.YthijeiehcdoidaaGreatB4
import Derived.Test.YthijeiehcdoidaaGreatB1
import Derived.Deep.RegionHeld3
import Derived.Deep.DeepCutAuto
import Derived.Test.YthijeiehcdoidaaGreatB3
import Derived.Test.YthijeiehcdoidaaGreatB12
import Derived.Test.YthijeiehcdoidaaGreatB6
import Derived.Test.YthijeiehcdoidaaGreatB10
set_option maxHeartbeats 16000000
set_option maxRecDepth 20000
namespace Go.Proofs.YthijeiehcdoidaaGreat
open Go.RowKit
set_option linter.unusedVariables false
set_option linter.unusedSimpArgs false
def mxT (a b c d x y g : Int) : (Int × Int × Int) × Bool := if ptB a b c d x y = true then (((bsT (c - x) (x - a) (d - y) (y - b)).1, (bsT (c - x) (x - a) (d - y) (y - b)).2.1, (bsT (c - x) (x - a) (d - y) (y - b)).2.2 + g), true) else rdT (x - mn (mx x a) c) (y - mn (mx y b) d) g
theorem bsT_bd {s0 s1 s2 s3 B : Int} (h0 : -B ≤ s0 ∧ s0 ≤ B) (h1 : -B ≤ s1 ∧ s1 ≤ B) (h2 : -B ≤ s2 ∧ s2 ≤ B) (h3 : -B ≤ s3 ∧ s3 ≤ B) : -B ≤ (bsT s0 s1 s2 s3).2.2 ∧ (bsT s0 s1 s2 s3).2.2 ≤ B ∧ (-256 ≤ (bsT s0 s1 s2 s3).1 ∧ (bsT s0 s1 s2 s3).1 ≤ 256) ∧ (-256 ≤ (bsT s0 s1 s2 s3).2.1 ∧ (bsT s0 s1 s2 s3).2.1 ≤ 256) := by
 unfold bsT
 by_cases a : s1 < s0
 · simp only [if_pos a]
   by_cases b : s2 < s1
   · simp only [if_pos b]
     by_cases c : s3 < s2
     · simp only [if_pos c]; omega
     · simp only [if_neg c]; omega
   · simp only [if_neg b]
     by_cases c : s3 < s1
     · simp only [if_pos c]; omega
     · simp only [if_neg c]; omega
 · simp only [if_neg a]
   by_cases b : s2 < s0
   · simp only [if_pos b]
     by_cases c : s3 < s2
     · simp only [if_pos c]; omega
     · simp only [if_neg c]; omega
   · simp only [if_neg b]
     by_cases c : s3 < s0
     · simp only [if_pos c]; omega
     · simp only [if_neg c]; omega
theorem near_in {a c x B : Int} (ha : -B ≤ a ∧ a ≤ B) (hc : -B ≤ c ∧ c ≤ B) (hx : -B ≤ x ∧ x ≤ B) : -B ≤ mn (mx x a) c ∧ mn (mx x a) c ≤ B := by
 unfold mn mx; repeat' split <;> omega
theorem spoint_q (a b c d x y : Int) (z : Bool) (w : World) (e : ptB a b c d x y = z) :
 Calls Tryz.prog 113 #[b4 a b c d, vv x y] w fun e w' => e = .returned (.bool z) ∧ Below w.heap.size w w' := by
 subst e; exact l3Point_any a b c d x y w
theorem snear_q (a b c d x y X Y : Int) (w : World) (e1 : mn (mx x a) c = X) (e2 : mn (mx y b) d = Y) :
 Calls Tryz.prog 179 #[b4 a b c d, vv x y] w fun e w' => e = .returned (vv X Y) ∧ Below w.heap.size w w' := by
 subst e1; subst e2; exact l3Near_any a b c d x y w
theorem l5Mixed_q (a b c d x y g X Y D : Int) (K : Bool) (w : World) (qa : -3000000 ≤ a ∧ a ≤ 3000000) (qb : -3000000 ≤ b ∧ b ≤ 3000000) (qc : -3000000 ≤ c ∧ c ≤ 3000000) (qd : -3000000 ≤ d ∧ d ≤ 3000000) (qx : -3000000 ≤ x ∧ x ≤ 3000000) (qy : -3000000 ≤ y ∧ y ≤ 3000000) (g0 : 0 ≤ g ∧ g ≤ 100000) (e : mxT a b c d x y g = ((X, Y, D), K)) :
 Calls Tryz.prog 169 #[b4 a b c d, vv x y, .int .i64 g] w fun e w' => e = .returned (.tuple #[s3 X Y D, .bool K]) ∧ Below w.heap.size w w' := by
 have hset := cset_map
 unfold mxT at e
 cases eP : ptB a b c d x y with
 | true =>
  rw [if_pos eP] at e
  have hb := bsT_bd (s0 := c - x) (s1 := x - a) (s2 := d - y) (s3 := y - b) (B := 6000000) (by omega) (by omega) (by omega) (by omega)
  obtain ⟨⟨P, Q, E⟩, eQ⟩ : ∃ z, bsT (c - x) (x - a) (d - y) (y - b) = z := ⟨_, rfl⟩
  rw [eQ] at e hb
  dsimp only at hb
  simp only [Prod.mk.injEq] at e
  obtain ⟨⟨eX, eY, eD⟩, eK⟩ := e
  subst eX
  subst eY
  subst eD
  subst eK
  have eB : bxT a b c d x y x y = ((P, Q, E), true) := by
   have hm : (leB a b x y && leB x y c d) = true := by
    unfold ptB at eP; have := of_decide_eq_true eP; unfold leB; simp only [Bool.and_eq_true, decide_eq_true_eq]; omega
   unfold bxT; rw [if_pos hm, eQ]
  have w1 := i64w (n := E + g) (by have := hb.1; have := hb.2.1; omega)
  clear hb eQ
  go_enter Tryz.func169, Tryz.ntmps169
  go_wp2_with (first
  | (go_at_call 113; refine (spoint_q _ _ _ _ _ _ _ _ eP).mono ?_; rintro e w1 ⟨rfl, hb1⟩; have hz1 := hb1.size; (try simp only [zz] at hz1); have := kf3 hb1 w.heap.size)
  | (go_at_call 168; refine (l5Boxes_q _ _ _ _ _ _ _ _ P Q E true _ (by omega) (by omega) (by omega) (by omega) (by omega) (by omega) (by omega) (by omega) eB).mono ?_; rintro e w2 ⟨rfl, hb2⟩; have hz2 := hb2.size; (try simp only [zz] at hz2); have := kf3 hb2 w.heap.size))
  exact bodyPost_ret (v := .tuple #[s3 P Q (E + g), .bool true]) (by simp [results, Tryz.results169, go_sem, *]) rfl ⟨rfl, bel_a⟩
 | false =>
  rw [if_neg (by simp [eP])] at e
  have n1 := near_in (a := a) (c := c) (x := x) (B := 3000000) (by omega) (by omega) (by omega)
  have n2 := near_in (a := b) (c := d) (x := y) (B := 3000000) (by omega) (by omega) (by omega)
  obtain ⟨nx, eN1⟩ : ∃ z, mn (mx x a) c = z := ⟨_, rfl⟩
  obtain ⟨ny, eN2⟩ : ∃ z, mn (mx y b) d = z := ⟨_, rfl⟩
  rw [eN1] at e n1
  rw [eN2] at e n2
  go_enter Tryz.func169, Tryz.ntmps169
  go_upto_region 5 with (go_at_call 113; refine (spoint_q _ _ _ _ _ _ _ _ eP).mono ?_; rintro e w1 ⟨rfl, hb1⟩; have hz1 := hb1.size; (try simp only [zz] at hz1); have := kf3 hb1 w.heap.size)
  refine wp_region_held_drew (S := fun w' => w'.cell? ⟨w.heap.size, 0, none⟩ = some (.int .i64 a) ∧ w'.cell? ⟨w.heap.size, 1, none⟩ = some (.int .i64 b) ∧ w'.cell? ⟨w.heap.size, 2, none⟩ = some (.int .i64 c) ∧ w'.cell? ⟨w.heap.size, 3, none⟩ = some (.int .i64 d) ∧ w'.cell? ⟨w.heap.size + 1, 0, none⟩ = some (.int .i64 x) ∧ w'.cell? ⟨w.heap.size + 1, 1, none⟩ = some (.int .i64 y)) (by kernel_rfl) ?_ (fun hHeld => ?_)
  · (try dsimp only)
    (first | (go_simp; done) | (go_keep; done))
  refine tq 0 hHeld ?_
  refine tq 1 hHeld ?_
  refine tq 3 hHeld ?_
  refine tq 4 hHeld ?_
  (refine tc 2 fun K hK => ?_; go_simp; (go_at_call 179; refine (snear_q _ _ _ _ _ _ _ _ _ eN1 eN2).mono ?_; rintro e w3 ⟨rfl, hb3⟩; have hz3 := hb3.size; (try simp only [zz] at hz3); have := kf3 hb3 w.heap.size); (try go_wp2_with fail); refine tr hK (fun hHeld => ?_); clear hK K)
  (refine tc 5 fun K hK => ?_; go_simp; (go_at_call 167; refine (l5Rounds_q nx ny x y g X Y D _ _ (by omega) (by omega) (by omega) (by omega) (by omega) e).mono ?_; rintro e w4 ⟨rfl, hb4⟩; have hz4 := hb4.size; (try simp only [zz] at hz4); have := kf3 hb4 w.heap.size); (try go_wp2_with fail); refine tr hK (fun hHeld => ?_); clear hK K)
  refine tq 6 hHeld ?_
  refine tq 7 hHeld ?_
  (refine tc 8 fun K hK => ?_; go_simp; refine tr hK (fun hHeld => ?_); clear hK K)
  refine tq 9 hHeld ?_
  refine wpAnyH_done (by kernel_rfl) ?_ _
  go_wp2_with fail
  exact bodyPost_ret (v := .tuple #[s3 X Y D, .bool K]) (by simp [results, Tryz.results169, go_sem, *]) rfl ⟨rfl, bel_a⟩
theorem l5Turn_q (x y k : Int) (w : World) (hx : -2000000000 ≤ x ∧ x ≤ 2000000000) (hy : -2000000000 ≤ y ∧ y ≤ 2000000000) :
 Calls Tryz.prog 170 #[s3 x y k] w fun e w' => e = .returned (s3 (-x) (-y) k) ∧ Below w.heap.size w w' := by
 have hset := cset_map
 have w1 := i64w (n := -x) (by omega)
 have w2 := i64w (n := -y) (by omega)
 go_enter Tryz.func170, Tryz.ntmps170
 go_wp2_with fail
 exact bodyPost_ret (v := s3 (-x) (-y) k) (by simp [results, Tryz.results170, go_sem, *]) rfl ⟨rfl, bel_a⟩
theorem sBodiesOk_any (a : Option Addr) (n c : Nat) (U : Nat → Int) (w : World) (h : Flat w a (n * 12) U) (hn : n ≤ 1048576) :
 Calls Tryz.prog 23 #[.slice a n c] w fun e w' => e = .returned (.bool (bodsB n U)) ∧ Below w.heap.size w w' := by
 have hset := cset_map
 go_enter Tryz.func23, Tryz.ntmps23
 go_wp2
 go_loopw [3] (fun i wr => ∃ k : Nat, k ≤ n ∧ i = .int .i64 (k : Int) ∧ Below w.heap.size w wr ∧ allBB U k = true) (fun i _ => n - (intOf i).toNat)
 case atStart => exact ⟨0, Nat.zero_le _, rfl, Below.refl _ _, rfl⟩
 case round =>
  obtain ⟨k, hk, rfl, hB, hall0⟩ := hrel
  have hall : Shut (allBB U k = true) := hall0
  clear hall0
  by_cases hlt : k < n
  · have hkn : (k : Int) < (n : Int) := by omega
    obtain ⟨b, o, rfl, hbl, hc⟩ := (h.below hB) (by omega)
    have c0 := hc (k * 12) (by omega)
    have c1 := hc (k * 12 + 1) (by omega)
    have c2 := hc (k * 12 + 2) (by omega)
    have c3 := hc (k * 12 + 3) (by omega)
    have c4 := hc (k * 12 + 4) (by omega)
    have c5 := hc (k * 12 + 5) (by omega)
    have c6 := hc (k * 12 + 6) (by omega)
    have c7 := hc (k * 12 + 7) (by omega)
    have c8 := hc (k * 12 + 8) (by omega)
    have c9 := hc (k * 12 + 9) (by omega)
    have c10 := hc (k * 12 + 10) (by omega)
    have c11 := hc (k * 12 + 11) (by omega)
    simp only [← Nat.add_assoc] at c0 c1 c2 c3 c4 c5 c6 c7 c8 c9 c10 c11
    go_upto_region 4 with fail
    cases hi : bodyB (fun j => U (k * 12 + j)) with
    | false =>
     have hno : Shut (stepBB U k = false) := by show stepBB U k = false; rw [stepBB, hi]; rfl
     clear hc
     refine wp_region_held_drew (S := fun w' => w'.cell? ⟨b, o + k * 12, none⟩ = some (.int .i64 (U (k * 12))) ∧ w'.cell? ⟨b, o + k * 12 + 1, none⟩ = some (.int .i64 (U (k * 12 + 1))) ∧ w'.cell? ⟨b, o + k * 12 + 2, none⟩ = some (.int .i64 (U (k * 12 + 2))) ∧ w'.cell? ⟨b, o + k * 12 + 3, none⟩ = some (.int .i64 (U (k * 12 + 3))) ∧ w'.cell? ⟨b, o + k * 12 + 4, none⟩ = some (.int .i64 (U (k * 12 + 4))) ∧ w'.cell? ⟨b, o + k * 12 + 5, none⟩ = some (.int .i64 (U (k * 12 + 5))) ∧ w'.cell? ⟨b, o + k * 12 + 6, none⟩ = some (.int .i64 (U (k * 12 + 6))) ∧ w'.cell? ⟨b, o + k * 12 + 7, none⟩ = some (.int .i64 (U (k * 12 + 7))) ∧ w'.cell? ⟨b, o + k * 12 + 8, none⟩ = some (.int .i64 (U (k * 12 + 8))) ∧ w'.cell? ⟨b, o + k * 12 + 9, none⟩ = some (.int .i64 (U (k * 12 + 9))) ∧ w'.cell? ⟨b, o + k * 12 + 10, none⟩ = some (.int .i64 (U (k * 12 + 10))) ∧ w'.cell? ⟨b, o + k * 12 + 11, none⟩ = some (.int .i64 (U (k * 12 + 11)))) (by kernel_rfl) ?_ (fun hHeld => ?_)
     · (try dsimp only)
       (first | (go_simp; done) | (go_keep; done))
     refine tq 0 hHeld ?_
     refine tq 1 hHeld ?_
     refine tq 2 hHeld ?_
     refine tq 3 hHeld ?_
     (refine tc 4 fun K hK => ?_; go_simp; (go_at_call 36; refine (sBodyOk_q (fun j => U (k * 12 + j)) _ _ (by exact hi)).mono ?_; rintro e w2 ⟨rfl, hb2⟩; obtain ⟨hc2, hf2⟩ := bcell hb2; have hz2 := hb2.size; (try simp only [zz] at hc2 hf2 hz2); have hk3 := fun o => hc2 b o (by omega); clear hc2 hf2); (try go_wp2_with fail); refine tr hK (fun hHeld => ?_); clear hK K)
     refine tq 5 hHeld ?_
     refine tq 6 hHeld ?_
     refine tn 7 hHeld ?_
     refine tn 8 hHeld ?_
     refine tn 9 hHeld ?_
     refine tn 10 hHeld ?_
     refine tn 11 hHeld ?_
     refine tn 12 hHeld ?_
     refine tn 13 hHeld ?_
     refine tn 14 hHeld ?_
     refine tn 15 hHeld ?_
     refine tn 16 hHeld ?_
     refine tn 17 hHeld ?_
     refine tn 18 hHeld ?_
     refine tn 19 hHeld ?_
     refine tn 20 hHeld ?_
     refine tn 21 hHeld ?_
     refine tn 22 hHeld ?_
     refine tq 23 hHeld ?_
     refine wpAnyH_done (by kernel_rfl) ?_ _
     go_wp2_with fail
     go_ret
     exact ⟨by rw [bodsB, allBB_no hno.out n hlt, Bool.and_false]; rfl, hB.trans (hb2.ofDr.mono hB.size)⟩
    | true =>
     by_cases hk0 : 0 < k
     · have hd0 : decide (0 < k) = true := decide_eq_true hk0
       obtain ⟨j, hj⟩ : ∃ j, j + 1 = k := ⟨k - 1, by omega⟩
       have hj' : (k : Int) - 1 = (j : Int) := by omega
       have hjn : j < n := by omega
       have hwj : IntKind.i64.wrap (j : Int) = (j : Int) := i64w (by omega)
       have HJ : Shut (j + 1 = k) := hj
       clear hj
       have p0 := hc (j * 12) (by omega)
       clear hc
       by_cases hge : U (j * 12) < U (k * 12)
       · have hdg : decide (U (k * 12) ≤ U (j * 12)) = false := decide_eq_false (by omega)
         have hyes : Shut (stepBB U k = true) := by show stepBB U k = true; rw [stepBB, hi, show k - 1 = j from by have := HJ.out; omega]; simp [hge]
         refine wp_region_held_drew (S := fun w' => w'.cell? ⟨b, o + k * 12, none⟩ = some (.int .i64 (U (k * 12))) ∧ w'.cell? ⟨b, o + k * 12 + 1, none⟩ = some (.int .i64 (U (k * 12 + 1))) ∧ w'.cell? ⟨b, o + k * 12 + 2, none⟩ = some (.int .i64 (U (k * 12 + 2))) ∧ w'.cell? ⟨b, o + k * 12 + 3, none⟩ = some (.int .i64 (U (k * 12 + 3))) ∧ w'.cell? ⟨b, o + k * 12 + 4, none⟩ = some (.int .i64 (U (k * 12 + 4))) ∧ w'.cell? ⟨b, o + k * 12 + 5, none⟩ = some (.int .i64 (U (k * 12 + 5))) ∧ w'.cell? ⟨b, o + k * 12 + 6, none⟩ = some (.int .i64 (U (k * 12 + 6))) ∧ w'.cell? ⟨b, o + k * 12 + 7, none⟩ = some (.int .i64 (U (k * 12 + 7))) ∧ w'.cell? ⟨b, o + k * 12 + 8, none⟩ = some (.int .i64 (U (k * 12 + 8))) ∧ w'.cell? ⟨b, o + k * 12 + 9, none⟩ = some (.int .i64 (U (k * 12 + 9))) ∧ w'.cell? ⟨b, o + k * 12 + 10, none⟩ = some (.int .i64 (U (k * 12 + 10))) ∧ w'.cell? ⟨b, o + k * 12 + 11, none⟩ = some (.int .i64 (U (k * 12 + 11))) ∧ w'.cell? ⟨b, o + j * 12, none⟩ = some (.int .i64 (U (j * 12)))) (by kernel_rfl) ?_ (fun hHeld => ?_)
         · (try dsimp only)
           (first | (go_simp; done) | (go_keep; done))
         refine tq 0 hHeld ?_
         refine tq 1 hHeld ?_
         refine tq 2 hHeld ?_
         refine tq 3 hHeld ?_
         (refine tc 4 fun K hK => ?_; go_simp; (go_at_call 36; refine (sBodyOk_q (fun j => U (k * 12 + j)) _ _ (by exact hi)).mono ?_; rintro e w2 ⟨rfl, hb2⟩; obtain ⟨hc2, hf2⟩ := bcell hb2; have hz2 := hb2.size; (try simp only [zz] at hc2 hf2 hz2); have hk3 := fun o => hc2 b o (by omega); clear hc2 hf2); (try go_wp2_with fail); refine tr hK (fun hHeld => ?_); clear hK K)
         refine tq 5 hHeld ?_
         refine tq 6 hHeld ?_
         refine tq 7 hHeld ?_
         refine tq 8 hHeld ?_
         refine tq 9 hHeld ?_
         refine tq 10 hHeld ?_
         refine tq 11 hHeld ?_
         refine tq 12 hHeld ?_
         refine tq 13 hHeld ?_
         refine tq 14 hHeld ?_
         refine tq 15 hHeld ?_
         refine tq 16 hHeld ?_
         refine tq 17 hHeld ?_
         refine tq 18 hHeld ?_
         refine tq 19 hHeld ?_
         refine tq 20 hHeld ?_
         refine tq 21 hHeld ?_
         refine tq 22 hHeld ?_
         refine tq 23 hHeld ?_
         refine wpAnyH_done (by kernel_rfl) ?_ _
         go_wp2_with fail
         go_roundw
         case rel => exact ⟨k + 1, by omega, by go_num, hB.trans (hb2.ofDr.mono hB.size), by rw [allBB, hall.out, hyes.out]; rfl⟩
         case measure => simp [intOf]; omega
       · have hdg : decide (U (k * 12) ≤ U (j * 12)) = true := decide_eq_true (by omega)
         have hno : Shut (stepBB U k = false) := by show stepBB U k = false; rw [stepBB, show k - 1 = j from by have := HJ.out; omega]; have := HJ.out; simp [hge]; omega
         refine wp_region_held_drew (S := fun w' => w'.cell? ⟨b, o + k * 12, none⟩ = some (.int .i64 (U (k * 12))) ∧ w'.cell? ⟨b, o + k * 12 + 1, none⟩ = some (.int .i64 (U (k * 12 + 1))) ∧ w'.cell? ⟨b, o + k * 12 + 2, none⟩ = some (.int .i64 (U (k * 12 + 2))) ∧ w'.cell? ⟨b, o + k * 12 + 3, none⟩ = some (.int .i64 (U (k * 12 + 3))) ∧ w'.cell? ⟨b, o + k * 12 + 4, none⟩ = some (.int .i64 (U (k * 12 + 4))) ∧ w'.cell? ⟨b, o + k * 12 + 5, none⟩ = some (.int .i64 (U (k * 12 + 5))) ∧ w'.cell? ⟨b, o + k * 12 + 6, none⟩ = some (.int .i64 (U (k * 12 + 6))) ∧ w'.cell? ⟨b, o + k * 12 + 7, none⟩ = some (.int .i64 (U (k * 12 + 7))) ∧ w'.cell? ⟨b, o + k * 12 + 8, none⟩ = some (.int .i64 (U (k * 12 + 8))) ∧ w'.cell? ⟨b, o + k * 12 + 9, none⟩ = some (.int .i64 (U (k * 12 + 9))) ∧ w'.cell? ⟨b, o + k * 12 + 10, none⟩ = some (.int .i64 (U (k * 12 + 10))) ∧ w'.cell? ⟨b, o + k * 12 + 11, none⟩ = some (.int .i64 (U (k * 12 + 11))) ∧ w'.cell? ⟨b, o + j * 12, none⟩ = some (.int .i64 (U (j * 12)))) (by kernel_rfl) ?_ (fun hHeld => ?_)
         · (try dsimp only)
           (first | (go_simp; done) | (go_keep; done))
         refine tq 0 hHeld ?_
         refine tq 1 hHeld ?_
         refine tq 2 hHeld ?_
         refine tq 3 hHeld ?_
         (refine tc 4 fun K hK => ?_; go_simp; (go_at_call 36; refine (sBodyOk_q (fun j => U (k * 12 + j)) _ _ (by exact hi)).mono ?_; rintro e w2 ⟨rfl, hb2⟩; obtain ⟨hc2, hf2⟩ := bcell hb2; have hz2 := hb2.size; (try simp only [zz] at hc2 hf2 hz2); have hk3 := fun o => hc2 b o (by omega); clear hc2 hf2); (try go_wp2_with fail); refine tr hK (fun hHeld => ?_); clear hK K)
         refine tq 5 hHeld ?_
         refine tq 6 hHeld ?_
         refine tq 7 hHeld ?_
         refine tq 8 hHeld ?_
         refine tq 9 hHeld ?_
         refine tq 10 hHeld ?_
         refine tq 11 hHeld ?_
         refine tq 12 hHeld ?_
         refine tq 13 hHeld ?_
         refine tq 14 hHeld ?_
         refine tq 15 hHeld ?_
         refine tq 16 hHeld ?_
         refine tq 17 hHeld ?_
         refine tq 18 hHeld ?_
         refine tq 19 hHeld ?_
         refine tq 20 hHeld ?_
         refine tq 21 hHeld ?_
         refine tq 22 hHeld ?_
         refine tq 23 hHeld ?_
         refine wpAnyH_done (by kernel_rfl) ?_ _
         go_wp2_with fail
         go_ret
         exact ⟨by rw [bodsB, allBB_no hno.out n hlt, Bool.and_false]; rfl, hB.trans (hb2.ofDr.mono hB.size)⟩
     · have hd0 : decide (0 < k) = false := decide_eq_false hk0
       have HK : Shut (k = 0) := (by omega : k = 0)
       clear hk0 hc
       have hyes : Shut (stepBB U k = true) := by show stepBB U k = true; rw [stepBB, hi, HK.out]; rfl
       refine wp_region_held_drew (S := fun w' => w'.cell? ⟨b, o + k * 12, none⟩ = some (.int .i64 (U (k * 12))) ∧ w'.cell? ⟨b, o + k * 12 + 1, none⟩ = some (.int .i64 (U (k * 12 + 1))) ∧ w'.cell? ⟨b, o + k * 12 + 2, none⟩ = some (.int .i64 (U (k * 12 + 2))) ∧ w'.cell? ⟨b, o + k * 12 + 3, none⟩ = some (.int .i64 (U (k * 12 + 3))) ∧ w'.cell? ⟨b, o + k * 12 + 4, none⟩ = some (.int .i64 (U (k * 12 + 4))) ∧ w'.cell? ⟨b, o + k * 12 + 5, none⟩ = some (.int .i64 (U (k * 12 + 5))) ∧ w'.cell? ⟨b, o + k * 12 + 6, none⟩ = some (.int .i64 (U (k * 12 + 6))) ∧ w'.cell? ⟨b, o + k * 12 + 7, none⟩ = some (.int .i64 (U (k * 12 + 7))) ∧ w'.cell? ⟨b, o + k * 12 + 8, none⟩ = some (.int .i64 (U (k * 12 + 8))) ∧ w'.cell? ⟨b, o + k * 12 + 9, none⟩ = some (.int .i64 (U (k * 12 + 9))) ∧ w'.cell? ⟨b, o + k * 12 + 10, none⟩ = some (.int .i64 (U (k * 12 + 10))) ∧ w'.cell? ⟨b, o + k * 12 + 11, none⟩ = some (.int .i64 (U (k * 12 + 11)))) (by kernel_rfl) ?_ (fun hHeld => ?_)
       · (try dsimp only)
         (first | (go_simp; done) | (go_keep; done))
       refine tq 0 hHeld ?_
       refine tq 1 hHeld ?_
       refine tq 2 hHeld ?_
       refine tq 3 hHeld ?_
       (refine tc 4 fun K hK => ?_; go_simp; (go_at_call 36; refine (sBodyOk_q (fun j => U (k * 12 + j)) _ _ (by exact hi)).mono ?_; rintro e w2 ⟨rfl, hb2⟩; obtain ⟨hc2, hf2⟩ := bcell hb2; have hz2 := hb2.size; (try simp only [zz] at hc2 hf2 hz2); have hk3 := fun o => hc2 b o (by omega); clear hc2 hf2); (try go_wp2_with fail); refine tr hK (fun hHeld => ?_); clear hK K)
       refine tq 5 hHeld ?_
       refine tq 6 hHeld ?_
       refine tq 7 hHeld ?_
       refine tq 8 hHeld ?_
       refine tq 9 hHeld ?_
       refine tn 10 hHeld ?_
       refine tn 11 hHeld ?_
       refine tn 12 hHeld ?_
       refine tn 13 hHeld ?_
       refine tn 14 hHeld ?_
       refine tn 15 hHeld ?_
       refine tn 16 hHeld ?_
       refine tn 17 hHeld ?_
       refine tn 18 hHeld ?_
       refine tn 19 hHeld ?_
       refine tn 20 hHeld ?_
       refine tn 21 hHeld ?_
       refine tq 22 hHeld ?_
       refine tq 23 hHeld ?_
       refine wpAnyH_done (by kernel_rfl) ?_ _
       go_wp2_with fail
       go_roundw
       case rel => exact ⟨k + 1, by omega, by go_num, hB.trans (hb2.ofDr.mono hB.size), by rw [allBB, hall.out, hyes.out]; rfl⟩
       case measure => simp [intOf]; omega
  · obtain rfl : k = n := by omega
    by_cases h12 : k ≤ 12
    · have h12' : (k : Int) ≤ 12 := by omega
      go_wp2
      go_ret
      exact ⟨by rw [bodsB, hall.out, decide_eq_true h12]; rfl, hB⟩
    · have h12' : ¬ (k : Int) ≤ 12 := by omega
      go_wp2
      go_ret
      exact ⟨by rw [bodsB, decide_eq_false h12]; rfl, hB⟩
theorem sBodiesOk_q (a : Option Addr) (n c : Nat) (U : Nat → Int) (b : Bool) (w : World) (h : Flat w a (n * 12) U) (hn : n ≤ 1048576) (e : bodsB n U = b) :
 Calls Tryz.prog 23 #[.slice a n c] w fun e w' => e = .returned (.bool b) ∧ Below w.heap.size w w' := by subst e; exact sBodiesOk_any a n c U w h hn
theorem columnsOf_ok (a : Option Addr) (n c : Nat) (U : Nat → Int) (w : World) (h : Flat w a (n * 12) U) (hn : n ≤ 1048576) (e : bodsB n U = true) :
 Calls Tryz.prog 73 #[.slice a n c] w fun e w' => ∃ cb S, e = .returned (.tuple #[.pointer (some ⟨cb, 0, none⟩), .bool true]) ∧ w.heap.size ≤ cb ∧ Cs w' cb n (colOf U) S ∧ Below w.heap.size w w' :=
 (columnsOf_any a n c U w h hn).mono fun e' w' q => by
   obtain ⟨q1, (⟨_, cb, S, q2, q3, q4⟩ | ⟨q2, _⟩)⟩ := q
   · exact ⟨cb, S, q2, q3, q4, q1⟩
   · rw [e] at q2; cases q2
theorem columnsOf_no (a : Option Addr) (n c : Nat) (U : Nat → Int) (w : World) (h : Flat w a (n * 12) U) (hn : n ≤ 1048576) (e : bodsB n U = false) :
 Calls Tryz.prog 73 #[.slice a n c] w fun e w' => e = .returned (.tuple #[.pointer none, .bool false]) ∧ Below w.heap.size w w' :=
 (columnsOf_any a n c U w h hn).mono fun e' w' q => by
   obtain ⟨q1, (⟨q2, _⟩ | ⟨_, q2⟩)⟩ := q
   · rw [e] at q2; cases q2
   · exact ⟨q2, q1⟩
def mvX (V : Nat → Int) (p : Int) : Int := clampZ 2560000 (V 4 + p)
def mvY (V : Nat → Int) (q : Int) : Int := clampZ 2560000 (V 5 + q)
def moveV (V : Nat → Int) (p q : Int) : Nat → Int := setV (setV (setV (setV V 4 (mvX V p)) 5 (mvY V q)) 6 (if mvX V p = V 4 + p then V 6 else 0)) 7 (if mvY V q = V 5 + q then V 7 else 0)
theorem setV_self (V : Nat → Int) (k : Nat) : setV V k (V k) = V := by funext j; unfold setV; split <;> simp_all
theorem setV_at (V : Nat → Int) (k j : Nat) (a : Int) (h : j ≠ k) : setV V k a j = V j := by unfold setV; rw [if_neg h]
theorem setV_is (V : Nat → Int) (k : Nat) (a : Int) : setV V k a k = a := by unfold setV; rw [if_pos rfl]
theorem l6Within_q (n m a : Int) (w : World) (h0 : 0 ≤ m) (h1 : m ≤ 4000000000) (e : clampZ m n = a) :
 Calls Tryz.prog 109 #[.int .i64 n, .int .i64 m] w fun e w' => e = .returned (.int .i64 a) ∧ w' = w := by
 subst e; exact l6Within_any n m w h0 h1
theorem l6Move_c (V : Nat → Int) (p q A B C D : Int) (w : World) (b4 : -2560000 ≤ V 4 ∧ V 4 ≤ 2560000) (b5 : -2560000 ≤ V 5 ∧ V 5 ≤ 2560000) (bp : -20000000 ≤ p ∧ p ≤ 20000000) (bq : -20000000 ≤ q ∧ q ≤ 20000000)
 (eA : clampZ 2560000 (V 4 + p) = A) (eB : clampZ 2560000 (V 5 + q) = B) (eC : (if A = V 4 + p then V 6 else 0) = C) (eD : (if B = V 5 + q then V 7 else 0) = D) :
 Calls Tryz.prog 163 #[bodyW V, vv p q] w fun e w' => e = .returned (bodyW (setV (setV (setV (setV V 4 A) 5 B) 6 C) 7 D)) ∧ Below w.heap.size w w' := by
 have hset := cset_map
 obtain ⟨U, hU⟩ : ∃ U, setV (setV V 4 A) 5 B = U := ⟨_, rfl⟩
 obtain ⟨X, hX⟩ : ∃ X, setV (setV U 6 C) 7 D = X := ⟨_, rfl⟩
 have i6U : U 6 = V 6 := by rw [← hU, setV_at _ _ _ _ (by omega), setV_at _ _ _ _ (by omega)]
 have i7U : U 7 = V 7 := by rw [← hU, setV_at _ _ _ _ (by omega), setV_at _ _ _ _ (by omega)]
 have i4U : U 4 = A := by rw [← hU, setV_at _ _ _ _ (by omega), setV_is]
 have i5U : U 5 = B := by rw [← hU, setV_is]
 rw [hU, hX]
 go_enter Tryz.func163, Tryz.ntmps163
 go_upto_region 1 with fail
 have h0 := PB.start w V p q
 generalize (((w.alloc (.cells #[.int .i64 (V 0), .int .i64 (V 1), .int .i64 (V 2), .int .i64 (V 3), .int .i64 (V 4), .int .i64 (V 5), .int .i64 (V 6), .int .i64 (V 7), .int .i64 (V 8), .int .i64 (V 9), .int .i64 (V 10), .int .i64 (V 11)] 41)).alloc (.cells #[.int .i64 p, .int .i64 q] 28)).alloc (.cells #[.int .i64 0, .int .i64 0, .int .i64 0, .int .i64 0, .int .i64 0, .int .i64 0, .int .i64 0, .int .i64 0, .int .i64 0, .int .i64 0, .int .i64 0, .int .i64 0] 41)) = wx0 at h0 ⊢
 have i4 := h0.inn 4 (by omega)
 have i5 := h0.inn 5 (by omega)
 have n4 := h0.nfi 4 (by omega)
 have n5 := h0.nfi 5 (by omega)
 have y0 := h0.v0
 have y1 := h0.v1
 go_upto_region 3 with fail
 go_cut [] (fun wc => PB w wc U p q)
 case first =>
  go_wp2_with (go_at_call 109; refine (l6Within_q _ _ _ _ (by omega) (by omega) (by with_reducible assumption)).mono ?_; rintro e w' ⟨rfl, rfl⟩)
  go_meet
  have q9 := PB.set (PB.set h0 (k := 4) (by omega) A) (k := 5) (by omega) B
  rw [hU] at q9
  exact q9
 case rest =>
 have h1 := hcut
 clear i4 i5 n4 n5 y0 y1 h0 hcut
 have i4 := h1.inn 4 (by omega)
 have i5 := h1.inn 5 (by omega)
 have i6 := h1.inn 6 (by omega)
 have i7 := h1.inn 7 (by omega)
 have n6 := h1.nfi 6 (by omega)
 have n7 := h1.nfi 7 (by omega)
 rw [i4U] at i4
 rw [i5U] at i5
 by_cases cA : A = V 4 + p
 focus
  rw [if_pos cA] at eC; subst eC
  by_cases cB : B = V 5 + q
  focus
   rw [if_pos cB] at eD; subst eD
   have hXU : X = U := by rw [← hX, ← i6U, setV_self, ← i7U, setV_self]
   go_upto_region 8 with fail
   have h3 := h1
   rw [← hXU] at h3
   generalize wc = wq at h3 ⊢
  rotate_left
  focus
   rw [if_neg cB] at eD; subst eD
   have hXU : X = (setV U 7 0) := by rw [← hX, ← i6U, setV_self]
   go_upto_region 8 with fail
   have h3 := (PB.set h1 (k := 7) (by omega) 0)
   rw [← hXU] at h3
   generalize (wc.setCell ⟨w.heap.size, 7, none⟩ (.int .i64 0)) = wq at h3 ⊢
 rotate_left 2
 focus
  rw [if_neg cA] at eC; subst eC
  by_cases cB : B = V 5 + q
  focus
   rw [if_pos cB] at eD; subst eD
   have hXU : X = (setV U 6 0) := by rw [← hX, ← i7U, ← setV_at U 6 7 0 (by omega), setV_self]
   go_upto_region 8 with fail
   have h3 := (PB.set h1 (k := 6) (by omega) 0)
   rw [← hXU] at h3
   generalize (wc.setCell ⟨w.heap.size, 6, none⟩ (.int .i64 0)) = wq at h3 ⊢
  rotate_left
  focus
   rw [if_neg cB] at eD; subst eD
   have hXU : X = (setV (setV U 6 0) 7 0) := by rw [← hX]
   go_upto_region 8 with fail
   have h3 := (PB.set (PB.set h1 (k := 6) (by omega) 0) (k := 7) (by omega) 0)
   rw [← hXU] at h3
   generalize ((wc.setCell ⟨w.heap.size, 6, none⟩ (.int .i64 0)).setCell ⟨w.heap.size, 7, none⟩ (.int .i64 0)) = wq at h3 ⊢
 all_goals
  clear i4 i5 i6 i7 n6 n7 h1 hXU hX hU i6U i7U i4U i5U cA cB eA eB
  have o0 := h3.inn 0 (by omega)
  have r0 := h3.res 0 (by omega)
  have f0 := h3.nfr 0 (by omega)
  have o1 := h3.inn 1 (by omega)
  have r1 := h3.res 1 (by omega)
  have f1 := h3.nfr 1 (by omega)
  have o2 := h3.inn 2 (by omega)
  have r2 := h3.res 2 (by omega)
  have f2 := h3.nfr 2 (by omega)
  have o3 := h3.inn 3 (by omega)
  have r3 := h3.res 3 (by omega)
  have f3 := h3.nfr 3 (by omega)
  have o4 := h3.inn 4 (by omega)
  have r4 := h3.res 4 (by omega)
  have f4 := h3.nfr 4 (by omega)
  have o5 := h3.inn 5 (by omega)
  have r5 := h3.res 5 (by omega)
  have f5 := h3.nfr 5 (by omega)
  have o6 := h3.inn 6 (by omega)
  have r6 := h3.res 6 (by omega)
  have f6 := h3.nfr 6 (by omega)
  have o7 := h3.inn 7 (by omega)
  have r7 := h3.res 7 (by omega)
  have f7 := h3.nfr 7 (by omega)
  have o8 := h3.inn 8 (by omega)
  have r8 := h3.res 8 (by omega)
  have f8 := h3.nfr 8 (by omega)
  have o9 := h3.inn 9 (by omega)
  have r9 := h3.res 9 (by omega)
  have f9 := h3.nfr 9 (by omega)
  have o10 := h3.inn 10 (by omega)
  have r10 := h3.res 10 (by omega)
  have f10 := h3.nfr 10 (by omega)
  have o11 := h3.inn 11 (by omega)
  have r11 := h3.res 11 (by omega)
  have f11 := h3.nfr 11 (by omega)
  have z0 := h3.big
  have hbel := h3.bel
  clear h3
  go_wp2_with fail
  exact bodyPost_ret (v := bodyW X) (by simp [results, Tryz.results163, go_sem, *]) rfl ⟨rfl, bel_a⟩
theorem l6Move_any (V : Nat → Int) (p q : Int) (w : World) (b4 : -2560000 ≤ V 4 ∧ V 4 ≤ 2560000) (b5 : -2560000 ≤ V 5 ∧ V 5 ≤ 2560000) (bp : -20000000 ≤ p ∧ p ≤ 20000000) (bq : -20000000 ≤ q ∧ q ≤ 20000000) :
 Calls Tryz.prog 163 #[bodyW V, vv p q] w fun e w' => e = .returned (bodyW (moveV V p q)) ∧ Below w.heap.size w w' :=
 l6Move_c V p q _ _ _ _ w b4 b5 bp bq rfl rfl rfl rfl
end Go.Proofs.YthijeiehcdoidaaGreat
