/- Texts of a proof. -/
import Derived.Test.YtalkkjhehndaoaaGreatB10
import Derived.Test.YtalkkjhehndaoaaGreatB5
import Derived.Deep.RegionHeld3
import Derived.Deep.DeepCutAuto
import Derived.Test.YtalkkjhehndaoaaGreatB16
import Derived.Test.YtalkkjhehndaoaaGreatB4
import Derived.Test.YtalkkjhehndaoaaGreatB17
import Derived.Test.YtalkkjhehndaoaaGreatB23
import Derived.Test.YtalkkjhehndaoaaGreatB13
import Derived.Test.YtalkkjhehndaoaaGreatB12
import Derived.Test.YtalkkjhehndaoaaGreatB11
import Derived.Test.YtalkkjhehndaoaaGreatS8l
import Derived.Test.YtalkkjhehndaoaaGreatB26
set_option maxHeartbeats 16000000
set_option maxRecDepth 20000
namespace Go.Proofs.YtalkkjhehndaoaaGreat
open Go.RowKit
set_option linter.unusedVariables false
set_option linter.unusedSimpArgs false
theorem sBodiesOk_any (a : Option Addr) (n c : Nat) (U : Nat → Int) (w : World) (h : Flat w a (n * 12) U) (hn : n ≤ 1048576) :
 Calls Tryz.prog 10 #[.slice a n c] w fun e w' => e = .returned (.bool (bodsB n U)) ∧ Below w.heap.size w w' := by
 have hset := cset_map
 go_enter Tryz.func10, Tryz.ntmps10
 go_wp2
 go_loopw [3] (fun i wr => ∃ k : Nat, k ≤ n ∧ i = .int .i64 (k : Int) ∧ Below w.heap.size w wr ∧ allBB U k = true) (fun i _ => n - (intOf i).toNat)
 case atStart => exact ⟨0, Nat.zero_le _, rfl, Below.refl _ _, rfl⟩
 case round =>
  obtain ⟨k, hk, rfl, hB, hall0⟩ := hrel
  have hall : Shut (allBB U k = true) := hall0
  clear hall0
  by_cases hlt : k < n
  · have hkn : (k : Int) < (n : Int) := by omega
    obtain ⟨b, o, rfl, hbl, hc⟩ := (h.below hB) (by omega)
    have c0 := hc (k * 12) (by omega)
    have c1 := hc (k * 12 + 1) (by omega)
    have c2 := hc (k * 12 + 2) (by omega)
    have c3 := hc (k * 12 + 3) (by omega)
    have c4 := hc (k * 12 + 4) (by omega)
    have c5 := hc (k * 12 + 5) (by omega)
    have c6 := hc (k * 12 + 6) (by omega)
    have c7 := hc (k * 12 + 7) (by omega)
    have c8 := hc (k * 12 + 8) (by omega)
    have c9 := hc (k * 12 + 9) (by omega)
    have c10 := hc (k * 12 + 10) (by omega)
    have c11 := hc (k * 12 + 11) (by omega)
    simp only [← Nat.add_assoc] at c0 c1 c2 c3 c4 c5 c6 c7 c8 c9 c10 c11
    go_upto_region 4 with fail
    cases hi : bodyB (fun j => U (k * 12 + j)) with
    | false =>
     have hno : Shut (stepBB U k = false) := by show stepBB U k = false; rw [stepBB, hi]; rfl
     clear hc
     refine wp_region_held_drew (S := fun w' => w'.cell? ⟨b, o + k * 12, none⟩ = some (.int .i64 (U (k * 12))) ∧ w'.cell? ⟨b, o + k * 12 + 1, none⟩ = some (.int .i64 (U (k * 12 + 1))) ∧ w'.cell? ⟨b, o + k * 12 + 2, none⟩ = some (.int .i64 (U (k * 12 + 2))) ∧ w'.cell? ⟨b, o + k * 12 + 3, none⟩ = some (.int .i64 (U (k * 12 + 3))) ∧ w'.cell? ⟨b, o + k * 12 + 4, none⟩ = some (.int .i64 (U (k * 12 + 4))) ∧ w'.cell? ⟨b, o + k * 12 + 5, none⟩ = some (.int .i64 (U (k * 12 + 5))) ∧ w'.cell? ⟨b, o + k * 12 + 6, none⟩ = some (.int .i64 (U (k * 12 + 6))) ∧ w'.cell? ⟨b, o + k * 12 + 7, none⟩ = some (.int .i64 (U (k * 12 + 7))) ∧ w'.cell? ⟨b, o + k * 12 + 8, none⟩ = some (.int .i64 (U (k * 12 + 8))) ∧ w'.cell? ⟨b, o + k * 12 + 9, none⟩ = some (.int .i64 (U (k * 12 + 9))) ∧ w'.cell? ⟨b, o + k * 12 + 10, none⟩ = some (.int .i64 (U (k * 12 + 10))) ∧ w'.cell? ⟨b, o + k * 12 + 11, none⟩ = some (.int .i64 (U (k * 12 + 11)))) (by kernel_rfl) ?_ (fun hHeld => ?_)
     · (try dsimp only)
       (first | (go_simp; done) | (go_keep; done))
     refine tq 0 hHeld ?_
     refine tq 1 hHeld ?_
     refine tq 2 hHeld ?_
     refine tq 3 hHeld ?_
     (refine tc 4 fun K hK => ?_; go_simp; (go_at_call 22; refine (sBodyOk_q (fun j => U (k * 12 + j)) _ _ (by exact hi)).mono ?_; rintro e w2 ⟨rfl, hb2⟩; obtain ⟨hc2, hf2⟩ := bcell hb2; have hz2 := hb2.size; (try simp only [World.size_drew, World.size_alloc, World.size_setCell] at hc2 hf2 hz2); have hk3 := fun o => hc2 b o (by omega); clear hc2 hf2); (try go_wp2_with fail); refine tr hK (fun hHeld => ?_); clear hK K)
     refine tq 5 hHeld ?_
     refine tq 6 hHeld ?_
     refine tn 7 hHeld ?_
     refine tn 8 hHeld ?_
     refine tn 9 hHeld ?_
     refine tn 10 hHeld ?_
     refine tn 11 hHeld ?_
     refine tn 12 hHeld ?_
     refine tn 13 hHeld ?_
     refine tn 14 hHeld ?_
     refine tn 15 hHeld ?_
     refine tn 16 hHeld ?_
     refine tn 17 hHeld ?_
     refine tn 18 hHeld ?_
     refine tn 19 hHeld ?_
     refine tn 20 hHeld ?_
     refine tn 21 hHeld ?_
     refine tn 22 hHeld ?_
     refine tq 23 hHeld ?_
     refine wpAnyH_done (by kernel_rfl) ?_ _
     go_wp2_with fail
     go_ret
     exact ⟨by rw [bodsB, allBB_no hno.out n hlt, Bool.and_false]; rfl, hB.trans (hb2.ofDr.mono hB.size)⟩
    | true =>
     by_cases hk0 : 0 < k
     · have hd0 : decide (0 < k) = true := decide_eq_true hk0
       obtain ⟨j, hj⟩ : ∃ j, j + 1 = k := ⟨k - 1, by omega⟩
       have hj' : (k : Int) - 1 = (j : Int) := by omega
       have hjn : j < n := by omega
       have hwj : IntKind.i64.wrap (j : Int) = (j : Int) := i64w (by omega)
       have HJ : Shut (j + 1 = k) := hj
       clear hj
       have p0 := hc (j * 12) (by omega)
       clear hc
       by_cases hge : U (j * 12) < U (k * 12)
       · have hdg : decide (U (k * 12) ≤ U (j * 12)) = false := decide_eq_false (by omega)
         have hyes : Shut (stepBB U k = true) := by show stepBB U k = true; rw [stepBB, hi, show k - 1 = j from by have := HJ.out; omega]; simp [hge]
         refine wp_region_held_drew (S := fun w' => w'.cell? ⟨b, o + k * 12, none⟩ = some (.int .i64 (U (k * 12))) ∧ w'.cell? ⟨b, o + k * 12 + 1, none⟩ = some (.int .i64 (U (k * 12 + 1))) ∧ w'.cell? ⟨b, o + k * 12 + 2, none⟩ = some (.int .i64 (U (k * 12 + 2))) ∧ w'.cell? ⟨b, o + k * 12 + 3, none⟩ = some (.int .i64 (U (k * 12 + 3))) ∧ w'.cell? ⟨b, o + k * 12 + 4, none⟩ = some (.int .i64 (U (k * 12 + 4))) ∧ w'.cell? ⟨b, o + k * 12 + 5, none⟩ = some (.int .i64 (U (k * 12 + 5))) ∧ w'.cell? ⟨b, o + k * 12 + 6, none⟩ = some (.int .i64 (U (k * 12 + 6))) ∧ w'.cell? ⟨b, o + k * 12 + 7, none⟩ = some (.int .i64 (U (k * 12 + 7))) ∧ w'.cell? ⟨b, o + k * 12 + 8, none⟩ = some (.int .i64 (U (k * 12 + 8))) ∧ w'.cell? ⟨b, o + k * 12 + 9, none⟩ = some (.int .i64 (U (k * 12 + 9))) ∧ w'.cell? ⟨b, o + k * 12 + 10, none⟩ = some (.int .i64 (U (k * 12 + 10))) ∧ w'.cell? ⟨b, o + k * 12 + 11, none⟩ = some (.int .i64 (U (k * 12 + 11))) ∧ w'.cell? ⟨b, o + j * 12, none⟩ = some (.int .i64 (U (j * 12)))) (by kernel_rfl) ?_ (fun hHeld => ?_)
         · (try dsimp only)
           (first | (go_simp; done) | (go_keep; done))
         refine tq 0 hHeld ?_
         refine tq 1 hHeld ?_
         refine tq 2 hHeld ?_
         refine tq 3 hHeld ?_
         (refine tc 4 fun K hK => ?_; go_simp; (go_at_call 22; refine (sBodyOk_q (fun j => U (k * 12 + j)) _ _ (by exact hi)).mono ?_; rintro e w2 ⟨rfl, hb2⟩; obtain ⟨hc2, hf2⟩ := bcell hb2; have hz2 := hb2.size; (try simp only [World.size_drew, World.size_alloc, World.size_setCell] at hc2 hf2 hz2); have hk3 := fun o => hc2 b o (by omega); clear hc2 hf2); (try go_wp2_with fail); refine tr hK (fun hHeld => ?_); clear hK K)
         refine tq 5 hHeld ?_
         refine tq 6 hHeld ?_
         refine tq 7 hHeld ?_
         refine tq 8 hHeld ?_
         refine tq 9 hHeld ?_
         refine tq 10 hHeld ?_
         refine tq 11 hHeld ?_
         refine tq 12 hHeld ?_
         refine tq 13 hHeld ?_
         refine tq 14 hHeld ?_
         refine tq 15 hHeld ?_
         refine tq 16 hHeld ?_
         refine tq 17 hHeld ?_
         refine tq 18 hHeld ?_
         refine tq 19 hHeld ?_
         refine tq 20 hHeld ?_
         refine tq 21 hHeld ?_
         refine tq 22 hHeld ?_
         refine tq 23 hHeld ?_
         refine wpAnyH_done (by kernel_rfl) ?_ _
         go_wp2_with fail
         go_roundw
         case rel => exact ⟨k + 1, by omega, by go_num, hB.trans (hb2.ofDr.mono hB.size), by rw [allBB, hall.out, hyes.out]; rfl⟩
         case measure => simp [intOf]; omega
       · have hdg : decide (U (k * 12) ≤ U (j * 12)) = true := decide_eq_true (by omega)
         have hno : Shut (stepBB U k = false) := by show stepBB U k = false; rw [stepBB, show k - 1 = j from by have := HJ.out; omega]; have := HJ.out; simp [hge]; omega
         refine wp_region_held_drew (S := fun w' => w'.cell? ⟨b, o + k * 12, none⟩ = some (.int .i64 (U (k * 12))) ∧ w'.cell? ⟨b, o + k * 12 + 1, none⟩ = some (.int .i64 (U (k * 12 + 1))) ∧ w'.cell? ⟨b, o + k * 12 + 2, none⟩ = some (.int .i64 (U (k * 12 + 2))) ∧ w'.cell? ⟨b, o + k * 12 + 3, none⟩ = some (.int .i64 (U (k * 12 + 3))) ∧ w'.cell? ⟨b, o + k * 12 + 4, none⟩ = some (.int .i64 (U (k * 12 + 4))) ∧ w'.cell? ⟨b, o + k * 12 + 5, none⟩ = some (.int .i64 (U (k * 12 + 5))) ∧ w'.cell? ⟨b, o + k * 12 + 6, none⟩ = some (.int .i64 (U (k * 12 + 6))) ∧ w'.cell? ⟨b, o + k * 12 + 7, none⟩ = some (.int .i64 (U (k * 12 + 7))) ∧ w'.cell? ⟨b, o + k * 12 + 8, none⟩ = some (.int .i64 (U (k * 12 + 8))) ∧ w'.cell? ⟨b, o + k * 12 + 9, none⟩ = some (.int .i64 (U (k * 12 + 9))) ∧ w'.cell? ⟨b, o + k * 12 + 10, none⟩ = some (.int .i64 (U (k * 12 + 10))) ∧ w'.cell? ⟨b, o + k * 12 + 11, none⟩ = some (.int .i64 (U (k * 12 + 11))) ∧ w'.cell? ⟨b, o + j * 12, none⟩ = some (.int .i64 (U (j * 12)))) (by kernel_rfl) ?_ (fun hHeld => ?_)
         · (try dsimp only)
           (first | (go_simp; done) | (go_keep; done))
         refine tq 0 hHeld ?_
         refine tq 1 hHeld ?_
         refine tq 2 hHeld ?_
         refine tq 3 hHeld ?_
         (refine tc 4 fun K hK => ?_; go_simp; (go_at_call 22; refine (sBodyOk_q (fun j => U (k * 12 + j)) _ _ (by exact hi)).mono ?_; rintro e w2 ⟨rfl, hb2⟩; obtain ⟨hc2, hf2⟩ := bcell hb2; have hz2 := hb2.size; (try simp only [World.size_drew, World.size_alloc, World.size_setCell] at hc2 hf2 hz2); have hk3 := fun o => hc2 b o (by omega); clear hc2 hf2); (try go_wp2_with fail); refine tr hK (fun hHeld => ?_); clear hK K)
         refine tq 5 hHeld ?_
         refine tq 6 hHeld ?_
         refine tq 7 hHeld ?_
         refine tq 8 hHeld ?_
         refine tq 9 hHeld ?_
         refine tq 10 hHeld ?_
         refine tq 11 hHeld ?_
         refine tq 12 hHeld ?_
         refine tq 13 hHeld ?_
         refine tq 14 hHeld ?_
         refine tq 15 hHeld ?_
         refine tq 16 hHeld ?_
         refine tq 17 hHeld ?_
         refine tq 18 hHeld ?_
         refine tq 19 hHeld ?_
         refine tq 20 hHeld ?_
         refine tq 21 hHeld ?_
         refine tq 22 hHeld ?_
         refine tq 23 hHeld ?_
         refine wpAnyH_done (by kernel_rfl) ?_ _
         go_wp2_with fail
         go_ret
         exact ⟨by rw [bodsB, allBB_no hno.out n hlt, Bool.and_false]; rfl, hB.trans (hb2.ofDr.mono hB.size)⟩
     · have hd0 : decide (0 < k) = false := decide_eq_false hk0
       have HK : Shut (k = 0) := (by omega : k = 0)
       clear hk0 hc
       have hyes : Shut (stepBB U k = true) := by show stepBB U k = true; rw [stepBB, hi, HK.out]; rfl
       refine wp_region_held_drew (S := fun w' => w'.cell? ⟨b, o + k * 12, none⟩ = some (.int .i64 (U (k * 12))) ∧ w'.cell? ⟨b, o + k * 12 + 1, none⟩ = some (.int .i64 (U (k * 12 + 1))) ∧ w'.cell? ⟨b, o + k * 12 + 2, none⟩ = some (.int .i64 (U (k * 12 + 2))) ∧ w'.cell? ⟨b, o + k * 12 + 3, none⟩ = some (.int .i64 (U (k * 12 + 3))) ∧ w'.cell? ⟨b, o + k * 12 + 4, none⟩ = some (.int .i64 (U (k * 12 + 4))) ∧ w'.cell? ⟨b, o + k * 12 + 5, none⟩ = some (.int .i64 (U (k * 12 + 5))) ∧ w'.cell? ⟨b, o + k * 12 + 6, none⟩ = some (.int .i64 (U (k * 12 + 6))) ∧ w'.cell? ⟨b, o + k * 12 + 7, none⟩ = some (.int .i64 (U (k * 12 + 7))) ∧ w'.cell? ⟨b, o + k * 12 + 8, none⟩ = some (.int .i64 (U (k * 12 + 8))) ∧ w'.cell? ⟨b, o + k * 12 + 9, none⟩ = some (.int .i64 (U (k * 12 + 9))) ∧ w'.cell? ⟨b, o + k * 12 + 10, none⟩ = some (.int .i64 (U (k * 12 + 10))) ∧ w'.cell? ⟨b, o + k * 12 + 11, none⟩ = some (.int .i64 (U (k * 12 + 11)))) (by kernel_rfl) ?_ (fun hHeld => ?_)
       · (try dsimp only)
         (first | (go_simp; done) | (go_keep; done))
       refine tq 0 hHeld ?_
       refine tq 1 hHeld ?_
       refine tq 2 hHeld ?_
       refine tq 3 hHeld ?_
       (refine tc 4 fun K hK => ?_; go_simp; (go_at_call 22; refine (sBodyOk_q (fun j => U (k * 12 + j)) _ _ (by exact hi)).mono ?_; rintro e w2 ⟨rfl, hb2⟩; obtain ⟨hc2, hf2⟩ := bcell hb2; have hz2 := hb2.size; (try simp only [World.size_drew, World.size_alloc, World.size_setCell] at hc2 hf2 hz2); have hk3 := fun o => hc2 b o (by omega); clear hc2 hf2); (try go_wp2_with fail); refine tr hK (fun hHeld => ?_); clear hK K)
       refine tq 5 hHeld ?_
       refine tq 6 hHeld ?_
       refine tq 7 hHeld ?_
       refine tq 8 hHeld ?_
       refine tq 9 hHeld ?_
       refine tn 10 hHeld ?_
       refine tn 11 hHeld ?_
       refine tn 12 hHeld ?_
       refine tn 13 hHeld ?_
       refine tn 14 hHeld ?_
       refine tn 15 hHeld ?_
       refine tn 16 hHeld ?_
       refine tn 17 hHeld ?_
       refine tn 18 hHeld ?_
       refine tn 19 hHeld ?_
       refine tn 20 hHeld ?_
       refine tn 21 hHeld ?_
       refine tq 22 hHeld ?_
       refine tq 23 hHeld ?_
       refine wpAnyH_done (by kernel_rfl) ?_ _
       go_wp2_with fail
       go_roundw
       case rel => exact ⟨k + 1, by omega, by go_num, hB.trans (hb2.ofDr.mono hB.size), by rw [allBB, hall.out, hyes.out]; rfl⟩
       case measure => simp [intOf]; omega
  · obtain rfl : k = n := by omega
    by_cases h12 : k ≤ 12
    · have h12' : (k : Int) ≤ 12 := by omega
      go_wp2
      go_ret
      exact ⟨by rw [bodsB, hall.out, decide_eq_true h12]; rfl, hB⟩
    · have h12' : ¬ (k : Int) ≤ 12 := by omega
      go_wp2
      go_ret
      exact ⟨by rw [bodsB, decide_eq_false h12]; rfl, hB⟩
theorem sBodiesOk_q (a : Option Addr) (n c : Nat) (U : Nat → Int) (b : Bool) (w : World) (h : Flat w a (n * 12) U) (hn : n ≤ 1048576) (e : bodsB n U = b) :
 Calls Tryz.prog 10 #[.slice a n c] w fun e w' => e = .returned (.bool b) ∧ Below w.heap.size w w' := by subst e; exact sBodiesOk_any a n c U w h hn
theorem columnsOf_ok (a : Option Addr) (n c : Nat) (U : Nat → Int) (w : World) (h : Flat w a (n * 12) U) (hn : n ≤ 1048576) (e : bodsB n U = true) :
 Calls Tryz.prog 18 #[.slice a n c] w fun e w' => ∃ cb S, e = .returned (.tuple #[.pointer (some ⟨cb, 0, none⟩), .bool true]) ∧ w.heap.size ≤ cb ∧ Cs w' cb n (colOf U) S ∧ Below w.heap.size w w' :=
 (columnsOf_any a n c U w h hn).mono fun e' w' q => by
   obtain ⟨q1, (⟨_, cb, S, q2, q3, q4⟩ | ⟨q2, _⟩)⟩ := q
   · exact ⟨cb, S, q2, q3, q4, q1⟩
   · rw [e] at q2; cases q2
theorem columnsOf_no (a : Option Addr) (n c : Nat) (U : Nat → Int) (w : World) (h : Flat w a (n * 12) U) (hn : n ≤ 1048576) (e : bodsB n U = false) :
 Calls Tryz.prog 18 #[.slice a n c] w fun e w' => e = .returned (.tuple #[.pointer none, .bool false]) ∧ Below w.heap.size w w' :=
 (columnsOf_any a n c U w h hn).mono fun e' w' q => by
   obtain ⟨q1, (⟨q2, _⟩ | ⟨_, q2⟩)⟩ := q
   · rw [e] at q2; cases q2
   · exact ⟨q2, q1⟩
theorem l5Touch_q (k1 g1 h1 x y k2 g2 h2 u v X Y D : Int) (K : Bool) (w : World) (s1 : shB k1 g1 h1 = true) (s2 : shB k2 g2 h2 = true) (p1 : inB 2560000 x y = true) (p2 : inB 2560000 u v = true) (e : toT k1 g1 h1 x y k2 g2 h2 u v = ((X, Y, D), K)) :
 Calls Tryz.prog 37 #[s3 k1 g1 h1, vv x y, s3 k2 g2 h2, vv u v] w fun e w' => e = .returned (.tuple #[s3 X Y D, .bool K]) ∧ Below w.heap.size w w' := by
 have e2 : toT k1 g1 h1 x y k2 g2 h2 u v = tcT k1 g1 h1 x y k2 g2 h2 u v := by unfold toT; rw [if_pos (by simp [*])]
 rw [e2] at e
 obtain ⟨px, py⟩ := inB_of p1
 obtain ⟨pu, pv⟩ := inB_of p2
 rcases shB_kinds s1 with ⟨rfl, rfl, a1, a2⟩ | ⟨rfl, a1, a2, a3, a4⟩ <;> rcases shB_kinds s2 with ⟨rfl, rfl, b1, b2⟩ | ⟨rfl, b1, b2, b3, b4⟩
 · exact sT_rr g1 g2 x y u v X Y D K w ⟨a1, a2⟩ ⟨b1, b2⟩ px py pu pv (by simpa [tcT] using e)
 · exact sT_rb g1 g2 h2 x y u v X Y D K w ⟨a1, a2⟩ ⟨b1, b2⟩ ⟨b3, b4⟩ px py pu pv (by simpa [tcT] using e)
 · exact sT_br g1 h1 g2 x y u v X Y D K w ⟨a1, a2⟩ ⟨a3, a4⟩ ⟨b1, b2⟩ px py pu pv (by simpa [tcT] using e)
 · exact sT_bb g1 h1 g2 h2 x y u v X Y D K w ⟨a1, a2⟩ ⟨a3, a4⟩ ⟨b1, b2⟩ ⟨b3, b4⟩ px py pu pv (by simpa [tcT] using e)
theorem bods_sh {U : Nat → Int} {n k : Nat} (h : bodsB n U = true) (l : k < n) : shB (U (k * 12 + 1)) (U (k * 12 + 2)) (U (k * 12 + 3)) = true ∧ inB 2560000 (U (k * 12 + 4)) (U (k * 12 + 5)) = true := by
 unfold bodsB at h
 rw [Bool.and_eq_true] at h
 have h2 : bodyB (fun j => U (k * 12 + j)) = true := by
  have key : ∀ m, allBB U m = true → k < m → stepBB U k = true := by
   intro m
   induction m with
   | zero => intro _ l; omega
   | succ m ih =>
    intro hm l
    unfold allBB at hm
    rw [Bool.and_eq_true] at hm
    by_cases e : k = m
    · subst e; exact hm.2
    · exact ih hm.1 (by omega)
  have := key n h.2 l
  unfold stepBB at this
  rw [Bool.and_eq_true] at this
  exact this.1
 unfold bodyB at h2
 simp only [Bool.and_eq_true] at h2
 exact ⟨h2.2.1, h2.2.2.1⟩
theorem flat5 (w : World) (p q r s u : Int) (t : TypeId) : Flat (w.alloc (Obj.cells #[.int .i64 p, .int .i64 q, .int .i64 r, .int .i64 s, .int .i64 u] t)) (some ⟨w.heap.size, 0, none⟩) (1 * 5) (ofL [p, q, r, s, u]) := by
 intro _
 refine ⟨w.heap.size, 0, rfl, by simp, fun j hj => ?_⟩
 rw [Nat.zero_add]
 rcases (show j = 0 ∨ j = 1 ∨ j = 2 ∨ j = 3 ∨ j = 4 by omega) with rfl | rfl | rfl | rfl | rfl <;> (simp only [ofL]; go_simp; (try rfl))
theorem l7Contacts_any (a : Option Addr) (n c : Nat) (U : Nat → Int) (w : World) (h : Flat w a (n * 12) U) (hok : bodsB n U = true) (hn : n ≤ 12) :
 Calls Tryz.prog 21 #[.slice a n c] w fun e w' => ∃ a' m c', e = .returned (.slice a' m c') ∧ (conL (colOf U) n).length = m * 5 ∧ OutL w w' 40 5 a' m c' (ofL (conL (colOf U) n)) := by
 have hset := cset_map
 go_enter Tryz.func21, Tryz.ntmps21
 go_wp2
 go_loopw [3, 4, 5, 6, 7] (fun s3 s4 _ _ _ wr => ∃ i a' m c', i ≤ n ∧ s4 = .int .i64 (i : Int) ∧ s3 = .slice a' m c' ∧ LsV w wr 40 5 a' m c' (conOut (colOf U) n i)) (fun _ s4 _ _ _ _ => n - (intOf s4).toNat)
 case atStart => exact ⟨0, _, _, _, Nat.zero_le _, rfl, rfl, LsV.new w _ _⟩
 case round =>
  obtain ⟨i, a', m, c', hi, rfl, rfl, hL⟩ := hrel
  by_cases hlt : i < n
  · have hin : (i : Int) < (n : Int) := by omega
    obtain ⟨b, o, rfl, hbl, hc⟩ := h (by omega)
    obtain ⟨si, qi⟩ := bods_sh hok hlt
    obtain ⟨mm, hm1, hm2⟩ := conOut_len (colOf U) n i
    have hm6 : i * n ≤ 12 * 12 := Nat.mul_le_mul (by omega) hn
    go_wp2
    go_loopw [3, 5, 6, 7] (fun s3 s5 _ _ wr => ∃ k a' m c', i < k ∧ k ≤ n ∧ s5 = .int .i64 (k : Int) ∧ s3 = .slice a' m c' ∧ LsV w wr 40 5 a' m c' (conOut (colOf U) n i ++ conIn (colOf U) i k)) (fun _ s5 _ _ _ => n - (intOf s5).toNat)
    case atStart => exact ⟨i + 1, _, _, _, by omega, by omega, by go_num, rfl, by rw [conIn_ge i (i + 1) (Nat.le_refl _), List.append_nil]; exact hL⟩
    case round =>
     clear hL
     obtain ⟨k, a2, m2, c2, hik, hk, rfl, rfl, hL⟩ := hrel
     by_cases hlk : k < n
     · have hkn : (k : Int) < (n : Int) := by omega
       obtain ⟨sk, qk⟩ := bods_sh hok hlk
       obtain ⟨mk, hm3, hm4⟩ := conIn_len (colOf U) i k
       have hm5 := hL.len
       rw [List.length_append, hm1, hm3] at hm5
       have hc' : ∀ q, q < n * 12 → wr.cell? ⟨b, o + q, none⟩ = some (.int .i64 (U q)) := fun q hq => (hL.bel.cell (p := ⟨b, o + q, none⟩) hbl).trans (hc q hq)
       have hzr := hL.bel.size
       have ci1 := hc' (i * 12 + 1) (by omega)
       have ck1 := hc' (k * 12 + 1) (by omega)
       have ci2 := hc' (i * 12 + 2) (by omega)
       have ck2 := hc' (k * 12 + 2) (by omega)
       have ci3 := hc' (i * 12 + 3) (by omega)
       have ck3 := hc' (k * 12 + 3) (by omega)
       have ci4 := hc' (i * 12 + 4) (by omega)
       have ck4 := hc' (k * 12 + 4) (by omega)
       have ci5 := hc' (i * 12 + 5) (by omega)
       have ck5 := hc' (k * 12 + 5) (by omega)
       have ci8 := hc' (i * 12 + 8) (by omega)
       have ck8 := hc' (k * 12 + 8) (by omega)
       simp only [← Nat.add_assoc] at ci1 ck1 ci2 ck2 ci3 ck3 ci4 ck4 ci5 ck5 ci8 ck8
       clear hc'
       by_cases hfx : U (i * 12 + 8) = 0 ∧ U (k * 12 + 8) = 0
       · obtain ⟨f1, f2⟩ := hfx
         have hno : Shut (conOne (colOf U) i k = []) := conOne_no (by unfold conB colOf; rw [f1, f2]; simp)
         rw [f1] at ci8
         rw [f2] at ck8
         go_wp2
         go_roundw
         case rel => exact ⟨k + 1, _, _, _, by omega, by omega, by go_num, rfl, by rw [conIn, hno.out, List.append_nil]; exact hL⟩
         case measure => simp [intOf]; omega
       · obtain ⟨TX, TY, TD, TJ, hT⟩ : ∃ TX TY TD TJ, tcH (colOf U) i k = ((TX, TY, TD), TJ) := ⟨_, _, _, _, rfl⟩
         have hfx' : Shut (¬ (U (i * 12 + 8) = 0 ∧ U (k * 12 + 8) = 0)) := hfx
         have key : ∀ (g : Prop), (U (i * 12 + 8) ≠ 0 → g) → (U (i * 12 + 8) = 0 → U (k * 12 + 8) ≠ 0 → g) → g := fun g h1 h2 => by
          by_cases e : U (i * 12 + 8) = 0
          · exact h2 e (fun e2 => hfx ⟨e, e2⟩)
          · exact h1 e
         clear hfx
         go_upto_region 8 with fail
         go_cut [36] (fun s wc => s = .bool false ∧ wr = wc)
         case first =>
          refine key _ (fun e => ?_) (fun e1 e2 => ?_)
          · have e' : decide (U (i * 12 + 8) = 0) = false := decide_eq_false e
            have e3 : (U (i * 12 + 8) == 0) = false := by simp [e]
            go_wp2
            go_meet
            exact ⟨by first | rfl | simp [e3], rfl⟩
          · have e' : decide (U (k * 12 + 8) = 0) = false := decide_eq_false e2
            have e3 : (U (k * 12 + 8) == 0) = false := by simp [e2]
            rw [e1] at ci8
            go_wp2
            go_meet
            exact ⟨by first | rfl | simp [e3], rfl⟩
         case rest =>
         obtain ⟨rfl, rfl⟩ := hcut
         clear key ci8 ck8
         go_upto_region 9 with fail
         go_cut [6, 7] (fun s6 s7 wd => ∃ bh, s6 = .pointer (some ⟨bh, 0, none⟩) ∧ s7 = .bool TJ ∧ wd.cell? ⟨bh, 0, none⟩ = some (.int .i64 TX) ∧ wd.cell? ⟨bh, 1, none⟩ = some (.int .i64 TY) ∧ wd.cell? ⟨bh, 2, none⟩ = some (.int .i64 TD) ∧ bh < wd.heap.size ∧ wr.heap.size ≤ bh ∧ Below wr.heap.size wr wd)
         case first =>
          refine wp_region_held_drew (S := fun w' => w'.cell? ⟨b, o + i * 12 + 1, none⟩ = some (.int .i64 (U (i * 12 + 1))) ∧ w'.cell? ⟨b, o + i * 12 + 2, none⟩ = some (.int .i64 (U (i * 12 + 2))) ∧ w'.cell? ⟨b, o + i * 12 + 3, none⟩ = some (.int .i64 (U (i * 12 + 3))) ∧ w'.cell? ⟨b, o + i * 12 + 4, none⟩ = some (.int .i64 (U (i * 12 + 4))) ∧ w'.cell? ⟨b, o + i * 12 + 5, none⟩ = some (.int .i64 (U (i * 12 + 5))) ∧ w'.cell? ⟨b, o + k * 12 + 1, none⟩ = some (.int .i64 (U (k * 12 + 1))) ∧ w'.cell? ⟨b, o + k * 12 + 2, none⟩ = some (.int .i64 (U (k * 12 + 2))) ∧ w'.cell? ⟨b, o + k * 12 + 3, none⟩ = some (.int .i64 (U (k * 12 + 3))) ∧ w'.cell? ⟨b, o + k * 12 + 4, none⟩ = some (.int .i64 (U (k * 12 + 4))) ∧ w'.cell? ⟨b, o + k * 12 + 5, none⟩ = some (.int .i64 (U (k * 12 + 5)))) (by kernel_rfl) ?_ (fun hHeld => ?_)
          · (try dsimp only)
            (first | (go_simp; done) | (go_keep; done))
          refine tq 0 hHeld ?_
          refine tq 1 hHeld ?_
          refine tq 2 hHeld ?_
          refine tq 3 hHeld ?_
          refine tq 4 hHeld ?_
          refine tq 5 hHeld ?_
          refine tq 6 hHeld ?_
          refine tq 7 hHeld ?_
          refine tq 8 hHeld ?_
          refine tq 9 hHeld ?_
          refine tq 10 hHeld ?_
          refine tq 11 hHeld ?_
          refine tq 12 hHeld ?_
          refine tq 13 hHeld ?_
          refine tq 14 hHeld ?_
          refine tq 15 hHeld ?_
          refine tq 16 hHeld ?_
          refine tq 17 hHeld ?_
          refine tq 18 hHeld ?_
          refine tq 19 hHeld ?_
          refine wpAnyH_ready (rs := [20, 24]) (by kernel_rfl) (by simp) ?_
          refine AllReadyH.cons rfl (fun K hK => ?_) (AllReadyH.cons rfl (fun K hK => ?_) AllReadyH.nil)
          · (go_simp; (go_at_call 37; refine (l5Touch_q _ _ _ _ _ _ _ _ _ _ TX TY TD TJ _ si sk qi qk hT).mono ?_; rintro e w3 ⟨rfl, hb3⟩; obtain ⟨hc3, hf3⟩ := bcell hb3; have hz3 := hb3.size; (try simp only [World.size_drew, World.size_alloc, World.size_setCell] at hc3 hf3 hz3); have hk3x0 := fun o => hc3 (b) o (by omega); have hj3x0 := fun o => hf3 (b) o (by omega); have hq3x0 : b < w3.heap.size := (by omega); clear hc3 hf3; have hk3z := fun o => hb3.cell (p := ⟨wr.heap.size, o, none⟩); have hj3z := fun o => hb3.frozen (p := ⟨wr.heap.size, o, none⟩); (try simp only [World.size_drew, World.size_alloc] at hk3z hj3z)); (try go_wp2_with fail); refine tr hK (fun hHeld => ?_); clear hK K)
            refine tq 21 hHeld ?_
            refine tq 22 hHeld ?_
            refine tq 23 hHeld ?_
            refine tc 24 fun K hK => ?_
            (go_simp; refine tr hK (fun hHeld => ?_); clear hK K)
            refine tc 25 fun K hK => ?_
            (go_simp; refine tr hK (fun hHeld => ?_); clear hK K)
            refine tq 26 hHeld ?_
            refine wpAnyH_done (by kernel_rfl) ?_ _
            go_wp2_with fail
            go_meet
            exact ⟨_, rfl, rfl, by go_simp, by go_simp, by go_simp, by first | (simp; omega) | simp | omega, by first | (simp; omega) | simp | omega, bel_a⟩
          · (go_simp; refine tr hK (fun hHeld => ?_); clear hK K)
            refine tc 20 fun K hK => ?_
            (go_simp; (go_at_call 37; refine (l5Touch_q _ _ _ _ _ _ _ _ _ _ TX TY TD TJ _ si sk qi qk hT).mono ?_; rintro e w3 ⟨rfl, hb3⟩; obtain ⟨hc3, hf3⟩ := bcell hb3; have hz3 := hb3.size; (try simp only [World.size_drew, World.size_alloc, World.size_setCell] at hc3 hf3 hz3); have hk3x0 := fun o => hc3 (b) o (by omega); have hj3x0 := fun o => hf3 (b) o (by omega); have hq3x0 : b < w3.heap.size := (by omega); clear hc3 hf3; have hk3z := fun o => hb3.cell (p := ⟨wr.heap.size, o, none⟩); have hj3z := fun o => hb3.frozen (p := ⟨wr.heap.size, o, none⟩); (try simp only [World.size_drew, World.size_alloc] at hk3z hj3z)); (try go_wp2_with fail); refine tr hK (fun hHeld => ?_); clear hK K)
            refine tq 21 hHeld ?_
            refine tq 22 hHeld ?_
            refine tq 23 hHeld ?_
            refine tc 25 fun K hK => ?_
            (go_simp; refine tr hK (fun hHeld => ?_); clear hK K)
            refine tq 26 hHeld ?_
            refine wpAnyH_done (by kernel_rfl) ?_ _
            go_wp2_with fail
            go_meet
            exact ⟨_, rfl, rfl, by go_simp, by go_simp, by go_simp, by first | (simp; omega) | simp | omega, by first | (simp; omega) | simp | omega, bel_a⟩
         case rest =>
         obtain ⟨bh, rfl, rfl, t0, t1, t2, hbh, hbh0, hbd⟩ := hcut
         have hLd := hL.below hbd
         cases TJ with
         | false =>
          have hno : Shut (conOne (colOf U) i k = []) := conOne_no (by unfold conB; rw [hT]; simp)
          go_wp2
          go_roundw
          case rel => exact ⟨k + 1, _, _, _, by omega, by omega, by go_num, rfl, by rw [conIn, hno.out, List.append_nil]; exact hLd⟩
          case measure => simp [intOf]; omega
         | true =>
          have hyes : Shut (conOne (colOf U) i k = [(i : Int), (k : Int), TX, TY, TD]) := conOne_yes (conB_yes hik hfx'.out hT) hT
          go_wp2_with (refine wpList_app rfl _ _ _ rfl w.heap.size 40 5 40 (.agg #[.int .i64 0, .int .i64 0, .int .i64 0, .int .i64 0, .int .i64 0]) Tryz.underlying35 (by kernel_rfl) (by rfl) (by omega) (.slice a2 m2 c2) m2 (ofL (conOut (colOf U) n i ++ conIn (colOf U) i k)) rfl (hLd.below ((Below.refl _ _).alloc (Nat.le_refl _) _)).own _ 1 _ (ofL [(i : Int), (k : Int), TX, TY, TD]) rfl (flat5 _ _ _ _ _ _ _) (by unfold maxLen; omega) (by omega) (by simp only [World.size_alloc]; have := hLd.bel.size; omega) ?_; intro a1 c1 w1 ho1 hg1)
          have hP := (hLd.below ((Below.refl _ _).alloc (Nat.le_refl _) _)).push (x := [(i : Int), (k : Int), TX, TY, TD]) rfl hg1 ho1
          go_roundw
          case rel => exact ⟨k + 1, _, _, _, by omega, by omega, by go_num, rfl, by rw [conIn, hyes.out, ← List.append_assoc]; exact hP⟩
          case measure => simp [intOf]; omega
     · obtain rfl : k = n := by omega
       go_wp2
       go_roundw
       case rel => exact ⟨i + 1, _, _, _, by omega, by go_num, rfl, hL⟩
       case measure => simp [intOf]; omega
  · obtain rfl : i = n := by omega
    go_wp2
    go_ret
    exact ⟨_, _, _, rfl, hL.len, hL.bel, hL.own⟩
theorem OutL.up {w0 w wr : World} {t k n c : Nat} {a : Option Addr} {R : Nat → Int} (h : OutL w wr t k a n c R) (hb : Below w0.heap.size w0 w) : OutL w0 wr t k a n c R := ⟨hb.trans (h.bel.mono hb.size), h.own.base hb.size⟩
theorem l8Aparts_any : ApartDoes := fun base g n c U A B X Y D w h1 h2 h3 h4 h5 h6 h7 h8 => l8Apart_any base g n c U A B X Y D w h1 h2 h3 h4 h5 h6 h7 h8
def ctC (n : Nat) (U : Nat → Int) : Nat → Int := ofL (conL (colOf U) n)
def ctM (n : Nat) (U : Nat → Int) : Nat := (conL (colOf U) n).length / 5
def gpG (n : Nat) (U : Nat → Int) : Nat → Int := ofL (grpL U (ctC n U) (ctM n U) n)
def awA (n : Nat) (U : Nat → Int) : Nat → Bool := fun j => (awL U (gpG n U) n).getD j false
def awN (n : Nat) (U : Nat → Int) : Nat := (awL U (gpG n U) n).length
def wokeU (n : Nat) (U : Nat → Int) : Nat → Int := mapR (fun i V => wakeV (awK (gpG n U) (awA n U) i) V) U n
def lvC (n : Nat) (U : Nat → Int) : Nat → Int := ofL (liveL (wokeU n U) (ctC n U) (ctM n U))
def lvM (n : Nat) (U : Nat → Int) : Nat := (liveL (wokeU n U) (ctC n U) (ctM n U)).length / 5
def pushU (n : Nat) (U : Nat → Int) (g : Int) : Nat → Int := allN (lvC n U) (mapR (fun _ V => pullV g V) (wokeU n U) n) (lvM n U) 4
def goneU (n : Nat) (U : Nat → Int) (g : Int) : Nat → Int := apartN (lvC n U) (mapR (fun _ V => goV V) (pushU n U g) n) (lvM n U)
def stepU (n : Nat) (U : Nat → Int) (g : Int) : Nat → Int := sleepN (gpG n U) (awA n U) n (mapR (fun i V => quietV (wokeU n U (i * 12 + 11)) V) (goneU n U g) n) (awN n U)
theorem gp_val (n : Nat) (U : Nat → Int) : ∀ i, i < n → gpG n U i = valN U (ofL (grpR U (ctC n U) (ctM n U) (rng n) n)) i := fun i hi => ofL_num U _ n i hi
theorem ct_ok (n : Nat) (U : Nat → Int) : CtOk n (ctM n U) (ctC n U) ∧ (conL (colOf U) n).length = ctM n U * 5 := by
 obtain ⟨m, e, _⟩ := conOut_ok (colOf U) n (n := n)
 have e' : (conL (colOf U) n).length = m * 5 := e
 have hm : ctM n U = m := by unfold ctM; omega
 rw [hm]
 exact ⟨con_ct _ e', e'⟩
theorem lv_ok (n : Nat) (U : Nat → Int) : CtOk n (lvM n U) (lvC n U) ∧ (liveL (wokeU n U) (ctC n U) (ctM n U)).length = lvM n U * 5 := by
 have h := live_ok (U := wokeU n U) (con_P (colOf U) (ct_ok n U).2) (ctM n U) (Nat.le_refl _)
 obtain ⟨m, e, _⟩ := id h
 have hm : lvM n U = m := by unfold lvM ctC; omega
 rw [hm]
 exact ⟨h.ct e, e⟩
theorem go8 (V : Nat → Int) : goV V 8 = V 8 := by unfold goV; cases liveV V <;> rfl
theorem quiet8 (z : Int) (V : Nat → Int) : quietV z V 8 = V 8 := by unfold quietV; cases (decide (V 8 = 0) || decide (8 ≤ V 11)) <;> rfl
theorem pull8 (z : Int) (V : Nat → Int) : pullV z V 8 = V 8 := by unfold pullV; cases liveV V <;> rfl
theorem wake8 (b : Bool) (V : Nat → Int) : wakeV b V 8 = V 8 := by unfold wakeV; first | (cases b <;> cases decide (8 ≤ V 11) <;> rfl) | (split <;> rfl)
theorem Bods.steps {n : Nat} {U : Nat → Int} (h : Bods n U) (g : Int) :
 Bods n (wokeU n U) ∧ Bods n (mapR (fun _ V => pullV g V) (wokeU n U) n) ∧ Bods n (pushU n U g) ∧ Bods n (mapR (fun _ V => goV V) (pushU n U g) n) ∧ Bods n (goneU n U g) ∧ Bods n (mapR (fun i V => quietV (wokeU n U (i * 12 + 11)) V) (goneU n U g) n) ∧ Bods n (stepU n U g) ∧ ∀ k, k < n → stepU n U g (k * 12 + 8) = U (k * 12 + 8) := by
 have h1 : Bods n (wokeU n U) := h.wake
 have h2 := h1.pull g
 have h3 : Bods n (pushU n U g) ∧ ∀ i, pushU n U g (i * 12 + 8) = mapR (fun _ V => pullV g V) (wokeU n U) n (i * 12 + 8) := h2.all (lv_ok n U).1 4
 have h4 := h3.1.go
 have h5 : Bods n (goneU n U g) ∧ ∀ i, goneU n U g (i * 12 + 8) = mapR (fun _ V => goV V) (pushU n U g) n (i * 12 + 8) := h4.aparts (lv_ok n U).1 (lvM n U) (Nat.le_refl _)
 have h6 : Bods n (mapR (fun i V => quietV (wokeU n U (i * 12 + 11)) V) (goneU n U g) n) := h5.1.quiet h1
 have m6 : ∀ k, k < n → mapR (fun i V => quietV (wokeU n U (i * 12 + 11)) V) (goneU n U g) n (k * 12 + 8) = U (k * 12 + 8) := fun k hk => by
  rw [mapR_in hk (by omega), quiet8]
  show goneU n U g (k * 12 + 8) = _
  rw [h5.2 k, mapR_in hk (by omega), go8]
  show pushU n U g (k * 12 + 8) = _
  rw [h3.2 k, mapR_in hk (by omega), pull8]
  show wokeU n U (k * 12 + 8) = _
  unfold wokeU
  rw [mapR_in hk (by omega), wake8]
 have h7 := h6.sleep (G := gpG n U) (A := awA n U) (fun k hk hg => by rw [m6 k hk]; exact (grp_bd U _ (gpG n U) n (gp_val n U) k hk).2.2 hg) (awN n U)
 exact ⟨h1, h2, h3.1, h4, h5.1, h6, h7.1, fun k hk => (h7.2 k hk).trans (m6 k hk)⟩
theorem l9Step_any (a : Option Addr) (n c : Nat) (U : Nat → Int) (g : Int) (w : World) (h : Flat w a (n * 12) U) (hbb : Bods n U) (hg : 0 ≤ g ∧ g ≤ 2560) :
 Calls Tryz.prog 52 #[.slice a n c, .int .i64 g] w fun e w' => ∃ a1 c1, e = .returned (.slice a1 n c1) ∧ OutL w w' 34 12 a1 n c1 (stepU n U g) := by
 have hset := cset_map
 have hn12 := hbb.le
 obtain ⟨B1, B2, B3, B4, B5, B6, B7, _⟩ := hbb.steps g
 obtain ⟨K1, L1⟩ := ct_ok n U
 obtain ⟨K2, L2⟩ := lv_ok n U
 have hG := grp_bd U _ (gpG n U) n (gp_val n U)
 have hm1 : ctM n U ≤ 1048576 := by
  obtain ⟨m, e, hm⟩ := conOut_len (colOf U) n n
  have e' : (conL (colOf U) n).length = m * 5 := e
  have := Nat.mul_le_mul hn12 hn12
  omega
 have hm2 : lvM n U ≤ 1048576 := by have := liveL_len (wokeU n U) (ctC n U) (ctM n U); omega
 have hq2 : ∀ k, k < n → 0 ≤ wokeU n U (k * 12 + 11) ∧ wokeU n U (k * 12 + 11) ≤ 8 := fun k hk => (bodyB_bd (B1.ok k hk)).2.1
 have hna : awN n U ≤ 1048576 := by have := awL_len U (gpG n U) n; unfold awN; omega
 go_enter Tryz.func52, Tryz.ntmps52
 go_upto_region 2 with (go_at_call 21; refine (l7Contacts_any a n c U _ h hbb.to hn12).mono ?_; rintro e w1 ⟨a1, m1, c1, rfl, hm, hO1⟩)
 obtain rfl : m1 = ctM n U := by omega
 have hO1 : OutL w w1 40 5 a1 (ctM n U) c1 (ctC n U) := hO1
 have h1 := h.below hO1.bel
 have f1 := hO1.own.flat
 go_upto_region 3 with (go_at_call 20; refine (l7Groups_any a n c U a1 (ctM n U) c1 (ctC n U) _ h1 (by omega) hm1 f1 K1).mono ?_; rintro e w2 ⟨g2, c2, rfl, hO2⟩)
 have h2 := h1.below hO2.bel
 have f12 := f1.below hO2.bel
 have f2 : Flat w2 (some ⟨g2, 0, none⟩) (n * 1) (gpG n U) := hO2.flat
 go_upto_region 4 with (go_at_call 26; refine (l7Awake_any a n c U (some ⟨g2, 0, none⟩) c2 (gpG n U) _ h2 (by omega) f2 (fun i hi => (hG i hi).1)).mono ?_; rintro e w3 ⟨g3, c3, na, rfl, hna3, hO3⟩)
 obtain rfl : na = awN n U := hna3
 have h3 := h2.below hO3.bel
 have f13 := f12.below hO3.bel
 have f23 := f2.below hO3.bel
 have f3 : FlatB w3 (some ⟨g3, 0, none⟩) (awN n U) (awA n U) := hO3.flatB
 go_upto_region 5 with (go_at_call 80; refine (l9Wake_any a n c U (some ⟨g2, 0, none⟩) c2 (gpG n U) (some ⟨g3, 0, none⟩) (awN n U) c3 (awA n U) _ h3 (by omega) f23 f3 (fun i hi => (hG i hi).2.1)).mono ?_; rintro e w4 ⟨a4, c4, rfl, hO4⟩)
 have hO4 : OutL w3 w4 34 12 a4 n c4 (wokeU n U) := hO4
 have f14 := f13.below hO4.bel
 have f24 := f23.below hO4.bel
 have f34 := f3.below hO4.bel (B := 0)
 have f4 := hO4.own.flat
 go_upto_region 6 with (go_at_call 81; refine (l9Live_any a4 n c4 (wokeU n U) a1 (ctM n U) c1 (ctC n U) _ f4 (by omega) hm1 f14 (fun k hk => ⟨K1.a k hk, K1.b k hk⟩)).mono ?_; rintro e w5 ⟨a5, m5, c5, rfl, hm5, hO5⟩)
 obtain rfl : m5 = lvM n U := by omega
 have hO5 : OutL w4 w5 40 5 a5 (lvM n U) c5 (lvC n U) := hO5
 have f25 := f24.below hO5.bel
 have f35 := f34.below hO5.bel (B := 0)
 have f45 := f4.below hO5.bel
 have f5 := hO5.own.flat
 go_upto_region 7 with (first
  | (go_at_call 83; refine (l9Pull_any a4 n c4 (wokeU n U) g _ f45 (by omega) hg B1).mono ?_; rintro e w6 ⟨a6, c6, rfl, hO6⟩)
  | (go_at_call 82; refine (l8All_any a6 n c6 _ a5 (lvM n U) c5 (lvC n U) _ hO6.own.flat (by omega) hm2 (f5.below hO6.bel) B2 K2).mono ?_; rintro e w7 ⟨a7, c7, rfl, hO7⟩))
 have hO7 : OutL w6 w7 34 12 a7 n c7 (pushU n U g) := hO7
 have f27 := (f25.below hO6.bel).below hO7.bel
 have f37 := (f35.below hO6.bel (B := 0)).below hO7.bel (B := 0)
 have f47 := (f45.below hO6.bel).below hO7.bel
 have f57 := (f5.below hO6.bel).below hO7.bel
 have f7 := hO7.own.flat
 go_upto_region 8 with (first
  | (go_at_call 85; refine (l9Moves_any a7 n c7 (pushU n U g) _ f7 (by omega) B3).mono ?_; rintro e w8 ⟨a8, c8, rfl, hO8⟩)
  | (go_at_call 84; refine (l8Aparts_of l8Aparts_any a8 n c8 _ a5 (lvM n U) c5 (lvC n U) _ hO8.own.flat (by omega) hm2 (f57.below hO8.bel) B4 K2).mono ?_; rintro e w9 ⟨a9, c9, rfl, hO9⟩))
 have hO9 : OutL w8 w9 34 12 a9 n c9 (goneU n U g) := hO9
 have f29 := (f27.below hO8.bel).below hO9.bel
 have f39 := (f37.below hO8.bel (B := 0)).below hO9.bel (B := 0)
 have f49 := (f47.below hO8.bel).below hO9.bel
 have f9 := hO9.own.flat
 go_wp2_with (first
  | (go_at_call 87; refine (l9Quiet_any a9 n c9 (goneU n U g) a4 c4 (wokeU n U) _ f9 (by omega) B5 f49 hq2).mono ?_; rintro e w10 ⟨a10, c10, rfl, hO10⟩)
  | (go_at_call 86; refine (l9Sleep_any a10 n c10 _ (some ⟨g2, 0, none⟩) c2 (gpG n U) (some ⟨g3, 0, none⟩) (awN n U) c3 (awA n U) _ hO10.own.flat (by omega) hna (f29.below hO10.bel) (f39.below hO10.bel (B := 0))).mono ?_; rintro e w11 ⟨a11, c11, rfl, hO11⟩))
 go_ret
 have b2 := hO1.bel.trans (hO2.bel.mono hO1.bel.size)
 have b3 := b2.trans (hO3.bel.mono b2.size)
 have b4 := b3.trans (hO4.bel.mono b3.size)
 have b5 := b4.trans (hO5.bel.mono b4.size)
 have b6 := b5.trans (hO6.bel.mono b5.size)
 have b7 := b6.trans (hO7.bel.mono b6.size)
 have b8 := b7.trans (hO8.bel.mono b7.size)
 have b9 := b8.trans (hO9.bel.mono b8.size)
 have b10 := b9.trans (hO10.bel.mono b9.size)
 exact ⟨_, _, rfl, hO11.up b10⟩
end Go.Proofs.YtalkkjhehndaoaaGreat
