/- Texts of a proof. -/
import Derived.Test.YthijeiehcdoidaaGreatDrawWP
import Derived.Test.YthijeiehcdoidaaGreatWdPa
import Derived.Test.YthijeiehcdoidaaGreatWdGi
import Derived.Test.YthijeiehcdoidaaGreatPutM
import Derived.Test.YthijeiehcdoidaaGreatB35
import Derived.Deep.RegionHeld3
import Derived.Deep.DeepCutAuto
set_option maxHeartbeats 16000000
set_option maxRecDepth 20000
namespace Go.Proofs.YthijeiehcdoidaaGreat
open Go.RowKit
set_option linter.unusedVariables false
set_option linter.unusedSimpArgs false
theorem fnWorldPut_walk (ac : Option Addr) (len cap : Nat) (w : World) (hb : Bytes w ac len cap) :
 Calls Tryz.prog 4 #[.slice ac len cap] w fun e w' => e = .returned (.bool true) ∧ Below w.heap.size w w' := by
 have hset := cset_map
 by_cases hlen : 1048576 < len
 · have hl : (1048576 : Int) < (len : Int) := by omega
   go_enter Tryz.func4, Tryz.ntmps4
   go_wp2_with fail
   go_ret
   exact ⟨rfl, Below.refl _ _⟩
 have hl : ¬ (1048576 : Int) < (len : Int) := by omega
 go_enter Tryz.func4, Tryz.ntmps4
 go_upto_region 3 with fail
 go_cut [3, 4] (fun s3 s4 wc => ∃ (wb xb : Nat) (T P : Int) (a : Option Addr) (n c : Nat) (U : Nat → Int) (a' : Option Addr) (m c' : Nat) (Q V : Nat → Int), s3 = .pointer (some ⟨wb, 0, none⟩) ∧ s4 = .pointer (some ⟨xb, 0, none⟩) ∧ n ≤ 13 ∧ m ≤ 433 ∧ Below w.heap.size w wc ∧ Blk wc wb #[.int .i64 T, .int .i64 P, .slice a n c, .slice a' m c'] 26 ∧ Blk wc xb #[.int .i64 (V 0), .int .i64 (V 1), .int .i64 (V 2), .int .i64 (V 3), .int .i64 (V 4), .int .i64 (V 5), .int .i64 (V 6), .int .i64 (V 7), .int .i64 (V 8), .int .i64 (V 9), .int .i64 (V 10), .int .i64 (V 11)] 41 ∧ OwnL wc w.heap.size 41 12 (.slice a n c) n U ∧ OwnL wc w.heap.size 58 2 (.slice a' m c') m Q)
 case first =>
  go_wp2_with (go_at_call 10; refine (drawWorldPut_k _ _ _ _ hb).mono ?_; intro e w1 hD; unfold DrWP at hD; obtain ⟨T, P, a, n, c, U, a', m, c', Q, V, rfl, hn, hm, hb1, hO1, hQ1, hNE⟩ := hD)
  go_meet
  have q1 := Blk.new w1 #[.int .i64 T, .int .i64 P, .slice a n c, .slice a' m c'] 26
  have q2 := Blk.new (w1.alloc (.cells #[.int .i64 T, .int .i64 P, .slice a n c, .slice a' m c'] 26)) #[.int .i64 (V 0), .int .i64 (V 1), .int .i64 (V 2), .int .i64 (V 3), .int .i64 (V 4), .int .i64 (V 5), .int .i64 (V 6), .int .i64 (V 7), .int .i64 (V 8), .int .i64 (V 9), .int .i64 (V 10), .int .i64 (V 11)] 41
  rw [show (w1.alloc (.cells #[.int .i64 T, .int .i64 P, .slice a n c, .slice a' m c'] 26)).heap.size = w1.heap.size + 1 by simp] at q2
  exact ⟨_, _, T, P, a, n, c, U, a', m, c', Q, V, rfl, rfl, hn, hm, (hb1.alloc hb1.size _).alloc (by simp; have := hb1.size; omega) _, q1.al _, q2, (hO1.al _).al _, (hQ1.al _).al _⟩
 case rest =>
 obtain ⟨wb, xb, T, P, a, n, c, U, a', m, c', Q, V, rfl, rfl, hn, hm, bel, hA, hX, hO, hQ⟩ := hcut
 have hAc0 := hA.cell 0 rfl
 have hAc1 := hA.cell 1 rfl
 have hAc2 := hA.cell 2 rfl
 have hAc3 := hA.cell 3 rfl
 have hXc0 := hX.cell 0 rfl
 have hXc1 := hX.cell 1 rfl
 have hXc2 := hX.cell 2 rfl
 have hXc3 := hX.cell 3 rfl
 have hXc4 := hX.cell 4 rfl
 have hXc5 := hX.cell 5 rfl
 have hXc6 := hX.cell 6 rfl
 have hXc7 := hX.cell 7 rfl
 have hXc8 := hX.cell 8 rfl
 have hXc9 := hX.cell 9 rfl
 have hXc10 := hX.cell 10 rfl
 have hXc11 := hX.cell 11 rfl
 obtain ⟨p, hp⟩ := idP_ex U (V 0) n
 obtain ⟨A, hA0⟩ : ∃ A, putWA T P n U m Q V p = A := ⟨_, rfl⟩
 have hAn := putWA_n hA0 (by omega)
 have hAe : Shut (putWA T P n U m Q V p = A) := hA0
 have hAb : A.n ≤ 1000 ∧ A.m ≤ 1000 := by
  have h12 : ∀ h : worldB T P n U m Q = true, n ≤ 12 := fun h => by unfold worldB at h; simp only [Bool.and_eq_true] at h; exact (Bods.of h.2.2.1).le
  rw [← hA0]
  unfold putWA
  cases hw : worldB T P n U m Q with
  | false => exact ⟨by show 0 ≤ 1000; omega, by show 0 ≤ 1000; omega⟩
  | true =>
   have := h12 hw
   simp only [cond_true]
   cases bodyB V <;> cases decide (p < n ∧ U (p * 12) = V 0) <;> cases decide (n = 12) <;> simp only [cond_true, cond_false] <;> omega
 obtain ⟨hAb1, hAb2⟩ := hAb
 clear hA0 hAn
 obtain ⟨OK, hOK0⟩ : ∃ b, worldB T P n U m Q = b := ⟨_, rfl⟩
 have hOK : Shut (worldB T P n U m Q = OK) := hOK0
 clear hOK0
 go_upto_region 4 with fail
 go_cut [5, 6] (fun s5 s6 wc => ∃ (yb : Nat) (a1 : Option Addr) (c1 : Nat) (a2 : Option Addr) (c2 : Nat), s5 = .pointer (some ⟨yb, 0, none⟩) ∧ s6 = .int .i64 A.k ∧ Below w.heap.size w wc ∧ Blk wc wb #[.int .i64 T, .int .i64 P, .slice a n c, .slice a' m c'] 26 ∧ Blk wc xb #[.int .i64 (V 0), .int .i64 (V 1), .int .i64 (V 2), .int .i64 (V 3), .int .i64 (V 4), .int .i64 (V 5), .int .i64 (V 6), .int .i64 (V 7), .int .i64 (V 8), .int .i64 (V 9), .int .i64 (V 10), .int .i64 (V 11)] 41 ∧ Blk wc yb #[.int .i64 A.T, .int .i64 A.P, .slice a1 A.n c1, .slice a2 A.m c2] 26 ∧ OwnL wc w.heap.size 41 12 (.slice a n c) n U ∧ OwnL wc w.heap.size 58 2 (.slice a' m c') m Q ∧ OwnL wc w.heap.size 41 12 (.slice a1 A.n c1) A.n A.U ∧ OwnL wc w.heap.size 58 2 (.slice a2 A.m c2) A.m A.Q)
 case first =>
  go_wp2_with (go_at_call 11; refine (worldPut_q T P a n c U a' m c' Q V p _ hO.flat hQ.flat (by omega) (by omega) hp A hAe.out).mono ?_; intro e w2 hD; unfold WOut at hD; obtain ⟨a1, c1, a2, c2, rfl, hOut⟩ := hD)
  go_meet
  have bz := hOut.bel.alloc hOut.bel.size (.cells #[.int .i64 A.T, .int .i64 A.P, .slice a1 A.n c1, .slice a2 A.m c2] 26)
  exact ⟨_, a1, c1, a2, c2, rfl, rfl, bel.trans (bz.mono bel.size), hA.on bz, hX.on bz, Blk.new _ _ _, hO.below bz, hQ.below bz, (hOut.ob.base bel.size).al _, (hOut.op.base bel.size).al _⟩
 case rest =>
 clear bel hA hX hO hQ hAc0 hAc1 hAc2 hAc3 hXc0 hXc1 hXc2 hXc3 hXc4 hXc5 hXc6 hXc7 hXc8 hXc9 hXc10 hXc11
 obtain ⟨yb, a1, c1, a2, c2, rfl, rfl, bel, hA, hX, hY, hO, hQ, hP, hR⟩ := hcut
 have hAc0 := hA.cell 0 rfl
 have hAc1 := hA.cell 1 rfl
 have hAc2 := hA.cell 2 rfl
 have hAc3 := hA.cell 3 rfl
 have hXc0 := hX.cell 0 rfl
 have hXc1 := hX.cell 1 rfl
 have hXc2 := hX.cell 2 rfl
 have hXc3 := hX.cell 3 rfl
 have hXc4 := hX.cell 4 rfl
 have hXc5 := hX.cell 5 rfl
 have hXc6 := hX.cell 6 rfl
 have hXc7 := hX.cell 7 rfl
 have hXc8 := hX.cell 8 rfl
 have hXc9 := hX.cell 9 rfl
 have hXc10 := hX.cell 10 rfl
 have hXc11 := hX.cell 11 rfl
 have hYc0 := hY.cell 0 rfl
 have hYc1 := hY.cell 1 rfl
 have hYc2 := hY.cell 2 rfl
 have hYc3 := hY.cell 3 rfl
 go_upto_region 5 with fail
 go_cut [7, 8] (fun s5 s6 wc => ∃ (zb : Nat) (a3 : Option Addr) (c3 : Nat) (a4 : Option Addr) (c4 : Nat), s5 = .pointer (some ⟨zb, 0, none⟩) ∧ s6 = .int .i64 A.k ∧ Below w.heap.size w wc ∧ Blk wc wb #[.int .i64 T, .int .i64 P, .slice a n c, .slice a' m c'] 26 ∧ Blk wc xb #[.int .i64 (V 0), .int .i64 (V 1), .int .i64 (V 2), .int .i64 (V 3), .int .i64 (V 4), .int .i64 (V 5), .int .i64 (V 6), .int .i64 (V 7), .int .i64 (V 8), .int .i64 (V 9), .int .i64 (V 10), .int .i64 (V 11)] 41 ∧ Blk wc yb #[.int .i64 A.T, .int .i64 A.P, .slice a1 A.n c1, .slice a2 A.m c2] 26 ∧ Blk wc zb #[.int .i64 A.T, .int .i64 A.P, .slice a3 A.n c3, .slice a4 A.m c4] 26 ∧ OwnL wc w.heap.size 41 12 (.slice a n c) n U ∧ OwnL wc w.heap.size 58 2 (.slice a' m c') m Q ∧ OwnL wc w.heap.size 41 12 (.slice a1 A.n c1) A.n A.U ∧ OwnL wc w.heap.size 58 2 (.slice a2 A.m c2) A.m A.Q ∧ OwnL wc w.heap.size 41 12 (.slice a3 A.n c3) A.n A.U ∧ OwnL wc w.heap.size 58 2 (.slice a4 A.m c4) A.m A.Q)
 case first =>
  go_wp2_with (go_at_call 12; refine (sWorldPut_qa T P a n c U a' m c' Q V p _ hO.flat hQ.flat (by omega) (by omega) hO.le hp A hAe.out).mono ?_; intro e w2 hD; unfold WOut at hD; obtain ⟨a3, c3, a4, c4, rfl, hOut⟩ := hD)
  go_meet
  have bz := hOut.bel.alloc hOut.bel.size (.cells #[.int .i64 A.T, .int .i64 A.P, .slice a3 A.n c3, .slice a4 A.m c4] 26)
  exact ⟨_, a3, c3, a4, c4, rfl, rfl, bel.trans (bz.mono bel.size), hA.on bz, hX.on bz, hY.on bz, Blk.new _ _ _, hO.below bz, hQ.below bz, hP.below bz, hR.below bz, (hOut.ob.base bel.size).al _, (hOut.op.base bel.size).al _⟩
 case rest =>
 clear bel hA hX hY hO hQ hP hR hAc0 hAc1 hAc2 hAc3 hXc0 hXc1 hXc2 hXc3 hXc4 hXc5 hXc6 hXc7 hXc8 hXc9 hXc10 hXc11 hYc0 hYc1 hYc2 hYc3
 obtain ⟨zb, a3, c3, a4, c4, rfl, rfl, bel, hA, hX, hY, hZ, hO, hQ, hP, hR, hS, hT⟩ := hcut
 have hAc0 := hA.cell 0 rfl
 have hAc1 := hA.cell 1 rfl
 have hAc2 := hA.cell 2 rfl
 have hAc3 := hA.cell 3 rfl
 have hYc0 := hY.cell 0 rfl
 have hYc1 := hY.cell 1 rfl
 have hYc2 := hY.cell 2 rfl
 have hYc3 := hY.cell 3 rfl
 have hZc0 := hZ.cell 0 rfl
 have hZc1 := hZ.cell 1 rfl
 have hZc2 := hZ.cell 2 rfl
 have hZc3 := hZ.cell 3 rfl
 have hkk : (A.k != A.k) = false := by simp
 have hke : (A.k == A.k) = true := by simp
 have hoo : (OK != OK) = false := by simp
 go_upto_region 6 with fail
 go_cut [55] (fun s wc => s = .bool (!OK) ∧ Below w.heap.size w wc ∧ Blk wc wb #[.int .i64 T, .int .i64 P, .slice a n c, .slice a' m c'] 26 ∧ Blk wc xb #[.int .i64 (V 0), .int .i64 (V 1), .int .i64 (V 2), .int .i64 (V 3), .int .i64 (V 4), .int .i64 (V 5), .int .i64 (V 6), .int .i64 (V 7), .int .i64 (V 8), .int .i64 (V 9), .int .i64 (V 10), .int .i64 (V 11)] 41 ∧ Blk wc yb #[.int .i64 A.T, .int .i64 A.P, .slice a1 A.n c1, .slice a2 A.m c2] 26 ∧ Blk wc zb #[.int .i64 A.T, .int .i64 A.P, .slice a3 A.n c3, .slice a4 A.m c4] 26 ∧ OwnL wc w.heap.size 41 12 (.slice a n c) n U ∧ OwnL wc w.heap.size 58 2 (.slice a' m c') m Q ∧ OwnL wc w.heap.size 41 12 (.slice a1 A.n c1) A.n A.U ∧ OwnL wc w.heap.size 58 2 (.slice a2 A.m c2) A.m A.Q ∧ OwnL wc w.heap.size 41 12 (.slice a3 A.n c3) A.n A.U ∧ OwnL wc w.heap.size 58 2 (.slice a4 A.m c4) A.m A.Q)
 case first =>
  refine wp_region_held_drew (S := fun w' => w'.cell? ⟨wb, 0, none⟩ = some (.int .i64 T) ∧ w'.cell? ⟨wb, 1, none⟩ = some (.int .i64 P) ∧ w'.cell? ⟨wb, 2, none⟩ = some (.slice a n c) ∧ w'.cell? ⟨wb, 3, none⟩ = some (.slice a' m c') ∧ w'.cell? ⟨yb, 0, none⟩ = some (.int .i64 A.T) ∧ w'.cell? ⟨yb, 1, none⟩ = some (.int .i64 A.P) ∧ w'.cell? ⟨yb, 2, none⟩ = some (.slice a1 A.n c1) ∧ w'.cell? ⟨yb, 3, none⟩ = some (.slice a2 A.m c2) ∧ w'.cell? ⟨zb, 0, none⟩ = some (.int .i64 A.T) ∧ w'.cell? ⟨zb, 1, none⟩ = some (.int .i64 A.P) ∧ w'.cell? ⟨zb, 2, none⟩ = some (.slice a3 A.n c3) ∧ w'.cell? ⟨zb, 3, none⟩ = some (.slice a4 A.m c4)) (by kernel_rfl) ?_ (fun hHeld => ?_)
  · (try dsimp only)
    (first | (go_simp; done) | (go_keep; done))
  refine tq 0 hHeld ?_
  refine tq 1 hHeld ?_
  refine tq 2 hHeld ?_
  refine tq 3 hHeld ?_
  refine tq 4 hHeld ?_
  refine tq 5 hHeld ?_
  refine tc 6 fun K hK => ?_
  (go_simp
   have bz := (Below.refl wc.heap.size wc).drew
   (go_at_call 13; refine (pqWorld_same A.T A.P a1 a3 A.n c1 c3 A.U a2 a4 A.m c2 c4 A.Q _ (by exact (hP.below bz).flat) (by exact (hS.below bz).flat) (by exact (hR.below bz).flat) (by exact (hT.below bz).flat) (by omega) (by omega)).mono ?_; rintro e w6 ⟨rfl, hb6⟩)
   replace bz := bz.trans (hb6.mono bz.size)
   clear hAc0 hAc1 hAc2 hAc3 hYc0 hYc1 hYc2 hYc3 hZc0 hZc1 hZc2 hZc3
   have hAc0 := (hA.on bz).cell 0 rfl
   have hAc1 := (hA.on bz).cell 1 rfl
   have hAc2 := (hA.on bz).cell 2 rfl
   have hAc3 := (hA.on bz).cell 3 rfl
   have hYc0 := (hY.on bz).cell 0 rfl
   have hYc1 := (hY.on bz).cell 1 rfl
   have hYc2 := (hY.on bz).cell 2 rfl
   have hYc3 := (hY.on bz).cell 3 rfl
   have hZc0 := (hZ.on bz).cell 0 rfl
   have hZc1 := (hZ.on bz).cell 1 rfl
   have hZc2 := (hZ.on bz).cell 2 rfl
   have hZc3 := (hZ.on bz).cell 3 rfl
   (try go_wp2_with fail)
   refine tr hK (fun hHeld => ?_)
   clear hK K)
  refine tq 7 hHeld ?_
  refine tq 8 hHeld ?_
  refine tq 9 hHeld ?_
  refine tq 10 hHeld ?_
  refine tq 12 hHeld ?_
  refine tc 11 fun K hK => ?_
  (go_simp
   (go_at_call 14; refine (worldOk_q T P a n c U a' m c' Q _ (by exact (hO.below bz).flat) (by exact (hQ.below bz).flat) (by omega) (by omega) OK hOK.out).mono ?_; rintro e w11 ⟨rfl, hb11⟩)
   replace bz := bz.trans (hb11.mono bz.size)
   clear hAc0 hAc1 hAc2 hAc3 hYc0 hYc1 hYc2 hYc3 hZc0 hZc1 hZc2 hZc3
   have hAc0 := (hA.on bz).cell 0 rfl
   have hAc1 := (hA.on bz).cell 1 rfl
   have hAc2 := (hA.on bz).cell 2 rfl
   have hAc3 := (hA.on bz).cell 3 rfl
   have hYc0 := (hY.on bz).cell 0 rfl
   have hYc1 := (hY.on bz).cell 1 rfl
   have hYc2 := (hY.on bz).cell 2 rfl
   have hYc3 := (hY.on bz).cell 3 rfl
   have hZc0 := (hZ.on bz).cell 0 rfl
   have hZc1 := (hZ.on bz).cell 1 rfl
   have hZc2 := (hZ.on bz).cell 2 rfl
   have hZc3 := (hZ.on bz).cell 3 rfl
   (try go_wp2_with fail)
   refine tr hK (fun hHeld => ?_)
   clear hK K)
  refine tc 13 fun K hK => ?_
  (go_simp
   (go_at_call 8; refine (sWorldOk_q T P a n c U a' m c' Q _ (by exact (hO.below bz).flat) (by exact (hQ.below bz).flat) (by omega) (by omega) OK hOK.out).mono ?_; rintro e w13 ⟨rfl, hb13⟩)
   replace bz := bz.trans (hb13.mono bz.size)
   clear hAc0 hAc1 hAc2 hAc3 hYc0 hYc1 hYc2 hYc3 hZc0 hZc1 hZc2 hZc3
   have hAc0 := (hA.on bz).cell 0 rfl
   have hAc1 := (hA.on bz).cell 1 rfl
   have hAc2 := (hA.on bz).cell 2 rfl
   have hAc3 := (hA.on bz).cell 3 rfl
   have hYc0 := (hY.on bz).cell 0 rfl
   have hYc1 := (hY.on bz).cell 1 rfl
   have hYc2 := (hY.on bz).cell 2 rfl
   have hYc3 := (hY.on bz).cell 3 rfl
   have hZc0 := (hZ.on bz).cell 0 rfl
   have hZc1 := (hZ.on bz).cell 1 rfl
   have hZc2 := (hZ.on bz).cell 2 rfl
   have hZc3 := (hZ.on bz).cell 3 rfl
   (try go_wp2_with fail)
   refine tr hK (fun hHeld => ?_)
   clear hK K)
  refine tq 14 hHeld ?_
  refine tq 15 hHeld ?_
  refine tq 16 hHeld ?_
  refine tq 17 hHeld ?_
  refine tc 18 fun K hK => ?_
  (go_simp
   (go_at_call 8; refine (sWorldOk_q T P a n c U a' m c' Q _ (by exact (hO.below bz).flat) (by exact (hQ.below bz).flat) (by omega) (by omega) OK hOK.out).mono ?_; rintro e w18 ⟨rfl, hb18⟩)
   replace bz := bz.trans (hb18.mono bz.size)
   clear hAc0 hAc1 hAc2 hAc3 hYc0 hYc1 hYc2 hYc3 hZc0 hZc1 hZc2 hZc3
   have hAc0 := (hA.on bz).cell 0 rfl
   have hAc1 := (hA.on bz).cell 1 rfl
   have hAc2 := (hA.on bz).cell 2 rfl
   have hAc3 := (hA.on bz).cell 3 rfl
   have hYc0 := (hY.on bz).cell 0 rfl
   have hYc1 := (hY.on bz).cell 1 rfl
   have hYc2 := (hY.on bz).cell 2 rfl
   have hYc3 := (hY.on bz).cell 3 rfl
   have hZc0 := (hZ.on bz).cell 0 rfl
   have hZc1 := (hZ.on bz).cell 1 rfl
   have hZc2 := (hZ.on bz).cell 2 rfl
   have hZc3 := (hZ.on bz).cell 3 rfl
   (try go_wp2_with fail)
   refine tr hK (fun hHeld => ?_)
   clear hK K)
  refine tq 19 hHeld ?_
  refine tq 20 hHeld ?_
  refine wpAnyH_done (by kernel_rfl) ?_ _
  go_wp2_with fail
  go_meet
  exact ⟨by simp, bel.trans (bz.mono bel.size), hA.on bz, hX.on bz, hY.on bz, hZ.on bz, hO.below bz, hQ.below bz, hP.below bz, hR.below bz, hS.below bz, hT.below bz⟩
 case rest =>
 clear bel hA hX hY hZ hO hQ hP hR hS hT hAc0 hAc1 hAc2 hAc3 hYc0 hYc1 hYc2 hYc3 hZc0 hZc1 hZc2 hZc3
 obtain ⟨rfl, bel, hA, hX, hY, hZ, hO, hQ, hP, hR, hS, hT⟩ := hcut
 cases OK with
 | false =>
  have hAc0 := hA.cell 0 rfl
  have hAc1 := hA.cell 1 rfl
  have hAc2 := hA.cell 2 rfl
  have hAc3 := hA.cell 3 rfl
  have hYc0 := hY.cell 0 rfl
  have hYc1 := hY.cell 1 rfl
  have hYc2 := hY.cell 2 rfl
  have hYc3 := hY.cell 3 rfl
  have hZc0 := hZ.cell 0 rfl
  have hZc1 := hZ.cell 1 rfl
  have hZc2 := hZ.cell 2 rfl
  have hZc3 := hZ.cell 3 rfl
  go_upto_region 7 with fail
  refine wp_region_held_drew (S := fun w' => w'.cell? ⟨wb, 0, none⟩ = some (.int .i64 T) ∧ w'.cell? ⟨wb, 1, none⟩ = some (.int .i64 P) ∧ w'.cell? ⟨wb, 2, none⟩ = some (.slice a n c) ∧ w'.cell? ⟨wb, 3, none⟩ = some (.slice a' m c') ∧ w'.cell? ⟨yb, 0, none⟩ = some (.int .i64 A.T) ∧ w'.cell? ⟨yb, 1, none⟩ = some (.int .i64 A.P) ∧ w'.cell? ⟨yb, 2, none⟩ = some (.slice a1 A.n c1) ∧ w'.cell? ⟨yb, 3, none⟩ = some (.slice a2 A.m c2) ∧ w'.cell? ⟨zb, 0, none⟩ = some (.int .i64 A.T) ∧ w'.cell? ⟨zb, 1, none⟩ = some (.int .i64 A.P) ∧ w'.cell? ⟨zb, 2, none⟩ = some (.slice a3 A.n c3) ∧ w'.cell? ⟨zb, 3, none⟩ = some (.slice a4 A.m c4)) (by kernel_rfl) ?_ (fun hHeld => ?_)
  · (try dsimp only)
    (first | (go_simp; done) | (go_keep; done))
  refine tq 0 hHeld ?_
  refine tq 1 hHeld ?_
  refine tq 2 hHeld ?_
  refine tq 3 hHeld ?_
  refine tq 4 hHeld ?_
  refine tq 5 hHeld ?_
  refine tc 6 fun K hK => ?_
  (go_simp
   have bz := (Below.refl wc.heap.size wc).drew
   (go_at_call 13; refine (pqWorld_same A.T A.P a1 a3 A.n c1 c3 A.U a2 a4 A.m c2 c4 A.Q _ (by exact (hP.below bz).flat) (by exact (hS.below bz).flat) (by exact (hR.below bz).flat) (by exact (hT.below bz).flat) (by omega) (by omega)).mono ?_; rintro e w6 ⟨rfl, hb6⟩)
   replace bz := bz.trans (hb6.mono bz.size)
   clear hAc0 hAc1 hAc2 hAc3 hYc0 hYc1 hYc2 hYc3 hZc0 hZc1 hZc2 hZc3
   have hAc0 := (hA.on bz).cell 0 rfl
   have hAc1 := (hA.on bz).cell 1 rfl
   have hAc2 := (hA.on bz).cell 2 rfl
   have hAc3 := (hA.on bz).cell 3 rfl
   have hYc0 := (hY.on bz).cell 0 rfl
   have hYc1 := (hY.on bz).cell 1 rfl
   have hYc2 := (hY.on bz).cell 2 rfl
   have hYc3 := (hY.on bz).cell 3 rfl
   have hZc0 := (hZ.on bz).cell 0 rfl
   have hZc1 := (hZ.on bz).cell 1 rfl
   have hZc2 := (hZ.on bz).cell 2 rfl
   have hZc3 := (hZ.on bz).cell 3 rfl
   (try go_wp2_with fail)
   refine tr hK (fun hHeld => ?_)
   clear hK K)
  refine tq 7 hHeld ?_
  refine tq 8 hHeld ?_
  refine tq 9 hHeld ?_
  refine tq 11 hHeld ?_
  refine tc 10 fun K hK => ?_
  (go_simp
   (go_at_call 14; refine (worldOk_q T P a n c U a' m c' Q _ (by exact (hO.below bz).flat) (by exact (hQ.below bz).flat) (by omega) (by omega) false hOK.out).mono ?_; rintro e w10 ⟨rfl, hb10⟩)
   replace bz := bz.trans (hb10.mono bz.size)
   clear hAc0 hAc1 hAc2 hAc3 hYc0 hYc1 hYc2 hYc3 hZc0 hZc1 hZc2 hZc3
   have hAc0 := (hA.on bz).cell 0 rfl
   have hAc1 := (hA.on bz).cell 1 rfl
   have hAc2 := (hA.on bz).cell 2 rfl
   have hAc3 := (hA.on bz).cell 3 rfl
   have hYc0 := (hY.on bz).cell 0 rfl
   have hYc1 := (hY.on bz).cell 1 rfl
   have hYc2 := (hY.on bz).cell 2 rfl
   have hYc3 := (hY.on bz).cell 3 rfl
   have hZc0 := (hZ.on bz).cell 0 rfl
   have hZc1 := (hZ.on bz).cell 1 rfl
   have hZc2 := (hZ.on bz).cell 2 rfl
   have hZc3 := (hZ.on bz).cell 3 rfl
   (try go_wp2_with fail)
   refine tr hK (fun hHeld => ?_)
   clear hK K)
  refine tc 12 fun K hK => ?_
  (go_simp
   (go_at_call 8; refine (sWorldOk_q T P a n c U a' m c' Q _ (by exact (hO.below bz).flat) (by exact (hQ.below bz).flat) (by omega) (by omega) false hOK.out).mono ?_; rintro e w12 ⟨rfl, hb12⟩)
   replace bz := bz.trans (hb12.mono bz.size)
   clear hAc0 hAc1 hAc2 hAc3 hYc0 hYc1 hYc2 hYc3 hZc0 hZc1 hZc2 hZc3
   have hAc0 := (hA.on bz).cell 0 rfl
   have hAc1 := (hA.on bz).cell 1 rfl
   have hAc2 := (hA.on bz).cell 2 rfl
   have hAc3 := (hA.on bz).cell 3 rfl
   have hYc0 := (hY.on bz).cell 0 rfl
   have hYc1 := (hY.on bz).cell 1 rfl
   have hYc2 := (hY.on bz).cell 2 rfl
   have hYc3 := (hY.on bz).cell 3 rfl
   have hZc0 := (hZ.on bz).cell 0 rfl
   have hZc1 := (hZ.on bz).cell 1 rfl
   have hZc2 := (hZ.on bz).cell 2 rfl
   have hZc3 := (hZ.on bz).cell 3 rfl
   (try go_wp2_with fail)
   refine tr hK (fun hHeld => ?_)
   clear hK K)
  refine tq 13 hHeld ?_
  refine tq 14 hHeld ?_
  refine tq 15 hHeld ?_
  refine wpAnyH_done (by kernel_rfl) ?_ _
  go_wp2_with fail
  go_ret
  exact ⟨rfl, bel.trans (bz.mono bel.size)⟩
 | true =>
  clear hS hT hZ hkk hke hoo
  cases hk0 : (A.k != 0) with
  | true =>
   have hs := putWA_same hOK.out hAe.out (by simpa using hk0)
   obtain ⟨AT, AP, An, AU, Am, AQ, Ak⟩ := A
   simp only [WA.mk.injEq, and_true] at hs
   obtain ⟨rfl, rfl, rfl, rfl, rfl, rfl⟩ := hs
   have hk0' : (Ak != 0) = true := hk0
   have hAc0 := hA.cell 0 rfl
   have hAc1 := hA.cell 1 rfl
   have hAc2 := hA.cell 2 rfl
   have hAc3 := hA.cell 3 rfl
   have hYc0 := hY.cell 0 rfl
   have hYc1 := hY.cell 1 rfl
   have hYc2 := hY.cell 2 rfl
   have hYc3 := hY.cell 3 rfl
   go_wp2_with (go_at_call 13; refine (pqWorld_same AT AP a1 a An c1 c AU a2 a' Am c2 c' AQ _ hP.flat hO.flat hR.flat hQ.flat (by omega) (by omega)).mono ?_; rintro e w6 ⟨rfl, hb6⟩)
   go_ret
   exact ⟨rfl, bel.trans (hb6.mono bel.size)⟩
  | false =>
   obtain ⟨hs, hV, ht, hn12⟩ := putWA_new hOK.out hAe.out (by simpa using hk0)
   have hW2 := insb_world hOK.out hV hn12 hp ht
   obtain ⟨AT, AP, An, AU, Am, AQ, Ak⟩ := A
   simp only [WA.mk.injEq] at hs
   obtain ⟨g1, g2, g3, g4, g5, g6, g7⟩ := hs
   obtain rfl := g1.symm
   obtain rfl := g2.symm
   obtain rfl := g5.symm
   obtain rfl := g6.symm
   subst g3 g4 g7
   obtain ⟨IU, hIU0⟩ : ∃ I, I = insU U p V := ⟨_, rfl⟩
   have hIU : Shut (IU = insU U p V) := hIU0
   have hIp : Shut (idP IU (n + 1) (V 0) p) := by rw [hIU0]; exact insb_idP hp
   have hIW : Shut (worldB T P (n + 1) IU m Q = true) := by show _ = _; rw [hIU0]; exact hW2
   have hAg : Shut (putWA T P (n + 1) IU m Q V p = ⟨T, P, n + 1, IU, m, Q, 2⟩) := by show _ = _; rw [hIU0]; exact putWA_again hW2 hV hp.le
   obtain ⟨m6, Q6, hG0⟩ := goneWA_of hW2 hp.le
   obtain ⟨DU, hDU0⟩ : ∃ D, D = delU (wakeR (fun j => insU U p V (p * 12 + j)) (insU U p V) p (n + 1)) p := ⟨_, rfl⟩
   have hDU : Shut (∀ i j, i < n → j < 12 → j ≠ 11 → DU (i * 12 + j) = U (i * 12 + j)) := fun i j hi hj h11 => by rw [hDU0]; exact insb_back hp.le hi hj h11
   have hGe : Shut (goneWA T P (n + 1) IU m Q (V 0) p = ⟨T, P, n, DU, m6, Q6, 0⟩) := by show _ = _; rw [hDU0, hIU0]; exact hG0
   have hpn := hp.le
   simp only [← hIU0] at hP hR hY
   clear hIU0 hG0 hDU0 hW2 hAe hOK ht hp hk0
   have hAc0 := hA.cell 0 rfl
   have hAc1 := hA.cell 1 rfl
   have hAc2 := hA.cell 2 rfl
   have hAc3 := hA.cell 3 rfl
   have hXc0 := hX.cell 0 rfl
   have hXc1 := hX.cell 1 rfl
   have hXc2 := hX.cell 2 rfl
   have hXc3 := hX.cell 3 rfl
   have hXc4 := hX.cell 4 rfl
   have hXc5 := hX.cell 5 rfl
   have hXc6 := hX.cell 6 rfl
   have hXc7 := hX.cell 7 rfl
   have hXc8 := hX.cell 8 rfl
   have hXc9 := hX.cell 9 rfl
   have hXc10 := hX.cell 10 rfl
   have hXc11 := hX.cell 11 rfl
   have hYc0 := hY.cell 0 rfl
   have hYc1 := hY.cell 1 rfl
   have hYc2 := hY.cell 2 rfl
   have hYc3 := hY.cell 3 rfl
   go_upto_region 10 with fail
   go_cut [10] (fun s wc => s = .int .i64 2 ∧ Below w.heap.size w wc ∧ Blk wc wb #[.int .i64 T, .int .i64 P, .slice a n c, .slice a' m c'] 26 ∧ Blk wc xb #[.int .i64 (V 0), .int .i64 (V 1), .int .i64 (V 2), .int .i64 (V 3), .int .i64 (V 4), .int .i64 (V 5), .int .i64 (V 6), .int .i64 (V 7), .int .i64 (V 8), .int .i64 (V 9), .int .i64 (V 10), .int .i64 (V 11)] 41 ∧ Blk wc yb #[.int .i64 T, .int .i64 P, .slice a1 (n + 1) c1, .slice a2 m c2] 26 ∧ OwnL wc w.heap.size 41 12 (.slice a n c) n U ∧ OwnL wc w.heap.size 58 2 (.slice a' m c') m Q ∧ OwnL wc w.heap.size 41 12 (.slice a1 (n + 1) c1) (n + 1) IU ∧ OwnL wc w.heap.size 58 2 (.slice a2 m c2) m Q)
   case first =>
    go_wp2_with (go_at_call 11; refine (worldPut_q T P a1 (n + 1) c1 IU a2 m c2 Q V p _ hP.flat hR.flat (by omega) (by omega) hIp.out _ hAg.out).mono ?_; intro e w2 hD; unfold WOut at hD; obtain ⟨a7, c7, a8, c8, rfl, hOut⟩ := hD)
    go_meet
    have bz := hOut.bel.alloc hOut.bel.size (.cells #[.int .i64 T, .int .i64 P, .slice a7 (n + 1) c7, .slice a8 m c8] 26)
    exact ⟨rfl, bel.trans (bz.mono bel.size), hA.on bz, hX.on bz, hY.on bz, hO.below bz, hQ.below bz, hP.below bz, hR.below bz⟩
   case rest =>
   clear bel hA hX hY hO hQ hP hR hAc0 hAc1 hAc2 hAc3 hXc0 hXc1 hXc2 hXc3 hXc4 hXc5 hXc6 hXc7 hXc8 hXc9 hXc10 hXc11 hYc0 hYc1 hYc2 hYc3
   obtain ⟨rfl, bel, hA, hX, hY, hO, hQ, hP, hR⟩ := hcut
   have hAc0 := hA.cell 0 rfl
   have hAc1 := hA.cell 1 rfl
   have hAc2 := hA.cell 2 rfl
   have hAc3 := hA.cell 3 rfl
   have hXc0 := hX.cell 0 rfl
   have hXc1 := hX.cell 1 rfl
   have hXc2 := hX.cell 2 rfl
   have hXc3 := hX.cell 3 rfl
   have hXc4 := hX.cell 4 rfl
   have hXc5 := hX.cell 5 rfl
   have hXc6 := hX.cell 6 rfl
   have hXc7 := hX.cell 7 rfl
   have hXc8 := hX.cell 8 rfl
   have hXc9 := hX.cell 9 rfl
   have hXc10 := hX.cell 10 rfl
   have hXc11 := hX.cell 11 rfl
   have hYc0 := hY.cell 0 rfl
   have hYc1 := hY.cell 1 rfl
   have hYc2 := hY.cell 2 rfl
   have hYc3 := hY.cell 3 rfl
   go_upto_region 11 with fail
   go_cut [11, 12] (fun s11 s12 wc => ∃ (gb : Nat) (a5 : Option Addr) (c5 : Nat) (a6 : Option Addr) (c6 : Nat), s11 = .pointer (some ⟨gb, 0, none⟩) ∧ s12 = .int .i64 0 ∧ Below w.heap.size w wc ∧ Blk wc wb #[.int .i64 T, .int .i64 P, .slice a n c, .slice a' m c'] 26 ∧ Blk wc xb #[.int .i64 (V 0), .int .i64 (V 1), .int .i64 (V 2), .int .i64 (V 3), .int .i64 (V 4), .int .i64 (V 5), .int .i64 (V 6), .int .i64 (V 7), .int .i64 (V 8), .int .i64 (V 9), .int .i64 (V 10), .int .i64 (V 11)] 41 ∧ Blk wc yb #[.int .i64 T, .int .i64 P, .slice a1 (n + 1) c1, .slice a2 m c2] 26 ∧ Blk wc gb #[.int .i64 T, .int .i64 P, .slice a5 n c5, .slice a6 m6 c6] 26 ∧ OwnL wc w.heap.size 41 12 (.slice a n c) n U ∧ OwnL wc w.heap.size 58 2 (.slice a' m c') m Q ∧ OwnL wc w.heap.size 41 12 (.slice a1 (n + 1) c1) (n + 1) IU ∧ OwnL wc w.heap.size 58 2 (.slice a2 m c2) m Q ∧ OwnL wc w.heap.size 41 12 (.slice a5 n c5) n DU)
   case first =>
    go_wp2_with (go_at_call 15; refine (worldGone_q T P a1 (n + 1) c1 IU a2 m c2 Q (V 0) p _ hP.flat hR.flat (by omega) (by omega) hP.le hIp.out _ hGe.out).mono ?_; intro e w2 hD; unfold WOut at hD; obtain ⟨a5, c5, a6, c6, rfl, hOut⟩ := hD)
    go_meet
    have bz := hOut.bel.alloc hOut.bel.size (.cells #[.int .i64 T, .int .i64 P, .slice a5 n c5, .slice a6 m6 c6] 26)
    exact ⟨_, a5, c5, a6, c6, rfl, rfl, bel.trans (bz.mono bel.size), hA.on bz, hX.on bz, hY.on bz, Blk.new _ _ _, hO.below bz, hQ.below bz, hP.below bz, hR.below bz, (hOut.ob.base bel.size).al _⟩
   case rest =>
   clear bel hA hX hY hO hQ hP hR hAc0 hAc1 hAc2 hAc3 hXc0 hXc1 hXc2 hXc3 hXc4 hXc5 hXc6 hXc7 hXc8 hXc9 hXc10 hXc11 hYc0 hYc1 hYc2 hYc3
   obtain ⟨gb, a5, c5, a6, c6, rfl, rfl, bel, hA, hX, hY, hG, hO, hQ, hP, hR, hL⟩ := hcut
   have hAc0 := hA.cell 0 rfl
   have hAc1 := hA.cell 1 rfl
   have hAc2 := hA.cell 2 rfl
   have hAc3 := hA.cell 3 rfl
   have hYc0 := hY.cell 0 rfl
   have hYc1 := hY.cell 1 rfl
   have hYc2 := hY.cell 2 rfl
   have hYc3 := hY.cell 3 rfl
   have hGc0 := hG.cell 0 rfl
   have hGc1 := hG.cell 1 rfl
   have hGc2 := hG.cell 2 rfl
   have hGc3 := hG.cell 3 rfl
   have hnn : ((n : Int) != (n : Int)) = false := by simp
   have hw1 : IntKind.i64.wrap ((n : Int) + 1) = (n : Int) + 1 := i64w (by omega)
   have hn1 : ((((n + 1 : Nat) : Int)) != ((n : Int) + 1)) = false := by simp
   go_upto_region 12 with fail
   go_cut [118] (fun s wc => s = .bool false ∧ Below w.heap.size w wc ∧ Blk wc wb #[.int .i64 T, .int .i64 P, .slice a n c, .slice a' m c'] 26 ∧ Blk wc xb #[.int .i64 (V 0), .int .i64 (V 1), .int .i64 (V 2), .int .i64 (V 3), .int .i64 (V 4), .int .i64 (V 5), .int .i64 (V 6), .int .i64 (V 7), .int .i64 (V 8), .int .i64 (V 9), .int .i64 (V 10), .int .i64 (V 11)] 41 ∧ Blk wc yb #[.int .i64 T, .int .i64 P, .slice a1 (n + 1) c1, .slice a2 m c2] 26 ∧ Blk wc gb #[.int .i64 T, .int .i64 P, .slice a5 n c5, .slice a6 m6 c6] 26 ∧ OwnL wc w.heap.size 41 12 (.slice a n c) n U ∧ OwnL wc w.heap.size 58 2 (.slice a' m c') m Q ∧ OwnL wc w.heap.size 41 12 (.slice a1 (n + 1) c1) (n + 1) IU ∧ OwnL wc w.heap.size 58 2 (.slice a2 m c2) m Q ∧ OwnL wc w.heap.size 41 12 (.slice a5 n c5) n DU)
   case first =>
    go_wp2_with (go_at_call 14; refine (worldOk_q T P a1 (n + 1) c1 IU a2 m c2 Q _ hP.flat hR.flat (by omega) (by omega) true hIW.out).mono ?_; rintro e w6 ⟨rfl, hb6⟩; have hAd0 := (hA.on hb6).cell 0 rfl; have hAd1 := (hA.on hb6).cell 1 rfl; have hAd2 := (hA.on hb6).cell 2 rfl; have hAd3 := (hA.on hb6).cell 3 rfl; have hYd0 := (hY.on hb6).cell 0 rfl; have hYd1 := (hY.on hb6).cell 1 rfl; have hYd2 := (hY.on hb6).cell 2 rfl; have hYd3 := (hY.on hb6).cell 3 rfl; have hGd0 := (hG.on hb6).cell 0 rfl; have hGd1 := (hG.on hb6).cell 1 rfl; have hGd2 := (hG.on hb6).cell 2 rfl; have hGd3 := (hG.on hb6).cell 3 rfl)
    go_meet
    exact ⟨by simp, bel.trans (hb6.mono bel.size), hA.on hb6, hX.on hb6, hY.on hb6, hG.on hb6, hO.below hb6, hQ.below hb6, hP.below hb6, hR.below hb6, hL.below hb6⟩
   case rest =>
   clear bel hA hX hY hG hO hQ hP hR hL hAc0 hAc1 hAc2 hAc3 hYc0 hYc1 hYc2 hYc3 hGc0 hGc1 hGc2 hGc3 hnn hw1 hn1
   obtain ⟨rfl, bel, hA, hX, hY, hG, hO, hQ, hP, hR, hL⟩ := hcut
   go_wp2_with fail
   go_loopw [13, 14] (fun s13 _ wr => ∃ i : Nat, i ≤ n ∧ s13 = .int .i64 (i : Int) ∧ Below w.heap.size w wr ∧ Blk wr wb #[.int .i64 T, .int .i64 P, .slice a n c, .slice a' m c'] 26 ∧ Blk wr xb #[.int .i64 (V 0), .int .i64 (V 1), .int .i64 (V 2), .int .i64 (V 3), .int .i64 (V 4), .int .i64 (V 5), .int .i64 (V 6), .int .i64 (V 7), .int .i64 (V 8), .int .i64 (V 9), .int .i64 (V 10), .int .i64 (V 11)] 41 ∧ Blk wr yb #[.int .i64 T, .int .i64 P, .slice a1 (n + 1) c1, .slice a2 m c2] 26 ∧ Blk wr gb #[.int .i64 T, .int .i64 P, .slice a5 n c5, .slice a6 m6 c6] 26 ∧ OwnL wr w.heap.size 41 12 (.slice a n c) n U ∧ OwnL wr w.heap.size 58 2 (.slice a' m c') m Q ∧ OwnL wr w.heap.size 41 12 (.slice a1 (n + 1) c1) (n + 1) IU ∧ OwnL wr w.heap.size 58 2 (.slice a2 m c2) m Q ∧ OwnL wr w.heap.size 41 12 (.slice a5 n c5) n DU) (fun s13 _ _ => n - (intOf s13).toNat)
   case atStart => exact ⟨0, Nat.zero_le _, rfl, bel, hA, hX, hY, hG, hO, hQ, hP, hR, hL⟩
   case round =>
    clear bel hA hX hY hG hO hQ hP hR hL
    obtain ⟨i, hi, rfl, bel, hA, hX, hY, hG, hO, hQ, hP, hR, hL⟩ := hrel
    have hAc0 := hA.cell 0 rfl
    have hAc1 := hA.cell 1 rfl
    have hAc2 := hA.cell 2 rfl
    have hAc3 := hA.cell 3 rfl
    have hGc0 := hG.cell 0 rfl
    have hGc1 := hG.cell 1 rfl
    have hGc2 := hG.cell 2 rfl
    have hGc3 := hG.cell 3 rfl
    by_cases hlt : i < n
    · have hil : (i : Int) < (n : Int) := by omega
      obtain ⟨g, rfl, hg1, hg2⟩ := hO.loc (by omega)
      obtain ⟨g5, rfl, hg3, hg4⟩ := hL.loc (by omega)
      clear hg1 hg2 hg3 hg4
      have d0 := hL.cellq (q := i * 12) (by omega)
      have d1 := hL.cellq (q := i * 12 + 1) (by omega)
      have d2 := hL.cellq (q := i * 12 + 2) (by omega)
      have d3 := hL.cellq (q := i * 12 + 3) (by omega)
      have d4 := hL.cellq (q := i * 12 + 4) (by omega)
      have d5 := hL.cellq (q := i * 12 + 5) (by omega)
      have d6 := hL.cellq (q := i * 12 + 6) (by omega)
      have d7 := hL.cellq (q := i * 12 + 7) (by omega)
      have d8 := hL.cellq (q := i * 12 + 8) (by omega)
      have d9 := hL.cellq (q := i * 12 + 9) (by omega)
      have d10 := hL.cellq (q := i * 12 + 10) (by omega)
      have d11 := hL.cellq (q := i * 12 + 11) (by omega)
      have e0 := hDU.out i 0 hlt (by decide) (by decide)
      have e1 := hDU.out i 1 hlt (by decide) (by decide)
      have e2 := hDU.out i 2 hlt (by decide) (by decide)
      have e3 := hDU.out i 3 hlt (by decide) (by decide)
      have e4 := hDU.out i 4 hlt (by decide) (by decide)
      have e5 := hDU.out i 5 hlt (by decide) (by decide)
      have e6 := hDU.out i 6 hlt (by decide) (by decide)
      have e7 := hDU.out i 7 hlt (by decide) (by decide)
      have e8 := hDU.out i 8 hlt (by decide) (by decide)
      have e9 := hDU.out i 9 hlt (by decide) (by decide)
      have e10 := hDU.out i 10 hlt (by decide) (by decide)
      rw [Nat.add_zero] at e0
      rw [e0] at d0
      rw [e1] at d1
      rw [e2] at d2
      rw [e3] at d3
      rw [e4] at d4
      rw [e5] at d5
      rw [e6] at d6
      rw [e7] at d7
      rw [e8] at d8
      rw [e9] at d9
      rw [e10] at d10
      clear e0 e1 e2 e3 e4 e5 e6 e7 e8 e9 e10
      go_upto_region 17 with fail
      go_cut [14] (fun s wc => ∃ ab : Nat, s = .pointer (some ⟨ab, 0, none⟩) ∧ Blk wc ab #[.int .i64 (U (i * 12)), .int .i64 (U (i * 12 + 1)), .int .i64 (U (i * 12 + 2)), .int .i64 (U (i * 12 + 3)), .int .i64 (U (i * 12 + 4)), .int .i64 (U (i * 12 + 5)), .int .i64 (U (i * 12 + 6)), .int .i64 (U (i * 12 + 7)), .int .i64 (U (i * 12 + 8)), .int .i64 (U (i * 12 + 9)), .int .i64 (U (i * 12 + 10)), .int .i64 (DU (i * 12 + 11))] 41 ∧ wr.heap.size ≤ ab ∧ Below w.heap.size w wc ∧ Blk wc wb #[.int .i64 T, .int .i64 P, .slice (some ⟨g, 0, none⟩) n c, .slice a' m c'] 26 ∧ Blk wc xb #[.int .i64 (V 0), .int .i64 (V 1), .int .i64 (V 2), .int .i64 (V 3), .int .i64 (V 4), .int .i64 (V 5), .int .i64 (V 6), .int .i64 (V 7), .int .i64 (V 8), .int .i64 (V 9), .int .i64 (V 10), .int .i64 (V 11)] 41 ∧ Blk wc yb #[.int .i64 T, .int .i64 P, .slice a1 (n + 1) c1, .slice a2 m c2] 26 ∧ Blk wc gb #[.int .i64 T, .int .i64 P, .slice (some ⟨g5, 0, none⟩) n c5, .slice a6 m6 c6] 26 ∧ OwnL wc w.heap.size 41 12 (.slice (some ⟨g, 0, none⟩) n c) n U ∧ OwnL wc w.heap.size 58 2 (.slice a' m c') m Q ∧ OwnL wc w.heap.size 41 12 (.slice a1 (n + 1) c1) (n + 1) IU ∧ OwnL wc w.heap.size 58 2 (.slice a2 m c2) m Q ∧ OwnL wc w.heap.size 41 12 (.slice (some ⟨g5, 0, none⟩) n c5) n DU)
      case first =>
       go_wp2_with fail
       go_meet
       have bz := (Below.refl wr.heap.size wr).alloc (Nat.le_refl _) (.cells #[.int .i64 (U (i * 12)), .int .i64 (U (i * 12 + 1)), .int .i64 (U (i * 12 + 2)), .int .i64 (U (i * 12 + 3)), .int .i64 (U (i * 12 + 4)), .int .i64 (U (i * 12 + 5)), .int .i64 (U (i * 12 + 6)), .int .i64 (U (i * 12 + 7)), .int .i64 (U (i * 12 + 8)), .int .i64 (U (i * 12 + 9)), .int .i64 (U (i * 12 + 10)), .int .i64 (DU (i * 12 + 11))] 41)
       exact ⟨_, rfl, Blk.new _ _ _, Nat.le_refl _, bel.trans (bz.mono bel.size), hA.on bz, hX.on bz, hY.on bz, hG.on bz, hO.below bz, hQ.below bz, hP.below bz, hR.below bz, hL.below bz⟩
      case rest =>
      have hwb := hA.lt
      have hxb := hX.lt
      have hyb := hY.lt
      have hgb := hG.lt
      have hOl := fun b e => (hO.lt b e).2
      have hPl := fun b e => (hP.lt b e).2
      have hLl := fun b e => (hL.lt b e).2
      have hblo := bel.size
      clear bel hA hX hY hG hO hQ hP hR hL hAc0 hAc1 hAc2 hAc3 hGc0 hGc1 hGc2 hGc3 d0 d1 d2 d3 d4 d5 d6 d7 d8 d9 d10 d11
      obtain ⟨ab, rfl, hE, hab, bel, hA, hX, hY, hG, hO, hQ, hP, hR, hL⟩ := hcut
      have hAc2 := hA.cell 2 rfl
      have u0 := hO.cellq (q := i * 12) (by omega)
      have u1 := hO.cellq (q := i * 12 + 1) (by omega)
      have u2 := hO.cellq (q := i * 12 + 2) (by omega)
      have u3 := hO.cellq (q := i * 12 + 3) (by omega)
      have u4 := hO.cellq (q := i * 12 + 4) (by omega)
      have u5 := hO.cellq (q := i * 12 + 5) (by omega)
      have u6 := hO.cellq (q := i * 12 + 6) (by omega)
      have u7 := hO.cellq (q := i * 12 + 7) (by omega)
      have u8 := hO.cellq (q := i * 12 + 8) (by omega)
      have u9 := hO.cellq (q := i * 12 + 9) (by omega)
      have u10 := hO.cellq (q := i * 12 + 10) (by omega)
      have u11 := hO.cellq (q := i * 12 + 11) (by omega)
      have hEc := hE.cell 11 rfl
      have hEf := hE.f 11
      go_upto_region 18 with fail
      go_cut [] (fun wc => Blk wc ab #[.int .i64 (U (i * 12)), .int .i64 (U (i * 12 + 1)), .int .i64 (U (i * 12 + 2)), .int .i64 (U (i * 12 + 3)), .int .i64 (U (i * 12 + 4)), .int .i64 (U (i * 12 + 5)), .int .i64 (U (i * 12 + 6)), .int .i64 (U (i * 12 + 7)), .int .i64 (U (i * 12 + 8)), .int .i64 (U (i * 12 + 9)), .int .i64 (U (i * 12 + 10)), .int .i64 (U (i * 12 + 11))] 41 ∧ Below w.heap.size w wc ∧ Blk wc wb #[.int .i64 T, .int .i64 P, .slice (some ⟨g, 0, none⟩) n c, .slice a' m c'] 26 ∧ Blk wc xb #[.int .i64 (V 0), .int .i64 (V 1), .int .i64 (V 2), .int .i64 (V 3), .int .i64 (V 4), .int .i64 (V 5), .int .i64 (V 6), .int .i64 (V 7), .int .i64 (V 8), .int .i64 (V 9), .int .i64 (V 10), .int .i64 (V 11)] 41 ∧ Blk wc yb #[.int .i64 T, .int .i64 P, .slice a1 (n + 1) c1, .slice a2 m c2] 26 ∧ Blk wc gb #[.int .i64 T, .int .i64 P, .slice (some ⟨g5, 0, none⟩) n c5, .slice a6 m6 c6] 26 ∧ OwnL wc w.heap.size 41 12 (.slice (some ⟨g, 0, none⟩) n c) n U ∧ OwnL wc w.heap.size 58 2 (.slice a' m c') m Q ∧ OwnL wc w.heap.size 41 12 (.slice a1 (n + 1) c1) (n + 1) IU ∧ OwnL wc w.heap.size 58 2 (.slice a2 m c2) m Q ∧ OwnL wc w.heap.size 41 12 (.slice (some ⟨g5, 0, none⟩) n c5) n DU)
      case first =>
       go_wp2_with fail
       go_meet
       have hE2 := hE.put 11 (.int .i64 (U (i * 12 + 11)))
       simp only [List.setIfInBounds_toArray, List.set_cons_zero, List.set_cons_succ] at hE2
       have bz := bel.setCell (p := ⟨ab, 11, none⟩) (by show w.heap.size ≤ ab; omega) (.int .i64 (U (i * 12 + 11)))
       exact ⟨hE2, bz, hA.far (by omega) _, hX.far (by omega) _, hY.far (by omega) _, hG.far (by omega) _, hO.stb (fun e => by have := hOl _ e; omega) _, hQ.stb (hE.ne hQ (by decide)) _, hP.stb (fun e => by have := hPl _ e; omega) _, hR.stb (hE.ne hR (by decide)) _, hL.stb (fun e => by have := hLl _ e; omega) _⟩
      case rest =>
      clear bel hA hX hY hG hO hQ hP hR hL hE hAc2 u0 u1 u2 u3 u4 u5 u6 u7 u8 u9 u10 u11 hEc hEf hOl hPl hLl
      obtain ⟨hE, bel, hA, hX, hY, hG, hO, hQ, hP, hR, hL⟩ := hcut
      have hAc2 := hA.cell 2 rfl
      have u0 := hO.cellq (q := i * 12) (by omega)
      have u1 := hO.cellq (q := i * 12 + 1) (by omega)
      have u2 := hO.cellq (q := i * 12 + 2) (by omega)
      have u3 := hO.cellq (q := i * 12 + 3) (by omega)
      have u4 := hO.cellq (q := i * 12 + 4) (by omega)
      have u5 := hO.cellq (q := i * 12 + 5) (by omega)
      have u6 := hO.cellq (q := i * 12 + 6) (by omega)
      have u7 := hO.cellq (q := i * 12 + 7) (by omega)
      have u8 := hO.cellq (q := i * 12 + 8) (by omega)
      have u9 := hO.cellq (q := i * 12 + 9) (by omega)
      have u10 := hO.cellq (q := i * 12 + 10) (by omega)
      have u11 := hO.cellq (q := i * 12 + 11) (by omega)
      have v0 := hE.cell 0 rfl
      have v1 := hE.cell 1 rfl
      have v2 := hE.cell 2 rfl
      have v3 := hE.cell 3 rfl
      have v4 := hE.cell 4 rfl
      have v5 := hE.cell 5 rfl
      have v6 := hE.cell 6 rfl
      have v7 := hE.cell 7 rfl
      have v8 := hE.cell 8 rfl
      have v9 := hE.cell 9 rfl
      have v10 := hE.cell 10 rfl
      have v11 := hE.cell 11 rfl
      have hev := eq_body0 (U (i * 12)) (U (i * 12 + 1)) (U (i * 12 + 2)) (U (i * 12 + 3)) (U (i * 12 + 4)) (U (i * 12 + 5)) (U (i * 12 + 6)) (U (i * 12 + 7)) (U (i * 12 + 8)) (U (i * 12 + 9)) (U (i * 12 + 10)) (U (i * 12 + 11))
      go_upto_region 19 with fail
      refine wp_region_held_drew (S := fun w' => w'.cell? ⟨wb, 2, none⟩ = some (.slice (some ⟨g, 0, none⟩) n c) ∧ w'.cell? ⟨ab, 0, none⟩ = some (.int .i64 (U (i * 12))) ∧ w'.cell? ⟨ab, 1, none⟩ = some (.int .i64 (U (i * 12 + 1))) ∧ w'.cell? ⟨ab, 2, none⟩ = some (.int .i64 (U (i * 12 + 2))) ∧ w'.cell? ⟨ab, 3, none⟩ = some (.int .i64 (U (i * 12 + 3))) ∧ w'.cell? ⟨ab, 4, none⟩ = some (.int .i64 (U (i * 12 + 4))) ∧ w'.cell? ⟨ab, 5, none⟩ = some (.int .i64 (U (i * 12 + 5))) ∧ w'.cell? ⟨ab, 6, none⟩ = some (.int .i64 (U (i * 12 + 6))) ∧ w'.cell? ⟨ab, 7, none⟩ = some (.int .i64 (U (i * 12 + 7))) ∧ w'.cell? ⟨ab, 8, none⟩ = some (.int .i64 (U (i * 12 + 8))) ∧ w'.cell? ⟨ab, 9, none⟩ = some (.int .i64 (U (i * 12 + 9))) ∧ w'.cell? ⟨ab, 10, none⟩ = some (.int .i64 (U (i * 12 + 10))) ∧ w'.cell? ⟨ab, 11, none⟩ = some (.int .i64 (U (i * 12 + 11))) ∧ w'.cell? ⟨g, i * 12, none⟩ = some (.int .i64 (U (i * 12))) ∧ w'.cell? ⟨g, i * 12 + 1, none⟩ = some (.int .i64 (U (i * 12 + 1))) ∧ w'.cell? ⟨g, i * 12 + 2, none⟩ = some (.int .i64 (U (i * 12 + 2))) ∧ w'.cell? ⟨g, i * 12 + 3, none⟩ = some (.int .i64 (U (i * 12 + 3))) ∧ w'.cell? ⟨g, i * 12 + 4, none⟩ = some (.int .i64 (U (i * 12 + 4))) ∧ w'.cell? ⟨g, i * 12 + 5, none⟩ = some (.int .i64 (U (i * 12 + 5))) ∧ w'.cell? ⟨g, i * 12 + 6, none⟩ = some (.int .i64 (U (i * 12 + 6))) ∧ w'.cell? ⟨g, i * 12 + 7, none⟩ = some (.int .i64 (U (i * 12 + 7))) ∧ w'.cell? ⟨g, i * 12 + 8, none⟩ = some (.int .i64 (U (i * 12 + 8))) ∧ w'.cell? ⟨g, i * 12 + 9, none⟩ = some (.int .i64 (U (i * 12 + 9))) ∧ w'.cell? ⟨g, i * 12 + 10, none⟩ = some (.int .i64 (U (i * 12 + 10))) ∧ w'.cell? ⟨g, i * 12 + 11, none⟩ = some (.int .i64 (U (i * 12 + 11)))) (by kernel_rfl) ?_ (fun hHeld => ?_)
      · (try dsimp only)
        (first | (go_simp; done) | (go_keep; done))
      refine tq 0 hHeld ?_
      refine tq 1 hHeld ?_
      refine tq 2 hHeld ?_
      refine tq 3 hHeld ?_
      refine tq 4 hHeld ?_
      refine tq 5 hHeld ?_
      refine tq 6 hHeld ?_
      refine wpAnyH_done (by kernel_rfl) ?_ _
      have bz := (Below.refl wc.heap.size wc).drew
      go_wp2_with fail
      go_roundw
      case rel => exact ⟨i + 1, by omega, by go_num, bel.trans (bz.mono bel.size), hA.on bz, hX.on bz, hY.on bz, hG.on bz, hO.below bz, hQ.below bz, hP.below bz, hR.below bz, hL.below bz⟩
      case measure => simp [intOf]; omega
    · go_wp2_with fail
      go_ret
      exact ⟨rfl, bel⟩
end Go.Proofs.YthijeiehcdoidaaGreat
