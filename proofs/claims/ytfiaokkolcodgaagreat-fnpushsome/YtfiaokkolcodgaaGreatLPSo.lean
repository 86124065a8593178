/- Texts of a proof. -/
import Derived.Test.YtfiaokkolcodgaaGreatB47
import Derived.Test.YtfiaokkolcodgaaGreatB43
import Derived.Test.YtfiaokkolcodgaaGreatSApt
import Derived.Test.YtfiaokkolcodgaaGreatB27
import Derived.Deep.RegionHeld3
import Derived.Deep.DeepCutAuto
set_option maxHeartbeats 16000000
set_option maxRecDepth 20000
namespace Go.Proofs.YtfiaokkolcodgaaGreat
open Go.RowKit
set_option linter.unusedVariables false
set_option linter.unusedSimpArgs false
theorem apart_ir {n m : Nat} {U Ct R : Nat → Int} (hR : R = apartN Ct U m) (a : Option Addr) (c : Nat) (ac : Option Addr) (cc : Nat) (w : World) (h : Flat w a (n * 12) U) (hn : n ≤ 1048576) (h2 : Flat w ac (m * 5) Ct) (hm : m ≤ 1048576) (N : Nat) (hN : (bif bcB n m U Ct then n else 0) = N) :
 Calls Tryz.prog 12 #[.slice a n c, .slice ac m cc] w fun e w' => ∃ a1 c1, e = .returned (.slice a1 N c1) ∧ OutL w w' 35 12 a1 N c1 R := by subst hR; exact apart_i a n c U ac m cc Ct w h hn h2 hm N hN
theorem apart_sr {n m : Nat} {U Ct R : Nat → Int} (hR : R = apartN Ct U m) (a : Option Addr) (c : Nat) (ac : Option Addr) (cc : Nat) (w : World) (h : Flat w a (n * 12) U) (hn : n ≤ 1048576) (h2 : Flat w ac (m * 5) Ct) (hm : m ≤ 1048576) (N : Nat) (hN : (bif bcB n m U Ct then n else 0) = N) :
 Calls Tryz.prog 13 #[.slice a n c, .slice ac m cc] w fun e w' => ∃ a1 c1, e = .returned (.slice a1 N c1) ∧ OutL w w' 35 12 a1 N c1 R := by subst hR; exact apart_s a n c U ac m cc Ct w h hn h2 hm N hN
def smN (C : Nat → Int) (i : Int) : Nat → Bool
 | 0 => false
 | k + 1 => smN C i k || (C (k * 5) == i || C (k * 5 + 1) == i)
theorem smN_far {n m : Nat} {C : Nat → Int} (hC : CtOk n m C) {i : Nat} : ∀ k, k ≤ m → smN C (i : Int) k = false → ∀ q, q < k → i ≠ (C (q * 5)).toNat ∧ i ≠ (C (q * 5 + 1)).toNat
 | 0, _, _, q, hq => absurd hq (Nat.not_lt_zero _)
 | k + 1, hk, h, q, hq => by
  rw [smN] at h
  simp only [Bool.or_eq_false_iff, beq_eq_false_iff_ne] at h
  rcases Nat.lt_succ_iff_lt_or_eq.1 hq with l | rfl
  · exact smN_far hC k (by omega) h.1 q l
  · have ha := hC.a q (by omega)
    have hb := hC.b q (by omega)
    omega
theorem fnPushSome_walk (ac0 : Option Addr) (len cap : Nat) (w : World) (hb : Bytes w ac0 len cap) :
 Calls Tryz.prog 4 #[.slice ac0 len cap] w fun e w' => e = .returned (.bool true) ∧ Below w.heap.size w w' := by
 have hset := cset_map
 by_cases hlen : 1048576 < len
 · have hl : (1048576 : Int) < (len : Int) := by omega
   go_enter Tryz.func4, Tryz.ntmps4
   go_wp2_with fail
   go_ret
   exact ⟨rfl, Below.refl _ _⟩
 have hl : ¬ (1048576 : Int) < (len : Int) := by omega
 go_enter Tryz.func4, Tryz.ntmps4
 go_upto_region 3 with fail
 go_cut [3, 4] (fun s3 s4 wc => ∃ (al : Option Addr) (n c : Nat) (U : Nat → Int) (ac : Option Addr) (m cc : Nat) (Ct : Nat → Int), s3 = .slice al n c ∧ s4 = .slice ac m cc ∧ n ≤ 13 ∧ m ≤ 145 ∧ Below w.heap.size w wc ∧ OwnL wc w.heap.size 35 12 (.slice al n c) n U ∧ OwnL wc w.heap.size 39 5 (.slice ac m cc) m Ct)
 case first =>
  go_wp2_with (go_at_call 5; refine (drawPushAll_k _ _ _ _ hb).mono ?_; intro e w1 hD; unfold DrP at hD; obtain ⟨al, n, c, U, ac, m, cc, Ct, rfl, hn, hm, hb1, hO1, hC1⟩ := hD)
  go_meet
  exact ⟨al, n, c, U, ac, m, cc, Ct, rfl, rfl, hn, hm, hb1, hO1, hC1⟩
 case rest =>
 obtain ⟨al, n, c, U, ac, m, cc, Ct, rfl, rfl, hn, hm, bel, hO, hC⟩ := hcut
 obtain ⟨N, hN0⟩ : ∃ N, (bif bcB n m U Ct then n else 0) = N := ⟨_, rfl⟩
 have hNn : N ≤ n := by rw [← hN0]; cases bcB n m U Ct <;> simp
 have hN : Shut ((bif bcB n m U Ct then n else 0) = N) := hN0
 clear hN0
 obtain ⟨RP, hRP0⟩ : ∃ R, R = allN Ct U m 4 := ⟨_, rfl⟩
 have hRP : Shut (RP = allN Ct U m 4) := hRP0
 clear hRP0
 obtain ⟨RA, hRA0⟩ : ∃ R, R = apartN Ct U m := ⟨_, rfl⟩
 have hRA : Shut (RA = apartN Ct U m) := hRA0
 clear hRA0
 go_upto_region 4 with fail
 go_cut [5] (fun s wc => ∃ (a1 : Option Addr) (c1 : Nat), s = .slice a1 N c1 ∧ Below w.heap.size w wc ∧ OwnL wc w.heap.size 35 12 (.slice al n c) n U ∧ OwnL wc w.heap.size 39 5 (.slice ac m cc) m Ct ∧ OwnL wc w.heap.size 35 12 (.slice a1 N c1) N RP)
 case first =>
  go_wp2_with (go_at_call 6; refine (pushAll_ir hRP.out al c ac cc _ hO.flat (by omega) hC.flat (by omega) N hN.out).mono ?_; rintro e w1 ⟨a1, c1, rfl, hOu⟩)
  go_meet
  have bz := hOu.bel
  exact ⟨a1, c1, rfl, bel.trans (bz.mono bel.size), hO.below bz, hC.below bz, hOu.own.base bel.size⟩
 case rest =>
 clear bel hO hC
 obtain ⟨a1, c1, rfl, bel, hO, hC, hX⟩ := hcut
 go_upto_region 5 with fail
 go_cut [6] (fun s wc => ∃ (a2 : Option Addr) (c2 : Nat), s = .slice a2 N c2 ∧ Below w.heap.size w wc ∧ OwnL wc w.heap.size 35 12 (.slice al n c) n U ∧ OwnL wc w.heap.size 39 5 (.slice ac m cc) m Ct ∧ OwnL wc w.heap.size 35 12 (.slice a1 N c1) N RP ∧ OwnL wc w.heap.size 35 12 (.slice a2 N c2) N RA)
 case first =>
  go_wp2_with (go_at_call 12; refine (apart_ir hRA.out al c ac cc _ hO.flat (by omega) hC.flat (by omega) N hN.out).mono ?_; rintro e w1 ⟨a2, c2, rfl, hOu⟩)
  go_meet
  have bz := hOu.bel
  exact ⟨a2, c2, rfl, bel.trans (bz.mono bel.size), hO.below bz, hC.below bz, hX.below bz, hOu.own.base bel.size⟩
 case rest =>
 clear bel hO hC hX
 obtain ⟨a2, c2, rfl, bel, hO, hC, hX, hY⟩ := hcut
 obtain ⟨NE, hNE⟩ : ∃ b, ((N : Int) != (n : Int)) = b := ⟨_, rfl⟩
 go_upto_region 6 with fail
 go_cut [44] (fun s wc => s = .bool NE ∧ Below w.heap.size w wc ∧ OwnL wc w.heap.size 35 12 (.slice al n c) n U ∧ OwnL wc w.heap.size 39 5 (.slice ac m cc) m Ct ∧ OwnL wc w.heap.size 35 12 (.slice a1 N c1) N RP ∧ OwnL wc w.heap.size 35 12 (.slice a2 N c2) N RA)
 case first =>
  go_wp2_with (first
 | (have _ := b7; go_at_call 7; refine (pqBodies_same a2 a7 N _ _ RA _ (hY.below b7).flat hO7.own.flat (by omega)).mono ?_; rintro e w8 ⟨rfl, hb8⟩; have b8 := b7.trans (hb8.mono b7.size))
 | (have _ := b6; go_at_call 13; refine (apart_sr hRA.out al c ac cc _ (hO.below b6).flat (by omega) (hC.below b6).flat (by omega) N hN.out).mono ?_; rintro e w7 ⟨a7, c7, rfl, hO7⟩; have b7 := b6.trans (hO7.bel.mono b6.size))
 | (have _ := b5; go_at_call 7; refine (pqBodies_same a1 a5 N _ _ RP _ (hX.below b5).flat hO5.own.flat (by omega)).mono ?_; rintro e w6 ⟨rfl, hb6⟩; have b6 := b5.trans (hb6.mono b5.size))
 | (go_at_call 8; refine (pushAll_sr hRP.out al c ac cc _ hO.flat (by omega) hC.flat (by omega) N hN.out).mono ?_; rintro e w5 ⟨a5, c5, rfl, hO5⟩; have b5 := hO5.bel))
  go_meet
  exact ⟨by simp, bel.trans (b8.mono bel.size), hO.below b8, hC.below b8, hX.below b8, hY.below b8⟩
 case rest =>
 clear bel hO hC hX hY
 obtain ⟨rfl, bel, hO, hC, hX, hY⟩ := hcut
 cases NE with
 | true =>
  go_wp2_with (first
 | (have _ := b7; go_at_call 7; refine (pqBodies_same a2 a7 N _ _ RA _ (hY.below b7).flat hO7.own.flat (by omega)).mono ?_; rintro e w8 ⟨rfl, hb8⟩; have b8 := b7.trans (hb8.mono b7.size))
 | (have _ := b6; go_at_call 13; refine (apart_sr hRA.out al c ac cc _ (hO.below b6).flat (by omega) (hC.below b6).flat (by omega) N hN.out).mono ?_; rintro e w7 ⟨a7, c7, rfl, hO7⟩; have b7 := b6.trans (hO7.bel.mono b6.size))
 | (have _ := b5; go_at_call 7; refine (pqBodies_same a1 a5 N _ _ RP _ (hX.below b5).flat hO5.own.flat (by omega)).mono ?_; rintro e w6 ⟨rfl, hb6⟩; have b6 := b5.trans (hb6.mono b5.size))
 | (go_at_call 8; refine (pushAll_sr hRP.out al c ac cc _ hO.flat (by omega) hC.flat (by omega) N hN.out).mono ?_; rintro e w5 ⟨a5, c5, rfl, hO5⟩; have b5 := hO5.bel))
  go_ret
  exact ⟨rfl, bel.trans (b8.mono bel.size)⟩
 | false =>
  have hNE' : N = n := by simp at hNE; omega
  subst hNE'
  clear hNE
  go_wp2_with fail
  go_loopw [7, 8, 9] (fun s7 _ _ wr => ∃ i : Nat, i ≤ N ∧ s7 = .int .i64 (i : Int) ∧ Below w.heap.size w wr ∧ OwnL wr w.heap.size 35 12 (.slice al N c) N U ∧ OwnL wr w.heap.size 39 5 (.slice ac m cc) m Ct ∧ OwnL wr w.heap.size 35 12 (.slice a1 N c1) N RP ∧ OwnL wr w.heap.size 35 12 (.slice a2 N c2) N RA) (fun s7 _ _ _ => N - (intOf s7).toNat)
  case atStart => exact ⟨0, Nat.zero_le _, rfl, bel, hO, hC, hX, hY⟩
  case round =>
   clear bel hO hC hX hY
   obtain ⟨i, hi, rfl, bel, hO, hC, hX, hY⟩ := hrel
   by_cases hlt : i < N
   · have hil : (i : Int) < (N : Int) := by omega
     have hbc : bcB N m U Ct = true := by
      cases e : bcB N m U Ct with
      | true => rfl
      | false => have h := hN.out; rw [e] at h; have h : 0 = N := h; omega
     have hCt : Shut (CtOk N m Ct) := bc_ok hbc
     clear hbc
     go_wp2_with fail
     go_loopw [8, 9] (fun s8 s9 wr => ∃ k : Nat, k ≤ m ∧ s8 = .bool (smN Ct (i : Int) k) ∧ s9 = .int .i64 (k : Int) ∧ Below w.heap.size w wr ∧ OwnL wr w.heap.size 35 12 (.slice al N c) N U ∧ OwnL wr w.heap.size 39 5 (.slice ac m cc) m Ct ∧ OwnL wr w.heap.size 35 12 (.slice a1 N c1) N RP ∧ OwnL wr w.heap.size 35 12 (.slice a2 N c2) N RA) (fun _ s9 _ => m - (intOf s9).toNat)
     case atStart => exact ⟨0, Nat.zero_le _, rfl, rfl, bel, hO, hC, hX, hY⟩
     case round =>
      clear bel hO hC hX hY
      obtain ⟨k, hk, rfl, rfl, bel, hO, hC, hX, hY⟩ := hrel
      by_cases hlk : k < m
      · have hkl : (k : Int) < (m : Int) := by omega
        obtain ⟨gc, rfl, hg1, hg2⟩ := hC.loc (by omega)
        clear hg1 hg2
        have c0 := hC.cellq (q := k * 5) (by omega)
        have c1q := hC.cellq (q := k * 5 + 1) (by omega)
        have hnx : smN Ct (i : Int) (k + 1) = (smN Ct (i : Int) k || (Ct (k * 5) == (i : Int) || Ct (k * 5 + 1) == (i : Int))) := rfl
        cases hs : smN Ct (i : Int) k with
        | true =>
         rw [hs, Bool.true_or] at hnx
         clear hs
         go_wp2_with fail
         go_roundw
         case rel => exact ⟨k + 1, by omega, by rw [hnx], by go_num, bel, hO, hC, hX, hY⟩
         case measure => simp [intOf]; omega
        | false =>
         rw [hs, Bool.false_or] at hnx
         clear hs
         cases h1 : (Ct (k * 5) == (i : Int)) with
         | true =>
          rw [h1, Bool.true_or] at hnx
          go_wp2_with fail
          go_roundw
          case rel => exact ⟨k + 1, by omega, by rw [hnx], by go_num, bel, hO, hC, hX, hY⟩
          case measure => simp [intOf]; omega
         | false =>
          rw [h1, Bool.false_or] at hnx
          go_wp2_with fail
          go_roundw
          case rel => exact ⟨k + 1, by omega, by rw [hnx], by go_num, bel, hO, hC, hX, hY⟩
          case measure => simp [intOf]; omega
      · obtain rfl : m = k := by omega
        obtain ⟨go, rfl, hg1, hg2⟩ := hO.loc (by omega)
        obtain ⟨gx, rfl, hg3, hg4⟩ := hX.loc (by omega)
        obtain ⟨gy, rfl, hg5, hg6⟩ := hY.loc (by omega)
        clear hg1 hg2 hg3 hg4 hg5 hg6
        cases hs : smN Ct (i : Int) m with
        | true =>
         go_upto_region 16 with fail
         refine wp_region_held_drew (S := fun w' => True) (by kernel_rfl) ?_ (fun hHeld => ?_)
         · trivial
         refine tq 0 hHeld ?_
         refine tq 1 hHeld ?_
         refine tq 2 hHeld ?_
         refine tn 3 hHeld ?_
         refine tn 4 hHeld ?_
         refine tn 5 hHeld ?_
         refine tn 6 hHeld ?_
         refine tn 7 hHeld ?_
         refine tn 8 hHeld ?_
         refine tn 9 hHeld ?_
         refine tn 10 hHeld ?_
         refine tn 11 hHeld ?_
         refine tn 12 hHeld ?_
         refine tn 13 hHeld ?_
         refine tn 14 hHeld ?_
         refine tn 15 hHeld ?_
         refine tn 16 hHeld ?_
         refine tn 17 hHeld ?_
         refine tn 18 hHeld ?_
         refine tn 19 hHeld ?_
         refine tn 20 hHeld ?_
         refine tn 21 hHeld ?_
         refine tn 22 hHeld ?_
         refine tq 23 hHeld ?_
         refine wpAnyH_done (by kernel_rfl) ?_ _
         have bz := (Below.refl wr.heap.size wr).drew
         go_wp2_with fail
         go_roundw
         case rel => exact ⟨i + 1, by omega, by go_num, bel.trans (bz.mono bel.size), hO.below bz, hC.below bz, hX.below bz, hY.below bz⟩
         case measure => simp [intOf]; omega
        | false =>
         have hF : Far Ct m i := smN_far hCt.out m (Nat.le_refl _) hs
         clear hs
         have e1 : ∀ j, j < 12 → RP (i * 12 + j) = U (i * 12 + j) := fun j hj => by rw [hRP.out]; exact all_far hF hj 4
         have e2 : ∀ j, j < 12 → RA (i * 12 + j) = U (i * 12 + j) := fun j hj => by rw [hRA.out]; exact aparts_far hF hj m (Nat.le_refl _)
         have p : ∀ j, j < 12 → wr.cell? ⟨go, i * 12 + j, none⟩ = some (.int .i64 (U (i * 12 + j))) := fun j hj => hO.cellq (by omega)
         have q : ∀ j, j < 12 → wr.cell? ⟨gx, i * 12 + j, none⟩ = some (.int .i64 (U (i * 12 + j))) := fun j hj => by rw [← e1 j hj]; exact hX.cellq (by omega)
         have r : ∀ j, j < 12 → wr.cell? ⟨gy, i * 12 + j, none⟩ = some (.int .i64 (U (i * 12 + j))) := fun j hj => by rw [← e2 j hj]; exact hY.cellq (by omega)
         have p0 := p 0 (by decide)
         have p1 := p 1 (by decide)
         have p2 := p 2 (by decide)
         have p3 := p 3 (by decide)
         have p4 := p 4 (by decide)
         have p5 := p 5 (by decide)
         have p6 := p 6 (by decide)
         have p7 := p 7 (by decide)
         have p8 := p 8 (by decide)
         have p9 := p 9 (by decide)
         have p10 := p 10 (by decide)
         have p11 := p 11 (by decide)
         have q0 := q 0 (by decide)
         have q1 := q 1 (by decide)
         have q2 := q 2 (by decide)
         have q3 := q 3 (by decide)
         have q4 := q 4 (by decide)
         have q5 := q 5 (by decide)
         have q6 := q 6 (by decide)
         have q7 := q 7 (by decide)
         have q8 := q 8 (by decide)
         have q9 := q 9 (by decide)
         have q10 := q 10 (by decide)
         have q11 := q 11 (by decide)
         have r0 := r 0 (by decide)
         have r1 := r 1 (by decide)
         have r2 := r 2 (by decide)
         have r3 := r 3 (by decide)
         have r4 := r 4 (by decide)
         have r5 := r 5 (by decide)
         have r6 := r 6 (by decide)
         have r7 := r 7 (by decide)
         have r8 := r 8 (by decide)
         have r9 := r 9 (by decide)
         have r10 := r 10 (by decide)
         have r11 := r 11 (by decide)
         rw [Nat.add_zero] at p0 q0 r0
         have hev := eq_body0 (U (i * 12)) (U (i * 12 + 1)) (U (i * 12 + 2)) (U (i * 12 + 3)) (U (i * 12 + 4)) (U (i * 12 + 5)) (U (i * 12 + 6)) (U (i * 12 + 7)) (U (i * 12 + 8)) (U (i * 12 + 9)) (U (i * 12 + 10)) (U (i * 12 + 11))
         clear p q r e1 e2 hF
         go_upto_region 16 with fail
         refine wp_region_held_drew (S := fun w' => w'.cell? ⟨go, i * 12, none⟩ = some (.int .i64 (U (i * 12))) ∧ w'.cell? ⟨go, i * 12 + 1, none⟩ = some (.int .i64 (U (i * 12 + 1))) ∧ w'.cell? ⟨go, i * 12 + 2, none⟩ = some (.int .i64 (U (i * 12 + 2))) ∧ w'.cell? ⟨go, i * 12 + 3, none⟩ = some (.int .i64 (U (i * 12 + 3))) ∧ w'.cell? ⟨go, i * 12 + 4, none⟩ = some (.int .i64 (U (i * 12 + 4))) ∧ w'.cell? ⟨go, i * 12 + 5, none⟩ = some (.int .i64 (U (i * 12 + 5))) ∧ w'.cell? ⟨go, i * 12 + 6, none⟩ = some (.int .i64 (U (i * 12 + 6))) ∧ w'.cell? ⟨go, i * 12 + 7, none⟩ = some (.int .i64 (U (i * 12 + 7))) ∧ w'.cell? ⟨go, i * 12 + 8, none⟩ = some (.int .i64 (U (i * 12 + 8))) ∧ w'.cell? ⟨go, i * 12 + 9, none⟩ = some (.int .i64 (U (i * 12 + 9))) ∧ w'.cell? ⟨go, i * 12 + 10, none⟩ = some (.int .i64 (U (i * 12 + 10))) ∧ w'.cell? ⟨go, i * 12 + 11, none⟩ = some (.int .i64 (U (i * 12 + 11))) ∧ w'.cell? ⟨gx, i * 12, none⟩ = some (.int .i64 (U (i * 12))) ∧ w'.cell? ⟨gx, i * 12 + 1, none⟩ = some (.int .i64 (U (i * 12 + 1))) ∧ w'.cell? ⟨gx, i * 12 + 2, none⟩ = some (.int .i64 (U (i * 12 + 2))) ∧ w'.cell? ⟨gx, i * 12 + 3, none⟩ = some (.int .i64 (U (i * 12 + 3))) ∧ w'.cell? ⟨gx, i * 12 + 4, none⟩ = some (.int .i64 (U (i * 12 + 4))) ∧ w'.cell? ⟨gx, i * 12 + 5, none⟩ = some (.int .i64 (U (i * 12 + 5))) ∧ w'.cell? ⟨gx, i * 12 + 6, none⟩ = some (.int .i64 (U (i * 12 + 6))) ∧ w'.cell? ⟨gx, i * 12 + 7, none⟩ = some (.int .i64 (U (i * 12 + 7))) ∧ w'.cell? ⟨gx, i * 12 + 8, none⟩ = some (.int .i64 (U (i * 12 + 8))) ∧ w'.cell? ⟨gx, i * 12 + 9, none⟩ = some (.int .i64 (U (i * 12 + 9))) ∧ w'.cell? ⟨gx, i * 12 + 10, none⟩ = some (.int .i64 (U (i * 12 + 10))) ∧ w'.cell? ⟨gx, i * 12 + 11, none⟩ = some (.int .i64 (U (i * 12 + 11))) ∧ w'.cell? ⟨gy, i * 12, none⟩ = some (.int .i64 (U (i * 12))) ∧ w'.cell? ⟨gy, i * 12 + 1, none⟩ = some (.int .i64 (U (i * 12 + 1))) ∧ w'.cell? ⟨gy, i * 12 + 2, none⟩ = some (.int .i64 (U (i * 12 + 2))) ∧ w'.cell? ⟨gy, i * 12 + 3, none⟩ = some (.int .i64 (U (i * 12 + 3))) ∧ w'.cell? ⟨gy, i * 12 + 4, none⟩ = some (.int .i64 (U (i * 12 + 4))) ∧ w'.cell? ⟨gy, i * 12 + 5, none⟩ = some (.int .i64 (U (i * 12 + 5))) ∧ w'.cell? ⟨gy, i * 12 + 6, none⟩ = some (.int .i64 (U (i * 12 + 6))) ∧ w'.cell? ⟨gy, i * 12 + 7, none⟩ = some (.int .i64 (U (i * 12 + 7))) ∧ w'.cell? ⟨gy, i * 12 + 8, none⟩ = some (.int .i64 (U (i * 12 + 8))) ∧ w'.cell? ⟨gy, i * 12 + 9, none⟩ = some (.int .i64 (U (i * 12 + 9))) ∧ w'.cell? ⟨gy, i * 12 + 10, none⟩ = some (.int .i64 (U (i * 12 + 10))) ∧ w'.cell? ⟨gy, i * 12 + 11, none⟩ = some (.int .i64 (U (i * 12 + 11)))) (by kernel_rfl) ?_ (fun hHeld => ?_)
         · (try dsimp only)
           (first | (go_simp; done) | (go_keep; done))
         refine tq 0 hHeld ?_
         refine tq 1 hHeld ?_
         refine tq 2 hHeld ?_
         refine tq 3 hHeld ?_
         refine tq 4 hHeld ?_
         refine tq 5 hHeld ?_
         refine tq 6 hHeld ?_
         refine tq 7 hHeld ?_
         refine tq 8 hHeld ?_
         refine tq 9 hHeld ?_
         refine tq 10 hHeld ?_
         refine tq 11 hHeld ?_
         refine tq 12 hHeld ?_
         refine tq 13 hHeld ?_
         refine tq 14 hHeld ?_
         refine tq 15 hHeld ?_
         refine tq 16 hHeld ?_
         refine tq 17 hHeld ?_
         refine tq 18 hHeld ?_
         refine tq 19 hHeld ?_
         refine tq 20 hHeld ?_
         refine tq 21 hHeld ?_
         refine tq 22 hHeld ?_
         refine tq 23 hHeld ?_
         refine wpAnyH_done (by kernel_rfl) ?_ _
         have bz := (Below.refl wr.heap.size wr).drew
         go_wp2_with fail
         go_roundw
         case rel => exact ⟨i + 1, by omega, by go_num, bel.trans (bz.mono bel.size), hO.below bz, hC.below bz, hX.below bz, hY.below bz⟩
         case measure => simp [intOf]; omega
   · go_wp2_with fail
     go_ret
     exact ⟨rfl, bel⟩
end Go.Proofs.YtfiaokkolcodgaaGreat
