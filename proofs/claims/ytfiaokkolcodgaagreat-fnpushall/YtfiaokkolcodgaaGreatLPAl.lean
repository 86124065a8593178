/- Texts of a proof. -/
import Derived.Test.YtfiaokkolcodgaaGreatB47
import Derived.Test.YtfiaokkolcodgaaGreatB43
import Derived.Test.YtfiaokkolcodgaaGreatSDrv
import Derived.Test.YtfiaokkolcodgaaGreatBdOkI
import Derived.Test.YtfiaokkolcodgaaGreatB24
import Derived.Test.YtfiaokkolcodgaaGreatB27
import Derived.Deep.RegionHeld3
import Derived.Deep.DeepCutAuto
set_option maxHeartbeats 16000000
set_option maxRecDepth 20000
namespace Go.Proofs.YtfiaokkolcodgaaGreat
open Go.RowKit
set_option linter.unusedVariables false
set_option linter.unusedSimpArgs false
def frN (C U : Nat → Int) : Nat → Bool
 | 0 => true
 | k + 1 => frN C U k && (decide (0 < U ((C (k * 5)).toNat * 12 + 8)) && decide (0 < U ((C (k * 5 + 1)).toNat * 12 + 8)))
theorem frN_free {C U : Nat → Int} : ∀ k, frN C U k = true → Free C U k
 | 0, _, q, hq => absurd hq (Nat.not_lt_zero _)
 | k + 1, h, q, hq => by
  rw [frN] at h
  simp only [Bool.and_eq_true, decide_eq_true_eq] at h
  rcases Nat.lt_succ_iff_lt_or_eq.1 hq with l | rfl
  · exact frN_free k h.1 q l
  · omega
theorem rnd_none (C U : Nat → Int) (bo : Bool) : rndN C bo U 0 = U := rfl
theorem all_none (C U : Nat → Int) : ∀ r, allN C U 0 r = U
 | 0 => rfl
 | r + 1 => by rw [allN, rnd_none, all_none C U r]
theorem bc_none {n : Nat} {U C : Nat → Int} (h : bodsB n U = true) : (bif bcB n 0 U C then n else 0) = n := by
 unfold bcB ctsB
 rw [h]
 rfl
theorem fnPushAll_walk (ac0 : Option Addr) (len cap : Nat) (w : World) (hb : Bytes w ac0 len cap) :
 Calls Tryz.prog 3 #[.slice ac0 len cap] w fun e w' => e = .returned (.bool true) ∧ Below w.heap.size w w' := by
 have hset := cset_map
 by_cases hlen : 1048576 < len
 · have hl : (1048576 : Int) < (len : Int) := by omega
   go_enter Tryz.func3, Tryz.ntmps3
   go_wp2_with fail
   go_ret
   exact ⟨rfl, Below.refl _ _⟩
 have hl : ¬ (1048576 : Int) < (len : Int) := by omega
 go_enter Tryz.func3, Tryz.ntmps3
 go_upto_region 3 with fail
 go_cut [3, 4] (fun s3 s4 wc => ∃ (al : Option Addr) (n c : Nat) (U : Nat → Int) (ac : Option Addr) (m cc : Nat) (Ct : Nat → Int), s3 = .slice al n c ∧ s4 = .slice ac m cc ∧ n ≤ 13 ∧ m ≤ 145 ∧ Below w.heap.size w wc ∧ OwnL wc w.heap.size 35 12 (.slice al n c) n U ∧ OwnL wc w.heap.size 39 5 (.slice ac m cc) m Ct)
 case first =>
  go_wp2_with (go_at_call 5; refine (drawPushAll_k _ _ _ _ hb).mono ?_; intro e w1 hD; unfold DrP at hD; obtain ⟨al, n, c, U, ac, m, cc, Ct, rfl, hn, hm, hb1, hO1, hC1⟩ := hD)
  go_meet
  exact ⟨al, n, c, U, ac, m, cc, Ct, rfl, rfl, hn, hm, hb1, hO1, hC1⟩
 case rest =>
 obtain ⟨al, n, c, U, ac, m, cc, Ct, rfl, rfl, hn, hm, bel, hO, hC⟩ := hcut
 obtain ⟨N, hN0⟩ : ∃ N, (bif bcB n m U Ct then n else 0) = N := ⟨_, rfl⟩
 have hNn : N ≤ n := by rw [← hN0]; cases bcB n m U Ct <;> simp
 have hN : Shut ((bif bcB n m U Ct then n else 0) = N) := hN0
 clear hN0
 obtain ⟨RP, hRP0⟩ : ∃ R, R = allN Ct U m 4 := ⟨_, rfl⟩
 have hRP : Shut (RP = allN Ct U m 4) := hRP0
 clear hRP0
 obtain ⟨OK, hOK0⟩ : ∃ b, bodsB n U = b := ⟨_, rfl⟩
 have hOK : Shut (bodsB n U = OK) := hOK0
 clear hOK0
 go_upto_region 4 with fail
 go_cut [5] (fun s wc => ∃ (a1 : Option Addr) (c1 : Nat), s = .slice a1 N c1 ∧ Below w.heap.size w wc ∧ OwnL wc w.heap.size 35 12 (.slice al n c) n U ∧ OwnL wc w.heap.size 39 5 (.slice ac m cc) m Ct ∧ OwnL wc w.heap.size 35 12 (.slice a1 N c1) N RP)
 case first =>
  go_wp2_with (go_at_call 6; refine (pushAll_ir hRP.out al c ac cc _ hO.flat (by omega) hC.flat (by omega) N hN.out).mono ?_; rintro e w1 ⟨a1, c1, rfl, hOu⟩)
  go_meet
  have bz := hOu.bel
  exact ⟨a1, c1, rfl, bel.trans (bz.mono bel.size), hO.below bz, hC.below bz, hOu.own.base bel.size⟩
 case rest =>
 clear bel hO hC
 obtain ⟨a1, c1, rfl, bel, hO, hC, hX⟩ := hcut
 go_upto_region 5 with fail
 go_cut [42] (fun s wc => ∃ Z : Bool, s = .bool Z ∧ (Z = false → OK = true ∧ N = n ∧ 0 < n) ∧ Below w.heap.size w wc ∧ OwnL wc w.heap.size 35 12 (.slice al n c) n U ∧ OwnL wc w.heap.size 39 5 (.slice ac m cc) m Ct ∧ OwnL wc w.heap.size 35 12 (.slice a1 N c1) N RP)
 case first =>
  cases OK with
  | false =>
   go_wp2_with (first
 | (have _ := b6; go_at_call 9; refine (sBodiesOk_q al n c U false _ (hO.below b6).flat (by omega) hOK.out).mono ?_; rintro e w7 ⟨rfl, hb7⟩; have b7 := b6.trans (hb7.mono b6.size))
 | (have _ := b5; go_at_call 7; refine (pqBodies_same a1 a5 N _ _ RP _ (hX.below b5).flat hO5.own.flat (by omega)).mono ?_; rintro e w6 ⟨rfl, hb6⟩; have b6 := b5.trans (hb6.mono b5.size))
 | (go_at_call 8; refine (pushAll_sr hRP.out al c ac cc _ hO.flat (by omega) hC.flat (by omega) N hN.out).mono ?_; rintro e w5 ⟨a5, c5, rfl, hO5⟩; have b5 := hO5.bel))
   go_meet
   exact ⟨true, rfl, (fun e => by cases e), bel.trans (b7.mono bel.size), hO.below b7, hC.below b7, hX.below b7⟩
  | true =>
   cases hNE : ((N : Int) != (n : Int)) with
   | true =>
    go_wp2_with (first
 | (have _ := b6; go_at_call 9; refine (sBodiesOk_q al n c U true _ (hO.below b6).flat (by omega) hOK.out).mono ?_; rintro e w7 ⟨rfl, hb7⟩; have b7 := b6.trans (hb7.mono b6.size))
 | (have _ := b5; go_at_call 7; refine (pqBodies_same a1 a5 N _ _ RP _ (hX.below b5).flat hO5.own.flat (by omega)).mono ?_; rintro e w6 ⟨rfl, hb6⟩; have b6 := b5.trans (hb6.mono b5.size))
 | (go_at_call 8; refine (pushAll_sr hRP.out al c ac cc _ hO.flat (by omega) hC.flat (by omega) N hN.out).mono ?_; rintro e w5 ⟨a5, c5, rfl, hO5⟩; have b5 := hO5.bel))
    go_meet
    exact ⟨true, rfl, (fun e => by cases e), bel.trans (b7.mono bel.size), hO.below b7, hC.below b7, hX.below b7⟩
   | false =>
    have hNS : Shut (N = n) := by show N = n; simp at hNE; omega
    by_cases h0 : n = 0
    · have e0 : ((n : Int) == 0) = true := by simp [h0]
      clear h0
      go_wp2_with (first
 | (have _ := b6; go_at_call 9; refine (sBodiesOk_q al n c U true _ (hO.below b6).flat (by omega) hOK.out).mono ?_; rintro e w7 ⟨rfl, hb7⟩; have b7 := b6.trans (hb7.mono b6.size))
 | (have _ := b5; go_at_call 7; refine (pqBodies_same a1 a5 N _ _ RP _ (hX.below b5).flat hO5.own.flat (by omega)).mono ?_; rintro e w6 ⟨rfl, hb6⟩; have b6 := b5.trans (hb6.mono b5.size))
 | (go_at_call 8; refine (pushAll_sr hRP.out al c ac cc _ hO.flat (by omega) hC.flat (by omega) N hN.out).mono ?_; rintro e w5 ⟨a5, c5, rfl, hO5⟩; have b5 := hO5.bel))
      go_meet
      exact ⟨true, rfl, (fun e => by cases e), bel.trans (b7.mono bel.size), hO.below b7, hC.below b7, hX.below b7⟩
    · have e0 : ((n : Int) == 0) = false := by simp [h0]
      have h0S : Shut (0 < n) := by show 0 < n; omega
      clear h0
      go_wp2_with (first
 | (have _ := b6; go_at_call 9; refine (sBodiesOk_q al n c U true _ (hO.below b6).flat (by omega) hOK.out).mono ?_; rintro e w7 ⟨rfl, hb7⟩; have b7 := b6.trans (hb7.mono b6.size))
 | (have _ := b5; go_at_call 7; refine (pqBodies_same a1 a5 N _ _ RP _ (hX.below b5).flat hO5.own.flat (by omega)).mono ?_; rintro e w6 ⟨rfl, hb6⟩; have b6 := b5.trans (hb6.mono b5.size))
 | (go_at_call 8; refine (pushAll_sr hRP.out al c ac cc _ hO.flat (by omega) hC.flat (by omega) N hN.out).mono ?_; rintro e w5 ⟨a5, c5, rfl, hO5⟩; have b5 := hO5.bel))
      go_meet
      exact ⟨false, rfl, (fun _ => ⟨(by first | exact trivial | rfl), hNS.out, h0S.out⟩), bel.trans (b7.mono bel.size), hO.below b7, hC.below b7, hX.below b7⟩
 case rest =>
 clear bel hO hC hX
 obtain ⟨Z, rfl, hZ, bel, hO, hC, hX⟩ := hcut
 cases Z with
 | true =>
  go_wp2_with (first
   | (have _ := b5; go_at_call 7; refine (pqBodies_same a1 a5 N _ _ RP _ (hX.below b5).flat hO5.own.flat (by omega)).mono ?_; rintro e w6 ⟨rfl, hb6⟩; have b6 := b5.trans (hb6.mono b5.size))
   | (go_at_call 8; refine (pushAll_sr hRP.out al c ac cc _ hO.flat (by omega) hC.flat (by omega) N hN.out).mono ?_; rintro e w5 ⟨a5, c5, rfl, hO5⟩; have b5 := hO5.bel))
  go_ret
  exact ⟨rfl, bel.trans (b6.mono bel.size)⟩
 | false =>
  obtain ⟨rfl, hNE, h0⟩ := hZ rfl
  clear hZ
  subst hNE
  have hBB : Shut (bodsB N U = true) := hOK
  have hbc : bcB N m U Ct = true := by
   cases e : bcB N m U Ct with
   | true => rfl
   | false => have h := hN.out; rw [e] at h; have h : 0 = N := h; omega
  have hCt : Shut (CtOk N m Ct) := bc_ok hbc
  have hXB : Shut (bodsB N RP = true) := by show _ = _; rw [hRP.out]; exact ((Bods.of hBB.out).all hCt.out 4).1.to
  clear hbc hOK
  go_wp2_with fail
  go_loopw [6, 7] (fun s6 s7 wr => ∃ k : Nat, k ≤ m ∧ s6 = .bool (frN Ct U k) ∧ s7 = .int .i64 (k : Int) ∧ Below w.heap.size w wr ∧ OwnL wr w.heap.size 35 12 (.slice al N c) N U ∧ OwnL wr w.heap.size 39 5 (.slice ac m cc) m Ct ∧ OwnL wr w.heap.size 35 12 (.slice a1 N c1) N RP) (fun _ s7 _ => m - (intOf s7).toNat)
  case atStart => exact ⟨0, Nat.zero_le _, rfl, rfl, bel, hO, hC, hX⟩
  case round =>
   clear bel hO hC hX
   obtain ⟨k, hk, rfl, rfl, bel, hO, hC, hX⟩ := hrel
   by_cases hlk : k < m
   · have hkl : (k : Int) < (m : Int) := by omega
     obtain ⟨gc, rfl, hg1, hg2⟩ := hC.loc (by omega)
     obtain ⟨go, rfl, hg3, hg4⟩ := hO.loc (by omega)
     clear hg1 hg2 hg3 hg4
     have c0 := hC.cellq (q := k * 5) (by omega)
     have c1q := hC.cellq (q := k * 5 + 1) (by omega)
     have ha := hCt.out.a k hlk
     have hb' := hCt.out.b k hlk
     have hnx : frN Ct U (k + 1) = (frN Ct U k && (decide (0 < U ((Ct (k * 5)).toNat * 12 + 8)) && decide (0 < U ((Ct (k * 5 + 1)).toNat * 12 + 8)))) := rfl
     obtain ⟨A, hA⟩ : ∃ A : Nat, Ct (k * 5) = (A : Int) := ⟨(Ct (k * 5)).toNat, by omega⟩
     obtain ⟨B, hB⟩ : ∃ B : Nat, Ct (k * 5 + 1) = (B : Int) := ⟨(Ct (k * 5 + 1)).toNat, by omega⟩
     rw [hA] at c0 ha hnx
     rw [hB] at c1q hb' hnx
     rw [Int.toNat_natCast, Int.toNat_natCast] at hnx
     have hAn : A < N := by omega
     have hBn : B < N := by omega
     have hAi : (A : Int) < (N : Int) := by omega
     have hBi : (B : Int) < (N : Int) := by omega
     have mA := hO.cellq (q := A * 12 + 8) (by omega)
     have mB := hO.cellq (q := B * 12 + 8) (by omega)
     clear ha hb' hA hB
     cases hf : frN Ct U k with
     | false =>
      rw [hf, Bool.false_and] at hnx
      clear hf
      go_wp2_with fail
      go_roundw
      case rel => exact ⟨k + 1, by omega, by rw [hnx], by go_num, bel, hO, hC, hX⟩
      case measure => simp [intOf]; omega
     | true =>
      rw [hf, Bool.true_and] at hnx
      clear hf
      cases hdA : decide (0 < U (A * 12 + 8)) with
      | false =>
       rw [hdA, Bool.false_and] at hnx
       have hdA' : ¬ (0 < U (A * 12 + 8)) := of_decide_eq_false hdA
       go_wp2_with fail
       go_roundw
       case rel => exact ⟨k + 1, by omega, by rw [hnx], by go_num, bel, hO, hC, hX⟩
       case measure => simp [intOf]; omega
      | true =>
       rw [hdA, Bool.true_and] at hnx
       have hdA' : 0 < U (A * 12 + 8) := of_decide_eq_true hdA
       cases hdB : decide (0 < U (B * 12 + 8)) with
       | false =>
        rw [hdB] at hnx
        have hdB' : ¬ (0 < U (B * 12 + 8)) := of_decide_eq_false hdB
        go_wp2_with fail
        go_roundw
        case rel => exact ⟨k + 1, by omega, by rw [hnx], by go_num, bel, hO, hC, hX⟩
        case measure => simp [intOf]; omega
       | true =>
        rw [hdB] at hnx
        have hdB' : 0 < U (B * 12 + 8) := of_decide_eq_true hdB
        go_wp2_with fail
        go_roundw
        case rel => exact ⟨k + 1, by omega, by rw [hnx], by go_num, bel, hO, hC, hX⟩
        case measure => simp [intOf]; omega
   · obtain rfl : m = k := by omega
     obtain ⟨FR, hFR0⟩ : ∃ b, frN Ct U m = b := ⟨_, rfl⟩
     rw [hFR0]
     have hFR : Shut (frN Ct U m = FR) := hFR0
     clear hFR0
     go_wp2_with fail
     go_loopw [8] (fun s wr => ∃ i : Nat, i ≤ N ∧ s = .int .i64 (i : Int) ∧ Below w.heap.size w wr ∧ OwnL wr w.heap.size 35 12 (.slice al N c) N U ∧ OwnL wr w.heap.size 39 5 (.slice ac m cc) m Ct ∧ OwnL wr w.heap.size 35 12 (.slice a1 N c1) N RP) (fun s _ => N - (intOf s).toNat)
     case atStart => exact ⟨0, Nat.zero_le _, rfl, bel, hO, hC, hX⟩
     case round =>
      clear bel hO hC hX
      obtain ⟨i, hi, rfl, bel, hO, hC, hX⟩ := hrel
      by_cases hlt : i < N
      · have hil : (i : Int) < (N : Int) := by omega
        obtain ⟨go, rfl, hg1, hg2⟩ := hO.loc (by omega)
        obtain ⟨gx, rfl, hg3, hg4⟩ := hX.loc (by omega)
        clear hg1 hg2 hg3 hg4
        have h88 : (U (i * 12 + 8) != U (i * 12 + 8)) = false := by simp
        have hev2 := eq_vec0 (U (i * 12 + 4)) (U (i * 12 + 5)) (U (i * 12 + 4)) (U (i * 12 + 5))
        have hv2 : (U (i * 12 + 4) == U (i * 12 + 4) && U (i * 12 + 5) == U (i * 12 + 5)) = true := by simp
        rw [hv2] at hev2
        clear hv2
        cases hm0 : (U (i * 12 + 8) == 0) with
        | true =>
         have e1 : ∀ j, j < 12 → RP (i * 12 + j) = U (i * 12 + j) := fun j hj => by rw [hRP.out]; exact (all_keep hCt.out hj (.inr (by simpa using hm0)) 4).1
         have p : ∀ j, j < 12 → wr.cell? ⟨go, i * 12 + j, none⟩ = some (.int .i64 (U (i * 12 + j))) := fun j hj => hO.cellq (by omega)
         have q : ∀ j, j < 12 → wr.cell? ⟨gx, i * 12 + j, none⟩ = some (.int .i64 (U (i * 12 + j))) := fun j hj => by rw [← e1 j hj]; exact hX.cellq (by omega)
         have p0 := p 0 (by decide)
         have p1 := p 1 (by decide)
         have p2 := p 2 (by decide)
         have p3 := p 3 (by decide)
         have p4 := p 4 (by decide)
         have p5 := p 5 (by decide)
         have p6 := p 6 (by decide)
         have p7 := p 7 (by decide)
         have p8 := p 8 (by decide)
         have p9 := p 9 (by decide)
         have p10 := p 10 (by decide)
         have p11 := p 11 (by decide)
         have q0 := q 0 (by decide)
         have q1 := q 1 (by decide)
         have q2 := q 2 (by decide)
         have q3 := q 3 (by decide)
         have q4 := q 4 (by decide)
         have q5 := q 5 (by decide)
         have q6 := q 6 (by decide)
         have q7 := q 7 (by decide)
         have q8 := q 8 (by decide)
         have q9 := q 9 (by decide)
         have q10 := q 10 (by decide)
         have q11 := q 11 (by decide)
         rw [Nat.add_zero] at p0 q0
         have hev := eq_body0 (U (i * 12)) (U (i * 12 + 1)) (U (i * 12 + 2)) (U (i * 12 + 3)) (U (i * 12 + 4)) (U (i * 12 + 5)) (U (i * 12 + 6)) (U (i * 12 + 7)) (U (i * 12 + 8)) (U (i * 12 + 9)) (U (i * 12 + 10)) (U (i * 12 + 11))
         clear p q e1
         go_upto_region 15 with fail
         refine wp_region_held_drew (S := fun w' => w'.cell? ⟨go, i * 12, none⟩ = some (.int .i64 (U (i * 12))) ∧ w'.cell? ⟨go, i * 12 + 1, none⟩ = some (.int .i64 (U (i * 12 + 1))) ∧ w'.cell? ⟨go, i * 12 + 2, none⟩ = some (.int .i64 (U (i * 12 + 2))) ∧ w'.cell? ⟨go, i * 12 + 3, none⟩ = some (.int .i64 (U (i * 12 + 3))) ∧ w'.cell? ⟨go, i * 12 + 4, none⟩ = some (.int .i64 (U (i * 12 + 4))) ∧ w'.cell? ⟨go, i * 12 + 5, none⟩ = some (.int .i64 (U (i * 12 + 5))) ∧ w'.cell? ⟨go, i * 12 + 6, none⟩ = some (.int .i64 (U (i * 12 + 6))) ∧ w'.cell? ⟨go, i * 12 + 7, none⟩ = some (.int .i64 (U (i * 12 + 7))) ∧ w'.cell? ⟨go, i * 12 + 8, none⟩ = some (.int .i64 (U (i * 12 + 8))) ∧ w'.cell? ⟨go, i * 12 + 9, none⟩ = some (.int .i64 (U (i * 12 + 9))) ∧ w'.cell? ⟨go, i * 12 + 10, none⟩ = some (.int .i64 (U (i * 12 + 10))) ∧ w'.cell? ⟨go, i * 12 + 11, none⟩ = some (.int .i64 (U (i * 12 + 11))) ∧ w'.cell? ⟨gx, i * 12, none⟩ = some (.int .i64 (U (i * 12))) ∧ w'.cell? ⟨gx, i * 12 + 1, none⟩ = some (.int .i64 (U (i * 12 + 1))) ∧ w'.cell? ⟨gx, i * 12 + 2, none⟩ = some (.int .i64 (U (i * 12 + 2))) ∧ w'.cell? ⟨gx, i * 12 + 3, none⟩ = some (.int .i64 (U (i * 12 + 3))) ∧ w'.cell? ⟨gx, i * 12 + 4, none⟩ = some (.int .i64 (U (i * 12 + 4))) ∧ w'.cell? ⟨gx, i * 12 + 5, none⟩ = some (.int .i64 (U (i * 12 + 5))) ∧ w'.cell? ⟨gx, i * 12 + 6, none⟩ = some (.int .i64 (U (i * 12 + 6))) ∧ w'.cell? ⟨gx, i * 12 + 7, none⟩ = some (.int .i64 (U (i * 12 + 7))) ∧ w'.cell? ⟨gx, i * 12 + 8, none⟩ = some (.int .i64 (U (i * 12 + 8))) ∧ w'.cell? ⟨gx, i * 12 + 9, none⟩ = some (.int .i64 (U (i * 12 + 9))) ∧ w'.cell? ⟨gx, i * 12 + 10, none⟩ = some (.int .i64 (U (i * 12 + 10))) ∧ w'.cell? ⟨gx, i * 12 + 11, none⟩ = some (.int .i64 (U (i * 12 + 11)))) (by kernel_rfl) ?_ (fun hHeld => ?_)
         · (try dsimp only)
           (first | (go_simp; done) | (go_keep; done))
         refine tq 0 hHeld ?_
         refine tq 1 hHeld ?_
         refine tq 2 hHeld ?_
         refine tq 3 hHeld ?_
         refine tq 4 hHeld ?_
         refine tq 5 hHeld ?_
         refine tq 6 hHeld ?_
         refine tq 7 hHeld ?_
         refine tq 8 hHeld ?_
         refine tq 9 hHeld ?_
         refine tq 10 hHeld ?_
         refine tq 11 hHeld ?_
         refine tq 12 hHeld ?_
         refine tq 13 hHeld ?_
         refine tq 14 hHeld ?_
         refine tq 15 hHeld ?_
         refine tq 16 hHeld ?_
         refine tq 17 hHeld ?_
         refine tq 18 hHeld ?_
         refine tq 19 hHeld ?_
         refine tq 20 hHeld ?_
         refine tq 21 hHeld ?_
         refine tq 22 hHeld ?_
         refine tq 23 hHeld ?_
         refine tq 24 hHeld ?_
         refine tq 25 hHeld ?_
         refine tq 26 hHeld ?_
         refine tq 27 hHeld ?_
         refine tq 28 hHeld ?_
         refine tq 29 hHeld ?_
         refine tq 30 hHeld ?_
         refine tq 31 hHeld ?_
         refine tq 32 hHeld ?_
         refine tq 33 hHeld ?_
         refine tq 34 hHeld ?_
         refine tq 35 hHeld ?_
         refine tq 36 hHeld ?_
         refine tq 37 hHeld ?_
         refine tq 38 hHeld ?_
         refine tq 39 hHeld ?_
         refine tq 40 hHeld ?_
         refine tq 41 hHeld ?_
         refine tq 42 hHeld ?_
         refine wpAnyH_done (by kernel_rfl) ?_ _
         have bz := (Below.refl wr.heap.size wr).drew
         go_wp2_with fail
         go_roundw
         case rel => exact ⟨i + 1, by omega, by go_num, bel.trans (bz.mono bel.size), hO.below bz, hC.below bz, hX.below bz⟩
         case measure => simp [intOf]; omega
        | false =>
         have e1 : ∀ j, j < 12 → (j ≠ 6 ∧ j ≠ 7 ∧ j ≠ 11) → RP (i * 12 + j) = U (i * 12 + j) := fun j hj h => by rw [hRP.out]; exact (all_keep hCt.out hj (.inl h) 4).1
         have p : ∀ j, j < 12 → wr.cell? ⟨go, i * 12 + j, none⟩ = some (.int .i64 (U (i * 12 + j))) := fun j hj => hO.cellq (by omega)
         have q : ∀ j, j < 12 → (j ≠ 6 ∧ j ≠ 7 ∧ j ≠ 11) → wr.cell? ⟨gx, i * 12 + j, none⟩ = some (.int .i64 (U (i * 12 + j))) := fun j hj h => by rw [← e1 j hj h]; exact hX.cellq (by omega)
         have p4 := p 4 (by decide)
         have p5 := p 5 (by decide)
         have p8 := p 8 (by decide)
         have q4 := q 4 (by decide) (by decide)
         have q5 := q 5 (by decide) (by decide)
         have q8 := q 8 (by decide) (by decide)
         clear p q e1
         go_upto_region 15 with fail
         refine wp_region_held_drew (S := fun w' => w'.cell? ⟨go, i * 12 + 4, none⟩ = some (.int .i64 (U (i * 12 + 4))) ∧ w'.cell? ⟨go, i * 12 + 5, none⟩ = some (.int .i64 (U (i * 12 + 5))) ∧ w'.cell? ⟨go, i * 12 + 8, none⟩ = some (.int .i64 (U (i * 12 + 8))) ∧ w'.cell? ⟨gx, i * 12 + 4, none⟩ = some (.int .i64 (U (i * 12 + 4))) ∧ w'.cell? ⟨gx, i * 12 + 5, none⟩ = some (.int .i64 (U (i * 12 + 5))) ∧ w'.cell? ⟨gx, i * 12 + 8, none⟩ = some (.int .i64 (U (i * 12 + 8)))) (by kernel_rfl) ?_ (fun hHeld => ?_)
         · (try dsimp only)
           (first | (go_simp; done) | (go_keep; done))
         refine tq 0 hHeld ?_
         refine tq 1 hHeld ?_
         refine tq 2 hHeld ?_
         refine tq 3 hHeld ?_
         refine tq 4 hHeld ?_
         refine tq 5 hHeld ?_
         refine tq 6 hHeld ?_
         refine tq 7 hHeld ?_
         refine tq 8 hHeld ?_
         refine tq 9 hHeld ?_
         refine tq 10 hHeld ?_
         refine tq 11 hHeld ?_
         refine tq 12 hHeld ?_
         refine tq 13 hHeld ?_
         refine tq 14 hHeld ?_
         refine tq 15 hHeld ?_
         refine tq 16 hHeld ?_
         refine tq 17 hHeld ?_
         refine tq 18 hHeld ?_
         refine tq 19 hHeld ?_
         refine tq 20 hHeld ?_
         refine tq 21 hHeld ?_
         refine tq 22 hHeld ?_
         refine tq 23 hHeld ?_
         refine tq 24 hHeld ?_
         refine tq 25 hHeld ?_
         refine tq 26 hHeld ?_
         refine tq 27 hHeld ?_
         refine tq 28 hHeld ?_
         refine tq 29 hHeld ?_
         refine tq 30 hHeld ?_
         refine tq 31 hHeld ?_
         refine tn 32 hHeld ?_
         refine tn 33 hHeld ?_
         refine tn 34 hHeld ?_
         refine tn 35 hHeld ?_
         refine tn 36 hHeld ?_
         refine tn 37 hHeld ?_
         refine tn 38 hHeld ?_
         refine tn 39 hHeld ?_
         refine tn 40 hHeld ?_
         refine tq 41 hHeld ?_
         refine tq 42 hHeld ?_
         refine wpAnyH_done (by kernel_rfl) ?_ _
         have bz := (Below.refl wr.heap.size wr).drew
         go_wp2_with fail
         go_roundw
         case rel => exact ⟨i + 1, by omega, by go_num, bel.trans (bz.mono bel.size), hO.below bz, hC.below bz, hX.below bz⟩
         case measure => simp [intOf]; omega
      · cases FR with
        | false =>
         go_wp2_with (first
          | (have _ := b9; go_at_call 7; refine (pqBodies_same a9 al N _ _ U _ hO9.own.flat (hO.below b9).flat (by omega)).mono ?_; rintro e w10 ⟨rfl, hb10⟩; have b10 := b9.trans (hb10.mono b9.size))
          | (have _ := b3; go_at_call 6; refine (pushAll_ir (m := 0) (Ct := Ct) (all_none Ct U 4).symm al c none 0 _ (hO.below b3).flat (by omega) (fun h0 => absurd h0 (by decide)) (by omega) N (bc_none hBB.out)).mono ?_; rintro e w9 ⟨a9, c9, rfl, hO9⟩; have b9 := b3.trans (hO9.bel.mono b3.size))
          | (go_at_call 10; refine (bodiesOk_q a1 N c1 RP true _ hX.flat (by omega) hXB.out).mono ?_; rintro e w3 ⟨rfl, b3⟩))
         go_ret
         exact ⟨rfl, bel.trans (b10.mono bel.size)⟩
        | true =>
         obtain ⟨DX, hDX⟩ : ∃ x, drX N U = x := ⟨_, rfl⟩
         obtain ⟨DY, hDY⟩ : ∃ x, drY N U = x := ⟨_, rfl⟩
         have hsm := all_sum hCt.out (frN_free m hFR.out) 4
         have gX : Shut (drX N RP = DX) := by show _ = _; rw [← hDX]; unfold drX; rw [hXB.out, hBB.out]; show sumD RP 6 N = sumD U 6 N; rw [hRP.out]; exact hsm.1
         have gY : Shut (drY N RP = DY) := by show _ = _; rw [← hDY]; unfold drY; rw [hXB.out, hBB.out]; show sumD RP 7 N = sumD U 7 N; rw [hRP.out]; exact hsm.2
         have dX : Shut (drX N U = DX) := hDX
         have dY : Shut (drY N U = DY) := hDY
         clear hsm hDX hDY
         have hev2 := eq_vec0 DX DY DX DY
         have hv2 : (DX == DX && DY == DY) = true := by simp
         rw [hv2] at hev2
         clear hv2
         go_wp2_with (first
          | (have _ := b9; go_at_call 7; refine (pqBodies_same a9 al N _ _ U _ hO9.own.flat (hO.below b9).flat (by omega)).mono ?_; rintro e w10 ⟨rfl, hb10⟩; have b10 := b9.trans (hb10.mono b9.size))
          | (have _ := b5; go_at_call 6; refine (pushAll_ir (m := 0) (Ct := Ct) (all_none Ct U 4).symm al c none 0 _ (hO.below b5).flat (by omega) (fun h0 => absurd h0 (by decide)) (by omega) N (bc_none hBB.out)).mono ?_; rintro e w9 ⟨a9, c9, rfl, hO9⟩; have b9 := b5.trans (hO9.bel.mono b5.size))
          | (have _ := b4; go_at_call 11; refine (drives_q al N c U DX DY _ (hO.below b4).flat (by omega) dX.out dY.out).mono ?_; rintro e w5 ⟨rfl, hb5⟩; have b5 := b4.trans (hb5.mono b4.size))
          | (have _ := b3; go_at_call 11; refine (drives_q a1 N c1 RP DX DY _ (hX.below b3).flat (by omega) gX.out gY.out).mono ?_; rintro e w4 ⟨rfl, hb4⟩; have b4 := b3.trans (hb4.mono b3.size))
          | (go_at_call 10; refine (bodiesOk_q a1 N c1 RP true _ hX.flat (by omega) hXB.out).mono ?_; rintro e w3 ⟨rfl, b3⟩))
         go_ret
         exact ⟨rfl, bel.trans (b10.mono bel.size)⟩
end Go.Proofs.YtfiaokkolcodgaaGreat
