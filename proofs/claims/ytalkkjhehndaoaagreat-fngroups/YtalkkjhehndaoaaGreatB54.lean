/- Texts of a proof. -/
import Derived.Test.YtalkkjhehndaoaaGreatB53
import Derived.Test.YtalkkjhehndaoaaGreatB36
import Derived.Deep.RegionHeld3
import Derived.Deep.DeepCutAuto
import Derived.Test.YtalkkjhehndaoaaGreatCon
set_option maxHeartbeats 16000000
set_option maxRecDepth 20000
namespace Go.Proofs.YtalkkjhehndaoaaGreat
open Go.RowKit
set_option linter.unusedVariables false
set_option linter.unusedSimpArgs false
theorem pqInts_same (a a' : Option Addr) (N c c' : Nat) (R : Nat → Int) (w : World) (h : Flat w a (N * 1) R) (h' : Flat w a' (N * 1) R) (hN : N ≤ 1000) :
 Calls Tryz.prog 8 #[.slice a N c, .slice a' N c'] w fun e w' => e = .returned (.bool true) ∧ Below w.heap.size w w' := by
 have hset := cset_map
 have e0 : ((N : Int) != (N : Int)) = false := by simp
 go_enter Tryz.func8, Tryz.ntmps8
 go_upto_region 4 with fail
 go_loopw [5] (fun s wr => ∃ k : Nat, k ≤ N ∧ s = .int .i64 (k : Int) ∧ Below w.heap.size w wr) (fun s _ => N - (intOf s).toNat)
 case atStart => exact ⟨0, Nat.zero_le _, rfl, Below.refl _ _⟩
 case round =>
  obtain ⟨k, hk, rfl, hw⟩ := hrel
  by_cases hlt : k < N
  · have hkN : (k : Int) < (N : Int) := by omega
    obtain ⟨b1, o1, e1, _, hc1⟩ := (h.below hw) (by omega)
    obtain ⟨b2, o2, e2, _, hc2⟩ := (h'.below hw) (by omega)
    have r0 := hc1 k (by omega)
    have s0 := hc2 k (by omega)
    clear hc1 hc2
    subst e1 e2
    have hev : (R k != R k) = false := by simp
    go_upto_region 6 with fail
    refine wp_region_held_drew (S := fun w' => w'.cell? ⟨b1, o1 + k, none⟩ = some (.int .i64 (R k)) ∧ w'.cell? ⟨b2, o2 + k, none⟩ = some (.int .i64 (R k))) (by kernel_rfl) ?_ (fun hHeld => ?_)
    · (try dsimp only)
      (first | (go_simp; done) | (go_keep; done))
    refine tq 0 hHeld ?_
    refine tq 1 hHeld ?_
    refine tq 2 hHeld ?_
    refine tq 3 hHeld ?_
    refine tq 4 hHeld ?_
    refine tq 5 hHeld ?_
    refine tq 6 hHeld ?_
    refine tq 7 hHeld ?_
    refine tq 8 hHeld ?_
    refine wpAnyH_done (by kernel_rfl) ?_ _
    go_wp2_with fail
    go_roundw
    case rel => exact ⟨k + 1, by omega, by go_num, hw.drew⟩
    case measure => simp [intOf]; omega
  · obtain rfl : k = N := by omega
    go_wp2_with fail
    go_ret
    exact ⟨rfl, hw⟩
structure Lg (w wz : World) (al : Option Addr) (n : Nat) (U : Nat → Int) (ag : Option Addr) (N : Nat) (G : Nat → Int) : Prop where
 fl : Flat wz al (n * 12) U
 fg : Flat wz ag (N * 1) G
 bel : Below w.heap.size w wz
theorem Lg.on {w wz w' : World} {al ag : Option Addr} {n N : Nat} {U G : Nat → Int} (h : Lg w wz al n U ag N G) (hb : Below wz.heap.size wz w') : Lg w w' al n U ag N G := ⟨h.fl.below hb, h.fg.below hb, h.bel.trans (hb.mono h.bel.size)⟩
theorem Lg.dr {w wz : World} {al ag : Option Addr} {n N : Nat} {U G : Nat → Int} (h : Lg w wz al n U ag N G) : Lg w wz.drew al n U ag N G := h.on (Below.drew (Below.refl _ _))
def conR (n : Nat) (U : Nat → Int) : List Int := bif bodsB n U then conL (colOf U) n else []
theorem OutL.nil {w : World} {t k : Nat} {R : Nat → Int} : OutL w w t k none 0 0 R := ⟨Below.refl _ _, OwnL.nil _ _ _ _ _⟩
theorem contactsI_q (a : Option Addr) (n c : Nat) (U : Nat → Int) (N : Nat) (w : World) (h : Flat w a (n * 12) U) (hn : n ≤ 1048576) (hN : (conR n U).length = N * 5) :
 Calls Tryz.prog 11 #[.slice a n c] w fun e w' => ∃ a' c', e = .returned (.slice a' N c') ∧ OutL w w' 40 5 a' N c' (ofL (conR n U)) := by
 have hset := cset_map
 cases hok : bodsB n U with
 | true =>
  have e0 : conR n U = conL (colOf U) n := by unfold conR; rw [hok]; rfl
  rw [e0] at hN ⊢
  clear e0
  have h12 : n ≤ 12 := by unfold bodsB at hok; rw [Bool.and_eq_true, decide_eq_true_eq] at hok; exact hok.1
  go_enter Tryz.func11, Tryz.ntmps11
  go_wp2_with (first
   | (go_at_call 18; refine (columnsOf_ok a n c U _ h hn hok).mono ?_; rintro e w1 ⟨cb, S, rfl, hcb, hC, hb1⟩)
   | (go_at_call 23; refine (contacts_any cb n (colOf U) S _ hC h12).mono ?_; rintro e w2 ⟨a2, m2, c2, rfl, hl2, hO2⟩))
  go_ret
  obtain rfl : m2 = N := by omega
  exact ⟨a2, c2, rfl, hb1.trans (hO2.bel.mono hb1.size), hO2.own.base hb1.size⟩
 | false =>
  have e0 : conR n U = [] := by unfold conR; rw [hok]; rfl
  rw [e0] at hN ⊢
  clear e0
  rw [List.length_nil] at hN
  obtain rfl : N = 0 := by omega
  clear hN
  go_enter Tryz.func11, Tryz.ntmps11
  go_wp2_with (go_at_call 18; refine (columnsOf_no a n c U _ h hn hok).mono ?_; rintro e w1 ⟨rfl, hb1⟩)
  go_ret
  exact ⟨none, 0, rfl, hb1, OwnL.nil _ _ _ _ _⟩
theorem drawGroups_any (a : Option Addr) (len cap : Nat) (w : World) (hb : Bytes w a len cap) :
 Calls Tryz.prog 6 #[.slice a len cap] w fun e w' => ∃ (al : Option Addr) (n c : Nat) (U : Nat → Int), e = .returned (.slice al n c) ∧ LN n U ∧ OutL w w' 34 12 al n c U := by
 have hset := cset_map
 go_enter Tryz.func6, Tryz.ntmps6
 go_wp2_with (first
  | (have _ := hr1; go_at_call 16; refine (l11AnyBodies_k w.heap.size 0 _ (by exact RS.of hr1) (by omega)).mono ?_; rintro e w2 ⟨al, n, c, U, rfl, hL, hD⟩)
  | (go_at_call 17; refine (l1Open_rb _ _ _ _ hb).mono ?_; rintro e w1 ⟨rfl, hr1, hbel⟩))
 go_ret
 first | exact ⟨_, _, _, _, rfl, hL, RB.done hbel hD.bl.done, hD.own.base hbel.size⟩ | exact ⟨_, _, _, rfl, _, hL, RB.done hbel hD.bl.done, hD.own.base hbel.size⟩
theorem most_step {U : Nat → Int} {L : Nat → Nat} (hT : Tops (fxU U) L) (i : Nat) {g : Int} (hg : g = gnum (fxU U) L i) : (-1 ≤ g ∧ g ≤ (cntp (fstB (fxU U) L) i : Int)) ∧ (if (cntp (fstB (fxU U) L) i : Int) - 1 < g then g else (cntp (fstB (fxU U) L) i : Int) - 1) = (cntp (fstB (fxU U) L) (i + 1) : Int) - 1 ∧ (decide (g < 0) = fxU U i) := by
 subst hg
 unfold gnum
 have hle := hT.le i
 cases hf : fxU U i with
 | true =>
  have hb : fstB (fxU U) L i = false := by unfold fstB; rw [hf]; rfl
  rw [if_pos rfl, cntp, hb]
  refine ⟨by omega, ?_, rfl⟩
  rw [if_neg (by omega)]
  simp
 | false =>
  rw [if_neg (by simp)]
  have hu := cntp_up (fstB (fxU U) L) hle
  refine ⟨by omega, ?_, decide_eq_false (by omega)⟩
  by_cases e : L i = i
  · have hb : fstB (fxU U) L i = true := by unfold fstB; rw [hf, decide_eq_true e]; rfl
    rw [e, if_pos (by omega), cntp, hb]
    simp
  · have hb : fstB (fxU U) L i = false := by unfold fstB; rw [decide_eq_false e]; simp
    have hl := cntp_in (fstB (fxU U) L) (show L i < i by omega) (hT.fst hf)
    rw [if_neg (by omega), cntp, hb]
    simp
theorem fnGroups_walk (a : Option Addr) (len cap : Nat) (w : World) (hb : Bytes w a len cap) :
 Calls Tryz.prog 3 #[.slice a len cap] w fun e w' => e = .returned (.bool true) ∧ Below w.heap.size w w' := by
 have hset := cset_map
 go_enter Tryz.func3, Tryz.ntmps3
 go_upto_region 4 with (go_at_call 6; refine (drawGroups_any _ _ _ _ hb).mono ?_; rintro e w1 ⟨al, n, c, U, rfl, hLn, hO⟩)
 · go_wp2_with fail
   go_ret
   exact ⟨rfl, Below.refl _ _⟩
 have hn13 := hLn.1
 have hn1 : n ≤ 1048576 := by omega
 obtain ⟨N, hN⟩ : ∃ N, (grpO n U).length = N := ⟨_, rfl⟩
 have hN12 := grpO_len n U
 have f1 := hO.own.flat
 have hw1 := hO.bel
 go_cut [4] (fun s4 wc => ∃ ag cg, s4 = .slice ag N cg ∧ Lg w wc al n U ag N (ofL (grpO n U)))
 case first =>
  go_wp2_with (go_at_call 7; refine (groupsI_q al n c U N _ f1 hn1 hN).mono ?_; rintro e w2 ⟨ag, cg, rfl, hO2⟩)
  go_meet
  exact ⟨_, _, rfl, f1.below hO2.bel, hO2.own.flat, hw1.trans (hO2.bel.mono hw1.size)⟩
 case rest =>
 obtain ⟨ag, cg, rfl, hL⟩ := hcut
 clear f1 hw1 hO
 cases eb : bodsB n U with
 | false =>
  go_wp2_with (first
   | (have _ := hb4; go_at_call 8; refine (pqInts_same ag a5 N cg c5 _ _ hL5.fg hO5.own.flat (by omega)).mono ?_; rintro e w6 ⟨rfl, hb6⟩)
   | (have _ := hb4; go_at_call 9; refine (groupsS_q al n c U N _ hL4.fl hn1 hN).mono ?_; rintro e w5 ⟨a5, c5, rfl, hO5⟩; have hL5 := hL4.on hO5.bel)
   | (have _ := hb3; go_at_call 10; refine (sBodiesOk_q al n c U _ _ hL3.fl hn1 eb).mono ?_; rintro e w4 ⟨rfl, hb4⟩; have hL4 := hL3.on hb4)
   | (go_at_call 8; refine (pqInts_same ag a2 N cg c2 _ _ hL2.fg hO2.own.flat (by omega)).mono ?_; rintro e w3 ⟨rfl, hb3⟩; have hL3 := hL2.on hb3)
   | (go_at_call 9; refine (groupsS_q al n c U N _ hL.fl hn1 hN).mono ?_; rintro e w2 ⟨a2, c2, rfl, hO2⟩; have hL2 := hL.on hO2.bel))
  go_ret
  exact ⟨rfl, (hL5.on hb6).bel⟩
 | true =>
  have hn12 := bods_n eb
  obtain ⟨hM, hMk⟩ := conN_eq U hn12
  have hCt := con_ct (colOf U) hM
  have hG0 := grpU_eq (U := U) hn12
  have hT0 := lab_tops U (ofL (conL (colOf U) n)) (conN n U)
  have hE0 := fun k A B (hk : k < conN n U) => lab_edge (edg U (ofL (conL (colOf U) n))) (conN n U) k A B hk
  have hX0 := fun (X : Nat → Prop) => lab_set (edg U (ofL (conL (colOf U) n))) X (conN n U)
  obtain ⟨L, hLe⟩ : ∃ L, lab (edg U (ofL (conL (colOf U) n))) (conN n U) = L := ⟨_, rfl⟩
  rw [hLe] at hG0 hT0 hE0 hX0
  clear hLe
  have hNn : n = N := by rw [grpO_y eb] at hN; rw [← hN]; exact (grpL_len _ _ _ _).symm
  subst hNn
  go_upto_region 9 with (first
   | (have _ := hb3; go_at_call 10; refine (sBodiesOk_q al n c U _ _ hL3.fl hn1 eb).mono ?_; rintro e w4 ⟨rfl, hb4⟩; have hL4 := hL3.on hb4)
   | (go_at_call 8; refine (pqInts_same ag a2 n cg c2 _ _ hL2.fg hO2.own.flat (by omega)).mono ?_; rintro e w3 ⟨rfl, hb3⟩; have hL3 := hL2.on hb3)
   | (go_at_call 9; refine (groupsS_q al n c U n _ hL.fl hn1 hN).mono ?_; rintro e w2 ⟨a2, c2, rfl, hO2⟩; have hL2 := hL.on hO2.bel))
  rw [grpO_y eb] at hL4
  clear hL hO2 hL2 hb3 hL3 hb4 hN hN12
  generalize ofL (grpU n U) = G at hG0 hL4
  have hG : Shut (∀ j, j < n → G j = gnum (fxU U) L j) := hG0
  have hT : Shut (Tops (fxU U) L) := hT0
  have hED : Shut (∀ k A B, k < conN n U → edg U (ofL (conL (colOf U) n)) k = some (A, B) → L A = L B) := hE0
  have hXS : Shut (∀ X : Nat → Prop, (∀ i A B, i < conN n U → edg U (ofL (conL (colOf U) n)) i = some (A, B) → (X A ↔ X B)) → ∀ j, X (L j) ↔ X j) := hX0
  clear hG0 hT0 hE0 hX0
  go_loopw [5, 6] (fun s5 s6 wr => ∃ (i : Nat) (ms : Int), i ≤ n ∧ s6 = .int .i64 (i : Int) ∧ s5 = .int .i64 ms ∧ ms = (cntp (fstB (fxU U) L) i : Int) - 1 ∧ Lg w wr al n U ag n G) (fun _ s6 _ => n - (intOf s6).toNat)
  case atStart => exact ⟨0, _, Nat.zero_le _, rfl, rfl, rfl, hL4⟩
  case round =>
   clear hL4
   obtain ⟨i, ms, hi, rfl, rfl, hms, hL⟩ := hrel
   by_cases hlt : i < n
   · have hin : (i : Int) < (n : Int) := by omega
     obtain ⟨⟨q1, q2⟩, q3, q4⟩ := most_step hT.out i (hG.out i hlt)
     have hcl := cntp_le (fstB (fxU U) L) i
     have q5 : Shut ((cntp (fstB (fxU U) L) i : Int) - 1 = ms) := hms.symm
     rw [← hms] at q3
     have q6 : G i ≤ ms + 1 := by omega
     have hm1 : -1 ≤ ms := by omega
     have hm2 : ms ≤ 12 := by omega
     have q3' : Shut ((if ms < G i then G i else ms) = (cntp (fstB (fxU U) L) (i + 1) : Int) - 1) := q3
     clear q3 hms q2 hcl
     obtain ⟨b0, o0, e0, hb0l, hc0⟩ := hL.fl (by omega)
     obtain ⟨b3, o3, e3, hb3l, hc3⟩ := hL.fg (by omega)
     have r0 : wr.cell? ⟨b3, o3 + i, none⟩ = some (.int .i64 (G i)) := hc3 i (by omega)
     have m0 : wr.cell? ⟨b0, o0 + i * 12 + 8, none⟩ = some (.int .i64 (U (i * 12 + 8))) := by have q := hc0 (i * 12 + 8) (by omega); simpa [Nat.add_assoc] using q
     clear hc0 hc3
     subst e0 e3
     have hw1 : IntKind.i64.wrap (ms + 1) = ms + 1 := i64w (by omega)
     have g1 : ¬ ms + 1 < G i := by omega
     have g2 : ¬ G i < -1 := by omega
     have q7 : Shut (fxU U i = decide (U (i * 12 + 8) = 0)) := rfl
     cases hfx : fxU U i with
     | true =>
      rw [hfx] at q4 q7
      have g3 : G i < 0 := of_decide_eq_true q4
      have g4 : (U (i * 12 + 8) == 0) = true := beq_iff_eq.2 (of_decide_eq_true q7.out.symm)
      clear q4 q7
      have g5 : ¬ ms < G i := by omega
      rw [if_neg g5] at q3'
      go_upto_region 11 with fail
      refine wp_region_held_drew (S := fun w' => w'.cell? ⟨b3, o3 + i, none⟩ = some (.int .i64 (G i)) ∧ w'.cell? ⟨b0, o0 + i * 12 + 8, none⟩ = some (.int .i64 (U (i * 12 + 8)))) (by kernel_rfl) ?_ (fun hHeld => ?_)
      · (try dsimp only)
        (first | (go_simp; done) | (go_keep; done))
      refine tq 0 hHeld ?_
      refine tq 1 hHeld ?_
      refine tq 2 hHeld ?_
      refine tq 3 hHeld ?_
      refine tq 4 hHeld ?_
      refine tq 5 hHeld ?_
      refine tq 6 hHeld ?_
      refine tq 7 hHeld ?_
      refine tq 8 hHeld ?_
      refine tq 9 hHeld ?_
      refine tq 10 hHeld ?_
      refine tq 11 hHeld ?_
      refine tq 12 hHeld ?_
      refine tq 13 hHeld ?_
      refine tq 14 hHeld ?_
      refine tq 15 hHeld ?_
      refine tq 16 hHeld ?_
      refine tq 17 hHeld ?_
      refine tq 18 hHeld ?_
      refine tq 19 hHeld ?_
      refine tq 20 hHeld ?_
      refine tq 21 hHeld ?_
      refine tq 22 hHeld ?_
      refine tq 23 hHeld ?_
      refine tq 24 hHeld ?_
      refine tq 25 hHeld ?_
      refine tq 26 hHeld ?_
      refine tq 27 hHeld ?_
      refine wpAnyH_done (by kernel_rfl) ?_ _
      go_wp2_with fail
      go_roundw
      case rel => exact ⟨i + 1, ms, by omega, by go_num, rfl, q3'.out, hL.dr⟩
      case measure => simp [intOf]; omega
     | false =>
      rw [hfx] at q4 q7
      have g3 : ¬ G i < 0 := of_decide_eq_false q4
      have g4 : (U (i * 12 + 8) == 0) = false := beq_eq_false_iff_ne.2 (of_decide_eq_false q7.out.symm)
      clear q4 q7
      by_cases g5 : ms < G i
      · rw [if_pos g5] at q3'
        go_upto_region 11 with fail
        refine wp_region_held_drew (S := fun w' => w'.cell? ⟨b3, o3 + i, none⟩ = some (.int .i64 (G i)) ∧ w'.cell? ⟨b0, o0 + i * 12 + 8, none⟩ = some (.int .i64 (U (i * 12 + 8)))) (by kernel_rfl) ?_ (fun hHeld => ?_)
        · (try dsimp only)
          (first | (go_simp; done) | (go_keep; done))
        refine tq 0 hHeld ?_
        refine tq 1 hHeld ?_
        refine tq 2 hHeld ?_
        refine tq 3 hHeld ?_
        refine tq 4 hHeld ?_
        refine tq 5 hHeld ?_
        refine tq 6 hHeld ?_
        refine tq 7 hHeld ?_
        refine tq 8 hHeld ?_
        refine tq 9 hHeld ?_
        refine tq 10 hHeld ?_
        refine tq 11 hHeld ?_
        refine tq 12 hHeld ?_
        refine tq 13 hHeld ?_
        refine tq 14 hHeld ?_
        refine tq 15 hHeld ?_
        refine tq 16 hHeld ?_
        refine tq 17 hHeld ?_
        refine tq 18 hHeld ?_
        refine tq 19 hHeld ?_
        refine tq 20 hHeld ?_
        refine tq 21 hHeld ?_
        refine tq 22 hHeld ?_
        refine tq 23 hHeld ?_
        refine tq 24 hHeld ?_
        refine tq 25 hHeld ?_
        refine tq 26 hHeld ?_
        refine tq 27 hHeld ?_
        refine wpAnyH_done (by kernel_rfl) ?_ _
        go_wp2_with fail
        go_roundw
        case rel => exact ⟨i + 1, G i, by omega, by go_num, rfl, q3'.out, hL.dr⟩
        case measure => simp [intOf]; omega
      · rw [if_neg g5] at q3'
        go_upto_region 11 with fail
        refine wp_region_held_drew (S := fun w' => w'.cell? ⟨b3, o3 + i, none⟩ = some (.int .i64 (G i)) ∧ w'.cell? ⟨b0, o0 + i * 12 + 8, none⟩ = some (.int .i64 (U (i * 12 + 8)))) (by kernel_rfl) ?_ (fun hHeld => ?_)
        · (try dsimp only)
          (first | (go_simp; done) | (go_keep; done))
        refine tq 0 hHeld ?_
        refine tq 1 hHeld ?_
        refine tq 2 hHeld ?_
        refine tq 3 hHeld ?_
        refine tq 4 hHeld ?_
        refine tq 5 hHeld ?_
        refine tq 6 hHeld ?_
        refine tq 7 hHeld ?_
        refine tq 8 hHeld ?_
        refine tq 9 hHeld ?_
        refine tq 10 hHeld ?_
        refine tq 11 hHeld ?_
        refine tq 12 hHeld ?_
        refine tq 13 hHeld ?_
        refine tq 14 hHeld ?_
        refine tq 15 hHeld ?_
        refine tq 16 hHeld ?_
        refine tq 17 hHeld ?_
        refine tq 18 hHeld ?_
        refine tq 19 hHeld ?_
        refine tq 20 hHeld ?_
        refine tq 21 hHeld ?_
        refine tq 22 hHeld ?_
        refine tq 23 hHeld ?_
        refine tq 24 hHeld ?_
        refine tq 25 hHeld ?_
        refine tq 26 hHeld ?_
        refine tq 27 hHeld ?_
        refine wpAnyH_done (by kernel_rfl) ?_ _
        go_wp2_with fail
        go_roundw
        case rel => exact ⟨i + 1, ms, by omega, by go_num, rfl, q3'.out, hL.dr⟩
        case measure => simp [intOf]; omega
   · obtain rfl : n = i := by omega
     obtain ⟨M, hMe⟩ : ∃ M, conN n U = M := ⟨_, rfl⟩
     rw [hMe] at hM hMk hCt hED
     have hcR : (conR n U).length = M * 5 := by unfold conR; rw [eb]; exact hM
     have hcE : conR n U = conL (colOf U) n := by unfold conR; rw [eb]; rfl
     clear hMe hXS
     go_upto_region 17 with (go_at_call 11; refine (contactsI_q al n c U M _ hL.fl hn1 hcR).mono ?_; rintro e w5 ⟨ac, cc, rfl, hO5⟩; rw [hcE] at hO5)
     have hL5 := hL.on hO5.bel
     have hfc := hO5.own.flat
     clear hcR hcE hM hL hO5
     generalize ofL (conL (colOf U) n) = C at hCt hED hfc
     go_loopw [8, 9, 10] (fun s8 _ _ wr => ∃ k : Nat, k ≤ M ∧ s8 = .int .i64 (k : Int) ∧ Lg w wr al n U ag n G ∧ Flat wr ac (M * 5) C) (fun s8 _ _ _ => M - (intOf s8).toNat)
     case atStart => exact ⟨0, Nat.zero_le _, rfl, hL5, hfc⟩
     case round =>
      clear hL5 hfc
      obtain ⟨k, hk, rfl, hL5, hfc⟩ := hrel
      by_cases hkl : k < M
      · have hkM : (k : Int) < (M : Int) := by omega
        have ca := hCt.a k hkl
        have cb2 := hCt.b k hkl
        obtain ⟨b1, o1, e1, hbl1, hc1⟩ := hfc (by omega)
        obtain ⟨b3, o3, e3, hb3l, hc3⟩ := hL5.fg (by omega)
        have r0 := hc1 (k * 5) (by omega)
        have r1 := hc1 (k * 5 + 1) (by omega)
        simp only [← Nat.add_assoc] at r0 r1
        obtain ⟨A, hA⟩ : ∃ A : Nat, C (k * 5) = (A : Int) := ⟨(C (k * 5)).toNat, by omega⟩
        obtain ⟨B, hBB⟩ : ∃ B : Nat, C (k * 5 + 1) = (B : Int) := ⟨(C (k * 5 + 1)).toNat, by omega⟩
        have hd : edg U C k = if U (A * 12 + 8) ≠ 0 ∧ U (B * 12 + 8) ≠ 0 then some (A, B) else none := by unfold edg; rw [hA, hBB]; rfl
        rw [hA] at ca r0
        rw [hBB] at cb2 r1
        clear hA hBB
        have hAn : A < n := by omega
        have hBn : B < n := by omega
        have hAi : (A : Int) < (n : Int) := by omega
        have hBi : (B : Int) < (n : Int) := by omega
        have gA : wr.cell? ⟨b3, o3 + A, none⟩ = some (.int .i64 (G A)) := hc3 A (by omega)
        have gB : wr.cell? ⟨b3, o3 + B, none⟩ = some (.int .i64 (G B)) := hc3 B (by omega)
        subst e1 e3
        clear hc1 hc3
        have hgA := hG.out A hAn
        have hgB := hG.out B hBn
        have hno : ¬ (0 ≤ G A ∧ 0 ≤ G B ∧ G A ≠ G B) := by
         rintro ⟨x, y, z⟩
         have nA : ¬ U (A * 12 + 8) = 0 := fun q => by
          have : gnum (fxU U) L A = -1 := if_pos (decide_eq_true q)
          omega
         have nB : ¬ U (B * 12 + 8) = 0 := fun q => by
          have : gnum (fxU U) L B = -1 := if_pos (decide_eq_true q)
          omega
         rw [if_pos ⟨nA, nB⟩] at hd
         have hl := hED.out k A B hkl hd
         apply z
         rw [hgA, hgB]
         unfold gnum
         rw [if_neg (by show ¬ decide (U (A * 12 + 8) = 0) = true; simp [nA]), if_neg (by show ¬ decide (U (B * 12 + 8) = 0) = true; simp [nB]), hl]
        clear hgA hgB hd
        generalize G A = x at gA hno
        generalize G B = y at gB hno
        by_cases hx : 0 ≤ x
        · by_cases hy : 0 ≤ y
          · have hxy : x = y := Classical.byContradiction fun q => hno ⟨hx, hy, q⟩
            subst hxy
            have e0 : (x != x) = false := by simp
            go_wp2_with fail
            go_roundw
            case rel => exact ⟨k + 1, by omega, by go_num, by first | exact hL5 | exact hL5.dr | exact hL5.dr.dr, hfc⟩
            case measure => simp [intOf]; omega
          · go_wp2_with fail
            go_roundw
            case rel => exact ⟨k + 1, by omega, by go_num, by first | exact hL5 | exact hL5.dr | exact hL5.dr.dr, hfc⟩
            case measure => simp [intOf]; omega
        · go_wp2_with fail
          go_roundw
          case rel => exact ⟨k + 1, by omega, by go_num, by first | exact hL5 | exact hL5.dr | exact hL5.dr.dr, hfc⟩
          case measure => simp [intOf]; omega
      · obtain rfl : k = M := by omega
        go_wp2_with fail
        go_ret
        exact ⟨rfl, hL5.bel⟩
end Go.Proofs.YtalkkjhehndaoaaGreat
