/- Texts of a proof. -/
import Derived.Test.YtmnhankcbkfhaaaGreatDoorS9p
import Derived.Test.YtmnhankcbkfhaaaGreatDoorB17
import Derived.Deep.RegionHeld3
import Derived.Deep.DeepCutAuto
import Derived.Test.YtmnhankcbkfhaaaGreatDoorB4
import Derived.Test.YtmnhankcbkfhaaaGreatDoorB11
import Derived.Test.YtmnhankcbkfhaaaGreatDoorB1
import Derived.Test.YtmnhankcbkfhaaaGreatDoorB3
import Derived.Test.YtmnhankcbkfhaaaGreatDoorB19
set_option maxHeartbeats 16000000
set_option maxRecDepth 20000
namespace Go.Proofs.YtmnhankcbkfhaaaGreatDoor
open Go.RowKit
set_option linter.unusedVariables false
set_option linter.unusedSimpArgs false
theorem sp_bd {V : Nat → Int} (b6 : -20000000 ≤ V 6 ∧ V 6 ≤ 20000000) (b7 : -20000000 ≤ V 7 ∧ V 7 ≤ 20000000) : (-20000000 ≤ spX V ∧ spX V ≤ 20000000) ∧ (-20000000 ≤ spY V ∧ spY V ≤ 20000000) := by
 have t6 := tdiv_bd (x := V 6) (B := 20000000) (V 8) (by omega)
 have t7 := tdiv_bd (x := V 7) (B := 20000000) (V 8) (by omega)
 unfold spX spY
 by_cases m : V 8 = 0
 · rw [if_pos m, if_pos m]; omega
 · rw [if_neg m, if_neg m]; omega
def goV (V : Nat → Int) : Nat → Int := bif liveV V then moveV V (spX V) (spY V) else V
theorem own12m {w : World} {base t g n c k : Nat} {f : Nat → (Nat → Int) → Nat → Int} {U : Nat → Int} (h : OwnL w base t 12 (.slice (some ⟨g, 0, none⟩) n c) n (mapR f U k)) (hk : k < n) :
 w.cell? ⟨g, k * 12, none⟩ = some (.int .i64 (U (k * 12))) ∧ w.cell? ⟨g, k * 12 + 1, none⟩ = some (.int .i64 (U (k * 12 + 1))) ∧ w.cell? ⟨g, k * 12 + 2, none⟩ = some (.int .i64 (U (k * 12 + 2))) ∧ w.cell? ⟨g, k * 12 + 3, none⟩ = some (.int .i64 (U (k * 12 + 3))) ∧ w.cell? ⟨g, k * 12 + 4, none⟩ = some (.int .i64 (U (k * 12 + 4))) ∧ w.cell? ⟨g, k * 12 + 5, none⟩ = some (.int .i64 (U (k * 12 + 5))) ∧ w.cell? ⟨g, k * 12 + 6, none⟩ = some (.int .i64 (U (k * 12 + 6))) ∧ w.cell? ⟨g, k * 12 + 7, none⟩ = some (.int .i64 (U (k * 12 + 7))) ∧ w.cell? ⟨g, k * 12 + 8, none⟩ = some (.int .i64 (U (k * 12 + 8))) ∧ w.cell? ⟨g, k * 12 + 9, none⟩ = some (.int .i64 (U (k * 12 + 9))) ∧ w.cell? ⟨g, k * 12 + 10, none⟩ = some (.int .i64 (U (k * 12 + 10))) ∧ w.cell? ⟨g, k * 12 + 11, none⟩ = some (.int .i64 (U (k * 12 + 11))) :=
 have q : ∀ j, j < 12 → w.cell? ⟨g, k * 12 + j, none⟩ = some (.int .i64 (U (k * 12 + j))) := fun j hj => by
  have q := h.cellq (q := k * 12 + j) (by omega)
  rw [mapR_row] at q
  exact q
 ⟨q 0 (by decide), q 1 (by decide), q 2 (by decide), q 3 (by decide), q 4 (by decide), q 5 (by decide), q 6 (by decide), q 7 (by decide), q 8 (by decide), q 9 (by decide), q 10 (by decide), q 11 (by decide)⟩
theorem l9Moves_any (a : Option Addr) (n c : Nat) (U : Nat → Int) (w : World) (h : Flat w a (n * 12) U) (hn : n ≤ 1048576) (hbb : Bods n U) :
 Calls Tryz.prog 31 #[.slice a n c] w fun e w' => ∃ a1 c1, e = .returned (.slice a1 n c1) ∧ OutL w w' 39 12 a1 n c1 (mapR (fun _ V => goV V) U n) := by
 have hset := cset_map
 go_enter Tryz.func31, Tryz.ntmps31
 go_upto_region 1 with fail
 go_cut [3] (fun s0 wc => ∃ a1 c1, s0 = .slice a1 n c1 ∧ OutL w wc 39 12 a1 n c1 U)
 case first =>
  go_wp2_with (go_at_call 19; refine (l8Copy_any a n c U _ h hn).mono ?_; rintro e w3 ⟨a1, c1, rfl, hO⟩)
  go_meet
  exact ⟨_, _, rfl, hO⟩
 case rest =>
 obtain ⟨a1, c1, rfl, hO⟩ := hcut
 go_upto_region 3 with fail
 go_loopw [4] (fun s wr => ∃ k : Nat, k ≤ n ∧ s = .int .i64 (k : Int) ∧ OutL w wr 39 12 a1 n c1 (mapR (fun _ V => goV V) U k)) (fun s _ => n - (intOf s).toNat)
 case atStart => exact ⟨0, Nat.zero_le _, rfl, by rw [mapR_0]; exact hO⟩
 case round =>
  clear hO
  obtain ⟨k, hk, rfl, hO⟩ := hrel
  by_cases hlt : k < n
  · have hkn : (k : Int) < (n : Int) := by omega
    obtain ⟨g, rfl, hg1, hg2⟩ := hO.own.loc (by omega)
    have d0 : wr.cell? ⟨g, k * 12, none⟩ = some (.int .i64 (U (k * 12))) := by have q := hO.own.cellq (q := k * 12 + 0) (by omega); rw [mapR_row] at q; exact q
    have d1 : wr.cell? ⟨g, k * 12 + 1, none⟩ = some (.int .i64 (U (k * 12 + 1))) := by have q := hO.own.cellq (q := k * 12 + 1) (by omega); rw [mapR_row] at q; exact q
    have d2 : wr.cell? ⟨g, k * 12 + 2, none⟩ = some (.int .i64 (U (k * 12 + 2))) := by have q := hO.own.cellq (q := k * 12 + 2) (by omega); rw [mapR_row] at q; exact q
    have d3 : wr.cell? ⟨g, k * 12 + 3, none⟩ = some (.int .i64 (U (k * 12 + 3))) := by have q := hO.own.cellq (q := k * 12 + 3) (by omega); rw [mapR_row] at q; exact q
    have d4 : wr.cell? ⟨g, k * 12 + 4, none⟩ = some (.int .i64 (U (k * 12 + 4))) := by have q := hO.own.cellq (q := k * 12 + 4) (by omega); rw [mapR_row] at q; exact q
    have d5 : wr.cell? ⟨g, k * 12 + 5, none⟩ = some (.int .i64 (U (k * 12 + 5))) := by have q := hO.own.cellq (q := k * 12 + 5) (by omega); rw [mapR_row] at q; exact q
    have d6 : wr.cell? ⟨g, k * 12 + 6, none⟩ = some (.int .i64 (U (k * 12 + 6))) := by have q := hO.own.cellq (q := k * 12 + 6) (by omega); rw [mapR_row] at q; exact q
    have d7 : wr.cell? ⟨g, k * 12 + 7, none⟩ = some (.int .i64 (U (k * 12 + 7))) := by have q := hO.own.cellq (q := k * 12 + 7) (by omega); rw [mapR_row] at q; exact q
    have d8 : wr.cell? ⟨g, k * 12 + 8, none⟩ = some (.int .i64 (U (k * 12 + 8))) := by have q := hO.own.cellq (q := k * 12 + 8) (by omega); rw [mapR_row] at q; exact q
    have d9 : wr.cell? ⟨g, k * 12 + 9, none⟩ = some (.int .i64 (U (k * 12 + 9))) := by have q := hO.own.cellq (q := k * 12 + 9) (by omega); rw [mapR_row] at q; exact q
    have d10 : wr.cell? ⟨g, k * 12 + 10, none⟩ = some (.int .i64 (U (k * 12 + 10))) := by have q := hO.own.cellq (q := k * 12 + 10) (by omega); rw [mapR_row] at q; exact q
    have d11 : wr.cell? ⟨g, k * 12 + 11, none⟩ = some (.int .i64 (U (k * 12 + 11))) := by have q := hO.own.cellq (q := k * 12 + 11) (by omega); rw [mapR_row] at q; exact q
    have df := hO.own.fro
    obtain ⟨_, _, bd4, bd5, bd6, bd7, _⟩ := bodyB_bd (hbb.ok k hlt)
    obtain ⟨sbx, sby⟩ := sp_bd (V := (fun j => U (k * 12 + j))) bd6 bd7
    obtain ⟨SL, hSL⟩ : ∃ b, decide (8 ≤ (fun j => U (k * 12 + j)) 11) = b := ⟨_, rfl⟩
    by_cases hm : 0 < U (k * 12 + 8)
    · cases SL with
      | true =>
       have HNO : Shut (mapR (fun _ V => goV V) U (k + 1) = mapR (fun _ V => goV V) U k) := mapR_same (fun j hj => by show goV (fun j => U (k * 12 + j)) j = _; unfold goV; rw [live_s hSL]; rfl)
       go_wp2_with (go_at_call 49; refine (l6Sleeps_k (fun j => U (k * 12 + j)) _ true hSL).mono ?_; rintro e w4 ⟨rfl, hb4⟩)
       go_roundw
       case rel => exact ⟨k + 1, by omega, by go_num, by rw [HNO.out]; exact hO.on hb4⟩
       case measure => simp [intOf]; omega
      | false =>
       have HS : Shut (putRow (mapR (fun _ V => goV V) U k) k (moveV (fun j => U (k * 12 + j)) (spX (fun j => U (k * 12 + j))) (spY (fun j => U (k * 12 + j)))) = mapR (fun _ V => goV V) U (k + 1)) := by
        show _ = _
        rw [← mapR_set]
        congr 1
        show _ = goV (fun j => U (k * 12 + j))
        unfold goV
        rw [live_t (V := (fun j => U (k * 12 + j))) hm hSL]
        rfl
       go_upto_region 6 with (go_at_call 49; refine (l6Sleeps_k (fun j => U (k * 12 + j)) _ false hSL).mono ?_; rintro e w4 ⟨rfl, hb4⟩)
       have hO4 := hO.on hb4
       clear hO df d0 d1 d2 d3 d4 d5 d6 d7 d8 d9 d10 d11
       have hO := hO4
       clear hO4 hb4
       have d0 : w4.cell? ⟨g, k * 12, none⟩ = some (.int .i64 (U (k * 12))) := by have q := hO.own.cellq (q := k * 12 + 0) (by omega); rw [mapR_row] at q; exact q
       have d1 : w4.cell? ⟨g, k * 12 + 1, none⟩ = some (.int .i64 (U (k * 12 + 1))) := by have q := hO.own.cellq (q := k * 12 + 1) (by omega); rw [mapR_row] at q; exact q
       have d2 : w4.cell? ⟨g, k * 12 + 2, none⟩ = some (.int .i64 (U (k * 12 + 2))) := by have q := hO.own.cellq (q := k * 12 + 2) (by omega); rw [mapR_row] at q; exact q
       have d3 : w4.cell? ⟨g, k * 12 + 3, none⟩ = some (.int .i64 (U (k * 12 + 3))) := by have q := hO.own.cellq (q := k * 12 + 3) (by omega); rw [mapR_row] at q; exact q
       have d4 : w4.cell? ⟨g, k * 12 + 4, none⟩ = some (.int .i64 (U (k * 12 + 4))) := by have q := hO.own.cellq (q := k * 12 + 4) (by omega); rw [mapR_row] at q; exact q
       have d5 : w4.cell? ⟨g, k * 12 + 5, none⟩ = some (.int .i64 (U (k * 12 + 5))) := by have q := hO.own.cellq (q := k * 12 + 5) (by omega); rw [mapR_row] at q; exact q
       have d6 : w4.cell? ⟨g, k * 12 + 6, none⟩ = some (.int .i64 (U (k * 12 + 6))) := by have q := hO.own.cellq (q := k * 12 + 6) (by omega); rw [mapR_row] at q; exact q
       have d7 : w4.cell? ⟨g, k * 12 + 7, none⟩ = some (.int .i64 (U (k * 12 + 7))) := by have q := hO.own.cellq (q := k * 12 + 7) (by omega); rw [mapR_row] at q; exact q
       have d8 : w4.cell? ⟨g, k * 12 + 8, none⟩ = some (.int .i64 (U (k * 12 + 8))) := by have q := hO.own.cellq (q := k * 12 + 8) (by omega); rw [mapR_row] at q; exact q
       have d9 : w4.cell? ⟨g, k * 12 + 9, none⟩ = some (.int .i64 (U (k * 12 + 9))) := by have q := hO.own.cellq (q := k * 12 + 9) (by omega); rw [mapR_row] at q; exact q
       have d10 : w4.cell? ⟨g, k * 12 + 10, none⟩ = some (.int .i64 (U (k * 12 + 10))) := by have q := hO.own.cellq (q := k * 12 + 10) (by omega); rw [mapR_row] at q; exact q
       have d11 : w4.cell? ⟨g, k * 12 + 11, none⟩ = some (.int .i64 (U (k * 12 + 11))) := by have q := hO.own.cellq (q := k * 12 + 11) (by omega); rw [mapR_row] at q; exact q
       refine wp_region_held_drew (S := fun w' => (1 : Nat) ≤ 2) (by kernel_rfl) ?_ (fun hHeld => ?_)
       · (try dsimp only)
         (first | (go_simp; done) | (go_keep; done))
       refine tq 0 hHeld ?_
       refine tq 1 hHeld ?_
       refine tq 2 hHeld ?_
       refine tq 3 hHeld ?_
       refine tq 4 hHeld ?_
       refine tq 6 hHeld ?_
       refine tq 7 hHeld ?_
       refine tq 8 hHeld ?_
       refine wpAnyH_ready (rs := [5, 9]) (by kernel_rfl) (by simp) ?_
       refine AllReadyH.cons rfl (fun K hK => ?_) (AllReadyH.cons rfl (fun K hK => ?_) AllReadyH.nil)
       · (go_simp; refine tr hK (fun hHeld => ?_); clear hK K)
         refine tc 9 fun K hK => ?_
         (go_simp; refine tr hK (fun hHeld => ?_); clear hK K)
         refine tc 10 fun K hK => ?_
         (go_simp; (go_at_call 54; refine (l6Speed_any (fun j => U (k * 12 + j)) _ bd6 bd7).mono ?_; rintro e w5 ⟨rfl, hb5⟩; have hO5 := hO.on hb5.ofDr; have uf5 := hO5.own.fro; obtain ⟨u5_0, u5_1, u5_2, u5_3, u5_4, u5_5, u5_6, u5_7, u5_8, u5_9, u5_10, u5_11⟩ := own12m hO5.own (by omega)); (try go_wp2_with fail); refine tr hK (fun hHeld => ?_); clear hK K)
         refine tc 11 fun K hK => ?_
         (go_simp; (go_at_call 53; refine (l6Move_any (fun j => U (k * 12 + j)) (spX (fun j => U (k * 12 + j))) (spY (fun j => U (k * 12 + j))) _ bd4 bd5 sbx sby).mono ?_; rintro e w6 ⟨rfl, hb6⟩; have hO6 := hO5.on hb6; have uf6 := hO6.own.fro; obtain ⟨u6_0, u6_1, u6_2, u6_3, u6_4, u6_5, u6_6, u6_7, u6_8, u6_9, u6_10, u6_11⟩ := own12m hO6.own (by omega)); (try go_wp2_with fail); refine tr hK (fun hHeld => ?_); clear hK K)
         refine tq 12 hHeld ?_
         refine tc 13 fun K hK => ?_
         (go_simp; refine tr hK (fun hHeld => ?_); clear hK K)
         refine wpAnyH_done (by kernel_rfl) ?_ _
         go_wp2_with fail
         have hq := put12 hO6.own hlt (moveV (fun j => U (k * 12 + j)) (spX (fun j => U (k * 12 + j))) (spY (fun j => U (k * 12 + j))))
         rw [HS.out] at hq
         have hqb := (putFr (w4 := w6) (g := g) (p := k) (moveV (fun j => U (k * 12 + j)) (spX (fun j => U (k * 12 + j))) (spY (fun j => U (k * 12 + j))))).below (B := w.heap.size) hO6.bel.size (fun b e => by omega)
         go_roundw
         case rel => exact ⟨k + 1, by omega, by go_num, hO6.bel.trans hqb, hq⟩
         case measure => simp [intOf]; omega
       · (go_simp; refine tr hK (fun hHeld => ?_); clear hK K)
         refine wpAnyH_ready (rs := [5, 10]) (by kernel_rfl) (by simp) ?_
         refine AllReadyH.cons rfl (fun K hK => ?_) (AllReadyH.cons rfl (fun K hK => ?_) AllReadyH.nil)
         · (go_simp; refine tr hK (fun hHeld => ?_); clear hK K)
           refine tc 10 fun K hK => ?_
           (go_simp; (go_at_call 54; refine (l6Speed_any (fun j => U (k * 12 + j)) _ bd6 bd7).mono ?_; rintro e w5 ⟨rfl, hb5⟩; have hO5 := hO.on hb5.ofDr; have uf5 := hO5.own.fro; obtain ⟨u5_0, u5_1, u5_2, u5_3, u5_4, u5_5, u5_6, u5_7, u5_8, u5_9, u5_10, u5_11⟩ := own12m hO5.own (by omega)); (try go_wp2_with fail); refine tr hK (fun hHeld => ?_); clear hK K)
           refine tc 11 fun K hK => ?_
           (go_simp; (go_at_call 53; refine (l6Move_any (fun j => U (k * 12 + j)) (spX (fun j => U (k * 12 + j))) (spY (fun j => U (k * 12 + j))) _ bd4 bd5 sbx sby).mono ?_; rintro e w6 ⟨rfl, hb6⟩; have hO6 := hO5.on hb6; have uf6 := hO6.own.fro; obtain ⟨u6_0, u6_1, u6_2, u6_3, u6_4, u6_5, u6_6, u6_7, u6_8, u6_9, u6_10, u6_11⟩ := own12m hO6.own (by omega)); (try go_wp2_with fail); refine tr hK (fun hHeld => ?_); clear hK K)
           refine tq 12 hHeld ?_
           refine tc 13 fun K hK => ?_
           (go_simp; refine tr hK (fun hHeld => ?_); clear hK K)
           refine wpAnyH_done (by kernel_rfl) ?_ _
           go_wp2_with fail
           have hq := put12 hO6.own hlt (moveV (fun j => U (k * 12 + j)) (spX (fun j => U (k * 12 + j))) (spY (fun j => U (k * 12 + j))))
           rw [HS.out] at hq
           have hqb := (putFr (w4 := w6) (g := g) (p := k) (moveV (fun j => U (k * 12 + j)) (spX (fun j => U (k * 12 + j))) (spY (fun j => U (k * 12 + j))))).below (B := w.heap.size) hO6.bel.size (fun b e => by omega)
           go_roundw
           case rel => exact ⟨k + 1, by omega, by go_num, hO6.bel.trans hqb, hq⟩
           case measure => simp [intOf]; omega
         · (go_simp; (go_at_call 54; refine (l6Speed_any (fun j => U (k * 12 + j)) _ bd6 bd7).mono ?_; rintro e w5 ⟨rfl, hb5⟩; have hO5 := hO.on hb5.ofDr; have uf5 := hO5.own.fro; obtain ⟨u5_0, u5_1, u5_2, u5_3, u5_4, u5_5, u5_6, u5_7, u5_8, u5_9, u5_10, u5_11⟩ := own12m hO5.own (by omega)); (try go_wp2_with fail); refine tr hK (fun hHeld => ?_); clear hK K)
           refine tc 5 fun K hK => ?_
           (go_simp; refine tr hK (fun hHeld => ?_); clear hK K)
           refine tc 11 fun K hK => ?_
           (go_simp; (go_at_call 53; refine (l6Move_any (fun j => U (k * 12 + j)) (spX (fun j => U (k * 12 + j))) (spY (fun j => U (k * 12 + j))) _ bd4 bd5 sbx sby).mono ?_; rintro e w6 ⟨rfl, hb6⟩; have hO6 := hO5.on hb6; have uf6 := hO6.own.fro; obtain ⟨u6_0, u6_1, u6_2, u6_3, u6_4, u6_5, u6_6, u6_7, u6_8, u6_9, u6_10, u6_11⟩ := own12m hO6.own (by omega)); (try go_wp2_with fail); refine tr hK (fun hHeld => ?_); clear hK K)
           refine tq 12 hHeld ?_
           refine tc 13 fun K hK => ?_
           (go_simp; refine tr hK (fun hHeld => ?_); clear hK K)
           refine wpAnyH_done (by kernel_rfl) ?_ _
           go_wp2_with fail
           have hq := put12 hO6.own hlt (moveV (fun j => U (k * 12 + j)) (spX (fun j => U (k * 12 + j))) (spY (fun j => U (k * 12 + j))))
           rw [HS.out] at hq
           have hqb := (putFr (w4 := w6) (g := g) (p := k) (moveV (fun j => U (k * 12 + j)) (spX (fun j => U (k * 12 + j))) (spY (fun j => U (k * 12 + j))))).below (B := w.heap.size) hO6.bel.size (fun b e => by omega)
           go_roundw
           case rel => exact ⟨k + 1, by omega, by go_num, hO6.bel.trans hqb, hq⟩
           case measure => simp [intOf]; omega
    · have HNO : Shut (mapR (fun _ V => goV V) U (k + 1) = mapR (fun _ V => goV V) U k) := mapR_same (fun j hj => by show goV (fun j => U (k * 12 + j)) j = _; unfold goV; rw [live_m (V := (fun j => U (k * 12 + j))) hm]; rfl)
      go_wp2_with fail
      go_roundw
      case rel => exact ⟨k + 1, by omega, by go_num, by rw [HNO.out]; exact hO⟩
      case measure => simp [intOf]; omega
  · obtain rfl : k = n := by omega
    go_wp2_with fail
    go_ret
    exact ⟨_, _, rfl, hO⟩
structure Hide (p : Prop) : Prop where
 out : p
theorem tdiv_le {x B m : Int} (hm : 0 < m) (hB : 0 ≤ B) (h : -(B * m) ≤ x ∧ x ≤ B * m) : -B ≤ x.tdiv m ∧ x.tdiv m ≤ B := by
 by_cases h0 : 0 ≤ x
 · rw [Int.tdiv_eq_ediv_of_nonneg h0]
   have q1 := Int.ediv_nonneg h0 (Int.le_of_lt hm)
   exact ⟨by omega, Int.ediv_le_of_le_mul hm h.2⟩
 · have e : x.tdiv m = -((-x) / m) := by rw [← Int.tdiv_eq_ediv_of_nonneg (show 0 ≤ -x by omega), Int.neg_tdiv, Int.neg_neg]
   rw [e]
   have q1 := Int.ediv_nonneg (show 0 ≤ -x by omega) (Int.le_of_lt hm)
   have q2 := Int.ediv_le_of_le_mul hm (show -x ≤ B * m by omega)
   omega
def shareV (V W : Nat → Int) (n : Int) : Int := bif decide (V 8 = 0) then 0 else bif decide (W 8 = 0) then n else (n * W 8).tdiv (V 8 + W 8)
theorem share_bd {V W : Nat → Int} {n : Int} (h0 : 0 ≤ V 8) (h1 : 0 ≤ W 8) (hn : 0 ≤ n) : 0 ≤ shareV V W n ∧ shareV V W n ≤ n := by
 unfold shareV
 by_cases m0 : V 8 = 0
 · rw [decide_eq_true m0]; exact ⟨Int.le_refl _, hn⟩
 · rw [decide_eq_false m0]
   by_cases m1 : W 8 = 0
   · rw [decide_eq_true m1]; exact ⟨hn, Int.le_refl _⟩
   · rw [decide_eq_false m1]
     show 0 ≤ (n * W 8).tdiv (V 8 + W 8) ∧ (n * W 8).tdiv (V 8 + W 8) ≤ n
     have p0 : 0 ≤ n * W 8 := Int.mul_nonneg hn h1
     rw [Int.tdiv_eq_ediv_of_nonneg p0]
     refine ⟨Int.ediv_nonneg p0 (by omega), ?_⟩
     refine Int.ediv_le_of_le_mul (by omega) ?_
     exact Int.mul_le_mul_of_nonneg_left (by omega) hn
theorem l8Share_q (V W : Nat → Int) (n x : Int) (w : World) (h0 : 0 ≤ V 8 ∧ V 8 ≤ 1000) (h1 : 0 ≤ W 8 ∧ W 8 ≤ 1000) (hn : -30000 ≤ n ∧ n ≤ 30000) (ex : shareV V W n = x) :
 Calls Tryz.prog 74 #[bodyW V, bodyW W, .int .i64 n] w fun e w' => e = .returned (.int .i64 x) ∧ Below w.heap.size w w' := by
 have hset := cset_map
 have p := mul_bd (a := n) (b := W 8) (A := 30000) (B := 1000) (by omega) (by omega)
 have q := tdiv_bd (x := n * W 8) (B := 30000000) (V 8 + W 8) (by omega)
 have w1 : IntKind.i64.wrap (n * W 8) = n * W 8 := i64w (by omega)
 have w2 : IntKind.i64.wrap (V 8 + W 8) = V 8 + W 8 := i64w (by omega)
 have w3 : IntKind.i64.wrap ((n * W 8).tdiv (V 8 + W 8)) = (n * W 8).tdiv (V 8 + W 8) := i64w (by omega)
 by_cases m0 : V 8 = 0
 · have ex' : x = 0 := by rw [← ex]; unfold shareV; rw [decide_eq_true m0]; rfl
   subst ex'
   have e1 : (V 8 == 0) = true := by simp [m0]
   have M0 : Shut (V 8 = 0) := m0
   clear m0 ex
   go_enter Tryz.func74, Tryz.ntmps74
   go_wp2_with fail
   go_ret
   exact ⟨rfl, bel_a⟩
 · have e1 : (V 8 == 0) = false := by simp [m0]
   by_cases m1 : W 8 = 0
   · have ex' : x = n := by rw [← ex]; unfold shareV; rw [decide_eq_false m0, decide_eq_true m1]; rfl
     subst ex'
     have e2 : (W 8 == 0) = true := by simp [m1]
     have M1 : Shut (W 8 = 0) := m1
     clear m1 ex w1 w2 w3 p q
     go_enter Tryz.func74, Tryz.ntmps74
     go_wp2_with fail
     go_ret
     exact ⟨rfl, bel_a⟩
   · have ex' : (n * W 8).tdiv (V 8 + W 8) = x := by rw [← ex]; unfold shareV; rw [decide_eq_false m0, decide_eq_false m1]; rfl
     have e2 : (W 8 == 0) = false := by simp [m1]
     have e3 : ¬ V 8 + W 8 = 0 := by omega
     clear ex
     go_enter Tryz.func74, Tryz.ntmps74
     go_wp2_with fail
     go_ret
     exact ⟨by first | rfl | (rw [← ex']) | simp [ex'], bel_a⟩
def apartU (U : Nat → Int) (A B : Nat) (X Y D : Int) : Nat → Int :=
 bif decide (0 < (D - 64).tdiv 4) then
  (let U1 := bif decide (0 < U (A * 12 + 8)) then putRow U A (moveV (fun j => U (A * 12 + j)) ((-X * shareV (fun j => U (A * 12 + j)) (fun j => U (B * 12 + j)) ((D - 64).tdiv 4)).tdiv 256) ((-Y * shareV (fun j => U (A * 12 + j)) (fun j => U (B * 12 + j)) ((D - 64).tdiv 4)).tdiv 256)) else U
   bif decide (0 < U (B * 12 + 8)) then putRow U1 B (moveV (fun j => U (B * 12 + j)) ((X * shareV (fun j => U (B * 12 + j)) (fun j => U (A * 12 + j)) ((D - 64).tdiv 4)).tdiv 256) ((Y * shareV (fun j => U (B * 12 + j)) (fun j => U (A * 12 + j)) ((D - 64).tdiv 4)).tdiv 256)) else U1)
 else U
structure Ap8 (w wc : World) (A B : Nat) (X Y D : Int) (ba bb : Nat) (VA VB : Nat → Int) : Prop where
 k0 : wc.cell? ⟨w.heap.size, 0, none⟩ = some (.int .i64 (A : Int))
 k1 : wc.cell? ⟨w.heap.size, 1, none⟩ = some (.int .i64 (B : Int))
 k2 : wc.cell? ⟨w.heap.size, 2, none⟩ = some (.int .i64 X)
 k3 : wc.cell? ⟨w.heap.size, 3, none⟩ = some (.int .i64 Y)
 k4 : wc.cell? ⟨w.heap.size, 4, none⟩ = some (.int .i64 D)
 ca : ∀ j, j < 12 → wc.cell? ⟨ba, j, none⟩ = some (.int .i64 (VA j))
 cb : ∀ j, j < 12 → wc.cell? ⟨bb, j, none⟩ = some (.int .i64 (VB j))
 l0 : w.heap.size < wc.heap.size
 la : ba < wc.heap.size
 lb : bb < wc.heap.size
 ga : w.heap.size < ba
 gb : w.heap.size < bb
theorem Ap8.on {w wc w' : World} {A B : Nat} {X Y D : Int} {ba bb : Nat} {VA VB : Nat → Int} (h : Ap8 w wc A B X Y D ba bb VA VB) (hb : Below wc.heap.size wc w') : Ap8 w w' A B X Y D ba bb VA VB :=
 have k := fun j => hb.cell (p := ⟨w.heap.size, j, none⟩) h.l0
 ⟨(k 0).trans h.k0, (k 1).trans h.k1, (k 2).trans h.k2, (k 3).trans h.k3, (k 4).trans h.k4, fun j hj => (hb.cell (p := ⟨ba, j, none⟩) h.la).trans (h.ca j hj), fun j hj => (hb.cell (p := ⟨bb, j, none⟩) h.lb).trans (h.cb j hj), Nat.lt_of_lt_of_le h.l0 hb.size, Nat.lt_of_lt_of_le h.la hb.size, Nat.lt_of_lt_of_le h.lb hb.size, h.ga, h.gb⟩
theorem Ap8.fr {w wc w' : World} {A B g : Nat} {X Y D : Int} {ba bb : Nat} {VA VB : Nat → Int} (h : Ap8 w wc A B X Y D ba bb VA VB) (hs : Fr (fun b => b = g) wc w') (hg : g < w.heap.size) : Ap8 w w' A B X Y D ba bb VA VB := by
 have ga := h.ga
 have gb := h.gb
 have k := fun j => hs.cell (p := ⟨w.heap.size, j, none⟩) h.l0 (by simp; omega)
 exact ⟨(k 0).trans h.k0, (k 1).trans h.k1, (k 2).trans h.k2, (k 3).trans h.k3, (k 4).trans h.k4, fun j hj => (hs.cell (p := ⟨ba, j, none⟩) h.la (by simp; omega)).trans (h.ca j hj), fun j hj => (hs.cell (p := ⟨bb, j, none⟩) h.lb (by simp; omega)).trans (h.cb j hj), Nat.lt_of_lt_of_le h.l0 hs.size, Nat.lt_of_lt_of_le h.la hs.size, Nat.lt_of_lt_of_le h.lb hs.size, h.ga, h.gb⟩
theorem dentOf_q (x y k : Int) (b : Bool) (w : World) (e : hitB x y k = b) :
 Calls Tryz.prog 152 #[s3 x y k] w fun e w' => e = .returned (.tuple #[s3 x y k, .bool b]) ∧ Below w.heap.size w w' := by
 have hset := cset_map
 go_enter Tryz.func152, Tryz.ntmps152
 go_upto_region 1 with fail
 go_cut [4] (fun s wc => ∃ B, s = .pointer (some ⟨B, 0, none⟩) ∧ wc.cell? ⟨B, 0, none⟩ = some (.int .i64 x) ∧ wc.cell? ⟨B, 1, none⟩ = some (.int .i64 y) ∧ wc.cell? ⟨B, 2, none⟩ = some (.int .i64 k) ∧ wc.cell? ⟨w.heap.size + 1, 0, none⟩ = some (.int .i64 0) ∧ wc.cell? ⟨w.heap.size + 1, 1, none⟩ = some (.int .i64 0) ∧ wc.cell? ⟨w.heap.size + 1, 2, none⟩ = some (.int .i64 0) ∧ wc.frozen? ⟨w.heap.size + 1, 0, none⟩ = false ∧ wc.frozen? ⟨w.heap.size + 1, 1, none⟩ = false ∧ wc.frozen? ⟨w.heap.size + 1, 2, none⟩ = false ∧ w.heap.size + 1 < B ∧ B < wc.heap.size ∧ Below w.heap.size w wc)
 case first =>
  refine wp_region_held_drew (S := fun w' => w'.cell? ⟨w.heap.size, 0, none⟩ = some (.int .i64 x) ∧ w'.cell? ⟨w.heap.size, 1, none⟩ = some (.int .i64 y) ∧ w'.cell? ⟨w.heap.size, 2, none⟩ = some (.int .i64 k)) (by kernel_rfl) ?_ (fun hHeld => ?_)
  · (try dsimp only)
    (first | (go_simp; done) | (go_keep; done))
  refine tq 0 hHeld ?_
  refine tq 1 hHeld ?_
  refine tq 3 hHeld ?_
  refine tq 4 hHeld ?_
  refine wpAnyH_ready (rs := [2, 6]) (by kernel_rfl) (by simp) ?_
  refine AllReadyH.cons rfl (fun K hK => ?_) (AllReadyH.cons rfl (fun K hK => ?_) AllReadyH.nil)
  · (go_simp; (go_at_call 161; refine (wayOf_any _ _ _).mono ?_; rintro e w1 ⟨rfl, hb1⟩; obtain ⟨hc1, hf1⟩ := bcell hb1; have hz1 := hb1.size; (try simp only [zz] at hc1 hf1 hz1); have := kf2 hb1 w.heap.size; (try have q := kfz hc1 hf1 hz1 (w.heap.size + 1 + 1) (by omega); obtain ⟨ht1x0, hu1x0, hv1x0, hw1x0⟩ := q); clear hc1 hf1); (try go_wp2_with fail); refine tr hK (fun hHeld => ?_); clear hK K)
    refine tq 5 hHeld ?_
    (refine tc 6 fun K hK => ?_; go_simp; refine tr hK (fun hHeld => ?_); clear hK K)
    (refine tc 7 fun K hK => ?_; go_simp; refine tr hK (fun hHeld => ?_); clear hK K)
    refine wpAnyH_done (by kernel_rfl) ?_ _
    go_wp2_with fail
    go_meet
    exact ⟨_, rfl, (by go_simp), (by go_simp), (by go_simp), (by go_simp), (by go_simp), (by go_simp), (by first | (go_simp; done) | (simp; done)), (by first | (go_simp; done) | (simp; done)), (by first | (go_simp; done) | (simp; done)), (by first | omega | (simp; done) | (simp; omega)), (by first | omega | (simp; done) | (simp; omega)), bel_a⟩
  · (go_simp; refine tr hK (fun hHeld => ?_); clear hK K)
    (refine tc 2 fun K hK => ?_; go_simp; (go_at_call 161; refine (wayOf_any _ _ _).mono ?_; rintro e w1 ⟨rfl, hb1⟩; obtain ⟨hc1, hf1⟩ := bcell hb1; have hz1 := hb1.size; (try simp only [zz] at hc1 hf1 hz1); have := kf2 hb1 w.heap.size; (try have q := kfz hc1 hf1 hz1 (w.heap.size + 1 + 1) (by omega); obtain ⟨ht1x0, hu1x0, hv1x0, hw1x0⟩ := q); clear hc1 hf1); (try go_wp2_with fail); refine tr hK (fun hHeld => ?_); clear hK K)
    refine tq 5 hHeld ?_
    (refine tc 7 fun K hK => ?_; go_simp; refine tr hK (fun hHeld => ?_); clear hK K)
    refine wpAnyH_done (by kernel_rfl) ?_ _
    go_wp2_with fail
    go_meet
    exact ⟨_, rfl, (by go_simp), (by go_simp), (by go_simp), (by go_simp), (by go_simp), (by go_simp), (by first | (go_simp; done) | (simp; done)), (by first | (go_simp; done) | (simp; done)), (by first | (go_simp; done) | (simp; done)), (by first | omega | (simp; done) | (simp; omega)), (by first | omega | (simp; done) | (simp; omega)), bel_a⟩
 case rest =>
 obtain ⟨B, rfl, x0, x1, x2, r0, r1, r2, f0, f1, f2, hlo, hhi, hbel⟩ := hcut
 have kz := hbel.size
 have n1 : (w.heap.size + 1 = B) = False := eq_false (by omega)
 have n2 : (B = w.heap.size + 1) = False := eq_false (by omega)
 have lz : w.heap.size + 1 < wc.heap.size := by omega
 unfold hitB at e
 go_upto_region 2 with fail
 cases k1 : inB 256 x y with
 | false =>
  rw [k1] at e
  simp only [Bool.false_and] at e
  subst e
  refine wp_region_held_drew (S := fun w' => w'.cell? ⟨B, 0, none⟩ = some (.int .i64 x) ∧ w'.cell? ⟨B, 1, none⟩ = some (.int .i64 y) ∧ w'.cell? ⟨B, 2, none⟩ = some (.int .i64 k)) (by kernel_rfl) ?_ (fun hHeld => ?_)
  · (try dsimp only)
    (first | (go_simp; done) | (go_keep; done))
  refine tq 0 hHeld ?_
  refine tq 1 hHeld ?_
  refine tq 2 hHeld ?_
  (refine tc 3 fun K hK => ?_; go_simp; (go_at_call 110; refine (within2_q _ _ _ _ _ (by omega) (by omega) (by with_reducible assumption)).mono ?_; rintro e w2 ⟨rfl, hb2⟩; have hz2 := hb2.size; (try simp only [zz] at hz2); have := kfa hb2 (w.heap.size + 1); have := kfa hb2 B); (try go_wp2_with fail); refine tr hK (fun hHeld => ?_); clear hK K)
  refine tq 4 hHeld ?_
  refine tn 5 hHeld ?_
  refine tn 6 hHeld ?_
  refine tn 7 hHeld ?_
  refine tq 8 hHeld ?_
  (refine tc 9 fun K hK => ?_; go_simp; refine tr hK (fun hHeld => ?_); clear hK K)
  refine tq 10 hHeld ?_
  refine wpAnyH_done (by kernel_rfl) ?_ _
  go_wp2_with fail
  exact bodyPost_ret (v := .tuple #[s3 x y k, .bool false]) (by simp [results, Tryz.results152, go_sem, *]) rfl ⟨rfl, bel_a⟩
 | true =>
  rw [k1] at e
  simp only [Bool.true_and] at e
  refine wp_region_held_drew (S := fun w' => w'.cell? ⟨B, 0, none⟩ = some (.int .i64 x) ∧ w'.cell? ⟨B, 1, none⟩ = some (.int .i64 y) ∧ w'.cell? ⟨B, 2, none⟩ = some (.int .i64 k)) (by kernel_rfl) ?_ (fun hHeld => ?_)
  · (try dsimp only)
    (first | (go_simp; done) | (go_keep; done))
  refine tq 0 hHeld ?_
  refine tq 1 hHeld ?_
  refine tq 2 hHeld ?_
  (refine tc 3 fun K hK => ?_; go_simp; (go_at_call 110; refine (within2_q _ _ _ _ _ (by omega) (by omega) (by with_reducible assumption)).mono ?_; rintro e w2 ⟨rfl, hb2⟩; have hz2 := hb2.size; (try simp only [zz] at hz2); have := kfa hb2 (w.heap.size + 1); have := kfa hb2 B); (try go_wp2_with fail); refine tr hK (fun hHeld => ?_); clear hK K)
  refine tq 4 hHeld ?_
  refine tq 5 hHeld ?_
  refine tq 6 hHeld ?_
  (refine tc 7 fun K hK => ?_; go_simp; (go_at_call 56; refine (upTo_q _ _ _ _ (by with_reducible assumption)).mono ?_; rintro e w3 ⟨rfl, hb3⟩; have hz3 := hb3.size; (try simp only [zz] at hz3); have := kfa hb3 (w.heap.size + 1); have := kfa hb3 B); (try go_wp2_with fail); refine tr hK (fun hHeld => ?_); clear hK K)
  refine tq 8 hHeld ?_
  (refine tc 9 fun K hK => ?_; go_simp; refine tr hK (fun hHeld => ?_); clear hK K)
  refine tq 10 hHeld ?_
  refine wpAnyH_done (by kernel_rfl) ?_ _
  go_wp2_with fail
  exact bodyPost_ret (v := .tuple #[s3 x y k, .bool b]) (by simp [results, Tryz.results152, go_sem, *]) rfl ⟨rfl, bel_a⟩
end Go.Proofs.YtmnhankcbkfhaaaGreatDoor
