/- Texts of a proof. -/
import Derived.Test.YthijeiehcdoidaaGreatS9m
import Derived.Deep.RegionHeld3
import Derived.Deep.DeepCutAuto
import Derived.Test.YthijeiehcdoidaaGreatB23
set_option maxHeartbeats 16000000
set_option maxRecDepth 20000
namespace Go.Proofs.YthijeiehcdoidaaGreat
open Go.RowKit
set_option linter.unusedVariables false
set_option linter.unusedSimpArgs false
def quietV (r : Int) (V : Nat → Int) : Nat → Int := bif decide (V 8 = 0) || decide (8 ≤ V 11) then V else setV V 11 (bif decide (-8 ≤ spX V ∧ spX V ≤ 8) && decide (-8 ≤ spY V ∧ spY V ≤ 8) then mn (r + 1) 7 else 0)
theorem l9Quiet_any (a : Option Addr) (n c : Nat) (U : Nat → Int) (a2 : Option Addr) (c2 : Nat) (U2 : Nat → Int) (w : World) (h : Flat w a (n * 12) U) (hn : n ≤ 1048576) (hbb : Bods n U) (h2 : Flat w a2 (n * 12) U2) (hq2 : ∀ k, k < n → 0 ≤ U2 (k * 12 + 11) ∧ U2 (k * 12 + 11) ≤ 8) :
 Calls Tryz.prog 149 #[.slice a n c, .slice a2 n c2] w fun e w' => ∃ a1 c1, e = .returned (.slice a1 n c1) ∧ OutL w w' 41 12 a1 n c1 (mapR (fun i V => quietV (U2 (i * 12 + 11)) V) U n) := by
 have hset := cset_map
 go_enter Tryz.func149, Tryz.ntmps149
 go_upto_region 1 with fail
 go_cut [5] (fun s0 wc => ∃ a1 c1, s0 = .slice a1 n c1 ∧ OutL w wc 41 12 a1 n c1 U)
 case first =>
  go_wp2_with (go_at_call 72; refine (l8Copy_any a n c U _ h hn).mono ?_; rintro e w3 ⟨a1, c1, rfl, hO⟩)
  go_meet
  exact ⟨_, _, rfl, hO⟩
 case rest =>
 obtain ⟨a1, c1, rfl, hO⟩ := hcut
 go_upto_region 3 with fail
 go_loopw [6, 7] (fun s _ wr => ∃ k : Nat, k ≤ n ∧ s = .int .i64 (k : Int) ∧ OutL w wr 41 12 a1 n c1 (mapR (fun i V => quietV (U2 (i * 12 + 11)) V) U k)) (fun s _ _ => n - (intOf s).toNat)
 case atStart => exact ⟨0, Nat.zero_le _, rfl, by rw [mapR_0]; exact hO⟩
 case round =>
  clear hO
  obtain ⟨k, hk, rfl, hO⟩ := hrel
  by_cases hlt : k < n
  · have hkn : (k : Int) < (n : Int) := by omega
    obtain ⟨g, rfl, hg1, hg2⟩ := hO.own.loc (by omega)
    have d0 : wr.cell? ⟨g, k * 12, none⟩ = some (.int .i64 (U (k * 12))) := by have q := hO.own.cellq (q := k * 12 + 0) (by omega); rw [mapR_row] at q; exact q
    have d1 : wr.cell? ⟨g, k * 12 + 1, none⟩ = some (.int .i64 (U (k * 12 + 1))) := by have q := hO.own.cellq (q := k * 12 + 1) (by omega); rw [mapR_row] at q; exact q
    have d2 : wr.cell? ⟨g, k * 12 + 2, none⟩ = some (.int .i64 (U (k * 12 + 2))) := by have q := hO.own.cellq (q := k * 12 + 2) (by omega); rw [mapR_row] at q; exact q
    have d3 : wr.cell? ⟨g, k * 12 + 3, none⟩ = some (.int .i64 (U (k * 12 + 3))) := by have q := hO.own.cellq (q := k * 12 + 3) (by omega); rw [mapR_row] at q; exact q
    have d4 : wr.cell? ⟨g, k * 12 + 4, none⟩ = some (.int .i64 (U (k * 12 + 4))) := by have q := hO.own.cellq (q := k * 12 + 4) (by omega); rw [mapR_row] at q; exact q
    have d5 : wr.cell? ⟨g, k * 12 + 5, none⟩ = some (.int .i64 (U (k * 12 + 5))) := by have q := hO.own.cellq (q := k * 12 + 5) (by omega); rw [mapR_row] at q; exact q
    have d6 : wr.cell? ⟨g, k * 12 + 6, none⟩ = some (.int .i64 (U (k * 12 + 6))) := by have q := hO.own.cellq (q := k * 12 + 6) (by omega); rw [mapR_row] at q; exact q
    have d7 : wr.cell? ⟨g, k * 12 + 7, none⟩ = some (.int .i64 (U (k * 12 + 7))) := by have q := hO.own.cellq (q := k * 12 + 7) (by omega); rw [mapR_row] at q; exact q
    have d8 : wr.cell? ⟨g, k * 12 + 8, none⟩ = some (.int .i64 (U (k * 12 + 8))) := by have q := hO.own.cellq (q := k * 12 + 8) (by omega); rw [mapR_row] at q; exact q
    have d9 : wr.cell? ⟨g, k * 12 + 9, none⟩ = some (.int .i64 (U (k * 12 + 9))) := by have q := hO.own.cellq (q := k * 12 + 9) (by omega); rw [mapR_row] at q; exact q
    have d10 : wr.cell? ⟨g, k * 12 + 10, none⟩ = some (.int .i64 (U (k * 12 + 10))) := by have q := hO.own.cellq (q := k * 12 + 10) (by omega); rw [mapR_row] at q; exact q
    have d11 : wr.cell? ⟨g, k * 12 + 11, none⟩ = some (.int .i64 (U (k * 12 + 11))) := by have q := hO.own.cellq (q := k * 12 + 11) (by omega); rw [mapR_row] at q; exact q
    have df := hO.own.fro
    obtain ⟨⟨m0, m1⟩, _, _, _, bd6, bd7, _⟩ := bodyB_bd (hbb.ok k hlt)
    (try simp only at m0 m1)
    obtain ⟨SL, hSL⟩ : ∃ b, decide (8 ≤ (fun j => U (k * 12 + j)) 11) = b := ⟨_, rfl⟩
    by_cases hm : U (k * 12 + 8) = 0
    · have HNO : Shut (mapR (fun i V => quietV (U2 (i * 12 + 11)) V) U (k + 1) = mapR (fun i V => quietV (U2 (i * 12 + 11)) V) U k) := mapR_same (fun j hj => by show quietV _ (fun j => U (k * 12 + j)) j = _; unfold quietV; rw [show decide ((fun j => U (k * 12 + j)) 8 = 0) = true from decide_eq_true hm]; rfl)
      have e1 : (U (k * 12 + 8) == 0) = true := by simp [hm]
      have e2 : (U (k * 12 + 8) = 0) = True := eq_true hm
      clear hm hSL
      go_wp2_with fail
      go_roundw
      case rel => exact ⟨k + 1, by omega, by go_num, by rw [HNO.out]; exact hO⟩
      case measure => simp [intOf]; omega
    · have NM : decide ((fun j => U (k * 12 + j)) 8 = 0) = false := decide_eq_false hm
      have e1 : (U (k * 12 + 8) == 0) = false := by simp [hm]
      cases SL with
      | true =>
       have HNO : Shut (mapR (fun i V => quietV (U2 (i * 12 + 11)) V) U (k + 1) = mapR (fun i V => quietV (U2 (i * 12 + 11)) V) U k) := mapR_same (fun j hj => by show quietV _ (fun j => U (k * 12 + j)) j = _; unfold quietV; rw [NM, hSL]; rfl)
       clear NM
       go_wp2_with (go_at_call 160; refine (l6Sleeps_k (fun j => U (k * 12 + j)) _ true hSL).mono ?_; rintro e w4 ⟨rfl, hb4⟩)
       go_roundw
       case rel => exact ⟨k + 1, by omega, by go_num, by rw [HNO.out]; exact hO.on hb4⟩
       case measure => simp [intOf]; omega
      | false =>
       go_upto_region 6 with (go_at_call 160; refine (l6Sleeps_k (fun j => U (k * 12 + j)) _ false hSL).mono ?_; rintro e w4 ⟨rfl, hb4⟩)
       have hO4 := hO.on hb4
       clear hO df d0 d1 d2 d3 d4 d5 d6 d7 d8 d9 d10 d11
       have d0 : w4.cell? ⟨g, k * 12, none⟩ = some (.int .i64 (U (k * 12))) := by have q := hO4.own.cellq (q := k * 12 + 0) (by omega); rw [mapR_row] at q; exact q
       have d1 : w4.cell? ⟨g, k * 12 + 1, none⟩ = some (.int .i64 (U (k * 12 + 1))) := by have q := hO4.own.cellq (q := k * 12 + 1) (by omega); rw [mapR_row] at q; exact q
       have d2 : w4.cell? ⟨g, k * 12 + 2, none⟩ = some (.int .i64 (U (k * 12 + 2))) := by have q := hO4.own.cellq (q := k * 12 + 2) (by omega); rw [mapR_row] at q; exact q
       have d3 : w4.cell? ⟨g, k * 12 + 3, none⟩ = some (.int .i64 (U (k * 12 + 3))) := by have q := hO4.own.cellq (q := k * 12 + 3) (by omega); rw [mapR_row] at q; exact q
       have d4 : w4.cell? ⟨g, k * 12 + 4, none⟩ = some (.int .i64 (U (k * 12 + 4))) := by have q := hO4.own.cellq (q := k * 12 + 4) (by omega); rw [mapR_row] at q; exact q
       have d5 : w4.cell? ⟨g, k * 12 + 5, none⟩ = some (.int .i64 (U (k * 12 + 5))) := by have q := hO4.own.cellq (q := k * 12 + 5) (by omega); rw [mapR_row] at q; exact q
       have d6 : w4.cell? ⟨g, k * 12 + 6, none⟩ = some (.int .i64 (U (k * 12 + 6))) := by have q := hO4.own.cellq (q := k * 12 + 6) (by omega); rw [mapR_row] at q; exact q
       have d7 : w4.cell? ⟨g, k * 12 + 7, none⟩ = some (.int .i64 (U (k * 12 + 7))) := by have q := hO4.own.cellq (q := k * 12 + 7) (by omega); rw [mapR_row] at q; exact q
       have d8 : w4.cell? ⟨g, k * 12 + 8, none⟩ = some (.int .i64 (U (k * 12 + 8))) := by have q := hO4.own.cellq (q := k * 12 + 8) (by omega); rw [mapR_row] at q; exact q
       have d9 : w4.cell? ⟨g, k * 12 + 9, none⟩ = some (.int .i64 (U (k * 12 + 9))) := by have q := hO4.own.cellq (q := k * 12 + 9) (by omega); rw [mapR_row] at q; exact q
       have d10 : w4.cell? ⟨g, k * 12 + 10, none⟩ = some (.int .i64 (U (k * 12 + 10))) := by have q := hO4.own.cellq (q := k * 12 + 10) (by omega); rw [mapR_row] at q; exact q
       have d11 : w4.cell? ⟨g, k * 12 + 11, none⟩ = some (.int .i64 (U (k * 12 + 11))) := by have q := hO4.own.cellq (q := k * 12 + 11) (by omega); rw [mapR_row] at q; exact q
       obtain ⟨IX, HX⟩ : ∃ b, decide (-8 ≤ spX (fun j => U (k * 12 + j)) ∧ spX (fun j => U (k * 12 + j)) ≤ 8) = b := ⟨_, rfl⟩
       obtain ⟨IY, HY⟩ : ∃ b, decide (-8 ≤ spY (fun j => U (k * 12 + j)) ∧ spY (fun j => U (k * 12 + j)) ≤ 8) = b := ⟨_, rfl⟩
       cases IX with
       | false =>
        have HS : Shut ((fun r => if r = k * 12 + 11 then 0 else mapR (fun i V => quietV (U2 (i * 12 + 11)) V) U k r) = mapR (fun i V => quietV (U2 (i * 12 + 11)) V) U (k + 1)) := mapR_one (by omega) (fun i hi => by
         show quietV (U2 (k * 12 + 11)) (fun j => U (k * 12 + j)) i = _
         unfold quietV
         rw [NM, hSL, HX]
         rfl)
        go_upto_region 7 with (go_at_call 164; refine (l6Speed_any (fun j => U (k * 12 + j)) _ bd6 bd7).mono ?_; rintro e w5 ⟨rfl, hb5⟩)
        have hE5 : Below w5.heap.size w5 (w5.alloc (Obj.cells #[.int .i64 (spX (fun j => U (k * 12 + j))), .int .i64 (spY (fun j => U (k * 12 + j)))] 28)) := (Below.refl _ _).alloc (Nat.le_refl _) _
        have hO6 := (hO4.on hb5).on hE5
        have v0 : (w5.alloc (Obj.cells #[.int .i64 (spX (fun j => U (k * 12 + j))), .int .i64 (spY (fun j => U (k * 12 + j)))] 28)).cell? ⟨w5.heap.size, 0, none⟩ = some (.int .i64 (spX (fun j => U (k * 12 + j)))) := by go_simp
        have v1 : (w5.alloc (Obj.cells #[.int .i64 (spX (fun j => U (k * 12 + j))), .int .i64 (spY (fun j => U (k * 12 + j)))] 28)).cell? ⟨w5.heap.size, 1, none⟩ = some (.int .i64 (spY (fun j => U (k * 12 + j)))) := by go_simp
        have hv5 : w5.heap.size < (w5.alloc (Obj.cells #[.int .i64 (spX (fun j => U (k * 12 + j))), .int .i64 (spY (fun j => U (k * 12 + j)))] 28)).heap.size := by simp
        have hgv : g < w5.heap.size := by have := hb5.size; have := hb4.size; omega
        generalize (w5.alloc (Obj.cells #[.int .i64 (spX (fun j => U (k * 12 + j))), .int .i64 (spY (fun j => U (k * 12 + j)))] 28)) = w6 at hE5 hO6 v0 v1 hv5 ⊢
        generalize w5.heap.size = bv at v0 v1 hv5 hgv hE5 ⊢
        clear hb5 hb4 hO4 hE5
        have ne1 : ¬ g = bv := by omega
        have ne2 : ¬ bv = g := by omega
        have uf := hO6.own.fro
        have uc := hO6.own.cellq (q := k * 12 + 11) (by omega)
        have hq0 := hO6.own.setq (k * 12 + 11) (by omega) 0
        have hB0 : Below w.heap.size w (w6.setCell ⟨g, k * 12 + 11, none⟩ (.int .i64 0)) := hO6.bel.setCell hg1 _
        go_upto_region 8 with fail
        have t0 : (w6.setCell ⟨g, k * 12 + 11, none⟩ (.int .i64 0)).cell? ⟨bv, 0, none⟩ = some (.int .i64 (spX (fun j => U (k * 12 + j)))) := by go_simp
        have t1 : (w6.setCell ⟨g, k * 12 + 11, none⟩ (.int .i64 0)).cell? ⟨bv, 1, none⟩ = some (.int .i64 (spY (fun j => U (k * 12 + j)))) := by go_simp
        have hbv : bv < (w6.setCell ⟨g, k * 12 + 11, none⟩ (.int .i64 0)).heap.size := by simp; omega
        generalize (w6.setCell ⟨g, k * 12 + 11, none⟩ (.int .i64 0)) = w7 at hq0 hB0 t0 t1 hbv ⊢
        clear hO6 uf uc v0 v1
        obtain ⟨sx, hsx⟩ : ∃ sx, spX (fun j => U (k * 12 + j)) = sx := ⟨_, rfl⟩
        obtain ⟨sy, hsy⟩ : ∃ sy, spY (fun j => U (k * 12 + j)) = sy := ⟨_, rfl⟩
        rw [hsx] at t0
        rw [hsy] at t1
        rw [hsx] at HX
        rw [hsy] at HY
        clear hsx hsy
        go_wp2_with (go_at_call 22; refine (l1In_q _ _ _ false _ HX).mono ?_; rintro e w8 ⟨rfl, hb8⟩)
        have hq9 := hq0.below hb8
        rw [HS.out] at hq9
        go_roundw
        case rel => exact ⟨k + 1, by omega, by go_num, hB0.trans (hb8.mono hB0.size), hq9⟩
        case measure => simp [intOf]; omega
       | true =>
        cases IY with
        | false =>
         have HS : Shut ((fun r => if r = k * 12 + 11 then 0 else mapR (fun i V => quietV (U2 (i * 12 + 11)) V) U k r) = mapR (fun i V => quietV (U2 (i * 12 + 11)) V) U (k + 1)) := mapR_one (by omega) (fun i hi => by
          show quietV (U2 (k * 12 + 11)) (fun j => U (k * 12 + j)) i = _
          unfold quietV
          rw [NM, hSL, HX, HY]
          rfl)
         go_upto_region 7 with (go_at_call 164; refine (l6Speed_any (fun j => U (k * 12 + j)) _ bd6 bd7).mono ?_; rintro e w5 ⟨rfl, hb5⟩)
         have hE5 : Below w5.heap.size w5 (w5.alloc (Obj.cells #[.int .i64 (spX (fun j => U (k * 12 + j))), .int .i64 (spY (fun j => U (k * 12 + j)))] 28)) := (Below.refl _ _).alloc (Nat.le_refl _) _
         have hO6 := (hO4.on hb5).on hE5
         have v0 : (w5.alloc (Obj.cells #[.int .i64 (spX (fun j => U (k * 12 + j))), .int .i64 (spY (fun j => U (k * 12 + j)))] 28)).cell? ⟨w5.heap.size, 0, none⟩ = some (.int .i64 (spX (fun j => U (k * 12 + j)))) := by go_simp
         have v1 : (w5.alloc (Obj.cells #[.int .i64 (spX (fun j => U (k * 12 + j))), .int .i64 (spY (fun j => U (k * 12 + j)))] 28)).cell? ⟨w5.heap.size, 1, none⟩ = some (.int .i64 (spY (fun j => U (k * 12 + j)))) := by go_simp
         have hv5 : w5.heap.size < (w5.alloc (Obj.cells #[.int .i64 (spX (fun j => U (k * 12 + j))), .int .i64 (spY (fun j => U (k * 12 + j)))] 28)).heap.size := by simp
         have hgv : g < w5.heap.size := by have := hb5.size; have := hb4.size; omega
         generalize (w5.alloc (Obj.cells #[.int .i64 (spX (fun j => U (k * 12 + j))), .int .i64 (spY (fun j => U (k * 12 + j)))] 28)) = w6 at hE5 hO6 v0 v1 hv5 ⊢
         generalize w5.heap.size = bv at v0 v1 hv5 hgv hE5 ⊢
         clear hb5 hb4 hO4 hE5
         have ne1 : ¬ g = bv := by omega
         have ne2 : ¬ bv = g := by omega
         have uf := hO6.own.fro
         have uc := hO6.own.cellq (q := k * 12 + 11) (by omega)
         have hq0 := hO6.own.setq (k * 12 + 11) (by omega) 0
         have hB0 : Below w.heap.size w (w6.setCell ⟨g, k * 12 + 11, none⟩ (.int .i64 0)) := hO6.bel.setCell hg1 _
         go_upto_region 8 with fail
         have t0 : (w6.setCell ⟨g, k * 12 + 11, none⟩ (.int .i64 0)).cell? ⟨bv, 0, none⟩ = some (.int .i64 (spX (fun j => U (k * 12 + j)))) := by go_simp
         have t1 : (w6.setCell ⟨g, k * 12 + 11, none⟩ (.int .i64 0)).cell? ⟨bv, 1, none⟩ = some (.int .i64 (spY (fun j => U (k * 12 + j)))) := by go_simp
         have hbv : bv < (w6.setCell ⟨g, k * 12 + 11, none⟩ (.int .i64 0)).heap.size := by simp; omega
         generalize (w6.setCell ⟨g, k * 12 + 11, none⟩ (.int .i64 0)) = w7 at hq0 hB0 t0 t1 hbv ⊢
         clear hO6 uf uc v0 v1
         obtain ⟨sx, hsx⟩ : ∃ sx, spX (fun j => U (k * 12 + j)) = sx := ⟨_, rfl⟩
         obtain ⟨sy, hsy⟩ : ∃ sy, spY (fun j => U (k * 12 + j)) = sy := ⟨_, rfl⟩
         rw [hsx] at t0
         rw [hsy] at t1
         rw [hsx] at HX
         rw [hsy] at HY
         clear hsx hsy
         go_wp2_with (first
          | (have _ := hb8; go_at_call 22; refine (l1In_q _ _ _ false _ HY).mono ?_; rintro e w9 ⟨rfl, hb9⟩)
          | (go_at_call 22; refine (l1In_q _ _ _ true _ HX).mono ?_; rintro e w8 ⟨rfl, hb8⟩; obtain ⟨hc8, hf8⟩ := bcell hb8; have t2 := (hc8 bv 1 hbv).trans t1; clear hc8 hf8))
         have hq9 := hq0.below (hb8.trans (hb9.mono hb8.size))
         rw [HS.out] at hq9
         go_roundw
         case rel => exact ⟨k + 1, by omega, by go_num, hB0.trans ((hb8.trans (hb9.mono hb8.size)).mono hB0.size), hq9⟩
         case measure => simp [intOf]; omega
        | true =>
         obtain ⟨qv, hqv⟩ : ∃ qv, mn (U2 (k * 12 + 11) + 1) 7 = qv := ⟨_, rfl⟩
         have HS : Shut ((fun r => if r = k * 12 + 11 then qv else mapR (fun i V => quietV (U2 (i * 12 + 11)) V) U k r) = mapR (fun i V => quietV (U2 (i * 12 + 11)) V) U (k + 1)) := mapR_one (by omega) (fun i hi => by
          show quietV (U2 (k * 12 + 11)) (fun j => U (k * 12 + j)) i = _
          unfold quietV
          rw [NM, hSL, HX, HY, ← hqv]
          rfl)
         go_upto_region 7 with (go_at_call 164; refine (l6Speed_any (fun j => U (k * 12 + j)) _ bd6 bd7).mono ?_; rintro e w5 ⟨rfl, hb5⟩)
         have hE5 : Below w5.heap.size w5 (w5.alloc (Obj.cells #[.int .i64 (spX (fun j => U (k * 12 + j))), .int .i64 (spY (fun j => U (k * 12 + j)))] 28)) := (Below.refl _ _).alloc (Nat.le_refl _) _
         have hO6 := (hO4.on hb5).on hE5
         have v0 : (w5.alloc (Obj.cells #[.int .i64 (spX (fun j => U (k * 12 + j))), .int .i64 (spY (fun j => U (k * 12 + j)))] 28)).cell? ⟨w5.heap.size, 0, none⟩ = some (.int .i64 (spX (fun j => U (k * 12 + j)))) := by go_simp
         have v1 : (w5.alloc (Obj.cells #[.int .i64 (spX (fun j => U (k * 12 + j))), .int .i64 (spY (fun j => U (k * 12 + j)))] 28)).cell? ⟨w5.heap.size, 1, none⟩ = some (.int .i64 (spY (fun j => U (k * 12 + j)))) := by go_simp
         have hv5 : w5.heap.size < (w5.alloc (Obj.cells #[.int .i64 (spX (fun j => U (k * 12 + j))), .int .i64 (spY (fun j => U (k * 12 + j)))] 28)).heap.size := by simp
         have hgv : g < w5.heap.size := by have := hb5.size; have := hb4.size; omega
         generalize (w5.alloc (Obj.cells #[.int .i64 (spX (fun j => U (k * 12 + j))), .int .i64 (spY (fun j => U (k * 12 + j)))] 28)) = w6 at hE5 hO6 v0 v1 hv5 ⊢
         generalize w5.heap.size = bv at v0 v1 hv5 hgv hE5 ⊢
         clear hb5 hb4 hO4 hE5
         have ne1 : ¬ g = bv := by omega
         have ne2 : ¬ bv = g := by omega
         have uf := hO6.own.fro
         have uc := hO6.own.cellq (q := k * 12 + 11) (by omega)
         have hq0 := hO6.own.setq (k * 12 + 11) (by omega) 0
         have hB0 : Below w.heap.size w (w6.setCell ⟨g, k * 12 + 11, none⟩ (.int .i64 0)) := hO6.bel.setCell hg1 _
         go_upto_region 8 with fail
         have t0 : (w6.setCell ⟨g, k * 12 + 11, none⟩ (.int .i64 0)).cell? ⟨bv, 0, none⟩ = some (.int .i64 (spX (fun j => U (k * 12 + j)))) := by go_simp
         have t1 : (w6.setCell ⟨g, k * 12 + 11, none⟩ (.int .i64 0)).cell? ⟨bv, 1, none⟩ = some (.int .i64 (spY (fun j => U (k * 12 + j)))) := by go_simp
         have hbv : bv < (w6.setCell ⟨g, k * 12 + 11, none⟩ (.int .i64 0)).heap.size := by simp; omega
         generalize (w6.setCell ⟨g, k * 12 + 11, none⟩ (.int .i64 0)) = w7 at hq0 hB0 t0 t1 hbv ⊢
         clear hO6 uf uc v0 v1
         obtain ⟨sx, hsx⟩ : ∃ sx, spX (fun j => U (k * 12 + j)) = sx := ⟨_, rfl⟩
         obtain ⟨sy, hsy⟩ : ∃ sy, spY (fun j => U (k * 12 + j)) = sy := ⟨_, rfl⟩
         rw [hsx] at t0
         rw [hsy] at t1
         rw [hsx] at HX
         rw [hsy] at HY
         clear hsx hsy
         go_upto_region 9 with (first
          | (have _ := hb8; go_at_call 22; refine (l1In_q _ _ _ true _ HY).mono ?_; rintro e w9 ⟨rfl, hb9⟩)
          | (go_at_call 22; refine (l1In_q _ _ _ true _ HX).mono ?_; rintro e w8 ⟨rfl, hb8⟩; obtain ⟨hc8, hf8⟩ := bcell hb8; have t2 := (hc8 bv 1 hbv).trans t1; clear hc8 hf8))
         have hq9 := (hq0.below hb8).below hb9
         have hB9 : Below w.heap.size w w9 := hB0.trans ((hb8.trans (hb9.mono hb8.size)).mono hB0.size)
         clear hq0 hB0 hb8 hb9 t0 t1 t2
         obtain ⟨b2, o2, rfl, hbl2, hc2⟩ := (h2.below hB9) (by omega)
         have r2 := hc2 (k * 12 + 11) (by omega)
         simp only [← Nat.add_assoc] at r2
         clear hc2
         have hqb := hq2 k hlt
         have hwq : IntKind.i64.wrap (U2 (k * 12 + 11) + 1) = U2 (k * 12 + 11) + 1 := i64w (by omega)
         have uf := hq9.fro
         have uc := hq9.cellq (q := k * 12 + 11) (by omega)
         go_wp2_with (go_at_call 117; refine (l3Less_any _ _ _).mono ?_; rintro e wa ⟨rfl, ha⟩; have ha' := ha.symm; subst ha'; clear ha)
         have hqa := (hq9.setq (k * 12 + 11) (by omega) qv).congr (V := fun r => if r = k * 12 + 11 then qv else mapR (fun i V => quietV (U2 (i * 12 + 11)) V) U k r) (fun q _ => by by_cases e : q = k * 12 + 11 <;> simp [e])
         rw [HS.out] at hqa
         have hBa : Below w.heap.size w (w9.setCell ⟨g, k * 12 + 11, none⟩ (.int .i64 qv)) := hB9.setCell hg1 _
         go_roundw
         case rel => exact ⟨k + 1, by omega, by go_num, hBa, hqa⟩
         case measure => simp [intOf]; omega
  · obtain rfl : k = n := by omega
    go_wp2_with fail
    go_ret
    exact ⟨_, _, rfl, hO⟩
structure BOk (V : Nat → Int) : Prop where
 i0 : 0 ≤ V 0 ∧ V 0 ≤ 999999999
 sh : shB (V 1) (V 2) (V 3) = true
 a4 : -2560000 ≤ V 4 ∧ V 4 ≤ 2560000
 a5 : -2560000 ≤ V 5 ∧ V 5 ≤ 2560000
 d6 : -20000000 ≤ V 6 ∧ V 6 ≤ 20000000
 d7 : -20000000 ≤ V 7 ∧ V 7 ≤ 20000000
 m8 : 0 ≤ V 8 ∧ V 8 ≤ 1000
 b9 : 0 ≤ V 9 ∧ V 9 ≤ 256
 r10 : 0 ≤ V 10 ∧ V 10 ≤ 256
 q11 : 0 ≤ V 11 ∧ V 11 ≤ 8
 fx : V 8 = 0 → V 11 = 0
 rs : (V 8 ≠ 0 ∧ V 11 ≠ 8) ∨ (V 6 = 0 ∧ V 7 = 0)
theorem BOk.of {V : Nat → Int} (h : bodyB V = true) : BOk V := by
 unfold bodyB restB inB at h
 simp only [Bool.and_eq_true, decide_eq_true_eq] at h
 obtain ⟨a0, a1, a2, a3, a4, a5, a6, a7, a8, a9⟩ := h
 exact ⟨a0, a1, by omega, by omega, by omega, by omega, a4, a5, a6, a7, a8, a9⟩
theorem BOk.to {V : Nat → Int} (h : BOk V) : bodyB V = true := by
 obtain ⟨a0, a1, a2, a3, a4, a5, a6, a7, a8, a9, b0, b1⟩ := h
 unfold bodyB restB inB
 simp only [Bool.and_eq_true, decide_eq_true_eq]
 exact ⟨a0, a1, by omega, by omega, a6, a7, a8, a9, b0, b1⟩
theorem clampZ_in (l n : Int) (h : 0 ≤ l) : -l ≤ clampZ l n ∧ clampZ l n ≤ l := by unfold clampZ; repeat (first | omega | split)
theorem setV_ne {V : Nat → Int} {k j : Nat} {a : Int} (h : j ≠ k) : setV V k a j = V j := by unfold setV; rw [if_neg h]
theorem setV_eq {V : Nat → Int} {k : Nat} {a : Int} : setV V k a k = a := by unfold setV; rw [if_pos rfl]
theorem pull_ok {V : Nat → Int} (g : Int) (h : BOk V) : BOk (pullV g V) := by
 unfold pullV
 cases hl : liveV V with
 | false => exact h
 | true =>
  unfold liveV at hl
  simp only [Bool.and_eq_true, decide_eq_true_eq, Bool.not_eq_true', decide_eq_false_iff_not] at hl
  have c := clampZ_in 20000000 (V 7 - g * V 8) (by omega)
  generalize clampZ 20000000 (V 7 - g * V 8) = y at c
  show BOk (setV V 7 y)
  obtain ⟨a0, a1, a2, a3, a4, a5, a6, a7, a8, a9, b0, b1⟩ := h
  constructor <;> simp only [setV, reduceIte] <;> (first | assumption | omega | (simp; assumption) | (simp; omega))
theorem setV4 (V : Nat → Int) (x y u v : Int) : (∀ j, j ≠ 4 → j ≠ 5 → j ≠ 6 → j ≠ 7 → setV (setV (setV (setV V 4 x) 5 y) 6 u) 7 v j = V j) ∧ setV (setV (setV (setV V 4 x) 5 y) 6 u) 7 v 4 = x ∧ setV (setV (setV (setV V 4 x) 5 y) 6 u) 7 v 5 = y ∧ setV (setV (setV (setV V 4 x) 5 y) 6 u) 7 v 6 = u ∧ setV (setV (setV (setV V 4 x) 5 y) 6 u) 7 v 7 = v := by
 refine ⟨fun j h4 h5 h6 h7 => ?_, ?_, ?_, ?_, setV_eq⟩
 · rw [setV_ne h7, setV_ne h6, setV_ne h5, setV_ne h4]
 · rw [setV_ne (by decide), setV_ne (by decide), setV_ne (by decide), setV_eq]
 · rw [setV_ne (by decide), setV_ne (by decide), setV_eq]
 · rw [setV_ne (by decide), setV_eq]
theorem setV3 (V : Nat → Int) (x y u : Int) : (∀ j, j ≠ 6 → j ≠ 7 → j ≠ 11 → setV (setV (setV V 6 x) 7 y) 11 u j = V j) ∧ setV (setV (setV V 6 x) 7 y) 11 u 6 = x ∧ setV (setV (setV V 6 x) 7 y) 11 u 7 = y ∧ setV (setV (setV V 6 x) 7 y) 11 u 11 = u := by
 refine ⟨fun j h6 h7 h11 => ?_, ?_, ?_, setV_eq⟩
 · rw [setV_ne h11, setV_ne h7, setV_ne h6]
 · rw [setV_ne (by decide), setV_ne (by decide), setV_eq]
 · rw [setV_ne (by decide), setV_eq]
theorem move_ok {V : Nat → Int} (p q : Int) (h : BOk V) (hm : V 8 ≠ 0) : BOk (moveV V p q) := by
 have c1 := clampZ_in 2560000 (V 4 + p) (by omega)
 have c2 := clampZ_in 2560000 (V 5 + q) (by omega)
 unfold moveV mvX mvY
 generalize clampZ 2560000 (V 4 + p) = x at c1
 generalize clampZ 2560000 (V 5 + q) = y at c2
 obtain ⟨a0, a1, a2, a3, a4, a5, a6, a7, a8, a9, b0, b1⟩ := h
 obtain ⟨u, hu⟩ : ∃ u, (if x = V 4 + p then V 6 else 0) = u := ⟨_, rfl⟩
 obtain ⟨v, hv⟩ : ∃ v, (if y = V 5 + q then V 7 else 0) = v := ⟨_, rfl⟩
 rw [hu, hv]
 have bu : (-20000000 ≤ u ∧ u ≤ 20000000) ∧ (V 6 = 0 → u = 0) := by rw [← hu]; split <;> constructor <;> (try intro) <;> omega
 have bv : (-20000000 ≤ v ∧ v ≤ 20000000) ∧ (V 7 = 0 → v = 0) := by rw [← hv]; split <;> constructor <;> (try intro) <;> omega
 obtain ⟨e, e4, e5, e6, e7⟩ := setV4 V x y u v
 generalize setV (setV (setV (setV V 4 x) 5 y) 6 u) 7 v = W at e e4 e5 e6 e7
 have w0 := e 0 (by decide) (by decide) (by decide) (by decide)
 have w1 := e 1 (by decide) (by decide) (by decide) (by decide)
 have w2 := e 2 (by decide) (by decide) (by decide) (by decide)
 have w3 := e 3 (by decide) (by decide) (by decide) (by decide)
 have w8 := e 8 (by decide) (by decide) (by decide) (by decide)
 have w9 := e 9 (by decide) (by decide) (by decide) (by decide)
 have wa := e 10 (by decide) (by decide) (by decide) (by decide)
 have wb := e 11 (by decide) (by decide) (by decide) (by decide)
 exact ⟨by rw [w0]; exact a0, by rw [w1, w2, w3]; exact a1, by rw [e4]; exact c1, by rw [e5]; exact c2, by rw [e6]; exact bu.1, by rw [e7]; exact bv.1, by rw [w8]; exact a6, by rw [w9]; exact a7, by rw [wa]; exact a8, by rw [wb]; exact a9, by rw [w8, wb]; exact b0, by rw [w8, wb, e6, e7]; rcases b1 with q | q; exact .inl q; exact .inr ⟨bu.2 q.1, bv.2 q.2⟩⟩
theorem go_ok {V : Nat → Int} (h : BOk V) : BOk (goV V) := by
 unfold goV
 cases hl : liveV V with
 | false => exact h
 | true =>
  unfold liveV at hl
  simp only [Bool.and_eq_true, decide_eq_true_eq, Bool.not_eq_true', decide_eq_false_iff_not] at hl
  exact move_ok _ _ h (by omega)
theorem quiet_ok {V : Nat → Int} (r : Int) (h : BOk V) (hr : 0 ≤ r ∧ r ≤ 8) : BOk (quietV r V) := by
 unfold quietV
 cases hl : (decide (V 8 = 0) || decide (8 ≤ V 11)) with
 | true => exact h
 | false =>
  simp only [Bool.or_eq_false_iff, decide_eq_false_iff_not] at hl
  obtain ⟨z, hz⟩ : ∃ z, (bif decide (-8 ≤ spX V ∧ spX V ≤ 8) && decide (-8 ≤ spY V ∧ spY V ≤ 8) then mn (r + 1) 7 else 0) = z := ⟨_, rfl⟩
  rw [hz]
  have bz : 0 ≤ z ∧ z ≤ 7 := by
   rw [← hz]
   cases (decide (-8 ≤ spX V ∧ spX V ≤ 8) && decide (-8 ≤ spY V ∧ spY V ≤ 8))
   · exact ⟨by show (0 : Int) ≤ 0; omega, by show (0 : Int) ≤ 7; omega⟩
   · show 0 ≤ mn (r + 1) 7 ∧ mn (r + 1) 7 ≤ 7
     unfold mn
     split <;> omega
  show BOk (setV V 11 z)
  obtain ⟨a0, a1, a2, a3, a4, a5, a6, a7, a8, a9, b0, b1⟩ := h
  constructor <;> simp only [setV, reduceIte] <;> (first | assumption | omega | (simp; assumption) | (simp; omega))
theorem push_ok {V : Nat → Int} (p q : Int) (h : BOk V) : BOk (pushV V p q) := by
 unfold pushV
 by_cases m : V 8 = 0
 · rw [if_pos m]; exact h
 · rw [if_neg m]
   have c1 := clampZ_in 20000000 (V 6 + p) (by omega)
   have c2 := clampZ_in 20000000 (V 7 + q) (by omega)
   generalize clampZ 20000000 (V 6 + p) = x at c1
   generalize clampZ 20000000 (V 7 + q) = y at c2
   obtain ⟨a0, a1, a2, a3, a4, a5, a6, a7, a8, a9, b0, b1⟩ := h
   obtain ⟨e, e6, e7, eb⟩ := setV3 V x y 0
   generalize setV (setV (setV V 6 x) 7 y) 11 0 = W at e e6 e7 eb
   have w0 := e 0 (by decide) (by decide) (by decide)
   have w1 := e 1 (by decide) (by decide) (by decide)
   have w2 := e 2 (by decide) (by decide) (by decide)
   have w3 := e 3 (by decide) (by decide) (by decide)
   have w4 := e 4 (by decide) (by decide) (by decide)
   have w5 := e 5 (by decide) (by decide) (by decide)
   have w8 := e 8 (by decide) (by decide) (by decide)
   have w9 := e 9 (by decide) (by decide) (by decide)
   have wa := e 10 (by decide) (by decide) (by decide)
   exact ⟨by rw [w0]; exact a0, by rw [w1, w2, w3]; exact a1, by rw [w4]; exact a2, by rw [w5]; exact a3, by rw [e6]; exact c1, by rw [e7]; exact c2, by rw [w8]; exact a6, by rw [w9]; exact a7, by rw [wa]; exact a8, by rw [eb]; omega, by rw [eb]; exact fun _ => rfl, .inl ⟨by rw [w8]; exact m, by rw [eb]; decide⟩⟩
theorem Bods.put {n : Nat} {U : Nat → Int} {k : Nat} {V : Nat → Int} (h : Bods n U) (hk : k < n) (hV : BOk V) (h0 : V 0 = U (k * 12)) : Bods n (putRow U k V) := by
 have at_ : ∀ i j, i ≠ k → j < 12 → putRow U k V (i * 12 + j) = U (i * 12 + j) := fun i j hi hj => by unfold putRow; rw [if_neg (by omega)]
 have at0 : ∀ i, putRow U k V (i * 12) = U (i * 12) := fun i => by
  by_cases e : i = k
  · subst e; unfold putRow; rw [if_pos (by omega), Nat.sub_self]; exact h0
  · have := at_ i 0 e (by omega); simpa using this
 refine ⟨h.le, fun i hi => ?_, fun i hi => ?_⟩
 · by_cases e : i = k
   · subst e
     rw [bodyB_cong (W := V) (fun j hj => by unfold putRow; rw [if_pos (by omega), Nat.add_sub_cancel_left])]
     exact hV.to
   · rw [bodyB_cong (W := fun j => U (i * 12 + j)) (fun j hj => at_ i j e hj)]
     exact h.ok i hi
 · rw [at0, at0]; exact h.asc i hi
theorem Bods.row {n : Nat} {U : Nat → Int} (h : Bods n U) {k : Nat} (hk : k < n) : BOk (fun j => U (k * 12 + j)) := BOk.of (h.ok k hk)
theorem Bods.pull {n : Nat} {U : Nat → Int} (h : Bods n U) (g : Int) : Bods n (mapR (fun _ V => pullV g V) U n) :=
 h.map (fun k hk => (pull_ok g (h.row hk)).to) (fun k hk => by show pullV g (fun j => U (k * 12 + j)) 0 = _; unfold pullV; cases liveV (fun j => U (k * 12 + j)) <;> rfl)
theorem Bods.go {n : Nat} {U : Nat → Int} (h : Bods n U) : Bods n (mapR (fun _ V => goV V) U n) :=
 h.map (fun k hk => (go_ok (h.row hk)).to) (fun k hk => by show goV (fun j => U (k * 12 + j)) 0 = _; unfold goV; cases liveV (fun j => U (k * 12 + j)) <;> rfl)
theorem Bods.quiet {n : Nat} {U U2 : Nat → Int} (h : Bods n U) (h2 : Bods n U2) : Bods n (mapR (fun i V => quietV (U2 (i * 12 + 11)) V) U n) :=
 h.map (fun k hk => (quiet_ok _ (h.row hk) (h2.row hk).q11).to) (fun k hk => by show quietV _ (fun j => U (k * 12 + j)) 0 = _; unfold quietV; cases (decide ((fun j => U (k * 12 + j)) 8 = 0) || decide (8 ≤ (fun j => U (k * 12 + j)) 11)) <;> rfl)
theorem moveV_0 (V : Nat → Int) (p q : Int) : moveV V p q 0 = V 0 := rfl
theorem moveV_8 (V : Nat → Int) (p q : Int) : moveV V p q 8 = V 8 := rfl
theorem putRow_8 {U V : Nat → Int} {k i : Nat} (h : V 8 = U (k * 12 + 8)) : putRow U k V (i * 12 + 8) = U (i * 12 + 8) := by
 unfold putRow
 by_cases e : i = k
 · subst e; rw [if_pos (by omega), Nat.add_sub_cancel_left]; exact h
 · rw [if_neg (by omega)]
theorem putRow_else {U V : Nat → Int} {k i j : Nat} (e : i ≠ k) (hj : j < 12) : putRow U k V (i * 12 + j) = U (i * 12 + j) := by unfold putRow; rw [if_neg (by omega)]
theorem Bods.apart {n : Nat} {U : Nat → Int} (h : Bods n U) {A B : Nat} (hA : A < n) (hB : B < n) (hAB : A ≠ B) (X Y D : Int) : Bods n (apartU U A B X Y D) ∧ ∀ i, apartU U A B X Y D (i * 12 + 8) = U (i * 12 + 8) := by
 unfold apartU
 cases decide (0 < (D - 64).tdiv 4) with
 | false => exact ⟨h, fun i => rfl⟩
 | true =>
  simp only [cond_true]
  generalize (-X * shareV (fun j => U (A * 12 + j)) (fun j => U (B * 12 + j)) ((D - 64).tdiv 4)).tdiv 256 = p
  generalize (-Y * shareV (fun j => U (A * 12 + j)) (fun j => U (B * 12 + j)) ((D - 64).tdiv 4)).tdiv 256 = q
  generalize (X * shareV (fun j => U (B * 12 + j)) (fun j => U (A * 12 + j)) ((D - 64).tdiv 4)).tdiv 256 = r
  generalize (Y * shareV (fun j => U (B * 12 + j)) (fun j => U (A * 12 + j)) ((D - 64).tdiv 4)).tdiv 256 = s
  have key : ∀ U1 : Nat → Int, Bods n U1 → (∀ i, U1 (i * 12 + 8) = U (i * 12 + 8)) → (U1 (B * 12) = U (B * 12)) → Bods n (bif decide (0 < U (B * 12 + 8)) then putRow U1 B (moveV (fun j => U (B * 12 + j)) r s) else U1) ∧ ∀ i, (bif decide (0 < U (B * 12 + 8)) then putRow U1 B (moveV (fun j => U (B * 12 + j)) r s) else U1) (i * 12 + 8) = U (i * 12 + 8) := by
   intro U1 h1 h8 h0
   by_cases m : 0 < U (B * 12 + 8)
   · rw [decide_eq_true m]
     exact ⟨h1.put hB (move_ok r s (h.row hB) (by show U (B * 12 + 8) ≠ 0; omega)) (by rw [moveV_0, h0]; rfl), fun i => (putRow_8 (by rw [moveV_8, h8])).trans (h8 i)⟩
   · rw [decide_eq_false m]; exact ⟨h1, h8⟩
  by_cases m : 0 < U (A * 12 + 8)
  · rw [decide_eq_true m]
    refine key _ (h.put hA (move_ok p q (h.row hA) (by show U (A * 12 + 8) ≠ 0; omega)) (by rw [moveV_0]; rfl)) (fun i => putRow_8 (by rw [moveV_8])) ?_
    have := putRow_else (U := U) (V := moveV (fun j => U (A * 12 + j)) p q) (k := A) (i := B) (j := 0) (fun e => hAB e.symm) (by omega)
    simpa using this
  · rw [decide_eq_false m]; exact key U h (fun i => rfl) rfl
def apartN (C U : Nat → Int) : Nat → Nat → Int
 | 0 => U
 | k + 1 => apartU (apartN C U k) (C (k * 5)).toNat (C (k * 5 + 1)).toNat (C (k * 5 + 2)) (C (k * 5 + 3)) (C (k * 5 + 4))
structure CtOk (n m : Nat) (C : Nat → Int) : Prop where
 a : ∀ k, k < m → 0 ≤ C (k * 5) ∧ C (k * 5) < (n : Int)
 b : ∀ k, k < m → 0 ≤ C (k * 5 + 1) ∧ C (k * 5 + 1) < (n : Int)
 ne : ∀ k, k < m → C (k * 5) ≠ C (k * 5 + 1)
 x : ∀ k, k < m → -256 ≤ C (k * 5 + 2) ∧ C (k * 5 + 2) ≤ 256
 y : ∀ k, k < m → -256 ≤ C (k * 5 + 3) ∧ C (k * 5 + 3) ≤ 256
 d : ∀ k, k < m → 0 ≤ C (k * 5 + 4) ∧ C (k * 5 + 4) ≤ 102400
theorem Bods.aparts {n m : Nat} {U C : Nat → Int} (h : Bods n U) (hC : CtOk n m C) : ∀ k, k ≤ m → Bods n (apartN C U k) ∧ ∀ i, apartN C U k (i * 12 + 8) = U (i * 12 + 8)
 | 0, _ => ⟨h, fun i => rfl⟩
 | k + 1, hk => by
  obtain ⟨h1, h2⟩ := Bods.aparts h hC k (by omega)
  have ha := hC.a k (by omega)
  have hb := hC.b k (by omega)
  have hn := hC.ne k (by omega)
  obtain ⟨q1, q2⟩ := h1.apart (A := (C (k * 5)).toNat) (B := (C (k * 5 + 1)).toNat) (by omega) (by omega) (by omega) (C (k * 5 + 2)) (C (k * 5 + 3)) (C (k * 5 + 4))
  exact ⟨q1, fun i => (q2 i).trans (h2 i)⟩
end Go.Proofs.YthijeiehcdoidaaGreat
