/- For how many steps each body was quiet, by the specification. Each part of a step keeps bodies ok: plain mathematics. The draw of a body that is ok. Lists of bodies while they are drawn. The contract of the specification's BoxNear. -/
import Derived.Test.YtkblddegfobpaaaGreatB6
import Derived.Deep.RegionHeld3
import Derived.Deep.DeepCutAuto
import Derived.Test.YtkblddegfobpaaaGreatB3
import Derived.Test.YtkblddegfobpaaaGreatB5
import Derived.Deep.QuietTactic
import Derived.BigQuiet
import Derived.Deep.RegionWith
namespace Go.Proofs.YtkblddegfobpaaaGreat
open Go.RowKit
set_option linter.unusedVariables false
set_option linter.unusedSimpArgs false
/-- a body's count of quiet steps: V now, r what it was -/
def quietV (r : Int) (V : Nat → Int) : Nat → Int := bif decide (V 8 = 0) || decide (8 ≤ V 11) then V else setV V 11 (bif decide (-8 ≤ spX V ∧ spX V ≤ 8) && decide (-8 ≤ spY V ∧ spY V ≤ 8) then mn (r + 1) 7 else 0)
set_option maxRecDepth 20000 in
set_option maxHeartbeats 8000000 in
theorem l9Quiet_any (a : Option Addr) (n c : Nat) (U : Nat → Int) (a2 : Option Addr) (c2 : Nat) (U2 : Nat → Int) (w : World) (h : Flat w a (n * 12) U) (hn : n ≤ 1048576) (hbb : Bods n U) (h2 : Flat w a2 (n * 12) U2) (hq2 : ∀ k, k < n → 0 ≤ U2 (k * 12 + 11) ∧ U2 (k * 12 + 11) ≤ 8) :
    Calls Tryz.prog 89 #[.slice a n c, .slice a2 n c2] w fun e w' => ∃ a1 c1, e = .returned (.slice a1 n c1) ∧ OutL w w' 38 12 a1 n c1 (mapR (fun i V => quietV (U2 (i * 12 + 11)) V) U n) := by
  have hset := cset_map
  go_enter Tryz.func89, Tryz.ntmps89
  go_upto_region 1 with fail
  go_cut [5] (fun s0 wc => ∃ a1 c1, s0 = .slice a1 n c1 ∧ OutL w wc 38 12 a1 n c1 U)
  case first =>
    go_wp2_with (go_at_call 108; refine (l8Copy_any a n c U _ h hn).mono ?_; rintro e w3 ⟨a1, c1, rfl, hO⟩)
    go_meet
    exact ⟨_, _, rfl, hO⟩
  case rest =>
  obtain ⟨a1, c1, rfl, hO⟩ := hcut
  
  go_upto_region 3 with fail
  go_loopw [6, 7] (fun s _ wr => ∃ k : Nat, k ≤ n ∧ s = .int .i64 (k : Int) ∧ OutL w wr 38 12 a1 n c1 (mapR (fun i V => quietV (U2 (i * 12 + 11)) V) U k)) (fun s _ _ => n - (intOf s).toNat)
  case atStart => exact ⟨0, Nat.zero_le _, rfl, by rw [mapR_0]; exact hO⟩
  case round =>
    clear hO
    obtain ⟨k, hk, rfl, hO⟩ := hrel
    by_cases hlt : k < n
    · have hkn : (k : Int) < (n : Int) := by omega
      obtain ⟨g, rfl, hg1, hg2⟩ := hO.own.loc (by omega)
      have d0 : wr.cell? ⟨g, k * 12, none⟩ = some (.int .i64 (U (k * 12))) := by have q := hO.own.cellq (q := k * 12 + 0) (by omega); rw [mapR_row] at q; exact q
      have d1 : wr.cell? ⟨g, k * 12 + 1, none⟩ = some (.int .i64 (U (k * 12 + 1))) := by have q := hO.own.cellq (q := k * 12 + 1) (by omega); rw [mapR_row] at q; exact q
      have d2 : wr.cell? ⟨g, k * 12 + 2, none⟩ = some (.int .i64 (U (k * 12 + 2))) := by have q := hO.own.cellq (q := k * 12 + 2) (by omega); rw [mapR_row] at q; exact q
      have d3 : wr.cell? ⟨g, k * 12 + 3, none⟩ = some (.int .i64 (U (k * 12 + 3))) := by have q := hO.own.cellq (q := k * 12 + 3) (by omega); rw [mapR_row] at q; exact q
      have d4 : wr.cell? ⟨g, k * 12 + 4, none⟩ = some (.int .i64 (U (k * 12 + 4))) := by have q := hO.own.cellq (q := k * 12 + 4) (by omega); rw [mapR_row] at q; exact q
      have d5 : wr.cell? ⟨g, k * 12 + 5, none⟩ = some (.int .i64 (U (k * 12 + 5))) := by have q := hO.own.cellq (q := k * 12 + 5) (by omega); rw [mapR_row] at q; exact q
      have d6 : wr.cell? ⟨g, k * 12 + 6, none⟩ = some (.int .i64 (U (k * 12 + 6))) := by have q := hO.own.cellq (q := k * 12 + 6) (by omega); rw [mapR_row] at q; exact q
      have d7 : wr.cell? ⟨g, k * 12 + 7, none⟩ = some (.int .i64 (U (k * 12 + 7))) := by have q := hO.own.cellq (q := k * 12 + 7) (by omega); rw [mapR_row] at q; exact q
      have d8 : wr.cell? ⟨g, k * 12 + 8, none⟩ = some (.int .i64 (U (k * 12 + 8))) := by have q := hO.own.cellq (q := k * 12 + 8) (by omega); rw [mapR_row] at q; exact q
      have d9 : wr.cell? ⟨g, k * 12 + 9, none⟩ = some (.int .i64 (U (k * 12 + 9))) := by have q := hO.own.cellq (q := k * 12 + 9) (by omega); rw [mapR_row] at q; exact q
      have d10 : wr.cell? ⟨g, k * 12 + 10, none⟩ = some (.int .i64 (U (k * 12 + 10))) := by have q := hO.own.cellq (q := k * 12 + 10) (by omega); rw [mapR_row] at q; exact q
      have d11 : wr.cell? ⟨g, k * 12 + 11, none⟩ = some (.int .i64 (U (k * 12 + 11))) := by have q := hO.own.cellq (q := k * 12 + 11) (by omega); rw [mapR_row] at q; exact q
      have df := hO.own.fro
      obtain ⟨⟨m0, m1⟩, _, _, _, bd6, bd7, _⟩ := bodyB_bd (hbb.ok k hlt)
      (try simp only at m0 m1)
      obtain ⟨SL, hSL⟩ : ∃ b, decide (8 ≤ (fun j => U (k * 12 + j)) 11) = b := ⟨_, rfl⟩
      by_cases hm : U (k * 12 + 8) = 0
      · have HNO : Shut (mapR (fun i V => quietV (U2 (i * 12 + 11)) V) U (k + 1) = mapR (fun i V => quietV (U2 (i * 12 + 11)) V) U k) := mapR_same (fun j hj => by show quietV _ (fun j => U (k * 12 + j)) j = _; unfold quietV; rw [show decide ((fun j => U (k * 12 + j)) 8 = 0) = true from decide_eq_true hm]; rfl)
        have e1 : (U (k * 12 + 8) == 0) = true := by simp [hm]
        have e2 : (U (k * 12 + 8) = 0) = True := eq_true hm
        clear hm hSL
        go_wp2_with fail
        go_roundw
        case rel => exact ⟨k + 1, by omega, by go_num, by rw [HNO.out]; exact hO⟩
        case measure => simp [intOf]; omega
      · have NM : decide ((fun j => U (k * 12 + j)) 8 = 0) = false := decide_eq_false hm
        have e1 : (U (k * 12 + 8) == 0) = false := by simp [hm]
        cases SL with
        | true =>
          have HNO : Shut (mapR (fun i V => quietV (U2 (i * 12 + 11)) V) U (k + 1) = mapR (fun i V => quietV (U2 (i * 12 + 11)) V) U k) := mapR_same (fun j hj => by show quietV _ (fun j => U (k * 12 + j)) j = _; unfold quietV; rw [NM, hSL]; rfl)
          clear NM
          go_wp2_with (go_at_call 107; refine (l6Sleeps_k (fun j => U (k * 12 + j)) _ true hSL).mono ?_; rintro e w4 ⟨rfl, hb4⟩)
          go_roundw
          case rel => exact ⟨k + 1, by omega, by go_num, by rw [HNO.out]; exact hO.on hb4⟩
          case measure => simp [intOf]; omega
        | false =>
          go_upto_region 6 with (go_at_call 107; refine (l6Sleeps_k (fun j => U (k * 12 + j)) _ false hSL).mono ?_; rintro e w4 ⟨rfl, hb4⟩)
          have hO4 := hO.on hb4
          clear hO df d0 d1 d2 d3 d4 d5 d6 d7 d8 d9 d10 d11
          have d0 : w4.cell? ⟨g, k * 12, none⟩ = some (.int .i64 (U (k * 12))) := by have q := hO4.own.cellq (q := k * 12 + 0) (by omega); rw [mapR_row] at q; exact q
          have d1 : w4.cell? ⟨g, k * 12 + 1, none⟩ = some (.int .i64 (U (k * 12 + 1))) := by have q := hO4.own.cellq (q := k * 12 + 1) (by omega); rw [mapR_row] at q; exact q
          have d2 : w4.cell? ⟨g, k * 12 + 2, none⟩ = some (.int .i64 (U (k * 12 + 2))) := by have q := hO4.own.cellq (q := k * 12 + 2) (by omega); rw [mapR_row] at q; exact q
          have d3 : w4.cell? ⟨g, k * 12 + 3, none⟩ = some (.int .i64 (U (k * 12 + 3))) := by have q := hO4.own.cellq (q := k * 12 + 3) (by omega); rw [mapR_row] at q; exact q
          have d4 : w4.cell? ⟨g, k * 12 + 4, none⟩ = some (.int .i64 (U (k * 12 + 4))) := by have q := hO4.own.cellq (q := k * 12 + 4) (by omega); rw [mapR_row] at q; exact q
          have d5 : w4.cell? ⟨g, k * 12 + 5, none⟩ = some (.int .i64 (U (k * 12 + 5))) := by have q := hO4.own.cellq (q := k * 12 + 5) (by omega); rw [mapR_row] at q; exact q
          have d6 : w4.cell? ⟨g, k * 12 + 6, none⟩ = some (.int .i64 (U (k * 12 + 6))) := by have q := hO4.own.cellq (q := k * 12 + 6) (by omega); rw [mapR_row] at q; exact q
          have d7 : w4.cell? ⟨g, k * 12 + 7, none⟩ = some (.int .i64 (U (k * 12 + 7))) := by have q := hO4.own.cellq (q := k * 12 + 7) (by omega); rw [mapR_row] at q; exact q
          have d8 : w4.cell? ⟨g, k * 12 + 8, none⟩ = some (.int .i64 (U (k * 12 + 8))) := by have q := hO4.own.cellq (q := k * 12 + 8) (by omega); rw [mapR_row] at q; exact q
          have d9 : w4.cell? ⟨g, k * 12 + 9, none⟩ = some (.int .i64 (U (k * 12 + 9))) := by have q := hO4.own.cellq (q := k * 12 + 9) (by omega); rw [mapR_row] at q; exact q
          have d10 : w4.cell? ⟨g, k * 12 + 10, none⟩ = some (.int .i64 (U (k * 12 + 10))) := by have q := hO4.own.cellq (q := k * 12 + 10) (by omega); rw [mapR_row] at q; exact q
          have d11 : w4.cell? ⟨g, k * 12 + 11, none⟩ = some (.int .i64 (U (k * 12 + 11))) := by have q := hO4.own.cellq (q := k * 12 + 11) (by omega); rw [mapR_row] at q; exact q
          obtain ⟨IX, HX⟩ : ∃ b, decide (-8 ≤ spX (fun j => U (k * 12 + j)) ∧ spX (fun j => U (k * 12 + j)) ≤ 8) = b := ⟨_, rfl⟩
          obtain ⟨IY, HY⟩ : ∃ b, decide (-8 ≤ spY (fun j => U (k * 12 + j)) ∧ spY (fun j => U (k * 12 + j)) ≤ 8) = b := ⟨_, rfl⟩
          cases IX with
          | false =>
            have HS : Shut ((fun r => if r = k * 12 + 11 then 0 else mapR (fun i V => quietV (U2 (i * 12 + 11)) V) U k r) = mapR (fun i V => quietV (U2 (i * 12 + 11)) V) U (k + 1)) := mapR_one (by omega) (fun i hi => by
              show quietV (U2 (k * 12 + 11)) (fun j => U (k * 12 + j)) i = _
              unfold quietV
              rw [NM, hSL, HX]
              rfl)
            
            go_upto_region 7 with (go_at_call 112; refine (l6Speed_any (fun j => U (k * 12 + j)) _ bd6 bd7).mono ?_; rintro e w5 ⟨rfl, hb5⟩)
            have hE5 : Below w5.heap.size w5 (w5.alloc (Obj.cells #[.int .i64 (spX (fun j => U (k * 12 + j))), .int .i64 (spY (fun j => U (k * 12 + j)))] 30)) := (Below.refl _ _).alloc (Nat.le_refl _) _
            have hO6 := (hO4.on hb5).on hE5
            have v0 : (w5.alloc (Obj.cells #[.int .i64 (spX (fun j => U (k * 12 + j))), .int .i64 (spY (fun j => U (k * 12 + j)))] 30)).cell? ⟨w5.heap.size, 0, none⟩ = some (.int .i64 (spX (fun j => U (k * 12 + j)))) := by go_simp
            have v1 : (w5.alloc (Obj.cells #[.int .i64 (spX (fun j => U (k * 12 + j))), .int .i64 (spY (fun j => U (k * 12 + j)))] 30)).cell? ⟨w5.heap.size, 1, none⟩ = some (.int .i64 (spY (fun j => U (k * 12 + j)))) := by go_simp
            have hv5 : w5.heap.size < (w5.alloc (Obj.cells #[.int .i64 (spX (fun j => U (k * 12 + j))), .int .i64 (spY (fun j => U (k * 12 + j)))] 30)).heap.size := by simp
            have hgv : g < w5.heap.size := by have := hb5.size; have := hb4.size; omega
            generalize (w5.alloc (Obj.cells #[.int .i64 (spX (fun j => U (k * 12 + j))), .int .i64 (spY (fun j => U (k * 12 + j)))] 30)) = w6 at hE5 hO6 v0 v1 hv5 ⊢
            generalize w5.heap.size = bv at v0 v1 hv5 hgv hE5 ⊢
            clear hb5 hb4 hO4 hE5
            have ne1 : ¬ g = bv := by omega
            have ne2 : ¬ bv = g := by omega
            have uf := hO6.own.fro
            have uc := hO6.own.cellq (q := k * 12 + 11) (by omega)
            have hq0 := hO6.own.setq (k * 12 + 11) (by omega) 0
            have hB0 : Below w.heap.size w (w6.setCell ⟨g, k * 12 + 11, none⟩ (.int .i64 0)) := hO6.bel.setCell hg1 _
            go_upto_region 8 with fail
            have t0 : (w6.setCell ⟨g, k * 12 + 11, none⟩ (.int .i64 0)).cell? ⟨bv, 0, none⟩ = some (.int .i64 (spX (fun j => U (k * 12 + j)))) := by go_simp
            have t1 : (w6.setCell ⟨g, k * 12 + 11, none⟩ (.int .i64 0)).cell? ⟨bv, 1, none⟩ = some (.int .i64 (spY (fun j => U (k * 12 + j)))) := by go_simp
            have hbv : bv < (w6.setCell ⟨g, k * 12 + 11, none⟩ (.int .i64 0)).heap.size := by simp; omega
            generalize (w6.setCell ⟨g, k * 12 + 11, none⟩ (.int .i64 0)) = w7 at hq0 hB0 t0 t1 hbv ⊢
            clear hO6 uf uc v0 v1
            obtain ⟨sx, hsx⟩ : ∃ sx, spX (fun j => U (k * 12 + j)) = sx := ⟨_, rfl⟩
            obtain ⟨sy, hsy⟩ : ∃ sy, spY (fun j => U (k * 12 + j)) = sy := ⟨_, rfl⟩
            rw [hsx] at t0
            rw [hsy] at t1
            rw [hsx] at HX
            rw [hsy] at HY
            clear hsx hsy
            go_wp2_with (go_at_call 29; refine (l1In_q _ _ _ false _ HX).mono ?_; rintro e w8 ⟨rfl, hb8⟩)
            have hq9 := hq0.below hb8
            rw [HS.out] at hq9
            go_roundw
            case rel => exact ⟨k + 1, by omega, by go_num, hB0.trans (hb8.mono hB0.size), hq9⟩
            case measure => simp [intOf]; omega
          | true =>
            cases IY with
            | false =>
              have HS : Shut ((fun r => if r = k * 12 + 11 then 0 else mapR (fun i V => quietV (U2 (i * 12 + 11)) V) U k r) = mapR (fun i V => quietV (U2 (i * 12 + 11)) V) U (k + 1)) := mapR_one (by omega) (fun i hi => by
                show quietV (U2 (k * 12 + 11)) (fun j => U (k * 12 + j)) i = _
                unfold quietV
                rw [NM, hSL, HX, HY]
                rfl)
              
              go_upto_region 7 with (go_at_call 112; refine (l6Speed_any (fun j => U (k * 12 + j)) _ bd6 bd7).mono ?_; rintro e w5 ⟨rfl, hb5⟩)
              have hE5 : Below w5.heap.size w5 (w5.alloc (Obj.cells #[.int .i64 (spX (fun j => U (k * 12 + j))), .int .i64 (spY (fun j => U (k * 12 + j)))] 30)) := (Below.refl _ _).alloc (Nat.le_refl _) _
              have hO6 := (hO4.on hb5).on hE5
              have v0 : (w5.alloc (Obj.cells #[.int .i64 (spX (fun j => U (k * 12 + j))), .int .i64 (spY (fun j => U (k * 12 + j)))] 30)).cell? ⟨w5.heap.size, 0, none⟩ = some (.int .i64 (spX (fun j => U (k * 12 + j)))) := by go_simp
              have v1 : (w5.alloc (Obj.cells #[.int .i64 (spX (fun j => U (k * 12 + j))), .int .i64 (spY (fun j => U (k * 12 + j)))] 30)).cell? ⟨w5.heap.size, 1, none⟩ = some (.int .i64 (spY (fun j => U (k * 12 + j)))) := by go_simp
              have hv5 : w5.heap.size < (w5.alloc (Obj.cells #[.int .i64 (spX (fun j => U (k * 12 + j))), .int .i64 (spY (fun j => U (k * 12 + j)))] 30)).heap.size := by simp
              have hgv : g < w5.heap.size := by have := hb5.size; have := hb4.size; omega
              generalize (w5.alloc (Obj.cells #[.int .i64 (spX (fun j => U (k * 12 + j))), .int .i64 (spY (fun j => U (k * 12 + j)))] 30)) = w6 at hE5 hO6 v0 v1 hv5 ⊢
              generalize w5.heap.size = bv at v0 v1 hv5 hgv hE5 ⊢
              clear hb5 hb4 hO4 hE5
              have ne1 : ¬ g = bv := by omega
              have ne2 : ¬ bv = g := by omega
              have uf := hO6.own.fro
              have uc := hO6.own.cellq (q := k * 12 + 11) (by omega)
              have hq0 := hO6.own.setq (k * 12 + 11) (by omega) 0
              have hB0 : Below w.heap.size w (w6.setCell ⟨g, k * 12 + 11, none⟩ (.int .i64 0)) := hO6.bel.setCell hg1 _
              go_upto_region 8 with fail
              have t0 : (w6.setCell ⟨g, k * 12 + 11, none⟩ (.int .i64 0)).cell? ⟨bv, 0, none⟩ = some (.int .i64 (spX (fun j => U (k * 12 + j)))) := by go_simp
              have t1 : (w6.setCell ⟨g, k * 12 + 11, none⟩ (.int .i64 0)).cell? ⟨bv, 1, none⟩ = some (.int .i64 (spY (fun j => U (k * 12 + j)))) := by go_simp
              have hbv : bv < (w6.setCell ⟨g, k * 12 + 11, none⟩ (.int .i64 0)).heap.size := by simp; omega
              generalize (w6.setCell ⟨g, k * 12 + 11, none⟩ (.int .i64 0)) = w7 at hq0 hB0 t0 t1 hbv ⊢
              clear hO6 uf uc v0 v1
              obtain ⟨sx, hsx⟩ : ∃ sx, spX (fun j => U (k * 12 + j)) = sx := ⟨_, rfl⟩
              obtain ⟨sy, hsy⟩ : ∃ sy, spY (fun j => U (k * 12 + j)) = sy := ⟨_, rfl⟩
              rw [hsx] at t0
              rw [hsy] at t1
              rw [hsx] at HX
              rw [hsy] at HY
              clear hsx hsy
              go_wp2_with (first
                | (have _ := hb8; go_at_call 29; refine (l1In_q _ _ _ false _ HY).mono ?_; rintro e w9 ⟨rfl, hb9⟩)
                | (go_at_call 29; refine (l1In_q _ _ _ true _ HX).mono ?_; rintro e w8 ⟨rfl, hb8⟩; obtain ⟨hc8, hf8⟩ := bcell hb8; have t2 := (hc8 bv 1 hbv).trans t1; clear hc8 hf8))
              have hq9 := hq0.below (hb8.trans (hb9.mono hb8.size))
              rw [HS.out] at hq9
              go_roundw
              case rel => exact ⟨k + 1, by omega, by go_num, hB0.trans ((hb8.trans (hb9.mono hb8.size)).mono hB0.size), hq9⟩
              case measure => simp [intOf]; omega
            | true =>
              obtain ⟨qv, hqv⟩ : ∃ qv, mn (U2 (k * 12 + 11) + 1) 7 = qv := ⟨_, rfl⟩
              have HS : Shut ((fun r => if r = k * 12 + 11 then qv else mapR (fun i V => quietV (U2 (i * 12 + 11)) V) U k r) = mapR (fun i V => quietV (U2 (i * 12 + 11)) V) U (k + 1)) := mapR_one (by omega) (fun i hi => by
                show quietV (U2 (k * 12 + 11)) (fun j => U (k * 12 + j)) i = _
                unfold quietV
                rw [NM, hSL, HX, HY, ← hqv]
                rfl)
              
              go_upto_region 7 with (go_at_call 112; refine (l6Speed_any (fun j => U (k * 12 + j)) _ bd6 bd7).mono ?_; rintro e w5 ⟨rfl, hb5⟩)
              have hE5 : Below w5.heap.size w5 (w5.alloc (Obj.cells #[.int .i64 (spX (fun j => U (k * 12 + j))), .int .i64 (spY (fun j => U (k * 12 + j)))] 30)) := (Below.refl _ _).alloc (Nat.le_refl _) _
              have hO6 := (hO4.on hb5).on hE5
              have v0 : (w5.alloc (Obj.cells #[.int .i64 (spX (fun j => U (k * 12 + j))), .int .i64 (spY (fun j => U (k * 12 + j)))] 30)).cell? ⟨w5.heap.size, 0, none⟩ = some (.int .i64 (spX (fun j => U (k * 12 + j)))) := by go_simp
              have v1 : (w5.alloc (Obj.cells #[.int .i64 (spX (fun j => U (k * 12 + j))), .int .i64 (spY (fun j => U (k * 12 + j)))] 30)).cell? ⟨w5.heap.size, 1, none⟩ = some (.int .i64 (spY (fun j => U (k * 12 + j)))) := by go_simp
              have hv5 : w5.heap.size < (w5.alloc (Obj.cells #[.int .i64 (spX (fun j => U (k * 12 + j))), .int .i64 (spY (fun j => U (k * 12 + j)))] 30)).heap.size := by simp
              have hgv : g < w5.heap.size := by have := hb5.size; have := hb4.size; omega
              generalize (w5.alloc (Obj.cells #[.int .i64 (spX (fun j => U (k * 12 + j))), .int .i64 (spY (fun j => U (k * 12 + j)))] 30)) = w6 at hE5 hO6 v0 v1 hv5 ⊢
              generalize w5.heap.size = bv at v0 v1 hv5 hgv hE5 ⊢
              clear hb5 hb4 hO4 hE5
              have ne1 : ¬ g = bv := by omega
              have ne2 : ¬ bv = g := by omega
              have uf := hO6.own.fro
              have uc := hO6.own.cellq (q := k * 12 + 11) (by omega)
              have hq0 := hO6.own.setq (k * 12 + 11) (by omega) 0
              have hB0 : Below w.heap.size w (w6.setCell ⟨g, k * 12 + 11, none⟩ (.int .i64 0)) := hO6.bel.setCell hg1 _
              go_upto_region 8 with fail
              have t0 : (w6.setCell ⟨g, k * 12 + 11, none⟩ (.int .i64 0)).cell? ⟨bv, 0, none⟩ = some (.int .i64 (spX (fun j => U (k * 12 + j)))) := by go_simp
              have t1 : (w6.setCell ⟨g, k * 12 + 11, none⟩ (.int .i64 0)).cell? ⟨bv, 1, none⟩ = some (.int .i64 (spY (fun j => U (k * 12 + j)))) := by go_simp
              have hbv : bv < (w6.setCell ⟨g, k * 12 + 11, none⟩ (.int .i64 0)).heap.size := by simp; omega
              generalize (w6.setCell ⟨g, k * 12 + 11, none⟩ (.int .i64 0)) = w7 at hq0 hB0 t0 t1 hbv ⊢
              clear hO6 uf uc v0 v1
              obtain ⟨sx, hsx⟩ : ∃ sx, spX (fun j => U (k * 12 + j)) = sx := ⟨_, rfl⟩
              obtain ⟨sy, hsy⟩ : ∃ sy, spY (fun j => U (k * 12 + j)) = sy := ⟨_, rfl⟩
              rw [hsx] at t0
              rw [hsy] at t1
              rw [hsx] at HX
              rw [hsy] at HY
              clear hsx hsy
              
              go_upto_region 9 with (first
                | (have _ := hb8; go_at_call 29; refine (l1In_q _ _ _ true _ HY).mono ?_; rintro e w9 ⟨rfl, hb9⟩)
                | (go_at_call 29; refine (l1In_q _ _ _ true _ HX).mono ?_; rintro e w8 ⟨rfl, hb8⟩; obtain ⟨hc8, hf8⟩ := bcell hb8; have t2 := (hc8 bv 1 hbv).trans t1; clear hc8 hf8))
              have hq9 := (hq0.below hb8).below hb9
              have hB9 : Below w.heap.size w w9 := hB0.trans ((hb8.trans (hb9.mono hb8.size)).mono hB0.size)
              clear hq0 hB0 hb8 hb9 t0 t1 t2
              obtain ⟨b2, o2, rfl, hbl2, hc2⟩ := (h2.below hB9) (by omega)
              have r2 := hc2 (k * 12 + 11) (by omega)
              simp only [← Nat.add_assoc] at r2
              clear hc2
              have hqb := hq2 k hlt
              have hwq : IntKind.i64.wrap (U2 (k * 12 + 11) + 1) = U2 (k * 12 + 11) + 1 := i64w (by omega)
              have uf := hq9.fro
              have uc := hq9.cellq (q := k * 12 + 11) (by omega)
              go_wp2_with (go_at_call 78; refine (l3Less_any _ _ _).mono ?_; rintro e wa ⟨rfl, ha⟩; have ha' := ha.symm; subst ha'; clear ha)
              have hqa := (hq9.setq (k * 12 + 11) (by omega) qv).congr (V := fun r => if r = k * 12 + 11 then qv else mapR (fun i V => quietV (U2 (i * 12 + 11)) V) U k r) (fun q _ => by by_cases e : q = k * 12 + 11 <;> simp [e])
              rw [HS.out] at hqa
              have hBa : Below w.heap.size w (w9.setCell ⟨g, k * 12 + 11, none⟩ (.int .i64 qv)) := hB9.setCell hg1 _
              go_roundw
              case rel => exact ⟨k + 1, by omega, by go_num, hBa, hqa⟩
              case measure => simp [intOf]; omega
    · obtain rfl : k = n := by omega
      go_wp2_with fail
      go_ret
      exact ⟨_, _, rfl, hO⟩
end Go.Proofs.YtkblddegfobpaaaGreat
namespace Go.Proofs.YtkblddegfobpaaaGreat
open Go.RowKit
set_option linter.unusedVariables false
set_option linter.unusedSimpArgs false
/-- a body that is ok, said plainly -/
structure BOk (V : Nat → Int) : Prop where
  i0 : 0 ≤ V 0 ∧ V 0 ≤ 999999999
  sh : shB (V 1) (V 2) (V 3) = true
  a4 : -2560000 ≤ V 4 ∧ V 4 ≤ 2560000
  a5 : -2560000 ≤ V 5 ∧ V 5 ≤ 2560000
  d6 : -20000000 ≤ V 6 ∧ V 6 ≤ 20000000
  d7 : -20000000 ≤ V 7 ∧ V 7 ≤ 20000000
  m8 : 0 ≤ V 8 ∧ V 8 ≤ 1000
  b9 : 0 ≤ V 9 ∧ V 9 ≤ 256
  r10 : 0 ≤ V 10 ∧ V 10 ≤ 256
  q11 : 0 ≤ V 11 ∧ V 11 ≤ 8
  fx : V 8 = 0 → V 11 = 0
  rs : (V 8 ≠ 0 ∧ V 11 ≠ 8) ∨ (V 6 = 0 ∧ V 7 = 0)
theorem BOk.of {V : Nat → Int} (h : bodyB V = true) : BOk V := by
  unfold bodyB restB inB at h
  simp only [Bool.and_eq_true, decide_eq_true_eq] at h
  obtain ⟨a0, a1, a2, a3, a4, a5, a6, a7, a8, a9⟩ := h
  exact ⟨a0, a1, by omega, by omega, by omega, by omega, a4, a5, a6, a7, a8, a9⟩
theorem BOk.to {V : Nat → Int} (h : BOk V) : bodyB V = true := by
  obtain ⟨a0, a1, a2, a3, a4, a5, a6, a7, a8, a9, b0, b1⟩ := h
  unfold bodyB restB inB
  simp only [Bool.and_eq_true, decide_eq_true_eq]
  exact ⟨a0, a1, by omega, by omega, a6, a7, a8, a9, b0, b1⟩
theorem clampZ_in (l n : Int) (h : 0 ≤ l) : -l ≤ clampZ l n ∧ clampZ l n ≤ l := by unfold clampZ; repeat (first | omega | split)
theorem setV_ne {V : Nat → Int} {k j : Nat} {a : Int} (h : j ≠ k) : setV V k a j = V j := by unfold setV; rw [if_neg h]
theorem setV_eq {V : Nat → Int} {k : Nat} {a : Int} : setV V k a k = a := by unfold setV; rw [if_pos rfl]
theorem pull_ok {V : Nat → Int} (g : Int) (h : BOk V) : BOk (pullV g V) := by
  unfold pullV
  cases hl : liveV V with
  | false => exact h
  | true =>
    unfold liveV at hl
    simp only [Bool.and_eq_true, decide_eq_true_eq, Bool.not_eq_true', decide_eq_false_iff_not] at hl
    have c := clampZ_in 20000000 (V 7 - g * V 8) (by omega)
    generalize clampZ 20000000 (V 7 - g * V 8) = y at c
    show BOk (setV V 7 y)
    obtain ⟨a0, a1, a2, a3, a4, a5, a6, a7, a8, a9, b0, b1⟩ := h
    constructor <;> simp only [setV, reduceIte] <;> (first | assumption | omega | (simp; assumption) | (simp; omega))
theorem setV4 (V : Nat → Int) (x y u v : Int) : (∀ j, j ≠ 4 → j ≠ 5 → j ≠ 6 → j ≠ 7 → setV (setV (setV (setV V 4 x) 5 y) 6 u) 7 v j = V j) ∧ setV (setV (setV (setV V 4 x) 5 y) 6 u) 7 v 4 = x ∧ setV (setV (setV (setV V 4 x) 5 y) 6 u) 7 v 5 = y ∧ setV (setV (setV (setV V 4 x) 5 y) 6 u) 7 v 6 = u ∧ setV (setV (setV (setV V 4 x) 5 y) 6 u) 7 v 7 = v := by
  refine ⟨fun j h4 h5 h6 h7 => ?_, ?_, ?_, ?_, setV_eq⟩
  · rw [setV_ne h7, setV_ne h6, setV_ne h5, setV_ne h4]
  · rw [setV_ne (by decide), setV_ne (by decide), setV_ne (by decide), setV_eq]
  · rw [setV_ne (by decide), setV_ne (by decide), setV_eq]
  · rw [setV_ne (by decide), setV_eq]
theorem setV3 (V : Nat → Int) (x y u : Int) : (∀ j, j ≠ 6 → j ≠ 7 → j ≠ 11 → setV (setV (setV V 6 x) 7 y) 11 u j = V j) ∧ setV (setV (setV V 6 x) 7 y) 11 u 6 = x ∧ setV (setV (setV V 6 x) 7 y) 11 u 7 = y ∧ setV (setV (setV V 6 x) 7 y) 11 u 11 = u := by
  refine ⟨fun j h6 h7 h11 => ?_, ?_, ?_, setV_eq⟩
  · rw [setV_ne h11, setV_ne h7, setV_ne h6]
  · rw [setV_ne (by decide), setV_ne (by decide), setV_eq]
  · rw [setV_ne (by decide), setV_eq]
theorem move_ok {V : Nat → Int} (p q : Int) (h : BOk V) (hm : V 8 ≠ 0) : BOk (moveV V p q) := by
  have c1 := clampZ_in 2560000 (V 4 + p) (by omega)
  have c2 := clampZ_in 2560000 (V 5 + q) (by omega)
  unfold moveV mvX mvY
  generalize clampZ 2560000 (V 4 + p) = x at c1
  generalize clampZ 2560000 (V 5 + q) = y at c2
  obtain ⟨a0, a1, a2, a3, a4, a5, a6, a7, a8, a9, b0, b1⟩ := h
  obtain ⟨u, hu⟩ : ∃ u, (if x = V 4 + p then V 6 else 0) = u := ⟨_, rfl⟩
  obtain ⟨v, hv⟩ : ∃ v, (if y = V 5 + q then V 7 else 0) = v := ⟨_, rfl⟩
  rw [hu, hv]
  have bu : (-20000000 ≤ u ∧ u ≤ 20000000) ∧ (V 6 = 0 → u = 0) := by rw [← hu]; split <;> constructor <;> (try intro) <;> omega
  have bv : (-20000000 ≤ v ∧ v ≤ 20000000) ∧ (V 7 = 0 → v = 0) := by rw [← hv]; split <;> constructor <;> (try intro) <;> omega
  obtain ⟨e, e4, e5, e6, e7⟩ := setV4 V x y u v
  generalize setV (setV (setV (setV V 4 x) 5 y) 6 u) 7 v = W at e e4 e5 e6 e7
  have w0 := e 0 (by decide) (by decide) (by decide) (by decide)
  have w1 := e 1 (by decide) (by decide) (by decide) (by decide)
  have w2 := e 2 (by decide) (by decide) (by decide) (by decide)
  have w3 := e 3 (by decide) (by decide) (by decide) (by decide)
  have w8 := e 8 (by decide) (by decide) (by decide) (by decide)
  have w9 := e 9 (by decide) (by decide) (by decide) (by decide)
  have wa := e 10 (by decide) (by decide) (by decide) (by decide)
  have wb := e 11 (by decide) (by decide) (by decide) (by decide)
  exact ⟨by rw [w0]; exact a0, by rw [w1, w2, w3]; exact a1, by rw [e4]; exact c1, by rw [e5]; exact c2, by rw [e6]; exact bu.1, by rw [e7]; exact bv.1, by rw [w8]; exact a6, by rw [w9]; exact a7, by rw [wa]; exact a8, by rw [wb]; exact a9, by rw [w8, wb]; exact b0, by rw [w8, wb, e6, e7]; rcases b1 with q | q; exact .inl q; exact .inr ⟨bu.2 q.1, bv.2 q.2⟩⟩
theorem go_ok {V : Nat → Int} (h : BOk V) : BOk (goV V) := by
  unfold goV
  cases hl : liveV V with
  | false => exact h
  | true =>
    unfold liveV at hl
    simp only [Bool.and_eq_true, decide_eq_true_eq, Bool.not_eq_true', decide_eq_false_iff_not] at hl
    exact move_ok _ _ h (by omega)
theorem quiet_ok {V : Nat → Int} (r : Int) (h : BOk V) (hr : 0 ≤ r ∧ r ≤ 8) : BOk (quietV r V) := by
  unfold quietV
  cases hl : (decide (V 8 = 0) || decide (8 ≤ V 11)) with
  | true => exact h
  | false =>
    simp only [Bool.or_eq_false_iff, decide_eq_false_iff_not] at hl
    obtain ⟨z, hz⟩ : ∃ z, (bif decide (-8 ≤ spX V ∧ spX V ≤ 8) && decide (-8 ≤ spY V ∧ spY V ≤ 8) then mn (r + 1) 7 else 0) = z := ⟨_, rfl⟩
    rw [hz]
    have bz : 0 ≤ z ∧ z ≤ 7 := by
      rw [← hz]
      cases (decide (-8 ≤ spX V ∧ spX V ≤ 8) && decide (-8 ≤ spY V ∧ spY V ≤ 8))
      · exact ⟨by show (0 : Int) ≤ 0; omega, by show (0 : Int) ≤ 7; omega⟩
      · show 0 ≤ mn (r + 1) 7 ∧ mn (r + 1) 7 ≤ 7
        unfold mn
        split <;> omega
    show BOk (setV V 11 z)
    obtain ⟨a0, a1, a2, a3, a4, a5, a6, a7, a8, a9, b0, b1⟩ := h
    constructor <;> simp only [setV, reduceIte] <;> (first | assumption | omega | (simp; assumption) | (simp; omega))
theorem push_ok {V : Nat → Int} (p q : Int) (h : BOk V) : BOk (pushV V p q) := by
  unfold pushV
  by_cases m : V 8 = 0
  · rw [if_pos m]; exact h
  · rw [if_neg m]
    have c1 := clampZ_in 20000000 (V 6 + p) (by omega)
    have c2 := clampZ_in 20000000 (V 7 + q) (by omega)
    generalize clampZ 20000000 (V 6 + p) = x at c1
    generalize clampZ 20000000 (V 7 + q) = y at c2
    obtain ⟨a0, a1, a2, a3, a4, a5, a6, a7, a8, a9, b0, b1⟩ := h
    obtain ⟨e, e6, e7, eb⟩ := setV3 V x y 0
    generalize setV (setV (setV V 6 x) 7 y) 11 0 = W at e e6 e7 eb
    have w0 := e 0 (by decide) (by decide) (by decide)
    have w1 := e 1 (by decide) (by decide) (by decide)
    have w2 := e 2 (by decide) (by decide) (by decide)
    have w3 := e 3 (by decide) (by decide) (by decide)
    have w4 := e 4 (by decide) (by decide) (by decide)
    have w5 := e 5 (by decide) (by decide) (by decide)
    have w8 := e 8 (by decide) (by decide) (by decide)
    have w9 := e 9 (by decide) (by decide) (by decide)
    have wa := e 10 (by decide) (by decide) (by decide)
    exact ⟨by rw [w0]; exact a0, by rw [w1, w2, w3]; exact a1, by rw [w4]; exact a2, by rw [w5]; exact a3, by rw [e6]; exact c1, by rw [e7]; exact c2, by rw [w8]; exact a6, by rw [w9]; exact a7, by rw [wa]; exact a8, by rw [eb]; omega, by rw [eb]; exact fun _ => rfl, .inl ⟨by rw [w8]; exact m, by rw [eb]; decide⟩⟩
/-- one row replaced by a body with the same number -/
theorem Bods.put {n : Nat} {U : Nat → Int} {k : Nat} {V : Nat → Int} (h : Bods n U) (hk : k < n) (hV : BOk V) (h0 : V 0 = U (k * 12)) : Bods n (putRow U k V) := by
  have at_ : ∀ i j, i ≠ k → j < 12 → putRow U k V (i * 12 + j) = U (i * 12 + j) := fun i j hi hj => by unfold putRow; rw [if_neg (by omega)]
  have at0 : ∀ i, putRow U k V (i * 12) = U (i * 12) := fun i => by
    by_cases e : i = k
    · subst e; unfold putRow; rw [if_pos (by omega), Nat.sub_self]; exact h0
    · have := at_ i 0 e (by omega); simpa using this
  refine ⟨h.le, fun i hi => ?_, fun i hi => ?_⟩
  · by_cases e : i = k
    · subst e
      rw [bodyB_cong (W := V) (fun j hj => by unfold putRow; rw [if_pos (by omega), Nat.add_sub_cancel_left])]
      exact hV.to
    · rw [bodyB_cong (W := fun j => U (i * 12 + j)) (fun j hj => at_ i j e hj)]
      exact h.ok i hi
  · rw [at0, at0]; exact h.asc i hi
theorem Bods.row {n : Nat} {U : Nat → Int} (h : Bods n U) {k : Nat} (hk : k < n) : BOk (fun j => U (k * 12 + j)) := BOk.of (h.ok k hk)
theorem Bods.pull {n : Nat} {U : Nat → Int} (h : Bods n U) (g : Int) : Bods n (mapR (fun _ V => pullV g V) U n) :=
  h.map (fun k hk => (pull_ok g (h.row hk)).to) (fun k hk => by show pullV g (fun j => U (k * 12 + j)) 0 = _; unfold pullV; cases liveV (fun j => U (k * 12 + j)) <;> rfl)
theorem Bods.go {n : Nat} {U : Nat → Int} (h : Bods n U) : Bods n (mapR (fun _ V => goV V) U n) :=
  h.map (fun k hk => (go_ok (h.row hk)).to) (fun k hk => by show goV (fun j => U (k * 12 + j)) 0 = _; unfold goV; cases liveV (fun j => U (k * 12 + j)) <;> rfl)
theorem Bods.quiet {n : Nat} {U U2 : Nat → Int} (h : Bods n U) (h2 : Bods n U2) : Bods n (mapR (fun i V => quietV (U2 (i * 12 + 11)) V) U n) :=
  h.map (fun k hk => (quiet_ok _ (h.row hk) (h2.row hk).q11).to) (fun k hk => by show quietV _ (fun j => U (k * 12 + j)) 0 = _; unfold quietV; cases (decide ((fun j => U (k * 12 + j)) 8 = 0) || decide (8 ≤ (fun j => U (k * 12 + j)) 11)) <;> rfl)
end Go.Proofs.YtkblddegfobpaaaGreat
namespace Go.Proofs.YtkblddegfobpaaaGreat
open Go.RowKit
set_option linter.unusedVariables false
set_option linter.unusedSimpArgs false
theorem bod_mk {id k g h x y dx dy m bo ru q : Int} (h0 : 0 ≤ id ∧ id ≤ 999999999) (hs : shB k g h = true) (hp : Bm x ∧ Bm y) (hd : (-64000 ≤ dx ∧ dx ≤ 64000) ∧ -64000 ≤ dy ∧ dy ≤ 64000) (hm : 0 ≤ m ∧ m ≤ 100) (hb : 0 ≤ bo ∧ bo ≤ 256) (hr : 0 ≤ ru ∧ ru ≤ 256) (hq : 0 ≤ q ∧ q ≤ 8) (z1 : m = 0 → dx = 0 ∧ dy = 0 ∧ q = 0) (z2 : q = 8 → dx = 0 ∧ dy = 0) :
    bodyB (fun j => [id, k, g, h, x, y, dx, dy, m, bo, ru, q].getD j 0) = true := by
  unfold bodyB restB inB
  show (decide (0 ≤ id ∧ id ≤ 999999999) && (shB k g h && _)) = true
  unfold Bm at hp
  rw [hs, decide_eq_true h0]
  simp only [Bool.true_and, Bool.and_eq_true, decide_eq_true_eq]
  simp only [List.getD_cons_succ, List.getD_cons_zero]
  refine ⟨by omega, by omega, by omega, by omega, by omega, by omega, ?_⟩
  by_cases e : m = 0
  · have := z1 e; omega
  · by_cases e2 : q = 8
    · have := z2 e2; omega
    · omega
theorem bl12 {w w' : World} {rb p b : Nat} {V : Nat → Int} (h : BL w w' rb p [(b, 12, V)]) {x0 x1 x2 x3 x4 x5 x6 x7 x8 x9 x10 x11 : Int} : RB w ((((((((((((w'.setCell ⟨b, 0, none⟩ (.int .i64 x0)).setCell ⟨b, 1, none⟩ (.int .i64 x1)).setCell ⟨b, 2, none⟩ (.int .i64 x2)).setCell ⟨b, 3, none⟩ (.int .i64 x3)).setCell ⟨b, 4, none⟩ (.int .i64 x4)).setCell ⟨b, 5, none⟩ (.int .i64 x5)).setCell ⟨b, 6, none⟩ (.int .i64 x6)).setCell ⟨b, 7, none⟩ (.int .i64 x7)).setCell ⟨b, 8, none⟩ (.int .i64 x8)).setCell ⟨b, 9, none⟩ (.int .i64 x9)).setCell ⟨b, 10, none⟩ (.int .i64 x10)).setCell ⟨b, 11, none⟩ (.int .i64 x11)) rb p :=
  ((((((((((((h.set (fun z hz => by cases hz) 0 (by decide) x0).set (fun z hz => by cases hz) 1 (by decide) x1).set (fun z hz => by cases hz) 2 (by decide) x2).set (fun z hz => by cases hz) 3 (by decide) x3).set (fun z hz => by cases hz) 4 (by decide) x4).set (fun z hz => by cases hz) 5 (by decide) x5).set (fun z hz => by cases hz) 6 (by decide) x6).set (fun z hz => by cases hz) 7 (by decide) x7).set (fun z hz => by cases hz) 8 (by decide) x8).set (fun z hz => by cases hz) 9 (by decide) x9).set (fun z hz => by cases hz) 10 (by decide) x10).set (fun z hz => by cases hz) 11 (by decide) x11).done
set_option maxRecDepth 20000 in
set_option maxHeartbeats 8000000 in
theorem l11Body_k (rb p : Nat) (id : Int) (w : World) (hs0 : RS w rb p) (hp : p ≤ 800000) (hid : 0 ≤ id ∧ id ≤ 999999999) :
    Calls Tryz.prog 41 #[.pointer (some ⟨rb, 0, none⟩), .int .i64 id] w fun e w' => ∃ V : Nat → Int, e = .returned (bodyW V) ∧ (bodyB V = true ∧ V 0 = id ∧ V 8 ≤ 100) ∧ RB w w' rb (p + 1000) := by
  have hlt := hs0.lt
  have hset := cset_map
  have hD : BL w (w.alloc (.cells #[.int .i64 0, .int .i64 0, .int .i64 0, .int .i64 0, .int .i64 0, .int .i64 0, .int .i64 0, .int .i64 0, .int .i64 0, .int .i64 0, .int .i64 0, .int .i64 0] 38)) rb p [(w.heap.size, 12, (fun _ => 0))] := (BL.start hs0).new _ 12 (fun _ => 0) rfl (by intro i hi; rcases (show i = 0 ∨ i = 1 ∨ i = 2 ∨ i = 3 ∨ i = 4 ∨ i = 5 ∨ i = 6 ∨ i = 7 ∨ i = 8 ∨ i = 9 ∨ i = 10 ∨ i = 11 by omega) with rfl | rfl | rfl | rfl | rfl | rfl | rfl | rfl | rfl | rfl | rfl | rfl <;> rfl)
  go_enter Tryz.func41, Tryz.ntmps41
  go_upto_region 1 with fail
  generalize w.alloc (.cells #[.int .i64 0, .int .i64 0, .int .i64 0, .int .i64 0, .int .i64 0, .int .i64 0, .int .i64 0, .int .i64 0, .int .i64 0, .int .i64 0, .int .i64 0, .int .i64 0] 38) = w0 at hD ⊢
  go_cut [5] (fun s5 wc => ∃ (ab : Nat) (k g h x y m bo ru : Int), s5 = .pointer (some ⟨ab, 0, none⟩) ∧ w.heap.size < ab ∧ (shB k g h = true ∧ (Bm x ∧ Bm y) ∧ (0 ≤ m ∧ m ≤ 100) ∧ (0 ≤ bo ∧ bo ≤ 256) ∧ (0 ≤ ru ∧ ru ≤ 256)) ∧ BL w wc rb (p + 500) [(ab, 12, (fun j => [id, k, g, h, x, y, 0, 0, m, bo, ru, 0].getD j 0)), (w.heap.size, 12, (fun _ => 0))])
  case first =>
    go_wp2_with (first
    | (have _ := hr4; go_at_call 44; refine (one_s (0) 256 rb (p + 400) _ _ _ _ _ (by exact RS.up hr4 (by omega)) (by omega) (by repeat (first | exact AllBd.nil | refine AllBd.cons (by omega) (by omega) ?_)) (by rfl) (by omega) (by omega)).mono ?_; rintro e w5 ⟨v5, rfl, va5, vb5, hr5⟩)
    | (have _ := hr3; go_at_call 44; refine (one_s (0) 256 rb (p + 300) _ _ _ _ _ (by exact RS.up hr3 (by omega)) (by omega) (by repeat (first | exact AllBd.nil | refine AllBd.cons (by omega) (by omega) ?_)) (by rfl) (by omega) (by omega)).mono ?_; rintro e w4 ⟨v4, rfl, va4, vb4, hr4⟩)
    | (have _ := hr2; go_at_call 44; refine (one_s (0) 100 rb (p + 200) _ _ _ _ _ (by exact RS.up hr2 (by omega)) (by omega) (by repeat (first | exact AllBd.nil | refine AllBd.cons (by omega) (by omega) ?_)) (by rfl) (by omega) (by omega)).mono ?_; rintro e w3 ⟨v3, rfl, va3, vb3, hr3⟩)
    | (have _ := hr1; go_at_call 76; refine (l11Place_s rb (p + 100) _ (by exact RS.up hr1 (by omega)) (by omega)).mono ?_; rintro e w2 ⟨x2, y2, rfl, hd2, hr2⟩)
    | (go_at_call 75; refine (l11Shape_k rb p _ (by exact hD.rs) (by omega)).mono ?_; rintro e w1 ⟨k1, g1, h1, rfl, hd1, hr1⟩))
    go_meet
    have hD5 := ((((hD.call hr1).call hr2).call hr3).call hr4).call hr5
    have q1 : w.heap.size < w5.heap.size := hD5.lt (x := (w.heap.size, 12, (fun _ => 0))) (by simp)
    exact ⟨_, k1, g1, h1, x2, y2, v3, v4, v5, rfl, q1, ⟨hd1, hd2, ⟨va3, vb3⟩, ⟨va4, vb4⟩, ⟨va5, vb5⟩⟩, (hD5.mono (by omega)).new _ 12 (fun j => [id, k1, g1, h1, x2, y2, 0, 0, v3, v4, v5, 0].getD j 0) rfl (by intro i hi; rcases (show i = 0 ∨ i = 1 ∨ i = 2 ∨ i = 3 ∨ i = 4 ∨ i = 5 ∨ i = 6 ∨ i = 7 ∨ i = 8 ∨ i = 9 ∨ i = 10 ∨ i = 11 by omega) with rfl | rfl | rfl | rfl | rfl | rfl | rfl | rfl | rfl | rfl | rfl | rfl <;> rfl)⟩
  case rest =>
  clear hD
  obtain ⟨ab, k, g, h, x, y, m, bo, ru, rfl, hab, ⟨hsh, hpl, hm, hbo, hru⟩, hD⟩ := hcut
  have hns : ∀ z ∈ ([(w.heap.size, 12, (fun _ => 0))] : Bls), z.1 ≠ ab := fun z hz => by rw [List.mem_singleton.1 hz]; show w.heap.size ≠ ab; omega
  have c0 : wc.cell? ⟨ab, 0, none⟩ = some (.int .i64 id) := (hD.get (x := (ab, 12, (fun j => [id, k, g, h, x, y, 0, 0, m, bo, ru, 0].getD j 0))) (by simp)).2.2.1 0 (show 0 < 12 by decide)
  have c1 : wc.cell? ⟨ab, 1, none⟩ = some (.int .i64 k) := (hD.get (x := (ab, 12, (fun j => [id, k, g, h, x, y, 0, 0, m, bo, ru, 0].getD j 0))) (by simp)).2.2.1 1 (show 1 < 12 by decide)
  have c2 : wc.cell? ⟨ab, 2, none⟩ = some (.int .i64 g) := (hD.get (x := (ab, 12, (fun j => [id, k, g, h, x, y, 0, 0, m, bo, ru, 0].getD j 0))) (by simp)).2.2.1 2 (show 2 < 12 by decide)
  have c3 : wc.cell? ⟨ab, 3, none⟩ = some (.int .i64 h) := (hD.get (x := (ab, 12, (fun j => [id, k, g, h, x, y, 0, 0, m, bo, ru, 0].getD j 0))) (by simp)).2.2.1 3 (show 3 < 12 by decide)
  have c4 : wc.cell? ⟨ab, 4, none⟩ = some (.int .i64 x) := (hD.get (x := (ab, 12, (fun j => [id, k, g, h, x, y, 0, 0, m, bo, ru, 0].getD j 0))) (by simp)).2.2.1 4 (show 4 < 12 by decide)
  have c5 : wc.cell? ⟨ab, 5, none⟩ = some (.int .i64 y) := (hD.get (x := (ab, 12, (fun j => [id, k, g, h, x, y, 0, 0, m, bo, ru, 0].getD j 0))) (by simp)).2.2.1 5 (show 5 < 12 by decide)
  have c6 : wc.cell? ⟨ab, 6, none⟩ = some (.int .i64 0) := (hD.get (x := (ab, 12, (fun j => [id, k, g, h, x, y, 0, 0, m, bo, ru, 0].getD j 0))) (by simp)).2.2.1 6 (show 6 < 12 by decide)
  have c7 : wc.cell? ⟨ab, 7, none⟩ = some (.int .i64 0) := (hD.get (x := (ab, 12, (fun j => [id, k, g, h, x, y, 0, 0, m, bo, ru, 0].getD j 0))) (by simp)).2.2.1 7 (show 7 < 12 by decide)
  have c8 : wc.cell? ⟨ab, 8, none⟩ = some (.int .i64 m) := (hD.get (x := (ab, 12, (fun j => [id, k, g, h, x, y, 0, 0, m, bo, ru, 0].getD j 0))) (by simp)).2.2.1 8 (show 8 < 12 by decide)
  have c9 : wc.cell? ⟨ab, 9, none⟩ = some (.int .i64 bo) := (hD.get (x := (ab, 12, (fun j => [id, k, g, h, x, y, 0, 0, m, bo, ru, 0].getD j 0))) (by simp)).2.2.1 9 (show 9 < 12 by decide)
  have c10 : wc.cell? ⟨ab, 10, none⟩ = some (.int .i64 ru) := (hD.get (x := (ab, 12, (fun j => [id, k, g, h, x, y, 0, 0, m, bo, ru, 0].getD j 0))) (by simp)).2.2.1 10 (show 10 < 12 by decide)
  have c11 : wc.cell? ⟨ab, 11, none⟩ = some (.int .i64 0) := (hD.get (x := (ab, 12, (fun j => [id, k, g, h, x, y, 0, 0, m, bo, ru, 0].getD j 0))) (by simp)).2.2.1 11 (show 11 < 12 by decide)
  have cf := fun j (hj : j < 12) => (hD.get (x := (ab, 12, (fun j => [id, k, g, h, x, y, 0, 0, m, bo, ru, 0].getD j 0))) (by simp)).2.2.2 j hj
  have cf0 : wc.frozen? ⟨ab, 0, none⟩ = false := cf 0 (by decide)
  have cf1 : wc.frozen? ⟨ab, 1, none⟩ = false := cf 1 (by decide)
  have cf2 : wc.frozen? ⟨ab, 2, none⟩ = false := cf 2 (by decide)
  have cf3 : wc.frozen? ⟨ab, 3, none⟩ = false := cf 3 (by decide)
  have cf4 : wc.frozen? ⟨ab, 4, none⟩ = false := cf 4 (by decide)
  have cf5 : wc.frozen? ⟨ab, 5, none⟩ = false := cf 5 (by decide)
  have cf6 : wc.frozen? ⟨ab, 6, none⟩ = false := cf 6 (by decide)
  have cf7 : wc.frozen? ⟨ab, 7, none⟩ = false := cf 7 (by decide)
  have cf8 : wc.frozen? ⟨ab, 8, none⟩ = false := cf 8 (by decide)
  have cf9 : wc.frozen? ⟨ab, 9, none⟩ = false := cf 9 (by decide)
  have cf10 : wc.frozen? ⟨ab, 10, none⟩ = false := cf 10 (by decide)
  have cf11 : wc.frozen? ⟨ab, 11, none⟩ = false := cf 11 (by decide)
  go_upto_region 2 with fail
  go_cut [] (fun wc => ∃ dx dy : Int, (((-64000 ≤ dx ∧ dx ≤ 64000) ∧ -64000 ≤ dy ∧ dy ≤ 64000) ∧ (m = 0 → dx = 0 ∧ dy = 0)) ∧ BL w wc rb (p + 600) [(ab, 12, (fun j => [id, k, g, h, x, y, dx, dy, m, bo, ru, 0].getD j 0)), (w.heap.size, 12, (fun _ => 0))])
  case first =>
    go_wp2_with (go_at_call 77; refine (l11Drive_k rb (p + 500) m _ (by exact hD.rs) (by omega) hm).mono ?_; rintro e w6 ⟨dx, dy, rfl, hd6, hr6⟩; have hD6 := (hD.call hr6).mono (p1 := p + 600) (by omega); clear c0 cf0 c1 cf1 c2 cf2 c3 cf3 c4 cf4 c5 cf5 c6 cf6 c7 cf7 c8 cf8 c9 cf9 c10 cf10 c11 cf11 cf; clear hD; have hD := hD6; clear hD6; have c0 : w6.cell? ⟨ab, 0, none⟩ = some (.int .i64 id) := (hD.get (x := (ab, 12, (fun j => [id, k, g, h, x, y, 0, 0, m, bo, ru, 0].getD j 0))) (by simp)).2.2.1 0 (show 0 < 12 by decide); have c1 : w6.cell? ⟨ab, 1, none⟩ = some (.int .i64 k) := (hD.get (x := (ab, 12, (fun j => [id, k, g, h, x, y, 0, 0, m, bo, ru, 0].getD j 0))) (by simp)).2.2.1 1 (show 1 < 12 by decide); have c2 : w6.cell? ⟨ab, 2, none⟩ = some (.int .i64 g) := (hD.get (x := (ab, 12, (fun j => [id, k, g, h, x, y, 0, 0, m, bo, ru, 0].getD j 0))) (by simp)).2.2.1 2 (show 2 < 12 by decide); have c3 : w6.cell? ⟨ab, 3, none⟩ = some (.int .i64 h) := (hD.get (x := (ab, 12, (fun j => [id, k, g, h, x, y, 0, 0, m, bo, ru, 0].getD j 0))) (by simp)).2.2.1 3 (show 3 < 12 by decide); have c4 : w6.cell? ⟨ab, 4, none⟩ = some (.int .i64 x) := (hD.get (x := (ab, 12, (fun j => [id, k, g, h, x, y, 0, 0, m, bo, ru, 0].getD j 0))) (by simp)).2.2.1 4 (show 4 < 12 by decide); have c5 : w6.cell? ⟨ab, 5, none⟩ = some (.int .i64 y) := (hD.get (x := (ab, 12, (fun j => [id, k, g, h, x, y, 0, 0, m, bo, ru, 0].getD j 0))) (by simp)).2.2.1 5 (show 5 < 12 by decide); have c6 : w6.cell? ⟨ab, 6, none⟩ = some (.int .i64 0) := (hD.get (x := (ab, 12, (fun j => [id, k, g, h, x, y, 0, 0, m, bo, ru, 0].getD j 0))) (by simp)).2.2.1 6 (show 6 < 12 by decide); have c7 : w6.cell? ⟨ab, 7, none⟩ = some (.int .i64 0) := (hD.get (x := (ab, 12, (fun j => [id, k, g, h, x, y, 0, 0, m, bo, ru, 0].getD j 0))) (by simp)).2.2.1 7 (show 7 < 12 by decide); have c8 : w6.cell? ⟨ab, 8, none⟩ = some (.int .i64 m) := (hD.get (x := (ab, 12, (fun j => [id, k, g, h, x, y, 0, 0, m, bo, ru, 0].getD j 0))) (by simp)).2.2.1 8 (show 8 < 12 by decide); have c9 : w6.cell? ⟨ab, 9, none⟩ = some (.int .i64 bo) := (hD.get (x := (ab, 12, (fun j => [id, k, g, h, x, y, 0, 0, m, bo, ru, 0].getD j 0))) (by simp)).2.2.1 9 (show 9 < 12 by decide); have c10 : w6.cell? ⟨ab, 10, none⟩ = some (.int .i64 ru) := (hD.get (x := (ab, 12, (fun j => [id, k, g, h, x, y, 0, 0, m, bo, ru, 0].getD j 0))) (by simp)).2.2.1 10 (show 10 < 12 by decide); have c11 : w6.cell? ⟨ab, 11, none⟩ = some (.int .i64 0) := (hD.get (x := (ab, 12, (fun j => [id, k, g, h, x, y, 0, 0, m, bo, ru, 0].getD j 0))) (by simp)).2.2.1 11 (show 11 < 12 by decide); have cf := fun j (hj : j < 12) => (hD.get (x := (ab, 12, (fun j => [id, k, g, h, x, y, 0, 0, m, bo, ru, 0].getD j 0))) (by simp)).2.2.2 j hj; have cf0 : w6.frozen? ⟨ab, 0, none⟩ = false := cf 0 (by decide); have cf1 : w6.frozen? ⟨ab, 1, none⟩ = false := cf 1 (by decide); have cf2 : w6.frozen? ⟨ab, 2, none⟩ = false := cf 2 (by decide); have cf3 : w6.frozen? ⟨ab, 3, none⟩ = false := cf 3 (by decide); have cf4 : w6.frozen? ⟨ab, 4, none⟩ = false := cf 4 (by decide); have cf5 : w6.frozen? ⟨ab, 5, none⟩ = false := cf 5 (by decide); have cf6 : w6.frozen? ⟨ab, 6, none⟩ = false := cf 6 (by decide); have cf7 : w6.frozen? ⟨ab, 7, none⟩ = false := cf 7 (by decide); have cf8 : w6.frozen? ⟨ab, 8, none⟩ = false := cf 8 (by decide); have cf9 : w6.frozen? ⟨ab, 9, none⟩ = false := cf 9 (by decide); have cf10 : w6.frozen? ⟨ab, 10, none⟩ = false := cf 10 (by decide); have cf11 : w6.frozen? ⟨ab, 11, none⟩ = false := cf 11 (by decide))
    go_meet
    exact ⟨dx, dy, hd6, ((hD.set hns 6 (by decide) dx).set hns 7 (by decide) dy).headc (fun i hi => by rcases (show i = 0 ∨ i = 1 ∨ i = 2 ∨ i = 3 ∨ i = 4 ∨ i = 5 ∨ i = 6 ∨ i = 7 ∨ i = 8 ∨ i = 9 ∨ i = 10 ∨ i = 11 by omega) with rfl | rfl | rfl | rfl | rfl | rfl | rfl | rfl | rfl | rfl | rfl | rfl <;> rfl)⟩
  case rest =>
  clear c0 cf0 c1 cf1 c2 cf2 c3 cf3 c4 cf4 c5 cf5 c6 cf6 c7 cf7 c8 cf8 c9 cf9 c10 cf10 c11 cf11 cf
  clear hD
  obtain ⟨dx, dy, ⟨hd, hz⟩, hD⟩ := hcut
  go_upto_region 3 with fail
  go_cut [27] (fun s27 wc => ∃ v7 : Int, s27 = .int .i64 v7 ∧ BL w wc rb (p + 650) [(ab, 12, (fun j => [id, k, g, h, x, y, dx, dy, m, bo, ru, 0].getD j 0)), (w.heap.size, 12, (fun _ => 0))])
  case first =>
    go_wp2_with (go_at_call 20; refine (pick_s rb (p + 600) _ _ (by exact hD.rs) (by omega) (by omega) (by omega)).mono ?_; rintro e w7 ⟨v7, rfl, va7, vb7, hr7⟩)
    go_meet
    exact ⟨_, rfl, (hD.call hr7).mono (by omega)⟩
  case rest =>
  clear hD
  obtain ⟨v7, rfl, hD⟩ := hcut
  rename_i hKK
  refine hKK _ _ ?_
  go_cut [] (fun wc => ∃ ex ey q : Int, (((-64000 ≤ ex ∧ ex ≤ 64000) ∧ -64000 ≤ ey ∧ ey ≤ 64000) ∧ (m = 0 → ex = 0 ∧ ey = 0) ∧ (0 ≤ q ∧ q ≤ 8) ∧ (q = 8 → ex = 0 ∧ ey = 0)) ∧ BL w wc rb (p + 700) [(ab, 12, (fun j => [id, k, g, h, x, y, ex, ey, m, bo, ru, q].getD j 0)), (w.heap.size, 12, (fun _ => 0))])
  case first =>
    have c0 : wc.cell? ⟨ab, 0, none⟩ = some (.int .i64 id) := (hD.get (x := (ab, 12, (fun j => [id, k, g, h, x, y, dx, dy, m, bo, ru, 0].getD j 0))) (by simp)).2.2.1 0 (show 0 < 12 by decide)
    have c1 : wc.cell? ⟨ab, 1, none⟩ = some (.int .i64 k) := (hD.get (x := (ab, 12, (fun j => [id, k, g, h, x, y, dx, dy, m, bo, ru, 0].getD j 0))) (by simp)).2.2.1 1 (show 1 < 12 by decide)
    have c2 : wc.cell? ⟨ab, 2, none⟩ = some (.int .i64 g) := (hD.get (x := (ab, 12, (fun j => [id, k, g, h, x, y, dx, dy, m, bo, ru, 0].getD j 0))) (by simp)).2.2.1 2 (show 2 < 12 by decide)
    have c3 : wc.cell? ⟨ab, 3, none⟩ = some (.int .i64 h) := (hD.get (x := (ab, 12, (fun j => [id, k, g, h, x, y, dx, dy, m, bo, ru, 0].getD j 0))) (by simp)).2.2.1 3 (show 3 < 12 by decide)
    have c4 : wc.cell? ⟨ab, 4, none⟩ = some (.int .i64 x) := (hD.get (x := (ab, 12, (fun j => [id, k, g, h, x, y, dx, dy, m, bo, ru, 0].getD j 0))) (by simp)).2.2.1 4 (show 4 < 12 by decide)
    have c5 : wc.cell? ⟨ab, 5, none⟩ = some (.int .i64 y) := (hD.get (x := (ab, 12, (fun j => [id, k, g, h, x, y, dx, dy, m, bo, ru, 0].getD j 0))) (by simp)).2.2.1 5 (show 5 < 12 by decide)
    have c6 : wc.cell? ⟨ab, 6, none⟩ = some (.int .i64 dx) := (hD.get (x := (ab, 12, (fun j => [id, k, g, h, x, y, dx, dy, m, bo, ru, 0].getD j 0))) (by simp)).2.2.1 6 (show 6 < 12 by decide)
    have c7 : wc.cell? ⟨ab, 7, none⟩ = some (.int .i64 dy) := (hD.get (x := (ab, 12, (fun j => [id, k, g, h, x, y, dx, dy, m, bo, ru, 0].getD j 0))) (by simp)).2.2.1 7 (show 7 < 12 by decide)
    have c8 : wc.cell? ⟨ab, 8, none⟩ = some (.int .i64 m) := (hD.get (x := (ab, 12, (fun j => [id, k, g, h, x, y, dx, dy, m, bo, ru, 0].getD j 0))) (by simp)).2.2.1 8 (show 8 < 12 by decide)
    have c9 : wc.cell? ⟨ab, 9, none⟩ = some (.int .i64 bo) := (hD.get (x := (ab, 12, (fun j => [id, k, g, h, x, y, dx, dy, m, bo, ru, 0].getD j 0))) (by simp)).2.2.1 9 (show 9 < 12 by decide)
    have c10 : wc.cell? ⟨ab, 10, none⟩ = some (.int .i64 ru) := (hD.get (x := (ab, 12, (fun j => [id, k, g, h, x, y, dx, dy, m, bo, ru, 0].getD j 0))) (by simp)).2.2.1 10 (show 10 < 12 by decide)
    have c11 : wc.cell? ⟨ab, 11, none⟩ = some (.int .i64 0) := (hD.get (x := (ab, 12, (fun j => [id, k, g, h, x, y, dx, dy, m, bo, ru, 0].getD j 0))) (by simp)).2.2.1 11 (show 11 < 12 by decide)
    have cf := fun j (hj : j < 12) => (hD.get (x := (ab, 12, (fun j => [id, k, g, h, x, y, dx, dy, m, bo, ru, 0].getD j 0))) (by simp)).2.2.2 j hj
    have cf0 : wc.frozen? ⟨ab, 0, none⟩ = false := cf 0 (by decide)
    have cf1 : wc.frozen? ⟨ab, 1, none⟩ = false := cf 1 (by decide)
    have cf2 : wc.frozen? ⟨ab, 2, none⟩ = false := cf 2 (by decide)
    have cf3 : wc.frozen? ⟨ab, 3, none⟩ = false := cf 3 (by decide)
    have cf4 : wc.frozen? ⟨ab, 4, none⟩ = false := cf 4 (by decide)
    have cf5 : wc.frozen? ⟨ab, 5, none⟩ = false := cf 5 (by decide)
    have cf6 : wc.frozen? ⟨ab, 6, none⟩ = false := cf 6 (by decide)
    have cf7 : wc.frozen? ⟨ab, 7, none⟩ = false := cf 7 (by decide)
    have cf8 : wc.frozen? ⟨ab, 8, none⟩ = false := cf 8 (by decide)
    have cf9 : wc.frozen? ⟨ab, 9, none⟩ = false := cf 9 (by decide)
    have cf10 : wc.frozen? ⟨ab, 10, none⟩ = false := cf 10 (by decide)
    have cf11 : wc.frozen? ⟨ab, 11, none⟩ = false := cf 11 (by decide)
    by_cases e0 : v7 = 0
    · have e1 : (v7 == 0) = true := by simp [e0]
      clear e0
      go_wp2_with (go_at_call 20; refine (pick_s rb (p + 650) _ _ (by exact hD.rs) (by omega) (by omega) (by omega)).mono ?_; rintro e w8 ⟨v8, rfl, va8, vb8, hr8⟩; have hD6 := (hD.call hr8).mono (p1 := p + 700) (by omega); clear c0 cf0 c1 cf1 c2 cf2 c3 cf3 c4 cf4 c5 cf5 c6 cf6 c7 cf7 c8 cf8 c9 cf9 c10 cf10 c11 cf11 cf; clear hD; have hD := hD6; clear hD6; have c0 : w8.cell? ⟨ab, 0, none⟩ = some (.int .i64 id) := (hD.get (x := (ab, 12, (fun j => [id, k, g, h, x, y, dx, dy, m, bo, ru, 0].getD j 0))) (by simp)).2.2.1 0 (show 0 < 12 by decide); have c1 : w8.cell? ⟨ab, 1, none⟩ = some (.int .i64 k) := (hD.get (x := (ab, 12, (fun j => [id, k, g, h, x, y, dx, dy, m, bo, ru, 0].getD j 0))) (by simp)).2.2.1 1 (show 1 < 12 by decide); have c2 : w8.cell? ⟨ab, 2, none⟩ = some (.int .i64 g) := (hD.get (x := (ab, 12, (fun j => [id, k, g, h, x, y, dx, dy, m, bo, ru, 0].getD j 0))) (by simp)).2.2.1 2 (show 2 < 12 by decide); have c3 : w8.cell? ⟨ab, 3, none⟩ = some (.int .i64 h) := (hD.get (x := (ab, 12, (fun j => [id, k, g, h, x, y, dx, dy, m, bo, ru, 0].getD j 0))) (by simp)).2.2.1 3 (show 3 < 12 by decide); have c4 : w8.cell? ⟨ab, 4, none⟩ = some (.int .i64 x) := (hD.get (x := (ab, 12, (fun j => [id, k, g, h, x, y, dx, dy, m, bo, ru, 0].getD j 0))) (by simp)).2.2.1 4 (show 4 < 12 by decide); have c5 : w8.cell? ⟨ab, 5, none⟩ = some (.int .i64 y) := (hD.get (x := (ab, 12, (fun j => [id, k, g, h, x, y, dx, dy, m, bo, ru, 0].getD j 0))) (by simp)).2.2.1 5 (show 5 < 12 by decide); have c6 : w8.cell? ⟨ab, 6, none⟩ = some (.int .i64 dx) := (hD.get (x := (ab, 12, (fun j => [id, k, g, h, x, y, dx, dy, m, bo, ru, 0].getD j 0))) (by simp)).2.2.1 6 (show 6 < 12 by decide); have c7 : w8.cell? ⟨ab, 7, none⟩ = some (.int .i64 dy) := (hD.get (x := (ab, 12, (fun j => [id, k, g, h, x, y, dx, dy, m, bo, ru, 0].getD j 0))) (by simp)).2.2.1 7 (show 7 < 12 by decide); have c8 : w8.cell? ⟨ab, 8, none⟩ = some (.int .i64 m) := (hD.get (x := (ab, 12, (fun j => [id, k, g, h, x, y, dx, dy, m, bo, ru, 0].getD j 0))) (by simp)).2.2.1 8 (show 8 < 12 by decide); have c9 : w8.cell? ⟨ab, 9, none⟩ = some (.int .i64 bo) := (hD.get (x := (ab, 12, (fun j => [id, k, g, h, x, y, dx, dy, m, bo, ru, 0].getD j 0))) (by simp)).2.2.1 9 (show 9 < 12 by decide); have c10 : w8.cell? ⟨ab, 10, none⟩ = some (.int .i64 ru) := (hD.get (x := (ab, 12, (fun j => [id, k, g, h, x, y, dx, dy, m, bo, ru, 0].getD j 0))) (by simp)).2.2.1 10 (show 10 < 12 by decide); have c11 : w8.cell? ⟨ab, 11, none⟩ = some (.int .i64 0) := (hD.get (x := (ab, 12, (fun j => [id, k, g, h, x, y, dx, dy, m, bo, ru, 0].getD j 0))) (by simp)).2.2.1 11 (show 11 < 12 by decide); have cf := fun j (hj : j < 12) => (hD.get (x := (ab, 12, (fun j => [id, k, g, h, x, y, dx, dy, m, bo, ru, 0].getD j 0))) (by simp)).2.2.2 j hj; have cf0 : w8.frozen? ⟨ab, 0, none⟩ = false := cf 0 (by decide); have cf1 : w8.frozen? ⟨ab, 1, none⟩ = false := cf 1 (by decide); have cf2 : w8.frozen? ⟨ab, 2, none⟩ = false := cf 2 (by decide); have cf3 : w8.frozen? ⟨ab, 3, none⟩ = false := cf 3 (by decide); have cf4 : w8.frozen? ⟨ab, 4, none⟩ = false := cf 4 (by decide); have cf5 : w8.frozen? ⟨ab, 5, none⟩ = false := cf 5 (by decide); have cf6 : w8.frozen? ⟨ab, 6, none⟩ = false := cf 6 (by decide); have cf7 : w8.frozen? ⟨ab, 7, none⟩ = false := cf 7 (by decide); have cf8 : w8.frozen? ⟨ab, 8, none⟩ = false := cf 8 (by decide); have cf9 : w8.frozen? ⟨ab, 9, none⟩ = false := cf 9 (by decide); have cf10 : w8.frozen? ⟨ab, 10, none⟩ = false := cf 10 (by decide); have cf11 : w8.frozen? ⟨ab, 11, none⟩ = false := cf 11 (by decide))
      go_meet
      exact ⟨dx, dy, v8, ⟨hd, hz, by omega, fun e => by omega⟩, (hD.set hns 11 (by decide) v8).headc (fun i hi => by rcases (show i = 0 ∨ i = 1 ∨ i = 2 ∨ i = 3 ∨ i = 4 ∨ i = 5 ∨ i = 6 ∨ i = 7 ∨ i = 8 ∨ i = 9 ∨ i = 10 ∨ i = 11 by omega) with rfl | rfl | rfl | rfl | rfl | rfl | rfl | rfl | rfl | rfl | rfl | rfl <;> rfl)⟩
    · have e1 : (v7 == 0) = false := by simp [e0]
      by_cases e2 : v7 = 1
      · have e3 : (v7 == 1) = true := by simp [e2]
        clear e0 e2
        go_wp2_with fail
        go_meet
        exact ⟨0, 0, 8, ⟨by omega, fun _ => ⟨rfl, rfl⟩, by omega, fun _ => ⟨rfl, rfl⟩⟩, ((((hD.set hns 11 (by decide) 8).set hns 6 (by decide) 0).set hns 7 (by decide) 0).headc (fun i hi => by rcases (show i = 0 ∨ i = 1 ∨ i = 2 ∨ i = 3 ∨ i = 4 ∨ i = 5 ∨ i = 6 ∨ i = 7 ∨ i = 8 ∨ i = 9 ∨ i = 10 ∨ i = 11 by omega) with rfl | rfl | rfl | rfl | rfl | rfl | rfl | rfl | rfl | rfl | rfl | rfl <;> rfl)).mono (by omega)⟩
      · have e3 : (v7 == 1) = false := by simp [e2]
        clear e0 e2
        go_wp2_with fail
        go_meet
        exact ⟨dx, dy, 0, ⟨hd, hz, by omega, fun e => by omega⟩, hD.mono (by omega)⟩
  case rest =>
  clear hD hd hz
  obtain ⟨ex, ey, q, ⟨hd, hz, hq, hz2⟩, hD⟩ := hcut
  have c0 : wc.cell? ⟨ab, 0, none⟩ = some (.int .i64 id) := (hD.get (x := (ab, 12, (fun j => [id, k, g, h, x, y, ex, ey, m, bo, ru, q].getD j 0))) (by simp)).2.2.1 0 (show 0 < 12 by decide)
  have c1 : wc.cell? ⟨ab, 1, none⟩ = some (.int .i64 k) := (hD.get (x := (ab, 12, (fun j => [id, k, g, h, x, y, ex, ey, m, bo, ru, q].getD j 0))) (by simp)).2.2.1 1 (show 1 < 12 by decide)
  have c2 : wc.cell? ⟨ab, 2, none⟩ = some (.int .i64 g) := (hD.get (x := (ab, 12, (fun j => [id, k, g, h, x, y, ex, ey, m, bo, ru, q].getD j 0))) (by simp)).2.2.1 2 (show 2 < 12 by decide)
  have c3 : wc.cell? ⟨ab, 3, none⟩ = some (.int .i64 h) := (hD.get (x := (ab, 12, (fun j => [id, k, g, h, x, y, ex, ey, m, bo, ru, q].getD j 0))) (by simp)).2.2.1 3 (show 3 < 12 by decide)
  have c4 : wc.cell? ⟨ab, 4, none⟩ = some (.int .i64 x) := (hD.get (x := (ab, 12, (fun j => [id, k, g, h, x, y, ex, ey, m, bo, ru, q].getD j 0))) (by simp)).2.2.1 4 (show 4 < 12 by decide)
  have c5 : wc.cell? ⟨ab, 5, none⟩ = some (.int .i64 y) := (hD.get (x := (ab, 12, (fun j => [id, k, g, h, x, y, ex, ey, m, bo, ru, q].getD j 0))) (by simp)).2.2.1 5 (show 5 < 12 by decide)
  have c6 : wc.cell? ⟨ab, 6, none⟩ = some (.int .i64 ex) := (hD.get (x := (ab, 12, (fun j => [id, k, g, h, x, y, ex, ey, m, bo, ru, q].getD j 0))) (by simp)).2.2.1 6 (show 6 < 12 by decide)
  have c7 : wc.cell? ⟨ab, 7, none⟩ = some (.int .i64 ey) := (hD.get (x := (ab, 12, (fun j => [id, k, g, h, x, y, ex, ey, m, bo, ru, q].getD j 0))) (by simp)).2.2.1 7 (show 7 < 12 by decide)
  have c8 : wc.cell? ⟨ab, 8, none⟩ = some (.int .i64 m) := (hD.get (x := (ab, 12, (fun j => [id, k, g, h, x, y, ex, ey, m, bo, ru, q].getD j 0))) (by simp)).2.2.1 8 (show 8 < 12 by decide)
  have c9 : wc.cell? ⟨ab, 9, none⟩ = some (.int .i64 bo) := (hD.get (x := (ab, 12, (fun j => [id, k, g, h, x, y, ex, ey, m, bo, ru, q].getD j 0))) (by simp)).2.2.1 9 (show 9 < 12 by decide)
  have c10 : wc.cell? ⟨ab, 10, none⟩ = some (.int .i64 ru) := (hD.get (x := (ab, 12, (fun j => [id, k, g, h, x, y, ex, ey, m, bo, ru, q].getD j 0))) (by simp)).2.2.1 10 (show 10 < 12 by decide)
  have c11 : wc.cell? ⟨ab, 11, none⟩ = some (.int .i64 q) := (hD.get (x := (ab, 12, (fun j => [id, k, g, h, x, y, ex, ey, m, bo, ru, q].getD j 0))) (by simp)).2.2.1 11 (show 11 < 12 by decide)
  have cf := fun j (hj : j < 12) => (hD.get (x := (ab, 12, (fun j => [id, k, g, h, x, y, ex, ey, m, bo, ru, q].getD j 0))) (by simp)).2.2.2 j hj
  have cf0 : wc.frozen? ⟨ab, 0, none⟩ = false := cf 0 (by decide)
  have cf1 : wc.frozen? ⟨ab, 1, none⟩ = false := cf 1 (by decide)
  have cf2 : wc.frozen? ⟨ab, 2, none⟩ = false := cf 2 (by decide)
  have cf3 : wc.frozen? ⟨ab, 3, none⟩ = false := cf 3 (by decide)
  have cf4 : wc.frozen? ⟨ab, 4, none⟩ = false := cf 4 (by decide)
  have cf5 : wc.frozen? ⟨ab, 5, none⟩ = false := cf 5 (by decide)
  have cf6 : wc.frozen? ⟨ab, 6, none⟩ = false := cf 6 (by decide)
  have cf7 : wc.frozen? ⟨ab, 7, none⟩ = false := cf 7 (by decide)
  have cf8 : wc.frozen? ⟨ab, 8, none⟩ = false := cf 8 (by decide)
  have cf9 : wc.frozen? ⟨ab, 9, none⟩ = false := cf 9 (by decide)
  have cf10 : wc.frozen? ⟨ab, 10, none⟩ = false := cf 10 (by decide)
  have cf11 : wc.frozen? ⟨ab, 11, none⟩ = false := cf 11 (by decide)
  have hR := (hD.get (x := (w.heap.size, 12, (fun _ => 0))) (by simp))
  have r0 : wc.cell? ⟨w.heap.size, 0, none⟩ = some (.int .i64 0) := hR.2.2.1 0 (show 0 < 12 by decide)
  have rf0 := hR.2.2.2 0 (show 0 < 12 by decide)
  have r1 : wc.cell? ⟨w.heap.size, 1, none⟩ = some (.int .i64 0) := hR.2.2.1 1 (show 1 < 12 by decide)
  have rf1 := hR.2.2.2 1 (show 1 < 12 by decide)
  have r2 : wc.cell? ⟨w.heap.size, 2, none⟩ = some (.int .i64 0) := hR.2.2.1 2 (show 2 < 12 by decide)
  have rf2 := hR.2.2.2 2 (show 2 < 12 by decide)
  have r3 : wc.cell? ⟨w.heap.size, 3, none⟩ = some (.int .i64 0) := hR.2.2.1 3 (show 3 < 12 by decide)
  have rf3 := hR.2.2.2 3 (show 3 < 12 by decide)
  have r4 : wc.cell? ⟨w.heap.size, 4, none⟩ = some (.int .i64 0) := hR.2.2.1 4 (show 4 < 12 by decide)
  have rf4 := hR.2.2.2 4 (show 4 < 12 by decide)
  have r5 : wc.cell? ⟨w.heap.size, 5, none⟩ = some (.int .i64 0) := hR.2.2.1 5 (show 5 < 12 by decide)
  have rf5 := hR.2.2.2 5 (show 5 < 12 by decide)
  have r6 : wc.cell? ⟨w.heap.size, 6, none⟩ = some (.int .i64 0) := hR.2.2.1 6 (show 6 < 12 by decide)
  have rf6 := hR.2.2.2 6 (show 6 < 12 by decide)
  have r7 : wc.cell? ⟨w.heap.size, 7, none⟩ = some (.int .i64 0) := hR.2.2.1 7 (show 7 < 12 by decide)
  have rf7 := hR.2.2.2 7 (show 7 < 12 by decide)
  have r8 : wc.cell? ⟨w.heap.size, 8, none⟩ = some (.int .i64 0) := hR.2.2.1 8 (show 8 < 12 by decide)
  have rf8 := hR.2.2.2 8 (show 8 < 12 by decide)
  have r9 : wc.cell? ⟨w.heap.size, 9, none⟩ = some (.int .i64 0) := hR.2.2.1 9 (show 9 < 12 by decide)
  have rf9 := hR.2.2.2 9 (show 9 < 12 by decide)
  have r10 : wc.cell? ⟨w.heap.size, 10, none⟩ = some (.int .i64 0) := hR.2.2.1 10 (show 10 < 12 by decide)
  have rf10 := hR.2.2.2 10 (show 10 < 12 by decide)
  have r11 : wc.cell? ⟨w.heap.size, 11, none⟩ = some (.int .i64 0) := hR.2.2.1 11 (show 11 < 12 by decide)
  have rf11 := hR.2.2.2 11 (show 11 < 12 by decide)
  have hab1 : ¬ ab = w.heap.size := by omega
  have hab2 : ¬ w.heap.size = ab := by omega
  by_cases m0 : m = 0
  · have e1 : (m == 0) = true := by simp [m0]
    have M0 : Shut (m = 0) := m0
    clear m0
    have hD2 := (hD.set hns 11 (by decide) 0).headc (U := (fun j => [id, k, g, h, x, y, ex, ey, m, bo, ru, 0].getD j 0)) (fun i hi => by rcases (show i = 0 ∨ i = 1 ∨ i = 2 ∨ i = 3 ∨ i = 4 ∨ i = 5 ∨ i = 6 ∨ i = 7 ∨ i = 8 ∨ i = 9 ∨ i = 10 ∨ i = 11 by omega) with rfl | rfl | rfl | rfl | rfl | rfl | rfl | rfl | rfl | rfl | rfl | rfl <;> rfl)
    go_upto_region 11 with fail
    clear c0 cf0 c1 cf1 c2 cf2 c3 cf3 c4 cf4 c5 cf5 c6 cf6 c7 cf7 c8 cf8 c9 cf9 c10 cf10 c11 cf11 cf
    clear hR r0 rf0 r1 rf1 r2 rf2 r3 rf3 r4 rf4 r5 rf5 r6 rf6 r7 rf7 r8 rf8 r9 rf9 r10 rf10 r11 rf11 hD
    generalize (wc.setCell ⟨ab, 11, none⟩ (.int .i64 0)) = wy at hD2 ⊢
    have hD := hD2
    clear hD2
    have c0 : wy.cell? ⟨ab, 0, none⟩ = some (.int .i64 id) := (hD.get (x := (ab, 12, (fun j => [id, k, g, h, x, y, ex, ey, m, bo, ru, 0].getD j 0))) (by simp)).2.2.1 0 (show 0 < 12 by decide)
    have c1 : wy.cell? ⟨ab, 1, none⟩ = some (.int .i64 k) := (hD.get (x := (ab, 12, (fun j => [id, k, g, h, x, y, ex, ey, m, bo, ru, 0].getD j 0))) (by simp)).2.2.1 1 (show 1 < 12 by decide)
    have c2 : wy.cell? ⟨ab, 2, none⟩ = some (.int .i64 g) := (hD.get (x := (ab, 12, (fun j => [id, k, g, h, x, y, ex, ey, m, bo, ru, 0].getD j 0))) (by simp)).2.2.1 2 (show 2 < 12 by decide)
    have c3 : wy.cell? ⟨ab, 3, none⟩ = some (.int .i64 h) := (hD.get (x := (ab, 12, (fun j => [id, k, g, h, x, y, ex, ey, m, bo, ru, 0].getD j 0))) (by simp)).2.2.1 3 (show 3 < 12 by decide)
    have c4 : wy.cell? ⟨ab, 4, none⟩ = some (.int .i64 x) := (hD.get (x := (ab, 12, (fun j => [id, k, g, h, x, y, ex, ey, m, bo, ru, 0].getD j 0))) (by simp)).2.2.1 4 (show 4 < 12 by decide)
    have c5 : wy.cell? ⟨ab, 5, none⟩ = some (.int .i64 y) := (hD.get (x := (ab, 12, (fun j => [id, k, g, h, x, y, ex, ey, m, bo, ru, 0].getD j 0))) (by simp)).2.2.1 5 (show 5 < 12 by decide)
    have c6 : wy.cell? ⟨ab, 6, none⟩ = some (.int .i64 ex) := (hD.get (x := (ab, 12, (fun j => [id, k, g, h, x, y, ex, ey, m, bo, ru, 0].getD j 0))) (by simp)).2.2.1 6 (show 6 < 12 by decide)
    have c7 : wy.cell? ⟨ab, 7, none⟩ = some (.int .i64 ey) := (hD.get (x := (ab, 12, (fun j => [id, k, g, h, x, y, ex, ey, m, bo, ru, 0].getD j 0))) (by simp)).2.2.1 7 (show 7 < 12 by decide)
    have c8 : wy.cell? ⟨ab, 8, none⟩ = some (.int .i64 m) := (hD.get (x := (ab, 12, (fun j => [id, k, g, h, x, y, ex, ey, m, bo, ru, 0].getD j 0))) (by simp)).2.2.1 8 (show 8 < 12 by decide)
    have c9 : wy.cell? ⟨ab, 9, none⟩ = some (.int .i64 bo) := (hD.get (x := (ab, 12, (fun j => [id, k, g, h, x, y, ex, ey, m, bo, ru, 0].getD j 0))) (by simp)).2.2.1 9 (show 9 < 12 by decide)
    have c10 : wy.cell? ⟨ab, 10, none⟩ = some (.int .i64 ru) := (hD.get (x := (ab, 12, (fun j => [id, k, g, h, x, y, ex, ey, m, bo, ru, 0].getD j 0))) (by simp)).2.2.1 10 (show 10 < 12 by decide)
    have c11 : wy.cell? ⟨ab, 11, none⟩ = some (.int .i64 0) := (hD.get (x := (ab, 12, (fun j => [id, k, g, h, x, y, ex, ey, m, bo, ru, 0].getD j 0))) (by simp)).2.2.1 11 (show 11 < 12 by decide)
    have cf := fun j (hj : j < 12) => (hD.get (x := (ab, 12, (fun j => [id, k, g, h, x, y, ex, ey, m, bo, ru, 0].getD j 0))) (by simp)).2.2.2 j hj
    have cf0 : wy.frozen? ⟨ab, 0, none⟩ = false := cf 0 (by decide)
    have cf1 : wy.frozen? ⟨ab, 1, none⟩ = false := cf 1 (by decide)
    have cf2 : wy.frozen? ⟨ab, 2, none⟩ = false := cf 2 (by decide)
    have cf3 : wy.frozen? ⟨ab, 3, none⟩ = false := cf 3 (by decide)
    have cf4 : wy.frozen? ⟨ab, 4, none⟩ = false := cf 4 (by decide)
    have cf5 : wy.frozen? ⟨ab, 5, none⟩ = false := cf 5 (by decide)
    have cf6 : wy.frozen? ⟨ab, 6, none⟩ = false := cf 6 (by decide)
    have cf7 : wy.frozen? ⟨ab, 7, none⟩ = false := cf 7 (by decide)
    have cf8 : wy.frozen? ⟨ab, 8, none⟩ = false := cf 8 (by decide)
    have cf9 : wy.frozen? ⟨ab, 9, none⟩ = false := cf 9 (by decide)
    have cf10 : wy.frozen? ⟨ab, 10, none⟩ = false := cf 10 (by decide)
    have cf11 : wy.frozen? ⟨ab, 11, none⟩ = false := cf 11 (by decide)
    have hR := (hD.get (x := (w.heap.size, 12, (fun _ => 0))) (by simp))
    have r0 : wy.cell? ⟨w.heap.size, 0, none⟩ = some (.int .i64 0) := hR.2.2.1 0 (show 0 < 12 by decide)
    have rf0 := hR.2.2.2 0 (show 0 < 12 by decide)
    have r1 : wy.cell? ⟨w.heap.size, 1, none⟩ = some (.int .i64 0) := hR.2.2.1 1 (show 1 < 12 by decide)
    have rf1 := hR.2.2.2 1 (show 1 < 12 by decide)
    have r2 : wy.cell? ⟨w.heap.size, 2, none⟩ = some (.int .i64 0) := hR.2.2.1 2 (show 2 < 12 by decide)
    have rf2 := hR.2.2.2 2 (show 2 < 12 by decide)
    have r3 : wy.cell? ⟨w.heap.size, 3, none⟩ = some (.int .i64 0) := hR.2.2.1 3 (show 3 < 12 by decide)
    have rf3 := hR.2.2.2 3 (show 3 < 12 by decide)
    have r4 : wy.cell? ⟨w.heap.size, 4, none⟩ = some (.int .i64 0) := hR.2.2.1 4 (show 4 < 12 by decide)
    have rf4 := hR.2.2.2 4 (show 4 < 12 by decide)
    have r5 : wy.cell? ⟨w.heap.size, 5, none⟩ = some (.int .i64 0) := hR.2.2.1 5 (show 5 < 12 by decide)
    have rf5 := hR.2.2.2 5 (show 5 < 12 by decide)
    have r6 : wy.cell? ⟨w.heap.size, 6, none⟩ = some (.int .i64 0) := hR.2.2.1 6 (show 6 < 12 by decide)
    have rf6 := hR.2.2.2 6 (show 6 < 12 by decide)
    have r7 : wy.cell? ⟨w.heap.size, 7, none⟩ = some (.int .i64 0) := hR.2.2.1 7 (show 7 < 12 by decide)
    have rf7 := hR.2.2.2 7 (show 7 < 12 by decide)
    have r8 : wy.cell? ⟨w.heap.size, 8, none⟩ = some (.int .i64 0) := hR.2.2.1 8 (show 8 < 12 by decide)
    have rf8 := hR.2.2.2 8 (show 8 < 12 by decide)
    have r9 : wy.cell? ⟨w.heap.size, 9, none⟩ = some (.int .i64 0) := hR.2.2.1 9 (show 9 < 12 by decide)
    have rf9 := hR.2.2.2 9 (show 9 < 12 by decide)
    have r10 : wy.cell? ⟨w.heap.size, 10, none⟩ = some (.int .i64 0) := hR.2.2.1 10 (show 10 < 12 by decide)
    have rf10 := hR.2.2.2 10 (show 10 < 12 by decide)
    have r11 : wy.cell? ⟨w.heap.size, 11, none⟩ = some (.int .i64 0) := hR.2.2.1 11 (show 11 < 12 by decide)
    have rf11 := hR.2.2.2 11 (show 11 < 12 by decide)
    go_wp2_with fail
    exact bodyPost_ret (v := bodyW (fun j => [id, k, g, h, x, y, ex, ey, m, bo, ru, 0].getD j 0)) (by simp [results, Tryz.results41, go_sem, *]) rfl ⟨_, rfl, ⟨bod_mk hid hsh hpl hd hm hbo hru (by omega) (fun e => ⟨(hz e).1, (hz e).2, rfl⟩) (fun e => by omega), rfl, hm.2⟩, bl12 ((hD.sub (M := [(w.heap.size, 12, (fun _ => 0))]) (by simp)).mono (p1 := p + 1000) (by omega))⟩
  · have e1 : (m == 0) = false := by simp [m0]
    go_wp2_with fail
    exact bodyPost_ret (v := bodyW (fun j => [id, k, g, h, x, y, ex, ey, m, bo, ru, q].getD j 0)) (by simp [results, Tryz.results41, go_sem, *]) rfl ⟨_, rfl, ⟨bod_mk hid hsh hpl hd hm hbo hru hq (fun e => absurd e m0) hz2, rfl, hm.2⟩, bl12 ((hD.sub (M := [(w.heap.size, 12, (fun _ => 0))]) (by simp)).mono (p1 := p + 1000) (by omega))⟩
end Go.Proofs.YtkblddegfobpaaaGreat
namespace Go.Proofs.YtkblddegfobpaaaGreat
open Go.RowKit
set_option linter.unusedVariables false
set_option linter.unusedSimpArgs false
theorem Rd.upto {w w' : World} {rb p B : Nat} (h : Rd w rb p) (k : Below B w w') (hB : rb < B) : Rd w' rb p := by
  obtain ⟨a, len, cap, c0, c1, f1, hle, hz⟩ := h
  refine ⟨a, len, cap, by rw [k.cell hB]; exact c0, by rw [k.cell hB]; exact c1, by rw [k.frozen hB]; exact f1, hle, ?_⟩
  rcases hz with hz | ⟨b, off, ha, hb, hz⟩
  · exact .inl hz
  · exact .inr ⟨b, off, ha, hb, fun i hi => by obtain ⟨z, h1, h2⟩ := hz i hi; exact ⟨z, by rw [k.cell (p := ⟨b, off + i, none⟩) (by show b < B; omega)]; exact h1, h2⟩⟩
theorem RS.upto {w w' : World} {rb p B : Nat} (h : RS w rb p) (k : Below B w w') (hB : rb < B) : RS w' rb p := by
  obtain ⟨q, a, b⟩ := h; exact ⟨q, a, b.upto k hB⟩
theorem OwnL.but {w w' : World} {rb base t k n : Nat} {v : Value} {U : Nat → Int} (h : OwnL w base t k v n U) (hb : But rb w w') (hr : rb < base) : OwnL w' base t k v n U := by
  have hg : w.grownBy w' (Option.some rb) := ⟨hb.os, hb.tape, hb.output, hb.size, fun j hj hne => hb.block j hj (fun e => hne (by rw [e]))⟩
  cases e : v.ownBlock with
  | none => exact World.ownsRow.kept h hg (.inl e)
  | some b => exact World.ownsRow.kept h hg (.inr (by rw [e]; intro q; have := (h.lt b e).1; simp at q; omega))
/-- a list of bodies that is drawn, in memory younger than w, beside blocks of numbers -/
structure Dg (w wr : World) (rb p : Nat) (v : Value) (n : Nat) (U : Nat → Int) (L : Bls) : Prop where
  bl : BL w wr rb p L
  own : OwnL wr w.heap.size 38 12 v n U
  ne : ∀ x ∈ L, v.ownBlock ≠ some x.1
theorem Dg.call {w wr w1 : World} {rb p p1 n : Nat} {v : Value} {U : Nat → Int} {L : Bls} (h : Dg w wr rb p v n U L) (k : RB wr w1 rb p1) : Dg w w1 rb p1 v n U L := ⟨h.bl.call k, h.own.but k.but h.bl.lo, h.ne⟩
theorem Dg.calb {w wr w1 : World} {rb p n : Nat} {v : Value} {U : Nat → Int} {L : Bls} (h : Dg w wr rb p v n U L) (k : Below wr.heap.size wr w1) : Dg w w1 rb p v n U L := ⟨h.bl.calb k, h.own.below k, h.ne⟩
theorem Dg.mono {w wr : World} {rb p p1 n : Nat} {v : Value} {U : Nat → Int} {L : Bls} (h : Dg w wr rb p v n U L) (k : p ≤ p1) : Dg w wr rb p1 v n U L := ⟨h.bl.mono k, h.own, h.ne⟩
theorem Dg.drew {w wr : World} {rb p n : Nat} {v : Value} {U : Nat → Int} {L : Bls} (h : Dg w wr rb p v n U L) : Dg w wr.drew rb p v n U L := ⟨h.bl.drew, h.own.drewO, h.ne⟩
theorem Dg.sub {w wr : World} {rb p n : Nat} {v : Value} {U : Nat → Int} {L M : Bls} (h : Dg w wr rb p v n U L) (k : ∀ x ∈ M, x ∈ L) : Dg w wr rb p v n U M := ⟨h.bl.sub k, h.own, fun x hx => h.ne x (k x hx)⟩
theorem Dg.new {w wr : World} {rb p n : Nat} {v : Value} {U : Nat → Int} {L : Bls} (h : Dg w wr rb p v n U L) (b m : Nat) (V : Nat → Int) {cs : Array Value} {t : TypeId} (hb : b = wr.heap.size) (hc : ∀ i, i < m → cs[i]? = some (.int .i64 (V i))) : Dg w (wr.alloc (.cells cs t)) rb p v n U ((b, m, V) :: L) :=
  ⟨h.bl.new b m V hb hc, h.own.below (balloc _ _), fun x hx => by
    rcases List.mem_cons.mp hx with rfl | hx
    · intro e; have := (h.own.lt _ e).2; dsimp only at this; omega
    · exact h.ne x hx⟩
theorem Dg.set {w wr : World} {rb p n b m : Nat} {v : Value} {U V : Nat → Int} {L : Bls} (h : Dg w wr rb p v n U ((b, m, V) :: L)) (hne : ∀ x ∈ L, x.1 ≠ b) (k : Nat) (hk : k < m) (z : Int) : Dg w (wr.setCell ⟨b, k, none⟩ (.int .i64 z)) rb p v n U ((b, m, fun j => if j = k then z else V j) :: L) :=
  ⟨h.bl.set hne k hk z, h.own.frame (Fr.setCell (X := fun j => j = b) rfl _) (fun j e x => by subst x; exact h.ne (j, m, V) (List.mem_cons_self ..) e), fun x hx => by
    rcases List.mem_cons.mp hx with rfl | hx
    · exact h.ne (b, m, V) (List.mem_cons_self ..)
    · exact h.ne x (List.mem_cons_of_mem _ hx)⟩
theorem Dg.headc {w wr : World} {rb p n b m : Nat} {v : Value} {U V V' : Nat → Int} {L : Bls} (h : Dg w wr rb p v n U ((b, m, V) :: L)) (k : ∀ i, i < m → V i = V' i) : Dg w wr rb p v n U ((b, m, V') :: L) :=
  ⟨h.bl.headc k, h.own, fun x hx => by
    rcases List.mem_cons.mp hx with rfl | hx
    · exact h.ne (b, m, V) (List.mem_cons_self ..)
    · exact h.ne x (List.mem_cons_of_mem _ hx)⟩
/-- behind an append: the reader is as it was -/
theorem Dg.grown {w wr w' : World} {rb p n n' : Nat} {v v' : Value} {U U' : Nat → Int} {L : Bls} (h : Dg w wr rb p v n U L) (hg : wr.grownBy w' v.ownBlock) (ho : OwnL w' w.heap.size 38 12 v' n' U') : Dg w w' rb p v' n' U' [] := by
  have hsz := h.bl.but.size
  have hB : Below w.heap.size wr w' := (Below.refl w.heap.size wr).grown hg hsz (fun b e => (h.own.lt b e).1)
  exact ⟨⟨h.bl.rs.upto hB h.bl.lo, ⟨hB.os.trans h.bl.but.os, hB.tape.trans h.bl.but.tape, hB.output.trans h.bl.but.output, Nat.le_trans hsz hB.size, fun k hk hn => (hB.block k hk).trans (h.bl.but.block k hk hn)⟩, h.bl.lo, fun x hx => by cases hx⟩, ho, fun x hx => by cases hx⟩
theorem Dg.start {w : World} {rb p : Nat} (h : RS w rb p) (U : Nat → Int) : Dg w (w.alloc (.cells #[] 38)) rb p (.slice (some ⟨w.heap.size, 0, none⟩) 0 0) 0 U [] :=
  ⟨(BL.start h).alloc _, OwnL.fresh0 w w.heap.size 38 12 U _ rfl (Nat.le_refl _), fun x hx => by cases hx⟩
/-- one body more -/
theorem Bods.push {n : Nat} {U V : Nat → Int} (h : Bods n U) (hn : n < 12) (hV : bodyB V = true) (hi : ∀ k, k < n → U (k * 12) < V 0) : Bods (n + 1) (cat (n * 12) U V) := by
  have a1 : ∀ k j, k < n → j < 12 → cat (n * 12) U V (k * 12 + j) = U (k * 12 + j) := fun k j hk hj => by unfold cat; rw [if_pos (by omega)]
  have a2 : ∀ j, cat (n * 12) U V (n * 12 + j) = V j := fun j => by unfold cat; rw [if_neg (by omega), Nat.add_sub_cancel_left]
  refine ⟨hn, fun k hk => ?_, fun k hk => ?_⟩
  · by_cases e : k = n
    · subst e; rw [bodyB_cong (fun j _ => a2 j)]; exact hV
    · rw [bodyB_cong (fun j hj => a1 k j (by omega) hj)]; exact h.ok k (by omega)
  · have b1 := a1 k 0 (by omega) (by omega)
    rw [Nat.add_zero] at b1
    rw [b1]
    by_cases e : k + 1 = n
    · have b2 := a2 0; rw [Nat.add_zero] at b2; rw [e, b2]; exact hi k (by omega)
    · have b2 := a1 (k + 1) 0 (by omega) (by omega); rw [Nat.add_zero] at b2; rw [b2]; exact h.asc k (by omega)
theorem bod_at {V : Nat → Int} (h : bodyB V = true) {x y : Int} (hx : -2560000 ≤ x ∧ x ≤ 2560000) (hy : -2560000 ≤ y ∧ y ≤ 2560000) : bodyB (setV (setV V 4 x) 5 y) = true := by
  unfold bodyB at h ⊢
  have e : inB 2560000 x y = true := by unfold inB; simp; omega
  have r : restB (setV (setV V 4 x) 5 y) = restB V := rfl
  show (decide (0 ≤ V 0 ∧ V 0 ≤ 999999999) && (shB (V 1) (V 2) (V 3) && (inB 2560000 x y && _))) = true
  simp only [Bool.and_eq_true] at h ⊢
  exact ⟨h.1, h.2.1, e, h.2.2.2⟩
end Go.Proofs.YtkblddegfobpaaaGreat
namespace Go.Proofs.YtkblddegfobpaaaGreat
open Go.RowKit
set_option linter.unusedVariables false
set_option linter.unusedSimpArgs false

set_option maxHeartbeats 4000000 in
theorem l3Near_any (a b c d x y : Int) (w : World) :
    Calls Tryz.prog 97 #[b4 a b c d, vv x y] w fun e w' => e = .returned (vv (mn (mx x a) c) (mn (mx y b) d)) ∧ Below w.heap.size w w' := by
  have hset := cset_map
  go_enter Tryz.func97, Tryz.ntmps97
  go_wp2
  go_region_held3 (fun w' => w'.cell? ⟨w.heap.size, 0, none⟩ = some (.int .i64 a) ∧ w'.cell? ⟨w.heap.size, 1, none⟩ = some (.int .i64 b) ∧ w'.cell? ⟨w.heap.size, 2, none⟩ = some (.int .i64 c) ∧ w'.cell? ⟨w.heap.size, 3, none⟩ = some (.int .i64 d) ∧ w'.cell? ⟨w.heap.size + 1, 0, none⟩ = some (.int .i64 x) ∧ w'.cell? ⟨w.heap.size + 1, 1, none⟩ = some (.int .i64 y)) (first | (go_simp; done) | (go_keep; done)) (first
    | (go_at_call 78; refine (l3Less_any _ _ _).mono ?_; rintro e w' ⟨rfl, rfl⟩)
    | (go_at_call 79; refine (l3More_any _ _ _).mono ?_; rintro e w' ⟨rfl, rfl⟩))
  all_goals
    go_wp2
    exact bodyPost_ret (v := vv (mn (mx x a) c) (mn (mx y b) d)) (by simp [results, Tryz.results97, go_sem, *]) rfl ⟨rfl, bel_a⟩

end Go.Proofs.YtkblddegfobpaaaGreat
