/- Texts of a proof. -/
import Derived.Test.YtalkkjhehndaoaaGreatS9m
import Derived.Deep.RegionHeld3
import Derived.Deep.DeepCutAuto
set_option maxHeartbeats 16000000
set_option maxRecDepth 20000
namespace Go.Proofs.YtalkkjhehndaoaaGreat
open Go.RowKit
set_option linter.unusedVariables false
set_option linter.unusedSimpArgs false
structure Hide (p : Prop) : Prop where
 out : p
theorem tdiv_le {x B m : Int} (hm : 0 < m) (hB : 0 ≤ B) (h : -(B * m) ≤ x ∧ x ≤ B * m) : -B ≤ x.tdiv m ∧ x.tdiv m ≤ B := by
 by_cases h0 : 0 ≤ x
 · rw [Int.tdiv_eq_ediv_of_nonneg h0]
   have q1 := Int.ediv_nonneg h0 (Int.le_of_lt hm)
   exact ⟨by omega, Int.ediv_le_of_le_mul hm h.2⟩
 · have e : x.tdiv m = -((-x) / m) := by rw [← Int.tdiv_eq_ediv_of_nonneg (show 0 ≤ -x by omega), Int.neg_tdiv, Int.neg_neg]
   rw [e]
   have q1 := Int.ediv_nonneg (show 0 ≤ -x by omega) (Int.le_of_lt hm)
   have q2 := Int.ediv_le_of_le_mul hm (show -x ≤ B * m by omega)
   omega
def shareV (V W : Nat → Int) (n : Int) : Int := bif decide (V 8 = 0) then 0 else bif decide (W 8 = 0) then n else (n * W 8).tdiv (V 8 + W 8)
theorem share_bd {V W : Nat → Int} {n : Int} (h0 : 0 ≤ V 8) (h1 : 0 ≤ W 8) (hn : 0 ≤ n) : 0 ≤ shareV V W n ∧ shareV V W n ≤ n := by
 unfold shareV
 by_cases m0 : V 8 = 0
 · rw [decide_eq_true m0]; exact ⟨Int.le_refl _, hn⟩
 · rw [decide_eq_false m0]
   by_cases m1 : W 8 = 0
   · rw [decide_eq_true m1]; exact ⟨hn, Int.le_refl _⟩
   · rw [decide_eq_false m1]
     show 0 ≤ (n * W 8).tdiv (V 8 + W 8) ∧ (n * W 8).tdiv (V 8 + W 8) ≤ n
     have p0 : 0 ≤ n * W 8 := Int.mul_nonneg hn h1
     rw [Int.tdiv_eq_ediv_of_nonneg p0]
     refine ⟨Int.ediv_nonneg p0 (by omega), ?_⟩
     refine Int.ediv_le_of_le_mul (by omega) ?_
     exact Int.mul_le_mul_of_nonneg_left (by omega) hn
theorem l8Share_q (V W : Nat → Int) (n x : Int) (w : World) (h0 : 0 ≤ V 8 ∧ V 8 ≤ 1000) (h1 : 0 ≤ W 8 ∧ W 8 ≤ 1000) (hn : -30000 ≤ n ∧ n ≤ 30000) (ex : shareV V W n = x) :
 Calls Tryz.prog 117 #[bodyW V, bodyW W, .int .i64 n] w fun e w' => e = .returned (.int .i64 x) ∧ Below w.heap.size w w' := by
 have hset := cset_map
 have p := mul_bd (a := n) (b := W 8) (A := 30000) (B := 1000) (by omega) (by omega)
 have q := tdiv_bd (x := n * W 8) (B := 30000000) (V 8 + W 8) (by omega)
 have w1 : IntKind.i64.wrap (n * W 8) = n * W 8 := i64w (by omega)
 have w2 : IntKind.i64.wrap (V 8 + W 8) = V 8 + W 8 := i64w (by omega)
 have w3 : IntKind.i64.wrap ((n * W 8).tdiv (V 8 + W 8)) = (n * W 8).tdiv (V 8 + W 8) := i64w (by omega)
 by_cases m0 : V 8 = 0
 · have ex' : x = 0 := by rw [← ex]; unfold shareV; rw [decide_eq_true m0]; rfl
   subst ex'
   have e1 : (V 8 == 0) = true := by simp [m0]
   have M0 : Shut (V 8 = 0) := m0
   clear m0 ex
   go_enter Tryz.func117, Tryz.ntmps117
   go_wp2_with fail
   go_ret
   exact ⟨rfl, bel_a⟩
 · have e1 : (V 8 == 0) = false := by simp [m0]
   by_cases m1 : W 8 = 0
   · have ex' : x = n := by rw [← ex]; unfold shareV; rw [decide_eq_false m0, decide_eq_true m1]; rfl
     subst ex'
     have e2 : (W 8 == 0) = true := by simp [m1]
     have M1 : Shut (W 8 = 0) := m1
     clear m1 ex w1 w2 w3 p q
     go_enter Tryz.func117, Tryz.ntmps117
     go_wp2_with fail
     go_ret
     exact ⟨rfl, bel_a⟩
   · have ex' : (n * W 8).tdiv (V 8 + W 8) = x := by rw [← ex]; unfold shareV; rw [decide_eq_false m0, decide_eq_false m1]; rfl
     have e2 : (W 8 == 0) = false := by simp [m1]
     have e3 : ¬ V 8 + W 8 = 0 := by omega
     clear ex
     go_enter Tryz.func117, Tryz.ntmps117
     go_wp2_with fail
     go_ret
     exact ⟨by first | rfl | (rw [← ex']) | simp [ex'], bel_a⟩
def apartU (U : Nat → Int) (A B : Nat) (X Y D : Int) : Nat → Int :=
 bif decide (0 < (D - 64).tdiv 4) then
  (let U1 := bif decide (0 < U (A * 12 + 8)) then putRow U A (moveV (fun j => U (A * 12 + j)) ((-X * shareV (fun j => U (A * 12 + j)) (fun j => U (B * 12 + j)) ((D - 64).tdiv 4)).tdiv 256) ((-Y * shareV (fun j => U (A * 12 + j)) (fun j => U (B * 12 + j)) ((D - 64).tdiv 4)).tdiv 256)) else U
   bif decide (0 < U (B * 12 + 8)) then putRow U1 B (moveV (fun j => U (B * 12 + j)) ((X * shareV (fun j => U (B * 12 + j)) (fun j => U (A * 12 + j)) ((D - 64).tdiv 4)).tdiv 256) ((Y * shareV (fun j => U (B * 12 + j)) (fun j => U (A * 12 + j)) ((D - 64).tdiv 4)).tdiv 256)) else U1)
 else U
structure Ap8 (w wc : World) (A B : Nat) (X Y D : Int) (ba bb : Nat) (VA VB : Nat → Int) : Prop where
 k0 : wc.cell? ⟨w.heap.size, 0, none⟩ = some (.int .i64 (A : Int))
 k1 : wc.cell? ⟨w.heap.size, 1, none⟩ = some (.int .i64 (B : Int))
 k2 : wc.cell? ⟨w.heap.size, 2, none⟩ = some (.int .i64 X)
 k3 : wc.cell? ⟨w.heap.size, 3, none⟩ = some (.int .i64 Y)
 k4 : wc.cell? ⟨w.heap.size, 4, none⟩ = some (.int .i64 D)
 ca : ∀ j, j < 12 → wc.cell? ⟨ba, j, none⟩ = some (.int .i64 (VA j))
 cb : ∀ j, j < 12 → wc.cell? ⟨bb, j, none⟩ = some (.int .i64 (VB j))
 l0 : w.heap.size < wc.heap.size
 la : ba < wc.heap.size
 lb : bb < wc.heap.size
 ga : w.heap.size < ba
 gb : w.heap.size < bb
theorem Ap8.on {w wc w' : World} {A B : Nat} {X Y D : Int} {ba bb : Nat} {VA VB : Nat → Int} (h : Ap8 w wc A B X Y D ba bb VA VB) (hb : Below wc.heap.size wc w') : Ap8 w w' A B X Y D ba bb VA VB :=
 have k := fun j => hb.cell (p := ⟨w.heap.size, j, none⟩) h.l0
 ⟨(k 0).trans h.k0, (k 1).trans h.k1, (k 2).trans h.k2, (k 3).trans h.k3, (k 4).trans h.k4, fun j hj => (hb.cell (p := ⟨ba, j, none⟩) h.la).trans (h.ca j hj), fun j hj => (hb.cell (p := ⟨bb, j, none⟩) h.lb).trans (h.cb j hj), Nat.lt_of_lt_of_le h.l0 hb.size, Nat.lt_of_lt_of_le h.la hb.size, Nat.lt_of_lt_of_le h.lb hb.size, h.ga, h.gb⟩
theorem Ap8.fr {w wc w' : World} {A B g : Nat} {X Y D : Int} {ba bb : Nat} {VA VB : Nat → Int} (h : Ap8 w wc A B X Y D ba bb VA VB) (hs : Fr (fun b => b = g) wc w') (hg : g < w.heap.size) : Ap8 w w' A B X Y D ba bb VA VB := by
 have ga := h.ga
 have gb := h.gb
 have k := fun j => hs.cell (p := ⟨w.heap.size, j, none⟩) h.l0 (by simp; omega)
 exact ⟨(k 0).trans h.k0, (k 1).trans h.k1, (k 2).trans h.k2, (k 3).trans h.k3, (k 4).trans h.k4, fun j hj => (hs.cell (p := ⟨ba, j, none⟩) h.la (by simp; omega)).trans (h.ca j hj), fun j hj => (hs.cell (p := ⟨bb, j, none⟩) h.lb (by simp; omega)).trans (h.cb j hj), Nat.lt_of_lt_of_le h.l0 hs.size, Nat.lt_of_lt_of_le h.la hs.size, Nat.lt_of_lt_of_le h.lb hs.size, h.ga, h.gb⟩
def quietV (r : Int) (V : Nat → Int) : Nat → Int := bif decide (V 8 = 0) || decide (8 ≤ V 11) then V else setV V 11 (bif decide (-8 ≤ spX V ∧ spX V ≤ 8) && decide (-8 ≤ spY V ∧ spY V ≤ 8) then mn (r + 1) 7 else 0)
theorem l9Quiet_any (a : Option Addr) (n c : Nat) (U : Nat → Int) (a2 : Option Addr) (c2 : Nat) (U2 : Nat → Int) (w : World) (h : Flat w a (n * 12) U) (hn : n ≤ 1048576) (hbb : Bods n U) (h2 : Flat w a2 (n * 12) U2) (hq2 : ∀ k, k < n → 0 ≤ U2 (k * 12 + 11) ∧ U2 (k * 12 + 11) ≤ 8) :
 Calls Tryz.prog 87 #[.slice a n c, .slice a2 n c2] w fun e w' => ∃ a1 c1, e = .returned (.slice a1 n c1) ∧ OutL w w' 34 12 a1 n c1 (mapR (fun i V => quietV (U2 (i * 12 + 11)) V) U n) := by
 have hset := cset_map
 go_enter Tryz.func87, Tryz.ntmps87
 go_upto_region 1 with fail
 go_cut [5] (fun s0 wc => ∃ a1 c1, s0 = .slice a1 n c1 ∧ OutL w wc 34 12 a1 n c1 U)
 case first =>
  go_wp2_with (go_at_call 99; refine (l8Copy_any a n c U _ h hn).mono ?_; rintro e w3 ⟨a1, c1, rfl, hO⟩)
  go_meet
  exact ⟨_, _, rfl, hO⟩
 case rest =>
 obtain ⟨a1, c1, rfl, hO⟩ := hcut
 go_upto_region 3 with fail
 go_loopw [6, 7] (fun s _ wr => ∃ k : Nat, k ≤ n ∧ s = .int .i64 (k : Int) ∧ OutL w wr 34 12 a1 n c1 (mapR (fun i V => quietV (U2 (i * 12 + 11)) V) U k)) (fun s _ _ => n - (intOf s).toNat)
 case atStart => exact ⟨0, Nat.zero_le _, rfl, by rw [mapR_0]; exact hO⟩
 case round =>
  clear hO
  obtain ⟨k, hk, rfl, hO⟩ := hrel
  by_cases hlt : k < n
  · have hkn : (k : Int) < (n : Int) := by omega
    obtain ⟨g, rfl, hg1, hg2⟩ := hO.own.loc (by omega)
    have d0 : wr.cell? ⟨g, k * 12, none⟩ = some (.int .i64 (U (k * 12))) := by have q := hO.own.cellq (q := k * 12 + 0) (by omega); rw [mapR_row] at q; exact q
    have d1 : wr.cell? ⟨g, k * 12 + 1, none⟩ = some (.int .i64 (U (k * 12 + 1))) := by have q := hO.own.cellq (q := k * 12 + 1) (by omega); rw [mapR_row] at q; exact q
    have d2 : wr.cell? ⟨g, k * 12 + 2, none⟩ = some (.int .i64 (U (k * 12 + 2))) := by have q := hO.own.cellq (q := k * 12 + 2) (by omega); rw [mapR_row] at q; exact q
    have d3 : wr.cell? ⟨g, k * 12 + 3, none⟩ = some (.int .i64 (U (k * 12 + 3))) := by have q := hO.own.cellq (q := k * 12 + 3) (by omega); rw [mapR_row] at q; exact q
    have d4 : wr.cell? ⟨g, k * 12 + 4, none⟩ = some (.int .i64 (U (k * 12 + 4))) := by have q := hO.own.cellq (q := k * 12 + 4) (by omega); rw [mapR_row] at q; exact q
    have d5 : wr.cell? ⟨g, k * 12 + 5, none⟩ = some (.int .i64 (U (k * 12 + 5))) := by have q := hO.own.cellq (q := k * 12 + 5) (by omega); rw [mapR_row] at q; exact q
    have d6 : wr.cell? ⟨g, k * 12 + 6, none⟩ = some (.int .i64 (U (k * 12 + 6))) := by have q := hO.own.cellq (q := k * 12 + 6) (by omega); rw [mapR_row] at q; exact q
    have d7 : wr.cell? ⟨g, k * 12 + 7, none⟩ = some (.int .i64 (U (k * 12 + 7))) := by have q := hO.own.cellq (q := k * 12 + 7) (by omega); rw [mapR_row] at q; exact q
    have d8 : wr.cell? ⟨g, k * 12 + 8, none⟩ = some (.int .i64 (U (k * 12 + 8))) := by have q := hO.own.cellq (q := k * 12 + 8) (by omega); rw [mapR_row] at q; exact q
    have d9 : wr.cell? ⟨g, k * 12 + 9, none⟩ = some (.int .i64 (U (k * 12 + 9))) := by have q := hO.own.cellq (q := k * 12 + 9) (by omega); rw [mapR_row] at q; exact q
    have d10 : wr.cell? ⟨g, k * 12 + 10, none⟩ = some (.int .i64 (U (k * 12 + 10))) := by have q := hO.own.cellq (q := k * 12 + 10) (by omega); rw [mapR_row] at q; exact q
    have d11 : wr.cell? ⟨g, k * 12 + 11, none⟩ = some (.int .i64 (U (k * 12 + 11))) := by have q := hO.own.cellq (q := k * 12 + 11) (by omega); rw [mapR_row] at q; exact q
    have df := hO.own.fro
    obtain ⟨⟨m0, m1⟩, _, _, _, bd6, bd7, _⟩ := bodyB_bd (hbb.ok k hlt)
    (try simp only at m0 m1)
    obtain ⟨SL, hSL⟩ : ∃ b, decide (8 ≤ (fun j => U (k * 12 + j)) 11) = b := ⟨_, rfl⟩
    by_cases hm : U (k * 12 + 8) = 0
    · have HNO : Shut (mapR (fun i V => quietV (U2 (i * 12 + 11)) V) U (k + 1) = mapR (fun i V => quietV (U2 (i * 12 + 11)) V) U k) := mapR_same (fun j hj => by show quietV _ (fun j => U (k * 12 + j)) j = _; unfold quietV; rw [show decide ((fun j => U (k * 12 + j)) 8 = 0) = true from decide_eq_true hm]; rfl)
      have e1 : (U (k * 12 + 8) == 0) = true := by simp [hm]
      have e2 : (U (k * 12 + 8) = 0) = True := eq_true hm
      clear hm hSL
      go_wp2_with fail
      go_roundw
      case rel => exact ⟨k + 1, by omega, by go_num, by rw [HNO.out]; exact hO⟩
      case measure => simp [intOf]; omega
    · have NM : decide ((fun j => U (k * 12 + j)) 8 = 0) = false := decide_eq_false hm
      have e1 : (U (k * 12 + 8) == 0) = false := by simp [hm]
      cases SL with
      | true =>
       have HNO : Shut (mapR (fun i V => quietV (U2 (i * 12 + 11)) V) U (k + 1) = mapR (fun i V => quietV (U2 (i * 12 + 11)) V) U k) := mapR_same (fun j hj => by show quietV _ (fun j => U (k * 12 + j)) j = _; unfold quietV; rw [NM, hSL]; rfl)
       clear NM
       go_wp2_with (go_at_call 47; refine (l6Sleeps_k (fun j => U (k * 12 + j)) _ true hSL).mono ?_; rintro e w4 ⟨rfl, hb4⟩)
       go_roundw
       case rel => exact ⟨k + 1, by omega, by go_num, by rw [HNO.out]; exact hO.on hb4⟩
       case measure => simp [intOf]; omega
      | false =>
       go_upto_region 6 with (go_at_call 47; refine (l6Sleeps_k (fun j => U (k * 12 + j)) _ false hSL).mono ?_; rintro e w4 ⟨rfl, hb4⟩)
       have hO4 := hO.on hb4
       clear hO df d0 d1 d2 d3 d4 d5 d6 d7 d8 d9 d10 d11
       have d0 : w4.cell? ⟨g, k * 12, none⟩ = some (.int .i64 (U (k * 12))) := by have q := hO4.own.cellq (q := k * 12 + 0) (by omega); rw [mapR_row] at q; exact q
       have d1 : w4.cell? ⟨g, k * 12 + 1, none⟩ = some (.int .i64 (U (k * 12 + 1))) := by have q := hO4.own.cellq (q := k * 12 + 1) (by omega); rw [mapR_row] at q; exact q
       have d2 : w4.cell? ⟨g, k * 12 + 2, none⟩ = some (.int .i64 (U (k * 12 + 2))) := by have q := hO4.own.cellq (q := k * 12 + 2) (by omega); rw [mapR_row] at q; exact q
       have d3 : w4.cell? ⟨g, k * 12 + 3, none⟩ = some (.int .i64 (U (k * 12 + 3))) := by have q := hO4.own.cellq (q := k * 12 + 3) (by omega); rw [mapR_row] at q; exact q
       have d4 : w4.cell? ⟨g, k * 12 + 4, none⟩ = some (.int .i64 (U (k * 12 + 4))) := by have q := hO4.own.cellq (q := k * 12 + 4) (by omega); rw [mapR_row] at q; exact q
       have d5 : w4.cell? ⟨g, k * 12 + 5, none⟩ = some (.int .i64 (U (k * 12 + 5))) := by have q := hO4.own.cellq (q := k * 12 + 5) (by omega); rw [mapR_row] at q; exact q
       have d6 : w4.cell? ⟨g, k * 12 + 6, none⟩ = some (.int .i64 (U (k * 12 + 6))) := by have q := hO4.own.cellq (q := k * 12 + 6) (by omega); rw [mapR_row] at q; exact q
       have d7 : w4.cell? ⟨g, k * 12 + 7, none⟩ = some (.int .i64 (U (k * 12 + 7))) := by have q := hO4.own.cellq (q := k * 12 + 7) (by omega); rw [mapR_row] at q; exact q
       have d8 : w4.cell? ⟨g, k * 12 + 8, none⟩ = some (.int .i64 (U (k * 12 + 8))) := by have q := hO4.own.cellq (q := k * 12 + 8) (by omega); rw [mapR_row] at q; exact q
       have d9 : w4.cell? ⟨g, k * 12 + 9, none⟩ = some (.int .i64 (U (k * 12 + 9))) := by have q := hO4.own.cellq (q := k * 12 + 9) (by omega); rw [mapR_row] at q; exact q
       have d10 : w4.cell? ⟨g, k * 12 + 10, none⟩ = some (.int .i64 (U (k * 12 + 10))) := by have q := hO4.own.cellq (q := k * 12 + 10) (by omega); rw [mapR_row] at q; exact q
       have d11 : w4.cell? ⟨g, k * 12 + 11, none⟩ = some (.int .i64 (U (k * 12 + 11))) := by have q := hO4.own.cellq (q := k * 12 + 11) (by omega); rw [mapR_row] at q; exact q
       obtain ⟨IX, HX⟩ : ∃ b, decide (-8 ≤ spX (fun j => U (k * 12 + j)) ∧ spX (fun j => U (k * 12 + j)) ≤ 8) = b := ⟨_, rfl⟩
       obtain ⟨IY, HY⟩ : ∃ b, decide (-8 ≤ spY (fun j => U (k * 12 + j)) ∧ spY (fun j => U (k * 12 + j)) ≤ 8) = b := ⟨_, rfl⟩
       cases IX with
       | false =>
        have HS : Shut ((fun r => if r = k * 12 + 11 then 0 else mapR (fun i V => quietV (U2 (i * 12 + 11)) V) U k r) = mapR (fun i V => quietV (U2 (i * 12 + 11)) V) U (k + 1)) := mapR_one (by omega) (fun i hi => by
         show quietV (U2 (k * 12 + 11)) (fun j => U (k * 12 + j)) i = _
         unfold quietV
         rw [NM, hSL, HX]
         rfl)
        go_upto_region 7 with (go_at_call 103; refine (l6Speed_any (fun j => U (k * 12 + j)) _ bd6 bd7).mono ?_; rintro e w5 ⟨rfl, hb5⟩)
        have hE5 : Below w5.heap.size w5 (w5.alloc (Obj.cells #[.int .i64 (spX (fun j => U (k * 12 + j))), .int .i64 (spY (fun j => U (k * 12 + j)))] 32)) := (Below.refl _ _).alloc (Nat.le_refl _) _
        have hO6 := (hO4.on hb5).on hE5
        have v0 : (w5.alloc (Obj.cells #[.int .i64 (spX (fun j => U (k * 12 + j))), .int .i64 (spY (fun j => U (k * 12 + j)))] 32)).cell? ⟨w5.heap.size, 0, none⟩ = some (.int .i64 (spX (fun j => U (k * 12 + j)))) := by go_simp
        have v1 : (w5.alloc (Obj.cells #[.int .i64 (spX (fun j => U (k * 12 + j))), .int .i64 (spY (fun j => U (k * 12 + j)))] 32)).cell? ⟨w5.heap.size, 1, none⟩ = some (.int .i64 (spY (fun j => U (k * 12 + j)))) := by go_simp
        have hv5 : w5.heap.size < (w5.alloc (Obj.cells #[.int .i64 (spX (fun j => U (k * 12 + j))), .int .i64 (spY (fun j => U (k * 12 + j)))] 32)).heap.size := by simp
        have hgv : g < w5.heap.size := by have := hb5.size; have := hb4.size; omega
        generalize (w5.alloc (Obj.cells #[.int .i64 (spX (fun j => U (k * 12 + j))), .int .i64 (spY (fun j => U (k * 12 + j)))] 32)) = w6 at hE5 hO6 v0 v1 hv5 ⊢
        generalize w5.heap.size = bv at v0 v1 hv5 hgv hE5 ⊢
        clear hb5 hb4 hO4 hE5
        have ne1 : ¬ g = bv := by omega
        have ne2 : ¬ bv = g := by omega
        have uf := hO6.own.fro
        have uc := hO6.own.cellq (q := k * 12 + 11) (by omega)
        have hq0 := hO6.own.setq (k * 12 + 11) (by omega) 0
        have hB0 : Below w.heap.size w (w6.setCell ⟨g, k * 12 + 11, none⟩ (.int .i64 0)) := hO6.bel.setCell hg1 _
        go_upto_region 8 with fail
        have t0 : (w6.setCell ⟨g, k * 12 + 11, none⟩ (.int .i64 0)).cell? ⟨bv, 0, none⟩ = some (.int .i64 (spX (fun j => U (k * 12 + j)))) := by go_simp
        have t1 : (w6.setCell ⟨g, k * 12 + 11, none⟩ (.int .i64 0)).cell? ⟨bv, 1, none⟩ = some (.int .i64 (spY (fun j => U (k * 12 + j)))) := by go_simp
        have hbv : bv < (w6.setCell ⟨g, k * 12 + 11, none⟩ (.int .i64 0)).heap.size := by simp; omega
        generalize (w6.setCell ⟨g, k * 12 + 11, none⟩ (.int .i64 0)) = w7 at hq0 hB0 t0 t1 hbv ⊢
        clear hO6 uf uc v0 v1
        obtain ⟨sx, hsx⟩ : ∃ sx, spX (fun j => U (k * 12 + j)) = sx := ⟨_, rfl⟩
        obtain ⟨sy, hsy⟩ : ∃ sy, spY (fun j => U (k * 12 + j)) = sy := ⟨_, rfl⟩
        rw [hsx] at t0
        rw [hsy] at t1
        rw [hsx] at HX
        rw [hsy] at HY
        clear hsx hsy
        go_wp2_with (go_at_call 38; refine (l1In_q _ _ _ false _ HX).mono ?_; rintro e w8 ⟨rfl, hb8⟩)
        have hq9 := hq0.below hb8
        rw [HS.out] at hq9
        go_roundw
        case rel => exact ⟨k + 1, by omega, by go_num, hB0.trans (hb8.mono hB0.size), hq9⟩
        case measure => simp [intOf]; omega
       | true =>
        cases IY with
        | false =>
         have HS : Shut ((fun r => if r = k * 12 + 11 then 0 else mapR (fun i V => quietV (U2 (i * 12 + 11)) V) U k r) = mapR (fun i V => quietV (U2 (i * 12 + 11)) V) U (k + 1)) := mapR_one (by omega) (fun i hi => by
          show quietV (U2 (k * 12 + 11)) (fun j => U (k * 12 + j)) i = _
          unfold quietV
          rw [NM, hSL, HX, HY]
          rfl)
         go_upto_region 7 with (go_at_call 103; refine (l6Speed_any (fun j => U (k * 12 + j)) _ bd6 bd7).mono ?_; rintro e w5 ⟨rfl, hb5⟩)
         have hE5 : Below w5.heap.size w5 (w5.alloc (Obj.cells #[.int .i64 (spX (fun j => U (k * 12 + j))), .int .i64 (spY (fun j => U (k * 12 + j)))] 32)) := (Below.refl _ _).alloc (Nat.le_refl _) _
         have hO6 := (hO4.on hb5).on hE5
         have v0 : (w5.alloc (Obj.cells #[.int .i64 (spX (fun j => U (k * 12 + j))), .int .i64 (spY (fun j => U (k * 12 + j)))] 32)).cell? ⟨w5.heap.size, 0, none⟩ = some (.int .i64 (spX (fun j => U (k * 12 + j)))) := by go_simp
         have v1 : (w5.alloc (Obj.cells #[.int .i64 (spX (fun j => U (k * 12 + j))), .int .i64 (spY (fun j => U (k * 12 + j)))] 32)).cell? ⟨w5.heap.size, 1, none⟩ = some (.int .i64 (spY (fun j => U (k * 12 + j)))) := by go_simp
         have hv5 : w5.heap.size < (w5.alloc (Obj.cells #[.int .i64 (spX (fun j => U (k * 12 + j))), .int .i64 (spY (fun j => U (k * 12 + j)))] 32)).heap.size := by simp
         have hgv : g < w5.heap.size := by have := hb5.size; have := hb4.size; omega
         generalize (w5.alloc (Obj.cells #[.int .i64 (spX (fun j => U (k * 12 + j))), .int .i64 (spY (fun j => U (k * 12 + j)))] 32)) = w6 at hE5 hO6 v0 v1 hv5 ⊢
         generalize w5.heap.size = bv at v0 v1 hv5 hgv hE5 ⊢
         clear hb5 hb4 hO4 hE5
         have ne1 : ¬ g = bv := by omega
         have ne2 : ¬ bv = g := by omega
         have uf := hO6.own.fro
         have uc := hO6.own.cellq (q := k * 12 + 11) (by omega)
         have hq0 := hO6.own.setq (k * 12 + 11) (by omega) 0
         have hB0 : Below w.heap.size w (w6.setCell ⟨g, k * 12 + 11, none⟩ (.int .i64 0)) := hO6.bel.setCell hg1 _
         go_upto_region 8 with fail
         have t0 : (w6.setCell ⟨g, k * 12 + 11, none⟩ (.int .i64 0)).cell? ⟨bv, 0, none⟩ = some (.int .i64 (spX (fun j => U (k * 12 + j)))) := by go_simp
         have t1 : (w6.setCell ⟨g, k * 12 + 11, none⟩ (.int .i64 0)).cell? ⟨bv, 1, none⟩ = some (.int .i64 (spY (fun j => U (k * 12 + j)))) := by go_simp
         have hbv : bv < (w6.setCell ⟨g, k * 12 + 11, none⟩ (.int .i64 0)).heap.size := by simp; omega
         generalize (w6.setCell ⟨g, k * 12 + 11, none⟩ (.int .i64 0)) = w7 at hq0 hB0 t0 t1 hbv ⊢
         clear hO6 uf uc v0 v1
         obtain ⟨sx, hsx⟩ : ∃ sx, spX (fun j => U (k * 12 + j)) = sx := ⟨_, rfl⟩
         obtain ⟨sy, hsy⟩ : ∃ sy, spY (fun j => U (k * 12 + j)) = sy := ⟨_, rfl⟩
         rw [hsx] at t0
         rw [hsy] at t1
         rw [hsx] at HX
         rw [hsy] at HY
         clear hsx hsy
         go_wp2_with (first
          | (have _ := hb8; go_at_call 38; refine (l1In_q _ _ _ false _ HY).mono ?_; rintro e w9 ⟨rfl, hb9⟩)
          | (go_at_call 38; refine (l1In_q _ _ _ true _ HX).mono ?_; rintro e w8 ⟨rfl, hb8⟩; obtain ⟨hc8, hf8⟩ := bcell hb8; have t2 := (hc8 bv 1 hbv).trans t1; clear hc8 hf8))
         have hq9 := hq0.below (hb8.trans (hb9.mono hb8.size))
         rw [HS.out] at hq9
         go_roundw
         case rel => exact ⟨k + 1, by omega, by go_num, hB0.trans ((hb8.trans (hb9.mono hb8.size)).mono hB0.size), hq9⟩
         case measure => simp [intOf]; omega
        | true =>
         obtain ⟨qv, hqv⟩ : ∃ qv, mn (U2 (k * 12 + 11) + 1) 7 = qv := ⟨_, rfl⟩
         have HS : Shut ((fun r => if r = k * 12 + 11 then qv else mapR (fun i V => quietV (U2 (i * 12 + 11)) V) U k r) = mapR (fun i V => quietV (U2 (i * 12 + 11)) V) U (k + 1)) := mapR_one (by omega) (fun i hi => by
          show quietV (U2 (k * 12 + 11)) (fun j => U (k * 12 + j)) i = _
          unfold quietV
          rw [NM, hSL, HX, HY, ← hqv]
          rfl)
         go_upto_region 7 with (go_at_call 103; refine (l6Speed_any (fun j => U (k * 12 + j)) _ bd6 bd7).mono ?_; rintro e w5 ⟨rfl, hb5⟩)
         have hE5 : Below w5.heap.size w5 (w5.alloc (Obj.cells #[.int .i64 (spX (fun j => U (k * 12 + j))), .int .i64 (spY (fun j => U (k * 12 + j)))] 32)) := (Below.refl _ _).alloc (Nat.le_refl _) _
         have hO6 := (hO4.on hb5).on hE5
         have v0 : (w5.alloc (Obj.cells #[.int .i64 (spX (fun j => U (k * 12 + j))), .int .i64 (spY (fun j => U (k * 12 + j)))] 32)).cell? ⟨w5.heap.size, 0, none⟩ = some (.int .i64 (spX (fun j => U (k * 12 + j)))) := by go_simp
         have v1 : (w5.alloc (Obj.cells #[.int .i64 (spX (fun j => U (k * 12 + j))), .int .i64 (spY (fun j => U (k * 12 + j)))] 32)).cell? ⟨w5.heap.size, 1, none⟩ = some (.int .i64 (spY (fun j => U (k * 12 + j)))) := by go_simp
         have hv5 : w5.heap.size < (w5.alloc (Obj.cells #[.int .i64 (spX (fun j => U (k * 12 + j))), .int .i64 (spY (fun j => U (k * 12 + j)))] 32)).heap.size := by simp
         have hgv : g < w5.heap.size := by have := hb5.size; have := hb4.size; omega
         generalize (w5.alloc (Obj.cells #[.int .i64 (spX (fun j => U (k * 12 + j))), .int .i64 (spY (fun j => U (k * 12 + j)))] 32)) = w6 at hE5 hO6 v0 v1 hv5 ⊢
         generalize w5.heap.size = bv at v0 v1 hv5 hgv hE5 ⊢
         clear hb5 hb4 hO4 hE5
         have ne1 : ¬ g = bv := by omega
         have ne2 : ¬ bv = g := by omega
         have uf := hO6.own.fro
         have uc := hO6.own.cellq (q := k * 12 + 11) (by omega)
         have hq0 := hO6.own.setq (k * 12 + 11) (by omega) 0
         have hB0 : Below w.heap.size w (w6.setCell ⟨g, k * 12 + 11, none⟩ (.int .i64 0)) := hO6.bel.setCell hg1 _
         go_upto_region 8 with fail
         have t0 : (w6.setCell ⟨g, k * 12 + 11, none⟩ (.int .i64 0)).cell? ⟨bv, 0, none⟩ = some (.int .i64 (spX (fun j => U (k * 12 + j)))) := by go_simp
         have t1 : (w6.setCell ⟨g, k * 12 + 11, none⟩ (.int .i64 0)).cell? ⟨bv, 1, none⟩ = some (.int .i64 (spY (fun j => U (k * 12 + j)))) := by go_simp
         have hbv : bv < (w6.setCell ⟨g, k * 12 + 11, none⟩ (.int .i64 0)).heap.size := by simp; omega
         generalize (w6.setCell ⟨g, k * 12 + 11, none⟩ (.int .i64 0)) = w7 at hq0 hB0 t0 t1 hbv ⊢
         clear hO6 uf uc v0 v1
         obtain ⟨sx, hsx⟩ : ∃ sx, spX (fun j => U (k * 12 + j)) = sx := ⟨_, rfl⟩
         obtain ⟨sy, hsy⟩ : ∃ sy, spY (fun j => U (k * 12 + j)) = sy := ⟨_, rfl⟩
         rw [hsx] at t0
         rw [hsy] at t1
         rw [hsx] at HX
         rw [hsy] at HY
         clear hsx hsy
         go_upto_region 9 with (first
          | (have _ := hb8; go_at_call 38; refine (l1In_q _ _ _ true _ HY).mono ?_; rintro e w9 ⟨rfl, hb9⟩)
          | (go_at_call 38; refine (l1In_q _ _ _ true _ HX).mono ?_; rintro e w8 ⟨rfl, hb8⟩; obtain ⟨hc8, hf8⟩ := bcell hb8; have t2 := (hc8 bv 1 hbv).trans t1; clear hc8 hf8))
         have hq9 := (hq0.below hb8).below hb9
         have hB9 : Below w.heap.size w w9 := hB0.trans ((hb8.trans (hb9.mono hb8.size)).mono hB0.size)
         clear hq0 hB0 hb8 hb9 t0 t1 t2
         obtain ⟨b2, o2, rfl, hbl2, hc2⟩ := (h2.below hB9) (by omega)
         have r2 := hc2 (k * 12 + 11) (by omega)
         simp only [← Nat.add_assoc] at r2
         clear hc2
         have hqb := hq2 k hlt
         have hwq : IntKind.i64.wrap (U2 (k * 12 + 11) + 1) = U2 (k * 12 + 11) + 1 := i64w (by omega)
         have uf := hq9.fro
         have uc := hq9.cellq (q := k * 12 + 11) (by omega)
         go_wp2_with (go_at_call 35; refine (l3Less_any _ _ _).mono ?_; rintro e wa ⟨rfl, ha⟩; have ha' := ha.symm; subst ha'; clear ha)
         have hqa := (hq9.setq (k * 12 + 11) (by omega) qv).congr (V := fun r => if r = k * 12 + 11 then qv else mapR (fun i V => quietV (U2 (i * 12 + 11)) V) U k r) (fun q _ => by by_cases e : q = k * 12 + 11 <;> simp [e])
         rw [HS.out] at hqa
         have hBa : Below w.heap.size w (w9.setCell ⟨g, k * 12 + 11, none⟩ (.int .i64 qv)) := hB9.setCell hg1 _
         go_roundw
         case rel => exact ⟨k + 1, by omega, by go_num, hBa, hqa⟩
         case measure => simp [intOf]; omega
  · obtain rfl : k = n := by omega
    go_wp2_with fail
    go_ret
    exact ⟨_, _, rfl, hO⟩
end Go.Proofs.YtalkkjhehndaoaaGreat
