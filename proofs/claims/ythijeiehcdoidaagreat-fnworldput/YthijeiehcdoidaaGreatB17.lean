/- Texts of a proof. -/
import Derived.Test.YthijeiehcdoidaaGreatB15
import Derived.Deep.RegionHeld3
import Derived.Deep.DeepCutAuto
import Derived.Test.YthijeiehcdoidaaGreatB3
import Derived.Test.YthijeiehcdoidaaGreatB11
import Derived.Test.YthijeiehcdoidaaGreatB5
import Derived.Test.YthijeiehcdoidaaGreatB7
set_option maxHeartbeats 16000000
set_option maxRecDepth 20000
namespace Go.Proofs.YthijeiehcdoidaaGreat
open Go.RowKit
set_option linter.unusedVariables false
set_option linter.unusedSimpArgs false
structure Hide (p : Prop) : Prop where
 out : p
theorem tdiv_le {x B m : Int} (hm : 0 < m) (hB : 0 ≤ B) (h : -(B * m) ≤ x ∧ x ≤ B * m) : -B ≤ x.tdiv m ∧ x.tdiv m ≤ B := by
 by_cases h0 : 0 ≤ x
 · rw [Int.tdiv_eq_ediv_of_nonneg h0]
   have q1 := Int.ediv_nonneg h0 (Int.le_of_lt hm)
   exact ⟨by omega, Int.ediv_le_of_le_mul hm h.2⟩
 · have e : x.tdiv m = -((-x) / m) := by rw [← Int.tdiv_eq_ediv_of_nonneg (show 0 ≤ -x by omega), Int.neg_tdiv, Int.neg_neg]
   rw [e]
   have q1 := Int.ediv_nonneg (show 0 ≤ -x by omega) (Int.le_of_lt hm)
   have q2 := Int.ediv_le_of_le_mul hm (show -x ≤ B * m by omega)
   omega
def shareV (V W : Nat → Int) (n : Int) : Int := bif decide (V 8 = 0) then 0 else bif decide (W 8 = 0) then n else (n * W 8).tdiv (V 8 + W 8)
theorem share_bd {V W : Nat → Int} {n : Int} (h0 : 0 ≤ V 8) (h1 : 0 ≤ W 8) (hn : 0 ≤ n) : 0 ≤ shareV V W n ∧ shareV V W n ≤ n := by
 unfold shareV
 by_cases m0 : V 8 = 0
 · rw [decide_eq_true m0]; exact ⟨Int.le_refl _, hn⟩
 · rw [decide_eq_false m0]
   by_cases m1 : W 8 = 0
   · rw [decide_eq_true m1]; exact ⟨hn, Int.le_refl _⟩
   · rw [decide_eq_false m1]
     show 0 ≤ (n * W 8).tdiv (V 8 + W 8) ∧ (n * W 8).tdiv (V 8 + W 8) ≤ n
     have p0 : 0 ≤ n * W 8 := Int.mul_nonneg hn h1
     rw [Int.tdiv_eq_ediv_of_nonneg p0]
     refine ⟨Int.ediv_nonneg p0 (by omega), ?_⟩
     refine Int.ediv_le_of_le_mul (by omega) ?_
     exact Int.mul_le_mul_of_nonneg_left (by omega) hn
theorem l8Share_q (V W : Nat → Int) (n x : Int) (w : World) (h0 : 0 ≤ V 8 ∧ V 8 ≤ 1000) (h1 : 0 ≤ W 8 ∧ W 8 ≤ 1000) (hn : -30000 ≤ n ∧ n ≤ 30000) (ex : shareV V W n = x) :
 Calls Tryz.prog 174 #[bodyW V, bodyW W, .int .i64 n] w fun e w' => e = .returned (.int .i64 x) ∧ Below w.heap.size w w' := by
 have hset := cset_map
 have p := mul_bd (a := n) (b := W 8) (A := 30000) (B := 1000) (by omega) (by omega)
 have q := tdiv_bd (x := n * W 8) (B := 30000000) (V 8 + W 8) (by omega)
 have w1 : IntKind.i64.wrap (n * W 8) = n * W 8 := i64w (by omega)
 have w2 : IntKind.i64.wrap (V 8 + W 8) = V 8 + W 8 := i64w (by omega)
 have w3 : IntKind.i64.wrap ((n * W 8).tdiv (V 8 + W 8)) = (n * W 8).tdiv (V 8 + W 8) := i64w (by omega)
 by_cases m0 : V 8 = 0
 · have ex' : x = 0 := by rw [← ex]; unfold shareV; rw [decide_eq_true m0]; rfl
   subst ex'
   have e1 : (V 8 == 0) = true := by simp [m0]
   have M0 : Shut (V 8 = 0) := m0
   clear m0 ex
   go_enter Tryz.func174, Tryz.ntmps174
   go_wp2_with fail
   go_ret
   exact ⟨rfl, bel_a⟩
 · have e1 : (V 8 == 0) = false := by simp [m0]
   by_cases m1 : W 8 = 0
   · have ex' : x = n := by rw [← ex]; unfold shareV; rw [decide_eq_false m0, decide_eq_true m1]; rfl
     subst ex'
     have e2 : (W 8 == 0) = true := by simp [m1]
     have M1 : Shut (W 8 = 0) := m1
     clear m1 ex w1 w2 w3 p q
     go_enter Tryz.func174, Tryz.ntmps174
     go_wp2_with fail
     go_ret
     exact ⟨rfl, bel_a⟩
   · have ex' : (n * W 8).tdiv (V 8 + W 8) = x := by rw [← ex]; unfold shareV; rw [decide_eq_false m0, decide_eq_false m1]; rfl
     have e2 : (W 8 == 0) = false := by simp [m1]
     have e3 : ¬ V 8 + W 8 = 0 := by omega
     clear ex
     go_enter Tryz.func174, Tryz.ntmps174
     go_wp2_with fail
     go_ret
     exact ⟨by first | rfl | (rw [← ex']) | simp [ex'], bel_a⟩
def apartU (U : Nat → Int) (A B : Nat) (X Y D : Int) : Nat → Int :=
 bif decide (0 < (D - 64).tdiv 4) then
  (let U1 := bif decide (0 < U (A * 12 + 8)) then putRow U A (moveV (fun j => U (A * 12 + j)) ((-X * shareV (fun j => U (A * 12 + j)) (fun j => U (B * 12 + j)) ((D - 64).tdiv 4)).tdiv 256) ((-Y * shareV (fun j => U (A * 12 + j)) (fun j => U (B * 12 + j)) ((D - 64).tdiv 4)).tdiv 256)) else U
   bif decide (0 < U (B * 12 + 8)) then putRow U1 B (moveV (fun j => U (B * 12 + j)) ((X * shareV (fun j => U (B * 12 + j)) (fun j => U (A * 12 + j)) ((D - 64).tdiv 4)).tdiv 256) ((Y * shareV (fun j => U (B * 12 + j)) (fun j => U (A * 12 + j)) ((D - 64).tdiv 4)).tdiv 256)) else U1)
 else U
structure Ap8 (w wc : World) (A B : Nat) (X Y D : Int) (ba bb : Nat) (VA VB : Nat → Int) : Prop where
 k0 : wc.cell? ⟨w.heap.size, 0, none⟩ = some (.int .i64 (A : Int))
 k1 : wc.cell? ⟨w.heap.size, 1, none⟩ = some (.int .i64 (B : Int))
 k2 : wc.cell? ⟨w.heap.size, 2, none⟩ = some (.int .i64 X)
 k3 : wc.cell? ⟨w.heap.size, 3, none⟩ = some (.int .i64 Y)
 k4 : wc.cell? ⟨w.heap.size, 4, none⟩ = some (.int .i64 D)
 ca : ∀ j, j < 12 → wc.cell? ⟨ba, j, none⟩ = some (.int .i64 (VA j))
 cb : ∀ j, j < 12 → wc.cell? ⟨bb, j, none⟩ = some (.int .i64 (VB j))
 l0 : w.heap.size < wc.heap.size
 la : ba < wc.heap.size
 lb : bb < wc.heap.size
 ga : w.heap.size < ba
 gb : w.heap.size < bb
theorem Ap8.on {w wc w' : World} {A B : Nat} {X Y D : Int} {ba bb : Nat} {VA VB : Nat → Int} (h : Ap8 w wc A B X Y D ba bb VA VB) (hb : Below wc.heap.size wc w') : Ap8 w w' A B X Y D ba bb VA VB :=
 have k := fun j => hb.cell (p := ⟨w.heap.size, j, none⟩) h.l0
 ⟨(k 0).trans h.k0, (k 1).trans h.k1, (k 2).trans h.k2, (k 3).trans h.k3, (k 4).trans h.k4, fun j hj => (hb.cell (p := ⟨ba, j, none⟩) h.la).trans (h.ca j hj), fun j hj => (hb.cell (p := ⟨bb, j, none⟩) h.lb).trans (h.cb j hj), Nat.lt_of_lt_of_le h.l0 hb.size, Nat.lt_of_lt_of_le h.la hb.size, Nat.lt_of_lt_of_le h.lb hb.size, h.ga, h.gb⟩
theorem Ap8.fr {w wc w' : World} {A B g : Nat} {X Y D : Int} {ba bb : Nat} {VA VB : Nat → Int} (h : Ap8 w wc A B X Y D ba bb VA VB) (hs : Fr (fun b => b = g) wc w') (hg : g < w.heap.size) : Ap8 w w' A B X Y D ba bb VA VB := by
 have ga := h.ga
 have gb := h.gb
 have k := fun j => hs.cell (p := ⟨w.heap.size, j, none⟩) h.l0 (by simp; omega)
 exact ⟨(k 0).trans h.k0, (k 1).trans h.k1, (k 2).trans h.k2, (k 3).trans h.k3, (k 4).trans h.k4, fun j hj => (hs.cell (p := ⟨ba, j, none⟩) h.la (by simp; omega)).trans (h.ca j hj), fun j hj => (hs.cell (p := ⟨bb, j, none⟩) h.lb (by simp; omega)).trans (h.cb j hj), Nat.lt_of_lt_of_le h.l0 hs.size, Nat.lt_of_lt_of_le h.la hs.size, Nat.lt_of_lt_of_le h.lb hs.size, h.ga, h.gb⟩
def FlatB (w : World) (a : Option Addr) (n : Nat) (A : Nat → Bool) : Prop := 0 < n → ∃ b o, a = some ⟨b, o, none⟩ ∧ b < w.heap.size ∧ ∀ j, j < n → w.cell? ⟨b, o + j, none⟩ = some (.bool (A j))
theorem FlatB.below {w w' : World} {a : Option Addr} {n B : Nat} {A : Nat → Bool} (h : FlatB w a n A) (hb : Below w.heap.size w w') : FlatB w' a n A := fun h0 => by
 obtain ⟨b, o, e, l, c⟩ := h h0
 exact ⟨b, o, e, Nat.lt_of_lt_of_le l hb.size, fun j hj => (hb.cell (p := ⟨b, o + j, none⟩) l).trans (c j hj)⟩
def wakeV (b : Bool) (V : Nat → Int) : Nat → Int := bif b && decide (8 ≤ V 11) then setV V 11 0 else V
def awK (G : Nat → Int) (A : Nat → Bool) (k : Nat) : Bool := decide (0 ≤ G k) && A (G k).toNat
theorem l9Wake_any (a : Option Addr) (n c : Nat) (U : Nat → Int) (ag : Option Addr) (cg : Nat) (G : Nat → Int) (aa : Option Addr) (na ca : Nat) (A : Nat → Bool) (w : World) (h : Flat w a (n * 12) U) (hn : n ≤ 1048576) (hG2 : Flat w ag (n * 1) G) (hA3 : FlatB w aa na A) (hGn : ∀ k, k < n → G k < (na : Int)) :
 Calls Tryz.prog 142 #[.slice a n c, .slice ag n cg, .slice aa na ca] w fun e w' => ∃ a1 c1, e = .returned (.slice a1 n c1) ∧ OutL w w' 41 12 a1 n c1 (mapR (fun i V => wakeV (awK G A i) V) U n) := by
 have hset := cset_map
 go_enter Tryz.func142, Tryz.ntmps142
 go_upto_region 1 with fail
 go_cut [7] (fun s0 wc => ∃ a1 c1, s0 = .slice a1 n c1 ∧ OutL w wc 41 12 a1 n c1 U)
 case first =>
  go_wp2_with (go_at_call 72; refine (l8Copy_any a n c U _ h hn).mono ?_; rintro e w3 ⟨a1, c1, rfl, hO⟩)
  go_meet
  exact ⟨_, _, rfl, hO⟩
 case rest =>
 obtain ⟨a1, c1, rfl, hO⟩ := hcut
 go_upto_region 3 with fail
 go_loopw [8] (fun s wr => ∃ k : Nat, k ≤ n ∧ s = .int .i64 (k : Int) ∧ OutL w wr 41 12 a1 n c1 (mapR (fun i V => wakeV (awK G A i) V) U k)) (fun s _ => n - (intOf s).toNat)
 case atStart => exact ⟨0, Nat.zero_le _, rfl, by rw [mapR_0]; exact hO⟩
 case round =>
  clear hO
  obtain ⟨k, hk, rfl, hO⟩ := hrel
  by_cases hlt : k < n
  · have hkn : (k : Int) < (n : Int) := by omega
    obtain ⟨g, rfl, hg1, hg2⟩ := hO.own.loc (by omega)
    have d0 : wr.cell? ⟨g, k * 12, none⟩ = some (.int .i64 (U (k * 12))) := by have q := hO.own.cellq (q := k * 12 + 0) (by omega); rw [mapR_row] at q; exact q
    have d1 : wr.cell? ⟨g, k * 12 + 1, none⟩ = some (.int .i64 (U (k * 12 + 1))) := by have q := hO.own.cellq (q := k * 12 + 1) (by omega); rw [mapR_row] at q; exact q
    have d2 : wr.cell? ⟨g, k * 12 + 2, none⟩ = some (.int .i64 (U (k * 12 + 2))) := by have q := hO.own.cellq (q := k * 12 + 2) (by omega); rw [mapR_row] at q; exact q
    have d3 : wr.cell? ⟨g, k * 12 + 3, none⟩ = some (.int .i64 (U (k * 12 + 3))) := by have q := hO.own.cellq (q := k * 12 + 3) (by omega); rw [mapR_row] at q; exact q
    have d4 : wr.cell? ⟨g, k * 12 + 4, none⟩ = some (.int .i64 (U (k * 12 + 4))) := by have q := hO.own.cellq (q := k * 12 + 4) (by omega); rw [mapR_row] at q; exact q
    have d5 : wr.cell? ⟨g, k * 12 + 5, none⟩ = some (.int .i64 (U (k * 12 + 5))) := by have q := hO.own.cellq (q := k * 12 + 5) (by omega); rw [mapR_row] at q; exact q
    have d6 : wr.cell? ⟨g, k * 12 + 6, none⟩ = some (.int .i64 (U (k * 12 + 6))) := by have q := hO.own.cellq (q := k * 12 + 6) (by omega); rw [mapR_row] at q; exact q
    have d7 : wr.cell? ⟨g, k * 12 + 7, none⟩ = some (.int .i64 (U (k * 12 + 7))) := by have q := hO.own.cellq (q := k * 12 + 7) (by omega); rw [mapR_row] at q; exact q
    have d8 : wr.cell? ⟨g, k * 12 + 8, none⟩ = some (.int .i64 (U (k * 12 + 8))) := by have q := hO.own.cellq (q := k * 12 + 8) (by omega); rw [mapR_row] at q; exact q
    have d9 : wr.cell? ⟨g, k * 12 + 9, none⟩ = some (.int .i64 (U (k * 12 + 9))) := by have q := hO.own.cellq (q := k * 12 + 9) (by omega); rw [mapR_row] at q; exact q
    have d10 : wr.cell? ⟨g, k * 12 + 10, none⟩ = some (.int .i64 (U (k * 12 + 10))) := by have q := hO.own.cellq (q := k * 12 + 10) (by omega); rw [mapR_row] at q; exact q
    have d11 : wr.cell? ⟨g, k * 12 + 11, none⟩ = some (.int .i64 (U (k * 12 + 11))) := by have q := hO.own.cellq (q := k * 12 + 11) (by omega); rw [mapR_row] at q; exact q
    have df := hO.own.fro
    obtain ⟨SL, hSL⟩ : ∃ b, decide (8 ≤ (fun j => U (k * 12 + j)) 11) = b := ⟨_, rfl⟩
    obtain ⟨b2, o2, e2, hbl2, hc2⟩ := (hG2.below hO.bel) (by omega)
    have r2 := hc2 k (by omega)
    clear hc2
    have hGk := hGn k hlt
    subst e2
    obtain ⟨gk, hgk⟩ : ∃ z, G k = z := ⟨_, rfl⟩
    rw [hgk] at r2 hGk
    by_cases hg0 : 0 ≤ gk
    · obtain ⟨b3, o3, e3, hbl3, hc3⟩ := hA3 (by omega)
      have r3 := (hO.bel.cell (p := ⟨b3, o3 + gk.toNat, none⟩) hbl3).trans (hc3 gk.toNat (by omega))
      clear hc3
      subst e3
      obtain ⟨aw, haw⟩ : ∃ z, A gk.toNat = z := ⟨_, rfl⟩
      have hak : awK G A k = aw := by unfold awK; rw [hgk, decide_eq_true hg0, Bool.true_and, haw]
      rw [haw] at r3
      have hgi : gk < (na : Int) := by omega
      clear hgk haw
      cases aw with
      | false =>
       have HNO : Shut (mapR (fun i V => wakeV (awK G A i) V) U (k + 1) = mapR (fun i V => wakeV (awK G A i) V) U k) := mapR_same (fun j hj => by show wakeV (awK G A k) (fun j => U (k * 12 + j)) j = _; unfold wakeV; rw [hak]; rfl)
       clear hak hSL
       go_wp2_with fail
       go_roundw
       case rel => exact ⟨k + 1, by omega, by go_num, by rw [HNO.out]; exact hO⟩
       case measure => simp [intOf]; omega
      | true =>
       cases SL with
       | false =>
        have HNO : Shut (mapR (fun i V => wakeV (awK G A i) V) U (k + 1) = mapR (fun i V => wakeV (awK G A i) V) U k) := mapR_same (fun j hj => by show wakeV (awK G A k) (fun j => U (k * 12 + j)) j = _; unfold wakeV; rw [hak, hSL]; rfl)
        clear hak
        go_wp2_with (go_at_call 160; refine (l6Sleeps_k (fun j => U (k * 12 + j)) _ false hSL).mono ?_; rintro e w4 ⟨rfl, hb4⟩)
        go_roundw
        case rel => exact ⟨k + 1, by omega, by go_num, by rw [HNO.out]; exact hO.on hb4⟩
        case measure => simp [intOf]; omega
       | true =>
        have HS : Shut ((fun r => if r = k * 12 + 11 then 0 else mapR (fun i V => wakeV (awK G A i) V) U k r) = mapR (fun i V => wakeV (awK G A i) V) U (k + 1)) := mapR_one (by omega) (fun i hi => by
         show wakeV (awK G A k) (fun j => U (k * 12 + j)) i = _
         unfold wakeV
         rw [hak, hSL]
         rfl)
        clear hak
        go_upto_region 6 with (go_at_call 160; refine (l6Sleeps_k (fun j => U (k * 12 + j)) _ true hSL).mono ?_; rintro e w4 ⟨rfl, hb4⟩)
        have hO4 := hO.on hb4
        have uf := hO4.own.fro
        have uc := hO4.own.cellq (q := k * 12 + 11) (by omega)
        go_wp2_with fail
        have hq := hO4.own.setq (k * 12 + 11) (by omega) 0
        rw [HS.out] at hq
        have hB5 : Below w.heap.size w (w4.setCell ⟨g, k * 12 + 11, none⟩ (.int .i64 0)) := hO4.bel.setCell hg1 _
        go_roundw
        case rel => exact ⟨k + 1, by omega, by go_num, hB5, hq⟩
        case measure => simp [intOf]; omega
    · have hak : awK G A k = false := by unfold awK; rw [hgk, decide_eq_false hg0, Bool.false_and]
      have HNO : Shut (mapR (fun i V => wakeV (awK G A i) V) U (k + 1) = mapR (fun i V => wakeV (awK G A i) V) U k) := mapR_same (fun j hj => by show wakeV (awK G A k) (fun j => U (k * 12 + j)) j = _; unfold wakeV; rw [hak]; rfl)
      clear hak hSL hgk
      go_wp2_with fail
      go_roundw
      case rel => exact ⟨k + 1, by omega, by go_num, by rw [HNO.out]; exact hO⟩
      case measure => simp [intOf]; omega
  · obtain rfl : k = n := by omega
    go_wp2_with fail
    go_ret
    exact ⟨_, _, rfl, hO⟩
def allQ (G U : Nat → Int) (g : Nat) : Nat → Bool
 | 0 => true
 | i + 1 => allQ G U g i && (!decide (G i = (g : Int)) || decide (7 ≤ U (i * 12 + 11)))
def slV (V : Nat → Int) : Nat → Int := fun i => if i = 7 then 0 else if i = 6 then 0 else if i = 11 then 8 else V i
def slF (G : Nat → Int) (g : Nat) : Nat → (Nat → Int) → Nat → Int := fun i V => bif decide (G i = (g : Int)) then slV V else V
def sleepS (G : Nat → Int) (A : Nat → Bool) (n g : Nat) (U : Nat → Int) : Nat → Int := bif A g && allQ G U g n then mapR (slF G g) U n else U
def sleepN (G : Nat → Int) (A : Nat → Bool) (n : Nat) (U : Nat → Int) : Nat → Nat → Int
 | 0 => U
 | g + 1 => sleepS G A n g (sleepN G A n U g)
theorem mapR_sl {f : Nat → (Nat → Int) → Nat → Int} {U : Nat → Int} {k : Nat} (h : f k (fun j => U (k * 12 + j)) = slV (fun j => U (k * 12 + j))) : (fun r => if r = k * 12 + 7 then 0 else if r = k * 12 + 6 then 0 else if r = k * 12 + 11 then 8 else mapR f U k r) = mapR f U (k + 1) := by
 rw [← mapR_set, h]
 funext q
 unfold putRow slV
 by_cases e : k * 12 ≤ q ∧ q < k * 12 + 12
 · rw [if_pos e]
   obtain ⟨d, rfl⟩ : ∃ d, q = k * 12 + d := ⟨q - k * 12, by omega⟩
   rw [Nat.add_sub_cancel_left, mapR_row]
   by_cases e1 : d = 7
   · rw [if_pos (by omega), if_pos e1]
   · rw [if_neg (by omega), if_neg e1]
     by_cases e2 : d = 6
     · rw [if_pos (by omega), if_pos e2]
     · rw [if_neg (by omega), if_neg e2]
       by_cases e3 : d = 11
       · rw [if_pos (by omega), if_pos e3]
       · rw [if_neg (by omega), if_neg e3]
 · rw [if_neg e, if_neg (by omega), if_neg (by omega), if_neg (by omega)]
def slU (b : Bool) (G : Nat → Int) (g : Nat) (U : Nat → Int) (i : Nat) : Nat → Int := bif b then mapR (slF G g) U i else U
theorem l9Sleep_any (a : Option Addr) (n c : Nat) (U : Nat → Int) (ag : Option Addr) (cg : Nat) (G : Nat → Int) (aa : Option Addr) (na ca : Nat) (A : Nat → Bool) (w : World) (h : Flat w a (n * 12) U) (hn : n ≤ 1048576) (hna : na ≤ 1048576) (hG2 : Flat w ag (n * 1) G) (hA3 : FlatB w aa na A) :
 Calls Tryz.prog 148 #[.slice a n c, .slice ag n cg, .slice aa na ca] w fun e w' => ∃ a1 c1, e = .returned (.slice a1 n c1) ∧ OutL w w' 41 12 a1 n c1 (sleepN G A n U na) := by
 have hset := cset_map
 go_enter Tryz.func148, Tryz.ntmps148
 go_upto_region 1 with fail
 go_cut [7] (fun s0 wc => ∃ a1 c1, s0 = .slice a1 n c1 ∧ OutL w wc 41 12 a1 n c1 U)
 case first =>
  go_wp2_with (go_at_call 72; refine (l8Copy_any a n c U _ h hn).mono ?_; rintro e w3 ⟨a1, c1, rfl, hO⟩)
  go_meet
  exact ⟨_, _, rfl, hO⟩
 case rest =>
 obtain ⟨a1, c1, rfl, hO⟩ := hcut
 go_upto_region 3 with fail
 go_loopw [8, 9, 10, 11] (fun s _ _ _ wr => ∃ g : Nat, g ≤ na ∧ s = .int .i64 (g : Int) ∧ OutL w wr 41 12 a1 n c1 (sleepN G A n U g)) (fun s _ _ _ _ => na - (intOf s).toNat)
 case atStart => exact ⟨0, Nat.zero_le _, rfl, hO⟩
 case round =>
  clear hO
  obtain ⟨g, hg, rfl, hO⟩ := hrel
  by_cases hlt : g < na
  · have hgn : (g : Int) < (na : Int) := by omega
    obtain ⟨b3, o3, e3, hbl3, hc3⟩ := hA3 (by omega)
    have r3 := (hO.bel.cell (p := ⟨b3, o3 + g, none⟩) hbl3).trans (hc3 g hlt)
    clear hc3
    subst e3
    obtain ⟨aw, haw⟩ : ∃ z, A g = z := ⟨_, rfl⟩
    rw [haw] at r3
    obtain ⟨X, hX⟩ : ∃ X, sleepN G A n U g = X := ⟨_, rfl⟩
    have HN : Shut (sleepN G A n U (g + 1) = sleepS G A n g X) := by show _ = _; rw [sleepN, hX]
    rw [hX] at hO
    clear hX
    cases aw with
    | false =>
     have HNO : Shut (sleepN G A n U (g + 1) = X) := by show _ = _; rw [HN.out]; unfold sleepS; rw [haw]; rfl
     clear haw
     go_wp2_with fail
     go_roundw
     case rel => exact ⟨g + 1, by omega, by go_num, by rw [HNO.out]; exact hO⟩
     case measure => simp [intOf]; omega
    | true =>
     have HYE : Shut (sleepN G A n U (g + 1) = slU (allQ G X g n) G g X n) := by show _ = _; rw [HN.out]; unfold sleepS slU; rw [haw]; rfl
     clear haw HN
     go_upto_region 8 with fail
     go_loopw [9, 10] (fun s9 s10 wq => ∃ i : Nat, i ≤ n ∧ s10 = .int .i64 (i : Int) ∧ s9 = .bool (allQ G X g i) ∧ wq = wr) (fun _ s10 _ => n - (intOf s10).toNat)
     case atStart => exact ⟨0, Nat.zero_le _, rfl, rfl, rfl⟩
     case round =>
      obtain ⟨i, hi, rfl, rfl, rfl⟩ := hrel
      by_cases hil : i < n
      · have hin : (i : Int) < (n : Int) := by omega
        obtain ⟨b2, o2, e2, hbl2, hc2⟩ := (hG2.below hO.bel) (by omega)
        have r2 := hc2 i (by omega)
        clear hc2
        subst e2
        obtain ⟨gb, rfl, hg1, hg2⟩ := hO.own.loc (by omega)
        have u11 := hO.own.cellq (q := i * 12 + 11) (by omega)
        obtain ⟨AL, hAL⟩ : ∃ b, allQ G X g i = b := ⟨_, rfl⟩
        have HQ : Shut (allQ G X g (i + 1) = (AL && (!decide (G i = (g : Int)) || decide (7 ≤ X (i * 12 + 11))))) := by show _ = _; rw [allQ, hAL]
        rw [hAL]
        clear hAL
        cases AL with
        | false =>
         go_wp2_with fail
         go_roundw
         case rel => exact ⟨i + 1, by omega, by go_num, congrArg Value.bool (by rw [HQ.out]; rfl), by trivial⟩
         case measure => simp [intOf]; omega
        | true =>
         by_cases e : G i = (g : Int)
         · have e4 : (G i != (g : Int)) = false := by simp [e]
           have e5 : (G i == (g : Int)) = true := by simp [e]
           have E : Shut (G i = (g : Int)) := e
           clear e
           by_cases q7 : 7 ≤ X (i * 12 + 11)
           · go_wp2_with fail
             go_roundw
             case rel => exact ⟨i + 1, by omega, by go_num, congrArg Value.bool (by rw [HQ.out, decide_eq_true E.out, decide_eq_true q7]; rfl), by trivial⟩
             case measure => simp [intOf]; omega
           · go_wp2_with fail
             go_roundw
             case rel => exact ⟨i + 1, by omega, by go_num, congrArg Value.bool (by rw [HQ.out, decide_eq_true E.out, decide_eq_false q7]; rfl), by trivial⟩
             case measure => simp [intOf]; omega
         · have e4 : (G i != (g : Int)) = true := by simp [e]
           have e5 : (G i == (g : Int)) = false := by simp [e]
           go_wp2_with fail
           go_roundw
           case rel => exact ⟨i + 1, by omega, by go_num, congrArg Value.bool (by rw [HQ.out, decide_eq_false e]; rfl), by trivial⟩
           case measure => simp [intOf]; omega
      · obtain rfl : i = n := by omega
        obtain ⟨AL, hAL⟩ : ∃ b, allQ G X g i = b := ⟨_, rfl⟩
        rw [hAL] at HYE
        rw [hAL]
        clear hAL
        go_upto_region 12 with fail
        go_loopw [11] (fun s wq => ∃ k : Nat, k ≤ i ∧ s = .int .i64 (k : Int) ∧ OutL w wq 41 12 a1 i c1 (slU AL G g X k)) (fun s _ => i - (intOf s).toNat)
        case atStart => exact ⟨0, Nat.zero_le _, rfl, by unfold slU; cases AL; exact hO; rw [mapR_0]; exact hO⟩
        case round =>
         clear hO
         obtain ⟨k, hk, rfl, hO⟩ := hrel
         by_cases hkl : k < i
         · have hkn : (k : Int) < (i : Int) := by omega
           cases AL with
           | false =>
            go_wp2_with fail
            go_roundw
            case rel => exact ⟨k + 1, by omega, by go_num, hO⟩
            case measure => simp [intOf]; omega
           | true =>
            obtain ⟨b2, o2, e2, hbl2, hc2⟩ := (hG2.below hO.bel) (by omega)
            have r2 := hc2 k (by omega)
            clear hc2
            subst e2
            by_cases e : G k = (g : Int)
            · have e5 : (G k == (g : Int)) = true := by simp [e]
              have e6 : (G k = (g : Int)) = True := eq_true e
              have HS : Shut ((fun r => if r = k * 12 + 7 then 0 else if r = k * 12 + 6 then 0 else if r = k * 12 + 11 then 8 else mapR (slF G g) X k r) = mapR (slF G g) X (k + 1)) := mapR_sl (by unfold slF; rw [decide_eq_true e]; rfl)
              clear e
              obtain ⟨gb, rfl, hg1, hg2⟩ := hO.own.loc (by omega)
              have hO' : OutL w wr 41 12 (some ⟨gb, 0, none⟩) i c1 (mapR (slF G g) X k) := hO
              have uf := hO'.own.fro
              have u6 := hO'.own.cellq (q := k * 12 + 6) (by omega)
              have u7 := hO'.own.cellq (q := k * 12 + 7) (by omega)
              have u11 := hO'.own.cellq (q := k * 12 + 11) (by omega)
              go_wp2_with fail
              have q1 := ((hO'.own.setq (k * 12 + 11) (by omega) 8).setq (k * 12 + 6) (by omega) 0).setq (k * 12 + 7) (by omega) 0
              rw [HS.out] at q1
              have qB : Below w.heap.size w (((wr.setCell ⟨gb, k * 12 + 11, none⟩ (.int .i64 8)).setCell ⟨gb, k * 12 + 6, none⟩ (.int .i64 0)).setCell ⟨gb, k * 12 + 7, none⟩ (.int .i64 0)) := ((hO'.bel.setCell hg1 _).setCell hg1 _).setCell hg1 _
              go_roundw
              case rel => exact ⟨k + 1, by omega, by go_num, qB, q1⟩
              case measure => simp [intOf]; omega
            · have e5 : (G k == (g : Int)) = false := by simp [e]
              have HNO : Shut (mapR (slF G g) X (k + 1) = mapR (slF G g) X k) := mapR_same (fun j hj => by unfold slF; rw [decide_eq_false e]; rfl)
              go_wp2_with fail
              go_roundw
              case rel => exact ⟨k + 1, by omega, by go_num, by show OutL _ _ _ _ _ _ _ (mapR (slF G g) X (k + 1)); rw [HNO.out]; exact hO⟩
              case measure => simp [intOf]; omega
         · obtain rfl : k = i := by omega
           go_wp2_with fail
           go_roundw
           case rel => exact ⟨g + 1, by omega, by go_num, by rw [HYE.out]; exact hO⟩
           case measure => simp [intOf]; omega
  · obtain rfl : g = na := by omega
    go_wp2_with fail
    go_ret
    exact ⟨_, _, rfl, hO⟩
theorem OwnL.setO {w : World} {base t k n b o : Nat} {v : Value} {U : Nat → Int} (h : OwnL w base t k v n U) (hb : b < base) (x : Value) : OwnL (w.setCell ⟨b, o, none⟩ x) base t k v n U :=
 h.frame (X := fun y => y = b) (Fr.setCell (X := fun y => y = b) rfl _) (fun y hy e => by have := (h.lt y hy).1; omega)
structure OutW (w w' : World) (a : Option Addr) (n c : Nat) (U : Nat → Int) (a' : Option Addr) (m c' : Nat) (Q : Nat → Int) : Prop where
 bel : Below w.heap.size w w'
 ob : OwnL w' w.heap.size 41 12 (.slice a n c) n U
 op : OwnL w' w.heap.size 58 2 (.slice a' m c') m Q
 ne : ∀ b, (Value.slice a n c).ownBlock = some b → (Value.slice a' m c').ownBlock ≠ some b
theorem OutW.on {w w' w2 : World} {a a' : Option Addr} {n c m c' : Nat} {U Q : Nat → Int} (h : OutW w w' a n c U a' m c' Q) (hb : Below w'.heap.size w' w2) : OutW w w2 a n c U a' m c' Q := ⟨h.bel.trans (hb.mono h.bel.size), h.ob.below hb, h.op.below hb, h.ne⟩
theorem copied_any (T P : Int) (a : Option Addr) (n c : Nat) (U : Nat → Int) (a' : Option Addr) (m c' : Nat) (Q : Nat → Int) (w : World) (h : Flat w a (n * 12) U) (h' : Flat w a' (m * 2) Q) (hn : n ≤ 1048576) (hm : m ≤ 1048576) :
 Calls Tryz.prog 32 #[worldW T P a n c a' m c'] w fun e w' => ∃ a1 c1 a2 c2, e = .returned (worldW T P a1 n c1 a2 m c2) ∧ OutW w w' a1 n c1 U a2 m c2 Q := by
 have hset := cset_map
 go_enter Tryz.func32, Tryz.ntmps32
 go_upto_region 1 with fail
 refine wp_region_held_drew (S := fun w' => w'.cell? ⟨w.heap.size, 0, none⟩ = some (.int .i64 T) ∧ w'.cell? ⟨w.heap.size, 1, none⟩ = some (.int .i64 P) ∧ w'.cell? ⟨w.heap.size, 2, none⟩ = some (.slice a n c) ∧ w'.cell? ⟨w.heap.size, 3, none⟩ = some (.slice a' m c')) (by kernel_rfl) ?_ (fun hHeld => ?_)
 · (try dsimp only)
   (first | (go_simp; done) | (go_keep; done))
 refine tq 0 hHeld ?_
 refine tq 1 hHeld ?_
 refine tq 2 hHeld ?_
 refine tq 3 hHeld ?_
 refine tq 4 hHeld ?_
 refine tq 5 hHeld ?_
 refine tq 8 hHeld ?_
 refine tq 9 hHeld ?_
 refine wpAnyH_ready (rs := [6, 10]) (by kernel_rfl) (by simp) ?_
 refine AllReadyH.cons rfl (fun K hK => ?_) (AllReadyH.cons rfl (fun K hK => ?_) AllReadyH.nil)
 focus
  (go_simp; refine tr hK (fun hHeld => ?_); clear hK K)
  refine wpAnyH_ready (rs := [7, 10]) (by kernel_rfl) (by simp) ?_
  refine AllReadyH.cons rfl (fun K hK => ?_) (AllReadyH.cons rfl (fun K hK => ?_) AllReadyH.nil)
  focus
   (go_simp; (go_at_call 43; refine (concat1Body _ _ a n c U _ (by first | omega | (simp; done) | (simp; omega)) (by go_simp) (h.below (bel_a)) (by omega)).mono ?_; rintro e w1 ⟨a1, c1, rfl, ho1, hb1⟩; obtain ⟨hc1, hf1⟩ := bcell hb1; have hz1 := hb1.size; (try simp only [zz] at hc1 hf1 hz1); have hk1x0 := fun o => hc1 (w.heap.size) o (by omega); have hk1x1 := fun o => hc1 (w.heap.size + 1) o (by omega); have hj1x1 := fun o => hf1 (w.heap.size + 1) o (by omega); have hq1x1 : w.heap.size + 1 < w1.heap.size := (by omega)); (try go_wp2_with fail); refine tr hK (fun hHeld => ?_); clear hK K)
   refine tc 10 fun K hK => ?_
   (go_simp; refine tr hK (fun hHeld => ?_); clear hK K)
  rotate_left
  focus
   (go_simp; refine tr hK (fun hHeld => ?_); clear hK K)
   refine tc 7 fun K hK => ?_
   (go_simp; (go_at_call 43; refine (concat1Body _ _ a n c U _ (by first | omega | (simp; done) | (simp; omega)) (by go_simp) (h.below (bel_a)) (by omega)).mono ?_; rintro e w1 ⟨a1, c1, rfl, ho1, hb1⟩; obtain ⟨hc1, hf1⟩ := bcell hb1; have hz1 := hb1.size; (try simp only [zz] at hc1 hf1 hz1); have hk1x0 := fun o => hc1 (w.heap.size) o (by omega); have hk1x1 := fun o => hc1 (w.heap.size + 1) o (by omega); have hj1x1 := fun o => hf1 (w.heap.size + 1) o (by omega); have hq1x1 : w.heap.size + 1 < w1.heap.size := (by omega)); (try go_wp2_with fail); refine tr hK (fun hHeld => ?_); clear hK K)
 rotate_left 2
 focus
  (go_simp; refine tr hK (fun hHeld => ?_); clear hK K)
  refine tc 6 fun K hK => ?_
  (go_simp; refine tr hK (fun hHeld => ?_); clear hK K)
  refine tc 7 fun K hK => ?_
  (go_simp; (go_at_call 43; refine (concat1Body _ _ a n c U _ (by first | omega | (simp; done) | (simp; omega)) (by go_simp) (h.below (bel_a)) (by omega)).mono ?_; rintro e w1 ⟨a1, c1, rfl, ho1, hb1⟩; obtain ⟨hc1, hf1⟩ := bcell hb1; have hz1 := hb1.size; (try simp only [zz] at hc1 hf1 hz1); have hk1x0 := fun o => hc1 (w.heap.size) o (by omega); have hk1x1 := fun o => hc1 (w.heap.size + 1) o (by omega); have hj1x1 := fun o => hf1 (w.heap.size + 1) o (by omega); have hq1x1 : w.heap.size + 1 < w1.heap.size := (by omega)); (try go_wp2_with fail); refine tr hK (fun hHeld => ?_); clear hK K)
 all_goals
  refine tc 11 fun K hK => ?_
  (go_simp; (go_at_call 64; refine (concat1Pair _ _ a' m c' Q _ (by first | omega | (simp; done) | (simp; omega)) (by go_simp) (h'.below (bel_a)) (by omega)).mono ?_; rintro e w2 ⟨a2, c2, rfl, ho2, hb2⟩; obtain ⟨hc2, hf2⟩ := bcell hb2; have hz2 := hb2.size; (try simp only [zz] at hc2 hf2 hz2); have hk2x0 := fun o => hc2 (w.heap.size) o (by omega); have hk2x1 := fun o => hc2 (w.heap.size + 1) o (by omega); have hj2x1 := fun o => hf2 (w.heap.size + 1) o (by omega); have hq2x1 : w.heap.size + 1 < w2.heap.size := (by omega)); (try go_wp2_with fail); refine tr hK (fun hHeld => ?_); clear hK K)
  refine tq 12 hHeld ?_
  refine tc 13 fun K hK => ?_
  (go_simp; refine tr hK (fun hHeld => ?_); clear hK K)
  refine wpAnyH_done (by kernel_rfl) ?_ _
  go_wp2_with fail
  have k1 := ho1.lt
  have k2 := ho2.lt
  exact bodyPost_ret (v := worldW T P a1 n c1 a2 m c2) (by simp [results, Tryz.results32, go_sem, *]) rfl ⟨_, _, _, _, rfl, bel_a, (((((ho1.below (w' := w2) (bel_a)).setO (by first | omega | (simp; done) | (simp; omega)) _).setO (by first | omega | (simp; done) | (simp; omega)) _).setO (by first | omega | (simp; done) | (simp; omega)) _).setO (by first | omega | (simp; done) | (simp; omega)) _).base (by first | omega | (simp; done) | (simp; omega)), ((((ho2.setO (by first | omega | (simp; done) | (simp; omega)) _).setO (by first | omega | (simp; done) | (simp; omega)) _).setO (by first | omega | (simp; done) | (simp; omega)) _).setO (by first | omega | (simp; done) | (simp; omega)) _).base (by first | omega | (simp; done) | (simp; omega)), fun b e1 e2 => by have q1 := (k1 b e1).2; have q2 := (k2 b e2).1; (try simp at q2); omega⟩
theorem OwnL.neT {w : World} {b1 b2 t1 t2 k1 k2 n1 n2 : Nat} {v1 v2 : Value} {U1 U2 : Nat → Int} (h1 : OwnL w b1 t1 k1 v1 n1 U1) (h2 : OwnL w b2 t2 k2 v2 n2 U2) (ht : t1 ≠ t2) : ∀ b, v1.ownBlock = Option.some b → v2.ownBlock ≠ Option.some b := by
 intro b e1 e2
 rcases h1.2 with ⟨hv, _⟩ | ⟨g, cap, cur, hv, hb, hg, _⟩
 · subst hv; simp [Value.ownBlock] at e1
 · rcases h2.2 with ⟨hv', _⟩ | ⟨g', cap', cur', hv', hb', hg', _⟩
   · subst hv'; simp [Value.ownBlock] at e2
   · subst hv hv'
     simp [Value.ownBlock] at e1 e2
     subst e1 e2
     rw [hg] at hg'
     simp only [Option.some.injEq, Obj.cells.injEq] at hg'
     exact ht hg'.2.1
end Go.Proofs.YthijeiehcdoidaaGreat
