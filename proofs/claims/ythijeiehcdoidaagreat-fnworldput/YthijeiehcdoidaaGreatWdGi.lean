/- Texts of a proof. -/
import Derived.Test.YthijeiehcdoidaaGreatB3
import Derived.Test.YthijeiehcdoidaaGreatB38
import Derived.Test.YthijeiehcdoidaaGreatB39
import Derived.Test.YthijeiehcdoidaaGreatB44
import Derived.Test.YthijeiehcdoidaaGreatB10
import Derived.Test.YthijeiehcdoidaaGreatB14
import Derived.Test.YthijeiehcdoidaaGreatB6
import Derived.Test.YthijeiehcdoidaaGreatB7
import Derived.Deep.RegionHeld3
import Derived.Deep.DeepCutAuto
set_option maxHeartbeats 16000000
set_option maxRecDepth 20000
namespace Go.Proofs.YthijeiehcdoidaaGreat
open Go.RowKit
set_option linter.unusedVariables false
set_option linter.unusedSimpArgs false
theorem WOut.of {w w' : World} {e : Ending} {A : WA} (a1 : Option Addr) (c1 : Nat) (a2 : Option Addr) (c2 : Nat) (h : e = .returned (.tuple #[worldW A.T A.P a1 A.n c1 a2 A.m c2, .int .i64 A.k])) (k : OutW w w' a1 A.n c1 A.U a2 A.m c2 A.Q) : WOut w w' e A := ⟨a1, c1, a2, c2, h, k⟩
theorem worldB_bods {T P : Int} {n : Nat} {U : Nat → Int} {m : Nat} {Q : Nat → Int} (h : worldB T P n U m Q = true) : bodsB n U = true := by
 unfold worldB at h
 simp only [Bool.and_eq_true] at h
 exact h.2.2.1
theorem bodsB_bd {U : Nat → Int} {n k : Nat} (h : bodsB n U = true) (l : k < n) : bodyB (fun j => U (k * 12 + j)) = true := by
 unfold bodsB at h
 rw [Bool.and_eq_true] at h
 have := allBB_get h.2 l
 unfold stepBB at this
 rw [Bool.and_eq_true] at this
 exact this.1
theorem bodyB_congr {V W : Nat → Int} (h : ∀ j, j < 12 → V j = W j) : bodyB V = bodyB W := by
 unfold bodyB restB
 simp only [h 0 (by omega), h 1 (by omega), h 2 (by omega), h 3 (by omega), h 4 (by omega), h 5 (by omega), h 6 (by omega), h 7 (by omega), h 8 (by omega), h 9 (by omega), h 10 (by omega), h 11 (by omega)]
theorem cellsP (w : World) (p q : Int) (t : TypeId) : ∀ j, j < 2 → (w.alloc (Obj.cells #[.int .i64 p, .int .i64 q] t)).cell? ⟨w.heap.size, j, none⟩ = some (.int .i64 (ofL [p, q] j)) := by
 intro j hj
 rcases (show j = 0 ∨ j = 1 by omega) with rfl | rfl <;> simp only [ofL] <;> go_simp <;> (try rfl)
structure Bd (w : World) (b : Nat) (V : Nat → Int) : Prop where
 c : ∀ j, j < 12 → w.cell? ⟨b, j, none⟩ = some (.int .i64 (V j))
 lt : b < w.heap.size
theorem Bd.on {w w' : World} {b : Nat} {V : Nat → Int} (h : Bd w b V) (hb : Below w.heap.size w w') : Bd w' b V := ⟨fun j hj => (hb.cell (p := ⟨b, j, none⟩) h.lt).trans (h.c j hj), Nat.lt_of_lt_of_le h.lt hb.size⟩
theorem Bd.fr {X : Nat → Prop} {w w' : World} {b : Nat} {V : Nat → Int} (h : Bd w b V) (hs : Fr X w w') (hn : ¬ X b) : Bd w' b V := ⟨fun j hj => (hs.cell (p := ⟨b, j, none⟩) h.lt hn).trans (h.c j hj), Nat.lt_of_lt_of_le h.lt hs.size⟩
theorem Bd.new (w : World) (V : Nat → Int) : Bd (w.alloc (Obj.cells #[.int .i64 (V 0), .int .i64 (V 1), .int .i64 (V 2), .int .i64 (V 3), .int .i64 (V 4), .int .i64 (V 5), .int .i64 (V 6), .int .i64 (V 7), .int .i64 (V 8), .int .i64 (V 9), .int .i64 (V 10), .int .i64 (V 11)] 41)) w.heap.size V := by
 refine ⟨fun j hj => ?_, by simp⟩
 rcases (show j = 0 ∨ j = 1 ∨ j = 2 ∨ j = 3 ∨ j = 4 ∨ j = 5 ∨ j = 6 ∨ j = 7 ∨ j = 8 ∨ j = 9 ∨ j = 10 ∨ j = 11 by omega) with rfl | rfl | rfl | rfl | rfl | rfl | rfl | rfl | rfl | rfl | rfl | rfl <;> go_simp
theorem pof_q (p q id : Int) (w : World) (b : Bool) (eb : (decide (p = id) || decide (q = id)) = b) :
 Calls Tryz.prog 46 #[.agg #[.int .i64 p, .int .i64 q], .int .i64 id] w fun e w' => e = .returned (.bool b) ∧ Below w.heap.size w w' := by
 have hset := cset_map
 subst eb
 by_cases h1 : p = id
 · have k1 : (p == id) = true := by simp [h1]
   have K1 : Shut (p = id) := h1
   clear h1
   go_enter Tryz.func46, Tryz.ntmps46
   go_wp2_with fail
   go_ret
   exact ⟨by simp [K1.out], bel_a⟩
 · have k1 : (p == id) = false := by simp [h1]
   go_enter Tryz.func46, Tryz.ntmps46
   go_wp2_with fail
   go_ret
   exact ⟨by have e : (q == id) = decide (q = id) := (by by_cases k : q = id <;> simp [k]); simp [h1, e], bel_a⟩
theorem bodySleeps_k (V : Nat → Int) (w : World) (b : Bool) (eb : bodyB V = true) (es : decide (V 11 = 8) = b) :
 Calls Tryz.prog 45 #[bodyW V] w fun e w' => e = .returned (.bool b) ∧ Below w.heap.size w w' := by
 have hset := cset_map
 subst es
 go_enter Tryz.func45, Tryz.ntmps45
 go_wp2_with (first
  | (go_at_call 80; refine (kSleeps (hC1.below ((Below.refl _ _).alloc (Nat.le_refl _) _) |>.hat (k := 0) (by omega) (by omega))).mono ?_; rintro e w2 ⟨rfl, hb2⟩)
  | (go_at_call 68; refine (handleOf_k V _ true eb).mono ?_; rintro e w1 ⟨cb, S, rfl, hcb, hC1, hb1⟩; (try simp only [zz] at hcb); obtain ⟨hc1, hf1⟩ := bcell hb1; have hz1 := hb1.size; (try simp only [zz] at hc1 hf1 hz1); have hk1x0 := fun o => hc1 (w.heap.size) o (by omega); have hj1x0 := fun o => hf1 (w.heap.size) o (by omega); have hq1x0 : w.heap.size < w1.heap.size := (by omega); clear hc1 hf1))
 go_ret
 exact ⟨rfl, bel_a⟩
structure FmGone (w : World) (T P : Int) (a : Option Addr) (n c : Nat) (a' : Option Addr) (m c' : Nat)  (wr : World) : Prop where
 wd : WdR w T P a n c a' m c' wr
 big : w.heap.size + 1 < wr.heap.size
 z0 : wr.cell? ⟨w.heap.size + 1, 0, none⟩ = some (.int .i64 0)
 z1 : wr.cell? ⟨w.heap.size + 1, 1, none⟩ = some (.int .i64 0)
 z2 : wr.cell? ⟨w.heap.size + 1, 2, none⟩ = some (.slice none 0 0)
 z3 : wr.cell? ⟨w.heap.size + 1, 3, none⟩ = some (.slice none 0 0)
 nf : ∀ o, wr.frozen? ⟨w.heap.size + 1, o, none⟩ = false
theorem FmGone.on {w wr w' : World} {T P : Int} {a a' : Option Addr} {n c m c' : Nat}  (h : FmGone w T P a n c a' m c' wr) (hb : Below wr.heap.size wr w') : FmGone w T P a n c a' m c' w' :=
 have bg := h.big
 ⟨h.wd.on hb, Nat.lt_of_lt_of_le h.big hb.size, (hb.cell (p := ⟨w.heap.size + 1, 0, none⟩) bg).trans h.z0, (hb.cell (p := ⟨w.heap.size + 1, 1, none⟩) bg).trans h.z1, (hb.cell (p := ⟨w.heap.size + 1, 2, none⟩) bg).trans h.z2, (hb.cell (p := ⟨w.heap.size + 1, 3, none⟩) bg).trans h.z3, fun o => (hb.frozen (p := ⟨w.heap.size + 1, o, none⟩) bg).trans (h.nf o)⟩
theorem FmGone.fr {X : Nat → Prop} {w wr w' : World} {T P : Int} {a a' : Option Addr} {n c m c' : Nat}  (h : FmGone w T P a n c a' m c' wr) (hs : Fr X wr w') (hX : ∀ b, X b → w.heap.size + 1 < b) : FmGone w T P a n c a' m c' w' := by
 have bg := h.big
 have n0 : ¬ X w.heap.size := fun x => by have := hX _ x; omega
 have n1 : ¬ X (w.heap.size + 1) := fun x => by have := hX _ x; omega
 have n2 : ¬ X (w.heap.size + 1) := fun x => by have := hX _ x; omega
 have k0 := fun j => hs.cell (p := ⟨w.heap.size, j, none⟩) (by simp; omega) n0
 have k1 := fun j => hs.cell (p := ⟨w.heap.size + 1, j, none⟩) (by simp; omega) n1
 have k2 := fun j => hs.cell (p := ⟨w.heap.size + 1, j, none⟩) bg n2
 exact ⟨⟨h.wd.bel.trans (hs.below (by omega) (fun b x => by have := hX b x; omega)), Nat.lt_of_lt_of_le h.wd.big hs.size, (k0 0).trans h.wd.c0, (k0 1).trans h.wd.c1, (k0 2).trans h.wd.c2, (k0 3).trans h.wd.c3⟩, Nat.lt_of_lt_of_le bg hs.size, (k2 0).trans h.z0, (k2 1).trans h.z1, (k2 2).trans h.z2, (k2 3).trans h.z3, fun o => (hs.frozen (p := ⟨w.heap.size + 1, o, none⟩) bg n2).trans (h.nf o)⟩
theorem FmGone.start (w : World) (T P : Int) (a a' : Option Addr) (n c m c' : Nat)  : FmGone w T P a n c a' m c' ((w.alloc (Obj.cells #[.int .i64 T, .int .i64 P, .slice a n c, .slice a' m c'] 26)).alloc (Obj.cells #[.int .i64 0, .int .i64 0, .slice none 0 0, .slice none 0 0] 26)) :=
 ⟨⟨((((Below.refl _ _).alloc (Nat.le_refl _) _)).alloc (by simp; try omega) _), by simp; try omega, by go_simp, by go_simp, by go_simp, by go_simp⟩, by simp, by go_simp, by go_simp, by go_simp, by go_simp, fun o => by go_simp⟩
theorem worldGone_q (T P : Int) (a : Option Addr) (n c : Nat) (U : Nat → Int) (a' : Option Addr) (m c' : Nat) (Q : Nat → Int) (id : Int) (p : Nat) (w : World) (h : Flat w a (n * 12) U) (h' : Flat w a' (m * 2) Q) (hn : n ≤ 1048576) (hm : m ≤ 1048576) (hnc : n ≤ c) (hp : idP U n id p) (A : WA) (eA : goneWA T P n U m Q id p = A) :
 Calls Tryz.prog 15 #[worldW T P a n c a' m c', .int .i64 id] w fun e w' => WOut w w' e A := by
 have hset := cset_map
 have hS := FmGone.start w T P a a' n c m c'
 cases hok : worldB T P n U m Q with
 | false =>
  simp only [goneWA, hok, cond_false] at eA
  subst eA
  go_enter Tryz.func15, Tryz.ntmps15
  go_wp2_with (go_at_call 14; refine (worldOk_q T P a n c U a' m c' Q _ (h.below hS.wd.bel) (h'.below hS.wd.bel) hn hm false hok).mono ?_; rintro e w1 ⟨rfl, hb1⟩; have hS1 := hS.on hb1; have y0 := hS1.wd.c0; have y1 := hS1.wd.c1; have y2 := hS1.wd.c2; have y3 := hS1.wd.c3; have z0 := hS1.z0; have z1 := hS1.z1; have z2 := hS1.z2; have z3 := hS1.z3; have nf := hS1.nf; have bg := hS1.big)
  exact bodyPost_ret (v := .tuple #[worldW 0 0 none 0 0 none 0 0, .int .i64 1]) (by simp [results, Tryz.results15, go_sem, *]) rfl (WOut.of none 0 none 0 rfl (OutW.nil ((((hS1.wd.bel.setCell (by first | omega | (simp; done) | (simp; omega)) _).setCell (by first | omega | (simp; done) | (simp; omega)) _).setCell (by first | omega | (simp; done) | (simp; omega)) _).setCell (by first | omega | (simp; done) | (simp; omega)) _)))
 | true =>
  unfold goneWA at eA
  have hbb := worldB_bods hok
  have ha := bodsB_asc hbb
  obtain ⟨TH, hTH⟩ : ∃ b, decide (p < n ∧ U (p * 12) = id) = b := ⟨_, rfl⟩
  go_enter Tryz.func15, Tryz.ntmps15
  go_upto_region 3 with (go_at_call 14; refine (worldOk_q T P a n c U a' m c' Q _ (h.below hS.wd.bel) (h'.below hS.wd.bel) hn hm true hok).mono ?_; rintro e w1 ⟨rfl, hb1⟩; have hS1 := hS.on hb1; have y0 := hS1.wd.c0; have y1 := hS1.wd.c1; have y2 := hS1.wd.c2; have y3 := hS1.wd.c3; have z0 := hS1.z0; have z1 := hS1.z1; have z2 := hS1.z2; have z3 := hS1.z3; have nf := hS1.nf; have bg := hS1.big)
  go_upto_region 3 with fail
  go_cut [6, 7] (fun s0 s1 wc => s0 = .int .i64 (p : Int) ∧ s1 = .bool TH ∧ FmGone w T P a n c a' m c' wc)
  case first =>
   go_wp2_with (go_at_call 33; refine (wplace_any T P a n c U a' m c' id p _ (h.below hS1.wd.bel) hn ha hp TH hTH).mono ?_; rintro e w4 ⟨rfl, hb4⟩)
   go_meet
   exact ⟨rfl, rfl, hS1.on hb4⟩
  case rest =>
  clear hS hb1 hS1 y0 y1 y2 y3 z0 z1 z2 z3 nf bg
  obtain ⟨rfl, rfl, hS⟩ := hcut
  have y0 := hS.wd.c0
  have y1 := hS.wd.c1
  have y2 := hS.wd.c2
  have y3 := hS.wd.c3
  have z0 := hS.z0
  have z1 := hS.z1
  have z2 := hS.z2
  have z3 := hS.z3
  have nf := hS.nf
  have bg := hS.big
  cases TH with
  | false =>
   simp only [hok, hTH, cond_true, cond_false] at eA
   subst eA
   go_wp2_with (go_at_call 32; refine (copied_any T P a n c U a' m c' Q _ (h.below hS.wd.bel) (h'.below hS.wd.bel) hn hm).mono ?_; rintro e w3 ⟨a1, c1, a2, c2, rfl, hO⟩; have hS3 := hS.on hO.bel; have q0 := hS3.z0; have q1 := hS3.z1; have q2 := hS3.z2; have q3 := hS3.z3; have qf := hS3.nf; have qb := hS3.big)
   exact bodyPost_ret (v := .tuple #[worldW T P a1 n c1 a2 m c2, .int .i64 4]) (by simp [results, Tryz.results15, go_sem, *]) rfl (WOut.of a1 c1 a2 c2 rfl (hO.res hS.wd.bel (by first | omega | (simp; done) | (simp; omega)) hS.big _ _ _ _))
  | true =>
   simp only [hok, hTH, cond_true] at eA
   subst eA
   have hpn := (of_decide_eq_true hTH).1
   clear hTH
   have hpi : (p : Int) < (n : Int) := by omega
   obtain ⟨b, o, rfl, hbl, hc⟩ := (h.below hS.wd.bel) (by omega)
   have d0 := hc (p * 12) (by omega)
   have d1 := hc (p * 12 + 1) (by omega)
   have d2 := hc (p * 12 + 2) (by omega)
   have d3 := hc (p * 12 + 3) (by omega)
   have d4 := hc (p * 12 + 4) (by omega)
   have d5 := hc (p * 12 + 5) (by omega)
   have d6 := hc (p * 12 + 6) (by omega)
   have d7 := hc (p * 12 + 7) (by omega)
   have d8 := hc (p * 12 + 8) (by omega)
   have d9 := hc (p * 12 + 9) (by omega)
   have d10 := hc (p * 12 + 10) (by omega)
   have d11 := hc (p * 12 + 11) (by omega)
   simp only [← Nat.add_assoc, Nat.add_zero] at d0 d1 d2 d3 d4 d5 d6 d7 d8 d9 d10 d11
   clear hc
   go_upto_region 6 with fail
   go_cut [8] (fun s0 wc => ∃ gb, s0 = .pointer (some ⟨gb, 0, none⟩) ∧ w.heap.size + 1 < gb ∧ FmGone w T P (some ⟨b, o, none⟩) n c a' m c' wc ∧ Bd wc gb (fun j => U (p * 12 + j)))
   case first =>
    go_wp2_with fail
    go_meet
    exact ⟨_, rfl, hS.big, hS.on ((Below.refl _ _).alloc (Nat.le_refl _) _), Bd.new wc (fun j => U (p * 12 + j))⟩
   case rest =>
   clear hS y0 y1 y2 y3 z0 z1 z2 z3 nf bg
   clear d0 d1 d2 d3 d4 d5 d6 d7 d8 d9 d10 d11
   obtain ⟨gb, rfl, hgb, hS, hG⟩ := hcut
   have y0 := hS.wd.c0
   have y1 := hS.wd.c1
   have y2 := hS.wd.c2
   have y3 := hS.wd.c3
   have z0 := hS.z0
   have z1 := hS.z1
   have z2 := hS.z2
   have z3 := hS.z3
   have nf := hS.nf
   have bg := hS.big
   have hpc : (p : Int) ≤ (c : Int) := by omega
   have hpn1 : (p : Int) + 1 ≤ (n : Int) := by omega
   have hpw : IntKind.i64.wrap ((p : Int) + 1) = (p : Int) + 1 := i64w (by omega)
   have hpt : ((p : Int) + 1).toNat = p + 1 := by omega
   have hpk : (0 : Int) ≤ (p : Int) + 1 := by omega
   obtain ⟨at2, hat2⟩ : ∃ x, (if c = p + 1 then some (⟨b, o, none⟩ : Addr) else some ⟨b, o + (p + 1) * 12, none⟩) = x := ⟨_, rfl⟩
   go_upto_region 7 with fail
   go_cut [9] (fun s0 wc => ∃ lo nb a1 c1, s0 = .pointer (some ⟨nb, 0, none⟩) ∧ w.heap.size + 1 < lo ∧ FmGone w T P (some ⟨b, o, none⟩) n c a' m c' wc ∧ Bd wc gb (fun j => U (p * 12 + j)) ∧ gb < lo ∧ Vw wc lo wc.heap.size nb T P a1 (n - 1) c1 (delU U p) none 0 0 (fun _ => 0))
   case first =>
    refine wp_region_held_drew (S := fun w' => w'.cell? ⟨w.heap.size, 0, none⟩ = some (.int .i64 T) ∧ w'.cell? ⟨w.heap.size, 1, none⟩ = some (.int .i64 P) ∧ w'.cell? ⟨w.heap.size, 2, none⟩ = some (.slice (some ⟨b, o, none⟩) n c) ∧ w'.cell? ⟨w.heap.size, 3, none⟩ = some (.slice a' m c')) (by kernel_rfl) ?_ (fun hHeld => ?_)
    · (try dsimp only)
      (first | (go_simp; done) | (go_keep; done))
    refine tq 0 hHeld ?_
    refine tq 1 hHeld ?_
    refine tq 2 hHeld ?_
    refine tq 3 hHeld ?_
    refine tq 4 hHeld ?_
    refine tq 5 hHeld ?_
    refine tq 6 hHeld ?_
    refine tq 7 hHeld ?_
    refine tq 8 hHeld ?_
    refine tq 9 hHeld ?_
    refine tq 10 hHeld ?_
    refine tq 11 hHeld ?_
    refine tq 12 hHeld ?_
    refine wpAnyH_ready (rs := [13, 16]) (by kernel_rfl) (by simp) ?_
    refine AllReadyH.cons rfl (fun K hK => ?_) (AllReadyH.cons rfl (fun K hK => ?_) AllReadyH.nil)
    · have hT1 : Below wc.heap.size wc (wc.alloc (Obj.cells #[.slice (some ⟨b, o, none⟩) p c, .slice at2 (n - (p + 1)) (c - (p + 1))] 23)).drew := ((Below.refl _ _).alloc (Nat.le_refl _) _).drew
      have hS1 := hS.on hT1
      have y10 := hS1.wd.c0
      have y11 := hS1.wd.c1
      have y12 := hS1.wd.c2
      have y13 := hS1.wd.c3
      have k1a : (wc.alloc (Obj.cells #[.slice (some ⟨b, o, none⟩) p c, .slice at2 (n - (p + 1)) (c - (p + 1))] 23)).drew.cell? ⟨wc.heap.size, 0, none⟩ = some (.slice (some ⟨b, o, none⟩) p c) := by go_simp
      have k1b : (wc.alloc (Obj.cells #[.slice (some ⟨b, o, none⟩) p c, .slice at2 (n - (p + 1)) (c - (p + 1))] 23)).drew.cell? ⟨wc.heap.size, 1, none⟩ = some (.slice at2 (n - (p + 1)) (c - (p + 1))) := by go_simp
      have l1 : wc.heap.size < (wc.alloc (Obj.cells #[.slice (some ⟨b, o, none⟩) p c, .slice at2 (n - (p + 1)) (c - (p + 1))] 23)).drew.heap.size := by simp
      (go_simp; generalize (wc.alloc (Obj.cells #[.slice (some ⟨b, o, none⟩) p c, .slice at2 (n - (p + 1)) (c - (p + 1))] 23)).drew = y1 at hT1 hS1 y10 y11 y12 y13 k1a k1b l1 ⊢; refine tr hK (fun hHeld => ?_); clear hK K)
      refine wpAnyH_ready (rs := [14, 16]) (by kernel_rfl) (by simp) ?_
      refine AllReadyH.cons rfl (fun K hK => ?_) (AllReadyH.cons rfl (fun K hK => ?_) AllReadyH.nil)
      · (go_simp; (go_at_call 43; refine (concat2Body _ _ _ _ p (n - (p + 1)) _ _ U (fun q => U (q + (p + 1) * 12)) _ l1 k1a k1b (flatHead (h.below hS1.wd.bel) hpn) (flatTail hat2 hnc (h.below hS1.wd.bel)) (by omega)).mono ?_; rintro e v2 ⟨a3, c3, rfl, ho2, hb2⟩; have hT2 := hT1.trans (hb2.mono hT1.size); have hS2 := hS.on hT2; have y20 := hS2.wd.c0; have y21 := hS2.wd.c1; have y22 := hS2.wd.c2; have y23 := hS2.wd.c3); (try go_wp2_with fail); refine tr hK (fun hHeld => ?_); clear hK K)
        refine tq 15 hHeld ?_
        refine tc 16 fun K hK => ?_
        have hT3 : Below wc.heap.size wc (v2.alloc (Obj.cells #[.int .i64 0, .int .i64 0, .slice none 0 0, .slice none 0 0] 26)) := hT2.alloc hT2.size _
        have hS3 := hS.on hT3
        have y30 := hS3.wd.c0
        have y31 := hS3.wd.c1
        have y32 := hS3.wd.c2
        have y33 := hS3.wd.c3
        have hA3 : Bx0 (v2.alloc (Obj.cells #[.int .i64 0, .int .i64 0, .slice none 0 0, .slice none 0 0] 26)) wc.heap.size v2.heap.size := Bx0.new _ _ hT2.size
        have hN3 : ∀ b', (Value.slice a3 (p + (n - (p + 1))) c3).ownBlock = some b' → b' ≠ v2.heap.size := fun b' e => by have := (ho2.lt b' e).2; omega
        have hO3 := ho2.below (show Below (v2).heap.size (v2) (v2.alloc (Obj.cells #[.int .i64 0, .int .i64 0, .slice none 0 0, .slice none 0 0] 26)) from ((Below.refl _ _).alloc (Nat.le_refl _) _))
        (go_simp; generalize (v2.alloc (Obj.cells #[.int .i64 0, .int .i64 0, .slice none 0 0, .slice none 0 0] 26)) = y3 at hT3 hS3 y30 y31 y32 y33 hA3 hO3 ⊢; refine tr hK (fun hHeld => ?_); clear hK K)
        have g0 := hA3.bl
        have g1 := hA3.lt
        have zz0 := hA3.c0
        have zz1 := hA3.c1
        have zz2 := hA3.c2
        have zz3 := hA3.c3
        have zzf := hA3.nf
        have j0 : ¬ v2.heap.size = w.heap.size := by have := hS.wd.big; omega
        have j0' : ¬ w.heap.size = v2.heap.size := fun e => j0 e.symm
        refine tc 17 fun K hK => ?_
        (go_simp; refine tr hK (fun hHeld => ?_); clear hK K)
        refine wpAnyH_done (by kernel_rfl) ?_ _
        go_wp2_with fail
        go_meet
        have hs4 := setFr4 y3 (v2.heap.size) (.int .i64 T) (.int .i64 P) (.slice a3 (p + (n - (p + 1))) c3) (.slice none 0 0)
        have hbg := hS.big
        have hTz := hT3.size
        have hGg := hG.lt
        have hc1 := (hO3.base (B := wc.heap.size) (hT1).size).congr (fun q _ => congrFun (cat_del U p) q)
        have hne : p + (n - (p + 1)) = n - 1 := by omega
        have hR := (Vw.put (T := T) (P := P) hc1 (OwnL.nil _ _ 58 2 (fun _ => 0)) hA3 (fun b' e => by rcases e with e | e; exact hN3 b' e; simp [Value.ownBlock] at e)).top
        rw [hne] at hR hs4 ⊢
        exact ⟨_, _, _, c3, rfl, hbg, (hS.on hT3).fr hs4 (fun b' e => by subst e; omega), (hG.on hT3).fr hs4 (by omega), by omega, hR⟩
      · have hT4 : Below wc.heap.size wc (y1.alloc (Obj.cells #[.int .i64 0, .int .i64 0, .slice none 0 0, .slice none 0 0] 26)) := hT1.alloc hT1.size _
        have hS4 := hS.on hT4
        have y40 := hS4.wd.c0
        have y41 := hS4.wd.c1
        have y42 := hS4.wd.c2
        have y43 := hS4.wd.c3
        have hA4 : Bx0 (y1.alloc (Obj.cells #[.int .i64 0, .int .i64 0, .slice none 0 0, .slice none 0 0] 26)) wc.heap.size y1.heap.size := Bx0.new _ _ hT1.size
        have k4a := ((show Below (y1).heap.size (y1) (y1.alloc (Obj.cells #[.int .i64 0, .int .i64 0, .slice none 0 0, .slice none 0 0] 26)) from ((Below.refl _ _).alloc (Nat.le_refl _) _)).cell (p := ⟨wc.heap.size, 0, none⟩) l1).trans k1a
        have k4b := ((show Below (y1).heap.size (y1) (y1.alloc (Obj.cells #[.int .i64 0, .int .i64 0, .slice none 0 0, .slice none 0 0] 26)) from ((Below.refl _ _).alloc (Nat.le_refl _) _)).cell (p := ⟨wc.heap.size, 1, none⟩) l1).trans k1b
        have l4 := Nat.lt_of_lt_of_le l1 (show Below (y1).heap.size (y1) (y1.alloc (Obj.cells #[.int .i64 0, .int .i64 0, .slice none 0 0, .slice none 0 0] 26)) from ((Below.refl _ _).alloc (Nat.le_refl _) _)).size
        (go_simp; generalize (y1.alloc (Obj.cells #[.int .i64 0, .int .i64 0, .slice none 0 0, .slice none 0 0] 26)) = y4 at hT4 hS4 y40 y41 y42 y43 hA4 k4a k4b l4 ⊢; refine tr hK (fun hHeld => ?_); clear hK K)
        refine tc 14 fun K hK => ?_
        (go_simp; (go_at_call 43; refine (concat2Body _ _ _ _ p (n - (p + 1)) _ _ U (fun q => U (q + (p + 1) * 12)) _ l4 k4a k4b (flatHead (h.below hS4.wd.bel) hpn) (flatTail hat2 hnc (h.below hS4.wd.bel)) (by omega)).mono ?_; rintro e v5 ⟨a3, c3, rfl, ho5, hb5⟩; have hT5 := hT4.trans (hb5.mono hT4.size); have hS5 := hS.on hT5; have y50 := hS5.wd.c0; have y51 := hS5.wd.c1; have y52 := hS5.wd.c2; have y53 := hS5.wd.c3; have hA5 := hA4.on hb5; have hN5 : ∀ b', (Value.slice a3 (p + (n - (p + 1))) c3).ownBlock = some b' → b' ≠ y1.heap.size := fun b' e => by have := hA4.lt; have := (ho5.lt b' e).1; omega); (try go_wp2_with fail); refine tr hK (fun hHeld => ?_); clear hK K)
        refine tq 15 hHeld ?_
        have g0 := hA5.bl
        have g1 := hA5.lt
        have zz0 := hA5.c0
        have zz1 := hA5.c1
        have zz2 := hA5.c2
        have zz3 := hA5.c3
        have zzf := hA5.nf
        have j0 : ¬ y1.heap.size = w.heap.size := by have := hS.wd.big; omega
        have j0' : ¬ w.heap.size = y1.heap.size := fun e => j0 e.symm
        refine tc 17 fun K hK => ?_
        (go_simp; refine tr hK (fun hHeld => ?_); clear hK K)
        refine wpAnyH_done (by kernel_rfl) ?_ _
        go_wp2_with fail
        go_meet
        have hs4 := setFr4 v5 (y1.heap.size) (.int .i64 T) (.int .i64 P) (.slice a3 (p + (n - (p + 1))) c3) (.slice none 0 0)
        have hbg := hS.big
        have hTz := hT5.size
        have hGg := hG.lt
        have hc1 := (ho5.base (B := wc.heap.size) (hT4).size).congr (fun q _ => congrFun (cat_del U p) q)
        have hne : p + (n - (p + 1)) = n - 1 := by omega
        have hR := (Vw.put (T := T) (P := P) hc1 (OwnL.nil _ _ 58 2 (fun _ => 0)) hA5 (fun b' e => by rcases e with e | e; exact hN5 b' e; simp [Value.ownBlock] at e)).top
        rw [hne] at hR hs4 ⊢
        exact ⟨_, _, _, c3, rfl, hbg, (hS.on hT5).fr hs4 (fun b' e => by subst e; omega), (hG.on hT5).fr hs4 (by omega), by omega, hR⟩
    · have hT6 : Below wc.heap.size wc (wc.alloc (Obj.cells #[.int .i64 0, .int .i64 0, .slice none 0 0, .slice none 0 0] 26)).drew := ((Below.refl _ _).alloc (Nat.le_refl _) _).drew
      have hS6 := hS.on hT6
      have y60 := hS6.wd.c0
      have y61 := hS6.wd.c1
      have y62 := hS6.wd.c2
      have y63 := hS6.wd.c3
      have hA6 : Bx0 (wc.alloc (Obj.cells #[.int .i64 0, .int .i64 0, .slice none 0 0, .slice none 0 0] 26)).drew wc.heap.size wc.heap.size := (Bx0.new wc _ (Nat.le_refl _)).drew
      (go_simp; generalize (wc.alloc (Obj.cells #[.int .i64 0, .int .i64 0, .slice none 0 0, .slice none 0 0] 26)).drew = y6 at hT6 hS6 y60 y61 y62 y63 hA6 ⊢; refine tr hK (fun hHeld => ?_); clear hK K)
      refine tc 13 fun K hK => ?_
      have hT7 : Below wc.heap.size wc (y6.alloc (Obj.cells #[.slice (some ⟨b, o, none⟩) p c, .slice at2 (n - (p + 1)) (c - (p + 1))] 23)) := hT6.alloc hT6.size _
      have hS7 := hS.on hT7
      have y70 := hS7.wd.c0
      have y71 := hS7.wd.c1
      have y72 := hS7.wd.c2
      have y73 := hS7.wd.c3
      have k7a : (y6.alloc (Obj.cells #[.slice (some ⟨b, o, none⟩) p c, .slice at2 (n - (p + 1)) (c - (p + 1))] 23)).cell? ⟨y6.heap.size, 0, none⟩ = some (.slice (some ⟨b, o, none⟩) p c) := by go_simp
      have k7b : (y6.alloc (Obj.cells #[.slice (some ⟨b, o, none⟩) p c, .slice at2 (n - (p + 1)) (c - (p + 1))] 23)).cell? ⟨y6.heap.size, 1, none⟩ = some (.slice at2 (n - (p + 1)) (c - (p + 1))) := by go_simp
      have l7 : y6.heap.size < (y6.alloc (Obj.cells #[.slice (some ⟨b, o, none⟩) p c, .slice at2 (n - (p + 1)) (c - (p + 1))] 23)).heap.size := by simp
      have hA7 := hA6.on (show Below (y6).heap.size (y6) (y6.alloc (Obj.cells #[.slice (some ⟨b, o, none⟩) p c, .slice at2 (n - (p + 1)) (c - (p + 1))] 23)) from ((Below.refl _ _).alloc (Nat.le_refl _) _))
      (go_simp; generalize (y6.alloc (Obj.cells #[.slice (some ⟨b, o, none⟩) p c, .slice at2 (n - (p + 1)) (c - (p + 1))] 23)) = y7 at hT7 hS7 y70 y71 y72 y73 k7a k7b l7 hA7 ⊢; refine tr hK (fun hHeld => ?_); clear hK K)
      refine tc 14 fun K hK => ?_
      (go_simp; (go_at_call 43; refine (concat2Body _ _ _ _ p (n - (p + 1)) _ _ U (fun q => U (q + (p + 1) * 12)) _ l7 k7a k7b (flatHead (h.below hS7.wd.bel) hpn) (flatTail hat2 hnc (h.below hS7.wd.bel)) (by omega)).mono ?_; rintro e v8 ⟨a3, c3, rfl, ho8, hb8⟩; have hT8 := hT7.trans (hb8.mono hT7.size); have hS8 := hS.on hT8; have y80 := hS8.wd.c0; have y81 := hS8.wd.c1; have y82 := hS8.wd.c2; have y83 := hS8.wd.c3; have hA8 := hA7.on hb8; have hN8 : ∀ b', (Value.slice a3 (p + (n - (p + 1))) c3).ownBlock = some b' → b' ≠ wc.heap.size := fun b' e => by have := hA7.lt; have := (ho8.lt b' e).1; omega); (try go_wp2_with fail); refine tr hK (fun hHeld => ?_); clear hK K)
      refine tq 15 hHeld ?_
      have g0 := hA8.bl
      have g1 := hA8.lt
      have zz0 := hA8.c0
      have zz1 := hA8.c1
      have zz2 := hA8.c2
      have zz3 := hA8.c3
      have zzf := hA8.nf
      have j0 : ¬ wc.heap.size = w.heap.size := by have := hS.wd.big; omega
      have j0' : ¬ w.heap.size = wc.heap.size := fun e => j0 e.symm
      refine tc 17 fun K hK => ?_
      (go_simp; refine tr hK (fun hHeld => ?_); clear hK K)
      refine wpAnyH_done (by kernel_rfl) ?_ _
      go_wp2_with fail
      go_meet
      have hs4 := setFr4 v8 (wc.heap.size) (.int .i64 T) (.int .i64 P) (.slice a3 (p + (n - (p + 1))) c3) (.slice none 0 0)
      have hbg := hS.big
      have hTz := hT8.size
      have hGg := hG.lt
      have hc1 := (ho8.base (B := wc.heap.size) (hT7).size).congr (fun q _ => congrFun (cat_del U p) q)
      have hne : p + (n - (p + 1)) = n - 1 := by omega
      have hR := (Vw.put (T := T) (P := P) hc1 (OwnL.nil _ _ 58 2 (fun _ => 0)) hA8 (fun b' e => by rcases e with e | e; exact hN8 b' e; simp [Value.ownBlock] at e)).top
      rw [hne] at hR hs4 ⊢
      exact ⟨_, _, _, c3, rfl, hbg, (hS.on hT8).fr hs4 (fun b' e => by subst e; omega), (hG.on hT8).fr hs4 (by omega), by omega, hR⟩
   case rest =>
   clear hS hG y0 y1 y2 y3 z0 z1 z2 z3 nf bg hat2 hpw hpt hpk hpc hpn1
   clear at2
   obtain ⟨lo, nb, a1, c1, rfl, hlo, hS, hG, hgl, hV⟩ := hcut
   have v2 := hV.c2
   go_upto_region 9 with fail
   clear v2
   go_loopw [10, 11, 12, 13, 54] (fun _ _ _ _ s wr => ∃ k : Nat, k ≤ n - 1 ∧ s = .int .i64 (k : Int) ∧ FmGone w T P (some ⟨b, o, none⟩) n c a' m c' wr ∧ Bd wr gb (fun j => U (p * 12 + j)) ∧ Vw wr lo wr.heap.size nb T P a1 (n - 1) c1 (wakeR (fun j => U (p * 12 + j)) (delU U p) n k) none 0 0 (fun _ => 0)) (fun _ _ _ _ s _ => (n - 1) - (intOf s).toNat)
   case atStart => exact ⟨0, Nat.zero_le _, rfl, hS, hG, by rw [wakeR_0]; exact hV⟩
   case round =>
    clear hS hG hV
    obtain ⟨k, hk, rfl, hS, hG, hV⟩ := hrel
    by_cases hlt : k < n - 1
    · have hkn : (k : Int) < ((n - 1 : Nat) : Int) := by omega
      obtain ⟨g, rfl, hg1, hg2⟩ := hV.ob.loc (by omega)
      have d0 : wr.cell? ⟨g, k * 12, none⟩ = some (.int .i64 (delU U p (k * 12))) := by have q := hV.ob.cellq (q := k * 12 + 0) (by omega); rw [wakeR_row] at q; exact q
      have d1 : wr.cell? ⟨g, k * 12 + 1, none⟩ = some (.int .i64 (delU U p (k * 12 + 1))) := by have q := hV.ob.cellq (q := k * 12 + 1) (by omega); rw [wakeR_row] at q; exact q
      have d2 : wr.cell? ⟨g, k * 12 + 2, none⟩ = some (.int .i64 (delU U p (k * 12 + 2))) := by have q := hV.ob.cellq (q := k * 12 + 2) (by omega); rw [wakeR_row] at q; exact q
      have d3 : wr.cell? ⟨g, k * 12 + 3, none⟩ = some (.int .i64 (delU U p (k * 12 + 3))) := by have q := hV.ob.cellq (q := k * 12 + 3) (by omega); rw [wakeR_row] at q; exact q
      have d4 : wr.cell? ⟨g, k * 12 + 4, none⟩ = some (.int .i64 (delU U p (k * 12 + 4))) := by have q := hV.ob.cellq (q := k * 12 + 4) (by omega); rw [wakeR_row] at q; exact q
      have d5 : wr.cell? ⟨g, k * 12 + 5, none⟩ = some (.int .i64 (delU U p (k * 12 + 5))) := by have q := hV.ob.cellq (q := k * 12 + 5) (by omega); rw [wakeR_row] at q; exact q
      have d6 : wr.cell? ⟨g, k * 12 + 6, none⟩ = some (.int .i64 (delU U p (k * 12 + 6))) := by have q := hV.ob.cellq (q := k * 12 + 6) (by omega); rw [wakeR_row] at q; exact q
      have d7 : wr.cell? ⟨g, k * 12 + 7, none⟩ = some (.int .i64 (delU U p (k * 12 + 7))) := by have q := hV.ob.cellq (q := k * 12 + 7) (by omega); rw [wakeR_row] at q; exact q
      have d8 : wr.cell? ⟨g, k * 12 + 8, none⟩ = some (.int .i64 (delU U p (k * 12 + 8))) := by have q := hV.ob.cellq (q := k * 12 + 8) (by omega); rw [wakeR_row] at q; exact q
      have d9 : wr.cell? ⟨g, k * 12 + 9, none⟩ = some (.int .i64 (delU U p (k * 12 + 9))) := by have q := hV.ob.cellq (q := k * 12 + 9) (by omega); rw [wakeR_row] at q; exact q
      have d10 : wr.cell? ⟨g, k * 12 + 10, none⟩ = some (.int .i64 (delU U p (k * 12 + 10))) := by have q := hV.ob.cellq (q := k * 12 + 10) (by omega); rw [wakeR_row] at q; exact q
      have d11 : wr.cell? ⟨g, k * 12 + 11, none⟩ = some (.int .i64 (delU U p (k * 12 + 11))) := by have q := hV.ob.cellq (q := k * 12 + 11) (by omega); rw [wakeR_row] at q; exact q
      have hbk : bodyB (fun j => delU U p (k * 12 + j)) = true := by
       by_cases l : k < p
       · rw [bodyB_congr (W := fun j => U (k * 12 + j)) (fun j hj => del_lo l hj)]; exact bodsB_bd hbb (by omega)
       · rw [bodyB_congr (W := fun j => U ((k + 1) * 12 + j)) (fun j hj => del_hi (by omega))]; exact bodsB_bd hbb (by omega)
      have hE : Below wr.heap.size wr (wr.alloc (Obj.cells #[.int .i64 (delU U p (k * 12)), .int .i64 (delU U p (k * 12 + 1)), .int .i64 (delU U p (k * 12 + 2)), .int .i64 (delU U p (k * 12 + 3)), .int .i64 (delU U p (k * 12 + 4)), .int .i64 (delU U p (k * 12 + 5)), .int .i64 (delU U p (k * 12 + 6)), .int .i64 (delU U p (k * 12 + 7)), .int .i64 (delU U p (k * 12 + 8)), .int .i64 (delU U p (k * 12 + 9)), .int .i64 (delU U p (k * 12 + 10)), .int .i64 (delU U p (k * 12 + 11))] 41)) := (Below.refl _ _).alloc (Nat.le_refl _) _
      have hS2 := hS.on hE
      have hG2 := hG.on hE
      have hV2 := hV.onT hE
      have hX2 : Bd (wr.alloc (Obj.cells #[.int .i64 (delU U p (k * 12)), .int .i64 (delU U p (k * 12 + 1)), .int .i64 (delU U p (k * 12 + 2)), .int .i64 (delU U p (k * 12 + 3)), .int .i64 (delU U p (k * 12 + 4)), .int .i64 (delU U p (k * 12 + 5)), .int .i64 (delU U p (k * 12 + 6)), .int .i64 (delU U p (k * 12 + 7)), .int .i64 (delU U p (k * 12 + 8)), .int .i64 (delU U p (k * 12 + 9)), .int .i64 (delU U p (k * 12 + 10)), .int .i64 (delU U p (k * 12 + 11))] 41)) wr.heap.size (fun j => delU U p (k * 12 + j)) := Bd.new wr (fun j => delU U p (k * 12 + j))
      have hgw := hG.lt
      go_upto_region 11 with fail
      generalize (wr.alloc (Obj.cells #[.int .i64 (delU U p (k * 12)), .int .i64 (delU U p (k * 12 + 1)), .int .i64 (delU U p (k * 12 + 2)), .int .i64 (delU U p (k * 12 + 3)), .int .i64 (delU U p (k * 12 + 4)), .int .i64 (delU U p (k * 12 + 5)), .int .i64 (delU U p (k * 12 + 6)), .int .i64 (delU U p (k * 12 + 7)), .int .i64 (delU U p (k * 12 + 8)), .int .i64 (delU U p (k * 12 + 9)), .int .i64 (delU U p (k * 12 + 10)), .int .i64 (delU U p (k * 12 + 11))] 41)) = wx at hE hS2 hG2 hV2 hX2 ⊢
      have hne : ¬ wr.heap.size = gb := by omega
      generalize wr.heap.size = bp at hX2 hne hE hg2 ⊢
      clear d0 d1 d2 d3 d4 d5 d6 d7 d8 d9 d10 d11 hS hG hV
      have x0 := hX2.c 0 (by omega)
      have x1 := hX2.c 1 (by omega)
      have x2 := hX2.c 2 (by omega)
      have x3 := hX2.c 3 (by omega)
      have x4 := hX2.c 4 (by omega)
      have x5 := hX2.c 5 (by omega)
      have x6 := hX2.c 6 (by omega)
      have x7 := hX2.c 7 (by omega)
      have x8 := hX2.c 8 (by omega)
      have x9 := hX2.c 9 (by omega)
      have x10 := hX2.c 10 (by omega)
      have x11 := hX2.c 11 (by omega)
      have g1 := hG2.c 1 (by omega)
      have g2 := hG2.c 2 (by omega)
      have g3 := hG2.c 3 (by omega)
      have g4 := hG2.c 4 (by omega)
      have g5 := hG2.c 5 (by omega)
      obtain ⟨X, Y, D, J, hT⟩ : ∃ X Y D J, toT (U (p * 12 + 1)) (U (p * 12 + 2)) (U (p * 12 + 3)) (U (p * 12 + 4)) (U (p * 12 + 5)) (delU U p (k * 12 + 1)) (delU U p (k * 12 + 2)) (delU U p (k * 12 + 3)) (delU U p (k * 12 + 4)) (delU U p (k * 12 + 5)) = ((X, Y, D), J) := ⟨_, _, _, _, rfl⟩
      go_cut [13] (fun s wd => s = .bool J ∧ FmGone w T P (some ⟨b, o, none⟩) n c a' m c' wd ∧ Bd wd gb (fun j => U (p * 12 + j)) ∧ Bd wd bp (fun j => delU U p (k * 12 + j)) ∧ Vw wd lo wd.heap.size nb T P (some ⟨g, 0, none⟩) (n - 1) c1 (wakeR (fun j => U (p * 12 + j)) (delU U p) n k) none 0 0 (fun _ => 0))
      case first =>
       go_wp2_with (go_at_call 44; refine (touch_q _ _ _ _ _ _ _ _ _ _ X Y D J _ hT).mono ?_; rintro e w4 ⟨rfl, hb4⟩)
       go_meet
       have hE4 : Below w4.heap.size w4 (w4.alloc (Obj.cells #[.int .i64 X, .int .i64 Y, .int .i64 D] 87)) := (Below.refl _ _).alloc (Nat.le_refl _) _
       exact ⟨rfl, (hS2.on hb4).on hE4, (hG2.on hb4).on hE4, (hX2.on hb4).on hE4, (hV2.onT hb4).onT hE4⟩
      case rest =>
      clear hS2 hG2 hV2 hX2 x0 x1 x2 x3 x4 x5 x6 x7 x8 x9 x10 x11 g1 g2 g3 g4 g5 hE
      obtain ⟨rfl, hS, hG, hX, hV⟩ := hcut
      have htb : Shut (touchB (fun j => U (p * 12 + j)) (delU U p) k = J) := by show touchB _ _ _ = J; unfold touchB; exact congrArg Prod.snd hT
      clear hT
      obtain ⟨SL, hSL⟩ : ∃ b, decide ((fun j => delU U p (k * 12 + j)) 11 = 8) = b := ⟨_, rfl⟩
      have HSL : Shut (decide (delU U p (k * 12 + 11) = 8) = SL) := hSL
      have x0 := hX.c 0 (by omega)
      have x1 := hX.c 1 (by omega)
      have x2 := hX.c 2 (by omega)
      have x3 := hX.c 3 (by omega)
      have x4 := hX.c 4 (by omega)
      have x5 := hX.c 5 (by omega)
      have x6 := hX.c 6 (by omega)
      have x7 := hX.c 7 (by omega)
      have x8 := hX.c 8 (by omega)
      have x9 := hX.c 9 (by omega)
      have x10 := hX.c 10 (by omega)
      have x11 := hX.c 11 (by omega)
      cases J with
      | false =>
       have hno : wakeR (fun j => U (p * 12 + j)) (delU U p) n (k + 1) = wakeR (fun j => U (p * 12 + j)) (delU U p) n k := wakeR_no (fun q => by rw [htb.out] at q; exact absurd q.2.1 (by decide))
       clear hSL
       go_wp2_with fail
       go_roundw
       case rel => exact ⟨k + 1, by omega, by go_num, hS, hG, by rw [hno]; exact hV⟩
       case measure => simp [intOf]; omega
      | true =>
       cases SL with
       | false =>
        have hno : wakeR (fun j => U (p * 12 + j)) (delU U p) n (k + 1) = wakeR (fun j => U (p * 12 + j)) (delU U p) n k := wakeR_no (fun q => absurd q.2.2 (of_decide_eq_false HSL.out))
        have HNO : Shut (wakeR (fun j => U (p * 12 + j)) (delU U p) n (k + 1) = wakeR (fun j => U (p * 12 + j)) (delU U p) n k) := hno
        clear hno
        go_wp2_with (go_at_call 45; refine (bodySleeps_k (fun j => delU U p (k * 12 + j)) _ false hbk hSL).mono ?_; rintro e w5 ⟨rfl, hb5⟩)
        go_roundw
        case rel => exact ⟨k + 1, by omega, by go_num, hS.on hb5, hG.on hb5, by rw [HNO.out]; exact hV.onT hb5⟩
        case measure => simp [intOf]; omega
       | true =>
        have HY : Shut ((fun r => if r = k * 12 + 11 then 0 else wakeR (fun j => U (p * 12 + j)) (delU U p) n k r) = wakeR (fun j => U (p * 12 + j)) (delU U p) n (k + 1)) := wakeR_yes (by omega) htb.out (of_decide_eq_true HSL.out)
        have hgx : ¬ g = nb := (hV.t1 g rfl).2
        have hgx' : ¬ nb = g := fun e => hgx e.symm
        go_upto_region 13 with (go_at_call 45; refine (bodySleeps_k (fun j => delU U p (k * 12 + j)) _ true hbk hSL).mono ?_; rintro e w5 ⟨rfl, hb5⟩)
        have hS5 := hS.on hb5
        have hG5 := hG.on hb5
        have hV5 := hV.onT hb5
        have u2 := hV5.c2
        have uf := hV5.ob.fro
        have uc := hV5.ob.cellq (q := k * 12 + 11) (by omega)
        go_wp2_with fail
        have hs1 : Fr (fun b => b = g) w5 (w5.setCell ⟨g, k * 12 + 11, none⟩ (.int .i64 0)) := Fr.setCell (X := fun b => b = g) rfl _
        have hq := (hV5.bods (by omega) hs1 (hV5.ob.setq (k * 12 + 11) (by omega) 0)).top
        rw [HY.out] at hq
        go_roundw
        case rel => exact ⟨k + 1, by omega, by go_num, hS5.fr hs1 (fun b e => by subst e; omega), hG5.fr hs1 (by omega), hq⟩
        case measure => simp [intOf]; omega
    · obtain rfl : k = n - 1 := by omega
      have y3 := hS.wd.c3
      go_upto_region 16 with fail
      clear y3
      go_loopw [15, 85] (fun _ s wr => ∃ (k mm : Nat) (a3 : Option Addr) (c3 : Nat), k ≤ m ∧ s = .int .i64 (k : Int) ∧ (gnL Q id k).length = mm * 2 ∧ FmGone w T P (some ⟨b, o, none⟩) n c a' m c' wr ∧ Vw wr lo wr.heap.size nb T P a1 (n - 1) c1 (wakeR (fun j => U (p * 12 + j)) (delU U p) n (n - 1)) a3 mm c3 (ofL (gnL Q id k))) (fun _ s _ => m - (intOf s).toNat)
      case atStart => exact ⟨0, 0, none, 0, Nat.zero_le _, rfl, rfl, hS, hV.congrQ (fun q hq => by omega)⟩
      case round =>
       clear hS hG hV
       obtain ⟨k, mm, a3, c3, hk, rfl, hlen, hS, hV⟩ := hrel
       by_cases hlt : k < m
       · have hkm : (k : Int) < (m : Int) := by omega
         obtain ⟨b', o', rfl, hbl', hc'⟩ := (h'.below hS.wd.bel) (by omega)
         have e0 := hc' (k * 2) (by omega)
         have e1 := hc' (k * 2 + 1) (by omega)
         simp only [← Nat.add_assoc] at e0 e1
         clear hc'
         have hle := gnL_len Q id k
         have hE : Below wr.heap.size wr (wr.alloc (Obj.cells #[.int .i64 (Q (k * 2)), .int .i64 (Q (k * 2 + 1))] 58)) := (Below.refl _ _).alloc (Nat.le_refl _) _
         have hS2 := hS.on hE
         have hV2 := hV.onT hE
         obtain ⟨OB, hOB⟩ : ∃ b, (decide (Q (k * 2) = id) || decide (Q (k * 2 + 1) = id)) = b := ⟨_, rfl⟩
         have hgb : gnB Q id k = !OB := by unfold gnB; rw [hOB]
         cases OB with
         | true =>
          have hno : Shut (gnL Q id (k + 1) = gnL Q id k) := gnL_no hgb
          clear hgb
          go_wp2_with (go_at_call 46; refine (pof_q _ _ id _ true hOB).mono ?_; rintro e w5 ⟨rfl, hb5⟩)
          go_roundw
          case rel => exact ⟨k + 1, mm, _, _, by omega, by go_num, by rw [hno.out]; exact hlen, hS2.on hb5, by rw [hno.out]; exact hV2.onT hb5⟩
          case measure => simp [intOf]; omega
         | false =>
          have hyes : Shut (gnL Q id (k + 1) = gnL Q id k ++ [Q (k * 2), Q (k * 2 + 1)]) := gnL_yes hgb
          clear hgb
          go_upto_region 19 with (go_at_call 46; refine (pof_q _ _ id _ false hOB).mono ?_; rintro e w5 ⟨rfl, hb5⟩)
          have i0 : w5.cell? ⟨wr.heap.size, 0, none⟩ = some (.int .i64 (Q (k * 2))) := (hb5.cell (p := ⟨wr.heap.size, 0, none⟩) (by simp)).trans (by go_simp)
          have i1 : w5.cell? ⟨wr.heap.size, 1, none⟩ = some (.int .i64 (Q (k * 2 + 1))) := (hb5.cell (p := ⟨wr.heap.size, 1, none⟩) (by simp)).trans (by go_simp)
          have hS5 := hS2.on hb5
          have hV5 := hV2.onT hb5
          clear hS2 hV2 hS hV
          have hE6 : Below w5.heap.size w5 (w5.alloc (Obj.cells #[.int .i64 (Q (k * 2)), .int .i64 (Q (k * 2 + 1))] 58)) := (Below.refl _ _).alloc (Nat.le_refl _) _
          have hV6 := hV5.onT hE6
          have hS6 := hS5.on hE6
          have u3 := hV5.c3
          have hlo2 : lo ≤ w5.heap.size + 1 := by have := hV5.blt; have := hV5.bl; omega
          have hlo3 : nb < w5.heap.size := hV5.blt
          go_wp2_with (refine wpList_appk rfl _ _ _ rfl lo 58 2 16 zcPair Tryz.underlying24 infoItPair rfl (by decide) (.slice a3 mm c3) mm (ofL (gnL Q id k)) rfl hV6.op w5.heap.size _ (ofL [Q (k * 2), Q (k * 2 + 1)]) rfl (cellsP _ _ _ _) (by unfold maxLen; omega) (by omega) (by simp only [World.size_alloc]; omega) _ rfl ?_; intro g7 c7 w7 ho7 hg7 hor7 hlt7; have hF7 := Fr.grown (X := fun b => (Value.slice a3 mm c3).ownBlock = some b) hg7 (fun b e => e) hV6.op.isCells; have k7c := (hF7.cell (p := ⟨nb, 3, none⟩) hV6.blt (fun e => (hV6.t2 nb e).2 rfl)).trans hV6.c3; have k7f := (hF7.frozen (p := ⟨nb, 3, none⟩) hV6.blt (fun e => (hV6.t2 nb e).2 rfl)).trans (hV6.nf 3))
          have hn7 : g7 ≠ nb := by rcases hor7 with e | e; exact (hV6.t2 g7 e).2; (simp only [World.size_alloc] at e; omega)
          have hP := (hV6.setP hg7 ho7 (fun b e => by simp [Value.ownBlock] at e; omega)).top
          rw [← hlen, cat_ofL] at hP
          have hs8 : Fr (fun b => b = nb) w7 (w7.setCell ⟨nb, 3, none⟩ (.slice (some ⟨g7, 0, none⟩) (mm + 1) c7)) := Fr.setCell (X := fun b => b = nb) rfl _
          have hS8 := (hS6.fr hF7 (fun b e => by have := (hV6.op.lt b e).1; omega)).fr hs8 (fun b e => by subst e; have := hV6.bl; omega)
          go_roundw
          case rel => exact ⟨k + 1, mm + 1, _, _, by omega, by go_num, by rw [hyes.out, List.length_append, hlen]; simp; omega, hS8, by rw [hyes.out]; exact hP⟩
          case measure => simp [intOf]; omega
       · obtain rfl : k = m := by omega
         obtain rfl : mm = (gnL Q id k).length / 2 := by omega
         have hV9 := hV.congrU (gone_eq (fun j => U (p * 12 + j)) U p n)
         clear hV hlen
         have y0 := hS.wd.c0
         have y1 := hS.wd.c1
         have y2 := hS.wd.c2
         have y3 := hS.wd.c3
         have z0 := hS.z0
         have z1 := hS.z1
         have z2 := hS.z2
         have z3 := hS.z3
         have nf := hS.nf
         have bg := hS.big
         have v0 := hV9.c0
         have v1 := hV9.c1
         have v2 := hV9.c2
         have v3 := hV9.c3
         have vn := hV9.nf
         have vb := hV9.blt
         have vl := hV9.bl
         go_wp2_with fail
         exact bodyPost_ret (v := .tuple #[worldW T P a1 (n - 1) c1 a3 ((gnL Q id k).length / 2) c3, .int .i64 0]) (by simp [results, Tryz.results15, go_sem, *]) rfl (WOut.of a1 c1 a3 c3 rfl (hV9.out hS.wd.bel (by first | omega | (simp; done) | (simp; omega)) (by omega) _ _ _ _))
end Go.Proofs.YthijeiehcdoidaaGreat
