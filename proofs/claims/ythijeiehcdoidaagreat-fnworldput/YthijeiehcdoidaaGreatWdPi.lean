/- Texts of a proof. -/
import Derived.Test.YthijeiehcdoidaaGreatB39
import Derived.Deep.RegionHeld3
import Derived.Deep.DeepCutAuto
set_option maxHeartbeats 16000000
set_option maxRecDepth 20000
namespace Go.Proofs.YthijeiehcdoidaaGreat
open Go.RowKit
set_option linter.unusedVariables false
set_option linter.unusedSimpArgs false
theorem WOut.ofp {w w' : World} {e : Ending} {A : WA} (a1 : Option Addr) (c1 : Nat) (a2 : Option Addr) (c2 : Nat) (h : e = .returned (.tuple #[worldW A.T A.P a1 A.n c1 a2 A.m c2, .int .i64 A.k])) (k : OutW w w' a1 A.n c1 A.U a2 A.m c2 A.Q) : WOut w w' e A := ⟨a1, c1, a2, c2, h, k⟩
theorem worldB_bodp {T P : Int} {n : Nat} {U : Nat → Int} {m : Nat} {Q : Nat → Int} (h : worldB T P n U m Q = true) : bodsB n U = true := by
 unfold worldB at h
 simp only [Bool.and_eq_true] at h
 exact h.2.2.1
theorem bodsB_n12 {U : Nat → Int} {n : Nat} (h : bodsB n U = true) : n ≤ 12 := by
 unfold bodsB at h
 rw [Bool.and_eq_true] at h
 exact of_decide_eq_true h.1
def putWA (T P : Int) (n : Nat) (U : Nat → Int) (m : Nat) (Q : Nat → Int) (V : Nat → Int) (p : Nat) : WA :=
 bif worldB T P n U m Q then (bif bodyB V then (bif decide (p < n ∧ U (p * 12) = V 0) then ⟨T, P, n, U, m, Q, 2⟩ else (bif decide (n = 12) then ⟨T, P, n, U, m, Q, 3⟩ else ⟨T, P, n + 1, insU U p V, m, Q, 0⟩)) else ⟨T, P, n, U, m, Q, 1⟩) else WA.none
theorem putWA_n {T P : Int} {n : Nat} {U : Nat → Int} {m : Nat} {Q V : Nat → Int} {p : Nat} {A : WA} (eA : putWA T P n U m Q V p = A) (h20 : n + m ≤ 1048576) : A.n ≤ 1048576 ∧ A.m ≤ 1048576 := by
 rw [← eA]
 unfold putWA
 cases hw : worldB T P n U m Q with
 | false => exact ⟨by show 0 ≤ 1048576; omega, by show 0 ≤ 1048576; omega⟩
 | true =>
  have := bodsB_n12 (worldB_bodp hw)
  cases bodyB V <;> cases decide (p < n ∧ U (p * 12) = V 0) <;> cases decide (n = 12) <;> (constructor <;> (first | (show n ≤ 1048576; omega) | (show m ≤ 1048576; omega) | (show n + 1 ≤ 1048576; omega)))
theorem Vw.setB {wc w1 : World} {lo bx : Nat} {T P : Int} {a1 : Option Addr} {n c1 : Nat} {U : Nat → Int} {a2 : Option Addr} {m c2 : Nat} {Q : Nat → Int} {a3 : Option Addr} {n3 c3 : Nat} {U3 : Nat → Int} (h : Vw wc lo wc.heap.size bx T P a1 n c1 U a2 m c2 Q) (hg : wc.grownBy w1 (Value.slice a1 n c1).ownBlock) (ho : OwnL w1 lo 41 12 (.slice a3 n3 c3) n3 U3)
 (hx : ∀ b, (Value.slice a3 n3 c3).ownBlock = some b → b ≠ bx) : Vw (w1.setCell ⟨bx, 2, none⟩ (.slice a3 n3 c3)) lo w1.heap.size bx T P a3 n3 c3 U3 a2 m c2 Q := by
 have hset := cset_map
 have hF : Fr (fun b => (Value.slice a1 n c1).ownBlock = some b) wc w1 := Fr.grown hg (fun b e => e) h.ob.isCells
 have nb : ¬ (Value.slice a1 n c1).ownBlock = some bx := fun e => (h.t1 bx e).2 rfl
 have k := fun o => hF.cell (p := ⟨bx, o, none⟩) h.blt nb
 have kf := fun o => hF.frozen (p := ⟨bx, o, none⟩) h.blt nb
 have z0 := (k 0).trans h.c0
 have z1 := (k 1).trans h.c1
 have z2 := (k 2).trans h.c2
 have z3 := (k 3).trans h.c3
 have zf := fun o => (kf o).trans (h.nf o)
 clear k kf
 have hs : Fr (fun b => b = bx) w1 (w1.setCell ⟨bx, 2, none⟩ (.slice a3 n3 c3)) := Fr.setCell (X := fun b => b = bx) rfl _
 have op1 := h.op.frame hF (fun b e x => h.ob.neT h.op (by decide) b x e)
 exact ⟨by go_simp, by go_simp, by go_simp, by go_simp, fun o => by go_simp, h.bl, Nat.lt_of_lt_of_le h.blt hF.size, hs.size, ho.frame hs (fun b e x => hx b e x), op1.frame hs (fun b e x => (h.t2 b e).2 x), fun b e => ⟨(ho.lt b e).2, hx b e⟩, fun b e => ⟨(op1.lt b e).2, (h.t2 b e).2⟩⟩
theorem cellsB (w : World) (V : Nat → Int) (t : TypeId) : ∀ j, j < 12 → (w.alloc (Obj.cells #[.int .i64 (V 0), .int .i64 (V 1), .int .i64 (V 2), .int .i64 (V 3), .int .i64 (V 4), .int .i64 (V 5), .int .i64 (V 6), .int .i64 (V 7), .int .i64 (V 8), .int .i64 (V 9), .int .i64 (V 10), .int .i64 (V 11)] t)).cell? ⟨w.heap.size, j, none⟩ = some (.int .i64 (V j)) := by
 intro j hj
 rcases (show j = 0 ∨ j = 1 ∨ j = 2 ∨ j = 3 ∨ j = 4 ∨ j = 5 ∨ j = 6 ∨ j = 7 ∨ j = 8 ∨ j = 9 ∨ j = 10 ∨ j = 11 by omega) with rfl | rfl | rfl | rfl | rfl | rfl | rfl | rfl | rfl | rfl | rfl | rfl <;> go_simp
theorem shapeB (w : World) (V : Nat → Int) (t : TypeId) : (w.alloc (Obj.cells #[.int .i64 (V 0), .int .i64 (V 1), .int .i64 (V 2), .int .i64 (V 3), .int .i64 (V 4), .int .i64 (V 5), .int .i64 (V 6), .int .i64 (V 7), .int .i64 (V 8), .int .i64 (V 9), .int .i64 (V 10), .int .i64 (V 11)] t)).shape? w.heap.size = some (t, 12) := by
 unfold World.shape?
 rw [Go.Deep.blk_alloc_new w]
 rfl
theorem cat_ins (U V : Nat → Int) (p : Nat) : ∀ q, cat ((p + 1) * 12) (cat (p * 12) U V) (fun q => U (q + p * 12)) q = insU U p V q := by
 intro q
 unfold cat insU
 by_cases h1 : q < p * 12
 · rw [if_pos (by omega), if_pos h1, if_pos h1]
 · by_cases h2 : q < p * 12 + 12
   · rw [if_pos (by omega), if_neg h1, if_neg h1, if_pos h2]
   · rw [if_neg (by omega), if_neg h1, if_neg h2]
     show U (q - (p + 1) * 12 + p * 12) = U (q - 12)
     rw [show q - (p + 1) * 12 + p * 12 = q - 12 by omega]
structure FmPut (w : World) (T P : Int) (a : Option Addr) (n c : Nat) (a' : Option Addr) (m c' : Nat) (V : Nat → Int) (wr : World) : Prop where
 wd : WdR w T P a n c a' m c' wr
 big : w.heap.size + 1 + 1 < wr.heap.size
 r0 : wr.cell? ⟨w.heap.size + 1, 0, none⟩ = some (.int .i64 (V 0))
 r1 : wr.cell? ⟨w.heap.size + 1, 1, none⟩ = some (.int .i64 (V 1))
 r2 : wr.cell? ⟨w.heap.size + 1, 2, none⟩ = some (.int .i64 (V 2))
 r3 : wr.cell? ⟨w.heap.size + 1, 3, none⟩ = some (.int .i64 (V 3))
 r4 : wr.cell? ⟨w.heap.size + 1, 4, none⟩ = some (.int .i64 (V 4))
 r5 : wr.cell? ⟨w.heap.size + 1, 5, none⟩ = some (.int .i64 (V 5))
 r6 : wr.cell? ⟨w.heap.size + 1, 6, none⟩ = some (.int .i64 (V 6))
 r7 : wr.cell? ⟨w.heap.size + 1, 7, none⟩ = some (.int .i64 (V 7))
 r8 : wr.cell? ⟨w.heap.size + 1, 8, none⟩ = some (.int .i64 (V 8))
 r9 : wr.cell? ⟨w.heap.size + 1, 9, none⟩ = some (.int .i64 (V 9))
 r10 : wr.cell? ⟨w.heap.size + 1, 10, none⟩ = some (.int .i64 (V 10))
 r11 : wr.cell? ⟨w.heap.size + 1, 11, none⟩ = some (.int .i64 (V 11))
 z0 : wr.cell? ⟨w.heap.size + 1 + 1, 0, none⟩ = some (.int .i64 0)
 z1 : wr.cell? ⟨w.heap.size + 1 + 1, 1, none⟩ = some (.int .i64 0)
 z2 : wr.cell? ⟨w.heap.size + 1 + 1, 2, none⟩ = some (.slice none 0 0)
 z3 : wr.cell? ⟨w.heap.size + 1 + 1, 3, none⟩ = some (.slice none 0 0)
 nf : ∀ o, wr.frozen? ⟨w.heap.size + 1 + 1, o, none⟩ = false
theorem FmPut.on {w wr w' : World} {T P : Int} {a a' : Option Addr} {n c m c' : Nat} {V : Nat → Int} (h : FmPut w T P a n c a' m c' V wr) (hb : Below wr.heap.size wr w') : FmPut w T P a n c a' m c' V w' :=
 have bg := h.big
 ⟨h.wd.on hb, Nat.lt_of_lt_of_le h.big hb.size, (hb.cell (p := ⟨w.heap.size + 1, 0, none⟩) (by simp; omega)).trans h.r0, (hb.cell (p := ⟨w.heap.size + 1, 1, none⟩) (by simp; omega)).trans h.r1, (hb.cell (p := ⟨w.heap.size + 1, 2, none⟩) (by simp; omega)).trans h.r2, (hb.cell (p := ⟨w.heap.size + 1, 3, none⟩) (by simp; omega)).trans h.r3, (hb.cell (p := ⟨w.heap.size + 1, 4, none⟩) (by simp; omega)).trans h.r4, (hb.cell (p := ⟨w.heap.size + 1, 5, none⟩) (by simp; omega)).trans h.r5, (hb.cell (p := ⟨w.heap.size + 1, 6, none⟩) (by simp; omega)).trans h.r6, (hb.cell (p := ⟨w.heap.size + 1, 7, none⟩) (by simp; omega)).trans h.r7, (hb.cell (p := ⟨w.heap.size + 1, 8, none⟩) (by simp; omega)).trans h.r8, (hb.cell (p := ⟨w.heap.size + 1, 9, none⟩) (by simp; omega)).trans h.r9, (hb.cell (p := ⟨w.heap.size + 1, 10, none⟩) (by simp; omega)).trans h.r10, (hb.cell (p := ⟨w.heap.size + 1, 11, none⟩) (by simp; omega)).trans h.r11, (hb.cell (p := ⟨w.heap.size + 1 + 1, 0, none⟩) bg).trans h.z0, (hb.cell (p := ⟨w.heap.size + 1 + 1, 1, none⟩) bg).trans h.z1, (hb.cell (p := ⟨w.heap.size + 1 + 1, 2, none⟩) bg).trans h.z2, (hb.cell (p := ⟨w.heap.size + 1 + 1, 3, none⟩) bg).trans h.z3, fun o => (hb.frozen (p := ⟨w.heap.size + 1 + 1, o, none⟩) bg).trans (h.nf o)⟩
theorem FmPut.fr {X : Nat → Prop} {w wr w' : World} {T P : Int} {a a' : Option Addr} {n c m c' : Nat} {V : Nat → Int} (h : FmPut w T P a n c a' m c' V wr) (hs : Fr X wr w') (hX : ∀ b, X b → w.heap.size + 1 + 1 < b) : FmPut w T P a n c a' m c' V w' := by
 have bg := h.big
 have n0 : ¬ X w.heap.size := fun x => by have := hX _ x; omega
 have n1 : ¬ X (w.heap.size + 1) := fun x => by have := hX _ x; omega
 have n2 : ¬ X (w.heap.size + 1 + 1) := fun x => by have := hX _ x; omega
 have k0 := fun j => hs.cell (p := ⟨w.heap.size, j, none⟩) (by simp; omega) n0
 have k1 := fun j => hs.cell (p := ⟨w.heap.size + 1, j, none⟩) (by simp; omega) n1
 have k2 := fun j => hs.cell (p := ⟨w.heap.size + 1 + 1, j, none⟩) bg n2
 exact ⟨⟨h.wd.bel.trans (hs.below (by omega) (fun b x => by have := hX b x; omega)), Nat.lt_of_lt_of_le h.wd.big hs.size, (k0 0).trans h.wd.c0, (k0 1).trans h.wd.c1, (k0 2).trans h.wd.c2, (k0 3).trans h.wd.c3⟩, Nat.lt_of_lt_of_le bg hs.size, (k1 0).trans h.r0, (k1 1).trans h.r1, (k1 2).trans h.r2, (k1 3).trans h.r3, (k1 4).trans h.r4, (k1 5).trans h.r5, (k1 6).trans h.r6, (k1 7).trans h.r7, (k1 8).trans h.r8, (k1 9).trans h.r9, (k1 10).trans h.r10, (k1 11).trans h.r11, (k2 0).trans h.z0, (k2 1).trans h.z1, (k2 2).trans h.z2, (k2 3).trans h.z3, fun o => (hs.frozen (p := ⟨w.heap.size + 1 + 1, o, none⟩) bg n2).trans (h.nf o)⟩
theorem FmPut.start (w : World) (T P : Int) (a a' : Option Addr) (n c m c' : Nat) (V : Nat → Int) : FmPut w T P a n c a' m c' V (((w.alloc (Obj.cells #[.int .i64 T, .int .i64 P, .slice a n c, .slice a' m c'] 26)).alloc (Obj.cells #[.int .i64 (V 0), .int .i64 (V 1), .int .i64 (V 2), .int .i64 (V 3), .int .i64 (V 4), .int .i64 (V 5), .int .i64 (V 6), .int .i64 (V 7), .int .i64 (V 8), .int .i64 (V 9), .int .i64 (V 10), .int .i64 (V 11)] 41)).alloc (Obj.cells #[.int .i64 0, .int .i64 0, .slice none 0 0, .slice none 0 0] 26)) :=
 ⟨⟨((((Below.refl _ _).alloc (Nat.le_refl _) _).alloc (by simp) _).alloc (by simp; try omega) _), by simp; try omega, by go_simp, by go_simp, by go_simp, by go_simp⟩, by simp, by go_simp, by go_simp, by go_simp, by go_simp, by go_simp, by go_simp, by go_simp, by go_simp, by go_simp, by go_simp, by go_simp, by go_simp, by go_simp, by go_simp, by go_simp, by go_simp, fun o => by go_simp⟩
theorem worldPut_q (T P : Int) (a : Option Addr) (n c : Nat) (U : Nat → Int) (a' : Option Addr) (m c' : Nat) (Q : Nat → Int) (V : Nat → Int) (p : Nat) (w : World) (h : Flat w a (n * 12) U) (h' : Flat w a' (m * 2) Q) (hn : n ≤ 1048576) (hm : m ≤ 1048576) (hp : idP U n (V 0) p) (A : WA) (eA : putWA T P n U m Q V p = A) :
 Calls Tryz.prog 11 #[worldW T P a n c a' m c', bodyW V] w fun e w' => WOut w w' e A := by
 have hset := cset_map
 have hS := FmPut.start w T P a a' n c m c' V
 cases hok : worldB T P n U m Q with
 | false =>
  simp only [putWA, hok, cond_false] at eA
  subst eA
  go_enter Tryz.func11, Tryz.ntmps11
  go_wp2_with (go_at_call 14; refine (worldOk_q T P a n c U a' m c' Q _ (h.below hS.wd.bel) (h'.below hS.wd.bel) hn hm false hok).mono ?_; rintro e w1 ⟨rfl, hb1⟩; have hS1 := hS.on hb1; have y0 := hS1.wd.c0; have y1 := hS1.wd.c1; have y2 := hS1.wd.c2; have y3 := hS1.wd.c3; have z0 := hS1.z0; have z1 := hS1.z1; have z2 := hS1.z2; have z3 := hS1.z3; have nf := hS1.nf; have bg := hS1.big; have r0 := hS1.r0; have r1 := hS1.r1; have r2 := hS1.r2; have r3 := hS1.r3; have r4 := hS1.r4; have r5 := hS1.r5; have r6 := hS1.r6; have r7 := hS1.r7; have r8 := hS1.r8; have r9 := hS1.r9; have r10 := hS1.r10; have r11 := hS1.r11)
  exact bodyPost_ret (v := .tuple #[worldW 0 0 none 0 0 none 0 0, .int .i64 1]) (by simp [results, Tryz.results11, go_sem, *]) rfl (WOut.ofp none 0 none 0 rfl (OutW.nil ((((hS1.wd.bel.setCell (by first | omega | (simp; done) | (simp; omega)) _).setCell (by first | omega | (simp; done) | (simp; omega)) _).setCell (by first | omega | (simp; done) | (simp; omega)) _).setCell (by first | omega | (simp; done) | (simp; omega)) _)))
 | true =>
  unfold putWA at eA
  have hbb := worldB_bodp hok
  have hn12 := bodsB_n12 hbb
  have ha := bodsB_asc hbb
  obtain ⟨BD, hBD⟩ : ∃ b, bodyB V = b := ⟨_, rfl⟩
  obtain ⟨TH, hTH⟩ : ∃ b, decide (p < n ∧ U (p * 12) = V 0) = b := ⟨_, rfl⟩
  obtain ⟨FU, hFU⟩ : ∃ b, decide (n = 12) = b := ⟨_, rfl⟩
  rw [hok, hBD, hTH, hFU] at eA
  have HTH : Shut (decide (p < n ∧ U (p * 12) = V 0) = TH) := hTH
  have HFU : Shut (decide (n = 12) = FU) := hFU
  clear hTH hFU
  go_enter Tryz.func11, Tryz.ntmps11
  go_upto_region 3 with (go_at_call 14; refine (worldOk_q T P a n c U a' m c' Q _ (h.below hS.wd.bel) (h'.below hS.wd.bel) hn hm true hok).mono ?_; rintro e w1 ⟨rfl, hb1⟩; have hS1 := hS.on hb1; have y0 := hS1.wd.c0; have y1 := hS1.wd.c1; have y2 := hS1.wd.c2; have y3 := hS1.wd.c3; have z0 := hS1.z0; have z1 := hS1.z1; have z2 := hS1.z2; have z3 := hS1.z3; have nf := hS1.nf; have bg := hS1.big; have r0 := hS1.r0; have r1 := hS1.r1; have r2 := hS1.r2; have r3 := hS1.r3; have r4 := hS1.r4; have r5 := hS1.r5; have r6 := hS1.r6; have r7 := hS1.r7; have r8 := hS1.r8; have r9 := hS1.r9; have r10 := hS1.r10; have r11 := hS1.r11)
  go_upto_region 3 with fail
  go_cut [6] (fun s0 wc => ∃ lo bx a1 c1 a2 c2, s0 = .pointer (some ⟨bx, 0, none⟩) ∧ w.heap.size + 1 + 1 < lo ∧ FmPut w T P a n c a' m c' V wc ∧ Vw wc lo wc.heap.size bx T P a1 n c1 U a2 m c2 Q)
  case first =>
   go_wp2_with (go_at_call 32; refine (copied_any T P a n c U a' m c' Q _ (h.below hS1.wd.bel) (h'.below hS1.wd.bel) hn hm).mono ?_; rintro e w3 ⟨a1, c1, a2, c2, rfl, hO⟩)
   go_meet
   exact ⟨_, _, a1, c1, a2, c2, rfl, hS1.big, (hS1.on hO.bel).on ((Below.refl _ _).alloc (Nat.le_refl _) _), (Vw.new hO).top⟩
  case rest =>
  clear hS hb1 hS1 y0 y1 y2 y3 z0 z1 z2 z3 nf bg r0 r1 r2 r3 r4 r5 r6 r7 r8 r9 r10 r11
  obtain ⟨lo, bx, a1, c1, a2, c2, rfl, hlo, hS, hV⟩ := hcut
  have y0 := hS.wd.c0
  have y1 := hS.wd.c1
  have y2 := hS.wd.c2
  have y3 := hS.wd.c3
  have z0 := hS.z0
  have z1 := hS.z1
  have z2 := hS.z2
  have z3 := hS.z3
  have nf := hS.nf
  have bg := hS.big
  have r0 := hS.r0
  have r1 := hS.r1
  have r2 := hS.r2
  have r3 := hS.r3
  have r4 := hS.r4
  have r5 := hS.r5
  have r6 := hS.r6
  have r7 := hS.r7
  have r8 := hS.r8
  have r9 := hS.r9
  have r10 := hS.r10
  have r11 := hS.r11
  have v0 := hV.c0
  have v1 := hV.c1
  have v2 := hV.c2
  have v3 := hV.c3
  have vn := hV.nf
  have vb := hV.blt
  have vl := hV.bl
  go_upto_region 4 with fail
  go_cut [7, 8] (fun s0 s1 wc => s0 = .int .i64 (p : Int) ∧ s1 = .bool TH ∧ FmPut w T P a n c a' m c' V wc ∧ Vw wc lo wc.heap.size bx T P a1 n c1 U a2 m c2 Q)
  case first =>
   go_wp2_with (go_at_call 33; refine (wplace_any T P a n c U a' m c' (V 0) p _ (h.below hS.wd.bel) hn ha hp TH HTH.out).mono ?_; rintro e w4 ⟨rfl, hb4⟩)
   go_meet
   exact ⟨rfl, rfl, hS.on hb4, hV.onT hb4⟩
  case rest =>
  clear hS y0 y1 y2 y3 z0 z1 z2 z3 nf bg r0 r1 r2 r3 r4 r5 r6 r7 r8 r9 r10 r11 hV v0 v1 v2 v3 vn vb vl
  obtain ⟨rfl, rfl, hS, hV⟩ := hcut
  have y0 := hS.wd.c0
  have y1 := hS.wd.c1
  have y2 := hS.wd.c2
  have y3 := hS.wd.c3
  have z0 := hS.z0
  have z1 := hS.z1
  have z2 := hS.z2
  have z3 := hS.z3
  have nf := hS.nf
  have bg := hS.big
  have r0 := hS.r0
  have r1 := hS.r1
  have r2 := hS.r2
  have r3 := hS.r3
  have r4 := hS.r4
  have r5 := hS.r5
  have r6 := hS.r6
  have r7 := hS.r7
  have r8 := hS.r8
  have r9 := hS.r9
  have r10 := hS.r10
  have r11 := hS.r11
  have v0 := hV.c0
  have v1 := hV.c1
  have v2 := hV.c2
  have v3 := hV.c3
  have vn := hV.nf
  have vb := hV.blt
  have vl := hV.bl
  go_upto_region 5 with fail
  go_cut [22] (fun s0 wc => s0 = .bool (!BD) ∧ FmPut w T P a n c a' m c' V wc ∧ Vw wc lo wc.heap.size bx T P a1 n c1 U a2 m c2 Q)
  case first =>
   go_wp2_with (go_at_call 34; refine (bodyOk_k V _ BD hBD).mono ?_; rintro e w4 ⟨rfl, hb4⟩)
   go_meet
   exact ⟨rfl, hS.on hb4, hV.onT hb4⟩
  case rest =>
  clear hS y0 y1 y2 y3 z0 z1 z2 z3 nf bg r0 r1 r2 r3 r4 r5 r6 r7 r8 r9 r10 r11 hV v0 v1 v2 v3 vn vb vl
  obtain ⟨rfl, hS, hV⟩ := hcut
  have y0 := hS.wd.c0
  have y1 := hS.wd.c1
  have y2 := hS.wd.c2
  have y3 := hS.wd.c3
  have z0 := hS.z0
  have z1 := hS.z1
  have z2 := hS.z2
  have z3 := hS.z3
  have nf := hS.nf
  have bg := hS.big
  have r0 := hS.r0
  have r1 := hS.r1
  have r2 := hS.r2
  have r3 := hS.r3
  have r4 := hS.r4
  have r5 := hS.r5
  have r6 := hS.r6
  have r7 := hS.r7
  have r8 := hS.r8
  have r9 := hS.r9
  have r10 := hS.r10
  have r11 := hS.r11
  have v0 := hV.c0
  have v1 := hV.c1
  have v2 := hV.c2
  have v3 := hV.c3
  have vn := hV.nf
  have vb := hV.blt
  have vl := hV.bl
  cases BD with
  | false =>
   simp only [cond_true, cond_false] at eA
   subst eA
   go_wp2_with fail
   exact bodyPost_ret (v := .tuple #[worldW T P a1 n c1 a2 m c2, .int .i64 1]) (by simp [results, Tryz.results11, go_sem, *]) rfl (WOut.ofp a1 c1 a2 c2 rfl (hV.out hS.wd.bel (by omega) (by omega) _ _ _ _))
  | true =>
   cases TH with
   | true =>
    simp only [cond_true, cond_false] at eA
    subst eA
    go_wp2_with fail
    exact bodyPost_ret (v := .tuple #[worldW T P a1 n c1 a2 m c2, .int .i64 2]) (by simp [results, Tryz.results11, go_sem, *]) rfl (WOut.ofp a1 c1 a2 c2 rfl (hV.out hS.wd.bel (by omega) (by omega) _ _ _ _))
   | false =>
    cases FU with
    | true =>
     simp only [cond_true, cond_false] at eA
     subst eA
     have q1 := of_decide_eq_true HFU.out
     have e1 : ((n : Int) == 12) = true := by simp; omega
     have e2 : (12 : Int) ≤ (n : Int) := by omega
     have e3 : ((n : Int) = 12) = True := eq_true (by omega)
     have Q1 : Shut (n = 12) := q1
     clear q1
     go_wp2_with fail
     exact bodyPost_ret (v := .tuple #[worldW T P a1 n c1 a2 m c2, .int .i64 3]) (by simp [results, Tryz.results11, go_sem, *]) rfl (WOut.ofp a1 c1 a2 c2 rfl (hV.out hS.wd.bel (by omega) (by omega) _ _ _ _))
    | false =>
     simp only [cond_true, cond_false] at eA
     subst eA
     have q1 := of_decide_eq_false HFU.out
     have e1 : ((n : Int) == 12) = false := by simp; omega
     have e2 : ¬ (12 : Int) ≤ (n : Int) := by omega
     have e3 : ¬ (n : Int) = 12 := by omega
     have hE6 : Below wc.heap.size wc (wc.alloc (Obj.cells #[.int .i64 (V 0), .int .i64 (V 1), .int .i64 (V 2), .int .i64 (V 3), .int .i64 (V 4), .int .i64 (V 5), .int .i64 (V 6), .int .i64 (V 7), .int .i64 (V 8), .int .i64 (V 9), .int .i64 (V 10), .int .i64 (V 11)] 41)) := (Below.refl _ _).alloc (Nat.le_refl _) _
     have hV6 := hV.onT hE6
     have hS6 := hS.on hE6
     have hcB := cellsB wc V 41
     have hsB := shapeB wc V 41
     have hfB : ∀ o, (wc.alloc (Obj.cells #[.int .i64 (V 0), .int .i64 (V 1), .int .i64 (V 2), .int .i64 (V 3), .int .i64 (V 4), .int .i64 (V 5), .int .i64 (V 6), .int .i64 (V 7), .int .i64 (V 8), .int .i64 (V 9), .int .i64 (V 10), .int .i64 (V 11)] 41)).frozen? ⟨wc.heap.size, o, none⟩ = false := fun o => by go_simp
     have hz6 : wc.heap.size < (wc.alloc (Obj.cells #[.int .i64 (V 0), .int .i64 (V 1), .int .i64 (V 2), .int .i64 (V 3), .int .i64 (V 4), .int .i64 (V 5), .int .i64 (V 6), .int .i64 (V 7), .int .i64 (V 8), .int .i64 (V 9), .int .i64 (V 10), .int .i64 (V 11)] 41)).heap.size := by simp
     go_upto_region 11 with fail
     go_cut [] (fun  wc => ∃ a7 c7, FmPut w T P a n c a' m c' V wc ∧ Vw wc lo wc.heap.size bx T P a7 (n + 1) c7 (insU U p V) a2 m c2 Q)
     case first =>
      go_wp2_with (go_at_call 35; refine (insert_any lo a1 n c1 U V p wc.heap.size 1 _ hV6.ob hn hp.le (by omega) hz6 (fun b e => by have := (hV.ob.lt b e).2; omega) hcB hsB hfB).mono ?_; rintro e w7 ⟨a7, c7, rfl, ho7, hg7, hor7⟩; have hF7 := Fr.grown (X := fun b => (Value.slice a1 n c1).ownBlock = some b) hg7 (fun b e => e) hV6.ob.isCells; have nbx : ¬ (Value.slice a1 n c1).ownBlock = some bx := (fun e => (hV6.t1 bx e).2 rfl); have k7c := (hF7.cell (p := ⟨bx, 2, none⟩) hV6.blt nbx).trans hV6.c2; have k7f := (hF7.frozen (p := ⟨bx, 2, none⟩) hV6.blt nbx).trans (hV6.nf 2))
      go_meet
      have hP := (hV6.setB hg7 ho7 (fun b e => by rcases hor7 b e with q | q; exact (hV6.t1 b q).2; (have := hV6.blt; omega))).top
      have hs8 : Fr (fun b => b = bx) w7 (w7.setCell ⟨bx, 2, none⟩ (.slice a7 (n + 1) c7)) := Fr.setCell (X := fun b => b = bx) rfl _
      have hS8 := (hS6.fr hF7 (fun b e => by have := (hV6.ob.lt b e).1; omega)).fr hs8 (fun b e => by subst e; omega)
      exact ⟨a7, c7, hS8, hP⟩
     case rest =>
     clear hS y0 y1 y2 y3 z0 z1 z2 z3 nf bg r0 r1 r2 r3 r4 r5 r6 r7 r8 r9 r10 r11 hV v0 v1 v2 v3 vn vb vl
     clear hE6 hV6 hS6 hcB hsB hfB hz6
     obtain ⟨a7, c7, hS, hV⟩ := hcut
     have y0 := hS.wd.c0
     have y1 := hS.wd.c1
     have y2 := hS.wd.c2
     have y3 := hS.wd.c3
     have z0 := hS.z0
     have z1 := hS.z1
     have z2 := hS.z2
     have z3 := hS.z3
     have nf := hS.nf
     have bg := hS.big
     have r0 := hS.r0
     have r1 := hS.r1
     have r2 := hS.r2
     have r3 := hS.r3
     have r4 := hS.r4
     have r5 := hS.r5
     have r6 := hS.r6
     have r7 := hS.r7
     have r8 := hS.r8
     have r9 := hS.r9
     have r10 := hS.r10
     have r11 := hS.r11
     have v0 := hV.c0
     have v1 := hV.c1
     have v2 := hV.c2
     have v3 := hV.c3
     have vn := hV.nf
     have vb := hV.blt
     have vl := hV.bl
     go_wp2_with fail
     exact bodyPost_ret (v := .tuple #[worldW T P a7 (n + 1) c7 a2 m c2, .int .i64 0]) (by simp [results, Tryz.results11, go_sem, *]) rfl (WOut.ofp a7 c7 a2 c2 rfl (hV.out hS.wd.bel (by omega) (by omega) _ _ _ _))
end Go.Proofs.YthijeiehcdoidaaGreat
