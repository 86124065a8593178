/- Texts of a proof. -/
import Derived.Test.YthijeiehcdoidaaGreatB27
import Derived.Test.YthijeiehcdoidaaGreatB21
import Derived.Test.YthijeiehcdoidaaGreatB28
import Derived.Test.YthijeiehcdoidaaGreatWdSp
import Derived.Deep.RegionHeld3
import Derived.Deep.DeepCutAuto
set_option maxHeartbeats 16000000
set_option maxRecDepth 20000
namespace Go.Proofs.YthijeiehcdoidaaGreat
open Go.RowKit
set_option linter.unusedVariables false
set_option linter.unusedSimpArgs false
structure Ws (w wr : World) (T P : Int) (a : Option Addr) (n c : Nat) (a' : Option Addr) (m c' : Nat) : Prop where
 bel : Below w.heap.size w wr
 c0 : wr.cell? ⟨w.heap.size, 0, none⟩ = some (.int .i64 T)
 c1 : wr.cell? ⟨w.heap.size, 1, none⟩ = some (.int .i64 P)
 c2 : wr.cell? ⟨w.heap.size, 2, none⟩ = some (.slice a n c)
 c3 : wr.cell? ⟨w.heap.size, 3, none⟩ = some (.slice a' m c')
 z0 : wr.cell? ⟨w.heap.size + 1, 0, none⟩ = some (.int .i64 0)
 z1 : wr.cell? ⟨w.heap.size + 1, 1, none⟩ = some (.int .i64 0)
 z2 : wr.cell? ⟨w.heap.size + 1, 2, none⟩ = some (.slice none 0 0)
 z3 : wr.cell? ⟨w.heap.size + 1, 3, none⟩ = some (.slice none 0 0)
 nf : ∀ o, wr.frozen? ⟨w.heap.size + 1, o, none⟩ = false
 big : w.heap.size + 1 < wr.heap.size
theorem Ws.mv {w wr w' : World} {T P : Int} {a a' : Option Addr} {n c m c' : Nat} (h : Ws w wr T P a n c a' m c') (hb : Below w.heap.size w w') (hs : wr.heap.size ≤ w'.heap.size) (hc : ∀ b o, b ≤ w.heap.size + 1 → w.heap.size ≤ b → w'.cell? ⟨b, o, none⟩ = wr.cell? ⟨b, o, none⟩) (hf : ∀ o, w'.frozen? ⟨w.heap.size + 1, o, none⟩ = wr.frozen? ⟨w.heap.size + 1, o, none⟩) : Ws w w' T P a n c a' m c' :=
 have k := fun o => hc w.heap.size o (by omega) (Nat.le_refl _)
 have l := fun o => hc (w.heap.size + 1) o (Nat.le_refl _) (by omega)
 ⟨hb, (k 0).trans h.c0, (k 1).trans h.c1, (k 2).trans h.c2, (k 3).trans h.c3, (l 0).trans h.z0, (l 1).trans h.z1, (l 2).trans h.z2, (l 3).trans h.z3, fun o => (hf o).trans (h.nf o), Nat.lt_of_lt_of_le h.big hs⟩
theorem Ws.on {w wr w' : World} {T P : Int} {a a' : Option Addr} {n c m c' : Nat} (h : Ws w wr T P a n c a' m c') (hb : Below wr.heap.size wr w') : Ws w w' T P a n c a' m c' := by
 have hg := h.big
 exact h.mv (h.bel.trans (hb.mono h.bel.size)) hb.size (fun b o h1 _ => hb.cell (p := ⟨b, o, none⟩) (by show b < _; omega)) (fun o => hb.frozen (p := ⟨w.heap.size + 1, o, none⟩) hg)
theorem Ws.fr {w wr w' : World} {T P : Int} {a a' : Option Addr} {n c m c' : Nat} {ob : Nat} (h : Ws w wr T P a n c a' m c') (hs : Fr (fun b => b = ob) wr w') (ho : w.heap.size + 1 < ob) : Ws w w' T P a n c a' m c' := by
 have hg := h.big
 exact h.mv (h.bel.trans (hs.below h.bel.size (fun k e => by omega))) hs.size (fun b o h1 _ => hs.cell (p := ⟨b, o, none⟩) (by show b < _; omega) (by show ¬ b = ob; omega)) (fun o => hs.frozen (p := ⟨w.heap.size + 1, o, none⟩) hg (by show ¬ w.heap.size + 1 = ob; omega))
theorem Ws.start (w : World) (T P : Int) (a : Option Addr) (n c : Nat) (a' : Option Addr) (m c' : Nat) : Ws w ((w.alloc (Obj.cells #[.int .i64 T, .int .i64 P, .slice a n c, .slice a' m c'] 26)).alloc (Obj.cells #[.int .i64 0, .int .i64 0, .slice none 0 0, .slice none 0 0] 26)) T P a n c a' m c' :=
 ⟨((Below.refl _ _).alloc (Nat.le_refl _) _).alloc (by simp) _, by go_simp, by go_simp, by go_simp, by go_simp, by go_simp, by go_simp, by go_simp, by go_simp, fun o => by go_simp, by simp⟩
theorem Flat.drw {w : World} {a : Option Addr} {m : Nat} {U : Nat → Int} (h : Flat w a m U) : Flat w.drew a m U := h
structure Vb (w : World) (b : Nat) (v0 v1 v2 v3 : Value) : Prop where
 c0 : w.cell? ⟨b, 0, none⟩ = some v0
 c1 : w.cell? ⟨b, 1, none⟩ = some v1
 c2 : w.cell? ⟨b, 2, none⟩ = some v2
 c3 : w.cell? ⟨b, 3, none⟩ = some v3
 f : ∀ o, w.frozen? ⟨b, o, none⟩ = false
 l : b < w.heap.size
theorem Vb.on {w w' : World} {b : Nat} {v0 v1 v2 v3 : Value} (h : Vb w b v0 v1 v2 v3) (hb : Below w.heap.size w w') : Vb w' b v0 v1 v2 v3 :=
 have k := fun o => hb.cell (p := ⟨b, o, none⟩) h.l
 ⟨(k 0).trans h.c0, (k 1).trans h.c1, (k 2).trans h.c2, (k 3).trans h.c3, fun o => (hb.frozen (p := ⟨b, o, none⟩) h.l).trans (h.f o), Nat.lt_of_lt_of_le h.l hb.size⟩
structure We (w wr : World) (ob : Nat) (x0 x1 x2 x3 r0 r1 r2 r3 z : Value) (n m : Nat) (U Q : Nat → Int) : Prop where
 bel : Below w.heap.size w wr
 c3 : wr.cell? ⟨w.heap.size, 3, none⟩ = some z
 x : Vb wr ob x0 x1 x2 x3
 r : Vb wr (w.heap.size + 1) r0 r1 r2 r3
 o5 : OwnL wr (w.heap.size + 1 + 1) 41 12 x2 n U
 o6 : OwnL wr (w.heap.size + 1 + 1) 58 2 x3 m Q
theorem We.on {w wr w' : World} {ob n m : Nat} {x0 x1 x2 x3 r0 r1 r2 r3 z : Value} {U Q : Nat → Int} (h : We w wr ob x0 x1 x2 x3 r0 r1 r2 r3 z n m U Q) (hb : Below wr.heap.size wr w') : We w w' ob x0 x1 x2 x3 r0 r1 r2 r3 z n m U Q :=
 have hl := h.r.l
 ⟨h.bel.trans (hb.mono h.bel.size), (hb.cell (p := ⟨w.heap.size, 3, none⟩) (by show w.heap.size < _; omega)).trans h.c3, h.x.on hb, h.r.on hb, h.o5.below hb, h.o6.below hb⟩
theorem We.drew {w wr : World} {ob n m : Nat} {x0 x1 x2 x3 r0 r1 r2 r3 z : Value} {U Q : Nat → Int} (h : We w wr ob x0 x1 x2 x3 r0 r1 r2 r3 z n m U Q) : We w wr.drew ob x0 x1 x2 x3 r0 r1 r2 r3 z n m U Q := h.on (Below.drew (Below.refl _ _))
theorem We.put {w wr : World} {ob n m : Nat} {x0 x1 x2 x3 r0 r1 r2 r3 z : Value} {U Q : Nat → Int} (h : We w wr ob x0 x1 x2 x3 r0 r1 r2 r3 z n m U Q) (hob : w.heap.size + 1 < ob) : We w ((((wr.setCell ⟨w.heap.size + 1, 0, none⟩ x0).setCell ⟨w.heap.size + 1, 1, none⟩ x1).setCell ⟨w.heap.size + 1, 2, none⟩ x2).setCell ⟨w.heap.size + 1, 3, none⟩ x3) ob x0 x1 x2 x3 x0 x1 x2 x3 z n m U Q := by
 obtain ⟨hb, c3, ⟨v0, v1, v2, v3, vf, vl⟩, ⟨z0, z1, z2, z3, zf, zl⟩, o5, o6⟩ := h
 have hset := cset_map
 have n1 : ¬ w.heap.size + 1 = ob := by omega
 have n2 : ¬ ob = w.heap.size + 1 := by omega
 have n3 : ¬ w.heap.size = w.heap.size + 1 := by omega
 have n4 : ¬ w.heap.size + 1 = w.heap.size := by omega
 exact ⟨(((hb.setCell (p := ⟨w.heap.size + 1, 0, none⟩) (by simp) x0).setCell (p := ⟨w.heap.size + 1, 1, none⟩) (by simp) x1).setCell (p := ⟨w.heap.size + 1, 2, none⟩) (by simp) x2).setCell (p := ⟨w.heap.size + 1, 3, none⟩) (by simp) x3,
  by go_simp, ⟨by go_simp, by go_simp, by go_simp, by go_simp, fun o => by go_simp, by simpa using vl⟩, ⟨by go_simp, by go_simp, by go_simp, by go_simp, fun o => by go_simp, by simpa using zl⟩,
  (((o5.setO (o := 0) (b := w.heap.size + 1) (by omega) x0).setO (o := 1) (by omega) x1).setO (o := 2) (by omega) x2).setO (o := 3) (by omega) x3,
  (((o6.setO (o := 0) (b := w.heap.size + 1) (by omega) x0).setO (o := 1) (by omega) x1).setO (o := 2) (by omega) x2).setO (o := 3) (by omega) x3⟩
theorem sWorldStep_w (T P : Int) (a : Option Addr) (n c : Nat) (a' : Option Addr) (m c' : Nat) (U Q : Nat → Int) (w : World) (h : Flat w a (n * 12) U) (h' : Flat w a' (m * 2) Q) (hn : n ≤ 1000) (hm : m ≤ 800) :
 Calls Tryz.prog 83 #[worldW T P a n c a' m c'] w fun e w' => ∃ (T1 P1 : Int) (a1 : Option Addr) (n1 c1 : Nat) (U1 : Nat → Int) (a2 : Option Addr) (m1 c2 : Nat) (Q1 : Nat → Int) (ev : Value), e = .returned (.tuple #[worldW T1 P1 a1 n1 c1 a2 m1 c2, ev]) ∧ (n1 ≤ n ∧ m1 ≤ m + 144) ∧ OutW w w' a1 n1 c1 U1 a2 m1 c2 Q1 := by
 have hset := cset_map
 have hS := Ws.start w T P a n c a' m c'
 cases hok : worldB T P n U m Q with
 | false =>
  go_enter Tryz.func83, Tryz.ntmps83
  go_wp2_with (go_at_call 8; refine (sWorldOk_q T P a n c U a' m c' Q _ (h.below hS.bel) (h'.below hS.bel) (by omega) (by omega) _ hok).mono ?_; rintro e w1 ⟨rfl, hb1⟩; have hS1 := hS.on hb1; have c0 := hS1.c0; have c1 := hS1.c1; have c2 := hS1.c2; have c3 := hS1.c3; have z0 := hS1.z0; have z1 := hS1.z1; have z2 := hS1.z2; have z3 := hS1.z3; have nf := hS1.nf; have big := hS1.big)
  have hbw := (((((hS1.bel.alloc hS1.bel.size (.cells #[] 198)).setCell (p := ⟨w.heap.size + 1, 0, none⟩) (by simp) (.int .i64 0)).setCell (p := ⟨w.heap.size + 1, 1, none⟩) (by simp) (.int .i64 0)).setCell (p := ⟨w.heap.size + 1, 2, none⟩) (by simp) (.slice none 0 0)).setCell (p := ⟨w.heap.size + 1, 3, none⟩) (by simp) (.slice none 0 0))
  exact bodyPost_ret (v := .tuple #[worldW 0 0 none 0 0 none 0 0, .slice (some ⟨w1.heap.size, 0, none⟩) 0 0]) (by simp [results, Tryz.results83, go_sem, *]) rfl ⟨0, 0, none, 0, 0, (fun _ => 0), none, 0, 0, (fun _ => 0), _, rfl, ⟨by omega, by omega⟩, by first | exact hbw | exact bel_a, OwnL.nil _ _ _ _ _, OwnL.nil _ _ _ _ _, fun b e => by simp [Value.ownBlock] at e⟩
 | true =>
  have hbods : bodsB n U = true := by have q := hok; unfold worldB at q; simp only [Bool.and_eq_true] at q; exact q.2.2.1
  have hB := Bods.of hbods
  have hn12 := hB.le
  have hTP : (0 ≤ T ∧ T ≤ 100000) ∧ (0 ≤ P ∧ P ≤ 2560) := by unfold worldB at hok; simp only [Bool.and_eq_true, decide_eq_true_eq] at hok; exact ⟨hok.1, hok.2.1⟩
  obtain ⟨hT, hP⟩ := hTP
  have hstep := (hB.steps P).2.2.2.2.2.2.1
  go_enter Tryz.func83, Tryz.ntmps83
  go_upto_region 3 with (go_at_call 8; refine (sWorldOk_q T P a n c U a' m c' Q _ (h.below hS.bel) (h'.below hS.bel) (by omega) (by omega) _ hok).mono ?_; rintro e w1 ⟨rfl, hb1⟩; have hS1 := hS.on hb1; have c0 := hS1.c0; have c1 := hS1.c1; have c2 := hS1.c2; have c3 := hS1.c3; have z0 := hS1.z0; have z1 := hS1.z1; have z2 := hS1.z2; have z3 := hS1.z3; have nf := hS1.nf; have big := hS1.big)
  clear hS hb1
  have hS := hS1
  clear hS1
  by_cases hTm : 100000 ≤ T
  · clear hok hbods hB hn12 hP hstep
    go_wp2_with (go_at_call 37; refine (l10Copy_any T P a n c U a' m c' Q _ (h.below hS.bel) (h'.below hS.bel) (by omega) (by omega)).mono ?_; rintro e w2 ⟨a1, k1, a2, k2, rfl, hO2⟩; have hS2 := hS.on hO2.bel; clear c0 c1 c2 c3 z0 z1 z2 z3 nf big; have z0 := hS2.z0; have z1 := hS2.z1; have z2 := hS2.z2; have z3 := hS2.z3; have nf := hS2.nf; have big := hS2.big)
    have hlo : w.heap.size + 1 + 1 ≤ w1.heap.size := hS.big
    have o5 := ((((hO2.ob.base hlo).setO (o := 0) (b := w.heap.size + 1) (by omega) (.int .i64 T)).setO (o := 1) (b := w.heap.size + 1) (by omega) (.int .i64 P)).setO (o := 2) (b := w.heap.size + 1) (by omega) (.slice a1 n k1)).setO (o := 3) (b := w.heap.size + 1) (by omega) (.slice a2 m k2)
    have o6 := ((((hO2.op.base hlo).setO (o := 0) (b := w.heap.size + 1) (by omega) (.int .i64 T)).setO (o := 1) (b := w.heap.size + 1) (by omega) (.int .i64 P)).setO (o := 2) (b := w.heap.size + 1) (by omega) (.slice a1 n k1)).setO (o := 3) (b := w.heap.size + 1) (by omega) (.slice a2 m k2)
    have hbw := (((hS2.bel.setCell (p := ⟨w.heap.size + 1, 0, none⟩) (by simp) (.int .i64 T)).setCell (p := ⟨w.heap.size + 1, 1, none⟩) (by simp) (.int .i64 P)).setCell (p := ⟨w.heap.size + 1, 2, none⟩) (by simp) (.slice a1 n k1)).setCell (p := ⟨w.heap.size + 1, 3, none⟩) (by simp) (.slice a2 m k2)
    have hr0 : ((((w2.setCell ⟨w.heap.size + 1, 0, none⟩ (.int .i64 T)).setCell ⟨w.heap.size + 1, 1, none⟩ (.int .i64 P)).setCell ⟨w.heap.size + 1, 2, none⟩ (.slice a1 n k1)).setCell ⟨w.heap.size + 1, 3, none⟩ (.slice a2 m k2)).cell? ⟨w.heap.size + 1, 0, none⟩ = some (.int .i64 T) := by go_simp
    have hr1 : ((((w2.setCell ⟨w.heap.size + 1, 0, none⟩ (.int .i64 T)).setCell ⟨w.heap.size + 1, 1, none⟩ (.int .i64 P)).setCell ⟨w.heap.size + 1, 2, none⟩ (.slice a1 n k1)).setCell ⟨w.heap.size + 1, 3, none⟩ (.slice a2 m k2)).cell? ⟨w.heap.size + 1, 1, none⟩ = some (.int .i64 P) := by go_simp
    have hr2 : ((((w2.setCell ⟨w.heap.size + 1, 0, none⟩ (.int .i64 T)).setCell ⟨w.heap.size + 1, 1, none⟩ (.int .i64 P)).setCell ⟨w.heap.size + 1, 2, none⟩ (.slice a1 n k1)).setCell ⟨w.heap.size + 1, 3, none⟩ (.slice a2 m k2)).cell? ⟨w.heap.size + 1, 2, none⟩ = some (.slice a1 n k1) := by go_simp
    have hr3 : ((((w2.setCell ⟨w.heap.size + 1, 0, none⟩ (.int .i64 T)).setCell ⟨w.heap.size + 1, 1, none⟩ (.int .i64 P)).setCell ⟨w.heap.size + 1, 2, none⟩ (.slice a1 n k1)).setCell ⟨w.heap.size + 1, 3, none⟩ (.slice a2 m k2)).cell? ⟨w.heap.size + 1, 3, none⟩ = some (.slice a2 m k2) := by go_simp
    have hl4 : w.heap.size + 1 < ((((w2.setCell ⟨w.heap.size + 1, 0, none⟩ (.int .i64 T)).setCell ⟨w.heap.size + 1, 1, none⟩ (.int .i64 P)).setCell ⟨w.heap.size + 1, 2, none⟩ (.slice a1 n k1)).setCell ⟨w.heap.size + 1, 3, none⟩ (.slice a2 m k2)).heap.size := by simpa using big
    clear hS hS2 hO2 z0 z1 z2 z3 nf big
    generalize w2.heap.size = eb
    generalize ((((w2.setCell ⟨w.heap.size + 1, 0, none⟩ (.int .i64 T)).setCell ⟨w.heap.size + 1, 1, none⟩ (.int .i64 P)).setCell ⟨w.heap.size + 1, 2, none⟩ (.slice a1 n k1)).setCell ⟨w.heap.size + 1, 3, none⟩ (.slice a2 m k2)) = w8 at o5 o6 hbw hr0 hr1 hr2 hr3 hl4 ⊢
    have hEv : Below w8.heap.size w8 (w8.alloc (.cells #[] 198)) := (Below.refl _ _).alloc (Nat.le_refl _) _
    have o5' := o5.below hEv
    have o6' := o6.below hEv
    have hbw' := hbw.trans (hEv.mono hbw.size)
    have q0 := (hEv.cell (p := ⟨w.heap.size + 1, 0, none⟩) hl4).trans hr0
    have q1 := (hEv.cell (p := ⟨w.heap.size + 1, 1, none⟩) hl4).trans hr1
    have q2 := (hEv.cell (p := ⟨w.heap.size + 1, 2, none⟩) hl4).trans hr2
    have q3 := (hEv.cell (p := ⟨w.heap.size + 1, 3, none⟩) hl4).trans hr3
    clear o5 o6 hbw hr0 hr1 hr2 hr3 hl4 hEv
    generalize w8.alloc (.cells #[] 198) = w9 at o5' o6' hbw' q0 q1 q2 q3 ⊢
    have hm0 : m ≤ m + 144 := Nat.le_add_right _ _
    have hb0 : w.heap.size ≤ w.heap.size + 1 + 1 := by omega
    exact bodyPost_ret (v := .tuple #[worldW T P a1 n k1 a2 m k2, .slice (some ⟨eb, 0, none⟩) 0 0]) (by simp [results, Tryz.results83, go_sem, q0, q1, q2, q3]) rfl ⟨_, _, _, _, _, _, _, _, _, _, _, rfl, ⟨Nat.le_refl _, hm0⟩, hbw', o5'.base hb0, o6'.base hb0, OwnL.neT o5' o6' (by decide)⟩
  · have hw1 : IntKind.i64.wrap (T + 1) = T + 1 := i64w (by omega)
    go_upto_region 5 with fail
    generalize w1 = wx at hS c0 c1 c2 c3 z0 z1 z2 z3 nf big ⊢
    go_cut [4] (fun s4 wc => ∃ (ob : Nat) (a5 : Option Addr) (c5 : Nat), s4 = .pointer (some ⟨ob, 0, none⟩) ∧ w.heap.size + 1 < ob ∧ (∀ b, (Value.slice a5 n c5).ownBlock = some b → b ≠ ob) ∧ Vb wc ob (.int .i64 (T + 1)) (.int .i64 P) (.slice a5 n c5) (.slice none 0 0) ∧ OwnL wc (w.heap.size + 1 + 1) 41 12 (.slice a5 n c5) n (stepU n U P) ∧ Ws w wc T P a n c a' m c')
    case first =>
     refine wp_region_held_drew (S := fun w' => w'.cell? ⟨w.heap.size, 0, none⟩ = some (.int .i64 T) ∧ w'.cell? ⟨w.heap.size, 1, none⟩ = some (.int .i64 P) ∧ w'.cell? ⟨w.heap.size, 2, none⟩ = some (.slice a n c)) (by kernel_rfl) ?_ (fun hHeld => ?_)
     · (try dsimp only)
       (first | (go_simp; done) | (go_keep; done))
     refine tq 0 hHeld ?_
     refine tq 1 hHeld ?_
     refine tq 2 hHeld ?_
     refine tq 3 hHeld ?_
     refine tq 4 hHeld ?_
     refine tq 5 hHeld ?_
     refine tq 6 hHeld ?_
     refine tq 7 hHeld ?_
     refine tq 8 hHeld ?_
     refine wpAnyH_ready (rs := [9, 11]) (by kernel_rfl) (by simp) ?_
     refine AllReadyH.cons rfl (fun K hK => ?_) (AllReadyH.cons rfl (fun K hK => ?_) AllReadyH.nil)
     · (go_simp
        (go_at_call 110; refine (l9Step_any a n c U P _ (h.below hS.bel).drw hB hP).mono ?_; rintro e w5 ⟨a5, c5, rfl, hO5⟩)
        have hO5 : OutL wx w5 41 12 a5 n c5 (stepU n U P) := ⟨hO5.bel.ofDr, hO5.own⟩
        have hS2 := hS.on hO5.bel
        have ho5 := hO5.own.base (show w.heap.size + 1 + 1 ≤ wx.heap.size from hS.big)
        clear c0 c1 c2 c3 z0 z1 z2 z3 nf big hS
        have hS := hS2
        clear hS2
        have c0 := hS.c0
        have c1 := hS.c1
        have c2 := hS.c2
        have c3 := hS.c3
        have z0 := hS.z0
        have z1 := hS.z1
        have z2 := hS.z2
        have z3 := hS.z3
        have nf := hS.nf
        have big := hS.big
        (try go_wp2_with fail)
        refine tr hK (fun hHeld => ?_)
        clear hK K)
       refine tq 10 hHeld ?_
       refine tc 11 fun K hK => ?_
       (go_simp
        have hE : Below w5.heap.size w5 (w5.alloc (Obj.cells #[.int .i64 0, .int .i64 0, .slice none 0 0, .slice none 0 0] 26)) := (Below.refl _ _).alloc (Nat.le_refl _) _
        have hS2 := hS.on hE
        have hV : Vb (w5.alloc (Obj.cells #[.int .i64 0, .int .i64 0, .slice none 0 0, .slice none 0 0] 26)) w5.heap.size (.int .i64 0) (.int .i64 0) (.slice none 0 0) (.slice none 0 0) := ⟨by go_simp, by go_simp, by go_simp, by go_simp, fun o => by go_simp, by simp⟩
        have hob : w.heap.size + 1 < w5.heap.size := hS.big
        have ho52 := ho5.below hE
        have hne5 : ∀ b, (Value.slice a5 n c5).ownBlock = some b → b ≠ w5.heap.size := fun b e => by have := (ho5.lt b e).2; omega
        clear ho5 hO5
        have ho5 := ho52
        clear ho52
        clear hE
        clear c0 c1 c2 c3 z0 z1 z2 z3 nf big hS
        have hS := hS2
        clear hS2
        generalize (w5.alloc (Obj.cells #[.int .i64 0, .int .i64 0, .slice none 0 0, .slice none 0 0] 26)) = w6 at hS hV ho5 ⊢
        generalize w5.heap.size = ob at hV hob hne5 ⊢
        have c0 := hS.c0
        have c1 := hS.c1
        have c2 := hS.c2
        have c3 := hS.c3
        have z0 := hS.z0
        have z1 := hS.z1
        have z2 := hS.z2
        have z3 := hS.z3
        have nf := hS.nf
        have big := hS.big
        have v0 := hV.c0
        have v1 := hV.c1
        have v2 := hV.c2
        have v3 := hV.c3
        have vf := hV.f
        refine tr hK (fun hHeld => ?_)
        clear hK K)
       refine tc 12 fun K hK => ?_
       (go_simp
        have hs : Fr (fun b => b = ob) w6 ((((w6.setCell ⟨ob, 0, none⟩ (.int .i64 (T + 1))).setCell ⟨ob, 1, none⟩ (.int .i64 P)).setCell ⟨ob, 2, none⟩ (.slice a5 n c5)).setCell ⟨ob, 3, none⟩ (.slice none 0 0)) := (((Fr.setCell (X := fun b => b = ob) rfl _).trans (Fr.setCell (X := fun b => b = ob) rfl _)).trans (Fr.setCell (X := fun b => b = ob) rfl _)).trans (Fr.setCell (X := fun b => b = ob) rfl _)
        have hl := hV.l
        have hV2 : Vb ((((w6.setCell ⟨ob, 0, none⟩ (.int .i64 (T + 1))).setCell ⟨ob, 1, none⟩ (.int .i64 P)).setCell ⟨ob, 2, none⟩ (.slice a5 n c5)).setCell ⟨ob, 3, none⟩ (.slice none 0 0)) ob (.int .i64 (T + 1)) (.int .i64 P) (.slice a5 n c5) (.slice none 0 0) := ⟨by go_simp, by go_simp, by go_simp, by go_simp, fun o => by go_simp, by simpa using hl⟩
        have hS2 := hS.fr hs hob
        have ho52 := ho5.frame hs (fun b e x => hne5 b e x)
        clear c0 c1 c2 c3 z0 z1 z2 z3 nf big hS hV v0 v1 v2 v3 vf hs ho5
        have hS := hS2
        have hV := hV2
        have ho5 := ho52
        clear hS2 hV2 ho52
        generalize ((((w6.setCell ⟨ob, 0, none⟩ (.int .i64 (T + 1))).setCell ⟨ob, 1, none⟩ (.int .i64 P)).setCell ⟨ob, 2, none⟩ (.slice a5 n c5)).setCell ⟨ob, 3, none⟩ (.slice none 0 0)) = w7 at hS hV ho5 ⊢
        have c0 := hS.c0
        have c1 := hS.c1
        have c2 := hS.c2
        have c3 := hS.c3
        have z0 := hS.z0
        have z1 := hS.z1
        have z2 := hS.z2
        have z3 := hS.z3
        have nf := hS.nf
        have big := hS.big
        refine tr hK (fun hHeld => ?_)
        clear hK K)
       refine wpAnyH_done (by kernel_rfl) ?_ _
       go_wp2_with fail
       go_meet
       exact ⟨ob, a5, c5, rfl, hob, hne5, hV, ho5, hS⟩
     · (go_simp
        have hE : Below wx.heap.size wx (wx.alloc (Obj.cells #[.int .i64 0, .int .i64 0, .slice none 0 0, .slice none 0 0] 26)).drew := Below.drew ((Below.refl _ _).alloc (Nat.le_refl _) _)
        have hS2 := hS.on hE
        have hV : Vb (wx.alloc (Obj.cells #[.int .i64 0, .int .i64 0, .slice none 0 0, .slice none 0 0] 26)).drew wx.heap.size (.int .i64 0) (.int .i64 0) (.slice none 0 0) (.slice none 0 0) := ⟨by go_simp, by go_simp, by go_simp, by go_simp, fun o => by go_simp, by simp⟩
        have hob : w.heap.size + 1 < wx.heap.size := hS.big
        clear hE
        clear c0 c1 c2 c3 z0 z1 z2 z3 nf big hS
        have hS := hS2
        clear hS2
        generalize (wx.alloc (Obj.cells #[.int .i64 0, .int .i64 0, .slice none 0 0, .slice none 0 0] 26)).drew = w6 at hS hV  ⊢
        generalize wx.heap.size = ob at hV hob  ⊢
        have c0 := hS.c0
        have c1 := hS.c1
        have c2 := hS.c2
        have c3 := hS.c3
        have z0 := hS.z0
        have z1 := hS.z1
        have z2 := hS.z2
        have z3 := hS.z3
        have nf := hS.nf
        have big := hS.big
        have v0 := hV.c0
        have v1 := hV.c1
        have v2 := hV.c2
        have v3 := hV.c3
        have vf := hV.f
        refine tr hK (fun hHeld => ?_)
        clear hK K)
       refine tc 9 fun K hK => ?_
       (go_simp
        (go_at_call 110; refine (l9Step_any a n c U P _ (h.below hS.bel) hB hP).mono ?_; rintro e w5 ⟨a5, c5, rfl, hO5⟩)
        have hS2 := hS.on hO5.bel
        have ho5 := hO5.own.base (show w.heap.size + 1 + 1 ≤ w6.heap.size from hS.big)
        have hV2 := hV.on hO5.bel
        have hne5 : ∀ b, (Value.slice a5 n c5).ownBlock = some b → b ≠ ob := fun b e => by have := (hO5.own.lt b e).1; have := hV.l; omega
        clear hV v0 v1 v2 v3 vf
        have hV := hV2
        clear hV2
        clear c0 c1 c2 c3 z0 z1 z2 z3 nf big hS
        have hS := hS2
        clear hS2
        have c0 := hS.c0
        have c1 := hS.c1
        have c2 := hS.c2
        have c3 := hS.c3
        have z0 := hS.z0
        have z1 := hS.z1
        have z2 := hS.z2
        have z3 := hS.z3
        have nf := hS.nf
        have big := hS.big
        have v0 := hV.c0
        have v1 := hV.c1
        have v2 := hV.c2
        have v3 := hV.c3
        have vf := hV.f
        (try go_wp2_with fail)
        refine tr hK (fun hHeld => ?_)
        clear hK K)
       refine tq 10 hHeld ?_
       refine tc 12 fun K hK => ?_
       (go_simp
        have hs : Fr (fun b => b = ob) w5 ((((w5.setCell ⟨ob, 0, none⟩ (.int .i64 (T + 1))).setCell ⟨ob, 1, none⟩ (.int .i64 P)).setCell ⟨ob, 2, none⟩ (.slice a5 n c5)).setCell ⟨ob, 3, none⟩ (.slice none 0 0)) := (((Fr.setCell (X := fun b => b = ob) rfl _).trans (Fr.setCell (X := fun b => b = ob) rfl _)).trans (Fr.setCell (X := fun b => b = ob) rfl _)).trans (Fr.setCell (X := fun b => b = ob) rfl _)
        have hl := hV.l
        have hV2 : Vb ((((w5.setCell ⟨ob, 0, none⟩ (.int .i64 (T + 1))).setCell ⟨ob, 1, none⟩ (.int .i64 P)).setCell ⟨ob, 2, none⟩ (.slice a5 n c5)).setCell ⟨ob, 3, none⟩ (.slice none 0 0)) ob (.int .i64 (T + 1)) (.int .i64 P) (.slice a5 n c5) (.slice none 0 0) := ⟨by go_simp, by go_simp, by go_simp, by go_simp, fun o => by go_simp, by simpa using hl⟩
        have hS2 := hS.fr hs hob
        have ho52 := ho5.frame hs (fun b e x => hne5 b e x)
        clear c0 c1 c2 c3 z0 z1 z2 z3 nf big hS hV v0 v1 v2 v3 vf hs ho5
        have hS := hS2
        have hV := hV2
        have ho5 := ho52
        clear hS2 hV2 ho52
        generalize ((((w5.setCell ⟨ob, 0, none⟩ (.int .i64 (T + 1))).setCell ⟨ob, 1, none⟩ (.int .i64 P)).setCell ⟨ob, 2, none⟩ (.slice a5 n c5)).setCell ⟨ob, 3, none⟩ (.slice none 0 0)) = w7 at hS hV ho5 ⊢
        have c0 := hS.c0
        have c1 := hS.c1
        have c2 := hS.c2
        have c3 := hS.c3
        have z0 := hS.z0
        have z1 := hS.z1
        have z2 := hS.z2
        have z3 := hS.z3
        have nf := hS.nf
        have big := hS.big
        refine tr hK (fun hHeld => ?_)
        clear hK K)
       refine wpAnyH_done (by kernel_rfl) ?_ _
       go_wp2_with fail
       go_meet
       exact ⟨ob, a5, c5, rfl, hob, hne5, hV, ho5, hS⟩
    case rest =>
    clear c0 c1 c2 c3 z0 z1 z2 z3 nf big hS
    obtain ⟨ob, a5, c5, rfl, hob, hne5, hV, ho5, hS⟩ := hcut
    have c0 := hS.c0
    have c1 := hS.c1
    have c2 := hS.c2
    have c3 := hS.c3
    have z0 := hS.z0
    have z1 := hS.z1
    have z2 := hS.z2
    have z3 := hS.z3
    have nf := hS.nf
    have big := hS.big
    have v0 := hV.c0
    have v1 := hV.c1
    have v2 := hV.c2
    have v3 := hV.c3
    have vf := hV.f
    go_upto_region 6 with fail
    go_cut [] (fun wc => ∃ (a6 : Option Addr) (m6 c6 : Nat), m6 ≤ 144 ∧ Vb wc ob (.int .i64 (T + 1)) (.int .i64 P) (.slice a5 n c5) (.slice a6 m6 c6) ∧ OwnL wc (w.heap.size + 1 + 1) 41 12 (.slice a5 n c5) n (stepU n U P) ∧ OwnL wc (w.heap.size + 1 + 1) 58 2 (.slice a6 m6 c6) m6 (ofL (prL (stepU n U P) (ofL (conL (colOf (stepU n U P)) n)) m6)) ∧ Ws w wc T P a n c a' m c')
    case first =>
     go_wp2_with (go_at_call 111; refine (l9Pairs_any a5 n c5 (stepU n U P) _ ho5.flat hstep).mono ?_; rintro e w6 ⟨a6, m6, c6, rfl, ⟨hm6, hl6⟩, hO6⟩; clear hl6; have hV6 := hV.on hO6.bel; have vv0 := hV6.c0; have vv1 := hV6.c1; have vv2 := hV6.c2; have vv3 := hV6.c3; have vvf := hV6.f)
     go_meet
     have hs : Fr (fun b => b = ob) w6 (w6.setCell ⟨ob, 3, none⟩ (.slice a6 m6 c6)) := Fr.setCell (X := fun b => b = ob) rfl _
     have hl := hV6.l
     have hlo := hV.l
     exact ⟨a6, m6, c6, hm6, ⟨by go_simp, by go_simp, by go_simp, by go_simp, fun o => by go_simp, by simpa using hl⟩, (ho5.below hO6.bel).frame hs (fun b e x => hne5 b e x), (hO6.own.base (show w.heap.size + 1 + 1 ≤ wc.heap.size from hS.big)).frame hs (fun b e x => by have := (hO6.own.lt b e).1; omega), (hS.on hO6.bel).fr hs hob⟩
    case rest =>
    clear c0 c1 c2 c3 z0 z1 z2 z3 nf big hS hV ho5 v0 v1 v2 v3 vf
    obtain ⟨a6, m6, c6, hm6, hV, ho5, ho6, hS⟩ := hcut
    have c0 := hS.c0
    have c1 := hS.c1
    have c2 := hS.c2
    have c3 := hS.c3
    have z0 := hS.z0
    have z1 := hS.z1
    have z2 := hS.z2
    have z3 := hS.z3
    have nf := hS.nf
    have big := hS.big
    have v0 := hV.c0
    have v1 := hV.c1
    have v2 := hV.c2
    have v3 := hV.c3
    have vf := hV.f
    have hE : We w wc ob (.int .i64 (T + 1)) (.int .i64 P) (.slice a5 n c5) (.slice a6 m6 c6) (.int .i64 0) (.int .i64 0) (.slice none 0 0) (.slice none 0 0) (.slice a' m c') n m6 (stepU n U P) _ := ⟨hS.bel, hS.c3, hV, ⟨hS.z0, hS.z1, hS.z2, hS.z3, hS.nf, hS.big⟩, ho5, ho6⟩
    generalize ofL (prL (stepU n U P) (ofL (conL (colOf (stepU n U P)) n)) m6) = Q6 at hE
    clear c0 c1 c2 z0 z1 z2 z3 nf big hS hV ho5 ho6 hok hbods hT hP hstep hne5
    have z0 := hE.r.c0
    have z1 := hE.r.c1
    have z2 := hE.r.c2
    have z3 := hE.r.c3
    have nf := hE.r.f
    go_upto_region 7 with fail
    refine wp_region_held_drew (S := fun w' => w'.cell? ⟨ob, 0, none⟩ = some (.int .i64 (T + 1)) ∧ w'.cell? ⟨ob, 1, none⟩ = some (.int .i64 P) ∧ w'.cell? ⟨ob, 2, none⟩ = some (.slice a5 n c5) ∧ w'.cell? ⟨ob, 3, none⟩ = some (.slice a6 m6 c6) ∧ w'.cell? ⟨w.heap.size, 3, none⟩ = some (.slice a' m c')) (by kernel_rfl) ?_ (fun hHeld => ?_)
    · (try dsimp only)
      (first | (go_simp; done) | (go_keep; done))
    refine tq 0 hHeld ?_
    refine tq 1 hHeld ?_
    refine tq 2 hHeld ?_
    refine tq 3 hHeld ?_
    refine tq 4 hHeld ?_
    refine tc 5 fun K hK => ?_
    (go_simp
     (go_at_call 112; refine (l10Events_w a' m c' Q a6 m6 c6 _ _ (h'.below hE.bel).drw hE.o6.flat.drw (by omega) (by omega)).mono ?_; rintro e w8 ⟨a8, m8, c8, rfl, hm8, hb8⟩)
     have hb8 := hb8.ofDr
     have hE2 := hE.on hb8
     clear v0 v1 v2 v3 vf z0 z1 z2 z3 nf c3 hE hb8
     have hE := hE2
     clear hE2
     have v0 := hE.x.c0
     have v1 := hE.x.c1
     have v2 := hE.x.c2
     have v3 := hE.x.c3
     have vf := hE.x.f
     have z0 := hE.r.c0
     have z1 := hE.r.c1
     have z2 := hE.r.c2
     have z3 := hE.r.c3
     have nf := hE.r.f
     have c3 := hE.c3
     (try go_wp2_with fail)
     refine tr hK (fun hHeld => ?_)
     clear hK K)
    refine tc 6 fun K hK => ?_
    (go_simp
     have hE2 := hE.put hob
     clear v0 v1 v2 v3 vf z0 z1 z2 z3 nf c3 hE
     have hE := hE2
     clear hE2
     generalize ((((w8.setCell ⟨w.heap.size + 1, 0, none⟩ (.int .i64 (T + 1))).setCell ⟨w.heap.size + 1, 1, none⟩ (.int .i64 P)).setCell ⟨w.heap.size + 1, 2, none⟩ (.slice a5 n c5)).setCell ⟨w.heap.size + 1, 3, none⟩ (.slice a6 m6 c6)) = w9 at hE ⊢
     have v0 := hE.x.c0
     have v1 := hE.x.c1
     have v2 := hE.x.c2
     have v3 := hE.x.c3
     have vf := hE.x.f
     have z0 := hE.r.c0
     have z1 := hE.r.c1
     have z2 := hE.r.c2
     have z3 := hE.r.c3
     have nf := hE.r.f
     have c3 := hE.c3
     refine tr hK (fun hHeld => ?_)
     clear hK K)
    refine tq 7 hHeld ?_
    refine wpAnyH_done (by kernel_rfl) ?_ _
    go_wp2_with fail
    have hlo := hE.r.l
    exact bodyPost_ret (v := .tuple #[worldW (T + 1) P a5 n c5 a6 m6 c6, .slice a8 m8 c8]) (by simp [results, Tryz.results83, go_sem, z0, z1, z2, z3]) rfl ⟨_, _, _, _, _, _, _, _, _, _, _, rfl, ⟨Nat.le_refl _, by omega⟩, hE.bel, hE.o5.base (by omega), hE.o6.base (by omega), OwnL.neT hE.o5 hE.o6 (by decide)⟩
end Go.Proofs.YthijeiehcdoidaaGreat
