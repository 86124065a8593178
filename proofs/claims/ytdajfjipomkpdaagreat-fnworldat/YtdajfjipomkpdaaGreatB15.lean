/- Texts of a proof. -/
import Derived.Test.YtdajfjipomkpdaaGreatB2
import Derived.Test.YtdajfjipomkpdaaGreatB8
import Derived.Test.YtdajfjipomkpdaaGreatB13
import Derived.Test.YtdajfjipomkpdaaGreatB14
import Derived.Deep.RegionHeld3
import Derived.Deep.DeepCutAuto
import Derived.Test.YtdajfjipomkpdaaGreatB1
import Derived.Deep.QuietTactic
import Derived.BigQuiet
import Derived.OpenShut
import Derived.Test.YtdajfjipomkpdaaGreatB3
import Derived.OrdersHeld
namespace Go.Proofs.YtdajfjipomkpdaaGreat
open Go.RowKit
set_option linter.unusedVariables false
set_option linter.unusedSimpArgs false
structure Ws (w wr : World) (T P : Int) (a : Option Addr) (n c : Nat) (a' : Option Addr) (m c' : Nat) : Prop where
  bel : Below w.heap.size w wr
  c0 : wr.cell? ⟨w.heap.size, 0, none⟩ = some (.int .i64 T)
  c1 : wr.cell? ⟨w.heap.size, 1, none⟩ = some (.int .i64 P)
  c2 : wr.cell? ⟨w.heap.size, 2, none⟩ = some (.slice a n c)
  c3 : wr.cell? ⟨w.heap.size, 3, none⟩ = some (.slice a' m c')
  z0 : wr.cell? ⟨w.heap.size + 1, 0, none⟩ = some (.int .i64 0)
  z1 : wr.cell? ⟨w.heap.size + 1, 1, none⟩ = some (.int .i64 0)
  z2 : wr.cell? ⟨w.heap.size + 1, 2, none⟩ = some (.slice none 0 0)
  z3 : wr.cell? ⟨w.heap.size + 1, 3, none⟩ = some (.slice none 0 0)
  nf : ∀ o, wr.frozen? ⟨w.heap.size + 1, o, none⟩ = false
  big : w.heap.size + 1 < wr.heap.size
theorem Ws.mv {w wr w' : World} {T P : Int} {a a' : Option Addr} {n c m c' : Nat} (h : Ws w wr T P a n c a' m c') (hb : Below w.heap.size w w') (hs : wr.heap.size ≤ w'.heap.size) (hc : ∀ b o, b ≤ w.heap.size + 1 → w.heap.size ≤ b → w'.cell? ⟨b, o, none⟩ = wr.cell? ⟨b, o, none⟩) (hf : ∀ o, w'.frozen? ⟨w.heap.size + 1, o, none⟩ = wr.frozen? ⟨w.heap.size + 1, o, none⟩) : Ws w w' T P a n c a' m c' :=
  have k := fun o => hc w.heap.size o (by omega) (Nat.le_refl _)
  have l := fun o => hc (w.heap.size + 1) o (Nat.le_refl _) (by omega)
  ⟨hb, (k 0).trans h.c0, (k 1).trans h.c1, (k 2).trans h.c2, (k 3).trans h.c3, (l 0).trans h.z0, (l 1).trans h.z1, (l 2).trans h.z2, (l 3).trans h.z3, fun o => (hf o).trans (h.nf o), Nat.lt_of_lt_of_le h.big hs⟩
theorem Ws.on {w wr w' : World} {T P : Int} {a a' : Option Addr} {n c m c' : Nat} (h : Ws w wr T P a n c a' m c') (hb : Below wr.heap.size wr w') : Ws w w' T P a n c a' m c' := by
  have hg := h.big
  exact h.mv (h.bel.trans (hb.mono h.bel.size)) hb.size (fun b o h1 _ => hb.cell (p := ⟨b, o, none⟩) (by show b < _; omega)) (fun o => hb.frozen (p := ⟨w.heap.size + 1, o, none⟩) hg)
theorem Ws.fr {w wr w' : World} {T P : Int} {a a' : Option Addr} {n c m c' : Nat} {ob : Nat} (h : Ws w wr T P a n c a' m c') (hs : Fr (fun b => b = ob) wr w') (ho : w.heap.size + 1 < ob) : Ws w w' T P a n c a' m c' := by
  have hg := h.big
  exact h.mv (h.bel.trans (hs.below h.bel.size (fun k e => by omega))) hs.size (fun b o h1 _ => hs.cell (p := ⟨b, o, none⟩) (by show b < _; omega) (by show ¬ b = ob; omega)) (fun o => hs.frozen (p := ⟨w.heap.size + 1, o, none⟩) hg (by show ¬ w.heap.size + 1 = ob; omega))
theorem Ws.start (w : World) (T P : Int) (a : Option Addr) (n c : Nat) (a' : Option Addr) (m c' : Nat) : Ws w ((w.alloc (Obj.cells #[.int .i64 T, .int .i64 P, .slice a n c, .slice a' m c'] 26)).alloc (Obj.cells #[.int .i64 0, .int .i64 0, .slice none 0 0, .slice none 0 0] 26)) T P a n c a' m c' :=
  ⟨((Below.refl _ _).alloc (Nat.le_refl _) _).alloc (by simp) _, by go_simp, by go_simp, by go_simp, by go_simp, by go_simp, by go_simp, by go_simp, by go_simp, fun o => by go_simp, by simp⟩
theorem Flat.drw {w : World} {a : Option Addr} {m : Nat} {U : Nat → Int} (h : Flat w a m U) : Flat w.drew a m U := h
structure Vb (w : World) (b : Nat) (v0 v1 v2 v3 : Value) : Prop where
  c0 : w.cell? ⟨b, 0, none⟩ = some v0
  c1 : w.cell? ⟨b, 1, none⟩ = some v1
  c2 : w.cell? ⟨b, 2, none⟩ = some v2
  c3 : w.cell? ⟨b, 3, none⟩ = some v3
  f : ∀ o, w.frozen? ⟨b, o, none⟩ = false
  l : b < w.heap.size
theorem Vb.on {w w' : World} {b : Nat} {v0 v1 v2 v3 : Value} (h : Vb w b v0 v1 v2 v3) (hb : Below w.heap.size w w') : Vb w' b v0 v1 v2 v3 :=
  have k := fun o => hb.cell (p := ⟨b, o, none⟩) h.l
  ⟨(k 0).trans h.c0, (k 1).trans h.c1, (k 2).trans h.c2, (k 3).trans h.c3, fun o => (hb.frozen (p := ⟨b, o, none⟩) h.l).trans (h.f o), Nat.lt_of_lt_of_le h.l hb.size⟩
structure We (w wr : World) (ob : Nat) (x0 x1 x2 x3 r0 r1 r2 r3 z : Value) (n m : Nat) (U Q : Nat → Int) : Prop where
  bel : Below w.heap.size w wr
  c3 : wr.cell? ⟨w.heap.size, 3, none⟩ = some z
  x : Vb wr ob x0 x1 x2 x3
  r : Vb wr (w.heap.size + 1) r0 r1 r2 r3
  o5 : OwnL wr (w.heap.size + 1 + 1) 43 12 x2 n U
  o6 : OwnL wr (w.heap.size + 1 + 1) 59 2 x3 m Q
theorem We.on {w wr w' : World} {ob n m : Nat} {x0 x1 x2 x3 r0 r1 r2 r3 z : Value} {U Q : Nat → Int} (h : We w wr ob x0 x1 x2 x3 r0 r1 r2 r3 z n m U Q) (hb : Below wr.heap.size wr w') : We w w' ob x0 x1 x2 x3 r0 r1 r2 r3 z n m U Q :=
  have hl := h.r.l
  ⟨h.bel.trans (hb.mono h.bel.size), (hb.cell (p := ⟨w.heap.size, 3, none⟩) (by show w.heap.size < _; omega)).trans h.c3, h.x.on hb, h.r.on hb, h.o5.below hb, h.o6.below hb⟩
theorem We.drew {w wr : World} {ob n m : Nat} {x0 x1 x2 x3 r0 r1 r2 r3 z : Value} {U Q : Nat → Int} (h : We w wr ob x0 x1 x2 x3 r0 r1 r2 r3 z n m U Q) : We w wr.drew ob x0 x1 x2 x3 r0 r1 r2 r3 z n m U Q := h.on (Below.drew (Below.refl _ _))
theorem We.put {w wr : World} {ob n m : Nat} {x0 x1 x2 x3 r0 r1 r2 r3 z : Value} {U Q : Nat → Int} (h : We w wr ob x0 x1 x2 x3 r0 r1 r2 r3 z n m U Q) (hob : w.heap.size + 1 < ob) : We w ((((wr.setCell ⟨w.heap.size + 1, 0, none⟩ x0).setCell ⟨w.heap.size + 1, 1, none⟩ x1).setCell ⟨w.heap.size + 1, 2, none⟩ x2).setCell ⟨w.heap.size + 1, 3, none⟩ x3) ob x0 x1 x2 x3 x0 x1 x2 x3 z n m U Q := by
  obtain ⟨hb, c3, ⟨v0, v1, v2, v3, vf, vl⟩, ⟨z0, z1, z2, z3, zf, zl⟩, o5, o6⟩ := h
  have hset := cset_map
  have n1 : ¬ w.heap.size + 1 = ob := by omega
  have n2 : ¬ ob = w.heap.size + 1 := by omega
  have n3 : ¬ w.heap.size = w.heap.size + 1 := by omega
  have n4 : ¬ w.heap.size + 1 = w.heap.size := by omega
  exact ⟨(((hb.setCell (p := ⟨w.heap.size + 1, 0, none⟩) (by simp) x0).setCell (p := ⟨w.heap.size + 1, 1, none⟩) (by simp) x1).setCell (p := ⟨w.heap.size + 1, 2, none⟩) (by simp) x2).setCell (p := ⟨w.heap.size + 1, 3, none⟩) (by simp) x3,
    by go_simp, ⟨by go_simp, by go_simp, by go_simp, by go_simp, fun o => by go_simp, by simpa using vl⟩, ⟨by go_simp, by go_simp, by go_simp, by go_simp, fun o => by go_simp, by simpa using zl⟩,
    (((o5.setO (o := 0) (b := w.heap.size + 1) (by omega) x0).setO (o := 1) (by omega) x1).setO (o := 2) (by omega) x2).setO (o := 3) (by omega) x3,
    (((o6.setO (o := 0) (b := w.heap.size + 1) (by omega) x0).setO (o := 1) (by omega) x1).setO (o := 2) (by omega) x2).setO (o := 3) (by omega) x3⟩
set_option maxRecDepth 20000 in
set_option maxHeartbeats 8000000 in
theorem sWorldStep_w (T P : Int) (a : Option Addr) (n c : Nat) (a' : Option Addr) (m c' : Nat) (U Q : Nat → Int) (w : World) (h : Flat w a (n * 12) U) (h' : Flat w a' (m * 2) Q) (hn : n ≤ 1000) (hm : m ≤ 800) :
    Calls Tryz.prog 66 #[worldW T P a n c a' m c'] w fun e w' => ∃ (T1 P1 : Int) (a1 : Option Addr) (n1 c1 : Nat) (U1 : Nat → Int) (a2 : Option Addr) (m1 c2 : Nat) (Q1 : Nat → Int) (ev : Value), e = .returned (.tuple #[worldW T1 P1 a1 n1 c1 a2 m1 c2, ev]) ∧ (n1 ≤ n ∧ m1 ≤ m + 144) ∧ OutW w w' a1 n1 c1 U1 a2 m1 c2 Q1 := by
  have hset := cset_map
  have hS := Ws.start w T P a n c a' m c'
  cases hok : worldB T P n U m Q with
  | false =>
    go_enter Tryz.func66, Tryz.ntmps66
    go_wp2_with (go_at_call 9; refine (sWorldOk_q T P a n c U a' m c' Q _ (h.below hS.bel) (h'.below hS.bel) (by omega) (by omega) _ hok).mono ?_; rintro e w1 ⟨rfl, hb1⟩; have hS1 := hS.on hb1; have c0 := hS1.c0; have c1 := hS1.c1; have c2 := hS1.c2; have c3 := hS1.c3; have z0 := hS1.z0; have z1 := hS1.z1; have z2 := hS1.z2; have z3 := hS1.z3; have nf := hS1.nf; have big := hS1.big)
    have hbw := (((((hS1.bel.alloc hS1.bel.size (.cells #[] 133)).setCell (p := ⟨w.heap.size + 1, 0, none⟩) (by simp) (.int .i64 0)).setCell (p := ⟨w.heap.size + 1, 1, none⟩) (by simp) (.int .i64 0)).setCell (p := ⟨w.heap.size + 1, 2, none⟩) (by simp) (.slice none 0 0)).setCell (p := ⟨w.heap.size + 1, 3, none⟩) (by simp) (.slice none 0 0))
    exact bodyPost_ret (v := .tuple #[worldW 0 0 none 0 0 none 0 0, .slice (some ⟨w1.heap.size, 0, none⟩) 0 0]) (by simp [results, Tryz.results66, go_sem, *]) rfl ⟨0, 0, none, 0, 0, (fun _ => 0), none, 0, 0, (fun _ => 0), _, rfl, ⟨by omega, by omega⟩, by first | exact hbw | exact bel_a, OwnL.nil _ _ _ _ _, OwnL.nil _ _ _ _ _, fun b e => by simp [Value.ownBlock] at e⟩
  | true =>
    have hbods : bodsB n U = true := by have q := hok; unfold worldB at q; simp only [Bool.and_eq_true] at q; exact q.2.2.1
    have hB := Bods.of hbods
    have hn12 := hB.le
    have hTP : (0 ≤ T ∧ T ≤ 100000) ∧ (0 ≤ P ∧ P ≤ 2560) := by unfold worldB at hok; simp only [Bool.and_eq_true, decide_eq_true_eq] at hok; exact ⟨hok.1, hok.2.1⟩
    obtain ⟨hT, hP⟩ := hTP
    have hstep := (hB.steps P).2.2.2.2.2.2.1
    go_enter Tryz.func66, Tryz.ntmps66
    go_upto_region 3 with (go_at_call 9; refine (sWorldOk_q T P a n c U a' m c' Q _ (h.below hS.bel) (h'.below hS.bel) (by omega) (by omega) _ hok).mono ?_; rintro e w1 ⟨rfl, hb1⟩; have hS1 := hS.on hb1; have c0 := hS1.c0; have c1 := hS1.c1; have c2 := hS1.c2; have c3 := hS1.c3; have z0 := hS1.z0; have z1 := hS1.z1; have z2 := hS1.z2; have z3 := hS1.z3; have nf := hS1.nf; have big := hS1.big)
    clear hS hb1
    have hS := hS1
    clear hS1
    by_cases hTm : 100000 ≤ T
    · clear hok hbods hB hn12 hP hstep
      go_wp2_with (go_at_call 45; refine (l10Copy_any T P a n c U a' m c' Q _ (h.below hS.bel) (h'.below hS.bel) (by omega) (by omega)).mono ?_; rintro e w2 ⟨a1, k1, a2, k2, rfl, hO2⟩; have hS2 := hS.on hO2.bel; clear c0 c1 c2 c3 z0 z1 z2 z3 nf big; have z0 := hS2.z0; have z1 := hS2.z1; have z2 := hS2.z2; have z3 := hS2.z3; have nf := hS2.nf; have big := hS2.big)
      have hlo : w.heap.size + 1 + 1 ≤ w1.heap.size := hS.big
      have o5 := ((((hO2.ob.base hlo).setO (o := 0) (b := w.heap.size + 1) (by omega) (.int .i64 T)).setO (o := 1) (b := w.heap.size + 1) (by omega) (.int .i64 P)).setO (o := 2) (b := w.heap.size + 1) (by omega) (.slice a1 n k1)).setO (o := 3) (b := w.heap.size + 1) (by omega) (.slice a2 m k2)
      have o6 := ((((hO2.op.base hlo).setO (o := 0) (b := w.heap.size + 1) (by omega) (.int .i64 T)).setO (o := 1) (b := w.heap.size + 1) (by omega) (.int .i64 P)).setO (o := 2) (b := w.heap.size + 1) (by omega) (.slice a1 n k1)).setO (o := 3) (b := w.heap.size + 1) (by omega) (.slice a2 m k2)
      have hbw := (((hS2.bel.setCell (p := ⟨w.heap.size + 1, 0, none⟩) (by simp) (.int .i64 T)).setCell (p := ⟨w.heap.size + 1, 1, none⟩) (by simp) (.int .i64 P)).setCell (p := ⟨w.heap.size + 1, 2, none⟩) (by simp) (.slice a1 n k1)).setCell (p := ⟨w.heap.size + 1, 3, none⟩) (by simp) (.slice a2 m k2)
      have hr0 : ((((w2.setCell ⟨w.heap.size + 1, 0, none⟩ (.int .i64 T)).setCell ⟨w.heap.size + 1, 1, none⟩ (.int .i64 P)).setCell ⟨w.heap.size + 1, 2, none⟩ (.slice a1 n k1)).setCell ⟨w.heap.size + 1, 3, none⟩ (.slice a2 m k2)).cell? ⟨w.heap.size + 1, 0, none⟩ = some (.int .i64 T) := by go_simp
      have hr1 : ((((w2.setCell ⟨w.heap.size + 1, 0, none⟩ (.int .i64 T)).setCell ⟨w.heap.size + 1, 1, none⟩ (.int .i64 P)).setCell ⟨w.heap.size + 1, 2, none⟩ (.slice a1 n k1)).setCell ⟨w.heap.size + 1, 3, none⟩ (.slice a2 m k2)).cell? ⟨w.heap.size + 1, 1, none⟩ = some (.int .i64 P) := by go_simp
      have hr2 : ((((w2.setCell ⟨w.heap.size + 1, 0, none⟩ (.int .i64 T)).setCell ⟨w.heap.size + 1, 1, none⟩ (.int .i64 P)).setCell ⟨w.heap.size + 1, 2, none⟩ (.slice a1 n k1)).setCell ⟨w.heap.size + 1, 3, none⟩ (.slice a2 m k2)).cell? ⟨w.heap.size + 1, 2, none⟩ = some (.slice a1 n k1) := by go_simp
      have hr3 : ((((w2.setCell ⟨w.heap.size + 1, 0, none⟩ (.int .i64 T)).setCell ⟨w.heap.size + 1, 1, none⟩ (.int .i64 P)).setCell ⟨w.heap.size + 1, 2, none⟩ (.slice a1 n k1)).setCell ⟨w.heap.size + 1, 3, none⟩ (.slice a2 m k2)).cell? ⟨w.heap.size + 1, 3, none⟩ = some (.slice a2 m k2) := by go_simp
      have hl4 : w.heap.size + 1 < ((((w2.setCell ⟨w.heap.size + 1, 0, none⟩ (.int .i64 T)).setCell ⟨w.heap.size + 1, 1, none⟩ (.int .i64 P)).setCell ⟨w.heap.size + 1, 2, none⟩ (.slice a1 n k1)).setCell ⟨w.heap.size + 1, 3, none⟩ (.slice a2 m k2)).heap.size := by simpa using big
      clear hS hS2 hO2 z0 z1 z2 z3 nf big
      generalize w2.heap.size = eb
      generalize ((((w2.setCell ⟨w.heap.size + 1, 0, none⟩ (.int .i64 T)).setCell ⟨w.heap.size + 1, 1, none⟩ (.int .i64 P)).setCell ⟨w.heap.size + 1, 2, none⟩ (.slice a1 n k1)).setCell ⟨w.heap.size + 1, 3, none⟩ (.slice a2 m k2)) = w8 at o5 o6 hbw hr0 hr1 hr2 hr3 hl4 ⊢
      have hEv : Below w8.heap.size w8 (w8.alloc (.cells #[] 133)) := (Below.refl _ _).alloc (Nat.le_refl _) _
      have o5' := o5.below hEv
      have o6' := o6.below hEv
      have hbw' := hbw.trans (hEv.mono hbw.size)
      have q0 := (hEv.cell (p := ⟨w.heap.size + 1, 0, none⟩) hl4).trans hr0
      have q1 := (hEv.cell (p := ⟨w.heap.size + 1, 1, none⟩) hl4).trans hr1
      have q2 := (hEv.cell (p := ⟨w.heap.size + 1, 2, none⟩) hl4).trans hr2
      have q3 := (hEv.cell (p := ⟨w.heap.size + 1, 3, none⟩) hl4).trans hr3
      clear o5 o6 hbw hr0 hr1 hr2 hr3 hl4 hEv
      generalize w8.alloc (.cells #[] 133) = w9 at o5' o6' hbw' q0 q1 q2 q3 ⊢
      have hm0 : m ≤ m + 144 := Nat.le_add_right _ _
      have hb0 : w.heap.size ≤ w.heap.size + 1 + 1 := by omega
      exact bodyPost_ret (v := .tuple #[worldW T P a1 n k1 a2 m k2, .slice (some ⟨eb, 0, none⟩) 0 0]) (by simp [results, Tryz.results66, go_sem, q0, q1, q2, q3]) rfl ⟨_, _, _, _, _, _, _, _, _, _, _, rfl, ⟨Nat.le_refl _, hm0⟩, hbw', o5'.base hb0, o6'.base hb0, OwnL.neT o5' o6' (by decide)⟩
    · have hw1 : IntKind.i64.wrap (T + 1) = T + 1 := i64w (by omega)
      go_upto_region 5 with fail
      generalize w1 = wx at hS c0 c1 c2 c3 z0 z1 z2 z3 nf big ⊢
      go_cut [4] (fun s4 wc => ∃ (ob : Nat) (a5 : Option Addr) (c5 : Nat), s4 = .pointer (some ⟨ob, 0, none⟩) ∧ w.heap.size + 1 < ob ∧ (∀ b, (Value.slice a5 n c5).ownBlock = some b → b ≠ ob) ∧ Vb wc ob (.int .i64 (T + 1)) (.int .i64 P) (.slice a5 n c5) (.slice none 0 0) ∧ OwnL wc (w.heap.size + 1 + 1) 43 12 (.slice a5 n c5) n (stepU n U P) ∧ Ws w wc T P a n c a' m c')
      case first =>
        refine wp_region_held_drew (S := fun w' => w'.cell? ⟨w.heap.size, 0, none⟩ = some (.int .i64 T) ∧ w'.cell? ⟨w.heap.size, 1, none⟩ = some (.int .i64 P) ∧ w'.cell? ⟨w.heap.size, 2, none⟩ = some (.slice a n c)) (by kernel_rfl) ?_ (fun hHeld => ?_)
        · (try dsimp only)
          (first | (go_simp; done) | (go_keep; done))
        refine tq 0 hHeld ?_
        refine tq 1 hHeld ?_
        refine tq 2 hHeld ?_
        refine tq 3 hHeld ?_
        refine tq 4 hHeld ?_
        refine tq 5 hHeld ?_
        refine tq 6 hHeld ?_
        refine tq 7 hHeld ?_
        refine tq 8 hHeld ?_
        refine wpAnyH_ready (rs := [9, 11]) (by kernel_rfl) (by simp) ?_
        refine AllReadyH.cons rfl (fun K hK => ?_) (AllReadyH.cons rfl (fun K hK => ?_) AllReadyH.nil)
        · (go_simp
           (go_at_call 75; refine (l9Step_any a n c U P _ (h.below hS.bel).drw hB hP).mono ?_; rintro e w5 ⟨a5, c5, rfl, hO5⟩)
           have hO5 : OutL wx w5 43 12 a5 n c5 (stepU n U P) := ⟨hO5.bel.ofDr, hO5.own⟩
           have hS2 := hS.on hO5.bel
           have ho5 := hO5.own.base (show w.heap.size + 1 + 1 ≤ wx.heap.size from hS.big)
           clear c0 c1 c2 c3 z0 z1 z2 z3 nf big hS
           have hS := hS2
           clear hS2
           have c0 := hS.c0
           have c1 := hS.c1
           have c2 := hS.c2
           have c3 := hS.c3
           have z0 := hS.z0
           have z1 := hS.z1
           have z2 := hS.z2
           have z3 := hS.z3
           have nf := hS.nf
           have big := hS.big
           (try go_wp2_with fail)
           refine tr hK (fun hHeld => ?_)
           clear hK K)
          refine tq 10 hHeld ?_
          refine tc 11 fun K hK => ?_
          (go_simp
           have hE : Below w5.heap.size w5 (w5.alloc (Obj.cells #[.int .i64 0, .int .i64 0, .slice none 0 0, .slice none 0 0] 26)) := (Below.refl _ _).alloc (Nat.le_refl _) _
           have hS2 := hS.on hE
           have hV : Vb (w5.alloc (Obj.cells #[.int .i64 0, .int .i64 0, .slice none 0 0, .slice none 0 0] 26)) w5.heap.size (.int .i64 0) (.int .i64 0) (.slice none 0 0) (.slice none 0 0) := ⟨by go_simp, by go_simp, by go_simp, by go_simp, fun o => by go_simp, by simp⟩
           have hob : w.heap.size + 1 < w5.heap.size := hS.big
           have ho52 := ho5.below hE
           have hne5 : ∀ b, (Value.slice a5 n c5).ownBlock = some b → b ≠ w5.heap.size := fun b e => by have := (ho5.lt b e).2; omega
           clear ho5 hO5
           have ho5 := ho52
           clear ho52
           clear hE
           clear c0 c1 c2 c3 z0 z1 z2 z3 nf big hS
           have hS := hS2
           clear hS2
           generalize (w5.alloc (Obj.cells #[.int .i64 0, .int .i64 0, .slice none 0 0, .slice none 0 0] 26)) = w6 at hS hV ho5 ⊢
           generalize w5.heap.size = ob at hV hob hne5 ⊢
           have c0 := hS.c0
           have c1 := hS.c1
           have c2 := hS.c2
           have c3 := hS.c3
           have z0 := hS.z0
           have z1 := hS.z1
           have z2 := hS.z2
           have z3 := hS.z3
           have nf := hS.nf
           have big := hS.big
           have v0 := hV.c0
           have v1 := hV.c1
           have v2 := hV.c2
           have v3 := hV.c3
           have vf := hV.f
           refine tr hK (fun hHeld => ?_)
           clear hK K)
          refine tc 12 fun K hK => ?_
          (go_simp
           have hs : Fr (fun b => b = ob) w6 ((((w6.setCell ⟨ob, 0, none⟩ (.int .i64 (T + 1))).setCell ⟨ob, 1, none⟩ (.int .i64 P)).setCell ⟨ob, 2, none⟩ (.slice a5 n c5)).setCell ⟨ob, 3, none⟩ (.slice none 0 0)) := (((Fr.setCell (X := fun b => b = ob) rfl _).trans (Fr.setCell (X := fun b => b = ob) rfl _)).trans (Fr.setCell (X := fun b => b = ob) rfl _)).trans (Fr.setCell (X := fun b => b = ob) rfl _)
           have hl := hV.l
           have hV2 : Vb ((((w6.setCell ⟨ob, 0, none⟩ (.int .i64 (T + 1))).setCell ⟨ob, 1, none⟩ (.int .i64 P)).setCell ⟨ob, 2, none⟩ (.slice a5 n c5)).setCell ⟨ob, 3, none⟩ (.slice none 0 0)) ob (.int .i64 (T + 1)) (.int .i64 P) (.slice a5 n c5) (.slice none 0 0) := ⟨by go_simp, by go_simp, by go_simp, by go_simp, fun o => by go_simp, by simpa using hl⟩
           have hS2 := hS.fr hs hob
           have ho52 := ho5.frame hs (fun b e x => hne5 b e x)
           clear c0 c1 c2 c3 z0 z1 z2 z3 nf big hS hV v0 v1 v2 v3 vf hs ho5
           have hS := hS2
           have hV := hV2
           have ho5 := ho52
           clear hS2 hV2 ho52
           generalize ((((w6.setCell ⟨ob, 0, none⟩ (.int .i64 (T + 1))).setCell ⟨ob, 1, none⟩ (.int .i64 P)).setCell ⟨ob, 2, none⟩ (.slice a5 n c5)).setCell ⟨ob, 3, none⟩ (.slice none 0 0)) = w7 at hS hV ho5 ⊢
           have c0 := hS.c0
           have c1 := hS.c1
           have c2 := hS.c2
           have c3 := hS.c3
           have z0 := hS.z0
           have z1 := hS.z1
           have z2 := hS.z2
           have z3 := hS.z3
           have nf := hS.nf
           have big := hS.big
           refine tr hK (fun hHeld => ?_)
           clear hK K)
          refine wpAnyH_done (by kernel_rfl) ?_ _
          go_wp2_with fail
          go_meet
          exact ⟨ob, a5, c5, rfl, hob, hne5, hV, ho5, hS⟩
        · (go_simp
           have hE : Below wx.heap.size wx (wx.alloc (Obj.cells #[.int .i64 0, .int .i64 0, .slice none 0 0, .slice none 0 0] 26)).drew := Below.drew ((Below.refl _ _).alloc (Nat.le_refl _) _)
           have hS2 := hS.on hE
           have hV : Vb (wx.alloc (Obj.cells #[.int .i64 0, .int .i64 0, .slice none 0 0, .slice none 0 0] 26)).drew wx.heap.size (.int .i64 0) (.int .i64 0) (.slice none 0 0) (.slice none 0 0) := ⟨by go_simp, by go_simp, by go_simp, by go_simp, fun o => by go_simp, by simp⟩
           have hob : w.heap.size + 1 < wx.heap.size := hS.big
           clear hE
           clear c0 c1 c2 c3 z0 z1 z2 z3 nf big hS
           have hS := hS2
           clear hS2
           generalize (wx.alloc (Obj.cells #[.int .i64 0, .int .i64 0, .slice none 0 0, .slice none 0 0] 26)).drew = w6 at hS hV  ⊢
           generalize wx.heap.size = ob at hV hob  ⊢
           have c0 := hS.c0
           have c1 := hS.c1
           have c2 := hS.c2
           have c3 := hS.c3
           have z0 := hS.z0
           have z1 := hS.z1
           have z2 := hS.z2
           have z3 := hS.z3
           have nf := hS.nf
           have big := hS.big
           have v0 := hV.c0
           have v1 := hV.c1
           have v2 := hV.c2
           have v3 := hV.c3
           have vf := hV.f
           refine tr hK (fun hHeld => ?_)
           clear hK K)
          refine tc 9 fun K hK => ?_
          (go_simp
           (go_at_call 75; refine (l9Step_any a n c U P _ (h.below hS.bel) hB hP).mono ?_; rintro e w5 ⟨a5, c5, rfl, hO5⟩)
           have hS2 := hS.on hO5.bel
           have ho5 := hO5.own.base (show w.heap.size + 1 + 1 ≤ w6.heap.size from hS.big)
           have hV2 := hV.on hO5.bel
           have hne5 : ∀ b, (Value.slice a5 n c5).ownBlock = some b → b ≠ ob := fun b e => by have := (hO5.own.lt b e).1; have := hV.l; omega
           clear hV v0 v1 v2 v3 vf
           have hV := hV2
           clear hV2
           clear c0 c1 c2 c3 z0 z1 z2 z3 nf big hS
           have hS := hS2
           clear hS2
           have c0 := hS.c0
           have c1 := hS.c1
           have c2 := hS.c2
           have c3 := hS.c3
           have z0 := hS.z0
           have z1 := hS.z1
           have z2 := hS.z2
           have z3 := hS.z3
           have nf := hS.nf
           have big := hS.big
           have v0 := hV.c0
           have v1 := hV.c1
           have v2 := hV.c2
           have v3 := hV.c3
           have vf := hV.f
           (try go_wp2_with fail)
           refine tr hK (fun hHeld => ?_)
           clear hK K)
          refine tq 10 hHeld ?_
          refine tc 12 fun K hK => ?_
          (go_simp
           have hs : Fr (fun b => b = ob) w5 ((((w5.setCell ⟨ob, 0, none⟩ (.int .i64 (T + 1))).setCell ⟨ob, 1, none⟩ (.int .i64 P)).setCell ⟨ob, 2, none⟩ (.slice a5 n c5)).setCell ⟨ob, 3, none⟩ (.slice none 0 0)) := (((Fr.setCell (X := fun b => b = ob) rfl _).trans (Fr.setCell (X := fun b => b = ob) rfl _)).trans (Fr.setCell (X := fun b => b = ob) rfl _)).trans (Fr.setCell (X := fun b => b = ob) rfl _)
           have hl := hV.l
           have hV2 : Vb ((((w5.setCell ⟨ob, 0, none⟩ (.int .i64 (T + 1))).setCell ⟨ob, 1, none⟩ (.int .i64 P)).setCell ⟨ob, 2, none⟩ (.slice a5 n c5)).setCell ⟨ob, 3, none⟩ (.slice none 0 0)) ob (.int .i64 (T + 1)) (.int .i64 P) (.slice a5 n c5) (.slice none 0 0) := ⟨by go_simp, by go_simp, by go_simp, by go_simp, fun o => by go_simp, by simpa using hl⟩
           have hS2 := hS.fr hs hob
           have ho52 := ho5.frame hs (fun b e x => hne5 b e x)
           clear c0 c1 c2 c3 z0 z1 z2 z3 nf big hS hV v0 v1 v2 v3 vf hs ho5
           have hS := hS2
           have hV := hV2
           have ho5 := ho52
           clear hS2 hV2 ho52
           generalize ((((w5.setCell ⟨ob, 0, none⟩ (.int .i64 (T + 1))).setCell ⟨ob, 1, none⟩ (.int .i64 P)).setCell ⟨ob, 2, none⟩ (.slice a5 n c5)).setCell ⟨ob, 3, none⟩ (.slice none 0 0)) = w7 at hS hV ho5 ⊢
           have c0 := hS.c0
           have c1 := hS.c1
           have c2 := hS.c2
           have c3 := hS.c3
           have z0 := hS.z0
           have z1 := hS.z1
           have z2 := hS.z2
           have z3 := hS.z3
           have nf := hS.nf
           have big := hS.big
           refine tr hK (fun hHeld => ?_)
           clear hK K)
          refine wpAnyH_done (by kernel_rfl) ?_ _
          go_wp2_with fail
          go_meet
          exact ⟨ob, a5, c5, rfl, hob, hne5, hV, ho5, hS⟩
      case rest =>
      clear c0 c1 c2 c3 z0 z1 z2 z3 nf big hS
      obtain ⟨ob, a5, c5, rfl, hob, hne5, hV, ho5, hS⟩ := hcut
      have c0 := hS.c0
      have c1 := hS.c1
      have c2 := hS.c2
      have c3 := hS.c3
      have z0 := hS.z0
      have z1 := hS.z1
      have z2 := hS.z2
      have z3 := hS.z3
      have nf := hS.nf
      have big := hS.big
      have v0 := hV.c0
      have v1 := hV.c1
      have v2 := hV.c2
      have v3 := hV.c3
      have vf := hV.f
      go_upto_region 6 with fail
      go_cut [] (fun wc => ∃ (a6 : Option Addr) (m6 c6 : Nat), m6 ≤ 144 ∧ Vb wc ob (.int .i64 (T + 1)) (.int .i64 P) (.slice a5 n c5) (.slice a6 m6 c6) ∧ OwnL wc (w.heap.size + 1 + 1) 43 12 (.slice a5 n c5) n (stepU n U P) ∧ OwnL wc (w.heap.size + 1 + 1) 59 2 (.slice a6 m6 c6) m6 (ofL (prL (stepU n U P) (ofL (conL (colOf (stepU n U P)) n)) m6)) ∧ Ws w wc T P a n c a' m c')
      case first =>
        go_wp2_with (go_at_call 76; refine (l9Pairs_any a5 n c5 (stepU n U P) _ ho5.flat hstep).mono ?_; rintro e w6 ⟨a6, m6, c6, rfl, ⟨hm6, hl6⟩, hO6⟩; clear hl6; have hV6 := hV.on hO6.bel; have vv0 := hV6.c0; have vv1 := hV6.c1; have vv2 := hV6.c2; have vv3 := hV6.c3; have vvf := hV6.f)
        go_meet
        have hs : Fr (fun b => b = ob) w6 (w6.setCell ⟨ob, 3, none⟩ (.slice a6 m6 c6)) := Fr.setCell (X := fun b => b = ob) rfl _
        have hl := hV6.l
        have hlo := hV.l
        exact ⟨a6, m6, c6, hm6, ⟨by go_simp, by go_simp, by go_simp, by go_simp, fun o => by go_simp, by simpa using hl⟩, (ho5.below hO6.bel).frame hs (fun b e x => hne5 b e x), (hO6.own.base (show w.heap.size + 1 + 1 ≤ wc.heap.size from hS.big)).frame hs (fun b e x => by have := (hO6.own.lt b e).1; omega), (hS.on hO6.bel).fr hs hob⟩
      case rest =>
      clear c0 c1 c2 c3 z0 z1 z2 z3 nf big hS hV ho5 v0 v1 v2 v3 vf
      obtain ⟨a6, m6, c6, hm6, hV, ho5, ho6, hS⟩ := hcut
      have c0 := hS.c0
      have c1 := hS.c1
      have c2 := hS.c2
      have c3 := hS.c3
      have z0 := hS.z0
      have z1 := hS.z1
      have z2 := hS.z2
      have z3 := hS.z3
      have nf := hS.nf
      have big := hS.big
      have v0 := hV.c0
      have v1 := hV.c1
      have v2 := hV.c2
      have v3 := hV.c3
      have vf := hV.f
      have hE : We w wc ob (.int .i64 (T + 1)) (.int .i64 P) (.slice a5 n c5) (.slice a6 m6 c6) (.int .i64 0) (.int .i64 0) (.slice none 0 0) (.slice none 0 0) (.slice a' m c') n m6 (stepU n U P) _ := ⟨hS.bel, hS.c3, hV, ⟨hS.z0, hS.z1, hS.z2, hS.z3, hS.nf, hS.big⟩, ho5, ho6⟩
      generalize ofL (prL (stepU n U P) (ofL (conL (colOf (stepU n U P)) n)) m6) = Q6 at hE
      clear c0 c1 c2 z0 z1 z2 z3 nf big hS hV ho5 ho6 hok hbods hT hP hstep hne5
      have z0 := hE.r.c0
      have z1 := hE.r.c1
      have z2 := hE.r.c2
      have z3 := hE.r.c3
      have nf := hE.r.f
      go_upto_region 7 with fail
      refine wp_region_held_drew (S := fun w' => w'.cell? ⟨ob, 0, none⟩ = some (.int .i64 (T + 1)) ∧ w'.cell? ⟨ob, 1, none⟩ = some (.int .i64 P) ∧ w'.cell? ⟨ob, 2, none⟩ = some (.slice a5 n c5) ∧ w'.cell? ⟨ob, 3, none⟩ = some (.slice a6 m6 c6) ∧ w'.cell? ⟨w.heap.size, 3, none⟩ = some (.slice a' m c')) (by kernel_rfl) ?_ (fun hHeld => ?_)
      · (try dsimp only)
        (first | (go_simp; done) | (go_keep; done))
      refine tq 0 hHeld ?_
      refine tq 1 hHeld ?_
      refine tq 2 hHeld ?_
      refine tq 3 hHeld ?_
      refine tq 4 hHeld ?_
      refine tc 5 fun K hK => ?_
      (go_simp
       (go_at_call 77; refine (l10Events_w a' m c' Q a6 m6 c6 _ _ (h'.below hE.bel).drw hE.o6.flat.drw (by omega) (by omega)).mono ?_; rintro e w8 ⟨a8, m8, c8, rfl, hm8, hb8⟩)
       have hb8 := hb8.ofDr
       have hE2 := hE.on hb8
       clear v0 v1 v2 v3 vf z0 z1 z2 z3 nf c3 hE hb8
       have hE := hE2
       clear hE2
       have v0 := hE.x.c0
       have v1 := hE.x.c1
       have v2 := hE.x.c2
       have v3 := hE.x.c3
       have vf := hE.x.f
       have z0 := hE.r.c0
       have z1 := hE.r.c1
       have z2 := hE.r.c2
       have z3 := hE.r.c3
       have nf := hE.r.f
       have c3 := hE.c3
       (try go_wp2_with fail)
       refine tr hK (fun hHeld => ?_)
       clear hK K)
      refine tc 6 fun K hK => ?_
      (go_simp
       have hE2 := hE.put hob
       clear v0 v1 v2 v3 vf z0 z1 z2 z3 nf c3 hE
       have hE := hE2
       clear hE2
       generalize ((((w8.setCell ⟨w.heap.size + 1, 0, none⟩ (.int .i64 (T + 1))).setCell ⟨w.heap.size + 1, 1, none⟩ (.int .i64 P)).setCell ⟨w.heap.size + 1, 2, none⟩ (.slice a5 n c5)).setCell ⟨w.heap.size + 1, 3, none⟩ (.slice a6 m6 c6)) = w9 at hE ⊢
       have v0 := hE.x.c0
       have v1 := hE.x.c1
       have v2 := hE.x.c2
       have v3 := hE.x.c3
       have vf := hE.x.f
       have z0 := hE.r.c0
       have z1 := hE.r.c1
       have z2 := hE.r.c2
       have z3 := hE.r.c3
       have nf := hE.r.f
       have c3 := hE.c3
       refine tr hK (fun hHeld => ?_)
       clear hK K)
      refine tq 7 hHeld ?_
      refine wpAnyH_done (by kernel_rfl) ?_ _
      go_wp2_with fail
      have hlo := hE.r.l
      exact bodyPost_ret (v := .tuple #[worldW (T + 1) P a5 n c5 a6 m6 c6, .slice a8 m8 c8]) (by simp [results, Tryz.results66, go_sem, z0, z1, z2, z3]) rfl ⟨_, _, _, _, _, _, _, _, _, _, _, rfl, ⟨Nat.le_refl _, by omega⟩, hE.bel, hE.o5.base (by omega), hE.o6.base (by omega), OwnL.neT hE.o5 hE.o6 (by decide)⟩
end Go.Proofs.YtdajfjipomkpdaaGreat
namespace Go.Proofs.YtdajfjipomkpdaaGreat
open Go.RowKit
set_option linter.unusedVariables false
def Rd (w : World) (rb p : Nat) : Prop := ∃ (a : Option Addr) (len cap : Nat), w.cell? ⟨rb, 0, none⟩ = some (.slice a len cap) ∧ w.cell? ⟨rb, 1, none⟩ = some (.int .i64 (p : Int)) ∧ w.frozen? ⟨rb, 1, none⟩ = false ∧ len ≤ 2000 ∧
  (len = 0 ∨ ∃ b off, a = some ⟨b, off, none⟩ ∧ b < rb ∧ ∀ i, i < len → ∃ z : Int, w.cell? ⟨b, off + i, none⟩ = some (.int .u8 z) ∧ 0 ≤ z ∧ z ≤ 255)
theorem Rd.lt {w : World} {rb p : Nat} (h : Rd w rb p) : rb < w.heap.size := by
  obtain ⟨a, len, cap, c0, _⟩ := h; exact cell_lt c0
theorem Rd.below {w w' : World} {rb p : Nat} (h : Rd w rb p) (k : Below w.heap.size w w') : Rd w' rb p := by
  have hl := h.lt
  obtain ⟨a, len, cap, c0, c1, f1, hle, hz⟩ := h
  refine ⟨a, len, cap, by rw [k.cell hl]; exact c0, by rw [k.cell hl]; exact c1, by rw [k.frozen hl]; exact f1, hle, ?_⟩
  rcases hz with hz | ⟨b, off, ha, hb, hz⟩
  · exact .inl hz
  · refine .inr ⟨b, off, ha, hb, fun i hi => ?_⟩
    obtain ⟨z, hz, r⟩ := hz i hi
    exact ⟨z, by rw [k.cell (cell_lt hz)]; exact hz, r⟩
theorem Rd.step {w : World} {rb p : Nat} (h : Rd w rb p) (m : Nat) (q : Nat) : Rd ((w.setCell ⟨rb, 1, none⟩ (.int .i64 (q : Int))).drewN m) rb q := by
  obtain ⟨a, len, cap, c0, c1, f1, hle, hz⟩ := h
  refine ⟨a, len, cap, ?_, ?_, ?_, hle, ?_⟩
  · rw [World.cell?_drewN, cset_other (by simp)]; exact c0
  · rw [World.cell?_drewN, cset_same c1]
  · simpa using f1
  rcases hz with hz | ⟨b, off, ha, hb, hz⟩
  · exact .inl hz
  · refine .inr ⟨b, off, ha, hb, fun i hi => ?_⟩
    obtain ⟨z, hz, r⟩ := hz i hi
    exact ⟨z, by rw [World.cell?_drewN, cset_far (Nat.ne_of_lt hb)]; exact hz, r⟩
set_option maxHeartbeats 1000000 in
theorem pick_any (rb p : Nat) (n : Int) (w : World) (hr : Rd w rb p) (hp : p ≤ 1000000) (h0 : 1 ≤ n) (h1 : n ≤ 4000000000) :
    Calls Tryz.prog 39 #[.pointer (some ⟨rb, 0, none⟩), .int .i64 n] w fun e w' => ∃ v : Int, e = .returned (.int .i64 v) ∧ 0 ≤ v ∧ v < n ∧ Rd w' rb (p + 1) ∧ But rb w w' := by
  have hr' := hr
  obtain ⟨a, len, cap, c0, c1, f1, hle, hz⟩ := hr
  have e0 : (w.setCell ⟨rb, 1, none⟩ (.int .i64 ((p : Int) + 1))).cell? ⟨rb, 0, none⟩ = some (.slice a len cap) := by rw [cset_other (by simp)]; exact c0
  have e1 : (w.setCell ⟨rb, 1, none⟩ (.int .i64 ((p : Int) + 1))).cell? ⟨rb, 1, none⟩ = some (.int .i64 ((p : Int) + 1)) := cset_same c1
  have fin : ∀ m, Rd ((w.setCell ⟨rb, 1, none⟩ (.int .i64 ((p : Int) + 1))).drewN m) rb (p + 1) ∧ But rb w ((w.setCell ⟨rb, 1, none⟩ (.int .i64 ((p : Int) + 1))).drewN m) :=
    fun m => ⟨hr'.step m (p + 1), ((But.refl rb w).setCell rfl _).drewN m⟩
  have FIN : Hid (∀ m, Rd ((w.setCell ⟨rb, 1, none⟩ (.int .i64 ((p : Int) + 1))).drewN m) rb (p + 1) ∧ But rb w ((w.setCell ⟨rb, 1, none⟩ (.int .i64 ((p : Int) + 1))).drewN m)) := fin
  clear fin hr'
  rcases Nat.eq_zero_or_pos len with hl | hl
  · subst hl
    clear hz
    have hd : decide (n < 1) = false := by simp; omega
    go_enter Tryz.func39, Tryz.ntmps39
    go_wp2
    go_ret
    exact ⟨0, rfl, by omega, by omega, FIN.out 0⟩
  · obtain ⟨b, off, rfl, hb, hz⟩ : ∃ b off, a = some ⟨b, off, none⟩ ∧ b < rb ∧ ∀ i, i < len → ∃ z : Int, w.cell? ⟨b, off + i, none⟩ = some (.int .u8 z) ∧ 0 ≤ z ∧ z ≤ 255 := by
      rcases hz with hz | hz
      · omega
      · exact hz
    have hd : decide (n < 1) = false := by simp; omega
    have hln : ((len : Int) == 0) = false := by simp; omega
    by_cases hk : p < len
    · obtain ⟨z, hc, z0, z1⟩ := hz p hk
      clear hz
      have e2 : (w.setCell ⟨rb, 1, none⟩ (.int .i64 ((p : Int) + 1))).cell? ⟨b, off + p, none⟩ = some (.int .u8 z) := by rw [cset_far (Nat.ne_of_lt hb)]; exact hc
      go_enter Tryz.func39, Tryz.ntmps39
      go_wp2
      go_ret
      exact ⟨_, rfl, Int.emod_nonneg _ (by omega), Int.emod_lt_of_pos _ (by omega), FIN.out 0⟩
    · obtain ⟨i, hi, hil⟩ : ∃ i : Nat, (p : Int) % (len : Int) = (i : Int) ∧ i < len := ⟨p % len, by omega, Nat.mod_lt _ hl⟩
      obtain ⟨j, hj, hjl⟩ : ∃ j : Nat, ((p : Int) * 7 + 3) % (len : Int) = (j : Int) ∧ j < len := ⟨(p * 7 + 3) % len, by rw [show (p : Int) * 7 + 3 = ((p * 7 + 3 : Nat) : Int) by omega]; rfl, Nat.mod_lt _ hl⟩
      obtain ⟨d, hd', hdl⟩ : ∃ d : Nat, (p : Int) / (len : Int) = (d : Int) ∧ d ≤ p := ⟨p / len, by omega, Nat.div_le_self _ _⟩
      obtain ⟨z, hc, z0, z1⟩ := hz i hil
      obtain ⟨y, hcy, y0, y1⟩ := hz j hjl
      clear hz
      have e2 : (w.setCell ⟨rb, 1, none⟩ (.int .i64 ((p : Int) + 1))).cell? ⟨b, off + i, none⟩ = some (.int .u8 z) := by rw [cset_far (Nat.ne_of_lt hb)]; exact hc
      have e3 : (w.setCell ⟨rb, 1, none⟩ (.int .i64 ((p : Int) + 1))).cell? ⟨b, off + j, none⟩ = some (.int .u8 y) := by rw [cset_far (Nat.ne_of_lt hb)]; exact hcy
      go_enter Tryz.func39, Tryz.ntmps39
      go_wp2
      go_quiet (fail)
      go_wp2
      go_ret
      exact ⟨_, rfl, Int.tmod_nonneg _ (xor_nonneg (by omega) (by omega) (by omega) (by omega)), Int.tmod_lt_of_pos _ (by omega), FIN.out _⟩
theorem Rd.alloc {w : World} {rb p : Nat} (h : Rd w rb p) (o : Obj) : Rd (w.alloc o) rb p := h.below ((Below.refl _ _).alloc (Nat.le_refl _) o)
theorem one_any (rb p lb len cap : Nat) (xs : List Int) (w : World) (hr : Rd w rb p) (hp : p ≤ 1000000) (hl : xs.length = len) (h0 : 1 ≤ len) (h1 : len ≤ 100) (hb : lb ≠ rb) (hc : ∀ i, i < len → w.cell? ⟨lb, i, none⟩ = some (.int .i64 (xs.getD i 0))) :
    Calls Tryz.prog 47 #[.pointer (some ⟨rb, 0, none⟩), .slice (some ⟨lb, 0, none⟩) len cap] w fun e w' => ∃ v : Int, e = .returned (.int .i64 v) ∧ v ∈ xs ∧ Rd w' rb (p + 1) ∧ But rb w w' := by
  go_enter Tryz.func47, Tryz.ntmps47
  go_wp2_with (go_at_call 39; refine (pick_any rb p _ _ hr hp (by omega) (by omega)).mono ?_; rintro e w1 ⟨v, rfl, v0, v1, hr1, hbut⟩; obtain ⟨j, rfl⟩ := Int.eq_ofNat_of_zero_le v0; have hcj := (hbut.cell (p := ⟨lb, j, none⟩) (cell_lt (hc j (by omega))) hb).trans (hc j (by omega)))
  go_ret
  exact ⟨_, rfl, by rw [List.getElem?_eq_getElem (show j < xs.length by omega)]; simp, hr1, hbut⟩
def AllBd (lo hi : Int) : List Value → Prop
  | [] => True
  | c :: r => (∃ z : Int, c = .int .i64 z ∧ lo ≤ z ∧ z ≤ hi) ∧ AllBd lo hi r
theorem AllBd.get {lo hi : Int} : ∀ {l : List Value}, AllBd lo hi l → ∀ i, i < l.length → ∃ z : Int, l[i]? = some (.int .i64 z) ∧ lo ≤ z ∧ z ≤ hi
  | c :: r, h, 0, _ => by obtain ⟨z, rfl, h1, h2⟩ := h.1; exact ⟨z, rfl, h1, h2⟩
  | c :: r, h, i + 1, hi' => by simpa using AllBd.get h.2 i (by simpa using hi')
theorem AllBd.cons {lo hi z : Int} {r : List Value} (h1 : lo ≤ z) (h2 : z ≤ hi) (h : AllBd lo hi r) : AllBd lo hi (.int .i64 z :: r) := ⟨⟨z, rfl, h1, h2⟩, h⟩
theorem AllBd.nil {lo hi : Int} : AllBd lo hi [] := trivial
theorem one_bd (lo hi : Int) (rb p len cap : Nat) (cs : Array Value) (t : TypeId) (w : World) (hr : Rd w rb p) (hp : p ≤ 1000000) (hcs : AllBd lo hi cs.toList) (hl : cs.size = len) (h0 : 1 ≤ len) (h1 : len ≤ 100) :
    Calls Tryz.prog 47 #[.pointer (some ⟨rb, 0, none⟩), .slice (some ⟨w.heap.size, 0, none⟩) len cap] (w.alloc (.cells cs t)) fun e w' => ∃ v : Int, e = .returned (.int .i64 v) ∧ lo ≤ v ∧ v ≤ hi ∧ Rd w' rb (p + 1) ∧ But rb w w' := by
  have hlt := hr.lt
  have hx : ∀ i, i < len → ∃ z : Int, cs[i]? = some (.int .i64 z) ∧ lo ≤ z ∧ z ≤ hi := fun i hi => by
    have := hcs.get i (by simpa [hl] using hi); simpa using this
  have hcell : ∀ i : Nat, (w.alloc (.cells cs t)).cell? ⟨w.heap.size, i, none⟩ = cs[i]? := fun i => World.cell?_alloc_mark w cs t (0, 0) i
  refine (one_any rb p w.heap.size len cap (cs.toList.map intOf) _ (hr.alloc _) hp (by simpa using hl) h0 h1 (by omega) ?_).mono ?_
  · intro i hi
    obtain ⟨z, hz, _⟩ := hx i hi
    rw [hcell, hz]
    simp [hz, intOf]
  · rintro e w' ⟨v, rfl, hv, hr', hb'⟩
    refine ⟨v, rfl, ?_, ?_, hr', ((But.refl rb w).alloc _).trans hb'⟩
    all_goals
      obtain ⟨c, hc, rfl⟩ := List.mem_map.1 hv
      obtain ⟨i, hi, rfl⟩ := List.getElem_of_mem hc
      obtain ⟨z, hz, a, b⟩ := hcs.get i hi
      rw [List.getElem?_eq_getElem hi] at hz
      injection hz with hz
      rw [hz]; assumption
theorem l1Open_any (a : Option Addr) (len cap : Nat) (w : World) (hcap : len ≤ cap)
    (hz : len = 0 ∨ ∃ b off, a = some ⟨b, off, none⟩ ∧ ∀ i, i < len → ∃ z : Int, w.cell? ⟨b, off + i, none⟩ = some (.int .u8 z) ∧ 0 ≤ z ∧ z ≤ 255) :
    Calls Tryz.prog 18 #[.slice a len cap] w fun e w' => e = .returned (.pointer (some ⟨w.heap.size, 0, none⟩)) ∧ Rd w' w.heap.size 0 ∧ Below w.heap.size w w' := by
  have fin : ∀ (len' cap' : Nat), len' ≤ len → len' ≤ 2000 → Rd (w.alloc (.cells #[.slice a len' cap', .int .i64 0] 84)) w.heap.size 0 := by
    intro len' cap' hl h2
    refine ⟨a, len', cap', ?_, ?_, ?_, h2, ?_⟩
    · go_simp
    · go_simp
    · go_simp
    rcases hz with hz | ⟨b, off, ha, hz⟩
    · exact .inl (by omega)
    · rcases Nat.eq_zero_or_pos len' with h | h
      · exact .inl h
      · obtain ⟨z, hc, _⟩ := hz 0 (by omega)
        have hlt := cell_lt hc
        refine .inr ⟨b, off, ha, hlt, fun i hi => ?_⟩
        obtain ⟨z, hz, r⟩ := hz i (by omega)
        exact ⟨z, by rw [calloc_old (cell_lt hz)]; exact hz, r⟩
  have FIN := fin
  clear fin
  by_cases h : 2000 < len
  · go_enter Tryz.func18, Tryz.ntmps18
    go_wp2
    go_ret
    exact ⟨rfl, FIN _ _ (by omega) (by omega), (Below.refl _ _).alloc (Nat.le_refl _) _⟩
  · go_enter Tryz.func18, Tryz.ntmps18
    go_wp2
    go_ret
    exact ⟨rfl, FIN _ _ (by omega) (by omega), (Below.refl _ _).alloc (Nat.le_refl _) _⟩
def RB (w0 w : World) (rb p : Nat) : Prop := ∃ q, q ≤ p ∧ Rd w rb q ∧ But rb w0 w
theorem RB.mono {w0 w : World} {rb p p' : Nat} (h : RB w0 w rb p) (k : p ≤ p') : RB w0 w rb p' := by
  obtain ⟨q, a, b⟩ := h; exact ⟨q, by omega, b⟩
theorem RB.start {w : World} {rb p : Nat} (h : Rd w rb p) : RB w w rb p := ⟨p, Nat.le_refl _, h, But.refl _ _⟩
theorem RB.alloc {w0 w : World} {rb p : Nat} (h : RB w0 w rb p) (o : Obj) : RB w0 (w.alloc o) rb p := by
  obtain ⟨q, a, b, c⟩ := h; exact ⟨q, a, b.alloc o, c.alloc o⟩
theorem RB.below {w0 w w' : World} {rb p : Nat} (h : RB w0 w rb p) (k : Below w.heap.size w w') : RB w0 w' rb p := by
  obtain ⟨q, a, b, c⟩ := h; exact ⟨q, a, b.below k, c.trans (But.of_below k)⟩
theorem RB.lt {w0 w : World} {rb p : Nat} (h : RB w0 w rb p) : rb < w.heap.size := by
  obtain ⟨q, a, b, c⟩ := h; exact b.lt
theorem RB.old {w0 w : World} {rb p : Nat} (h : RB w0 w rb p) {B : Nat} (hB : B ≤ rb) (hB' : B ≤ w0.heap.size) : Below B w0 w := by
  obtain ⟨q, a, b, c⟩ := h; exact c.below hB hB'
theorem pick_rb (w0 : World) (rb p : Nat) (n : Int) (w : World) (hr : RB w0 w rb p) (hp : p ≤ 999000) (h0 : 1 ≤ n) (h1 : n ≤ 4000000000) :
    Calls Tryz.prog 39 #[.pointer (some ⟨rb, 0, none⟩), .int .i64 n] w fun e w' => ∃ v : Int, e = .returned (.int .i64 v) ∧ 0 ≤ v ∧ v < n ∧ RB w0 w' rb (p + 1) := by
  obtain ⟨q, a, b, c⟩ := hr
  refine (pick_any rb q n w b (by omega) h0 h1).mono ?_
  rintro e w' ⟨v, rfl, v0, v1, hr', hb'⟩
  exact ⟨v, rfl, v0, v1, q + 1, by omega, hr', c.trans hb'⟩
theorem one_rb (lo hi : Int) (w0 : World) (rb p len cap : Nat) (cs : Array Value) (t : TypeId) (w : World) (hr : RB w0 w rb p) (hp : p ≤ 999000) (hcs : AllBd lo hi cs.toList) (hl : cs.size = len) (h0 : 1 ≤ len) (h1 : len ≤ 100) :
    Calls Tryz.prog 47 #[.pointer (some ⟨rb, 0, none⟩), .slice (some ⟨w.heap.size, 0, none⟩) len cap] (w.alloc (.cells cs t)) fun e w' => ∃ v : Int, e = .returned (.int .i64 v) ∧ lo ≤ v ∧ v ≤ hi ∧ RB w0 w' rb (p + 1) := by
  obtain ⟨q, a, b, c⟩ := hr
  refine (one_bd lo hi rb q len cap cs t w b (by omega) hcs hl h0 h1).mono ?_
  rintro e w' ⟨v, rfl, v0, v1, hr', hb'⟩
  exact ⟨v, rfl, v0, v1, q + 1, by omega, hr', c.trans hb'⟩
def Bytes (w : World) (a : Option Addr) (len cap : Nat) : Prop :=
  len ≤ cap ∧ (len = 0 ∨ ∃ b off, a = some ⟨b, off, none⟩ ∧ ∀ i, i < len → ∃ z : Int, w.cell? ⟨b, off + i, none⟩ = some (.int .u8 z) ∧ 0 ≤ z ∧ z ≤ 255)
theorem Bytes.below {w w' : World} {a : Option Addr} {len cap : Nat} (h : Bytes w a len cap) (k : Below w.heap.size w w') : Bytes w' a len cap := by
  refine ⟨h.1, ?_⟩
  rcases h.2 with h | ⟨b, off, ha, hz⟩
  · exact .inl h
  · refine .inr ⟨b, off, ha, fun i hi => ?_⟩
    obtain ⟨z, hz, r⟩ := hz i hi
    exact ⟨z, by rw [k.cell (cell_lt hz)]; exact hz, r⟩
theorem Bytes.nil (w : World) : Bytes w none 0 0 := ⟨Nat.le_refl _, .inl rfl⟩
theorem Bytes.of {w : World} {x : Addr} {len cap : Nat} {zs : List Int} (hl : len ≤ cap) (hz : zs.length = cap) (hcell : ∀ i, i < zs.length → w.cell? (x.add i) = some (.int .u8 (zs.getD i 0))) (hwz : ∀ n ∈ zs, (Lit.int .u8 n).wf = true) : Bytes w (some x) len cap := by
  refine ⟨hl, ?_⟩
  rcases Nat.eq_zero_or_pos len with h | h
  · exact .inl h
  · obtain ⟨b, off, spot⟩ := x
    have hc := hcell 0 (by omega)
    have hspot : spot = none := by simpa [Addr.add] using World.cell?_spot hc
    subst hspot
    refine .inr ⟨b, off, rfl, fun i hi => ⟨zs[i]?.getD 0, ?_, (range_u8 hwz i).1, (range_u8 hwz i).2⟩⟩
    have h := hcell i (by omega)
    by_cases h0 : i = 0
    · subst h0; simpa [Addr.add] using h
    · simpa [Addr.add, h0] using h
theorem l1Open_rb (a : Option Addr) (len cap : Nat) (w : World) (hb : Bytes w a len cap) :
    Calls Tryz.prog 18 #[.slice a len cap] w fun e w' => e = .returned (.pointer (some ⟨w.heap.size, 0, none⟩)) ∧ RB w' w' w.heap.size 0 ∧ Below w.heap.size w w' :=
  (l1Open_any a len cap w hb.1 hb.2).mono fun _ _ ⟨h1, h2, h3⟩ => ⟨h1, RB.start h2, h3⟩
theorem RB.done {w w0 w' : World} {p : Nat} (k : Below w.heap.size w w0) (h : RB w0 w' w.heap.size p) : Below w.heap.size w w' :=
  k.trans (h.old (Nat.le_refl _) k.size)
theorem Rd.setNew {w : World} {rb p : Nat} (h : Rd w rb p) {a : Addr} (ha : rb < a.block) (v : Value) : Rd (w.setCell a v) rb p := by
  obtain ⟨s, len, cap, c0, c1, f1, hle, hz⟩ := h
  refine ⟨s, len, cap, ?_, ?_, ?_, hle, ?_⟩
  · rw [cset_far (Nat.ne_of_lt ha)]; exact c0
  · rw [cset_far (Nat.ne_of_lt ha)]; exact c1
  · rw [fset_far (Nat.ne_of_lt ha)]; exact f1
  rcases hz with hz | ⟨b, off, e, hb, hz⟩
  · exact .inl hz
  · refine .inr ⟨b, off, e, hb, fun i hi => ?_⟩
    obtain ⟨z, hz, r⟩ := hz i hi
    exact ⟨z, by rw [cset_far (by show b ≠ a.block; omega)]; exact hz, r⟩
theorem RB.setNew {w0 w : World} {rb p : Nat} (h : RB w0 w rb p) {a : Addr} (ha : rb < a.block) (h0 : w0.heap.size ≤ a.block) (v : Value) : RB w0 (w.setCell a v) rb p := by
  obtain ⟨q, k, b, c⟩ := h
  exact ⟨q, k, b.setNew ha v, ⟨c.os, c.tape, c.output, by simpa [World.setCell] using c.size, fun k hk hn => (Below.heap_setCell _ _ _ _ (by omega)).trans (c.block k hk hn)⟩⟩
theorem RB.cells {w0 w : World} {rb p : Nat} (h : RB w0 w rb p) : (∀ b o, b < w0.heap.size → b ≠ rb → w.cell? ⟨b, o, none⟩ = w0.cell? ⟨b, o, none⟩) ∧ (∀ b o, b < w0.heap.size → b ≠ rb → w.frozen? ⟨b, o, none⟩ = w0.frozen? ⟨b, o, none⟩) := by
  obtain ⟨q, k, b, c⟩ := h
  exact ⟨fun b o hb hn => c.cell (p := ⟨b, o, none⟩) hb hn, fun b o hb hn => c.frozen (p := ⟨b, o, none⟩) hb hn⟩
end Go.Proofs.YtdajfjipomkpdaaGreat
namespace Go.Proofs.YtdajfjipomkpdaaGreat
open Go.RowKit
set_option linter.unusedVariables false
end Go.Proofs.YtdajfjipomkpdaaGreat
namespace Go.Proofs.YtdajfjipomkpdaaGreat
open Go.RowKit
set_option linter.unusedVariables false
set_option linter.unusedSimpArgs false
def Dn (x : Int) : Prop := -1099511627776 ≤ x ∧ x ≤ 1099511627776
theorem RB.size {w0 w : World} {rb p : Nat} (h : RB w0 w rb p) : w0.heap.size ≤ w.heap.size := by
  have := (h.old (B := 0) (Nat.zero_le _) (Nat.zero_le _)).size
  exact this
def Bn (x : Int) : Prop := -1100000000 ≤ x ∧ x ≤ 1100000000
def RS (w : World) (rb p : Nat) : Prop := ∃ q, q ≤ p ∧ Rd w rb q
theorem RS.of {w0 w : World} {rb p : Nat} (h : RB w0 w rb p) : RS w rb p := by
  obtain ⟨q, a, b, c⟩ := h; exact ⟨q, a, b⟩
theorem RS.rb {w : World} {rb p : Nat} (h : RS w rb p) : RB w w rb p := by
  obtain ⟨q, a, b⟩ := h; exact ⟨q, a, b, But.refl _ _⟩
theorem RS.mono {w : World} {rb p p' : Nat} (h : RS w rb p) (k : p ≤ p') : RS w rb p' := by
  obtain ⟨q, a, b⟩ := h; exact ⟨q, by omega, b⟩
theorem RS.up {w0 w : World} {rb p p' : Nat} (h : RB w0 w rb p) (k : p ≤ p') : RS w rb p' := (RS.of h).mono k
theorem RB.but {w0 w : World} {rb p : Nat} (h : RB w0 w rb p) : But rb w0 w := by
  obtain ⟨q, a, b, c⟩ := h; exact c
theorem RB.mk {w0 w : World} {rb p : Nat} (h : But rb w0 w) (k : RS w rb p) : RB w0 w rb p := by
  obtain ⟨q, a, b⟩ := k; exact ⟨q, a, b, h⟩
theorem But.setNew {rb : Nat} {a w : World} (h : But rb a w) {x : Addr} (hx : a.heap.size ≤ x.block) (u : Value) : But rb a (w.setCell x u) :=
  ⟨h.os, h.tape, h.output, by simpa [World.setCell] using h.size, fun k hk hn => (Below.heap_setCell _ _ _ _ (by omega)).trans (h.block k hk hn)⟩
theorem But.drew {rb : Nat} {a w : World} (h : But rb a w) : But rb a w.drew := ⟨h.os, h.tape, h.output, h.size, h.block⟩
theorem RS.lt {w : World} {rb p : Nat} (h : RS w rb p) : rb < w.heap.size := h.rb.lt
theorem RS.alloc {w : World} {rb p : Nat} (h : RS w rb p) (o : Obj) : RS (w.alloc o) rb p := RS.of (h.rb.alloc o)
theorem RS.setNew {w : World} {rb p : Nat} (h : RS w rb p) {a : Addr} (ha : rb < a.block) (v : Value) : RS (w.setCell a v) rb p := by
  obtain ⟨q, k, b⟩ := h; exact ⟨q, k, b.setNew ha v⟩
theorem RS.drewN {w : World} {rb p : Nat} (h : RS w rb p) (n : Nat) : RS (w.drewN n) rb p := h
theorem RS.drew {w : World} {rb p : Nat} (h : RS w rb p) : RS w.drew rb p := h
theorem RB.drewN {w0 w : World} {rb p : Nat} (h : RB w0 w rb p) (n : Nat) : RB w0 (w.drewN n) rb p := by
  obtain ⟨q, a, b, c⟩ := h; exact ⟨q, a, b, c.drewN n⟩
theorem RB.drew {w0 w : World} {rb p : Nat} (h : RB w0 w rb p) : RB w0 w.drew rb p := by
  obtain ⟨q, a, b, c⟩ := h; exact ⟨q, a, b, c.drewN 1⟩
theorem RB.trans {a b c : World} {rb p p' : Nat} (h : RB a b rb p) (k : RB b c rb p') : RB a c rb p' := by
  obtain ⟨q, _, _, x⟩ := h
  obtain ⟨q', y, z, u⟩ := k
  exact ⟨q', y, z, x.trans u⟩
theorem pick_s (rb p : Nat) (n : Int) (w : World) (hr : RS w rb p) (hp : p ≤ 999000) (h0 : 1 ≤ n) (h1 : n ≤ 4000000000) :
    Calls Tryz.prog 39 #[.pointer (some ⟨rb, 0, none⟩), .int .i64 n] w fun e w' => ∃ v : Int, e = .returned (.int .i64 v) ∧ 0 ≤ v ∧ v < n ∧ RB w w' rb (p + 1) :=
  pick_rb w rb p n w hr.rb hp h0 h1
theorem one_s (lo hi : Int) (rb p len cap : Nat) (cs : Array Value) (t : TypeId) (w : World) (hr : RS w rb p) (hp : p ≤ 999000) (hcs : AllBd lo hi cs.toList) (hl : cs.size = len) (h0 : 1 ≤ len) (h1 : len ≤ 100) :
    Calls Tryz.prog 47 #[.pointer (some ⟨rb, 0, none⟩), .slice (some ⟨w.heap.size, 0, none⟩) len cap] (w.alloc (.cells cs t)) fun e w' => ∃ v : Int, e = .returned (.int .i64 v) ∧ lo ≤ v ∧ v ≤ hi ∧ RB w w' rb (p + 1) :=
  one_rb lo hi w rb p len cap cs t w hr.rb hp hcs hl h0 h1
theorem one_g (lo hi : Int) (rb p lb len cap : Nat) (xs : List Int) (w : World) (hr : RS w rb p) (hp : p ≤ 999000) (hx : ∀ x ∈ xs, lo ≤ x ∧ x ≤ hi) (hl : xs.length = len) (h0 : 1 ≤ len) (h1 : len ≤ 100) (hb : lb ≠ rb) (hc : ∀ i, i < len → w.cell? ⟨lb, i, none⟩ = some (.int .i64 (xs.getD i 0))) :
    Calls Tryz.prog 47 #[.pointer (some ⟨rb, 0, none⟩), .slice (some ⟨lb, 0, none⟩) len cap] w fun e w' => ∃ v : Int, e = .returned (.int .i64 v) ∧ lo ≤ v ∧ v ≤ hi ∧ RB w w' rb (p + 1) := by
  obtain ⟨q, hq, hd⟩ := hr
  refine (one_any rb q lb len cap xs w hd (by omega) hl h0 h1 hb hc).mono ?_
  rintro e w' ⟨v, rfl, hv, hr', hb'⟩
  obtain ⟨v0, v1⟩ := hx v hv
  exact ⟨v, rfl, v0, v1, q + 1, by omega, hr', hb'⟩
def Bm (x : Int) : Prop := -10000 ≤ x ∧ x ≤ 10000
theorem Bm.mk {x : Int} (h : -10000 ≤ x ∧ x ≤ 10000) : Bm x := h
theorem Bm.bn {x : Int} (h : Bm x) : Bn x := by unfold Bm Bn at *; omega
theorem Bn.mk {x : Int} (h : -1100000000 ≤ x ∧ x ≤ 1100000000) : Bn x := h
set_option maxHeartbeats 2000000 in
theorem l11Place_s (rb p : Nat) (w : World) (hs0 : RS w rb p) (hp : p ≤ 997900) :
    Calls Tryz.prog 58 #[.pointer (some ⟨rb, 0, none⟩)] w fun e w' => ∃ x y : Int, e = .returned (vv x y) ∧ (Bm x ∧ Bm y) ∧ RB w w' rb (p + 60) := by
  have hlt := hs0.lt
  have hne : (w.heap.size = rb) = False := eq_false (by omega)
  have hset := cset_map
  go_enter Tryz.func58, Tryz.ntmps58
  go_wp2_with (first
    | (have _ := hr1; go_at_call 39; refine (pick_s rb (p + 20) _ _ (by repeat (first | (with_reducible apply RS.setNew; rotate_left; (first | omega | (simp only [World.size_drew, World.size_alloc, World.size_setCell]; omega))) | with_reducible apply RS.alloc | (with_reducible apply RS.up hr1; omega) | (with_reducible apply RS.mono hs0; omega) | with_reducible apply RS.drew | with_reducible apply RS.drewN)) (by omega) (by omega) (by omega)).mono ?_; rintro e w2 ⟨v2, rfl, va2, vb2, hr2⟩; obtain ⟨hc2, hf2⟩ := RB.cells hr2; have hz2 := RB.size hr2; (try simp only [World.size_drew, World.size_alloc, World.size_setCell] at hc2 hf2 hz2); have hq2x0 : w.heap.size < w2.heap.size := (by omega); have ha2x0 : (w2.heap.size = w.heap.size) = False := eq_false (by omega); have hb2x0 : (w.heap.size = w2.heap.size) = False := eq_false (by omega); have he2x0 : (w.heap.size = rb) = False := eq_false (by omega); have hk2x0 := fun o => hc2 (w.heap.size) o (by omega) (by omega); have hj2x0 := fun o => hf2 (w.heap.size) o (by omega) (by omega))
    | (go_at_call 39; refine (pick_s rb (p + 10) _ _ (by repeat (first | (with_reducible apply RS.setNew; rotate_left; (first | omega | (simp only [World.size_drew, World.size_alloc, World.size_setCell]; omega))) | with_reducible apply RS.alloc | (with_reducible apply RS.mono hs0; omega) | with_reducible apply RS.drew | with_reducible apply RS.drewN)) (by omega) (by omega) (by omega)).mono ?_; rintro e w1 ⟨v1, rfl, va1, vb1, hr1⟩; obtain ⟨hc1, hf1⟩ := RB.cells hr1; have hz1 := RB.size hr1; (try simp only [World.size_drew, World.size_alloc, World.size_setCell] at hc1 hf1 hz1); have hq1x0 : w.heap.size < w1.heap.size := (by omega); have ha1x0 : (w1.heap.size = w.heap.size) = False := eq_false (by omega); have hb1x0 : (w.heap.size = w1.heap.size) = False := eq_false (by omega); have he1x0 : (w.heap.size = rb) = False := eq_false (by omega); have hk1x0 := fun o => hc1 (w.heap.size) o (by omega) (by omega); have hj1x0 := fun o => hf1 (w.heap.size) o (by omega) (by omega)))
  exact bodyPost_ret (v := vv (v1 * 8 - 1024) (v2 * 8 - 1024)) (by simp [results, Tryz.results58, go_sem, *]) rfl ⟨_, _, rfl, ⟨Bm.mk ⟨by omega, by omega⟩, Bm.mk ⟨by omega, by omega⟩⟩, RB.mk (by repeat (first | (with_reducible apply But.setNew; rotate_left; (first | omega | (simp only [World.size_drew, World.size_alloc, World.size_setCell]; omega))) | with_reducible apply But.alloc | with_reducible apply But.trans (k := RB.but hr2) | with_reducible apply But.trans (k := RB.but hr1) | with_reducible apply But.refl | with_reducible apply But.drewN | with_reducible apply But.drew)) (by repeat (first | (with_reducible apply RS.setNew; rotate_left; (first | omega | (simp only [World.size_drew, World.size_alloc, World.size_setCell]; omega))) | with_reducible apply RS.alloc | (with_reducible apply RS.up hr2; omega) | (with_reducible apply RS.up hr1; omega) | (with_reducible apply RS.mono hs0; omega) | with_reducible apply RS.drew | with_reducible apply RS.drewN))⟩
set_option maxHeartbeats 2000000 in
theorem l11Shape_s (rb p : Nat) (w : World) (hs0 : RS w rb p) (hp : p ≤ 997900) :
    Calls Tryz.prog 82 #[.pointer (some ⟨rb, 0, none⟩)] w fun e w' => ∃ k g h : Int, e = .returned (s3 k g h) ∧ (Bn k ∧ Bn g ∧ Bn h) ∧ RB w w' rb (p + 60) := by
  have hlt := hs0.lt
  have hne : (w.heap.size = rb) = False := eq_false (by omega)
  have hset := cset_map
  go_enter Tryz.func82, Tryz.ntmps82
  go_wp2_with (first
    | (have _ := hr3; go_at_call 39; refine (pick_s rb (p + 40) _ _ (by repeat (first | (with_reducible apply RS.setNew; rotate_left; (first | omega | (simp only [World.size_drew, World.size_alloc, World.size_setCell]; omega))) | with_reducible apply RS.alloc | (with_reducible apply RS.up hr3; omega) | (with_reducible apply RS.mono hs0; omega) | with_reducible apply RS.drew | with_reducible apply RS.drewN)) (by omega) (by omega) (by omega)).mono ?_; rintro e w4 ⟨v4, rfl, va4, vb4, hr4⟩; obtain ⟨hc4, hf4⟩ := RB.cells hr4; have hz4 := RB.size hr4; (try simp only [World.size_drew, World.size_alloc, World.size_setCell] at hc4 hf4 hz4); have hq4x0 : w.heap.size < w4.heap.size := (by omega); have ha4x0 : (w4.heap.size = w.heap.size) = False := eq_false (by omega); have hb4x0 : (w.heap.size = w4.heap.size) = False := eq_false (by omega); have he4x0 : (w.heap.size = rb) = False := eq_false (by omega); have hk4x0 := fun o => hc4 (w.heap.size) o (by omega) (by omega); have hj4x0 := fun o => hf4 (w.heap.size) o (by omega) (by omega))
    | (have _ := hr2; go_at_call 39; refine (pick_s rb (p + 30) _ _ (by repeat (first | (with_reducible apply RS.setNew; rotate_left; (first | omega | (simp only [World.size_drew, World.size_alloc, World.size_setCell]; omega))) | with_reducible apply RS.alloc | (with_reducible apply RS.up hr2; omega) | (with_reducible apply RS.mono hs0; omega) | with_reducible apply RS.drew | with_reducible apply RS.drewN)) (by omega) (by omega) (by omega)).mono ?_; rintro e w3 ⟨v3, rfl, va3, vb3, hr3⟩; obtain ⟨hc3, hf3⟩ := RB.cells hr3; have hz3 := RB.size hr3; (try simp only [World.size_drew, World.size_alloc, World.size_setCell] at hc3 hf3 hz3); have hq3x0 : w.heap.size < w3.heap.size := (by omega); have ha3x0 : (w3.heap.size = w.heap.size) = False := eq_false (by omega); have hb3x0 : (w.heap.size = w3.heap.size) = False := eq_false (by omega); have he3x0 : (w.heap.size = rb) = False := eq_false (by omega); have hk3x0 := fun o => hc3 (w.heap.size) o (by omega) (by omega); have hj3x0 := fun o => hf3 (w.heap.size) o (by omega) (by omega))
    | (go_at_call 39; refine (pick_s rb (p + 10) _ _ (by repeat (first | (with_reducible apply RS.setNew; rotate_left; (first | omega | (simp only [World.size_drew, World.size_alloc, World.size_setCell]; omega))) | with_reducible apply RS.alloc | (with_reducible apply RS.mono hs0; omega) | with_reducible apply RS.drew | with_reducible apply RS.drewN)) (by omega) (by omega) (by omega)).mono ?_; rintro e w1 ⟨v1, rfl, va1, vb1, hr1⟩; obtain ⟨hc1, hf1⟩ := RB.cells hr1; have hz1 := RB.size hr1; (try simp only [World.size_drew, World.size_alloc, World.size_setCell] at hc1 hf1 hz1); have hq1x0 : w.heap.size < w1.heap.size := (by omega); have ha1x0 : (w1.heap.size = w.heap.size) = False := eq_false (by omega); have hb1x0 : (w.heap.size = w1.heap.size) = False := eq_false (by omega); have he1x0 : (w.heap.size = rb) = False := eq_false (by omega); have hk1x0 := fun o => hc1 (w.heap.size) o (by omega) (by omega); have hj1x0 := fun o => hf1 (w.heap.size) o (by omega) (by omega))
    | (have _ := hr4; go_at_call 47; refine (one_s (1) 1000 rb (p + 50) _ _ _ _ _ (by repeat (first | (with_reducible apply RS.setNew; rotate_left; (first | omega | (simp only [World.size_drew, World.size_alloc, World.size_setCell]; omega))) | with_reducible apply RS.alloc | (with_reducible apply RS.up hr4; omega) | (with_reducible apply RS.mono hs0; omega) | with_reducible apply RS.drew | with_reducible apply RS.drewN)) (by omega) (by repeat (first | exact AllBd.nil | refine AllBd.cons (by omega) (by omega) ?_)) (by rfl) (by omega) (by omega)).mono ?_; rintro e w5 ⟨v5, rfl, va5, vb5, hr5⟩; obtain ⟨hc5, hf5⟩ := RB.cells hr5; have hz5 := RB.size hr5; (try simp only [World.size_drew, World.size_alloc, World.size_setCell] at hc5 hf5 hz5); have hq5x0 : w.heap.size < w5.heap.size := (by omega); have ha5x0 : (w5.heap.size = w.heap.size) = False := eq_false (by omega); have hb5x0 : (w.heap.size = w5.heap.size) = False := eq_false (by omega); have he5x0 : (w.heap.size = rb) = False := eq_false (by omega); have hk5x0 := fun o => hc5 (w.heap.size) o (by omega) (by omega); have hj5x0 := fun o => hf5 (w.heap.size) o (by omega) (by omega))
    | (have _ := hr1; go_at_call 47; refine (one_s (1) 1000 rb (p + 20) _ _ _ _ _ (by repeat (first | (with_reducible apply RS.setNew; rotate_left; (first | omega | (simp only [World.size_drew, World.size_alloc, World.size_setCell]; omega))) | with_reducible apply RS.alloc | (with_reducible apply RS.up hr1; omega) | (with_reducible apply RS.mono hs0; omega) | with_reducible apply RS.drew | with_reducible apply RS.drewN)) (by omega) (by repeat (first | exact AllBd.nil | refine AllBd.cons (by omega) (by omega) ?_)) (by rfl) (by omega) (by omega)).mono ?_; rintro e w2 ⟨v2, rfl, va2, vb2, hr2⟩; obtain ⟨hc2, hf2⟩ := RB.cells hr2; have hz2 := RB.size hr2; (try simp only [World.size_drew, World.size_alloc, World.size_setCell] at hc2 hf2 hz2); have hq2x0 : w.heap.size < w2.heap.size := (by omega); have ha2x0 : (w2.heap.size = w.heap.size) = False := eq_false (by omega); have hb2x0 : (w.heap.size = w2.heap.size) = False := eq_false (by omega); have he2x0 : (w.heap.size = rb) = False := eq_false (by omega); have hk2x0 := fun o => hc2 (w.heap.size) o (by omega) (by omega); have hj2x0 := fun o => hf2 (w.heap.size) o (by omega) (by omega)))
  · exact bodyPost_ret (v := s3 1 v2 0) (by simp [results, Tryz.results82, go_sem, *]) rfl ⟨_, _, _, rfl, ⟨Bn.mk ⟨by omega, by omega⟩, Bn.mk ⟨by omega, by omega⟩, Bn.mk ⟨by omega, by omega⟩⟩, RB.mk (by repeat (first | (with_reducible apply But.setNew; rotate_left; (first | omega | (simp only [World.size_drew, World.size_alloc, World.size_setCell]; omega))) | with_reducible apply But.alloc | with_reducible apply But.trans (k := RB.but hr3) | with_reducible apply But.trans (k := RB.but hr2) | with_reducible apply But.trans (k := RB.but hr1) | with_reducible apply But.refl | with_reducible apply But.drewN | with_reducible apply But.drew)) (by repeat (first | (with_reducible apply RS.setNew; rotate_left; (first | omega | (simp only [World.size_drew, World.size_alloc, World.size_setCell]; omega))) | with_reducible apply RS.alloc | (with_reducible apply RS.up hr3; omega) | (with_reducible apply RS.up hr2; omega) | (with_reducible apply RS.up hr1; omega) | (with_reducible apply RS.mono hs0; omega) | with_reducible apply RS.drew | with_reducible apply RS.drewN))⟩
  · exact bodyPost_ret (v := s3 2 v2 v5) (by simp [results, Tryz.results82, go_sem, *]) rfl ⟨_, _, _, rfl, ⟨Bn.mk ⟨by omega, by omega⟩, Bn.mk ⟨by omega, by omega⟩, Bn.mk ⟨by omega, by omega⟩⟩, RB.mk (by repeat (first | (with_reducible apply But.setNew; rotate_left; (first | omega | (simp only [World.size_drew, World.size_alloc, World.size_setCell]; omega))) | with_reducible apply But.alloc | with_reducible apply But.trans (k := RB.but hr5) | with_reducible apply But.trans (k := RB.but hr4) | with_reducible apply But.trans (k := RB.but hr3) | with_reducible apply But.trans (k := RB.but hr2) | with_reducible apply But.trans (k := RB.but hr1) | with_reducible apply But.refl | with_reducible apply But.drewN | with_reducible apply But.drew)) (by repeat (first | (with_reducible apply RS.setNew; rotate_left; (first | omega | (simp only [World.size_drew, World.size_alloc, World.size_setCell]; omega))) | with_reducible apply RS.alloc | (with_reducible apply RS.up hr5; omega) | (with_reducible apply RS.up hr4; omega) | (with_reducible apply RS.up hr3; omega) | (with_reducible apply RS.up hr2; omega) | (with_reducible apply RS.up hr1; omega) | (with_reducible apply RS.mono hs0; omega) | with_reducible apply RS.drew | with_reducible apply RS.drewN))⟩
def Al (w0 w : World) (ab n : Nat) (V : Nat → Int) : Prop := w0.heap.size ≤ ab ∧ ab < w.heap.size ∧ (∀ i, i < n → w.cell? ⟨ab, i, none⟩ = some (.int .i64 (V i))) ∧ ∀ i, i < n → w.frozen? ⟨ab, i, none⟩ = false
theorem Al.up {rb : Nat} {w0 w w' : World} {ab n : Nat} {V : Nat → Int} (h : Al w0 w ab n V) (hrb : rb < w0.heap.size) (k : But rb w w') : Al w0 w' ab n V := by
  obtain ⟨h1, h2, h3, h4⟩ := h
  exact ⟨h1, Nat.lt_of_lt_of_le h2 k.size, fun i hi => (k.cell (p := ⟨ab, i, none⟩) h2 (by simp only [ne_eq]; omega)).trans (h3 i hi), fun i hi => (k.frozen (p := ⟨ab, i, none⟩) h2 (by simp only [ne_eq]; omega)).trans (h4 i hi)⟩
theorem Al.set {w0 w : World} {ab n : Nat} {V : Nat → Int} (h : Al w0 w ab n V) (k : Nat) (hk : k < n) (v : Int) : Al w0 (w.setCell ⟨ab, k, none⟩ (.int .i64 v)) ab n (fun j => if j = k then v else V j) := by
  obtain ⟨h1, h2, h3, h4⟩ := h
  refine ⟨h1, by simpa [World.setCell] using h2, fun i hi => ?_, fun i hi => ?_⟩
  · by_cases e : i = k
    · subst e; rw [cset_map, h3 i hi]; simp
    · rw [cset_other (by intro q; injection q with q1 q2; exact e q2.symm), h3 i hi]; simp [e]
  · rw [World.frozen?_setCell]; exact h4 i hi
theorem but_alloc (rb : Nat) (w : World) (o : Obj) : But rb w (w.alloc o) := (But.refl rb w).alloc o
theorem Al.new {w0 w : World} {cs : Array Value} {t : TypeId} {n : Nat} {V : Nat → Int} (hsz : w0.heap.size ≤ w.heap.size) (hc : ∀ i, i < n → cs[i]? = some (.int .i64 (V i))) : Al w0 (w.alloc (.cells cs t)) w.heap.size n V :=
  ⟨hsz, by simp, fun i hi => by rw [World.cell?_alloc_new]; exact hc i hi, fun i hi => by go_simp⟩
theorem Al.congr {w0 w : World} {ab n : Nat} {V U : Nat → Int} (h : Al w0 w ab n V) (k : ∀ i, i < n → V i = U i) : Al w0 w ab n U :=
  ⟨h.1, h.2.1, fun i hi => by rw [h.2.2.1 i hi, k i hi], h.2.2.2⟩
end Go.Proofs.YtdajfjipomkpdaaGreat
namespace Go.Proofs.YtdajfjipomkpdaaGreat
open Go.RowKit
set_option linter.unusedVariables false
set_option linter.unusedSimpArgs false
section
variable {P : Program} {ops : Array Oper} {Q : Exit → Act → World → Prop} {md : Region.Mode}
end
def Li (w0 w : World) (lb len : Nat) (xs : List Int) : Prop := w0.heap.size ≤ lb ∧ lb < w.heap.size ∧ ∀ i, i < len → w.cell? ⟨lb, i, none⟩ = some (.int .i64 (xs.getD i 0))
theorem Li.up {rb : Nat} {w0 w w' : World} {lb len : Nat} {xs : List Int} (h : Li w0 w lb len xs) (hrb : rb < w0.heap.size) (k : But rb w w') : Li w0 w' lb len xs := by
  obtain ⟨h1, h2, h3⟩ := h
  exact ⟨h1, Nat.lt_of_lt_of_le h2 k.size, fun i hi => (k.cell (p := ⟨lb, i, none⟩) h2 (by simp only [ne_eq]; omega)).trans (h3 i hi)⟩
abbrev VI (lo hi : Int) (x : Value) : Prop := ∃ n, x = .int .i64 n ∧ lo ≤ n ∧ n ≤ hi
abbrev VP (rb : Nat) (x : Value) : Prop := x = .pointer (some ⟨rb, 0, none⟩)
abbrev VN (n : Int) (x : Value) : Prop := x = .int .i64 n
abbrev VV (lo hi : Int) (x : Value) : Prop := ∃ a b, x = vv a b ∧ (lo ≤ a ∧ a ≤ hi) ∧ lo ≤ b ∧ b ≤ hi
abbrev VS (lo hi : Int) (x : Value) : Prop := ∃ a b c, x = s3 a b c ∧ (lo ≤ a ∧ a ≤ hi) ∧ (lo ≤ b ∧ b ≤ hi) ∧ lo ≤ c ∧ c ≤ hi
def VL (w0 w : World) (c : Bool) (len : Nat) (xs : List Int) (x : Value) : Prop := ∃ lb, x = .slice (some ⟨lb, 0, none⟩) len len ∧ (c = false → Li w0 w lb len xs)
def VA (w0 w : World) (c : Bool) (n : Nat) (V : Nat → Int) (x : Value) : Prop := ∃ ab, x = .pointer (some ⟨ab, 0, none⟩) ∧ (c = false → Al w0 w ab n V)
theorem VL.up {rb : Nat} {w0 w w' : World} {c : Bool} {len : Nat} {xs : List Int} {x : Value} (h : VL w0 w c len xs x) (hrb : rb < w0.heap.size) (k : But rb w w') : VL w0 w' c len xs x := by
  obtain ⟨lb, e, h⟩ := h; exact ⟨lb, e, fun q => (h q).up hrb k⟩
theorem VA.up {rb : Nat} {w0 w w' : World} {c : Bool} {n : Nat} {V : Nat → Int} {x : Value} (h : VA w0 w c n V x) (hrb : rb < w0.heap.size) (k : But rb w w') : VA w0 w' c n V x := by
  obtain ⟨lb, e, h⟩ := h; exact ⟨lb, e, fun q => (h q).up hrb k⟩
theorem Li.new {w0 w : World} {cs : Array Value} {t : TypeId} {len : Nat} {xs : List Int} (hsz : w0.heap.size ≤ w.heap.size) (hc : ∀ i, i < len → cs[i]? = some (.int .i64 (xs.getD i 0))) : Li w0 (w.alloc (.cells cs t)) w.heap.size len xs :=
  ⟨hsz, by simp, fun i hi => by rw [World.cell?_alloc_new]; exact hc i hi⟩
end Go.Proofs.YtdajfjipomkpdaaGreat
namespace Go.Proofs.YtdajfjipomkpdaaGreat
open Go.RowKit
set_option linter.unusedVariables false
set_option linter.unusedSimpArgs false
theorem balloc (w : World) (o : Obj) : Below w.heap.size w (w.alloc o) := (Below.refl _ _).alloc (Nat.le_refl _) o
theorem Al.bl {w0 w w' : World} {ab n B : Nat} {V : Nat → Int} (h : Al w0 w ab n V) (k : Below B w w') (hB : ab < B) : Al w0 w' ab n V := by
  obtain ⟨h1, h2, h3, h4⟩ := h
  exact ⟨h1, Nat.lt_of_lt_of_le h2 k.size, fun i hi => (k.cell (p := ⟨ab, i, none⟩) hB).trans (h3 i hi), fun i hi => (k.frozen (p := ⟨ab, i, none⟩) hB).trans (h4 i hi)⟩
theorem Al.ne {rb : Nat} {w0 w w' : World} {ab n : Nat} {V : Nat → Int} (h : Al w0 w ab n V) (hne : ab ≠ rb) (k : But rb w w') : Al w0 w' ab n V := by
  obtain ⟨h1, h2, h3, h4⟩ := h
  exact ⟨h1, Nat.lt_of_lt_of_le h2 k.size, fun i hi => (k.cell (p := ⟨ab, i, none⟩) h2 hne).trans (h3 i hi), fun i hi => (k.frozen (p := ⟨ab, i, none⟩) h2 hne).trans (h4 i hi)⟩
theorem Al.off {w0 w : World} {ab n b k : Nat} {V : Nat → Int} (h : Al w0 w ab n V) (hb : ab ≠ b) (v : Value) : Al w0 (w.setCell ⟨b, k, none⟩ v) ab n V := by
  obtain ⟨h1, h2, h3, h4⟩ := h
  refine ⟨h1, by simpa [World.setCell] using h2, fun i hi => ?_, fun i hi => ?_⟩
  · rw [cset_far (by simp; omega)]; exact h3 i hi
  · rw [World.frozen?_setCell]; exact h4 i hi
abbrev Bls := List (Nat × Nat × (Nat → Int))
structure AL (w w' : World) (L : Bls) : Prop where
  bel : Below w.heap.size w w'
  al : ∀ x ∈ L, Al w w' x.1 x.2.1 x.2.2
theorem AL.nil (w : World) : AL w w [] := ⟨Below.refl _ _, fun x hx => by cases hx⟩
theorem AL.new {w w' : World} {L : Bls} (h : AL w w' L) (b n : Nat) (V : Nat → Int) {cs : Array Value} {t : TypeId} (hb : b = w'.heap.size) (hc : ∀ i, i < n → cs[i]? = some (.int .i64 (V i))) :
    AL w (w'.alloc (.cells cs t)) ((b, n, V) :: L) := by
  subst hb
  refine ⟨h.bel.alloc h.bel.size _, fun x hx => ?_⟩
  rcases List.mem_cons.mp hx with rfl | hx
  · exact Al.new h.bel.size hc
  · exact (h.al x hx).bl (balloc _ _) (h.al x hx).2.1
theorem AL.call {w w' w1 : World} {L : Bls} (h : AL w w' L) (k : Below w'.heap.size w' w1) : AL w w1 L :=
  ⟨h.bel.trans (k.mono h.bel.size), fun x hx => (h.al x hx).bl k (h.al x hx).2.1⟩
theorem AL.get {w w' : World} {L : Bls} (h : AL w w' L) {x : Nat × Nat × (Nat → Int)} (hx : x ∈ L) : Al w w' x.1 x.2.1 x.2.2 := h.al x hx
theorem AL.sub {w w' : World} {L M : Bls} (h : AL w w' L) (k : ∀ x ∈ M, x ∈ L) : AL w w' M := ⟨h.bel, fun x hx => h.al x (k x hx)⟩
theorem AL.lt {w w' : World} {L : Bls} (h : AL w w' L) {x : Nat × Nat × (Nat → Int)} (hx : x ∈ L) : x.1 < w'.heap.size := (h.al x hx).2.1
theorem AL.drew {w w' : World} {L : Bls} (h : AL w w' L) : AL w w'.drew L := ⟨h.bel.drew, h.al⟩
theorem AL.set {w w' : World} {b n : Nat} {V : Nat → Int} {L : Bls} (h : AL w w' ((b, n, V) :: L)) (hne : ∀ x ∈ L, x.1 ≠ b) (k : Nat) (hk : k < n) (v : Int) :
    AL w (w'.setCell ⟨b, k, none⟩ (.int .i64 v)) ((b, n, fun j => if j = k then v else V j) :: L) := by
  have hb := h.al _ (List.mem_cons_self ..)
  have hlo := hb.1
  dsimp only at hlo
  refine ⟨h.bel.setCell (by simpa using hlo) _, fun x hx => ?_⟩
  rcases List.mem_cons.mp hx with rfl | hx
  · exact hb.set k hk v
  · exact (h.al x (List.mem_cons_of_mem _ hx)).off (hne x hx) _
structure DL (w w' : World) (rb p : Nat) (L : Bls) : Prop where
  rs : RS w' rb p
  bel : Below w.heap.size w w'
  lo : w.heap.size ≤ rb
  al : ∀ x ∈ L, Al w w' x.1 x.2.1 x.2.2 ∧ x.1 ≠ rb
theorem AL.opened {w w0 w1 : World} {L : Bls} (h : AL w w0 L) (k : Below w0.heap.size w0 w1) (r : RS w1 w0.heap.size 0) : DL w w1 w0.heap.size 0 L :=
  ⟨r, h.bel.trans (k.mono h.bel.size), h.bel.size, fun x hx => ⟨(h.al x hx).bl k (h.al x hx).2.1, by have := (h.al x hx).2.1; omega⟩⟩
theorem DL.call {w w' w1 : World} {rb p p1 : Nat} {L : Bls} (h : DL w w' rb p L) (k : RB w' w1 rb p1) : DL w w1 rb p1 L :=
  ⟨RS.of k, h.bel.trans (k.but.below h.lo h.bel.size), h.lo, fun x hx => ⟨(h.al x hx).1.ne (h.al x hx).2 k.but, (h.al x hx).2⟩⟩
theorem DL.mono {w w' : World} {rb p p1 : Nat} {L : Bls} (h : DL w w' rb p L) (k : p ≤ p1) : DL w w' rb p1 L := ⟨h.rs.mono k, h.bel, h.lo, h.al⟩
theorem DL.drew {w w' : World} {rb p : Nat} {L : Bls} (h : DL w w' rb p L) : DL w w'.drew rb p L := ⟨h.rs.drew, h.bel.drew, h.lo, h.al⟩
theorem DL.new {w w' : World} {rb p : Nat} {L : Bls} (h : DL w w' rb p L) (n : Nat) (V : Nat → Int) {cs : Array Value} {t : TypeId} (hc : ∀ i, i < n → cs[i]? = some (.int .i64 (V i))) :
    DL w (w'.alloc (.cells cs t)) rb p ((w'.heap.size, n, V) :: L) := by
  refine ⟨h.rs.alloc _, h.bel.alloc h.bel.size _, h.lo, fun x hx => ?_⟩
  rcases List.mem_cons.mp hx with rfl | hx
  · exact ⟨Al.new h.bel.size hc, by have := h.rs.lt; dsimp only; omega⟩
  · exact ⟨(h.al x hx).1.bl (balloc _ _) (h.al x hx).1.2.1, (h.al x hx).2⟩
theorem DL.alloc {w w' : World} {rb p : Nat} {L : Bls} (h : DL w w' rb p L) (o : Obj) : DL w (w'.alloc o) rb p L :=
  ⟨h.rs.alloc _, h.bel.alloc h.bel.size _, h.lo, fun x hx => ⟨(h.al x hx).1.bl (balloc _ _) (h.al x hx).1.2.1, (h.al x hx).2⟩⟩
theorem DL.sub {w w' : World} {rb p : Nat} {L M : Bls} (h : DL w w' rb p L) (k : ∀ x ∈ M, x ∈ L) : DL w w' rb p M := ⟨h.rs, h.bel, h.lo, fun x hx => h.al x (k x hx)⟩
theorem DL.get {w w' : World} {rb p : Nat} {L : Bls} (h : DL w w' rb p L) {x : Nat × Nat × (Nat → Int)} (hx : x ∈ L) : Al w w' x.1 x.2.1 x.2.2 := (h.al x hx).1
theorem DL.lt {w w' : World} {rb p : Nat} {L : Bls} (h : DL w w' rb p L) {x : Nat × Nat × (Nat → Int)} (hx : x ∈ L) : x.1 < w'.heap.size := (h.al x hx).1.2.1
theorem DL.headc {w w' : World} {rb p b n : Nat} {V U : Nat → Int} {L : Bls} (h : DL w w' rb p ((b, n, V) :: L)) (k : ∀ i, i < n → V i = U i) : DL w w' rb p ((b, n, U) :: L) := by
  refine ⟨h.rs, h.bel, h.lo, fun x hx => ?_⟩
  rcases List.mem_cons.mp hx with rfl | hx
  · have q := h.al _ (List.mem_cons_self ..)
    exact ⟨q.1.congr k, q.2⟩
  · exact h.al x (List.mem_cons_of_mem _ hx)
theorem DL.set {w w' : World} {rb p b n : Nat} {V : Nat → Int} {L : Bls} (h : DL w w' rb p ((b, n, V) :: L)) (hr : rb < b) (hne : ∀ x ∈ L, x.1 ≠ b) (k : Nat) (hk : k < n) (v : Int) :
    DL w (w'.setCell ⟨b, k, none⟩ (.int .i64 v)) rb p ((b, n, fun j => if j = k then v else V j) :: L) := by
  have hb := (h.al _ (List.mem_cons_self ..)).1
  have hlo := hb.1
  dsimp only at hlo
  refine ⟨h.rs.setNew (by simpa using hr) _, h.bel.setCell (by simpa using hlo) _, h.lo, fun x hx => ?_⟩
  rcases List.mem_cons.mp hx with rfl | hx
  · exact ⟨hb.set k hk v, by dsimp only; omega⟩
  · exact ⟨(h.al x (List.mem_cons_of_mem _ hx)).1.off (hne x hx) _, (h.al x (List.mem_cons_of_mem _ hx)).2⟩
structure BL (w w' : World) (rb p : Nat) (L : Bls) : Prop where
  rs : RS w' rb p
  but : But rb w w'
  lo : rb < w.heap.size
  al : ∀ x ∈ L, Al w w' x.1 x.2.1 x.2.2
theorem BL.start {w : World} {rb p : Nat} (h : RS w rb p) : BL w w rb p [] := ⟨h, But.refl _ _, h.lt, fun x hx => by cases hx⟩
theorem BL.call {w w' w1 : World} {rb p p1 : Nat} {L : Bls} (h : BL w w' rb p L) (k : RB w' w1 rb p1) : BL w w1 rb p1 L :=
  ⟨RS.of k, h.but.trans k.but, h.lo, fun x hx => (h.al x hx).up h.lo k.but⟩
theorem BL.calb {w w' w1 : World} {rb p : Nat} {L : Bls} (h : BL w w' rb p L) (k : Below w'.heap.size w' w1) : BL w w1 rb p L := by
  obtain ⟨q, a, b⟩ := h.rs
  exact h.call (RB.mk (But.of_below k) ⟨q, a, b.below k⟩)
theorem BL.mono {w w' : World} {rb p p1 : Nat} {L : Bls} (h : BL w w' rb p L) (k : p ≤ p1) : BL w w' rb p1 L := ⟨h.rs.mono k, h.but, h.lo, h.al⟩
theorem BL.drew {w w' : World} {rb p : Nat} {L : Bls} (h : BL w w' rb p L) : BL w w'.drew rb p L := ⟨h.rs.drew, h.but.drew, h.lo, h.al⟩
theorem BL.new {w w' : World} {rb p : Nat} {L : Bls} (h : BL w w' rb p L) (b n : Nat) (V : Nat → Int) {cs : Array Value} {t : TypeId} (hb : b = w'.heap.size) (hc : ∀ i, i < n → cs[i]? = some (.int .i64 (V i))) :
    BL w (w'.alloc (.cells cs t)) rb p ((b, n, V) :: L) := by
  subst hb
  refine ⟨h.rs.alloc _, h.but.alloc _, h.lo, fun x hx => ?_⟩
  rcases List.mem_cons.mp hx with rfl | hx
  · exact Al.new h.but.size hc
  · exact (h.al x hx).bl (balloc _ _) (h.al x hx).2.1
theorem BL.alloc {w w' : World} {rb p : Nat} {L : Bls} (h : BL w w' rb p L) (o : Obj) : BL w (w'.alloc o) rb p L :=
  ⟨h.rs.alloc _, h.but.alloc _, h.lo, fun x hx => (h.al x hx).bl (balloc _ _) (h.al x hx).2.1⟩
theorem BL.sub {w w' : World} {rb p : Nat} {L M : Bls} (h : BL w w' rb p L) (k : ∀ x ∈ M, x ∈ L) : BL w w' rb p M := ⟨h.rs, h.but, h.lo, fun x hx => h.al x (k x hx)⟩
theorem BL.get {w w' : World} {rb p : Nat} {L : Bls} (h : BL w w' rb p L) {x : Nat × Nat × (Nat → Int)} (hx : x ∈ L) : Al w w' x.1 x.2.1 x.2.2 := h.al x hx
theorem BL.lt {w w' : World} {rb p : Nat} {L : Bls} (h : BL w w' rb p L) {x : Nat × Nat × (Nat → Int)} (hx : x ∈ L) : x.1 < w'.heap.size := (h.al x hx).2.1
theorem BL.set {w w' : World} {rb p b n : Nat} {V : Nat → Int} {L : Bls} (h : BL w w' rb p ((b, n, V) :: L)) (hne : ∀ x ∈ L, x.1 ≠ b) (k : Nat) (hk : k < n) (v : Int) :
    BL w (w'.setCell ⟨b, k, none⟩ (.int .i64 v)) rb p ((b, n, fun j => if j = k then v else V j) :: L) := by
  have hb := h.al _ (List.mem_cons_self ..)
  have hlo := hb.1
  dsimp only at hlo
  have h0 := h.lo
  refine ⟨h.rs.setNew (by dsimp only; omega) _, h.but.setNew (by simpa using hlo) _, h.lo, fun x hx => ?_⟩
  rcases List.mem_cons.mp hx with rfl | hx
  · exact hb.set k hk v
  · exact (h.al x (List.mem_cons_of_mem _ hx)).off (hne x hx) _
theorem BL.headc {w w' : World} {rb p b n : Nat} {V U : Nat → Int} {L : Bls} (h : BL w w' rb p ((b, n, V) :: L)) (k : ∀ i, i < n → V i = U i) : BL w w' rb p ((b, n, U) :: L) := by
  refine ⟨h.rs, h.but, h.lo, fun x hx => ?_⟩
  rcases List.mem_cons.mp hx with rfl | hx
  · exact (h.al _ (List.mem_cons_self ..)).congr k
  · exact h.al x (List.mem_cons_of_mem _ hx)
theorem BL.done {w w' : World} {rb p : Nat} {L : Bls} (h : BL w w' rb p L) : RB w w' rb p := RB.mk h.but h.rs
end Go.Proofs.YtdajfjipomkpdaaGreat
