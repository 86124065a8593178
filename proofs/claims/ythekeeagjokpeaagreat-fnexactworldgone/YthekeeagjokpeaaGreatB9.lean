/- A body of columns, handed out; one that is pushed. One body that was given, by its handle. BodyOk, BodySleeps and BodyPush, by the program. Worlds that are handed out with a code. Marks on a world; lists of numbers. Worlds in memory of their own, marked and held. The exact law of WorldOk, walked. What may not be is 0. The contracts of the specification's BoxBoth and BoxNear. The contract of the specification's BoxNear. How two round shapes, and two boxes, touch, by the specification. -/
import Derived.Test.YthekeeagjokpeaaGreatB8
import Derived.Test.YthekeeagjokpeaaGreatHkOk
import Derived.Test.YthekeeagjokpeaaGreatB5
import Derived.Test.YthekeeagjokpeaaGreatB2
import Derived.Deep.RegionHeld3
import Derived.Deep.DeepCutAuto
import Derived.Test.YthekeeagjokpeaaGreatB6
import Derived.Deep.QuietTactic
import Derived.BigQuiet
import Derived.Deep.RegionWith
namespace Go.Proofs.YthekeeagjokpeaaGreat
open Go.RowKit
set_option linter.unusedVariables false
set_option linter.unusedSimpArgs false

/-- columns of which a row was pushed -/
def pushC (C : Nat → Nat → Int) (k : Nat) (p q : Int) : Nat → Nat → Int := if C 8 k = 0 then C else setC (setC (setC C 6 k (clampZ 20000000 (C 6 k + p))) 7 k (clampZ 20000000 (C 7 k + q))) 11 k 0
end Go.Proofs.YthekeeagjokpeaaGreat
namespace Go.Proofs.YthekeeagjokpeaaGreat
open Go.RowKit
set_option linter.unusedVariables false
set_option linter.unusedSimpArgs false

theorem flatB (w : World) (V : Nat → Int) (t : TypeId) (s : Nat) (e : w.heap.size = s) : Flat (w.alloc (Obj.cells #[.int .i64 (V 0), .int .i64 (V 1), .int .i64 (V 2), .int .i64 (V 3), .int .i64 (V 4), .int .i64 (V 5), .int .i64 (V 6), .int .i64 (V 7), .int .i64 (V 8), .int .i64 (V 9), .int .i64 (V 10), .int .i64 (V 11)] t)) (some ⟨s, 0, none⟩) (1 * 12) V := by
  subst e
  intro _
  refine ⟨w.heap.size, 0, rfl, by simp, fun j hj => ?_⟩
  rw [Nat.zero_add]
  rcases (show j = 0 ∨ j = 1 ∨ j = 2 ∨ j = 3 ∨ j = 4 ∨ j = 5 ∨ j = 6 ∨ j = 7 ∨ j = 8 ∨ j = 9 ∨ j = 10 ∨ j = 11 by omega) with rfl | rfl | rfl | rfl | rfl | rfl | rfl | rfl | rfl | rfl | rfl | rfl <;> go_simp
theorem handle_0 (cb : Nat) (w : World) : Calls Tryz.prog 77 #[.pointer (some ⟨cb, 0, none⟩), .int .i64 0] w fun e w' => e = .returned (.agg #[.int .i64 0, .pointer (some ⟨cb, 0, none⟩)]) ∧ Below w.heap.size w w' := handle_any cb 0 w
theorem kOk_z {cb n : Nat} {V : Nat → Int} {G : Nat → Nat} {w : World} (h : HAt w cb n 0 V G) (b : Bool) (e : bodyB V = b) :
    Calls Tryz.prog 78 #[.agg #[.int .i64 0, .pointer (some ⟨cb, 0, none⟩)]] w fun e w' => e = .returned (.bool b) ∧ Below w.heap.size w w' := kOk_q h b e
theorem Cs.setO {w : World} {cb n b o : Nat} {C : Nat → Nat → Int} {S : Nat → Value} (h : Cs w cb n C S) (hb : b < cb) (v : Value) : Cs (w.setCell ⟨b, o, none⟩ v) cb n C S :=
  h.frame (X := fun x => x = b) (Fr.setCell (X := fun x => x = b) rfl _) (by show ¬ cb = b; omega) (fun x hx e => by have := (h.xlt hx).1; omega)
set_option maxRecDepth 20000 in
set_option maxHeartbeats 2000000 in
theorem handleOf_k (V : Nat → Int) (w : World) (KB : Bool) (eK : bodyB V = KB) :
    Calls Tryz.prog 51 #[bodyW V] w fun e w' => ∃ cb S, e = .returned (.tuple #[hdk cb 0, .bool KB]) ∧ w.heap.size + 1 < cb ∧ Cs w' cb 1 (fun i _ => V i) S ∧ Below w.heap.size w w' := by
  have hset := cset_map
  go_enter Tryz.func51, Tryz.ntmps51
  go_upto_region 2 with (first
    | (go_at_call 77; refine (handle_0 _ _).mono ?_; rintro e w2 ⟨rfl, hb2⟩; obtain ⟨hc2, hf2⟩ := bcell hb2; have hz2 := hb2.size; (try simp only [World.size_drew, World.size_alloc, World.size_setCell] at hc2 hf2 hz2); have hk2x0 := fun o => hc2 (w.heap.size + 1) o (by omega); have hj2x0 := fun o => hf2 (w.heap.size + 1) o (by omega); have hq2x0 : w.heap.size + 1 < w2.heap.size := (by omega); clear hc2 hf2)
    | (go_at_call 76; refine (rowsOf_any _ 1 _ V _ (flatB _ V _ _ (by simp)) (by omega)).mono ?_; rintro e w1 ⟨rfl, hb1, S, hC1⟩; obtain ⟨hc1, hf1⟩ := bcell hb1; have hz1 := hb1.size; (try simp only [World.size_drew, World.size_alloc, World.size_setCell] at hc1 hf1 hz1 hC1); have hC1 := hC1.congr (C' := fun i _ => V i) (fun i k _ hk => (by obtain rfl : k = 0 := (by omega); simp [colOf])); have hk1x0 := fun o => hc1 (w.heap.size + 1) o (by omega); have hj1x0 := fun o => hf1 (w.heap.size + 1) o (by omega); have hq1x0 : w.heap.size + 1 < w1.heap.size := (by omega); clear hc1 hf1))
  refine wp_region_held_drew (S := fun w' => w'.cell? ⟨w2.heap.size, 0, none⟩ = some (.int .i64 (0 : Int)) ∧ w'.cell? ⟨w2.heap.size, 1, none⟩ = some (.pointer (some ⟨w.heap.size + 1 + 1 + 1, 0, none⟩))) (by kernel_rfl) ?_ (fun hHeld => ?_)
  · (try dsimp only)
    (first | (go_simp; done) | (go_keep; done))
  refine tq 0 hHeld ?_
  refine tq 1 hHeld ?_
  (refine tc 2 fun K hK => ?_; go_simp; (go_at_call 78; refine (kOk_z ((hC1.below (by repeat (first | with_reducible apply Below.refl | (with_reducible apply Below.setCell; rotate_left; focus (first | omega | (simp; done) | (simp; omega))) | (with_reducible apply Below.alloc; rotate_left; focus (first | omega | (simp; done) | (simp; omega))) | with_reducible apply Below.drew | with_reducible apply belowDrewN | (with_reducible apply Below.trans; rotate_left; with_reducible apply Below.mono; with_reducible assumption; focus (first | omega | (simp; done) | (simp; omega)))))).hat (by omega) (by omega)) KB eK).mono ?_; rintro e w3 ⟨rfl, hb3⟩; obtain ⟨hc3, hf3⟩ := bcell hb3; have hz3 := hb3.size; (try simp only [World.size_drew, World.size_alloc, World.size_setCell] at hc3 hf3 hz3); have hk3x0 := fun o => hc3 (w.heap.size + 1) o (by omega); have hj3x0 := fun o => hf3 (w.heap.size + 1) o (by omega); have hq3x0 : w.heap.size + 1 < w3.heap.size := (by omega); have hk3x1 := fun o => hc3 (w2.heap.size) o (by omega); have hj3x1 := fun o => hf3 (w2.heap.size) o (by omega); have hq3x1 : w2.heap.size < w3.heap.size := (by omega); clear hc3 hf3); (try go_wp2_with fail); refine tr hK (fun hHeld => ?_); clear hK K)
  (refine tc 3 fun K hK => ?_; go_simp; refine tr hK (fun hHeld => ?_); clear hK K)
  refine tq 4 hHeld ?_
  refine wpAnyH_done (by kernel_rfl) ?_ _
  go_wp2_with fail
  exact bodyPost_ret (v := .tuple #[.agg #[.int .i64 0, .pointer (some ⟨w.heap.size + 1 + 1 + 1, 0, none⟩)], .bool KB]) (by simp [results, Tryz.results51, go_sem, *]) rfl ⟨w.heap.size + 1 + 1 + 1, S, rfl, by omega, ((hC1.below (w' := w3) (by repeat (first | with_reducible apply Below.refl | (with_reducible apply Below.setCell; rotate_left; focus (first | omega | (simp; done) | (simp; omega))) | (with_reducible apply Below.alloc; rotate_left; focus (first | omega | (simp; done) | (simp; omega))) | with_reducible apply Below.drew | with_reducible apply belowDrewN | (with_reducible apply Below.trans; rotate_left; with_reducible apply Below.mono; with_reducible assumption; focus (first | omega | (simp; done) | (simp; omega)))))).setO (by omega) _).setO (by omega) _, by repeat (first | with_reducible apply Below.refl | (with_reducible apply Below.setCell; rotate_left; focus (first | omega | (simp; done) | (simp; omega))) | (with_reducible apply Below.alloc; rotate_left; focus (first | omega | (simp; done) | (simp; omega))) | with_reducible apply Below.drew | with_reducible apply belowDrewN | (with_reducible apply Below.trans; rotate_left; with_reducible apply Below.mono; with_reducible assumption; focus (first | omega | (simp; done) | (simp; omega))))⟩
end Go.Proofs.YthekeeagjokpeaaGreat
namespace Go.Proofs.YthekeeagjokpeaaGreat
open Go.RowKit
set_option linter.unusedVariables false
set_option linter.unusedSimpArgs false

def setV (V : Nat → Int) (k : Nat) (a : Int) : Nat → Int := fun j => if j = k then a else V j
/-- a body that was pushed -/
def pushV (V : Nat → Int) (p q : Int) : Nat → Int := if V 8 = 0 then V else setV (setV (setV V 6 (clampZ 20000000 (V 6 + p))) 7 (clampZ 20000000 (V 7 + q))) 11 0
theorem pushC_V (C : Nat → Nat → Int) (k : Nat) (p q : Int) : (fun i => pushC C k p q i k) = pushV (fun i => C i k) p q := by
  funext i
  unfold pushC pushV
  by_cases m : C 8 k = 0
  · rw [if_pos m, if_pos m]
  · rw [if_neg m, if_neg m]; simp [setC, setV]
end Go.Proofs.YthekeeagjokpeaaGreat
namespace Go.Proofs.YthekeeagjokpeaaGreat
open Go.RowKit
set_option linter.unusedVariables false
set_option linter.unusedSimpArgs false

/-- an answer: a world and a code -/
structure WA where
  T : Int
  P : Int
  n : Nat
  U : Nat → Int
  m : Nat
  Q : Nat → Int
  k : Int
def WOut (w w' : World) (e : Ending) (A : WA) : Prop := ∃ a1 c1 a2 c2, e = .returned (.tuple #[worldW A.T A.P a1 A.n c1 a2 A.m c2, .int .i64 A.k]) ∧ OutW w w' a1 A.n c1 A.U a2 A.m c2 A.Q
def WA.none : WA := ⟨0, 0, 0, fun _ => 0, 0, fun _ => 0, 1⟩
theorem OutW.nil {w w' : World} {U Q : Nat → Int} (h : Below w.heap.size w w') : OutW w w' none 0 0 U none 0 0 Q := ⟨h, OwnL.nil _ _ _ _ _, OwnL.nil _ _ _ _ _, fun b e => by simp [Value.ownBlock] at e⟩
theorem OutW.res {w0 wB w4 : World} {a a' : Option Addr} {n c m c' b : Nat} {U Q : Nat → Int} (h : OutW wB w4 a n c U a' m c' Q) (hb : Below w0.heap.size w0 wB) (h1 : w0.heap.size ≤ b) (h2 : b < wB.heap.size) (v0 v1 v2 v3 : Value) :
    OutW w0 ((((w4.setCell ⟨b, 0, none⟩ v0).setCell ⟨b, 1, none⟩ v1).setCell ⟨b, 2, none⟩ v2).setCell ⟨b, 3, none⟩ v3) a n c U a' m c' Q :=
  ⟨((((hb.trans (h.bel.mono hb.size)).setCell h1 _).setCell h1 _).setCell h1 _).setCell h1 _, ((((h.ob.setO h2 _).setO h2 _).setO h2 _).setO h2 _).base hb.size, ((((h.op.setO h2 _).setO h2 _).setO h2 _).setO h2 _).base hb.size, h.ne⟩
/-- a world in a variable at bx, its lists in memory of their own -/
structure Vw (wc : World) (lo hi bx : Nat) (T P : Int) (a1 : Option Addr) (n k1 : Nat) (U : Nat → Int) (a2 : Option Addr) (m k2 : Nat) (Q : Nat → Int) : Prop where
  c0 : wc.cell? ⟨bx, 0, none⟩ = some (.int .i64 T)
  c1 : wc.cell? ⟨bx, 1, none⟩ = some (.int .i64 P)
  c2 : wc.cell? ⟨bx, 2, none⟩ = some (.slice a1 n k1)
  c3 : wc.cell? ⟨bx, 3, none⟩ = some (.slice a2 m k2)
  nf : ∀ o, wc.frozen? ⟨bx, o, none⟩ = false
  bl : lo ≤ bx
  bh : bx < hi
  le : hi ≤ wc.heap.size
  ob : OwnL wc lo 55 12 (.slice a1 n k1) n U
  op : OwnL wc lo 45 2 (.slice a2 m k2) m Q
  t1 : ∀ b, (Value.slice a1 n k1).ownBlock = some b → b < hi ∧ b ≠ bx
  t2 : ∀ b, (Value.slice a2 m k2).ownBlock = some b → b < hi ∧ b ≠ bx
theorem Vw.blt {wc : World} {lo hi bx : Nat} {T P : Int} {a1 : Option Addr} {n c1 : Nat} {U : Nat → Int} {a2 : Option Addr} {m c2 : Nat} {Q : Nat → Int} (h : Vw wc lo hi bx T P a1 n c1 U a2 m c2 Q) : bx < wc.heap.size := Nat.lt_of_lt_of_le h.bh h.le
theorem Vw.on {wc : World} {lo hi bx : Nat} {T P : Int} {a1 : Option Addr} {n c1 : Nat} {U : Nat → Int} {a2 : Option Addr} {m c2 : Nat} {Q : Nat → Int} {w' : World} (h : Vw wc lo hi bx T P a1 n c1 U a2 m c2 Q) (hb : Below wc.heap.size wc w') : Vw w' lo hi bx T P a1 n c1 U a2 m c2 Q :=
  ⟨(hb.cell (p := ⟨bx, 0, none⟩) h.blt).trans h.c0, (hb.cell (p := ⟨bx, 1, none⟩) h.blt).trans h.c1, (hb.cell (p := ⟨bx, 2, none⟩) h.blt).trans h.c2, (hb.cell (p := ⟨bx, 3, none⟩) h.blt).trans h.c3, fun o => (hb.frozen (p := ⟨bx, o, none⟩) h.blt).trans (h.nf o), h.bl, h.bh, Nat.le_trans h.le hb.size, h.ob.below hb, h.op.below hb, h.t1, h.t2⟩
theorem Vw.fr {X : Nat → Prop} {wc : World} {lo hi bx : Nat} {T P : Int} {a1 : Option Addr} {n c1 : Nat} {U : Nat → Int} {a2 : Option Addr} {m c2 : Nat} {Q : Nat → Int} {w' : World} (h : Vw wc lo hi bx T P a1 n c1 U a2 m c2 Q) (hs : Fr X wc w') (hX : ∀ b, X b → b < lo ∨ hi ≤ b) : Vw w' lo hi bx T P a1 n c1 U a2 m c2 Q := by
  have nb : ¬ X bx := fun x => by have := hX _ x; have := h.bl; have := h.bh; omega
  have k := fun o => hs.cell (p := ⟨bx, o, none⟩) h.blt nb
  exact ⟨(k 0).trans h.c0, (k 1).trans h.c1, (k 2).trans h.c2, (k 3).trans h.c3, fun o => (hs.frozen (p := ⟨bx, o, none⟩) h.blt nb).trans (h.nf o), h.bl, h.bh, Nat.le_trans h.le hs.size,
    h.ob.frame hs (fun b e x => by have := hX _ x; have := (h.ob.lt b e).1; have := (h.t1 b e).1; omega), h.op.frame hs (fun b e x => by have := hX _ x; have := (h.op.lt b e).1; have := (h.t2 b e).1; omega), h.t1, h.t2⟩
theorem Vw.fb {wc : World} {lo hi bx : Nat} {T P : Int} {a1 : Option Addr} {n c1 : Nat} {U : Nat → Int} {a2 : Option Addr} {m c2 : Nat} {Q : Nat → Int} (h : Vw wc lo hi bx T P a1 n c1 U a2 m c2 Q) : Flat wc a1 (n * 12) U := h.ob.flat
theorem Vw.fp {wc : World} {lo hi bx : Nat} {T P : Int} {a1 : Option Addr} {n c1 : Nat} {U : Nat → Int} {a2 : Option Addr} {m c2 : Nat} {Q : Nat → Int} (h : Vw wc lo hi bx T P a1 n c1 U a2 m c2 Q) : Flat wc a2 (m * 2) Q := h.op.flat
/-- what a call made, stored into a new variable -/
theorem Vw.new {w0 w1 : World} {T P : Int} {a1 a2 : Option Addr} {n c1 m c2 : Nat} {U Q : Nat → Int} (h : OutW w0 w1 a1 n c1 U a2 m c2 Q) :
    Vw (w1.alloc (.cells #[.int .i64 T, .int .i64 P, .slice a1 n c1, .slice a2 m c2] 30)) w0.heap.size (w1.heap.size + 1) w1.heap.size T P a1 n c1 U a2 m c2 Q := by
  have hE : Below w1.heap.size w1 (w1.alloc (.cells #[.int .i64 T, .int .i64 P, .slice a1 n c1, .slice a2 m c2] 30)) := (Below.refl _ _).alloc (Nat.le_refl _) _
  exact ⟨by go_simp, by go_simp, by go_simp, by go_simp, fun o => by go_simp, h.bel.size, by omega, by simp, h.ob.below hE, h.op.below hE, fun b e => by have := (h.ob.lt b e).2; omega, fun b e => by have := (h.op.lt b e).2; omega⟩
/-- it is handed out -/
theorem Vw.out {wc : World} {lo hi bx : Nat} {T P : Int} {a1 : Option Addr} {n c1 : Nat} {U : Nat → Int} {a2 : Option Addr} {m c2 : Nat} {Q : Nat → Int} {w : World} {b : Nat} (h : Vw wc lo hi bx T P a1 n c1 U a2 m c2 Q) (hb : Below w.heap.size w wc) (h1 : w.heap.size ≤ b) (h2 : b < lo) (v0 v1 v2 v3 : Value) :
    OutW w ((((wc.setCell ⟨b, 0, none⟩ v0).setCell ⟨b, 1, none⟩ v1).setCell ⟨b, 2, none⟩ v2).setCell ⟨b, 3, none⟩ v3) a1 n c1 U a2 m c2 Q :=
  ⟨(((hb.setCell h1 _).setCell h1 _).setCell h1 _).setCell h1 _, ((((h.ob.setO h2 _).setO h2 _).setO h2 _).setO h2 _).base (B := w.heap.size) (by omega), ((((h.op.setO h2 _).setO h2 _).setO h2 _).setO h2 _).base (B := w.heap.size) (by omega), h.ob.neT h.op (by decide)⟩
/-- its bodies are changed in their own memory -/
theorem Vw.bods {wc : World} {lo hi bx : Nat} {T P : Int} {n c1 : Nat} {U : Nat → Int} {a2 : Option Addr} {m c2 : Nat} {Q : Nat → Int} {w' : World} {g : Nat} {U' : Nat → Int} (h : Vw wc lo hi bx T P (some ⟨g, 0, none⟩) n c1 U a2 m c2 Q) (hn : 0 < n) (hs : Fr (fun b => b = g) wc w') (ho : OwnL w' lo 55 12 (.slice (some ⟨g, 0, none⟩) n c1) n U') : Vw w' lo hi bx T P (some ⟨g, 0, none⟩) n c1 U' a2 m c2 Q := by
  have hg := h.t1 g rfl
  have nb : ¬ bx = g := fun e => hg.2 e.symm
  have k := fun o => hs.cell (p := ⟨bx, o, none⟩) h.blt nb
  exact ⟨(k 0).trans h.c0, (k 1).trans h.c1, (k 2).trans h.c2, (k 3).trans h.c3, fun o => (hs.frozen (p := ⟨bx, o, none⟩) h.blt nb).trans (h.nf o), h.bl, h.bh, Nat.le_trans h.le hs.size,
    ho, h.op.frame hs (fun b e x => h.ob.neT h.op (by decide) g rfl (x ▸ e)), h.t1, h.t2⟩
/-- a list of which one thing was replaced -/
def putRow (U : Nat → Int) (p : Nat) (V : Nat → Int) : Nat → Int := fun q => if p * 12 ≤ q ∧ q < p * 12 + 12 then V (q - p * 12) else U q
theorem put12 {w4 : World} {base n g c p : Nat} {U : Nat → Int} (h : OwnL w4 base 55 12 (.slice (some ⟨g, 0, none⟩) n c) n U) (hp : p < n) (V : Nat → Int) :
    OwnL ((((((((((((w4.setCell ⟨g, p * 12, none⟩ (.int .i64 (V 0))).setCell ⟨g, p * 12 + 1, none⟩ (.int .i64 (V 1))).setCell ⟨g, p * 12 + 2, none⟩ (.int .i64 (V 2))).setCell ⟨g, p * 12 + 3, none⟩ (.int .i64 (V 3))).setCell ⟨g, p * 12 + 4, none⟩ (.int .i64 (V 4))).setCell ⟨g, p * 12 + 5, none⟩ (.int .i64 (V 5))).setCell ⟨g, p * 12 + 6, none⟩ (.int .i64 (V 6))).setCell ⟨g, p * 12 + 7, none⟩ (.int .i64 (V 7))).setCell ⟨g, p * 12 + 8, none⟩ (.int .i64 (V 8))).setCell ⟨g, p * 12 + 9, none⟩ (.int .i64 (V 9))).setCell ⟨g, p * 12 + 10, none⟩ (.int .i64 (V 10))).setCell ⟨g, p * 12 + 11, none⟩ (.int .i64 (V 11))) base 55 12 (.slice (some ⟨g, 0, none⟩) n c) n (putRow U p V) := by
  have q1 := h.setq (p * 12) (by omega) (V 0)
  have q2 := q1.setq (p * 12 + 1) (by omega) (V 1)
  have q3 := q2.setq (p * 12 + 2) (by omega) (V 2)
  have q4 := q3.setq (p * 12 + 3) (by omega) (V 3)
  have q5 := q4.setq (p * 12 + 4) (by omega) (V 4)
  have q6 := q5.setq (p * 12 + 5) (by omega) (V 5)
  have q7 := q6.setq (p * 12 + 6) (by omega) (V 6)
  have q8 := q7.setq (p * 12 + 7) (by omega) (V 7)
  have q9 := q8.setq (p * 12 + 8) (by omega) (V 8)
  have q10 := q9.setq (p * 12 + 9) (by omega) (V 9)
  have q11 := q10.setq (p * 12 + 10) (by omega) (V 10)
  have q12 := q11.setq (p * 12 + 11) (by omega) (V 11)
  refine q12.congr fun q _ => ?_
  unfold putRow
  by_cases e : p * 12 ≤ q ∧ q < p * 12 + 12
  · rw [if_pos e]
    obtain ⟨d, rfl⟩ : ∃ d, q = p * 12 + d := ⟨q - p * 12, by omega⟩
    rw [Nat.add_sub_cancel_left]
    rcases (show d = 0 ∨ d = 1 ∨ d = 2 ∨ d = 3 ∨ d = 4 ∨ d = 5 ∨ d = 6 ∨ d = 7 ∨ d = 8 ∨ d = 9 ∨ d = 10 ∨ d = 11 by omega) with rfl | rfl | rfl | rfl | rfl | rfl | rfl | rfl | rfl | rfl | rfl | rfl <;> simp
  · rw [if_neg e]
    repeat rw [if_neg (by omega)]
theorem putFr {w4 : World} {g p : Nat} (V : Nat → Int) : Fr (fun b => b = g) w4 ((((((((((((w4.setCell ⟨g, p * 12, none⟩ (.int .i64 (V 0))).setCell ⟨g, p * 12 + 1, none⟩ (.int .i64 (V 1))).setCell ⟨g, p * 12 + 2, none⟩ (.int .i64 (V 2))).setCell ⟨g, p * 12 + 3, none⟩ (.int .i64 (V 3))).setCell ⟨g, p * 12 + 4, none⟩ (.int .i64 (V 4))).setCell ⟨g, p * 12 + 5, none⟩ (.int .i64 (V 5))).setCell ⟨g, p * 12 + 6, none⟩ (.int .i64 (V 6))).setCell ⟨g, p * 12 + 7, none⟩ (.int .i64 (V 7))).setCell ⟨g, p * 12 + 8, none⟩ (.int .i64 (V 8))).setCell ⟨g, p * 12 + 9, none⟩ (.int .i64 (V 9))).setCell ⟨g, p * 12 + 10, none⟩ (.int .i64 (V 10))).setCell ⟨g, p * 12 + 11, none⟩ (.int .i64 (V 11))) :=
  (((((((((((((Fr.refl (fun b => b = g) w4).trans (Fr.setCell (X := fun b => b = g) rfl _)).trans (Fr.setCell (X := fun b => b = g) rfl _)).trans (Fr.setCell (X := fun b => b = g) rfl _)).trans (Fr.setCell (X := fun b => b = g) rfl _)).trans (Fr.setCell (X := fun b => b = g) rfl _)).trans (Fr.setCell (X := fun b => b = g) rfl _)).trans (Fr.setCell (X := fun b => b = g) rfl _)).trans (Fr.setCell (X := fun b => b = g) rfl _)).trans (Fr.setCell (X := fun b => b = g) rfl _)).trans (Fr.setCell (X := fun b => b = g) rfl _)).trans (Fr.setCell (X := fun b => b = g) rfl _)).trans (Fr.setCell (X := fun b => b = g) rfl _))
/-- what FmPush begins with -/
structure FmPush (w : World) (T P : Int) (a : Option Addr) (n c : Nat) (a' : Option Addr) (m c' : Nat) (x y : Int) (wr : World) : Prop where
  wd : WdR w T P a n c a' m c' wr
  big : w.heap.size + 1 + 1 < wr.heap.size
  r0 : wr.cell? ⟨w.heap.size + 1, 0, none⟩ = some (.int .i64 x)
  r1 : wr.cell? ⟨w.heap.size + 1, 1, none⟩ = some (.int .i64 y)
  z0 : wr.cell? ⟨w.heap.size + 1 + 1, 0, none⟩ = some (.int .i64 0)
  z1 : wr.cell? ⟨w.heap.size + 1 + 1, 1, none⟩ = some (.int .i64 0)
  z2 : wr.cell? ⟨w.heap.size + 1 + 1, 2, none⟩ = some (.slice none 0 0)
  z3 : wr.cell? ⟨w.heap.size + 1 + 1, 3, none⟩ = some (.slice none 0 0)
  nf : ∀ o, wr.frozen? ⟨w.heap.size + 1 + 1, o, none⟩ = false
theorem FmPush.on {w wr w' : World} {T P : Int} {a a' : Option Addr} {n c m c' : Nat} {x y : Int} (h : FmPush w T P a n c a' m c' x y wr) (hb : Below wr.heap.size wr w') : FmPush w T P a n c a' m c' x y w' :=
  have bg := h.big
  ⟨h.wd.on hb, Nat.lt_of_lt_of_le h.big hb.size, (hb.cell (p := ⟨w.heap.size + 1, 0, none⟩) (by simp; omega)).trans h.r0, (hb.cell (p := ⟨w.heap.size + 1, 1, none⟩) (by simp; omega)).trans h.r1, (hb.cell (p := ⟨w.heap.size + 1 + 1, 0, none⟩) bg).trans h.z0, (hb.cell (p := ⟨w.heap.size + 1 + 1, 1, none⟩) bg).trans h.z1, (hb.cell (p := ⟨w.heap.size + 1 + 1, 2, none⟩) bg).trans h.z2, (hb.cell (p := ⟨w.heap.size + 1 + 1, 3, none⟩) bg).trans h.z3, fun o => (hb.frozen (p := ⟨w.heap.size + 1 + 1, o, none⟩) bg).trans (h.nf o)⟩
theorem FmPush.fr {X : Nat → Prop} {w wr w' : World} {T P : Int} {a a' : Option Addr} {n c m c' : Nat} {x y : Int} (h : FmPush w T P a n c a' m c' x y wr) (hs : Fr X wr w') (hX : ∀ b, X b → w.heap.size + 1 + 1 < b) : FmPush w T P a n c a' m c' x y w' := by
  have bg := h.big
  have n0 : ¬ X w.heap.size := fun x => by have := hX _ x; omega
  have n1 : ¬ X (w.heap.size + 1) := fun x => by have := hX _ x; omega
  have n2 : ¬ X (w.heap.size + 1 + 1) := fun x => by have := hX _ x; omega
  have k0 := fun j => hs.cell (p := ⟨w.heap.size, j, none⟩) (by simp; omega) n0
  have k1 := fun j => hs.cell (p := ⟨w.heap.size + 1, j, none⟩) (by simp; omega) n1
  have k2 := fun j => hs.cell (p := ⟨w.heap.size + 1 + 1, j, none⟩) bg n2
  exact ⟨⟨h.wd.bel.trans (hs.below (by omega) (fun b x => by have := hX b x; omega)), Nat.lt_of_lt_of_le h.wd.big hs.size, (k0 0).trans h.wd.c0, (k0 1).trans h.wd.c1, (k0 2).trans h.wd.c2, (k0 3).trans h.wd.c3⟩, Nat.lt_of_lt_of_le bg hs.size, (k1 0).trans h.r0, (k1 1).trans h.r1, (k2 0).trans h.z0, (k2 1).trans h.z1, (k2 2).trans h.z2, (k2 3).trans h.z3, fun o => (hs.frozen (p := ⟨w.heap.size + 1 + 1, o, none⟩) bg n2).trans (h.nf o)⟩
theorem FmPush.start (w : World) (T P : Int) (a a' : Option Addr) (n c m c' : Nat) (x y : Int) : FmPush w T P a n c a' m c' x y (((w.alloc (Obj.cells #[.int .i64 T, .int .i64 P, .slice a n c, .slice a' m c'] 30)).alloc (Obj.cells #[.int .i64 x, .int .i64 y] 53)).alloc (Obj.cells #[.int .i64 0, .int .i64 0, .slice none 0 0, .slice none 0 0] 30)) :=
  ⟨⟨((((Below.refl _ _).alloc (Nat.le_refl _) _).alloc (by simp) _).alloc (by simp; try omega) _), by simp; try omega, by go_simp, by go_simp, by go_simp, by go_simp⟩, by simp, by go_simp, by go_simp, by go_simp, by go_simp, by go_simp, by go_simp, fun o => by go_simp⟩
end Go.Proofs.YthekeeagjokpeaaGreat
namespace Go.Proofs.YthekeeagjokpeaaGreat
open Go.RowKit
set_option linter.unusedVariables false
set_option linter.unusedSimpArgs false

/-- marked up to p, the first mark is s -/
abbrev mixS (s : Int) (p : Nat) (U : Nat → Int) : Nat → Int := fun q => if q < p then s + (q : Int) else U q
theorem OwnL.markS {w : World} {base t k n g c p : Nat} {s : Int} {U : Nat → Int} (h : OwnL w base t k (.slice (Option.some ⟨g, 0, none⟩) n c) n (mixS s p U)) (hp : p < n * k) {x : Int} (hx : x = s + (p : Int)) : OwnL (w.setCell ⟨g, p, none⟩ (.int .i64 x)) base t k (.slice (Option.some ⟨g, 0, none⟩) n c) n (mixS s (p + 1) U) :=
  (h.setq p hp x).congr fun q _ => by
    subst hx
    by_cases e : q = p
    · subst e; simp [mixS]
    · simp only [mixS, if_neg e]
      by_cases l : q < p
      · rw [if_pos l, if_pos (by omega)]
      · rw [if_neg l, if_neg (by omega)]
theorem markBody12s {sf : Int} {w wr : World} {base g n c j : Nat} {U : Nat → Int} (hlt : j < n) (ho : OwnL wr base 55 12 (.slice (some ⟨g, 0, none⟩) n c) n (mixS sf (j * 12) U)) (hg : w.grownBy wr (Value.slice (some ⟨g, 0, none⟩) n c).ownBlock) :
    OwnL ((((((((((((wr.setCell ⟨g, j * 12, none⟩ (.int .i64 (sf + (j : Int) * 12))).setCell ⟨g, j * 12 + 1, none⟩ (.int .i64 (sf + (j : Int) * 12 + 1))).setCell ⟨g, j * 12 + 2, none⟩ (.int .i64 (sf + (j : Int) * 12 + 1 + 1))).setCell ⟨g, j * 12 + 3, none⟩ (.int .i64 (sf + (j : Int) * 12 + 1 + 1 + 1))).setCell ⟨g, j * 12 + 4, none⟩ (.int .i64 (sf + (j : Int) * 12 + 1 + 1 + 1 + 1))).setCell ⟨g, j * 12 + 5, none⟩ (.int .i64 (sf + (j : Int) * 12 + 1 + 1 + 1 + 1 + 1))).setCell ⟨g, j * 12 + 6, none⟩ (.int .i64 (sf + (j : Int) * 12 + 1 + 1 + 1 + 1 + 1 + 1))).setCell ⟨g, j * 12 + 7, none⟩ (.int .i64 (sf + (j : Int) * 12 + 1 + 1 + 1 + 1 + 1 + 1 + 1))).setCell ⟨g, j * 12 + 8, none⟩ (.int .i64 (sf + (j : Int) * 12 + 1 + 1 + 1 + 1 + 1 + 1 + 1 + 1))).setCell ⟨g, j * 12 + 9, none⟩ (.int .i64 (sf + (j : Int) * 12 + 1 + 1 + 1 + 1 + 1 + 1 + 1 + 1 + 1))).setCell ⟨g, j * 12 + 10, none⟩ (.int .i64 (sf + (j : Int) * 12 + 1 + 1 + 1 + 1 + 1 + 1 + 1 + 1 + 1 + 1))).setCell ⟨g, j * 12 + 11, none⟩ (.int .i64 (sf + (j : Int) * 12 + 1 + 1 + 1 + 1 + 1 + 1 + 1 + 1 + 1 + 1 + 1))) base 55 12 (.slice (some ⟨g, 0, none⟩) n c) n (mixS sf ((j + 1) * 12) U) ∧
    w.grownBy ((((((((((((wr.setCell ⟨g, j * 12, none⟩ (.int .i64 (sf + (j : Int) * 12))).setCell ⟨g, j * 12 + 1, none⟩ (.int .i64 (sf + (j : Int) * 12 + 1))).setCell ⟨g, j * 12 + 2, none⟩ (.int .i64 (sf + (j : Int) * 12 + 1 + 1))).setCell ⟨g, j * 12 + 3, none⟩ (.int .i64 (sf + (j : Int) * 12 + 1 + 1 + 1))).setCell ⟨g, j * 12 + 4, none⟩ (.int .i64 (sf + (j : Int) * 12 + 1 + 1 + 1 + 1))).setCell ⟨g, j * 12 + 5, none⟩ (.int .i64 (sf + (j : Int) * 12 + 1 + 1 + 1 + 1 + 1))).setCell ⟨g, j * 12 + 6, none⟩ (.int .i64 (sf + (j : Int) * 12 + 1 + 1 + 1 + 1 + 1 + 1))).setCell ⟨g, j * 12 + 7, none⟩ (.int .i64 (sf + (j : Int) * 12 + 1 + 1 + 1 + 1 + 1 + 1 + 1))).setCell ⟨g, j * 12 + 8, none⟩ (.int .i64 (sf + (j : Int) * 12 + 1 + 1 + 1 + 1 + 1 + 1 + 1 + 1))).setCell ⟨g, j * 12 + 9, none⟩ (.int .i64 (sf + (j : Int) * 12 + 1 + 1 + 1 + 1 + 1 + 1 + 1 + 1 + 1))).setCell ⟨g, j * 12 + 10, none⟩ (.int .i64 (sf + (j : Int) * 12 + 1 + 1 + 1 + 1 + 1 + 1 + 1 + 1 + 1 + 1))).setCell ⟨g, j * 12 + 11, none⟩ (.int .i64 (sf + (j : Int) * 12 + 1 + 1 + 1 + 1 + 1 + 1 + 1 + 1 + 1 + 1 + 1))) (Value.slice (some ⟨g, 0, none⟩) n c).ownBlock := by
  have q1 := ho.markS (by omega) (x := sf + (j : Int) * 12) (by omega)
  have q2 := q1.markS (by omega) (x := sf + (j : Int) * 12 + 1) (by omega)
  have q3 := q2.markS (by omega) (x := sf + (j : Int) * 12 + 1 + 1) (by omega)
  have q4 := q3.markS (by omega) (x := sf + (j : Int) * 12 + 1 + 1 + 1) (by omega)
  have q5 := q4.markS (by omega) (x := sf + (j : Int) * 12 + 1 + 1 + 1 + 1) (by omega)
  have q6 := q5.markS (by omega) (x := sf + (j : Int) * 12 + 1 + 1 + 1 + 1 + 1) (by omega)
  have q7 := q6.markS (by omega) (x := sf + (j : Int) * 12 + 1 + 1 + 1 + 1 + 1 + 1) (by omega)
  have q8 := q7.markS (by omega) (x := sf + (j : Int) * 12 + 1 + 1 + 1 + 1 + 1 + 1 + 1) (by omega)
  have q9 := q8.markS (by omega) (x := sf + (j : Int) * 12 + 1 + 1 + 1 + 1 + 1 + 1 + 1 + 1) (by omega)
  have q10 := q9.markS (by omega) (x := sf + (j : Int) * 12 + 1 + 1 + 1 + 1 + 1 + 1 + 1 + 1 + 1) (by omega)
  have q11 := q10.markS (by omega) (x := sf + (j : Int) * 12 + 1 + 1 + 1 + 1 + 1 + 1 + 1 + 1 + 1 + 1) (by omega)
  have q12 := q11.markS (by omega) (x := sf + (j : Int) * 12 + 1 + 1 + 1 + 1 + 1 + 1 + 1 + 1 + 1 + 1 + 1) (by omega)
  refine ⟨?_, ?_⟩
  · exact q12.congr fun q _ => by rw [show j * 12 + 1 + 1 + 1 + 1 + 1 + 1 + 1 + 1 + 1 + 1 + 1 + 1 = ((j + 1) * 12) from by omega]
  · have h0 : w.grownBy wr (some g) := hg
    exact (grown_trans (grown_trans (grown_trans (grown_trans (grown_trans (grown_trans (grown_trans (grown_trans (grown_trans (grown_trans (grown_trans (grown_trans h0 (grown_setG _ _ _ _)) (grown_setG _ _ _ _)) (grown_setG _ _ _ _)) (grown_setG _ _ _ _)) (grown_setG _ _ _ _)) (grown_setG _ _ _ _)) (grown_setG _ _ _ _)) (grown_setG _ _ _ _)) (grown_setG _ _ _ _)) (grown_setG _ _ _ _)) (grown_setG _ _ _ _)) (grown_setG _ _ _ _))
set_option maxRecDepth 20000 in
set_option maxHeartbeats 2000000 in
theorem markBodyS_from (sf : Int) (hs0 : 0 ≤ sf) (hs1 : sf ≤ 1099511627776) (base : Nat) (a : Option Addr) (n c : Nat) (U : Nat → Int) (w : World) (h : OwnL w base 55 12 (.slice a n c) n U) (hn : n ≤ 2097152) :
    Calls Tryz.prog 28 #[.slice a n c, .int .i64 sf] w fun e w' => e = .returned (.int .i64 (sf + (n : Int) * 12)) ∧ OwnL w' base 55 12 (.slice a n c) n (fun q => sf + (q : Int)) ∧ w.grownBy w' (Value.slice a n c).ownBlock := by
  have hset := cset_map
  go_enter Tryz.func28, Tryz.ntmps28
  go_wp2
  go_loopw [1, 5] (fun s i wr => ∃ j : Nat, j ≤ n ∧ i = .int .i64 (j : Int) ∧ s = .int .i64 (sf + (j : Int) * 12) ∧ OwnL wr base 55 12 (.slice a n c) n (mixS sf (j * 12) U) ∧ w.grownBy wr (Value.slice a n c).ownBlock) (fun _ i _ => n - (intOf i).toNat)
  case atStart => exact ⟨0, Nat.zero_le _, rfl, congrArg (Value.int .i64) (by omega), h.congr (fun q _ => by simp [mixS]), grown_refl _ _⟩
  case round =>
    obtain ⟨j, hj, rfl, rfl, ho, hg⟩ := hrel
    by_cases hlt : j < n
    · have hjn : (j : Int) < (n : Int) := by omega
      obtain ⟨g, rfl, hgb, hgl⟩ := ho.loc (by omega)
      have c0 := ho.cellq (q := j * 12) (by omega)
      have c1 := ho.cellq (q := j * 12 + 1) (by omega)
      have c2 := ho.cellq (q := j * 12 + 2) (by omega)
      have c3 := ho.cellq (q := j * 12 + 3) (by omega)
      have c4 := ho.cellq (q := j * 12 + 4) (by omega)
      have c5 := ho.cellq (q := j * 12 + 5) (by omega)
      have c6 := ho.cellq (q := j * 12 + 6) (by omega)
      have c7 := ho.cellq (q := j * 12 + 7) (by omega)
      have c8 := ho.cellq (q := j * 12 + 8) (by omega)
      have c9 := ho.cellq (q := j * 12 + 9) (by omega)
      have c10 := ho.cellq (q := j * 12 + 10) (by omega)
      have c11 := ho.cellq (q := j * 12 + 11) (by omega)
      have f0 := ho.fro
      go_wp2
      go_roundw
      case rel =>
        obtain ⟨r1, r2⟩ := markBody12s hlt ho hg
        exact ⟨j + 1, by omega, by go_num, congrArg (Value.int .i64) (by omega), r1, r2⟩
      case measure => simp [intOf]; omega
    · obtain rfl : j = n := by omega
      go_wp2
      go_ret
      exact ⟨rfl, ho.congr (fun q hq => by simp only [mixS]; rw [if_pos (by omega)]), hg⟩
theorem markPair2s {sf : Int} {w wr : World} {base g n c j : Nat} {U : Nat → Int} (hlt : j < n) (ho : OwnL wr base 45 2 (.slice (some ⟨g, 0, none⟩) n c) n (mixS sf (j * 2) U)) (hg : w.grownBy wr (Value.slice (some ⟨g, 0, none⟩) n c).ownBlock) :
    OwnL ((wr.setCell ⟨g, j * 2, none⟩ (.int .i64 (sf + (j : Int) * 2))).setCell ⟨g, j * 2 + 1, none⟩ (.int .i64 (sf + (j : Int) * 2 + 1))) base 45 2 (.slice (some ⟨g, 0, none⟩) n c) n (mixS sf ((j + 1) * 2) U) ∧
    w.grownBy ((wr.setCell ⟨g, j * 2, none⟩ (.int .i64 (sf + (j : Int) * 2))).setCell ⟨g, j * 2 + 1, none⟩ (.int .i64 (sf + (j : Int) * 2 + 1))) (Value.slice (some ⟨g, 0, none⟩) n c).ownBlock := by
  have q1 := ho.markS (by omega) (x := sf + (j : Int) * 2) (by omega)
  have q2 := q1.markS (by omega) (x := sf + (j : Int) * 2 + 1) (by omega)
  refine ⟨?_, ?_⟩
  · exact q2.congr fun q _ => by rw [show j * 2 + 1 + 1 = ((j + 1) * 2) from by omega]
  · have h0 : w.grownBy wr (some g) := hg
    exact (grown_trans (grown_trans h0 (grown_setG _ _ _ _)) (grown_setG _ _ _ _))
set_option maxRecDepth 20000 in
set_option maxHeartbeats 2000000 in
theorem markPairS_from (sf : Int) (hs0 : 0 ≤ sf) (hs1 : sf ≤ 1099511627776) (base : Nat) (a : Option Addr) (n c : Nat) (U : Nat → Int) (w : World) (h : OwnL w base 45 2 (.slice a n c) n U) (hn : n ≤ 2097152) :
    Calls Tryz.prog 29 #[.slice a n c, .int .i64 sf] w fun e w' => e = .returned (.int .i64 (sf + (n : Int) * 2)) ∧ OwnL w' base 45 2 (.slice a n c) n (fun q => sf + (q : Int)) ∧ w.grownBy w' (Value.slice a n c).ownBlock := by
  have hset := cset_map
  go_enter Tryz.func29, Tryz.ntmps29
  go_wp2
  go_loopw [1, 5] (fun s i wr => ∃ j : Nat, j ≤ n ∧ i = .int .i64 (j : Int) ∧ s = .int .i64 (sf + (j : Int) * 2) ∧ OwnL wr base 45 2 (.slice a n c) n (mixS sf (j * 2) U) ∧ w.grownBy wr (Value.slice a n c).ownBlock) (fun _ i _ => n - (intOf i).toNat)
  case atStart => exact ⟨0, Nat.zero_le _, rfl, congrArg (Value.int .i64) (by omega), h.congr (fun q _ => by simp [mixS]), grown_refl _ _⟩
  case round =>
    obtain ⟨j, hj, rfl, rfl, ho, hg⟩ := hrel
    by_cases hlt : j < n
    · have hjn : (j : Int) < (n : Int) := by omega
      obtain ⟨g, rfl, hgb, hgl⟩ := ho.loc (by omega)
      have c0 := ho.cellq (q := j * 2) (by omega)
      have c1 := ho.cellq (q := j * 2 + 1) (by omega)
      have f0 := ho.fro
      go_wp2
      go_roundw
      case rel =>
        obtain ⟨r1, r2⟩ := markPair2s hlt ho hg
        exact ⟨j + 1, by omega, by go_num, congrArg (Value.int .i64) (by omega), r1, r2⟩
      case measure => simp [intOf]; omega
    · obtain rfl : j = n := by omega
      go_wp2
      go_ret
      exact ⟨rfl, ho.congr (fun q hq => by simp only [mixS]; rw [if_pos (by omega)]), hg⟩

set_option maxRecDepth 20000 in
set_option maxHeartbeats 2000000 in
theorem markWorld_any (T P : Int) (b n : Nat) (U : Nat → Int) (d m : Nat) (Q : Nat → Int) (w : World) (hr : Row w b 55 (n * 12) U) (hq : Row w d 45 (m * 2) Q) (hn : n ≤ 1048576) (hm : m ≤ 1048576) (hne : b ≠ d) :
    Calls Tryz.prog 9 #[worldW T P (some ⟨b, 0, none⟩) n n (some ⟨d, 0, none⟩) m m, .int .i64 1] w fun e w' => e = .returned (.int .i64 (1 + (n : Int) * 12 + (m : Int) * 2)) ∧ Fr (fun x => x = b ∨ x = d) w w' := by
  have hset := cset_map
  have o1 := hr.own (base := 0) (Nat.zero_le _) (by unfold maxLen; omega)
  have o2 := hq.own (base := 0) (Nat.zero_le _) (by unfold maxLen; omega)
  have hE : Below w.heap.size w (w.alloc (Obj.cells #[.int .i64 T, .int .i64 P, .slice (some ⟨b, 0, none⟩) n n, .slice (some ⟨d, 0, none⟩) m m] 30)) := (Below.refl _ _).alloc (Nat.le_refl _) _
  have hbl := hr.lt
  have hdl := hq.lt
  go_enter Tryz.func9, Tryz.ntmps9
  go_wp2_with (first
    | (go_at_call 28; refine (markBodyS_from 1 (by omega) (by omega) 0 _ n _ U _ (o1.below hE) (by omega)).mono ?_; rintro e w1 ⟨rfl, ho1, hg1⟩; have hF1 := Fr.grown (X := fun x => x = b ∨ x = d) hg1 (fun x hx => by simp [Value.ownBlock] at hx; exact .inl hx.symm) (o1.below hE).isCells; have k3 : w1.cell? ⟨w.heap.size, 3, none⟩ = some (.slice (some ⟨d, 0, none⟩) m m) := (hF1.cell (p := ⟨w.heap.size, 3, none⟩) (by simp) (by simp; omega)).trans (by go_simp); have k2 : w1.cell? ⟨w.heap.size, 2, none⟩ = some (.slice (some ⟨b, 0, none⟩) n n) := (hF1.cell (p := ⟨w.heap.size, 2, none⟩) (by simp) (by simp; omega)).trans (by go_simp))
    | (go_at_call 29; refine (markPairS_from _ (by omega) (by omega) 0 _ m _ Q _ ((o2.below hE).kept hg1 (.inr (by simp [Value.ownBlock]; omega))) (by omega)).mono ?_; rintro e w2 ⟨rfl, ho2, hg2⟩))
  go_ret
  exact ⟨rfl, ((Fr.of_below hE).trans hF1).trans (Fr.grown hg2 (fun x hx => by simp [Value.ownBlock] at hx; exact .inr hx.symm) ((o2.below hE).kept hg1 (.inr (by simp [Value.ownBlock]; omega))).isCells)⟩
theorem markInt1 {w wr : World} {base g n c j : Nat} {U : Nat → Int} (hlt : j < n) (ho : OwnL wr base 3 1 (.slice (some ⟨g, 0, none⟩) n c) n (mixU (j) U)) (hg : w.grownBy wr (Value.slice (some ⟨g, 0, none⟩) n c).ownBlock) :
    OwnL (wr.setCell ⟨g, j, none⟩ (.int .i64 (1 + (j : Int)))) base 3 1 (.slice (some ⟨g, 0, none⟩) n c) n (mixU (j + 1) U) ∧
    w.grownBy (wr.setCell ⟨g, j, none⟩ (.int .i64 (1 + (j : Int)))) (Value.slice (some ⟨g, 0, none⟩) n c).ownBlock := by
  have q1 := ho.mark (by omega) (x := 1 + (j : Int)) (by omega)
  refine ⟨?_, ?_⟩
  · exact q1.congr fun q _ => by rw [show j + 1 = (j + 1) from by omega]
  · have h0 : w.grownBy wr (some g) := hg
    exact (grown_trans h0 (grown_setG _ _ _ _))
theorem Lv.fr {X : Nat → Prop} {w w' : World} {lo hi t k : Nat} {a : Option Addr} {n c : Nat} {U : Nat → Int} (h : Lv w lo hi t k a n c U) (hs : Fr X w w') (hX : ∀ b, X b → b < lo ∨ hi ≤ b) : Lv w' lo hi t k a n c U :=
  ⟨h.own.frame hs (fun b e x => by have := (h.own.lt b e).1; have := h.top b e; rcases hX b x with q | q <;> omega), h.top, Nat.le_trans h.le hs.size⟩
end Go.Proofs.YthekeeagjokpeaaGreat
namespace Go.Proofs.YthekeeagjokpeaaGreat
open Go.RowKit
set_option linter.unusedVariables false
set_option linter.unusedSimpArgs false
set_option maxRecDepth 20000 in
set_option maxHeartbeats 2000000 in
theorem heldBodyS_from (sf : Int) (hs0 : 0 ≤ sf) (hs1 : sf ≤ 1099511627776) (a : Option Addr) (n c : Nat) (w : World) (h : Flat w a (n * 12) (fun q => sf + (q : Int))) (hn : n ≤ 2097152) :
    Calls Tryz.prog 30 #[.slice a n c, .int .i64 sf] w fun e w' => e = .returned (.int .i64 (sf + (n : Int) * 12)) ∧ w' = w := by
  go_enter Tryz.func30, Tryz.ntmps30
  go_wp2
  go_loop [1, 5] (fun s i => ∃ j : Nat, j ≤ n ∧ i = .int .i64 (j : Int) ∧ s = .int .i64 (sf + (j : Int) * 12)) (fun _ i => n - (intOf i).toNat)
  case atStart => exact ⟨0, Nat.zero_le _, rfl, congrArg (Value.int .i64) (by omega)⟩
  case round =>
    obtain ⟨j, hj, rfl, rfl⟩ := hrel
    by_cases hlt : j < n
    · have hjn : (j : Int) < (n : Int) := by omega
      obtain ⟨b, o, rfl, hbl, hc⟩ := h (by omega)
      have c0 : w.cell? ⟨b, o + j * 12, none⟩ = some (.int .i64 (sf + (j : Int) * 12)) := (hc (j * 12) (by omega)).trans (congrArg (fun z => some (Value.int .i64 z)) (show sf + ((j * 12 : Nat) : Int) = sf + (j : Int) * 12 by omega))
      have c1 : w.cell? ⟨b, o + j * 12 + 1, none⟩ = some (.int .i64 (sf + (j : Int) * 12 + 1)) := (hc (j * 12 + 1) (by omega)).trans (congrArg (fun z => some (Value.int .i64 z)) (show sf + ((j * 12 + 1 : Nat) : Int) = sf + (j : Int) * 12 + 1 by omega))
      have c2 : w.cell? ⟨b, o + j * 12 + 2, none⟩ = some (.int .i64 (sf + (j : Int) * 12 + 1 + 1)) := (hc (j * 12 + 2) (by omega)).trans (congrArg (fun z => some (Value.int .i64 z)) (show sf + ((j * 12 + 2 : Nat) : Int) = sf + (j : Int) * 12 + 1 + 1 by omega))
      have c3 : w.cell? ⟨b, o + j * 12 + 3, none⟩ = some (.int .i64 (sf + (j : Int) * 12 + 1 + 1 + 1)) := (hc (j * 12 + 3) (by omega)).trans (congrArg (fun z => some (Value.int .i64 z)) (show sf + ((j * 12 + 3 : Nat) : Int) = sf + (j : Int) * 12 + 1 + 1 + 1 by omega))
      have c4 : w.cell? ⟨b, o + j * 12 + 4, none⟩ = some (.int .i64 (sf + (j : Int) * 12 + 1 + 1 + 1 + 1)) := (hc (j * 12 + 4) (by omega)).trans (congrArg (fun z => some (Value.int .i64 z)) (show sf + ((j * 12 + 4 : Nat) : Int) = sf + (j : Int) * 12 + 1 + 1 + 1 + 1 by omega))
      have c5 : w.cell? ⟨b, o + j * 12 + 5, none⟩ = some (.int .i64 (sf + (j : Int) * 12 + 1 + 1 + 1 + 1 + 1)) := (hc (j * 12 + 5) (by omega)).trans (congrArg (fun z => some (Value.int .i64 z)) (show sf + ((j * 12 + 5 : Nat) : Int) = sf + (j : Int) * 12 + 1 + 1 + 1 + 1 + 1 by omega))
      have c6 : w.cell? ⟨b, o + j * 12 + 6, none⟩ = some (.int .i64 (sf + (j : Int) * 12 + 1 + 1 + 1 + 1 + 1 + 1)) := (hc (j * 12 + 6) (by omega)).trans (congrArg (fun z => some (Value.int .i64 z)) (show sf + ((j * 12 + 6 : Nat) : Int) = sf + (j : Int) * 12 + 1 + 1 + 1 + 1 + 1 + 1 by omega))
      have c7 : w.cell? ⟨b, o + j * 12 + 7, none⟩ = some (.int .i64 (sf + (j : Int) * 12 + 1 + 1 + 1 + 1 + 1 + 1 + 1)) := (hc (j * 12 + 7) (by omega)).trans (congrArg (fun z => some (Value.int .i64 z)) (show sf + ((j * 12 + 7 : Nat) : Int) = sf + (j : Int) * 12 + 1 + 1 + 1 + 1 + 1 + 1 + 1 by omega))
      have c8 : w.cell? ⟨b, o + j * 12 + 8, none⟩ = some (.int .i64 (sf + (j : Int) * 12 + 1 + 1 + 1 + 1 + 1 + 1 + 1 + 1)) := (hc (j * 12 + 8) (by omega)).trans (congrArg (fun z => some (Value.int .i64 z)) (show sf + ((j * 12 + 8 : Nat) : Int) = sf + (j : Int) * 12 + 1 + 1 + 1 + 1 + 1 + 1 + 1 + 1 by omega))
      have c9 : w.cell? ⟨b, o + j * 12 + 9, none⟩ = some (.int .i64 (sf + (j : Int) * 12 + 1 + 1 + 1 + 1 + 1 + 1 + 1 + 1 + 1)) := (hc (j * 12 + 9) (by omega)).trans (congrArg (fun z => some (Value.int .i64 z)) (show sf + ((j * 12 + 9 : Nat) : Int) = sf + (j : Int) * 12 + 1 + 1 + 1 + 1 + 1 + 1 + 1 + 1 + 1 by omega))
      have c10 : w.cell? ⟨b, o + j * 12 + 10, none⟩ = some (.int .i64 (sf + (j : Int) * 12 + 1 + 1 + 1 + 1 + 1 + 1 + 1 + 1 + 1 + 1)) := (hc (j * 12 + 10) (by omega)).trans (congrArg (fun z => some (Value.int .i64 z)) (show sf + ((j * 12 + 10 : Nat) : Int) = sf + (j : Int) * 12 + 1 + 1 + 1 + 1 + 1 + 1 + 1 + 1 + 1 + 1 by omega))
      have c11 : w.cell? ⟨b, o + j * 12 + 11, none⟩ = some (.int .i64 (sf + (j : Int) * 12 + 1 + 1 + 1 + 1 + 1 + 1 + 1 + 1 + 1 + 1 + 1)) := (hc (j * 12 + 11) (by omega)).trans (congrArg (fun z => some (Value.int .i64 z)) (show sf + ((j * 12 + 11 : Nat) : Int) = sf + (j : Int) * 12 + 1 + 1 + 1 + 1 + 1 + 1 + 1 + 1 + 1 + 1 + 1 by omega))
      clear hc h
      go_wp2
      go_round
      case rel => exact ⟨j + 1, by omega, by go_num, congrArg (Value.int .i64) (by omega)⟩
      case measure => simp [intOf]; omega
    · obtain rfl : j = n := by omega
      go_wp2
      go_ret
      exact ⟨rfl, rfl⟩
set_option maxRecDepth 20000 in
set_option maxHeartbeats 2000000 in
theorem heldPairS_from (sf : Int) (hs0 : 0 ≤ sf) (hs1 : sf ≤ 1099511627776) (a : Option Addr) (n c : Nat) (w : World) (h : Flat w a (n * 2) (fun q => sf + (q : Int))) (hn : n ≤ 2097152) :
    Calls Tryz.prog 31 #[.slice a n c, .int .i64 sf] w fun e w' => e = .returned (.int .i64 (sf + (n : Int) * 2)) ∧ w' = w := by
  go_enter Tryz.func31, Tryz.ntmps31
  go_wp2
  go_loop [1, 5] (fun s i => ∃ j : Nat, j ≤ n ∧ i = .int .i64 (j : Int) ∧ s = .int .i64 (sf + (j : Int) * 2)) (fun _ i => n - (intOf i).toNat)
  case atStart => exact ⟨0, Nat.zero_le _, rfl, congrArg (Value.int .i64) (by omega)⟩
  case round =>
    obtain ⟨j, hj, rfl, rfl⟩ := hrel
    by_cases hlt : j < n
    · have hjn : (j : Int) < (n : Int) := by omega
      obtain ⟨b, o, rfl, hbl, hc⟩ := h (by omega)
      have c0 : w.cell? ⟨b, o + j * 2, none⟩ = some (.int .i64 (sf + (j : Int) * 2)) := (hc (j * 2) (by omega)).trans (congrArg (fun z => some (Value.int .i64 z)) (show sf + ((j * 2 : Nat) : Int) = sf + (j : Int) * 2 by omega))
      have c1 : w.cell? ⟨b, o + j * 2 + 1, none⟩ = some (.int .i64 (sf + (j : Int) * 2 + 1)) := (hc (j * 2 + 1) (by omega)).trans (congrArg (fun z => some (Value.int .i64 z)) (show sf + ((j * 2 + 1 : Nat) : Int) = sf + (j : Int) * 2 + 1 by omega))
      clear hc h
      go_wp2
      go_round
      case rel => exact ⟨j + 1, by omega, by go_num, congrArg (Value.int .i64) (by omega)⟩
      case measure => simp [intOf]; omega
    · obtain rfl : j = n := by omega
      go_wp2
      go_ret
      exact ⟨rfl, rfl⟩

def ownX (a1 : Option Addr) (n c1 : Nat) (a2 : Option Addr) (m c2 : Nat) (x : Nat) : Prop := (Value.slice a1 n c1).ownBlock = some x ∨ (Value.slice a2 m c2).ownBlock = some x
set_option maxRecDepth 20000 in
set_option maxHeartbeats 2000000 in
theorem markWorld_own (T P : Int) (base : Nat) (a1 : Option Addr) (n c1 : Nat) (U : Nat → Int) (a2 : Option Addr) (m c2 : Nat) (Q : Nat → Int) (w : World) (ob : OwnL w base 55 12 (.slice a1 n c1) n U) (op : OwnL w base 45 2 (.slice a2 m c2) m Q) (hn : n ≤ 1048576) (hm : m ≤ 1048576) :
    Calls Tryz.prog 9 #[worldW T P a1 n c1 a2 m c2, .int .i64 1] w fun e w' => e = .returned (.int .i64 (1 + (n : Int) * 12 + (m : Int) * 2)) ∧ Fr (ownX a1 n c1 a2 m c2) w w' ∧ OwnL w' base 55 12 (.slice a1 n c1) n (fun q => 1 + (q : Int)) ∧ OwnL w' base 45 2 (.slice a2 m c2) m (fun q => 1 + (n : Int) * 12 + (q : Int)) := by
  have hset := cset_map
  have hE : Below w.heap.size w (w.alloc (Obj.cells #[.int .i64 T, .int .i64 P, .slice a1 n c1, .slice a2 m c2] 30)) := (Below.refl _ _).alloc (Nat.le_refl _) _
  have hne := ob.neT op (by decide)
  have l1 := ob.lt
  have l2 := op.lt
  have o1 := ob.below hE
  have o2 := op.below hE
  have nw : ¬ ownX a1 n c1 a2 m c2 w.heap.size := fun x => by rcases x with x | x; exact absurd (l1 _ x).2 (by omega); exact absurd (l2 _ x).2 (by omega)
  go_enter Tryz.func9, Tryz.ntmps9
  go_wp2_with (first
    | (go_at_call 28; refine (markBodyS_from 1 (by omega) (by omega) base _ n _ U _ o1 (by omega)).mono ?_; rintro e w1 ⟨rfl, ho1, hg1⟩; have hF1 := Fr.grown (X := ownX a1 n c1 a2 m c2) hg1 (fun x hx => .inl hx) o1.isCells; have k3 : w1.cell? ⟨w.heap.size, 3, none⟩ = some (.slice a2 m c2) := (hF1.cell (p := ⟨w.heap.size, 3, none⟩) (by simp) nw).trans (by go_simp); have k2 : w1.cell? ⟨w.heap.size, 2, none⟩ = some (.slice a1 n c1) := (hF1.cell (p := ⟨w.heap.size, 2, none⟩) (by simp) nw).trans (by go_simp); have o2' := o2.frame (X := fun x => (Value.slice a1 n c1).ownBlock = some x) (Fr.grown hg1 (fun x hx => hx) o1.isCells) (fun b e x => hne b x e))
    | (go_at_call 29; refine (markPairS_from _ (by omega) (by omega) base _ m _ Q _ o2' (by omega)).mono ?_; rintro e w2 ⟨rfl, ho2, hg2⟩))
  go_ret
  exact ⟨rfl, ((Fr.of_below hE).trans hF1).trans (Fr.grown hg2 (fun x hx => .inr hx) o2'.isCells), ho1.frame (X := fun x => (Value.slice a2 m c2).ownBlock = some x) (Fr.grown hg2 (fun x hx => hx) o2'.isCells) (fun b e x => hne b e x), ho2⟩
set_option maxRecDepth 20000 in
set_option maxHeartbeats 2000000 in
theorem heldWorld_own (T P : Int) (a1 : Option Addr) (n c1 : Nat) (a2 : Option Addr) (m c2 : Nat) (w : World) (ob : Flat w a1 (n * 12) (fun q => 1 + (q : Int))) (op : Flat w a2 (m * 2) (fun q => 1 + (n : Int) * 12 + (q : Int))) (hn : n ≤ 1048576) (hm : m ≤ 1048576) :
    Calls Tryz.prog 10 #[worldW T P a1 n c1 a2 m c2, .int .i64 1] w fun e w' => e = .returned (.int .i64 (1 + (n : Int) * 12 + (m : Int) * 2)) ∧ Below w.heap.size w w' := by
  have hset := cset_map
  have hE : Below w.heap.size w (w.alloc (Obj.cells #[.int .i64 T, .int .i64 P, .slice a1 n c1, .slice a2 m c2] 30)) := (Below.refl _ _).alloc (Nat.le_refl _) _
  have n1 : ¬ (1 + (n : Int) * 12 < 0) := by omega
  have n2 : ¬ (1 + (n : Int) * 12 + (m : Int) * 2 < 0) := by omega
  go_enter Tryz.func10, Tryz.ntmps10
  go_wp2_with (first
    | (go_at_call 30; refine (heldBodyS_from 1 (by omega) (by omega) _ n _ _ (ob.below hE) (by omega)).mono ?_; rintro e w1 ⟨rfl, rfl⟩)
    | (go_at_call 31; refine (heldPairS_from _ (by omega) (by omega) _ m _ _ (op.below hE) (by omega)).mono ?_; rintro e w2 ⟨rfl, rfl⟩))
  go_ret
  exact ⟨rfl, hE⟩
theorem Vw.xlt {wc : World} {lo hi bx : Nat} {T P : Int} {a1 : Option Addr} {n c1 : Nat} {U : Nat → Int} {a2 : Option Addr} {m c2 : Nat} {Q : Nat → Int} (h : Vw wc lo hi bx T P a1 n c1 U a2 m c2 Q) : ∀ b, ownX a1 n c1 a2 m c2 b → lo ≤ b ∧ b < hi ∧ b ≠ bx := fun b x => by
  rcases x with x | x
  · exact ⟨(h.ob.lt b x).1, (h.t1 b x).1, (h.t1 b x).2⟩
  · exact ⟨(h.op.lt b x).1, (h.t2 b x).1, (h.t2 b x).2⟩
theorem Vw.mark {wc : World} {lo hi bx : Nat} {T P : Int} {a1 : Option Addr} {n c1 : Nat} {U : Nat → Int} {a2 : Option Addr} {m c2 : Nat} {Q : Nat → Int} {w' : World} {U' Q' : Nat → Int} (h : Vw wc lo hi bx T P a1 n c1 U a2 m c2 Q) (hs : Fr (ownX a1 n c1 a2 m c2) wc w') (o1 : OwnL w' lo 55 12 (.slice a1 n c1) n U') (o2 : OwnL w' lo 45 2 (.slice a2 m c2) m Q') : Vw w' lo hi bx T P a1 n c1 U' a2 m c2 Q' := by
  have nb : ¬ ownX a1 n c1 a2 m c2 bx := fun x => (h.xlt _ x).2.2 rfl
  have k := fun o => hs.cell (p := ⟨bx, o, none⟩) h.blt nb
  exact ⟨(k 0).trans h.c0, (k 1).trans h.c1, (k 2).trans h.c2, (k 3).trans h.c3, fun o => (hs.frozen (p := ⟨bx, o, none⟩) h.blt nb).trans (h.nf o), h.bl, h.bh, Nat.le_trans h.le hs.size, o1, o2, h.t1, h.t2⟩
/-- a variable for a world, empty -/
structure Bx0 (w : World) (lo bx : Nat) : Prop where
  c0 : w.cell? ⟨bx, 0, none⟩ = some (.int .i64 0)
  c1 : w.cell? ⟨bx, 1, none⟩ = some (.int .i64 0)
  c2 : w.cell? ⟨bx, 2, none⟩ = some (.slice none 0 0)
  c3 : w.cell? ⟨bx, 3, none⟩ = some (.slice none 0 0)
  nf : ∀ o, w.frozen? ⟨bx, o, none⟩ = false
  bl : lo ≤ bx
  lt : bx < w.heap.size
theorem Bx0.on {w w' : World} {lo bx : Nat} (h : Bx0 w lo bx) (hb : Below w.heap.size w w') : Bx0 w' lo bx :=
  ⟨(hb.cell (p := ⟨bx, 0, none⟩) h.lt).trans h.c0, (hb.cell (p := ⟨bx, 1, none⟩) h.lt).trans h.c1, (hb.cell (p := ⟨bx, 2, none⟩) h.lt).trans h.c2, (hb.cell (p := ⟨bx, 3, none⟩) h.lt).trans h.c3, fun o => (hb.frozen (p := ⟨bx, o, none⟩) h.lt).trans (h.nf o), h.bl, Nat.lt_of_lt_of_le h.lt hb.size⟩
theorem Bx0.new (w : World) (lo : Nat) (hl : lo ≤ w.heap.size) : Bx0 (w.alloc (Obj.cells #[.int .i64 0, .int .i64 0, .slice none 0 0, .slice none 0 0] 30)) lo w.heap.size := ⟨by go_simp, by go_simp, by go_simp, by go_simp, fun o => by go_simp, hl, by simp⟩
theorem Bx0.drew {w : World} {lo bx : Nat} (h : Bx0 w lo bx) : Bx0 w.drew lo bx := h.on (Below.drew (Below.refl _ _))
theorem setFr4 (wb : World) (bx : Nat) (v0 v1 v2 v3 : Value) : Fr (fun b => b = bx) wb ((((wb.setCell ⟨bx, 0, none⟩ v0).setCell ⟨bx, 1, none⟩ v1).setCell ⟨bx, 2, none⟩ v2).setCell ⟨bx, 3, none⟩ v3) :=
  (((Fr.setCell (X := fun b => b = bx) rfl _).trans (Fr.setCell (X := fun b => b = bx) rfl _)).trans (Fr.setCell (X := fun b => b = bx) rfl _)).trans (Fr.setCell (X := fun b => b = bx) rfl _)
theorem Vw.put {wb : World} {lo bx : Nat} {T P : Int} {a1 a2 : Option Addr} {n c1 m c2 : Nat} {U Q : Nat → Int} (ob : OwnL wb lo 55 12 (.slice a1 n c1) n U) (op : OwnL wb lo 45 2 (.slice a2 m c2) m Q) (hx : Bx0 wb lo bx)
    (n1 : ∀ b, ownX a1 n c1 a2 m c2 b → b ≠ bx) : Vw ((((wb.setCell ⟨bx, 0, none⟩ (.int .i64 T)).setCell ⟨bx, 1, none⟩ (.int .i64 P)).setCell ⟨bx, 2, none⟩ (.slice a1 n c1)).setCell ⟨bx, 3, none⟩ (.slice a2 m c2)) lo wb.heap.size bx T P a1 n c1 U a2 m c2 Q := by
  have hset := cset_map
  have z0 := hx.c0
  have z1 := hx.c1
  have z2 := hx.c2
  have z3 := hx.c3
  have nf := hx.nf
  have hs := setFr4 wb bx (.int .i64 T) (.int .i64 P) (.slice a1 n c1) (.slice a2 m c2)
  refine ⟨by go_simp, by go_simp, by go_simp, by go_simp, fun o => by go_simp, hx.bl, hx.lt, hs.size, ob.frame hs (fun b e x => n1 b (.inl e) x), op.frame hs (fun b e x => n1 b (.inr e) x), fun b e => ⟨(ob.lt b e).2, n1 b (.inl e)⟩, fun b e => ⟨(op.lt b e).2, n1 b (.inr e)⟩⟩
theorem Vw.rows {w0 w2 : World} {T P : Int} {n m b d : Nat} {U Q : Nat → Int} (hr : Row w2 b 55 (n * 12) U) (hq : Row w2 d 45 (m * 2) Q) (hb : w0.heap.size ≤ b) (hd : w0.heap.size ≤ d) (hn : n ≤ 1048576) (hm : m ≤ 1048576) (hb2 : Below w0.heap.size w0 w2) :
    OutW w0 w2 (some ⟨b, 0, none⟩) n n U (some ⟨d, 0, none⟩) m m Q :=
  ⟨hb2, hr.own hb (by unfold maxLen; omega), hq.own hd (by unfold maxLen; omega), (hr.own hb (by unfold maxLen; omega)).neT (hq.own hd (by unfold maxLen; omega)) (by decide)⟩
end Go.Proofs.YthekeeagjokpeaaGreat
namespace Go.Proofs.YthekeeagjokpeaaGreat
open Go.RowKit
set_option linter.unusedVariables false
set_option linter.unusedSimpArgs false

/-- a world of the program's own, in a variable at bx -/
structure Xw (wc : World) (bx : Nat) (T P : Int) (n m b d : Nat) (U Q : Nat → Int) : Prop where
  c0 : wc.cell? ⟨bx, 0, none⟩ = some (.int .i64 T)
  c1 : wc.cell? ⟨bx, 1, none⟩ = some (.int .i64 P)
  c2 : wc.cell? ⟨bx, 2, none⟩ = some (.slice (some ⟨b, 0, none⟩) n n)
  c3 : wc.cell? ⟨bx, 3, none⟩ = some (.slice (some ⟨d, 0, none⟩) m m)
  lt : bx < wc.heap.size
  hr : Row wc b 55 (n * 12) U
  hq : Row wc d 45 (m * 2) Q
theorem Xw.on {wc w' : World} {bx n m b d : Nat} {T P : Int} {U Q : Nat → Int} (h : Xw wc bx T P n m b d U Q) (hb : Below wc.heap.size wc w') : Xw w' bx T P n m b d U Q :=
  ⟨(hb.cell (p := ⟨bx, 0, none⟩) h.lt).trans h.c0, (hb.cell (p := ⟨bx, 1, none⟩) h.lt).trans h.c1, (hb.cell (p := ⟨bx, 2, none⟩) h.lt).trans h.c2, (hb.cell (p := ⟨bx, 3, none⟩) h.lt).trans h.c3, Nat.lt_of_lt_of_le h.lt hb.size, h.hr.below hb, h.hq.below hb⟩
end Go.Proofs.YthekeeagjokpeaaGreat
namespace Go.Proofs.YthekeeagjokpeaaGreat
open Go.RowKit
set_option linter.unusedVariables false
set_option linter.unusedSimpArgs false

/-- a number, or 0 where it may not be -/
def bb (o : Bool) (x : Int) : Int := if o = true then x else 0
theorem bb_t (x : Int) : bb true x = x := rfl
theorem bb_f (x : Int) : bb false x = 0 := rfl

end Go.Proofs.YthekeeagjokpeaaGreat
namespace Go.Proofs.YthekeeagjokpeaaGreat
open Go.RowKit
set_option linter.unusedVariables false
set_option linter.unusedSimpArgs false

theorem l3Less_any (x y : Int) (w : World) :
    Calls Tryz.prog 115 #[.int .i64 x, .int .i64 y] w fun e w' => e = .returned (.int .i64 (mn x y)) ∧ w' = w := by
  go_enter Tryz.func115, Tryz.ntmps115
  go_wp2
  all_goals
    go_ret
    refine ⟨?_, rfl⟩
    unfold mn
    split <;> first | rfl | (exfalso; omega) | (have hxy : x = y := (by omega); subst hxy; rfl) | (exfalso; simp at *; omega)

theorem l3More_any (x y : Int) (w : World) :
    Calls Tryz.prog 116 #[.int .i64 x, .int .i64 y] w fun e w' => e = .returned (.int .i64 (mx x y)) ∧ w' = w := by
  go_enter Tryz.func116, Tryz.ntmps116
  go_wp2
  all_goals
    go_ret
    refine ⟨?_, rfl⟩
    unfold mx
    split <;> first | rfl | (exfalso; omega) | (have hxy : x = y := (by omega); subst hxy; rfl) | (exfalso; simp at *; omega)

end Go.Proofs.YthekeeagjokpeaaGreat
namespace Go.Proofs.YthekeeagjokpeaaGreat
open Go.RowKit
set_option linter.unusedVariables false
set_option linter.unusedSimpArgs false

set_option maxHeartbeats 4000000 in
theorem l3Near_any (a b c d x y : Int) (w : World) :
    Calls Tryz.prog 90 #[b4 a b c d, vv x y] w fun e w' => e = .returned (vv (mn (mx x a) c) (mn (mx y b) d)) ∧ Below w.heap.size w w' := by
  have hset := cset_map
  go_enter Tryz.func90, Tryz.ntmps90
  go_wp2
  go_region_held3 (fun w' => w'.cell? ⟨w.heap.size, 0, none⟩ = some (.int .i64 a) ∧ w'.cell? ⟨w.heap.size, 1, none⟩ = some (.int .i64 b) ∧ w'.cell? ⟨w.heap.size, 2, none⟩ = some (.int .i64 c) ∧ w'.cell? ⟨w.heap.size, 3, none⟩ = some (.int .i64 d) ∧ w'.cell? ⟨w.heap.size + 1, 0, none⟩ = some (.int .i64 x) ∧ w'.cell? ⟨w.heap.size + 1, 1, none⟩ = some (.int .i64 y)) (first | (go_simp; done) | (go_keep; done)) (first
    | (go_at_call 115; refine (l3Less_any _ _ _).mono ?_; rintro e w' ⟨rfl, rfl⟩)
    | (go_at_call 116; refine (l3More_any _ _ _).mono ?_; rintro e w' ⟨rfl, rfl⟩))
  all_goals
    go_wp2
    exact bodyPost_ret (v := vv (mn (mx x a) c) (mn (mx y b) d)) (by simp [results, Tryz.results90, go_sem, *]) rfl ⟨rfl, by repeat (first | with_reducible apply Below.refl | (with_reducible apply Below.setCell; rotate_left; focus (first | omega | (simp; done) | (simp; omega))) | (with_reducible apply Below.alloc; rotate_left; focus (first | omega | (simp; done) | (simp; omega))) | with_reducible apply Below.drew | with_reducible apply belowDrewN | (with_reducible apply Below.trans; rotate_left; with_reducible apply Below.mono; with_reducible assumption; focus (first | omega | (simp; done) | (simp; omega))))⟩

end Go.Proofs.YthekeeagjokpeaaGreat
namespace Go.Proofs.YthekeeagjokpeaaGreat
open Go.RowKit
set_option linter.unusedVariables false
set_option linter.unusedSimpArgs false

/-- how two that are round touch: the way, how deep, and whether they do -/
def rdT (dx dy g : Int) : (Int × Int × Int) × Bool := if dx * dx + dy * dy ≤ g * g then ((ux dx dy, uy dx dy, g - vl dx dy), true) else ((0, 0, 0), false)
/-- the side on which it is least deep -/
def bsT (s0 s1 s2 s3 : Int) : Int × Int × Int :=
  let m1 : Int × Int × Int := if s1 < s0 then (-256, 0, s1) else (256, 0, s0)
  let m2 : Int × Int × Int := if s2 < m1.2.2 then (0, 256, s2) else m1
  if s3 < m2.2.2 then (0, -256, s3) else m2
def bxT (a b c d r s t u : Int) : (Int × Int × Int) × Bool := if (leB a b t u && leB r s c d) = true then (bsT (c - r) (t - a) (d - s) (u - b), true) else ((0, 0, 0), false)

theorem sunit_q (x y X Y : Int) (w : World) (e1 : ux (fc x) (fc y) = X) (e2 : uy (fc x) (fc y) = Y) :
    Calls Tryz.prog 86 #[vv x y] w fun e w' => e = .returned (vv X Y) ∧ Below w.heap.size w w' := by
  subst e1; subst e2; exact sVecUnit_any x y w
theorem slen_q (x y L : Int) (w : World) (e : vl (fc x) (fc y) = L) :
    Calls Tryz.prog 87 #[vv x y] w fun e w' => e = .returned (.int .i64 L) ∧ Below w.heap.size w w' := by
  subst e; exact sVecLen_any x y w
set_option maxHeartbeats 4000000 in
theorem l5Rounds_q (a b x y g X Y D : Int) (K : Bool) (w : World) (qa : -3000000 ≤ a ∧ a ≤ 3000000) (qb : -3000000 ≤ b ∧ b ≤ 3000000) (qx : -3000000 ≤ x ∧ x ≤ 3000000) (qy : -3000000 ≤ y ∧ y ≤ 3000000) (g0 : 0 ≤ g ∧ g ≤ 100000) (e : rdT (x - a) (y - b) g = ((X, Y, D), K)) :
    Calls Tryz.prog 56 #[vv a b, vv x y, .int .i64 g] w fun e w' => e = .returned (.tuple #[s3 X Y D, .bool K]) ∧ Below w.heap.size w w' := by
  have hset := cset_map
  obtain ⟨dx, ex⟩ : ∃ z, x - a = z := ⟨_, rfl⟩
  obtain ⟨dy, ey⟩ : ∃ z, y - b = z := ⟨_, rfl⟩
  have w1 := i64w (n := x - a) (by omega)
  have w2 := i64w (n := y - b) (by omega)
  rw [ex] at e w1
  rw [ey] at e w2
  have m3 := mul_bd (a := g) (b := g) (A := 100000) (B := 100000) (by omega) (by omega)
  have w3 := i64w (n := g * g) (by omega)
  unfold rdT at e
  cases dd : decide (g * g < dx * dx + dy * dy) with
  | true =>
    have hn := of_decide_eq_true dd
    rw [if_neg (by omega)] at e
    cases e
    clear hn m3
    go_enter Tryz.func56, Tryz.ntmps56
    go_wp2_with (go_at_call 85; refine (l2Square_any _ _ _ (by omega) (by omega)).mono ?_; rintro e w1 ⟨rfl, hb1⟩; obtain ⟨hc1, hf1⟩ := bcell hb1; have hz1 := hb1.size; (try simp only [World.size_drew, World.size_alloc, World.size_setCell] at hc1 hf1 hz1); have hk1x0 := fun o => hc1 (w.heap.size) o (by omega); have hj1x0 := fun o => hf1 (w.heap.size) o (by omega); have hq1x0 : w.heap.size < w1.heap.size := (by omega); have hk1x1 := fun o => hc1 (w.heap.size + 1) o (by omega); have hj1x1 := fun o => hf1 (w.heap.size + 1) o (by omega); have hq1x1 : w.heap.size + 1 < w1.heap.size := (by omega); have hk1x2 := fun o => hc1 (w.heap.size + 1 + 1) o (by omega); have hj1x2 := fun o => hf1 (w.heap.size + 1 + 1) o (by omega); have hq1x2 : w.heap.size + 1 + 1 < w1.heap.size := (by omega); have hk1x3 := fun o => hc1 (w.heap.size + 1 + 1 + 1) o (by omega); have hj1x3 := fun o => hf1 (w.heap.size + 1 + 1 + 1) o (by omega); have hq1x3 : w.heap.size + 1 + 1 + 1 < w1.heap.size := (by omega); clear hc1 hf1)
    exact bodyPost_ret (v := .tuple #[s3 0 0 0, .bool false]) (by simp [results, Tryz.results56, go_sem, *]) rfl ⟨rfl, by repeat (first | with_reducible apply Below.refl | (with_reducible apply Below.setCell; rotate_left; focus (first | omega | (simp; done) | (simp; omega))) | (with_reducible apply Below.alloc; rotate_left; focus (first | omega | (simp; done) | (simp; omega))) | with_reducible apply Below.drew | with_reducible apply belowDrewN | (with_reducible apply Below.trans; rotate_left; with_reducible apply Below.mono; with_reducible assumption; focus (first | omega | (simp; done) | (simp; omega))))⟩
  | false =>
    have hn := of_decide_eq_false dd
    rw [if_pos (by omega)] at e
    obtain ⟨L, eL⟩ : ∃ z, vl dx dy = z := ⟨_, rfl⟩
    have lb := vl_bd dx dy
    rw [eL] at lb
    rw [eL] at e
    simp only [Prod.mk.injEq] at e
    obtain ⟨⟨eX, eY, eD⟩, eK⟩ := e
    subst eD
    subst eK
    have f1 := fc_id (n := dx) (by omega) (by omega)
    have f2 := fc_id (n := dy) (by omega) (by omega)
    have eX : ux (fc dx) (fc dy) = X := by rw [f1, f2]; exact eX
    have eY : uy (fc dx) (fc dy) = Y := by rw [f1, f2]; exact eY
    have eL : vl (fc dx) (fc dy) = L := by rw [f1, f2]; exact eL
    have w4 := i64w (n := g - L) (by omega)
    clear hn m3 f1 f2
    go_enter Tryz.func56, Tryz.ntmps56
    go_upto_region 4 with (go_at_call 85; refine (l2Square_any _ _ _ (by omega) (by omega)).mono ?_; rintro e w1 ⟨rfl, hb1⟩; obtain ⟨hc1, hf1⟩ := bcell hb1; have hz1 := hb1.size; (try simp only [World.size_drew, World.size_alloc, World.size_setCell] at hc1 hf1 hz1); have hk1x0 := fun o => hc1 (w.heap.size) o (by omega); have hj1x0 := fun o => hf1 (w.heap.size) o (by omega); have hq1x0 : w.heap.size < w1.heap.size := (by omega); have hk1x1 := fun o => hc1 (w.heap.size + 1) o (by omega); have hj1x1 := fun o => hf1 (w.heap.size + 1) o (by omega); have hq1x1 : w.heap.size + 1 < w1.heap.size := (by omega); have hk1x2 := fun o => hc1 (w.heap.size + 1 + 1) o (by omega); have hj1x2 := fun o => hf1 (w.heap.size + 1 + 1) o (by omega); have hq1x2 : w.heap.size + 1 + 1 < w1.heap.size := (by omega); have hk1x3 := fun o => hc1 (w.heap.size + 1 + 1 + 1) o (by omega); have hj1x3 := fun o => hf1 (w.heap.size + 1 + 1 + 1) o (by omega); have hq1x3 : w.heap.size + 1 + 1 + 1 < w1.heap.size := (by omega); clear hc1 hf1)
    refine wp_region_held_drew (S := fun w' => w'.cell? ⟨w.heap.size + 1 + 1 + 1, 0, none⟩ = some (.int .i64 dx) ∧ w'.cell? ⟨w.heap.size + 1 + 1 + 1, 1, none⟩ = some (.int .i64 dy)) (by kernel_rfl) ?_ (fun hHeld => ?_)
    · (try dsimp only)
      (first | (go_simp; done) | (go_keep; done))
    (refine wpAnyH_take (i := 0) (oi := { dst := some 27, op := Go.Op.load 53 (Go.Operand.tmp 8), type := 53, pos := "l5_touch.go:11", after := #[], guard := none }) (v := ?_) rfl (by kernel_rfl) (by kernel_rfl) (by kernel_rfl) (fun _ _ _ h => h) (Or.inl ⟨by rfl, ?_⟩) hHeld ?_; rotate_left; (focus ((intro w hSw; (try dsimp only at hSw); go_simp); (try with_reducible rfl); done)); (try simp only [Act.put, List.setIfInBounds_toArray, List.set_cons_zero, List.set_cons_succ]))
    (refine wpAnyH_take (i := 2) (oi := { dst := some 29, op := Go.Op.move (Go.Operand.tmp 2), type := 3, pos := "l5_touch.go:11", after := #[], guard := none }) (v := ?_) rfl (by kernel_rfl) (by kernel_rfl) (by kernel_rfl) (fun _ _ _ h => h) (Or.inl ⟨by rfl, ?_⟩) hHeld ?_; rotate_left; (focus ((intro w hSw; (try dsimp only at hSw); go_simp); (try with_reducible rfl); done)); (try simp only [Act.put, List.setIfInBounds_toArray, List.set_cons_zero, List.set_cons_succ]))
    (refine wpAnyH_take (i := 3) (oi := { dst := some 30, op := Go.Op.load 53 (Go.Operand.tmp 8), type := 53, pos := "l5_touch.go:11", after := #[], guard := none }) (v := ?_) rfl (by kernel_rfl) (by kernel_rfl) (by kernel_rfl) (fun _ _ _ h => h) (Or.inl ⟨by rfl, ?_⟩) hHeld ?_; rotate_left; (focus ((intro w hSw; (try dsimp only at hSw); go_simp); (try with_reducible rfl); done)); (try simp only [Act.put, List.setIfInBounds_toArray, List.set_cons_zero, List.set_cons_succ]))
    (refine wpAnyH_ready (rs := [1]) (by kernel_rfl) (by simp) ?_; refine AllReadyH.cons (o := { dst := some 28, op := Go.Op.call { callee := Go.Callee.value (Go.Operand.func 86), args := #[Go.Operand.tmp 27], argTypes := #[53] }, type := 53, pos := "l5_touch.go:11", after := #[{ on := 0, ground := Go.Ground.data }], guard := none }) rfl (fun K hK => ?_) AllReadyH.nil; go_simp; (go_at_call 86; refine (sunit_q _ _ _ _ _ eX eY).mono ?_; rintro e w2 ⟨rfl, hb2⟩; obtain ⟨hc2, hf2⟩ := bcell hb2; have hz2 := hb2.size; (try simp only [World.size_drew, World.size_alloc, World.size_setCell] at hc2 hf2 hz2); have hk2x0 := fun o => hc2 (w.heap.size) o (by omega); have hj2x0 := fun o => hf2 (w.heap.size) o (by omega); have hq2x0 : w.heap.size < w2.heap.size := (by omega); have hk2x1 := fun o => hc2 (w.heap.size + 1) o (by omega); have hj2x1 := fun o => hf2 (w.heap.size + 1) o (by omega); have hq2x1 : w.heap.size + 1 < w2.heap.size := (by omega); have hk2x2 := fun o => hc2 (w.heap.size + 1 + 1) o (by omega); have hj2x2 := fun o => hf2 (w.heap.size + 1 + 1) o (by omega); have hq2x2 : w.heap.size + 1 + 1 < w2.heap.size := (by omega); have hk2x3 := fun o => hc2 (w.heap.size + 1 + 1 + 1) o (by omega); have hj2x3 := fun o => hf2 (w.heap.size + 1 + 1 + 1) o (by omega); have hq2x3 : w.heap.size + 1 + 1 + 1 < w2.heap.size := (by omega); clear hc2 hf2); (try go_wp2_with fail); refine hK.out _ _ ?_ (fun hHeld => ?_); (focus ((try dsimp only); (first | (go_simp; done) | (go_keep; done)))); clear hK K; (try simp only [Act.put, List.setIfInBounds_toArray, List.set_cons_zero, List.set_cons_succ]))
    (refine wpAnyH_ready (rs := [4]) (by kernel_rfl) (by simp) ?_; refine AllReadyH.cons (o := { dst := some 31, op := Go.Op.call { callee := Go.Callee.value (Go.Operand.func 87), args := #[Go.Operand.tmp 30], argTypes := #[53] }, type := 3, pos := "l5_touch.go:11", after := #[{ on := 3, ground := Go.Ground.data }, { on := 1, ground := Go.Ground.chain }], guard := none }) rfl (fun K hK => ?_) AllReadyH.nil; go_simp; (go_at_call 87; refine (slen_q _ _ _ _ eL).mono ?_; rintro e w3 ⟨rfl, hb3⟩; obtain ⟨hc3, hf3⟩ := bcell hb3; have hz3 := hb3.size; (try simp only [World.size_drew, World.size_alloc, World.size_setCell] at hc3 hf3 hz3); have hk3x0 := fun o => hc3 (w.heap.size) o (by omega); have hj3x0 := fun o => hf3 (w.heap.size) o (by omega); have hq3x0 : w.heap.size < w3.heap.size := (by omega); have hk3x1 := fun o => hc3 (w.heap.size + 1) o (by omega); have hj3x1 := fun o => hf3 (w.heap.size + 1) o (by omega); have hq3x1 : w.heap.size + 1 < w3.heap.size := (by omega); have hk3x2 := fun o => hc3 (w.heap.size + 1 + 1) o (by omega); have hj3x2 := fun o => hf3 (w.heap.size + 1 + 1) o (by omega); have hq3x2 : w.heap.size + 1 + 1 < w3.heap.size := (by omega); have hk3x3 := fun o => hc3 (w.heap.size + 1 + 1 + 1) o (by omega); have hj3x3 := fun o => hf3 (w.heap.size + 1 + 1 + 1) o (by omega); have hq3x3 : w.heap.size + 1 + 1 + 1 < w3.heap.size := (by omega); clear hc3 hf3); (try go_wp2_with fail); refine hK.out _ _ ?_ (fun hHeld => ?_); (focus ((try dsimp only); (first | (go_simp; done) | (go_keep; done)))); clear hK K; (try simp only [Act.put, List.setIfInBounds_toArray, List.set_cons_zero, List.set_cons_succ]))
    (refine wpAnyH_take (i := 5) (oi := { dst := some 32, op := Go.Op.binOp Go.BinOp.sub 3 (Go.Operand.tmp 29) (Go.Operand.tmp 31) 3, type := 3, pos := "l5_touch.go:11", after := #[{ on := 2, ground := Go.Ground.data }, { on := 4, ground := Go.Ground.data }], guard := none }) (v := ?_) rfl (by kernel_rfl) (by kernel_rfl) (by kernel_rfl) (fun _ _ _ h => h) (Or.inl ⟨by rfl, ?_⟩) hHeld ?_; rotate_left; (focus ((intro w hSw; (try dsimp only at hSw); go_simp); (try with_reducible rfl); done)); (try simp only [Act.put, List.setIfInBounds_toArray, List.set_cons_zero, List.set_cons_succ]))
    (refine wpAnyH_take (i := 6) (oi := { dst := some 33, op := Go.Op.build 58 #[(0, Go.Operand.tmp 28), (1, Go.Operand.tmp 32)], type := 58, pos := "l5_touch.go:11", after := #[{ on := 1, ground := Go.Ground.data }, { on := 5, ground := Go.Ground.data }], guard := none }) (v := ?_) rfl (by kernel_rfl) (by kernel_rfl) (by kernel_rfl) (fun _ _ _ h => h) (Or.inl ⟨by rfl, ?_⟩) hHeld ?_; rotate_left; (focus ((intro w hSw; (try dsimp only at hSw); go_simp); (try with_reducible rfl); done)); (try simp only [Act.put, List.setIfInBounds_toArray, List.set_cons_zero, List.set_cons_succ]))
    (refine wpAnyH_ready (rs := [7]) (by kernel_rfl) (by simp) ?_; refine AllReadyH.cons (o := { dst := none, op := Go.Op.store 58 (Go.Operand.tmp 6) (Go.Operand.tmp 33), type := 0, pos := "l5_touch.go:11", after := #[{ on := 6, ground := Go.Ground.data }, { on := 4, ground := Go.Ground.chain }, { on := 0, ground := Go.Ground.phase }, { on := 1, ground := Go.Ground.phase }, { on := 2, ground := Go.Ground.phase }, { on := 3, ground := Go.Ground.phase }, { on := 4, ground := Go.Ground.phase }, { on := 5, ground := Go.Ground.phase }, { on := 6, ground := Go.Ground.phase }], guard := none }) rfl (fun K hK => ?_) AllReadyH.nil; go_simp; refine hK.out _ _ ?_ (fun hHeld => ?_); (focus ((try dsimp only); (first | (go_simp; done) | (go_keep; done)))); clear hK K; (try simp only [Act.put, List.setIfInBounds_toArray, List.set_cons_zero, List.set_cons_succ]))
    (refine wpAnyH_take (i := 8) (oi := { dst := some 7, op := Go.Op.assign (Go.Operand.const (Go.Value.bool true)), type := 4, pos := "l5_touch.go:11", after := #[{ on := 7, ground := Go.Ground.chain }, { on := 0, ground := Go.Ground.phase }, { on := 1, ground := Go.Ground.phase }, { on := 2, ground := Go.Ground.phase }, { on := 3, ground := Go.Ground.phase }, { on := 4, ground := Go.Ground.phase }, { on := 5, ground := Go.Ground.phase }, { on := 6, ground := Go.Ground.phase }, { on := 7, ground := Go.Ground.phase }], guard := none }) (v := ?_) rfl (by kernel_rfl) (by kernel_rfl) (by kernel_rfl) (fun _ _ _ h => h) (Or.inl ⟨by rfl, ?_⟩) hHeld ?_; rotate_left; (focus ((intro w hSw; (try dsimp only at hSw); go_simp); (try with_reducible rfl); done)); (try simp only [Act.put, List.setIfInBounds_toArray, List.set_cons_zero, List.set_cons_succ]))
    refine wpAnyH_done (by kernel_rfl) ?_ _
    go_wp2_with fail
    exact bodyPost_ret (v := .tuple #[s3 X Y (g - L), .bool true]) (by simp [results, Tryz.results56, go_sem, *]) rfl ⟨rfl, by repeat (first | with_reducible apply Below.refl | (with_reducible apply Below.setCell; rotate_left; focus (first | omega | (simp; done) | (simp; omega))) | (with_reducible apply Below.alloc; rotate_left; focus (first | omega | (simp; done) | (simp; omega))) | with_reducible apply Below.drew | with_reducible apply belowDrewN | (with_reducible apply Below.trans; rotate_left; with_reducible apply Below.mono; with_reducible assumption; focus (first | omega | (simp; done) | (simp; omega))))⟩

theorem smeets_q (a b c d r s t u : Int) (z : Bool) (w : World) (e : (leB a b t u && leB r s c d) = z) :
    Calls Tryz.prog 88 #[b4 a b c d, b4 r s t u] w fun e w' => e = .returned (.bool z) ∧ Below w.heap.size w w' := by
  subst e; exact l3Meets_any a b c d r s t u w
set_option maxHeartbeats 8000000 in
theorem l5Boxes_q (a b c d r s t u X Y D : Int) (K : Bool) (w : World) (qa : -3000000 ≤ a ∧ a ≤ 3000000) (qb : -3000000 ≤ b ∧ b ≤ 3000000) (qc : -3000000 ≤ c ∧ c ≤ 3000000) (qd : -3000000 ≤ d ∧ d ≤ 3000000) (qr : -3000000 ≤ r ∧ r ≤ 3000000) (qs : -3000000 ≤ s ∧ s ≤ 3000000) (qt : -3000000 ≤ t ∧ t ≤ 3000000) (qu : -3000000 ≤ u ∧ u ≤ 3000000) (e : bxT a b c d r s t u = ((X, Y, D), K)) :
    Calls Tryz.prog 57 #[b4 a b c d, b4 r s t u] w fun e w' => e = .returned (.tuple #[s3 X Y D, .bool K]) ∧ Below w.heap.size w w' := by
  have hset := cset_map
  unfold bxT at e
  cases eM : (leB a b t u && leB r s c d) with
  | false =>
    rw [if_neg (by simp [eM])] at e
    cases e
    go_enter Tryz.func57, Tryz.ntmps57
    go_wp2_with (go_at_call 88; refine (smeets_q _ _ _ _ _ _ _ _ _ _ eM).mono ?_; rintro e w1 ⟨rfl, hb1⟩; obtain ⟨hc1, hf1⟩ := bcell hb1; have hz1 := hb1.size; (try simp only [World.size_drew, World.size_alloc, World.size_setCell] at hc1 hf1 hz1); have hk1x0 := fun o => hc1 (w.heap.size) o (by omega); have hj1x0 := fun o => hf1 (w.heap.size) o (by omega); have hq1x0 : w.heap.size < w1.heap.size := (by omega); have hk1x1 := fun o => hc1 (w.heap.size + 1) o (by omega); have hj1x1 := fun o => hf1 (w.heap.size + 1) o (by omega); have hq1x1 : w.heap.size + 1 < w1.heap.size := (by omega); have hk1x2 := fun o => hc1 (w.heap.size + 1 + 1) o (by omega); have hj1x2 := fun o => hf1 (w.heap.size + 1 + 1) o (by omega); have hq1x2 : w.heap.size + 1 + 1 < w1.heap.size := (by omega); clear hc1 hf1)
    exact bodyPost_ret (v := .tuple #[s3 0 0 0, .bool false]) (by simp [results, Tryz.results57, go_sem, *]) rfl ⟨rfl, by repeat (first | with_reducible apply Below.refl | (with_reducible apply Below.setCell; rotate_left; focus (first | omega | (simp; done) | (simp; omega))) | (with_reducible apply Below.alloc; rotate_left; focus (first | omega | (simp; done) | (simp; omega))) | with_reducible apply Below.drew | with_reducible apply belowDrewN | (with_reducible apply Below.trans; rotate_left; with_reducible apply Below.mono; with_reducible assumption; focus (first | omega | (simp; done) | (simp; omega))))⟩
  | true =>
    rw [if_pos eM] at e
    obtain ⟨s0, es0⟩ : ∃ z, c - r = z := ⟨_, rfl⟩
    have ws0 := i64w (n := c - r) (by omega)
    rw [es0] at e ws0
    obtain ⟨s1, es1⟩ : ∃ z, t - a = z := ⟨_, rfl⟩
    have ws1 := i64w (n := t - a) (by omega)
    rw [es1] at e ws1
    obtain ⟨s2, es2⟩ : ∃ z, d - s = z := ⟨_, rfl⟩
    have ws2 := i64w (n := d - s) (by omega)
    rw [es2] at e ws2
    obtain ⟨s3', es3'⟩ : ∃ z, u - b = z := ⟨_, rfl⟩
    have ws3' := i64w (n := u - b) (by omega)
    rw [es3'] at e ws3'
    unfold bsT at e
    cases d1 : decide (s1 < s0) with
    | true =>
      simp only [if_pos (of_decide_eq_true d1)] at e
      cases d2 : decide (s2 < s1) with
      | true =>
        simp only [if_pos (of_decide_eq_true d2)] at e
        cases d3 : decide (s3' < s2) with
        | true =>
          simp only [if_pos (of_decide_eq_true d3)] at e
          simp only [Prod.mk.injEq] at e
          obtain ⟨⟨eX, eY, eD⟩, eK⟩ := e
          subst eX
          subst eY
          subst eD
          subst eK
          go_enter Tryz.func57, Tryz.ntmps57
          go_wp2_with (go_at_call 88; refine (smeets_q _ _ _ _ _ _ _ _ _ _ eM).mono ?_; rintro e w1 ⟨rfl, hb1⟩; obtain ⟨hc1, hf1⟩ := bcell hb1; have hz1 := hb1.size; (try simp only [World.size_drew, World.size_alloc, World.size_setCell] at hc1 hf1 hz1); have hk1x0 := fun o => hc1 (w.heap.size) o (by omega); have hj1x0 := fun o => hf1 (w.heap.size) o (by omega); have hq1x0 : w.heap.size < w1.heap.size := (by omega); have hk1x1 := fun o => hc1 (w.heap.size + 1) o (by omega); have hj1x1 := fun o => hf1 (w.heap.size + 1) o (by omega); have hq1x1 : w.heap.size + 1 < w1.heap.size := (by omega); have hk1x2 := fun o => hc1 (w.heap.size + 1 + 1) o (by omega); have hj1x2 := fun o => hf1 (w.heap.size + 1 + 1) o (by omega); have hq1x2 : w.heap.size + 1 + 1 < w1.heap.size := (by omega); clear hc1 hf1)
          exact bodyPost_ret (v := .tuple #[s3 0 (-256) s3', .bool true]) (by simp [results, Tryz.results57, go_sem, *]) rfl ⟨rfl, by repeat (first | with_reducible apply Below.refl | (with_reducible apply Below.setCell; rotate_left; focus (first | omega | (simp; done) | (simp; omega))) | (with_reducible apply Below.alloc; rotate_left; focus (first | omega | (simp; done) | (simp; omega))) | with_reducible apply Below.drew | with_reducible apply belowDrewN | (with_reducible apply Below.trans; rotate_left; with_reducible apply Below.mono; with_reducible assumption; focus (first | omega | (simp; done) | (simp; omega))))⟩
        | false =>
          simp only [if_neg (of_decide_eq_false d3)] at e
          simp only [Prod.mk.injEq] at e
          obtain ⟨⟨eX, eY, eD⟩, eK⟩ := e
          subst eX
          subst eY
          subst eD
          subst eK
          go_enter Tryz.func57, Tryz.ntmps57
          go_wp2_with (go_at_call 88; refine (smeets_q _ _ _ _ _ _ _ _ _ _ eM).mono ?_; rintro e w1 ⟨rfl, hb1⟩; obtain ⟨hc1, hf1⟩ := bcell hb1; have hz1 := hb1.size; (try simp only [World.size_drew, World.size_alloc, World.size_setCell] at hc1 hf1 hz1); have hk1x0 := fun o => hc1 (w.heap.size) o (by omega); have hj1x0 := fun o => hf1 (w.heap.size) o (by omega); have hq1x0 : w.heap.size < w1.heap.size := (by omega); have hk1x1 := fun o => hc1 (w.heap.size + 1) o (by omega); have hj1x1 := fun o => hf1 (w.heap.size + 1) o (by omega); have hq1x1 : w.heap.size + 1 < w1.heap.size := (by omega); have hk1x2 := fun o => hc1 (w.heap.size + 1 + 1) o (by omega); have hj1x2 := fun o => hf1 (w.heap.size + 1 + 1) o (by omega); have hq1x2 : w.heap.size + 1 + 1 < w1.heap.size := (by omega); clear hc1 hf1)
          exact bodyPost_ret (v := .tuple #[s3 0 256 s2, .bool true]) (by simp [results, Tryz.results57, go_sem, *]) rfl ⟨rfl, by repeat (first | with_reducible apply Below.refl | (with_reducible apply Below.setCell; rotate_left; focus (first | omega | (simp; done) | (simp; omega))) | (with_reducible apply Below.alloc; rotate_left; focus (first | omega | (simp; done) | (simp; omega))) | with_reducible apply Below.drew | with_reducible apply belowDrewN | (with_reducible apply Below.trans; rotate_left; with_reducible apply Below.mono; with_reducible assumption; focus (first | omega | (simp; done) | (simp; omega))))⟩
      | false =>
        simp only [if_neg (of_decide_eq_false d2)] at e
        cases d3 : decide (s3' < s1) with
        | true =>
          simp only [if_pos (of_decide_eq_true d3)] at e
          simp only [Prod.mk.injEq] at e
          obtain ⟨⟨eX, eY, eD⟩, eK⟩ := e
          subst eX
          subst eY
          subst eD
          subst eK
          go_enter Tryz.func57, Tryz.ntmps57
          go_wp2_with (go_at_call 88; refine (smeets_q _ _ _ _ _ _ _ _ _ _ eM).mono ?_; rintro e w1 ⟨rfl, hb1⟩; obtain ⟨hc1, hf1⟩ := bcell hb1; have hz1 := hb1.size; (try simp only [World.size_drew, World.size_alloc, World.size_setCell] at hc1 hf1 hz1); have hk1x0 := fun o => hc1 (w.heap.size) o (by omega); have hj1x0 := fun o => hf1 (w.heap.size) o (by omega); have hq1x0 : w.heap.size < w1.heap.size := (by omega); have hk1x1 := fun o => hc1 (w.heap.size + 1) o (by omega); have hj1x1 := fun o => hf1 (w.heap.size + 1) o (by omega); have hq1x1 : w.heap.size + 1 < w1.heap.size := (by omega); have hk1x2 := fun o => hc1 (w.heap.size + 1 + 1) o (by omega); have hj1x2 := fun o => hf1 (w.heap.size + 1 + 1) o (by omega); have hq1x2 : w.heap.size + 1 + 1 < w1.heap.size := (by omega); clear hc1 hf1)
          exact bodyPost_ret (v := .tuple #[s3 0 (-256) s3', .bool true]) (by simp [results, Tryz.results57, go_sem, *]) rfl ⟨rfl, by repeat (first | with_reducible apply Below.refl | (with_reducible apply Below.setCell; rotate_left; focus (first | omega | (simp; done) | (simp; omega))) | (with_reducible apply Below.alloc; rotate_left; focus (first | omega | (simp; done) | (simp; omega))) | with_reducible apply Below.drew | with_reducible apply belowDrewN | (with_reducible apply Below.trans; rotate_left; with_reducible apply Below.mono; with_reducible assumption; focus (first | omega | (simp; done) | (simp; omega))))⟩
        | false =>
          simp only [if_neg (of_decide_eq_false d3)] at e
          simp only [Prod.mk.injEq] at e
          obtain ⟨⟨eX, eY, eD⟩, eK⟩ := e
          subst eX
          subst eY
          subst eD
          subst eK
          go_enter Tryz.func57, Tryz.ntmps57
          go_wp2_with (go_at_call 88; refine (smeets_q _ _ _ _ _ _ _ _ _ _ eM).mono ?_; rintro e w1 ⟨rfl, hb1⟩; obtain ⟨hc1, hf1⟩ := bcell hb1; have hz1 := hb1.size; (try simp only [World.size_drew, World.size_alloc, World.size_setCell] at hc1 hf1 hz1); have hk1x0 := fun o => hc1 (w.heap.size) o (by omega); have hj1x0 := fun o => hf1 (w.heap.size) o (by omega); have hq1x0 : w.heap.size < w1.heap.size := (by omega); have hk1x1 := fun o => hc1 (w.heap.size + 1) o (by omega); have hj1x1 := fun o => hf1 (w.heap.size + 1) o (by omega); have hq1x1 : w.heap.size + 1 < w1.heap.size := (by omega); have hk1x2 := fun o => hc1 (w.heap.size + 1 + 1) o (by omega); have hj1x2 := fun o => hf1 (w.heap.size + 1 + 1) o (by omega); have hq1x2 : w.heap.size + 1 + 1 < w1.heap.size := (by omega); clear hc1 hf1)
          exact bodyPost_ret (v := .tuple #[s3 (-256) 0 s1, .bool true]) (by simp [results, Tryz.results57, go_sem, *]) rfl ⟨rfl, by repeat (first | with_reducible apply Below.refl | (with_reducible apply Below.setCell; rotate_left; focus (first | omega | (simp; done) | (simp; omega))) | (with_reducible apply Below.alloc; rotate_left; focus (first | omega | (simp; done) | (simp; omega))) | with_reducible apply Below.drew | with_reducible apply belowDrewN | (with_reducible apply Below.trans; rotate_left; with_reducible apply Below.mono; with_reducible assumption; focus (first | omega | (simp; done) | (simp; omega))))⟩
    | false =>
      simp only [if_neg (of_decide_eq_false d1)] at e
      cases d2 : decide (s2 < s0) with
      | true =>
        simp only [if_pos (of_decide_eq_true d2)] at e
        cases d3 : decide (s3' < s2) with
        | true =>
          simp only [if_pos (of_decide_eq_true d3)] at e
          simp only [Prod.mk.injEq] at e
          obtain ⟨⟨eX, eY, eD⟩, eK⟩ := e
          subst eX
          subst eY
          subst eD
          subst eK
          go_enter Tryz.func57, Tryz.ntmps57
          go_wp2_with (go_at_call 88; refine (smeets_q _ _ _ _ _ _ _ _ _ _ eM).mono ?_; rintro e w1 ⟨rfl, hb1⟩; obtain ⟨hc1, hf1⟩ := bcell hb1; have hz1 := hb1.size; (try simp only [World.size_drew, World.size_alloc, World.size_setCell] at hc1 hf1 hz1); have hk1x0 := fun o => hc1 (w.heap.size) o (by omega); have hj1x0 := fun o => hf1 (w.heap.size) o (by omega); have hq1x0 : w.heap.size < w1.heap.size := (by omega); have hk1x1 := fun o => hc1 (w.heap.size + 1) o (by omega); have hj1x1 := fun o => hf1 (w.heap.size + 1) o (by omega); have hq1x1 : w.heap.size + 1 < w1.heap.size := (by omega); have hk1x2 := fun o => hc1 (w.heap.size + 1 + 1) o (by omega); have hj1x2 := fun o => hf1 (w.heap.size + 1 + 1) o (by omega); have hq1x2 : w.heap.size + 1 + 1 < w1.heap.size := (by omega); clear hc1 hf1)
          exact bodyPost_ret (v := .tuple #[s3 0 (-256) s3', .bool true]) (by simp [results, Tryz.results57, go_sem, *]) rfl ⟨rfl, by repeat (first | with_reducible apply Below.refl | (with_reducible apply Below.setCell; rotate_left; focus (first | omega | (simp; done) | (simp; omega))) | (with_reducible apply Below.alloc; rotate_left; focus (first | omega | (simp; done) | (simp; omega))) | with_reducible apply Below.drew | with_reducible apply belowDrewN | (with_reducible apply Below.trans; rotate_left; with_reducible apply Below.mono; with_reducible assumption; focus (first | omega | (simp; done) | (simp; omega))))⟩
        | false =>
          simp only [if_neg (of_decide_eq_false d3)] at e
          simp only [Prod.mk.injEq] at e
          obtain ⟨⟨eX, eY, eD⟩, eK⟩ := e
          subst eX
          subst eY
          subst eD
          subst eK
          go_enter Tryz.func57, Tryz.ntmps57
          go_wp2_with (go_at_call 88; refine (smeets_q _ _ _ _ _ _ _ _ _ _ eM).mono ?_; rintro e w1 ⟨rfl, hb1⟩; obtain ⟨hc1, hf1⟩ := bcell hb1; have hz1 := hb1.size; (try simp only [World.size_drew, World.size_alloc, World.size_setCell] at hc1 hf1 hz1); have hk1x0 := fun o => hc1 (w.heap.size) o (by omega); have hj1x0 := fun o => hf1 (w.heap.size) o (by omega); have hq1x0 : w.heap.size < w1.heap.size := (by omega); have hk1x1 := fun o => hc1 (w.heap.size + 1) o (by omega); have hj1x1 := fun o => hf1 (w.heap.size + 1) o (by omega); have hq1x1 : w.heap.size + 1 < w1.heap.size := (by omega); have hk1x2 := fun o => hc1 (w.heap.size + 1 + 1) o (by omega); have hj1x2 := fun o => hf1 (w.heap.size + 1 + 1) o (by omega); have hq1x2 : w.heap.size + 1 + 1 < w1.heap.size := (by omega); clear hc1 hf1)
          exact bodyPost_ret (v := .tuple #[s3 0 256 s2, .bool true]) (by simp [results, Tryz.results57, go_sem, *]) rfl ⟨rfl, by repeat (first | with_reducible apply Below.refl | (with_reducible apply Below.setCell; rotate_left; focus (first | omega | (simp; done) | (simp; omega))) | (with_reducible apply Below.alloc; rotate_left; focus (first | omega | (simp; done) | (simp; omega))) | with_reducible apply Below.drew | with_reducible apply belowDrewN | (with_reducible apply Below.trans; rotate_left; with_reducible apply Below.mono; with_reducible assumption; focus (first | omega | (simp; done) | (simp; omega))))⟩
      | false =>
        simp only [if_neg (of_decide_eq_false d2)] at e
        cases d3 : decide (s3' < s0) with
        | true =>
          simp only [if_pos (of_decide_eq_true d3)] at e
          simp only [Prod.mk.injEq] at e
          obtain ⟨⟨eX, eY, eD⟩, eK⟩ := e
          subst eX
          subst eY
          subst eD
          subst eK
          go_enter Tryz.func57, Tryz.ntmps57
          go_wp2_with (go_at_call 88; refine (smeets_q _ _ _ _ _ _ _ _ _ _ eM).mono ?_; rintro e w1 ⟨rfl, hb1⟩; obtain ⟨hc1, hf1⟩ := bcell hb1; have hz1 := hb1.size; (try simp only [World.size_drew, World.size_alloc, World.size_setCell] at hc1 hf1 hz1); have hk1x0 := fun o => hc1 (w.heap.size) o (by omega); have hj1x0 := fun o => hf1 (w.heap.size) o (by omega); have hq1x0 : w.heap.size < w1.heap.size := (by omega); have hk1x1 := fun o => hc1 (w.heap.size + 1) o (by omega); have hj1x1 := fun o => hf1 (w.heap.size + 1) o (by omega); have hq1x1 : w.heap.size + 1 < w1.heap.size := (by omega); have hk1x2 := fun o => hc1 (w.heap.size + 1 + 1) o (by omega); have hj1x2 := fun o => hf1 (w.heap.size + 1 + 1) o (by omega); have hq1x2 : w.heap.size + 1 + 1 < w1.heap.size := (by omega); clear hc1 hf1)
          exact bodyPost_ret (v := .tuple #[s3 0 (-256) s3', .bool true]) (by simp [results, Tryz.results57, go_sem, *]) rfl ⟨rfl, by repeat (first | with_reducible apply Below.refl | (with_reducible apply Below.setCell; rotate_left; focus (first | omega | (simp; done) | (simp; omega))) | (with_reducible apply Below.alloc; rotate_left; focus (first | omega | (simp; done) | (simp; omega))) | with_reducible apply Below.drew | with_reducible apply belowDrewN | (with_reducible apply Below.trans; rotate_left; with_reducible apply Below.mono; with_reducible assumption; focus (first | omega | (simp; done) | (simp; omega))))⟩
        | false =>
          simp only [if_neg (of_decide_eq_false d3)] at e
          simp only [Prod.mk.injEq] at e
          obtain ⟨⟨eX, eY, eD⟩, eK⟩ := e
          subst eX
          subst eY
          subst eD
          subst eK
          go_enter Tryz.func57, Tryz.ntmps57
          go_wp2_with (go_at_call 88; refine (smeets_q _ _ _ _ _ _ _ _ _ _ eM).mono ?_; rintro e w1 ⟨rfl, hb1⟩; obtain ⟨hc1, hf1⟩ := bcell hb1; have hz1 := hb1.size; (try simp only [World.size_drew, World.size_alloc, World.size_setCell] at hc1 hf1 hz1); have hk1x0 := fun o => hc1 (w.heap.size) o (by omega); have hj1x0 := fun o => hf1 (w.heap.size) o (by omega); have hq1x0 : w.heap.size < w1.heap.size := (by omega); have hk1x1 := fun o => hc1 (w.heap.size + 1) o (by omega); have hj1x1 := fun o => hf1 (w.heap.size + 1) o (by omega); have hq1x1 : w.heap.size + 1 < w1.heap.size := (by omega); have hk1x2 := fun o => hc1 (w.heap.size + 1 + 1) o (by omega); have hj1x2 := fun o => hf1 (w.heap.size + 1 + 1) o (by omega); have hq1x2 : w.heap.size + 1 + 1 < w1.heap.size := (by omega); clear hc1 hf1)
          exact bodyPost_ret (v := .tuple #[s3 256 0 s0, .bool true]) (by simp [results, Tryz.results57, go_sem, *]) rfl ⟨rfl, by repeat (first | with_reducible apply Below.refl | (with_reducible apply Below.setCell; rotate_left; focus (first | omega | (simp; done) | (simp; omega))) | (with_reducible apply Below.alloc; rotate_left; focus (first | omega | (simp; done) | (simp; omega))) | with_reducible apply Below.drew | with_reducible apply belowDrewN | (with_reducible apply Below.trans; rotate_left; with_reducible apply Below.mono; with_reducible assumption; focus (first | omega | (simp; done) | (simp; omega))))⟩
end Go.Proofs.YthekeeagjokpeaaGreat
