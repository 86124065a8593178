/- Worlds that are handed out with a code. A body of a world is pushed: both sides. A body of a world is pushed, by the specification. The walk of the law of promise 58. Lemmas on whatever program: from the head of its cut's word to the closed facts. Closed facts of the loaded program, each a theorem of its own. -/
import Derived.Test.YtneacpfdmocifaaGreatB14
import Derived.Test.YtneacpfdmocifaaGreatB13
import Derived.Test.YtneacpfdmocifaaGreatB7
import Derived.Deep.RegionHeld3
import Derived.Deep.DeepCutAuto
import Derived.Test.YtneacpfdmocifaaGreatB18
import Derived.Test.YtneacpfdmocifaaGreatRows
import Derived.WalkKit
import Derived.JoinedOf
import Derived.ProofKit
namespace Go.Proofs.YtneacpfdmocifaaGreat
open Go.RowKit
set_option linter.unusedVariables false
set_option linter.unusedSimpArgs false

/-- an answer: a world and a code -/
structure WA where
  T : Int
  P : Int
  n : Nat
  U : Nat → Int
  m : Nat
  Q : Nat → Int
  k : Int
def WOut (w w' : World) (e : Ending) (A : WA) : Prop := ∃ a1 c1 a2 c2, e = .returned (.tuple #[worldW A.T A.P a1 A.n c1 a2 A.m c2, .int .i64 A.k]) ∧ OutW w w' a1 A.n c1 A.U a2 A.m c2 A.Q
def WA.none : WA := ⟨0, 0, 0, fun _ => 0, 0, fun _ => 0, 1⟩
theorem OutW.nil {w w' : World} {U Q : Nat → Int} (h : Below w.heap.size w w') : OutW w w' none 0 0 U none 0 0 Q := ⟨h, OwnL.nil _ _ _ _ _, OwnL.nil _ _ _ _ _, fun b e => by simp [Value.ownBlock] at e⟩
theorem OutW.res {w0 wB w4 : World} {a a' : Option Addr} {n c m c' b : Nat} {U Q : Nat → Int} (h : OutW wB w4 a n c U a' m c' Q) (hb : Below w0.heap.size w0 wB) (h1 : w0.heap.size ≤ b) (h2 : b < wB.heap.size) (v0 v1 v2 v3 : Value) :
    OutW w0 ((((w4.setCell ⟨b, 0, none⟩ v0).setCell ⟨b, 1, none⟩ v1).setCell ⟨b, 2, none⟩ v2).setCell ⟨b, 3, none⟩ v3) a n c U a' m c' Q :=
  ⟨((((hb.trans (h.bel.mono hb.size)).setCell h1 _).setCell h1 _).setCell h1 _).setCell h1 _, ((((h.ob.setO h2 _).setO h2 _).setO h2 _).setO h2 _).base hb.size, ((((h.op.setO h2 _).setO h2 _).setO h2 _).setO h2 _).base hb.size, h.ne⟩
/-- a world in a variable at bx, its lists in memory of their own -/
structure Vw (wc : World) (lo hi bx : Nat) (T P : Int) (a1 : Option Addr) (n k1 : Nat) (U : Nat → Int) (a2 : Option Addr) (m k2 : Nat) (Q : Nat → Int) : Prop where
  c0 : wc.cell? ⟨bx, 0, none⟩ = some (.int .i64 T)
  c1 : wc.cell? ⟨bx, 1, none⟩ = some (.int .i64 P)
  c2 : wc.cell? ⟨bx, 2, none⟩ = some (.slice a1 n k1)
  c3 : wc.cell? ⟨bx, 3, none⟩ = some (.slice a2 m k2)
  nf : ∀ o, wc.frozen? ⟨bx, o, none⟩ = false
  bl : lo ≤ bx
  bh : bx < hi
  le : hi ≤ wc.heap.size
  ob : OwnL wc lo 38 12 (.slice a1 n k1) n U
  op : OwnL wc lo 60 2 (.slice a2 m k2) m Q
  t1 : ∀ b, (Value.slice a1 n k1).ownBlock = some b → b < hi ∧ b ≠ bx
  t2 : ∀ b, (Value.slice a2 m k2).ownBlock = some b → b < hi ∧ b ≠ bx
theorem Vw.blt {wc : World} {lo hi bx : Nat} {T P : Int} {a1 : Option Addr} {n c1 : Nat} {U : Nat → Int} {a2 : Option Addr} {m c2 : Nat} {Q : Nat → Int} (h : Vw wc lo hi bx T P a1 n c1 U a2 m c2 Q) : bx < wc.heap.size := Nat.lt_of_lt_of_le h.bh h.le
theorem Vw.on {wc : World} {lo hi bx : Nat} {T P : Int} {a1 : Option Addr} {n c1 : Nat} {U : Nat → Int} {a2 : Option Addr} {m c2 : Nat} {Q : Nat → Int} {w' : World} (h : Vw wc lo hi bx T P a1 n c1 U a2 m c2 Q) (hb : Below wc.heap.size wc w') : Vw w' lo hi bx T P a1 n c1 U a2 m c2 Q :=
  ⟨(hb.cell (p := ⟨bx, 0, none⟩) h.blt).trans h.c0, (hb.cell (p := ⟨bx, 1, none⟩) h.blt).trans h.c1, (hb.cell (p := ⟨bx, 2, none⟩) h.blt).trans h.c2, (hb.cell (p := ⟨bx, 3, none⟩) h.blt).trans h.c3, fun o => (hb.frozen (p := ⟨bx, o, none⟩) h.blt).trans (h.nf o), h.bl, h.bh, Nat.le_trans h.le hb.size, h.ob.below hb, h.op.below hb, h.t1, h.t2⟩
theorem Vw.fr {X : Nat → Prop} {wc : World} {lo hi bx : Nat} {T P : Int} {a1 : Option Addr} {n c1 : Nat} {U : Nat → Int} {a2 : Option Addr} {m c2 : Nat} {Q : Nat → Int} {w' : World} (h : Vw wc lo hi bx T P a1 n c1 U a2 m c2 Q) (hs : Fr X wc w') (hX : ∀ b, X b → b < lo ∨ hi ≤ b) : Vw w' lo hi bx T P a1 n c1 U a2 m c2 Q := by
  have nb : ¬ X bx := fun x => by have := hX _ x; have := h.bl; have := h.bh; omega
  have k := fun o => hs.cell (p := ⟨bx, o, none⟩) h.blt nb
  exact ⟨(k 0).trans h.c0, (k 1).trans h.c1, (k 2).trans h.c2, (k 3).trans h.c3, fun o => (hs.frozen (p := ⟨bx, o, none⟩) h.blt nb).trans (h.nf o), h.bl, h.bh, Nat.le_trans h.le hs.size,
    h.ob.frame hs (fun b e x => by have := hX _ x; have := (h.ob.lt b e).1; have := (h.t1 b e).1; omega), h.op.frame hs (fun b e x => by have := hX _ x; have := (h.op.lt b e).1; have := (h.t2 b e).1; omega), h.t1, h.t2⟩
theorem Vw.fb {wc : World} {lo hi bx : Nat} {T P : Int} {a1 : Option Addr} {n c1 : Nat} {U : Nat → Int} {a2 : Option Addr} {m c2 : Nat} {Q : Nat → Int} (h : Vw wc lo hi bx T P a1 n c1 U a2 m c2 Q) : Flat wc a1 (n * 12) U := h.ob.flat
theorem Vw.fp {wc : World} {lo hi bx : Nat} {T P : Int} {a1 : Option Addr} {n c1 : Nat} {U : Nat → Int} {a2 : Option Addr} {m c2 : Nat} {Q : Nat → Int} (h : Vw wc lo hi bx T P a1 n c1 U a2 m c2 Q) : Flat wc a2 (m * 2) Q := h.op.flat
/-- what a call made, stored into a new variable -/
theorem Vw.new {w0 w1 : World} {T P : Int} {a1 a2 : Option Addr} {n c1 m c2 : Nat} {U Q : Nat → Int} (h : OutW w0 w1 a1 n c1 U a2 m c2 Q) :
    Vw (w1.alloc (.cells #[.int .i64 T, .int .i64 P, .slice a1 n c1, .slice a2 m c2] 26)) w0.heap.size (w1.heap.size + 1) w1.heap.size T P a1 n c1 U a2 m c2 Q := by
  have hE : Below w1.heap.size w1 (w1.alloc (.cells #[.int .i64 T, .int .i64 P, .slice a1 n c1, .slice a2 m c2] 26)) := (Below.refl _ _).alloc (Nat.le_refl _) _
  exact ⟨by go_simp, by go_simp, by go_simp, by go_simp, fun o => by go_simp, h.bel.size, by omega, by simp, h.ob.below hE, h.op.below hE, fun b e => by have := (h.ob.lt b e).2; omega, fun b e => by have := (h.op.lt b e).2; omega⟩
/-- it is handed out -/
theorem Vw.out {wc : World} {lo hi bx : Nat} {T P : Int} {a1 : Option Addr} {n c1 : Nat} {U : Nat → Int} {a2 : Option Addr} {m c2 : Nat} {Q : Nat → Int} {w : World} {b : Nat} (h : Vw wc lo hi bx T P a1 n c1 U a2 m c2 Q) (hb : Below w.heap.size w wc) (h1 : w.heap.size ≤ b) (h2 : b < lo) (v0 v1 v2 v3 : Value) :
    OutW w ((((wc.setCell ⟨b, 0, none⟩ v0).setCell ⟨b, 1, none⟩ v1).setCell ⟨b, 2, none⟩ v2).setCell ⟨b, 3, none⟩ v3) a1 n c1 U a2 m c2 Q :=
  ⟨(((hb.setCell h1 _).setCell h1 _).setCell h1 _).setCell h1 _, ((((h.ob.setO h2 _).setO h2 _).setO h2 _).setO h2 _).base (B := w.heap.size) (by omega), ((((h.op.setO h2 _).setO h2 _).setO h2 _).setO h2 _).base (B := w.heap.size) (by omega), h.ob.neT h.op (by decide)⟩
/-- its bodies are changed in their own memory -/
theorem Vw.bods {wc : World} {lo hi bx : Nat} {T P : Int} {n c1 : Nat} {U : Nat → Int} {a2 : Option Addr} {m c2 : Nat} {Q : Nat → Int} {w' : World} {g : Nat} {U' : Nat → Int} (h : Vw wc lo hi bx T P (some ⟨g, 0, none⟩) n c1 U a2 m c2 Q) (hn : 0 < n) (hs : Fr (fun b => b = g) wc w') (ho : OwnL w' lo 38 12 (.slice (some ⟨g, 0, none⟩) n c1) n U') : Vw w' lo hi bx T P (some ⟨g, 0, none⟩) n c1 U' a2 m c2 Q := by
  have hg := h.t1 g rfl
  have nb : ¬ bx = g := fun e => hg.2 e.symm
  have k := fun o => hs.cell (p := ⟨bx, o, none⟩) h.blt nb
  exact ⟨(k 0).trans h.c0, (k 1).trans h.c1, (k 2).trans h.c2, (k 3).trans h.c3, fun o => (hs.frozen (p := ⟨bx, o, none⟩) h.blt nb).trans (h.nf o), h.bl, h.bh, Nat.le_trans h.le hs.size,
    ho, h.op.frame hs (fun b e x => h.ob.neT h.op (by decide) g rfl (x ▸ e)), h.t1, h.t2⟩
/-- what FmPush begins with -/
structure FmPush (w : World) (T P : Int) (a : Option Addr) (n c : Nat) (a' : Option Addr) (m c' : Nat) (x y : Int) (wr : World) : Prop where
  wd : WdR w T P a n c a' m c' wr
  big : w.heap.size + 1 + 1 < wr.heap.size
  r0 : wr.cell? ⟨w.heap.size + 1, 0, none⟩ = some (.int .i64 x)
  r1 : wr.cell? ⟨w.heap.size + 1, 1, none⟩ = some (.int .i64 y)
  z0 : wr.cell? ⟨w.heap.size + 1 + 1, 0, none⟩ = some (.int .i64 0)
  z1 : wr.cell? ⟨w.heap.size + 1 + 1, 1, none⟩ = some (.int .i64 0)
  z2 : wr.cell? ⟨w.heap.size + 1 + 1, 2, none⟩ = some (.slice none 0 0)
  z3 : wr.cell? ⟨w.heap.size + 1 + 1, 3, none⟩ = some (.slice none 0 0)
  nf : ∀ o, wr.frozen? ⟨w.heap.size + 1 + 1, o, none⟩ = false
theorem FmPush.on {w wr w' : World} {T P : Int} {a a' : Option Addr} {n c m c' : Nat} {x y : Int} (h : FmPush w T P a n c a' m c' x y wr) (hb : Below wr.heap.size wr w') : FmPush w T P a n c a' m c' x y w' :=
  have bg := h.big
  ⟨h.wd.on hb, Nat.lt_of_lt_of_le h.big hb.size, (hb.cell (p := ⟨w.heap.size + 1, 0, none⟩) (by simp; omega)).trans h.r0, (hb.cell (p := ⟨w.heap.size + 1, 1, none⟩) (by simp; omega)).trans h.r1, (hb.cell (p := ⟨w.heap.size + 1 + 1, 0, none⟩) bg).trans h.z0, (hb.cell (p := ⟨w.heap.size + 1 + 1, 1, none⟩) bg).trans h.z1, (hb.cell (p := ⟨w.heap.size + 1 + 1, 2, none⟩) bg).trans h.z2, (hb.cell (p := ⟨w.heap.size + 1 + 1, 3, none⟩) bg).trans h.z3, fun o => (hb.frozen (p := ⟨w.heap.size + 1 + 1, o, none⟩) bg).trans (h.nf o)⟩
theorem FmPush.fr {X : Nat → Prop} {w wr w' : World} {T P : Int} {a a' : Option Addr} {n c m c' : Nat} {x y : Int} (h : FmPush w T P a n c a' m c' x y wr) (hs : Fr X wr w') (hX : ∀ b, X b → w.heap.size + 1 + 1 < b) : FmPush w T P a n c a' m c' x y w' := by
  have bg := h.big
  have n0 : ¬ X w.heap.size := fun x => by have := hX _ x; omega
  have n1 : ¬ X (w.heap.size + 1) := fun x => by have := hX _ x; omega
  have n2 : ¬ X (w.heap.size + 1 + 1) := fun x => by have := hX _ x; omega
  have k0 := fun j => hs.cell (p := ⟨w.heap.size, j, none⟩) (by simp; omega) n0
  have k1 := fun j => hs.cell (p := ⟨w.heap.size + 1, j, none⟩) (by simp; omega) n1
  have k2 := fun j => hs.cell (p := ⟨w.heap.size + 1 + 1, j, none⟩) bg n2
  exact ⟨⟨h.wd.bel.trans (hs.below (by omega) (fun b x => by have := hX b x; omega)), Nat.lt_of_lt_of_le h.wd.big hs.size, (k0 0).trans h.wd.c0, (k0 1).trans h.wd.c1, (k0 2).trans h.wd.c2, (k0 3).trans h.wd.c3⟩, Nat.lt_of_lt_of_le bg hs.size, (k1 0).trans h.r0, (k1 1).trans h.r1, (k2 0).trans h.z0, (k2 1).trans h.z1, (k2 2).trans h.z2, (k2 3).trans h.z3, fun o => (hs.frozen (p := ⟨w.heap.size + 1 + 1, o, none⟩) bg n2).trans (h.nf o)⟩
theorem FmPush.start (w : World) (T P : Int) (a a' : Option Addr) (n c m c' : Nat) (x y : Int) : FmPush w T P a n c a' m c' x y (((w.alloc (Obj.cells #[.int .i64 T, .int .i64 P, .slice a n c, .slice a' m c'] 26)).alloc (Obj.cells #[.int .i64 x, .int .i64 y] 28)).alloc (Obj.cells #[.int .i64 0, .int .i64 0, .slice none 0 0, .slice none 0 0] 26)) :=
  ⟨⟨((((Below.refl _ _).alloc (Nat.le_refl _) _).alloc (by simp) _).alloc (by simp; try omega) _), by simp; try omega, by go_simp, by go_simp, by go_simp, by go_simp⟩, by simp, by go_simp, by go_simp, by go_simp, by go_simp, by go_simp, by go_simp, fun o => by go_simp⟩
end Go.Proofs.YtneacpfdmocifaaGreat
namespace Go.Proofs.YtneacpfdmocifaaGreat
open Go.RowKit
set_option linter.unusedVariables false
set_option linter.unusedSimpArgs false

theorem WOut.of {w w' : World} {e : Ending} {A : WA} (a1 : Option Addr) (c1 : Nat) (a2 : Option Addr) (c2 : Nat) (h : e = .returned (.tuple #[worldW A.T A.P a1 A.n c1 a2 A.m c2, .int .i64 A.k])) (k : OutW w w' a1 A.n c1 A.U a2 A.m c2 A.Q) : WOut w w' e A := ⟨a1, c1, a2, c2, h, k⟩
def pushWA (T P : Int) (n : Nat) (U : Nat → Int) (m : Nat) (Q : Nat → Int) (id x y : Int) (p : Nat) : WA :=
  bif worldB T P n U m Q then (bif inB 20000000 x y then (bif decide (p < n ∧ U (p * 12) = id) then ⟨T, P, n, putRow U p (pushV (fun j => U (p * 12 + j)) x y), m, Q, 0⟩ else ⟨T, P, n, U, m, Q, 4⟩) else ⟨T, P, n, U, m, Q, 1⟩) else WA.none
theorem worldB_bods {T P : Int} {n : Nat} {U : Nat → Int} {m : Nat} {Q : Nat → Int} (h : worldB T P n U m Q = true) : bodsB n U = true := by
  unfold worldB at h
  simp only [Bool.and_eq_true] at h
  exact h.2.2.1
theorem bodsB_bd {U : Nat → Int} {n k : Nat} (h : bodsB n U = true) (l : k < n) : bodyB (fun j => U (k * 12 + j)) = true := by
  unfold bodsB at h
  rw [Bool.and_eq_true] at h
  have := allBB_get h.2 l
  unfold stepBB at this
  rw [Bool.and_eq_true] at this
  exact this.1

set_option maxRecDepth 20000 in
set_option maxHeartbeats 8000000 in
theorem worldPush_q (T P : Int) (a : Option Addr) (n c : Nat) (U : Nat → Int) (a' : Option Addr) (m c' : Nat) (Q : Nat → Int) (id x y : Int) (p : Nat) (w : World) (h : Flat w a (n * 12) U) (h' : Flat w a' (m * 2) Q) (hn : n ≤ 1048576) (hm : m ≤ 1048576) (hp : idP U n id p) (A : WA) (eA : pushWA T P n U m Q id x y p = A) :
    Calls Tryz.prog 5 #[worldW T P a n c a' m c', .int .i64 id, vv x y] w fun e w' => WOut w w' e A := by
  have hset := cset_map
  have hS := FmPush.start w T P a a' n c m c' x y
  cases hok : worldB T P n U m Q with
  | false =>
    simp only [pushWA, hok, cond_false] at eA
    subst eA
    go_enter Tryz.func5, Tryz.ntmps5
    go_wp2_with (go_at_call 10; refine (worldOk_q T P a n c U a' m c' Q _ (h.below hS.wd.bel) (h'.below hS.wd.bel) hn hm false hok).mono ?_; rintro e w1 ⟨rfl, hb1⟩; have hS1 := hS.on hb1; have z0 := hS1.z0; have z1 := hS1.z1; have z2 := hS1.z2; have z3 := hS1.z3; have nf := hS1.nf; have y0 := hS1.wd.c0; have y1 := hS1.wd.c1; have y2 := hS1.wd.c2; have y3 := hS1.wd.c3; have bg := hS1.big)
    exact bodyPost_ret (v := .tuple #[worldW 0 0 none 0 0 none 0 0, .int .i64 1]) (by simp [results, Tryz.results5, go_sem, *]) rfl (WOut.of none 0 none 0 rfl (OutW.nil ((((hS1.wd.bel.setCell (by first | omega | (simp; done) | (simp; omega)) _).setCell (by first | omega | (simp; done) | (simp; omega)) _).setCell (by first | omega | (simp; done) | (simp; omega)) _).setCell (by first | omega | (simp; done) | (simp; omega)) _)))
  | true =>
    unfold pushWA at eA
    have hbb := worldB_bods hok
    have ha := bodsB_asc hbb
    obtain ⟨BD, hBD⟩ : ∃ b, inB 20000000 x y = b := ⟨_, rfl⟩
    obtain ⟨TH, hTH⟩ : ∃ b, decide (p < n ∧ U (p * 12) = id) = b := ⟨_, rfl⟩
    go_enter Tryz.func5, Tryz.ntmps5
    go_upto_region 3 with (go_at_call 10; refine (worldOk_q T P a n c U a' m c' Q _ (h.below hS.wd.bel) (h'.below hS.wd.bel) hn hm true hok).mono ?_; rintro e w1 ⟨rfl, hb1⟩; have hS1 := hS.on hb1; have z0 := hS1.z0; have z1 := hS1.z1; have z2 := hS1.z2; have z3 := hS1.z3; have nf := hS1.nf; have y0 := hS1.wd.c0; have y1 := hS1.wd.c1; have y2 := hS1.wd.c2; have y3 := hS1.wd.c3; have bg := hS1.big)
    go_upto_region 3 with fail
    go_cut [8] (fun s0 wc => ∃ lo hi bx a1 c1 a2 c2, s0 = .pointer (some ⟨bx, 0, none⟩) ∧ w.heap.size + 1 + 1 < lo ∧ FmPush w T P a n c a' m c' x y wc ∧ Vw wc lo hi bx T P a1 n c1 U a2 m c2 Q)
    case first =>
      go_wp2_with (go_at_call 17; refine (copied_any T P a n c U a' m c' Q _ (h.below hS1.wd.bel) (h'.below hS1.wd.bel) hn hm).mono ?_; rintro e w3 ⟨a1, c1, a2, c2, rfl, hO⟩)
      go_meet
      exact ⟨_, _, _, a1, c1, a2, c2, rfl, hS1.big, (hS1.on hO.bel).on ((Below.refl _ _).alloc (Nat.le_refl _) _), Vw.new hO⟩
    case rest =>
    clear hS hb1 hS1 y0 y1 y2 y3 z0 z1 z2 z3 nf bg
    obtain ⟨lo, hi, bx, a1, c1, a2, c2, rfl, hlo, hS, hV⟩ := hcut
    have y0 := hS.wd.c0
    have y1 := hS.wd.c1
    have y2 := hS.wd.c2
    have y3 := hS.wd.c3
    have z0 := hS.z0
    have z1 := hS.z1
    have z2 := hS.z2
    have z3 := hS.z3
    have nf := hS.nf
    have bg := hS.big
    have r0 := hS.r0
    have r1 := hS.r1
    have v0 := hV.c0
    have v1 := hV.c1
    have v2 := hV.c2
    have v3 := hV.c3
    have vn := hV.nf
    have vb := hV.blt
    have vl := hV.bl
    go_upto_region 4 with fail
    go_cut [9, 10] (fun s0 s1 wc => s0 = .int .i64 (p : Int) ∧ s1 = .bool TH ∧ FmPush w T P a n c a' m c' x y wc ∧ Vw wc lo hi bx T P a1 n c1 U a2 m c2 Q)
    case first =>
      go_wp2_with (go_at_call 18; refine (wplace_any T P a n c U a' m c' id p _ (h.below hS.wd.bel) hn ha hp TH hTH).mono ?_; rintro e w4 ⟨rfl, hb4⟩)
      go_meet
      exact ⟨rfl, rfl, hS.on hb4, hV.on hb4⟩
    case rest =>
    clear hS y0 y1 y2 y3 z0 z1 z2 z3 nf bg r0 r1 hV v0 v1 v2 v3 vn vb vl
    obtain ⟨rfl, rfl, hS, hV⟩ := hcut
    have y0 := hS.wd.c0
    have y1 := hS.wd.c1
    have y2 := hS.wd.c2
    have y3 := hS.wd.c3
    have z0 := hS.z0
    have z1 := hS.z1
    have z2 := hS.z2
    have z3 := hS.z3
    have nf := hS.nf
    have bg := hS.big
    have r0 := hS.r0
    have r1 := hS.r1
    have v0 := hV.c0
    have v1 := hV.c1
    have v2 := hV.c2
    have v3 := hV.c3
    have vn := hV.nf
    have vb := hV.blt
    have vl := hV.bl
    go_upto_region 5 with fail
    go_cut [23] (fun s0 wc => s0 = .bool (!BD) ∧ FmPush w T P a n c a' m c' x y wc ∧ Vw wc lo hi bx T P a1 n c1 U a2 m c2 Q)
    case first =>
      go_wp2_with (go_at_call 19; refine (isDrive_q x y BD _ hBD).mono ?_; rintro e w4 ⟨rfl, hb4⟩)
      go_meet
      exact ⟨rfl, hS.on hb4, hV.on hb4⟩
    case rest =>
    clear hS y0 y1 y2 y3 z0 z1 z2 z3 nf bg r0 r1 hV v0 v1 v2 v3 vn vb vl
    obtain ⟨rfl, hS, hV⟩ := hcut
    have y0 := hS.wd.c0
    have y1 := hS.wd.c1
    have y2 := hS.wd.c2
    have y3 := hS.wd.c3
    have z0 := hS.z0
    have z1 := hS.z1
    have z2 := hS.z2
    have z3 := hS.z3
    have nf := hS.nf
    have bg := hS.big
    have r0 := hS.r0
    have r1 := hS.r1
    have v0 := hV.c0
    have v1 := hV.c1
    have v2 := hV.c2
    have v3 := hV.c3
    have vn := hV.nf
    have vb := hV.blt
    have vl := hV.bl
    
    cases BD with
    | false =>
      simp only [hok, hBD, cond_true, cond_false] at eA
      subst eA
      go_wp2_with fail
      exact bodyPost_ret (v := .tuple #[worldW T P a1 n c1 a2 m c2, .int .i64 1]) (by simp [results, Tryz.results5, go_sem, *]) rfl (WOut.of a1 c1 a2 c2 rfl (hV.out hS.wd.bel (by omega) (by omega) _ _ _ _))
    | true =>
      cases TH with
      | false =>
        simp only [hok, hBD, hTH, cond_true, cond_false] at eA
        subst eA
        go_wp2_with fail
        exact bodyPost_ret (v := .tuple #[worldW T P a1 n c1 a2 m c2, .int .i64 4]) (by simp [results, Tryz.results5, go_sem, *]) rfl (WOut.of a1 c1 a2 c2 rfl (hV.out hS.wd.bel (by omega) (by omega) _ _ _ _))
      | true =>
        simp only [hok, hBD, hTH, cond_true] at eA
        subst eA
        have hpn := (of_decide_eq_true hTH).1
        clear hTH
        have hpi : (p : Int) < (n : Int) := by omega
        have hbp := bodsB_bd hbb hpn
        obtain ⟨⟨bu0, bu1⟩, ⟨bv0, bv1⟩⟩ := inB_of hBD
        obtain ⟨_, _, _, _, bd6, bd7, _⟩ := bodyB_bd hbp
        obtain ⟨g, rfl, hg1, hg2⟩ := hV.ob.loc (by omega)
        have hgx : ¬ bx = g := fun e => (hV.t1 g rfl).2 e.symm
        have hgx' : ¬ g = bx := fun e => hgx e.symm
        have hg3 : ¬ g = w.heap.size + 1 := by omega
        have hg4 : ¬ w.heap.size + 1 = g := by omega
        have hg5 : ¬ g = w.heap.size := by omega
        have hg6 : ¬ w.heap.size = g := by omega
        have d0 := hV.ob.cellq (q := p * 12) (by omega)
        have d1 := hV.ob.cellq (q := p * 12 + 1) (by omega)
        have d2 := hV.ob.cellq (q := p * 12 + 2) (by omega)
        have d3 := hV.ob.cellq (q := p * 12 + 3) (by omega)
        have d4 := hV.ob.cellq (q := p * 12 + 4) (by omega)
        have d5 := hV.ob.cellq (q := p * 12 + 5) (by omega)
        have d6 := hV.ob.cellq (q := p * 12 + 6) (by omega)
        have d7 := hV.ob.cellq (q := p * 12 + 7) (by omega)
        have d8 := hV.ob.cellq (q := p * 12 + 8) (by omega)
        have d9 := hV.ob.cellq (q := p * 12 + 9) (by omega)
        have d10 := hV.ob.cellq (q := p * 12 + 10) (by omega)
        have d11 := hV.ob.cellq (q := p * 12 + 11) (by omega)
        have df := hV.ob.fro
        go_upto_region 9 with fail
        go_cut [] (fun  wc => FmPush w T P a n c a' m c' x y wc ∧ Vw wc lo hi bx T P (some ⟨g, 0, none⟩) n c1 (putRow U p (pushV (fun j => U (p * 12 + j)) x y)) a2 m c2 Q)
        case first =>
          refine wp_region_held_drew (S := fun w' => w'.cell? ⟨bx, 2, none⟩ = some (.slice (some ⟨g, 0, none⟩) n c1) ∧ w'.cell? ⟨w.heap.size + 1, 0, none⟩ = some (.int .i64 x) ∧ w'.cell? ⟨w.heap.size + 1, 1, none⟩ = some (.int .i64 y)) (by kernel_rfl) ?_ (fun hHeld => ?_)
          · (try dsimp only)
            (first | (go_simp; done) | (go_keep; done))
          refine tq 0 hHeld ?_
          refine tq 1 hHeld ?_
          refine tq 2 hHeld ?_
          refine tq 3 hHeld ?_
          refine tq 4 hHeld ?_
          refine tq 5 hHeld ?_
          refine tq 6 hHeld ?_
          refine tq 8 hHeld ?_
          refine tc 7 fun K hK => ?_
          (go_simp; refine tr hK (fun hHeld => ?_); clear hK K)
          refine tc 9 fun K hK => ?_
          (go_simp; (go_at_call 9; refine (bodyPush_k (fun j => U (p * 12 + j)) x y _ hbp hBD).mono ?_; rintro e w5 ⟨rfl, hb5⟩; have hS5 := hS.on hb5.ofDr; have hV5 := hV.on hb5.ofDr; have k5 := hV5.c2; have k5a := hS5.r0; have k5b := hS5.r1; have k5f := hV5.ob.fro; have k5z := hV5.blt; have k5y := hS5.big; have k5c0 := hV5.ob.cellq (q := p * 12) (by omega); have k5c1 := hV5.ob.cellq (q := p * 12 + 1) (by omega); have k5c2 := hV5.ob.cellq (q := p * 12 + 2) (by omega); have k5c3 := hV5.ob.cellq (q := p * 12 + 3) (by omega); have k5c4 := hV5.ob.cellq (q := p * 12 + 4) (by omega); have k5c5 := hV5.ob.cellq (q := p * 12 + 5) (by omega); have k5c6 := hV5.ob.cellq (q := p * 12 + 6) (by omega); have k5c7 := hV5.ob.cellq (q := p * 12 + 7) (by omega); have k5c8 := hV5.ob.cellq (q := p * 12 + 8) (by omega); have k5c9 := hV5.ob.cellq (q := p * 12 + 9) (by omega); have k5c10 := hV5.ob.cellq (q := p * 12 + 10) (by omega); have k5c11 := hV5.ob.cellq (q := p * 12 + 11) (by omega)); (try go_wp2_with fail); refine tr hK (fun hHeld => ?_); clear hK K)
          refine tq 10 hHeld ?_
          refine tc 11 fun K hK => ?_
          (go_simp; refine tr hK (fun hHeld => ?_); clear hK K)
          refine wpAnyH_done (by kernel_rfl) ?_ _
          go_wp2_with fail
          go_meet
          have q := put12 hV5.ob hpn (pushV (fun j => U (p * 12 + j)) x y)
          have qf := putFr (w4 := w5) (g := g) (p := p) (pushV (fun j => U (p * 12 + j)) x y)
          exact ⟨hS5.fr qf (fun b e => by omega), hV5.bods (by omega) qf q⟩
        case rest =>
        clear hS y0 y1 y2 y3 z0 z1 z2 z3 nf bg r0 r1 hV v0 v1 v2 v3 vn vb vl
        clear d0 d1 d2 d3 d4 d5 d6 d7 d8 d9 d10 d11 df
        obtain ⟨hS, hV⟩ := hcut
        have y0 := hS.wd.c0
        have y1 := hS.wd.c1
        have y2 := hS.wd.c2
        have y3 := hS.wd.c3
        have z0 := hS.z0
        have z1 := hS.z1
        have z2 := hS.z2
        have z3 := hS.z3
        have nf := hS.nf
        have bg := hS.big
        have r0 := hS.r0
        have r1 := hS.r1
        have v0 := hV.c0
        have v1 := hV.c1
        have v2 := hV.c2
        have v3 := hV.c3
        have vn := hV.nf
        have vb := hV.blt
        have vl := hV.bl
        go_wp2_with fail
        exact bodyPost_ret (v := .tuple #[worldW T P (some ⟨g, 0, none⟩) n c1 a2 m c2, .int .i64 0]) (by simp [results, Tryz.results5, go_sem, *]) rfl (WOut.of _ c1 a2 c2 rfl (hV.out hS.wd.bel (by omega) (by omega) _ _ _ _))
end Go.Proofs.YtneacpfdmocifaaGreat
namespace Go.Proofs.YtneacpfdmocifaaGreat
open Go.RowKit
set_option linter.unusedVariables false
set_option linter.unusedSimpArgs false

set_option maxRecDepth 20000 in
set_option maxHeartbeats 8000000 in
theorem sWorldPush_q (T P : Int) (a : Option Addr) (n c : Nat) (U : Nat → Int) (a' : Option Addr) (m c' : Nat) (Q : Nat → Int) (id x y : Int) (p : Nat) (w : World) (h : Flat w a (n * 12) U) (h' : Flat w a' (m * 2) Q) (hn : n ≤ 1048576) (hm : m ≤ 1048576) (hp : idP U n id p) (A : WA) (eA : pushWA T P n U m Q id x y p = A) :
    Calls Tryz.prog 6 #[worldW T P a n c a' m c', .int .i64 id, vv x y] w fun e w' => WOut w w' e A := by
  have hset := cset_map
  have hS := FmPush.start w T P a a' n c m c' x y
  cases hok : worldB T P n U m Q with
  | false =>
    simp only [pushWA, hok, cond_false] at eA
    subst eA
    go_enter Tryz.func6, Tryz.ntmps6
    go_wp2_with (go_at_call 8; refine (sWorldOk_q T P a n c U a' m c' Q _ (h.below hS.wd.bel) (h'.below hS.wd.bel) hn hm false hok).mono ?_; rintro e w1 ⟨rfl, hb1⟩; have hS1 := hS.on hb1; have z0 := hS1.z0; have z1 := hS1.z1; have z2 := hS1.z2; have z3 := hS1.z3; have nf := hS1.nf; have y0 := hS1.wd.c0; have y1 := hS1.wd.c1; have y2 := hS1.wd.c2; have y3 := hS1.wd.c3; have bg := hS1.big)
    exact bodyPost_ret (v := .tuple #[worldW 0 0 none 0 0 none 0 0, .int .i64 1]) (by simp [results, Tryz.results6, go_sem, *]) rfl (WOut.of none 0 none 0 rfl (OutW.nil ((((hS1.wd.bel.setCell (by first | omega | (simp; done) | (simp; omega)) _).setCell (by first | omega | (simp; done) | (simp; omega)) _).setCell (by first | omega | (simp; done) | (simp; omega)) _).setCell (by first | omega | (simp; done) | (simp; omega)) _)))
  | true =>
    unfold pushWA at eA
    have hbb := worldB_bods hok
    have ha := bodsB_asc hbb
    obtain ⟨BD, hBD⟩ : ∃ b, inB 20000000 x y = b := ⟨_, rfl⟩
    obtain ⟨TH, hTH⟩ : ∃ b, decide (p < n ∧ U (p * 12) = id) = b := ⟨_, rfl⟩
    go_enter Tryz.func6, Tryz.ntmps6
    go_upto_region 3 with (go_at_call 8; refine (sWorldOk_q T P a n c U a' m c' Q _ (h.below hS.wd.bel) (h'.below hS.wd.bel) hn hm true hok).mono ?_; rintro e w1 ⟨rfl, hb1⟩; have hS1 := hS.on hb1; have z0 := hS1.z0; have z1 := hS1.z1; have z2 := hS1.z2; have z3 := hS1.z3; have nf := hS1.nf; have y0 := hS1.wd.c0; have y1 := hS1.wd.c1; have y2 := hS1.wd.c2; have y3 := hS1.wd.c3; have bg := hS1.big)
    go_upto_region 3 with fail
    go_cut [8, 9] (fun s0 s1 wc => s0 = .int .i64 (p : Int) ∧ s1 = .bool TH ∧ FmPush w T P a n c a' m c' x y wc)
    case first =>
      go_wp2_with (go_at_call 20; refine (l10At_q a n c U id p _ (h.below hS1.wd.bel) hn hp TH hTH).mono ?_; rintro e w4 ⟨rfl, hb4⟩)
      go_meet
      exact ⟨rfl, rfl, hS1.on hb4⟩
    case rest =>
    clear hS hb1 hS1 y0 y1 y2 y3 z0 z1 z2 z3 nf bg
    obtain ⟨rfl, rfl, hS⟩ := hcut
    have y0 := hS.wd.c0
    have y1 := hS.wd.c1
    have y2 := hS.wd.c2
    have y3 := hS.wd.c3
    have z0 := hS.z0
    have z1 := hS.z1
    have z2 := hS.z2
    have z3 := hS.z3
    have nf := hS.nf
    have bg := hS.big
    have r0 := hS.r0
    have r1 := hS.r1
    go_upto_region 4 with fail
    go_cut [22] (fun s0 wc => s0 = .bool (!BD) ∧ FmPush w T P a n c a' m c' x y wc)
    case first =>
      go_wp2_with (go_at_call 21; refine (l6Drive_q x y BD _ hBD).mono ?_; rintro e w4 ⟨rfl, hb4⟩)
      go_meet
      exact ⟨rfl, hS.on hb4⟩
    case rest =>
    clear hS y0 y1 y2 y3 z0 z1 z2 z3 nf bg r0 r1
    obtain ⟨rfl, hS⟩ := hcut
    have y0 := hS.wd.c0
    have y1 := hS.wd.c1
    have y2 := hS.wd.c2
    have y3 := hS.wd.c3
    have z0 := hS.z0
    have z1 := hS.z1
    have z2 := hS.z2
    have z3 := hS.z3
    have nf := hS.nf
    have bg := hS.big
    have r0 := hS.r0
    have r1 := hS.r1
    
    cases BD with
    | false =>
      simp only [hok, hBD, cond_true, cond_false] at eA
      subst eA
      go_wp2_with (go_at_call 22; refine (l10Copy_any T P a n c U a' m c' Q _ (h.below hS.wd.bel) (h'.below hS.wd.bel) hn hm).mono ?_; rintro e w3 ⟨a1, c1, a2, c2, rfl, hO⟩; have hS3 := hS.on hO.bel; have q0 := hS3.z0; have q1 := hS3.z1; have q2 := hS3.z2; have q3 := hS3.z3; have qf := hS3.nf; have qb := hS3.big)
      exact bodyPost_ret (v := .tuple #[worldW T P a1 n c1 a2 m c2, .int .i64 1]) (by simp [results, Tryz.results6, go_sem, *]) rfl (WOut.of a1 c1 a2 c2 rfl (hO.res hS.wd.bel (by omega) hS.big _ _ _ _))
    | true =>
      cases TH with
      | false =>
        simp only [hok, hBD, hTH, cond_true, cond_false] at eA
        subst eA
        go_wp2_with (go_at_call 22; refine (l10Copy_any T P a n c U a' m c' Q _ (h.below hS.wd.bel) (h'.below hS.wd.bel) hn hm).mono ?_; rintro e w3 ⟨a1, c1, a2, c2, rfl, hO⟩; have hS3 := hS.on hO.bel; have q0 := hS3.z0; have q1 := hS3.z1; have q2 := hS3.z2; have q3 := hS3.z3; have qf := hS3.nf; have qb := hS3.big)
        exact bodyPost_ret (v := .tuple #[worldW T P a1 n c1 a2 m c2, .int .i64 4]) (by simp [results, Tryz.results6, go_sem, *]) rfl (WOut.of a1 c1 a2 c2 rfl (hO.res hS.wd.bel (by omega) hS.big _ _ _ _))
      | true =>
        go_upto_region 8 with fail
        go_cut [10] (fun s0 wc => ∃ lo hi bx a1 c1 a2 c2, s0 = .pointer (some ⟨bx, 0, none⟩) ∧ w.heap.size + 1 + 1 < lo ∧ FmPush w T P a n c a' m c' x y wc ∧ Vw wc lo hi bx T P a1 n c1 U a2 m c2 Q)
        case first =>
          go_wp2_with (go_at_call 22; refine (l10Copy_any T P a n c U a' m c' Q _ (h.below hS.wd.bel) (h'.below hS.wd.bel) hn hm).mono ?_; rintro e w3 ⟨a1, c1, a2, c2, rfl, hO⟩; have hS3 := hS.on hO.bel; have q0 := hS3.z0; have q1 := hS3.z1; have q2 := hS3.z2; have q3 := hS3.z3; have qf := hS3.nf; have qb := hS3.big)
          go_meet
          exact ⟨_, _, _, a1, c1, a2, c2, rfl, hS.big, (hS.on hO.bel).on ((Below.refl _ _).alloc (Nat.le_refl _) _), Vw.new hO⟩
        case rest =>
        clear hS y0 y1 y2 y3 z0 z1 z2 z3 nf bg r0 r1
        obtain ⟨lo, hi, bx, a1, c1, a2, c2, rfl, hlo, hS, hV⟩ := hcut
        have y0 := hS.wd.c0
        have y1 := hS.wd.c1
        have y2 := hS.wd.c2
        have y3 := hS.wd.c3
        have z0 := hS.z0
        have z1 := hS.z1
        have z2 := hS.z2
        have z3 := hS.z3
        have nf := hS.nf
        have bg := hS.big
        have r0 := hS.r0
        have r1 := hS.r1
        have v0 := hV.c0
        have v1 := hV.c1
        have v2 := hV.c2
        have v3 := hV.c3
        have vn := hV.nf
        have vb := hV.blt
        have vl := hV.bl
        simp only [hok, hBD, hTH, cond_true] at eA
        subst eA
        have hpn := (of_decide_eq_true hTH).1
        clear hTH
        have hpi : (p : Int) < (n : Int) := by omega
        have hbp := bodsB_bd hbb hpn
        obtain ⟨⟨bu0, bu1⟩, ⟨bv0, bv1⟩⟩ := inB_of hBD
        obtain ⟨_, _, _, _, bd6, bd7, _⟩ := bodyB_bd hbp
        obtain ⟨g, rfl, hg1, hg2⟩ := hV.ob.loc (by omega)
        have hgx : ¬ bx = g := fun e => (hV.t1 g rfl).2 e.symm
        have hgx' : ¬ g = bx := fun e => hgx e.symm
        have hg3 : ¬ g = w.heap.size + 1 := by omega
        have hg4 : ¬ w.heap.size + 1 = g := by omega
        have hg5 : ¬ g = w.heap.size := by omega
        have hg6 : ¬ w.heap.size = g := by omega
        have d0 := hV.ob.cellq (q := p * 12) (by omega)
        have d1 := hV.ob.cellq (q := p * 12 + 1) (by omega)
        have d2 := hV.ob.cellq (q := p * 12 + 2) (by omega)
        have d3 := hV.ob.cellq (q := p * 12 + 3) (by omega)
        have d4 := hV.ob.cellq (q := p * 12 + 4) (by omega)
        have d5 := hV.ob.cellq (q := p * 12 + 5) (by omega)
        have d6 := hV.ob.cellq (q := p * 12 + 6) (by omega)
        have d7 := hV.ob.cellq (q := p * 12 + 7) (by omega)
        have d8 := hV.ob.cellq (q := p * 12 + 8) (by omega)
        have d9 := hV.ob.cellq (q := p * 12 + 9) (by omega)
        have d10 := hV.ob.cellq (q := p * 12 + 10) (by omega)
        have d11 := hV.ob.cellq (q := p * 12 + 11) (by omega)
        have df := hV.ob.fro
        go_upto_region 9 with fail
        go_cut [] (fun  wc => FmPush w T P a n c a' m c' x y wc ∧ Vw wc lo hi bx T P (some ⟨g, 0, none⟩) n c1 (putRow U p (pushV (fun j => U (p * 12 + j)) x y)) a2 m c2 Q)
        case first =>
          refine wp_region_held_drew (S := fun w' => w'.cell? ⟨bx, 2, none⟩ = some (.slice (some ⟨g, 0, none⟩) n c1) ∧ w'.cell? ⟨w.heap.size + 1, 0, none⟩ = some (.int .i64 x) ∧ w'.cell? ⟨w.heap.size + 1, 1, none⟩ = some (.int .i64 y)) (by kernel_rfl) ?_ (fun hHeld => ?_)
          · (try dsimp only)
            (first | (go_simp; done) | (go_keep; done))
          refine tq 0 hHeld ?_
          refine tq 1 hHeld ?_
          refine tq 2 hHeld ?_
          refine tq 3 hHeld ?_
          refine tq 4 hHeld ?_
          refine tq 5 hHeld ?_
          refine tq 6 hHeld ?_
          refine tq 8 hHeld ?_
          refine tc 7 fun K hK => ?_
          (go_simp; refine tr hK (fun hHeld => ?_); clear hK K)
          refine tc 9 fun K hK => ?_
          (go_simp; (go_at_call 23; refine (l6Push_any (fun j => U (p * 12 + j)) x y _ bd6 bd7 (by omega) (by omega)).mono ?_; rintro e w5 ⟨rfl, hb5⟩; have hS5 := hS.on hb5.ofDr; have hV5 := hV.on hb5.ofDr; have k5 := hV5.c2; have k5a := hS5.r0; have k5b := hS5.r1; have k5f := hV5.ob.fro; have k5z := hV5.blt; have k5y := hS5.big; have k5c0 := hV5.ob.cellq (q := p * 12) (by omega); have k5c1 := hV5.ob.cellq (q := p * 12 + 1) (by omega); have k5c2 := hV5.ob.cellq (q := p * 12 + 2) (by omega); have k5c3 := hV5.ob.cellq (q := p * 12 + 3) (by omega); have k5c4 := hV5.ob.cellq (q := p * 12 + 4) (by omega); have k5c5 := hV5.ob.cellq (q := p * 12 + 5) (by omega); have k5c6 := hV5.ob.cellq (q := p * 12 + 6) (by omega); have k5c7 := hV5.ob.cellq (q := p * 12 + 7) (by omega); have k5c8 := hV5.ob.cellq (q := p * 12 + 8) (by omega); have k5c9 := hV5.ob.cellq (q := p * 12 + 9) (by omega); have k5c10 := hV5.ob.cellq (q := p * 12 + 10) (by omega); have k5c11 := hV5.ob.cellq (q := p * 12 + 11) (by omega)); (try go_wp2_with fail); refine tr hK (fun hHeld => ?_); clear hK K)
          refine tq 10 hHeld ?_
          refine tc 11 fun K hK => ?_
          (go_simp; refine tr hK (fun hHeld => ?_); clear hK K)
          refine wpAnyH_done (by kernel_rfl) ?_ _
          go_wp2_with fail
          go_meet
          have q := put12 hV5.ob hpn (pushV (fun j => U (p * 12 + j)) x y)
          have qf := putFr (w4 := w5) (g := g) (p := p) (pushV (fun j => U (p * 12 + j)) x y)
          exact ⟨hS5.fr qf (fun b e => by omega), hV5.bods (by omega) qf q⟩
        case rest =>
        clear hS y0 y1 y2 y3 z0 z1 z2 z3 nf bg r0 r1 hV v0 v1 v2 v3 vn vb vl
        clear d0 d1 d2 d3 d4 d5 d6 d7 d8 d9 d10 d11 df
        obtain ⟨hS, hV⟩ := hcut
        have y0 := hS.wd.c0
        have y1 := hS.wd.c1
        have y2 := hS.wd.c2
        have y3 := hS.wd.c3
        have z0 := hS.z0
        have z1 := hS.z1
        have z2 := hS.z2
        have z3 := hS.z3
        have nf := hS.nf
        have bg := hS.big
        have r0 := hS.r0
        have r1 := hS.r1
        have v0 := hV.c0
        have v1 := hV.c1
        have v2 := hV.c2
        have v3 := hV.c3
        have vn := hV.nf
        have vb := hV.blt
        have vl := hV.bl
        go_wp2_with fail
        exact bodyPost_ret (v := .tuple #[worldW T P (some ⟨g, 0, none⟩) n c1 a2 m c2, .int .i64 0]) (by simp [results, Tryz.results6, go_sem, *]) rfl (WOut.of _ c1 a2 c2 rfl (hV.out hS.wd.bel (by omega) (by omega) _ _ _ _))
end Go.Proofs.YtneacpfdmocifaaGreat
namespace Go.Proofs.YtneacpfdmocifaaGreat
open Go.RowKit
set_option linter.unusedVariables false
set_option linter.unusedSimpArgs false
theorem hasF_cong {U U' : Nat → Int} {n : Nat} {id : Int} (h : ∀ k, k < n → U (k * 12) = U' (k * 12)) : hasF U n id = hasF U' n id := by
  unfold hasF
  rw [Bool.eq_iff_iff, List.any_eq_true, List.any_eq_true]
  constructor <;> (rintro ⟨k, hk, e⟩; refine ⟨k, hk, ?_⟩; have := h k (List.mem_range.mp hk); simp_all)
theorem allPB_cong {U U' : Nat → Int} {n : Nat} {Q : Nat → Int} (h : ∀ k, k < n → U (k * 12) = U' (k * 12)) : ∀ m, allPB U n Q m = allPB U' n Q m
  | 0 => rfl
  | m + 1 => by
    have a := allPB_cong (Q := Q) h m
    unfold allPB stepPB
    rw [a]
    simp only [hasF_cong h]
theorem clampP_in2 {l n : Int} (h : 0 ≤ l) : -l ≤ clampZ l n ∧ clampZ l n ≤ l := by unfold clampZ; repeat' split <;> omega
theorem push_at2 (V : Nat → Int) (p q : Int) (h : V 8 ≠ 0) : pushV V p q 0 = V 0 ∧ pushV V p q 1 = V 1 ∧ pushV V p q 2 = V 2 ∧ pushV V p q 3 = V 3 ∧ pushV V p q 4 = V 4 ∧ pushV V p q 5 = V 5 ∧
    pushV V p q 6 = clampZ 20000000 (V 6 + p) ∧ pushV V p q 7 = clampZ 20000000 (V 7 + q) ∧ pushV V p q 8 = V 8 ∧ pushV V p q 9 = V 9 ∧ pushV V p q 10 = V 10 ∧ pushV V p q 11 = 0 := by
  unfold pushV
  rw [if_neg h]
  unfold setV
  generalize clampZ 20000000 (V 6 + p) = A
  generalize clampZ 20000000 (V 7 + q) = B
  simp
theorem push_keeps {V : Nat → Int} {x y : Int} (h : bodyB V = true) : bodyB (pushV V x y) = true ∧ pushV V x y 0 = V 0 := by
  by_cases m : V 8 = 0
  · unfold pushV; rw [if_pos m]; exact ⟨h, rfl⟩
  · have c1 := clampP_in2 (l := 20000000) (n := V 6 + x) (by omega)
    have c2 := clampP_in2 (l := 20000000) (n := V 7 + y) (by omega)
    obtain ⟨e0, e1, e2, e3, e4, e5, e6, e7, e8, e9, e10, e11⟩ := push_at2 V x y m
    refine ⟨?_, e0⟩
    unfold bodyB restB inB at h ⊢
    simp only [Bool.and_eq_true, decide_eq_true_eq] at h ⊢
    obtain ⟨h0, h1, h2, h3, h4, h5, h6, h7, h8⟩ := h
    rw [e0, e1, e2, e3, e4, e5, e6, e7, e8, e9, e10, e11]
    exact ⟨h0, h1, h2, by omega, h4, h5, h6, by omega, by omega⟩
theorem putRow_at {U V : Nat → Int} {p k j : Nat} (hj : j < 12) : putRow U p V (k * 12 + j) = if k = p then V j else U (k * 12 + j) := by
  unfold putRow
  by_cases e : k = p
  · subst e; rw [if_pos (by omega), if_pos rfl, Nat.add_sub_cancel_left]
  · rw [if_neg (by omega), if_neg e]
theorem push_world {T P : Int} {n : Nat} {U : Nat → Int} {m : Nat} {Q : Nat → Int} {p : Nat} {x y : Int} (h : worldB T P n U m Q = true) (hp : p < n) : worldB T P n (putRow U p (pushV (fun j => U (p * 12 + j)) x y)) m Q = true := by
  unfold worldB at h ⊢
  simp only [Bool.and_eq_true] at h ⊢
  have hB := Bods.of h.2.2.1
  have hk := push_keeps (x := x) (y := y) (hB.ok p hp)
  have h0 : ∀ k, k < n → U (k * 12) = putRow U p (pushV (fun j => U (p * 12 + j)) x y) (k * 12) := fun k _ => by
    have q := putRow_at (U := U) (V := pushV (fun j => U (p * 12 + j)) x y) (p := p) (k := k) (j := 0) (by omega)
    rw [Nat.add_zero] at q
    rw [q]
    by_cases e : k = p
    · subst e; rw [if_pos rfl, hk.2]; rfl
    · rw [if_neg e]
  refine ⟨h.1, h.2.1, Bods.to ⟨hB.le, fun k hkn => ?_, fun k hkn => ?_⟩, by rw [← allPB_cong h0]; exact h.2.2.2⟩
  · by_cases e : k = p
    · subst e
      rw [bodyB_cong (fun j hj => by rw [putRow_at hj, if_pos rfl] : ∀ j, j < 12 → putRow U k (pushV (fun j => U (k * 12 + j)) x y) (k * 12 + j) = pushV (fun j => U (k * 12 + j)) x y j)]
      exact hk.1
    · rw [bodyB_cong (fun j hj => by rw [putRow_at hj, if_neg e] : ∀ j, j < 12 → putRow U p (pushV (fun j => U (p * 12 + j)) x y) (k * 12 + j) = U (k * 12 + j))]
      exact hB.ok k hkn
  · rw [← h0 k (by omega), ← h0 (k + 1) hkn]
    exact hB.asc k hkn
/-- what a push of a world that is ok may answer -/
theorem push_ways {T P : Int} {n : Nat} {U : Nat → Int} {m : Nat} {Q : Nat → Int} {id x y : Int} {p : Nat} {A : WA} (h : worldB T P n U m Q = true) (e : pushWA T P n U m Q id x y p = A) :
    ((∃ k, k ≠ 0 ∧ A = ⟨T, P, n, U, m, Q, k⟩) ∨ (A = ⟨T, P, n, putRow U p (pushV (fun j => U (p * 12 + j)) x y), m, Q, 0⟩ ∧ p < n ∧ U (p * 12) = id ∧ inB 20000000 x y = true)) := by
  unfold pushWA at e
  rw [h, cond_true] at e
  cases hi : inB 20000000 x y with
  | false => rw [hi, cond_false] at e; exact .inl ⟨1, by decide, e.symm⟩
  | true =>
    rw [hi, cond_true] at e
    by_cases hd : p < n ∧ U (p * 12) = id
    · rw [decide_eq_true hd, cond_true] at e; exact .inr ⟨e.symm, hd.1, hd.2, rfl⟩
    · rw [decide_eq_false hd, cond_false] at e; exact .inl ⟨4, by decide, e.symm⟩
theorem push_le {T P : Int} {n : Nat} {U : Nat → Int} {m : Nat} {Q : Nat → Int} {id x y : Int} {p : Nat} {A : WA} (e : pushWA T P n U m Q id x y p = A) : A.n ≤ n ∧ A.m ≤ m := by
  cases h : worldB T P n U m Q with
  | false => unfold pushWA at e; rw [h, cond_false] at e; subst e; exact ⟨Nat.zero_le _, Nat.zero_le _⟩
  | true =>
    rcases push_ways h e with ⟨k, _, rfl⟩ | ⟨rfl, _⟩ <;> exact ⟨Nat.le_refl _, Nat.le_refl _⟩
set_option maxRecDepth 20000 in
set_option maxHeartbeats 8000000 in
theorem fnWorldPush_walk (ac : Option Addr) (len cap : Nat) (w : World) (hb : Bytes w ac len cap) :
    Calls Tryz.prog 3 #[.slice ac len cap] w fun e w' => e = .returned (.bool true) ∧ Below w.heap.size w w' := by
  have hset := cset_map
  by_cases hlen : 1048576 < len
  · have hl : (1048576 : Int) < (len : Int) := by omega
    go_enter Tryz.func3, Tryz.ntmps3
    go_wp2_with fail
    go_ret
    exact ⟨rfl, Below.refl _ _⟩
  have hl : ¬ (1048576 : Int) < (len : Int) := by omega
  go_enter Tryz.func3, Tryz.ntmps3
  go_upto_region 3 with fail
  go_cut [3, 4, 5] (fun s3 s4 s5 wc => ∃ (b3 b5 : Nat) (T P : Int) (a : Option Addr) (n c : Nat) (U : Nat → Int) (a' : Option Addr) (m c' : Nat) (Q : Nat → Int) (id x y : Int), s3 = .pointer (some ⟨b3, 0, none⟩) ∧ s4 = .int .i64 id ∧ s5 = .pointer (some ⟨b5, 0, none⟩) ∧ (n ≤ 13 ∧ m ≤ 433) ∧ Below w.heap.size w wc ∧ Wv wc b3 T P a n c U a' m c' Q ∧ Ub wc b5 x y)
  case first =>
    go_wp2_with (go_at_call 4; refine (drawWorldPush_w _ _ _ _ hb).mono ?_; rintro e w1 ⟨T, P, a, n, c, U, a', m, c', Q, id, x, y, rfl, ⟨hn, hm⟩, hO⟩)
    go_meet
    have hV := Wv.new (T := T) (P := P) hO
    have hE : Below w1.heap.size w1 (w1.alloc (.cells #[.int .i64 T, .int .i64 P, .slice a n c, .slice a' m c'] 26)) := balloc _ _
    have hU := Ub.new (w1.alloc (.cells #[.int .i64 T, .int .i64 P, .slice a n c, .slice a' m c'] 26)) x y
    rw [show (w1.alloc (.cells #[.int .i64 T, .int .i64 P, .slice a n c, .slice a' m c'] 26)).heap.size = w1.heap.size + 1 by simp] at hU
    exact ⟨_, _, T, P, a, n, c, U, a', m, c', Q, id, x, y, rfl, rfl, rfl, ⟨hn, hm⟩, (hO.bel.trans (hE.mono hO.bel.size)).alloc (by simp; have := hO.bel.size; omega) _, hV.on (balloc _ _), hU⟩
  case rest =>
  obtain ⟨b3, b5, T, P, a, n, c, U, a', m, c', Q, id, x, y, rfl, rfl, rfl, ⟨hn, hm⟩, bel, hL, hU⟩ := hcut
  obtain ⟨p, hp⟩ := idP_ex U id n
  obtain ⟨A, eA0⟩ : ∃ A, pushWA T P n U m Q id x y p = A := ⟨_, rfl⟩
  obtain ⟨hn1, hm1⟩ := push_le eA0
  obtain ⟨T1, P1, n1, U1, m1, Q1, k1⟩ := A
  dsimp only at hn1 hm1
  have eA : Shut (pushWA T P n U m Q id x y p = ⟨T1, P1, n1, U1, m1, Q1, k1⟩) := eA0
  clear eA0
  have d0 := hL.d.vb.c0
  have d1 := hL.d.vb.c1
  have d2 := hL.d.vb.c2
  have d3 := hL.d.vb.c3
  have df := hL.d.vb.f
  have u0 := hU.c0
  have u1 := hU.c1
  have uf := hU.f
  go_upto_region 4 with fail
  go_cut [6, 7] (fun s6 s7 wc => ∃ (b6 : Nat) (a1 : Option Addr) (c1 : Nat) (a2 : Option Addr) (c2 : Nat), s6 = .pointer (some ⟨b6, 0, none⟩) ∧ s7 = .int .i64 k1 ∧ Below w.heap.size w wc ∧ Wv wc b3 T P a n c U a' m c' Q ∧ Ub wc b5 x y ∧ Wv wc b6 T1 P1 a1 n1 c1 U1 a2 m1 c2 Q1)
  case first =>
    go_wp2_with (go_at_call 5; refine (worldPush_q T P a n c U a' m c' Q id x y p _ hL.fb hL.fp (by omega) (by omega) hp _ eA.out).mono ?_; rintro e w2 ⟨a1, c1, a2, c2, rfl, hO⟩)
    go_meet
    have hO : OutW wc w2 a1 n1 c1 U1 a2 m1 c2 Q1 := hO
    have hE := balloc w2 (.cells #[.int .i64 T1, .int .i64 P1, .slice a1 n1 c1, .slice a2 m1 c2] 26)
    have hb2 := hO.bel.trans (hE.mono hO.bel.size)
    exact ⟨_, a1, c1, a2, c2, rfl, rfl, bel.trans (hb2.mono bel.size), hL.on hb2, hU.on hb2, Wv.new hO⟩
  case rest =>
  clear bel hL hU d0 d1 d2 d3 df u0 u1 uf
  obtain ⟨b6, a1, c1, a2, c2, rfl, rfl, bel, hL, hU, hX⟩ := hcut
  have d0 := hL.d.vb.c0
  have d1 := hL.d.vb.c1
  have d2 := hL.d.vb.c2
  have d3 := hL.d.vb.c3
  have df := hL.d.vb.f
  have u0 := hU.c0
  have u1 := hU.c1
  have uf := hU.f
  go_upto_region 5 with fail
  go_cut [8, 9] (fun s8 s9 wc => ∃ (b8 : Nat) (a3 : Option Addr) (c3 : Nat) (a4 : Option Addr) (c4 : Nat), s8 = .pointer (some ⟨b8, 0, none⟩) ∧ s9 = .int .i64 k1 ∧ Below w.heap.size w wc ∧ Wv wc b3 T P a n c U a' m c' Q ∧ Ub wc b5 x y ∧ Wv wc b6 T1 P1 a1 n1 c1 U1 a2 m1 c2 Q1 ∧ Wv wc b8 T1 P1 a3 n1 c3 U1 a4 m1 c4 Q1)
  case first =>
    go_wp2_with (go_at_call 6; refine (sWorldPush_q T P a n c U a' m c' Q id x y p _ hL.fb hL.fp (by omega) (by omega) hp _ eA.out).mono ?_; rintro e w2 ⟨a3, c3, a4, c4, rfl, hO⟩)
    go_meet
    have hO : OutW wc w2 a3 n1 c3 U1 a4 m1 c4 Q1 := hO
    have hE := balloc w2 (.cells #[.int .i64 T1, .int .i64 P1, .slice a3 n1 c3, .slice a4 m1 c4] 26)
    have hb2 := hO.bel.trans (hE.mono hO.bel.size)
    exact ⟨_, a3, c3, a4, c4, rfl, rfl, bel.trans (hb2.mono bel.size), hL.on hb2, hU.on hb2, hX.on hb2, Wv.new hO⟩
  case rest =>
  clear bel hL hU hX d0 d1 d2 d3 df u0 u1 uf
  obtain ⟨b8, a3, c3, a4, c4, rfl, rfl, bel, hL, hU, hX, hY⟩ := hcut
  obtain ⟨OK, hOK⟩ : ∃ b, worldB T P n U m Q = b := ⟨_, rfl⟩
  have ek : (k1 != k1) = false := by simp
  have ek' : (k1 == k1) = true := by simp
  have d0 := hL.d.vb.c0
  have d1 := hL.d.vb.c1
  have d2 := hL.d.vb.c2
  have d3 := hL.d.vb.c3
  have df := hL.d.vb.f
  have u0 := hU.c0
  have u1 := hU.c1
  have uf := hU.f
  have x0 := hX.d.vb.c0
  have x1 := hX.d.vb.c1
  have x2 := hX.d.vb.c2
  have x3 := hX.d.vb.c3
  have xf := hX.d.vb.f
  have y0 := hY.d.vb.c0
  have y1 := hY.d.vb.c1
  have y2 := hY.d.vb.c2
  have y3 := hY.d.vb.c3
  have yf := hY.d.vb.f
  go_upto_region 6 with fail
  go_cut [48] (fun s48 wc => s48 = .bool (!OK) ∧ Below w.heap.size w wc ∧ Wv wc b3 T P a n c U a' m c' Q ∧ Ub wc b5 x y ∧ Wv wc b6 T1 P1 a1 n1 c1 U1 a2 m1 c2 Q1 ∧ Wv wc b8 T1 P1 a3 n1 c3 U1 a4 m1 c4 Q1)
  case first =>
    go_wp2_with (first
      | (have _ := hb2; go_at_call 8; refine (sWorldOk_q T P a n c U a' m c' Q _ (hL.fb.below hb2) (hL.fp.below hb2) (by omega) (by omega) OK hOK).mono ?_; rintro e w3 ⟨rfl, hb3⟩)
      | (go_at_call 7; refine (pqWorld_same T1 P1 a1 a3 n1 c1 c3 U1 a2 a4 m1 c2 c4 Q1 _ hX.fb hY.fb hX.fp hY.fp (by omega) (by omega)).mono ?_; rintro e w2 ⟨rfl, hb2⟩; clear d0 d1 d2 d3 df; have hL2 := hL.on hb2; have d0 := hL2.d.vb.c0; have d1 := hL2.d.vb.c1; have d2 := hL2.d.vb.c2; have d3 := hL2.d.vb.c3))
    go_meet
    have hb23 := hb2.trans (hb3.mono hb2.size)
    exact ⟨rfl, bel.trans (hb23.mono bel.size), hL.on hb23, hU.on hb23, hX.on hb23, hY.on hb23⟩
  case rest =>
  clear bel hL hU hX hY d0 d1 d2 d3 df u0 u1 uf x0 x1 x2 x3 xf y0 y1 y2 y3 yf
  obtain ⟨rfl, bel, hL, hU, hX, hY⟩ := hcut
  cases OK with
  | false =>
    have x0 := hX.d.vb.c0
    have x1 := hX.d.vb.c1
    have x2 := hX.d.vb.c2
    have x3 := hX.d.vb.c3
    have xf := hX.d.vb.f
    have y0 := hY.d.vb.c0
    have y1 := hY.d.vb.c1
    have y2 := hY.d.vb.c2
    have y3 := hY.d.vb.c3
    have yf := hY.d.vb.f
    go_wp2_with (go_at_call 7; refine (pqWorld_same T1 P1 a1 a3 n1 c1 c3 U1 a2 a4 m1 c2 c4 Q1 _ hX.fb hY.fb hX.fp hY.fp (by omega) (by omega)).mono ?_; rintro e w2 ⟨rfl, hb2⟩)
    go_ret
    exact ⟨rfl, bel.trans (hb2.mono bel.size)⟩
  | true =>
    rcases push_ways hOK eA.out with ⟨k, hk0, hA⟩ | ⟨hA, hpn, hid, hxy⟩
    · simp only [WA.mk.injEq] at hA
      obtain ⟨rfl, rfl, rfl, rfl, rfl, rfl, rfl⟩ := hA
      have e8 : (k1 != 0) = true := by simp [hk0]
      clear eA hk0
      have d0 := hL.d.vb.c0
      have d1 := hL.d.vb.c1
      have d2 := hL.d.vb.c2
      have d3 := hL.d.vb.c3
      have df := hL.d.vb.f
      have u0 := hU.c0
      have u1 := hU.c1
      have uf := hU.f
      have x0 := hX.d.vb.c0
      have x1 := hX.d.vb.c1
      have x2 := hX.d.vb.c2
      have x3 := hX.d.vb.c3
      have xf := hX.d.vb.f
      go_wp2_with (go_at_call 7; refine (pqWorld_same _ _ a1 a _ c1 c _ a2 a' _ c2 c' _ _ hX.fb hL.fb hX.fp hL.fp (by omega) (by omega)).mono ?_; rintro e w2 ⟨rfl, hb2⟩)
      go_ret
      exact ⟨rfl, bel.trans (hb2.mono bel.size)⟩
    · simp only [WA.mk.injEq] at hA
      obtain ⟨rfl, rfl, rfl, hU1, rfl, rfl, rfl⟩ := hA
      have hOK1 : worldB T1 P1 n1 U1 m1 Q1 = true := by rw [hU1]; exact push_world hOK hpn
      have hB := Bods.of (worldB_bods hOK)
      have hasc := bodsB_asc (worldB_bods hOK)
      have hrow : ∀ k, k < n1 → ∀ j, j < 12 → U1 (k * 12 + j) = if k = p then pushV (fun j => U (p * 12 + j)) x y j else U (k * 12 + j) := fun k _ j hj => by rw [hU1]; exact putRow_at hj
      clear hU1 eA hY hOK ek ek'
      go_upto_region 11 with fail
      go_loopw [10] (fun s wr => ∃ k : Nat, k ≤ n1 ∧ s = .int .i64 (k : Int) ∧ Below w.heap.size w wr ∧ Wv wr b3 T1 P1 a n1 c U a' m1 c' Q1 ∧ Ub wr b5 x y ∧ Wv wr b6 T1 P1 a1 n1 c1 U1 a2 m1 c2 Q1) (fun s _ => n1 - (intOf s).toNat)
      case atStart => exact ⟨0, Nat.zero_le _, rfl, bel, hL, hU, hX⟩
      case round =>
        clear bel hL hU hX
        obtain ⟨k, hk, rfl, bel, hL, hU, hX⟩ := hrel
        have d0 := hL.d.vb.c0
        have d1 := hL.d.vb.c1
        have d2 := hL.d.vb.c2
        have d3 := hL.d.vb.c3
        have df := hL.d.vb.f
        have u0 := hU.c0
        have u1 := hU.c1
        have uf := hU.f
        by_cases hlt : k < n1
        · have hkn : (k : Int) < (n1 : Int) := by omega
          obtain ⟨g0, o0, eg0, hl0, hc0⟩ := hL.fb (by omega)
          have t0 : wr.cell? ⟨g0, o0 + k * 12, none⟩ = some (.int .i64 (U (k * 12))) := by have q := hc0 (k * 12 + 0) (by omega); simpa [Nat.add_assoc] using q
          have t1 : wr.cell? ⟨g0, o0 + k * 12 + 1, none⟩ = some (.int .i64 (U (k * 12 + 1))) := by have q := hc0 (k * 12 + 1) (by omega); simpa [Nat.add_assoc] using q
          have t2 : wr.cell? ⟨g0, o0 + k * 12 + 2, none⟩ = some (.int .i64 (U (k * 12 + 2))) := by have q := hc0 (k * 12 + 2) (by omega); simpa [Nat.add_assoc] using q
          have t3 : wr.cell? ⟨g0, o0 + k * 12 + 3, none⟩ = some (.int .i64 (U (k * 12 + 3))) := by have q := hc0 (k * 12 + 3) (by omega); simpa [Nat.add_assoc] using q
          have t4 : wr.cell? ⟨g0, o0 + k * 12 + 4, none⟩ = some (.int .i64 (U (k * 12 + 4))) := by have q := hc0 (k * 12 + 4) (by omega); simpa [Nat.add_assoc] using q
          have t5 : wr.cell? ⟨g0, o0 + k * 12 + 5, none⟩ = some (.int .i64 (U (k * 12 + 5))) := by have q := hc0 (k * 12 + 5) (by omega); simpa [Nat.add_assoc] using q
          have t6 : wr.cell? ⟨g0, o0 + k * 12 + 6, none⟩ = some (.int .i64 (U (k * 12 + 6))) := by have q := hc0 (k * 12 + 6) (by omega); simpa [Nat.add_assoc] using q
          have t7 : wr.cell? ⟨g0, o0 + k * 12 + 7, none⟩ = some (.int .i64 (U (k * 12 + 7))) := by have q := hc0 (k * 12 + 7) (by omega); simpa [Nat.add_assoc] using q
          have t8 : wr.cell? ⟨g0, o0 + k * 12 + 8, none⟩ = some (.int .i64 (U (k * 12 + 8))) := by have q := hc0 (k * 12 + 8) (by omega); simpa [Nat.add_assoc] using q
          have t9 : wr.cell? ⟨g0, o0 + k * 12 + 9, none⟩ = some (.int .i64 (U (k * 12 + 9))) := by have q := hc0 (k * 12 + 9) (by omega); simpa [Nat.add_assoc] using q
          have t10 : wr.cell? ⟨g0, o0 + k * 12 + 10, none⟩ = some (.int .i64 (U (k * 12 + 10))) := by have q := hc0 (k * 12 + 10) (by omega); simpa [Nat.add_assoc] using q
          have t11 : wr.cell? ⟨g0, o0 + k * 12 + 11, none⟩ = some (.int .i64 (U (k * 12 + 11))) := by have q := hc0 (k * 12 + 11) (by omega); simpa [Nat.add_assoc] using q
          clear hc0
          subst eg0
          go_upto_region 13 with fail
          go_cut [11] (fun s11 wc => ∃ (eb : Nat) (V : Nat → Int), s11 = .pointer (some ⟨eb, 0, none⟩) ∧ wr.heap.size ≤ eb ∧ (∀ j, V j = U (k * 12 + j)) ∧ Bb wc eb V ∧ Below wr.heap.size wr wc)
          case first =>
            go_wp2_with fail
            go_meet
            exact ⟨_, (fun j => U (k * 12 + j)), rfl, Nat.le_refl _, fun _ => rfl, Bb.new wr (fun j => U (k * 12 + j)), balloc _ _⟩
          case rest =>
          clear d0 d1 d2 d3 df u0 u1 uf t0 t1 t2 t3 t4 t5 t6 t7 t8 t9 t10 t11
          obtain ⟨eb, V, rfl, heb, hV0, hE, hbE⟩ := hcut
          have hV : Shut (∀ j, V j = U (k * 12 + j)) := hV0
          have hVk : V 0 = U (k * 12) := hV0 0
          clear hV0
          have hl6 := hX.d.lt
          have hl5 := hU.lt
          have hl3 := hL.d.lt
          have fa : ∀ g o, (some ⟨g0, o0, none⟩ : Option Addr) = some ⟨g, o, none⟩ → 0 < n1 → g ≠ eb := fun g o q h0 => by have := hL.fb.lt q (by omega); omega
          have fa' : ∀ g o, a' = some ⟨g, o, none⟩ → 0 < m1 → g ≠ eb := fun g o q h0 => by have := hL.fp.lt q (by omega); omega
          have fx : ∀ g o, a1 = some ⟨g, o, none⟩ → 0 < n1 → g ≠ eb := fun g o q h0 => by have := hX.fb.lt q (by omega); omega
          have fx' : ∀ g o, a2 = some ⟨g, o, none⟩ → 0 < m1 → g ≠ eb := fun g o q h0 => by have := hX.fp.lt q (by omega); omega
          have bel1 := bel.trans (hbE.mono bel.size)
          have hsz0 : w.heap.size ≤ wr.heap.size := bel.size
          have hL1 := hL.on hbE
          have hU1 := hU.on hbE
          have hX1 := hX.on hbE
          clear bel hL hU hX hbE
          have rowk := hrow k hlt
          have q0 := hE.c0
          have q1 := hE.c1
          have q2 := hE.c2
          have q3 := hE.c3
          have q4 := hE.c4
          have q5 := hE.c5
          have q6 := hE.c6
          have q7 := hE.c7
          have q8 := hE.c8
          have q9 := hE.c9
          have q10 := hE.c10
          have q11 := hE.c11
          have qf := hE.f
          by_cases hkp : V 0 = id
          · obtain rfl : k = p := by
              rcases Nat.lt_trichotomy k p with h | h | h
              · have := hasc k p h hpn; omega
              · exact h
              · have := hasc p k h hlt; omega
            have hee : (V 0 == id) = true := by simp [hkp]
            clear hVk hkp
            have u0 := hU1.c0
            have u1 := hU1.c1
            have hbk : bodyB V = true := by rw [bodyB_cong (fun j _ => hV.out j)]; exact hB.ok k hlt
            go_upto_region 16 with (go_at_call 9; refine (bodyPush_k V x y _ hbk hxy).mono ?_; rintro e w7 ⟨rfl, hb7⟩; have hE7 := hE.on hb7; clear q0 q1 q2 q3 q4 q5 q6 q7 q8 q9 q10 q11 qf u0 u1; have q0 := hE7.c0; have q1 := hE7.c1; have q2 := hE7.c2; have q3 := hE7.c3; have q4 := hE7.c4; have q5 := hE7.c5; have q6 := hE7.c6; have q7 := hE7.c7; have q8 := hE7.c8; have q9 := hE7.c9; have q10 := hE7.c10; have q11 := hE7.c11; have qf := hE7.f)
            have hF := Fr.body (w := w7) (b := eb) (pushV V x y)
            have hE8 := hE7.put (pushV V x y)
            have bel8 := (bel1.trans (hb7.mono bel1.size)).trans (hF.below (X := fun j => j = eb) (by have := bel1.size; have := hb7.size; omega) (fun j q => by subst q; have := bel1.size; omega))
            have hL8 := (hL1.on hb7).fr hF (by omega) fa fa'
            have hX8 := (hX1.on hb7).fr hF (by omega) fx fx'
            have hU8 := (hU1.on hb7).fr hF (by omega)
            clear q0 q1 q2 q3 q4 q5 q6 q7 q8 q9 q10 q11 qf hE7 hb7 hF bel1 hL1 hU1 hX1 hE
            generalize ((((((((((((w7.setCell ⟨eb, 0, none⟩ (.int .i64 (pushV V x y 0))).setCell ⟨eb, 1, none⟩ (.int .i64 (pushV V x y 1))).setCell ⟨eb, 2, none⟩ (.int .i64 (pushV V x y 2))).setCell ⟨eb, 3, none⟩ (.int .i64 (pushV V x y 3))).setCell ⟨eb, 4, none⟩ (.int .i64 (pushV V x y 4))).setCell ⟨eb, 5, none⟩ (.int .i64 (pushV V x y 5))).setCell ⟨eb, 6, none⟩ (.int .i64 (pushV V x y 6))).setCell ⟨eb, 7, none⟩ (.int .i64 (pushV V x y 7))).setCell ⟨eb, 8, none⟩ (.int .i64 (pushV V x y 8))).setCell ⟨eb, 9, none⟩ (.int .i64 (pushV V x y 9))).setCell ⟨eb, 10, none⟩ (.int .i64 (pushV V x y 10))).setCell ⟨eb, 11, none⟩ (.int .i64 (pushV V x y 11))) = wz at hE8 bel8 hL8 hX8 hU8 ⊢
            have hE := hE8.congr (V' := fun j => U1 (k * 12 + j)) (fun j hj => by show _ = U1 (k * 12 + j); rw [rowk j hj, show V = (fun j => U (k * 12 + j)) from funext hV.out]; simp)
            clear hE8
            obtain ⟨g1, o1, eg1, hl1, hc1⟩ := hX8.fb (by omega)
            have r0 : wz.cell? ⟨g1, o1 + k * 12, none⟩ = some (.int .i64 (U1 (k * 12))) := by have q := hc1 (k * 12 + 0) (by omega); simpa [Nat.add_assoc] using q
            have r1 : wz.cell? ⟨g1, o1 + k * 12 + 1, none⟩ = some (.int .i64 (U1 (k * 12 + 1))) := by have q := hc1 (k * 12 + 1) (by omega); simpa [Nat.add_assoc] using q
            have r2 : wz.cell? ⟨g1, o1 + k * 12 + 2, none⟩ = some (.int .i64 (U1 (k * 12 + 2))) := by have q := hc1 (k * 12 + 2) (by omega); simpa [Nat.add_assoc] using q
            have r3 : wz.cell? ⟨g1, o1 + k * 12 + 3, none⟩ = some (.int .i64 (U1 (k * 12 + 3))) := by have q := hc1 (k * 12 + 3) (by omega); simpa [Nat.add_assoc] using q
            have r4 : wz.cell? ⟨g1, o1 + k * 12 + 4, none⟩ = some (.int .i64 (U1 (k * 12 + 4))) := by have q := hc1 (k * 12 + 4) (by omega); simpa [Nat.add_assoc] using q
            have r5 : wz.cell? ⟨g1, o1 + k * 12 + 5, none⟩ = some (.int .i64 (U1 (k * 12 + 5))) := by have q := hc1 (k * 12 + 5) (by omega); simpa [Nat.add_assoc] using q
            have r6 : wz.cell? ⟨g1, o1 + k * 12 + 6, none⟩ = some (.int .i64 (U1 (k * 12 + 6))) := by have q := hc1 (k * 12 + 6) (by omega); simpa [Nat.add_assoc] using q
            have r7 : wz.cell? ⟨g1, o1 + k * 12 + 7, none⟩ = some (.int .i64 (U1 (k * 12 + 7))) := by have q := hc1 (k * 12 + 7) (by omega); simpa [Nat.add_assoc] using q
            have r8 : wz.cell? ⟨g1, o1 + k * 12 + 8, none⟩ = some (.int .i64 (U1 (k * 12 + 8))) := by have q := hc1 (k * 12 + 8) (by omega); simpa [Nat.add_assoc] using q
            have r9 : wz.cell? ⟨g1, o1 + k * 12 + 9, none⟩ = some (.int .i64 (U1 (k * 12 + 9))) := by have q := hc1 (k * 12 + 9) (by omega); simpa [Nat.add_assoc] using q
            have r10 : wz.cell? ⟨g1, o1 + k * 12 + 10, none⟩ = some (.int .i64 (U1 (k * 12 + 10))) := by have q := hc1 (k * 12 + 10) (by omega); simpa [Nat.add_assoc] using q
            have r11 : wz.cell? ⟨g1, o1 + k * 12 + 11, none⟩ = some (.int .i64 (U1 (k * 12 + 11))) := by have q := hc1 (k * 12 + 11) (by omega); simpa [Nat.add_assoc] using q
            clear hc1
            subst eg1
            have x2 := hX8.d.vb.c2
            have q0 : wz.cell? ⟨eb, 0, none⟩ = some (.int .i64 (U1 (k * 12))) := hE.c0
            have q1 : wz.cell? ⟨eb, 1, none⟩ = some (.int .i64 (U1 (k * 12 + 1))) := hE.c1
            have q2 : wz.cell? ⟨eb, 2, none⟩ = some (.int .i64 (U1 (k * 12 + 2))) := hE.c2
            have q3 : wz.cell? ⟨eb, 3, none⟩ = some (.int .i64 (U1 (k * 12 + 3))) := hE.c3
            have q4 : wz.cell? ⟨eb, 4, none⟩ = some (.int .i64 (U1 (k * 12 + 4))) := hE.c4
            have q5 : wz.cell? ⟨eb, 5, none⟩ = some (.int .i64 (U1 (k * 12 + 5))) := hE.c5
            have q6 : wz.cell? ⟨eb, 6, none⟩ = some (.int .i64 (U1 (k * 12 + 6))) := hE.c6
            have q7 : wz.cell? ⟨eb, 7, none⟩ = some (.int .i64 (U1 (k * 12 + 7))) := hE.c7
            have q8 : wz.cell? ⟨eb, 8, none⟩ = some (.int .i64 (U1 (k * 12 + 8))) := hE.c8
            have q9 : wz.cell? ⟨eb, 9, none⟩ = some (.int .i64 (U1 (k * 12 + 9))) := hE.c9
            have q10 : wz.cell? ⟨eb, 10, none⟩ = some (.int .i64 (U1 (k * 12 + 10))) := hE.c10
            have q11 : wz.cell? ⟨eb, 11, none⟩ = some (.int .i64 (U1 (k * 12 + 11))) := hE.c11
            have hev := eq_body0 (U1 (k * 12)) (U1 (k * 12 + 1)) (U1 (k * 12 + 2)) (U1 (k * 12 + 3)) (U1 (k * 12 + 4)) (U1 (k * 12 + 5)) (U1 (k * 12 + 6)) (U1 (k * 12 + 7)) (U1 (k * 12 + 8)) (U1 (k * 12 + 9)) (U1 (k * 12 + 10)) (U1 (k * 12 + 11))
            clear hE rowk hrow fa fa' fx fx' hOK1 hB hasc
            refine wp_region_held_drew (S := fun w' => w'.cell? ⟨b6, 2, none⟩ = some (.slice (some ⟨g1, o1, none⟩) n1 c1) ∧ w'.cell? ⟨g1, o1 + k * 12, none⟩ = some (.int .i64 (U1 (k * 12))) ∧ w'.cell? ⟨g1, o1 + k * 12 + 1, none⟩ = some (.int .i64 (U1 (k * 12 + 1))) ∧ w'.cell? ⟨g1, o1 + k * 12 + 2, none⟩ = some (.int .i64 (U1 (k * 12 + 2))) ∧ w'.cell? ⟨g1, o1 + k * 12 + 3, none⟩ = some (.int .i64 (U1 (k * 12 + 3))) ∧ w'.cell? ⟨g1, o1 + k * 12 + 4, none⟩ = some (.int .i64 (U1 (k * 12 + 4))) ∧ w'.cell? ⟨g1, o1 + k * 12 + 5, none⟩ = some (.int .i64 (U1 (k * 12 + 5))) ∧ w'.cell? ⟨g1, o1 + k * 12 + 6, none⟩ = some (.int .i64 (U1 (k * 12 + 6))) ∧ w'.cell? ⟨g1, o1 + k * 12 + 7, none⟩ = some (.int .i64 (U1 (k * 12 + 7))) ∧ w'.cell? ⟨g1, o1 + k * 12 + 8, none⟩ = some (.int .i64 (U1 (k * 12 + 8))) ∧ w'.cell? ⟨g1, o1 + k * 12 + 9, none⟩ = some (.int .i64 (U1 (k * 12 + 9))) ∧ w'.cell? ⟨g1, o1 + k * 12 + 10, none⟩ = some (.int .i64 (U1 (k * 12 + 10))) ∧ w'.cell? ⟨g1, o1 + k * 12 + 11, none⟩ = some (.int .i64 (U1 (k * 12 + 11))) ∧ w'.cell? ⟨eb, 0, none⟩ = some (.int .i64 (U1 (k * 12))) ∧ w'.cell? ⟨eb, 1, none⟩ = some (.int .i64 (U1 (k * 12 + 1))) ∧ w'.cell? ⟨eb, 2, none⟩ = some (.int .i64 (U1 (k * 12 + 2))) ∧ w'.cell? ⟨eb, 3, none⟩ = some (.int .i64 (U1 (k * 12 + 3))) ∧ w'.cell? ⟨eb, 4, none⟩ = some (.int .i64 (U1 (k * 12 + 4))) ∧ w'.cell? ⟨eb, 5, none⟩ = some (.int .i64 (U1 (k * 12 + 5))) ∧ w'.cell? ⟨eb, 6, none⟩ = some (.int .i64 (U1 (k * 12 + 6))) ∧ w'.cell? ⟨eb, 7, none⟩ = some (.int .i64 (U1 (k * 12 + 7))) ∧ w'.cell? ⟨eb, 8, none⟩ = some (.int .i64 (U1 (k * 12 + 8))) ∧ w'.cell? ⟨eb, 9, none⟩ = some (.int .i64 (U1 (k * 12 + 9))) ∧ w'.cell? ⟨eb, 10, none⟩ = some (.int .i64 (U1 (k * 12 + 10))) ∧ w'.cell? ⟨eb, 11, none⟩ = some (.int .i64 (U1 (k * 12 + 11)))) (by kernel_rfl) ?_ (fun hHeld => ?_)
            · (try dsimp only)
              (first | (go_simp; done) | (go_keep; done))
            refine tq 0 hHeld ?_
            refine tq 1 hHeld ?_
            refine tq 2 hHeld ?_
            refine tq 3 hHeld ?_
            refine tq 4 hHeld ?_
            refine tq 5 hHeld ?_
            refine tq 6 hHeld ?_
            refine wpAnyH_done (by kernel_rfl) ?_ _
            go_wp2_with fail
            have hdr : Below wz.heap.size wz wz.drew := Below.drew (Below.refl _ _)
            go_roundw
            case rel => exact ⟨k + 1, by omega, by go_num, bel8.trans (hdr.mono bel8.size), hL8.on hdr, hU8.on hdr, hX8.on hdr⟩
            case measure => simp [intOf]; omega
          · have hee : (V 0 == id) = false := by simp [hkp]
            have hkp' : ¬ k = p := fun q => hkp (by rw [hVk, q]; exact hid)
            clear hVk hkp
            have hE8 := hE.congr (V' := fun j => U1 (k * 12 + j)) (fun j hj => by show _ = U1 (k * 12 + j); rw [rowk j hj, if_neg hkp', hV.out j])
            go_upto_region 16 with fail
            clear q0 q1 q2 q3 q4 q5 q6 q7 q8 q9 q10 q11 qf hE
            have hE := hE8
            clear hE8
            obtain ⟨g1, o1, eg1, hl1, hc1⟩ := hX1.fb (by omega)
            have r0 : wc.cell? ⟨g1, o1 + k * 12, none⟩ = some (.int .i64 (U1 (k * 12))) := by have q := hc1 (k * 12 + 0) (by omega); simpa [Nat.add_assoc] using q
            have r1 : wc.cell? ⟨g1, o1 + k * 12 + 1, none⟩ = some (.int .i64 (U1 (k * 12 + 1))) := by have q := hc1 (k * 12 + 1) (by omega); simpa [Nat.add_assoc] using q
            have r2 : wc.cell? ⟨g1, o1 + k * 12 + 2, none⟩ = some (.int .i64 (U1 (k * 12 + 2))) := by have q := hc1 (k * 12 + 2) (by omega); simpa [Nat.add_assoc] using q
            have r3 : wc.cell? ⟨g1, o1 + k * 12 + 3, none⟩ = some (.int .i64 (U1 (k * 12 + 3))) := by have q := hc1 (k * 12 + 3) (by omega); simpa [Nat.add_assoc] using q
            have r4 : wc.cell? ⟨g1, o1 + k * 12 + 4, none⟩ = some (.int .i64 (U1 (k * 12 + 4))) := by have q := hc1 (k * 12 + 4) (by omega); simpa [Nat.add_assoc] using q
            have r5 : wc.cell? ⟨g1, o1 + k * 12 + 5, none⟩ = some (.int .i64 (U1 (k * 12 + 5))) := by have q := hc1 (k * 12 + 5) (by omega); simpa [Nat.add_assoc] using q
            have r6 : wc.cell? ⟨g1, o1 + k * 12 + 6, none⟩ = some (.int .i64 (U1 (k * 12 + 6))) := by have q := hc1 (k * 12 + 6) (by omega); simpa [Nat.add_assoc] using q
            have r7 : wc.cell? ⟨g1, o1 + k * 12 + 7, none⟩ = some (.int .i64 (U1 (k * 12 + 7))) := by have q := hc1 (k * 12 + 7) (by omega); simpa [Nat.add_assoc] using q
            have r8 : wc.cell? ⟨g1, o1 + k * 12 + 8, none⟩ = some (.int .i64 (U1 (k * 12 + 8))) := by have q := hc1 (k * 12 + 8) (by omega); simpa [Nat.add_assoc] using q
            have r9 : wc.cell? ⟨g1, o1 + k * 12 + 9, none⟩ = some (.int .i64 (U1 (k * 12 + 9))) := by have q := hc1 (k * 12 + 9) (by omega); simpa [Nat.add_assoc] using q
            have r10 : wc.cell? ⟨g1, o1 + k * 12 + 10, none⟩ = some (.int .i64 (U1 (k * 12 + 10))) := by have q := hc1 (k * 12 + 10) (by omega); simpa [Nat.add_assoc] using q
            have r11 : wc.cell? ⟨g1, o1 + k * 12 + 11, none⟩ = some (.int .i64 (U1 (k * 12 + 11))) := by have q := hc1 (k * 12 + 11) (by omega); simpa [Nat.add_assoc] using q
            clear hc1
            subst eg1
            have x2 := hX1.d.vb.c2
            have q0 : wc.cell? ⟨eb, 0, none⟩ = some (.int .i64 (U1 (k * 12))) := hE.c0
            have q1 : wc.cell? ⟨eb, 1, none⟩ = some (.int .i64 (U1 (k * 12 + 1))) := hE.c1
            have q2 : wc.cell? ⟨eb, 2, none⟩ = some (.int .i64 (U1 (k * 12 + 2))) := hE.c2
            have q3 : wc.cell? ⟨eb, 3, none⟩ = some (.int .i64 (U1 (k * 12 + 3))) := hE.c3
            have q4 : wc.cell? ⟨eb, 4, none⟩ = some (.int .i64 (U1 (k * 12 + 4))) := hE.c4
            have q5 : wc.cell? ⟨eb, 5, none⟩ = some (.int .i64 (U1 (k * 12 + 5))) := hE.c5
            have q6 : wc.cell? ⟨eb, 6, none⟩ = some (.int .i64 (U1 (k * 12 + 6))) := hE.c6
            have q7 : wc.cell? ⟨eb, 7, none⟩ = some (.int .i64 (U1 (k * 12 + 7))) := hE.c7
            have q8 : wc.cell? ⟨eb, 8, none⟩ = some (.int .i64 (U1 (k * 12 + 8))) := hE.c8
            have q9 : wc.cell? ⟨eb, 9, none⟩ = some (.int .i64 (U1 (k * 12 + 9))) := hE.c9
            have q10 : wc.cell? ⟨eb, 10, none⟩ = some (.int .i64 (U1 (k * 12 + 10))) := hE.c10
            have q11 : wc.cell? ⟨eb, 11, none⟩ = some (.int .i64 (U1 (k * 12 + 11))) := hE.c11
            have hev := eq_body0 (U1 (k * 12)) (U1 (k * 12 + 1)) (U1 (k * 12 + 2)) (U1 (k * 12 + 3)) (U1 (k * 12 + 4)) (U1 (k * 12 + 5)) (U1 (k * 12 + 6)) (U1 (k * 12 + 7)) (U1 (k * 12 + 8)) (U1 (k * 12 + 9)) (U1 (k * 12 + 10)) (U1 (k * 12 + 11))
            clear hE rowk hrow fa fa' fx fx' hOK1 hB hasc
            refine wp_region_held_drew (S := fun w' => w'.cell? ⟨b6, 2, none⟩ = some (.slice (some ⟨g1, o1, none⟩) n1 c1) ∧ w'.cell? ⟨g1, o1 + k * 12, none⟩ = some (.int .i64 (U1 (k * 12))) ∧ w'.cell? ⟨g1, o1 + k * 12 + 1, none⟩ = some (.int .i64 (U1 (k * 12 + 1))) ∧ w'.cell? ⟨g1, o1 + k * 12 + 2, none⟩ = some (.int .i64 (U1 (k * 12 + 2))) ∧ w'.cell? ⟨g1, o1 + k * 12 + 3, none⟩ = some (.int .i64 (U1 (k * 12 + 3))) ∧ w'.cell? ⟨g1, o1 + k * 12 + 4, none⟩ = some (.int .i64 (U1 (k * 12 + 4))) ∧ w'.cell? ⟨g1, o1 + k * 12 + 5, none⟩ = some (.int .i64 (U1 (k * 12 + 5))) ∧ w'.cell? ⟨g1, o1 + k * 12 + 6, none⟩ = some (.int .i64 (U1 (k * 12 + 6))) ∧ w'.cell? ⟨g1, o1 + k * 12 + 7, none⟩ = some (.int .i64 (U1 (k * 12 + 7))) ∧ w'.cell? ⟨g1, o1 + k * 12 + 8, none⟩ = some (.int .i64 (U1 (k * 12 + 8))) ∧ w'.cell? ⟨g1, o1 + k * 12 + 9, none⟩ = some (.int .i64 (U1 (k * 12 + 9))) ∧ w'.cell? ⟨g1, o1 + k * 12 + 10, none⟩ = some (.int .i64 (U1 (k * 12 + 10))) ∧ w'.cell? ⟨g1, o1 + k * 12 + 11, none⟩ = some (.int .i64 (U1 (k * 12 + 11))) ∧ w'.cell? ⟨eb, 0, none⟩ = some (.int .i64 (U1 (k * 12))) ∧ w'.cell? ⟨eb, 1, none⟩ = some (.int .i64 (U1 (k * 12 + 1))) ∧ w'.cell? ⟨eb, 2, none⟩ = some (.int .i64 (U1 (k * 12 + 2))) ∧ w'.cell? ⟨eb, 3, none⟩ = some (.int .i64 (U1 (k * 12 + 3))) ∧ w'.cell? ⟨eb, 4, none⟩ = some (.int .i64 (U1 (k * 12 + 4))) ∧ w'.cell? ⟨eb, 5, none⟩ = some (.int .i64 (U1 (k * 12 + 5))) ∧ w'.cell? ⟨eb, 6, none⟩ = some (.int .i64 (U1 (k * 12 + 6))) ∧ w'.cell? ⟨eb, 7, none⟩ = some (.int .i64 (U1 (k * 12 + 7))) ∧ w'.cell? ⟨eb, 8, none⟩ = some (.int .i64 (U1 (k * 12 + 8))) ∧ w'.cell? ⟨eb, 9, none⟩ = some (.int .i64 (U1 (k * 12 + 9))) ∧ w'.cell? ⟨eb, 10, none⟩ = some (.int .i64 (U1 (k * 12 + 10))) ∧ w'.cell? ⟨eb, 11, none⟩ = some (.int .i64 (U1 (k * 12 + 11)))) (by kernel_rfl) ?_ (fun hHeld => ?_)
            · (try dsimp only)
              (first | (go_simp; done) | (go_keep; done))
            refine tq 0 hHeld ?_
            refine tq 1 hHeld ?_
            refine tq 2 hHeld ?_
            refine tq 3 hHeld ?_
            refine tq 4 hHeld ?_
            refine tq 5 hHeld ?_
            refine tq 6 hHeld ?_
            refine wpAnyH_done (by kernel_rfl) ?_ _
            go_wp2_with fail
            have hdr : Below wc.heap.size wc wc.drew := Below.drew (Below.refl _ _)
            go_roundw
            case rel => exact ⟨k + 1, by omega, by go_num, bel1.trans (hdr.mono bel1.size), hL1.on hdr, hU1.on hdr, hX1.on hdr⟩
            case measure => simp [intOf]; omega
        · obtain rfl : k = n1 := by omega
          have x0 := hX.d.vb.c0
          have x1 := hX.d.vb.c1
          have x2 := hX.d.vb.c2
          have x3 := hX.d.vb.c3
          have xf := hX.d.vb.f
          have e9 : (T1 == T1) = true := by simp
          go_wp2_with (go_at_call 10; refine (worldOk_q _ _ a1 _ c1 U1 a2 _ c2 _ _ hX.fb hX.fp (by omega) (by omega) true hOK1).mono ?_; rintro e w3 ⟨rfl, hb3⟩; have hL3 := hL.on hb3; have hX3 := hX.on hb3; clear x0 x1 x2 x3 xf d0 d1 d2 d3 df; have x0 := hX3.d.vb.c0; have d0 := hL3.d.vb.c0)
          go_ret
          exact ⟨rfl, bel.trans (hb3.mono bel.size)⟩
end Go.Proofs.YtneacpfdmocifaaGreat
namespace Go.Proofs.YtneacpfdmocifaaGreat
theorem head_cut {l : List (List Char)} {c : List Char} (h : (l.head? == some c) = true) : ∃ rest, l = c :: rest := by
  cases l with
  | nil => simp at h
  | cons a r => simp at h; exact ⟨r, by rw [h]⟩
theorem strip_cut (rest : List (List Char)) : stripLifts liftWords ("cut".toList :: rest) = ([], "cut".toList :: rest) := by kernel_rfl
theorem make_of {P : Program} {l : List Char} (h0 : P.initOrder.toList = l) (h1 : ((behindMainWord (wordsSigns l)).head? == some "cut".toList) = true) : P.make = some .cut := by
  obtain ⟨rest, hr⟩ := head_cut h1
  unfold Program.make
  rw [h0, hr]
  rfl
theorem headLifts_of {P : Program} {l : List Char} (h0 : P.initOrder.toList = l) (h1 : ((behindMainWord (wordsSigns l)).head? == some "cut".toList) = true) : P.headLifts = [] := by
  obtain ⟨rest, hr⟩ := head_cut h1
  unfold Program.headLifts
  rw [h0, hr, strip_cut]
  rfl
theorem liftsFinal_of {P : Program} {l : List Char} (h0 : P.initOrder.toList = l) (h1 : ((behindMainWord (wordsSigns l)).head? == some "cut".toList) = true) : P.liftsFinal = false := by
  have hh := headLifts_of h0 h1
  obtain ⟨rest, hr⟩ := head_cut h1
  unfold Program.liftsFinal
  rw [h0, hr, hh]
  rfl
theorem mayEnter_of {P : Program} {l : List Char} (h0 : P.initOrder.toList = l) (h1 : ((behindMainWord (wordsSigns l)).head? == some "cut".toList) = true) (h2 : P.laysLater = false) (h3 : P.bearsReflect = false) (h4 : P.doorFits [] = true) : P.mayEnter = true := by
  obtain ⟨rest, hr⟩ := head_cut h1
  unfold Program.mayEnter
  rw [h0, hr]
  simp only [strip_cut, h2, h3, h4]
  simp
end Go.Proofs.YtneacpfdmocifaaGreat
namespace Go.Proofs.YtneacpfdmocifaaGreat
set_option maxRecDepth 100000
def ordL : { l : List Char // Tryz.prog.initOrder = String.ofList l } := ⟨_, rfl⟩
theorem ordT : Tryz.prog.initOrder.toList = ordL.1 := (congrArg String.toList ordL.2).trans String.toList_ofList
theorem headE : ((behindMainWord (wordsSigns ordL.1)).head? == some "cut".toList) = true := by kernel_rfl
theorem makeT : Tryz.prog.make = some .cut := make_of ordT headE
theorem liftsFinalT : Tryz.prog.liftsFinal = false := liftsFinal_of ordT headE
theorem laysLaterT : Tryz.prog.laysLater = false := by kernel_rfl
theorem bearsReflectT : Tryz.prog.bearsReflect = false := by kernel_rfl
theorem doorFitsT : Tryz.prog.doorFits [] = true := by kernel_rfl
theorem mayEnterT : Tryz.prog.mayEnter = true := mayEnter_of ordT headE laysLaterT bearsReflectT doorFitsT
theorem ownT : ownKnob Tryz.prog.godebug = none := by kernel_rfl
theorem laidOutT : laidOutB Tryz.prog = true := by kernel_rfl
theorem mapsRowedT : mapsRowed Tryz.prog = true := by kernel_rfl
theorem stopsHeardT : Tryz.prog.stopsHeard = true := by kernel_rfl
theorem plainKeysT : Tryz.prog.plainKeys = true := by kernel_rfl
end Go.Proofs.YtneacpfdmocifaaGreat
