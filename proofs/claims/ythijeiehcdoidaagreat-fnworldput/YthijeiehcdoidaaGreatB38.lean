/- Texts of a proof. -/
import Derived.Test.YthijeiehcdoidaaGreatWdSp
import Derived.Test.YthijeiehcdoidaaGreatB28
import Derived.Test.YthijeiehcdoidaaGreatB10
import Derived.Deep.RegionHeld3
import Derived.Deep.DeepCutAuto
import Derived.Test.YthijeiehcdoidaaGreatB14
set_option maxHeartbeats 16000000
set_option maxRecDepth 20000
namespace Go.Proofs.YthijeiehcdoidaaGreat
open Go.RowKit
set_option linter.unusedVariables false
set_option linter.unusedSimpArgs false
structure WA where
 T : Int
 P : Int
 n : Nat
 U : Nat → Int
 m : Nat
 Q : Nat → Int
 k : Int
def WOut (w w' : World) (e : Ending) (A : WA) : Prop := ∃ a1 c1 a2 c2, e = .returned (.tuple #[worldW A.T A.P a1 A.n c1 a2 A.m c2, .int .i64 A.k]) ∧ OutW w w' a1 A.n c1 A.U a2 A.m c2 A.Q
def WA.none : WA := ⟨0, 0, 0, fun _ => 0, 0, fun _ => 0, 1⟩
theorem OutW.nil {w w' : World} {U Q : Nat → Int} (h : Below w.heap.size w w') : OutW w w' none 0 0 U none 0 0 Q := ⟨h, OwnL.nil _ _ _ _ _, OwnL.nil _ _ _ _ _, fun b e => by simp [Value.ownBlock] at e⟩
theorem OutW.res {w0 wB w4 : World} {a a' : Option Addr} {n c m c' b : Nat} {U Q : Nat → Int} (h : OutW wB w4 a n c U a' m c' Q) (hb : Below w0.heap.size w0 wB) (h1 : w0.heap.size ≤ b) (h2 : b < wB.heap.size) (v0 v1 v2 v3 : Value) :
 OutW w0 ((((w4.setCell ⟨b, 0, none⟩ v0).setCell ⟨b, 1, none⟩ v1).setCell ⟨b, 2, none⟩ v2).setCell ⟨b, 3, none⟩ v3) a n c U a' m c' Q :=
 ⟨((((hb.trans (h.bel.mono hb.size)).setCell h1 _).setCell h1 _).setCell h1 _).setCell h1 _, ((((h.ob.setO h2 _).setO h2 _).setO h2 _).setO h2 _).base hb.size, ((((h.op.setO h2 _).setO h2 _).setO h2 _).setO h2 _).base hb.size, h.ne⟩
structure Vw (wc : World) (lo hi bx : Nat) (T P : Int) (a1 : Option Addr) (n k1 : Nat) (U : Nat → Int) (a2 : Option Addr) (m k2 : Nat) (Q : Nat → Int) : Prop where
 c0 : wc.cell? ⟨bx, 0, none⟩ = some (.int .i64 T)
 c1 : wc.cell? ⟨bx, 1, none⟩ = some (.int .i64 P)
 c2 : wc.cell? ⟨bx, 2, none⟩ = some (.slice a1 n k1)
 c3 : wc.cell? ⟨bx, 3, none⟩ = some (.slice a2 m k2)
 nf : ∀ o, wc.frozen? ⟨bx, o, none⟩ = false
 bl : lo ≤ bx
 bh : bx < hi
 le : hi ≤ wc.heap.size
 ob : OwnL wc lo 41 12 (.slice a1 n k1) n U
 op : OwnL wc lo 58 2 (.slice a2 m k2) m Q
 t1 : ∀ b, (Value.slice a1 n k1).ownBlock = some b → b < hi ∧ b ≠ bx
 t2 : ∀ b, (Value.slice a2 m k2).ownBlock = some b → b < hi ∧ b ≠ bx
theorem Vw.blt {wc : World} {lo hi bx : Nat} {T P : Int} {a1 : Option Addr} {n c1 : Nat} {U : Nat → Int} {a2 : Option Addr} {m c2 : Nat} {Q : Nat → Int} (h : Vw wc lo hi bx T P a1 n c1 U a2 m c2 Q) : bx < wc.heap.size := Nat.lt_of_lt_of_le h.bh h.le
theorem Vw.on {wc : World} {lo hi bx : Nat} {T P : Int} {a1 : Option Addr} {n c1 : Nat} {U : Nat → Int} {a2 : Option Addr} {m c2 : Nat} {Q : Nat → Int} {w' : World} (h : Vw wc lo hi bx T P a1 n c1 U a2 m c2 Q) (hb : Below wc.heap.size wc w') : Vw w' lo hi bx T P a1 n c1 U a2 m c2 Q :=
 ⟨(hb.cell (p := ⟨bx, 0, none⟩) h.blt).trans h.c0, (hb.cell (p := ⟨bx, 1, none⟩) h.blt).trans h.c1, (hb.cell (p := ⟨bx, 2, none⟩) h.blt).trans h.c2, (hb.cell (p := ⟨bx, 3, none⟩) h.blt).trans h.c3, fun o => (hb.frozen (p := ⟨bx, o, none⟩) h.blt).trans (h.nf o), h.bl, h.bh, Nat.le_trans h.le hb.size, h.ob.below hb, h.op.below hb, h.t1, h.t2⟩
theorem Vw.fr {X : Nat → Prop} {wc : World} {lo hi bx : Nat} {T P : Int} {a1 : Option Addr} {n c1 : Nat} {U : Nat → Int} {a2 : Option Addr} {m c2 : Nat} {Q : Nat → Int} {w' : World} (h : Vw wc lo hi bx T P a1 n c1 U a2 m c2 Q) (hs : Fr X wc w') (hX : ∀ b, X b → b < lo ∨ hi ≤ b) : Vw w' lo hi bx T P a1 n c1 U a2 m c2 Q := by
 have nb : ¬ X bx := fun x => by have := hX _ x; have := h.bl; have := h.bh; omega
 have k := fun o => hs.cell (p := ⟨bx, o, none⟩) h.blt nb
 exact ⟨(k 0).trans h.c0, (k 1).trans h.c1, (k 2).trans h.c2, (k 3).trans h.c3, fun o => (hs.frozen (p := ⟨bx, o, none⟩) h.blt nb).trans (h.nf o), h.bl, h.bh, Nat.le_trans h.le hs.size,
  h.ob.frame hs (fun b e x => by have := hX _ x; have := (h.ob.lt b e).1; have := (h.t1 b e).1; omega), h.op.frame hs (fun b e x => by have := hX _ x; have := (h.op.lt b e).1; have := (h.t2 b e).1; omega), h.t1, h.t2⟩
theorem Vw.fb {wc : World} {lo hi bx : Nat} {T P : Int} {a1 : Option Addr} {n c1 : Nat} {U : Nat → Int} {a2 : Option Addr} {m c2 : Nat} {Q : Nat → Int} (h : Vw wc lo hi bx T P a1 n c1 U a2 m c2 Q) : Flat wc a1 (n * 12) U := h.ob.flat
theorem Vw.new {w0 w1 : World} {T P : Int} {a1 a2 : Option Addr} {n c1 m c2 : Nat} {U Q : Nat → Int} (h : OutW w0 w1 a1 n c1 U a2 m c2 Q) :
 Vw (w1.alloc (.cells #[.int .i64 T, .int .i64 P, .slice a1 n c1, .slice a2 m c2] 26)) w0.heap.size (w1.heap.size + 1) w1.heap.size T P a1 n c1 U a2 m c2 Q := by
 have hE : Below w1.heap.size w1 (w1.alloc (.cells #[.int .i64 T, .int .i64 P, .slice a1 n c1, .slice a2 m c2] 26)) := (Below.refl _ _).alloc (Nat.le_refl _) _
 exact ⟨by go_simp, by go_simp, by go_simp, by go_simp, fun o => by go_simp, h.bel.size, by omega, by simp, h.ob.below hE, h.op.below hE, fun b e => by have := (h.ob.lt b e).2; omega, fun b e => by have := (h.op.lt b e).2; omega⟩
theorem Vw.out {wc : World} {lo hi bx : Nat} {T P : Int} {a1 : Option Addr} {n c1 : Nat} {U : Nat → Int} {a2 : Option Addr} {m c2 : Nat} {Q : Nat → Int} {w : World} {b : Nat} (h : Vw wc lo hi bx T P a1 n c1 U a2 m c2 Q) (hb : Below w.heap.size w wc) (h1 : w.heap.size ≤ b) (h2 : b < lo) (v0 v1 v2 v3 : Value) :
 OutW w ((((wc.setCell ⟨b, 0, none⟩ v0).setCell ⟨b, 1, none⟩ v1).setCell ⟨b, 2, none⟩ v2).setCell ⟨b, 3, none⟩ v3) a1 n c1 U a2 m c2 Q :=
 ⟨(((hb.setCell h1 _).setCell h1 _).setCell h1 _).setCell h1 _, ((((h.ob.setO h2 _).setO h2 _).setO h2 _).setO h2 _).base (B := w.heap.size) (by omega), ((((h.op.setO h2 _).setO h2 _).setO h2 _).setO h2 _).base (B := w.heap.size) (by omega), h.ob.neT h.op (by decide)⟩
theorem Vw.bods {wc : World} {lo hi bx : Nat} {T P : Int} {n c1 : Nat} {U : Nat → Int} {a2 : Option Addr} {m c2 : Nat} {Q : Nat → Int} {w' : World} {g : Nat} {U' : Nat → Int} (h : Vw wc lo hi bx T P (some ⟨g, 0, none⟩) n c1 U a2 m c2 Q) (hn : 0 < n) (hs : Fr (fun b => b = g) wc w') (ho : OwnL w' lo 41 12 (.slice (some ⟨g, 0, none⟩) n c1) n U') : Vw w' lo hi bx T P (some ⟨g, 0, none⟩) n c1 U' a2 m c2 Q := by
 have hg := h.t1 g rfl
 have nb : ¬ bx = g := fun e => hg.2 e.symm
 have k := fun o => hs.cell (p := ⟨bx, o, none⟩) h.blt nb
 exact ⟨(k 0).trans h.c0, (k 1).trans h.c1, (k 2).trans h.c2, (k 3).trans h.c3, fun o => (hs.frozen (p := ⟨bx, o, none⟩) h.blt nb).trans (h.nf o), h.bl, h.bh, Nat.le_trans h.le hs.size,
  ho, h.op.frame hs (fun b e x => h.ob.neT h.op (by decide) g rfl (x ▸ e)), h.t1, h.t2⟩
structure FmPush (w : World) (T P : Int) (a : Option Addr) (n c : Nat) (a' : Option Addr) (m c' : Nat) (x y : Int) (wr : World) : Prop where
 wd : WdR w T P a n c a' m c' wr
 big : w.heap.size + 1 + 1 < wr.heap.size
 r0 : wr.cell? ⟨w.heap.size + 1, 0, none⟩ = some (.int .i64 x)
 r1 : wr.cell? ⟨w.heap.size + 1, 1, none⟩ = some (.int .i64 y)
 z0 : wr.cell? ⟨w.heap.size + 1 + 1, 0, none⟩ = some (.int .i64 0)
 z1 : wr.cell? ⟨w.heap.size + 1 + 1, 1, none⟩ = some (.int .i64 0)
 z2 : wr.cell? ⟨w.heap.size + 1 + 1, 2, none⟩ = some (.slice none 0 0)
 z3 : wr.cell? ⟨w.heap.size + 1 + 1, 3, none⟩ = some (.slice none 0 0)
 nf : ∀ o, wr.frozen? ⟨w.heap.size + 1 + 1, o, none⟩ = false
theorem FmPush.on {w wr w' : World} {T P : Int} {a a' : Option Addr} {n c m c' : Nat} {x y : Int} (h : FmPush w T P a n c a' m c' x y wr) (hb : Below wr.heap.size wr w') : FmPush w T P a n c a' m c' x y w' :=
 have bg := h.big
 ⟨h.wd.on hb, Nat.lt_of_lt_of_le h.big hb.size, (hb.cell (p := ⟨w.heap.size + 1, 0, none⟩) (by simp; omega)).trans h.r0, (hb.cell (p := ⟨w.heap.size + 1, 1, none⟩) (by simp; omega)).trans h.r1, (hb.cell (p := ⟨w.heap.size + 1 + 1, 0, none⟩) bg).trans h.z0, (hb.cell (p := ⟨w.heap.size + 1 + 1, 1, none⟩) bg).trans h.z1, (hb.cell (p := ⟨w.heap.size + 1 + 1, 2, none⟩) bg).trans h.z2, (hb.cell (p := ⟨w.heap.size + 1 + 1, 3, none⟩) bg).trans h.z3, fun o => (hb.frozen (p := ⟨w.heap.size + 1 + 1, o, none⟩) bg).trans (h.nf o)⟩
theorem FmPush.fr {X : Nat → Prop} {w wr w' : World} {T P : Int} {a a' : Option Addr} {n c m c' : Nat} {x y : Int} (h : FmPush w T P a n c a' m c' x y wr) (hs : Fr X wr w') (hX : ∀ b, X b → w.heap.size + 1 + 1 < b) : FmPush w T P a n c a' m c' x y w' := by
 have bg := h.big
 have n0 : ¬ X w.heap.size := fun x => by have := hX _ x; omega
 have n1 : ¬ X (w.heap.size + 1) := fun x => by have := hX _ x; omega
 have n2 : ¬ X (w.heap.size + 1 + 1) := fun x => by have := hX _ x; omega
 have k0 := fun j => hs.cell (p := ⟨w.heap.size, j, none⟩) (by simp; omega) n0
 have k1 := fun j => hs.cell (p := ⟨w.heap.size + 1, j, none⟩) (by simp; omega) n1
 have k2 := fun j => hs.cell (p := ⟨w.heap.size + 1 + 1, j, none⟩) bg n2
 exact ⟨⟨h.wd.bel.trans (hs.below (by omega) (fun b x => by have := hX b x; omega)), Nat.lt_of_lt_of_le h.wd.big hs.size, (k0 0).trans h.wd.c0, (k0 1).trans h.wd.c1, (k0 2).trans h.wd.c2, (k0 3).trans h.wd.c3⟩, Nat.lt_of_lt_of_le bg hs.size, (k1 0).trans h.r0, (k1 1).trans h.r1, (k2 0).trans h.z0, (k2 1).trans h.z1, (k2 2).trans h.z2, (k2 3).trans h.z3, fun o => (hs.frozen (p := ⟨w.heap.size + 1 + 1, o, none⟩) bg n2).trans (h.nf o)⟩
theorem FmPush.start (w : World) (T P : Int) (a a' : Option Addr) (n c m c' : Nat) (x y : Int) : FmPush w T P a n c a' m c' x y (((w.alloc (Obj.cells #[.int .i64 T, .int .i64 P, .slice a n c, .slice a' m c'] 26)).alloc (Obj.cells #[.int .i64 x, .int .i64 y] 28)).alloc (Obj.cells #[.int .i64 0, .int .i64 0, .slice none 0 0, .slice none 0 0] 26)) :=
 ⟨⟨((((Below.refl _ _).alloc (Nat.le_refl _) _).alloc (by simp) _).alloc (by simp; try omega) _), by simp; try omega, by go_simp, by go_simp, by go_simp, by go_simp⟩, by simp, by go_simp, by go_simp, by go_simp, by go_simp, by go_simp, by go_simp, fun o => by go_simp⟩
def touchB (V L : Nat → Int) (k : Nat) : Bool := (toT (V 1) (V 2) (V 3) (V 4) (V 5) (L (k * 12 + 1)) (L (k * 12 + 2)) (L (k * 12 + 3)) (L (k * 12 + 4)) (L (k * 12 + 5))).2
def wakeR (V L : Nat → Int) (s k : Nat) : Nat → Int := fun q => if q < k * 12 ∧ q % 12 = 11 ∧ q / 12 ≠ s ∧ touchB V L (q / 12) = true ∧ L q = 8 then 0 else L q
theorem wakeR_0 (V L : Nat → Int) (s : Nat) : wakeR V L s 0 = L := by funext q; unfold wakeR; rw [if_neg (by omega)]
theorem wakeR_row (V L : Nat → Int) (s k j : Nat) : wakeR V L s k (k * 12 + j) = L (k * 12 + j) := by unfold wakeR; rw [if_neg (by omega)]
theorem wakeR_no {V L : Nat → Int} {s k : Nat} (h : ¬ (k ≠ s ∧ touchB V L k = true ∧ L (k * 12 + 11) = 8)) : wakeR V L s (k + 1) = wakeR V L s k := by
 funext q
 unfold wakeR
 by_cases e : q = k * 12 + 11
 · subst e
   have d : (k * 12 + 11) / 12 = k := by omega
   rw [d, if_neg (fun x => h ⟨x.2.2.1, x.2.2.2.1, x.2.2.2.2⟩), if_neg (by omega)]
 · by_cases l : q < k * 12
   · by_cases c : q % 12 = 11 ∧ q / 12 ≠ s ∧ touchB V L (q / 12) = true ∧ L q = 8
     · rw [if_pos ⟨by omega, c⟩, if_pos ⟨l, c⟩]
     · rw [if_neg (fun x => c x.2), if_neg (fun x => c x.2)]
   · rw [if_neg (fun x => by omega), if_neg (fun x => l x.1)]
theorem wakeR_yes {V L : Nat → Int} {s k : Nat} (h1 : k ≠ s) (h2 : touchB V L k = true) (h3 : L (k * 12 + 11) = 8) : (fun r => if r = k * 12 + 11 then 0 else wakeR V L s k r) = wakeR V L s (k + 1) := by
 funext q
 unfold wakeR
 by_cases e : q = k * 12 + 11
 · subst e
   have d : (k * 12 + 11) / 12 = k := by omega
   rw [d, if_pos rfl, if_pos ⟨by omega, by omega, h1, h2, h3⟩]
 · rw [if_neg e]
   by_cases l : q < k * 12
   · by_cases c : q % 12 = 11 ∧ q / 12 ≠ s ∧ touchB V L (q / 12) = true ∧ L q = 8
     · rw [if_pos ⟨l, c⟩, if_pos ⟨by omega, c⟩]
     · rw [if_neg (fun x => c x.2), if_neg (fun x => c x.2)]
   · rw [if_neg (fun x => l x.1), if_neg (fun x => by have := x.1; have := x.2.1; omega)]
def delU (U : Nat → Int) (p : Nat) : Nat → Int := fun q => if q < p * 12 then U q else U (q + 12)
theorem cat_del (U : Nat → Int) (p : Nat) : cat (p * 12) U (fun q => U (q + (p + 1) * 12)) = delU U p := by
 funext q
 unfold cat delU
 by_cases h : q < p * 12
 · rw [if_pos h, if_pos h]
 · rw [if_neg h, if_neg h]
   show U (q - p * 12 + (p + 1) * 12) = U (q + 12)
   rw [show q - p * 12 + (p + 1) * 12 = q + 12 by omega]
theorem del_lo {U : Nat → Int} {p k j : Nat} (h : k < p) (hj : j < 12) : delU U p (k * 12 + j) = U (k * 12 + j) := by unfold delU; rw [if_pos (by omega)]
theorem del_hi {U : Nat → Int} {p k j : Nat} (h : p ≤ k) : delU U p (k * 12 + j) = U ((k + 1) * 12 + j) := by unfold delU; rw [if_neg (by omega), show k * 12 + j + 12 = (k + 1) * 12 + j by omega]
theorem touch_lo {V U : Nat → Int} {p k : Nat} (h : k < p) : touchB V (delU U p) k = touchB V U k := by
 unfold touchB; rw [del_lo h (by omega), del_lo h (by omega), del_lo h (by omega), del_lo h (by omega), del_lo h (by omega)]
theorem touch_hi {V U : Nat → Int} {p k : Nat} (h : p ≤ k) : touchB V (delU U p) k = touchB V U (k + 1) := by
 unfold touchB; rw [del_hi h, del_hi h, del_hi h, del_hi h, del_hi h]
theorem gone_eq (V U : Nat → Int) (p n : Nat) : ∀ q, q < (n - 1) * 12 → wakeR V (delU U p) n (n - 1) q = delU (wakeR V U p n) p q := by
 intro q hq
 by_cases l : q < p * 12
 · have e1 : delU (wakeR V U p n) p q = wakeR V U p n q := by unfold delU; rw [if_pos l]
   have e2 : delU U p q = U q := by unfold delU; rw [if_pos l]
   rw [e1]
   unfold wakeR
   rw [e2, touch_lo (by omega)]
   by_cases c : q % 12 = 11 ∧ touchB V U (q / 12) = true ∧ U q = 8
   · rw [if_pos ⟨by omega, c.1, by omega, c.2.1, c.2.2⟩, if_pos ⟨by omega, c.1, by omega, c.2.1, c.2.2⟩]
   · rw [if_neg (fun x => c ⟨x.2.1, x.2.2.2.1, x.2.2.2.2⟩), if_neg (fun x => c ⟨x.2.1, x.2.2.2.1, x.2.2.2.2⟩)]
 · have e1 : delU (wakeR V U p n) p q = wakeR V U p n (q + 12) := by unfold delU; rw [if_neg l]
   have e2 : delU U p q = U (q + 12) := by unfold delU; rw [if_neg l]
   rw [e1]
   unfold wakeR
   rw [e2, touch_hi (by omega), show (q + 12) % 12 = q % 12 by omega, show (q + 12) / 12 = q / 12 + 1 by omega]
   by_cases c : q % 12 = 11 ∧ touchB V U (q / 12 + 1) = true ∧ U (q + 12) = 8
   · rw [if_pos ⟨by omega, c.1, by omega, c.2.1, c.2.2⟩, if_pos ⟨by omega, c.1, by omega, c.2.1, c.2.2⟩]
   · rw [if_neg (fun x => c ⟨x.2.1, x.2.2.2.1, x.2.2.2.2⟩), if_neg (fun x => c ⟨x.2.1, x.2.2.2.1, x.2.2.2.2⟩)]
def gnB (Q : Nat → Int) (id : Int) (k : Nat) : Bool := !(decide (Q (k * 2) = id) || decide (Q (k * 2 + 1) = id))
def gnL (Q : Nat → Int) (id : Int) : Nat → List Int
 | 0 => []
 | k + 1 => gnL Q id k ++ (if gnB Q id k = true then [Q (k * 2), Q (k * 2 + 1)] else [])
theorem gnL_yes {Q : Nat → Int} {id : Int} {k : Nat} (h : gnB Q id k = true) : gnL Q id (k + 1) = gnL Q id k ++ [Q (k * 2), Q (k * 2 + 1)] := by rw [gnL, if_pos h]
theorem gnL_no {Q : Nat → Int} {id : Int} {k : Nat} (h : gnB Q id k = false) : gnL Q id (k + 1) = gnL Q id k := by rw [gnL, if_neg (by rw [h]; decide), List.append_nil]
theorem gnL_len (Q : Nat → Int) (id : Int) : ∀ k, (gnL Q id k).length ≤ k * 2
 | 0 => by simp [gnL]
 | k + 1 => by
  have := gnL_len Q id k
  cases h : gnB Q id k with
  | true => rw [gnL_yes h, List.length_append]; simp; omega
  | false => rw [gnL_no h]; omega
def goneWA (T P : Int) (n : Nat) (U : Nat → Int) (m : Nat) (Q : Nat → Int) (id : Int) (p : Nat) : WA :=
 bif worldB T P n U m Q then (bif decide (p < n ∧ U (p * 12) = id) then ⟨T, P, n - 1, delU (wakeR (fun j => U (p * 12 + j)) U p n) p, (gnL Q id m).length / 2, ofL (gnL Q id m), 0⟩ else ⟨T, P, n, U, m, Q, 4⟩) else WA.none
theorem flatHead {wz : World} {b o n k : Nat} {U : Nat → Int} (q : Flat wz (some ⟨b, o, none⟩) (n * 12) U) (hk : k < n) : Flat wz (some ⟨b, o, none⟩) (k * 12) U := fun h0 => by
 obtain ⟨b', o', e, l, cc⟩ := q (by omega)
 exact ⟨b', o', e, l, fun q hq => cc q (by omega)⟩
theorem flatTail {wz : World} {b o n k c : Nat} {U : Nat → Int} {at2 : Option Addr} (hat2 : (if c = k + 1 then some (⟨b, o, none⟩ : Addr) else some ⟨b, o + (k + 1) * 12, none⟩) = at2) (hnc : n ≤ c) (q : Flat wz (some ⟨b, o, none⟩) (n * 12) U) : Flat wz at2 ((n - (k + 1)) * 12) (fun q => U (q + (k + 1) * 12)) := fun h0 => by
 obtain ⟨b', o', e, l, cc⟩ := q (by omega)
 simp only [Option.some.injEq, Addr.mk.injEq, and_true] at e
 obtain ⟨rfl, rfl⟩ := e
 refine ⟨b, o + (k + 1) * 12, by rw [← hat2, if_neg (by omega)], l, fun q hq => ?_⟩
 rw [show o + (k + 1) * 12 + q = o + (q + (k + 1) * 12) by omega]
 exact cc _ (by omega)
theorem Vw.top {wc : World} {lo hi bx : Nat} {T P : Int} {a1 : Option Addr} {n c1 : Nat} {U : Nat → Int} {a2 : Option Addr} {m c2 : Nat} {Q : Nat → Int} (h : Vw wc lo hi bx T P a1 n c1 U a2 m c2 Q) : Vw wc lo wc.heap.size bx T P a1 n c1 U a2 m c2 Q :=
 ⟨h.c0, h.c1, h.c2, h.c3, h.nf, h.bl, h.blt, Nat.le_refl _, h.ob, h.op, fun b e => ⟨(h.ob.lt b e).2, (h.t1 b e).2⟩, fun b e => ⟨(h.op.lt b e).2, (h.t2 b e).2⟩⟩
theorem Vw.onT {wc w' : World} {lo bx : Nat} {T P : Int} {a1 : Option Addr} {n c1 : Nat} {U : Nat → Int} {a2 : Option Addr} {m c2 : Nat} {Q : Nat → Int} (h : Vw wc lo wc.heap.size bx T P a1 n c1 U a2 m c2 Q) (hb : Below wc.heap.size wc w') : Vw w' lo w'.heap.size bx T P a1 n c1 U a2 m c2 Q := (h.on hb).top
theorem Vw.setP {wc w1 : World} {lo bx : Nat} {T P : Int} {a1 : Option Addr} {n c1 : Nat} {U : Nat → Int} {a2 : Option Addr} {m c2 : Nat} {Q : Nat → Int} {a3 : Option Addr} {m3 c3 : Nat} {Q3 : Nat → Int} (h : Vw wc lo wc.heap.size bx T P a1 n c1 U a2 m c2 Q) (hg : wc.grownBy w1 (Value.slice a2 m c2).ownBlock) (ho : OwnL w1 lo 58 2 (.slice a3 m3 c3) m3 Q3)
 (hx : ∀ b, (Value.slice a3 m3 c3).ownBlock = some b → b ≠ bx) : Vw (w1.setCell ⟨bx, 3, none⟩ (.slice a3 m3 c3)) lo w1.heap.size bx T P a1 n c1 U a3 m3 c3 Q3 := by
 have hset := cset_map
 have hF : Fr (fun b => (Value.slice a2 m c2).ownBlock = some b) wc w1 := Fr.grown hg (fun b e => e) h.op.isCells
 have nb : ¬ (Value.slice a2 m c2).ownBlock = some bx := fun e => (h.t2 bx e).2 rfl
 have k := fun o => hF.cell (p := ⟨bx, o, none⟩) h.blt nb
 have kf := fun o => hF.frozen (p := ⟨bx, o, none⟩) h.blt nb
 have z0 := (k 0).trans h.c0
 have z1 := (k 1).trans h.c1
 have z2 := (k 2).trans h.c2
 have z3 := (k 3).trans h.c3
 have zf := fun o => (kf o).trans (h.nf o)
 clear k kf
 have hs : Fr (fun b => b = bx) w1 (w1.setCell ⟨bx, 3, none⟩ (.slice a3 m3 c3)) := Fr.setCell (X := fun b => b = bx) rfl _
 have ob1 := h.ob.frame hF (fun b e x => h.ob.neT h.op (by decide) b e x)
 refine ⟨by go_simp, by go_simp, by go_simp, by go_simp, fun o => by go_simp, h.bl, Nat.lt_of_lt_of_le h.blt hF.size, hs.size, ob1.frame hs (fun b e x => (h.t1 b e).2 x), ho.frame hs (fun b e x => hx b e x), fun b e => ⟨(ob1.lt b e).2, (h.t1 b e).2⟩, fun b e => ⟨(ho.lt b e).2, hx b e⟩⟩
theorem Vw.congrQ {wc : World} {lo hi bx : Nat} {T P : Int} {a1 : Option Addr} {n c1 : Nat} {U : Nat → Int} {a2 : Option Addr} {m c2 : Nat} {Q Q' : Nat → Int} (h : Vw wc lo hi bx T P a1 n c1 U a2 m c2 Q) (e : ∀ q, q < m * 2 → Q q = Q' q) : Vw wc lo hi bx T P a1 n c1 U a2 m c2 Q' :=
 ⟨h.c0, h.c1, h.c2, h.c3, h.nf, h.bl, h.bh, h.le, h.ob, h.op.congr e, h.t1, h.t2⟩
theorem Vw.congrU {wc : World} {lo hi bx : Nat} {T P : Int} {a1 : Option Addr} {n c1 : Nat} {U U' : Nat → Int} {a2 : Option Addr} {m c2 : Nat} {Q : Nat → Int} (h : Vw wc lo hi bx T P a1 n c1 U a2 m c2 Q) (e : ∀ q, q < n * 12 → U q = U' q) : Vw wc lo hi bx T P a1 n c1 U' a2 m c2 Q :=
 ⟨h.c0, h.c1, h.c2, h.c3, h.nf, h.bl, h.bh, h.le, h.ob.congr e, h.op, h.t1, h.t2⟩
theorem wpList_appk {P : Program} {ops : Array Oper} {o : Oper} {a : Act} {w : World} {Q : Exit → Act → World → Prop} {rest : List Oper} (hgd : o.guard = none) (s x : Operand) (t : TypeId)
 (ho : o.op = .call { callee := .builtin .append, args := #[s, x], argTypes := #[t, t] })
 (base e k bytes : Nat) (z : Value) (ht : P.underlying t = some (.slice e)) (hinfo : (P.info? e).map (fun i => (i.zero, i.size, i.bytes)) = some (some z, k, bytes)) (hzs : z.cells.size = k) (hk : 0 < k)
 (v : Value) (n : Nat) (U : Nat → Int) (hs : a.eval s = v) (h : OwnL w base e k v n U) (B c : Nat) (X : Nat → Int) (hx : a.eval x = .slice (some ⟨B, 0, none⟩) 1 c) (hv : ∀ q, q < k → w.cell? ⟨B, q, none⟩ = some (.int .i64 (X q)))
 (h63 : n + 1 ≤ maxLen) (hbytes : (n + 1) * bytes ≤ 140737488355328) (hbase : base ≤ w.heap.size) (H : Nat) (hH : w.heap.size = H)
 (hK : ∀ g cap w', OwnL w' base e k (.slice (some ⟨g, 0, none⟩) (n + 1) cap) (n + 1) (cat (n * k) U X) → w.grownBy w' v.ownBlock → (v.ownBlock = some g ∨ g = H) → g < w'.heap.size → wpList P ops Q rest (a.put o.dst (.slice (some ⟨g, 0, none⟩) (n + 1) cap)) w') : wpList P ops Q (o :: rest) a w :=
 wpList_plain hgd fun K hK' => by
  have q := step_appk (ops := ops) (K := K) (Q := Q) (E := True) hgd s x t ho base e k bytes z ht hinfo hzs hk v n U hs h B c X hx hv h63 hbytes hbase H hH (fun g cap w' h1 h2 h3 h4 => hK' _ _ (hK g cap w' h1 h2 h3 h4))
  rwa [if_pos (by simp [Region.wanted, hgd])] at q
end Go.Proofs.YthijeiehcdoidaaGreat
