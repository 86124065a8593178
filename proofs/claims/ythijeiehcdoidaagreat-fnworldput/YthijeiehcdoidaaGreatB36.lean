/- Texts of a proof. -/
import Derived.Test.YthijeiehcdoidaaGreatS10s
import Derived.Test.YthijeiehcdoidaaGreatDrawGb
import Derived.Deep.RegionHeld3
import Derived.Deep.DeepCutAuto
import Derived.Test.YthijeiehcdoidaaGreatB35
set_option maxHeartbeats 16000000
set_option maxRecDepth 20000
namespace Go.Proofs.YthijeiehcdoidaaGreat
open Go.RowKit
set_option linter.unusedVariables false
set_option linter.unusedSimpArgs false
theorem setBlk {w : World} {b i : Nat} {cs : Array Value} {t : TypeId} {fr : Nat × Nat} (h : w.heap[b]? = some (.cells cs t fr)) (v : Value) : (w.setCell ⟨b, i, none⟩ v).heap[b]? = some (.cells (cs.setIfInBounds i v) t fr) := by
 show (w.heap.modify b _)[b]? = _
 rw [Array.getElem?_modify, if_pos rfl, h]
 rfl
def Wb (w : World) (b : Nat) (v0 v1 v2 v3 : Value) : Prop := w.heap[b]? = some (.cells #[v0, v1, v2, v3] 26 (0, 0))
theorem Wb.lt {w : World} {b : Nat} {v0 v1 v2 v3 : Value} (h : Wb w b v0 v1 v2 v3) : b < w.heap.size := by
 rcases Nat.lt_or_ge b w.heap.size with q | q
 · exact q
 · unfold Wb at h; rw [Array.getElem?_eq_none q] at h; cases h
theorem Wb.vb {w : World} {b : Nat} {v0 v1 v2 v3 : Value} (h : Wb w b v0 v1 v2 v3) : Vb w b v0 v1 v2 v3 := by
 have hl := h.lt
 unfold Wb at h
 exact ⟨by simp [World.cell?, h], by simp [World.cell?, h], by simp [World.cell?, h], by simp [World.cell?, h], fun o => by simp [World.frozen?, h], hl⟩
theorem Wb.but {w w' : World} {b rb : Nat} {v0 v1 v2 v3 : Value} (h : Wb w b v0 v1 v2 v3) (hb : But rb w w') (hn : b ≠ rb) : Wb w' b v0 v1 v2 v3 := (hb.block b h.lt hn).trans h
theorem Wb.on {w w' : World} {b : Nat} {v0 v1 v2 v3 : Value} (h : Wb w b v0 v1 v2 v3) (hb : Below w.heap.size w w') : Wb w' b v0 v1 v2 v3 := (hb.block b h.lt).trans h
theorem Wb.new (w : World) (v0 v1 v2 v3 : Value) : Wb (w.alloc (.cells #[v0, v1, v2, v3] 26)) w.heap.size v0 v1 v2 v3 := by show (w.heap.push _)[w.heap.size]? = _; simp
theorem Wb.far {w : World} {b b' o : Nat} {v0 v1 v2 v3 : Value} (h : Wb w b v0 v1 v2 v3) (hn : b ≠ b') (v : Value) : Wb (w.setCell ⟨b', o, none⟩ v) b v0 v1 v2 v3 := (Below.heap_setCell w ⟨b', o, none⟩ v b hn).trans h
theorem Wb.set0 {w : World} {b : Nat} {v0 v1 v2 v3 : Value} (h : Wb w b v0 v1 v2 v3) (v : Value) : Wb (w.setCell ⟨b, 0, none⟩ v) b v v1 v2 v3 := setBlk h v
theorem Wb.set1 {w : World} {b : Nat} {v0 v1 v2 v3 : Value} (h : Wb w b v0 v1 v2 v3) (v : Value) : Wb (w.setCell ⟨b, 1, none⟩ v) b v0 v v2 v3 := setBlk h v
theorem Wb.set2 {w : World} {b : Nat} {v0 v1 v2 v3 : Value} (h : Wb w b v0 v1 v2 v3) (v : Value) : Wb (w.setCell ⟨b, 2, none⟩ v) b v0 v1 v v3 := setBlk h v
theorem Wb.set3 {w : World} {b : Nat} {v0 v1 v2 v3 : Value} (h : Wb w b v0 v1 v2 v3) (v : Value) : Wb (w.setCell ⟨b, 3, none⟩ v) b v0 v1 v2 v := setBlk h v
theorem Wb.ne {w : World} {b base t k n : Nat} {v0 v1 v2 v3 v : Value} {U : Nat → Int} (h : Wb w b v0 v1 v2 v3) (ho : OwnL w base t k v n U) (ht : t ≠ 26) : ∀ g, v.ownBlock = Option.some g → g ≠ b := by
 intro g e q
 subst q
 rcases ho.2 with ⟨hv, _⟩ | ⟨g', cap, cur, hv, hb, hg, _⟩
 · subst hv; simp [Value.ownBlock] at e
 · subst hv
   simp [Value.ownBlock] at e
   subst e
   unfold Wb at h
   rw [h] at hg
   simp only [Option.some.injEq, Obj.cells.injEq] at hg
   exact ht hg.2.1.symm
theorem sWorldNew_k (P : Int) (w : World) (hP : 0 ≤ P ∧ P ≤ 2560) :
 Calls Tryz.prog 81 #[.int .i64 P] w fun e w' => e = .returned (worldW 0 P none 0 0 none 0 0) ∧ Below w.heap.size w w' := by
 have hset := cset_map
 have hV := (Wb.new w (.int .i64 0) (.int .i64 0) (.slice none 0 0) (.slice none 0 0)).vb
 have hE := (Below.refl w.heap.size w).alloc (Nat.le_refl _) (.cells #[.int .i64 0, .int .i64 0, .slice none 0 0, .slice none 0 0] 26)
 go_enter Tryz.func81, Tryz.ntmps81
 go_wp2_with (go_at_call 22; refine (l1In_q P 0 2560 true _ (decide_eq_true hP)).mono ?_; rintro e w1 ⟨rfl, hw1⟩; have hV1 := hV.on hw1; have y0 := hV1.c0; have y1 := hV1.c1; have y2 := hV1.c2; have y3 := hV1.c3; have yf := hV1.f)
 have hbw := ((((hE.trans (hw1.mono hE.size)).setCell (p := ⟨w.heap.size, 0, none⟩) (Nat.le_refl _) (.int .i64 0)).setCell (p := ⟨w.heap.size, 1, none⟩) (Nat.le_refl _) (.int .i64 P)).setCell (p := ⟨w.heap.size, 2, none⟩) (Nat.le_refl _) (.slice none 0 0)).setCell (p := ⟨w.heap.size, 3, none⟩) (Nat.le_refl _) (.slice none 0 0)
 exact bodyPost_ret (v := worldW 0 P none 0 0 none 0 0) (by simp [results, Tryz.results81, go_sem, *]) rfl ⟨rfl, hbw⟩
theorem RS.blw {w w' : World} {rb p : Nat} (h : RS w rb p) (k : Below w.heap.size w w') : RS w' rb p := h.upto k h.lt
structure Dw (w wr : World) (rb p base : Nat) (a : Option Addr) (n c : Nat) (U : Nat → Int) (a' : Option Addr) (m c' : Nat) (Q : Nat → Int) : Prop where
 rs : RS wr rb p
 but : But rb w wr
 lo : rb < w.heap.size
 hi : w.heap.size ≤ base
 sz : base ≤ wr.heap.size
 ob : OwnL wr base 41 12 (.slice a n c) n U
 op : OwnL wr base 58 2 (.slice a' m c') m Q
theorem Dw.call {w wr w1 : World} {rb p p1 base : Nat} {a : Option Addr} {n c : Nat} {U : Nat → Int} {a' : Option Addr} {m c' : Nat} {Q : Nat → Int} (h : Dw w wr rb p base a n c U a' m c' Q) (k : RB wr w1 rb p1) : Dw w w1 rb p1 base a n c U a' m c' Q :=
 ⟨RS.of k, h.but.trans k.but, h.lo, h.hi, Nat.le_trans h.sz k.size, h.ob.but k.but (Nat.lt_of_lt_of_le h.lo h.hi), h.op.but k.but (Nat.lt_of_lt_of_le h.lo h.hi)⟩
theorem Dw.mono {w wr : World} {rb p p1 base : Nat} {a : Option Addr} {n c : Nat} {U : Nat → Int} {a' : Option Addr} {m c' : Nat} {Q : Nat → Int} (h : Dw w wr rb p base a n c U a' m c' Q) (k : p ≤ p1) : Dw w wr rb p1 base a n c U a' m c' Q := ⟨h.rs.mono k, h.but, h.lo, h.hi, h.sz, h.ob, h.op⟩
theorem Dw.set {w wr : World} {rb p base b o : Nat} {a : Option Addr} {n c : Nat} {U : Nat → Int} {a' : Option Addr} {m c' : Nat} {Q : Nat → Int} (h : Dw w wr rb p base a n c U a' m c' Q) (h1 : w.heap.size ≤ b) (h2 : b < base) (v : Value) : Dw w (wr.setCell ⟨b, o, none⟩ v) rb p base a n c U a' m c' Q :=
 ⟨h.rs.setNew (by have := h.lo; show rb < b; omega) _, h.but.setNew h1 _, h.lo, h.hi, by simpa using h.sz, h.ob.setO h2 _, h.op.setO h2 _⟩
theorem Vb.but {w w' : World} {b rb : Nat} {v0 v1 v2 v3 : Value} (h : Vb w b v0 v1 v2 v3) (hb : But rb w w') (hn : b ≠ rb) : Vb w' b v0 v1 v2 v3 :=
 have k := fun o => hb.cell (p := ⟨b, o, none⟩) h.l hn
 ⟨(k 0).trans h.c0, (k 1).trans h.c1, (k 2).trans h.c2, (k 3).trans h.c3, fun o => (hb.frozen (p := ⟨b, o, none⟩) h.l hn).trans (h.f o), Nat.lt_of_lt_of_le h.l hb.size⟩
theorem l11World_w (rb p : Nat) (w : World) (hs0 : RS w rb p) (hp : p ≤ 500000) :
 Calls Tryz.prog 47 #[.pointer (some ⟨rb, 0, none⟩)] w fun e w' => ∃ (T P : Int) (a : Option Addr) (n c : Nat) (U : Nat → Int) (a' : Option Addr) (m c' : Nat) (Q : Nat → Int), e = .returned (worldW T P a n c a' m c') ∧ (n ≤ 12 ∧ m ≤ 432) ∧ Dw w w' rb (p + 31000) (w.heap.size + 1) a n c U a' m c' Q := by
 have hlt := hs0.lt
 have hset := cset_map
 have hE0 : Below w.heap.size w (w.alloc (.cells #[.int .i64 0, .int .i64 0, .slice none 0 0, .slice none 0 0] 26)) := (Below.refl _ _).alloc (Nat.le_refl _) _
 have hs1 := hs0.alloc (.cells #[.int .i64 0, .int .i64 0, .slice none 0 0, .slice none 0 0] 26)
 have hR : Vb (w.alloc (.cells #[.int .i64 0, .int .i64 0, .slice none 0 0, .slice none 0 0] 26)) w.heap.size (.int .i64 0) (.int .i64 0) (.slice none 0 0) (.slice none 0 0) := ⟨by go_simp, by go_simp, by go_simp, by go_simp, fun o => by go_simp, by simp⟩
 go_enter Tryz.func47, Tryz.ntmps47
 go_upto_region 1 with fail
 generalize w.alloc (.cells #[.int .i64 0, .int .i64 0, .slice none 0 0, .slice none 0 0] 26) = w0 at hE0 hs1 hR ⊢
 go_cut [3] (fun s3 wc => ∃ (xb : Nat) (P : Int), s3 = .pointer (some ⟨xb, 0, none⟩) ∧ w.heap.size < xb ∧ Vb wc xb (.int .i64 0) (.int .i64 P) (.slice none 0 0) (.slice none 0 0) ∧ Vb wc w.heap.size (.int .i64 0) (.int .i64 0) (.slice none 0 0) (.slice none 0 0) ∧ RS wc rb (p + 1) ∧ But rb w wc)
 case first =>
  go_wp2_with (first
   | (have _ := hr1; go_at_call 81; refine (sWorldNew_k v1 _ (by omega)).mono ?_; rintro e w2 ⟨rfl, hb2⟩)
   | (go_at_call 48; refine (one_s (0) 2560 rb p _ _ _ _ _ (by exact hs1) (by omega) (by repeat (first | exact AllBd.nil | refine AllBd.cons (by omega) (by omega) ?_)) (by rfl) (by omega) (by omega)).mono ?_; rintro e w1 ⟨v1, rfl, va1, vb1, hr1⟩))
  go_meet
  have hE : Below w2.heap.size w2 (w2.alloc (.cells #[.int .i64 0, .int .i64 v1, .slice none 0 0, .slice none 0 0] 26)) := (Below.refl _ _).alloc (Nat.le_refl _) _
  have hR2 := ((hR.but (RB.but hr1) (by omega)).on hb2)
  have hl := hR2.l
  exact ⟨_, v1, rfl, hl, ⟨by go_simp, by go_simp, by go_simp, by go_simp, fun o => by go_simp, by simp⟩, hR2.on hE, ((RS.of hr1).blw hb2).blw hE, (((But.of_below hE0).trans (RB.but hr1)).trans (But.of_below hb2)).trans (But.of_below hE)⟩
 case rest =>
 clear hE0 hs1 hR
 obtain ⟨xb, P, rfl, hxb, hX, hR, hrs, hbut⟩ := hcut
 have x0 := hX.c0
 have x1 := hX.c1
 have x2 := hX.c2
 have x3 := hX.c3
 have xf := hX.f
 go_upto_region 2 with fail
 go_cut [] (fun wc => ∃ (a : Option Addr) (n c : Nat) (U : Nat → Int), n ≤ 12 ∧ Vb wc xb (.int .i64 0) (.int .i64 P) (.slice a n c) (.slice none 0 0) ∧ Vb wc w.heap.size (.int .i64 0) (.int .i64 0) (.slice none 0 0) (.slice none 0 0) ∧ Dw w wc rb (p + 30001) (xb + 1) a n c U none 0 0 (fun _ => 0))
 case first =>
  have hxl := hX.l
  go_wp2_with (go_at_call 82; refine (l11Bodies_k rb (p + 1) _ hrs (by omega)).mono ?_; rintro e w2 ⟨a, n, c, U, rfl, hB, hD⟩; have hX2 := hX.but (RB.but hD.bl.done) (by omega); clear x0 x1 x2 x3 xf; have x0 := hX2.c0; have x1 := hX2.c1; have x2 := hX2.c2; have x3 := hX2.c3; have xf := hX2.f)
  go_meet
  have hR2 := hR.but (RB.but hD.bl.done) (by omega)
  have hDw : Dw w w2 rb (p + 30001) (xb + 1) a n c U none 0 0 (fun _ => 0) := ⟨(RS.of hD.bl.done).mono (by omega), hbut.trans (RB.but hD.bl.done), hlt, by omega, by have := hD.bl.but.size; omega, hD.own.base (by omega), OwnL.nil _ _ _ _ _⟩
  have hxl2 := hX2.l
  have hrl2 := hR2.l
  have hn1 : ¬ xb = w.heap.size := by omega
  have hn2 : ¬ w.heap.size = xb := by omega
  have r0 := hR2.c0
  have r1 := hR2.c1
  have r2 := hR2.c2
  have r3 := hR2.c3
  have rf := hR2.f
  exact ⟨a, n, c, U, hB.le, ⟨by go_simp, by go_simp, by go_simp, by go_simp, fun o => by go_simp, by simpa using hxl2⟩, ⟨by go_simp, by go_simp, by go_simp, by go_simp, fun o => by go_simp, by simpa using hrl2⟩, hDw.set (by omega) (by omega) _⟩
 case rest =>
 clear hX hR hrs hbut x0 x1 x2 x3 xf
 obtain ⟨a, n, c, U, hn12, hX, hR, hD⟩ := hcut
 go_upto_region 3 with fail
 go_cut [4] (fun s4 wc => ∃ r : Nat, s4 = .int .i64 (r : Int) ∧ r ≤ 3 ∧ Vb wc xb (.int .i64 0) (.int .i64 P) (.slice a n c) (.slice none 0 0) ∧ Vb wc w.heap.size (.int .i64 0) (.int .i64 0) (.slice none 0 0) (.slice none 0 0) ∧ Dw w wc rb (p + 30002) (xb + 1) a n c U none 0 0 (fun _ => 0))
 case first =>
  go_wp2_with (go_at_call 19; refine (pick_s rb (p + 30001) _ _ (by exact hD.rs) (by omega) (by omega) (by omega)).mono ?_; rintro e w3 ⟨v3, rfl, va3, vb3, hr3⟩)
  go_meet
  exact ⟨v3.toNat, by rw [Int.toNat_of_nonneg va3], by omega, hX.but (RB.but hr3) (by omega), hR.but (RB.but hr3) (by omega), hD.call hr3⟩
 case rest =>
 clear hX hR hD
 obtain ⟨r0, rfl, hr0, hX, hR, hD⟩ := hcut
 go_upto_region 4 with fail
 go_loopw [4] (fun s4 wr => ∃ (r : Nat) (T P : Int) (a : Option Addr) (n c : Nat) (U : Nat → Int) (a' : Option Addr) (m c' : Nat) (Q : Nat → Int), s4 = .int .i64 (r : Int) ∧ (r ≤ 3 ∧ n ≤ 12 ∧ m + r * 144 ≤ 432) ∧ Vb wr xb (.int .i64 T) (.int .i64 P) (.slice a n c) (.slice a' m c') ∧ Vb wr w.heap.size (.int .i64 0) (.int .i64 0) (.slice none 0 0) (.slice none 0 0) ∧ Dw w wr rb (p + 30002) (xb + 1) a n c U a' m c' Q) (fun s4 _ => (intOf s4).toNat)
 case atStart => exact ⟨r0, 0, P, a, n, c, U, none, 0, 0, (fun _ => 0), rfl, ⟨hr0, hn12, by omega⟩, hX, hR, hD⟩
 case round =>
  clear hX hR hD hn12 hr0
  obtain ⟨r, T, P', a, n, c, U, a', m, c', Q, rfl, ⟨hr3, hn12, hm⟩, hX, hR, hD⟩ := hrel
  have x0 := hX.c0
  have x1 := hX.c1
  have x2 := hX.c2
  have x3 := hX.c3
  have xf := hX.f
  have y0 := hR.c0
  have y1 := hR.c1
  have y2 := hR.c2
  have y3 := hR.c3
  have yf := hR.f
  have hn1 : ¬ xb = w.heap.size := by omega
  have hn2 : ¬ w.heap.size = xb := by omega
  by_cases hlr : 0 < r
  · have hri : (0 : Int) < (r : Int) := by omega
    go_wp2_with (go_at_call 83; refine (sWorldStep_w T P' a n c a' m c' U Q _ hD.ob.flat hD.op.flat (by omega) (by omega)).mono ?_; rintro e w5 ⟨T5, P5, a5, n5, c5, U5, a6, m6, c6, Q6, ev, rfl, ⟨hn5, hm6⟩, hO5⟩; have hX5 := hX.on hO5.bel; have hR5 := hR.on hO5.bel; clear x0 x1 x2 x3 xf y0 y1 y2 y3 yf; have x0 := hX5.c0; have x1 := hX5.c1; have x2 := hX5.c2; have x3 := hX5.c3; have xf := hX5.f; have y0 := hR5.c0; have y1 := hR5.c1; have y2 := hR5.c2; have y3 := hR5.c3; have yf := hR5.f)
    have hxl := hX5.l
    have hrl := hR5.l
    have hsz := hO5.bel.size
    have hxw := hX.l
    have hD5 : Dw w w5 rb (p + 30002) (xb + 1) a5 n5 c5 U5 a6 m6 c6 Q6 := ⟨hD.rs.blw hO5.bel, hD.but.trans (But.of_below hO5.bel), hlt, hD.hi, by omega, hO5.ob.base (by omega), hO5.op.base (by omega)⟩
    have hD6 := (((hD5.set (o := 0) (b := xb) (by omega) (by omega) (.int .i64 T5)).set (o := 1) (b := xb) (by omega) (by omega) (.int .i64 P5)).set (o := 2) (b := xb) (by omega) (by omega) (.slice a5 n5 c5)).set (o := 3) (b := xb) (by omega) (by omega) (.slice a6 m6 c6)
    go_roundw
    case rel => exact ⟨r - 1, T5, P5, a5, n5, c5, U5, a6, m6, c6, Q6, by first | go_num | (congr 1; omega), ⟨by omega, by omega, by omega⟩, ⟨by go_simp, by go_simp, by go_simp, by go_simp, fun o => by go_simp, by simpa using hxl⟩, ⟨by go_simp, by go_simp, by go_simp, by go_simp, fun o => by go_simp, by simpa using hrl⟩, hD6⟩
    case measure => simp [intOf]; omega
  · have hr00 : ¬ (0 : Int) < (r : Int) := by omega
    go_wp2_with fail
    have hD6 := (((hD.set (o := 0) (b := w.heap.size) (by omega) (by omega) (.int .i64 T)).set (o := 1) (b := w.heap.size) (by omega) (by omega) (.int .i64 P')).set (o := 2) (b := w.heap.size) (by omega) (by omega) (.slice a n c)).set (o := 3) (b := w.heap.size) (by omega) (by omega) (.slice a' m c')
    have hD7 : Dw w _ rb (p + 31000) (w.heap.size + 1) a n c U a' m c' Q := ⟨hD6.rs.mono (by omega), hD6.but, hD6.lo, by omega, by have := hD6.sz; omega, hD6.ob.base (by omega), hD6.op.base (by omega)⟩
    refine bodyPost_ret (v := worldW T P' a n c a' m c') (by simp [results, Tryz.results47, go_sem, *]) rfl ?_
    first | exact ⟨T, P', a, n, c, U, a', m, c', Q, rfl, ⟨hn12, by omega⟩, hD7⟩ | exact ⟨T, P', a, n, c, U, a', m, c', rfl, ⟨hn12, by omega⟩, Q, hD7⟩ | exact ⟨T, P', a, n, c, a', m, c', rfl, ⟨hn12, by omega⟩, U, Q, hD7⟩
structure Dx (w wr : World) (rb p xb : Nat) (v0 v1 : Value) (a : Option Addr) (n c : Nat) (U : Nat → Int) (a' : Option Addr) (m c' : Nat) (Q : Nat → Int) : Prop where
 rs : RS wr rb p
 but : But rb w wr
 lo : rb < w.heap.size
 hx : w.heap.size < xb
 v : Wb wr xb v0 v1 (.slice a n c) (.slice a' m c')
 r : Wb wr w.heap.size (.int .i64 0) (.int .i64 0) (.slice none 0 0) (.slice none 0 0)
 ob : OwnL wr (w.heap.size + 1) 41 12 (.slice a n c) n U
 op : OwnL wr (w.heap.size + 1) 58 2 (.slice a' m c') m Q
theorem Dx.call {w wr : World} {rb p xb : Nat} {v0 v1 : Value} {a : Option Addr} {n c : Nat} {U : Nat → Int} {a' : Option Addr} {m c' : Nat} {Q : Nat → Int} {w1 : World} {p1 : Nat} (h : Dx w wr rb p xb v0 v1 a n c U a' m c' Q) (k : RB wr w1 rb p1) : Dx w w1 rb p1 xb v0 v1 a n c U a' m c' Q :=
 have hl := h.lo
 have hx := h.hx
 ⟨RS.of k, h.but.trans k.but, h.lo, h.hx, h.v.but k.but (by omega), h.r.but k.but (by omega), h.ob.but k.but (by omega), h.op.but k.but (by omega)⟩
theorem Dx.mono {w wr : World} {rb p xb : Nat} {v0 v1 : Value} {a : Option Addr} {n c : Nat} {U : Nat → Int} {a' : Option Addr} {m c' : Nat} {Q : Nat → Int} {p1 : Nat} (h : Dx w wr rb p xb v0 v1 a n c U a' m c' Q) (k : p ≤ p1) : Dx w wr rb p1 xb v0 v1 a n c U a' m c' Q := ⟨h.rs.mono k, h.but, h.lo, h.hx, h.v, h.r, h.ob, h.op⟩
theorem Dx.on {w wr : World} {rb p xb : Nat} {v0 v1 : Value} {a : Option Addr} {n c : Nat} {U : Nat → Int} {a' : Option Addr} {m c' : Nat} {Q : Nat → Int} {w1 : World} (h : Dx w wr rb p xb v0 v1 a n c U a' m c' Q) (k : Below wr.heap.size wr w1) : Dx w w1 rb p xb v0 v1 a n c U a' m c' Q :=
 ⟨h.rs.blw k, h.but.trans (But.of_below k), h.lo, h.hx, h.v.on k, h.r.on k, h.ob.below k, h.op.below k⟩
theorem Dx.set0 {w wr : World} {rb p xb : Nat} {v0 v1 : Value} {a : Option Addr} {n c : Nat} {U : Nat → Int} {a' : Option Addr} {m c' : Nat} {Q : Nat → Int} (h : Dx w wr rb p xb v0 v1 a n c U a' m c' Q) (x : Value) : Dx w (wr.setCell ⟨xb, 0, none⟩ x) rb p xb x v1 a n c U a' m c' Q := ⟨h.rs.setNew (by have := h.lo; have := h.hx; show rb < xb; omega) _, h.but.setNew (show w.heap.size ≤ xb from Nat.le_of_lt h.hx) _, h.lo, h.hx, h.v.set0 x, h.r.far (by have := h.hx; omega) x, h.ob.frame (Fr.setCell (X := fun j => j = xb) rfl _) (fun b e x => h.v.ne h.ob (by decide) b e x), h.op.frame (Fr.setCell (X := fun j => j = xb) rfl _) (fun b e x => h.v.ne h.op (by decide) b e x)⟩
theorem Dx.set1 {w wr : World} {rb p xb : Nat} {v0 v1 : Value} {a : Option Addr} {n c : Nat} {U : Nat → Int} {a' : Option Addr} {m c' : Nat} {Q : Nat → Int} (h : Dx w wr rb p xb v0 v1 a n c U a' m c' Q) (x : Value) : Dx w (wr.setCell ⟨xb, 1, none⟩ x) rb p xb v0 x a n c U a' m c' Q := ⟨h.rs.setNew (by have := h.lo; have := h.hx; show rb < xb; omega) _, h.but.setNew (show w.heap.size ≤ xb from Nat.le_of_lt h.hx) _, h.lo, h.hx, h.v.set1 x, h.r.far (by have := h.hx; omega) x, h.ob.frame (Fr.setCell (X := fun j => j = xb) rfl _) (fun b e x => h.v.ne h.ob (by decide) b e x), h.op.frame (Fr.setCell (X := fun j => j = xb) rfl _) (fun b e x => h.v.ne h.op (by decide) b e x)⟩
theorem Dx.set2 {w wr : World} {rb p xb : Nat} {v0 v1 : Value} {a : Option Addr} {n c : Nat} {U : Nat → Int} {a' : Option Addr} {m c' : Nat} {Q : Nat → Int} {a3 : Option Addr} {n3 c3 : Nat} {U3 : Nat → Int} (h : Dx w wr rb p xb v0 v1 a n c U a' m c' Q) (ho : OwnL wr (w.heap.size + 1) 41 12 (.slice a3 n3 c3) n3 U3) : Dx w (wr.setCell ⟨xb, 2, none⟩ (.slice a3 n3 c3)) rb p xb v0 v1 a3 n3 c3 U3 a' m c' Q := ⟨h.rs.setNew (by have := h.lo; have := h.hx; show rb < xb; omega) _, h.but.setNew (show w.heap.size ≤ xb from Nat.le_of_lt h.hx) _, h.lo, h.hx, h.v.set2 _, h.r.far (by have := h.hx; omega) _, ho.frame (Fr.setCell (X := fun j => j = xb) rfl _) (fun b e x => h.v.ne ho (by decide) b e x), h.op.frame (Fr.setCell (X := fun j => j = xb) rfl _) (fun b e x => h.v.ne h.op (by decide) b e x)⟩
structure Dy (w wr : World) (rb p xb : Nat) (v0 v1 : Value) (a : Option Addr) (n c : Nat) (U : Nat → Int) (v3 : Value) (a' : Option Addr) (m c' : Nat) (Q : Nat → Int) : Prop where
 rs : RS wr rb p
 but : But rb w wr
 lo : rb < w.heap.size
 hx : w.heap.size < xb
 v : Wb wr xb v0 v1 (.slice a n c) v3
 r : Wb wr w.heap.size (.int .i64 0) (.int .i64 0) (.slice none 0 0) (.slice none 0 0)
 ob : OwnL wr (w.heap.size + 1) 41 12 (.slice a n c) n U
 op : OwnL wr (w.heap.size + 1) 58 2 (.slice a' m c') m Q
theorem Dx.app {w wr : World} {rb p xb : Nat} {v0 v1 : Value} {a : Option Addr} {n c : Nat} {U : Nat → Int} {a' : Option Addr} {m c' : Nat} {Q : Nat → Int} {w1 : World} {a3 : Option Addr} {m3 c3 : Nat} {Q3 : Nat → Int} (h : Dx w wr rb p xb v0 v1 a n c U a' m c' Q) (hg : wr.grownBy w1 (Value.slice a' m c').ownBlock) (ho : OwnL w1 (w.heap.size + 1) 58 2 (.slice a3 m3 c3) m3 Q3) : Dy w w1 rb p xb v0 v1 a n c U (.slice a' m c') a3 m3 c3 Q3 := by
 have hsz := h.but.size
 have hlo := h.lo
 have hrl := h.r.lt
 have hB : Below (w.heap.size + 1) wr w1 := (Below.refl (w.heap.size + 1) wr).grown hg (by omega) (fun b e => (h.op.lt b e).1)
 exact ⟨h.rs.upto hB (by omega), ⟨hB.os.trans h.but.os, hB.tape.trans h.but.tape, hB.output.trans h.but.output, Nat.le_trans hsz hB.size, fun k hk hn => (hB.block k (by omega)).trans (h.but.block k hk hn)⟩, h.lo, h.hx,
  (hg.block xb h.v.lt (fun e => h.v.ne h.op (by decide) xb e.symm rfl)).trans h.v, (hB.block _ (by omega)).trans h.r, h.ob.keptT h.op (by decide) hg, ho⟩
theorem Dy.set3 {w wr : World} {rb p xb : Nat} {v0 v1 : Value} {a : Option Addr} {n c : Nat} {U : Nat → Int} {a' : Option Addr} {m c' : Nat} {Q : Nat → Int} {v3 : Value} (h : Dy w wr rb p xb v0 v1 a n c U v3 a' m c' Q) : Dx w (wr.setCell ⟨xb, 3, none⟩ (.slice a' m c')) rb p xb v0 v1 a n c U a' m c' Q := ⟨h.rs.setNew (by have := h.lo; have := h.hx; show rb < xb; omega) _, h.but.setNew (show w.heap.size ≤ xb from Nat.le_of_lt h.hx) _, h.lo, h.hx, h.v.set3 _, h.r.far (by have := h.hx; omega) _, h.ob.frame (Fr.setCell (X := fun j => j = xb) rfl _) (fun b e x => h.v.ne h.ob (by decide) b e x), h.op.frame (Fr.setCell (X := fun j => j = xb) rfl _) (fun b e x => h.v.ne h.op (by decide) b e x)⟩
theorem l11AnyWorld_w (rb p : Nat) (w : World) (hs0 : RS w rb p) (hp : p ≤ 400000) :
 Calls Tryz.prog 17 #[.pointer (some ⟨rb, 0, none⟩)] w fun e w' => ∃ (T P : Int) (a : Option Addr) (n c : Nat) (U : Nat → Int) (a' : Option Addr) (m c' : Nat) (Q : Nat → Int), e = .returned (worldW T P a n c a' m c') ∧ (n ≤ 13 ∧ m ≤ 433) ∧ Dw w w' rb (p + 71100) (w.heap.size + 1) a n c U a' m c' Q := by
 have hlt := hs0.lt
 have hset := cset_map
 have hE0 : Below w.heap.size w (w.alloc (.cells #[.int .i64 0, .int .i64 0, .slice none 0 0, .slice none 0 0] 26)) := (Below.refl _ _).alloc (Nat.le_refl _) _
 have hs1 := hs0.alloc (.cells #[.int .i64 0, .int .i64 0, .slice none 0 0, .slice none 0 0] 26)
 have hR := Wb.new w (.int .i64 0) (.int .i64 0) (.slice none 0 0) (.slice none 0 0)
 go_enter Tryz.func17, Tryz.ntmps17
 go_upto_region 1 with fail
 generalize w.alloc (.cells #[.int .i64 0, .int .i64 0, .slice none 0 0, .slice none 0 0] 26) = w0 at hE0 hs1 hR ⊢
 go_cut [3] (fun s3 wc => ∃ (xb : Nat) (T P : Int) (a : Option Addr) (n c : Nat) (U : Nat → Int) (a' : Option Addr) (m c' : Nat) (Q : Nat → Int), s3 = .pointer (some ⟨xb, 0, none⟩) ∧ (n ≤ 12 ∧ m ≤ 432) ∧ Dx w wc rb (p + 31000) xb (.int .i64 T) (.int .i64 P) a n c U a' m c' Q)
 case first =>
  go_wp2_with (first
   | (have _ := hD1; go_at_call 37; refine (l10Copy_any T P a n c U a' m c' Q _ hD1.ob.flat hD1.op.flat (by omega) (by omega)).mono ?_; rintro e w2 ⟨a1, k1, a2, k2, rfl, hO2⟩)
   | (go_at_call 47; refine (l11World_w rb p _ hs1 (by omega)).mono ?_; rintro e w1 ⟨T, P, a, n, c, U, a', m, c', Q, rfl, ⟨hn, hm⟩, hD1⟩))
  go_meet
  have hE : Below w2.heap.size w2 (w2.alloc (.cells #[.int .i64 T, .int .i64 P, .slice a1 n k1, .slice a2 m k2] 26)) := (Below.refl _ _).alloc (Nat.le_refl _) _
  have hbut : But rb w w1 := (But.of_below hE0).trans hD1.but
  have hz0 := hR.lt
  have hz1 := hD1.but.size
  have hz2 := hO2.bel.size
  exact ⟨w2.heap.size, T, P, a1, n, k1, U, a2, m, k2, Q, rfl, ⟨hn, hm⟩, (hD1.rs.blw hO2.bel).blw hE, (hbut.trans (But.of_below hO2.bel)).trans (But.of_below hE), hlt, by omega, Wb.new _ _ _ _ _, ((hR.but hD1.but (by omega)).on hO2.bel).on hE, (hO2.ob.base (by omega)).below hE, (hO2.op.base (by omega)).below hE⟩
 case rest =>
 clear hE0 hs1 hR
 obtain ⟨xb, T, P, a, n, c, U, a', m, c', Q, rfl, ⟨hn, hm⟩, hD⟩ := hcut
 go_upto_region 2 with fail
 go_cut [8] (fun s8 wc => ∃ v : Int, s8 = .int .i64 v ∧ Dx w wc rb (p + 31001) xb (.int .i64 T) (.int .i64 P) a n c U a' m c' Q)
 case first =>
  go_wp2_with (go_at_call 19; refine (pick_s rb (p + 31000) _ _ (by exact hD.rs) (by omega) (by omega) (by omega)).mono ?_; rintro e w2 ⟨v2, rfl, va2, vb2, hr2⟩)
  go_meet
  exact ⟨_, rfl, hD.call hr2⟩
 case rest =>
 clear hD
 obtain ⟨v, rfl, hD⟩ := hcut
 rename_i hKK
 refine hKK _ _ ?_
 go_cut [] (fun wc => ∃ (T P : Int) (a : Option Addr) (n c : Nat) (U : Nat → Int) (a' : Option Addr) (m c' : Nat) (Q : Nat → Int), (n ≤ 13 ∧ m ≤ 433) ∧ Dx w wc rb (p + 71100) xb (.int .i64 T) (.int .i64 P) a n c U a' m c' Q)
 case first =>
  have x0 := hD.v.vb.c0
  have x1 := hD.v.vb.c1
  have x2 := hD.v.vb.c2
  have x3 := hD.v.vb.c3
  have xf := hD.v.vb.f
  by_cases e0 : v = 0
  · have e1 : (v == 0) = true := by simp [e0]
    clear e0
    go_wp2_with (go_at_call 48; refine (one_s (-1) 100001 rb (p + 31001) _ _ _ _ _ (by exact hD.rs) (by omega) (by repeat (first | exact AllBd.nil | refine AllBd.cons (by omega) (by omega) ?_)) (by rfl) (by omega) (by omega)).mono ?_; rintro e w4 ⟨v4, rfl, va4, vb4, hr4⟩; have hD4 := hD.call hr4; clear x0 x1 x2 x3 xf; have x0 := hD4.v.vb.c0; have x1 := hD4.v.vb.c1; have x2 := hD4.v.vb.c2; have x3 := hD4.v.vb.c3; have xf := hD4.v.vb.f)
    go_meet
    exact ⟨_, _, _, _, _, _, _, _, _, _, ⟨by omega, by omega⟩, (hD4.set0 _).mono (by omega)⟩
  · have e1 : (v == 0) = false := by simp [e0]
    clear e0
    by_cases e0 : v = 1
    · have e2 : (v == 1) = true := by simp [e0]
      clear e0
      go_wp2_with (go_at_call 48; refine (one_s (-1) 2561 rb (p + 31001) _ _ _ _ _ (by exact hD.rs) (by omega) (by repeat (first | exact AllBd.nil | refine AllBd.cons (by omega) (by omega) ?_)) (by rfl) (by omega) (by omega)).mono ?_; rintro e w4 ⟨v4, rfl, va4, vb4, hr4⟩; have hD4 := hD.call hr4; clear x0 x1 x2 x3 xf; have x0 := hD4.v.vb.c0; have x1 := hD4.v.vb.c1; have x2 := hD4.v.vb.c2; have x3 := hD4.v.vb.c3; have xf := hD4.v.vb.f)
      go_meet
      exact ⟨_, _, _, _, _, _, _, _, _, _, ⟨by omega, by omega⟩, (hD4.set1 _).mono (by omega)⟩
    · have e2 : (v == 1) = false := by simp [e0]
      clear e0
      by_cases e0 : v = 2
      · have e3 : (v == 2) = true := by simp [e0]
        clear e0
        go_wp2_with (go_at_call 49; refine (l11AnyBodies_k rb (p + 31001) _ (by exact hD.rs) (by omega)).mono ?_; rintro e w4 ⟨a4, n4, c4, U4, rfl, hL4, hD0⟩; have hD4 := hD.call hD0.bl.done; clear x0 x1 x2 x3 xf; have x0 := hD4.v.vb.c0; have x1 := hD4.v.vb.c1; have x2 := hD4.v.vb.c2; have x3 := hD4.v.vb.c3; have xf := hD4.v.vb.f)
        go_meet
        have hz := hD.r.lt
        exact ⟨_, _, _, _, _, _, _, _, _, _, ⟨hL4.1, by omega⟩, (hD4.set2 (hD0.own.base (by omega))).mono (by omega)⟩
      · have e3 : (v == 2) = false := by simp [e0]
        clear e0
        by_cases e0 : v = 3
        · have e4 : (v == 3) = true := by simp [e0]
          clear e0
          have y0 := hD.r.vb.c0
          go_upto_region 10 with fail
          refine wp_region_held_drew (S := fun w' => w'.cell? ⟨w.heap.size, 0, none⟩ = some (.int .i64 0)) (by kernel_rfl) ?_ (fun hHeld => ?_)
          · (try dsimp only)
            (first | (go_simp; done) | (go_keep; done))
          refine tq 0 hHeld ?_
          refine tq 2 hHeld ?_
          refine tq 4 hHeld ?_
          refine wpAnyH_ready (rs := [1, 3]) (by kernel_rfl) (by simp) ?_
          refine AllReadyH.cons rfl (fun K hK => ?_) (AllReadyH.cons rfl (fun K hK => ?_) AllReadyH.nil)
          · (go_simp
             refine tr hK (fun hHeld => ?_)
             clear hK K)
            refine tc 3 fun K hK => ?_
            (go_simp
             have hD1 := hD.on (Below.drew (Below.refl _ _))
             clear hD
             have hD := hD1
             clear hD1
             (go_at_call 19; refine (pick_s rb (p + 31001) _ _ (by exact hD.rs) (by omega) (by omega) (by omega)).mono ?_; rintro e w5 ⟨v5, rfl, va5, vb5, hr5⟩)
             have hD2 := hD.call hr5
             clear x0 x1 x2 x3 xf y0 hD hr5
             have hD := hD2
             clear hD2
             have x0 := hD.v.vb.c0
             have x1 := hD.v.vb.c1
             have x2 := hD.v.vb.c2
             have x3 := hD.v.vb.c3
             have xf := hD.v.vb.f
             have y0 := hD.r.vb.c0
             (try go_wp2_with fail)
             refine tr hK (fun hHeld => ?_)
             clear hK K)
            refine tc 5 fun K hK => ?_
            (go_simp
             (go_at_call 19; refine (pick_s rb (p + 31001 + 1) _ _ (by exact hD.rs) (by omega) (by omega) (by omega)).mono ?_; rintro e w6 ⟨v6, rfl, va6, vb6, hr6⟩)
             have hD2 := hD.call hr6
             clear x0 x1 x2 x3 xf y0 hD hr6
             have hD := hD2
             clear hD2
             have x0 := hD.v.vb.c0
             have x1 := hD.v.vb.c1
             have x2 := hD.v.vb.c2
             have x3 := hD.v.vb.c3
             have xf := hD.v.vb.f
             have y0 := hD.r.vb.c0
             (try go_wp2_with fail)
             refine tr hK (fun hHeld => ?_)
             clear hK K)
            refine tq 6 hHeld ?_
            refine tc 7 fun K hK => ?_
            (go_simp
             have hF : Flat (w6.alloc (Obj.cells #[.int .i64 v5, .int .i64 v6] 58)) (some ⟨w6.heap.size, 0, none⟩) (1 * 2) (ofL [v5, v6]) := flat2 w6 _ _ _
             have hD2 := hD.on (balloc w6 (Obj.cells #[.int .i64 v5, .int .i64 v6] 58))
             clear x0 x1 x2 x3 xf y0 hD
             have hD := hD2
             clear hD2
             generalize w6.alloc (Obj.cells #[.int .i64 v5, .int .i64 v6] 58) = w7 at hD hF ⊢
             generalize w6.heap.size = eb at hF ⊢
             have x0 := hD.v.vb.c0
             have x1 := hD.v.vb.c1
             have x2 := hD.v.vb.c2
             have x3 := hD.v.vb.c3
             have xf := hD.v.vb.f
             have y0 := hD.r.vb.c0
             refine tr hK (fun hHeld => ?_)
             clear hK K)
            refine tc 8 fun K hK => ?_
            (have hsz7 : w.heap.size + 1 ≤ w7.heap.size := by have := hD.r.lt; omega
             refine step_app rfl _ _ _ rfl (w.heap.size + 1) 58 2 16 zcPair Tryz.underlying24 infoItPair rfl (by decide) (.slice a' m c') m Q rfl hD.op (some ⟨eb, 0, none⟩) 1 1 (ofL [v5, v6]) rfl hF (by unfold maxLen; omega) (by omega) hsz7 ?_
             intro a7 c7 w8 ho7 hg7
             have hY := hD.app hg7 ho7
             clear x0 x1 x2 x3 xf y0 hD hF ho7 hg7 hsz7
             have x0 := hY.v.vb.c0
             have x1 := hY.v.vb.c1
             have x2 := hY.v.vb.c2
             have x3 := hY.v.vb.c3
             have xf := hY.v.vb.f
             have y0 := hY.r.vb.c0
             refine tr hK (fun hHeld => ?_)
             clear hK K)
            refine tq 9 hHeld ?_
            refine tc 10 fun K hK => ?_
            (go_simp
             have hD := hY.set3
             clear x0 x1 x2 x3 xf y0 hY
             generalize w8.setCell ⟨xb, 3, none⟩ (.slice a7 (m + 1) c7) = w9 at hD ⊢
             have x0 := hD.v.vb.c0
             have x1 := hD.v.vb.c1
             have x2 := hD.v.vb.c2
             have x3 := hD.v.vb.c3
             have xf := hD.v.vb.f
             have y0 := hD.r.vb.c0
             refine tr hK (fun hHeld => ?_)
             clear hK K)
            refine wpAnyH_done (by kernel_rfl) ?_ _
            go_wp2_with fail
            go_meet
            exact ⟨_, _, _, _, _, _, _, _, _, _, ⟨by omega, by omega⟩, hD.mono (by omega)⟩
          · (go_simp
             have hD1 := hD.on (Below.drew (Below.refl _ _))
             clear hD
             have hD := hD1
             clear hD1
             (go_at_call 19; refine (pick_s rb (p + 31001) _ _ (by exact hD.rs) (by omega) (by omega) (by omega)).mono ?_; rintro e w5 ⟨v5, rfl, va5, vb5, hr5⟩)
             have hD2 := hD.call hr5
             clear x0 x1 x2 x3 xf y0 hD hr5
             have hD := hD2
             clear hD2
             have x0 := hD.v.vb.c0
             have x1 := hD.v.vb.c1
             have x2 := hD.v.vb.c2
             have x3 := hD.v.vb.c3
             have xf := hD.v.vb.f
             have y0 := hD.r.vb.c0
             (try go_wp2_with fail)
             refine tr hK (fun hHeld => ?_)
             clear hK K)
            refine wpAnyH_ready (rs := [1, 5]) (by kernel_rfl) (by simp) ?_
            refine AllReadyH.cons rfl (fun K hK => ?_) (AllReadyH.cons rfl (fun K hK => ?_) AllReadyH.nil)
            · (go_simp
               refine tr hK (fun hHeld => ?_)
               clear hK K)
              refine tc 5 fun K hK => ?_
              (go_simp
               (go_at_call 19; refine (pick_s rb (p + 31001 + 1) _ _ (by exact hD.rs) (by omega) (by omega) (by omega)).mono ?_; rintro e w6 ⟨v6, rfl, va6, vb6, hr6⟩)
               have hD2 := hD.call hr6
               clear x0 x1 x2 x3 xf y0 hD hr6
               have hD := hD2
               clear hD2
               have x0 := hD.v.vb.c0
               have x1 := hD.v.vb.c1
               have x2 := hD.v.vb.c2
               have x3 := hD.v.vb.c3
               have xf := hD.v.vb.f
               have y0 := hD.r.vb.c0
               (try go_wp2_with fail)
               refine tr hK (fun hHeld => ?_)
               clear hK K)
              refine tq 6 hHeld ?_
              refine tc 7 fun K hK => ?_
              (go_simp
               have hF : Flat (w6.alloc (Obj.cells #[.int .i64 v5, .int .i64 v6] 58)) (some ⟨w6.heap.size, 0, none⟩) (1 * 2) (ofL [v5, v6]) := flat2 w6 _ _ _
               have hD2 := hD.on (balloc w6 (Obj.cells #[.int .i64 v5, .int .i64 v6] 58))
               clear x0 x1 x2 x3 xf y0 hD
               have hD := hD2
               clear hD2
               generalize w6.alloc (Obj.cells #[.int .i64 v5, .int .i64 v6] 58) = w7 at hD hF ⊢
               generalize w6.heap.size = eb at hF ⊢
               have x0 := hD.v.vb.c0
               have x1 := hD.v.vb.c1
               have x2 := hD.v.vb.c2
               have x3 := hD.v.vb.c3
               have xf := hD.v.vb.f
               have y0 := hD.r.vb.c0
               refine tr hK (fun hHeld => ?_)
               clear hK K)
              refine tc 8 fun K hK => ?_
              (have hsz7 : w.heap.size + 1 ≤ w7.heap.size := by have := hD.r.lt; omega
               refine step_app rfl _ _ _ rfl (w.heap.size + 1) 58 2 16 zcPair Tryz.underlying24 infoItPair rfl (by decide) (.slice a' m c') m Q rfl hD.op (some ⟨eb, 0, none⟩) 1 1 (ofL [v5, v6]) rfl hF (by unfold maxLen; omega) (by omega) hsz7 ?_
               intro a7 c7 w8 ho7 hg7
               have hY := hD.app hg7 ho7
               clear x0 x1 x2 x3 xf y0 hD hF ho7 hg7 hsz7
               have x0 := hY.v.vb.c0
               have x1 := hY.v.vb.c1
               have x2 := hY.v.vb.c2
               have x3 := hY.v.vb.c3
               have xf := hY.v.vb.f
               have y0 := hY.r.vb.c0
               refine tr hK (fun hHeld => ?_)
               clear hK K)
              refine tq 9 hHeld ?_
              refine tc 10 fun K hK => ?_
              (go_simp
               have hD := hY.set3
               clear x0 x1 x2 x3 xf y0 hY
               generalize w8.setCell ⟨xb, 3, none⟩ (.slice a7 (m + 1) c7) = w9 at hD ⊢
               have x0 := hD.v.vb.c0
               have x1 := hD.v.vb.c1
               have x2 := hD.v.vb.c2
               have x3 := hD.v.vb.c3
               have xf := hD.v.vb.f
               have y0 := hD.r.vb.c0
               refine tr hK (fun hHeld => ?_)
               clear hK K)
              refine wpAnyH_done (by kernel_rfl) ?_ _
              go_wp2_with fail
              go_meet
              exact ⟨_, _, _, _, _, _, _, _, _, _, ⟨by omega, by omega⟩, hD.mono (by omega)⟩
            · (go_simp
               (go_at_call 19; refine (pick_s rb (p + 31001 + 1) _ _ (by exact hD.rs) (by omega) (by omega) (by omega)).mono ?_; rintro e w6 ⟨v6, rfl, va6, vb6, hr6⟩)
               have hD2 := hD.call hr6
               clear x0 x1 x2 x3 xf y0 hD hr6
               have hD := hD2
               clear hD2
               have x0 := hD.v.vb.c0
               have x1 := hD.v.vb.c1
               have x2 := hD.v.vb.c2
               have x3 := hD.v.vb.c3
               have xf := hD.v.vb.f
               have y0 := hD.r.vb.c0
               (try go_wp2_with fail)
               refine tr hK (fun hHeld => ?_)
               clear hK K)
              refine tq 6 hHeld ?_
              refine wpAnyH_ready (rs := [1, 7]) (by kernel_rfl) (by simp) ?_
              refine AllReadyH.cons rfl (fun K hK => ?_) (AllReadyH.cons rfl (fun K hK => ?_) AllReadyH.nil)
              · (go_simp
                 refine tr hK (fun hHeld => ?_)
                 clear hK K)
                refine tc 7 fun K hK => ?_
                (go_simp
                 have hF : Flat (w6.alloc (Obj.cells #[.int .i64 v5, .int .i64 v6] 58)) (some ⟨w6.heap.size, 0, none⟩) (1 * 2) (ofL [v5, v6]) := flat2 w6 _ _ _
                 have hD2 := hD.on (balloc w6 (Obj.cells #[.int .i64 v5, .int .i64 v6] 58))
                 clear x0 x1 x2 x3 xf y0 hD
                 have hD := hD2
                 clear hD2
                 generalize w6.alloc (Obj.cells #[.int .i64 v5, .int .i64 v6] 58) = w7 at hD hF ⊢
                 generalize w6.heap.size = eb at hF ⊢
                 have x0 := hD.v.vb.c0
                 have x1 := hD.v.vb.c1
                 have x2 := hD.v.vb.c2
                 have x3 := hD.v.vb.c3
                 have xf := hD.v.vb.f
                 have y0 := hD.r.vb.c0
                 refine tr hK (fun hHeld => ?_)
                 clear hK K)
                refine tc 8 fun K hK => ?_
                (have hsz7 : w.heap.size + 1 ≤ w7.heap.size := by have := hD.r.lt; omega
                 refine step_app rfl _ _ _ rfl (w.heap.size + 1) 58 2 16 zcPair Tryz.underlying24 infoItPair rfl (by decide) (.slice a' m c') m Q rfl hD.op (some ⟨eb, 0, none⟩) 1 1 (ofL [v5, v6]) rfl hF (by unfold maxLen; omega) (by omega) hsz7 ?_
                 intro a7 c7 w8 ho7 hg7
                 have hY := hD.app hg7 ho7
                 clear x0 x1 x2 x3 xf y0 hD hF ho7 hg7 hsz7
                 have x0 := hY.v.vb.c0
                 have x1 := hY.v.vb.c1
                 have x2 := hY.v.vb.c2
                 have x3 := hY.v.vb.c3
                 have xf := hY.v.vb.f
                 have y0 := hY.r.vb.c0
                 refine tr hK (fun hHeld => ?_)
                 clear hK K)
                refine tq 9 hHeld ?_
                refine tc 10 fun K hK => ?_
                (go_simp
                 have hD := hY.set3
                 clear x0 x1 x2 x3 xf y0 hY
                 generalize w8.setCell ⟨xb, 3, none⟩ (.slice a7 (m + 1) c7) = w9 at hD ⊢
                 have x0 := hD.v.vb.c0
                 have x1 := hD.v.vb.c1
                 have x2 := hD.v.vb.c2
                 have x3 := hD.v.vb.c3
                 have xf := hD.v.vb.f
                 have y0 := hD.r.vb.c0
                 refine tr hK (fun hHeld => ?_)
                 clear hK K)
                refine wpAnyH_done (by kernel_rfl) ?_ _
                go_wp2_with fail
                go_meet
                exact ⟨_, _, _, _, _, _, _, _, _, _, ⟨by omega, by omega⟩, hD.mono (by omega)⟩
              · (go_simp
                 have hF : Flat (w6.alloc (Obj.cells #[.int .i64 v5, .int .i64 v6] 58)) (some ⟨w6.heap.size, 0, none⟩) (1 * 2) (ofL [v5, v6]) := flat2 w6 _ _ _
                 have hD2 := hD.on (balloc w6 (Obj.cells #[.int .i64 v5, .int .i64 v6] 58))
                 clear x0 x1 x2 x3 xf y0 hD
                 have hD := hD2
                 clear hD2
                 generalize w6.alloc (Obj.cells #[.int .i64 v5, .int .i64 v6] 58) = w7 at hD hF ⊢
                 generalize w6.heap.size = eb at hF ⊢
                 have x0 := hD.v.vb.c0
                 have x1 := hD.v.vb.c1
                 have x2 := hD.v.vb.c2
                 have x3 := hD.v.vb.c3
                 have xf := hD.v.vb.f
                 have y0 := hD.r.vb.c0
                 refine tr hK (fun hHeld => ?_)
                 clear hK K)
                refine tc 1 fun K hK => ?_
                (go_simp
                 refine tr hK (fun hHeld => ?_)
                 clear hK K)
                refine tc 8 fun K hK => ?_
                (have hsz7 : w.heap.size + 1 ≤ w7.heap.size := by have := hD.r.lt; omega
                 refine step_app rfl _ _ _ rfl (w.heap.size + 1) 58 2 16 zcPair Tryz.underlying24 infoItPair rfl (by decide) (.slice a' m c') m Q rfl hD.op (some ⟨eb, 0, none⟩) 1 1 (ofL [v5, v6]) rfl hF (by unfold maxLen; omega) (by omega) hsz7 ?_
                 intro a7 c7 w8 ho7 hg7
                 have hY := hD.app hg7 ho7
                 clear x0 x1 x2 x3 xf y0 hD hF ho7 hg7 hsz7
                 have x0 := hY.v.vb.c0
                 have x1 := hY.v.vb.c1
                 have x2 := hY.v.vb.c2
                 have x3 := hY.v.vb.c3
                 have xf := hY.v.vb.f
                 have y0 := hY.r.vb.c0
                 refine tr hK (fun hHeld => ?_)
                 clear hK K)
                refine tq 9 hHeld ?_
                refine tc 10 fun K hK => ?_
                (go_simp
                 have hD := hY.set3
                 clear x0 x1 x2 x3 xf y0 hY
                 generalize w8.setCell ⟨xb, 3, none⟩ (.slice a7 (m + 1) c7) = w9 at hD ⊢
                 have x0 := hD.v.vb.c0
                 have x1 := hD.v.vb.c1
                 have x2 := hD.v.vb.c2
                 have x3 := hD.v.vb.c3
                 have xf := hD.v.vb.f
                 have y0 := hD.r.vb.c0
                 refine tr hK (fun hHeld => ?_)
                 clear hK K)
                refine wpAnyH_done (by kernel_rfl) ?_ _
                go_wp2_with fail
                go_meet
                exact ⟨_, _, _, _, _, _, _, _, _, _, ⟨by omega, by omega⟩, hD.mono (by omega)⟩
        · have e4 : (v == 3) = false := by simp [e0]
          clear e0
          go_wp2_with fail
          go_meet
          exact ⟨_, _, _, _, _, _, _, _, _, _, ⟨by omega, by omega⟩, hD.mono (by omega)⟩
 case rest =>
 clear hD hn hm
 obtain ⟨T, P, a, n, c, U, a', m, c', Q, ⟨hn, hm⟩, hD⟩ := hcut
 have x0 := hD.v.vb.c0
 have x1 := hD.v.vb.c1
 have x2 := hD.v.vb.c2
 have x3 := hD.v.vb.c3
 have xf := hD.v.vb.f
 have y0 := hD.r.vb.c0
 have y1 := hD.r.vb.c1
 have y2 := hD.r.vb.c2
 have y3 := hD.r.vb.c3
 have yf := hD.r.vb.f
 have hx := hD.hx
 have hn1 : ¬ xb = w.heap.size := by omega
 have hn2 : ¬ w.heap.size = xb := by omega
 go_wp2_with fail
 have hz := hD.r.lt
 have hD6 : Dw w wc rb (p + 71100) (w.heap.size + 1) a n c U a' m c' Q := ⟨hD.rs, hD.but, hlt, by omega, by omega, hD.ob, hD.op⟩
 exact bodyPost_ret (v := worldW T P a n c a' m c') (by simp [results, Tryz.results17, go_sem, *]) rfl ⟨T, P, a, n, c, U, a', m, c', Q, rfl, ⟨hn, hm⟩, ((((hD6.set (o := 0) (b := w.heap.size) (by omega) (by omega) (.int .i64 T)).set (o := 1) (b := w.heap.size) (by omega) (by omega) (.int .i64 P)).set (o := 2) (b := w.heap.size) (by omega) (by omega) (.slice a n c)).set (o := 3) (b := w.heap.size) (by omega) (by omega) (.slice a' m c'))⟩
end Go.Proofs.YthijeiehcdoidaaGreat
