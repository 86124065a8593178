/- Texts of a proof. -/
import Derived.Test.YthijeiehcdoidaaGreatDrawW
import Derived.Test.YthijeiehcdoidaaGreatB43
import Derived.Deep.RegionHeld3
import Derived.Deep.DeepCutAuto
set_option maxHeartbeats 16000000
set_option maxRecDepth 20000
namespace Go.Proofs.YthijeiehcdoidaaGreat
open Go.RowKit
set_option linter.unusedVariables false
set_option linter.unusedSimpArgs false
structure Dx (w wr : World) (rb p xb : Nat) (v0 v1 : Value) (a : Option Addr) (n c : Nat) (U : Nat → Int) (a' : Option Addr) (m c' : Nat) (Q : Nat → Int) : Prop where
 rs : RS wr rb p
 but : But rb w wr
 lo : rb < w.heap.size
 hx : w.heap.size < xb
 v : Wb wr xb v0 v1 (.slice a n c) (.slice a' m c')
 r : Wb wr w.heap.size (.int .i64 0) (.int .i64 0) (.slice none 0 0) (.slice none 0 0)
 ob : OwnL wr (w.heap.size + 1) 41 12 (.slice a n c) n U
 op : OwnL wr (w.heap.size + 1) 58 2 (.slice a' m c') m Q
theorem Dx.call {w wr : World} {rb p xb : Nat} {v0 v1 : Value} {a : Option Addr} {n c : Nat} {U : Nat → Int} {a' : Option Addr} {m c' : Nat} {Q : Nat → Int} {w1 : World} {p1 : Nat} (h : Dx w wr rb p xb v0 v1 a n c U a' m c' Q) (k : RB wr w1 rb p1) : Dx w w1 rb p1 xb v0 v1 a n c U a' m c' Q :=
 have hl := h.lo
 have hx := h.hx
 ⟨RS.of k, h.but.trans k.but, h.lo, h.hx, h.v.but k.but (by omega), h.r.but k.but (by omega), h.ob.but k.but (by omega), h.op.but k.but (by omega)⟩
theorem Dx.mono {w wr : World} {rb p xb : Nat} {v0 v1 : Value} {a : Option Addr} {n c : Nat} {U : Nat → Int} {a' : Option Addr} {m c' : Nat} {Q : Nat → Int} {p1 : Nat} (h : Dx w wr rb p xb v0 v1 a n c U a' m c' Q) (k : p ≤ p1) : Dx w wr rb p1 xb v0 v1 a n c U a' m c' Q := ⟨h.rs.mono k, h.but, h.lo, h.hx, h.v, h.r, h.ob, h.op⟩
theorem Dx.on {w wr : World} {rb p xb : Nat} {v0 v1 : Value} {a : Option Addr} {n c : Nat} {U : Nat → Int} {a' : Option Addr} {m c' : Nat} {Q : Nat → Int} {w1 : World} (h : Dx w wr rb p xb v0 v1 a n c U a' m c' Q) (k : Below wr.heap.size wr w1) : Dx w w1 rb p xb v0 v1 a n c U a' m c' Q :=
 ⟨h.rs.blw k, h.but.trans (But.of_below k), h.lo, h.hx, h.v.on k, h.r.on k, h.ob.below k, h.op.below k⟩
theorem Dx.set0 {w wr : World} {rb p xb : Nat} {v0 v1 : Value} {a : Option Addr} {n c : Nat} {U : Nat → Int} {a' : Option Addr} {m c' : Nat} {Q : Nat → Int} (h : Dx w wr rb p xb v0 v1 a n c U a' m c' Q) (x : Value) : Dx w (wr.setCell ⟨xb, 0, none⟩ x) rb p xb x v1 a n c U a' m c' Q := ⟨h.rs.setNew (by have := h.lo; have := h.hx; show rb < xb; omega) _, h.but.setNew (show w.heap.size ≤ xb from Nat.le_of_lt h.hx) _, h.lo, h.hx, h.v.set0 x, h.r.far (by have := h.hx; omega) x, h.ob.frame (Fr.setCell (X := fun j => j = xb) rfl _) (fun b e x => h.v.ne h.ob (by decide) b e x), h.op.frame (Fr.setCell (X := fun j => j = xb) rfl _) (fun b e x => h.v.ne h.op (by decide) b e x)⟩
theorem Dx.set1 {w wr : World} {rb p xb : Nat} {v0 v1 : Value} {a : Option Addr} {n c : Nat} {U : Nat → Int} {a' : Option Addr} {m c' : Nat} {Q : Nat → Int} (h : Dx w wr rb p xb v0 v1 a n c U a' m c' Q) (x : Value) : Dx w (wr.setCell ⟨xb, 1, none⟩ x) rb p xb v0 x a n c U a' m c' Q := ⟨h.rs.setNew (by have := h.lo; have := h.hx; show rb < xb; omega) _, h.but.setNew (show w.heap.size ≤ xb from Nat.le_of_lt h.hx) _, h.lo, h.hx, h.v.set1 x, h.r.far (by have := h.hx; omega) x, h.ob.frame (Fr.setCell (X := fun j => j = xb) rfl _) (fun b e x => h.v.ne h.ob (by decide) b e x), h.op.frame (Fr.setCell (X := fun j => j = xb) rfl _) (fun b e x => h.v.ne h.op (by decide) b e x)⟩
theorem Dx.set2 {w wr : World} {rb p xb : Nat} {v0 v1 : Value} {a : Option Addr} {n c : Nat} {U : Nat → Int} {a' : Option Addr} {m c' : Nat} {Q : Nat → Int} {a3 : Option Addr} {n3 c3 : Nat} {U3 : Nat → Int} (h : Dx w wr rb p xb v0 v1 a n c U a' m c' Q) (ho : OwnL wr (w.heap.size + 1) 41 12 (.slice a3 n3 c3) n3 U3) : Dx w (wr.setCell ⟨xb, 2, none⟩ (.slice a3 n3 c3)) rb p xb v0 v1 a3 n3 c3 U3 a' m c' Q := ⟨h.rs.setNew (by have := h.lo; have := h.hx; show rb < xb; omega) _, h.but.setNew (show w.heap.size ≤ xb from Nat.le_of_lt h.hx) _, h.lo, h.hx, h.v.set2 _, h.r.far (by have := h.hx; omega) _, ho.frame (Fr.setCell (X := fun j => j = xb) rfl _) (fun b e x => h.v.ne ho (by decide) b e x), h.op.frame (Fr.setCell (X := fun j => j = xb) rfl _) (fun b e x => h.v.ne h.op (by decide) b e x)⟩
structure Dy (w wr : World) (rb p xb : Nat) (v0 v1 : Value) (a : Option Addr) (n c : Nat) (U : Nat → Int) (v3 : Value) (a' : Option Addr) (m c' : Nat) (Q : Nat → Int) : Prop where
 rs : RS wr rb p
 but : But rb w wr
 lo : rb < w.heap.size
 hx : w.heap.size < xb
 v : Wb wr xb v0 v1 (.slice a n c) v3
 r : Wb wr w.heap.size (.int .i64 0) (.int .i64 0) (.slice none 0 0) (.slice none 0 0)
 ob : OwnL wr (w.heap.size + 1) 41 12 (.slice a n c) n U
 op : OwnL wr (w.heap.size + 1) 58 2 (.slice a' m c') m Q
theorem Dx.app {w wr : World} {rb p xb : Nat} {v0 v1 : Value} {a : Option Addr} {n c : Nat} {U : Nat → Int} {a' : Option Addr} {m c' : Nat} {Q : Nat → Int} {w1 : World} {a3 : Option Addr} {m3 c3 : Nat} {Q3 : Nat → Int} (h : Dx w wr rb p xb v0 v1 a n c U a' m c' Q) (hg : wr.grownBy w1 (Value.slice a' m c').ownBlock) (ho : OwnL w1 (w.heap.size + 1) 58 2 (.slice a3 m3 c3) m3 Q3) : Dy w w1 rb p xb v0 v1 a n c U (.slice a' m c') a3 m3 c3 Q3 := by
 have hsz := h.but.size
 have hlo := h.lo
 have hrl := h.r.lt
 have hB : Below (w.heap.size + 1) wr w1 := (Below.refl (w.heap.size + 1) wr).grown hg (by omega) (fun b e => (h.op.lt b e).1)
 exact ⟨h.rs.upto hB (by omega), ⟨hB.os.trans h.but.os, hB.tape.trans h.but.tape, hB.output.trans h.but.output, Nat.le_trans hsz hB.size, fun k hk hn => (hB.block k (by omega)).trans (h.but.block k hk hn)⟩, h.lo, h.hx,
  (hg.block xb h.v.lt (fun e => h.v.ne h.op (by decide) xb e.symm rfl)).trans h.v, (hB.block _ (by omega)).trans h.r, h.ob.keptT h.op (by decide) hg, ho⟩
theorem Dy.set3 {w wr : World} {rb p xb : Nat} {v0 v1 : Value} {a : Option Addr} {n c : Nat} {U : Nat → Int} {a' : Option Addr} {m c' : Nat} {Q : Nat → Int} {v3 : Value} (h : Dy w wr rb p xb v0 v1 a n c U v3 a' m c' Q) : Dx w (wr.setCell ⟨xb, 3, none⟩ (.slice a' m c')) rb p xb v0 v1 a n c U a' m c' Q := ⟨h.rs.setNew (by have := h.lo; have := h.hx; show rb < xb; omega) _, h.but.setNew (show w.heap.size ≤ xb from Nat.le_of_lt h.hx) _, h.lo, h.hx, h.v.set3 _, h.r.far (by have := h.hx; omega) _, h.ob.frame (Fr.setCell (X := fun j => j = xb) rfl _) (fun b e x => h.v.ne h.ob (by decide) b e x), h.op.frame (Fr.setCell (X := fun j => j = xb) rfl _) (fun b e x => h.v.ne h.op (by decide) b e x)⟩
theorem l11AnyWorld_w (rb p : Nat) (w : World) (hs0 : RS w rb p) (hp : p ≤ 400000) :
 Calls Tryz.prog 17 #[.pointer (some ⟨rb, 0, none⟩)] w fun e w' => ∃ (T P : Int) (a : Option Addr) (n c : Nat) (U : Nat → Int) (a' : Option Addr) (m c' : Nat) (Q : Nat → Int), e = .returned (worldW T P a n c a' m c') ∧ (n ≤ 13 ∧ m ≤ 433) ∧ Dw w w' rb (p + 71100) (w.heap.size + 1) a n c U a' m c' Q := by
 have hlt := hs0.lt
 have hset := cset_map
 have hE0 : Below w.heap.size w (w.alloc (.cells #[.int .i64 0, .int .i64 0, .slice none 0 0, .slice none 0 0] 26)) := (Below.refl _ _).alloc (Nat.le_refl _) _
 have hs1 := hs0.alloc (.cells #[.int .i64 0, .int .i64 0, .slice none 0 0, .slice none 0 0] 26)
 have hR := Wb.new w (.int .i64 0) (.int .i64 0) (.slice none 0 0) (.slice none 0 0)
 go_enter Tryz.func17, Tryz.ntmps17
 go_upto_region 1 with fail
 generalize w.alloc (.cells #[.int .i64 0, .int .i64 0, .slice none 0 0, .slice none 0 0] 26) = w0 at hE0 hs1 hR ⊢
 go_cut [3] (fun s3 wc => ∃ (xb : Nat) (T P : Int) (a : Option Addr) (n c : Nat) (U : Nat → Int) (a' : Option Addr) (m c' : Nat) (Q : Nat → Int), s3 = .pointer (some ⟨xb, 0, none⟩) ∧ (n ≤ 12 ∧ m ≤ 432) ∧ Dx w wc rb (p + 31000) xb (.int .i64 T) (.int .i64 P) a n c U a' m c' Q)
 case first =>
  go_wp2_with (first
   | (have _ := hD1; go_at_call 37; refine (l10Copy_any T P a n c U a' m c' Q _ hD1.ob.flat hD1.op.flat (by omega) (by omega)).mono ?_; rintro e w2 ⟨a1, k1, a2, k2, rfl, hO2⟩)
   | (go_at_call 47; refine (l11World_w rb p _ hs1 (by omega)).mono ?_; rintro e w1 ⟨T, P, a, n, c, U, a', m, c', Q, rfl, ⟨hn, hm⟩, hD1⟩))
  go_meet
  have hE : Below w2.heap.size w2 (w2.alloc (.cells #[.int .i64 T, .int .i64 P, .slice a1 n k1, .slice a2 m k2] 26)) := (Below.refl _ _).alloc (Nat.le_refl _) _
  have hbut : But rb w w1 := (But.of_below hE0).trans hD1.but
  have hz0 := hR.lt
  have hz1 := hD1.but.size
  have hz2 := hO2.bel.size
  exact ⟨w2.heap.size, T, P, a1, n, k1, U, a2, m, k2, Q, rfl, ⟨hn, hm⟩, (hD1.rs.blw hO2.bel).blw hE, (hbut.trans (But.of_below hO2.bel)).trans (But.of_below hE), hlt, by omega, Wb.new _ _ _ _ _, ((hR.but hD1.but (by omega)).on hO2.bel).on hE, (hO2.ob.base (by omega)).below hE, (hO2.op.base (by omega)).below hE⟩
 case rest =>
 clear hE0 hs1 hR
 obtain ⟨xb, T, P, a, n, c, U, a', m, c', Q, rfl, ⟨hn, hm⟩, hD⟩ := hcut
 go_upto_region 2 with fail
 go_cut [8] (fun s8 wc => ∃ v : Int, s8 = .int .i64 v ∧ Dx w wc rb (p + 31001) xb (.int .i64 T) (.int .i64 P) a n c U a' m c' Q)
 case first =>
  go_wp2_with (go_at_call 19; refine (pick_s rb (p + 31000) _ _ (by exact hD.rs) (by omega) (by omega) (by omega)).mono ?_; rintro e w2 ⟨v2, rfl, va2, vb2, hr2⟩)
  go_meet
  exact ⟨_, rfl, hD.call hr2⟩
 case rest =>
 clear hD
 obtain ⟨v, rfl, hD⟩ := hcut
 rename_i hKK
 refine hKK _ _ ?_
 go_cut [] (fun wc => ∃ (T P : Int) (a : Option Addr) (n c : Nat) (U : Nat → Int) (a' : Option Addr) (m c' : Nat) (Q : Nat → Int), (n ≤ 13 ∧ m ≤ 433) ∧ Dx w wc rb (p + 71100) xb (.int .i64 T) (.int .i64 P) a n c U a' m c' Q)
 case first =>
  have x0 := hD.v.vb.c0
  have x1 := hD.v.vb.c1
  have x2 := hD.v.vb.c2
  have x3 := hD.v.vb.c3
  have xf := hD.v.vb.f
  by_cases e0 : v = 0
  · have e1 : (v == 0) = true := by simp [e0]
    clear e0
    go_wp2_with (go_at_call 48; refine (one_s (-1) 100001 rb (p + 31001) _ _ _ _ _ (by exact hD.rs) (by omega) (by repeat (first | exact AllBd.nil | refine AllBd.cons (by omega) (by omega) ?_)) (by rfl) (by omega) (by omega)).mono ?_; rintro e w4 ⟨v4, rfl, va4, vb4, hr4⟩; have hD4 := hD.call hr4; clear x0 x1 x2 x3 xf; have x0 := hD4.v.vb.c0; have x1 := hD4.v.vb.c1; have x2 := hD4.v.vb.c2; have x3 := hD4.v.vb.c3; have xf := hD4.v.vb.f)
    go_meet
    exact ⟨_, _, _, _, _, _, _, _, _, _, ⟨by omega, by omega⟩, (hD4.set0 _).mono (by omega)⟩
  · have e1 : (v == 0) = false := by simp [e0]
    clear e0
    by_cases e0 : v = 1
    · have e2 : (v == 1) = true := by simp [e0]
      clear e0
      go_wp2_with (go_at_call 48; refine (one_s (-1) 2561 rb (p + 31001) _ _ _ _ _ (by exact hD.rs) (by omega) (by repeat (first | exact AllBd.nil | refine AllBd.cons (by omega) (by omega) ?_)) (by rfl) (by omega) (by omega)).mono ?_; rintro e w4 ⟨v4, rfl, va4, vb4, hr4⟩; have hD4 := hD.call hr4; clear x0 x1 x2 x3 xf; have x0 := hD4.v.vb.c0; have x1 := hD4.v.vb.c1; have x2 := hD4.v.vb.c2; have x3 := hD4.v.vb.c3; have xf := hD4.v.vb.f)
      go_meet
      exact ⟨_, _, _, _, _, _, _, _, _, _, ⟨by omega, by omega⟩, (hD4.set1 _).mono (by omega)⟩
    · have e2 : (v == 1) = false := by simp [e0]
      clear e0
      by_cases e0 : v = 2
      · have e3 : (v == 2) = true := by simp [e0]
        clear e0
        go_wp2_with (go_at_call 49; refine (l11AnyBodies_k rb (p + 31001) _ (by exact hD.rs) (by omega)).mono ?_; rintro e w4 ⟨a4, n4, c4, U4, rfl, hL4, hD0⟩; have hD4 := hD.call hD0.bl.done; clear x0 x1 x2 x3 xf; have x0 := hD4.v.vb.c0; have x1 := hD4.v.vb.c1; have x2 := hD4.v.vb.c2; have x3 := hD4.v.vb.c3; have xf := hD4.v.vb.f)
        go_meet
        have hz := hD.r.lt
        exact ⟨_, _, _, _, _, _, _, _, _, _, ⟨hL4.1, by omega⟩, (hD4.set2 (hD0.own.base (by omega))).mono (by omega)⟩
      · have e3 : (v == 2) = false := by simp [e0]
        clear e0
        by_cases e0 : v = 3
        · have e4 : (v == 3) = true := by simp [e0]
          clear e0
          have y0 := hD.r.vb.c0
          go_upto_region 10 with fail
          refine wp_region_held_drew (S := fun w' => w'.cell? ⟨w.heap.size, 0, none⟩ = some (.int .i64 0)) (by kernel_rfl) ?_ (fun hHeld => ?_)
          · (try dsimp only)
            (first | (go_simp; done) | (go_keep; done))
          refine tq 0 hHeld ?_
          refine tq 2 hHeld ?_
          refine tq 4 hHeld ?_
          refine wpAnyH_ready (rs := [1, 3]) (by kernel_rfl) (by simp) ?_
          refine AllReadyH.cons rfl (fun K hK => ?_) (AllReadyH.cons rfl (fun K hK => ?_) AllReadyH.nil)
          · (go_simp
             refine tr hK (fun hHeld => ?_)
             clear hK K)
            refine tc 3 fun K hK => ?_
            (go_simp
             have hD1 := hD.on (Below.drew (Below.refl _ _))
             clear hD
             have hD := hD1
             clear hD1
             (go_at_call 19; refine (pick_s rb (p + 31001) _ _ (by exact hD.rs) (by omega) (by omega) (by omega)).mono ?_; rintro e w5 ⟨v5, rfl, va5, vb5, hr5⟩)
             have hD2 := hD.call hr5
             clear x0 x1 x2 x3 xf y0 hD hr5
             have hD := hD2
             clear hD2
             have x0 := hD.v.vb.c0
             have x1 := hD.v.vb.c1
             have x2 := hD.v.vb.c2
             have x3 := hD.v.vb.c3
             have xf := hD.v.vb.f
             have y0 := hD.r.vb.c0
             (try go_wp2_with fail)
             refine tr hK (fun hHeld => ?_)
             clear hK K)
            refine tc 5 fun K hK => ?_
            (go_simp
             (go_at_call 19; refine (pick_s rb (p + 31001 + 1) _ _ (by exact hD.rs) (by omega) (by omega) (by omega)).mono ?_; rintro e w6 ⟨v6, rfl, va6, vb6, hr6⟩)
             have hD2 := hD.call hr6
             clear x0 x1 x2 x3 xf y0 hD hr6
             have hD := hD2
             clear hD2
             have x0 := hD.v.vb.c0
             have x1 := hD.v.vb.c1
             have x2 := hD.v.vb.c2
             have x3 := hD.v.vb.c3
             have xf := hD.v.vb.f
             have y0 := hD.r.vb.c0
             (try go_wp2_with fail)
             refine tr hK (fun hHeld => ?_)
             clear hK K)
            refine tq 6 hHeld ?_
            refine tc 7 fun K hK => ?_
            (go_simp
             have hF : Flat (w6.alloc (Obj.cells #[.int .i64 v5, .int .i64 v6] 58)) (some ⟨w6.heap.size, 0, none⟩) (1 * 2) (ofL [v5, v6]) := flat2 w6 _ _ _
             have hD2 := hD.on (balloc w6 (Obj.cells #[.int .i64 v5, .int .i64 v6] 58))
             clear x0 x1 x2 x3 xf y0 hD
             have hD := hD2
             clear hD2
             generalize w6.alloc (Obj.cells #[.int .i64 v5, .int .i64 v6] 58) = w7 at hD hF ⊢
             generalize w6.heap.size = eb at hF ⊢
             have x0 := hD.v.vb.c0
             have x1 := hD.v.vb.c1
             have x2 := hD.v.vb.c2
             have x3 := hD.v.vb.c3
             have xf := hD.v.vb.f
             have y0 := hD.r.vb.c0
             refine tr hK (fun hHeld => ?_)
             clear hK K)
            refine tc 8 fun K hK => ?_
            (have hsz7 : w.heap.size + 1 ≤ w7.heap.size := by have := hD.r.lt; omega
             refine step_app rfl _ _ _ rfl (w.heap.size + 1) 58 2 16 zcPair Tryz.underlying24 infoItPair rfl (by decide) (.slice a' m c') m Q rfl hD.op (some ⟨eb, 0, none⟩) 1 1 (ofL [v5, v6]) rfl hF (by unfold maxLen; omega) (by omega) hsz7 ?_
             intro a7 c7 w8 ho7 hg7
             have hY := hD.app hg7 ho7
             clear x0 x1 x2 x3 xf y0 hD hF ho7 hg7 hsz7
             have x0 := hY.v.vb.c0
             have x1 := hY.v.vb.c1
             have x2 := hY.v.vb.c2
             have x3 := hY.v.vb.c3
             have xf := hY.v.vb.f
             have y0 := hY.r.vb.c0
             refine tr hK (fun hHeld => ?_)
             clear hK K)
            refine tq 9 hHeld ?_
            refine tc 10 fun K hK => ?_
            (go_simp
             have hD := hY.set3
             clear x0 x1 x2 x3 xf y0 hY
             generalize w8.setCell ⟨xb, 3, none⟩ (.slice a7 (m + 1) c7) = w9 at hD ⊢
             have x0 := hD.v.vb.c0
             have x1 := hD.v.vb.c1
             have x2 := hD.v.vb.c2
             have x3 := hD.v.vb.c3
             have xf := hD.v.vb.f
             have y0 := hD.r.vb.c0
             refine tr hK (fun hHeld => ?_)
             clear hK K)
            refine wpAnyH_done (by kernel_rfl) ?_ _
            go_wp2_with fail
            go_meet
            exact ⟨_, _, _, _, _, _, _, _, _, _, ⟨by omega, by omega⟩, hD.mono (by omega)⟩
          · (go_simp
             have hD1 := hD.on (Below.drew (Below.refl _ _))
             clear hD
             have hD := hD1
             clear hD1
             (go_at_call 19; refine (pick_s rb (p + 31001) _ _ (by exact hD.rs) (by omega) (by omega) (by omega)).mono ?_; rintro e w5 ⟨v5, rfl, va5, vb5, hr5⟩)
             have hD2 := hD.call hr5
             clear x0 x1 x2 x3 xf y0 hD hr5
             have hD := hD2
             clear hD2
             have x0 := hD.v.vb.c0
             have x1 := hD.v.vb.c1
             have x2 := hD.v.vb.c2
             have x3 := hD.v.vb.c3
             have xf := hD.v.vb.f
             have y0 := hD.r.vb.c0
             (try go_wp2_with fail)
             refine tr hK (fun hHeld => ?_)
             clear hK K)
            refine wpAnyH_ready (rs := [1, 5]) (by kernel_rfl) (by simp) ?_
            refine AllReadyH.cons rfl (fun K hK => ?_) (AllReadyH.cons rfl (fun K hK => ?_) AllReadyH.nil)
            · (go_simp
               refine tr hK (fun hHeld => ?_)
               clear hK K)
              refine tc 5 fun K hK => ?_
              (go_simp
               (go_at_call 19; refine (pick_s rb (p + 31001 + 1) _ _ (by exact hD.rs) (by omega) (by omega) (by omega)).mono ?_; rintro e w6 ⟨v6, rfl, va6, vb6, hr6⟩)
               have hD2 := hD.call hr6
               clear x0 x1 x2 x3 xf y0 hD hr6
               have hD := hD2
               clear hD2
               have x0 := hD.v.vb.c0
               have x1 := hD.v.vb.c1
               have x2 := hD.v.vb.c2
               have x3 := hD.v.vb.c3
               have xf := hD.v.vb.f
               have y0 := hD.r.vb.c0
               (try go_wp2_with fail)
               refine tr hK (fun hHeld => ?_)
               clear hK K)
              refine tq 6 hHeld ?_
              refine tc 7 fun K hK => ?_
              (go_simp
               have hF : Flat (w6.alloc (Obj.cells #[.int .i64 v5, .int .i64 v6] 58)) (some ⟨w6.heap.size, 0, none⟩) (1 * 2) (ofL [v5, v6]) := flat2 w6 _ _ _
               have hD2 := hD.on (balloc w6 (Obj.cells #[.int .i64 v5, .int .i64 v6] 58))
               clear x0 x1 x2 x3 xf y0 hD
               have hD := hD2
               clear hD2
               generalize w6.alloc (Obj.cells #[.int .i64 v5, .int .i64 v6] 58) = w7 at hD hF ⊢
               generalize w6.heap.size = eb at hF ⊢
               have x0 := hD.v.vb.c0
               have x1 := hD.v.vb.c1
               have x2 := hD.v.vb.c2
               have x3 := hD.v.vb.c3
               have xf := hD.v.vb.f
               have y0 := hD.r.vb.c0
               refine tr hK (fun hHeld => ?_)
               clear hK K)
              refine tc 8 fun K hK => ?_
              (have hsz7 : w.heap.size + 1 ≤ w7.heap.size := by have := hD.r.lt; omega
               refine step_app rfl _ _ _ rfl (w.heap.size + 1) 58 2 16 zcPair Tryz.underlying24 infoItPair rfl (by decide) (.slice a' m c') m Q rfl hD.op (some ⟨eb, 0, none⟩) 1 1 (ofL [v5, v6]) rfl hF (by unfold maxLen; omega) (by omega) hsz7 ?_
               intro a7 c7 w8 ho7 hg7
               have hY := hD.app hg7 ho7
               clear x0 x1 x2 x3 xf y0 hD hF ho7 hg7 hsz7
               have x0 := hY.v.vb.c0
               have x1 := hY.v.vb.c1
               have x2 := hY.v.vb.c2
               have x3 := hY.v.vb.c3
               have xf := hY.v.vb.f
               have y0 := hY.r.vb.c0
               refine tr hK (fun hHeld => ?_)
               clear hK K)
              refine tq 9 hHeld ?_
              refine tc 10 fun K hK => ?_
              (go_simp
               have hD := hY.set3
               clear x0 x1 x2 x3 xf y0 hY
               generalize w8.setCell ⟨xb, 3, none⟩ (.slice a7 (m + 1) c7) = w9 at hD ⊢
               have x0 := hD.v.vb.c0
               have x1 := hD.v.vb.c1
               have x2 := hD.v.vb.c2
               have x3 := hD.v.vb.c3
               have xf := hD.v.vb.f
               have y0 := hD.r.vb.c0
               refine tr hK (fun hHeld => ?_)
               clear hK K)
              refine wpAnyH_done (by kernel_rfl) ?_ _
              go_wp2_with fail
              go_meet
              exact ⟨_, _, _, _, _, _, _, _, _, _, ⟨by omega, by omega⟩, hD.mono (by omega)⟩
            · (go_simp
               (go_at_call 19; refine (pick_s rb (p + 31001 + 1) _ _ (by exact hD.rs) (by omega) (by omega) (by omega)).mono ?_; rintro e w6 ⟨v6, rfl, va6, vb6, hr6⟩)
               have hD2 := hD.call hr6
               clear x0 x1 x2 x3 xf y0 hD hr6
               have hD := hD2
               clear hD2
               have x0 := hD.v.vb.c0
               have x1 := hD.v.vb.c1
               have x2 := hD.v.vb.c2
               have x3 := hD.v.vb.c3
               have xf := hD.v.vb.f
               have y0 := hD.r.vb.c0
               (try go_wp2_with fail)
               refine tr hK (fun hHeld => ?_)
               clear hK K)
              refine tq 6 hHeld ?_
              refine wpAnyH_ready (rs := [1, 7]) (by kernel_rfl) (by simp) ?_
              refine AllReadyH.cons rfl (fun K hK => ?_) (AllReadyH.cons rfl (fun K hK => ?_) AllReadyH.nil)
              · (go_simp
                 refine tr hK (fun hHeld => ?_)
                 clear hK K)
                refine tc 7 fun K hK => ?_
                (go_simp
                 have hF : Flat (w6.alloc (Obj.cells #[.int .i64 v5, .int .i64 v6] 58)) (some ⟨w6.heap.size, 0, none⟩) (1 * 2) (ofL [v5, v6]) := flat2 w6 _ _ _
                 have hD2 := hD.on (balloc w6 (Obj.cells #[.int .i64 v5, .int .i64 v6] 58))
                 clear x0 x1 x2 x3 xf y0 hD
                 have hD := hD2
                 clear hD2
                 generalize w6.alloc (Obj.cells #[.int .i64 v5, .int .i64 v6] 58) = w7 at hD hF ⊢
                 generalize w6.heap.size = eb at hF ⊢
                 have x0 := hD.v.vb.c0
                 have x1 := hD.v.vb.c1
                 have x2 := hD.v.vb.c2
                 have x3 := hD.v.vb.c3
                 have xf := hD.v.vb.f
                 have y0 := hD.r.vb.c0
                 refine tr hK (fun hHeld => ?_)
                 clear hK K)
                refine tc 8 fun K hK => ?_
                (have hsz7 : w.heap.size + 1 ≤ w7.heap.size := by have := hD.r.lt; omega
                 refine step_app rfl _ _ _ rfl (w.heap.size + 1) 58 2 16 zcPair Tryz.underlying24 infoItPair rfl (by decide) (.slice a' m c') m Q rfl hD.op (some ⟨eb, 0, none⟩) 1 1 (ofL [v5, v6]) rfl hF (by unfold maxLen; omega) (by omega) hsz7 ?_
                 intro a7 c7 w8 ho7 hg7
                 have hY := hD.app hg7 ho7
                 clear x0 x1 x2 x3 xf y0 hD hF ho7 hg7 hsz7
                 have x0 := hY.v.vb.c0
                 have x1 := hY.v.vb.c1
                 have x2 := hY.v.vb.c2
                 have x3 := hY.v.vb.c3
                 have xf := hY.v.vb.f
                 have y0 := hY.r.vb.c0
                 refine tr hK (fun hHeld => ?_)
                 clear hK K)
                refine tq 9 hHeld ?_
                refine tc 10 fun K hK => ?_
                (go_simp
                 have hD := hY.set3
                 clear x0 x1 x2 x3 xf y0 hY
                 generalize w8.setCell ⟨xb, 3, none⟩ (.slice a7 (m + 1) c7) = w9 at hD ⊢
                 have x0 := hD.v.vb.c0
                 have x1 := hD.v.vb.c1
                 have x2 := hD.v.vb.c2
                 have x3 := hD.v.vb.c3
                 have xf := hD.v.vb.f
                 have y0 := hD.r.vb.c0
                 refine tr hK (fun hHeld => ?_)
                 clear hK K)
                refine wpAnyH_done (by kernel_rfl) ?_ _
                go_wp2_with fail
                go_meet
                exact ⟨_, _, _, _, _, _, _, _, _, _, ⟨by omega, by omega⟩, hD.mono (by omega)⟩
              · (go_simp
                 have hF : Flat (w6.alloc (Obj.cells #[.int .i64 v5, .int .i64 v6] 58)) (some ⟨w6.heap.size, 0, none⟩) (1 * 2) (ofL [v5, v6]) := flat2 w6 _ _ _
                 have hD2 := hD.on (balloc w6 (Obj.cells #[.int .i64 v5, .int .i64 v6] 58))
                 clear x0 x1 x2 x3 xf y0 hD
                 have hD := hD2
                 clear hD2
                 generalize w6.alloc (Obj.cells #[.int .i64 v5, .int .i64 v6] 58) = w7 at hD hF ⊢
                 generalize w6.heap.size = eb at hF ⊢
                 have x0 := hD.v.vb.c0
                 have x1 := hD.v.vb.c1
                 have x2 := hD.v.vb.c2
                 have x3 := hD.v.vb.c3
                 have xf := hD.v.vb.f
                 have y0 := hD.r.vb.c0
                 refine tr hK (fun hHeld => ?_)
                 clear hK K)
                refine tc 1 fun K hK => ?_
                (go_simp
                 refine tr hK (fun hHeld => ?_)
                 clear hK K)
                refine tc 8 fun K hK => ?_
                (have hsz7 : w.heap.size + 1 ≤ w7.heap.size := by have := hD.r.lt; omega
                 refine step_app rfl _ _ _ rfl (w.heap.size + 1) 58 2 16 zcPair Tryz.underlying24 infoItPair rfl (by decide) (.slice a' m c') m Q rfl hD.op (some ⟨eb, 0, none⟩) 1 1 (ofL [v5, v6]) rfl hF (by unfold maxLen; omega) (by omega) hsz7 ?_
                 intro a7 c7 w8 ho7 hg7
                 have hY := hD.app hg7 ho7
                 clear x0 x1 x2 x3 xf y0 hD hF ho7 hg7 hsz7
                 have x0 := hY.v.vb.c0
                 have x1 := hY.v.vb.c1
                 have x2 := hY.v.vb.c2
                 have x3 := hY.v.vb.c3
                 have xf := hY.v.vb.f
                 have y0 := hY.r.vb.c0
                 refine tr hK (fun hHeld => ?_)
                 clear hK K)
                refine tq 9 hHeld ?_
                refine tc 10 fun K hK => ?_
                (go_simp
                 have hD := hY.set3
                 clear x0 x1 x2 x3 xf y0 hY
                 generalize w8.setCell ⟨xb, 3, none⟩ (.slice a7 (m + 1) c7) = w9 at hD ⊢
                 have x0 := hD.v.vb.c0
                 have x1 := hD.v.vb.c1
                 have x2 := hD.v.vb.c2
                 have x3 := hD.v.vb.c3
                 have xf := hD.v.vb.f
                 have y0 := hD.r.vb.c0
                 refine tr hK (fun hHeld => ?_)
                 clear hK K)
                refine wpAnyH_done (by kernel_rfl) ?_ _
                go_wp2_with fail
                go_meet
                exact ⟨_, _, _, _, _, _, _, _, _, _, ⟨by omega, by omega⟩, hD.mono (by omega)⟩
        · have e4 : (v == 3) = false := by simp [e0]
          clear e0
          go_wp2_with fail
          go_meet
          exact ⟨_, _, _, _, _, _, _, _, _, _, ⟨by omega, by omega⟩, hD.mono (by omega)⟩
 case rest =>
 clear hD hn hm
 obtain ⟨T, P, a, n, c, U, a', m, c', Q, ⟨hn, hm⟩, hD⟩ := hcut
 have x0 := hD.v.vb.c0
 have x1 := hD.v.vb.c1
 have x2 := hD.v.vb.c2
 have x3 := hD.v.vb.c3
 have xf := hD.v.vb.f
 have y0 := hD.r.vb.c0
 have y1 := hD.r.vb.c1
 have y2 := hD.r.vb.c2
 have y3 := hD.r.vb.c3
 have yf := hD.r.vb.f
 have hx := hD.hx
 have hn1 : ¬ xb = w.heap.size := by omega
 have hn2 : ¬ w.heap.size = xb := by omega
 go_wp2_with fail
 have hz := hD.r.lt
 have hD6 : Dw w wc rb (p + 71100) (w.heap.size + 1) a n c U a' m c' Q := ⟨hD.rs, hD.but, hlt, by omega, by omega, hD.ob, hD.op⟩
 exact bodyPost_ret (v := worldW T P a n c a' m c') (by simp [results, Tryz.results17, go_sem, *]) rfl ⟨T, P, a, n, c, U, a', m, c', Q, rfl, ⟨hn, hm⟩, ((((hD6.set (o := 0) (b := w.heap.size) (by omega) (by omega) (.int .i64 T)).set (o := 1) (b := w.heap.size) (by omega) (by omega) (.int .i64 P)).set (o := 2) (b := w.heap.size) (by omega) (by omega) (.slice a n c)).set (o := 3) (b := w.heap.size) (by omega) (by omega) (.slice a' m c'))⟩
end Go.Proofs.YthijeiehcdoidaaGreat
