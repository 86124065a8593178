/- The walk of the law of promise 26. -/
import Derived.Test.YtnkebpbpempmhaaDrawT1
import Derived.Test.YtnkebpbpempmhaaTchO
import Derived.Test.YtnkebpbpempmhaaITch9
import Derived.Handy
import Derived.Deep.RegionHeld3
import Derived.Deep.DeepCutAuto
namespace Go.Proofs.Ytnkebpbpempmhaa
open Go.RowKit
set_option linter.unusedVariables false
set_option linter.unusedSimpArgs false

set_option maxRecDepth 20000 in
set_option maxHeartbeats 8000000 in
theorem fnTouchOut_walk (a : Option Addr) (len cap : Nat) (w : World) (hb : Bytes w a len cap) :
    Calls Try.prog 6 #[.slice a len cap] w fun e w' => e = .returned (.bool true) ∧ Below w.heap.size w w' := by
  have hset := cset_map
  go_enter Try.func6, Try.ntmps6
  go_upto_region 4 with (go_at_call 17; refine (drawTouch_any _ _ _ _ hb).mono ?_; rintro e w1 ⟨k, g, h, x, y, m, c, d, u, v, rfl, ⟨nk, ng, nh⟩, ⟨nx, ny⟩, ⟨nm, nc, nd⟩, ⟨nu, nv⟩, hb1⟩)
  · go_wp2_with fail
    go_ret
    exact ⟨rfl, Below.refl _ _⟩
  have hA : AL w ((((w1.alloc (.cells #[.int .i64 k, .int .i64 g, .int .i64 h] 34)).alloc (.cells #[.int .i64 x, .int .i64 y] 24)).alloc (.cells #[.int .i64 m, .int .i64 c, .int .i64 d] 34)).alloc (.cells #[.int .i64 u, .int .i64 v] 24)) [(w1.heap.size + 1 + 1 + 1, 2, (fun j => [u, v].getD j 0)), (w1.heap.size + 1 + 1, 3, (fun j => [m, c, d].getD j 0)), (w1.heap.size + 1, 2, (fun j => [x, y].getD j 0)), (w1.heap.size, 3, (fun j => [k, g, h].getD j 0))] := ((((((AL.nil w).call hb1).new (w1.heap.size) 3 (fun j => [k, g, h].getD j 0) (by simp) (by intro i hi; rcases (show i = 0 ∨ i = 1 ∨ i = 2 by omega) with rfl | rfl | rfl <;> rfl)).new (w1.heap.size + 1) 2 (fun j => [x, y].getD j 0) (by simp) (by intro i hi; rcases (show i = 0 ∨ i = 1 by omega) with rfl | rfl <;> rfl)).new (w1.heap.size + 1 + 1) 3 (fun j => [m, c, d].getD j 0) (by simp) (by intro i hi; rcases (show i = 0 ∨ i = 1 ∨ i = 2 by omega) with rfl | rfl | rfl <;> rfl)).new (w1.heap.size + 1 + 1 + 1) 2 (fun j => [u, v].getD j 0) (by simp) (by intro i hi; rcases (show i = 0 ∨ i = 1 by omega) with rfl | rfl <;> rfl))
  generalize ((((w1.alloc (.cells #[.int .i64 k, .int .i64 g, .int .i64 h] 34)).alloc (.cells #[.int .i64 x, .int .i64 y] 24)).alloc (.cells #[.int .i64 m, .int .i64 c, .int .i64 d] 34)).alloc (.cells #[.int .i64 u, .int .i64 v] 24)) = w0 at *
  generalize w1.heap.size = ab at *
  clear hb1 hb w1
  obtain ⟨⟨X, Y, D⟩, K, e1⟩ : ∃ F K, toT k g h x y m c d u v = (F, K) := ⟨_, _, rfl⟩
  have gq40 : Al w w0 (ab) 3 (fun j => [k, g, h].getD j 0) := hA.get (x := (ab, 3, (fun j => [k, g, h].getD j 0))) (by simp)
  have cq4x0c0 := (gq40).2.2.1 0 (by omega)
  have cq4x0f0 := (gq40).2.2.2 0 (by omega)
  have cq4x0c1 := (gq40).2.2.1 1 (by omega)
  have cq4x0f1 := (gq40).2.2.2 1 (by omega)
  have cq4x0c2 := (gq40).2.2.1 2 (by omega)
  have cq4x0f2 := (gq40).2.2.2 2 (by omega)
  clear gq40
  have gq41 : Al w w0 (ab + 1) 2 (fun j => [x, y].getD j 0) := hA.get (x := (ab + 1, 2, (fun j => [x, y].getD j 0))) (by simp)
  have cq4x1c0 := (gq41).2.2.1 0 (by omega)
  have cq4x1f0 := (gq41).2.2.2 0 (by omega)
  have cq4x1c1 := (gq41).2.2.1 1 (by omega)
  have cq4x1f1 := (gq41).2.2.2 1 (by omega)
  clear gq41
  have gq42 : Al w w0 (ab + 1 + 1) 3 (fun j => [m, c, d].getD j 0) := hA.get (x := (ab + 1 + 1, 3, (fun j => [m, c, d].getD j 0))) (by simp)
  have cq4x2c0 := (gq42).2.2.1 0 (by omega)
  have cq4x2f0 := (gq42).2.2.2 0 (by omega)
  have cq4x2c1 := (gq42).2.2.1 1 (by omega)
  have cq4x2f1 := (gq42).2.2.2 1 (by omega)
  have cq4x2c2 := (gq42).2.2.1 2 (by omega)
  have cq4x2f2 := (gq42).2.2.2 2 (by omega)
  clear gq42
  have gq43 : Al w w0 (ab + 1 + 1 + 1) 2 (fun j => [u, v].getD j 0) := hA.get (x := (ab + 1 + 1 + 1, 2, (fun j => [u, v].getD j 0))) (by simp)
  have cq4x3c0 := (gq43).2.2.1 0 (by omega)
  have cq4x3f0 := (gq43).2.2.2 0 (by omega)
  have cq4x3c1 := (gq43).2.2.1 1 (by omega)
  have cq4x3f1 := (gq43).2.2.2 1 (by omega)
  clear gq43
  go_upto_region 4 with fail
  go_cut [7, 8] (fun s7 s8 wc => ∃ (ha : Nat), s7 = .pointer (some ⟨ha, 0, none⟩) ∧ s8 = .bool K ∧ (ab + 1 + 1 + 1 < ha) ∧ AL w wc [(ha, 3, (fun j => [X, Y, D].getD j 0)), (ab + 1 + 1 + 1, 2, (fun j => [u, v].getD j 0)), (ab + 1 + 1, 3, (fun j => [m, c, d].getD j 0)), (ab + 1, 2, (fun j => [x, y].getD j 0)), (ab, 3, (fun j => [k, g, h].getD j 0))])
  case first =>
    go_wp2_with (go_at_call 18; refine (touch_q k g h x y m c d u v X Y D K _ (by with_reducible assumption)).mono ?_; rintro e w2 ⟨rfl, hb2⟩)
    go_meet
    have hA2 := hA.call hb2
    have l0 : ab + 1 + 1 + 1 < w2.heap.size := hA2.lt (x := (ab + 1 + 1 + 1, 2, (fun j => [u, v].getD j 0))) (by simp)
    
    exact ⟨_, rfl, rfl, (by omega), hA2.new _ 3 _ rfl (by intro i hi; rcases (show i = 0 ∨ i = 1 ∨ i = 2 by omega) with rfl | rfl | rfl <;> rfl)⟩
  case rest =>
  clear hA cq4x0c0 cq4x0f0 cq4x0c1 cq4x0f1 cq4x0c2 cq4x0f2 cq4x1c0 cq4x1f0 cq4x1c1 cq4x1f1 cq4x2c0 cq4x2f0 cq4x2c1 cq4x2f1 cq4x2c2 cq4x2f2 cq4x3c0 cq4x3f0 cq4x3c1 cq4x3f1
  obtain ⟨ha, rfl, rfl, lha, hA⟩ := hcut
  have gq50 : Al w wc (ab) 3 (fun j => [k, g, h].getD j 0) := hA.get (x := (ab, 3, (fun j => [k, g, h].getD j 0))) (by simp)
  have cq5x0c0 := (gq50).2.2.1 0 (by omega)
  have cq5x0f0 := (gq50).2.2.2 0 (by omega)
  have cq5x0c1 := (gq50).2.2.1 1 (by omega)
  have cq5x0f1 := (gq50).2.2.2 1 (by omega)
  have cq5x0c2 := (gq50).2.2.1 2 (by omega)
  have cq5x0f2 := (gq50).2.2.2 2 (by omega)
  clear gq50
  have gq51 : Al w wc (ab + 1) 2 (fun j => [x, y].getD j 0) := hA.get (x := (ab + 1, 2, (fun j => [x, y].getD j 0))) (by simp)
  have cq5x1c0 := (gq51).2.2.1 0 (by omega)
  have cq5x1f0 := (gq51).2.2.2 0 (by omega)
  have cq5x1c1 := (gq51).2.2.1 1 (by omega)
  have cq5x1f1 := (gq51).2.2.2 1 (by omega)
  clear gq51
  have gq52 : Al w wc (ab + 1 + 1) 3 (fun j => [m, c, d].getD j 0) := hA.get (x := (ab + 1 + 1, 3, (fun j => [m, c, d].getD j 0))) (by simp)
  have cq5x2c0 := (gq52).2.2.1 0 (by omega)
  have cq5x2f0 := (gq52).2.2.2 0 (by omega)
  have cq5x2c1 := (gq52).2.2.1 1 (by omega)
  have cq5x2f1 := (gq52).2.2.2 1 (by omega)
  have cq5x2c2 := (gq52).2.2.1 2 (by omega)
  have cq5x2f2 := (gq52).2.2.2 2 (by omega)
  clear gq52
  have gq53 : Al w wc (ab + 1 + 1 + 1) 2 (fun j => [u, v].getD j 0) := hA.get (x := (ab + 1 + 1 + 1, 2, (fun j => [u, v].getD j 0))) (by simp)
  have cq5x3c0 := (gq53).2.2.1 0 (by omega)
  have cq5x3f0 := (gq53).2.2.2 0 (by omega)
  have cq5x3c1 := (gq53).2.2.1 1 (by omega)
  have cq5x3f1 := (gq53).2.2.2 1 (by omega)
  clear gq53
  go_upto_region 5 with fail
  go_cut [9, 10] (fun s9 s10 wc => ∃ (hc : Nat), s9 = .pointer (some ⟨hc, 0, none⟩) ∧ s10 = .bool K ∧ (ab + 1 + 1 + 1 < hc ∧ ha < hc) ∧ AL w wc [(hc, 3, (fun j => [X, Y, D].getD j 0)), (ha, 3, (fun j => [X, Y, D].getD j 0)), (ab + 1 + 1 + 1, 2, (fun j => [u, v].getD j 0)), (ab + 1 + 1, 3, (fun j => [m, c, d].getD j 0)), (ab + 1, 2, (fun j => [x, y].getD j 0)), (ab, 3, (fun j => [k, g, h].getD j 0))])
  case first =>
    go_wp2_with (go_at_call 19; refine (sTouch_q k g h x y m c d u v X Y D K _ (by with_reducible assumption)).mono ?_; rintro e w2 ⟨rfl, hb2⟩)
    go_meet
    have hA2 := hA.call hb2
    have l0 : ab + 1 + 1 + 1 < w2.heap.size := hA2.lt (x := (ab + 1 + 1 + 1, 2, (fun j => [u, v].getD j 0))) (by simp)
    have l1 : ha < w2.heap.size := hA2.lt (x := (ha, 3, (fun j => [X, Y, D].getD j 0))) (by simp)
    exact ⟨_, rfl, rfl, (by omega), hA2.new _ 3 _ rfl (by intro i hi; rcases (show i = 0 ∨ i = 1 ∨ i = 2 by omega) with rfl | rfl | rfl <;> rfl)⟩
  case rest =>
  clear hA cq5x0c0 cq5x0f0 cq5x0c1 cq5x0f1 cq5x0c2 cq5x0f2 cq5x1c0 cq5x1f0 cq5x1c1 cq5x1f1 cq5x2c0 cq5x2f0 cq5x2c1 cq5x2f1 cq5x2c2 cq5x2f2 cq5x3c0 cq5x3f0 cq5x3c1 cq5x3f1
  obtain ⟨hc, rfl, rfl, ⟨lhc, lhcha⟩, hA⟩ := hcut
  have gz0 : Al w wc (ab) 3 (fun j => [k, g, h].getD j 0) := hA.get (x := (ab, 3, (fun j => [k, g, h].getD j 0))) (by simp)
  have czx0c0 := (gz0).2.2.1 0 (by omega)
  have czx0f0 := (gz0).2.2.2 0 (by omega)
  have czx0c1 := (gz0).2.2.1 1 (by omega)
  have czx0f1 := (gz0).2.2.2 1 (by omega)
  have czx0c2 := (gz0).2.2.1 2 (by omega)
  have czx0f2 := (gz0).2.2.2 2 (by omega)
  clear gz0
  have gz1 : Al w wc (ab + 1) 2 (fun j => [x, y].getD j 0) := hA.get (x := (ab + 1, 2, (fun j => [x, y].getD j 0))) (by simp)
  have czx1c0 := (gz1).2.2.1 0 (by omega)
  have czx1f0 := (gz1).2.2.2 0 (by omega)
  have czx1c1 := (gz1).2.2.1 1 (by omega)
  have czx1f1 := (gz1).2.2.2 1 (by omega)
  clear gz1
  have gz2 : Al w wc (ab + 1 + 1) 3 (fun j => [m, c, d].getD j 0) := hA.get (x := (ab + 1 + 1, 3, (fun j => [m, c, d].getD j 0))) (by simp)
  have czx2c0 := (gz2).2.2.1 0 (by omega)
  have czx2f0 := (gz2).2.2.2 0 (by omega)
  have czx2c1 := (gz2).2.2.1 1 (by omega)
  have czx2f1 := (gz2).2.2.2 1 (by omega)
  have czx2c2 := (gz2).2.2.1 2 (by omega)
  have czx2f2 := (gz2).2.2.2 2 (by omega)
  clear gz2
  have gz3 : Al w wc (ab + 1 + 1 + 1) 2 (fun j => [u, v].getD j 0) := hA.get (x := (ab + 1 + 1 + 1, 2, (fun j => [u, v].getD j 0))) (by simp)
  have czx3c0 := (gz3).2.2.1 0 (by omega)
  have czx3f0 := (gz3).2.2.2 0 (by omega)
  have czx3c1 := (gz3).2.2.1 1 (by omega)
  have czx3f1 := (gz3).2.2.2 1 (by omega)
  clear gz3
  have gz4 : Al w wc (ha) 3 (fun j => [X, Y, D].getD j 0) := hA.get (x := (ha, 3, (fun j => [X, Y, D].getD j 0))) (by simp)
  have czx4c0 := (gz4).2.2.1 0 (by omega)
  have czx4f0 := (gz4).2.2.2 0 (by omega)
  have czx4c1 := (gz4).2.2.1 1 (by omega)
  have czx4f1 := (gz4).2.2.2 1 (by omega)
  have czx4c2 := (gz4).2.2.1 2 (by omega)
  have czx4f2 := (gz4).2.2.2 2 (by omega)
  clear gz4
  have gz5 : Al w wc (hc) 3 (fun j => [X, Y, D].getD j 0) := hA.get (x := (hc, 3, (fun j => [X, Y, D].getD j 0))) (by simp)
  have czx5c0 := (gz5).2.2.1 0 (by omega)
  have czx5f0 := (gz5).2.2.2 0 (by omega)
  have czx5c1 := (gz5).2.2.1 1 (by omega)
  have czx5f1 := (gz5).2.2.2 1 (by omega)
  have czx5c2 := (gz5).2.2.1 2 (by omega)
  have czx5f2 := (gz5).2.2.2 2 (by omega)
  clear gz5
  cases K with
  | false =>
    go_wp2_with fail
    go_ret
    exact ⟨rfl, hA.bel⟩
  | true =>
  obtain ⟨⟨⟨X9, Y9, D9⟩, K9⟩, e9⟩ : ∃ F, toT m c d u v k g h x y = F := ⟨_, rfl⟩
  obtain ⟨_, hD0, ⟨hs1, hs2⟩, _⟩ := (touch_facts e1 e9).2 rfl
  have hD1 := touch_deep e1
  clear e9
  have xx := sq_nonneg X
  have yy := sq_nonneg Y
  have bX := sq_abs_le (a := X) (b := 363) (by omega) (by omega)
  have bY := sq_abs_le (a := Y) (b := 363) (by omega) (by omega)
  clear hs1 hs2 xx yy
  have m1 := mul_bd (a := X) (b := D + 2) (A := 363) (B := 10000002) (by omega) (by omega)
  have m2 := mul_bd (a := Y) (b := D + 2) (A := 363) (B := 10000002) (by omega) (by omega)
  obtain ⟨tx, etx⟩ : ∃ t, (X * (D + 2)).tdiv 256 = t := ⟨_, rfl⟩
  obtain ⟨ty, ety⟩ : ∃ t, (Y * (D + 2)).tdiv 256 = t := ⟨_, rfl⟩
  have m3 := tdiv_bd (x := X * (D + 2)) (B := 4000000000) 256 (by omega)
  have m4 := tdiv_bd (x := Y * (D + 2)) (B := 4000000000) 256 (by omega)
  rw [etx] at m3
  rw [ety] at m4
  unfold B4 at nu nv
  have q1 := i64w (n := D + 2) (by omega)
  have q2 := i64w (n := X * (D + 2)) (by omega)
  have q3 := i64w (n := Y * (D + 2)) (by omega)
  have q4 := i64w (n := tx) (by omega)
  have q5 := i64w (n := ty) (by omega)
  have q6 := i64w (n := u + tx) (by omega)
  have q7 := i64w (n := v + ty) (by omega)
  have hout : Shut (∀ X2 Y2 D2, toT k g h x y m c d (u + tx) (v + ty) = ((X2, Y2, D2), true) → D2 ≤ 6 + D.tdiv 8) := fun X2 Y2 D2 e2 => touch_out e1 etx ety e2
  clear e1
  obtain ⟨U, eU⟩ : ∃ U, u + tx = U := ⟨_, rfl⟩
  obtain ⟨V, eV⟩ : ∃ V, v + ty = V := ⟨_, rfl⟩
  have hout2 : Shut (∀ X2 Y2 D2, toT k g h x y m c d U V = ((X2, Y2, D2), true) → D2 ≤ 6 + D.tdiv 8) := by subst eU; subst eV; exact hout
  clear hout
  go_upto_region 9 with fail
  go_cut [12] (fun s12 wc => ∃ (tb : Nat), s12 = .pointer (some ⟨tb, 0, none⟩) ∧ (ab + 1 + 1 + 1 < tb ∧ ha < tb ∧ hc < tb) ∧ AL w wc [(tb, 2, (fun j => [U, V].getD j 0)), (hc, 3, (fun j => [X, Y, D].getD j 0)), (ha, 3, (fun j => [X, Y, D].getD j 0)), (ab + 1 + 1 + 1, 2, (fun j => [u, v].getD j 0)), (ab + 1 + 1, 3, (fun j => [m, c, d].getD j 0)), (ab + 1, 2, (fun j => [x, y].getD j 0)), (ab, 3, (fun j => [k, g, h].getD j 0))])
  case first =>
    go_wp2_with fail
    go_meet
    have l0 : ab + 1 + 1 + 1 < wc.heap.size := hA.lt (x := (ab + 1 + 1 + 1, 2, (fun j => [u, v].getD j 0))) (by simp)
    have l1 : ha < wc.heap.size := hA.lt (x := (ha, 3, (fun j => [X, Y, D].getD j 0))) (by simp)
    have l2 : hc < wc.heap.size := hA.lt (x := (hc, 3, (fun j => [X, Y, D].getD j 0))) (by simp)
    exact ⟨_, rfl, ⟨l0, l1, l2⟩, hA.new _ 2 _ rfl (by intro i hi; rcases (show i = 0 ∨ i = 1 by omega) with rfl | rfl <;> rfl)⟩
  case rest =>
  clear hA
  obtain ⟨tb, rfl, ⟨lto, ltoa, ltoc⟩, hA⟩ := hcut
  obtain ⟨⟨X2, Y2, D2⟩, K2, e2⟩ : ∃ F K, toT k g h x y m c d U V = (F, K) := ⟨_, _, rfl⟩
  clear eU eV q6 q7
  have gq100 : Al w wc (ab) 3 (fun j => [k, g, h].getD j 0) := hA.get (x := (ab, 3, (fun j => [k, g, h].getD j 0))) (by simp)
  have cq10x0c0 := (gq100).2.2.1 0 (by omega)
  have cq10x0f0 := (gq100).2.2.2 0 (by omega)
  have cq10x0c1 := (gq100).2.2.1 1 (by omega)
  have cq10x0f1 := (gq100).2.2.2 1 (by omega)
  have cq10x0c2 := (gq100).2.2.1 2 (by omega)
  have cq10x0f2 := (gq100).2.2.2 2 (by omega)
  clear gq100
  have gq101 : Al w wc (ab + 1) 2 (fun j => [x, y].getD j 0) := hA.get (x := (ab + 1, 2, (fun j => [x, y].getD j 0))) (by simp)
  have cq10x1c0 := (gq101).2.2.1 0 (by omega)
  have cq10x1f0 := (gq101).2.2.2 0 (by omega)
  have cq10x1c1 := (gq101).2.2.1 1 (by omega)
  have cq10x1f1 := (gq101).2.2.2 1 (by omega)
  clear gq101
  have gq102 : Al w wc (ab + 1 + 1) 3 (fun j => [m, c, d].getD j 0) := hA.get (x := (ab + 1 + 1, 3, (fun j => [m, c, d].getD j 0))) (by simp)
  have cq10x2c0 := (gq102).2.2.1 0 (by omega)
  have cq10x2f0 := (gq102).2.2.2 0 (by omega)
  have cq10x2c1 := (gq102).2.2.1 1 (by omega)
  have cq10x2f1 := (gq102).2.2.2 1 (by omega)
  have cq10x2c2 := (gq102).2.2.1 2 (by omega)
  have cq10x2f2 := (gq102).2.2.2 2 (by omega)
  clear gq102
  have gq103 : Al w wc (tb) 2 (fun j => [U, V].getD j 0) := hA.get (x := (tb, 2, (fun j => [U, V].getD j 0))) (by simp)
  have cq10x3c0 := (gq103).2.2.1 0 (by omega)
  have cq10x3f0 := (gq103).2.2.2 0 (by omega)
  have cq10x3c1 := (gq103).2.2.1 1 (by omega)
  have cq10x3f1 := (gq103).2.2.2 1 (by omega)
  clear gq103
  go_upto_region 10 with fail
  go_cut [13, 14] (fun s13 s14 wc => ∃ (hx2 : Nat), s13 = .pointer (some ⟨hx2, 0, none⟩) ∧ s14 = .bool K2 ∧ (ab + 1 + 1 + 1 < hx2 ∧ tb < hx2 ∧ hc < hx2 ∧ ha < hx2) ∧ AL w wc [(hx2, 3, (fun j => [X2, Y2, D2].getD j 0)), (tb, 2, (fun j => [U, V].getD j 0)), (hc, 3, (fun j => [X, Y, D].getD j 0)), (ha, 3, (fun j => [X, Y, D].getD j 0)), (ab + 1 + 1 + 1, 2, (fun j => [u, v].getD j 0)), (ab + 1 + 1, 3, (fun j => [m, c, d].getD j 0)), (ab + 1, 2, (fun j => [x, y].getD j 0)), (ab, 3, (fun j => [k, g, h].getD j 0))])
  case first =>
    go_wp2_with (go_at_call 18; refine (touch_q k g h x y m c d U V X2 Y2 D2 K2 _ (by with_reducible assumption)).mono ?_; rintro e w2 ⟨rfl, hb2⟩)
    go_meet
    have hA2 := hA.call hb2
    have l0 : ab + 1 + 1 + 1 < w2.heap.size := hA2.lt (x := (ab + 1 + 1 + 1, 2, (fun j => [u, v].getD j 0))) (by simp)
    have l1 : tb < w2.heap.size := hA2.lt (x := (tb, 2, (fun j => [U, V].getD j 0))) (by simp)
    have l2 : hc < w2.heap.size := hA2.lt (x := (hc, 3, (fun j => [X, Y, D].getD j 0))) (by simp)
    have l3 : ha < w2.heap.size := hA2.lt (x := (ha, 3, (fun j => [X, Y, D].getD j 0))) (by simp)
    exact ⟨_, rfl, rfl, (by omega), hA2.new _ 3 _ rfl (by intro i hi; rcases (show i = 0 ∨ i = 1 ∨ i = 2 by omega) with rfl | rfl | rfl <;> rfl)⟩
  case rest =>
  clear hA cq10x0c0 cq10x0f0 cq10x0c1 cq10x0f1 cq10x0c2 cq10x0f2 cq10x1c0 cq10x1f0 cq10x1c1 cq10x1f1 cq10x2c0 cq10x2f0 cq10x2c1 cq10x2f1 cq10x2c2 cq10x2f2 cq10x3c0 cq10x3f0 cq10x3c1 cq10x3f1
  obtain ⟨hx2, rfl, rfl, ⟨lhx2, lhx2tb, lhx2hc, lhx2ha⟩, hA⟩ := hcut
  have gzz0 : Al w wc (hx2) 3 (fun j => [X2, Y2, D2].getD j 0) := hA.get (x := (hx2, 3, (fun j => [X2, Y2, D2].getD j 0))) (by simp)
  have czzx0c0 := (gzz0).2.2.1 0 (by omega)
  have czzx0f0 := (gzz0).2.2.2 0 (by omega)
  have czzx0c1 := (gzz0).2.2.1 1 (by omega)
  have czzx0f1 := (gzz0).2.2.2 1 (by omega)
  have czzx0c2 := (gzz0).2.2.1 2 (by omega)
  have czzx0f2 := (gzz0).2.2.2 2 (by omega)
  clear gzz0
  have gzz1 : Al w wc (ha) 3 (fun j => [X, Y, D].getD j 0) := hA.get (x := (ha, 3, (fun j => [X, Y, D].getD j 0))) (by simp)
  have czzx1c0 := (gzz1).2.2.1 0 (by omega)
  have czzx1f0 := (gzz1).2.2.2 0 (by omega)
  have czzx1c1 := (gzz1).2.2.1 1 (by omega)
  have czzx1f1 := (gzz1).2.2.2 1 (by omega)
  have czzx1c2 := (gzz1).2.2.1 2 (by omega)
  have czzx1f2 := (gzz1).2.2.2 2 (by omega)
  clear gzz1
  obtain ⟨E, eE⟩ : ∃ E, D.tdiv 8 = E := ⟨_, rfl⟩
  have m5 := tdiv_bd (x := D) (B := 10000000) 8 (by omega)
  rw [eE] at m5
  have q8 := i64w (n := E) (by omega)
  have q9 := i64w (n := 6 + E) (by omega)
  cases K2 with
  | false =>
    clear hout2 e2
    go_wp2_with fail
    go_ret
    exact ⟨rfl, hA.bel⟩
  | true =>
    have hh := hout2.out X2 Y2 D2 e2
    rw [eE] at hh
    have th : (D2 ≤ 6 + E) = True := eq_true hh
    clear hout2 e2
    go_wp2_with fail
    go_ret
    exact ⟨rfl, hA.bel⟩
end Go.Proofs.Ytnkebpbpempmhaa
