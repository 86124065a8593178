/- The walk of the law of promise 24. -/
import Derived.Test.YtnkebpbpempmhaaDrawT1
import Derived.Test.YtnkebpbpempmhaaTchM
import Derived.Test.YtnkebpbpempmhaaITch9
import Derived.Test.YtnkebpbpempmhaaSpanM
import Derived.Handy
import Derived.Deep.RegionHeld3
import Derived.Deep.DeepCutAuto
namespace Go.Proofs.Ytnkebpbpempmhaa
open Go.RowKit
set_option linter.unusedVariables false
set_option linter.unusedSimpArgs false

theorem shb_q (k g h x y A B C D : Int) (w : World) (eA : sbA k g h x y = A) (eB : sbB k g h x y = B) (eC : sbC k g h x y = C) (eD : sbD k g h x y = D) :
    Calls Try.prog 21 #[s3 k g h, vv x y] w fun e w' => e = .returned (b4 A B C D) ∧ Below w.heap.size w w' := by
  subst eA; subst eB; subst eC; subst eD; exact shapeBounds_any k g h x y w
theorem bmeets_q (a b c d r s t u : Int) (K : Bool) (w : World) (e : (bokB a b c d && (bokB r s t u && (leB a b t u && leB r s c d))) = K) :
    Calls Try.prog 20 #[b4 a b c d, b4 r s t u] w fun e w' => e = .returned (.bool K) ∧ Below w.heap.size w w' := by
  subst e; exact boxMeets_any a b c d r s t u w
set_option maxRecDepth 20000 in
set_option maxHeartbeats 8000000 in
theorem fnTouch_walk (a : Option Addr) (len cap : Nat) (w : World) (hb : Bytes w a len cap) :
    Calls Try.prog 4 #[.slice a len cap] w fun e w' => e = .returned (.bool true) ∧ Below w.heap.size w w' := by
  have hset := cset_map
  go_enter Try.func4, Try.ntmps4
  go_upto_region 4 with (go_at_call 17; refine (drawTouch_any _ _ _ _ hb).mono ?_; rintro e w1 ⟨k, g, h, x, y, m, c, d, u, v, rfl, ⟨nk, ng, nh⟩, ⟨nx, ny⟩, ⟨nm, nc, nd⟩, ⟨nu, nv⟩, hb1⟩)
  · go_wp2_with fail
    go_ret
    exact ⟨rfl, Below.refl _ _⟩
  have hA : AL w ((((w1.alloc (.cells #[.int .i64 k, .int .i64 g, .int .i64 h] 34)).alloc (.cells #[.int .i64 x, .int .i64 y] 24)).alloc (.cells #[.int .i64 m, .int .i64 c, .int .i64 d] 34)).alloc (.cells #[.int .i64 u, .int .i64 v] 24)) [(w1.heap.size + 1 + 1 + 1, 2, (fun j => [u, v].getD j 0)), (w1.heap.size + 1 + 1, 3, (fun j => [m, c, d].getD j 0)), (w1.heap.size + 1, 2, (fun j => [x, y].getD j 0)), (w1.heap.size, 3, (fun j => [k, g, h].getD j 0))] := ((((((AL.nil w).call hb1).new (w1.heap.size) 3 (fun j => [k, g, h].getD j 0) (by simp) (by intro i hi; rcases (show i = 0 ∨ i = 1 ∨ i = 2 by omega) with rfl | rfl | rfl <;> rfl)).new (w1.heap.size + 1) 2 (fun j => [x, y].getD j 0) (by simp) (by intro i hi; rcases (show i = 0 ∨ i = 1 by omega) with rfl | rfl <;> rfl)).new (w1.heap.size + 1 + 1) 3 (fun j => [m, c, d].getD j 0) (by simp) (by intro i hi; rcases (show i = 0 ∨ i = 1 ∨ i = 2 by omega) with rfl | rfl | rfl <;> rfl)).new (w1.heap.size + 1 + 1 + 1) 2 (fun j => [u, v].getD j 0) (by simp) (by intro i hi; rcases (show i = 0 ∨ i = 1 by omega) with rfl | rfl <;> rfl))
  generalize ((((w1.alloc (.cells #[.int .i64 k, .int .i64 g, .int .i64 h] 34)).alloc (.cells #[.int .i64 x, .int .i64 y] 24)).alloc (.cells #[.int .i64 m, .int .i64 c, .int .i64 d] 34)).alloc (.cells #[.int .i64 u, .int .i64 v] 24)) = w0 at *
  generalize w1.heap.size = ab at *
  clear hb1 hb w1
  obtain ⟨⟨X, Y, D⟩, K, e1⟩ : ∃ F K, toT k g h x y m c d u v = (F, K) := ⟨_, _, rfl⟩
  obtain ⟨⟨X2, Y2, D2⟩, K2, e2⟩ : ∃ F K, toT m c d u v k g h x y = (F, K) := ⟨_, _, rfl⟩
  have hkk := (touch_facts e1 e2).1
  subst hkk
  have gq40 : Al w w0 (ab) 3 (fun j => [k, g, h].getD j 0) := hA.get (x := (ab, 3, (fun j => [k, g, h].getD j 0))) (by simp)
  have cq4x0c0 := (gq40).2.2.1 0 (by omega)
  have cq4x0f0 := (gq40).2.2.2 0 (by omega)
  have cq4x0c1 := (gq40).2.2.1 1 (by omega)
  have cq4x0f1 := (gq40).2.2.2 1 (by omega)
  have cq4x0c2 := (gq40).2.2.1 2 (by omega)
  have cq4x0f2 := (gq40).2.2.2 2 (by omega)
  clear gq40
  have gq41 : Al w w0 (ab + 1) 2 (fun j => [x, y].getD j 0) := hA.get (x := (ab + 1, 2, (fun j => [x, y].getD j 0))) (by simp)
  have cq4x1c0 := (gq41).2.2.1 0 (by omega)
  have cq4x1f0 := (gq41).2.2.2 0 (by omega)
  have cq4x1c1 := (gq41).2.2.1 1 (by omega)
  have cq4x1f1 := (gq41).2.2.2 1 (by omega)
  clear gq41
  have gq42 : Al w w0 (ab + 1 + 1) 3 (fun j => [m, c, d].getD j 0) := hA.get (x := (ab + 1 + 1, 3, (fun j => [m, c, d].getD j 0))) (by simp)
  have cq4x2c0 := (gq42).2.2.1 0 (by omega)
  have cq4x2f0 := (gq42).2.2.2 0 (by omega)
  have cq4x2c1 := (gq42).2.2.1 1 (by omega)
  have cq4x2f1 := (gq42).2.2.2 1 (by omega)
  have cq4x2c2 := (gq42).2.2.1 2 (by omega)
  have cq4x2f2 := (gq42).2.2.2 2 (by omega)
  clear gq42
  have gq43 : Al w w0 (ab + 1 + 1 + 1) 2 (fun j => [u, v].getD j 0) := hA.get (x := (ab + 1 + 1 + 1, 2, (fun j => [u, v].getD j 0))) (by simp)
  have cq4x3c0 := (gq43).2.2.1 0 (by omega)
  have cq4x3f0 := (gq43).2.2.2 0 (by omega)
  have cq4x3c1 := (gq43).2.2.1 1 (by omega)
  have cq4x3f1 := (gq43).2.2.2 1 (by omega)
  clear gq43
  go_upto_region 4 with fail
  go_cut [7, 8] (fun s7 s8 wc => ∃ (ha : Nat), s7 = .pointer (some ⟨ha, 0, none⟩) ∧ s8 = .bool K2 ∧ (ab + 1 + 1 + 1 < ha) ∧ AL w wc [(ha, 3, (fun j => [X, Y, D].getD j 0)), (ab + 1 + 1 + 1, 2, (fun j => [u, v].getD j 0)), (ab + 1 + 1, 3, (fun j => [m, c, d].getD j 0)), (ab + 1, 2, (fun j => [x, y].getD j 0)), (ab, 3, (fun j => [k, g, h].getD j 0))])
  case first =>
    go_wp2_with (go_at_call 18; refine (touch_q k g h x y m c d u v X Y D K2 _ (by with_reducible assumption)).mono ?_; rintro e w2 ⟨rfl, hb2⟩)
    go_meet
    have hA2 := hA.call hb2
    have l0 : ab + 1 + 1 + 1 < w2.heap.size := hA2.lt (x := (ab + 1 + 1 + 1, 2, (fun j => [u, v].getD j 0))) (by simp)
    
    exact ⟨_, rfl, rfl, (by omega), hA2.new _ 3 _ rfl (by intro i hi; rcases (show i = 0 ∨ i = 1 ∨ i = 2 by omega) with rfl | rfl | rfl <;> rfl)⟩
  case rest =>
  clear hA cq4x0c0 cq4x0f0 cq4x0c1 cq4x0f1 cq4x0c2 cq4x0f2 cq4x1c0 cq4x1f0 cq4x1c1 cq4x1f1 cq4x2c0 cq4x2f0 cq4x2c1 cq4x2f1 cq4x2c2 cq4x2f2 cq4x3c0 cq4x3f0 cq4x3c1 cq4x3f1
  obtain ⟨ha, rfl, rfl, lha, hA⟩ := hcut
  have gq50 : Al w wc (ab) 3 (fun j => [k, g, h].getD j 0) := hA.get (x := (ab, 3, (fun j => [k, g, h].getD j 0))) (by simp)
  have cq5x0c0 := (gq50).2.2.1 0 (by omega)
  have cq5x0f0 := (gq50).2.2.2 0 (by omega)
  have cq5x0c1 := (gq50).2.2.1 1 (by omega)
  have cq5x0f1 := (gq50).2.2.2 1 (by omega)
  have cq5x0c2 := (gq50).2.2.1 2 (by omega)
  have cq5x0f2 := (gq50).2.2.2 2 (by omega)
  clear gq50
  have gq51 : Al w wc (ab + 1) 2 (fun j => [x, y].getD j 0) := hA.get (x := (ab + 1, 2, (fun j => [x, y].getD j 0))) (by simp)
  have cq5x1c0 := (gq51).2.2.1 0 (by omega)
  have cq5x1f0 := (gq51).2.2.2 0 (by omega)
  have cq5x1c1 := (gq51).2.2.1 1 (by omega)
  have cq5x1f1 := (gq51).2.2.2 1 (by omega)
  clear gq51
  have gq52 : Al w wc (ab + 1 + 1) 3 (fun j => [m, c, d].getD j 0) := hA.get (x := (ab + 1 + 1, 3, (fun j => [m, c, d].getD j 0))) (by simp)
  have cq5x2c0 := (gq52).2.2.1 0 (by omega)
  have cq5x2f0 := (gq52).2.2.2 0 (by omega)
  have cq5x2c1 := (gq52).2.2.1 1 (by omega)
  have cq5x2f1 := (gq52).2.2.2 1 (by omega)
  have cq5x2c2 := (gq52).2.2.1 2 (by omega)
  have cq5x2f2 := (gq52).2.2.2 2 (by omega)
  clear gq52
  have gq53 : Al w wc (ab + 1 + 1 + 1) 2 (fun j => [u, v].getD j 0) := hA.get (x := (ab + 1 + 1 + 1, 2, (fun j => [u, v].getD j 0))) (by simp)
  have cq5x3c0 := (gq53).2.2.1 0 (by omega)
  have cq5x3f0 := (gq53).2.2.2 0 (by omega)
  have cq5x3c1 := (gq53).2.2.1 1 (by omega)
  have cq5x3f1 := (gq53).2.2.2 1 (by omega)
  clear gq53
  go_upto_region 5 with fail
  go_cut [9, 10] (fun s9 s10 wc => ∃ (hc : Nat), s9 = .pointer (some ⟨hc, 0, none⟩) ∧ s10 = .bool K2 ∧ (ab + 1 + 1 + 1 < hc ∧ ha < hc) ∧ AL w wc [(hc, 3, (fun j => [X, Y, D].getD j 0)), (ha, 3, (fun j => [X, Y, D].getD j 0)), (ab + 1 + 1 + 1, 2, (fun j => [u, v].getD j 0)), (ab + 1 + 1, 3, (fun j => [m, c, d].getD j 0)), (ab + 1, 2, (fun j => [x, y].getD j 0)), (ab, 3, (fun j => [k, g, h].getD j 0))])
  case first =>
    go_wp2_with (go_at_call 19; refine (sTouch_q k g h x y m c d u v X Y D K2 _ (by with_reducible assumption)).mono ?_; rintro e w2 ⟨rfl, hb2⟩)
    go_meet
    have hA2 := hA.call hb2
    have l0 : ab + 1 + 1 + 1 < w2.heap.size := hA2.lt (x := (ab + 1 + 1 + 1, 2, (fun j => [u, v].getD j 0))) (by simp)
    have l1 : ha < w2.heap.size := hA2.lt (x := (ha, 3, (fun j => [X, Y, D].getD j 0))) (by simp)
    exact ⟨_, rfl, rfl, (by omega), hA2.new _ 3 _ rfl (by intro i hi; rcases (show i = 0 ∨ i = 1 ∨ i = 2 by omega) with rfl | rfl | rfl <;> rfl)⟩
  case rest =>
  clear hA cq5x0c0 cq5x0f0 cq5x0c1 cq5x0f1 cq5x0c2 cq5x0f2 cq5x1c0 cq5x1f0 cq5x1c1 cq5x1f1 cq5x2c0 cq5x2f0 cq5x2c1 cq5x2f1 cq5x2c2 cq5x2f2 cq5x3c0 cq5x3f0 cq5x3c1 cq5x3f1
  obtain ⟨hc, rfl, rfl, ⟨lhc, lhcha⟩, hA⟩ := hcut
  have gq60 : Al w wc (ab) 3 (fun j => [k, g, h].getD j 0) := hA.get (x := (ab, 3, (fun j => [k, g, h].getD j 0))) (by simp)
  have cq6x0c0 := (gq60).2.2.1 0 (by omega)
  have cq6x0f0 := (gq60).2.2.2 0 (by omega)
  have cq6x0c1 := (gq60).2.2.1 1 (by omega)
  have cq6x0f1 := (gq60).2.2.2 1 (by omega)
  have cq6x0c2 := (gq60).2.2.1 2 (by omega)
  have cq6x0f2 := (gq60).2.2.2 2 (by omega)
  clear gq60
  have gq61 : Al w wc (ab + 1) 2 (fun j => [x, y].getD j 0) := hA.get (x := (ab + 1, 2, (fun j => [x, y].getD j 0))) (by simp)
  have cq6x1c0 := (gq61).2.2.1 0 (by omega)
  have cq6x1f0 := (gq61).2.2.2 0 (by omega)
  have cq6x1c1 := (gq61).2.2.1 1 (by omega)
  have cq6x1f1 := (gq61).2.2.2 1 (by omega)
  clear gq61
  have gq62 : Al w wc (ab + 1 + 1) 3 (fun j => [m, c, d].getD j 0) := hA.get (x := (ab + 1 + 1, 3, (fun j => [m, c, d].getD j 0))) (by simp)
  have cq6x2c0 := (gq62).2.2.1 0 (by omega)
  have cq6x2f0 := (gq62).2.2.2 0 (by omega)
  have cq6x2c1 := (gq62).2.2.1 1 (by omega)
  have cq6x2f1 := (gq62).2.2.2 1 (by omega)
  have cq6x2c2 := (gq62).2.2.1 2 (by omega)
  have cq6x2f2 := (gq62).2.2.2 2 (by omega)
  clear gq62
  have gq63 : Al w wc (ab + 1 + 1 + 1) 2 (fun j => [u, v].getD j 0) := hA.get (x := (ab + 1 + 1 + 1, 2, (fun j => [u, v].getD j 0))) (by simp)
  have cq6x3c0 := (gq63).2.2.1 0 (by omega)
  have cq6x3f0 := (gq63).2.2.2 0 (by omega)
  have cq6x3c1 := (gq63).2.2.1 1 (by omega)
  have cq6x3f1 := (gq63).2.2.2 1 (by omega)
  clear gq63
  go_upto_region 6 with fail
  go_cut [11, 12] (fun s11 s12 wc => ∃ (hd : Nat), s11 = .pointer (some ⟨hd, 0, none⟩) ∧ s12 = .bool K2 ∧ (ab + 1 + 1 + 1 < hd ∧ ha < hd ∧ hc < hd) ∧ AL w wc [(hd, 3, (fun j => [X2, Y2, D2].getD j 0)), (hc, 3, (fun j => [X, Y, D].getD j 0)), (ha, 3, (fun j => [X, Y, D].getD j 0)), (ab + 1 + 1 + 1, 2, (fun j => [u, v].getD j 0)), (ab + 1 + 1, 3, (fun j => [m, c, d].getD j 0)), (ab + 1, 2, (fun j => [x, y].getD j 0)), (ab, 3, (fun j => [k, g, h].getD j 0))])
  case first =>
    go_wp2_with (go_at_call 18; refine (touch_q m c d u v k g h x y X2 Y2 D2 K2 _ (by with_reducible assumption)).mono ?_; rintro e w2 ⟨rfl, hb2⟩)
    go_meet
    have hA2 := hA.call hb2
    have l0 : ab + 1 + 1 + 1 < w2.heap.size := hA2.lt (x := (ab + 1 + 1 + 1, 2, (fun j => [u, v].getD j 0))) (by simp)
    have l1 : ha < w2.heap.size := hA2.lt (x := (ha, 3, (fun j => [X, Y, D].getD j 0))) (by simp)
    have l2 : hc < w2.heap.size := hA2.lt (x := (hc, 3, (fun j => [X, Y, D].getD j 0))) (by simp)
    exact ⟨_, rfl, rfl, (by omega), hA2.new _ 3 _ rfl (by intro i hi; rcases (show i = 0 ∨ i = 1 ∨ i = 2 by omega) with rfl | rfl | rfl <;> rfl)⟩
  case rest =>
  clear hA cq6x0c0 cq6x0f0 cq6x0c1 cq6x0f1 cq6x0c2 cq6x0f2 cq6x1c0 cq6x1f0 cq6x1c1 cq6x1f1 cq6x2c0 cq6x2f0 cq6x2c1 cq6x2f1 cq6x2c2 cq6x2f2 cq6x3c0 cq6x3f0 cq6x3c1 cq6x3f1
  obtain ⟨hd, rfl, rfl, ⟨lhd, lhdha, lhdhc⟩, hA⟩ := hcut
  have gz0 : Al w wc (ab) 3 (fun j => [k, g, h].getD j 0) := hA.get (x := (ab, 3, (fun j => [k, g, h].getD j 0))) (by simp)
  have czx0c0 := (gz0).2.2.1 0 (by omega)
  have czx0f0 := (gz0).2.2.2 0 (by omega)
  have czx0c1 := (gz0).2.2.1 1 (by omega)
  have czx0f1 := (gz0).2.2.2 1 (by omega)
  have czx0c2 := (gz0).2.2.1 2 (by omega)
  have czx0f2 := (gz0).2.2.2 2 (by omega)
  clear gz0
  have gz1 : Al w wc (ab + 1) 2 (fun j => [x, y].getD j 0) := hA.get (x := (ab + 1, 2, (fun j => [x, y].getD j 0))) (by simp)
  have czx1c0 := (gz1).2.2.1 0 (by omega)
  have czx1f0 := (gz1).2.2.2 0 (by omega)
  have czx1c1 := (gz1).2.2.1 1 (by omega)
  have czx1f1 := (gz1).2.2.2 1 (by omega)
  clear gz1
  have gz2 : Al w wc (ab + 1 + 1) 3 (fun j => [m, c, d].getD j 0) := hA.get (x := (ab + 1 + 1, 3, (fun j => [m, c, d].getD j 0))) (by simp)
  have czx2c0 := (gz2).2.2.1 0 (by omega)
  have czx2f0 := (gz2).2.2.2 0 (by omega)
  have czx2c1 := (gz2).2.2.1 1 (by omega)
  have czx2f1 := (gz2).2.2.2 1 (by omega)
  have czx2c2 := (gz2).2.2.1 2 (by omega)
  have czx2f2 := (gz2).2.2.2 2 (by omega)
  clear gz2
  have gz3 : Al w wc (ab + 1 + 1 + 1) 2 (fun j => [u, v].getD j 0) := hA.get (x := (ab + 1 + 1 + 1, 2, (fun j => [u, v].getD j 0))) (by simp)
  have czx3c0 := (gz3).2.2.1 0 (by omega)
  have czx3f0 := (gz3).2.2.2 0 (by omega)
  have czx3c1 := (gz3).2.2.1 1 (by omega)
  have czx3f1 := (gz3).2.2.2 1 (by omega)
  clear gz3
  have gz4 : Al w wc (ha) 3 (fun j => [X, Y, D].getD j 0) := hA.get (x := (ha, 3, (fun j => [X, Y, D].getD j 0))) (by simp)
  have czx4c0 := (gz4).2.2.1 0 (by omega)
  have czx4f0 := (gz4).2.2.2 0 (by omega)
  have czx4c1 := (gz4).2.2.1 1 (by omega)
  have czx4f1 := (gz4).2.2.2 1 (by omega)
  have czx4c2 := (gz4).2.2.1 2 (by omega)
  have czx4f2 := (gz4).2.2.2 2 (by omega)
  clear gz4
  have gz5 : Al w wc (hc) 3 (fun j => [X, Y, D].getD j 0) := hA.get (x := (hc, 3, (fun j => [X, Y, D].getD j 0))) (by simp)
  have czx5c0 := (gz5).2.2.1 0 (by omega)
  have czx5f0 := (gz5).2.2.2 0 (by omega)
  have czx5c1 := (gz5).2.2.1 1 (by omega)
  have czx5f1 := (gz5).2.2.2 1 (by omega)
  have czx5c2 := (gz5).2.2.1 2 (by omega)
  have czx5f2 := (gz5).2.2.2 2 (by omega)
  clear gz5
  have gz6 : Al w wc (hd) 3 (fun j => [X2, Y2, D2].getD j 0) := hA.get (x := (hd, 3, (fun j => [X2, Y2, D2].getD j 0))) (by simp)
  have czx6c0 := (gz6).2.2.1 0 (by omega)
  have czx6f0 := (gz6).2.2.2 0 (by omega)
  have czx6c1 := (gz6).2.2.1 1 (by omega)
  have czx6f1 := (gz6).2.2.2 1 (by omega)
  have czx6c2 := (gz6).2.2.1 2 (by omega)
  have czx6f2 := (gz6).2.2.2 2 (by omega)
  clear gz6
  cases K2 with
  | false =>
    go_wp2_with fail
    go_ret
    exact ⟨rfl, hA.bel⟩
  | true =>
    obtain ⟨hDD, hD0, ⟨hs1, hs2⟩, hmt⟩ := (touch_facts e1 e2).2 rfl
    subst hDD
    clear e1 e2
    have xx := sq_nonneg X
    have yy := sq_nonneg Y
    have wx := i64w (n := X * X) (by omega)
    have wy := i64w (n := Y * Y) (by omega)
    have ws := i64w (n := X * X + Y * Y) (by omega)
    have t1 : (0 ≤ D2) = True := eq_true hD0
    have t2 : (X * X + Y * Y ≤ 131769) = True := eq_true hs2
    have t3 : (62500 ≤ X * X + Y * Y) = True := eq_true hs1
    have t4 : (D2 ≥ 0) = True := eq_true hD0
    have t5 : (X * X + Y * Y ≥ 62500) = True := eq_true hs1
    generalize z1 : sbA k g h x y = A1 at *
    generalize z2 : sbB k g h x y = B1 at *
    generalize z3 : sbC k g h x y = C1 at *
    generalize z4 : sbD k g h x y = D1 at *
    generalize z5 : sbA m c d u v = A2 at *
    generalize z6 : sbB m c d u v = B2 at *
    generalize z7 : sbC m c d u v = C2 at *
    generalize z8 : sbD m c d u v = E2 at *
    go_upto_region 10 with fail
    refine wp_region_held_drew (S := fun w' => w'.cell? ⟨ab, 0, none⟩ = some (.int .i64 k) ∧ w'.cell? ⟨ab, 1, none⟩ = some (.int .i64 g) ∧ w'.cell? ⟨ab, 2, none⟩ = some (.int .i64 h) ∧ w'.cell? ⟨ab + 1, 0, none⟩ = some (.int .i64 x) ∧ w'.cell? ⟨ab + 1, 1, none⟩ = some (.int .i64 y) ∧ w'.cell? ⟨ab + 1 + 1, 0, none⟩ = some (.int .i64 m) ∧ w'.cell? ⟨ab + 1 + 1, 1, none⟩ = some (.int .i64 c) ∧ w'.cell? ⟨ab + 1 + 1, 2, none⟩ = some (.int .i64 d) ∧ w'.cell? ⟨ab + 1 + 1 + 1, 0, none⟩ = some (.int .i64 u) ∧ w'.cell? ⟨ab + 1 + 1 + 1, 1, none⟩ = some (.int .i64 v) ∧ w'.cell? ⟨ha, 0, none⟩ = some (.int .i64 X) ∧ w'.cell? ⟨ha, 1, none⟩ = some (.int .i64 Y) ∧ w'.cell? ⟨ha, 2, none⟩ = some (.int .i64 D2) ∧ w'.cell? ⟨hd, 0, none⟩ = some (.int .i64 X2) ∧ w'.cell? ⟨hd, 1, none⟩ = some (.int .i64 Y2) ∧ w'.cell? ⟨hd, 2, none⟩ = some (.int .i64 D2)) (by kernel_rfl) ?_ (fun hHeld => ?_)
    · (try dsimp only)
      (first | (go_simp; done) | (go_keep; done))
    (refine wpAnyH_take (i := 0) (oi := { dst := some 93, op := Go.Op.fieldAddr 38 (Go.Operand.tmp 11) 1, type := 0, pos := "laws.go:478", after := #[], guard := none }) (v := ?_) rfl (by kernel_rfl) (by kernel_rfl) (by kernel_rfl) (fun _ _ _ h => h) (Or.inl ⟨by rfl, ?_⟩) hHeld ?_; rotate_left; (focus ((intro w hSw; (try dsimp only at hSw); go_simp); (try with_reducible rfl); done)); (try simp only [Act.put, List.setIfInBounds_toArray, List.set_cons_zero, List.set_cons_succ]))
    (refine wpAnyH_take (i := 1) (oi := { dst := some 94, op := Go.Op.load 3 (Go.Operand.tmp 93), type := 3, pos := "laws.go:478", after := #[{ on := 0, ground := Go.Ground.data }], guard := none }) (v := ?_) rfl (by kernel_rfl) (by kernel_rfl) (by kernel_rfl) (fun _ _ _ h => h) (Or.inl ⟨by rfl, ?_⟩) hHeld ?_; rotate_left; (focus ((intro w hSw; (try dsimp only at hSw); go_simp); (try with_reducible rfl); done)); (try simp only [Act.put, List.setIfInBounds_toArray, List.set_cons_zero, List.set_cons_succ]))
    (refine wpAnyH_take (i := 2) (oi := { dst := some 95, op := Go.Op.fieldAddr 38 (Go.Operand.tmp 7) 1, type := 0, pos := "laws.go:478", after := #[], guard := none }) (v := ?_) rfl (by kernel_rfl) (by kernel_rfl) (by kernel_rfl) (fun _ _ _ h => h) (Or.inl ⟨by rfl, ?_⟩) hHeld ?_; rotate_left; (focus ((intro w hSw; (try dsimp only at hSw); go_simp); (try with_reducible rfl); done)); (try simp only [Act.put, List.setIfInBounds_toArray, List.set_cons_zero, List.set_cons_succ]))
    (refine wpAnyH_take (i := 3) (oi := { dst := some 96, op := Go.Op.load 3 (Go.Operand.tmp 95), type := 3, pos := "laws.go:478", after := #[{ on := 2, ground := Go.Ground.data }], guard := none }) (v := ?_) rfl (by kernel_rfl) (by kernel_rfl) (by kernel_rfl) (fun _ _ _ h => h) (Or.inl ⟨by rfl, ?_⟩) hHeld ?_; rotate_left; (focus ((intro w hSw; (try dsimp only at hSw); go_simp); (try with_reducible rfl); done)); (try simp only [Act.put, List.setIfInBounds_toArray, List.set_cons_zero, List.set_cons_succ]))
    (refine wpAnyH_take (i := 4) (oi := { dst := some 97, op := Go.Op.binOp Go.BinOp.eql 3 (Go.Operand.tmp 94) (Go.Operand.tmp 96) 3, type := 4, pos := "laws.go:478", after := #[{ on := 1, ground := Go.Ground.data }, { on := 3, ground := Go.Ground.data }], guard := none }) (v := ?_) rfl (by kernel_rfl) (by kernel_rfl) (by kernel_rfl) (fun _ _ _ h => h) (Or.inl ⟨by rfl, ?_⟩) hHeld ?_; rotate_left; (focus ((intro w hSw; (try dsimp only at hSw); go_simp); (try with_reducible rfl); done)); (try simp only [Act.put, List.setIfInBounds_toArray, List.set_cons_zero, List.set_cons_succ]))
    (refine wpAnyH_take (i := 5) (oi := { dst := some 98, op := Go.Op.move (Go.Operand.tmp 97), type := 4, pos := "laws.go:478", after := #[{ on := 4, ground := Go.Ground.data }], guard := none }) (v := ?_) rfl (by kernel_rfl) (by kernel_rfl) (by kernel_rfl) (fun _ _ _ h => h) (Or.inl ⟨by rfl, ?_⟩) hHeld ?_; rotate_left; (focus ((intro w hSw; (try dsimp only at hSw); go_simp); (try with_reducible rfl); done)); (try simp only [Act.put, List.setIfInBounds_toArray, List.set_cons_zero, List.set_cons_succ]))
    (refine wpAnyH_take (i := 6) (oi := { dst := some 99, op := Go.Op.fieldAddr 38 (Go.Operand.tmp 7) 1, type := 0, pos := "laws.go:478", after := #[{ on := 5, ground := Go.Ground.guard }], guard := some (5, true) }) (v := ?_) rfl (by kernel_rfl) (by kernel_rfl) (by kernel_rfl) (fun _ _ _ h => h) (Or.inl ⟨by rfl, ?_⟩) hHeld ?_; rotate_left; (focus ((intro w hSw; (try dsimp only at hSw); go_simp); (try with_reducible rfl); done)); (try simp only [Act.put, List.setIfInBounds_toArray, List.set_cons_zero, List.set_cons_succ]))
    (refine wpAnyH_take (i := 7) (oi := { dst := some 100, op := Go.Op.load 3 (Go.Operand.tmp 99), type := 3, pos := "laws.go:478", after := #[{ on := 6, ground := Go.Ground.data }, { on := 5, ground := Go.Ground.guard }], guard := some (5, true) }) (v := ?_) rfl (by kernel_rfl) (by kernel_rfl) (by kernel_rfl) (fun _ _ _ h => h) (Or.inl ⟨by rfl, ?_⟩) hHeld ?_; rotate_left; (focus ((intro w hSw; (try dsimp only at hSw); go_simp); (try with_reducible rfl); done)); (try simp only [Act.put, List.setIfInBounds_toArray, List.set_cons_zero, List.set_cons_succ]))
    (refine wpAnyH_take (i := 8) (oi := { dst := some 101, op := Go.Op.binOp Go.BinOp.geq 3 (Go.Operand.tmp 100) (Go.Operand.const (Go.Value.int Go.IntKind.i64 0)) 3, type := 4, pos := "laws.go:478", after := #[{ on := 7, ground := Go.Ground.data }, { on := 5, ground := Go.Ground.guard }], guard := some (5, true) }) (v := ?_) rfl (by kernel_rfl) (by kernel_rfl) (by kernel_rfl) (fun _ _ _ h => h) (Or.inl ⟨by rfl, ?_⟩) hHeld ?_; rotate_left; (focus ((intro w hSw; (try dsimp only at hSw); go_simp); (try with_reducible rfl); done)); (try simp only [Act.put, List.setIfInBounds_toArray, List.set_cons_zero, List.set_cons_succ]))
    (refine wpAnyH_take (i := 9) (oi := { dst := some 102, op := Go.Op.pick (Go.Operand.tmp 98) (Go.Operand.tmp 101) (Go.Operand.const (Go.Value.bool false)), type := 4, pos := "laws.go:478", after := #[{ on := 5, ground := Go.Ground.data }, { on := 8, ground := Go.Ground.data }], guard := none }) (v := ?_) rfl (by kernel_rfl) (by kernel_rfl) (by kernel_rfl) (fun _ _ _ h => h) (Or.inl ⟨by rfl, ?_⟩) hHeld ?_; rotate_left; (focus ((intro w hSw; (try dsimp only at hSw); go_simp); (try with_reducible rfl); done)); (try simp only [Act.put, List.setIfInBounds_toArray, List.set_cons_zero, List.set_cons_succ]))
    (refine wpAnyH_take (i := 10) (oi := { dst := some 103, op := Go.Op.move (Go.Operand.tmp 102), type := 4, pos := "laws.go:478", after := #[{ on := 9, ground := Go.Ground.data }, { on := 5, ground := Go.Ground.chain }], guard := none }) (v := ?_) rfl (by kernel_rfl) (by kernel_rfl) (by kernel_rfl) (fun _ _ _ h => h) (Or.inl ⟨by rfl, ?_⟩) hHeld ?_; rotate_left; (focus ((intro w hSw; (try dsimp only at hSw); go_simp); (try with_reducible rfl); done)); (try simp only [Act.put, List.setIfInBounds_toArray, List.set_cons_zero, List.set_cons_succ]))
    (refine wpAnyH_take (i := 11) (oi := { dst := some 104, op := Go.Op.load 34 (Go.Operand.tmp 3), type := 34, pos := "laws.go:478", after := #[{ on := 10, ground := Go.Ground.guard }], guard := some (10, true) }) (v := ?_) rfl (by kernel_rfl) (by kernel_rfl) (by kernel_rfl) (fun _ _ _ h => h) (Or.inl ⟨by rfl, ?_⟩) hHeld ?_; rotate_left; (focus ((intro w hSw; (try dsimp only at hSw); go_simp); (try with_reducible rfl); done)); (try simp only [Act.put, List.setIfInBounds_toArray, List.set_cons_zero, List.set_cons_succ]))
    (refine wpAnyH_take (i := 12) (oi := { dst := some 105, op := Go.Op.load 24 (Go.Operand.tmp 4), type := 24, pos := "laws.go:478", after := #[{ on := 10, ground := Go.Ground.guard }], guard := some (10, true) }) (v := ?_) rfl (by kernel_rfl) (by kernel_rfl) (by kernel_rfl) (fun _ _ _ h => h) (Or.inl ⟨by rfl, ?_⟩) hHeld ?_; rotate_left; (focus ((intro w hSw; (try dsimp only at hSw); go_simp); (try with_reducible rfl); done)); (try simp only [Act.put, List.setIfInBounds_toArray, List.set_cons_zero, List.set_cons_succ]))
    (refine wpAnyH_take (i := 14) (oi := { dst := some 107, op := Go.Op.load 34 (Go.Operand.tmp 5), type := 34, pos := "laws.go:478", after := #[{ on := 10, ground := Go.Ground.guard }], guard := some (10, true) }) (v := ?_) rfl (by kernel_rfl) (by kernel_rfl) (by kernel_rfl) (fun _ _ _ h => h) (Or.inl ⟨by rfl, ?_⟩) hHeld ?_; rotate_left; (focus ((intro w hSw; (try dsimp only at hSw); go_simp); (try with_reducible rfl); done)); (try simp only [Act.put, List.setIfInBounds_toArray, List.set_cons_zero, List.set_cons_succ]))
    (refine wpAnyH_take (i := 15) (oi := { dst := some 108, op := Go.Op.load 24 (Go.Operand.tmp 6), type := 24, pos := "laws.go:478", after := #[{ on := 10, ground := Go.Ground.guard }], guard := some (10, true) }) (v := ?_) rfl (by kernel_rfl) (by kernel_rfl) (by kernel_rfl) (fun _ _ _ h => h) (Or.inl ⟨by rfl, ?_⟩) hHeld ?_; rotate_left; (focus ((intro w hSw; (try dsimp only at hSw); go_simp); (try with_reducible rfl); done)); (try simp only [Act.put, List.setIfInBounds_toArray, List.set_cons_zero, List.set_cons_succ]))
    (refine wpAnyH_ready (rs := [13]) (by kernel_rfl) (by simp) ?_; refine AllReadyH.cons (o := { dst := some 106, op := Go.Op.call { callee := Go.Callee.value (Go.Operand.func 21), args := #[Go.Operand.tmp 104, Go.Operand.tmp 105], argTypes := #[34, 24] }, type := 26, pos := "laws.go:478", after := #[{ on := 11, ground := Go.Ground.data }, { on := 12, ground := Go.Ground.data }, { on := 10, ground := Go.Ground.chain }, { on := 10, ground := Go.Ground.guard }], guard := some (10, true) }) rfl (fun K hK => ?_) AllReadyH.nil; go_simp; (go_at_call 21; refine (shb_q _ _ _ _ _ A1 B1 C1 D1 _ (by with_reducible assumption) (by with_reducible assumption) (by with_reducible assumption) (by with_reducible assumption)).mono ?_; rintro e w5 ⟨rfl, hb5⟩; have hA5 := hA.drew.call hb5; have gv50 : Al w w5 (ab) 3 (fun j => [k, g, h].getD j 0) := hA5.get (x := (ab, 3, (fun j => [k, g, h].getD j 0))) (by simp); have cv5x0c0 := (gv50).2.2.1 0 (by omega); have cv5x0f0 := (gv50).2.2.2 0 (by omega); have cv5x0c1 := (gv50).2.2.1 1 (by omega); have cv5x0f1 := (gv50).2.2.2 1 (by omega); have cv5x0c2 := (gv50).2.2.1 2 (by omega); have cv5x0f2 := (gv50).2.2.2 2 (by omega); clear gv50; have gv51 : Al w w5 (ab + 1) 2 (fun j => [x, y].getD j 0) := hA5.get (x := (ab + 1, 2, (fun j => [x, y].getD j 0))) (by simp); have cv5x1c0 := (gv51).2.2.1 0 (by omega); have cv5x1f0 := (gv51).2.2.2 0 (by omega); have cv5x1c1 := (gv51).2.2.1 1 (by omega); have cv5x1f1 := (gv51).2.2.2 1 (by omega); clear gv51; have gv52 : Al w w5 (ab + 1 + 1) 3 (fun j => [m, c, d].getD j 0) := hA5.get (x := (ab + 1 + 1, 3, (fun j => [m, c, d].getD j 0))) (by simp); have cv5x2c0 := (gv52).2.2.1 0 (by omega); have cv5x2f0 := (gv52).2.2.2 0 (by omega); have cv5x2c1 := (gv52).2.2.1 1 (by omega); have cv5x2f1 := (gv52).2.2.2 1 (by omega); have cv5x2c2 := (gv52).2.2.1 2 (by omega); have cv5x2f2 := (gv52).2.2.2 2 (by omega); clear gv52; have gv53 : Al w w5 (ab + 1 + 1 + 1) 2 (fun j => [u, v].getD j 0) := hA5.get (x := (ab + 1 + 1 + 1, 2, (fun j => [u, v].getD j 0))) (by simp); have cv5x3c0 := (gv53).2.2.1 0 (by omega); have cv5x3f0 := (gv53).2.2.2 0 (by omega); have cv5x3c1 := (gv53).2.2.1 1 (by omega); have cv5x3f1 := (gv53).2.2.2 1 (by omega); clear gv53; have gv54 : Al w w5 (ha) 3 (fun j => [X, Y, D2].getD j 0) := hA5.get (x := (ha, 3, (fun j => [X, Y, D2].getD j 0))) (by simp); have cv5x4c0 := (gv54).2.2.1 0 (by omega); have cv5x4f0 := (gv54).2.2.2 0 (by omega); have cv5x4c1 := (gv54).2.2.1 1 (by omega); have cv5x4f1 := (gv54).2.2.2 1 (by omega); have cv5x4c2 := (gv54).2.2.1 2 (by omega); have cv5x4f2 := (gv54).2.2.2 2 (by omega); clear gv54; have gv55 : Al w w5 (hc) 3 (fun j => [X, Y, D2].getD j 0) := hA5.get (x := (hc, 3, (fun j => [X, Y, D2].getD j 0))) (by simp); have cv5x5c0 := (gv55).2.2.1 0 (by omega); have cv5x5f0 := (gv55).2.2.2 0 (by omega); have cv5x5c1 := (gv55).2.2.1 1 (by omega); have cv5x5f1 := (gv55).2.2.2 1 (by omega); have cv5x5c2 := (gv55).2.2.1 2 (by omega); have cv5x5f2 := (gv55).2.2.2 2 (by omega); clear gv55; have gv56 : Al w w5 (hd) 3 (fun j => [X2, Y2, D2].getD j 0) := hA5.get (x := (hd, 3, (fun j => [X2, Y2, D2].getD j 0))) (by simp); have cv5x6c0 := (gv56).2.2.1 0 (by omega); have cv5x6f0 := (gv56).2.2.2 0 (by omega); have cv5x6c1 := (gv56).2.2.1 1 (by omega); have cv5x6f1 := (gv56).2.2.2 1 (by omega); have cv5x6c2 := (gv56).2.2.1 2 (by omega); have cv5x6f2 := (gv56).2.2.2 2 (by omega); clear gv56); (try go_wp2_with fail); refine hK.out _ _ ?_ (fun hHeld => ?_); (focus ((try dsimp only); (first | (go_simp; done) | (go_keep; done)))); clear hK K; (try simp only [Act.put, List.setIfInBounds_toArray, List.set_cons_zero, List.set_cons_succ]))
    (refine wpAnyH_ready (rs := [16]) (by kernel_rfl) (by simp) ?_; refine AllReadyH.cons (o := { dst := some 109, op := Go.Op.call { callee := Go.Callee.value (Go.Operand.func 21), args := #[Go.Operand.tmp 107, Go.Operand.tmp 108], argTypes := #[34, 24] }, type := 26, pos := "laws.go:478", after := #[{ on := 14, ground := Go.Ground.data }, { on := 15, ground := Go.Ground.data }, { on := 13, ground := Go.Ground.chain }, { on := 10, ground := Go.Ground.guard }], guard := some (10, true) }) rfl (fun K hK => ?_) AllReadyH.nil; go_simp; (go_at_call 21; refine (shb_q _ _ _ _ _ A2 B2 C2 E2 _ (by with_reducible assumption) (by with_reducible assumption) (by with_reducible assumption) (by with_reducible assumption)).mono ?_; rintro e w6 ⟨rfl, hb6⟩; have hA6 := hA5.call hb6; have gv60 : Al w w6 (ab) 3 (fun j => [k, g, h].getD j 0) := hA6.get (x := (ab, 3, (fun j => [k, g, h].getD j 0))) (by simp); have cv6x0c0 := (gv60).2.2.1 0 (by omega); have cv6x0f0 := (gv60).2.2.2 0 (by omega); have cv6x0c1 := (gv60).2.2.1 1 (by omega); have cv6x0f1 := (gv60).2.2.2 1 (by omega); have cv6x0c2 := (gv60).2.2.1 2 (by omega); have cv6x0f2 := (gv60).2.2.2 2 (by omega); clear gv60; have gv61 : Al w w6 (ab + 1) 2 (fun j => [x, y].getD j 0) := hA6.get (x := (ab + 1, 2, (fun j => [x, y].getD j 0))) (by simp); have cv6x1c0 := (gv61).2.2.1 0 (by omega); have cv6x1f0 := (gv61).2.2.2 0 (by omega); have cv6x1c1 := (gv61).2.2.1 1 (by omega); have cv6x1f1 := (gv61).2.2.2 1 (by omega); clear gv61; have gv62 : Al w w6 (ab + 1 + 1) 3 (fun j => [m, c, d].getD j 0) := hA6.get (x := (ab + 1 + 1, 3, (fun j => [m, c, d].getD j 0))) (by simp); have cv6x2c0 := (gv62).2.2.1 0 (by omega); have cv6x2f0 := (gv62).2.2.2 0 (by omega); have cv6x2c1 := (gv62).2.2.1 1 (by omega); have cv6x2f1 := (gv62).2.2.2 1 (by omega); have cv6x2c2 := (gv62).2.2.1 2 (by omega); have cv6x2f2 := (gv62).2.2.2 2 (by omega); clear gv62; have gv63 : Al w w6 (ab + 1 + 1 + 1) 2 (fun j => [u, v].getD j 0) := hA6.get (x := (ab + 1 + 1 + 1, 2, (fun j => [u, v].getD j 0))) (by simp); have cv6x3c0 := (gv63).2.2.1 0 (by omega); have cv6x3f0 := (gv63).2.2.2 0 (by omega); have cv6x3c1 := (gv63).2.2.1 1 (by omega); have cv6x3f1 := (gv63).2.2.2 1 (by omega); clear gv63; have gv64 : Al w w6 (ha) 3 (fun j => [X, Y, D2].getD j 0) := hA6.get (x := (ha, 3, (fun j => [X, Y, D2].getD j 0))) (by simp); have cv6x4c0 := (gv64).2.2.1 0 (by omega); have cv6x4f0 := (gv64).2.2.2 0 (by omega); have cv6x4c1 := (gv64).2.2.1 1 (by omega); have cv6x4f1 := (gv64).2.2.2 1 (by omega); have cv6x4c2 := (gv64).2.2.1 2 (by omega); have cv6x4f2 := (gv64).2.2.2 2 (by omega); clear gv64; have gv65 : Al w w6 (hc) 3 (fun j => [X, Y, D2].getD j 0) := hA6.get (x := (hc, 3, (fun j => [X, Y, D2].getD j 0))) (by simp); have cv6x5c0 := (gv65).2.2.1 0 (by omega); have cv6x5f0 := (gv65).2.2.2 0 (by omega); have cv6x5c1 := (gv65).2.2.1 1 (by omega); have cv6x5f1 := (gv65).2.2.2 1 (by omega); have cv6x5c2 := (gv65).2.2.1 2 (by omega); have cv6x5f2 := (gv65).2.2.2 2 (by omega); clear gv65; have gv66 : Al w w6 (hd) 3 (fun j => [X2, Y2, D2].getD j 0) := hA6.get (x := (hd, 3, (fun j => [X2, Y2, D2].getD j 0))) (by simp); have cv6x6c0 := (gv66).2.2.1 0 (by omega); have cv6x6f0 := (gv66).2.2.2 0 (by omega); have cv6x6c1 := (gv66).2.2.1 1 (by omega); have cv6x6f1 := (gv66).2.2.2 1 (by omega); have cv6x6c2 := (gv66).2.2.1 2 (by omega); have cv6x6f2 := (gv66).2.2.2 2 (by omega); clear gv66); (try go_wp2_with fail); refine hK.out _ _ ?_ (fun hHeld => ?_); (focus ((try dsimp only); (first | (go_simp; done) | (go_keep; done)))); clear hK K; (try simp only [Act.put, List.setIfInBounds_toArray, List.set_cons_zero, List.set_cons_succ]))
    (refine wpAnyH_ready (rs := [17]) (by kernel_rfl) (by simp) ?_; refine AllReadyH.cons (o := { dst := some 110, op := Go.Op.call { callee := Go.Callee.value (Go.Operand.func 20), args := #[Go.Operand.tmp 106, Go.Operand.tmp 109], argTypes := #[26, 26] }, type := 4, pos := "laws.go:478", after := #[{ on := 13, ground := Go.Ground.data }, { on := 16, ground := Go.Ground.data }, { on := 16, ground := Go.Ground.chain }, { on := 10, ground := Go.Ground.guard }], guard := some (10, true) }) rfl (fun K hK => ?_) AllReadyH.nil; go_simp; (go_at_call 20; refine (bmeets_q _ _ _ _ _ _ _ _ true _ (by with_reducible assumption)).mono ?_; rintro e w7 ⟨rfl, hb7⟩; have hA7 := hA6.call hb7; have gv70 : Al w w7 (ab) 3 (fun j => [k, g, h].getD j 0) := hA7.get (x := (ab, 3, (fun j => [k, g, h].getD j 0))) (by simp); have cv7x0c0 := (gv70).2.2.1 0 (by omega); have cv7x0f0 := (gv70).2.2.2 0 (by omega); have cv7x0c1 := (gv70).2.2.1 1 (by omega); have cv7x0f1 := (gv70).2.2.2 1 (by omega); have cv7x0c2 := (gv70).2.2.1 2 (by omega); have cv7x0f2 := (gv70).2.2.2 2 (by omega); clear gv70; have gv71 : Al w w7 (ab + 1) 2 (fun j => [x, y].getD j 0) := hA7.get (x := (ab + 1, 2, (fun j => [x, y].getD j 0))) (by simp); have cv7x1c0 := (gv71).2.2.1 0 (by omega); have cv7x1f0 := (gv71).2.2.2 0 (by omega); have cv7x1c1 := (gv71).2.2.1 1 (by omega); have cv7x1f1 := (gv71).2.2.2 1 (by omega); clear gv71; have gv72 : Al w w7 (ab + 1 + 1) 3 (fun j => [m, c, d].getD j 0) := hA7.get (x := (ab + 1 + 1, 3, (fun j => [m, c, d].getD j 0))) (by simp); have cv7x2c0 := (gv72).2.2.1 0 (by omega); have cv7x2f0 := (gv72).2.2.2 0 (by omega); have cv7x2c1 := (gv72).2.2.1 1 (by omega); have cv7x2f1 := (gv72).2.2.2 1 (by omega); have cv7x2c2 := (gv72).2.2.1 2 (by omega); have cv7x2f2 := (gv72).2.2.2 2 (by omega); clear gv72; have gv73 : Al w w7 (ab + 1 + 1 + 1) 2 (fun j => [u, v].getD j 0) := hA7.get (x := (ab + 1 + 1 + 1, 2, (fun j => [u, v].getD j 0))) (by simp); have cv7x3c0 := (gv73).2.2.1 0 (by omega); have cv7x3f0 := (gv73).2.2.2 0 (by omega); have cv7x3c1 := (gv73).2.2.1 1 (by omega); have cv7x3f1 := (gv73).2.2.2 1 (by omega); clear gv73; have gv74 : Al w w7 (ha) 3 (fun j => [X, Y, D2].getD j 0) := hA7.get (x := (ha, 3, (fun j => [X, Y, D2].getD j 0))) (by simp); have cv7x4c0 := (gv74).2.2.1 0 (by omega); have cv7x4f0 := (gv74).2.2.2 0 (by omega); have cv7x4c1 := (gv74).2.2.1 1 (by omega); have cv7x4f1 := (gv74).2.2.2 1 (by omega); have cv7x4c2 := (gv74).2.2.1 2 (by omega); have cv7x4f2 := (gv74).2.2.2 2 (by omega); clear gv74; have gv75 : Al w w7 (hc) 3 (fun j => [X, Y, D2].getD j 0) := hA7.get (x := (hc, 3, (fun j => [X, Y, D2].getD j 0))) (by simp); have cv7x5c0 := (gv75).2.2.1 0 (by omega); have cv7x5f0 := (gv75).2.2.2 0 (by omega); have cv7x5c1 := (gv75).2.2.1 1 (by omega); have cv7x5f1 := (gv75).2.2.2 1 (by omega); have cv7x5c2 := (gv75).2.2.1 2 (by omega); have cv7x5f2 := (gv75).2.2.2 2 (by omega); clear gv75; have gv76 : Al w w7 (hd) 3 (fun j => [X2, Y2, D2].getD j 0) := hA7.get (x := (hd, 3, (fun j => [X2, Y2, D2].getD j 0))) (by simp); have cv7x6c0 := (gv76).2.2.1 0 (by omega); have cv7x6f0 := (gv76).2.2.2 0 (by omega); have cv7x6c1 := (gv76).2.2.1 1 (by omega); have cv7x6f1 := (gv76).2.2.2 1 (by omega); have cv7x6c2 := (gv76).2.2.1 2 (by omega); have cv7x6f2 := (gv76).2.2.2 2 (by omega); clear gv76); (try go_wp2_with fail); refine hK.out _ _ ?_ (fun hHeld => ?_); (focus ((try dsimp only); (first | (go_simp; done) | (go_keep; done)))); clear hK K; (try simp only [Act.put, List.setIfInBounds_toArray, List.set_cons_zero, List.set_cons_succ]))
    (refine wpAnyH_take (i := 18) (oi := { dst := some 111, op := Go.Op.pick (Go.Operand.tmp 103) (Go.Operand.tmp 110) (Go.Operand.const (Go.Value.bool false)), type := 4, pos := "laws.go:478", after := #[{ on := 10, ground := Go.Ground.data }, { on := 17, ground := Go.Ground.data }], guard := none }) (v := ?_) rfl (by kernel_rfl) (by kernel_rfl) (by kernel_rfl) (fun _ _ _ h => h) (Or.inl ⟨by rfl, ?_⟩) hHeld ?_; rotate_left; (focus ((intro w hSw; (try dsimp only at hSw); go_simp); (try with_reducible rfl); done)); (try simp only [Act.put, List.setIfInBounds_toArray, List.set_cons_zero, List.set_cons_succ]))
    (refine wpAnyH_take (i := 19) (oi := { dst := some 112, op := Go.Op.move (Go.Operand.tmp 111), type := 4, pos := "laws.go:478", after := #[{ on := 18, ground := Go.Ground.data }, { on := 17, ground := Go.Ground.chain }], guard := none }) (v := ?_) rfl (by kernel_rfl) (by kernel_rfl) (by kernel_rfl) (fun _ _ _ h => h) (Or.inl ⟨by rfl, ?_⟩) hHeld ?_; rotate_left; (focus ((intro w hSw; (try dsimp only at hSw); go_simp); (try with_reducible rfl); done)); (try simp only [Act.put, List.setIfInBounds_toArray, List.set_cons_zero, List.set_cons_succ]))
    (refine wpAnyH_take (i := 20) (oi := { dst := some 113, op := Go.Op.move (Go.Operand.tmp 13), type := 3, pos := "laws.go:478", after := #[{ on := 19, ground := Go.Ground.guard }], guard := some (19, true) }) (v := ?_) rfl (by kernel_rfl) (by kernel_rfl) (by kernel_rfl) (fun _ _ _ h => h) (Or.inl ⟨by rfl, ?_⟩) hHeld ?_; rotate_left; (focus ((intro w hSw; (try dsimp only at hSw); go_simp); (try with_reducible rfl); done)); (try simp only [Act.put, List.setIfInBounds_toArray, List.set_cons_zero, List.set_cons_succ]))
    (refine wpAnyH_take (i := 21) (oi := { dst := some 114, op := Go.Op.binOp Go.BinOp.leq 3 (Go.Operand.tmp 113) (Go.Operand.const (Go.Value.int Go.IntKind.i64 131769)) 3, type := 4, pos := "laws.go:478", after := #[{ on := 20, ground := Go.Ground.data }, { on := 19, ground := Go.Ground.guard }], guard := some (19, true) }) (v := ?_) rfl (by kernel_rfl) (by kernel_rfl) (by kernel_rfl) (fun _ _ _ h => h) (Or.inl ⟨by rfl, ?_⟩) hHeld ?_; rotate_left; (focus ((intro w hSw; (try dsimp only at hSw); go_simp); (try with_reducible rfl); done)); (try simp only [Act.put, List.setIfInBounds_toArray, List.set_cons_zero, List.set_cons_succ]))
    (refine wpAnyH_take (i := 22) (oi := { dst := some 115, op := Go.Op.pick (Go.Operand.tmp 112) (Go.Operand.tmp 114) (Go.Operand.const (Go.Value.bool false)), type := 4, pos := "laws.go:478", after := #[{ on := 19, ground := Go.Ground.data }, { on := 21, ground := Go.Ground.data }], guard := none }) (v := ?_) rfl (by kernel_rfl) (by kernel_rfl) (by kernel_rfl) (fun _ _ _ h => h) (Or.inl ⟨by rfl, ?_⟩) hHeld ?_; rotate_left; (focus ((intro w hSw; (try dsimp only at hSw); go_simp); (try with_reducible rfl); done)); (try simp only [Act.put, List.setIfInBounds_toArray, List.set_cons_zero, List.set_cons_succ]))
    (refine wpAnyH_take (i := 23) (oi := { dst := some 116, op := Go.Op.move (Go.Operand.tmp 115), type := 4, pos := "laws.go:478", after := #[{ on := 22, ground := Go.Ground.data }, { on := 19, ground := Go.Ground.chain }], guard := none }) (v := ?_) rfl (by kernel_rfl) (by kernel_rfl) (by kernel_rfl) (fun _ _ _ h => h) (Or.inl ⟨by rfl, ?_⟩) hHeld ?_; rotate_left; (focus ((intro w hSw; (try dsimp only at hSw); go_simp); (try with_reducible rfl); done)); (try simp only [Act.put, List.setIfInBounds_toArray, List.set_cons_zero, List.set_cons_succ]))
    (refine wpAnyH_take (i := 24) (oi := { dst := some 117, op := Go.Op.move (Go.Operand.tmp 13), type := 3, pos := "laws.go:478", after := #[{ on := 23, ground := Go.Ground.guard }], guard := some (23, true) }) (v := ?_) rfl (by kernel_rfl) (by kernel_rfl) (by kernel_rfl) (fun _ _ _ h => h) (Or.inl ⟨by rfl, ?_⟩) hHeld ?_; rotate_left; (focus ((intro w hSw; (try dsimp only at hSw); go_simp); (try with_reducible rfl); done)); (try simp only [Act.put, List.setIfInBounds_toArray, List.set_cons_zero, List.set_cons_succ]))
    (refine wpAnyH_take (i := 25) (oi := { dst := some 118, op := Go.Op.binOp Go.BinOp.geq 3 (Go.Operand.tmp 117) (Go.Operand.const (Go.Value.int Go.IntKind.i64 62500)) 3, type := 4, pos := "laws.go:478", after := #[{ on := 24, ground := Go.Ground.data }, { on := 23, ground := Go.Ground.guard }], guard := some (23, true) }) (v := ?_) rfl (by kernel_rfl) (by kernel_rfl) (by kernel_rfl) (fun _ _ _ h => h) (Or.inl ⟨by rfl, ?_⟩) hHeld ?_; rotate_left; (focus ((intro w hSw; (try dsimp only at hSw); go_simp); (try with_reducible rfl); done)); (try simp only [Act.put, List.setIfInBounds_toArray, List.set_cons_zero, List.set_cons_succ]))
    (refine wpAnyH_take (i := 26) (oi := { dst := some 119, op := Go.Op.pick (Go.Operand.tmp 116) (Go.Operand.tmp 118) (Go.Operand.const (Go.Value.bool false)), type := 4, pos := "laws.go:478", after := #[{ on := 23, ground := Go.Ground.data }, { on := 25, ground := Go.Ground.data }], guard := none }) (v := ?_) rfl (by kernel_rfl) (by kernel_rfl) (by kernel_rfl) (fun _ _ _ h => h) (Or.inl ⟨by rfl, ?_⟩) hHeld ?_; rotate_left; (focus ((intro w hSw; (try dsimp only at hSw); go_simp); (try with_reducible rfl); done)); (try simp only [Act.put, List.setIfInBounds_toArray, List.set_cons_zero, List.set_cons_succ]))
    (refine wpAnyH_take (i := 27) (oi := { dst := some 2, op := Go.Op.assign (Go.Operand.tmp 119), type := 4, pos := "laws.go:478", after := #[{ on := 26, ground := Go.Ground.data }, { on := 23, ground := Go.Ground.chain }, { on := 0, ground := Go.Ground.phase }, { on := 1, ground := Go.Ground.phase }, { on := 2, ground := Go.Ground.phase }, { on := 3, ground := Go.Ground.phase }, { on := 4, ground := Go.Ground.phase }, { on := 5, ground := Go.Ground.phase }, { on := 6, ground := Go.Ground.phase }, { on := 7, ground := Go.Ground.phase }, { on := 8, ground := Go.Ground.phase }, { on := 9, ground := Go.Ground.phase }, { on := 10, ground := Go.Ground.phase }, { on := 11, ground := Go.Ground.phase }, { on := 12, ground := Go.Ground.phase }, { on := 13, ground := Go.Ground.phase }, { on := 14, ground := Go.Ground.phase }, { on := 15, ground := Go.Ground.phase }, { on := 16, ground := Go.Ground.phase }, { on := 17, ground := Go.Ground.phase }, { on := 18, ground := Go.Ground.phase }, { on := 19, ground := Go.Ground.phase }, { on := 20, ground := Go.Ground.phase }, { on := 21, ground := Go.Ground.phase }, { on := 22, ground := Go.Ground.phase }, { on := 23, ground := Go.Ground.phase }, { on := 24, ground := Go.Ground.phase }, { on := 25, ground := Go.Ground.phase }, { on := 26, ground := Go.Ground.phase }], guard := none }) (v := ?_) rfl (by kernel_rfl) (by kernel_rfl) (by kernel_rfl) (fun _ _ _ h => h) (Or.inl ⟨by rfl, ?_⟩) hHeld ?_; rotate_left; (focus ((intro w hSw; (try dsimp only at hSw); go_simp); (try with_reducible rfl); done)); (try simp only [Act.put, List.setIfInBounds_toArray, List.set_cons_zero, List.set_cons_succ]))
    refine wpAnyH_done (by kernel_rfl) ?_ _
    go_wp2_with fail
    go_ret
    exact ⟨rfl, hA7.bel⟩
end Go.Proofs.Ytnkebpbpempmhaa
