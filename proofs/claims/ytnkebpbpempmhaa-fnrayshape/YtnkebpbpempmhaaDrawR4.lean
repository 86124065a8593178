/- The draw of a ray, a shape and a place. -/
import Derived.Test.YtnkebpbpempmhaaDrawR2
import Derived.Test.YtnkebpbpempmhaaDrawAS
import Derived.Deep.RegionHeld3
import Derived.Deep.DeepCutAuto
namespace Go.Proofs.Ytnkebpbpempmhaa
open Go.RowKit
set_option linter.unusedVariables false
set_option linter.unusedSimpArgs false

/-- what lies where while a ray, a shape and a place are drawn -/
structure DY (w w' : World) (rb p tb yb : Nat) (u v : Int) (V : Nat → Int) : Prop where
  rs : RS w' rb p
  bel : Below w.heap.size w w'
  r1 : Al w w' w.heap.size 4 (fun _ => 0)
  r2 : Al w w' (w.heap.size + 1) 3 (fun _ => 0)
  r3 : Al w w' (w.heap.size + 1 + 1) 2 (fun _ => 0)
  plc : Al w w' tb 2 (fun j => [u, v].getD j 0)
  ray : Al w w' yb 4 V
  l1 : w.heap.size + 1 + 1 < rb
  l2 : rb < tb
  l3 : tb < yb
theorem DY.call {w w' w1 : World} {rb p p1 tb yb : Nat} {u v : Int} {V : Nat → Int} (h : DY w w' rb p tb yb u v V) (k : RB w' w1 rb p1) : DY w w1 rb p1 tb yb u v V := by
  have l1 := h.l1
  have l2 := h.l2
  have l3 := h.l3
  exact ⟨RS.of k, h.bel.trans (k.but.below (by omega) h.bel.size), h.r1.upne (by omega) k.but, h.r2.upne (by omega) k.but, h.r3.upne (by omega) k.but, h.plc.upne (by omega) k.but, h.ray.upne (by omega) k.but, l1, l2, l3⟩
theorem DY.mono {w w' : World} {rb p p1 tb yb : Nat} {u v : Int} {V : Nat → Int} (h : DY w w' rb p tb yb u v V) (k : p ≤ p1) : DY w w' rb p1 tb yb u v V :=
  ⟨h.rs.mono k, h.bel, h.r1, h.r2, h.r3, h.plc, h.ray, h.l1, h.l2, h.l3⟩
theorem DY.drew {w w' : World} {rb p tb yb : Nat} {u v : Int} {V : Nat → Int} (h : DY w w' rb p tb yb u v V) : DY w w'.drew rb p tb yb u v V :=
  ⟨h.rs.drew, h.bel.drew, h.r1, h.r2, h.r3, h.plc, h.ray, h.l1, h.l2, h.l3⟩

set_option maxHeartbeats 8000000 in
theorem drawRayShape_any (a : Option Addr) (len cap : Nat) (w : World) (hb : Bytes w a len cap) :
    Calls Try.prog 32 #[.slice a len cap] w fun e w' => ∃ (V : Nat → Int) (k g h u v : Int), e = .returned (.tuple #[b4 (V 0) (V 1) (V 2) (V 3), s3 k g h, vv u v]) ∧ RN V ∧ (Bn k ∧ Bn g ∧ Bn h) ∧ (Bn u ∧ Bn v) ∧ Below w.heap.size w w' := by
  have hset := cset_map
  have hb' := hb.below ((((Below.refl _ _).alloc (Nat.le_refl _) (.cells #[.int .i64 0, .int .i64 0, .int .i64 0, .int .i64 0] 47)).alloc (by simp) (.cells #[.int .i64 0, .int .i64 0, .int .i64 0] 34)).alloc (by simp; omega) (.cells #[.int .i64 0, .int .i64 0] 24))
  go_enter Try.func32, Try.ntmps32
  go_upto_region 1 with fail
  have r1 : Al w (((w.alloc (.cells #[.int .i64 0, .int .i64 0, .int .i64 0, .int .i64 0] 47)).alloc (.cells #[.int .i64 0, .int .i64 0, .int .i64 0] 34)).alloc (.cells #[.int .i64 0, .int .i64 0] 24)) w.heap.size 4 (fun _ => 0) := ((Al.new (Nat.le_refl _) (by intro i hi; rcases (show i = 0 ∨ i = 1 ∨ i = 2 ∨ i = 3 by omega) with rfl | rfl | rfl | rfl <;> rfl) (V := fun _ => 0)).belw (but_bel rfl) (by simp)).belw (but_bel rfl) (by simp; omega)
  have r2 : Al w (((w.alloc (.cells #[.int .i64 0, .int .i64 0, .int .i64 0, .int .i64 0] 47)).alloc (.cells #[.int .i64 0, .int .i64 0, .int .i64 0] 34)).alloc (.cells #[.int .i64 0, .int .i64 0] 24)) (w.heap.size + 1) 3 (fun _ => 0) := by
    have h := (Al.new (w0 := w) (w := (w.alloc (.cells #[.int .i64 0, .int .i64 0, .int .i64 0, .int .i64 0] 47))) (cs := #[.int .i64 0, .int .i64 0, .int .i64 0]) (t := 34) (n := 3) (V := fun _ => 0) (by simp) (by intro i hi; rcases (show i = 0 ∨ i = 1 ∨ i = 2 by omega) with rfl | rfl | rfl <;> rfl)).belw (but_bel (o := (.cells #[.int .i64 0, .int .i64 0] 24)) rfl) (by simp)
    simpa using h
  have r3 : Al w (((w.alloc (.cells #[.int .i64 0, .int .i64 0, .int .i64 0, .int .i64 0] 47)).alloc (.cells #[.int .i64 0, .int .i64 0, .int .i64 0] 34)).alloc (.cells #[.int .i64 0, .int .i64 0] 24)) (w.heap.size + 1 + 1) 2 (fun _ => 0) := by
    have h := Al.new (w0 := w) (w := ((w.alloc (.cells #[.int .i64 0, .int .i64 0, .int .i64 0, .int .i64 0] 47)).alloc (.cells #[.int .i64 0, .int .i64 0, .int .i64 0] 34))) (cs := #[.int .i64 0, .int .i64 0]) (t := 24) (n := 2) (V := fun _ => 0) (by simp; omega) (by intro i hi; rcases (show i = 0 ∨ i = 1 by omega) with rfl | rfl <;> rfl)
    simpa using h
  have hbl : Below w.heap.size w (((w.alloc (.cells #[.int .i64 0, .int .i64 0, .int .i64 0, .int .i64 0] 47)).alloc (.cells #[.int .i64 0, .int .i64 0, .int .i64 0] 34)).alloc (.cells #[.int .i64 0, .int .i64 0] 24)) := (((Below.refl _ _).alloc (Nat.le_refl _) _).alloc (by simp) _).alloc (by simp; omega) _
  have hsz : w.heap.size + 1 + 1 < (((w.alloc (.cells #[.int .i64 0, .int .i64 0, .int .i64 0, .int .i64 0] 47)).alloc (.cells #[.int .i64 0, .int .i64 0, .int .i64 0] 34)).alloc (.cells #[.int .i64 0, .int .i64 0] 24)).heap.size := by simp
  generalize (((w.alloc (.cells #[.int .i64 0, .int .i64 0, .int .i64 0, .int .i64 0] 47)).alloc (.cells #[.int .i64 0, .int .i64 0, .int .i64 0] 34)).alloc (.cells #[.int .i64 0, .int .i64 0] 24)) = w0 at *
  go_cut [5] (fun s5 wc => s5 = .pointer (some ⟨w0.heap.size, 0, none⟩) ∧ RS wc w0.heap.size 0 ∧ Below w0.heap.size w0 wc)
  case first =>
    go_wp2_with (go_at_call 51; refine (l1Open_rb _ _ _ _ hb').mono ?_; rintro e w1 ⟨rfl, hr1, hbel⟩)
    go_meet
    exact ⟨rfl, RS.of hr1, hbel⟩
  case rest =>
  obtain ⟨rfl, hr1, hbel⟩ := hcut
  have c1 := r1.belw hbel (by omega)
  have c2 := r2.belw hbel (by omega)
  have c3 := r3.belw hbel (by omega)
  have cb := hbl.trans (hbel.mono (by omega))
  have cl : w0.heap.size < wc.heap.size := hr1.lt
  clear hb' hb r1 r2 r3 hbl hbel
  go_upto_region 2 with fail
  go_cut [6] (fun s6 wc => ∃ (tb : Nat) (u v : Int), s6 = .pointer (some ⟨tb, 0, none⟩) ∧ (Bn u ∧ Bn v) ∧ RS wc w0.heap.size 700 ∧ Below w.heap.size w wc ∧ Al w wc w.heap.size 4 (fun _ => 0) ∧ Al w wc (w.heap.size + 1) 3 (fun _ => 0) ∧ Al w wc (w.heap.size + 1 + 1) 2 (fun _ => 0) ∧ Al w wc tb 2 (fun j => [u, v].getD j 0) ∧ w0.heap.size < tb)
  case first =>
    go_wp2_with (go_at_call 53; refine (l11AnyPlace_s w0.heap.size 0 _ (by exact hr1) (by omega)).mono ?_; rintro e w2 ⟨x2, y2, rfl, hd2, hr2⟩)
    go_meet
    have hk := RB.but hr2
    have hz := hk.size
    have hbm : Below w.heap.size w w2 := cb.trans (hk.below (by omega) cb.size)
    exact ⟨_, x2, y2, rfl, hd2, (RS.up hr2 (by omega)).alloc _, hbm.alloc hbm.size _, (c1.upne (by omega) hk).belw (but_bel rfl) (by omega), (c2.upne (by omega) hk).belw (but_bel rfl) (by omega), (c3.upne (by omega) hk).belw (but_bel rfl) (by omega), Al.new hbm.size (by intro i hi; rcases (show i = 0 ∨ i = 1 by omega) with rfl | rfl <;> rfl), by omega⟩
  case rest =>
  clear c1 c2 c3 cb cl hr1
  obtain ⟨tb, u, v, rfl, ⟨hu, hv⟩, hr1, cb, c1, c2, c3, cp, htb⟩ := hcut
  have cl := cp.2.1
  have h8 := cp
  have ac0 := (cp).2.2.1 0 (by omega)
  have af0 := (cp).2.2.2 0 (by omega)
  have ac1 := (cp).2.2.1 1 (by omega)
  have af1 := (cp).2.2.2 1 (by omega)
  go_upto_region 3 with fail
  go_cut [7] (fun s7 wc => ∃ (yb : Nat) (V : Nat → Int), s7 = .pointer (some ⟨yb, 0, none⟩) ∧ RN V ∧ DY w wc w0.heap.size 4000 tb yb u v V)
  case first =>
    go_wp2_with (go_at_call 71; refine (l11To_s w0.heap.size 700 _ _ _ (by exact hr1) (by omega) hu hv).mono ?_; rintro e w6 ⟨V6, rfl, hd6, hr6⟩)
    go_meet
    have hk := RB.but hr6
    have hz := hk.size
    have hbm : Below w.heap.size w w6 := cb.trans (hk.below (by omega) cb.size)
    exact ⟨_, V6, rfl, hd6, (RS.up hr6 (by omega)).alloc _, hbm.alloc hbm.size _, (c1.upne (by omega) hk).belw (but_bel rfl) (by omega), (c2.upne (by omega) hk).belw (but_bel rfl) (by omega), (c3.upne (by omega) hk).belw (but_bel rfl) (by omega), (cp.upne (by omega) hk).belw (but_bel rfl) (by omega), Al.new hbm.size (by intro i hi; rcases (show i = 0 ∨ i = 1 ∨ i = 2 ∨ i = 3 by omega) with rfl | rfl | rfl | rfl <;> rfl), by omega, by omega, by omega⟩
  case rest =>
  clear c1 c2 c3 cb cl hr1 cp h8 ac0 ac1 af0 af1
  obtain ⟨yb, V, rfl, hnb, hD⟩ := hcut
  have l1 := hD.l1
  have l2 := hD.l2
  have l3 := hD.l3
  have n0x1 : (w.heap.size = w.heap.size + 1) = False := eq_false (by omega)
  have n0x2 : (w.heap.size = w.heap.size + 1 + 1) = False := eq_false (by omega)
  have n0x3 : (w.heap.size = tb) = False := eq_false (by omega)
  have n0x4 : (w.heap.size = yb) = False := eq_false (by omega)
  have n1x0 : (w.heap.size + 1 = w.heap.size) = False := eq_false (by omega)
  have n1x2 : (w.heap.size + 1 = w.heap.size + 1 + 1) = False := eq_false (by omega)
  have n1x3 : (w.heap.size + 1 = tb) = False := eq_false (by omega)
  have n1x4 : (w.heap.size + 1 = yb) = False := eq_false (by omega)
  have n2x0 : (w.heap.size + 1 + 1 = w.heap.size) = False := eq_false (by omega)
  have n2x1 : (w.heap.size + 1 + 1 = w.heap.size + 1) = False := eq_false (by omega)
  have n2x3 : (w.heap.size + 1 + 1 = tb) = False := eq_false (by omega)
  have n2x4 : (w.heap.size + 1 + 1 = yb) = False := eq_false (by omega)
  have n3x0 : (tb = w.heap.size) = False := eq_false (by omega)
  have n3x1 : (tb = w.heap.size + 1) = False := eq_false (by omega)
  have n3x2 : (tb = w.heap.size + 1 + 1) = False := eq_false (by omega)
  have n3x4 : (tb = yb) = False := eq_false (by omega)
  have n4x0 : (yb = w.heap.size) = False := eq_false (by omega)
  have n4x1 : (yb = w.heap.size + 1) = False := eq_false (by omega)
  have n4x2 : (yb = w.heap.size + 1 + 1) = False := eq_false (by omega)
  have n4x3 : (yb = tb) = False := eq_false (by omega)
  have h9 := hD
  have ac0 := (hD.plc).2.2.1 0 (by omega)
  have af0 := (hD.plc).2.2.2 0 (by omega)
  have ac1 := (hD.plc).2.2.1 1 (by omega)
  have af1 := (hD.plc).2.2.2 1 (by omega)
  have yc0 := (hD.ray).2.2.1 0 (by omega)
  have yf0 := (hD.ray).2.2.2 0 (by omega)
  have yc1 := (hD.ray).2.2.1 1 (by omega)
  have yf1 := (hD.ray).2.2.2 1 (by omega)
  have yc2 := (hD.ray).2.2.1 2 (by omega)
  have yf2 := (hD.ray).2.2.2 2 (by omega)
  have yc3 := (hD.ray).2.2.1 3 (by omega)
  have yf3 := (hD.ray).2.2.2 3 (by omega)
  go_upto_region 4 with fail
  refine wp_region_held_drew (S := fun w' => w'.cell? ⟨tb, 0, none⟩ = some (.int .i64 u) ∧ w'.cell? ⟨tb, 1, none⟩ = some (.int .i64 v) ∧ w'.cell? ⟨yb, 0, none⟩ = some (.int .i64 (V 0)) ∧ w'.cell? ⟨yb, 1, none⟩ = some (.int .i64 (V 1)) ∧ w'.cell? ⟨yb, 2, none⟩ = some (.int .i64 (V 2)) ∧ w'.cell? ⟨yb, 3, none⟩ = some (.int .i64 (V 3))) (by kernel_rfl) ?_ (fun hHeld => ?_)
  · (try dsimp only)
    (first | (go_simp; done) | (go_keep; done))
  (refine wpAnyH_take (i := 0) (oi := { dst := some 15, op := Go.Op.load 47 (Go.Operand.tmp 7), type := 47, pos := "l11_draw.go:414", after := #[], guard := none }) (v := ?_) rfl (by kernel_rfl) (by kernel_rfl) (by kernel_rfl) (fun _ _ _ h => h) (Or.inl ⟨by rfl, ?_⟩) hHeld ?_; rotate_left; (focus ((intro w hSw; (try dsimp only at hSw); go_simp); (try with_reducible rfl); done)); (try simp only [Act.put, List.setIfInBounds_toArray, List.set_cons_zero, List.set_cons_succ]))
  (refine wpAnyH_take (i := 1) (oi := { dst := some 16, op := Go.Op.move (Go.Operand.tmp 5), type := 79, pos := "l11_draw.go:414", after := #[], guard := none }) (v := ?_) rfl (by kernel_rfl) (by kernel_rfl) (by kernel_rfl) (fun _ _ _ h => h) (Or.inl ⟨by rfl, ?_⟩) hHeld ?_; rotate_left; (focus ((intro w hSw; (try dsimp only at hSw); go_simp); (try with_reducible rfl); done)); (try simp only [Act.put, List.setIfInBounds_toArray, List.set_cons_zero, List.set_cons_succ]))
  (refine wpAnyH_take (i := 3) (oi := { dst := some 18, op := Go.Op.load 24 (Go.Operand.tmp 6), type := 24, pos := "l11_draw.go:414", after := #[{ on := 5, ground := Go.Ground.gcOnly Go.Departure.lateStores }], guard := none }) (v := ?_) rfl (by kernel_rfl) (by kernel_rfl) (by kernel_rfl) (fun _ _ _ h => h) (Or.inl ⟨by rfl, ?_⟩) hHeld ?_; rotate_left; (focus ((intro w hSw; (try dsimp only at hSw); go_simp); (try with_reducible rfl); done)); (try simp only [Act.put, List.setIfInBounds_toArray, List.set_cons_zero, List.set_cons_succ]))
  (refine wpAnyH_ready (rs := [2]) (by kernel_rfl) (by simp) ?_; refine AllReadyH.cons (o := { dst := some 17, op := Go.Op.call { callee := Go.Callee.value (Go.Operand.func 52), args := #[Go.Operand.tmp 16], argTypes := #[79] }, type := 34, pos := "l11_draw.go:414", after := #[{ on := 1, ground := Go.Ground.data }], guard := none }) rfl (fun K hK => ?_) AllReadyH.nil; go_simp; (go_at_call 52; refine (l11AnyShape_s w0.heap.size 4000 _ (by exact hD.drew.rs) (by omega)).mono ?_; rintro e w20 ⟨k20, g20, h20, rfl, hd20, hr20⟩; have hD20 := (hD.drew.call hr20).mono (p1 := 5000) (by omega); have p20xc0 := (hD20.plc).2.2.1 0 (by omega); have p20xf0 := (hD20.plc).2.2.2 0 (by omega); have p20xc1 := (hD20.plc).2.2.1 1 (by omega); have p20xf1 := (hD20.plc).2.2.2 1 (by omega); have y20xc0 := (hD20.ray).2.2.1 0 (by omega); have y20xf0 := (hD20.ray).2.2.2 0 (by omega); have y20xc1 := (hD20.ray).2.2.1 1 (by omega); have y20xf1 := (hD20.ray).2.2.2 1 (by omega); have y20xc2 := (hD20.ray).2.2.1 2 (by omega); have y20xf2 := (hD20.ray).2.2.2 2 (by omega); have y20xc3 := (hD20.ray).2.2.1 3 (by omega); have y20xf3 := (hD20.ray).2.2.2 3 (by omega); have q20xc0 := (hD20.r1).2.2.1 0 (by omega); have q20xf0 := (hD20.r1).2.2.2 0 (by omega); have q20xc1 := (hD20.r1).2.2.1 1 (by omega); have q20xf1 := (hD20.r1).2.2.2 1 (by omega); have q20xc2 := (hD20.r1).2.2.1 2 (by omega); have q20xf2 := (hD20.r1).2.2.2 2 (by omega); have q20xc3 := (hD20.r1).2.2.1 3 (by omega); have q20xf3 := (hD20.r1).2.2.2 3 (by omega); have s20xc0 := (hD20.r2).2.2.1 0 (by omega); have s20xf0 := (hD20.r2).2.2.2 0 (by omega); have s20xc1 := (hD20.r2).2.2.1 1 (by omega); have s20xf1 := (hD20.r2).2.2.2 1 (by omega); have s20xc2 := (hD20.r2).2.2.1 2 (by omega); have s20xf2 := (hD20.r2).2.2.2 2 (by omega); have t20xc0 := (hD20.r3).2.2.1 0 (by omega); have t20xf0 := (hD20.r3).2.2.2 0 (by omega); have t20xc1 := (hD20.r3).2.2.1 1 (by omega); have t20xf1 := (hD20.r3).2.2.2 1 (by omega)); (try go_wp2_with fail); refine hK.out _ _ ?_ (fun hHeld => ?_); (focus ((try dsimp only); (first | (go_simp; done) | (go_keep; done)))); clear hK K; (try simp only [Act.put, List.setIfInBounds_toArray, List.set_cons_zero, List.set_cons_succ]))
  (refine wpAnyH_ready (rs := [4]) (by kernel_rfl) (by simp) ?_; refine AllReadyH.cons (o := { dst := none, op := Go.Op.store 47 (Go.Operand.tmp 2) (Go.Operand.tmp 15), type := 0, pos := "l11_draw.go:414", after := #[{ on := 0, ground := Go.Ground.data }, { on := 2, ground := Go.Ground.chain }, { on := 0, ground := Go.Ground.phase }, { on := 1, ground := Go.Ground.textOnly Go.Departure.lateStores }, { on := 2, ground := Go.Ground.textOnly Go.Departure.lateStoresUnsure }, { on := 3, ground := Go.Ground.textOnly Go.Departure.lateStores }], guard := none }) rfl (fun K hK => ?_) AllReadyH.nil; go_simp; refine hK.out _ _ ?_ (fun hHeld => ?_); (focus ((try dsimp only); (first | (go_simp; done) | (go_keep; done)))); clear hK K; (try simp only [Act.put, List.setIfInBounds_toArray, List.set_cons_zero, List.set_cons_succ]))
  (refine wpAnyH_ready (rs := [5]) (by kernel_rfl) (by simp) ?_; refine AllReadyH.cons (o := { dst := none, op := Go.Op.store 34 (Go.Operand.tmp 3) (Go.Operand.tmp 17), type := 0, pos := "l11_draw.go:414", after := #[{ on := 2, ground := Go.Ground.data }, { on := 4, ground := Go.Ground.chain }, { on := 0, ground := Go.Ground.phase }, { on := 1, ground := Go.Ground.phase }, { on := 2, ground := Go.Ground.phase }, { on := 3, ground := Go.Ground.textOnly Go.Departure.lateStores }, { on := 4, ground := Go.Ground.phase }], guard := none }) rfl (fun K hK => ?_) AllReadyH.nil; go_simp; refine hK.out _ _ ?_ (fun hHeld => ?_); (focus ((try dsimp only); (first | (go_simp; done) | (go_keep; done)))); clear hK K; (try simp only [Act.put, List.setIfInBounds_toArray, List.set_cons_zero, List.set_cons_succ]))
  (refine wpAnyH_ready (rs := [6]) (by kernel_rfl) (by simp) ?_; refine AllReadyH.cons (o := { dst := none, op := Go.Op.store 24 (Go.Operand.tmp 4) (Go.Operand.tmp 18), type := 0, pos := "l11_draw.go:414", after := #[{ on := 3, ground := Go.Ground.data }, { on := 5, ground := Go.Ground.chain }, { on := 0, ground := Go.Ground.phase }, { on := 1, ground := Go.Ground.phase }, { on := 2, ground := Go.Ground.phase }, { on := 3, ground := Go.Ground.phase }, { on := 4, ground := Go.Ground.phase }, { on := 5, ground := Go.Ground.phase }], guard := none }) rfl (fun K hK => ?_) AllReadyH.nil; go_simp; refine hK.out _ _ ?_ (fun hHeld => ?_); (focus ((try dsimp only); (first | (go_simp; done) | (go_keep; done)))); clear hK K; (try simp only [Act.put, List.setIfInBounds_toArray, List.set_cons_zero, List.set_cons_succ]))
  refine wpAnyH_done (by kernel_rfl) ?_ _
  go_wp2_with fail
  refine bodyPost_ret (v := .tuple #[b4 (V 0) (V 1) (V 2) (V 3), s3 k20 g20 h20, vv u v]) (by simp [results, Try.results32, go_sem, *]) rfl ⟨V, k20, g20, h20, u, v, rfl, hnb, hd20, ⟨hu, hv⟩, ?_⟩
  exact (((((((((hD20.bel.setCell (by dsimp only; omega) _).setCell (by dsimp only; omega) _).setCell (by dsimp only; omega) _).setCell (by dsimp only; omega) _).setCell (by dsimp only; omega) _).setCell (by dsimp only; omega) _).setCell (by dsimp only; omega) _).setCell (by dsimp only; omega) _).setCell (by dsimp only; omega) _)
end Go.Proofs.Ytnkebpbpempmhaa
