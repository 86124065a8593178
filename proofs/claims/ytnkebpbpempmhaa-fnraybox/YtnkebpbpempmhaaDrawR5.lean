/- The draw of a ray and a box. -/
import Derived.Test.YtnkebpbpempmhaaDrawR3
import Derived.Test.YtnkebpbpempmhaaDrawAB
import Derived.Deep.RegionHeld3
import Derived.Deep.DeepCutAuto
namespace Go.Proofs.Ytnkebpbpempmhaa
open Go.RowKit
set_option linter.unusedVariables false
set_option linter.unusedSimpArgs false

set_option maxHeartbeats 8000000 in
theorem drawRayBox_any (a : Option Addr) (len cap : Nat) (w : World) (hb : Bytes w a len cap) :
    Calls Try.prog 25 #[.slice a len cap] w fun e w' => ∃ (V : Nat → Int) (p q r t : Int), e = .returned (.tuple #[b4 (V 0) (V 1) (V 2) (V 3), b4 p q r t]) ∧ RN V ∧ (Bn p ∧ Bn q ∧ Bn r ∧ Bn t) ∧ Below w.heap.size w w' := by
  have hset := cset_map
  have hb' := hb.below (((Below.refl _ _).alloc (Nat.le_refl _) (.cells #[.int .i64 0, .int .i64 0, .int .i64 0, .int .i64 0] 47)).alloc (by simp) (.cells #[.int .i64 0, .int .i64 0, .int .i64 0, .int .i64 0] 26))
  go_enter Try.func25, Try.ntmps25
  go_upto_region 1 with fail
  have r1 : Al w ((w.alloc (.cells #[.int .i64 0, .int .i64 0, .int .i64 0, .int .i64 0] 47)).alloc (.cells #[.int .i64 0, .int .i64 0, .int .i64 0, .int .i64 0] 26)) w.heap.size 4 (fun _ => 0) := (Al.new (Nat.le_refl _) (by intro i hi; rcases (show i = 0 ∨ i = 1 ∨ i = 2 ∨ i = 3 by omega) with rfl | rfl | rfl | rfl <;> rfl) (V := fun _ => 0)).belw (but_bel rfl) (by simp)
  have r2 : Al w ((w.alloc (.cells #[.int .i64 0, .int .i64 0, .int .i64 0, .int .i64 0] 47)).alloc (.cells #[.int .i64 0, .int .i64 0, .int .i64 0, .int .i64 0] 26)) (w.heap.size + 1) 4 (fun _ => 0) := by
    have h := Al.new (w0 := w) (w := w.alloc (.cells #[.int .i64 0, .int .i64 0, .int .i64 0, .int .i64 0] 47)) (cs := #[.int .i64 0, .int .i64 0, .int .i64 0, .int .i64 0]) (t := 26) (n := 4) (V := fun _ => 0) (by simp) (by intro i hi; rcases (show i = 0 ∨ i = 1 ∨ i = 2 ∨ i = 3 by omega) with rfl | rfl | rfl | rfl <;> rfl)
    simpa using h
  have hbl : Below w.heap.size w ((w.alloc (.cells #[.int .i64 0, .int .i64 0, .int .i64 0, .int .i64 0] 47)).alloc (.cells #[.int .i64 0, .int .i64 0, .int .i64 0, .int .i64 0] 26)) := ((Below.refl _ _).alloc (Nat.le_refl _) _).alloc (by simp) _
  have hsz : w.heap.size + 1 < ((w.alloc (.cells #[.int .i64 0, .int .i64 0, .int .i64 0, .int .i64 0] 47)).alloc (.cells #[.int .i64 0, .int .i64 0, .int .i64 0, .int .i64 0] 26)).heap.size := by simp
  generalize ((w.alloc (.cells #[.int .i64 0, .int .i64 0, .int .i64 0, .int .i64 0] 47)).alloc (.cells #[.int .i64 0, .int .i64 0, .int .i64 0, .int .i64 0] 26)) = w0 at *
  go_cut [4] (fun s4 wc => s4 = .pointer (some ⟨w0.heap.size, 0, none⟩) ∧ RS wc w0.heap.size 0 ∧ Below w0.heap.size w0 wc)
  case first =>
    go_wp2_with (go_at_call 51; refine (l1Open_rb _ _ _ _ hb').mono ?_; rintro e w1 ⟨rfl, hr1, hbel⟩)
    go_meet
    exact ⟨rfl, RS.of hr1, hbel⟩
  case rest =>
  obtain ⟨rfl, hr1, hbel⟩ := hcut
  have c1 := r1.belw hbel (by omega)
  have c2 := r2.belw hbel (by omega)
  have cb := hbl.trans (hbel.mono (by omega))
  have cl : w0.heap.size < wc.heap.size := hr1.lt
  clear hb' hb r1 r2 hbl hbel
  go_upto_region 2 with fail
  go_cut [5] (fun s5 wc => ∃ (tb : Nat) (a1 b1 c1 d1 : Int), s5 = .pointer (some ⟨tb, 0, none⟩) ∧ (Bn a1 ∧ Bn b1 ∧ Bn c1 ∧ Bn d1) ∧ DQ w wc w0.heap.size 7000 tb 4 (fun j => [a1, b1, c1, d1].getD j 0))
  case first =>
    go_wp2_with (go_at_call 70; refine (l11AnyBox_s w0.heap.size 0 _ (by exact hr1) (by omega)).mono ?_; rintro e w2 ⟨a2, b2, c2', d2, rfl, hd2, hr2⟩)
    go_meet
    have hk := RB.but hr2
    have hz := hk.size
    have hbm : Below w.heap.size w w2 := cb.trans (hk.below (by omega) cb.size)
    exact ⟨_, a2, b2, c2', d2, rfl, ⟨hd2.1.1, hd2.1.2, hd2.2.1, hd2.2.2⟩, (RS.up hr2 (by omega)).alloc _, hbm.alloc hbm.size _, (c1.upne (by omega) hk).belw (but_bel rfl) (by omega), (c2.upne (by omega) hk).belw (but_bel rfl) (by omega), Al.new hbm.size (by intro i hi; rcases (show i = 0 ∨ i = 1 ∨ i = 2 ∨ i = 3 by omega) with rfl | rfl | rfl | rfl <;> rfl), by omega, by omega⟩
  case rest =>
  clear c1 c2 cb cl hr1
  obtain ⟨tb, a1, b1, c1, d1, rfl, ⟨h1, h2, h3, h4⟩, hD⟩ := hcut
  have l1 := hD.l1
  have l2 := hD.l2
  have n0x1 : (w.heap.size = w.heap.size + 1) = False := eq_false (by omega)
  have n0x2 : (w.heap.size = tb) = False := eq_false (by omega)
  have n1x0 : (w.heap.size + 1 = w.heap.size) = False := eq_false (by omega)
  have n1x2 : (w.heap.size + 1 = tb) = False := eq_false (by omega)
  have n2x0 : (tb = w.heap.size) = False := eq_false (by omega)
  have n2x1 : (tb = w.heap.size + 1) = False := eq_false (by omega)
  have h9 := hD
  have ac0 := (hD.plc).2.2.1 0 (by omega)
  have af0 := (hD.plc).2.2.2 0 (by omega)
  have ac1 := (hD.plc).2.2.1 1 (by omega)
  have af1 := (hD.plc).2.2.2 1 (by omega)
  have ac2 := (hD.plc).2.2.1 2 (by omega)
  have af2 := (hD.plc).2.2.2 2 (by omega)
  have ac3 := (hD.plc).2.2.1 3 (by omega)
  have af3 := (hD.plc).2.2.2 3 (by omega)
  go_upto_region 3 with fail
  refine wp_region_held_drew (S := fun w' => w'.cell? ⟨tb, 0, none⟩ = some (.int .i64 a1) ∧ w'.cell? ⟨tb, 1, none⟩ = some (.int .i64 b1) ∧ w'.cell? ⟨tb, 2, none⟩ = some (.int .i64 c1) ∧ w'.cell? ⟨tb, 3, none⟩ = some (.int .i64 d1)) (by kernel_rfl) ?_ (fun hHeld => ?_)
  · (try dsimp only)
    (first | (go_simp; done) | (go_keep; done))
  (refine wpAnyH_take (i := 0) (oi := { dst := some 10, op := Go.Op.move (Go.Operand.tmp 4), type := 79, pos := "l11_draw.go:399", after := #[], guard := none }) (v := ?_) rfl (by kernel_rfl) (by kernel_rfl) (by kernel_rfl) (fun _ _ _ h => h) (Or.inl ⟨by rfl, ?_⟩) hHeld ?_; rotate_left; (focus ((intro w hSw; (try dsimp only at hSw); go_simp); (try with_reducible rfl); done)); (try simp only [Act.put, List.setIfInBounds_toArray, List.set_cons_zero, List.set_cons_succ]))
  (refine wpAnyH_take (i := 1) (oi := { dst := some 11, op := Go.Op.fieldAddr 26 (Go.Operand.tmp 5) 0, type := 0, pos := "l11_draw.go:399", after := #[], guard := none }) (v := ?_) rfl (by kernel_rfl) (by kernel_rfl) (by kernel_rfl) (fun _ _ _ h => h) (Or.inl ⟨by rfl, ?_⟩) hHeld ?_; rotate_left; (focus ((intro w hSw; (try dsimp only at hSw); go_simp); (try with_reducible rfl); done)); (try simp only [Act.put, List.setIfInBounds_toArray, List.set_cons_zero, List.set_cons_succ]))
  (refine wpAnyH_take (i := 2) (oi := { dst := some 12, op := Go.Op.load 24 (Go.Operand.tmp 11), type := 24, pos := "l11_draw.go:399", after := #[{ on := 1, ground := Go.Ground.data }], guard := none }) (v := ?_) rfl (by kernel_rfl) (by kernel_rfl) (by kernel_rfl) (fun _ _ _ h => h) (Or.inl ⟨by rfl, ?_⟩) hHeld ?_; rotate_left; (focus ((intro w hSw; (try dsimp only at hSw); go_simp); (try with_reducible rfl); done)); (try simp only [Act.put, List.setIfInBounds_toArray, List.set_cons_zero, List.set_cons_succ]))
  (refine wpAnyH_take (i := 4) (oi := { dst := some 14, op := Go.Op.load 26 (Go.Operand.tmp 5), type := 26, pos := "l11_draw.go:399", after := #[{ on := 5, ground := Go.Ground.gcOnly Go.Departure.lateStores }], guard := none }) (v := ?_) rfl (by kernel_rfl) (by kernel_rfl) (by kernel_rfl) (fun _ _ _ h => h) (Or.inl ⟨by rfl, ?_⟩) hHeld ?_; rotate_left; (focus ((intro w hSw; (try dsimp only at hSw); go_simp); (try with_reducible rfl); done)); (try simp only [Act.put, List.setIfInBounds_toArray, List.set_cons_zero, List.set_cons_succ]))
  (refine wpAnyH_ready (rs := [3]) (by kernel_rfl) (by simp) ?_; refine AllReadyH.cons (o := { dst := some 13, op := Go.Op.call { callee := Go.Callee.value (Go.Operand.func 71), args := #[Go.Operand.tmp 10, Go.Operand.tmp 12], argTypes := #[79, 24] }, type := 47, pos := "l11_draw.go:399", after := #[{ on := 0, ground := Go.Ground.data }, { on := 2, ground := Go.Ground.data }], guard := none }) rfl (fun K hK => ?_) AllReadyH.nil; go_simp; (go_at_call 71; refine (l11To_s w0.heap.size 7000 _ _ _ (by exact hD.drew.rs) (by omega) h1 h2).mono ?_; rintro e w20 ⟨V20, rfl, hd20, hr20⟩; have hD20 := (hD.drew.call hr20).mono (p1 := 20000) (by omega); have p20xc0 := (hD20.plc).2.2.1 0 (by omega); have p20xf0 := (hD20.plc).2.2.2 0 (by omega); have p20xc1 := (hD20.plc).2.2.1 1 (by omega); have p20xf1 := (hD20.plc).2.2.2 1 (by omega); have p20xc2 := (hD20.plc).2.2.1 2 (by omega); have p20xf2 := (hD20.plc).2.2.2 2 (by omega); have p20xc3 := (hD20.plc).2.2.1 3 (by omega); have p20xf3 := (hD20.plc).2.2.2 3 (by omega); have q20xc0 := (hD20.r1).2.2.1 0 (by omega); have q20xf0 := (hD20.r1).2.2.2 0 (by omega); have q20xc1 := (hD20.r1).2.2.1 1 (by omega); have q20xf1 := (hD20.r1).2.2.2 1 (by omega); have q20xc2 := (hD20.r1).2.2.1 2 (by omega); have q20xf2 := (hD20.r1).2.2.2 2 (by omega); have q20xc3 := (hD20.r1).2.2.1 3 (by omega); have q20xf3 := (hD20.r1).2.2.2 3 (by omega); have s20xc0 := (hD20.r2).2.2.1 0 (by omega); have s20xf0 := (hD20.r2).2.2.2 0 (by omega); have s20xc1 := (hD20.r2).2.2.1 1 (by omega); have s20xf1 := (hD20.r2).2.2.2 1 (by omega); have s20xc2 := (hD20.r2).2.2.1 2 (by omega); have s20xf2 := (hD20.r2).2.2.2 2 (by omega); have s20xc3 := (hD20.r2).2.2.1 3 (by omega); have s20xf3 := (hD20.r2).2.2.2 3 (by omega)); (try go_wp2_with fail); refine hK.out _ _ ?_ (fun hHeld => ?_); (focus ((try dsimp only); (first | (go_simp; done) | (go_keep; done)))); clear hK K; (try simp only [Act.put, List.setIfInBounds_toArray, List.set_cons_zero, List.set_cons_succ]))
  (refine wpAnyH_ready (rs := [5]) (by kernel_rfl) (by simp) ?_; refine AllReadyH.cons (o := { dst := none, op := Go.Op.store 47 (Go.Operand.tmp 2) (Go.Operand.tmp 13), type := 0, pos := "l11_draw.go:399", after := #[{ on := 3, ground := Go.Ground.data }, { on := 3, ground := Go.Ground.chain }, { on := 0, ground := Go.Ground.phase }, { on := 1, ground := Go.Ground.phase }, { on := 2, ground := Go.Ground.phase }, { on := 3, ground := Go.Ground.phase }, { on := 4, ground := Go.Ground.textOnly Go.Departure.lateStores }], guard := none }) rfl (fun K hK => ?_) AllReadyH.nil; go_simp; refine hK.out _ _ ?_ (fun hHeld => ?_); (focus ((try dsimp only); (first | (go_simp; done) | (go_keep; done)))); clear hK K; (try simp only [Act.put, List.setIfInBounds_toArray, List.set_cons_zero, List.set_cons_succ]))
  (refine wpAnyH_ready (rs := [6]) (by kernel_rfl) (by simp) ?_; refine AllReadyH.cons (o := { dst := none, op := Go.Op.store 26 (Go.Operand.tmp 3) (Go.Operand.tmp 14), type := 0, pos := "l11_draw.go:399", after := #[{ on := 4, ground := Go.Ground.data }, { on := 5, ground := Go.Ground.chain }, { on := 0, ground := Go.Ground.phase }, { on := 1, ground := Go.Ground.phase }, { on := 2, ground := Go.Ground.phase }, { on := 3, ground := Go.Ground.phase }, { on := 4, ground := Go.Ground.phase }, { on := 5, ground := Go.Ground.phase }], guard := none }) rfl (fun K hK => ?_) AllReadyH.nil; go_simp; refine hK.out _ _ ?_ (fun hHeld => ?_); (focus ((try dsimp only); (first | (go_simp; done) | (go_keep; done)))); clear hK K; (try simp only [Act.put, List.setIfInBounds_toArray, List.set_cons_zero, List.set_cons_succ]))
  refine wpAnyH_done (by kernel_rfl) ?_ _
  go_wp2_with fail
  refine bodyPost_ret (v := .tuple #[b4 (V20 0) (V20 1) (V20 2) (V20 3), b4 a1 b1 c1 d1]) (by simp [results, Try.results25, go_sem, *]) rfl ⟨V20, a1, b1, c1, d1, rfl, hd20, ⟨h1, h2, h3, h4⟩, ?_⟩
  exact ((((((((hD20.bel.setCell (by dsimp only; omega) _).setCell (by dsimp only; omega) _).setCell (by dsimp only; omega) _).setCell (by dsimp only; omega) _).setCell (by dsimp only; omega) _).setCell (by dsimp only; omega) _).setCell (by dsimp only; omega) _).setCell (by dsimp only; omega) _)
end Go.Proofs.Ytnkebpbpempmhaa
