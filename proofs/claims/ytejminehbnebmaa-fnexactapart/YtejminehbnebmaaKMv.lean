/- A body of columns that moves by a way, by the program. -/
import Derived.Test.YtejminehbnebmaaB13
import Derived.Test.YtejminehbnebmaaB12
import Derived.Handy
import Derived.Deep.RegionHeld3
import Derived.Deep.DeepCutAuto
namespace Go.Proofs.Ytejminehbnebmaa
open Go.RowKit
set_option linter.unusedVariables false
set_option linter.unusedSimpArgs false

theorem wayHeld_z (x y l a b : Int) (w : World) (h0 : 0 ≤ l) (h1 : l ≤ 4000000000) (ea : clampZ l x = a) (eb : clampZ l y = b) :
    Calls Try.prog 72 #[vv x y, .int .i64 l] w fun e w' => e = .returned (vv a b) ∧ Below w.heap.size w w' := by
  subst ea eb; exact wayHeld_any x y l w h0 h1
set_option maxRecDepth 20000 in
set_option maxHeartbeats 16000000 in
theorem kMove_c {cb n k : Nat} {C : Nat → Nat → Int} {S : Nat → Value} {w : World} (h : Cs w cb n C S) (hk : k < n) (hn : n ≤ 1048576) (p q A B D E : Int) (V : Nat → Int) (hV : ∀ i, V i = C i k) (b4 : -2560000 ≤ V 4 ∧ V 4 ≤ 2560000) (b5 : -2560000 ≤ V 5 ∧ V 5 ≤ 2560000) (bp : -20000000 ≤ p ∧ p ≤ 20000000) (bq : -20000000 ≤ q ∧ q ≤ 20000000)
    (eA : clampZ 2560000 (V 4 + p) = A) (eB : clampZ 2560000 (V 5 + q) = B) (eC : (if A = V 4 + p then V 6 else 0) = D) (eD : (if B = V 5 + q then V 7 else 0) = E) :
    Calls Try.prog 52 #[hdk cb k, vv p q] w fun e w' => e = .returned (.tuple #[]) ∧ Cs w' cb n (setC (setC (setC (setC C 4 k A) 5 k B) 6 k D) 7 k E) S ∧ Fr (Xc S) w w' := by
  have hset := cset_map
  have h0 : HAt w cb n k V (gOf S) := by rw [show V = fun i => C i k from funext hV]; exact h.hat hk hn
  clear hV
  have l1 := h0.cbl
  have hx : ∀ b, w.heap.size ≤ b → ¬ Xc S b := fun b hb x => by have := (h.xlt x).2; omega
  go_enter Try.func52, Try.ntmps52
  go_upto_region 1 with fail
  go_cut [4] (fun s wc => ∃ Ba, s = .pointer (some ⟨Ba, 0, none⟩) ∧ wc.cell? ⟨w.heap.size, 0, none⟩ = some (.int .i64 (k : Int)) ∧ wc.cell? ⟨w.heap.size, 1, none⟩ = some (.pointer (some ⟨cb, 0, none⟩)) ∧ wc.cell? ⟨Ba, 0, none⟩ = some (.int .i64 (V 4 + p)) ∧ wc.cell? ⟨Ba, 1, none⟩ = some (.int .i64 (V 5 + q)) ∧ w.heap.size + 1 < Ba ∧ Ba < wc.heap.size ∧ Below w.heap.size w wc)
  case first =>
    refine wp_region_held_drew (S := fun w' => w'.cell? ⟨w.heap.size, 0, none⟩ = some (.int .i64 (k : Int)) ∧ w'.cell? ⟨w.heap.size, 1, none⟩ = some (.pointer (some ⟨cb, 0, none⟩)) ∧ w'.cell? ⟨w.heap.size + 1, 0, none⟩ = some (.int .i64 p) ∧ w'.cell? ⟨w.heap.size + 1, 1, none⟩ = some (.int .i64 q)) (by kernel_rfl) ?_ (fun hHeld => ?_)
    · (try dsimp only)
      (first | (go_simp; done) | (go_keep; done))
    refine tq 0 hHeld ?_
    refine tq 2 hHeld ?_
    refine wpAnyH_ready (rs := [1, 4]) (by kernel_rfl) (by simp) ?_
    refine AllReadyH.cons (o := { dst := some 9, op := Go.Op.call { callee := Go.Callee.value (Go.Operand.func 57), args := #[Go.Operand.tmp 8], argTypes := #[86] }, type := 81, pos := "l6_body.go:225", after := #[{ on := 0, ground := Go.Ground.data }], guard := none }) rfl (fun K hK => ?_) (AllReadyH.cons (o := { dst := some 4, op := Go.Op.alloc 81, type := 0, pos := "l6_body.go:225", after := #[], guard := none }) rfl (fun K hK => ?_) AllReadyH.nil)
    · (go_simp; (go_at_call 57; refine (kAt (h0.below (bel_a))).mono ?_; rintro e w1 ⟨rfl, hb1⟩; obtain ⟨hc1, hf1⟩ := bcell hb1; have hz1 := hb1.size; (try simp only [World.size_drew, World.size_alloc, World.size_setCell] at hc1 hf1 hz1); have hk1x0 := fun o => hc1 (w.heap.size) o (by omega); have hj1x0 := fun o => hf1 (w.heap.size) o (by omega); have hq1x0 : w.heap.size < w1.heap.size := (by omega); have hk1x1 := fun o => hc1 (w.heap.size + 1) o (by omega); have hj1x1 := fun o => hf1 (w.heap.size + 1) o (by omega); have hq1x1 : w.heap.size + 1 < w1.heap.size := (by omega); (try have ht1x0 := fun o => hc1 (w.heap.size + 1 + 1) o (by omega)); (try have hu1x0 := fun o => hf1 (w.heap.size + 1 + 1) o (by omega)); (try have hv1x0 : w.heap.size + 1 + 1 < w1.heap.size := (by omega)); (try have hw1x0 : (w1.heap.size = w.heap.size + 1 + 1) = False := eq_false (by omega)); clear hc1 hf1); (try go_wp2_with fail); refine hK.out _ _ ?_ (fun hHeld => ?_); (focus ((try dsimp only); (first | (go_simp; done) | (go_keep; done)))); clear hK K; (try simp only [Act.put, List.setIfInBounds_toArray, List.set_cons_zero, List.set_cons_succ]))
      refine wpAnyH_ready (rs := [3, 4]) (by kernel_rfl) (by simp) ?_
      refine AllReadyH.cons (o := { dst := some 11, op := Go.Op.call { callee := Go.Callee.value (Go.Operand.func 71), args := #[Go.Operand.tmp 9, Go.Operand.tmp 10], argTypes := #[81, 81] }, type := 81, pos := "l6_body.go:225", after := #[{ on := 1, ground := Go.Ground.data }, { on := 2, ground := Go.Ground.data }, { on := 1, ground := Go.Ground.chain }], guard := none }) rfl (fun K hK => ?_) (AllReadyH.cons (o := { dst := some 4, op := Go.Op.alloc 81, type := 0, pos := "l6_body.go:225", after := #[], guard := none }) rfl (fun K hK => ?_) AllReadyH.nil)
      · (go_simp; (go_at_call 71; refine (plus_any _ _ _ _ _ (by omega) (by omega) (by omega) (by omega)).mono ?_; rintro e w2 ⟨rfl, hb2⟩; obtain ⟨hc2, hf2⟩ := bcell hb2; have hz2 := hb2.size; (try simp only [World.size_drew, World.size_alloc, World.size_setCell] at hc2 hf2 hz2); have hk2x0 := fun o => hc2 (w.heap.size) o (by omega); have hj2x0 := fun o => hf2 (w.heap.size) o (by omega); have hq2x0 : w.heap.size < w2.heap.size := (by omega); have hk2x1 := fun o => hc2 (w.heap.size + 1) o (by omega); have hj2x1 := fun o => hf2 (w.heap.size + 1) o (by omega); have hq2x1 : w.heap.size + 1 < w2.heap.size := (by omega); (try have ht2x0 := fun o => hc2 (w.heap.size + 1 + 1) o (by omega)); (try have hu2x0 := fun o => hf2 (w.heap.size + 1 + 1) o (by omega)); (try have hv2x0 : w.heap.size + 1 + 1 < w2.heap.size := (by omega)); (try have hw2x0 : (w2.heap.size = w.heap.size + 1 + 1) = False := eq_false (by omega)); (try have ht2x1 := fun o => hc2 (w1.heap.size) o (by omega)); (try have hu2x1 := fun o => hf2 (w1.heap.size) o (by omega)); (try have hv2x1 : w1.heap.size < w2.heap.size := (by omega)); (try have hw2x1 : (w2.heap.size = w1.heap.size) = False := eq_false (by omega)); clear hc2 hf2); (try go_wp2_with fail); refine hK.out _ _ ?_ (fun hHeld => ?_); (focus ((try dsimp only); (first | (go_simp; done) | (go_keep; done)))); clear hK K; (try simp only [Act.put, List.setIfInBounds_toArray, List.set_cons_zero, List.set_cons_succ]))
        (refine tc 4 fun K hK => ?_; go_simp; refine tr hK (fun hHeld => ?_); clear hK K)
        (refine tc 5 fun K hK => ?_; go_simp; refine tr hK (fun hHeld => ?_); clear hK K)
        refine wpAnyH_done (by kernel_rfl) ?_ _
        go_wp2_with fail
        go_meet
        exact ⟨_, rfl, (by go_simp), (by go_simp), (by go_simp), (by go_simp), (by first | omega | (simp; done) | (simp; omega)), (by first | omega | (simp; done) | (simp; omega)), bel_a⟩
      · (go_simp; refine hK.out _ _ ?_ (fun hHeld => ?_); (focus ((try dsimp only); (first | (go_simp; done) | (go_keep; done)))); clear hK K; (try simp only [Act.put, List.setIfInBounds_toArray, List.set_cons_zero, List.set_cons_succ]))
        (refine tc 3 fun K hK => ?_; go_simp; (go_at_call 71; refine (plus_any _ _ _ _ _ (by omega) (by omega) (by omega) (by omega)).mono ?_; rintro e w2 ⟨rfl, hb2⟩; obtain ⟨hc2, hf2⟩ := bcell hb2; have hz2 := hb2.size; (try simp only [World.size_drew, World.size_alloc, World.size_setCell] at hc2 hf2 hz2); have hk2x0 := fun o => hc2 (w.heap.size) o (by omega); have hj2x0 := fun o => hf2 (w.heap.size) o (by omega); have hq2x0 : w.heap.size < w2.heap.size := (by omega); have hk2x1 := fun o => hc2 (w.heap.size + 1) o (by omega); have hj2x1 := fun o => hf2 (w.heap.size + 1) o (by omega); have hq2x1 : w.heap.size + 1 < w2.heap.size := (by omega); (try have ht2x0 := fun o => hc2 (w.heap.size + 1 + 1) o (by omega)); (try have hu2x0 := fun o => hf2 (w.heap.size + 1 + 1) o (by omega)); (try have hv2x0 : w.heap.size + 1 + 1 < w2.heap.size := (by omega)); (try have hw2x0 : (w2.heap.size = w.heap.size + 1 + 1) = False := eq_false (by omega)); (try have ht2x1 := fun o => hc2 (w1.heap.size) o (by omega)); (try have hu2x1 := fun o => hf2 (w1.heap.size) o (by omega)); (try have hv2x1 : w1.heap.size < w2.heap.size := (by omega)); (try have hw2x1 : (w2.heap.size = w1.heap.size) = False := eq_false (by omega)); clear hc2 hf2); (try go_wp2_with fail); refine tr hK (fun hHeld => ?_); clear hK K)
        (refine tc 5 fun K hK => ?_; go_simp; refine tr hK (fun hHeld => ?_); clear hK K)
        refine wpAnyH_done (by kernel_rfl) ?_ _
        go_wp2_with fail
        go_meet
        exact ⟨_, rfl, (by go_simp), (by go_simp), (by go_simp), (by go_simp), (by first | omega | (simp; done) | (simp; omega)), (by first | omega | (simp; done) | (simp; omega)), bel_a⟩
    · (go_simp; refine hK.out _ _ ?_ (fun hHeld => ?_); (focus ((try dsimp only); (first | (go_simp; done) | (go_keep; done)))); clear hK K; (try simp only [Act.put, List.setIfInBounds_toArray, List.set_cons_zero, List.set_cons_succ]))
      (refine tc 1 fun K hK => ?_; go_simp; (go_at_call 57; refine (kAt (h0.below (bel_a))).mono ?_; rintro e w1 ⟨rfl, hb1⟩; obtain ⟨hc1, hf1⟩ := bcell hb1; have hz1 := hb1.size; (try simp only [World.size_drew, World.size_alloc, World.size_setCell] at hc1 hf1 hz1); have hk1x0 := fun o => hc1 (w.heap.size) o (by omega); have hj1x0 := fun o => hf1 (w.heap.size) o (by omega); have hq1x0 : w.heap.size < w1.heap.size := (by omega); have hk1x1 := fun o => hc1 (w.heap.size + 1) o (by omega); have hj1x1 := fun o => hf1 (w.heap.size + 1) o (by omega); have hq1x1 : w.heap.size + 1 < w1.heap.size := (by omega); (try have ht1x0 := fun o => hc1 (w.heap.size + 1 + 1) o (by omega)); (try have hu1x0 := fun o => hf1 (w.heap.size + 1 + 1) o (by omega)); (try have hv1x0 : w.heap.size + 1 + 1 < w1.heap.size := (by omega)); (try have hw1x0 : (w1.heap.size = w.heap.size + 1 + 1) = False := eq_false (by omega)); clear hc1 hf1); (try go_wp2_with fail); refine tr hK (fun hHeld => ?_); clear hK K)
      (refine tc 3 fun K hK => ?_; go_simp; (go_at_call 71; refine (plus_any _ _ _ _ _ (by omega) (by omega) (by omega) (by omega)).mono ?_; rintro e w2 ⟨rfl, hb2⟩; obtain ⟨hc2, hf2⟩ := bcell hb2; have hz2 := hb2.size; (try simp only [World.size_drew, World.size_alloc, World.size_setCell] at hc2 hf2 hz2); have hk2x0 := fun o => hc2 (w.heap.size) o (by omega); have hj2x0 := fun o => hf2 (w.heap.size) o (by omega); have hq2x0 : w.heap.size < w2.heap.size := (by omega); have hk2x1 := fun o => hc2 (w.heap.size + 1) o (by omega); have hj2x1 := fun o => hf2 (w.heap.size + 1) o (by omega); have hq2x1 : w.heap.size + 1 < w2.heap.size := (by omega); (try have ht2x0 := fun o => hc2 (w.heap.size + 1 + 1) o (by omega)); (try have hu2x0 := fun o => hf2 (w.heap.size + 1 + 1) o (by omega)); (try have hv2x0 : w.heap.size + 1 + 1 < w2.heap.size := (by omega)); (try have hw2x0 : (w2.heap.size = w.heap.size + 1 + 1) = False := eq_false (by omega)); (try have ht2x1 := fun o => hc2 (w1.heap.size) o (by omega)); (try have hu2x1 := fun o => hf2 (w1.heap.size) o (by omega)); (try have hv2x1 : w1.heap.size < w2.heap.size := (by omega)); (try have hw2x1 : (w2.heap.size = w1.heap.size) = False := eq_false (by omega)); clear hc2 hf2); (try go_wp2_with fail); refine tr hK (fun hHeld => ?_); clear hK K)
      (refine tc 5 fun K hK => ?_; go_simp; refine tr hK (fun hHeld => ?_); clear hK K)
      refine wpAnyH_done (by kernel_rfl) ?_ _
      go_wp2_with fail
      go_meet
      exact ⟨_, rfl, (by go_simp), (by go_simp), (by go_simp), (by go_simp), (by first | omega | (simp; done) | (simp; omega)), (by first | omega | (simp; done) | (simp; omega)), bel_a⟩
  case rest =>
  obtain ⟨Ba, rfl, x0, x1, x2, x3, hlo, hhi, hbel⟩ := hcut
  have nBa : (wc.heap.size = Ba) = False := eq_false (by omega)
  go_upto_region 2 with fail
  go_cut [5, 6] (fun s s' wc => ∃ Bt Bd, s = .pointer (some ⟨Bt, 0, none⟩) ∧ s' = .pointer (some ⟨Bd, 0, none⟩) ∧ wc.cell? ⟨w.heap.size, 0, none⟩ = some (.int .i64 (k : Int)) ∧ wc.cell? ⟨w.heap.size, 1, none⟩ = some (.pointer (some ⟨cb, 0, none⟩)) ∧ wc.cell? ⟨Ba, 0, none⟩ = some (.int .i64 (V 4 + p)) ∧ wc.cell? ⟨Ba, 1, none⟩ = some (.int .i64 (V 5 + q)) ∧ wc.cell? ⟨Bt, 0, none⟩ = some (.int .i64 A) ∧ wc.cell? ⟨Bt, 1, none⟩ = some (.int .i64 B) ∧ wc.cell? ⟨Bd, 0, none⟩ = some (.int .i64 (V 6)) ∧ wc.cell? ⟨Bd, 1, none⟩ = some (.int .i64 (V 7)) ∧ wc.frozen? ⟨Bd, 0, none⟩ = false ∧ wc.frozen? ⟨Bd, 1, none⟩ = false ∧ Ba < Bt ∧ Ba < Bd ∧ Bt ≠ Bd ∧ Bt < wc.heap.size ∧ Bd < wc.heap.size ∧ Below w.heap.size w wc)
  case first =>
    refine wp_region_held_drew (S := fun w' => w'.cell? ⟨w.heap.size, 0, none⟩ = some (.int .i64 (k : Int)) ∧ w'.cell? ⟨w.heap.size, 1, none⟩ = some (.pointer (some ⟨cb, 0, none⟩)) ∧ w'.cell? ⟨Ba, 0, none⟩ = some (.int .i64 (V 4 + p)) ∧ w'.cell? ⟨Ba, 1, none⟩ = some (.int .i64 (V 5 + q))) (by kernel_rfl) ?_ (fun hHeld => ?_)
    · (try dsimp only)
      (first | (go_simp; done) | (go_keep; done))
    refine tq 0 hHeld ?_
    refine tq 2 hHeld ?_
    refine wpAnyH_ready (rs := [1, 4, 5]) (by kernel_rfl) (by simp) ?_
    refine AllReadyH.cons (o := { dst := some 13, op := Go.Op.call { callee := Go.Callee.value (Go.Operand.func 72), args := #[Go.Operand.tmp 12, Go.Operand.const (Go.Value.int Go.IntKind.i64 2560000)], argTypes := #[81, 79] }, type := 81, pos := "l6_body.go:226", after := #[{ on := 0, ground := Go.Ground.data }], guard := none }) rfl (fun K hK => ?_) (AllReadyH.cons (o := { dst := some 5, op := Go.Op.alloc 81, type := 0, pos := "l6_body.go:226", after := #[], guard := none }) rfl (fun K hK => ?_) (AllReadyH.cons (o := { dst := some 6, op := Go.Op.alloc 81, type := 0, pos := "l6_body.go:226", after := #[], guard := none }) rfl (fun K hK => ?_) AllReadyH.nil))
    · (go_simp; (go_at_call 72; refine (wayHeld_z _ _ _ _ _ _ (by omega) (by omega) (by with_reducible assumption) (by with_reducible assumption)).mono ?_; rintro e w11 ⟨rfl, hb11⟩; obtain ⟨hc11, hf11⟩ := bcell hb11; have hz11 := hb11.size; (try simp only [World.size_drew, World.size_alloc, World.size_setCell] at hc11 hf11 hz11); have hk11x0 := fun o => hc11 (w.heap.size) o (by omega); have hj11x0 := fun o => hf11 (w.heap.size) o (by omega); have hq11x0 : w.heap.size < w11.heap.size := (by omega); have hk11x1 := fun o => hc11 (Ba) o (by omega); have hj11x1 := fun o => hf11 (Ba) o (by omega); have hq11x1 : Ba < w11.heap.size := (by omega); (try have ht11x0 := fun o => hc11 (wc.heap.size) o (by omega)); (try have hu11x0 := fun o => hf11 (wc.heap.size) o (by omega)); (try have hv11x0 : wc.heap.size < w11.heap.size := (by omega)); (try have hw11x0 : (w11.heap.size = wc.heap.size) = False := eq_false (by omega)); (try have ht11x1 := fun o => hc11 (wc.heap.size + 1) o (by omega)); (try have hu11x1 := fun o => hf11 (wc.heap.size + 1) o (by omega)); (try have hv11x1 : wc.heap.size + 1 < w11.heap.size := (by omega)); (try have hw11x1 : (w11.heap.size = wc.heap.size + 1) = False := eq_false (by omega)); clear hc11 hf11); (try go_wp2_with fail); refine hK.out _ _ ?_ (fun hHeld => ?_); (focus ((try dsimp only); (first | (go_simp; done) | (go_keep; done)))); clear hK K; (try simp only [Act.put, List.setIfInBounds_toArray, List.set_cons_zero, List.set_cons_succ]))
      refine wpAnyH_ready (rs := [3, 4, 5]) (by kernel_rfl) (by simp) ?_
      refine AllReadyH.cons (o := { dst := some 15, op := Go.Op.call { callee := Go.Callee.value (Go.Operand.func 59), args := #[Go.Operand.tmp 14], argTypes := #[86] }, type := 81, pos := "l6_body.go:226", after := #[{ on := 2, ground := Go.Ground.data }, { on := 1, ground := Go.Ground.chain }], guard := none }) rfl (fun K hK => ?_) (AllReadyH.cons (o := { dst := some 5, op := Go.Op.alloc 81, type := 0, pos := "l6_body.go:226", after := #[], guard := none }) rfl (fun K hK => ?_) (AllReadyH.cons (o := { dst := some 6, op := Go.Op.alloc 81, type := 0, pos := "l6_body.go:226", after := #[], guard := none }) rfl (fun K hK => ?_) AllReadyH.nil))
      · (go_simp; (go_at_call 59; refine (kDrive (h0.below (bel_a))).mono ?_; rintro e w12 ⟨rfl, hb12⟩; obtain ⟨hc12, hf12⟩ := bcell hb12; have hz12 := hb12.size; (try simp only [World.size_drew, World.size_alloc, World.size_setCell] at hc12 hf12 hz12); have hk12x0 := fun o => hc12 (w.heap.size) o (by omega); have hj12x0 := fun o => hf12 (w.heap.size) o (by omega); have hq12x0 : w.heap.size < w12.heap.size := (by omega); have hk12x1 := fun o => hc12 (Ba) o (by omega); have hj12x1 := fun o => hf12 (Ba) o (by omega); have hq12x1 : Ba < w12.heap.size := (by omega); (try have ht12x0 := fun o => hc12 (wc.heap.size) o (by omega)); (try have hu12x0 := fun o => hf12 (wc.heap.size) o (by omega)); (try have hv12x0 : wc.heap.size < w12.heap.size := (by omega)); (try have hw12x0 : (w12.heap.size = wc.heap.size) = False := eq_false (by omega)); (try have ht12x1 := fun o => hc12 (wc.heap.size + 1) o (by omega)); (try have hu12x1 := fun o => hf12 (wc.heap.size + 1) o (by omega)); (try have hv12x1 : wc.heap.size + 1 < w12.heap.size := (by omega)); (try have hw12x1 : (w12.heap.size = wc.heap.size + 1) = False := eq_false (by omega)); (try have ht12x2 := fun o => hc12 (w11.heap.size) o (by omega)); (try have hu12x2 := fun o => hf12 (w11.heap.size) o (by omega)); (try have hv12x2 : w11.heap.size < w12.heap.size := (by omega)); (try have hw12x2 : (w12.heap.size = w11.heap.size) = False := eq_false (by omega)); (try have ht12x3 := fun o => hc12 (w11.heap.size + 1) o (by omega)); (try have hu12x3 := fun o => hf12 (w11.heap.size + 1) o (by omega)); (try have hv12x3 : w11.heap.size + 1 < w12.heap.size := (by omega)); (try have hw12x3 : (w12.heap.size = w11.heap.size + 1) = False := eq_false (by omega)); clear hc12 hf12); (try go_wp2_with fail); refine hK.out _ _ ?_ (fun hHeld => ?_); (focus ((try dsimp only); (first | (go_simp; done) | (go_keep; done)))); clear hK K; (try simp only [Act.put, List.setIfInBounds_toArray, List.set_cons_zero, List.set_cons_succ]))
        refine wpAnyH_ready (rs := [4, 5]) (by kernel_rfl) (by simp) ?_
        refine AllReadyH.cons (o := { dst := some 5, op := Go.Op.alloc 81, type := 0, pos := "l6_body.go:226", after := #[], guard := none }) rfl (fun K hK => ?_) (AllReadyH.cons (o := { dst := some 6, op := Go.Op.alloc 81, type := 0, pos := "l6_body.go:226", after := #[], guard := none }) rfl (fun K hK => ?_) AllReadyH.nil)
        · (go_simp; refine hK.out _ _ ?_ (fun hHeld => ?_); (focus ((try dsimp only); (first | (go_simp; done) | (go_keep; done)))); clear hK K; (try simp only [Act.put, List.setIfInBounds_toArray, List.set_cons_zero, List.set_cons_succ]))
          (refine tc 5 fun K hK => ?_; go_simp; refine tr hK (fun hHeld => ?_); clear hK K)
          (refine tc 6 fun K hK => ?_; go_simp; refine tr hK (fun hHeld => ?_); clear hK K)
          (refine tc 7 fun K hK => ?_; go_simp; refine tr hK (fun hHeld => ?_); clear hK K)
          refine wpAnyH_done (by kernel_rfl) ?_ _
          go_wp2_with fail
          go_meet
          exact ⟨_, _, rfl, rfl, (by go_simp), (by go_simp), (by go_simp), (by go_simp), (by go_simp), (by go_simp), (by go_simp), (by go_simp), (by first | (go_simp; done) | (simp; done)), (by first | (go_simp; done) | (simp; done)), (by first | omega | (simp; done) | (simp; omega)), (by first | omega | (simp; done) | (simp; omega)), (by first | omega | (simp; done) | (simp; omega)), (by first | omega | (simp; done) | (simp; omega)), (by first | omega | (simp; done) | (simp; omega)), bel_a⟩
        · (go_simp; refine hK.out _ _ ?_ (fun hHeld => ?_); (focus ((try dsimp only); (first | (go_simp; done) | (go_keep; done)))); clear hK K; (try simp only [Act.put, List.setIfInBounds_toArray, List.set_cons_zero, List.set_cons_succ]))
          (refine tc 4 fun K hK => ?_; go_simp; refine tr hK (fun hHeld => ?_); clear hK K)
          (refine tc 6 fun K hK => ?_; go_simp; refine tr hK (fun hHeld => ?_); clear hK K)
          (refine tc 7 fun K hK => ?_; go_simp; refine tr hK (fun hHeld => ?_); clear hK K)
          refine wpAnyH_done (by kernel_rfl) ?_ _
          go_wp2_with fail
          go_meet
          exact ⟨_, _, rfl, rfl, (by go_simp), (by go_simp), (by go_simp), (by go_simp), (by go_simp), (by go_simp), (by go_simp), (by go_simp), (by first | (go_simp; done) | (simp; done)), (by first | (go_simp; done) | (simp; done)), (by first | omega | (simp; done) | (simp; omega)), (by first | omega | (simp; done) | (simp; omega)), (by first | omega | (simp; done) | (simp; omega)), (by first | omega | (simp; done) | (simp; omega)), (by first | omega | (simp; done) | (simp; omega)), bel_a⟩
      · (go_simp; refine hK.out _ _ ?_ (fun hHeld => ?_); (focus ((try dsimp only); (first | (go_simp; done) | (go_keep; done)))); clear hK K; (try simp only [Act.put, List.setIfInBounds_toArray, List.set_cons_zero, List.set_cons_succ]))
        refine wpAnyH_ready (rs := [3, 5]) (by kernel_rfl) (by simp) ?_
        refine AllReadyH.cons (o := { dst := some 15, op := Go.Op.call { callee := Go.Callee.value (Go.Operand.func 59), args := #[Go.Operand.tmp 14], argTypes := #[86] }, type := 81, pos := "l6_body.go:226", after := #[{ on := 2, ground := Go.Ground.data }, { on := 1, ground := Go.Ground.chain }], guard := none }) rfl (fun K hK => ?_) (AllReadyH.cons (o := { dst := some 6, op := Go.Op.alloc 81, type := 0, pos := "l6_body.go:226", after := #[], guard := none }) rfl (fun K hK => ?_) AllReadyH.nil)
        · (go_simp; (go_at_call 59; refine (kDrive (h0.below (bel_a))).mono ?_; rintro e w12 ⟨rfl, hb12⟩; obtain ⟨hc12, hf12⟩ := bcell hb12; have hz12 := hb12.size; (try simp only [World.size_drew, World.size_alloc, World.size_setCell] at hc12 hf12 hz12); have hk12x0 := fun o => hc12 (w.heap.size) o (by omega); have hj12x0 := fun o => hf12 (w.heap.size) o (by omega); have hq12x0 : w.heap.size < w12.heap.size := (by omega); have hk12x1 := fun o => hc12 (Ba) o (by omega); have hj12x1 := fun o => hf12 (Ba) o (by omega); have hq12x1 : Ba < w12.heap.size := (by omega); (try have ht12x0 := fun o => hc12 (wc.heap.size) o (by omega)); (try have hu12x0 := fun o => hf12 (wc.heap.size) o (by omega)); (try have hv12x0 : wc.heap.size < w12.heap.size := (by omega)); (try have hw12x0 : (w12.heap.size = wc.heap.size) = False := eq_false (by omega)); (try have ht12x1 := fun o => hc12 (wc.heap.size + 1) o (by omega)); (try have hu12x1 := fun o => hf12 (wc.heap.size + 1) o (by omega)); (try have hv12x1 : wc.heap.size + 1 < w12.heap.size := (by omega)); (try have hw12x1 : (w12.heap.size = wc.heap.size + 1) = False := eq_false (by omega)); (try have ht12x2 := fun o => hc12 (w11.heap.size) o (by omega)); (try have hu12x2 := fun o => hf12 (w11.heap.size) o (by omega)); (try have hv12x2 : w11.heap.size < w12.heap.size := (by omega)); (try have hw12x2 : (w12.heap.size = w11.heap.size) = False := eq_false (by omega)); (try have ht12x3 := fun o => hc12 (w11.heap.size + 1) o (by omega)); (try have hu12x3 := fun o => hf12 (w11.heap.size + 1) o (by omega)); (try have hv12x3 : w11.heap.size + 1 < w12.heap.size := (by omega)); (try have hw12x3 : (w12.heap.size = w11.heap.size + 1) = False := eq_false (by omega)); clear hc12 hf12); (try go_wp2_with fail); refine hK.out _ _ ?_ (fun hHeld => ?_); (focus ((try dsimp only); (first | (go_simp; done) | (go_keep; done)))); clear hK K; (try simp only [Act.put, List.setIfInBounds_toArray, List.set_cons_zero, List.set_cons_succ]))
          (refine tc 5 fun K hK => ?_; go_simp; refine tr hK (fun hHeld => ?_); clear hK K)
          (refine tc 6 fun K hK => ?_; go_simp; refine tr hK (fun hHeld => ?_); clear hK K)
          (refine tc 7 fun K hK => ?_; go_simp; refine tr hK (fun hHeld => ?_); clear hK K)
          refine wpAnyH_done (by kernel_rfl) ?_ _
          go_wp2_with fail
          go_meet
          exact ⟨_, _, rfl, rfl, (by go_simp), (by go_simp), (by go_simp), (by go_simp), (by go_simp), (by go_simp), (by go_simp), (by go_simp), (by first | (go_simp; done) | (simp; done)), (by first | (go_simp; done) | (simp; done)), (by first | omega | (simp; done) | (simp; omega)), (by first | omega | (simp; done) | (simp; omega)), (by first | omega | (simp; done) | (simp; omega)), (by first | omega | (simp; done) | (simp; omega)), (by first | omega | (simp; done) | (simp; omega)), bel_a⟩
        · (go_simp; refine hK.out _ _ ?_ (fun hHeld => ?_); (focus ((try dsimp only); (first | (go_simp; done) | (go_keep; done)))); clear hK K; (try simp only [Act.put, List.setIfInBounds_toArray, List.set_cons_zero, List.set_cons_succ]))
          (refine tc 3 fun K hK => ?_; go_simp; (go_at_call 59; refine (kDrive (h0.below (bel_a))).mono ?_; rintro e w12 ⟨rfl, hb12⟩; obtain ⟨hc12, hf12⟩ := bcell hb12; have hz12 := hb12.size; (try simp only [World.size_drew, World.size_alloc, World.size_setCell] at hc12 hf12 hz12); have hk12x0 := fun o => hc12 (w.heap.size) o (by omega); have hj12x0 := fun o => hf12 (w.heap.size) o (by omega); have hq12x0 : w.heap.size < w12.heap.size := (by omega); have hk12x1 := fun o => hc12 (Ba) o (by omega); have hj12x1 := fun o => hf12 (Ba) o (by omega); have hq12x1 : Ba < w12.heap.size := (by omega); (try have ht12x0 := fun o => hc12 (wc.heap.size) o (by omega)); (try have hu12x0 := fun o => hf12 (wc.heap.size) o (by omega)); (try have hv12x0 : wc.heap.size < w12.heap.size := (by omega)); (try have hw12x0 : (w12.heap.size = wc.heap.size) = False := eq_false (by omega)); (try have ht12x1 := fun o => hc12 (wc.heap.size + 1) o (by omega)); (try have hu12x1 := fun o => hf12 (wc.heap.size + 1) o (by omega)); (try have hv12x1 : wc.heap.size + 1 < w12.heap.size := (by omega)); (try have hw12x1 : (w12.heap.size = wc.heap.size + 1) = False := eq_false (by omega)); (try have ht12x2 := fun o => hc12 (w11.heap.size) o (by omega)); (try have hu12x2 := fun o => hf12 (w11.heap.size) o (by omega)); (try have hv12x2 : w11.heap.size < w12.heap.size := (by omega)); (try have hw12x2 : (w12.heap.size = w11.heap.size) = False := eq_false (by omega)); (try have ht12x3 := fun o => hc12 (w11.heap.size + 1) o (by omega)); (try have hu12x3 := fun o => hf12 (w11.heap.size + 1) o (by omega)); (try have hv12x3 : w11.heap.size + 1 < w12.heap.size := (by omega)); (try have hw12x3 : (w12.heap.size = w11.heap.size + 1) = False := eq_false (by omega)); clear hc12 hf12); (try go_wp2_with fail); refine tr hK (fun hHeld => ?_); clear hK K)
          (refine tc 6 fun K hK => ?_; go_simp; refine tr hK (fun hHeld => ?_); clear hK K)
          (refine tc 7 fun K hK => ?_; go_simp; refine tr hK (fun hHeld => ?_); clear hK K)
          refine wpAnyH_done (by kernel_rfl) ?_ _
          go_wp2_with fail
          go_meet
          exact ⟨_, _, rfl, rfl, (by go_simp), (by go_simp), (by go_simp), (by go_simp), (by go_simp), (by go_simp), (by go_simp), (by go_simp), (by first | (go_simp; done) | (simp; done)), (by first | (go_simp; done) | (simp; done)), (by first | omega | (simp; done) | (simp; omega)), (by first | omega | (simp; done) | (simp; omega)), (by first | omega | (simp; done) | (simp; omega)), (by first | omega | (simp; done) | (simp; omega)), (by first | omega | (simp; done) | (simp; omega)), bel_a⟩
      · (go_simp; refine hK.out _ _ ?_ (fun hHeld => ?_); (focus ((try dsimp only); (first | (go_simp; done) | (go_keep; done)))); clear hK K; (try simp only [Act.put, List.setIfInBounds_toArray, List.set_cons_zero, List.set_cons_succ]))
        refine wpAnyH_ready (rs := [3, 4]) (by kernel_rfl) (by simp) ?_
        refine AllReadyH.cons (o := { dst := some 15, op := Go.Op.call { callee := Go.Callee.value (Go.Operand.func 59), args := #[Go.Operand.tmp 14], argTypes := #[86] }, type := 81, pos := "l6_body.go:226", after := #[{ on := 2, ground := Go.Ground.data }, { on := 1, ground := Go.Ground.chain }], guard := none }) rfl (fun K hK => ?_) (AllReadyH.cons (o := { dst := some 5, op := Go.Op.alloc 81, type := 0, pos := "l6_body.go:226", after := #[], guard := none }) rfl (fun K hK => ?_) AllReadyH.nil)
        · (go_simp; (go_at_call 59; refine (kDrive (h0.below (bel_a))).mono ?_; rintro e w12 ⟨rfl, hb12⟩; obtain ⟨hc12, hf12⟩ := bcell hb12; have hz12 := hb12.size; (try simp only [World.size_drew, World.size_alloc, World.size_setCell] at hc12 hf12 hz12); have hk12x0 := fun o => hc12 (w.heap.size) o (by omega); have hj12x0 := fun o => hf12 (w.heap.size) o (by omega); have hq12x0 : w.heap.size < w12.heap.size := (by omega); have hk12x1 := fun o => hc12 (Ba) o (by omega); have hj12x1 := fun o => hf12 (Ba) o (by omega); have hq12x1 : Ba < w12.heap.size := (by omega); (try have ht12x0 := fun o => hc12 (wc.heap.size) o (by omega)); (try have hu12x0 := fun o => hf12 (wc.heap.size) o (by omega)); (try have hv12x0 : wc.heap.size < w12.heap.size := (by omega)); (try have hw12x0 : (w12.heap.size = wc.heap.size) = False := eq_false (by omega)); (try have ht12x1 := fun o => hc12 (wc.heap.size + 1) o (by omega)); (try have hu12x1 := fun o => hf12 (wc.heap.size + 1) o (by omega)); (try have hv12x1 : wc.heap.size + 1 < w12.heap.size := (by omega)); (try have hw12x1 : (w12.heap.size = wc.heap.size + 1) = False := eq_false (by omega)); (try have ht12x2 := fun o => hc12 (w11.heap.size) o (by omega)); (try have hu12x2 := fun o => hf12 (w11.heap.size) o (by omega)); (try have hv12x2 : w11.heap.size < w12.heap.size := (by omega)); (try have hw12x2 : (w12.heap.size = w11.heap.size) = False := eq_false (by omega)); (try have ht12x3 := fun o => hc12 (w11.heap.size + 1) o (by omega)); (try have hu12x3 := fun o => hf12 (w11.heap.size + 1) o (by omega)); (try have hv12x3 : w11.heap.size + 1 < w12.heap.size := (by omega)); (try have hw12x3 : (w12.heap.size = w11.heap.size + 1) = False := eq_false (by omega)); clear hc12 hf12); (try go_wp2_with fail); refine hK.out _ _ ?_ (fun hHeld => ?_); (focus ((try dsimp only); (first | (go_simp; done) | (go_keep; done)))); clear hK K; (try simp only [Act.put, List.setIfInBounds_toArray, List.set_cons_zero, List.set_cons_succ]))
          (refine tc 4 fun K hK => ?_; go_simp; refine tr hK (fun hHeld => ?_); clear hK K)
          (refine tc 6 fun K hK => ?_; go_simp; refine tr hK (fun hHeld => ?_); clear hK K)
          (refine tc 7 fun K hK => ?_; go_simp; refine tr hK (fun hHeld => ?_); clear hK K)
          refine wpAnyH_done (by kernel_rfl) ?_ _
          go_wp2_with fail
          go_meet
          exact ⟨_, _, rfl, rfl, (by go_simp), (by go_simp), (by go_simp), (by go_simp), (by go_simp), (by go_simp), (by go_simp), (by go_simp), (by first | (go_simp; done) | (simp; done)), (by first | (go_simp; done) | (simp; done)), (by first | omega | (simp; done) | (simp; omega)), (by first | omega | (simp; done) | (simp; omega)), (by first | omega | (simp; done) | (simp; omega)), (by first | omega | (simp; done) | (simp; omega)), (by first | omega | (simp; done) | (simp; omega)), bel_a⟩
        · (go_simp; refine hK.out _ _ ?_ (fun hHeld => ?_); (focus ((try dsimp only); (first | (go_simp; done) | (go_keep; done)))); clear hK K; (try simp only [Act.put, List.setIfInBounds_toArray, List.set_cons_zero, List.set_cons_succ]))
          (refine tc 3 fun K hK => ?_; go_simp; (go_at_call 59; refine (kDrive (h0.below (bel_a))).mono ?_; rintro e w12 ⟨rfl, hb12⟩; obtain ⟨hc12, hf12⟩ := bcell hb12; have hz12 := hb12.size; (try simp only [World.size_drew, World.size_alloc, World.size_setCell] at hc12 hf12 hz12); have hk12x0 := fun o => hc12 (w.heap.size) o (by omega); have hj12x0 := fun o => hf12 (w.heap.size) o (by omega); have hq12x0 : w.heap.size < w12.heap.size := (by omega); have hk12x1 := fun o => hc12 (Ba) o (by omega); have hj12x1 := fun o => hf12 (Ba) o (by omega); have hq12x1 : Ba < w12.heap.size := (by omega); (try have ht12x0 := fun o => hc12 (wc.heap.size) o (by omega)); (try have hu12x0 := fun o => hf12 (wc.heap.size) o (by omega)); (try have hv12x0 : wc.heap.size < w12.heap.size := (by omega)); (try have hw12x0 : (w12.heap.size = wc.heap.size) = False := eq_false (by omega)); (try have ht12x1 := fun o => hc12 (wc.heap.size + 1) o (by omega)); (try have hu12x1 := fun o => hf12 (wc.heap.size + 1) o (by omega)); (try have hv12x1 : wc.heap.size + 1 < w12.heap.size := (by omega)); (try have hw12x1 : (w12.heap.size = wc.heap.size + 1) = False := eq_false (by omega)); (try have ht12x2 := fun o => hc12 (w11.heap.size) o (by omega)); (try have hu12x2 := fun o => hf12 (w11.heap.size) o (by omega)); (try have hv12x2 : w11.heap.size < w12.heap.size := (by omega)); (try have hw12x2 : (w12.heap.size = w11.heap.size) = False := eq_false (by omega)); (try have ht12x3 := fun o => hc12 (w11.heap.size + 1) o (by omega)); (try have hu12x3 := fun o => hf12 (w11.heap.size + 1) o (by omega)); (try have hv12x3 : w11.heap.size + 1 < w12.heap.size := (by omega)); (try have hw12x3 : (w12.heap.size = w11.heap.size + 1) = False := eq_false (by omega)); clear hc12 hf12); (try go_wp2_with fail); refine tr hK (fun hHeld => ?_); clear hK K)
          (refine tc 6 fun K hK => ?_; go_simp; refine tr hK (fun hHeld => ?_); clear hK K)
          (refine tc 7 fun K hK => ?_; go_simp; refine tr hK (fun hHeld => ?_); clear hK K)
          refine wpAnyH_done (by kernel_rfl) ?_ _
          go_wp2_with fail
          go_meet
          exact ⟨_, _, rfl, rfl, (by go_simp), (by go_simp), (by go_simp), (by go_simp), (by go_simp), (by go_simp), (by go_simp), (by go_simp), (by first | (go_simp; done) | (simp; done)), (by first | (go_simp; done) | (simp; done)), (by first | omega | (simp; done) | (simp; omega)), (by first | omega | (simp; done) | (simp; omega)), (by first | omega | (simp; done) | (simp; omega)), (by first | omega | (simp; done) | (simp; omega)), (by first | omega | (simp; done) | (simp; omega)), bel_a⟩
    · (go_simp; refine hK.out _ _ ?_ (fun hHeld => ?_); (focus ((try dsimp only); (first | (go_simp; done) | (go_keep; done)))); clear hK K; (try simp only [Act.put, List.setIfInBounds_toArray, List.set_cons_zero, List.set_cons_succ]))
      refine wpAnyH_ready (rs := [1, 5]) (by kernel_rfl) (by simp) ?_
      refine AllReadyH.cons (o := { dst := some 13, op := Go.Op.call { callee := Go.Callee.value (Go.Operand.func 72), args := #[Go.Operand.tmp 12, Go.Operand.const (Go.Value.int Go.IntKind.i64 2560000)], argTypes := #[81, 79] }, type := 81, pos := "l6_body.go:226", after := #[{ on := 0, ground := Go.Ground.data }], guard := none }) rfl (fun K hK => ?_) (AllReadyH.cons (o := { dst := some 6, op := Go.Op.alloc 81, type := 0, pos := "l6_body.go:226", after := #[], guard := none }) rfl (fun K hK => ?_) AllReadyH.nil)
      · (go_simp; (go_at_call 72; refine (wayHeld_z _ _ _ _ _ _ (by omega) (by omega) (by with_reducible assumption) (by with_reducible assumption)).mono ?_; rintro e w11 ⟨rfl, hb11⟩; obtain ⟨hc11, hf11⟩ := bcell hb11; have hz11 := hb11.size; (try simp only [World.size_drew, World.size_alloc, World.size_setCell] at hc11 hf11 hz11); have hk11x0 := fun o => hc11 (w.heap.size) o (by omega); have hj11x0 := fun o => hf11 (w.heap.size) o (by omega); have hq11x0 : w.heap.size < w11.heap.size := (by omega); have hk11x1 := fun o => hc11 (Ba) o (by omega); have hj11x1 := fun o => hf11 (Ba) o (by omega); have hq11x1 : Ba < w11.heap.size := (by omega); (try have ht11x0 := fun o => hc11 (wc.heap.size) o (by omega)); (try have hu11x0 := fun o => hf11 (wc.heap.size) o (by omega)); (try have hv11x0 : wc.heap.size < w11.heap.size := (by omega)); (try have hw11x0 : (w11.heap.size = wc.heap.size) = False := eq_false (by omega)); (try have ht11x1 := fun o => hc11 (wc.heap.size + 1) o (by omega)); (try have hu11x1 := fun o => hf11 (wc.heap.size + 1) o (by omega)); (try have hv11x1 : wc.heap.size + 1 < w11.heap.size := (by omega)); (try have hw11x1 : (w11.heap.size = wc.heap.size + 1) = False := eq_false (by omega)); clear hc11 hf11); (try go_wp2_with fail); refine hK.out _ _ ?_ (fun hHeld => ?_); (focus ((try dsimp only); (first | (go_simp; done) | (go_keep; done)))); clear hK K; (try simp only [Act.put, List.setIfInBounds_toArray, List.set_cons_zero, List.set_cons_succ]))
        refine wpAnyH_ready (rs := [3, 5]) (by kernel_rfl) (by simp) ?_
        refine AllReadyH.cons (o := { dst := some 15, op := Go.Op.call { callee := Go.Callee.value (Go.Operand.func 59), args := #[Go.Operand.tmp 14], argTypes := #[86] }, type := 81, pos := "l6_body.go:226", after := #[{ on := 2, ground := Go.Ground.data }, { on := 1, ground := Go.Ground.chain }], guard := none }) rfl (fun K hK => ?_) (AllReadyH.cons (o := { dst := some 6, op := Go.Op.alloc 81, type := 0, pos := "l6_body.go:226", after := #[], guard := none }) rfl (fun K hK => ?_) AllReadyH.nil)
        · (go_simp; (go_at_call 59; refine (kDrive (h0.below (bel_a))).mono ?_; rintro e w12 ⟨rfl, hb12⟩; obtain ⟨hc12, hf12⟩ := bcell hb12; have hz12 := hb12.size; (try simp only [World.size_drew, World.size_alloc, World.size_setCell] at hc12 hf12 hz12); have hk12x0 := fun o => hc12 (w.heap.size) o (by omega); have hj12x0 := fun o => hf12 (w.heap.size) o (by omega); have hq12x0 : w.heap.size < w12.heap.size := (by omega); have hk12x1 := fun o => hc12 (Ba) o (by omega); have hj12x1 := fun o => hf12 (Ba) o (by omega); have hq12x1 : Ba < w12.heap.size := (by omega); (try have ht12x0 := fun o => hc12 (wc.heap.size) o (by omega)); (try have hu12x0 := fun o => hf12 (wc.heap.size) o (by omega)); (try have hv12x0 : wc.heap.size < w12.heap.size := (by omega)); (try have hw12x0 : (w12.heap.size = wc.heap.size) = False := eq_false (by omega)); (try have ht12x1 := fun o => hc12 (wc.heap.size + 1) o (by omega)); (try have hu12x1 := fun o => hf12 (wc.heap.size + 1) o (by omega)); (try have hv12x1 : wc.heap.size + 1 < w12.heap.size := (by omega)); (try have hw12x1 : (w12.heap.size = wc.heap.size + 1) = False := eq_false (by omega)); (try have ht12x2 := fun o => hc12 (w11.heap.size) o (by omega)); (try have hu12x2 := fun o => hf12 (w11.heap.size) o (by omega)); (try have hv12x2 : w11.heap.size < w12.heap.size := (by omega)); (try have hw12x2 : (w12.heap.size = w11.heap.size) = False := eq_false (by omega)); (try have ht12x3 := fun o => hc12 (w11.heap.size + 1) o (by omega)); (try have hu12x3 := fun o => hf12 (w11.heap.size + 1) o (by omega)); (try have hv12x3 : w11.heap.size + 1 < w12.heap.size := (by omega)); (try have hw12x3 : (w12.heap.size = w11.heap.size + 1) = False := eq_false (by omega)); clear hc12 hf12); (try go_wp2_with fail); refine hK.out _ _ ?_ (fun hHeld => ?_); (focus ((try dsimp only); (first | (go_simp; done) | (go_keep; done)))); clear hK K; (try simp only [Act.put, List.setIfInBounds_toArray, List.set_cons_zero, List.set_cons_succ]))
          (refine tc 5 fun K hK => ?_; go_simp; refine tr hK (fun hHeld => ?_); clear hK K)
          (refine tc 6 fun K hK => ?_; go_simp; refine tr hK (fun hHeld => ?_); clear hK K)
          (refine tc 7 fun K hK => ?_; go_simp; refine tr hK (fun hHeld => ?_); clear hK K)
          refine wpAnyH_done (by kernel_rfl) ?_ _
          go_wp2_with fail
          go_meet
          exact ⟨_, _, rfl, rfl, (by go_simp), (by go_simp), (by go_simp), (by go_simp), (by go_simp), (by go_simp), (by go_simp), (by go_simp), (by first | (go_simp; done) | (simp; done)), (by first | (go_simp; done) | (simp; done)), (by first | omega | (simp; done) | (simp; omega)), (by first | omega | (simp; done) | (simp; omega)), (by first | omega | (simp; done) | (simp; omega)), (by first | omega | (simp; done) | (simp; omega)), (by first | omega | (simp; done) | (simp; omega)), bel_a⟩
        · (go_simp; refine hK.out _ _ ?_ (fun hHeld => ?_); (focus ((try dsimp only); (first | (go_simp; done) | (go_keep; done)))); clear hK K; (try simp only [Act.put, List.setIfInBounds_toArray, List.set_cons_zero, List.set_cons_succ]))
          (refine tc 3 fun K hK => ?_; go_simp; (go_at_call 59; refine (kDrive (h0.below (bel_a))).mono ?_; rintro e w12 ⟨rfl, hb12⟩; obtain ⟨hc12, hf12⟩ := bcell hb12; have hz12 := hb12.size; (try simp only [World.size_drew, World.size_alloc, World.size_setCell] at hc12 hf12 hz12); have hk12x0 := fun o => hc12 (w.heap.size) o (by omega); have hj12x0 := fun o => hf12 (w.heap.size) o (by omega); have hq12x0 : w.heap.size < w12.heap.size := (by omega); have hk12x1 := fun o => hc12 (Ba) o (by omega); have hj12x1 := fun o => hf12 (Ba) o (by omega); have hq12x1 : Ba < w12.heap.size := (by omega); (try have ht12x0 := fun o => hc12 (wc.heap.size) o (by omega)); (try have hu12x0 := fun o => hf12 (wc.heap.size) o (by omega)); (try have hv12x0 : wc.heap.size < w12.heap.size := (by omega)); (try have hw12x0 : (w12.heap.size = wc.heap.size) = False := eq_false (by omega)); (try have ht12x1 := fun o => hc12 (wc.heap.size + 1) o (by omega)); (try have hu12x1 := fun o => hf12 (wc.heap.size + 1) o (by omega)); (try have hv12x1 : wc.heap.size + 1 < w12.heap.size := (by omega)); (try have hw12x1 : (w12.heap.size = wc.heap.size + 1) = False := eq_false (by omega)); (try have ht12x2 := fun o => hc12 (w11.heap.size) o (by omega)); (try have hu12x2 := fun o => hf12 (w11.heap.size) o (by omega)); (try have hv12x2 : w11.heap.size < w12.heap.size := (by omega)); (try have hw12x2 : (w12.heap.size = w11.heap.size) = False := eq_false (by omega)); (try have ht12x3 := fun o => hc12 (w11.heap.size + 1) o (by omega)); (try have hu12x3 := fun o => hf12 (w11.heap.size + 1) o (by omega)); (try have hv12x3 : w11.heap.size + 1 < w12.heap.size := (by omega)); (try have hw12x3 : (w12.heap.size = w11.heap.size + 1) = False := eq_false (by omega)); clear hc12 hf12); (try go_wp2_with fail); refine tr hK (fun hHeld => ?_); clear hK K)
          (refine tc 6 fun K hK => ?_; go_simp; refine tr hK (fun hHeld => ?_); clear hK K)
          (refine tc 7 fun K hK => ?_; go_simp; refine tr hK (fun hHeld => ?_); clear hK K)
          refine wpAnyH_done (by kernel_rfl) ?_ _
          go_wp2_with fail
          go_meet
          exact ⟨_, _, rfl, rfl, (by go_simp), (by go_simp), (by go_simp), (by go_simp), (by go_simp), (by go_simp), (by go_simp), (by go_simp), (by first | (go_simp; done) | (simp; done)), (by first | (go_simp; done) | (simp; done)), (by first | omega | (simp; done) | (simp; omega)), (by first | omega | (simp; done) | (simp; omega)), (by first | omega | (simp; done) | (simp; omega)), (by first | omega | (simp; done) | (simp; omega)), (by first | omega | (simp; done) | (simp; omega)), bel_a⟩
      · (go_simp; refine hK.out _ _ ?_ (fun hHeld => ?_); (focus ((try dsimp only); (first | (go_simp; done) | (go_keep; done)))); clear hK K; (try simp only [Act.put, List.setIfInBounds_toArray, List.set_cons_zero, List.set_cons_succ]))
        (refine tc 1 fun K hK => ?_; go_simp; (go_at_call 72; refine (wayHeld_z _ _ _ _ _ _ (by omega) (by omega) (by with_reducible assumption) (by with_reducible assumption)).mono ?_; rintro e w11 ⟨rfl, hb11⟩; obtain ⟨hc11, hf11⟩ := bcell hb11; have hz11 := hb11.size; (try simp only [World.size_drew, World.size_alloc, World.size_setCell] at hc11 hf11 hz11); have hk11x0 := fun o => hc11 (w.heap.size) o (by omega); have hj11x0 := fun o => hf11 (w.heap.size) o (by omega); have hq11x0 : w.heap.size < w11.heap.size := (by omega); have hk11x1 := fun o => hc11 (Ba) o (by omega); have hj11x1 := fun o => hf11 (Ba) o (by omega); have hq11x1 : Ba < w11.heap.size := (by omega); (try have ht11x0 := fun o => hc11 (wc.heap.size) o (by omega)); (try have hu11x0 := fun o => hf11 (wc.heap.size) o (by omega)); (try have hv11x0 : wc.heap.size < w11.heap.size := (by omega)); (try have hw11x0 : (w11.heap.size = wc.heap.size) = False := eq_false (by omega)); (try have ht11x1 := fun o => hc11 (wc.heap.size + 1) o (by omega)); (try have hu11x1 := fun o => hf11 (wc.heap.size + 1) o (by omega)); (try have hv11x1 : wc.heap.size + 1 < w11.heap.size := (by omega)); (try have hw11x1 : (w11.heap.size = wc.heap.size + 1) = False := eq_false (by omega)); clear hc11 hf11); (try go_wp2_with fail); refine tr hK (fun hHeld => ?_); clear hK K)
        (refine tc 3 fun K hK => ?_; go_simp; (go_at_call 59; refine (kDrive (h0.below (bel_a))).mono ?_; rintro e w12 ⟨rfl, hb12⟩; obtain ⟨hc12, hf12⟩ := bcell hb12; have hz12 := hb12.size; (try simp only [World.size_drew, World.size_alloc, World.size_setCell] at hc12 hf12 hz12); have hk12x0 := fun o => hc12 (w.heap.size) o (by omega); have hj12x0 := fun o => hf12 (w.heap.size) o (by omega); have hq12x0 : w.heap.size < w12.heap.size := (by omega); have hk12x1 := fun o => hc12 (Ba) o (by omega); have hj12x1 := fun o => hf12 (Ba) o (by omega); have hq12x1 : Ba < w12.heap.size := (by omega); (try have ht12x0 := fun o => hc12 (wc.heap.size) o (by omega)); (try have hu12x0 := fun o => hf12 (wc.heap.size) o (by omega)); (try have hv12x0 : wc.heap.size < w12.heap.size := (by omega)); (try have hw12x0 : (w12.heap.size = wc.heap.size) = False := eq_false (by omega)); (try have ht12x1 := fun o => hc12 (wc.heap.size + 1) o (by omega)); (try have hu12x1 := fun o => hf12 (wc.heap.size + 1) o (by omega)); (try have hv12x1 : wc.heap.size + 1 < w12.heap.size := (by omega)); (try have hw12x1 : (w12.heap.size = wc.heap.size + 1) = False := eq_false (by omega)); (try have ht12x2 := fun o => hc12 (w11.heap.size) o (by omega)); (try have hu12x2 := fun o => hf12 (w11.heap.size) o (by omega)); (try have hv12x2 : w11.heap.size < w12.heap.size := (by omega)); (try have hw12x2 : (w12.heap.size = w11.heap.size) = False := eq_false (by omega)); (try have ht12x3 := fun o => hc12 (w11.heap.size + 1) o (by omega)); (try have hu12x3 := fun o => hf12 (w11.heap.size + 1) o (by omega)); (try have hv12x3 : w11.heap.size + 1 < w12.heap.size := (by omega)); (try have hw12x3 : (w12.heap.size = w11.heap.size + 1) = False := eq_false (by omega)); clear hc12 hf12); (try go_wp2_with fail); refine tr hK (fun hHeld => ?_); clear hK K)
        (refine tc 6 fun K hK => ?_; go_simp; refine tr hK (fun hHeld => ?_); clear hK K)
        (refine tc 7 fun K hK => ?_; go_simp; refine tr hK (fun hHeld => ?_); clear hK K)
        refine wpAnyH_done (by kernel_rfl) ?_ _
        go_wp2_with fail
        go_meet
        exact ⟨_, _, rfl, rfl, (by go_simp), (by go_simp), (by go_simp), (by go_simp), (by go_simp), (by go_simp), (by go_simp), (by go_simp), (by first | (go_simp; done) | (simp; done)), (by first | (go_simp; done) | (simp; done)), (by first | omega | (simp; done) | (simp; omega)), (by first | omega | (simp; done) | (simp; omega)), (by first | omega | (simp; done) | (simp; omega)), (by first | omega | (simp; done) | (simp; omega)), (by first | omega | (simp; done) | (simp; omega)), bel_a⟩
    · (go_simp; refine hK.out _ _ ?_ (fun hHeld => ?_); (focus ((try dsimp only); (first | (go_simp; done) | (go_keep; done)))); clear hK K; (try simp only [Act.put, List.setIfInBounds_toArray, List.set_cons_zero, List.set_cons_succ]))
      refine wpAnyH_ready (rs := [1, 4]) (by kernel_rfl) (by simp) ?_
      refine AllReadyH.cons (o := { dst := some 13, op := Go.Op.call { callee := Go.Callee.value (Go.Operand.func 72), args := #[Go.Operand.tmp 12, Go.Operand.const (Go.Value.int Go.IntKind.i64 2560000)], argTypes := #[81, 79] }, type := 81, pos := "l6_body.go:226", after := #[{ on := 0, ground := Go.Ground.data }], guard := none }) rfl (fun K hK => ?_) (AllReadyH.cons (o := { dst := some 5, op := Go.Op.alloc 81, type := 0, pos := "l6_body.go:226", after := #[], guard := none }) rfl (fun K hK => ?_) AllReadyH.nil)
      · (go_simp; (go_at_call 72; refine (wayHeld_z _ _ _ _ _ _ (by omega) (by omega) (by with_reducible assumption) (by with_reducible assumption)).mono ?_; rintro e w11 ⟨rfl, hb11⟩; obtain ⟨hc11, hf11⟩ := bcell hb11; have hz11 := hb11.size; (try simp only [World.size_drew, World.size_alloc, World.size_setCell] at hc11 hf11 hz11); have hk11x0 := fun o => hc11 (w.heap.size) o (by omega); have hj11x0 := fun o => hf11 (w.heap.size) o (by omega); have hq11x0 : w.heap.size < w11.heap.size := (by omega); have hk11x1 := fun o => hc11 (Ba) o (by omega); have hj11x1 := fun o => hf11 (Ba) o (by omega); have hq11x1 : Ba < w11.heap.size := (by omega); (try have ht11x0 := fun o => hc11 (wc.heap.size) o (by omega)); (try have hu11x0 := fun o => hf11 (wc.heap.size) o (by omega)); (try have hv11x0 : wc.heap.size < w11.heap.size := (by omega)); (try have hw11x0 : (w11.heap.size = wc.heap.size) = False := eq_false (by omega)); (try have ht11x1 := fun o => hc11 (wc.heap.size + 1) o (by omega)); (try have hu11x1 := fun o => hf11 (wc.heap.size + 1) o (by omega)); (try have hv11x1 : wc.heap.size + 1 < w11.heap.size := (by omega)); (try have hw11x1 : (w11.heap.size = wc.heap.size + 1) = False := eq_false (by omega)); clear hc11 hf11); (try go_wp2_with fail); refine hK.out _ _ ?_ (fun hHeld => ?_); (focus ((try dsimp only); (first | (go_simp; done) | (go_keep; done)))); clear hK K; (try simp only [Act.put, List.setIfInBounds_toArray, List.set_cons_zero, List.set_cons_succ]))
        refine wpAnyH_ready (rs := [3, 4]) (by kernel_rfl) (by simp) ?_
        refine AllReadyH.cons (o := { dst := some 15, op := Go.Op.call { callee := Go.Callee.value (Go.Operand.func 59), args := #[Go.Operand.tmp 14], argTypes := #[86] }, type := 81, pos := "l6_body.go:226", after := #[{ on := 2, ground := Go.Ground.data }, { on := 1, ground := Go.Ground.chain }], guard := none }) rfl (fun K hK => ?_) (AllReadyH.cons (o := { dst := some 5, op := Go.Op.alloc 81, type := 0, pos := "l6_body.go:226", after := #[], guard := none }) rfl (fun K hK => ?_) AllReadyH.nil)
        · (go_simp; (go_at_call 59; refine (kDrive (h0.below (bel_a))).mono ?_; rintro e w12 ⟨rfl, hb12⟩; obtain ⟨hc12, hf12⟩ := bcell hb12; have hz12 := hb12.size; (try simp only [World.size_drew, World.size_alloc, World.size_setCell] at hc12 hf12 hz12); have hk12x0 := fun o => hc12 (w.heap.size) o (by omega); have hj12x0 := fun o => hf12 (w.heap.size) o (by omega); have hq12x0 : w.heap.size < w12.heap.size := (by omega); have hk12x1 := fun o => hc12 (Ba) o (by omega); have hj12x1 := fun o => hf12 (Ba) o (by omega); have hq12x1 : Ba < w12.heap.size := (by omega); (try have ht12x0 := fun o => hc12 (wc.heap.size) o (by omega)); (try have hu12x0 := fun o => hf12 (wc.heap.size) o (by omega)); (try have hv12x0 : wc.heap.size < w12.heap.size := (by omega)); (try have hw12x0 : (w12.heap.size = wc.heap.size) = False := eq_false (by omega)); (try have ht12x1 := fun o => hc12 (wc.heap.size + 1) o (by omega)); (try have hu12x1 := fun o => hf12 (wc.heap.size + 1) o (by omega)); (try have hv12x1 : wc.heap.size + 1 < w12.heap.size := (by omega)); (try have hw12x1 : (w12.heap.size = wc.heap.size + 1) = False := eq_false (by omega)); (try have ht12x2 := fun o => hc12 (w11.heap.size) o (by omega)); (try have hu12x2 := fun o => hf12 (w11.heap.size) o (by omega)); (try have hv12x2 : w11.heap.size < w12.heap.size := (by omega)); (try have hw12x2 : (w12.heap.size = w11.heap.size) = False := eq_false (by omega)); (try have ht12x3 := fun o => hc12 (w11.heap.size + 1) o (by omega)); (try have hu12x3 := fun o => hf12 (w11.heap.size + 1) o (by omega)); (try have hv12x3 : w11.heap.size + 1 < w12.heap.size := (by omega)); (try have hw12x3 : (w12.heap.size = w11.heap.size + 1) = False := eq_false (by omega)); clear hc12 hf12); (try go_wp2_with fail); refine hK.out _ _ ?_ (fun hHeld => ?_); (focus ((try dsimp only); (first | (go_simp; done) | (go_keep; done)))); clear hK K; (try simp only [Act.put, List.setIfInBounds_toArray, List.set_cons_zero, List.set_cons_succ]))
          (refine tc 4 fun K hK => ?_; go_simp; refine tr hK (fun hHeld => ?_); clear hK K)
          (refine tc 6 fun K hK => ?_; go_simp; refine tr hK (fun hHeld => ?_); clear hK K)
          (refine tc 7 fun K hK => ?_; go_simp; refine tr hK (fun hHeld => ?_); clear hK K)
          refine wpAnyH_done (by kernel_rfl) ?_ _
          go_wp2_with fail
          go_meet
          exact ⟨_, _, rfl, rfl, (by go_simp), (by go_simp), (by go_simp), (by go_simp), (by go_simp), (by go_simp), (by go_simp), (by go_simp), (by first | (go_simp; done) | (simp; done)), (by first | (go_simp; done) | (simp; done)), (by first | omega | (simp; done) | (simp; omega)), (by first | omega | (simp; done) | (simp; omega)), (by first | omega | (simp; done) | (simp; omega)), (by first | omega | (simp; done) | (simp; omega)), (by first | omega | (simp; done) | (simp; omega)), bel_a⟩
        · (go_simp; refine hK.out _ _ ?_ (fun hHeld => ?_); (focus ((try dsimp only); (first | (go_simp; done) | (go_keep; done)))); clear hK K; (try simp only [Act.put, List.setIfInBounds_toArray, List.set_cons_zero, List.set_cons_succ]))
          (refine tc 3 fun K hK => ?_; go_simp; (go_at_call 59; refine (kDrive (h0.below (bel_a))).mono ?_; rintro e w12 ⟨rfl, hb12⟩; obtain ⟨hc12, hf12⟩ := bcell hb12; have hz12 := hb12.size; (try simp only [World.size_drew, World.size_alloc, World.size_setCell] at hc12 hf12 hz12); have hk12x0 := fun o => hc12 (w.heap.size) o (by omega); have hj12x0 := fun o => hf12 (w.heap.size) o (by omega); have hq12x0 : w.heap.size < w12.heap.size := (by omega); have hk12x1 := fun o => hc12 (Ba) o (by omega); have hj12x1 := fun o => hf12 (Ba) o (by omega); have hq12x1 : Ba < w12.heap.size := (by omega); (try have ht12x0 := fun o => hc12 (wc.heap.size) o (by omega)); (try have hu12x0 := fun o => hf12 (wc.heap.size) o (by omega)); (try have hv12x0 : wc.heap.size < w12.heap.size := (by omega)); (try have hw12x0 : (w12.heap.size = wc.heap.size) = False := eq_false (by omega)); (try have ht12x1 := fun o => hc12 (wc.heap.size + 1) o (by omega)); (try have hu12x1 := fun o => hf12 (wc.heap.size + 1) o (by omega)); (try have hv12x1 : wc.heap.size + 1 < w12.heap.size := (by omega)); (try have hw12x1 : (w12.heap.size = wc.heap.size + 1) = False := eq_false (by omega)); (try have ht12x2 := fun o => hc12 (w11.heap.size) o (by omega)); (try have hu12x2 := fun o => hf12 (w11.heap.size) o (by omega)); (try have hv12x2 : w11.heap.size < w12.heap.size := (by omega)); (try have hw12x2 : (w12.heap.size = w11.heap.size) = False := eq_false (by omega)); (try have ht12x3 := fun o => hc12 (w11.heap.size + 1) o (by omega)); (try have hu12x3 := fun o => hf12 (w11.heap.size + 1) o (by omega)); (try have hv12x3 : w11.heap.size + 1 < w12.heap.size := (by omega)); (try have hw12x3 : (w12.heap.size = w11.heap.size + 1) = False := eq_false (by omega)); clear hc12 hf12); (try go_wp2_with fail); refine tr hK (fun hHeld => ?_); clear hK K)
          (refine tc 6 fun K hK => ?_; go_simp; refine tr hK (fun hHeld => ?_); clear hK K)
          (refine tc 7 fun K hK => ?_; go_simp; refine tr hK (fun hHeld => ?_); clear hK K)
          refine wpAnyH_done (by kernel_rfl) ?_ _
          go_wp2_with fail
          go_meet
          exact ⟨_, _, rfl, rfl, (by go_simp), (by go_simp), (by go_simp), (by go_simp), (by go_simp), (by go_simp), (by go_simp), (by go_simp), (by first | (go_simp; done) | (simp; done)), (by first | (go_simp; done) | (simp; done)), (by first | omega | (simp; done) | (simp; omega)), (by first | omega | (simp; done) | (simp; omega)), (by first | omega | (simp; done) | (simp; omega)), (by first | omega | (simp; done) | (simp; omega)), (by first | omega | (simp; done) | (simp; omega)), bel_a⟩
      · (go_simp; refine hK.out _ _ ?_ (fun hHeld => ?_); (focus ((try dsimp only); (first | (go_simp; done) | (go_keep; done)))); clear hK K; (try simp only [Act.put, List.setIfInBounds_toArray, List.set_cons_zero, List.set_cons_succ]))
        (refine tc 1 fun K hK => ?_; go_simp; (go_at_call 72; refine (wayHeld_z _ _ _ _ _ _ (by omega) (by omega) (by with_reducible assumption) (by with_reducible assumption)).mono ?_; rintro e w11 ⟨rfl, hb11⟩; obtain ⟨hc11, hf11⟩ := bcell hb11; have hz11 := hb11.size; (try simp only [World.size_drew, World.size_alloc, World.size_setCell] at hc11 hf11 hz11); have hk11x0 := fun o => hc11 (w.heap.size) o (by omega); have hj11x0 := fun o => hf11 (w.heap.size) o (by omega); have hq11x0 : w.heap.size < w11.heap.size := (by omega); have hk11x1 := fun o => hc11 (Ba) o (by omega); have hj11x1 := fun o => hf11 (Ba) o (by omega); have hq11x1 : Ba < w11.heap.size := (by omega); (try have ht11x0 := fun o => hc11 (wc.heap.size) o (by omega)); (try have hu11x0 := fun o => hf11 (wc.heap.size) o (by omega)); (try have hv11x0 : wc.heap.size < w11.heap.size := (by omega)); (try have hw11x0 : (w11.heap.size = wc.heap.size) = False := eq_false (by omega)); (try have ht11x1 := fun o => hc11 (wc.heap.size + 1) o (by omega)); (try have hu11x1 := fun o => hf11 (wc.heap.size + 1) o (by omega)); (try have hv11x1 : wc.heap.size + 1 < w11.heap.size := (by omega)); (try have hw11x1 : (w11.heap.size = wc.heap.size + 1) = False := eq_false (by omega)); clear hc11 hf11); (try go_wp2_with fail); refine tr hK (fun hHeld => ?_); clear hK K)
        (refine tc 3 fun K hK => ?_; go_simp; (go_at_call 59; refine (kDrive (h0.below (bel_a))).mono ?_; rintro e w12 ⟨rfl, hb12⟩; obtain ⟨hc12, hf12⟩ := bcell hb12; have hz12 := hb12.size; (try simp only [World.size_drew, World.size_alloc, World.size_setCell] at hc12 hf12 hz12); have hk12x0 := fun o => hc12 (w.heap.size) o (by omega); have hj12x0 := fun o => hf12 (w.heap.size) o (by omega); have hq12x0 : w.heap.size < w12.heap.size := (by omega); have hk12x1 := fun o => hc12 (Ba) o (by omega); have hj12x1 := fun o => hf12 (Ba) o (by omega); have hq12x1 : Ba < w12.heap.size := (by omega); (try have ht12x0 := fun o => hc12 (wc.heap.size) o (by omega)); (try have hu12x0 := fun o => hf12 (wc.heap.size) o (by omega)); (try have hv12x0 : wc.heap.size < w12.heap.size := (by omega)); (try have hw12x0 : (w12.heap.size = wc.heap.size) = False := eq_false (by omega)); (try have ht12x1 := fun o => hc12 (wc.heap.size + 1) o (by omega)); (try have hu12x1 := fun o => hf12 (wc.heap.size + 1) o (by omega)); (try have hv12x1 : wc.heap.size + 1 < w12.heap.size := (by omega)); (try have hw12x1 : (w12.heap.size = wc.heap.size + 1) = False := eq_false (by omega)); (try have ht12x2 := fun o => hc12 (w11.heap.size) o (by omega)); (try have hu12x2 := fun o => hf12 (w11.heap.size) o (by omega)); (try have hv12x2 : w11.heap.size < w12.heap.size := (by omega)); (try have hw12x2 : (w12.heap.size = w11.heap.size) = False := eq_false (by omega)); (try have ht12x3 := fun o => hc12 (w11.heap.size + 1) o (by omega)); (try have hu12x3 := fun o => hf12 (w11.heap.size + 1) o (by omega)); (try have hv12x3 : w11.heap.size + 1 < w12.heap.size := (by omega)); (try have hw12x3 : (w12.heap.size = w11.heap.size + 1) = False := eq_false (by omega)); clear hc12 hf12); (try go_wp2_with fail); refine tr hK (fun hHeld => ?_); clear hK K)
        (refine tc 6 fun K hK => ?_; go_simp; refine tr hK (fun hHeld => ?_); clear hK K)
        (refine tc 7 fun K hK => ?_; go_simp; refine tr hK (fun hHeld => ?_); clear hK K)
        refine wpAnyH_done (by kernel_rfl) ?_ _
        go_wp2_with fail
        go_meet
        exact ⟨_, _, rfl, rfl, (by go_simp), (by go_simp), (by go_simp), (by go_simp), (by go_simp), (by go_simp), (by go_simp), (by go_simp), (by first | (go_simp; done) | (simp; done)), (by first | (go_simp; done) | (simp; done)), (by first | omega | (simp; done) | (simp; omega)), (by first | omega | (simp; done) | (simp; omega)), (by first | omega | (simp; done) | (simp; omega)), (by first | omega | (simp; done) | (simp; omega)), (by first | omega | (simp; done) | (simp; omega)), bel_a⟩
  case rest =>
  obtain ⟨Bt, Bd, rfl, rfl, y0, y1, y2, y3, y4, y5, y6, y7, z0, z1, m0, m1, m2, m3, m4, hbel2⟩ := hcut
  clear x0 x1 x2 x3 hbel hhi nBa
  have kz := hbel2.size
  have ne1 : (Bt = Bd) = False := eq_false m2
  have ne2 : (Bd = Bt) = False := eq_false (by omega)
  have ne3 : (Ba = Bd) = False := eq_false (by omega)
  have ne4 : (Bd = Ba) = False := eq_false (by omega)
  have ne5 : (w.heap.size = Bd) = False := eq_false (by omega)
  have ne6 : (Bd = w.heap.size) = False := eq_false (by omega)
  have lq : w.heap.size < wc.heap.size := by omega
  go_wp2_with fail
  by_cases cA : A = V 4 + p
  · rw [if_pos cA] at eC; subst eC
    by_cases cB : B = V 5 + q
    · rw [if_pos cB] at eD; subst eD
      refine wp_loop_rounds 3 ?_
      rw [rounds_succ]
      go_upto_region 6 with fail
      refine wp_region_held_drew (S := fun w' => w'.cell? ⟨Bt, 0, none⟩ = some (.int .i64 A) ∧ w'.cell? ⟨Bt, 1, none⟩ = some (.int .i64 B) ∧ w'.cell? ⟨Ba, 0, none⟩ = some (.int .i64 (V 4 + p)) ∧ w'.cell? ⟨Ba, 1, none⟩ = some (.int .i64 (V 5 + q))) (by kernel_rfl) ?_ (fun hHeld => ?_)
      · (try dsimp only)
        (first | (go_simp; done) | (go_keep; done))
      refine tq 0 hHeld ?_
      refine tq 1 hHeld ?_
      refine tq 2 hHeld ?_
      refine tq 3 hHeld ?_
      refine tq 4 hHeld ?_
      refine tq 5 hHeld ?_
      refine tq 6 hHeld ?_
      refine wpAnyH_done (by kernel_rfl) ?_ _
      go_wp2_with fail
      rw [rounds_succ]
      go_upto_region 6 with fail
      refine wp_region_held_drew (S := fun w' => w'.cell? ⟨Bt, 0, none⟩ = some (.int .i64 A) ∧ w'.cell? ⟨Bt, 1, none⟩ = some (.int .i64 B) ∧ w'.cell? ⟨Ba, 0, none⟩ = some (.int .i64 (V 4 + p)) ∧ w'.cell? ⟨Ba, 1, none⟩ = some (.int .i64 (V 5 + q))) (by kernel_rfl) ?_ (fun hHeld => ?_)
      · (try dsimp only)
        (first | (go_simp; done) | (go_keep; done))
      refine tq 0 hHeld ?_
      refine tq 1 hHeld ?_
      refine tq 2 hHeld ?_
      refine tq 3 hHeld ?_
      refine tq 4 hHeld ?_
      refine tq 5 hHeld ?_
      refine tq 6 hHeld ?_
      refine wpAnyH_done (by kernel_rfl) ?_ _
      go_wp2_with fail
      rw [rounds_succ]
      go_wp2_with (first
          | (go_at_call 74; refine (kSetDrive hr21 hk hn _ _).mono ?_; rintro e w22 ⟨rfl, hr22, hF22⟩)
          | (go_at_call 73; refine (kSetAt (h.below (bel_a)) hk hn _ _).mono ?_; rintro e w21 ⟨rfl, hr21, hF21⟩; have hz21 := hF21.size; (try simp only [World.size_drew, World.size_alloc, World.size_setCell] at hz21); have hk21x0 := fun o => hF21.cell (p := ⟨w.heap.size, o, none⟩) (by first | omega | (simp; done) | (simp; omega)) (hx _ (by first | omega | (simp; done) | (simp; omega))); have hj21x0 := fun o => hF21.frozen (p := ⟨w.heap.size, o, none⟩) (by first | omega | (simp; done) | (simp; omega)) (hx _ (by first | omega | (simp; done) | (simp; omega))); have hq21x0 : w.heap.size < w21.heap.size := (by omega); have hk21x1 := fun o => hF21.cell (p := ⟨Bd, o, none⟩) (by first | omega | (simp; done) | (simp; omega)) (hx _ (by first | omega | (simp; done) | (simp; omega))); have hj21x1 := fun o => hF21.frozen (p := ⟨Bd, o, none⟩) (by first | omega | (simp; done) | (simp; omega)) (hx _ (by first | omega | (simp; done) | (simp; omega))); have hq21x1 : Bd < w21.heap.size := (by omega)))
      go_end0
      exact ⟨rfl, (by (try rw [cA]); (try rw [cB]); exact hr22), ((Fr.of_below (bel_a)).trans hF21).trans hF22⟩
    · rw [if_neg cB] at eD; subst eD
      refine wp_loop_rounds 3 ?_
      rw [rounds_succ]
      go_upto_region 6 with fail
      refine wp_region_held_drew (S := fun w' => w'.cell? ⟨Bt, 0, none⟩ = some (.int .i64 A) ∧ w'.cell? ⟨Bt, 1, none⟩ = some (.int .i64 B) ∧ w'.cell? ⟨Ba, 0, none⟩ = some (.int .i64 (V 4 + p)) ∧ w'.cell? ⟨Ba, 1, none⟩ = some (.int .i64 (V 5 + q))) (by kernel_rfl) ?_ (fun hHeld => ?_)
      · (try dsimp only)
        (first | (go_simp; done) | (go_keep; done))
      refine tq 0 hHeld ?_
      refine tq 1 hHeld ?_
      refine tq 2 hHeld ?_
      refine tq 3 hHeld ?_
      refine tq 4 hHeld ?_
      refine tq 5 hHeld ?_
      refine tq 6 hHeld ?_
      refine wpAnyH_done (by kernel_rfl) ?_ _
      go_wp2_with fail
      rw [rounds_succ]
      go_upto_region 6 with fail
      refine wp_region_held_drew (S := fun w' => w'.cell? ⟨Bt, 0, none⟩ = some (.int .i64 A) ∧ w'.cell? ⟨Bt, 1, none⟩ = some (.int .i64 B) ∧ w'.cell? ⟨Ba, 0, none⟩ = some (.int .i64 (V 4 + p)) ∧ w'.cell? ⟨Ba, 1, none⟩ = some (.int .i64 (V 5 + q))) (by kernel_rfl) ?_ (fun hHeld => ?_)
      · (try dsimp only)
        (first | (go_simp; done) | (go_keep; done))
      refine tq 0 hHeld ?_
      refine tq 1 hHeld ?_
      refine tq 2 hHeld ?_
      refine tq 3 hHeld ?_
      refine tq 4 hHeld ?_
      refine tq 5 hHeld ?_
      refine tq 6 hHeld ?_
      refine wpAnyH_done (by kernel_rfl) ?_ _
      go_wp2_with fail
      rw [rounds_succ]
      go_wp2_with (first
          | (go_at_call 74; refine (kSetDrive hr21 hk hn _ _).mono ?_; rintro e w22 ⟨rfl, hr22, hF22⟩)
          | (go_at_call 73; refine (kSetAt (h.below (bel_a)) hk hn _ _).mono ?_; rintro e w21 ⟨rfl, hr21, hF21⟩; have hz21 := hF21.size; (try simp only [World.size_drew, World.size_alloc, World.size_setCell] at hz21); have hk21x0 := fun o => hF21.cell (p := ⟨w.heap.size, o, none⟩) (by first | omega | (simp; done) | (simp; omega)) (hx _ (by first | omega | (simp; done) | (simp; omega))); have hj21x0 := fun o => hF21.frozen (p := ⟨w.heap.size, o, none⟩) (by first | omega | (simp; done) | (simp; omega)) (hx _ (by first | omega | (simp; done) | (simp; omega))); have hq21x0 : w.heap.size < w21.heap.size := (by omega); have hk21x1 := fun o => hF21.cell (p := ⟨Bd, o, none⟩) (by first | omega | (simp; done) | (simp; omega)) (hx _ (by first | omega | (simp; done) | (simp; omega))); have hj21x1 := fun o => hF21.frozen (p := ⟨Bd, o, none⟩) (by first | omega | (simp; done) | (simp; omega)) (hx _ (by first | omega | (simp; done) | (simp; omega))); have hq21x1 : Bd < w21.heap.size := (by omega)))
      go_end0
      exact ⟨rfl, (by (try rw [cA]); (try rw [cB]); exact hr22), ((Fr.of_below (bel_a)).trans hF21).trans hF22⟩
  · rw [if_neg cA] at eC; subst eC
    by_cases cB : B = V 5 + q
    · rw [if_pos cB] at eD; subst eD
      refine wp_loop_rounds 3 ?_
      rw [rounds_succ]
      go_upto_region 6 with fail
      refine wp_region_held_drew (S := fun w' => w'.cell? ⟨Bt, 0, none⟩ = some (.int .i64 A) ∧ w'.cell? ⟨Bt, 1, none⟩ = some (.int .i64 B) ∧ w'.cell? ⟨Ba, 0, none⟩ = some (.int .i64 (V 4 + p)) ∧ w'.cell? ⟨Ba, 1, none⟩ = some (.int .i64 (V 5 + q))) (by kernel_rfl) ?_ (fun hHeld => ?_)
      · (try dsimp only)
        (first | (go_simp; done) | (go_keep; done))
      refine tq 0 hHeld ?_
      refine tq 1 hHeld ?_
      refine tq 2 hHeld ?_
      refine tq 3 hHeld ?_
      refine tq 4 hHeld ?_
      refine tq 5 hHeld ?_
      refine tq 6 hHeld ?_
      refine wpAnyH_done (by kernel_rfl) ?_ _
      go_wp2_with fail
      rw [rounds_succ]
      go_upto_region 6 with fail
      refine wp_region_held_drew (S := fun w' => w'.cell? ⟨Bt, 0, none⟩ = some (.int .i64 A) ∧ w'.cell? ⟨Bt, 1, none⟩ = some (.int .i64 B) ∧ w'.cell? ⟨Ba, 0, none⟩ = some (.int .i64 (V 4 + p)) ∧ w'.cell? ⟨Ba, 1, none⟩ = some (.int .i64 (V 5 + q))) (by kernel_rfl) ?_ (fun hHeld => ?_)
      · (try dsimp only)
        (first | (go_simp; done) | (go_keep; done))
      refine tq 0 hHeld ?_
      refine tq 1 hHeld ?_
      refine tq 2 hHeld ?_
      refine tq 3 hHeld ?_
      refine tq 4 hHeld ?_
      refine tq 5 hHeld ?_
      refine tq 6 hHeld ?_
      refine wpAnyH_done (by kernel_rfl) ?_ _
      go_wp2_with fail
      rw [rounds_succ]
      go_wp2_with (first
          | (go_at_call 74; refine (kSetDrive hr21 hk hn _ _).mono ?_; rintro e w22 ⟨rfl, hr22, hF22⟩)
          | (go_at_call 73; refine (kSetAt (h.below (bel_a)) hk hn _ _).mono ?_; rintro e w21 ⟨rfl, hr21, hF21⟩; have hz21 := hF21.size; (try simp only [World.size_drew, World.size_alloc, World.size_setCell] at hz21); have hk21x0 := fun o => hF21.cell (p := ⟨w.heap.size, o, none⟩) (by first | omega | (simp; done) | (simp; omega)) (hx _ (by first | omega | (simp; done) | (simp; omega))); have hj21x0 := fun o => hF21.frozen (p := ⟨w.heap.size, o, none⟩) (by first | omega | (simp; done) | (simp; omega)) (hx _ (by first | omega | (simp; done) | (simp; omega))); have hq21x0 : w.heap.size < w21.heap.size := (by omega); have hk21x1 := fun o => hF21.cell (p := ⟨Bd, o, none⟩) (by first | omega | (simp; done) | (simp; omega)) (hx _ (by first | omega | (simp; done) | (simp; omega))); have hj21x1 := fun o => hF21.frozen (p := ⟨Bd, o, none⟩) (by first | omega | (simp; done) | (simp; omega)) (hx _ (by first | omega | (simp; done) | (simp; omega))); have hq21x1 : Bd < w21.heap.size := (by omega)))
      go_end0
      exact ⟨rfl, (by (try rw [cA]); (try rw [cB]); exact hr22), ((Fr.of_below (bel_a)).trans hF21).trans hF22⟩
    · rw [if_neg cB] at eD; subst eD
      refine wp_loop_rounds 3 ?_
      rw [rounds_succ]
      go_upto_region 6 with fail
      refine wp_region_held_drew (S := fun w' => w'.cell? ⟨Bt, 0, none⟩ = some (.int .i64 A) ∧ w'.cell? ⟨Bt, 1, none⟩ = some (.int .i64 B) ∧ w'.cell? ⟨Ba, 0, none⟩ = some (.int .i64 (V 4 + p)) ∧ w'.cell? ⟨Ba, 1, none⟩ = some (.int .i64 (V 5 + q))) (by kernel_rfl) ?_ (fun hHeld => ?_)
      · (try dsimp only)
        (first | (go_simp; done) | (go_keep; done))
      refine tq 0 hHeld ?_
      refine tq 1 hHeld ?_
      refine tq 2 hHeld ?_
      refine tq 3 hHeld ?_
      refine tq 4 hHeld ?_
      refine tq 5 hHeld ?_
      refine tq 6 hHeld ?_
      refine wpAnyH_done (by kernel_rfl) ?_ _
      go_wp2_with fail
      rw [rounds_succ]
      go_upto_region 6 with fail
      refine wp_region_held_drew (S := fun w' => w'.cell? ⟨Bt, 0, none⟩ = some (.int .i64 A) ∧ w'.cell? ⟨Bt, 1, none⟩ = some (.int .i64 B) ∧ w'.cell? ⟨Ba, 0, none⟩ = some (.int .i64 (V 4 + p)) ∧ w'.cell? ⟨Ba, 1, none⟩ = some (.int .i64 (V 5 + q))) (by kernel_rfl) ?_ (fun hHeld => ?_)
      · (try dsimp only)
        (first | (go_simp; done) | (go_keep; done))
      refine tq 0 hHeld ?_
      refine tq 1 hHeld ?_
      refine tq 2 hHeld ?_
      refine tq 3 hHeld ?_
      refine tq 4 hHeld ?_
      refine tq 5 hHeld ?_
      refine tq 6 hHeld ?_
      refine wpAnyH_done (by kernel_rfl) ?_ _
      go_wp2_with fail
      rw [rounds_succ]
      go_wp2_with (first
          | (go_at_call 74; refine (kSetDrive hr21 hk hn _ _).mono ?_; rintro e w22 ⟨rfl, hr22, hF22⟩)
          | (go_at_call 73; refine (kSetAt (h.below (bel_a)) hk hn _ _).mono ?_; rintro e w21 ⟨rfl, hr21, hF21⟩; have hz21 := hF21.size; (try simp only [World.size_drew, World.size_alloc, World.size_setCell] at hz21); have hk21x0 := fun o => hF21.cell (p := ⟨w.heap.size, o, none⟩) (by first | omega | (simp; done) | (simp; omega)) (hx _ (by first | omega | (simp; done) | (simp; omega))); have hj21x0 := fun o => hF21.frozen (p := ⟨w.heap.size, o, none⟩) (by first | omega | (simp; done) | (simp; omega)) (hx _ (by first | omega | (simp; done) | (simp; omega))); have hq21x0 : w.heap.size < w21.heap.size := (by omega); have hk21x1 := fun o => hF21.cell (p := ⟨Bd, o, none⟩) (by first | omega | (simp; done) | (simp; omega)) (hx _ (by first | omega | (simp; done) | (simp; omega))); have hj21x1 := fun o => hF21.frozen (p := ⟨Bd, o, none⟩) (by first | omega | (simp; done) | (simp; omega)) (hx _ (by first | omega | (simp; done) | (simp; omega))); have hq21x1 : Bd < w21.heap.size := (by omega)))
      go_end0
      exact ⟨rfl, (by (try rw [cA]); (try rw [cB]); exact hr22), ((Fr.of_below (bel_a)).trans hF21).trans hF22⟩
end Go.Proofs.Ytejminehbnebmaa
