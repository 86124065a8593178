/- BodyMove, by the program and by the specification. -/
import Derived.Test.YtflgmpppnobogaaHdMove
import Derived.Deep.RegionHeld3
import Derived.Deep.DeepCutAuto
namespace Go.Proofs.Ytflgmpppnobogaa
open Go.RowKit
set_option linter.unusedVariables false
set_option linter.unusedSimpArgs false

theorem spX_bd (V : Nat → Int) (h : -20000000 ≤ V 6 ∧ V 6 ≤ 20000000) : -20000000 ≤ spX V ∧ spX V ≤ 20000000 := by
  unfold spX; split
  · omega
  · exact tdiv_bd _ h
theorem spY_bd (V : Nat → Int) (h : -20000000 ≤ V 7 ∧ V 7 ≤ 20000000) : -20000000 ≤ spY V ∧ spY V ≤ 20000000 := by
  unfold spY; split
  · omega
  · exact tdiv_bd _ h

set_option maxRecDepth 20000 in
set_option maxHeartbeats 8000000 in
theorem bodyMove_1 (V : Nat → Int) (w : World) (eb : bodyB V = false) :
    Calls Try.prog 27 #[bodyW V] w fun e w' => e = .returned (bodyW (fun _ => 0)) ∧ Below w.heap.size w w' := by
  have hset := cset_map
  go_enter Try.func27, Try.ntmps27
  go_upto_region 1 with fail
  go_cut [4] (fun s wc => s = .bool false ∧ (∀ j, j < 12 → wc.cell? ⟨w.heap.size + 1, j, none⟩ = some (.int .i64 0)) ∧ (∀ j, j < 12 → wc.frozen? ⟨w.heap.size + 1, j, none⟩ = false) ∧ w.heap.size + 1 < wc.heap.size ∧ Below w.heap.size w wc)
  case first =>
    go_wp2_with (go_at_call 43; refine (handleOf_any V _ _ (by with_reducible assumption)).mono ?_; rintro e w1 ⟨cb, G, rfl, hcb, h, hb1⟩; obtain ⟨hc1, hf1⟩ := bcell hb1; have hz1 := hb1.size; (try simp only [World.size_drew, World.size_alloc, World.size_setCell] at hc1 hf1 hz1 hcb); have hl1 := h.cbl; have hres : ∀ j, j < 12 → w1.cell? ⟨w.heap.size + 1, j, none⟩ = some (.int .i64 0) := (by intro j hj; rw [hc1 _ _ (by omega)]; (rcases (show j = 0 ∨ j = 1 ∨ j = 2 ∨ j = 3 ∨ j = 4 ∨ j = 5 ∨ j = 6 ∨ j = 7 ∨ j = 8 ∨ j = 9 ∨ j = 10 ∨ j = 11 by omega) with rfl | rfl | rfl | rfl | rfl | rfl | rfl | rfl | rfl | rfl | rfl | rfl <;> (first | (go_simp; done) | (simp; done)))); have hfre : ∀ j, j < 12 → w1.frozen? ⟨w.heap.size + 1, j, none⟩ = false := (by intro j hj; rw [hf1 _ _ (by omega)]; (rcases (show j = 0 ∨ j = 1 ∨ j = 2 ∨ j = 3 ∨ j = 4 ∨ j = 5 ∨ j = 6 ∨ j = 7 ∨ j = 8 ∨ j = 9 ∨ j = 10 ∨ j = 11 by omega) with rfl | rfl | rfl | rfl | rfl | rfl | rfl | rfl | rfl | rfl | rfl | rfl <;> (first | (go_simp; done) | (simp; done)))); have hqr : w.heap.size + 1 < w1.heap.size := (by omega); clear hc1 hf1)
    go_meet
    exact ⟨rfl, fun j hj => (by have := hres j hj; go_simp), fun j hj => (by have := hfre j hj; go_simp), (by first | omega | (simp; omega)), by repeat (first | with_reducible apply Below.refl | (with_reducible apply Below.setCell; rotate_left; focus (first | omega | (simp; done) | (simp; omega))) | (with_reducible apply Below.alloc; rotate_left; focus (first | omega | (simp; done) | (simp; omega))) | with_reducible apply Below.drew | with_reducible apply belowDrewN | (with_reducible apply Below.trans; rotate_left; with_reducible apply Below.mono; with_reducible assumption; focus (first | omega | (simp; done) | (simp; omega))))⟩
  case rest =>
  obtain ⟨rfl, hres, hfre, hqr, hbel⟩ := hcut
  go_wp2_with fail
  exact bodyPost_ret (v := bodyW (fun _ => 0)) (by simp [results, Try.results27, go_sem, *]) rfl ⟨rfl, by repeat (first | with_reducible apply Below.refl | (with_reducible apply Below.setCell; rotate_left; focus (first | omega | (simp; done) | (simp; omega))) | (with_reducible apply Below.alloc; rotate_left; focus (first | omega | (simp; done) | (simp; omega))) | with_reducible apply Below.drew | with_reducible apply belowDrewN | (with_reducible apply Below.trans; rotate_left; with_reducible apply Below.mono; with_reducible assumption; focus (first | omega | (simp; done) | (simp; omega))))⟩

set_option maxRecDepth 20000 in
set_option maxHeartbeats 8000000 in
theorem bodyMove_2 (V : Nat → Int) (w : World) (eb : bodyB V = true) :
    Calls Try.prog 27 #[bodyW V] w fun e w' => e = .returned (bodyW (moveV V (spX V) (spY V))) ∧ Below w.heap.size w w' := by
  have hset := cset_map
  obtain ⟨⟨m0, m1⟩, ⟨n0, n1⟩, ⟨x0, x1⟩, ⟨y0, y1⟩, ⟨u0, u1⟩, ⟨v0, v1⟩, _⟩ := bodyB_bd eb
  have sx := spX_bd V (by omega)
  have sy := spY_bd V (by omega)
  obtain ⟨X, eX⟩ : ∃ X, moveV V (spX V) (spY V) = X := ⟨_, rfl⟩
  go_enter Try.func27, Try.ntmps27
  go_upto_region 4 with (go_at_call 43; refine (handleOf_any V _ _ (by with_reducible assumption)).mono ?_; rintro e w1 ⟨cb, G, rfl, hcb, h, hb1⟩; obtain ⟨hc1, hf1⟩ := bcell hb1; have hz1 := hb1.size; (try simp only [World.size_drew, World.size_alloc, World.size_setCell] at hc1 hf1 hz1 hcb); have hl1 := h.cbl; have hres : ∀ j, j < 12 → w1.cell? ⟨w.heap.size + 1, j, none⟩ = some (.int .i64 0) := (by intro j hj; rw [hc1 _ _ (by omega)]; (rcases (show j = 0 ∨ j = 1 ∨ j = 2 ∨ j = 3 ∨ j = 4 ∨ j = 5 ∨ j = 6 ∨ j = 7 ∨ j = 8 ∨ j = 9 ∨ j = 10 ∨ j = 11 by omega) with rfl | rfl | rfl | rfl | rfl | rfl | rfl | rfl | rfl | rfl | rfl | rfl <;> (first | (go_simp; done) | (simp; done)))); have hfre : ∀ j, j < 12 → w1.frozen? ⟨w.heap.size + 1, j, none⟩ = false := (by intro j hj; rw [hf1 _ _ (by omega)]; (rcases (show j = 0 ∨ j = 1 ∨ j = 2 ∨ j = 3 ∨ j = 4 ∨ j = 5 ∨ j = 6 ∨ j = 7 ∨ j = 8 ∨ j = 9 ∨ j = 10 ∨ j = 11 by omega) with rfl | rfl | rfl | rfl | rfl | rfl | rfl | rfl | rfl | rfl | rfl | rfl <;> (first | (go_simp; done) | (simp; done)))); have hqr : w.heap.size + 1 < w1.heap.size := (by omega); clear hc1 hf1)
  refine wp_region_held_drew (S := fun w' => w'.cell? ⟨w1.heap.size, 0, none⟩ = some (.int .i64 0) ∧ w'.cell? ⟨w1.heap.size, 1, none⟩ = some (.pointer (some ⟨cb, 0, none⟩))) (by kernel_rfl) ?_ (fun hHeld => ?_)
  · (try dsimp only)
    (first | (go_simp; done) | (go_keep; done))
  (refine wpAnyH_take (i := 0) (oi := { dst := some 13, op := Go.Op.load 68 (Go.Operand.tmp 3), type := 68, pos := "l6_body.go:284", after := #[], guard := none }) (v := ?_) rfl (by kernel_rfl) (by kernel_rfl) (by kernel_rfl) (fun _ _ _ h => h) (Or.inl ⟨by rfl, ?_⟩) hHeld ?_; rotate_left; (focus ((intro w hSw; (try dsimp only at hSw); go_simp); (try with_reducible rfl); done)); (try simp only [Act.put, List.setIfInBounds_toArray, List.set_cons_zero, List.set_cons_succ]))
  (refine wpAnyH_take (i := 1) (oi := { dst := some 14, op := Go.Op.load 68 (Go.Operand.tmp 3), type := 68, pos := "l6_body.go:284", after := #[], guard := none }) (v := ?_) rfl (by kernel_rfl) (by kernel_rfl) (by kernel_rfl) (fun _ _ _ h => h) (Or.inl ⟨by rfl, ?_⟩) hHeld ?_; rotate_left; (focus ((intro w hSw; (try dsimp only at hSw); go_simp); (try with_reducible rfl); done)); (try simp only [Act.put, List.setIfInBounds_toArray, List.set_cons_zero, List.set_cons_succ]))
  (refine wpAnyH_ready (rs := [2]) (by kernel_rfl) (by simp) ?_; refine AllReadyH.cons (o := { dst := some 15, op := Go.Op.call { callee := Go.Callee.value (Go.Operand.func 44), args := #[Go.Operand.tmp 14], argTypes := #[68] }, type := 73, pos := "l6_body.go:284", after := #[{ on := 1, ground := Go.Ground.data }], guard := none }) rfl (fun K hK => ?_) AllReadyH.nil; go_simp; (go_at_call 44; refine (hSpeed cb V G _ (HRows.below (B := w1.heap.size) h (by repeat (first | with_reducible apply Below.refl | (with_reducible apply Below.setCell; rotate_left; focus (first | omega | (simp; done) | (simp; omega))) | (with_reducible apply Below.alloc; rotate_left; focus (first | omega | (simp; done) | (simp; omega))) | with_reducible apply Below.drew | with_reducible apply belowDrewN | (with_reducible apply Below.trans; rotate_left; with_reducible apply Below.mono; with_reducible assumption; focus (first | omega | (simp; done) | (simp; omega))))) (Nat.le_refl _)) (by omega) (by omega)).mono ?_; rintro e w2 ⟨rfl, hb2⟩; obtain ⟨hc2, hf2⟩ := bcell hb2; have hz2 := hb2.size; (try simp only [World.size_drew, World.size_alloc, World.size_setCell] at hc2 hf2 hz2); have hk2x0 := fun o => hc2 (w.heap.size + 1) o (by omega); have hj2x0 := fun o => hf2 (w.heap.size + 1) o (by omega); have hq2x0 : w.heap.size + 1 < w2.heap.size := (by omega); have hk2x1 := fun o => hc2 (w1.heap.size) o (by omega); have hj2x1 := fun o => hf2 (w1.heap.size) o (by omega); have hq2x1 : w1.heap.size < w2.heap.size := (by omega); clear hc2 hf2); (try go_wp2_with fail); refine hK.out _ _ ?_ (fun hHeld => ?_); (focus ((try dsimp only); (first | (go_simp; done) | (go_keep; done)))); clear hK K; (try simp only [Act.put, List.setIfInBounds_toArray, List.set_cons_zero, List.set_cons_succ]))
  (refine wpAnyH_ready (rs := [3]) (by kernel_rfl) (by simp) ?_; refine AllReadyH.cons (o := { dst := some 16, op := Go.Op.call { callee := Go.Callee.value (Go.Operand.func 61), args := #[Go.Operand.tmp 13, Go.Operand.tmp 15], argTypes := #[68, 73] }, type := 0, pos := "l6_body.go:284", after := #[{ on := 0, ground := Go.Ground.data }, { on := 2, ground := Go.Ground.data }, { on := 2, ground := Go.Ground.chain }], guard := none }) rfl (fun K hK => ?_) AllReadyH.nil; go_simp; (go_at_call 61; refine (hMove cb V G _ _ _ (HRows.below (B := w1.heap.size) h (by repeat (first | with_reducible apply Below.refl | (with_reducible apply Below.setCell; rotate_left; focus (first | omega | (simp; done) | (simp; omega))) | (with_reducible apply Below.alloc; rotate_left; focus (first | omega | (simp; done) | (simp; omega))) | with_reducible apply Below.drew | with_reducible apply belowDrewN | (with_reducible apply Below.trans; rotate_left; with_reducible apply Below.mono; with_reducible assumption; focus (first | omega | (simp; done) | (simp; omega))))) (Nat.le_refl _)) (by omega) (by omega) (by omega) (by omega)).mono ?_; rintro e w3 ⟨rfl, hr3, hg3⟩; have hz3 := hg3.size; (try simp only [World.size_drew, World.size_alloc, World.size_setCell] at hz3); have hn3x0 : ∀ j, j < 12 → w.heap.size + 1 ≠ G j := (fun j hj => by have q := h.gl j hj; have q2 := h.cbg j hj; omega); have hk3x0 := fun o => Kg.cell hg3 (p := ⟨w.heap.size + 1, o, none⟩) (by first | omega | (simp; omega)) hn3x0; have hj3x0 := fun o => Kg.frozen hg3 (p := ⟨w.heap.size + 1, o, none⟩) (by first | omega | (simp; omega)) hn3x0; have hq3x0 : w.heap.size + 1 < w3.heap.size := (by omega); clear hn3x0; have hn3x1 : ∀ j, j < 12 → w1.heap.size ≠ G j := (fun j hj => by have q := h.gl j hj; have q2 := h.cbg j hj; omega); have hk3x1 := fun o => Kg.cell hg3 (p := ⟨w1.heap.size, o, none⟩) (by first | omega | (simp; omega)) hn3x1; have hj3x1 := fun o => Kg.frozen hg3 (p := ⟨w1.heap.size, o, none⟩) (by first | omega | (simp; omega)) hn3x1; have hq3x1 : w1.heap.size < w3.heap.size := (by omega); clear hn3x1); (try go_wp2_with fail); refine hK.out _ _ ?_ (fun hHeld => ?_); (focus ((try dsimp only); (first | (go_simp; done) | (go_keep; done)))); clear hK K; (try simp only [Act.put, List.setIfInBounds_toArray, List.set_cons_zero, List.set_cons_succ]))
  refine wpAnyH_done (by kernel_rfl) ?_ _
  have hb3 := hg3.below (B := w.heap.size) (by first | omega | (simp; omega)) (fun j hj => by have q := h.cbg j hj; omega)
  go_wp2_with (go_at_call 59; refine (hBody cb _ G _ hr3).mono ?_; rintro e w4 ⟨rfl, hb4⟩; obtain ⟨hc4, hf4⟩ := bcell hb4; have hz4 := hb4.size; (try simp only [World.size_drew, World.size_alloc, World.size_setCell] at hc4 hf4 hz4); have hk4x0 := fun o => hc4 (w.heap.size + 1) o (by omega); have hj4x0 := fun o => hf4 (w.heap.size + 1) o (by omega); have hq4x0 : w.heap.size + 1 < w4.heap.size := (by omega); clear hc4 hf4)
  exact bodyPost_ret (v := bodyW (moveV V (spX V) (spY V))) (by simp [results, Try.results27, go_sem, *]) rfl ⟨rfl, by repeat (first | with_reducible apply Below.refl | (with_reducible apply Below.setCell; rotate_left; focus (first | omega | (simp; done) | (simp; omega))) | (with_reducible apply Below.alloc; rotate_left; focus (first | omega | (simp; done) | (simp; omega))) | with_reducible apply Below.drew | with_reducible apply belowDrewN | (with_reducible apply Below.trans; rotate_left; with_reducible apply Below.mono; with_reducible assumption; focus (first | omega | (simp; done) | (simp; omega))))⟩

set_option maxRecDepth 20000 in
set_option maxHeartbeats 8000000 in
theorem sBodyMove_1 (V : Nat → Int) (w : World) (eb : bodyB V = false) :
    Calls Try.prog 28 #[bodyW V] w fun e w' => e = .returned (bodyW (fun _ => 0)) ∧ Below w.heap.size w w' := by
  have hset := cset_map
  go_enter Try.func28, Try.ntmps28
  go_upto_region 1 with fail
  have hi : ∀ j, j < 12 → ((w.alloc (.cells #[.int .i64 (V 0), .int .i64 (V 1), .int .i64 (V 2), .int .i64 (V 3), .int .i64 (V 4), .int .i64 (V 5), .int .i64 (V 6), .int .i64 (V 7), .int .i64 (V 8), .int .i64 (V 9), .int .i64 (V 10), .int .i64 (V 11)] 28)).alloc (.cells #[.int .i64 0, .int .i64 0, .int .i64 0, .int .i64 0, .int .i64 0, .int .i64 0, .int .i64 0, .int .i64 0, .int .i64 0, .int .i64 0, .int .i64 0, .int .i64 0] 28)).cell? ⟨w.heap.size, j, none⟩ = some (.int .i64 (V j)) := (fun j hj => by (rcases (show j = 0 ∨ j = 1 ∨ j = 2 ∨ j = 3 ∨ j = 4 ∨ j = 5 ∨ j = 6 ∨ j = 7 ∨ j = 8 ∨ j = 9 ∨ j = 10 ∨ j = 11 by omega) with rfl | rfl | rfl | rfl | rfl | rfl | rfl | rfl | rfl | rfl | rfl | rfl <;> (first | (go_simp; done) | (simp; done))))
  have hr : ∀ j, j < 12 → ((w.alloc (.cells #[.int .i64 (V 0), .int .i64 (V 1), .int .i64 (V 2), .int .i64 (V 3), .int .i64 (V 4), .int .i64 (V 5), .int .i64 (V 6), .int .i64 (V 7), .int .i64 (V 8), .int .i64 (V 9), .int .i64 (V 10), .int .i64 (V 11)] 28)).alloc (.cells #[.int .i64 0, .int .i64 0, .int .i64 0, .int .i64 0, .int .i64 0, .int .i64 0, .int .i64 0, .int .i64 0, .int .i64 0, .int .i64 0, .int .i64 0, .int .i64 0] 28)).cell? ⟨w.heap.size + 1, j, none⟩ = some (.int .i64 0) := (fun j hj => by (rcases (show j = 0 ∨ j = 1 ∨ j = 2 ∨ j = 3 ∨ j = 4 ∨ j = 5 ∨ j = 6 ∨ j = 7 ∨ j = 8 ∨ j = 9 ∨ j = 10 ∨ j = 11 by omega) with rfl | rfl | rfl | rfl | rfl | rfl | rfl | rfl | rfl | rfl | rfl | rfl <;> (first | (go_simp; done) | (simp; done))))
  have hfr : ∀ j, j < 12 → ((w.alloc (.cells #[.int .i64 (V 0), .int .i64 (V 1), .int .i64 (V 2), .int .i64 (V 3), .int .i64 (V 4), .int .i64 (V 5), .int .i64 (V 6), .int .i64 (V 7), .int .i64 (V 8), .int .i64 (V 9), .int .i64 (V 10), .int .i64 (V 11)] 28)).alloc (.cells #[.int .i64 0, .int .i64 0, .int .i64 0, .int .i64 0, .int .i64 0, .int .i64 0, .int .i64 0, .int .i64 0, .int .i64 0, .int .i64 0, .int .i64 0, .int .i64 0] 28)).frozen? ⟨w.heap.size + 1, j, none⟩ = false := (fun j hj => by (rcases (show j = 0 ∨ j = 1 ∨ j = 2 ∨ j = 3 ∨ j = 4 ∨ j = 5 ∨ j = 6 ∨ j = 7 ∨ j = 8 ∨ j = 9 ∨ j = 10 ∨ j = 11 by omega) with rfl | rfl | rfl | rfl | rfl | rfl | rfl | rfl | rfl | rfl | rfl | rfl <;> (first | (go_simp; done) | (simp; done))))
  have hbl : Below w.heap.size w ((w.alloc (.cells #[.int .i64 (V 0), .int .i64 (V 1), .int .i64 (V 2), .int .i64 (V 3), .int .i64 (V 4), .int .i64 (V 5), .int .i64 (V 6), .int .i64 (V 7), .int .i64 (V 8), .int .i64 (V 9), .int .i64 (V 10), .int .i64 (V 11)] 28)).alloc (.cells #[.int .i64 0, .int .i64 0, .int .i64 0, .int .i64 0, .int .i64 0, .int .i64 0, .int .i64 0, .int .i64 0, .int .i64 0, .int .i64 0, .int .i64 0, .int .i64 0] 28)) := (by repeat (first | with_reducible apply Below.refl | (with_reducible apply Below.setCell; rotate_left; focus (first | omega | (simp; done) | (simp; omega))) | (with_reducible apply Below.alloc; rotate_left; focus (first | omega | (simp; done) | (simp; omega))) | with_reducible apply Below.drew | with_reducible apply belowDrewN | (with_reducible apply Below.trans; rotate_left; with_reducible apply Below.mono; with_reducible assumption; focus (first | omega | (simp; done) | (simp; omega)))))
  have hzz : w.heap.size + 1 < ((w.alloc (.cells #[.int .i64 (V 0), .int .i64 (V 1), .int .i64 (V 2), .int .i64 (V 3), .int .i64 (V 4), .int .i64 (V 5), .int .i64 (V 6), .int .i64 (V 7), .int .i64 (V 8), .int .i64 (V 9), .int .i64 (V 10), .int .i64 (V 11)] 28)).alloc (.cells #[.int .i64 0, .int .i64 0, .int .i64 0, .int .i64 0, .int .i64 0, .int .i64 0, .int .i64 0, .int .i64 0, .int .i64 0, .int .i64 0, .int .i64 0, .int .i64 0] 28)).heap.size := (by simp)
  generalize ((w.alloc (.cells #[.int .i64 (V 0), .int .i64 (V 1), .int .i64 (V 2), .int .i64 (V 3), .int .i64 (V 4), .int .i64 (V 5), .int .i64 (V 6), .int .i64 (V 7), .int .i64 (V 8), .int .i64 (V 9), .int .i64 (V 10), .int .i64 (V 11)] 28)).alloc (.cells #[.int .i64 0, .int .i64 0, .int .i64 0, .int .i64 0, .int .i64 0, .int .i64 0, .int .i64 0, .int .i64 0, .int .i64 0, .int .i64 0, .int .i64 0, .int .i64 0] 28)) = wx0 at hi hr hfr hbl hzz ⊢
  have o0 := hi 0 (by omega)
  have r0 := hr 0 (by omega)
  have f0 := hfr 0 (by omega)
  have o1 := hi 1 (by omega)
  have r1 := hr 1 (by omega)
  have f1 := hfr 1 (by omega)
  have o2 := hi 2 (by omega)
  have r2 := hr 2 (by omega)
  have f2 := hfr 2 (by omega)
  have o3 := hi 3 (by omega)
  have r3 := hr 3 (by omega)
  have f3 := hfr 3 (by omega)
  have o4 := hi 4 (by omega)
  have r4 := hr 4 (by omega)
  have f4 := hfr 4 (by omega)
  have o5 := hi 5 (by omega)
  have r5 := hr 5 (by omega)
  have f5 := hfr 5 (by omega)
  have o6 := hi 6 (by omega)
  have r6 := hr 6 (by omega)
  have f6 := hfr 6 (by omega)
  have o7 := hi 7 (by omega)
  have r7 := hr 7 (by omega)
  have f7 := hfr 7 (by omega)
  have o8 := hi 8 (by omega)
  have r8 := hr 8 (by omega)
  have f8 := hfr 8 (by omega)
  have o9 := hi 9 (by omega)
  have r9 := hr 9 (by omega)
  have f9 := hfr 9 (by omega)
  have o10 := hi 10 (by omega)
  have r10 := hr 10 (by omega)
  have f10 := hfr 10 (by omega)
  have o11 := hi 11 (by omega)
  have r11 := hr 11 (by omega)
  have f11 := hfr 11 (by omega)
  clear hi hr hfr
  go_wp2_with (go_at_call 19; refine (sBodyOk_q V _ _ (by with_reducible assumption)).mono ?_; rintro e w1 ⟨rfl, hb1⟩; obtain ⟨hc1, hf1⟩ := bcell hb1; have hz1 := hb1.size; (try simp only [World.size_drew, World.size_alloc, World.size_setCell] at hc1 hf1 hz1); have hk1x0 := fun o => hc1 (w.heap.size) o (by omega); have hj1x0 := fun o => hf1 (w.heap.size) o (by omega); have hq1x0 : w.heap.size < w1.heap.size := (by omega); have hk1x1 := fun o => hc1 (w.heap.size + 1) o (by omega); have hj1x1 := fun o => hf1 (w.heap.size + 1) o (by omega); have hq1x1 : w.heap.size + 1 < w1.heap.size := (by omega); clear hc1 hf1)
  exact bodyPost_ret (v := bodyW (fun _ => 0)) (by simp [results, Try.results28, go_sem, *]) rfl ⟨rfl, by repeat (first | with_reducible apply Below.refl | (with_reducible apply Below.setCell; rotate_left; focus (first | omega | (simp; done) | (simp; omega))) | (with_reducible apply Below.alloc; rotate_left; focus (first | omega | (simp; done) | (simp; omega))) | with_reducible apply Below.drew | with_reducible apply belowDrewN | (with_reducible apply Below.trans; rotate_left; with_reducible apply Below.mono; with_reducible assumption; focus (first | omega | (simp; done) | (simp; omega))))⟩

set_option maxRecDepth 20000 in
set_option maxHeartbeats 8000000 in
theorem sBodyMove_2 (V : Nat → Int) (w : World) (eb : bodyB V = true) :
    Calls Try.prog 28 #[bodyW V] w fun e w' => e = .returned (bodyW (moveV V (spX V) (spY V))) ∧ Below w.heap.size w w' := by
  have hset := cset_map
  obtain ⟨⟨m0, m1⟩, ⟨n0, n1⟩, ⟨x0, x1⟩, ⟨y0, y1⟩, ⟨u0, u1⟩, ⟨v0, v1⟩, _⟩ := bodyB_bd eb
  have sx := spX_bd V (by omega)
  have sy := spY_bd V (by omega)
  go_enter Try.func28, Try.ntmps28
  go_upto_region 1 with fail
  have hi : ∀ j, j < 12 → ((w.alloc (.cells #[.int .i64 (V 0), .int .i64 (V 1), .int .i64 (V 2), .int .i64 (V 3), .int .i64 (V 4), .int .i64 (V 5), .int .i64 (V 6), .int .i64 (V 7), .int .i64 (V 8), .int .i64 (V 9), .int .i64 (V 10), .int .i64 (V 11)] 28)).alloc (.cells #[.int .i64 0, .int .i64 0, .int .i64 0, .int .i64 0, .int .i64 0, .int .i64 0, .int .i64 0, .int .i64 0, .int .i64 0, .int .i64 0, .int .i64 0, .int .i64 0] 28)).cell? ⟨w.heap.size, j, none⟩ = some (.int .i64 (V j)) := (fun j hj => by (rcases (show j = 0 ∨ j = 1 ∨ j = 2 ∨ j = 3 ∨ j = 4 ∨ j = 5 ∨ j = 6 ∨ j = 7 ∨ j = 8 ∨ j = 9 ∨ j = 10 ∨ j = 11 by omega) with rfl | rfl | rfl | rfl | rfl | rfl | rfl | rfl | rfl | rfl | rfl | rfl <;> (first | (go_simp; done) | (simp; done))))
  have hr : ∀ j, j < 12 → ((w.alloc (.cells #[.int .i64 (V 0), .int .i64 (V 1), .int .i64 (V 2), .int .i64 (V 3), .int .i64 (V 4), .int .i64 (V 5), .int .i64 (V 6), .int .i64 (V 7), .int .i64 (V 8), .int .i64 (V 9), .int .i64 (V 10), .int .i64 (V 11)] 28)).alloc (.cells #[.int .i64 0, .int .i64 0, .int .i64 0, .int .i64 0, .int .i64 0, .int .i64 0, .int .i64 0, .int .i64 0, .int .i64 0, .int .i64 0, .int .i64 0, .int .i64 0] 28)).cell? ⟨w.heap.size + 1, j, none⟩ = some (.int .i64 0) := (fun j hj => by (rcases (show j = 0 ∨ j = 1 ∨ j = 2 ∨ j = 3 ∨ j = 4 ∨ j = 5 ∨ j = 6 ∨ j = 7 ∨ j = 8 ∨ j = 9 ∨ j = 10 ∨ j = 11 by omega) with rfl | rfl | rfl | rfl | rfl | rfl | rfl | rfl | rfl | rfl | rfl | rfl <;> (first | (go_simp; done) | (simp; done))))
  have hfr : ∀ j, j < 12 → ((w.alloc (.cells #[.int .i64 (V 0), .int .i64 (V 1), .int .i64 (V 2), .int .i64 (V 3), .int .i64 (V 4), .int .i64 (V 5), .int .i64 (V 6), .int .i64 (V 7), .int .i64 (V 8), .int .i64 (V 9), .int .i64 (V 10), .int .i64 (V 11)] 28)).alloc (.cells #[.int .i64 0, .int .i64 0, .int .i64 0, .int .i64 0, .int .i64 0, .int .i64 0, .int .i64 0, .int .i64 0, .int .i64 0, .int .i64 0, .int .i64 0, .int .i64 0] 28)).frozen? ⟨w.heap.size + 1, j, none⟩ = false := (fun j hj => by (rcases (show j = 0 ∨ j = 1 ∨ j = 2 ∨ j = 3 ∨ j = 4 ∨ j = 5 ∨ j = 6 ∨ j = 7 ∨ j = 8 ∨ j = 9 ∨ j = 10 ∨ j = 11 by omega) with rfl | rfl | rfl | rfl | rfl | rfl | rfl | rfl | rfl | rfl | rfl | rfl <;> (first | (go_simp; done) | (simp; done))))
  have hbl : Below w.heap.size w ((w.alloc (.cells #[.int .i64 (V 0), .int .i64 (V 1), .int .i64 (V 2), .int .i64 (V 3), .int .i64 (V 4), .int .i64 (V 5), .int .i64 (V 6), .int .i64 (V 7), .int .i64 (V 8), .int .i64 (V 9), .int .i64 (V 10), .int .i64 (V 11)] 28)).alloc (.cells #[.int .i64 0, .int .i64 0, .int .i64 0, .int .i64 0, .int .i64 0, .int .i64 0, .int .i64 0, .int .i64 0, .int .i64 0, .int .i64 0, .int .i64 0, .int .i64 0] 28)) := (by repeat (first | with_reducible apply Below.refl | (with_reducible apply Below.setCell; rotate_left; focus (first | omega | (simp; done) | (simp; omega))) | (with_reducible apply Below.alloc; rotate_left; focus (first | omega | (simp; done) | (simp; omega))) | with_reducible apply Below.drew | with_reducible apply belowDrewN | (with_reducible apply Below.trans; rotate_left; with_reducible apply Below.mono; with_reducible assumption; focus (first | omega | (simp; done) | (simp; omega)))))
  have hzz : w.heap.size + 1 < ((w.alloc (.cells #[.int .i64 (V 0), .int .i64 (V 1), .int .i64 (V 2), .int .i64 (V 3), .int .i64 (V 4), .int .i64 (V 5), .int .i64 (V 6), .int .i64 (V 7), .int .i64 (V 8), .int .i64 (V 9), .int .i64 (V 10), .int .i64 (V 11)] 28)).alloc (.cells #[.int .i64 0, .int .i64 0, .int .i64 0, .int .i64 0, .int .i64 0, .int .i64 0, .int .i64 0, .int .i64 0, .int .i64 0, .int .i64 0, .int .i64 0, .int .i64 0] 28)).heap.size := (by simp)
  generalize ((w.alloc (.cells #[.int .i64 (V 0), .int .i64 (V 1), .int .i64 (V 2), .int .i64 (V 3), .int .i64 (V 4), .int .i64 (V 5), .int .i64 (V 6), .int .i64 (V 7), .int .i64 (V 8), .int .i64 (V 9), .int .i64 (V 10), .int .i64 (V 11)] 28)).alloc (.cells #[.int .i64 0, .int .i64 0, .int .i64 0, .int .i64 0, .int .i64 0, .int .i64 0, .int .i64 0, .int .i64 0, .int .i64 0, .int .i64 0, .int .i64 0, .int .i64 0] 28)) = wx0 at hi hr hfr hbl hzz ⊢
  have o0 := hi 0 (by omega)
  have r0 := hr 0 (by omega)
  have f0 := hfr 0 (by omega)
  have o1 := hi 1 (by omega)
  have r1 := hr 1 (by omega)
  have f1 := hfr 1 (by omega)
  have o2 := hi 2 (by omega)
  have r2 := hr 2 (by omega)
  have f2 := hfr 2 (by omega)
  have o3 := hi 3 (by omega)
  have r3 := hr 3 (by omega)
  have f3 := hfr 3 (by omega)
  have o4 := hi 4 (by omega)
  have r4 := hr 4 (by omega)
  have f4 := hfr 4 (by omega)
  have o5 := hi 5 (by omega)
  have r5 := hr 5 (by omega)
  have f5 := hfr 5 (by omega)
  have o6 := hi 6 (by omega)
  have r6 := hr 6 (by omega)
  have f6 := hfr 6 (by omega)
  have o7 := hi 7 (by omega)
  have r7 := hr 7 (by omega)
  have f7 := hfr 7 (by omega)
  have o8 := hi 8 (by omega)
  have r8 := hr 8 (by omega)
  have f8 := hfr 8 (by omega)
  have o9 := hi 9 (by omega)
  have r9 := hr 9 (by omega)
  have f9 := hfr 9 (by omega)
  have o10 := hi 10 (by omega)
  have r10 := hr 10 (by omega)
  have f10 := hfr 10 (by omega)
  have o11 := hi 11 (by omega)
  have r11 := hr 11 (by omega)
  have f11 := hfr 11 (by omega)
  clear hi hr hfr
  go_upto_region 3 with (go_at_call 19; refine (sBodyOk_q V _ _ (by with_reducible assumption)).mono ?_; rintro e w1 ⟨rfl, hb1⟩; obtain ⟨hc1, hf1⟩ := bcell hb1; have hz1 := hb1.size; (try simp only [World.size_drew, World.size_alloc, World.size_setCell] at hc1 hf1 hz1); have hk1x0 := fun o => hc1 (w.heap.size) o (by omega); have hj1x0 := fun o => hf1 (w.heap.size) o (by omega); have hq1x0 : w.heap.size < w1.heap.size := (by omega); have hk1x1 := fun o => hc1 (w.heap.size + 1) o (by omega); have hj1x1 := fun o => hf1 (w.heap.size + 1) o (by omega); have hq1x1 : w.heap.size + 1 < w1.heap.size := (by omega); clear hc1 hf1)
  refine wp_region_held_drew (S := fun w' => w'.cell? ⟨w.heap.size, 0, none⟩ = some (.int .i64 (V 0)) ∧ w'.cell? ⟨w.heap.size, 1, none⟩ = some (.int .i64 (V 1)) ∧ w'.cell? ⟨w.heap.size, 2, none⟩ = some (.int .i64 (V 2)) ∧ w'.cell? ⟨w.heap.size, 3, none⟩ = some (.int .i64 (V 3)) ∧ w'.cell? ⟨w.heap.size, 4, none⟩ = some (.int .i64 (V 4)) ∧ w'.cell? ⟨w.heap.size, 5, none⟩ = some (.int .i64 (V 5)) ∧ w'.cell? ⟨w.heap.size, 6, none⟩ = some (.int .i64 (V 6)) ∧ w'.cell? ⟨w.heap.size, 7, none⟩ = some (.int .i64 (V 7)) ∧ w'.cell? ⟨w.heap.size, 8, none⟩ = some (.int .i64 (V 8)) ∧ w'.cell? ⟨w.heap.size, 9, none⟩ = some (.int .i64 (V 9)) ∧ w'.cell? ⟨w.heap.size, 10, none⟩ = some (.int .i64 (V 10)) ∧ w'.cell? ⟨w.heap.size, 11, none⟩ = some (.int .i64 (V 11))) (by kernel_rfl) ?_ (fun hHeld => ?_)
  · (try dsimp only)
    (first | (go_simp; done) | (go_keep; done))
  (refine wpAnyH_take (i := 0) (oi := { dst := some 7, op := Go.Op.load 28 (Go.Operand.tmp 1), type := 28, pos := "l6_body.go:99", after := #[], guard := none }) (v := ?_) rfl (by kernel_rfl) (by kernel_rfl) (by kernel_rfl) (fun _ _ _ h => h) (Or.inl ⟨by rfl, ?_⟩) hHeld ?_; rotate_left; (focus ((intro w hSw; (try dsimp only at hSw); go_simp); (try with_reducible rfl); done)); (try simp only [Act.put, List.setIfInBounds_toArray, List.set_cons_zero, List.set_cons_succ]))
  (refine wpAnyH_take (i := 1) (oi := { dst := some 8, op := Go.Op.load 28 (Go.Operand.tmp 1), type := 28, pos := "l6_body.go:99", after := #[], guard := none }) (v := ?_) rfl (by kernel_rfl) (by kernel_rfl) (by kernel_rfl) (fun _ _ _ h => h) (Or.inl ⟨by rfl, ?_⟩) hHeld ?_; rotate_left; (focus ((intro w hSw; (try dsimp only at hSw); go_simp); (try with_reducible rfl); done)); (try simp only [Act.put, List.setIfInBounds_toArray, List.set_cons_zero, List.set_cons_succ]))
  (refine wpAnyH_ready (rs := [2]) (by kernel_rfl) (by simp) ?_; refine AllReadyH.cons (o := { dst := some 9, op := Go.Op.call { callee := Go.Callee.value (Go.Operand.func 46), args := #[Go.Operand.tmp 8], argTypes := #[28] }, type := 26, pos := "l6_body.go:99", after := #[{ on := 1, ground := Go.Ground.data }], guard := none }) rfl (fun K hK => ?_) AllReadyH.nil; go_simp; (go_at_call 46; refine (l6Speed_any V _ (by omega) (by omega)).mono ?_; rintro e w2 ⟨rfl, hb2⟩; obtain ⟨hc2, hf2⟩ := bcell hb2; have hz2 := hb2.size; (try simp only [World.size_drew, World.size_alloc, World.size_setCell] at hc2 hf2 hz2); have hk2x0 := fun o => hc2 (w.heap.size) o (by omega); have hj2x0 := fun o => hf2 (w.heap.size) o (by omega); have hq2x0 : w.heap.size < w2.heap.size := (by omega); have hk2x1 := fun o => hc2 (w.heap.size + 1) o (by omega); have hj2x1 := fun o => hf2 (w.heap.size + 1) o (by omega); have hq2x1 : w.heap.size + 1 < w2.heap.size := (by omega); clear hc2 hf2); (try go_wp2_with fail); refine hK.out _ _ ?_ (fun hHeld => ?_); (focus ((try dsimp only); (first | (go_simp; done) | (go_keep; done)))); clear hK K; (try simp only [Act.put, List.setIfInBounds_toArray, List.set_cons_zero, List.set_cons_succ]))
  (refine wpAnyH_ready (rs := [3]) (by kernel_rfl) (by simp) ?_; refine AllReadyH.cons (o := { dst := some 10, op := Go.Op.call { callee := Go.Callee.value (Go.Operand.func 62), args := #[Go.Operand.tmp 7, Go.Operand.tmp 9], argTypes := #[28, 26] }, type := 28, pos := "l6_body.go:99", after := #[{ on := 0, ground := Go.Ground.data }, { on := 2, ground := Go.Ground.data }, { on := 2, ground := Go.Ground.chain }], guard := none }) rfl (fun K hK => ?_) AllReadyH.nil; go_simp; (go_at_call 62; refine (l6Move_any V _ _ _ (by omega) (by omega) (by omega) (by omega)).mono ?_; rintro e w3 ⟨rfl, hb3⟩; obtain ⟨hc3, hf3⟩ := bcell hb3; have hz3 := hb3.size; (try simp only [World.size_drew, World.size_alloc, World.size_setCell] at hc3 hf3 hz3); have hk3x0 := fun o => hc3 (w.heap.size) o (by omega); have hj3x0 := fun o => hf3 (w.heap.size) o (by omega); have hq3x0 : w.heap.size < w3.heap.size := (by omega); have hk3x1 := fun o => hc3 (w.heap.size + 1) o (by omega); have hj3x1 := fun o => hf3 (w.heap.size + 1) o (by omega); have hq3x1 : w.heap.size + 1 < w3.heap.size := (by omega); clear hc3 hf3); (try go_wp2_with fail); refine hK.out _ _ ?_ (fun hHeld => ?_); (focus ((try dsimp only); (first | (go_simp; done) | (go_keep; done)))); clear hK K; (try simp only [Act.put, List.setIfInBounds_toArray, List.set_cons_zero, List.set_cons_succ]))
  (refine wpAnyH_ready (rs := [4]) (by kernel_rfl) (by simp) ?_; refine AllReadyH.cons (o := { dst := none, op := Go.Op.store 28 (Go.Operand.tmp 2) (Go.Operand.tmp 10), type := 0, pos := "l6_body.go:99", after := #[{ on := 3, ground := Go.Ground.data }, { on := 3, ground := Go.Ground.chain }, { on := 0, ground := Go.Ground.phase }, { on := 1, ground := Go.Ground.phase }, { on := 2, ground := Go.Ground.phase }, { on := 3, ground := Go.Ground.phase }], guard := none }) rfl (fun K hK => ?_) AllReadyH.nil; go_simp; refine hK.out _ _ ?_ (fun hHeld => ?_); (focus ((try dsimp only); (first | (go_simp; done) | (go_keep; done)))); clear hK K; (try simp only [Act.put, List.setIfInBounds_toArray, List.set_cons_zero, List.set_cons_succ]))
  refine wpAnyH_done (by kernel_rfl) ?_ _
  go_wp2_with fail
  exact bodyPost_ret (v := bodyW (moveV V (spX V) (spY V))) (by simp [results, Try.results28, go_sem, *]) rfl ⟨rfl, by repeat (first | with_reducible apply Below.refl | (with_reducible apply Below.setCell; rotate_left; focus (first | omega | (simp; done) | (simp; omega))) | (with_reducible apply Below.alloc; rotate_left; focus (first | omega | (simp; done) | (simp; omega))) | with_reducible apply Below.drew | with_reducible apply belowDrewN | (with_reducible apply Below.trans; rotate_left; with_reducible apply Below.mono; with_reducible assumption; focus (first | omega | (simp; done) | (simp; omega))))⟩
def bmV (V : Nat → Int) : Nat → Int := if bodyB V = true then moveV V (spX V) (spY V) else fun _ => 0
theorem sBodyMove_q (V U : Nat → Int) (w : World) (eU : bmV V = U) : Calls Try.prog 28 #[bodyW V] w fun e w' => e = .returned (bodyW U) ∧ Below w.heap.size w w' := by
  subst eU
  unfold bmV
  cases eb : bodyB V with
  | false => rw [if_neg (by simp)]; exact sBodyMove_1 V w eb
  | true => rw [if_pos (by simp)]; exact sBodyMove_2 V w eb
theorem bodyMove_q (V U : Nat → Int) (w : World) (eU : bmV V = U) : Calls Try.prog 27 #[bodyW V] w fun e w' => e = .returned (bodyW U) ∧ Below w.heap.size w w' := by
  subst eU
  unfold bmV
  cases eb : bodyB V with
  | false => rw [if_neg (by simp)]; exact bodyMove_1 V w eb
  | true => rw [if_pos (by simp)]; exact bodyMove_2 V w eb
end Go.Proofs.Ytflgmpppnobogaa
