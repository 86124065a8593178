/- How a box and something round touch, by the specification. -/
import Derived.Test.YthekeeagjokpeaaGreatB9
import Derived.Deep.RegionHeld3
import Derived.Deep.DeepCutAuto
namespace Go.Proofs.YthekeeagjokpeaaGreat
open Go.RowKit
set_option linter.unusedVariables false
set_option linter.unusedSimpArgs false

def mxT (a b c d x y g : Int) : (Int × Int × Int) × Bool := if ptB a b c d x y = true then (((bsT (c - x) (x - a) (d - y) (y - b)).1, (bsT (c - x) (x - a) (d - y) (y - b)).2.1, (bsT (c - x) (x - a) (d - y) (y - b)).2.2 + g), true) else rdT (x - mn (mx x a) c) (y - mn (mx y b) d) g
theorem bsT_bd {s0 s1 s2 s3 B : Int} (h0 : -B ≤ s0 ∧ s0 ≤ B) (h1 : -B ≤ s1 ∧ s1 ≤ B) (h2 : -B ≤ s2 ∧ s2 ≤ B) (h3 : -B ≤ s3 ∧ s3 ≤ B) : -B ≤ (bsT s0 s1 s2 s3).2.2 ∧ (bsT s0 s1 s2 s3).2.2 ≤ B ∧ (-256 ≤ (bsT s0 s1 s2 s3).1 ∧ (bsT s0 s1 s2 s3).1 ≤ 256) ∧ (-256 ≤ (bsT s0 s1 s2 s3).2.1 ∧ (bsT s0 s1 s2 s3).2.1 ≤ 256) := by
  unfold bsT
  by_cases a : s1 < s0
  · simp only [if_pos a]
    by_cases b : s2 < s1
    · simp only [if_pos b]
      by_cases c : s3 < s2
      · simp only [if_pos c]; omega
      · simp only [if_neg c]; omega
    · simp only [if_neg b]
      by_cases c : s3 < s1
      · simp only [if_pos c]; omega
      · simp only [if_neg c]; omega
  · simp only [if_neg a]
    by_cases b : s2 < s0
    · simp only [if_pos b]
      by_cases c : s3 < s2
      · simp only [if_pos c]; omega
      · simp only [if_neg c]; omega
    · simp only [if_neg b]
      by_cases c : s3 < s0
      · simp only [if_pos c]; omega
      · simp only [if_neg c]; omega
theorem near_in {a c x B : Int} (ha : -B ≤ a ∧ a ≤ B) (hc : -B ≤ c ∧ c ≤ B) (hx : -B ≤ x ∧ x ≤ B) : -B ≤ mn (mx x a) c ∧ mn (mx x a) c ≤ B := by
  unfold mn mx; repeat' split <;> omega

theorem spoint_q (a b c d x y : Int) (z : Bool) (w : World) (e : ptB a b c d x y = z) :
    Calls Tryz.prog 89 #[b4 a b c d, vv x y] w fun e w' => e = .returned (.bool z) ∧ Below w.heap.size w w' := by
  subst e; exact l3Point_any a b c d x y w
theorem snear_q (a b c d x y X Y : Int) (w : World) (e1 : mn (mx x a) c = X) (e2 : mn (mx y b) d = Y) :
    Calls Tryz.prog 90 #[b4 a b c d, vv x y] w fun e w' => e = .returned (vv X Y) ∧ Below w.heap.size w w' := by
  subst e1; subst e2; exact l3Near_any a b c d x y w
set_option maxHeartbeats 8000000 in
theorem l5Mixed_q (a b c d x y g X Y D : Int) (K : Bool) (w : World) (qa : -3000000 ≤ a ∧ a ≤ 3000000) (qb : -3000000 ≤ b ∧ b ≤ 3000000) (qc : -3000000 ≤ c ∧ c ≤ 3000000) (qd : -3000000 ≤ d ∧ d ≤ 3000000) (qx : -3000000 ≤ x ∧ x ≤ 3000000) (qy : -3000000 ≤ y ∧ y ≤ 3000000) (g0 : 0 ≤ g ∧ g ≤ 100000) (e : mxT a b c d x y g = ((X, Y, D), K)) :
    Calls Tryz.prog 59 #[b4 a b c d, vv x y, .int .i64 g] w fun e w' => e = .returned (.tuple #[s3 X Y D, .bool K]) ∧ Below w.heap.size w w' := by
  have hset := cset_map
  unfold mxT at e
  cases eP : ptB a b c d x y with
  | true =>
    rw [if_pos eP] at e
    have hb := bsT_bd (s0 := c - x) (s1 := x - a) (s2 := d - y) (s3 := y - b) (B := 6000000) (by omega) (by omega) (by omega) (by omega)
    obtain ⟨⟨P, Q, E⟩, eQ⟩ : ∃ z, bsT (c - x) (x - a) (d - y) (y - b) = z := ⟨_, rfl⟩
    rw [eQ] at e hb
    dsimp only at hb
    simp only [Prod.mk.injEq] at e
    obtain ⟨⟨eX, eY, eD⟩, eK⟩ := e
    subst eX
    subst eY
    subst eD
    subst eK
    have eB : bxT a b c d x y x y = ((P, Q, E), true) := by
      have hm : (leB a b x y && leB x y c d) = true := by
        unfold ptB at eP; have := of_decide_eq_true eP; unfold leB; simp only [Bool.and_eq_true, decide_eq_true_eq]; omega
      unfold bxT; rw [if_pos hm, eQ]
    have w1 := i64w (n := E + g) (by have := hb.1; have := hb.2.1; omega)
    clear hb eQ
    go_enter Tryz.func59, Tryz.ntmps59
    go_wp2_with (first
    | (go_at_call 89; refine (spoint_q _ _ _ _ _ _ _ _ eP).mono ?_; rintro e w1 ⟨rfl, hb1⟩; obtain ⟨hc1, hf1⟩ := bcell hb1; have hz1 := hb1.size; (try simp only [World.size_drew, World.size_alloc, World.size_setCell] at hc1 hf1 hz1); have hk1x0 := fun o => hc1 (w.heap.size) o (by omega); have hj1x0 := fun o => hf1 (w.heap.size) o (by omega); have hq1x0 : w.heap.size < w1.heap.size := (by omega); have hk1x1 := fun o => hc1 (w.heap.size + 1) o (by omega); have hj1x1 := fun o => hf1 (w.heap.size + 1) o (by omega); have hq1x1 : w.heap.size + 1 < w1.heap.size := (by omega); have hk1x2 := fun o => hc1 (w.heap.size + 1 + 1) o (by omega); have hj1x2 := fun o => hf1 (w.heap.size + 1 + 1) o (by omega); have hq1x2 : w.heap.size + 1 + 1 < w1.heap.size := (by omega); clear hc1 hf1)
    | (go_at_call 57; refine (l5Boxes_q _ _ _ _ _ _ _ _ P Q E true _ (by omega) (by omega) (by omega) (by omega) (by omega) (by omega) (by omega) (by omega) eB).mono ?_; rintro e w2 ⟨rfl, hb2⟩; obtain ⟨hc2, hf2⟩ := bcell hb2; have hz2 := hb2.size; (try simp only [World.size_drew, World.size_alloc, World.size_setCell] at hc2 hf2 hz2); have hk2x0 := fun o => hc2 (w.heap.size) o (by omega); have hj2x0 := fun o => hf2 (w.heap.size) o (by omega); have hq2x0 : w.heap.size < w2.heap.size := (by omega); have hk2x1 := fun o => hc2 (w.heap.size + 1) o (by omega); have hj2x1 := fun o => hf2 (w.heap.size + 1) o (by omega); have hq2x1 : w.heap.size + 1 < w2.heap.size := (by omega); have hk2x2 := fun o => hc2 (w.heap.size + 1 + 1) o (by omega); have hj2x2 := fun o => hf2 (w.heap.size + 1 + 1) o (by omega); have hq2x2 : w.heap.size + 1 + 1 < w2.heap.size := (by omega); clear hc2 hf2))
    exact bodyPost_ret (v := .tuple #[s3 P Q (E + g), .bool true]) (by simp [results, Tryz.results59, go_sem, *]) rfl ⟨rfl, by repeat (first | with_reducible apply Below.refl | (with_reducible apply Below.setCell; rotate_left; focus (first | omega | (simp; done) | (simp; omega))) | (with_reducible apply Below.alloc; rotate_left; focus (first | omega | (simp; done) | (simp; omega))) | with_reducible apply Below.drew | with_reducible apply belowDrewN | (with_reducible apply Below.trans; rotate_left; with_reducible apply Below.mono; with_reducible assumption; focus (first | omega | (simp; done) | (simp; omega))))⟩
  | false =>
    rw [if_neg (by simp [eP])] at e
    have n1 := near_in (a := a) (c := c) (x := x) (B := 3000000) (by omega) (by omega) (by omega)
    have n2 := near_in (a := b) (c := d) (x := y) (B := 3000000) (by omega) (by omega) (by omega)
    obtain ⟨nx, eN1⟩ : ∃ z, mn (mx x a) c = z := ⟨_, rfl⟩
    obtain ⟨ny, eN2⟩ : ∃ z, mn (mx y b) d = z := ⟨_, rfl⟩
    rw [eN1] at e n1
    rw [eN2] at e n2
    go_enter Tryz.func59, Tryz.ntmps59
    go_upto_region 5 with (go_at_call 89; refine (spoint_q _ _ _ _ _ _ _ _ eP).mono ?_; rintro e w1 ⟨rfl, hb1⟩; obtain ⟨hc1, hf1⟩ := bcell hb1; have hz1 := hb1.size; (try simp only [World.size_drew, World.size_alloc, World.size_setCell] at hc1 hf1 hz1); have hk1x0 := fun o => hc1 (w.heap.size) o (by omega); have hj1x0 := fun o => hf1 (w.heap.size) o (by omega); have hq1x0 : w.heap.size < w1.heap.size := (by omega); have hk1x1 := fun o => hc1 (w.heap.size + 1) o (by omega); have hj1x1 := fun o => hf1 (w.heap.size + 1) o (by omega); have hq1x1 : w.heap.size + 1 < w1.heap.size := (by omega); have hk1x2 := fun o => hc1 (w.heap.size + 1 + 1) o (by omega); have hj1x2 := fun o => hf1 (w.heap.size + 1 + 1) o (by omega); have hq1x2 : w.heap.size + 1 + 1 < w1.heap.size := (by omega); clear hc1 hf1)
    refine wp_region_held_drew (S := fun w' => w'.cell? ⟨w.heap.size, 0, none⟩ = some (.int .i64 a) ∧ w'.cell? ⟨w.heap.size, 1, none⟩ = some (.int .i64 b) ∧ w'.cell? ⟨w.heap.size, 2, none⟩ = some (.int .i64 c) ∧ w'.cell? ⟨w.heap.size, 3, none⟩ = some (.int .i64 d) ∧ w'.cell? ⟨w.heap.size + 1, 0, none⟩ = some (.int .i64 x) ∧ w'.cell? ⟨w.heap.size + 1, 1, none⟩ = some (.int .i64 y)) (by kernel_rfl) ?_ (fun hHeld => ?_)
    · (try dsimp only)
      (first | (go_simp; done) | (go_keep; done))
    (refine wpAnyH_take (i := 0) (oi := { dst := some 28, op := Go.Op.load 109 (Go.Operand.tmp 3), type := 109, pos := "l5_touch.go:39", after := #[], guard := none }) (v := ?_) rfl (by kernel_rfl) (by kernel_rfl) (by kernel_rfl) (fun _ _ _ h => h) (Or.inl ⟨by rfl, ?_⟩) hHeld ?_; rotate_left; (focus ((intro w hSw; (try dsimp only at hSw); go_simp); (try with_reducible rfl); done)); (try simp only [Act.put, List.setIfInBounds_toArray, List.set_cons_zero, List.set_cons_succ]))
    (refine wpAnyH_take (i := 1) (oi := { dst := some 29, op := Go.Op.load 53 (Go.Operand.tmp 4), type := 53, pos := "l5_touch.go:39", after := #[], guard := none }) (v := ?_) rfl (by kernel_rfl) (by kernel_rfl) (by kernel_rfl) (fun _ _ _ h => h) (Or.inl ⟨by rfl, ?_⟩) hHeld ?_; rotate_left; (focus ((intro w hSw; (try dsimp only at hSw); go_simp); (try with_reducible rfl); done)); (try simp only [Act.put, List.setIfInBounds_toArray, List.set_cons_zero, List.set_cons_succ]))
    (refine wpAnyH_take (i := 3) (oi := { dst := some 31, op := Go.Op.load 53 (Go.Operand.tmp 4), type := 53, pos := "l5_touch.go:39", after := #[], guard := none }) (v := ?_) rfl (by kernel_rfl) (by kernel_rfl) (by kernel_rfl) (fun _ _ _ h => h) (Or.inl ⟨by rfl, ?_⟩) hHeld ?_; rotate_left; (focus ((intro w hSw; (try dsimp only at hSw); go_simp); (try with_reducible rfl); done)); (try simp only [Act.put, List.setIfInBounds_toArray, List.set_cons_zero, List.set_cons_succ]))
    (refine wpAnyH_take (i := 4) (oi := { dst := some 32, op := Go.Op.move (Go.Operand.tmp 2), type := 3, pos := "l5_touch.go:39", after := #[], guard := none }) (v := ?_) rfl (by kernel_rfl) (by kernel_rfl) (by kernel_rfl) (fun _ _ _ h => h) (Or.inl ⟨by rfl, ?_⟩) hHeld ?_; rotate_left; (focus ((intro w hSw; (try dsimp only at hSw); go_simp); (try with_reducible rfl); done)); (try simp only [Act.put, List.setIfInBounds_toArray, List.set_cons_zero, List.set_cons_succ]))
    (refine wpAnyH_ready (rs := [2]) (by kernel_rfl) (by simp) ?_; refine AllReadyH.cons (o := { dst := some 30, op := Go.Op.call { callee := Go.Callee.value (Go.Operand.func 90), args := #[Go.Operand.tmp 28, Go.Operand.tmp 29], argTypes := #[109, 53] }, type := 53, pos := "l5_touch.go:39", after := #[{ on := 0, ground := Go.Ground.data }, { on := 1, ground := Go.Ground.data }], guard := none }) rfl (fun K hK => ?_) AllReadyH.nil; go_simp; (go_at_call 90; refine (snear_q _ _ _ _ _ _ _ _ _ eN1 eN2).mono ?_; rintro e w3 ⟨rfl, hb3⟩; obtain ⟨hc3, hf3⟩ := bcell hb3; have hz3 := hb3.size; (try simp only [World.size_drew, World.size_alloc, World.size_setCell] at hc3 hf3 hz3); have hk3x0 := fun o => hc3 (w.heap.size) o (by omega); have hj3x0 := fun o => hf3 (w.heap.size) o (by omega); have hq3x0 : w.heap.size < w3.heap.size := (by omega); have hk3x1 := fun o => hc3 (w.heap.size + 1) o (by omega); have hj3x1 := fun o => hf3 (w.heap.size + 1) o (by omega); have hq3x1 : w.heap.size + 1 < w3.heap.size := (by omega); have hk3x2 := fun o => hc3 (w.heap.size + 1 + 1) o (by omega); have hj3x2 := fun o => hf3 (w.heap.size + 1 + 1) o (by omega); have hq3x2 : w.heap.size + 1 + 1 < w3.heap.size := (by omega); clear hc3 hf3); (try go_wp2_with fail); refine hK.out _ _ ?_ (fun hHeld => ?_); (focus ((try dsimp only); (first | (go_simp; done) | (go_keep; done)))); clear hK K; (try simp only [Act.put, List.setIfInBounds_toArray, List.set_cons_zero, List.set_cons_succ]))
    (refine wpAnyH_ready (rs := [5]) (by kernel_rfl) (by simp) ?_; refine AllReadyH.cons (o := { dst := some 33, op := Go.Op.call { callee := Go.Callee.value (Go.Operand.func 56), args := #[Go.Operand.tmp 30, Go.Operand.tmp 31, Go.Operand.tmp 32], argTypes := #[53, 53, 3] }, type := 59, pos := "l5_touch.go:39", after := #[{ on := 2, ground := Go.Ground.data }, { on := 3, ground := Go.Ground.data }, { on := 4, ground := Go.Ground.data }, { on := 2, ground := Go.Ground.chain }], guard := none }) rfl (fun K hK => ?_) AllReadyH.nil; go_simp; (go_at_call 56; refine (l5Rounds_q nx ny x y g X Y D _ _ (by omega) (by omega) (by omega) (by omega) (by omega) e).mono ?_; rintro e w4 ⟨rfl, hb4⟩; obtain ⟨hc4, hf4⟩ := bcell hb4; have hz4 := hb4.size; (try simp only [World.size_drew, World.size_alloc, World.size_setCell] at hc4 hf4 hz4); have hk4x0 := fun o => hc4 (w.heap.size) o (by omega); have hj4x0 := fun o => hf4 (w.heap.size) o (by omega); have hq4x0 : w.heap.size < w4.heap.size := (by omega); have hk4x1 := fun o => hc4 (w.heap.size + 1) o (by omega); have hj4x1 := fun o => hf4 (w.heap.size + 1) o (by omega); have hq4x1 : w.heap.size + 1 < w4.heap.size := (by omega); have hk4x2 := fun o => hc4 (w.heap.size + 1 + 1) o (by omega); have hj4x2 := fun o => hf4 (w.heap.size + 1 + 1) o (by omega); have hq4x2 : w.heap.size + 1 + 1 < w4.heap.size := (by omega); clear hc4 hf4); (try go_wp2_with fail); refine hK.out _ _ ?_ (fun hHeld => ?_); (focus ((try dsimp only); (first | (go_simp; done) | (go_keep; done)))); clear hK K; (try simp only [Act.put, List.setIfInBounds_toArray, List.set_cons_zero, List.set_cons_succ]))
    (refine wpAnyH_take (i := 6) (oi := { dst := some 34, op := Go.Op.extract (Go.Operand.tmp 33) 0, type := 58, pos := "l5_touch.go:39", after := #[{ on := 5, ground := Go.Ground.data }], guard := none }) (v := ?_) rfl (by kernel_rfl) (by kernel_rfl) (by kernel_rfl) (fun _ _ _ h => h) (Or.inl ⟨by rfl, ?_⟩) hHeld ?_; rotate_left; (focus ((intro w hSw; (try dsimp only at hSw); go_simp); (try with_reducible rfl); done)); (try simp only [Act.put, List.setIfInBounds_toArray, List.set_cons_zero, List.set_cons_succ]))
    (refine wpAnyH_take (i := 7) (oi := { dst := some 35, op := Go.Op.extract (Go.Operand.tmp 33) 1, type := 4, pos := "l5_touch.go:39", after := #[{ on := 5, ground := Go.Ground.data }], guard := none }) (v := ?_) rfl (by kernel_rfl) (by kernel_rfl) (by kernel_rfl) (fun _ _ _ h => h) (Or.inl ⟨by rfl, ?_⟩) hHeld ?_; rotate_left; (focus ((intro w hSw; (try dsimp only at hSw); go_simp); (try with_reducible rfl); done)); (try simp only [Act.put, List.setIfInBounds_toArray, List.set_cons_zero, List.set_cons_succ]))
    (refine wpAnyH_ready (rs := [8]) (by kernel_rfl) (by simp) ?_; refine AllReadyH.cons (o := { dst := none, op := Go.Op.store 58 (Go.Operand.tmp 6) (Go.Operand.tmp 34), type := 0, pos := "l5_touch.go:39", after := #[{ on := 6, ground := Go.Ground.data }, { on := 5, ground := Go.Ground.chain }, { on := 0, ground := Go.Ground.phase }, { on := 1, ground := Go.Ground.phase }, { on := 2, ground := Go.Ground.phase }, { on := 3, ground := Go.Ground.phase }, { on := 4, ground := Go.Ground.phase }, { on := 5, ground := Go.Ground.phase }, { on := 6, ground := Go.Ground.phase }, { on := 7, ground := Go.Ground.phase }], guard := none }) rfl (fun K hK => ?_) AllReadyH.nil; go_simp; refine hK.out _ _ ?_ (fun hHeld => ?_); (focus ((try dsimp only); (first | (go_simp; done) | (go_keep; done)))); clear hK K; (try simp only [Act.put, List.setIfInBounds_toArray, List.set_cons_zero, List.set_cons_succ]))
    (refine wpAnyH_take (i := 9) (oi := { dst := some 7, op := Go.Op.assign (Go.Operand.tmp 35), type := 4, pos := "l5_touch.go:39", after := #[{ on := 7, ground := Go.Ground.data }, { on := 8, ground := Go.Ground.chain }, { on := 0, ground := Go.Ground.phase }, { on := 1, ground := Go.Ground.phase }, { on := 2, ground := Go.Ground.phase }, { on := 3, ground := Go.Ground.phase }, { on := 4, ground := Go.Ground.phase }, { on := 5, ground := Go.Ground.phase }, { on := 6, ground := Go.Ground.phase }, { on := 7, ground := Go.Ground.phase }, { on := 8, ground := Go.Ground.phase }], guard := none }) (v := ?_) rfl (by kernel_rfl) (by kernel_rfl) (by kernel_rfl) (fun _ _ _ h => h) (Or.inl ⟨by rfl, ?_⟩) hHeld ?_; rotate_left; (focus ((intro w hSw; (try dsimp only at hSw); go_simp); (try with_reducible rfl); done)); (try simp only [Act.put, List.setIfInBounds_toArray, List.set_cons_zero, List.set_cons_succ]))
    refine wpAnyH_done (by kernel_rfl) ?_ _
    go_wp2_with fail
    exact bodyPost_ret (v := .tuple #[s3 X Y D, .bool K]) (by simp [results, Tryz.results59, go_sem, *]) rfl ⟨rfl, by repeat (first | with_reducible apply Below.refl | (with_reducible apply Below.setCell; rotate_left; focus (first | omega | (simp; done) | (simp; omega))) | (with_reducible apply Below.alloc; rotate_left; focus (first | omega | (simp; done) | (simp; omega))) | with_reducible apply Below.drew | with_reducible apply belowDrewN | (with_reducible apply Below.trans; rotate_left; with_reducible apply Below.mono; with_reducible assumption; focus (first | omega | (simp; done) | (simp; omega))))⟩
set_option maxHeartbeats 4000000 in
theorem l5Turn_q (x y k : Int) (w : World) (hx : -2000000000 ≤ x ∧ x ≤ 2000000000) (hy : -2000000000 ≤ y ∧ y ≤ 2000000000) :
    Calls Tryz.prog 60 #[s3 x y k] w fun e w' => e = .returned (s3 (-x) (-y) k) ∧ Below w.heap.size w w' := by
  have hset := cset_map
  have w1 := i64w (n := -x) (by omega)
  have w2 := i64w (n := -y) (by omega)
  go_enter Tryz.func60, Tryz.ntmps60
  go_wp2_with fail
  exact bodyPost_ret (v := s3 (-x) (-y) k) (by simp [results, Tryz.results60, go_sem, *]) rfl ⟨rfl, by repeat (first | with_reducible apply Below.refl | (with_reducible apply Below.setCell; rotate_left; focus (first | omega | (simp; done) | (simp; omega))) | (with_reducible apply Below.alloc; rotate_left; focus (first | omega | (simp; done) | (simp; omega))) | with_reducible apply Below.drew | with_reducible apply belowDrewN | (with_reducible apply Below.trans; rotate_left; with_reducible apply Below.mono; with_reducible assumption; focus (first | omega | (simp; done) | (simp; omega))))⟩
end Go.Proofs.YthekeeagjokpeaaGreat
