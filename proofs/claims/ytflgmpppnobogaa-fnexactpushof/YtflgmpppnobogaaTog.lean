/- What a speed between two bodies comes to together, by the program and by the specification. -/
import Derived.Test.YtflgmpppnobogaaClose
import Derived.Test.YtflgmpppnobogaaSBase
import Derived.Deep.RegionHeld3
import Derived.Deep.DeepCutAuto
namespace Go.Proofs.Ytflgmpppnobogaa
open Go.RowKit
set_option linter.unusedVariables false
set_option linter.unusedSimpArgs false

theorem mnmx (n m : Int) (h : 0 ≤ m) : mn (mx n (-m)) m = clampZ m n := by unfold mn mx clampZ; repeat (first | omega | split)
theorem l6Within_any (n m : Int) (w : World) (h0 : 0 ≤ m) (h1 : m ≤ 4000000000) :
    Calls Try.prog 92 #[.int .i64 n, .int .i64 m] w fun e w' => e = .returned (.int .i64 (clampZ m n)) ∧ w' = w := by
  go_enter Try.func92, Try.ntmps92
  go_wp2_with (first
    | (go_at_call 105; refine (l3Less_any _ _ _).mono ?_; rintro e w' ⟨rfl, rfl⟩)
    | (go_at_call 103; refine (l3More_any _ _ _).mono ?_; rintro e w' ⟨rfl, rfl⟩))
  go_ret
  exact ⟨ret_int (mnmx n m h0), rfl⟩
def togV (V1 V2 : Nat → Int) (n : Int) : Int := if V1 8 = 0 ∨ V2 8 = 0 then n * (V1 8 + V2 8) else (n * V1 8 * V2 8).tdiv (V1 8 + V2 8)
set_option maxHeartbeats 8000000 in
theorem together_q (V1 V2 : Nat → Int) (x y k : Int) (c1 c2 : Nat) (G1 G2 : Nat → Nat) (n P : Int) (w : World) (h1 : HRows w c1 V1 G1) (h2 : HRows w c2 V2 G2) (a0 : 0 ≤ V1 8 ∧ V1 8 ≤ 1000) (a1 : 0 ≤ V2 8 ∧ V2 8 ≤ 1000) (bn : -1000000000 ≤ n ∧ n ≤ 1000000000) (eP : togV V1 V2 n = P) :
    Calls Try.prog 102 #[(.agg #[.int .i64 x, .int .i64 y, .int .i64 k, .int .i64 0, .pointer (some ⟨c1, 0, none⟩), .int .i64 0, .pointer (some ⟨c2, 0, none⟩)]), .int .i64 n] w fun e w' => e = .returned (.int .i64 P) ∧ Below w.heap.size w w' := by
  have hset := cset_map
  subst eP
  have p1 := mul_bd (a := n) (b := V1 8 + V2 8) (A := 1000000000) (B := 2000) (by omega) (by omega)
  have p2 := mul_bd (a := n) (b := V1 8) (A := 1000000000) (B := 1000) (by omega) (by omega)
  have p3 := mul_bd (a := n * V1 8) (b := V2 8) (A := 1000000000000) (B := 1000) (by omega) (by omega)
  have p4 := mul_bd (a := n) (b := V2 8) (A := 1000000000) (B := 1000) (by omega) (by omega)
  have p5 := tdiv_bd (x := n * V1 8 * V2 8) (B := 1000000000000000) (V1 8 + V2 8) (by omega)
  have l1 := h1.cbl
  have l2 := h2.cbl
  unfold togV
  go_enter Try.func102, Try.ntmps102
  go_upto_region 1 with fail
  refine wp_region_held_drew (S := fun w' => w'.cell? ⟨w.heap.size, 0, none⟩ = some (.int .i64 x) ∧ w'.cell? ⟨w.heap.size, 1, none⟩ = some (.int .i64 y) ∧ w'.cell? ⟨w.heap.size, 2, none⟩ = some (.int .i64 k) ∧ w'.cell? ⟨w.heap.size, 3, none⟩ = some (.int .i64 0) ∧ w'.cell? ⟨w.heap.size, 4, none⟩ = some (.pointer (some ⟨c1, 0, none⟩)) ∧ w'.cell? ⟨w.heap.size, 5, none⟩ = some (.int .i64 0) ∧ w'.cell? ⟨w.heap.size, 6, none⟩ = some (.pointer (some ⟨c2, 0, none⟩))) (by kernel_rfl) ?_ (fun hHeld => ?_)
  · (try dsimp only)
    (first | (go_simp; done) | (go_keep; done))
  (refine wpAnyH_take (i := 0) (oi := { dst := some 7, op := Go.Op.fieldAddr 92 (Go.Operand.tmp 2) 1, type := 0, pos := "l8_push.go:88", after := #[], guard := none }) (v := ?_) rfl (by kernel_rfl) (by kernel_rfl) (by kernel_rfl) (fun _ _ _ h => h) (Or.inl ⟨by rfl, ?_⟩) hHeld ?_; rotate_left; (focus ((intro w hSw; (try dsimp only at hSw); go_simp); (try with_reducible rfl); done)); (try simp only [Act.put, List.setIfInBounds_toArray, List.set_cons_zero, List.set_cons_succ]))
  (refine wpAnyH_take (i := 1) (oi := { dst := some 8, op := Go.Op.load 68 (Go.Operand.tmp 7), type := 68, pos := "l8_push.go:88", after := #[{ on := 0, ground := Go.Ground.data }], guard := none }) (v := ?_) rfl (by kernel_rfl) (by kernel_rfl) (by kernel_rfl) (fun _ _ _ h => h) (Or.inl ⟨by rfl, ?_⟩) hHeld ?_; rotate_left; (focus ((intro w hSw; (try dsimp only at hSw); go_simp); (try with_reducible rfl); done)); (try simp only [Act.put, List.setIfInBounds_toArray, List.set_cons_zero, List.set_cons_succ]))
  (refine wpAnyH_take (i := 3) (oi := { dst := some 10, op := Go.Op.fieldAddr 92 (Go.Operand.tmp 2) 2, type := 0, pos := "l8_push.go:88", after := #[], guard := none }) (v := ?_) rfl (by kernel_rfl) (by kernel_rfl) (by kernel_rfl) (fun _ _ _ h => h) (Or.inl ⟨by rfl, ?_⟩) hHeld ?_; rotate_left; (focus ((intro w hSw; (try dsimp only at hSw); go_simp); (try with_reducible rfl); done)); (try simp only [Act.put, List.setIfInBounds_toArray, List.set_cons_zero, List.set_cons_succ]))
  (refine wpAnyH_take (i := 4) (oi := { dst := some 11, op := Go.Op.load 68 (Go.Operand.tmp 10), type := 68, pos := "l8_push.go:88", after := #[{ on := 3, ground := Go.Ground.data }], guard := none }) (v := ?_) rfl (by kernel_rfl) (by kernel_rfl) (by kernel_rfl) (fun _ _ _ h => h) (Or.inl ⟨by rfl, ?_⟩) hHeld ?_; rotate_left; (focus ((intro w hSw; (try dsimp only at hSw); go_simp); (try with_reducible rfl); done)); (try simp only [Act.put, List.setIfInBounds_toArray, List.set_cons_zero, List.set_cons_succ]))
  (refine wpAnyH_ready (rs := [2]) (by kernel_rfl) (by simp) ?_; refine AllReadyH.cons (o := { dst := some 9, op := Go.Op.call { callee := Go.Callee.value (Go.Operand.func 83), args := #[Go.Operand.tmp 8], argTypes := #[68] }, type := 71, pos := "l8_push.go:88", after := #[{ on := 1, ground := Go.Ground.data }], guard := none }) rfl (fun K hK => ?_) AllReadyH.nil; go_simp; (go_at_call 83; refine (hMass c1 V1 G1 _ (HRows.below (B := w.heap.size) h1 (by repeat (first | with_reducible apply Below.refl | (with_reducible apply Below.setCell; rotate_left; focus (first | omega | (simp; done) | (simp; omega))) | (with_reducible apply Below.alloc; rotate_left; focus (first | omega | (simp; done) | (simp; omega))) | with_reducible apply Below.drew | with_reducible apply belowDrewN | (with_reducible apply Below.trans; rotate_left; with_reducible apply Below.mono; with_reducible assumption; focus (first | omega | (simp; done) | (simp; omega))))) (Nat.le_refl _))).mono ?_; rintro e w1 ⟨rfl, hb1⟩; obtain ⟨hc1, hf1⟩ := bcell hb1; have hz1 := hb1.size; (try simp only [World.size_drew, World.size_alloc, World.size_setCell] at hc1 hf1 hz1); have hk1x0 := fun o => hc1 (w.heap.size) o (by omega); have hj1x0 := fun o => hf1 (w.heap.size) o (by omega); have hq1x0 : w.heap.size < w1.heap.size := (by omega); clear hc1 hf1); (try go_wp2_with fail); refine hK.out _ _ ?_ (fun hHeld => ?_); (focus ((try dsimp only); (first | (go_simp; done) | (go_keep; done)))); clear hK K; (try simp only [Act.put, List.setIfInBounds_toArray, List.set_cons_zero, List.set_cons_succ]))
  (refine wpAnyH_ready (rs := [5]) (by kernel_rfl) (by simp) ?_; refine AllReadyH.cons (o := { dst := some 12, op := Go.Op.call { callee := Go.Callee.value (Go.Operand.func 83), args := #[Go.Operand.tmp 11], argTypes := #[68] }, type := 71, pos := "l8_push.go:88", after := #[{ on := 4, ground := Go.Ground.data }, { on := 2, ground := Go.Ground.chain }], guard := none }) rfl (fun K hK => ?_) AllReadyH.nil; go_simp; (go_at_call 83; refine (hMass c2 V2 G2 _ (HRows.below (B := w.heap.size) h2 (by repeat (first | with_reducible apply Below.refl | (with_reducible apply Below.setCell; rotate_left; focus (first | omega | (simp; done) | (simp; omega))) | (with_reducible apply Below.alloc; rotate_left; focus (first | omega | (simp; done) | (simp; omega))) | with_reducible apply Below.drew | with_reducible apply belowDrewN | (with_reducible apply Below.trans; rotate_left; with_reducible apply Below.mono; with_reducible assumption; focus (first | omega | (simp; done) | (simp; omega))))) (Nat.le_refl _))).mono ?_; rintro e w2 ⟨rfl, hb2⟩; obtain ⟨hc2, hf2⟩ := bcell hb2; have hz2 := hb2.size; (try simp only [World.size_drew, World.size_alloc, World.size_setCell] at hc2 hf2 hz2); have hk2x0 := fun o => hc2 (w.heap.size) o (by omega); have hj2x0 := fun o => hf2 (w.heap.size) o (by omega); have hq2x0 : w.heap.size < w2.heap.size := (by omega); clear hc2 hf2); (try go_wp2_with fail); refine hK.out _ _ ?_ (fun hHeld => ?_); (focus ((try dsimp only); (first | (go_simp; done) | (go_keep; done)))); clear hK K; (try simp only [Act.put, List.setIfInBounds_toArray, List.set_cons_zero, List.set_cons_succ]))
  (refine wpAnyH_take (i := 6) (oi := { dst := some 5, op := Go.Op.assign (Go.Operand.tmp 9), type := 71, pos := "l8_push.go:88", after := #[{ on := 2, ground := Go.Ground.data }, { on := 5, ground := Go.Ground.chain }, { on := 0, ground := Go.Ground.phase }, { on := 1, ground := Go.Ground.phase }, { on := 2, ground := Go.Ground.phase }, { on := 3, ground := Go.Ground.textOnly Go.Departure.lateStores }, { on := 4, ground := Go.Ground.textOnly Go.Departure.lateStores }, { on := 5, ground := Go.Ground.textOnly Go.Departure.lateStoresUnsure }], guard := none }) (v := ?_) rfl (by kernel_rfl) (by kernel_rfl) (by kernel_rfl) (fun _ _ _ h => h) (Or.inl ⟨by rfl, ?_⟩) hHeld ?_; rotate_left; (focus ((intro w hSw; (try dsimp only at hSw); go_simp); (try with_reducible rfl); done)); (try simp only [Act.put, List.setIfInBounds_toArray, List.set_cons_zero, List.set_cons_succ]))
  (refine wpAnyH_take (i := 7) (oi := { dst := some 6, op := Go.Op.assign (Go.Operand.tmp 12), type := 71, pos := "l8_push.go:88", after := #[{ on := 5, ground := Go.Ground.data }, { on := 6, ground := Go.Ground.chain }, { on := 0, ground := Go.Ground.phase }, { on := 1, ground := Go.Ground.phase }, { on := 2, ground := Go.Ground.phase }, { on := 3, ground := Go.Ground.phase }, { on := 4, ground := Go.Ground.phase }, { on := 5, ground := Go.Ground.phase }, { on := 6, ground := Go.Ground.phase }], guard := none }) (v := ?_) rfl (by kernel_rfl) (by kernel_rfl) (by kernel_rfl) (fun _ _ _ h => h) (Or.inl ⟨by rfl, ?_⟩) hHeld ?_; rotate_left; (focus ((intro w hSw; (try dsimp only at hSw); go_simp); (try with_reducible rfl); done)); (try simp only [Act.put, List.setIfInBounds_toArray, List.set_cons_zero, List.set_cons_succ]))
  refine wpAnyH_done (by kernel_rfl) ?_ _
  by_cases z1 : V1 8 = 0
  · go_wp2_with fail
    go_ret
    exact ⟨ret_int (by first | rfl | (rw [if_pos (Or.inl z1)]; simp [z1]; done)), by repeat (first | with_reducible apply Below.refl | (with_reducible apply Below.setCell; rotate_left; focus (first | omega | (simp; done) | (simp; omega))) | (with_reducible apply Below.alloc; rotate_left; focus (first | omega | (simp; done) | (simp; omega))) | with_reducible apply Below.drew | with_reducible apply belowDrewN | (with_reducible apply Below.trans; rotate_left; with_reducible apply Below.mono; with_reducible assumption; focus (first | omega | (simp; done) | (simp; omega))))⟩
  · by_cases z2 : V2 8 = 0
    · go_wp2_with fail
      go_ret
      exact ⟨ret_int (by first | rfl | (rw [if_pos (Or.inr z2)]; simp [z2]; done)), by repeat (first | with_reducible apply Below.refl | (with_reducible apply Below.setCell; rotate_left; focus (first | omega | (simp; done) | (simp; omega))) | (with_reducible apply Below.alloc; rotate_left; focus (first | omega | (simp; done) | (simp; omega))) | with_reducible apply Below.drew | with_reducible apply belowDrewN | (with_reducible apply Below.trans; rotate_left; with_reducible apply Below.mono; with_reducible assumption; focus (first | omega | (simp; done) | (simp; omega))))⟩
    · have z3 : (V1 8 + V2 8 = 0) = False := eq_false (by omega)
      have z1f : (V1 8 == 0) = false := by simp [z1]
      have z2f : (V2 8 == 0) = false := by simp [z2]
      go_wp2_with fail
      all_goals
        go_ret
        exact ⟨ret_int (by first | rfl | (exfalso; simp_all; done) | (exfalso; simp at *; omega)), by repeat (first | with_reducible apply Below.refl | (with_reducible apply Below.setCell; rotate_left; focus (first | omega | (simp; done) | (simp; omega))) | (with_reducible apply Below.alloc; rotate_left; focus (first | omega | (simp; done) | (simp; omega))) | with_reducible apply Below.drew | with_reducible apply belowDrewN | (with_reducible apply Below.trans; rotate_left; with_reducible apply Below.mono; with_reducible assumption; focus (first | omega | (simp; done) | (simp; omega))))⟩

set_option maxRecDepth 20000 in
set_option maxHeartbeats 8000000 in
theorem l8Mass_q (V1 V2 : Nat → Int) (n P : Int) (w : World) (a0 : 0 ≤ V1 8 ∧ V1 8 ≤ 1000) (a1 : 0 ≤ V2 8 ∧ V2 8 ≤ 1000) (bn : -1000000000 ≤ n ∧ n ≤ 1000000000) (eP : togV V1 V2 n = P) :
    Calls Try.prog 104 #[bodyW V1, bodyW V2, .int .i64 n] w fun e w' => e = .returned (.int .i64 P) ∧ Below w.heap.size w w' := by
  have hset := cset_map
  subst eP
  have p1 := mul_bd (a := n) (b := V1 8 + V2 8) (A := 1000000000) (B := 2000) (by omega) (by omega)
  have p2 := mul_bd (a := n) (b := V1 8) (A := 1000000000) (B := 1000) (by omega) (by omega)
  have p3 := mul_bd (a := n * V1 8) (b := V2 8) (A := 1000000000000) (B := 1000) (by omega) (by omega)
  have p4 := mul_bd (a := n) (b := V2 8) (A := 1000000000) (B := 1000) (by omega) (by omega)
  have p5 := tdiv_bd (x := n * V1 8 * V2 8) (B := 1000000000000000) (V1 8 + V2 8) (by omega)
  unfold togV
  by_cases z1 : V1 8 = 0
  · have e1 : (if V1 8 = 0 ∨ V2 8 = 0 then n * (V1 8 + V2 8) else (n * V1 8 * V2 8).tdiv (V1 8 + V2 8)) = n * V2 8 := by rw [if_pos (.inl z1), z1, Int.zero_add]
    rw [e1]
    clear e1
    go_enter Try.func104, Try.ntmps104
    go_wp2_with fail
    go_ret
    exact ⟨rfl, by repeat (first | with_reducible apply Below.refl | (with_reducible apply Below.setCell; rotate_left; focus (first | omega | (simp; done) | (simp; omega))) | (with_reducible apply Below.alloc; rotate_left; focus (first | omega | (simp; done) | (simp; omega))) | with_reducible apply Below.drew | with_reducible apply belowDrewN | (with_reducible apply Below.trans; rotate_left; with_reducible apply Below.mono; with_reducible assumption; focus (first | omega | (simp; done) | (simp; omega))))⟩
  · by_cases z2 : V2 8 = 0
    · have e1 : (if V1 8 = 0 ∨ V2 8 = 0 then n * (V1 8 + V2 8) else (n * V1 8 * V2 8).tdiv (V1 8 + V2 8)) = n * V1 8 := by rw [if_pos (.inr z2), z2, Int.add_zero]
      rw [e1]
      clear e1
      go_enter Try.func104, Try.ntmps104
      go_wp2_with fail
      go_ret
      exact ⟨rfl, by repeat (first | with_reducible apply Below.refl | (with_reducible apply Below.setCell; rotate_left; focus (first | omega | (simp; done) | (simp; omega))) | (with_reducible apply Below.alloc; rotate_left; focus (first | omega | (simp; done) | (simp; omega))) | with_reducible apply Below.drew | with_reducible apply belowDrewN | (with_reducible apply Below.trans; rotate_left; with_reducible apply Below.mono; with_reducible assumption; focus (first | omega | (simp; done) | (simp; omega))))⟩
    · rw [if_neg (by omega)]
      have z3 : (V1 8 + V2 8 = 0) = False := eq_false (by omega)
      go_enter Try.func104, Try.ntmps104
      go_wp2_with fail
      go_ret
      exact ⟨rfl, by repeat (first | with_reducible apply Below.refl | (with_reducible apply Below.setCell; rotate_left; focus (first | omega | (simp; done) | (simp; omega))) | (with_reducible apply Below.alloc; rotate_left; focus (first | omega | (simp; done) | (simp; omega))) | with_reducible apply Below.drew | with_reducible apply belowDrewN | (with_reducible apply Below.trans; rotate_left; with_reducible apply Below.mono; with_reducible assumption; focus (first | omega | (simp; done) | (simp; omega))))⟩
theorem togV_bd (V1 V2 : Nat → Int) (n B : Int) (a0 : 0 ≤ V1 8 ∧ V1 8 ≤ 1000) (a1 : 0 ≤ V2 8 ∧ V2 8 ≤ 1000) (h : -B ≤ n ∧ n ≤ B) (hB : 0 ≤ B) : -(1000000 * B) ≤ togV V1 V2 n ∧ togV V1 V2 n ≤ 1000000 * B := by
  have p1 := mul_bd (a := n) (b := V1 8 + V2 8) (A := B) (B := 2000) (by omega) (by omega)
  have p2 := mul_bd (a := n) (b := V1 8) (A := B) (B := 1000) (by omega) (by omega)
  have p3 := mul_bd (a := n * V1 8) (b := V2 8) (A := B * 1000) (B := 1000) (by omega) (by omega)
  have p5 := tdiv_bd (x := n * V1 8 * V2 8) (B := B * 1000 * 1000) (V1 8 + V2 8) (by omega)
  unfold togV; split <;> omega
end Go.Proofs.Ytflgmpppnobogaa
