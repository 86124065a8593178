/- Texts of a proof. -/
import Derived.Test.YthijeiehcdoidaaGreatB13
import Derived.Test.YthijeiehcdoidaaGreatB4
import Derived.Deep.RegionHeld3
import Derived.Deep.DeepCutAuto
set_option maxHeartbeats 16000000
set_option maxRecDepth 20000
namespace Go.Proofs.YthijeiehcdoidaaGreat
open Go.RowKit
set_option linter.unusedVariables false
set_option linter.unusedSimpArgs false
def btA (f g l h : Int) : Int := if g = 0 then 0 else if g < 0 then downZ ((h - f) * 256) g else downZ ((l - f) * 256) g
def btB (f g l h : Int) : Int := if g = 0 then 256 else if g < 0 then -downZ (-((l - f) * 256)) g else -downZ (-((h - f) * 256)) g
def btC (f g l h : Int) : Bool := if g = 0 then decide (l ≤ f ∧ f ≤ h) else true
theorem between_0 (x y u v l h : Int) (w : World) (hf : -3000000 ≤ x ∧ x ≤ 3000000) (hg : -3000000 ≤ u ∧ u ≤ 3000000) (hl : -3000000 ≤ l ∧ l ≤ 3000000) (hh : -3000000 ≤ h ∧ h ≤ 3000000) :
 Calls Tryz.prog 92 #[b4 x y u v, .int .i64 0, .int .i64 l, .int .i64 h] w fun e w' => e = .returned (.tuple #[.int .i64 (btA x u l h), .int .i64 (btB x u l h), .bool (btC x u l h)]) ∧ Below w.heap.size w w' := by
 have hset := cset_map
 by_cases c0 : u = 0
 focus
  have d0 : (u == 0) = true := by simp [c0]
  have eA : btA x u l h = 0 := by unfold btA; rw [if_pos c0]
  have eB : btB x u l h = 256 := by unfold btB; rw [if_pos c0]
  have eC : btC x u l h = decide (l ≤ x ∧ x ≤ h) := by unfold btC; rw [if_pos c0]
  rw [eA, eB, eC]
  clear c0 eA eB eC
  by_cases c1 : l ≤ x
  focus
   have d1 : decide (l ≤ x) = true := decide_eq_true c1
   have eD : decide (l ≤ x ∧ x ≤ h) = decide (x ≤ h) := by rw [Bool.eq_iff_iff]; simp only [decide_eq_true_eq]; omega
  rotate_left
  focus
   have d1 : decide (l ≤ x) = false := decide_eq_false c1
   have eD : decide (l ≤ x ∧ x ≤ h) = false := decide_eq_false (fun q => c1 q.1)
  all_goals
   rw [eD]
 rotate_left 2
 focus
  have d0 : (u == 0) = false := by simp [c0]
  have eC : btC x u l h = true := by unfold btC; rw [if_neg c0]
  by_cases c1 : u < 0
  focus
   have d1 : decide (u < 0) = true := decide_eq_true c1
   have eA : btA x u l h = downZ ((h - x) * 256) u := by unfold btA; rw [if_neg c0, if_pos c1]
   have eB : btB x u l h = -downZ (-((l - x) * 256)) u := by unfold btB; rw [if_neg c0, if_pos c1]
  rotate_left
  focus
   have d1 : decide (u < 0) = false := decide_eq_false c1
   have eA : btA x u l h = downZ ((l - x) * 256) u := by unfold btA; rw [if_neg c0, if_neg c1]
   have eB : btB x u l h = -downZ (-((h - x) * 256)) u := by unfold btB; rw [if_neg c0, if_neg c1]
  all_goals
   rw [eA, eB, eC]
   clear eA eB eC
 all_goals
  go_enter Tryz.func92, Tryz.ntmps92
  go_upto_region 1 with fail
  refine wp_region_held_drew (S := fun w' => w'.cell? ⟨w.heap.size, 0, none⟩ = some (.int .i64 x) ∧ w'.cell? ⟨w.heap.size, 1, none⟩ = some (.int .i64 y) ∧ w'.cell? ⟨w.heap.size, 2, none⟩ = some (.int .i64 u) ∧ w'.cell? ⟨w.heap.size, 3, none⟩ = some (.int .i64 v)) (by kernel_rfl) ?_ (fun hHeld => ?_)
  · (try dsimp only)
    (first | (go_simp; done) | (go_keep; done))
  (refine wpAnyH_take (i := 0) (oi := { dst := some 15, op := Go.Op.move (Go.Operand.tmp 1), type := 3, pos := "l5_touch.go:165", after := #[], guard := none }) (v := ?_) rfl (by kernel_rfl) (by kernel_rfl) (by kernel_rfl) (fun _ _ _ h => h) (Or.inl ⟨by rfl, ?_⟩) hHeld ?_; rotate_left; (focus ((intro w hSw; (try dsimp only at hSw); go_simp); (try with_reducible rfl); done)); (try simp only [Act.put, List.setIfInBounds_toArray, List.set_cons_zero, List.set_cons_succ]))
  (refine wpAnyH_take (i := 1) (oi := { dst := some 16, op := Go.Op.fieldAddr 65 (Go.Operand.tmp 4) 0, type := 0, pos := "l5_touch.go:165", after := #[], guard := none }) (v := ?_) rfl (by kernel_rfl) (by kernel_rfl) (by kernel_rfl) (fun _ _ _ h => h) (Or.inl ⟨by rfl, ?_⟩) hHeld ?_; rotate_left; (focus ((intro w hSw; (try dsimp only at hSw); go_simp); (try with_reducible rfl); done)); (try simp only [Act.put, List.setIfInBounds_toArray, List.set_cons_zero, List.set_cons_succ]))
  (refine wpAnyH_take (i := 2) (oi := { dst := some 17, op := Go.Op.indexAddr 63 (Go.Operand.tmp 16) (Go.Operand.tmp 15), type := 0, pos := "l5_touch.go:165", after := #[{ on := 1, ground := Go.Ground.data }, { on := 0, ground := Go.Ground.data }], guard := none }) (v := ?_) rfl (by kernel_rfl) (by kernel_rfl) (by kernel_rfl) (fun _ _ _ h => h) (Or.inl ⟨by rfl, ?_⟩) hHeld ?_; rotate_left; (focus ((intro w hSw; (try dsimp only at hSw); go_simp); (try with_reducible rfl); done)); (try simp only [Act.put, List.setIfInBounds_toArray, List.set_cons_zero, List.set_cons_succ]))
  (refine wpAnyH_take (i := 3) (oi := { dst := some 18, op := Go.Op.load 61 (Go.Operand.tmp 17), type := 61, pos := "l5_touch.go:165", after := #[{ on := 2, ground := Go.Ground.data }], guard := none }) (v := ?_) rfl (by kernel_rfl) (by kernel_rfl) (by kernel_rfl) (fun _ _ _ h => h) (Or.inl ⟨by rfl, ?_⟩) hHeld ?_; rotate_left; (focus ((intro w hSw; (try dsimp only at hSw); go_simp); (try with_reducible rfl); done)); (try simp only [Act.put, List.setIfInBounds_toArray, List.set_cons_zero, List.set_cons_succ]))
  (refine wpAnyH_take (i := 4) (oi := { dst := some 19, op := Go.Op.move (Go.Operand.tmp 1), type := 3, pos := "l5_touch.go:165", after := #[{ on := 8, ground := Go.Ground.gcOnly Go.Departure.lateStores }], guard := none }) (v := ?_) rfl (by kernel_rfl) (by kernel_rfl) (by kernel_rfl) (fun _ _ _ h => h) (Or.inl ⟨by rfl, ?_⟩) hHeld ?_; rotate_left; (focus ((intro w hSw; (try dsimp only at hSw); go_simp); (try with_reducible rfl); done)); (try simp only [Act.put, List.setIfInBounds_toArray, List.set_cons_zero, List.set_cons_succ]))
  (refine wpAnyH_take (i := 5) (oi := { dst := some 20, op := Go.Op.fieldAddr 65 (Go.Operand.tmp 4) 1, type := 0, pos := "l5_touch.go:165", after := #[{ on := 8, ground := Go.Ground.gcOnly Go.Departure.lateStores }], guard := none }) (v := ?_) rfl (by kernel_rfl) (by kernel_rfl) (by kernel_rfl) (fun _ _ _ h => h) (Or.inl ⟨by rfl, ?_⟩) hHeld ?_; rotate_left; (focus ((intro w hSw; (try dsimp only at hSw); go_simp); (try with_reducible rfl); done)); (try simp only [Act.put, List.setIfInBounds_toArray, List.set_cons_zero, List.set_cons_succ]))
  (refine wpAnyH_take (i := 6) (oi := { dst := some 21, op := Go.Op.indexAddr 63 (Go.Operand.tmp 20) (Go.Operand.tmp 19), type := 0, pos := "l5_touch.go:165", after := #[{ on := 5, ground := Go.Ground.data }, { on := 4, ground := Go.Ground.data }, { on := 8, ground := Go.Ground.gcOnly Go.Departure.lateStores }], guard := none }) (v := ?_) rfl (by kernel_rfl) (by kernel_rfl) (by kernel_rfl) (fun _ _ _ h => h) (Or.inl ⟨by rfl, ?_⟩) hHeld ?_; rotate_left; (focus ((intro w hSw; (try dsimp only at hSw); go_simp); (try with_reducible rfl); done)); (try simp only [Act.put, List.setIfInBounds_toArray, List.set_cons_zero, List.set_cons_succ]))
  (refine wpAnyH_take (i := 7) (oi := { dst := some 22, op := Go.Op.load 61 (Go.Operand.tmp 21), type := 61, pos := "l5_touch.go:165", after := #[{ on := 6, ground := Go.Ground.data }, { on := 8, ground := Go.Ground.gcOnly Go.Departure.lateStores }], guard := none }) (v := ?_) rfl (by kernel_rfl) (by kernel_rfl) (by kernel_rfl) (fun _ _ _ h => h) (Or.inl ⟨by rfl, ?_⟩) hHeld ?_; rotate_left; (focus ((intro w hSw; (try dsimp only at hSw); go_simp); (try with_reducible rfl); done)); (try simp only [Act.put, List.setIfInBounds_toArray, List.set_cons_zero, List.set_cons_succ]))
  (refine wpAnyH_take (i := 8) (oi := { dst := some 11, op := Go.Op.assign (Go.Operand.tmp 18), type := 61, pos := "l5_touch.go:165", after := #[{ on := 3, ground := Go.Ground.data }, { on := 0, ground := Go.Ground.phase }, { on := 1, ground := Go.Ground.phase }, { on := 2, ground := Go.Ground.phase }, { on := 3, ground := Go.Ground.phase }, { on := 4, ground := Go.Ground.textOnly Go.Departure.lateStores }, { on := 5, ground := Go.Ground.textOnly Go.Departure.lateStores }, { on := 6, ground := Go.Ground.textOnly Go.Departure.lateStores }, { on := 7, ground := Go.Ground.textOnly Go.Departure.lateStores }], guard := none }) (v := ?_) rfl (by kernel_rfl) (by kernel_rfl) (by kernel_rfl) (fun _ _ _ h => h) (Or.inl ⟨by rfl, ?_⟩) hHeld ?_; rotate_left; (focus ((intro w hSw; (try dsimp only at hSw); go_simp); (try with_reducible rfl); done)); (try simp only [Act.put, List.setIfInBounds_toArray, List.set_cons_zero, List.set_cons_succ]))
  (refine wpAnyH_take (i := 9) (oi := { dst := some 12, op := Go.Op.assign (Go.Operand.tmp 22), type := 61, pos := "l5_touch.go:165", after := #[{ on := 7, ground := Go.Ground.data }, { on := 8, ground := Go.Ground.chain }, { on := 0, ground := Go.Ground.phase }, { on := 1, ground := Go.Ground.phase }, { on := 2, ground := Go.Ground.phase }, { on := 3, ground := Go.Ground.phase }, { on := 4, ground := Go.Ground.phase }, { on := 5, ground := Go.Ground.phase }, { on := 6, ground := Go.Ground.phase }, { on := 7, ground := Go.Ground.phase }, { on := 8, ground := Go.Ground.phase }], guard := none }) (v := ?_) rfl (by kernel_rfl) (by kernel_rfl) (by kernel_rfl) (fun _ _ _ h => h) (Or.inl ⟨by rfl, ?_⟩) hHeld ?_; rotate_left; (focus ((intro w hSw; (try dsimp only at hSw); go_simp); (try with_reducible rfl); done)); (try simp only [Act.put, List.setIfInBounds_toArray, List.set_cons_zero, List.set_cons_succ]))
  refine wpAnyH_done (by kernel_rfl) ?_ _
  go_wp2_with (first
   | (go_at_call 119; refine (downOver_any _ _ _ (by omega) (by omega) (by omega)).mono ?_; rintro e w' ⟨rfl, rfl⟩)
   | (go_at_call 120; refine (upOver_any _ _ _ (by omega) (by omega) (by omega)).mono ?_; rintro e w' ⟨rfl, rfl⟩))
  go_ret3
  exact ⟨rfl, bel_a⟩
theorem between_1 (x y u v l h : Int) (w : World) (hf : -3000000 ≤ y ∧ y ≤ 3000000) (hg : -3000000 ≤ v ∧ v ≤ 3000000) (hl : -3000000 ≤ l ∧ l ≤ 3000000) (hh : -3000000 ≤ h ∧ h ≤ 3000000) :
 Calls Tryz.prog 92 #[b4 x y u v, .int .i64 1, .int .i64 l, .int .i64 h] w fun e w' => e = .returned (.tuple #[.int .i64 (btA y v l h), .int .i64 (btB y v l h), .bool (btC y v l h)]) ∧ Below w.heap.size w w' := by
 have hset := cset_map
 by_cases c0 : v = 0
 focus
  have d0 : (v == 0) = true := by simp [c0]
  have eA : btA y v l h = 0 := by unfold btA; rw [if_pos c0]
  have eB : btB y v l h = 256 := by unfold btB; rw [if_pos c0]
  have eC : btC y v l h = decide (l ≤ y ∧ y ≤ h) := by unfold btC; rw [if_pos c0]
  rw [eA, eB, eC]
  clear c0 eA eB eC
  by_cases c1 : l ≤ y
  focus
   have d1 : decide (l ≤ y) = true := decide_eq_true c1
   have eD : decide (l ≤ y ∧ y ≤ h) = decide (y ≤ h) := by rw [Bool.eq_iff_iff]; simp only [decide_eq_true_eq]; omega
  rotate_left
  focus
   have d1 : decide (l ≤ y) = false := decide_eq_false c1
   have eD : decide (l ≤ y ∧ y ≤ h) = false := decide_eq_false (fun q => c1 q.1)
  all_goals
   rw [eD]
 rotate_left 2
 focus
  have d0 : (v == 0) = false := by simp [c0]
  have eC : btC y v l h = true := by unfold btC; rw [if_neg c0]
  by_cases c1 : v < 0
  focus
   have d1 : decide (v < 0) = true := decide_eq_true c1
   have eA : btA y v l h = downZ ((h - y) * 256) v := by unfold btA; rw [if_neg c0, if_pos c1]
   have eB : btB y v l h = -downZ (-((l - y) * 256)) v := by unfold btB; rw [if_neg c0, if_pos c1]
  rotate_left
  focus
   have d1 : decide (v < 0) = false := decide_eq_false c1
   have eA : btA y v l h = downZ ((l - y) * 256) v := by unfold btA; rw [if_neg c0, if_neg c1]
   have eB : btB y v l h = -downZ (-((h - y) * 256)) v := by unfold btB; rw [if_neg c0, if_neg c1]
  all_goals
   rw [eA, eB, eC]
   clear eA eB eC
 all_goals
  go_enter Tryz.func92, Tryz.ntmps92
  go_upto_region 1 with fail
  refine wp_region_held_drew (S := fun w' => w'.cell? ⟨w.heap.size, 0, none⟩ = some (.int .i64 x) ∧ w'.cell? ⟨w.heap.size, 1, none⟩ = some (.int .i64 y) ∧ w'.cell? ⟨w.heap.size, 2, none⟩ = some (.int .i64 u) ∧ w'.cell? ⟨w.heap.size, 3, none⟩ = some (.int .i64 v)) (by kernel_rfl) ?_ (fun hHeld => ?_)
  · (try dsimp only)
    (first | (go_simp; done) | (go_keep; done))
  (refine wpAnyH_take (i := 0) (oi := { dst := some 15, op := Go.Op.move (Go.Operand.tmp 1), type := 3, pos := "l5_touch.go:165", after := #[], guard := none }) (v := ?_) rfl (by kernel_rfl) (by kernel_rfl) (by kernel_rfl) (fun _ _ _ h => h) (Or.inl ⟨by rfl, ?_⟩) hHeld ?_; rotate_left; (focus ((intro w hSw; (try dsimp only at hSw); go_simp); (try with_reducible rfl); done)); (try simp only [Act.put, List.setIfInBounds_toArray, List.set_cons_zero, List.set_cons_succ]))
  (refine wpAnyH_take (i := 1) (oi := { dst := some 16, op := Go.Op.fieldAddr 65 (Go.Operand.tmp 4) 0, type := 0, pos := "l5_touch.go:165", after := #[], guard := none }) (v := ?_) rfl (by kernel_rfl) (by kernel_rfl) (by kernel_rfl) (fun _ _ _ h => h) (Or.inl ⟨by rfl, ?_⟩) hHeld ?_; rotate_left; (focus ((intro w hSw; (try dsimp only at hSw); go_simp); (try with_reducible rfl); done)); (try simp only [Act.put, List.setIfInBounds_toArray, List.set_cons_zero, List.set_cons_succ]))
  (refine wpAnyH_take (i := 2) (oi := { dst := some 17, op := Go.Op.indexAddr 63 (Go.Operand.tmp 16) (Go.Operand.tmp 15), type := 0, pos := "l5_touch.go:165", after := #[{ on := 1, ground := Go.Ground.data }, { on := 0, ground := Go.Ground.data }], guard := none }) (v := ?_) rfl (by kernel_rfl) (by kernel_rfl) (by kernel_rfl) (fun _ _ _ h => h) (Or.inl ⟨by rfl, ?_⟩) hHeld ?_; rotate_left; (focus ((intro w hSw; (try dsimp only at hSw); go_simp); (try with_reducible rfl); done)); (try simp only [Act.put, List.setIfInBounds_toArray, List.set_cons_zero, List.set_cons_succ]))
  (refine wpAnyH_take (i := 3) (oi := { dst := some 18, op := Go.Op.load 61 (Go.Operand.tmp 17), type := 61, pos := "l5_touch.go:165", after := #[{ on := 2, ground := Go.Ground.data }], guard := none }) (v := ?_) rfl (by kernel_rfl) (by kernel_rfl) (by kernel_rfl) (fun _ _ _ h => h) (Or.inl ⟨by rfl, ?_⟩) hHeld ?_; rotate_left; (focus ((intro w hSw; (try dsimp only at hSw); go_simp); (try with_reducible rfl); done)); (try simp only [Act.put, List.setIfInBounds_toArray, List.set_cons_zero, List.set_cons_succ]))
  (refine wpAnyH_take (i := 4) (oi := { dst := some 19, op := Go.Op.move (Go.Operand.tmp 1), type := 3, pos := "l5_touch.go:165", after := #[{ on := 8, ground := Go.Ground.gcOnly Go.Departure.lateStores }], guard := none }) (v := ?_) rfl (by kernel_rfl) (by kernel_rfl) (by kernel_rfl) (fun _ _ _ h => h) (Or.inl ⟨by rfl, ?_⟩) hHeld ?_; rotate_left; (focus ((intro w hSw; (try dsimp only at hSw); go_simp); (try with_reducible rfl); done)); (try simp only [Act.put, List.setIfInBounds_toArray, List.set_cons_zero, List.set_cons_succ]))
  (refine wpAnyH_take (i := 5) (oi := { dst := some 20, op := Go.Op.fieldAddr 65 (Go.Operand.tmp 4) 1, type := 0, pos := "l5_touch.go:165", after := #[{ on := 8, ground := Go.Ground.gcOnly Go.Departure.lateStores }], guard := none }) (v := ?_) rfl (by kernel_rfl) (by kernel_rfl) (by kernel_rfl) (fun _ _ _ h => h) (Or.inl ⟨by rfl, ?_⟩) hHeld ?_; rotate_left; (focus ((intro w hSw; (try dsimp only at hSw); go_simp); (try with_reducible rfl); done)); (try simp only [Act.put, List.setIfInBounds_toArray, List.set_cons_zero, List.set_cons_succ]))
  (refine wpAnyH_take (i := 6) (oi := { dst := some 21, op := Go.Op.indexAddr 63 (Go.Operand.tmp 20) (Go.Operand.tmp 19), type := 0, pos := "l5_touch.go:165", after := #[{ on := 5, ground := Go.Ground.data }, { on := 4, ground := Go.Ground.data }, { on := 8, ground := Go.Ground.gcOnly Go.Departure.lateStores }], guard := none }) (v := ?_) rfl (by kernel_rfl) (by kernel_rfl) (by kernel_rfl) (fun _ _ _ h => h) (Or.inl ⟨by rfl, ?_⟩) hHeld ?_; rotate_left; (focus ((intro w hSw; (try dsimp only at hSw); go_simp); (try with_reducible rfl); done)); (try simp only [Act.put, List.setIfInBounds_toArray, List.set_cons_zero, List.set_cons_succ]))
  (refine wpAnyH_take (i := 7) (oi := { dst := some 22, op := Go.Op.load 61 (Go.Operand.tmp 21), type := 61, pos := "l5_touch.go:165", after := #[{ on := 6, ground := Go.Ground.data }, { on := 8, ground := Go.Ground.gcOnly Go.Departure.lateStores }], guard := none }) (v := ?_) rfl (by kernel_rfl) (by kernel_rfl) (by kernel_rfl) (fun _ _ _ h => h) (Or.inl ⟨by rfl, ?_⟩) hHeld ?_; rotate_left; (focus ((intro w hSw; (try dsimp only at hSw); go_simp); (try with_reducible rfl); done)); (try simp only [Act.put, List.setIfInBounds_toArray, List.set_cons_zero, List.set_cons_succ]))
  (refine wpAnyH_take (i := 8) (oi := { dst := some 11, op := Go.Op.assign (Go.Operand.tmp 18), type := 61, pos := "l5_touch.go:165", after := #[{ on := 3, ground := Go.Ground.data }, { on := 0, ground := Go.Ground.phase }, { on := 1, ground := Go.Ground.phase }, { on := 2, ground := Go.Ground.phase }, { on := 3, ground := Go.Ground.phase }, { on := 4, ground := Go.Ground.textOnly Go.Departure.lateStores }, { on := 5, ground := Go.Ground.textOnly Go.Departure.lateStores }, { on := 6, ground := Go.Ground.textOnly Go.Departure.lateStores }, { on := 7, ground := Go.Ground.textOnly Go.Departure.lateStores }], guard := none }) (v := ?_) rfl (by kernel_rfl) (by kernel_rfl) (by kernel_rfl) (fun _ _ _ h => h) (Or.inl ⟨by rfl, ?_⟩) hHeld ?_; rotate_left; (focus ((intro w hSw; (try dsimp only at hSw); go_simp); (try with_reducible rfl); done)); (try simp only [Act.put, List.setIfInBounds_toArray, List.set_cons_zero, List.set_cons_succ]))
  (refine wpAnyH_take (i := 9) (oi := { dst := some 12, op := Go.Op.assign (Go.Operand.tmp 22), type := 61, pos := "l5_touch.go:165", after := #[{ on := 7, ground := Go.Ground.data }, { on := 8, ground := Go.Ground.chain }, { on := 0, ground := Go.Ground.phase }, { on := 1, ground := Go.Ground.phase }, { on := 2, ground := Go.Ground.phase }, { on := 3, ground := Go.Ground.phase }, { on := 4, ground := Go.Ground.phase }, { on := 5, ground := Go.Ground.phase }, { on := 6, ground := Go.Ground.phase }, { on := 7, ground := Go.Ground.phase }, { on := 8, ground := Go.Ground.phase }], guard := none }) (v := ?_) rfl (by kernel_rfl) (by kernel_rfl) (by kernel_rfl) (fun _ _ _ h => h) (Or.inl ⟨by rfl, ?_⟩) hHeld ?_; rotate_left; (focus ((intro w hSw; (try dsimp only at hSw); go_simp); (try with_reducible rfl); done)); (try simp only [Act.put, List.setIfInBounds_toArray, List.set_cons_zero, List.set_cons_succ]))
  refine wpAnyH_done (by kernel_rfl) ?_ _
  go_wp2_with (first
   | (go_at_call 119; refine (downOver_any _ _ _ (by omega) (by omega) (by omega)).mono ?_; rintro e w' ⟨rfl, rfl⟩)
   | (go_at_call 120; refine (upOver_any _ _ _ (by omega) (by omega) (by omega)).mono ?_; rintro e w' ⟨rfl, rfl⟩))
  go_ret3
  exact ⟨rfl, bel_a⟩
end Go.Proofs.YthijeiehcdoidaaGreat
