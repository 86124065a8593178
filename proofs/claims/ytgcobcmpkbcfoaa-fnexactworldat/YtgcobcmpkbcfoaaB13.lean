/- Rays as they are taken. The contracts of the specification's BoxBoth and BoxNear. The specification's rays. A ray and a box, by the specification and by the program. RayBox, by the program and by the specification. A ray and something round: where the ray is, and the first part at which it is in it, by the program and by the specification. -/
import Derived.Test.YtgcobcmpkbcfoaaRayMs
import Derived.Deep.RegionHeld3
import Derived.Deep.DeepCutAuto
import Derived.Test.YtgcobcmpkbcfoaaB3
import Derived.Test.YtgcobcmpkbcfoaaB6
import Derived.Test.YtgcobcmpkbcfoaaB10
import Derived.Deep.QuietTactic
import Derived.BigQuiet
import Derived.Deep.RegionWith
import Derived.Deep.LoopGhost
import Derived.Below
namespace Go.Proofs.Ytgcobcmpkbcfoaa
open Go.RowKit
set_option linter.unusedVariables false
set_option linter.unusedSimpArgs false

/-- whether a ray is ok -/
def rayB (x y u v : Int) : Bool := inB 2560000 x y && (inB 2560000 u v && !decide (u = 0 ∧ v = 0))

set_option maxHeartbeats 2000000 in
theorem beamOf_n1 (x y u v : Int) (w : World) (h1 : inB 2560000 x y = false) : Calls Try.prog 78 #[b4 x y u v] w fun e w' => e = .returned (.tuple #[b4 0 0 0 0, .bool false]) ∧ Below w.heap.size w w' := by
  have hset := cset_map
  go_enter Try.func78, Try.ntmps78
  go_wp2_with (go_at_call 65; refine (isPlace_n _ _ _ (by with_reducible assumption)).mono ?_; rintro e w1 ⟨rfl, hb1⟩; obtain ⟨hc1, hf1⟩ := bcell hb1; have hz1 := hb1.size; (try simp only [World.size_drew, World.size_alloc, World.size_setCell] at hc1 hf1 hz1); have hk1x0 := fun o => hc1 (w.heap.size) o (by omega); have hj1x0 := fun o => hf1 (w.heap.size) o (by omega); have hq1x0 : w.heap.size < w1.heap.size := (by omega); have hk1x1 := fun o => hc1 (w.heap.size + 1) o (by omega); have hj1x1 := fun o => hf1 (w.heap.size + 1) o (by omega); have hq1x1 : w.heap.size + 1 < w1.heap.size := (by omega); clear hc1 hf1)
  exact bodyPost_ret (v := .tuple #[b4 0 0 0 0, .bool false]) (by simp [results, Try.results78, go_sem, *]) rfl ⟨rfl, by repeat (first | with_reducible apply Below.refl | (with_reducible apply Below.setCell; rotate_left; focus (first | omega | (simp; done) | (simp; omega))) | (with_reducible apply Below.alloc; rotate_left; focus (first | omega | (simp; done) | (simp; omega))) | with_reducible apply Below.drew | with_reducible apply belowDrewN | (with_reducible apply Below.trans; rotate_left; with_reducible apply Below.mono; with_reducible assumption; focus (first | omega | (simp; done) | (simp; omega))))⟩
set_option maxHeartbeats 2000000 in
theorem beamOf_n2 (x y u v : Int) (w : World) (h1 : inB 2560000 x y = true) (h2 : inB 2560000 u v = false) : Calls Try.prog 78 #[b4 x y u v] w fun e w' => e = .returned (.tuple #[b4 0 0 0 0, .bool false]) ∧ Below w.heap.size w w' := by
  have hset := cset_map
  go_enter Try.func78, Try.ntmps78
  go_wp2_with (first
      | (go_at_call 65; refine (isPlace_t _ _ _ (by with_reducible assumption)).mono ?_; rintro e w1 ⟨rfl, hb1⟩; obtain ⟨hc1, hf1⟩ := bcell hb1; have hz1 := hb1.size; (try simp only [World.size_drew, World.size_alloc, World.size_setCell] at hc1 hf1 hz1); have hk1x0 := fun o => hc1 (w.heap.size) o (by omega); have hj1x0 := fun o => hf1 (w.heap.size) o (by omega); have hq1x0 : w.heap.size < w1.heap.size := (by omega); have hk1x1 := fun o => hc1 (w.heap.size + 1) o (by omega); have hj1x1 := fun o => hf1 (w.heap.size + 1) o (by omega); have hq1x1 : w.heap.size + 1 < w1.heap.size := (by omega); clear hc1 hf1)
      | (go_at_call 65; refine (isPlace_n _ _ _ (by with_reducible assumption)).mono ?_; rintro e w2 ⟨rfl, hb2⟩; obtain ⟨hc2, hf2⟩ := bcell hb2; have hz2 := hb2.size; (try simp only [World.size_drew, World.size_alloc, World.size_setCell] at hc2 hf2 hz2); have hk2x0 := fun o => hc2 (w.heap.size) o (by omega); have hj2x0 := fun o => hf2 (w.heap.size) o (by omega); have hq2x0 : w.heap.size < w2.heap.size := (by omega); have hk2x1 := fun o => hc2 (w.heap.size + 1) o (by omega); have hj2x1 := fun o => hf2 (w.heap.size + 1) o (by omega); have hq2x1 : w.heap.size + 1 < w2.heap.size := (by omega); clear hc2 hf2))
  exact bodyPost_ret (v := .tuple #[b4 0 0 0 0, .bool false]) (by simp [results, Try.results78, go_sem, *]) rfl ⟨rfl, by repeat (first | with_reducible apply Below.refl | (with_reducible apply Below.setCell; rotate_left; focus (first | omega | (simp; done) | (simp; omega))) | (with_reducible apply Below.alloc; rotate_left; focus (first | omega | (simp; done) | (simp; omega))) | with_reducible apply Below.drew | with_reducible apply belowDrewN | (with_reducible apply Below.trans; rotate_left; with_reducible apply Below.mono; with_reducible assumption; focus (first | omega | (simp; done) | (simp; omega))))⟩
set_option maxHeartbeats 2000000 in
theorem beamOf_n3 (x y : Int) (w : World) (h1 : inB 2560000 x y = true) : Calls Try.prog 78 #[b4 x y 0 0] w fun e w' => e = .returned (.tuple #[b4 0 0 0 0, .bool false]) ∧ Below w.heap.size w w' := by
  have hset := cset_map
  have h2 : inB 2560000 0 0 = true := by decide
  go_enter Try.func78, Try.ntmps78
  go_wp2_with (first
      | (go_at_call 65; refine (isPlace_t _ _ _ (by with_reducible assumption)).mono ?_; rintro e w1 ⟨rfl, hb1⟩; obtain ⟨hc1, hf1⟩ := bcell hb1; have hz1 := hb1.size; (try simp only [World.size_drew, World.size_alloc, World.size_setCell] at hc1 hf1 hz1); have hk1x0 := fun o => hc1 (w.heap.size) o (by omega); have hj1x0 := fun o => hf1 (w.heap.size) o (by omega); have hq1x0 : w.heap.size < w1.heap.size := (by omega); have hk1x1 := fun o => hc1 (w.heap.size + 1) o (by omega); have hj1x1 := fun o => hf1 (w.heap.size + 1) o (by omega); have hq1x1 : w.heap.size + 1 < w1.heap.size := (by omega); clear hc1 hf1))
  exact bodyPost_ret (v := .tuple #[b4 0 0 0 0, .bool false]) (by simp [results, Try.results78, go_sem, *]) rfl ⟨rfl, by repeat (first | with_reducible apply Below.refl | (with_reducible apply Below.setCell; rotate_left; focus (first | omega | (simp; done) | (simp; omega))) | (with_reducible apply Below.alloc; rotate_left; focus (first | omega | (simp; done) | (simp; omega))) | with_reducible apply Below.drew | with_reducible apply belowDrewN | (with_reducible apply Below.trans; rotate_left; with_reducible apply Below.mono; with_reducible assumption; focus (first | omega | (simp; done) | (simp; omega))))⟩
set_option maxHeartbeats 2000000 in
theorem beamOf_y (x y u v : Int) (w : World) (h1 : inB 2560000 x y = true) (h2 : inB 2560000 u v = true) (h3 : ¬ (u = 0 ∧ v = 0)) : Calls Try.prog 78 #[b4 x y u v] w fun e w' => e = .returned (.tuple #[b4 x y u v, .bool true]) ∧ Below w.heap.size w w' := by
  have hset := cset_map
  have hne : (u = 0) = False ∨ (v = 0) = False := by
    by_cases q : u = 0
    · exact .inr (eq_false fun q2 => h3 ⟨q, q2⟩)
    · exact .inl (eq_false q)
  clear h3
  rcases hne with hne | hne
  all_goals
    go_enter Try.func78, Try.ntmps78
    go_upto_region 3 with (first
        | (go_at_call 65; refine (isPlace_t _ _ _ (by with_reducible assumption)).mono ?_; rintro e w1 ⟨rfl, hb1⟩; obtain ⟨hc1, hf1⟩ := bcell hb1; have hz1 := hb1.size; (try simp only [World.size_drew, World.size_alloc, World.size_setCell] at hc1 hf1 hz1); have hk1x0 := fun o => hc1 (w.heap.size) o (by omega); have hj1x0 := fun o => hf1 (w.heap.size) o (by omega); have hq1x0 : w.heap.size < w1.heap.size := (by omega); have hk1x1 := fun o => hc1 (w.heap.size + 1) o (by omega); have hj1x1 := fun o => hf1 (w.heap.size + 1) o (by omega); have hq1x1 : w.heap.size + 1 < w1.heap.size := (by omega); clear hc1 hf1))
    refine wp_region_held_drew (S := fun w' => w'.cell? ⟨w.heap.size, 0, none⟩ = some (.int .i64 x) ∧ w'.cell? ⟨w.heap.size, 1, none⟩ = some (.int .i64 y) ∧ w'.cell? ⟨w.heap.size, 2, none⟩ = some (.int .i64 u) ∧ w'.cell? ⟨w.heap.size, 3, none⟩ = some (.int .i64 v)) (by kernel_rfl) ?_ (fun hHeld => ?_)
    · (try dsimp only)
      (first | (go_simp; done) | (go_keep; done))
    (refine wpAnyH_take (i := 0) (oi := { dst := some 21, op := Go.Op.fieldAddr 57 (Go.Operand.tmp 1) 0, type := 0, pos := "l5_touch.go:141", after := #[], guard := none }) (v := ?_) rfl (by kernel_rfl) (by kernel_rfl) (by kernel_rfl) (fun _ _ _ h => h) (Or.inl ⟨by rfl, ?_⟩) hHeld ?_; rotate_left; (focus ((intro w hSw; (try dsimp only at hSw); go_simp); (try with_reducible rfl); done)); (try simp only [Act.put, List.setIfInBounds_toArray, List.set_cons_zero, List.set_cons_succ]))
    (refine wpAnyH_take (i := 1) (oi := { dst := some 22, op := Go.Op.load 39 (Go.Operand.tmp 21), type := 39, pos := "l5_touch.go:141", after := #[{ on := 0, ground := Go.Ground.data }], guard := none }) (v := ?_) rfl (by kernel_rfl) (by kernel_rfl) (by kernel_rfl) (fun _ _ _ h => h) (Or.inl ⟨by rfl, ?_⟩) hHeld ?_; rotate_left; (focus ((intro w hSw; (try dsimp only at hSw); go_simp); (try with_reducible rfl); done)); (try simp only [Act.put, List.setIfInBounds_toArray, List.set_cons_zero, List.set_cons_succ]))
    (refine wpAnyH_take (i := 3) (oi := { dst := some 24, op := Go.Op.fieldAddr 57 (Go.Operand.tmp 1) 1, type := 0, pos := "l5_touch.go:141", after := #[], guard := none }) (v := ?_) rfl (by kernel_rfl) (by kernel_rfl) (by kernel_rfl) (fun _ _ _ h => h) (Or.inl ⟨by rfl, ?_⟩) hHeld ?_; rotate_left; (focus ((intro w hSw; (try dsimp only at hSw); go_simp); (try with_reducible rfl); done)); (try simp only [Act.put, List.setIfInBounds_toArray, List.set_cons_zero, List.set_cons_succ]))
    (refine wpAnyH_take (i := 4) (oi := { dst := some 25, op := Go.Op.load 39 (Go.Operand.tmp 24), type := 39, pos := "l5_touch.go:141", after := #[{ on := 3, ground := Go.Ground.data }], guard := none }) (v := ?_) rfl (by kernel_rfl) (by kernel_rfl) (by kernel_rfl) (fun _ _ _ h => h) (Or.inl ⟨by rfl, ?_⟩) hHeld ?_; rotate_left; (focus ((intro w hSw; (try dsimp only at hSw); go_simp); (try with_reducible rfl); done)); (try simp only [Act.put, List.setIfInBounds_toArray, List.set_cons_zero, List.set_cons_succ]))
    (refine wpAnyH_ready (rs := [2]) (by kernel_rfl) (by simp) ?_; refine AllReadyH.cons (o := { dst := some 23, op := Go.Op.call { callee := Go.Callee.value (Go.Operand.func 67), args := #[Go.Operand.tmp 22], argTypes := #[39] }, type := 111, pos := "l5_touch.go:141", after := #[{ on := 1, ground := Go.Ground.data }], guard := none }) rfl (fun K hK => ?_) AllReadyH.nil; go_simp; (go_at_call 67; refine (wayOf_any _ _ _).mono ?_; rintro e w2 ⟨rfl, hb2⟩; obtain ⟨hc2, hf2⟩ := bcell hb2; have hz2 := hb2.size; (try simp only [World.size_drew, World.size_alloc, World.size_setCell] at hc2 hf2 hz2); have hk2x0 := fun o => hc2 (w.heap.size) o (by omega); have hj2x0 := fun o => hf2 (w.heap.size) o (by omega); have hq2x0 : w.heap.size < w2.heap.size := (by omega); have hk2x1 := fun o => hc2 (w.heap.size + 1) o (by omega); have hj2x1 := fun o => hf2 (w.heap.size + 1) o (by omega); have hq2x1 : w.heap.size + 1 < w2.heap.size := (by omega); clear hc2 hf2); (try go_wp2_with fail); refine hK.out _ _ ?_ (fun hHeld => ?_); (focus ((try dsimp only); (first | (go_simp; done) | (go_keep; done)))); clear hK K; (try simp only [Act.put, List.setIfInBounds_toArray, List.set_cons_zero, List.set_cons_succ]))
    (refine wpAnyH_ready (rs := [5]) (by kernel_rfl) (by simp) ?_; refine AllReadyH.cons (o := { dst := some 26, op := Go.Op.call { callee := Go.Callee.value (Go.Operand.func 67), args := #[Go.Operand.tmp 25], argTypes := #[39] }, type := 111, pos := "l5_touch.go:141", after := #[{ on := 4, ground := Go.Ground.data }, { on := 2, ground := Go.Ground.chain }], guard := none }) rfl (fun K hK => ?_) AllReadyH.nil; go_simp; (go_at_call 67; refine (wayOf_any _ _ _).mono ?_; rintro e w3 ⟨rfl, hb3⟩; obtain ⟨hc3, hf3⟩ := bcell hb3; have hz3 := hb3.size; (try simp only [World.size_drew, World.size_alloc, World.size_setCell] at hc3 hf3 hz3); have hk3x0 := fun o => hc3 (w.heap.size) o (by omega); have hj3x0 := fun o => hf3 (w.heap.size) o (by omega); have hq3x0 : w.heap.size < w3.heap.size := (by omega); have hk3x1 := fun o => hc3 (w.heap.size + 1) o (by omega); have hj3x1 := fun o => hf3 (w.heap.size + 1) o (by omega); have hq3x1 : w.heap.size + 1 < w3.heap.size := (by omega); clear hc3 hf3); (try go_wp2_with fail); refine hK.out _ _ ?_ (fun hHeld => ?_); (focus ((try dsimp only); (first | (go_simp; done) | (go_keep; done)))); clear hK K; (try simp only [Act.put, List.setIfInBounds_toArray, List.set_cons_zero, List.set_cons_succ]))
    (refine wpAnyH_take (i := 6) (oi := { dst := some 27, op := Go.Op.build 125 #[(0, Go.Operand.tmp 23), (1, Go.Operand.tmp 26)], type := 125, pos := "l5_touch.go:141", after := #[{ on := 2, ground := Go.Ground.data }, { on := 5, ground := Go.Ground.data }], guard := none }) (v := ?_) rfl (by kernel_rfl) (by kernel_rfl) (by kernel_rfl) (fun _ _ _ h => h) (Or.inl ⟨by rfl, ?_⟩) hHeld ?_; rotate_left; (focus ((intro w hSw; (try dsimp only at hSw); go_simp); (try with_reducible rfl); done)); (try simp only [Act.put, List.setIfInBounds_toArray, List.set_cons_zero, List.set_cons_succ]))
    (refine wpAnyH_ready (rs := [7]) (by kernel_rfl) (by simp) ?_; refine AllReadyH.cons (o := { dst := none, op := Go.Op.store 125 (Go.Operand.tmp 2) (Go.Operand.tmp 27), type := 0, pos := "l5_touch.go:141", after := #[{ on := 6, ground := Go.Ground.data }, { on := 5, ground := Go.Ground.chain }, { on := 0, ground := Go.Ground.phase }, { on := 1, ground := Go.Ground.phase }, { on := 2, ground := Go.Ground.phase }, { on := 3, ground := Go.Ground.phase }, { on := 4, ground := Go.Ground.phase }, { on := 5, ground := Go.Ground.phase }, { on := 6, ground := Go.Ground.phase }], guard := none }) rfl (fun K hK => ?_) AllReadyH.nil; go_simp; refine hK.out _ _ ?_ (fun hHeld => ?_); (focus ((try dsimp only); (first | (go_simp; done) | (go_keep; done)))); clear hK K; (try simp only [Act.put, List.setIfInBounds_toArray, List.set_cons_zero, List.set_cons_succ]))
    (refine wpAnyH_take (i := 8) (oi := { dst := some 3, op := Go.Op.assign (Go.Operand.const (Go.Value.bool true)), type := 4, pos := "l5_touch.go:141", after := #[{ on := 7, ground := Go.Ground.chain }, { on := 0, ground := Go.Ground.phase }, { on := 1, ground := Go.Ground.phase }, { on := 2, ground := Go.Ground.phase }, { on := 3, ground := Go.Ground.phase }, { on := 4, ground := Go.Ground.phase }, { on := 5, ground := Go.Ground.phase }, { on := 6, ground := Go.Ground.phase }, { on := 7, ground := Go.Ground.phase }], guard := none }) (v := ?_) rfl (by kernel_rfl) (by kernel_rfl) (by kernel_rfl) (fun _ _ _ h => h) (Or.inl ⟨by rfl, ?_⟩) hHeld ?_; rotate_left; (focus ((intro w hSw; (try dsimp only at hSw); go_simp); (try with_reducible rfl); done)); (try simp only [Act.put, List.setIfInBounds_toArray, List.set_cons_zero, List.set_cons_succ]))
    refine wpAnyH_done (by kernel_rfl) ?_ _
    go_wp2_with fail
    exact bodyPost_ret (v := .tuple #[b4 x y u v, .bool true]) (by simp [results, Try.results78, go_sem, *]) rfl ⟨rfl, by repeat (first | with_reducible apply Below.refl | (with_reducible apply Below.setCell; rotate_left; focus (first | omega | (simp; done) | (simp; omega))) | (with_reducible apply Below.alloc; rotate_left; focus (first | omega | (simp; done) | (simp; omega))) | with_reducible apply Below.drew | with_reducible apply belowDrewN | (with_reducible apply Below.trans; rotate_left; with_reducible apply Below.mono; with_reducible assumption; focus (first | omega | (simp; done) | (simp; omega))))⟩
theorem beamOf_any (x y u v : Int) (w : World) :
    Calls Try.prog 78 #[b4 x y u v] w fun e w' => ((rayB x y u v = true ∧ e = .returned (.tuple #[b4 x y u v, .bool true])) ∨ (rayB x y u v = false ∧ e = .returned (.tuple #[b4 0 0 0 0, .bool false]))) ∧ Below w.heap.size w w' := by
  cases h1 : inB 2560000 x y with
  | false => exact (beamOf_n1 x y u v w h1).mono fun e w' ⟨a, b⟩ => ⟨.inr ⟨by unfold rayB; rw [h1]; rfl, a⟩, b⟩
  | true =>
    cases h2 : inB 2560000 u v with
    | false => exact (beamOf_n2 x y u v w h1 h2).mono fun e w' ⟨a, b⟩ => ⟨.inr ⟨by unfold rayB; rw [h1, h2]; rfl, a⟩, b⟩
    | true =>
      by_cases h3 : u = 0 ∧ v = 0
      · obtain ⟨rfl, rfl⟩ := h3
        exact (beamOf_n3 x y w h1).mono fun e w' ⟨a, b⟩ => ⟨.inr ⟨by unfold rayB; rw [h1, h2]; rfl, a⟩, b⟩
      · exact (beamOf_y x y u v w h1 h2 h3).mono fun e w' ⟨a, b⟩ => ⟨.inl ⟨by unfold rayB; rw [h1, h2, decide_eq_false h3]; rfl, a⟩, b⟩
end Go.Proofs.Ytgcobcmpkbcfoaa
namespace Go.Proofs.Ytgcobcmpkbcfoaa
open Go.RowKit
set_option linter.unusedVariables false
set_option linter.unusedSimpArgs false

theorem l3Less_any (x y : Int) (w : World) :
    Calls Try.prog 117 #[.int .i64 x, .int .i64 y] w fun e w' => e = .returned (.int .i64 (mn x y)) ∧ w' = w := by
  go_enter Try.func117, Try.ntmps117
  go_wp2
  all_goals
    go_ret
    refine ⟨?_, rfl⟩
    unfold mn
    split <;> first | rfl | (exfalso; omega) | (have hxy : x = y := (by omega); subst hxy; rfl) | (exfalso; simp at *; omega)

theorem l3More_any (x y : Int) (w : World) :
    Calls Try.prog 116 #[.int .i64 x, .int .i64 y] w fun e w' => e = .returned (.int .i64 (mx x y)) ∧ w' = w := by
  go_enter Try.func116, Try.ntmps116
  go_wp2
  all_goals
    go_ret
    refine ⟨?_, rfl⟩
    unfold mx
    split <;> first | rfl | (exfalso; omega) | (have hxy : x = y := (by omega); subst hxy; rfl) | (exfalso; simp at *; omega)

theorem sBoxOk_t (a b c d : Int) (w : World) (h : bokB a b c d = true) : Calls Try.prog 45 #[b4 a b c d] w fun e w' => e = .returned (.bool true) ∧ Below w.heap.size w w' := by
  have k := sBoxOk_any a b c d w
  rw [h] at k
  exact k
theorem sBoxOk_n (a b c d : Int) (w : World) (h : bokB a b c d = false) : Calls Try.prog 45 #[b4 a b c d] w fun e w' => e = .returned (.bool false) ∧ Below w.heap.size w w' := by
  have k := sBoxOk_any a b c d w
  rw [h] at k
  exact k
theorem sVecOk_t (x y : Int) (w : World) (h : vokB x y = true) : Calls Try.prog 69 #[vv x y] w fun e w' => e = .returned (.bool true) ∧ Below w.heap.size w w' := by
  have k := sVecOk_any x y w
  rw [h] at k
  exact k
theorem sVecOk_n (x y : Int) (w : World) (h : vokB x y = false) : Calls Try.prog 69 #[vv x y] w fun e w' => e = .returned (.bool false) ∧ Below w.heap.size w w' := by
  have k := sVecOk_any x y w
  rw [h] at k
  exact k
end Go.Proofs.Ytgcobcmpkbcfoaa
namespace Go.Proofs.Ytgcobcmpkbcfoaa
open Go.RowKit
set_option linter.unusedVariables false
set_option linter.unusedSimpArgs false

set_option maxHeartbeats 1000000 in
theorem l5Down_any (n m : Int) (w : World) (hn : -4000000000000 ≤ n ∧ n ≤ 4000000000000) (hm : -1000000000 ≤ m ∧ m ≤ 1000000000) (h0 : m ≠ 0) :
    Calls Try.prog 115 #[.int .i64 n, .int .i64 m] w fun e w' => e = .returned (.int .i64 (downZ n m)) ∧ w' = w := by
  have hq := tdiv_bd (x := n) (B := 4000000000000) m hn
  have hz : (m == 0) = false := by simp; exact h0
  have hk : n.tdiv m * m = n - n.tmod m := by have := Int.tdiv_mul_add_tmod n m; omega
  have hw1 := w64 (n := n.tdiv m) (by omega)
  have hw3 := w64 (n := n.tdiv m - 1) (by omega)
  have hv1 := i64w (n := n.tdiv m) (by omega)
  have hv3 := i64w (n := n.tdiv m - 1) (by omega)
  by_cases c1 : n.tmod m = 0
  · have d1 : (n.tmod m == 0) = true := by simp [c1]
    have e : downZ n m = n.tdiv m := by unfold downZ; rw [if_neg (fun q => q.1 (by omega))]
    clear hk
    rw [e]
    go_enter Try.func115, Try.ntmps115
    go_wp2
    all_goals first | (go_ret; exact ⟨rfl, rfl⟩) | (exfalso; omega)
  · have d1 : (n.tmod m == 0) = false := by simp; exact c1
    have c9 : n.tdiv m * m ≠ n := by omega
    have c8 : m ≠ -1 := by intro q; apply c1; subst q; rw [Int.tmod_neg, Int.tmod_one]
    clear hk
    by_cases c2 : n < 0
    · have d2 : decide (n < 0) = true := decide_eq_true c2
      by_cases c3 : m < 0
      · have d3 : decide (m < 0) = true := decide_eq_true c3
        have e : downZ n m = n.tdiv m := by unfold downZ; rw [if_neg (fun q => q.2 (by rw [d2, d3]))]
        rw [e]
        go_enter Try.func115, Try.ntmps115
        go_wp2
        all_goals first | (go_ret; exact ⟨rfl, rfl⟩) | (exfalso; omega)
      · have d3 : decide (m < 0) = false := decide_eq_false c3
        have e : downZ n m = n.tdiv m - 1 := by unfold downZ; rw [if_pos ⟨c9, by rw [d2, d3]; decide⟩]
        rw [e]
        go_enter Try.func115, Try.ntmps115
        go_wp2
        all_goals first | (go_ret; exact ⟨rfl, rfl⟩) | (exfalso; omega)
    · have d2 : decide (n < 0) = false := decide_eq_false c2
      have d7 : ¬ n % m = 0 := by rw [← Int.tmod_eq_emod_of_nonneg (by omega)]; exact c1
      by_cases c3 : m < 0
      · have d3 : decide (m < 0) = true := decide_eq_true c3
        have e : downZ n m = n.tdiv m - 1 := by unfold downZ; rw [if_pos ⟨c9, by rw [d2, d3]; decide⟩]
        rw [e]
        go_enter Try.func115, Try.ntmps115
        go_wp2
        all_goals first | (go_ret; exact ⟨rfl, rfl⟩) | (exfalso; omega)
      · have d3 : decide (m < 0) = false := decide_eq_false c3
        have e : downZ n m = n.tdiv m := by unfold downZ; rw [if_neg (fun q => q.2 (by rw [d2, d3]))]
        rw [e]
        go_enter Try.func115, Try.ntmps115
        go_wp2
        all_goals first | (go_ret; exact ⟨rfl, rfl⟩) | (exfalso; omega)

set_option maxHeartbeats 2000000 in
theorem l5Slab_any (f g l h a b : Int) (w : World) (hf : -3000000 ≤ f ∧ f ≤ 3000000) (hg : -3000000 ≤ g ∧ g ≤ 3000000) (hl : -3000000 ≤ l ∧ l ≤ 3000000) (hh : -3000000 ≤ h ∧ h ≤ 3000000) (ha : 0 ≤ a) (hb : b ≤ 256) (hab : a ≤ b) :
    Calls Try.prog 97 #[.int .i64 f, .int .i64 g, .int .i64 l, .int .i64 h, .int .i64 a, .int .i64 b] w fun e w' => e = .returned (.tuple #[.int .i64 (msF a (btA f g l h)), .int .i64 (msL b (btB f g l h)), .bool (btC f g l h && !decide (msL b (btB f g l h) < msF a (btA f g l h)))]) ∧ w' = w := by
  by_cases c0 : g = 0
  · have d0 : (g == 0) = true := by simp [c0]
    have eA : msF a (btA f g l h) = a := by unfold msF btA; rw [if_pos c0, if_neg (by omega)]
    have eB : msL b (btB f g l h) = b := by unfold msL btB; rw [if_pos c0, if_neg (by omega)]
    have eC : btC f g l h = (decide (l ≤ f) && decide (f ≤ h)) := by unfold btC; rw [if_pos c0, Bool.decide_and]
    rw [eA, eB, eC, decide_eq_false (show ¬ b < a by omega), Bool.not_false, Bool.and_true]
    clear eA eB eC c0
    go_enter Try.func97, Try.ntmps97
    go_wp2_with (first
    | (go_at_call 115; refine (l5Down_any _ _ _ (by omega) (by omega) (by omega)).mono ?_; rintro e w' ⟨rfl, rfl⟩)
    | (go_at_call 117; refine (l3Less_any _ _ _).mono ?_; rintro e w' ⟨rfl, rfl⟩)
    | (go_at_call 116; refine (l3More_any _ _ _).mono ?_; rintro e w' ⟨rfl, rfl⟩)
    | (go_at_call 27; refine (l1In_any _ _ _ _).mono ?_; rintro e w' ⟨rfl, rfl⟩))
    go_ret3
    exact ⟨rfl, rfl⟩
  · have d0 : (g == 0) = false := by simp [c0]
    by_cases c1 : g < 0
    · have d1 : decide (g < 0) = true := decide_eq_true c1
      have b1 := downZ_bd (n := (h - f) * 256) (m := g) (B := 2000000000) (by omega)
      have b2 := downZ_bd (n := (f - l) * 256) (m := g) (B := 2000000000) (by omega)
      have eA : btA f g l h = downZ ((h - f) * 256) g := by unfold btA; rw [if_neg c0, if_pos c1]
      have eB : btB f g l h = -downZ ((f - l) * 256) g := by unfold btB; rw [if_neg c0, if_pos c1, show -((l - f) * 256) = (f - l) * 256 by omega]
      have eC : btC f g l h = true := by unfold btC; rw [if_neg c0]
      have eK : (btC f g l h && !decide (msL b (btB f g l h) < msF a (btA f g l h))) = decide (msF a (btA f g l h) ≤ msL b (btB f g l h)) := by rw [eC, Bool.eq_iff_iff]; simp
      rw [eK, eA, eB]
      show Calls Try.prog 97 #[.int .i64 f, .int .i64 g, .int .i64 l, .int .i64 h, .int .i64 a, .int .i64 b] w fun e w' => e = .returned (.tuple #[.int .i64 (mx a (downZ ((h - f) * 256) g)), .int .i64 (mn b (-downZ ((f - l) * 256) g)), .bool (decide (mx a (downZ ((h - f) * 256) g) ≤ mn b (-downZ ((f - l) * 256) g)))]) ∧ w' = w
      clear eK eA eB eC
      go_enter Try.func97, Try.ntmps97
      go_wp2_with (first
    | (go_at_call 115; refine (l5Down_any _ _ _ (by omega) (by omega) (by omega)).mono ?_; rintro e w' ⟨rfl, rfl⟩)
    | (go_at_call 117; refine (l3Less_any _ _ _).mono ?_; rintro e w' ⟨rfl, rfl⟩)
    | (go_at_call 116; refine (l3More_any _ _ _).mono ?_; rintro e w' ⟨rfl, rfl⟩)
    | (go_at_call 27; refine (l1In_any _ _ _ _).mono ?_; rintro e w' ⟨rfl, rfl⟩))
      go_ret3
      exact ⟨rfl, rfl⟩
    · have d1 : decide (g < 0) = false := decide_eq_false c1
      have b1 := downZ_bd (n := (l - f) * 256) (m := g) (B := 2000000000) (by omega)
      have b2 := downZ_bd (n := (f - h) * 256) (m := g) (B := 2000000000) (by omega)
      have eA : btA f g l h = downZ ((l - f) * 256) g := by unfold btA; rw [if_neg c0, if_neg c1]
      have eB : btB f g l h = -downZ ((f - h) * 256) g := by unfold btB; rw [if_neg c0, if_neg c1, show -((h - f) * 256) = (f - h) * 256 by omega]
      have eC : btC f g l h = true := by unfold btC; rw [if_neg c0]
      have eK : (btC f g l h && !decide (msL b (btB f g l h) < msF a (btA f g l h))) = decide (msF a (btA f g l h) ≤ msL b (btB f g l h)) := by rw [eC, Bool.eq_iff_iff]; simp
      rw [eK, eA, eB]
      show Calls Try.prog 97 #[.int .i64 f, .int .i64 g, .int .i64 l, .int .i64 h, .int .i64 a, .int .i64 b] w fun e w' => e = .returned (.tuple #[.int .i64 (mx a (downZ ((l - f) * 256) g)), .int .i64 (mn b (-downZ ((f - h) * 256) g)), .bool (decide (mx a (downZ ((l - f) * 256) g) ≤ mn b (-downZ ((f - h) * 256) g)))]) ∧ w' = w
      clear eK eA eB eC
      go_enter Try.func97, Try.ntmps97
      go_wp2_with (first
    | (go_at_call 115; refine (l5Down_any _ _ _ (by omega) (by omega) (by omega)).mono ?_; rintro e w' ⟨rfl, rfl⟩)
    | (go_at_call 117; refine (l3Less_any _ _ _).mono ?_; rintro e w' ⟨rfl, rfl⟩)
    | (go_at_call 116; refine (l3More_any _ _ _).mono ?_; rintro e w' ⟨rfl, rfl⟩)
    | (go_at_call 27; refine (l1In_any _ _ _ _).mono ?_; rintro e w' ⟨rfl, rfl⟩))
      go_ret3
      exact ⟨rfl, rfl⟩
end Go.Proofs.Ytgcobcmpkbcfoaa
namespace Go.Proofs.Ytgcobcmpkbcfoaa
open Go.RowKit
set_option linter.unusedVariables false
set_option linter.unusedSimpArgs false

theorem l5Slab_q (f g l h a b : Int) (F L : Int) (K : Bool) (w : World) (hf : -3000000 ≤ f ∧ f ≤ 3000000) (hg : -3000000 ≤ g ∧ g ≤ 3000000) (hl : -3000000 ≤ l ∧ l ≤ 3000000) (hh : -3000000 ≤ h ∧ h ≤ 3000000) (ha : 0 ≤ a) (hb : b ≤ 256) (hab : a ≤ b) (eF : msF a (btA f g l h) = F) (eL : msL b (btB f g l h) = L) (eK : (btC f g l h && !decide (msL b (btB f g l h) < msF a (btA f g l h))) = K) :
    Calls Try.prog 97 #[.int .i64 f, .int .i64 g, .int .i64 l, .int .i64 h, .int .i64 a, .int .i64 b] w fun e w' => e = .returned (.tuple #[.int .i64 F, .int .i64 L, .bool K]) ∧ w' = w := by
  subst eF eL eK
  exact l5Slab_any f g l h a b w hf hg hl hh ha hb hab
theorem msF_ge (a n : Int) (h : 0 ≤ a) : 0 ≤ msF a n := by unfold msF; split <;> omega
theorem msL_le (b n : Int) (h : b ≤ 256) : msL b n ≤ 256 := by unfold msL; split <;> omega

set_option maxHeartbeats 2000000 in
theorem l5RayBox_any (x y u v p q r t : Int) (w : World) (hx : -3000000 ≤ x ∧ x ≤ 3000000) (hy : -3000000 ≤ y ∧ y ≤ 3000000) (hu : -3000000 ≤ u ∧ u ≤ 3000000) (hv : -3000000 ≤ v ∧ v ≤ 3000000) (hp : -3000000 ≤ p ∧ p ≤ 3000000) (hq : -3000000 ≤ q ∧ q ≤ 3000000) (hr : -3000000 ≤ r ∧ r ≤ 3000000) (ht : -3000000 ≤ t ∧ t ≤ 3000000) :
    Calls Try.prog 77 #[b4 x y u v, b4 p q r t] w fun e w' => e = .returned (.tuple #[.int .i64 (rsF x y u v p q r t), .bool (rsK x y u v p q r t)]) ∧ Below w.heap.size w w' := by
  have hset := cset_map
  have z1 := msF_ge 0 (btA x u p r) (by omega)
  have z2 := msL_le 256 (btB x u p r) (by omega)
  obtain ⟨F1, hF1⟩ : ∃ n, msF 0 (btA x u p r) = n := ⟨_, rfl⟩
  obtain ⟨L1, hL1⟩ : ∃ n, msL 256 (btB x u p r) = n := ⟨_, rfl⟩
  obtain ⟨F2, hF2⟩ : ∃ n, msF F1 (btA y v q t) = n := ⟨_, rfl⟩
  obtain ⟨L2, hL2⟩ : ∃ n, msL L1 (btB y v q t) = n := ⟨_, rfl⟩
  have hK : rsK x y u v p q r t = (btC x u p r && (!decide (L1 < F1) && (btC y v q t && !decide (L2 < F2)))) := by unfold rsK; rw [hF1, hL1, hF2, hL2]
  have hF : rsF x y u v p q r t = if rsK x y u v p q r t = true then F2 else 0 := by unfold rsF; rw [hF1, hF2]
  rw [hF1] at z1
  rw [hL1] at z2
  cases k0 : (btC x u p r && !decide (msL 256 (btB x u p r) < msF 0 (btA x u p r))) with
  | false =>
    have e1 : rsK x y u v p q r t = false := by rw [hK, ← Bool.and_assoc]; rw [hL1, hF1] at k0; rw [k0]; rfl
    have e2 : rsF x y u v p q r t = 0 := by rw [hF, e1]; rfl
    rw [e1, e2]
    clear hK hF e1 e2
    go_enter Try.func77, Try.ntmps77
    go_wp2_with (go_at_call 97; refine (l5Slab_q _ _ _ _ _ _ _ _ _ _ (by omega) (by omega) (by omega) (by omega) (by omega) (by omega) (by omega) (by with_reducible assumption) (by with_reducible assumption) (by with_reducible assumption)).mono ?_; rintro e w' ⟨rfl, rfl⟩)
    go_ret2
    exact ⟨rfl, by repeat (first | with_reducible apply Below.refl | (with_reducible apply Below.setCell; rotate_left; focus (first | omega | (simp; done) | (simp; omega))) | (with_reducible apply Below.alloc; rotate_left; focus (first | omega | (simp; done) | (simp; omega))) | with_reducible apply Below.drew | with_reducible apply belowDrewN | (with_reducible apply Below.trans; rotate_left; with_reducible apply Below.mono; with_reducible assumption; focus (first | omega | (simp; done) | (simp; omega))))⟩
  | true =>
    have k9 := k0
    rw [hL1, hF1] at k9
    have hle : F1 ≤ L1 := by simp only [Bool.and_eq_true, Bool.not_eq_true', decide_eq_false_iff_not] at k9; omega
    cases k1 : (btC y v q t && !decide (msL L1 (btB y v q t) < msF F1 (btA y v q t))) with
    | false =>
      have e1 : rsK x y u v p q r t = false := by rw [hK, ← Bool.and_assoc, k9]; rw [hL2, hF2] at k1; rw [k1]; rfl
      have e2 : rsF x y u v p q r t = 0 := by rw [hF, e1]; rfl
      rw [e1, e2]
      clear hK hF e1 e2 k9
      go_enter Try.func77, Try.ntmps77
      go_wp2_with (go_at_call 97; refine (l5Slab_q _ _ _ _ _ _ _ _ _ _ (by omega) (by omega) (by omega) (by omega) (by omega) (by omega) (by omega) (by with_reducible assumption) (by with_reducible assumption) (by with_reducible assumption)).mono ?_; rintro e w' ⟨rfl, rfl⟩)
      go_ret2
      exact ⟨rfl, by repeat (first | with_reducible apply Below.refl | (with_reducible apply Below.setCell; rotate_left; focus (first | omega | (simp; done) | (simp; omega))) | (with_reducible apply Below.alloc; rotate_left; focus (first | omega | (simp; done) | (simp; omega))) | with_reducible apply Below.drew | with_reducible apply belowDrewN | (with_reducible apply Below.trans; rotate_left; with_reducible apply Below.mono; with_reducible assumption; focus (first | omega | (simp; done) | (simp; omega))))⟩
    | true =>
      have e1 : rsK x y u v p q r t = true := by rw [hK, ← Bool.and_assoc, k9]; rw [hL2, hF2] at k1; rw [k1]; rfl
      have e2 : rsF x y u v p q r t = F2 := by rw [hF, e1]; rfl
      rw [e1, e2]
      clear hK hF e1 e2 k9
      go_enter Try.func77, Try.ntmps77
      go_wp2_with (go_at_call 97; refine (l5Slab_q _ _ _ _ _ _ _ _ _ _ (by omega) (by omega) (by omega) (by omega) (by omega) (by omega) (by omega) (by with_reducible assumption) (by with_reducible assumption) (by with_reducible assumption)).mono ?_; rintro e w' ⟨rfl, rfl⟩)
      go_ret2
      exact ⟨rfl, by repeat (first | with_reducible apply Below.refl | (with_reducible apply Below.setCell; rotate_left; focus (first | omega | (simp; done) | (simp; omega))) | (with_reducible apply Below.alloc; rotate_left; focus (first | omega | (simp; done) | (simp; omega))) | with_reducible apply Below.drew | with_reducible apply belowDrewN | (with_reducible apply Below.trans; rotate_left; with_reducible apply Below.mono; with_reducible assumption; focus (first | omega | (simp; done) | (simp; omega))))⟩
end Go.Proofs.Ytgcobcmpkbcfoaa
namespace Go.Proofs.Ytgcobcmpkbcfoaa
open Go.RowKit
set_option linter.unusedVariables false
set_option linter.unusedSimpArgs false

def rbK (x y u v p q r t : Int) : Bool := rayB x y u v && (bokB p q r t && (inB 2560000 p q && (inB 2560000 r t && rsK x y u v p q r t)))
def rbF (x y u v p q r t : Int) : Int := if rbK x y u v p q r t = true then rsF x y u v p q r t else 0
theorem rayB_bd {x y u v : Int} (h : rayB x y u v = true) : (-2560000 ≤ x ∧ x ≤ 2560000) ∧ (-2560000 ≤ y ∧ y ≤ 2560000) ∧ (-2560000 ≤ u ∧ u ≤ 2560000) ∧ (-2560000 ≤ v ∧ v ≤ 2560000) := by
  unfold rayB at h; simp only [Bool.and_eq_true] at h
  obtain ⟨a, b⟩ := inB_of h.1
  obtain ⟨c, d⟩ := inB_of h.2.1
  exact ⟨a, b, c, d⟩
theorem beamOf_t (x y u v : Int) (w : World) (h : rayB x y u v = true) : Calls Try.prog 78 #[b4 x y u v] w fun e w' => e = .returned (.tuple #[b4 x y u v, .bool true]) ∧ Below w.heap.size w w' :=
  (beamOf_any x y u v w).mono fun e w' ⟨a, b⟩ => ⟨(by rcases a with a | a; exact a.2; rw [h] at a; cases a.1), b⟩
theorem beamOf_n (x y u v : Int) (w : World) (h : rayB x y u v = false) : Calls Try.prog 78 #[b4 x y u v] w fun e w' => e = .returned (.tuple #[b4 0 0 0 0, .bool false]) ∧ Below w.heap.size w w' :=
  (beamOf_any x y u v w).mono fun e w' ⟨a, b⟩ => ⟨(by rcases a with a | a; rw [h] at a; cases a.1; exact a.2), b⟩
set_option maxHeartbeats 2000000 in
theorem l5RayOk_1 (x y u v : Int) (w : World) (h1 : inB 2560000 x y = false) :
    Calls Try.prog 51 #[b4 x y u v] w fun e w' => e = .returned (.bool false) ∧ Below w.heap.size w w' := by
  have hset := cset_map
  go_enter Try.func51, Try.ntmps51
  go_wp2_with (go_at_call 38; refine (l3Place_n _ _ _ (by with_reducible assumption)).mono ?_; rintro e w1 ⟨rfl, hb1⟩; obtain ⟨hc1, hf1⟩ := bcell hb1; have hz1 := hb1.size; (try simp only [World.size_drew, World.size_alloc, World.size_setCell] at hc1 hf1 hz1); have hk1x0 := fun o => hc1 (w.heap.size) o (by omega); have hj1x0 := fun o => hf1 (w.heap.size) o (by omega); have hq1x0 : w.heap.size < w1.heap.size := (by omega); clear hc1 hf1)
  go_ret
  exact ⟨rfl, by repeat (first | with_reducible apply Below.refl | (with_reducible apply Below.setCell; rotate_left; focus (first | omega | (simp; done) | (simp; omega))) | (with_reducible apply Below.alloc; rotate_left; focus (first | omega | (simp; done) | (simp; omega))) | with_reducible apply Below.drew | with_reducible apply belowDrewN | (with_reducible apply Below.trans; rotate_left; with_reducible apply Below.mono; with_reducible assumption; focus (first | omega | (simp; done) | (simp; omega))))⟩
set_option maxHeartbeats 2000000 in
theorem l5RayOk_2 (x y u v : Int) (w : World) (h1 : inB 2560000 x y = true) (h2 : inB 2560000 u v = false) :
    Calls Try.prog 51 #[b4 x y u v] w fun e w' => e = .returned (.bool false) ∧ Below w.heap.size w w' := by
  have hset := cset_map
  go_enter Try.func51, Try.ntmps51
  go_wp2_with (first
      | (go_at_call 38; refine (l3Place_t _ _ _ (by with_reducible assumption)).mono ?_; rintro e w1 ⟨rfl, hb1⟩; obtain ⟨hc1, hf1⟩ := bcell hb1; have hz1 := hb1.size; (try simp only [World.size_drew, World.size_alloc, World.size_setCell] at hc1 hf1 hz1); have hk1x0 := fun o => hc1 (w.heap.size) o (by omega); have hj1x0 := fun o => hf1 (w.heap.size) o (by omega); have hq1x0 : w.heap.size < w1.heap.size := (by omega); clear hc1 hf1)
      | (go_at_call 38; refine (l3Place_n _ _ _ (by with_reducible assumption)).mono ?_; rintro e w2 ⟨rfl, hb2⟩; obtain ⟨hc2, hf2⟩ := bcell hb2; have hz2 := hb2.size; (try simp only [World.size_drew, World.size_alloc, World.size_setCell] at hc2 hf2 hz2); have hk2x0 := fun o => hc2 (w.heap.size) o (by omega); have hj2x0 := fun o => hf2 (w.heap.size) o (by omega); have hq2x0 : w.heap.size < w2.heap.size := (by omega); clear hc2 hf2))
  go_ret
  exact ⟨rfl, by repeat (first | with_reducible apply Below.refl | (with_reducible apply Below.setCell; rotate_left; focus (first | omega | (simp; done) | (simp; omega))) | (with_reducible apply Below.alloc; rotate_left; focus (first | omega | (simp; done) | (simp; omega))) | with_reducible apply Below.drew | with_reducible apply belowDrewN | (with_reducible apply Below.trans; rotate_left; with_reducible apply Below.mono; with_reducible assumption; focus (first | omega | (simp; done) | (simp; omega))))⟩
set_option maxHeartbeats 2000000 in
theorem l5RayOk_3 (x y u v : Int) (w : World) (h1 : inB 2560000 x y = true) (h2 : inB 2560000 u v = true) (hne : (u = 0) = False) :
    Calls Try.prog 51 #[b4 x y u v] w fun e w' => e = .returned (.bool true) ∧ Below w.heap.size w w' := by
  have hset := cset_map
  go_enter Try.func51, Try.ntmps51
  go_wp2_with (go_at_call 38; refine (l3Place_t _ _ _ (by with_reducible assumption)).mono ?_; rintro e w1 ⟨rfl, hb1⟩; obtain ⟨hc1, hf1⟩ := bcell hb1; have hz1 := hb1.size; (try simp only [World.size_drew, World.size_alloc, World.size_setCell] at hc1 hf1 hz1); have hk1x0 := fun o => hc1 (w.heap.size) o (by omega); have hj1x0 := fun o => hf1 (w.heap.size) o (by omega); have hq1x0 : w.heap.size < w1.heap.size := (by omega); clear hc1 hf1)
  go_ret
  exact ⟨rfl, by repeat (first | with_reducible apply Below.refl | (with_reducible apply Below.setCell; rotate_left; focus (first | omega | (simp; done) | (simp; omega))) | (with_reducible apply Below.alloc; rotate_left; focus (first | omega | (simp; done) | (simp; omega))) | with_reducible apply Below.drew | with_reducible apply belowDrewN | (with_reducible apply Below.trans; rotate_left; with_reducible apply Below.mono; with_reducible assumption; focus (first | omega | (simp; done) | (simp; omega))))⟩
set_option maxHeartbeats 2000000 in
theorem l5RayOk_4 (x y u v : Int) (w : World) (h1 : inB 2560000 x y = true) (h2 : inB 2560000 u v = true) (hne : (v = 0) = False) :
    Calls Try.prog 51 #[b4 x y u v] w fun e w' => e = .returned (.bool true) ∧ Below w.heap.size w w' := by
  have hset := cset_map
  go_enter Try.func51, Try.ntmps51
  go_wp2_with (go_at_call 38; refine (l3Place_t _ _ _ (by with_reducible assumption)).mono ?_; rintro e w1 ⟨rfl, hb1⟩; obtain ⟨hc1, hf1⟩ := bcell hb1; have hz1 := hb1.size; (try simp only [World.size_drew, World.size_alloc, World.size_setCell] at hc1 hf1 hz1); have hk1x0 := fun o => hc1 (w.heap.size) o (by omega); have hj1x0 := fun o => hf1 (w.heap.size) o (by omega); have hq1x0 : w.heap.size < w1.heap.size := (by omega); clear hc1 hf1)
  go_ret
  exact ⟨rfl, by repeat (first | with_reducible apply Below.refl | (with_reducible apply Below.setCell; rotate_left; focus (first | omega | (simp; done) | (simp; omega))) | (with_reducible apply Below.alloc; rotate_left; focus (first | omega | (simp; done) | (simp; omega))) | with_reducible apply Below.drew | with_reducible apply belowDrewN | (with_reducible apply Below.trans; rotate_left; with_reducible apply Below.mono; with_reducible assumption; focus (first | omega | (simp; done) | (simp; omega))))⟩
set_option maxHeartbeats 2000000 in
theorem l5RayOk_5 (x y u v : Int) (w : World) (h1 : inB 2560000 x y = true) (h2 : inB 2560000 u v = true) (hu : u = 0) (hv : v = 0) :
    Calls Try.prog 51 #[b4 x y u v] w fun e w' => e = .returned (.bool false) ∧ Below w.heap.size w w' := by
  have hset := cset_map
  subst hu hv
  go_enter Try.func51, Try.ntmps51
  go_wp2_with (go_at_call 38; refine (l3Place_t _ _ _ (by with_reducible assumption)).mono ?_; rintro e w1 ⟨rfl, hb1⟩; obtain ⟨hc1, hf1⟩ := bcell hb1; have hz1 := hb1.size; (try simp only [World.size_drew, World.size_alloc, World.size_setCell] at hc1 hf1 hz1); have hk1x0 := fun o => hc1 (w.heap.size) o (by omega); have hj1x0 := fun o => hf1 (w.heap.size) o (by omega); have hq1x0 : w.heap.size < w1.heap.size := (by omega); clear hc1 hf1)
  go_ret
  exact ⟨rfl, by repeat (first | with_reducible apply Below.refl | (with_reducible apply Below.setCell; rotate_left; focus (first | omega | (simp; done) | (simp; omega))) | (with_reducible apply Below.alloc; rotate_left; focus (first | omega | (simp; done) | (simp; omega))) | with_reducible apply Below.drew | with_reducible apply belowDrewN | (with_reducible apply Below.trans; rotate_left; with_reducible apply Below.mono; with_reducible assumption; focus (first | omega | (simp; done) | (simp; omega))))⟩
theorem l5RayOk_any (x y u v : Int) (w : World) : Calls Try.prog 51 #[b4 x y u v] w fun e w' => e = .returned (.bool (rayB x y u v)) ∧ Below w.heap.size w w' := by
  unfold rayB
  cases h1 : inB 2560000 x y with
  | false => exact l5RayOk_1 x y u v w h1
  | true =>
    cases h2 : inB 2560000 u v with
    | false => exact l5RayOk_2 x y u v w h1 h2
    | true =>
      by_cases q : u = 0
      · by_cases q2 : v = 0
        · rw [decide_eq_true ⟨q, q2⟩]; exact l5RayOk_5 x y u v w h1 h2 q q2
        · rw [decide_eq_false (fun k => q2 k.2)]; exact l5RayOk_4 x y u v w h1 h2 (eq_false q2)
      · rw [decide_eq_false (fun k => q k.1)]; exact l5RayOk_3 x y u v w h1 h2 (eq_false q)
theorem l5RayOk_t (x y u v : Int) (w : World) (hh : rayB x y u v = true) : Calls Try.prog 51 #[b4 x y u v] w fun e w' => e = .returned (.bool true) ∧ Below w.heap.size w w' := by
  have k := l5RayOk_any x y u v w; rw [hh] at k; exact k
theorem l5RayOk_n (x y u v : Int) (w : World) (hh : rayB x y u v = false) : Calls Try.prog 51 #[b4 x y u v] w fun e w' => e = .returned (.bool false) ∧ Below w.heap.size w w' := by
  have k := l5RayOk_any x y u v w; rw [hh] at k; exact k
end Go.Proofs.Ytgcobcmpkbcfoaa
namespace Go.Proofs.Ytgcobcmpkbcfoaa
open Go.RowKit
set_option linter.unusedVariables false
set_option linter.unusedSimpArgs false

def bxx (x u t : Int) : Int := x + (u * t).tdiv 256
theorem td256 {x B : Int} (h : -(B * 256) ≤ x ∧ x ≤ B * 256) : -B ≤ x.tdiv 256 ∧ x.tdiv 256 ≤ B := by
  have e := Int.mul_tdiv_add_tmod x 256
  have a := Int.tmod_lt_of_pos x (show (0 : Int) < 256 by decide)
  have b : -256 < x.tmod 256 := Int.lt_tmod_of_pos x (by decide)
  omega
theorem bxx_bd {x u t : Int} (hx : -2560000 ≤ x ∧ x ≤ 2560000) (hu : -2560000 ≤ u ∧ u ≤ 2560000) (ht : 0 ≤ t ∧ t ≤ 256) : -5120000 ≤ bxx x u t ∧ bxx x u t ≤ 5120000 := by
  have m := mul_bd (a := u) (b := t) (A := 2560000) (B := 256) (by omega) (by omega)
  have k := td256 (x := u * t) (B := 2560000) (by omega)
  unfold bxx; omega
def rhB (x y u v p q g t : Int) : Bool := decide ((bxx x u t - p) * (bxx x u t - p) + (bxx y v t - q) * (bxx y v t - q) ≤ g * g)
def rrF (H : Int → Bool) : Nat → Int → Int × Bool
  | 0, _ => (0, false)
  | n + 1, t => if H t = true then (t, true) else rrF H n (t + 1)
theorem rrF_t {H : Int → Bool} {n : Nat} {t F : Int} {K : Bool} (h : rrF H (n + 1) t = (F, K)) (e : H t = true) : F = t ∧ K = true := by
  unfold rrF at h; rw [if_pos e] at h; cases h; exact ⟨rfl, rfl⟩
theorem rrF_n {H : Int → Bool} {n : Nat} {t F : Int} {K : Bool} (h : rrF H (n + 1) t = (F, K)) (e : H t = false) : rrF H n (t + 1) = (F, K) := by
  unfold rrF at h; rw [if_neg (by simp [e])] at h; exact h
theorem rrF_0 {H : Int → Bool} {t F : Int} {K : Bool} (h : rrF H 0 t = (F, K)) : F = 0 ∧ K = false := by
  unfold rrF at h; cases h; exact ⟨rfl, rfl⟩

set_option maxHeartbeats 2000000 in
theorem at_q (x y u v t : Int) (A B : Int) (eA : bxx x u t = A) (eB : bxx y v t = B) (w : World) (hx : -2560000 ≤ x ∧ x ≤ 2560000) (hy : -2560000 ≤ y ∧ y ≤ 2560000) (hu : -2560000 ≤ u ∧ u ≤ 2560000) (hv : -2560000 ≤ v ∧ v ≤ 2560000) (ht : 0 ≤ t ∧ t ≤ 256) :
    Calls Try.prog 118 #[b4 x y u v, .int .i64 t] w fun e w' => e = .returned (vv A B) ∧ Below w.heap.size w w' := by
  have m1 := mul_bd (a := u) (b := t) (A := 2560000) (B := 256) (by omega) (by omega)
  have m2 := mul_bd (a := v) (b := t) (A := 2560000) (B := 256) (by omega) (by omega)
  have m3 := td256 (x := u * t) (B := 2560000) (by omega)
  have m4 := td256 (x := v * t) (B := 2560000) (by omega)
  subst eA eB
  have hset := cset_map
  go_enter Try.func118, Try.ntmps118
  go_wp2_with (go_at_call 94; refine (plus_any _ _ _ _ _ (by omega) (by omega) (by omega) (by omega)).mono ?_; rintro e w1 ⟨rfl, hb1⟩; obtain ⟨hc1, hf1⟩ := bcell hb1; have hz1 := hb1.size; (try simp only [World.size_drew, World.size_alloc, World.size_setCell] at hc1 hf1 hz1); have hk1x0 := fun o => hc1 (w.heap.size) o (by omega); have hj1x0 := fun o => hf1 (w.heap.size) o (by omega); have hq1x0 : w.heap.size < w1.heap.size := (by omega); have hk1x1 := fun o => hc1 (w.heap.size + 1) o (by omega); have hj1x1 := fun o => hf1 (w.heap.size + 1) o (by omega); have hq1x1 : w.heap.size + 1 < w1.heap.size := (by omega); clear hc1 hf1)
  exact bodyPost_ret (v := vv (bxx x u t) (bxx y v t)) (by simp [results, Try.results118, go_sem, bxx, *]) rfl ⟨rfl, by repeat (first | with_reducible apply Below.refl | (with_reducible apply Below.setCell; rotate_left; focus (first | omega | (simp; done) | (simp; omega))) | (with_reducible apply Below.alloc; rotate_left; focus (first | omega | (simp; done) | (simp; omega))) | with_reducible apply Below.drew | with_reducible apply belowDrewN | (with_reducible apply Below.trans; rotate_left; with_reducible apply Below.mono; with_reducible assumption; focus (first | omega | (simp; done) | (simp; omega))))⟩
set_option maxHeartbeats 2000000 in
theorem l5On_q (x y u v t : Int) (A B : Int) (eA : bxx x u t = A) (eB : bxx y v t = B) (w : World) (hx : -2560000 ≤ x ∧ x ≤ 2560000) (hy : -2560000 ≤ y ∧ y ≤ 2560000) (hu : -2560000 ≤ u ∧ u ≤ 2560000) (hv : -2560000 ≤ v ∧ v ≤ 2560000) (ht : 0 ≤ t ∧ t ≤ 256) :
    Calls Try.prog 96 #[b4 x y u v, .int .i64 t] w fun e w' => e = .returned (vv A B) ∧ Below w.heap.size w w' := by
  have m1 := mul_bd (a := u) (b := t) (A := 2560000) (B := 256) (by omega) (by omega)
  have m2 := mul_bd (a := v) (b := t) (A := 2560000) (B := 256) (by omega) (by omega)
  have m3 := td256 (x := u * t) (B := 2560000) (by omega)
  have m4 := td256 (x := v * t) (B := 2560000) (by omega)
  subst eA eB
  have hset := cset_map
  go_enter Try.func96, Try.ntmps96
  go_wp2_with fail
  exact bodyPost_ret (v := vv (bxx x u t) (bxx y v t)) (by simp [results, Try.results96, go_sem, bxx, *]) rfl ⟨rfl, by repeat (first | with_reducible apply Below.refl | (with_reducible apply Below.setCell; rotate_left; focus (first | omega | (simp; done) | (simp; omega))) | (with_reducible apply Below.alloc; rotate_left; focus (first | omega | (simp; done) | (simp; omega))) | with_reducible apply Below.drew | with_reducible apply belowDrewN | (with_reducible apply Below.trans; rotate_left; with_reducible apply Below.mono; with_reducible assumption; focus (first | omega | (simp; done) | (simp; omega))))⟩
theorem figureHas_q (wd x y : Int) (b : Bool) (w : World) (h1 : 1 ≤ wd) (h2 : wd ≤ 25600) (hx : -7680000 ≤ x ∧ x ≤ 7680000) (hy : -7680000 ≤ y ∧ y ≤ 7680000) (e : decide (x * x + y * y ≤ wd * wd) = b) :
    Calls Try.prog 66 #[.iface 142 (.agg #[.int .i64 wd]), vv x y] w fun e w' => e = .returned (.bool b) ∧ Below w.heap.size w w' := by
  subst e; exact figureHas_r wd x y w h1 h2 hx hy
theorem l3Has_q (wd x y u v : Int) (b : Bool) (w : World) (h1 : 1 ≤ wd) (h2 : wd ≤ 25600) (hx : -2560000 ≤ x ∧ x ≤ 2560000) (hy : -2560000 ≤ y ∧ y ≤ 2560000) (hu : -7680000 ≤ u ∧ u ≤ 7680000) (hv : -7680000 ≤ v ∧ v ≤ 7680000) (e : decide ((u - x) * (u - x) + (v - y) * (v - y) ≤ wd * wd) = b) :
    Calls Try.prog 39 #[s3 1 wd 0, vv x y, vv u v] w fun e w' => e = .returned (.bool b) ∧ Below w.heap.size w w' := by
  subst e; exact l3Has_r wd x y u v w h1 h2 hx hy hu hv

set_option maxHeartbeats 4000000 in
theorem meetsRound_q (x y u v p q g : Int) (F : Int) (K : Bool) (w : World) (hx : -2560000 ≤ x ∧ x ≤ 2560000) (hy : -2560000 ≤ y ∧ y ≤ 2560000) (hu : -2560000 ≤ u ∧ u ≤ 2560000) (hv : -2560000 ≤ v ∧ v ≤ 2560000) (hp : -2560000 ≤ p ∧ p ≤ 2560000) (hq : -2560000 ≤ q ∧ q ≤ 2560000) (h1 : 1 ≤ g) (h2 : g ≤ 25600) (eR : rrF (rhB x y u v p q g) 257 0 = (F, K)) :
    Calls Try.prog 98 #[b4 x y u v, .agg #[.int .i64 g], vv p q] w fun e w' => e = .returned (.tuple #[.int .i64 F, .bool K]) ∧ Below w.heap.size w w' := by
  have HR : Hid (rrF (rhB x y u v p q g) 257 0 = (F, K)) := eR
  clear eR
  have hset := cset_map
  go_enter Try.func98, Try.ntmps98
  go_wp2_with fail
  go_loopg [8] 257 (fun k s wx => ∃ t : Int, s = .int .i64 t ∧ t + k = 257 ∧ 0 ≤ t ∧ Hid (rrF (rhB x y u v p q g) k t = (F, K)) ∧ (wx.cell? ⟨w.heap.size, 0, none⟩ = some (.int .i64 x) ∧ wx.cell? ⟨w.heap.size, 1, none⟩ = some (.int .i64 y) ∧ wx.cell? ⟨w.heap.size, 2, none⟩ = some (.int .i64 u) ∧ wx.cell? ⟨w.heap.size, 3, none⟩ = some (.int .i64 v) ∧ wx.cell? ⟨w.heap.size + 1, 0, none⟩ = some (.int .i64 g) ∧ wx.cell? ⟨w.heap.size + 1 + 1, 0, none⟩ = some (.int .i64 p) ∧ wx.cell? ⟨w.heap.size + 1 + 1, 1, none⟩ = some (.int .i64 q)) ∧ w.heap.size + 1 + 1 < wx.heap.size ∧ Below w.heap.size w wx)
  case atStart => exact ⟨0, rfl, by omega, by omega, HR, ⟨(by go_simp), (by go_simp), (by go_simp), (by go_simp), (by go_simp), (by go_simp), (by go_simp)⟩, by simp, by repeat (first | with_reducible apply Below.refl | (with_reducible apply Below.setCell; rotate_left; focus (first | omega | (simp; done) | (simp; omega))) | (with_reducible apply Below.alloc; rotate_left; focus (first | omega | (simp; done) | (simp; omega))) | with_reducible apply Below.drew | with_reducible apply belowDrewN | (with_reducible apply Below.trans; rotate_left; with_reducible apply Below.mono; with_reducible assumption; focus (first | omega | (simp; done) | (simp; omega))))⟩
  case round =>
    obtain ⟨t, rfl, ht, ht0, HK, ⟨c0, c1, c2, c3, c4, c5, c6⟩, hsz, hbx⟩ := hrel
    clear HR
    cases gk with
    | zero =>
      obtain ⟨rfl, rfl⟩ := rrF_0 HK.out
      have ht9 : t = 257 := by omega
      subst ht9
      clear HK
      go_wp2_with fail
      go_ret2
      exact ⟨rfl, by repeat (first | with_reducible apply Below.refl | (with_reducible apply Below.setCell; rotate_left; focus (first | omega | (simp; done) | (simp; omega))) | (with_reducible apply Below.alloc; rotate_left; focus (first | omega | (simp; done) | (simp; omega))) | with_reducible apply Below.drew | with_reducible apply belowDrewN | (with_reducible apply Below.trans; rotate_left; with_reducible apply Below.mono; with_reducible assumption; focus (first | omega | (simp; done) | (simp; omega))))⟩
    | succ n =>
      have a0 := bxx_bd (x := x) (u := u) (t := t) hx hu (by omega)
      have a1 := bxx_bd (x := y) (u := v) (t := t) hy hv (by omega)
      obtain ⟨A, eA⟩ : ∃ A, bxx x u t = A := ⟨_, rfl⟩
      obtain ⟨B, eB⟩ : ∃ B, bxx y v t = B := ⟨_, rfl⟩
      have eH : rhB x y u v p q g t = decide ((A - p) * (A - p) + (B - q) * (B - q) ≤ g * g) := by unfold rhB; rw [eA, eB]
      rw [eA] at a0
      rw [eB] at a1
      have hle : t ≤ 256 := by omega
      cases hh : decide ((A - p) * (A - p) + (B - q) * (B - q) ≤ g * g) with
      | true =>
        obtain ⟨rfl, rfl⟩ := rrF_t HK.out (eH.trans hh)
        clear HK eH
        go_upto_region 4 with fail
        refine wp_region_held_drew (S := fun w' => w'.cell? ⟨w.heap.size, 0, none⟩ = some (.int .i64 x) ∧ w'.cell? ⟨w.heap.size, 1, none⟩ = some (.int .i64 y) ∧ w'.cell? ⟨w.heap.size, 2, none⟩ = some (.int .i64 u) ∧ w'.cell? ⟨w.heap.size, 3, none⟩ = some (.int .i64 v) ∧ w'.cell? ⟨w.heap.size + 1, 0, none⟩ = some (.int .i64 g) ∧ w'.cell? ⟨w.heap.size + 1 + 1, 0, none⟩ = some (.int .i64 p) ∧ w'.cell? ⟨w.heap.size + 1 + 1, 1, none⟩ = some (.int .i64 q)) (by kernel_rfl) ?_ (fun hHeld => ?_)
        · (try dsimp only)
          (first | (go_simp; done) | (go_keep; done))
        (refine wpAnyH_take (i := 0) (oi := { dst := some 13, op := Go.Op.load 142 (Go.Operand.tmp 4), type := 142, pos := "l5_touch.go:192", after := #[], guard := none }) (v := ?_) rfl (by kernel_rfl) (by kernel_rfl) (by kernel_rfl) (fun _ _ _ h => h) (Or.inl ⟨by rfl, ?_⟩) hHeld ?_; rotate_left; (focus ((intro w hSw; (try dsimp only at hSw); go_simp); (try with_reducible rfl); done)); (try simp only [Act.put, List.setIfInBounds_toArray, List.set_cons_zero, List.set_cons_succ]))
        (refine wpAnyH_take (i := 1) (oi := { dst := some 14, op := Go.Op.makeInterface 142 (Go.Operand.tmp 13), type := 106, pos := "l5_touch.go:192", after := #[{ on := 0, ground := Go.Ground.data }], guard := none }) (v := ?_) rfl (by kernel_rfl) (by kernel_rfl) (by kernel_rfl) (fun _ _ _ h => h) (Or.inl ⟨by rfl, ?_⟩) hHeld ?_; rotate_left; (focus ((intro w hSw; (try dsimp only at hSw); go_simp); (try with_reducible rfl); done)); (try simp only [Act.put, List.setIfInBounds_toArray, List.set_cons_zero, List.set_cons_succ]))
        (refine wpAnyH_take (i := 2) (oi := { dst := some 15, op := Go.Op.load 125 (Go.Operand.tmp 3), type := 125, pos := "l5_touch.go:192", after := #[], guard := none }) (v := ?_) rfl (by kernel_rfl) (by kernel_rfl) (by kernel_rfl) (fun _ _ _ h => h) (Or.inl ⟨by rfl, ?_⟩) hHeld ?_; rotate_left; (focus ((intro w hSw; (try dsimp only at hSw); go_simp); (try with_reducible rfl); done)); (try simp only [Act.put, List.setIfInBounds_toArray, List.set_cons_zero, List.set_cons_succ]))
        (refine wpAnyH_take (i := 3) (oi := { dst := some 16, op := Go.Op.move (Go.Operand.tmp 8), type := 71, pos := "l5_touch.go:192", after := #[], guard := none }) (v := ?_) rfl (by kernel_rfl) (by kernel_rfl) (by kernel_rfl) (fun _ _ _ h => h) (Or.inl ⟨by rfl, ?_⟩) hHeld ?_; rotate_left; (focus ((intro w hSw; (try dsimp only at hSw); go_simp); (try with_reducible rfl); done)); (try simp only [Act.put, List.setIfInBounds_toArray, List.set_cons_zero, List.set_cons_succ]))
        (refine wpAnyH_take (i := 5) (oi := { dst := some 18, op := Go.Op.load 111 (Go.Operand.tmp 5), type := 111, pos := "l5_touch.go:192", after := #[], guard := none }) (v := ?_) rfl (by kernel_rfl) (by kernel_rfl) (by kernel_rfl) (fun _ _ _ h => h) (Or.inl ⟨by rfl, ?_⟩) hHeld ?_; rotate_left; (focus ((intro w hSw; (try dsimp only at hSw); go_simp); (try with_reducible rfl); done)); (try simp only [Act.put, List.setIfInBounds_toArray, List.set_cons_zero, List.set_cons_succ]))
        (refine wpAnyH_ready (rs := [4]) (by kernel_rfl) (by simp) ?_; refine AllReadyH.cons (o := { dst := some 17, op := Go.Op.call { callee := Go.Callee.value (Go.Operand.func 118), args := #[Go.Operand.tmp 15, Go.Operand.tmp 16], argTypes := #[125, 71] }, type := 111, pos := "l5_touch.go:192", after := #[{ on := 2, ground := Go.Ground.data }, { on := 3, ground := Go.Ground.data }], guard := none }) rfl (fun K hK => ?_) AllReadyH.nil; go_simp; (go_at_call 118; refine (at_q _ _ _ _ _ _ _ (by with_reducible assumption) (by with_reducible assumption) _ (by omega) (by omega) (by omega) (by omega) (by omega)).mono ?_; rintro e w1 ⟨rfl, hb1⟩; obtain ⟨hc1, hf1⟩ := bcell hb1; have hz1 := hb1.size; (try simp only [World.size_drew, World.size_alloc, World.size_setCell] at hc1 hf1 hz1); have hk1x0 := fun o => hc1 (w.heap.size) o (by omega); have hj1x0 := fun o => hf1 (w.heap.size) o (by omega); have hq1x0 : w.heap.size < w1.heap.size := (by omega); have hk1x1 := fun o => hc1 (w.heap.size + 1) o (by omega); have hj1x1 := fun o => hf1 (w.heap.size + 1) o (by omega); have hq1x1 : w.heap.size + 1 < w1.heap.size := (by omega); have hk1x2 := fun o => hc1 (w.heap.size + 1 + 1) o (by omega); have hj1x2 := fun o => hf1 (w.heap.size + 1 + 1) o (by omega); have hq1x2 : w.heap.size + 1 + 1 < w1.heap.size := (by omega); clear hc1 hf1); (try go_wp2_with fail); refine hK.out _ _ ?_ (fun hHeld => ?_); (focus ((try dsimp only); (first | (go_simp; done) | (go_keep; done)))); clear hK K; (try simp only [Act.put, List.setIfInBounds_toArray, List.set_cons_zero, List.set_cons_succ]))
        (refine wpAnyH_ready (rs := [6]) (by kernel_rfl) (by simp) ?_; refine AllReadyH.cons (o := { dst := some 19, op := Go.Op.call { callee := Go.Callee.value (Go.Operand.func 68), args := #[Go.Operand.tmp 17, Go.Operand.tmp 18], argTypes := #[111, 111] }, type := 111, pos := "l5_touch.go:192", after := #[{ on := 4, ground := Go.Ground.data }, { on := 5, ground := Go.Ground.data }, { on := 4, ground := Go.Ground.chain }], guard := none }) rfl (fun K hK => ?_) AllReadyH.nil; go_simp; (go_at_call 68; refine (less_any _ _ _ _ _ (by omega) (by omega) (by omega) (by omega)).mono ?_; rintro e w2 ⟨rfl, hb2⟩; obtain ⟨hc2, hf2⟩ := bcell hb2; have hz2 := hb2.size; (try simp only [World.size_drew, World.size_alloc, World.size_setCell] at hc2 hf2 hz2); have hk2x0 := fun o => hc2 (w.heap.size) o (by omega); have hj2x0 := fun o => hf2 (w.heap.size) o (by omega); have hq2x0 : w.heap.size < w2.heap.size := (by omega); have hk2x1 := fun o => hc2 (w.heap.size + 1) o (by omega); have hj2x1 := fun o => hf2 (w.heap.size + 1) o (by omega); have hq2x1 : w.heap.size + 1 < w2.heap.size := (by omega); have hk2x2 := fun o => hc2 (w.heap.size + 1 + 1) o (by omega); have hj2x2 := fun o => hf2 (w.heap.size + 1 + 1) o (by omega); have hq2x2 : w.heap.size + 1 + 1 < w2.heap.size := (by omega); clear hc2 hf2); (try go_wp2_with fail); refine hK.out _ _ ?_ (fun hHeld => ?_); (focus ((try dsimp only); (first | (go_simp; done) | (go_keep; done)))); clear hK K; (try simp only [Act.put, List.setIfInBounds_toArray, List.set_cons_zero, List.set_cons_succ]))
        (refine wpAnyH_ready (rs := [7]) (by kernel_rfl) (by simp) ?_; refine AllReadyH.cons (o := { dst := some 20, op := Go.Op.call { callee := Go.Callee.value (Go.Operand.func 66), args := #[Go.Operand.tmp 14, Go.Operand.tmp 19], argTypes := #[106, 111] }, type := 4, pos := "l5_touch.go:192", after := #[{ on := 1, ground := Go.Ground.data }, { on := 6, ground := Go.Ground.data }, { on := 6, ground := Go.Ground.chain }], guard := none }) rfl (fun K hK => ?_) AllReadyH.nil; go_simp; (go_at_call 66; refine (figureHas_q _ _ _ _ _ (by omega) (by omega) (by omega) (by omega) (by with_reducible assumption)).mono ?_; rintro e w3 ⟨rfl, hb3⟩; obtain ⟨hc3, hf3⟩ := bcell hb3; have hz3 := hb3.size; (try simp only [World.size_drew, World.size_alloc, World.size_setCell] at hc3 hf3 hz3); have hk3x0 := fun o => hc3 (w.heap.size) o (by omega); have hj3x0 := fun o => hf3 (w.heap.size) o (by omega); have hq3x0 : w.heap.size < w3.heap.size := (by omega); have hk3x1 := fun o => hc3 (w.heap.size + 1) o (by omega); have hj3x1 := fun o => hf3 (w.heap.size + 1) o (by omega); have hq3x1 : w.heap.size + 1 < w3.heap.size := (by omega); have hk3x2 := fun o => hc3 (w.heap.size + 1 + 1) o (by omega); have hj3x2 := fun o => hf3 (w.heap.size + 1 + 1) o (by omega); have hq3x2 : w.heap.size + 1 + 1 < w3.heap.size := (by omega); clear hc3 hf3); (try go_wp2_with fail); refine hK.out _ _ ?_ (fun hHeld => ?_); (focus ((try dsimp only); (first | (go_simp; done) | (go_keep; done)))); clear hK K; (try simp only [Act.put, List.setIfInBounds_toArray, List.set_cons_zero, List.set_cons_succ]))
        refine wpAnyH_done (by kernel_rfl) ?_ _
        go_wp2_with fail
        go_ret2
        exact ⟨rfl, by repeat (first | with_reducible apply Below.refl | (with_reducible apply Below.setCell; rotate_left; focus (first | omega | (simp; done) | (simp; omega))) | (with_reducible apply Below.alloc; rotate_left; focus (first | omega | (simp; done) | (simp; omega))) | with_reducible apply Below.drew | with_reducible apply belowDrewN | (with_reducible apply Below.trans; rotate_left; with_reducible apply Below.mono; with_reducible assumption; focus (first | omega | (simp; done) | (simp; omega))))⟩
      | false =>
        have HN : Hid (rrF (rhB x y u v p q g) n (t + 1) = (F, K)) := rrF_n HK.out (eH.trans hh)
        clear HK eH
        go_upto_region 4 with fail
        refine wp_region_held_drew (S := fun w' => w'.cell? ⟨w.heap.size, 0, none⟩ = some (.int .i64 x) ∧ w'.cell? ⟨w.heap.size, 1, none⟩ = some (.int .i64 y) ∧ w'.cell? ⟨w.heap.size, 2, none⟩ = some (.int .i64 u) ∧ w'.cell? ⟨w.heap.size, 3, none⟩ = some (.int .i64 v) ∧ w'.cell? ⟨w.heap.size + 1, 0, none⟩ = some (.int .i64 g) ∧ w'.cell? ⟨w.heap.size + 1 + 1, 0, none⟩ = some (.int .i64 p) ∧ w'.cell? ⟨w.heap.size + 1 + 1, 1, none⟩ = some (.int .i64 q)) (by kernel_rfl) ?_ (fun hHeld => ?_)
        · (try dsimp only)
          (first | (go_simp; done) | (go_keep; done))
        (refine wpAnyH_take (i := 0) (oi := { dst := some 13, op := Go.Op.load 142 (Go.Operand.tmp 4), type := 142, pos := "l5_touch.go:192", after := #[], guard := none }) (v := ?_) rfl (by kernel_rfl) (by kernel_rfl) (by kernel_rfl) (fun _ _ _ h => h) (Or.inl ⟨by rfl, ?_⟩) hHeld ?_; rotate_left; (focus ((intro w hSw; (try dsimp only at hSw); go_simp); (try with_reducible rfl); done)); (try simp only [Act.put, List.setIfInBounds_toArray, List.set_cons_zero, List.set_cons_succ]))
        (refine wpAnyH_take (i := 1) (oi := { dst := some 14, op := Go.Op.makeInterface 142 (Go.Operand.tmp 13), type := 106, pos := "l5_touch.go:192", after := #[{ on := 0, ground := Go.Ground.data }], guard := none }) (v := ?_) rfl (by kernel_rfl) (by kernel_rfl) (by kernel_rfl) (fun _ _ _ h => h) (Or.inl ⟨by rfl, ?_⟩) hHeld ?_; rotate_left; (focus ((intro w hSw; (try dsimp only at hSw); go_simp); (try with_reducible rfl); done)); (try simp only [Act.put, List.setIfInBounds_toArray, List.set_cons_zero, List.set_cons_succ]))
        (refine wpAnyH_take (i := 2) (oi := { dst := some 15, op := Go.Op.load 125 (Go.Operand.tmp 3), type := 125, pos := "l5_touch.go:192", after := #[], guard := none }) (v := ?_) rfl (by kernel_rfl) (by kernel_rfl) (by kernel_rfl) (fun _ _ _ h => h) (Or.inl ⟨by rfl, ?_⟩) hHeld ?_; rotate_left; (focus ((intro w hSw; (try dsimp only at hSw); go_simp); (try with_reducible rfl); done)); (try simp only [Act.put, List.setIfInBounds_toArray, List.set_cons_zero, List.set_cons_succ]))
        (refine wpAnyH_take (i := 3) (oi := { dst := some 16, op := Go.Op.move (Go.Operand.tmp 8), type := 71, pos := "l5_touch.go:192", after := #[], guard := none }) (v := ?_) rfl (by kernel_rfl) (by kernel_rfl) (by kernel_rfl) (fun _ _ _ h => h) (Or.inl ⟨by rfl, ?_⟩) hHeld ?_; rotate_left; (focus ((intro w hSw; (try dsimp only at hSw); go_simp); (try with_reducible rfl); done)); (try simp only [Act.put, List.setIfInBounds_toArray, List.set_cons_zero, List.set_cons_succ]))
        (refine wpAnyH_take (i := 5) (oi := { dst := some 18, op := Go.Op.load 111 (Go.Operand.tmp 5), type := 111, pos := "l5_touch.go:192", after := #[], guard := none }) (v := ?_) rfl (by kernel_rfl) (by kernel_rfl) (by kernel_rfl) (fun _ _ _ h => h) (Or.inl ⟨by rfl, ?_⟩) hHeld ?_; rotate_left; (focus ((intro w hSw; (try dsimp only at hSw); go_simp); (try with_reducible rfl); done)); (try simp only [Act.put, List.setIfInBounds_toArray, List.set_cons_zero, List.set_cons_succ]))
        (refine wpAnyH_ready (rs := [4]) (by kernel_rfl) (by simp) ?_; refine AllReadyH.cons (o := { dst := some 17, op := Go.Op.call { callee := Go.Callee.value (Go.Operand.func 118), args := #[Go.Operand.tmp 15, Go.Operand.tmp 16], argTypes := #[125, 71] }, type := 111, pos := "l5_touch.go:192", after := #[{ on := 2, ground := Go.Ground.data }, { on := 3, ground := Go.Ground.data }], guard := none }) rfl (fun K hK => ?_) AllReadyH.nil; go_simp; (go_at_call 118; refine (at_q _ _ _ _ _ _ _ (by with_reducible assumption) (by with_reducible assumption) _ (by omega) (by omega) (by omega) (by omega) (by omega)).mono ?_; rintro e w1 ⟨rfl, hb1⟩; obtain ⟨hc1, hf1⟩ := bcell hb1; have hz1 := hb1.size; (try simp only [World.size_drew, World.size_alloc, World.size_setCell] at hc1 hf1 hz1); have hk1x0 := fun o => hc1 (w.heap.size) o (by omega); have hj1x0 := fun o => hf1 (w.heap.size) o (by omega); have hq1x0 : w.heap.size < w1.heap.size := (by omega); have hk1x1 := fun o => hc1 (w.heap.size + 1) o (by omega); have hj1x1 := fun o => hf1 (w.heap.size + 1) o (by omega); have hq1x1 : w.heap.size + 1 < w1.heap.size := (by omega); have hk1x2 := fun o => hc1 (w.heap.size + 1 + 1) o (by omega); have hj1x2 := fun o => hf1 (w.heap.size + 1 + 1) o (by omega); have hq1x2 : w.heap.size + 1 + 1 < w1.heap.size := (by omega); clear hc1 hf1); (try go_wp2_with fail); refine hK.out _ _ ?_ (fun hHeld => ?_); (focus ((try dsimp only); (first | (go_simp; done) | (go_keep; done)))); clear hK K; (try simp only [Act.put, List.setIfInBounds_toArray, List.set_cons_zero, List.set_cons_succ]))
        (refine wpAnyH_ready (rs := [6]) (by kernel_rfl) (by simp) ?_; refine AllReadyH.cons (o := { dst := some 19, op := Go.Op.call { callee := Go.Callee.value (Go.Operand.func 68), args := #[Go.Operand.tmp 17, Go.Operand.tmp 18], argTypes := #[111, 111] }, type := 111, pos := "l5_touch.go:192", after := #[{ on := 4, ground := Go.Ground.data }, { on := 5, ground := Go.Ground.data }, { on := 4, ground := Go.Ground.chain }], guard := none }) rfl (fun K hK => ?_) AllReadyH.nil; go_simp; (go_at_call 68; refine (less_any _ _ _ _ _ (by omega) (by omega) (by omega) (by omega)).mono ?_; rintro e w2 ⟨rfl, hb2⟩; obtain ⟨hc2, hf2⟩ := bcell hb2; have hz2 := hb2.size; (try simp only [World.size_drew, World.size_alloc, World.size_setCell] at hc2 hf2 hz2); have hk2x0 := fun o => hc2 (w.heap.size) o (by omega); have hj2x0 := fun o => hf2 (w.heap.size) o (by omega); have hq2x0 : w.heap.size < w2.heap.size := (by omega); have hk2x1 := fun o => hc2 (w.heap.size + 1) o (by omega); have hj2x1 := fun o => hf2 (w.heap.size + 1) o (by omega); have hq2x1 : w.heap.size + 1 < w2.heap.size := (by omega); have hk2x2 := fun o => hc2 (w.heap.size + 1 + 1) o (by omega); have hj2x2 := fun o => hf2 (w.heap.size + 1 + 1) o (by omega); have hq2x2 : w.heap.size + 1 + 1 < w2.heap.size := (by omega); clear hc2 hf2); (try go_wp2_with fail); refine hK.out _ _ ?_ (fun hHeld => ?_); (focus ((try dsimp only); (first | (go_simp; done) | (go_keep; done)))); clear hK K; (try simp only [Act.put, List.setIfInBounds_toArray, List.set_cons_zero, List.set_cons_succ]))
        (refine wpAnyH_ready (rs := [7]) (by kernel_rfl) (by simp) ?_; refine AllReadyH.cons (o := { dst := some 20, op := Go.Op.call { callee := Go.Callee.value (Go.Operand.func 66), args := #[Go.Operand.tmp 14, Go.Operand.tmp 19], argTypes := #[106, 111] }, type := 4, pos := "l5_touch.go:192", after := #[{ on := 1, ground := Go.Ground.data }, { on := 6, ground := Go.Ground.data }, { on := 6, ground := Go.Ground.chain }], guard := none }) rfl (fun K hK => ?_) AllReadyH.nil; go_simp; (go_at_call 66; refine (figureHas_q _ _ _ _ _ (by omega) (by omega) (by omega) (by omega) (by with_reducible assumption)).mono ?_; rintro e w3 ⟨rfl, hb3⟩; obtain ⟨hc3, hf3⟩ := bcell hb3; have hz3 := hb3.size; (try simp only [World.size_drew, World.size_alloc, World.size_setCell] at hc3 hf3 hz3); have hk3x0 := fun o => hc3 (w.heap.size) o (by omega); have hj3x0 := fun o => hf3 (w.heap.size) o (by omega); have hq3x0 : w.heap.size < w3.heap.size := (by omega); have hk3x1 := fun o => hc3 (w.heap.size + 1) o (by omega); have hj3x1 := fun o => hf3 (w.heap.size + 1) o (by omega); have hq3x1 : w.heap.size + 1 < w3.heap.size := (by omega); have hk3x2 := fun o => hc3 (w.heap.size + 1 + 1) o (by omega); have hj3x2 := fun o => hf3 (w.heap.size + 1 + 1) o (by omega); have hq3x2 : w.heap.size + 1 + 1 < w3.heap.size := (by omega); clear hc3 hf3); (try go_wp2_with fail); refine hK.out _ _ ?_ (fun hHeld => ?_); (focus ((try dsimp only); (first | (go_simp; done) | (go_keep; done)))); clear hK K; (try simp only [Act.put, List.setIfInBounds_toArray, List.set_cons_zero, List.set_cons_succ]))
        refine wpAnyH_done (by kernel_rfl) ?_ _
        go_wp2_with fail
        go_roundg n
        case measure => omega
        case rel => exact ⟨t + 1, rfl, by omega, by omega, HN, ⟨(by go_simp), (by go_simp), (by go_simp), (by go_simp), (by go_simp), (by go_simp), (by go_simp)⟩, by first | omega | (simp; omega), by repeat (first | with_reducible apply Below.refl | (with_reducible apply Below.setCell; rotate_left; focus (first | omega | (simp; done) | (simp; omega))) | (with_reducible apply Below.alloc; rotate_left; focus (first | omega | (simp; done) | (simp; omega))) | with_reducible apply Below.drew | with_reducible apply belowDrewN | (with_reducible apply Below.trans; rotate_left; with_reducible apply Below.mono; with_reducible assumption; focus (first | omega | (simp; done) | (simp; omega))))⟩

set_option maxHeartbeats 4000000 in
theorem l5RayRound_q (x y u v p q g : Int) (F : Int) (K : Bool) (w : World) (hx : -2560000 ≤ x ∧ x ≤ 2560000) (hy : -2560000 ≤ y ∧ y ≤ 2560000) (hu : -2560000 ≤ u ∧ u ≤ 2560000) (hv : -2560000 ≤ v ∧ v ≤ 2560000) (hp : -2560000 ≤ p ∧ p ≤ 2560000) (hq : -2560000 ≤ q ∧ q ≤ 2560000) (h1 : 1 ≤ g) (h2 : g ≤ 25600) (eR : rrF (rhB x y u v p q g) 257 0 = (F, K)) :
    Calls Try.prog 76 #[b4 x y u v, vv p q, .int .i64 g] w fun e w' => e = .returned (.tuple #[.int .i64 F, .bool K]) ∧ Below w.heap.size w w' := by
  have HR : Hid (rrF (rhB x y u v p q g) 257 0 = (F, K)) := eR
  clear eR
  have hset := cset_map
  go_enter Try.func76, Try.ntmps76
  go_wp2_with fail
  go_loopg [8] 257 (fun k s wx => ∃ t : Int, s = .int .i64 t ∧ t + k = 257 ∧ 0 ≤ t ∧ Hid (rrF (rhB x y u v p q g) k t = (F, K)) ∧ (wx.cell? ⟨w.heap.size, 0, none⟩ = some (.int .i64 x) ∧ wx.cell? ⟨w.heap.size, 1, none⟩ = some (.int .i64 y) ∧ wx.cell? ⟨w.heap.size, 2, none⟩ = some (.int .i64 u) ∧ wx.cell? ⟨w.heap.size, 3, none⟩ = some (.int .i64 v) ∧ wx.cell? ⟨w.heap.size + 1, 0, none⟩ = some (.int .i64 p) ∧ wx.cell? ⟨w.heap.size + 1, 1, none⟩ = some (.int .i64 q)) ∧ w.heap.size + 1 < wx.heap.size ∧ Below w.heap.size w wx)
  case atStart => exact ⟨0, rfl, by omega, by omega, HR, ⟨(by go_simp), (by go_simp), (by go_simp), (by go_simp), (by go_simp), (by go_simp)⟩, by simp, by repeat (first | with_reducible apply Below.refl | (with_reducible apply Below.setCell; rotate_left; focus (first | omega | (simp; done) | (simp; omega))) | (with_reducible apply Below.alloc; rotate_left; focus (first | omega | (simp; done) | (simp; omega))) | with_reducible apply Below.drew | with_reducible apply belowDrewN | (with_reducible apply Below.trans; rotate_left; with_reducible apply Below.mono; with_reducible assumption; focus (first | omega | (simp; done) | (simp; omega))))⟩
  case round =>
    obtain ⟨t, rfl, ht, ht0, HK, ⟨c0, c1, c2, c3, c4, c5⟩, hsz, hbx⟩ := hrel
    clear HR
    cases gk with
    | zero =>
      obtain ⟨rfl, rfl⟩ := rrF_0 HK.out
      have ht9 : t = 257 := by omega
      subst ht9
      clear HK
      go_wp2_with fail
      go_ret2
      exact ⟨rfl, by repeat (first | with_reducible apply Below.refl | (with_reducible apply Below.setCell; rotate_left; focus (first | omega | (simp; done) | (simp; omega))) | (with_reducible apply Below.alloc; rotate_left; focus (first | omega | (simp; done) | (simp; omega))) | with_reducible apply Below.drew | with_reducible apply belowDrewN | (with_reducible apply Below.trans; rotate_left; with_reducible apply Below.mono; with_reducible assumption; focus (first | omega | (simp; done) | (simp; omega))))⟩
    | succ n =>
      have a0 := bxx_bd (x := x) (u := u) (t := t) hx hu (by omega)
      have a1 := bxx_bd (x := y) (u := v) (t := t) hy hv (by omega)
      obtain ⟨A, eA⟩ : ∃ A, bxx x u t = A := ⟨_, rfl⟩
      obtain ⟨B, eB⟩ : ∃ B, bxx y v t = B := ⟨_, rfl⟩
      have eH : rhB x y u v p q g t = decide ((A - p) * (A - p) + (B - q) * (B - q) ≤ g * g) := by unfold rhB; rw [eA, eB]
      rw [eA] at a0
      rw [eB] at a1
      have hle : t ≤ 256 := by omega
      cases hh : decide ((A - p) * (A - p) + (B - q) * (B - q) ≤ g * g) with
      | true =>
        obtain ⟨rfl, rfl⟩ := rrF_t HK.out (eH.trans hh)
        clear HK eH
        go_upto_region 4 with fail
        refine wp_region_held_drew (S := fun w' => w'.cell? ⟨w.heap.size, 0, none⟩ = some (.int .i64 x) ∧ w'.cell? ⟨w.heap.size, 1, none⟩ = some (.int .i64 y) ∧ w'.cell? ⟨w.heap.size, 2, none⟩ = some (.int .i64 u) ∧ w'.cell? ⟨w.heap.size, 3, none⟩ = some (.int .i64 v) ∧ w'.cell? ⟨w.heap.size + 1, 0, none⟩ = some (.int .i64 p) ∧ w'.cell? ⟨w.heap.size + 1, 1, none⟩ = some (.int .i64 q)) (by kernel_rfl) ?_ (fun hHeld => ?_)
        · (try dsimp only)
          (first | (go_simp; done) | (go_keep; done))
        (refine wpAnyH_take (i := 0) (oi := { dst := some 13, op := Go.Op.move (Go.Operand.tmp 2), type := 3, pos := "l5_touch.go:133", after := #[], guard := none }) (v := ?_) rfl (by kernel_rfl) (by kernel_rfl) (by kernel_rfl) (fun _ _ _ h => h) (Or.inl ⟨by rfl, ?_⟩) hHeld ?_; rotate_left; (focus ((intro w hSw; (try dsimp only at hSw); go_simp); (try with_reducible rfl); done)); (try simp only [Act.put, List.setIfInBounds_toArray, List.set_cons_zero, List.set_cons_succ]))
        (refine wpAnyH_take (i := 1) (oi := { dst := some 14, op := Go.Op.build 79 #[(0, Go.Operand.const (Go.Value.int Go.IntKind.i64 1)), (1, Go.Operand.tmp 13)], type := 79, pos := "l5_touch.go:133", after := #[{ on := 0, ground := Go.Ground.data }], guard := none }) (v := ?_) rfl (by kernel_rfl) (by kernel_rfl) (by kernel_rfl) (fun _ _ _ h => h) (Or.inl ⟨by rfl, ?_⟩) hHeld ?_; rotate_left; (focus ((intro w hSw; (try dsimp only at hSw); go_simp); (try with_reducible rfl); done)); (try simp only [Act.put, List.setIfInBounds_toArray, List.set_cons_zero, List.set_cons_succ]))
        (refine wpAnyH_take (i := 2) (oi := { dst := some 15, op := Go.Op.load 39 (Go.Operand.tmp 4), type := 39, pos := "l5_touch.go:133", after := #[], guard := none }) (v := ?_) rfl (by kernel_rfl) (by kernel_rfl) (by kernel_rfl) (fun _ _ _ h => h) (Or.inl ⟨by rfl, ?_⟩) hHeld ?_; rotate_left; (focus ((intro w hSw; (try dsimp only at hSw); go_simp); (try with_reducible rfl); done)); (try simp only [Act.put, List.setIfInBounds_toArray, List.set_cons_zero, List.set_cons_succ]))
        (refine wpAnyH_take (i := 3) (oi := { dst := some 16, op := Go.Op.load 57 (Go.Operand.tmp 3), type := 57, pos := "l5_touch.go:133", after := #[], guard := none }) (v := ?_) rfl (by kernel_rfl) (by kernel_rfl) (by kernel_rfl) (fun _ _ _ h => h) (Or.inl ⟨by rfl, ?_⟩) hHeld ?_; rotate_left; (focus ((intro w hSw; (try dsimp only at hSw); go_simp); (try with_reducible rfl); done)); (try simp only [Act.put, List.setIfInBounds_toArray, List.set_cons_zero, List.set_cons_succ]))
        (refine wpAnyH_take (i := 4) (oi := { dst := some 17, op := Go.Op.move (Go.Operand.tmp 8), type := 3, pos := "l5_touch.go:133", after := #[], guard := none }) (v := ?_) rfl (by kernel_rfl) (by kernel_rfl) (by kernel_rfl) (fun _ _ _ h => h) (Or.inl ⟨by rfl, ?_⟩) hHeld ?_; rotate_left; (focus ((intro w hSw; (try dsimp only at hSw); go_simp); (try with_reducible rfl); done)); (try simp only [Act.put, List.setIfInBounds_toArray, List.set_cons_zero, List.set_cons_succ]))
        (refine wpAnyH_ready (rs := [5]) (by kernel_rfl) (by simp) ?_; refine AllReadyH.cons (o := { dst := some 18, op := Go.Op.call { callee := Go.Callee.value (Go.Operand.func 96), args := #[Go.Operand.tmp 16, Go.Operand.tmp 17], argTypes := #[57, 3] }, type := 39, pos := "l5_touch.go:133", after := #[{ on := 3, ground := Go.Ground.data }, { on := 4, ground := Go.Ground.data }], guard := none }) rfl (fun K hK => ?_) AllReadyH.nil; go_simp; (go_at_call 96; refine (l5On_q _ _ _ _ _ _ _ (by with_reducible assumption) (by with_reducible assumption) _ (by omega) (by omega) (by omega) (by omega) (by omega)).mono ?_; rintro e w1 ⟨rfl, hb1⟩; obtain ⟨hc1, hf1⟩ := bcell hb1; have hz1 := hb1.size; (try simp only [World.size_drew, World.size_alloc, World.size_setCell] at hc1 hf1 hz1); have hk1x0 := fun o => hc1 (w.heap.size) o (by omega); have hj1x0 := fun o => hf1 (w.heap.size) o (by omega); have hq1x0 : w.heap.size < w1.heap.size := (by omega); have hk1x1 := fun o => hc1 (w.heap.size + 1) o (by omega); have hj1x1 := fun o => hf1 (w.heap.size + 1) o (by omega); have hq1x1 : w.heap.size + 1 < w1.heap.size := (by omega); clear hc1 hf1); (try go_wp2_with fail); refine hK.out _ _ ?_ (fun hHeld => ?_); (focus ((try dsimp only); (first | (go_simp; done) | (go_keep; done)))); clear hK K; (try simp only [Act.put, List.setIfInBounds_toArray, List.set_cons_zero, List.set_cons_succ]))
        (refine wpAnyH_ready (rs := [6]) (by kernel_rfl) (by simp) ?_; refine AllReadyH.cons (o := { dst := some 19, op := Go.Op.call { callee := Go.Callee.value (Go.Operand.func 39), args := #[Go.Operand.tmp 14, Go.Operand.tmp 15, Go.Operand.tmp 18], argTypes := #[79, 39, 39] }, type := 4, pos := "l5_touch.go:133", after := #[{ on := 1, ground := Go.Ground.data }, { on := 2, ground := Go.Ground.data }, { on := 5, ground := Go.Ground.data }, { on := 5, ground := Go.Ground.chain }], guard := none }) rfl (fun K hK => ?_) AllReadyH.nil; go_simp; (go_at_call 39; refine (l3Has_q _ _ _ _ _ _ _ (by omega) (by omega) (by omega) (by omega) (by omega) (by omega) (by with_reducible assumption)).mono ?_; rintro e w2 ⟨rfl, hb2⟩; obtain ⟨hc2, hf2⟩ := bcell hb2; have hz2 := hb2.size; (try simp only [World.size_drew, World.size_alloc, World.size_setCell] at hc2 hf2 hz2); have hk2x0 := fun o => hc2 (w.heap.size) o (by omega); have hj2x0 := fun o => hf2 (w.heap.size) o (by omega); have hq2x0 : w.heap.size < w2.heap.size := (by omega); have hk2x1 := fun o => hc2 (w.heap.size + 1) o (by omega); have hj2x1 := fun o => hf2 (w.heap.size + 1) o (by omega); have hq2x1 : w.heap.size + 1 < w2.heap.size := (by omega); clear hc2 hf2); (try go_wp2_with fail); refine hK.out _ _ ?_ (fun hHeld => ?_); (focus ((try dsimp only); (first | (go_simp; done) | (go_keep; done)))); clear hK K; (try simp only [Act.put, List.setIfInBounds_toArray, List.set_cons_zero, List.set_cons_succ]))
        refine wpAnyH_done (by kernel_rfl) ?_ _
        go_wp2_with fail
        go_ret2
        exact ⟨rfl, by repeat (first | with_reducible apply Below.refl | (with_reducible apply Below.setCell; rotate_left; focus (first | omega | (simp; done) | (simp; omega))) | (with_reducible apply Below.alloc; rotate_left; focus (first | omega | (simp; done) | (simp; omega))) | with_reducible apply Below.drew | with_reducible apply belowDrewN | (with_reducible apply Below.trans; rotate_left; with_reducible apply Below.mono; with_reducible assumption; focus (first | omega | (simp; done) | (simp; omega))))⟩
      | false =>
        have HN : Hid (rrF (rhB x y u v p q g) n (t + 1) = (F, K)) := rrF_n HK.out (eH.trans hh)
        clear HK eH
        go_upto_region 4 with fail
        refine wp_region_held_drew (S := fun w' => w'.cell? ⟨w.heap.size, 0, none⟩ = some (.int .i64 x) ∧ w'.cell? ⟨w.heap.size, 1, none⟩ = some (.int .i64 y) ∧ w'.cell? ⟨w.heap.size, 2, none⟩ = some (.int .i64 u) ∧ w'.cell? ⟨w.heap.size, 3, none⟩ = some (.int .i64 v) ∧ w'.cell? ⟨w.heap.size + 1, 0, none⟩ = some (.int .i64 p) ∧ w'.cell? ⟨w.heap.size + 1, 1, none⟩ = some (.int .i64 q)) (by kernel_rfl) ?_ (fun hHeld => ?_)
        · (try dsimp only)
          (first | (go_simp; done) | (go_keep; done))
        (refine wpAnyH_take (i := 0) (oi := { dst := some 13, op := Go.Op.move (Go.Operand.tmp 2), type := 3, pos := "l5_touch.go:133", after := #[], guard := none }) (v := ?_) rfl (by kernel_rfl) (by kernel_rfl) (by kernel_rfl) (fun _ _ _ h => h) (Or.inl ⟨by rfl, ?_⟩) hHeld ?_; rotate_left; (focus ((intro w hSw; (try dsimp only at hSw); go_simp); (try with_reducible rfl); done)); (try simp only [Act.put, List.setIfInBounds_toArray, List.set_cons_zero, List.set_cons_succ]))
        (refine wpAnyH_take (i := 1) (oi := { dst := some 14, op := Go.Op.build 79 #[(0, Go.Operand.const (Go.Value.int Go.IntKind.i64 1)), (1, Go.Operand.tmp 13)], type := 79, pos := "l5_touch.go:133", after := #[{ on := 0, ground := Go.Ground.data }], guard := none }) (v := ?_) rfl (by kernel_rfl) (by kernel_rfl) (by kernel_rfl) (fun _ _ _ h => h) (Or.inl ⟨by rfl, ?_⟩) hHeld ?_; rotate_left; (focus ((intro w hSw; (try dsimp only at hSw); go_simp); (try with_reducible rfl); done)); (try simp only [Act.put, List.setIfInBounds_toArray, List.set_cons_zero, List.set_cons_succ]))
        (refine wpAnyH_take (i := 2) (oi := { dst := some 15, op := Go.Op.load 39 (Go.Operand.tmp 4), type := 39, pos := "l5_touch.go:133", after := #[], guard := none }) (v := ?_) rfl (by kernel_rfl) (by kernel_rfl) (by kernel_rfl) (fun _ _ _ h => h) (Or.inl ⟨by rfl, ?_⟩) hHeld ?_; rotate_left; (focus ((intro w hSw; (try dsimp only at hSw); go_simp); (try with_reducible rfl); done)); (try simp only [Act.put, List.setIfInBounds_toArray, List.set_cons_zero, List.set_cons_succ]))
        (refine wpAnyH_take (i := 3) (oi := { dst := some 16, op := Go.Op.load 57 (Go.Operand.tmp 3), type := 57, pos := "l5_touch.go:133", after := #[], guard := none }) (v := ?_) rfl (by kernel_rfl) (by kernel_rfl) (by kernel_rfl) (fun _ _ _ h => h) (Or.inl ⟨by rfl, ?_⟩) hHeld ?_; rotate_left; (focus ((intro w hSw; (try dsimp only at hSw); go_simp); (try with_reducible rfl); done)); (try simp only [Act.put, List.setIfInBounds_toArray, List.set_cons_zero, List.set_cons_succ]))
        (refine wpAnyH_take (i := 4) (oi := { dst := some 17, op := Go.Op.move (Go.Operand.tmp 8), type := 3, pos := "l5_touch.go:133", after := #[], guard := none }) (v := ?_) rfl (by kernel_rfl) (by kernel_rfl) (by kernel_rfl) (fun _ _ _ h => h) (Or.inl ⟨by rfl, ?_⟩) hHeld ?_; rotate_left; (focus ((intro w hSw; (try dsimp only at hSw); go_simp); (try with_reducible rfl); done)); (try simp only [Act.put, List.setIfInBounds_toArray, List.set_cons_zero, List.set_cons_succ]))
        (refine wpAnyH_ready (rs := [5]) (by kernel_rfl) (by simp) ?_; refine AllReadyH.cons (o := { dst := some 18, op := Go.Op.call { callee := Go.Callee.value (Go.Operand.func 96), args := #[Go.Operand.tmp 16, Go.Operand.tmp 17], argTypes := #[57, 3] }, type := 39, pos := "l5_touch.go:133", after := #[{ on := 3, ground := Go.Ground.data }, { on := 4, ground := Go.Ground.data }], guard := none }) rfl (fun K hK => ?_) AllReadyH.nil; go_simp; (go_at_call 96; refine (l5On_q _ _ _ _ _ _ _ (by with_reducible assumption) (by with_reducible assumption) _ (by omega) (by omega) (by omega) (by omega) (by omega)).mono ?_; rintro e w1 ⟨rfl, hb1⟩; obtain ⟨hc1, hf1⟩ := bcell hb1; have hz1 := hb1.size; (try simp only [World.size_drew, World.size_alloc, World.size_setCell] at hc1 hf1 hz1); have hk1x0 := fun o => hc1 (w.heap.size) o (by omega); have hj1x0 := fun o => hf1 (w.heap.size) o (by omega); have hq1x0 : w.heap.size < w1.heap.size := (by omega); have hk1x1 := fun o => hc1 (w.heap.size + 1) o (by omega); have hj1x1 := fun o => hf1 (w.heap.size + 1) o (by omega); have hq1x1 : w.heap.size + 1 < w1.heap.size := (by omega); clear hc1 hf1); (try go_wp2_with fail); refine hK.out _ _ ?_ (fun hHeld => ?_); (focus ((try dsimp only); (first | (go_simp; done) | (go_keep; done)))); clear hK K; (try simp only [Act.put, List.setIfInBounds_toArray, List.set_cons_zero, List.set_cons_succ]))
        (refine wpAnyH_ready (rs := [6]) (by kernel_rfl) (by simp) ?_; refine AllReadyH.cons (o := { dst := some 19, op := Go.Op.call { callee := Go.Callee.value (Go.Operand.func 39), args := #[Go.Operand.tmp 14, Go.Operand.tmp 15, Go.Operand.tmp 18], argTypes := #[79, 39, 39] }, type := 4, pos := "l5_touch.go:133", after := #[{ on := 1, ground := Go.Ground.data }, { on := 2, ground := Go.Ground.data }, { on := 5, ground := Go.Ground.data }, { on := 5, ground := Go.Ground.chain }], guard := none }) rfl (fun K hK => ?_) AllReadyH.nil; go_simp; (go_at_call 39; refine (l3Has_q _ _ _ _ _ _ _ (by omega) (by omega) (by omega) (by omega) (by omega) (by omega) (by with_reducible assumption)).mono ?_; rintro e w2 ⟨rfl, hb2⟩; obtain ⟨hc2, hf2⟩ := bcell hb2; have hz2 := hb2.size; (try simp only [World.size_drew, World.size_alloc, World.size_setCell] at hc2 hf2 hz2); have hk2x0 := fun o => hc2 (w.heap.size) o (by omega); have hj2x0 := fun o => hf2 (w.heap.size) o (by omega); have hq2x0 : w.heap.size < w2.heap.size := (by omega); have hk2x1 := fun o => hc2 (w.heap.size + 1) o (by omega); have hj2x1 := fun o => hf2 (w.heap.size + 1) o (by omega); have hq2x1 : w.heap.size + 1 < w2.heap.size := (by omega); clear hc2 hf2); (try go_wp2_with fail); refine hK.out _ _ ?_ (fun hHeld => ?_); (focus ((try dsimp only); (first | (go_simp; done) | (go_keep; done)))); clear hK K; (try simp only [Act.put, List.setIfInBounds_toArray, List.set_cons_zero, List.set_cons_succ]))
        refine wpAnyH_done (by kernel_rfl) ?_ _
        go_wp2_with fail
        go_roundg n
        case measure => omega
        case rel => exact ⟨t + 1, rfl, by omega, by omega, HN, ⟨(by go_simp), (by go_simp), (by go_simp), (by go_simp), (by go_simp), (by go_simp)⟩, by first | omega | (simp; omega), by repeat (first | with_reducible apply Below.refl | (with_reducible apply Below.setCell; rotate_left; focus (first | omega | (simp; done) | (simp; omega))) | (with_reducible apply Below.alloc; rotate_left; focus (first | omega | (simp; done) | (simp; omega))) | with_reducible apply Below.drew | with_reducible apply belowDrewN | (with_reducible apply Below.trans; rotate_left; with_reducible apply Below.mono; with_reducible assumption; focus (first | omega | (simp; done) | (simp; omega))))⟩
end Go.Proofs.Ytgcobcmpkbcfoaa
