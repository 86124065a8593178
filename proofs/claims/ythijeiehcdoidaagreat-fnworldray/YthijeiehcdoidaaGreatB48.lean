/- Texts of a proof. -/
import Derived.Test.YthijeiehcdoidaaGreatB6
import Derived.Test.YthijeiehcdoidaaGreatRayMs
import Derived.Deep.RegionHeld3
import Derived.Deep.DeepCutAuto
import Derived.Test.YthijeiehcdoidaaGreatB14
import Derived.Test.YthijeiehcdoidaaGreatB4
import Derived.Test.YthijeiehcdoidaaGreatB5
import Derived.Test.YthijeiehcdoidaaGreatB9
set_option maxHeartbeats 16000000
set_option maxRecDepth 20000
namespace Go.Proofs.YthijeiehcdoidaaGreat
open Go.RowKit
set_option linter.unusedVariables false
set_option linter.unusedSimpArgs false
def rayB (x y u v : Int) : Bool := inB 2560000 x y && (inB 2560000 u v && !decide (u = 0 ∧ v = 0))
theorem beamOf_n1 (x y u v : Int) (w : World) (h1 : inB 2560000 x y = false) : Calls Tryz.prog 26 #[b4 x y u v] w fun e w' => e = .returned (.tuple #[b4 0 0 0 0, .bool false]) ∧ Below w.heap.size w w' := by
 have hset := cset_map
 go_enter Tryz.func26, Tryz.ntmps26
 go_wp2_with (go_at_call 28; refine (isPlace_n _ _ _ (by with_reducible assumption)).mono ?_; rintro e w1 ⟨rfl, hb1⟩; obtain ⟨hc1, hf1⟩ := bcell hb1; have hz1 := hb1.size; (try simp only [zz] at hc1 hf1 hz1); have hk1x0 := fun o => hc1 (w.heap.size) o (by omega); have hj1x0 := fun o => hf1 (w.heap.size) o (by omega); have hq1x0 : w.heap.size < w1.heap.size := (by omega); have hk1x1 := fun o => hc1 (w.heap.size + 1) o (by omega); have hj1x1 := fun o => hf1 (w.heap.size + 1) o (by omega); have hq1x1 : w.heap.size + 1 < w1.heap.size := (by omega); clear hc1 hf1)
 exact bodyPost_ret (v := .tuple #[b4 0 0 0 0, .bool false]) (by simp [results, Tryz.results26, go_sem, *]) rfl ⟨rfl, bel_a⟩
theorem beamOf_n2 (x y u v : Int) (w : World) (h1 : inB 2560000 x y = true) (h2 : inB 2560000 u v = false) : Calls Tryz.prog 26 #[b4 x y u v] w fun e w' => e = .returned (.tuple #[b4 0 0 0 0, .bool false]) ∧ Below w.heap.size w w' := by
 have hset := cset_map
 go_enter Tryz.func26, Tryz.ntmps26
 go_wp2_with (first
  | (go_at_call 28; refine (isPlace_t _ _ _ (by with_reducible assumption)).mono ?_; rintro e w1 ⟨rfl, hb1⟩; obtain ⟨hc1, hf1⟩ := bcell hb1; have hz1 := hb1.size; (try simp only [zz] at hc1 hf1 hz1); have hk1x0 := fun o => hc1 (w.heap.size) o (by omega); have hj1x0 := fun o => hf1 (w.heap.size) o (by omega); have hq1x0 : w.heap.size < w1.heap.size := (by omega); have hk1x1 := fun o => hc1 (w.heap.size + 1) o (by omega); have hj1x1 := fun o => hf1 (w.heap.size + 1) o (by omega); have hq1x1 : w.heap.size + 1 < w1.heap.size := (by omega); clear hc1 hf1)
  | (go_at_call 28; refine (isPlace_n _ _ _ (by with_reducible assumption)).mono ?_; rintro e w2 ⟨rfl, hb2⟩; obtain ⟨hc2, hf2⟩ := bcell hb2; have hz2 := hb2.size; (try simp only [zz] at hc2 hf2 hz2); have hk2x0 := fun o => hc2 (w.heap.size) o (by omega); have hj2x0 := fun o => hf2 (w.heap.size) o (by omega); have hq2x0 : w.heap.size < w2.heap.size := (by omega); have hk2x1 := fun o => hc2 (w.heap.size + 1) o (by omega); have hj2x1 := fun o => hf2 (w.heap.size + 1) o (by omega); have hq2x1 : w.heap.size + 1 < w2.heap.size := (by omega); clear hc2 hf2))
 exact bodyPost_ret (v := .tuple #[b4 0 0 0 0, .bool false]) (by simp [results, Tryz.results26, go_sem, *]) rfl ⟨rfl, bel_a⟩
theorem beamOf_n3 (x y : Int) (w : World) (h1 : inB 2560000 x y = true) : Calls Tryz.prog 26 #[b4 x y 0 0] w fun e w' => e = .returned (.tuple #[b4 0 0 0 0, .bool false]) ∧ Below w.heap.size w w' := by
 have hset := cset_map
 have h2 : inB 2560000 0 0 = true := by decide
 go_enter Tryz.func26, Tryz.ntmps26
 go_wp2_with (first
  | (go_at_call 28; refine (isPlace_t _ _ _ (by with_reducible assumption)).mono ?_; rintro e w1 ⟨rfl, hb1⟩; obtain ⟨hc1, hf1⟩ := bcell hb1; have hz1 := hb1.size; (try simp only [zz] at hc1 hf1 hz1); have hk1x0 := fun o => hc1 (w.heap.size) o (by omega); have hj1x0 := fun o => hf1 (w.heap.size) o (by omega); have hq1x0 : w.heap.size < w1.heap.size := (by omega); have hk1x1 := fun o => hc1 (w.heap.size + 1) o (by omega); have hj1x1 := fun o => hf1 (w.heap.size + 1) o (by omega); have hq1x1 : w.heap.size + 1 < w1.heap.size := (by omega); clear hc1 hf1))
 exact bodyPost_ret (v := .tuple #[b4 0 0 0 0, .bool false]) (by simp [results, Tryz.results26, go_sem, *]) rfl ⟨rfl, bel_a⟩
theorem beamOf_y (x y u v : Int) (w : World) (h1 : inB 2560000 x y = true) (h2 : inB 2560000 u v = true) (h3 : ¬ (u = 0 ∧ v = 0)) : Calls Tryz.prog 26 #[b4 x y u v] w fun e w' => e = .returned (.tuple #[b4 x y u v, .bool true]) ∧ Below w.heap.size w w' := by
 have hset := cset_map
 have hne : (u = 0) = False ∨ (v = 0) = False := by
  by_cases q : u = 0
  · exact .inr (eq_false fun q2 => h3 ⟨q, q2⟩)
  · exact .inl (eq_false q)
 clear h3
 rcases hne with hne | hne
 all_goals
  go_enter Tryz.func26, Tryz.ntmps26
  go_upto_region 3 with (first
   | (go_at_call 28; refine (isPlace_t _ _ _ (by with_reducible assumption)).mono ?_; rintro e w1 ⟨rfl, hb1⟩; obtain ⟨hc1, hf1⟩ := bcell hb1; have hz1 := hb1.size; (try simp only [zz] at hc1 hf1 hz1); have hk1x0 := fun o => hc1 (w.heap.size) o (by omega); have hj1x0 := fun o => hf1 (w.heap.size) o (by omega); have hq1x0 : w.heap.size < w1.heap.size := (by omega); have hk1x1 := fun o => hc1 (w.heap.size + 1) o (by omega); have hj1x1 := fun o => hf1 (w.heap.size + 1) o (by omega); have hq1x1 : w.heap.size + 1 < w1.heap.size := (by omega); clear hc1 hf1))
  refine wp_region_held_drew (S := fun w' => w'.cell? ⟨w.heap.size, 0, none⟩ = some (.int .i64 x) ∧ w'.cell? ⟨w.heap.size, 1, none⟩ = some (.int .i64 y) ∧ w'.cell? ⟨w.heap.size, 2, none⟩ = some (.int .i64 u) ∧ w'.cell? ⟨w.heap.size, 3, none⟩ = some (.int .i64 v)) (by kernel_rfl) ?_ (fun hHeld => ?_)
  · (try dsimp only)
    (first | (go_simp; done) | (go_keep; done))
  (refine wpAnyH_take (i := 0) (oi := { dst := some 21, op := Go.Op.fieldAddr 30 (Go.Operand.tmp 1) 0, type := 0, pos := "l5_touch.go:141", after := #[], guard := none }) (v := ?_) rfl (by kernel_rfl) (by kernel_rfl) (by kernel_rfl) (fun _ _ _ h => h) (Or.inl ⟨by rfl, ?_⟩) hHeld ?_; rotate_left; (focus ((intro w hSw; (try dsimp only at hSw); go_simp); (try with_reducible rfl); done)); (try simp only [Act.put, List.setIfInBounds_toArray, List.set_cons_zero, List.set_cons_succ]))
  (refine wpAnyH_take (i := 1) (oi := { dst := some 22, op := Go.Op.load 28 (Go.Operand.tmp 21), type := 28, pos := "l5_touch.go:141", after := #[{ on := 0, ground := Go.Ground.data }], guard := none }) (v := ?_) rfl (by kernel_rfl) (by kernel_rfl) (by kernel_rfl) (fun _ _ _ h => h) (Or.inl ⟨by rfl, ?_⟩) hHeld ?_; rotate_left; (focus ((intro w hSw; (try dsimp only at hSw); go_simp); (try with_reducible rfl); done)); (try simp only [Act.put, List.setIfInBounds_toArray, List.set_cons_zero, List.set_cons_succ]))
  (refine wpAnyH_take (i := 3) (oi := { dst := some 24, op := Go.Op.fieldAddr 30 (Go.Operand.tmp 1) 1, type := 0, pos := "l5_touch.go:141", after := #[], guard := none }) (v := ?_) rfl (by kernel_rfl) (by kernel_rfl) (by kernel_rfl) (fun _ _ _ h => h) (Or.inl ⟨by rfl, ?_⟩) hHeld ?_; rotate_left; (focus ((intro w hSw; (try dsimp only at hSw); go_simp); (try with_reducible rfl); done)); (try simp only [Act.put, List.setIfInBounds_toArray, List.set_cons_zero, List.set_cons_succ]))
  (refine wpAnyH_take (i := 4) (oi := { dst := some 25, op := Go.Op.load 28 (Go.Operand.tmp 24), type := 28, pos := "l5_touch.go:141", after := #[{ on := 3, ground := Go.Ground.data }], guard := none }) (v := ?_) rfl (by kernel_rfl) (by kernel_rfl) (by kernel_rfl) (fun _ _ _ h => h) (Or.inl ⟨by rfl, ?_⟩) hHeld ?_; rotate_left; (focus ((intro w hSw; (try dsimp only at hSw); go_simp); (try with_reducible rfl); done)); (try simp only [Act.put, List.setIfInBounds_toArray, List.set_cons_zero, List.set_cons_succ]))
  (refine wpAnyH_ready (rs := [2]) (by kernel_rfl) (by simp) ?_; refine AllReadyH.cons (o := { dst := some 23, op := Go.Op.call { callee := Go.Callee.value (Go.Operand.func 30), args := #[Go.Operand.tmp 22], argTypes := #[28] }, type := 63, pos := "l5_touch.go:141", after := #[{ on := 1, ground := Go.Ground.data }], guard := none }) rfl (fun K hK => ?_) AllReadyH.nil; go_simp; (go_at_call 30; refine (wayOf_any _ _ _).mono ?_; rintro e w2 ⟨rfl, hb2⟩; obtain ⟨hc2, hf2⟩ := bcell hb2; have hz2 := hb2.size; (try simp only [zz] at hc2 hf2 hz2); have hk2x0 := fun o => hc2 (w.heap.size) o (by omega); have hj2x0 := fun o => hf2 (w.heap.size) o (by omega); have hq2x0 : w.heap.size < w2.heap.size := (by omega); have hk2x1 := fun o => hc2 (w.heap.size + 1) o (by omega); have hj2x1 := fun o => hf2 (w.heap.size + 1) o (by omega); have hq2x1 : w.heap.size + 1 < w2.heap.size := (by omega); clear hc2 hf2); (try go_wp2_with fail); refine hK.out _ _ ?_ (fun hHeld => ?_); (focus ((try dsimp only); (first | (go_simp; done) | (go_keep; done)))); clear hK K; (try simp only [Act.put, List.setIfInBounds_toArray, List.set_cons_zero, List.set_cons_succ]))
  (refine wpAnyH_ready (rs := [5]) (by kernel_rfl) (by simp) ?_; refine AllReadyH.cons (o := { dst := some 26, op := Go.Op.call { callee := Go.Callee.value (Go.Operand.func 30), args := #[Go.Operand.tmp 25], argTypes := #[28] }, type := 63, pos := "l5_touch.go:141", after := #[{ on := 4, ground := Go.Ground.data }, { on := 2, ground := Go.Ground.chain }], guard := none }) rfl (fun K hK => ?_) AllReadyH.nil; go_simp; (go_at_call 30; refine (wayOf_any _ _ _).mono ?_; rintro e w3 ⟨rfl, hb3⟩; obtain ⟨hc3, hf3⟩ := bcell hb3; have hz3 := hb3.size; (try simp only [zz] at hc3 hf3 hz3); have hk3x0 := fun o => hc3 (w.heap.size) o (by omega); have hj3x0 := fun o => hf3 (w.heap.size) o (by omega); have hq3x0 : w.heap.size < w3.heap.size := (by omega); have hk3x1 := fun o => hc3 (w.heap.size + 1) o (by omega); have hj3x1 := fun o => hf3 (w.heap.size + 1) o (by omega); have hq3x1 : w.heap.size + 1 < w3.heap.size := (by omega); clear hc3 hf3); (try go_wp2_with fail); refine hK.out _ _ ?_ (fun hHeld => ?_); (focus ((try dsimp only); (first | (go_simp; done) | (go_keep; done)))); clear hK K; (try simp only [Act.put, List.setIfInBounds_toArray, List.set_cons_zero, List.set_cons_succ]))
  (refine wpAnyH_take (i := 6) (oi := { dst := some 27, op := Go.Op.build 65 #[(0, Go.Operand.tmp 23), (1, Go.Operand.tmp 26)], type := 65, pos := "l5_touch.go:141", after := #[{ on := 2, ground := Go.Ground.data }, { on := 5, ground := Go.Ground.data }], guard := none }) (v := ?_) rfl (by kernel_rfl) (by kernel_rfl) (by kernel_rfl) (fun _ _ _ h => h) (Or.inl ⟨by rfl, ?_⟩) hHeld ?_; rotate_left; (focus ((intro w hSw; (try dsimp only at hSw); go_simp); (try with_reducible rfl); done)); (try simp only [Act.put, List.setIfInBounds_toArray, List.set_cons_zero, List.set_cons_succ]))
  (refine wpAnyH_ready (rs := [7]) (by kernel_rfl) (by simp) ?_; refine AllReadyH.cons (o := { dst := none, op := Go.Op.store 65 (Go.Operand.tmp 2) (Go.Operand.tmp 27), type := 0, pos := "l5_touch.go:141", after := #[{ on := 6, ground := Go.Ground.data }, { on := 5, ground := Go.Ground.chain }, { on := 0, ground := Go.Ground.phase }, { on := 1, ground := Go.Ground.phase }, { on := 2, ground := Go.Ground.phase }, { on := 3, ground := Go.Ground.phase }, { on := 4, ground := Go.Ground.phase }, { on := 5, ground := Go.Ground.phase }, { on := 6, ground := Go.Ground.phase }], guard := none }) rfl (fun K hK => ?_) AllReadyH.nil; go_simp; refine hK.out _ _ ?_ (fun hHeld => ?_); (focus ((try dsimp only); (first | (go_simp; done) | (go_keep; done)))); clear hK K; (try simp only [Act.put, List.setIfInBounds_toArray, List.set_cons_zero, List.set_cons_succ]))
  (refine wpAnyH_take (i := 8) (oi := { dst := some 3, op := Go.Op.assign (Go.Operand.const (Go.Value.bool true)), type := 4, pos := "l5_touch.go:141", after := #[{ on := 7, ground := Go.Ground.chain }, { on := 0, ground := Go.Ground.phase }, { on := 1, ground := Go.Ground.phase }, { on := 2, ground := Go.Ground.phase }, { on := 3, ground := Go.Ground.phase }, { on := 4, ground := Go.Ground.phase }, { on := 5, ground := Go.Ground.phase }, { on := 6, ground := Go.Ground.phase }, { on := 7, ground := Go.Ground.phase }], guard := none }) (v := ?_) rfl (by kernel_rfl) (by kernel_rfl) (by kernel_rfl) (fun _ _ _ h => h) (Or.inl ⟨by rfl, ?_⟩) hHeld ?_; rotate_left; (focus ((intro w hSw; (try dsimp only at hSw); go_simp); (try with_reducible rfl); done)); (try simp only [Act.put, List.setIfInBounds_toArray, List.set_cons_zero, List.set_cons_succ]))
  refine wpAnyH_done (by kernel_rfl) ?_ _
  go_wp2_with fail
  exact bodyPost_ret (v := .tuple #[b4 x y u v, .bool true]) (by simp [results, Tryz.results26, go_sem, *]) rfl ⟨rfl, bel_a⟩
theorem beamOf_any (x y u v : Int) (w : World) :
 Calls Tryz.prog 26 #[b4 x y u v] w fun e w' => ((rayB x y u v = true ∧ e = .returned (.tuple #[b4 x y u v, .bool true])) ∨ (rayB x y u v = false ∧ e = .returned (.tuple #[b4 0 0 0 0, .bool false]))) ∧ Below w.heap.size w w' := by
 cases h1 : inB 2560000 x y with
 | false => exact (beamOf_n1 x y u v w h1).mono fun e w' ⟨a, b⟩ => ⟨.inr ⟨by unfold rayB; rw [h1]; rfl, a⟩, b⟩
 | true =>
  cases h2 : inB 2560000 u v with
  | false => exact (beamOf_n2 x y u v w h1 h2).mono fun e w' ⟨a, b⟩ => ⟨.inr ⟨by unfold rayB; rw [h1, h2]; rfl, a⟩, b⟩
  | true =>
   by_cases h3 : u = 0 ∧ v = 0
   · obtain ⟨rfl, rfl⟩ := h3
     exact (beamOf_n3 x y w h1).mono fun e w' ⟨a, b⟩ => ⟨.inr ⟨by unfold rayB; rw [h1, h2]; rfl, a⟩, b⟩
   · exact (beamOf_y x y u v w h1 h2 h3).mono fun e w' ⟨a, b⟩ => ⟨.inl ⟨by unfold rayB; rw [h1, h2, decide_eq_false h3]; rfl, a⟩, b⟩
theorem l5Down_any (n m : Int) (w : World) (hn : -4000000000000 ≤ n ∧ n ≤ 4000000000000) (hm : -1000000000 ≤ m ∧ m ≤ 1000000000) (h0 : m ≠ 0) :
 Calls Tryz.prog 115 #[.int .i64 n, .int .i64 m] w fun e w' => e = .returned (.int .i64 (downZ n m)) ∧ w' = w := by
 have hq := tdiv_bd (x := n) (B := 4000000000000) m hn
 have hz : (m == 0) = false := by simp; exact h0
 have hk : n.tdiv m * m = n - n.tmod m := by have := Int.tdiv_mul_add_tmod n m; omega
 have hw1 := w64 (n := n.tdiv m) (by omega)
 have hw3 := w64 (n := n.tdiv m - 1) (by omega)
 have hv1 := i64w (n := n.tdiv m) (by omega)
 have hv3 := i64w (n := n.tdiv m - 1) (by omega)
 by_cases c1 : n.tmod m = 0
 · have d1 : (n.tmod m == 0) = true := by simp [c1]
   have e : downZ n m = n.tdiv m := by unfold downZ; rw [if_neg (fun q => q.1 (by omega))]
   clear hk
   rw [e]
   go_enter Tryz.func115, Tryz.ntmps115
   go_wp2
   all_goals first | (go_ret; exact ⟨rfl, rfl⟩) | (exfalso; omega)
 · have d1 : (n.tmod m == 0) = false := by simp; exact c1
   have c9 : n.tdiv m * m ≠ n := by omega
   have c8 : m ≠ -1 := by intro q; apply c1; subst q; rw [Int.tmod_neg, Int.tmod_one]
   clear hk
   by_cases c2 : n < 0
   · have d2 : decide (n < 0) = true := decide_eq_true c2
     by_cases c3 : m < 0
     · have d3 : decide (m < 0) = true := decide_eq_true c3
       have e : downZ n m = n.tdiv m := by unfold downZ; rw [if_neg (fun q => q.2 (by rw [d2, d3]))]
       rw [e]
       go_enter Tryz.func115, Tryz.ntmps115
       go_wp2
       all_goals first | (go_ret; exact ⟨rfl, rfl⟩) | (exfalso; omega)
     · have d3 : decide (m < 0) = false := decide_eq_false c3
       have e : downZ n m = n.tdiv m - 1 := by unfold downZ; rw [if_pos ⟨c9, by rw [d2, d3]; decide⟩]
       rw [e]
       go_enter Tryz.func115, Tryz.ntmps115
       go_wp2
       all_goals first | (go_ret; exact ⟨rfl, rfl⟩) | (exfalso; omega)
   · have d2 : decide (n < 0) = false := decide_eq_false c2
     have d7 : ¬ n % m = 0 := by rw [← Int.tmod_eq_emod_of_nonneg (by omega)]; exact c1
     by_cases c3 : m < 0
     · have d3 : decide (m < 0) = true := decide_eq_true c3
       have e : downZ n m = n.tdiv m - 1 := by unfold downZ; rw [if_pos ⟨c9, by rw [d2, d3]; decide⟩]
       rw [e]
       go_enter Tryz.func115, Tryz.ntmps115
       go_wp2
       all_goals first | (go_ret; exact ⟨rfl, rfl⟩) | (exfalso; omega)
     · have d3 : decide (m < 0) = false := decide_eq_false c3
       have e : downZ n m = n.tdiv m := by unfold downZ; rw [if_neg (fun q => q.2 (by rw [d2, d3]))]
       rw [e]
       go_enter Tryz.func115, Tryz.ntmps115
       go_wp2
       all_goals first | (go_ret; exact ⟨rfl, rfl⟩) | (exfalso; omega)
theorem l5Slab_any (f g l h a b : Int) (w : World) (hf : -3000000 ≤ f ∧ f ≤ 3000000) (hg : -3000000 ≤ g ∧ g ≤ 3000000) (hl : -3000000 ≤ l ∧ l ≤ 3000000) (hh : -3000000 ≤ h ∧ h ≤ 3000000) (ha : 0 ≤ a) (hb : b ≤ 256) (hab : a ≤ b) :
 Calls Tryz.prog 87 #[.int .i64 f, .int .i64 g, .int .i64 l, .int .i64 h, .int .i64 a, .int .i64 b] w fun e w' => e = .returned (.tuple #[.int .i64 (msF a (btA f g l h)), .int .i64 (msL b (btB f g l h)), .bool (btC f g l h && !decide (msL b (btB f g l h) < msF a (btA f g l h)))]) ∧ w' = w := by
 by_cases c0 : g = 0
 · have d0 : (g == 0) = true := by simp [c0]
   have eA : msF a (btA f g l h) = a := by unfold msF btA; rw [if_pos c0, if_neg (by omega)]
   have eB : msL b (btB f g l h) = b := by unfold msL btB; rw [if_pos c0, if_neg (by omega)]
   have eC : btC f g l h = (decide (l ≤ f) && decide (f ≤ h)) := by unfold btC; rw [if_pos c0, Bool.decide_and]
   rw [eA, eB, eC, decide_eq_false (show ¬ b < a by omega), Bool.not_false, Bool.and_true]
   clear eA eB eC c0
   go_enter Tryz.func87, Tryz.ntmps87
   go_wp2_with (first
   | (go_at_call 115; refine (l5Down_any _ _ _ (by omega) (by omega) (by omega)).mono ?_; rintro e w' ⟨rfl, rfl⟩)
   | (go_at_call 117; refine (l3Less_any _ _ _).mono ?_; rintro e w' ⟨rfl, rfl⟩)
   | (go_at_call 116; refine (l3More_any _ _ _).mono ?_; rintro e w' ⟨rfl, rfl⟩)
   | (go_at_call 22; refine (l1In_any _ _ _ _).mono ?_; rintro e w' ⟨rfl, rfl⟩))
   go_ret3
   exact ⟨rfl, rfl⟩
 · have d0 : (g == 0) = false := by simp [c0]
   by_cases c1 : g < 0
   · have d1 : decide (g < 0) = true := decide_eq_true c1
     have b1 := downZ_bd (n := (h - f) * 256) (m := g) (B := 2000000000) (by omega)
     have b2 := downZ_bd (n := (f - l) * 256) (m := g) (B := 2000000000) (by omega)
     have eA : btA f g l h = downZ ((h - f) * 256) g := by unfold btA; rw [if_neg c0, if_pos c1]
     have eB : btB f g l h = -downZ ((f - l) * 256) g := by unfold btB; rw [if_neg c0, if_pos c1, show -((l - f) * 256) = (f - l) * 256 by omega]
     have eC : btC f g l h = true := by unfold btC; rw [if_neg c0]
     have eK : (btC f g l h && !decide (msL b (btB f g l h) < msF a (btA f g l h))) = decide (msF a (btA f g l h) ≤ msL b (btB f g l h)) := by rw [eC, Bool.eq_iff_iff]; simp
     rw [eK, eA, eB]
     show Calls Tryz.prog 87 #[.int .i64 f, .int .i64 g, .int .i64 l, .int .i64 h, .int .i64 a, .int .i64 b] w fun e w' => e = .returned (.tuple #[.int .i64 (mx a (downZ ((h - f) * 256) g)), .int .i64 (mn b (-downZ ((f - l) * 256) g)), .bool (decide (mx a (downZ ((h - f) * 256) g) ≤ mn b (-downZ ((f - l) * 256) g)))]) ∧ w' = w
     clear eK eA eB eC
     go_enter Tryz.func87, Tryz.ntmps87
     go_wp2_with (first
   | (go_at_call 115; refine (l5Down_any _ _ _ (by omega) (by omega) (by omega)).mono ?_; rintro e w' ⟨rfl, rfl⟩)
   | (go_at_call 117; refine (l3Less_any _ _ _).mono ?_; rintro e w' ⟨rfl, rfl⟩)
   | (go_at_call 116; refine (l3More_any _ _ _).mono ?_; rintro e w' ⟨rfl, rfl⟩)
   | (go_at_call 22; refine (l1In_any _ _ _ _).mono ?_; rintro e w' ⟨rfl, rfl⟩))
     go_ret3
     exact ⟨rfl, rfl⟩
   · have d1 : decide (g < 0) = false := decide_eq_false c1
     have b1 := downZ_bd (n := (l - f) * 256) (m := g) (B := 2000000000) (by omega)
     have b2 := downZ_bd (n := (f - h) * 256) (m := g) (B := 2000000000) (by omega)
     have eA : btA f g l h = downZ ((l - f) * 256) g := by unfold btA; rw [if_neg c0, if_neg c1]
     have eB : btB f g l h = -downZ ((f - h) * 256) g := by unfold btB; rw [if_neg c0, if_neg c1, show -((h - f) * 256) = (f - h) * 256 by omega]
     have eC : btC f g l h = true := by unfold btC; rw [if_neg c0]
     have eK : (btC f g l h && !decide (msL b (btB f g l h) < msF a (btA f g l h))) = decide (msF a (btA f g l h) ≤ msL b (btB f g l h)) := by rw [eC, Bool.eq_iff_iff]; simp
     rw [eK, eA, eB]
     show Calls Tryz.prog 87 #[.int .i64 f, .int .i64 g, .int .i64 l, .int .i64 h, .int .i64 a, .int .i64 b] w fun e w' => e = .returned (.tuple #[.int .i64 (mx a (downZ ((l - f) * 256) g)), .int .i64 (mn b (-downZ ((f - h) * 256) g)), .bool (decide (mx a (downZ ((l - f) * 256) g) ≤ mn b (-downZ ((f - h) * 256) g)))]) ∧ w' = w
     clear eK eA eB eC
     go_enter Tryz.func87, Tryz.ntmps87
     go_wp2_with (first
   | (go_at_call 115; refine (l5Down_any _ _ _ (by omega) (by omega) (by omega)).mono ?_; rintro e w' ⟨rfl, rfl⟩)
   | (go_at_call 117; refine (l3Less_any _ _ _).mono ?_; rintro e w' ⟨rfl, rfl⟩)
   | (go_at_call 116; refine (l3More_any _ _ _).mono ?_; rintro e w' ⟨rfl, rfl⟩)
   | (go_at_call 22; refine (l1In_any _ _ _ _).mono ?_; rintro e w' ⟨rfl, rfl⟩))
     go_ret3
     exact ⟨rfl, rfl⟩
theorem l5Slab_q (f g l h a b : Int) (F L : Int) (K : Bool) (w : World) (hf : -3000000 ≤ f ∧ f ≤ 3000000) (hg : -3000000 ≤ g ∧ g ≤ 3000000) (hl : -3000000 ≤ l ∧ l ≤ 3000000) (hh : -3000000 ≤ h ∧ h ≤ 3000000) (ha : 0 ≤ a) (hb : b ≤ 256) (hab : a ≤ b) (eF : msF a (btA f g l h) = F) (eL : msL b (btB f g l h) = L) (eK : (btC f g l h && !decide (msL b (btB f g l h) < msF a (btA f g l h))) = K) :
 Calls Tryz.prog 87 #[.int .i64 f, .int .i64 g, .int .i64 l, .int .i64 h, .int .i64 a, .int .i64 b] w fun e w' => e = .returned (.tuple #[.int .i64 F, .int .i64 L, .bool K]) ∧ w' = w := by
 subst eF eL eK
 exact l5Slab_any f g l h a b w hf hg hl hh ha hb hab
theorem msF_ge (a n : Int) (h : 0 ≤ a) : 0 ≤ msF a n := by unfold msF; split <;> omega
theorem msL_le (b n : Int) (h : b ≤ 256) : msL b n ≤ 256 := by unfold msL; split <;> omega
theorem l5RayBox_any (x y u v p q r t : Int) (w : World) (hx : -3000000 ≤ x ∧ x ≤ 3000000) (hy : -3000000 ≤ y ∧ y ≤ 3000000) (hu : -3000000 ≤ u ∧ u ≤ 3000000) (hv : -3000000 ≤ v ∧ v ≤ 3000000) (hp : -3000000 ≤ p ∧ p ≤ 3000000) (hq : -3000000 ≤ q ∧ q ≤ 3000000) (hr : -3000000 ≤ r ∧ r ≤ 3000000) (ht : -3000000 ≤ t ∧ t ≤ 3000000) :
 Calls Tryz.prog 54 #[b4 x y u v, b4 p q r t] w fun e w' => e = .returned (.tuple #[.int .i64 (rsF x y u v p q r t), .bool (rsK x y u v p q r t)]) ∧ Below w.heap.size w w' := by
 have hset := cset_map
 have z1 := msF_ge 0 (btA x u p r) (by omega)
 have z2 := msL_le 256 (btB x u p r) (by omega)
 obtain ⟨F1, hF1⟩ : ∃ n, msF 0 (btA x u p r) = n := ⟨_, rfl⟩
 obtain ⟨L1, hL1⟩ : ∃ n, msL 256 (btB x u p r) = n := ⟨_, rfl⟩
 obtain ⟨F2, hF2⟩ : ∃ n, msF F1 (btA y v q t) = n := ⟨_, rfl⟩
 obtain ⟨L2, hL2⟩ : ∃ n, msL L1 (btB y v q t) = n := ⟨_, rfl⟩
 have hK : rsK x y u v p q r t = (btC x u p r && (!decide (L1 < F1) && (btC y v q t && !decide (L2 < F2)))) := by unfold rsK; rw [hF1, hL1, hF2, hL2]
 have hF : rsF x y u v p q r t = if rsK x y u v p q r t = true then F2 else 0 := by unfold rsF; rw [hF1, hF2]
 rw [hF1] at z1
 rw [hL1] at z2
 cases k0 : (btC x u p r && !decide (msL 256 (btB x u p r) < msF 0 (btA x u p r))) with
 | false =>
  have e1 : rsK x y u v p q r t = false := by rw [hK, ← Bool.and_assoc]; rw [hL1, hF1] at k0; rw [k0]; rfl
  have e2 : rsF x y u v p q r t = 0 := by rw [hF, e1]; rfl
  rw [e1, e2]
  clear hK hF e1 e2
  go_enter Tryz.func54, Tryz.ntmps54
  go_wp2_with (go_at_call 87; refine (l5Slab_q _ _ _ _ _ _ _ _ _ _ (by omega) (by omega) (by omega) (by omega) (by omega) (by omega) (by omega) (by with_reducible assumption) (by with_reducible assumption) (by with_reducible assumption)).mono ?_; rintro e w' ⟨rfl, rfl⟩)
  go_ret2
  exact ⟨rfl, bel_a⟩
 | true =>
  have k9 := k0
  rw [hL1, hF1] at k9
  have hle : F1 ≤ L1 := by simp only [Bool.and_eq_true, Bool.not_eq_true', decide_eq_false_iff_not] at k9; omega
  cases k1 : (btC y v q t && !decide (msL L1 (btB y v q t) < msF F1 (btA y v q t))) with
  | false =>
   have e1 : rsK x y u v p q r t = false := by rw [hK, ← Bool.and_assoc, k9]; rw [hL2, hF2] at k1; rw [k1]; rfl
   have e2 : rsF x y u v p q r t = 0 := by rw [hF, e1]; rfl
   rw [e1, e2]
   clear hK hF e1 e2 k9
   go_enter Tryz.func54, Tryz.ntmps54
   go_wp2_with (go_at_call 87; refine (l5Slab_q _ _ _ _ _ _ _ _ _ _ (by omega) (by omega) (by omega) (by omega) (by omega) (by omega) (by omega) (by with_reducible assumption) (by with_reducible assumption) (by with_reducible assumption)).mono ?_; rintro e w' ⟨rfl, rfl⟩)
   go_ret2
   exact ⟨rfl, bel_a⟩
  | true =>
   have e1 : rsK x y u v p q r t = true := by rw [hK, ← Bool.and_assoc, k9]; rw [hL2, hF2] at k1; rw [k1]; rfl
   have e2 : rsF x y u v p q r t = F2 := by rw [hF, e1]; rfl
   rw [e1, e2]
   clear hK hF e1 e2 k9
   go_enter Tryz.func54, Tryz.ntmps54
   go_wp2_with (go_at_call 87; refine (l5Slab_q _ _ _ _ _ _ _ _ _ _ (by omega) (by omega) (by omega) (by omega) (by omega) (by omega) (by omega) (by with_reducible assumption) (by with_reducible assumption) (by with_reducible assumption)).mono ?_; rintro e w' ⟨rfl, rfl⟩)
   go_ret2
   exact ⟨rfl, bel_a⟩
def rbK (x y u v p q r t : Int) : Bool := rayB x y u v && (bokB p q r t && (inB 2560000 p q && (inB 2560000 r t && rsK x y u v p q r t)))
def rbF (x y u v p q r t : Int) : Int := if rbK x y u v p q r t = true then rsF x y u v p q r t else 0
theorem rayB_bd {x y u v : Int} (h : rayB x y u v = true) : (-2560000 ≤ x ∧ x ≤ 2560000) ∧ (-2560000 ≤ y ∧ y ≤ 2560000) ∧ (-2560000 ≤ u ∧ u ≤ 2560000) ∧ (-2560000 ≤ v ∧ v ≤ 2560000) := by
 unfold rayB at h; simp only [Bool.and_eq_true] at h
 obtain ⟨a, b⟩ := inB_of h.1
 obtain ⟨c, d⟩ := inB_of h.2.1
 exact ⟨a, b, c, d⟩
theorem beamOf_t (x y u v : Int) (w : World) (h : rayB x y u v = true) : Calls Tryz.prog 26 #[b4 x y u v] w fun e w' => e = .returned (.tuple #[b4 x y u v, .bool true]) ∧ Below w.heap.size w w' :=
 (beamOf_any x y u v w).mono fun e w' ⟨a, b⟩ => ⟨(by rcases a with a | a; exact a.2; rw [h] at a; cases a.1), b⟩
theorem beamOf_n (x y u v : Int) (w : World) (h : rayB x y u v = false) : Calls Tryz.prog 26 #[b4 x y u v] w fun e w' => e = .returned (.tuple #[b4 0 0 0 0, .bool false]) ∧ Below w.heap.size w w' :=
 (beamOf_any x y u v w).mono fun e w' ⟨a, b⟩ => ⟨(by rcases a with a | a; rw [h] at a; cases a.1; exact a.2), b⟩
theorem l5RayOk_1 (x y u v : Int) (w : World) (h1 : inB 2560000 x y = false) :
 Calls Tryz.prog 20 #[b4 x y u v] w fun e w' => e = .returned (.bool false) ∧ Below w.heap.size w w' := by
 have hset := cset_map
 go_enter Tryz.func20, Tryz.ntmps20
 go_wp2_with (go_at_call 51; refine (l3Place_n _ _ _ (by with_reducible assumption)).mono ?_; rintro e w1 ⟨rfl, hb1⟩; obtain ⟨hc1, hf1⟩ := bcell hb1; have hz1 := hb1.size; (try simp only [zz] at hc1 hf1 hz1); have hk1x0 := fun o => hc1 (w.heap.size) o (by omega); have hj1x0 := fun o => hf1 (w.heap.size) o (by omega); have hq1x0 : w.heap.size < w1.heap.size := (by omega); clear hc1 hf1)
 go_ret
 exact ⟨rfl, bel_a⟩
theorem l5RayOk_2 (x y u v : Int) (w : World) (h1 : inB 2560000 x y = true) (h2 : inB 2560000 u v = false) :
 Calls Tryz.prog 20 #[b4 x y u v] w fun e w' => e = .returned (.bool false) ∧ Below w.heap.size w w' := by
 have hset := cset_map
 go_enter Tryz.func20, Tryz.ntmps20
 go_wp2_with (first
  | (go_at_call 51; refine (l3Place_t _ _ _ (by with_reducible assumption)).mono ?_; rintro e w1 ⟨rfl, hb1⟩; obtain ⟨hc1, hf1⟩ := bcell hb1; have hz1 := hb1.size; (try simp only [zz] at hc1 hf1 hz1); have hk1x0 := fun o => hc1 (w.heap.size) o (by omega); have hj1x0 := fun o => hf1 (w.heap.size) o (by omega); have hq1x0 : w.heap.size < w1.heap.size := (by omega); clear hc1 hf1)
  | (go_at_call 51; refine (l3Place_n _ _ _ (by with_reducible assumption)).mono ?_; rintro e w2 ⟨rfl, hb2⟩; obtain ⟨hc2, hf2⟩ := bcell hb2; have hz2 := hb2.size; (try simp only [zz] at hc2 hf2 hz2); have hk2x0 := fun o => hc2 (w.heap.size) o (by omega); have hj2x0 := fun o => hf2 (w.heap.size) o (by omega); have hq2x0 : w.heap.size < w2.heap.size := (by omega); clear hc2 hf2))
 go_ret
 exact ⟨rfl, bel_a⟩
theorem l5RayOk_3 (x y u v : Int) (w : World) (h1 : inB 2560000 x y = true) (h2 : inB 2560000 u v = true) (hne : (u = 0) = False) :
 Calls Tryz.prog 20 #[b4 x y u v] w fun e w' => e = .returned (.bool true) ∧ Below w.heap.size w w' := by
 have hset := cset_map
 go_enter Tryz.func20, Tryz.ntmps20
 go_wp2_with (go_at_call 51; refine (l3Place_t _ _ _ (by with_reducible assumption)).mono ?_; rintro e w1 ⟨rfl, hb1⟩; obtain ⟨hc1, hf1⟩ := bcell hb1; have hz1 := hb1.size; (try simp only [zz] at hc1 hf1 hz1); have hk1x0 := fun o => hc1 (w.heap.size) o (by omega); have hj1x0 := fun o => hf1 (w.heap.size) o (by omega); have hq1x0 : w.heap.size < w1.heap.size := (by omega); clear hc1 hf1)
 go_ret
 exact ⟨rfl, bel_a⟩
theorem l5RayOk_4 (x y u v : Int) (w : World) (h1 : inB 2560000 x y = true) (h2 : inB 2560000 u v = true) (hne : (v = 0) = False) :
 Calls Tryz.prog 20 #[b4 x y u v] w fun e w' => e = .returned (.bool true) ∧ Below w.heap.size w w' := by
 have hset := cset_map
 go_enter Tryz.func20, Tryz.ntmps20
 go_wp2_with (go_at_call 51; refine (l3Place_t _ _ _ (by with_reducible assumption)).mono ?_; rintro e w1 ⟨rfl, hb1⟩; obtain ⟨hc1, hf1⟩ := bcell hb1; have hz1 := hb1.size; (try simp only [zz] at hc1 hf1 hz1); have hk1x0 := fun o => hc1 (w.heap.size) o (by omega); have hj1x0 := fun o => hf1 (w.heap.size) o (by omega); have hq1x0 : w.heap.size < w1.heap.size := (by omega); clear hc1 hf1)
 go_ret
 exact ⟨rfl, bel_a⟩
theorem l5RayOk_5 (x y u v : Int) (w : World) (h1 : inB 2560000 x y = true) (h2 : inB 2560000 u v = true) (hu : u = 0) (hv : v = 0) :
 Calls Tryz.prog 20 #[b4 x y u v] w fun e w' => e = .returned (.bool false) ∧ Below w.heap.size w w' := by
 have hset := cset_map
 subst hu hv
 go_enter Tryz.func20, Tryz.ntmps20
 go_wp2_with (go_at_call 51; refine (l3Place_t _ _ _ (by with_reducible assumption)).mono ?_; rintro e w1 ⟨rfl, hb1⟩; obtain ⟨hc1, hf1⟩ := bcell hb1; have hz1 := hb1.size; (try simp only [zz] at hc1 hf1 hz1); have hk1x0 := fun o => hc1 (w.heap.size) o (by omega); have hj1x0 := fun o => hf1 (w.heap.size) o (by omega); have hq1x0 : w.heap.size < w1.heap.size := (by omega); clear hc1 hf1)
 go_ret
 exact ⟨rfl, bel_a⟩
theorem l5RayOk_any (x y u v : Int) (w : World) : Calls Tryz.prog 20 #[b4 x y u v] w fun e w' => e = .returned (.bool (rayB x y u v)) ∧ Below w.heap.size w w' := by
 unfold rayB
 cases h1 : inB 2560000 x y with
 | false => exact l5RayOk_1 x y u v w h1
 | true =>
  cases h2 : inB 2560000 u v with
  | false => exact l5RayOk_2 x y u v w h1 h2
  | true =>
   by_cases q : u = 0
   · by_cases q2 : v = 0
     · rw [decide_eq_true ⟨q, q2⟩]; exact l5RayOk_5 x y u v w h1 h2 q q2
     · rw [decide_eq_false (fun k => q2 k.2)]; exact l5RayOk_4 x y u v w h1 h2 (eq_false q2)
   · rw [decide_eq_false (fun k => q k.1)]; exact l5RayOk_3 x y u v w h1 h2 (eq_false q)
theorem l5RayOk_t (x y u v : Int) (w : World) (hh : rayB x y u v = true) : Calls Tryz.prog 20 #[b4 x y u v] w fun e w' => e = .returned (.bool true) ∧ Below w.heap.size w w' := by
 have k := l5RayOk_any x y u v w; rw [hh] at k; exact k
theorem l5RayOk_n (x y u v : Int) (w : World) (hh : rayB x y u v = false) : Calls Tryz.prog 20 #[b4 x y u v] w fun e w' => e = .returned (.bool false) ∧ Below w.heap.size w w' := by
 have k := l5RayOk_any x y u v w; rw [hh] at k; exact k
end Go.Proofs.YthijeiehcdoidaaGreat
