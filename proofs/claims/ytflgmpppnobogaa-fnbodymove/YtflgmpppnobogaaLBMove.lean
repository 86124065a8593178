/- The walk of the law of promise 32. -/
import Derived.Test.YtflgmpppnobogaaDrawB4
import Derived.Test.YtflgmpppnobogaaExBody
import Derived.Test.YtflgmpppnobogaaPqAbs
import Derived.Test.YtflgmpppnobogaaBMove
import Derived.Test.YtflgmpppnobogaaVecAdd
import Derived.Handy
import Derived.Deep.RegionHeld3
import Derived.Deep.DeepCutAuto
namespace Go.Proofs.Ytflgmpppnobogaa
open Go.RowKit
set_option linter.unusedVariables false
set_option linter.unusedSimpArgs false

theorem vecAdd_q (x y u v a b : Int) (w : World) (e1 : fc (fc x + fc u) = a) (e2 : fc (fc y + fc v) = b) :
    Calls Try.prog 29 #[vv x y, vv u v] w fun e w' => e = .returned (vv a b) ∧ Below w.heap.size w w' := by
  subst e1; subst e2; exact vecAdd_any x y u v w
theorem clamp_in {l n : Int} (h : 0 ≤ l) : -l ≤ clampZ l n ∧ clampZ l n ≤ l := by unfold clampZ; repeat' split <;> omega
theorem clamp_id {l n : Int} (h : -l ≤ n ∧ n ≤ l) : clampZ l n = n := by unfold clampZ; repeat' split <;> omega
theorem abs_le {l n : Int} : absZ n ≤ l ↔ (-l ≤ n ∧ n ≤ l) := by unfold absZ; split <;> omega
theorem move_at (V : Nat → Int) (p q : Int) : moveV V p q 0 = V 0 ∧ moveV V p q 1 = V 1 ∧ moveV V p q 2 = V 2 ∧ moveV V p q 3 = V 3 ∧ moveV V p q 4 = clampZ 2560000 (V 4 + p) ∧ moveV V p q 5 = clampZ 2560000 (V 5 + q) ∧
    moveV V p q 6 = (if clampZ 2560000 (V 4 + p) = V 4 + p then V 6 else 0) ∧ moveV V p q 7 = (if clampZ 2560000 (V 5 + q) = V 5 + q then V 7 else 0) ∧ moveV V p q 8 = V 8 ∧ moveV V p q 9 = V 9 ∧ moveV V p q 10 = V 10 ∧ moveV V p q 11 = V 11 := by
  unfold moveV mvX mvY setV
  generalize clampZ 2560000 (V 4 + p) = A
  generalize clampZ 2560000 (V 5 + q) = B
  simp
theorem move_ok {V : Nat → Int} {p q : Int} (h : bodyB V = true) : bodyB (moveV V p q) = true := by
  have c1 := clamp_in (l := 2560000) (n := V 4 + p) (by omega)
  have c2 := clamp_in (l := 2560000) (n := V 5 + q) (by omega)
  unfold bodyB restB inB at h ⊢
  simp only [Bool.and_eq_true, decide_eq_true_eq] at h ⊢
  obtain ⟨h0, h1, h2, h3, h4, h5, h6, h7, h8⟩ := h
  obtain ⟨e0, e1, e2, e3, e4, e5, e6, e7, e8, e9, e10, e11⟩ := move_at V p q
  rw [e0, e1, e2, e3, e4, e5, e6, e7, e8, e9, e10, e11]
  refine ⟨h0, h1, by omega, ?_, h4, h5, h6, h7, ?_⟩
  · split <;> split <;> omega
  · split <;> split <;> omega
set_option maxRecDepth 20000 in
set_option maxHeartbeats 16000000 in
theorem fnBodyMove_walk (a : Option Addr) (len cap : Nat) (w : World) (hb : Bytes w a len cap) :
    Calls Try.prog 5 #[.slice a len cap] w fun e w' => e = .returned (.bool true) ∧ Below w.heap.size w w' := by
  have hset := cset_map
  go_enter Try.func5, Try.ntmps5
  go_upto_region 4 with (go_at_call 26; refine (drawBodyMove_any _ _ _ _ hb).mono ?_; rintro e w1 ⟨V, rfl, hd, hb1⟩)
  · go_wp2_with fail
    go_ret
    exact ⟨rfl, Below.refl _ _⟩
  have a0 : Al w (w1.alloc (.cells #[.int .i64 (V 0), .int .i64 (V 1), .int .i64 (V 2), .int .i64 (V 3), .int .i64 (V 4), .int .i64 (V 5), .int .i64 (V 6), .int .i64 (V 7), .int .i64 (V 8), .int .i64 (V 9), .int .i64 (V 10), .int .i64 (V 11)] 28)) w1.heap.size 12 V := Al.new hb1.size (by intro i hi; rcases (show i = 0 ∨ i = 1 ∨ i = 2 ∨ i = 3 ∨ i = 4 ∨ i = 5 ∨ i = 6 ∨ i = 7 ∨ i = 8 ∨ i = 9 ∨ i = 10 ∨ i = 11 by omega) with rfl | rfl | rfl | rfl | rfl | rfl | rfl | rfl | rfl | rfl | rfl | rfl <;> rfl)
  have hbx : Below w.heap.size w (w1.alloc (.cells #[.int .i64 (V 0), .int .i64 (V 1), .int .i64 (V 2), .int .i64 (V 3), .int .i64 (V 4), .int .i64 (V 5), .int .i64 (V 6), .int .i64 (V 7), .int .i64 (V 8), .int .i64 (V 9), .int .i64 (V 10), .int .i64 (V 11)] 28)) := hb1.alloc hb1.size _
  generalize w1.alloc (.cells #[.int .i64 (V 0), .int .i64 (V 1), .int .i64 (V 2), .int .i64 (V 3), .int .i64 (V 4), .int .i64 (V 5), .int .i64 (V 6), .int .i64 (V 7), .int .i64 (V 8), .int .i64 (V 9), .int .i64 (V 10), .int .i64 (V 11)] 28) = wa at *
  generalize w1.heap.size = ab at *
  obtain ⟨U, eU⟩ : ∃ U, bmV V = U := ⟨_, rfl⟩
  have k0 := a0
  have ac0 := (a0).2.2.1 0 (by omega)
  have af0 := (a0).2.2.2 0 (by omega)
  have ac1 := (a0).2.2.1 1 (by omega)
  have af1 := (a0).2.2.2 1 (by omega)
  have ac2 := (a0).2.2.1 2 (by omega)
  have af2 := (a0).2.2.2 2 (by omega)
  have ac3 := (a0).2.2.1 3 (by omega)
  have af3 := (a0).2.2.2 3 (by omega)
  have ac4 := (a0).2.2.1 4 (by omega)
  have af4 := (a0).2.2.2 4 (by omega)
  have ac5 := (a0).2.2.1 5 (by omega)
  have af5 := (a0).2.2.2 5 (by omega)
  have ac6 := (a0).2.2.1 6 (by omega)
  have af6 := (a0).2.2.2 6 (by omega)
  have ac7 := (a0).2.2.1 7 (by omega)
  have af7 := (a0).2.2.2 7 (by omega)
  have ac8 := (a0).2.2.1 8 (by omega)
  have af8 := (a0).2.2.2 8 (by omega)
  have ac9 := (a0).2.2.1 9 (by omega)
  have af9 := (a0).2.2.2 9 (by omega)
  have ac10 := (a0).2.2.1 10 (by omega)
  have af10 := (a0).2.2.2 10 (by omega)
  have ac11 := (a0).2.2.1 11 (by omega)
  have af11 := (a0).2.2.2 11 (by omega)
  go_upto_region 5 with (go_at_call 27; refine (bodyMove_q V U _ eU).mono ?_; rintro e w2 ⟨rfl, hb2⟩; have a2 := a0.belw hb2 a0.2.1)
  have a3 := a2.belw (but_bel (w := w2) (o := .cells #[.int .i64 (U 0), .int .i64 (U 1), .int .i64 (U 2), .int .i64 (U 3), .int .i64 (U 4), .int .i64 (U 5), .int .i64 (U 6), .int .i64 (U 7), .int .i64 (U 8), .int .i64 (U 9), .int .i64 (U 10), .int .i64 (U 11)] 28) rfl) a2.2.1
  have u3 : Al w (w2.alloc (.cells #[.int .i64 (U 0), .int .i64 (U 1), .int .i64 (U 2), .int .i64 (U 3), .int .i64 (U 4), .int .i64 (U 5), .int .i64 (U 6), .int .i64 (U 7), .int .i64 (U 8), .int .i64 (U 9), .int .i64 (U 10), .int .i64 (U 11)] 28)) w2.heap.size 12 U := Al.new (Nat.le_trans hbx.size hb2.size) (by intro i hi; rcases (show i = 0 ∨ i = 1 ∨ i = 2 ∨ i = 3 ∨ i = 4 ∨ i = 5 ∨ i = 6 ∨ i = 7 ∨ i = 8 ∨ i = 9 ∨ i = 10 ∨ i = 11 by omega) with rfl | rfl | rfl | rfl | rfl | rfl | rfl | rfl | rfl | rfl | rfl | rfl <;> rfl)
  have hby : Below w.heap.size w (w2.alloc (.cells #[.int .i64 (U 0), .int .i64 (U 1), .int .i64 (U 2), .int .i64 (U 3), .int .i64 (U 4), .int .i64 (U 5), .int .i64 (U 6), .int .i64 (U 7), .int .i64 (U 8), .int .i64 (U 9), .int .i64 (U 10), .int .i64 (U 11)] 28)) := (hbx.trans (hb2.mono hbx.size)).alloc (Nat.le_trans hbx.size hb2.size) _
  have hne : ab ≠ w2.heap.size := by have := a2.2.1; omega
  clear ac0 af0 ac1 af1 ac2 af2 ac3 af3 ac4 af4 ac5 af5 ac6 af6 ac7 af7 ac8 af8 ac9 af9 ac10 af10 ac11 af11 k0 a0 a2 hb2 hbx
  generalize w2.alloc (.cells #[.int .i64 (U 0), .int .i64 (U 1), .int .i64 (U 2), .int .i64 (U 3), .int .i64 (U 4), .int .i64 (U 5), .int .i64 (U 6), .int .i64 (U 7), .int .i64 (U 8), .int .i64 (U 9), .int .i64 (U 10), .int .i64 (U 11)] 28) = wv at *
  generalize w2.heap.size = xb at *
  have k0 := a3
  have ac0 := (a3).2.2.1 0 (by omega)
  have af0 := (a3).2.2.2 0 (by omega)
  have ac1 := (a3).2.2.1 1 (by omega)
  have af1 := (a3).2.2.2 1 (by omega)
  have ac2 := (a3).2.2.1 2 (by omega)
  have af2 := (a3).2.2.2 2 (by omega)
  have ac3 := (a3).2.2.1 3 (by omega)
  have af3 := (a3).2.2.2 3 (by omega)
  have ac4 := (a3).2.2.1 4 (by omega)
  have af4 := (a3).2.2.2 4 (by omega)
  have ac5 := (a3).2.2.1 5 (by omega)
  have af5 := (a3).2.2.2 5 (by omega)
  have ac6 := (a3).2.2.1 6 (by omega)
  have af6 := (a3).2.2.2 6 (by omega)
  have ac7 := (a3).2.2.1 7 (by omega)
  have af7 := (a3).2.2.2 7 (by omega)
  have ac8 := (a3).2.2.1 8 (by omega)
  have af8 := (a3).2.2.2 8 (by omega)
  have ac9 := (a3).2.2.1 9 (by omega)
  have af9 := (a3).2.2.2 9 (by omega)
  have ac10 := (a3).2.2.1 10 (by omega)
  have af10 := (a3).2.2.2 10 (by omega)
  have ac11 := (a3).2.2.1 11 (by omega)
  have af11 := (a3).2.2.2 11 (by omega)
  have uc0 := (u3).2.2.1 0 (by omega)
  have uf0 := (u3).2.2.2 0 (by omega)
  have uc1 := (u3).2.2.1 1 (by omega)
  have uf1 := (u3).2.2.2 1 (by omega)
  have uc2 := (u3).2.2.1 2 (by omega)
  have uf2 := (u3).2.2.2 2 (by omega)
  have uc3 := (u3).2.2.1 3 (by omega)
  have uf3 := (u3).2.2.2 3 (by omega)
  have uc4 := (u3).2.2.1 4 (by omega)
  have uf4 := (u3).2.2.2 4 (by omega)
  have uc5 := (u3).2.2.1 5 (by omega)
  have uf5 := (u3).2.2.2 5 (by omega)
  have uc6 := (u3).2.2.1 6 (by omega)
  have uf6 := (u3).2.2.2 6 (by omega)
  have uc7 := (u3).2.2.1 7 (by omega)
  have uf7 := (u3).2.2.2 7 (by omega)
  have uc8 := (u3).2.2.1 8 (by omega)
  have uf8 := (u3).2.2.2 8 (by omega)
  have uc9 := (u3).2.2.1 9 (by omega)
  have uf9 := (u3).2.2.2 9 (by omega)
  have uc10 := (u3).2.2.1 10 (by omega)
  have uf10 := (u3).2.2.2 10 (by omega)
  have uc11 := (u3).2.2.1 11 (by omega)
  have uf11 := (u3).2.2.2 11 (by omega)
  have hq0 : ab < wv.heap.size := a3.2.1
  have hq1 : xb < wv.heap.size := u3.2.1
  have hq2 : w.heap.size ≤ wv.heap.size := hby.size
  have hq3 : w.heap.size ≤ ab := a3.1
  cases eb : bodyB V with
  | false =>
    refine wp_region_held_drew (S := fun w' => w'.cell? ⟨ab, 0, none⟩ = some (.int .i64 (V 0)) ∧ w'.cell? ⟨ab, 1, none⟩ = some (.int .i64 (V 1)) ∧ w'.cell? ⟨ab, 2, none⟩ = some (.int .i64 (V 2)) ∧ w'.cell? ⟨ab, 3, none⟩ = some (.int .i64 (V 3)) ∧ w'.cell? ⟨ab, 4, none⟩ = some (.int .i64 (V 4)) ∧ w'.cell? ⟨ab, 5, none⟩ = some (.int .i64 (V 5)) ∧ w'.cell? ⟨ab, 6, none⟩ = some (.int .i64 (V 6)) ∧ w'.cell? ⟨ab, 7, none⟩ = some (.int .i64 (V 7)) ∧ w'.cell? ⟨ab, 8, none⟩ = some (.int .i64 (V 8)) ∧ w'.cell? ⟨ab, 9, none⟩ = some (.int .i64 (V 9)) ∧ w'.cell? ⟨ab, 10, none⟩ = some (.int .i64 (V 10)) ∧ w'.cell? ⟨ab, 11, none⟩ = some (.int .i64 (V 11)) ∧ w'.cell? ⟨xb, 0, none⟩ = some (.int .i64 (U 0)) ∧ w'.cell? ⟨xb, 1, none⟩ = some (.int .i64 (U 1)) ∧ w'.cell? ⟨xb, 2, none⟩ = some (.int .i64 (U 2)) ∧ w'.cell? ⟨xb, 3, none⟩ = some (.int .i64 (U 3)) ∧ w'.cell? ⟨xb, 4, none⟩ = some (.int .i64 (U 4)) ∧ w'.cell? ⟨xb, 5, none⟩ = some (.int .i64 (U 5)) ∧ w'.cell? ⟨xb, 6, none⟩ = some (.int .i64 (U 6)) ∧ w'.cell? ⟨xb, 7, none⟩ = some (.int .i64 (U 7)) ∧ w'.cell? ⟨xb, 8, none⟩ = some (.int .i64 (U 8)) ∧ w'.cell? ⟨xb, 9, none⟩ = some (.int .i64 (U 9)) ∧ w'.cell? ⟨xb, 10, none⟩ = some (.int .i64 (U 10)) ∧ w'.cell? ⟨xb, 11, none⟩ = some (.int .i64 (U 11))) (by kernel_rfl) ?_ (fun hHeld => ?_)
    · (try dsimp only)
      (first | (go_simp; done) | (go_keep; done))
    (refine wpAnyH_take (i := 0) (oi := { dst := some 14, op := Go.Op.load 28 (Go.Operand.tmp 4), type := 28, pos := "laws.go:625", after := #[], guard := none }) (v := ?_) rfl (by kernel_rfl) (by kernel_rfl) (by kernel_rfl) (fun _ _ _ h => h) (Or.inl ⟨by rfl, ?_⟩) hHeld ?_; rotate_left; (focus ((intro w hSw; (try dsimp only at hSw); go_simp); (try with_reducible rfl); done)); (try simp only [Act.put, List.setIfInBounds_toArray, List.set_cons_zero, List.set_cons_succ]))
    (refine wpAnyH_take (i := 1) (oi := { dst := some 15, op := Go.Op.load 28 (Go.Operand.tmp 3), type := 28, pos := "laws.go:625", after := #[], guard := none }) (v := ?_) rfl (by kernel_rfl) (by kernel_rfl) (by kernel_rfl) (fun _ _ _ h => h) (Or.inl ⟨by rfl, ?_⟩) hHeld ?_; rotate_left; (focus ((intro w hSw; (try dsimp only at hSw); go_simp); (try with_reducible rfl); done)); (try simp only [Act.put, List.setIfInBounds_toArray, List.set_cons_zero, List.set_cons_succ]))
    (refine wpAnyH_ready (rs := [2]) (by kernel_rfl) (by simp) ?_; refine AllReadyH.cons (o := { dst := some 16, op := Go.Op.call { callee := Go.Callee.value (Go.Operand.func 28), args := #[Go.Operand.tmp 15], argTypes := #[28] }, type := 28, pos := "laws.go:625", after := #[{ on := 1, ground := Go.Ground.data }], guard := none }) rfl (fun K hK => ?_) AllReadyH.nil; go_simp; (go_at_call 28; refine (sBodyMove_q V U _ eU).mono ?_; rintro e w10 ⟨rfl, hb10⟩; obtain ⟨hc10, hf10⟩ := bcell hb10; have hz10 := hb10.size; (try simp only [World.size_drew, World.size_alloc, World.size_setCell] at hc10 hf10 hz10); have hk10x0 := fun o => hc10 (ab) o (by omega); have hj10x0 := fun o => hf10 (ab) o (by omega); have hq10x0 : ab < w10.heap.size := (by omega); have hk10x1 := fun o => hc10 (xb) o (by omega); have hj10x1 := fun o => hf10 (xb) o (by omega); have hq10x1 : xb < w10.heap.size := (by omega); clear hc10 hf10); (try go_wp2_with fail); refine hK.out _ _ ?_ (fun hHeld => ?_); (focus ((try dsimp only); (first | (go_simp; done) | (go_keep; done)))); clear hK K; (try simp only [Act.put, List.setIfInBounds_toArray, List.set_cons_zero, List.set_cons_succ]))
    (refine wpAnyH_take (i := 3) (oi := { dst := some 17, op := Go.Op.binOp Go.BinOp.neq 28 (Go.Operand.tmp 14) (Go.Operand.tmp 16) 28, type := 4, pos := "laws.go:625", after := #[{ on := 0, ground := Go.Ground.data }, { on := 2, ground := Go.Ground.data }], guard := none }) (v := ?_) rfl (by kernel_rfl) (by kernel_rfl) (by kernel_rfl) (fun _ _ _ h => h) (Or.inl ⟨by rfl, ?_⟩) hHeld ?_; rotate_left; (focus ((intro w hSw; (try dsimp only at hSw); go_simp); (try with_reducible rfl); done)); (try simp only [Act.put, List.setIfInBounds_toArray, List.set_cons_zero, List.set_cons_succ]))
    (refine wpAnyH_take (i := 4) (oi := { dst := some 18, op := Go.Op.move (Go.Operand.tmp 17), type := 4, pos := "laws.go:625", after := #[{ on := 3, ground := Go.Ground.data }, { on := 2, ground := Go.Ground.chain }], guard := none }) (v := ?_) rfl (by kernel_rfl) (by kernel_rfl) (by kernel_rfl) (fun _ _ _ h => h) (Or.inl ⟨by rfl, ?_⟩) hHeld ?_; rotate_left; (focus ((intro w hSw; (try dsimp only at hSw); go_simp); (try with_reducible rfl); done)); (try simp only [Act.put, List.setIfInBounds_toArray, List.set_cons_zero, List.set_cons_succ]))
    (refine wpAnyH_take (i := 5) (oi := { dst := some 19, op := Go.Op.load 28 (Go.Operand.tmp 3), type := 28, pos := "laws.go:625", after := #[{ on := 4, ground := Go.Ground.guard }], guard := some (4, false) }) (v := ?_) rfl (by kernel_rfl) (by kernel_rfl) (by kernel_rfl) (fun _ _ _ h => h) (Or.inl ⟨by rfl, ?_⟩) hHeld ?_; rotate_left; (focus ((intro w hSw; (try dsimp only at hSw); go_simp); (try with_reducible rfl); done)); (try simp only [Act.put, List.setIfInBounds_toArray, List.set_cons_zero, List.set_cons_succ]))
    (refine wpAnyH_ready (rs := [6]) (by kernel_rfl) (by simp) ?_; refine AllReadyH.cons (o := { dst := some 20, op := Go.Op.call { callee := Go.Callee.value (Go.Operand.func 19), args := #[Go.Operand.tmp 19], argTypes := #[28] }, type := 4, pos := "laws.go:625", after := #[{ on := 5, ground := Go.Ground.data }, { on := 4, ground := Go.Ground.chain }, { on := 4, ground := Go.Ground.guard }], guard := some (4, false) }) rfl (fun K hK => ?_) AllReadyH.nil; go_simp; (go_at_call 19; refine (sBodyOk_q V _ _ eb).mono ?_; rintro e w11 ⟨rfl, hb11⟩; obtain ⟨hc11, hf11⟩ := bcell hb11; have hz11 := hb11.size; (try simp only [World.size_drew, World.size_alloc, World.size_setCell] at hc11 hf11 hz11); have hk11x0 := fun o => hc11 (ab) o (by omega); have hj11x0 := fun o => hf11 (ab) o (by omega); have hq11x0 : ab < w11.heap.size := (by omega); have hk11x1 := fun o => hc11 (xb) o (by omega); have hj11x1 := fun o => hf11 (xb) o (by omega); have hq11x1 : xb < w11.heap.size := (by omega); clear hc11 hf11); (try go_wp2_with fail); refine hK.out _ _ ?_ (fun hHeld => ?_); (focus ((try dsimp only); (first | (go_simp; done) | (go_keep; done)))); clear hK K; (try simp only [Act.put, List.setIfInBounds_toArray, List.set_cons_zero, List.set_cons_succ]))
    (refine wpAnyH_take (i := 7) (oi := { dst := some 21, op := Go.Op.unOp Go.UnOp.not 4 (Go.Operand.tmp 20), type := 4, pos := "laws.go:625", after := #[{ on := 6, ground := Go.Ground.data }, { on := 4, ground := Go.Ground.guard }], guard := some (4, false) }) (v := ?_) rfl (by kernel_rfl) (by kernel_rfl) (by kernel_rfl) (fun _ _ _ h => h) (Or.inl ⟨by rfl, ?_⟩) hHeld ?_; rotate_left; (focus ((intro w hSw; (try dsimp only at hSw); go_simp); (try with_reducible rfl); done)); (try simp only [Act.put, List.setIfInBounds_toArray, List.set_cons_zero, List.set_cons_succ]))
    (refine wpAnyH_take (i := 8) (oi := { dst := some 22, op := Go.Op.pick (Go.Operand.tmp 18) (Go.Operand.const (Go.Value.bool true)) (Go.Operand.tmp 21), type := 4, pos := "laws.go:625", after := #[{ on := 4, ground := Go.Ground.data }, { on := 7, ground := Go.Ground.data }], guard := none }) (v := ?_) rfl (by kernel_rfl) (by kernel_rfl) (by kernel_rfl) (fun _ _ _ h => h) (Or.inl ⟨by rfl, ?_⟩) hHeld ?_; rotate_left; (focus ((intro w hSw; (try dsimp only at hSw); go_simp); (try with_reducible rfl); done)); (try simp only [Act.put, List.setIfInBounds_toArray, List.set_cons_zero, List.set_cons_succ]))
    refine wpAnyH_done (by kernel_rfl) ?_ _
    go_upto_region 6 with fail
    refine wp_region_held_drew (S := fun w' => w'.cell? ⟨ab, 0, none⟩ = some (.int .i64 (V 0)) ∧ w'.cell? ⟨ab, 1, none⟩ = some (.int .i64 (V 1)) ∧ w'.cell? ⟨ab, 2, none⟩ = some (.int .i64 (V 2)) ∧ w'.cell? ⟨ab, 3, none⟩ = some (.int .i64 (V 3)) ∧ w'.cell? ⟨ab, 4, none⟩ = some (.int .i64 (V 4)) ∧ w'.cell? ⟨ab, 5, none⟩ = some (.int .i64 (V 5)) ∧ w'.cell? ⟨ab, 6, none⟩ = some (.int .i64 (V 6)) ∧ w'.cell? ⟨ab, 7, none⟩ = some (.int .i64 (V 7)) ∧ w'.cell? ⟨ab, 8, none⟩ = some (.int .i64 (V 8)) ∧ w'.cell? ⟨ab, 9, none⟩ = some (.int .i64 (V 9)) ∧ w'.cell? ⟨ab, 10, none⟩ = some (.int .i64 (V 10)) ∧ w'.cell? ⟨ab, 11, none⟩ = some (.int .i64 (V 11)) ∧ w'.cell? ⟨xb, 0, none⟩ = some (.int .i64 (U 0)) ∧ w'.cell? ⟨xb, 1, none⟩ = some (.int .i64 (U 1)) ∧ w'.cell? ⟨xb, 2, none⟩ = some (.int .i64 (U 2)) ∧ w'.cell? ⟨xb, 3, none⟩ = some (.int .i64 (U 3)) ∧ w'.cell? ⟨xb, 4, none⟩ = some (.int .i64 (U 4)) ∧ w'.cell? ⟨xb, 5, none⟩ = some (.int .i64 (U 5)) ∧ w'.cell? ⟨xb, 6, none⟩ = some (.int .i64 (U 6)) ∧ w'.cell? ⟨xb, 7, none⟩ = some (.int .i64 (U 7)) ∧ w'.cell? ⟨xb, 8, none⟩ = some (.int .i64 (U 8)) ∧ w'.cell? ⟨xb, 9, none⟩ = some (.int .i64 (U 9)) ∧ w'.cell? ⟨xb, 10, none⟩ = some (.int .i64 (U 10)) ∧ w'.cell? ⟨xb, 11, none⟩ = some (.int .i64 (U 11))) (by kernel_rfl) ?_ (fun hHeld => ?_)
    · (try dsimp only)
      (first | (go_simp; done) | (go_keep; done))
    (refine wpAnyH_take (i := 0) (oi := { dst := some 23, op := Go.Op.load 28 (Go.Operand.tmp 4), type := 28, pos := "laws.go:626", after := #[], guard := none }) (v := ?_) rfl (by kernel_rfl) (by kernel_rfl) (by kernel_rfl) (fun _ _ _ h => h) (Or.inl ⟨by rfl, ?_⟩) hHeld ?_; rotate_left; (focus ((intro w hSw; (try dsimp only at hSw); go_simp); (try with_reducible rfl); done)); (try simp only [Act.put, List.setIfInBounds_toArray, List.set_cons_zero, List.set_cons_succ]))
    (refine wpAnyH_take (i := 1) (oi := { dst := some 24, op := Go.Op.load 28 (Go.Operand.tmp 3), type := 28, pos := "laws.go:626", after := #[], guard := none }) (v := ?_) rfl (by kernel_rfl) (by kernel_rfl) (by kernel_rfl) (fun _ _ _ h => h) (Or.inl ⟨by rfl, ?_⟩) hHeld ?_; rotate_left; (focus ((intro w hSw; (try dsimp only at hSw); go_simp); (try with_reducible rfl); done)); (try simp only [Act.put, List.setIfInBounds_toArray, List.set_cons_zero, List.set_cons_succ]))
    (refine wpAnyH_ready (rs := [2]) (by kernel_rfl) (by simp) ?_; refine AllReadyH.cons (o := { dst := some 25, op := Go.Op.call { callee := Go.Callee.value (Go.Operand.func 28), args := #[Go.Operand.tmp 24], argTypes := #[28] }, type := 28, pos := "laws.go:626", after := #[{ on := 1, ground := Go.Ground.data }], guard := none }) rfl (fun K hK => ?_) AllReadyH.nil; go_simp; (go_at_call 28; refine (sBodyMove_q V U _ eU).mono ?_; rintro e w20 ⟨rfl, hb20⟩; obtain ⟨hc20, hf20⟩ := bcell hb20; have hz20 := hb20.size; (try simp only [World.size_drew, World.size_alloc, World.size_setCell] at hc20 hf20 hz20); have hk20x0 := fun o => hc20 (ab) o (by omega); have hj20x0 := fun o => hf20 (ab) o (by omega); have hq20x0 : ab < w20.heap.size := (by omega); have hk20x1 := fun o => hc20 (xb) o (by omega); have hj20x1 := fun o => hf20 (xb) o (by omega); have hq20x1 : xb < w20.heap.size := (by omega); clear hc20 hf20); (try go_wp2_with fail); refine hK.out _ _ ?_ (fun hHeld => ?_); (focus ((try dsimp only); (first | (go_simp; done) | (go_keep; done)))); clear hK K; (try simp only [Act.put, List.setIfInBounds_toArray, List.set_cons_zero, List.set_cons_succ]))
    (refine wpAnyH_take (i := 3) (oi := { dst := some 26, op := Go.Op.binOp Go.BinOp.eql 28 (Go.Operand.tmp 23) (Go.Operand.tmp 25) 28, type := 4, pos := "laws.go:626", after := #[{ on := 0, ground := Go.Ground.data }, { on := 2, ground := Go.Ground.data }], guard := none }) (v := ?_) rfl (by kernel_rfl) (by kernel_rfl) (by kernel_rfl) (fun _ _ _ h => h) (Or.inl ⟨by rfl, ?_⟩) hHeld ?_; rotate_left; (focus ((intro w hSw; (try dsimp only at hSw); go_simp); (try with_reducible rfl); done)); (try simp only [Act.put, List.setIfInBounds_toArray, List.set_cons_zero, List.set_cons_succ]))
    (refine wpAnyH_take (i := 4) (oi := { dst := some 2, op := Go.Op.assign (Go.Operand.tmp 26), type := 4, pos := "laws.go:626", after := #[{ on := 3, ground := Go.Ground.data }, { on := 2, ground := Go.Ground.chain }, { on := 0, ground := Go.Ground.phase }, { on := 1, ground := Go.Ground.phase }, { on := 2, ground := Go.Ground.phase }, { on := 3, ground := Go.Ground.phase }], guard := none }) (v := ?_) rfl (by kernel_rfl) (by kernel_rfl) (by kernel_rfl) (fun _ _ _ h => h) (Or.inl ⟨by rfl, ?_⟩) hHeld ?_; rotate_left; (focus ((intro w hSw; (try dsimp only at hSw); go_simp); (try with_reducible rfl); done)); (try simp only [Act.put, List.setIfInBounds_toArray, List.set_cons_zero, List.set_cons_succ]))
    refine wpAnyH_done (by kernel_rfl) ?_ _
    go_wp2_with fail
    go_ret
    exact ⟨rfl, by repeat (first | with_reducible apply Below.refl | (with_reducible apply Below.setCell; rotate_left; focus (first | omega | (simp; done) | (simp; omega))) | (with_reducible apply Below.alloc; rotate_left; focus (first | omega | (simp; done) | (simp; omega))) | with_reducible apply Below.drew | with_reducible apply belowDrewN | (with_reducible apply Below.trans; rotate_left; with_reducible apply Below.mono; with_reducible assumption; focus (first | omega | (simp; done) | (simp; omega))))⟩
  | true =>
    obtain ⟨⟨m0, m1⟩, ⟨n0, n1⟩, ⟨x0, x1⟩, ⟨y0, y1⟩, u0, v0, hrb⟩ := bodyB_bd eb
    have sx := spX_bd V u0
    have sy := spY_bd V v0
    have eU2 : moveV V (spX V) (spY V) = U := by rw [← eU]; unfold bmV; rw [if_pos eb]
    have eUb : bodyB U = true := by rw [← eU2]; exact move_ok eb
    obtain ⟨s0, s1, s2, s3, g4, g5, h6, h7, s8, s9, s10, s11⟩ := move_at V (spX V) (spY V)
    rw [eU2] at s0 s1 s2 s3 g4 g5 h6 h7 s8 s9 s10 s11
    have sm : U 0 = V 0 ∧ U 1 = V 1 ∧ U 2 = V 2 ∧ U 3 = V 3 ∧ U 8 = V 8 ∧ U 9 = V 9 ∧ U 10 = V 10 ∧ U 11 = V 11 := ⟨s0, s1, s2, s3, s8, s9, s10, s11⟩
    clear s0 s1 s2 s3 s8 s9 s10 s11
    obtain ⟨X, eX1⟩ : ∃ X, spX V = X := ⟨_, rfl⟩
    obtain ⟨Y, eY1⟩ : ∃ Y, spY V = Y := ⟨_, rfl⟩
    have eX : (bif bodyB V then spX V else 0) = X := by rw [eb]; exact eX1
    have eY : (bif bodyB V then spY V else 0) = Y := by rw [eb]; exact eY1
    rw [eX1] at sx g4 h6
    rw [eY1] at sy g5 h7
    clear eX1 eY1
    obtain ⟨tx, et⟩ : ∃ tx, V 4 + X = tx := ⟨_, rfl⟩
    obtain ⟨ty, eu⟩ : ∃ ty, V 5 + Y = ty := ⟨_, rfl⟩
    have e1 : fc (fc (V 4) + fc X) = tx := by rw [fc_id (n := V 4) (by omega) (by omega), fc_id (n := X) (by omega) (by omega), et, fc_id (by omega) (by omega)]
    have e2 : fc (fc (V 5) + fc Y) = ty := by rw [fc_id (n := V 5) (by omega) (by omega), fc_id (n := Y) (by omega) (by omega), eu, fc_id (by omega) (by omega)]
    rw [et] at g4 h6
    rw [eu] at g5 h7
    have tb : -30000000 ≤ tx ∧ tx ≤ 30000000 := by omega
    have tc : -30000000 ≤ ty ∧ ty ≤ 30000000 := by omega
    have bu4 := clamp_in (l := 2560000) (n := tx) (by omega)
    have bu5 := clamp_in (l := 2560000) (n := ty) (by omega)
    rw [← g4] at bu4
    rw [← g5] at bu5
    have cd4 : decide (absZ (U 4) ≤ 2560000) = true := decide_eq_true (abs_le.2 bu4)
    have cd5 : decide (absZ (U 5) ≤ 2560000) = true := decide_eq_true (abs_le.2 bu5)
    have hG : Shut ((U 4 = clampZ 2560000 tx) ∧ (U 5 = clampZ 2560000 ty) ∧ (U 6 = (if clampZ 2560000 tx = tx then V 6 else 0)) ∧ (U 7 = (if clampZ 2560000 ty = ty then V 7 else 0)) ∧ (U 0 = V 0 ∧ U 1 = V 1 ∧ U 2 = V 2 ∧ U 3 = V 3 ∧ U 8 = V 8 ∧ U 9 = V 9 ∧ U 10 = V 10 ∧ U 11 = V 11)) := ⟨g4, g5, h6, h7, sm⟩
    clear g4 g5 h6 h7 sm et eu eU2
    refine wp_region_held_drew (S := fun w' => w'.cell? ⟨ab, 0, none⟩ = some (.int .i64 (V 0)) ∧ w'.cell? ⟨ab, 1, none⟩ = some (.int .i64 (V 1)) ∧ w'.cell? ⟨ab, 2, none⟩ = some (.int .i64 (V 2)) ∧ w'.cell? ⟨ab, 3, none⟩ = some (.int .i64 (V 3)) ∧ w'.cell? ⟨ab, 4, none⟩ = some (.int .i64 (V 4)) ∧ w'.cell? ⟨ab, 5, none⟩ = some (.int .i64 (V 5)) ∧ w'.cell? ⟨ab, 6, none⟩ = some (.int .i64 (V 6)) ∧ w'.cell? ⟨ab, 7, none⟩ = some (.int .i64 (V 7)) ∧ w'.cell? ⟨ab, 8, none⟩ = some (.int .i64 (V 8)) ∧ w'.cell? ⟨ab, 9, none⟩ = some (.int .i64 (V 9)) ∧ w'.cell? ⟨ab, 10, none⟩ = some (.int .i64 (V 10)) ∧ w'.cell? ⟨ab, 11, none⟩ = some (.int .i64 (V 11)) ∧ w'.cell? ⟨xb, 0, none⟩ = some (.int .i64 (U 0)) ∧ w'.cell? ⟨xb, 1, none⟩ = some (.int .i64 (U 1)) ∧ w'.cell? ⟨xb, 2, none⟩ = some (.int .i64 (U 2)) ∧ w'.cell? ⟨xb, 3, none⟩ = some (.int .i64 (U 3)) ∧ w'.cell? ⟨xb, 4, none⟩ = some (.int .i64 (U 4)) ∧ w'.cell? ⟨xb, 5, none⟩ = some (.int .i64 (U 5)) ∧ w'.cell? ⟨xb, 6, none⟩ = some (.int .i64 (U 6)) ∧ w'.cell? ⟨xb, 7, none⟩ = some (.int .i64 (U 7)) ∧ w'.cell? ⟨xb, 8, none⟩ = some (.int .i64 (U 8)) ∧ w'.cell? ⟨xb, 9, none⟩ = some (.int .i64 (U 9)) ∧ w'.cell? ⟨xb, 10, none⟩ = some (.int .i64 (U 10)) ∧ w'.cell? ⟨xb, 11, none⟩ = some (.int .i64 (U 11))) (by kernel_rfl) ?_ (fun hHeld => ?_)
    · (try dsimp only)
      (first | (go_simp; done) | (go_keep; done))
    (refine wpAnyH_take (i := 0) (oi := { dst := some 14, op := Go.Op.load 28 (Go.Operand.tmp 4), type := 28, pos := "laws.go:625", after := #[], guard := none }) (v := ?_) rfl (by kernel_rfl) (by kernel_rfl) (by kernel_rfl) (fun _ _ _ h => h) (Or.inl ⟨by rfl, ?_⟩) hHeld ?_; rotate_left; (focus ((intro w hSw; (try dsimp only at hSw); go_simp); (try with_reducible rfl); done)); (try simp only [Act.put, List.setIfInBounds_toArray, List.set_cons_zero, List.set_cons_succ]))
    (refine wpAnyH_take (i := 1) (oi := { dst := some 15, op := Go.Op.load 28 (Go.Operand.tmp 3), type := 28, pos := "laws.go:625", after := #[], guard := none }) (v := ?_) rfl (by kernel_rfl) (by kernel_rfl) (by kernel_rfl) (fun _ _ _ h => h) (Or.inl ⟨by rfl, ?_⟩) hHeld ?_; rotate_left; (focus ((intro w hSw; (try dsimp only at hSw); go_simp); (try with_reducible rfl); done)); (try simp only [Act.put, List.setIfInBounds_toArray, List.set_cons_zero, List.set_cons_succ]))
    (refine wpAnyH_ready (rs := [2]) (by kernel_rfl) (by simp) ?_; refine AllReadyH.cons (o := { dst := some 16, op := Go.Op.call { callee := Go.Callee.value (Go.Operand.func 28), args := #[Go.Operand.tmp 15], argTypes := #[28] }, type := 28, pos := "laws.go:625", after := #[{ on := 1, ground := Go.Ground.data }], guard := none }) rfl (fun K hK => ?_) AllReadyH.nil; go_simp; (go_at_call 28; refine (sBodyMove_q V U _ eU).mono ?_; rintro e w10 ⟨rfl, hb10⟩; obtain ⟨hc10, hf10⟩ := bcell hb10; have hz10 := hb10.size; (try simp only [World.size_drew, World.size_alloc, World.size_setCell] at hc10 hf10 hz10); have hk10x0 := fun o => hc10 (ab) o (by omega); have hj10x0 := fun o => hf10 (ab) o (by omega); have hq10x0 : ab < w10.heap.size := (by omega); have hk10x1 := fun o => hc10 (xb) o (by omega); have hj10x1 := fun o => hf10 (xb) o (by omega); have hq10x1 : xb < w10.heap.size := (by omega); clear hc10 hf10); (try go_wp2_with fail); refine hK.out _ _ ?_ (fun hHeld => ?_); (focus ((try dsimp only); (first | (go_simp; done) | (go_keep; done)))); clear hK K; (try simp only [Act.put, List.setIfInBounds_toArray, List.set_cons_zero, List.set_cons_succ]))
    (refine wpAnyH_take (i := 3) (oi := { dst := some 17, op := Go.Op.binOp Go.BinOp.neq 28 (Go.Operand.tmp 14) (Go.Operand.tmp 16) 28, type := 4, pos := "laws.go:625", after := #[{ on := 0, ground := Go.Ground.data }, { on := 2, ground := Go.Ground.data }], guard := none }) (v := ?_) rfl (by kernel_rfl) (by kernel_rfl) (by kernel_rfl) (fun _ _ _ h => h) (Or.inl ⟨by rfl, ?_⟩) hHeld ?_; rotate_left; (focus ((intro w hSw; (try dsimp only at hSw); go_simp); (try with_reducible rfl); done)); (try simp only [Act.put, List.setIfInBounds_toArray, List.set_cons_zero, List.set_cons_succ]))
    (refine wpAnyH_take (i := 4) (oi := { dst := some 18, op := Go.Op.move (Go.Operand.tmp 17), type := 4, pos := "laws.go:625", after := #[{ on := 3, ground := Go.Ground.data }, { on := 2, ground := Go.Ground.chain }], guard := none }) (v := ?_) rfl (by kernel_rfl) (by kernel_rfl) (by kernel_rfl) (fun _ _ _ h => h) (Or.inl ⟨by rfl, ?_⟩) hHeld ?_; rotate_left; (focus ((intro w hSw; (try dsimp only at hSw); go_simp); (try with_reducible rfl); done)); (try simp only [Act.put, List.setIfInBounds_toArray, List.set_cons_zero, List.set_cons_succ]))
    (refine wpAnyH_take (i := 5) (oi := { dst := some 19, op := Go.Op.load 28 (Go.Operand.tmp 3), type := 28, pos := "laws.go:625", after := #[{ on := 4, ground := Go.Ground.guard }], guard := some (4, false) }) (v := ?_) rfl (by kernel_rfl) (by kernel_rfl) (by kernel_rfl) (fun _ _ _ h => h) (Or.inl ⟨by rfl, ?_⟩) hHeld ?_; rotate_left; (focus ((intro w hSw; (try dsimp only at hSw); go_simp); (try with_reducible rfl); done)); (try simp only [Act.put, List.setIfInBounds_toArray, List.set_cons_zero, List.set_cons_succ]))
    (refine wpAnyH_ready (rs := [6]) (by kernel_rfl) (by simp) ?_; refine AllReadyH.cons (o := { dst := some 20, op := Go.Op.call { callee := Go.Callee.value (Go.Operand.func 19), args := #[Go.Operand.tmp 19], argTypes := #[28] }, type := 4, pos := "laws.go:625", after := #[{ on := 5, ground := Go.Ground.data }, { on := 4, ground := Go.Ground.chain }, { on := 4, ground := Go.Ground.guard }], guard := some (4, false) }) rfl (fun K hK => ?_) AllReadyH.nil; go_simp; (go_at_call 19; refine (sBodyOk_q V _ _ eb).mono ?_; rintro e w11 ⟨rfl, hb11⟩; obtain ⟨hc11, hf11⟩ := bcell hb11; have hz11 := hb11.size; (try simp only [World.size_drew, World.size_alloc, World.size_setCell] at hc11 hf11 hz11); have hk11x0 := fun o => hc11 (ab) o (by omega); have hj11x0 := fun o => hf11 (ab) o (by omega); have hq11x0 : ab < w11.heap.size := (by omega); have hk11x1 := fun o => hc11 (xb) o (by omega); have hj11x1 := fun o => hf11 (xb) o (by omega); have hq11x1 : xb < w11.heap.size := (by omega); clear hc11 hf11); (try go_wp2_with fail); refine hK.out _ _ ?_ (fun hHeld => ?_); (focus ((try dsimp only); (first | (go_simp; done) | (go_keep; done)))); clear hK K; (try simp only [Act.put, List.setIfInBounds_toArray, List.set_cons_zero, List.set_cons_succ]))
    (refine wpAnyH_take (i := 7) (oi := { dst := some 21, op := Go.Op.unOp Go.UnOp.not 4 (Go.Operand.tmp 20), type := 4, pos := "laws.go:625", after := #[{ on := 6, ground := Go.Ground.data }, { on := 4, ground := Go.Ground.guard }], guard := some (4, false) }) (v := ?_) rfl (by kernel_rfl) (by kernel_rfl) (by kernel_rfl) (fun _ _ _ h => h) (Or.inl ⟨by rfl, ?_⟩) hHeld ?_; rotate_left; (focus ((intro w hSw; (try dsimp only at hSw); go_simp); (try with_reducible rfl); done)); (try simp only [Act.put, List.setIfInBounds_toArray, List.set_cons_zero, List.set_cons_succ]))
    (refine wpAnyH_take (i := 8) (oi := { dst := some 22, op := Go.Op.pick (Go.Operand.tmp 18) (Go.Operand.const (Go.Value.bool true)) (Go.Operand.tmp 21), type := 4, pos := "laws.go:625", after := #[{ on := 4, ground := Go.Ground.data }, { on := 7, ground := Go.Ground.data }], guard := none }) (v := ?_) rfl (by kernel_rfl) (by kernel_rfl) (by kernel_rfl) (fun _ _ _ h => h) (Or.inl ⟨by rfl, ?_⟩) hHeld ?_; rotate_left; (focus ((intro w hSw; (try dsimp only at hSw); go_simp); (try with_reducible rfl); done)); (try simp only [Act.put, List.setIfInBounds_toArray, List.set_cons_zero, List.set_cons_succ]))
    refine wpAnyH_done (by kernel_rfl) ?_ _
    go_upto_region 9 with (first
    | (have _ := hb30; go_at_call 29; refine (vecAdd_q _ _ _ _ tx ty _ e1 e2).mono ?_; rintro e w31 ⟨rfl, hb31⟩; obtain ⟨hc31, hf31⟩ := bcell hb31; have hz31 := hb31.size; (try simp only [World.size_drew, World.size_alloc, World.size_setCell] at hc31 hf31 hz31); have hk31x0 := fun o => hc31 (ab) o (by omega); have hj31x0 := fun o => hf31 (ab) o (by omega); have hq31x0 : ab < w31.heap.size := (by omega); have hk31x1 := fun o => hc31 (xb) o (by omega); have hj31x1 := fun o => hf31 (xb) o (by omega); have hq31x1 : xb < w31.heap.size := (by omega); have hk31x2 := fun o => hc31 (w30.heap.size) o (by omega); have hj31x2 := fun o => hf31 (w30.heap.size) o (by omega); have hq31x2 : w30.heap.size < w31.heap.size := (by omega); clear hc31 hf31)
    | (go_at_call 16; refine (speed_q V X Y _ eX eY).mono ?_; rintro e w30 ⟨rfl, hb30⟩; obtain ⟨hc30, hf30⟩ := bcell hb30; have hz30 := hb30.size; (try simp only [World.size_drew, World.size_alloc, World.size_setCell] at hc30 hf30 hz30); have hk30x0 := fun o => hc30 (ab) o (by omega); have hj30x0 := fun o => hf30 (ab) o (by omega); have hq30x0 : ab < w30.heap.size := (by omega); have hk30x1 := fun o => hc30 (xb) o (by omega); have hj30x1 := fun o => hf30 (xb) o (by omega); have hq30x1 : xb < w30.heap.size := (by omega); clear hc30 hf30))
    cases dx : decide (2560000 < absZ tx) with
    | true =>
      go_wp2_with (first
    | (go_at_call 22; refine (pqAbs_any _ _ (by omega) (by omega)).mono ?_; rintro e w' ⟨rfl, rfl⟩)
    | (go_at_call 18; refine (bodyOk_q U _ _ eUb).mono ?_; rintro e w32 ⟨rfl, hb32⟩; obtain ⟨hc32, hf32⟩ := bcell hb32; have hz32 := hb32.size; (try simp only [World.size_drew, World.size_alloc, World.size_setCell] at hc32 hf32 hz32); have hk32x0 := fun o => hc32 (ab) o (by omega); have hj32x0 := fun o => hf32 (ab) o (by omega); have hq32x0 : ab < w32.heap.size := (by omega); have hk32x1 := fun o => hc32 (xb) o (by omega); have hj32x1 := fun o => hf32 (xb) o (by omega); have hq32x1 : xb < w32.heap.size := (by omega); clear hc32 hf32))
      go_ret
      exact ⟨rfl, by repeat (first | with_reducible apply Below.refl | (with_reducible apply Below.setCell; rotate_left; focus (first | omega | (simp; done) | (simp; omega))) | (with_reducible apply Below.alloc; rotate_left; focus (first | omega | (simp; done) | (simp; omega))) | with_reducible apply Below.drew | with_reducible apply belowDrewN | (with_reducible apply Below.trans; rotate_left; with_reducible apply Below.mono; with_reducible assumption; focus (first | omega | (simp; done) | (simp; omega))))⟩
    | false =>
      cases dy : decide (2560000 < absZ ty) with
      | true =>
        go_wp2_with (first
    | (go_at_call 22; refine (pqAbs_any _ _ (by omega) (by omega)).mono ?_; rintro e w' ⟨rfl, rfl⟩)
    | (go_at_call 18; refine (bodyOk_q U _ _ eUb).mono ?_; rintro e w32 ⟨rfl, hb32⟩; obtain ⟨hc32, hf32⟩ := bcell hb32; have hz32 := hb32.size; (try simp only [World.size_drew, World.size_alloc, World.size_setCell] at hc32 hf32 hz32); have hk32x0 := fun o => hc32 (ab) o (by omega); have hj32x0 := fun o => hf32 (ab) o (by omega); have hq32x0 : ab < w32.heap.size := (by omega); have hk32x1 := fun o => hc32 (xb) o (by omega); have hj32x1 := fun o => hf32 (xb) o (by omega); have hq32x1 : xb < w32.heap.size := (by omega); clear hc32 hf32))
        go_ret
        exact ⟨rfl, by repeat (first | with_reducible apply Below.refl | (with_reducible apply Below.setCell; rotate_left; focus (first | omega | (simp; done) | (simp; omega))) | (with_reducible apply Below.alloc; rotate_left; focus (first | omega | (simp; done) | (simp; omega))) | with_reducible apply Below.drew | with_reducible apply belowDrewN | (with_reducible apply Below.trans; rotate_left; with_reducible apply Below.mono; with_reducible assumption; focus (first | omega | (simp; done) | (simp; omega))))⟩
      | false =>
        have ix := abs_le.1 (Int.not_lt.1 (of_decide_eq_false dx))
        have iy := abs_le.1 (Int.not_lt.1 (of_decide_eq_false dy))
        obtain ⟨g4, g5, h6, h7, s0, s1, s2, s3, s8, s9, s10, s11⟩ := hG.out
        rw [clamp_id ix] at g4 h6
        rw [clamp_id iy] at g5 h7
        rw [if_pos rfl] at h6 h7
        clear hG
        go_upto_region 11 with (go_at_call 22; refine (pqAbs_any _ _ (by omega) (by omega)).mono ?_; rintro e w' ⟨rfl, rfl⟩)
        go_wp2_with fail
        go_ret
        exact ⟨rfl, by repeat (first | with_reducible apply Below.refl | (with_reducible apply Below.setCell; rotate_left; focus (first | omega | (simp; done) | (simp; omega))) | (with_reducible apply Below.alloc; rotate_left; focus (first | omega | (simp; done) | (simp; omega))) | with_reducible apply Below.drew | with_reducible apply belowDrewN | (with_reducible apply Below.trans; rotate_left; with_reducible apply Below.mono; with_reducible assumption; focus (first | omega | (simp; done) | (simp; omega))))⟩
end Go.Proofs.Ytflgmpppnobogaa
