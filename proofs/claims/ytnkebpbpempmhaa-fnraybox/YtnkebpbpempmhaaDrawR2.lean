/- The draw of a ray towards a place. -/
import Derived.Test.YtnkebpbpempmhaaDrawR1
import Derived.Test.YtnkebpbpempmhaaShB
import Derived.Test.YtnkebpbpempmhaaSBase
import Derived.Deep.RegionHeld3
import Derived.Deep.DeepCutAuto
namespace Go.Proofs.Ytnkebpbpempmhaa
open Go.RowKit
set_option linter.unusedVariables false
set_option linter.unusedSimpArgs false

theorem RS.below {w w' : World} {rb p : Nat} (h : RS w rb p) (k : Below w.heap.size w w') : RS w' rb p := by
  obtain ⟨q, a, b⟩ := h; exact ⟨q, a, b.below k⟩
theorem RB.ofBelow {w w' : World} {rb p : Nat} (h : RS w rb p) (k : Below w.heap.size w w') : RB w w' rb p := RB.mk (But.of_below k) (h.below k)
theorem within_r (n m a : Int) (w : World) (h0 : 0 ≤ m) (h1 : m ≤ 4000000000) (e : clampZ m n = a) :
    Calls Try.prog 102 #[.int .i64 n, .int .i64 m] w fun e w' => e = .returned (.int .i64 a) ∧ w' = w := by
  subst e
  go_enter Try.func102, Try.ntmps102
  go_wp2_with (first
    | (go_at_call 44; refine (l3Less_any _ _ _).mono ?_; rintro e w' ⟨rfl, rfl⟩)
    | (go_at_call 45; refine (l3More_any _ _ _).mono ?_; rintro e w' ⟨rfl, rfl⟩))
  go_ret
  exact ⟨ret_int (by unfold clampZ mn mx; repeat' split <;> omega), rfl⟩
/-- what lies where while a ray towards a place is drawn -/
structure DT (w w' : World) (rb p ab : Nat) (u v : Int) (V : Nat → Int) : Prop where
  but : But rb w w'
  rs : RS w' rb p
  plc : Al w w' w.heap.size 2 (fun j => [u, v].getD j 0)
  res : Al w w' (w.heap.size + 1) 4 (fun _ => 0)
  bod : Al w w' ab 4 V
  far : w.heap.size + 1 < ab
  bf : RN V
theorem DT.call {w w' w1 : World} {rb p p1 ab : Nat} {u v : Int} {V : Nat → Int} (h : DT w w' rb p ab u v V) (hrb : rb < w.heap.size) (k : RB w' w1 rb p1) : DT w w1 rb p1 ab u v V :=
  ⟨h.but.trans k.but, RS.of k, h.plc.up hrb k.but, h.res.up hrb k.but, h.bod.up hrb k.but, h.far, h.bf⟩
theorem DT.mono {w w' : World} {rb p p1 ab : Nat} {u v : Int} {V : Nat → Int} (h : DT w w' rb p ab u v V) (k : p ≤ p1) : DT w w' rb p1 ab u v V :=
  ⟨h.but, h.rs.mono k, h.plc, h.res, h.bod, h.far, h.bf⟩
theorem DT.drew {w w' : World} {rb p ab : Nat} {u v : Int} {V : Nat → Int} (h : DT w w' rb p ab u v V) : DT w w'.drew rb p ab u v V :=
  ⟨h.but.drew, h.rs.drew, h.plc, h.res, h.bod, h.far, h.bf⟩
theorem DT.set {w w' : World} {rb p ab : Nat} {u v : Int} {V : Nat → Int} (h : DT w w' rb p ab u v V) (hrb : rb < w.heap.size) (k : Nat) (hk : k < 4) (x : Int) (hx : -2560000 ≤ x ∧ x ≤ 2560000) :
    DT w (w'.setCell ⟨ab, k, none⟩ (.int .i64 x)) rb p ab u v (fun j => if j = k then x else V j) := by
  have hf := h.far
  exact ⟨h.but.setNew (by simp; omega) _, h.rs.setNew (by simp; omega) _, h.plc.far (by omega) _, h.res.far (by omega) _, h.bod.set k hk x, h.far, h.bf.set hx⟩
theorem clampR {l n : Int} (h : 0 ≤ l) : -l ≤ clampZ l n ∧ clampZ l n ≤ l := by unfold clampZ; repeat' split <;> omega

set_option maxHeartbeats 8000000 in
theorem l11To_s (rb p : Nat) (u v : Int) (w : World) (hs0 : RS w rb p) (hp : p ≤ 800000) (hu : Bn u) (hv : Bn v) :
    Calls Try.prog 71 #[.pointer (some ⟨rb, 0, none⟩), vv u v] w fun e w' => ∃ V : Nat → Int, e = .returned (b4 (V 0) (V 1) (V 2) (V 3)) ∧ RN V ∧ RB w w' rb (p + 3000) := by
  have hlt := hs0.lt
  have hset := cset_map
  go_enter Try.func71, Try.ntmps71
  go_upto_region 1 with fail
  have a0 : Al w ((w.alloc (.cells #[.int .i64 u, .int .i64 v] 24)).alloc (.cells #[.int .i64 0, .int .i64 0, .int .i64 0, .int .i64 0] 47)) w.heap.size 2 (fun j => [u, v].getD j 0) := (Al.new (Nat.le_refl _) (by intro i hi; rcases (show i = 0 ∨ i = 1 by omega) with rfl | rfl <;> rfl)).belw (but_bel rfl) (by simp)
  have r0 : Al w ((w.alloc (.cells #[.int .i64 u, .int .i64 v] 24)).alloc (.cells #[.int .i64 0, .int .i64 0, .int .i64 0, .int .i64 0] 47)) (w.heap.size + 1) 4 (fun _ => 0) := by
    have h := Al.new (w0 := w) (w := w.alloc (.cells #[.int .i64 u, .int .i64 v] 24)) (cs := #[.int .i64 0, .int .i64 0, .int .i64 0, .int .i64 0]) (t := 47) (n := 4) (V := fun _ => 0) (by simp) (by intro i hi; rcases (show i = 0 ∨ i = 1 ∨ i = 2 ∨ i = 3 by omega) with rfl | rfl | rfl | rfl <;> rfl)
    simpa using h
  have hs1 : RS ((w.alloc (.cells #[.int .i64 u, .int .i64 v] 24)).alloc (.cells #[.int .i64 0, .int .i64 0, .int .i64 0, .int .i64 0] 47)) rb p := (hs0.alloc _).alloc _
  have hb0 : But rb w ((w.alloc (.cells #[.int .i64 u, .int .i64 v] 24)).alloc (.cells #[.int .i64 0, .int .i64 0, .int .i64 0, .int .i64 0] 47)) := (but_alloc rb _ _).alloc _
  generalize ((w.alloc (.cells #[.int .i64 u, .int .i64 v] 24)).alloc (.cells #[.int .i64 0, .int .i64 0, .int .i64 0, .int .i64 0] 47)) = w0 at *
  go_cut [5] (fun s5 wc => ∃ (ab : Nat) (V : Nat → Int), s5 = .pointer (some ⟨ab, 0, none⟩) ∧ DT w wc rb (p + 2100) ab u v V)
  case first =>
    go_wp2_with (go_at_call 101; refine (l11Ray_s rb p _ (by exact hs1) (by omega)).mono ?_; rintro e w1 ⟨V1, rfl, hd1, hr1⟩)
    go_meet
    have ht := RB.but hr1
    have hz := (hb0.trans ht).size
    have hlo := (r0.up hlt ht).2.1
    exact ⟨_, V1, rfl, (hb0.trans ht).alloc _, (RS.up hr1 (by omega)).alloc _, (a0.up hlt ht).up hlt (but_alloc rb _ _), (r0.up hlt ht).up hlt (but_alloc rb _ _), Al.new hz (by intro i hi; rcases (show i = 0 ∨ i = 1 ∨ i = 2 ∨ i = 3 by omega) with rfl | rfl | rfl | rfl <;> rfl), by omega, hd1⟩
  case rest =>
  obtain ⟨ab, V, rfl, hD⟩ := hcut
  clear hs1 hb0 a0 r0 w0
  go_upto_region 2 with fail
  have hlo := hD.far
  go_cut [20] (fun s20 wc => ∃ b : Bool, s20 = .bool b ∧ (b = true → inB 2560000 (V 0) (V 1) = true ∧ inB 2560000 u v = true) ∧ DT w wc rb (p + 2200) ab u v V)
  case first =>
    cases i1 : inB 2560000 (V 0) (V 1)
    all_goals cases i2 : inB 2560000 u v
    all_goals go_wp2_with (first
    | (go_at_call 54; refine (pick_s rb (p + 2100) _ _ (by exact hD.rs) (by omega) (by omega) (by omega)).mono ?_; rintro e w7 ⟨v7, rfl, va7, vb7, hr7⟩; have hD7 := (hD.call hlt hr7).mono (p1 := p + 2200) (by omega); have kc0 := (hD7.bod).2.2.1 0 (by omega); have kf0 := (hD7.bod).2.2.2 0 (by omega); have kc1 := (hD7.bod).2.2.1 1 (by omega); have kf1 := (hD7.bod).2.2.2 1 (by omega); have kc2 := (hD7.bod).2.2.1 2 (by omega); have kf2 := (hD7.bod).2.2.2 2 (by omega); have kc3 := (hD7.bod).2.2.1 3 (by omega); have kf3 := (hD7.bod).2.2.2 3 (by omega); have gc0 := (hD7.plc).2.2.1 0 (by omega); have gf0 := (hD7.plc).2.2.2 0 (by omega); have gc1 := (hD7.plc).2.2.1 1 (by omega); have gf1 := (hD7.plc).2.2.2 1 (by omega))
    | (have _ := hb8; go_at_call 59; refine (l3Place_any u v _).mono ?_; rintro e w9 ⟨rfl, hb9⟩; have hD9 := hD8.call hlt (RB.ofBelow hD8.rs hb9))
    | (go_at_call 59; refine (l3Place_any (V 0) (V 1) _).mono ?_; rintro e w8 ⟨rfl, hb8⟩; have hD8 := hD7.call hlt (RB.ofBelow hD7.rs hb8); have jc0 := (hD8.plc).2.2.1 0 (by omega); have jf0 := (hD8.plc).2.2.2 0 (by omega); have jc1 := (hD8.plc).2.2.1 1 (by omega); have jf1 := (hD8.plc).2.2.2 1 (by omega)))
    all_goals go_meet
    all_goals first
      | exact ⟨_, rfl, (by intro h; first | exact ⟨i1, i2⟩ | cases h), hD9⟩
      | exact ⟨_, rfl, (by intro h; first | exact ⟨i1, i2⟩ | cases h), hD8⟩
      | exact ⟨_, rfl, (by intro h; first | exact ⟨i1, i2⟩ | cases h), hD7⟩
  case rest =>
  clear hD
  obtain ⟨b, rfl, hi, hD⟩ := hcut
  cases b with
  | false =>
    go_upto_region 5 with fail
    have h9 := hD
    have ec0 := (hD.bod).2.2.1 0 (by omega)
    have ef0 := (hD.bod).2.2.2 0 (by omega)
    have ec1 := (hD.bod).2.2.1 1 (by omega)
    have ef1 := (hD.bod).2.2.2 1 (by omega)
    have ec2 := (hD.bod).2.2.1 2 (by omega)
    have ef2 := (hD.bod).2.2.2 2 (by omega)
    have ec3 := (hD.bod).2.2.1 3 (by omega)
    have ef3 := (hD.bod).2.2.2 3 (by omega)
    have rc0 := (hD.res).2.2.1 0 (by omega)
    have rf0 := (hD.res).2.2.2 0 (by omega)
    have rc1 := (hD.res).2.2.1 1 (by omega)
    have rf1 := (hD.res).2.2.2 1 (by omega)
    have rc2 := (hD.res).2.2.1 2 (by omega)
    have rf2 := (hD.res).2.2.2 2 (by omega)
    have rc3 := (hD.res).2.2.1 3 (by omega)
    have rf3 := (hD.res).2.2.2 3 (by omega)
    go_wp2_with fail
    exact bodyPost_ret (v := b4 (V 0) (V 1) (V 2) (V 3)) (by simp [results, Try.results71, go_sem, *]) rfl ⟨V, rfl, hD.bf, RB.mk ((((hD.but.setNew (by simp) _).setNew (by simp) _).setNew (by simp) _).setNew (by simp) _) (((((hD.rs.mono (by omega)).setNew (by simp; omega) _).setNew (by simp; omega) _).setNew (by simp; omega) _).setNew (by simp; omega) _)⟩
  | true =>
    obtain ⟨i1, i2⟩ := hi rfl
    obtain ⟨⟨x0, x1⟩, y0, y1⟩ := inB_of i1
    obtain ⟨⟨u0, u1⟩, v0, v1⟩ := inB_of i2
    go_upto_region 3 with fail
    go_cut [6] (fun s6 wc => ∃ n : Int, s6 = .int .i64 n ∧ 1 ≤ n ∧ n ≤ 3 ∧ DT w wc rb (p + 2300) ab u v V)
    case first =>
      go_wp2_with (go_at_call 55; refine (one_s (1) 3 rb (p + 2200) _ _ _ _ _ (by exact hD.rs) (by omega) (by repeat (first | exact AllBd.nil | refine AllBd.cons (by omega) (by omega) ?_)) (by rfl) (by omega) (by omega)).mono ?_; rintro e w10 ⟨v10, rfl, va10, vb10, hr10⟩)
      go_meet
      exact ⟨_, rfl, va10, vb10, (hD.call hlt hr10).mono (by omega)⟩
    case rest =>
    clear hD
    obtain ⟨n, rfl, n0, n1, hE⟩ := hcut
    obtain ⟨dx, ex⟩ : ∃ dx, (u - V 0) * n = dx := ⟨_, rfl⟩
    obtain ⟨dy, ey⟩ : ∃ dy, (v - V 1) * n = dy := ⟨_, rfl⟩
    have b1 := mul_bd (a := u - V 0) (b := n) (A := 5120000) (B := 3) (by omega) (by omega)
    have b2 := mul_bd (a := v - V 1) (b := n) (A := 5120000) (B := 3) (by omega) (by omega)
    have w1 := i64w (n := u - V 0) (by omega)
    have w2 := i64w (n := v - V 1) (by omega)
    have w3 := i64w (n := (u - V 0) * n) (by omega)
    have w4 := i64w (n := (v - V 1) * n) (by omega)
    rw [ex] at b1 w3
    rw [ey] at b2 w4
    have h9 := hE
    have ac0 := (hE.plc).2.2.1 0 (by omega)
    have af0 := (hE.plc).2.2.2 0 (by omega)
    have ac1 := (hE.plc).2.2.1 1 (by omega)
    have af1 := (hE.plc).2.2.2 1 (by omega)
    have bc0 := (hE.bod).2.2.1 0 (by omega)
    have bf0 := (hE.bod).2.2.2 0 (by omega)
    have bc1 := (hE.bod).2.2.1 1 (by omega)
    have bf1 := (hE.bod).2.2.2 1 (by omega)
    have bc2 := (hE.bod).2.2.1 2 (by omega)
    have bf2 := (hE.bod).2.2.2 2 (by omega)
    have bc3 := (hE.bod).2.2.1 3 (by omega)
    have bf3 := (hE.bod).2.2.2 3 (by omega)
    go_upto_region 4 with fail
    refine wp_region_held_drew (S := fun w' => w'.cell? ⟨w.heap.size, 0, none⟩ = some (.int .i64 u) ∧ w'.cell? ⟨w.heap.size, 1, none⟩ = some (.int .i64 v) ∧ w'.cell? ⟨ab, 0, none⟩ = some (.int .i64 (V 0)) ∧ w'.cell? ⟨ab, 1, none⟩ = some (.int .i64 (V 1))) (by kernel_rfl) ?_ (fun hHeld => ?_)
    · (try dsimp only)
      (first | (go_simp; done) | (go_keep; done))
    (refine wpAnyH_take (i := 0) (oi := { dst := some 24, op := Go.Op.fieldAddr 24 (Go.Operand.tmp 3) 0, type := 0, pos := "l11_draw.go:390", after := #[], guard := none }) (v := ?_) rfl (by kernel_rfl) (by kernel_rfl) (by kernel_rfl) (fun _ _ _ h => h) (Or.inl ⟨by rfl, ?_⟩) hHeld ?_; rotate_left; (focus ((intro w hSw; (try dsimp only at hSw); go_simp); (try with_reducible rfl); done)); (try simp only [Act.put, List.setIfInBounds_toArray, List.set_cons_zero, List.set_cons_succ]))
    (refine wpAnyH_take (i := 1) (oi := { dst := some 25, op := Go.Op.load 3 (Go.Operand.tmp 24), type := 3, pos := "l11_draw.go:390", after := #[{ on := 0, ground := Go.Ground.data }], guard := none }) (v := ?_) rfl (by kernel_rfl) (by kernel_rfl) (by kernel_rfl) (fun _ _ _ h => h) (Or.inl ⟨by rfl, ?_⟩) hHeld ?_; rotate_left; (focus ((intro w hSw; (try dsimp only at hSw); go_simp); (try with_reducible rfl); done)); (try simp only [Act.put, List.setIfInBounds_toArray, List.set_cons_zero, List.set_cons_succ]))
    (refine wpAnyH_take (i := 2) (oi := { dst := some 26, op := Go.Op.fieldAddr 47 (Go.Operand.tmp 5) 0, type := 0, pos := "l11_draw.go:390", after := #[], guard := none }) (v := ?_) rfl (by kernel_rfl) (by kernel_rfl) (by kernel_rfl) (fun _ _ _ h => h) (Or.inl ⟨by rfl, ?_⟩) hHeld ?_; rotate_left; (focus ((intro w hSw; (try dsimp only at hSw); go_simp); (try with_reducible rfl); done)); (try simp only [Act.put, List.setIfInBounds_toArray, List.set_cons_zero, List.set_cons_succ]))
    (refine wpAnyH_take (i := 3) (oi := { dst := some 27, op := Go.Op.fieldAddr 24 (Go.Operand.tmp 26) 0, type := 0, pos := "l11_draw.go:390", after := #[{ on := 2, ground := Go.Ground.data }], guard := none }) (v := ?_) rfl (by kernel_rfl) (by kernel_rfl) (by kernel_rfl) (fun _ _ _ h => h) (Or.inl ⟨by rfl, ?_⟩) hHeld ?_; rotate_left; (focus ((intro w hSw; (try dsimp only at hSw); go_simp); (try with_reducible rfl); done)); (try simp only [Act.put, List.setIfInBounds_toArray, List.set_cons_zero, List.set_cons_succ]))
    (refine wpAnyH_take (i := 4) (oi := { dst := some 28, op := Go.Op.load 3 (Go.Operand.tmp 27), type := 3, pos := "l11_draw.go:390", after := #[{ on := 3, ground := Go.Ground.data }], guard := none }) (v := ?_) rfl (by kernel_rfl) (by kernel_rfl) (by kernel_rfl) (fun _ _ _ h => h) (Or.inl ⟨by rfl, ?_⟩) hHeld ?_; rotate_left; (focus ((intro w hSw; (try dsimp only at hSw); go_simp); (try with_reducible rfl); done)); (try simp only [Act.put, List.setIfInBounds_toArray, List.set_cons_zero, List.set_cons_succ]))
    (refine wpAnyH_take (i := 5) (oi := { dst := some 29, op := Go.Op.binOp Go.BinOp.sub 3 (Go.Operand.tmp 25) (Go.Operand.tmp 28) 3, type := 3, pos := "l11_draw.go:390", after := #[{ on := 1, ground := Go.Ground.data }, { on := 4, ground := Go.Ground.data }], guard := none }) (v := ?_) rfl (by kernel_rfl) (by kernel_rfl) (by kernel_rfl) (fun _ _ _ h => h) (Or.inl ⟨by rfl, ?_⟩) hHeld ?_; rotate_left; (focus ((intro w hSw; (try dsimp only at hSw); go_simp); (try with_reducible rfl); done)); (try simp only [Act.put, List.setIfInBounds_toArray, List.set_cons_zero, List.set_cons_succ]))
    (refine wpAnyH_take (i := 6) (oi := { dst := some 30, op := Go.Op.move (Go.Operand.tmp 6), type := 3, pos := "l11_draw.go:390", after := #[], guard := none }) (v := ?_) rfl (by kernel_rfl) (by kernel_rfl) (by kernel_rfl) (fun _ _ _ h => h) (Or.inl ⟨by rfl, ?_⟩) hHeld ?_; rotate_left; (focus ((intro w hSw; (try dsimp only at hSw); go_simp); (try with_reducible rfl); done)); (try simp only [Act.put, List.setIfInBounds_toArray, List.set_cons_zero, List.set_cons_succ]))
    (refine wpAnyH_take (i := 7) (oi := { dst := some 31, op := Go.Op.binOp Go.BinOp.mul 3 (Go.Operand.tmp 29) (Go.Operand.tmp 30) 3, type := 3, pos := "l11_draw.go:390", after := #[{ on := 5, ground := Go.Ground.data }, { on := 6, ground := Go.Ground.data }], guard := none }) (v := ?_) rfl (by kernel_rfl) (by kernel_rfl) (by kernel_rfl) (fun _ _ _ h => h) (Or.inl ⟨by rfl, ?_⟩) hHeld ?_; rotate_left; (focus ((intro w hSw; (try dsimp only at hSw); go_simp); (try with_reducible rfl); done)); (try simp only [Act.put, List.setIfInBounds_toArray, List.set_cons_zero, List.set_cons_succ]))
    (refine wpAnyH_take (i := 8) (oi := { dst := some 32, op := Go.Op.move (Go.Operand.tmp 0), type := 79, pos := "l11_draw.go:390", after := #[], guard := none }) (v := ?_) rfl (by kernel_rfl) (by kernel_rfl) (by kernel_rfl) (fun _ _ _ h => h) (Or.inl ⟨by rfl, ?_⟩) hHeld ?_; rotate_left; (focus ((intro w hSw; (try dsimp only at hSw); go_simp); (try with_reducible rfl); done)); (try simp only [Act.put, List.setIfInBounds_toArray, List.set_cons_zero, List.set_cons_succ]))
    (refine wpAnyH_take (i := 13) (oi := { dst := some 37, op := Go.Op.fieldAddr 24 (Go.Operand.tmp 3) 1, type := 0, pos := "l11_draw.go:390", after := #[], guard := none }) (v := ?_) rfl (by kernel_rfl) (by kernel_rfl) (by kernel_rfl) (fun _ _ _ h => h) (Or.inl ⟨by rfl, ?_⟩) hHeld ?_; rotate_left; (focus ((intro w hSw; (try dsimp only at hSw); go_simp); (try with_reducible rfl); done)); (try simp only [Act.put, List.setIfInBounds_toArray, List.set_cons_zero, List.set_cons_succ]))
    (refine wpAnyH_take (i := 14) (oi := { dst := some 38, op := Go.Op.load 3 (Go.Operand.tmp 37), type := 3, pos := "l11_draw.go:390", after := #[{ on := 13, ground := Go.Ground.data }], guard := none }) (v := ?_) rfl (by kernel_rfl) (by kernel_rfl) (by kernel_rfl) (fun _ _ _ h => h) (Or.inl ⟨by rfl, ?_⟩) hHeld ?_; rotate_left; (focus ((intro w hSw; (try dsimp only at hSw); go_simp); (try with_reducible rfl); done)); (try simp only [Act.put, List.setIfInBounds_toArray, List.set_cons_zero, List.set_cons_succ]))
    (refine wpAnyH_take (i := 15) (oi := { dst := some 39, op := Go.Op.fieldAddr 47 (Go.Operand.tmp 5) 0, type := 0, pos := "l11_draw.go:390", after := #[], guard := none }) (v := ?_) rfl (by kernel_rfl) (by kernel_rfl) (by kernel_rfl) (fun _ _ _ h => h) (Or.inl ⟨by rfl, ?_⟩) hHeld ?_; rotate_left; (focus ((intro w hSw; (try dsimp only at hSw); go_simp); (try with_reducible rfl); done)); (try simp only [Act.put, List.setIfInBounds_toArray, List.set_cons_zero, List.set_cons_succ]))
    (refine wpAnyH_take (i := 16) (oi := { dst := some 40, op := Go.Op.fieldAddr 24 (Go.Operand.tmp 39) 1, type := 0, pos := "l11_draw.go:390", after := #[{ on := 15, ground := Go.Ground.data }], guard := none }) (v := ?_) rfl (by kernel_rfl) (by kernel_rfl) (by kernel_rfl) (fun _ _ _ h => h) (Or.inl ⟨by rfl, ?_⟩) hHeld ?_; rotate_left; (focus ((intro w hSw; (try dsimp only at hSw); go_simp); (try with_reducible rfl); done)); (try simp only [Act.put, List.setIfInBounds_toArray, List.set_cons_zero, List.set_cons_succ]))
    (refine wpAnyH_take (i := 17) (oi := { dst := some 41, op := Go.Op.load 3 (Go.Operand.tmp 40), type := 3, pos := "l11_draw.go:390", after := #[{ on := 16, ground := Go.Ground.data }], guard := none }) (v := ?_) rfl (by kernel_rfl) (by kernel_rfl) (by kernel_rfl) (fun _ _ _ h => h) (Or.inl ⟨by rfl, ?_⟩) hHeld ?_; rotate_left; (focus ((intro w hSw; (try dsimp only at hSw); go_simp); (try with_reducible rfl); done)); (try simp only [Act.put, List.setIfInBounds_toArray, List.set_cons_zero, List.set_cons_succ]))
    (refine wpAnyH_take (i := 18) (oi := { dst := some 42, op := Go.Op.binOp Go.BinOp.sub 3 (Go.Operand.tmp 38) (Go.Operand.tmp 41) 3, type := 3, pos := "l11_draw.go:390", after := #[{ on := 14, ground := Go.Ground.data }, { on := 17, ground := Go.Ground.data }], guard := none }) (v := ?_) rfl (by kernel_rfl) (by kernel_rfl) (by kernel_rfl) (fun _ _ _ h => h) (Or.inl ⟨by rfl, ?_⟩) hHeld ?_; rotate_left; (focus ((intro w hSw; (try dsimp only at hSw); go_simp); (try with_reducible rfl); done)); (try simp only [Act.put, List.setIfInBounds_toArray, List.set_cons_zero, List.set_cons_succ]))
    (refine wpAnyH_take (i := 19) (oi := { dst := some 43, op := Go.Op.move (Go.Operand.tmp 6), type := 3, pos := "l11_draw.go:390", after := #[], guard := none }) (v := ?_) rfl (by kernel_rfl) (by kernel_rfl) (by kernel_rfl) (fun _ _ _ h => h) (Or.inl ⟨by rfl, ?_⟩) hHeld ?_; rotate_left; (focus ((intro w hSw; (try dsimp only at hSw); go_simp); (try with_reducible rfl); done)); (try simp only [Act.put, List.setIfInBounds_toArray, List.set_cons_zero, List.set_cons_succ]))
    (refine wpAnyH_take (i := 20) (oi := { dst := some 44, op := Go.Op.binOp Go.BinOp.mul 3 (Go.Operand.tmp 42) (Go.Operand.tmp 43) 3, type := 3, pos := "l11_draw.go:390", after := #[{ on := 18, ground := Go.Ground.data }, { on := 19, ground := Go.Ground.data }], guard := none }) (v := ?_) rfl (by kernel_rfl) (by kernel_rfl) (by kernel_rfl) (fun _ _ _ h => h) (Or.inl ⟨by rfl, ?_⟩) hHeld ?_; rotate_left; (focus ((intro w hSw; (try dsimp only at hSw); go_simp); (try with_reducible rfl); done)); (try simp only [Act.put, List.setIfInBounds_toArray, List.set_cons_zero, List.set_cons_succ]))
    (refine wpAnyH_take (i := 21) (oi := { dst := some 45, op := Go.Op.move (Go.Operand.tmp 0), type := 79, pos := "l11_draw.go:390", after := #[], guard := none }) (v := ?_) rfl (by kernel_rfl) (by kernel_rfl) (by kernel_rfl) (fun _ _ _ h => h) (Or.inl ⟨by rfl, ?_⟩) hHeld ?_; rotate_left; (focus ((intro w hSw; (try dsimp only at hSw); go_simp); (try with_reducible rfl); done)); (try simp only [Act.put, List.setIfInBounds_toArray, List.set_cons_zero, List.set_cons_succ]))
    (refine wpAnyH_ready (rs := [9]) (by kernel_rfl) (by simp) ?_; refine AllReadyH.cons (o := { dst := some 33, op := Go.Op.call { callee := Go.Callee.value (Go.Operand.func 54), args := #[Go.Operand.tmp 32, Go.Operand.const (Go.Value.int Go.IntKind.i64 65)], argTypes := #[79, 3] }, type := 3, pos := "l11_draw.go:390", after := #[{ on := 8, ground := Go.Ground.data }], guard := none }) rfl (fun K hK => ?_) AllReadyH.nil; go_simp; (go_at_call 54; refine (pick_s rb (p + 2300) _ _ (by exact hE.drew.rs) (by omega) (by omega) (by omega)).mono ?_; rintro e w20 ⟨v20, rfl, va20, vb20, hr20⟩; have hD20 := hE.drew.call hlt hr20; have p20c0 := (hD20.plc).2.2.1 0 (by omega); have p20f0 := (hD20.plc).2.2.2 0 (by omega); have p20c1 := (hD20.plc).2.2.1 1 (by omega); have p20f1 := (hD20.plc).2.2.2 1 (by omega); have q20c0 := (hD20.bod).2.2.1 0 (by omega); have q20f0 := (hD20.bod).2.2.2 0 (by omega); have q20c1 := (hD20.bod).2.2.1 1 (by omega); have q20f1 := (hD20.bod).2.2.2 1 (by omega); have q20c2 := (hD20.bod).2.2.1 2 (by omega); have q20f2 := (hD20.bod).2.2.2 2 (by omega); have q20c3 := (hD20.bod).2.2.1 3 (by omega); have q20f3 := (hD20.bod).2.2.2 3 (by omega); have hx20 := i64w (n := dx + v20) (by omega); have hy20 := i64w (n := dx + v20 - 32) (by omega)); (try go_wp2_with fail); refine hK.out _ _ ?_ (fun hHeld => ?_); (focus ((try dsimp only); (first | (go_simp; done) | (go_keep; done)))); clear hK K; (try simp only [Act.put, List.setIfInBounds_toArray, List.set_cons_zero, List.set_cons_succ]))
    (refine wpAnyH_take (i := 10) (oi := { dst := some 34, op := Go.Op.binOp Go.BinOp.add 3 (Go.Operand.tmp 31) (Go.Operand.tmp 33) 3, type := 3, pos := "l11_draw.go:390", after := #[{ on := 7, ground := Go.Ground.data }, { on := 9, ground := Go.Ground.data }], guard := none }) (v := ?_) rfl (by kernel_rfl) (by kernel_rfl) (by kernel_rfl) (fun _ _ _ h => h) (Or.inl ⟨by rfl, ?_⟩) hHeld ?_; rotate_left; (focus ((intro w hSw; (try dsimp only at hSw); go_simp); (try with_reducible rfl); done)); (try simp only [Act.put, List.setIfInBounds_toArray, List.set_cons_zero, List.set_cons_succ]))
    (refine wpAnyH_take (i := 11) (oi := { dst := some 35, op := Go.Op.binOp Go.BinOp.sub 3 (Go.Operand.tmp 34) (Go.Operand.const (Go.Value.int Go.IntKind.i64 32)) 3, type := 3, pos := "l11_draw.go:390", after := #[{ on := 10, ground := Go.Ground.data }], guard := none }) (v := ?_) rfl (by kernel_rfl) (by kernel_rfl) (by kernel_rfl) (fun _ _ _ h => h) (Or.inl ⟨by rfl, ?_⟩) hHeld ?_; rotate_left; (focus ((intro w hSw; (try dsimp only at hSw); go_simp); (try with_reducible rfl); done)); (try simp only [Act.put, List.setIfInBounds_toArray, List.set_cons_zero, List.set_cons_succ]))
    (refine wpAnyH_ready (rs := [12]) (by kernel_rfl) (by simp) ?_; refine AllReadyH.cons (o := { dst := some 36, op := Go.Op.call { callee := Go.Callee.value (Go.Operand.func 102), args := #[Go.Operand.tmp 35, Go.Operand.const (Go.Value.int Go.IntKind.i64 2560000)], argTypes := #[3, 3] }, type := 3, pos := "l11_draw.go:390", after := #[{ on := 11, ground := Go.Ground.data }, { on := 9, ground := Go.Ground.chain }], guard := none }) rfl (fun K hK => ?_) AllReadyH.nil; go_simp; (go_at_call 102; refine (within_r _ _ (clampZ 2560000 (dx + v20 - 32)) _ (by omega) (by omega) rfl).mono ?_; rintro e w' ⟨rfl, rfl⟩); (try go_wp2_with fail); refine hK.out _ _ ?_ (fun hHeld => ?_); (focus ((try dsimp only); (first | (go_simp; done) | (go_keep; done)))); clear hK K; (try simp only [Act.put, List.setIfInBounds_toArray, List.set_cons_zero, List.set_cons_succ]))
    (refine wpAnyH_ready (rs := [22]) (by kernel_rfl) (by simp) ?_; refine AllReadyH.cons (o := { dst := some 46, op := Go.Op.call { callee := Go.Callee.value (Go.Operand.func 54), args := #[Go.Operand.tmp 45, Go.Operand.const (Go.Value.int Go.IntKind.i64 65)], argTypes := #[79, 3] }, type := 3, pos := "l11_draw.go:390", after := #[{ on := 21, ground := Go.Ground.data }, { on := 12, ground := Go.Ground.chain }], guard := none }) rfl (fun K hK => ?_) AllReadyH.nil; go_simp; (go_at_call 54; refine (pick_s rb (p + 2400) _ _ (by exact (hD20.mono (p1 := p + 2400) (by omega)).rs) (by omega) (by omega) (by omega)).mono ?_; rintro e w21 ⟨v21, rfl, va21, vb21, hr21⟩; have hD21 := (hD20.mono (p1 := p + 2400) (by omega)).call hlt hr21; have p21c0 := (hD21.plc).2.2.1 0 (by omega); have p21f0 := (hD21.plc).2.2.2 0 (by omega); have p21c1 := (hD21.plc).2.2.1 1 (by omega); have p21f1 := (hD21.plc).2.2.2 1 (by omega); have q21c0 := (hD21.bod).2.2.1 0 (by omega); have q21f0 := (hD21.bod).2.2.2 0 (by omega); have q21c1 := (hD21.bod).2.2.1 1 (by omega); have q21f1 := (hD21.bod).2.2.2 1 (by omega); have q21c2 := (hD21.bod).2.2.1 2 (by omega); have q21f2 := (hD21.bod).2.2.2 2 (by omega); have q21c3 := (hD21.bod).2.2.1 3 (by omega); have q21f3 := (hD21.bod).2.2.2 3 (by omega); have hx21 := i64w (n := dy + v21) (by omega); have hy21 := i64w (n := dy + v21 - 32) (by omega)); (try go_wp2_with fail); refine hK.out _ _ ?_ (fun hHeld => ?_); (focus ((try dsimp only); (first | (go_simp; done) | (go_keep; done)))); clear hK K; (try simp only [Act.put, List.setIfInBounds_toArray, List.set_cons_zero, List.set_cons_succ]))
    (refine wpAnyH_take (i := 23) (oi := { dst := some 47, op := Go.Op.binOp Go.BinOp.add 3 (Go.Operand.tmp 44) (Go.Operand.tmp 46) 3, type := 3, pos := "l11_draw.go:390", after := #[{ on := 20, ground := Go.Ground.data }, { on := 22, ground := Go.Ground.data }], guard := none }) (v := ?_) rfl (by kernel_rfl) (by kernel_rfl) (by kernel_rfl) (fun _ _ _ h => h) (Or.inl ⟨by rfl, ?_⟩) hHeld ?_; rotate_left; (focus ((intro w hSw; (try dsimp only at hSw); go_simp); (try with_reducible rfl); done)); (try simp only [Act.put, List.setIfInBounds_toArray, List.set_cons_zero, List.set_cons_succ]))
    (refine wpAnyH_take (i := 24) (oi := { dst := some 48, op := Go.Op.binOp Go.BinOp.sub 3 (Go.Operand.tmp 47) (Go.Operand.const (Go.Value.int Go.IntKind.i64 32)) 3, type := 3, pos := "l11_draw.go:390", after := #[{ on := 23, ground := Go.Ground.data }], guard := none }) (v := ?_) rfl (by kernel_rfl) (by kernel_rfl) (by kernel_rfl) (fun _ _ _ h => h) (Or.inl ⟨by rfl, ?_⟩) hHeld ?_; rotate_left; (focus ((intro w hSw; (try dsimp only at hSw); go_simp); (try with_reducible rfl); done)); (try simp only [Act.put, List.setIfInBounds_toArray, List.set_cons_zero, List.set_cons_succ]))
    (refine wpAnyH_ready (rs := [25]) (by kernel_rfl) (by simp) ?_; refine AllReadyH.cons (o := { dst := some 49, op := Go.Op.call { callee := Go.Callee.value (Go.Operand.func 102), args := #[Go.Operand.tmp 48, Go.Operand.const (Go.Value.int Go.IntKind.i64 2560000)], argTypes := #[3, 3] }, type := 3, pos := "l11_draw.go:390", after := #[{ on := 24, ground := Go.Ground.data }, { on := 22, ground := Go.Ground.chain }], guard := none }) rfl (fun K hK => ?_) AllReadyH.nil; go_simp; (go_at_call 102; refine (within_r _ _ (clampZ 2560000 (dy + v21 - 32)) _ (by omega) (by omega) rfl).mono ?_; rintro e w' ⟨rfl, rfl⟩); (try go_wp2_with fail); refine hK.out _ _ ?_ (fun hHeld => ?_); (focus ((try dsimp only); (first | (go_simp; done) | (go_keep; done)))); clear hK K; (try simp only [Act.put, List.setIfInBounds_toArray, List.set_cons_zero, List.set_cons_succ]))
    (refine wpAnyH_take (i := 26) (oi := { dst := some 50, op := Go.Op.build 24 #[(0, Go.Operand.tmp 36), (1, Go.Operand.tmp 49)], type := 24, pos := "l11_draw.go:390", after := #[{ on := 12, ground := Go.Ground.data }, { on := 25, ground := Go.Ground.data }], guard := none }) (v := ?_) rfl (by kernel_rfl) (by kernel_rfl) (by kernel_rfl) (fun _ _ _ h => h) (Or.inl ⟨by rfl, ?_⟩) hHeld ?_; rotate_left; (focus ((intro w hSw; (try dsimp only at hSw); go_simp); (try with_reducible rfl); done)); (try simp only [Act.put, List.setIfInBounds_toArray, List.set_cons_zero, List.set_cons_succ]))
    (refine wpAnyH_take (i := 27) (oi := { dst := some 51, op := Go.Op.fieldAddr 47 (Go.Operand.tmp 5) 1, type := 0, pos := "l11_draw.go:390", after := #[{ on := 0, ground := Go.Ground.phase }, { on := 1, ground := Go.Ground.phase }, { on := 2, ground := Go.Ground.phase }, { on := 3, ground := Go.Ground.phase }, { on := 4, ground := Go.Ground.phase }, { on := 5, ground := Go.Ground.phase }, { on := 6, ground := Go.Ground.phase }, { on := 7, ground := Go.Ground.phase }, { on := 8, ground := Go.Ground.phase }, { on := 9, ground := Go.Ground.phase }, { on := 10, ground := Go.Ground.phase }, { on := 11, ground := Go.Ground.phase }, { on := 12, ground := Go.Ground.phase }, { on := 13, ground := Go.Ground.phase }, { on := 14, ground := Go.Ground.phase }, { on := 15, ground := Go.Ground.phase }, { on := 16, ground := Go.Ground.phase }, { on := 17, ground := Go.Ground.phase }, { on := 18, ground := Go.Ground.phase }, { on := 19, ground := Go.Ground.phase }, { on := 20, ground := Go.Ground.phase }, { on := 21, ground := Go.Ground.phase }, { on := 22, ground := Go.Ground.phase }, { on := 23, ground := Go.Ground.phase }, { on := 24, ground := Go.Ground.phase }, { on := 25, ground := Go.Ground.phase }, { on := 26, ground := Go.Ground.phase }], guard := none }) (v := ?_) rfl (by kernel_rfl) (by kernel_rfl) (by kernel_rfl) (fun _ _ _ h => h) (Or.inl ⟨by rfl, ?_⟩) hHeld ?_; rotate_left; (focus ((intro w hSw; (try dsimp only at hSw); go_simp); (try with_reducible rfl); done)); (try simp only [Act.put, List.setIfInBounds_toArray, List.set_cons_zero, List.set_cons_succ]))
    (refine wpAnyH_ready (rs := [28]) (by kernel_rfl) (by simp) ?_; refine AllReadyH.cons (o := { dst := none, op := Go.Op.store 24 (Go.Operand.tmp 51) (Go.Operand.tmp 50), type := 0, pos := "l11_draw.go:390", after := #[{ on := 27, ground := Go.Ground.data }, { on := 26, ground := Go.Ground.data }, { on := 25, ground := Go.Ground.chain }, { on := 0, ground := Go.Ground.phase }, { on := 1, ground := Go.Ground.phase }, { on := 2, ground := Go.Ground.phase }, { on := 3, ground := Go.Ground.phase }, { on := 4, ground := Go.Ground.phase }, { on := 5, ground := Go.Ground.phase }, { on := 6, ground := Go.Ground.phase }, { on := 7, ground := Go.Ground.phase }, { on := 8, ground := Go.Ground.phase }, { on := 9, ground := Go.Ground.phase }, { on := 10, ground := Go.Ground.phase }, { on := 11, ground := Go.Ground.phase }, { on := 12, ground := Go.Ground.phase }, { on := 13, ground := Go.Ground.phase }, { on := 14, ground := Go.Ground.phase }, { on := 15, ground := Go.Ground.phase }, { on := 16, ground := Go.Ground.phase }, { on := 17, ground := Go.Ground.phase }, { on := 18, ground := Go.Ground.phase }, { on := 19, ground := Go.Ground.phase }, { on := 20, ground := Go.Ground.phase }, { on := 21, ground := Go.Ground.phase }, { on := 22, ground := Go.Ground.phase }, { on := 23, ground := Go.Ground.phase }, { on := 24, ground := Go.Ground.phase }, { on := 25, ground := Go.Ground.phase }, { on := 26, ground := Go.Ground.phase }], guard := none }) rfl (fun K hK => ?_) AllReadyH.nil; go_simp; refine hK.out _ _ ?_ (fun hHeld => ?_); (focus ((try dsimp only); (first | (go_simp; done) | (go_keep; done)))); clear hK K; (try simp only [Act.put, List.setIfInBounds_toArray, List.set_cons_zero, List.set_cons_succ]))
    refine wpAnyH_done (by kernel_rfl) ?_ _
    go_upto_region 5 with fail
    have c1 := clampR (l := 2560000) (n := dx + v20 - 32) (by omega)
    have c2 := clampR (l := 2560000) (n := dy + v21 - 32) (by omega)
    have hF := ((hD21.mono (p1 := p + 3000) (by omega)).set hlt 2 (by omega) (clampZ 2560000 (dx + v20 - 32)) ⟨by omega, by omega⟩).set hlt 3 (by omega) (clampZ 2560000 (dy + v21 - 32)) ⟨by omega, by omega⟩
    generalize ((w'.setCell ⟨ab, 2, none⟩ (.int .i64 (clampZ 2560000 (dx + v20 - 32)))).setCell ⟨ab, 3, none⟩ (.int .i64 (clampZ 2560000 (dy + v21 - 32)))) = wx at hF ⊢
    obtain ⟨Vx, hF⟩ : ∃ Vx, DT w wx rb (p + 3000) ab u v Vx := ⟨_, hF⟩
    clear hD20 hD21 hE
    have h9 := hF
    have ec0 := (hF.bod).2.2.1 0 (by omega)
    have ef0 := (hF.bod).2.2.2 0 (by omega)
    have ec1 := (hF.bod).2.2.1 1 (by omega)
    have ef1 := (hF.bod).2.2.2 1 (by omega)
    have ec2 := (hF.bod).2.2.1 2 (by omega)
    have ef2 := (hF.bod).2.2.2 2 (by omega)
    have ec3 := (hF.bod).2.2.1 3 (by omega)
    have ef3 := (hF.bod).2.2.2 3 (by omega)
    have rc0 := (hF.res).2.2.1 0 (by omega)
    have rf0 := (hF.res).2.2.2 0 (by omega)
    have rc1 := (hF.res).2.2.1 1 (by omega)
    have rf1 := (hF.res).2.2.2 1 (by omega)
    have rc2 := (hF.res).2.2.1 2 (by omega)
    have rf2 := (hF.res).2.2.2 2 (by omega)
    have rc3 := (hF.res).2.2.1 3 (by omega)
    have rf3 := (hF.res).2.2.2 3 (by omega)
    go_wp2_with fail
    exact bodyPost_ret (v := b4 (Vx 0) (Vx 1) (Vx 2) (Vx 3)) (by simp [results, Try.results71, go_sem, *]) rfl ⟨Vx, rfl, hF.bf, RB.mk ((((hF.but.setNew (by simp) _).setNew (by simp) _).setNew (by simp) _).setNew (by simp) _) (((((hF.rs.mono (by omega)).setNew (by simp; omega) _).setNew (by simp; omega) _).setNew (by simp; omega) _).setNew (by simp; omega) _)⟩
end Go.Proofs.Ytnkebpbpempmhaa
