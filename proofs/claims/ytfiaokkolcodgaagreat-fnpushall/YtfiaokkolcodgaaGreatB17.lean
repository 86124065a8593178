/- Texts of a proof. -/
import Derived.Test.YtfiaokkolcodgaaGreatB11
import Derived.Deep.QuietTactic
import Derived.BigQuiet
import Derived.Deep.RegionWith
import Derived.Deep.RegionHeld3
import Derived.Test.YtfiaokkolcodgaaGreatB7
import Derived.Test.YtfiaokkolcodgaaGreatB4
import Derived.Test.YtfiaokkolcodgaaGreatB1
import Derived.Test.YtfiaokkolcodgaaGreatB5
import Derived.Test.YtfiaokkolcodgaaGreatB2
import Derived.Deep.DeepCutAuto
import Derived.Test.YtfiaokkolcodgaaGreatB9
set_option maxHeartbeats 16000000
set_option maxRecDepth 20000
namespace Go.Proofs.YtfiaokkolcodgaaGreat
open Go.RowKit
set_option linter.unusedVariables false
set_option linter.unusedSimpArgs false
theorem l3Near_any (a b c d x y : Int) (w : World) :
 Calls Tryz.prog 131 #[b4 a b c d, vv x y] w fun e w' => e = .returned (vv (mn (mx x a) c) (mn (mx y b) d)) ∧ Below w.heap.size w w' := by
 have hset := cset_map
 go_enter Tryz.func131, Tryz.ntmps131
 go_wp2
 go_region_held3 (fun w' => w'.cell? ⟨w.heap.size, 0, none⟩ = some (.int .i64 a) ∧ w'.cell? ⟨w.heap.size, 1, none⟩ = some (.int .i64 b) ∧ w'.cell? ⟨w.heap.size, 2, none⟩ = some (.int .i64 c) ∧ w'.cell? ⟨w.heap.size, 3, none⟩ = some (.int .i64 d) ∧ w'.cell? ⟨w.heap.size + 1, 0, none⟩ = some (.int .i64 x) ∧ w'.cell? ⟨w.heap.size + 1, 1, none⟩ = some (.int .i64 y)) (first | (go_simp; done) | (go_keep; done)) (first
  | (go_at_call 89; refine (l3Less_any _ _ _).mono ?_; rintro e w' ⟨rfl, rfl⟩)
  | (go_at_call 90; refine (l3More_any _ _ _).mono ?_; rintro e w' ⟨rfl, rfl⟩))
 all_goals
  go_wp2
  exact bodyPost_ret (v := vv (mn (mx x a) c) (mn (mx y b) d)) (by simp [results, Tryz.results131, go_sem, *]) rfl ⟨rfl, bel_a⟩
def rdT (dx dy g : Int) : (Int × Int × Int) × Bool := if dx * dx + dy * dy ≤ g * g then ((ux dx dy, uy dx dy, g - vl dx dy), true) else ((0, 0, 0), false)
def bsT (s0 s1 s2 s3 : Int) : Int × Int × Int :=
 let m1 : Int × Int × Int := if s1 < s0 then (-256, 0, s1) else (256, 0, s0)
 let m2 : Int × Int × Int := if s2 < m1.2.2 then (0, 256, s2) else m1
 if s3 < m2.2.2 then (0, -256, s3) else m2
def bxT (a b c d r s t u : Int) : (Int × Int × Int) × Bool := if (leB a b t u && leB r s c d) = true then (bsT (c - r) (t - a) (d - s) (u - b), true) else ((0, 0, 0), false)
theorem sunit_q (x y X Y : Int) (w : World) (e1 : ux (fc x) (fc y) = X) (e2 : uy (fc x) (fc y) = Y) :
 Calls Tryz.prog 35 #[vv x y] w fun e w' => e = .returned (vv X Y) ∧ Below w.heap.size w w' := by
 subst e1; subst e2; exact sVecUnit_any x y w
theorem slen_q (x y L : Int) (w : World) (e : vl (fc x) (fc y) = L) :
 Calls Tryz.prog 60 #[vv x y] w fun e w' => e = .returned (.int .i64 L) ∧ Below w.heap.size w w' := by
 subst e; exact sVecLen_any x y w
theorem l5Rounds_q (a b x y g X Y D : Int) (K : Bool) (w : World) (qa : -3000000 ≤ a ∧ a ≤ 3000000) (qb : -3000000 ≤ b ∧ b ≤ 3000000) (qx : -3000000 ≤ x ∧ x ≤ 3000000) (qy : -3000000 ≤ y ∧ y ≤ 3000000) (g0 : 0 ≤ g ∧ g ≤ 100000) (e : rdT (x - a) (y - b) g = ((X, Y, D), K)) :
 Calls Tryz.prog 99 #[vv a b, vv x y, .int .i64 g] w fun e w' => e = .returned (.tuple #[s3 X Y D, .bool K]) ∧ Below w.heap.size w w' := by
 have hset := cset_map
 obtain ⟨dx, ex⟩ : ∃ z, x - a = z := ⟨_, rfl⟩
 obtain ⟨dy, ey⟩ : ∃ z, y - b = z := ⟨_, rfl⟩
 have w1 := i64w (n := x - a) (by omega)
 have w2 := i64w (n := y - b) (by omega)
 rw [ex] at e w1
 rw [ey] at e w2
 have m3 := mul_bd (a := g) (b := g) (A := 100000) (B := 100000) (by omega) (by omega)
 have w3 := i64w (n := g * g) (by omega)
 unfold rdT at e
 cases dd : decide (g * g < dx * dx + dy * dy) with
 | true =>
  have hn := of_decide_eq_true dd
  rw [if_neg (by omega)] at e
  cases e
  clear hn m3
  go_enter Tryz.func99, Tryz.ntmps99
  go_wp2_with (go_at_call 106; refine (l2Square_any _ _ _ (by omega) (by omega)).mono ?_; rintro e w1 ⟨rfl, hb1⟩; have hz1 := hb1.size; (try simp only [zz] at hz1); have := kf4 hb1 w.heap.size)
  exact bodyPost_ret (v := .tuple #[s3 0 0 0, .bool false]) (by simp [results, Tryz.results99, go_sem, *]) rfl ⟨rfl, bel_a⟩
 | false =>
  have hn := of_decide_eq_false dd
  rw [if_pos (by omega)] at e
  obtain ⟨L, eL⟩ : ∃ z, vl dx dy = z := ⟨_, rfl⟩
  have lb := vl_bd dx dy
  rw [eL] at lb
  rw [eL] at e
  simp only [Prod.mk.injEq] at e
  obtain ⟨⟨eX, eY, eD⟩, eK⟩ := e
  subst eD
  subst eK
  have f1 := fc_id (n := dx) (by omega) (by omega)
  have f2 := fc_id (n := dy) (by omega) (by omega)
  have eX : ux (fc dx) (fc dy) = X := by rw [f1, f2]; exact eX
  have eY : uy (fc dx) (fc dy) = Y := by rw [f1, f2]; exact eY
  have eL : vl (fc dx) (fc dy) = L := by rw [f1, f2]; exact eL
  have w4 := i64w (n := g - L) (by omega)
  clear hn m3 f1 f2
  go_enter Tryz.func99, Tryz.ntmps99
  go_upto_region 4 with (go_at_call 106; refine (l2Square_any _ _ _ (by omega) (by omega)).mono ?_; rintro e w1 ⟨rfl, hb1⟩; have hz1 := hb1.size; (try simp only [zz] at hz1); have := kf4 hb1 w.heap.size)
  refine wp_region_held_drew (S := fun w' => w'.cell? ⟨w.heap.size + 1 + 1 + 1, 0, none⟩ = some (.int .i64 dx) ∧ w'.cell? ⟨w.heap.size + 1 + 1 + 1, 1, none⟩ = some (.int .i64 dy)) (by kernel_rfl) ?_ (fun hHeld => ?_)
  · (try dsimp only)
    (first | (go_simp; done) | (go_keep; done))
  refine tq 0 hHeld ?_
  refine tq 2 hHeld ?_
  refine tq 3 hHeld ?_
  (refine tc 1 fun K hK => ?_; go_simp; (go_at_call 35; refine (sunit_q _ _ _ _ _ eX eY).mono ?_; rintro e w2 ⟨rfl, hb2⟩; have hz2 := hb2.size; (try simp only [zz] at hz2); have := kf4 hb2 w.heap.size); (try go_wp2_with fail); refine tr hK (fun hHeld => ?_); clear hK K)
  (refine tc 4 fun K hK => ?_; go_simp; (go_at_call 60; refine (slen_q _ _ _ _ eL).mono ?_; rintro e w3 ⟨rfl, hb3⟩; have hz3 := hb3.size; (try simp only [zz] at hz3); have := kf4 hb3 w.heap.size); (try go_wp2_with fail); refine tr hK (fun hHeld => ?_); clear hK K)
  refine tq 5 hHeld ?_
  refine tq 6 hHeld ?_
  (refine tc 7 fun K hK => ?_; go_simp; refine tr hK (fun hHeld => ?_); clear hK K)
  refine tq 8 hHeld ?_
  refine wpAnyH_done (by kernel_rfl) ?_ _
  go_wp2_with fail
  exact bodyPost_ret (v := .tuple #[s3 X Y (g - L), .bool true]) (by simp [results, Tryz.results99, go_sem, *]) rfl ⟨rfl, bel_a⟩
theorem smeets_q (a b c d r s t u : Int) (z : Bool) (w : World) (e : (leB a b t u && leB r s c d) = z) :
 Calls Tryz.prog 129 #[b4 a b c d, b4 r s t u] w fun e w' => e = .returned (.bool z) ∧ Below w.heap.size w w' := by
 subst e; exact l3Meets_any a b c d r s t u w
theorem l5Boxes_q (a b c d r s t u X Y D : Int) (K : Bool) (w : World) (qa : -3000000 ≤ a ∧ a ≤ 3000000) (qb : -3000000 ≤ b ∧ b ≤ 3000000) (qc : -3000000 ≤ c ∧ c ≤ 3000000) (qd : -3000000 ≤ d ∧ d ≤ 3000000) (qr : -3000000 ≤ r ∧ r ≤ 3000000) (qs : -3000000 ≤ s ∧ s ≤ 3000000) (qt : -3000000 ≤ t ∧ t ≤ 3000000) (qu : -3000000 ≤ u ∧ u ≤ 3000000) (e : bxT a b c d r s t u = ((X, Y, D), K)) :
 Calls Tryz.prog 100 #[b4 a b c d, b4 r s t u] w fun e w' => e = .returned (.tuple #[s3 X Y D, .bool K]) ∧ Below w.heap.size w w' := by
 have hset := cset_map
 unfold bxT at e
 cases eM : (leB a b t u && leB r s c d) with
 | false =>
  rw [if_neg (by simp [eM])] at e
  cases e
  go_enter Tryz.func100, Tryz.ntmps100
  go_wp2_with (go_at_call 129; refine (smeets_q _ _ _ _ _ _ _ _ _ _ eM).mono ?_; rintro e w1 ⟨rfl, hb1⟩; have hz1 := hb1.size; (try simp only [zz] at hz1); have := kf3 hb1 w.heap.size)
  exact bodyPost_ret (v := .tuple #[s3 0 0 0, .bool false]) (by simp [results, Tryz.results100, go_sem, *]) rfl ⟨rfl, bel_a⟩
 | true =>
  rw [if_pos eM] at e
  obtain ⟨s0, es0⟩ : ∃ z, c - r = z := ⟨_, rfl⟩
  have ws0 := i64w (n := c - r) (by omega)
  rw [es0] at e ws0
  obtain ⟨s1, es1⟩ : ∃ z, t - a = z := ⟨_, rfl⟩
  have ws1 := i64w (n := t - a) (by omega)
  rw [es1] at e ws1
  obtain ⟨s2, es2⟩ : ∃ z, d - s = z := ⟨_, rfl⟩
  have ws2 := i64w (n := d - s) (by omega)
  rw [es2] at e ws2
  obtain ⟨s3', es3'⟩ : ∃ z, u - b = z := ⟨_, rfl⟩
  have ws3' := i64w (n := u - b) (by omega)
  rw [es3'] at e ws3'
  unfold bsT at e
  cases d1 : decide (s1 < s0) with
  | true =>
   simp only [if_pos (of_decide_eq_true d1)] at e
   cases d2 : decide (s2 < s1) with
   | true =>
    simp only [if_pos (of_decide_eq_true d2)] at e
    cases d3 : decide (s3' < s2) with
    | true =>
     simp only [if_pos (of_decide_eq_true d3)] at e
     simp only [Prod.mk.injEq] at e
     obtain ⟨⟨eX, eY, eD⟩, eK⟩ := e
     subst eX
     subst eY
     subst eD
     subst eK
     go_enter Tryz.func100, Tryz.ntmps100
     go_wp2_with (go_at_call 129; refine (smeets_q _ _ _ _ _ _ _ _ _ _ eM).mono ?_; rintro e w1 ⟨rfl, hb1⟩; have hz1 := hb1.size; (try simp only [zz] at hz1); have := kf3 hb1 w.heap.size)
     exact bodyPost_ret (v := .tuple #[s3 0 (-256) s3', .bool true]) (by simp [results, Tryz.results100, go_sem, *]) rfl ⟨rfl, bel_a⟩
    | false =>
     simp only [if_neg (of_decide_eq_false d3)] at e
     simp only [Prod.mk.injEq] at e
     obtain ⟨⟨eX, eY, eD⟩, eK⟩ := e
     subst eX
     subst eY
     subst eD
     subst eK
     go_enter Tryz.func100, Tryz.ntmps100
     go_wp2_with (go_at_call 129; refine (smeets_q _ _ _ _ _ _ _ _ _ _ eM).mono ?_; rintro e w1 ⟨rfl, hb1⟩; have hz1 := hb1.size; (try simp only [zz] at hz1); have := kf3 hb1 w.heap.size)
     exact bodyPost_ret (v := .tuple #[s3 0 256 s2, .bool true]) (by simp [results, Tryz.results100, go_sem, *]) rfl ⟨rfl, bel_a⟩
   | false =>
    simp only [if_neg (of_decide_eq_false d2)] at e
    cases d3 : decide (s3' < s1) with
    | true =>
     simp only [if_pos (of_decide_eq_true d3)] at e
     simp only [Prod.mk.injEq] at e
     obtain ⟨⟨eX, eY, eD⟩, eK⟩ := e
     subst eX
     subst eY
     subst eD
     subst eK
     go_enter Tryz.func100, Tryz.ntmps100
     go_wp2_with (go_at_call 129; refine (smeets_q _ _ _ _ _ _ _ _ _ _ eM).mono ?_; rintro e w1 ⟨rfl, hb1⟩; have hz1 := hb1.size; (try simp only [zz] at hz1); have := kf3 hb1 w.heap.size)
     exact bodyPost_ret (v := .tuple #[s3 0 (-256) s3', .bool true]) (by simp [results, Tryz.results100, go_sem, *]) rfl ⟨rfl, bel_a⟩
    | false =>
     simp only [if_neg (of_decide_eq_false d3)] at e
     simp only [Prod.mk.injEq] at e
     obtain ⟨⟨eX, eY, eD⟩, eK⟩ := e
     subst eX
     subst eY
     subst eD
     subst eK
     go_enter Tryz.func100, Tryz.ntmps100
     go_wp2_with (go_at_call 129; refine (smeets_q _ _ _ _ _ _ _ _ _ _ eM).mono ?_; rintro e w1 ⟨rfl, hb1⟩; have hz1 := hb1.size; (try simp only [zz] at hz1); have := kf3 hb1 w.heap.size)
     exact bodyPost_ret (v := .tuple #[s3 (-256) 0 s1, .bool true]) (by simp [results, Tryz.results100, go_sem, *]) rfl ⟨rfl, bel_a⟩
  | false =>
   simp only [if_neg (of_decide_eq_false d1)] at e
   cases d2 : decide (s2 < s0) with
   | true =>
    simp only [if_pos (of_decide_eq_true d2)] at e
    cases d3 : decide (s3' < s2) with
    | true =>
     simp only [if_pos (of_decide_eq_true d3)] at e
     simp only [Prod.mk.injEq] at e
     obtain ⟨⟨eX, eY, eD⟩, eK⟩ := e
     subst eX
     subst eY
     subst eD
     subst eK
     go_enter Tryz.func100, Tryz.ntmps100
     go_wp2_with (go_at_call 129; refine (smeets_q _ _ _ _ _ _ _ _ _ _ eM).mono ?_; rintro e w1 ⟨rfl, hb1⟩; have hz1 := hb1.size; (try simp only [zz] at hz1); have := kf3 hb1 w.heap.size)
     exact bodyPost_ret (v := .tuple #[s3 0 (-256) s3', .bool true]) (by simp [results, Tryz.results100, go_sem, *]) rfl ⟨rfl, bel_a⟩
    | false =>
     simp only [if_neg (of_decide_eq_false d3)] at e
     simp only [Prod.mk.injEq] at e
     obtain ⟨⟨eX, eY, eD⟩, eK⟩ := e
     subst eX
     subst eY
     subst eD
     subst eK
     go_enter Tryz.func100, Tryz.ntmps100
     go_wp2_with (go_at_call 129; refine (smeets_q _ _ _ _ _ _ _ _ _ _ eM).mono ?_; rintro e w1 ⟨rfl, hb1⟩; have hz1 := hb1.size; (try simp only [zz] at hz1); have := kf3 hb1 w.heap.size)
     exact bodyPost_ret (v := .tuple #[s3 0 256 s2, .bool true]) (by simp [results, Tryz.results100, go_sem, *]) rfl ⟨rfl, bel_a⟩
   | false =>
    simp only [if_neg (of_decide_eq_false d2)] at e
    cases d3 : decide (s3' < s0) with
    | true =>
     simp only [if_pos (of_decide_eq_true d3)] at e
     simp only [Prod.mk.injEq] at e
     obtain ⟨⟨eX, eY, eD⟩, eK⟩ := e
     subst eX
     subst eY
     subst eD
     subst eK
     go_enter Tryz.func100, Tryz.ntmps100
     go_wp2_with (go_at_call 129; refine (smeets_q _ _ _ _ _ _ _ _ _ _ eM).mono ?_; rintro e w1 ⟨rfl, hb1⟩; have hz1 := hb1.size; (try simp only [zz] at hz1); have := kf3 hb1 w.heap.size)
     exact bodyPost_ret (v := .tuple #[s3 0 (-256) s3', .bool true]) (by simp [results, Tryz.results100, go_sem, *]) rfl ⟨rfl, bel_a⟩
    | false =>
     simp only [if_neg (of_decide_eq_false d3)] at e
     simp only [Prod.mk.injEq] at e
     obtain ⟨⟨eX, eY, eD⟩, eK⟩ := e
     subst eX
     subst eY
     subst eD
     subst eK
     go_enter Tryz.func100, Tryz.ntmps100
     go_wp2_with (go_at_call 129; refine (smeets_q _ _ _ _ _ _ _ _ _ _ eM).mono ?_; rintro e w1 ⟨rfl, hb1⟩; have hz1 := hb1.size; (try simp only [zz] at hz1); have := kf3 hb1 w.heap.size)
     exact bodyPost_ret (v := .tuple #[s3 256 0 s0, .bool true]) (by simp [results, Tryz.results100, go_sem, *]) rfl ⟨rfl, bel_a⟩
theorem l11AnyShape_s (rb p : Nat) (w : World) (hs0 : RS w rb p) (hp : p ≤ 997000) :
 Calls Tryz.prog 56 #[.pointer (some ⟨rb, 0, none⟩)] w fun e w' => ∃ k g h : Int, e = .returned (s3 k g h) ∧ (Bn k ∧ Bn g ∧ Bn h) ∧ RB w w' rb (p + 600) := by
 have hlt := hs0.lt
 have hne : (w.heap.size = rb) = False := eq_false (by omega)
 have hset := cset_map
 go_enter Tryz.func56, Tryz.ntmps56
 go_wp2_with (first
  | (have _ := hr1; go_at_call 17; refine (pick_s rb (p + 200) _ _ (by repeat (first | (with_reducible apply RS.setNew; rotate_left; (first | omega | (simp only [zz]; omega))) | with_reducible apply RS.alloc | (with_reducible apply RS.up hr1; omega) | (with_reducible apply RS.mono hs0; omega) | with_reducible apply RS.drew | with_reducible apply RS.drewN)) (by omega) (by omega) (by omega)).mono ?_; rintro e w2 ⟨v2, rfl, va2, vb2, hr2⟩; obtain ⟨hc2, hf2⟩ := RB.cells hr2; have hz2 := RB.size hr2; (try simp only [zz] at hc2 hf2 hz2); have hq2x0 : w.heap.size < w2.heap.size := (by omega); have ha2x0 : (w2.heap.size = w.heap.size) = False := eq_false (by omega); have hb2x0 : (w.heap.size = w2.heap.size) = False := eq_false (by omega); have he2x0 : (w.heap.size = rb) = False := eq_false (by omega); have hk2x0 := fun o => hc2 (w.heap.size) o (by omega) (by omega); have hj2x0 := fun o => hf2 (w.heap.size) o (by omega) (by omega); have hq2x1 : w1.heap.size < w2.heap.size := (by omega); have ha2x1 : (w2.heap.size = w1.heap.size) = False := eq_false (by omega); have hb2x1 : (w1.heap.size = w2.heap.size) = False := eq_false (by omega); have he2x1 : (w1.heap.size = rb) = False := eq_false (by omega); have hk2x1 := fun o => hc2 (w1.heap.size) o (by omega) (by omega); have hj2x1 := fun o => hf2 (w1.heap.size) o (by omega) (by omega))
  | (have _ := hr2; go_at_call 36; refine (one_s (-1) 25601 rb (p + 300) _ _ _ _ _ (by repeat (first | (with_reducible apply RS.setNew; rotate_left; (first | omega | (simp only [zz]; omega))) | with_reducible apply RS.alloc | (with_reducible apply RS.up hr2; omega) | (with_reducible apply RS.mono hs0; omega) | with_reducible apply RS.drew | with_reducible apply RS.drewN)) (by omega) (by repeat (first | exact AllBd.nil | refine AllBd.cons (by omega) (by omega) ?_)) (by rfl) (by omega) (by omega)).mono ?_; rintro e w3 ⟨v3, rfl, va3, vb3, hr3⟩; obtain ⟨hc3, hf3⟩ := RB.cells hr3; have hz3 := RB.size hr3; (try simp only [zz] at hc3 hf3 hz3); have hq3x0 : w.heap.size < w3.heap.size := (by omega); have ha3x0 : (w3.heap.size = w.heap.size) = False := eq_false (by omega); have hb3x0 : (w.heap.size = w3.heap.size) = False := eq_false (by omega); have he3x0 : (w.heap.size = rb) = False := eq_false (by omega); have hk3x0 := fun o => hc3 (w.heap.size) o (by omega) (by omega); have hj3x0 := fun o => hf3 (w.heap.size) o (by omega) (by omega); have hq3x1 : w1.heap.size < w3.heap.size := (by omega); have ha3x1 : (w3.heap.size = w1.heap.size) = False := eq_false (by omega); have hb3x1 : (w1.heap.size = w3.heap.size) = False := eq_false (by omega); have he3x1 : (w1.heap.size = rb) = False := eq_false (by omega); have hk3x1 := fun o => hc3 (w1.heap.size) o (by omega) (by omega); have hj3x1 := fun o => hf3 (w1.heap.size) o (by omega) (by omega))
  | (go_at_call 86; refine (l11Shape_s rb (p + 100) _ (by repeat (first | (with_reducible apply RS.setNew; rotate_left; (first | omega | (simp only [zz]; omega))) | with_reducible apply RS.alloc | (with_reducible apply RS.mono hs0; omega) | with_reducible apply RS.drew | with_reducible apply RS.drewN)) (by omega)).mono ?_; rintro e w1 ⟨k1, g1, h1, rfl, hd1, hr1⟩; obtain ⟨hc1, hf1⟩ := RB.cells hr1; have hz1 := RB.size hr1; (try simp only [zz] at hc1 hf1 hz1); have hq1x0 : w.heap.size < w1.heap.size := (by omega); have ha1x0 : (w1.heap.size = w.heap.size) = False := eq_false (by omega); have hb1x0 : (w.heap.size = w1.heap.size) = False := eq_false (by omega); have he1x0 : (w.heap.size = rb) = False := eq_false (by omega); have hk1x0 := fun o => hc1 (w.heap.size) o (by omega) (by omega); have hj1x0 := fun o => hf1 (w.heap.size) o (by omega) (by omega); obtain ⟨⟨k1a, k1b⟩, ⟨g1a, g1b⟩, ⟨h1a, h1b⟩⟩ := hd1))
 · exact bodyPost_ret (v := s3 v3 g1 h1) (by simp [results, Tryz.results56, go_sem, *]) rfl ⟨_, _, _, rfl, ⟨Bn.mk ⟨by omega, by omega⟩, Bn.mk ⟨by omega, by omega⟩, Bn.mk ⟨by omega, by omega⟩⟩, RB.mk (by repeat (first | (with_reducible apply But.setNew; rotate_left; (first | omega | (simp only [zz]; omega))) | with_reducible apply But.alloc | with_reducible apply But.trans (k := RB.but hr3) | with_reducible apply But.trans (k := RB.but hr2) | with_reducible apply But.trans (k := RB.but hr1) | with_reducible apply But.refl | with_reducible apply But.drewN | with_reducible apply But.drew)) (by repeat (first | (with_reducible apply RS.setNew; rotate_left; (first | omega | (simp only [zz]; omega))) | with_reducible apply RS.alloc | (with_reducible apply RS.up hr3; omega) | (with_reducible apply RS.up hr2; omega) | (with_reducible apply RS.up hr1; omega) | (with_reducible apply RS.mono hs0; omega) | with_reducible apply RS.drew | with_reducible apply RS.drewN))⟩
 · exact bodyPost_ret (v := s3 k1 v3 h1) (by simp [results, Tryz.results56, go_sem, *]) rfl ⟨_, _, _, rfl, ⟨Bn.mk ⟨by omega, by omega⟩, Bn.mk ⟨by omega, by omega⟩, Bn.mk ⟨by omega, by omega⟩⟩, RB.mk (by repeat (first | (with_reducible apply But.setNew; rotate_left; (first | omega | (simp only [zz]; omega))) | with_reducible apply But.alloc | with_reducible apply But.trans (k := RB.but hr3) | with_reducible apply But.trans (k := RB.but hr2) | with_reducible apply But.trans (k := RB.but hr1) | with_reducible apply But.refl | with_reducible apply But.drewN | with_reducible apply But.drew)) (by repeat (first | (with_reducible apply RS.setNew; rotate_left; (first | omega | (simp only [zz]; omega))) | with_reducible apply RS.alloc | (with_reducible apply RS.up hr3; omega) | (with_reducible apply RS.up hr2; omega) | (with_reducible apply RS.up hr1; omega) | (with_reducible apply RS.mono hs0; omega) | with_reducible apply RS.drew | with_reducible apply RS.drewN))⟩
 · exact bodyPost_ret (v := s3 k1 g1 v3) (by simp [results, Tryz.results56, go_sem, *]) rfl ⟨_, _, _, rfl, ⟨Bn.mk ⟨by omega, by omega⟩, Bn.mk ⟨by omega, by omega⟩, Bn.mk ⟨by omega, by omega⟩⟩, RB.mk (by repeat (first | (with_reducible apply But.setNew; rotate_left; (first | omega | (simp only [zz]; omega))) | with_reducible apply But.alloc | with_reducible apply But.trans (k := RB.but hr3) | with_reducible apply But.trans (k := RB.but hr2) | with_reducible apply But.trans (k := RB.but hr1) | with_reducible apply But.refl | with_reducible apply But.drewN | with_reducible apply But.drew)) (by repeat (first | (with_reducible apply RS.setNew; rotate_left; (first | omega | (simp only [zz]; omega))) | with_reducible apply RS.alloc | (with_reducible apply RS.up hr3; omega) | (with_reducible apply RS.up hr2; omega) | (with_reducible apply RS.up hr1; omega) | (with_reducible apply RS.mono hs0; omega) | with_reducible apply RS.drew | with_reducible apply RS.drewN))⟩
 · exact bodyPost_ret (v := s3 k1 g1 h1) (by simp [results, Tryz.results56, go_sem, *]) rfl ⟨_, _, _, rfl, ⟨Bn.mk ⟨by omega, by omega⟩, Bn.mk ⟨by omega, by omega⟩, Bn.mk ⟨by omega, by omega⟩⟩, RB.mk (by repeat (first | (with_reducible apply But.setNew; rotate_left; (first | omega | (simp only [zz]; omega))) | with_reducible apply But.alloc | with_reducible apply But.trans (k := RB.but hr2) | with_reducible apply But.trans (k := RB.but hr1) | with_reducible apply But.refl | with_reducible apply But.drewN | with_reducible apply But.drew)) (by repeat (first | (with_reducible apply RS.setNew; rotate_left; (first | omega | (simp only [zz]; omega))) | with_reducible apply RS.alloc | (with_reducible apply RS.up hr2; omega) | (with_reducible apply RS.up hr1; omega) | (with_reducible apply RS.mono hs0; omega) | with_reducible apply RS.drew | with_reducible apply RS.drewN))⟩
abbrev zeroBd : Value := .agg #[.int .i64 0, .int .i64 0, .int .i64 0, .int .i64 0, .int .i64 0, .int .i64 0, .int .i64 0, .int .i64 0, .int .i64 0, .int .i64 0, .int .i64 0, .int .i64 0]
def Blk (w : World) (b : Nat) (cs : Array Value) (t : TypeId) : Prop := w.heap[b]? = some (.cells cs t (0, 0))
theorem Blk.lt {w : World} {b : Nat} {cs : Array Value} {t : TypeId} (h : Blk w b cs t) : b < w.heap.size := by
 rcases Nat.lt_or_ge b w.heap.size with q | q
 · exact q
 · unfold Blk at h; rw [Array.getElem?_eq_none q] at h; cases h
theorem Blk.cell {w : World} {b : Nat} {cs : Array Value} {t : TypeId} (h : Blk w b cs t) (i : Nat) {v : Value} (hv : cs[i]? = some v) : w.cell? ⟨b, i, none⟩ = some v := by unfold Blk at h; simp [World.cell?, h, hv]
theorem Blk.f {w : World} {b : Nat} {cs : Array Value} {t : TypeId} (h : Blk w b cs t) : ∀ o, w.frozen? ⟨b, o, none⟩ = false := by unfold Blk at h; intro o; simp [World.frozen?, h]
theorem Blk.on {w w' : World} {b : Nat} {cs : Array Value} {t : TypeId} (h : Blk w b cs t) (hb : Below w.heap.size w w') : Blk w' b cs t := (hb.block b h.lt).trans h
theorem Blk.but {w w' : World} {b rb : Nat} {cs : Array Value} {t : TypeId} (h : Blk w b cs t) (hb : But rb w w') (hn : b ≠ rb) : Blk w' b cs t := (hb.block b h.lt hn).trans h
theorem Blk.new (w : World) (cs : Array Value) (t : TypeId) : Blk (w.alloc (.cells cs t)) w.heap.size cs t := by show (w.heap.push _)[w.heap.size]? = _; simp
theorem Blk.al {w : World} {b : Nat} {cs : Array Value} {t : TypeId} (h : Blk w b cs t) (o : Obj) : Blk (w.alloc o) b cs t := h.on ((Below.refl _ _).alloc (Nat.le_refl _) o)
theorem Blk.dr {w : World} {b : Nat} {cs : Array Value} {t : TypeId} (h : Blk w b cs t) : Blk w.drew b cs t := h
theorem Blk.far {w : World} {b b' o : Nat} {cs : Array Value} {t : TypeId} (h : Blk w b cs t) (hn : b ≠ b') (v : Value) : Blk (w.setCell ⟨b', o, none⟩ v) b cs t := (Below.heap_setCell w ⟨b', o, none⟩ v b hn).trans h
theorem Blk.put {w : World} {b : Nat} {cs : Array Value} {t : TypeId} (h : Blk w b cs t) (i : Nat) (v : Value) : Blk (w.setCell ⟨b, i, none⟩ v) b (cs.setIfInBounds i v) t := by
 show (w.heap.modify b _)[b]? = _
 unfold Blk at h
 rw [Array.getElem?_modify, if_pos rfl, h]
 rfl
theorem Blk.ne {w : World} {b base t t' k n : Nat} {cs : Array Value} {v : Value} {U : Nat → Int} (h : Blk w b cs t') (ho : OwnL w base t k v n U) (ht : t ≠ t') : v.ownBlock ≠ some b := by
 intro e
 rcases ho.2 with ⟨hv, _⟩ | ⟨g', cap, cur, hv, hb, hg, _⟩
 · subst hv; simp [Value.ownBlock] at e
 · subst hv
   simp [Value.ownBlock] at e
   subst e
   unfold Blk at h
   rw [h] at hg
   simp only [Option.some.injEq, Obj.cells.injEq] at hg
   exact ht hg.2.1.symm
theorem OwnL.dr {w : World} {base t k n : Nat} {v : Value} {U : Nat → Int} (h : OwnL w base t k v n U) : OwnL w.drew base t k v n U := World.ownsRow.drew h
theorem OwnL.al {w : World} {base t k n : Nat} {v : Value} {U : Nat → Int} (h : OwnL w base t k v n U) (o : Obj) : OwnL (w.alloc o) base t k v n U := h.below ((Below.refl _ _).alloc (Nat.le_refl _) o)
theorem OwnL.btb {w w' : World} {rb base t k n : Nat} {v : Value} {U : Nat → Int} (h : OwnL w base t k v n U) (hb : But rb w w') (hr : rb < base) : OwnL w' base t k v n U := by
 have hg : w.grownBy w' (Option.some rb) := ⟨hb.os, hb.tape, hb.output, hb.size, fun j hj hne => hb.block j hj (fun e => hne (by rw [e]))⟩
 cases e : v.ownBlock with
 | none => exact World.ownsRow.kept h hg (.inl e)
 | some b => exact World.ownsRow.kept h hg (.inr (by rw [e]; intro q; have := (h.lt b e).1; simp at q; omega))
theorem RB.al {w0 w : World} {rb p : Nat} (h : RB w0 w rb p) (o : Obj) : RB w0 (w.alloc o) rb p := h.alloc o
theorem RB.rs {w0 w : World} {rb p : Nat} (h : RB w0 w rb p) : RS w rb p := RS.of h
theorem Rd.upq {w w' : World} {rb p B : Nat} (h : Rd w rb p) (k : Below B w w') (hB : rb < B) : Rd w' rb p := by
 obtain ⟨a, len, cap, c0, c1, f1, hle, hz⟩ := h
 refine ⟨a, len, cap, by rw [k.cell hB]; exact c0, by rw [k.cell hB]; exact c1, by rw [k.frozen hB]; exact f1, hle, ?_⟩
 rcases hz with hz | ⟨b, off, ha, hb, hz⟩
 · exact .inl hz
 · exact .inr ⟨b, off, ha, hb, fun i hi => by obtain ⟨z, h1, h2⟩ := hz i hi; exact ⟨z, by rw [k.cell (p := ⟨b, off + i, none⟩) (by show b < B; omega)]; exact h1, h2⟩⟩
theorem RB.upq {w0 w w' : World} {rb p : Nat} (h : RB w0 w rb p) (k : Below w0.heap.size w w') (hl : rb < w0.heap.size) : RB w0 w' rb p := by
 obtain ⟨q, a, b, c⟩ := h
 exact ⟨q, a, b.upq k hl, ⟨k.os.trans c.os, k.tape.trans c.tape, k.output.trans c.output, Nat.le_trans c.size k.size, fun j hj hn => (k.block j hj).trans (c.block j hj hn)⟩⟩
end Go.Proofs.YtfiaokkolcodgaaGreat
