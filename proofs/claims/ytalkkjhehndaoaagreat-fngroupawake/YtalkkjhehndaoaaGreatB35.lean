/- Texts of a proof. -/
import Derived.Test.YtalkkjhehndaoaaGreatITch8
import Derived.Laws.EntriesVeiled
import Derived.Deep.RegionHeld3
import Derived.Deep.DeepCutAuto
import Derived.Test.YtalkkjhehndaoaaGreatB16
import Derived.Test.YtalkkjhehndaoaaGreatB5
import Derived.Test.YtalkkjhehndaoaaGreatB10
import Derived.Test.YtalkkjhehndaoaaGreatB4
set_option maxHeartbeats 16000000
set_option maxRecDepth 20000
namespace Go.Proofs.YtalkkjhehndaoaaGreat
open Go.RowKit
set_option linter.unusedVariables false
set_option linter.unusedSimpArgs false
theorem placedOf_z (k g h x y : Int) (b : Bool) (w : World) (e : plZ k g h x y = b) : Calls Tryz.prog 96 #[s3 k g h, vv x y] w fun e w' => ∃ A B C D : Int, e = .returned (.tuple #[b4 A B C D, .bool b]) ∧ Below w.heap.size w w' := by
 subst e; exact placedOf_any k g h x y w
theorem touch_z (k1 g1 h1 x y k2 g2 h2 u v : Int) (w : World) (hz : (plZ k1 g1 h1 x y && plZ k2 g2 h2 u v) = false) :
 Calls Tryz.prog 72 #[s3 k1 g1 h1, vv x y, s3 k2 g2 h2, vv u v] w fun e w' => e = .returned (.tuple #[s3 0 0 0, .bool false]) ∧ Below w.heap.size w w' := by
 have hset := cset_map
 cases a1 : plZ k1 g1 h1 x y with
 | false =>
  cases a2 : plZ k2 g2 h2 u v with
  | false =>
   clear hz
   go_enter Tryz.func72, Tryz.ntmps72
   go_wp2_with (first
    | (have _ := hb1; go_at_call 96; refine (placedOf_z k2 g2 h2 u v _ _ a2).mono ?_; rintro e w2 ⟨A2, B2, C2, D2, rfl, hb2⟩; obtain ⟨hc2, hf2⟩ := bcell hb2; have hz2 := hb2.size; (try simp only [World.size_drew, World.size_alloc, World.size_setCell] at hc2 hf2 hz2); have hk2x0 := fun o => hc2 (w.heap.size) o (by omega); have hj2x0 := fun o => hf2 (w.heap.size) o (by omega); have hq2x0 : w.heap.size < w2.heap.size := (by omega); have hk2x1 := fun o => hc2 (w.heap.size + 1) o (by omega); have hj2x1 := fun o => hf2 (w.heap.size + 1) o (by omega); have hq2x1 : w.heap.size + 1 < w2.heap.size := (by omega); have hk2x2 := fun o => hc2 (w.heap.size + 1 + 1) o (by omega); have hj2x2 := fun o => hf2 (w.heap.size + 1 + 1) o (by omega); have hq2x2 : w.heap.size + 1 + 1 < w2.heap.size := (by omega); have hk2x3 := fun o => hc2 (w.heap.size + 1 + 1 + 1) o (by omega); have hj2x3 := fun o => hf2 (w.heap.size + 1 + 1 + 1) o (by omega); have hq2x3 : w.heap.size + 1 + 1 + 1 < w2.heap.size := (by omega); have hk2x4 := fun o => hc2 (w.heap.size + 1 + 1 + 1 + 1) o (by omega); have hj2x4 := fun o => hf2 (w.heap.size + 1 + 1 + 1 + 1) o (by omega); have hq2x4 : w.heap.size + 1 + 1 + 1 + 1 < w2.heap.size := (by omega); have hk2x5 := fun o => hc2 (w1.heap.size) o (by omega); have hj2x5 := fun o => hf2 (w1.heap.size) o (by omega); have hq2x5 : w1.heap.size < w2.heap.size := (by omega); clear hc2 hf2)
    | (go_at_call 96; refine (placedOf_z k1 g1 h1 x y _ _ a1).mono ?_; rintro e w1 ⟨A1, B1, C1, D1, rfl, hb1⟩; obtain ⟨hc1, hf1⟩ := bcell hb1; have hz1 := hb1.size; (try simp only [World.size_drew, World.size_alloc, World.size_setCell] at hc1 hf1 hz1); have hk1x0 := fun o => hc1 (w.heap.size) o (by omega); have hj1x0 := fun o => hf1 (w.heap.size) o (by omega); have hq1x0 : w.heap.size < w1.heap.size := (by omega); have hk1x1 := fun o => hc1 (w.heap.size + 1) o (by omega); have hj1x1 := fun o => hf1 (w.heap.size + 1) o (by omega); have hq1x1 : w.heap.size + 1 < w1.heap.size := (by omega); have hk1x2 := fun o => hc1 (w.heap.size + 1 + 1) o (by omega); have hj1x2 := fun o => hf1 (w.heap.size + 1 + 1) o (by omega); have hq1x2 : w.heap.size + 1 + 1 < w1.heap.size := (by omega); have hk1x3 := fun o => hc1 (w.heap.size + 1 + 1 + 1) o (by omega); have hj1x3 := fun o => hf1 (w.heap.size + 1 + 1 + 1) o (by omega); have hq1x3 : w.heap.size + 1 + 1 + 1 < w1.heap.size := (by omega); have hk1x4 := fun o => hc1 (w.heap.size + 1 + 1 + 1 + 1) o (by omega); have hj1x4 := fun o => hf1 (w.heap.size + 1 + 1 + 1 + 1) o (by omega); have hq1x4 : w.heap.size + 1 + 1 + 1 + 1 < w1.heap.size := (by omega); clear hc1 hf1))
   exact bodyPost_ret (v := .tuple #[s3 0 0 0, .bool false]) (by simp [results, Tryz.results72, go_sem, *]) rfl ⟨rfl, bel_a⟩
  | true =>
   clear hz
   go_enter Tryz.func72, Tryz.ntmps72
   go_wp2_with (first
    | (have _ := hb1; go_at_call 96; refine (placedOf_z k2 g2 h2 u v _ _ a2).mono ?_; rintro e w2 ⟨A2, B2, C2, D2, rfl, hb2⟩; obtain ⟨hc2, hf2⟩ := bcell hb2; have hz2 := hb2.size; (try simp only [World.size_drew, World.size_alloc, World.size_setCell] at hc2 hf2 hz2); have hk2x0 := fun o => hc2 (w.heap.size) o (by omega); have hj2x0 := fun o => hf2 (w.heap.size) o (by omega); have hq2x0 : w.heap.size < w2.heap.size := (by omega); have hk2x1 := fun o => hc2 (w.heap.size + 1) o (by omega); have hj2x1 := fun o => hf2 (w.heap.size + 1) o (by omega); have hq2x1 : w.heap.size + 1 < w2.heap.size := (by omega); have hk2x2 := fun o => hc2 (w.heap.size + 1 + 1) o (by omega); have hj2x2 := fun o => hf2 (w.heap.size + 1 + 1) o (by omega); have hq2x2 : w.heap.size + 1 + 1 < w2.heap.size := (by omega); have hk2x3 := fun o => hc2 (w.heap.size + 1 + 1 + 1) o (by omega); have hj2x3 := fun o => hf2 (w.heap.size + 1 + 1 + 1) o (by omega); have hq2x3 : w.heap.size + 1 + 1 + 1 < w2.heap.size := (by omega); have hk2x4 := fun o => hc2 (w.heap.size + 1 + 1 + 1 + 1) o (by omega); have hj2x4 := fun o => hf2 (w.heap.size + 1 + 1 + 1 + 1) o (by omega); have hq2x4 : w.heap.size + 1 + 1 + 1 + 1 < w2.heap.size := (by omega); have hk2x5 := fun o => hc2 (w1.heap.size) o (by omega); have hj2x5 := fun o => hf2 (w1.heap.size) o (by omega); have hq2x5 : w1.heap.size < w2.heap.size := (by omega); clear hc2 hf2)
    | (go_at_call 96; refine (placedOf_z k1 g1 h1 x y _ _ a1).mono ?_; rintro e w1 ⟨A1, B1, C1, D1, rfl, hb1⟩; obtain ⟨hc1, hf1⟩ := bcell hb1; have hz1 := hb1.size; (try simp only [World.size_drew, World.size_alloc, World.size_setCell] at hc1 hf1 hz1); have hk1x0 := fun o => hc1 (w.heap.size) o (by omega); have hj1x0 := fun o => hf1 (w.heap.size) o (by omega); have hq1x0 : w.heap.size < w1.heap.size := (by omega); have hk1x1 := fun o => hc1 (w.heap.size + 1) o (by omega); have hj1x1 := fun o => hf1 (w.heap.size + 1) o (by omega); have hq1x1 : w.heap.size + 1 < w1.heap.size := (by omega); have hk1x2 := fun o => hc1 (w.heap.size + 1 + 1) o (by omega); have hj1x2 := fun o => hf1 (w.heap.size + 1 + 1) o (by omega); have hq1x2 : w.heap.size + 1 + 1 < w1.heap.size := (by omega); have hk1x3 := fun o => hc1 (w.heap.size + 1 + 1 + 1) o (by omega); have hj1x3 := fun o => hf1 (w.heap.size + 1 + 1 + 1) o (by omega); have hq1x3 : w.heap.size + 1 + 1 + 1 < w1.heap.size := (by omega); have hk1x4 := fun o => hc1 (w.heap.size + 1 + 1 + 1 + 1) o (by omega); have hj1x4 := fun o => hf1 (w.heap.size + 1 + 1 + 1 + 1) o (by omega); have hq1x4 : w.heap.size + 1 + 1 + 1 + 1 < w1.heap.size := (by omega); clear hc1 hf1))
   exact bodyPost_ret (v := .tuple #[s3 0 0 0, .bool false]) (by simp [results, Tryz.results72, go_sem, *]) rfl ⟨rfl, bel_a⟩
 | true =>
  cases a2 : plZ k2 g2 h2 u v with
  | false =>
   clear hz
   go_enter Tryz.func72, Tryz.ntmps72
   go_wp2_with (first
    | (have _ := hb1; go_at_call 96; refine (placedOf_z k2 g2 h2 u v _ _ a2).mono ?_; rintro e w2 ⟨A2, B2, C2, D2, rfl, hb2⟩; obtain ⟨hc2, hf2⟩ := bcell hb2; have hz2 := hb2.size; (try simp only [World.size_drew, World.size_alloc, World.size_setCell] at hc2 hf2 hz2); have hk2x0 := fun o => hc2 (w.heap.size) o (by omega); have hj2x0 := fun o => hf2 (w.heap.size) o (by omega); have hq2x0 : w.heap.size < w2.heap.size := (by omega); have hk2x1 := fun o => hc2 (w.heap.size + 1) o (by omega); have hj2x1 := fun o => hf2 (w.heap.size + 1) o (by omega); have hq2x1 : w.heap.size + 1 < w2.heap.size := (by omega); have hk2x2 := fun o => hc2 (w.heap.size + 1 + 1) o (by omega); have hj2x2 := fun o => hf2 (w.heap.size + 1 + 1) o (by omega); have hq2x2 : w.heap.size + 1 + 1 < w2.heap.size := (by omega); have hk2x3 := fun o => hc2 (w.heap.size + 1 + 1 + 1) o (by omega); have hj2x3 := fun o => hf2 (w.heap.size + 1 + 1 + 1) o (by omega); have hq2x3 : w.heap.size + 1 + 1 + 1 < w2.heap.size := (by omega); have hk2x4 := fun o => hc2 (w.heap.size + 1 + 1 + 1 + 1) o (by omega); have hj2x4 := fun o => hf2 (w.heap.size + 1 + 1 + 1 + 1) o (by omega); have hq2x4 : w.heap.size + 1 + 1 + 1 + 1 < w2.heap.size := (by omega); have hk2x5 := fun o => hc2 (w1.heap.size) o (by omega); have hj2x5 := fun o => hf2 (w1.heap.size) o (by omega); have hq2x5 : w1.heap.size < w2.heap.size := (by omega); clear hc2 hf2)
    | (go_at_call 96; refine (placedOf_z k1 g1 h1 x y _ _ a1).mono ?_; rintro e w1 ⟨A1, B1, C1, D1, rfl, hb1⟩; obtain ⟨hc1, hf1⟩ := bcell hb1; have hz1 := hb1.size; (try simp only [World.size_drew, World.size_alloc, World.size_setCell] at hc1 hf1 hz1); have hk1x0 := fun o => hc1 (w.heap.size) o (by omega); have hj1x0 := fun o => hf1 (w.heap.size) o (by omega); have hq1x0 : w.heap.size < w1.heap.size := (by omega); have hk1x1 := fun o => hc1 (w.heap.size + 1) o (by omega); have hj1x1 := fun o => hf1 (w.heap.size + 1) o (by omega); have hq1x1 : w.heap.size + 1 < w1.heap.size := (by omega); have hk1x2 := fun o => hc1 (w.heap.size + 1 + 1) o (by omega); have hj1x2 := fun o => hf1 (w.heap.size + 1 + 1) o (by omega); have hq1x2 : w.heap.size + 1 + 1 < w1.heap.size := (by omega); have hk1x3 := fun o => hc1 (w.heap.size + 1 + 1 + 1) o (by omega); have hj1x3 := fun o => hf1 (w.heap.size + 1 + 1 + 1) o (by omega); have hq1x3 : w.heap.size + 1 + 1 + 1 < w1.heap.size := (by omega); have hk1x4 := fun o => hc1 (w.heap.size + 1 + 1 + 1 + 1) o (by omega); have hj1x4 := fun o => hf1 (w.heap.size + 1 + 1 + 1 + 1) o (by omega); have hq1x4 : w.heap.size + 1 + 1 + 1 + 1 < w1.heap.size := (by omega); clear hc1 hf1))
   exact bodyPost_ret (v := .tuple #[s3 0 0 0, .bool false]) (by simp [results, Tryz.results72, go_sem, *]) rfl ⟨rfl, bel_a⟩
  | true => rw [a1, a2] at hz; cases hz
theorem touch_q (k1 g1 h1 x y k2 g2 h2 u v X Y D : Int) (J : Bool) (w : World) (e : toT k1 g1 h1 x y k2 g2 h2 u v = ((X, Y, D), J)) :
 Calls Tryz.prog 72 #[s3 k1 g1 h1, vv x y, s3 k2 g2 h2, vv u v] w fun e w' => e = .returned (.tuple #[s3 X Y D, .bool J]) ∧ Below w.heap.size w w' := by
 cases hz : (plZ k1 g1 h1 x y && plZ k2 g2 h2 u v) with
 | false =>
  have e2 : toT k1 g1 h1 x y k2 g2 h2 u v = ((0, 0, 0), false) := by
   unfold toT; rw [if_neg ?_]
   intro h
   unfold plZ at hz
   simp only [Bool.and_eq_true] at h
   rw [h.1, h.2.1, h.2.2.1, h.2.2.2] at hz
   cases hz
  rw [e2] at e
  simp only [Prod.mk.injEq] at e
  obtain ⟨⟨eX, eY, eD⟩, eK⟩ := e
  subst eX
  subst eY
  subst eD
  subst eK
  exact touch_z k1 g1 h1 x y k2 g2 h2 u v w hz
 | true =>
  unfold plZ at hz
  simp only [Bool.and_eq_true] at hz
  obtain ⟨⟨s1, p1⟩, s2, p2⟩ := hz
  rcases shB_kinds s1 with ⟨rfl, rfl, a0, a1⟩ | ⟨rfl, a0, a1, a2, a3⟩
  · rcases shB_kinds s2 with ⟨rfl, rfl, b0, b1⟩ | ⟨rfl, b0, b1, b2, b3⟩
    · exact touch_rr g1 g2 x y u v X Y D J w ⟨a0, a1⟩ ⟨b0, b1⟩ p1 p2 s1 s2 e
    · exact touch_rb g1 g2 h2 x y u v X Y D J w ⟨a0, a1⟩ ⟨b0, b1⟩ ⟨b2, b3⟩ p1 p2 s1 s2 e
  · rcases shB_kinds s2 with ⟨rfl, rfl, b0, b1⟩ | ⟨rfl, b0, b1, b2, b3⟩
    · exact touch_br g1 h1 g2 x y u v X Y D J w ⟨a0, a1⟩ ⟨a2, a3⟩ ⟨b0, b1⟩ p1 p2 s1 s2 e
    · exact touch_bb g1 h1 g2 h2 x y u v X Y D J w ⟨a0, a1⟩ ⟨a2, a3⟩ ⟨b0, b1⟩ ⟨b2, b3⟩ p1 p2 s1 s2 e
theorem place_any (k : Int) (w : World) :
 Calls Tryz.prog 44 #[.int .i64 k] w fun e w' => e = .returned (.int .i64 k) ∧ Below w.heap.size w w' := by
 go_enter Tryz.func44, Tryz.ntmps44
 go_wp2
 go_ret
 exact ⟨rfl, bel_a⟩
theorem kTouch {cb n k cb' n' k' : Nat} {V V' : Nat → Int} {G G' : Nat → Nat} {w : World} (h : HAt w cb n k V G) (h' : HAt w cb' n' k' V' G') (X Y D : Int) (J : Bool) (e : toT (V 1) (V 2) (V 3) (V 4) (V 5) (V' 1) (V' 2) (V' 3) (V' 4) (V' 5) = ((X, Y, D), J)) :
 Calls Tryz.prog 43 #[hdk cb k, hdk cb' k'] w fun e w' => e = .returned (.tuple #[s3 X Y D, .bool J]) ∧ Below w.heap.size w w' := by
 have hset := cset_map
 go_enter Tryz.func43, Tryz.ntmps43
 go_upto_region 1 with fail
 refine wp_region_held_drew (S := fun w' => w'.cell? ⟨w.heap.size, 0, none⟩ = some (.int .i64 (k : Int)) ∧ w'.cell? ⟨w.heap.size, 1, none⟩ = some (.pointer (some ⟨cb, 0, none⟩)) ∧ w'.cell? ⟨w.heap.size + 1, 0, none⟩ = some (.int .i64 (k' : Int)) ∧ w'.cell? ⟨w.heap.size + 1, 1, none⟩ = some (.pointer (some ⟨cb', 0, none⟩))) (by kernel_rfl) ?_ (fun hHeld => ?_)
 · (try dsimp only)
   (first | (go_simp; done) | (go_keep; done))
 refine tq 0 hHeld ?_
 refine tq 2 hHeld ?_
 refine tq 5 hHeld ?_
 refine tq 7 hHeld ?_
 (refine tc 1 fun K hK => ?_; go_simp; (go_at_call 59; refine (kShape (HAt.below h (bel_a))).mono ?_; rintro e w1 ⟨rfl, hb1⟩; obtain ⟨hc1, hf1⟩ := bcell hb1; have hz1 := hb1.size; (try simp only [World.size_drew, World.size_alloc, World.size_setCell] at hc1 hf1 hz1); have hk1x0 := fun o => hc1 (w.heap.size) o (by omega); have hj1x0 := fun o => hf1 (w.heap.size) o (by omega); have hq1x0 : w.heap.size < w1.heap.size := (by omega); have hk1x1 := fun o => hc1 (w.heap.size + 1) o (by omega); have hj1x1 := fun o => hf1 (w.heap.size + 1) o (by omega); have hq1x1 : w.heap.size + 1 < w1.heap.size := (by omega); have hk1x2 := fun o => hc1 (w.heap.size + 1 + 1) o (by omega); have hj1x2 := fun o => hf1 (w.heap.size + 1 + 1) o (by omega); have hq1x2 : w.heap.size + 1 + 1 < w1.heap.size := (by omega); clear hc1 hf1); (try go_wp2_with fail); refine tr hK (fun hHeld => ?_); clear hK K)
 (refine tc 3 fun K hK => ?_; go_simp; (go_at_call 60; refine (kAt (HAt.below h (bel_a))).mono ?_; rintro e w2 ⟨rfl, hb2⟩; obtain ⟨hc2, hf2⟩ := bcell hb2; have hz2 := hb2.size; (try simp only [World.size_drew, World.size_alloc, World.size_setCell] at hc2 hf2 hz2); have hk2x0 := fun o => hc2 (w.heap.size) o (by omega); have hj2x0 := fun o => hf2 (w.heap.size) o (by omega); have hq2x0 : w.heap.size < w2.heap.size := (by omega); have hk2x1 := fun o => hc2 (w.heap.size + 1) o (by omega); have hj2x1 := fun o => hf2 (w.heap.size + 1) o (by omega); have hq2x1 : w.heap.size + 1 < w2.heap.size := (by omega); have hk2x2 := fun o => hc2 (w.heap.size + 1 + 1) o (by omega); have hj2x2 := fun o => hf2 (w.heap.size + 1 + 1) o (by omega); have hq2x2 : w.heap.size + 1 + 1 < w2.heap.size := (by omega); clear hc2 hf2); (try go_wp2_with fail); refine tr hK (fun hHeld => ?_); clear hK K)
 (refine tc 4 fun K hK => ?_; go_simp; (go_at_call 73; refine (vec_any _ _ _).mono ?_; rintro e w3 ⟨rfl, hb3⟩; obtain ⟨hc3, hf3⟩ := bcell hb3; have hz3 := hb3.size; (try simp only [World.size_drew, World.size_alloc, World.size_setCell] at hc3 hf3 hz3); have hk3x0 := fun o => hc3 (w.heap.size) o (by omega); have hj3x0 := fun o => hf3 (w.heap.size) o (by omega); have hq3x0 : w.heap.size < w3.heap.size := (by omega); have hk3x1 := fun o => hc3 (w.heap.size + 1) o (by omega); have hj3x1 := fun o => hf3 (w.heap.size + 1) o (by omega); have hq3x1 : w.heap.size + 1 < w3.heap.size := (by omega); have hk3x2 := fun o => hc3 (w.heap.size + 1 + 1) o (by omega); have hj3x2 := fun o => hf3 (w.heap.size + 1 + 1) o (by omega); have hq3x2 : w.heap.size + 1 + 1 < w3.heap.size := (by omega); clear hc3 hf3); (try go_wp2_with fail); refine tr hK (fun hHeld => ?_); clear hK K)
 (refine tc 6 fun K hK => ?_; go_simp; (go_at_call 59; refine (kShape (HAt.below h' (bel_a))).mono ?_; rintro e w4 ⟨rfl, hb4⟩; obtain ⟨hc4, hf4⟩ := bcell hb4; have hz4 := hb4.size; (try simp only [World.size_drew, World.size_alloc, World.size_setCell] at hc4 hf4 hz4); have hk4x0 := fun o => hc4 (w.heap.size) o (by omega); have hj4x0 := fun o => hf4 (w.heap.size) o (by omega); have hq4x0 : w.heap.size < w4.heap.size := (by omega); have hk4x1 := fun o => hc4 (w.heap.size + 1) o (by omega); have hj4x1 := fun o => hf4 (w.heap.size + 1) o (by omega); have hq4x1 : w.heap.size + 1 < w4.heap.size := (by omega); have hk4x2 := fun o => hc4 (w.heap.size + 1 + 1) o (by omega); have hj4x2 := fun o => hf4 (w.heap.size + 1 + 1) o (by omega); have hq4x2 : w.heap.size + 1 + 1 < w4.heap.size := (by omega); clear hc4 hf4); (try go_wp2_with fail); refine tr hK (fun hHeld => ?_); clear hK K)
 (refine tc 8 fun K hK => ?_; go_simp; (go_at_call 60; refine (kAt (HAt.below h' (bel_a))).mono ?_; rintro e w5 ⟨rfl, hb5⟩; obtain ⟨hc5, hf5⟩ := bcell hb5; have hz5 := hb5.size; (try simp only [World.size_drew, World.size_alloc, World.size_setCell] at hc5 hf5 hz5); have hk5x0 := fun o => hc5 (w.heap.size) o (by omega); have hj5x0 := fun o => hf5 (w.heap.size) o (by omega); have hq5x0 : w.heap.size < w5.heap.size := (by omega); have hk5x1 := fun o => hc5 (w.heap.size + 1) o (by omega); have hj5x1 := fun o => hf5 (w.heap.size + 1) o (by omega); have hq5x1 : w.heap.size + 1 < w5.heap.size := (by omega); have hk5x2 := fun o => hc5 (w.heap.size + 1 + 1) o (by omega); have hj5x2 := fun o => hf5 (w.heap.size + 1 + 1) o (by omega); have hq5x2 : w.heap.size + 1 + 1 < w5.heap.size := (by omega); clear hc5 hf5); (try go_wp2_with fail); refine tr hK (fun hHeld => ?_); clear hK K)
 (refine tc 9 fun K hK => ?_; go_simp; (go_at_call 73; refine (vec_any _ _ _).mono ?_; rintro e w6 ⟨rfl, hb6⟩; obtain ⟨hc6, hf6⟩ := bcell hb6; have hz6 := hb6.size; (try simp only [World.size_drew, World.size_alloc, World.size_setCell] at hc6 hf6 hz6); have hk6x0 := fun o => hc6 (w.heap.size) o (by omega); have hj6x0 := fun o => hf6 (w.heap.size) o (by omega); have hq6x0 : w.heap.size < w6.heap.size := (by omega); have hk6x1 := fun o => hc6 (w.heap.size + 1) o (by omega); have hj6x1 := fun o => hf6 (w.heap.size + 1) o (by omega); have hq6x1 : w.heap.size + 1 < w6.heap.size := (by omega); have hk6x2 := fun o => hc6 (w.heap.size + 1 + 1) o (by omega); have hj6x2 := fun o => hf6 (w.heap.size + 1 + 1) o (by omega); have hq6x2 : w.heap.size + 1 + 1 < w6.heap.size := (by omega); clear hc6 hf6); (try go_wp2_with fail); refine tr hK (fun hHeld => ?_); clear hK K)
 (refine tc 10 fun K hK => ?_; go_simp; (go_at_call 72; refine (touch_q _ _ _ _ _ _ _ _ _ _ X Y D J _ (by with_reducible assumption)).mono ?_; rintro e w7 ⟨rfl, hb7⟩; obtain ⟨hc7, hf7⟩ := bcell hb7; have hz7 := hb7.size; (try simp only [World.size_drew, World.size_alloc, World.size_setCell] at hc7 hf7 hz7); have hk7x0 := fun o => hc7 (w.heap.size) o (by omega); have hj7x0 := fun o => hf7 (w.heap.size) o (by omega); have hq7x0 : w.heap.size < w7.heap.size := (by omega); have hk7x1 := fun o => hc7 (w.heap.size + 1) o (by omega); have hj7x1 := fun o => hf7 (w.heap.size + 1) o (by omega); have hq7x1 : w.heap.size + 1 < w7.heap.size := (by omega); have hk7x2 := fun o => hc7 (w.heap.size + 1 + 1) o (by omega); have hj7x2 := fun o => hf7 (w.heap.size + 1 + 1) o (by omega); have hq7x2 : w.heap.size + 1 + 1 < w7.heap.size := (by omega); clear hc7 hf7); (try go_wp2_with fail); refine tr hK (fun hHeld => ?_); clear hK K)
 refine tq 11 hHeld ?_
 refine tq 12 hHeld ?_
 (refine tc 13 fun K hK => ?_; go_simp; refine tr hK (fun hHeld => ?_); clear hK K)
 refine tq 14 hHeld ?_
 refine wpAnyH_done (by kernel_rfl) ?_ _
 go_wp2_with fail
 exact bodyPost_ret (v := .tuple #[s3 X Y D, .bool J]) (by simp [results, Tryz.results43, go_sem, *]) rfl ⟨rfl, bel_a⟩
end Go.Proofs.YtalkkjhehndaoaaGreat
