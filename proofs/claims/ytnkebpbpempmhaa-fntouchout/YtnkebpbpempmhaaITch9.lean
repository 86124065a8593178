/- How two shapes touch, by the program, whatever they are. -/
import Derived.Test.YtnkebpbpempmhaaITch8
import Derived.Laws.EntriesVeiled
import Derived.Deep.RegionHeld3
import Derived.Deep.DeepCutAuto
namespace Go.Proofs.Ytnkebpbpempmhaa
open Go.RowKit
set_option linter.unusedVariables false
set_option linter.unusedSimpArgs false

theorem placedOf_z (k g h x y : Int) (b : Bool) (w : World) (e : plZ k g h x y = b) : Calls Try.prog 56 #[s3 k g h, vv x y] w fun e w' => ∃ A B C D : Int, e = .returned (.tuple #[b4 A B C D, .bool b]) ∧ Below w.heap.size w w' := by
  subst e; exact placedOf_any k g h x y w
set_option maxHeartbeats 8000000 in
theorem touch_z (k1 g1 h1 x y k2 g2 h2 u v : Int) (w : World) (hz : (plZ k1 g1 h1 x y && plZ k2 g2 h2 u v) = false) :
    Calls Try.prog 18 #[s3 k1 g1 h1, vv x y, s3 k2 g2 h2, vv u v] w fun e w' => e = .returned (.tuple #[s3 0 0 0, .bool false]) ∧ Below w.heap.size w w' := by
  have hset := cset_map
  cases a1 : plZ k1 g1 h1 x y with
  | false =>
    cases a2 : plZ k2 g2 h2 u v with
    | false =>
      clear hz
      go_enter Try.func18, Try.ntmps18
      go_wp2_with (first
          | (have _ := hb1; go_at_call 56; refine (placedOf_z k2 g2 h2 u v _ _ a2).mono ?_; rintro e w2 ⟨A2, B2, C2, D2, rfl, hb2⟩; obtain ⟨hc2, hf2⟩ := bcell hb2; have hz2 := hb2.size; (try simp only [World.size_drew, World.size_alloc, World.size_setCell] at hc2 hf2 hz2); have hk2x0 := fun o => hc2 (w.heap.size) o (by omega); have hj2x0 := fun o => hf2 (w.heap.size) o (by omega); have hq2x0 : w.heap.size < w2.heap.size := (by omega); have hk2x1 := fun o => hc2 (w.heap.size + 1) o (by omega); have hj2x1 := fun o => hf2 (w.heap.size + 1) o (by omega); have hq2x1 : w.heap.size + 1 < w2.heap.size := (by omega); have hk2x2 := fun o => hc2 (w.heap.size + 1 + 1) o (by omega); have hj2x2 := fun o => hf2 (w.heap.size + 1 + 1) o (by omega); have hq2x2 : w.heap.size + 1 + 1 < w2.heap.size := (by omega); have hk2x3 := fun o => hc2 (w.heap.size + 1 + 1 + 1) o (by omega); have hj2x3 := fun o => hf2 (w.heap.size + 1 + 1 + 1) o (by omega); have hq2x3 : w.heap.size + 1 + 1 + 1 < w2.heap.size := (by omega); have hk2x4 := fun o => hc2 (w.heap.size + 1 + 1 + 1 + 1) o (by omega); have hj2x4 := fun o => hf2 (w.heap.size + 1 + 1 + 1 + 1) o (by omega); have hq2x4 : w.heap.size + 1 + 1 + 1 + 1 < w2.heap.size := (by omega); have hk2x5 := fun o => hc2 (w1.heap.size) o (by omega); have hj2x5 := fun o => hf2 (w1.heap.size) o (by omega); have hq2x5 : w1.heap.size < w2.heap.size := (by omega); clear hc2 hf2)
          | (go_at_call 56; refine (placedOf_z k1 g1 h1 x y _ _ a1).mono ?_; rintro e w1 ⟨A1, B1, C1, D1, rfl, hb1⟩; obtain ⟨hc1, hf1⟩ := bcell hb1; have hz1 := hb1.size; (try simp only [World.size_drew, World.size_alloc, World.size_setCell] at hc1 hf1 hz1); have hk1x0 := fun o => hc1 (w.heap.size) o (by omega); have hj1x0 := fun o => hf1 (w.heap.size) o (by omega); have hq1x0 : w.heap.size < w1.heap.size := (by omega); have hk1x1 := fun o => hc1 (w.heap.size + 1) o (by omega); have hj1x1 := fun o => hf1 (w.heap.size + 1) o (by omega); have hq1x1 : w.heap.size + 1 < w1.heap.size := (by omega); have hk1x2 := fun o => hc1 (w.heap.size + 1 + 1) o (by omega); have hj1x2 := fun o => hf1 (w.heap.size + 1 + 1) o (by omega); have hq1x2 : w.heap.size + 1 + 1 < w1.heap.size := (by omega); have hk1x3 := fun o => hc1 (w.heap.size + 1 + 1 + 1) o (by omega); have hj1x3 := fun o => hf1 (w.heap.size + 1 + 1 + 1) o (by omega); have hq1x3 : w.heap.size + 1 + 1 + 1 < w1.heap.size := (by omega); have hk1x4 := fun o => hc1 (w.heap.size + 1 + 1 + 1 + 1) o (by omega); have hj1x4 := fun o => hf1 (w.heap.size + 1 + 1 + 1 + 1) o (by omega); have hq1x4 : w.heap.size + 1 + 1 + 1 + 1 < w1.heap.size := (by omega); clear hc1 hf1))
      exact bodyPost_ret (v := .tuple #[s3 0 0 0, .bool false]) (by simp [results, Try.results18, go_sem, *]) rfl ⟨rfl, by repeat (first | with_reducible apply Below.refl | (with_reducible apply Below.setCell; rotate_left; focus (first | omega | (simp; done) | (simp; omega))) | (with_reducible apply Below.alloc; rotate_left; focus (first | omega | (simp; done) | (simp; omega))) | with_reducible apply Below.drew | with_reducible apply belowDrewN | (with_reducible apply Below.trans; rotate_left; with_reducible apply Below.mono; with_reducible assumption; focus (first | omega | (simp; done) | (simp; omega))))⟩
    | true =>
      clear hz
      go_enter Try.func18, Try.ntmps18
      go_wp2_with (first
          | (have _ := hb1; go_at_call 56; refine (placedOf_z k2 g2 h2 u v _ _ a2).mono ?_; rintro e w2 ⟨A2, B2, C2, D2, rfl, hb2⟩; obtain ⟨hc2, hf2⟩ := bcell hb2; have hz2 := hb2.size; (try simp only [World.size_drew, World.size_alloc, World.size_setCell] at hc2 hf2 hz2); have hk2x0 := fun o => hc2 (w.heap.size) o (by omega); have hj2x0 := fun o => hf2 (w.heap.size) o (by omega); have hq2x0 : w.heap.size < w2.heap.size := (by omega); have hk2x1 := fun o => hc2 (w.heap.size + 1) o (by omega); have hj2x1 := fun o => hf2 (w.heap.size + 1) o (by omega); have hq2x1 : w.heap.size + 1 < w2.heap.size := (by omega); have hk2x2 := fun o => hc2 (w.heap.size + 1 + 1) o (by omega); have hj2x2 := fun o => hf2 (w.heap.size + 1 + 1) o (by omega); have hq2x2 : w.heap.size + 1 + 1 < w2.heap.size := (by omega); have hk2x3 := fun o => hc2 (w.heap.size + 1 + 1 + 1) o (by omega); have hj2x3 := fun o => hf2 (w.heap.size + 1 + 1 + 1) o (by omega); have hq2x3 : w.heap.size + 1 + 1 + 1 < w2.heap.size := (by omega); have hk2x4 := fun o => hc2 (w.heap.size + 1 + 1 + 1 + 1) o (by omega); have hj2x4 := fun o => hf2 (w.heap.size + 1 + 1 + 1 + 1) o (by omega); have hq2x4 : w.heap.size + 1 + 1 + 1 + 1 < w2.heap.size := (by omega); have hk2x5 := fun o => hc2 (w1.heap.size) o (by omega); have hj2x5 := fun o => hf2 (w1.heap.size) o (by omega); have hq2x5 : w1.heap.size < w2.heap.size := (by omega); clear hc2 hf2)
          | (go_at_call 56; refine (placedOf_z k1 g1 h1 x y _ _ a1).mono ?_; rintro e w1 ⟨A1, B1, C1, D1, rfl, hb1⟩; obtain ⟨hc1, hf1⟩ := bcell hb1; have hz1 := hb1.size; (try simp only [World.size_drew, World.size_alloc, World.size_setCell] at hc1 hf1 hz1); have hk1x0 := fun o => hc1 (w.heap.size) o (by omega); have hj1x0 := fun o => hf1 (w.heap.size) o (by omega); have hq1x0 : w.heap.size < w1.heap.size := (by omega); have hk1x1 := fun o => hc1 (w.heap.size + 1) o (by omega); have hj1x1 := fun o => hf1 (w.heap.size + 1) o (by omega); have hq1x1 : w.heap.size + 1 < w1.heap.size := (by omega); have hk1x2 := fun o => hc1 (w.heap.size + 1 + 1) o (by omega); have hj1x2 := fun o => hf1 (w.heap.size + 1 + 1) o (by omega); have hq1x2 : w.heap.size + 1 + 1 < w1.heap.size := (by omega); have hk1x3 := fun o => hc1 (w.heap.size + 1 + 1 + 1) o (by omega); have hj1x3 := fun o => hf1 (w.heap.size + 1 + 1 + 1) o (by omega); have hq1x3 : w.heap.size + 1 + 1 + 1 < w1.heap.size := (by omega); have hk1x4 := fun o => hc1 (w.heap.size + 1 + 1 + 1 + 1) o (by omega); have hj1x4 := fun o => hf1 (w.heap.size + 1 + 1 + 1 + 1) o (by omega); have hq1x4 : w.heap.size + 1 + 1 + 1 + 1 < w1.heap.size := (by omega); clear hc1 hf1))
      exact bodyPost_ret (v := .tuple #[s3 0 0 0, .bool false]) (by simp [results, Try.results18, go_sem, *]) rfl ⟨rfl, by repeat (first | with_reducible apply Below.refl | (with_reducible apply Below.setCell; rotate_left; focus (first | omega | (simp; done) | (simp; omega))) | (with_reducible apply Below.alloc; rotate_left; focus (first | omega | (simp; done) | (simp; omega))) | with_reducible apply Below.drew | with_reducible apply belowDrewN | (with_reducible apply Below.trans; rotate_left; with_reducible apply Below.mono; with_reducible assumption; focus (first | omega | (simp; done) | (simp; omega))))⟩
  | true =>
    cases a2 : plZ k2 g2 h2 u v with
    | false =>
      clear hz
      go_enter Try.func18, Try.ntmps18
      go_wp2_with (first
          | (have _ := hb1; go_at_call 56; refine (placedOf_z k2 g2 h2 u v _ _ a2).mono ?_; rintro e w2 ⟨A2, B2, C2, D2, rfl, hb2⟩; obtain ⟨hc2, hf2⟩ := bcell hb2; have hz2 := hb2.size; (try simp only [World.size_drew, World.size_alloc, World.size_setCell] at hc2 hf2 hz2); have hk2x0 := fun o => hc2 (w.heap.size) o (by omega); have hj2x0 := fun o => hf2 (w.heap.size) o (by omega); have hq2x0 : w.heap.size < w2.heap.size := (by omega); have hk2x1 := fun o => hc2 (w.heap.size + 1) o (by omega); have hj2x1 := fun o => hf2 (w.heap.size + 1) o (by omega); have hq2x1 : w.heap.size + 1 < w2.heap.size := (by omega); have hk2x2 := fun o => hc2 (w.heap.size + 1 + 1) o (by omega); have hj2x2 := fun o => hf2 (w.heap.size + 1 + 1) o (by omega); have hq2x2 : w.heap.size + 1 + 1 < w2.heap.size := (by omega); have hk2x3 := fun o => hc2 (w.heap.size + 1 + 1 + 1) o (by omega); have hj2x3 := fun o => hf2 (w.heap.size + 1 + 1 + 1) o (by omega); have hq2x3 : w.heap.size + 1 + 1 + 1 < w2.heap.size := (by omega); have hk2x4 := fun o => hc2 (w.heap.size + 1 + 1 + 1 + 1) o (by omega); have hj2x4 := fun o => hf2 (w.heap.size + 1 + 1 + 1 + 1) o (by omega); have hq2x4 : w.heap.size + 1 + 1 + 1 + 1 < w2.heap.size := (by omega); have hk2x5 := fun o => hc2 (w1.heap.size) o (by omega); have hj2x5 := fun o => hf2 (w1.heap.size) o (by omega); have hq2x5 : w1.heap.size < w2.heap.size := (by omega); clear hc2 hf2)
          | (go_at_call 56; refine (placedOf_z k1 g1 h1 x y _ _ a1).mono ?_; rintro e w1 ⟨A1, B1, C1, D1, rfl, hb1⟩; obtain ⟨hc1, hf1⟩ := bcell hb1; have hz1 := hb1.size; (try simp only [World.size_drew, World.size_alloc, World.size_setCell] at hc1 hf1 hz1); have hk1x0 := fun o => hc1 (w.heap.size) o (by omega); have hj1x0 := fun o => hf1 (w.heap.size) o (by omega); have hq1x0 : w.heap.size < w1.heap.size := (by omega); have hk1x1 := fun o => hc1 (w.heap.size + 1) o (by omega); have hj1x1 := fun o => hf1 (w.heap.size + 1) o (by omega); have hq1x1 : w.heap.size + 1 < w1.heap.size := (by omega); have hk1x2 := fun o => hc1 (w.heap.size + 1 + 1) o (by omega); have hj1x2 := fun o => hf1 (w.heap.size + 1 + 1) o (by omega); have hq1x2 : w.heap.size + 1 + 1 < w1.heap.size := (by omega); have hk1x3 := fun o => hc1 (w.heap.size + 1 + 1 + 1) o (by omega); have hj1x3 := fun o => hf1 (w.heap.size + 1 + 1 + 1) o (by omega); have hq1x3 : w.heap.size + 1 + 1 + 1 < w1.heap.size := (by omega); have hk1x4 := fun o => hc1 (w.heap.size + 1 + 1 + 1 + 1) o (by omega); have hj1x4 := fun o => hf1 (w.heap.size + 1 + 1 + 1 + 1) o (by omega); have hq1x4 : w.heap.size + 1 + 1 + 1 + 1 < w1.heap.size := (by omega); clear hc1 hf1))
      exact bodyPost_ret (v := .tuple #[s3 0 0 0, .bool false]) (by simp [results, Try.results18, go_sem, *]) rfl ⟨rfl, by repeat (first | with_reducible apply Below.refl | (with_reducible apply Below.setCell; rotate_left; focus (first | omega | (simp; done) | (simp; omega))) | (with_reducible apply Below.alloc; rotate_left; focus (first | omega | (simp; done) | (simp; omega))) | with_reducible apply Below.drew | with_reducible apply belowDrewN | (with_reducible apply Below.trans; rotate_left; with_reducible apply Below.mono; with_reducible assumption; focus (first | omega | (simp; done) | (simp; omega))))⟩
    | true => rw [a1, a2] at hz; cases hz

theorem touch_q (k1 g1 h1 x y k2 g2 h2 u v X Y D : Int) (J : Bool) (w : World) (e : toT k1 g1 h1 x y k2 g2 h2 u v = ((X, Y, D), J)) :
    Calls Try.prog 18 #[s3 k1 g1 h1, vv x y, s3 k2 g2 h2, vv u v] w fun e w' => e = .returned (.tuple #[s3 X Y D, .bool J]) ∧ Below w.heap.size w w' := by
  cases hz : (plZ k1 g1 h1 x y && plZ k2 g2 h2 u v) with
  | false =>
    have e2 : toT k1 g1 h1 x y k2 g2 h2 u v = ((0, 0, 0), false) := by
      unfold toT; rw [if_neg ?_]
      intro h
      unfold plZ at hz
      simp only [Bool.and_eq_true] at h
      rw [h.1, h.2.1, h.2.2.1, h.2.2.2] at hz
      cases hz
    rw [e2] at e
    simp only [Prod.mk.injEq] at e
    obtain ⟨⟨eX, eY, eD⟩, eK⟩ := e
    subst eX
    subst eY
    subst eD
    subst eK
    exact touch_z k1 g1 h1 x y k2 g2 h2 u v w hz
  | true =>
    unfold plZ at hz
    simp only [Bool.and_eq_true] at hz
    obtain ⟨⟨s1, p1⟩, s2, p2⟩ := hz
    rcases shB_kinds s1 with ⟨rfl, rfl, a0, a1⟩ | ⟨rfl, a0, a1, a2, a3⟩
    · rcases shB_kinds s2 with ⟨rfl, rfl, b0, b1⟩ | ⟨rfl, b0, b1, b2, b3⟩
      · exact touch_rr g1 g2 x y u v X Y D J w ⟨a0, a1⟩ ⟨b0, b1⟩ p1 p2 s1 s2 e
      · exact touch_rb g1 g2 h2 x y u v X Y D J w ⟨a0, a1⟩ ⟨b0, b1⟩ ⟨b2, b3⟩ p1 p2 s1 s2 e
    · rcases shB_kinds s2 with ⟨rfl, rfl, b0, b1⟩ | ⟨rfl, b0, b1, b2, b3⟩
      · exact touch_br g1 h1 g2 x y u v X Y D J w ⟨a0, a1⟩ ⟨a2, a3⟩ ⟨b0, b1⟩ p1 p2 s1 s2 e
      · exact touch_bb g1 h1 g2 h2 x y u v X Y D J w ⟨a0, a1⟩ ⟨a2, a3⟩ ⟨b0, b1⟩ ⟨b2, b3⟩ p1 p2 s1 s2 e
end Go.Proofs.Ytnkebpbpempmhaa
