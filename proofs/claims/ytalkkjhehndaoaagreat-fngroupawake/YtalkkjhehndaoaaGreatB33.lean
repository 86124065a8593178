/- Texts of a proof. -/
import Derived.Test.YtalkkjhehndaoaaGreatB32
import Derived.Deep.RegionHeld3
import Derived.Deep.DeepCutAuto
import Derived.Test.YtalkkjhehndaoaaGreatB2
import Derived.Test.YtalkkjhehndaoaaGreatB16
import Derived.Test.YtalkkjhehndaoaaGreatB4
import Derived.Laws.EntriesVeiled
set_option maxHeartbeats 16000000
set_option maxRecDepth 20000
namespace Go.Proofs.YtalkkjhehndaoaaGreat
open Go.RowKit
set_option linter.unusedVariables false
set_option linter.unusedSimpArgs false
theorem mxT_no {a b c d x y g P Q E : Int} (e : mxT a b c d x y g = ((P, Q, E), false)) : P = 0 ∧ Q = 0 ∧ E = 0 := by
 unfold mxT at e
 split at e
 · simp only [Prod.mk.injEq] at e; exact absurd e.2 (by decide)
 · unfold rdT at e
   split at e
   · simp only [Prod.mk.injEq] at e; exact absurd e.2 (by decide)
   · simp only [Prod.mk.injEq] at e; omega
theorem roundTouchesBox_q (x y g1 h1 u v g2 h2 X Y D : Int) (K : Bool) (w : World) (lg1 : 1 ≤ g1 ∧ g1 ≤ 25600) (lg2 : 1 ≤ g2 ∧ g2 ≤ 25600) (lh2 : 1 ≤ h2 ∧ h2 ≤ 25600) (px : -2560000 ≤ x ∧ x ≤ 2560000) (py : -2560000 ≤ y ∧ y ≤ 2560000) (pu : -2560000 ≤ u ∧ u ≤ 2560000) (pv : -2560000 ≤ v ∧ v ≤ 2560000) (e : tnT (mxT (u - g2) (v - h2) (u + g2) (v + h2) x y g1) = ((X, Y, D), K)) :
 Calls Tryz.prog 111 #[b4 x y g1 h1, b4 u v g2 h2] w fun e w' => e = .returned (.tuple #[s3 X Y D, .bool K]) ∧ Below w.heap.size w w' := by
 have hset := cset_map
 obtain ⟨⟨⟨P, Q, E⟩, Z⟩, eM⟩ : ∃ z, mxT (u - g2) (v - h2) (u + g2) (v + h2) x y g1 = z := ⟨_, rfl⟩
 obtain ⟨hP, hQ⟩ := mxT_bd (by omega) (by omega) (by omega) (by omega) (by omega) (by omega) eM
 rw [eM] at e
 unfold tnT at e
 cases Z with
 | true =>
  simp only [if_true, Prod.mk.injEq] at e
  obtain ⟨⟨eX, eY, eD⟩, eK⟩ := e
  subst eX
  subst eY
  subst eD
  subst eK
  go_enter Tryz.func111, Tryz.ntmps111
  go_wp2_with (first
  | (go_at_call 121; refine (dentTurned_q _ _ _ _ (by omega) (by omega)).mono ?_; rintro e w2 ⟨rfl, hb2⟩; obtain ⟨hc2, hf2⟩ := bcell hb2; have hz2 := hb2.size; (try simp only [World.size_drew, World.size_alloc, World.size_setCell] at hc2 hf2 hz2); have hk2x0 := fun o => hc2 (w.heap.size) o (by omega); have hj2x0 := fun o => hf2 (w.heap.size) o (by omega); have hq2x0 : w.heap.size < w2.heap.size := (by omega); have hk2x1 := fun o => hc2 (w.heap.size + 1) o (by omega); have hj2x1 := fun o => hf2 (w.heap.size + 1) o (by omega); have hq2x1 : w.heap.size + 1 < w2.heap.size := (by omega); have hk2x2 := fun o => hc2 (w.heap.size + 1 + 1) o (by omega); have hj2x2 := fun o => hf2 (w.heap.size + 1 + 1) o (by omega); have hq2x2 : w.heap.size + 1 + 1 < w2.heap.size := (by omega); clear hc2 hf2)
  | (go_at_call 112; refine (boxTouchesRound_q _ _ _ _ _ _ _ _ P Q E true _ (by omega) (by omega) (by omega) (by omega) (by omega) (by omega) (by omega) eM).mono ?_; rintro e w1 ⟨rfl, hb1⟩; obtain ⟨hc1, hf1⟩ := bcell hb1; have hz1 := hb1.size; (try simp only [World.size_drew, World.size_alloc, World.size_setCell] at hc1 hf1 hz1); have hk1x0 := fun o => hc1 (w.heap.size) o (by omega); have hj1x0 := fun o => hf1 (w.heap.size) o (by omega); have hq1x0 : w.heap.size < w1.heap.size := (by omega); have hk1x1 := fun o => hc1 (w.heap.size + 1) o (by omega); have hj1x1 := fun o => hf1 (w.heap.size + 1) o (by omega); have hq1x1 : w.heap.size + 1 < w1.heap.size := (by omega); have hk1x2 := fun o => hc1 (w.heap.size + 1 + 1) o (by omega); have hj1x2 := fun o => hf1 (w.heap.size + 1 + 1) o (by omega); have hq1x2 : w.heap.size + 1 + 1 < w1.heap.size := (by omega); clear hc1 hf1))
  exact bodyPost_ret (v := .tuple #[s3 (-P) (-Q) E, .bool true]) (by simp [results, Tryz.results111, go_sem, *]) rfl ⟨rfl, bel_a⟩
 | false =>
  rw [if_neg (by simp)] at e
  simp only [Prod.mk.injEq] at e
  obtain ⟨⟨eX, eY, eD⟩, eK⟩ := e
  subst eX
  subst eY
  subst eD
  subst eK
  obtain ⟨z1, z2, z3⟩ := mxT_no eM
  subst z1
  subst z2
  subst z3
  go_enter Tryz.func111, Tryz.ntmps111
  go_wp2_with (first
  | (go_at_call 121; refine (dentTurned_q _ _ _ _ (by omega) (by omega)).mono ?_; rintro e w2 ⟨rfl, hb2⟩; obtain ⟨hc2, hf2⟩ := bcell hb2; have hz2 := hb2.size; (try simp only [World.size_drew, World.size_alloc, World.size_setCell] at hc2 hf2 hz2); have hk2x0 := fun o => hc2 (w.heap.size) o (by omega); have hj2x0 := fun o => hf2 (w.heap.size) o (by omega); have hq2x0 : w.heap.size < w2.heap.size := (by omega); have hk2x1 := fun o => hc2 (w.heap.size + 1) o (by omega); have hj2x1 := fun o => hf2 (w.heap.size + 1) o (by omega); have hq2x1 : w.heap.size + 1 < w2.heap.size := (by omega); have hk2x2 := fun o => hc2 (w.heap.size + 1 + 1) o (by omega); have hj2x2 := fun o => hf2 (w.heap.size + 1 + 1) o (by omega); have hq2x2 : w.heap.size + 1 + 1 < w2.heap.size := (by omega); clear hc2 hf2)
  | (go_at_call 112; refine (boxTouchesRound_q _ _ _ _ _ _ _ _ 0 0 0 false _ (by omega) (by omega) (by omega) (by omega) (by omega) (by omega) (by omega) eM).mono ?_; rintro e w1 ⟨rfl, hb1⟩; obtain ⟨hc1, hf1⟩ := bcell hb1; have hz1 := hb1.size; (try simp only [World.size_drew, World.size_alloc, World.size_setCell] at hc1 hf1 hz1); have hk1x0 := fun o => hc1 (w.heap.size) o (by omega); have hj1x0 := fun o => hf1 (w.heap.size) o (by omega); have hq1x0 : w.heap.size < w1.heap.size := (by omega); have hk1x1 := fun o => hc1 (w.heap.size + 1) o (by omega); have hj1x1 := fun o => hf1 (w.heap.size + 1) o (by omega); have hq1x1 : w.heap.size + 1 < w1.heap.size := (by omega); have hk1x2 := fun o => hc1 (w.heap.size + 1 + 1) o (by omega); have hj1x2 := fun o => hf1 (w.heap.size + 1 + 1) o (by omega); have hq1x2 : w.heap.size + 1 + 1 < w1.heap.size := (by omega); clear hc1 hf1))
  exact bodyPost_ret (v := .tuple #[s3 0 0 0, .bool false]) (by simp [results, Tryz.results111, go_sem, *]) rfl ⟨rfl, bel_a⟩
theorem isPlace_z (x y : Int) (b : Bool) (w : World) (e : inB 2560000 x y = b) : Calls Tryz.prog 108 #[vv x y] w fun e w' => e = .returned (.bool b) ∧ Below w.heap.size w w' := by
 subst e; exact isPlace_any x y w
theorem placedOf_r (g x y : Int) (w : World) (lg : 1 ≤ g ∧ g ≤ 25600) (p1 : inB 2560000 x y = true) :
 Calls Tryz.prog 96 #[s3 1 g 0, vv x y] w fun e w' => e = .returned (.tuple #[b4 x y g g, .bool true]) ∧ Below w.heap.size w w' := by
 have hset := cset_map
 go_enter Tryz.func96, Tryz.ntmps96
 go_wp2_with (first
  | (go_at_call 88; refine (figureOf_round _ _ (by omega) (by omega)).mono ?_; rintro e w1 ⟨rfl, hb1⟩; obtain ⟨hc1, hf1⟩ := bcell hb1; have hz1 := hb1.size; (try simp only [World.size_drew, World.size_alloc, World.size_setCell] at hc1 hf1 hz1); obtain ⟨hk1x0, hj1x0, hq1x0⟩ := kfa hb1 (w.heap.size); obtain ⟨hk1x1, hj1x1, hq1x1⟩ := kfa hb1 (w.heap.size + 1); obtain ⟨hk1x2, hj1x2, hq1x2⟩ := kfa hb1 (w.heap.size + 1 + 1); clear hc1 hf1)
  | (go_at_call 108; refine (isPlace_z x y _ _ p1).mono ?_; rintro e w2 ⟨rfl, hb2⟩; obtain ⟨hc2, hf2⟩ := bcell hb2; have hz2 := hb2.size; (try simp only [World.size_drew, World.size_alloc, World.size_setCell] at hc2 hf2 hz2); obtain ⟨hk2x0, hj2x0, hq2x0⟩ := kfa hb2 (w.heap.size); obtain ⟨hk2x1, hj2x1, hq2x1⟩ := kfa hb2 (w.heap.size + 1); obtain ⟨hk2x2, hj2x2, hq2x2⟩ := kfa hb2 (w.heap.size + 1 + 1); clear hc2 hf2)
  | (go_at_call 109; refine (wayOf_any _ _ _).mono ?_; rintro e w3 ⟨rfl, hb3⟩; obtain ⟨hc3, hf3⟩ := bcell hb3; have hz3 := hb3.size; (try simp only [World.size_drew, World.size_alloc, World.size_setCell] at hc3 hf3 hz3); obtain ⟨hk3x0, hj3x0, hq3x0⟩ := kfa hb3 (w.heap.size); obtain ⟨hk3x1, hj3x1, hq3x1⟩ := kfa hb3 (w.heap.size + 1); obtain ⟨hk3x2, hj3x2, hq3x2⟩ := kfa hb3 (w.heap.size + 1 + 1); clear hc3 hf3)
  | (go_at_call 162; refine (reach_r _ _).mono ?_; rintro e w4 ⟨rfl, hb4⟩; obtain ⟨hc4, hf4⟩ := bcell hb4; have hz4 := hb4.size; (try simp only [World.size_drew, World.size_alloc, World.size_setCell] at hc4 hf4 hz4); obtain ⟨hk4x0, hj4x0, hq4x0⟩ := kfa hb4 (w.heap.size); obtain ⟨hk4x1, hj4x1, hq4x1⟩ := kfa hb4 (w.heap.size + 1); obtain ⟨hk4x2, hj4x2, hq4x2⟩ := kfa hb4 (w.heap.size + 1 + 1); clear hc4 hf4))
 exact bodyPost_ret (v := .tuple #[b4 x y g g, .bool true]) (by simp [results, Tryz.results96, go_sem, *]) rfl ⟨rfl, bel_a⟩
theorem placedOf_b (g h x y : Int) (w : World) (lg : 1 ≤ g ∧ g ≤ 25600) (lh : 1 ≤ h ∧ h ≤ 25600) (p1 : inB 2560000 x y = true) :
 Calls Tryz.prog 96 #[s3 2 g h, vv x y] w fun e w' => e = .returned (.tuple #[b4 x y g h, .bool true]) ∧ Below w.heap.size w w' := by
 have hset := cset_map
 go_enter Tryz.func96, Tryz.ntmps96
 go_wp2_with (first
  | (go_at_call 88; refine (figureOf_box _ _ _ (by omega) (by omega) (by omega) (by omega)).mono ?_; rintro e w1 ⟨rfl, hb1⟩; obtain ⟨hc1, hf1⟩ := bcell hb1; have hz1 := hb1.size; (try simp only [World.size_drew, World.size_alloc, World.size_setCell] at hc1 hf1 hz1); obtain ⟨hk1x0, hj1x0, hq1x0⟩ := kfa hb1 (w.heap.size); obtain ⟨hk1x1, hj1x1, hq1x1⟩ := kfa hb1 (w.heap.size + 1); obtain ⟨hk1x2, hj1x2, hq1x2⟩ := kfa hb1 (w.heap.size + 1 + 1); clear hc1 hf1)
  | (go_at_call 108; refine (isPlace_z x y _ _ p1).mono ?_; rintro e w2 ⟨rfl, hb2⟩; obtain ⟨hc2, hf2⟩ := bcell hb2; have hz2 := hb2.size; (try simp only [World.size_drew, World.size_alloc, World.size_setCell] at hc2 hf2 hz2); obtain ⟨hk2x0, hj2x0, hq2x0⟩ := kfa hb2 (w.heap.size); obtain ⟨hk2x1, hj2x1, hq2x1⟩ := kfa hb2 (w.heap.size + 1); obtain ⟨hk2x2, hj2x2, hq2x2⟩ := kfa hb2 (w.heap.size + 1 + 1); clear hc2 hf2)
  | (go_at_call 109; refine (wayOf_any _ _ _).mono ?_; rintro e w3 ⟨rfl, hb3⟩; obtain ⟨hc3, hf3⟩ := bcell hb3; have hz3 := hb3.size; (try simp only [World.size_drew, World.size_alloc, World.size_setCell] at hc3 hf3 hz3); obtain ⟨hk3x0, hj3x0, hq3x0⟩ := kfa hb3 (w.heap.size); obtain ⟨hk3x1, hj3x1, hq3x1⟩ := kfa hb3 (w.heap.size + 1); obtain ⟨hk3x2, hj3x2, hq3x2⟩ := kfa hb3 (w.heap.size + 1 + 1); clear hc3 hf3)
  | (go_at_call 163; refine (reach_b _ _ _).mono ?_; rintro e w4 ⟨rfl, hb4⟩; obtain ⟨hc4, hf4⟩ := bcell hb4; have hz4 := hb4.size; (try simp only [World.size_drew, World.size_alloc, World.size_setCell] at hc4 hf4 hz4); obtain ⟨hk4x0, hj4x0, hq4x0⟩ := kfa hb4 (w.heap.size); obtain ⟨hk4x1, hj4x1, hq4x1⟩ := kfa hb4 (w.heap.size + 1); obtain ⟨hk4x2, hj4x2, hq4x2⟩ := kfa hb4 (w.heap.size + 1 + 1); clear hc4 hf4))
 exact bodyPost_ret (v := .tuple #[b4 x y g h, .bool true]) (by simp [results, Tryz.results96, go_sem, *]) rfl ⟨rfl, bel_a⟩
theorem placedOf_n (k g h x y : Int) (w : World) (sh : shB k g h = false) :
 Calls Tryz.prog 96 #[s3 k g h, vv x y] w fun e w' => e = .returned (.tuple #[b4 0 0 0 0, .bool false]) ∧ Below w.heap.size w w' := by
 have hset := cset_map
 go_enter Tryz.func96, Tryz.ntmps96
 go_wp2_with (go_at_call 88; refine (figureOf_none k g h _ sh).mono ?_; rintro e w1 ⟨rfl, hb1⟩; obtain ⟨hc1, hf1⟩ := bcell hb1; have hz1 := hb1.size; (try simp only [World.size_drew, World.size_alloc, World.size_setCell] at hc1 hf1 hz1); obtain ⟨hk1x0, hj1x0, hq1x0⟩ := kfa hb1 (w.heap.size); obtain ⟨hk1x1, hj1x1, hq1x1⟩ := kfa hb1 (w.heap.size + 1); obtain ⟨hk1x2, hj1x2, hq1x2⟩ := kfa hb1 (w.heap.size + 1 + 1); clear hc1 hf1)
 exact bodyPost_ret (v := .tuple #[b4 0 0 0 0, .bool false]) (by simp [results, Tryz.results96, go_sem, *]) rfl ⟨rfl, bel_a⟩
theorem placedOf_p (k g h x y : Int) (w : World) (sh : shB k g h = true) (p1 : inB 2560000 x y = false) :
 Calls Tryz.prog 96 #[s3 k g h, vv x y] w fun e w' => e = .returned (.tuple #[b4 0 0 0 0, .bool false]) ∧ Below w.heap.size w w' := by
 have hset := cset_map
 rcases shB_kinds sh with ⟨rfl, rfl, a0, a1⟩ | ⟨rfl, a0, a1, a2, a3⟩
 · go_enter Tryz.func96, Tryz.ntmps96
   go_wp2_with (first
   | (go_at_call 88; refine (figureOf_round _ _ (by omega) (by omega)).mono ?_; rintro e w1 ⟨rfl, hb1⟩; obtain ⟨hc1, hf1⟩ := bcell hb1; have hz1 := hb1.size; (try simp only [World.size_drew, World.size_alloc, World.size_setCell] at hc1 hf1 hz1); obtain ⟨hk1x0, hj1x0, hq1x0⟩ := kfa hb1 (w.heap.size); obtain ⟨hk1x1, hj1x1, hq1x1⟩ := kfa hb1 (w.heap.size + 1); obtain ⟨hk1x2, hj1x2, hq1x2⟩ := kfa hb1 (w.heap.size + 1 + 1); clear hc1 hf1)
   | (go_at_call 108; refine (isPlace_z x y _ _ p1).mono ?_; rintro e w2 ⟨rfl, hb2⟩; obtain ⟨hc2, hf2⟩ := bcell hb2; have hz2 := hb2.size; (try simp only [World.size_drew, World.size_alloc, World.size_setCell] at hc2 hf2 hz2); obtain ⟨hk2x0, hj2x0, hq2x0⟩ := kfa hb2 (w.heap.size); obtain ⟨hk2x1, hj2x1, hq2x1⟩ := kfa hb2 (w.heap.size + 1); obtain ⟨hk2x2, hj2x2, hq2x2⟩ := kfa hb2 (w.heap.size + 1 + 1); clear hc2 hf2))
   exact bodyPost_ret (v := .tuple #[b4 0 0 0 0, .bool false]) (by simp [results, Tryz.results96, go_sem, *]) rfl ⟨rfl, bel_a⟩
 · go_enter Tryz.func96, Tryz.ntmps96
   go_wp2_with (first
   | (go_at_call 88; refine (figureOf_box _ _ _ (by omega) (by omega) (by omega) (by omega)).mono ?_; rintro e w1 ⟨rfl, hb1⟩; obtain ⟨hc1, hf1⟩ := bcell hb1; have hz1 := hb1.size; (try simp only [World.size_drew, World.size_alloc, World.size_setCell] at hc1 hf1 hz1); obtain ⟨hk1x0, hj1x0, hq1x0⟩ := kfa hb1 (w.heap.size); obtain ⟨hk1x1, hj1x1, hq1x1⟩ := kfa hb1 (w.heap.size + 1); obtain ⟨hk1x2, hj1x2, hq1x2⟩ := kfa hb1 (w.heap.size + 1 + 1); clear hc1 hf1)
   | (go_at_call 108; refine (isPlace_z x y _ _ p1).mono ?_; rintro e w2 ⟨rfl, hb2⟩; obtain ⟨hc2, hf2⟩ := bcell hb2; have hz2 := hb2.size; (try simp only [World.size_drew, World.size_alloc, World.size_setCell] at hc2 hf2 hz2); obtain ⟨hk2x0, hj2x0, hq2x0⟩ := kfa hb2 (w.heap.size); obtain ⟨hk2x1, hj2x1, hq2x1⟩ := kfa hb2 (w.heap.size + 1); obtain ⟨hk2x2, hj2x2, hq2x2⟩ := kfa hb2 (w.heap.size + 1 + 1); clear hc2 hf2))
   exact bodyPost_ret (v := .tuple #[b4 0 0 0 0, .bool false]) (by simp [results, Tryz.results96, go_sem, *]) rfl ⟨rfl, bel_a⟩
theorem toucherOf_rr (w : World) : Calls Tryz.prog 97 #[.int .i64 1, .int .i64 1] w fun e w' => e = .returned (.func (.func 110) #[] #[]) ∧ Below w.heap.size w w' := by
 have hset := cset_map
 go_enter Tryz.func97, Tryz.ntmps97
 go_wp2_with fail
 go_ret
 exact ⟨rfl, bel_a⟩
theorem toucherOf_rb (w : World) : Calls Tryz.prog 97 #[.int .i64 1, .int .i64 2] w fun e w' => e = .returned (.func (.func 111) #[] #[]) ∧ Below w.heap.size w w' := by
 have hset := cset_map
 go_enter Tryz.func97, Tryz.ntmps97
 go_wp2_with fail
 go_ret
 exact ⟨rfl, bel_a⟩
theorem toucherOf_br (w : World) : Calls Tryz.prog 97 #[.int .i64 2, .int .i64 1] w fun e w' => e = .returned (.func (.func 112) #[] #[]) ∧ Below w.heap.size w w' := by
 have hset := cset_map
 go_enter Tryz.func97, Tryz.ntmps97
 go_wp2_with fail
 go_ret
 exact ⟨rfl, bel_a⟩
theorem toucherOf_bb (w : World) : Calls Tryz.prog 97 #[.int .i64 2, .int .i64 2] w fun e w' => e = .returned (.func (.func 113) #[] #[]) ∧ Below w.heap.size w w' := by
 have hset := cset_map
 go_enter Tryz.func97, Tryz.ntmps97
 go_wp2_with fail
 go_ret
 exact ⟨rfl, bel_a⟩
end Go.Proofs.YtalkkjhehndaoaaGreat
