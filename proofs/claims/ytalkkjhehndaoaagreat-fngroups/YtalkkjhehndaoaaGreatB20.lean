/- Texts of a proof. -/
import Derived.Test.YtalkkjhehndaoaaGreatB14
import Derived.Test.YtalkkjhehndaoaaGreatB15
import Derived.Deep.RegionHeld3
import Derived.Deep.DeepCutAuto
import Derived.Test.YtalkkjhehndaoaaGreatB19
import Derived.Test.YtalkkjhehndaoaaGreatRows
import Derived.WalkKit
import Derived.JoinedOf
import Derived.ProofKit
set_option maxHeartbeats 16000000
set_option maxRecDepth 20000
namespace Go.Proofs.YtalkkjhehndaoaaGreat
open Go.RowKit
set_option linter.unusedVariables false
set_option linter.unusedSimpArgs false
theorem l11AnyShape_s (rb p : Nat) (w : World) (hs0 : RS w rb p) (hp : p ≤ 997000) :
 Calls Tryz.prog 54 #[.pointer (some ⟨rb, 0, none⟩)] w fun e w' => ∃ k g h : Int, e = .returned (s3 k g h) ∧ (Bn k ∧ Bn g ∧ Bn h) ∧ RB w w' rb (p + 600) := by
 have hlt := hs0.lt
 have hne : (w.heap.size = rb) = False := eq_false (by omega)
 have hset := cset_map
 go_enter Tryz.func54, Tryz.ntmps54
 go_wp2_with (first
  | (have _ := hr1; go_at_call 30; refine (pick_s rb (p + 200) _ _ (by repeat (first | (with_reducible apply RS.setNew; rotate_left; (first | omega | (simp only [World.size_drew, World.size_alloc, World.size_setCell]; omega))) | with_reducible apply RS.alloc | (with_reducible apply RS.up hr1; omega) | (with_reducible apply RS.mono hs0; omega) | with_reducible apply RS.drew | with_reducible apply RS.drewN)) (by omega) (by omega) (by omega)).mono ?_; rintro e w2 ⟨v2, rfl, va2, vb2, hr2⟩; obtain ⟨hc2, hf2⟩ := RB.cells hr2; have hz2 := RB.size hr2; (try simp only [World.size_drew, World.size_alloc, World.size_setCell] at hc2 hf2 hz2); have hq2x0 : w.heap.size < w2.heap.size := (by omega); have ha2x0 : (w2.heap.size = w.heap.size) = False := eq_false (by omega); have hb2x0 : (w.heap.size = w2.heap.size) = False := eq_false (by omega); have he2x0 : (w.heap.size = rb) = False := eq_false (by omega); have hk2x0 := fun o => hc2 (w.heap.size) o (by omega) (by omega); have hj2x0 := fun o => hf2 (w.heap.size) o (by omega) (by omega); have hq2x1 : w1.heap.size < w2.heap.size := (by omega); have ha2x1 : (w2.heap.size = w1.heap.size) = False := eq_false (by omega); have hb2x1 : (w1.heap.size = w2.heap.size) = False := eq_false (by omega); have he2x1 : (w1.heap.size = rb) = False := eq_false (by omega); have hk2x1 := fun o => hc2 (w1.heap.size) o (by omega) (by omega); have hj2x1 := fun o => hf2 (w1.heap.size) o (by omega) (by omega))
  | (have _ := hr2; go_at_call 53; refine (one_s (-1) 25601 rb (p + 300) _ _ _ _ _ (by repeat (first | (with_reducible apply RS.setNew; rotate_left; (first | omega | (simp only [World.size_drew, World.size_alloc, World.size_setCell]; omega))) | with_reducible apply RS.alloc | (with_reducible apply RS.up hr2; omega) | (with_reducible apply RS.mono hs0; omega) | with_reducible apply RS.drew | with_reducible apply RS.drewN)) (by omega) (by repeat (first | exact AllBd.nil | refine AllBd.cons (by omega) (by omega) ?_)) (by rfl) (by omega) (by omega)).mono ?_; rintro e w3 ⟨v3, rfl, va3, vb3, hr3⟩; obtain ⟨hc3, hf3⟩ := RB.cells hr3; have hz3 := RB.size hr3; (try simp only [World.size_drew, World.size_alloc, World.size_setCell] at hc3 hf3 hz3); have hq3x0 : w.heap.size < w3.heap.size := (by omega); have ha3x0 : (w3.heap.size = w.heap.size) = False := eq_false (by omega); have hb3x0 : (w.heap.size = w3.heap.size) = False := eq_false (by omega); have he3x0 : (w.heap.size = rb) = False := eq_false (by omega); have hk3x0 := fun o => hc3 (w.heap.size) o (by omega) (by omega); have hj3x0 := fun o => hf3 (w.heap.size) o (by omega) (by omega); have hq3x1 : w1.heap.size < w3.heap.size := (by omega); have ha3x1 : (w3.heap.size = w1.heap.size) = False := eq_false (by omega); have hb3x1 : (w1.heap.size = w3.heap.size) = False := eq_false (by omega); have he3x1 : (w1.heap.size = rb) = False := eq_false (by omega); have hk3x1 := fun o => hc3 (w1.heap.size) o (by omega) (by omega); have hj3x1 := fun o => hf3 (w1.heap.size) o (by omega) (by omega))
  | (go_at_call 76; refine (l11Shape_s rb (p + 100) _ (by repeat (first | (with_reducible apply RS.setNew; rotate_left; (first | omega | (simp only [World.size_drew, World.size_alloc, World.size_setCell]; omega))) | with_reducible apply RS.alloc | (with_reducible apply RS.mono hs0; omega) | with_reducible apply RS.drew | with_reducible apply RS.drewN)) (by omega)).mono ?_; rintro e w1 ⟨k1, g1, h1, rfl, hd1, hr1⟩; obtain ⟨hc1, hf1⟩ := RB.cells hr1; have hz1 := RB.size hr1; (try simp only [World.size_drew, World.size_alloc, World.size_setCell] at hc1 hf1 hz1); have hq1x0 : w.heap.size < w1.heap.size := (by omega); have ha1x0 : (w1.heap.size = w.heap.size) = False := eq_false (by omega); have hb1x0 : (w.heap.size = w1.heap.size) = False := eq_false (by omega); have he1x0 : (w.heap.size = rb) = False := eq_false (by omega); have hk1x0 := fun o => hc1 (w.heap.size) o (by omega) (by omega); have hj1x0 := fun o => hf1 (w.heap.size) o (by omega) (by omega); obtain ⟨⟨k1a, k1b⟩, ⟨g1a, g1b⟩, ⟨h1a, h1b⟩⟩ := hd1))
 · exact bodyPost_ret (v := s3 v3 g1 h1) (by simp [results, Tryz.results54, go_sem, *]) rfl ⟨_, _, _, rfl, ⟨Bn.mk ⟨by omega, by omega⟩, Bn.mk ⟨by omega, by omega⟩, Bn.mk ⟨by omega, by omega⟩⟩, RB.mk (by repeat (first | (with_reducible apply But.setNew; rotate_left; (first | omega | (simp only [World.size_drew, World.size_alloc, World.size_setCell]; omega))) | with_reducible apply But.alloc | with_reducible apply But.trans (k := RB.but hr3) | with_reducible apply But.trans (k := RB.but hr2) | with_reducible apply But.trans (k := RB.but hr1) | with_reducible apply But.refl | with_reducible apply But.drewN | with_reducible apply But.drew)) (by repeat (first | (with_reducible apply RS.setNew; rotate_left; (first | omega | (simp only [World.size_drew, World.size_alloc, World.size_setCell]; omega))) | with_reducible apply RS.alloc | (with_reducible apply RS.up hr3; omega) | (with_reducible apply RS.up hr2; omega) | (with_reducible apply RS.up hr1; omega) | (with_reducible apply RS.mono hs0; omega) | with_reducible apply RS.drew | with_reducible apply RS.drewN))⟩
 · exact bodyPost_ret (v := s3 k1 v3 h1) (by simp [results, Tryz.results54, go_sem, *]) rfl ⟨_, _, _, rfl, ⟨Bn.mk ⟨by omega, by omega⟩, Bn.mk ⟨by omega, by omega⟩, Bn.mk ⟨by omega, by omega⟩⟩, RB.mk (by repeat (first | (with_reducible apply But.setNew; rotate_left; (first | omega | (simp only [World.size_drew, World.size_alloc, World.size_setCell]; omega))) | with_reducible apply But.alloc | with_reducible apply But.trans (k := RB.but hr3) | with_reducible apply But.trans (k := RB.but hr2) | with_reducible apply But.trans (k := RB.but hr1) | with_reducible apply But.refl | with_reducible apply But.drewN | with_reducible apply But.drew)) (by repeat (first | (with_reducible apply RS.setNew; rotate_left; (first | omega | (simp only [World.size_drew, World.size_alloc, World.size_setCell]; omega))) | with_reducible apply RS.alloc | (with_reducible apply RS.up hr3; omega) | (with_reducible apply RS.up hr2; omega) | (with_reducible apply RS.up hr1; omega) | (with_reducible apply RS.mono hs0; omega) | with_reducible apply RS.drew | with_reducible apply RS.drewN))⟩
 · exact bodyPost_ret (v := s3 k1 g1 v3) (by simp [results, Tryz.results54, go_sem, *]) rfl ⟨_, _, _, rfl, ⟨Bn.mk ⟨by omega, by omega⟩, Bn.mk ⟨by omega, by omega⟩, Bn.mk ⟨by omega, by omega⟩⟩, RB.mk (by repeat (first | (with_reducible apply But.setNew; rotate_left; (first | omega | (simp only [World.size_drew, World.size_alloc, World.size_setCell]; omega))) | with_reducible apply But.alloc | with_reducible apply But.trans (k := RB.but hr3) | with_reducible apply But.trans (k := RB.but hr2) | with_reducible apply But.trans (k := RB.but hr1) | with_reducible apply But.refl | with_reducible apply But.drewN | with_reducible apply But.drew)) (by repeat (first | (with_reducible apply RS.setNew; rotate_left; (first | omega | (simp only [World.size_drew, World.size_alloc, World.size_setCell]; omega))) | with_reducible apply RS.alloc | (with_reducible apply RS.up hr3; omega) | (with_reducible apply RS.up hr2; omega) | (with_reducible apply RS.up hr1; omega) | (with_reducible apply RS.mono hs0; omega) | with_reducible apply RS.drew | with_reducible apply RS.drewN))⟩
 · exact bodyPost_ret (v := s3 k1 g1 h1) (by simp [results, Tryz.results54, go_sem, *]) rfl ⟨_, _, _, rfl, ⟨Bn.mk ⟨by omega, by omega⟩, Bn.mk ⟨by omega, by omega⟩, Bn.mk ⟨by omega, by omega⟩⟩, RB.mk (by repeat (first | (with_reducible apply But.setNew; rotate_left; (first | omega | (simp only [World.size_drew, World.size_alloc, World.size_setCell]; omega))) | with_reducible apply But.alloc | with_reducible apply But.trans (k := RB.but hr2) | with_reducible apply But.trans (k := RB.but hr1) | with_reducible apply But.refl | with_reducible apply But.drewN | with_reducible apply But.drew)) (by repeat (first | (with_reducible apply RS.setNew; rotate_left; (first | omega | (simp only [World.size_drew, World.size_alloc, World.size_setCell]; omega))) | with_reducible apply RS.alloc | (with_reducible apply RS.up hr2; omega) | (with_reducible apply RS.up hr1; omega) | (with_reducible apply RS.mono hs0; omega) | with_reducible apply RS.drew | with_reducible apply RS.drewN))⟩
theorem l11AnyPlace_s (rb p : Nat) (w : World) (hs0 : RS w rb p) (hp : p ≤ 997000) :
 Calls Tryz.prog 55 #[.pointer (some ⟨rb, 0, none⟩)] w fun e w' => ∃ x y : Int, e = .returned (vv x y) ∧ (Bn x ∧ Bn y) ∧ RB w w' rb (p + 600) := by
 have hlt := hs0.lt
 have hne : (w.heap.size = rb) = False := eq_false (by omega)
 have hset := cset_map
 go_enter Tryz.func55, Tryz.ntmps55
 go_wp2_with (first
  | (have _ := hr1; go_at_call 30; refine (pick_s rb (p + 200) _ _ (by repeat (first | (with_reducible apply RS.setNew; rotate_left; (first | omega | (simp only [World.size_drew, World.size_alloc, World.size_setCell]; omega))) | with_reducible apply RS.alloc | (with_reducible apply RS.up hr1; omega) | (with_reducible apply RS.mono hs0; omega) | with_reducible apply RS.drew | with_reducible apply RS.drewN)) (by omega) (by omega) (by omega)).mono ?_; rintro e w2 ⟨v2, rfl, va2, vb2, hr2⟩; obtain ⟨hc2, hf2⟩ := RB.cells hr2; have hz2 := RB.size hr2; (try simp only [World.size_drew, World.size_alloc, World.size_setCell] at hc2 hf2 hz2); have hq2x0 : w.heap.size < w2.heap.size := (by omega); have ha2x0 : (w2.heap.size = w.heap.size) = False := eq_false (by omega); have hb2x0 : (w.heap.size = w2.heap.size) = False := eq_false (by omega); have he2x0 : (w.heap.size = rb) = False := eq_false (by omega); have hk2x0 := fun o => hc2 (w.heap.size) o (by omega) (by omega); have hj2x0 := fun o => hf2 (w.heap.size) o (by omega) (by omega); have hq2x1 : w1.heap.size < w2.heap.size := (by omega); have ha2x1 : (w2.heap.size = w1.heap.size) = False := eq_false (by omega); have hb2x1 : (w1.heap.size = w2.heap.size) = False := eq_false (by omega); have he2x1 : (w1.heap.size = rb) = False := eq_false (by omega); have hk2x1 := fun o => hc2 (w1.heap.size) o (by omega) (by omega); have hj2x1 := fun o => hf2 (w1.heap.size) o (by omega) (by omega))
  | (have _ := hr2; go_at_call 53; refine (one_s (-2560001) 2560001 rb (p + 300) _ _ _ _ _ (by repeat (first | (with_reducible apply RS.setNew; rotate_left; (first | omega | (simp only [World.size_drew, World.size_alloc, World.size_setCell]; omega))) | with_reducible apply RS.alloc | (with_reducible apply RS.up hr2; omega) | (with_reducible apply RS.mono hs0; omega) | with_reducible apply RS.drew | with_reducible apply RS.drewN)) (by omega) (by repeat (first | exact AllBd.nil | refine AllBd.cons (by omega) (by omega) ?_)) (by rfl) (by omega) (by omega)).mono ?_; rintro e w3 ⟨v3, rfl, va3, vb3, hr3⟩; obtain ⟨hc3, hf3⟩ := RB.cells hr3; have hz3 := RB.size hr3; (try simp only [World.size_drew, World.size_alloc, World.size_setCell] at hc3 hf3 hz3); have hq3x0 : w.heap.size < w3.heap.size := (by omega); have ha3x0 : (w3.heap.size = w.heap.size) = False := eq_false (by omega); have hb3x0 : (w.heap.size = w3.heap.size) = False := eq_false (by omega); have he3x0 : (w.heap.size = rb) = False := eq_false (by omega); have hk3x0 := fun o => hc3 (w.heap.size) o (by omega) (by omega); have hj3x0 := fun o => hf3 (w.heap.size) o (by omega) (by omega); have hq3x1 : w1.heap.size < w3.heap.size := (by omega); have ha3x1 : (w3.heap.size = w1.heap.size) = False := eq_false (by omega); have hb3x1 : (w1.heap.size = w3.heap.size) = False := eq_false (by omega); have he3x1 : (w1.heap.size = rb) = False := eq_false (by omega); have hk3x1 := fun o => hc3 (w1.heap.size) o (by omega) (by omega); have hj3x1 := fun o => hf3 (w1.heap.size) o (by omega) (by omega))
  | (go_at_call 77; refine (l11Place_s rb (p + 100) _ (by repeat (first | (with_reducible apply RS.setNew; rotate_left; (first | omega | (simp only [World.size_drew, World.size_alloc, World.size_setCell]; omega))) | with_reducible apply RS.alloc | (with_reducible apply RS.mono hs0; omega) | with_reducible apply RS.drew | with_reducible apply RS.drewN)) (by omega)).mono ?_; rintro e w1 ⟨x1, y1, rfl, hd1, hr1⟩; obtain ⟨hc1, hf1⟩ := RB.cells hr1; have hz1 := RB.size hr1; (try simp only [World.size_drew, World.size_alloc, World.size_setCell] at hc1 hf1 hz1); have hq1x0 : w.heap.size < w1.heap.size := (by omega); have ha1x0 : (w1.heap.size = w.heap.size) = False := eq_false (by omega); have hb1x0 : (w.heap.size = w1.heap.size) = False := eq_false (by omega); have he1x0 : (w.heap.size = rb) = False := eq_false (by omega); have hk1x0 := fun o => hc1 (w.heap.size) o (by omega) (by omega); have hj1x0 := fun o => hf1 (w.heap.size) o (by omega) (by omega); obtain ⟨⟨x1a, x1b⟩, ⟨y1a, y1b⟩⟩ := hd1))
 · exact bodyPost_ret (v := vv v3 y1) (by simp [results, Tryz.results55, go_sem, *]) rfl ⟨_, _, rfl, ⟨Bn.mk ⟨by omega, by omega⟩, Bn.mk ⟨by omega, by omega⟩⟩, RB.mk (by repeat (first | (with_reducible apply But.setNew; rotate_left; (first | omega | (simp only [World.size_drew, World.size_alloc, World.size_setCell]; omega))) | with_reducible apply But.alloc | with_reducible apply But.trans (k := RB.but hr3) | with_reducible apply But.trans (k := RB.but hr2) | with_reducible apply But.trans (k := RB.but hr1) | with_reducible apply But.refl | with_reducible apply But.drewN | with_reducible apply But.drew)) (by repeat (first | (with_reducible apply RS.setNew; rotate_left; (first | omega | (simp only [World.size_drew, World.size_alloc, World.size_setCell]; omega))) | with_reducible apply RS.alloc | (with_reducible apply RS.up hr3; omega) | (with_reducible apply RS.up hr2; omega) | (with_reducible apply RS.up hr1; omega) | (with_reducible apply RS.mono hs0; omega) | with_reducible apply RS.drew | with_reducible apply RS.drewN))⟩
 · exact bodyPost_ret (v := vv x1 v3) (by simp [results, Tryz.results55, go_sem, *]) rfl ⟨_, _, rfl, ⟨Bn.mk ⟨by omega, by omega⟩, Bn.mk ⟨by omega, by omega⟩⟩, RB.mk (by repeat (first | (with_reducible apply But.setNew; rotate_left; (first | omega | (simp only [World.size_drew, World.size_alloc, World.size_setCell]; omega))) | with_reducible apply But.alloc | with_reducible apply But.trans (k := RB.but hr3) | with_reducible apply But.trans (k := RB.but hr2) | with_reducible apply But.trans (k := RB.but hr1) | with_reducible apply But.refl | with_reducible apply But.drewN | with_reducible apply But.drew)) (by repeat (first | (with_reducible apply RS.setNew; rotate_left; (first | omega | (simp only [World.size_drew, World.size_alloc, World.size_setCell]; omega))) | with_reducible apply RS.alloc | (with_reducible apply RS.up hr3; omega) | (with_reducible apply RS.up hr2; omega) | (with_reducible apply RS.up hr1; omega) | (with_reducible apply RS.mono hs0; omega) | with_reducible apply RS.drew | with_reducible apply RS.drewN))⟩
 · exact bodyPost_ret (v := vv x1 y1) (by simp [results, Tryz.results55, go_sem, *]) rfl ⟨_, _, rfl, ⟨Bn.mk ⟨by omega, by omega⟩, Bn.mk ⟨by omega, by omega⟩⟩, RB.mk (by repeat (first | (with_reducible apply But.setNew; rotate_left; (first | omega | (simp only [World.size_drew, World.size_alloc, World.size_setCell]; omega))) | with_reducible apply But.alloc | with_reducible apply But.trans (k := RB.but hr2) | with_reducible apply But.trans (k := RB.but hr1) | with_reducible apply But.refl | with_reducible apply But.drewN | with_reducible apply But.drew)) (by repeat (first | (with_reducible apply RS.setNew; rotate_left; (first | omega | (simp only [World.size_drew, World.size_alloc, World.size_setCell]; omega))) | with_reducible apply RS.alloc | (with_reducible apply RS.up hr2; omega) | (with_reducible apply RS.up hr1; omega) | (with_reducible apply RS.mono hs0; omega) | with_reducible apply RS.drew | with_reducible apply RS.drewN))⟩
theorem Al.far {w0 w : World} {ab n b k : Nat} {V : Nat → Int} (h : Al w0 w ab n V) (hb : ab ≠ b) (v : Value) : Al w0 (w.setCell ⟨b, k, none⟩ v) ab n V := h.off hb v
def BN (V : Nat → Int) : Prop := ∀ j, j < 12 → Bn (V j)
theorem BN.set {V : Nat → Int} (h : BN V) {k : Nat} {v : Int} (hv : Bn v) : BN (fun j => if j = k then v else V j) := by
 intro j hj
 by_cases e : j = k
 · simp only [e, if_true]; exact hv
 · simp only [e, if_false]; exact h j hj
theorem bn_of {V : Nat → Int} (h : bodyB V = true) : BN V := by
 obtain ⟨a8, a11, a4, a5, a6, a7, a9, a10, sh, _⟩ := bodyB_bd h
 have a0 : 0 ≤ V 0 ∧ V 0 ≤ 999999999 := by unfold bodyB at h; rw [Bool.and_eq_true] at h; exact of_decide_eq_true h.1
 have s3 : Bn (V 1) ∧ Bn (V 2) ∧ Bn (V 3) := by unfold shB rdB bxB at sh; rw [Bool.or_eq_true] at sh; simp only [decide_eq_true_eq] at sh; unfold Bn; rcases sh with q | q <;> omega
 intro j hj
 unfold Bn at *
 rcases (show j = 0 ∨ j = 1 ∨ j = 2 ∨ j = 3 ∨ j = 4 ∨ j = 5 ∨ j = 6 ∨ j = 7 ∨ j = 8 ∨ j = 9 ∨ j = 10 ∨ j = 11 by omega) with rfl | rfl | rfl | rfl | rfl | rfl | rfl | rfl | rfl | rfl | rfl | rfl <;> omega
theorem l11Body_s (rb p : Nat) (id : Int) (w : World) (hs0 : RS w rb p) (hp : p ≤ 800000) (hid : 0 ≤ id ∧ id ≤ 999999999) :
 Calls Tryz.prog 50 #[.pointer (some ⟨rb, 0, none⟩), .int .i64 id] w fun e w' => ∃ V : Nat → Int, e = .returned (bodyW V) ∧ (BN V ∧ True) ∧ RB w w' rb (p + 1000) :=
 (l11Body_k rb p id w hs0 hp hid).mono fun e w' ⟨V, a, b, c⟩ => ⟨V, a, ⟨bn_of b.1, trivial⟩, c⟩
structure DA (w w' : World) (rb p ab : Nat) (V : Nat → Int) : Prop where
 but : But rb w w'
 rs : RS w' rb p
 res : Al w w' w.heap.size 12 (fun _ => 0)
 bod : Al w w' ab 12 V
 far : w.heap.size < ab
 bf : BN V
theorem DA.call {w w' w1 : World} {rb p p1 ab : Nat} {V : Nat → Int} (h : DA w w' rb p ab V) (hrb : rb < w.heap.size) (k : RB w' w1 rb p1) : DA w w1 rb p1 ab V :=
 ⟨h.but.trans k.but, RS.of k, h.res.up hrb k.but, h.bod.up hrb k.but, h.far, h.bf⟩
theorem DA.mono {w w' : World} {rb p p1 ab : Nat} {V : Nat → Int} (h : DA w w' rb p ab V) (k : p ≤ p1) : DA w w' rb p1 ab V :=
 ⟨h.but, h.rs.mono k, h.res, h.bod, h.far, h.bf⟩
theorem DA.set {w w' : World} {rb p ab : Nat} {V : Nat → Int} (h : DA w w' rb p ab V) (hrb : rb < w.heap.size) (k : Nat) (hk : k < 12) (v : Int) (hv : Bn v) :
 DA w (w'.setCell ⟨ab, k, none⟩ (.int .i64 v)) rb p ab (fun j => if j = k then v else V j) := by
 have hf := h.far
 exact ⟨h.but.setNew (by simp; omega) _, h.rs.setNew (by simp; omega) _, h.res.far (by omega) _, h.bod.set k hk v, h.far, h.bf.set hv⟩
theorem l11AnyBody_s (rb p : Nat) (w : World) (hs0 : RS w rb p) (hp : p ≤ 700000) :
 Calls Tryz.prog 31 #[.pointer (some ⟨rb, 0, none⟩)] w fun e w' => ∃ V : Nat → Int, e = .returned (bodyW V) ∧ BN V ∧ RB w w' rb (p + 3000) := by
 have hlt := hs0.lt
 have hne : (w.heap.size = rb) = False := eq_false (by omega)
 have hset := cset_map
 go_enter Tryz.func31, Tryz.ntmps31
 go_upto_region 1 with fail
 have r0 : Al w (w.alloc (.cells #[.int .i64 0, .int .i64 0, .int .i64 0, .int .i64 0, .int .i64 0, .int .i64 0, .int .i64 0, .int .i64 0, .int .i64 0, .int .i64 0, .int .i64 0, .int .i64 0] 34)) w.heap.size 12 (fun _ => 0) := Al.new (Nat.le_refl _) (by intro i hi; rcases (show i = 0 ∨ i = 1 ∨ i = 2 ∨ i = 3 ∨ i = 4 ∨ i = 5 ∨ i = 6 ∨ i = 7 ∨ i = 8 ∨ i = 9 ∨ i = 10 ∨ i = 11 by omega) with rfl | rfl | rfl | rfl | rfl | rfl | rfl | rfl | rfl | rfl | rfl | rfl <;> rfl)
 have hs1 : RS (w.alloc (.cells #[.int .i64 0, .int .i64 0, .int .i64 0, .int .i64 0, .int .i64 0, .int .i64 0, .int .i64 0, .int .i64 0, .int .i64 0, .int .i64 0, .int .i64 0, .int .i64 0] 34)) rb p := hs0.alloc _
 have hb0 : But rb w (w.alloc (.cells #[.int .i64 0, .int .i64 0, .int .i64 0, .int .i64 0, .int .i64 0, .int .i64 0, .int .i64 0, .int .i64 0, .int .i64 0, .int .i64 0, .int .i64 0, .int .i64 0] 34)) := but_alloc rb _ _
 generalize w.alloc (.cells #[.int .i64 0, .int .i64 0, .int .i64 0, .int .i64 0, .int .i64 0, .int .i64 0, .int .i64 0, .int .i64 0, .int .i64 0, .int .i64 0, .int .i64 0, .int .i64 0] 34) = w0 at *
 have hz0 := hb0.size
 go_cut [3] (fun s3 wc => ∃ (ab : Nat) (V : Nat → Int), s3 = .pointer (some ⟨ab, 0, none⟩) ∧ DA w wc rb (p + 2000) ab V)
 case first =>
  go_wp2_with (first
  | (have _ := hr1; go_at_call 50; refine (l11Body_s rb (p + 10) _ _ (by exact RS.up hr1 (by omega)) (by omega) ⟨by omega, by omega⟩).mono ?_; rintro e w2 ⟨V2, rfl, hd2, hr2⟩)
  | (go_at_call 30; refine (pick_s rb (p) _ _ (by exact hs1) (by omega) (by omega) (by omega)).mono ?_; rintro e w1 ⟨v1, rfl, va1, vb1, hr1⟩))
  go_meet
  have ht2 := (RB.but hr1).trans (RB.but hr2)
  have hz2 := (hb0.trans ht2).size
  have hz3 : w0.heap.size ≤ w2.heap.size := Nat.le_trans (RB.size hr1) (RB.size hr2)
  have hlo := r0.2.1
  exact ⟨_, V2, rfl, (hb0.trans ht2).alloc _, (RS.up hr2 (by omega)).alloc _, (r0.up hlt ht2).up hlt (but_alloc rb _ _), Al.new hz2 (by intro i hi; rcases (show i = 0 ∨ i = 1 ∨ i = 2 ∨ i = 3 ∨ i = 4 ∨ i = 5 ∨ i = 6 ∨ i = 7 ∨ i = 8 ∨ i = 9 ∨ i = 10 ∨ i = 11 by omega) with rfl | rfl | rfl | rfl | rfl | rfl | rfl | rfl | rfl | rfl | rfl | rfl <;> rfl), by omega, hd2.1⟩
 case rest =>
 obtain ⟨ab, V, rfl, hD⟩ := hcut
 clear hs1 hb0 r0 hz0 w0
 go_upto_region 2 with fail
 have hlo := hD.far
 go_cut [9] (fun s9 wc => ∃ (v7 : Int) (V : Nat → Int), s9 = .int .i64 v7 ∧ DA w wc rb (p + 2100) ab V)
 case first =>
  go_wp2_with (go_at_call 30; refine (pick_s rb (p + 2000) _ _ (by exact hD.rs) (by omega) (by omega) (by omega)).mono ?_; rintro e w7 ⟨v7, rfl, va7, vb7, hr7⟩)
  go_meet
  exact ⟨_, _, rfl, (hD.call hlt hr7).mono (by omega)⟩
 case rest =>
 clear hD
 obtain ⟨v7, V, rfl, hD⟩ := hcut
 have hD7 := hD.mono (p1 := p + 3000) (by omega)
 have kc0 := (hD7.bod).2.2.1 0 (by omega)
 have kf0 := (hD7.bod).2.2.2 0 (by omega)
 have kc1 := (hD7.bod).2.2.1 1 (by omega)
 have kf1 := (hD7.bod).2.2.2 1 (by omega)
 have kc2 := (hD7.bod).2.2.1 2 (by omega)
 have kf2 := (hD7.bod).2.2.2 2 (by omega)
 have kc3 := (hD7.bod).2.2.1 3 (by omega)
 have kf3 := (hD7.bod).2.2.2 3 (by omega)
 have kc4 := (hD7.bod).2.2.1 4 (by omega)
 have kf4 := (hD7.bod).2.2.2 4 (by omega)
 have kc5 := (hD7.bod).2.2.1 5 (by omega)
 have kf5 := (hD7.bod).2.2.2 5 (by omega)
 have kc6 := (hD7.bod).2.2.1 6 (by omega)
 have kf6 := (hD7.bod).2.2.2 6 (by omega)
 have kc7 := (hD7.bod).2.2.1 7 (by omega)
 have kf7 := (hD7.bod).2.2.2 7 (by omega)
 have kc8 := (hD7.bod).2.2.1 8 (by omega)
 have kf8 := (hD7.bod).2.2.2 8 (by omega)
 have kc9 := (hD7.bod).2.2.1 9 (by omega)
 have kf9 := (hD7.bod).2.2.2 9 (by omega)
 have kc10 := (hD7.bod).2.2.1 10 (by omega)
 have kf10 := (hD7.bod).2.2.2 10 (by omega)
 have kc11 := (hD7.bod).2.2.1 11 (by omega)
 have kf11 := (hD7.bod).2.2.2 11 (by omega)
 go_upto_region 19 with (first
  | (go_at_call 53; refine (one_s (-20000001) 1000000001 rb (p + 2100) _ _ _ _ _ (by exact hD.rs) (by omega) (by repeat (first | exact AllBd.nil | refine AllBd.cons (by omega) (by omega) ?_)) (by rfl) (by omega) (by omega)).mono ?_; rintro e w8 ⟨v8, rfl, va8, vb8, hr8⟩; have hD8 := (hD.call hlt hr8).mono (p1 := p + 3000) (by omega); have mc0 := (hD8.bod).2.2.1 0 (by omega); have mf0 := (hD8.bod).2.2.2 0 (by omega); have mc1 := (hD8.bod).2.2.1 1 (by omega); have mf1 := (hD8.bod).2.2.2 1 (by omega); have mc2 := (hD8.bod).2.2.1 2 (by omega); have mf2 := (hD8.bod).2.2.2 2 (by omega); have mc3 := (hD8.bod).2.2.1 3 (by omega); have mf3 := (hD8.bod).2.2.2 3 (by omega); have mc4 := (hD8.bod).2.2.1 4 (by omega); have mf4 := (hD8.bod).2.2.2 4 (by omega); have mc5 := (hD8.bod).2.2.1 5 (by omega); have mf5 := (hD8.bod).2.2.2 5 (by omega); have mc6 := (hD8.bod).2.2.1 6 (by omega); have mf6 := (hD8.bod).2.2.2 6 (by omega); have mc7 := (hD8.bod).2.2.1 7 (by omega); have mf7 := (hD8.bod).2.2.2 7 (by omega); have mc8 := (hD8.bod).2.2.1 8 (by omega); have mf8 := (hD8.bod).2.2.2 8 (by omega); have mc9 := (hD8.bod).2.2.1 9 (by omega); have mf9 := (hD8.bod).2.2.2 9 (by omega); have mc10 := (hD8.bod).2.2.1 10 (by omega); have mf10 := (hD8.bod).2.2.2 10 (by omega); have mc11 := (hD8.bod).2.2.1 11 (by omega); have mf11 := (hD8.bod).2.2.2 11 (by omega))
  | (go_at_call 54; refine (l11AnyShape_s rb (p + 2100) _ (by exact hD.rs) (by omega)).mono ?_; rintro e w8 ⟨k8, g8, h8, rfl, hd8, hr8⟩; have hD8 := (hD.call hlt hr8).mono (p1 := p + 3000) (by omega); have mc0 := (hD8.bod).2.2.1 0 (by omega); have mf0 := (hD8.bod).2.2.2 0 (by omega); have mc1 := (hD8.bod).2.2.1 1 (by omega); have mf1 := (hD8.bod).2.2.2 1 (by omega); have mc2 := (hD8.bod).2.2.1 2 (by omega); have mf2 := (hD8.bod).2.2.2 2 (by omega); have mc3 := (hD8.bod).2.2.1 3 (by omega); have mf3 := (hD8.bod).2.2.2 3 (by omega); have mc4 := (hD8.bod).2.2.1 4 (by omega); have mf4 := (hD8.bod).2.2.2 4 (by omega); have mc5 := (hD8.bod).2.2.1 5 (by omega); have mf5 := (hD8.bod).2.2.2 5 (by omega); have mc6 := (hD8.bod).2.2.1 6 (by omega); have mf6 := (hD8.bod).2.2.2 6 (by omega); have mc7 := (hD8.bod).2.2.1 7 (by omega); have mf7 := (hD8.bod).2.2.2 7 (by omega); have mc8 := (hD8.bod).2.2.1 8 (by omega); have mf8 := (hD8.bod).2.2.2 8 (by omega); have mc9 := (hD8.bod).2.2.1 9 (by omega); have mf9 := (hD8.bod).2.2.2 9 (by omega); have mc10 := (hD8.bod).2.2.1 10 (by omega); have mf10 := (hD8.bod).2.2.2 10 (by omega); have mc11 := (hD8.bod).2.2.1 11 (by omega); have mf11 := (hD8.bod).2.2.2 11 (by omega))
  | (go_at_call 55; refine (l11AnyPlace_s rb (p + 2100) _ (by exact hD.rs) (by omega)).mono ?_; rintro e w8 ⟨x8, y8, rfl, hd8, hr8⟩; have hD8 := (hD.call hlt hr8).mono (p1 := p + 3000) (by omega); have mc0 := (hD8.bod).2.2.1 0 (by omega); have mf0 := (hD8.bod).2.2.2 0 (by omega); have mc1 := (hD8.bod).2.2.1 1 (by omega); have mf1 := (hD8.bod).2.2.2 1 (by omega); have mc2 := (hD8.bod).2.2.1 2 (by omega); have mf2 := (hD8.bod).2.2.2 2 (by omega); have mc3 := (hD8.bod).2.2.1 3 (by omega); have mf3 := (hD8.bod).2.2.2 3 (by omega); have mc4 := (hD8.bod).2.2.1 4 (by omega); have mf4 := (hD8.bod).2.2.2 4 (by omega); have mc5 := (hD8.bod).2.2.1 5 (by omega); have mf5 := (hD8.bod).2.2.2 5 (by omega); have mc6 := (hD8.bod).2.2.1 6 (by omega); have mf6 := (hD8.bod).2.2.2 6 (by omega); have mc7 := (hD8.bod).2.2.1 7 (by omega); have mf7 := (hD8.bod).2.2.2 7 (by omega); have mc8 := (hD8.bod).2.2.1 8 (by omega); have mf8 := (hD8.bod).2.2.2 8 (by omega); have mc9 := (hD8.bod).2.2.1 9 (by omega); have mf9 := (hD8.bod).2.2.2 9 (by omega); have mc10 := (hD8.bod).2.2.1 10 (by omega); have mf10 := (hD8.bod).2.2.2 10 (by omega); have mc11 := (hD8.bod).2.2.1 11 (by omega); have mf11 := (hD8.bod).2.2.2 11 (by omega)))
 · clear kc0 kf0 kc1 kf1 kc2 kf2 kc3 kf3 kc4 kf4 kc5 kf5 kc6 kf6 kc7 kf7 kc8 kf8 kc9 kf9 kc10 kf10 kc11 kf11
   clear mc0 mf0 mc1 mf1 mc2 mf2 mc3 mf3 mc4 mf4 mc5 mf5 mc6 mf6 mc7 mf7 mc8 mf8 mc9 mf9 mc10 mf10 mc11 mf11
   have hE := (hD8.set hlt 0 (by omega) v8 ⟨by omega, by omega⟩)
   generalize (w8.setCell ⟨ab, 0, none⟩ (.int .i64 v8)) = wx at hE ⊢
   obtain ⟨Vx, hE⟩ : ∃ Vx, DA w wx rb (p + 3000) ab Vx := ⟨_, hE⟩
   have h0 := hE
   have ec0 := (hE.bod).2.2.1 0 (by omega)
   have ef0 := (hE.bod).2.2.2 0 (by omega)
   have ec1 := (hE.bod).2.2.1 1 (by omega)
   have ef1 := (hE.bod).2.2.2 1 (by omega)
   have ec2 := (hE.bod).2.2.1 2 (by omega)
   have ef2 := (hE.bod).2.2.2 2 (by omega)
   have ec3 := (hE.bod).2.2.1 3 (by omega)
   have ef3 := (hE.bod).2.2.2 3 (by omega)
   have ec4 := (hE.bod).2.2.1 4 (by omega)
   have ef4 := (hE.bod).2.2.2 4 (by omega)
   have ec5 := (hE.bod).2.2.1 5 (by omega)
   have ef5 := (hE.bod).2.2.2 5 (by omega)
   have ec6 := (hE.bod).2.2.1 6 (by omega)
   have ef6 := (hE.bod).2.2.2 6 (by omega)
   have ec7 := (hE.bod).2.2.1 7 (by omega)
   have ef7 := (hE.bod).2.2.2 7 (by omega)
   have ec8 := (hE.bod).2.2.1 8 (by omega)
   have ef8 := (hE.bod).2.2.2 8 (by omega)
   have ec9 := (hE.bod).2.2.1 9 (by omega)
   have ef9 := (hE.bod).2.2.2 9 (by omega)
   have ec10 := (hE.bod).2.2.1 10 (by omega)
   have ef10 := (hE.bod).2.2.2 10 (by omega)
   have ec11 := (hE.bod).2.2.1 11 (by omega)
   have ef11 := (hE.bod).2.2.2 11 (by omega)
   have rc0 := (hE.res).2.2.1 0 (by omega)
   have rf0 := (hE.res).2.2.2 0 (by omega)
   have rc1 := (hE.res).2.2.1 1 (by omega)
   have rf1 := (hE.res).2.2.2 1 (by omega)
   have rc2 := (hE.res).2.2.1 2 (by omega)
   have rf2 := (hE.res).2.2.2 2 (by omega)
   have rc3 := (hE.res).2.2.1 3 (by omega)
   have rf3 := (hE.res).2.2.2 3 (by omega)
   have rc4 := (hE.res).2.2.1 4 (by omega)
   have rf4 := (hE.res).2.2.2 4 (by omega)
   have rc5 := (hE.res).2.2.1 5 (by omega)
   have rf5 := (hE.res).2.2.2 5 (by omega)
   have rc6 := (hE.res).2.2.1 6 (by omega)
   have rf6 := (hE.res).2.2.2 6 (by omega)
   have rc7 := (hE.res).2.2.1 7 (by omega)
   have rf7 := (hE.res).2.2.2 7 (by omega)
   have rc8 := (hE.res).2.2.1 8 (by omega)
   have rf8 := (hE.res).2.2.2 8 (by omega)
   have rc9 := (hE.res).2.2.1 9 (by omega)
   have rf9 := (hE.res).2.2.2 9 (by omega)
   have rc10 := (hE.res).2.2.1 10 (by omega)
   have rf10 := (hE.res).2.2.2 10 (by omega)
   have rc11 := (hE.res).2.2.1 11 (by omega)
   have rf11 := (hE.res).2.2.2 11 (by omega)
   go_wp2_with fail
   exact bodyPost_ret (v := bodyW Vx) (by simp [results, Tryz.results31, go_sem, *]) rfl ⟨Vx, rfl, hE.bf, RB.mk ((((((((((((hE.but.setNew (by simp) _).setNew (by simp) _).setNew (by simp) _).setNew (by simp) _).setNew (by simp) _).setNew (by simp) _).setNew (by simp) _).setNew (by simp) _).setNew (by simp) _).setNew (by simp) _).setNew (by simp) _).setNew (by simp) _) (((((((((((((hE.rs.mono (by omega)).setNew (by simp; omega) _).setNew (by simp; omega) _).setNew (by simp; omega) _).setNew (by simp; omega) _).setNew (by simp; omega) _).setNew (by simp; omega) _).setNew (by simp; omega) _).setNew (by simp; omega) _).setNew (by simp; omega) _).setNew (by simp; omega) _).setNew (by simp; omega) _).setNew (by simp; omega) _)⟩
 · clear kc0 kf0 kc1 kf1 kc2 kf2 kc3 kf3 kc4 kf4 kc5 kf5 kc6 kf6 kc7 kf7 kc8 kf8 kc9 kf9 kc10 kf10 kc11 kf11
   clear mc0 mf0 mc1 mf1 mc2 mf2 mc3 mf3 mc4 mf4 mc5 mf5 mc6 mf6 mc7 mf7 mc8 mf8 mc9 mf9 mc10 mf10 mc11 mf11
   have hE := (((hD8.set hlt 1 (by omega) k8 hd8.1).set hlt 2 (by omega) g8 hd8.2.1).set hlt 3 (by omega) h8 hd8.2.2)
   generalize (((w8.setCell ⟨ab, 1, none⟩ (.int .i64 k8)).setCell ⟨ab, 2, none⟩ (.int .i64 g8)).setCell ⟨ab, 3, none⟩ (.int .i64 h8)) = wx at hE ⊢
   obtain ⟨Vx, hE⟩ : ∃ Vx, DA w wx rb (p + 3000) ab Vx := ⟨_, hE⟩
   have h0 := hE
   have ec0 := (hE.bod).2.2.1 0 (by omega)
   have ef0 := (hE.bod).2.2.2 0 (by omega)
   have ec1 := (hE.bod).2.2.1 1 (by omega)
   have ef1 := (hE.bod).2.2.2 1 (by omega)
   have ec2 := (hE.bod).2.2.1 2 (by omega)
   have ef2 := (hE.bod).2.2.2 2 (by omega)
   have ec3 := (hE.bod).2.2.1 3 (by omega)
   have ef3 := (hE.bod).2.2.2 3 (by omega)
   have ec4 := (hE.bod).2.2.1 4 (by omega)
   have ef4 := (hE.bod).2.2.2 4 (by omega)
   have ec5 := (hE.bod).2.2.1 5 (by omega)
   have ef5 := (hE.bod).2.2.2 5 (by omega)
   have ec6 := (hE.bod).2.2.1 6 (by omega)
   have ef6 := (hE.bod).2.2.2 6 (by omega)
   have ec7 := (hE.bod).2.2.1 7 (by omega)
   have ef7 := (hE.bod).2.2.2 7 (by omega)
   have ec8 := (hE.bod).2.2.1 8 (by omega)
   have ef8 := (hE.bod).2.2.2 8 (by omega)
   have ec9 := (hE.bod).2.2.1 9 (by omega)
   have ef9 := (hE.bod).2.2.2 9 (by omega)
   have ec10 := (hE.bod).2.2.1 10 (by omega)
   have ef10 := (hE.bod).2.2.2 10 (by omega)
   have ec11 := (hE.bod).2.2.1 11 (by omega)
   have ef11 := (hE.bod).2.2.2 11 (by omega)
   have rc0 := (hE.res).2.2.1 0 (by omega)
   have rf0 := (hE.res).2.2.2 0 (by omega)
   have rc1 := (hE.res).2.2.1 1 (by omega)
   have rf1 := (hE.res).2.2.2 1 (by omega)
   have rc2 := (hE.res).2.2.1 2 (by omega)
   have rf2 := (hE.res).2.2.2 2 (by omega)
   have rc3 := (hE.res).2.2.1 3 (by omega)
   have rf3 := (hE.res).2.2.2 3 (by omega)
   have rc4 := (hE.res).2.2.1 4 (by omega)
   have rf4 := (hE.res).2.2.2 4 (by omega)
   have rc5 := (hE.res).2.2.1 5 (by omega)
   have rf5 := (hE.res).2.2.2 5 (by omega)
   have rc6 := (hE.res).2.2.1 6 (by omega)
   have rf6 := (hE.res).2.2.2 6 (by omega)
   have rc7 := (hE.res).2.2.1 7 (by omega)
   have rf7 := (hE.res).2.2.2 7 (by omega)
   have rc8 := (hE.res).2.2.1 8 (by omega)
   have rf8 := (hE.res).2.2.2 8 (by omega)
   have rc9 := (hE.res).2.2.1 9 (by omega)
   have rf9 := (hE.res).2.2.2 9 (by omega)
   have rc10 := (hE.res).2.2.1 10 (by omega)
   have rf10 := (hE.res).2.2.2 10 (by omega)
   have rc11 := (hE.res).2.2.1 11 (by omega)
   have rf11 := (hE.res).2.2.2 11 (by omega)
   go_wp2_with fail
   exact bodyPost_ret (v := bodyW Vx) (by simp [results, Tryz.results31, go_sem, *]) rfl ⟨Vx, rfl, hE.bf, RB.mk ((((((((((((hE.but.setNew (by simp) _).setNew (by simp) _).setNew (by simp) _).setNew (by simp) _).setNew (by simp) _).setNew (by simp) _).setNew (by simp) _).setNew (by simp) _).setNew (by simp) _).setNew (by simp) _).setNew (by simp) _).setNew (by simp) _) (((((((((((((hE.rs.mono (by omega)).setNew (by simp; omega) _).setNew (by simp; omega) _).setNew (by simp; omega) _).setNew (by simp; omega) _).setNew (by simp; omega) _).setNew (by simp; omega) _).setNew (by simp; omega) _).setNew (by simp; omega) _).setNew (by simp; omega) _).setNew (by simp; omega) _).setNew (by simp; omega) _).setNew (by simp; omega) _)⟩
 · clear kc0 kf0 kc1 kf1 kc2 kf2 kc3 kf3 kc4 kf4 kc5 kf5 kc6 kf6 kc7 kf7 kc8 kf8 kc9 kf9 kc10 kf10 kc11 kf11
   clear mc0 mf0 mc1 mf1 mc2 mf2 mc3 mf3 mc4 mf4 mc5 mf5 mc6 mf6 mc7 mf7 mc8 mf8 mc9 mf9 mc10 mf10 mc11 mf11
   have hE := ((hD8.set hlt 4 (by omega) x8 hd8.1).set hlt 5 (by omega) y8 hd8.2)
   generalize ((w8.setCell ⟨ab, 4, none⟩ (.int .i64 x8)).setCell ⟨ab, 5, none⟩ (.int .i64 y8)) = wx at hE ⊢
   obtain ⟨Vx, hE⟩ : ∃ Vx, DA w wx rb (p + 3000) ab Vx := ⟨_, hE⟩
   have h0 := hE
   have ec0 := (hE.bod).2.2.1 0 (by omega)
   have ef0 := (hE.bod).2.2.2 0 (by omega)
   have ec1 := (hE.bod).2.2.1 1 (by omega)
   have ef1 := (hE.bod).2.2.2 1 (by omega)
   have ec2 := (hE.bod).2.2.1 2 (by omega)
   have ef2 := (hE.bod).2.2.2 2 (by omega)
   have ec3 := (hE.bod).2.2.1 3 (by omega)
   have ef3 := (hE.bod).2.2.2 3 (by omega)
   have ec4 := (hE.bod).2.2.1 4 (by omega)
   have ef4 := (hE.bod).2.2.2 4 (by omega)
   have ec5 := (hE.bod).2.2.1 5 (by omega)
   have ef5 := (hE.bod).2.2.2 5 (by omega)
   have ec6 := (hE.bod).2.2.1 6 (by omega)
   have ef6 := (hE.bod).2.2.2 6 (by omega)
   have ec7 := (hE.bod).2.2.1 7 (by omega)
   have ef7 := (hE.bod).2.2.2 7 (by omega)
   have ec8 := (hE.bod).2.2.1 8 (by omega)
   have ef8 := (hE.bod).2.2.2 8 (by omega)
   have ec9 := (hE.bod).2.2.1 9 (by omega)
   have ef9 := (hE.bod).2.2.2 9 (by omega)
   have ec10 := (hE.bod).2.2.1 10 (by omega)
   have ef10 := (hE.bod).2.2.2 10 (by omega)
   have ec11 := (hE.bod).2.2.1 11 (by omega)
   have ef11 := (hE.bod).2.2.2 11 (by omega)
   have rc0 := (hE.res).2.2.1 0 (by omega)
   have rf0 := (hE.res).2.2.2 0 (by omega)
   have rc1 := (hE.res).2.2.1 1 (by omega)
   have rf1 := (hE.res).2.2.2 1 (by omega)
   have rc2 := (hE.res).2.2.1 2 (by omega)
   have rf2 := (hE.res).2.2.2 2 (by omega)
   have rc3 := (hE.res).2.2.1 3 (by omega)
   have rf3 := (hE.res).2.2.2 3 (by omega)
   have rc4 := (hE.res).2.2.1 4 (by omega)
   have rf4 := (hE.res).2.2.2 4 (by omega)
   have rc5 := (hE.res).2.2.1 5 (by omega)
   have rf5 := (hE.res).2.2.2 5 (by omega)
   have rc6 := (hE.res).2.2.1 6 (by omega)
   have rf6 := (hE.res).2.2.2 6 (by omega)
   have rc7 := (hE.res).2.2.1 7 (by omega)
   have rf7 := (hE.res).2.2.2 7 (by omega)
   have rc8 := (hE.res).2.2.1 8 (by omega)
   have rf8 := (hE.res).2.2.2 8 (by omega)
   have rc9 := (hE.res).2.2.1 9 (by omega)
   have rf9 := (hE.res).2.2.2 9 (by omega)
   have rc10 := (hE.res).2.2.1 10 (by omega)
   have rf10 := (hE.res).2.2.2 10 (by omega)
   have rc11 := (hE.res).2.2.1 11 (by omega)
   have rf11 := (hE.res).2.2.2 11 (by omega)
   go_wp2_with fail
   exact bodyPost_ret (v := bodyW Vx) (by simp [results, Tryz.results31, go_sem, *]) rfl ⟨Vx, rfl, hE.bf, RB.mk ((((((((((((hE.but.setNew (by simp) _).setNew (by simp) _).setNew (by simp) _).setNew (by simp) _).setNew (by simp) _).setNew (by simp) _).setNew (by simp) _).setNew (by simp) _).setNew (by simp) _).setNew (by simp) _).setNew (by simp) _).setNew (by simp) _) (((((((((((((hE.rs.mono (by omega)).setNew (by simp; omega) _).setNew (by simp; omega) _).setNew (by simp; omega) _).setNew (by simp; omega) _).setNew (by simp; omega) _).setNew (by simp; omega) _).setNew (by simp; omega) _).setNew (by simp; omega) _).setNew (by simp; omega) _).setNew (by simp; omega) _).setNew (by simp; omega) _).setNew (by simp; omega) _)⟩
 · clear kc0 kf0 kc1 kf1 kc2 kf2 kc3 kf3 kc4 kf4 kc5 kf5 kc6 kf6 kc7 kf7 kc8 kf8 kc9 kf9 kc10 kf10 kc11 kf11
   clear mc0 mf0 mc1 mf1 mc2 mf2 mc3 mf3 mc4 mf4 mc5 mf5 mc6 mf6 mc7 mf7 mc8 mf8 mc9 mf9 mc10 mf10 mc11 mf11
   have hE := (hD8.set hlt 6 (by omega) v8 ⟨by omega, by omega⟩)
   generalize (w8.setCell ⟨ab, 6, none⟩ (.int .i64 v8)) = wx at hE ⊢
   obtain ⟨Vx, hE⟩ : ∃ Vx, DA w wx rb (p + 3000) ab Vx := ⟨_, hE⟩
   have h0 := hE
   have ec0 := (hE.bod).2.2.1 0 (by omega)
   have ef0 := (hE.bod).2.2.2 0 (by omega)
   have ec1 := (hE.bod).2.2.1 1 (by omega)
   have ef1 := (hE.bod).2.2.2 1 (by omega)
   have ec2 := (hE.bod).2.2.1 2 (by omega)
   have ef2 := (hE.bod).2.2.2 2 (by omega)
   have ec3 := (hE.bod).2.2.1 3 (by omega)
   have ef3 := (hE.bod).2.2.2 3 (by omega)
   have ec4 := (hE.bod).2.2.1 4 (by omega)
   have ef4 := (hE.bod).2.2.2 4 (by omega)
   have ec5 := (hE.bod).2.2.1 5 (by omega)
   have ef5 := (hE.bod).2.2.2 5 (by omega)
   have ec6 := (hE.bod).2.2.1 6 (by omega)
   have ef6 := (hE.bod).2.2.2 6 (by omega)
   have ec7 := (hE.bod).2.2.1 7 (by omega)
   have ef7 := (hE.bod).2.2.2 7 (by omega)
   have ec8 := (hE.bod).2.2.1 8 (by omega)
   have ef8 := (hE.bod).2.2.2 8 (by omega)
   have ec9 := (hE.bod).2.2.1 9 (by omega)
   have ef9 := (hE.bod).2.2.2 9 (by omega)
   have ec10 := (hE.bod).2.2.1 10 (by omega)
   have ef10 := (hE.bod).2.2.2 10 (by omega)
   have ec11 := (hE.bod).2.2.1 11 (by omega)
   have ef11 := (hE.bod).2.2.2 11 (by omega)
   have rc0 := (hE.res).2.2.1 0 (by omega)
   have rf0 := (hE.res).2.2.2 0 (by omega)
   have rc1 := (hE.res).2.2.1 1 (by omega)
   have rf1 := (hE.res).2.2.2 1 (by omega)
   have rc2 := (hE.res).2.2.1 2 (by omega)
   have rf2 := (hE.res).2.2.2 2 (by omega)
   have rc3 := (hE.res).2.2.1 3 (by omega)
   have rf3 := (hE.res).2.2.2 3 (by omega)
   have rc4 := (hE.res).2.2.1 4 (by omega)
   have rf4 := (hE.res).2.2.2 4 (by omega)
   have rc5 := (hE.res).2.2.1 5 (by omega)
   have rf5 := (hE.res).2.2.2 5 (by omega)
   have rc6 := (hE.res).2.2.1 6 (by omega)
   have rf6 := (hE.res).2.2.2 6 (by omega)
   have rc7 := (hE.res).2.2.1 7 (by omega)
   have rf7 := (hE.res).2.2.2 7 (by omega)
   have rc8 := (hE.res).2.2.1 8 (by omega)
   have rf8 := (hE.res).2.2.2 8 (by omega)
   have rc9 := (hE.res).2.2.1 9 (by omega)
   have rf9 := (hE.res).2.2.2 9 (by omega)
   have rc10 := (hE.res).2.2.1 10 (by omega)
   have rf10 := (hE.res).2.2.2 10 (by omega)
   have rc11 := (hE.res).2.2.1 11 (by omega)
   have rf11 := (hE.res).2.2.2 11 (by omega)
   go_wp2_with fail
   exact bodyPost_ret (v := bodyW Vx) (by simp [results, Tryz.results31, go_sem, *]) rfl ⟨Vx, rfl, hE.bf, RB.mk ((((((((((((hE.but.setNew (by simp) _).setNew (by simp) _).setNew (by simp) _).setNew (by simp) _).setNew (by simp) _).setNew (by simp) _).setNew (by simp) _).setNew (by simp) _).setNew (by simp) _).setNew (by simp) _).setNew (by simp) _).setNew (by simp) _) (((((((((((((hE.rs.mono (by omega)).setNew (by simp; omega) _).setNew (by simp; omega) _).setNew (by simp; omega) _).setNew (by simp; omega) _).setNew (by simp; omega) _).setNew (by simp; omega) _).setNew (by simp; omega) _).setNew (by simp; omega) _).setNew (by simp; omega) _).setNew (by simp; omega) _).setNew (by simp; omega) _).setNew (by simp; omega) _)⟩
 · clear kc0 kf0 kc1 kf1 kc2 kf2 kc3 kf3 kc4 kf4 kc5 kf5 kc6 kf6 kc7 kf7 kc8 kf8 kc9 kf9 kc10 kf10 kc11 kf11
   clear mc0 mf0 mc1 mf1 mc2 mf2 mc3 mf3 mc4 mf4 mc5 mf5 mc6 mf6 mc7 mf7 mc8 mf8 mc9 mf9 mc10 mf10 mc11 mf11
   have hE := (hD8.set hlt 8 (by omega) v8 ⟨by omega, by omega⟩)
   generalize (w8.setCell ⟨ab, 8, none⟩ (.int .i64 v8)) = wx at hE ⊢
   obtain ⟨Vx, hE⟩ : ∃ Vx, DA w wx rb (p + 3000) ab Vx := ⟨_, hE⟩
   have h0 := hE
   have ec0 := (hE.bod).2.2.1 0 (by omega)
   have ef0 := (hE.bod).2.2.2 0 (by omega)
   have ec1 := (hE.bod).2.2.1 1 (by omega)
   have ef1 := (hE.bod).2.2.2 1 (by omega)
   have ec2 := (hE.bod).2.2.1 2 (by omega)
   have ef2 := (hE.bod).2.2.2 2 (by omega)
   have ec3 := (hE.bod).2.2.1 3 (by omega)
   have ef3 := (hE.bod).2.2.2 3 (by omega)
   have ec4 := (hE.bod).2.2.1 4 (by omega)
   have ef4 := (hE.bod).2.2.2 4 (by omega)
   have ec5 := (hE.bod).2.2.1 5 (by omega)
   have ef5 := (hE.bod).2.2.2 5 (by omega)
   have ec6 := (hE.bod).2.2.1 6 (by omega)
   have ef6 := (hE.bod).2.2.2 6 (by omega)
   have ec7 := (hE.bod).2.2.1 7 (by omega)
   have ef7 := (hE.bod).2.2.2 7 (by omega)
   have ec8 := (hE.bod).2.2.1 8 (by omega)
   have ef8 := (hE.bod).2.2.2 8 (by omega)
   have ec9 := (hE.bod).2.2.1 9 (by omega)
   have ef9 := (hE.bod).2.2.2 9 (by omega)
   have ec10 := (hE.bod).2.2.1 10 (by omega)
   have ef10 := (hE.bod).2.2.2 10 (by omega)
   have ec11 := (hE.bod).2.2.1 11 (by omega)
   have ef11 := (hE.bod).2.2.2 11 (by omega)
   have rc0 := (hE.res).2.2.1 0 (by omega)
   have rf0 := (hE.res).2.2.2 0 (by omega)
   have rc1 := (hE.res).2.2.1 1 (by omega)
   have rf1 := (hE.res).2.2.2 1 (by omega)
   have rc2 := (hE.res).2.2.1 2 (by omega)
   have rf2 := (hE.res).2.2.2 2 (by omega)
   have rc3 := (hE.res).2.2.1 3 (by omega)
   have rf3 := (hE.res).2.2.2 3 (by omega)
   have rc4 := (hE.res).2.2.1 4 (by omega)
   have rf4 := (hE.res).2.2.2 4 (by omega)
   have rc5 := (hE.res).2.2.1 5 (by omega)
   have rf5 := (hE.res).2.2.2 5 (by omega)
   have rc6 := (hE.res).2.2.1 6 (by omega)
   have rf6 := (hE.res).2.2.2 6 (by omega)
   have rc7 := (hE.res).2.2.1 7 (by omega)
   have rf7 := (hE.res).2.2.2 7 (by omega)
   have rc8 := (hE.res).2.2.1 8 (by omega)
   have rf8 := (hE.res).2.2.2 8 (by omega)
   have rc9 := (hE.res).2.2.1 9 (by omega)
   have rf9 := (hE.res).2.2.2 9 (by omega)
   have rc10 := (hE.res).2.2.1 10 (by omega)
   have rf10 := (hE.res).2.2.2 10 (by omega)
   have rc11 := (hE.res).2.2.1 11 (by omega)
   have rf11 := (hE.res).2.2.2 11 (by omega)
   go_wp2_with fail
   exact bodyPost_ret (v := bodyW Vx) (by simp [results, Tryz.results31, go_sem, *]) rfl ⟨Vx, rfl, hE.bf, RB.mk ((((((((((((hE.but.setNew (by simp) _).setNew (by simp) _).setNew (by simp) _).setNew (by simp) _).setNew (by simp) _).setNew (by simp) _).setNew (by simp) _).setNew (by simp) _).setNew (by simp) _).setNew (by simp) _).setNew (by simp) _).setNew (by simp) _) (((((((((((((hE.rs.mono (by omega)).setNew (by simp; omega) _).setNew (by simp; omega) _).setNew (by simp; omega) _).setNew (by simp; omega) _).setNew (by simp; omega) _).setNew (by simp; omega) _).setNew (by simp; omega) _).setNew (by simp; omega) _).setNew (by simp; omega) _).setNew (by simp; omega) _).setNew (by simp; omega) _).setNew (by simp; omega) _)⟩
 · clear kc0 kf0 kc1 kf1 kc2 kf2 kc3 kf3 kc4 kf4 kc5 kf5 kc6 kf6 kc7 kf7 kc8 kf8 kc9 kf9 kc10 kf10 kc11 kf11
   clear mc0 mf0 mc1 mf1 mc2 mf2 mc3 mf3 mc4 mf4 mc5 mf5 mc6 mf6 mc7 mf7 mc8 mf8 mc9 mf9 mc10 mf10 mc11 mf11
   have hE := (hD8.set hlt 9 (by omega) v8 ⟨by omega, by omega⟩)
   generalize (w8.setCell ⟨ab, 9, none⟩ (.int .i64 v8)) = wx at hE ⊢
   obtain ⟨Vx, hE⟩ : ∃ Vx, DA w wx rb (p + 3000) ab Vx := ⟨_, hE⟩
   have h0 := hE
   have ec0 := (hE.bod).2.2.1 0 (by omega)
   have ef0 := (hE.bod).2.2.2 0 (by omega)
   have ec1 := (hE.bod).2.2.1 1 (by omega)
   have ef1 := (hE.bod).2.2.2 1 (by omega)
   have ec2 := (hE.bod).2.2.1 2 (by omega)
   have ef2 := (hE.bod).2.2.2 2 (by omega)
   have ec3 := (hE.bod).2.2.1 3 (by omega)
   have ef3 := (hE.bod).2.2.2 3 (by omega)
   have ec4 := (hE.bod).2.2.1 4 (by omega)
   have ef4 := (hE.bod).2.2.2 4 (by omega)
   have ec5 := (hE.bod).2.2.1 5 (by omega)
   have ef5 := (hE.bod).2.2.2 5 (by omega)
   have ec6 := (hE.bod).2.2.1 6 (by omega)
   have ef6 := (hE.bod).2.2.2 6 (by omega)
   have ec7 := (hE.bod).2.2.1 7 (by omega)
   have ef7 := (hE.bod).2.2.2 7 (by omega)
   have ec8 := (hE.bod).2.2.1 8 (by omega)
   have ef8 := (hE.bod).2.2.2 8 (by omega)
   have ec9 := (hE.bod).2.2.1 9 (by omega)
   have ef9 := (hE.bod).2.2.2 9 (by omega)
   have ec10 := (hE.bod).2.2.1 10 (by omega)
   have ef10 := (hE.bod).2.2.2 10 (by omega)
   have ec11 := (hE.bod).2.2.1 11 (by omega)
   have ef11 := (hE.bod).2.2.2 11 (by omega)
   have rc0 := (hE.res).2.2.1 0 (by omega)
   have rf0 := (hE.res).2.2.2 0 (by omega)
   have rc1 := (hE.res).2.2.1 1 (by omega)
   have rf1 := (hE.res).2.2.2 1 (by omega)
   have rc2 := (hE.res).2.2.1 2 (by omega)
   have rf2 := (hE.res).2.2.2 2 (by omega)
   have rc3 := (hE.res).2.2.1 3 (by omega)
   have rf3 := (hE.res).2.2.2 3 (by omega)
   have rc4 := (hE.res).2.2.1 4 (by omega)
   have rf4 := (hE.res).2.2.2 4 (by omega)
   have rc5 := (hE.res).2.2.1 5 (by omega)
   have rf5 := (hE.res).2.2.2 5 (by omega)
   have rc6 := (hE.res).2.2.1 6 (by omega)
   have rf6 := (hE.res).2.2.2 6 (by omega)
   have rc7 := (hE.res).2.2.1 7 (by omega)
   have rf7 := (hE.res).2.2.2 7 (by omega)
   have rc8 := (hE.res).2.2.1 8 (by omega)
   have rf8 := (hE.res).2.2.2 8 (by omega)
   have rc9 := (hE.res).2.2.1 9 (by omega)
   have rf9 := (hE.res).2.2.2 9 (by omega)
   have rc10 := (hE.res).2.2.1 10 (by omega)
   have rf10 := (hE.res).2.2.2 10 (by omega)
   have rc11 := (hE.res).2.2.1 11 (by omega)
   have rf11 := (hE.res).2.2.2 11 (by omega)
   go_wp2_with fail
   exact bodyPost_ret (v := bodyW Vx) (by simp [results, Tryz.results31, go_sem, *]) rfl ⟨Vx, rfl, hE.bf, RB.mk ((((((((((((hE.but.setNew (by simp) _).setNew (by simp) _).setNew (by simp) _).setNew (by simp) _).setNew (by simp) _).setNew (by simp) _).setNew (by simp) _).setNew (by simp) _).setNew (by simp) _).setNew (by simp) _).setNew (by simp) _).setNew (by simp) _) (((((((((((((hE.rs.mono (by omega)).setNew (by simp; omega) _).setNew (by simp; omega) _).setNew (by simp; omega) _).setNew (by simp; omega) _).setNew (by simp; omega) _).setNew (by simp; omega) _).setNew (by simp; omega) _).setNew (by simp; omega) _).setNew (by simp; omega) _).setNew (by simp; omega) _).setNew (by simp; omega) _).setNew (by simp; omega) _)⟩
 · clear kc0 kf0 kc1 kf1 kc2 kf2 kc3 kf3 kc4 kf4 kc5 kf5 kc6 kf6 kc7 kf7 kc8 kf8 kc9 kf9 kc10 kf10 kc11 kf11
   clear mc0 mf0 mc1 mf1 mc2 mf2 mc3 mf3 mc4 mf4 mc5 mf5 mc6 mf6 mc7 mf7 mc8 mf8 mc9 mf9 mc10 mf10 mc11 mf11
   have hE := (hD8.set hlt 11 (by omega) v8 ⟨by omega, by omega⟩)
   generalize (w8.setCell ⟨ab, 11, none⟩ (.int .i64 v8)) = wx at hE ⊢
   obtain ⟨Vx, hE⟩ : ∃ Vx, DA w wx rb (p + 3000) ab Vx := ⟨_, hE⟩
   have h0 := hE
   have ec0 := (hE.bod).2.2.1 0 (by omega)
   have ef0 := (hE.bod).2.2.2 0 (by omega)
   have ec1 := (hE.bod).2.2.1 1 (by omega)
   have ef1 := (hE.bod).2.2.2 1 (by omega)
   have ec2 := (hE.bod).2.2.1 2 (by omega)
   have ef2 := (hE.bod).2.2.2 2 (by omega)
   have ec3 := (hE.bod).2.2.1 3 (by omega)
   have ef3 := (hE.bod).2.2.2 3 (by omega)
   have ec4 := (hE.bod).2.2.1 4 (by omega)
   have ef4 := (hE.bod).2.2.2 4 (by omega)
   have ec5 := (hE.bod).2.2.1 5 (by omega)
   have ef5 := (hE.bod).2.2.2 5 (by omega)
   have ec6 := (hE.bod).2.2.1 6 (by omega)
   have ef6 := (hE.bod).2.2.2 6 (by omega)
   have ec7 := (hE.bod).2.2.1 7 (by omega)
   have ef7 := (hE.bod).2.2.2 7 (by omega)
   have ec8 := (hE.bod).2.2.1 8 (by omega)
   have ef8 := (hE.bod).2.2.2 8 (by omega)
   have ec9 := (hE.bod).2.2.1 9 (by omega)
   have ef9 := (hE.bod).2.2.2 9 (by omega)
   have ec10 := (hE.bod).2.2.1 10 (by omega)
   have ef10 := (hE.bod).2.2.2 10 (by omega)
   have ec11 := (hE.bod).2.2.1 11 (by omega)
   have ef11 := (hE.bod).2.2.2 11 (by omega)
   have rc0 := (hE.res).2.2.1 0 (by omega)
   have rf0 := (hE.res).2.2.2 0 (by omega)
   have rc1 := (hE.res).2.2.1 1 (by omega)
   have rf1 := (hE.res).2.2.2 1 (by omega)
   have rc2 := (hE.res).2.2.1 2 (by omega)
   have rf2 := (hE.res).2.2.2 2 (by omega)
   have rc3 := (hE.res).2.2.1 3 (by omega)
   have rf3 := (hE.res).2.2.2 3 (by omega)
   have rc4 := (hE.res).2.2.1 4 (by omega)
   have rf4 := (hE.res).2.2.2 4 (by omega)
   have rc5 := (hE.res).2.2.1 5 (by omega)
   have rf5 := (hE.res).2.2.2 5 (by omega)
   have rc6 := (hE.res).2.2.1 6 (by omega)
   have rf6 := (hE.res).2.2.2 6 (by omega)
   have rc7 := (hE.res).2.2.1 7 (by omega)
   have rf7 := (hE.res).2.2.2 7 (by omega)
   have rc8 := (hE.res).2.2.1 8 (by omega)
   have rf8 := (hE.res).2.2.2 8 (by omega)
   have rc9 := (hE.res).2.2.1 9 (by omega)
   have rf9 := (hE.res).2.2.2 9 (by omega)
   have rc10 := (hE.res).2.2.1 10 (by omega)
   have rf10 := (hE.res).2.2.2 10 (by omega)
   have rc11 := (hE.res).2.2.1 11 (by omega)
   have rf11 := (hE.res).2.2.2 11 (by omega)
   go_wp2_with fail
   exact bodyPost_ret (v := bodyW Vx) (by simp [results, Tryz.results31, go_sem, *]) rfl ⟨Vx, rfl, hE.bf, RB.mk ((((((((((((hE.but.setNew (by simp) _).setNew (by simp) _).setNew (by simp) _).setNew (by simp) _).setNew (by simp) _).setNew (by simp) _).setNew (by simp) _).setNew (by simp) _).setNew (by simp) _).setNew (by simp) _).setNew (by simp) _).setNew (by simp) _) (((((((((((((hE.rs.mono (by omega)).setNew (by simp; omega) _).setNew (by simp; omega) _).setNew (by simp; omega) _).setNew (by simp; omega) _).setNew (by simp; omega) _).setNew (by simp; omega) _).setNew (by simp; omega) _).setNew (by simp; omega) _).setNew (by simp; omega) _).setNew (by simp; omega) _).setNew (by simp; omega) _).setNew (by simp; omega) _)⟩
 · clear kc0 kf0 kc1 kf1 kc2 kf2 kc3 kf3 kc4 kf4 kc5 kf5 kc6 kf6 kc7 kf7 kc8 kf8 kc9 kf9 kc10 kf10 kc11 kf11
   clear mc0 mf0 mc1 mf1 mc2 mf2 mc3 mf3 mc4 mf4 mc5 mf5 mc6 mf6 mc7 mf7 mc8 mf8 mc9 mf9 mc10 mf10 mc11 mf11
   have hE := (hD8.set hlt 10 (by omega) v8 ⟨by omega, by omega⟩)
   generalize (w8.setCell ⟨ab, 10, none⟩ (.int .i64 v8)) = wx at hE ⊢
   obtain ⟨Vx, hE⟩ : ∃ Vx, DA w wx rb (p + 3000) ab Vx := ⟨_, hE⟩
   have h0 := hE
   have ec0 := (hE.bod).2.2.1 0 (by omega)
   have ef0 := (hE.bod).2.2.2 0 (by omega)
   have ec1 := (hE.bod).2.2.1 1 (by omega)
   have ef1 := (hE.bod).2.2.2 1 (by omega)
   have ec2 := (hE.bod).2.2.1 2 (by omega)
   have ef2 := (hE.bod).2.2.2 2 (by omega)
   have ec3 := (hE.bod).2.2.1 3 (by omega)
   have ef3 := (hE.bod).2.2.2 3 (by omega)
   have ec4 := (hE.bod).2.2.1 4 (by omega)
   have ef4 := (hE.bod).2.2.2 4 (by omega)
   have ec5 := (hE.bod).2.2.1 5 (by omega)
   have ef5 := (hE.bod).2.2.2 5 (by omega)
   have ec6 := (hE.bod).2.2.1 6 (by omega)
   have ef6 := (hE.bod).2.2.2 6 (by omega)
   have ec7 := (hE.bod).2.2.1 7 (by omega)
   have ef7 := (hE.bod).2.2.2 7 (by omega)
   have ec8 := (hE.bod).2.2.1 8 (by omega)
   have ef8 := (hE.bod).2.2.2 8 (by omega)
   have ec9 := (hE.bod).2.2.1 9 (by omega)
   have ef9 := (hE.bod).2.2.2 9 (by omega)
   have ec10 := (hE.bod).2.2.1 10 (by omega)
   have ef10 := (hE.bod).2.2.2 10 (by omega)
   have ec11 := (hE.bod).2.2.1 11 (by omega)
   have ef11 := (hE.bod).2.2.2 11 (by omega)
   have rc0 := (hE.res).2.2.1 0 (by omega)
   have rf0 := (hE.res).2.2.2 0 (by omega)
   have rc1 := (hE.res).2.2.1 1 (by omega)
   have rf1 := (hE.res).2.2.2 1 (by omega)
   have rc2 := (hE.res).2.2.1 2 (by omega)
   have rf2 := (hE.res).2.2.2 2 (by omega)
   have rc3 := (hE.res).2.2.1 3 (by omega)
   have rf3 := (hE.res).2.2.2 3 (by omega)
   have rc4 := (hE.res).2.2.1 4 (by omega)
   have rf4 := (hE.res).2.2.2 4 (by omega)
   have rc5 := (hE.res).2.2.1 5 (by omega)
   have rf5 := (hE.res).2.2.2 5 (by omega)
   have rc6 := (hE.res).2.2.1 6 (by omega)
   have rf6 := (hE.res).2.2.2 6 (by omega)
   have rc7 := (hE.res).2.2.1 7 (by omega)
   have rf7 := (hE.res).2.2.2 7 (by omega)
   have rc8 := (hE.res).2.2.1 8 (by omega)
   have rf8 := (hE.res).2.2.2 8 (by omega)
   have rc9 := (hE.res).2.2.1 9 (by omega)
   have rf9 := (hE.res).2.2.2 9 (by omega)
   have rc10 := (hE.res).2.2.1 10 (by omega)
   have rf10 := (hE.res).2.2.2 10 (by omega)
   have rc11 := (hE.res).2.2.1 11 (by omega)
   have rf11 := (hE.res).2.2.2 11 (by omega)
   go_wp2_with fail
   exact bodyPost_ret (v := bodyW Vx) (by simp [results, Tryz.results31, go_sem, *]) rfl ⟨Vx, rfl, hE.bf, RB.mk ((((((((((((hE.but.setNew (by simp) _).setNew (by simp) _).setNew (by simp) _).setNew (by simp) _).setNew (by simp) _).setNew (by simp) _).setNew (by simp) _).setNew (by simp) _).setNew (by simp) _).setNew (by simp) _).setNew (by simp) _).setNew (by simp) _) (((((((((((((hE.rs.mono (by omega)).setNew (by simp; omega) _).setNew (by simp; omega) _).setNew (by simp; omega) _).setNew (by simp; omega) _).setNew (by simp; omega) _).setNew (by simp; omega) _).setNew (by simp; omega) _).setNew (by simp; omega) _).setNew (by simp; omega) _).setNew (by simp; omega) _).setNew (by simp; omega) _).setNew (by simp; omega) _)⟩
 · clear kc0 kf0 kc1 kf1 kc2 kf2 kc3 kf3 kc4 kf4 kc5 kf5 kc6 kf6 kc7 kf7 kc8 kf8 kc9 kf9 kc10 kf10 kc11 kf11
   have hE := hD7
   obtain ⟨Vx, hE⟩ : ∃ Vx, DA w wc rb (p + 3000) ab Vx := ⟨_, hE⟩
   have h0 := hE
   have ec0 := (hE.bod).2.2.1 0 (by omega)
   have ef0 := (hE.bod).2.2.2 0 (by omega)
   have ec1 := (hE.bod).2.2.1 1 (by omega)
   have ef1 := (hE.bod).2.2.2 1 (by omega)
   have ec2 := (hE.bod).2.2.1 2 (by omega)
   have ef2 := (hE.bod).2.2.2 2 (by omega)
   have ec3 := (hE.bod).2.2.1 3 (by omega)
   have ef3 := (hE.bod).2.2.2 3 (by omega)
   have ec4 := (hE.bod).2.2.1 4 (by omega)
   have ef4 := (hE.bod).2.2.2 4 (by omega)
   have ec5 := (hE.bod).2.2.1 5 (by omega)
   have ef5 := (hE.bod).2.2.2 5 (by omega)
   have ec6 := (hE.bod).2.2.1 6 (by omega)
   have ef6 := (hE.bod).2.2.2 6 (by omega)
   have ec7 := (hE.bod).2.2.1 7 (by omega)
   have ef7 := (hE.bod).2.2.2 7 (by omega)
   have ec8 := (hE.bod).2.2.1 8 (by omega)
   have ef8 := (hE.bod).2.2.2 8 (by omega)
   have ec9 := (hE.bod).2.2.1 9 (by omega)
   have ef9 := (hE.bod).2.2.2 9 (by omega)
   have ec10 := (hE.bod).2.2.1 10 (by omega)
   have ef10 := (hE.bod).2.2.2 10 (by omega)
   have ec11 := (hE.bod).2.2.1 11 (by omega)
   have ef11 := (hE.bod).2.2.2 11 (by omega)
   have rc0 := (hE.res).2.2.1 0 (by omega)
   have rf0 := (hE.res).2.2.2 0 (by omega)
   have rc1 := (hE.res).2.2.1 1 (by omega)
   have rf1 := (hE.res).2.2.2 1 (by omega)
   have rc2 := (hE.res).2.2.1 2 (by omega)
   have rf2 := (hE.res).2.2.2 2 (by omega)
   have rc3 := (hE.res).2.2.1 3 (by omega)
   have rf3 := (hE.res).2.2.2 3 (by omega)
   have rc4 := (hE.res).2.2.1 4 (by omega)
   have rf4 := (hE.res).2.2.2 4 (by omega)
   have rc5 := (hE.res).2.2.1 5 (by omega)
   have rf5 := (hE.res).2.2.2 5 (by omega)
   have rc6 := (hE.res).2.2.1 6 (by omega)
   have rf6 := (hE.res).2.2.2 6 (by omega)
   have rc7 := (hE.res).2.2.1 7 (by omega)
   have rf7 := (hE.res).2.2.2 7 (by omega)
   have rc8 := (hE.res).2.2.1 8 (by omega)
   have rf8 := (hE.res).2.2.2 8 (by omega)
   have rc9 := (hE.res).2.2.1 9 (by omega)
   have rf9 := (hE.res).2.2.2 9 (by omega)
   have rc10 := (hE.res).2.2.1 10 (by omega)
   have rf10 := (hE.res).2.2.2 10 (by omega)
   have rc11 := (hE.res).2.2.1 11 (by omega)
   have rf11 := (hE.res).2.2.2 11 (by omega)
   go_wp2_with fail
   exact bodyPost_ret (v := bodyW Vx) (by simp [results, Tryz.results31, go_sem, *]) rfl ⟨Vx, rfl, hE.bf, RB.mk ((((((((((((hE.but.setNew (by simp) _).setNew (by simp) _).setNew (by simp) _).setNew (by simp) _).setNew (by simp) _).setNew (by simp) _).setNew (by simp) _).setNew (by simp) _).setNew (by simp) _).setNew (by simp) _).setNew (by simp) _).setNew (by simp) _) (((((((((((((hE.rs.mono (by omega)).setNew (by simp; omega) _).setNew (by simp; omega) _).setNew (by simp; omega) _).setNew (by simp; omega) _).setNew (by simp; omega) _).setNew (by simp; omega) _).setNew (by simp; omega) _).setNew (by simp; omega) _).setNew (by simp; omega) _).setNew (by simp; omega) _).setNew (by simp; omega) _).setNew (by simp; omega) _)⟩
def LN (n : Nat) (U : Nat → Int) : Prop := n ≤ 13 ∧ ∀ k, k < n → BN (fun j => U (k * 12 + j))
theorem LN.of {n : Nat} {U : Nat → Int} (h : Bods n U) : LN n U := ⟨by have := h.le; omega, fun k hk => bn_of (h.ok k hk)⟩
theorem LN.put {n : Nat} {U V : Nat → Int} {j : Nat} (h : LN n U) (hV : BN V) : LN n (putRow U j V) := by
 refine ⟨h.1, fun k hk i hi => ?_⟩
 unfold putRow
 by_cases e : j * 12 ≤ k * 12 + i ∧ k * 12 + i < j * 12 + 12
 · have : j = k := by omega
   subst this
   simp only [e, and_self, if_true, Nat.add_sub_cancel_left]
   exact hV i hi
 · simp only [e, if_false]; exact h.2 k hk i hi
theorem LN.push {n : Nat} {U V : Nat → Int} (h : LN n U) (hn : n ≤ 12) (hV : BN V) : LN (n + 1) (cat (n * 12) U V) := by
 refine ⟨by omega, fun k hk i hi => ?_⟩
 unfold cat
 by_cases e : k = n
 · subst e
   simp only [show ¬ k * 12 + i < k * 12 by omega, if_false, Nat.add_sub_cancel_left]
   exact hV i hi
 · simp only [show k * 12 + i < n * 12 by omega, if_true]
   exact h.2 k (by omega) i hi
theorem Dg.row {w wr : World} {rb p n g c : Nat} {U : Nat → Int} (h : Dg w wr rb p (.slice (some ⟨g, 0, none⟩) n c) n U []) {w' : World} {U' : Nat → Int} (hs : Fr (fun b => b = g) wr w') (hq : OwnL w' w.heap.size 34 12 (.slice (some ⟨g, 0, none⟩) n c) n U') : Dg w w' rb p (.slice (some ⟨g, 0, none⟩) n c) n U' [] := by
 have hg := (h.own.lt g rfl).1
 have hsz := h.bl.but.size
 have hB : Below w.heap.size wr w' := hs.below hsz (fun k e => by omega)
 exact ⟨⟨h.bl.rs.upto hB h.bl.lo, ⟨hB.os.trans h.bl.but.os, hB.tape.trans h.bl.but.tape, hB.output.trans h.bl.but.output, Nat.le_trans hsz hB.size, fun k hk hn => (hB.block k hk).trans (h.bl.but.block k hk hn)⟩, h.bl.lo, fun x hx => by cases hx⟩, hq, fun x hx => by cases hx⟩
theorem l11AnyBodies_k (rb p : Nat) (w : World) (hs0 : RS w rb p) (hp : p ≤ 500000) :
 Calls Tryz.prog 16 #[.pointer (some ⟨rb, 0, none⟩)] w fun e w' => ∃ (a : Option Addr) (n c : Nat) (U : Nat → Int), e = .returned (.slice a n c) ∧ LN n U ∧ Dg w w' rb (p + 40000) (.slice a n c) n U [] := by
 have hlt := hs0.lt
 have hset := cset_map
 go_enter Tryz.func16, Tryz.ntmps16
 go_upto_region 1 with fail
 go_cut [3] (fun s3 wc => ∃ (a : Option Addr) (n c : Nat) (U : Nat → Int), s3 = (.slice a n c) ∧ Bods n U ∧ Dg w wc rb (p + 30000) (.slice a n c) n U [])
 case first =>
  go_wp2_with (go_at_call 29; refine (l11Bodies_k rb p _ hs0 (by omega)).mono ?_; rintro e w1 ⟨a, n, c, U, rfl, hB, hD⟩)
  go_meet
  exact ⟨a, n, c, U, rfl, hB, hD⟩
 case rest =>
 obtain ⟨a, n, c, U, rfl, hB, hD⟩ := hcut
 have hn12 := hB.le
 have hL := LN.of hB
 by_cases hn0 : n = 0
 · have e1 : ((n : Int) == 0) = true := by simp [hn0]
   clear hn0
   go_wp2_with fail
   go_ret
   first | exact ⟨_, _, _, _, rfl, hL, hD.mono (by omega)⟩ | exact ⟨_, _, _, rfl, _, hL, hD.mono (by omega)⟩
 · have e1 : ((n : Int) == 0) = false := by simp [hn0]
   have hn1 : (1 : Int) ≤ (n : Int) := by omega
   have hn1' : 0 < n := by omega
   go_upto_region 4 with fail
   go_cut [4] (fun s4 wc => ∃ k : Nat, s4 = .int .i64 (k : Int) ∧ k < n ∧ Dg w wc rb (p + 30001) (.slice a n c) n U [])
   case first =>
    go_wp2_with (go_at_call 30; refine (pick_s rb (p + 30000) _ _ (by exact hD.bl.rs) (by omega) (by omega) (by omega)).mono ?_; rintro e w2 ⟨v2, rfl, va2, vb2, hr2⟩)
    go_meet
    exact ⟨v2.toNat, by rw [Int.toNat_of_nonneg va2], by omega, hD.call hr2⟩
   case rest =>
   clear hD
   obtain ⟨k, rfl, hk, hD⟩ := hcut
   go_upto_region 5 with fail
   go_cut [16] (fun s16 wc => ∃ v : Int, s16 = .int .i64 v ∧ Dg w wc rb (p + 30002) (.slice a n c) n U [])
   case first =>
    go_wp2_with (go_at_call 30; refine (pick_s rb (p + 30001) _ _ (by exact hD.bl.rs) (by omega) (by omega) (by omega)).mono ?_; rintro e w3 ⟨v3, rfl, va3, vb3, hr3⟩)
    go_meet
    exact ⟨_, rfl, hD.call hr3⟩
   case rest =>
   clear hD
   obtain ⟨v, rfl, hD⟩ := hcut
   obtain ⟨g, rfl, hg1, hg2⟩ := hD.own.loc hn1'
   have hki : (k : Int) < (n : Int) := by omega
   by_cases e0 : v = 0
   · have e2 : (v == 0) = true := by simp [e0]
     clear e0
     go_upto_region 10 with (go_at_call 31; refine (l11AnyBody_s rb (p + 30002) _ (by exact hD.bl.rs) (by omega)).mono ?_; rintro e w4 ⟨V, rfl, hV, hr4⟩; have hD4 := hD.call hr4; have umf := hD4.own.fro; (have um0 := hD4.own.cellq (q := k * 12) (by omega)); (have um1 := hD4.own.cellq (q := k * 12 + 1) (by omega)); (have um2 := hD4.own.cellq (q := k * 12 + 2) (by omega)); (have um3 := hD4.own.cellq (q := k * 12 + 3) (by omega)); (have um4 := hD4.own.cellq (q := k * 12 + 4) (by omega)); (have um5 := hD4.own.cellq (q := k * 12 + 5) (by omega)); (have um6 := hD4.own.cellq (q := k * 12 + 6) (by omega)); (have um7 := hD4.own.cellq (q := k * 12 + 7) (by omega)); (have um8 := hD4.own.cellq (q := k * 12 + 8) (by omega)); (have um9 := hD4.own.cellq (q := k * 12 + 9) (by omega)); (have um10 := hD4.own.cellq (q := k * 12 + 10) (by omega)); (have um11 := hD4.own.cellq (q := k * 12 + 11) (by omega)))
     have hq := put12 hD4.own hk V
     have hD5 := hD4.row (putFr (w4 := w4) (g := g) (p := k) V) hq
     clear umf um0 um1 um2 um3 um4 um5 um6 um7 um8 um9 um10 um11 hD hD4
     generalize ((((((((((((w4.setCell ⟨g, k * 12, none⟩ (.int .i64 (V 0))).setCell ⟨g, k * 12 + 1, none⟩ (.int .i64 (V 1))).setCell ⟨g, k * 12 + 2, none⟩ (.int .i64 (V 2))).setCell ⟨g, k * 12 + 3, none⟩ (.int .i64 (V 3))).setCell ⟨g, k * 12 + 4, none⟩ (.int .i64 (V 4))).setCell ⟨g, k * 12 + 5, none⟩ (.int .i64 (V 5))).setCell ⟨g, k * 12 + 6, none⟩ (.int .i64 (V 6))).setCell ⟨g, k * 12 + 7, none⟩ (.int .i64 (V 7))).setCell ⟨g, k * 12 + 8, none⟩ (.int .i64 (V 8))).setCell ⟨g, k * 12 + 9, none⟩ (.int .i64 (V 9))).setCell ⟨g, k * 12 + 10, none⟩ (.int .i64 (V 10))).setCell ⟨g, k * 12 + 11, none⟩ (.int .i64 (V 11))) = w9 at hD5 ⊢
     go_wp2_with fail
     go_ret
     first | exact ⟨_, _, _, _, rfl, hL.put hV, hD5.mono (by omega)⟩ | exact ⟨_, _, _, rfl, _, hL.put hV, hD5.mono (by omega)⟩
   · have e2 : (v == 0) = false := by simp [e0]
     by_cases e3 : v = 1
     · have e4 : (v == 1) = true := by simp [e3]
       clear e0 e3
       have hV : BN (fun i => U i) := fun j hj => by have := hL.2 0 hn1' j hj; simpa using this
       have u0 : wc.cell? ⟨g, 0, none⟩ = some (.int .i64 (U 0)) := by have := hD.own.cellq (q := 0) (by omega); exact this
       have u1 : wc.cell? ⟨g, 1, none⟩ = some (.int .i64 (U 1)) := by have := hD.own.cellq (q := 1) (by omega); exact this
       have u2 : wc.cell? ⟨g, 2, none⟩ = some (.int .i64 (U 2)) := by have := hD.own.cellq (q := 2) (by omega); exact this
       have u3 : wc.cell? ⟨g, 3, none⟩ = some (.int .i64 (U 3)) := by have := hD.own.cellq (q := 3) (by omega); exact this
       have u4 : wc.cell? ⟨g, 4, none⟩ = some (.int .i64 (U 4)) := by have := hD.own.cellq (q := 4) (by omega); exact this
       have u5 : wc.cell? ⟨g, 5, none⟩ = some (.int .i64 (U 5)) := by have := hD.own.cellq (q := 5) (by omega); exact this
       have u6 : wc.cell? ⟨g, 6, none⟩ = some (.int .i64 (U 6)) := by have := hD.own.cellq (q := 6) (by omega); exact this
       have u7 : wc.cell? ⟨g, 7, none⟩ = some (.int .i64 (U 7)) := by have := hD.own.cellq (q := 7) (by omega); exact this
       have u8 : wc.cell? ⟨g, 8, none⟩ = some (.int .i64 (U 8)) := by have := hD.own.cellq (q := 8) (by omega); exact this
       have u9 : wc.cell? ⟨g, 9, none⟩ = some (.int .i64 (U 9)) := by have := hD.own.cellq (q := 9) (by omega); exact this
       have u10 : wc.cell? ⟨g, 10, none⟩ = some (.int .i64 (U 10)) := by have := hD.own.cellq (q := 10) (by omega); exact this
       have u11 : wc.cell? ⟨g, 11, none⟩ = some (.int .i64 (U 11)) := by have := hD.own.cellq (q := 11) (by omega); exact this
       have hF : Flat (wc.alloc (Obj.cells #[.int .i64 (U 0), .int .i64 (U 1), .int .i64 (U 2), .int .i64 (U 3), .int .i64 (U 4), .int .i64 (U 5), .int .i64 (U 6), .int .i64 (U 7), .int .i64 (U 8), .int .i64 (U 9), .int .i64 (U 10), .int .i64 (U 11)] 34)) (some ⟨wc.heap.size, 0, none⟩) (1 * 12) (fun i => U i) := by
        intro _
        refine ⟨wc.heap.size, 0, rfl, by simp, fun i hi => ?_⟩
        rw [Nat.zero_add]
        rcases (show i = 0 ∨ i = 1 ∨ i = 2 ∨ i = 3 ∨ i = 4 ∨ i = 5 ∨ i = 6 ∨ i = 7 ∨ i = 8 ∨ i = 9 ∨ i = 10 ∨ i = 11 by omega) with rfl | rfl | rfl | rfl | rfl | rfl | rfl | rfl | rfl | rfl | rfl | rfl <;> go_simp
       have hE : Below wc.heap.size wc (wc.alloc (Obj.cells #[.int .i64 (U 0), .int .i64 (U 1), .int .i64 (U 2), .int .i64 (U 3), .int .i64 (U 4), .int .i64 (U 5), .int .i64 (U 6), .int .i64 (U 7), .int .i64 (U 8), .int .i64 (U 9), .int .i64 (U 10), .int .i64 (U 11)] 34)) := balloc _ _
       have hDE := hD.calb hE
       have hsz5 := hDE.bl.but.size
       go_upto_region 10 with (refine wpList_app rfl _ _ _ rfl w.heap.size 34 12 96 zcBody Tryz.underlying23 infoItBody rfl (by decide) (.slice (some ⟨g, 0, none⟩) n c) n U rfl hDE.own (some ⟨wc.heap.size, 0, none⟩) 1 1 (fun i => U i) rfl hF (by unfold maxLen; omega) (by omega) hsz5 ?_; intro a5 c5 w5 ho5 hg5)
       have hD5 := hDE.grown hg5 ho5
       go_wp2_with fail
       go_ret
       first | exact ⟨_, _, _, _, rfl, hL.push hn12 hV, hD5.mono (by omega)⟩ | exact ⟨_, _, _, rfl, _, hL.push hn12 hV, hD5.mono (by omega)⟩
     · have e4 : (v == 1) = false := by simp [e3]
       clear e0 e3
       go_wp2_with fail
       go_ret
       first | exact ⟨_, _, _, _, rfl, hL, hD.mono (by omega)⟩ | exact ⟨_, _, _, rfl, _, hL, hD.mono (by omega)⟩
end Go.Proofs.YtalkkjhehndaoaaGreat
namespace Go.Proofs.YtalkkjhehndaoaaGreat
theorem head_cut {l : List (List Char)} {c : List Char} (h : (l.head? == some c) = true) : ∃ rest, l = c :: rest := by
 cases l with
 | nil => simp at h
 | cons a r => simp at h; exact ⟨r, by rw [h]⟩
theorem strip_cut (rest : List (List Char)) : stripLifts liftWords ("cut".toList :: rest) = ([], "cut".toList :: rest) := by kernel_rfl
theorem make_of {P : Program} {l : List Char} (h0 : P.initOrder.toList = l) (h1 : ((behindMainWord (wordsSigns l)).head? == some "cut".toList) = true) : P.make = some .cut := by
 obtain ⟨rest, hr⟩ := head_cut h1
 unfold Program.make
 rw [h0, hr]
 rfl
theorem headLifts_of {P : Program} {l : List Char} (h0 : P.initOrder.toList = l) (h1 : ((behindMainWord (wordsSigns l)).head? == some "cut".toList) = true) : P.headLifts = [] := by
 obtain ⟨rest, hr⟩ := head_cut h1
 unfold Program.headLifts
 rw [h0, hr, strip_cut]
 rfl
theorem liftsFinal_of {P : Program} {l : List Char} (h0 : P.initOrder.toList = l) (h1 : ((behindMainWord (wordsSigns l)).head? == some "cut".toList) = true) : P.liftsFinal = false := by
 have hh := headLifts_of h0 h1
 obtain ⟨rest, hr⟩ := head_cut h1
 unfold Program.liftsFinal
 rw [h0, hr, hh]
 rfl
theorem mayEnter_of {P : Program} {l : List Char} (h0 : P.initOrder.toList = l) (h1 : ((behindMainWord (wordsSigns l)).head? == some "cut".toList) = true) (h2 : P.laysLater = false) (h3 : P.bearsReflect = false) (h4 : P.doorFits [] = true) : P.mayEnter = true := by
 obtain ⟨rest, hr⟩ := head_cut h1
 unfold Program.mayEnter
 rw [h0, hr]
 simp only [strip_cut, h2, h3, h4]
 simp
end Go.Proofs.YtalkkjhehndaoaaGreat
namespace Go.Proofs.YtalkkjhehndaoaaGreat
set_option maxRecDepth 100000
def ordL : { l : List Char // Tryz.prog.initOrder = String.ofList l } := ⟨_, rfl⟩
theorem ordT : Tryz.prog.initOrder.toList = ordL.1 := (congrArg String.toList ordL.2).trans String.toList_ofList
theorem headE : ((behindMainWord (wordsSigns ordL.1)).head? == some "cut".toList) = true := by kernel_rfl
theorem makeT : Tryz.prog.make = some .cut := make_of ordT headE
theorem liftsFinalT : Tryz.prog.liftsFinal = false := liftsFinal_of ordT headE
theorem laysLaterT : Tryz.prog.laysLater = false := by kernel_rfl
theorem bearsReflectT : Tryz.prog.bearsReflect = false := by kernel_rfl
theorem doorFitsT : Tryz.prog.doorFits [] = true := by kernel_rfl
theorem mayEnterT : Tryz.prog.mayEnter = true := mayEnter_of ordT headE laysLaterT bearsReflectT doorFitsT
theorem ownT : ownKnob Tryz.prog.godebug = none := by kernel_rfl
theorem laidOutT : laidOutB Tryz.prog = true := by kernel_rfl
theorem mapsRowedT : mapsRowed Tryz.prog = true := by kernel_rfl
theorem stopsHeardT : Tryz.prog.stopsHeard = true := by kernel_rfl
theorem plainKeysT : Tryz.prog.plainKeys = true := by kernel_rfl
end Go.Proofs.YtalkkjhehndaoaaGreat
