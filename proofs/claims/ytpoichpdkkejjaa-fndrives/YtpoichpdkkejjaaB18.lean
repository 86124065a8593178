/- The draw of any body. The draw of any list of bodies. All that bodies are driven by together: both sides. All that bodies are driven by together, by the specification. BodiesOk, by the program. -/
import Derived.Test.YtpoichpdkkejjaaB9
import Derived.Test.YtpoichpdkkejjaaB17
import Derived.Deep.RegionHeld3
import Derived.Deep.DeepCutAuto
import Derived.Test.YtpoichpdkkejjaaB16
import Derived.Test.YtpoichpdkkejjaaB2
namespace Go.Proofs.Ytpoichpdkkejjaa
open Go.RowKit
set_option linter.unusedVariables false
set_option linter.unusedSimpArgs false

theorem Al.far {w0 w : World} {ab n b k : Nat} {V : Nat → Int} (h : Al w0 w ab n V) (hb : ab ≠ b) (v : Value) : Al w0 (w.setCell ⟨b, k, none⟩ v) ab n V := h.off hb v
def BN (V : Nat → Int) : Prop := ∀ j, j < 12 → Bn (V j)
theorem BN.set {V : Nat → Int} (h : BN V) {k : Nat} {v : Int} (hv : Bn v) : BN (fun j => if j = k then v else V j) := by
  intro j hj
  by_cases e : j = k
  · simp only [e, if_true]; exact hv
  · simp only [e, if_false]; exact h j hj
theorem bn_of {V : Nat → Int} (h : bodyB V = true) : BN V := by
  obtain ⟨a8, a11, a4, a5, a6, a7, a9, a10, sh, _⟩ := bodyB_bd h
  have a0 : 0 ≤ V 0 ∧ V 0 ≤ 999999999 := by unfold bodyB at h; rw [Bool.and_eq_true] at h; exact of_decide_eq_true h.1
  have s3 : Bn (V 1) ∧ Bn (V 2) ∧ Bn (V 3) := by unfold shB rdB bxB at sh; rw [Bool.or_eq_true] at sh; simp only [decide_eq_true_eq] at sh; unfold Bn; rcases sh with q | q <;> omega
  intro j hj
  unfold Bn at *
  rcases (show j = 0 ∨ j = 1 ∨ j = 2 ∨ j = 3 ∨ j = 4 ∨ j = 5 ∨ j = 6 ∨ j = 7 ∨ j = 8 ∨ j = 9 ∨ j = 10 ∨ j = 11 by omega) with rfl | rfl | rfl | rfl | rfl | rfl | rfl | rfl | rfl | rfl | rfl | rfl <;> omega
theorem l11Body_s (rb p : Nat) (id : Int) (w : World) (hs0 : RS w rb p) (hp : p ≤ 800000) (hid : 0 ≤ id ∧ id ≤ 999999999) :
    Calls Try.prog 27 #[.pointer (some ⟨rb, 0, none⟩), .int .i64 id] w fun e w' => ∃ V : Nat → Int, e = .returned (bodyW V) ∧ (BN V ∧ True) ∧ RB w w' rb (p + 1000) :=
  (l11Body_k rb p id w hs0 hp hid).mono fun e w' ⟨V, a, b, c⟩ => ⟨V, a, ⟨bn_of b.1, trivial⟩, c⟩
/-- as DB, of any body -/
structure DA (w w' : World) (rb p ab : Nat) (V : Nat → Int) : Prop where
  but : But rb w w'
  rs : RS w' rb p
  res : Al w w' w.heap.size 12 (fun _ => 0)
  bod : Al w w' ab 12 V
  far : w.heap.size < ab
  bf : BN V
theorem DA.call {w w' w1 : World} {rb p p1 ab : Nat} {V : Nat → Int} (h : DA w w' rb p ab V) (hrb : rb < w.heap.size) (k : RB w' w1 rb p1) : DA w w1 rb p1 ab V :=
  ⟨h.but.trans k.but, RS.of k, h.res.up hrb k.but, h.bod.up hrb k.but, h.far, h.bf⟩
theorem DA.mono {w w' : World} {rb p p1 ab : Nat} {V : Nat → Int} (h : DA w w' rb p ab V) (k : p ≤ p1) : DA w w' rb p1 ab V :=
  ⟨h.but, h.rs.mono k, h.res, h.bod, h.far, h.bf⟩
theorem DA.set {w w' : World} {rb p ab : Nat} {V : Nat → Int} (h : DA w w' rb p ab V) (hrb : rb < w.heap.size) (k : Nat) (hk : k < 12) (v : Int) (hv : Bn v) :
    DA w (w'.setCell ⟨ab, k, none⟩ (.int .i64 v)) rb p ab (fun j => if j = k then v else V j) := by
  have hf := h.far
  exact ⟨h.but.setNew (by simp; omega) _, h.rs.setNew (by simp; omega) _, h.res.far (by omega) _, h.bod.set k hk v, h.far, h.bf.set hv⟩

set_option maxHeartbeats 16000000 in
theorem l11AnyBody_s (rb p : Nat) (w : World) (hs0 : RS w rb p) (hp : p ≤ 700000) :
    Calls Try.prog 19 #[.pointer (some ⟨rb, 0, none⟩)] w fun e w' => ∃ V : Nat → Int, e = .returned (bodyW V) ∧ BN V ∧ RB w w' rb (p + 3000) := by
  have hlt := hs0.lt
  have hne : (w.heap.size = rb) = False := eq_false (by omega)
  have hset := cset_map
  go_enter Try.func19, Try.ntmps19
  go_upto_region 1 with fail
  have r0 : Al w (w.alloc (.cells #[.int .i64 0, .int .i64 0, .int .i64 0, .int .i64 0, .int .i64 0, .int .i64 0, .int .i64 0, .int .i64 0, .int .i64 0, .int .i64 0, .int .i64 0, .int .i64 0] 32)) w.heap.size 12 (fun _ => 0) := Al.new (Nat.le_refl _) (by intro i hi; rcases (show i = 0 ∨ i = 1 ∨ i = 2 ∨ i = 3 ∨ i = 4 ∨ i = 5 ∨ i = 6 ∨ i = 7 ∨ i = 8 ∨ i = 9 ∨ i = 10 ∨ i = 11 by omega) with rfl | rfl | rfl | rfl | rfl | rfl | rfl | rfl | rfl | rfl | rfl | rfl <;> rfl)
  have hs1 : RS (w.alloc (.cells #[.int .i64 0, .int .i64 0, .int .i64 0, .int .i64 0, .int .i64 0, .int .i64 0, .int .i64 0, .int .i64 0, .int .i64 0, .int .i64 0, .int .i64 0, .int .i64 0] 32)) rb p := hs0.alloc _
  have hb0 : But rb w (w.alloc (.cells #[.int .i64 0, .int .i64 0, .int .i64 0, .int .i64 0, .int .i64 0, .int .i64 0, .int .i64 0, .int .i64 0, .int .i64 0, .int .i64 0, .int .i64 0, .int .i64 0] 32)) := but_alloc rb _ _
  generalize w.alloc (.cells #[.int .i64 0, .int .i64 0, .int .i64 0, .int .i64 0, .int .i64 0, .int .i64 0, .int .i64 0, .int .i64 0, .int .i64 0, .int .i64 0, .int .i64 0, .int .i64 0] 32) = w0 at *
  have hz0 := hb0.size
  go_cut [3] (fun s3 wc => ∃ (ab : Nat) (V : Nat → Int), s3 = .pointer (some ⟨ab, 0, none⟩) ∧ DA w wc rb (p + 2000) ab V)
  case first =>
    go_wp2_with (first
    | (have _ := hr1; go_at_call 27; refine (l11Body_s rb (p + 10) _ _ (by exact RS.up hr1 (by omega)) (by omega) ⟨by omega, by omega⟩).mono ?_; rintro e w2 ⟨V2, rfl, hd2, hr2⟩)
    | (go_at_call 18; refine (pick_s rb (p) _ _ (by exact hs1) (by omega) (by omega) (by omega)).mono ?_; rintro e w1 ⟨v1, rfl, va1, vb1, hr1⟩))
    go_meet
    have ht2 := (RB.but hr1).trans (RB.but hr2)
    have hz2 := (hb0.trans ht2).size
    have hz3 : w0.heap.size ≤ w2.heap.size := Nat.le_trans (RB.size hr1) (RB.size hr2)
    have hlo := r0.2.1
    exact ⟨_, V2, rfl, (hb0.trans ht2).alloc _, (RS.up hr2 (by omega)).alloc _, (r0.up hlt ht2).up hlt (but_alloc rb _ _), Al.new hz2 (by intro i hi; rcases (show i = 0 ∨ i = 1 ∨ i = 2 ∨ i = 3 ∨ i = 4 ∨ i = 5 ∨ i = 6 ∨ i = 7 ∨ i = 8 ∨ i = 9 ∨ i = 10 ∨ i = 11 by omega) with rfl | rfl | rfl | rfl | rfl | rfl | rfl | rfl | rfl | rfl | rfl | rfl <;> rfl), by omega, hd2.1⟩
  case rest =>
  obtain ⟨ab, V, rfl, hD⟩ := hcut
  clear hs1 hb0 r0 hz0 w0
  go_upto_region 2 with fail
  have hlo := hD.far
  go_cut [9] (fun s9 wc => ∃ (v7 : Int) (V : Nat → Int), s9 = .int .i64 v7 ∧ DA w wc rb (p + 2100) ab V)
  case first =>
    go_wp2_with (go_at_call 18; refine (pick_s rb (p + 2000) _ _ (by exact hD.rs) (by omega) (by omega) (by omega)).mono ?_; rintro e w7 ⟨v7, rfl, va7, vb7, hr7⟩)
    go_meet
    exact ⟨_, _, rfl, (hD.call hlt hr7).mono (by omega)⟩
  case rest =>
  clear hD
  obtain ⟨v7, V, rfl, hD⟩ := hcut
  have hD7 := hD.mono (p1 := p + 3000) (by omega)
  have kc0 := (hD7.bod).2.2.1 0 (by omega)
  have kf0 := (hD7.bod).2.2.2 0 (by omega)
  have kc1 := (hD7.bod).2.2.1 1 (by omega)
  have kf1 := (hD7.bod).2.2.2 1 (by omega)
  have kc2 := (hD7.bod).2.2.1 2 (by omega)
  have kf2 := (hD7.bod).2.2.2 2 (by omega)
  have kc3 := (hD7.bod).2.2.1 3 (by omega)
  have kf3 := (hD7.bod).2.2.2 3 (by omega)
  have kc4 := (hD7.bod).2.2.1 4 (by omega)
  have kf4 := (hD7.bod).2.2.2 4 (by omega)
  have kc5 := (hD7.bod).2.2.1 5 (by omega)
  have kf5 := (hD7.bod).2.2.2 5 (by omega)
  have kc6 := (hD7.bod).2.2.1 6 (by omega)
  have kf6 := (hD7.bod).2.2.2 6 (by omega)
  have kc7 := (hD7.bod).2.2.1 7 (by omega)
  have kf7 := (hD7.bod).2.2.2 7 (by omega)
  have kc8 := (hD7.bod).2.2.1 8 (by omega)
  have kf8 := (hD7.bod).2.2.2 8 (by omega)
  have kc9 := (hD7.bod).2.2.1 9 (by omega)
  have kf9 := (hD7.bod).2.2.2 9 (by omega)
  have kc10 := (hD7.bod).2.2.1 10 (by omega)
  have kf10 := (hD7.bod).2.2.2 10 (by omega)
  have kc11 := (hD7.bod).2.2.1 11 (by omega)
  have kf11 := (hD7.bod).2.2.2 11 (by omega)
  go_upto_region 19 with (first
    | (go_at_call 30; refine (one_s (-20000001) 1000000001 rb (p + 2100) _ _ _ _ _ (by exact hD.rs) (by omega) (by repeat (first | exact AllBd.nil | refine AllBd.cons (by omega) (by omega) ?_)) (by rfl) (by omega) (by omega)).mono ?_; rintro e w8 ⟨v8, rfl, va8, vb8, hr8⟩; have hD8 := (hD.call hlt hr8).mono (p1 := p + 3000) (by omega); have mc0 := (hD8.bod).2.2.1 0 (by omega); have mf0 := (hD8.bod).2.2.2 0 (by omega); have mc1 := (hD8.bod).2.2.1 1 (by omega); have mf1 := (hD8.bod).2.2.2 1 (by omega); have mc2 := (hD8.bod).2.2.1 2 (by omega); have mf2 := (hD8.bod).2.2.2 2 (by omega); have mc3 := (hD8.bod).2.2.1 3 (by omega); have mf3 := (hD8.bod).2.2.2 3 (by omega); have mc4 := (hD8.bod).2.2.1 4 (by omega); have mf4 := (hD8.bod).2.2.2 4 (by omega); have mc5 := (hD8.bod).2.2.1 5 (by omega); have mf5 := (hD8.bod).2.2.2 5 (by omega); have mc6 := (hD8.bod).2.2.1 6 (by omega); have mf6 := (hD8.bod).2.2.2 6 (by omega); have mc7 := (hD8.bod).2.2.1 7 (by omega); have mf7 := (hD8.bod).2.2.2 7 (by omega); have mc8 := (hD8.bod).2.2.1 8 (by omega); have mf8 := (hD8.bod).2.2.2 8 (by omega); have mc9 := (hD8.bod).2.2.1 9 (by omega); have mf9 := (hD8.bod).2.2.2 9 (by omega); have mc10 := (hD8.bod).2.2.1 10 (by omega); have mf10 := (hD8.bod).2.2.2 10 (by omega); have mc11 := (hD8.bod).2.2.1 11 (by omega); have mf11 := (hD8.bod).2.2.2 11 (by omega))
    | (go_at_call 31; refine (l11AnyShape_s rb (p + 2100) _ (by exact hD.rs) (by omega)).mono ?_; rintro e w8 ⟨k8, g8, h8, rfl, hd8, hr8⟩; have hD8 := (hD.call hlt hr8).mono (p1 := p + 3000) (by omega); have mc0 := (hD8.bod).2.2.1 0 (by omega); have mf0 := (hD8.bod).2.2.2 0 (by omega); have mc1 := (hD8.bod).2.2.1 1 (by omega); have mf1 := (hD8.bod).2.2.2 1 (by omega); have mc2 := (hD8.bod).2.2.1 2 (by omega); have mf2 := (hD8.bod).2.2.2 2 (by omega); have mc3 := (hD8.bod).2.2.1 3 (by omega); have mf3 := (hD8.bod).2.2.2 3 (by omega); have mc4 := (hD8.bod).2.2.1 4 (by omega); have mf4 := (hD8.bod).2.2.2 4 (by omega); have mc5 := (hD8.bod).2.2.1 5 (by omega); have mf5 := (hD8.bod).2.2.2 5 (by omega); have mc6 := (hD8.bod).2.2.1 6 (by omega); have mf6 := (hD8.bod).2.2.2 6 (by omega); have mc7 := (hD8.bod).2.2.1 7 (by omega); have mf7 := (hD8.bod).2.2.2 7 (by omega); have mc8 := (hD8.bod).2.2.1 8 (by omega); have mf8 := (hD8.bod).2.2.2 8 (by omega); have mc9 := (hD8.bod).2.2.1 9 (by omega); have mf9 := (hD8.bod).2.2.2 9 (by omega); have mc10 := (hD8.bod).2.2.1 10 (by omega); have mf10 := (hD8.bod).2.2.2 10 (by omega); have mc11 := (hD8.bod).2.2.1 11 (by omega); have mf11 := (hD8.bod).2.2.2 11 (by omega))
    | (go_at_call 32; refine (l11AnyPlace_s rb (p + 2100) _ (by exact hD.rs) (by omega)).mono ?_; rintro e w8 ⟨x8, y8, rfl, hd8, hr8⟩; have hD8 := (hD.call hlt hr8).mono (p1 := p + 3000) (by omega); have mc0 := (hD8.bod).2.2.1 0 (by omega); have mf0 := (hD8.bod).2.2.2 0 (by omega); have mc1 := (hD8.bod).2.2.1 1 (by omega); have mf1 := (hD8.bod).2.2.2 1 (by omega); have mc2 := (hD8.bod).2.2.1 2 (by omega); have mf2 := (hD8.bod).2.2.2 2 (by omega); have mc3 := (hD8.bod).2.2.1 3 (by omega); have mf3 := (hD8.bod).2.2.2 3 (by omega); have mc4 := (hD8.bod).2.2.1 4 (by omega); have mf4 := (hD8.bod).2.2.2 4 (by omega); have mc5 := (hD8.bod).2.2.1 5 (by omega); have mf5 := (hD8.bod).2.2.2 5 (by omega); have mc6 := (hD8.bod).2.2.1 6 (by omega); have mf6 := (hD8.bod).2.2.2 6 (by omega); have mc7 := (hD8.bod).2.2.1 7 (by omega); have mf7 := (hD8.bod).2.2.2 7 (by omega); have mc8 := (hD8.bod).2.2.1 8 (by omega); have mf8 := (hD8.bod).2.2.2 8 (by omega); have mc9 := (hD8.bod).2.2.1 9 (by omega); have mf9 := (hD8.bod).2.2.2 9 (by omega); have mc10 := (hD8.bod).2.2.1 10 (by omega); have mf10 := (hD8.bod).2.2.2 10 (by omega); have mc11 := (hD8.bod).2.2.1 11 (by omega); have mf11 := (hD8.bod).2.2.2 11 (by omega)))
  · clear kc0 kf0 kc1 kf1 kc2 kf2 kc3 kf3 kc4 kf4 kc5 kf5 kc6 kf6 kc7 kf7 kc8 kf8 kc9 kf9 kc10 kf10 kc11 kf11
    clear mc0 mf0 mc1 mf1 mc2 mf2 mc3 mf3 mc4 mf4 mc5 mf5 mc6 mf6 mc7 mf7 mc8 mf8 mc9 mf9 mc10 mf10 mc11 mf11
    have hE := (hD8.set hlt 0 (by omega) v8 ⟨by omega, by omega⟩)
    generalize (w8.setCell ⟨ab, 0, none⟩ (.int .i64 v8)) = wx at hE ⊢
    obtain ⟨Vx, hE⟩ : ∃ Vx, DA w wx rb (p + 3000) ab Vx := ⟨_, hE⟩
    have h0 := hE
    have ec0 := (hE.bod).2.2.1 0 (by omega)
    have ef0 := (hE.bod).2.2.2 0 (by omega)
    have ec1 := (hE.bod).2.2.1 1 (by omega)
    have ef1 := (hE.bod).2.2.2 1 (by omega)
    have ec2 := (hE.bod).2.2.1 2 (by omega)
    have ef2 := (hE.bod).2.2.2 2 (by omega)
    have ec3 := (hE.bod).2.2.1 3 (by omega)
    have ef3 := (hE.bod).2.2.2 3 (by omega)
    have ec4 := (hE.bod).2.2.1 4 (by omega)
    have ef4 := (hE.bod).2.2.2 4 (by omega)
    have ec5 := (hE.bod).2.2.1 5 (by omega)
    have ef5 := (hE.bod).2.2.2 5 (by omega)
    have ec6 := (hE.bod).2.2.1 6 (by omega)
    have ef6 := (hE.bod).2.2.2 6 (by omega)
    have ec7 := (hE.bod).2.2.1 7 (by omega)
    have ef7 := (hE.bod).2.2.2 7 (by omega)
    have ec8 := (hE.bod).2.2.1 8 (by omega)
    have ef8 := (hE.bod).2.2.2 8 (by omega)
    have ec9 := (hE.bod).2.2.1 9 (by omega)
    have ef9 := (hE.bod).2.2.2 9 (by omega)
    have ec10 := (hE.bod).2.2.1 10 (by omega)
    have ef10 := (hE.bod).2.2.2 10 (by omega)
    have ec11 := (hE.bod).2.2.1 11 (by omega)
    have ef11 := (hE.bod).2.2.2 11 (by omega)
    have rc0 := (hE.res).2.2.1 0 (by omega)
    have rf0 := (hE.res).2.2.2 0 (by omega)
    have rc1 := (hE.res).2.2.1 1 (by omega)
    have rf1 := (hE.res).2.2.2 1 (by omega)
    have rc2 := (hE.res).2.2.1 2 (by omega)
    have rf2 := (hE.res).2.2.2 2 (by omega)
    have rc3 := (hE.res).2.2.1 3 (by omega)
    have rf3 := (hE.res).2.2.2 3 (by omega)
    have rc4 := (hE.res).2.2.1 4 (by omega)
    have rf4 := (hE.res).2.2.2 4 (by omega)
    have rc5 := (hE.res).2.2.1 5 (by omega)
    have rf5 := (hE.res).2.2.2 5 (by omega)
    have rc6 := (hE.res).2.2.1 6 (by omega)
    have rf6 := (hE.res).2.2.2 6 (by omega)
    have rc7 := (hE.res).2.2.1 7 (by omega)
    have rf7 := (hE.res).2.2.2 7 (by omega)
    have rc8 := (hE.res).2.2.1 8 (by omega)
    have rf8 := (hE.res).2.2.2 8 (by omega)
    have rc9 := (hE.res).2.2.1 9 (by omega)
    have rf9 := (hE.res).2.2.2 9 (by omega)
    have rc10 := (hE.res).2.2.1 10 (by omega)
    have rf10 := (hE.res).2.2.2 10 (by omega)
    have rc11 := (hE.res).2.2.1 11 (by omega)
    have rf11 := (hE.res).2.2.2 11 (by omega)
    go_wp2_with fail
    exact bodyPost_ret (v := bodyW Vx) (by simp [results, Try.results19, go_sem, *]) rfl ⟨Vx, rfl, hE.bf, RB.mk ((((((((((((hE.but.setNew (by simp) _).setNew (by simp) _).setNew (by simp) _).setNew (by simp) _).setNew (by simp) _).setNew (by simp) _).setNew (by simp) _).setNew (by simp) _).setNew (by simp) _).setNew (by simp) _).setNew (by simp) _).setNew (by simp) _) (((((((((((((hE.rs.mono (by omega)).setNew (by simp; omega) _).setNew (by simp; omega) _).setNew (by simp; omega) _).setNew (by simp; omega) _).setNew (by simp; omega) _).setNew (by simp; omega) _).setNew (by simp; omega) _).setNew (by simp; omega) _).setNew (by simp; omega) _).setNew (by simp; omega) _).setNew (by simp; omega) _).setNew (by simp; omega) _)⟩
  · clear kc0 kf0 kc1 kf1 kc2 kf2 kc3 kf3 kc4 kf4 kc5 kf5 kc6 kf6 kc7 kf7 kc8 kf8 kc9 kf9 kc10 kf10 kc11 kf11
    clear mc0 mf0 mc1 mf1 mc2 mf2 mc3 mf3 mc4 mf4 mc5 mf5 mc6 mf6 mc7 mf7 mc8 mf8 mc9 mf9 mc10 mf10 mc11 mf11
    have hE := (((hD8.set hlt 1 (by omega) k8 hd8.1).set hlt 2 (by omega) g8 hd8.2.1).set hlt 3 (by omega) h8 hd8.2.2)
    generalize (((w8.setCell ⟨ab, 1, none⟩ (.int .i64 k8)).setCell ⟨ab, 2, none⟩ (.int .i64 g8)).setCell ⟨ab, 3, none⟩ (.int .i64 h8)) = wx at hE ⊢
    obtain ⟨Vx, hE⟩ : ∃ Vx, DA w wx rb (p + 3000) ab Vx := ⟨_, hE⟩
    have h0 := hE
    have ec0 := (hE.bod).2.2.1 0 (by omega)
    have ef0 := (hE.bod).2.2.2 0 (by omega)
    have ec1 := (hE.bod).2.2.1 1 (by omega)
    have ef1 := (hE.bod).2.2.2 1 (by omega)
    have ec2 := (hE.bod).2.2.1 2 (by omega)
    have ef2 := (hE.bod).2.2.2 2 (by omega)
    have ec3 := (hE.bod).2.2.1 3 (by omega)
    have ef3 := (hE.bod).2.2.2 3 (by omega)
    have ec4 := (hE.bod).2.2.1 4 (by omega)
    have ef4 := (hE.bod).2.2.2 4 (by omega)
    have ec5 := (hE.bod).2.2.1 5 (by omega)
    have ef5 := (hE.bod).2.2.2 5 (by omega)
    have ec6 := (hE.bod).2.2.1 6 (by omega)
    have ef6 := (hE.bod).2.2.2 6 (by omega)
    have ec7 := (hE.bod).2.2.1 7 (by omega)
    have ef7 := (hE.bod).2.2.2 7 (by omega)
    have ec8 := (hE.bod).2.2.1 8 (by omega)
    have ef8 := (hE.bod).2.2.2 8 (by omega)
    have ec9 := (hE.bod).2.2.1 9 (by omega)
    have ef9 := (hE.bod).2.2.2 9 (by omega)
    have ec10 := (hE.bod).2.2.1 10 (by omega)
    have ef10 := (hE.bod).2.2.2 10 (by omega)
    have ec11 := (hE.bod).2.2.1 11 (by omega)
    have ef11 := (hE.bod).2.2.2 11 (by omega)
    have rc0 := (hE.res).2.2.1 0 (by omega)
    have rf0 := (hE.res).2.2.2 0 (by omega)
    have rc1 := (hE.res).2.2.1 1 (by omega)
    have rf1 := (hE.res).2.2.2 1 (by omega)
    have rc2 := (hE.res).2.2.1 2 (by omega)
    have rf2 := (hE.res).2.2.2 2 (by omega)
    have rc3 := (hE.res).2.2.1 3 (by omega)
    have rf3 := (hE.res).2.2.2 3 (by omega)
    have rc4 := (hE.res).2.2.1 4 (by omega)
    have rf4 := (hE.res).2.2.2 4 (by omega)
    have rc5 := (hE.res).2.2.1 5 (by omega)
    have rf5 := (hE.res).2.2.2 5 (by omega)
    have rc6 := (hE.res).2.2.1 6 (by omega)
    have rf6 := (hE.res).2.2.2 6 (by omega)
    have rc7 := (hE.res).2.2.1 7 (by omega)
    have rf7 := (hE.res).2.2.2 7 (by omega)
    have rc8 := (hE.res).2.2.1 8 (by omega)
    have rf8 := (hE.res).2.2.2 8 (by omega)
    have rc9 := (hE.res).2.2.1 9 (by omega)
    have rf9 := (hE.res).2.2.2 9 (by omega)
    have rc10 := (hE.res).2.2.1 10 (by omega)
    have rf10 := (hE.res).2.2.2 10 (by omega)
    have rc11 := (hE.res).2.2.1 11 (by omega)
    have rf11 := (hE.res).2.2.2 11 (by omega)
    go_wp2_with fail
    exact bodyPost_ret (v := bodyW Vx) (by simp [results, Try.results19, go_sem, *]) rfl ⟨Vx, rfl, hE.bf, RB.mk ((((((((((((hE.but.setNew (by simp) _).setNew (by simp) _).setNew (by simp) _).setNew (by simp) _).setNew (by simp) _).setNew (by simp) _).setNew (by simp) _).setNew (by simp) _).setNew (by simp) _).setNew (by simp) _).setNew (by simp) _).setNew (by simp) _) (((((((((((((hE.rs.mono (by omega)).setNew (by simp; omega) _).setNew (by simp; omega) _).setNew (by simp; omega) _).setNew (by simp; omega) _).setNew (by simp; omega) _).setNew (by simp; omega) _).setNew (by simp; omega) _).setNew (by simp; omega) _).setNew (by simp; omega) _).setNew (by simp; omega) _).setNew (by simp; omega) _).setNew (by simp; omega) _)⟩
  · clear kc0 kf0 kc1 kf1 kc2 kf2 kc3 kf3 kc4 kf4 kc5 kf5 kc6 kf6 kc7 kf7 kc8 kf8 kc9 kf9 kc10 kf10 kc11 kf11
    clear mc0 mf0 mc1 mf1 mc2 mf2 mc3 mf3 mc4 mf4 mc5 mf5 mc6 mf6 mc7 mf7 mc8 mf8 mc9 mf9 mc10 mf10 mc11 mf11
    have hE := ((hD8.set hlt 4 (by omega) x8 hd8.1).set hlt 5 (by omega) y8 hd8.2)
    generalize ((w8.setCell ⟨ab, 4, none⟩ (.int .i64 x8)).setCell ⟨ab, 5, none⟩ (.int .i64 y8)) = wx at hE ⊢
    obtain ⟨Vx, hE⟩ : ∃ Vx, DA w wx rb (p + 3000) ab Vx := ⟨_, hE⟩
    have h0 := hE
    have ec0 := (hE.bod).2.2.1 0 (by omega)
    have ef0 := (hE.bod).2.2.2 0 (by omega)
    have ec1 := (hE.bod).2.2.1 1 (by omega)
    have ef1 := (hE.bod).2.2.2 1 (by omega)
    have ec2 := (hE.bod).2.2.1 2 (by omega)
    have ef2 := (hE.bod).2.2.2 2 (by omega)
    have ec3 := (hE.bod).2.2.1 3 (by omega)
    have ef3 := (hE.bod).2.2.2 3 (by omega)
    have ec4 := (hE.bod).2.2.1 4 (by omega)
    have ef4 := (hE.bod).2.2.2 4 (by omega)
    have ec5 := (hE.bod).2.2.1 5 (by omega)
    have ef5 := (hE.bod).2.2.2 5 (by omega)
    have ec6 := (hE.bod).2.2.1 6 (by omega)
    have ef6 := (hE.bod).2.2.2 6 (by omega)
    have ec7 := (hE.bod).2.2.1 7 (by omega)
    have ef7 := (hE.bod).2.2.2 7 (by omega)
    have ec8 := (hE.bod).2.2.1 8 (by omega)
    have ef8 := (hE.bod).2.2.2 8 (by omega)
    have ec9 := (hE.bod).2.2.1 9 (by omega)
    have ef9 := (hE.bod).2.2.2 9 (by omega)
    have ec10 := (hE.bod).2.2.1 10 (by omega)
    have ef10 := (hE.bod).2.2.2 10 (by omega)
    have ec11 := (hE.bod).2.2.1 11 (by omega)
    have ef11 := (hE.bod).2.2.2 11 (by omega)
    have rc0 := (hE.res).2.2.1 0 (by omega)
    have rf0 := (hE.res).2.2.2 0 (by omega)
    have rc1 := (hE.res).2.2.1 1 (by omega)
    have rf1 := (hE.res).2.2.2 1 (by omega)
    have rc2 := (hE.res).2.2.1 2 (by omega)
    have rf2 := (hE.res).2.2.2 2 (by omega)
    have rc3 := (hE.res).2.2.1 3 (by omega)
    have rf3 := (hE.res).2.2.2 3 (by omega)
    have rc4 := (hE.res).2.2.1 4 (by omega)
    have rf4 := (hE.res).2.2.2 4 (by omega)
    have rc5 := (hE.res).2.2.1 5 (by omega)
    have rf5 := (hE.res).2.2.2 5 (by omega)
    have rc6 := (hE.res).2.2.1 6 (by omega)
    have rf6 := (hE.res).2.2.2 6 (by omega)
    have rc7 := (hE.res).2.2.1 7 (by omega)
    have rf7 := (hE.res).2.2.2 7 (by omega)
    have rc8 := (hE.res).2.2.1 8 (by omega)
    have rf8 := (hE.res).2.2.2 8 (by omega)
    have rc9 := (hE.res).2.2.1 9 (by omega)
    have rf9 := (hE.res).2.2.2 9 (by omega)
    have rc10 := (hE.res).2.2.1 10 (by omega)
    have rf10 := (hE.res).2.2.2 10 (by omega)
    have rc11 := (hE.res).2.2.1 11 (by omega)
    have rf11 := (hE.res).2.2.2 11 (by omega)
    go_wp2_with fail
    exact bodyPost_ret (v := bodyW Vx) (by simp [results, Try.results19, go_sem, *]) rfl ⟨Vx, rfl, hE.bf, RB.mk ((((((((((((hE.but.setNew (by simp) _).setNew (by simp) _).setNew (by simp) _).setNew (by simp) _).setNew (by simp) _).setNew (by simp) _).setNew (by simp) _).setNew (by simp) _).setNew (by simp) _).setNew (by simp) _).setNew (by simp) _).setNew (by simp) _) (((((((((((((hE.rs.mono (by omega)).setNew (by simp; omega) _).setNew (by simp; omega) _).setNew (by simp; omega) _).setNew (by simp; omega) _).setNew (by simp; omega) _).setNew (by simp; omega) _).setNew (by simp; omega) _).setNew (by simp; omega) _).setNew (by simp; omega) _).setNew (by simp; omega) _).setNew (by simp; omega) _).setNew (by simp; omega) _)⟩
  · clear kc0 kf0 kc1 kf1 kc2 kf2 kc3 kf3 kc4 kf4 kc5 kf5 kc6 kf6 kc7 kf7 kc8 kf8 kc9 kf9 kc10 kf10 kc11 kf11
    clear mc0 mf0 mc1 mf1 mc2 mf2 mc3 mf3 mc4 mf4 mc5 mf5 mc6 mf6 mc7 mf7 mc8 mf8 mc9 mf9 mc10 mf10 mc11 mf11
    have hE := (hD8.set hlt 6 (by omega) v8 ⟨by omega, by omega⟩)
    generalize (w8.setCell ⟨ab, 6, none⟩ (.int .i64 v8)) = wx at hE ⊢
    obtain ⟨Vx, hE⟩ : ∃ Vx, DA w wx rb (p + 3000) ab Vx := ⟨_, hE⟩
    have h0 := hE
    have ec0 := (hE.bod).2.2.1 0 (by omega)
    have ef0 := (hE.bod).2.2.2 0 (by omega)
    have ec1 := (hE.bod).2.2.1 1 (by omega)
    have ef1 := (hE.bod).2.2.2 1 (by omega)
    have ec2 := (hE.bod).2.2.1 2 (by omega)
    have ef2 := (hE.bod).2.2.2 2 (by omega)
    have ec3 := (hE.bod).2.2.1 3 (by omega)
    have ef3 := (hE.bod).2.2.2 3 (by omega)
    have ec4 := (hE.bod).2.2.1 4 (by omega)
    have ef4 := (hE.bod).2.2.2 4 (by omega)
    have ec5 := (hE.bod).2.2.1 5 (by omega)
    have ef5 := (hE.bod).2.2.2 5 (by omega)
    have ec6 := (hE.bod).2.2.1 6 (by omega)
    have ef6 := (hE.bod).2.2.2 6 (by omega)
    have ec7 := (hE.bod).2.2.1 7 (by omega)
    have ef7 := (hE.bod).2.2.2 7 (by omega)
    have ec8 := (hE.bod).2.2.1 8 (by omega)
    have ef8 := (hE.bod).2.2.2 8 (by omega)
    have ec9 := (hE.bod).2.2.1 9 (by omega)
    have ef9 := (hE.bod).2.2.2 9 (by omega)
    have ec10 := (hE.bod).2.2.1 10 (by omega)
    have ef10 := (hE.bod).2.2.2 10 (by omega)
    have ec11 := (hE.bod).2.2.1 11 (by omega)
    have ef11 := (hE.bod).2.2.2 11 (by omega)
    have rc0 := (hE.res).2.2.1 0 (by omega)
    have rf0 := (hE.res).2.2.2 0 (by omega)
    have rc1 := (hE.res).2.2.1 1 (by omega)
    have rf1 := (hE.res).2.2.2 1 (by omega)
    have rc2 := (hE.res).2.2.1 2 (by omega)
    have rf2 := (hE.res).2.2.2 2 (by omega)
    have rc3 := (hE.res).2.2.1 3 (by omega)
    have rf3 := (hE.res).2.2.2 3 (by omega)
    have rc4 := (hE.res).2.2.1 4 (by omega)
    have rf4 := (hE.res).2.2.2 4 (by omega)
    have rc5 := (hE.res).2.2.1 5 (by omega)
    have rf5 := (hE.res).2.2.2 5 (by omega)
    have rc6 := (hE.res).2.2.1 6 (by omega)
    have rf6 := (hE.res).2.2.2 6 (by omega)
    have rc7 := (hE.res).2.2.1 7 (by omega)
    have rf7 := (hE.res).2.2.2 7 (by omega)
    have rc8 := (hE.res).2.2.1 8 (by omega)
    have rf8 := (hE.res).2.2.2 8 (by omega)
    have rc9 := (hE.res).2.2.1 9 (by omega)
    have rf9 := (hE.res).2.2.2 9 (by omega)
    have rc10 := (hE.res).2.2.1 10 (by omega)
    have rf10 := (hE.res).2.2.2 10 (by omega)
    have rc11 := (hE.res).2.2.1 11 (by omega)
    have rf11 := (hE.res).2.2.2 11 (by omega)
    go_wp2_with fail
    exact bodyPost_ret (v := bodyW Vx) (by simp [results, Try.results19, go_sem, *]) rfl ⟨Vx, rfl, hE.bf, RB.mk ((((((((((((hE.but.setNew (by simp) _).setNew (by simp) _).setNew (by simp) _).setNew (by simp) _).setNew (by simp) _).setNew (by simp) _).setNew (by simp) _).setNew (by simp) _).setNew (by simp) _).setNew (by simp) _).setNew (by simp) _).setNew (by simp) _) (((((((((((((hE.rs.mono (by omega)).setNew (by simp; omega) _).setNew (by simp; omega) _).setNew (by simp; omega) _).setNew (by simp; omega) _).setNew (by simp; omega) _).setNew (by simp; omega) _).setNew (by simp; omega) _).setNew (by simp; omega) _).setNew (by simp; omega) _).setNew (by simp; omega) _).setNew (by simp; omega) _).setNew (by simp; omega) _)⟩
  · clear kc0 kf0 kc1 kf1 kc2 kf2 kc3 kf3 kc4 kf4 kc5 kf5 kc6 kf6 kc7 kf7 kc8 kf8 kc9 kf9 kc10 kf10 kc11 kf11
    clear mc0 mf0 mc1 mf1 mc2 mf2 mc3 mf3 mc4 mf4 mc5 mf5 mc6 mf6 mc7 mf7 mc8 mf8 mc9 mf9 mc10 mf10 mc11 mf11
    have hE := (hD8.set hlt 8 (by omega) v8 ⟨by omega, by omega⟩)
    generalize (w8.setCell ⟨ab, 8, none⟩ (.int .i64 v8)) = wx at hE ⊢
    obtain ⟨Vx, hE⟩ : ∃ Vx, DA w wx rb (p + 3000) ab Vx := ⟨_, hE⟩
    have h0 := hE
    have ec0 := (hE.bod).2.2.1 0 (by omega)
    have ef0 := (hE.bod).2.2.2 0 (by omega)
    have ec1 := (hE.bod).2.2.1 1 (by omega)
    have ef1 := (hE.bod).2.2.2 1 (by omega)
    have ec2 := (hE.bod).2.2.1 2 (by omega)
    have ef2 := (hE.bod).2.2.2 2 (by omega)
    have ec3 := (hE.bod).2.2.1 3 (by omega)
    have ef3 := (hE.bod).2.2.2 3 (by omega)
    have ec4 := (hE.bod).2.2.1 4 (by omega)
    have ef4 := (hE.bod).2.2.2 4 (by omega)
    have ec5 := (hE.bod).2.2.1 5 (by omega)
    have ef5 := (hE.bod).2.2.2 5 (by omega)
    have ec6 := (hE.bod).2.2.1 6 (by omega)
    have ef6 := (hE.bod).2.2.2 6 (by omega)
    have ec7 := (hE.bod).2.2.1 7 (by omega)
    have ef7 := (hE.bod).2.2.2 7 (by omega)
    have ec8 := (hE.bod).2.2.1 8 (by omega)
    have ef8 := (hE.bod).2.2.2 8 (by omega)
    have ec9 := (hE.bod).2.2.1 9 (by omega)
    have ef9 := (hE.bod).2.2.2 9 (by omega)
    have ec10 := (hE.bod).2.2.1 10 (by omega)
    have ef10 := (hE.bod).2.2.2 10 (by omega)
    have ec11 := (hE.bod).2.2.1 11 (by omega)
    have ef11 := (hE.bod).2.2.2 11 (by omega)
    have rc0 := (hE.res).2.2.1 0 (by omega)
    have rf0 := (hE.res).2.2.2 0 (by omega)
    have rc1 := (hE.res).2.2.1 1 (by omega)
    have rf1 := (hE.res).2.2.2 1 (by omega)
    have rc2 := (hE.res).2.2.1 2 (by omega)
    have rf2 := (hE.res).2.2.2 2 (by omega)
    have rc3 := (hE.res).2.2.1 3 (by omega)
    have rf3 := (hE.res).2.2.2 3 (by omega)
    have rc4 := (hE.res).2.2.1 4 (by omega)
    have rf4 := (hE.res).2.2.2 4 (by omega)
    have rc5 := (hE.res).2.2.1 5 (by omega)
    have rf5 := (hE.res).2.2.2 5 (by omega)
    have rc6 := (hE.res).2.2.1 6 (by omega)
    have rf6 := (hE.res).2.2.2 6 (by omega)
    have rc7 := (hE.res).2.2.1 7 (by omega)
    have rf7 := (hE.res).2.2.2 7 (by omega)
    have rc8 := (hE.res).2.2.1 8 (by omega)
    have rf8 := (hE.res).2.2.2 8 (by omega)
    have rc9 := (hE.res).2.2.1 9 (by omega)
    have rf9 := (hE.res).2.2.2 9 (by omega)
    have rc10 := (hE.res).2.2.1 10 (by omega)
    have rf10 := (hE.res).2.2.2 10 (by omega)
    have rc11 := (hE.res).2.2.1 11 (by omega)
    have rf11 := (hE.res).2.2.2 11 (by omega)
    go_wp2_with fail
    exact bodyPost_ret (v := bodyW Vx) (by simp [results, Try.results19, go_sem, *]) rfl ⟨Vx, rfl, hE.bf, RB.mk ((((((((((((hE.but.setNew (by simp) _).setNew (by simp) _).setNew (by simp) _).setNew (by simp) _).setNew (by simp) _).setNew (by simp) _).setNew (by simp) _).setNew (by simp) _).setNew (by simp) _).setNew (by simp) _).setNew (by simp) _).setNew (by simp) _) (((((((((((((hE.rs.mono (by omega)).setNew (by simp; omega) _).setNew (by simp; omega) _).setNew (by simp; omega) _).setNew (by simp; omega) _).setNew (by simp; omega) _).setNew (by simp; omega) _).setNew (by simp; omega) _).setNew (by simp; omega) _).setNew (by simp; omega) _).setNew (by simp; omega) _).setNew (by simp; omega) _).setNew (by simp; omega) _)⟩
  · clear kc0 kf0 kc1 kf1 kc2 kf2 kc3 kf3 kc4 kf4 kc5 kf5 kc6 kf6 kc7 kf7 kc8 kf8 kc9 kf9 kc10 kf10 kc11 kf11
    clear mc0 mf0 mc1 mf1 mc2 mf2 mc3 mf3 mc4 mf4 mc5 mf5 mc6 mf6 mc7 mf7 mc8 mf8 mc9 mf9 mc10 mf10 mc11 mf11
    have hE := (hD8.set hlt 9 (by omega) v8 ⟨by omega, by omega⟩)
    generalize (w8.setCell ⟨ab, 9, none⟩ (.int .i64 v8)) = wx at hE ⊢
    obtain ⟨Vx, hE⟩ : ∃ Vx, DA w wx rb (p + 3000) ab Vx := ⟨_, hE⟩
    have h0 := hE
    have ec0 := (hE.bod).2.2.1 0 (by omega)
    have ef0 := (hE.bod).2.2.2 0 (by omega)
    have ec1 := (hE.bod).2.2.1 1 (by omega)
    have ef1 := (hE.bod).2.2.2 1 (by omega)
    have ec2 := (hE.bod).2.2.1 2 (by omega)
    have ef2 := (hE.bod).2.2.2 2 (by omega)
    have ec3 := (hE.bod).2.2.1 3 (by omega)
    have ef3 := (hE.bod).2.2.2 3 (by omega)
    have ec4 := (hE.bod).2.2.1 4 (by omega)
    have ef4 := (hE.bod).2.2.2 4 (by omega)
    have ec5 := (hE.bod).2.2.1 5 (by omega)
    have ef5 := (hE.bod).2.2.2 5 (by omega)
    have ec6 := (hE.bod).2.2.1 6 (by omega)
    have ef6 := (hE.bod).2.2.2 6 (by omega)
    have ec7 := (hE.bod).2.2.1 7 (by omega)
    have ef7 := (hE.bod).2.2.2 7 (by omega)
    have ec8 := (hE.bod).2.2.1 8 (by omega)
    have ef8 := (hE.bod).2.2.2 8 (by omega)
    have ec9 := (hE.bod).2.2.1 9 (by omega)
    have ef9 := (hE.bod).2.2.2 9 (by omega)
    have ec10 := (hE.bod).2.2.1 10 (by omega)
    have ef10 := (hE.bod).2.2.2 10 (by omega)
    have ec11 := (hE.bod).2.2.1 11 (by omega)
    have ef11 := (hE.bod).2.2.2 11 (by omega)
    have rc0 := (hE.res).2.2.1 0 (by omega)
    have rf0 := (hE.res).2.2.2 0 (by omega)
    have rc1 := (hE.res).2.2.1 1 (by omega)
    have rf1 := (hE.res).2.2.2 1 (by omega)
    have rc2 := (hE.res).2.2.1 2 (by omega)
    have rf2 := (hE.res).2.2.2 2 (by omega)
    have rc3 := (hE.res).2.2.1 3 (by omega)
    have rf3 := (hE.res).2.2.2 3 (by omega)
    have rc4 := (hE.res).2.2.1 4 (by omega)
    have rf4 := (hE.res).2.2.2 4 (by omega)
    have rc5 := (hE.res).2.2.1 5 (by omega)
    have rf5 := (hE.res).2.2.2 5 (by omega)
    have rc6 := (hE.res).2.2.1 6 (by omega)
    have rf6 := (hE.res).2.2.2 6 (by omega)
    have rc7 := (hE.res).2.2.1 7 (by omega)
    have rf7 := (hE.res).2.2.2 7 (by omega)
    have rc8 := (hE.res).2.2.1 8 (by omega)
    have rf8 := (hE.res).2.2.2 8 (by omega)
    have rc9 := (hE.res).2.2.1 9 (by omega)
    have rf9 := (hE.res).2.2.2 9 (by omega)
    have rc10 := (hE.res).2.2.1 10 (by omega)
    have rf10 := (hE.res).2.2.2 10 (by omega)
    have rc11 := (hE.res).2.2.1 11 (by omega)
    have rf11 := (hE.res).2.2.2 11 (by omega)
    go_wp2_with fail
    exact bodyPost_ret (v := bodyW Vx) (by simp [results, Try.results19, go_sem, *]) rfl ⟨Vx, rfl, hE.bf, RB.mk ((((((((((((hE.but.setNew (by simp) _).setNew (by simp) _).setNew (by simp) _).setNew (by simp) _).setNew (by simp) _).setNew (by simp) _).setNew (by simp) _).setNew (by simp) _).setNew (by simp) _).setNew (by simp) _).setNew (by simp) _).setNew (by simp) _) (((((((((((((hE.rs.mono (by omega)).setNew (by simp; omega) _).setNew (by simp; omega) _).setNew (by simp; omega) _).setNew (by simp; omega) _).setNew (by simp; omega) _).setNew (by simp; omega) _).setNew (by simp; omega) _).setNew (by simp; omega) _).setNew (by simp; omega) _).setNew (by simp; omega) _).setNew (by simp; omega) _).setNew (by simp; omega) _)⟩
  · clear kc0 kf0 kc1 kf1 kc2 kf2 kc3 kf3 kc4 kf4 kc5 kf5 kc6 kf6 kc7 kf7 kc8 kf8 kc9 kf9 kc10 kf10 kc11 kf11
    clear mc0 mf0 mc1 mf1 mc2 mf2 mc3 mf3 mc4 mf4 mc5 mf5 mc6 mf6 mc7 mf7 mc8 mf8 mc9 mf9 mc10 mf10 mc11 mf11
    have hE := (hD8.set hlt 11 (by omega) v8 ⟨by omega, by omega⟩)
    generalize (w8.setCell ⟨ab, 11, none⟩ (.int .i64 v8)) = wx at hE ⊢
    obtain ⟨Vx, hE⟩ : ∃ Vx, DA w wx rb (p + 3000) ab Vx := ⟨_, hE⟩
    have h0 := hE
    have ec0 := (hE.bod).2.2.1 0 (by omega)
    have ef0 := (hE.bod).2.2.2 0 (by omega)
    have ec1 := (hE.bod).2.2.1 1 (by omega)
    have ef1 := (hE.bod).2.2.2 1 (by omega)
    have ec2 := (hE.bod).2.2.1 2 (by omega)
    have ef2 := (hE.bod).2.2.2 2 (by omega)
    have ec3 := (hE.bod).2.2.1 3 (by omega)
    have ef3 := (hE.bod).2.2.2 3 (by omega)
    have ec4 := (hE.bod).2.2.1 4 (by omega)
    have ef4 := (hE.bod).2.2.2 4 (by omega)
    have ec5 := (hE.bod).2.2.1 5 (by omega)
    have ef5 := (hE.bod).2.2.2 5 (by omega)
    have ec6 := (hE.bod).2.2.1 6 (by omega)
    have ef6 := (hE.bod).2.2.2 6 (by omega)
    have ec7 := (hE.bod).2.2.1 7 (by omega)
    have ef7 := (hE.bod).2.2.2 7 (by omega)
    have ec8 := (hE.bod).2.2.1 8 (by omega)
    have ef8 := (hE.bod).2.2.2 8 (by omega)
    have ec9 := (hE.bod).2.2.1 9 (by omega)
    have ef9 := (hE.bod).2.2.2 9 (by omega)
    have ec10 := (hE.bod).2.2.1 10 (by omega)
    have ef10 := (hE.bod).2.2.2 10 (by omega)
    have ec11 := (hE.bod).2.2.1 11 (by omega)
    have ef11 := (hE.bod).2.2.2 11 (by omega)
    have rc0 := (hE.res).2.2.1 0 (by omega)
    have rf0 := (hE.res).2.2.2 0 (by omega)
    have rc1 := (hE.res).2.2.1 1 (by omega)
    have rf1 := (hE.res).2.2.2 1 (by omega)
    have rc2 := (hE.res).2.2.1 2 (by omega)
    have rf2 := (hE.res).2.2.2 2 (by omega)
    have rc3 := (hE.res).2.2.1 3 (by omega)
    have rf3 := (hE.res).2.2.2 3 (by omega)
    have rc4 := (hE.res).2.2.1 4 (by omega)
    have rf4 := (hE.res).2.2.2 4 (by omega)
    have rc5 := (hE.res).2.2.1 5 (by omega)
    have rf5 := (hE.res).2.2.2 5 (by omega)
    have rc6 := (hE.res).2.2.1 6 (by omega)
    have rf6 := (hE.res).2.2.2 6 (by omega)
    have rc7 := (hE.res).2.2.1 7 (by omega)
    have rf7 := (hE.res).2.2.2 7 (by omega)
    have rc8 := (hE.res).2.2.1 8 (by omega)
    have rf8 := (hE.res).2.2.2 8 (by omega)
    have rc9 := (hE.res).2.2.1 9 (by omega)
    have rf9 := (hE.res).2.2.2 9 (by omega)
    have rc10 := (hE.res).2.2.1 10 (by omega)
    have rf10 := (hE.res).2.2.2 10 (by omega)
    have rc11 := (hE.res).2.2.1 11 (by omega)
    have rf11 := (hE.res).2.2.2 11 (by omega)
    go_wp2_with fail
    exact bodyPost_ret (v := bodyW Vx) (by simp [results, Try.results19, go_sem, *]) rfl ⟨Vx, rfl, hE.bf, RB.mk ((((((((((((hE.but.setNew (by simp) _).setNew (by simp) _).setNew (by simp) _).setNew (by simp) _).setNew (by simp) _).setNew (by simp) _).setNew (by simp) _).setNew (by simp) _).setNew (by simp) _).setNew (by simp) _).setNew (by simp) _).setNew (by simp) _) (((((((((((((hE.rs.mono (by omega)).setNew (by simp; omega) _).setNew (by simp; omega) _).setNew (by simp; omega) _).setNew (by simp; omega) _).setNew (by simp; omega) _).setNew (by simp; omega) _).setNew (by simp; omega) _).setNew (by simp; omega) _).setNew (by simp; omega) _).setNew (by simp; omega) _).setNew (by simp; omega) _).setNew (by simp; omega) _)⟩
  · clear kc0 kf0 kc1 kf1 kc2 kf2 kc3 kf3 kc4 kf4 kc5 kf5 kc6 kf6 kc7 kf7 kc8 kf8 kc9 kf9 kc10 kf10 kc11 kf11
    clear mc0 mf0 mc1 mf1 mc2 mf2 mc3 mf3 mc4 mf4 mc5 mf5 mc6 mf6 mc7 mf7 mc8 mf8 mc9 mf9 mc10 mf10 mc11 mf11
    have hE := (hD8.set hlt 10 (by omega) v8 ⟨by omega, by omega⟩)
    generalize (w8.setCell ⟨ab, 10, none⟩ (.int .i64 v8)) = wx at hE ⊢
    obtain ⟨Vx, hE⟩ : ∃ Vx, DA w wx rb (p + 3000) ab Vx := ⟨_, hE⟩
    have h0 := hE
    have ec0 := (hE.bod).2.2.1 0 (by omega)
    have ef0 := (hE.bod).2.2.2 0 (by omega)
    have ec1 := (hE.bod).2.2.1 1 (by omega)
    have ef1 := (hE.bod).2.2.2 1 (by omega)
    have ec2 := (hE.bod).2.2.1 2 (by omega)
    have ef2 := (hE.bod).2.2.2 2 (by omega)
    have ec3 := (hE.bod).2.2.1 3 (by omega)
    have ef3 := (hE.bod).2.2.2 3 (by omega)
    have ec4 := (hE.bod).2.2.1 4 (by omega)
    have ef4 := (hE.bod).2.2.2 4 (by omega)
    have ec5 := (hE.bod).2.2.1 5 (by omega)
    have ef5 := (hE.bod).2.2.2 5 (by omega)
    have ec6 := (hE.bod).2.2.1 6 (by omega)
    have ef6 := (hE.bod).2.2.2 6 (by omega)
    have ec7 := (hE.bod).2.2.1 7 (by omega)
    have ef7 := (hE.bod).2.2.2 7 (by omega)
    have ec8 := (hE.bod).2.2.1 8 (by omega)
    have ef8 := (hE.bod).2.2.2 8 (by omega)
    have ec9 := (hE.bod).2.2.1 9 (by omega)
    have ef9 := (hE.bod).2.2.2 9 (by omega)
    have ec10 := (hE.bod).2.2.1 10 (by omega)
    have ef10 := (hE.bod).2.2.2 10 (by omega)
    have ec11 := (hE.bod).2.2.1 11 (by omega)
    have ef11 := (hE.bod).2.2.2 11 (by omega)
    have rc0 := (hE.res).2.2.1 0 (by omega)
    have rf0 := (hE.res).2.2.2 0 (by omega)
    have rc1 := (hE.res).2.2.1 1 (by omega)
    have rf1 := (hE.res).2.2.2 1 (by omega)
    have rc2 := (hE.res).2.2.1 2 (by omega)
    have rf2 := (hE.res).2.2.2 2 (by omega)
    have rc3 := (hE.res).2.2.1 3 (by omega)
    have rf3 := (hE.res).2.2.2 3 (by omega)
    have rc4 := (hE.res).2.2.1 4 (by omega)
    have rf4 := (hE.res).2.2.2 4 (by omega)
    have rc5 := (hE.res).2.2.1 5 (by omega)
    have rf5 := (hE.res).2.2.2 5 (by omega)
    have rc6 := (hE.res).2.2.1 6 (by omega)
    have rf6 := (hE.res).2.2.2 6 (by omega)
    have rc7 := (hE.res).2.2.1 7 (by omega)
    have rf7 := (hE.res).2.2.2 7 (by omega)
    have rc8 := (hE.res).2.2.1 8 (by omega)
    have rf8 := (hE.res).2.2.2 8 (by omega)
    have rc9 := (hE.res).2.2.1 9 (by omega)
    have rf9 := (hE.res).2.2.2 9 (by omega)
    have rc10 := (hE.res).2.2.1 10 (by omega)
    have rf10 := (hE.res).2.2.2 10 (by omega)
    have rc11 := (hE.res).2.2.1 11 (by omega)
    have rf11 := (hE.res).2.2.2 11 (by omega)
    go_wp2_with fail
    exact bodyPost_ret (v := bodyW Vx) (by simp [results, Try.results19, go_sem, *]) rfl ⟨Vx, rfl, hE.bf, RB.mk ((((((((((((hE.but.setNew (by simp) _).setNew (by simp) _).setNew (by simp) _).setNew (by simp) _).setNew (by simp) _).setNew (by simp) _).setNew (by simp) _).setNew (by simp) _).setNew (by simp) _).setNew (by simp) _).setNew (by simp) _).setNew (by simp) _) (((((((((((((hE.rs.mono (by omega)).setNew (by simp; omega) _).setNew (by simp; omega) _).setNew (by simp; omega) _).setNew (by simp; omega) _).setNew (by simp; omega) _).setNew (by simp; omega) _).setNew (by simp; omega) _).setNew (by simp; omega) _).setNew (by simp; omega) _).setNew (by simp; omega) _).setNew (by simp; omega) _).setNew (by simp; omega) _)⟩
  · clear kc0 kf0 kc1 kf1 kc2 kf2 kc3 kf3 kc4 kf4 kc5 kf5 kc6 kf6 kc7 kf7 kc8 kf8 kc9 kf9 kc10 kf10 kc11 kf11
    have hE := hD7
    obtain ⟨Vx, hE⟩ : ∃ Vx, DA w wc rb (p + 3000) ab Vx := ⟨_, hE⟩
    have h0 := hE
    have ec0 := (hE.bod).2.2.1 0 (by omega)
    have ef0 := (hE.bod).2.2.2 0 (by omega)
    have ec1 := (hE.bod).2.2.1 1 (by omega)
    have ef1 := (hE.bod).2.2.2 1 (by omega)
    have ec2 := (hE.bod).2.2.1 2 (by omega)
    have ef2 := (hE.bod).2.2.2 2 (by omega)
    have ec3 := (hE.bod).2.2.1 3 (by omega)
    have ef3 := (hE.bod).2.2.2 3 (by omega)
    have ec4 := (hE.bod).2.2.1 4 (by omega)
    have ef4 := (hE.bod).2.2.2 4 (by omega)
    have ec5 := (hE.bod).2.2.1 5 (by omega)
    have ef5 := (hE.bod).2.2.2 5 (by omega)
    have ec6 := (hE.bod).2.2.1 6 (by omega)
    have ef6 := (hE.bod).2.2.2 6 (by omega)
    have ec7 := (hE.bod).2.2.1 7 (by omega)
    have ef7 := (hE.bod).2.2.2 7 (by omega)
    have ec8 := (hE.bod).2.2.1 8 (by omega)
    have ef8 := (hE.bod).2.2.2 8 (by omega)
    have ec9 := (hE.bod).2.2.1 9 (by omega)
    have ef9 := (hE.bod).2.2.2 9 (by omega)
    have ec10 := (hE.bod).2.2.1 10 (by omega)
    have ef10 := (hE.bod).2.2.2 10 (by omega)
    have ec11 := (hE.bod).2.2.1 11 (by omega)
    have ef11 := (hE.bod).2.2.2 11 (by omega)
    have rc0 := (hE.res).2.2.1 0 (by omega)
    have rf0 := (hE.res).2.2.2 0 (by omega)
    have rc1 := (hE.res).2.2.1 1 (by omega)
    have rf1 := (hE.res).2.2.2 1 (by omega)
    have rc2 := (hE.res).2.2.1 2 (by omega)
    have rf2 := (hE.res).2.2.2 2 (by omega)
    have rc3 := (hE.res).2.2.1 3 (by omega)
    have rf3 := (hE.res).2.2.2 3 (by omega)
    have rc4 := (hE.res).2.2.1 4 (by omega)
    have rf4 := (hE.res).2.2.2 4 (by omega)
    have rc5 := (hE.res).2.2.1 5 (by omega)
    have rf5 := (hE.res).2.2.2 5 (by omega)
    have rc6 := (hE.res).2.2.1 6 (by omega)
    have rf6 := (hE.res).2.2.2 6 (by omega)
    have rc7 := (hE.res).2.2.1 7 (by omega)
    have rf7 := (hE.res).2.2.2 7 (by omega)
    have rc8 := (hE.res).2.2.1 8 (by omega)
    have rf8 := (hE.res).2.2.2 8 (by omega)
    have rc9 := (hE.res).2.2.1 9 (by omega)
    have rf9 := (hE.res).2.2.2 9 (by omega)
    have rc10 := (hE.res).2.2.1 10 (by omega)
    have rf10 := (hE.res).2.2.2 10 (by omega)
    have rc11 := (hE.res).2.2.1 11 (by omega)
    have rf11 := (hE.res).2.2.2 11 (by omega)
    go_wp2_with fail
    exact bodyPost_ret (v := bodyW Vx) (by simp [results, Try.results19, go_sem, *]) rfl ⟨Vx, rfl, hE.bf, RB.mk ((((((((((((hE.but.setNew (by simp) _).setNew (by simp) _).setNew (by simp) _).setNew (by simp) _).setNew (by simp) _).setNew (by simp) _).setNew (by simp) _).setNew (by simp) _).setNew (by simp) _).setNew (by simp) _).setNew (by simp) _).setNew (by simp) _) (((((((((((((hE.rs.mono (by omega)).setNew (by simp; omega) _).setNew (by simp; omega) _).setNew (by simp; omega) _).setNew (by simp; omega) _).setNew (by simp; omega) _).setNew (by simp; omega) _).setNew (by simp; omega) _).setNew (by simp; omega) _).setNew (by simp; omega) _).setNew (by simp; omega) _).setNew (by simp; omega) _).setNew (by simp; omega) _)⟩
end Go.Proofs.Ytpoichpdkkejjaa
namespace Go.Proofs.Ytpoichpdkkejjaa
open Go.RowKit
set_option linter.unusedVariables false
set_option linter.unusedSimpArgs false
/-- numbers of a list that was drawn -/
def LN (n : Nat) (U : Nat → Int) : Prop := n ≤ 13 ∧ ∀ k, k < n → BN (fun j => U (k * 12 + j))
theorem LN.of {n : Nat} {U : Nat → Int} (h : Bods n U) : LN n U := ⟨by have := h.le; omega, fun k hk => bn_of (h.ok k hk)⟩
theorem LN.put {n : Nat} {U V : Nat → Int} {j : Nat} (h : LN n U) (hV : BN V) : LN n (putRow U j V) := by
  refine ⟨h.1, fun k hk i hi => ?_⟩
  unfold putRow
  by_cases e : j * 12 ≤ k * 12 + i ∧ k * 12 + i < j * 12 + 12
  · have : j = k := by omega
    subst this
    simp only [e, and_self, if_true, Nat.add_sub_cancel_left]
    exact hV i hi
  · simp only [e, if_false]; exact h.2 k hk i hi
theorem LN.push {n : Nat} {U V : Nat → Int} (h : LN n U) (hn : n ≤ 12) (hV : BN V) : LN (n + 1) (cat (n * 12) U V) := by
  refine ⟨by omega, fun k hk i hi => ?_⟩
  unfold cat
  by_cases e : k = n
  · subst e
    simp only [show ¬ k * 12 + i < k * 12 by omega, if_false, Nat.add_sub_cancel_left]
    exact hV i hi
  · simp only [show k * 12 + i < n * 12 by omega, if_true]
    exact h.2 k (by omega) i hi
theorem Dg.row {w wr : World} {rb p n g c : Nat} {U : Nat → Int} (h : Dg w wr rb p (.slice (some ⟨g, 0, none⟩) n c) n U []) {w' : World} {U' : Nat → Int} (hs : Fr (fun b => b = g) wr w') (hq : OwnL w' w.heap.size 32 12 (.slice (some ⟨g, 0, none⟩) n c) n U') : Dg w w' rb p (.slice (some ⟨g, 0, none⟩) n c) n U' [] := by
  have hg := (h.own.lt g rfl).1
  have hsz := h.bl.but.size
  have hB : Below w.heap.size wr w' := hs.below hsz (fun k e => by omega)
  exact ⟨⟨h.bl.rs.upto hB h.bl.lo, ⟨hB.os.trans h.bl.but.os, hB.tape.trans h.bl.but.tape, hB.output.trans h.bl.but.output, Nat.le_trans hsz hB.size, fun k hk hn => (hB.block k hk).trans (h.bl.but.block k hk hn)⟩, h.bl.lo, fun x hx => by cases hx⟩, hq, fun x hx => by cases hx⟩
set_option maxRecDepth 20000 in
set_option maxHeartbeats 8000000 in
theorem l11AnyBodies_k (rb p : Nat) (w : World) (hs0 : RS w rb p) (hp : p ≤ 500000) :
    Calls Try.prog 9 #[.pointer (some ⟨rb, 0, none⟩)] w fun e w' => ∃ (a : Option Addr) (n c : Nat) (U : Nat → Int), e = .returned (.slice a n c) ∧ LN n U ∧ Dg w w' rb (p + 40000) (.slice a n c) n U [] := by
  have hlt := hs0.lt
  have hset := cset_map
  go_enter Try.func9, Try.ntmps9
  go_upto_region 1 with fail
  go_cut [3] (fun s3 wc => ∃ (a : Option Addr) (n c : Nat) (U : Nat → Int), s3 = (.slice a n c) ∧ Bods n U ∧ Dg w wc rb (p + 30000) (.slice a n c) n U [])
  case first =>
    go_wp2_with (go_at_call 17; refine (l11Bodies_k rb p _ hs0 (by omega)).mono ?_; rintro e w1 ⟨a, n, c, U, rfl, hB, hD⟩)
    go_meet
    exact ⟨a, n, c, U, rfl, hB, hD⟩
  case rest =>
  obtain ⟨a, n, c, U, rfl, hB, hD⟩ := hcut
  have hn12 := hB.le
  have hL := LN.of hB
  by_cases hn0 : n = 0
  · have e1 : ((n : Int) == 0) = true := by simp [hn0]
    clear hn0
    go_wp2_with fail
    go_ret
    first | exact ⟨_, _, _, _, rfl, hL, hD.mono (by omega)⟩ | exact ⟨_, _, _, rfl, _, hL, hD.mono (by omega)⟩
  · have e1 : ((n : Int) == 0) = false := by simp [hn0]
    have hn1 : (1 : Int) ≤ (n : Int) := by omega
    have hn1' : 0 < n := by omega
    go_upto_region 4 with fail
    go_cut [4] (fun s4 wc => ∃ k : Nat, s4 = .int .i64 (k : Int) ∧ k < n ∧ Dg w wc rb (p + 30001) (.slice a n c) n U [])
    case first =>
      go_wp2_with (go_at_call 18; refine (pick_s rb (p + 30000) _ _ (by exact hD.bl.rs) (by omega) (by omega) (by omega)).mono ?_; rintro e w2 ⟨v2, rfl, va2, vb2, hr2⟩)
      go_meet
      exact ⟨v2.toNat, by rw [Int.toNat_of_nonneg va2], by omega, hD.call hr2⟩
    case rest =>
    clear hD
    obtain ⟨k, rfl, hk, hD⟩ := hcut
    go_upto_region 5 with fail
    go_cut [16] (fun s16 wc => ∃ v : Int, s16 = .int .i64 v ∧ Dg w wc rb (p + 30002) (.slice a n c) n U [])
    case first =>
      go_wp2_with (go_at_call 18; refine (pick_s rb (p + 30001) _ _ (by exact hD.bl.rs) (by omega) (by omega) (by omega)).mono ?_; rintro e w3 ⟨v3, rfl, va3, vb3, hr3⟩)
      go_meet
      exact ⟨_, rfl, hD.call hr3⟩
    case rest =>
    clear hD
    obtain ⟨v, rfl, hD⟩ := hcut
    obtain ⟨g, rfl, hg1, hg2⟩ := hD.own.loc hn1'
    have hki : (k : Int) < (n : Int) := by omega
    by_cases e0 : v = 0
    · have e2 : (v == 0) = true := by simp [e0]
      clear e0
      go_upto_region 10 with (go_at_call 19; refine (l11AnyBody_s rb (p + 30002) _ (by exact hD.bl.rs) (by omega)).mono ?_; rintro e w4 ⟨V, rfl, hV, hr4⟩; have hD4 := hD.call hr4; have umf := hD4.own.fro; (have um0 := hD4.own.cellq (q := k * 12) (by omega)); (have um1 := hD4.own.cellq (q := k * 12 + 1) (by omega)); (have um2 := hD4.own.cellq (q := k * 12 + 2) (by omega)); (have um3 := hD4.own.cellq (q := k * 12 + 3) (by omega)); (have um4 := hD4.own.cellq (q := k * 12 + 4) (by omega)); (have um5 := hD4.own.cellq (q := k * 12 + 5) (by omega)); (have um6 := hD4.own.cellq (q := k * 12 + 6) (by omega)); (have um7 := hD4.own.cellq (q := k * 12 + 7) (by omega)); (have um8 := hD4.own.cellq (q := k * 12 + 8) (by omega)); (have um9 := hD4.own.cellq (q := k * 12 + 9) (by omega)); (have um10 := hD4.own.cellq (q := k * 12 + 10) (by omega)); (have um11 := hD4.own.cellq (q := k * 12 + 11) (by omega)))
      have hq := put12 hD4.own hk V
      have hD5 := hD4.row (putFr (w4 := w4) (g := g) (p := k) V) hq
      clear umf um0 um1 um2 um3 um4 um5 um6 um7 um8 um9 um10 um11 hD hD4
      generalize ((((((((((((w4.setCell ⟨g, k * 12, none⟩ (.int .i64 (V 0))).setCell ⟨g, k * 12 + 1, none⟩ (.int .i64 (V 1))).setCell ⟨g, k * 12 + 2, none⟩ (.int .i64 (V 2))).setCell ⟨g, k * 12 + 3, none⟩ (.int .i64 (V 3))).setCell ⟨g, k * 12 + 4, none⟩ (.int .i64 (V 4))).setCell ⟨g, k * 12 + 5, none⟩ (.int .i64 (V 5))).setCell ⟨g, k * 12 + 6, none⟩ (.int .i64 (V 6))).setCell ⟨g, k * 12 + 7, none⟩ (.int .i64 (V 7))).setCell ⟨g, k * 12 + 8, none⟩ (.int .i64 (V 8))).setCell ⟨g, k * 12 + 9, none⟩ (.int .i64 (V 9))).setCell ⟨g, k * 12 + 10, none⟩ (.int .i64 (V 10))).setCell ⟨g, k * 12 + 11, none⟩ (.int .i64 (V 11))) = w9 at hD5 ⊢
      go_wp2_with fail
      go_ret
      first | exact ⟨_, _, _, _, rfl, hL.put hV, hD5.mono (by omega)⟩ | exact ⟨_, _, _, rfl, _, hL.put hV, hD5.mono (by omega)⟩
    · have e2 : (v == 0) = false := by simp [e0]
      by_cases e3 : v = 1
      · have e4 : (v == 1) = true := by simp [e3]
        clear e0 e3
        have hV : BN (fun i => U i) := fun j hj => by have := hL.2 0 hn1' j hj; simpa using this
        have u0 : wc.cell? ⟨g, 0, none⟩ = some (.int .i64 (U 0)) := by have := hD.own.cellq (q := 0) (by omega); exact this
        have u1 : wc.cell? ⟨g, 1, none⟩ = some (.int .i64 (U 1)) := by have := hD.own.cellq (q := 1) (by omega); exact this
        have u2 : wc.cell? ⟨g, 2, none⟩ = some (.int .i64 (U 2)) := by have := hD.own.cellq (q := 2) (by omega); exact this
        have u3 : wc.cell? ⟨g, 3, none⟩ = some (.int .i64 (U 3)) := by have := hD.own.cellq (q := 3) (by omega); exact this
        have u4 : wc.cell? ⟨g, 4, none⟩ = some (.int .i64 (U 4)) := by have := hD.own.cellq (q := 4) (by omega); exact this
        have u5 : wc.cell? ⟨g, 5, none⟩ = some (.int .i64 (U 5)) := by have := hD.own.cellq (q := 5) (by omega); exact this
        have u6 : wc.cell? ⟨g, 6, none⟩ = some (.int .i64 (U 6)) := by have := hD.own.cellq (q := 6) (by omega); exact this
        have u7 : wc.cell? ⟨g, 7, none⟩ = some (.int .i64 (U 7)) := by have := hD.own.cellq (q := 7) (by omega); exact this
        have u8 : wc.cell? ⟨g, 8, none⟩ = some (.int .i64 (U 8)) := by have := hD.own.cellq (q := 8) (by omega); exact this
        have u9 : wc.cell? ⟨g, 9, none⟩ = some (.int .i64 (U 9)) := by have := hD.own.cellq (q := 9) (by omega); exact this
        have u10 : wc.cell? ⟨g, 10, none⟩ = some (.int .i64 (U 10)) := by have := hD.own.cellq (q := 10) (by omega); exact this
        have u11 : wc.cell? ⟨g, 11, none⟩ = some (.int .i64 (U 11)) := by have := hD.own.cellq (q := 11) (by omega); exact this
        have hF : Flat (wc.alloc (Obj.cells #[.int .i64 (U 0), .int .i64 (U 1), .int .i64 (U 2), .int .i64 (U 3), .int .i64 (U 4), .int .i64 (U 5), .int .i64 (U 6), .int .i64 (U 7), .int .i64 (U 8), .int .i64 (U 9), .int .i64 (U 10), .int .i64 (U 11)] 32)) (some ⟨wc.heap.size, 0, none⟩) (1 * 12) (fun i => U i) := by
          intro _
          refine ⟨wc.heap.size, 0, rfl, by simp, fun i hi => ?_⟩
          rw [Nat.zero_add]
          rcases (show i = 0 ∨ i = 1 ∨ i = 2 ∨ i = 3 ∨ i = 4 ∨ i = 5 ∨ i = 6 ∨ i = 7 ∨ i = 8 ∨ i = 9 ∨ i = 10 ∨ i = 11 by omega) with rfl | rfl | rfl | rfl | rfl | rfl | rfl | rfl | rfl | rfl | rfl | rfl <;> go_simp
        have hE : Below wc.heap.size wc (wc.alloc (Obj.cells #[.int .i64 (U 0), .int .i64 (U 1), .int .i64 (U 2), .int .i64 (U 3), .int .i64 (U 4), .int .i64 (U 5), .int .i64 (U 6), .int .i64 (U 7), .int .i64 (U 8), .int .i64 (U 9), .int .i64 (U 10), .int .i64 (U 11)] 32)) := balloc _ _
        have hDE := hD.calb hE
        have hsz5 := hDE.bl.but.size
        go_upto_region 10 with (refine wpList_app rfl _ _ _ rfl w.heap.size 32 12 96 zcBody Try.underlying23 infoItBody rfl (by decide) (.slice (some ⟨g, 0, none⟩) n c) n U rfl hDE.own (some ⟨wc.heap.size, 0, none⟩) 1 1 (fun i => U i) rfl hF (by unfold maxLen; omega) (by omega) hsz5 ?_; intro a5 c5 w5 ho5 hg5)
        have hD5 := hDE.grown hg5 ho5
        go_wp2_with fail
        go_ret
        first | exact ⟨_, _, _, _, rfl, hL.push hn12 hV, hD5.mono (by omega)⟩ | exact ⟨_, _, _, rfl, _, hL.push hn12 hV, hD5.mono (by omega)⟩
      · have e4 : (v == 1) = false := by simp [e3]
        clear e0 e3
        go_wp2_with fail
        go_ret
        first | exact ⟨_, _, _, _, rfl, hL, hD.mono (by omega)⟩ | exact ⟨_, _, _, rfl, _, hL, hD.mono (by omega)⟩
end Go.Proofs.Ytpoichpdkkejjaa
namespace Go.Proofs.Ytpoichpdkkejjaa
open Go.RowKit
set_option linter.unusedVariables false
set_option linter.unusedSimpArgs false

def sumD (U : Nat → Int) (j : Nat) : Nat → Int
  | 0 => 0
  | k + 1 => sumD U j k + U (k * 12 + j)
theorem allBB_at {U : Nat → Int} : ∀ {n k : Nat}, allBB U n = true → k < n → stepBB U k = true
  | 0, k, _, l => absurd l (Nat.not_lt_zero _)
  | n + 1, k, h, l => by
    unfold allBB at h
    rw [Bool.and_eq_true] at h
    rcases Nat.lt_succ_iff_lt_or_eq.1 l with l | rfl
    · exact allBB_at h.1 l
    · exact h.2
theorem bodsB_at {U : Nat → Int} {n k : Nat} (h : bodsB n U = true) (l : k < n) : bodyB (fun j => U (k * 12 + j)) = true := by
  unfold bodsB at h
  rw [Bool.and_eq_true] at h
  have := allBB_at h.2 l
  unfold stepBB at this
  rw [Bool.and_eq_true] at this
  exact this.1
theorem bodsB_le {U : Nat → Int} {n : Nat} (h : bodsB n U = true) : n ≤ 12 := by
  unfold bodsB at h
  rw [Bool.and_eq_true, decide_eq_true_eq] at h
  exact h.1
theorem drv_bd {U : Nat → Int} {n k : Nat} (h : bodsB n U = true) (l : k < n) : (-20000000 ≤ U (k * 12 + 6) ∧ U (k * 12 + 6) ≤ 20000000) ∧ (-20000000 ≤ U (k * 12 + 7) ∧ U (k * 12 + 7) ≤ 20000000) := by
  obtain ⟨_, _, _, _, q1, q2, _⟩ := bodyB_bd (bodsB_at h l)
  exact ⟨q1, q2⟩
theorem sumD_bd {U : Nat → Int} {n : Nat} (h : bodsB n U = true) : ∀ k, k ≤ n → (-(20000000 * (k : Int)) ≤ sumD U 6 k ∧ sumD U 6 k ≤ 20000000 * (k : Int)) ∧ (-(20000000 * (k : Int)) ≤ sumD U 7 k ∧ sumD U 7 k ≤ 20000000 * (k : Int))
  | 0, _ => by simp [sumD]
  | k + 1, hk => by
    obtain ⟨q1, q2⟩ := sumD_bd h k (by omega)
    obtain ⟨p1, p2⟩ := drv_bd h (k := k) (by omega)
    simp only [sumD]
    omega
/-- the sum of so many drives lies at ab -/
structure SumAt (w2 W : World) (ab : Nat) (x y : Int) : Prop where
  fr : Fr (fun b => b = ab) w2 W
  cx : W.cell? ⟨ab, 0, none⟩ = some (.int .i64 x)
  cy : W.cell? ⟨ab, 1, none⟩ = some (.int .i64 y)
  fx : W.frozen? ⟨ab, 0, none⟩ = false
  fy : W.frozen? ⟨ab, 1, none⟩ = false
theorem SumAt.sm {B ab : Nat} {w2 W W' : World} {x y : Int} (h : SumAt w2 W ab x y) (hs : Sm B W W') (hB : w2.heap.size ≤ B) : SumAt w2 W' ab x y :=
  ⟨⟨hs.below.os.trans h.fr.os, hs.below.tape.trans h.fr.tape, hs.below.output.trans h.fr.output, Nat.le_trans h.fr.size hs.size, fun k hk hn => (hs.below.block k (by omega)).trans (h.fr.block k hk hn), fun k o hk ho => (hs.below.block k (by have := (Array.getElem?_eq_some_iff.1 hk).1; omega)).trans (h.fr.kind k o hk ho)⟩,
    hs.cell h.cx, hs.cell h.cy, hs.frozen h.cx h.fx, hs.frozen h.cy h.fy⟩
theorem SumAt.below {ab : Nat} {w2 W W' : World} {x y : Int} (h : SumAt w2 W ab x y) (hs : Below W.heap.size W W') : SumAt w2 W' ab x y :=
  h.sm (Sm.of_below hs (Nat.le_refl _)) h.fr.size
theorem SumAt.set {ab : Nat} {w2 W : World} {x y : Int} (h : SumAt w2 W ab x y) (x' y' : Int) : SumAt w2 ((W.setCell ⟨ab, 0, none⟩ (.int .i64 x')).setCell ⟨ab, 1, none⟩ (.int .i64 y')) ab x' y' := by
  have hx := h.cx
  have hy := h.cy
  have fx := h.fx
  have fy := h.fy
  have hset := cset_map
  exact ⟨(h.fr.trans (Fr.setCell (X := fun b => b = ab) rfl _)).trans (Fr.setCell (X := fun b => b = ab) rfl _), by go_simp, by go_simp, by go_simp, by go_simp⟩

set_option maxRecDepth 20000 in
set_option maxHeartbeats 4000000 in
theorem drives_ok (a : Option Addr) (n c : Nat) (U : Nat → Int) (w : World) (h : Flat w a (n * 12) U) (hn : n ≤ 1048576) (hok : bodsB n U = true) :
    Calls Try.prog 5 #[.slice a n c] w fun e w' => e = .returned (vv (sumD U 6 n) (sumD U 7 n)) ∧ Below w.heap.size w w' := by
  have hset := cset_map
  have hn12 := bodsB_le hok
  refine calls_of_wp_marks Try.func5 rfl ?_
  simp only [Try.ntmps5, List.size_toArray, List.length_cons, List.length_nil, Nat.reduceAdd, Nat.reduceSub, Array.replicate_succ, Array.replicate_zero, List.push_toArray, List.append_toArray, List.nil_append, List.cons_append]
  go_wp2_with (go_at_call 11; refine (columnsOf_ok a n c U _ (h.below (by repeat (first | with_reducible apply Below.refl | (with_reducible apply Below.setCell; rotate_left; focus (first | omega | (simp; done) | (simp; omega))) | (with_reducible apply Below.alloc; rotate_left; focus (first | omega | (simp; done) | (simp; omega))) | with_reducible apply Below.drew | with_reducible apply belowDrewN | (with_reducible apply Below.trans; rotate_left; with_reducible apply Below.mono; with_reducible assumption; focus (first | omega | (simp; done) | (simp; omega)))))) hn hok).mono ?_; rintro e w1 ⟨cb, S, rfl, hcb, hC, hb1⟩)
  have hz1 := hb1.size
  simp only [World.size_alloc] at hz1 hcb
  have hcl1 := hC.lt
  have hw1 : Below w1.heap.size w1 (w1.alloc (Obj.cells #[.int .i64 0, .int .i64 0] 42)) := (Below.refl _ _).alloc (Nat.le_refl _) _
  have hB : Below w.heap.size w (w1.alloc (Obj.cells #[.int .i64 0, .int .i64 0] 42)) := (by repeat (first | with_reducible apply Below.refl | (with_reducible apply Below.setCell; rotate_left; focus (first | omega | (simp; done) | (simp; omega))) | (with_reducible apply Below.alloc; rotate_left; focus (first | omega | (simp; done) | (simp; omega))) | with_reducible apply Below.drew | with_reducible apply belowDrewN | (with_reducible apply Below.trans; rotate_left; with_reducible apply Below.mono; with_reducible assumption; focus (first | omega | (simp; done) | (simp; omega)))) : Below w.heap.size w w1).trans (hw1.mono (by omega))
  have hC2 := hC.below hw1
  have r2 : (w1.alloc (Obj.cells #[.int .i64 0, .int .i64 0] 42)).cell? ⟨w.heap.size, 0, none⟩ = some (.int .i64 0) := (hw1.cell (p := ⟨w.heap.size, 0, none⟩) (by simp; omega)).trans ((hb1.cell (p := ⟨w.heap.size, 0, none⟩) (by simp)).trans (by go_simp))
  have r3 : (w1.alloc (Obj.cells #[.int .i64 0, .int .i64 0] 42)).cell? ⟨w.heap.size, 1, none⟩ = some (.int .i64 0) := (hw1.cell (p := ⟨w.heap.size, 1, none⟩) (by simp; omega)).trans ((hb1.cell (p := ⟨w.heap.size, 1, none⟩) (by simp)).trans (by go_simp))
  have f2 : (w1.alloc (Obj.cells #[.int .i64 0, .int .i64 0] 42)).frozen? ⟨w.heap.size, 0, none⟩ = false := (hw1.frozen (p := ⟨w.heap.size, 0, none⟩) (by simp; omega)).trans ((hb1.frozen (p := ⟨w.heap.size, 0, none⟩) (by simp)).trans (by go_simp))
  have f3 : (w1.alloc (Obj.cells #[.int .i64 0, .int .i64 0] 42)).frozen? ⟨w.heap.size, 1, none⟩ = false := (hw1.frozen (p := ⟨w.heap.size, 1, none⟩) (by simp; omega)).trans ((hb1.frozen (p := ⟨w.heap.size, 1, none⟩) (by simp)).trans (by go_simp))
  have hA : SumAt (w1.alloc (Obj.cells #[.int .i64 0, .int .i64 0] 42)) (w1.alloc (Obj.cells #[.int .i64 0, .int .i64 0] 42)) w1.heap.size 0 0 := ⟨Fr.refl _ _, by go_simp, by go_simp, by go_simp, by go_simp⟩
  have hz2 : w1.heap.size < (w1.alloc (Obj.cells #[.int .i64 0, .int .i64 0] 42)).heap.size := by simp
  have hXl : ∀ b, Xc S b → b < w1.heap.size := fun b hb => (hC.xlt hb).2
  generalize (w1.alloc (Obj.cells #[.int .i64 0, .int .i64 0] 42)) = w2 at hB hC2 r2 r3 f2 f3 hA hz2 ⊢
  clear hw1 hC hb1
  have hcl := hC2.lt
  generalize hbv : w1.heap.size = ab at hz1 hz2 hA hXl hcl1 ⊢
  clear hbv
  obtain ⟨ad, cc, hS0⟩ := (hC2.own 0 (by omega)).is
  have hd0 := hC2.hd 0 (by omega)
  rw [hS0] at hd0
  refine wp_range_out (gf := 12) (bound := #[.pointer (some ⟨cb, 0, none⟩)]) rfl each_enters (each_it cb n _ _ w2 hcl hd0 hn) (fun _ => rfl) (fun k W => SumAt w2 W ab (sumD U 6 k) (sumD U 7 k)) (fun _ _ => False) ?_ (fun _ _ _ h _ => h) hA ?round ?done (fun _ _ _ _ h _ => h.elim)
  · intro k A B h1 hs
    exact h1.sm hs (Nat.le_refl _)
  case round =>
    intro l k W hl hF hk
    simp only [List.zip_toArray, List.zip_cons_cons, List.zip_nil_left, List.foldl_toArray, List.foldl_cons, List.foldl_nil, List.setIfInBounds_toArray, List.set_cons_succ, List.set_cons_zero]
    refine wpIn_region_plain (by rintro ⟨_, _, h⟩; exact h) (by kernel_rfl) ?_
    go_wp2
    refine ⟨(KeepsOthers.alloc _ _).from _, fun W2 hS hr => ?_⟩
    have hF2 : SumAt w2 W2 ab (sumD U 6 k) (sumD U 7 k) := (hF.below ((Below.refl _ _).alloc (Nat.le_refl _) _)).sm hS (Nat.le_refl _)
    have hzW := hF.fr.size
    have v0 : W2.cell? ⟨W.heap.size, 0, none⟩ = some (.int .i64 (k : Int)) := hS.cell (by go_simp)
    have v1 : W2.cell? ⟨W.heap.size, 1, none⟩ = some (.pointer (some ⟨cb, 0, none⟩)) := hS.cell (by go_simp)
    have hC3 := hC2.frame hF2.fr (by omega) (fun b hb => by have := hXl b hb; omega)
    have hz3 : W.heap.size < W2.heap.size := by have := hS.size; simp at this; omega
    have hh := hC3.hat hk (by omega)
    obtain ⟨b1, b2⟩ := sumD_bd hok k (by omega)
    obtain ⟨b3, b4⟩ : (-20000000 ≤ colOf U 6 k ∧ colOf U 6 k ≤ 20000000) ∧ (-20000000 ≤ colOf U 7 k ∧ colOf U 7 k ≤ 20000000) := drv_bd hok hk
    have a1 := hF2.cx
    have a2 := hF2.cy
    have a3 := hF2.fx
    have a4 := hF2.fy
    have hab : ab < W2.heap.size := by omega
    have onD : ∀ (X Y : World), SumAt w2 X ab (sumD U 6 k) (sumD U 7 k) → Below X.heap.size X Y → KeepsFrom w2.heap.size X ((Y.setCell ⟨ab, 0, none⟩ (.int .i64 (sumD U 6 k + colOf U 6 k))).setCell ⟨ab, 1, none⟩ (.int .i64 (sumD U 7 k + colOf U 7 k))) ∧ SumAt w2 ((Y.setCell ⟨ab, 0, none⟩ (.int .i64 (sumD U 6 k + colOf U 6 k))).setCell ⟨ab, 1, none⟩ (.int .i64 (sumD U 7 k + colOf U 7 k))) ab (sumD U 6 (k + 1)) (sumD U 7 (k + 1)) := fun X Y hX hXY =>
      ⟨(KeepsFrom.of_below hXY).trans (((KeepsOthers.setCell _ _ _).trans (KeepsOthers.setCell _ _ _)).from _), (hX.below hXY).set _ _⟩
    clear hS hr hF
    refine wpIn_block ?_
    refine wpIn_region_held_drew (S := fun w' => w'.cell? ⟨W.heap.size, 0, none⟩ = some (.int .i64 (k : Int)) ∧ w'.cell? ⟨W.heap.size, 1, none⟩ = some (.pointer (some ⟨cb, 0, none⟩))) (by kernel_rfl) (by rintro ⟨_, _, h⟩; exact h) (by kernel_rfl) ?_ (fun hHeld => ?_)
    · (try dsimp only)
      (first | (go_simp; done) | (go_keep; done))
    refine tq 1 hHeld ?_
    refine wpAnyH_ready (rs := [0, 2]) (by kernel_rfl) (by simp) ?_
    refine AllReadyH.cons (o := { dst := some 18, op := Go.Op.load 42 (Go.Operand.tmp 5), type := 42, pos := "l6_body.go:296", after := #[], guard := none }) rfl (fun K hK => ?_) (AllReadyH.cons (o := { dst := some 20, op := Go.Op.call { callee := Go.Callee.value (Go.Operand.func 14), args := #[Go.Operand.tmp 19], argTypes := #[46] }, type := 42, pos := "l6_body.go:296", after := #[{ on := 1, ground := Go.Ground.data }], guard := none }) rfl (fun K hK => ?_) AllReadyH.nil)
    · (go_simp; refine hK.out _ _ ?_ (fun hHeld => ?_); (focus ((try dsimp only); (first | (go_simp; done) | (go_keep; done)))); clear hK K; (try simp only [Act.put, List.setIfInBounds_toArray, List.set_cons_zero, List.set_cons_succ]))
      (refine tc 2 fun K hK => ?_; go_simp; (go_at_call 14; refine (kDrive (HAt.below hh (Below.drew (Below.refl _ _)))).mono ?_; rintro e w5 ⟨rfl, hb5⟩; obtain ⟨hc5, hf5⟩ := bcell hb5; have hz5 := hb5.size; (try simp only [World.size_drew, World.size_alloc, World.size_setCell] at hc5 hf5 hz5); have hk5x0 := fun o => hc5 W.heap.size o (by omega); have hj5x0 := fun o => hf5 W.heap.size o (by omega); have hk5x1 := fun o => hc5 ab o (by omega); have hj5x1 := fun o => hf5 ab o (by omega); clear hc5 hf5); (try go_wp2_with fail); refine tr hK (fun hHeld => ?_); clear hK K)
      (refine tc 3 fun K hK => ?_; go_simp; (go_at_call 13; refine (plus_any _ _ _ _ _ (by omega) (by omega) (by omega) (by omega)).mono ?_; rintro e w6 ⟨rfl, hb6⟩; obtain ⟨hc6, hf6⟩ := bcell hb6; have hz6 := hb6.size; (try simp only [World.size_drew, World.size_alloc, World.size_setCell] at hc6 hf6 hz6); have hk6x0 := fun o => hc6 W.heap.size o (by omega); have hj6x0 := fun o => hf6 W.heap.size o (by omega); have hk6x1 := fun o => hc6 ab o (by omega); have hj6x1 := fun o => hf6 ab o (by omega); clear hc6 hf6); (try go_wp2_with fail); refine tr hK (fun hHeld => ?_); clear hK K)
      (refine tc 4 fun K hK => ?_; go_simp; refine tr hK (fun hHeld => ?_); clear hK K)
      refine wpAnyH_done (by kernel_rfl) ?_ _
      have hb56 : Below W2.heap.size W2 w6 := hb5.ofDr.trans (hb6.mono hb5.size)
      exact onD W2 w6 hF2 hb56
    · (go_simp; (go_at_call 14; refine (kDrive (HAt.below hh (Below.drew (Below.refl _ _)))).mono ?_; rintro e w5 ⟨rfl, hb5⟩; obtain ⟨hc5, hf5⟩ := bcell hb5; have hz5 := hb5.size; (try simp only [World.size_drew, World.size_alloc, World.size_setCell] at hc5 hf5 hz5); have hk5x0 := fun o => hc5 W.heap.size o (by omega); have hj5x0 := fun o => hf5 W.heap.size o (by omega); have hk5x1 := fun o => hc5 ab o (by omega); have hj5x1 := fun o => hf5 ab o (by omega); clear hc5 hf5); (try go_wp2_with fail); refine hK.out _ _ ?_ (fun hHeld => ?_); (focus ((try dsimp only); (first | (go_simp; done) | (go_keep; done)))); clear hK K; (try simp only [Act.put, List.setIfInBounds_toArray, List.set_cons_zero, List.set_cons_succ]))
      (refine tc 0 fun K hK => ?_; go_simp; refine tr hK (fun hHeld => ?_); clear hK K)
      (refine tc 3 fun K hK => ?_; go_simp; (go_at_call 13; refine (plus_any _ _ _ _ _ (by omega) (by omega) (by omega) (by omega)).mono ?_; rintro e w6 ⟨rfl, hb6⟩; obtain ⟨hc6, hf6⟩ := bcell hb6; have hz6 := hb6.size; (try simp only [World.size_drew, World.size_alloc, World.size_setCell] at hc6 hf6 hz6); have hk6x0 := fun o => hc6 W.heap.size o (by omega); have hj6x0 := fun o => hf6 W.heap.size o (by omega); have hk6x1 := fun o => hc6 ab o (by omega); have hj6x1 := fun o => hf6 ab o (by omega); clear hc6 hf6); (try go_wp2_with fail); refine tr hK (fun hHeld => ?_); clear hK K)
      (refine tc 4 fun K hK => ?_; go_simp; refine tr hK (fun hHeld => ?_); clear hK K)
      refine wpAnyH_done (by kernel_rfl) ?_ _
      have hb56 : Below W2.heap.size W2 w6 := hb5.ofDr.trans (hb6.mono hb5.size)
      exact onD W2 w6 hF2 hb56
  case done =>
    intro D W hD hF hK
    have hzW := hF.fr.size
    have q2 := (hF.fr.cell (p := ⟨w.heap.size, 0, none⟩) (by simp; omega) (by simp; omega)).trans r2
    have q3 := (hF.fr.cell (p := ⟨w.heap.size, 1, none⟩) (by simp; omega) (by simp; omega)).trans r3
    have p2 := (hF.fr.frozen (p := ⟨w.heap.size, 0, none⟩) (by simp; omega) (by simp; omega)).trans f2
    have p3 := (hF.fr.frozen (p := ⟨w.heap.size, 1, none⟩) (by simp; omega) (by simp; omega)).trans f3
    have a1 := hF.cx
    have a2 := hF.cy
    have hBW : Below w.heap.size w W := hB.trans (hF.fr.below (by omega) (fun k e => by omega))
    go_wp2_with (go_at_call 15; refine (vec_any _ _ _).mono ?_; rintro e w7 ⟨rfl, hb7⟩; obtain ⟨hc7, hf7⟩ := bcell hb7; have hz7 := hb7.size; (try simp only [World.size_drew, World.size_alloc, World.size_setCell] at hc7 hf7 hz7); have hk7x0 := fun o => hc7 w.heap.size o (by omega); have hj7x0 := fun o => hf7 w.heap.size o (by omega); clear hc7 hf7)
    have hK7 := (hb7.block D (Array.getElem?_eq_some_iff.1 hK).1).trans hK
    have hF8 : Fr (fun b => b = w.heap.size) w7 ((w7.setCell ⟨w.heap.size, 0, none⟩ (.int .i64 (sumD U 6 n))).setCell ⟨w.heap.size, 1, none⟩ (.int .i64 (sumD U 7 n))) := (Fr.setCell (X := fun b => b = w.heap.size) rfl _).trans (Fr.setCell (X := fun b => b = w.heap.size) rfl _)
    refine marks_ret (B := w2.heap.size) hD rfl (hF8.kind _ _ hK7 rfl) fun W' hS => ⟨vv (sumD U 6 n) (sumD U 7 n), ?_, rfl, ?_⟩
    · have x2 : W'.cell? ⟨w.heap.size, 0, none⟩ = some (.int .i64 (sumD U 6 n)) := hS.cell (by go_simp)
      have x3 : W'.cell? ⟨w.heap.size, 1, none⟩ = some (.int .i64 (sumD U 7 n)) := hS.cell (by go_simp)
      simp [results, Try.results5, go_sem, *]
    · exact (((hBW.trans (hb7.mono (by omega))).setCell (by simp) _).setCell (by simp) _).trans (hS.below.mono (by omega))
theorem drives_no (a : Option Addr) (n c : Nat) (U : Nat → Int) (w : World) (h : Flat w a (n * 12) U) (hn : n ≤ 1048576) (hok : bodsB n U = false) :
    Calls Try.prog 5 #[.slice a n c] w fun e w' => e = .returned (vv 0 0) ∧ Below w.heap.size w w' := by
  have hset := cset_map
  refine calls_of_wp_marks Try.func5 rfl ?_
  simp only [Try.ntmps5, List.size_toArray, List.length_cons, List.length_nil, Nat.reduceAdd, Nat.reduceSub, Array.replicate_succ, Array.replicate_zero, List.push_toArray, List.append_toArray, List.nil_append, List.cons_append]
  go_wp2_with (go_at_call 11; refine (columnsOf_no a n c U _ (h.below (by repeat (first | with_reducible apply Below.refl | (with_reducible apply Below.setCell; rotate_left; focus (first | omega | (simp; done) | (simp; omega))) | (with_reducible apply Below.alloc; rotate_left; focus (first | omega | (simp; done) | (simp; omega))) | with_reducible apply Below.drew | with_reducible apply belowDrewN | (with_reducible apply Below.trans; rotate_left; with_reducible apply Below.mono; with_reducible assumption; focus (first | omega | (simp; done) | (simp; omega)))))) hn hok).mono ?_; rintro e w1 ⟨rfl, hb1⟩; obtain ⟨hc1, hf1⟩ := bcell hb1; have hz1 := hb1.size; (try simp only [World.size_drew, World.size_alloc, World.size_setCell] at hc1 hf1 hz1); have hk1x0 := fun o => hc1 w.heap.size o (by omega); have hj1x0 := fun o => hf1 w.heap.size o (by omega); clear hc1 hf1; have hq1 : w.heap.size < w1.heap.size := (by omega))
  refine marks_ret0 (v := vv 0 0) rfl (by simp [results, Try.results5, go_sem, *]) ⟨rfl, by repeat (first | with_reducible apply Below.refl | (with_reducible apply Below.setCell; rotate_left; focus (first | omega | (simp; done) | (simp; omega))) | (with_reducible apply Below.alloc; rotate_left; focus (first | omega | (simp; done) | (simp; omega))) | with_reducible apply Below.drew | with_reducible apply belowDrewN | (with_reducible apply Below.trans; rotate_left; with_reducible apply Below.mono; with_reducible assumption; focus (first | omega | (simp; done) | (simp; omega))))⟩
end Go.Proofs.Ytpoichpdkkejjaa
namespace Go.Proofs.Ytpoichpdkkejjaa
open Go.RowKit
set_option linter.unusedVariables false
set_option linter.unusedSimpArgs false

set_option maxRecDepth 20000 in
set_option maxHeartbeats 4000000 in
theorem sDrives_ok (a : Option Addr) (n c : Nat) (U : Nat → Int) (w : World) (h : Flat w a (n * 12) U) (hn : n ≤ 1048576) (hok : bodsB n U = true) :
    Calls Try.prog 6 #[.slice a n c] w fun e w' => e = .returned (vv (sumD U 6 n) (sumD U 7 n)) ∧ Below w.heap.size w w' := by
  have hset := cset_map
  have hn12 := bodsB_le hok
  go_enter Try.func6, Try.ntmps6
  go_wp2_with (go_at_call 8; refine (sBodiesOk_q a n c U true _ (h.below (by repeat (first | with_reducible apply Below.refl | (with_reducible apply Below.setCell; rotate_left; focus (first | omega | (simp; done) | (simp; omega))) | (with_reducible apply Below.alloc; rotate_left; focus (first | omega | (simp; done) | (simp; omega))) | with_reducible apply Below.drew | with_reducible apply belowDrewN | (with_reducible apply Below.trans; rotate_left; with_reducible apply Below.mono; with_reducible assumption; focus (first | omega | (simp; done) | (simp; omega)))))) hn hok).mono ?_; rintro e w1 ⟨rfl, hb1⟩; obtain ⟨hc1, hf1⟩ := bcell hb1; have hz1 := hb1.size; (try simp only [World.size_drew, World.size_alloc, World.size_setCell] at hc1 hf1 hz1); have hk1x0 := fun o => hc1 (w.heap.size) o (by omega); have hj1x0 := fun o => hf1 (w.heap.size) o (by omega); have hq1x0 : w.heap.size < w1.heap.size := (by omega); have hk1x1 := fun o => hc1 (w.heap.size + 1) o (by omega); have hj1x1 := fun o => hf1 (w.heap.size + 1) o (by omega); have hq1x1 : w.heap.size + 1 < w1.heap.size := (by omega); clear hc1 hf1)
  have hA : SumAt w1 w1 (w.heap.size + 1) 0 0 := ⟨Fr.refl _ _, by go_simp, by go_simp, by go_simp, by go_simp⟩
  have hB : Below w.heap.size w w1 := by repeat (first | with_reducible apply Below.refl | (with_reducible apply Below.setCell; rotate_left; focus (first | omega | (simp; done) | (simp; omega))) | (with_reducible apply Below.alloc; rotate_left; focus (first | omega | (simp; done) | (simp; omega))) | with_reducible apply Below.drew | with_reducible apply belowDrewN | (with_reducible apply Below.trans; rotate_left; with_reducible apply Below.mono; with_reducible assumption; focus (first | omega | (simp; done) | (simp; omega))))
  have r2 : w1.cell? ⟨w.heap.size, 0, none⟩ = some (.int .i64 0) := by go_simp
  have r3 : w1.cell? ⟨w.heap.size, 1, none⟩ = some (.int .i64 0) := by go_simp
  have f2 : w1.frozen? ⟨w.heap.size, 0, none⟩ = false := by go_simp
  have f3 : w1.frozen? ⟨w.heap.size, 1, none⟩ = false := by go_simp
  clear hb1 hk1x0 hk1x1 hj1x0 hj1x1
  have hab0 : w.heap.size < w.heap.size + 1 := by omega
  generalize w.heap.size + 1 = ab at hA hab0 hq1x1 ⊢
  go_loopw [4] (fun i wr => ∃ k : Nat, k ≤ n ∧ i = .int .i64 (k : Int) ∧ SumAt w1 wr ab (sumD U 6 k) (sumD U 7 k)) (fun i _ => n - (intOf i).toNat)
  case atStart => exact ⟨0, Nat.zero_le _, rfl, hA⟩
  case round =>
    obtain ⟨k, hk, rfl, hF⟩ := hrel
    have a1 := hF.cx
    have a2 := hF.cy
    have a3 := hF.fx
    have a4 := hF.fy
    have hzr := hF.fr.size
    by_cases hlt : k < n
    · have hkn : (k : Int) < (n : Int) := by omega
      obtain ⟨b, o, rfl, hbl, hc⟩ := h (by omega)
      have hc' : ∀ q, q < n * 12 → wr.cell? ⟨b, o + q, none⟩ = some (.int .i64 (U q)) := fun q hq => (hF.fr.cell (p := ⟨b, o + q, none⟩) (by simp; omega) (by simp; omega)).trans ((hB.cell (p := ⟨b, o + q, none⟩) hbl).trans (hc q hq))
      have c6 := hc' (k * 12 + 6) (by omega)
      have c7 := hc' (k * 12 + 7) (by omega)
      simp only [← Nat.add_assoc] at c6 c7
      clear hc hc'
      obtain ⟨b1, b2⟩ := sumD_bd hok k (by omega)
      obtain ⟨b3, b4⟩ := drv_bd hok hlt
      have g1 : IntKind.i64.wrap (sumD U 6 k + U (k * 12 + 6)) = sumD U 6 k + U (k * 12 + 6) := i64w (by omega)
      have g2 : IntKind.i64.wrap (sumD U 7 k + U (k * 12 + 7)) = sumD U 7 k + U (k * 12 + 7) := i64w (by omega)
      have hne : ab ≠ b := by omega
      go_upto_region 7 with fail
      refine wp_region_held_drew (S := fun w' => w'.cell? ⟨b, o + k * 12 + 6, none⟩ = some (.int .i64 (U (k * 12 + 6)))) (by kernel_rfl) ?_ (fun hHeld => ?_)
      · (try dsimp only)
        (first | (go_simp; done) | (go_keep; done))
      refine tq 0 hHeld ?_
      refine tq 2 hHeld ?_
      refine tq 3 hHeld ?_
      refine tq 4 hHeld ?_
      refine tq 5 hHeld ?_
      refine tq 6 hHeld ?_
      refine tq 7 hHeld ?_
      (refine tc 1 fun K hK => ?_; go_simp; refine tr hK (fun hHeld => ?_); clear hK K)
      refine tq 8 hHeld ?_
      refine tq 9 hHeld ?_
      (refine tc 10 fun K hK => ?_; go_simp; refine tr hK (fun hHeld => ?_); clear hK K)
      refine wpAnyH_done (by kernel_rfl) ?_ _
      
      go_upto_region 8 with fail
      refine wp_region_held_drew (S := fun w' => w'.cell? ⟨b, o + k * 12 + 7, none⟩ = some (.int .i64 (U (k * 12 + 7)))) (by kernel_rfl) ?_ (fun hHeld => ?_)
      · (try dsimp only)
        (first | (go_simp; done) | (go_keep; done))
      refine tq 0 hHeld ?_
      refine tq 2 hHeld ?_
      refine tq 3 hHeld ?_
      refine tq 4 hHeld ?_
      refine tq 5 hHeld ?_
      refine tq 6 hHeld ?_
      refine tq 7 hHeld ?_
      (refine tc 1 fun K hK => ?_; go_simp; refine tr hK (fun hHeld => ?_); clear hK K)
      refine tq 8 hHeld ?_
      refine tq 9 hHeld ?_
      (refine tc 10 fun K hK => ?_; go_simp; refine tr hK (fun hHeld => ?_); clear hK K)
      refine wpAnyH_done (by kernel_rfl) ?_ _
      
      go_wp2_with fail
      go_roundw
      case rel =>
        refine ⟨k + 1, by omega, by go_num, ⟨?_, ?_, ?_, ?_, ?_⟩⟩
        · exact ((hF.fr.trans (Fr.setCell (X := fun b => b = ab) rfl _)).trans (Fr.setCell (X := fun b => b = ab) rfl _)).drew.drew
        · show _ = some (Value.int .i64 (sumD U 6 k + U (k * 12 + 6)))
          go_simp
        · show _ = some (Value.int .i64 (sumD U 7 k + U (k * 12 + 7)))
          go_simp
        · go_simp
        · go_simp
      case measure => simp [intOf]; omega
    · obtain rfl : k = n := by omega
      have q2 := (hF.fr.cell (p := ⟨w.heap.size, 0, none⟩) (by simp; omega) (by simp; omega)).trans r2
      have q3 := (hF.fr.cell (p := ⟨w.heap.size, 1, none⟩) (by simp; omega) (by simp; omega)).trans r3
      have p2 := (hF.fr.frozen (p := ⟨w.heap.size, 0, none⟩) (by simp; omega) (by simp; omega)).trans f2
      have p3 := (hF.fr.frozen (p := ⟨w.heap.size, 1, none⟩) (by simp; omega) (by simp; omega)).trans f3
      have hBW : Below w.heap.size w wr := hB.trans (hF.fr.below (by omega) (fun k e => by omega))
      go_wp2
      exact bodyPost_ret (v := vv (sumD U 6 k) (sumD U 7 k)) (by simp [results, Try.results6, go_sem, *]) rfl ⟨rfl, by repeat (first | with_reducible apply Below.refl | (with_reducible apply Below.setCell; rotate_left; focus (first | omega | (simp; done) | (simp; omega))) | (with_reducible apply Below.alloc; rotate_left; focus (first | omega | (simp; done) | (simp; omega))) | with_reducible apply Below.drew | with_reducible apply belowDrewN | (with_reducible apply Below.trans; rotate_left; with_reducible apply Below.mono; with_reducible assumption; focus (first | omega | (simp; done) | (simp; omega))))⟩
theorem sDrives_no (a : Option Addr) (n c : Nat) (U : Nat → Int) (w : World) (h : Flat w a (n * 12) U) (hn : n ≤ 1048576) (hok : bodsB n U = false) :
    Calls Try.prog 6 #[.slice a n c] w fun e w' => e = .returned (vv 0 0) ∧ Below w.heap.size w w' := by
  have hset := cset_map
  go_enter Try.func6, Try.ntmps6
  go_wp2_with (go_at_call 8; refine (sBodiesOk_q a n c U false _ (h.below (by repeat (first | with_reducible apply Below.refl | (with_reducible apply Below.setCell; rotate_left; focus (first | omega | (simp; done) | (simp; omega))) | (with_reducible apply Below.alloc; rotate_left; focus (first | omega | (simp; done) | (simp; omega))) | with_reducible apply Below.drew | with_reducible apply belowDrewN | (with_reducible apply Below.trans; rotate_left; with_reducible apply Below.mono; with_reducible assumption; focus (first | omega | (simp; done) | (simp; omega)))))) hn hok).mono ?_; rintro e w1 ⟨rfl, hb1⟩; obtain ⟨hc1, hf1⟩ := bcell hb1; have hz1 := hb1.size; (try simp only [World.size_drew, World.size_alloc, World.size_setCell] at hc1 hf1 hz1); have hk1x0 := fun o => hc1 (w.heap.size) o (by omega); have hj1x0 := fun o => hf1 (w.heap.size) o (by omega); have hq1x0 : w.heap.size < w1.heap.size := (by omega); have hk1x1 := fun o => hc1 (w.heap.size + 1) o (by omega); have hj1x1 := fun o => hf1 (w.heap.size + 1) o (by omega); have hq1x1 : w.heap.size + 1 < w1.heap.size := (by omega); clear hc1 hf1)
  exact bodyPost_ret (v := vv 0 0) (by simp [results, Try.results6, go_sem, *]) rfl ⟨rfl, by repeat (first | with_reducible apply Below.refl | (with_reducible apply Below.setCell; rotate_left; focus (first | omega | (simp; done) | (simp; omega))) | (with_reducible apply Below.alloc; rotate_left; focus (first | omega | (simp; done) | (simp; omega))) | with_reducible apply Below.drew | with_reducible apply belowDrewN | (with_reducible apply Below.trans; rotate_left; with_reducible apply Below.mono; with_reducible assumption; focus (first | omega | (simp; done) | (simp; omega))))⟩
/-- what Drives answers -/
def drX (n : Nat) (U : Nat → Int) : Int := bif bodsB n U then sumD U 6 n else 0
def drY (n : Nat) (U : Nat → Int) : Int := bif bodsB n U then sumD U 7 n else 0
theorem drives_q (a : Option Addr) (n c : Nat) (U : Nat → Int) (x y : Int) (w : World) (h : Flat w a (n * 12) U) (hn : n ≤ 1048576) (ex : drX n U = x) (ey : drY n U = y) :
    Calls Try.prog 5 #[.slice a n c] w fun e w' => e = .returned (vv x y) ∧ Below w.heap.size w w' := by
  subst ex ey
  unfold drX drY
  cases hok : bodsB n U with
  | true => exact drives_ok a n c U w h hn hok
  | false => exact drives_no a n c U w h hn hok
theorem sDrives_q (a : Option Addr) (n c : Nat) (U : Nat → Int) (x y : Int) (w : World) (h : Flat w a (n * 12) U) (hn : n ≤ 1048576) (ex : drX n U = x) (ey : drY n U = y) :
    Calls Try.prog 6 #[.slice a n c] w fun e w' => e = .returned (vv x y) ∧ Below w.heap.size w w' := by
  subst ex ey
  unfold drX drY
  cases hok : bodsB n U with
  | true => exact sDrives_ok a n c U w h hn hok
  | false => exact sDrives_no a n c U w h hn hok
end Go.Proofs.Ytpoichpdkkejjaa
namespace Go.Proofs.Ytpoichpdkkejjaa
open Go.RowKit
set_option linter.unusedVariables false
set_option linter.unusedSimpArgs false

theorem bodiesOk_q (a : Option Addr) (n c : Nat) (U : Nat → Int) (b : Bool) (w : World) (h : Flat w a (n * 12) U) (hn : n ≤ 1048576) (eb : bodsB n U = b) :
    Calls Try.prog 7 #[.slice a n c] w fun e w' => e = .returned (.bool b) ∧ Below w.heap.size w w' := by
  have hset := cset_map
  cases b with
  | true =>
    go_enter Try.func7, Try.ntmps7
    go_wp2_with (go_at_call 11; refine (columnsOf_ok a n c U _ h hn eb).mono ?_; rintro e w1 ⟨cb, S, rfl, hcb, hC, hb1⟩)
    go_ret
    exact ⟨rfl, by repeat (first | with_reducible apply Below.refl | (with_reducible apply Below.setCell; rotate_left; focus (first | omega | (simp; done) | (simp; omega))) | (with_reducible apply Below.alloc; rotate_left; focus (first | omega | (simp; done) | (simp; omega))) | with_reducible apply Below.drew | with_reducible apply belowDrewN | (with_reducible apply Below.trans; rotate_left; with_reducible apply Below.mono; with_reducible assumption; focus (first | omega | (simp; done) | (simp; omega))))⟩
  | false =>
    go_enter Try.func7, Try.ntmps7
    go_wp2_with (go_at_call 11; refine (columnsOf_no a n c U _ h hn eb).mono ?_; rintro e w1 ⟨rfl, hb1⟩)
    go_ret
    exact ⟨rfl, by repeat (first | with_reducible apply Below.refl | (with_reducible apply Below.setCell; rotate_left; focus (first | omega | (simp; done) | (simp; omega))) | (with_reducible apply Below.alloc; rotate_left; focus (first | omega | (simp; done) | (simp; omega))) | with_reducible apply Below.drew | with_reducible apply belowDrewN | (with_reducible apply Below.trans; rotate_left; with_reducible apply Below.mono; with_reducible assumption; focus (first | omega | (simp; done) | (simp; omega))))⟩
end Go.Proofs.Ytpoichpdkkejjaa
