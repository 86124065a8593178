/- The draw of a ray. -/
import Derived.Test.YtnkebpbpempmhaaAl
import Derived.Test.YtnkebpbpempmhaaDrawAP
import Derived.Deep.RegionHeld3
import Derived.Deep.DeepCutAuto
namespace Go.Proofs.Ytnkebpbpempmhaa
open Go.RowKit
set_option linter.unusedVariables false
set_option linter.unusedSimpArgs false

theorem Al.upne {rb : Nat} {w0 w w' : World} {ab n : Nat} {V : Nat → Int} (h : Al w0 w ab n V) (hne : ab ≠ rb) (k : But rb w w') : Al w0 w' ab n V := by
  obtain ⟨h1, h2, h3, h4⟩ := h
  exact ⟨h1, Nat.lt_of_lt_of_le h2 k.size, fun i hi => (k.cell (p := ⟨ab, i, none⟩) h2 hne).trans (h3 i hi), fun i hi => (k.frozen (p := ⟨ab, i, none⟩) h2 hne).trans (h4 i hi)⟩
theorem Al.far {w0 w : World} {ab n b k : Nat} {V : Nat → Int} (h : Al w0 w ab n V) (hb : ab ≠ b) (v : Value) : Al w0 (w.setCell ⟨b, k, none⟩ v) ab n V := by
  obtain ⟨h1, h2, h3, h4⟩ := h
  refine ⟨h1, by simpa [World.setCell] using h2, fun i hi => ?_, fun i hi => ?_⟩
  · rw [cset_far (by simp; omega)]; exact h3 i hi
  · rw [World.frozen?_setCell]; exact h4 i hi
/-- a ray that was drawn: its numbers; its way is not longer than a place is far -/
def RN (V : Nat → Int) : Prop := (∀ j, j < 4 → Bn (V j)) ∧ (-2560000 ≤ V 2 ∧ V 2 ≤ 2560000) ∧ (-2560000 ≤ V 3 ∧ V 3 ≤ 2560000)
theorem RN.set {V : Nat → Int} (h : RN V) {k : Nat} {v : Int} (hv : -2560000 ≤ v ∧ v ≤ 2560000) : RN (fun j => if j = k then v else V j) := by
  obtain ⟨h1, h2, h3⟩ := h
  refine ⟨fun j hj => ?_, ?_, ?_⟩
  · by_cases e : j = k
    · simp only [e, if_true]; exact ⟨by omega, by omega⟩
    · simp only [e, if_false]; exact h1 j hj
  · by_cases e : 2 = k
    · simp only [e, if_true]; exact hv
    · simp only [e, if_false]; exact h2
  · by_cases e : 3 = k
    · simp only [e, if_true]; exact hv
    · simp only [e, if_false]; exact h3
theorem RN.four {a b c d : Int} (ha : Bn a) (hb : Bn b) (hc : -2560000 ≤ c ∧ c ≤ 2560000) (hd : -2560000 ≤ d ∧ d ≤ 2560000) : RN (fun j => [a, b, c, d].getD j 0) := by
  refine ⟨fun j hj => ?_, hc, hd⟩
  rcases (show j = 0 ∨ j = 1 ∨ j = 2 ∨ j = 3 by omega) with rfl | rfl | rfl | rfl
  · exact ha
  · exact hb
  · exact (show Bn c from ⟨by omega, by omega⟩)
  · exact (show Bn d from ⟨by omega, by omega⟩)
/-- what lies where while a ray is drawn: the answer's block is still empty, the ray's own holds V -/
structure DR (w w' : World) (rb p ab : Nat) (V : Nat → Int) : Prop where
  but : But rb w w'
  rs : RS w' rb p
  res : Al w w' w.heap.size 4 (fun _ => 0)
  bod : Al w w' ab 4 V
  far : w.heap.size < ab
  bf : RN V
theorem DR.call {w w' w1 : World} {rb p p1 ab : Nat} {V : Nat → Int} (h : DR w w' rb p ab V) (hrb : rb < w.heap.size) (k : RB w' w1 rb p1) : DR w w1 rb p1 ab V :=
  ⟨h.but.trans k.but, RS.of k, h.res.up hrb k.but, h.bod.up hrb k.but, h.far, h.bf⟩
theorem DR.mono {w w' : World} {rb p p1 ab : Nat} {V : Nat → Int} (h : DR w w' rb p ab V) (k : p ≤ p1) : DR w w' rb p1 ab V :=
  ⟨h.but, h.rs.mono k, h.res, h.bod, h.far, h.bf⟩
theorem DR.set {w w' : World} {rb p ab : Nat} {V : Nat → Int} (h : DR w w' rb p ab V) (hrb : rb < w.heap.size) (k : Nat) (hk : k < 4) (v : Int) (hv : -2560000 ≤ v ∧ v ≤ 2560000) :
    DR w (w'.setCell ⟨ab, k, none⟩ (.int .i64 v)) rb p ab (fun j => if j = k then v else V j) := by
  have hf := h.far
  exact ⟨h.but.setNew (by simp; omega) _, h.rs.setNew (by simp; omega) _, h.res.far (by omega) _, h.bod.set k hk v, h.far, h.bf.set hv⟩

theorem but_bel {w w' : World} {o : Obj} (h : w' = w.alloc o) : Below w.heap.size w w' := by subst h; exact (Below.refl _ _).alloc (Nat.le_refl _) o
theorem Al.belw {w0 w w' : World} {ab n B : Nat} {V : Nat → Int} (h : Al w0 w ab n V) (k : Below B w w') (hB : ab < B) : Al w0 w' ab n V := by
  obtain ⟨h1, h2, h3, h4⟩ := h
  exact ⟨h1, Nat.lt_of_lt_of_le h2 k.size, fun i hi => (k.cell (p := ⟨ab, i, none⟩) hB).trans (h3 i hi), fun i hi => (k.frozen (p := ⟨ab, i, none⟩) hB).trans (h4 i hi)⟩

set_option maxHeartbeats 8000000 in
theorem l11Ray_s (rb p : Nat) (w : World) (hs0 : RS w rb p) (hp : p ≤ 900000) :
    Calls Try.prog 101 #[.pointer (some ⟨rb, 0, none⟩)] w fun e w' => ∃ V : Nat → Int, e = .returned (b4 (V 0) (V 1) (V 2) (V 3)) ∧ RN V ∧ RB w w' rb (p + 2000) := by
  have hlt := hs0.lt
  have hne : (w.heap.size = rb) = False := eq_false (by omega)
  have hset := cset_map
  go_enter Try.func101, Try.ntmps101
  go_upto_region 1 with fail
  have r0 : Al w (w.alloc (.cells #[.int .i64 0, .int .i64 0, .int .i64 0, .int .i64 0] 47)) w.heap.size 4 (fun _ => 0) := Al.new (Nat.le_refl _) (by intro i hi; rcases (show i = 0 ∨ i = 1 ∨ i = 2 ∨ i = 3 by omega) with rfl | rfl | rfl | rfl <;> rfl)
  have hs1 : RS (w.alloc (.cells #[.int .i64 0, .int .i64 0, .int .i64 0, .int .i64 0] 47)) rb p := hs0.alloc _
  have hb0 : But rb w (w.alloc (.cells #[.int .i64 0, .int .i64 0, .int .i64 0, .int .i64 0] 47)) := but_alloc rb _ _
  generalize w.alloc (.cells #[.int .i64 0, .int .i64 0, .int .i64 0, .int .i64 0] 47) = w0 at *
  have hz0 := hb0.size
  go_cut [3] (fun s3 wc => ∃ (ab : Nat) (V : Nat → Int), s3 = .pointer (some ⟨ab, 0, none⟩) ∧ DR w wc rb (p + 1200) ab V)
  case first =>
    go_wp2_with (first
    | (have _ := hr4; go_at_call 55; refine (one_s (0) 16 rb (p + 1000) _ _ _ _ _ (by exact RS.up hr4 (by omega)) (by omega) (by repeat (first | exact AllBd.nil | refine AllBd.cons (by omega) (by omega) ?_)) (by rfl) (by omega) (by omega)).mono ?_; rintro e w5 ⟨v5, rfl, va5, vb5, hr5⟩; have hm5 := mul_bd (a := v4) (b := v5) (A := 256) (B := 16) (by omega) (by omega); have hw5 := i64w (n := v4 * v5) (by omega); have hx5 := i64w (n := v4 * v5 - 1000) (by omega))
    | (have _ := hr3; go_at_call 54; refine (pick_s rb (p + 900) _ _ (by exact RS.up hr3 (by omega)) (by omega) (by omega) (by omega)).mono ?_; rintro e w4 ⟨v4, rfl, va4, vb4, hr4⟩)
    | (have _ := hr2; go_at_call 55; refine (one_s (0) 16 rb (p + 800) _ _ _ _ _ (by exact RS.up hr2 (by omega)) (by omega) (by repeat (first | exact AllBd.nil | refine AllBd.cons (by omega) (by omega) ?_)) (by rfl) (by omega) (by omega)).mono ?_; rintro e w3 ⟨v3, rfl, va3, vb3, hr3⟩; have hm3 := mul_bd (a := v2) (b := v3) (A := 256) (B := 16) (by omega) (by omega); have hw3 := i64w (n := v2 * v3) (by omega); have hx3 := i64w (n := v2 * v3 - 1000) (by omega))
    | (have _ := hr1; go_at_call 54; refine (pick_s rb (p + 700) _ _ (by exact RS.up hr1 (by omega)) (by omega) (by omega) (by omega)).mono ?_; rintro e w2 ⟨v2, rfl, va2, vb2, hr2⟩)
    | (go_at_call 53; refine (l11AnyPlace_s rb p _ (by exact hs1) (by omega)).mono ?_; rintro e w1 ⟨x1, y1, rfl, hd1, hr1⟩))
    go_meet
    have ht5 := (RB.but hr1).trans ((RB.but hr2).trans ((RB.but hr3).trans ((RB.but hr4).trans (RB.but hr5))))
    have hz5 := (hb0.trans ht5).size
    have hz3 := ht5.size
    have hlo := r0.2.1
    exact ⟨_, fun j => [x1, y1, v2 * v3 - 1000, v4 * v5 - 1000].getD j 0, rfl, (hb0.trans ht5).alloc _, (RS.up hr5 (by omega)).alloc _, (r0.up hlt ht5).up hlt (but_alloc rb _ _), Al.new hz5 (by intro i hi; rcases (show i = 0 ∨ i = 1 ∨ i = 2 ∨ i = 3 by omega) with rfl | rfl | rfl | rfl <;> rfl), by omega, RN.four hd1.1 hd1.2 ⟨by omega, by omega⟩ ⟨by omega, by omega⟩⟩
  case rest =>
  obtain ⟨ab, V, rfl, hD⟩ := hcut
  clear hs1 hb0 r0 hz0 w0
  go_upto_region 2 with fail
  have hlo := hD.far
  go_cut [23] (fun s23 wc => ∃ (v7 : Int), s23 = .int .i64 v7 ∧ DR w wc rb (p + 1300) ab V)
  case first =>
    go_wp2_with (go_at_call 54; refine (pick_s rb (p + 1200) _ _ (by exact hD.rs) (by omega) (by omega) (by omega)).mono ?_; rintro e w7 ⟨v7, rfl, va7, vb7, hr7⟩)
    go_meet
    exact ⟨_, rfl, (hD.call hlt hr7).mono (by omega)⟩
  case rest =>
  clear hD
  obtain ⟨v7, rfl, hD⟩ := hcut
  have hD7 := hD.mono (p1 := p + 2000) (by omega)
  have kc0 := (hD7.bod).2.2.1 0 (by omega)
  have kf0 := (hD7.bod).2.2.2 0 (by omega)
  have kc1 := (hD7.bod).2.2.1 1 (by omega)
  have kf1 := (hD7.bod).2.2.2 1 (by omega)
  have kc2 := (hD7.bod).2.2.1 2 (by omega)
  have kf2 := (hD7.bod).2.2.2 2 (by omega)
  have kc3 := (hD7.bod).2.2.1 3 (by omega)
  have kf3 := (hD7.bod).2.2.2 3 (by omega)
  go_upto_region 9 with (go_at_call 55; refine (one_s (-3000) 2000 rb (p + 1300) _ _ _ _ _ (by exact hD.rs) (by omega) (by repeat (first | exact AllBd.nil | refine AllBd.cons (by omega) (by omega) ?_)) (by rfl) (by omega) (by omega)).mono ?_; rintro e w8 ⟨v8, rfl, va8, vb8, hr8⟩; have hD8 := (hD.call hlt hr8).mono (p1 := p + 2000) (by omega); have mc0 := (hD8.bod).2.2.1 0 (by omega); have mf0 := (hD8.bod).2.2.2 0 (by omega); have mc1 := (hD8.bod).2.2.1 1 (by omega); have mf1 := (hD8.bod).2.2.2 1 (by omega); have mc2 := (hD8.bod).2.2.1 2 (by omega); have mf2 := (hD8.bod).2.2.2 2 (by omega); have mc3 := (hD8.bod).2.2.1 3 (by omega); have mf3 := (hD8.bod).2.2.2 3 (by omega))
  · clear kc0 kf0 kc1 kf1 kc2 kf2 kc3 kf3
    have hE := ((hD7.set hlt 2 (by omega) 0 ⟨by omega, by omega⟩).set hlt 3 (by omega) 0 ⟨by omega, by omega⟩)
    generalize ((wc.setCell ⟨ab, 2, none⟩ (.int .i64 0)).setCell ⟨ab, 3, none⟩ (.int .i64 0)) = wx at hE ⊢
    obtain ⟨Vx, hE⟩ : ∃ Vx, DR w wx rb (p + 2000) ab Vx := ⟨_, hE⟩
    have h0 := hE
    have ec0 := (hE.bod).2.2.1 0 (by omega)
    have ef0 := (hE.bod).2.2.2 0 (by omega)
    have ec1 := (hE.bod).2.2.1 1 (by omega)
    have ef1 := (hE.bod).2.2.2 1 (by omega)
    have ec2 := (hE.bod).2.2.1 2 (by omega)
    have ef2 := (hE.bod).2.2.2 2 (by omega)
    have ec3 := (hE.bod).2.2.1 3 (by omega)
    have ef3 := (hE.bod).2.2.2 3 (by omega)
    have rc0 := (hE.res).2.2.1 0 (by omega)
    have rf0 := (hE.res).2.2.2 0 (by omega)
    have rc1 := (hE.res).2.2.1 1 (by omega)
    have rf1 := (hE.res).2.2.2 1 (by omega)
    have rc2 := (hE.res).2.2.1 2 (by omega)
    have rf2 := (hE.res).2.2.2 2 (by omega)
    have rc3 := (hE.res).2.2.1 3 (by omega)
    have rf3 := (hE.res).2.2.2 3 (by omega)
    go_wp2_with fail
    exact bodyPost_ret (v := b4 (Vx 0) (Vx 1) (Vx 2) (Vx 3)) (by simp [results, Try.results101, go_sem, *]) rfl ⟨Vx, rfl, hE.bf, RB.mk ((((hE.but.setNew (by simp) _).setNew (by simp) _).setNew (by simp) _).setNew (by simp) _) (((((hE.rs.mono (by omega)).setNew (by simp; omega) _).setNew (by simp; omega) _).setNew (by simp; omega) _).setNew (by simp; omega) _)⟩
  · clear kc0 kf0 kc1 kf1 kc2 kf2 kc3 kf3
    clear mc0 mf0 mc1 mf1 mc2 mf2 mc3 mf3
    have hE := ((hD8.set hlt 2 (by omega) v8 ⟨by omega, by omega⟩).set hlt 3 (by omega) 0 ⟨by omega, by omega⟩)
    generalize ((w8.setCell ⟨ab, 2, none⟩ (.int .i64 v8)).setCell ⟨ab, 3, none⟩ (.int .i64 0)) = wx at hE ⊢
    obtain ⟨Vx, hE⟩ : ∃ Vx, DR w wx rb (p + 2000) ab Vx := ⟨_, hE⟩
    have h0 := hE
    have ec0 := (hE.bod).2.2.1 0 (by omega)
    have ef0 := (hE.bod).2.2.2 0 (by omega)
    have ec1 := (hE.bod).2.2.1 1 (by omega)
    have ef1 := (hE.bod).2.2.2 1 (by omega)
    have ec2 := (hE.bod).2.2.1 2 (by omega)
    have ef2 := (hE.bod).2.2.2 2 (by omega)
    have ec3 := (hE.bod).2.2.1 3 (by omega)
    have ef3 := (hE.bod).2.2.2 3 (by omega)
    have rc0 := (hE.res).2.2.1 0 (by omega)
    have rf0 := (hE.res).2.2.2 0 (by omega)
    have rc1 := (hE.res).2.2.1 1 (by omega)
    have rf1 := (hE.res).2.2.2 1 (by omega)
    have rc2 := (hE.res).2.2.1 2 (by omega)
    have rf2 := (hE.res).2.2.2 2 (by omega)
    have rc3 := (hE.res).2.2.1 3 (by omega)
    have rf3 := (hE.res).2.2.2 3 (by omega)
    go_wp2_with fail
    exact bodyPost_ret (v := b4 (Vx 0) (Vx 1) (Vx 2) (Vx 3)) (by simp [results, Try.results101, go_sem, *]) rfl ⟨Vx, rfl, hE.bf, RB.mk ((((hE.but.setNew (by simp) _).setNew (by simp) _).setNew (by simp) _).setNew (by simp) _) (((((hE.rs.mono (by omega)).setNew (by simp; omega) _).setNew (by simp; omega) _).setNew (by simp; omega) _).setNew (by simp; omega) _)⟩
  · clear kc0 kf0 kc1 kf1 kc2 kf2 kc3 kf3
    clear mc0 mf0 mc1 mf1 mc2 mf2 mc3 mf3
    have hE := ((hD8.set hlt 2 (by omega) 0 ⟨by omega, by omega⟩).set hlt 3 (by omega) v8 ⟨by omega, by omega⟩)
    generalize ((w8.setCell ⟨ab, 2, none⟩ (.int .i64 0)).setCell ⟨ab, 3, none⟩ (.int .i64 v8)) = wx at hE ⊢
    obtain ⟨Vx, hE⟩ : ∃ Vx, DR w wx rb (p + 2000) ab Vx := ⟨_, hE⟩
    have h0 := hE
    have ec0 := (hE.bod).2.2.1 0 (by omega)
    have ef0 := (hE.bod).2.2.2 0 (by omega)
    have ec1 := (hE.bod).2.2.1 1 (by omega)
    have ef1 := (hE.bod).2.2.2 1 (by omega)
    have ec2 := (hE.bod).2.2.1 2 (by omega)
    have ef2 := (hE.bod).2.2.2 2 (by omega)
    have ec3 := (hE.bod).2.2.1 3 (by omega)
    have ef3 := (hE.bod).2.2.2 3 (by omega)
    have rc0 := (hE.res).2.2.1 0 (by omega)
    have rf0 := (hE.res).2.2.2 0 (by omega)
    have rc1 := (hE.res).2.2.1 1 (by omega)
    have rf1 := (hE.res).2.2.2 1 (by omega)
    have rc2 := (hE.res).2.2.1 2 (by omega)
    have rf2 := (hE.res).2.2.2 2 (by omega)
    have rc3 := (hE.res).2.2.1 3 (by omega)
    have rf3 := (hE.res).2.2.2 3 (by omega)
    go_wp2_with fail
    exact bodyPost_ret (v := b4 (Vx 0) (Vx 1) (Vx 2) (Vx 3)) (by simp [results, Try.results101, go_sem, *]) rfl ⟨Vx, rfl, hE.bf, RB.mk ((((hE.but.setNew (by simp) _).setNew (by simp) _).setNew (by simp) _).setNew (by simp) _) (((((hE.rs.mono (by omega)).setNew (by simp; omega) _).setNew (by simp; omega) _).setNew (by simp; omega) _).setNew (by simp; omega) _)⟩
  · clear kc0 kf0 kc1 kf1 kc2 kf2 kc3 kf3
    have hE := hD7
    obtain ⟨Vx, hE⟩ : ∃ Vx, DR w wc rb (p + 2000) ab Vx := ⟨_, hE⟩
    have h0 := hE
    have ec0 := (hE.bod).2.2.1 0 (by omega)
    have ef0 := (hE.bod).2.2.2 0 (by omega)
    have ec1 := (hE.bod).2.2.1 1 (by omega)
    have ef1 := (hE.bod).2.2.2 1 (by omega)
    have ec2 := (hE.bod).2.2.1 2 (by omega)
    have ef2 := (hE.bod).2.2.2 2 (by omega)
    have ec3 := (hE.bod).2.2.1 3 (by omega)
    have ef3 := (hE.bod).2.2.2 3 (by omega)
    have rc0 := (hE.res).2.2.1 0 (by omega)
    have rf0 := (hE.res).2.2.2 0 (by omega)
    have rc1 := (hE.res).2.2.1 1 (by omega)
    have rf1 := (hE.res).2.2.2 1 (by omega)
    have rc2 := (hE.res).2.2.1 2 (by omega)
    have rf2 := (hE.res).2.2.2 2 (by omega)
    have rc3 := (hE.res).2.2.1 3 (by omega)
    have rf3 := (hE.res).2.2.2 3 (by omega)
    go_wp2_with fail
    exact bodyPost_ret (v := b4 (Vx 0) (Vx 1) (Vx 2) (Vx 3)) (by simp [results, Try.results101, go_sem, *]) rfl ⟨Vx, rfl, hE.bf, RB.mk ((((hE.but.setNew (by simp) _).setNew (by simp) _).setNew (by simp) _).setNew (by simp) _) (((((hE.rs.mono (by omega)).setNew (by simp; omega) _).setNew (by simp; omega) _).setNew (by simp; omega) _).setNew (by simp; omega) _)⟩
end Go.Proofs.Ytnkebpbpempmhaa
