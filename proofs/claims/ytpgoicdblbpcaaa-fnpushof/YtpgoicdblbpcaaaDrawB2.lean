/- The draw of a body. -/
import Derived.Test.YtpgoicdblbpcaaaAl
import Derived.Test.YtpgoicdblbpcaaaSBody
import Derived.Deep.RegionHeld3
import Derived.Deep.DeepCutAuto
namespace Go.Proofs.Ytpgoicdblbpcaaa
open Go.RowKit
set_option linter.unusedVariables false
set_option linter.unusedSimpArgs false

/-- a body that was drawn: its numbers, and its mass -/
def BF (V : Nat → Int) : Prop := (∀ j, j < 12 → Bn (V j)) ∧ 0 ≤ V 8 ∧ V 8 ≤ 100
def VB (x : Value) : Prop := ∃ V : Nat → Int, x = bodyW V ∧ BF V
theorem bf_mk {a b c d e f g h m n o q : Int} (ha : Bn a) (hb : Bn b) (hc : Bn c) (hd : Bn d) (he : Bn e) (hf : Bn f) (hg : Bn g) (hh : Bn h) (m0 : 0 ≤ m) (m1 : m ≤ 100) (hn : Bn n) (ho : Bn o) (hq : Bn q) :
    BF (fun j => [a, b, c, d, e, f, g, h, m, n, o, q].getD j 0) := by
  refine ⟨fun j hj => ?_, m0, m1⟩
  rcases (show j = 0 ∨ j = 1 ∨ j = 2 ∨ j = 3 ∨ j = 4 ∨ j = 5 ∨ j = 6 ∨ j = 7 ∨ j = 8 ∨ j = 9 ∨ j = 10 ∨ j = 11 by omega) with rfl | rfl | rfl | rfl | rfl | rfl | rfl | rfl | rfl | rfl | rfl | rfl <;> first | assumption | exact (show Bn m from ⟨by omega, by omega⟩)

/-- what lies where while a body is drawn: the answer's block is still empty, the body's own holds V -/
structure DB (w w' : World) (rb p ab : Nat) (V : Nat → Int) : Prop where
  but : But rb w w'
  rs : RS w' rb p
  res : Al w w' w.heap.size 12 (fun _ => 0)
  bod : Al w w' ab 12 V
  far : w.heap.size < ab
  bf : BF V
theorem DB.call {w w' w1 : World} {rb p p1 ab : Nat} {V : Nat → Int} (h : DB w w' rb p ab V) (hrb : rb < w.heap.size) (k : RB w' w1 rb p1) : DB w w1 rb p1 ab V :=
  ⟨h.but.trans k.but, RS.of k, h.res.up hrb k.but, h.bod.up hrb k.but, h.far, h.bf⟩
theorem DB.mono {w w' : World} {rb p p1 ab : Nat} {V : Nat → Int} (h : DB w w' rb p ab V) (k : p ≤ p1) : DB w w' rb p1 ab V :=
  ⟨h.but, h.rs.mono k, h.res, h.bod, h.far, h.bf⟩
theorem Al.far {w0 w : World} {ab n b k : Nat} {V : Nat → Int} (h : Al w0 w ab n V) (hb : ab ≠ b) (v : Value) : Al w0 (w.setCell ⟨b, k, none⟩ v) ab n V := by
  obtain ⟨h1, h2, h3, h4⟩ := h
  refine ⟨h1, by simpa [World.setCell] using h2, fun i hi => ?_, fun i hi => ?_⟩
  · rw [cset_far (by simp; omega)]; exact h3 i hi
  · rw [World.frozen?_setCell]; exact h4 i hi
theorem DB.set {w w' : World} {rb p ab : Nat} {V : Nat → Int} (h : DB w w' rb p ab V) (hrb : rb < w.heap.size) (k : Nat) (hk : k < 12) (v : Int) (hv : BF (fun j => if j = k then v else V j)) :
    DB w (w'.setCell ⟨ab, k, none⟩ (.int .i64 v)) rb p ab (fun j => if j = k then v else V j) := by
  have hf := h.far
  exact ⟨h.but.setNew (by simp; omega) _, h.rs.setNew (by simp; omega) _, h.res.far (by omega) _, h.bod.set k hk v, h.far, hv⟩
theorem BF.set {V : Nat → Int} (h : BF V) {k : Nat} {v : Int} (hv : Bn v) (h8 : k = 8 → 0 ≤ v ∧ v ≤ 100) : BF (fun j => if j = k then v else V j) := by
  obtain ⟨h1, h2, h3⟩ := h
  refine ⟨fun j hj => ?_, ?_, ?_⟩
  · by_cases e : j = k
    · simp only [e, if_true]; exact hv
    · simp only [e, if_false]; exact h1 j hj
  · by_cases e : (8 : Nat) = k
    · simp only [e, if_true]; exact (h8 e.symm).1
    · simp only [e, if_false]; exact h2
  · by_cases e : (8 : Nat) = k
    · simp only [e, if_true]; exact (h8 e.symm).2
    · simp only [e, if_false]; exact h3

set_option maxHeartbeats 4000000 in
theorem l11Drive_s (rb p : Nat) (m : Int) (w : World) (hs0 : RS w rb p) (hp : p ≤ 900000) (hm : 0 ≤ m ∧ m ≤ 100) :
    Calls Try.prog 83 #[.pointer (some ⟨rb, 0, none⟩), .int .i64 m] w fun e w' => ∃ x y : Int, e = .returned (vv x y) ∧ ((-64000 ≤ x ∧ x ≤ 64000) ∧ -64000 ≤ y ∧ y ≤ 64000) ∧ RB w w' rb (p + 60) := by
  have hlt := hs0.lt
  have hne : (w.heap.size = rb) = False := eq_false (by omega)
  have hset := cset_map
  go_enter Try.func83, Try.ntmps83
  go_upto_region 1 with fail
  have r0 : Al w (w.alloc (.cells #[.int .i64 0, .int .i64 0] 26)) w.heap.size 2 (fun _ => 0) := Al.new (Nat.le_refl _) (by intro i hi; rcases (show i = 0 ∨ i = 1 by omega) with rfl | rfl <;> rfl)
  have hs1 : RS (w.alloc (.cells #[.int .i64 0, .int .i64 0] 26)) rb p := hs0.alloc _
  have hb0 : But rb w (w.alloc (.cells #[.int .i64 0, .int .i64 0] 26)) := but_alloc rb _ _
  generalize w.alloc (.cells #[.int .i64 0, .int .i64 0] 26) = w0 at *
  go_cut [5] (fun s5 wc => ∃ v, s5 = .int .i64 v ∧ 0 ≤ v ∧ v ≤ 2000 ∧ But rb w wc ∧ RS wc rb (p + 10) ∧ Al w wc w.heap.size 2 (fun _ => 0))
  case first =>
    go_wp2_with (go_at_call 37; refine (one_s (0) 20 rb (p) _ _ _ _ _ (by exact hs1) (by omega) (by repeat (first | exact AllBd.nil | refine AllBd.cons (by omega) (by omega) ?_)) (by rfl) (by omega) (by omega)).mono ?_; rintro e w1 ⟨v1, rfl, va1, vb1, hr1⟩; have hm1 := mul_bd (a := v1) (b := m) (A := 20) (B := 100) (by omega) (by omega); have hw1 := i64w (n := v1 * m) (by omega); have hg1 : 0 ≤ v1 * m := Int.mul_nonneg va1 hm.1)
    go_meet
    exact ⟨_, rfl, by omega, by omega, hb0.trans (RB.but hr1), RS.up hr1 (by omega), r0.up hlt (RB.but hr1)⟩
  case rest =>
  obtain ⟨v, rfl, v0, v1, hbut, hrs, hal⟩ := hcut
  go_upto_region 2 with fail
  have hz := hbut.size
  go_wp2_with (first
    | (have _ := hr2; go_at_call 21; refine (pick_s rb (p + 20) _ _ (by exact RS.up hr2 (by omega)) (by omega) (by omega) (by omega)).mono ?_; rintro e w3 ⟨v3, rfl, va3, vb3, hr3⟩; have hw3 := i64w (n := v3 - 32) (by omega); have hm3 := mul_bd (a := v3 - 32) (b := v) (A := 32) (B := 2000) (by omega) (by omega); have hx3 := i64w (n := (v3 - 32) * v) (by omega); have ha3 := hal.up hlt ((RB.but hr2).trans (RB.but hr3)); have rc0 := (ha3).2.2.1 0 (by omega); have rf0 := (ha3).2.2.2 0 (by omega); have rc1 := (ha3).2.2.1 1 (by omega); have rf1 := (ha3).2.2.2 1 (by omega))
    | (go_at_call 21; refine (pick_s rb (p + 10) _ _ (by exact hrs) (by omega) (by omega) (by omega)).mono ?_; rintro e w2 ⟨v2, rfl, va2, vb2, hr2⟩; have hw2 := i64w (n := v2 - 32) (by omega); have hm2 := mul_bd (a := v2 - 32) (b := v) (A := 32) (B := 2000) (by omega) (by omega); have hx2 := i64w (n := (v2 - 32) * v) (by omega)))
  exact bodyPost_ret (v := vv ((v2 - 32) * v) ((v3 - 32) * v)) (by simp [results, Try.results83, go_sem, *]) rfl ⟨_, _, rfl, ⟨⟨by omega, by omega⟩, by omega, by omega⟩, RB.mk (((hbut.trans ((RB.but hr2).trans (RB.but hr3))).setNew (by simp) _).setNew (by simp) _) (((RS.up hr3 (by omega)).setNew (by simp; omega) _).setNew (by simp; omega) _)⟩

set_option maxHeartbeats 8000000 in
theorem l11Body_s (rb p : Nat) (id : Int) (w : World) (hs0 : RS w rb p) (hp : p ≤ 800000) (hid : Bn id) :
    Calls Try.prog 66 #[.pointer (some ⟨rb, 0, none⟩), .int .i64 id] w fun e w' => ∃ V : Nat → Int, e = .returned (bodyW V) ∧ BF V ∧ RB w w' rb (p + 1000) := by
  have hlt := hs0.lt
  have hne : (w.heap.size = rb) = False := eq_false (by omega)
  have hset := cset_map
  go_enter Try.func66, Try.ntmps66
  go_upto_region 1 with fail
  have r0 : Al w (w.alloc (.cells #[.int .i64 0, .int .i64 0, .int .i64 0, .int .i64 0, .int .i64 0, .int .i64 0, .int .i64 0, .int .i64 0, .int .i64 0, .int .i64 0, .int .i64 0, .int .i64 0] 28)) w.heap.size 12 (fun _ => 0) := Al.new (Nat.le_refl _) (by intro i hi; rcases (show i = 0 ∨ i = 1 ∨ i = 2 ∨ i = 3 ∨ i = 4 ∨ i = 5 ∨ i = 6 ∨ i = 7 ∨ i = 8 ∨ i = 9 ∨ i = 10 ∨ i = 11 by omega) with rfl | rfl | rfl | rfl | rfl | rfl | rfl | rfl | rfl | rfl | rfl | rfl <;> rfl)
  have hs1 : RS (w.alloc (.cells #[.int .i64 0, .int .i64 0, .int .i64 0, .int .i64 0, .int .i64 0, .int .i64 0, .int .i64 0, .int .i64 0, .int .i64 0, .int .i64 0, .int .i64 0, .int .i64 0] 28)) rb p := hs0.alloc _
  have hb0 : But rb w (w.alloc (.cells #[.int .i64 0, .int .i64 0, .int .i64 0, .int .i64 0, .int .i64 0, .int .i64 0, .int .i64 0, .int .i64 0, .int .i64 0, .int .i64 0, .int .i64 0, .int .i64 0] 28)) := but_alloc rb _ _
  generalize w.alloc (.cells #[.int .i64 0, .int .i64 0, .int .i64 0, .int .i64 0, .int .i64 0, .int .i64 0, .int .i64 0, .int .i64 0, .int .i64 0, .int .i64 0, .int .i64 0, .int .i64 0] 28) = w0 at *
  have hz0 := hb0.size
  go_cut [5] (fun s5 wc => ∃ (ab : Nat) (V : Nat → Int), s5 = .pointer (some ⟨ab, 0, none⟩) ∧ DB w wc rb (p + 500) ab V)
  case first =>
    go_wp2_with (first
    | (have _ := hr4; go_at_call 37; refine (one_s (0) 256 rb (p + 400) _ _ _ _ _ (by exact RS.up hr4 (by omega)) (by omega) (by repeat (first | exact AllBd.nil | refine AllBd.cons (by omega) (by omega) ?_)) (by rfl) (by omega) (by omega)).mono ?_; rintro e w5 ⟨v5, rfl, va5, vb5, hr5⟩; have ht5 := hb0.trans ((RB.but hr1).trans ((RB.but hr2).trans ((RB.but hr3).trans ((RB.but hr4).trans (RB.but hr5))))))
    | (have _ := hr3; go_at_call 37; refine (one_s (0) 256 rb (p + 300) _ _ _ _ _ (by exact RS.up hr3 (by omega)) (by omega) (by repeat (first | exact AllBd.nil | refine AllBd.cons (by omega) (by omega) ?_)) (by rfl) (by omega) (by omega)).mono ?_; rintro e w4 ⟨v4, rfl, va4, vb4, hr4⟩)
    | (have _ := hr2; go_at_call 37; refine (one_s (0) 100 rb (p + 200) _ _ _ _ _ (by exact RS.up hr2 (by omega)) (by omega) (by repeat (first | exact AllBd.nil | refine AllBd.cons (by omega) (by omega) ?_)) (by rfl) (by omega) (by omega)).mono ?_; rintro e w3 ⟨v3, rfl, va3, vb3, hr3⟩)
    | (have _ := hr1; go_at_call 82; refine (l11Place_s rb (p + 100) _ (by exact RS.up hr1 (by omega)) (by omega)).mono ?_; rintro e w2 ⟨x2, y2, rfl, hd2, hr2⟩)
    | (go_at_call 81; refine (l11Shape_s rb p _ (by exact hs1) (by omega)).mono ?_; rintro e w1 ⟨k1, g1, h1, rfl, hd1, hr1⟩))
    go_meet
    have hz5 := ht5.size
    have hz5' : w0.heap.size ≤ w5.heap.size := Nat.le_trans (RB.size hr1) (Nat.le_trans (RB.size hr2) (Nat.le_trans (RB.size hr3) (Nat.le_trans (RB.size hr4) (RB.size hr5))))
    have ht0 := (RB.but hr1).trans ((RB.but hr2).trans ((RB.but hr3).trans ((RB.but hr4).trans (RB.but hr5))))
    have hlo := r0.2.1
    exact ⟨_, fun j => [id, k1, g1, h1, x2, y2, 0, 0, v3, v4, v5, 0].getD j 0, rfl, ht5.alloc _, (RS.up hr5 (by omega)).alloc _, (r0.up hlt ht0).up hlt (but_alloc rb _ _), Al.new hz5 (by intro i hi; rcases (show i = 0 ∨ i = 1 ∨ i = 2 ∨ i = 3 ∨ i = 4 ∨ i = 5 ∨ i = 6 ∨ i = 7 ∨ i = 8 ∨ i = 9 ∨ i = 10 ∨ i = 11 by omega) with rfl | rfl | rfl | rfl | rfl | rfl | rfl | rfl | rfl | rfl | rfl | rfl <;> rfl), by omega, bf_mk hid hd1.1 hd1.2.1 hd1.2.2 hd2.1.bn hd2.2.bn ⟨by omega, by omega⟩ ⟨by omega, by omega⟩ va3 vb3 ⟨by omega, by omega⟩ ⟨by omega, by omega⟩ ⟨by omega, by omega⟩⟩
  case rest =>
  obtain ⟨ab, V, rfl, hD⟩ := hcut
  clear hs1 hb0 r0 hz0 w0
  go_upto_region 2 with fail
  have hc8 := hD.bod.2.2.1 8 (by omega)
  have hlo := hD.far
  go_cut [] (fun wc => ∃ V : Nat → Int, DB w wc rb (p + 600) ab V)
  case first =>
    go_wp2_with (go_at_call 83; refine (l11Drive_s rb (p + 500) _ _ (by exact hD.rs) (by omega) ⟨hD.bf.2.1, hD.bf.2.2⟩).mono ?_; rintro e w6 ⟨x6, y6, rfl, hd6, hr6⟩; have hD6 := (hD.call hlt hr6).mono (p1 := p + 600) (by omega); have kc0 := (hD6.bod).2.2.1 0 (by omega); have kf0 := (hD6.bod).2.2.2 0 (by omega); have kc1 := (hD6.bod).2.2.1 1 (by omega); have kf1 := (hD6.bod).2.2.2 1 (by omega); have kc2 := (hD6.bod).2.2.1 2 (by omega); have kf2 := (hD6.bod).2.2.2 2 (by omega); have kc3 := (hD6.bod).2.2.1 3 (by omega); have kf3 := (hD6.bod).2.2.2 3 (by omega); have kc4 := (hD6.bod).2.2.1 4 (by omega); have kf4 := (hD6.bod).2.2.2 4 (by omega); have kc5 := (hD6.bod).2.2.1 5 (by omega); have kf5 := (hD6.bod).2.2.2 5 (by omega); have kc6 := (hD6.bod).2.2.1 6 (by omega); have kf6 := (hD6.bod).2.2.2 6 (by omega); have kc7 := (hD6.bod).2.2.1 7 (by omega); have kf7 := (hD6.bod).2.2.2 7 (by omega); have kc8 := (hD6.bod).2.2.1 8 (by omega); have kf8 := (hD6.bod).2.2.2 8 (by omega); have kc9 := (hD6.bod).2.2.1 9 (by omega); have kf9 := (hD6.bod).2.2.2 9 (by omega); have kc10 := (hD6.bod).2.2.1 10 (by omega); have kf10 := (hD6.bod).2.2.2 10 (by omega); have kc11 := (hD6.bod).2.2.1 11 (by omega); have kf11 := (hD6.bod).2.2.2 11 (by omega))
    go_meet
    exact ⟨_, (hD6.set hlt 6 (by omega) x6 (hD6.bf.set ⟨by omega, by omega⟩ (by omega))).set hlt 7 (by omega) y6 ((hD6.bf.set ⟨by omega, by omega⟩ (by omega)).set ⟨by omega, by omega⟩ (by omega))⟩
  case rest =>
  clear hD hc8
  obtain ⟨V, hD⟩ := hcut
  go_upto_region 3 with fail
  go_cut [27] (fun s27 wc => ∃ (v7 : Int) (V : Nat → Int), s27 = .int .i64 v7 ∧ DB w wc rb (p + 650) ab V)
  case first =>
    go_wp2_with (go_at_call 21; refine (pick_s rb (p + 600) _ _ (by exact hD.rs) (by omega) (by omega) (by omega)).mono ?_; rintro e w7 ⟨v7, rfl, va7, vb7, hr7⟩)
    go_meet
    exact ⟨_, _, rfl, (hD.call hlt hr7).mono (by omega)⟩
  case rest =>
  clear hD
  obtain ⟨v7, V, rfl, hD⟩ := hcut
  have hD7 := hD.mono (p1 := p + 700) (by omega)
  have kc0 := (hD7.bod).2.2.1 0 (by omega)
  have kf0 := (hD7.bod).2.2.2 0 (by omega)
  have kc1 := (hD7.bod).2.2.1 1 (by omega)
  have kf1 := (hD7.bod).2.2.2 1 (by omega)
  have kc2 := (hD7.bod).2.2.1 2 (by omega)
  have kf2 := (hD7.bod).2.2.2 2 (by omega)
  have kc3 := (hD7.bod).2.2.1 3 (by omega)
  have kf3 := (hD7.bod).2.2.2 3 (by omega)
  have kc4 := (hD7.bod).2.2.1 4 (by omega)
  have kf4 := (hD7.bod).2.2.2 4 (by omega)
  have kc5 := (hD7.bod).2.2.1 5 (by omega)
  have kf5 := (hD7.bod).2.2.2 5 (by omega)
  have kc6 := (hD7.bod).2.2.1 6 (by omega)
  have kf6 := (hD7.bod).2.2.2 6 (by omega)
  have kc7 := (hD7.bod).2.2.1 7 (by omega)
  have kf7 := (hD7.bod).2.2.2 7 (by omega)
  have kc8 := (hD7.bod).2.2.1 8 (by omega)
  have kf8 := (hD7.bod).2.2.2 8 (by omega)
  have kc9 := (hD7.bod).2.2.1 9 (by omega)
  have kf9 := (hD7.bod).2.2.2 9 (by omega)
  have kc10 := (hD7.bod).2.2.1 10 (by omega)
  have kf10 := (hD7.bod).2.2.2 10 (by omega)
  have kc11 := (hD7.bod).2.2.1 11 (by omega)
  have kf11 := (hD7.bod).2.2.2 11 (by omega)
  go_upto_region 9 with (go_at_call 21; refine (pick_s rb (p + 650) _ _ (by exact hD.rs) (by omega) (by omega) (by omega)).mono ?_; rintro e w8 ⟨v8, rfl, va8, vb8, hr8⟩; have hD8 := (hD.call hlt hr8).mono (p1 := p + 700) (by omega); have mc0 := (hD8.bod).2.2.1 0 (by omega); have mf0 := (hD8.bod).2.2.2 0 (by omega); have mc1 := (hD8.bod).2.2.1 1 (by omega); have mf1 := (hD8.bod).2.2.2 1 (by omega); have mc2 := (hD8.bod).2.2.1 2 (by omega); have mf2 := (hD8.bod).2.2.2 2 (by omega); have mc3 := (hD8.bod).2.2.1 3 (by omega); have mf3 := (hD8.bod).2.2.2 3 (by omega); have mc4 := (hD8.bod).2.2.1 4 (by omega); have mf4 := (hD8.bod).2.2.2 4 (by omega); have mc5 := (hD8.bod).2.2.1 5 (by omega); have mf5 := (hD8.bod).2.2.2 5 (by omega); have mc6 := (hD8.bod).2.2.1 6 (by omega); have mf6 := (hD8.bod).2.2.2 6 (by omega); have mc7 := (hD8.bod).2.2.1 7 (by omega); have mf7 := (hD8.bod).2.2.2 7 (by omega); have mc8 := (hD8.bod).2.2.1 8 (by omega); have mf8 := (hD8.bod).2.2.2 8 (by omega); have mc9 := (hD8.bod).2.2.1 9 (by omega); have mf9 := (hD8.bod).2.2.2 9 (by omega); have mc10 := (hD8.bod).2.2.1 10 (by omega); have mf10 := (hD8.bod).2.2.2 10 (by omega); have mc11 := (hD8.bod).2.2.1 11 (by omega); have mf11 := (hD8.bod).2.2.2 11 (by omega))
  · clear kc0 kf0 kc1 kf1 kc2 kf2 kc3 kf3 kc4 kf4 kc5 kf5 kc6 kf6 kc7 kf7 kc8 kf8 kc9 kf9 kc10 kf10 kc11 kf11
    clear mc0 mf0 mc1 mf1 mc2 mf2 mc3 mf3 mc4 mf4 mc5 mf5 mc6 mf6 mc7 mf7 mc8 mf8 mc9 mf9 mc10 mf10 mc11 mf11
    have hE := (hD8.set hlt 11 (by omega) v8 (hD8.bf.set ⟨by omega, by omega⟩ (by omega)))
    generalize (w8.setCell ⟨ab, 11, none⟩ (.int .i64 v8)) = wx at hE ⊢
    obtain ⟨Vx, hE⟩ : ∃ Vx, DB w wx rb (p + 700) ab Vx := ⟨_, hE⟩
    have h0 := hE
    have ec0 := (hE.bod).2.2.1 0 (by omega)
    have ef0 := (hE.bod).2.2.2 0 (by omega)
    have ec1 := (hE.bod).2.2.1 1 (by omega)
    have ef1 := (hE.bod).2.2.2 1 (by omega)
    have ec2 := (hE.bod).2.2.1 2 (by omega)
    have ef2 := (hE.bod).2.2.2 2 (by omega)
    have ec3 := (hE.bod).2.2.1 3 (by omega)
    have ef3 := (hE.bod).2.2.2 3 (by omega)
    have ec4 := (hE.bod).2.2.1 4 (by omega)
    have ef4 := (hE.bod).2.2.2 4 (by omega)
    have ec5 := (hE.bod).2.2.1 5 (by omega)
    have ef5 := (hE.bod).2.2.2 5 (by omega)
    have ec6 := (hE.bod).2.2.1 6 (by omega)
    have ef6 := (hE.bod).2.2.2 6 (by omega)
    have ec7 := (hE.bod).2.2.1 7 (by omega)
    have ef7 := (hE.bod).2.2.2 7 (by omega)
    have ec8 := (hE.bod).2.2.1 8 (by omega)
    have ef8 := (hE.bod).2.2.2 8 (by omega)
    have ec9 := (hE.bod).2.2.1 9 (by omega)
    have ef9 := (hE.bod).2.2.2 9 (by omega)
    have ec10 := (hE.bod).2.2.1 10 (by omega)
    have ef10 := (hE.bod).2.2.2 10 (by omega)
    have ec11 := (hE.bod).2.2.1 11 (by omega)
    have ef11 := (hE.bod).2.2.2 11 (by omega)
    have rc0 := (hE.res).2.2.1 0 (by omega)
    have rf0 := (hE.res).2.2.2 0 (by omega)
    have rc1 := (hE.res).2.2.1 1 (by omega)
    have rf1 := (hE.res).2.2.2 1 (by omega)
    have rc2 := (hE.res).2.2.1 2 (by omega)
    have rf2 := (hE.res).2.2.2 2 (by omega)
    have rc3 := (hE.res).2.2.1 3 (by omega)
    have rf3 := (hE.res).2.2.2 3 (by omega)
    have rc4 := (hE.res).2.2.1 4 (by omega)
    have rf4 := (hE.res).2.2.2 4 (by omega)
    have rc5 := (hE.res).2.2.1 5 (by omega)
    have rf5 := (hE.res).2.2.2 5 (by omega)
    have rc6 := (hE.res).2.2.1 6 (by omega)
    have rf6 := (hE.res).2.2.2 6 (by omega)
    have rc7 := (hE.res).2.2.1 7 (by omega)
    have rf7 := (hE.res).2.2.2 7 (by omega)
    have rc8 := (hE.res).2.2.1 8 (by omega)
    have rf8 := (hE.res).2.2.2 8 (by omega)
    have rc9 := (hE.res).2.2.1 9 (by omega)
    have rf9 := (hE.res).2.2.2 9 (by omega)
    have rc10 := (hE.res).2.2.1 10 (by omega)
    have rf10 := (hE.res).2.2.2 10 (by omega)
    have rc11 := (hE.res).2.2.1 11 (by omega)
    have rf11 := (hE.res).2.2.2 11 (by omega)
    go_upto_region 11 with fail
    · have hF := (hE.set hlt 11 (by omega) 0 (hE.bf.set ⟨by omega, by omega⟩ (by omega)))
      clear ec0 ef0 rc0 rf0 ec1 ef1 rc1 rf1 ec2 ef2 rc2 rf2 ec3 ef3 rc3 rf3 ec4 ef4 rc4 rf4 ec5 ef5 rc5 rf5 ec6 ef6 rc6 rf6 ec7 ef7 rc7 rf7 ec8 ef8 rc8 rf8 ec9 ef9 rc9 rf9 ec10 ef10 rc10 rf10 ec11 ef11 rc11 rf11
      generalize (wx.setCell ⟨ab, 11, none⟩ (.int .i64 0)) = wy at hF ⊢
      obtain ⟨Vy, hF⟩ : ∃ Vy, DB w wy rb (p + 700) ab Vy := ⟨_, hF⟩
      have h1 := hF
      have ec0 := (hF.bod).2.2.1 0 (by omega)
      have ef0 := (hF.bod).2.2.2 0 (by omega)
      have ec1 := (hF.bod).2.2.1 1 (by omega)
      have ef1 := (hF.bod).2.2.2 1 (by omega)
      have ec2 := (hF.bod).2.2.1 2 (by omega)
      have ef2 := (hF.bod).2.2.2 2 (by omega)
      have ec3 := (hF.bod).2.2.1 3 (by omega)
      have ef3 := (hF.bod).2.2.2 3 (by omega)
      have ec4 := (hF.bod).2.2.1 4 (by omega)
      have ef4 := (hF.bod).2.2.2 4 (by omega)
      have ec5 := (hF.bod).2.2.1 5 (by omega)
      have ef5 := (hF.bod).2.2.2 5 (by omega)
      have ec6 := (hF.bod).2.2.1 6 (by omega)
      have ef6 := (hF.bod).2.2.2 6 (by omega)
      have ec7 := (hF.bod).2.2.1 7 (by omega)
      have ef7 := (hF.bod).2.2.2 7 (by omega)
      have ec8 := (hF.bod).2.2.1 8 (by omega)
      have ef8 := (hF.bod).2.2.2 8 (by omega)
      have ec9 := (hF.bod).2.2.1 9 (by omega)
      have ef9 := (hF.bod).2.2.2 9 (by omega)
      have ec10 := (hF.bod).2.2.1 10 (by omega)
      have ef10 := (hF.bod).2.2.2 10 (by omega)
      have ec11 := (hF.bod).2.2.1 11 (by omega)
      have ef11 := (hF.bod).2.2.2 11 (by omega)
      have rc0 := (hF.res).2.2.1 0 (by omega)
      have rf0 := (hF.res).2.2.2 0 (by omega)
      have rc1 := (hF.res).2.2.1 1 (by omega)
      have rf1 := (hF.res).2.2.2 1 (by omega)
      have rc2 := (hF.res).2.2.1 2 (by omega)
      have rf2 := (hF.res).2.2.2 2 (by omega)
      have rc3 := (hF.res).2.2.1 3 (by omega)
      have rf3 := (hF.res).2.2.2 3 (by omega)
      have rc4 := (hF.res).2.2.1 4 (by omega)
      have rf4 := (hF.res).2.2.2 4 (by omega)
      have rc5 := (hF.res).2.2.1 5 (by omega)
      have rf5 := (hF.res).2.2.2 5 (by omega)
      have rc6 := (hF.res).2.2.1 6 (by omega)
      have rf6 := (hF.res).2.2.2 6 (by omega)
      have rc7 := (hF.res).2.2.1 7 (by omega)
      have rf7 := (hF.res).2.2.2 7 (by omega)
      have rc8 := (hF.res).2.2.1 8 (by omega)
      have rf8 := (hF.res).2.2.2 8 (by omega)
      have rc9 := (hF.res).2.2.1 9 (by omega)
      have rf9 := (hF.res).2.2.2 9 (by omega)
      have rc10 := (hF.res).2.2.1 10 (by omega)
      have rf10 := (hF.res).2.2.2 10 (by omega)
      have rc11 := (hF.res).2.2.1 11 (by omega)
      have rf11 := (hF.res).2.2.2 11 (by omega)
      go_wp2_with fail
      exact bodyPost_ret (v := bodyW Vy) (by simp [results, Try.results66, go_sem, *]) rfl ⟨Vy, rfl, hF.bf, RB.mk ((((((((((((hF.but.setNew (by simp) _).setNew (by simp) _).setNew (by simp) _).setNew (by simp) _).setNew (by simp) _).setNew (by simp) _).setNew (by simp) _).setNew (by simp) _).setNew (by simp) _).setNew (by simp) _).setNew (by simp) _).setNew (by simp) _) (((((((((((((hF.rs.mono (by omega)).setNew (by simp; omega) _).setNew (by simp; omega) _).setNew (by simp; omega) _).setNew (by simp; omega) _).setNew (by simp; omega) _).setNew (by simp; omega) _).setNew (by simp; omega) _).setNew (by simp; omega) _).setNew (by simp; omega) _).setNew (by simp; omega) _).setNew (by simp; omega) _).setNew (by simp; omega) _)⟩
    · have hF := hE
      go_wp2_with fail
      exact bodyPost_ret (v := bodyW Vx) (by simp [results, Try.results66, go_sem, *]) rfl ⟨Vx, rfl, hF.bf, RB.mk ((((((((((((hF.but.setNew (by simp) _).setNew (by simp) _).setNew (by simp) _).setNew (by simp) _).setNew (by simp) _).setNew (by simp) _).setNew (by simp) _).setNew (by simp) _).setNew (by simp) _).setNew (by simp) _).setNew (by simp) _).setNew (by simp) _) (((((((((((((hF.rs.mono (by omega)).setNew (by simp; omega) _).setNew (by simp; omega) _).setNew (by simp; omega) _).setNew (by simp; omega) _).setNew (by simp; omega) _).setNew (by simp; omega) _).setNew (by simp; omega) _).setNew (by simp; omega) _).setNew (by simp; omega) _).setNew (by simp; omega) _).setNew (by simp; omega) _).setNew (by simp; omega) _)⟩
  · clear kc0 kf0 kc1 kf1 kc2 kf2 kc3 kf3 kc4 kf4 kc5 kf5 kc6 kf6 kc7 kf7 kc8 kf8 kc9 kf9 kc10 kf10 kc11 kf11
    have hE := (((hD7.set hlt 11 (by omega) 8 (hD7.bf.set ⟨by omega, by omega⟩ (by omega))).set hlt 6 (by omega) 0 ((hD7.bf.set ⟨by omega, by omega⟩ (by omega)).set ⟨by omega, by omega⟩ (by omega))).set hlt 7 (by omega) 0 (((hD7.bf.set ⟨by omega, by omega⟩ (by omega)).set ⟨by omega, by omega⟩ (by omega)).set ⟨by omega, by omega⟩ (by omega)))
    generalize (((wc.setCell ⟨ab, 11, none⟩ (.int .i64 8)).setCell ⟨ab, 6, none⟩ (.int .i64 0)).setCell ⟨ab, 7, none⟩ (.int .i64 0)) = wx at hE ⊢
    obtain ⟨Vx, hE⟩ : ∃ Vx, DB w wx rb (p + 700) ab Vx := ⟨_, hE⟩
    have h0 := hE
    have ec0 := (hE.bod).2.2.1 0 (by omega)
    have ef0 := (hE.bod).2.2.2 0 (by omega)
    have ec1 := (hE.bod).2.2.1 1 (by omega)
    have ef1 := (hE.bod).2.2.2 1 (by omega)
    have ec2 := (hE.bod).2.2.1 2 (by omega)
    have ef2 := (hE.bod).2.2.2 2 (by omega)
    have ec3 := (hE.bod).2.2.1 3 (by omega)
    have ef3 := (hE.bod).2.2.2 3 (by omega)
    have ec4 := (hE.bod).2.2.1 4 (by omega)
    have ef4 := (hE.bod).2.2.2 4 (by omega)
    have ec5 := (hE.bod).2.2.1 5 (by omega)
    have ef5 := (hE.bod).2.2.2 5 (by omega)
    have ec6 := (hE.bod).2.2.1 6 (by omega)
    have ef6 := (hE.bod).2.2.2 6 (by omega)
    have ec7 := (hE.bod).2.2.1 7 (by omega)
    have ef7 := (hE.bod).2.2.2 7 (by omega)
    have ec8 := (hE.bod).2.2.1 8 (by omega)
    have ef8 := (hE.bod).2.2.2 8 (by omega)
    have ec9 := (hE.bod).2.2.1 9 (by omega)
    have ef9 := (hE.bod).2.2.2 9 (by omega)
    have ec10 := (hE.bod).2.2.1 10 (by omega)
    have ef10 := (hE.bod).2.2.2 10 (by omega)
    have ec11 := (hE.bod).2.2.1 11 (by omega)
    have ef11 := (hE.bod).2.2.2 11 (by omega)
    have rc0 := (hE.res).2.2.1 0 (by omega)
    have rf0 := (hE.res).2.2.2 0 (by omega)
    have rc1 := (hE.res).2.2.1 1 (by omega)
    have rf1 := (hE.res).2.2.2 1 (by omega)
    have rc2 := (hE.res).2.2.1 2 (by omega)
    have rf2 := (hE.res).2.2.2 2 (by omega)
    have rc3 := (hE.res).2.2.1 3 (by omega)
    have rf3 := (hE.res).2.2.2 3 (by omega)
    have rc4 := (hE.res).2.2.1 4 (by omega)
    have rf4 := (hE.res).2.2.2 4 (by omega)
    have rc5 := (hE.res).2.2.1 5 (by omega)
    have rf5 := (hE.res).2.2.2 5 (by omega)
    have rc6 := (hE.res).2.2.1 6 (by omega)
    have rf6 := (hE.res).2.2.2 6 (by omega)
    have rc7 := (hE.res).2.2.1 7 (by omega)
    have rf7 := (hE.res).2.2.2 7 (by omega)
    have rc8 := (hE.res).2.2.1 8 (by omega)
    have rf8 := (hE.res).2.2.2 8 (by omega)
    have rc9 := (hE.res).2.2.1 9 (by omega)
    have rf9 := (hE.res).2.2.2 9 (by omega)
    have rc10 := (hE.res).2.2.1 10 (by omega)
    have rf10 := (hE.res).2.2.2 10 (by omega)
    have rc11 := (hE.res).2.2.1 11 (by omega)
    have rf11 := (hE.res).2.2.2 11 (by omega)
    go_upto_region 11 with fail
    · have hF := (hE.set hlt 11 (by omega) 0 (hE.bf.set ⟨by omega, by omega⟩ (by omega)))
      clear ec0 ef0 rc0 rf0 ec1 ef1 rc1 rf1 ec2 ef2 rc2 rf2 ec3 ef3 rc3 rf3 ec4 ef4 rc4 rf4 ec5 ef5 rc5 rf5 ec6 ef6 rc6 rf6 ec7 ef7 rc7 rf7 ec8 ef8 rc8 rf8 ec9 ef9 rc9 rf9 ec10 ef10 rc10 rf10 ec11 ef11 rc11 rf11
      generalize (wx.setCell ⟨ab, 11, none⟩ (.int .i64 0)) = wy at hF ⊢
      obtain ⟨Vy, hF⟩ : ∃ Vy, DB w wy rb (p + 700) ab Vy := ⟨_, hF⟩
      have h1 := hF
      have ec0 := (hF.bod).2.2.1 0 (by omega)
      have ef0 := (hF.bod).2.2.2 0 (by omega)
      have ec1 := (hF.bod).2.2.1 1 (by omega)
      have ef1 := (hF.bod).2.2.2 1 (by omega)
      have ec2 := (hF.bod).2.2.1 2 (by omega)
      have ef2 := (hF.bod).2.2.2 2 (by omega)
      have ec3 := (hF.bod).2.2.1 3 (by omega)
      have ef3 := (hF.bod).2.2.2 3 (by omega)
      have ec4 := (hF.bod).2.2.1 4 (by omega)
      have ef4 := (hF.bod).2.2.2 4 (by omega)
      have ec5 := (hF.bod).2.2.1 5 (by omega)
      have ef5 := (hF.bod).2.2.2 5 (by omega)
      have ec6 := (hF.bod).2.2.1 6 (by omega)
      have ef6 := (hF.bod).2.2.2 6 (by omega)
      have ec7 := (hF.bod).2.2.1 7 (by omega)
      have ef7 := (hF.bod).2.2.2 7 (by omega)
      have ec8 := (hF.bod).2.2.1 8 (by omega)
      have ef8 := (hF.bod).2.2.2 8 (by omega)
      have ec9 := (hF.bod).2.2.1 9 (by omega)
      have ef9 := (hF.bod).2.2.2 9 (by omega)
      have ec10 := (hF.bod).2.2.1 10 (by omega)
      have ef10 := (hF.bod).2.2.2 10 (by omega)
      have ec11 := (hF.bod).2.2.1 11 (by omega)
      have ef11 := (hF.bod).2.2.2 11 (by omega)
      have rc0 := (hF.res).2.2.1 0 (by omega)
      have rf0 := (hF.res).2.2.2 0 (by omega)
      have rc1 := (hF.res).2.2.1 1 (by omega)
      have rf1 := (hF.res).2.2.2 1 (by omega)
      have rc2 := (hF.res).2.2.1 2 (by omega)
      have rf2 := (hF.res).2.2.2 2 (by omega)
      have rc3 := (hF.res).2.2.1 3 (by omega)
      have rf3 := (hF.res).2.2.2 3 (by omega)
      have rc4 := (hF.res).2.2.1 4 (by omega)
      have rf4 := (hF.res).2.2.2 4 (by omega)
      have rc5 := (hF.res).2.2.1 5 (by omega)
      have rf5 := (hF.res).2.2.2 5 (by omega)
      have rc6 := (hF.res).2.2.1 6 (by omega)
      have rf6 := (hF.res).2.2.2 6 (by omega)
      have rc7 := (hF.res).2.2.1 7 (by omega)
      have rf7 := (hF.res).2.2.2 7 (by omega)
      have rc8 := (hF.res).2.2.1 8 (by omega)
      have rf8 := (hF.res).2.2.2 8 (by omega)
      have rc9 := (hF.res).2.2.1 9 (by omega)
      have rf9 := (hF.res).2.2.2 9 (by omega)
      have rc10 := (hF.res).2.2.1 10 (by omega)
      have rf10 := (hF.res).2.2.2 10 (by omega)
      have rc11 := (hF.res).2.2.1 11 (by omega)
      have rf11 := (hF.res).2.2.2 11 (by omega)
      go_wp2_with fail
      exact bodyPost_ret (v := bodyW Vy) (by simp [results, Try.results66, go_sem, *]) rfl ⟨Vy, rfl, hF.bf, RB.mk ((((((((((((hF.but.setNew (by simp) _).setNew (by simp) _).setNew (by simp) _).setNew (by simp) _).setNew (by simp) _).setNew (by simp) _).setNew (by simp) _).setNew (by simp) _).setNew (by simp) _).setNew (by simp) _).setNew (by simp) _).setNew (by simp) _) (((((((((((((hF.rs.mono (by omega)).setNew (by simp; omega) _).setNew (by simp; omega) _).setNew (by simp; omega) _).setNew (by simp; omega) _).setNew (by simp; omega) _).setNew (by simp; omega) _).setNew (by simp; omega) _).setNew (by simp; omega) _).setNew (by simp; omega) _).setNew (by simp; omega) _).setNew (by simp; omega) _).setNew (by simp; omega) _)⟩
    · have hF := hE
      go_wp2_with fail
      exact bodyPost_ret (v := bodyW Vx) (by simp [results, Try.results66, go_sem, *]) rfl ⟨Vx, rfl, hF.bf, RB.mk ((((((((((((hF.but.setNew (by simp) _).setNew (by simp) _).setNew (by simp) _).setNew (by simp) _).setNew (by simp) _).setNew (by simp) _).setNew (by simp) _).setNew (by simp) _).setNew (by simp) _).setNew (by simp) _).setNew (by simp) _).setNew (by simp) _) (((((((((((((hF.rs.mono (by omega)).setNew (by simp; omega) _).setNew (by simp; omega) _).setNew (by simp; omega) _).setNew (by simp; omega) _).setNew (by simp; omega) _).setNew (by simp; omega) _).setNew (by simp; omega) _).setNew (by simp; omega) _).setNew (by simp; omega) _).setNew (by simp; omega) _).setNew (by simp; omega) _).setNew (by simp; omega) _)⟩
  · clear kc0 kf0 kc1 kf1 kc2 kf2 kc3 kf3 kc4 kf4 kc5 kf5 kc6 kf6 kc7 kf7 kc8 kf8 kc9 kf9 kc10 kf10 kc11 kf11
    have hE := hD7
    obtain ⟨Vx, hE⟩ : ∃ Vx, DB w wc rb (p + 700) ab Vx := ⟨_, hE⟩
    have h0 := hE
    have ec0 := (hE.bod).2.2.1 0 (by omega)
    have ef0 := (hE.bod).2.2.2 0 (by omega)
    have ec1 := (hE.bod).2.2.1 1 (by omega)
    have ef1 := (hE.bod).2.2.2 1 (by omega)
    have ec2 := (hE.bod).2.2.1 2 (by omega)
    have ef2 := (hE.bod).2.2.2 2 (by omega)
    have ec3 := (hE.bod).2.2.1 3 (by omega)
    have ef3 := (hE.bod).2.2.2 3 (by omega)
    have ec4 := (hE.bod).2.2.1 4 (by omega)
    have ef4 := (hE.bod).2.2.2 4 (by omega)
    have ec5 := (hE.bod).2.2.1 5 (by omega)
    have ef5 := (hE.bod).2.2.2 5 (by omega)
    have ec6 := (hE.bod).2.2.1 6 (by omega)
    have ef6 := (hE.bod).2.2.2 6 (by omega)
    have ec7 := (hE.bod).2.2.1 7 (by omega)
    have ef7 := (hE.bod).2.2.2 7 (by omega)
    have ec8 := (hE.bod).2.2.1 8 (by omega)
    have ef8 := (hE.bod).2.2.2 8 (by omega)
    have ec9 := (hE.bod).2.2.1 9 (by omega)
    have ef9 := (hE.bod).2.2.2 9 (by omega)
    have ec10 := (hE.bod).2.2.1 10 (by omega)
    have ef10 := (hE.bod).2.2.2 10 (by omega)
    have ec11 := (hE.bod).2.2.1 11 (by omega)
    have ef11 := (hE.bod).2.2.2 11 (by omega)
    have rc0 := (hE.res).2.2.1 0 (by omega)
    have rf0 := (hE.res).2.2.2 0 (by omega)
    have rc1 := (hE.res).2.2.1 1 (by omega)
    have rf1 := (hE.res).2.2.2 1 (by omega)
    have rc2 := (hE.res).2.2.1 2 (by omega)
    have rf2 := (hE.res).2.2.2 2 (by omega)
    have rc3 := (hE.res).2.2.1 3 (by omega)
    have rf3 := (hE.res).2.2.2 3 (by omega)
    have rc4 := (hE.res).2.2.1 4 (by omega)
    have rf4 := (hE.res).2.2.2 4 (by omega)
    have rc5 := (hE.res).2.2.1 5 (by omega)
    have rf5 := (hE.res).2.2.2 5 (by omega)
    have rc6 := (hE.res).2.2.1 6 (by omega)
    have rf6 := (hE.res).2.2.2 6 (by omega)
    have rc7 := (hE.res).2.2.1 7 (by omega)
    have rf7 := (hE.res).2.2.2 7 (by omega)
    have rc8 := (hE.res).2.2.1 8 (by omega)
    have rf8 := (hE.res).2.2.2 8 (by omega)
    have rc9 := (hE.res).2.2.1 9 (by omega)
    have rf9 := (hE.res).2.2.2 9 (by omega)
    have rc10 := (hE.res).2.2.1 10 (by omega)
    have rf10 := (hE.res).2.2.2 10 (by omega)
    have rc11 := (hE.res).2.2.1 11 (by omega)
    have rf11 := (hE.res).2.2.2 11 (by omega)
    go_upto_region 11 with fail
    · have hF := (hE.set hlt 11 (by omega) 0 (hE.bf.set ⟨by omega, by omega⟩ (by omega)))
      clear ec0 ef0 rc0 rf0 ec1 ef1 rc1 rf1 ec2 ef2 rc2 rf2 ec3 ef3 rc3 rf3 ec4 ef4 rc4 rf4 ec5 ef5 rc5 rf5 ec6 ef6 rc6 rf6 ec7 ef7 rc7 rf7 ec8 ef8 rc8 rf8 ec9 ef9 rc9 rf9 ec10 ef10 rc10 rf10 ec11 ef11 rc11 rf11
      generalize (wc.setCell ⟨ab, 11, none⟩ (.int .i64 0)) = wy at hF ⊢
      obtain ⟨Vy, hF⟩ : ∃ Vy, DB w wy rb (p + 700) ab Vy := ⟨_, hF⟩
      have h1 := hF
      have ec0 := (hF.bod).2.2.1 0 (by omega)
      have ef0 := (hF.bod).2.2.2 0 (by omega)
      have ec1 := (hF.bod).2.2.1 1 (by omega)
      have ef1 := (hF.bod).2.2.2 1 (by omega)
      have ec2 := (hF.bod).2.2.1 2 (by omega)
      have ef2 := (hF.bod).2.2.2 2 (by omega)
      have ec3 := (hF.bod).2.2.1 3 (by omega)
      have ef3 := (hF.bod).2.2.2 3 (by omega)
      have ec4 := (hF.bod).2.2.1 4 (by omega)
      have ef4 := (hF.bod).2.2.2 4 (by omega)
      have ec5 := (hF.bod).2.2.1 5 (by omega)
      have ef5 := (hF.bod).2.2.2 5 (by omega)
      have ec6 := (hF.bod).2.2.1 6 (by omega)
      have ef6 := (hF.bod).2.2.2 6 (by omega)
      have ec7 := (hF.bod).2.2.1 7 (by omega)
      have ef7 := (hF.bod).2.2.2 7 (by omega)
      have ec8 := (hF.bod).2.2.1 8 (by omega)
      have ef8 := (hF.bod).2.2.2 8 (by omega)
      have ec9 := (hF.bod).2.2.1 9 (by omega)
      have ef9 := (hF.bod).2.2.2 9 (by omega)
      have ec10 := (hF.bod).2.2.1 10 (by omega)
      have ef10 := (hF.bod).2.2.2 10 (by omega)
      have ec11 := (hF.bod).2.2.1 11 (by omega)
      have ef11 := (hF.bod).2.2.2 11 (by omega)
      have rc0 := (hF.res).2.2.1 0 (by omega)
      have rf0 := (hF.res).2.2.2 0 (by omega)
      have rc1 := (hF.res).2.2.1 1 (by omega)
      have rf1 := (hF.res).2.2.2 1 (by omega)
      have rc2 := (hF.res).2.2.1 2 (by omega)
      have rf2 := (hF.res).2.2.2 2 (by omega)
      have rc3 := (hF.res).2.2.1 3 (by omega)
      have rf3 := (hF.res).2.2.2 3 (by omega)
      have rc4 := (hF.res).2.2.1 4 (by omega)
      have rf4 := (hF.res).2.2.2 4 (by omega)
      have rc5 := (hF.res).2.2.1 5 (by omega)
      have rf5 := (hF.res).2.2.2 5 (by omega)
      have rc6 := (hF.res).2.2.1 6 (by omega)
      have rf6 := (hF.res).2.2.2 6 (by omega)
      have rc7 := (hF.res).2.2.1 7 (by omega)
      have rf7 := (hF.res).2.2.2 7 (by omega)
      have rc8 := (hF.res).2.2.1 8 (by omega)
      have rf8 := (hF.res).2.2.2 8 (by omega)
      have rc9 := (hF.res).2.2.1 9 (by omega)
      have rf9 := (hF.res).2.2.2 9 (by omega)
      have rc10 := (hF.res).2.2.1 10 (by omega)
      have rf10 := (hF.res).2.2.2 10 (by omega)
      have rc11 := (hF.res).2.2.1 11 (by omega)
      have rf11 := (hF.res).2.2.2 11 (by omega)
      go_wp2_with fail
      exact bodyPost_ret (v := bodyW Vy) (by simp [results, Try.results66, go_sem, *]) rfl ⟨Vy, rfl, hF.bf, RB.mk ((((((((((((hF.but.setNew (by simp) _).setNew (by simp) _).setNew (by simp) _).setNew (by simp) _).setNew (by simp) _).setNew (by simp) _).setNew (by simp) _).setNew (by simp) _).setNew (by simp) _).setNew (by simp) _).setNew (by simp) _).setNew (by simp) _) (((((((((((((hF.rs.mono (by omega)).setNew (by simp; omega) _).setNew (by simp; omega) _).setNew (by simp; omega) _).setNew (by simp; omega) _).setNew (by simp; omega) _).setNew (by simp; omega) _).setNew (by simp; omega) _).setNew (by simp; omega) _).setNew (by simp; omega) _).setNew (by simp; omega) _).setNew (by simp; omega) _).setNew (by simp; omega) _)⟩
    · have hF := hE
      go_wp2_with fail
      exact bodyPost_ret (v := bodyW Vx) (by simp [results, Try.results66, go_sem, *]) rfl ⟨Vx, rfl, hF.bf, RB.mk ((((((((((((hF.but.setNew (by simp) _).setNew (by simp) _).setNew (by simp) _).setNew (by simp) _).setNew (by simp) _).setNew (by simp) _).setNew (by simp) _).setNew (by simp) _).setNew (by simp) _).setNew (by simp) _).setNew (by simp) _).setNew (by simp) _) (((((((((((((hF.rs.mono (by omega)).setNew (by simp; omega) _).setNew (by simp; omega) _).setNew (by simp; omega) _).setNew (by simp; omega) _).setNew (by simp; omega) _).setNew (by simp; omega) _).setNew (by simp; omega) _).setNew (by simp; omega) _).setNew (by simp; omega) _).setNew (by simp; omega) _).setNew (by simp; omega) _).setNew (by simp; omega) _)⟩

end Go.Proofs.Ytpgoicdblbpcaaa
