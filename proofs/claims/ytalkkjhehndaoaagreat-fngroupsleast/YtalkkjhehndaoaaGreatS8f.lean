/- Texts of a proof. -/
import Derived.Test.YtalkkjhehndaoaaGreatB44
import Derived.Test.YtalkkjhehndaoaaGreatB32
import Derived.Deep.RegionHeld3
import Derived.Deep.DeepCutAuto
set_option maxHeartbeats 16000000
set_option maxRecDepth 20000
namespace Go.Proofs.YtalkkjhehndaoaaGreat
open Go.RowKit
set_option linter.unusedVariables false
set_option linter.unusedSimpArgs false
def fitsB (V W : Nat → Int) (p q : Int) : Bool := (decide (V 8 = 0) || inB 20000000 (V 6 - p) (V 7 - q)) && (decide (W 8 = 0) || inB 20000000 (W 6 + p) (W 7 + q))
theorem l8Fits_q (V W : Nat → Int) (p q : Int) (b : Bool) (w : World) (b6 : -20000000 ≤ V 6 ∧ V 6 ≤ 20000000) (b7 : -20000000 ≤ V 7 ∧ V 7 ≤ 20000000) (d6 : -20000000 ≤ W 6 ∧ W 6 ≤ 20000000) (d7 : -20000000 ≤ W 7 ∧ W 7 ≤ 20000000) (bp : -20000000 ≤ p ∧ p ≤ 20000000) (bq : -20000000 ≤ q ∧ q ≤ 20000000) (e : fitsB V W p q = b) :
 Calls Tryz.prog 115 #[bodyW V, bodyW W, vv p q] w fun e w' => e = .returned (.bool b) ∧ Below w.heap.size w w' := by
 have hset := cset_map
 have w1 : IntKind.i64.wrap (V 6 - p) = V 6 - p := i64w (by omega)
 have w2 : IntKind.i64.wrap (V 7 - q) = V 7 - q := i64w (by omega)
 have w3 : IntKind.i64.wrap (W 6 + p) = W 6 + p := i64w (by omega)
 have w4 : IntKind.i64.wrap (W 7 + q) = W 7 + q := i64w (by omega)
 clear b6 b7 d6 d7 bp bq
 obtain ⟨D1, hD1⟩ : ∃ b, inB 20000000 (V 6 - p) (V 7 - q) = b := ⟨_, rfl⟩
 obtain ⟨D2, hD2⟩ : ∃ b, inB 20000000 (W 6 + p) (W 7 + q) = b := ⟨_, rfl⟩
 unfold fitsB at e
 rw [hD1, hD2] at e
 by_cases m0 : V 8 = 0
 · have e1 : (V 8 == 0) = true := by simp [m0]
   by_cases m1 : W 8 = 0
   · have e2 : (W 8 == 0) = true := by simp [m1]
     have hb : b = true := by rw [← e]; rw [decide_eq_true m0, decide_eq_true m1]; rfl
     subst hb
     clear e
     have M0 : Shut (V 8 = 0) := m0
     clear m0
     have M1 : Shut (W 8 = 0) := m1
     clear m1
     go_enter Tryz.func115, Tryz.ntmps115
     go_wp2_with fail
     go_ret
     exact ⟨rfl, bel_a⟩
   · have e2 : (W 8 == 0) = false := by simp [m1]
     have hb : b = D2 := by rw [← e]; rw [decide_eq_true m0, decide_eq_false m1]; rfl
     rw [hb]
     clear e hb
     have M0 : Shut (V 8 = 0) := m0
     clear m0
     go_enter Tryz.func115, Tryz.ntmps115
     go_wp2_with (go_at_call 41; refine (l6Drive_q (W 6 + p) (W 7 + q) D2 _ hD2).mono ?_; rintro e w6 ⟨rfl, hb6⟩; obtain ⟨hc6, hf6⟩ := bcell hb6; have hz6 := hb6.size; (try simp only [World.size_drew, World.size_alloc, World.size_setCell] at hc6 hf6 hz6); have hk6x0 := fun o => hc6 (w.heap.size) o (by omega); have hj6x0 := fun o => hf6 (w.heap.size) o (by omega); have hq6x0 : w.heap.size < w6.heap.size := (by omega); have hk6x1 := fun o => hc6 (w.heap.size + 1) o (by omega); have hj6x1 := fun o => hf6 (w.heap.size + 1) o (by omega); have hq6x1 : w.heap.size + 1 < w6.heap.size := (by omega); have hk6x2 := fun o => hc6 (w.heap.size + 1 + 1) o (by omega); have hj6x2 := fun o => hf6 (w.heap.size + 1 + 1) o (by omega); have hq6x2 : w.heap.size + 1 + 1 < w6.heap.size := (by omega); have hk6x3 := fun o => hc6 (w.heap.size + 1 + 1 + 1) o (by omega); have hj6x3 := fun o => hf6 (w.heap.size + 1 + 1 + 1) o (by omega); have hq6x3 : w.heap.size + 1 + 1 + 1 < w6.heap.size := (by omega); have hk6x4 := fun o => hc6 (w.heap.size + 1 + 1 + 1 + 1) o (by omega); have hj6x4 := fun o => hf6 (w.heap.size + 1 + 1 + 1 + 1) o (by omega); have hq6x4 : w.heap.size + 1 + 1 + 1 + 1 < w6.heap.size := (by omega); clear hc6 hf6)
     go_ret
     exact ⟨by first | rfl | simp, bel_a⟩
 · have e1 : (V 8 == 0) = false := by simp [m0]
   cases D1 with
   | false =>
    have hb : b = false := by rw [← e]; rw [decide_eq_false m0]; rfl
    subst hb
    clear e
    go_enter Tryz.func115, Tryz.ntmps115
    go_wp2_with (go_at_call 41; refine (l6Drive_q (V 6 - p) (V 7 - q) false _ hD1).mono ?_; rintro e w5 ⟨rfl, hb5⟩; obtain ⟨hc5, hf5⟩ := bcell hb5; have hz5 := hb5.size; (try simp only [World.size_drew, World.size_alloc, World.size_setCell] at hc5 hf5 hz5); have hk5x0 := fun o => hc5 (w.heap.size) o (by omega); have hj5x0 := fun o => hf5 (w.heap.size) o (by omega); have hq5x0 : w.heap.size < w5.heap.size := (by omega); have hk5x1 := fun o => hc5 (w.heap.size + 1) o (by omega); have hj5x1 := fun o => hf5 (w.heap.size + 1) o (by omega); have hq5x1 : w.heap.size + 1 < w5.heap.size := (by omega); have hk5x2 := fun o => hc5 (w.heap.size + 1 + 1) o (by omega); have hj5x2 := fun o => hf5 (w.heap.size + 1 + 1) o (by omega); have hq5x2 : w.heap.size + 1 + 1 < w5.heap.size := (by omega); have hk5x3 := fun o => hc5 (w.heap.size + 1 + 1 + 1) o (by omega); have hj5x3 := fun o => hf5 (w.heap.size + 1 + 1 + 1) o (by omega); have hq5x3 : w.heap.size + 1 + 1 + 1 < w5.heap.size := (by omega); have hk5x4 := fun o => hc5 (w.heap.size + 1 + 1 + 1 + 1) o (by omega); have hj5x4 := fun o => hf5 (w.heap.size + 1 + 1 + 1 + 1) o (by omega); have hq5x4 : w.heap.size + 1 + 1 + 1 + 1 < w5.heap.size := (by omega); clear hc5 hf5)
    go_ret
    exact ⟨rfl, bel_a⟩
   | true =>
    by_cases m1 : W 8 = 0
    · have e2 : (W 8 == 0) = true := by simp [m1]
      have hb : b = true := by rw [← e]; rw [decide_eq_false m0, decide_eq_true m1]; rfl
      subst hb
      clear e
      have M1 : Shut (W 8 = 0) := m1
      clear m1
      go_enter Tryz.func115, Tryz.ntmps115
      go_wp2_with (go_at_call 41; refine (l6Drive_q (V 6 - p) (V 7 - q) true _ hD1).mono ?_; rintro e w5 ⟨rfl, hb5⟩; obtain ⟨hc5, hf5⟩ := bcell hb5; have hz5 := hb5.size; (try simp only [World.size_drew, World.size_alloc, World.size_setCell] at hc5 hf5 hz5); have hk5x0 := fun o => hc5 (w.heap.size) o (by omega); have hj5x0 := fun o => hf5 (w.heap.size) o (by omega); have hq5x0 : w.heap.size < w5.heap.size := (by omega); have hk5x1 := fun o => hc5 (w.heap.size + 1) o (by omega); have hj5x1 := fun o => hf5 (w.heap.size + 1) o (by omega); have hq5x1 : w.heap.size + 1 < w5.heap.size := (by omega); have hk5x2 := fun o => hc5 (w.heap.size + 1 + 1) o (by omega); have hj5x2 := fun o => hf5 (w.heap.size + 1 + 1) o (by omega); have hq5x2 : w.heap.size + 1 + 1 < w5.heap.size := (by omega); have hk5x3 := fun o => hc5 (w.heap.size + 1 + 1 + 1) o (by omega); have hj5x3 := fun o => hf5 (w.heap.size + 1 + 1 + 1) o (by omega); have hq5x3 : w.heap.size + 1 + 1 + 1 < w5.heap.size := (by omega); have hk5x4 := fun o => hc5 (w.heap.size + 1 + 1 + 1 + 1) o (by omega); have hj5x4 := fun o => hf5 (w.heap.size + 1 + 1 + 1 + 1) o (by omega); have hq5x4 : w.heap.size + 1 + 1 + 1 + 1 < w5.heap.size := (by omega); clear hc5 hf5)
      go_ret
      exact ⟨rfl, bel_a⟩
    · have e2 : (W 8 == 0) = false := by simp [m1]
      have hb : b = D2 := by rw [← e]; rw [decide_eq_false m0, decide_eq_false m1]; rfl
      rw [hb]
      clear e hb
      go_enter Tryz.func115, Tryz.ntmps115
      go_wp2_with (first
       | (have _ := hb5; go_at_call 41; refine (l6Drive_q (W 6 + p) (W 7 + q) D2 _ hD2).mono ?_; rintro e w6 ⟨rfl, hb6⟩; obtain ⟨hc6, hf6⟩ := bcell hb6; have hz6 := hb6.size; (try simp only [World.size_drew, World.size_alloc, World.size_setCell] at hc6 hf6 hz6); have hk6x0 := fun o => hc6 (w.heap.size) o (by omega); have hj6x0 := fun o => hf6 (w.heap.size) o (by omega); have hq6x0 : w.heap.size < w6.heap.size := (by omega); have hk6x1 := fun o => hc6 (w.heap.size + 1) o (by omega); have hj6x1 := fun o => hf6 (w.heap.size + 1) o (by omega); have hq6x1 : w.heap.size + 1 < w6.heap.size := (by omega); have hk6x2 := fun o => hc6 (w.heap.size + 1 + 1) o (by omega); have hj6x2 := fun o => hf6 (w.heap.size + 1 + 1) o (by omega); have hq6x2 : w.heap.size + 1 + 1 < w6.heap.size := (by omega); have hk6x3 := fun o => hc6 (w.heap.size + 1 + 1 + 1) o (by omega); have hj6x3 := fun o => hf6 (w.heap.size + 1 + 1 + 1) o (by omega); have hq6x3 : w.heap.size + 1 + 1 + 1 < w6.heap.size := (by omega); have hk6x4 := fun o => hc6 (w.heap.size + 1 + 1 + 1 + 1) o (by omega); have hj6x4 := fun o => hf6 (w.heap.size + 1 + 1 + 1 + 1) o (by omega); have hq6x4 : w.heap.size + 1 + 1 + 1 + 1 < w6.heap.size := (by omega); clear hc6 hf6)
       | (go_at_call 41; refine (l6Drive_q (V 6 - p) (V 7 - q) true _ hD1).mono ?_; rintro e w5 ⟨rfl, hb5⟩; obtain ⟨hc5, hf5⟩ := bcell hb5; have hz5 := hb5.size; (try simp only [World.size_drew, World.size_alloc, World.size_setCell] at hc5 hf5 hz5); have hk5x0 := fun o => hc5 (w.heap.size) o (by omega); have hj5x0 := fun o => hf5 (w.heap.size) o (by omega); have hq5x0 : w.heap.size < w5.heap.size := (by omega); have hk5x1 := fun o => hc5 (w.heap.size + 1) o (by omega); have hj5x1 := fun o => hf5 (w.heap.size + 1) o (by omega); have hq5x1 : w.heap.size + 1 < w5.heap.size := (by omega); have hk5x2 := fun o => hc5 (w.heap.size + 1 + 1) o (by omega); have hj5x2 := fun o => hf5 (w.heap.size + 1 + 1) o (by omega); have hq5x2 : w.heap.size + 1 + 1 < w5.heap.size := (by omega); have hk5x3 := fun o => hc5 (w.heap.size + 1 + 1 + 1) o (by omega); have hj5x3 := fun o => hf5 (w.heap.size + 1 + 1 + 1) o (by omega); have hq5x3 : w.heap.size + 1 + 1 + 1 < w5.heap.size := (by omega); have hk5x4 := fun o => hc5 (w.heap.size + 1 + 1 + 1 + 1) o (by omega); have hj5x4 := fun o => hf5 (w.heap.size + 1 + 1 + 1 + 1) o (by omega); have hq5x4 : w.heap.size + 1 + 1 + 1 + 1 < w5.heap.size := (by omega); clear hc5 hf5))
      go_ret
      exact ⟨by first | rfl | simp, bel_a⟩
end Go.Proofs.YtalkkjhehndaoaaGreat
