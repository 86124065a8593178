/- The contracts of the draws of ways. -/
import Derived.Test.YtpfedfoiopcilaaDrawNum
import Derived.Test.YtpfedfoiopcilaaVec
namespace Go.Proofs.Ytpfedfoiopcilaa
open Go.RowKit
set_option linter.unusedVariables false
set_option linter.unusedSimpArgs false

set_option maxHeartbeats 2000000 in
theorem l11Vec_rb (w0 : World) (rb p : Nat) (w : World) (hr : RB w0 w rb p) (hp : p ≤ 997000) (h0 : w0.heap.size ≤ w.heap.size) :
    Calls Try.prog 72 #[.pointer (some ⟨rb, 0, none⟩)] w fun e w' => ∃ x y : Int, e = .returned (vv x y) ∧ -1099511627776 ≤ x ∧ x ≤ 1099511627776 ∧ -1099511627776 ≤ y ∧ y ≤ 1099511627776 ∧ RB w0 w' rb (p + 30) := by
  have hlt := hr.lt
  have hne : ¬ w.heap.size = rb := (by omega)
  have hset := cset_map
  have hs := RB.fresh hr (.cells #[.int .i64 0, .int .i64 0] 24)
  go_enter Try.func72, Try.ntmps72
  go_wp2_with (first
    | (go_at_call 93; refine (pick_rb _ rb _ _ w5 hr5 (by omega) (by omega) (by omega)).mono ?_; rintro e w6 ⟨v6, rfl, v60, v61, hr6⟩)
    | (go_at_call 93; refine (pick_rb _ rb _ _ w1 hr1 (by omega) (by omega) (by omega)).mono ?_; rintro e w4 ⟨v4, rfl, v40, v41, hr4⟩)
    | (go_at_call 93; refine (pick_rb _ rb _ _ (w.alloc _) hs (by omega) (by omega) (by omega)).mono ?_; rintro e w1 ⟨v1, rfl, v10, v11, hr1⟩)
    | (go_at_call 82; refine (l11Num_rb _ rb _ w2 hr2 (by omega)).mono ?_; rintro e w3 ⟨x3, rfl, x30, x31, hr3⟩; obtain ⟨hcBx3, hfBx3⟩ := RB.cells hr3)
    | (go_at_call 82; refine (l11Num_rb _ rb _ w1 hr1 (by omega)).mono ?_; rintro e w2 ⟨x2, rfl, x20, x21, hr2⟩; obtain ⟨hcBx2, hfBx2⟩ := RB.cells hr2)
    | (go_at_call 106; refine (one_rb 1 100 _ rb _ _ _ _ _ w6 hr6 (by omega) (by repeat (first | exact AllBd.nil | refine AllBd.cons (by omega) (by omega) ?_)) (by rfl) (by omega) (by omega)).mono ?_; rintro e w7 ⟨v7, rfl, v70, v71, hr7⟩; obtain ⟨hcBv7, hfBv7⟩ := RB.cells hr7; have hmv7 := mul_bd (a := v6) (b := v7) (A := 256) (B := 100) (by omega) (by omega))
    | (go_at_call 106; refine (one_rb 1 100 _ rb _ _ _ _ _ w4 hr4 (by omega) (by repeat (first | exact AllBd.nil | refine AllBd.cons (by omega) (by omega) ?_)) (by rfl) (by omega) (by omega)).mono ?_; rintro e w5 ⟨v5, rfl, v50, v51, hr5⟩; obtain ⟨hcBv5, hfBv5⟩ := RB.cells hr5; have hmv5 := mul_bd (a := v4) (b := v5) (A := 256) (B := 100) (by omega) (by omega)))
  · exact bodyPost_ret (v := vv x2 x3) (by simp [results, Try.results72, go_sem, *]) rfl ⟨_, _, rfl, by omega, by omega, by omega, by omega, ((hr.join (hr3.mono (by omega))).setNew hlt h0 _).setNew hlt h0 _⟩
  · exact bodyPost_ret (v := vv (v4 * v5 - 2000) (v6 * v7 - 2000)) (by simp [results, Try.results72, go_sem, *]) rfl ⟨_, _, rfl, by omega, by omega, by omega, by omega, ((hr.join (hr7.mono (by omega))).setNew hlt h0 _).setNew hlt h0 _⟩

set_option maxHeartbeats 1000000 in
theorem drawVecLen_any (a : Option Addr) (len cap : Nat) (w : World) (hb : Bytes w a len cap) :
    Calls Try.prog 39 #[.slice a len cap] w fun e w' => ∃ x y : Int, e = .returned (vv x y) ∧ -1099511627776 ≤ x ∧ x ≤ 1099511627776 ∧ -1099511627776 ≤ y ∧ y ≤ 1099511627776 ∧ Below w.heap.size w w' := by
  have hset := cset_map
  have hb' := hb.below ((Below.refl _ _).alloc (Nat.le_refl _) (.cells #[.int .i64 0, .int .i64 0] 24))
  go_enter Try.func39, Try.ntmps39
  go_wp2_with (first
    | (go_at_call 71; refine (l1Open_rb _ _ _ _ hb').mono ?_; rintro e w1 ⟨rfl, hr1, hbel⟩; obtain ⟨hc1, hf1⟩ := bcell hbel; have hz1 := hbel.size; simp only [World.size_alloc] at hc1 hf1 hz1 hr1; have hq1 : w.heap.size < w1.heap.size := (by omega); have hq1b : w.heap.size + 1 < w1.heap.size := hr1.lt)
    | (go_at_call 72; refine (l11Vec_rb w1 _ _ w1 hr1 (by omega) (Nat.le_refl _)).mono ?_; rintro e w2 ⟨x2, y2, rfl, x20, x21, y20, y21, hr2⟩; obtain ⟨hcB, hfB⟩ := RB.cells hr2; have hB2 := hr2.old (B := w.heap.size + 1) (Nat.le_refl _) (by omega)))
  exact bodyPost_ret (v := vv x2 y2) (by simp [results, Try.results39, go_sem, *]) rfl ⟨_, _, rfl, x20, x21, y20, y21, (((((Below.refl _ w).alloc (Nat.le_refl _) _).trans (hbel.mono (by simp))).trans (hB2.mono (by omega))).setCell (by simp) _).setCell (by simp) _⟩
end Go.Proofs.Ytpfedfoiopcilaa
