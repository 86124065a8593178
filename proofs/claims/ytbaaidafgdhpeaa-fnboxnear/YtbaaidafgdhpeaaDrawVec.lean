/- The contracts of the draws of ways. -/
import Derived.Test.YtbaaidafgdhpeaaDrawNum
import Derived.Test.YtbaaidafgdhpeaaVec
namespace Go.Proofs.Ytbaaidafgdhpeaa
open Go.RowKit
set_option linter.unusedVariables false
set_option linter.unusedSimpArgs false

set_option maxHeartbeats 2000000 in
theorem l11Vec_rb (w0 : World) (rb p : Nat) (w : World) (hr : RB w0 w rb p) (hp : p ≤ 997000) (h0 : w0.heap.size ≤ w.heap.size) :
    Calls Try.prog 79 #[.pointer (some ⟨rb, 0, none⟩)] w fun e w' => ∃ x y : Int, e = .returned (vv x y) ∧ -1099511627776 ≤ x ∧ x ≤ 1099511627776 ∧ -1099511627776 ≤ y ∧ y ≤ 1099511627776 ∧ RB w0 w' rb (p + 30) := by
  have hlt := hr.lt
  have hne : ¬ w.heap.size = rb := (by omega)
  have hset := cset_map
  have hs := RB.fresh hr (.cells #[.int .i64 0, .int .i64 0] 24)
  go_enter Try.func79, Try.ntmps79
  go_wp2_with (first
    | (go_at_call 64; refine (pick_rb _ rb _ _ w5 hr5 (by omega) (by omega) (by omega)).mono ?_; rintro e w6 ⟨v6, rfl, v60, v61, hr6⟩)
    | (go_at_call 64; refine (pick_rb _ rb _ _ w1 hr1 (by omega) (by omega) (by omega)).mono ?_; rintro e w4 ⟨v4, rfl, v40, v41, hr4⟩)
    | (go_at_call 64; refine (pick_rb _ rb _ _ (w.alloc _) hs (by omega) (by omega) (by omega)).mono ?_; rintro e w1 ⟨v1, rfl, v10, v11, hr1⟩)
    | (go_at_call 95; refine (l11Num_rb _ rb _ w2 hr2 (by omega)).mono ?_; rintro e w3 ⟨x3, rfl, x30, x31, hr3⟩; obtain ⟨hcBx3, hfBx3⟩ := RB.cells hr3)
    | (go_at_call 95; refine (l11Num_rb _ rb _ w1 hr1 (by omega)).mono ?_; rintro e w2 ⟨x2, rfl, x20, x21, hr2⟩; obtain ⟨hcBx2, hfBx2⟩ := RB.cells hr2)
    | (go_at_call 65; refine (one_rb 1 100 _ rb _ _ _ _ _ w6 hr6 (by omega) (by repeat (first | exact AllBd.nil | refine AllBd.cons (by omega) (by omega) ?_)) (by rfl) (by omega) (by omega)).mono ?_; rintro e w7 ⟨v7, rfl, v70, v71, hr7⟩; obtain ⟨hcBv7, hfBv7⟩ := RB.cells hr7; have hmv7 := mul_bd (a := v6) (b := v7) (A := 256) (B := 100) (by omega) (by omega))
    | (go_at_call 65; refine (one_rb 1 100 _ rb _ _ _ _ _ w4 hr4 (by omega) (by repeat (first | exact AllBd.nil | refine AllBd.cons (by omega) (by omega) ?_)) (by rfl) (by omega) (by omega)).mono ?_; rintro e w5 ⟨v5, rfl, v50, v51, hr5⟩; obtain ⟨hcBv5, hfBv5⟩ := RB.cells hr5; have hmv5 := mul_bd (a := v4) (b := v5) (A := 256) (B := 100) (by omega) (by omega)))
  · exact bodyPost_ret (v := vv x2 x3) (by simp [results, Try.results79, go_sem, *]) rfl ⟨_, _, rfl, by omega, by omega, by omega, by omega, ((hr.join (hr3.mono (by omega))).setNew hlt h0 _).setNew hlt h0 _⟩
  · exact bodyPost_ret (v := vv (v4 * v5 - 2000) (v6 * v7 - 2000)) (by simp [results, Try.results79, go_sem, *]) rfl ⟨_, _, rfl, by omega, by omega, by omega, by omega, ((hr.join (hr7.mono (by omega))).setNew hlt h0 _).setNew hlt h0 _⟩

end Go.Proofs.Ytbaaidafgdhpeaa
