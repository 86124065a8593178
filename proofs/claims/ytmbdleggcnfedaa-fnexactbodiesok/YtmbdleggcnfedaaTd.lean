/- Two operations of a drawn region that may come either way round: one reads, one lays a block. -/
import Derived.Test.YtmbdleggcnfedaaTq
namespace Go.Proofs.Ytmbdleggcnfedaa
open Go.RowKit
set_option linter.unusedVariables false
section
variable {P : Program} {md : Region.Mode} {ops : Array Oper} {Q : Exit → Act → World → Prop} {S : World → Prop}
theorem td (i j : Nat) {o1 o2 o3 o4 o5 o6 p1 p2 p3 p4 p5 p6} {v u : Value} {fuel : Nat} {listed : Array Bool} {a a' : Act} {w w1 : World} (hS : S w)
    (h : S w1 → wpAnyH P md ops Q S fuel ((listed.setIfInBounds i true).setIfInBounds j true) a' w1)
    (hr : (Region.ready md ops listed = [i, j] ∧ Region.ready md ops (listed.setIfInBounds i true) = [j] ∧ Region.ready md ops (listed.setIfInBounds j true) = [i]) := by exact ⟨by kernel_rfl, by kernel_rfl, by kernel_rfl⟩)
    (hi : ops[i]? = some (Oper.mk o1 o2 o3 o4 o5 o6) := by rfl) (hj : ops[j]? = some (Oper.mk p1 p2 p3 p4 p5 p6) := by rfl)
    (hc : (Region.noSelect ops && ((Oper.mk o1 o2 o3 o4 o5 o6).apart ops (Oper.mk p1 p2 p3 p4 p5 p6) && (i != j))) = true := by kernel_rfl)
    (wi : Region.wanted (Oper.mk o1 o2 o3 o4 o5 o6) (yielded ops a.tmps) = true := by rfl) (wj : Region.wanted (Oper.mk p1 p2 p3 p4 p5 p6) (yielded ops a.tmps) = true := by rfl)
    (vi : (execOp a.eval (Oper.mk o1 o2 o3 o4 o5 o6)).run P w = .ok (.value v) w := by (go_simp; (try with_reducible rfl)))
    (vj : (execOp a.eval (Oper.mk p1 p2 p3 p4 p5 p6)).run P w = .ok (.value u) w1 := by (go_simp; (first | done | exact ⟨rfl, rfl⟩ | with_reducible rfl)))
    (vi1 : (execOp a.eval (Oper.mk o1 o2 o3 o4 o5 o6)).run P w1 = .ok (.value v) w1 := by (go_simp; (try with_reducible rfl)))
    (hS1 : S w1 := by ((try dsimp only); (first | (go_simp; done) | (go_keep; done))))
    (he : (a.put (Oper.mk o1 o2 o3 o4 o5 o6).dst v).put (Oper.mk p1 p2 p3 p4 p5 p6).dst u = a' := by ((try simp only [Act.put, List.setIfInBounds_toArray, List.set_cons_zero, List.set_cons_succ]); (try with_reducible rfl))) :
    wpAnyH P md ops Q S (fuel + 2) listed a w := by
  subst he
  simp only [Bool.and_eq_true] at hc
  obtain ⟨h1, h2, h3⟩ := Oper.apart_spec hc.2.1
  have hne : i ≠ j := by simpa using hc.2.2
  have hsel := Region.noSelect_spec hc.1
  obtain ⟨r0, r1, r2⟩ := hr
  refine ⟨fun e => (by rw [r0] at e; cases e), fun x hx => ?_⟩
  rw [r0] at hx
  rcases List.mem_cons.1 hx with rfl | hx
  · unfold wpOp
    rw [hi]
    simp only [wi, if_true]
    refine .inl ?_
    simp only [Oper.wp, vi, Oper.upon]
    refine ⟨hS, ⟨fun e => (by rw [r1] at e; cases e), fun y hy => ?_⟩⟩
    rw [r1] at hy
    obtain rfl := List.mem_singleton.1 hy
    unfold wpOp
    rw [hj]
    simp only [wanted_put _ a _ v h1, wj, if_true]
    refine .inl ?_
    rw [Oper.wp, execOp_put _ (fun cs b => hsel _ _ cs b hj) a _ v h1, vj]
    exact ⟨hS1, h hS1⟩
  · obtain rfl := List.mem_singleton.1 hx
    unfold wpOp
    rw [hj]
    simp only [wj, if_true]
    refine .inl ?_
    simp only [Oper.wp, vj, Oper.upon]
    refine ⟨hS1, ⟨fun e => (by rw [r2] at e; cases e), fun y hy => ?_⟩⟩
    rw [r2] at hy
    obtain rfl := List.mem_singleton.1 hy
    unfold wpOp
    rw [hi]
    simp only [wanted_put _ a _ u h3, wi, if_true]
    refine .inl ?_
    rw [Oper.wp, execOp_put _ (fun cs b => hsel _ _ cs b hi) a _ u h3, vi1]
    refine ⟨hS1, ?_⟩
    have := h hS1
    rw [Array.setIfInBounds_comm _ _ hne, Act.put_comm a v u h2] at this
    exact this
end
end Go.Proofs.Ytmbdleggcnfedaa
