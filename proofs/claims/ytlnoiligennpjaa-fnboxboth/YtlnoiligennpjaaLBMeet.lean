/- The walk of the law of promise 14. -/
import Derived.Test.YtlnoiligennpjaaDrawBM
import Derived.Test.YtlnoiligennpjaaLBB
import Derived.Test.YtlnoiligennpjaaSpanN
import Derived.Test.YtlnoiligennpjaaSBase
import Derived.Deep.RegionHeld3
import Derived.Deep.DeepCutAuto
namespace Go.Proofs.Ytlnoiligennpjaa
open Go.RowKit
set_option linter.unusedVariables false
set_option linter.unusedSimpArgs false
theorem meets_turn {a b c d r s t u : Int} : (bokB r s t u && (bokB a b c d && (leB r s c d && leB a b t u))) = (bokB a b c d && (bokB r s t u && (leB a b t u && leB r s c d))) := by
  cases bokB a b c d <;> cases bokB r s t u <;> cases leB r s c d <;> cases leB a b t u <;> rfl
theorem vok_lo {a b c d : Int} (h : bokB a b c d = true) : vokB a b = true := by
  unfold bokB at h; simp only [Bool.and_eq_true] at h; exact h.1
theorem vok_near {a b c d x y : Int} (h : bokB a b c d = true) : vokB (mn (mx x a) c) (mn (mx y b) d) = true := by
  unfold bokB vokB leB at h; simp only [Bool.and_eq_true, decide_eq_true_eq] at h
  unfold vokB mn mx; simp only [decide_eq_true_eq]
  repeat' split
  all_goals omega
theorem near_meet {a c r t : Int} (h1 : a ≤ c) (h2 : r ≤ t) : (a ≤ t ∧ r ≤ c) ↔ mn (mx (mn (mx (mn (mx r a) c) r) t) a) c = mn (mx (mn (mx r a) c) r) t := by
  unfold mn mx
  repeat' split
  all_goals omega
theorem ok_sides {a b c d : Int} (h : bokB a b c d = true) : a ≤ c ∧ b ≤ d := by
  unfold bokB leB at h; simp only [Bool.and_eq_true, decide_eq_true_eq] at h; exact h.2.2
theorem meets_sides {a b c d r s t u : Int} (h1 : bokB a b c d = true) (h2 : bokB r s t u = true) : (bokB a b c d && (bokB r s t u && (leB a b t u && leB r s c d))) = decide ((a ≤ t ∧ r ≤ c) ∧ (b ≤ u ∧ s ≤ d)) := by
  rw [h1, h2]; unfold leB; rw [Bool.eq_iff_iff]; simp only [Bool.true_and, Bool.and_eq_true, decide_eq_true_eq]; omega
theorem meets_self {a b c d : Int} (h : bokB a b c d = true) : (bokB a b c d && (bokB a b c d && (leB a b c d && leB a b c d))) = true := by
  rw [h]; unfold bokB leB at h; simp only [Bool.and_eq_true, decide_eq_true_eq] at h; unfold leB; simp; omega

end Go.Proofs.Ytlnoiligennpjaa
