/- The contract of the specification's BoxHas. -/
import Derived.Test.YtlnoiligennpjaaSMeet
import Derived.Test.YtlnoiligennpjaaSpan
import Derived.Deep.QuietTactic
import Derived.BigQuiet
import Derived.Deep.RegionWith
import Derived.Deep.RegionHeld3
namespace Go.Proofs.Ytlnoiligennpjaa
open Go.RowKit
set_option linter.unusedVariables false
set_option linter.unusedSimpArgs false

theorem hasq (a b c d r s t u : Int) (h : bokB r s t u = true) : (ptB a b c d r s && ptB a b c d t u) = (leB a b r s && leB t u c d) := by
  unfold bokB leB at h
  simp only [Bool.and_eq_true, decide_eq_true_eq] at h
  unfold ptB leB
  rw [Bool.eq_iff_iff]
  simp only [Bool.and_eq_true, decide_eq_true_eq]
  omega
end Go.Proofs.Ytlnoiligennpjaa
