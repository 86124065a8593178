/- Box contracts by their answers. -/
import Derived.Test.YtlnoiligennpjaaSpanM
import Derived.Test.YtlnoiligennpjaaSpanH
import Derived.Test.YtlnoiligennpjaaSMeet
import Derived.Test.YtlnoiligennpjaaSHas
namespace Go.Proofs.Ytlnoiligennpjaa
open Go.RowKit
set_option linter.unusedVariables false
set_option linter.unusedSimpArgs false
theorem boxHasB_t (a b c d r s t u : Int) (w : World) (hs : (bokB a b c d && (bokB r s t u && (leB a b r s && leB t u c d))) = true) :
    Calls Try.prog 9 #[b4 a b c d, b4 r s t u] w fun e w' => e = .returned (.bool true) ∧ Below w.heap.size w w' := by
  have q := boxHas_any a b c d r s t u w; rw [hs] at q; exact q
theorem boxHasB_n (a b c d r s t u : Int) (w : World) (hs : (bokB a b c d && (bokB r s t u && (leB a b r s && leB t u c d))) = false) :
    Calls Try.prog 9 #[b4 a b c d, b4 r s t u] w fun e w' => e = .returned (.bool false) ∧ Below w.heap.size w w' := by
  have q := boxHas_any a b c d r s t u w; rw [hs] at q; exact q
theorem has_meets {a b c d r s t u : Int} (h : (bokB a b c d && (bokB r s t u && (leB a b r s && leB t u c d))) = true) : (bokB a b c d && (bokB r s t u && (leB a b t u && leB r s c d))) = true := by
  unfold bokB vokB leB at *; simp only [Bool.and_eq_true, decide_eq_true_eq] at *; omega
theorem has_trans {a b c d r s t u i j k l : Int} (h : (bokB a b c d && (bokB r s t u && (leB a b r s && leB t u c d))) = true) (q : (bokB r s t u && (bokB i j k l && (leB r s i j && leB k l t u))) = true) : (bokB a b c d && (bokB i j k l && (leB a b i j && leB k l c d))) = true := by
  unfold bokB vokB leB at *; simp only [Bool.and_eq_true, decide_eq_true_eq] at *; omega
theorem meets_more {a b c d r s t u i j k l : Int} (h : (bokB a b c d && (bokB r s t u && (leB a b r s && leB t u c d))) = true) (q : (bokB r s t u && (bokB i j k l && (leB r s k l && leB i j t u))) = true) : (bokB a b c d && (bokB i j k l && (leB a b k l && leB i j c d))) = true := by
  unfold bokB vokB leB at *; simp only [Bool.and_eq_true, decide_eq_true_eq] at *; omega
theorem has_same {a b c d r s t u : Int} (h : (bokB a b c d && (bokB r s t u && (leB a b r s && leB t u c d))) = true) : (bokB a b c d && (bokB a b c d && (leB a b a b && leB c d c d))) = true := by
  unfold bokB vokB leB at *; simp only [Bool.and_eq_true, decide_eq_true_eq] at *; omega
end Go.Proofs.Ytlnoiligennpjaa
