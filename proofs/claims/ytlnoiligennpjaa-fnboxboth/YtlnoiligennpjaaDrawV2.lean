/- The contracts of the draws of two ways. -/
import Derived.Test.YtlnoiligennpjaaDrawVec
import Derived.Deep.RegionHeld3
namespace Go.Proofs.Ytlnoiligennpjaa
open Go.RowKit
set_option linter.unusedVariables false
set_option linter.unusedSimpArgs false

/-- a number that was drawn -/
def Dn (x : Int) : Prop := -1099511627776 ≤ x ∧ x ≤ 1099511627776

theorem RB.size {w0 w : World} {rb p : Nat} (h : RB w0 w rb p) : w0.heap.size ≤ w.heap.size := by
  have := (h.old (B := 0) (Nat.zero_le _) (Nat.zero_le _)).size
  exact this

theorem bcellB {B : Nat} {a b : World} (hb : Below B a b) : (∀ x o, x < B → b.cell? ⟨x, o, none⟩ = a.cell? ⟨x, o, none⟩) ∧ (∀ x o, x < B → b.frozen? ⟨x, o, none⟩ = a.frozen? ⟨x, o, none⟩) :=
  ⟨fun x o h => hb.cell (p := ⟨x, o, none⟩) h, fun x o h => hb.frozen (p := ⟨x, o, none⟩) h⟩

end Go.Proofs.Ytlnoiligennpjaa
