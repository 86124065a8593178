/- The walk of an exact law of chapter 2. -/
import Derived.Test.YtbaaidafgdhpeaaExVec0
import Derived.Deep.QuietTactic
import Derived.BigQuiet
import Derived.Deep.RegionWith
import Derived.Deep.DeepCutAuto
namespace Go.Proofs.Ytbaaidafgdhpeaa
open Go.RowKit
set_option linter.unusedVariables false
set_option linter.unusedSimpArgs false

/-- Behind the head of a law over two ways: both lie where they were laid; of old memory nothing has turned. -/
def L2 (w wc : World) (x y u v : Int) : Prop := wc.cell? ⟨w.heap.size, 0, none⟩ = some (.int .i64 x) ∧ wc.cell? ⟨w.heap.size, 1, none⟩ = some (.int .i64 y) ∧
  wc.cell? ⟨w.heap.size + 1, 0, none⟩ = some (.int .i64 u) ∧ wc.cell? ⟨w.heap.size + 1, 1, none⟩ = some (.int .i64 v) ∧ w.heap.size + 1 < wc.heap.size ∧ Below w.heap.size w wc
/-- A way in a block of its own. -/
def At2 (wc : World) (B : Nat) (x y : Int) : Prop := wc.cell? ⟨B, 0, none⟩ = some (.int .i64 x) ∧ wc.cell? ⟨B, 1, none⟩ = some (.int .i64 y) ∧ B < wc.heap.size

/-- Behind the head of a law over one way: it lies where it was laid; of old memory nothing has turned. -/
def L1 (w wc : World) (x y : Int) : Prop := wc.cell? ⟨w.heap.size, 0, none⟩ = some (.int .i64 x) ∧ wc.cell? ⟨w.heap.size, 1, none⟩ = some (.int .i64 y) ∧ w.heap.size < wc.heap.size ∧ Below w.heap.size w wc

end Go.Proofs.Ytbaaidafgdhpeaa
