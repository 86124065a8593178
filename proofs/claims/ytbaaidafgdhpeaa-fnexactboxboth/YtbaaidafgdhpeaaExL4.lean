/- What lies where behind a law's head. -/
import Derived.Test.YtbaaidafgdhpeaaExBox
import Derived.Deep.QuietTactic
import Derived.BigQuiet
import Derived.Deep.RegionWith
import Derived.Deep.DeepCutAuto
import Derived.Deep.RegionHeld3
namespace Go.Proofs.Ytbaaidafgdhpeaa
open Go.RowKit
set_option linter.unusedVariables false
set_option linter.unusedSimpArgs false

/-- Behind the head of a law over two boxes: both lie where they were laid; of old memory nothing has turned. -/
def L4 (w wc : World) (a b c d r s t u : Int) : Prop := wc.cell? ⟨w.heap.size, 0, none⟩ = some (.int .i64 a) ∧ wc.cell? ⟨w.heap.size, 1, none⟩ = some (.int .i64 b) ∧ wc.cell? ⟨w.heap.size, 2, none⟩ = some (.int .i64 c) ∧ wc.cell? ⟨w.heap.size, 3, none⟩ = some (.int .i64 d) ∧
  wc.cell? ⟨w.heap.size + 1, 0, none⟩ = some (.int .i64 r) ∧ wc.cell? ⟨w.heap.size + 1, 1, none⟩ = some (.int .i64 s) ∧ wc.cell? ⟨w.heap.size + 1, 2, none⟩ = some (.int .i64 t) ∧ wc.cell? ⟨w.heap.size + 1, 3, none⟩ = some (.int .i64 u) ∧ w.heap.size + 1 < wc.heap.size ∧ Below w.heap.size w wc
/-- the same of a box and a way -/
def L42 (w wc : World) (a b c d x y : Int) : Prop := wc.cell? ⟨w.heap.size, 0, none⟩ = some (.int .i64 a) ∧ wc.cell? ⟨w.heap.size, 1, none⟩ = some (.int .i64 b) ∧ wc.cell? ⟨w.heap.size, 2, none⟩ = some (.int .i64 c) ∧ wc.cell? ⟨w.heap.size, 3, none⟩ = some (.int .i64 d) ∧
  wc.cell? ⟨w.heap.size + 1, 0, none⟩ = some (.int .i64 x) ∧ wc.cell? ⟨w.heap.size + 1, 1, none⟩ = some (.int .i64 y) ∧ w.heap.size + 1 < wc.heap.size ∧ Below w.heap.size w wc
/-- A box, a way in a block of its own. -/
def At4 (wc : World) (B : Nat) (a b c d : Int) : Prop := wc.cell? ⟨B, 0, none⟩ = some (.int .i64 a) ∧ wc.cell? ⟨B, 1, none⟩ = some (.int .i64 b) ∧ wc.cell? ⟨B, 2, none⟩ = some (.int .i64 c) ∧ wc.cell? ⟨B, 3, none⟩ = some (.int .i64 d) ∧ B < wc.heap.size
def At2b (wc : World) (B : Nat) (x y : Int) : Prop := wc.cell? ⟨B, 0, none⟩ = some (.int .i64 x) ∧ wc.cell? ⟨B, 1, none⟩ = some (.int .i64 y) ∧ B < wc.heap.size

end Go.Proofs.Ytbaaidafgdhpeaa
