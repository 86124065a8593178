/- The contract of a box's function. -/
import Derived.Test.YtbngdlbecdloiaaBox
import Derived.Deep.QuietTactic
import Derived.BigQuiet
import Derived.Deep.RegionWith
set_option maxHeartbeats 16000000
set_option maxRecDepth 20000
namespace Go.Proofs.Ytbngdlbecdloiaa
open Go.RowKit
set_option linter.unusedVariables false
set_option linter.unusedSimpArgs false

theorem boxOk_t (a b c d : Int) (w : World) (h : bokB a b c d = true) : Calls Try.prog 45 #[b4 a b c d] w fun e w' => e = .returned (.bool true) ∧ Below w.heap.size w w' := by
  have k := boxOk_any a b c d w
  rw [h] at k
  exact k
theorem boxOk_n (a b c d : Int) (w : World) (h : bokB a b c d = false) : Calls Try.prog 45 #[b4 a b c d] w fun e w' => e = .returned (.bool false) ∧ Below w.heap.size w w' := by
  have k := boxOk_any a b c d w
  rw [h] at k
  exact k
theorem noneGreater_t (x y u v : Int) (w : World) (h : leB x y u v = true) : Calls Try.prog 63 #[vv x y, vv u v] w fun e w' => e = .returned (.bool true) ∧ Below w.heap.size w w' := by
  have k := noneGreater_any x y u v w
  rw [h] at k
  exact k
theorem noneGreater_n (x y u v : Int) (w : World) (h : leB x y u v = false) : Calls Try.prog 63 #[vv x y, vv u v] w fun e w' => e = .returned (.bool false) ∧ Below w.heap.size w w' := by
  have k := noneGreater_any x y u v w
  rw [h] at k
  exact k

end Go.Proofs.Ytbngdlbecdloiaa
