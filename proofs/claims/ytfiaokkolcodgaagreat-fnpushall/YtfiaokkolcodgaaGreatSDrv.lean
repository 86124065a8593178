/- Texts of a proof. -/
import Derived.Test.YtfiaokkolcodgaaGreatB36
import Derived.Deep.RegionHeld3
import Derived.Deep.DeepCutAuto
set_option maxHeartbeats 16000000
set_option maxRecDepth 20000
namespace Go.Proofs.YtfiaokkolcodgaaGreat
open Go.RowKit
set_option linter.unusedVariables false
set_option linter.unusedSimpArgs false
def drX (n : Nat) (U : Nat → Int) : Int := bif bodsB n U then sumD U 6 n else 0
def drY (n : Nat) (U : Nat → Int) : Int := bif bodsB n U then sumD U 7 n else 0
theorem drives_q (a : Option Addr) (n c : Nat) (U : Nat → Int) (x y : Int) (w : World) (h : Flat w a (n * 12) U) (hn : n ≤ 1048576) (ex : drX n U = x) (ey : drY n U = y) :
 Calls Tryz.prog 11 #[.slice a n c] w fun e w' => e = .returned (vv x y) ∧ Below w.heap.size w w' := by
 subst ex ey
 unfold drX drY
 cases hok : bodsB n U with
 | true => exact drives_ok a n c U w h hn hok
 | false => exact drives_no a n c U w h hn hok
end Go.Proofs.YtfiaokkolcodgaaGreat
