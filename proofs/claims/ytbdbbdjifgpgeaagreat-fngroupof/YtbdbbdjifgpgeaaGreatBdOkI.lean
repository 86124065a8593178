/- Texts of a proof. -/
import Derived.Test.YtbdbbdjifgpgeaaGreatBdOk
import Derived.Deep.RegionHeld3
import Derived.Deep.DeepCutAuto
set_option maxHeartbeats 16000000
set_option maxRecDepth 20000
namespace Go.Proofs.YtbdbbdjifgpgeaaGreat
open Go.RowKit
set_option linter.unusedVariables false
set_option linter.unusedSimpArgs false
theorem bodiesOk_q (a:Option Addr) (n c:Nat) (U:Nat→Int) (b:Bool) (w:World) (h:Flat w a (n*12) U) (hn:n≤1048576) (eb:bodsB n U=b):
 Calls Tryz.prog 10 #[.slice a n c] w fun e w'=>e= .returned (.bool b)∧Below w.heap.size w w':=by
 have hset:=cset_map
 cases b with
 | true=>
   go_enter Tryz.func10,Tryz.ntmps10
   go_wp2_with (go_at_call 15;refine(columnsOf_ok a n c U _ h hn eb).mono ?_;rintro e w1 ⟨cb,S,rfl,hcb,hC,hb1⟩)
   go_ret
   exact⟨rfl,bel_a⟩
 | false=>
   go_enter Tryz.func10,Tryz.ntmps10
   go_wp2_with (go_at_call 15;refine(columnsOf_no a n c U _ h hn eb).mono ?_;rintro e w1 ⟨rfl,hb1⟩)
   go_ret
   exact⟨rfl,bel_a⟩
end Go.Proofs.YtbdbbdjifgpgeaaGreat
