/- Texts of a proof. -/
import Derived.Test.YtcalhcfinkhemaaGreatDoorB1
import Derived.OrdersHeld
import Derived.Deep.RegionHeld3
set_option maxHeartbeats 16000000
set_option maxRecDepth 20000
namespace Go.Proofs.YtcalhcfinkhemaaGreatDoor
open Go.RowKit
set_option linter.unusedVariables false
set_option linter.unusedSimpArgs false
section
variable {P:Program} {ops:Array Oper} {Q:Exit→Act→World→Prop} {a:Act} {w:World} {rest:List Oper} {o:Oper}
theorem wpList_take {v:Value} (hw:Region.wanted o (yielded ops a.tmps)=true) (hv:(execOp a.eval o).run P w= .ok (.value v) w) (h:wpList P ops Q rest (a.put o.dst v) w):wpList P ops Q (o::rest) a w:=by
 unfold wpList
 rw[if_pos hw]
 refine .inl ?_
 simp only[Oper.wp,hv,Oper.upon]
 exact h
theorem wpList_skip (hw:Region.wanted o (yielded ops a.tmps)=false) (h:wpList P ops Q rest (a.put o.dst undef) w):wpList P ops Q (o::rest) a w:=by
 unfold wpList
 rw[if_neg (by rw[hw];exact Bool.false_ne_true)]
 exact h
theorem sq {o1 o2 o3 o4 o5 o6} {v:Value} {a':Act} (h:wpList P ops Q rest a' w)
 (hw:Region.wanted (Oper.mk o1 o2 o3 o4 o5 o6) (yielded ops a.tmps)=true:=by rfl)
 (hv:(execOp a.eval (Oper.mk o1 o2 o3 o4 o5 o6)).run P w= .ok (.value v) w:=by(go_simp;(try with_reducible rfl)))
 (he:a.put (Oper.mk o1 o2 o3 o4 o5 o6).dst v=a':=by((try simp only[Act.put,List.setIfInBounds_toArray,List.set_cons_zero,List.set_cons_succ]);(try with_reducible rfl))):
 wpList P ops Q (Oper.mk o1 o2 o3 o4 o5 o6::rest) a w:=by subst he;exact wpList_take hw hv h
theorem sn {o1 o2 o3 o4 o5 o6} {a':Act} (h:wpList P ops Q rest a' w)
 (hw:Region.wanted (Oper.mk o1 o2 o3 o4 o5 o6) (yielded ops a.tmps)=false:=by rfl)
 (he:a.put (Oper.mk o1 o2 o3 o4 o5 o6).dst undef=a':=by((try simp only[Act.put,List.setIfInBounds_toArray,List.set_cons_zero,List.set_cons_succ]);(try with_reducible rfl))):
 wpList P ops Q (Oper.mk o1 o2 o3 o4 o5 o6::rest) a w:=by subst he;exact wpList_skip hw h
theorem sm (x:Bool) {o1 o2 o3 o4 o5 o6} {v:Value} (hw:Region.wanted (Oper.mk o1 o2 o3 o4 o5 o6) (yielded ops a.tmps)=x) (hv:x=true→(execOp a.eval (Oper.mk o1 o2 o3 o4 o5 o6)).run P w= .ok (.value v) w)
 (h:∀ u:Value,(x=true→u=v)→wpList P ops Q rest (a.put (Oper.mk o1 o2 o3 o4 o5 o6).dst u) w):wpList P ops Q (Oper.mk o1 o2 o3 o4 o5 o6::rest) a w:=by
 cases x with
 |true=>exact wpList_take hw (hv rfl) (h v fun _=>rfl)
 |false=>exact wpList_skip hw (h undef fun e=>by cases e)
end
end Go.Proofs.YtcalhcfinkhemaaGreatDoor
