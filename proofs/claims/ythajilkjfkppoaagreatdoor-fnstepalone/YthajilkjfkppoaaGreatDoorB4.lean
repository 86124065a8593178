/- Texts of a proof. -/
import Derived.Test.YthajilkjfkppoaaGreatDoorB3
import Derived.Deep.QuietTactic
import Derived.BigQuiet
import Derived.Deep.RegionWith
import Derived.Deep.RegionHeld3
import Derived.WalkKit
import Derived.LaidEql
import Derived.Stop.Asserts
import Derived.RowKitTokens
import Derived.Deep.DeepCutAuto
set_option maxHeartbeats 16000000
set_option maxRecDepth 20000
namespace Go.Proofs.YthajilkjfkppoaaGreatDoor
open Go.RowKit
set_option linter.unusedVariables false
set_option linter.unusedSimpArgs false
theorem l2Clamp_any (x y:Int) (w:World):
 Calls Tryz.prog 155 #[vv x y] w fun e w'=>e= .returned (vv (fc x) (fc y))∧Below w.heap.size w w':=by
 have hset:=cset_map
 go_enter Tryz.func155,Tryz.ntmps155
 go_wp2
 go_region_with (go_at_call 156;refine(sFixClamp_any _ _).mono ?_;rintro e w' ⟨rfl,rfl⟩)
 all_goals
  go_wp2
  exact bodyPost_ret (v:=vv (fc x) (fc y)) (by simp[results,Tryz.results155,go_sem, *]) rfl ⟨rfl,bel_a⟩
theorem l1In_any (n l h:Int) (w:World):
 Calls Tryz.prog 19 #[.int .i64 n,.int .i64 l,.int .i64 h] w fun e w'=>e= .returned (.bool (decide (l≤n∧n≤h)))∧w'=w:=by
 go_enter Tryz.func19,Tryz.ntmps19
 go_wp2
 all_goals
  go_ret
  refine⟨ret_bool ?_,rfl⟩
  first|(simp;omega)|(simp;done)
theorem sVecSub_any (x y u v:Int) (w:World):
 Calls Tryz.prog 136 #[vv x y,vv u v] w fun e w'=>e= .returned (vv (fc (fc x-fc u)) (fc (fc y-fc v)))∧Below w.heap.size w w':=by
 have hx:=fc_bd x
 have hy:=fc_bd y
 have hu:=fc_bd u
 have hv:=fc_bd v
 have hset:=cset_map
 go_enter Tryz.func136,Tryz.ntmps136
 go_wp2_with (go_at_call 155;refine(l2Clamp_any _ _ _).mono ?_;rintro e w1 ⟨rfl,hb1⟩;obtain⟨hc1,hf1⟩:=bcell hb1;have hz1:=hb1.size;(try simp at hz1);have hq1x0a:w.heap.size<w1.heap.size:=(by omega);have hq1x1a:w.heap.size+1<w1.heap.size:=(by omega);have hq1x2a:w.heap.size+1+1<w1.heap.size:=(by omega);have hq1x2b:w.heap.size+2<w1.heap.size:=(by omega))
 exact bodyPost_ret (v:=vv (fc (fc x-fc u)) (fc (fc y-fc v))) (by simp[results,Tryz.results136,go_sem, *]) rfl ⟨rfl,bel_a⟩
theorem sVecDot_any (x y u v:Int) (w:World):
 Calls Tryz.prog 135 #[vv x y,vv u v] w fun e w'=>e= .returned (.int .i64 (vdot x y u v))∧Below w.heap.size w w':=by
 have hx:=fc_bd x
 have hy:=fc_bd y
 have hu:=fc_bd u
 have hv:=fc_bd v
 have p:=mul_bd hx hu
 have q:=mul_bd hy hv
 have hset:=cset_map
 go_enter Tryz.func135,Tryz.ntmps135
 go_wp2_with (first
  |(go_at_call 155;refine(l2Clamp_any _ _ _).mono ?_;rintro e w1 ⟨rfl,hb1⟩;obtain⟨hc1,hf1⟩:=bcell hb1;have hz1:=hb1.size;(try simp at hz1);have hq1x0a:w.heap.size<w1.heap.size:=(by omega);have hq1x1a:w.heap.size+1<w1.heap.size:=(by omega))
  |(go_at_call 156;refine(sFixClamp_any _ _).mono ?_;rintro e w' ⟨rfl,rfl⟩))
 go_ret
 exact⟨rfl,bel_a⟩
def szB (n:Int):Bool:=decide (1≤n∧n≤25600)
theorem isSize_any (n:Int) (w:World):
 Calls Tryz.prog 137 #[.int .i64 n] w fun e w'=>e= .returned (.bool (szB n))∧w'=w:=by
 go_enter Tryz.func137,Tryz.ntmps137
 go_wp2
 all_goals
  go_ret
  refine⟨ret_bool ?_,rfl⟩
  unfold szB
  first|(simp;omega)|(simp;done)
def rdB (k wd h:Int):Bool:=decide (k=1∧(1≤wd∧wd≤25600)∧h=0)
def bxB (k wd h:Int):Bool:=decide (k=2∧(1≤wd∧wd≤25600)∧(1≤h∧h≤25600))
def shB (k wd h:Int):Bool:=rdB k wd h||bxB k wd h
abbrev s3 (k wd h:Int):Value:= .agg #[.int .i64 k,.int .i64 wd,.int .i64 h]
theorem figureOf_round (wd:Int) (w:World) (h1:1≤wd) (h2:wd≤25600):
 Calls Tryz.prog 111 #[s3 1 wd 0] w fun e w'=>e= .returned (.tuple #[.iface 201 (.agg #[.int .i64 wd]),.bool true])∧Below w.heap.size w w':=by
 have hs:szB wd=true:=by unfold szB;simp;omega
 go_enter Tryz.func111,Tryz.ntmps111
 go_wp2_with (go_at_call 137;refine(isSize_any _ _).mono ?_;rintro e w' ⟨rfl,rfl⟩)
 go_ret2
 exact⟨rfl,(Below.refl _ _).alloc (Nat.le_refl _) _⟩
theorem figureOf_box (wd h:Int) (w:World) (h1:1≤wd) (h2:wd≤25600) (h3:1≤h) (h4:h≤25600):
 Calls Tryz.prog 111 #[s3 2 wd h] w fun e w'=>e= .returned (.tuple #[.iface 203 (.agg #[.int .i64 wd,.int .i64 h]),.bool true])∧Below w.heap.size w w':=by
 have hs:szB wd=true:=by unfold szB;simp;omega
 have hs2:szB h=true:=by unfold szB;simp;omega
 go_enter Tryz.func111,Tryz.ntmps111
 go_wp2_with (go_at_call 137;refine(isSize_any _ _).mono ?_;rintro e w' ⟨rfl,rfl⟩)
 go_ret2
 exact⟨rfl,(Below.refl _ _).alloc (Nat.le_refl _) _⟩
theorem figureOf_none (k wd h:Int) (w:World) (hn:shB k wd h=false):
 Calls Tryz.prog 111 #[s3 k wd h] w fun e w'=>e= .returned (.tuple #[.nilIface,.bool false])∧Below w.heap.size w w':=by
 have HN:Hid (¬ ((k=1∧(1≤wd∧wd≤25600)∧h=0)∨(k=2∧(1≤wd∧wd≤25600)∧(1≤h∧h≤25600)))):=by
  unfold shB rdB bxB at hn
  simp only[Bool.or_eq_false_iff,decide_eq_false_iff_not] at hn
  rintro(h|h)
  · exact hn.1 h
  · exact hn.2 h
 clear hn
 have hsz:Hid (∀ n,szB n=true→1≤n∧n≤25600):=by intro n hn;unfold szB at hn;simpa using hn
 go_enter Tryz.func111,Tryz.ntmps111
 go_wp2_with (go_at_call 137;refine(isSize_any _ _).mono ?_;rintro e w' ⟨rfl,rfl⟩)
 all_goals
  first
   |(go_ret2;exact⟨rfl,(Below.refl _ _).alloc (Nat.le_refl _) _⟩)
   |(exfalso;subst k;exact HN.out (.inl ⟨rfl,hsz.out _ ‹_›,by simpa using ‹(h==0)=true›⟩))
   |(exfalso;subst k;exact HN.out (.inr ⟨rfl,hsz.out _ ‹szB wd=true›,hsz.out _ ‹szB h=true›⟩))
theorem shapeOk_any (k wd h:Int) (w:World):
 Calls Tryz.prog 87 #[s3 k wd h] w fun e w'=>e= .returned (.bool (shB k wd h))∧Below w.heap.size w w':=by
 by_cases hr:rdB k wd h=true
 · have e:shB k wd h=true:=by unfold shB;rw[hr];rfl
   have E:Hid (shB k wd h=true):=e
   clear e
   unfold rdB at hr
   obtain⟨rfl,⟨h1,h2⟩,rfl⟩:=of_decide_eq_true hr
   clear hr
   go_enter Tryz.func87,Tryz.ntmps87
   go_wp2_with (go_at_call 111;refine(figureOf_round _ _ h1 h2).mono ?_;rintro e w1 ⟨rfl,hb1⟩)
   go_ret
   exact⟨ret_bool E.out.symm,((Below.refl _ _).alloc (Nat.le_refl _) _).trans (hb1.mono (by simp))⟩
 · by_cases hb:bxB k wd h=true
   · have e:shB k wd h=true:=by unfold shB;rw[hb];simp
     have E:Hid (shB k wd h=true):=e
     clear e hr
     unfold bxB at hb
     obtain⟨rfl,⟨h1,h2⟩,h3,h4⟩:=of_decide_eq_true hb
     clear hb
     go_enter Tryz.func87,Tryz.ntmps87
     go_wp2_with (go_at_call 111;refine(figureOf_box _ _ _ h1 h2 h3 h4).mono ?_;rintro e w1 ⟨rfl,hb1⟩)
     go_ret
     exact⟨ret_bool E.out.symm,((Below.refl _ _).alloc (Nat.le_refl _) _).trans (hb1.mono (by simp))⟩
   · have e:shB k wd h=false:=by unfold shB;simp[hr,hb]
     have E:Hid (shB k wd h=false):=e
     clear e hr hb
     go_enter Tryz.func87,Tryz.ntmps87
     go_wp2_with (go_at_call 111;refine(figureOf_none _ _ _ _ E.out).mono ?_;rintro e w1 ⟨rfl,hb1⟩)
     go_ret
     exact⟨ret_bool E.out.symm,((Below.refl _ _).alloc (Nat.le_refl _) _).trans (hb1.mono (by simp))⟩
theorem sShapeOk_any (k wd h:Int) (w:World):
 Calls Tryz.prog 64 #[s3 k wd h] w fun e w'=>e= .returned (.bool (shB k wd h))∧Below w.heap.size w w':=by
 go_enter Tryz.func64,Tryz.ntmps64
 go_wp2_with (go_at_call 19;refine(l1In_any _ _ _ _).mono ?_;rintro e w' ⟨rfl,rfl⟩)
 all_goals
  go_ret
  refine⟨ret_bool ?_,(Below.refl _ _).alloc (Nat.le_refl _) _⟩
  unfold shB rdB bxB
  first|(simp[*];done)|(simp at*;subst k;simp[*];done)|(simp at*;subst k;simp[*];rfl)|(simp at*;subst k;simp;omega)|(simp at*;simp[*];done)
abbrev b4 (a b c d:Int):Value:= .agg #[.int .i64 a,.int .i64 b,.int .i64 c,.int .i64 d]
def leB (x y u v:Int):Bool:=decide (x≤u∧y≤v)
def bokB (a b c d:Int):Bool:=vokB a b&&(vokB c d&&leB a b c d)
theorem noneGreater_any (x y u v:Int) (w:World):
 Calls Tryz.prog 179 #[vv x y,vv u v] w fun e w'=>e= .returned (.bool (leB x y u v))∧Below w.heap.size w w':=by
 have hset:=cset_map
 go_enter Tryz.func179,Tryz.ntmps179
 go_wp2
 all_goals
  go_ret
  refine⟨ret_bool ?_,bel_a⟩
  unfold leB
  first|(simp;done)|(simp;omega)|(simp at*;omega)
end Go.Proofs.YthajilkjfkppoaaGreatDoor
namespace Go.Proofs.YthajilkjfkppoaaGreatDoor
open Go.RowKit Go.Extern.Stop Go.Stop Go.Extern
set_option linter.unusedVariables false
set_option linter.unusedSimpArgs false
theorem rl_valPP (t:Addr) (w:World):(ReflectliteValue.unpack (.iface 114 (.pointer (some t)))).run Tryz.prog w= .ok (.agg #[.pointer (some ⟨1,114,none⟩),.pointer (some ⟨w.heap.size,0,none⟩),.int .u64 150]) (w.alloc (.cells #[.pointer (some t)] 114)):=by kernel_rfl
theorem rl_valP (e:Addr) (w:World):(ReflectliteValue.unpack (.iface 112 (.pointer (some e)))).run Tryz.prog w= .ok (.agg #[.pointer (some ⟨1,112,none⟩),.pointer (some ⟨w.heap.size,0,none⟩),.int .u64 150]) (w.alloc (.cells #[.pointer (some e)] 112)):=by kernel_rfl
theorem rl_type (a:Addr) (w:World):(ReflectliteValue.methodAny (ReflectliteValue.valueError "reflectlite.Value.Type" 0) (fun t _ _ _=>ReflectliteType.toType t) #[.agg #[.pointer (some ⟨1,114,none⟩),.pointer (some a),.int .u64 150]]).run Tryz.prog w= .ok (.iface 178 (.agg #[.pointer (some ⟨1,114,none⟩)])) w:=by kernel_rfl
theorem rl_mK (h:Value) (w:World):(Go.method 377 178 (.agg #[h]) "Kind").run Tryz.prog w= .ok ((210,h)) w:=by kernel_rfl
theorem rl_mE (h:Value) (w:World):(Go.method 377 178 (.agg #[h]) "Elem").run Tryz.prog w= .ok ((224,.agg #[h])) w:=by kernel_rfl
theorem rl_mI (h:Value) (w:World):(Go.method 377 178 (.agg #[h]) "Implements").run Tryz.prog w= .ok ((225,.agg #[h])) w:=by kernel_rfl
theorem rl_mA (h:Value) (w:World):(Go.method 377 178 (.agg #[h]) "AssignableTo").run Tryz.prog w= .ok ((222,.agg #[h])) w:=by kernel_rfl
theorem rl_kPP (w:World):((ReflectliteType.abiMethod fun t=>(fun a:Nat=>Value.int IntKind.u8 (a:Int))<$>Rtype.kind t) #[.pointer (some ⟨1,114,none⟩)]).run Tryz.prog w= .ok (.int .u8 22) w:=by kernel_rfl
theorem rl_kP (w:World):((ReflectliteType.abiMethod fun t=>(fun a:Nat=>Value.int IntKind.u8 (a:Int))<$>Rtype.kind t) #[.pointer (some ⟨1,112,none⟩)]).run Tryz.prog w= .ok (.int .u8 22) w:=by kernel_rfl
theorem rl_elem (w:World):(ReflectliteType.method ReflectliteType.elem #[.agg #[.pointer (some ⟨1,114,none⟩)]]).run Tryz.prog w= .ok (.iface 178 (.agg #[.pointer (some ⟨1,112,none⟩)])) w:=by kernel_rfl
theorem rl_impl (w:World):(ReflectliteType.relation "Implements" ReflectliteType.implements_ #[.agg #[.pointer (some ⟨1,112,none⟩)],.iface 178 (.agg #[.pointer (some ⟨1,76,none⟩)])]).run Tryz.prog w= .ok (.bool true) w:=by kernel_rfl
theorem rl_typeOf (v:Value) (w:World):(ReflectliteType.typeOf #[.iface 112 v]).run Tryz.prog w= .ok (.iface 178 (.agg #[.pointer (some ⟨1,112,none⟩)])) w:=by kernel_rfl
theorem rl_asg (w:World):(ReflectliteType.relation "AssignableTo" ReflectliteType.assignableTo #[.agg #[.pointer (some ⟨1,112,none⟩)],.iface 178 (.agg #[.pointer (some ⟨1,112,none⟩)])]).run Tryz.prog w= .ok (.bool true) w:=by kernel_rfl
theorem rl_m (z:Sem Value) (f:TypeId→Addr→Nat→Nat→Sem Value) (v:Value):ReflectliteValue.method z f #[v]=(do match←ReflectliteValue.parts v with|none=>z|some (t,a,fl)=>f t a fl (fl % 32)):=rfl
theorem rl_partsPP (a:Addr) (w:World):(ReflectliteValue.parts (.agg #[.pointer (some ⟨1,114,none⟩),.pointer (some a),.int .u64 150])).run Tryz.prog w= .ok (some (114,a,150)) w:=by kernel_rfl
theorem rl_partsP (a:Addr) (w:World):(ReflectliteValue.parts (.agg #[.pointer (some ⟨1,112,none⟩),.pointer (some a),.int .u64 150])).run Tryz.prog w= .ok (some (112,a,150)) w:=by kernel_rfl
theorem rl_partsA (a:Addr) (w:World):(ReflectliteValue.parts (.agg #[.pointer (some ⟨1,112,none⟩),.pointer (some a),.int .u64 406])).run Tryz.prog w= .ok (some (112,a,406)) w:=by kernel_rfl
theorem rl_eOf (w:World):(Rtype.elem? 114).run Tryz.prog w= .ok (some 112) w:=by kernel_rfl
theorem rl_mk (p:Addr) (w:World):(ReflectliteValue.mk 112 p ReflectliteValue.flagAddr).run Tryz.prog w= .ok (.agg #[.pointer (some ⟨1,112,none⟩),.pointer (some p),.int .u64 406]) w:=by kernel_rfl
theorem rl_dir (w:World):(Rtype.directlyAssignable 112 112).run Tryz.prog w= .ok (true) w:=by kernel_rfl
theorem rl_isNil (a p:Addr) (W:World) (ha:W.cell? a=some (.pointer (some p))):(ReflectliteValue.method (ReflectliteValue.valueError "reflectlite.Value.IsNil" 0) ReflectliteValue.isNil #[.agg #[.pointer (some ⟨1,114,none⟩),.pointer (some a),.int .u64 150]]).run Tryz.prog W= .ok (.bool false) W:=by
 rw[rl_m]
 simp only[Sem.run_bind,rl_partsPP,Result.andThen]
 simp[ReflectliteValue.isNil,loadVar,isAgg,underlying,Tryz.underlying114,ha,Result.andThen]
theorem rl_elemV (a p:Addr) (W:World) (ha:W.cell? a=some (.pointer (some p))):(ReflectliteValue.method (ReflectliteValue.valueError "reflectlite.Value.Elem" 0) ReflectliteValue.elem #[.agg #[.pointer (some ⟨1,114,none⟩),.pointer (some a),.int .u64 150]]).run Tryz.prog W= .ok (.agg #[.pointer (some ⟨1,112,none⟩),.pointer (some p),.int .u64 406]) W:=by
 rw[rl_m]
 simp only[Sem.run_bind,rl_partsPP,Result.andThen]
 simp[ReflectliteValue.elem,loadVar,isAgg,underlying,Tryz.underlying114,ha,Result.andThen,rl_eOf,rl_mk]
theorem rl_two {motive:Array Value→Sort _} (v x:Value) (f:∀ v x,motive #[v,x]) (g:∀ a,motive a):ReflectliteValue.set.match_3 motive #[v,x] f g=f v x:=rfl
theorem rl_set (ta b e:Addr) (old:Value) (W:World) (hb:W.cell? b=some (.pointer (some e))) (ht:W.cell? ta=some old) (hf:W.frozen? ta=false):
 (ReflectliteValue.set #[.agg #[.pointer (some ⟨1,112,none⟩),.pointer (some ta),.int .u64 406],.agg #[.pointer (some ⟨1,112,none⟩),.pointer (some b),.int .u64 150]]).run Tryz.prog W= .ok (.tuple #[]) (W.setCell ta (.pointer (some e))):=by
 delta ReflectliteValue.set
 rw[rl_two]
 simp only[Sem.run_bind,rl_partsA,rl_partsP,Result.andThen]
 simp[ReflectliteValue.flagAddr,loadVar,isAgg,underlying,Tryz.underlying112,hb,Result.andThen,rl_dir,storeVar,Value.cells,storeCells,Addr.add]
 rw[run_store Tryz.prog W ta _ _ (by rfl)]
 simp[ht,hf]
theorem as_refusal (e t:Addr) (old:Value) (w:World) (hg:w.cell? ⟨0,0,none⟩=some (.iface 178 (.agg #[.pointer (some ⟨1,76,none⟩)]))) (ht0:w.cell? t=some old) (hf0:w.frozen? t=false):
 Calls Tryz.prog 75 #[.iface 112 (.pointer (some e)),.iface 114 (.pointer (some t))] w fun ev w'=>ev= .returned (.bool true)∧w'=((((w.alloc (.cells #[.pointer (some t)] 114)).alloc (.cells #[.pointer (some ⟨1,114,none⟩),.pointer (some ⟨w.heap.size,0,none⟩),.int .u64 150] 136)).alloc (.cells #[.pointer (some ⟨1,114,none⟩),.pointer (some ⟨w.heap.size,0,none⟩),.int .u64 150] 136)).alloc (.cells #[.pointer (some e)] 112)).setCell t (.pointer (some e)):=by
 have h1:= @run_callFunc_extern Tryz.prog 98 _ (fun args=>ReflectliteValue.unpack (args.getD 0 (.tuple #[]))) Tryz.func98 (by kernel_rfl) (by kernel_rfl) (by kernel_rfl) (by kernel_rfl)
 have h2:= @run_callFunc_extern Tryz.prog 99 _ (ReflectliteValue.methodAny (ReflectliteValue.valueError "reflectlite.Value.Type" 0) (fun t _ _ _=>ReflectliteType.toType t)) Tryz.func99 (by kernel_rfl) (by kernel_rfl) (by kernel_rfl) (by kernel_rfl)
 have h3:= @run_callFunc_extern Tryz.prog 100 _ (ReflectliteValue.method (ReflectliteValue.valueError "reflectlite.Value.IsNil" 0) ReflectliteValue.isNil) Tryz.func100 (by kernel_rfl) (by kernel_rfl) (by kernel_rfl) (by kernel_rfl)
 have h4:= @run_callFunc_extern Tryz.prog 210 _ (ReflectliteType.abiMethod fun t=>do pure (.int .u8 (←Rtype.kind t))) Tryz.func210 (by kernel_rfl) (by kernel_rfl) (by kernel_rfl) (by kernel_rfl)
 have h5:= @run_callFunc_extern Tryz.prog 224 _ (ReflectliteType.method ReflectliteType.elem) Tryz.func224 (by kernel_rfl) (by kernel_rfl) (by kernel_rfl) (by kernel_rfl)
 have h6:= @run_callFunc_extern Tryz.prog 225 _ (ReflectliteType.relation "Implements" ReflectliteType.implements_) Tryz.func225 (by kernel_rfl) (by kernel_rfl) (by kernel_rfl) (by kernel_rfl)
 have h7:= @run_callFunc_extern Tryz.prog 124 _ (ReflectliteType.typeOf) Tryz.func124 (by kernel_rfl) (by kernel_rfl) (by kernel_rfl) (by kernel_rfl)
 have h8:= @run_callFunc_extern Tryz.prog 222 _ (ReflectliteType.relation "AssignableTo" ReflectliteType.assignableTo) Tryz.func222 (by kernel_rfl) (by kernel_rfl) (by kernel_rfl) (by kernel_rfl)
 have h9:= @run_callFunc_extern Tryz.prog 125 _ (ReflectliteValue.method (ReflectliteValue.valueError "reflectlite.Value.Elem" 0) ReflectliteValue.elem) Tryz.func125 (by kernel_rfl) (by kernel_rfl) (by kernel_rfl) (by kernel_rfl)
 have h10:= @run_callFunc_extern Tryz.prog 126 _ (ReflectliteValue.set) Tryz.func126 (by kernel_rfl) (by kernel_rfl) (by kernel_rfl) (by kernel_rfl)
 have k0:=rl_typeOf
 have k1:=rl_mA
 have k2:=rl_asg
 have k3:=rl_valP
 have k4:=rl_valPP
 have k5:=rl_type
 have k6:=rl_mK
 have k7:=rl_mE
 have k8:=rl_mI
 have k9:=rl_kPP
 have k10:=rl_kP
 have k11:=rl_elem
 have k12:=rl_impl
 have n8:=rl_isNil ⟨w.heap.size,0,none⟩ t ((w.alloc (.cells #[.pointer (some t)] 114)).alloc (.cells #[.pointer (some ⟨1,114,none⟩),.pointer (some ⟨w.heap.size,0,none⟩),.int .u64 150] 136)) (by simp)
 have hlt:0<w.heap.size:=by
  rcases Nat.eq_zero_or_pos w.heap.size with h0|h
  · simp[World.cell?,h0] at hg
  · exact h
 have hg2:((w.alloc (.cells #[.pointer (some t)] 114)).alloc (.cells #[.pointer (some ⟨1,114,none⟩),.pointer (some ⟨w.heap.size,0,none⟩),.int .u64 150] 136)).cell? ⟨0,0,none⟩=some (.iface 178 (.agg #[.pointer (some ⟨1,76,none⟩)])):=by
  rw[World.cell?_alloc_lt _ _ ⟨0,0,none⟩ (by simp),World.cell?_alloc_lt _ _ ⟨0,0,none⟩ hlt];exact hg
 have htl:t.block<w.heap.size:=by
  rcases Nat.lt_or_ge t.block w.heap.size with h|h
  · exact h
  · simp[World.cell?,Array.getElem?_eq_none h] at ht0
 have el:=rl_elemV ⟨w.heap.size,0,none⟩ t (((w.alloc (.cells #[.pointer (some t)] 114)).alloc (.cells #[.pointer (some ⟨1,114,none⟩),.pointer (some ⟨w.heap.size,0,none⟩),.int .u64 150] 136)).alloc (.cells #[.pointer (some ⟨1,114,none⟩),.pointer (some ⟨w.heap.size,0,none⟩),.int .u64 150] 136)) (by rw[World.cell?_alloc_lt _ _ ⟨w.heap.size,0,none⟩ (by simp;omega)];simp)
 have st:=rl_set t ⟨w.heap.size+1+1+1,0,none⟩ e old ((((w.alloc (.cells #[.pointer (some t)] 114)).alloc (.cells #[.pointer (some ⟨1,114,none⟩),.pointer (some ⟨w.heap.size,0,none⟩),.int .u64 150] 136)).alloc (.cells #[.pointer (some ⟨1,114,none⟩),.pointer (some ⟨w.heap.size,0,none⟩),.int .u64 150] 136)).alloc (.cells #[.pointer (some e)] 112))
  (by rw[World.cell?_alloc_at _ _ _ _ (by simp)];rfl)
  (by rw[World.cell?_alloc_lt _ _ t (by simp;omega),World.cell?_alloc_lt _ _ t (by simp;omega),World.cell?_alloc_lt _ _ t (by simp;omega),World.cell?_alloc_lt _ _ t htl];exact ht0)
  (by rw[World.frozen?_alloc_old _ _ t (by simp;omega),World.frozen?_alloc_old _ _ t (by simp;omega),World.frozen?_alloc_old _ _ t (by simp;omega),World.frozen?_alloc_old _ _ t (Nat.ne_of_lt htl)];exact hf0)
 go_enter Tryz.func75,Tryz.ntmps75
 go_wp2
 refine wp_loop_rounds 1 ?_
 rw[rounds_succ]
 go_wp2
 go_ret
 exact⟨rfl,rfl⟩
theorem as_nil (x:Value) (w:World):Calls Tryz.prog 75 #[.nilIface,x] w fun e w'=>e= .returned (.bool false)∧w'=w:=by
 go_enter Tryz.func75,Tryz.ntmps75
 go_wp2
 go_ret
 exact⟨rfl,rfl⟩
theorem refused_nil (w:World):Calls Tryz.prog 37 #[.nilIface] w fun e w'=>e= .returned (.bool false)∧Below w.heap.size w w':=by
 go_enter Tryz.func37,Tryz.ntmps37
 go_wp2_with (go_at_call 75;refine(as_nil _ _).mono ?_;rintro e w1 ⟨rfl,rfl⟩)
 go_ret
 exact⟨rfl,(Below.refl _ _).alloc (Nat.le_refl _) _⟩
theorem refused_yes (e:Addr) (w:World) (hg:w.cell? ⟨0,0,none⟩=some (.iface 178 (.agg #[.pointer (some ⟨1,76,none⟩)]))):Calls Tryz.prog 37 #[.iface 112 (.pointer (some e))] w fun e w'=>e= .returned (.bool true)∧Below w.heap.size w w':=by
 have hlt:0<w.heap.size:=by
  rcases Nat.eq_zero_or_pos w.heap.size with h0|h
  · simp[World.cell?,h0] at hg
  · exact h
 have hg1:(w.alloc (.cells #[.pointer none] 112)).cell? ⟨0,0,none⟩=some (.iface 178 (.agg #[.pointer (some ⟨1,76,none⟩)])):=by rw[World.cell?_alloc_lt _ _ ⟨0,0,none⟩ hlt];exact hg
 go_enter Tryz.func37,Tryz.ntmps37
 go_wp2_with (go_at_call 75;refine(as_refusal e ⟨w.heap.size,0,none⟩ (.pointer none) _ hg1 (by go_simp) (by go_simp)).mono ?_;rintro e w1 ⟨rfl,rfl⟩)
 go_ret
 exact⟨rfl,bel_a⟩
end Go.Proofs.YthajilkjfkppoaaGreatDoor
