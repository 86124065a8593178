/- Texts of a proof. -/
import Derived.Test.YtpmjnpmnocjjgaaGreatDoorRfG
import Derived.Test.YtpmjnpmnocjjgaaGreatDoorB2
import Derived.LoopNIn
import Derived.LoopIn
import Derived.OwnWalkIn
import Derived.RangeFuncBound
import Derived.Shelf.Abstract
import Derived.Deep.DeepCutAuto
import Derived.Test.YtpmjnpmnocjjgaaGreatDoorB3
import Derived.Deep.QuietTactic
import Derived.BigQuiet
import Derived.Deep.RegionWith
import Derived.Test.YtpmjnpmnocjjgaaGreatDoorB5
import Derived.WalkKit
import Derived.LaidEql
import Derived.Stop.Asserts
import Derived.RowKitTokens
import Derived.Deep.RegionHeld3
set_option maxHeartbeats 16000000
set_option maxRecDepth 20000
namespace Go.Proofs.YtpmjnpmnocjjgaaGreatDoor
open Go.RowKit Go.Shelf
set_option linter.unusedVariables false
set_option linter.unusedSimpArgs false
abbrev hdk (cb k:Nat):Value:= .agg #[.int .i64 (k:Int),.pointer (some ⟨cb,0,none⟩)]
theorem handle_any (cb k:Nat) (w:World):
 Calls Tryz.prog 70 #[.pointer (some ⟨cb,0,none⟩),.int .i64 (k:Int)] w fun e w'=>e= .returned (hdk cb k)∧Below w.heap.size w w':=by
 go_enter Tryz.func70,Tryz.ntmps70
 go_wp2
 exact bodyPost_ret (v:=hdk cb k) (by simp[results,Tryz.results70,go_sem, *]) rfl ⟨rfl,by repeat(first|with_reducible apply Below.refl|(with_reducible apply Below.setCell;rotate_left;focus (first|omega|(simp;done)|(simp;omega)))|(with_reducible apply Below.alloc;rotate_left;focus (first|omega|(simp;done)|(simp;omega))))⟩
theorem each_enters:∀ args w,(callFunc 41 args).run Tryz.prog w= .ok (.enter 41 args) w:=enters_of Tryz.func41 (by kernel_rfl) rfl
theorem each_it (cb nn cc:Nat) (ad:Option Addr) (w:World) (hcb:cb<w.heap.size) (hc:w.cell? ⟨cb,0,none⟩=some (.slice ad nn cc)) (hn:nn≤1048576):
 ItC Tryz.prog 41 #[.pointer (some ⟨cb,0,none⟩)] (fun k=> #[hdk cb k]) nn w:=by
 intro l J Jx W hbW hJb hJx hY h0
 have hc':W.cell? ⟨cb,0,none⟩=some (.slice ad nn cc):=(hbW.cell (p:=⟨cb,0,none⟩) hcb).trans hc
 refine callsIn_of_wp Tryz.func41 rfl trivial ?_ rfl
 simp only[Tryz.ntmps41,List.size_toArray,List.length_cons,List.length_nil,Nat.reduceAdd,Nat.reduceSub,Array.replicate_succ,Array.replicate_zero,List.push_toArray,List.append_toArray,List.nil_append,List.cons_append]
 gi_wp2
 gi_loopw [4,10] (fun _ i wr=>∃ k:Nat,k≤nn∧i= .int .i64 (k:Int)∧J k wr) (fun _ i _=>nn-(intOf i).toNat)
 case atStart=>exact⟨0,Nat.zero_le _,rfl,h0⟩
 case round=>
  obtain⟨k,hk,rfl,hJ⟩:=hrel
  by_cases hlt:k<nn
  · gi_wp2_with (refine⟨trivial,rfl,?_⟩;gi_at_call 70;refine(callsIn_wide.2 (handle_any cb k _)).mono ?_;rintro e w1 ⟨rfl,hb1⟩;have hJ1:=hJb _ _ _ hJ hb1;obtain⟨fn,tmps,assign,body,hy,hR⟩:=hY k w1 hJ1 hlt)
    refine⟨rfl,hR.mono ?_⟩
    rintro e w2 (⟨rfl,hJ2⟩|⟨rfl,hJx2⟩)
    · gi_wp2
      go_roundw
      case rel=>exact⟨k+1,by omega,by go_num,hJ2⟩
      case measure=>simp[intOf];omega
    · gi_wp2
      refine bodyPost_ret (results_none rfl _ _ _) rfl ?_
      exact⟨⟨_,rfl⟩,.inr hJx2⟩
  · gi_wp2
    go_end0
    obtain rfl:k=nn:=by omega
    exact⟨⟨_,rfl⟩,.inl hJ⟩
end Go.Proofs.YtpmjnpmnocjjgaaGreatDoor
namespace Go.Proofs.YtpmjnpmnocjjgaaGreatDoor
open Go.RowKit
set_option linter.unusedVariables false
set_option linter.unusedSimpArgs false
def ptB (a b c d x y:Int):Bool:=decide ((a≤x∧x≤c)∧(b≤y∧y≤d))
theorem l3Meets_any (a b c d r s t u:Int) (w:World):
 Calls Tryz.prog 122 #[b4 a b c d,b4 r s t u] w fun e w'=>e= .returned (.bool (leB a b t u&&leB r s c d))∧Below w.heap.size w w':=by
 have hset:=cset_map
 go_enter Tryz.func122,Tryz.ntmps122
 go_wp2
 all_goals
  go_ret
  refine⟨ret_bool ?_,bel_a⟩
  unfold leB
  first|(simp[*];done)|(simp at*;omega)|(simp[*];omega)
theorem l3Point_any (a b c d x y:Int) (w:World):
 Calls Tryz.prog 123 #[b4 a b c d,vv x y] w fun e w'=>e= .returned (.bool (ptB a b c d x y))∧Below w.heap.size w w':=by
 have hset:=cset_map
 go_enter Tryz.func123,Tryz.ntmps123
 go_wp2_with (go_at_call 16;refine(l1In_any _ _ _ _).mono ?_;rintro e w' ⟨rfl,rfl⟩)
 all_goals
  go_ret
  refine⟨ret_bool ?_,bel_a⟩
  unfold ptB
  first|(simp[*];done)|(simp at*;omega)|(simp[*];omega)
end Go.Proofs.YtpmjnpmnocjjgaaGreatDoor
namespace Go.Proofs.YtpmjnpmnocjjgaaGreatDoor
open Go.RowKit
set_option linter.unusedVariables false
theorem kf2 {W w1:World} (hb:Below W.heap.size W w1) (b:Nat) (h:b+1<W.heap.size:=by((try simp only[zz]);omega)):
 ((∀ o,w1.cell? ⟨b,o,none⟩=W.cell? ⟨b,o,none⟩)∧(∀ o,w1.frozen? ⟨b,o,none⟩=W.frozen? ⟨b,o,none⟩)∧b<w1.heap.size)∧((∀ o,w1.cell? ⟨b+1,o,none⟩=W.cell? ⟨b+1,o,none⟩)∧(∀ o,w1.frozen? ⟨b+1,o,none⟩=W.frozen? ⟨b+1,o,none⟩)∧b+1<w1.heap.size):=
 ⟨kfa hb (b) (by omega),kfa hb (b+1) (by omega)⟩
theorem kf3 {W w1:World} (hb:Below W.heap.size W w1) (b:Nat) (h:b+1+1<W.heap.size:=by((try simp only[zz]);omega)):
 ((∀ o,w1.cell? ⟨b,o,none⟩=W.cell? ⟨b,o,none⟩)∧(∀ o,w1.frozen? ⟨b,o,none⟩=W.frozen? ⟨b,o,none⟩)∧b<w1.heap.size)∧((∀ o,w1.cell? ⟨b+1,o,none⟩=W.cell? ⟨b+1,o,none⟩)∧(∀ o,w1.frozen? ⟨b+1,o,none⟩=W.frozen? ⟨b+1,o,none⟩)∧b+1<w1.heap.size)∧((∀ o,w1.cell? ⟨b+1+1,o,none⟩=W.cell? ⟨b+1+1,o,none⟩)∧(∀ o,w1.frozen? ⟨b+1+1,o,none⟩=W.frozen? ⟨b+1+1,o,none⟩)∧b+1+1<w1.heap.size):=
 ⟨kfa hb (b) (by omega),kfa hb (b+1) (by omega),kfa hb (b+1+1) (by omega)⟩
theorem kf4 {W w1:World} (hb:Below W.heap.size W w1) (b:Nat) (h:b+1+1+1<W.heap.size:=by((try simp only[zz]);omega)):
 ((∀ o,w1.cell? ⟨b,o,none⟩=W.cell? ⟨b,o,none⟩)∧(∀ o,w1.frozen? ⟨b,o,none⟩=W.frozen? ⟨b,o,none⟩)∧b<w1.heap.size)∧((∀ o,w1.cell? ⟨b+1,o,none⟩=W.cell? ⟨b+1,o,none⟩)∧(∀ o,w1.frozen? ⟨b+1,o,none⟩=W.frozen? ⟨b+1,o,none⟩)∧b+1<w1.heap.size)∧((∀ o,w1.cell? ⟨b+1+1,o,none⟩=W.cell? ⟨b+1+1,o,none⟩)∧(∀ o,w1.frozen? ⟨b+1+1,o,none⟩=W.frozen? ⟨b+1+1,o,none⟩)∧b+1+1<w1.heap.size)∧((∀ o,w1.cell? ⟨b+1+1+1,o,none⟩=W.cell? ⟨b+1+1+1,o,none⟩)∧(∀ o,w1.frozen? ⟨b+1+1+1,o,none⟩=W.frozen? ⟨b+1+1+1,o,none⟩)∧b+1+1+1<w1.heap.size):=
 ⟨kfa hb (b) (by omega),kfa hb (b+1) (by omega),kfa hb (b+1+1) (by omega),kfa hb (b+1+1+1) (by omega)⟩
theorem kf5 {W w1:World} (hb:Below W.heap.size W w1) (b:Nat) (h:b+1+1+1+1<W.heap.size:=by((try simp only[zz]);omega)):
 ((∀ o,w1.cell? ⟨b,o,none⟩=W.cell? ⟨b,o,none⟩)∧(∀ o,w1.frozen? ⟨b,o,none⟩=W.frozen? ⟨b,o,none⟩)∧b<w1.heap.size)∧((∀ o,w1.cell? ⟨b+1,o,none⟩=W.cell? ⟨b+1,o,none⟩)∧(∀ o,w1.frozen? ⟨b+1,o,none⟩=W.frozen? ⟨b+1,o,none⟩)∧b+1<w1.heap.size)∧((∀ o,w1.cell? ⟨b+1+1,o,none⟩=W.cell? ⟨b+1+1,o,none⟩)∧(∀ o,w1.frozen? ⟨b+1+1,o,none⟩=W.frozen? ⟨b+1+1,o,none⟩)∧b+1+1<w1.heap.size)∧((∀ o,w1.cell? ⟨b+1+1+1,o,none⟩=W.cell? ⟨b+1+1+1,o,none⟩)∧(∀ o,w1.frozen? ⟨b+1+1+1,o,none⟩=W.frozen? ⟨b+1+1+1,o,none⟩)∧b+1+1+1<w1.heap.size)∧((∀ o,w1.cell? ⟨b+1+1+1+1,o,none⟩=W.cell? ⟨b+1+1+1+1,o,none⟩)∧(∀ o,w1.frozen? ⟨b+1+1+1+1,o,none⟩=W.frozen? ⟨b+1+1+1+1,o,none⟩)∧b+1+1+1+1<w1.heap.size):=
 ⟨kfa hb (b) (by omega),kfa hb (b+1) (by omega),kfa hb (b+1+1) (by omega),kfa hb (b+1+1+1) (by omega),kfa hb (b+1+1+1+1) (by omega)⟩
theorem kf6 {W w1:World} (hb:Below W.heap.size W w1) (b:Nat) (h:b+1+1+1+1+1<W.heap.size:=by((try simp only[zz]);omega)):
 ((∀ o,w1.cell? ⟨b,o,none⟩=W.cell? ⟨b,o,none⟩)∧(∀ o,w1.frozen? ⟨b,o,none⟩=W.frozen? ⟨b,o,none⟩)∧b<w1.heap.size)∧((∀ o,w1.cell? ⟨b+1,o,none⟩=W.cell? ⟨b+1,o,none⟩)∧(∀ o,w1.frozen? ⟨b+1,o,none⟩=W.frozen? ⟨b+1,o,none⟩)∧b+1<w1.heap.size)∧((∀ o,w1.cell? ⟨b+1+1,o,none⟩=W.cell? ⟨b+1+1,o,none⟩)∧(∀ o,w1.frozen? ⟨b+1+1,o,none⟩=W.frozen? ⟨b+1+1,o,none⟩)∧b+1+1<w1.heap.size)∧((∀ o,w1.cell? ⟨b+1+1+1,o,none⟩=W.cell? ⟨b+1+1+1,o,none⟩)∧(∀ o,w1.frozen? ⟨b+1+1+1,o,none⟩=W.frozen? ⟨b+1+1+1,o,none⟩)∧b+1+1+1<w1.heap.size)∧((∀ o,w1.cell? ⟨b+1+1+1+1,o,none⟩=W.cell? ⟨b+1+1+1+1,o,none⟩)∧(∀ o,w1.frozen? ⟨b+1+1+1+1,o,none⟩=W.frozen? ⟨b+1+1+1+1,o,none⟩)∧b+1+1+1+1<w1.heap.size)∧((∀ o,w1.cell? ⟨b+1+1+1+1+1,o,none⟩=W.cell? ⟨b+1+1+1+1+1,o,none⟩)∧(∀ o,w1.frozen? ⟨b+1+1+1+1+1,o,none⟩=W.frozen? ⟨b+1+1+1+1+1,o,none⟩)∧b+1+1+1+1+1<w1.heap.size):=
 ⟨kfa hb (b) (by omega),kfa hb (b+1) (by omega),kfa hb (b+1+1) (by omega),kfa hb (b+1+1+1) (by omega),kfa hb (b+1+1+1+1) (by omega),kfa hb (b+1+1+1+1+1) (by omega)⟩
end Go.Proofs.YtpmjnpmnocjjgaaGreatDoor
namespace Go.Proofs.YtpmjnpmnocjjgaaGreatDoor
open Go.RowKit Go.Extern.Stop Go.Stop Go.Extern
set_option linter.unusedVariables false
set_option linter.unusedSimpArgs false
theorem rl_valPP (t:Addr) (w:World):(ReflectliteValue.unpack (.iface 100 (.pointer (some t)))).run Tryz.prog w= .ok (.agg #[.pointer (some ⟨1,100,none⟩),.pointer (some ⟨w.heap.size,0,none⟩),.int .u64 150]) (w.alloc (.cells #[.pointer (some t)] 100)):=by kernel_rfl
theorem rl_valP (e:Addr) (w:World):(ReflectliteValue.unpack (.iface 98 (.pointer (some e)))).run Tryz.prog w= .ok (.agg #[.pointer (some ⟨1,98,none⟩),.pointer (some ⟨w.heap.size,0,none⟩),.int .u64 150]) (w.alloc (.cells #[.pointer (some e)] 98)):=by kernel_rfl
theorem rl_type (a:Addr) (w:World):(ReflectliteValue.methodAny (ReflectliteValue.valueError "reflectlite.Value.Type" 0) (fun t _ _ _=>ReflectliteType.toType t) #[.agg #[.pointer (some ⟨1,100,none⟩),.pointer (some a),.int .u64 150]]).run Tryz.prog w= .ok (.iface 172 (.agg #[.pointer (some ⟨1,100,none⟩)])) w:=by kernel_rfl
theorem rl_mK (h:Value) (w:World):(Go.method 377 172 (.agg #[h]) "Kind").run Tryz.prog w= .ok ((209,h)) w:=by kernel_rfl
theorem rl_mE (h:Value) (w:World):(Go.method 377 172 (.agg #[h]) "Elem").run Tryz.prog w= .ok ((223,.agg #[h])) w:=by kernel_rfl
theorem rl_mI (h:Value) (w:World):(Go.method 377 172 (.agg #[h]) "Implements").run Tryz.prog w= .ok ((224,.agg #[h])) w:=by kernel_rfl
theorem rl_mA (h:Value) (w:World):(Go.method 377 172 (.agg #[h]) "AssignableTo").run Tryz.prog w= .ok ((221,.agg #[h])) w:=by kernel_rfl
theorem rl_kPP (w:World):((ReflectliteType.abiMethod fun t=>(fun a:Nat=>Value.int IntKind.u8 (a:Int))<$>Rtype.kind t) #[.pointer (some ⟨1,100,none⟩)]).run Tryz.prog w= .ok (.int .u8 22) w:=by kernel_rfl
theorem rl_kP (w:World):((ReflectliteType.abiMethod fun t=>(fun a:Nat=>Value.int IntKind.u8 (a:Int))<$>Rtype.kind t) #[.pointer (some ⟨1,98,none⟩)]).run Tryz.prog w= .ok (.int .u8 22) w:=by kernel_rfl
theorem rl_elem (w:World):(ReflectliteType.method ReflectliteType.elem #[.agg #[.pointer (some ⟨1,100,none⟩)]]).run Tryz.prog w= .ok (.iface 172 (.agg #[.pointer (some ⟨1,98,none⟩)])) w:=by kernel_rfl
theorem rl_impl (w:World):(ReflectliteType.relation "Implements" ReflectliteType.implements_ #[.agg #[.pointer (some ⟨1,98,none⟩)],.iface 172 (.agg #[.pointer (some ⟨1,58,none⟩)])]).run Tryz.prog w= .ok (.bool true) w:=by kernel_rfl
theorem rl_typeOf (v:Value) (w:World):(ReflectliteType.typeOf #[.iface 98 v]).run Tryz.prog w= .ok (.iface 172 (.agg #[.pointer (some ⟨1,98,none⟩)])) w:=by kernel_rfl
theorem rl_asg (w:World):(ReflectliteType.relation "AssignableTo" ReflectliteType.assignableTo #[.agg #[.pointer (some ⟨1,98,none⟩)],.iface 172 (.agg #[.pointer (some ⟨1,98,none⟩)])]).run Tryz.prog w= .ok (.bool true) w:=by kernel_rfl
theorem rl_m (z:Sem Value) (f:TypeId→Addr→Nat→Nat→Sem Value) (v:Value):ReflectliteValue.method z f #[v]=(do match←ReflectliteValue.parts v with|none=>z|some (t,a,fl)=>f t a fl (fl % 32)):=rfl
theorem rl_partsPP (a:Addr) (w:World):(ReflectliteValue.parts (.agg #[.pointer (some ⟨1,100,none⟩),.pointer (some a),.int .u64 150])).run Tryz.prog w= .ok (some (100,a,150)) w:=by kernel_rfl
theorem rl_partsP (a:Addr) (w:World):(ReflectliteValue.parts (.agg #[.pointer (some ⟨1,98,none⟩),.pointer (some a),.int .u64 150])).run Tryz.prog w= .ok (some (98,a,150)) w:=by kernel_rfl
theorem rl_partsA (a:Addr) (w:World):(ReflectliteValue.parts (.agg #[.pointer (some ⟨1,98,none⟩),.pointer (some a),.int .u64 406])).run Tryz.prog w= .ok (some (98,a,406)) w:=by kernel_rfl
theorem rl_eOf (w:World):(Rtype.elem? 100).run Tryz.prog w= .ok (some 98) w:=by kernel_rfl
theorem rl_mk (p:Addr) (w:World):(ReflectliteValue.mk 98 p ReflectliteValue.flagAddr).run Tryz.prog w= .ok (.agg #[.pointer (some ⟨1,98,none⟩),.pointer (some p),.int .u64 406]) w:=by kernel_rfl
theorem rl_dir (w:World):(Rtype.directlyAssignable 98 98).run Tryz.prog w= .ok (true) w:=by kernel_rfl
theorem rl_isNil (a p:Addr) (W:World) (ha:W.cell? a=some (.pointer (some p))):(ReflectliteValue.method (ReflectliteValue.valueError "reflectlite.Value.IsNil" 0) ReflectliteValue.isNil #[.agg #[.pointer (some ⟨1,100,none⟩),.pointer (some a),.int .u64 150]]).run Tryz.prog W= .ok (.bool false) W:=by
 rw[rl_m]
 simp only[Sem.run_bind,rl_partsPP,Result.andThen]
 simp[ReflectliteValue.isNil,loadVar,isAgg,underlying,Tryz.underlying100,ha,Result.andThen]
theorem rl_elemV (a p:Addr) (W:World) (ha:W.cell? a=some (.pointer (some p))):(ReflectliteValue.method (ReflectliteValue.valueError "reflectlite.Value.Elem" 0) ReflectliteValue.elem #[.agg #[.pointer (some ⟨1,100,none⟩),.pointer (some a),.int .u64 150]]).run Tryz.prog W= .ok (.agg #[.pointer (some ⟨1,98,none⟩),.pointer (some p),.int .u64 406]) W:=by
 rw[rl_m]
 simp only[Sem.run_bind,rl_partsPP,Result.andThen]
 simp[ReflectliteValue.elem,loadVar,isAgg,underlying,Tryz.underlying100,ha,Result.andThen,rl_eOf,rl_mk]
theorem rl_two {motive:Array Value→Sort _} (v x:Value) (f:∀ v x,motive #[v,x]) (g:∀ a,motive a):ReflectliteValue.set.match_3 motive #[v,x] f g=f v x:=rfl
theorem rl_set (ta b e:Addr) (old:Value) (W:World) (hb:W.cell? b=some (.pointer (some e))) (ht:W.cell? ta=some old) (hf:W.frozen? ta=false):
 (ReflectliteValue.set #[.agg #[.pointer (some ⟨1,98,none⟩),.pointer (some ta),.int .u64 406],.agg #[.pointer (some ⟨1,98,none⟩),.pointer (some b),.int .u64 150]]).run Tryz.prog W= .ok (.tuple #[]) (W.setCell ta (.pointer (some e))):=by
 delta ReflectliteValue.set
 rw[rl_two]
 simp only[Sem.run_bind,rl_partsA,rl_partsP,Result.andThen]
 simp[ReflectliteValue.flagAddr,loadVar,isAgg,underlying,Tryz.underlying98,hb,Result.andThen,rl_dir,storeVar,Value.cells,storeCells,Addr.add]
 rw[run_store Tryz.prog W ta _ _ (by rfl)]
 simp[ht,hf]
theorem as_refusal (e t:Addr) (old:Value) (w:World) (hg:w.cell? ⟨0,0,none⟩=some (.iface 172 (.agg #[.pointer (some ⟨1,58,none⟩)]))) (ht0:w.cell? t=some old) (hf0:w.frozen? t=false):
 Calls Tryz.prog 57 #[.iface 98 (.pointer (some e)),.iface 100 (.pointer (some t))] w fun ev w'=>ev= .returned (.bool true)∧w'=((((w.alloc (.cells #[.pointer (some t)] 100)).alloc (.cells #[.pointer (some ⟨1,100,none⟩),.pointer (some ⟨w.heap.size,0,none⟩),.int .u64 150] 142)).alloc (.cells #[.pointer (some ⟨1,100,none⟩),.pointer (some ⟨w.heap.size,0,none⟩),.int .u64 150] 142)).alloc (.cells #[.pointer (some e)] 98)).setCell t (.pointer (some e)):=by
 have h1:= @run_callFunc_extern Tryz.prog 93 _ (fun args=>ReflectliteValue.unpack (args.getD 0 (.tuple #[]))) Tryz.func93 (by kernel_rfl) (by kernel_rfl) (by kernel_rfl) (by kernel_rfl)
 have h2:= @run_callFunc_extern Tryz.prog 94 _ (ReflectliteValue.methodAny (ReflectliteValue.valueError "reflectlite.Value.Type" 0) (fun t _ _ _=>ReflectliteType.toType t)) Tryz.func94 (by kernel_rfl) (by kernel_rfl) (by kernel_rfl) (by kernel_rfl)
 have h3:= @run_callFunc_extern Tryz.prog 95 _ (ReflectliteValue.method (ReflectliteValue.valueError "reflectlite.Value.IsNil" 0) ReflectliteValue.isNil) Tryz.func95 (by kernel_rfl) (by kernel_rfl) (by kernel_rfl) (by kernel_rfl)
 have h4:= @run_callFunc_extern Tryz.prog 209 _ (ReflectliteType.abiMethod fun t=>do pure (.int .u8 (←Rtype.kind t))) Tryz.func209 (by kernel_rfl) (by kernel_rfl) (by kernel_rfl) (by kernel_rfl)
 have h5:= @run_callFunc_extern Tryz.prog 223 _ (ReflectliteType.method ReflectliteType.elem) Tryz.func223 (by kernel_rfl) (by kernel_rfl) (by kernel_rfl) (by kernel_rfl)
 have h6:= @run_callFunc_extern Tryz.prog 224 _ (ReflectliteType.relation "Implements" ReflectliteType.implements_) Tryz.func224 (by kernel_rfl) (by kernel_rfl) (by kernel_rfl) (by kernel_rfl)
 have h7:= @run_callFunc_extern Tryz.prog 116 _ (ReflectliteType.typeOf) Tryz.func116 (by kernel_rfl) (by kernel_rfl) (by kernel_rfl) (by kernel_rfl)
 have h8:= @run_callFunc_extern Tryz.prog 221 _ (ReflectliteType.relation "AssignableTo" ReflectliteType.assignableTo) Tryz.func221 (by kernel_rfl) (by kernel_rfl) (by kernel_rfl) (by kernel_rfl)
 have h9:= @run_callFunc_extern Tryz.prog 117 _ (ReflectliteValue.method (ReflectliteValue.valueError "reflectlite.Value.Elem" 0) ReflectliteValue.elem) Tryz.func117 (by kernel_rfl) (by kernel_rfl) (by kernel_rfl) (by kernel_rfl)
 have h10:= @run_callFunc_extern Tryz.prog 118 _ (ReflectliteValue.set) Tryz.func118 (by kernel_rfl) (by kernel_rfl) (by kernel_rfl) (by kernel_rfl)
 have k0:=rl_typeOf
 have k1:=rl_mA
 have k2:=rl_asg
 have k3:=rl_valP
 have k4:=rl_valPP
 have k5:=rl_type
 have k6:=rl_mK
 have k7:=rl_mE
 have k8:=rl_mI
 have k9:=rl_kPP
 have k10:=rl_kP
 have k11:=rl_elem
 have k12:=rl_impl
 have n8:=rl_isNil ⟨w.heap.size,0,none⟩ t ((w.alloc (.cells #[.pointer (some t)] 100)).alloc (.cells #[.pointer (some ⟨1,100,none⟩),.pointer (some ⟨w.heap.size,0,none⟩),.int .u64 150] 142)) (by simp)
 have hlt:0<w.heap.size:=by
  rcases Nat.eq_zero_or_pos w.heap.size with h0|h
  · simp[World.cell?,h0] at hg
  · exact h
 have hg2:((w.alloc (.cells #[.pointer (some t)] 100)).alloc (.cells #[.pointer (some ⟨1,100,none⟩),.pointer (some ⟨w.heap.size,0,none⟩),.int .u64 150] 142)).cell? ⟨0,0,none⟩=some (.iface 172 (.agg #[.pointer (some ⟨1,58,none⟩)])):=by
  rw[World.cell?_alloc_lt _ _ ⟨0,0,none⟩ (by simp),World.cell?_alloc_lt _ _ ⟨0,0,none⟩ hlt];exact hg
 have htl:t.block<w.heap.size:=by
  rcases Nat.lt_or_ge t.block w.heap.size with h|h
  · exact h
  · simp[World.cell?,Array.getElem?_eq_none h] at ht0
 have el:=rl_elemV ⟨w.heap.size,0,none⟩ t (((w.alloc (.cells #[.pointer (some t)] 100)).alloc (.cells #[.pointer (some ⟨1,100,none⟩),.pointer (some ⟨w.heap.size,0,none⟩),.int .u64 150] 142)).alloc (.cells #[.pointer (some ⟨1,100,none⟩),.pointer (some ⟨w.heap.size,0,none⟩),.int .u64 150] 142)) (by rw[World.cell?_alloc_lt _ _ ⟨w.heap.size,0,none⟩ (by simp;omega)];simp)
 have st:=rl_set t ⟨w.heap.size+1+1+1,0,none⟩ e old ((((w.alloc (.cells #[.pointer (some t)] 100)).alloc (.cells #[.pointer (some ⟨1,100,none⟩),.pointer (some ⟨w.heap.size,0,none⟩),.int .u64 150] 142)).alloc (.cells #[.pointer (some ⟨1,100,none⟩),.pointer (some ⟨w.heap.size,0,none⟩),.int .u64 150] 142)).alloc (.cells #[.pointer (some e)] 98))
  (by rw[World.cell?_alloc_at _ _ _ _ (by simp)];rfl)
  (by rw[World.cell?_alloc_lt _ _ t (by simp;omega),World.cell?_alloc_lt _ _ t (by simp;omega),World.cell?_alloc_lt _ _ t (by simp;omega),World.cell?_alloc_lt _ _ t htl];exact ht0)
  (by rw[World.frozen?_alloc_old _ _ t (by simp;omega),World.frozen?_alloc_old _ _ t (by simp;omega),World.frozen?_alloc_old _ _ t (by simp;omega),World.frozen?_alloc_old _ _ t (Nat.ne_of_lt htl)];exact hf0)
 go_enter Tryz.func57,Tryz.ntmps57
 go_wp2
 refine wp_loop_rounds 1 ?_
 rw[rounds_succ]
 go_wp2
 go_ret
 exact⟨rfl,rfl⟩
theorem as_nil (x:Value) (w:World):Calls Tryz.prog 57 #[.nilIface,x] w fun e w'=>e= .returned (.bool false)∧w'=w:=by
 go_enter Tryz.func57,Tryz.ntmps57
 go_wp2
 go_ret
 exact⟨rfl,rfl⟩
theorem refused_nil (w:World):Calls Tryz.prog 27 #[.nilIface] w fun e w'=>e= .returned (.bool false)∧Below w.heap.size w w':=by
 go_enter Tryz.func27,Tryz.ntmps27
 go_wp2_with (go_at_call 57;refine(as_nil _ _).mono ?_;rintro e w1 ⟨rfl,rfl⟩)
 go_ret
 exact⟨rfl,(Below.refl _ _).alloc (Nat.le_refl _) _⟩
theorem refused_yes (e:Addr) (w:World) (hg:w.cell? ⟨0,0,none⟩=some (.iface 172 (.agg #[.pointer (some ⟨1,58,none⟩)]))):Calls Tryz.prog 27 #[.iface 98 (.pointer (some e))] w fun e w'=>e= .returned (.bool true)∧Below w.heap.size w w':=by
 have hlt:0<w.heap.size:=by
  rcases Nat.eq_zero_or_pos w.heap.size with h0|h
  · simp[World.cell?,h0] at hg
  · exact h
 have hg1:(w.alloc (.cells #[.pointer none] 98)).cell? ⟨0,0,none⟩=some (.iface 172 (.agg #[.pointer (some ⟨1,58,none⟩)])):=by rw[World.cell?_alloc_lt _ _ ⟨0,0,none⟩ hlt];exact hg
 go_enter Tryz.func27,Tryz.ntmps27
 go_wp2_with (go_at_call 57;refine(as_refusal e ⟨w.heap.size,0,none⟩ (.pointer none) _ hg1 (by go_simp) (by go_simp)).mono ?_;rintro e w1 ⟨rfl,rfl⟩)
 go_ret
 exact⟨rfl,bel_a⟩
end Go.Proofs.YtpmjnpmnocjjgaaGreatDoor
