/- Texts of a proof. -/
import Derived.Test.YtcalhcfinkhemaaGreatDoorRows
import Derived.WalkKit
import Derived.JoinedOf
import Derived.Test.YtcalhcfinkhemaaGreatDoorB1
import Derived.Laws.World
import Derived.Deep.QuietTactic
import Derived.BigQuiet
import Derived.OpenShut
set_option maxHeartbeats 16000000
set_option maxRecDepth 20000
namespace Go.Proofs.YtcalhcfinkhemaaGreatDoor
end Go.Proofs.YtcalhcfinkhemaaGreatDoor
namespace Go.Proofs.YtcalhcfinkhemaaGreatDoor
open Go.RowKit
set_option linter.unusedVariables false
section
variable {P:Program} {md:Region.Mode} {ops:Array Oper} {Q:Exit→Act→World→Prop} {S:World→Prop}
theorem td (i j:Nat) {o1 o2 o3 o4 o5 o6 p1 p2 p3 p4 p5 p6} {v u:Value} {fuel:Nat} {listed:Array Bool} {a a':Act} {w w1:World} (hS:S w)
 (h:S w1→wpAnyH P md ops Q S fuel ((listed.setIfInBounds i true).setIfInBounds j true) a' w1)
 (hr:(Region.ready md ops listed=[i,j]∧Region.ready md ops (listed.setIfInBounds i true)=[j]∧Region.ready md ops (listed.setIfInBounds j true)=[i]):=by exact⟨by kernel_rfl,by kernel_rfl,by kernel_rfl⟩)
 (hi:ops[i]? =some (Oper.mk o1 o2 o3 o4 o5 o6):=by rfl) (hj:ops[j]? =some (Oper.mk p1 p2 p3 p4 p5 p6):=by rfl)
 (hc:(Region.noSelect ops&&((Oper.mk o1 o2 o3 o4 o5 o6).apart ops (Oper.mk p1 p2 p3 p4 p5 p6)&&(i !=j)))=true:=by kernel_rfl)
 (wi:Region.wanted (Oper.mk o1 o2 o3 o4 o5 o6) (yielded ops a.tmps)=true:=by rfl) (wj:Region.wanted (Oper.mk p1 p2 p3 p4 p5 p6) (yielded ops a.tmps)=true:=by rfl)
 (vi:(execOp a.eval (Oper.mk o1 o2 o3 o4 o5 o6)).run P w= .ok (.value v) w:=by(go_simp;(try with_reducible rfl)))
 (vj:(execOp a.eval (Oper.mk p1 p2 p3 p4 p5 p6)).run P w= .ok (.value u) w1:=by(go_simp;(first|done|exact⟨rfl,rfl⟩|with_reducible rfl)))
 (vi1:(execOp a.eval (Oper.mk o1 o2 o3 o4 o5 o6)).run P w1= .ok (.value v) w1:=by(go_simp;(try with_reducible rfl)))
 (hS1:S w1:=by((try dsimp only);(first|(go_simp;done)|(go_keep;done))))
 (he:(a.put (Oper.mk o1 o2 o3 o4 o5 o6).dst v).put (Oper.mk p1 p2 p3 p4 p5 p6).dst u=a':=by((try simp only[Act.put,List.setIfInBounds_toArray,List.set_cons_zero,List.set_cons_succ]);(try with_reducible rfl))):
 wpAnyH P md ops Q S (fuel+2) listed a w:=by
 subst he
 simp only[Bool.and_eq_true] at hc
 obtain⟨h1,h2,h3⟩:=Oper.apart_spec hc.2.1
 have hne:i≠j:=by simpa using hc.2.2
 have hsel:=Region.noSelect_spec hc.1
 obtain⟨r0,r1,r2⟩:=hr
 refine⟨fun e=>(by rw[r0] at e;cases e),fun x hx=> ?_⟩
 rw[r0] at hx
 rcases List.mem_cons.1 hx with rfl|hx
 · unfold wpOp
   rw[hi]
   simp only[wi,if_true]
   refine .inl ?_
   simp only[Oper.wp,vi,Oper.upon]
   refine⟨hS,⟨fun e=>(by rw[r1] at e;cases e),fun y hy=> ?_⟩⟩
   rw[r1] at hy
   obtain rfl:=List.mem_singleton.1 hy
   unfold wpOp
   rw[hj]
   simp only[wanted_put _ a _ v h1,wj,if_true]
   refine .inl ?_
   rw[Oper.wp,execOp_put _ (fun cs b=>hsel _ _ cs b hj) a _ v h1,vj]
   exact⟨hS1,h hS1⟩
 · obtain rfl:=List.mem_singleton.1 hx
   unfold wpOp
   rw[hj]
   simp only[wj,if_true]
   refine .inl ?_
   simp only[Oper.wp,vj,Oper.upon]
   refine⟨hS1,⟨fun e=>(by rw[r2] at e;cases e),fun y hy=> ?_⟩⟩
   rw[r2] at hy
   obtain rfl:=List.mem_singleton.1 hy
   unfold wpOp
   rw[hi]
   simp only[wanted_put _ a _ u h3,wi,if_true]
   refine .inl ?_
   rw[Oper.wp,execOp_put _ (fun cs b=>hsel _ _ cs b hi) a _ u h3,vi1]
   refine⟨hS1,?_⟩
   have:=h hS1
   rw[Array.setIfInBounds_comm _ _ hne,Act.put_comm a v u h2] at this
   exact this
end
end Go.Proofs.YtcalhcfinkhemaaGreatDoor
namespace Go.Proofs.YtcalhcfinkhemaaGreatDoor
open Go.RowKit
theorem zz:(∀ w:World,w.drew.heap.size=w.heap.size)∧(∀ (w:World) (o:Obj),(w.alloc o).heap.size=w.heap.size+1)∧(∀ (w:World) (a:Addr) (v:Value),(w.setCell a v).heap.size=w.heap.size):=
 ⟨World.size_drew,World.size_alloc,World.size_setCell⟩
end Go.Proofs.YtcalhcfinkhemaaGreatDoor
namespace Go.Proofs.YtcalhcfinkhemaaGreatDoor
open Go.RowKit
set_option linter.unusedVariables false
def Rd (w:World) (rb p:Nat):Prop:=∃ (a:Option Addr) (len cap:Nat),w.cell? ⟨rb,0,none⟩=some (.slice a len cap)∧w.cell? ⟨rb,1,none⟩=some (.int .i64 (p:Int))∧w.frozen? ⟨rb,1,none⟩=false∧len≤2000∧
 (len=0∨∃ b off,a=some ⟨b,off,none⟩∧b<rb∧∀ i,i<len→∃ z:Int,w.cell? ⟨b,off+i,none⟩=some (.int .u8 z)∧0≤z∧z≤255)
theorem Rd.lt {w:World} {rb p:Nat} (h:Rd w rb p):rb<w.heap.size:=by
 obtain⟨a,len,cap,c0,_⟩:=h;exact cell_lt c0
theorem Rd.below {w w':World} {rb p:Nat} (h:Rd w rb p) (k:Below w.heap.size w w'):Rd w' rb p:=by
 have hl:=h.lt
 obtain⟨a,len,cap,c0,c1,f1,hle,hz⟩:=h
 refine⟨a,len,cap,by rw[k.cell hl];exact c0,by rw[k.cell hl];exact c1,by rw[k.frozen hl];exact f1,hle,?_⟩
 rcases hz with hz|⟨b,off,ha,hb,hz⟩
 · exact .inl hz
 · refine .inr ⟨b,off,ha,hb,fun i hi=> ?_⟩
   obtain⟨z,hz,r⟩:=hz i hi
   exact⟨z,by rw[k.cell (cell_lt hz)];exact hz,r⟩
theorem Rd.step {w:World} {rb p:Nat} (h:Rd w rb p) (m:Nat) (q:Nat):Rd ((w.setCell ⟨rb,1,none⟩ (.int .i64 (q:Int))).drewN m) rb q:=by
 obtain⟨a,len,cap,c0,c1,f1,hle,hz⟩:=h
 refine⟨a,len,cap,?_,?_,?_,hle,?_⟩
 · rw[World.cell?_drewN,cset_other (by simp)];exact c0
 · rw[World.cell?_drewN,cset_same c1]
 · simpa using f1
 rcases hz with hz|⟨b,off,ha,hb,hz⟩
 · exact .inl hz
 · refine .inr ⟨b,off,ha,hb,fun i hi=> ?_⟩
   obtain⟨z,hz,r⟩:=hz i hi
   exact⟨z,by rw[World.cell?_drewN,cset_far (Nat.ne_of_lt hb)];exact hz,r⟩
theorem pick_any (rb p:Nat) (n:Int) (w:World) (hr:Rd w rb p) (hp:p≤1000000) (h0:1≤n) (h1:n≤4000000000):
 Calls Tryz.prog 37 #[.pointer (some ⟨rb,0,none⟩),.int .i64 n] w fun e w'=>∃ v:Int,e= .returned (.int .i64 v)∧0≤v∧v<n∧Rd w' rb (p+1)∧But rb w w':=by
 have hr':=hr
 obtain⟨a,len,cap,c0,c1,f1,hle,hz⟩:=hr
 have e0:(w.setCell ⟨rb,1,none⟩ (.int .i64 ((p:Int)+1))).cell? ⟨rb,0,none⟩=some (.slice a len cap):=by rw[cset_other (by simp)];exact c0
 have e1:(w.setCell ⟨rb,1,none⟩ (.int .i64 ((p:Int)+1))).cell? ⟨rb,1,none⟩=some (.int .i64 ((p:Int)+1)):=cset_same c1
 have fin:∀ m,Rd ((w.setCell ⟨rb,1,none⟩ (.int .i64 ((p:Int)+1))).drewN m) rb (p+1)∧But rb w ((w.setCell ⟨rb,1,none⟩ (.int .i64 ((p:Int)+1))).drewN m):=
  fun m=>⟨hr'.step m (p+1),((But.refl rb w).setCell rfl _).drewN m⟩
 have FIN:Hid (∀ m,Rd ((w.setCell ⟨rb,1,none⟩ (.int .i64 ((p:Int)+1))).drewN m) rb (p+1)∧But rb w ((w.setCell ⟨rb,1,none⟩ (.int .i64 ((p:Int)+1))).drewN m)):=fin
 clear fin hr'
 rcases Nat.eq_zero_or_pos len with hl|hl
 · subst hl
   clear hz
   have hd:decide (n<1)=false:=by simp;omega
   go_enter Tryz.func37,Tryz.ntmps37
   go_wp2
   go_ret
   exact⟨0,rfl,by omega,by omega,FIN.out 0⟩
 · obtain⟨b,off,rfl,hb,hz⟩:∃ b off,a=some ⟨b,off,none⟩∧b<rb∧∀ i,i<len→∃ z:Int,w.cell? ⟨b,off+i,none⟩=some (.int .u8 z)∧0≤z∧z≤255:=by
    rcases hz with hz|hz
    · omega
    · exact hz
   have hd:decide (n<1)=false:=by simp;omega
   have hln:((len:Int)==0)=false:=by simp;omega
   by_cases hk:p<len
   · obtain⟨z,hc,z0,z1⟩:=hz p hk
     clear hz
     have e2:(w.setCell ⟨rb,1,none⟩ (.int .i64 ((p:Int)+1))).cell? ⟨b,off+p,none⟩=some (.int .u8 z):=by rw[cset_far (Nat.ne_of_lt hb)];exact hc
     go_enter Tryz.func37,Tryz.ntmps37
     go_wp2
     go_ret
     exact⟨_,rfl,Int.emod_nonneg _ (by omega),Int.emod_lt_of_pos _ (by omega),FIN.out 0⟩
   · obtain⟨i,hi,hil⟩:∃ i:Nat,(p:Int) % (len:Int)=(i:Int)∧i<len:=⟨p % len,by omega,Nat.mod_lt _ hl⟩
     obtain⟨j,hj,hjl⟩:∃ j:Nat,((p:Int)*7+3) % (len:Int)=(j:Int)∧j<len:=⟨(p*7+3) % len,by rw[show (p:Int)*7+3=((p*7+3:Nat):Int) by omega];rfl,Nat.mod_lt _ hl⟩
     obtain⟨d,hd',hdl⟩:∃ d:Nat,(p:Int)/(len:Int)=(d:Int)∧d≤p:=⟨p/len,by omega,Nat.div_le_self _ _⟩
     obtain⟨z,hc,z0,z1⟩:=hz i hil
     obtain⟨y,hcy,y0,y1⟩:=hz j hjl
     clear hz
     have e2:(w.setCell ⟨rb,1,none⟩ (.int .i64 ((p:Int)+1))).cell? ⟨b,off+i,none⟩=some (.int .u8 z):=by rw[cset_far (Nat.ne_of_lt hb)];exact hc
     have e3:(w.setCell ⟨rb,1,none⟩ (.int .i64 ((p:Int)+1))).cell? ⟨b,off+j,none⟩=some (.int .u8 y):=by rw[cset_far (Nat.ne_of_lt hb)];exact hcy
     go_enter Tryz.func37,Tryz.ntmps37
     go_wp2
     go_quiet (fail)
     go_wp2
     go_ret
     exact⟨_,rfl,Int.tmod_nonneg _ (xor_nonneg (by omega) (by omega) (by omega) (by omega)),Int.tmod_lt_of_pos _ (by omega),FIN.out _⟩
theorem Rd.alloc {w:World} {rb p:Nat} (h:Rd w rb p) (o:Obj):Rd (w.alloc o) rb p:=h.below ((Below.refl _ _).alloc (Nat.le_refl _) o)
theorem one_any (rb p lb len cap:Nat) (xs:List Int) (w:World) (hr:Rd w rb p) (hp:p≤1000000) (hl:xs.length=len) (h0:1≤len) (h1:len≤100) (hb:lb≠rb) (hc:∀ i,i<len→w.cell? ⟨lb,i,none⟩=some (.int .i64 (xs.getD i 0))):
 Calls Tryz.prog 24 #[.pointer (some ⟨rb,0,none⟩),.slice (some ⟨lb,0,none⟩) len cap] w fun e w'=>∃ v:Int,e= .returned (.int .i64 v)∧v∈xs∧Rd w' rb (p+1)∧But rb w w':=by
 go_enter Tryz.func24,Tryz.ntmps24
 go_wp2_with (go_at_call 37;refine(pick_any rb p _ _ hr hp (by omega) (by omega)).mono ?_;rintro e w1 ⟨v,rfl,v0,v1,hr1,hbut⟩;obtain⟨j,rfl⟩:=Int.eq_ofNat_of_zero_le v0;have hcj:=(hbut.cell (p:=⟨lb,j,none⟩) (cell_lt (hc j (by omega))) hb).trans (hc j (by omega)))
 go_ret
 exact⟨_,rfl,by rw[List.getElem?_eq_getElem (show j<xs.length by omega)];simp,hr1,hbut⟩
def AllBd (lo hi:Int):List Value→Prop
 | []=>True
 |c::r=>(∃ z:Int,c= .int .i64 z∧lo≤z∧z≤hi)∧AllBd lo hi r
theorem AllBd.get {lo hi:Int}:∀ {l:List Value},AllBd lo hi l→∀ i,i<l.length→∃ z:Int,l[i]? =some (.int .i64 z)∧lo≤z∧z≤hi
 |c::r,h,0,_=>by obtain⟨z,rfl,h1,h2⟩:=h.1;exact⟨z,rfl,h1,h2⟩
 |c::r,h,i+1,hi'=>by simpa using AllBd.get h.2 i (by simpa using hi')
theorem AllBd.cons {lo hi z:Int} {r:List Value} (h1:lo≤z) (h2:z≤hi) (h:AllBd lo hi r):AllBd lo hi (.int .i64 z::r):=⟨⟨z,rfl,h1,h2⟩,h⟩
theorem AllBd.nil {lo hi:Int}:AllBd lo hi []:=trivial
theorem one_bd (lo hi:Int) (rb p len cap:Nat) (cs:Array Value) (t:TypeId) (w:World) (hr:Rd w rb p) (hp:p≤1000000) (hcs:AllBd lo hi cs.toList) (hl:cs.size=len) (h0:1≤len) (h1:len≤100):
 Calls Tryz.prog 24 #[.pointer (some ⟨rb,0,none⟩),.slice (some ⟨w.heap.size,0,none⟩) len cap] (w.alloc (.cells cs t)) fun e w'=>∃ v:Int,e= .returned (.int .i64 v)∧lo≤v∧v≤hi∧Rd w' rb (p+1)∧But rb w w':=by
 have hlt:=hr.lt
 have hx:∀ i,i<len→∃ z:Int,cs[i]? =some (.int .i64 z)∧lo≤z∧z≤hi:=fun i hi=>by
  have:=hcs.get i (by simpa [hl] using hi);simpa using this
 have hcell:∀ i:Nat,(w.alloc (.cells cs t)).cell? ⟨w.heap.size,i,none⟩=cs[i]? :=fun i=>World.cell?_alloc_mark w cs t (0,0) i
 refine(one_any rb p w.heap.size len cap (cs.toList.map intOf) _ (hr.alloc _) hp (by simpa using hl) h0 h1 (by omega) ?_).mono ?_
 · intro i hi
   obtain⟨z,hz,_⟩:=hx i hi
   rw[hcell,hz]
   simp[hz,intOf]
 · rintro e w' ⟨v,rfl,hv,hr',hb'⟩
   refine⟨v,rfl,?_,?_,hr',((But.refl rb w).alloc _).trans hb'⟩
   all_goals
    obtain⟨c,hc,rfl⟩:=List.mem_map.1 hv
    obtain⟨i,hi,rfl⟩:=List.getElem_of_mem hc
    obtain⟨z,hz,a,b⟩:=hcs.get i hi
    rw[List.getElem?_eq_getElem hi] at hz
    injection hz with hz
    rw[hz];assumption
theorem l1Open_any (a:Option Addr) (len cap:Nat) (w:World) (hcap:len≤cap)
 (hz:len=0∨∃ b off,a=some ⟨b,off,none⟩∧∀ i,i<len→∃ z:Int,w.cell? ⟨b,off+i,none⟩=some (.int .u8 z)∧0≤z∧z≤255):
 Calls Tryz.prog 22 #[.slice a len cap] w fun e w'=>e= .returned (.pointer (some ⟨w.heap.size,0,none⟩))∧Rd w' w.heap.size 0∧Below w.heap.size w w':=by
 have fin:∀ (len' cap':Nat),len'≤len→len'≤2000→Rd (w.alloc (.cells #[.slice a len' cap',.int .i64 0] 74)) w.heap.size 0:=by
  intro len' cap' hl h2
  refine⟨a,len',cap',?_,?_,?_,h2,?_⟩
  · go_simp
  · go_simp
  · go_simp
  rcases hz with hz|⟨b,off,ha,hz⟩
  · exact .inl (by omega)
  · rcases Nat.eq_zero_or_pos len' with h|h
    · exact .inl h
    · obtain⟨z,hc,_⟩:=hz 0 (by omega)
      have hlt:=cell_lt hc
      refine .inr ⟨b,off,ha,hlt,fun i hi=> ?_⟩
      obtain⟨z,hz,r⟩:=hz i (by omega)
      exact⟨z,by rw[calloc_old (cell_lt hz)];exact hz,r⟩
 have FIN:=fin
 clear fin
 by_cases h:2000<len
 · go_enter Tryz.func22,Tryz.ntmps22
   go_wp2
   go_ret
   exact⟨rfl,FIN _ _ (by omega) (by omega),(Below.refl _ _).alloc (Nat.le_refl _) _⟩
 · go_enter Tryz.func22,Tryz.ntmps22
   go_wp2
   go_ret
   exact⟨rfl,FIN _ _ (by omega) (by omega),(Below.refl _ _).alloc (Nat.le_refl _) _⟩
def RB (w0 w:World) (rb p:Nat):Prop:=∃ q,q≤p∧Rd w rb q∧But rb w0 w
theorem RB.mono {w0 w:World} {rb p p':Nat} (h:RB w0 w rb p) (k:p≤p'):RB w0 w rb p':=by
 obtain⟨q,a,b⟩:=h;exact⟨q,by omega,b⟩
theorem RB.start {w:World} {rb p:Nat} (h:Rd w rb p):RB w w rb p:=⟨p,Nat.le_refl _,h,But.refl _ _⟩
theorem RB.alloc {w0 w:World} {rb p:Nat} (h:RB w0 w rb p) (o:Obj):RB w0 (w.alloc o) rb p:=by
 obtain⟨q,a,b,c⟩:=h;exact⟨q,a,b.alloc o,c.alloc o⟩
theorem RB.below {w0 w w':World} {rb p:Nat} (h:RB w0 w rb p) (k:Below w.heap.size w w'):RB w0 w' rb p:=by
 obtain⟨q,a,b,c⟩:=h;exact⟨q,a,b.below k,c.trans (But.of_below k)⟩
theorem RB.lt {w0 w:World} {rb p:Nat} (h:RB w0 w rb p):rb<w.heap.size:=by
 obtain⟨q,a,b,c⟩:=h;exact b.lt
theorem RB.old {w0 w:World} {rb p:Nat} (h:RB w0 w rb p) {B:Nat} (hB:B≤rb) (hB':B≤w0.heap.size):Below B w0 w:=by
 obtain⟨q,a,b,c⟩:=h;exact c.below hB hB'
theorem pick_rb (w0:World) (rb p:Nat) (n:Int) (w:World) (hr:RB w0 w rb p) (hp:p≤999000) (h0:1≤n) (h1:n≤4000000000):
 Calls Tryz.prog 37 #[.pointer (some ⟨rb,0,none⟩),.int .i64 n] w fun e w'=>∃ v:Int,e= .returned (.int .i64 v)∧0≤v∧v<n∧RB w0 w' rb (p+1):=by
 obtain⟨q,a,b,c⟩:=hr
 refine(pick_any rb q n w b (by omega) h0 h1).mono ?_
 rintro e w' ⟨v,rfl,v0,v1,hr',hb'⟩
 exact⟨v,rfl,v0,v1,q+1,by omega,hr',c.trans hb'⟩
theorem one_rb (lo hi:Int) (w0:World) (rb p len cap:Nat) (cs:Array Value) (t:TypeId) (w:World) (hr:RB w0 w rb p) (hp:p≤999000) (hcs:AllBd lo hi cs.toList) (hl:cs.size=len) (h0:1≤len) (h1:len≤100):
 Calls Tryz.prog 24 #[.pointer (some ⟨rb,0,none⟩),.slice (some ⟨w.heap.size,0,none⟩) len cap] (w.alloc (.cells cs t)) fun e w'=>∃ v:Int,e= .returned (.int .i64 v)∧lo≤v∧v≤hi∧RB w0 w' rb (p+1):=by
 obtain⟨q,a,b,c⟩:=hr
 refine(one_bd lo hi rb q len cap cs t w b (by omega) hcs hl h0 h1).mono ?_
 rintro e w' ⟨v,rfl,v0,v1,hr',hb'⟩
 exact⟨v,rfl,v0,v1,q+1,by omega,hr',c.trans hb'⟩
def Bytes (w:World) (a:Option Addr) (len cap:Nat):Prop:=
 len≤cap∧(len=0∨∃ b off,a=some ⟨b,off,none⟩∧∀ i,i<len→∃ z:Int,w.cell? ⟨b,off+i,none⟩=some (.int .u8 z)∧0≤z∧z≤255)
theorem Bytes.below {w w':World} {a:Option Addr} {len cap:Nat} (h:Bytes w a len cap) (k:Below w.heap.size w w'):Bytes w' a len cap:=by
 refine⟨h.1,?_⟩
 rcases h.2 with h|⟨b,off,ha,hz⟩
 · exact .inl h
 · refine .inr ⟨b,off,ha,fun i hi=> ?_⟩
   obtain⟨z,hz,r⟩:=hz i hi
   exact⟨z,by rw[k.cell (cell_lt hz)];exact hz,r⟩
theorem Bytes.nil (w:World):Bytes w none 0 0:=⟨Nat.le_refl _,.inl rfl⟩
theorem Bytes.of {w:World} {x:Addr} {len cap:Nat} {zs:List Int} (hl:len≤cap) (hz:zs.length=cap) (hcell:∀ i,i<zs.length→w.cell? (x.add i)=some (.int .u8 (zs.getD i 0))) (hwz:∀ n∈zs,(Lit.int .u8 n).wf=true):Bytes w (some x) len cap:=by
 refine⟨hl,?_⟩
 rcases Nat.eq_zero_or_pos len with h|h
 · exact .inl h
 · obtain⟨b,off,spot⟩:=x
   have hc:=hcell 0 (by omega)
   have hspot:spot=none:=by simpa [Addr.add] using World.cell?_spot hc
   subst hspot
   refine .inr ⟨b,off,rfl,fun i hi=>⟨zs[i]?.getD 0,?_,(range_u8 hwz i).1,(range_u8 hwz i).2⟩⟩
   have h:=hcell i (by omega)
   by_cases h0:i=0
   · subst h0;simpa [Addr.add] using h
   · simpa [Addr.add,h0] using h
theorem l1Open_rb (a:Option Addr) (len cap:Nat) (w:World) (hb:Bytes w a len cap):
 Calls Tryz.prog 22 #[.slice a len cap] w fun e w'=>e= .returned (.pointer (some ⟨w.heap.size,0,none⟩))∧RB w' w' w.heap.size 0∧Below w.heap.size w w':=
 (l1Open_any a len cap w hb.1 hb.2).mono fun _ _ ⟨h1,h2,h3⟩=>⟨h1,RB.start h2,h3⟩
theorem RB.done {w w0 w':World} {p:Nat} (k:Below w.heap.size w w0) (h:RB w0 w' w.heap.size p):Below w.heap.size w w':=
 k.trans (h.old (Nat.le_refl _) k.size)
theorem Rd.setNew {w:World} {rb p:Nat} (h:Rd w rb p) {a:Addr} (ha:rb<a.block) (v:Value):Rd (w.setCell a v) rb p:=by
 obtain⟨s,len,cap,c0,c1,f1,hle,hz⟩:=h
 refine⟨s,len,cap,?_,?_,?_,hle,?_⟩
 · rw[cset_far (Nat.ne_of_lt ha)];exact c0
 · rw[cset_far (Nat.ne_of_lt ha)];exact c1
 · rw[fset_far (Nat.ne_of_lt ha)];exact f1
 rcases hz with hz|⟨b,off,e,hb,hz⟩
 · exact .inl hz
 · refine .inr ⟨b,off,e,hb,fun i hi=> ?_⟩
   obtain⟨z,hz,r⟩:=hz i hi
   exact⟨z,by rw[cset_far (by show b≠a.block;omega)];exact hz,r⟩
theorem RB.setNew {w0 w:World} {rb p:Nat} (h:RB w0 w rb p) {a:Addr} (ha:rb<a.block) (h0:w0.heap.size≤a.block) (v:Value):RB w0 (w.setCell a v) rb p:=by
 obtain⟨q,k,b,c⟩:=h
 exact⟨q,k,b.setNew ha v,⟨c.os,c.tape,c.output,by simpa [World.setCell] using c.size,fun k hk hn=>(Below.heap_setCell _ _ _ _ (by omega)).trans (c.block k hk hn)⟩⟩
theorem RB.cells {w0 w:World} {rb p:Nat} (h:RB w0 w rb p):(∀ b o,b<w0.heap.size→b≠rb→w.cell? ⟨b,o,none⟩=w0.cell? ⟨b,o,none⟩)∧(∀ b o,b<w0.heap.size→b≠rb→w.frozen? ⟨b,o,none⟩=w0.frozen? ⟨b,o,none⟩):=by
 obtain⟨q,k,b,c⟩:=h
 exact⟨fun b o hb hn=>c.cell (p:=⟨b,o,none⟩) hb hn,fun b o hb hn=>c.frozen (p:=⟨b,o,none⟩) hb hn⟩
theorem RB.fresh {w0 w:World} {rb p:Nat} (h:RB w0 w rb p) (o:Obj):RB (w.alloc o) (w.alloc o) rb p:=by
 obtain⟨q,a,b,c⟩:=h;exact⟨q,a,b.alloc o,But.refl _ _⟩
end Go.Proofs.YtcalhcfinkhemaaGreatDoor
namespace Go.Proofs.YtcalhcfinkhemaaGreatDoor
open Go.RowKit
set_option linter.unusedVariables false
end Go.Proofs.YtcalhcfinkhemaaGreatDoor
