/- Texts of a proof. -/
import Derived.Laws.World
import Derived.Deep.QuietTactic
import Derived.Test.YthajilkjfkppoaaGreatDoorB1
import Derived.BigQuiet
import Derived.OpenShut
import Derived.RangeFuncNested
import Derived.OrdersIn
import Derived.TacticsIn
import Derived.Deep.RegionHeld3
import Derived.OrdersHeld
import Derived.Test.YthajilkjfkppoaaGreatDoorRows
import Derived.WalkKit
import Derived.JoinedOf
set_option maxHeartbeats 16000000
set_option maxRecDepth 20000
namespace Go.Proofs.YthajilkjfkppoaaGreatDoor
open Go.RowKit
theorem zz:(∀ w:World,w.drew.heap.size=w.heap.size)∧(∀ (w:World) (o:Obj),(w.alloc o).heap.size=w.heap.size+1)∧(∀ (w:World) (a:Addr) (v:Value),(w.setCell a v).heap.size=w.heap.size):=
 ⟨World.size_drew,World.size_alloc,World.size_setCell⟩
end Go.Proofs.YthajilkjfkppoaaGreatDoor
namespace Go.Proofs.YthajilkjfkppoaaGreatDoor
open Go.RowKit
set_option linter.unusedVariables false
def Rd (w:World) (rb p:Nat):Prop:=∃ (a:Option Addr) (len cap:Nat),w.cell? ⟨rb,0,none⟩=some (.slice a len cap)∧w.cell? ⟨rb,1,none⟩=some (.int .i64 (p:Int))∧w.frozen? ⟨rb,1,none⟩=false∧len≤2000∧
 (len=0∨∃ b off,a=some ⟨b,off,none⟩∧b<rb∧∀ i,i<len→∃ z:Int,w.cell? ⟨b,off+i,none⟩=some (.int .u8 z)∧0≤z∧z≤255)
theorem Rd.lt {w:World} {rb p:Nat} (h:Rd w rb p):rb<w.heap.size:=by
 obtain⟨a,len,cap,c0,_⟩:=h;exact cell_lt c0
theorem Rd.below {w w':World} {rb p:Nat} (h:Rd w rb p) (k:Below w.heap.size w w'):Rd w' rb p:=by
 have hl:=h.lt
 obtain⟨a,len,cap,c0,c1,f1,hle,hz⟩:=h
 refine⟨a,len,cap,by rw[k.cell hl];exact c0,by rw[k.cell hl];exact c1,by rw[k.frozen hl];exact f1,hle,?_⟩
 rcases hz with hz|⟨b,off,ha,hb,hz⟩
 · exact .inl hz
 · refine .inr ⟨b,off,ha,hb,fun i hi=> ?_⟩
   obtain⟨z,hz,r⟩:=hz i hi
   exact⟨z,by rw[k.cell (cell_lt hz)];exact hz,r⟩
theorem Rd.step {w:World} {rb p:Nat} (h:Rd w rb p) (m:Nat) (q:Nat):Rd ((w.setCell ⟨rb,1,none⟩ (.int .i64 (q:Int))).drewN m) rb q:=by
 obtain⟨a,len,cap,c0,c1,f1,hle,hz⟩:=h
 refine⟨a,len,cap,?_,?_,?_,hle,?_⟩
 · rw[World.cell?_drewN,cset_other (by simp)];exact c0
 · rw[World.cell?_drewN,cset_same c1]
 · simpa using f1
 rcases hz with hz|⟨b,off,ha,hb,hz⟩
 · exact .inl hz
 · refine .inr ⟨b,off,ha,hb,fun i hi=> ?_⟩
   obtain⟨z,hz,r⟩:=hz i hi
   exact⟨z,by rw[World.cell?_drewN,cset_far (Nat.ne_of_lt hb)];exact hz,r⟩
theorem pick_any (rb p:Nat) (n:Int) (w:World) (hr:Rd w rb p) (hp:p≤1000000) (h0:1≤n) (h1:n≤4000000000):
 Calls Tryz.prog 34 #[.pointer (some ⟨rb,0,none⟩),.int .i64 n] w fun e w'=>∃ v:Int,e= .returned (.int .i64 v)∧0≤v∧v<n∧Rd w' rb (p+1)∧But rb w w':=by
 have hr':=hr
 obtain⟨a,len,cap,c0,c1,f1,hle,hz⟩:=hr
 have e0:(w.setCell ⟨rb,1,none⟩ (.int .i64 ((p:Int)+1))).cell? ⟨rb,0,none⟩=some (.slice a len cap):=by rw[cset_other (by simp)];exact c0
 have e1:(w.setCell ⟨rb,1,none⟩ (.int .i64 ((p:Int)+1))).cell? ⟨rb,1,none⟩=some (.int .i64 ((p:Int)+1)):=cset_same c1
 have fin:∀ m,Rd ((w.setCell ⟨rb,1,none⟩ (.int .i64 ((p:Int)+1))).drewN m) rb (p+1)∧But rb w ((w.setCell ⟨rb,1,none⟩ (.int .i64 ((p:Int)+1))).drewN m):=
  fun m=>⟨hr'.step m (p+1),((But.refl rb w).setCell rfl _).drewN m⟩
 have FIN:Hid (∀ m,Rd ((w.setCell ⟨rb,1,none⟩ (.int .i64 ((p:Int)+1))).drewN m) rb (p+1)∧But rb w ((w.setCell ⟨rb,1,none⟩ (.int .i64 ((p:Int)+1))).drewN m)):=fin
 clear fin hr'
 rcases Nat.eq_zero_or_pos len with hl|hl
 · subst hl
   clear hz
   have hd:decide (n<1)=false:=by simp;omega
   go_enter Tryz.func34,Tryz.ntmps34
   go_wp2
   go_ret
   exact⟨0,rfl,by omega,by omega,FIN.out 0⟩
 · obtain⟨b,off,rfl,hb,hz⟩:∃ b off,a=some ⟨b,off,none⟩∧b<rb∧∀ i,i<len→∃ z:Int,w.cell? ⟨b,off+i,none⟩=some (.int .u8 z)∧0≤z∧z≤255:=by
    rcases hz with hz|hz
    · omega
    · exact hz
   have hd:decide (n<1)=false:=by simp;omega
   have hln:((len:Int)==0)=false:=by simp;omega
   by_cases hk:p<len
   · obtain⟨z,hc,z0,z1⟩:=hz p hk
     clear hz
     have e2:(w.setCell ⟨rb,1,none⟩ (.int .i64 ((p:Int)+1))).cell? ⟨b,off+p,none⟩=some (.int .u8 z):=by rw[cset_far (Nat.ne_of_lt hb)];exact hc
     go_enter Tryz.func34,Tryz.ntmps34
     go_wp2
     go_ret
     exact⟨_,rfl,Int.emod_nonneg _ (by omega),Int.emod_lt_of_pos _ (by omega),FIN.out 0⟩
   · obtain⟨i,hi,hil⟩:∃ i:Nat,(p:Int) % (len:Int)=(i:Int)∧i<len:=⟨p % len,by omega,Nat.mod_lt _ hl⟩
     obtain⟨j,hj,hjl⟩:∃ j:Nat,((p:Int)*7+3) % (len:Int)=(j:Int)∧j<len:=⟨(p*7+3) % len,by rw[show (p:Int)*7+3=((p*7+3:Nat):Int) by omega];rfl,Nat.mod_lt _ hl⟩
     obtain⟨d,hd',hdl⟩:∃ d:Nat,(p:Int)/(len:Int)=(d:Int)∧d≤p:=⟨p/len,by omega,Nat.div_le_self _ _⟩
     obtain⟨z,hc,z0,z1⟩:=hz i hil
     obtain⟨y,hcy,y0,y1⟩:=hz j hjl
     clear hz
     have e2:(w.setCell ⟨rb,1,none⟩ (.int .i64 ((p:Int)+1))).cell? ⟨b,off+i,none⟩=some (.int .u8 z):=by rw[cset_far (Nat.ne_of_lt hb)];exact hc
     have e3:(w.setCell ⟨rb,1,none⟩ (.int .i64 ((p:Int)+1))).cell? ⟨b,off+j,none⟩=some (.int .u8 y):=by rw[cset_far (Nat.ne_of_lt hb)];exact hcy
     go_enter Tryz.func34,Tryz.ntmps34
     go_wp2
     go_quiet (fail)
     go_wp2
     go_ret
     exact⟨_,rfl,Int.tmod_nonneg _ (xor_nonneg (by omega) (by omega) (by omega) (by omega)),Int.tmod_lt_of_pos _ (by omega),FIN.out _⟩
theorem Rd.alloc {w:World} {rb p:Nat} (h:Rd w rb p) (o:Obj):Rd (w.alloc o) rb p:=h.below ((Below.refl _ _).alloc (Nat.le_refl _) o)
theorem one_any (rb p lb len cap:Nat) (xs:List Int) (w:World) (hr:Rd w rb p) (hp:p≤1000000) (hl:xs.length=len) (h0:1≤len) (h1:len≤100) (hb:lb≠rb) (hc:∀ i,i<len→w.cell? ⟨lb,i,none⟩=some (.int .i64 (xs.getD i 0))):
 Calls Tryz.prog 17 #[.pointer (some ⟨rb,0,none⟩),.slice (some ⟨lb,0,none⟩) len cap] w fun e w'=>∃ v:Int,e= .returned (.int .i64 v)∧v∈xs∧Rd w' rb (p+1)∧But rb w w':=by
 go_enter Tryz.func17,Tryz.ntmps17
 go_wp2_with (go_at_call 34;refine(pick_any rb p _ _ hr hp (by omega) (by omega)).mono ?_;rintro e w1 ⟨v,rfl,v0,v1,hr1,hbut⟩;obtain⟨j,rfl⟩:=Int.eq_ofNat_of_zero_le v0;have hcj:=(hbut.cell (p:=⟨lb,j,none⟩) (cell_lt (hc j (by omega))) hb).trans (hc j (by omega)))
 go_ret
 exact⟨_,rfl,by rw[List.getElem?_eq_getElem (show j<xs.length by omega)];simp,hr1,hbut⟩
def AllBd (lo hi:Int):List Value→Prop
 | []=>True
 |c::r=>(∃ z:Int,c= .int .i64 z∧lo≤z∧z≤hi)∧AllBd lo hi r
theorem AllBd.get {lo hi:Int}:∀ {l:List Value},AllBd lo hi l→∀ i,i<l.length→∃ z:Int,l[i]? =some (.int .i64 z)∧lo≤z∧z≤hi
 |c::r,h,0,_=>by obtain⟨z,rfl,h1,h2⟩:=h.1;exact⟨z,rfl,h1,h2⟩
 |c::r,h,i+1,hi'=>by simpa using AllBd.get h.2 i (by simpa using hi')
theorem AllBd.cons {lo hi z:Int} {r:List Value} (h1:lo≤z) (h2:z≤hi) (h:AllBd lo hi r):AllBd lo hi (.int .i64 z::r):=⟨⟨z,rfl,h1,h2⟩,h⟩
theorem AllBd.nil {lo hi:Int}:AllBd lo hi []:=trivial
theorem one_bd (lo hi:Int) (rb p len cap:Nat) (cs:Array Value) (t:TypeId) (w:World) (hr:Rd w rb p) (hp:p≤1000000) (hcs:AllBd lo hi cs.toList) (hl:cs.size=len) (h0:1≤len) (h1:len≤100):
 Calls Tryz.prog 17 #[.pointer (some ⟨rb,0,none⟩),.slice (some ⟨w.heap.size,0,none⟩) len cap] (w.alloc (.cells cs t)) fun e w'=>∃ v:Int,e= .returned (.int .i64 v)∧lo≤v∧v≤hi∧Rd w' rb (p+1)∧But rb w w':=by
 have hlt:=hr.lt
 have hx:∀ i,i<len→∃ z:Int,cs[i]? =some (.int .i64 z)∧lo≤z∧z≤hi:=fun i hi=>by
  have:=hcs.get i (by simpa [hl] using hi);simpa using this
 have hcell:∀ i:Nat,(w.alloc (.cells cs t)).cell? ⟨w.heap.size,i,none⟩=cs[i]? :=fun i=>World.cell?_alloc_mark w cs t (0,0) i
 refine(one_any rb p w.heap.size len cap (cs.toList.map intOf) _ (hr.alloc _) hp (by simpa using hl) h0 h1 (by omega) ?_).mono ?_
 · intro i hi
   obtain⟨z,hz,_⟩:=hx i hi
   rw[hcell,hz]
   simp[hz,intOf]
 · rintro e w' ⟨v,rfl,hv,hr',hb'⟩
   refine⟨v,rfl,?_,?_,hr',((But.refl rb w).alloc _).trans hb'⟩
   all_goals
    obtain⟨c,hc,rfl⟩:=List.mem_map.1 hv
    obtain⟨i,hi,rfl⟩:=List.getElem_of_mem hc
    obtain⟨z,hz,a,b⟩:=hcs.get i hi
    rw[List.getElem?_eq_getElem hi] at hz
    injection hz with hz
    rw[hz];assumption
theorem l1Open_any (a:Option Addr) (len cap:Nat) (w:World) (hcap:len≤cap)
 (hz:len=0∨∃ b off,a=some ⟨b,off,none⟩∧∀ i,i<len→∃ z:Int,w.cell? ⟨b,off+i,none⟩=some (.int .u8 z)∧0≤z∧z≤255):
 Calls Tryz.prog 15 #[.slice a len cap] w fun e w'=>e= .returned (.pointer (some ⟨w.heap.size,0,none⟩))∧Rd w' w.heap.size 0∧Below w.heap.size w w':=by
 have fin:∀ (len' cap':Nat),len'≤len→len'≤2000→Rd (w.alloc (.cells #[.slice a len' cap',.int .i64 0] 73)) w.heap.size 0:=by
  intro len' cap' hl h2
  refine⟨a,len',cap',?_,?_,?_,h2,?_⟩
  · go_simp
  · go_simp
  · go_simp
  rcases hz with hz|⟨b,off,ha,hz⟩
  · exact .inl (by omega)
  · rcases Nat.eq_zero_or_pos len' with h|h
    · exact .inl h
    · obtain⟨z,hc,_⟩:=hz 0 (by omega)
      have hlt:=cell_lt hc
      refine .inr ⟨b,off,ha,hlt,fun i hi=> ?_⟩
      obtain⟨z,hz,r⟩:=hz i (by omega)
      exact⟨z,by rw[calloc_old (cell_lt hz)];exact hz,r⟩
 have FIN:=fin
 clear fin
 by_cases h:2000<len
 · go_enter Tryz.func15,Tryz.ntmps15
   go_wp2
   go_ret
   exact⟨rfl,FIN _ _ (by omega) (by omega),(Below.refl _ _).alloc (Nat.le_refl _) _⟩
 · go_enter Tryz.func15,Tryz.ntmps15
   go_wp2
   go_ret
   exact⟨rfl,FIN _ _ (by omega) (by omega),(Below.refl _ _).alloc (Nat.le_refl _) _⟩
def RB (w0 w:World) (rb p:Nat):Prop:=∃ q,q≤p∧Rd w rb q∧But rb w0 w
theorem RB.mono {w0 w:World} {rb p p':Nat} (h:RB w0 w rb p) (k:p≤p'):RB w0 w rb p':=by
 obtain⟨q,a,b⟩:=h;exact⟨q,by omega,b⟩
theorem RB.start {w:World} {rb p:Nat} (h:Rd w rb p):RB w w rb p:=⟨p,Nat.le_refl _,h,But.refl _ _⟩
theorem RB.alloc {w0 w:World} {rb p:Nat} (h:RB w0 w rb p) (o:Obj):RB w0 (w.alloc o) rb p:=by
 obtain⟨q,a,b,c⟩:=h;exact⟨q,a,b.alloc o,c.alloc o⟩
theorem RB.below {w0 w w':World} {rb p:Nat} (h:RB w0 w rb p) (k:Below w.heap.size w w'):RB w0 w' rb p:=by
 obtain⟨q,a,b,c⟩:=h;exact⟨q,a,b.below k,c.trans (But.of_below k)⟩
theorem RB.lt {w0 w:World} {rb p:Nat} (h:RB w0 w rb p):rb<w.heap.size:=by
 obtain⟨q,a,b,c⟩:=h;exact b.lt
theorem RB.old {w0 w:World} {rb p:Nat} (h:RB w0 w rb p) {B:Nat} (hB:B≤rb) (hB':B≤w0.heap.size):Below B w0 w:=by
 obtain⟨q,a,b,c⟩:=h;exact c.below hB hB'
theorem pick_rb (w0:World) (rb p:Nat) (n:Int) (w:World) (hr:RB w0 w rb p) (hp:p≤999000) (h0:1≤n) (h1:n≤4000000000):
 Calls Tryz.prog 34 #[.pointer (some ⟨rb,0,none⟩),.int .i64 n] w fun e w'=>∃ v:Int,e= .returned (.int .i64 v)∧0≤v∧v<n∧RB w0 w' rb (p+1):=by
 obtain⟨q,a,b,c⟩:=hr
 refine(pick_any rb q n w b (by omega) h0 h1).mono ?_
 rintro e w' ⟨v,rfl,v0,v1,hr',hb'⟩
 exact⟨v,rfl,v0,v1,q+1,by omega,hr',c.trans hb'⟩
theorem one_rb (lo hi:Int) (w0:World) (rb p len cap:Nat) (cs:Array Value) (t:TypeId) (w:World) (hr:RB w0 w rb p) (hp:p≤999000) (hcs:AllBd lo hi cs.toList) (hl:cs.size=len) (h0:1≤len) (h1:len≤100):
 Calls Tryz.prog 17 #[.pointer (some ⟨rb,0,none⟩),.slice (some ⟨w.heap.size,0,none⟩) len cap] (w.alloc (.cells cs t)) fun e w'=>∃ v:Int,e= .returned (.int .i64 v)∧lo≤v∧v≤hi∧RB w0 w' rb (p+1):=by
 obtain⟨q,a,b,c⟩:=hr
 refine(one_bd lo hi rb q len cap cs t w b (by omega) hcs hl h0 h1).mono ?_
 rintro e w' ⟨v,rfl,v0,v1,hr',hb'⟩
 exact⟨v,rfl,v0,v1,q+1,by omega,hr',c.trans hb'⟩
def Bytes (w:World) (a:Option Addr) (len cap:Nat):Prop:=
 len≤cap∧(len=0∨∃ b off,a=some ⟨b,off,none⟩∧∀ i,i<len→∃ z:Int,w.cell? ⟨b,off+i,none⟩=some (.int .u8 z)∧0≤z∧z≤255)
theorem Bytes.below {w w':World} {a:Option Addr} {len cap:Nat} (h:Bytes w a len cap) (k:Below w.heap.size w w'):Bytes w' a len cap:=by
 refine⟨h.1,?_⟩
 rcases h.2 with h|⟨b,off,ha,hz⟩
 · exact .inl h
 · refine .inr ⟨b,off,ha,fun i hi=> ?_⟩
   obtain⟨z,hz,r⟩:=hz i hi
   exact⟨z,by rw[k.cell (cell_lt hz)];exact hz,r⟩
theorem Bytes.nil (w:World):Bytes w none 0 0:=⟨Nat.le_refl _,.inl rfl⟩
theorem Bytes.of {w:World} {x:Addr} {len cap:Nat} {zs:List Int} (hl:len≤cap) (hz:zs.length=cap) (hcell:∀ i,i<zs.length→w.cell? (x.add i)=some (.int .u8 (zs.getD i 0))) (hwz:∀ n∈zs,(Lit.int .u8 n).wf=true):Bytes w (some x) len cap:=by
 refine⟨hl,?_⟩
 rcases Nat.eq_zero_or_pos len with h|h
 · exact .inl h
 · obtain⟨b,off,spot⟩:=x
   have hc:=hcell 0 (by omega)
   have hspot:spot=none:=by simpa [Addr.add] using World.cell?_spot hc
   subst hspot
   refine .inr ⟨b,off,rfl,fun i hi=>⟨zs[i]?.getD 0,?_,(range_u8 hwz i).1,(range_u8 hwz i).2⟩⟩
   have h:=hcell i (by omega)
   by_cases h0:i=0
   · subst h0;simpa [Addr.add] using h
   · simpa [Addr.add,h0] using h
theorem l1Open_rb (a:Option Addr) (len cap:Nat) (w:World) (hb:Bytes w a len cap):
 Calls Tryz.prog 15 #[.slice a len cap] w fun e w'=>e= .returned (.pointer (some ⟨w.heap.size,0,none⟩))∧RB w' w' w.heap.size 0∧Below w.heap.size w w':=
 (l1Open_any a len cap w hb.1 hb.2).mono fun _ _ ⟨h1,h2,h3⟩=>⟨h1,RB.start h2,h3⟩
theorem RB.done {w w0 w':World} {p:Nat} (k:Below w.heap.size w w0) (h:RB w0 w' w.heap.size p):Below w.heap.size w w':=
 k.trans (h.old (Nat.le_refl _) k.size)
theorem Rd.setNew {w:World} {rb p:Nat} (h:Rd w rb p) {a:Addr} (ha:rb<a.block) (v:Value):Rd (w.setCell a v) rb p:=by
 obtain⟨s,len,cap,c0,c1,f1,hle,hz⟩:=h
 refine⟨s,len,cap,?_,?_,?_,hle,?_⟩
 · rw[cset_far (Nat.ne_of_lt ha)];exact c0
 · rw[cset_far (Nat.ne_of_lt ha)];exact c1
 · rw[fset_far (Nat.ne_of_lt ha)];exact f1
 rcases hz with hz|⟨b,off,e,hb,hz⟩
 · exact .inl hz
 · refine .inr ⟨b,off,e,hb,fun i hi=> ?_⟩
   obtain⟨z,hz,r⟩:=hz i hi
   exact⟨z,by rw[cset_far (by show b≠a.block;omega)];exact hz,r⟩
theorem RB.setNew {w0 w:World} {rb p:Nat} (h:RB w0 w rb p) {a:Addr} (ha:rb<a.block) (h0:w0.heap.size≤a.block) (v:Value):RB w0 (w.setCell a v) rb p:=by
 obtain⟨q,k,b,c⟩:=h
 exact⟨q,k,b.setNew ha v,⟨c.os,c.tape,c.output,by simpa [World.setCell] using c.size,fun k hk hn=>(Below.heap_setCell _ _ _ _ (by omega)).trans (c.block k hk hn)⟩⟩
theorem RB.cells {w0 w:World} {rb p:Nat} (h:RB w0 w rb p):(∀ b o,b<w0.heap.size→b≠rb→w.cell? ⟨b,o,none⟩=w0.cell? ⟨b,o,none⟩)∧(∀ b o,b<w0.heap.size→b≠rb→w.frozen? ⟨b,o,none⟩=w0.frozen? ⟨b,o,none⟩):=by
 obtain⟨q,k,b,c⟩:=h
 exact⟨fun b o hb hn=>c.cell (p:=⟨b,o,none⟩) hb hn,fun b o hb hn=>c.frozen (p:=⟨b,o,none⟩) hb hn⟩
theorem RB.fresh {w0 w:World} {rb p:Nat} (h:RB w0 w rb p) (o:Obj):RB (w.alloc o) (w.alloc o) rb p:=by
 obtain⟨q,a,b,c⟩:=h;exact⟨q,a,b.alloc o,But.refl _ _⟩
end Go.Proofs.YthajilkjfkppoaaGreatDoor
namespace Go.Proofs.YthajilkjfkppoaaGreatDoor
open Go.RowKit
set_option linter.unusedVariables false
end Go.Proofs.YthajilkjfkppoaaGreatDoor
namespace Go.Proofs.YthajilkjfkppoaaGreatDoor
open Go.RowKit
set_option linter.unusedVariables false
section
variable {P:Program} {Q:Exit→Act→World→Prop}
theorem rows_wide {n:Nat} {row:String} {args:Array Value} {w:World} {R:Value→World→Prop} (h:Rows P row args w R):RowsIn Fence.wide n P row args w R:=
 fun c cs _=>let ⟨v,w',r,s⟩:=h c cs;⟨v,w',r,stepsIn_wide.2 s⟩
theorem opIn_of {l n:Nat} {o:Oper} (hd:∀ c,o.op≠ .defer c) {a:Act} {w:World} {K:Act→World→Prop} (h:o.wp P a w K Q):o.wpIn (Fence.wide.inRound l) n P a w K Q:=by
 unfold Oper.wp at h
 unfold Oper.wpIn
 refine⟨fun _ _=>trivial,?_⟩
 rw[Oper.semAt_eq _ _ _ hd]
 generalize (execOp a.eval o).run P w=r at*
 cases r with
 | ok x w'=>
   cases x<;>simp only[Oper.upon,Oper.uponIn] at h ⊢ <;>
    first
     |exact h
     |exact⟨(fun e=>by cases e),CallsIn.inRound l (callsIn_wide.2 h)⟩
     |exact⟨(fun e=>by cases e),rows_wide h⟩
 |halt x w'=>cases x<;>simp only[Oper.upon,Oper.uponIn] at h ⊢ <;>exact h
def noDefer (ops:Array Oper):Bool:=ops.toList.all fun o=>match o.op with| .defer _=>false|_=>true
theorem noDefer_at {ops:Array Oper} (h:noDefer ops=true) {i:Nat} {o:Oper} (hi:ops[i]? =some o):∀ c,o.op≠ .defer c:=by
 intro c e
 have hm:o∈ops.toList:=List.mem_of_getElem? (by simpa using hi)
 have:=List.all_eq_true.1 h o hm
 rw[e] at this
 cases this
theorem wpOpIn_of {l n:Nat} {ops:Array Oper} (hL:¬ LetsOut Q) (hn:noDefer ops=true) {i:Nat} {K:Act→World→Prop} {a:Act} {w:World} (h:wpOp P ops Q i K a w):wpOpIn (Fence.wide.inRound l) n P ops Q i K a w:=by
 unfold wpOp at h
 unfold wpOpIn
 cases hi:ops[i]? with
 |none=>simp only[hi] at h ⊢;exact h
 | some o=>
   simp only[hi] at h ⊢
   split
   · rename_i hw
     rw[if_pos hw] at h
     exact opIn_of (noDefer_at hn hi) (h.resolve_right fun q=>hL q.2)
   · rename_i hw
     rw[if_neg hw] at h
     exact⟨fun _ _=>trivial,h⟩
theorem wpAnyIn_of {l n:Nat} {md:Region.Mode} {ops:Array Oper} (hL:¬ LetsOut Q) (hn:noDefer ops=true):∀ (fuel:Nat) (listed:Array Bool) (a:Act) (w:World),
 wpAny P md ops Q fuel listed a w→wpAnyIn (Fence.wide.inRound l) n P md ops Q fuel listed a w
 |0,_,_,_,h=>h
 |fuel+1,_,_,_,h=>⟨h.1,fun i hi=>wpOpIn_of hL hn (wpOp_mono (fun a' w' h'=>wpAnyIn_of hL hn fuel _ a' w' h') (h.2 i hi))⟩
theorem wpIn_region_held_drew {l n:Nat} {ops:Array Oper} {S:World→Prop} {id:Nat} {a:Act} {w:World} (hm:P.follows .mixedOrders=true) (hL:¬ LetsOut Q) (hn:noDefer ops=true) (hS:S w.drew)
 (h:S w.drew→wpAnyH P .any ops Q S ops.size (Array.replicate ops.size false) a w.drew):(Code.region id ops true).wpIn (Fence.wide.inRound l) n P Q a w:=
 wpIn_region_any hm (wpAnyIn_of hL hn _ _ _ _ (wpAny_of_held _ _ _ _ (h hS)))
theorem wpListIn_of {l n:Nat} {ops:Array Oper} (hL:¬ LetsOut Q):∀ (os:List Oper) (hn:noDefer os.toArray=true) (a:Act) (w:World),wpList P ops Q os a w→wpListIn (Fence.wide.inRound l) n P ops Q os a w
 | [],_,_,_,h=>h
 | o::rest,hn,a,w,h=>by
   unfold wpList at h
   unfold wpListIn
   have hn':noDefer rest.toArray=true:=by simp[noDefer] at hn ⊢;exact hn.2
   split
   · rename_i hw
     rw[if_pos hw] at h
     refine opIn_of (noDefer_at hn (i:=0) (by simp)) (Oper.wp_mono (fun a' w' h'=>wpListIn_of hL rest hn' a' w' h') (h.resolve_right fun q=>hL q.2))
   · rename_i hw
     rw[if_neg hw] at h
     exact⟨fun _ _=>trivial,wpListIn_of hL rest hn' _ _ h⟩
theorem wpIn_region_plain {l n:Nat} {ops:Array Oper} {id:Nat} {a:Act} {w:World} (hL:¬ LetsOut Q) (hn:noDefer ops=true) (h:wpList P ops Q ops.toList a w):(Code.region id ops false).wpIn (Fence.wide.inRound l) n P Q a w:=
 wpIn_region_list (wpListIn_of hL _ (by simpa using hn) _ _ h)
end
structure Sm (B:Nat) (W W':World):Prop where
 below:Below B W W'
 cells:∀ (k:Nat) (o:Obj),W.heap[k]? =some o→o.isCells=true→W'.heap[k]? =some o
theorem Sm.refl (B:Nat) (W:World):Sm B W W:=⟨Below.refl _ _,fun _ _ h _=>h⟩
theorem Sm.trans {B:Nat} {X Y Z:World} (h:Sm B X Y) (k:Sm B Y Z):Sm B X Z:=⟨h.below.trans k.below,fun i o hi ho=>k.cells i o (h.cells i o hi ho) ho⟩
theorem Sm.mono {B B':Nat} {X Y:World} (h:Sm B X Y) (hB:B'≤B):Sm B' X Y:=⟨h.below.mono hB,h.cells⟩
theorem Sm.of_below {B:Nat} {W W':World} (h:Below W.heap.size W W') (hB:B≤W.heap.size):Sm B W W':=
 ⟨h.mono hB,fun k o hk _=>(h.block k (Array.getElem?_eq_some_iff.1 hk).1).trans hk⟩
theorem Sm.putObj {B l:Nat} {W:World} {o:Obj} (o':Obj) (hl:W.heap[l]? =some o) (ho:o.isCells=false) (hB:B≤l):Sm B W (W.putObj l o'):=
 ⟨⟨rfl,rfl,rfl,by simp,fun k hk=>World.putObj_heap_other (by omega)⟩,fun k x hk hx=>by
   refine(World.putObj_heap_other (fun e=> ?_)).trans hk
   subst e
   rw[hl] at hk
   cases hk
   rw[ho] at hx
   cases hx⟩
theorem isCells_of_cell {W:World} {p:Addr} {v:Value} (h:W.cell? p=some v):∃ o:Obj,W.heap[p.block]? =some o∧o.isCells=true:=by
 unfold World.cell? at h
 cases ho:W.heap[p.block]? with
 |none=>simp[ho] at h
 |some o=>cases o<;>simp[ho] at h<;>exact⟨_,rfl,rfl⟩
theorem Sm.block {B:Nat} {W W':World} (h:Sm B W W') {p:Addr} {v:Value} (hc:W.cell? p=some v):W'.heap[p.block]? =W.heap[p.block]? :=by
 obtain⟨o,ho,hx⟩:=isCells_of_cell hc
 rw[ho]
 exact h.cells _ _ ho hx
theorem Sm.cell {B:Nat} {W W':World} (h:Sm B W W') {p:Addr} {v:Value} (hc:W.cell? p=some v):W'.cell? p=some v:=(World.cell?_of_block (h.block hc)).trans hc
theorem Sm.frozen {B:Nat} {W W':World} (h:Sm B W W') {p:Addr} {v:Value} (hc:W.cell? p=some v) {b:Bool} (hf:W.frozen? p=b):W'.frozen? p=b:=(World.frozen?_of_block (h.block hc)).trans hf
theorem Sm.size {B:Nat} {W W':World} (h:Sm B W W'):W.heap.size≤W'.heap.size:=h.below.size
theorem KeepsFrom.of_below {B:Nat} {W W':World} (h:Below W.heap.size W W'):KeepsFrom B W W':=
 ⟨h.size,fun k o _ hk _=>(h.block k (Array.getElem?_eq_some_iff.1 hk).1).trans hk⟩
def rdPost (B:Nat) (I:World→Prop) (Ix:Code→World→Prop) (W:World):Exit→Act→World→Prop
 | .normal,_,W'=>KeepsFrom B W W'∧I W'
 | .ret,_,W'=>KeepsFrom B W W'∧Ix .ret W'
 | .exit id,_,W'=>KeepsFrom B W W'∧Ix (.exit id) W'
 | .goto t,_,W'=>KeepsFrom B W W'∧Ix (.goto t) W'
 | .panic _,_,_=>False
 | .outgrown,_,_=>False
def ItC (P:Program) (gf:Nat) (bound:Array Value) (encs:Nat→Array Value) (nn:Nat) (w:World):Prop:=
 ∀ (l:Nat) (J:Nat→World→Prop) (Jx:World→Prop) (W:World),Below w.heap.size w W→
   (∀ k A B,J k A→Below A.heap.size A B→J k B)→(∀ A B,Jx A→Below A.heap.size A B→Jx B)→
   (∀ k A,J k A→k<nn→YieldAt Fence.wide 0 P l (encs k) A fun e A'=>(e= .returned (.bool true)∧J (k+1) A')∨(e= .returned (.bool false)∧Jx A'))→
   J 0 W→CallsIn Fence.wide 0 P gf (bound++ #[.func (.yield l) #[] #[]]) W fun e A=>(∃ v,e= .returned v)∧(J nn A∨Jx A)
theorem yield_round {P:Program} {ps:Array Tmp} {assign body:Code} {a:Act} {w:World} {B l dl:Nat} {fn:FuncId} {encs:Nat→Array Value} {k:Nat} (hps:(encs k).size=ps.size)
 {I I':World→Prop} {Ix:Code→World→Prop} (hI:∀ A B',I A→Sm B A B'→I B') (hI':∀ A B',I' A→Sm B A B'→I' B') (hIx:∀ c A B',Ix c A→Sm B A B'→Ix c B') {H:World→Prop} (hH:∀ A B',H A→KeepsFrom B A B'→H B') (hHp:∀ A o,H A→H (A.putObj l o))
 {rec:LoopState→Option Code→Loop} (hrec:rec=fun st pe=>{state:=st,pending:=pe,fn,tmps:=a.tmps,params:=ps,assign,body,defers:=dl}) (hBl:B≤l)
 {W:World} (hi:I W) (hl:W.heap[l]? =some (.loop (rec .ready none))) (hh:H W)
 (hround:assign.wpIn (Fence.wide.inRound l) 0 P (Exit.then (fun a₁ W₁=>KeepsFrom B W W₁∧∀ W₂,Sm B W₁ W₂→(∃ r,W₂.heap[l]? =some (.loop r))→body.wpIn (Fence.wide.inRound l) 0 P (rdPost B I' Ix W₂) a₁ W₂) (fun _ _ _=>False))
   {tmps:=(ps.zip (encs k)).foldl (fun t (p,v)=>t.setIfInBounds p v) a.tmps,defers:=[]} W):
 YieldAt Fence.wide 0 P l (encs k) W fun e W'=>(e= .returned (.bool true)∧I' W'∧W'.heap[l]? =some (.loop (rec .ready none))∧H W')∨(e= .returned (.bool false)∧∃ c,Ix c W'∧W'.heap[l]? =some (.loop (rec .done (some c)))∧H W'):=by
 have hy:=run_yield (P:=P) (args:=encs k) hl (by rw[hrec];exact hps)
 rw[hrec] at hy
 refine⟨fn,_,assign,body,hy,roundIn_of_wpIn trivial (wpIn_mono hround ?_)⟩
 intro e a₁ W₁ q
 cases e with
 | normal=>
   obtain⟨hk1,hb⟩:=q
   have hl1:=hk1.same _ _ hBl hl rfl
   have hh1:=hH _ _ hh hk1
   refine⟨_,run_beginRound hl1 (by rw[hrec]),?_⟩
   have hlt:l<W₁.heap.size:=(Array.getElem?_eq_some_iff.1 hl1).1
   have hl2:(W₁.putObj l (.loop {rec .ready none with state:= .busy})).heap[l]? =some (.loop {rec .ready none with state:= .busy}):=World.putObj_heap_same hlt
   refine wpIn_mono (hb _ (Sm.putObj _ hl1 rfl hBl) ⟨_,hl2⟩) ?_
   have fin:∀ (jump:Option Code) (W3:World),KeepsFrom B (W₁.putObj l (.loop {rec .ready none with state:= .busy})) W3→
    (Instr.endRound l jump).run P W3= .ok (.bool jump.isNone) (W3.putObj l (.loop (rec (if jump.isNone then .ready else .done) jump)))∧
    Sm B W3 (W3.putObj l (.loop (rec (if jump.isNone then .ready else .done) jump)))∧
    (W3.putObj l (.loop (rec (if jump.isNone then .ready else .done) jump))).heap[l]? =some (.loop (rec (if jump.isNone then .ready else .done) jump))∧
    H (W3.putObj l (.loop (rec (if jump.isNone then .ready else .done) jump))):=fun jump W3 hk3=>by
    have hl3:=hk3.same _ _ hBl hl2 rfl
    have:=run_endRound (P:=P) jump hl3
    rw[hrec] at this ⊢
    exact⟨this,Sm.putObj _ hl3 rfl hBl,World.putObj_heap_same (Array.getElem?_eq_some_iff.1 hl3).1,hHp _ _ (hH _ _ (hHp _ _ hh1) (by rw[hrec] at hk3;exact hk3))⟩
   rintro e a3 W3 hp
   cases e with
   | normal=>
     obtain⟨hk3,hi3⟩:=hp
     obtain⟨hr,hs,hl4,hh4⟩:=fin none W3 hk3
     exact⟨_,_,hr,.inl ⟨rfl,hI' _ _ hi3 hs,hl4,hh4⟩⟩
   | ret=>
     obtain⟨hk3,hi3⟩:=hp
     obtain⟨hr,hs,hl4,hh4⟩:=fin (some .ret) W3 hk3
     exact⟨_,_,hr,.inr ⟨rfl,.ret,hIx _ _ _ hi3 hs,hl4,hh4⟩⟩
   | exit id=>
     obtain⟨hk3,hi3⟩:=hp
     obtain⟨hr,hs,hl4,hh4⟩:=fin (some (.exit id)) W3 hk3
     exact⟨_,_,hr,.inr ⟨rfl,.exit id,hIx _ _ _ hi3 hs,hl4,hh4⟩⟩
   | goto t=>
     obtain⟨hk3,hi3⟩:=hp
     obtain⟨hr,hs,hl4,hh4⟩:=fin (some (.goto t)) W3 hk3
     exact⟨_,_,hr,.inr ⟨rfl,.goto t,hIx _ _ _ hi3 hs,hl4,hh4⟩⟩
   |panic ch=>exact hp.elim
   |outgrown=>exact hp.elim
 |exit id=>exact q.elim
 |goto t=>exact q.elim
 |ret=>exact q.elim
 |panic ch=>exact q.elim
 |outgrown=>exact q.elim
theorem wp_range_out {P:Program} {g:Operand} {ps:Array Tmp} {assign body:Code} {Q:Exit→Act→World→Prop} {a:Act} {w:World} {gf:Nat} {bound:Array Value}
 (hg:a.eval g= .func (.func gf) bound #[]) (eg:∀ args w,(callFunc gf args).run P w= .ok (.enter gf args) w)
 {encs:Nat→Array Value} {nn:Nat} (hit:ItC P gf bound encs nn w) (hps:∀ k,(encs k).size=ps.size)
 (I:Nat→World→Prop) (Ix:Code→World→Prop) (hI:∀ k A B,I k A→Sm w.heap.size A B→I k B) (hIx:∀ c A B,Ix c A→Sm w.heap.size A B→Ix c B) (h0:I 0 w)
 (hround:∀ l k W,w.heap.size≤l→I k W→k<nn→
   assign.wpIn (Fence.wide.inRound l) 0 P (Exit.then (fun a₁ W₁=>KeepsFrom w.heap.size W W₁∧∀ W₂,Sm w.heap.size W₁ W₂→(∃ r,W₂.heap[l]? =some (.loop r))→body.wpIn (Fence.wide.inRound l) 0 P (rdPost w.heap.size (I (k+1)) Ix W₂) a₁ W₂) (fun _ _ _=>False))
   {tmps:=(ps.zip (encs k)).foldl (fun t (p,v)=>t.setIfInBounds p v) a.tmps,defers:=[]} W)
 (hdone:∀ (D:Nat) (W:World),w.heap.size≤D→I nn W→W.heap[D]? =some (.deferred (some []))→Q .normal {a with defers:={target:= .collected D,args:= #[]}::a.defers} W)
 (hstop:∀ (D:Nat) (c:Code) (W:World),w.heap.size≤D→Ix c W→W.heap[D]? =some (.deferred (some []))→c.wp P Q {a with defers:={target:= .collected D,args:= #[]}::a.defers} W):
 (Code.rangeFunc g ps assign body).wp P Q a w:=by
 refine wpIn_wide.1 (wpIn_rangeFunc (n:=0) ?_)
 intro fn _
 obtain⟨rec,hrec⟩:∃ rec:LoopState→Option Code→Loop,rec=fun st pe=>{state:=st,pending:=pe,fn,tmps:=a.tmps,params:=ps,assign,body,defers:=w.heap.size}:=⟨_,rfl⟩
 obtain⟨W1,hW1⟩:∃ W1,(w.alloc (.deferred (some []))).alloc (.loop (rec .ready none))=W1:=⟨_,rfl⟩
 have hb1:Below w.heap.size w W1:=by rw[←hW1];exact((Below.refl _ w).alloc (Nat.le_refl _) _).alloc (by simp) _
 have hL1:W1.heap[w.heap.size+1]? =some (.loop (rec .ready none)):=by
  rw[←hW1];have:=World.alloc_heap_new (w.alloc (.deferred (some []))) (.loop (rec .ready none));rwa [World.size_alloc] at this
 have hK1:W1.heap[w.heap.size]? =some (.deferred (some [])):=by
  rw[←hW1];exact(Below.heap_alloc _ _ _ (by simp)).trans (World.alloc_heap_new w _)
 refine⟨w.heap.size+1,[{target:= .collected w.heap.size,args:= #[]}],W1,{target:= .fn (.func gf) #[],args:=bound++ #[.func (.yield (w.heap.size+1)) #[] #[]]},W1,gf,
  bound++ #[.func (.yield (w.heap.size+1)) #[] #[]],W1,?_,?_,fun _ _=>trivial,?_,(fun e=>by cases e),?_⟩
 · rw[←hW1,hrec];exact run_enterLoop_outer _ _ _ _ _
 · simp only[resolve,hg]
   simp[go_sem]
 · simp[invoke,go_sem,eg]
 · refine(hit (w.heap.size+1)
    (fun k W=>I k W∧W.heap[w.heap.size+1]? =some (.loop (rec .ready none))∧W.heap[w.heap.size]? =some (.deferred (some []))∧w.heap.size≤W.heap.size)
    (fun W=>∃ c,Ix c W∧W.heap[w.heap.size+1]? =some (.loop (rec .done (some c)))∧W.heap[w.heap.size]? =some (.deferred (some []))∧w.heap.size≤W.heap.size)
    W1 hb1 ?_ ?_ ?_ ⟨hI _ _ _ h0 (Sm.of_below hb1 (Nat.le_refl _)),hL1,hK1,hb1.size⟩).mono ?_
   · rintro k A B ⟨h1,h2,h3,h4⟩ hb
     exact⟨hI _ _ _ h1 (Sm.of_below hb h4),(hb.block _ (Array.getElem?_eq_some_iff.1 h2).1).trans h2,(hb.block _ (Array.getElem?_eq_some_iff.1 h3).1).trans h3,Nat.le_trans h4 hb.size⟩
   · rintro A B ⟨c,h1,h2,h3,h4⟩ hb
     exact⟨c,hIx _ _ _ h1 (Sm.of_below hb h4),(hb.block _ (Array.getElem?_eq_some_iff.1 h2).1).trans h2,(hb.block _ (Array.getElem?_eq_some_iff.1 h3).1).trans h3,Nat.le_trans h4 hb.size⟩
   · rintro k W ⟨h1,h2,h3,h4⟩ hk
     obtain⟨fn',tm,as',bo,hy,hR⟩:=yield_round (P:=P) (ps:=ps) (assign:=assign) (body:=body) (a:=a) (w:=w) (B:=w.heap.size) (l:=w.heap.size+1) (dl:=w.heap.size) (fn:=fn) (encs:=encs) (k:=k) (hps k) (I:=I k) (I':=I (k+1)) (Ix:=Ix) (hI k) (hI (k+1)) hIx
      (H:=fun W=>W.heap[w.heap.size]? =some (.deferred (some []))∧w.heap.size≤W.heap.size) (fun A B h hk=>⟨hk.same _ _ (Nat.le_refl _) h.1 rfl,Nat.le_trans h.2 hk.size⟩) (fun A o h=>⟨(World.putObj_heap_other (by omega)).trans h.1,by simpa using h.2⟩) hrec (by omega) h1 h2 ⟨h3,h4⟩ (hround _ k W (by omega) h1 hk)
     refine⟨fn',tm,as',bo,hy,hR.mono ?_⟩
     rintro e W' (⟨e1,h1,h2,h3,h4⟩|⟨e1,c,h1,h2,h3,h4⟩)
     · exact .inl ⟨e1,h1,h2,h3,h4⟩
     · exact .inr ⟨e1,c,h1,h2,h3,h4⟩
   · rintro e W2 ⟨⟨v,rfl⟩,(⟨hi,hl,hk,_⟩|⟨c,hi,hl,hk,_⟩)⟩
     · exact⟨none,_,by have:=run_endLoop (P:=P) hl (by rw[hrec];simp);rw[hrec] at this;exact this,hdone _ _ (Nat.le_refl _) (hI _ _ _ hi (Sm.putObj _ hl rfl (by omega))) ((World.putObj_heap_other (by omega)).trans hk)⟩
     · exact⟨some c,_,by have:=run_endLoop (P:=P) hl (by rw[hrec];simp);rw[hrec] at this;exact this,wpIn_wide.2 (hstop _ c _ (Nat.le_refl _) (hIx _ _ _ hi (Sm.putObj _ hl rfl (by omega))) ((World.putObj_heap_other (by omega)).trans hk))⟩
theorem wpIn_range_in {P:Program} {g:Operand} {ps:Array Tmp} {assign body:Code} {Q:Exit→Act→World→Prop} {a:Act} {w:World} {l₀:Nat} {r₀:Loop} (hr₀:w.heap[l₀]? =some (.loop r₀)) {gf:Nat} {bound:Array Value}
 (hg:a.eval g= .func (.func gf) bound #[]) (eg:∀ args w,(callFunc gf args).run P w= .ok (.enter gf args) w)
 {encs:Nat→Array Value} {nn:Nat} (hit:ItC P gf bound encs nn w) (hps:∀ k,(encs k).size=ps.size)
 (I:Nat→World→Prop) (Ix:Code→World→Prop) (hI:∀ k A B,I k A→Sm w.heap.size A B→I k B) (hIx:∀ c A B,Ix c A→Sm w.heap.size A B→Ix c B) (h0:I 0 w)
 (hround:∀ l k W,w.heap.size≤l→I k W→k<nn→
   assign.wpIn (Fence.wide.inRound l) 0 P (Exit.then (fun a₁ W₁=>KeepsFrom w.heap.size W W₁∧∀ W₂,Sm w.heap.size W₁ W₂→(∃ r,W₂.heap[l]? =some (.loop r))→body.wpIn (Fence.wide.inRound l) 0 P (rdPost w.heap.size (I (k+1)) Ix W₂) a₁ W₂) (fun _ _ _=>False))
   {tmps:=(ps.zip (encs k)).foldl (fun t (p,v)=>t.setIfInBounds p v) a.tmps,defers:=[]} W)
 (hdone:∀ (W:World),I nn W→Q .normal a W)
 (hstop:∀ (c:Code) (W:World),Ix c W→c.wpIn (Fence.wide.inRound l₀) 0 P Q a W):
 (Code.rangeFunc g ps assign body).wpIn (Fence.wide.inRound l₀) 0 P Q a w:=by
 refine wpIn_rangeFunc (n:=0) ?_
 intro fn _
 obtain⟨rec,hrec⟩:∃ rec:LoopState→Option Code→Loop,rec=fun st pe=>{state:=st,pending:=pe,fn,tmps:=a.tmps,params:=ps,assign,body,defers:=r₀.defers}:=⟨_,rfl⟩
 obtain⟨W1,hW1⟩:∃ W1,w.alloc (.loop (rec .ready none))=W1:=⟨_,rfl⟩
 have hb1:Below w.heap.size w W1:=by rw[←hW1];exact(Below.refl _ w).alloc (Nat.le_refl _) _
 have hL1:W1.heap[w.heap.size]? =some (.loop (rec .ready none)):=by
  rw[←hW1];exact World.alloc_heap_new w (.loop (rec .ready none))
 refine⟨w.heap.size,[],W1,{target:= .fn (.func gf) #[],args:=bound++ #[.func (.yield w.heap.size) #[] #[]]},W1,gf,
  bound++ #[.func (.yield w.heap.size) #[] #[]],W1,?_,?_,fun _ _=>trivial,?_,(fun e=>by cases e),?_⟩
 · rw[←hW1,hrec];exact run_enterLoop_inner hr₀ _ _ _ _ _
 · simp only[resolve,hg]
   simp[go_sem]
 · simp[invoke,go_sem,eg]
 · refine CallsIn.inRound l₀ ((hit w.heap.size
    (fun k W=>I k W∧W.heap[w.heap.size]? =some (.loop (rec .ready none))∧w.heap.size≤W.heap.size)
    (fun W=>∃ c,Ix c W∧W.heap[w.heap.size]? =some (.loop (rec .done (some c)))∧w.heap.size≤W.heap.size)
    W1 hb1 ?_ ?_ ?_ ⟨hI _ _ _ h0 (Sm.of_below hb1 (Nat.le_refl _)),hL1,hb1.size⟩).mono ?_)
   · rintro k A B ⟨h1,h2,h4⟩ hb
     exact⟨hI _ _ _ h1 (Sm.of_below hb h4),(hb.block _ (Array.getElem?_eq_some_iff.1 h2).1).trans h2,Nat.le_trans h4 hb.size⟩
   · rintro A B ⟨c,h1,h2,h4⟩ hb
     exact⟨c,hIx _ _ _ h1 (Sm.of_below hb h4),(hb.block _ (Array.getElem?_eq_some_iff.1 h2).1).trans h2,Nat.le_trans h4 hb.size⟩
   · rintro k W ⟨h1,h2,h4⟩ hk
     obtain⟨fn',tm,as',bo,hy,hR⟩:=yield_round (P:=P) (ps:=ps) (assign:=assign) (body:=body) (a:=a) (w:=w) (B:=w.heap.size) (l:=w.heap.size) (dl:=r₀.defers) (fn:=fn) (encs:=encs) (k:=k) (hps k) (I:=I k) (I':=I (k+1)) (Ix:=Ix) (hI k) (hI (k+1)) hIx
      (H:=fun W=>w.heap.size≤W.heap.size) (fun A B h hk=>Nat.le_trans h hk.size) (fun A o h=>by simpa using h) hrec (Nat.le_refl _) h1 h2 h4 (hround _ k W (Nat.le_refl _) h1 hk)
     refine⟨fn',tm,as',bo,hy,hR.mono ?_⟩
     rintro e W' (⟨e1,h1,h2,h4⟩|⟨e1,c,h1,h2,h4⟩)
     · exact .inl ⟨e1,h1,h2,h4⟩
     · exact .inr ⟨e1,c,h1,h2,h4⟩
   · rintro e W2 ⟨⟨v,rfl⟩,(⟨hi,hl,_⟩|⟨c,hi,hl,_⟩)⟩
     · exact⟨none,_,by have:=run_endLoop (P:=P) hl (by rw[hrec];simp);rw[hrec] at this;exact this,hdone _ (hI _ _ _ hi (Sm.putObj _ hl rfl (Nat.le_refl _)))⟩
     · exact⟨some c,_,by have:=run_endLoop (P:=P) hl (by rw[hrec];simp);rw[hrec] at this;exact this,hstop c _ (hIx _ _ _ hi (Sm.putObj _ hl rfl (Nat.le_refl _)))⟩
theorem calls_of_wp_marks {P:Program} {f:FuncId} {fn:Func} {c:Code} {args:Array Value} {w:World} {R:Ending→World→Prop} (hf:P.funcs[f]? =some fn) (hb:fn.body=some c)
 (h:c.wp P (bodyPostM Fence.wide 0 P fn R) {tmps:=args++Array.replicate (fn.ntmps-args.size) undef,defers:=[]} w):Calls P f args w R:=
 callsIn_wide.1 (callsIn_of_wp_marks (n:=0) hf hb trivial (wpIn_wide.2 h))
theorem marks_ret {P:Program} {fn:Func} {R:Ending→World→Prop} {a:Act} {w:World} {B D:Nat} (hB:B≤D) (hd:a.defers=[{target:= .collected D,args:= #[]}]) (hK:w.heap[D]? =some (.deferred (some [])))
 (h:∀ W',Sm B w W'→∃ v,(results fn a.tmps).run P W'= .ok v W'∧R (.returned v) W'):bodyPostM Fence.wide 0 P fn R .ret a w:=by
 show LeavesInM Fence.wide 0 P fn a.tmps R a.defers .returning w
 rw[hd]
 exact⟨by simp,.inl ⟨_,_,rfl,run_takeDeferred hK,h _ (Sm.putObj _ hK rfl hB)⟩⟩
theorem marks_ret0 {P:Program} {fn:Func} {R:Ending→World→Prop} {a:Act} {w:World} {v:Value} (hd:a.defers=[]) (hr:(results fn a.tmps).run P w= .ok v w) (hR:R (.returned v) w):bodyPostM Fence.wide 0 P fn R .ret a w:=by
 show LeavesInM Fence.wide 0 P fn a.tmps R a.defers .returning w
 rw[hd]
 exact⟨v,hr,hR⟩
end Go.Proofs.YthajilkjfkppoaaGreatDoor
namespace Go.Proofs.YthajilkjfkppoaaGreatDoor
open Go.RowKit
set_option linter.unusedVariables false
set_option linter.unusedSimpArgs false
section
variable {P:Program} {ops:Array Oper} {Q:Exit→Act→World→Prop} {a:Act} {w:World} {rest:List Oper} {o:Oper}
theorem wpList_take {v:Value} (hw:Region.wanted o (yielded ops a.tmps)=true) (hv:(execOp a.eval o).run P w= .ok (.value v) w) (h:wpList P ops Q rest (a.put o.dst v) w):wpList P ops Q (o::rest) a w:=by
 unfold wpList
 rw[if_pos hw]
 refine .inl ?_
 simp only[Oper.wp,hv,Oper.upon]
 exact h
theorem wpList_skip (hw:Region.wanted o (yielded ops a.tmps)=false) (h:wpList P ops Q rest (a.put o.dst undef) w):wpList P ops Q (o::rest) a w:=by
 unfold wpList
 rw[if_neg (by rw[hw];exact Bool.false_ne_true)]
 exact h
theorem sq {o1 o2 o3 o4 o5 o6} {v:Value} {a':Act} (h:wpList P ops Q rest a' w)
 (hw:Region.wanted (Oper.mk o1 o2 o3 o4 o5 o6) (yielded ops a.tmps)=true:=by rfl)
 (hv:(execOp a.eval (Oper.mk o1 o2 o3 o4 o5 o6)).run P w= .ok (.value v) w:=by(go_simp;(try with_reducible rfl)))
 (he:a.put (Oper.mk o1 o2 o3 o4 o5 o6).dst v=a':=by((try simp only[Act.put,List.setIfInBounds_toArray,List.set_cons_zero,List.set_cons_succ]);(try with_reducible rfl))):
 wpList P ops Q (Oper.mk o1 o2 o3 o4 o5 o6::rest) a w:=by subst he;exact wpList_take hw hv h
theorem sm (x:Bool) {o1 o2 o3 o4 o5 o6} {v:Value} (hw:Region.wanted (Oper.mk o1 o2 o3 o4 o5 o6) (yielded ops a.tmps)=x) (hv:x=true→(execOp a.eval (Oper.mk o1 o2 o3 o4 o5 o6)).run P w= .ok (.value v) w)
 (h:∀ u:Value,(x=true→u=v)→wpList P ops Q rest (a.put (Oper.mk o1 o2 o3 o4 o5 o6).dst u) w):wpList P ops Q (Oper.mk o1 o2 o3 o4 o5 o6::rest) a w:=by
 cases x with
 |true=>exact wpList_take hw (hv rfl) (h v fun _=>rfl)
 |false=>exact wpList_skip hw (h undef fun e=>by cases e)
end
end Go.Proofs.YthajilkjfkppoaaGreatDoor
namespace Go.Proofs.YthajilkjfkppoaaGreatDoor
end Go.Proofs.YthajilkjfkppoaaGreatDoor
