/- Texts of a proof. -/
import Derived.Test.YtbdbbdjifgpgeaaGreatB1
import Derived.Deep.QuietTactic
import Derived.BigQuiet
import Derived.OpenShut
import Derived.Deep.RegionHeld3
import Derived.Deep.OwnRows
set_option maxHeartbeats 16000000
set_option maxRecDepth 20000
namespace Go.Proofs.YtbdbbdjifgpgeaaGreat
open Go.RowKit
set_option linter.unusedVariables false
def Rd (w:World) (rb p:Nat):Prop:=∃ (a:Option Addr) (len cap:Nat),w.cell? ⟨rb,0,none⟩=some (.slice a len cap)∧w.cell? ⟨rb,1,none⟩=some (.int .i64 (p:Int))∧w.frozen? ⟨rb,1,none⟩=false∧len≤2000∧
 (len=0∨∃ b off,a=some ⟨b,off,none⟩∧b<rb∧∀ i,i<len→∃ z:Int,w.cell? ⟨b,off+i,none⟩=some (.int .u8 z)∧0≤z∧z≤255)
theorem Rd.lt {w:World} {rb p:Nat} (h:Rd w rb p):rb<w.heap.size:=by
 obtain⟨a,len,cap,c0,_⟩:=h;exact cell_lt c0
theorem Rd.below {w w':World} {rb p:Nat} (h:Rd w rb p) (k:Below w.heap.size w w'):Rd w' rb p:=by
 have hl:=h.lt
 obtain⟨a,len,cap,c0,c1,f1,hle,hz⟩:=h
 refine⟨a,len,cap,by rw[k.cell hl];exact c0,by rw[k.cell hl];exact c1,by rw[k.frozen hl];exact f1,hle,?_⟩
 rcases hz with hz|⟨b,off,ha,hb,hz⟩
 · exact .inl hz
 · refine .inr ⟨b,off,ha,hb,fun i hi=> ?_⟩
   obtain⟨z,hz,r⟩:=hz i hi
   exact⟨z,by rw[k.cell (cell_lt hz)];exact hz,r⟩
theorem Rd.step {w:World} {rb p:Nat} (h:Rd w rb p) (m:Nat) (q:Nat):Rd ((w.setCell ⟨rb,1,none⟩ (.int .i64 (q:Int))).drewN m) rb q:=by
 obtain⟨a,len,cap,c0,c1,f1,hle,hz⟩:=h
 refine⟨a,len,cap,?_,?_,?_,hle,?_⟩
 · rw[World.cell?_drewN,cset_other (by simp)];exact c0
 · rw[World.cell?_drewN,cset_same c1]
 · simpa using f1
 rcases hz with hz|⟨b,off,ha,hb,hz⟩
 · exact .inl hz
 · refine .inr ⟨b,off,ha,hb,fun i hi=> ?_⟩
   obtain⟨z,hz,r⟩:=hz i hi
   exact⟨z,by rw[World.cell?_drewN,cset_far (Nat.ne_of_lt hb)];exact hz,r⟩
theorem pick_any (rb p:Nat) (n:Int) (w:World) (hr:Rd w rb p) (hp:p≤1000000) (h0:1≤n) (h1:n≤4000000000):
 Calls Tryz.prog 13 #[.pointer (some ⟨rb,0,none⟩),.int .i64 n] w fun e w'=>∃ v:Int,e= .returned (.int .i64 v)∧0≤v∧v<n∧Rd w' rb (p+1)∧But rb w w':=by
 have hr':=hr
 obtain⟨a,len,cap,c0,c1,f1,hle,hz⟩:=hr
 have e0:(w.setCell ⟨rb,1,none⟩ (.int .i64 ((p:Int)+1))).cell? ⟨rb,0,none⟩=some (.slice a len cap):=by rw[cset_other (by simp)];exact c0
 have e1:(w.setCell ⟨rb,1,none⟩ (.int .i64 ((p:Int)+1))).cell? ⟨rb,1,none⟩=some (.int .i64 ((p:Int)+1)):=cset_same c1
 have fin:∀ m,Rd ((w.setCell ⟨rb,1,none⟩ (.int .i64 ((p:Int)+1))).drewN m) rb (p+1)∧But rb w ((w.setCell ⟨rb,1,none⟩ (.int .i64 ((p:Int)+1))).drewN m):=
  fun m=>⟨hr'.step m (p+1),((But.refl rb w).setCell rfl _).drewN m⟩
 have FIN:Hid (∀ m,Rd ((w.setCell ⟨rb,1,none⟩ (.int .i64 ((p:Int)+1))).drewN m) rb (p+1)∧But rb w ((w.setCell ⟨rb,1,none⟩ (.int .i64 ((p:Int)+1))).drewN m)):=fin
 clear fin hr'
 rcases Nat.eq_zero_or_pos len with hl|hl
 · subst hl
   clear hz
   have hd:decide (n<1)=false:=by simp;omega
   go_enter Tryz.func13,Tryz.ntmps13
   go_wp2
   go_ret
   exact⟨0,rfl,by omega,by omega,FIN.out 0⟩
 · obtain⟨b,off,rfl,hb,hz⟩:∃ b off,a=some ⟨b,off,none⟩∧b<rb∧∀ i,i<len→∃ z:Int,w.cell? ⟨b,off+i,none⟩=some (.int .u8 z)∧0≤z∧z≤255:=by
    rcases hz with hz|hz
    · omega
    · exact hz
   have hd:decide (n<1)=false:=by simp;omega
   have hln:((len:Int)==0)=false:=by simp;omega
   by_cases hk:p<len
   · obtain⟨z,hc,z0,z1⟩:=hz p hk
     clear hz
     have e2:(w.setCell ⟨rb,1,none⟩ (.int .i64 ((p:Int)+1))).cell? ⟨b,off+p,none⟩=some (.int .u8 z):=by rw[cset_far (Nat.ne_of_lt hb)];exact hc
     go_enter Tryz.func13,Tryz.ntmps13
     go_wp2
     go_ret
     exact⟨_,rfl,Int.emod_nonneg _ (by omega),Int.emod_lt_of_pos _ (by omega),FIN.out 0⟩
   · obtain⟨i,hi,hil⟩:∃ i:Nat,(p:Int) % (len:Int)=(i:Int)∧i<len:=⟨p % len,by omega,Nat.mod_lt _ hl⟩
     obtain⟨j,hj,hjl⟩:∃ j:Nat,((p:Int)*7+3) % (len:Int)=(j:Int)∧j<len:=⟨(p*7+3) % len,by rw[show (p:Int)*7+3=((p*7+3:Nat):Int) by omega];rfl,Nat.mod_lt _ hl⟩
     obtain⟨d,hd',hdl⟩:∃ d:Nat,(p:Int)/(len:Int)=(d:Int)∧d≤p:=⟨p/len,by omega,Nat.div_le_self _ _⟩
     obtain⟨z,hc,z0,z1⟩:=hz i hil
     obtain⟨y,hcy,y0,y1⟩:=hz j hjl
     clear hz
     have e2:(w.setCell ⟨rb,1,none⟩ (.int .i64 ((p:Int)+1))).cell? ⟨b,off+i,none⟩=some (.int .u8 z):=by rw[cset_far (Nat.ne_of_lt hb)];exact hc
     have e3:(w.setCell ⟨rb,1,none⟩ (.int .i64 ((p:Int)+1))).cell? ⟨b,off+j,none⟩=some (.int .u8 y):=by rw[cset_far (Nat.ne_of_lt hb)];exact hcy
     go_enter Tryz.func13,Tryz.ntmps13
     go_wp2
     go_quiet (fail)
     go_wp2
     go_ret
     exact⟨_,rfl,Int.tmod_nonneg _ (xor_nonneg (by omega) (by omega) (by omega) (by omega)),Int.tmod_lt_of_pos _ (by omega),FIN.out _⟩
theorem Rd.alloc {w:World} {rb p:Nat} (h:Rd w rb p) (o:Obj):Rd (w.alloc o) rb p:=h.below ((Below.refl _ _).alloc (Nat.le_refl _) o)
theorem one_any (rb p lb len cap:Nat) (xs:List Int) (w:World) (hr:Rd w rb p) (hp:p≤1000000) (hl:xs.length=len) (h0:1≤len) (h1:len≤100) (hb:lb≠rb) (hc:∀ i,i<len→w.cell? ⟨lb,i,none⟩=some (.int .i64 (xs.getD i 0))):
 Calls Tryz.prog 45 #[.pointer (some ⟨rb,0,none⟩),.slice (some ⟨lb,0,none⟩) len cap] w fun e w'=>∃ v:Int,e= .returned (.int .i64 v)∧v∈xs∧Rd w' rb (p+1)∧But rb w w':=by
 go_enter Tryz.func45,Tryz.ntmps45
 go_wp2_with (go_at_call 13;refine(pick_any rb p _ _ hr hp (by omega) (by omega)).mono ?_;rintro e w1 ⟨v,rfl,v0,v1,hr1,hbut⟩;obtain⟨j,rfl⟩:=Int.eq_ofNat_of_zero_le v0;have hcj:=(hbut.cell (p:=⟨lb,j,none⟩) (cell_lt (hc j (by omega))) hb).trans (hc j (by omega)))
 go_ret
 exact⟨_,rfl,by rw[List.getElem?_eq_getElem (show j<xs.length by omega)];simp,hr1,hbut⟩
def AllBd (lo hi:Int):List Value→Prop
 | []=>True
 |c::r=>(∃ z:Int,c= .int .i64 z∧lo≤z∧z≤hi)∧AllBd lo hi r
theorem AllBd.get {lo hi:Int}:∀ {l:List Value},AllBd lo hi l→∀ i,i<l.length→∃ z:Int,l[i]? =some (.int .i64 z)∧lo≤z∧z≤hi
 |c::r,h,0,_=>by obtain⟨z,rfl,h1,h2⟩:=h.1;exact⟨z,rfl,h1,h2⟩
 |c::r,h,i+1,hi'=>by simpa using AllBd.get h.2 i (by simpa using hi')
theorem AllBd.cons {lo hi z:Int} {r:List Value} (h1:lo≤z) (h2:z≤hi) (h:AllBd lo hi r):AllBd lo hi (.int .i64 z::r):=⟨⟨z,rfl,h1,h2⟩,h⟩
theorem AllBd.nil {lo hi:Int}:AllBd lo hi []:=trivial
theorem one_bd (lo hi:Int) (rb p len cap:Nat) (cs:Array Value) (t:TypeId) (w:World) (hr:Rd w rb p) (hp:p≤1000000) (hcs:AllBd lo hi cs.toList) (hl:cs.size=len) (h0:1≤len) (h1:len≤100):
 Calls Tryz.prog 45 #[.pointer (some ⟨rb,0,none⟩),.slice (some ⟨w.heap.size,0,none⟩) len cap] (w.alloc (.cells cs t)) fun e w'=>∃ v:Int,e= .returned (.int .i64 v)∧lo≤v∧v≤hi∧Rd w' rb (p+1)∧But rb w w':=by
 have hlt:=hr.lt
 have hx:∀ i,i<len→∃ z:Int,cs[i]? =some (.int .i64 z)∧lo≤z∧z≤hi:=fun i hi=>by
  have:=hcs.get i (by simpa [hl] using hi);simpa using this
 have hcell:∀ i:Nat,(w.alloc (.cells cs t)).cell? ⟨w.heap.size,i,none⟩=cs[i]? :=fun i=>World.cell?_alloc_mark w cs t (0,0) i
 refine(one_any rb p w.heap.size len cap (cs.toList.map intOf) _ (hr.alloc _) hp (by simpa using hl) h0 h1 (by omega) ?_).mono ?_
 · intro i hi
   obtain⟨z,hz,_⟩:=hx i hi
   rw[hcell,hz]
   simp[hz,intOf]
 · rintro e w' ⟨v,rfl,hv,hr',hb'⟩
   refine⟨v,rfl,?_,?_,hr',((But.refl rb w).alloc _).trans hb'⟩
   all_goals
    obtain⟨c,hc,rfl⟩:=List.mem_map.1 hv
    obtain⟨i,hi,rfl⟩:=List.getElem_of_mem hc
    obtain⟨z,hz,a,b⟩:=hcs.get i hi
    rw[List.getElem?_eq_getElem hi] at hz
    injection hz with hz
    rw[hz];assumption
theorem l1Open_any (a:Option Addr) (len cap:Nat) (w:World) (hcap:len≤cap)
 (hz:len=0∨∃ b off,a=some ⟨b,off,none⟩∧∀ i,i<len→∃ z:Int,w.cell? ⟨b,off+i,none⟩=some (.int .u8 z)∧0≤z∧z≤255):
 Calls Tryz.prog 11 #[.slice a len cap] w fun e w'=>e= .returned (.pointer (some ⟨w.heap.size,0,none⟩))∧Rd w' w.heap.size 0∧Below w.heap.size w w':=by
 have fin:∀ (len' cap':Nat),len'≤len→len'≤2000→Rd (w.alloc (.cells #[.slice a len' cap',.int .i64 0] 57)) w.heap.size 0:=by
  intro len' cap' hl h2
  refine⟨a,len',cap',?_,?_,?_,h2,?_⟩
  · go_simp
  · go_simp
  · go_simp
  rcases hz with hz|⟨b,off,ha,hz⟩
  · exact .inl (by omega)
  · rcases Nat.eq_zero_or_pos len' with h|h
    · exact .inl h
    · obtain⟨z,hc,_⟩:=hz 0 (by omega)
      have hlt:=cell_lt hc
      refine .inr ⟨b,off,ha,hlt,fun i hi=> ?_⟩
      obtain⟨z,hz,r⟩:=hz i (by omega)
      exact⟨z,by rw[calloc_old (cell_lt hz)];exact hz,r⟩
 have FIN:=fin
 clear fin
 by_cases h:2000<len
 · go_enter Tryz.func11,Tryz.ntmps11
   go_wp2
   go_ret
   exact⟨rfl,FIN _ _ (by omega) (by omega),(Below.refl _ _).alloc (Nat.le_refl _) _⟩
 · go_enter Tryz.func11,Tryz.ntmps11
   go_wp2
   go_ret
   exact⟨rfl,FIN _ _ (by omega) (by omega),(Below.refl _ _).alloc (Nat.le_refl _) _⟩
def RB (w0 w:World) (rb p:Nat):Prop:=∃ q,q≤p∧Rd w rb q∧But rb w0 w
theorem RB.mono {w0 w:World} {rb p p':Nat} (h:RB w0 w rb p) (k:p≤p'):RB w0 w rb p':=by
 obtain⟨q,a,b⟩:=h;exact⟨q,by omega,b⟩
theorem RB.start {w:World} {rb p:Nat} (h:Rd w rb p):RB w w rb p:=⟨p,Nat.le_refl _,h,But.refl _ _⟩
theorem RB.alloc {w0 w:World} {rb p:Nat} (h:RB w0 w rb p) (o:Obj):RB w0 (w.alloc o) rb p:=by
 obtain⟨q,a,b,c⟩:=h;exact⟨q,a,b.alloc o,c.alloc o⟩
theorem RB.below {w0 w w':World} {rb p:Nat} (h:RB w0 w rb p) (k:Below w.heap.size w w'):RB w0 w' rb p:=by
 obtain⟨q,a,b,c⟩:=h;exact⟨q,a,b.below k,c.trans (But.of_below k)⟩
theorem RB.lt {w0 w:World} {rb p:Nat} (h:RB w0 w rb p):rb<w.heap.size:=by
 obtain⟨q,a,b,c⟩:=h;exact b.lt
theorem RB.old {w0 w:World} {rb p:Nat} (h:RB w0 w rb p) {B:Nat} (hB:B≤rb) (hB':B≤w0.heap.size):Below B w0 w:=by
 obtain⟨q,a,b,c⟩:=h;exact c.below hB hB'
theorem pick_rb (w0:World) (rb p:Nat) (n:Int) (w:World) (hr:RB w0 w rb p) (hp:p≤999000) (h0:1≤n) (h1:n≤4000000000):
 Calls Tryz.prog 13 #[.pointer (some ⟨rb,0,none⟩),.int .i64 n] w fun e w'=>∃ v:Int,e= .returned (.int .i64 v)∧0≤v∧v<n∧RB w0 w' rb (p+1):=by
 obtain⟨q,a,b,c⟩:=hr
 refine(pick_any rb q n w b (by omega) h0 h1).mono ?_
 rintro e w' ⟨v,rfl,v0,v1,hr',hb'⟩
 exact⟨v,rfl,v0,v1,q+1,by omega,hr',c.trans hb'⟩
theorem one_rb (lo hi:Int) (w0:World) (rb p len cap:Nat) (cs:Array Value) (t:TypeId) (w:World) (hr:RB w0 w rb p) (hp:p≤999000) (hcs:AllBd lo hi cs.toList) (hl:cs.size=len) (h0:1≤len) (h1:len≤100):
 Calls Tryz.prog 45 #[.pointer (some ⟨rb,0,none⟩),.slice (some ⟨w.heap.size,0,none⟩) len cap] (w.alloc (.cells cs t)) fun e w'=>∃ v:Int,e= .returned (.int .i64 v)∧lo≤v∧v≤hi∧RB w0 w' rb (p+1):=by
 obtain⟨q,a,b,c⟩:=hr
 refine(one_bd lo hi rb q len cap cs t w b (by omega) hcs hl h0 h1).mono ?_
 rintro e w' ⟨v,rfl,v0,v1,hr',hb'⟩
 exact⟨v,rfl,v0,v1,q+1,by omega,hr',c.trans hb'⟩
def Bytes (w:World) (a:Option Addr) (len cap:Nat):Prop:=
 len≤cap∧(len=0∨∃ b off,a=some ⟨b,off,none⟩∧∀ i,i<len→∃ z:Int,w.cell? ⟨b,off+i,none⟩=some (.int .u8 z)∧0≤z∧z≤255)
theorem Bytes.below {w w':World} {a:Option Addr} {len cap:Nat} (h:Bytes w a len cap) (k:Below w.heap.size w w'):Bytes w' a len cap:=by
 refine⟨h.1,?_⟩
 rcases h.2 with h|⟨b,off,ha,hz⟩
 · exact .inl h
 · refine .inr ⟨b,off,ha,fun i hi=> ?_⟩
   obtain⟨z,hz,r⟩:=hz i hi
   exact⟨z,by rw[k.cell (cell_lt hz)];exact hz,r⟩
theorem Bytes.nil (w:World):Bytes w none 0 0:=⟨Nat.le_refl _,.inl rfl⟩
theorem Bytes.of {w:World} {x:Addr} {len cap:Nat} {zs:List Int} (hl:len≤cap) (hz:zs.length=cap) (hcell:∀ i,i<zs.length→w.cell? (x.add i)=some (.int .u8 (zs.getD i 0))) (hwz:∀ n∈zs,(Lit.int .u8 n).wf=true):Bytes w (some x) len cap:=by
 refine⟨hl,?_⟩
 rcases Nat.eq_zero_or_pos len with h|h
 · exact .inl h
 · obtain⟨b,off,spot⟩:=x
   have hc:=hcell 0 (by omega)
   have hspot:spot=none:=by simpa [Addr.add] using World.cell?_spot hc
   subst hspot
   refine .inr ⟨b,off,rfl,fun i hi=>⟨zs[i]?.getD 0,?_,(range_u8 hwz i).1,(range_u8 hwz i).2⟩⟩
   have h:=hcell i (by omega)
   by_cases h0:i=0
   · subst h0;simpa [Addr.add] using h
   · simpa [Addr.add,h0] using h
theorem l1Open_rb (a:Option Addr) (len cap:Nat) (w:World) (hb:Bytes w a len cap):
 Calls Tryz.prog 11 #[.slice a len cap] w fun e w'=>e= .returned (.pointer (some ⟨w.heap.size,0,none⟩))∧RB w' w' w.heap.size 0∧Below w.heap.size w w':=
 (l1Open_any a len cap w hb.1 hb.2).mono fun _ _ ⟨h1,h2,h3⟩=>⟨h1,RB.start h2,h3⟩
theorem RB.done {w w0 w':World} {p:Nat} (k:Below w.heap.size w w0) (h:RB w0 w' w.heap.size p):Below w.heap.size w w':=
 k.trans (h.old (Nat.le_refl _) k.size)
theorem Rd.setNew {w:World} {rb p:Nat} (h:Rd w rb p) {a:Addr} (ha:rb<a.block) (v:Value):Rd (w.setCell a v) rb p:=by
 obtain⟨s,len,cap,c0,c1,f1,hle,hz⟩:=h
 refine⟨s,len,cap,?_,?_,?_,hle,?_⟩
 · rw[cset_far (Nat.ne_of_lt ha)];exact c0
 · rw[cset_far (Nat.ne_of_lt ha)];exact c1
 · rw[fset_far (Nat.ne_of_lt ha)];exact f1
 rcases hz with hz|⟨b,off,e,hb,hz⟩
 · exact .inl hz
 · refine .inr ⟨b,off,e,hb,fun i hi=> ?_⟩
   obtain⟨z,hz,r⟩:=hz i hi
   exact⟨z,by rw[cset_far (by show b≠a.block;omega)];exact hz,r⟩
theorem RB.setNew {w0 w:World} {rb p:Nat} (h:RB w0 w rb p) {a:Addr} (ha:rb<a.block) (h0:w0.heap.size≤a.block) (v:Value):RB w0 (w.setCell a v) rb p:=by
 obtain⟨q,k,b,c⟩:=h
 exact⟨q,k,b.setNew ha v,⟨c.os,c.tape,c.output,by simpa [World.setCell] using c.size,fun k hk hn=>(Below.heap_setCell _ _ _ _ (by omega)).trans (c.block k hk hn)⟩⟩
theorem RB.cells {w0 w:World} {rb p:Nat} (h:RB w0 w rb p):(∀ b o,b<w0.heap.size→b≠rb→w.cell? ⟨b,o,none⟩=w0.cell? ⟨b,o,none⟩)∧(∀ b o,b<w0.heap.size→b≠rb→w.frozen? ⟨b,o,none⟩=w0.frozen? ⟨b,o,none⟩):=by
 obtain⟨q,k,b,c⟩:=h
 exact⟨fun b o hb hn=>c.cell (p:=⟨b,o,none⟩) hb hn,fun b o hb hn=>c.frozen (p:=⟨b,o,none⟩) hb hn⟩
end Go.Proofs.YtbdbbdjifgpgeaaGreat
namespace Go.Proofs.YtbdbbdjifgpgeaaGreat
open Go.RowKit
set_option linter.unusedVariables false
section
variable {P:Program} {md:Region.Mode} {ops:Array Oper} {Q:Exit→Act→World→Prop} {S:World→Prop}
theorem tq (i:Nat) {o1 o2 o3 o4 o5 o6} {v:Value} {fuel:Nat} {listed:Array Bool} {a a':Act} {w:World} (hS:S w)
 (h:wpAnyH P md ops Q S fuel (listed.setIfInBounds i true) a' w)
 (hi:ops[i]? =some (Oper.mk o1 o2 o3 o4 o5 o6):=by rfl)
 (hc:(Region.noSelect ops&&(Region.free md ops listed i&&(Region.ready md ops listed).contains i))=true:=by kernel_rfl)
 (hQ:∀ c a w,Q (.panic c) (a.put (Oper.mk o1 o2 o3 o4 o5 o6).dst v) w→Q (.panic c) a w:=by exact fun _ _ _ h=>h)
 (hw:Region.wanted (Oper.mk o1 o2 o3 o4 o5 o6) (yielded ops a.tmps)=true:=by rfl)
 (hv:∀ w,S w→(execOp a.eval (Oper.mk o1 o2 o3 o4 o5 o6)).run P w= .ok (.value v) w:=by(intro w s;(try dsimp only at s);go_simp;(try with_reducible rfl)))
 (he:a.put (Oper.mk o1 o2 o3 o4 o5 o6).dst v=a':=by((try simp only[Act.put,List.setIfInBounds_toArray,List.set_cons_zero,List.set_cons_succ]);(try with_reducible rfl))):
 wpAnyH P md ops Q S (fuel+1) listed a w:=by
 subst he
 simp only[Bool.and_eq_true] at hc
 exact wpAnyH_take hi hc.1 hc.2.1 hc.2.2 hQ (.inl ⟨hw,hv⟩) hS h
theorem tn (i:Nat) {o1 o2 o3 o4 o5 o6} {fuel:Nat} {listed:Array Bool} {a a':Act} {w:World} (hS:S w)
 (h:wpAnyH P md ops Q S fuel (listed.setIfInBounds i true) a' w)
 (hi:ops[i]? =some (Oper.mk o1 o2 o3 o4 o5 o6):=by rfl)
 (hc:(Region.noSelect ops&&(Region.free md ops listed i&&(Region.ready md ops listed).contains i))=true:=by kernel_rfl)
 (hQ:∀ c a w,Q (.panic c) (a.put (Oper.mk o1 o2 o3 o4 o5 o6).dst undef) w→Q (.panic c) a w:=by exact fun _ _ _ h=>h)
 (hw:Region.wanted (Oper.mk o1 o2 o3 o4 o5 o6) (yielded ops a.tmps)=false:=by rfl)
 (he:a.put (Oper.mk o1 o2 o3 o4 o5 o6).dst undef=a':=by((try simp only[Act.put,List.setIfInBounds_toArray,List.set_cons_zero,List.set_cons_succ]);(try with_reducible rfl))):
 wpAnyH P md ops Q S (fuel+1) listed a w:=by
 subst he
 simp only[Bool.and_eq_true] at hc
 exact wpAnyH_take hi hc.1 hc.2.1 hc.2.2 hQ (.inr ⟨hw,rfl⟩) hS h
end
section
variable {P:Program} {md:Region.Mode} {ops:Array Oper} {Q:Exit→Act→World→Prop} {S:World→Prop}
theorem tc (i:Nat) {o1 o2 o3 o4 o5 o6} {fuel:Nat} {listed:Array Bool} {a:Act} {w:World}
 (h:∀ K':Act→World→Prop,Shut (∀ a w,S w→(S w→wpAnyH P md ops Q S fuel (listed.setIfInBounds i true) a w)→K' a w)→if Region.wanted (Oper.mk o1 o2 o3 o4 o5 o6) (yielded ops a.tmps)=true then Oper.wp P (Oper.mk o1 o2 o3 o4 o5 o6) a w K' Q else K' (a.put (Oper.mk o1 o2 o3 o4 o5 o6).dst undef) w)
 (hr:Region.ready md ops listed=[i]:=by kernel_rfl)
 (hi:ops[i]? =some (Oper.mk o1 o2 o3 o4 o5 o6):=by rfl):
 wpAnyH P md ops Q S (fuel+1) listed a w:=wpAnyH_ready hr (by simp) (AllReadyH.cons hi h AllReadyH.nil)
theorem tr {K:Act→World→Prop} {fuel:Nat} {listed:Array Bool} (hK:Shut (∀ a w,S w→(S w→wpAnyH P md ops Q S fuel listed a w)→K a w)) {a a':Act} {w:World}
 (h:S w→wpAnyH P md ops Q S fuel listed a' w)
 (hS:S w:=by((try dsimp only);(first|(go_simp;done)|(go_keep;done))))
 (he:a=a':=by((try simp only[Act.put,List.setIfInBounds_toArray,List.set_cons_zero,List.set_cons_succ]);(try with_reducible rfl))):K a w:=by
 subst he
 exact hK.out _ _ hS h
end
end Go.Proofs.YtbdbbdjifgpgeaaGreat
namespace Go.Proofs.YtbdbbdjifgpgeaaGreat
open Go.RowKit
set_option linter.unusedVariables false
set_option linter.unusedSimpArgs false
def Flat (w:World) (a:Option Addr) (m:Nat) (U:Nat→Int):Prop:=
 0<m→∃ b o,a=some ⟨b,o,none⟩∧b<w.heap.size∧∀ q,q<m→w.cell? ⟨b,o+q,none⟩=some (.int .i64 (U q))
theorem Flat.below {w w':World} {a:Option Addr} {m:Nat} {U:Nat→Int} (h:Flat w a m U) (hb:Below w.heap.size w w'):Flat w' a m U:=by
 intro h0
 obtain⟨b,o,e,l,c⟩:=h h0
 exact⟨b,o,e,Nat.lt_of_lt_of_le l hb.size,fun q hq=>(hb.cell (p:=⟨b,o+q,none⟩) l).trans (c q hq)⟩
theorem Flat.nil {w:World} {a:Option Addr} {U:Nat→Int}:Flat w a 0 U:=fun h=>absurd h (Nat.lt_irrefl 0)
def Row (w:World) (b:Nat) (t:TypeId) (m:Nat) (U:Nat→Int):Prop:=w.rowIs b t m (fun q=> .int .i64 (U q))
theorem Row.flat {w:World} {b t m:Nat} {U:Nat→Int} (h:Row w b t m U):Flat w (some ⟨b,0,none⟩) m U:=by
 intro _
 exact⟨b,0,rfl,World.rowIs.lt h,fun q hq=>by rw[Nat.zero_add];exact World.rowIs.cell h hq⟩
theorem Row.cell {w:World} {b t m:Nat} {U:Nat→Int} (h:Row w b t m U) {q:Nat} (hq:q<m):w.cell? ⟨b,q,none⟩=some (.int .i64 (U q)):=World.rowIs.cell h hq
theorem Row.fro {w:World} {b t m:Nat} {U:Nat→Int} (h:Row w b t m U) (q:Nat):w.frozen? ⟨b,q,none⟩=false:=World.rowIs.frozen h q
theorem Row.lt {w:World} {b t m:Nat} {U:Nat→Int} (h:Row w b t m U):b<w.heap.size:=World.rowIs.lt h
theorem Row.congr {w:World} {b t m:Nat} {U V:Nat→Int} (h:Row w b t m U) (e:∀ q,q<m→U q=V q):Row w b t m V:=World.rowIs.congr h fun q hq=>by simp only[e q hq]
theorem Row.below {w w':World} {b t m:Nat} {U:Nat→Int} (h:Row w b t m U) (hb:Below w.heap.size w w'):Row w' b t m U:=World.rowIs.of_block h (hb.block _ h.lt)
theorem Row.set {w:World} {b t m:Nat} {U:Nat→Int} (h:Row w b t m U) (i:Nat) (v:Int):Row (w.setCell ⟨b,i,none⟩ (.int .i64 v)) b t m (fun q=>if q=i then v else U q):=
 World.rowIs.congr (World.rowIs.set h i (.int .i64 v)) fun q _=>by by_cases e:q=i<;>simp[e]
theorem Row.alloc {w:World} {b t m:Nat} {U:Nat→Int} (h:Row w b t m U) (o:Obj):Row (w.alloc o) b t m U:=World.rowIs.alloc h o
theorem Row.drew {w:World} {b t m:Nat} {U:Nat→Int} (h:Row w b t m U):Row w.drew b t m U:=h
theorem Row.made (w:World) (z:Array Value) (m:Nat) (t:TypeId) (hz:∀ q,q<z.size→z[q]? =some (.int .i64 0)) (h0:0<z.size):Row (w.alloc (.cells (madeCells z m) t)) w.heap.size t m (fun _=>0):=by
 refine⟨_,Go.Deep.blk_alloc_new _ _,size_madeCells _ _,fun i hi=> ?_⟩
 have hlt:i % z.size<z.size:=Nat.mod_lt _ h0
 have h:=hz _ hlt
 rw[Array.getElem?_eq_getElem hlt] at h
 simp only[Option.some.injEq] at h
 simp[madeCells,hi,hlt,h]
theorem make_rows {P:Program} (t e:TypeId) (z:Value) (k bytes:Nat) (ht:P.underlying t=some (.slice e)) (hinfo:(P.info? e).map (fun i=>(i.zero,i.size,i.bytes))=some (some z,k,bytes))
 (kl kc:IntKind) (n:Nat) (hbytes:bytes*n≤281474976710656) (h63:n≤9223372036854775807) (w:World):
 (Instr.makeSlice t (.int kl (n:Int)) (.int kc (n:Int))).run P w= .ok (.slice (some ⟨w.heap.size,0,none⟩) n n) (w.alloc (.cells (madeCells z.cells (n*k)) e)):=by
 obtain⟨i,hi,hzz⟩:=Option.map_eq_some_iff.1 hinfo
 simp only[Prod.mk.injEq] at hzz
 obtain⟨hz,hs,hb⟩:=hzz
 have hb':(i.bytes:Int)*(n:Int)≤281474976710656:=by
  have h:((i.bytes*n:Nat):Int)≤281474976710656:=by rw[hb];omega
  rwa [Int.natCast_mul] at h
 have hr:=run_make (P:=P) w t e i z ht hi hz kl kc n n (by omega) (Int.le_refl _) hb' (by omega)
 simp only[Int.toNat_natCast,hs] at hr
 exact hr
abbrev upto (p:Nat) (U:Nat→Int):Nat→Int:=fun q=>if q<p then U q else 0
theorem Row.next {w:World} {b t m p:Nat} {U:Nat→Int} (h:Row w b t m (upto p U)):Row (w.setCell ⟨b,p,none⟩ (.int .i64 (U p))) b t m (upto (p+1) U):=
 (h.set p (U p)).congr fun q _=>by
   by_cases e:q=p
   · subst e;simp[upto]
   · simp only[upto,if_neg e]
     by_cases l:q<p
     · rw[if_pos l,if_pos (by omega)]
     · rw[if_neg l,if_neg (by omega)]
theorem Row.zero {w:World} {b t m:Nat} {U:Nat→Int} (h:Row w b t m (fun _=>0)):Row w b t m (upto 0 U):=h.congr fun q hq=>by simp[upto]
theorem Row.cut {w:World} {b t m p r:Nat} {U:Nat→Int} (h:Row w b t m (upto p U)) (e:p=r):Row w b t m (upto r U):=e▸h
end Go.Proofs.YtbdbbdjifgpgeaaGreat
