/- Texts of a proof. -/
import Derived.Test.YtpmjnpmnocjjgaaGreatDoorRows
import Derived.WalkKit
import Derived.WalkSpells
import Derived.WalkLawsBesides
import Derived.OrdersHeld
import Derived.Deep.QuietTactic
import Derived.BigQuiet
import Derived.OpenShut
set_option maxHeartbeats 16000000
set_option maxRecDepth 20000
namespace Go.Proofs.YtpmjnpmnocjjgaaGreatDoor
theorem mul_bd {a b A B:Int} (ha: -A≤a∧a≤A) (hb: -B≤b∧b≤B): -(A*B)≤a*b∧a*b≤A*B:=by
 have h1:=Int.mul_nonneg (show 0≤A-a by omega) (show 0≤B+b by omega)
 have h2:=Int.mul_nonneg (show 0≤A+a by omega) (show 0≤B-b by omega)
 have h3:=Int.mul_nonneg (show 0≤A-a by omega) (show 0≤B-b by omega)
 have h4:=Int.mul_nonneg (show 0≤A+a by omega) (show 0≤B+b by omega)
 simp only[Int.mul_add,Int.add_mul,Int.sub_mul,Int.mul_sub] at h1 h2 h3 h4
 omega
def clampZ (l n:Int):Int:=if n< -l then-l else if l<n then l else n
theorem clampZ_bd {l:Int} (n:Int) (h:0≤l): -l≤clampZ l n∧clampZ l n≤l:=by
 unfold clampZ;split
 · omega
 · split<;>omega
theorem clampZ_id {l n:Int} (h1: -l≤n) (h2:n≤l):clampZ l n=n:=by
 unfold clampZ;rw[if_neg (by omega),if_neg (by omega)]
def FM:Int:=1000000000
def fc (n:Int):Int:=clampZ 1000000000 n
theorem fc_bd (n:Int): -1000000000≤fc n∧fc n≤1000000000:=clampZ_bd n (by decide)
theorem fc_id {n:Int} (h1: -1000000000≤n) (h2:n≤1000000000):fc n=n:=clampZ_id h1 h2
theorem fc_fc (n:Int):fc (fc n)=fc n:=fc_id (fc_bd n).1 (fc_bd n).2
def fmul (a b:Int):Int:=fc ((fc a*fc b).tdiv 256)
def fdiv (a b:Int):Int:=if fc b=0 then fc (fc a*1000000000) else fc ((fc a*256).tdiv (fc b))
def IsRoot (n r:Int):Prop:=0≤r∧r*r≤n∧n<(r+1)*(r+1)
theorem sq_mono {a b:Int} (h0:0≤a) (h:a≤b):a*a≤b*b:=Int.mul_le_mul h h h0 (by omega)
theorem IsRoot.uniq {n r s:Int} (h:IsRoot n r) (k:IsRoot n s):r=s:=by
 obtain⟨a0,a1,a2⟩:=h
 obtain⟨b0,b1,b2⟩:=k
 rcases Int.lt_trichotomy r s with h|h|h
 · have:=sq_mono (show 0≤r+1 by omega) (show r+1≤s by omega);omega
 · exact h
 · have:=sq_mono (show 0≤s+1 by omega) (show s+1≤r by omega);omega
def rootN:Nat→Nat
 |0=>0
 |n+1=>if (rootN n+1)*(rootN n+1)≤n+1 then rootN n+1 else rootN n
theorem rootN_is (n:Nat):rootN n*rootN n≤n∧n<(rootN n+1)*(rootN n+1):=by
 induction n with
 |zero=>simp[rootN]
 | succ n ih=>
   obtain⟨h1,h2⟩:=ih
   unfold rootN
   split
   · refine⟨by assumption,?_⟩
     simp only[Nat.mul_add,Nat.add_mul] at*
     omega
   · exact⟨by omega,by omega⟩
def rootZ (n:Int):Int:=if n<0 then 0 else (rootN n.toNat:Int)
theorem rootZ_neg {n:Int} (h:n<0):rootZ n=0:=by unfold rootZ;rw[if_pos h]
theorem rootZ_is {n:Int} (h:0≤n):IsRoot n (rootZ n):=by
 have e:rootZ n=(rootN n.toNat:Int):=by unfold rootZ;rw[if_neg (by omega)]
 obtain⟨h1,h2⟩:=rootN_is n.toNat
 have k1:((rootN n.toNat*rootN n.toNat:Nat):Int)≤(n.toNat:Int):=by exact_mod_cast h1
 have k2:(n.toNat:Int)<(((rootN n.toNat+1)*(rootN n.toNat+1):Nat):Int):=by exact_mod_cast h2
 rw[Int.natCast_mul] at k1 k2
 rw[Int.natCast_add,Int.toNat_of_nonneg h] at k2
 rw[Int.toNat_of_nonneg h] at k1
 rw[e]
 exact⟨Int.natCast_nonneg _,k1,k2⟩
theorem rootZ_of {n r:Int} (h:IsRoot n r):rootZ n=r:=by
 have h0:0≤n:=by obtain⟨a,b,_⟩:=h;have:=Int.mul_nonneg a a;omega
 exact IsRoot.uniq (rootZ_is h0) h
theorem rootZ_nonneg (n:Int):0≤rootZ n:=by
 by_cases h:n<0
 · rw[rootZ_neg h];omega
 · exact(rootZ_is (by omega)).1
theorem rootZ_le {n B:Int} (hB:0≤B) (h:n<(B+1)*(B+1)):rootZ n≤B:=by
 by_cases h0:n<0
 · rw[rootZ_neg h0];exact hB
 · obtain⟨a,b,c⟩:=rootZ_is (show 0≤n by omega)
   rcases Int.lt_or_le B (rootZ n) with k|k
   · have:=sq_mono (show 0≤B+1 by omega) (show B+1≤rootZ n by omega);omega
   · exact k
theorem tdiv_bd {x B:Int} (m:Int) (h: -B≤x∧x≤B): -B≤x.tdiv m∧x.tdiv m≤B:=by
 have:=Int.natAbs_tdiv_le_natAbs x m;omega
def absZ (n:Int):Int:=if n<0 then-n else n
def fsqrt (n:Int):Int:=rootZ (fc n*256)
end Go.Proofs.YtpmjnpmnocjjgaaGreatDoor
namespace Go.Proofs.YtpmjnpmnocjjgaaGreatDoor
open Go.RowKit
set_option linter.unusedVariables false
theorem ret_int {k:IntKind} {a b:Int} (h:a=b):Ending.returned (.int k a)= .returned (.int k b):=by rw[h]
theorem ret_bool {a b:Bool} (h:a=b):Ending.returned (.bool a)= .returned (.bool b):=by rw[h]
theorem w64 {n:Int} (h: -9223372036854775808≤n∧n≤9223372036854775807):wrap64 n=n:=by unfold wrap64;omega
theorem cset_same {w:World} {a:Addr} {u v:Value} (h:w.cell? a=some u):(w.setCell a v).cell? a=some v:=World.cell?_setCell_same _ _ _ h
theorem cset_far {w:World} {p a:Addr} {v:Value} (h:a.block≠p.block):(w.setCell p v).cell? a=w.cell? a:=World.cell?_of_block (Below.heap_setCell _ _ _ _ h)
theorem cset_other {w:World} {p a:Addr} {v:Value} (h:p≠a):(w.setCell p v).cell? a=w.cell? a:=World.cell?_setCell_other _ _ _ _ h
theorem calloc_old {w:World} {a:Addr} {o:Obj} (h:a.block<w.heap.size):(w.alloc o).cell? a=w.cell? a:=World.cell?_of_block (Below.heap_alloc _ _ _ h)
theorem fset_far {w:World} {p a:Addr} {v:Value} (h:a.block≠p.block):(w.setCell p v).frozen? a=w.frozen? a:=World.frozen?_of_block (Below.heap_setCell _ _ _ _ h)
theorem cell_lt {w:World} {a:Addr} {v:Value} (h:w.cell? a=some v):a.block<w.heap.size:=by
 rcases Nat.lt_or_ge a.block w.heap.size with k|k
 · exact k
 · simp[World.cell?,Array.getElem?_eq_none k] at h
structure But (rb:Nat) (w w':World):Prop where
 os:w'.os=w.os
 tape:w'.tape=w.tape
 output:w'.output=w.output
 size:w.heap.size≤w'.heap.size
 block:∀ k,k<w.heap.size→k≠rb→w'.heap[k]? =w.heap[k]?
theorem But.refl (rb:Nat) (w:World):But rb w w:=⟨rfl,rfl,rfl,Nat.le_refl _,fun _ _ _=>rfl⟩
theorem But.trans {rb:Nat} {a b c:World} (h:But rb a b) (k:But rb b c):But rb a c:=
 ⟨k.os.trans h.os,k.tape.trans h.tape,k.output.trans h.output,Nat.le_trans h.size k.size,fun i hi hn=>(k.block i (Nat.lt_of_lt_of_le hi h.size) hn).trans (h.block i hi hn)⟩
theorem But.of_below {rb:Nat} {w w':World} (h:Below w.heap.size w w'):But rb w w':=⟨h.os,h.tape,h.output,h.size,fun k hk _=>h.block k hk⟩
theorem But.below {rb B:Nat} {w w':World} (h:But rb w w') (hB:B≤rb) (hB':B≤w.heap.size):Below B w w':=⟨h.os,h.tape,h.output,h.size,fun k hk=>h.block k (by omega) (by omega)⟩
theorem But.alloc {rb:Nat} {a w:World} (h:But rb a w) (o:Obj):But rb a (w.alloc o):=
 h.trans ⟨rfl,rfl,rfl,by simp,fun k hk _=>Below.heap_alloc _ _ _ hk⟩
theorem But.setCell {rb:Nat} {a w:World} (h:But rb a w) {p:Addr} (hp:p.block=rb) (u:Value):But rb a (w.setCell p u):=
 h.trans ⟨rfl,rfl,rfl,by simp[World.setCell],fun k _ hn=>Below.heap_setCell _ _ _ _ (by omega)⟩
theorem But.drewN {rb:Nat} {a w:World} (h:But rb a w) (n:Nat):But rb a (w.drewN n):=⟨h.os,h.tape,h.output,h.size,h.block⟩
theorem But.cell {rb:Nat} {w w':World} (h:But rb w w') {p:Addr} (hp:p.block<w.heap.size) (hn:p.block≠rb):w'.cell? p=w.cell? p:=World.cell?_of_block (w:=w) (h.block p.block hp hn)
theorem But.frozen {rb:Nat} {w w':World} (h:But rb w w') {p:Addr} (hp:p.block<w.heap.size) (hn:p.block≠rb):w'.frozen? p=w.frozen? p:=World.frozen?_of_block (w:=w) (h.block p.block hp hn)
theorem xor_nonneg {x y:Int} (h0:0≤x) (h1:x<4611686018427387904) (k0:0≤y) (k1:y<4611686018427387904):0≤bits .xor .i64 x y:=by
 obtain⟨a,rfl⟩:=Int.eq_ofNat_of_zero_le h0
 obtain⟨b,rfl⟩:=Int.eq_ofNat_of_zero_le k0
 have hx:a^^^b<2^62:=Nat.xor_lt_two_pow (by omega) (by omega)
 have e1:(BitVec.ofInt 64 (a:Int)).toNat=a:=by
  rw[BitVec.ofInt_natCast,BitVec.toNat_ofNat];exact Nat.mod_eq_of_lt (by omega)
 have e2:(BitVec.ofInt 64 (b:Int)).toNat=b:=by
  rw[BitVec.ofInt_natCast,BitVec.toNat_ofNat];exact Nat.mod_eq_of_lt (by omega)
 show 0≤IntKind.i64.wrap ((BitVec.ofInt 64 (a:Int)^^^BitVec.ofInt 64 (b:Int)).toNat:Int)
 rw[BitVec.toNat_xor,e1,e2]
 simp[IntKind.wrap,IntKind.bits,IntKind.signed]
 omega
section
variable {P:Program} {md:Region.Mode} {ops:Array Oper} {Q:Exit→Act→World→Prop} {S:World→Prop}
end
end Go.Proofs.YtpmjnpmnocjjgaaGreatDoor
namespace Go.Proofs.YtpmjnpmnocjjgaaGreatDoor
open Go.RowKit
set_option linter.unusedVariables false
def Rd (w:World) (rb p:Nat):Prop:=∃ (a:Option Addr) (len cap:Nat),w.cell? ⟨rb,0,none⟩=some (.slice a len cap)∧w.cell? ⟨rb,1,none⟩=some (.int .i64 (p:Int))∧w.frozen? ⟨rb,1,none⟩=false∧len≤2000∧
 (len=0∨∃ b off,a=some ⟨b,off,none⟩∧b<rb∧∀ i,i<len→∃ z:Int,w.cell? ⟨b,off+i,none⟩=some (.int .u8 z)∧0≤z∧z≤255)
theorem Rd.lt {w:World} {rb p:Nat} (h:Rd w rb p):rb<w.heap.size:=by
 obtain⟨a,len,cap,c0,_⟩:=h;exact cell_lt c0
theorem Rd.below {w w':World} {rb p:Nat} (h:Rd w rb p) (k:Below w.heap.size w w'):Rd w' rb p:=by
 have hl:=h.lt
 obtain⟨a,len,cap,c0,c1,f1,hle,hz⟩:=h
 refine⟨a,len,cap,by rw[k.cell hl];exact c0,by rw[k.cell hl];exact c1,by rw[k.frozen hl];exact f1,hle,?_⟩
 rcases hz with hz|⟨b,off,ha,hb,hz⟩
 · exact .inl hz
 · refine .inr ⟨b,off,ha,hb,fun i hi=> ?_⟩
   obtain⟨z,hz,r⟩:=hz i hi
   exact⟨z,by rw[k.cell (cell_lt hz)];exact hz,r⟩
theorem Rd.step {w:World} {rb p:Nat} (h:Rd w rb p) (m:Nat) (q:Nat):Rd ((w.setCell ⟨rb,1,none⟩ (.int .i64 (q:Int))).drewN m) rb q:=by
 obtain⟨a,len,cap,c0,c1,f1,hle,hz⟩:=h
 refine⟨a,len,cap,?_,?_,?_,hle,?_⟩
 · rw[World.cell?_drewN,cset_other (by simp)];exact c0
 · rw[World.cell?_drewN,cset_same c1]
 · simpa using f1
 rcases hz with hz|⟨b,off,ha,hb,hz⟩
 · exact .inl hz
 · refine .inr ⟨b,off,ha,hb,fun i hi=> ?_⟩
   obtain⟨z,hz,r⟩:=hz i hi
   exact⟨z,by rw[World.cell?_drewN,cset_far (Nat.ne_of_lt hb)];exact hz,r⟩
theorem pick_any (rb p:Nat) (n:Int) (w:World) (hr:Rd w rb p) (hp:p≤1000000) (h0:1≤n) (h1:n≤4000000000):
 Calls Tryz.prog 24 #[.pointer (some ⟨rb,0,none⟩),.int .i64 n] w fun e w'=>∃ v:Int,e= .returned (.int .i64 v)∧0≤v∧v<n∧Rd w' rb (p+1)∧But rb w w':=by
 have hr':=hr
 obtain⟨a,len,cap,c0,c1,f1,hle,hz⟩:=hr
 have e0:(w.setCell ⟨rb,1,none⟩ (.int .i64 ((p:Int)+1))).cell? ⟨rb,0,none⟩=some (.slice a len cap):=by rw[cset_other (by simp)];exact c0
 have e1:(w.setCell ⟨rb,1,none⟩ (.int .i64 ((p:Int)+1))).cell? ⟨rb,1,none⟩=some (.int .i64 ((p:Int)+1)):=cset_same c1
 have fin:∀ m,Rd ((w.setCell ⟨rb,1,none⟩ (.int .i64 ((p:Int)+1))).drewN m) rb (p+1)∧But rb w ((w.setCell ⟨rb,1,none⟩ (.int .i64 ((p:Int)+1))).drewN m):=
  fun m=>⟨hr'.step m (p+1),((But.refl rb w).setCell rfl _).drewN m⟩
 have FIN:Hid (∀ m,Rd ((w.setCell ⟨rb,1,none⟩ (.int .i64 ((p:Int)+1))).drewN m) rb (p+1)∧But rb w ((w.setCell ⟨rb,1,none⟩ (.int .i64 ((p:Int)+1))).drewN m)):=fin
 clear fin hr'
 rcases Nat.eq_zero_or_pos len with hl|hl
 · subst hl
   clear hz
   have hd:decide (n<1)=false:=by simp;omega
   go_enter Tryz.func24,Tryz.ntmps24
   go_wp2
   go_ret
   exact⟨0,rfl,by omega,by omega,FIN.out 0⟩
 · obtain⟨b,off,rfl,hb,hz⟩:∃ b off,a=some ⟨b,off,none⟩∧b<rb∧∀ i,i<len→∃ z:Int,w.cell? ⟨b,off+i,none⟩=some (.int .u8 z)∧0≤z∧z≤255:=by
    rcases hz with hz|hz
    · omega
    · exact hz
   have hd:decide (n<1)=false:=by simp;omega
   have hln:((len:Int)==0)=false:=by simp;omega
   by_cases hk:p<len
   · obtain⟨z,hc,z0,z1⟩:=hz p hk
     clear hz
     have e2:(w.setCell ⟨rb,1,none⟩ (.int .i64 ((p:Int)+1))).cell? ⟨b,off+p,none⟩=some (.int .u8 z):=by rw[cset_far (Nat.ne_of_lt hb)];exact hc
     go_enter Tryz.func24,Tryz.ntmps24
     go_wp2
     go_ret
     exact⟨_,rfl,Int.emod_nonneg _ (by omega),Int.emod_lt_of_pos _ (by omega),FIN.out 0⟩
   · obtain⟨i,hi,hil⟩:∃ i:Nat,(p:Int) % (len:Int)=(i:Int)∧i<len:=⟨p % len,by omega,Nat.mod_lt _ hl⟩
     obtain⟨j,hj,hjl⟩:∃ j:Nat,((p:Int)*7+3) % (len:Int)=(j:Int)∧j<len:=⟨(p*7+3) % len,by rw[show (p:Int)*7+3=((p*7+3:Nat):Int) by omega];rfl,Nat.mod_lt _ hl⟩
     obtain⟨d,hd',hdl⟩:∃ d:Nat,(p:Int)/(len:Int)=(d:Int)∧d≤p:=⟨p/len,by omega,Nat.div_le_self _ _⟩
     obtain⟨z,hc,z0,z1⟩:=hz i hil
     obtain⟨y,hcy,y0,y1⟩:=hz j hjl
     clear hz
     have e2:(w.setCell ⟨rb,1,none⟩ (.int .i64 ((p:Int)+1))).cell? ⟨b,off+i,none⟩=some (.int .u8 z):=by rw[cset_far (Nat.ne_of_lt hb)];exact hc
     have e3:(w.setCell ⟨rb,1,none⟩ (.int .i64 ((p:Int)+1))).cell? ⟨b,off+j,none⟩=some (.int .u8 y):=by rw[cset_far (Nat.ne_of_lt hb)];exact hcy
     go_enter Tryz.func24,Tryz.ntmps24
     go_wp2
     go_quiet (fail)
     go_wp2
     go_ret
     exact⟨_,rfl,Int.tmod_nonneg _ (xor_nonneg (by omega) (by omega) (by omega) (by omega)),Int.tmod_lt_of_pos _ (by omega),FIN.out _⟩
theorem Rd.alloc {w:World} {rb p:Nat} (h:Rd w rb p) (o:Obj):Rd (w.alloc o) rb p:=h.below ((Below.refl _ _).alloc (Nat.le_refl _) o)
theorem one_any (rb p lb len cap:Nat) (xs:List Int) (w:World) (hr:Rd w rb p) (hp:p≤1000000) (hl:xs.length=len) (h0:1≤len) (h1:len≤100) (hb:lb≠rb) (hc:∀ i,i<len→w.cell? ⟨lb,i,none⟩=some (.int .i64 (xs.getD i 0))):
 Calls Tryz.prog 13 #[.pointer (some ⟨rb,0,none⟩),.slice (some ⟨lb,0,none⟩) len cap] w fun e w'=>∃ v:Int,e= .returned (.int .i64 v)∧v∈xs∧Rd w' rb (p+1)∧But rb w w':=by
 go_enter Tryz.func13,Tryz.ntmps13
 go_wp2_with (go_at_call 24;refine(pick_any rb p _ _ hr hp (by omega) (by omega)).mono ?_;rintro e w1 ⟨v,rfl,v0,v1,hr1,hbut⟩;obtain⟨j,rfl⟩:=Int.eq_ofNat_of_zero_le v0;have hcj:=(hbut.cell (p:=⟨lb,j,none⟩) (cell_lt (hc j (by omega))) hb).trans (hc j (by omega)))
 go_ret
 exact⟨_,rfl,by rw[List.getElem?_eq_getElem (show j<xs.length by omega)];simp,hr1,hbut⟩
def AllBd (lo hi:Int):List Value→Prop
 | []=>True
 |c::r=>(∃ z:Int,c= .int .i64 z∧lo≤z∧z≤hi)∧AllBd lo hi r
theorem AllBd.get {lo hi:Int}:∀ {l:List Value},AllBd lo hi l→∀ i,i<l.length→∃ z:Int,l[i]? =some (.int .i64 z)∧lo≤z∧z≤hi
 |c::r,h,0,_=>by obtain⟨z,rfl,h1,h2⟩:=h.1;exact⟨z,rfl,h1,h2⟩
 |c::r,h,i+1,hi'=>by simpa using AllBd.get h.2 i (by simpa using hi')
theorem AllBd.cons {lo hi z:Int} {r:List Value} (h1:lo≤z) (h2:z≤hi) (h:AllBd lo hi r):AllBd lo hi (.int .i64 z::r):=⟨⟨z,rfl,h1,h2⟩,h⟩
theorem AllBd.nil {lo hi:Int}:AllBd lo hi []:=trivial
theorem one_bd (lo hi:Int) (rb p len cap:Nat) (cs:Array Value) (t:TypeId) (w:World) (hr:Rd w rb p) (hp:p≤1000000) (hcs:AllBd lo hi cs.toList) (hl:cs.size=len) (h0:1≤len) (h1:len≤100):
 Calls Tryz.prog 13 #[.pointer (some ⟨rb,0,none⟩),.slice (some ⟨w.heap.size,0,none⟩) len cap] (w.alloc (.cells cs t)) fun e w'=>∃ v:Int,e= .returned (.int .i64 v)∧lo≤v∧v≤hi∧Rd w' rb (p+1)∧But rb w w':=by
 have hlt:=hr.lt
 have hx:∀ i,i<len→∃ z:Int,cs[i]? =some (.int .i64 z)∧lo≤z∧z≤hi:=fun i hi=>by
  have:=hcs.get i (by simpa [hl] using hi);simpa using this
 have hcell:∀ i:Nat,(w.alloc (.cells cs t)).cell? ⟨w.heap.size,i,none⟩=cs[i]? :=fun i=>World.cell?_alloc_mark w cs t (0,0) i
 refine(one_any rb p w.heap.size len cap (cs.toList.map intOf) _ (hr.alloc _) hp (by simpa using hl) h0 h1 (by omega) ?_).mono ?_
 · intro i hi
   obtain⟨z,hz,_⟩:=hx i hi
   rw[hcell,hz]
   simp[hz,intOf]
 · rintro e w' ⟨v,rfl,hv,hr',hb'⟩
   refine⟨v,rfl,?_,?_,hr',((But.refl rb w).alloc _).trans hb'⟩
   all_goals
    obtain⟨c,hc,rfl⟩:=List.mem_map.1 hv
    obtain⟨i,hi,rfl⟩:=List.getElem_of_mem hc
    obtain⟨z,hz,a,b⟩:=hcs.get i hi
    rw[List.getElem?_eq_getElem hi] at hz
    injection hz with hz
    rw[hz];assumption
theorem l1Open_any (a:Option Addr) (len cap:Nat) (w:World) (hcap:len≤cap)
 (hz:len=0∨∃ b off,a=some ⟨b,off,none⟩∧∀ i,i<len→∃ z:Int,w.cell? ⟨b,off+i,none⟩=some (.int .u8 z)∧0≤z∧z≤255):
 Calls Tryz.prog 11 #[.slice a len cap] w fun e w'=>e= .returned (.pointer (some ⟨w.heap.size,0,none⟩))∧Rd w' w.heap.size 0∧Below w.heap.size w w':=by
 have fin:∀ (len' cap':Nat),len'≤len→len'≤2000→Rd (w.alloc (.cells #[.slice a len' cap',.int .i64 0] 54)) w.heap.size 0:=by
  intro len' cap' hl h2
  refine⟨a,len',cap',?_,?_,?_,h2,?_⟩
  · go_simp
  · go_simp
  · go_simp
  rcases hz with hz|⟨b,off,ha,hz⟩
  · exact .inl (by omega)
  · rcases Nat.eq_zero_or_pos len' with h|h
    · exact .inl h
    · obtain⟨z,hc,_⟩:=hz 0 (by omega)
      have hlt:=cell_lt hc
      refine .inr ⟨b,off,ha,hlt,fun i hi=> ?_⟩
      obtain⟨z,hz,r⟩:=hz i (by omega)
      exact⟨z,by rw[calloc_old (cell_lt hz)];exact hz,r⟩
 have FIN:=fin
 clear fin
 by_cases h:2000<len
 · go_enter Tryz.func11,Tryz.ntmps11
   go_wp2
   go_ret
   exact⟨rfl,FIN _ _ (by omega) (by omega),(Below.refl _ _).alloc (Nat.le_refl _) _⟩
 · go_enter Tryz.func11,Tryz.ntmps11
   go_wp2
   go_ret
   exact⟨rfl,FIN _ _ (by omega) (by omega),(Below.refl _ _).alloc (Nat.le_refl _) _⟩
def RB (w0 w:World) (rb p:Nat):Prop:=∃ q,q≤p∧Rd w rb q∧But rb w0 w
theorem RB.mono {w0 w:World} {rb p p':Nat} (h:RB w0 w rb p) (k:p≤p'):RB w0 w rb p':=by
 obtain⟨q,a,b⟩:=h;exact⟨q,by omega,b⟩
theorem RB.start {w:World} {rb p:Nat} (h:Rd w rb p):RB w w rb p:=⟨p,Nat.le_refl _,h,But.refl _ _⟩
theorem RB.alloc {w0 w:World} {rb p:Nat} (h:RB w0 w rb p) (o:Obj):RB w0 (w.alloc o) rb p:=by
 obtain⟨q,a,b,c⟩:=h;exact⟨q,a,b.alloc o,c.alloc o⟩
theorem RB.below {w0 w w':World} {rb p:Nat} (h:RB w0 w rb p) (k:Below w.heap.size w w'):RB w0 w' rb p:=by
 obtain⟨q,a,b,c⟩:=h;exact⟨q,a,b.below k,c.trans (But.of_below k)⟩
theorem RB.lt {w0 w:World} {rb p:Nat} (h:RB w0 w rb p):rb<w.heap.size:=by
 obtain⟨q,a,b,c⟩:=h;exact b.lt
theorem RB.old {w0 w:World} {rb p:Nat} (h:RB w0 w rb p) {B:Nat} (hB:B≤rb) (hB':B≤w0.heap.size):Below B w0 w:=by
 obtain⟨q,a,b,c⟩:=h;exact c.below hB hB'
theorem pick_rb (w0:World) (rb p:Nat) (n:Int) (w:World) (hr:RB w0 w rb p) (hp:p≤999000) (h0:1≤n) (h1:n≤4000000000):
 Calls Tryz.prog 24 #[.pointer (some ⟨rb,0,none⟩),.int .i64 n] w fun e w'=>∃ v:Int,e= .returned (.int .i64 v)∧0≤v∧v<n∧RB w0 w' rb (p+1):=by
 obtain⟨q,a,b,c⟩:=hr
 refine(pick_any rb q n w b (by omega) h0 h1).mono ?_
 rintro e w' ⟨v,rfl,v0,v1,hr',hb'⟩
 exact⟨v,rfl,v0,v1,q+1,by omega,hr',c.trans hb'⟩
theorem one_rb (lo hi:Int) (w0:World) (rb p len cap:Nat) (cs:Array Value) (t:TypeId) (w:World) (hr:RB w0 w rb p) (hp:p≤999000) (hcs:AllBd lo hi cs.toList) (hl:cs.size=len) (h0:1≤len) (h1:len≤100):
 Calls Tryz.prog 13 #[.pointer (some ⟨rb,0,none⟩),.slice (some ⟨w.heap.size,0,none⟩) len cap] (w.alloc (.cells cs t)) fun e w'=>∃ v:Int,e= .returned (.int .i64 v)∧lo≤v∧v≤hi∧RB w0 w' rb (p+1):=by
 obtain⟨q,a,b,c⟩:=hr
 refine(one_bd lo hi rb q len cap cs t w b (by omega) hcs hl h0 h1).mono ?_
 rintro e w' ⟨v,rfl,v0,v1,hr',hb'⟩
 exact⟨v,rfl,v0,v1,q+1,by omega,hr',c.trans hb'⟩
def Bytes (w:World) (a:Option Addr) (len cap:Nat):Prop:=
 len≤cap∧(len=0∨∃ b off,a=some ⟨b,off,none⟩∧∀ i,i<len→∃ z:Int,w.cell? ⟨b,off+i,none⟩=some (.int .u8 z)∧0≤z∧z≤255)
theorem Bytes.below {w w':World} {a:Option Addr} {len cap:Nat} (h:Bytes w a len cap) (k:Below w.heap.size w w'):Bytes w' a len cap:=by
 refine⟨h.1,?_⟩
 rcases h.2 with h|⟨b,off,ha,hz⟩
 · exact .inl h
 · refine .inr ⟨b,off,ha,fun i hi=> ?_⟩
   obtain⟨z,hz,r⟩:=hz i hi
   exact⟨z,by rw[k.cell (cell_lt hz)];exact hz,r⟩
theorem Bytes.nil (w:World):Bytes w none 0 0:=⟨Nat.le_refl _,.inl rfl⟩
theorem Bytes.of {w:World} {x:Addr} {len cap:Nat} {zs:List Int} (hl:len≤cap) (hz:zs.length=cap) (hcell:∀ i,i<zs.length→w.cell? (x.add i)=some (.int .u8 (zs.getD i 0))) (hwz:∀ n∈zs,(Lit.int .u8 n).wf=true):Bytes w (some x) len cap:=by
 refine⟨hl,?_⟩
 rcases Nat.eq_zero_or_pos len with h|h
 · exact .inl h
 · obtain⟨b,off,spot⟩:=x
   have hc:=hcell 0 (by omega)
   have hspot:spot=none:=by simpa [Addr.add] using World.cell?_spot hc
   subst hspot
   refine .inr ⟨b,off,rfl,fun i hi=>⟨zs[i]?.getD 0,?_,(range_u8 hwz i).1,(range_u8 hwz i).2⟩⟩
   have h:=hcell i (by omega)
   by_cases h0:i=0
   · subst h0;simpa [Addr.add] using h
   · simpa [Addr.add,h0] using h
theorem l1Open_rb (a:Option Addr) (len cap:Nat) (w:World) (hb:Bytes w a len cap):
 Calls Tryz.prog 11 #[.slice a len cap] w fun e w'=>e= .returned (.pointer (some ⟨w.heap.size,0,none⟩))∧RB w' w' w.heap.size 0∧Below w.heap.size w w':=
 (l1Open_any a len cap w hb.1 hb.2).mono fun _ _ ⟨h1,h2,h3⟩=>⟨h1,RB.start h2,h3⟩
theorem RB.done {w w0 w':World} {p:Nat} (k:Below w.heap.size w w0) (h:RB w0 w' w.heap.size p):Below w.heap.size w w':=
 k.trans (h.old (Nat.le_refl _) k.size)
theorem Rd.setNew {w:World} {rb p:Nat} (h:Rd w rb p) {a:Addr} (ha:rb<a.block) (v:Value):Rd (w.setCell a v) rb p:=by
 obtain⟨s,len,cap,c0,c1,f1,hle,hz⟩:=h
 refine⟨s,len,cap,?_,?_,?_,hle,?_⟩
 · rw[cset_far (Nat.ne_of_lt ha)];exact c0
 · rw[cset_far (Nat.ne_of_lt ha)];exact c1
 · rw[fset_far (Nat.ne_of_lt ha)];exact f1
 rcases hz with hz|⟨b,off,e,hb,hz⟩
 · exact .inl hz
 · refine .inr ⟨b,off,e,hb,fun i hi=> ?_⟩
   obtain⟨z,hz,r⟩:=hz i hi
   exact⟨z,by rw[cset_far (by show b≠a.block;omega)];exact hz,r⟩
theorem RB.setNew {w0 w:World} {rb p:Nat} (h:RB w0 w rb p) {a:Addr} (ha:rb<a.block) (h0:w0.heap.size≤a.block) (v:Value):RB w0 (w.setCell a v) rb p:=by
 obtain⟨q,k,b,c⟩:=h
 exact⟨q,k,b.setNew ha v,⟨c.os,c.tape,c.output,by simpa [World.setCell] using c.size,fun k hk hn=>(Below.heap_setCell _ _ _ _ (by omega)).trans (c.block k hk hn)⟩⟩
theorem RB.cells {w0 w:World} {rb p:Nat} (h:RB w0 w rb p):(∀ b o,b<w0.heap.size→b≠rb→w.cell? ⟨b,o,none⟩=w0.cell? ⟨b,o,none⟩)∧(∀ b o,b<w0.heap.size→b≠rb→w.frozen? ⟨b,o,none⟩=w0.frozen? ⟨b,o,none⟩):=by
 obtain⟨q,k,b,c⟩:=h
 exact⟨fun b o hb hn=>c.cell (p:=⟨b,o,none⟩) hb hn,fun b o hb hn=>c.frozen (p:=⟨b,o,none⟩) hb hn⟩
theorem RB.fresh {w0 w:World} {rb p:Nat} (h:RB w0 w rb p) (o:Obj):RB (w.alloc o) (w.alloc o) rb p:=by
 obtain⟨q,a,b,c⟩:=h;exact⟨q,a,b.alloc o,But.refl _ _⟩
end Go.Proofs.YtpmjnpmnocjjgaaGreatDoor
