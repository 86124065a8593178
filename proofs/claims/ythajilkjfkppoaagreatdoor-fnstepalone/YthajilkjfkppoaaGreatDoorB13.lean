/- Texts of a proof. -/
import Derived.Test.YthajilkjfkppoaaGreatDoorB2
import Derived.Test.YthajilkjfkppoaaGreatDoorB12
import Derived.Test.YthajilkjfkppoaaGreatDoorB4
import Derived.Test.YthajilkjfkppoaaGreatDoorB9
import Derived.Test.YthajilkjfkppoaaGreatDoorB5
import Derived.Test.YthajilkjfkppoaaGreatDoorB3
import Derived.Deep.RegionHeld3
import Derived.Deep.DeepCutAuto
set_option maxHeartbeats 16000000
set_option maxRecDepth 20000
namespace Go.Proofs.YthajilkjfkppoaaGreatDoor
open Go.RowKit
set_option linter.unusedVariables false
set_option linter.unusedSimpArgs false
def Bn (x:Int):Prop:= -1100000000≤x∧x≤1100000000
def RS (w:World) (rb p:Nat):Prop:=∃ q,q≤p∧Rd w rb q
theorem RS.of {w0 w:World} {rb p:Nat} (h:RB w0 w rb p):RS w rb p:=by
 obtain⟨q,a,b,c⟩:=h;exact⟨q,a,b⟩
theorem RS.rb {w:World} {rb p:Nat} (h:RS w rb p):RB w w rb p:=by
 obtain⟨q,a,b⟩:=h;exact⟨q,a,b,But.refl _ _⟩
theorem RS.mono {w:World} {rb p p':Nat} (h:RS w rb p) (k:p≤p'):RS w rb p':=by
 obtain⟨q,a,b⟩:=h;exact⟨q,by omega,b⟩
theorem RS.up {w0 w:World} {rb p p':Nat} (h:RB w0 w rb p) (k:p≤p'):RS w rb p':=(RS.of h).mono k
theorem RB.but {w0 w:World} {rb p:Nat} (h:RB w0 w rb p):But rb w0 w:=by
 obtain⟨q,a,b,c⟩:=h;exact c
theorem RB.mk {w0 w:World} {rb p:Nat} (h:But rb w0 w) (k:RS w rb p):RB w0 w rb p:=by
 obtain⟨q,a,b⟩:=k;exact⟨q,a,b,h⟩
theorem But.setNew {rb:Nat} {a w:World} (h:But rb a w) {x:Addr} (hx:a.heap.size≤x.block) (u:Value):But rb a (w.setCell x u):=
 ⟨h.os,h.tape,h.output,by simpa [World.setCell] using h.size,fun k hk hn=>(Below.heap_setCell _ _ _ _ (by omega)).trans (h.block k hk hn)⟩
theorem But.drew {rb:Nat} {a w:World} (h:But rb a w):But rb a w.drew:=⟨h.os,h.tape,h.output,h.size,h.block⟩
theorem RS.lt {w:World} {rb p:Nat} (h:RS w rb p):rb<w.heap.size:=h.rb.lt
theorem RS.alloc {w:World} {rb p:Nat} (h:RS w rb p) (o:Obj):RS (w.alloc o) rb p:=RS.of (h.rb.alloc o)
theorem RS.setNew {w:World} {rb p:Nat} (h:RS w rb p) {a:Addr} (ha:rb<a.block) (v:Value):RS (w.setCell a v) rb p:=by
 obtain⟨q,k,b⟩:=h;exact⟨q,k,b.setNew ha v⟩
theorem RS.drewN {w:World} {rb p:Nat} (h:RS w rb p) (n:Nat):RS (w.drewN n) rb p:=h
theorem RS.drew {w:World} {rb p:Nat} (h:RS w rb p):RS w.drew rb p:=h
theorem RB.drewN {w0 w:World} {rb p:Nat} (h:RB w0 w rb p) (n:Nat):RB w0 (w.drewN n) rb p:=by
 obtain⟨q,a,b,c⟩:=h;exact⟨q,a,b,c.drewN n⟩
theorem RB.drew {w0 w:World} {rb p:Nat} (h:RB w0 w rb p):RB w0 w.drew rb p:=by
 obtain⟨q,a,b,c⟩:=h;exact⟨q,a,b,c.drewN 1⟩
theorem RB.trans {a b c:World} {rb p p':Nat} (h:RB a b rb p) (k:RB b c rb p'):RB a c rb p':=by
 obtain⟨q,_,_,x⟩:=h
 obtain⟨q',y,z,u⟩:=k
 exact⟨q',y,z,x.trans u⟩
theorem pick_s (rb p:Nat) (n:Int) (w:World) (hr:RS w rb p) (hp:p≤999000) (h0:1≤n) (h1:n≤4000000000):
 Calls Tryz.prog 34 #[.pointer (some ⟨rb,0,none⟩),.int .i64 n] w fun e w'=>∃ v:Int,e= .returned (.int .i64 v)∧0≤v∧v<n∧RB w w' rb (p+1):=
 pick_rb w rb p n w hr.rb hp h0 h1
theorem one_s (lo hi:Int) (rb p len cap:Nat) (cs:Array Value) (t:TypeId) (w:World) (hr:RS w rb p) (hp:p≤999000) (hcs:AllBd lo hi cs.toList) (hl:cs.size=len) (h0:1≤len) (h1:len≤100):
 Calls Tryz.prog 17 #[.pointer (some ⟨rb,0,none⟩),.slice (some ⟨w.heap.size,0,none⟩) len cap] (w.alloc (.cells cs t)) fun e w'=>∃ v:Int,e= .returned (.int .i64 v)∧lo≤v∧v≤hi∧RB w w' rb (p+1):=
 one_rb lo hi w rb p len cap cs t w hr.rb hp hcs hl h0 h1
theorem one_g (lo hi:Int) (rb p lb len cap:Nat) (xs:List Int) (w:World) (hr:RS w rb p) (hp:p≤999000) (hx:∀ x∈xs,lo≤x∧x≤hi) (hl:xs.length=len) (h0:1≤len) (h1:len≤100) (hb:lb≠rb) (hc:∀ i,i<len→w.cell? ⟨lb,i,none⟩=some (.int .i64 (xs.getD i 0))):
 Calls Tryz.prog 17 #[.pointer (some ⟨rb,0,none⟩),.slice (some ⟨lb,0,none⟩) len cap] w fun e w'=>∃ v:Int,e= .returned (.int .i64 v)∧lo≤v∧v≤hi∧RB w w' rb (p+1):=by
 obtain⟨q,hq,hd⟩:=hr
 refine(one_any rb q lb len cap xs w hd (by omega) hl h0 h1 hb hc).mono ?_
 rintro e w' ⟨v,rfl,hv,hr',hb'⟩
 obtain⟨v0,v1⟩:=hx v hv
 exact⟨v,rfl,v0,v1,q+1,by omega,hr',hb'⟩
def Bm (x:Int):Prop:= -10000≤x∧x≤10000
theorem Bm.mk {x:Int} (h: -10000≤x∧x≤10000):Bm x:=h
theorem Bm.bn {x:Int} (h:Bm x):Bn x:=by unfold Bm Bn at*;omega
theorem Bn.mk {x:Int} (h: -1100000000≤x∧x≤1100000000):Bn x:=h
theorem l11Place_s (rb p:Nat) (w:World) (hs0:RS w rb p) (hp:p≤997900):
 Calls Tryz.prog 93 #[.pointer (some ⟨rb,0,none⟩)] w fun e w'=>∃ x y:Int,e= .returned (vv x y)∧(Bm x∧Bm y)∧RB w w' rb (p+60):=by
 have hlt:=hs0.lt
 have hne:(w.heap.size=rb)=False:=eq_false (by omega)
 have hset:=cset_map
 go_enter Tryz.func93,Tryz.ntmps93
 go_wp2_with (first
  |(have _:=hr1;go_at_call 34;refine(pick_s rb (p+20) _ _ (by repeat(first|(with_reducible apply RS.setNew;rotate_left;(first|omega|(simp only[zz];omega)))|with_reducible apply RS.alloc|(with_reducible apply RS.up hr1;omega)|(with_reducible apply RS.mono hs0;omega)|with_reducible apply RS.drew|with_reducible apply RS.drewN)) (by omega) (by omega) (by omega)).mono ?_;rintro e w2 ⟨v2,rfl,va2,vb2,hr2⟩;obtain⟨hc2,hf2⟩:=RB.cells hr2;have hz2:=RB.size hr2;(try simp only[zz] at hc2 hf2 hz2);have hq2x0:w.heap.size<w2.heap.size:=(by omega);have ha2x0:(w2.heap.size=w.heap.size)=False:=eq_false (by omega);have hb2x0:(w.heap.size=w2.heap.size)=False:=eq_false (by omega);have he2x0:(w.heap.size=rb)=False:=eq_false (by omega);have hk2x0:=fun o=>hc2 (w.heap.size) o (by omega) (by omega);have hj2x0:=fun o=>hf2 (w.heap.size) o (by omega) (by omega))
  |(go_at_call 34;refine(pick_s rb (p+10) _ _ (by repeat(first|(with_reducible apply RS.setNew;rotate_left;(first|omega|(simp only[zz];omega)))|with_reducible apply RS.alloc|(with_reducible apply RS.mono hs0;omega)|with_reducible apply RS.drew|with_reducible apply RS.drewN)) (by omega) (by omega) (by omega)).mono ?_;rintro e w1 ⟨v1,rfl,va1,vb1,hr1⟩;obtain⟨hc1,hf1⟩:=RB.cells hr1;have hz1:=RB.size hr1;(try simp only[zz] at hc1 hf1 hz1);have hq1x0:w.heap.size<w1.heap.size:=(by omega);have ha1x0:(w1.heap.size=w.heap.size)=False:=eq_false (by omega);have hb1x0:(w.heap.size=w1.heap.size)=False:=eq_false (by omega);have he1x0:(w.heap.size=rb)=False:=eq_false (by omega);have hk1x0:=fun o=>hc1 (w.heap.size) o (by omega) (by omega);have hj1x0:=fun o=>hf1 (w.heap.size) o (by omega) (by omega)))
 exact bodyPost_ret (v:=vv (v1*8-1024) (v2*8-1024)) (by simp[results,Tryz.results93,go_sem, *]) rfl ⟨_,_,rfl,⟨Bm.mk ⟨by omega,by omega⟩,Bm.mk ⟨by omega,by omega⟩⟩,RB.mk (by repeat(first|(with_reducible apply But.setNew;rotate_left;(first|omega|(simp only[zz];omega)))|with_reducible apply But.alloc|with_reducible apply But.trans (k:=RB.but hr2)|with_reducible apply But.trans (k:=RB.but hr1)|with_reducible apply But.refl|with_reducible apply But.drewN|with_reducible apply But.drew)) (by repeat(first|(with_reducible apply RS.setNew;rotate_left;(first|omega|(simp only[zz];omega)))|with_reducible apply RS.alloc|(with_reducible apply RS.up hr2;omega)|(with_reducible apply RS.up hr1;omega)|(with_reducible apply RS.mono hs0;omega)|with_reducible apply RS.drew|with_reducible apply RS.drewN))⟩
theorem l11Shape_s (rb p:Nat) (w:World) (hs0:RS w rb p) (hp:p≤997900):
 Calls Tryz.prog 92 #[.pointer (some ⟨rb,0,none⟩)] w fun e w'=>∃ k g h:Int,e= .returned (s3 k g h)∧(Bn k∧Bn g∧Bn h)∧RB w w' rb (p+60):=by
 have hlt:=hs0.lt
 have hne:(w.heap.size=rb)=False:=eq_false (by omega)
 have hset:=cset_map
 go_enter Tryz.func92,Tryz.ntmps92
 go_wp2_with (first
  |(have _:=hr3;go_at_call 34;refine(pick_s rb (p+40) _ _ (by repeat(first|(with_reducible apply RS.setNew;rotate_left;(first|omega|(simp only[zz];omega)))|with_reducible apply RS.alloc|(with_reducible apply RS.up hr3;omega)|(with_reducible apply RS.mono hs0;omega)|with_reducible apply RS.drew|with_reducible apply RS.drewN)) (by omega) (by omega) (by omega)).mono ?_;rintro e w4 ⟨v4,rfl,va4,vb4,hr4⟩;obtain⟨hc4,hf4⟩:=RB.cells hr4;have hz4:=RB.size hr4;(try simp only[zz] at hc4 hf4 hz4);have hq4x0:w.heap.size<w4.heap.size:=(by omega);have ha4x0:(w4.heap.size=w.heap.size)=False:=eq_false (by omega);have hb4x0:(w.heap.size=w4.heap.size)=False:=eq_false (by omega);have he4x0:(w.heap.size=rb)=False:=eq_false (by omega);have hk4x0:=fun o=>hc4 (w.heap.size) o (by omega) (by omega);have hj4x0:=fun o=>hf4 (w.heap.size) o (by omega) (by omega))
  |(have _:=hr2;go_at_call 34;refine(pick_s rb (p+30) _ _ (by repeat(first|(with_reducible apply RS.setNew;rotate_left;(first|omega|(simp only[zz];omega)))|with_reducible apply RS.alloc|(with_reducible apply RS.up hr2;omega)|(with_reducible apply RS.mono hs0;omega)|with_reducible apply RS.drew|with_reducible apply RS.drewN)) (by omega) (by omega) (by omega)).mono ?_;rintro e w3 ⟨v3,rfl,va3,vb3,hr3⟩;obtain⟨hc3,hf3⟩:=RB.cells hr3;have hz3:=RB.size hr3;(try simp only[zz] at hc3 hf3 hz3);have hq3x0:w.heap.size<w3.heap.size:=(by omega);have ha3x0:(w3.heap.size=w.heap.size)=False:=eq_false (by omega);have hb3x0:(w.heap.size=w3.heap.size)=False:=eq_false (by omega);have he3x0:(w.heap.size=rb)=False:=eq_false (by omega);have hk3x0:=fun o=>hc3 (w.heap.size) o (by omega) (by omega);have hj3x0:=fun o=>hf3 (w.heap.size) o (by omega) (by omega))
  |(go_at_call 34;refine(pick_s rb (p+10) _ _ (by repeat(first|(with_reducible apply RS.setNew;rotate_left;(first|omega|(simp only[zz];omega)))|with_reducible apply RS.alloc|(with_reducible apply RS.mono hs0;omega)|with_reducible apply RS.drew|with_reducible apply RS.drewN)) (by omega) (by omega) (by omega)).mono ?_;rintro e w1 ⟨v1,rfl,va1,vb1,hr1⟩;obtain⟨hc1,hf1⟩:=RB.cells hr1;have hz1:=RB.size hr1;(try simp only[zz] at hc1 hf1 hz1);have hq1x0:w.heap.size<w1.heap.size:=(by omega);have ha1x0:(w1.heap.size=w.heap.size)=False:=eq_false (by omega);have hb1x0:(w.heap.size=w1.heap.size)=False:=eq_false (by omega);have he1x0:(w.heap.size=rb)=False:=eq_false (by omega);have hk1x0:=fun o=>hc1 (w.heap.size) o (by omega) (by omega);have hj1x0:=fun o=>hf1 (w.heap.size) o (by omega) (by omega))
  |(have _:=hr4;go_at_call 17;refine(one_s (1) 1000 rb (p+50) _ _ _ _ _ (by repeat(first|(with_reducible apply RS.setNew;rotate_left;(first|omega|(simp only[zz];omega)))|with_reducible apply RS.alloc|(with_reducible apply RS.up hr4;omega)|(with_reducible apply RS.mono hs0;omega)|with_reducible apply RS.drew|with_reducible apply RS.drewN)) (by omega) (by repeat(first|exact AllBd.nil|refine AllBd.cons (by omega) (by omega) ?_)) (by rfl) (by omega) (by omega)).mono ?_;rintro e w5 ⟨v5,rfl,va5,vb5,hr5⟩;obtain⟨hc5,hf5⟩:=RB.cells hr5;have hz5:=RB.size hr5;(try simp only[zz] at hc5 hf5 hz5);have hq5x0:w.heap.size<w5.heap.size:=(by omega);have ha5x0:(w5.heap.size=w.heap.size)=False:=eq_false (by omega);have hb5x0:(w.heap.size=w5.heap.size)=False:=eq_false (by omega);have he5x0:(w.heap.size=rb)=False:=eq_false (by omega);have hk5x0:=fun o=>hc5 (w.heap.size) o (by omega) (by omega);have hj5x0:=fun o=>hf5 (w.heap.size) o (by omega) (by omega))
  |(have _:=hr1;go_at_call 17;refine(one_s (1) 1000 rb (p+20) _ _ _ _ _ (by repeat(first|(with_reducible apply RS.setNew;rotate_left;(first|omega|(simp only[zz];omega)))|with_reducible apply RS.alloc|(with_reducible apply RS.up hr1;omega)|(with_reducible apply RS.mono hs0;omega)|with_reducible apply RS.drew|with_reducible apply RS.drewN)) (by omega) (by repeat(first|exact AllBd.nil|refine AllBd.cons (by omega) (by omega) ?_)) (by rfl) (by omega) (by omega)).mono ?_;rintro e w2 ⟨v2,rfl,va2,vb2,hr2⟩;obtain⟨hc2,hf2⟩:=RB.cells hr2;have hz2:=RB.size hr2;(try simp only[zz] at hc2 hf2 hz2);have hq2x0:w.heap.size<w2.heap.size:=(by omega);have ha2x0:(w2.heap.size=w.heap.size)=False:=eq_false (by omega);have hb2x0:(w.heap.size=w2.heap.size)=False:=eq_false (by omega);have he2x0:(w.heap.size=rb)=False:=eq_false (by omega);have hk2x0:=fun o=>hc2 (w.heap.size) o (by omega) (by omega);have hj2x0:=fun o=>hf2 (w.heap.size) o (by omega) (by omega)))
 · exact bodyPost_ret (v:=s3 1 v2 0) (by simp[results,Tryz.results92,go_sem, *]) rfl ⟨_,_,_,rfl,⟨Bn.mk ⟨by omega,by omega⟩,Bn.mk ⟨by omega,by omega⟩,Bn.mk ⟨by omega,by omega⟩⟩,RB.mk (by repeat(first|(with_reducible apply But.setNew;rotate_left;(first|omega|(simp only[zz];omega)))|with_reducible apply But.alloc|with_reducible apply But.trans (k:=RB.but hr3)|with_reducible apply But.trans (k:=RB.but hr2)|with_reducible apply But.trans (k:=RB.but hr1)|with_reducible apply But.refl|with_reducible apply But.drewN|with_reducible apply But.drew)) (by repeat(first|(with_reducible apply RS.setNew;rotate_left;(first|omega|(simp only[zz];omega)))|with_reducible apply RS.alloc|(with_reducible apply RS.up hr3;omega)|(with_reducible apply RS.up hr2;omega)|(with_reducible apply RS.up hr1;omega)|(with_reducible apply RS.mono hs0;omega)|with_reducible apply RS.drew|with_reducible apply RS.drewN))⟩
 · exact bodyPost_ret (v:=s3 2 v2 v5) (by simp[results,Tryz.results92,go_sem, *]) rfl ⟨_,_,_,rfl,⟨Bn.mk ⟨by omega,by omega⟩,Bn.mk ⟨by omega,by omega⟩,Bn.mk ⟨by omega,by omega⟩⟩,RB.mk (by repeat(first|(with_reducible apply But.setNew;rotate_left;(first|omega|(simp only[zz];omega)))|with_reducible apply But.alloc|with_reducible apply But.trans (k:=RB.but hr5)|with_reducible apply But.trans (k:=RB.but hr4)|with_reducible apply But.trans (k:=RB.but hr3)|with_reducible apply But.trans (k:=RB.but hr2)|with_reducible apply But.trans (k:=RB.but hr1)|with_reducible apply But.refl|with_reducible apply But.drewN|with_reducible apply But.drew)) (by repeat(first|(with_reducible apply RS.setNew;rotate_left;(first|omega|(simp only[zz];omega)))|with_reducible apply RS.alloc|(with_reducible apply RS.up hr5;omega)|(with_reducible apply RS.up hr4;omega)|(with_reducible apply RS.up hr3;omega)|(with_reducible apply RS.up hr2;omega)|(with_reducible apply RS.up hr1;omega)|(with_reducible apply RS.mono hs0;omega)|with_reducible apply RS.drew|with_reducible apply RS.drewN))⟩
def tcH (C:Nat→Nat→Int) (i k:Nat):(Int×Int×Int)×Bool:=toT (C 1 i) (C 2 i) (C 3 i) (C 4 i) (C 5 i) (C 1 k) (C 2 k) (C 3 k) (C 4 k) (C 5 k)
def conB (C:Nat→Nat→Int) (i k:Nat):Bool:=decide (i<k)&&(!(decide (C 8 i=0)&&decide (C 8 k=0))&&(tcH C i k).2)
def conOne (C:Nat→Nat→Int) (i k:Nat):List Int:=if conB C i k=true then [(i:Int),(k:Int),(tcH C i k).1.1,(tcH C i k).1.2.1,(tcH C i k).1.2.2] else []
def conIn (C:Nat→Nat→Int) (i:Nat):Nat→List Int
 |0=>[]
 |k+1=>conIn C i k++conOne C i k
def conOut (C:Nat→Nat→Int) (n:Nat):Nat→List Int
 |0=>[]
 |i+1=>conOut C n i++conIn C i n
def conL (C:Nat→Nat→Int) (n:Nat):List Int:=conOut C n n
theorem conOne_len (C:Nat→Nat→Int) (i k:Nat):∃ m,(conOne C i k).length=m*5∧m≤1:=by
 unfold conOne
 split
 · exact⟨1,rfl,Nat.le_refl _⟩
 · exact⟨0,rfl,by omega⟩
theorem conIn_len (C:Nat→Nat→Int) (i:Nat):∀ k,∃ m,(conIn C i k).length=m*5∧m≤k
 |0=>⟨0,rfl,Nat.le_refl _⟩
 | k+1=>by
   obtain⟨m,h1,h2⟩:=conIn_len C i k
   obtain⟨m',h3,h4⟩:=conOne_len C i k
   exact⟨m+m',by rw[conIn,List.length_append,h1,h3];omega,by omega⟩
theorem conOut_len (C:Nat→Nat→Int) (n:Nat):∀ i,∃ m,(conOut C n i).length=m*5∧m≤i*n
 |0=>⟨0,rfl,by omega⟩
 | i+1=>by
   obtain⟨m,h1,h2⟩:=conOut_len C n i
   obtain⟨m',h3,h4⟩:=conIn_len C i n
   exact⟨m+m',by rw[conOut,List.length_append,h1,h3];omega,by rw[Nat.succ_mul];omega⟩
theorem conB_ge {C:Nat→Nat→Int} {i k:Nat} (h:k≤i):conB C i k=false:=by
 unfold conB
 rw[decide_eq_false (by omega)]
 rfl
theorem conOne_no {C:Nat→Nat→Int} {i k:Nat} (h:conB C i k=false):conOne C i k=[]:=by
 unfold conOne
 rw[h]
 rfl
theorem conOne_yes {C:Nat→Nat→Int} {i k:Nat} {X Y D:Int} (h:conB C i k=true) (e:tcH C i k=((X,Y,D),true)):conOne C i k=[(i:Int),(k:Int),X,Y,D]:=by
 unfold conOne
 rw[if_pos h,e]
theorem conB_yes {C:Nat→Nat→Int} {i k:Nat} {X Y D:Int} (h:i<k) (hf:¬ (C 8 i=0∧C 8 k=0)) (e:tcH C i k=((X,Y,D),true)):conB C i k=true:=by
 unfold conB
 rw[e,decide_eq_true h]
 by_cases e1:C 8 i=0
 · have e2:¬ C 8 k=0:=fun q=>hf ⟨e1,q⟩
   simp[e2]
 · simp[e1]
theorem conIn_ge {C:Nat→Nat→Int} (i:Nat):∀ k,k≤i+1→conIn C i k=[]
 |0,_=>rfl
 |k+1,h=>by rw[conIn,conIn_ge i k (by omega),conOne_no (conB_ge (by omega))];rfl
structure LsAt (w2 W:World) (lb t k:Nat) (a:Option Addr) (m c:Nat) (l:List Int):Prop where
 fr:Fr (fun b=>b=lb) w2 W
 box:W.cell? ⟨lb,0,none⟩=some (.slice a m c)
 nf:W.frozen? ⟨lb,0,none⟩=false
 len:l.length=m*k
 own:OwnL W w2.heap.size t k (.slice a m c) m (ofL l)
theorem Fr.sm {X:Nat→Prop} {w2 W W':World} {B:Nat} (h:Fr X w2 W) (hs:Sm B W W') (hB:w2.heap.size≤B):Fr X w2 W':=
 ⟨hs.below.os.trans h.os,hs.below.tape.trans h.tape,hs.below.output.trans h.output,Nat.le_trans h.size hs.size,fun k hk hn=>(hs.below.block k (by omega)).trans (h.block k hk hn),fun k o hk ho=>(hs.below.block k (by have:=(Array.getElem?_eq_some_iff.1 hk).1;omega)).trans (h.kind k o hk ho)⟩
theorem LsAt.sm {w2 W W':World} {B lb t k m c:Nat} {a:Option Addr} {l:List Int} (h:LsAt w2 W lb t k a m c l) (hs:Sm B W W') (hB:w2.heap.size≤B):LsAt w2 W' lb t k a m c l:=
 ⟨h.fr.sm hs hB,hs.cell h.box,hs.frozen h.box h.nf,h.len,h.own.sm hs⟩
theorem LsAt.below {w2 W W':World} {lb t k m c:Nat} {a:Option Addr} {l:List Int} (h:LsAt w2 W lb t k a m c l) (hs:Below W.heap.size W W'):LsAt w2 W' lb t k a m c l:=h.sm (Sm.of_below hs (Nat.le_refl _)) h.fr.size
theorem LsAt.start {w2:World} {lb t k:Nat} (h:w2.cell? ⟨lb,0,none⟩=some (.slice none 0 0)) (hf:w2.frozen? ⟨lb,0,none⟩=false):LsAt w2 w2 lb t k none 0 0 []:=
 ⟨Fr.refl _ _,h,hf,by simp,OwnL.nil _ _ _ _ _⟩
theorem LsAt.keeps {w2 W W1:World} {lb t k m c m' c':Nat} {a a':Option Addr} {l:List Int} (h:LsAt w2 W lb t k a m c l) (hlb:lb<w2.heap.size) (hg:W.grownBy W1 (Value.slice a m c).ownBlock):
 Fr (fun b=>b=lb∨(Value.slice a m c).ownBlock=some b) W (W1.setCell ⟨lb,0,none⟩ (.slice a' m' c')):=
 (Fr.grown hg (fun b hb=> .inr hb) h.own.isCells).trans (Fr.setCell (.inl rfl) _)
theorem LsAt.push {w2 W W1:World} {lb t k m c:Nat} {a a':Option Addr} {c':Nat} {l x:List Int} (h:LsAt w2 W lb t k a m c l) (hlb:lb<w2.heap.size) (hx:x.length=k) (hg:W.grownBy W1 (Value.slice a m c).ownBlock)
 (ho:OwnL W1 w2.heap.size t k (.slice a' (m+1) c') (m+1) (cat (m*k) (ofL l) (ofL x))):LsAt w2 (W1.setCell ⟨lb,0,none⟩ (.slice a' (m+1) c')) lb t k a' (m+1) c' (l++x):=by
 have hne:∀ b,(Value.slice a m c).ownBlock=some b→b≠lb:=fun b hb=>by have:=(h.own.lt b hb).1;omega
 have hl:lb<W.heap.size:=Nat.lt_of_lt_of_le hlb h.fr.size
 have hb1:W1.heap[lb]? =W.heap[lb]? :=hg.block lb hl (fun e=>hne lb e.symm rfl)
 refine⟨(h.fr.trans' (Fr.grown (X:=fun b=>(Value.slice a m c).ownBlock=some b) hg (fun b hb=>hb) h.own.isCells) (fun i hi e=>by have:=(h.own.lt i e).1;omega)).trans (Fr.setCell (X:=fun b=>b=lb) rfl _),cset_same ((World.cell?_of_block (a:=⟨lb,0,none⟩) hb1).trans h.box),?_,by rw[List.length_append,h.len,hx,Nat.succ_mul],?_⟩
 · rw[World.frozen?_setCell];exact(World.frozen?_of_block (a:=⟨lb,0,none⟩) hb1).trans h.nf
 · rw[←cat_ofL,h.len]
   refine OwnL.frame (X:=fun b=>b=lb) ho (Fr.setCell (X:=fun b=>b=lb) rfl _) (fun b hb e=> ?_)
   have:=(ho.lt b hb).1
   omega
theorem _root_.Go.KeepsFrom.sm {B B':Nat} {W X X':World} (h:KeepsFrom B W X) (hs:Sm B' X X') (hB:W.heap.size≤B'):KeepsFrom B W X':=
 ⟨Nat.le_trans h.size hs.size,fun k o hk h0 ho=>(hs.below.block k (by have:=(Array.getElem?_eq_some_iff.1 h0).1;omega)).trans (h.same k o hk h0 ho)⟩
structure Rg (w:World) (rb g m c cb:Nat) (C:Nat→Int) (j:Nat):Prop where
 c0:w.cell? ⟨rb,0,none⟩=some (.slice (some ⟨g,0,none⟩) m c)
 c1:w.cell? ⟨rb,1,none⟩=some (.int .i64 (j:Int))
 f1:w.frozen? ⟨rb,1,none⟩=false
 cl:∀ q,q<m→w.cell? ⟨g,q*7,none⟩=some (.int .i64 (C (q*5+2)))∧w.cell? ⟨g,q*7+1,none⟩=some (.int .i64 (C (q*5+3)))∧w.cell? ⟨g,q*7+2,none⟩=some (.int .i64 (C (q*5+4)))∧w.cell? ⟨g,q*7+3,none⟩=some (.int .i64 (C (q*5)))∧w.cell? ⟨g,q*7+4,none⟩=some (.pointer (some ⟨cb,0,none⟩))∧w.cell? ⟨g,q*7+5,none⟩=some (.int .i64 (C (q*5+1)))∧w.cell? ⟨g,q*7+6,none⟩=some (.pointer (some ⟨cb,0,none⟩))
 gl:g<w.heap.size
 rl:rb<w.heap.size
 ne:rb≠g
theorem Rg.fr {X:Nat→Prop} {w w':World} {rb g m c cb:Nat} {C:Nat→Int} {j:Nat} (h:Rg w rb g m c cb C j) (hF:Fr X w w') (h1:¬ X rb) (h2:¬ X g):Rg w' rb g m c cb C j:=
 have k:=fun o=>hF.cell (p:=⟨g,o,none⟩) h.gl h2
 ⟨(hF.cell (p:=⟨rb,0,none⟩) h.rl h1).trans h.c0,(hF.cell (p:=⟨rb,1,none⟩) h.rl h1).trans h.c1,(hF.frozen (p:=⟨rb,1,none⟩) h.rl h1).trans h.f1,fun q hq=>by
   obtain⟨r0,r1,r2,r3,r4,r5,r6⟩:=h.cl q hq
   exact⟨(k _).trans r0,(k _).trans r1,(k _).trans r2,(k _).trans r3,(k _).trans r4,(k _).trans r5,(k _).trans r6⟩,Nat.lt_of_lt_of_le h.gl hF.size,Nat.lt_of_lt_of_le h.rl hF.size,h.ne⟩
theorem Fr.put {b:Nat} {w w':World} (h:Fr (fun x=>x=b) w w') (o:Nat) (v:Value):Fr (fun x=>x=b) w (w'.setCell ⟨b,o,none⟩ v):=h.trans (Fr.setCell (X:=fun x=>x=b) rfl v)
theorem Rg.below {w w':World} {rb g m c cb:Nat} {C:Nat→Int} {j:Nat} (h:Rg w rb g m c cb C j) (hb:Below w.heap.size w w'):Rg w' rb g m c cb C j:=h.fr (Fr.of_below (X:=fun _=>False) hb) id id
theorem Rg.set {w:World} {rb g m c cb:Nat} {C:Nat→Int} {j:Nat} (h:Rg w rb g m c cb C j) (i:Nat):Rg (w.setCell ⟨rb,1,none⟩ (.int .i64 (i:Int))) rb g m c cb C i:=by
 have hne:=h.ne
 have k:∀ o,(w.setCell ⟨rb,1,none⟩ (.int .i64 (i:Int))).cell? ⟨g,o,none⟩=w.cell? ⟨g,o,none⟩:=fun o=>by go_simp
 have c1:=h.c1
 have c0:=h.c0
 have f1:=h.f1
 refine⟨by go_simp,by go_simp,by go_simp,fun q hq=> ?_,by simpa using h.gl,by simpa using h.rl,h.ne⟩
 obtain⟨r0,r1,r2,r3,r4,r5,r6⟩:=h.cl q hq
 exact⟨(k _).trans r0,(k _).trans r1,(k _).trans r2,(k _).trans r3,(k _).trans r4,(k _).trans r5,(k _).trans r6⟩
theorem take_q {w:World} {rb g m c cb j:Nat} {C:Nat→Int} (h:Rg w rb g m c cb C j) (hj:j<m) (hm:m≤1048576) (X Y D A B:Int) (eX:C (j*5+2)=X) (eY:C (j*5+3)=Y) (eD:C (j*5+4)=D) (eA:C (j*5)=A) (eB:C (j*5+1)=B):
 Calls Tryz.prog 183 #[.pointer (some ⟨rb,0,none⟩)] w fun e w'=>e= .returned (.agg #[.int .i64 X,.int .i64 Y,.int .i64 D,.int .i64 A,.pointer (some ⟨cb,0,none⟩),.int .i64 B,.pointer (some ⟨cb,0,none⟩)])∧Rg w' rb g m c cb C ((j+1) % m)∧Fr (fun b=>b=rb) w w':=by
 have hset:=cset_map
 obtain⟨r0,r1,r2,r3,r4,r5,r6⟩:=h.cl j hj
 rw[eX] at r0
 rw[eY] at r1
 rw[eD] at r2
 rw[eA] at r3
 rw[eB] at r5
 clear eX eY eD eA eB
 have c0:=h.c0
 have c1:=h.c1
 have f1:=h.f1
 have gl:=h.gl
 have rl:=h.rl
 have ne:=h.ne
 have hjm:(j:Int)<(m:Int):=by omega
 have hm0:¬ ((m:Int)=0):=by omega
 have hm1:¬ (m=0):=by omega
 obtain⟨i,ei⟩:∃ i:Nat,(j+1) % m=i:=⟨_,rfl⟩
 have hi:i<m:=by rw[←ei];exact Nat.mod_lt _ (by omega)
 have er:((j:Int)+1).tmod (m:Int)=(i:Int):=by rw[←ei,Int.natCast_emod];exact(Int.tmod_eq_emod_of_nonneg (by omega))
 have w1_:IntKind.i64.wrap ((j:Int)+1)=(j:Int)+1:=i64w (by omega)
 have w2_:IntKind.i64.wrap (i:Int)=(i:Int):=i64w (by omega)
 rw[ei]
 clear ei
 go_enter Tryz.func183,Tryz.ntmps183
 go_upto_region 1 with fail
 go_cut [3] (fun s wc=>∃ b,s= .pointer (some ⟨b,0,none⟩)∧wc.cell? ⟨b,0,none⟩=some (.int .i64 X)∧wc.cell? ⟨b,1,none⟩=some (.int .i64 Y)∧wc.cell? ⟨b,2,none⟩=some (.int .i64 D)∧wc.cell? ⟨b,3,none⟩=some (.int .i64 A)∧wc.cell? ⟨b,4,none⟩=some (.pointer (some ⟨cb,0,none⟩))∧wc.cell? ⟨b,5,none⟩=some (.int .i64 B)∧wc.cell? ⟨b,6,none⟩=some (.pointer (some ⟨cb,0,none⟩))∧w.heap.size<b∧b<wc.heap.size∧wc.frozen? ⟨w.heap.size,0,none⟩=false∧wc.frozen? ⟨w.heap.size,1,none⟩=false∧wc.frozen? ⟨w.heap.size,2,none⟩=false∧wc.frozen? ⟨w.heap.size,3,none⟩=false∧wc.frozen? ⟨w.heap.size,4,none⟩=false∧wc.frozen? ⟨w.heap.size,5,none⟩=false∧wc.frozen? ⟨w.heap.size,6,none⟩=false∧wc.cell? ⟨w.heap.size,0,none⟩=some (.int .i64 0)∧wc.cell? ⟨w.heap.size,1,none⟩=some (.int .i64 0)∧wc.cell? ⟨w.heap.size,2,none⟩=some (.int .i64 0)∧wc.cell? ⟨w.heap.size,3,none⟩=some (.int .i64 0)∧wc.cell? ⟨w.heap.size,4,none⟩=some (.pointer none)∧wc.cell? ⟨w.heap.size,5,none⟩=some (.int .i64 0)∧wc.cell? ⟨w.heap.size,6,none⟩=some (.pointer none)∧Below w.heap.size w wc)
 case first=>
  refine wp_region_held_drew (S:=fun w'=>w'.cell? ⟨rb,0,none⟩=some (.slice (some ⟨g,0,none⟩) m c)∧w'.cell? ⟨rb,1,none⟩=some (.int .i64 (j:Int))∧w'.cell? ⟨g,j*7,none⟩=some (.int .i64 X)∧w'.cell? ⟨g,j*7+1,none⟩=some (.int .i64 Y)∧w'.cell? ⟨g,j*7+2,none⟩=some (.int .i64 D)∧w'.cell? ⟨g,j*7+3,none⟩=some (.int .i64 A)∧w'.cell? ⟨g,j*7+4,none⟩=some (.pointer (some ⟨cb,0,none⟩))∧w'.cell? ⟨g,j*7+5,none⟩=some (.int .i64 B)∧w'.cell? ⟨g,j*7+6,none⟩=some (.pointer (some ⟨cb,0,none⟩))) (by kernel_rfl) ?_ (fun hHeld=> ?_)
  · (try dsimp only)
    (first|(go_simp;done)|(go_keep;done))
  refine tq 0 hHeld ?_
  refine tq 1 hHeld ?_
  refine tq 2 hHeld ?_
  refine tq 3 hHeld ?_
  refine tq 4 hHeld ?_
  refine tq 5 hHeld ?_
  refine tq 6 hHeld ?_
  refine tq 7 hHeld ?_
  refine tq 8 hHeld ?_
  refine tq 9 hHeld ?_
  (refine tc 10 fun K hK=> ?_;go_simp;refine tr hK (fun hHeld=> ?_);clear hK K)
  (refine tc 11 fun K hK=> ?_;go_simp;refine tr hK (fun hHeld=> ?_);clear hK K)
  refine wpAnyH_done (by kernel_rfl) ?_ _
  go_wp2_with fail
  go_meet
  exact⟨_,rfl,(by go_simp),(by go_simp),(by go_simp),(by go_simp),(by go_simp),(by go_simp),(by go_simp),(by first|omega|(simp;done)|(simp;omega)),(by first|omega|(simp;done)|(simp;omega)),(by first|(go_simp;done)|(simp;done)),(by first|(go_simp;done)|(simp;done)),(by first|(go_simp;done)|(simp;done)),(by first|(go_simp;done)|(simp;done)),(by first|(go_simp;done)|(simp;done)),(by first|(go_simp;done)|(simp;done)),(by first|(go_simp;done)|(simp;done)),(by go_simp),(by go_simp),(by go_simp),(by go_simp),(by go_simp),(by go_simp),(by go_simp),bel_a⟩
 case rest=>
 obtain⟨b,rfl,k0,k1,k2,k3,k4,k5,k6,hb1,hb2,z0,z1,z2,z3,z4,z5,z6,y0,y1,y2,y3,y4,y5,y6,hB⟩:=hcut
 have hR:=h.below hB
 have q0:=hR.c0
 have q1:=hR.c1
 have q2:=hR.f1
 have lw:w.heap.size<wc.heap.size:=by omega
 clear c0 c1 f1 r0 r1 r2 r3 r4 r5 r6
 have n1:(rb=b)=False:=eq_false (by omega)
 have n2:(rb=w.heap.size)=False:=eq_false (by omega)
 have n3:(w.heap.size=b)=False:=eq_false (by omega)
 have n4:(b=rb)=False:=eq_false (by omega)
 have n5:(w.heap.size=rb)=False:=eq_false (by omega)
 have n6:(b=w.heap.size)=False:=eq_false (by omega)
 go_upto_region 2 with fail
 refine wp_region_held_drew (S:=fun w'=>w'.cell? ⟨rb,0,none⟩=some (.slice (some ⟨g,0,none⟩) m c)) (by kernel_rfl) ?_ (fun hHeld=> ?_)
 · (try dsimp only)
   (first|(go_simp;done)|(go_keep;done))
 refine tq 0 hHeld ?_
 refine tq 1 hHeld ?_
 refine tq 2 hHeld ?_
 refine tq 3 hHeld ?_
 refine tq 6 hHeld ?_
 refine tq 7 hHeld ?_
 refine tq 8 hHeld ?_
 refine tq 9 hHeld ?_
 refine tq 10 hHeld ?_
 (refine tc 4 fun K hK=> ?_;go_simp;refine tr hK (fun hHeld=> ?_);clear hK K)
 refine tq 5 hHeld ?_
 refine tq 11 hHeld ?_
 refine tq 12 hHeld ?_
 refine tq 13 hHeld ?_
 (refine tc 14 fun K hK=> ?_;go_simp;refine tr hK (fun hHeld=> ?_);clear hK K)
 refine wpAnyH_done (by kernel_rfl) ?_ _
 skip
 have hS:=hR.set i
 have hF:Fr (fun b=>b=rb) w (wc.setCell ⟨rb,1,none⟩ (.int .i64 (i:Int))):=(Fr.of_below (X:=fun b=>b=rb) hB).trans (Fr.setCell (X:=fun b=>b=rb) (p:=⟨rb,1,none⟩) rfl _)
 go_wp2_with fail
 have Y0:(wc.setCell ⟨rb,1,none⟩ (.int .i64 (i:Int))).cell? ⟨w.heap.size,0,none⟩=some (.int .i64 0):=by go_simp
 have Y1:(wc.setCell ⟨rb,1,none⟩ (.int .i64 (i:Int))).cell? ⟨w.heap.size,1,none⟩=some (.int .i64 0):=by go_simp
 have Y2:(wc.setCell ⟨rb,1,none⟩ (.int .i64 (i:Int))).cell? ⟨w.heap.size,2,none⟩=some (.int .i64 0):=by go_simp
 have Y3:(wc.setCell ⟨rb,1,none⟩ (.int .i64 (i:Int))).cell? ⟨w.heap.size,3,none⟩=some (.int .i64 0):=by go_simp
 have Y4:(wc.setCell ⟨rb,1,none⟩ (.int .i64 (i:Int))).cell? ⟨w.heap.size,4,none⟩=some (.pointer none):=by go_simp
 have Y5:(wc.setCell ⟨rb,1,none⟩ (.int .i64 (i:Int))).cell? ⟨w.heap.size,5,none⟩=some (.int .i64 0):=by go_simp
 have Y6:(wc.setCell ⟨rb,1,none⟩ (.int .i64 (i:Int))).cell? ⟨w.heap.size,6,none⟩=some (.pointer none):=by go_simp
 generalize wc.setCell ⟨rb,1,none⟩ (.int .i64 (i:Int))=wy at hS hF Y0 Y1 Y2 Y3 Y4 Y5 Y6 ⊢
 clear hR hB q0 q1 q2 h er w1_ w2_ k0 k1 k2 k3 k4 k5 k6 y0 y1 y2 y3 y4 y5 y6 z0 z1 z2 z3 z4 z5 z6
 have FF:∀ W',Fr (fun b=>b=w.heap.size) wy W'→Rg W' rb g m c cb C i∧Fr (fun b=>b=rb) w W':=fun W' hQ=>⟨hS.fr hQ (by show ¬ rb=w.heap.size;omega) (by show ¬ g=w.heap.size;omega),hF.trans' hQ (fun i hi e=>by omega)⟩
 refine bodyPost_ret (v:= .agg #[.int .i64 X,.int .i64 Y,.int .i64 D,.int .i64 A,.pointer (some ⟨cb,0,none⟩),.int .i64 B,.pointer (some ⟨cb,0,none⟩)]) ?_ rfl ⟨rfl,FF _ ?_⟩
 · clear FF hS hF
   simp[results,Tryz.results183,go_sem, *]
 · with_reducible exact Fr.drew (((((((Fr.refl _ wy).put 0 _).put 1 _).put 2 _).put 3 _).put 4 _).put 5 _|>.put 6 _)
end Go.Proofs.YthajilkjfkppoaaGreatDoor
