/- Texts of a proof. -/
import Derived.Test.YtpmjnpmnocjjgaaGreatDoorB5
import Derived.Test.YtpmjnpmnocjjgaaGreatDoorB8
import Derived.Test.YtpmjnpmnocjjgaaGreatDoorB3
import Derived.Test.YtpmjnpmnocjjgaaGreatDoorB10
import Derived.Test.YtpmjnpmnocjjgaaGreatDoorB2
import Derived.Deep.RegionHeld3
import Derived.Deep.DeepCutAuto
import Derived.Test.YtpmjnpmnocjjgaaGreatDoorB6
import Derived.Test.YtpmjnpmnocjjgaaGreatDoorB9
import Derived.Test.YtpmjnpmnocjjgaaGreatDoorB7
import Derived.Deep.QuietTactic
import Derived.BigQuiet
import Derived.Deep.RegionWith
set_option maxHeartbeats 16000000
set_option maxRecDepth 20000
namespace Go.Proofs.YtpmjnpmnocjjgaaGreatDoor
open Go.RowKit
set_option linter.unusedVariables false
set_option linter.unusedSimpArgs false
def Bn (x:Int):Prop:= -1100000000≤x∧x≤1100000000
def RS (w:World) (rb p:Nat):Prop:=∃ q,q≤p∧Rd w rb q
theorem RS.of {w0 w:World} {rb p:Nat} (h:RB w0 w rb p):RS w rb p:=by
 obtain⟨q,a,b,c⟩:=h;exact⟨q,a,b⟩
theorem RS.rb {w:World} {rb p:Nat} (h:RS w rb p):RB w w rb p:=by
 obtain⟨q,a,b⟩:=h;exact⟨q,a,b,But.refl _ _⟩
theorem RS.mono {w:World} {rb p p':Nat} (h:RS w rb p) (k:p≤p'):RS w rb p':=by
 obtain⟨q,a,b⟩:=h;exact⟨q,by omega,b⟩
theorem RS.up {w0 w:World} {rb p p':Nat} (h:RB w0 w rb p) (k:p≤p'):RS w rb p':=(RS.of h).mono k
theorem RB.but {w0 w:World} {rb p:Nat} (h:RB w0 w rb p):But rb w0 w:=by
 obtain⟨q,a,b,c⟩:=h;exact c
theorem RB.mk {w0 w:World} {rb p:Nat} (h:But rb w0 w) (k:RS w rb p):RB w0 w rb p:=by
 obtain⟨q,a,b⟩:=k;exact⟨q,a,b,h⟩
theorem But.setNew {rb:Nat} {a w:World} (h:But rb a w) {x:Addr} (hx:a.heap.size≤x.block) (u:Value):But rb a (w.setCell x u):=
 ⟨h.os,h.tape,h.output,by simpa [World.setCell] using h.size,fun k hk hn=>(Below.heap_setCell _ _ _ _ (by omega)).trans (h.block k hk hn)⟩
theorem But.drew {rb:Nat} {a w:World} (h:But rb a w):But rb a w.drew:=⟨h.os,h.tape,h.output,h.size,h.block⟩
theorem RS.lt {w:World} {rb p:Nat} (h:RS w rb p):rb<w.heap.size:=h.rb.lt
theorem RS.alloc {w:World} {rb p:Nat} (h:RS w rb p) (o:Obj):RS (w.alloc o) rb p:=RS.of (h.rb.alloc o)
theorem RS.setNew {w:World} {rb p:Nat} (h:RS w rb p) {a:Addr} (ha:rb<a.block) (v:Value):RS (w.setCell a v) rb p:=by
 obtain⟨q,k,b⟩:=h;exact⟨q,k,b.setNew ha v⟩
theorem RS.drewN {w:World} {rb p:Nat} (h:RS w rb p) (n:Nat):RS (w.drewN n) rb p:=h
theorem RS.drew {w:World} {rb p:Nat} (h:RS w rb p):RS w.drew rb p:=h
theorem RB.drewN {w0 w:World} {rb p:Nat} (h:RB w0 w rb p) (n:Nat):RB w0 (w.drewN n) rb p:=by
 obtain⟨q,a,b,c⟩:=h;exact⟨q,a,b,c.drewN n⟩
theorem RB.drew {w0 w:World} {rb p:Nat} (h:RB w0 w rb p):RB w0 w.drew rb p:=by
 obtain⟨q,a,b,c⟩:=h;exact⟨q,a,b,c.drewN 1⟩
theorem RB.trans {a b c:World} {rb p p':Nat} (h:RB a b rb p) (k:RB b c rb p'):RB a c rb p':=by
 obtain⟨q,_,_,x⟩:=h
 obtain⟨q',y,z,u⟩:=k
 exact⟨q',y,z,x.trans u⟩
theorem pick_s (rb p:Nat) (n:Int) (w:World) (hr:RS w rb p) (hp:p≤999000) (h0:1≤n) (h1:n≤4000000000):
 Calls Tryz.prog 24 #[.pointer (some ⟨rb,0,none⟩),.int .i64 n] w fun e w'=>∃ v:Int,e= .returned (.int .i64 v)∧0≤v∧v<n∧RB w w' rb (p+1):=
 pick_rb w rb p n w hr.rb hp h0 h1
theorem one_s (lo hi:Int) (rb p len cap:Nat) (cs:Array Value) (t:TypeId) (w:World) (hr:RS w rb p) (hp:p≤999000) (hcs:AllBd lo hi cs.toList) (hl:cs.size=len) (h0:1≤len) (h1:len≤100):
 Calls Tryz.prog 13 #[.pointer (some ⟨rb,0,none⟩),.slice (some ⟨w.heap.size,0,none⟩) len cap] (w.alloc (.cells cs t)) fun e w'=>∃ v:Int,e= .returned (.int .i64 v)∧lo≤v∧v≤hi∧RB w w' rb (p+1):=
 one_rb lo hi w rb p len cap cs t w hr.rb hp hcs hl h0 h1
theorem one_g (lo hi:Int) (rb p lb len cap:Nat) (xs:List Int) (w:World) (hr:RS w rb p) (hp:p≤999000) (hx:∀ x∈xs,lo≤x∧x≤hi) (hl:xs.length=len) (h0:1≤len) (h1:len≤100) (hb:lb≠rb) (hc:∀ i,i<len→w.cell? ⟨lb,i,none⟩=some (.int .i64 (xs.getD i 0))):
 Calls Tryz.prog 13 #[.pointer (some ⟨rb,0,none⟩),.slice (some ⟨lb,0,none⟩) len cap] w fun e w'=>∃ v:Int,e= .returned (.int .i64 v)∧lo≤v∧v≤hi∧RB w w' rb (p+1):=by
 obtain⟨q,hq,hd⟩:=hr
 refine(one_any rb q lb len cap xs w hd (by omega) hl h0 h1 hb hc).mono ?_
 rintro e w' ⟨v,rfl,hv,hr',hb'⟩
 obtain⟨v0,v1⟩:=hx v hv
 exact⟨v,rfl,v0,v1,q+1,by omega,hr',hb'⟩
def Bm (x:Int):Prop:= -10000≤x∧x≤10000
theorem Bm.mk {x:Int} (h: -10000≤x∧x≤10000):Bm x:=h
theorem Bm.bn {x:Int} (h:Bm x):Bn x:=by unfold Bm Bn at*;omega
theorem Bn.mk {x:Int} (h: -1100000000≤x∧x≤1100000000):Bn x:=h
theorem l11Place_s (rb p:Nat) (w:World) (hs0:RS w rb p) (hp:p≤997900):
 Calls Tryz.prog 88 #[.pointer (some ⟨rb,0,none⟩)] w fun e w'=>∃ x y:Int,e= .returned (vv x y)∧(Bm x∧Bm y)∧RB w w' rb (p+60):=by
 have hlt:=hs0.lt
 have hne:(w.heap.size=rb)=False:=eq_false (by omega)
 have hset:=cset_map
 go_enter Tryz.func88,Tryz.ntmps88
 go_wp2_with (first
  |(have _:=hr1;go_at_call 24;refine(pick_s rb (p+20) _ _ (by repeat(first|(with_reducible apply RS.setNew;rotate_left;(first|omega|(simp only[zz];omega)))|with_reducible apply RS.alloc|(with_reducible apply RS.up hr1;omega)|(with_reducible apply RS.mono hs0;omega)|with_reducible apply RS.drew|with_reducible apply RS.drewN)) (by omega) (by omega) (by omega)).mono ?_;rintro e w2 ⟨v2,rfl,va2,vb2,hr2⟩;obtain⟨hc2,hf2⟩:=RB.cells hr2;have hz2:=RB.size hr2;(try simp only[zz] at hc2 hf2 hz2);have hq2x0:w.heap.size<w2.heap.size:=(by omega);have ha2x0:(w2.heap.size=w.heap.size)=False:=eq_false (by omega);have hb2x0:(w.heap.size=w2.heap.size)=False:=eq_false (by omega);have he2x0:(w.heap.size=rb)=False:=eq_false (by omega);have hk2x0:=fun o=>hc2 (w.heap.size) o (by omega) (by omega);have hj2x0:=fun o=>hf2 (w.heap.size) o (by omega) (by omega))
  |(go_at_call 24;refine(pick_s rb (p+10) _ _ (by repeat(first|(with_reducible apply RS.setNew;rotate_left;(first|omega|(simp only[zz];omega)))|with_reducible apply RS.alloc|(with_reducible apply RS.mono hs0;omega)|with_reducible apply RS.drew|with_reducible apply RS.drewN)) (by omega) (by omega) (by omega)).mono ?_;rintro e w1 ⟨v1,rfl,va1,vb1,hr1⟩;obtain⟨hc1,hf1⟩:=RB.cells hr1;have hz1:=RB.size hr1;(try simp only[zz] at hc1 hf1 hz1);have hq1x0:w.heap.size<w1.heap.size:=(by omega);have ha1x0:(w1.heap.size=w.heap.size)=False:=eq_false (by omega);have hb1x0:(w.heap.size=w1.heap.size)=False:=eq_false (by omega);have he1x0:(w.heap.size=rb)=False:=eq_false (by omega);have hk1x0:=fun o=>hc1 (w.heap.size) o (by omega) (by omega);have hj1x0:=fun o=>hf1 (w.heap.size) o (by omega) (by omega)))
 exact bodyPost_ret (v:=vv (v1*8-1024) (v2*8-1024)) (by simp[results,Tryz.results88,go_sem, *]) rfl ⟨_,_,rfl,⟨Bm.mk ⟨by omega,by omega⟩,Bm.mk ⟨by omega,by omega⟩⟩,RB.mk (by repeat(first|(with_reducible apply But.setNew;rotate_left;(first|omega|(simp only[zz];omega)))|with_reducible apply But.alloc|with_reducible apply But.trans (k:=RB.but hr2)|with_reducible apply But.trans (k:=RB.but hr1)|with_reducible apply But.refl|with_reducible apply But.drewN|with_reducible apply But.drew)) (by repeat(first|(with_reducible apply RS.setNew;rotate_left;(first|omega|(simp only[zz];omega)))|with_reducible apply RS.alloc|(with_reducible apply RS.up hr2;omega)|(with_reducible apply RS.up hr1;omega)|(with_reducible apply RS.mono hs0;omega)|with_reducible apply RS.drew|with_reducible apply RS.drewN))⟩
theorem l11Shape_s (rb p:Nat) (w:World) (hs0:RS w rb p) (hp:p≤997900):
 Calls Tryz.prog 87 #[.pointer (some ⟨rb,0,none⟩)] w fun e w'=>∃ k g h:Int,e= .returned (s3 k g h)∧(Bn k∧Bn g∧Bn h)∧RB w w' rb (p+60):=by
 have hlt:=hs0.lt
 have hne:(w.heap.size=rb)=False:=eq_false (by omega)
 have hset:=cset_map
 go_enter Tryz.func87,Tryz.ntmps87
 go_wp2_with (first
  |(have _:=hr3;go_at_call 24;refine(pick_s rb (p+40) _ _ (by repeat(first|(with_reducible apply RS.setNew;rotate_left;(first|omega|(simp only[zz];omega)))|with_reducible apply RS.alloc|(with_reducible apply RS.up hr3;omega)|(with_reducible apply RS.mono hs0;omega)|with_reducible apply RS.drew|with_reducible apply RS.drewN)) (by omega) (by omega) (by omega)).mono ?_;rintro e w4 ⟨v4,rfl,va4,vb4,hr4⟩;obtain⟨hc4,hf4⟩:=RB.cells hr4;have hz4:=RB.size hr4;(try simp only[zz] at hc4 hf4 hz4);have hq4x0:w.heap.size<w4.heap.size:=(by omega);have ha4x0:(w4.heap.size=w.heap.size)=False:=eq_false (by omega);have hb4x0:(w.heap.size=w4.heap.size)=False:=eq_false (by omega);have he4x0:(w.heap.size=rb)=False:=eq_false (by omega);have hk4x0:=fun o=>hc4 (w.heap.size) o (by omega) (by omega);have hj4x0:=fun o=>hf4 (w.heap.size) o (by omega) (by omega))
  |(have _:=hr2;go_at_call 24;refine(pick_s rb (p+30) _ _ (by repeat(first|(with_reducible apply RS.setNew;rotate_left;(first|omega|(simp only[zz];omega)))|with_reducible apply RS.alloc|(with_reducible apply RS.up hr2;omega)|(with_reducible apply RS.mono hs0;omega)|with_reducible apply RS.drew|with_reducible apply RS.drewN)) (by omega) (by omega) (by omega)).mono ?_;rintro e w3 ⟨v3,rfl,va3,vb3,hr3⟩;obtain⟨hc3,hf3⟩:=RB.cells hr3;have hz3:=RB.size hr3;(try simp only[zz] at hc3 hf3 hz3);have hq3x0:w.heap.size<w3.heap.size:=(by omega);have ha3x0:(w3.heap.size=w.heap.size)=False:=eq_false (by omega);have hb3x0:(w.heap.size=w3.heap.size)=False:=eq_false (by omega);have he3x0:(w.heap.size=rb)=False:=eq_false (by omega);have hk3x0:=fun o=>hc3 (w.heap.size) o (by omega) (by omega);have hj3x0:=fun o=>hf3 (w.heap.size) o (by omega) (by omega))
  |(go_at_call 24;refine(pick_s rb (p+10) _ _ (by repeat(first|(with_reducible apply RS.setNew;rotate_left;(first|omega|(simp only[zz];omega)))|with_reducible apply RS.alloc|(with_reducible apply RS.mono hs0;omega)|with_reducible apply RS.drew|with_reducible apply RS.drewN)) (by omega) (by omega) (by omega)).mono ?_;rintro e w1 ⟨v1,rfl,va1,vb1,hr1⟩;obtain⟨hc1,hf1⟩:=RB.cells hr1;have hz1:=RB.size hr1;(try simp only[zz] at hc1 hf1 hz1);have hq1x0:w.heap.size<w1.heap.size:=(by omega);have ha1x0:(w1.heap.size=w.heap.size)=False:=eq_false (by omega);have hb1x0:(w.heap.size=w1.heap.size)=False:=eq_false (by omega);have he1x0:(w.heap.size=rb)=False:=eq_false (by omega);have hk1x0:=fun o=>hc1 (w.heap.size) o (by omega) (by omega);have hj1x0:=fun o=>hf1 (w.heap.size) o (by omega) (by omega))
  |(have _:=hr4;go_at_call 13;refine(one_s (1) 1000 rb (p+50) _ _ _ _ _ (by repeat(first|(with_reducible apply RS.setNew;rotate_left;(first|omega|(simp only[zz];omega)))|with_reducible apply RS.alloc|(with_reducible apply RS.up hr4;omega)|(with_reducible apply RS.mono hs0;omega)|with_reducible apply RS.drew|with_reducible apply RS.drewN)) (by omega) (by repeat(first|exact AllBd.nil|refine AllBd.cons (by omega) (by omega) ?_)) (by rfl) (by omega) (by omega)).mono ?_;rintro e w5 ⟨v5,rfl,va5,vb5,hr5⟩;obtain⟨hc5,hf5⟩:=RB.cells hr5;have hz5:=RB.size hr5;(try simp only[zz] at hc5 hf5 hz5);have hq5x0:w.heap.size<w5.heap.size:=(by omega);have ha5x0:(w5.heap.size=w.heap.size)=False:=eq_false (by omega);have hb5x0:(w.heap.size=w5.heap.size)=False:=eq_false (by omega);have he5x0:(w.heap.size=rb)=False:=eq_false (by omega);have hk5x0:=fun o=>hc5 (w.heap.size) o (by omega) (by omega);have hj5x0:=fun o=>hf5 (w.heap.size) o (by omega) (by omega))
  |(have _:=hr1;go_at_call 13;refine(one_s (1) 1000 rb (p+20) _ _ _ _ _ (by repeat(first|(with_reducible apply RS.setNew;rotate_left;(first|omega|(simp only[zz];omega)))|with_reducible apply RS.alloc|(with_reducible apply RS.up hr1;omega)|(with_reducible apply RS.mono hs0;omega)|with_reducible apply RS.drew|with_reducible apply RS.drewN)) (by omega) (by repeat(first|exact AllBd.nil|refine AllBd.cons (by omega) (by omega) ?_)) (by rfl) (by omega) (by omega)).mono ?_;rintro e w2 ⟨v2,rfl,va2,vb2,hr2⟩;obtain⟨hc2,hf2⟩:=RB.cells hr2;have hz2:=RB.size hr2;(try simp only[zz] at hc2 hf2 hz2);have hq2x0:w.heap.size<w2.heap.size:=(by omega);have ha2x0:(w2.heap.size=w.heap.size)=False:=eq_false (by omega);have hb2x0:(w.heap.size=w2.heap.size)=False:=eq_false (by omega);have he2x0:(w.heap.size=rb)=False:=eq_false (by omega);have hk2x0:=fun o=>hc2 (w.heap.size) o (by omega) (by omega);have hj2x0:=fun o=>hf2 (w.heap.size) o (by omega) (by omega)))
 · exact bodyPost_ret (v:=s3 1 v2 0) (by simp[results,Tryz.results87,go_sem, *]) rfl ⟨_,_,_,rfl,⟨Bn.mk ⟨by omega,by omega⟩,Bn.mk ⟨by omega,by omega⟩,Bn.mk ⟨by omega,by omega⟩⟩,RB.mk (by repeat(first|(with_reducible apply But.setNew;rotate_left;(first|omega|(simp only[zz];omega)))|with_reducible apply But.alloc|with_reducible apply But.trans (k:=RB.but hr3)|with_reducible apply But.trans (k:=RB.but hr2)|with_reducible apply But.trans (k:=RB.but hr1)|with_reducible apply But.refl|with_reducible apply But.drewN|with_reducible apply But.drew)) (by repeat(first|(with_reducible apply RS.setNew;rotate_left;(first|omega|(simp only[zz];omega)))|with_reducible apply RS.alloc|(with_reducible apply RS.up hr3;omega)|(with_reducible apply RS.up hr2;omega)|(with_reducible apply RS.up hr1;omega)|(with_reducible apply RS.mono hs0;omega)|with_reducible apply RS.drew|with_reducible apply RS.drewN))⟩
 · exact bodyPost_ret (v:=s3 2 v2 v5) (by simp[results,Tryz.results87,go_sem, *]) rfl ⟨_,_,_,rfl,⟨Bn.mk ⟨by omega,by omega⟩,Bn.mk ⟨by omega,by omega⟩,Bn.mk ⟨by omega,by omega⟩⟩,RB.mk (by repeat(first|(with_reducible apply But.setNew;rotate_left;(first|omega|(simp only[zz];omega)))|with_reducible apply But.alloc|with_reducible apply But.trans (k:=RB.but hr5)|with_reducible apply But.trans (k:=RB.but hr4)|with_reducible apply But.trans (k:=RB.but hr3)|with_reducible apply But.trans (k:=RB.but hr2)|with_reducible apply But.trans (k:=RB.but hr1)|with_reducible apply But.refl|with_reducible apply But.drewN|with_reducible apply But.drew)) (by repeat(first|(with_reducible apply RS.setNew;rotate_left;(first|omega|(simp only[zz];omega)))|with_reducible apply RS.alloc|(with_reducible apply RS.up hr5;omega)|(with_reducible apply RS.up hr4;omega)|(with_reducible apply RS.up hr3;omega)|(with_reducible apply RS.up hr2;omega)|(with_reducible apply RS.up hr1;omega)|(with_reducible apply RS.mono hs0;omega)|with_reducible apply RS.drew|with_reducible apply RS.drewN))⟩
def Al (w0 w:World) (ab n:Nat) (V:Nat→Int):Prop:=w0.heap.size≤ab∧ab<w.heap.size∧(∀ i,i<n→w.cell? ⟨ab,i,none⟩=some (.int .i64 (V i)))∧∀ i,i<n→w.frozen? ⟨ab,i,none⟩=false
theorem Al.up {rb:Nat} {w0 w w':World} {ab n:Nat} {V:Nat→Int} (h:Al w0 w ab n V) (hrb:rb<w0.heap.size) (k:But rb w w'):Al w0 w' ab n V:=by
 obtain⟨h1,h2,h3,h4⟩:=h
 exact⟨h1,Nat.lt_of_lt_of_le h2 k.size,fun i hi=>(k.cell (p:=⟨ab,i,none⟩) h2 (by simp only[ne_eq];omega)).trans (h3 i hi),fun i hi=>(k.frozen (p:=⟨ab,i,none⟩) h2 (by simp only[ne_eq];omega)).trans (h4 i hi)⟩
theorem Al.set {w0 w:World} {ab n:Nat} {V:Nat→Int} (h:Al w0 w ab n V) (k:Nat) (hk:k<n) (v:Int):Al w0 (w.setCell ⟨ab,k,none⟩ (.int .i64 v)) ab n (fun j=>if j=k then v else V j):=by
 obtain⟨h1,h2,h3,h4⟩:=h
 refine⟨h1,by simpa [World.setCell] using h2,fun i hi=> ?_,fun i hi=> ?_⟩
 · by_cases e:i=k
   · subst e;rw[cset_map,h3 i hi];simp
   · rw[cset_other (by intro q;injection q with q1 q2;exact e q2.symm),h3 i hi];simp[e]
 · rw[World.frozen?_setCell];exact h4 i hi
theorem but_alloc (rb:Nat) (w:World) (o:Obj):But rb w (w.alloc o):=(But.refl rb w).alloc o
theorem Al.new {w0 w:World} {cs:Array Value} {t:TypeId} {n:Nat} {V:Nat→Int} (hsz:w0.heap.size≤w.heap.size) (hc:∀ i,i<n→cs[i]? =some (.int .i64 (V i))):Al w0 (w.alloc (.cells cs t)) w.heap.size n V:=
 ⟨hsz,by simp,fun i hi=>by rw[World.cell?_alloc_new];exact hc i hi,fun i hi=>by go_simp⟩
theorem Al.congr {w0 w:World} {ab n:Nat} {V U:Nat→Int} (h:Al w0 w ab n V) (k:∀ i,i<n→V i=U i):Al w0 w ab n U:=
 ⟨h.1,h.2.1,fun i hi=>by rw[h.2.2.1 i hi,k i hi],h.2.2.2⟩
end Go.Proofs.YtpmjnpmnocjjgaaGreatDoor
namespace Go.Proofs.YtpmjnpmnocjjgaaGreatDoor
open Go.RowKit
set_option linter.unusedVariables false
set_option linter.unusedSimpArgs false
theorem OwnL.fresh0 (w:World) (base t k:Nat) (U:Nat→Int) (s:Nat) (e:w.heap.size=s) (h:base≤w.heap.size):OwnL (w.alloc (.cells #[] t)) base t k (.slice (Option.some ⟨s,0,none⟩) 0 0) 0 U:=by
 subst e
 exact⟨by simp[numL],.inr ⟨w.heap.size,0, #[],rfl,h,Go.Deep.blk_alloc_new _ _,Nat.le_refl _,Nat.zero_le _,by simp,by simp[numL]⟩⟩
theorem OwnL.drewO {w:World} {base t k n:Nat} {v:Value} {U:Nat→Int} (h:OwnL w base t k v n U):OwnL w.drew base t k v n U:=World.ownsRow.drew h
theorem cat_0 (k:Nat) (X Y:Nat→Int):∀ q,cat (0*k) X Y q=Y q:=by intro q;simp[cat]
section
variable {P:Program} {ops:Array Oper} {o:Oper} {a:Act} {w:World} {Q:Exit→Act→World→Prop}
theorem wpList_app0 {rest:List Oper} (hgd:o.guard=none) (s x:Operand) (t:TypeId) (ho:o.op= .call {callee:= .builtin .append,args:= #[s,x],argTypes:= #[t,t]})
 (base e k bytes:Nat) (z:Value) (ht:P.underlying t=some (.slice e)) (hinfo:(P.info? e).map (fun i=>(i.zero,i.size,i.bytes))=some (some z,k,bytes)) (hzs:z.cells.size=k) (hk:0<k)
 (v:Value) (U:Nat→Int) (hs:a.eval s=v) (h:OwnL w base e k v 0 U) (ad:Option Addr) (m c:Nat) (X:Nat→Int) (hxx:a.eval x= .slice ad m c) (hx:Flat w ad (m*k) X)
 (h63:m≤maxLen) (hbytes:m*bytes≤140737488355328) (hbase:base≤w.heap.size)
 (hK:∀ a' c' w',OwnL w' base e k (.slice a' m c') m X→w.grownBy w' v.ownBlock→wpList P ops Q rest (a.put o.dst (.slice a' m c')) w'):wpList P ops Q (o::rest) a w:=
 wpList_app hgd s x t ho base e k bytes z ht hinfo hzs hk v 0 U hs h ad m c X hxx hx (by rw[Nat.zero_add];exact h63) (by rw[Nat.zero_add];exact hbytes) hbase fun a' c' w' h1 h2=>by
  rw[Nat.zero_add] at h1 ⊢
  exact hK a' c' w' (h1.congr fun q _=>cat_0 k _ _ q) h2
end
theorem l8Copy_any (a:Option Addr) (n c:Nat) (U:Nat→Int) (w:World) (h:Flat w a (n*12) U) (hn:n≤1048576):
 Calls Tryz.prog 65 #[.slice a n c] w fun e w'=>∃ a1 c1,e= .returned (.slice a1 n c1)∧OutL w w' 35 12 a1 n c1 U:=by
 have hset:=cset_map
 have hE:Below w.heap.size w (w.alloc (.cells #[] 35)):=(Below.refl _ _).alloc (Nat.le_refl _) _
 have ho:=OwnL.fresh0 w w.heap.size 35 12 (fun _=>0) _ rfl (Nat.le_refl _)
 go_enter Tryz.func65,Tryz.ntmps65
 go_wp2_with (refine wpList_app0 rfl _ _ _ rfl w.heap.size 35 12 96 zcBody Tryz.underlying23 infoItBody rfl (by decide) _ (fun _=>0) rfl ho _ n _ U rfl (h.below hE) (by unfold maxLen;omega) (by omega) (by simp) ?_;intro a1 c1 w1 ho1 hg1)
 go_ret
 exact⟨_,_,rfl,hE.grown hg1 (by simp) (fun b e=>(ho.lt b e).1),ho1⟩
def putRow (U:Nat→Int) (p:Nat) (V:Nat→Int):Nat→Int:=fun q=>if p*12≤q∧q<p*12+12 then V (q-p*12) else U q
theorem put12 {w4:World} {base n g c p:Nat} {U:Nat→Int} (h:OwnL w4 base 35 12 (.slice (some ⟨g,0,none⟩) n c) n U) (hp:p<n) (V:Nat→Int):
 OwnL ((((((((((((w4.setCell ⟨g,p*12,none⟩ (.int .i64 (V 0))).setCell ⟨g,p*12+1,none⟩ (.int .i64 (V 1))).setCell ⟨g,p*12+2,none⟩ (.int .i64 (V 2))).setCell ⟨g,p*12+3,none⟩ (.int .i64 (V 3))).setCell ⟨g,p*12+4,none⟩ (.int .i64 (V 4))).setCell ⟨g,p*12+5,none⟩ (.int .i64 (V 5))).setCell ⟨g,p*12+6,none⟩ (.int .i64 (V 6))).setCell ⟨g,p*12+7,none⟩ (.int .i64 (V 7))).setCell ⟨g,p*12+8,none⟩ (.int .i64 (V 8))).setCell ⟨g,p*12+9,none⟩ (.int .i64 (V 9))).setCell ⟨g,p*12+10,none⟩ (.int .i64 (V 10))).setCell ⟨g,p*12+11,none⟩ (.int .i64 (V 11))) base 35 12 (.slice (some ⟨g,0,none⟩) n c) n (putRow U p V):=by
 have q1:=h.setq (p*12) (by omega) (V 0)
 have q2:=q1.setq (p*12+1) (by omega) (V 1)
 have q3:=q2.setq (p*12+2) (by omega) (V 2)
 have q4:=q3.setq (p*12+3) (by omega) (V 3)
 have q5:=q4.setq (p*12+4) (by omega) (V 4)
 have q6:=q5.setq (p*12+5) (by omega) (V 5)
 have q7:=q6.setq (p*12+6) (by omega) (V 6)
 have q8:=q7.setq (p*12+7) (by omega) (V 7)
 have q9:=q8.setq (p*12+8) (by omega) (V 8)
 have q10:=q9.setq (p*12+9) (by omega) (V 9)
 have q11:=q10.setq (p*12+10) (by omega) (V 10)
 have q12:=q11.setq (p*12+11) (by omega) (V 11)
 refine q12.congr fun q _=> ?_
 unfold putRow
 by_cases e:p*12≤q∧q<p*12+12
 · rw[if_pos e]
   obtain⟨d,rfl⟩:∃ d,q=p*12+d:=⟨q-p*12,by omega⟩
   rw[Nat.add_sub_cancel_left]
   rcases(show d=0∨d=1∨d=2∨d=3∨d=4∨d=5∨d=6∨d=7∨d=8∨d=9∨d=10∨d=11 by omega) with rfl|rfl|rfl|rfl|rfl|rfl|rfl|rfl|rfl|rfl|rfl|rfl<;>simp
 · rw[if_neg e]
   repeat rw[if_neg (by omega)]
theorem putFr {w4:World} {g p:Nat} (V:Nat→Int):Fr (fun b=>b=g) w4 ((((((((((((w4.setCell ⟨g,p*12,none⟩ (.int .i64 (V 0))).setCell ⟨g,p*12+1,none⟩ (.int .i64 (V 1))).setCell ⟨g,p*12+2,none⟩ (.int .i64 (V 2))).setCell ⟨g,p*12+3,none⟩ (.int .i64 (V 3))).setCell ⟨g,p*12+4,none⟩ (.int .i64 (V 4))).setCell ⟨g,p*12+5,none⟩ (.int .i64 (V 5))).setCell ⟨g,p*12+6,none⟩ (.int .i64 (V 6))).setCell ⟨g,p*12+7,none⟩ (.int .i64 (V 7))).setCell ⟨g,p*12+8,none⟩ (.int .i64 (V 8))).setCell ⟨g,p*12+9,none⟩ (.int .i64 (V 9))).setCell ⟨g,p*12+10,none⟩ (.int .i64 (V 10))).setCell ⟨g,p*12+11,none⟩ (.int .i64 (V 11))):=
 (((((((((((((Fr.refl (fun b=>b=g) w4).trans (Fr.setCell (X:=fun b=>b=g) rfl _)).trans (Fr.setCell (X:=fun b=>b=g) rfl _)).trans (Fr.setCell (X:=fun b=>b=g) rfl _)).trans (Fr.setCell (X:=fun b=>b=g) rfl _)).trans (Fr.setCell (X:=fun b=>b=g) rfl _)).trans (Fr.setCell (X:=fun b=>b=g) rfl _)).trans (Fr.setCell (X:=fun b=>b=g) rfl _)).trans (Fr.setCell (X:=fun b=>b=g) rfl _)).trans (Fr.setCell (X:=fun b=>b=g) rfl _)).trans (Fr.setCell (X:=fun b=>b=g) rfl _)).trans (Fr.setCell (X:=fun b=>b=g) rfl _)).trans (Fr.setCell (X:=fun b=>b=g) rfl _))
theorem OutL.on {w w1 w2:World} {t k n c:Nat} {a:Option Addr} {R:Nat→Int} (h:OutL w w1 t k a n c R) (hb:Below w1.heap.size w1 w2):OutL w w2 t k a n c R:=⟨h.bel.trans (hb.mono h.bel.size),h.own.below hb⟩
theorem l6Sleeps_k (V:Nat→Int) (w:World) (b:Bool) (e:decide (8≤V 11)=b):
 Calls Tryz.prog 64 #[bodyW V] w fun e w'=>e= .returned (.bool b)∧Below w.heap.size w w':=by
 have hset:=cset_map
 subst e
 go_enter Tryz.func64,Tryz.ntmps64
 go_wp2_with fail
 go_ret
 exact⟨ret_bool (by simp),bel_a⟩
theorem l6Speed_any (V:Nat→Int) (w:World) (b6: -20000000≤V 6∧V 6≤20000000) (b7: -20000000≤V 7∧V 7≤20000000):
 Calls Tryz.prog 69 #[bodyW V] w fun e w'=>e= .returned (vv (spX V) (spY V))∧Below w.heap.size w w':=by
 have t6:=tdiv_bd (x:=V 6) (B:=20000000) (V 8) (by omega)
 have t7:=tdiv_bd (x:=V 7) (B:=20000000) (V 8) (by omega)
 have e6:IntKind.i64.wrap ((V 6).tdiv (V 8))=(V 6).tdiv (V 8):=i64w (by omega)
 have e7:IntKind.i64.wrap ((V 7).tdiv (V 8))=(V 7).tdiv (V 8):=i64w (by omega)
 have hset:=cset_map
 unfold spX spY
 by_cases m:V 8=0
 · rw[if_pos m,if_pos m]
   go_enter Tryz.func69,Tryz.ntmps69
   go_wp2_with fail
   exact bodyPost_ret (v:=vv 0 0) (by simp[results,Tryz.results69,go_sem, *]) rfl ⟨rfl,bel_a⟩
 · rw[if_neg m,if_neg m]
   go_enter Tryz.func69,Tryz.ntmps69
   go_upto_region 3 with fail
   refine wp_region_held_drew (S:=fun w'=>w'.cell? ⟨w.heap.size,0,none⟩=some (.int .i64 (V 0))∧w'.cell? ⟨w.heap.size,1,none⟩=some (.int .i64 (V 1))∧w'.cell? ⟨w.heap.size,2,none⟩=some (.int .i64 (V 2))∧w'.cell? ⟨w.heap.size,3,none⟩=some (.int .i64 (V 3))∧w'.cell? ⟨w.heap.size,4,none⟩=some (.int .i64 (V 4))∧w'.cell? ⟨w.heap.size,5,none⟩=some (.int .i64 (V 5))∧w'.cell? ⟨w.heap.size,6,none⟩=some (.int .i64 (V 6))∧w'.cell? ⟨w.heap.size,7,none⟩=some (.int .i64 (V 7))∧w'.cell? ⟨w.heap.size,8,none⟩=some (.int .i64 (V 8))∧w'.cell? ⟨w.heap.size,9,none⟩=some (.int .i64 (V 9))∧w'.cell? ⟨w.heap.size,10,none⟩=some (.int .i64 (V 10))∧w'.cell? ⟨w.heap.size,11,none⟩=some (.int .i64 (V 11))) (by kernel_rfl) ?_ (fun hHeld=> ?_)
   · (try dsimp only)
     (first|(go_simp;done)|(go_keep;done))
   refine tq 0 hHeld ?_
   refine tq 1 hHeld ?_
   refine tq 2 hHeld ?_
   refine tq 3 hHeld ?_
   refine tq 4 hHeld ?_
   refine tq 5 hHeld ?_
   refine tq 6 hHeld ?_
   refine tq 7 hHeld ?_
   refine tq 8 hHeld ?_
   refine tq 9 hHeld ?_
   refine tq 10 hHeld ?_
   refine tq 11 hHeld ?_
   refine tq 12 hHeld ?_
   (refine tc 13 fun K hK=> ?_;go_simp;refine tr hK (fun hHeld=> ?_);clear hK K)
   refine wpAnyH_done (by kernel_rfl) ?_ _
   go_wp2_with fail
   exact bodyPost_ret (v:=vv ((V 6).tdiv (V 8)) ((V 7).tdiv (V 8))) (by simp[results,Tryz.results69,go_sem, *]) rfl ⟨rfl,bel_a⟩
end Go.Proofs.YtpmjnpmnocjjgaaGreatDoor
namespace Go.Proofs.YtpmjnpmnocjjgaaGreatDoor
open Go.RowKit
set_option linter.unusedVariables false
set_option linter.unusedSimpArgs false
theorem dentOf_q (x y k:Int) (b:Bool) (w:World) (e:hitB x y k=b):
 Calls Tryz.prog 165 #[s3 x y k] w fun e w'=>e= .returned (.tuple #[s3 x y k,.bool b])∧Below w.heap.size w w':=by
 have hset:=cset_map
 go_enter Tryz.func165,Tryz.ntmps165
 go_upto_region 1 with fail
 go_cut [4] (fun s wc=>∃ B,s= .pointer (some ⟨B,0,none⟩)∧wc.cell? ⟨B,0,none⟩=some (.int .i64 x)∧wc.cell? ⟨B,1,none⟩=some (.int .i64 y)∧wc.cell? ⟨B,2,none⟩=some (.int .i64 k)∧wc.cell? ⟨w.heap.size+1,0,none⟩=some (.int .i64 0)∧wc.cell? ⟨w.heap.size+1,1,none⟩=some (.int .i64 0)∧wc.cell? ⟨w.heap.size+1,2,none⟩=some (.int .i64 0)∧wc.frozen? ⟨w.heap.size+1,0,none⟩=false∧wc.frozen? ⟨w.heap.size+1,1,none⟩=false∧wc.frozen? ⟨w.heap.size+1,2,none⟩=false∧w.heap.size+1<B∧B<wc.heap.size∧Below w.heap.size w wc)
 case first=>
  refine wp_region_held_drew (S:=fun w'=>w'.cell? ⟨w.heap.size,0,none⟩=some (.int .i64 x)∧w'.cell? ⟨w.heap.size,1,none⟩=some (.int .i64 y)∧w'.cell? ⟨w.heap.size,2,none⟩=some (.int .i64 k)) (by kernel_rfl) ?_ (fun hHeld=> ?_)
  · (try dsimp only)
    (first|(go_simp;done)|(go_keep;done))
  refine tq 0 hHeld ?_
  refine tq 1 hHeld ?_
  refine tq 3 hHeld ?_
  refine tq 4 hHeld ?_
  refine wpAnyH_ready (rs:=[2,6]) (by kernel_rfl) (by simp) ?_
  refine AllReadyH.cons rfl (fun K hK=> ?_) (AllReadyH.cons rfl (fun K hK=> ?_) AllReadyH.nil)
  · (go_simp;(go_at_call 160;refine(wayOf_any _ _ _).mono ?_;rintro e w1 ⟨rfl,hb1⟩;obtain⟨hc1,hf1⟩:=bcell hb1;have hz1:=hb1.size;(try simp only[zz] at hc1 hf1 hz1);have:=kf2 hb1 w.heap.size;(try have q:=kfz hc1 hf1 hz1 (w.heap.size+1+1) (by omega);obtain⟨ht1x0,hu1x0,hv1x0,hw1x0⟩:=q);clear hc1 hf1);(try go_wp2_with fail);refine tr hK (fun hHeld=> ?_);clear hK K)
    refine tq 5 hHeld ?_
    (refine tc 6 fun K hK=> ?_;go_simp;refine tr hK (fun hHeld=> ?_);clear hK K)
    (refine tc 7 fun K hK=> ?_;go_simp;refine tr hK (fun hHeld=> ?_);clear hK K)
    refine wpAnyH_done (by kernel_rfl) ?_ _
    go_wp2_with fail
    go_meet
    exact⟨_,rfl,(by go_simp),(by go_simp),(by go_simp),(by go_simp),(by go_simp),(by go_simp),(by first|(go_simp;done)|(simp;done)),(by first|(go_simp;done)|(simp;done)),(by first|(go_simp;done)|(simp;done)),(by first|omega|(simp;done)|(simp;omega)),(by first|omega|(simp;done)|(simp;omega)),bel_a⟩
  · (go_simp;refine tr hK (fun hHeld=> ?_);clear hK K)
    (refine tc 2 fun K hK=> ?_;go_simp;(go_at_call 160;refine(wayOf_any _ _ _).mono ?_;rintro e w1 ⟨rfl,hb1⟩;obtain⟨hc1,hf1⟩:=bcell hb1;have hz1:=hb1.size;(try simp only[zz] at hc1 hf1 hz1);have:=kf2 hb1 w.heap.size;(try have q:=kfz hc1 hf1 hz1 (w.heap.size+1+1) (by omega);obtain⟨ht1x0,hu1x0,hv1x0,hw1x0⟩:=q);clear hc1 hf1);(try go_wp2_with fail);refine tr hK (fun hHeld=> ?_);clear hK K)
    refine tq 5 hHeld ?_
    (refine tc 7 fun K hK=> ?_;go_simp;refine tr hK (fun hHeld=> ?_);clear hK K)
    refine wpAnyH_done (by kernel_rfl) ?_ _
    go_wp2_with fail
    go_meet
    exact⟨_,rfl,(by go_simp),(by go_simp),(by go_simp),(by go_simp),(by go_simp),(by go_simp),(by first|(go_simp;done)|(simp;done)),(by first|(go_simp;done)|(simp;done)),(by first|(go_simp;done)|(simp;done)),(by first|omega|(simp;done)|(simp;omega)),(by first|omega|(simp;done)|(simp;omega)),bel_a⟩
 case rest=>
 obtain⟨B,rfl,x0,x1,x2,r0,r1,r2,f0,f1,f2,hlo,hhi,hbel⟩:=hcut
 have kz:=hbel.size
 have n1:(w.heap.size+1=B)=False:=eq_false (by omega)
 have n2:(B=w.heap.size+1)=False:=eq_false (by omega)
 have lz:w.heap.size+1<wc.heap.size:=by omega
 unfold hitB at e
 go_upto_region 2 with fail
 cases k1:inB 256 x y with
 | false=>
   rw[k1] at e
   simp only[Bool.false_and] at e
   subst e
   refine wp_region_held_drew (S:=fun w'=>w'.cell? ⟨B,0,none⟩=some (.int .i64 x)∧w'.cell? ⟨B,1,none⟩=some (.int .i64 y)∧w'.cell? ⟨B,2,none⟩=some (.int .i64 k)) (by kernel_rfl) ?_ (fun hHeld=> ?_)
   · (try dsimp only)
     (first|(go_simp;done)|(go_keep;done))
   refine tq 0 hHeld ?_
   refine tq 1 hHeld ?_
   refine tq 2 hHeld ?_
   (refine tc 3 fun K hK=> ?_;go_simp;(go_at_call 75;refine(within2_q _ _ _ _ _ (by omega) (by omega) (by with_reducible assumption)).mono ?_;rintro e w2 ⟨rfl,hb2⟩;have hz2:=hb2.size;(try simp only[zz] at hz2);have:=kfa hb2 (w.heap.size+1);have:=kfa hb2 B);(try go_wp2_with fail);refine tr hK (fun hHeld=> ?_);clear hK K)
   refine tq 4 hHeld ?_
   refine tn 5 hHeld ?_
   refine tn 6 hHeld ?_
   refine tn 7 hHeld ?_
   refine tq 8 hHeld ?_
   (refine tc 9 fun K hK=> ?_;go_simp;refine tr hK (fun hHeld=> ?_);clear hK K)
   refine tq 10 hHeld ?_
   refine wpAnyH_done (by kernel_rfl) ?_ _
   go_wp2_with fail
   exact bodyPost_ret (v:= .tuple #[s3 x y k,.bool false]) (by simp[results,Tryz.results165,go_sem, *]) rfl ⟨rfl,bel_a⟩
 | true=>
   rw[k1] at e
   simp only[Bool.true_and] at e
   refine wp_region_held_drew (S:=fun w'=>w'.cell? ⟨B,0,none⟩=some (.int .i64 x)∧w'.cell? ⟨B,1,none⟩=some (.int .i64 y)∧w'.cell? ⟨B,2,none⟩=some (.int .i64 k)) (by kernel_rfl) ?_ (fun hHeld=> ?_)
   · (try dsimp only)
     (first|(go_simp;done)|(go_keep;done))
   refine tq 0 hHeld ?_
   refine tq 1 hHeld ?_
   refine tq 2 hHeld ?_
   (refine tc 3 fun K hK=> ?_;go_simp;(go_at_call 75;refine(within2_q _ _ _ _ _ (by omega) (by omega) (by with_reducible assumption)).mono ?_;rintro e w2 ⟨rfl,hb2⟩;have hz2:=hb2.size;(try simp only[zz] at hz2);have:=kfa hb2 (w.heap.size+1);have:=kfa hb2 B);(try go_wp2_with fail);refine tr hK (fun hHeld=> ?_);clear hK K)
   refine tq 4 hHeld ?_
   refine tq 5 hHeld ?_
   refine tq 6 hHeld ?_
   (refine tc 7 fun K hK=> ?_;go_simp;(go_at_call 71;refine(upTo_q _ _ _ _ (by with_reducible assumption)).mono ?_;rintro e w3 ⟨rfl,hb3⟩;have hz3:=hb3.size;(try simp only[zz] at hz3);have:=kfa hb3 (w.heap.size+1);have:=kfa hb3 B);(try go_wp2_with fail);refine tr hK (fun hHeld=> ?_);clear hK K)
   refine tq 8 hHeld ?_
   (refine tc 9 fun K hK=> ?_;go_simp;refine tr hK (fun hHeld=> ?_);clear hK K)
   refine tq 10 hHeld ?_
   refine wpAnyH_done (by kernel_rfl) ?_ _
   go_wp2_with fail
   exact bodyPost_ret (v:= .tuple #[s3 x y k,.bool b]) (by simp[results,Tryz.results165,go_sem, *]) rfl ⟨rfl,bel_a⟩
theorem spanAround_any (x y u v:Int) (w:World) (hx: -4000000000≤x∧x≤4000000000) (hy: -4000000000≤y∧y≤4000000000) (hu: -4000000000≤u∧u≤4000000000) (hv: -4000000000≤v∧v≤4000000000):
 Calls Tryz.prog 189 #[vv x y,vv u v] w fun e w'=>e= .returned (b4 (x-u) (y-v) (x+u) (y+v))∧Below w.heap.size w w':=by
 have hset:=cset_map
 go_enter Tryz.func189,Tryz.ntmps189
 go_wp2
 go_region_held3 (fun w'=>w'.cell? ⟨w.heap.size,0,none⟩=some (.int .i64 x)∧w'.cell? ⟨w.heap.size,1,none⟩=some (.int .i64 y)∧w'.cell? ⟨w.heap.size+1,0,none⟩=some (.int .i64 u)∧w'.cell? ⟨w.heap.size+1,1,none⟩=some (.int .i64 v)) (first|(go_simp;done)|(go_keep;done)) (first
  |(go_at_call 155;refine(plus_any _ _ _ _ _ (by omega) (by omega) (by omega) (by omega)).mono ?_;rintro e w1 ⟨rfl,hb1⟩;obtain⟨hc1,hf1⟩:=bcell hb1;have hl1:=blt hb1;have hz1:=hb1.size;(try simp only[zz] at hc1 hf1 hl1 hz1);(try have hq1x0:w.heap.size<w1.heap.size:=(by omega));(try have hq1x1:w.heap.size+1<w1.heap.size:=(by omega));(try have hq1x2:w.heap.size+1+1<w1.heap.size:=(by omega)))
  |(go_at_call 134;refine(less_any _ _ _ _ _ (by omega) (by omega) (by omega) (by omega)).mono ?_;rintro e w1 ⟨rfl,hb1⟩;obtain⟨hc1,hf1⟩:=bcell hb1;have hl1:=blt hb1;have hz1:=hb1.size;(try simp only[zz] at hc1 hf1 hl1 hz1);(try have hq1x0:w.heap.size<w1.heap.size:=(by omega));(try have hq1x1:w.heap.size+1<w1.heap.size:=(by omega));(try have hq1x2:w.heap.size+1+1<w1.heap.size:=(by omega))))
 all_goals
  go_wp2
  exact bodyPost_ret (v:=b4 (x-u) (y-v) (x+u) (y+v)) (by simp[results,Tryz.results189,go_sem, *]) rfl ⟨rfl,bel_a⟩
end Go.Proofs.YtpmjnpmnocjjgaaGreatDoor
