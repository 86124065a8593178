/- Texts of a proof. -/
import Derived.Test.YtbdbbdjifgpgeaaGreatB23
import Derived.Deep.RegionHeld3
import Derived.Deep.DeepCutAuto
import Derived.Test.YtbdbbdjifgpgeaaGreatB5
import Derived.Test.YtbdbbdjifgpgeaaGreatB6
import Derived.Test.YtbdbbdjifgpgeaaGreatSBodk
import Derived.Test.YtbdbbdjifgpgeaaGreatS8o
import Derived.Test.YtbdbbdjifgpgeaaGreatB25
set_option maxHeartbeats 16000000
set_option maxRecDepth 20000
namespace Go.Proofs.YtbdbbdjifgpgeaaGreat
open Go.RowKit
set_option linter.unusedVariables false
set_option linter.unusedSimpArgs false
structure BL (w w':World) (rb p:Nat) (L:Bls):Prop where
 rs:RS w' rb p
 but:But rb w w'
 lo:rb<w.heap.size
 al:∀ x∈L,Al w w' x.1 x.2.1 x.2.2
theorem BL.start {w:World} {rb p:Nat} (h:RS w rb p):BL w w rb p []:=⟨h,But.refl _ _,h.lt,fun x hx=>by cases hx⟩
theorem BL.call {w w' w1:World} {rb p p1:Nat} {L:Bls} (h:BL w w' rb p L) (k:RB w' w1 rb p1):BL w w1 rb p1 L:=
 ⟨RS.of k,h.but.trans k.but,h.lo,fun x hx=>(h.al x hx).up h.lo k.but⟩
theorem BL.calb {w w' w1:World} {rb p:Nat} {L:Bls} (h:BL w w' rb p L) (k:Below w'.heap.size w' w1):BL w w1 rb p L:=by
 obtain⟨q,a,b⟩:=h.rs
 exact h.call (RB.mk (But.of_below k) ⟨q,a,b.below k⟩)
theorem BL.mono {w w':World} {rb p p1:Nat} {L:Bls} (h:BL w w' rb p L) (k:p≤p1):BL w w' rb p1 L:=⟨h.rs.mono k,h.but,h.lo,h.al⟩
theorem BL.drew {w w':World} {rb p:Nat} {L:Bls} (h:BL w w' rb p L):BL w w'.drew rb p L:=⟨h.rs.drew,h.but.drew,h.lo,h.al⟩
theorem BL.new {w w':World} {rb p:Nat} {L:Bls} (h:BL w w' rb p L) (b n:Nat) (V:Nat→Int) {cs:Array Value} {t:TypeId} (hb:b=w'.heap.size) (hc:∀ i,i<n→cs[i]? =some (.int .i64 (V i))):
 BL w (w'.alloc (.cells cs t)) rb p ((b,n,V)::L):=by
 subst hb
 refine⟨h.rs.alloc _,h.but.alloc _,h.lo,fun x hx=> ?_⟩
 rcases List.mem_cons.mp hx with rfl|hx
 · exact Al.new h.but.size hc
 · exact(h.al x hx).bl (balloc _ _) (h.al x hx).2.1
theorem BL.alloc {w w':World} {rb p:Nat} {L:Bls} (h:BL w w' rb p L) (o:Obj):BL w (w'.alloc o) rb p L:=
 ⟨h.rs.alloc _,h.but.alloc _,h.lo,fun x hx=>(h.al x hx).bl (balloc _ _) (h.al x hx).2.1⟩
theorem BL.sub {w w':World} {rb p:Nat} {L M:Bls} (h:BL w w' rb p L) (k:∀ x∈M,x∈L):BL w w' rb p M:=⟨h.rs,h.but,h.lo,fun x hx=>h.al x (k x hx)⟩
theorem BL.get {w w':World} {rb p:Nat} {L:Bls} (h:BL w w' rb p L) {x:Nat×Nat×(Nat→Int)} (hx:x∈L):Al w w' x.1 x.2.1 x.2.2:=h.al x hx
theorem BL.lt {w w':World} {rb p:Nat} {L:Bls} (h:BL w w' rb p L) {x:Nat×Nat×(Nat→Int)} (hx:x∈L):x.1<w'.heap.size:=(h.al x hx).2.1
theorem BL.set {w w':World} {rb p b n:Nat} {V:Nat→Int} {L:Bls} (h:BL w w' rb p ((b,n,V)::L)) (hne:∀ x∈L,x.1≠b) (k:Nat) (hk:k<n) (v:Int):
 BL w (w'.setCell ⟨b,k,none⟩ (.int .i64 v)) rb p ((b,n,fun j=>if j=k then v else V j)::L):=by
 have hb:=h.al _ (List.mem_cons_self ..)
 have hlo:=hb.1
 dsimp only at hlo
 have h0:=h.lo
 refine⟨h.rs.setNew (by dsimp only;omega) _,h.but.setNew (by simpa using hlo) _,h.lo,fun x hx=> ?_⟩
 rcases List.mem_cons.mp hx with rfl|hx
 · exact hb.set k hk v
 · exact(h.al x (List.mem_cons_of_mem _ hx)).off (hne x hx) _
theorem BL.headc {w w':World} {rb p b n:Nat} {V U:Nat→Int} {L:Bls} (h:BL w w' rb p ((b,n,V)::L)) (k:∀ i,i<n→V i=U i):BL w w' rb p ((b,n,U)::L):=by
 refine⟨h.rs,h.but,h.lo,fun x hx=> ?_⟩
 rcases List.mem_cons.mp hx with rfl|hx
 · exact(h.al _ (List.mem_cons_self ..)).congr k
 · exact h.al x (List.mem_cons_of_mem _ hx)
theorem BL.done {w w':World} {rb p:Nat} {L:Bls} (h:BL w w' rb p L):RB w w' rb p:=RB.mk h.but h.rs
theorem sh_r {g:Int} (h:1≤g∧g≤25600):shB 1 g 0=true:=by unfold shB rdB;simp[h]
theorem sh_b {g k:Int} (h:1≤g∧g≤25600) (h2:1≤k∧k≤25600):shB 2 g k=true:=by unfold shB bxB;simp[h,h2]
theorem l11Shape_k (rb p:Nat) (w:World) (hs0:RS w rb p) (hp:p≤997900):
 Calls Tryz.prog 70 #[.pointer (some ⟨rb,0,none⟩)] w fun e w'=>∃ k g h:Int,e= .returned (s3 k g h)∧shB k g h=true∧RB w w' rb (p+60):=by
 have hlt:=hs0.lt
 have hne:(w.heap.size=rb)=False:=eq_false (by omega)
 have hset:=cset_map
 go_enter Tryz.func70,Tryz.ntmps70
 go_wp2_with (first
  |(have _:=hr3;go_at_call 13;refine(pick_s rb (p+40) _ _ (by repeat(first|(with_reducible apply RS.setNew;rotate_left;(first|omega|(simp only[zz];omega)))|with_reducible apply RS.alloc|(with_reducible apply RS.up hr3;omega)|(with_reducible apply RS.mono hs0;omega)|with_reducible apply RS.drew|with_reducible apply RS.drewN)) (by omega) (by omega) (by omega)).mono ?_;rintro e w4 ⟨v4,rfl,va4,vb4,hr4⟩;obtain⟨hc4,hf4⟩:=RB.cells hr4;have hz4:=RB.size hr4;(try simp only[zz] at hc4 hf4 hz4);have hq4x0:w.heap.size<w4.heap.size:=(by omega);have ha4x0:(w4.heap.size=w.heap.size)=False:=eq_false (by omega);have hb4x0:(w.heap.size=w4.heap.size)=False:=eq_false (by omega);have he4x0:(w.heap.size=rb)=False:=eq_false (by omega);have hk4x0:=fun o=>hc4 (w.heap.size) o (by omega) (by omega);have hj4x0:=fun o=>hf4 (w.heap.size) o (by omega) (by omega))
  |(have _:=hr2;go_at_call 13;refine(pick_s rb (p+30) _ _ (by repeat(first|(with_reducible apply RS.setNew;rotate_left;(first|omega|(simp only[zz];omega)))|with_reducible apply RS.alloc|(with_reducible apply RS.up hr2;omega)|(with_reducible apply RS.mono hs0;omega)|with_reducible apply RS.drew|with_reducible apply RS.drewN)) (by omega) (by omega) (by omega)).mono ?_;rintro e w3 ⟨v3,rfl,va3,vb3,hr3⟩;obtain⟨hc3,hf3⟩:=RB.cells hr3;have hz3:=RB.size hr3;(try simp only[zz] at hc3 hf3 hz3);have hq3x0:w.heap.size<w3.heap.size:=(by omega);have ha3x0:(w3.heap.size=w.heap.size)=False:=eq_false (by omega);have hb3x0:(w.heap.size=w3.heap.size)=False:=eq_false (by omega);have he3x0:(w.heap.size=rb)=False:=eq_false (by omega);have hk3x0:=fun o=>hc3 (w.heap.size) o (by omega) (by omega);have hj3x0:=fun o=>hf3 (w.heap.size) o (by omega) (by omega))
  |(go_at_call 13;refine(pick_s rb (p+10) _ _ (by repeat(first|(with_reducible apply RS.setNew;rotate_left;(first|omega|(simp only[zz];omega)))|with_reducible apply RS.alloc|(with_reducible apply RS.mono hs0;omega)|with_reducible apply RS.drew|with_reducible apply RS.drewN)) (by omega) (by omega) (by omega)).mono ?_;rintro e w1 ⟨v1,rfl,va1,vb1,hr1⟩;obtain⟨hc1,hf1⟩:=RB.cells hr1;have hz1:=RB.size hr1;(try simp only[zz] at hc1 hf1 hz1);have hq1x0:w.heap.size<w1.heap.size:=(by omega);have ha1x0:(w1.heap.size=w.heap.size)=False:=eq_false (by omega);have hb1x0:(w.heap.size=w1.heap.size)=False:=eq_false (by omega);have he1x0:(w.heap.size=rb)=False:=eq_false (by omega);have hk1x0:=fun o=>hc1 (w.heap.size) o (by omega) (by omega);have hj1x0:=fun o=>hf1 (w.heap.size) o (by omega) (by omega))
  |(have _:=hr4;go_at_call 45;refine(one_s (1) 1000 rb (p+50) _ _ _ _ _ (by repeat(first|(with_reducible apply RS.setNew;rotate_left;(first|omega|(simp only[zz];omega)))|with_reducible apply RS.alloc|(with_reducible apply RS.up hr4;omega)|(with_reducible apply RS.mono hs0;omega)|with_reducible apply RS.drew|with_reducible apply RS.drewN)) (by omega) (by repeat(first|exact AllBd.nil|refine AllBd.cons (by omega) (by omega) ?_)) (by rfl) (by omega) (by omega)).mono ?_;rintro e w5 ⟨v5,rfl,va5,vb5,hr5⟩;obtain⟨hc5,hf5⟩:=RB.cells hr5;have hz5:=RB.size hr5;(try simp only[zz] at hc5 hf5 hz5);have hq5x0:w.heap.size<w5.heap.size:=(by omega);have ha5x0:(w5.heap.size=w.heap.size)=False:=eq_false (by omega);have hb5x0:(w.heap.size=w5.heap.size)=False:=eq_false (by omega);have he5x0:(w.heap.size=rb)=False:=eq_false (by omega);have hk5x0:=fun o=>hc5 (w.heap.size) o (by omega) (by omega);have hj5x0:=fun o=>hf5 (w.heap.size) o (by omega) (by omega))
  |(have _:=hr1;go_at_call 45;refine(one_s (1) 1000 rb (p+20) _ _ _ _ _ (by repeat(first|(with_reducible apply RS.setNew;rotate_left;(first|omega|(simp only[zz];omega)))|with_reducible apply RS.alloc|(with_reducible apply RS.up hr1;omega)|(with_reducible apply RS.mono hs0;omega)|with_reducible apply RS.drew|with_reducible apply RS.drewN)) (by omega) (by repeat(first|exact AllBd.nil|refine AllBd.cons (by omega) (by omega) ?_)) (by rfl) (by omega) (by omega)).mono ?_;rintro e w2 ⟨v2,rfl,va2,vb2,hr2⟩;obtain⟨hc2,hf2⟩:=RB.cells hr2;have hz2:=RB.size hr2;(try simp only[zz] at hc2 hf2 hz2);have hq2x0:w.heap.size<w2.heap.size:=(by omega);have ha2x0:(w2.heap.size=w.heap.size)=False:=eq_false (by omega);have hb2x0:(w.heap.size=w2.heap.size)=False:=eq_false (by omega);have he2x0:(w.heap.size=rb)=False:=eq_false (by omega);have hk2x0:=fun o=>hc2 (w.heap.size) o (by omega) (by omega);have hj2x0:=fun o=>hf2 (w.heap.size) o (by omega) (by omega)))
 · exact bodyPost_ret (v:=s3 1 v2 0) (by simp[results,Tryz.results70,go_sem, *]) rfl ⟨_,_,_,rfl,(sh_r ⟨by omega,by omega⟩),RB.mk (by repeat(first|(with_reducible apply But.setNew;rotate_left;(first|omega|(simp only[zz];omega)))|with_reducible apply But.alloc|with_reducible apply But.trans (k:=RB.but hr3)|with_reducible apply But.trans (k:=RB.but hr2)|with_reducible apply But.trans (k:=RB.but hr1)|with_reducible apply But.refl|with_reducible apply But.drewN|with_reducible apply But.drew)) (by repeat(first|(with_reducible apply RS.setNew;rotate_left;(first|omega|(simp only[zz];omega)))|with_reducible apply RS.alloc|(with_reducible apply RS.up hr3;omega)|(with_reducible apply RS.up hr2;omega)|(with_reducible apply RS.up hr1;omega)|(with_reducible apply RS.mono hs0;omega)|with_reducible apply RS.drew|with_reducible apply RS.drewN))⟩
 · exact bodyPost_ret (v:=s3 2 v2 v5) (by simp[results,Tryz.results70,go_sem, *]) rfl ⟨_,_,_,rfl,(sh_b ⟨by omega,by omega⟩ ⟨by omega,by omega⟩),RB.mk (by repeat(first|(with_reducible apply But.setNew;rotate_left;(first|omega|(simp only[zz];omega)))|with_reducible apply But.alloc|with_reducible apply But.trans (k:=RB.but hr5)|with_reducible apply But.trans (k:=RB.but hr4)|with_reducible apply But.trans (k:=RB.but hr3)|with_reducible apply But.trans (k:=RB.but hr2)|with_reducible apply But.trans (k:=RB.but hr1)|with_reducible apply But.refl|with_reducible apply But.drewN|with_reducible apply But.drew)) (by repeat(first|(with_reducible apply RS.setNew;rotate_left;(first|omega|(simp only[zz];omega)))|with_reducible apply RS.alloc|(with_reducible apply RS.up hr5;omega)|(with_reducible apply RS.up hr4;omega)|(with_reducible apply RS.up hr3;omega)|(with_reducible apply RS.up hr2;omega)|(with_reducible apply RS.up hr1;omega)|(with_reducible apply RS.mono hs0;omega)|with_reducible apply RS.drew|with_reducible apply RS.drewN))⟩
theorem l11Drive_k (rb p:Nat) (m:Int) (w:World) (hs0:RS w rb p) (hp:p≤900000) (hm:0≤m∧m≤100):
 Calls Tryz.prog 72 #[.pointer (some ⟨rb,0,none⟩),.int .i64 m] w fun e w'=>∃ x y:Int,e= .returned (vv x y)∧(((-64000≤x∧x≤64000)∧ -64000≤y∧y≤64000)∧(m=0→x=0∧y=0))∧RB w w' rb (p+60):=by
 have hlt:=hs0.lt
 have hne:(w.heap.size=rb)=False:=eq_false (by omega)
 have hset:=cset_map
 go_enter Tryz.func72,Tryz.ntmps72
 go_upto_region 1 with fail
 have r0:Al w (w.alloc (.cells #[.int .i64 0,.int .i64 0] 34)) w.heap.size 2 (fun _=>0):=Al.new (Nat.le_refl _) (by intro i hi;rcases(show i=0∨i=1 by omega) with rfl|rfl<;>rfl)
 have hs1:RS (w.alloc (.cells #[.int .i64 0,.int .i64 0] 34)) rb p:=hs0.alloc _
 have hb0:But rb w (w.alloc (.cells #[.int .i64 0,.int .i64 0] 34)):=but_alloc rb _ _
 generalize w.alloc (.cells #[.int .i64 0,.int .i64 0] 34)=w0 at*
 go_cut [5] (fun s5 wc=>∃ v,s5= .int .i64 v∧0≤v∧v≤2000∧(m=0→v=0)∧But rb w wc∧RS wc rb (p+10)∧Al w wc w.heap.size 2 (fun _=>0))
 case first=>
  go_wp2_with (go_at_call 45;refine(one_s (0) 20 rb (p) _ _ _ _ _ (by exact hs1) (by omega) (by repeat(first|exact AllBd.nil|refine AllBd.cons (by omega) (by omega) ?_)) (by rfl) (by omega) (by omega)).mono ?_;rintro e w1 ⟨v1,rfl,va1,vb1,hr1⟩;have hm1:=mul_bd (a:=v1) (b:=m) (A:=20) (B:=100) (by omega) (by omega);have hw1:=i64w (n:=v1*m) (by omega);have hg1:0≤v1*m:=Int.mul_nonneg va1 hm.1)
  go_meet
  exact⟨_,rfl,by omega,by omega,fun e=>by rw[e,Int.mul_zero],hb0.trans (RB.but hr1),RS.up hr1 (by omega),r0.up hlt (RB.but hr1)⟩
 case rest=>
 obtain⟨v,rfl,v0,v1,vz,hbut,hrs,hal⟩:=hcut
 go_upto_region 2 with fail
 have hz:=hbut.size
 go_wp2_with (first
  |(have _:=hr2;go_at_call 13;refine(pick_s rb (p+20) _ _ (by exact RS.up hr2 (by omega)) (by omega) (by omega) (by omega)).mono ?_;rintro e w3 ⟨v3,rfl,va3,vb3,hr3⟩;have hw3:=i64w (n:=v3-32) (by omega);have hm3:=mul_bd (a:=v3-32) (b:=v) (A:=32) (B:=2000) (by omega) (by omega);have hx3:=i64w (n:=(v3-32)*v) (by omega);have ha3:=hal.up hlt ((RB.but hr2).trans (RB.but hr3));have rc0:=(ha3).2.2.1 0 (by omega);have rf0:=(ha3).2.2.2 0 (by omega);have rc1:=(ha3).2.2.1 1 (by omega);have rf1:=(ha3).2.2.2 1 (by omega))
  |(go_at_call 13;refine(pick_s rb (p+10) _ _ (by exact hrs) (by omega) (by omega) (by omega)).mono ?_;rintro e w2 ⟨v2,rfl,va2,vb2,hr2⟩;have hw2:=i64w (n:=v2-32) (by omega);have hm2:=mul_bd (a:=v2-32) (b:=v) (A:=32) (B:=2000) (by omega) (by omega);have hx2:=i64w (n:=(v2-32)*v) (by omega)))
 exact bodyPost_ret (v:=vv ((v2-32)*v) ((v3-32)*v)) (by simp[results,Tryz.results72,go_sem, *]) rfl ⟨_,_,rfl,⟨⟨⟨by omega,by omega⟩,by omega,by omega⟩,fun e=>by rw[vz e,Int.mul_zero,Int.mul_zero];exact⟨rfl,rfl⟩⟩,RB.mk (((hbut.trans ((RB.but hr2).trans (RB.but hr3))).setNew (by simp) _).setNew (by simp) _) (((RS.up hr3 (by omega)).setNew (by simp;omega) _).setNew (by simp;omega) _)⟩
theorem pushV_0 (V:Nat→Int) (p q:Int):pushV V p q 0=V 0:=by unfold pushV;split<;>rfl
theorem pushV_8 (V:Nat→Int) (p q:Int):pushV V p q 8=V 8:=by unfold pushV;split<;>rfl
theorem Bods.one {n:Nat} {U:Nat→Int} (h:Bods n U) {A B:Nat} (hA:A<n) (hB:B<n) (hAB:A≠B) (X Y:Int) (bo:Bool):Bods n (oneU U A B X Y bo)∧∀ i,oneU U A B X Y bo (i*12+8)=U (i*12+8):=by
 unfold oneU
 generalize puX (fun j=>U (A*12+j)) (fun j=>U (B*12+j)) X Y bo=p
 generalize puY (fun j=>U (A*12+j)) (fun j=>U (B*12+j)) X Y bo=q
 generalize ((p==0&&q==0)|| !fitsB (fun j=>U (A*12+j)) (fun j=>U (B*12+j)) p q)=z
 cases z with
 |true=>exact⟨h,fun i=>rfl⟩
 | false=>
   simp only[cond_false]
   have hb0:putRow U A (pushV (fun j=>U (A*12+j)) (-p) (-q)) (B*12)=U (B*12):=by
    have:=putRow_else (U:=U) (V:=pushV (fun j=>U (A*12+j)) (-p) (-q)) (k:=A) (i:=B) (j:=0) (fun e=>hAB e.symm) (by omega)
    simpa using this
   have h8:∀ i,putRow U A (pushV (fun j=>U (A*12+j)) (-p) (-q)) (i*12+8)=U (i*12+8):=fun i=>putRow_8 (by rw[pushV_8])
   exact⟨(h.put hA (push_ok (-p) (-q) (h.row hA)) (by rw[pushV_0];rfl)).put hB (push_ok p q (h.row hB)) (by rw[pushV_0,hb0];rfl),fun i=>(putRow_8 (by rw[pushV_8,h8])).trans (h8 i)⟩
def rndN (C:Nat→Int) (bo:Bool) (U:Nat→Int):Nat→Nat→Int
 |0=>U
 |k+1=>oneU (rndN C bo U k) (C (k*5)).toNat (C (k*5+1)).toNat (C (k*5+2)) (C (k*5+3)) bo
def allN (C U:Nat→Int) (m:Nat):Nat→Nat→Int
 |0=>U
 |r+1=>rndN C (((r:Nat):Int)==0) (allN C U m r) m
theorem Bods.rnd {n m:Nat} {U C:Nat→Int} (h:Bods n U) (hC:CtOk n m C) (bo:Bool):∀ k,k≤m→Bods n (rndN C bo U k)∧∀ i,rndN C bo U k (i*12+8)=U (i*12+8)
 |0,_=>⟨h,fun i=>rfl⟩
 | k+1,hk=>by
   obtain⟨h1,h2⟩:=Bods.rnd h hC bo k (by omega)
   have ha:=hC.a k (by omega)
   have hb:=hC.b k (by omega)
   have hn:=hC.ne k (by omega)
   obtain⟨q1,q2⟩:=h1.one (A:=(C (k*5)).toNat) (B:=(C (k*5+1)).toNat) (by omega) (by omega) (by omega) (C (k*5+2)) (C (k*5+3)) bo
   exact⟨q1,fun i=>(q2 i).trans (h2 i)⟩
theorem Bods.all {n m:Nat} {U C:Nat→Int} (h:Bods n U) (hC:CtOk n m C):∀ r,Bods n (allN C U m r)∧∀ i,allN C U m r (i*12+8)=U (i*12+8)
 |0=>⟨h,fun i=>rfl⟩
 | r+1=>by
   obtain⟨h1,h2⟩:=Bods.all h hC r
   obtain⟨q1,q2⟩:=h1.rnd hC (((r:Nat):Int)==0) m (Nat.le_refl _)
   exact⟨q1,fun i=>(q2 i).trans (h2 i)⟩
theorem l8All_any (a:Option Addr) (n c:Nat) (U:Nat→Int) (ac:Option Addr) (m cc:Nat) (C:Nat→Int) (w:World) (h:Flat w a (n*12) U) (hn:n≤1048576) (hm:m≤1048576) (h2:Flat w ac (m*5) C) (hbb:Bods n U) (hC:CtOk n m C):
 Calls Tryz.prog 77 #[.slice a n c,.slice ac m cc] w fun e w'=>∃ a1 c1,e= .returned (.slice a1 n c1)∧OutL w w' 36 12 a1 n c1 (allN C U m 4):=by
 have hset:=cset_map
 go_enter Tryz.func77,Tryz.ntmps77
 go_upto_region 1 with fail
 go_cut [5] (fun s0 wc=>∃ a1 c1,s0= .slice a1 n c1∧OutL w wc 36 12 a1 n c1 U)
 case first=>
  go_wp2_with (go_at_call 94;refine(l8Copy_any a n c U _ h hn).mono ?_;rintro e w3 ⟨a1,c1,rfl,hO⟩)
  go_meet
  exact⟨_,_,rfl,hO⟩
 case rest=>
 obtain⟨a1,c1,rfl,hO⟩:=hcut
 go_upto_region 3 with fail
 go_loopw [6,7] (fun s _ wr=>∃ r:Nat,r≤4∧s= .int .i64 (r:Int)∧OutL w wr 36 12 a1 n c1 (allN C U m r)) (fun s _ _=>4-(intOf s).toNat)
 case atStart=>exact⟨0,Nat.zero_le _,rfl,hO⟩
 case round=>
  clear hO
  obtain⟨r,hr,rfl,hO⟩:=hrel
  by_cases hlr:r<4
  · have hr4:(r:Int)<4:=by omega
    have hB0:=(hbb.all hC r).1
    have HAL:Shut (allN C U m (r+1)=rndN C (((r:Nat):Int)==0) (allN C U m r) m):=by show _=_;rw[allN]
    obtain⟨bo,hbo⟩:∃ b,((r:Int)==0)=b:=⟨_,rfl⟩
    rw[hbo] at HAL
    generalize allN C U m r=X at hO hB0 HAL
    go_upto_region 6 with fail
    go_loopw [7] (fun s wq=>∃ k:Nat,k≤m∧s= .int .i64 (k:Int)∧OutL w wq 36 12 a1 n c1 (rndN C bo X k)) (fun s _=>m-(intOf s).toNat)
    case atStart=>exact⟨0,Nat.zero_le _,rfl,hO⟩
    case round=>
     clear hO
     obtain⟨k,hk,rfl,hO⟩:=hrel
     by_cases hlt:k<m
     · have hkm:(k:Int)<(m:Int):=by omega
       have ca:=hC.a k hlt
       have cb:=hC.b k hlt
       have cx:=hC.x k hlt
       have cy:=hC.y k hlt
       have cn:=hC.ne k hlt
       have hB:=(hB0.rnd hC bo k hk).1
       obtain⟨b2,o2,e2,hbl2,hc2⟩:=(h2.below hO.bel) (by omega)
       have r0:=hc2 (k*5) (by omega)
       have r1:=hc2 (k*5+1) (by omega)
       have r2:=hc2 (k*5+2) (by omega)
       have r3:=hc2 (k*5+3) (by omega)
       have r4:=hc2 (k*5+4) (by omega)
       simp only[←Nat.add_assoc] at r0 r1 r2 r3 r4
       clear hc2
       subst e2
       have HN:Shut (rndN C bo X (k+1)=oneU (rndN C bo X k) (C (k*5)).toNat (C (k*5+1)).toNat (C (k*5+2)) (C (k*5+3)) bo):=by show _=_;rw[rndN]
       obtain⟨A,hA⟩:∃ A:Nat,C (k*5)=(A:Int):=⟨(C (k*5)).toNat,by omega⟩
       obtain⟨B,hBB⟩:∃ B:Nat,C (k*5+1)=(B:Int):=⟨(C (k*5+1)).toNat,by omega⟩
       rw[hA,hBB,Int.toNat_natCast,Int.toNat_natCast] at HN
       rw[hA] at ca r0 cn
       rw[hBB] at cb r1 cn
       clear hA hBB
       have hAB:A≠B:=fun e=>cn (by rw[e])
       clear cn
       obtain⟨g,rfl,hg1,hg2⟩:=hO.own.loc (by omega)
       go_wp2_with (go_at_call 95;refine(l8One_any w.heap.size g n c1 (rndN C bo X k) A B _ _ _ bo _ hO.own hn (by omega) (by omega) hAB hB cx cy).mono ?_;rintro e w5 ⟨rfl,ho5,hf5⟩)
       have hB5:Below w.heap.size w w5:=hO.bel.trans (hf5.below (by have:=hO.bel.size;omega) (fun b e=>by omega))
       go_roundw
       case rel=>exact⟨k+1,by omega,by go_num,hB5,by rw[HN.out];exact ho5⟩
       case measure=>simp[intOf];omega
     · obtain rfl:k=m:=by omega
       go_wp2_with fail
       go_roundw
       case rel=>exact⟨r+1,by omega,by go_num,by rw[HAL.out];exact hO⟩
       case measure=>simp[intOf];omega
  · obtain rfl:r=4:=by omega
    go_wp2_with fail
    go_ret
    exact⟨_,_,rfl,hO⟩
def ApartDoes:Prop:=∀ (base g n c:Nat) (U:Nat→Int) (A B:Nat) (X Y D:Int) (w:World),OwnL w base 36 12 (.slice (some ⟨g,0,none⟩) n c) n U→n≤1048576→A<n→B<n→Bods n U→(-256≤X∧X≤256)→(-256≤Y∧Y≤256)→(0≤D∧D≤102400)→Calls Tryz.prog 96 #[.slice (some ⟨g,0,none⟩) n c,.agg #[.int .i64 (A:Int),.int .i64 (B:Int),.int .i64 X,.int .i64 Y,.int .i64 D]] w fun e w'=>e= .returned (.tuple #[])∧OwnL w' base 36 12 (.slice (some ⟨g,0,none⟩) n c) n (apartU U A B X Y D)∧Fr (fun b=>b=g) w w'
theorem l8Aparts_of (HA:ApartDoes) (a:Option Addr) (n c:Nat) (U:Nat→Int) (ac:Option Addr) (m cc:Nat) (C:Nat→Int) (w:World) (h:Flat w a (n*12) U) (hn:n≤1048576) (hm:m≤1048576) (h2:Flat w ac (m*5) C) (hbb:Bods n U) (hC:CtOk n m C):
 Calls Tryz.prog 79 #[.slice a n c,.slice ac m cc] w fun e w'=>∃ a1 c1,e= .returned (.slice a1 n c1)∧OutL w w' 36 12 a1 n c1 (apartN C U m):=by
 have hset:=cset_map
 go_enter Tryz.func79,Tryz.ntmps79
 go_upto_region 1 with fail
 go_cut [5] (fun s0 wc=>∃ a1 c1,s0= .slice a1 n c1∧OutL w wc 36 12 a1 n c1 U)
 case first=>
  go_wp2_with (go_at_call 94;refine(l8Copy_any a n c U _ h hn).mono ?_;rintro e w3 ⟨a1,c1,rfl,hO⟩)
  go_meet
  exact⟨_,_,rfl,hO⟩
 case rest=>
 obtain⟨a1,c1,rfl,hO⟩:=hcut
 go_upto_region 3 with fail
 go_loopw [6] (fun s wr=>∃ k:Nat,k≤m∧s= .int .i64 (k:Int)∧OutL w wr 36 12 a1 n c1 (apartN C U k)) (fun s _=>m-(intOf s).toNat)
 case atStart=>exact⟨0,Nat.zero_le _,rfl,hO⟩
 case round=>
  clear hO
  obtain⟨k,hk,rfl,hO⟩:=hrel
  by_cases hlt:k<m
  · have hkm:(k:Int)<(m:Int):=by omega
    have ca:=hC.a k hlt
    have cb:=hC.b k hlt
    have cx:=hC.x k hlt
    have cy:=hC.y k hlt
    have cd:=hC.d k hlt
    have hB:=(hbb.aparts hC k hk).1
    obtain⟨b2,o2,e2,hbl2,hc2⟩:=(h2.below hO.bel) (by omega)
    have r0:=hc2 (k*5) (by omega)
    have r1:=hc2 (k*5+1) (by omega)
    have r2:=hc2 (k*5+2) (by omega)
    have r3:=hc2 (k*5+3) (by omega)
    have r4:=hc2 (k*5+4) (by omega)
    simp only[←Nat.add_assoc] at r0 r1 r2 r3 r4
    clear hc2
    subst e2
    have HN:Shut (apartN C U (k+1)=apartU (apartN C U k) (C (k*5)).toNat (C (k*5+1)).toNat (C (k*5+2)) (C (k*5+3)) (C (k*5+4))):=by show _=_;rw[apartN]
    obtain⟨A,hA⟩:∃ A:Nat,C (k*5)=(A:Int):=⟨(C (k*5)).toNat,by omega⟩
    obtain⟨B,hBB⟩:∃ B:Nat,C (k*5+1)=(B:Int):=⟨(C (k*5+1)).toNat,by omega⟩
    rw[hA,hBB,Int.toNat_natCast,Int.toNat_natCast] at HN
    rw[hA] at ca r0
    rw[hBB] at cb r1
    clear hA hBB
    obtain⟨g,rfl,hg1,hg2⟩:=hO.own.loc (by omega)
    go_wp2_with (go_at_call 96;refine(HA w.heap.size g n c1 (apartN C U k) A B _ _ _ _ hO.own hn (by omega) (by omega) hB cx cy cd).mono ?_;rintro e w5 ⟨rfl,ho5,hf5⟩)
    have hB5:Below w.heap.size w w5:=hO.bel.trans (hf5.below (by have:=hO.bel.size;omega) (fun b e=>by omega))
    go_roundw
    case rel=>exact⟨k+1,by omega,by go_num,hB5,by rw[HN.out];exact ho5⟩
    case measure=>simp[intOf];omega
  · obtain rfl:k=m:=by omega
    go_wp2_with fail
    go_ret
    exact⟨_,_,rfl,hO⟩
end Go.Proofs.YtbdbbdjifgpgeaaGreat
