/- Texts of a proof. -/
import Derived.Test.YtcalhcfinkhemaaGreatDoorB16
import Derived.Deep.RegionHeld3
import Derived.Deep.DeepCutAuto
import Derived.Test.YtcalhcfinkhemaaGreatDoorB15
import Derived.Deep.AppendLies
import Derived.Test.YtcalhcfinkhemaaGreatDoorB2
import Derived.Test.YtcalhcfinkhemaaGreatDoorB14
import Derived.Test.YtcalhcfinkhemaaGreatDoorB18
set_option maxHeartbeats 16000000
set_option maxRecDepth 20000
namespace Go.Proofs.YtcalhcfinkhemaaGreatDoor
open Go.RowKit
set_option linter.unusedVariables false
set_option linter.unusedSimpArgs false
structure Hide (p:Prop):Prop where
 out:p
theorem tdiv_le {x B m:Int} (hm:0<m) (hB:0≤B) (h: -(B*m)≤x∧x≤B*m): -B≤x.tdiv m∧x.tdiv m≤B:=by
 by_cases h0:0≤x
 · rw[Int.tdiv_eq_ediv_of_nonneg h0]
   have q1:=Int.ediv_nonneg h0 (Int.le_of_lt hm)
   exact⟨by omega,Int.ediv_le_of_le_mul hm h.2⟩
 · have e:x.tdiv m= -((-x)/m):=by rw[←Int.tdiv_eq_ediv_of_nonneg (show 0≤ -x by omega),Int.neg_tdiv,Int.neg_neg]
   rw[e]
   have q1:=Int.ediv_nonneg (show 0≤ -x by omega) (Int.le_of_lt hm)
   have q2:=Int.ediv_le_of_le_mul hm (show-x≤B*m by omega)
   omega
def shareV (V W:Nat→Int) (n:Int):Int:=bif decide (V 8=0) then 0 else bif decide (W 8=0) then n else (n*W 8).tdiv (V 8+W 8)
theorem share_bd {V W:Nat→Int} {n:Int} (h0:0≤V 8) (h1:0≤W 8) (hn:0≤n):0≤shareV V W n∧shareV V W n≤n:=by
 unfold shareV
 by_cases m0:V 8=0
 · rw[decide_eq_true m0];exact⟨Int.le_refl _,hn⟩
 · rw[decide_eq_false m0]
   by_cases m1:W 8=0
   · rw[decide_eq_true m1];exact⟨hn,Int.le_refl _⟩
   · rw[decide_eq_false m1]
     show 0≤(n*W 8).tdiv (V 8+W 8)∧(n*W 8).tdiv (V 8+W 8)≤n
     have p0:0≤n*W 8:=Int.mul_nonneg hn h1
     rw[Int.tdiv_eq_ediv_of_nonneg p0]
     refine⟨Int.ediv_nonneg p0 (by omega),?_⟩
     refine Int.ediv_le_of_le_mul (by omega) ?_
     exact Int.mul_le_mul_of_nonneg_left (by omega) hn
theorem l8Share_q (V W:Nat→Int) (n x:Int) (w:World) (h0:0≤V 8∧V 8≤1000) (h1:0≤W 8∧W 8≤1000) (hn: -30000≤n∧n≤30000) (ex:shareV V W n=x):
 Calls Tryz.prog 113 #[bodyW V,bodyW W,.int .i64 n] w fun e w'=>e= .returned (.int .i64 x)∧Below w.heap.size w w':=by
 have hset:=cset_map
 have p:=mul_bd (a:=n) (b:=W 8) (A:=30000) (B:=1000) (by omega) (by omega)
 have q:=tdiv_bd (x:=n*W 8) (B:=30000000) (V 8+W 8) (by omega)
 have w1:IntKind.i64.wrap (n*W 8)=n*W 8:=i64w (by omega)
 have w2:IntKind.i64.wrap (V 8+W 8)=V 8+W 8:=i64w (by omega)
 have w3:IntKind.i64.wrap ((n*W 8).tdiv (V 8+W 8))=(n*W 8).tdiv (V 8+W 8):=i64w (by omega)
 by_cases m0:V 8=0
 · have ex':x=0:=by rw[←ex];unfold shareV;rw[decide_eq_true m0];rfl
   subst ex'
   have e1:(V 8==0)=true:=by simp[m0]
   have M0:Shut (V 8=0):=m0
   clear m0 ex
   go_enter Tryz.func113,Tryz.ntmps113
   go_wp2_with fail
   go_ret
   exact⟨rfl,bel_a⟩
 · have e1:(V 8==0)=false:=by simp[m0]
   by_cases m1:W 8=0
   · have ex':x=n:=by rw[←ex];unfold shareV;rw[decide_eq_false m0,decide_eq_true m1];rfl
     subst ex'
     have e2:(W 8==0)=true:=by simp[m1]
     have M1:Shut (W 8=0):=m1
     clear m1 ex w1 w2 w3 p q
     go_enter Tryz.func113,Tryz.ntmps113
     go_wp2_with fail
     go_ret
     exact⟨rfl,bel_a⟩
   · have ex':(n*W 8).tdiv (V 8+W 8)=x:=by rw[←ex];unfold shareV;rw[decide_eq_false m0,decide_eq_false m1];rfl
     have e2:(W 8==0)=false:=by simp[m1]
     have e3:¬ V 8+W 8=0:=by omega
     clear ex
     go_enter Tryz.func113,Tryz.ntmps113
     go_wp2_with fail
     go_ret
     exact⟨by first|rfl|(rw[←ex'])|simp[ex'],bel_a⟩
def apartU (U:Nat→Int) (A B:Nat) (X Y D:Int):Nat→Int:=
 bif decide (0<(D-64).tdiv 4) then
  (let U1:=bif decide (0<U (A*12+8)) then putRow U A (moveV (fun j=>U (A*12+j)) ((-X*shareV (fun j=>U (A*12+j)) (fun j=>U (B*12+j)) ((D-64).tdiv 4)).tdiv 256) ((-Y*shareV (fun j=>U (A*12+j)) (fun j=>U (B*12+j)) ((D-64).tdiv 4)).tdiv 256)) else U
   bif decide (0<U (B*12+8)) then putRow U1 B (moveV (fun j=>U (B*12+j)) ((X*shareV (fun j=>U (B*12+j)) (fun j=>U (A*12+j)) ((D-64).tdiv 4)).tdiv 256) ((Y*shareV (fun j=>U (B*12+j)) (fun j=>U (A*12+j)) ((D-64).tdiv 4)).tdiv 256)) else U1)
 else U
structure Ap8 (w wc:World) (A B:Nat) (X Y D:Int) (ba bb:Nat) (VA VB:Nat→Int):Prop where
 k0:wc.cell? ⟨w.heap.size,0,none⟩=some (.int .i64 (A:Int))
 k1:wc.cell? ⟨w.heap.size,1,none⟩=some (.int .i64 (B:Int))
 k2:wc.cell? ⟨w.heap.size,2,none⟩=some (.int .i64 X)
 k3:wc.cell? ⟨w.heap.size,3,none⟩=some (.int .i64 Y)
 k4:wc.cell? ⟨w.heap.size,4,none⟩=some (.int .i64 D)
 ca:∀ j,j<12→wc.cell? ⟨ba,j,none⟩=some (.int .i64 (VA j))
 cb:∀ j,j<12→wc.cell? ⟨bb,j,none⟩=some (.int .i64 (VB j))
 l0:w.heap.size<wc.heap.size
 la:ba<wc.heap.size
 lb:bb<wc.heap.size
 ga:w.heap.size<ba
 gb:w.heap.size<bb
theorem Ap8.on {w wc w':World} {A B:Nat} {X Y D:Int} {ba bb:Nat} {VA VB:Nat→Int} (h:Ap8 w wc A B X Y D ba bb VA VB) (hb:Below wc.heap.size wc w'):Ap8 w w' A B X Y D ba bb VA VB:=
 have k:=fun j=>hb.cell (p:=⟨w.heap.size,j,none⟩) h.l0
 ⟨(k 0).trans h.k0,(k 1).trans h.k1,(k 2).trans h.k2,(k 3).trans h.k3,(k 4).trans h.k4,fun j hj=>(hb.cell (p:=⟨ba,j,none⟩) h.la).trans (h.ca j hj),fun j hj=>(hb.cell (p:=⟨bb,j,none⟩) h.lb).trans (h.cb j hj),Nat.lt_of_lt_of_le h.l0 hb.size,Nat.lt_of_lt_of_le h.la hb.size,Nat.lt_of_lt_of_le h.lb hb.size,h.ga,h.gb⟩
theorem Ap8.fr {w wc w':World} {A B g:Nat} {X Y D:Int} {ba bb:Nat} {VA VB:Nat→Int} (h:Ap8 w wc A B X Y D ba bb VA VB) (hs:Fr (fun b=>b=g) wc w') (hg:g<w.heap.size):Ap8 w w' A B X Y D ba bb VA VB:=by
 have ga:=h.ga
 have gb:=h.gb
 have k:=fun j=>hs.cell (p:=⟨w.heap.size,j,none⟩) h.l0 (by simp;omega)
 exact⟨(k 0).trans h.k0,(k 1).trans h.k1,(k 2).trans h.k2,(k 3).trans h.k3,(k 4).trans h.k4,fun j hj=>(hs.cell (p:=⟨ba,j,none⟩) h.la (by simp;omega)).trans (h.ca j hj),fun j hj=>(hs.cell (p:=⟨bb,j,none⟩) h.lb (by simp;omega)).trans (h.cb j hj),Nat.lt_of_lt_of_le h.l0 hs.size,Nat.lt_of_lt_of_le h.la hs.size,Nat.lt_of_lt_of_le h.lb hs.size,h.ga,h.gb⟩
def mv7 (cb:Nat) (C:Nat→Int) (q:Nat):List Value:=[.int .i64 (C (q*5+2)),.int .i64 (C (q*5+3)),.int .i64 (C (q*5+4)),.int .i64 (C (q*5)),.pointer (some ⟨cb,0,none⟩),.int .i64 (C (q*5+1)),.pointer (some ⟨cb,0,none⟩)]
def mvs (cb:Nat) (C:Nat→Int):Nat→List Value
 |0=>[]
 |m+1=>mvs cb C m++mv7 cb C m
theorem mvs_len (cb:Nat) (C:Nat→Int):∀ m,(mvs cb C m).length=m*7
 |0=>rfl
 |m+1=>by rw[mvs,List.length_append,mvs_len cb C m];show m*7+7=_;omega
theorem mvs_get (cb:Nat) (C:Nat→Int):∀ (m q i:Nat),q<m→i<7→(mvs cb C m)[q*7+i]? =(mv7 cb C q)[i]?
 |0,q,i,h,_=>absurd h (Nat.not_lt_zero _)
 | m+1,q,i,h,hi=>by
   rw[mvs]
   by_cases e:q=m
   · subst e
     rw[List.getElem?_append_right (by rw[mvs_len];omega),mvs_len,Nat.add_sub_cancel_left]
   · rw[List.getElem?_append_left (by rw[mvs_len];omega)]
     exact mvs_get cb C m q i (by omega) hi
def ML (w:World) (base cb:Nat) (v:Value) (C:Nat→Int) (m:Nat):Prop:=w.ownsRow base 225 7 v m (mvs cb C m)
theorem ML.nil (w:World) (base cb:Nat) (C:Nat→Int):ML w base cb (.slice none 0 0) C 0:=World.ownsRow_nil w base _ _
theorem ML.lt {w:World} {base cb m:Nat} {v:Value} {C:Nat→Int} (h:ML w base cb v C m):∀ b,v.ownBlock=some b→base≤b∧b<w.heap.size:=World.ownsRow.lt h
theorem ML.frame {X:Nat→Prop} {w w':World} {base cb m:Nat} {v:Value} {C:Nat→Int} (h:ML w base cb v C m) (hs:Fr X w w') (hX:∀ b,v.ownBlock=some b→¬ X b):ML w' base cb v C m:=by
 refine⟨h.1,?_⟩
 rcases h.2 with q|⟨g,cap,cur,hv,hb,hg,rest⟩
 · exact .inl q
 · exact .inr ⟨g,cap,cur,hv,hb,(hs.block _ (Array.getElem?_eq_some_iff.1 hg).1 (hX g (by rw[hv];rfl))).trans hg,rest⟩
theorem ML.below {w w':World} {base cb m:Nat} {v:Value} {C:Nat→Int} (h:ML w base cb v C m) (hb:Below w.heap.size w w'):ML w' base cb v C m:=h.frame (X:=fun _=>False) (Fr.of_below hb) (fun _ _ h=>h)
theorem ML.isCells {w:World} {base cb m:Nat} {v:Value} {C:Nat→Int} (h:ML w base cb v C m):∀ b o,v.ownBlock=some b→w.heap[b]? =some o→o.isCells=true:=by
 intro b o hb ho
 rcases h.2 with⟨hv,_⟩|⟨g,cap,cur,hv,_,hg,_⟩
 · subst hv;cases hb
 · subst hv
   simp only[Value.ownBlock,Option.some.injEq] at hb
   subst hb
   rw[hg] at ho;cases ho;rfl
theorem ML.is {w:World} {base cb m:Nat} {v:Value} {C:Nat→Int} (h:ML w base cb v C m):(m=0∧v= .slice none 0 0)∨∃ g c,v= .slice (some ⟨g,0,none⟩) m c:=by
 rcases h.2 with⟨hv,e⟩|⟨g,cap,cur,hv,_⟩
 · exact .inl ⟨e,hv⟩
 · exact .inr ⟨_,_,hv⟩
theorem ML.rg {w:World} {base cb m g c rb:Nat} {C:Nat→Int} (h:ML w base cb (.slice (some ⟨g,0,none⟩) m c) C m) (c0:w.cell? ⟨rb,0,none⟩=some (.slice (some ⟨g,0,none⟩) m c)) (c1:w.cell? ⟨rb,1,none⟩=some (.int .i64 0)) (f1:w.frozen? ⟨rb,1,none⟩=false) (ne:rb≠g):Rg w rb g m c cb C 0:=
 ⟨c0,c1,f1,fun q hq=>by
  have k:=fun i (hi:i<7)=>(World.ownsRow.cellAt h (q*7+i) (by omega)).trans (mvs_get cb C m q i hq hi)
  exact⟨k 0 (by omega),k 1 (by omega),k 2 (by omega),k 3 (by omega),k 4 (by omega),k 5 (by omega),k 6 (by omega)⟩,(h.lt g rfl).2,cell_lt (a:=⟨rb,0,none⟩) c0,ne⟩
abbrev zcMeet:Value:= .agg #[.int .i64 0,.int .i64 0,.int .i64 0,.int .i64 0,.pointer none,.int .i64 0,.pointer none]
theorem infoMeet:(Tryz.prog.info? 225).map (fun i=>(i.zero,i.size,i.bytes))=some (some zcMeet,7,56):=by kernel_rfl
theorem step_mapp {ops:Array Oper} {o:Oper} {a:Act} {K:Act→World→Prop} {Q:Exit→Act→World→Prop} {E:Prop} {w:World} (hgd:o.guard=none) (s x:Operand) (t:TypeId)
 (ho:o.op= .call {callee:= .builtin .append,args:= #[s,x],argTypes:= #[t,t]})
 (ht:Tryz.prog.underlying t=some (.slice 225))
 (base cb:Nat) (v:Value) (C:Nat→Int) (m:Nat) (hs:a.eval s=v) (h:ML w base cb v C m) (b:Nat) (hx:a.eval x= .slice (some ⟨b,0,none⟩) 1 1)
 (hn:∀ i,i<7→w.cell? ⟨b,i,none⟩=(mv7 cb C m)[i]?) (hm:m≤1000) (hbase:base≤w.heap.size)
 (hK:∀ g' c' w',ML w' base cb (.slice (some ⟨g',0,none⟩) (m+1) c') C (m+1)→w.grownBy w' v.ownBlock→K (a.put o.dst (.slice (some ⟨g',0,none⟩) (m+1) c')) w'):
 if Region.wanted o (yielded ops a.tmps)=true then Oper.wp Tryz.prog o a w K Q else E:=by
 obtain⟨i,hi,hzz⟩:=Option.map_eq_some_iff.1 infoMeet
 simp only[Prod.mk.injEq] at hzz
 obtain⟨hz,hsz,hb8⟩:=hzz
 refine step_append_lies w hgd s x t ho base 225 i zcMeet 7 56 ht hi hz hsz hb8 rfl (by decide) v m (mvs cb C m) hs h ⟨b,0,none⟩ 1 1 (mv7 cb C m) hx rfl ?_ ?_ (by decide) (by unfold maxLen;omega) (by omega) hbase _ rfl ?_
 · intro q u hu
   have hq:q<7:=by
    have:=(List.getElem?_eq_some_iff.1 hu).1
    exact this
   have hadd:(⟨b,0,none⟩:Addr).add q=⟨b,q,none⟩:=by unfold Addr.add;split<;>simp_all
   rw[hadd,hn q hq];exact hu
 · intro u hu;simp only[mv7,List.mem_cons,List.not_mem_nil,or_false] at hu;rcases hu with rfl|rfl|rfl|rfl|rfl|rfl|rfl<;>rfl
 · intro g' cap' w' r1 r2 r3 r4
   exact hK g' cap' w' r1 r2
theorem l11AnyShape_s (rb p:Nat) (w:World) (hs0:RS w rb p) (hp:p≤997000):
 Calls Tryz.prog 71 #[.pointer (some ⟨rb,0,none⟩)] w fun e w'=>∃ k g h:Int,e= .returned (s3 k g h)∧(Bn k∧Bn g∧Bn h)∧RB w w' rb (p+600):=by
 have hlt:=hs0.lt
 have hne:(w.heap.size=rb)=False:=eq_false (by omega)
 have hset:=cset_map
 go_enter Tryz.func71,Tryz.ntmps71
 go_wp2_with (first
  |(have _:=hr1;go_at_call 37;refine(pick_s rb (p+200) _ _ (by repeat(first|(with_reducible apply RS.setNew;rotate_left;(first|omega|(simp only[zz];omega)))|with_reducible apply RS.alloc|(with_reducible apply RS.up hr1;omega)|(with_reducible apply RS.mono hs0;omega)|with_reducible apply RS.drew|with_reducible apply RS.drewN)) (by omega) (by omega) (by omega)).mono ?_;rintro e w2 ⟨v2,rfl,va2,vb2,hr2⟩;obtain⟨hc2,hf2⟩:=RB.cells hr2;have hz2:=RB.size hr2;(try simp only[zz] at hc2 hf2 hz2);have hq2x0:w.heap.size<w2.heap.size:=(by omega);have ha2x0:(w2.heap.size=w.heap.size)=False:=eq_false (by omega);have hb2x0:(w.heap.size=w2.heap.size)=False:=eq_false (by omega);have he2x0:(w.heap.size=rb)=False:=eq_false (by omega);have hk2x0:=fun o=>hc2 (w.heap.size) o (by omega) (by omega);have hj2x0:=fun o=>hf2 (w.heap.size) o (by omega) (by omega);have hq2x1:w1.heap.size<w2.heap.size:=(by omega);have ha2x1:(w2.heap.size=w1.heap.size)=False:=eq_false (by omega);have hb2x1:(w1.heap.size=w2.heap.size)=False:=eq_false (by omega);have he2x1:(w1.heap.size=rb)=False:=eq_false (by omega);have hk2x1:=fun o=>hc2 (w1.heap.size) o (by omega) (by omega);have hj2x1:=fun o=>hf2 (w1.heap.size) o (by omega) (by omega))
  |(have _:=hr2;go_at_call 24;refine(one_s (-1) 25601 rb (p+300) _ _ _ _ _ (by repeat(first|(with_reducible apply RS.setNew;rotate_left;(first|omega|(simp only[zz];omega)))|with_reducible apply RS.alloc|(with_reducible apply RS.up hr2;omega)|(with_reducible apply RS.mono hs0;omega)|with_reducible apply RS.drew|with_reducible apply RS.drewN)) (by omega) (by repeat(first|exact AllBd.nil|refine AllBd.cons (by omega) (by omega) ?_)) (by rfl) (by omega) (by omega)).mono ?_;rintro e w3 ⟨v3,rfl,va3,vb3,hr3⟩;obtain⟨hc3,hf3⟩:=RB.cells hr3;have hz3:=RB.size hr3;(try simp only[zz] at hc3 hf3 hz3);have hq3x0:w.heap.size<w3.heap.size:=(by omega);have ha3x0:(w3.heap.size=w.heap.size)=False:=eq_false (by omega);have hb3x0:(w.heap.size=w3.heap.size)=False:=eq_false (by omega);have he3x0:(w.heap.size=rb)=False:=eq_false (by omega);have hk3x0:=fun o=>hc3 (w.heap.size) o (by omega) (by omega);have hj3x0:=fun o=>hf3 (w.heap.size) o (by omega) (by omega);have hq3x1:w1.heap.size<w3.heap.size:=(by omega);have ha3x1:(w3.heap.size=w1.heap.size)=False:=eq_false (by omega);have hb3x1:(w1.heap.size=w3.heap.size)=False:=eq_false (by omega);have he3x1:(w1.heap.size=rb)=False:=eq_false (by omega);have hk3x1:=fun o=>hc3 (w1.heap.size) o (by omega) (by omega);have hj3x1:=fun o=>hf3 (w1.heap.size) o (by omega) (by omega))
  |(go_at_call 101;refine(l11Shape_s rb (p+100) _ (by repeat(first|(with_reducible apply RS.setNew;rotate_left;(first|omega|(simp only[zz];omega)))|with_reducible apply RS.alloc|(with_reducible apply RS.mono hs0;omega)|with_reducible apply RS.drew|with_reducible apply RS.drewN)) (by omega)).mono ?_;rintro e w1 ⟨k1,g1,h1,rfl,hd1,hr1⟩;obtain⟨hc1,hf1⟩:=RB.cells hr1;have hz1:=RB.size hr1;(try simp only[zz] at hc1 hf1 hz1);have hq1x0:w.heap.size<w1.heap.size:=(by omega);have ha1x0:(w1.heap.size=w.heap.size)=False:=eq_false (by omega);have hb1x0:(w.heap.size=w1.heap.size)=False:=eq_false (by omega);have he1x0:(w.heap.size=rb)=False:=eq_false (by omega);have hk1x0:=fun o=>hc1 (w.heap.size) o (by omega) (by omega);have hj1x0:=fun o=>hf1 (w.heap.size) o (by omega) (by omega);obtain⟨⟨k1a,k1b⟩,⟨g1a,g1b⟩,⟨h1a,h1b⟩⟩:=hd1))
 · exact bodyPost_ret (v:=s3 v3 g1 h1) (by simp[results,Tryz.results71,go_sem, *]) rfl ⟨_,_,_,rfl,⟨Bn.mk ⟨by omega,by omega⟩,Bn.mk ⟨by omega,by omega⟩,Bn.mk ⟨by omega,by omega⟩⟩,RB.mk (by repeat(first|(with_reducible apply But.setNew;rotate_left;(first|omega|(simp only[zz];omega)))|with_reducible apply But.alloc|with_reducible apply But.trans (k:=RB.but hr3)|with_reducible apply But.trans (k:=RB.but hr2)|with_reducible apply But.trans (k:=RB.but hr1)|with_reducible apply But.refl|with_reducible apply But.drewN|with_reducible apply But.drew)) (by repeat(first|(with_reducible apply RS.setNew;rotate_left;(first|omega|(simp only[zz];omega)))|with_reducible apply RS.alloc|(with_reducible apply RS.up hr3;omega)|(with_reducible apply RS.up hr2;omega)|(with_reducible apply RS.up hr1;omega)|(with_reducible apply RS.mono hs0;omega)|with_reducible apply RS.drew|with_reducible apply RS.drewN))⟩
 · exact bodyPost_ret (v:=s3 k1 v3 h1) (by simp[results,Tryz.results71,go_sem, *]) rfl ⟨_,_,_,rfl,⟨Bn.mk ⟨by omega,by omega⟩,Bn.mk ⟨by omega,by omega⟩,Bn.mk ⟨by omega,by omega⟩⟩,RB.mk (by repeat(first|(with_reducible apply But.setNew;rotate_left;(first|omega|(simp only[zz];omega)))|with_reducible apply But.alloc|with_reducible apply But.trans (k:=RB.but hr3)|with_reducible apply But.trans (k:=RB.but hr2)|with_reducible apply But.trans (k:=RB.but hr1)|with_reducible apply But.refl|with_reducible apply But.drewN|with_reducible apply But.drew)) (by repeat(first|(with_reducible apply RS.setNew;rotate_left;(first|omega|(simp only[zz];omega)))|with_reducible apply RS.alloc|(with_reducible apply RS.up hr3;omega)|(with_reducible apply RS.up hr2;omega)|(with_reducible apply RS.up hr1;omega)|(with_reducible apply RS.mono hs0;omega)|with_reducible apply RS.drew|with_reducible apply RS.drewN))⟩
 · exact bodyPost_ret (v:=s3 k1 g1 v3) (by simp[results,Tryz.results71,go_sem, *]) rfl ⟨_,_,_,rfl,⟨Bn.mk ⟨by omega,by omega⟩,Bn.mk ⟨by omega,by omega⟩,Bn.mk ⟨by omega,by omega⟩⟩,RB.mk (by repeat(first|(with_reducible apply But.setNew;rotate_left;(first|omega|(simp only[zz];omega)))|with_reducible apply But.alloc|with_reducible apply But.trans (k:=RB.but hr3)|with_reducible apply But.trans (k:=RB.but hr2)|with_reducible apply But.trans (k:=RB.but hr1)|with_reducible apply But.refl|with_reducible apply But.drewN|with_reducible apply But.drew)) (by repeat(first|(with_reducible apply RS.setNew;rotate_left;(first|omega|(simp only[zz];omega)))|with_reducible apply RS.alloc|(with_reducible apply RS.up hr3;omega)|(with_reducible apply RS.up hr2;omega)|(with_reducible apply RS.up hr1;omega)|(with_reducible apply RS.mono hs0;omega)|with_reducible apply RS.drew|with_reducible apply RS.drewN))⟩
 · exact bodyPost_ret (v:=s3 k1 g1 h1) (by simp[results,Tryz.results71,go_sem, *]) rfl ⟨_,_,_,rfl,⟨Bn.mk ⟨by omega,by omega⟩,Bn.mk ⟨by omega,by omega⟩,Bn.mk ⟨by omega,by omega⟩⟩,RB.mk (by repeat(first|(with_reducible apply But.setNew;rotate_left;(first|omega|(simp only[zz];omega)))|with_reducible apply But.alloc|with_reducible apply But.trans (k:=RB.but hr2)|with_reducible apply But.trans (k:=RB.but hr1)|with_reducible apply But.refl|with_reducible apply But.drewN|with_reducible apply But.drew)) (by repeat(first|(with_reducible apply RS.setNew;rotate_left;(first|omega|(simp only[zz];omega)))|with_reducible apply RS.alloc|(with_reducible apply RS.up hr2;omega)|(with_reducible apply RS.up hr1;omega)|(with_reducible apply RS.mono hs0;omega)|with_reducible apply RS.drew|with_reducible apply RS.drewN))⟩
theorem run_eq_shape (n d:Nat) (hn:n=d+1) (a b c:Int) (w:World):(Op.equalIn (n+1) 29 (.agg #[.int .i64 a,.int .i64 b,.int .i64 c]) (.agg #[.int .i64 a,.int .i64 b,.int .i64 c])).run Tryz.prog w= .ok true w:=by
 have hi:Tryz.prog.underlying 3=some (.int .i64):=by kernel_rfl
 have hs:Tryz.prog.stoodInHeld 29=false:=by kernel_rfl
 have hp:∀ w,(program).run Tryz.prog w= .ok Tryz.prog w:=fun w=>by rfl
 have p0:∀ (a b c:Int) w,(part 3 #[.int .i64 a,.int .i64 b,.int .i64 c] 0).run Tryz.prog w= .ok (.int .i64 a) w:=fun a b c w=>by kernel_rfl
 have p1:∀ (a b c:Int) w,(part 3 #[.int .i64 a,.int .i64 b,.int .i64 c] 1).run Tryz.prog w= .ok (.int .i64 b) w:=fun a b c w=>by kernel_rfl
 have p2:∀ (a b c:Int) w,(part 3 #[.int .i64 a,.int .i64 b,.int .i64 c] 2).run Tryz.prog w= .ok (.int .i64 c) w:=fun a b c w=>by kernel_rfl
 simp only[Op.equalIn,Sem.run_bind,run_underlying Tryz.underlying29,Result.andThen_ok,hp,hs,Bool.false_eq_true,if_false,Sem.run_pure]
 subst hn
 have h0:∀ w,(Op.equalIn (d+1) 3 (.int .i64 a) (.int .i64 a)).run Tryz.prog w= .ok true w:=fun w=>by rw[run_equalIn_int w (d+0) 3 .i64 .i64 a a hi];simp
 have h1:∀ w,(Op.equalIn (d+1) 3 (.int .i64 b) (.int .i64 b)).run Tryz.prog w= .ok true w:=fun w=>by rw[run_equalIn_int w (d+0) 3 .i64 .i64 b b hi];simp
 have h2:∀ w,(Op.equalIn (d+1) 3 (.int .i64 c) (.int .i64 c)).run Tryz.prog w= .ok true w:=fun w=>by rw[run_equalIn_int w (d+0) 3 .i64 .i64 c c hi];simp
 simp only[List.forIn_toArray,List.forIn_cons,List.forIn_nil,Sem.run_bind,p0,h0,Result.andThen_ok,Sem.run_ite,Sem.run_pure]
 simp[Sem.run_bind,p0,h0,p1,h1,p2,h2,Sem.run_ite]
theorem run_eq_body (n d:Nat) (hn:n=d+3) (x0 x1 x2 x3 x4 x5 x6 x7 x8 x9 x10 x11:Int) (w:World):(Op.equalIn (n+1) 33 (.agg #[.int .i64 x0,.int .i64 x1,.int .i64 x2,.int .i64 x3,.int .i64 x4,.int .i64 x5,.int .i64 x6,.int .i64 x7,.int .i64 x8,.int .i64 x9,.int .i64 x10,.int .i64 x11]) (.agg #[.int .i64 x0,.int .i64 x1,.int .i64 x2,.int .i64 x3,.int .i64 x4,.int .i64 x5,.int .i64 x6,.int .i64 x7,.int .i64 x8,.int .i64 x9,.int .i64 x10,.int .i64 x11])).run Tryz.prog w= .ok true w:=by
 have hi:Tryz.prog.underlying 3=some (.int .i64):=by kernel_rfl
 have hs:Tryz.prog.stoodInHeld 33=false:=by kernel_rfl
 have hp:∀ w,(program).run Tryz.prog w= .ok Tryz.prog w:=fun w=>by rfl
 have p0:∀ (x0 x1 x2 x3 x4 x5 x6 x7 x8 x9 x10 x11:Int) w,(part 3 #[.int .i64 x0,.int .i64 x1,.int .i64 x2,.int .i64 x3,.int .i64 x4,.int .i64 x5,.int .i64 x6,.int .i64 x7,.int .i64 x8,.int .i64 x9,.int .i64 x10,.int .i64 x11] 0).run Tryz.prog w= .ok (.int .i64 x0) w:=fun x0 x1 x2 x3 x4 x5 x6 x7 x8 x9 x10 x11 w=>by kernel_rfl
 have p1:∀ (x0 x1 x2 x3 x4 x5 x6 x7 x8 x9 x10 x11:Int) w,(part 29 #[.int .i64 x0,.int .i64 x1,.int .i64 x2,.int .i64 x3,.int .i64 x4,.int .i64 x5,.int .i64 x6,.int .i64 x7,.int .i64 x8,.int .i64 x9,.int .i64 x10,.int .i64 x11] 1).run Tryz.prog w= .ok (.agg #[.int .i64 x1,.int .i64 x2,.int .i64 x3]) w:=fun x0 x1 x2 x3 x4 x5 x6 x7 x8 x9 x10 x11 w=>by kernel_rfl
 have p2:∀ (x0 x1 x2 x3 x4 x5 x6 x7 x8 x9 x10 x11:Int) w,(part 31 #[.int .i64 x0,.int .i64 x1,.int .i64 x2,.int .i64 x3,.int .i64 x4,.int .i64 x5,.int .i64 x6,.int .i64 x7,.int .i64 x8,.int .i64 x9,.int .i64 x10,.int .i64 x11] 4).run Tryz.prog w= .ok (.agg #[.int .i64 x4,.int .i64 x5]) w:=fun x0 x1 x2 x3 x4 x5 x6 x7 x8 x9 x10 x11 w=>by kernel_rfl
 have p3:∀ (x0 x1 x2 x3 x4 x5 x6 x7 x8 x9 x10 x11:Int) w,(part 31 #[.int .i64 x0,.int .i64 x1,.int .i64 x2,.int .i64 x3,.int .i64 x4,.int .i64 x5,.int .i64 x6,.int .i64 x7,.int .i64 x8,.int .i64 x9,.int .i64 x10,.int .i64 x11] 6).run Tryz.prog w= .ok (.agg #[.int .i64 x6,.int .i64 x7]) w:=fun x0 x1 x2 x3 x4 x5 x6 x7 x8 x9 x10 x11 w=>by kernel_rfl
 have p4:∀ (x0 x1 x2 x3 x4 x5 x6 x7 x8 x9 x10 x11:Int) w,(part 3 #[.int .i64 x0,.int .i64 x1,.int .i64 x2,.int .i64 x3,.int .i64 x4,.int .i64 x5,.int .i64 x6,.int .i64 x7,.int .i64 x8,.int .i64 x9,.int .i64 x10,.int .i64 x11] 8).run Tryz.prog w= .ok (.int .i64 x8) w:=fun x0 x1 x2 x3 x4 x5 x6 x7 x8 x9 x10 x11 w=>by kernel_rfl
 have p5:∀ (x0 x1 x2 x3 x4 x5 x6 x7 x8 x9 x10 x11:Int) w,(part 3 #[.int .i64 x0,.int .i64 x1,.int .i64 x2,.int .i64 x3,.int .i64 x4,.int .i64 x5,.int .i64 x6,.int .i64 x7,.int .i64 x8,.int .i64 x9,.int .i64 x10,.int .i64 x11] 9).run Tryz.prog w= .ok (.int .i64 x9) w:=fun x0 x1 x2 x3 x4 x5 x6 x7 x8 x9 x10 x11 w=>by kernel_rfl
 have p6:∀ (x0 x1 x2 x3 x4 x5 x6 x7 x8 x9 x10 x11:Int) w,(part 3 #[.int .i64 x0,.int .i64 x1,.int .i64 x2,.int .i64 x3,.int .i64 x4,.int .i64 x5,.int .i64 x6,.int .i64 x7,.int .i64 x8,.int .i64 x9,.int .i64 x10,.int .i64 x11] 10).run Tryz.prog w= .ok (.int .i64 x10) w:=fun x0 x1 x2 x3 x4 x5 x6 x7 x8 x9 x10 x11 w=>by kernel_rfl
 have p7:∀ (x0 x1 x2 x3 x4 x5 x6 x7 x8 x9 x10 x11:Int) w,(part 3 #[.int .i64 x0,.int .i64 x1,.int .i64 x2,.int .i64 x3,.int .i64 x4,.int .i64 x5,.int .i64 x6,.int .i64 x7,.int .i64 x8,.int .i64 x9,.int .i64 x10,.int .i64 x11] 11).run Tryz.prog w= .ok (.int .i64 x11) w:=fun x0 x1 x2 x3 x4 x5 x6 x7 x8 x9 x10 x11 w=>by kernel_rfl
 simp only[Op.equalIn,Sem.run_bind,run_underlying Tryz.underlying33,Result.andThen_ok,hp,hs,Bool.false_eq_true,if_false,Sem.run_pure]
 subst hn
 have h0:∀ w,(Op.equalIn (d+3) 3 (.int .i64 x0) (.int .i64 x0)).run Tryz.prog w= .ok true w:=fun w=>by rw[run_equalIn_int w (d+2) 3 .i64 .i64 x0 x0 hi];simp
 have h1:∀ w,(Op.equalIn (d+3) 29 (.agg #[.int .i64 x1,.int .i64 x2,.int .i64 x3]) (.agg #[.int .i64 x1,.int .i64 x2,.int .i64 x3])).run Tryz.prog w= .ok true w:=fun w=>run_eq_shape (d+2) (d+1) rfl x1 x2 x3 w
 have h2:∀ w,(Op.equalIn (d+3) 31 (.agg #[.int .i64 x4,.int .i64 x5]) (.agg #[.int .i64 x4,.int .i64 x5])).run Tryz.prog w= .ok true w:=fun w=>by rw[run_eq_vec (d+2) (d+1) rfl];simp
 have h3:∀ w,(Op.equalIn (d+3) 31 (.agg #[.int .i64 x6,.int .i64 x7]) (.agg #[.int .i64 x6,.int .i64 x7])).run Tryz.prog w= .ok true w:=fun w=>by rw[run_eq_vec (d+2) (d+1) rfl];simp
 have h4:∀ w,(Op.equalIn (d+3) 3 (.int .i64 x8) (.int .i64 x8)).run Tryz.prog w= .ok true w:=fun w=>by rw[run_equalIn_int w (d+2) 3 .i64 .i64 x8 x8 hi];simp
 have h5:∀ w,(Op.equalIn (d+3) 3 (.int .i64 x9) (.int .i64 x9)).run Tryz.prog w= .ok true w:=fun w=>by rw[run_equalIn_int w (d+2) 3 .i64 .i64 x9 x9 hi];simp
 have h6:∀ w,(Op.equalIn (d+3) 3 (.int .i64 x10) (.int .i64 x10)).run Tryz.prog w= .ok true w:=fun w=>by rw[run_equalIn_int w (d+2) 3 .i64 .i64 x10 x10 hi];simp
 have h7:∀ w,(Op.equalIn (d+3) 3 (.int .i64 x11) (.int .i64 x11)).run Tryz.prog w= .ok true w:=fun w=>by rw[run_equalIn_int w (d+2) 3 .i64 .i64 x11 x11 hi];simp
 simp only[List.forIn_toArray,List.forIn_cons,List.forIn_nil,Sem.run_bind,p0,h0,Result.andThen_ok,Sem.run_ite,Sem.run_pure]
 simp[Sem.run_bind,p0,h0,p1,h1,p2,h2,p3,h3,p4,h4,p5,h5,p6,h6,p7,h7,Sem.run_ite]
theorem eq_body0 (x0 x1 x2 x3 x4 x5 x6 x7 x8 x9 x10 x11:Int) (w:World):(Op.equalIn 10000 33 (.agg #[.int .i64 x0,.int .i64 x1,.int .i64 x2,.int .i64 x3,.int .i64 x4,.int .i64 x5,.int .i64 x6,.int .i64 x7,.int .i64 x8,.int .i64 x9,.int .i64 x10,.int .i64 x11]) (.agg #[.int .i64 x0,.int .i64 x1,.int .i64 x2,.int .i64 x3,.int .i64 x4,.int .i64 x5,.int .i64 x6,.int .i64 x7,.int .i64 x8,.int .i64 x9,.int .i64 x10,.int .i64 x11])).run Tryz.prog w= .ok true w:=run_eq_body 9999 9996 rfl x0 x1 x2 x3 x4 x5 x6 x7 x8 x9 x10 x11 w
end Go.Proofs.YtcalhcfinkhemaaGreatDoor
