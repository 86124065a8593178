/- Texts of a proof. -/
import Derived.Test.YthajilkjfkppoaaGreatDoorMmo
import Derived.Test.YthajilkjfkppoaaGreatDoorB43
import Derived.Test.YthajilkjfkppoaaGreatDoorB47
import Derived.Test.YthajilkjfkppoaaGreatDoorB48
import Derived.Test.YthajilkjfkppoaaGreatDoorB42
import Derived.Deep.RegionHeld3
import Derived.Deep.DeepCutAuto
set_option maxHeartbeats 16000000
set_option maxRecDepth 20000
namespace Go.Proofs.YthajilkjfkppoaaGreatDoor
open Go.RowKit
set_option linter.unusedVariables false
set_option linter.unusedSimpArgs false
theorem flat_fr {w w':World} {a:Option Addr} {m:Nat} {U:Nat→Int} {X:Nat→Prop} (h:Flat w a m U) (hF:Fr X w w') (hX:∀ b o,a=some ⟨b,o,none⟩→0<m→b<w.heap.size→¬ X b):Flat w' a m U:=fun h0=>by
 obtain⟨b,o,e,hbl,hc⟩:=h h0
 exact⟨b,o,e,Nat.lt_of_lt_of_le hbl hF.size,fun j hj=>(hF.cell (p:=⟨b,o+j,none⟩) hbl (hX b o e h0 hbl)).trans (hc j hj)⟩
theorem putRow_k7 {U V:Nat→Int} {k j:Nat} (h:U (j*12+11)≤7) (hv:j=k→V 11≤7):putRow U k V (j*12+11)≤7:=by
 unfold putRow
 by_cases e:j=k
 · subst e;rw[if_pos (by omega),Nat.add_sub_cancel_left];exact hv rfl
 · rw[if_neg (by omega)];exact h
theorem pushV_k7 {V:Nat→Int} (p q:Int) (h:V 11≤7):pushV V p q 11≤7:=by
 unfold pushV
 split
 · exact h
 · simp[setV]
theorem one_k7 {U:Nat→Int} {j:Nat} (h:U (j*12+11)≤7) (A B:Nat) (X Y:Int) (bo:Bool):oneU U A B X Y bo (j*12+11)≤7:=by
 unfold oneU
 generalize puX (fun j=>U (A*12+j)) (fun j=>U (B*12+j)) X Y bo=p
 generalize puY (fun j=>U (A*12+j)) (fun j=>U (B*12+j)) X Y bo=q
 generalize ((p==0&&q==0)|| !fitsB (fun j=>U (A*12+j)) (fun j=>U (B*12+j)) p q)=z
 cases z with
 |true=>exact h
 |false=>exact putRow_k7 (putRow_k7 h (fun e=>pushV_k7 _ _ (by subst e;exact h))) (fun e=>pushV_k7 _ _ (by subst e;exact h))
theorem rnd_k7 {U C:Nat→Int} {j:Nat} (h:U (j*12+11)≤7) (bo:Bool):∀ k,rndN C bo U k (j*12+11)≤7
 |0=>h
 |k+1=>one_k7 (rnd_k7 h bo k) _ _ _ _ _
theorem all_k7 {U C:Nat→Int} {j m:Nat} (h:U (j*12+11)≤7):∀ r,allN C U m r (j*12+11)≤7
 |0=>h
 |r+1=>rnd_k7 (all_k7 h r) _ _
theorem apart_k7 {U:Nat→Int} {j:Nat} (h:U (j*12+11)≤7) (A B:Nat) (X Y D:Int):apartU U A B X Y D (j*12+11)≤7:=by
 unfold apartU
 cases decide (0<(D-64).tdiv 4) with
 |false=>exact h
 | true=>
   simp only[cond_true]
   have mv:∀ (V:Nat→Int) (p q:Int),V 11≤7→moveV V p q 11≤7:=fun V p q h=>h
   have key:∀ (U1:Nat→Int) (p q:Int),U1 (j*12+11)≤7→(bif decide (0<U (B*12+8)) then putRow U1 B (moveV (fun j=>U (B*12+j)) p q) else U1) (j*12+11)≤7:=fun U1 p q h1=>by
    cases decide (0<U (B*12+8)) with
    |false=>exact h1
    |true=>exact putRow_k7 h1 (fun e=>mv _ _ _ (by subst e;exact h))
   refine key _ _ _ ?_
   cases decide (0<U (A*12+8)) with
   |false=>exact h
   |true=>exact putRow_k7 h (fun e=>mv _ _ _ (by subst e;exact h))
theorem aparts_k7 {U C:Nat→Int} {j:Nat} (h:U (j*12+11)≤7):∀ k,apartN C U k (j*12+11)≤7
 |0=>h
 |k+1=>apart_k7 (aparts_k7 h k) _ _ _ _ _
theorem map_k7 {f:Nat→(Nat→Int)→Nat→Int} {U:Nat→Int} {n j:Nat} (hj:j<n) (h:f j (fun i=>U (j*12+i)) 11≤7):mapR f U n (j*12+11)≤7:=by rw[mapR_in hj (by omega)];exact h
theorem pull11 (g:Int) (V:Nat→Int):pullV g V 11=V 11:=by unfold pullV;cases liveV V<;>rfl
theorem go11 (V:Nat→Int):goV V 11=V 11:=by unfold goV;cases liveV V<;>rfl
theorem live_pull (g:Int) (V:Nat→Int):liveV (pullV g V)=liveV V:=by unfold liveV;rw[pull11,pull8]
theorem liveL_congr {U1 U2 C:Nat→Int}:∀ k,(∀ i,i<k→liveC U1 C i=liveC U2 C i)→liveL U1 C k=liveL U2 C k
 |0,_=>rfl
 |k+1,h=>by rw[liveL,liveL,liveL_congr k (fun i hi=>h i (by omega)),h k (by omega)]
theorem aw_any {n:Nat} {U:Nat→Int}:∀ j,j<n→awK (gpG n U) (awA n U) j=((List.range (awN n U)).filter (awA n U)).any (fun t=>decide (gpG n U j=(t:Int))):=fun j hj=>by
 have hb:=grp_bd U _ (gpG n U) n (gp_val n U) j hj
 have hlt:gpG n U j<(awN n U:Int):=hb.2.1
 rw[Bool.eq_iff_iff,List.any_eq_true]
 unfold awK
 rw[Bool.and_eq_true,decide_eq_true_iff]
 constructor
 · rintro⟨h0,h1⟩
   refine⟨(gpG n U j).toNat,List.mem_filter.2 ⟨List.mem_range.2 (by omega),h1⟩,decide_eq_true (by omega)⟩
 · rintro⟨t,ht,e⟩
   obtain⟨h1,h2⟩:=List.mem_filter.1 ht
   have e:=of_decide_eq_true e
   rw[e]
   exact⟨by omega,h2⟩
theorem rest7 {n:Nat} {U:Nat→Int} {g:Int} (hbb:Bods n U):∀ j,j<n→∀ t,t∈(List.range (awN n U)).filter (awA n U)→gpG n U j=(t:Int)→mapR (fun i V=>quietV (wokeU n U (i*12+11)) V) (goneU n U g) n (j*12+11)≤7:=fun j hj t ht hg=>by
 have hw:awK (gpG n U) (awA n U) j=true:=by
  rw[aw_any j hj,List.any_eq_true]
  exact⟨t,ht,decide_eq_true hg⟩
 have hq:=(BOk.of (hbb.ok j hj)).q11
 have h1:wokeU n U (j*12+11)≤7:=by
  unfold wokeU
  rw[mapR_in hj (by omega)]
  unfold wakeV
  rw[hw]
  cases e:decide (8≤U (j*12+11)) with
  |true=>simp[setV]
  | false=>
    have:=of_decide_eq_false e
    show U (j*12+11)≤7
    omega
 have h2:mapR (fun _ V=>pullV g V) (wokeU n U) n (j*12+11)≤7:=map_k7 hj (by rw[pull11];exact h1)
 have h3:pushU n U g (j*12+11)≤7:=all_k7 h2 4
 have h4:goneU n U g (j*12+11)≤7:=aparts_k7 (map_k7 hj (by rw[go11];exact h3)) _
 refine map_k7 hj ?_
 unfold quietV
 cases (decide ((fun i=>goneU n U g (j*12+i)) 8=0)||decide (8≤(fun i=>goneU n U g (j*12+i)) 11)) with
 |true=>exact h4
 | false=>
   simp only[cond_false,setV,if_true]
   cases (decide (-8≤spX (fun i=>goneU n U g (j*12+i))∧spX (fun i=>goneU n U g (j*12+i))≤8)&&decide (-8≤spY (fun i=>goneU n U g (j*12+i))∧spY (fun i=>goneU n U g (j*12+i))≤8)) with
   |true=>show mn _ 7≤7;unfold mn;split<;>omega
   |false=>show (0:Int)≤7;omega
theorem lv_pull {n:Nat} {U:Nat→Int} (g:Int):liveL (mapR (fun _ V=>pullV g V) (wokeU n U) n) (ctC n U) (ctM n U)=liveL (wokeU n U) (ctC n U) (ctM n U):=by
 obtain⟨ct,_⟩:=ct_ok n U
 refine liveL_congr _ fun i hi=> ?_
 unfold liveC
 have row:∀ z:Int,0≤z∧z<(n:Int)→liveV (rowU (mapR (fun _ V=>pullV g V) (wokeU n U) n) z)=liveV (rowU (wokeU n U) z):=fun z hz=>by
  have e:∀ q,q<12→rowU (mapR (fun _ V=>pullV g V) (wokeU n U) n) z q=pullV g (rowU (wokeU n U) z) q:=fun q hq=>by
   unfold rowU
   rw[mapR_in (by omega) hq]
  refine Eq.trans ?_ (live_pull g (rowU (wokeU n U) z))
  unfold liveV
  rw[e 8 (by omega),e 11 (by omega)]
 rw[row _ (ct.a i hi),row _ (ct.b i hi)]
theorem stages_any (w:World):Calls Tryz.prog 97 #[] w fun e w'=>∃ sb,e= .returned (.slice (some ⟨sb,0,none⟩) 6 6)∧w.heap.size≤sb∧Below w.heap.size w w'∧w'.cell? ⟨sb,0,none⟩=some (.func (.func 118) #[] #[])∧w'.cell? ⟨sb,1,none⟩=some (.func (.func 119) #[] #[])∧w'.cell? ⟨sb,2,none⟩=some (.func (.func 120) #[] #[])∧w'.cell? ⟨sb,3,none⟩=some (.func (.func 121) #[] #[])∧w'.cell? ⟨sb,4,none⟩=some (.func (.func 122) #[] #[])∧w'.cell? ⟨sb,5,none⟩=some (.func (.func 123) #[] #[]):=by
 have hset:=cset_map
 go_enter Tryz.func97,Tryz.ntmps97
 go_wp2
 go_ret
 exact⟨_,rfl,Nat.le_refl _,(Below.refl _ _).alloc (Nat.le_refl _) _,by go_simp,by go_simp,by go_simp,by go_simp,by go_simp,by go_simp⟩
theorem step_any (cb n:Nat) (g:Int) (U:Nat→Int) (S:Nat→Value) (w:World) (hC:Cs w cb n (colOf U) S) (hbb:Bods n U) (hg:0≤g∧g≤2560):
 Calls Tryz.prog 73 #[.pointer (some ⟨cb,0,none⟩),.int .i64 g] w fun e w'=>e= .returned (.tuple #[])∧Cs w' cb n (colOf (stepU n U g)) S∧Fr (Xc S) w w':=by
 have hset:=cset_map
 have hn:=hbb.le
 obtain⟨hB1,hB2,hB3,hB4,hB5,hB6,hB7,-⟩:=hbb.steps g
 obtain⟨ct,hct5⟩:=ct_ok n U
 obtain⟨hctl,hl5'⟩:=lv_ok n U
 have hl5:(liveL (mapR (fun _ V=>pullV g V) (wokeU n U) n) (ctC n U) (ctM n U)).length=lvM n U*5:=by rw[lv_pull];exact hl5'
 have hlve:ofL (liveL (mapR (fun _ V=>pullV g V) (wokeU n U) n) (ctC n U) (ctM n U))=lvC n U:=by rw[lv_pull];rfl
 rw[←hlve] at hctl
 have hMk:ctM n U≤144:=by
  obtain⟨m,e,hm⟩:=conOut_len (colOf U) n n
  have e':(conL (colOf U) n).length=m*5:=e
  have:=Nat.mul_le_mul hn hn
  omega
 have hlm:lvM n U≤1048576:=by
  have:=liveL_len (wokeU n U) (ctC n U) (ctM n U)
  omega
 have hgl:((List.range (awN n U)).filter (awA n U)).length≤12:=by
  have h1:=List.length_filter_le (awA n U) (List.range (awN n U))
  rw[List.length_range] at h1
  have h2:awN n U≤n:=awL_len U (gpG n U) n
  omega
 have hnd:((List.range (awN n U)).filter (awA n U)).Nodup:=List.Pairwise.filter _ List.nodup_range
 have hZ:∀ k,k<n→0≤colOf (wokeU n U) 11 k∧colOf (wokeU n U) 11 k≤8:=fun k hk=>(BOk.of (hB1.ok k hk)).q11
 have hcw:=hC.lt
 have hxl:∀ b,Xc S b→b<w.heap.size:=fun b e=>(hC.xlt e).2
 go_enter Tryz.func73,Tryz.ntmps73
 go_upto_region 1 with(go_at_call 96;refine(motionOf_any cb n g U S _ hC hbb).mono ?_;rintro e w1 ⟨mb,aM,cM,v,rfl,hmb,hb1,hf1,hFt1,hmbl,h31,g31,hA1⟩)
 have hmx:¬ Xc S mb:=fun e=>by have:=hxl _ e;omega
 have hmc:¬ cb=mb:=by omega
 have hxD:∀ b,Xc S b→b<mb+1:=fun b e=>by have:=hxl b e;omega
 have hml:mb<w1.heap.size:=cell_lt (a:=⟨mb,0,none⟩) hf1.f0
 have hz1:=hb1.size
 go_upto_region 2 with(go_at_call 97;refine(stages_any _).mono ?_;rintro e w2 ⟨sb,rfl,hsb,hb2,t0,t1,t2,t3,t4,t5⟩)
 have hf:=hf1.bl hb2 hml
 have h3:=keepL hb2 h31
 have hA:=hA1.fr (Fr.of_below (X:=fun _=>False) hb2) (fun b _ _ e=>e)
 have hFt:=hFt1.below hb2
 have hC2:=(hC.below hb1).below hb2
 have hF2:Fr (Xc S) w w2:=(Fr.of_below hb1).trans (Fr.of_below hb2)
 have hsx:¬ (Xc S sb∨sb=mb):=fun e=>e.elim (fun e=>by have:=hxl _ e;omega) (fun e=>by omega)
 have hsx1:¬ Xc S sb:=fun e=>hsx (.inl e)
 have hsl:sb<w2.heap.size:=cell_lt (a:=⟨sb,0,none⟩) t0
 clear hf1 h31 hA1 hFt1
 refine wp_loop_rounds 7 ?_
 rw[rounds_succ]
 go_wp2_with (go_at_call 118;refine(wake_any mb cb n (mb+1) U (gpG n U) _ v S _ hC2 hf.f0 h3 _ hf.f5 hf.g5 hmx hmc hA hxD hgl hn hbb (awK (gpG n U) (awA n U)) (fun j hj=>aw_any j hj)).mono ?_;rintro e w3 ⟨rfl,hC3,hF3,aq,qc,hq5,hqF,hqb,ho3,hg3⟩;replace t0:=(hF3.cell (p:=⟨sb,0,none⟩) (cell_lt (a:=⟨sb,0,none⟩) t0) hsx).trans t0;replace t1:=(hF3.cell (p:=⟨sb,1,none⟩) (cell_lt (a:=⟨sb,1,none⟩) t1) hsx).trans t1;replace t2:=(hF3.cell (p:=⟨sb,2,none⟩) (cell_lt (a:=⟨sb,2,none⟩) t2) hsx).trans t2;replace t3:=(hF3.cell (p:=⟨sb,3,none⟩) (cell_lt (a:=⟨sb,3,none⟩) t3) hsx).trans t3;replace t4:=(hF3.cell (p:=⟨sb,4,none⟩) (cell_lt (a:=⟨sb,4,none⟩) t4) hsx).trans t4;replace t5:=(hF3.cell (p:=⟨sb,5,none⟩) (cell_lt (a:=⟨sb,5,none⟩) t5) hsx).trans t5)
 have p0:=ho3 0 _ (by omega) hf.f0
 have p1:=ho3 1 _ (by omega) hf.f1
 have p2:=ho3 2 _ (by omega) hf.f2
 have p3:=ho3 3 _ (by omega) h3
 have p4:=ho3 4 _ (by omega) hf.f4
 have pg:=hg3 4 hf.g4
 have hz3:=hF3.size
 have hnm:∀ b o,aM=some ⟨b,o,none⟩→0<ctM n U*5→¬ (Xc S b∨b=mb):=fun b o e h0 q=>by
  have h1:=hmbl b o e h0
  rcases q with q|q
  · have:=hxl b q;omega
  · omega
 have hFt3:=flat_fr hFt hF3 (fun b o e h0 _=>hnm b o e h0)
 have hA3:=hA.fr hF3 (fun b h1 _ e=>e.elim (fun e=>by have:=hxD b e;omega) (fun e=>by omega))
 have hw2l:mb<w2.heap.size:=cell_lt (a:=⟨mb,0,none⟩) hf.f0
 have hqn:∀ b o,aq=some ⟨b,o,none⟩→0<n→¬ (Xc S b∨b=mb):=fun b o e h0 q=>by
  have:=hqb b o e
  rcases q with q|q
  · have:=hxl b q;omega
  · omega
 have hqn6:∀ b o,aq=some ⟨b,o,none⟩→0<n→¬ Xc S b:=fun b o e h0 q=>hqn b o e h0 (.inl q)
 replace hC3:Cs w3 cb n (colOf (wokeU n U)) S:=hC3
 have hml3:mb<w3.heap.size:=cell_lt (a:=⟨mb,0,none⟩) p0
 have hql:∀ b o,aq=some ⟨b,o,none⟩→0<n→b<w3.heap.size:=fun b o e h0=>by
  obtain⟨b',o',e',hb,-⟩:=hqF h0
  rw[e] at e';cases e';exact hb
 have hf23:Fr (Xc S) w w3:=hF2.trans' hF3 (fun i hi e=>e.elim id (fun e=>by omega))
 clear hF2 hFt hA hC2 hf h3 hb1 hb2 hqb hmbl ho3 hg3
 rw[rounds_succ]
 go_wp2_with (go_at_call 119;refine(pullDown_any mb cb n g (wokeU n U) S w3 hC3 p0 p1 hmx hn hB1 hg).mono ?_;rintro e w4 ⟨rfl,hC4,hF4⟩;replace t0:=(hF4.cell (p:=⟨sb,0,none⟩) (cell_lt (a:=⟨sb,0,none⟩) t0) hsx1).trans t0;replace t1:=(hF4.cell (p:=⟨sb,1,none⟩) (cell_lt (a:=⟨sb,1,none⟩) t1) hsx1).trans t1;replace t2:=(hF4.cell (p:=⟨sb,2,none⟩) (cell_lt (a:=⟨sb,2,none⟩) t2) hsx1).trans t2;replace t3:=(hF4.cell (p:=⟨sb,3,none⟩) (cell_lt (a:=⟨sb,3,none⟩) t3) hsx1).trans t3;replace t4:=(hF4.cell (p:=⟨sb,4,none⟩) (cell_lt (a:=⟨sb,4,none⟩) t4) hsx1).trans t4;replace t5:=(hF4.cell (p:=⟨sb,5,none⟩) (cell_lt (a:=⟨sb,5,none⟩) t5) hsx1).trans t5)
 have q0:=(hF4.cell (p:=⟨mb,0,none⟩) hml3 hmx).trans p0
 have q2:=(hF4.cell (p:=⟨mb,2,none⟩) hml3 hmx).trans p2
 have q3:=(hF4.cell (p:=⟨mb,3,none⟩) hml3 hmx).trans p3
 have q4:=(hF4.cell (p:=⟨mb,4,none⟩) hml3 hmx).trans p4
 have q5:=(hF4.cell (p:=⟨mb,5,none⟩) hml3 hmx).trans hq5
 have g4:=(hF4.frozen (p:=⟨mb,4,none⟩) hml3 hmx).trans pg
 have hFt4:=flat_fr hFt3 hF4 (fun b o e h0 _ q=>hnm b o e h0 (.inl q))
 have hq4:=flat_fr hqF hF4 (fun b o e h0 _ q=>hqn b o e h0 (.inl q))
 have hf24:=hf23.trans hF4
 have hz4:=hF4.size
 clear hFt3 hqF hf23 p0 p1 p2 p3 p4 pg hq5 hC3
 rw[rounds_succ]
 go_wp2_with (go_at_call 120;refine(push_any mb cb n (ctM n U) aM cM _ (ctC n U) S w4 hC4 q0 q2 _ q4 g4 hmx hmc hFt4 ct hMk hn hB2 (lvM n U) hl5 hctl).mono ?_;rintro e w5 ⟨rfl,rb,hrb,hR5,hr4,hC5,hF5,ho5⟩;replace t0:=(hF5.cell (p:=⟨sb,0,none⟩) (cell_lt (a:=⟨sb,0,none⟩) t0) hsx).trans t0;replace t1:=(hF5.cell (p:=⟨sb,1,none⟩) (cell_lt (a:=⟨sb,1,none⟩) t1) hsx).trans t1;replace t2:=(hF5.cell (p:=⟨sb,2,none⟩) (cell_lt (a:=⟨sb,2,none⟩) t2) hsx).trans t2;replace t3:=(hF5.cell (p:=⟨sb,3,none⟩) (cell_lt (a:=⟨sb,3,none⟩) t3) hsx).trans t3;replace t4:=(hF5.cell (p:=⟨sb,4,none⟩) (cell_lt (a:=⟨sb,4,none⟩) t4) hsx).trans t4;replace t5:=(hF5.cell (p:=⟨sb,5,none⟩) (cell_lt (a:=⟨sb,5,none⟩) t5) hsx).trans t5)
 have hcr:cb<rb:=by omega
 have hxr:∀ b,Xc S b→b<rb:=fun b e=>by have:=hxl b e;omega
 rw[hlve] at hctl hR5 hC5
 replace hC5:Cs w5 cb n (colOf (pushU n U g)) S:=hC5
 have r0:=ho5 0 _ (by omega) q0
 have r3:=ho5 3 _ (by omega) q3
 have r5:=ho5 5 _ (by omega) q5
 have hq5':=flat_fr hq4 hF5 (fun b o e h0 _ q=>hqn b o e h0 q)
 have hf25:Fr (Xc S) w w5:=hf24.trans' hF5 (fun i hi e=>e.elim id (fun e=>by omega))
 have hml5:mb<w5.heap.size:=cell_lt (a:=⟨mb,0,none⟩) r0
 have hmr:¬ (Xc S mb∨mb=rb):=fun e=>e.elim hmx (fun e=>by omega)
 clear hFt4 hq4 hf24 q0 q2 q3 q4 q5 g4 hC4 ho5
 rw[rounds_succ]
 go_wp2_with (go_at_call 121;refine(move_any mb cb n rb (lvM n U) (lvC n U) (pushU n U g) S w5 hC5 r0 hr4 hR5 hlm hctl hcr hxr hmx hn hB3).mono ?_;rintro e w6 ⟨rfl,hC6,hF6⟩;replace t0:=(hF6.cell (p:=⟨sb,0,none⟩) (cell_lt (a:=⟨sb,0,none⟩) t0) (fun e=>e.elim hsx1 (fun e=>by have e:sb=rb:=e;omega))).trans t0;replace t1:=(hF6.cell (p:=⟨sb,1,none⟩) (cell_lt (a:=⟨sb,1,none⟩) t1) (fun e=>e.elim hsx1 (fun e=>by have e:sb=rb:=e;omega))).trans t1;replace t2:=(hF6.cell (p:=⟨sb,2,none⟩) (cell_lt (a:=⟨sb,2,none⟩) t2) (fun e=>e.elim hsx1 (fun e=>by have e:sb=rb:=e;omega))).trans t2;replace t3:=(hF6.cell (p:=⟨sb,3,none⟩) (cell_lt (a:=⟨sb,3,none⟩) t3) (fun e=>e.elim hsx1 (fun e=>by have e:sb=rb:=e;omega))).trans t3;replace t4:=(hF6.cell (p:=⟨sb,4,none⟩) (cell_lt (a:=⟨sb,4,none⟩) t4) (fun e=>e.elim hsx1 (fun e=>by have e:sb=rb:=e;omega))).trans t4;replace t5:=(hF6.cell (p:=⟨sb,5,none⟩) (cell_lt (a:=⟨sb,5,none⟩) t5) (fun e=>e.elim hsx1 (fun e=>by have e:sb=rb:=e;omega))).trans t5)
 replace hC6:Cs w6 cb n (colOf (goneU n U g)) S:=hC6
 have s0:=(hF6.cell (p:=⟨mb,0,none⟩) hml5 hmr).trans r0
 have s3:=(hF6.cell (p:=⟨mb,3,none⟩) hml5 hmr).trans r3
 have s5:=(hF6.cell (p:=⟨mb,5,none⟩) hml5 hmr).trans r5
 have hF36:Fr (fun b=>Xc S b∨b=mb∨b=rb) w3 w6:=((hF4.mono (fun _ _ e=> .inl e)).trans (hF5.mono (fun _ _ e=>e.elim .inl (fun e=> .inr (.inl e))))).trans (hF6.mono (fun _ _ e=>e.elim .inl (fun e=> .inr (.inr e))))
 have hA6:=hA3.fr hF36 (fun b h1 hl e=>e.elim (fun e=>by have:=hxD b e;omega) (fun e=>e.elim (fun e=>by omega) (fun e=>by omega)))
 have hq6:=flat_fr hq5' hF6 (fun b o e h0 _ q=>q.elim (hqn6 b o e h0) (fun q=>by have:=hql b o e h0;omega))
 have hf26:Fr (Xc S) w w6:=hf25.trans' hF6 (fun i hi e=>e.elim id (fun e=>by omega))
 clear hA3 hF36 hq5' hf25 r0 r3 r5 hC5 hR5
 rw[rounds_succ]
 go_wp2_with (go_at_call 122;refine(countQuiet_any mb cb n (colOf (wokeU n U) 11) aq qc (goneU n U g) S w6 hC6 s0 s5 hq6 hqn6 hmx hn hB5 hZ).mono ?_;rintro e w7 ⟨rfl,hC7,hF7⟩;replace t0:=(hF7.cell (p:=⟨sb,0,none⟩) (cell_lt (a:=⟨sb,0,none⟩) t0) hsx1).trans t0;replace t1:=(hF7.cell (p:=⟨sb,1,none⟩) (cell_lt (a:=⟨sb,1,none⟩) t1) hsx1).trans t1;replace t2:=(hF7.cell (p:=⟨sb,2,none⟩) (cell_lt (a:=⟨sb,2,none⟩) t2) hsx1).trans t2;replace t3:=(hF7.cell (p:=⟨sb,3,none⟩) (cell_lt (a:=⟨sb,3,none⟩) t3) hsx1).trans t3;replace t4:=(hF7.cell (p:=⟨sb,4,none⟩) (cell_lt (a:=⟨sb,4,none⟩) t4) hsx1).trans t4;replace t5:=(hF7.cell (p:=⟨sb,5,none⟩) (cell_lt (a:=⟨sb,5,none⟩) t5) hsx1).trans t5)
 replace hC7:Cs w7 cb n (colOf (mapR (fun i V=>quietV (wokeU n U (i*12+11)) V) (goneU n U g) n)) S:=hC7
 have hml6:mb<w6.heap.size:=cell_lt (a:=⟨mb,0,none⟩) s0
 have u3:=(hF7.cell (p:=⟨mb,3,none⟩) hml6 hmx).trans s3
 have hA7:=hA6.fr hF7 (fun b h1 _ e=>by have:=hxD b e;omega)
 have hf27:=hf26.trans hF7
 clear hA6 hq6 hf26 s0 s3 s5 hC6
 rw[rounds_succ]
 go_wp2_with (go_at_call 123;refine(fallAsleep_any mb cb n (mb+1) (mapR (fun i V=>quietV (wokeU n U (i*12+11)) V) (goneU n U g) n) (gpG n U) _ v S w7 hC7 u3 hmx hA7 hxD hgl hnd hn (rest7 hbb)).mono ?_;rintro e w8 ⟨rfl,hC8,hF8⟩)
 rw[rounds_succ]
 go_wp2_with fail
 go_end0
 refine⟨rfl,?_,hf27.trans hF8⟩
 rw[←sleepN_eq] at hC8
 exact hC8
end Go.Proofs.YthajilkjfkppoaaGreatDoor
