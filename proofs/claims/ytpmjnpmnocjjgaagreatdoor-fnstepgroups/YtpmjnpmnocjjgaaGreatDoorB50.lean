/- Texts of a proof. -/
import Derived.Test.YtpmjnpmnocjjgaaGreatDoorB48
import Derived.Test.YtpmjnpmnocjjgaaGreatDoorB43
import Derived.Test.YtpmjnpmnocjjgaaGreatDoorB49
import Derived.Test.YtpmjnpmnocjjgaaGreatDoorB41
import Derived.Deep.RegionHeld3
import Derived.Deep.DeepCutAuto
import Derived.Test.YtpmjnpmnocjjgaaGreatDoorB32
import Derived.Test.YtpmjnpmnocjjgaaGreatDoorB26
import Derived.Test.YtpmjnpmnocjjgaaGreatDoorB6
import Derived.LoopNIn
import Derived.LoopIn
import Derived.Test.YtpmjnpmnocjjgaaGreatDoorB8
import Derived.Test.YtpmjnpmnocjjgaaGreatDoorB34
set_option maxHeartbeats 16000000
set_option maxRecDepth 20000
namespace Go.Proofs.YtpmjnpmnocjjgaaGreatDoor
open Go.RowKit
set_option linter.unusedVariables false
set_option linter.unusedSimpArgs false
theorem flat_fr {w w':World} {a:Option Addr} {m:Nat} {U:Nat→Int} {X:Nat→Prop} (h:Flat w a m U) (hF:Fr X w w') (hX:∀ b o,a=some ⟨b,o,none⟩→0<m→b<w.heap.size→¬ X b):Flat w' a m U:=fun h0=>by
 obtain⟨b,o,e,hbl,hc⟩:=h h0
 exact⟨b,o,e,Nat.lt_of_lt_of_le hbl hF.size,fun j hj=>(hF.cell (p:=⟨b,o+j,none⟩) hbl (hX b o e h0 hbl)).trans (hc j hj)⟩
theorem putRow_k7 {U V:Nat→Int} {k j:Nat} (h:U (j*12+11)≤7) (hv:j=k→V 11≤7):putRow U k V (j*12+11)≤7:=by
 unfold putRow
 by_cases e:j=k
 · subst e;rw[if_pos (by omega),Nat.add_sub_cancel_left];exact hv rfl
 · rw[if_neg (by omega)];exact h
theorem pushV_k7 {V:Nat→Int} (p q:Int) (h:V 11≤7):pushV V p q 11≤7:=by
 unfold pushV
 split
 · exact h
 · simp[setV]
theorem one_k7 {U:Nat→Int} {j:Nat} (h:U (j*12+11)≤7) (A B:Nat) (X Y:Int) (bo:Bool):oneU U A B X Y bo (j*12+11)≤7:=by
 unfold oneU
 generalize puX (fun j=>U (A*12+j)) (fun j=>U (B*12+j)) X Y bo=p
 generalize puY (fun j=>U (A*12+j)) (fun j=>U (B*12+j)) X Y bo=q
 generalize ((p==0&&q==0)|| !fitsB (fun j=>U (A*12+j)) (fun j=>U (B*12+j)) p q)=z
 cases z with
 |true=>exact h
 |false=>exact putRow_k7 (putRow_k7 h (fun e=>pushV_k7 _ _ (by subst e;exact h))) (fun e=>pushV_k7 _ _ (by subst e;exact h))
theorem rnd_k7 {U C:Nat→Int} {j:Nat} (h:U (j*12+11)≤7) (bo:Bool):∀ k,rndN C bo U k (j*12+11)≤7
 |0=>h
 |k+1=>one_k7 (rnd_k7 h bo k) _ _ _ _ _
theorem all_k7 {U C:Nat→Int} {j m:Nat} (h:U (j*12+11)≤7):∀ r,allN C U m r (j*12+11)≤7
 |0=>h
 |r+1=>rnd_k7 (all_k7 h r) _ _
theorem apart_k7 {U:Nat→Int} {j:Nat} (h:U (j*12+11)≤7) (A B:Nat) (X Y D:Int):apartU U A B X Y D (j*12+11)≤7:=by
 unfold apartU
 cases decide (0<(D-64).tdiv 4) with
 |false=>exact h
 | true=>
   simp only[cond_true]
   have mv:∀ (V:Nat→Int) (p q:Int),V 11≤7→moveV V p q 11≤7:=fun V p q h=>h
   have key:∀ (U1:Nat→Int) (p q:Int),U1 (j*12+11)≤7→(bif decide (0<U (B*12+8)) then putRow U1 B (moveV (fun j=>U (B*12+j)) p q) else U1) (j*12+11)≤7:=fun U1 p q h1=>by
    cases decide (0<U (B*12+8)) with
    |false=>exact h1
    |true=>exact putRow_k7 h1 (fun e=>mv _ _ _ (by subst e;exact h))
   refine key _ _ _ ?_
   cases decide (0<U (A*12+8)) with
   |false=>exact h
   |true=>exact putRow_k7 h (fun e=>mv _ _ _ (by subst e;exact h))
theorem aparts_k7 {U C:Nat→Int} {j:Nat} (h:U (j*12+11)≤7):∀ k,apartN C U k (j*12+11)≤7
 |0=>h
 |k+1=>apart_k7 (aparts_k7 h k) _ _ _ _ _
theorem map_k7 {f:Nat→(Nat→Int)→Nat→Int} {U:Nat→Int} {n j:Nat} (hj:j<n) (h:f j (fun i=>U (j*12+i)) 11≤7):mapR f U n (j*12+11)≤7:=by rw[mapR_in hj (by omega)];exact h
theorem pull11 (g:Int) (V:Nat→Int):pullV g V 11=V 11:=by unfold pullV;cases liveV V<;>rfl
theorem go11 (V:Nat→Int):goV V 11=V 11:=by unfold goV;cases liveV V<;>rfl
theorem live_pull (g:Int) (V:Nat→Int):liveV (pullV g V)=liveV V:=by unfold liveV;rw[pull11,pull8]
theorem liveL_congr {U1 U2 C:Nat→Int}:∀ k,(∀ i,i<k→liveC U1 C i=liveC U2 C i)→liveL U1 C k=liveL U2 C k
 |0,_=>rfl
 |k+1,h=>by rw[liveL,liveL,liveL_congr k (fun i hi=>h i (by omega)),h k (by omega)]
theorem aw_any {n:Nat} {U:Nat→Int}:∀ j,j<n→awK (gpG n U) (awA n U) j=((List.range (awN n U)).filter (awA n U)).any (fun t=>decide (gpG n U j=(t:Int))):=fun j hj=>by
 have hb:=grp_bd U _ (gpG n U) n (gp_val n U) j hj
 have hlt:gpG n U j<(awN n U:Int):=hb.2.1
 rw[Bool.eq_iff_iff,List.any_eq_true]
 unfold awK
 rw[Bool.and_eq_true,decide_eq_true_iff]
 constructor
 · rintro⟨h0,h1⟩
   refine⟨(gpG n U j).toNat,List.mem_filter.2 ⟨List.mem_range.2 (by omega),h1⟩,decide_eq_true (by omega)⟩
 · rintro⟨t,ht,e⟩
   obtain⟨h1,h2⟩:=List.mem_filter.1 ht
   have e:=of_decide_eq_true e
   rw[e]
   exact⟨by omega,h2⟩
theorem rest7 {n:Nat} {U:Nat→Int} {g:Int} (hbb:Bods n U):∀ j,j<n→∀ t,t∈(List.range (awN n U)).filter (awA n U)→gpG n U j=(t:Int)→mapR (fun i V=>quietV (wokeU n U (i*12+11)) V) (goneU n U g) n (j*12+11)≤7:=fun j hj t ht hg=>by
 have hw:awK (gpG n U) (awA n U) j=true:=by
  rw[aw_any j hj,List.any_eq_true]
  exact⟨t,ht,decide_eq_true hg⟩
 have hq:=(BOk.of (hbb.ok j hj)).q11
 have h1:wokeU n U (j*12+11)≤7:=by
  unfold wokeU
  rw[mapR_in hj (by omega)]
  unfold wakeV
  rw[hw]
  cases e:decide (8≤U (j*12+11)) with
  |true=>simp[setV]
  | false=>
    have:=of_decide_eq_false e
    show U (j*12+11)≤7
    omega
 have h2:mapR (fun _ V=>pullV g V) (wokeU n U) n (j*12+11)≤7:=map_k7 hj (by rw[pull11];exact h1)
 have h3:pushU n U g (j*12+11)≤7:=all_k7 h2 4
 have h4:goneU n U g (j*12+11)≤7:=aparts_k7 (map_k7 hj (by rw[go11];exact h3)) _
 refine map_k7 hj ?_
 unfold quietV
 cases (decide ((fun i=>goneU n U g (j*12+i)) 8=0)||decide (8≤(fun i=>goneU n U g (j*12+i)) 11)) with
 |true=>exact h4
 | false=>
   simp only[cond_false,setV,if_true]
   cases (decide (-8≤spX (fun i=>goneU n U g (j*12+i))∧spX (fun i=>goneU n U g (j*12+i))≤8)&&decide (-8≤spY (fun i=>goneU n U g (j*12+i))∧spY (fun i=>goneU n U g (j*12+i))≤8)) with
   |true=>show mn _ 7≤7;unfold mn;split<;>omega
   |false=>show (0:Int)≤7;omega
theorem lv_pull {n:Nat} {U:Nat→Int} (g:Int):liveL (mapR (fun _ V=>pullV g V) (wokeU n U) n) (ctC n U) (ctM n U)=liveL (wokeU n U) (ctC n U) (ctM n U):=by
 obtain⟨ct,_⟩:=ct_ok n U
 refine liveL_congr _ fun i hi=> ?_
 unfold liveC
 have row:∀ z:Int,0≤z∧z<(n:Int)→liveV (rowU (mapR (fun _ V=>pullV g V) (wokeU n U) n) z)=liveV (rowU (wokeU n U) z):=fun z hz=>by
  have e:∀ q,q<12→rowU (mapR (fun _ V=>pullV g V) (wokeU n U) n) z q=pullV g (rowU (wokeU n U) z) q:=fun q hq=>by
   unfold rowU
   rw[mapR_in (by omega) hq]
  refine Eq.trans ?_ (live_pull g (rowU (wokeU n U) z))
  unfold liveV
  rw[e 8 (by omega),e 11 (by omega)]
 rw[row _ (ct.a i hi),row _ (ct.b i hi)]
theorem stages_any (w:World):Calls Tryz.prog 92 #[] w fun e w'=>∃ sb,e= .returned (.slice (some ⟨sb,0,none⟩) 6 6)∧w.heap.size≤sb∧Below w.heap.size w w'∧w'.cell? ⟨sb,0,none⟩=some (.func (.func 110) #[] #[])∧w'.cell? ⟨sb,1,none⟩=some (.func (.func 111) #[] #[])∧w'.cell? ⟨sb,2,none⟩=some (.func (.func 112) #[] #[])∧w'.cell? ⟨sb,3,none⟩=some (.func (.func 113) #[] #[])∧w'.cell? ⟨sb,4,none⟩=some (.func (.func 114) #[] #[])∧w'.cell? ⟨sb,5,none⟩=some (.func (.func 115) #[] #[]):=by
 have hset:=cset_map
 go_enter Tryz.func92,Tryz.ntmps92
 go_wp2
 go_ret
 exact⟨_,rfl,Nat.le_refl _,(Below.refl _ _).alloc (Nat.le_refl _) _,by go_simp,by go_simp,by go_simp,by go_simp,by go_simp,by go_simp⟩
theorem step_any (cb n:Nat) (g:Int) (U:Nat→Int) (S:Nat→Value) (w:World) (hC:Cs w cb n (colOf U) S) (hbb:Bods n U) (hg:0≤g∧g≤2560):
 Calls Tryz.prog 56 #[.pointer (some ⟨cb,0,none⟩),.int .i64 g] w fun e w'=>e= .returned (.tuple #[])∧Cs w' cb n (colOf (stepU n U g)) S∧Fr (Xc S) w w':=by
 have hset:=cset_map
 have hn:=hbb.le
 obtain⟨hB1,hB2,hB3,hB4,hB5,hB6,hB7,-⟩:=hbb.steps g
 obtain⟨ct,hct5⟩:=ct_ok n U
 obtain⟨hctl,hl5'⟩:=lv_ok n U
 have hl5:(liveL (mapR (fun _ V=>pullV g V) (wokeU n U) n) (ctC n U) (ctM n U)).length=lvM n U*5:=by rw[lv_pull];exact hl5'
 have hlve:ofL (liveL (mapR (fun _ V=>pullV g V) (wokeU n U) n) (ctC n U) (ctM n U))=lvC n U:=by rw[lv_pull];rfl
 rw[←hlve] at hctl
 have hMk:ctM n U≤144:=by
  obtain⟨m,e,hm⟩:=conOut_len (colOf U) n n
  have e':(conL (colOf U) n).length=m*5:=e
  have:=Nat.mul_le_mul hn hn
  omega
 have hlm:lvM n U≤1048576:=by
  have:=liveL_len (wokeU n U) (ctC n U) (ctM n U)
  omega
 have hgl:((List.range (awN n U)).filter (awA n U)).length≤12:=by
  have h1:=List.length_filter_le (awA n U) (List.range (awN n U))
  rw[List.length_range] at h1
  have h2:awN n U≤n:=awL_len U (gpG n U) n
  omega
 have hnd:((List.range (awN n U)).filter (awA n U)).Nodup:=List.Pairwise.filter _ List.nodup_range
 have hZ:∀ k,k<n→0≤colOf (wokeU n U) 11 k∧colOf (wokeU n U) 11 k≤8:=fun k hk=>(BOk.of (hB1.ok k hk)).q11
 have hcw:=hC.lt
 have hxl:∀ b,Xc S b→b<w.heap.size:=fun b e=>(hC.xlt e).2
 go_enter Tryz.func56,Tryz.ntmps56
 go_upto_region 1 with(go_at_call 91;refine(motionOf_any cb n g U S _ hC hbb).mono ?_;rintro e w1 ⟨mb,aM,cM,v,rfl,hmb,hb1,hf1,hFt1,hmbl,h31,g31,hA1⟩)
 have hmx:¬ Xc S mb:=fun e=>by have:=hxl _ e;omega
 have hmc:¬ cb=mb:=by omega
 have hxD:∀ b,Xc S b→b<mb+1:=fun b e=>by have:=hxl b e;omega
 have hml:mb<w1.heap.size:=cell_lt (a:=⟨mb,0,none⟩) hf1.f0
 have hz1:=hb1.size
 go_upto_region 2 with(go_at_call 92;refine(stages_any _).mono ?_;rintro e w2 ⟨sb,rfl,hsb,hb2,t0,t1,t2,t3,t4,t5⟩)
 have hf:=hf1.bl hb2 hml
 have h3:=keepL hb2 h31
 have hA:=hA1.fr (Fr.of_below (X:=fun _=>False) hb2) (fun b _ _ e=>e)
 have hFt:=hFt1.below hb2
 have hC2:=(hC.below hb1).below hb2
 have hF2:Fr (Xc S) w w2:=(Fr.of_below hb1).trans (Fr.of_below hb2)
 have hsx:¬ (Xc S sb∨sb=mb):=fun e=>e.elim (fun e=>by have:=hxl _ e;omega) (fun e=>by omega)
 have hsx1:¬ Xc S sb:=fun e=>hsx (.inl e)
 have hsl:sb<w2.heap.size:=cell_lt (a:=⟨sb,0,none⟩) t0
 clear hf1 h31 hA1 hFt1
 refine wp_loop_rounds 7 ?_
 rw[rounds_succ]
 go_wp2_with (go_at_call 110;refine(wake_any mb cb n (mb+1) U (gpG n U) _ v S _ hC2 hf.f0 h3 _ hf.f5 hf.g5 hmx hmc hA hxD hgl hn hbb (awK (gpG n U) (awA n U)) (fun j hj=>aw_any j hj)).mono ?_;rintro e w3 ⟨rfl,hC3,hF3,aq,qc,hq5,hqF,hqb,ho3,hg3⟩;replace t0:=(hF3.cell (p:=⟨sb,0,none⟩) (cell_lt (a:=⟨sb,0,none⟩) t0) hsx).trans t0;replace t1:=(hF3.cell (p:=⟨sb,1,none⟩) (cell_lt (a:=⟨sb,1,none⟩) t1) hsx).trans t1;replace t2:=(hF3.cell (p:=⟨sb,2,none⟩) (cell_lt (a:=⟨sb,2,none⟩) t2) hsx).trans t2;replace t3:=(hF3.cell (p:=⟨sb,3,none⟩) (cell_lt (a:=⟨sb,3,none⟩) t3) hsx).trans t3;replace t4:=(hF3.cell (p:=⟨sb,4,none⟩) (cell_lt (a:=⟨sb,4,none⟩) t4) hsx).trans t4;replace t5:=(hF3.cell (p:=⟨sb,5,none⟩) (cell_lt (a:=⟨sb,5,none⟩) t5) hsx).trans t5)
 have p0:=ho3 0 _ (by omega) hf.f0
 have p1:=ho3 1 _ (by omega) hf.f1
 have p2:=ho3 2 _ (by omega) hf.f2
 have p3:=ho3 3 _ (by omega) h3
 have p4:=ho3 4 _ (by omega) hf.f4
 have pg:=hg3 4 hf.g4
 have hz3:=hF3.size
 have hnm:∀ b o,aM=some ⟨b,o,none⟩→0<ctM n U*5→¬ (Xc S b∨b=mb):=fun b o e h0 q=>by
  have h1:=hmbl b o e h0
  rcases q with q|q
  · have:=hxl b q;omega
  · omega
 have hFt3:=flat_fr hFt hF3 (fun b o e h0 _=>hnm b o e h0)
 have hA3:=hA.fr hF3 (fun b h1 _ e=>e.elim (fun e=>by have:=hxD b e;omega) (fun e=>by omega))
 have hw2l:mb<w2.heap.size:=cell_lt (a:=⟨mb,0,none⟩) hf.f0
 have hqn:∀ b o,aq=some ⟨b,o,none⟩→0<n→¬ (Xc S b∨b=mb):=fun b o e h0 q=>by
  have:=hqb b o e
  rcases q with q|q
  · have:=hxl b q;omega
  · omega
 have hqn6:∀ b o,aq=some ⟨b,o,none⟩→0<n→¬ Xc S b:=fun b o e h0 q=>hqn b o e h0 (.inl q)
 replace hC3:Cs w3 cb n (colOf (wokeU n U)) S:=hC3
 have hml3:mb<w3.heap.size:=cell_lt (a:=⟨mb,0,none⟩) p0
 have hql:∀ b o,aq=some ⟨b,o,none⟩→0<n→b<w3.heap.size:=fun b o e h0=>by
  obtain⟨b',o',e',hb,-⟩:=hqF h0
  rw[e] at e';cases e';exact hb
 have hf23:Fr (Xc S) w w3:=hF2.trans' hF3 (fun i hi e=>e.elim id (fun e=>by omega))
 clear hF2 hFt hA hC2 hf h3 hb1 hb2 hqb hmbl ho3 hg3
 rw[rounds_succ]
 go_wp2_with (go_at_call 111;refine(pullDown_any mb cb n g (wokeU n U) S w3 hC3 p0 p1 hmx hn hB1 hg).mono ?_;rintro e w4 ⟨rfl,hC4,hF4⟩;replace t0:=(hF4.cell (p:=⟨sb,0,none⟩) (cell_lt (a:=⟨sb,0,none⟩) t0) hsx1).trans t0;replace t1:=(hF4.cell (p:=⟨sb,1,none⟩) (cell_lt (a:=⟨sb,1,none⟩) t1) hsx1).trans t1;replace t2:=(hF4.cell (p:=⟨sb,2,none⟩) (cell_lt (a:=⟨sb,2,none⟩) t2) hsx1).trans t2;replace t3:=(hF4.cell (p:=⟨sb,3,none⟩) (cell_lt (a:=⟨sb,3,none⟩) t3) hsx1).trans t3;replace t4:=(hF4.cell (p:=⟨sb,4,none⟩) (cell_lt (a:=⟨sb,4,none⟩) t4) hsx1).trans t4;replace t5:=(hF4.cell (p:=⟨sb,5,none⟩) (cell_lt (a:=⟨sb,5,none⟩) t5) hsx1).trans t5)
 have q0:=(hF4.cell (p:=⟨mb,0,none⟩) hml3 hmx).trans p0
 have q2:=(hF4.cell (p:=⟨mb,2,none⟩) hml3 hmx).trans p2
 have q3:=(hF4.cell (p:=⟨mb,3,none⟩) hml3 hmx).trans p3
 have q4:=(hF4.cell (p:=⟨mb,4,none⟩) hml3 hmx).trans p4
 have q5:=(hF4.cell (p:=⟨mb,5,none⟩) hml3 hmx).trans hq5
 have g4:=(hF4.frozen (p:=⟨mb,4,none⟩) hml3 hmx).trans pg
 have hFt4:=flat_fr hFt3 hF4 (fun b o e h0 _ q=>hnm b o e h0 (.inl q))
 have hq4:=flat_fr hqF hF4 (fun b o e h0 _ q=>hqn b o e h0 (.inl q))
 have hf24:=hf23.trans hF4
 have hz4:=hF4.size
 clear hFt3 hqF hf23 p0 p1 p2 p3 p4 pg hq5 hC3
 rw[rounds_succ]
 go_wp2_with (go_at_call 112;refine(push_any mb cb n (ctM n U) aM cM _ (ctC n U) S w4 hC4 q0 q2 _ q4 g4 hmx hmc hFt4 ct hMk hn hB2 (lvM n U) hl5 hctl).mono ?_;rintro e w5 ⟨rfl,rb,hrb,hR5,hr4,hC5,hF5,ho5⟩;replace t0:=(hF5.cell (p:=⟨sb,0,none⟩) (cell_lt (a:=⟨sb,0,none⟩) t0) hsx).trans t0;replace t1:=(hF5.cell (p:=⟨sb,1,none⟩) (cell_lt (a:=⟨sb,1,none⟩) t1) hsx).trans t1;replace t2:=(hF5.cell (p:=⟨sb,2,none⟩) (cell_lt (a:=⟨sb,2,none⟩) t2) hsx).trans t2;replace t3:=(hF5.cell (p:=⟨sb,3,none⟩) (cell_lt (a:=⟨sb,3,none⟩) t3) hsx).trans t3;replace t4:=(hF5.cell (p:=⟨sb,4,none⟩) (cell_lt (a:=⟨sb,4,none⟩) t4) hsx).trans t4;replace t5:=(hF5.cell (p:=⟨sb,5,none⟩) (cell_lt (a:=⟨sb,5,none⟩) t5) hsx).trans t5)
 have hcr:cb<rb:=by omega
 have hxr:∀ b,Xc S b→b<rb:=fun b e=>by have:=hxl b e;omega
 rw[hlve] at hctl hR5 hC5
 replace hC5:Cs w5 cb n (colOf (pushU n U g)) S:=hC5
 have r0:=ho5 0 _ (by omega) q0
 have r3:=ho5 3 _ (by omega) q3
 have r5:=ho5 5 _ (by omega) q5
 have hq5':=flat_fr hq4 hF5 (fun b o e h0 _ q=>hqn b o e h0 q)
 have hf25:Fr (Xc S) w w5:=hf24.trans' hF5 (fun i hi e=>e.elim id (fun e=>by omega))
 have hml5:mb<w5.heap.size:=cell_lt (a:=⟨mb,0,none⟩) r0
 have hmr:¬ (Xc S mb∨mb=rb):=fun e=>e.elim hmx (fun e=>by omega)
 clear hFt4 hq4 hf24 q0 q2 q3 q4 q5 g4 hC4 ho5
 rw[rounds_succ]
 go_wp2_with (go_at_call 113;refine(move_any mb cb n rb (lvM n U) (lvC n U) (pushU n U g) S w5 hC5 r0 hr4 hR5 hlm hctl hcr hxr hmx hn hB3).mono ?_;rintro e w6 ⟨rfl,hC6,hF6⟩;replace t0:=(hF6.cell (p:=⟨sb,0,none⟩) (cell_lt (a:=⟨sb,0,none⟩) t0) (fun e=>e.elim hsx1 (fun e=>by have e:sb=rb:=e;omega))).trans t0;replace t1:=(hF6.cell (p:=⟨sb,1,none⟩) (cell_lt (a:=⟨sb,1,none⟩) t1) (fun e=>e.elim hsx1 (fun e=>by have e:sb=rb:=e;omega))).trans t1;replace t2:=(hF6.cell (p:=⟨sb,2,none⟩) (cell_lt (a:=⟨sb,2,none⟩) t2) (fun e=>e.elim hsx1 (fun e=>by have e:sb=rb:=e;omega))).trans t2;replace t3:=(hF6.cell (p:=⟨sb,3,none⟩) (cell_lt (a:=⟨sb,3,none⟩) t3) (fun e=>e.elim hsx1 (fun e=>by have e:sb=rb:=e;omega))).trans t3;replace t4:=(hF6.cell (p:=⟨sb,4,none⟩) (cell_lt (a:=⟨sb,4,none⟩) t4) (fun e=>e.elim hsx1 (fun e=>by have e:sb=rb:=e;omega))).trans t4;replace t5:=(hF6.cell (p:=⟨sb,5,none⟩) (cell_lt (a:=⟨sb,5,none⟩) t5) (fun e=>e.elim hsx1 (fun e=>by have e:sb=rb:=e;omega))).trans t5)
 replace hC6:Cs w6 cb n (colOf (goneU n U g)) S:=hC6
 have s0:=(hF6.cell (p:=⟨mb,0,none⟩) hml5 hmr).trans r0
 have s3:=(hF6.cell (p:=⟨mb,3,none⟩) hml5 hmr).trans r3
 have s5:=(hF6.cell (p:=⟨mb,5,none⟩) hml5 hmr).trans r5
 have hF36:Fr (fun b=>Xc S b∨b=mb∨b=rb) w3 w6:=((hF4.mono (fun _ _ e=> .inl e)).trans (hF5.mono (fun _ _ e=>e.elim .inl (fun e=> .inr (.inl e))))).trans (hF6.mono (fun _ _ e=>e.elim .inl (fun e=> .inr (.inr e))))
 have hA6:=hA3.fr hF36 (fun b h1 hl e=>e.elim (fun e=>by have:=hxD b e;omega) (fun e=>e.elim (fun e=>by omega) (fun e=>by omega)))
 have hq6:=flat_fr hq5' hF6 (fun b o e h0 _ q=>q.elim (hqn6 b o e h0) (fun q=>by have:=hql b o e h0;omega))
 have hf26:Fr (Xc S) w w6:=hf25.trans' hF6 (fun i hi e=>e.elim id (fun e=>by omega))
 clear hA3 hF36 hq5' hf25 r0 r3 r5 hC5 hR5
 rw[rounds_succ]
 go_wp2_with (go_at_call 114;refine(countQuiet_any mb cb n (colOf (wokeU n U) 11) aq qc (goneU n U g) S w6 hC6 s0 s5 hq6 hqn6 hmx hn hB5 hZ).mono ?_;rintro e w7 ⟨rfl,hC7,hF7⟩;replace t0:=(hF7.cell (p:=⟨sb,0,none⟩) (cell_lt (a:=⟨sb,0,none⟩) t0) hsx1).trans t0;replace t1:=(hF7.cell (p:=⟨sb,1,none⟩) (cell_lt (a:=⟨sb,1,none⟩) t1) hsx1).trans t1;replace t2:=(hF7.cell (p:=⟨sb,2,none⟩) (cell_lt (a:=⟨sb,2,none⟩) t2) hsx1).trans t2;replace t3:=(hF7.cell (p:=⟨sb,3,none⟩) (cell_lt (a:=⟨sb,3,none⟩) t3) hsx1).trans t3;replace t4:=(hF7.cell (p:=⟨sb,4,none⟩) (cell_lt (a:=⟨sb,4,none⟩) t4) hsx1).trans t4;replace t5:=(hF7.cell (p:=⟨sb,5,none⟩) (cell_lt (a:=⟨sb,5,none⟩) t5) hsx1).trans t5)
 replace hC7:Cs w7 cb n (colOf (mapR (fun i V=>quietV (wokeU n U (i*12+11)) V) (goneU n U g) n)) S:=hC7
 have hml6:mb<w6.heap.size:=cell_lt (a:=⟨mb,0,none⟩) s0
 have u3:=(hF7.cell (p:=⟨mb,3,none⟩) hml6 hmx).trans s3
 have hA7:=hA6.fr hF7 (fun b h1 _ e=>by have:=hxD b e;omega)
 have hf27:=hf26.trans hF7
 clear hA6 hq6 hf26 s0 s3 s5 hC6
 rw[rounds_succ]
 go_wp2_with (go_at_call 115;refine(fallAsleep_any mb cb n (mb+1) (mapR (fun i V=>quietV (wokeU n U (i*12+11)) V) (goneU n U g) n) (gpG n U) _ v S w7 hC7 u3 hmx hA7 hxD hgl hnd hn (rest7 hbb)).mono ?_;rintro e w8 ⟨rfl,hC8,hF8⟩)
 rw[rounds_succ]
 go_wp2_with fail
 go_end0
 refine⟨rfl,?_,hf27.trans hF8⟩
 rw[←sleepN_eq] at hC8
 exact hC8
def stsU (n:Nat) (U:Nat→Int) (g:Int):Nat→Nat→Int
 |0=>U
 |k+1=>stepU n (stsU n U g k) g
theorem Bods.sts {n:Nat} {U:Nat→Int} (h:Bods n U) (g:Int):∀ k,Bods n (stsU n U g k)
 |0=>h
 |k+1=>(((Bods.sts h g k).steps g).2.2.2.2.2.2).1
def okP (p:Int):Bool:=decide (0≤p∧p≤2560)
def okS (s:Int):Bool:=decide (0≤s∧s≤60)
def okSts (n:Nat) (U:Nat→Int) (p s:Int):Bool:=bodsB n U&&(okP p&&okS s)
theorem countOf_t (x l:Int) (what:Value) (w:World) (h:decide (0≤x∧x≤l)=true):
 Calls Tryz.prog 55 #[.int .i64 x,.int .i64 l,what] w fun e w'=>e= .returned (.tuple #[.int .i64 x,Value.nilIface])∧Below w.heap.size w w':=by
 have hset:=cset_map
 go_enter Tryz.func55,Tryz.ntmps55
 go_wp2_with (go_at_call 71;refine(upTo_q x l true _ h).mono ?_;rintro e w1 ⟨rfl,hb1⟩)
 exact bodyPost_ret (v:= .tuple #[.int .i64 x,Value.nilIface]) (by simp[results,Tryz.results55,go_sem]) rfl ⟨rfl,hb1⟩
theorem countOf_f (x l:Int) (what:ByteArray) (w:World) (h:decide (0≤x∧x≤l)=false):
 Calls Tryz.prog 55 #[.int .i64 x,.int .i64 l,.string what] w fun e w'=>∃ q:Addr,e= .returned (.tuple #[.int .i64 0,.iface 98 (.pointer (some q))])∧Below w.heap.size w w':=by
 have hset:=cset_map
 go_enter Tryz.func55,Tryz.ntmps55
 go_wp2_with (go_at_call 71;refine(upTo_q x l false _ h).mono ?_;rintro e w1 ⟨rfl,hb1⟩)
 exact bodyPost_ret (v:= .tuple #[.int .i64 0,.iface 98 (.pointer (some ⟨w1.heap.size,0,none⟩))]) (by simp[results,Tryz.results55,go_sem]) rfl ⟨_,rfl,hb1.alloc hb1.size _⟩
theorem stepped_f (a:Option Addr) (n c:Nat) (U:Nat→Int) (p s:Int) (w:World) (h:Flat w a (n*12) U) (hn:n≤1048576) (hk:okSts n U p s=false):
 Calls Tryz.prog 26 #[.slice a n c,.int .i64 p,.int .i64 s] w fun e w'=>∃ q:Addr,e= .returned (.tuple #[.slice none 0 0,.iface 98 (.pointer (some q))])∧Below w.heap.size w w':=by
 have hset:=cset_map
 cases kb:bodsB n U with
 | false=>
   go_enter Tryz.func26,Tryz.ntmps26
   go_wp2_with (go_at_call 54;refine(bodiesOf_f a n c U _ h hn kb).mono ?_;rintro e w1 ⟨x,rfl,hb1⟩)
   exact bodyPost_ret (v:= .tuple #[.slice none 0 0,.iface 98 (.pointer (some x))]) (by simp[results,Tryz.results26,go_sem]) rfl ⟨_,rfl,hb1⟩
 | true=>
   cases kp0:okP p with
   | false=>
     have kp:decide (0≤p∧p≤2560)=false:=kp0
     go_enter Tryz.func26,Tryz.ntmps26
     go_wp2_with (first
      |(have _:=hb1;go_at_call 55;refine(countOf_f p 2560 _ _ kp).mono ?_;rintro e w2 ⟨x,rfl,hb2⟩)
      |(go_at_call 54;refine(bodiesOf_t a n c U _ h hn kb).mono ?_;rintro e w1 ⟨cb,S,rfl,hcb,hC,hb1⟩))
     exact bodyPost_ret (v:= .tuple #[.slice none 0 0,.iface 98 (.pointer (some x))]) (by simp[results,Tryz.results26,go_sem]) rfl ⟨_,rfl,hb1.trans (hb2.mono hb1.size)⟩
   | true=>
     have kp:decide (0≤p∧p≤2560)=true:=kp0
     have ks:decide (0≤s∧s≤60)=false:=by
      unfold okSts at hk
      rw[kb,kp0] at hk
      exact hk
     go_enter Tryz.func26,Tryz.ntmps26
     go_wp2_with (first
      |(have _:=hb2;go_at_call 55;refine(countOf_f s 60 _ _ ks).mono ?_;rintro e w3 ⟨x,rfl,hb3⟩)
      |(have _:=hb1;go_at_call 55;refine(countOf_t p 2560 _ _ kp).mono ?_;rintro e w2 ⟨rfl,hb2⟩)
      |(go_at_call 54;refine(bodiesOf_t a n c U _ h hn kb).mono ?_;rintro e w1 ⟨cb,S,rfl,hcb,hC,hb1⟩))
     have hb12:=hb1.trans (hb2.mono hb1.size)
     exact bodyPost_ret (v:= .tuple #[.slice none 0 0,.iface 98 (.pointer (some x))]) (by simp[results,Tryz.results26,go_sem]) rfl ⟨_,rfl,hb12.trans (hb3.mono hb12.size)⟩
theorem stepped_t (a:Option Addr) (n c:Nat) (U:Nat→Int) (p s:Int) (w:World) (h:Flat w a (n*12) U) (hn:n≤1048576) (hk:okSts n U p s=true):
 Calls Tryz.prog 26 #[.slice a n c,.int .i64 p,.int .i64 s] w fun e w'=>∃ a' c',e= .returned (.tuple #[.slice a' n c',Value.nilIface])∧OutL w w' 35 12 a' n c' (stsU n U p s.toNat):=by
 have hset:=cset_map
 unfold okSts okP okS at hk
 rw[Bool.and_eq_true,Bool.and_eq_true] at hk
 obtain⟨kb,kp,ks⟩:=hk
 have hp:=of_decide_eq_true kp
 have hs:=of_decide_eq_true ks
 have hbb:=Bods.of kb
 have hn12:=hbb.le
 obtain⟨K,hK⟩:∃ K:Nat,s=(K:Int):=⟨s.toNat,by omega⟩
 subst hK
 rw[Int.toNat_natCast]
 go_enter Tryz.func26,Tryz.ntmps26
 go_upto_region 11 with(first
  |(have _:=hb2;go_at_call 55;refine(countOf_t (K:Int) 60 _ _ ks).mono ?_;rintro e w3 ⟨rfl,hb3⟩)
  |(have _:=hb1;go_at_call 55;refine(countOf_t p 2560 _ _ kp).mono ?_;rintro e w2 ⟨rfl,hb2⟩)
  |(go_at_call 54;refine(bodiesOf_t a n c U _ h hn kb).mono ?_;rintro e w1 ⟨cb,S,rfl,hcb,hC,hb1⟩))
 have hxl:∀ b,Xc S b→cb<b:=fun b e=>(hC.xlt e).1
 have hC3:=(hC.below hb2).below hb3
 have hb13:Below w.heap.size w w3:=(hb1.trans (hb2.mono hb1.size)).trans (hb3.mono (hb1.trans (hb2.mono hb1.size)).size)
 clear hC hb1 hb2 hb3
 go_loopw [37] (fun s wr=>∃ k:Nat,k≤K∧s= .int .i64 (k:Int)∧Cs wr cb n (colOf (stsU n U p k)) S∧Below w.heap.size w wr) (fun s _=>K-(intOf s).toNat)
 case atStart=>exact⟨0,Nat.zero_le _,rfl,hC3,hb13⟩
 case round=>
  obtain⟨k,hk,rfl,hCk,hbk⟩:=hrel
  by_cases hlt:k<K
  · have hkK:(k:Int)<(K:Int):=by omega
    have hsz:=hbk.size
    go_wp2_with (go_at_call 56;refine(step_any cb n p _ S _ hCk (hbb.sts p k) hp).mono ?_;rintro e w5 ⟨rfl,hC5,hF5⟩)
    go_roundw
    case rel=>exact⟨k+1,by omega,by go_num,hC5,hbk.trans (hF5.below hsz (fun b e=>by have:=hxl b e;omega))⟩
    case measure=>simp[intOf];omega
  · obtain rfl:k=K:=by omega
    go_wp2_with (go_at_call 22;refine(list_any cb n _ S _ hCk hn12).mono ?_;rintro e w6 ⟨a6,c6,rfl,hO6⟩)
    refine bodyPost_ret (v:= .tuple #[.slice a6 n c6,Value.nilIface]) (by simp[results,Tryz.results26,go_sem]) rfl ⟨a6,c6,rfl,hbk.trans (hO6.bel.mono hbk.size),(hO6.own.base hbk.size).congr fun q hq=> ?_⟩
    unfold colOf
    rw[show q/12*12+q % 12=q by omega]
theorem steps_i (a:Option Addr) (n c:Nat) (U:Nat→Int) (p s:Int) (w:World) (h:Flat w a (n*12) U) (hn:n≤1048576) (hg:w.cell? ⟨0,0,none⟩=some (.iface 172 (.agg #[.pointer (some ⟨1,58,none⟩)]))) (N:Nat) (hN:(bif okSts n U p s then n else 0)=N):
 Calls Tryz.prog 14 #[.slice a n c,.int .i64 p,.int .i64 s] w fun e w'=>∃ a1 c1,e= .returned (.slice a1 N c1)∧OutL w w' 35 12 a1 N c1 (stsU n U p s.toNat):=by
 have hset:=cset_map
 have hlt:0<w.heap.size:=cell_lt (a:=⟨0,0,none⟩) hg
 cases hok:okSts n U p s with
 | false=>
   rw[hok,cond_false] at hN
   subst hN
   go_enter Tryz.func14,Tryz.ntmps14
   go_wp2_with (first
    |(have _:=hb1;go_at_call 27;refine(refused_yes x _ ((hb1.cell (p:=⟨0,0,none⟩) hlt).trans hg)).mono ?_;rintro e w2 ⟨rfl,hb2⟩)
    |(go_at_call 26;refine(stepped_f a n c U p s _ h hn hok).mono ?_;rintro e w1 ⟨x,rfl,hb1⟩))
   go_ret
   exact⟨none,0,rfl,hb1.trans (hb2.mono hb1.size),OwnL.nil _ _ _ _ _⟩
 | true=>
   rw[hok,cond_true] at hN
   subst hN
   go_enter Tryz.func14,Tryz.ntmps14
   go_wp2_with (first
    |(have _:=hO1;go_at_call 27;refine(refused_nil _).mono ?_;rintro e w2 ⟨rfl,hb2⟩)
    |(go_at_call 26;refine(stepped_t a n c U p s _ h hn hok).mono ?_;rintro e w1 ⟨a1,c1,rfl,hO1⟩))
   go_ret
   exact⟨a1,c1,rfl,hO1.bel.trans (hb2.mono hO1.bel.size),hO1.own.below hb2⟩
theorem step_ok1 (n:Nat) (U:Nat→Int) (p:Int):okSts n U p 1=(bodsB n U&&okP p):=by unfold okSts okS;rw[decide_eq_true (by omega),Bool.and_true]
theorem step_i (a:Option Addr) (n c:Nat) (U:Nat→Int) (p:Int) (w:World) (h:Flat w a (n*12) U) (hn:n≤1048576) (hg:w.cell? ⟨0,0,none⟩=some (.iface 172 (.agg #[.pointer (some ⟨1,58,none⟩)]))) (N:Nat) (hN:(bif (bodsB n U&&okP p) then n else 0)=N):
 Calls Tryz.prog 5 #[.slice a n c,.int .i64 p] w fun e w'=>∃ a1 c1,e= .returned (.slice a1 N c1)∧OutL w w' 35 12 a1 N c1 (stepU n U p):=by
 have hset:=cset_map
 go_enter Tryz.func5,Tryz.ntmps5
 go_wp2_with (go_at_call 14;refine(steps_i a n c U p 1 _ h hn hg N (by rw[step_ok1];exact hN)).mono ?_;rintro e w1 ⟨a1,c1,rfl,hO1⟩)
 go_ret
 exact⟨a1,c1,rfl,hO1⟩
theorem step_s (a:Option Addr) (n c:Nat) (U:Nat→Int) (p:Int) (w:World) (h:Flat w a (n*12) U) (hn:n≤1048576) (N:Nat) (hN:(bif (bodsB n U&&okP p) then n else 0)=N):
 Calls Tryz.prog 7 #[.slice a n c,.int .i64 p] w fun e w'=>∃ a1 c1,e= .returned (.slice a1 N c1)∧OutL w w' 35 12 a1 N c1 (stepU n U p):=by
 have hset:=cset_map
 cases kb:bodsB n U with
 | false=>
   rw[kb,Bool.false_and,cond_false] at hN
   subst hN
   go_enter Tryz.func7,Tryz.ntmps7
   go_wp2_with (go_at_call 15;refine(sBodiesOk_q a n c U false _ h hn kb).mono ?_;rintro e w1 ⟨rfl,hb1⟩)
   go_ret
   exact⟨_,_,rfl,hb1.trans (((Below.refl _ _).alloc (Nat.le_refl _) _).mono hb1.size),((LsV.new w1 35 12).own.base hb1.size).congr (fun q hq=>by omega)⟩
 | true=>
   cases kp0:okP p with
   | false=>
     have kp:decide (0≤p∧p≤2560)=false:=kp0
     rw[kb,kp0,Bool.true_and,cond_false] at hN
     subst hN
     go_enter Tryz.func7,Tryz.ntmps7
     go_wp2_with (first|(have _:=hb1;go_at_call 16;refine(l1In_q p 0 2560 false _ kp).mono ?_;rintro e w2 ⟨rfl,hb2⟩)|(go_at_call 15;refine(sBodiesOk_q a n c U true _ h hn kb).mono ?_;rintro e w1 ⟨rfl,hb1⟩))
     have hb12:=hb1.trans (hb2.mono hb1.size)
     go_ret
     exact⟨_,_,rfl,hb12.trans (((Below.refl _ _).alloc (Nat.le_refl _) _).mono hb12.size),((LsV.new w2 35 12).own.base hb12.size).congr (fun q hq=>by omega)⟩
   | true=>
     have kp:decide (0≤p∧p≤2560)=true:=kp0
     rw[kb,kp0,Bool.true_and,cond_true] at hN
     subst hN
     go_enter Tryz.func7,Tryz.ntmps7
     go_wp2_with (first
      |(have _:=hb2;go_at_call 17;refine(l9Step_any a n c U p _ (h.below hb12) (Bods.of kb) (of_decide_eq_true kp)).mono ?_;rintro e w3 ⟨a3,c3,rfl,hO3⟩)
      |(have _:=hb1;go_at_call 16;refine(l1In_q p 0 2560 true _ kp).mono ?_;rintro e w2 ⟨rfl,hb2⟩;have hb12:=hb1.trans (hb2.mono hb1.size))
      |(go_at_call 15;refine(sBodiesOk_q a n c U true _ h hn kb).mono ?_;rintro e w1 ⟨rfl,hb1⟩))
     go_ret
     exact⟨_,_,rfl,hb12.trans (hO3.bel.mono hb12.size),hO3.own.base hb12.size⟩
def Fxd (j:Nat):Prop:=j≠4∧j≠5∧j≠6∧j≠7∧j≠11
theorem setV_else {V:Nat→Int} {k j:Nat} {a:Int} (h:j≠k):setV V k a j=V j:=by unfold setV;rw[if_neg h]
theorem moveV_keep (V:Nat→Int) (p q:Int) {j:Nat} (h4:j≠4) (h5:j≠5) (h6:j≠6) (h7:j≠7):moveV V p q j=V j:=by
 unfold moveV
 rw[setV_else h7,setV_else h6,setV_else h5,setV_else h4]
theorem wakeV_keep (b:Bool) (V:Nat→Int) {j:Nat} (h:j≠11∨b=false):wakeV b V j=V j:=by
 unfold wakeV
 cases hc:(b&&decide (8≤V 11)) with
 |false=>rfl
 | true=>
   rcases h with h|h
   · exact setV_else h
   · subst h;cases hc
theorem pullV_keep (g:Int) (V:Nat→Int) {j:Nat} (h:j≠7∨liveV V=false):pullV g V j=V j:=by
 unfold pullV
 cases hc:liveV V with
 |false=>rfl
 | true=>
   rcases h with h|h
   · exact setV_else h
   · rw[h] at hc;cases hc
theorem goV_keep (V:Nat→Int) {j:Nat} (h:(j≠4∧j≠5∧j≠6∧j≠7)∨liveV V=false):goV V j=V j:=by
 unfold goV
 cases hc:liveV V with
 |false=>rfl
 | true=>
   rcases h with⟨h4,h5,h6,h7⟩|h
   · exact moveV_keep V _ _ h4 h5 h6 h7
   · rw[h] at hc;cases hc
theorem apart_keep {U:Nat→Int} {A B i j:Nat} (hj:j<12) (X Y D:Int) (hAB:A≠B) (h:Fxd j∨U (i*12+8)=0):apartU U A B X Y D (i*12+j)=U (i*12+j):=by
 unfold apartU
 cases decide (0<(D-64).tdiv 4) with
 |false=>rfl
 | true=>
   simp only[cond_true]
   have hm:∀ p q,0<U (i*12+8)→moveV (fun j=>U (i*12+j)) p q j=U (i*12+j):=fun p q hp=>by
    rcases h with h|h
    · exact moveV_keep _ p q h.1 h.2.1 h.2.2.1 h.2.2.2.1
    · omega
   cases hdA:decide (0<U (A*12+8))<;>cases hdB:decide (0<U (B*12+8))<;>simp only[cond_true,cond_false]
   · by_cases e:i=B
     · subst e;rw[putRow_is hj,hm _ _ (of_decide_eq_true hdB)]
     · rw[putRow_else e hj]
   · by_cases e:i=A
     · subst e;rw[putRow_is hj,hm _ _ (of_decide_eq_true hdA)]
     · rw[putRow_else e hj]
   · by_cases e:i=B
     · subst e;rw[putRow_is hj,hm _ _ (of_decide_eq_true hdB)]
     · rw[putRow_else e hj]
       by_cases e2:i=A
       · subst e2;rw[putRow_is hj,hm _ _ (of_decide_eq_true hdA)]
       · rw[putRow_else e2 hj]
theorem sleepS_keep {G:Nat→Int} {A:Nat→Bool} {n g i j:Nat} {U:Nat→Int} (hi:i<n) (hj:j<12) (h:(j≠6∧j≠7∧j≠11)∨G i≠(g:Int)∨A g=false):sleepS G A n g U (i*12+j)=U (i*12+j):=by
 unfold sleepS
 cases hc:(A g&&allQ G U g n) with
 |false=>rfl
 | true=>
   simp only[cond_true]
   rw[mapR_in hi hj]
   unfold slF
   cases hd:decide (G i=(g:Int)) with
   |false=>rfl
   | true=>
     rcases h with⟨h6,h7,h11⟩|h|h
     · simp only[cond_true]
       unfold slV
       rw[if_neg h7,if_neg h6,if_neg h11]
     · exact absurd (of_decide_eq_true hd) h
     · rw[h] at hc;cases hc
theorem sleepN_keep {G:Nat→Int} {A:Nat→Bool} {n i j:Nat} {U:Nat→Int} (hi:i<n) (hj:j<12):∀ N,((j≠6∧j≠7∧j≠11)∨∀ g:Nat,g<N→G i≠(g:Int)∨A g=false)→sleepN G A n U N (i*12+j)=U (i*12+j)
 |0,_=>rfl
 | g+1,h=>by
   rw[sleepN,sleepS_keep hi hj (h.imp id (fun q=>q g (by omega))),sleepN_keep hi hj g (h.imp id (fun q g' hg'=>q g' (by omega)))]
theorem stepU_eq (n:Nat) (U:Nat→Int) (g:Int):stepU n U g=sleepN (gpG n U) (awA n U) n (mapR (fun i V=>quietV (wokeU n U (i*12+11)) V) (goneU n U g) n) (awN n U):=rfl
theorem woke_at {n:Nat} {U:Nat→Int} {i j:Nat} (hi:i<n) (hj:j<12):wokeU n U (i*12+j)=wakeV (awK (gpG n U) (awA n U) i) (fun j=>U (i*12+j)) j:=by unfold wokeU;exact mapR_in hi hj
theorem gp_num (n:Nat) (U:Nat→Int):∀ j,j<n→gpG n U j=gnum (fxU U) (lab (edg U (ctC n U)) (ctM n U)) j:=grpL_eq (ct_ok n U).1
theorem awA_any (n:Nat) (U:Nat→Int) (t:Nat) (ht:t<awN n U):awA n U t=anyB (fun j=>decide (gpG n U j=(t:Int))&& !slG U j) n:=by
 obtain⟨e1,e2⟩:=awL_eq (G:=gpG n U) (lab_tops U (ctC n U) (ctM n U)) (gp_num n U) n (Nat.le_refl _)
 unfold awA
 unfold awN at ht
 rw[e2 t (by omega)]
 exact anyB_congr n fun j hj=>by rw[gp_num n U j hj]
theorem gp_lt (n:Nat) (U:Nat→Int) (i:Nat) (hi:i<n): -1≤gpG n U i∧gpG n U i<(awN n U:Int)∧(0≤gpG n U i→U (i*12+8)≠0):=by
 have h:=grp_bd U _ (gpG n U) n (gp_val n U) i hi
 exact⟨h.1.1,h.2.1,h.2.2⟩
def Rests (n:Nat) (U:Nat→Int) (i:Nat):Prop:=U (i*12+8)=0∨(0≤gpG n U i∧awA n U (gpG n U i).toNat=false)
theorem allQ_congr {G U V:Nat→Int} {g n:Nat} (h:∀ i,i<n→G i=(g:Int)→U (i*12+11)=V (i*12+11)):∀ k,k≤n→allQ G U g k=allQ G V g k
 |0,_=>rfl
 | k+1,hk=>by
   rw[allQ,allQ,allQ_congr h k (by omega)]
   by_cases e:G k=(g:Int)
   · rw[h k (by omega) e]
   · rw[decide_eq_false e,Bool.not_false,Bool.true_or,Bool.true_or]
theorem step_sr {n:Nat} {U R:Nat→Int} {p:Int} (hR:R=stepU n U p) (a:Option Addr) (c N:Nat) (w:World) (h:Flat w a (n*12) U) (hn:n≤1048576) (hN:(bif (bodsB n U&&okP p) then n else 0)=N):
 Calls Tryz.prog 7 #[.slice a n c,.int .i64 p] w fun e w'=>∃ a1 c1,e= .returned (.slice a1 N c1)∧OutL w w' 35 12 a1 N c1 R:=by subst hR;exact step_s a n c U p w h hn N hN
theorem step_ir {n:Nat} {U R:Nat→Int} {p:Int} (hR:R=stepU n U p) (a:Option Addr) (c N:Nat) (w:World) (h:Flat w a (n*12) U) (hn:n≤1048576) (hg:w.cell? ⟨0,0,none⟩=some (.iface 172 (.agg #[.pointer (some ⟨1,58,none⟩)]))) (hN:(bif (bodsB n U&&okP p) then n else 0)=N):
 Calls Tryz.prog 5 #[.slice a n c,.int .i64 p] w fun e w'=>∃ a1 c1,e= .returned (.slice a1 N c1)∧OutL w w' 35 12 a1 N c1 R:=by subst hR;exact step_i a n c U p w h hn hg N hN
end Go.Proofs.YtpmjnpmnocjjgaaGreatDoor
