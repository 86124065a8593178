/- Texts of a proof. -/
import Derived.Test.YtcalhcfinkhemaaGreatDoorB29
import Derived.Test.YtcalhcfinkhemaaGreatDoorB33
import Derived.Test.YtcalhcfinkhemaaGreatDoorB32
import Derived.Deep.RegionHeld3
import Derived.Deep.DeepCutAuto
import Derived.LoopNIn
import Derived.LoopIn
import Derived.OwnWalkIn
import Derived.Laws.MakeOwn
set_option maxHeartbeats 16000000
set_option maxRecDepth 20000
namespace Go.Proofs.YtcalhcfinkhemaaGreatDoor
open Go.RowKit
set_option linter.unusedVariables false
set_option linter.unusedSimpArgs false
def gnum (fx:Nat→Bool) (L:Nat→Nat) (j:Nat):Int:=if fx j=true then-1 else (cntp (fstB fx L) (L j):Int)
def fxU (U:Nat→Int) (j:Nat):Bool:=decide (U (j*12+8)=0)
theorem ofL_set (l:List Int) (A:Nat) (v:Int) (j:Nat) (hA:A<l.length):ofL (l.set A v) j=if j=A then v else ofL l j:=by
 unfold ofL
 rw[List.getD_eq_getElem?_getD,List.getD_eq_getElem?_getD,List.getElem?_set]
 by_cases e:A=j
 · subst e;simp[hA]
 · rw[if_neg e,if_neg (fun q=>e q.symm)]
theorem join_eq {U C:Nat→Int} {n m k:Nat} (hC:CtOk n m C) (hk:k<m) {l:List Int} (hl:l.length=n) {G:Nat→Nat} (h:∀ j,j<n→ofL l j=(G j:Int)):∀ j,j<n→ofL (joinL U C l k) j=(stp G (edg U C k) j:Int):=by
 intro j hj
 have ha:=hC.a k hk
 have hb:=hC.b k hk
 have hA:(C (k*5)).toNat<n:=by omega
 have hB:(C (k*5+1)).toNat<n:=by omega
 unfold joinL edg
 generalize (C (k*5)).toNat=A at hA ⊢
 generalize (C (k*5+1)).toNat=B at hB ⊢
 by_cases hu:U (A*12+8)=0
 · rw[decide_eq_true hu,if_neg (fun q=>q.1 hu)]
   exact h j hj
 · by_cases hv:U (B*12+8)=0
   · rw[decide_eq_false hu,decide_eq_true hv,if_neg (fun q=>q.2 hv)]
     exact h j hj
   · rw[decide_eq_false hu,decide_eq_false hv,if_pos ⟨hu,hv⟩]
     show ofL (joinG l A B) j=((if j=A∨j=B then min (G A) (G B) else G j:Nat):Int)
     unfold joinG
     rw[ofL_set _ B _ j (by rw[List.length_set];omega),ofL_set _ A _ j (by omega),h A hA,h B hB,h j hj]
     have hm:(if (G B:Int)<(G A:Int) then (G B:Int) else (G A:Int))=((min (G A) (G B):Nat):Int):=by split<;>omega
     rw[hm]
     by_cases e1:j=B
     · rw[if_pos e1,if_pos (Or.inr e1)]
     · rw[if_neg e1]
       by_cases e2:j=A
       · rw[if_pos e2,if_pos (Or.inl e2)]
       · rw[if_neg e2,if_neg (fun q=>q.elim e2 e1)]
theorem grpI_eq {U C:Nat→Int} {n m:Nat} (hC:CtOk n m C) {l:List Int} (hl:l.length=n) {G:Nat→Nat} (h:∀ j,j<n→ofL l j=(G j:Int)):∀ k,k≤m→∀ j,j<n→ofL (grpI U C l k) j=(rnd (edg U C) G k j:Int)
 |0,_=>h
 | k+1,hk=>by
   rw[grpI,rnd]
   exact join_eq hC hk (by rw[grpI_len];exact hl) (grpI_eq hC hl h k (by omega))
theorem rng_at:∀ n j,j<n→ofL (rng n) j=(j:Int)
 |0,j,h=>absurd h (Nat.not_lt_zero _)
 | n+1,j,h=>by
   rw[rng]
   by_cases e:j<n
   · rw[ofL_app _ _ _ (by rw[rng_len];exact e)];exact rng_at n j e
   · obtain rfl:j=n:=by omega
     rw[ofL_app' _ _ _ (by rw[rng_len];exact Nat.le_refl _),rng_len,Nat.sub_self];rfl
theorem grpR_eq {U C:Nat→Int} {n m:Nat} (hC:CtOk n m C):∀ r j,j<n→ofL (grpR U C m (rng n) r) j=(rnds (edg U C) m r j:Int)
 |0=>fun j hj=>rng_at n j hj
 | r+1=>by
   rw[grpR,rnds]
   exact grpI_eq hC (by rw[grpR_len,rng_len]) (grpR_eq hC r) m (Nat.le_refl _)
def fl (p:Nat→Bool):Nat→List Int
 |0=>[]
 |i+1=>fl p i++(if p i=true then [(i:Int)] else [])
theorem fl_len (p:Nat→Bool):∀ i,(fl p i).length=cntp p i
 |0=>rfl
 | i+1=>by
   rw[fl,cntp,List.length_append,fl_len p i]
   split<;>rfl
theorem atOf_app (l x:List Int) (v:Int):∀ k,k≤l.length→atOf (l++x) v k=atOf l v k
 |0,_=>rfl
 |k+1,h=>by rw[atOf,atOf,ofL_app _ _ _ h,atOf_app l x v k (by omega)]
theorem atOf_fl (p:Nat→Bool) (x:Nat):∀ i,atOf (fl p i) (x:Int) (cntp p i)=if x<i∧p x=true then (cntp p x:Int) else-1
 |0=>by rw[if_neg (fun q=>absurd q.1 (Nat.not_lt_zero _))];rfl
 | i+1=>by
   have ih:=atOf_fl p x i
   cases hp:p i with
   | false=>
     have e1:fl p (i+1)=fl p i:=by rw[fl,hp];simp
     have e2:cntp p (i+1)=cntp p i:=by rw[cntp,hp];rfl
     rw[e1,e2,ih]
     by_cases q:x<i∧p x=true
     · rw[if_pos q,if_pos ⟨by omega,q.2⟩]
     · rw[if_neg q,if_neg]
       rintro⟨a,b⟩
       by_cases e:x=i
       · subst e;rw[hp] at b;cases b
       · exact q ⟨by omega,b⟩
   | true=>
     have e1:fl p (i+1)=fl p i++[(i:Int)]:=by rw[fl,hp];rfl
     have e2:cntp p (i+1)=cntp p i+1:=by rw[cntp,hp];rfl
     have e3:ofL (fl p i++[(i:Int)]) (cntp p i)=(i:Int):=by
      rw[ofL_app' _ _ _ (by rw[fl_len];exact Nat.le_refl _),fl_len,Nat.sub_self];rfl
     rw[e1,e2,atOf,e3,atOf_app _ _ _ _ (by rw[fl_len];exact Nat.le_refl _),ih]
     by_cases e:i=x
     · subst e
       rw[if_pos rfl,if_pos ⟨by omega,hp⟩]
     · rw[if_neg (by omega)]
       by_cases q:x<i∧p x=true
       · rw[if_pos q,if_pos ⟨by omega,q.2⟩]
       · rw[if_neg q,if_neg (fun r=>q ⟨by omega,r.2⟩)]
structure Tops (fx:Nat→Bool) (L:Nat→Nat):Prop where
 le:∀ j,L j≤j
 idem:∀ j,L (L j)=L j
 fx:∀ j,fx (L j)=fx j
theorem Tops.fst {fx:Nat→Bool} {L:Nat→Nat} (h:Tops fx L) {j:Nat} (hj:fx j=false):fstB fx L (L j)=true:=by
 unfold fstB;rw[h.fx,hj,decide_eq_true (h.idem j)];rfl
theorem numS_eq {U G:Nat→Int} {L:Nat→Nat} {n:Nat} (hT:Tops (fxU U) L) (hG:∀ j,j<n→G j=(L j:Int)):∀ i,i≤n→(numS U G i).2=fl (fstB (fxU U) L) i∧∀ j,j<i→ofL (numS U G i).1 j=gnum (fxU U) L j
 |0,_=>⟨rfl,fun j h=>absurd h (Nat.not_lt_zero _)⟩
 | i+1,hi=>by
   obtain⟨ih1,ih2⟩:=numS_eq hT hG i (by omega)
   obtain⟨hl,-⟩:=numS_len U G i
   have fin:∀ (v:Int) (j:Nat),v=gnum (fxU U) L i→j<i+1→ofL ((numS U G i).1++[v]) j=gnum (fxU U) L j:=fun v j hv hj=>by
    by_cases e:j<i
    · rw[ofL_app _ _ _ (by omega)];exact ih2 j e
    · obtain rfl:j=i:=by omega
      rw[ofL_app' _ _ _ (by omega),hl,Nat.sub_self]
      exact hv
   by_cases hu:U (i*12+8)=0
   · have hf:fxU U i=true:=decide_eq_true hu
     have hb:fstB (fxU U) L i=false:=by unfold fstB;rw[hf];rfl
     rw[numS_z hu,fl,hb]
     exact⟨by rw[ih1];simp,fun j hj=>fin _ j (by unfold gnum;rw[if_pos hf]) hj⟩
   · have hf:fxU U i=false:=decide_eq_false hu
     have ha:atOf (numS U G i).2 (G i) (numS U G i).2.length=if L i<i∧fstB (fxU U) L (L i)=true then (cntp (fstB (fxU U) L) (L i):Int) else-1:=by
      rw[ih1,fl_len,hG i (by omega),atOf_fl]
     have hle:=hT.le i
     by_cases e:L i=i
     · rw[if_neg (by omega)] at ha
       have hb:fstB (fxU U) L i=true:=by unfold fstB;rw[hf,decide_eq_true e];rfl
       rw[numS_n hu (by rw[ha];decide),fl,hb]
       refine⟨by rw[ih1,hG i (by omega),e];rfl,fun j hj=>fin _ j ?_ hj⟩
       unfold gnum
       rw[if_neg (by rw[hf];simp),e,ih1,fl_len]
     · rw[if_pos ⟨by omega,hT.fst hf⟩] at ha
       have hb:fstB (fxU U) L i=false:=by unfold fstB;rw[decide_eq_false e];simp
       rw[numS_o hu (by rw[ha];omega),fl,hb]
       refine⟨by rw[ih1];simp,fun j hj=>fin _ j ?_ hj⟩
       unfold gnum
       rw[if_neg (by rw[hf];simp),ha]
theorem lab_tops (U C:Nat→Int) (m:Nat):Tops (fxU U) (lab (edg U C) m):=by
 refine⟨lab_le _ m,lab_idem _ m,fun j=> ?_⟩
 have h:=lab_set (edg U C) (fun j=>U (j*12+8)=0) m (fun i A B _ e=>by
  unfold edg at e
  split at e
  · rename_i q
    simp only[Option.some.injEq,Prod.mk.injEq] at e
    obtain⟨rfl,rfl⟩:=e
    exact⟨fun x=>absurd x q.1,fun x=>absurd x q.2⟩
  · cases e) j
 unfold fxU
 exact decide_eq_decide.2 h
theorem grpL_len (U C:Nat→Int) (m n:Nat):(grpL U C m n).length=n:=by unfold grpL;exact(numS_len _ _ n).1
theorem grpL_eq {U C:Nat→Int} {n m:Nat} (hC:CtOk n m C):∀ j,j<n→ofL (grpL U C m n) j=gnum (fxU U) (lab (edg U C) m) j:=by
 have hE:∀ i A B,i<m→edg U C i=some (A,B)→A<n∧B<n:=fun i A B hi e=>by
  have ha:=hC.a i hi
  have hb:=hC.b i hi
  unfold edg at e
  split at e
  · simp only[Option.some.injEq,Prod.mk.injEq] at e
    obtain⟨rfl,rfl⟩:=e
    omega
  · cases e
 exact(numS_eq (lab_tops U C m) (fun j hj=>by rw[grpR_eq hC n j hj,rnds_lab _ m n hE j hj]) n (Nat.le_refl _)).2
def vnum (fx:Nat→Bool) (L:Nat→Nat) (k j:Nat):Int:=if fx j=false∧cntp (fstB fx L) (L j)<k then (cntp (fstB fx L) (L j):Int) else-1
theorem cntp_inj (p:Nat→Bool) {i j:Nat} (hi:p i=true) (hj:p j=true) (h:cntp p i=cntp p j):i=j:=by
 rcases Nat.lt_trichotomy i j with q|q|q
 · have:=cntp_in p q hi;omega
 · exact q
 · have:=cntp_in p q hj;omega
theorem vnum_0 (fx:Nat→Bool) (L:Nat→Nat) (j:Nat):vnum fx L 0 j= -1:=if_neg (fun q=>absurd q.2 (Nat.not_lt_zero _))
theorem vnum_in {fx:Nat→Bool} {L:Nat→Nat} (hT:Tops fx L) {i k j:Nat} (hf:fstB fx L i=true) (hk:cntp (fstB fx L) i=k) (hj:L j=i):vnum fx L (k+1) j=(k:Int):=by
 have hx:fx j=false:=by
  rw[←hT.fx,hj]
  unfold fstB at hf
  cases h:fx i with
  |false=>rfl
  |true=>rw[h] at hf;cases hf
 unfold vnum
 rw[if_pos ⟨hx,by rw[hj,hk];omega⟩,hj,hk]
theorem vnum_out {fx:Nat→Bool} {L:Nat→Nat} (hT:Tops fx L) {i k j:Nat} (hf:fstB fx L i=true) (hk:cntp (fstB fx L) i=k) (hj:¬ L j=i):vnum fx L (k+1) j=vnum fx L k j:=by
 unfold vnum
 by_cases h:fx j=false∧cntp (fstB fx L) (L j)<k
 · rw[if_pos h,if_pos ⟨h.1,by omega⟩]
 · rw[if_neg h,if_neg]
   rintro⟨a,b⟩
   refine hj (cntp_inj _ (hT.fst a) hf ?_)
   have:¬ cntp (fstB fx L) (L j)<k:=fun q=>h ⟨a,q⟩
   omega
theorem vnum_all {fx:Nat→Bool} {L:Nat→Nat} (hT:Tops fx L) {n j:Nat} (hj:j<n):vnum fx L (cntp (fstB fx L) n) j=gnum fx L j:=by
 unfold vnum gnum
 cases h:fx j with
 |true=>rw[if_neg (fun q=>by cases q.1),if_pos rfl]
 | false=>
   have:=hT.le j
   rw[if_pos ⟨rfl,cntp_in _ (by omega) (hT.fst h)⟩,if_neg (by simp)]
theorem memL_mem (L:Nat→Nat) (i:Nat):∀ n j,j∈memL L i n↔j<n∧L j=i
 |0,j=>by simp[memL]
 | n+1,j=>by
   rw[memL,List.mem_append,memL_mem L i n j]
   by_cases h:L n=i
   · rw[if_pos h,List.mem_singleton]
     constructor
     · rintro(⟨a,b⟩|rfl)
       · exact⟨by omega,b⟩
       · exact⟨by omega,h⟩
     · rintro⟨a,b⟩
       by_cases e:j=n
       · exact .inr e
       · exact .inl ⟨by omega,b⟩
   · rw[if_neg h]
     constructor
     · rintro(⟨a,b⟩|h)
       · exact⟨by omega,b⟩
       · cases h
     · rintro⟨a,b⟩
       by_cases e:j=n
       · subst e;exact absurd b h
       · exact .inl ⟨by omega,b⟩
end Go.Proofs.YtcalhcfinkhemaaGreatDoor
namespace Go.Proofs.YtcalhcfinkhemaaGreatDoor
open Go.RowKit
set_option linter.unusedVariables false
set_option linter.unusedSimpArgs false
theorem HL.some {w:World} {base cb:Nat} {v:Value} {l:List Nat} (h:HL w base cb v l) (hl:0<l.length):∃ g c:Nat,v= .slice (some ⟨g,0,none⟩) l.length c∧base≤g∧g<w.heap.size:=by
 rcases h.2 with⟨_,e⟩|⟨g,cap,cur,hv,hb,_⟩
 · omega
 · exact⟨g,cap,hv,hb,(h.lt g (by rw[hv];rfl)).2⟩
theorem LV.blk {w wr w':World} {t g cap n:Nat} {xs:List Value} (h:LV w wr t g cap n xs) (hb:Below w.heap.size wr w') (e:w'.heap[g]? =wr.heap[g]?):LV w w' t g cap n xs:=by
 refine⟨h.bel.trans hb,h.len,h.own.1,?_⟩
 rcases h.own.2 with⟨q,_⟩|⟨g',cap',cur,hv,hb',hg,rest⟩
 · cases q
 · cases hv
   exact .inr ⟨g,cap,cur,rfl,hb',e.trans hg,rest⟩
theorem LV.sm {w wr w':World} {B t g cap n:Nat} {xs:List Value} (h:LV w wr t g cap n xs) (hs:Sm B wr w') (hB:w.heap.size≤B):LV w w' t g cap n xs:=by
 refine h.blk (hs.below.mono hB) ?_
 rcases h.own.2 with⟨q,_⟩|⟨g',cap',cur,hv,hb',hg,rest⟩
 · cases q
 · cases hv
   exact(hs.cells _ _ hg rfl).trans hg.symm
theorem LV.made (w:World) (t n:Nat) (hn:n≤maxLen):LV w (w.alloc (.cells (madeCells #[.int .i64 0] n) t)) t w.heap.size n n (IV (List.replicate n 0)):=by
 have e:(madeCells #[Value.int .i64 0] n).toList=IV (List.replicate n 0):=by
  unfold madeCells IV
  apply List.ext_getElem?
  intro j
  by_cases h:j<n
  · simp[h,Nat.mod_one]
  · simp[h]
 refine⟨(Below.refl _ _).alloc (Nat.le_refl _) _,by rw[IV_len,List.length_replicate],by rw[IV_len,List.length_replicate,Nat.mul_one],.inr ⟨w.heap.size,n,_,rfl,Nat.le_refl _,Go.Deep.blk_alloc_new _ _,Nat.le_refl _,hn,by rw[size_madeCells,Nat.mul_one],?_⟩⟩
 rw[e,Nat.mul_one,List.take_of_length_le (by rw[IV_len,List.length_replicate];exact Nat.le_refl _)]
structure Nr (w A:World) (g lb n:Nat) (l:List Int):Prop where
 lv:LV w A 3 g n n (IV l)
 box:A.cell? ⟨lb,0,none⟩=some (.slice (some ⟨g,0,none⟩) n n)
 lo:w.heap.size≤lb
 ne:lb≠g
section
variable {w A A':World} {g lb n:Nat} {l:List Int}
theorem Nr.lt (h:Nr w A g lb n l):lb<A.heap.size:=cell_lt (a:=⟨lb,0,none⟩) h.box
theorem Nr.len (h:Nr w A g lb n l):l.length=n:=by have:=h.lv.len;rwa [IV_len] at this
theorem Nr.blk (h:Nr w A g lb n l) (hb:Below w.heap.size A A') (e1:A'.heap[g]? =A.heap[g]?) (e2:A'.heap[lb]? =A.heap[lb]?):Nr w A' g lb n l:=
 ⟨h.lv.blk hb e1,(World.cell?_of_block (w:=A) (a:=⟨lb,0,none⟩) e2).trans h.box,h.lo,h.ne⟩
theorem Nr.below {B:Nat} (h:Nr w A g lb n l) (hb:Below B A A') (hB:w.heap.size≤B) (h1:g<B) (h2:lb<B):Nr w A' g lb n l:=h.blk (hb.mono hB) (hb.block g h1) (hb.block lb h2)
theorem Nr.on (h:Nr w A g lb n l) (hb:Below A.heap.size A A'):Nr w A' g lb n l:=h.below hb h.lv.bel.size h.lv.lt.2 h.lt
theorem Nr.sm {B:Nat} (h:Nr w A g lb n l) (hs:Sm B A A') (hB:w.heap.size≤B):Nr w A' g lb n l:=⟨h.lv.sm hs hB,hs.cell h.box,h.lo,h.ne⟩
theorem Nr.set (h:Nr w A g lb n l) (j:Nat) (x:Int):Nr w (A.setCell ⟨g,j,none⟩ (.int .i64 x)) g lb n (l.set j x):=
 ⟨by rw[←IV_set];exact h.lv.set j _,by rw[cset_far (by simp;exact h.ne)];exact h.box,h.lo,h.ne⟩
end
theorem list_eq {l m:List Int} {n:Nat} (h1:l.length=n) (h2:m.length=n) (h:∀ j,j<n→ofL l j=ofL m j):l=m:=by
 apply List.ext_getElem (by rw[h1,h2])
 intro j hj hj'
 have:=h j (by omega)
 unfold ofL at this
 rw[List.getD_eq_getElem?_getD,List.getD_eq_getElem?_getD,List.getElem?_eq_getElem hj,List.getElem?_eq_getElem hj'] at this
 exact this
theorem numbered_step {l:List Int} {n k r:Nat} {ms:List Nat} {q:Nat} {V:Nat→Int} (hl:l.length=n) (hq:q<ms.length) (hr:ms[q]=r) (hrn:r<n) (h:∀ j,j<n→ofL l j=if j∈ms.take q then (k:Int) else V j):∀ j,j<n→ofL (l.set r (k:Int)) j=if j∈ms.take (q+1) then (k:Int) else V j:=by
 intro j hj
 rw[ofL_set _ _ _ _ (by omega),List.take_succ_eq_append_getElem hq,hr]
 by_cases e:j=r
 · rw[if_pos e,if_pos (by rw[List.mem_append,List.mem_singleton];exact .inr e)]
 · rw[if_neg e,h j hj]
   by_cases e2:j∈ms.take q
   · rw[if_pos e2,if_pos (List.mem_append.2 (.inl e2))]
   · rw[if_neg e2,if_neg (by rw[List.mem_append,List.mem_singleton];exact fun x=>x.elim e2 e)]
section
attribute [local go_sem] Oper.semAt_some
theorem numbered_any (cb n:Nat) (U:Nat→Int) (S:Nat→Value) (M:Nat) (w:World) (hC:Cs w cb n (colOf U) S) (hn:n≤12) (hM:(conL (colOf U) n).length=M*5) (hMk:M≤1000):
 Calls Tryz.prog 28 #[.pointer (some ⟨cb,0,none⟩)] w fun e w'=>∃ g:Nat,e= .returned (.slice (some ⟨g,0,none⟩) n n)∧LV w w' 3 g n n (IV (grpL U (ofL (conL (colOf U) n)) M n)):=by
 have hset:=cset_map
 have hCt:=con_ct (colOf U) hM
 obtain⟨L,hL⟩:∃ L,lab (edg U (ofL (conL (colOf U) n))) M=L:=⟨_,rfl⟩
 have hT:Shut (Tops (fxU U) L):=hL▸lab_tops U _ M
 have hE:=grpL_eq (U:=U) hCt
 rw[hL] at hE
 have hEl:=grpL_len U (ofL (conL (colOf U) n)) M n
 have hGr:∀ w1,Below w.heap.size w w1→ItG Tryz.prog 29 #[.pointer (some ⟨cb,0,none⟩)] (ColF cb n (fxU U)) (GrE cb n (fxU U) L) (cntp (fstB (fxU U) L) n) w1:=fun w1 hb=>groups_any cb n U S M w1 (hC.below hb) hn hM hMk L (fun j=>by rw[←hL]) (fxU U)
 have hCo:∀ w1,Below w.heap.size w w1→ColF cb n (fxU U) w1:=fun w1 hb=>⟨_,_,hC.below hb,fun j _=>rfl⟩
 generalize grpL U (ofL (conL (colOf U) n)) M n=R at hE hEl ⊢
 clear hL hM hMk hCt
 have hmk:∀ w,(Instr.makeSlice 35 (.int .i64 (n:Int)) (.int .i64 (n:Int))).run Tryz.prog w= .ok (.slice (some ⟨w.heap.size,0,none⟩) n n) (w.alloc (.cells (madeCells #[.int .i64 0] n) 3)):=fun w=>by have q:=make_rows (P:=Tryz.prog) 35 3 (.int .i64 0) 1 8 Tryz.underlying35 (by kernel_rfl) .i64 .i64 n (by omega) (by omega) w;rw[Nat.mul_one] at q;exact q
 obtain⟨ad,cc,hS0⟩:=(hC.own 0 (by omega)).is
 have hd0:=hC.hd 0 (by omega)
 rw[hS0] at hd0
 have hN0:Nr w ((w.alloc (.cells (madeCells #[.int .i64 0] n) 3)).alloc (Obj.cells #[.slice (some ⟨w.heap.size,0,none⟩) n n] 35)) w.heap.size (w.heap.size+1) n (List.replicate n 0):=
  ⟨(LV.made w 3 n (by unfold maxLen;omega)).on ((Below.refl _ _).alloc (Nat.le_refl _) _),by go_simp,by omega,by omega⟩
 refine calls_of_wp_marks Tryz.func28 rfl ?_
 simp only[Tryz.ntmps28,List.size_toArray,List.length_cons,List.length_nil,Nat.reduceAdd,Nat.reduceSub,Array.replicate_succ,Array.replicate_zero,List.push_toArray,List.append_toArray,List.nil_append,List.cons_append]
 go_upto_region 3 with fail
 clear hmk hd0 hS0
 generalize ((w.alloc (.cells (madeCells #[.int .i64 0] n) 3)).alloc (Obj.cells #[.slice (some ⟨w.heap.size,0,none⟩) n n] 35))=w2 at hN0 ⊢
 generalize hlb:w.heap.size+1=lb at hN0 ⊢
 clear hlb
 generalize w.heap.size=g at hN0 ⊢
 go_loopw [17] (fun s wr=>∃ (k:Nat) (l:List Int),k≤n∧s= .int .i64 (k:Int)∧Nr w wr g lb n l∧∀ j,j<k→ofL l j= -1) (fun s _=>n-(intOf s).toNat)
 case atStart=>exact⟨0,_,Nat.zero_le _,rfl,hN0,fun j h=>absurd h (Nat.not_lt_zero _)⟩
 case round=>
  clear hN0
  obtain⟨k,l,hk,rfl,hN,hl⟩:=hrel
  have u0:=hN.box
  by_cases hlt:k<n
  · have hkn:(k:Int)<(n:Int):=by omega
    have uk:=hN.lv.ic hlt
    have uf:=hN.lv.fro k
    have hN2:=hN.set k (-1)
    have hlen:=hN.len
    go_wp2_with fail
    go_roundw
    case rel=>
     refine⟨k+1,_,by omega,by go_num,hN2,fun j hj=> ?_⟩
     rw[ofL_set _ _ _ _ (by omega)]
     split
     · rfl
     · exact hl j (by omega)
    case measure=>simp[intOf];omega
  · obtain rfl:n=k:=by omega
    go_wp2
    have hbr:=hN.lv.bel
    have hbz:=hbr.size
    have hgl:=hN.lv.lt.2
    have hll:=hN.lt
    refine wp_range_outG (gf:=29) (bound:= #[.pointer (some ⟨cb,0,none⟩)]) rfl groups_enters (hGr wr hbr) (fun H k args A hE=>by obtain⟨i,v,_,_,_,rfl,_⟩:=hE;rfl)
     (fun H k A=>wr.heap.size≤H∧∃ l,Nr w A g lb n l∧∀ j,j<n→ofL l j=vnum (fxU U) L k j) ?hI ?hIs ?hcol ?h0 ?round ?done
    case hI=>rintro H k A B' ⟨h0,l',h1,h2⟩ hk;exact⟨h0,l',h1.below hk.below (by omega) (by omega) (by omega),h2⟩
    case hIs=>rintro H k A B' ⟨h0,l',h1,h2⟩ hs;exact⟨h0,l',h1.sm hs hbr.size,h2⟩
    case hcol=>rintro H k A ⟨_,l',h1,h2⟩;exact hCo A h1.lv.bel
    case h0=>intro W0 hb hz;exact⟨by omega,l,hN.on hb,fun j hj=>by rw[hl j hj,vnum_0]⟩
    case done=>
     rintro D H W hD ⟨_,l',h1,h2⟩ hK
     have hbx:=h1.box
     have hres:l'=R:=list_eq h1.len hEl (fun j hj=>by rw[h2 j hj,vnum_all hT.out hj,hE j hj])
     subst hres
     go_wp2
     refine marks_ret (B:=w.heap.size) (by omega) rfl hK fun W' hS=>⟨.slice (some ⟨g,0,none⟩) n n,?_,g,rfl,h1.lv.sm hS (Nat.le_refl _)⟩
     simp[results,Tryz.results28,go_sem, *]
    case round=>
     rintro lr H kk W args hlr1 hlr2 hWz ⟨hHz,l',hN1,hv1⟩ hkk ⟨i,v,hi,hfi,hck,rfl,hHL⟩
     clear hGr hN hl u0 hE hEl hlt hk hkk hCo
     have hLi:L i=i:=by unfold fstB at hfi;exact of_decide_eq_true (by simp at hfi;exact decide_eq_true hfi.2)
     have hmm:=memL_mem L i n
     have hml:=memL_le L i n
     have hm0:0<(memL L i n).length:=List.length_pos_of_mem ((hmm i).2 ⟨hi,hLi⟩)
     have hvv:Shut (∀ j,j<n→vnum (fxU U) L (kk+1) j=if j∈memL L i n then (kk:Int) else vnum (fxU U) L kk j):=fun j hj=>by
      by_cases e:L j=i
      · rw[if_pos ((hmm j).2 ⟨hj,e⟩)];exact vnum_in hT.out hfi hck e
      · rw[if_neg (fun q=>e ((hmm j).1 q).2)];exact vnum_out hT.out hfi hck e
     generalize memL L i n=ms at hmm hml hm0 hvv hHL ⊢
     obtain⟨mg,mc,rfl,hmg,hmg2⟩:=hHL.some hm0
     simp only[List.zip_toArray,List.zip_cons_cons,List.zip_nil_left,List.foldl_toArray,List.foldl_cons,List.foldl_nil,List.setIfInBounds_toArray,List.set_cons_succ,List.set_cons_zero]
     refine wpIn_seq_k fun K1 hK1=> ?_
     refine wpIn_region_plain (by rintro⟨_,_,h⟩;exact h) (by kernel_rfl) ?_
     go_wp2
     refine wpIn_region_plain (by rintro⟨_,_,h⟩;exact h) (by kernel_rfl) ?_
     go_wp2
     refine⟨KeepsFrom.refl _ _,fun W2 hS hKc hr=> ?_⟩
     have hN2:=hN1.sm hS hbr.size
     have hHL2:=hHL.sm hS
     have hKc2:Kc (wr.heap.size+2) H W W2:=hKc _ _ hlr2
     have hz2:=hS.size
     clear hN1 hHL hKc hS hr hmg2
     refine wpIn_block ?_
     gi_wp2
     gi_loopw [30] (fun s wx=>∃ (q:Nat) (l2:List Int),q≤ms.length∧s= .int .i64 (q:Int)∧Nr w wx g lb n l2∧(∀ j,j<n→ofL l2 j=if j∈ms.take q then (kk:Int) else vnum (fxU U) L kk j)∧HL wx H cb (.slice (some ⟨mg,0,none⟩) ms.length mc) ms∧Fr (fun b=>b=g) W2 wx) (fun s _=>ms.length-(intOf s).toNat)
     case atStart=>exact⟨0,l',Nat.zero_le _,rfl,hN2,fun j hj=>by rw[hv1 j hj,List.take_zero,if_neg (by simp)],hHL2,Fr.refl _ _⟩
     case round=>
      obtain⟨q,l2,hq,rfl,hN3,hv3,hHL3,hF3⟩:=hrel
      clear hN2 hHL2
      by_cases hq2:q<ms.length
      · obtain⟨c0,c1⟩:=hHL3.cells hq2
        obtain⟨r,hr⟩:∃ r,ms[q]=r:=⟨_,rfl⟩
        rw[hr] at c0
        have hrn:r<n:=((hmm r).1 (hr▸List.getElem_mem hq2)).1
        have b0:=hN3.box
        have rk:=hN3.lv.ic hrn
        have rf:=hN3.lv.fro r
        have hg3:=hN3.lv.lt.2
        have hl3:=hN3.lt
        have hqi:(q:Int)<(ms.length:Int):=by omega
        have hri:(r:Int)<(n:Int):=by omega
        gi_wp2
        go_roundw
        case rel=>
         have hE1:Below (wr.setCell ⟨g,r,none⟩ (.int .i64 (kk:Int))).heap.size (wr.setCell ⟨g,r,none⟩ (.int .i64 (kk:Int))) ((wr.setCell ⟨g,r,none⟩ (.int .i64 (kk:Int))).alloc (Obj.cells #[.int .i64 (r:Int),.pointer (some ⟨cb,0,none⟩)] 59)):=(Below.refl _ _).alloc (Nat.le_refl _) _
         have hF1:Fr (fun b=>b=g) wr (wr.setCell ⟨g,r,none⟩ (.int .i64 (kk:Int))):=Fr.setCell (X:=fun b=>b=g) (p:=⟨g,r,none⟩) rfl _
         refine⟨q+1,_,by omega,by go_num,(hN3.set r (kk:Int)).on hE1,numbered_step hN3.len hq2 hr hrn hv3,?_,(hF3.trans hF1).trans (Fr.of_below hE1)⟩
         exact(hHL3.frame hF1 (fun b e q=>by simp only[Value.ownBlock,Option.some.injEq] at e;omega)).below hE1
        case measure=>simp[intOf];omega
      · obtain rfl:q=ms.length:=by omega
        gi_wp2
        refine⟨hF3.keeps _,⟨hHz,l2,hN3,fun j hj=> ?_⟩,hKc2.trans (Kc.fr hF3 (fun b e=> .inl (by omega)))⟩
        rw[hvv.out j hj,hv3 j hj,List.take_length]
end
end Go.Proofs.YtcalhcfinkhemaaGreatDoor
