/- Texts of a proof. -/
import Derived.Test.YtbdbbdjifgpgeaaGreatB46
import Derived.Test.YtbdbbdjifgpgeaaGreatB2
import Derived.LaidEqlPtr
import Derived.Deep.RegionHeld3
import Derived.Deep.DeepCutAuto
import Derived.Test.YtbdbbdjifgpgeaaGreatB36
import Derived.Test.YtbdbbdjifgpgeaaGreatB20
import Derived.LoopNIn
import Derived.LoopIn
import Derived.OwnWalkIn
import Derived.Laws.MakeOwn
set_option maxHeartbeats 16000000
set_option maxRecDepth 20000
namespace Go.Proofs.YtbdbbdjifgpgeaaGreat
open Go.RowKit
set_option linter.unusedVariables false
set_option linter.unusedSimpArgs false
theorem run_eq_han (n d:Nat) (hn:n=d+1) (a x:Int) (cb:Nat) (w:World):(Op.equalIn (n+1) 63 (.agg #[.int .i64 a,.pointer (some ⟨cb,0,none⟩)]) (.agg #[.int .i64 x,.pointer (some ⟨cb,0,none⟩)])).run Tryz.prog w= .ok (a==x) w:=by
 have hi:Tryz.prog.underlying 61=some (.int .i64):=by kernel_rfl
 have hs:Tryz.prog.stoodInHeld 63=false:=by kernel_rfl
 have hp:∀ w,(program).run Tryz.prog w= .ok Tryz.prog w:=fun w=>by rfl
 have p0:∀ (a:Int) w,(part 61 #[.int .i64 a,.pointer (some ⟨cb,0,none⟩)] 0).run Tryz.prog w= .ok (.int .i64 a) w:=fun a w=>by kernel_rfl
 have p1:∀ (a:Int) w,(part 43 #[.int .i64 a,.pointer (some ⟨cb,0,none⟩)] 1).run Tryz.prog w= .ok (.pointer (some ⟨cb,0,none⟩)) w:=fun a w=>by kernel_rfl
 simp only[Op.equalIn,Sem.run_bind,run_underlying Tryz.underlying63,Result.andThen_ok,hp,hs,Bool.false_eq_true,if_false,Sem.run_pure]
 subst hn
 have h0:∀ w,(Op.equalIn (d+1) 61 (.int .i64 a) (.int .i64 x)).run Tryz.prog w= .ok (a==x) w:=fun w=>run_equalIn_int w d 61 .i64 .i64 a x hi
 have h1:∀ w,(Op.equalIn (d+1) 43 (.pointer (some ⟨cb,0,none⟩)) (.pointer (some ⟨cb,0,none⟩))).run Tryz.prog w= .ok true w:=fun w=>by
  simp only[Op.equalIn,Sem.run_bind,run_underlying Tryz.underlying43,Result.andThen_ok]
  have hz:(sizeOf 68).run Tryz.prog w= .ok 12 w:=by kernel_rfl
  simp[Sem.run_bind,hz,run_sameAddr_same]
 simp only[List.forIn_toArray,List.forIn_cons,List.forIn_nil,Sem.run_bind,p0,h0,Result.andThen_ok,Sem.run_ite,Sem.run_pure]
 cases hx:(a==x)<;>simp[Sem.run_bind,p0,p1,h0,h1,Sem.run_ite,hx]
theorem eq_han0 (a x:Int) (cb:Nat) (w:World):(Op.equalIn 10000 63 (.agg #[.int .i64 a,.pointer (some ⟨cb,0,none⟩)]) (.agg #[.int .i64 x,.pointer (some ⟨cb,0,none⟩)])).run Tryz.prog w= .ok (a==x) w:=run_eq_han 9999 9998 rfl a x cb w
def gnum (fx:Nat→Bool) (L:Nat→Nat) (j:Nat):Int:=if fx j=true then-1 else (cntp (fstB fx L) (L j):Int)
def fxU (U:Nat→Int) (j:Nat):Bool:=decide (U (j*12+8)=0)
theorem ofL_set (l:List Int) (A:Nat) (v:Int) (j:Nat) (hA:A<l.length):ofL (l.set A v) j=if j=A then v else ofL l j:=by
 unfold ofL
 rw[List.getD_eq_getElem?_getD,List.getD_eq_getElem?_getD,List.getElem?_set]
 by_cases e:A=j
 · subst e;simp[hA]
 · rw[if_neg e,if_neg (fun q=>e q.symm)]
theorem join_eq {U C:Nat→Int} {n m k:Nat} (hC:CtOk n m C) (hk:k<m) {l:List Int} (hl:l.length=n) {G:Nat→Nat} (h:∀ j,j<n→ofL l j=(G j:Int)):∀ j,j<n→ofL (joinL U C l k) j=(stp G (edg U C k) j:Int):=by
 intro j hj
 have ha:=hC.a k hk
 have hb:=hC.b k hk
 have hA:(C (k*5)).toNat<n:=by omega
 have hB:(C (k*5+1)).toNat<n:=by omega
 unfold joinL edg
 generalize (C (k*5)).toNat=A at hA ⊢
 generalize (C (k*5+1)).toNat=B at hB ⊢
 by_cases hu:U (A*12+8)=0
 · rw[decide_eq_true hu,if_neg (fun q=>q.1 hu)]
   exact h j hj
 · by_cases hv:U (B*12+8)=0
   · rw[decide_eq_false hu,decide_eq_true hv,if_neg (fun q=>q.2 hv)]
     exact h j hj
   · rw[decide_eq_false hu,decide_eq_false hv,if_pos ⟨hu,hv⟩]
     show ofL (joinG l A B) j=((if j=A∨j=B then min (G A) (G B) else G j:Nat):Int)
     unfold joinG
     rw[ofL_set _ B _ j (by rw[List.length_set];omega),ofL_set _ A _ j (by omega),h A hA,h B hB,h j hj]
     have hm:(if (G B:Int)<(G A:Int) then (G B:Int) else (G A:Int))=((min (G A) (G B):Nat):Int):=by split<;>omega
     rw[hm]
     by_cases e1:j=B
     · rw[if_pos e1,if_pos (Or.inr e1)]
     · rw[if_neg e1]
       by_cases e2:j=A
       · rw[if_pos e2,if_pos (Or.inl e2)]
       · rw[if_neg e2,if_neg (fun q=>q.elim e2 e1)]
theorem grpI_eq {U C:Nat→Int} {n m:Nat} (hC:CtOk n m C) {l:List Int} (hl:l.length=n) {G:Nat→Nat} (h:∀ j,j<n→ofL l j=(G j:Int)):∀ k,k≤m→∀ j,j<n→ofL (grpI U C l k) j=(rnd (edg U C) G k j:Int)
 |0,_=>h
 | k+1,hk=>by
   rw[grpI,rnd]
   exact join_eq hC hk (by rw[grpI_len];exact hl) (grpI_eq hC hl h k (by omega))
theorem rng_at:∀ n j,j<n→ofL (rng n) j=(j:Int)
 |0,j,h=>absurd h (Nat.not_lt_zero _)
 | n+1,j,h=>by
   rw[rng]
   by_cases e:j<n
   · rw[ofL_app _ _ _ (by rw[rng_len];exact e)];exact rng_at n j e
   · obtain rfl:j=n:=by omega
     rw[ofL_app' _ _ _ (by rw[rng_len];exact Nat.le_refl _),rng_len,Nat.sub_self];rfl
theorem grpR_eq {U C:Nat→Int} {n m:Nat} (hC:CtOk n m C):∀ r j,j<n→ofL (grpR U C m (rng n) r) j=(rnds (edg U C) m r j:Int)
 |0=>fun j hj=>rng_at n j hj
 | r+1=>by
   rw[grpR,rnds]
   exact grpI_eq hC (by rw[grpR_len,rng_len]) (grpR_eq hC r) m (Nat.le_refl _)
def fl (p:Nat→Bool):Nat→List Int
 |0=>[]
 |i+1=>fl p i++(if p i=true then [(i:Int)] else [])
theorem fl_len (p:Nat→Bool):∀ i,(fl p i).length=cntp p i
 |0=>rfl
 | i+1=>by
   rw[fl,cntp,List.length_append,fl_len p i]
   split<;>rfl
theorem atOf_app (l x:List Int) (v:Int):∀ k,k≤l.length→atOf (l++x) v k=atOf l v k
 |0,_=>rfl
 |k+1,h=>by rw[atOf,atOf,ofL_app _ _ _ h,atOf_app l x v k (by omega)]
theorem atOf_fl (p:Nat→Bool) (x:Nat):∀ i,atOf (fl p i) (x:Int) (cntp p i)=if x<i∧p x=true then (cntp p x:Int) else-1
 |0=>by rw[if_neg (fun q=>absurd q.1 (Nat.not_lt_zero _))];rfl
 | i+1=>by
   have ih:=atOf_fl p x i
   cases hp:p i with
   | false=>
     have e1:fl p (i+1)=fl p i:=by rw[fl,hp];simp
     have e2:cntp p (i+1)=cntp p i:=by rw[cntp,hp];rfl
     rw[e1,e2,ih]
     by_cases q:x<i∧p x=true
     · rw[if_pos q,if_pos ⟨by omega,q.2⟩]
     · rw[if_neg q,if_neg]
       rintro⟨a,b⟩
       by_cases e:x=i
       · subst e;rw[hp] at b;cases b
       · exact q ⟨by omega,b⟩
   | true=>
     have e1:fl p (i+1)=fl p i++[(i:Int)]:=by rw[fl,hp];rfl
     have e2:cntp p (i+1)=cntp p i+1:=by rw[cntp,hp];rfl
     have e3:ofL (fl p i++[(i:Int)]) (cntp p i)=(i:Int):=by
      rw[ofL_app' _ _ _ (by rw[fl_len];exact Nat.le_refl _),fl_len,Nat.sub_self];rfl
     rw[e1,e2,atOf,e3,atOf_app _ _ _ _ (by rw[fl_len];exact Nat.le_refl _),ih]
     by_cases e:i=x
     · subst e
       rw[if_pos rfl,if_pos ⟨by omega,hp⟩]
     · rw[if_neg (by omega)]
       by_cases q:x<i∧p x=true
       · rw[if_pos q,if_pos ⟨by omega,q.2⟩]
       · rw[if_neg q,if_neg (fun r=>q ⟨by omega,r.2⟩)]
structure Tops (fx:Nat→Bool) (L:Nat→Nat):Prop where
 le:∀ j,L j≤j
 idem:∀ j,L (L j)=L j
 fx:∀ j,fx (L j)=fx j
theorem Tops.fst {fx:Nat→Bool} {L:Nat→Nat} (h:Tops fx L) {j:Nat} (hj:fx j=false):fstB fx L (L j)=true:=by
 unfold fstB;rw[h.fx,hj,decide_eq_true (h.idem j)];rfl
theorem numS_eq {U G:Nat→Int} {L:Nat→Nat} {n:Nat} (hT:Tops (fxU U) L) (hG:∀ j,j<n→G j=(L j:Int)):∀ i,i≤n→(numS U G i).2=fl (fstB (fxU U) L) i∧∀ j,j<i→ofL (numS U G i).1 j=gnum (fxU U) L j
 |0,_=>⟨rfl,fun j h=>absurd h (Nat.not_lt_zero _)⟩
 | i+1,hi=>by
   obtain⟨ih1,ih2⟩:=numS_eq hT hG i (by omega)
   obtain⟨hl,-⟩:=numS_len U G i
   have fin:∀ (v:Int) (j:Nat),v=gnum (fxU U) L i→j<i+1→ofL ((numS U G i).1++[v]) j=gnum (fxU U) L j:=fun v j hv hj=>by
    by_cases e:j<i
    · rw[ofL_app _ _ _ (by omega)];exact ih2 j e
    · obtain rfl:j=i:=by omega
      rw[ofL_app' _ _ _ (by omega),hl,Nat.sub_self]
      exact hv
   by_cases hu:U (i*12+8)=0
   · have hf:fxU U i=true:=decide_eq_true hu
     have hb:fstB (fxU U) L i=false:=by unfold fstB;rw[hf];rfl
     rw[numS_z hu,fl,hb]
     exact⟨by rw[ih1];simp,fun j hj=>fin _ j (by unfold gnum;rw[if_pos hf]) hj⟩
   · have hf:fxU U i=false:=decide_eq_false hu
     have ha:atOf (numS U G i).2 (G i) (numS U G i).2.length=if L i<i∧fstB (fxU U) L (L i)=true then (cntp (fstB (fxU U) L) (L i):Int) else-1:=by
      rw[ih1,fl_len,hG i (by omega),atOf_fl]
     have hle:=hT.le i
     by_cases e:L i=i
     · rw[if_neg (by omega)] at ha
       have hb:fstB (fxU U) L i=true:=by unfold fstB;rw[hf,decide_eq_true e];rfl
       rw[numS_n hu (by rw[ha];decide),fl,hb]
       refine⟨by rw[ih1,hG i (by omega),e];rfl,fun j hj=>fin _ j ?_ hj⟩
       unfold gnum
       rw[if_neg (by rw[hf];simp),e,ih1,fl_len]
     · rw[if_pos ⟨by omega,hT.fst hf⟩] at ha
       have hb:fstB (fxU U) L i=false:=by unfold fstB;rw[decide_eq_false e];simp
       rw[numS_o hu (by rw[ha];omega),fl,hb]
       refine⟨by rw[ih1];simp,fun j hj=>fin _ j ?_ hj⟩
       unfold gnum
       rw[if_neg (by rw[hf];simp),ha]
theorem lab_tops (U C:Nat→Int) (m:Nat):Tops (fxU U) (lab (edg U C) m):=by
 refine⟨lab_le _ m,lab_idem _ m,fun j=> ?_⟩
 have h:=lab_set (edg U C) (fun j=>U (j*12+8)=0) m (fun i A B _ e=>by
  unfold edg at e
  split at e
  · rename_i q
    simp only[Option.some.injEq,Prod.mk.injEq] at e
    obtain⟨rfl,rfl⟩:=e
    exact⟨fun x=>absurd x q.1,fun x=>absurd x q.2⟩
  · cases e) j
 unfold fxU
 exact decide_eq_decide.2 h
theorem grpL_eq {U C:Nat→Int} {n m:Nat} (hC:CtOk n m C):∀ j,j<n→ofL (grpL U C m n) j=gnum (fxU U) (lab (edg U C) m) j:=by
 have hE:∀ i A B,i<m→edg U C i=some (A,B)→A<n∧B<n:=fun i A B hi e=>by
  have ha:=hC.a i hi
  have hb:=hC.b i hi
  unfold edg at e
  split at e
  · simp only[Option.some.injEq,Prod.mk.injEq] at e
    obtain⟨rfl,rfl⟩:=e
    omega
  · cases e
 exact(numS_eq (lab_tops U C m) (fun j hj=>by rw[grpR_eq hC n j hj,rnds_lab _ m n hE j hj]) n (Nat.le_refl _)).2
def vnum (fx:Nat→Bool) (L:Nat→Nat) (k j:Nat):Int:=if fx j=false∧cntp (fstB fx L) (L j)<k then (cntp (fstB fx L) (L j):Int) else-1
theorem cntp_inj (p:Nat→Bool) {i j:Nat} (hi:p i=true) (hj:p j=true) (h:cntp p i=cntp p j):i=j:=by
 rcases Nat.lt_trichotomy i j with q|q|q
 · have:=cntp_in p q hi;omega
 · exact q
 · have:=cntp_in p q hj;omega
theorem memL_mem (L:Nat→Nat) (i:Nat):∀ n j,j∈memL L i n↔j<n∧L j=i
 |0,j=>by simp[memL]
 | n+1,j=>by
   rw[memL,List.mem_append,memL_mem L i n j]
   by_cases h:L n=i
   · rw[if_pos h,List.mem_singleton]
     constructor
     · rintro(⟨a,b⟩|rfl)
       · exact⟨by omega,b⟩
       · exact⟨by omega,h⟩
     · rintro⟨a,b⟩
       by_cases e:j=n
       · exact .inr e
       · exact .inl ⟨by omega,b⟩
   · rw[if_neg h]
     constructor
     · rintro(⟨a,b⟩|h)
       · exact⟨by omega,b⟩
       · cases h
     · rintro⟨a,b⟩
       by_cases e:j=n
       · subst e;exact absurd b h
       · exact .inl ⟨by omega,b⟩
end Go.Proofs.YtbdbbdjifgpgeaaGreat
namespace Go.Proofs.YtbdbbdjifgpgeaaGreat
open Go.RowKit
set_option linter.unusedVariables false
set_option linter.unusedSimpArgs false
theorem HL.some {w:World} {base cb:Nat} {v:Value} {l:List Nat} (h:HL w base cb v l) (hl:0<l.length):∃ g c:Nat,v= .slice (some ⟨g,0,none⟩) l.length c∧base≤g∧g<w.heap.size:=by
 rcases h.2 with⟨_,e⟩|⟨g,cap,cur,hv,hb,_⟩
 · omega
 · exact⟨g,cap,hv,hb,(h.lt g (by rw[hv];rfl)).2⟩
theorem LV.blk {w wr w':World} {t g cap n:Nat} {xs:List Value} (h:LV w wr t g cap n xs) (hb:Below w.heap.size wr w') (e:w'.heap[g]? =wr.heap[g]?):LV w w' t g cap n xs:=by
 refine⟨h.bel.trans hb,h.len,h.own.1,?_⟩
 rcases h.own.2 with⟨q,_⟩|⟨g',cap',cur,hv,hb',hg,rest⟩
 · cases q
 · cases hv
   exact .inr ⟨g,cap,cur,rfl,hb',e.trans hg,rest⟩
theorem LV.sm {w wr w':World} {B t g cap n:Nat} {xs:List Value} (h:LV w wr t g cap n xs) (hs:Sm B wr w') (hB:w.heap.size≤B):LV w w' t g cap n xs:=by
 refine h.blk (hs.below.mono hB) ?_
 rcases h.own.2 with⟨q,_⟩|⟨g',cap',cur,hv,hb',hg,rest⟩
 · cases q
 · cases hv
   exact(hs.cells _ _ hg rfl).trans hg.symm
theorem LV.made (w:World) (t n:Nat) (hn:n≤maxLen):LV w (w.alloc (.cells (madeCells #[.int .i64 0] n) t)) t w.heap.size n n (IV (List.replicate n 0)):=by
 have e:(madeCells #[Value.int .i64 0] n).toList=IV (List.replicate n 0):=by
  unfold madeCells IV
  apply List.ext_getElem?
  intro j
  by_cases h:j<n
  · simp[h,Nat.mod_one]
  · simp[h]
 refine⟨(Below.refl _ _).alloc (Nat.le_refl _) _,by rw[IV_len,List.length_replicate],by rw[IV_len,List.length_replicate,Nat.mul_one],.inr ⟨w.heap.size,n,_,rfl,Nat.le_refl _,Go.Deep.blk_alloc_new _ _,Nat.le_refl _,hn,by rw[size_madeCells,Nat.mul_one],?_⟩⟩
 rw[e,Nat.mul_one,List.take_of_length_le (by rw[IV_len,List.length_replicate];exact Nat.le_refl _)]
structure Nr (w A:World) (g lb n:Nat) (l:List Int):Prop where
 lv:LV w A 3 g n n (IV l)
 box:A.cell? ⟨lb,0,none⟩=some (.slice (some ⟨g,0,none⟩) n n)
 lo:w.heap.size≤lb
 ne:lb≠g
section
variable {w A A':World} {g lb n:Nat} {l:List Int}
theorem Nr.lt (h:Nr w A g lb n l):lb<A.heap.size:=cell_lt (a:=⟨lb,0,none⟩) h.box
theorem Nr.len (h:Nr w A g lb n l):l.length=n:=by have:=h.lv.len;rwa [IV_len] at this
theorem Nr.blk (h:Nr w A g lb n l) (hb:Below w.heap.size A A') (e1:A'.heap[g]? =A.heap[g]?) (e2:A'.heap[lb]? =A.heap[lb]?):Nr w A' g lb n l:=
 ⟨h.lv.blk hb e1,(World.cell?_of_block (w:=A) (a:=⟨lb,0,none⟩) e2).trans h.box,h.lo,h.ne⟩
theorem Nr.below {B:Nat} (h:Nr w A g lb n l) (hb:Below B A A') (hB:w.heap.size≤B) (h1:g<B) (h2:lb<B):Nr w A' g lb n l:=h.blk (hb.mono hB) (hb.block g h1) (hb.block lb h2)
theorem Nr.on (h:Nr w A g lb n l) (hb:Below A.heap.size A A'):Nr w A' g lb n l:=h.below hb h.lv.bel.size h.lv.lt.2 h.lt
theorem Nr.sm {B:Nat} (h:Nr w A g lb n l) (hs:Sm B A A') (hB:w.heap.size≤B):Nr w A' g lb n l:=⟨h.lv.sm hs hB,hs.cell h.box,h.lo,h.ne⟩
theorem Nr.set (h:Nr w A g lb n l) (j:Nat) (x:Int):Nr w (A.setCell ⟨g,j,none⟩ (.int .i64 x)) g lb n (l.set j x):=
 ⟨by rw[←IV_set];exact h.lv.set j _,by rw[cset_far (by simp;exact h.ne)];exact h.box,h.lo,h.ne⟩
end
section
attribute [local go_sem] Oper.semAt_some
end
end Go.Proofs.YtbdbbdjifgpgeaaGreat
