/- Texts of a proof. -/
import Derived.Test.YtbdbbdjifgpgeaaGreatGofS
import Derived.Test.YtbdbbdjifgpgeaaGreatB50
import Derived.Test.YtbdbbdjifgpgeaaGreatB47
set_option maxHeartbeats 16000000
set_option maxRecDepth 20000
namespace Go.Proofs.YtbdbbdjifgpgeaaGreat
open Go.RowKit
set_option linter.unusedVariables false
set_option linter.unusedSimpArgs false
theorem selL_mem (p:Nat→Bool):∀ n j,j∈selL p n↔j<n∧p j=true
 |0,j=>by simp[selL]
 | n+1,j=>by
   rw[selL,List.mem_append,selL_mem p n j]
   by_cases h:p n=true
   · rw[if_pos h,List.mem_singleton]
     constructor
     · rintro(⟨a,b⟩|rfl)
       · exact⟨by omega,b⟩
       · exact⟨by omega,h⟩
     · rintro⟨a,b⟩
       rcases Nat.lt_succ_iff_lt_or_eq.1 a with l|rfl
       · exact .inl ⟨l,b⟩
       · exact .inr rfl
   · rw[if_neg h]
     constructor
     · rintro(⟨a,b⟩|hh)
       · exact⟨by omega,b⟩
       · cases hh
     · rintro⟨a,b⟩
       rcases Nat.lt_succ_iff_lt_or_eq.1 a with l|rfl
       · exact .inl ⟨l,b⟩
       · exact absurd b h
theorem selL_len (p:Nat→Bool):∀ n,(selL p n).length=cntp p n
 |0=>rfl
 |n+1=>by rw[selL,List.length_append,selL_len p n,cntp];split<;>rfl
theorem getD_in {l:List Nat} {a:Nat} (h:a<l.length):l.getD a 0∈l:=by
 rw[List.getD_eq_getElem?_getD,List.getElem?_eq_getElem h];exact List.getElem_mem h
theorem getD_app1 {l x:List Nat} {a:Nat} (h:a<l.length):(l++x).getD a 0=l.getD a 0:=by
 rw[List.getD_eq_getElem?_getD,List.getD_eq_getElem?_getD,List.getElem?_append_left h]
theorem getD_app2 (l:List Nat) (y:Nat):(l++[y]).getD l.length 0=y:=by
 rw[List.getD_eq_getElem?_getD,List.getElem?_append_right (Nat.le_refl _),Nat.sub_self];rfl
theorem selL_asc (p:Nat→Bool):∀ n a b,a<b→b<(selL p n).length→(selL p n).getD a 0<(selL p n).getD b 0
 |0,a,b,_,h=>absurd h (Nat.not_lt_zero _)
 | n+1,a,b,hab,h=>by
   rw[selL] at h ⊢
   by_cases hp:p n=true
   · rw[if_pos hp] at h ⊢
     rw[List.length_append,List.length_singleton] at h
     have hl:a<(selL p n).length:=by omega
     by_cases hb:b<(selL p n).length
     · rw[getD_app1 hl,getD_app1 hb];exact selL_asc p n a b hab hb
     · obtain rfl:b=(selL p n).length:=by omega
       rw[getD_app1 hl,getD_app2]
       exact((selL_mem p n _).1 (getD_in hl)).1
   · rw[if_neg hp,List.append_nil] at h ⊢;exact selL_asc p n a b hab h
theorem selL_ex {p:Nat→Bool} {n j:Nat} (hj:j<n) (hp:p j=true):∃ a,a<(selL p n).length∧(selL p n).getD a 0=j:=by
 obtain⟨a,ha,e⟩:=List.getElem_of_mem ((selL_mem p n j).2 ⟨hj,hp⟩)
 exact⟨a,ha,by rw[List.getD_eq_getElem?_getD,List.getElem?_eq_getElem ha];exact e⟩
theorem selL_at {p:Nat→Bool} {n a:Nat} (h:a<(selL p n).length):(selL p n).getD a 0<n∧p ((selL p n).getD a 0)=true:=(selL_mem p n _).1 (getD_in h)
theorem selL_lt {p:Nat→Bool} {n a b:Nat} (ha:a<(selL p n).length) (hb:b<(selL p n).length):a<b↔(selL p n).getD a 0<(selL p n).getD b 0:=by
 constructor
 · intro l;exact selL_asc p n a b l hb
 · intro l
   rcases Nat.lt_trichotomy a b with h|h|h
   · exact h
   · subst h;omega
   · have:=selL_asc p n b a h ha;omega
theorem selL_inj {p:Nat→Bool} {n a b:Nat} (ha:a<(selL p n).length) (hb:b<(selL p n).length) (e:(selL p n).getD a 0=(selL p n).getD b 0):a=b:=by
 have h1:=selL_lt ha hb
 have h2:=selL_lt hb ha
 omega
theorem selL_full {p:Nat→Bool}:∀ {n:Nat},(∀ j,j<n→p j=true)→(selL p n).length=n∧∀ a,a<n→(selL p n).getD a 0=a
 |0,_=>⟨rfl,fun a h=>absurd h (Nat.not_lt_zero _)⟩
 | n+1,h=>by
   obtain⟨h1,h2⟩:=selL_full (n:=n) (fun j hj=>h j (by omega))
   rw[selL,if_pos (h n (by omega))]
   refine⟨by rw[List.length_append,h1];rfl,fun a ha=> ?_⟩
   by_cases e:a<n
   · rw[getD_app1 (by omega)];exact h2 a e
   · obtain rfl:a=n:=by omega
     have q:=getD_app2 (selL p a) a
     rw[h1] at q
     exact q
/- contacts, each where it stands -/
theorem preOut (C:Nat→Nat→Int) (n j:Nat):∀ m,j≤m→∃ r,conOut C n m=conOut C n j++r
 | 0, h => by obtain rfl:j=0:=by omega
              exact⟨[],by simp⟩
 | m+1,h=>by
   by_cases e:j=m+1
   · subst e;exact⟨[],by simp⟩
   · obtain⟨r,hr⟩:=preOut C n j m (by omega)
     exact⟨r++conIn C m n,by rw[conOut,hr,List.append_assoc]⟩
theorem preIn (C:Nat→Nat→Int) (i j:Nat):∀ m,j≤m→∃ r,conIn C i m=conIn C i j++r
 | 0, h => by obtain rfl:j=0:=by omega
              exact⟨[],by simp⟩
 | m+1,h=>by
   by_cases e:j=m+1
   · subst e;exact⟨[],by simp⟩
   · obtain⟨r,hr⟩:=preIn C i j m (by omega)
     exact⟨r++conOne C i m,by rw[conIn,hr,List.append_assoc]⟩
theorem conAt (C:Nat→Nat→Int) {n i k:Nat} (hi:i<n) (hk:k<n):∃ r,conL C n=(conOut C n i++conIn C i k)++(conOne C i k++r):=by
 obtain⟨r1,h1⟩:=preOut C n (i+1) n (by omega)
 obtain⟨r2,h2⟩:=preIn C i (k+1) n (by omega)
 refine⟨r2++r1,?_⟩
 unfold conL
 rw[h1,conOut,h2,conIn]
 simp only[List.append_assoc]
theorem con_has (C:Nat→Nat→Int) {n i k M:Nat} (hi:i<n) (hk:k<n) (hb:conB C i k=true) (hM:(conL C n).length=M*5):∃ q,q<M∧ofL (conL C n) (q*5)=(i:Int)∧ofL (conL C n) (q*5+1)=(k:Int):=by
 obtain⟨r,hr⟩:=conAt C hi hk
 obtain⟨m1,e1,_⟩:=conOut_len C n i
 obtain⟨m2,e2,_⟩:=conIn_len C i k
 have e3:conOne C i k=[(i:Int),(k:Int),(tcH C i k).1.1,(tcH C i k).1.2.1,(tcH C i k).1.2.2]:=by unfold conOne;rw[if_pos hb]
 have hl:(conOut C n i++conIn C i k).length=(m1+m2)*5:=by rw[List.length_append,e1,e2];omega
 refine⟨m1+m2,?_,?_,?_⟩
 · rw[hr,e3,List.length_append,hl,List.length_append] at hM
   simp only[List.length_cons,List.length_nil] at hM
   omega
 · rw[hr,e3]
   unfold ofL
   rw[List.getD_eq_getElem?_getD,List.getElem?_append_right (by omega),hl,Nat.sub_self]
   rfl
 · rw[hr,e3]
   unfold ofL
   rw[List.getD_eq_getElem?_getD,List.getElem?_append_right (by omega),hl,Nat.add_sub_cancel_left]
   rfl
def ConP (C:Nat→Nat→Int) (n:Nat) (a b _x _y _d:Int):Prop:=∃ i k:Nat,a=i∧b=k∧k<n∧conB C i k=true
theorem conOne_P (C:Nat→Nat→Int) {n i k:Nat} (hk:k<n):Fives (ConP C n) (conOne C i k):=by
 unfold conOne
 by_cases h:conB C i k=true
 · rw[if_pos h];exact Fives.one ⟨i,k,rfl,rfl,hk,h⟩
 · rw[if_neg h];exact Fives.nil _
theorem conIn_P (C:Nat→Nat→Int) {n i:Nat}:∀ k,k≤n→Fives (ConP C n) (conIn C i k)
 |0,_=>Fives.nil _
 |k+1,h=>by rw[conIn];exact(conIn_P C k (by omega)).app (conOne_P C (by omega))
theorem conOut_P (C:Nat→Nat→Int) {n:Nat}:∀ i,Fives (ConP C n) (conOut C n i)
 |0=>Fives.nil _
 |i+1=>by rw[conOut];exact(conOut_P C i).app (conIn_P C n (Nat.le_refl _))
theorem con_is (C:Nat→Nat→Int) {n M:Nat} (hM:(conL C n).length=M*5):∀ q,q<M→∃ i k:Nat,ofL (conL C n) (q*5)=i∧ofL (conL C n) (q*5+1)=k∧k<n∧conB C i k=true:=by
 obtain⟨m,e,h⟩:=conOut_P C (n:=n) n
 have e':(conL C n).length=m*5:=e
 obtain rfl:M=m:=by omega
 exact h
theorem conB_lt {C:Nat→Nat→Int} {i k:Nat} (h:conB C i k=true):i<k:=by
 rcases Nat.lt_or_ge i k with l|l
 · exact l
 · rw[conB_ge l] at h;cases h
theorem conB_of {C C':Nat→Nat→Int} {i k i' k':Nat} (h1:∀ r,r<12→C r i=C' r i') (h2:∀ r,r<12→C r k=C' r k') (hl:i<k↔i'<k'):conB C i k=conB C' i' k':=by
 unfold conB tcH
 rw[h1 1 (by decide),h1 2 (by decide),h1 3 (by decide),h1 4 (by decide),h1 5 (by decide),h1 8 (by decide),h2 1 (by decide),h2 2 (by decide),h2 3 (by decide),h2 4 (by decide),h2 5 (by decide),h2 8 (by decide),decide_eq_decide.2 hl]
theorem edge_of {n M q A B:Nat} {U:Nat→Int} (hM:(conL (colOf U) n).length=M*5) (hq:q<M) (h:edg U (ofL (conL (colOf U) n)) q=some (A,B)):(A<B∧B<n)∧conB (colOf U) A B=true∧fxU U A=false∧fxU U B=false:=by
 obtain⟨i,k,e1,e2,hk,hb⟩:=con_is (colOf U) hM q hq
 unfold edg at h
 rw[e1,e2,Int.toNat_natCast,Int.toNat_natCast] at h
 by_cases hm:U (i*12+8)≠0∧U (k*12+8)≠0
 · rw[if_pos hm] at h
   simp only[Option.some.injEq,Prod.mk.injEq] at h
   obtain⟨rfl,rfl⟩:=h
   exact⟨⟨conB_lt hb,hk⟩,hb,decide_eq_false hm.1,decide_eq_false hm.2⟩
 · rw[if_neg hm] at h;cases h
theorem edge_has {n M A B:Nat} {U:Nat→Int} (hM:(conL (colOf U) n).length=M*5) (hA:A<n) (hB:B<n) (hc:conB (colOf U) A B=true) (fA:fxU U A=false) (fB:fxU U B=false):∃ q,q<M∧edg U (ofL (conL (colOf U) n)) q=some (A,B):=by
 obtain⟨q,hq,e1,e2⟩:=con_has (colOf U) hA hB hc hM
 refine⟨q,hq,?_⟩
 unfold edg
 rw[e1,e2,Int.toNat_natCast,Int.toNat_natCast,if_pos ⟨of_decide_eq_false fA,of_decide_eq_false fB⟩]
theorem gnum_top {fx:Nat→Bool} {L:Nat→Nat} (hT:Tops fx L) {i j:Nat} (fi:fx i=false) (fj:fx j=false) (e:gnum fx L i=gnum fx L j):L i=L j:=by
 unfold gnum at e
 rw[fi,fj] at e
 exact cntp_inj _ (hT.fst fi) (hT.fst fj) (by simp at e;omega)
theorem gofP_in {fx:Nat→Bool} {L:Nat→Nat} {q:Int} {j:Nat} (f:fx j=false) (h:gofP fx L q j=true):gnum fx L j=q:=by
 unfold gofP at h
 rw[f,Bool.false_or] at h
 exact of_decide_eq_true h
theorem part_one {n M M':Nat} {U U':Nat→Int} {k:Int} {s:List Nat} (hM:(conL (colOf U) n).length=M*5)
 (hs:s=selL (gofP (fxU U) (lab (edg U (ofL (conL (colOf U) n))) M) k) n) (hM':(conL (colOf U') s.length).length=M'*5)
 (hU:∀ a r,a<s.length→r<12→U' (a*12+r)=U (s.getD a 0*12+r)):
 ∀ a b,a<s.length→b<s.length→fxU U' a=false→fxU U' b=false→lab (edg U' (ofL (conL (colOf U') s.length))) M' a=lab (edg U' (ofL (conL (colOf U') s.length))) M' b:=by
 intro a b ha hb fa fb
 have hT:=lab_tops U (ofL (conL (colOf U) n)) M
 have hfx:∀ c,c<s.length→fxU U' c=fxU U (s.getD c 0):=fun c hc=>by unfold fxU;rw[hU c 8 hc (by decide)]
 have hp:∀ c,c<s.length→fxU U (s.getD c 0)=false→gnum (fxU U) (lab (edg U (ofL (conL (colOf U) n))) M) (s.getD c 0)=k:=fun c hc f=>by
  subst hs
  exact gofP_in f (selL_at hc).2
 have hin:∀ j,j<n→gnum (fxU U) (lab (edg U (ofL (conL (colOf U) n))) M) j=k→∃ d,d<s.length∧s.getD d 0=j:=fun j hj e=>by
  subst hs
  exact selL_ex hj (by unfold gofP;rw[decide_eq_true e,Bool.or_true])
 have hlt:∀ c d,c<s.length→d<s.length→(c<d↔s.getD c 0<s.getD d 0):=fun c d hc hd=>by
  subst hs
  exact selL_lt hc hd
 have hinj:∀ c d,c<s.length→d<s.length→s.getD c 0=s.getD d 0→c=d:=fun c d hc hd e=>by
  subst hs
  exact selL_inj hc hd e
 -- two of the part that touch have one top
 have hjoin:∀ c d,c<s.length→d<s.length→conB (colOf U) (s.getD c 0) (s.getD d 0)=true→fxU U (s.getD c 0)=false→fxU U (s.getD d 0)=false→lab (edg U' (ofL (conL (colOf U') s.length))) M' c=lab (edg U' (ofL (conL (colOf U') s.length))) M' d:=fun c d hc hd hb fc fd=>by
  have e:=conB_of (C:=colOf U') (C':=colOf U) (i:=c) (k:=d) (i':=s.getD c 0) (k':=s.getD d 0) (fun r hr=>hU c r hc hr) (fun r hr=>hU d r hd hr) (hlt c d hc hd)
  obtain⟨q,hq,he⟩:=edge_has (U:=U') hM' hc hd (e.trans hb) ((hfx c hc).trans fc) ((hfx d hd).trans fd)
  exact lab_edge _ M' q c d hq he
 have hE:∀ q A B,q<M→edg U (ofL (conL (colOf U) n)) q=some (A,B)→gnum (fxU U) (lab (edg U (ofL (conL (colOf U) n))) M) A=gnum (fxU U) (lab (edg U (ofL (conL (colOf U) n))) M) B:=fun q A B hq he=>by
  obtain⟨_,_,fA,fB⟩:=edge_of hM hq he
  have l:=lab_edge _ M q A B hq he
  unfold gnum
  rw[fA,fB,l]
 have hX:=lab_set (edg U (ofL (conL (colOf U) n))) (fun j=>∃ c,c<s.length∧s.getD c 0=j∧lab (edg U' (ofL (conL (colOf U') s.length))) M' c=lab (edg U' (ofL (conL (colOf U') s.length))) M' a) M (fun q A B hq he=>by
  obtain⟨⟨hAB,hBn⟩,hcb,fA,fB⟩:=edge_of hM hq he
  have hg:=hE q A B hq he
  constructor
  · rintro⟨c,hc,rfl,l⟩
    obtain⟨d,hd,rfl⟩:=hin B hBn (hg.symm.trans (hp c hc fA))
    exact⟨d,hd,rfl,(hjoin c d hc hd hcb fA fB).symm.trans l⟩
  · rintro⟨d,hd,rfl,l⟩
    obtain⟨c,hc,rfl⟩:=hin A (by omega) (hg.trans (hp d hd fB))
    exact⟨c,hc,rfl,(hjoin c d hc hd hcb fA fB).trans l⟩)
 have fsa:fxU U (s.getD a 0)=false:=(hfx a ha).symm.trans fa
 have fsb:fxU U (s.getD b 0)=false:=(hfx b hb).symm.trans fb
 have el:lab (edg U (ofL (conL (colOf U) n))) M (s.getD a 0)=lab (edg U (ofL (conL (colOf U) n))) M (s.getD b 0):=gnum_top hT fsa fsb ((hp a ha fsa).trans (hp b hb fsb).symm)
 have x1:=(hX (s.getD a 0)).2 ⟨a,ha,rfl,rfl⟩
 rw[el] at x1
 obtain⟨c,hc,e,l⟩:=(hX (s.getD b 0)).1 x1
 obtain rfl:=hinj c b hc hb e
 exact l.symm
theorem cntp_find {p:Nat→Bool} {k:Nat}:∀ {n:Nat},k<cntp p n→∃ i,i<n∧p i=true∧cntp p i=k
 |0,h=>absurd h (Nat.not_lt_zero _)
 | n+1,h=>by
   by_cases l:k<cntp p n
   · obtain⟨i,hi,a,b⟩:=cntp_find l;exact⟨i,by omega,a,b⟩
   · rw[cntp] at h
     by_cases hp:p n=true
     · rw[if_pos hp] at h;exact⟨n,by omega,hp,by omega⟩
     · rw[if_neg hp] at h;omega
theorem cntp_zero {p:Nat→Bool}:∀ {n:Nat},(∀ j,j<n→p j=false)→cntp p n=0
 |0,_=>rfl
 |n+1,h=>by rw[cntp,cntp_zero (fun j hj=>h j (by omega)),h n (by omega)];rfl
theorem cntp_uniq {p:Nat→Bool} {t:Nat} (ht:p t=true):∀ {n:Nat},t<n→(∀ j,j<n→p j=true→j=t)→cntp p n=1
 |0,h,_=>absurd h (Nat.not_lt_zero _)
 | n+1,h,hu=>by
   rw[cntp]
   by_cases e:t=n
   · subst e
     rw[if_pos ht,cntp_zero (fun j hj=>by
      cases q:p j with
      |false=>rfl
      |true=>have:=hu j (by omega) q;omega)]
   · rw[cntp_uniq ht (by omega) (fun j hj q=>hu j (by omega) q),if_neg (fun q=>e (hu n (by omega) q).symm)]
theorem part_bods {n:Nat} {U U':Nat→Int} (h:Bods n U) (p:Nat→Bool) (hU:∀ a r,a<(selL p n).length→r<12→U' (a*12+r)=U ((selL p n).getD a 0*12+r)):Bods (selL p n).length U':=by
 have hasc:∀ d i,i+d<n→0<d→U (i*12)<U ((i+d)*12):=fun d=>by
  induction d with
  |zero=>intro i _ h0;omega
  | succ d ih=>
    intro i hi _
    have a:=h.asc (i+d) (by omega)
    by_cases h0:d=0
    · subst h0;exact a
    · exact Int.lt_trans (ih i (by omega) (by omega)) a
 refine⟨Nat.le_trans (selL_le p n) h.le,fun a ha=> ?_,fun a ha=> ?_⟩
 · rw[bodyB_cong (fun r hr=>hU a r ha hr)]
   exact h.ok _ (selL_at ha).1
 · have h0:=hU a 0 (by omega) (by decide)
   have h1:=hU (a+1) 0 ha (by decide)
   rw[Nat.add_zero,Nat.add_zero] at h0 h1
   rw[h0,h1]
   have l:=selL_asc p n a (a+1) (by omega) ha
   have q:=(selL_at ha).1
   have r:=hasc ((selL p n).getD (a+1) 0-(selL p n).getD a 0) ((selL p n).getD a 0) (by omega) (by omega)
   rw[show (selL p n).getD a 0+((selL p n).getD (a+1) 0-(selL p n).getD a 0)=(selL p n).getD (a+1) 0 by omega] at r
   exact r
theorem rsL_at (U:Nat→Int) (s:List Nat) {a r:Nat} (ha:a<s.length) (hr:r<12):ofL (rsL U s) (a*12+r)=U (s.getD a 0*12+r):=by
 unfold rsL
 rw[rwL_at _ _ _ (by omega),show (a*12+r) % 12=r by omega,show (a*12+r)/12=a by omega]
 rfl
theorem awO_num {n:Nat} {U:Nat→Int} (hB:bodsB n U=true):(awO n U).length=cntp (fstB (fxU U) (lab (edg U (ofL (conL (colOf U) n))) (conN n U))) n:=by
 rw[awO_y hB]
 exact(awL_eq (lab_tops U _ _) (grpU_eq (bods_n hB)) n (Nat.le_refl _)).1
theorem part_whole {n:Nat} {U:Nat→Int} {q:Int} (hB:bodsB n U=true) (h0:0≤q) (hq:q<((awO n U).length:Int)):
 (awO (gofS n U q).length (ofL (rsL U (gofS n U q)))).length=1∧((gofS (gofS n U q).length (ofL (rsL U (gofS n U q))) 0).length=(gofS n U q).length∧∀ x,x<(gofS n U q).length*12→ofL (rsL (ofL (rsL U (gofS n U q))) (gofS (gofS n U q).length (ofL (rsL U (gofS n U q))) 0)) x=ofL (rsL U (gofS n U q)) x):=by
 have hn12:=bods_n hB
 have hs:=gofS_y hB h0
 obtain⟨s,es⟩:∃ s,gofS n U q=s:=⟨_,rfl⟩
 rw[es] at hs ⊢
 have hU:∀ a r,a<s.length→r<12→ofL (rsL U s) (a*12+r)=U (s.getD a 0*12+r):=fun a r ha hr=>rsL_at U s ha hr
 obtain⟨U',eU⟩:∃ U',ofL (rsL U s)=U':=⟨_,rfl⟩
 rw[eU] at hU ⊢
 have hB':bodsB s.length U'=true:=by
  subst hs
  exact(part_bods (Bods.of hB) _ hU).to
 have hm12:=bods_n hB'
 have hone:=part_one (conN_eq U hn12).1 hs (conN_eq U' hm12).1 hU
 have hT':=lab_tops U' (ofL (conL (colOf U') s.length)) (conN s.length U')
 rw[awO_num hB] at hq
 have hq2:q.toNat<cntp (fstB (fxU U) (lab (edg U (ofL (conL (colOf U) n))) (conN n U))) n:=by omega
 obtain⟨i,hi,hf,hc⟩:=cntp_find hq2
 have hf':=hf
 unfold fstB at hf'
 simp only[Bool.and_eq_true,Bool.not_eq_true',decide_eq_true_eq] at hf'
 obtain⟨a0,ha0,e0⟩:∃ a,a<s.length∧s.getD a 0=i:=by
  subst hs
  refine selL_ex hi ?_
  unfold gofP gnum
  rw[hf'.1,hf'.2,hc,decide_eq_true (show (if false=true then (-1:Int) else (q.toNat:Int))=q by simp;omega),Bool.or_true]
 have f0:fxU U' a0=false:=by unfold fxU;rw[hU a0 8 ha0 (by decide),e0];exact hf'.1
 obtain⟨t,et⟩:∃ t,lab (edg U' (ofL (conL (colOf U') s.length))) (conN s.length U') a0=t:=⟨_,rfl⟩
 have htf:fstB (fxU U') (lab (edg U' (ofL (conL (colOf U') s.length))) (conN s.length U')) t=true:=by rw[←et];exact hT'.fst f0
 have htl:t≤a0:=by rw[←et];exact hT'.le a0
 have hu:∀ j,j<s.length→fstB (fxU U') (lab (edg U' (ofL (conL (colOf U') s.length))) (conN s.length U')) j=true→j=t:=fun j hj h=>by
  unfold fstB at h
  simp only[Bool.and_eq_true,Bool.not_eq_true',decide_eq_true_eq] at h
  have:=hone j a0 hj ha0 h.1 f0
  omega
 refine⟨by rw[awO_num hB'];exact cntp_uniq htf (by omega) hu,?_⟩
 rw[gofS_y hB' (Int.le_refl 0)]
 have hall:∀ j,j<s.length→gofP (fxU U') (lab (edg U' (ofL (conL (colOf U') s.length))) (conN s.length U')) 0 j=true:=fun j hj=>by
  unfold gofP
  cases fj:fxU U' j with
  |true=>rfl
  | false=>
    unfold gnum
    rw[fj,hone j a0 hj ha0 fj f0,et,cntp_zero (fun x hx=>by
     cases e:fstB (fxU U') (lab (edg U' (ofL (conL (colOf U') s.length))) (conN s.length U')) x with
     |false=>rfl
     |true=>have:=hu x (by omega) e;omega)]
    rfl
 obtain⟨g1,g2⟩:=selL_full hall
 refine⟨g1,fun x hx=> ?_⟩
 have e:=rsL_at U' (selL (gofP (fxU U') (lab (edg U' (ofL (conL (colOf U') s.length))) (conN s.length U')) 0) s.length) (a:=x/12) (r:=x % 12) (by omega) (by omega)
 rw[g2 _ (by omega),show x/12*12+x % 12=x by omega] at e
 exact e
def mvN (n:Nat) (U:Nat→Int):Nat:=cntp (fun j=> !fxU U j) n
def fxN (n:Nat) (U:Nat→Int):Nat:=cntp (fxU U) n
theorem cntp_or {p q r:Nat→Bool}:∀ n,(∀ j,j<n→(r j=(p j||q j))∧(p j&&q j)=false)→cntp r n=cntp p n+cntp q n
 |0,_=>rfl
 | n+1,h=>by
   rw[cntp,cntp,cntp,cntp_or n (fun j hj=>h j (by omega))]
   obtain⟨a,b⟩:=h n (by omega)
   rw[a]
   cases hp:p n<;>cases hq:q n<;>simp_all<;>omega
def sumG (n:Nat) (U:Nat→Int) (i:Nat):Nat:=cntp (fun j=> !fxU U j&&decide (gnum (fxU U) (lab (edg U (ofL (conL (colOf U) n))) (conN n U)) j<(i:Int))) n
theorem sumG_0 (n:Nat) (U:Nat→Int):sumG n U 0=0:=by
 unfold sumG
 refine cntp_zero fun j hj=> ?_
 cases f:fxU U j with
 |true=>rfl
 | false=>
   unfold gnum
   rw[f]
   simp
theorem sumG_step {n:Nat} {U:Nat→Int} (hB:bodsB n U=true) (i:Nat):(gofS n U (i:Int)).length+sumG n U i=sumG n U (i+1)+fxN n U:=by
 rw[gofS_y hB (by omega),selL_len]
 have h1:=cntp_or (p:=fxU U) (q:=fun j=> !fxU U j&&decide (gnum (fxU U) (lab (edg U (ofL (conL (colOf U) n))) (conN n U)) j=(i:Int))) (r:=gofP (fxU U) (lab (edg U (ofL (conL (colOf U) n))) (conN n U)) (i:Int)) n (fun j hj=>by
  unfold gofP
  cases fxU U j<;>simp)
 have h2:=cntp_or (p:=fun j=> !fxU U j&&decide (gnum (fxU U) (lab (edg U (ofL (conL (colOf U) n))) (conN n U)) j<(i:Int))) (q:=fun j=> !fxU U j&&decide (gnum (fxU U) (lab (edg U (ofL (conL (colOf U) n))) (conN n U)) j=(i:Int))) (r:=fun j=> !fxU U j&&decide (gnum (fxU U) (lab (edg U (ofL (conL (colOf U) n))) (conN n U)) j<((i+1:Nat):Int))) n (fun j hj=>by
  cases fxU U j with
  |true=>exact⟨rfl,rfl⟩
  | false=>
    generalize gnum (fxU U) (lab (edg U (ofL (conL (colOf U) n))) (conN n U)) j=x
    constructor
    · by_cases a:x<(i:Int)
      · rw[decide_eq_true a,decide_eq_true (show x<((i+1:Nat):Int) by omega)];rfl
      · by_cases b:x=(i:Int)
        · rw[decide_eq_true b,decide_eq_true (show x<((i+1:Nat):Int) by omega),decide_eq_false a];rfl
        · rw[decide_eq_false b,decide_eq_false a,decide_eq_false (show ¬ x<((i+1:Nat):Int) by omega)];rfl
    · by_cases a:x<(i:Int)
      · rw[decide_eq_true a,decide_eq_false (show ¬ x=(i:Int) by omega)];rfl
      · rw[decide_eq_false a];rfl)
 unfold sumG fxN
 rw[h1,h2]
 omega
theorem sumG_all {n:Nat} {U:Nat→Int} (hB:bodsB n U=true):sumG n U (awO n U).length+fxN n U=n:=by
 have h1:=cntp_or (p:=fun j=> !fxU U j&&decide (gnum (fxU U) (lab (edg U (ofL (conL (colOf U) n))) (conN n U)) j<((awO n U).length:Int))) (q:=fxU U) (r:=fun _=>true) n (fun j hj=>by
  cases f:fxU U j with
  |true=>exact⟨rfl,rfl⟩
  | false=>
    have l:=gnum_lt (lab_tops U (ofL (conL (colOf U) n)) (conN n U)) hj
    rw[awO_num hB,decide_eq_true l]
    exact⟨rfl,rfl⟩)
 have h2:cntp (fun _=>true) n=n:=by
  clear h1 hB
  induction n with
  |zero=>rfl
  |succ n ih=>rw[cntp,ih];rfl
 unfold sumG fxN
 omega
end Go.Proofs.YtbdbbdjifgpgeaaGreat
