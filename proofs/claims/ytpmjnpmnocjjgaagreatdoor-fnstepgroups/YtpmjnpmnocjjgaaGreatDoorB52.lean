/- Texts of a proof. -/
import Derived.Test.YtpmjnpmnocjjgaaGreatDoorB50
import Derived.Test.YtpmjnpmnocjjgaaGreatDoorB51
set_option maxHeartbeats 16000000
set_option maxRecDepth 20000
namespace Go.Proofs.YtpmjnpmnocjjgaaGreatDoor
open Go.RowKit
set_option linter.unusedVariables false
set_option linter.unusedSimpArgs false
def Rws (V W:Nat→Int):Prop:=∀ j,j<12→V j=W j
theorem sp_cong {V W:Nat→Int} (h:Rws V W):spX V=spX W∧spY V=spY W:=by
 unfold spX spY
 simp only[h 6 (by decide),h 7 (by decide),h 8 (by decide),and_self]
theorem close_cong {V1 V2 W1 W2:Nat→Int} (h1:Rws V1 W1) (h2:Rws V2 W2) (x y:Int):closeV V1 V2 x y=closeV W1 W2 x y:=by
 unfold closeV;rw[(sp_cong h1).1,(sp_cong h1).2,(sp_cong h2).1,(sp_cong h2).2]
theorem tog_cong {V1 V2 W1 W2:Nat→Int} (h1:Rws V1 W1) (h2:Rws V2 W2) (z:Int):togV V1 V2 z=togV W1 W2 z:=by
 unfold togV;simp only[h1 8 (by decide),h2 8 (by decide)]
theorem pu_cong {V1 V2 W1 W2:Nat→Int} (h1:Rws V1 W1) (h2:Rws V2 W2) (x y:Int) (bo:Bool):puX V1 V2 x y bo=puX W1 W2 x y bo∧puY V1 V2 x y bo=puY W1 W2 x y bo:=by
 unfold puX puY pA pM pP pN pD mxB mnR
 simp only[close_cong h1 h2,tog_cong h1 h2,(sp_cong h1).1,(sp_cong h1).2,(sp_cong h2).1,(sp_cong h2).2,h1 9 (by decide),h2 9 (by decide),h1 10 (by decide),h2 10 (by decide),and_self]
theorem fits_cong {V1 V2 W1 W2:Nat→Int} (h1:Rws V1 W1) (h2:Rws V2 W2) (p q:Int):fitsB V1 V2 p q=fitsB W1 W2 p q:=by
 unfold fitsB
 simp only[h1 6 (by decide),h1 7 (by decide),h1 8 (by decide),h2 6 (by decide),h2 7 (by decide),h2 8 (by decide)]
theorem pushV_cong {V W:Nat→Int} (h:Rws V W) (p q:Int):Rws (pushV V p q) (pushV W p q):=fun j hj=>by
 unfold pushV setV
 simp only[h 8 (by decide)]
 split
 · exact h j hj
 · simp only[h 6 (by decide),h 7 (by decide),h j hj]
theorem moveV_cg {V W:Nat→Int} (h:Rws V W) (p q:Int):Rws (moveV V p q) (moveV W p q):=fun j hj=>by
 unfold moveV mvX mvY setV
 simp only[h 4 (by decide),h 5 (by decide),h 6 (by decide),h 7 (by decide),h j hj]
theorem share_cong {V1 V2 W1 W2:Nat→Int} (h1:Rws V1 W1) (h2:Rws V2 W2) (z:Int):shareV V1 V2 z=shareV W1 W2 z:=by
 unfold shareV;simp only[h1 8 (by decide),h2 8 (by decide)]
theorem live_cong {V W:Nat→Int} (h:Rws V W):liveV V=liveV W:=by
 unfold liveV;simp only[h 8 (by decide),h 11 (by decide)]
theorem pullV_cg {V W:Nat→Int} (h:Rws V W) (g:Int):Rws (pullV g V) (pullV g W):=fun j hj=>by
 unfold pullV
 rw[live_cong h]
 cases liveV W with
 |false=>exact h j hj
 |true=>simp only[cond_true];unfold setV;simp only[h 7 (by decide),h 8 (by decide),h j hj]
theorem goV_cg {V W:Nat→Int} (h:Rws V W):Rws (goV V) (goV W):=fun j hj=>by
 unfold goV
 rw[live_cong h,(sp_cong h).1,(sp_cong h).2]
 cases liveV W with
 |false=>exact h j hj
 |true=>exact moveV_cg h _ _ j hj
theorem quietV_cg {V W:Nat→Int} (h:Rws V W) (r:Int):Rws (quietV r V) (quietV r W):=fun j hj=>by
 unfold quietV
 simp only[(sp_cong h).1,(sp_cong h).2,h 8 (by decide),h 11 (by decide)]
 cases (decide (W 8=0)||decide (8≤W 11)) with
 |true=>exact h j hj
 |false=>simp only[cond_false];unfold setV;simp only[h j hj]
theorem wakeV_cg {V W:Nat→Int} (h:Rws V W) (b:Bool):Rws (wakeV b V) (wakeV b W):=fun j hj=>by
 unfold wakeV
 simp only[h 11 (by decide)]
 cases (b&&decide (8≤W 11)) with
 |false=>exact h j hj
 |true=>simp only[cond_true];unfold setV;simp only[h j hj]
def Sel (s:List Nat) (X X':Nat→Int):Prop:=∀ a j,a<s.length→j<12→X' (a*12+j)=X (s.getD a 0*12+j)
theorem Sel.row {s:List Nat} {X X':Nat→Int} (h:Sel s X X') {a:Nat} (ha:a<s.length):Rws (fun j=>X' (a*12+j)) (fun j=>X (s.getD a 0*12+j)):=fun j hj=>h a j ha hj
def Inj (s:List Nat):Prop:=∀ a b,a<s.length→b<s.length→s.getD a 0=s.getD b 0→a=b
theorem one_sel {s:List Nat} (hi:Inj s) {X X':Nat→Int} (h:Sel s X X') {a b:Nat} (ha:a<s.length) (hb:b<s.length) (x y:Int) (bo:Bool):Sel s (oneU X (s.getD a 0) (s.getD b 0) x y bo) (oneU X' a b x y bo):=by
 have r1:=h.row ha
 have r2:=h.row hb
 unfold oneU
 rw[(pu_cong r1 r2 x y bo).1,(pu_cong r1 r2 x y bo).2,fits_cong r1 r2]
 generalize puX (fun j=>X (s.getD a 0*12+j)) (fun j=>X (s.getD b 0*12+j)) x y bo=p
 generalize puY (fun j=>X (s.getD a 0*12+j)) (fun j=>X (s.getD b 0*12+j)) x y bo=q
 cases ((p==0&&q==0)|| !fitsB (fun j=>X (s.getD a 0*12+j)) (fun j=>X (s.getD b 0*12+j)) p q) with
 |true=>exact h
 | false=>
   simp only[cond_false]
   intro c j hc hj
   by_cases eb:c=b
   · subst eb
     rw[putRow_is hj,putRow_is hj]
     exact pushV_cong r2 _ _ j hj
   · rw[putRow_else eb hj,putRow_else (fun e=>eb (hi c b hc hb e)) hj]
     by_cases ea:c=a
     · subst ea
       rw[putRow_is hj,putRow_is hj]
       exact pushV_cong r1 _ _ j hj
     · rw[putRow_else ea hj,putRow_else (fun e=>ea (hi c a hc ha e)) hj]
       exact h c j hc hj
theorem put_sel {s:List Nat} (hi:Inj s) {X X':Nat→Int} (h:Sel s X X') {a:Nat} (ha:a<s.length) {V V':Nat→Int} (hV:Rws V' V):Sel s (putRow X (s.getD a 0) V) (putRow X' a V'):=fun c j hc hj=>by
 by_cases e:c=a
 · subst e;rw[putRow_is hj,putRow_is hj];exact hV j hj
 · rw[putRow_else e hj,putRow_else (fun q=>e (hi c a hc ha q)) hj];exact h c j hc hj
theorem apart_sel {s:List Nat} (hi:Inj s) {X X':Nat→Int} (h:Sel s X X') {a b:Nat} (ha:a<s.length) (hb:b<s.length) (x y d:Int):Sel s (apartU X (s.getD a 0) (s.getD b 0) x y d) (apartU X' a b x y d):=by
 have r1:=h.row ha
 have r2:=h.row hb
 have ea:decide (0<X' (a*12+8))=decide (0<X (s.getD a 0*12+8)):=by rw[h a 8 ha (by decide)]
 have eb:decide (0<X' (b*12+8))=decide (0<X (s.getD b 0*12+8)):=by rw[h b 8 hb (by decide)]
 unfold apartU
 rw[ea,eb,share_cong r1 r2,share_cong r2 r1]
 cases decide (0<(d-64).tdiv 4) with
 |false=>exact h
 | true=>
   simp only[cond_true]
   cases decide (0<X (s.getD a 0*12+8))<;>cases decide (0<X (s.getD b 0*12+8))<;>simp only[cond_true,cond_false]
   · exact h
   · exact put_sel hi h hb (moveV_cg r2 _ _)
   · exact put_sel hi h ha (moveV_cg r1 _ _)
   · exact put_sel hi (put_sel hi h ha (moveV_cg r1 _ _)) hb (moveV_cg r2 _ _)
/- contacts as a list of fives -/
abbrev Tp:=Nat×Nat×Int×Int×Int
def flat:List Tp→List Int
 | []=>[]
 |t::l=>(t.1:Int)::(t.2.1:Int)::t.2.2.1::t.2.2.2.1::t.2.2.2.2::flat l
theorem flat_app:∀ a b:List Tp,flat (a++b)=flat a++flat b
 | [],b=>rfl
 |t::a,b=>by rw[List.cons_append,flat,flat_app a b];rfl
theorem flat_len:∀ l:List Tp,(flat l).length=l.length*5
 | []=>rfl
 |t::l=>by rw[flat];simp only[List.length_cons];rw[flat_len l];omega
theorem flat_at:∀ (l:List Tp) (k:Nat) (t:Tp),l[k]? =some t→ofL (flat l) (k*5)=(t.1:Int)∧ofL (flat l) (k*5+1)=(t.2.1:Int)∧ofL (flat l) (k*5+2)=t.2.2.1∧ofL (flat l) (k*5+3)=t.2.2.2.1∧ofL (flat l) (k*5+4)=t.2.2.2.2
 | [],k,t,h=>by simp at h
 | u::l,0,t,h=>by
   obtain rfl:u=t:=by simpa using h
   exact⟨rfl,rfl,rfl,rfl,rfl⟩
 | u::l,k+1,t,h=>by
   have ih:=flat_at l k t (by simpa using h)
   have e:∀ r,ofL (flat (u::l)) ((k+1)*5+r)=ofL (flat l) (k*5+r):=fun r=>by
    rw[flat,show (k+1)*5+r=(k*5+r)+1+1+1+1+1 by omega]
    unfold ofL
    simp only[List.getD_cons_succ]
   exact⟨(e 0).trans ih.1,(e 1).trans ih.2.1,(e 2).trans ih.2.2.1,(e 3).trans ih.2.2.2.1,(e 4).trans ih.2.2.2.2⟩
def oneT (bo:Bool) (X:Nat→Int) (t:Tp):Nat→Int:=oneU X t.1 t.2.1 t.2.2.1 t.2.2.2.1 bo
def apT (X:Nat→Int) (t:Tp):Nat→Int:=apartU X t.1 t.2.1 t.2.2.1 t.2.2.2.1 t.2.2.2.2
theorem take_one {l:List Tp} {k:Nat} (h:k<l.length):∃ t,l[k]? =some t∧l.take (k+1)=l.take k++[t]:=⟨l[k],List.getElem?_eq_getElem h,by rw[List.take_add_one,List.getElem?_eq_getElem h];rfl⟩
theorem rnd_fold (bo:Bool) (l:List Tp) (X:Nat→Int):∀ k,k≤l.length→rndN (ofL (flat l)) bo X k=(l.take k).foldl (oneT bo) X
 |0,_=>by rw[List.take_zero];rfl
 | k+1,h=>by
   obtain⟨t,ht,e⟩:=take_one (l:=l) (k:=k) (by omega)
   obtain⟨a,b,c,d,_⟩:=flat_at l k t ht
   rw[rndN,rnd_fold bo l X k (by omega),e,List.foldl_append,a,b,c,d,Int.toNat_natCast,Int.toNat_natCast]
   rfl
theorem ap_fold (l:List Tp) (X:Nat→Int):∀ k,k≤l.length→apartN (ofL (flat l)) X k=(l.take k).foldl apT X
 |0,_=>by rw[List.take_zero];rfl
 | k+1,h=>by
   obtain⟨t,ht,e⟩:=take_one (l:=l) (k:=k) (by omega)
   obtain⟨a,b,c,d,f⟩:=flat_at l k t ht
   rw[apartN,ap_fold l X k (by omega),e,List.foldl_append,a,b,c,d,f,Int.toNat_natCast,Int.toNat_natCast]
   rfl
def liveT (X:Nat→Int) (t:Tp):Bool:=liveV (rowU X (t.1:Int))||liveV (rowU X (t.2.1:Int))
theorem live_fold (X:Nat→Int) (l:List Tp):∀ k,k≤l.length→liveL X (ofL (flat l)) k=flat ((l.take k).filter (liveT X))
 |0,_=>by rw[List.take_zero];rfl
 | k+1,h=>by
   obtain⟨t,ht,e⟩:=take_one (l:=l) (k:=k) (by omega)
   obtain⟨a,b,c,d,f⟩:=flat_at l k t ht
   have hc:liveC X (ofL (flat l)) k=liveT X t:=by unfold liveC liveT;rw[a,b]
   rw[e,List.filter_append,flat_app,←live_fold X l k (by omega)]
   cases q:liveT X t with
   | true=>
     rw[liveL_yes (hc.trans q),a,b,c,d,f,List.filter_cons_of_pos q]
     rfl
   | false=>
     rw[liveL_no (hc.trans q),List.filter_cons_of_neg (by rw[q];decide)]
     exact(List.append_nil _).symm
def conOneT (C:Nat→Nat→Int) (i k:Nat):List Tp:=if conB C i k=true then [(i,k,(tcH C i k).1.1,(tcH C i k).1.2.1,(tcH C i k).1.2.2)] else []
def conInT (C:Nat→Nat→Int) (i:Nat):Nat→List Tp
 |0=>[]
 |k+1=>conInT C i k++conOneT C i k
def conOutT (C:Nat→Nat→Int) (n:Nat):Nat→List Tp
 |0=>[]
 |i+1=>conOutT C n i++conInT C i n
theorem flat_one (C:Nat→Nat→Int) (i k:Nat):flat (conOneT C i k)=conOne C i k:=by
 unfold conOneT conOne
 split<;>rfl
theorem flat_in (C:Nat→Nat→Int) (i:Nat):∀ k,flat (conInT C i k)=conIn C i k
 |0=>rfl
 |k+1=>by rw[conInT,conIn,flat_app,flat_in C i k,flat_one]
theorem flat_out (C:Nat→Nat→Int) (n:Nat):∀ i,flat (conOutT C n i)=conOut C n i
 |0=>rfl
 |i+1=>by rw[conOutT,conOut,flat_app,flat_out C n i,flat_in]
def conT (n:Nat) (U:Nat→Int):List Tp:=conOutT (colOf U) n n
theorem ct_flat (n:Nat) (U:Nat→Int):ctC n U=ofL (flat (conT n U))∧ctM n U=(conT n U).length:=by
 have e:conL (colOf U) n=flat (conT n U):=(flat_out (colOf U) n n).symm
 unfold ctC ctM
 rw[e,flat_len]
 exact⟨rfl,by omega⟩
def lvT (n:Nat) (U:Nat→Int):List Tp:=(conT n U).filter (liveT (wokeU n U))
theorem lv_flat (n:Nat) (U:Nat→Int):lvC n U=ofL (flat (lvT n U))∧lvM n U=(lvT n U).length:=by
 obtain⟨a,b⟩:=ct_flat n U
 unfold lvC lvM
 rw[a,b,live_fold _ _ _ (Nat.le_refl _),List.take_length,flat_len]
 exact⟨rfl,by unfold lvT;omega⟩
def OkT (n:Nat) (U:Nat→Int) (t:Tp):Prop:=(t.1<t.2.1∧t.2.1<n)∧conB (colOf U) t.1 t.2.1=true
theorem in_first {C:Nat→Nat→Int} {i:Nat}:∀ k t,t∈conInT C i k→t.1=i∧t.2.1<k∧conB C t.1 t.2.1=true
 |0,t,h=>by cases h
 | k+1,t,h=>by
   rw[conInT,List.mem_append] at h
   rcases h with h|h
   · obtain⟨a,b,c⟩:=in_first k t h;exact⟨a,by omega,c⟩
   · unfold conOneT at h
     split at h
     · rename_i hc
       obtain rfl:=List.mem_singleton.1 h
       exact⟨rfl,by show k<k+1;omega,hc⟩
     · cases h
theorem out_ok {n:Nat} {U:Nat→Int}:∀ i t,t∈conOutT (colOf U) n i→OkT n U t
 |0,t,h=>by cases h
 | i+1,t,h=>by
   rw[conOutT,List.mem_append] at h
   rcases h with h|h
   · exact out_ok i t h
   · obtain⟨a,b,c⟩:=in_first n t h
     exact⟨⟨conB_lt c,b⟩,c⟩
/- the contacts of a chosen part -/
def mapT (s:List Nat) (t:Tp):Tp:=(s.getD t.1 0,s.getD t.2.1 0,t.2.2)
theorem sel_pre (p:Nat→Bool):∀ n k,k≤n→∃ r,selL p n=selL p k++r
 | 0, k, h => by obtain rfl:k=0:=by omega
                 exact⟨[],by simp⟩
 | n+1,k,h=>by
   by_cases e:k=n+1
   · subst e;exact⟨[],by simp⟩
   · obtain⟨r,hr⟩:=sel_pre p n k (by omega)
     exact⟨r++(if p n=true then [n] else []),by rw[selL,hr,List.append_assoc]⟩
theorem sel_new {p:Nat→Bool} {n k:Nat} (hk:k<n) (hp:p k=true):(selL p k).length<(selL p n).length∧(selL p n).getD (selL p k).length 0=k:=by
 obtain⟨r,hr⟩:=sel_pre p n (k+1) hk
 rw[selL,if_pos hp] at hr
 rw[hr]
 have l:(selL p k).length<(selL p k++[k]).length:=by simp
 refine⟨by rw[List.length_append];omega,?_⟩
 rw[getD_app1 l,getD_app2]
theorem tcH_of {C C':Nat→Nat→Int} {i k i' k':Nat} (h1:∀ r,r<12→C r i=C' r i') (h2:∀ r,r<12→C r k=C' r k'):tcH C i k=tcH C' i' k':=by
 unfold tcH
 rw[h1 1 (by decide),h1 2 (by decide),h1 3 (by decide),h1 4 (by decide),h1 5 (by decide),h2 1 (by decide),h2 2 (by decide),h2 3 (by decide),h2 4 (by decide),h2 5 (by decide)]
def ppT (p:Nat→Bool) (t:Tp):Bool:=p t.1&&p t.2.1
theorem one_map {p:Nat→Bool} {n:Nat} {U U':Nat→Int} (hU:Sel (selL p n) U U') {a b:Nat} (ha:a<(selL p n).length) (hb:b<(selL p n).length):(conOneT (colOf U') a b).map (mapT (selL p n))=conOneT (colOf U) ((selL p n).getD a 0) ((selL p n).getD b 0):=by
 have h1:∀ r,r<12→colOf U' r a=colOf U r ((selL p n).getD a 0):=fun r hr=>hU a r ha hr
 have h2:∀ r,r<12→colOf U' r b=colOf U r ((selL p n).getD b 0):=fun r hr=>hU b r hb hr
 unfold conOneT
 rw[conB_of h1 h2 (selL_lt ha hb),tcH_of h1 h2]
 split<;>rfl
theorem in_map {p:Nat→Bool} {n:Nat} {U U':Nat→Int} (hU:Sel (selL p n) U U') {a:Nat} (ha:a<(selL p n).length):∀ k,k≤n→(conInT (colOf U') a (selL p k).length).map (mapT (selL p n))=(conInT (colOf U) ((selL p n).getD a 0) k).filter (ppT p)
 |0,_=>rfl
 | k+1,hk=>by
   have ih:=in_map hU ha k (by omega)
   have pa:=(selL_at ha).2
   rw[conInT,List.filter_append,←ih,selL]
   cases hp:p k with
   | true=>
     obtain⟨l,e⟩:=sel_new (p:=p) (n:=n) (by omega) hp
     rw[if_pos rfl,List.length_append,List.length_singleton,conInT,List.map_append,one_map hU ha l,e]
     congr 1
     symm
     rw[List.filter_eq_self]
     intro t ht
     unfold conOneT at ht
     split at ht
     · obtain rfl:=List.mem_singleton.1 ht
       show (p _&&p _)=true
       rw[pa,hp];rfl
     · cases ht
   | false=>
     have e:(conOneT (colOf U) ((selL p n).getD a 0) k).filter (ppT p)=[]:=by
      rw[List.filter_eq_nil_iff]
      intro t ht
      unfold conOneT at ht
      split at ht
      · obtain rfl:=List.mem_singleton.1 ht
        show ¬ (p _&&p _)=true
        rw[hp,Bool.and_false];decide
      · cases ht
     rw[if_neg (by decide),List.append_nil,e,List.append_nil]
theorem out_map {p:Nat→Bool} {n:Nat} {U U':Nat→Int} (hU:Sel (selL p n) U U'):∀ k,k≤n→(conOutT (colOf U') (selL p n).length (selL p k).length).map (mapT (selL p n))=(conOutT (colOf U) n k).filter (ppT p)
 |0,_=>rfl
 | k+1,hk=>by
   have ih:=out_map hU k (by omega)
   rw[conOutT,List.filter_append,←ih,selL]
   cases hp:p k with
   | true=>
     obtain⟨l,e⟩:=sel_new (p:=p) (n:=n) (by omega) hp
     rw[if_pos rfl,List.length_append,List.length_singleton,conOutT,List.map_append,in_map hU l n (Nat.le_refl _),e]
   | false=>
     have e:(conInT (colOf U) k n).filter (ppT p)=[]:=by
      rw[List.filter_eq_nil_iff]
      intro t ht
      show ¬ (p t.1&&p t.2.1)=true
      rw[(in_first n t ht).1,hp,Bool.false_and];exact Bool.false_ne_true
     rw[if_neg (by decide),List.append_nil,e,List.append_nil]
theorem fold_sel {s:List Nat} {pp ok:Tp→Bool} {Ok:Tp→Prop} {Inv:(Nat→Int)→Prop} {f:(Nat→Int)→Tp→Nat→Int}
 (hInv:∀ X t,Ok t→Inv X→Inv (f X t)) (hin:∀ X X' t,ok t=true→Ok (mapT s t)→Inv X→Sel s X X'→Sel s (f X (mapT s t)) (f X' t)) (hout:∀ X X' t,Ok t→pp t=false→Inv X→Sel s X X'→Sel s (f X t) X'):
 ∀ (T T':List Tp) (X X':Nat→Int),(∀ t,t∈T→Ok t)→(∀ t,t∈T'→ok t=true)→T'.map (mapT s)=T.filter pp→Inv X→Sel s X X'→Sel s (T.foldl f X) (T'.foldl f X')∧Inv (T.foldl f X)
 | [],T',X,X',_,_,h,hi,hs=>by
   obtain rfl:T'=[]:=by
    cases T' with
    |nil=>rfl
    |cons a l=>cases h
   exact⟨hs,hi⟩
 | t::T,T',X,X',hT,hT',h,hi,hs=>by
   have h1:=hT t (List.mem_cons_self ..)
   cases q:pp t with
   | false=>
     rw[List.filter_cons_of_neg (by rw[q];decide)] at h
     exact fold_sel hInv hin hout T T' (f X t) X' (fun u hu=>hT u (List.mem_cons_of_mem _ hu)) hT' h (hInv X t h1 hi) (hout X X' t h1 q hi hs)
   | true=>
     rw[List.filter_cons_of_pos q] at h
     cases T' with
     |nil=>cases h
     | cons t' T'=>
       rw[List.map_cons] at h
       obtain⟨e,h2⟩:=List.cons.inj h
       subst e
       exact fold_sel hInv hin hout T T' (f X (mapT s t')) (f X' t') (fun u hu=>hT u (List.mem_cons_of_mem _ hu)) (fun u hu=>hT' u (List.mem_cons_of_mem _ hu)) h2 (hInv X _ h1 hi) (hin X X' t' (hT' t' (List.mem_cons_self ..)) h1 hi hs)
def Mss (n:Nat) (U X:Nat→Int):Prop:=∀ i,i<n→X (i*12+8)=U (i*12+8)
theorem one_mss {n:Nat} {U X:Nat→Int} {t:Tp} (ht:OkT n U t) (h:Mss n U X) (bo:Bool):Mss n U (oneT bo X t):=fun i hi=>(one_keep (by have:=ht.1.1;omega) (by decide) _ _ _ (.inl (by decide))).trans (h i hi)
theorem ap_mss {n:Nat} {U X:Nat→Int} {t:Tp} (ht:OkT n U t) (h:Mss n U X):Mss n U (apT X t):=fun i hi=>(apart_keep (by decide) _ _ _ (by have:=ht.1.1;omega) (.inl (by unfold Fxd;decide))).trans (h i hi)
structure Part (n:Nat) (U:Nat→Int) (p:Nat→Bool):Prop where
 fx:∀ i,i<n→U (i*12+8)=0→p i=true
 gr:∀ t,OkT n U t→U (t.1*12+8)≠0→U (t.2.1*12+8)≠0→p t.1=p t.2.1
theorem Part.out {n:Nat} {U X:Nat→Int} {p:Nat→Bool} (h:Part n U p) (hm:Mss n U X) {t:Tp} (ht:OkT n U t) (q:ppT p t=false) {i:Nat} (hi:i<n) (hp:p i=true) (e:i=t.1∨i=t.2.1):X (i*12+8)=0:=by
 have h2:=ht.1.2
 have h1:t.1<n:=by have:=ht.1.1;omega
 rw[hm i hi]
 by_cases m:U (i*12+8)=0
 · exact m
 · exfalso
   unfold ppT at q
   rcases e with rfl|rfl
   · rw[hp,Bool.true_and] at q
     have m2:U (t.2.1*12+8)≠0:=fun z=>by rw[h.fx _ h2 z] at q;cases q
     rw[←h.gr t ht m m2,hp] at q;cases q
   · rw[hp,Bool.and_true] at q
     have m1:U (t.1*12+8)≠0:=fun z=>by rw[h.fx _ h1 z] at q;cases q
     rw[h.gr t ht m1 m,hp] at q;cases q
theorem sel_inj (p:Nat→Bool) (n:Nat):Inj (selL p n):=fun a b ha hb e=>selL_inj ha hb e
def okI (m:Nat) (t:Tp):Bool:=decide (t.1<m)&&decide (t.2.1<m)
theorem one_fold {n:Nat} {U:Nat→Int} {p:Nat→Bool} (h:Part n U p) (bo:Bool) (T T':List Tp) (X X':Nat→Int) (hT:∀ t,t∈T→OkT n U t) (hT':∀ t,t∈T'→okI (selL p n).length t=true) (e:T'.map (mapT (selL p n))=T.filter (ppT p)) (hm:Mss n U X) (hs:Sel (selL p n) X X'):
 Sel (selL p n) (T.foldl (oneT bo) X) (T'.foldl (oneT bo) X')∧Mss n U (T.foldl (oneT bo) X):=
 fold_sel (pp:=ppT p) (Ok:=OkT n U) (Inv:=Mss n U) (ok:=okI (selL p n).length) (fun X t ht hx=>one_mss ht hx bo) (fun X X' t hk _ _ hs=>by
  unfold okI at hk
  simp only[Bool.and_eq_true,decide_eq_true_eq] at hk
  exact one_sel (sel_inj p n) hs hk.1 hk.2 _ _ bo) (fun X X' t ht q hx hs a j ha hj=>by
  have hl:=selL_at ha
  rw[hs a j ha hj]
  symm
  by_cases e:(selL p n).getD a 0=t.1∨(selL p n).getD a 0=t.2.1
  · exact one_keep (by have:=ht.1.1;omega) hj _ _ bo (.inr (h.out hx ht q hl.1 hl.2 e))
  · exact one_far (fun z=>e (.inl z)) (fun z=>e (.inr z)) hj _ _ bo) T T' X X' hT hT' e hm hs
theorem ap_folds {n:Nat} {U:Nat→Int} {p:Nat→Bool} (h:Part n U p) (T T':List Tp) (X X':Nat→Int) (hT:∀ t,t∈T→OkT n U t) (hT':∀ t,t∈T'→okI (selL p n).length t=true) (e:T'.map (mapT (selL p n))=T.filter (ppT p)) (hm:Mss n U X) (hs:Sel (selL p n) X X'):
 Sel (selL p n) (T.foldl apT X) (T'.foldl apT X')∧Mss n U (T.foldl apT X):=
 fold_sel (pp:=ppT p) (Ok:=OkT n U) (Inv:=Mss n U) (ok:=okI (selL p n).length) (fun X t ht hx=>ap_mss ht hx) (fun X X' t hk _ _ hs=>by
  unfold okI at hk
  simp only[Bool.and_eq_true,decide_eq_true_eq] at hk
  exact apart_sel (sel_inj p n) hs hk.1 hk.2 _ _ _) (fun X X' t ht q hx hs a j ha hj=>by
  have hl:=selL_at ha
  rw[hs a j ha hj]
  symm
  by_cases e:(selL p n).getD a 0=t.1∨(selL p n).getD a 0=t.2.1
  · exact apart_keep hj _ _ _ (by have:=ht.1.1;omega) (.inr (h.out hx ht q hl.1 hl.2 e))
  · exact apart_far (fun z=>e (.inl z)) (fun z=>e (.inr z)) hj _ _ _) T T' X X' hT hT' e hm hs
theorem all_fold {n:Nat} {U:Nat→Int} {p:Nat→Bool} (h:Part n U p) (T T':List Tp) (X X':Nat→Int) (hT:∀ t,t∈T→OkT n U t) (hT':∀ t,t∈T'→okI (selL p n).length t=true) (e:T'.map (mapT (selL p n))=T.filter (ppT p)) (hm:Mss n U X) (hs:Sel (selL p n) X X'):
 ∀ r,Sel (selL p n) (allN (ofL (flat T)) X T.length r) (allN (ofL (flat T')) X' T'.length r)∧Mss n U (allN (ofL (flat T)) X T.length r)
 |0=>⟨hs,hm⟩
 | r+1=>by
   obtain⟨a,b⟩:=all_fold h T T' X X' hT hT' e hm hs r
   rw[allN,allN,rnd_fold _ _ _ _ (Nat.le_refl _),rnd_fold _ _ _ _ (Nat.le_refl _),List.take_length,List.take_length]
   exact one_fold h _ T T' _ _ hT hT' e b a
theorem map_sel {s:List Nat} {n:Nat} {f f':Nat→(Nat→Int)→Nat→Int} {X X':Nat→Int} (hn:∀ a,a<s.length→s.getD a 0<n) (hs:Sel s X X') (hf:∀ a,a<s.length→Rws (f' a (fun j=>X' (a*12+j))) (f (s.getD a 0) (fun j=>X (s.getD a 0*12+j)))):Sel s (mapR f X n) (mapR f' X' s.length):=fun a j ha hj=>by
 rw[mapR_in ha hj,mapR_in (hn a ha) hj]
 exact hf a ha j hj
theorem sleepN_row {G:Nat→Int} {A:Nat→Bool} {n i k j:Nat} {X:Nat→Int} (hi:i<n) (hj:j<12) (e:G i=(k:Int)):∀ N,k<N→sleepN G A n X N (i*12+j)=(bif A k&&allQ G X k n then slV (fun j=>X (i*12+j)) else fun j=>X (i*12+j)) j
 |0,h=>absurd h (Nat.not_lt_zero _)
 | N+1,h=>by
   by_cases c:k=N
   · subst c
     have hk:∀ i j,i<n→j<12→G i=(k:Int)→sleepN G A n X k (i*12+j)=X (i*12+j):=fun i j hi hj q=>sleepN_keep hi hj k (.inr fun g hg=> .inl (by omega))
     have hq:allQ G (sleepN G A n X k) k n=allQ G X k n:=allQ_congr (fun i hi q=>hk i 11 hi (by decide) q) n (Nat.le_refl _)
     rw[sleepN]
     unfold sleepS
     rw[hq]
     cases A k&&allQ G X k n with
     |false=>exact hk i j hi hj e
     | true=>
       simp only[cond_true]
       rw[mapR_in hi hj]
       unfold slF
       rw[decide_eq_true e]
       simp only[cond_true]
       unfold slV
       split
       · rfl
       · split
         · rfl
         · split
           · rfl
           · exact hk i j hi hj e
   · rw[sleepN,sleepS_keep hi hj (.inr (.inl (by omega)))]
     exact sleepN_row hi hj e N (by omega)
theorem allQ_t {G X:Nat→Int} {g:Nat}:∀ {n:Nat},(allQ G X g n=true↔∀ i,i<n→G i=(g:Int)→7≤X (i*12+11))
 |0=>⟨fun _ i hi=>absurd hi (Nat.not_lt_zero _),fun _=>rfl⟩
 | n+1=>by
   rw[allQ,Bool.and_eq_true,allQ_t (n:=n),Bool.or_eq_true,Bool.not_eq_true',decide_eq_false_iff_not,decide_eq_true_eq]
   constructor
   · rintro⟨a,b⟩ i hi e
     rcases Nat.lt_succ_iff_lt_or_eq.1 hi with l|rfl
     · exact a i l e
     · rcases b with b|b
       · exact absurd e b
       · exact b
   · intro h
     refine⟨fun i hi e=>h i (by omega) e,?_⟩
     by_cases e:G n=(g:Int)
     · exact .inr (h n (by omega) e)
     · exact .inl e
theorem anyB_iff {q:Nat→Bool}:∀ {n:Nat},(anyB q n=true↔∃ j,j<n∧q j=true)
 |0=>⟨fun h=>(by cases h),fun ⟨j,hj,_⟩=>absurd hj (Nat.not_lt_zero _)⟩
 | n+1=>by
   rw[anyB,Bool.or_eq_true,anyB_iff (n:=n)]
   constructor
   · rintro(⟨j,hj,h⟩|h)
     · exact⟨j,by omega,h⟩
     · exact⟨n,by omega,h⟩
   · rintro⟨j,hj,h⟩
     rcases Nat.lt_succ_iff_lt_or_eq.1 hj with l|rfl
     · exact .inl ⟨j,l,h⟩
     · exact .inr h
theorem bool_iff {a b:Bool} (h:a=true↔b=true):a=b:=by cases a<;>cases b<;>simp_all
theorem lv_map {p:Nat→Bool} {n:Nat} {U U':Nat→Int} (hU:Sel (selL p n) U U') (hw:Sel (selL p n) (wokeU n U) (wokeU (selL p n).length U')):(lvT (selL p n).length U').map (mapT (selL p n))=(lvT n U).filter (ppT p):=by
 have h0:=out_map hU n (Nat.le_refl n)
 unfold lvT
 have e1:∀ t,t∈conT (selL p n).length U'→liveT (wokeU (selL p n).length U') t=liveT (wokeU n U) (mapT (selL p n) t):=fun t ht=>by
  have o:=out_ok _ t ht
  unfold liveT mapT
  have r1:Rws (rowU (wokeU (selL p n).length U') (t.1:Int)) (rowU (wokeU n U) (((selL p n).getD t.1 0:Nat):Int)):=fun j hj=>by
   show wokeU (selL p n).length U' ((t.1:Int).toNat*12+j)=wokeU n U ((((selL p n).getD t.1 0:Nat):Int).toNat*12+j)
   rw[Int.toNat_natCast,Int.toNat_natCast]
   exact hw _ _ (by have:=o.1.1;have:=o.1.2;omega) hj
  have r2:Rws (rowU (wokeU (selL p n).length U') (t.2.1:Int)) (rowU (wokeU n U) (((selL p n).getD t.2.1 0:Nat):Int)):=fun j hj=>by
   show wokeU (selL p n).length U' ((t.2.1:Int).toNat*12+j)=wokeU n U ((((selL p n).getD t.2.1 0:Nat):Int).toNat*12+j)
   rw[Int.toNat_natCast,Int.toNat_natCast]
   exact hw _ _ o.1.2 hj
  rw[live_cong r1,live_cong r2]
 rw[List.filter_congr e1,show (fun t=>liveT (wokeU n U) (mapT (selL p n) t))=(liveT (wokeU n U))∘mapT (selL p n) from rfl,←List.filter_map]
 show List.filter _ ((conOutT (colOf U') (selL p n).length (selL p n).length).map _)=_
 rw[h0,List.filter_filter,List.filter_filter]
 exact List.filter_congr fun t _=>Bool.and_comm _ _
theorem part_zero {n:Nat} {U U':Nat→Int} {q:Int} {s:List Nat} (hB:bodsB n U=true) (h0:0≤q) (hq:q<((awO n U).length:Int)) (hs:s=selL (gofP (fxU U) (lab (edg U (ofL (conL (colOf U) n))) (conN n U)) q) n) (hU:Sel s U U'):
 bodsB s.length U'=true∧(awO s.length U').length=1∧∀ a,a<s.length→U' (a*12+8)≠0→gpG s.length U' a=0:=by
 have hn12:=bods_n hB
 have hB':bodsB s.length U'=true:=by
  subst hs
  exact(part_bods (Bods.of hB) _ hU).to
 have hm12:=bods_n hB'
 have hone:=part_one (conN_eq U hn12).1 hs (conN_eq U' hm12).1 hU
 have hT':=lab_tops U' (ofL (conL (colOf U') s.length)) (conN s.length U')
 rw[awO_num hB] at hq
 have hq2:q.toNat<cntp (fstB (fxU U) (lab (edg U (ofL (conL (colOf U) n))) (conN n U))) n:=by omega
 obtain⟨i,hi,hf,hc⟩:=cntp_find hq2
 have hf':=hf
 unfold fstB at hf'
 simp only[Bool.and_eq_true,Bool.not_eq_true',decide_eq_true_eq] at hf'
 obtain⟨a0,ha0,e0⟩:∃ a,a<s.length∧s.getD a 0=i:=by
  subst hs
  refine selL_ex hi ?_
  unfold gofP gnum
  rw[hf'.1,hf'.2,hc,decide_eq_true (show (if false=true then (-1:Int) else (q.toNat:Int))=q by simp;omega),Bool.or_true]
 have f0:fxU U' a0=false:=by unfold fxU;rw[hU a0 8 ha0 (by decide),e0];exact hf'.1
 obtain⟨t,et⟩:∃ t,lab (edg U' (ofL (conL (colOf U') s.length))) (conN s.length U') a0=t:=⟨_,rfl⟩
 have htf:fstB (fxU U') (lab (edg U' (ofL (conL (colOf U') s.length))) (conN s.length U')) t=true:=by rw[←et];exact hT'.fst f0
 have htl:t≤a0:=by rw[←et];exact hT'.le a0
 have hu:∀ j,j<s.length→fstB (fxU U') (lab (edg U' (ofL (conL (colOf U') s.length))) (conN s.length U')) j=true→j=t:=fun j hj h=>by
  unfold fstB at h
  simp only[Bool.and_eq_true,Bool.not_eq_true',decide_eq_true_eq] at h
  have:=hone j a0 hj ha0 h.1 f0
  omega
 refine⟨hB',by rw[awO_num hB'];exact cntp_uniq htf (by omega) hu,fun j hj hm=> ?_⟩
 have fj:fxU U' j=false:=decide_eq_false hm
 have e:gnum (fxU U') (lab (edg U' (ofL (conL (colOf U') s.length))) (conN s.length U')) j=0:=by
  unfold gnum
  rw[fj,hone j a0 hj ha0 fj f0,et,cntp_zero (fun x hx=>by
   cases e:fstB (fxU U') (lab (edg U' (ofL (conL (colOf U') s.length))) (conN s.length U')) x with
   |false=>rfl
   |true=>have:=hu x (by omega) e;omega)]
  rfl
 rw[gp_num s.length U' j hj]
 exact e
theorem part_of {n:Nat} {U:Nat→Int} (hB:bodsB n U=true) (q:Int):Part n U (gofP (fxU U) (lab (edg U (ofL (conL (colOf U) n))) (conN n U)) q):=by
 refine⟨fun i hi h=> ?_,fun t ht h1 h2=> ?_⟩
 · unfold gofP fxU
   rw[decide_eq_true h,Bool.true_or]
 · obtain⟨x,hx,he⟩:=edge_has (conN_eq U (bods_n hB)).1 (by have:=ht.1.1;have:=ht.1.2;omega) ht.1.2 ht.2 (decide_eq_false h1) (decide_eq_false h2)
   have l:=lab_edge _ (conN n U) x _ _ hx he
   have f1:fxU U t.1=false:=decide_eq_false h1
   have f2:fxU U t.2.1=false:=decide_eq_false h2
   unfold gofP gnum
   rw[f1,f2,l]
theorem slV_cg {V W:Nat→Int} (h:Rws V W):Rws (slV V) (slV W):=fun j hj=>by
 unfold slV
 simp only[h j hj]
theorem step_part {n:Nat} {U U':Nat→Int} {q g:Int} {p:Nat→Bool} (hB:bodsB n U=true) (h0:0≤q) (hq:q<((awO n U).length:Int)) (hp:p=gofP (fxU U) (lab (edg U (ofL (conL (colOf U) n))) (conN n U)) q) (hU:Sel (selL p n) U U'):
 Sel (selL p n) (stepU n U g) (stepU (selL p n).length U' g):=by
 obtain⟨hB',hA1,hG'⟩:=part_zero hB h0 hq (s:=selL p n) (by rw[hp]) hU
 have hPt:Part n U p:=by rw[hp];exact part_of hB q
 have hn:∀ a,a<(selL p n).length→(selL p n).getD a 0<n:=fun a ha=>(selL_at ha).1
 have hAN:awN (selL p n).length U'=1:=by rw[awO_y hB'] at hA1;exact hA1
 have hAQ:q<(awN n U:Int):=by rw[awO_y hB] at hq;exact hq
 have m8:∀ a,a<(selL p n).length→U' (a*12+8)=U ((selL p n).getD a 0*12+8):=fun a ha=>hU a 8 ha (by decide)
 -- of the part's bodies that can move all are of the group
 have hG:∀ a,a<(selL p n).length→U' (a*12+8)≠0→gpG n U ((selL p n).getD a 0)=q:=fun a ha hm=>by
  have f:fxU U ((selL p n).getD a 0)=false:=decide_eq_false (by rw[←m8 a ha];exact hm)
  have h:=(selL_at ha).2
  rw[hp] at h
  rw[gp_num n U _ (hn a ha)]
  rw[hp] at f ⊢
  exact gofP_in f h
 have hin:∀ i,i<n→gpG n U i=q→∃ a,a<(selL p n).length∧(selL p n).getD a 0=i:=fun i hi e=>by
  refine selL_ex hi ?_
  rw[gp_num n U i hi] at e
  have e':gnum (fxU U) (lab (edg U (ofL (conL (colOf U) n))) (conN n U)) i=q:=e
  rw[hp]
  unfold gofP
  rw[decide_eq_true e',Bool.or_true]
 have hneg:∀ a,a<(selL p n).length→U' (a*12+8)=0→gpG (selL p n).length U' a<0:=fun a ha e=>by
  have:=(gp_lt (selL p n).length U' a ha).2.2
  by_cases h:0≤gpG (selL p n).length U' a
  · exact absurd e (this h)
  · omega
 have hneg2:∀ a,a<(selL p n).length→U' (a*12+8)=0→gpG n U ((selL p n).getD a 0)<0:=fun a ha e=>by
  have:=(gp_lt n U _ (hn a ha)).2.2
  by_cases h:0≤gpG n U ((selL p n).getD a 0)
  · exact absurd ((m8 a ha).symm.trans e) (this h)
  · omega
 have hmv:∀ a,a<(selL p n).length→gpG n U ((selL p n).getD a 0)=q→U' (a*12+8)≠0:=fun a ha e z=>by have:=hneg2 a ha z;omega
 have hmv':∀ a,a<(selL p n).length→gpG (selL p n).length U' a=0→U' (a*12+8)≠0:=fun a ha e z=>by have:=hneg a ha z;omega
 -- awake alike
 have hA:awA (selL p n).length U' 0=awA n U q.toNat:=by
  rw[awA_any (selL p n).length U' 0 (by omega),awA_any n U q.toNat (by omega)]
  refine bool_iff ?_
  rw[anyB_iff,anyB_iff]
  constructor
  · rintro⟨a,ha,h⟩
    rw[Bool.and_eq_true,decide_eq_true_eq] at h
    refine⟨(selL p n).getD a 0,hn a ha,?_⟩
    rw[decide_eq_true (show gpG n U ((selL p n).getD a 0)=((q.toNat:Nat):Int) by rw[hG a ha (hmv' a ha (by simpa using h.1))];omega),Bool.true_and]
    have r:=h.2
    unfold slG at r ⊢
    rw[hU a 11 ha (by decide)] at r
    exact r
  · rintro⟨i,hi,h⟩
    rw[Bool.and_eq_true,decide_eq_true_eq] at h
    have e:gpG n U i=q:=by have:=h.1;omega
    obtain⟨a,ha,rfl⟩:=hin i hi e
    refine⟨a,ha,?_⟩
    rw[decide_eq_true (show gpG (selL p n).length U' a=((0:Nat):Int) from hG' a ha (hmv a ha e)),Bool.true_and]
    have r:=h.2
    unfold slG at r ⊢
    rw[hU a 11 ha (by decide)]
    exact r
 have hw:Sel (selL p n) (wokeU n U) (wokeU (selL p n).length U'):=fun a j ha hj=>by
  have e:awK (gpG (selL p n).length U') (awA (selL p n).length U') a=awK (gpG n U) (awA n U) ((selL p n).getD a 0):=by
   unfold awK
   by_cases z:U' (a*12+8)=0
   · have n1:=hneg a ha z
     have n2:=hneg2 a ha z
     rw[decide_eq_false (show ¬ 0≤gpG (selL p n).length U' a by omega),decide_eq_false (show ¬ 0≤gpG n U ((selL p n).getD a 0) by omega)]
     rfl
   · rw[hG' a ha z,hG a ha z,decide_eq_true h0,←hA]
     rfl
  rw[woke_at ha hj,woke_at (hn a ha) hj,e]
  exact wakeV_cg (hU.row ha) _ j hj
 have hL:=lv_map hU hw
 have hT:∀ t,t∈lvT n U→OkT n U t:=fun t ht=>out_ok _ t (List.mem_filter.1 ht).1
 have hT':∀ t,t∈lvT (selL p n).length U'→okI (selL p n).length t=true:=fun t ht=>by
  have o:=out_ok _ t (List.mem_filter.1 ht).1
  unfold okI
  rw[decide_eq_true (show t.1<(selL p n).length by have:=o.1.1;have:=o.1.2;omega),decide_eq_true o.1.2]
  rfl
 have k1:Mss n U (wokeU n U):=fun i hi=>by rw[woke_at hi (by decide)];exact wakeV_keep _ _ (.inl (by decide))
 have k2:Mss n U (mapR (fun _ V=>pullV g V) (wokeU n U) n):=fun i hi=>by rw[mapR_in hi (by decide)];exact(pullV_keep g _ (.inl (by decide))).trans (k1 i hi)
 have s2:Sel (selL p n) (mapR (fun _ V=>pullV g V) (wokeU n U) n) (mapR (fun _ V=>pullV g V) (wokeU (selL p n).length U') (selL p n).length):=map_sel hn hw fun a ha=>pullV_cg (hw.row ha) g
 obtain⟨c1,c2⟩:=lv_flat n U
 obtain⟨d1,d2⟩:=lv_flat (selL p n).length U'
 have s3:Sel (selL p n) (pushU n U g) (pushU (selL p n).length U' g)∧Mss n U (pushU n U g):=by
  unfold pushU
  rw[c1,c2,d1,d2]
  exact all_fold hPt _ _ _ _ hT hT' hL k2 s2 4
 have k4:Mss n U (mapR (fun _ V=>goV V) (pushU n U g) n):=fun i hi=>by rw[mapR_in hi (by decide)];exact(goV_keep _ (.inl (by decide))).trans (s3.2 i hi)
 have s4:Sel (selL p n) (mapR (fun _ V=>goV V) (pushU n U g) n) (mapR (fun _ V=>goV V) (pushU (selL p n).length U' g) (selL p n).length):=map_sel hn s3.1 fun a ha=>goV_cg (s3.1.row ha)
 have s5:Sel (selL p n) (goneU n U g) (goneU (selL p n).length U' g):=by
  unfold goneU
  rw[c1,c2,d1,d2,ap_fold _ _ _ (Nat.le_refl _),ap_fold _ _ _ (Nat.le_refl _),List.take_length,List.take_length]
  exact(ap_folds hPt _ _ _ _ hT hT' hL k4 s4).1
 have s6:Sel (selL p n) (mapR (fun i V=>quietV (wokeU n U (i*12+11)) V) (goneU n U g) n) (mapR (fun i V=>quietV (wokeU (selL p n).length U' (i*12+11)) V) (goneU (selL p n).length U' g) (selL p n).length):=map_sel hn s5 fun a ha=>by
  rw[hw a 11 ha (by decide)]
  exact quietV_cg (s5.row ha) _
 intro a j ha hj
 rw[stepU_eq,stepU_eq]
 obtain⟨X,eX⟩:∃ X,mapR (fun i V=>quietV (wokeU n U (i*12+11)) V) (goneU n U g) n=X:=⟨_,rfl⟩
 obtain⟨X',eX'⟩:∃ X,mapR (fun i V=>quietV (wokeU (selL p n).length U' (i*12+11)) V) (goneU (selL p n).length U' g) (selL p n).length=X:=⟨_,rfl⟩
 rw[eX,eX'] at s6
 rw[eX,eX']
 by_cases z:U' (a*12+8)=0
 · have n1:=hneg a ha z
   have n2:=hneg2 a ha z
   rw[sleepN_keep ha hj _ (.inr fun x _=> .inl (by omega)),sleepN_keep (hn a ha) hj _ (.inr fun x _=> .inl (by omega))]
   exact s6 a j ha hj
 · rw[sleepN_row ha hj (show gpG (selL p n).length U' a=((0:Nat):Int) from hG' a ha z) _ (by omega),sleepN_row (hn a ha) hj (show gpG n U ((selL p n).getD a 0)=((q.toNat:Nat):Int) by rw[hG a ha z];omega) _ (by omega),hA]
   have hQ:allQ (gpG (selL p n).length U') X' 0 (selL p n).length=allQ (gpG n U) X q.toNat n:=by
    refine bool_iff ?_
    rw[allQ_t,allQ_t]
    constructor
    · intro h i hi e
      have e':gpG n U i=q:=by omega
      obtain⟨c,hc,rfl⟩:=hin i hi e'
      rw[←s6 c 11 hc (by decide)]
      exact h c hc (hG' c hc (hmv c hc e'))
    · intro h c hc e
      rw[s6 c 11 hc (by decide)]
      exact h _ (hn c hc) (by rw[hG c hc (hmv' c hc (by simpa using e))];omega)
   rw[hQ]
   cases awA n U q.toNat&&allQ (gpG n U) X q.toNat n with
   |true=>exact slV_cg (s6.row ha) j hj
   |false=>exact s6 a j ha hj
theorem step_gof {n:Nat} {U:Nat→Int} {q g:Int} (hB:bodsB n U=true) (h0:0≤q) (hq:q<((awO n U).length:Int)):
 ∀ a,a<(gofS n U q).length→(gofS n U q).getD a 0<n∧∀ j,j<12→stepU (gofS n U q).length (ofL (rsL U (gofS n U q))) g (a*12+j)=stepU n U g ((gofS n U q).getD a 0*12+j):=by
 rw[gofS_y hB h0]
 intro a ha
 exact⟨(selL_at ha).1,fun j hj=>step_part hB h0 hq rfl (fun c r hc hr=>rsL_at U _ hc hr) a j ha hj⟩
end Go.Proofs.YtpmjnpmnocjjgaaGreatDoor
