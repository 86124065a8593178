/- Texts of a proof. -/
import Derived.Test.YtcalhcfinkhemaaGreatDoorB39
import Derived.Test.YtcalhcfinkhemaaGreatDoorB24
import Derived.Test.YtcalhcfinkhemaaGreatDoorB19
import Derived.Test.YtcalhcfinkhemaaGreatDoorB29
import Derived.Test.YtcalhcfinkhemaaGreatDoorCon
import Derived.Test.YtcalhcfinkhemaaGreatDoorB38
set_option maxHeartbeats 16000000
set_option maxRecDepth 20000
namespace Go.Proofs.YtcalhcfinkhemaaGreatDoor
open Go.RowKit
set_option linter.unusedVariables false
set_option linter.unusedSimpArgs false
def memG (G:Nat→Int) (n t:Nat):List Nat:=(List.range n).filter fun j=>decide (G j=(t:Int))
theorem memG_mem {G:Nat→Int} {n t j:Nat}:j∈memG G n t↔j<n∧G j=(t:Int):=by unfold memG;rw[List.mem_filter,List.mem_range,decide_eq_true_iff]
theorem memG_len (G:Nat→Int) (n t:Nat):(memG G n t).length≤n:=Nat.le_trans (List.length_filter_le _ _) (by rw[List.length_range];exact Nat.le_refl _)
def AwL (w:World) (base cb:Nat) (v:Value) (G:Nat→Int) (n:Nat) (gs:List Nat):Prop:=
 ∃ a c,v= .slice a gs.length c∧∀ q (h:q<gs.length),∃ b o vq,a=some ⟨b,o,none⟩∧base≤b∧b<w.heap.size∧w.cell? ⟨b,o+q,none⟩=some vq∧HL w base cb vq (memG G n gs[q])
theorem AwL.fr {w w':World} {base cb n:Nat} {v:Value} {G:Nat→Int} {gs:List Nat} {X:Nat→Prop} (h:AwL w base cb v G n gs) (hF:Fr X w w') (hX:∀ b,base≤b→b<w.heap.size→¬ X b):AwL w' base cb v G n gs:=by
 obtain⟨a,c,e,hq⟩:=h
 refine⟨a,c,e,fun q h=> ?_⟩
 obtain⟨b,o,vq,e1,h1,h2,h3,h4⟩:=hq q h
 exact⟨b,o,vq,e1,h1,Nat.lt_of_lt_of_le h2 hF.size,(hF.cell (p:=⟨b,o+q,none⟩) h2 (hX b h1 h2)).trans h3,h4.frame hF fun b' e'=>hX b' (h4.lt b' e').1 (h4.lt b' e').2⟩
def wkU (P:Nat→Bool) (n:Nat) (U:Nat→Int):Nat→Int:=mapR (fun i V=>wakeV (P i) V) U n
theorem wkU_row {P:Nat→Bool} {n:Nat} {U:Nat→Int} {j:Nat} (hj:j<n):∀ i,i<12→colOf (wkU P n U) i j=wakeV (P j) (fun i=>U (j*12+i)) i:=fun i hi=>by unfold colOf wkU;rw[mapR_in hj hi]
theorem wkU_congr {P P':Nat→Bool} {n:Nat} {U:Nat→Int} (h:∀ j,j<n→P j=P' j):∀ i j,i<12→j<n→colOf (wkU P n U) i j=colOf (wkU P' n U) i j:=fun i j hi hj=>by rw[wkU_row hj i hi,wkU_row hj i hi,h j hj]
theorem wkU_set {P P':Nat→Bool} {n:Nat} {U:Nat→Int} {j:Nat} (hb:BOk (fun i=>U (j*12+i))) (hj:j<n) (hs:colOf (wkU P n U) 11 j=8) (hP:∀ k,k<n→P' k=(P k||decide (k=j))):∀ i k,i<12→k<n→setC (colOf (wkU P n U)) 11 j 0 i k=colOf (wkU P' n U) i k:=fun i k hi hk=>by
 rw[wkU_row hj 11 (by omega)] at hs
 have hPj:P j=false:=by
  cases e:P j with
  |false=>rfl
  | true=>
    rw[e] at hs
    unfold wakeV at hs
    cases e2:decide (8≤U (j*12+11)) with
    |true=>simp only[e2,Bool.true_and,cond_true] at hs;simp[setV] at hs
    | false=>
      simp only[e2,Bool.true_and,cond_false] at hs
      have:=of_decide_eq_false e2
      omega
 rw[hPj] at hs
 have hs':U (j*12+11)=8:=hs
 rw[wkU_row hk i hi,hP k hk]
 unfold setC
 by_cases e:k=j
 · subst e
   rw[hPj,decide_eq_true rfl,Bool.false_or]
   unfold wakeV
   rw[decide_eq_true (by show (8:Int)≤U (k*12+11);omega)]
   by_cases ei:i=11
   · subst ei;simp[setV]
   · simp[setV,ei]
     rw[wkU_row hk i hi,hPj]
     rfl
 · rw[if_neg (fun q=>e q.2),wkU_row hk i hi,decide_eq_false e,Bool.or_false]
theorem wkU_no {P P':Nat→Bool} {n:Nat} {U:Nat→Int} {j:Nat} (hb:BOk (fun i=>U (j*12+i))) (hj:j<n) (hs:¬ colOf (wkU P n U) 11 j=8) (hP:∀ k,k<n→P' k=(P k||decide (k=j))):∀ i k,i<12→k<n→colOf (wkU P n U) i k=colOf (wkU P' n U) i k:=fun i k hi hk=>by
 rw[wkU_row hj 11 (by omega)] at hs
 rw[wkU_row hk i hi,wkU_row hk i hi,hP k hk]
 by_cases e:k=j
 · subst e
   rw[decide_eq_true rfl,Bool.or_true]
   cases e:P k with
   |true=>rfl
   | false=>
     rw[e] at hs
     have hs':¬ U (k*12+11)=8:=hs
     have:0≤U (k*12+11)∧U (k*12+11)≤8:=hb.q11
     unfold wakeV
     rw[decide_eq_false (by show ¬ (8:Int)≤U (k*12+11);omega)]
     rfl
 · rw[decide_eq_false e,Bool.or_false]
def slpL (G:Nat→Int) (n:Nat) (U:Nat→Int) (gs:List Nat):Nat→Int:=gs.foldl (fun V g=>sleepS G (fun _=>true) n g V) U
theorem slp_take {G U:Nat→Int} {n q:Nat} {gs:List Nat} (h:q<gs.length):slpL G n U (gs.take (q+1))=sleepS G (fun _=>true) n gs[q] (slpL G n U (gs.take q)):=by
 unfold slpL
 rw[List.take_succ_eq_append_getElem h,List.foldl_append]
 rfl
theorem sleepS_row {G U:Nat→Int} {A:Nat→Bool} {n g j i:Nat} (hj:j<n) (hi:i<12) (h:G j≠(g:Int)):sleepS G A n g U (j*12+i)=U (j*12+i):=by
 unfold sleepS
 cases A g&&allQ G U g n with
 |false=>rfl
 | true=>
   show mapR (slF G g) U n (j*12+i)=_
   rw[mapR_in hj hi]
   unfold slF
   rw[decide_eq_false h]
   rfl
theorem slp_row {G:Nat→Int} {n j i:Nat} (hj:j<n) (hi:i<12):∀ (gs:List Nat) (U:Nat→Int),(∀ t,t∈gs→G j≠(t:Int))→slpL G n U gs (j*12+i)=U (j*12+i)
 | [],U,_=>rfl
 |t::gs,U,h=>(slp_row hj hi gs (sleepS G (fun _=>true) n t U) (fun s hs=>h s (List.mem_cons_of_mem _ hs))).trans (sleepS_row hj hi (h t List.mem_cons_self))
theorem sleepN_eq (G U:Nat→Int) (A:Nat→Bool) (n:Nat):∀ N,sleepN G A n U N=slpL G n U ((List.range N).filter A)
 |0=>rfl
 | N+1=>by
   rw[sleepN,sleepN_eq G U A n N,List.range_succ,List.filter_append]
   unfold slpL
   rw[List.foldl_append]
   cases h:A N with
   |true=>simp only[List.filter,h,List.foldl_cons,List.foldl_nil];unfold sleepS;rw[h]
   |false=>simp only[List.filter,h,List.foldl_nil];unfold sleepS;rw[h];rfl
theorem allQ_iff {G U:Nat→Int} {g:Nat}:∀ n,allQ G U g n=true↔∀ i,i<n→G i=(g:Int)→7≤U (i*12+11)
 |0=>⟨fun _ i h=>absurd h (Nat.not_lt_zero _),fun _=>rfl⟩
 | n+1=>by
   rw[allQ,Bool.and_eq_true,allQ_iff n,Bool.or_eq_true,Bool.not_eq_true',decide_eq_false_iff_not,decide_eq_true_iff]
   constructor
   · rintro⟨h1,h2⟩ i hi hg
     by_cases e:i=n
     · subst e;exact h2.resolve_left (fun q=>q hg)
     · exact h1 i (by omega) hg
   · intro h
     refine⟨fun i hi=>h i (by omega),?_⟩
     by_cases e:G n=(g:Int)
     · exact .inr (h n (by omega) e)
     · exact .inl e
theorem rest_iff {G U:Nat→Int} {g n:Nat} (hq:∀ j,j<n→G j=(g:Int)→U (j*12+11)≤7):(memG G n g).any (fun j=>U (j*12+11) !=7)= !allQ G U g n:=by
 rw[Bool.eq_iff_iff,List.any_eq_true,Bool.not_eq_true',←Bool.not_eq_true,allQ_iff]
 constructor
 · rintro⟨j,hj,h⟩ h2
   obtain⟨h3,h4⟩:=memG_mem.1 hj
   have:=hq j h3 h4
   have:=h2 j h3 h4
   have h5:U (j*12+11)≠7:=by simpa using h
   omega
 · intro h
   by_cases e:∃ j,j∈memG G n g∧(U (j*12+11) !=7)=true
   · exact e
   · exact absurd (fun i hi hg=>by
      by_cases e7:U (i*12+11)=7
      · omega
      · exact absurd ⟨i,memG_mem.2 ⟨hi,hg⟩,by simpa using e7⟩ e) h
def fsU (P:Nat→Bool) (n:Nat) (U:Nat→Int):Nat→Int:=mapR (fun i V=>bif P i then slV V else V) U n
theorem fsU_row {P:Nat→Bool} {n:Nat} {U:Nat→Int} {j:Nat} (hj:j<n):∀ i,i<12→colOf (fsU P n U) i j=(bif P j then slV (fun i=>U (j*12+i)) else fun i=>U (j*12+i)) i:=fun i hi=>by unfold colOf fsU;rw[mapR_in hj hi]
theorem fsU_set {P P':Nat→Bool} {n:Nat} {U:Nat→Int} {j:Nat} (hj:j<n) (hP:∀ k,k<n→P' k=(P k||decide (k=j))):∀ i k,i<12→k<n→setC (setC (setC (colOf (fsU P n U)) 11 j 8) 6 j 0) 7 j 0 i k=colOf (fsU P' n U) i k:=fun i k hi hk=>by
 rw[fsU_row hk i hi,hP k hk]
 unfold setC
 by_cases e:k=j
 · subst e
   rw[decide_eq_true rfl,Bool.or_true]
   show _=slV (fun i=>U (k*12+i)) i
   unfold slV
   by_cases e7:i=7
   · subst e7;simp
   · by_cases e6:i=6
     · subst e6;simp
     · by_cases e11:i=11
       · subst e11;simp
       · simp only[e7,e6,e11,false_and,if_false]
         rw[fsU_row hk i hi]
         cases P k with
         |false=>rfl
         |true=>show slV (fun i=>U (k*12+i)) i=U (k*12+i);unfold slV;simp[e7,e6,e11]
 · rw[if_neg (fun q=>e q.2),if_neg (fun q=>e q.2),if_neg (fun q=>e q.2),fsU_row hk i hi,decide_eq_false e,Bool.or_false]
end Go.Proofs.YtcalhcfinkhemaaGreatDoor
namespace Go.Proofs.YtcalhcfinkhemaaGreatDoor
open Go.RowKit
set_option linter.unusedVariables false
set_option linter.unusedSimpArgs false
structure Va (w A:World) (H lb t:Nat) (v:Value) (m:Nat) (xs:List Value):Prop where
 bel:Below w.heap.size w A
 box:A.cell? ⟨lb,3,none⟩=some v
 nf:A.frozen? ⟨lb,3,none⟩=false
 own:A.ownsRow H t 1 v m xs
 lo:w.heap.size≤lb
 hi:lb<H
section
variable {w A A':World} {H lb t m:Nat} {v:Value} {xs:List Value}
theorem Va.lt (h:Va w A H lb t v m xs):lb<A.heap.size:=cell_lt (a:=⟨lb,3,none⟩) h.box
theorem Va.isCells (h:Va w A H lb t v m xs):∀ b o,v.ownBlock=some b→A.heap[b]? =some o→o.isCells=true:=by
 intro b o hb ho
 rcases h.own.2 with⟨hv,_⟩|⟨g,cap,cur,hv,_,hg,_⟩
 · subst hv;cases hb
 · subst hv
   simp only[Value.ownBlock,Option.some.injEq] at hb
   subst hb
   rw[hg] at ho;cases ho;rfl
theorem Va.kx {B:Nat} (h:Va w A H lb t v m xs) (k:Kx B H A A') (hB:w.heap.size≤B) (hl:lb<B):Va w A' H lb t v m xs:=by
 refine⟨h.bel.trans (k.below.mono hB),(k.below.cell (p:=⟨lb,3,none⟩) hl).trans h.box,(k.below.frozen (p:=⟨lb,3,none⟩) hl).trans h.nf,⟨h.own.1,?_⟩,h.lo,h.hi⟩
 rcases h.own.2 with q|⟨g,cap,cur,hv,hb,hg,rest⟩
 · exact .inl q
 · exact .inr ⟨g,cap,cur,hv,hb,k.cells _ _ hg rfl hb,rest⟩
theorem Va.sm {B:Nat} (h:Va w A H lb t v m xs) (k:Sm B A A') (hB:w.heap.size≤B):Va w A' H lb t v m xs:=by
 refine⟨h.bel.trans (k.below.mono hB),k.cell h.box,k.frozen h.box h.nf,⟨h.own.1,?_⟩,h.lo,h.hi⟩
 rcases h.own.2 with q|⟨g,cap,cur,hv,hb,hg,rest⟩
 · exact .inl q
 · exact .inr ⟨g,cap,cur,hv,hb,k.cells _ _ hg rfl,rest⟩
theorem Va.on (h:Va w A H lb t v m xs) (k:Below A.heap.size A A'):Va w A' H lb t v m xs:=by
 refine⟨h.bel.trans (k.mono h.bel.size),(k.cell (p:=⟨lb,3,none⟩) h.lt).trans h.box,(k.frozen (p:=⟨lb,3,none⟩) h.lt).trans h.nf,⟨h.own.1,?_⟩,h.lo,h.hi⟩
 rcases h.own.2 with q|⟨g,cap,cur,hv,hb,hg,rest⟩
 · exact .inl q
 · exact .inr ⟨g,cap,cur,hv,hb,(k.block _ (Array.getElem?_eq_some_iff.1 hg).1).trans hg,rest⟩
theorem Va.push (h:Va w A H lb t v m xs) {Y w7:World} (hE:Below A.heap.size A Y) (hg:Y.grownBy w7 v.ownBlock) {v':Value} {m':Nat} {xs':List Value} (ho:w7.ownsRow H t 1 v' m' xs'):
 (w7.cell? ⟨lb,3,none⟩=some v∧w7.frozen? ⟨lb,3,none⟩=false)∧Va w (w7.setCell ⟨lb,3,none⟩ v') H lb t v' m' xs'∧Fr (fun b=>b=lb∨H≤b) A (w7.setCell ⟨lb,3,none⟩ v'):=by
 have h7:=h.on hE
 have hlo:∀ b,v.ownBlock=some b→H≤b:=fun b e=>(World.ownsRow.lt h7.own b e).1
 have hF7:Fr (fun b=>v.ownBlock=some b) Y w7:=Fr.grown hg (fun b e=>e) h7.isCells
 have hi:=h.hi
 have nlb:¬ (v.ownBlock=some lb):=fun e=>by have:=hlo _ e;omega
 have c:=(hF7.cell (p:=⟨lb,3,none⟩) h7.lt nlb).trans h7.box
 have f:=(hF7.frozen (p:=⟨lb,3,none⟩) h7.lt nlb).trans h7.nf
 have hF:Fr (fun b=>b=lb∨H≤b) A (w7.setCell ⟨lb,3,none⟩ v'):=((Fr.of_below hE).trans (hF7.mono (fun _ _ e=> .inr (hlo _ e)))).trans (Fr.setCell (p:=⟨lb,3,none⟩) (.inl rfl) _)
 have hlo':=h.lo
 refine⟨⟨c,f⟩,⟨h.bel.trans (hF.below h.bel.size (fun b e=>e.elim (fun e=>by omega) (fun e=>by omega))),?_,?_,⟨ho.1,?_⟩,h.lo,h.hi⟩,hF⟩
 · rw[cset_map,c];rfl
 · rw[World.frozen?_setCell];exact f
 · rcases ho.2 with q|⟨g,cap,cur,hv,hb,hg,rest⟩
   · exact .inl q
   · exact .inr ⟨g,cap,cur,hv,hb,(Below.heap_setCell w7 ⟨lb,3,none⟩ v' g (by show ¬ g=lb;omega)).trans hg,rest⟩
end
theorem But.upM {w A A':World} {lb B:Nat} (h:But lb w A) (K:Below B A A') (hB:w.heap.size≤B):But lb w A':=
 ⟨K.os.trans h.os,K.tape.trans h.tape,K.output.trans h.output,Nat.le_trans h.size K.size,fun k hk hn=>(K.block k (by omega)).trans (h.block k hk hn)⟩
theorem But.frM {w A A':World} {lb:Nat} {X:Nat→Prop} (h:But lb w A) (K:Fr X A A') (hX:∀ b,X b→b=lb∨w.heap.size≤b):But lb w A':=
 ⟨K.os.trans h.os,K.tape.trans h.tape,K.output.trans h.output,Nat.le_trans h.size K.size,fun k hk hn=>(K.block k (by have:=h.size;omega) (fun e=>(hX k e).elim hn (fun e=>by omega))).trans (h.block k hk hn)⟩
structure Mf (A:World) (mb cb:Nat) (g:Int) (sv:Value):Prop where
 f0:A.cell? ⟨mb,0,none⟩=some (.pointer (some ⟨cb,0,none⟩))
 f1:A.cell? ⟨mb,1,none⟩=some (.int .i64 g)
 f2:A.cell? ⟨mb,2,none⟩=some sv
 f4:A.cell? ⟨mb,4,none⟩=some (.pointer none)
 f5:A.cell? ⟨mb,5,none⟩=some (.slice none 0 0)
 g4:A.frozen? ⟨mb,4,none⟩=false
 g5:A.frozen? ⟨mb,5,none⟩=false
theorem Mf.bl {A A':World} {mb cb B:Nat} {g:Int} {sv:Value} (h:Mf A mb cb g sv) (k:Below B A A') (hB:mb<B):Mf A' mb cb g sv:=
 ⟨(k.cell (p:=⟨mb,0,none⟩) hB).trans h.f0,(k.cell (p:=⟨mb,1,none⟩) hB).trans h.f1,(k.cell (p:=⟨mb,2,none⟩) hB).trans h.f2,(k.cell (p:=⟨mb,4,none⟩) hB).trans h.f4,(k.cell (p:=⟨mb,5,none⟩) hB).trans h.f5,(k.frozen (p:=⟨mb,4,none⟩) hB).trans h.g4,(k.frozen (p:=⟨mb,5,none⟩) hB).trans h.g5⟩
theorem Mf.sm {A A':World} {mb cb B:Nat} {g:Int} {sv:Value} (h:Mf A mb cb g sv) (k:Sm B A A'):Mf A' mb cb g sv:=
 ⟨k.cell h.f0,k.cell h.f1,k.cell h.f2,k.cell h.f4,k.cell h.f5,k.frozen h.f4 h.g4,k.frozen h.f5 h.g5⟩
theorem Mf.fr {A A':World} {mb cb:Nat} {g:Int} {sv:Value} {X:Nat→Prop} (h:Mf A mb cb g sv) (k:Fr X A A') (hX:¬ X mb):Mf A' mb cb g sv:=
 have hl:mb<A.heap.size:=cell_lt (a:=⟨mb,0,none⟩) h.f0
 ⟨(k.cell (p:=⟨mb,0,none⟩) hl hX).trans h.f0,(k.cell (p:=⟨mb,1,none⟩) hl hX).trans h.f1,(k.cell (p:=⟨mb,2,none⟩) hl hX).trans h.f2,(k.cell (p:=⟨mb,4,none⟩) hl hX).trans h.f4,(k.cell (p:=⟨mb,5,none⟩) hl hX).trans h.f5,(k.frozen (p:=⟨mb,4,none⟩) hl hX).trans h.g4,(k.frozen (p:=⟨mb,5,none⟩) hl hX).trans h.g5⟩
theorem Mf.set {A:World} {mb cb:Nat} {g:Int} {sv v:Value} (h:Mf A mb cb g sv):Mf (A.setCell ⟨mb,3,none⟩ v) mb cb g sv:=by
 have hset:=cset_map
 obtain⟨f0,f1,f2,f4,f5,g4,g5⟩:=h
 exact⟨by go_simp,by go_simp,by go_simp,by go_simp,by go_simp,by go_simp,by go_simp⟩
theorem step_pushS {P:Program} {w:World} {ops:Array Oper} {o:Oper} {a:Act} {K:Act→World→Prop} {Q:Exit→Act→World→Prop} {E:Prop} (hgd:o.guard=none) (s x:Operand) (t:TypeId)
 (ho:o.op= .call {callee:= .builtin .append,args:= #[s,x],argTypes:= #[t,t]}) (e bytes:Nat) (z:Value) (ht:P.underlying t=some (.slice e)) (hinfo:(P.info? e).map (fun i=>(i.zero,i.size,i.bytes))=some (some z,1,bytes)) (hzs:z.cells.size=1) (hby:bytes≤24)
 (base:Nat) (v:Value) (m:Nat) (xs:List Value) (hs:a.eval s=v) (h:w.ownsRow base e 1 v m xs) (b:Nat) (hx:a.eval x= .slice (some ⟨b,0,none⟩) 1 1) (u:Value) (hu:w.cell? ⟨b,0,none⟩=some u) (h1:u.oneCell'=true) (hn:m≤1048576) (hbase:base≤w.heap.size)
 (hK:∀ g' c' w',w'.ownsRow base e 1 (.slice (some ⟨g',0,none⟩) (m+1) c') (m+1) (xs++[u])→w.grownBy w' v.ownBlock→K (a.put o.dst (.slice (some ⟨g',0,none⟩) (m+1) c')) w'):
 if Region.wanted o (yielded ops a.tmps)=true then Oper.wp P o a w K Q else E:=by
 obtain⟨i,hi,hzz⟩:=Option.map_eq_some_iff.1 hinfo
 simp only[Prod.mk.injEq] at hzz
 obtain⟨hz,hsz,hb8⟩:=hzz
 refine step_append_lies w hgd s x t ho base e i z 1 bytes ht hi hz hsz hb8 hzs (by decide) v m xs hs h ⟨b,0,none⟩ 1 1 [u] hx rfl ?_ ?_ (by decide) (by unfold maxLen;omega) ?_ hbase _ rfl ?_
 · intro j v hv
   cases j with
   |zero=>simp at hv;subst hv;exact hu
   |succ j=>simp at hv
 · intro v hv;simp at hv;rw[hv];exact h1
 · have:(m+1)*bytes≤(m+1)*24:=Nat.mul_le_mul_left _ hby
   omega
 · intro g' cap' w' r1 r2 _ _
   exact hK g' cap' w' r1 r2
theorem infoHs:(Tryz.prog.info? 55).map (fun i=>(i.zero,i.size,i.bytes))=some (some (.slice none 0 0),1,24):=by kernel_rfl
theorem memL_filter (L:Nat→Nat) (i:Nat):∀ n,memL L i n=(List.range n).filter fun j=>decide (L j=i)
 |0=>rfl
 | n+1=>by
   rw[memL,memL_filter L i n,List.range_succ,List.filter_append]
   congr 1
   by_cases e:L n=i<;>simp[List.filter,e]
theorem memL_G {fx:Nat→Bool} {L:Nat→Nat} {G:Nat→Int} {n i k:Nat} (hT:Tops fx L) (hG:∀ j,j<n→G j=gnum fx L j) (hf:fstB fx L i=true) (hk:cntp (fstB fx L) i=k):memL L i n=memG G n k:=by
 rw[memL_filter]
 unfold memG
 apply List.filter_congr
 intro j hj
 rw[List.mem_range] at hj
 have hfi:fx i=false:=by
  unfold fstB at hf
  cases h:fx i with
  |false=>rfl
  |true=>rw[h] at hf;cases hf
 rw[hG j hj]
 refine decide_eq_decide.2 ?_
 unfold gnum
 constructor
 · intro h
   have hx:fx j=false:=by rw[←hT.fx,h];exact hfi
   rw[if_neg (by rw[hx];simp),h,hk]
 · intro h
   by_cases hx:fx j=true
   · rw[if_pos hx] at h;omega
   · rw[if_neg hx] at h
     exact cntp_inj _ (hT.fst (by simpa using hx)) hf (by omega)
theorem row_ne {w:World} {B1 B2 t1 t2 k1 k2 n1 n2:Nat} {v1 v2:Value} {x1 x2:List Value} (h1:w.ownsRow B1 t1 k1 v1 n1 x1) (h2:w.ownsRow B2 t2 k2 v2 n2 x2) (ht:t1≠t2):∀ b,v1.ownBlock=some b→¬ v2.ownBlock=some b:=fun b e1 e2=>by
 rcases h1.2 with⟨q,_⟩|⟨g,c,cur,hv,_,hb,_⟩
 · rw[q] at e1;cases e1
 · rcases h2.2 with⟨q2,_⟩|⟨g2,c2,cur2,hv2,_,hb2,_⟩
   · rw[q2] at e2;cases e2
   · rw[hv] at e1
     rw[hv2] at e2
     simp[Value.ownBlock] at e1 e2
     subst e1
     subst e2
     rw[hb] at hb2
     simp at hb2
     exact ht hb2.2
def AwQ (A:World) (H cb:Nat) (G:Nat→Int) (n:Nat) (vs:List Value) (gs:List Nat):Prop:=vs.length=gs.length∧∀ q (h:q<vs.length) (h':q<gs.length),HL A H cb vs[q] (memG G n gs[q])
theorem AwQ.map {A A':World} {H cb n:Nat} {G:Nat→Int} {vs:List Value} {gs:List Nat} (h:AwQ A H cb G n vs gs) (k:∀ vq l,HL A H cb vq l→HL A' H cb vq l):AwQ A' H cb G n vs gs:=⟨h.1,fun q h1 h2=>k _ _ (h.2 q h1 h2)⟩
theorem AwQ.push {A A':World} {H cb n t:Nat} {G:Nat→Int} {vs:List Value} {gs:List Nat} {u:Value} (h:AwQ A H cb G n vs gs) (k:∀ vq l,HL A H cb vq l→HL A' H cb vq l) (hu:HL A' H cb u (memG G n t)):AwQ A' H cb G n (vs++[u]) (gs++[t]):=by
 refine⟨by simp[h.1],fun q h1 h2=> ?_⟩
 rw[List.length_append] at h1 h2
 by_cases e:q<vs.length
 · rw[List.getElem_append_left e,List.getElem_append_left (by rw[←h.1];exact e)]
   exact k _ _ (h.2 q e (by rw[←h.1];exact e))
 · simp only[List.length_cons,List.length_nil] at h1 h2
   have e1:q=vs.length:=by omega
   subst e1
   rw[List.getElem_append_right (Nat.le_refl _),List.getElem_append_right (by rw[h.1];exact Nat.le_refl _)]
   simp only[h.1,Nat.sub_self,List.getElem_cons_zero]
   exact hu
theorem aw_of {A:World} {H B cb n:Nat} {G:Nat→Int} {v:Value} {vs:List Value} {gs:List Nat} (h:A.ownsRow H 55 1 v vs.length vs) (hq:AwQ A H cb G n vs gs) (hB:B≤H):AwL A B cb v G n gs:=by
 have hl:=hq.1
 rcases h.2 with⟨q,h0⟩|⟨g,c,cur,hv,hb,hg,_⟩
 · refine⟨none,0,?_,fun q h=> ?_⟩
   · rw[←hl,h0];exact q
   · omega
 · have hv':v= .slice (some ⟨g,0,none⟩) vs.length c:=by first|exact hv|(cases hv;rfl)
   refine⟨some ⟨g,0,none⟩,c,by rw[←hl];exact hv',fun q h1=> ?_⟩
   have hqv:q<vs.length:=by omega
   refine⟨g,0,vs[q],rfl,by omega,(Array.getElem?_eq_some_iff.1 hg).1,?_,(hq.2 q hqv h1).base hB⟩
   have:=World.ownsRow.cells (hv'▸h) (g:=g) rfl q vs[q] (List.getElem?_eq_getElem hqv)
   rw[Addr.add_lit] at this
   exact this
end Go.Proofs.YtcalhcfinkhemaaGreatDoor
