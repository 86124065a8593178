/- Texts of a proof. -/
import Derived.Test.YthajilkjfkppoaaGreatDoorB42
import Derived.Test.YthajilkjfkppoaaGreatDoorB28
import Derived.Test.YthajilkjfkppoaaGreatDoorB39
import Derived.Test.YthajilkjfkppoaaGreatDoorB32
import Derived.Test.YthajilkjfkppoaaGreatDoorB41
import Derived.Test.YthajilkjfkppoaaGreatDoorB44
import Derived.Test.YthajilkjfkppoaaGreatDoorB13
import Derived.Deep.RegionHeld3
import Derived.Deep.DeepCutAuto
set_option maxHeartbeats 16000000
set_option maxRecDepth 20000
namespace Go.Proofs.YthajilkjfkppoaaGreatDoor
open Go.RowKit
set_option linter.unusedVariables false
set_option linter.unusedSimpArgs false
def slpL (G:Nat→Int) (n:Nat) (U:Nat→Int) (gs:List Nat):Nat→Int:=gs.foldl (fun V g=>sleepS G (fun _=>true) n g V) U
theorem slp_take {G U:Nat→Int} {n q:Nat} {gs:List Nat} (h:q<gs.length):slpL G n U (gs.take (q+1))=sleepS G (fun _=>true) n gs[q] (slpL G n U (gs.take q)):=by
 unfold slpL
 rw[List.take_succ_eq_append_getElem h,List.foldl_append]
 rfl
theorem sleepS_row {G U:Nat→Int} {A:Nat→Bool} {n g j i:Nat} (hj:j<n) (hi:i<12) (h:G j≠(g:Int)):sleepS G A n g U (j*12+i)=U (j*12+i):=by
 unfold sleepS
 cases A g&&allQ G U g n with
 |false=>rfl
 | true=>
   show mapR (slF G g) U n (j*12+i)=_
   rw[mapR_in hj hi]
   unfold slF
   rw[decide_eq_false h]
   rfl
theorem slp_row {G:Nat→Int} {n j i:Nat} (hj:j<n) (hi:i<12):∀ (gs:List Nat) (U:Nat→Int),(∀ t,t∈gs→G j≠(t:Int))→slpL G n U gs (j*12+i)=U (j*12+i)
 | [],U,_=>rfl
 |t::gs,U,h=>(slp_row hj hi gs (sleepS G (fun _=>true) n t U) (fun s hs=>h s (List.mem_cons_of_mem _ hs))).trans (sleepS_row hj hi (h t List.mem_cons_self))
theorem sleepN_eq (G U:Nat→Int) (A:Nat→Bool) (n:Nat):∀ N,sleepN G A n U N=slpL G n U ((List.range N).filter A)
 |0=>rfl
 | N+1=>by
   rw[sleepN,sleepN_eq G U A n N,List.range_succ,List.filter_append]
   unfold slpL
   rw[List.foldl_append]
   cases h:A N with
   |true=>simp only[List.filter,h,List.foldl_cons,List.foldl_nil];unfold sleepS;rw[h]
   |false=>simp only[List.filter,h,List.foldl_nil];unfold sleepS;rw[h];rfl
theorem allQ_iff {G U:Nat→Int} {g:Nat}:∀ n,allQ G U g n=true↔∀ i,i<n→G i=(g:Int)→7≤U (i*12+11)
 |0=>⟨fun _ i h=>absurd h (Nat.not_lt_zero _),fun _=>rfl⟩
 | n+1=>by
   rw[allQ,Bool.and_eq_true,allQ_iff n,Bool.or_eq_true,Bool.not_eq_true',decide_eq_false_iff_not,decide_eq_true_iff]
   constructor
   · rintro⟨h1,h2⟩ i hi hg
     by_cases e:i=n
     · subst e;exact h2.resolve_left (fun q=>q hg)
     · exact h1 i (by omega) hg
   · intro h
     refine⟨fun i hi=>h i (by omega),?_⟩
     by_cases e:G n=(g:Int)
     · exact .inr (h n (by omega) e)
     · exact .inl e
theorem rest_iff {G U:Nat→Int} {g n:Nat} (hq:∀ j,j<n→G j=(g:Int)→U (j*12+11)≤7):(memG G n g).any (fun j=>U (j*12+11) !=7)= !allQ G U g n:=by
 rw[Bool.eq_iff_iff,List.any_eq_true,Bool.not_eq_true',←Bool.not_eq_true,allQ_iff]
 constructor
 · rintro⟨j,hj,h⟩ h2
   obtain⟨h3,h4⟩:=memG_mem.1 hj
   have:=hq j h3 h4
   have:=h2 j h3 h4
   have h5:U (j*12+11)≠7:=by simpa using h
   omega
 · intro h
   by_cases e:∃ j,j∈memG G n g∧(U (j*12+11) !=7)=true
   · exact e
   · exact absurd (fun i hi hg=>by
      by_cases e7:U (i*12+11)=7
      · omega
      · exact absurd ⟨i,memG_mem.2 ⟨hi,hg⟩,by simpa using e7⟩ e) h
def fsU (P:Nat→Bool) (n:Nat) (U:Nat→Int):Nat→Int:=mapR (fun i V=>bif P i then slV V else V) U n
theorem fsU_row {P:Nat→Bool} {n:Nat} {U:Nat→Int} {j:Nat} (hj:j<n):∀ i,i<12→colOf (fsU P n U) i j=(bif P j then slV (fun i=>U (j*12+i)) else fun i=>U (j*12+i)) i:=fun i hi=>by unfold colOf fsU;rw[mapR_in hj hi]
theorem fsU_set {P P':Nat→Bool} {n:Nat} {U:Nat→Int} {j:Nat} (hj:j<n) (hP:∀ k,k<n→P' k=(P k||decide (k=j))):∀ i k,i<12→k<n→setC (setC (setC (colOf (fsU P n U)) 11 j 8) 6 j 0) 7 j 0 i k=colOf (fsU P' n U) i k:=fun i k hi hk=>by
 rw[fsU_row hk i hi,hP k hk]
 unfold setC
 by_cases e:k=j
 · subst e
   rw[decide_eq_true rfl,Bool.or_true]
   show _=slV (fun i=>U (k*12+i)) i
   unfold slV
   by_cases e7:i=7
   · subst e7;simp
   · by_cases e6:i=6
     · subst e6;simp
     · by_cases e11:i=11
       · subst e11;simp
       · simp only[e7,e6,e11,false_and,if_false]
         rw[fsU_row hk i hi]
         cases P k with
         |false=>rfl
         |true=>show slV (fun i=>U (k*12+i)) i=U (k*12+i);unfold slV;simp[e7,e6,e11]
 · rw[if_neg (fun q=>e q.2),if_neg (fun q=>e q.2),if_neg (fun q=>e q.2),fsU_row hk i hi,decide_eq_false e,Bool.or_false]
end Go.Proofs.YthajilkjfkppoaaGreatDoor
namespace Go.Proofs.YthajilkjfkppoaaGreatDoor
open Go.RowKit
set_option linter.unusedVariables false
set_option linter.unusedSimpArgs false
structure Va (w A:World) (H lb t:Nat) (v:Value) (m:Nat) (xs:List Value):Prop where
 bel:Below w.heap.size w A
 box:A.cell? ⟨lb,3,none⟩=some v
 nf:A.frozen? ⟨lb,3,none⟩=false
 own:A.ownsRow H t 1 v m xs
 lo:w.heap.size≤lb
 hi:lb<H
section
variable {w A A':World} {H lb t m:Nat} {v:Value} {xs:List Value}
theorem Va.lt (h:Va w A H lb t v m xs):lb<A.heap.size:=cell_lt (a:=⟨lb,3,none⟩) h.box
theorem Va.isCells (h:Va w A H lb t v m xs):∀ b o,v.ownBlock=some b→A.heap[b]? =some o→o.isCells=true:=by
 intro b o hb ho
 rcases h.own.2 with⟨hv,_⟩|⟨g,cap,cur,hv,_,hg,_⟩
 · subst hv;cases hb
 · subst hv
   simp only[Value.ownBlock,Option.some.injEq] at hb
   subst hb
   rw[hg] at ho;cases ho;rfl
theorem Va.kx {B:Nat} (h:Va w A H lb t v m xs) (k:Kx B H A A') (hB:w.heap.size≤B) (hl:lb<B):Va w A' H lb t v m xs:=by
 refine⟨h.bel.trans (k.below.mono hB),(k.below.cell (p:=⟨lb,3,none⟩) hl).trans h.box,(k.below.frozen (p:=⟨lb,3,none⟩) hl).trans h.nf,⟨h.own.1,?_⟩,h.lo,h.hi⟩
 rcases h.own.2 with q|⟨g,cap,cur,hv,hb,hg,rest⟩
 · exact .inl q
 · exact .inr ⟨g,cap,cur,hv,hb,k.cells _ _ hg rfl hb,rest⟩
theorem Va.sm {B:Nat} (h:Va w A H lb t v m xs) (k:Sm B A A') (hB:w.heap.size≤B):Va w A' H lb t v m xs:=by
 refine⟨h.bel.trans (k.below.mono hB),k.cell h.box,k.frozen h.box h.nf,⟨h.own.1,?_⟩,h.lo,h.hi⟩
 rcases h.own.2 with q|⟨g,cap,cur,hv,hb,hg,rest⟩
 · exact .inl q
 · exact .inr ⟨g,cap,cur,hv,hb,k.cells _ _ hg rfl,rest⟩
theorem Va.on (h:Va w A H lb t v m xs) (k:Below A.heap.size A A'):Va w A' H lb t v m xs:=by
 refine⟨h.bel.trans (k.mono h.bel.size),(k.cell (p:=⟨lb,3,none⟩) h.lt).trans h.box,(k.frozen (p:=⟨lb,3,none⟩) h.lt).trans h.nf,⟨h.own.1,?_⟩,h.lo,h.hi⟩
 rcases h.own.2 with q|⟨g,cap,cur,hv,hb,hg,rest⟩
 · exact .inl q
 · exact .inr ⟨g,cap,cur,hv,hb,(k.block _ (Array.getElem?_eq_some_iff.1 hg).1).trans hg,rest⟩
theorem Va.push (h:Va w A H lb t v m xs) {Y w7:World} (hE:Below A.heap.size A Y) (hg:Y.grownBy w7 v.ownBlock) {v':Value} {m':Nat} {xs':List Value} (ho:w7.ownsRow H t 1 v' m' xs'):
 (w7.cell? ⟨lb,3,none⟩=some v∧w7.frozen? ⟨lb,3,none⟩=false)∧Va w (w7.setCell ⟨lb,3,none⟩ v') H lb t v' m' xs'∧Fr (fun b=>b=lb∨H≤b) A (w7.setCell ⟨lb,3,none⟩ v'):=by
 have h7:=h.on hE
 have hlo:∀ b,v.ownBlock=some b→H≤b:=fun b e=>(World.ownsRow.lt h7.own b e).1
 have hF7:Fr (fun b=>v.ownBlock=some b) Y w7:=Fr.grown hg (fun b e=>e) h7.isCells
 have hi:=h.hi
 have nlb:¬ (v.ownBlock=some lb):=fun e=>by have:=hlo _ e;omega
 have c:=(hF7.cell (p:=⟨lb,3,none⟩) h7.lt nlb).trans h7.box
 have f:=(hF7.frozen (p:=⟨lb,3,none⟩) h7.lt nlb).trans h7.nf
 have hF:Fr (fun b=>b=lb∨H≤b) A (w7.setCell ⟨lb,3,none⟩ v'):=((Fr.of_below hE).trans (hF7.mono (fun _ _ e=> .inr (hlo _ e)))).trans (Fr.setCell (p:=⟨lb,3,none⟩) (.inl rfl) _)
 have hlo':=h.lo
 refine⟨⟨c,f⟩,⟨h.bel.trans (hF.below h.bel.size (fun b e=>e.elim (fun e=>by omega) (fun e=>by omega))),?_,?_,⟨ho.1,?_⟩,h.lo,h.hi⟩,hF⟩
 · rw[cset_map,c];rfl
 · rw[World.frozen?_setCell];exact f
 · rcases ho.2 with q|⟨g,cap,cur,hv,hb,hg,rest⟩
   · exact .inl q
   · exact .inr ⟨g,cap,cur,hv,hb,(Below.heap_setCell w7 ⟨lb,3,none⟩ v' g (by show ¬ g=lb;omega)).trans hg,rest⟩
end
theorem But.upM {w A A':World} {lb B:Nat} (h:But lb w A) (K:Below B A A') (hB:w.heap.size≤B):But lb w A':=
 ⟨K.os.trans h.os,K.tape.trans h.tape,K.output.trans h.output,Nat.le_trans h.size K.size,fun k hk hn=>(K.block k (by omega)).trans (h.block k hk hn)⟩
theorem But.frM {w A A':World} {lb:Nat} {X:Nat→Prop} (h:But lb w A) (K:Fr X A A') (hX:∀ b,X b→b=lb∨w.heap.size≤b):But lb w A':=
 ⟨K.os.trans h.os,K.tape.trans h.tape,K.output.trans h.output,Nat.le_trans h.size K.size,fun k hk hn=>(K.block k (by have:=h.size;omega) (fun e=>(hX k e).elim hn (fun e=>by omega))).trans (h.block k hk hn)⟩
structure Mf (A:World) (mb cb:Nat) (g:Int) (sv:Value):Prop where
 f0:A.cell? ⟨mb,0,none⟩=some (.pointer (some ⟨cb,0,none⟩))
 f1:A.cell? ⟨mb,1,none⟩=some (.int .i64 g)
 f2:A.cell? ⟨mb,2,none⟩=some sv
 f4:A.cell? ⟨mb,4,none⟩=some (.pointer none)
 f5:A.cell? ⟨mb,5,none⟩=some (.slice none 0 0)
 g4:A.frozen? ⟨mb,4,none⟩=false
 g5:A.frozen? ⟨mb,5,none⟩=false
theorem Mf.bl {A A':World} {mb cb B:Nat} {g:Int} {sv:Value} (h:Mf A mb cb g sv) (k:Below B A A') (hB:mb<B):Mf A' mb cb g sv:=
 ⟨(k.cell (p:=⟨mb,0,none⟩) hB).trans h.f0,(k.cell (p:=⟨mb,1,none⟩) hB).trans h.f1,(k.cell (p:=⟨mb,2,none⟩) hB).trans h.f2,(k.cell (p:=⟨mb,4,none⟩) hB).trans h.f4,(k.cell (p:=⟨mb,5,none⟩) hB).trans h.f5,(k.frozen (p:=⟨mb,4,none⟩) hB).trans h.g4,(k.frozen (p:=⟨mb,5,none⟩) hB).trans h.g5⟩
theorem Mf.sm {A A':World} {mb cb B:Nat} {g:Int} {sv:Value} (h:Mf A mb cb g sv) (k:Sm B A A'):Mf A' mb cb g sv:=
 ⟨k.cell h.f0,k.cell h.f1,k.cell h.f2,k.cell h.f4,k.cell h.f5,k.frozen h.f4 h.g4,k.frozen h.f5 h.g5⟩
theorem Mf.fr {A A':World} {mb cb:Nat} {g:Int} {sv:Value} {X:Nat→Prop} (h:Mf A mb cb g sv) (k:Fr X A A') (hX:¬ X mb):Mf A' mb cb g sv:=
 have hl:mb<A.heap.size:=cell_lt (a:=⟨mb,0,none⟩) h.f0
 ⟨(k.cell (p:=⟨mb,0,none⟩) hl hX).trans h.f0,(k.cell (p:=⟨mb,1,none⟩) hl hX).trans h.f1,(k.cell (p:=⟨mb,2,none⟩) hl hX).trans h.f2,(k.cell (p:=⟨mb,4,none⟩) hl hX).trans h.f4,(k.cell (p:=⟨mb,5,none⟩) hl hX).trans h.f5,(k.frozen (p:=⟨mb,4,none⟩) hl hX).trans h.g4,(k.frozen (p:=⟨mb,5,none⟩) hl hX).trans h.g5⟩
theorem Mf.set {A:World} {mb cb:Nat} {g:Int} {sv v:Value} (h:Mf A mb cb g sv):Mf (A.setCell ⟨mb,3,none⟩ v) mb cb g sv:=by
 have hset:=cset_map
 obtain⟨f0,f1,f2,f4,f5,g4,g5⟩:=h
 exact⟨by go_simp,by go_simp,by go_simp,by go_simp,by go_simp,by go_simp,by go_simp⟩
theorem step_pushS {P:Program} {w:World} {ops:Array Oper} {o:Oper} {a:Act} {K:Act→World→Prop} {Q:Exit→Act→World→Prop} {E:Prop} (hgd:o.guard=none) (s x:Operand) (t:TypeId)
 (ho:o.op= .call {callee:= .builtin .append,args:= #[s,x],argTypes:= #[t,t]}) (e bytes:Nat) (z:Value) (ht:P.underlying t=some (.slice e)) (hinfo:(P.info? e).map (fun i=>(i.zero,i.size,i.bytes))=some (some z,1,bytes)) (hzs:z.cells.size=1) (hby:bytes≤24)
 (base:Nat) (v:Value) (m:Nat) (xs:List Value) (hs:a.eval s=v) (h:w.ownsRow base e 1 v m xs) (b:Nat) (hx:a.eval x= .slice (some ⟨b,0,none⟩) 1 1) (u:Value) (hu:w.cell? ⟨b,0,none⟩=some u) (h1:u.oneCell'=true) (hn:m≤1048576) (hbase:base≤w.heap.size)
 (hK:∀ g' c' w',w'.ownsRow base e 1 (.slice (some ⟨g',0,none⟩) (m+1) c') (m+1) (xs++[u])→w.grownBy w' v.ownBlock→K (a.put o.dst (.slice (some ⟨g',0,none⟩) (m+1) c')) w'):
 if Region.wanted o (yielded ops a.tmps)=true then Oper.wp P o a w K Q else E:=by
 obtain⟨i,hi,hzz⟩:=Option.map_eq_some_iff.1 hinfo
 simp only[Prod.mk.injEq] at hzz
 obtain⟨hz,hsz,hb8⟩:=hzz
 refine step_append_lies w hgd s x t ho base e i z 1 bytes ht hi hz hsz hb8 hzs (by decide) v m xs hs h ⟨b,0,none⟩ 1 1 [u] hx rfl ?_ ?_ (by decide) (by unfold maxLen;omega) ?_ hbase _ rfl ?_
 · intro j v hv
   cases j with
   |zero=>simp at hv;subst hv;exact hu
   |succ j=>simp at hv
 · intro v hv;simp at hv;rw[hv];exact h1
 · have:(m+1)*bytes≤(m+1)*24:=Nat.mul_le_mul_left _ hby
   omega
 · intro g' cap' w' r1 r2 _ _
   exact hK g' cap' w' r1 r2
theorem infoHs:(Tryz.prog.info? 175).map (fun i=>(i.zero,i.size,i.bytes))=some (some (.slice none 0 0),1,24):=by kernel_rfl
theorem memL_filter (L:Nat→Nat) (i:Nat):∀ n,memL L i n=(List.range n).filter fun j=>decide (L j=i)
 |0=>rfl
 | n+1=>by
   rw[memL,memL_filter L i n,List.range_succ,List.filter_append]
   congr 1
   by_cases e:L n=i<;>simp[List.filter,e]
theorem memL_G {fx:Nat→Bool} {L:Nat→Nat} {G:Nat→Int} {n i k:Nat} (hT:Tops fx L) (hG:∀ j,j<n→G j=gnum fx L j) (hf:fstB fx L i=true) (hk:cntp (fstB fx L) i=k):memL L i n=memG G n k:=by
 rw[memL_filter]
 unfold memG
 apply List.filter_congr
 intro j hj
 rw[List.mem_range] at hj
 have hfi:fx i=false:=by
  unfold fstB at hf
  cases h:fx i with
  |false=>rfl
  |true=>rw[h] at hf;cases hf
 rw[hG j hj]
 refine decide_eq_decide.2 ?_
 unfold gnum
 constructor
 · intro h
   have hx:fx j=false:=by rw[←hT.fx,h];exact hfi
   rw[if_neg (by rw[hx];simp),h,hk]
 · intro h
   by_cases hx:fx j=true
   · rw[if_pos hx] at h;omega
   · rw[if_neg hx] at h
     exact cntp_inj _ (hT.fst (by simpa using hx)) hf (by omega)
theorem row_ne {w:World} {B1 B2 t1 t2 k1 k2 n1 n2:Nat} {v1 v2:Value} {x1 x2:List Value} (h1:w.ownsRow B1 t1 k1 v1 n1 x1) (h2:w.ownsRow B2 t2 k2 v2 n2 x2) (ht:t1≠t2):∀ b,v1.ownBlock=some b→¬ v2.ownBlock=some b:=fun b e1 e2=>by
 rcases h1.2 with⟨q,_⟩|⟨g,c,cur,hv,_,hb,_⟩
 · rw[q] at e1;cases e1
 · rcases h2.2 with⟨q2,_⟩|⟨g2,c2,cur2,hv2,_,hb2,_⟩
   · rw[q2] at e2;cases e2
   · rw[hv] at e1
     rw[hv2] at e2
     simp[Value.ownBlock] at e1 e2
     subst e1
     subst e2
     rw[hb] at hb2
     simp at hb2
     exact ht hb2.2
def AwQ (A:World) (H cb:Nat) (G:Nat→Int) (n:Nat) (vs:List Value) (gs:List Nat):Prop:=vs.length=gs.length∧∀ q (h:q<vs.length) (h':q<gs.length),HL A H cb vs[q] (memG G n gs[q])
theorem AwQ.map {A A':World} {H cb n:Nat} {G:Nat→Int} {vs:List Value} {gs:List Nat} (h:AwQ A H cb G n vs gs) (k:∀ vq l,HL A H cb vq l→HL A' H cb vq l):AwQ A' H cb G n vs gs:=⟨h.1,fun q h1 h2=>k _ _ (h.2 q h1 h2)⟩
theorem AwQ.push {A A':World} {H cb n t:Nat} {G:Nat→Int} {vs:List Value} {gs:List Nat} {u:Value} (h:AwQ A H cb G n vs gs) (k:∀ vq l,HL A H cb vq l→HL A' H cb vq l) (hu:HL A' H cb u (memG G n t)):AwQ A' H cb G n (vs++[u]) (gs++[t]):=by
 refine⟨by simp[h.1],fun q h1 h2=> ?_⟩
 rw[List.length_append] at h1 h2
 by_cases e:q<vs.length
 · rw[List.getElem_append_left e,List.getElem_append_left (by rw[←h.1];exact e)]
   exact k _ _ (h.2 q e (by rw[←h.1];exact e))
 · simp only[List.length_cons,List.length_nil] at h1 h2
   have e1:q=vs.length:=by omega
   subst e1
   rw[List.getElem_append_right (Nat.le_refl _),List.getElem_append_right (by rw[h.1];exact Nat.le_refl _)]
   simp only[h.1,Nat.sub_self,List.getElem_cons_zero]
   exact hu
theorem aw_of {A:World} {H B cb n:Nat} {G:Nat→Int} {v:Value} {vs:List Value} {gs:List Nat} (h:A.ownsRow H 175 1 v vs.length vs) (hq:AwQ A H cb G n vs gs) (hB:B≤H):AwL A B cb v G n gs:=by
 have hl:=hq.1
 rcases h.2 with⟨q,h0⟩|⟨g,c,cur,hv,hb,hg,_⟩
 · refine⟨none,0,?_,fun q h=> ?_⟩
   · rw[←hl,h0];exact q
   · omega
 · have hv':v= .slice (some ⟨g,0,none⟩) vs.length c:=by first|exact hv|(cases hv;rfl)
   refine⟨some ⟨g,0,none⟩,c,by rw[←hl];exact hv',fun q h1=> ?_⟩
   have hqv:q<vs.length:=by omega
   refine⟨g,0,vs[q],rfl,by omega,(Array.getElem?_eq_some_iff.1 hg).1,?_,(hq.2 q hqv h1).base hB⟩
   have:=World.ownsRow.cells (hv'▸h) (g:=g) rfl q vs[q] (List.getElem?_eq_getElem hqv)
   rw[Addr.add_lit] at this
   exact this
end Go.Proofs.YthajilkjfkppoaaGreatDoor
namespace Go.Proofs.YthajilkjfkppoaaGreatDoor
open Go.RowKit
set_option linter.unusedVariables false
set_option linter.unusedSimpArgs false
theorem goPush {w:World} {rb g m c cb n:Nat} {C U:Nat→Int} {S:Nat→Value} (bo:Bool) (hR0:Rg w rb g m c cb C 0) (hC0:Cs w cb n (colOf U) S) (hm:m≤1048576) (hn:n≤1048576) (hbb:Bods n U) (ct:CtOk n m C) (hrb:¬ Xc S rb) (hg:¬ Xc S g) (hcb:¬ cb=rb):
 Calls Tryz.prog 170 #[.pointer (some ⟨rb,0,none⟩),(.func (.func 171) #[.agg #[.bool bo]] #[])] w fun e w'=>e= .returned (.tuple #[])∧Rg w' rb g m c cb C 0∧Cs w' cb n (colOf (rndN C bo U m)) S∧Fr (fun b=>Xc S b∨b=rb) w w':=by
 have hset:=cset_map
 have hxr:∀ b,Xc S b→¬ b=rb:=fun b hb e=>hrb (e▸hb)
 have c0:=hR0.c0
 go_enter Tryz.func170,Tryz.ntmps170
 go_upto_region 1 with fail
 go_loopw [9] (fun s wr=>∃ k:Nat,k≤m∧s= .int .i64 (k:Int)∧Rg wr rb g m c cb C (k % m)∧Cs wr cb n (colOf (rndN C bo U k)) S∧Fr (fun b=>Xc S b∨b=rb) w wr) (fun s _=>m-(intOf s).toNat)
 case atStart=>exact⟨0,Nat.zero_le _,rfl,by rw[Nat.zero_mod];exact hR0,hC0,Fr.refl _ _⟩
 case round=>
  clear hR0 hC0 c0
  obtain⟨k,hk,rfl,hR,hC,hF⟩:=hrel
  by_cases hlt:k<m
  · have hkm:(k:Int)<(m:Int):=by omega
    rw[Nat.mod_eq_of_lt hlt] at hR
    have ca:=ct.a k hlt
    have cb_:=ct.b k hlt
    have cn:=ct.ne k hlt
    have cx:=ct.x k hlt
    have cy:=ct.y k hlt
    have cd:=ct.d k hlt
    have hB:=(hbb.rnd ct bo k hk).1
    have HN:Shut (rndN C bo U (k+1)=oneU (rndN C bo U k) (C (k*5)).toNat (C (k*5+1)).toNat (C (k*5+2)) (C (k*5+3)) bo):=by show _=_;rw[rndN]
    obtain⟨A,hA⟩:∃ A:Nat,C (k*5)=(A:Int):=⟨(C (k*5)).toNat,by omega⟩
    obtain⟨B,hBB⟩:∃ B:Nat,C (k*5+1)=(B:Int):=⟨(C (k*5+1)).toNat,by omega⟩
    rw[hA,hBB,Int.toNat_natCast,Int.toNat_natCast] at HN
    rw[hA] at ca cn
    rw[hBB] at cb_ cn
    go_wp2_with (first
     |(have _:=hF4;go_at_call 171;refine(mPush _ _ _ bo (hC.frame hF4 hcb hxr) hn (by omega) (by omega) (by omega) (hB.row (by omega)) (hB.row (by omega)) cx cy).mono ?_;rintro e w5 ⟨rfl,hC5,hF5⟩)
     |(go_at_call 183;refine(take_q (j:=k) hR hlt hm _ _ _ _ _ rfl rfl rfl hA hBB).mono ?_;rintro e w4 ⟨rfl,hR4,hF4⟩))
    have hF9:Fr (fun b=>Xc S b∨b=rb) w w5:=(hF.trans (hF4.mono fun _ _ e=> .inr e)).trans (hF5.mono fun _ _ e=> .inl e)
    have hR9:=hR4.fr hF5 hrb hg
    go_roundw
    case rel=>exact⟨k+1,by omega,by go_num,hR9,by rw[HN.out];exact hC5,hF9⟩
    case measure=>simp[intOf];omega
  · obtain rfl:k=m:=by omega
    rw[Nat.mod_self] at hR
    go_wp2_with fail
    go_end0
    exact⟨rfl,hR,hC,hF⟩
theorem goPush0 {w:World} {rb c:Nat} (bo:Bool) (c0:w.cell? ⟨rb,0,none⟩=some (.slice none 0 c)):
 Calls Tryz.prog 170 #[.pointer (some ⟨rb,0,none⟩),(.func (.func 171) #[.agg #[.bool bo]] #[])] w fun e w'=>e= .returned (.tuple #[])∧w'=w:=by
 go_enter Tryz.func170,Tryz.ntmps170
 go_upto_region 1 with fail
 refine wp_loop_rounds 1 ?_
 rw[rounds_succ]
 go_wp2_with fail
 go_end0
 exact⟨rfl,rfl⟩
theorem pushAll_0 {w:World} {rb c:Nat} (c0:w.cell? ⟨rb,0,none⟩=some (.slice none 0 c)):
 Calls Tryz.prog 151 #[.pointer (some ⟨rb,0,none⟩)] w fun e w'=>e= .returned (.tuple #[])∧w'=w:=by
 go_enter Tryz.func151,Tryz.ntmps151
 go_wp2
 go_loopw [3] (fun s wr=>∃ r:Nat,r≤4∧s= .int .i64 (r:Int)∧wr=w) (fun s _=>4-(intOf s).toNat)
 case atStart=>exact⟨0,by omega,rfl,rfl⟩
 case round=>
  obtain⟨r,hr,rfl,rfl⟩:=hrel
  by_cases hlt:r<4
  · have h1:(r:Int)<4:=by omega
    go_wp2_with (go_at_call 170;refine(goPush0 _ c0).mono ?_;rintro e w1 ⟨rfl,rfl⟩)
    go_roundw
    case rel=>exact⟨r+1,by omega,by go_num,by first|rfl|trivial⟩
    case measure=>simp[intOf];omega
  · have h1:¬ (r:Int)<4:=by omega
    go_wp2
    go_end0
    exact⟨rfl,rfl⟩
theorem pushAll_r {w:World} {rb g m c cb n:Nat} {C U:Nat→Int} {S:Nat→Value} (hR0:Rg w rb g m c cb C 0) (hC0:Cs w cb n (colOf U) S) (hm:m≤1048576) (hn:n≤1048576) (hbb:Bods n U) (ct:CtOk n m C) (hrb:¬ Xc S rb) (hg:¬ Xc S g) (hcb:¬ cb=rb):
 Calls Tryz.prog 151 #[.pointer (some ⟨rb,0,none⟩)] w fun e w'=>e= .returned (.tuple #[])∧Rg w' rb g m c cb C 0∧Cs w' cb n (colOf (allN C U m 4)) S∧Fr (fun b=>Xc S b∨b=rb) w w':=by
 go_enter Tryz.func151,Tryz.ntmps151
 go_wp2
 go_loopw [3] (fun s wr=>∃ r:Nat,r≤4∧s= .int .i64 (r:Int)∧Rg wr rb g m c cb C 0∧Cs wr cb n (colOf (allN C U m r)) S∧Fr (fun b=>Xc S b∨b=rb) w wr) (fun s _=>4-(intOf s).toNat)
 case atStart=>exact⟨0,by omega,rfl,hR0,hC0,Fr.refl _ _⟩
 case round=>
  clear hR0 hC0
  obtain⟨r,hr,rfl,hR,hC,hF⟩:=hrel
  have hB:=(hbb.all ct r).1
  by_cases hlt:r<4
  · have h1:(r:Int)<4:=by omega
    have HN:Shut (allN C U m (r+1)=rndN C (((r:Nat):Int)==0) (allN C U m r) m):=by show _=_;rw[allN]
    go_wp2_with (go_at_call 170;refine(goPush _ hR hC hm hn hB ct hrb hg hcb).mono ?_;rintro e w1 ⟨rfl,hR1,hC1,hF1⟩)
    go_roundw
    case rel=>exact⟨r+1,by omega,by go_num,hR1,by rw[HN.out];exact hC1,hF.trans hF1⟩
    case measure=>simp[intOf];omega
  · have h1:¬ (r:Int)<4:=by omega
    obtain rfl:r=4:=by omega
    go_wp2
    go_end0
    exact⟨rfl,hR,hC,hF⟩
def Rv (w:World) (rb m cb:Nat) (C:Nat→Int):Prop:=(m=0∧∃ c,w.cell? ⟨rb,0,none⟩=some (.slice none 0 c))∨∃ g c,Rg w rb g m c cb C 0∧rb<g
theorem Rv.fr {X:Nat→Prop} {w w':World} {rb m cb:Nat} {C:Nat→Int} (h:Rv w rb m cb C) (hF:Fr X w w') (hX:∀ b,rb≤b→¬ X b):Rv w' rb m cb C:=by
 rcases h with⟨h1,c,h2⟩|⟨g,c,h1,h2⟩
 · exact .inl ⟨h1,c,(hF.cell (p:=⟨rb,0,none⟩) (cell_lt (a:=⟨rb,0,none⟩) h2) (hX _ (Nat.le_refl _))).trans h2⟩
 · exact .inr ⟨g,c,h1.fr hF (hX _ (Nat.le_refl _)) (hX _ (by omega)),h2⟩
theorem Rv.of_ml {w:World} {rb m cb:Nat} {C:Nat→Int} {v:Value} (h:ML w (rb+1) cb v C m) (c0:w.cell? ⟨rb,0,none⟩=some v) (c1:w.cell? ⟨rb,1,none⟩=some (.int .i64 0)) (f1:w.frozen? ⟨rb,1,none⟩=false):Rv w rb m cb C:=by
 rcases h.is with⟨rfl,rfl⟩|⟨g,c,rfl⟩
 · exact .inl ⟨rfl,0,c0⟩
 · have hg:=(h.lt g rfl).1
   exact .inr ⟨g,c,h.rg c0 c1 f1 (by omega),by omega⟩
theorem pushAll_v {w:World} {rb m cb n:Nat} {C U:Nat→Int} {S:Nat→Value} (h:Rv w rb m cb C) (hC:Cs w cb n (colOf U) S) (hm:m≤1048576) (hn:n≤1048576) (hbb:Bods n U) (ct:CtOk n m C) (hcb:cb<rb) (hxr:∀ b,Xc S b→b<rb):
 Calls Tryz.prog 151 #[.pointer (some ⟨rb,0,none⟩)] w fun e w'=>e= .returned (.tuple #[])∧Rv w' rb m cb C∧Cs w' cb n (colOf (allN C U m 4)) S∧Fr (fun b=>Xc S b∨b=rb) w w':=by
 rcases h with⟨rfl,c,h2⟩|⟨g,c,h1,h2⟩
 · refine(pushAll_0 h2).mono ?_
   rintro e w' ⟨rfl,rfl⟩
   have e4:allN C U 0 4=U:=rfl
   exact⟨rfl,.inl ⟨rfl,c,h2⟩,by rw[e4];exact hC,Fr.refl _ _⟩
 · refine(pushAll_r h1 hC hm hn hbb ct (fun x=>by have:=hxr _ x;omega) (fun x=>by have:=hxr _ x;omega) (by omega)).mono ?_
   rintro e w' ⟨rfl,hR,h3,h4⟩
   exact⟨rfl,.inr ⟨g,c,hR,h2⟩,h3,h4⟩
theorem moveApart_v {w:World} {rb m cb n:Nat} {C U:Nat→Int} {S:Nat→Value} (h:Rv w rb m cb C) (hC:Cs w cb n (colOf U) S) (hm:m≤1048576) (hn:n≤1048576) (hbb:Bods n U) (ct:CtOk n m C) (hcb:cb<rb) (hxr:∀ b,Xc S b→b<rb):
 Calls Tryz.prog 152 #[.pointer (some ⟨rb,0,none⟩)] w fun e w'=>e= .returned (.tuple #[])∧Cs w' cb n (colOf (apartN C U m)) S∧Fr (fun b=>Xc S b∨b=rb) w w':=by
 rcases h with⟨rfl,c,h2⟩|⟨g,c,h1,h2⟩
 · refine(moveApart_0 h2).mono ?_
   rintro e w' ⟨rfl,rfl⟩
   exact⟨rfl,hC,Fr.refl _ _⟩
 · exact moveApart_q h1 hC hm hn hbb ct (fun x=>by have:=hxr _ x;omega) (fun x=>by have:=hxr _ x;omega) (by omega)
end Go.Proofs.YthajilkjfkppoaaGreatDoor
