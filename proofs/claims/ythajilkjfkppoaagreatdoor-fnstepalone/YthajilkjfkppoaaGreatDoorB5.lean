/- Texts of a proof. -/
import Derived.Test.YthajilkjfkppoaaGreatDoorB1
import Derived.Test.YthajilkjfkppoaaGreatDoorB2
import Derived.Laws.OwnMore
import Derived.Test.YthajilkjfkppoaaGreatDoorB3
import Derived.Lib.AppendZeros
import Derived.Deep.RegionHeld3
import Derived.Deep.DeepCutAuto
import Derived.Deep.QuietTactic
import Derived.BigQuiet
import Derived.Deep.RegionWith
set_option maxHeartbeats 16000000
set_option maxRecDepth 20000
namespace Go.Proofs.YthajilkjfkppoaaGreatDoor
open Go.RowKit
set_option linter.unusedVariables false
set_option linter.unusedSimpArgs false
theorem _root_.Go.RowKit.Below.ofDr {B:Nat} {w w':World} (h:Below B w.drew w'):Below B w w':=⟨h.os,h.tape,h.output,h.size,h.block⟩
structure Fr (X:Nat→Prop) (w w':World):Prop where
 os:w'.os=w.os
 tape:w'.tape=w.tape
 output:w'.output=w.output
 size:w.heap.size≤w'.heap.size
 block:∀ k,k<w.heap.size→¬ X k→w'.heap[k]? =w.heap[k]?
 kind:∀ (k:Nat) (o:Obj),w.heap[k]? =some o→o.isCells=false→w'.heap[k]? =some o
theorem Fr.refl (X:Nat→Prop) (w:World):Fr X w w:=⟨rfl,rfl,rfl,Nat.le_refl _,fun _ _ _=>rfl,fun _ _ h _=>h⟩
theorem Fr.trans' {X Y:Nat→Prop} {a b c:World} (h:Fr X a b) (k:Fr Y b c) (hXY:∀ i,i<a.heap.size→Y i→X i):Fr X a c:=
 ⟨k.os.trans h.os,k.tape.trans h.tape,k.output.trans h.output,Nat.le_trans h.size k.size,fun i hi hn=>(k.block i (Nat.lt_of_lt_of_le hi h.size) (fun y=>hn (hXY i hi y))).trans (h.block i hi hn),fun i o hi ho=>k.kind i o (h.kind i o hi ho) ho⟩
theorem Fr.trans {X:Nat→Prop} {a b c:World} (h:Fr X a b) (k:Fr X b c):Fr X a c:=h.trans' k fun _ _ x=>x
theorem Fr.of_below {X:Nat→Prop} {w w':World} (h:Below w.heap.size w w'):Fr X w w':=⟨h.os,h.tape,h.output,h.size,fun k hk _=>h.block k hk,fun k o hk _=>(h.block k (Array.getElem?_eq_some_iff.1 hk).1).trans hk⟩
theorem Fr.below {X:Nat→Prop} {B:Nat} {w w':World} (h:Fr X w w') (hB:B≤w.heap.size) (hX:∀ k,X k→B≤k):Below B w w':=⟨h.os,h.tape,h.output,h.size,fun k hk=>h.block k (by omega) (fun x=>by have:=hX k x;omega)⟩
theorem Fr.others {X:Nat→Prop} {w w':World} (h:Fr X w w'):KeepsOthers w w':=⟨h.size,h.kind⟩
theorem Fr.keeps {X:Nat→Prop} {w w':World} (h:Fr X w w') (B:Nat):KeepsFrom B w w':=h.others.from B
theorem Fr.cell {X:Nat→Prop} {w w':World} (h:Fr X w w') {p:Addr} (hp:p.block<w.heap.size) (hn:¬ X p.block):w'.cell? p=w.cell? p:=World.cell?_of_block (w:=w) (h.block p.block hp hn)
theorem Fr.frozen {X:Nat→Prop} {w w':World} (h:Fr X w w') {p:Addr} (hp:p.block<w.heap.size) (hn:¬ X p.block):w'.frozen? p=w.frozen? p:=World.frozen?_of_block (w:=w) (h.block p.block hp hn)
theorem Fr.mono {X Y:Nat→Prop} {w w':World} (h:Fr X w w') (hXY:∀ k,k<w.heap.size→X k→Y k):Fr Y w w':=⟨h.os,h.tape,h.output,h.size,fun k hk hn=>h.block k hk (fun x=>hn (hXY k hk x)),h.kind⟩
theorem Fr.setCell {X:Nat→Prop} {w:World} {p:Addr} (hp:X p.block) (v:Value):Fr X w (w.setCell p v):=
 ⟨rfl,rfl,rfl,by simp[World.setCell],fun k _ hn=>Below.heap_setCell _ _ _ _ (fun e=>hn (by subst e;exact hp)),(KeepsOthers.setCell w p v).same⟩
theorem Fr.grown {X:Nat→Prop} {w w':World} {row:Option Nat} (hg:w.grownBy w' row) (hX:∀ b,row=some b→X b) (hc:∀ b o,row=some b→w.heap[b]? =some o→o.isCells=true):Fr X w w':=
 ⟨hg.os,hg.tape,hg.output,hg.size,fun k hk hn=>hg.block k hk (fun e=>hn (hX k e.symm)),fun k o hk ho=>(hg.block k (Array.getElem?_eq_some_iff.1 hk).1 (fun e=>by have:=hc k o e.symm hk;rw[ho] at this;cases this)).trans hk⟩
theorem Fr.drew {X:Nat→Prop} {w w':World} (h:Fr X w w'):Fr X w w'.drew:=h.trans (Fr.of_below (Below.drew (Below.refl _ _)))
theorem OwnL.isCells {w:World} {base t k n:Nat} {v:Value} {U:Nat→Int} (h:OwnL w base t k v n U):∀ b o,v.ownBlock=some b→w.heap[b]? =some o→o.isCells=true:=by
 intro b o hb ho
 rcases h.2 with⟨hv,_⟩|⟨g,cap,cur,hv,_,hg,_⟩
 · subst hv;cases hb
 · subst hv
   simp only[Value.ownBlock,Option.some.injEq] at hb
   subst hb
   rw[hg] at ho
   cases ho
   rfl
theorem OwnL.sm {w w':World} {B base t k n:Nat} {v:Value} {U:Nat→Int} (h:OwnL w base t k v n U) (hs:Sm B w w'):OwnL w' base t k v n U:=by
 refine⟨h.1,?_⟩
 rcases h.2 with q|⟨g,cap,cur,hv,hb,hg,rest⟩
 · exact .inl q
 · exact .inr ⟨g,cap,cur,hv,hb,hs.cells _ _ hg rfl,rest⟩
theorem OwnL.frame {X:Nat→Prop} {w w':World} {base t k n:Nat} {v:Value} {U:Nat→Int} (h:OwnL w base t k v n U) (hs:Fr X w w') (hX:∀ b,v.ownBlock=some b→¬ X b):OwnL w' base t k v n U:=by
 refine⟨h.1,?_⟩
 rcases h.2 with q|⟨g,cap,cur,hv,hb,hg,rest⟩
 · exact .inl q
 · exact .inr ⟨g,cap,cur,hv,hb,(hs.block _ (Array.getElem?_eq_some_iff.1 hg).1 (hX g (by rw[hv];rfl))).trans hg,rest⟩
theorem OwnL.some {w:World} {base t k n:Nat} {v:Value} {U:Nat→Int} (h:OwnL w base t k v n U) (hn:0<n):∃ g c,v= .slice (Option.some ⟨g,0,none⟩) n c:=by
 rcases h.2 with⟨_,e⟩|⟨g,cap,cur,hv,_⟩
 · omega
 · exact⟨g,cap,hv⟩
theorem OwnL.at1 {w:World} {base t n g c:Nat} {U:Nat→Int} (h:OwnL w base t 1 (.slice (Option.some ⟨g,0,none⟩) n c) n U) {j:Nat} (hj:j<n):w.cell? ⟨g,j,none⟩=Option.some (.int .i64 (U j)):=by
 have:=World.ownsRow.cellAt h j (by omega)
 rw[this,numL_get (by omega)]
theorem OwnL.fro {w:World} {base t k n g c:Nat} {U:Nat→Int} (h:OwnL w base t k (.slice (Option.some ⟨g,0,none⟩) n c) n U) (j:Nat):w.frozen? ⟨g,j,none⟩=false:=World.ownsRow.frozenAt h j
theorem OwnL.put {w:World} {base t n g c:Nat} {U:Nat→Int} (h:OwnL w base t 1 (.slice (Option.some ⟨g,0,none⟩) n c) n U) {j:Nat} (hj:j<n) (y:Int):OwnL (w.setCell ⟨g,j,none⟩ (.int .i64 y)) base t 1 (.slice (Option.some ⟨g,0,none⟩) n c) n (fun q=>if q=j then y else U q):=by
 have h1:=(World.ownsRow.stored h j (.int .i64 y)).1
 unfold OwnL
 rw[show numL (n*1) (fun q=>if q=j then y else U q)=(numL (n*1) U).set j (.int .i64 y) from ?_]
 · exact h1
 · apply List.ext_getElem?
   intro q
   rw[List.getElem?_set,numL_len]
   by_cases hq:q<n*1
   · rw[numL_get hq]
     by_cases e:j=q
     · subst e;simp;omega
     · rw[if_neg e,numL_get hq];simp[Ne.symm e]
   · rw[List.getElem?_eq_none (by rw[numL_len];omega)]
     by_cases e:j=q
     · omega
     · rw[if_neg e,List.getElem?_eq_none (by rw[numL_len];omega)]
def snoc (n:Nat) (U:Nat→Int) (y:Int):Nat→Int:=fun q=>if q=n then y else U q
theorem step_app1 {P:Program} {w:World} {ops:Array Oper} {o:Oper} {a:Act} {K:Act→World→Prop} {Q:Exit→Act→World→Prop} {E:Prop} (hgd:o.guard=none) (s x:Operand) (t:TypeId)
 (ho:o.op= .call {callee:= .builtin .append,args:= #[s,x],argTypes:= #[t,t]})
 (base e:Nat) (z:Value) (ht:P.underlying t=some (.slice e)) (hinfo:(P.info? e).map (fun i=>(i.zero,i.size,i.bytes))=some (some z,1,8)) (hzs:z.cells.size=1)
 (v:Value) (n:Nat) (U:Nat→Int) (hs:a.eval s=v) (h:OwnL w base e 1 v n U) (B c:Nat) (y:Int) (hx:a.eval x= .slice (some ⟨B,0,none⟩) 1 c) (hv:w.cell? ⟨B,0,none⟩=some (.int .i64 y))
 (hn:n≤1048576) (hbase:base≤w.heap.size) (H:Nat) (hH:w.heap.size=H)
 (hK:∀ g cap w',OwnL w' base e 1 (.slice (some ⟨g,0,none⟩) (n+1) cap) (n+1) (snoc n U y)→w.grownBy w' v.ownBlock→(v.ownBlock=some g∨g=H)→g<w'.heap.size→K (a.put o.dst (.slice (some ⟨g,0,none⟩) (n+1) cap)) w'):
 if Region.wanted o (yielded ops a.tmps)=true then Oper.wp P o a w K Q else E:=by
 obtain⟨i,hi,hzz⟩:=Option.map_eq_some_iff.1 hinfo
 simp only[Prod.mk.injEq] at hzz
 obtain⟨hz,hsz,hby⟩:=hzz
 refine step_append_lies w hgd s x t ho base e i z 1 8 ht hi hz hsz hby hzs (by omega) v n (numL (n*1) U) hs h ⟨B,0,none⟩ 1 c [.int .i64 y] hx (by simp) ?_ (by intro u hu;simp at hu;subst hu;rfl) (by omega) (by unfold maxLen;omega) (by omega) hbase H hH ?_
 · intro j u hu
   cases j with
   |zero=>simp at hu;subst hu;simpa [Addr.add] using hv
   |succ n=>simp at hu
 · intro g cap w' h2 h3 h4 h5
   refine hK g cap w' ?_ h3 h4 h5
   unfold OwnL
   rw[show numL ((n+1)*1) (snoc n U y)=numL (n*1) U++[.int .i64 y] from ?_]
   · exact h2
   · apply List.ext_getElem?
     intro q
     rcases Nat.lt_trichotomy q n with l|l|l
     · rw[List.getElem?_append_left (by rw[numL_len];omega),numL_get (by omega),numL_get (by omega),snoc,if_neg (by omega)]
     · subst l;rw[List.getElem?_append_right (by rw[numL_len];omega),numL_len,numL_get (by omega)];simp[snoc]
     · rw[List.getElem?_append_right (by rw[numL_len];omega),numL_len,List.getElem?_eq_none (by rw[numL_len];omega),List.getElem?_eq_none (by simp;omega)]
structure Cs (w:World) (cb n:Nat) (C:Nat→Nat→Int) (S:Nat→Value):Prop where
 hd:∀ i,i<12→w.cell? ⟨cb,i,none⟩=some (S i)
 nf:∀ i,i<12→w.frozen? ⟨cb,i,none⟩=false
 own:∀ i,i<12→OwnL w cb 64 1 (S i) n (C i)
 ncb:∀ i,i<12→∀ b,(S i).ownBlock=some b→b≠cb
 dis:∀ i j,i<12→j<12→i≠j→∀ b,(S i).ownBlock=some b→(S j).ownBlock≠some b
def Xc (S:Nat→Value):Nat→Prop:=fun k=>∃ i,i<12∧(S i).ownBlock=some k
theorem Cs.lt {w:World} {cb n:Nat} {C:Nat→Nat→Int} {S:Nat→Value} (h:Cs w cb n C S):cb<w.heap.size:=cell_lt (a:=⟨cb,0,none⟩) (h.hd 0 (by omega))
theorem Cs.xlt {w:World} {cb n:Nat} {C:Nat→Nat→Int} {S:Nat→Value} (h:Cs w cb n C S) {b:Nat} (hb:Xc S b):cb<b∧b<w.heap.size:=by
 obtain⟨i,hi,e⟩:=hb
 have:=(h.own i hi).lt b e
 have:=h.ncb i hi b e
 omega
theorem Cs.below {w w':World} {cb n:Nat} {C:Nat→Nat→Int} {S:Nat→Value} (h:Cs w cb n C S) (hb:Below w.heap.size w w'):Cs w' cb n C S:=
 ⟨fun i hi=>(hb.cell (p:=⟨cb,i,none⟩) h.lt).trans (h.hd i hi),fun i hi=>(hb.frozen (p:=⟨cb,i,none⟩) h.lt).trans (h.nf i hi),fun i hi=>(h.own i hi).below hb,h.ncb,h.dis⟩
theorem Cs.sm {w w':World} {B cb n:Nat} {C:Nat→Nat→Int} {S:Nat→Value} (h:Cs w cb n C S) (hs:Sm B w w'):Cs w' cb n C S:=
 ⟨fun i hi=>hs.cell (h.hd i hi),fun i hi=>hs.frozen (h.hd i hi) (h.nf i hi),fun i hi=>(h.own i hi).sm hs,h.ncb,h.dis⟩
theorem Cs.frame {X:Nat→Prop} {w w':World} {cb n:Nat} {C:Nat→Nat→Int} {S:Nat→Value} (h:Cs w cb n C S) (hs:Fr X w w') (h0:¬ X cb) (hX:∀ b,Xc S b→¬ X b):Cs w' cb n C S:=
 ⟨fun i hi=>(hs.cell (p:=⟨cb,i,none⟩) h.lt h0).trans (h.hd i hi),fun i hi=>(hs.frozen (p:=⟨cb,i,none⟩) h.lt h0).trans (h.nf i hi),fun i hi=>(h.own i hi).frame hs fun b hb=>hX b ⟨i,hi,hb⟩,h.ncb,h.dis⟩
theorem Cs.congr {w:World} {cb n:Nat} {C C':Nat→Nat→Int} {S:Nat→Value} (h:Cs w cb n C S) (e:∀ i k,i<12→k<n→C i k=C' i k):Cs w cb n C' S:=
 ⟨h.hd,h.nf,fun i hi=>(h.own i hi).congr fun q hq=>e i q hi (by omega),h.ncb,h.dis⟩
structure Cell1 (w:World) (cb n i k:Nat) (y:Int) (g c:Nat):Prop where
 hd:w.cell? ⟨cb,i,none⟩=some (.slice (some ⟨g,0,none⟩) n c)
 at_:w.cell? ⟨g,k,none⟩=some (.int .i64 y)
 fro:w.frozen? ⟨g,k,none⟩=false
 gl:g<w.heap.size
 cg:cb<g
theorem Cs.at {w:World} {cb n:Nat} {C:Nat→Nat→Int} {S:Nat→Value} (h:Cs w cb n C S) {i k:Nat} (hi:i<12) (hk:k<n):∃ g c,S i= .slice (some ⟨g,0,none⟩) n c∧Cell1 w cb n i k (C i k) g c:=by
 obtain⟨g,c,e⟩:=(h.own i hi).some (by omega)
 have ho:=h.own i hi
 have hh:=h.hd i hi
 rw[e] at ho hh
 have hl:=h.xlt (b:=g) ⟨i,hi,by rw[e];rfl⟩
 exact⟨g,c,e,hh,ho.at1 hk,ho.fro k,hl.2,hl.1⟩
def setC (C:Nat→Nat→Int) (i k:Nat) (y:Int):Nat→Nat→Int:=fun i' k'=>if i'=i∧k'=k then y else C i' k'
theorem Cs.set {w:World} {cb n:Nat} {C:Nat→Nat→Int} {S:Nat→Value} (h:Cs w cb n C S) {i k g c:Nat} (hi:i<12) (hk:k<n) (e:S i= .slice (some ⟨g,0,none⟩) n c) (y:Int):Cs (w.setCell ⟨g,k,none⟩ (.int .i64 y)) cb n (setC C i k y) S:=by
 have hx:Xc S g:=⟨i,hi,by rw[e];rfl⟩
 have hl:=h.xlt hx
 have hf:Fr (fun b=>b=g) w (w.setCell ⟨g,k,none⟩ (.int .i64 y)):=Fr.setCell (X:=fun b=>b=g) rfl _
 refine⟨fun j hj=>(hf.cell (p:=⟨cb,j,none⟩) h.lt (by show ¬ cb=g;omega)).trans (h.hd j hj),fun j hj=>(hf.frozen (p:=⟨cb,j,none⟩) h.lt (by show ¬ cb=g;omega)).trans (h.nf j hj),fun j hj=> ?_,h.ncb,h.dis⟩
 by_cases eij:j=i
 · subst eij
   have ho:=h.own j hj
   rw[e] at ho ⊢
   exact(ho.put hk y).congr fun q _=>by by_cases eq:q=k<;>simp[setC,eq]
 · refine((h.own j hj).frame hf fun b hb eb=> ?_).congr fun q _=>by simp[setC,eij]
   subst eb
   exact h.dis i j hi hj (Ne.symm eij) b (by rw[e];rfl) hb
end Go.Proofs.YthajilkjfkppoaaGreatDoor
namespace Go.Proofs.YthajilkjfkppoaaGreatDoor
open Go.RowKit
set_option linter.unusedVariables false
section
variable {P:Program} {md:Region.Mode} {ops:Array Oper} {Q:Exit→Act→World→Prop} {S:World→Prop}
theorem td (i j:Nat) {o1 o2 o3 o4 o5 o6 p1 p2 p3 p4 p5 p6} {v u:Value} {fuel:Nat} {listed:Array Bool} {a a':Act} {w w1:World} (hS:S w)
 (h:S w1→wpAnyH P md ops Q S fuel ((listed.setIfInBounds i true).setIfInBounds j true) a' w1)
 (hr:(Region.ready md ops listed=[i,j]∧Region.ready md ops (listed.setIfInBounds i true)=[j]∧Region.ready md ops (listed.setIfInBounds j true)=[i]):=by exact⟨by kernel_rfl,by kernel_rfl,by kernel_rfl⟩)
 (hi:ops[i]? =some (Oper.mk o1 o2 o3 o4 o5 o6):=by rfl) (hj:ops[j]? =some (Oper.mk p1 p2 p3 p4 p5 p6):=by rfl)
 (hc:(Region.noSelect ops&&((Oper.mk o1 o2 o3 o4 o5 o6).apart ops (Oper.mk p1 p2 p3 p4 p5 p6)&&(i !=j)))=true:=by kernel_rfl)
 (wi:Region.wanted (Oper.mk o1 o2 o3 o4 o5 o6) (yielded ops a.tmps)=true:=by rfl) (wj:Region.wanted (Oper.mk p1 p2 p3 p4 p5 p6) (yielded ops a.tmps)=true:=by rfl)
 (vi:(execOp a.eval (Oper.mk o1 o2 o3 o4 o5 o6)).run P w= .ok (.value v) w:=by(go_simp;(try with_reducible rfl)))
 (vj:(execOp a.eval (Oper.mk p1 p2 p3 p4 p5 p6)).run P w= .ok (.value u) w1:=by(go_simp;(first|done|exact⟨rfl,rfl⟩|with_reducible rfl)))
 (vi1:(execOp a.eval (Oper.mk o1 o2 o3 o4 o5 o6)).run P w1= .ok (.value v) w1:=by(go_simp;(try with_reducible rfl)))
 (hS1:S w1:=by((try dsimp only);(first|(go_simp;done)|(go_keep;done))))
 (he:(a.put (Oper.mk o1 o2 o3 o4 o5 o6).dst v).put (Oper.mk p1 p2 p3 p4 p5 p6).dst u=a':=by((try simp only[Act.put,List.setIfInBounds_toArray,List.set_cons_zero,List.set_cons_succ]);(try with_reducible rfl))):
 wpAnyH P md ops Q S (fuel+2) listed a w:=by
 subst he
 simp only[Bool.and_eq_true] at hc
 obtain⟨h1,h2,h3⟩:=Oper.apart_spec hc.2.1
 have hne:i≠j:=by simpa using hc.2.2
 have hsel:=Region.noSelect_spec hc.1
 obtain⟨r0,r1,r2⟩:=hr
 refine⟨fun e=>(by rw[r0] at e;cases e),fun x hx=> ?_⟩
 rw[r0] at hx
 rcases List.mem_cons.1 hx with rfl|hx
 · unfold wpOp
   rw[hi]
   simp only[wi,if_true]
   refine .inl ?_
   simp only[Oper.wp,vi,Oper.upon]
   refine⟨hS,⟨fun e=>(by rw[r1] at e;cases e),fun y hy=> ?_⟩⟩
   rw[r1] at hy
   obtain rfl:=List.mem_singleton.1 hy
   unfold wpOp
   rw[hj]
   simp only[wanted_put _ a _ v h1,wj,if_true]
   refine .inl ?_
   rw[Oper.wp,execOp_put _ (fun cs b=>hsel _ _ cs b hj) a _ v h1,vj]
   exact⟨hS1,h hS1⟩
 · obtain rfl:=List.mem_singleton.1 hx
   unfold wpOp
   rw[hj]
   simp only[wj,if_true]
   refine .inl ?_
   simp only[Oper.wp,vj,Oper.upon]
   refine⟨hS1,⟨fun e=>(by rw[r2] at e;cases e),fun y hy=> ?_⟩⟩
   rw[r2] at hy
   obtain rfl:=List.mem_singleton.1 hy
   unfold wpOp
   rw[hi]
   simp only[wanted_put _ a _ u h3,wi,if_true]
   refine .inl ?_
   rw[Oper.wp,execOp_put _ (fun cs b=>hsel _ _ cs b hi) a _ u h3,vi1]
   refine⟨hS1,?_⟩
   have:=h hS1
   rw[Array.setIfInBounds_comm _ _ hne,Act.put_comm a v u h2] at this
   exact this
end
end Go.Proofs.YthajilkjfkppoaaGreatDoor
namespace Go.Proofs.YthajilkjfkppoaaGreatDoor
open Go.RowKit
set_option linter.unusedVariables false
set_option linter.unusedSimpArgs false
def lenS (L:Nat→Nat):Nat→Nat
 |0=>0
 |k+1=>lenS L k+L k
abbrev zcBody:Value:= .agg #[.int .i64 0,.int .i64 0,.int .i64 0,.int .i64 0,.int .i64 0,.int .i64 0,.int .i64 0,.int .i64 0,.int .i64 0,.int .i64 0,.int .i64 0,.int .i64 0]
theorem infoItBody:(Tryz.prog.info? 35).map (fun i=>(i.zero,i.size,i.bytes))=some (some zcBody,12,96):=by kernel_rfl
def catSBody (L:Nat→Nat) (X:Nat→Nat→Int):Nat→Nat→Int
 |0=>fun _=>0
 |k+1=>cat (lenS L k*12) (catSBody L X k) (X k)
abbrev zcPair:Value:= .agg #[.int .i64 0,.int .i64 0]
def catSPair (L:Nat→Nat) (X:Nat→Nat→Int):Nat→Nat→Int
 |0=>fun _=>0
 |k+1=>cat (lenS L k*2) (catSPair L X k) (X k)
theorem wayTimes_any (x y n:Int) (w:World) (hx: -1000000000≤x∧x≤1000000000) (hy: -1000000000≤y∧y≤1000000000) (hn: -1000000000≤n∧n≤1000000000):
 Calls Tryz.prog 187 #[vv x y,.int .i64 n] w fun e w'=>e= .returned (vv (fc ((x*n).tdiv 256)) (fc ((y*n).tdiv 256)))∧Below w.heap.size w w':=by
 have hset:=cset_map
 go_enter Tryz.func187,Tryz.ntmps187
 go_wp2
 go_region_with (go_at_call 194;refine(times_any _ _ _ (by omega) (by omega)).mono ?_;rintro e w' ⟨rfl,rfl⟩)
 all_goals
  go_wp2
  exact bodyPost_ret (v:=vv (fc ((x*n).tdiv 256)) (fc ((y*n).tdiv 256))) (by simp[results,Tryz.results187,go_sem, *]) rfl ⟨rfl,bel_a⟩
theorem dot_any (x y u v:Int) (w:World) (hx: -1000000000≤x∧x≤1000000000) (hy: -1000000000≤y∧y≤1000000000) (hu: -1000000000≤u∧u≤1000000000) (hv: -1000000000≤v∧v≤1000000000):
 Calls Tryz.prog 193 #[vv x y,vv u v] w fun e w'=>e= .returned (.int .i64 (fc ((x*u+y*v).tdiv 256)))∧Below w.heap.size w w':=by
 have p:=mul_bd (A:=1000000000) (B:=1000000000) hx hu
 have q:=mul_bd (A:=1000000000) (B:=1000000000) hy hv
 have ht:=i64w (n:=(x*u+y*v).tdiv 256) (by have:=tdiv_bd (x:=x*u+y*v) (B:=2000000000000000000) 256 (by omega);omega)
 have hset:=cset_map
 go_enter Tryz.func193,Tryz.ntmps193
 go_wp2_with (first
  |(go_at_call 174;refine(products_any _ _ _ _ _ (by omega) (by omega) (by omega) (by omega)).mono ?_;rintro e w2 ⟨rfl,hb2⟩;obtain⟨hc2,hf2⟩:=bcell hb2;have hz2:=hb2.size;(try simp at hz2);have hq2x0a:w.heap.size<w2.heap.size:=(by omega);have hq2x1a:w.heap.size+1<w2.heap.size:=(by omega))
  |(go_at_call 91;refine(held_any _ _ _ (by omega) (by omega)).mono ?_;rintro e w' ⟨rfl,rfl⟩))
 all_goals
  go_ret
  exact⟨rfl,bel_a⟩
theorem length_any (x y:Int) (w:World) (hx: -1000000000≤x∧x≤1000000000) (hy: -1000000000≤y∧y≤1000000000):
 Calls Tryz.prog 176 #[vv x y] w fun e w'=>e= .returned (.int .i64 (vl x y))∧Below w.heap.size w w':=by
 have hs:=sq_bd hx hy
 have hset:=cset_map
 go_enter Tryz.func176,Tryz.ntmps176
 go_wp2_with (first
  |(go_at_call 174;refine(products_any _ _ _ _ _ (by omega) (by omega) (by omega) (by omega)).mono ?_;rintro e w2 ⟨rfl,hb2⟩;obtain⟨hc2,hf2⟩:=bcell hb2;have hz2:=hb2.size;(try simp at hz2);have hq2x0a:w.heap.size<w2.heap.size:=(by omega))
  |(go_at_call 189;refine(root_any _ _ (by omega)).mono ?_;rintro e w5 ⟨rfl,hb5⟩;obtain⟨hc5,hf5⟩:=bcell hb5;have hz5:=hb5.size;(try simp at hz5);have hq5x0a:w.heap.size<w5.heap.size:=(by omega))
  |(go_at_call 91;refine(held_any _ _ _ (by omega) (by omega)).mono ?_;rintro e w' ⟨rfl,rfl⟩))
 go_ret
 exact⟨rfl,bel_a⟩
theorem unit_any (x y:Int) (w:World) (hx: -1000000000≤x∧x≤1000000000) (hy: -1000000000≤y∧y≤1000000000):
 Calls Tryz.prog 175 #[vv x y] w fun e w'=>e= .returned (vv (ux x y) (uy x y))∧Below w.heap.size w w':=by
 have hl:=vl_bd x y
 by_cases h0:vl x y=0
 · have e1:ux x y=0:=if_pos h0
   have e2:uy x y=256:=if_pos h0
   have hset:=cset_map
   go_enter Tryz.func175,Tryz.ntmps175
   go_wp2_with (go_at_call 176;refine(length_any _ _ _ (by omega) (by omega)).mono ?_;rintro e w6 ⟨rfl,hb6⟩;obtain⟨hc6,hf6⟩:=bcell hb6;have hz6:=hb6.size;(try simp at hz6);have hq6x0a:w.heap.size<w6.heap.size:=(by omega);have hq6x1a:w.heap.size+1<w6.heap.size:=(by omega))
   exact bodyPost_ret (v:=vv 0 256) (by simp[results,Tryz.results175,go_sem, *]) rfl ⟨by rw[e1,e2],bel_a⟩
 · have e1:ux x y=(x*256).tdiv (vl x y):=if_neg h0
   have e2:uy x y=(y*256).tdiv (vl x y):=if_neg h0
   have t1:=w64 (n:=(x*256).tdiv (vl x y)) (by have:=tdiv_bd (x:=x*256) (B:=256000000000) (vl x y) (by omega);omega)
   have t2:=w64 (n:=(y*256).tdiv (vl x y)) (by have:=tdiv_bd (x:=y*256) (B:=256000000000) (vl x y) (by omega);omega)
   have s1:=i64w (n:=(x*256).tdiv (vl x y)) (by have:=tdiv_bd (x:=x*256) (B:=256000000000) (vl x y) (by omega);omega)
   have s2:=i64w (n:=(y*256).tdiv (vl x y)) (by have:=tdiv_bd (x:=y*256) (B:=256000000000) (vl x y) (by omega);omega)
   have E1:Hid (ux x y=(x*256).tdiv (vl x y)):=e1
   have E2:Hid (uy x y=(y*256).tdiv (vl x y)):=e2
   clear e1 e2
   have hset:=cset_map
   go_enter Tryz.func175,Tryz.ntmps175
   go_wp2_with (go_at_call 176;refine(length_any _ _ _ (by omega) (by omega)).mono ?_;rintro e w6 ⟨rfl,hb6⟩;obtain⟨hc6,hf6⟩:=bcell hb6;have hz6:=hb6.size;(try simp at hz6);have hq6x0a:w.heap.size<w6.heap.size:=(by omega);have hq6x1a:w.heap.size+1<w6.heap.size:=(by omega))
   go_region
   all_goals
    go_wp2
    exact bodyPost_ret (v:=vv ((x*256).tdiv (vl x y)) ((y*256).tdiv (vl x y))) (by simp[results,Tryz.results175,go_sem, *]) rfl ⟨by rw[E1.out,E2.out],bel_a⟩
end Go.Proofs.YthajilkjfkppoaaGreatDoor
