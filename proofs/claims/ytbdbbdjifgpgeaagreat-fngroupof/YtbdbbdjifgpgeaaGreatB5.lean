/- Texts of a proof. -/
import Derived.Laws.World
import Derived.Deep.QuietTactic
import Derived.Test.YtbdbbdjifgpgeaaGreatB2
import Derived.Test.YtbdbbdjifgpgeaaGreatB1
import Derived.Deep.AppendLies
import Derived.Deep.Upon
import Derived.Maps.AppendAt
import Derived.Test.YtbdbbdjifgpgeaaGreatRfG
import Derived.Laws.OwnMore
import Derived.Lib.AppendZeros
import Derived.Deep.RegionHeld3
import Derived.Deep.DeepCutAuto
set_option maxHeartbeats 16000000
set_option maxRecDepth 20000
namespace Go.Proofs.YtbdbbdjifgpgeaaGreat
open Go.RowKit
theorem zz:(∀ w:World,w.drew.heap.size=w.heap.size)∧(∀ (w:World) (o:Obj),(w.alloc o).heap.size=w.heap.size+1)∧(∀ (w:World) (a:Addr) (v:Value),(w.setCell a v).heap.size=w.heap.size):=
 ⟨World.size_drew,World.size_alloc,World.size_setCell⟩
end Go.Proofs.YtbdbbdjifgpgeaaGreat
namespace Go.Proofs.YtbdbbdjifgpgeaaGreat
open Go.RowKit
set_option linter.unusedVariables false
end Go.Proofs.YtbdbbdjifgpgeaaGreat
namespace Go.Proofs.YtbdbbdjifgpgeaaGreat
open Go.RowKit
set_option linter.unusedVariables false
set_option linter.unusedSimpArgs false
end Go.Proofs.YtbdbbdjifgpgeaaGreat
namespace Go.Proofs.YtbdbbdjifgpgeaaGreat
open Go.RowKit
set_option linter.unusedVariables false
set_option linter.unusedSimpArgs false
def numL (m:Nat) (U:Nat→Int):List Value:=(List.range m).map fun q=>Value.int .i64 (U q)
theorem numL_len (m:Nat) (U:Nat→Int):(numL m U).length=m:=by simp[numL]
theorem numL_get {m:Nat} {U:Nat→Int} {q:Nat} (h:q<m):(numL m U)[q]? =some (.int .i64 (U q)):=by simp[numL,h]
def cat (p:Nat) (U X:Nat→Int):Nat→Int:=fun q=>if q<p then U q else X (q-p)
theorem numL_cat (p r:Nat) (U X:Nat→Int):numL p U++numL r X=numL (p+r) (cat p U X):=by
 apply List.ext_getElem?
 intro q
 by_cases h:q<p
 · rw[List.getElem?_append_left (by rw[numL_len];exact h),numL_get h,numL_get (by omega)];simp[cat,h]
 · rw[List.getElem?_append_right (by rw[numL_len];omega),numL_len]
   by_cases h2:q<p+r
   · rw[numL_get (by omega),numL_get h2];simp[cat,h]
   · rw[List.getElem?_eq_none (by rw[numL_len];omega),List.getElem?_eq_none (by rw[numL_len];omega)]
def OwnL (w:World) (base t k:Nat) (v:Value) (n:Nat) (U:Nat→Int):Prop:=w.ownsRow base t k v n (numL (n*k) U)
theorem OwnL.nil (w:World) (base t k:Nat) (U:Nat→Int):OwnL w base t k (.slice none 0 0) 0 U:=by
 unfold OwnL;rw[Nat.zero_mul];exact World.ownsRow_nil w base t k
theorem OwnL.flat {w:World} {base t k n:Nat} {a:Option Addr} {c:Nat} {U:Nat→Int} (h:OwnL w base t k (.slice a n c) n U):Flat w a (n*k) U:=by
 intro h0
 rcases h.2 with⟨hv,hn⟩|⟨g,cap,cur,hv,hb,hg,hle,hm,hs,ht⟩
 · subst hn;omega
 · simp only[Value.slice.injEq] at hv
   obtain⟨rfl,_,rfl⟩:=hv
   have hlt:g<w.heap.size:=(Array.getElem?_eq_some_iff.1 hg).1
   refine⟨g,0,rfl,hlt,fun q hq=> ?_⟩
   have:=World.ownsRow.cells h (g:=g) rfl q _ (numL_get hq)
   rw[Addr.add_lit] at this
   exact this
theorem OwnL.congr {w:World} {base t k n:Nat} {v:Value} {U V:Nat→Int} (h:OwnL w base t k v n U) (e:∀ q,q<n*k→U q=V q):OwnL w base t k v n V:=by
 unfold OwnL at*
 rw[show numL (n*k) V=numL (n*k) U from List.map_congr_left fun q hq=>by rw[e q (List.mem_range.1 hq)]]
 exact h
theorem OwnL.kept {w w':World} {base t k n:Nat} {v:Value} {U:Nat→Int} {row:Option Nat} (h:OwnL w base t k v n U) (hg:w.grownBy w' row) (hne:v.ownBlock=none∨v.ownBlock≠row):OwnL w' base t k v n U:=World.ownsRow.kept h hg hne
theorem below_grown {B:Nat} {w w':World} (h:Below B w w'):B=w.heap.size→w.grownBy w' none:=fun e=>⟨h.os,h.tape,h.output,h.size,fun k hk _=>h.block k (e▸hk)⟩
theorem OwnL.below {w w':World} {base t k n:Nat} {v:Value} {U:Nat→Int} (h:OwnL w base t k v n U) (hb:Below w.heap.size w w'):OwnL w' base t k v n U:=by
 have hg:=below_grown hb rfl
 cases e:v.ownBlock with
 |none=>exact World.ownsRow.kept h hg (.inl e)
 |some b=>exact World.ownsRow.kept h hg (.inr (by rw[e];simp))
theorem OwnL.lt {w:World} {base t k n:Nat} {v:Value} {U:Nat→Int} (h:OwnL w base t k v n U):∀ b,v.ownBlock=some b→base≤b∧b<w.heap.size:=World.ownsRow.lt h
theorem OwnL.is {w:World} {base t k n:Nat} {v:Value} {U:Nat→Int} (h:OwnL w base t k v n U):∃ a c,v= .slice a n c:=by
 rcases h.2 with⟨hv,hn⟩|⟨g,cap,cur,hv,_⟩
 · exact⟨none,0,by rw[hv,hn]⟩
 · exact⟨_,_,hv⟩
theorem OwnL.le {w:World} {base t k n:Nat} {a:Option Addr} {c:Nat} {U:Nat→Int} (h:OwnL w base t k (.slice a n c) n U):n≤c:=by
 rcases h.2 with⟨hv,hn⟩|⟨g,cap,cur,hv,_,_,hle,_⟩
 · simp only[Value.slice.injEq] at hv;omega
 · simp only[Value.slice.injEq] at hv;omega
theorem Row.own {w:World} {b t n k base:Nat} {U:Nat→Int} (h:Row w b t (n*k) U) (hb:base≤b) (hn:n≤maxLen):OwnL w base t k (.slice (some ⟨b,0,none⟩) n n) n U:=by
 obtain⟨c,hc,hs,hv⟩:=h
 refine⟨by rw[numL_len],.inr ⟨b,n,c,rfl,hb,hc,Nat.le_refl _,hn,hs,?_⟩⟩
 apply List.ext_getElem?
 intro q
 by_cases hq:q<n*k
 · rw[List.getElem?_take,if_pos hq,numL_get hq,←hv q hq];simp
 · rw[List.getElem?_eq_none (by simp;omega),List.getElem?_eq_none (by rw[numL_len];omega)]
theorem OwnL.base {w:World} {base t k n:Nat} {v:Value} {U:Nat→Int} {B:Nat} (h:OwnL w base t k v n U) (hB:B≤base):OwnL w B t k v n U:=by
 refine⟨h.1,?_⟩
 rcases h.2 with q|⟨g,cap,cur,hv,hb,rest⟩
 · exact .inl q
 · exact .inr ⟨g,cap,cur,hv,by omega,rest⟩
theorem run_app {P:Program} (base t ty e k bytes:Nat) (z:Value) (ht:P.underlying t=some (.slice e)) (hinfo:(P.info? e).map (fun i=>(i.zero,i.size,i.bytes))=some (some z,k,bytes)) (hzs:z.cells.size=k) (hk:0<k)
 (w:World) (v:Value) (n:Nat) (U:Nat→Int) (h:OwnL w base e k v n U) (a:Option Addr) (m c:Nat) (X:Nat→Int) (hx:Flat w a (m*k) X)
 (h63:n+m≤maxLen) (hbytes:(n+m)*bytes≤140737488355328) (hbase:base≤w.heap.size):
 ∃ a' c' w',(Builtin.append_ #[t,t] ty #[v,.slice a m c]).run P w= .ok (.slice a' (n+m) c') w'∧OwnL w' base e k (.slice a' (n+m) c') (n+m) (cat (n*k) U X)∧w.grownBy w' v.ownBlock:=by
 obtain⟨i,hi,hzz⟩:=Option.map_eq_some_iff.1 hinfo
 simp only[Prod.mk.injEq] at hzz
 obtain⟨hz,hs,hb⟩:=hzz
 by_cases h0:m=0
 · subst h0
   obtain⟨a0,c0,rfl⟩:=h.is
   have hle:=h.le
   have hnone:Src P i.size t (.slice a 0 c) 0 [] w:=by
    cases a with
    |none=>exact Src.ofNil w ht c
    |some ad=>exact Src.ofSlice w ht ad 0 c [] (by simp) (fun j u hu=>by simp at hu) (fun _ hu=>by cases hu)
   refine⟨a0,c0,w,run_append_nothing w t t ty e i ht hi a0 n c0 hle _ hnone,h.congr fun q hq=>by simp[cat,hq],?_⟩
   exact⟨rfl,rfl,rfl,Nat.le_refl _,fun _ _ _=>rfl⟩
 · obtain⟨b,o,rfl,hbl,hc⟩:=hx (Nat.mul_pos (by omega) hk)
   obtain⟨g,cap,w',hr,h2,h3,_⟩:=run_append_lies (P:=P) w t ty base e i z k bytes ht hi hz hs hb hzs hk v n (numL (n*k) U) h ⟨b,o,none⟩ m c (numL (m*k) X) (numL_len _ _)
    (fun j u hu=>by
      have hj:j<m*k:=by have:=(List.getElem?_eq_some_iff.1 hu).1;rwa [numL_len] at this
      rw[numL_get hj] at hu
      rw[Addr.add_lit,hc j hj];exact hu)
    (fun u hu=>by obtain⟨q,_,rfl⟩:=List.mem_map.1 hu;rfl) (by omega) h63 hbytes hbase _ rfl
   refine⟨_,_,w',hr,?_,h3⟩
   unfold OwnL
   rw[Nat.add_mul,←numL_cat]
   exact h2
section
variable {P:Program} {ops:Array Oper} {o:Oper} {a:Act} {Q:Exit→Act→World→Prop} {w:World}
theorem wp_app {K:Act→World→Prop} (s x:Operand) (t:TypeId) (ho:o.op= .call {callee:= .builtin .append,args:= #[s,x],argTypes:= #[t,t]})
 (base e k bytes:Nat) (z:Value) (ht:P.underlying t=some (.slice e)) (hinfo:(P.info? e).map (fun i=>(i.zero,i.size,i.bytes))=some (some z,k,bytes)) (hzs:z.cells.size=k) (hk:0<k)
 (v:Value) (n:Nat) (U:Nat→Int) (hs:a.eval s=v) (h:OwnL w base e k v n U) (ad:Option Addr) (m c:Nat) (X:Nat→Int) (hxx:a.eval x= .slice ad m c) (hx:Flat w ad (m*k) X)
 (h63:n+m≤maxLen) (hbytes:(n+m)*bytes≤140737488355328) (hbase:base≤w.heap.size)
 (hK:∀ a' c' w',OwnL w' base e k (.slice a' (n+m) c') (n+m) (cat (n*k) U X)→w.grownBy w' v.ownBlock→K (a.put o.dst (.slice a' (n+m) c')) w'):o.wp P a w K Q:=by
 obtain⟨a',c',w',hr,h2,h3⟩:=run_app (P:=P) base t o.type e k bytes z ht hinfo hzs hk w v n U h ad m c X hx h63 hbytes hbase
 unfold Oper.wp execOp
 simp only[ho,resolve,invoke,builtin,Sem.run_bind,Sem.run_pure,Result.andThen_ok,List.map_toArray,List.map_cons,List.map_nil,hs,hxx,hr]
 exact hK _ _ _ h2 h3
theorem wpList_app {rest:List Oper} (hgd:o.guard=none) (s x:Operand) (t:TypeId) (ho:o.op= .call {callee:= .builtin .append,args:= #[s,x],argTypes:= #[t,t]})
 (base e k bytes:Nat) (z:Value) (ht:P.underlying t=some (.slice e)) (hinfo:(P.info? e).map (fun i=>(i.zero,i.size,i.bytes))=some (some z,k,bytes)) (hzs:z.cells.size=k) (hk:0<k)
 (v:Value) (n:Nat) (U:Nat→Int) (hs:a.eval s=v) (h:OwnL w base e k v n U) (ad:Option Addr) (m c:Nat) (X:Nat→Int) (hxx:a.eval x= .slice ad m c) (hx:Flat w ad (m*k) X)
 (h63:n+m≤maxLen) (hbytes:(n+m)*bytes≤140737488355328) (hbase:base≤w.heap.size)
 (hK:∀ a' c' w',OwnL w' base e k (.slice a' (n+m) c') (n+m) (cat (n*k) U X)→w.grownBy w' v.ownBlock→wpList P ops Q rest (a.put o.dst (.slice a' (n+m) c')) w'):wpList P ops Q (o::rest) a w:=
 wpList_plain hgd fun _ hK'=>wp_app s x t ho base e k bytes z ht hinfo hzs hk v n U hs h ad m c X hxx hx h63 hbytes hbase fun a' c' w' h2 h3=>hK' _ _ (hK a' c' w' h2 h3)
end
end Go.Proofs.YtbdbbdjifgpgeaaGreat
namespace Go.Proofs.YtbdbbdjifgpgeaaGreat
open Go.RowKit
set_option linter.unusedVariables false
set_option linter.unusedSimpArgs false
theorem _root_.Go.RowKit.Below.ofDr {B:Nat} {w w':World} (h:Below B w.drew w'):Below B w w':=⟨h.os,h.tape,h.output,h.size,h.block⟩
structure Fr (X:Nat→Prop) (w w':World):Prop where
 os:w'.os=w.os
 tape:w'.tape=w.tape
 output:w'.output=w.output
 size:w.heap.size≤w'.heap.size
 block:∀ k,k<w.heap.size→¬ X k→w'.heap[k]? =w.heap[k]?
 kind:∀ (k:Nat) (o:Obj),w.heap[k]? =some o→o.isCells=false→w'.heap[k]? =some o
theorem Fr.refl (X:Nat→Prop) (w:World):Fr X w w:=⟨rfl,rfl,rfl,Nat.le_refl _,fun _ _ _=>rfl,fun _ _ h _=>h⟩
theorem Fr.trans' {X Y:Nat→Prop} {a b c:World} (h:Fr X a b) (k:Fr Y b c) (hXY:∀ i,i<a.heap.size→Y i→X i):Fr X a c:=
 ⟨k.os.trans h.os,k.tape.trans h.tape,k.output.trans h.output,Nat.le_trans h.size k.size,fun i hi hn=>(k.block i (Nat.lt_of_lt_of_le hi h.size) (fun y=>hn (hXY i hi y))).trans (h.block i hi hn),fun i o hi ho=>k.kind i o (h.kind i o hi ho) ho⟩
theorem Fr.trans {X:Nat→Prop} {a b c:World} (h:Fr X a b) (k:Fr X b c):Fr X a c:=h.trans' k fun _ _ x=>x
theorem Fr.of_below {X:Nat→Prop} {w w':World} (h:Below w.heap.size w w'):Fr X w w':=⟨h.os,h.tape,h.output,h.size,fun k hk _=>h.block k hk,fun k o hk _=>(h.block k (Array.getElem?_eq_some_iff.1 hk).1).trans hk⟩
theorem Fr.below {X:Nat→Prop} {B:Nat} {w w':World} (h:Fr X w w') (hB:B≤w.heap.size) (hX:∀ k,X k→B≤k):Below B w w':=⟨h.os,h.tape,h.output,h.size,fun k hk=>h.block k (by omega) (fun x=>by have:=hX k x;omega)⟩
theorem Fr.others {X:Nat→Prop} {w w':World} (h:Fr X w w'):KeepsOthers w w':=⟨h.size,h.kind⟩
theorem Fr.keeps {X:Nat→Prop} {w w':World} (h:Fr X w w') (B:Nat):KeepsFrom B w w':=h.others.from B
theorem Fr.cell {X:Nat→Prop} {w w':World} (h:Fr X w w') {p:Addr} (hp:p.block<w.heap.size) (hn:¬ X p.block):w'.cell? p=w.cell? p:=World.cell?_of_block (w:=w) (h.block p.block hp hn)
theorem Fr.frozen {X:Nat→Prop} {w w':World} (h:Fr X w w') {p:Addr} (hp:p.block<w.heap.size) (hn:¬ X p.block):w'.frozen? p=w.frozen? p:=World.frozen?_of_block (w:=w) (h.block p.block hp hn)
theorem Fr.mono {X Y:Nat→Prop} {w w':World} (h:Fr X w w') (hXY:∀ k,k<w.heap.size→X k→Y k):Fr Y w w':=⟨h.os,h.tape,h.output,h.size,fun k hk hn=>h.block k hk (fun x=>hn (hXY k hk x)),h.kind⟩
theorem Fr.setCell {X:Nat→Prop} {w:World} {p:Addr} (hp:X p.block) (v:Value):Fr X w (w.setCell p v):=
 ⟨rfl,rfl,rfl,by simp[World.setCell],fun k _ hn=>Below.heap_setCell _ _ _ _ (fun e=>hn (by subst e;exact hp)),(KeepsOthers.setCell w p v).same⟩
theorem Fr.grown {X:Nat→Prop} {w w':World} {row:Option Nat} (hg:w.grownBy w' row) (hX:∀ b,row=some b→X b) (hc:∀ b o,row=some b→w.heap[b]? =some o→o.isCells=true):Fr X w w':=
 ⟨hg.os,hg.tape,hg.output,hg.size,fun k hk hn=>hg.block k hk (fun e=>hn (hX k e.symm)),fun k o hk ho=>(hg.block k (Array.getElem?_eq_some_iff.1 hk).1 (fun e=>by have:=hc k o e.symm hk;rw[ho] at this;cases this)).trans hk⟩
theorem Fr.drew {X:Nat→Prop} {w w':World} (h:Fr X w w'):Fr X w w'.drew:=h.trans (Fr.of_below (Below.drew (Below.refl _ _)))
theorem OwnL.isCells {w:World} {base t k n:Nat} {v:Value} {U:Nat→Int} (h:OwnL w base t k v n U):∀ b o,v.ownBlock=some b→w.heap[b]? =some o→o.isCells=true:=by
 intro b o hb ho
 rcases h.2 with⟨hv,_⟩|⟨g,cap,cur,hv,_,hg,_⟩
 · subst hv;cases hb
 · subst hv
   simp only[Value.ownBlock,Option.some.injEq] at hb
   subst hb
   rw[hg] at ho
   cases ho
   rfl
theorem OwnL.sm {w w':World} {B base t k n:Nat} {v:Value} {U:Nat→Int} (h:OwnL w base t k v n U) (hs:Sm B w w'):OwnL w' base t k v n U:=by
 refine⟨h.1,?_⟩
 rcases h.2 with q|⟨g,cap,cur,hv,hb,hg,rest⟩
 · exact .inl q
 · exact .inr ⟨g,cap,cur,hv,hb,hs.cells _ _ hg rfl,rest⟩
theorem OwnL.frame {X:Nat→Prop} {w w':World} {base t k n:Nat} {v:Value} {U:Nat→Int} (h:OwnL w base t k v n U) (hs:Fr X w w') (hX:∀ b,v.ownBlock=some b→¬ X b):OwnL w' base t k v n U:=by
 refine⟨h.1,?_⟩
 rcases h.2 with q|⟨g,cap,cur,hv,hb,hg,rest⟩
 · exact .inl q
 · exact .inr ⟨g,cap,cur,hv,hb,(hs.block _ (Array.getElem?_eq_some_iff.1 hg).1 (hX g (by rw[hv];rfl))).trans hg,rest⟩
theorem OwnL.some {w:World} {base t k n:Nat} {v:Value} {U:Nat→Int} (h:OwnL w base t k v n U) (hn:0<n):∃ g c,v= .slice (Option.some ⟨g,0,none⟩) n c:=by
 rcases h.2 with⟨_,e⟩|⟨g,cap,cur,hv,_⟩
 · omega
 · exact⟨g,cap,hv⟩
theorem OwnL.at1 {w:World} {base t n g c:Nat} {U:Nat→Int} (h:OwnL w base t 1 (.slice (Option.some ⟨g,0,none⟩) n c) n U) {j:Nat} (hj:j<n):w.cell? ⟨g,j,none⟩=Option.some (.int .i64 (U j)):=by
 have:=World.ownsRow.cellAt h j (by omega)
 rw[this,numL_get (by omega)]
theorem OwnL.fro {w:World} {base t k n g c:Nat} {U:Nat→Int} (h:OwnL w base t k (.slice (Option.some ⟨g,0,none⟩) n c) n U) (j:Nat):w.frozen? ⟨g,j,none⟩=false:=World.ownsRow.frozenAt h j
theorem OwnL.put {w:World} {base t n g c:Nat} {U:Nat→Int} (h:OwnL w base t 1 (.slice (Option.some ⟨g,0,none⟩) n c) n U) {j:Nat} (hj:j<n) (y:Int):OwnL (w.setCell ⟨g,j,none⟩ (.int .i64 y)) base t 1 (.slice (Option.some ⟨g,0,none⟩) n c) n (fun q=>if q=j then y else U q):=by
 have h1:=(World.ownsRow.stored h j (.int .i64 y)).1
 unfold OwnL
 rw[show numL (n*1) (fun q=>if q=j then y else U q)=(numL (n*1) U).set j (.int .i64 y) from ?_]
 · exact h1
 · apply List.ext_getElem?
   intro q
   rw[List.getElem?_set,numL_len]
   by_cases hq:q<n*1
   · rw[numL_get hq]
     by_cases e:j=q
     · subst e;simp;omega
     · rw[if_neg e,numL_get hq];simp[Ne.symm e]
   · rw[List.getElem?_eq_none (by rw[numL_len];omega)]
     by_cases e:j=q
     · omega
     · rw[if_neg e,List.getElem?_eq_none (by rw[numL_len];omega)]
def snoc (n:Nat) (U:Nat→Int) (y:Int):Nat→Int:=fun q=>if q=n then y else U q
theorem step_app1 {P:Program} {w:World} {ops:Array Oper} {o:Oper} {a:Act} {K:Act→World→Prop} {Q:Exit→Act→World→Prop} {E:Prop} (hgd:o.guard=none) (s x:Operand) (t:TypeId)
 (ho:o.op= .call {callee:= .builtin .append,args:= #[s,x],argTypes:= #[t,t]})
 (base e:Nat) (z:Value) (ht:P.underlying t=some (.slice e)) (hinfo:(P.info? e).map (fun i=>(i.zero,i.size,i.bytes))=some (some z,1,8)) (hzs:z.cells.size=1)
 (v:Value) (n:Nat) (U:Nat→Int) (hs:a.eval s=v) (h:OwnL w base e 1 v n U) (B c:Nat) (y:Int) (hx:a.eval x= .slice (some ⟨B,0,none⟩) 1 c) (hv:w.cell? ⟨B,0,none⟩=some (.int .i64 y))
 (hn:n≤1048576) (hbase:base≤w.heap.size) (H:Nat) (hH:w.heap.size=H)
 (hK:∀ g cap w',OwnL w' base e 1 (.slice (some ⟨g,0,none⟩) (n+1) cap) (n+1) (snoc n U y)→w.grownBy w' v.ownBlock→(v.ownBlock=some g∨g=H)→g<w'.heap.size→K (a.put o.dst (.slice (some ⟨g,0,none⟩) (n+1) cap)) w'):
 if Region.wanted o (yielded ops a.tmps)=true then Oper.wp P o a w K Q else E:=by
 obtain⟨i,hi,hzz⟩:=Option.map_eq_some_iff.1 hinfo
 simp only[Prod.mk.injEq] at hzz
 obtain⟨hz,hsz,hby⟩:=hzz
 refine step_append_lies w hgd s x t ho base e i z 1 8 ht hi hz hsz hby hzs (by omega) v n (numL (n*1) U) hs h ⟨B,0,none⟩ 1 c [.int .i64 y] hx (by simp) ?_ (by intro u hu;simp at hu;subst hu;rfl) (by omega) (by unfold maxLen;omega) (by omega) hbase H hH ?_
 · intro j u hu
   cases j with
   |zero=>simp at hu;subst hu;simpa [Addr.add] using hv
   |succ n=>simp at hu
 · intro g cap w' h2 h3 h4 h5
   refine hK g cap w' ?_ h3 h4 h5
   unfold OwnL
   rw[show numL ((n+1)*1) (snoc n U y)=numL (n*1) U++[.int .i64 y] from ?_]
   · exact h2
   · apply List.ext_getElem?
     intro q
     rcases Nat.lt_trichotomy q n with l|l|l
     · rw[List.getElem?_append_left (by rw[numL_len];omega),numL_get (by omega),numL_get (by omega),snoc,if_neg (by omega)]
     · subst l;rw[List.getElem?_append_right (by rw[numL_len];omega),numL_len,numL_get (by omega)];simp[snoc]
     · rw[List.getElem?_append_right (by rw[numL_len];omega),numL_len,List.getElem?_eq_none (by rw[numL_len];omega),List.getElem?_eq_none (by simp;omega)]
structure Cs (w:World) (cb n:Nat) (C:Nat→Nat→Int) (S:Nat→Value):Prop where
 hd:∀ i,i<12→w.cell? ⟨cb,i,none⟩=some (S i)
 nf:∀ i,i<12→w.frozen? ⟨cb,i,none⟩=false
 own:∀ i,i<12→OwnL w cb 65 1 (S i) n (C i)
 ncb:∀ i,i<12→∀ b,(S i).ownBlock=some b→b≠cb
 dis:∀ i j,i<12→j<12→i≠j→∀ b,(S i).ownBlock=some b→(S j).ownBlock≠some b
def Xc (S:Nat→Value):Nat→Prop:=fun k=>∃ i,i<12∧(S i).ownBlock=some k
theorem Cs.lt {w:World} {cb n:Nat} {C:Nat→Nat→Int} {S:Nat→Value} (h:Cs w cb n C S):cb<w.heap.size:=cell_lt (a:=⟨cb,0,none⟩) (h.hd 0 (by omega))
theorem Cs.xlt {w:World} {cb n:Nat} {C:Nat→Nat→Int} {S:Nat→Value} (h:Cs w cb n C S) {b:Nat} (hb:Xc S b):cb<b∧b<w.heap.size:=by
 obtain⟨i,hi,e⟩:=hb
 have:=(h.own i hi).lt b e
 have:=h.ncb i hi b e
 omega
theorem Cs.below {w w':World} {cb n:Nat} {C:Nat→Nat→Int} {S:Nat→Value} (h:Cs w cb n C S) (hb:Below w.heap.size w w'):Cs w' cb n C S:=
 ⟨fun i hi=>(hb.cell (p:=⟨cb,i,none⟩) h.lt).trans (h.hd i hi),fun i hi=>(hb.frozen (p:=⟨cb,i,none⟩) h.lt).trans (h.nf i hi),fun i hi=>(h.own i hi).below hb,h.ncb,h.dis⟩
theorem Cs.sm {w w':World} {B cb n:Nat} {C:Nat→Nat→Int} {S:Nat→Value} (h:Cs w cb n C S) (hs:Sm B w w'):Cs w' cb n C S:=
 ⟨fun i hi=>hs.cell (h.hd i hi),fun i hi=>hs.frozen (h.hd i hi) (h.nf i hi),fun i hi=>(h.own i hi).sm hs,h.ncb,h.dis⟩
theorem Cs.frame {X:Nat→Prop} {w w':World} {cb n:Nat} {C:Nat→Nat→Int} {S:Nat→Value} (h:Cs w cb n C S) (hs:Fr X w w') (h0:¬ X cb) (hX:∀ b,Xc S b→¬ X b):Cs w' cb n C S:=
 ⟨fun i hi=>(hs.cell (p:=⟨cb,i,none⟩) h.lt h0).trans (h.hd i hi),fun i hi=>(hs.frozen (p:=⟨cb,i,none⟩) h.lt h0).trans (h.nf i hi),fun i hi=>(h.own i hi).frame hs fun b hb=>hX b ⟨i,hi,hb⟩,h.ncb,h.dis⟩
theorem Cs.congr {w:World} {cb n:Nat} {C C':Nat→Nat→Int} {S:Nat→Value} (h:Cs w cb n C S) (e:∀ i k,i<12→k<n→C i k=C' i k):Cs w cb n C' S:=
 ⟨h.hd,h.nf,fun i hi=>(h.own i hi).congr fun q hq=>e i q hi (by omega),h.ncb,h.dis⟩
structure Cell1 (w:World) (cb n i k:Nat) (y:Int) (g c:Nat):Prop where
 hd:w.cell? ⟨cb,i,none⟩=some (.slice (some ⟨g,0,none⟩) n c)
 at_:w.cell? ⟨g,k,none⟩=some (.int .i64 y)
 fro:w.frozen? ⟨g,k,none⟩=false
 gl:g<w.heap.size
 cg:cb<g
theorem Cs.at {w:World} {cb n:Nat} {C:Nat→Nat→Int} {S:Nat→Value} (h:Cs w cb n C S) {i k:Nat} (hi:i<12) (hk:k<n):∃ g c,S i= .slice (some ⟨g,0,none⟩) n c∧Cell1 w cb n i k (C i k) g c:=by
 obtain⟨g,c,e⟩:=(h.own i hi).some (by omega)
 have ho:=h.own i hi
 have hh:=h.hd i hi
 rw[e] at ho hh
 have hl:=h.xlt (b:=g) ⟨i,hi,by rw[e];rfl⟩
 exact⟨g,c,e,hh,ho.at1 hk,ho.fro k,hl.2,hl.1⟩
def setC (C:Nat→Nat→Int) (i k:Nat) (y:Int):Nat→Nat→Int:=fun i' k'=>if i'=i∧k'=k then y else C i' k'
theorem Cs.set {w:World} {cb n:Nat} {C:Nat→Nat→Int} {S:Nat→Value} (h:Cs w cb n C S) {i k g c:Nat} (hi:i<12) (hk:k<n) (e:S i= .slice (some ⟨g,0,none⟩) n c) (y:Int):Cs (w.setCell ⟨g,k,none⟩ (.int .i64 y)) cb n (setC C i k y) S:=by
 have hx:Xc S g:=⟨i,hi,by rw[e];rfl⟩
 have hl:=h.xlt hx
 have hf:Fr (fun b=>b=g) w (w.setCell ⟨g,k,none⟩ (.int .i64 y)):=Fr.setCell (X:=fun b=>b=g) rfl _
 refine⟨fun j hj=>(hf.cell (p:=⟨cb,j,none⟩) h.lt (by show ¬ cb=g;omega)).trans (h.hd j hj),fun j hj=>(hf.frozen (p:=⟨cb,j,none⟩) h.lt (by show ¬ cb=g;omega)).trans (h.nf j hj),fun j hj=> ?_,h.ncb,h.dis⟩
 by_cases eij:j=i
 · subst eij
   have ho:=h.own j hj
   rw[e] at ho ⊢
   exact(ho.put hk y).congr fun q _=>by by_cases eq:q=k<;>simp[setC,eq]
 · refine((h.own j hj).frame hf fun b hb eb=> ?_).congr fun q _=>by simp[setC,eij]
   subst eb
   exact h.dis i j hi hj (Ne.symm eij) b (by rw[e];rfl) hb
end Go.Proofs.YtbdbbdjifgpgeaaGreat
namespace Go.Proofs.YtbdbbdjifgpgeaaGreat
open Go.RowKit
set_option linter.unusedVariables false
section
variable {P:Program} {md:Region.Mode} {ops:Array Oper} {Q:Exit→Act→World→Prop} {S:World→Prop}
theorem td (i j:Nat) {o1 o2 o3 o4 o5 o6 p1 p2 p3 p4 p5 p6} {v u:Value} {fuel:Nat} {listed:Array Bool} {a a':Act} {w w1:World} (hS:S w)
 (h:S w1→wpAnyH P md ops Q S fuel ((listed.setIfInBounds i true).setIfInBounds j true) a' w1)
 (hr:(Region.ready md ops listed=[i,j]∧Region.ready md ops (listed.setIfInBounds i true)=[j]∧Region.ready md ops (listed.setIfInBounds j true)=[i]):=by exact⟨by kernel_rfl,by kernel_rfl,by kernel_rfl⟩)
 (hi:ops[i]? =some (Oper.mk o1 o2 o3 o4 o5 o6):=by rfl) (hj:ops[j]? =some (Oper.mk p1 p2 p3 p4 p5 p6):=by rfl)
 (hc:(Region.noSelect ops&&((Oper.mk o1 o2 o3 o4 o5 o6).apart ops (Oper.mk p1 p2 p3 p4 p5 p6)&&(i !=j)))=true:=by kernel_rfl)
 (wi:Region.wanted (Oper.mk o1 o2 o3 o4 o5 o6) (yielded ops a.tmps)=true:=by rfl) (wj:Region.wanted (Oper.mk p1 p2 p3 p4 p5 p6) (yielded ops a.tmps)=true:=by rfl)
 (vi:(execOp a.eval (Oper.mk o1 o2 o3 o4 o5 o6)).run P w= .ok (.value v) w:=by(go_simp;(try with_reducible rfl)))
 (vj:(execOp a.eval (Oper.mk p1 p2 p3 p4 p5 p6)).run P w= .ok (.value u) w1:=by(go_simp;(first|done|exact⟨rfl,rfl⟩|with_reducible rfl)))
 (vi1:(execOp a.eval (Oper.mk o1 o2 o3 o4 o5 o6)).run P w1= .ok (.value v) w1:=by(go_simp;(try with_reducible rfl)))
 (hS1:S w1:=by((try dsimp only);(first|(go_simp;done)|(go_keep;done))))
 (he:(a.put (Oper.mk o1 o2 o3 o4 o5 o6).dst v).put (Oper.mk p1 p2 p3 p4 p5 p6).dst u=a':=by((try simp only[Act.put,List.setIfInBounds_toArray,List.set_cons_zero,List.set_cons_succ]);(try with_reducible rfl))):
 wpAnyH P md ops Q S (fuel+2) listed a w:=by
 subst he
 simp only[Bool.and_eq_true] at hc
 obtain⟨h1,h2,h3⟩:=Oper.apart_spec hc.2.1
 have hne:i≠j:=by simpa using hc.2.2
 have hsel:=Region.noSelect_spec hc.1
 obtain⟨r0,r1,r2⟩:=hr
 refine⟨fun e=>(by rw[r0] at e;cases e),fun x hx=> ?_⟩
 rw[r0] at hx
 rcases List.mem_cons.1 hx with rfl|hx
 · unfold wpOp
   rw[hi]
   simp only[wi,if_true]
   refine .inl ?_
   simp only[Oper.wp,vi,Oper.upon]
   refine⟨hS,⟨fun e=>(by rw[r1] at e;cases e),fun y hy=> ?_⟩⟩
   rw[r1] at hy
   obtain rfl:=List.mem_singleton.1 hy
   unfold wpOp
   rw[hj]
   simp only[wanted_put _ a _ v h1,wj,if_true]
   refine .inl ?_
   rw[Oper.wp,execOp_put _ (fun cs b=>hsel _ _ cs b hj) a _ v h1,vj]
   exact⟨hS1,h hS1⟩
 · obtain rfl:=List.mem_singleton.1 hx
   unfold wpOp
   rw[hj]
   simp only[wj,if_true]
   refine .inl ?_
   simp only[Oper.wp,vj,Oper.upon]
   refine⟨hS1,⟨fun e=>(by rw[r2] at e;cases e),fun y hy=> ?_⟩⟩
   rw[r2] at hy
   obtain rfl:=List.mem_singleton.1 hy
   unfold wpOp
   rw[hi]
   simp only[wanted_put _ a _ u h3,wi,if_true]
   refine .inl ?_
   rw[Oper.wp,execOp_put _ (fun cs b=>hsel _ _ cs b hi) a _ u h3,vi1]
   refine⟨hS1,?_⟩
   have:=h hS1
   rw[Array.setIfInBounds_comm _ _ hne,Act.put_comm a v u h2] at this
   exact this
end
end Go.Proofs.YtbdbbdjifgpgeaaGreat
namespace Go.Proofs.YtbdbbdjifgpgeaaGreat
open Go.RowKit
set_option linter.unusedVariables false
set_option linter.unusedSimpArgs false
def lenS (L:Nat→Nat):Nat→Nat
 |0=>0
 |k+1=>lenS L k+L k
abbrev zcBody:Value:= .agg #[.int .i64 0,.int .i64 0,.int .i64 0,.int .i64 0,.int .i64 0,.int .i64 0,.int .i64 0,.int .i64 0,.int .i64 0,.int .i64 0,.int .i64 0,.int .i64 0]
theorem infoItBody:(Tryz.prog.info? 36).map (fun i=>(i.zero,i.size,i.bytes))=some (some zcBody,12,96):=by kernel_rfl
def catSBody (L:Nat→Nat) (X:Nat→Nat→Int):Nat→Nat→Int
 |0=>fun _=>0
 |k+1=>cat (lenS L k*12) (catSBody L X k) (X k)
abbrev zcPair:Value:= .agg #[.int .i64 0,.int .i64 0]
def catSPair (L:Nat→Nat) (X:Nat→Nat→Int):Nat→Nat→Int
 |0=>fun _=>0
 |k+1=>cat (lenS L k*2) (catSPair L X k) (X k)
end Go.Proofs.YtbdbbdjifgpgeaaGreat
