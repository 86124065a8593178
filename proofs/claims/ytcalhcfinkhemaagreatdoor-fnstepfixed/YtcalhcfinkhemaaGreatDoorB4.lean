/- Texts of a proof. -/
import Derived.Test.YtcalhcfinkhemaaGreatDoorB1
import Derived.Deep.AppendLies
import Derived.Deep.Upon
import Derived.Maps.AppendAt
import Derived.Test.YtcalhcfinkhemaaGreatDoorRfG
import Derived.Laws.OwnMore
import Derived.LoopNIn
import Derived.LoopIn
import Derived.OwnWalkIn
import Derived.RangeFuncBound
import Derived.Shelf.Abstract
import Derived.Deep.DeepCutAuto
import Derived.Deep.QuietTactic
import Derived.BigQuiet
import Derived.Deep.RegionWith
import Derived.Deep.RegionHeld3
set_option maxHeartbeats 16000000
set_option maxRecDepth 20000
namespace Go.Proofs.YtcalhcfinkhemaaGreatDoor
open Go.RowKit
set_option linter.unusedVariables false
set_option linter.unusedSimpArgs false
def numL (m:Nat) (U:Nat→Int):List Value:=(List.range m).map fun q=>Value.int .i64 (U q)
theorem numL_len (m:Nat) (U:Nat→Int):(numL m U).length=m:=by simp[numL]
theorem numL_get {m:Nat} {U:Nat→Int} {q:Nat} (h:q<m):(numL m U)[q]? =some (.int .i64 (U q)):=by simp[numL,h]
def cat (p:Nat) (U X:Nat→Int):Nat→Int:=fun q=>if q<p then U q else X (q-p)
theorem numL_cat (p r:Nat) (U X:Nat→Int):numL p U++numL r X=numL (p+r) (cat p U X):=by
 apply List.ext_getElem?
 intro q
 by_cases h:q<p
 · rw[List.getElem?_append_left (by rw[numL_len];exact h),numL_get h,numL_get (by omega)];simp[cat,h]
 · rw[List.getElem?_append_right (by rw[numL_len];omega),numL_len]
   by_cases h2:q<p+r
   · rw[numL_get (by omega),numL_get h2];simp[cat,h]
   · rw[List.getElem?_eq_none (by rw[numL_len];omega),List.getElem?_eq_none (by rw[numL_len];omega)]
def OwnL (w:World) (base t k:Nat) (v:Value) (n:Nat) (U:Nat→Int):Prop:=w.ownsRow base t k v n (numL (n*k) U)
theorem OwnL.nil (w:World) (base t k:Nat) (U:Nat→Int):OwnL w base t k (.slice none 0 0) 0 U:=by
 unfold OwnL;rw[Nat.zero_mul];exact World.ownsRow_nil w base t k
theorem OwnL.flat {w:World} {base t k n:Nat} {a:Option Addr} {c:Nat} {U:Nat→Int} (h:OwnL w base t k (.slice a n c) n U):Flat w a (n*k) U:=by
 intro h0
 rcases h.2 with⟨hv,hn⟩|⟨g,cap,cur,hv,hb,hg,hle,hm,hs,ht⟩
 · subst hn;omega
 · simp only[Value.slice.injEq] at hv
   obtain⟨rfl,_,rfl⟩:=hv
   have hlt:g<w.heap.size:=(Array.getElem?_eq_some_iff.1 hg).1
   refine⟨g,0,rfl,hlt,fun q hq=> ?_⟩
   have:=World.ownsRow.cells h (g:=g) rfl q _ (numL_get hq)
   rw[Addr.add_lit] at this
   exact this
theorem OwnL.congr {w:World} {base t k n:Nat} {v:Value} {U V:Nat→Int} (h:OwnL w base t k v n U) (e:∀ q,q<n*k→U q=V q):OwnL w base t k v n V:=by
 unfold OwnL at*
 rw[show numL (n*k) V=numL (n*k) U from List.map_congr_left fun q hq=>by rw[e q (List.mem_range.1 hq)]]
 exact h
theorem OwnL.kept {w w':World} {base t k n:Nat} {v:Value} {U:Nat→Int} {row:Option Nat} (h:OwnL w base t k v n U) (hg:w.grownBy w' row) (hne:v.ownBlock=none∨v.ownBlock≠row):OwnL w' base t k v n U:=World.ownsRow.kept h hg hne
theorem below_grown {B:Nat} {w w':World} (h:Below B w w'):B=w.heap.size→w.grownBy w' none:=fun e=>⟨h.os,h.tape,h.output,h.size,fun k hk _=>h.block k (e▸hk)⟩
theorem OwnL.below {w w':World} {base t k n:Nat} {v:Value} {U:Nat→Int} (h:OwnL w base t k v n U) (hb:Below w.heap.size w w'):OwnL w' base t k v n U:=by
 have hg:=below_grown hb rfl
 cases e:v.ownBlock with
 |none=>exact World.ownsRow.kept h hg (.inl e)
 |some b=>exact World.ownsRow.kept h hg (.inr (by rw[e];simp))
theorem OwnL.lt {w:World} {base t k n:Nat} {v:Value} {U:Nat→Int} (h:OwnL w base t k v n U):∀ b,v.ownBlock=some b→base≤b∧b<w.heap.size:=World.ownsRow.lt h
theorem OwnL.is {w:World} {base t k n:Nat} {v:Value} {U:Nat→Int} (h:OwnL w base t k v n U):∃ a c,v= .slice a n c:=by
 rcases h.2 with⟨hv,hn⟩|⟨g,cap,cur,hv,_⟩
 · exact⟨none,0,by rw[hv,hn]⟩
 · exact⟨_,_,hv⟩
theorem OwnL.le {w:World} {base t k n:Nat} {a:Option Addr} {c:Nat} {U:Nat→Int} (h:OwnL w base t k (.slice a n c) n U):n≤c:=by
 rcases h.2 with⟨hv,hn⟩|⟨g,cap,cur,hv,_,_,hle,_⟩
 · simp only[Value.slice.injEq] at hv;omega
 · simp only[Value.slice.injEq] at hv;omega
theorem Row.own {w:World} {b t n k base:Nat} {U:Nat→Int} (h:Row w b t (n*k) U) (hb:base≤b) (hn:n≤maxLen):OwnL w base t k (.slice (some ⟨b,0,none⟩) n n) n U:=by
 obtain⟨c,hc,hs,hv⟩:=h
 refine⟨by rw[numL_len],.inr ⟨b,n,c,rfl,hb,hc,Nat.le_refl _,hn,hs,?_⟩⟩
 apply List.ext_getElem?
 intro q
 by_cases hq:q<n*k
 · rw[List.getElem?_take,if_pos hq,numL_get hq,←hv q hq];simp
 · rw[List.getElem?_eq_none (by simp;omega),List.getElem?_eq_none (by rw[numL_len];omega)]
theorem OwnL.base {w:World} {base t k n:Nat} {v:Value} {U:Nat→Int} {B:Nat} (h:OwnL w base t k v n U) (hB:B≤base):OwnL w B t k v n U:=by
 refine⟨h.1,?_⟩
 rcases h.2 with q|⟨g,cap,cur,hv,hb,rest⟩
 · exact .inl q
 · exact .inr ⟨g,cap,cur,hv,by omega,rest⟩
theorem run_app {P:Program} (base t ty e k bytes:Nat) (z:Value) (ht:P.underlying t=some (.slice e)) (hinfo:(P.info? e).map (fun i=>(i.zero,i.size,i.bytes))=some (some z,k,bytes)) (hzs:z.cells.size=k) (hk:0<k)
 (w:World) (v:Value) (n:Nat) (U:Nat→Int) (h:OwnL w base e k v n U) (a:Option Addr) (m c:Nat) (X:Nat→Int) (hx:Flat w a (m*k) X)
 (h63:n+m≤maxLen) (hbytes:(n+m)*bytes≤140737488355328) (hbase:base≤w.heap.size):
 ∃ a' c' w',(Builtin.append_ #[t,t] ty #[v,.slice a m c]).run P w= .ok (.slice a' (n+m) c') w'∧OwnL w' base e k (.slice a' (n+m) c') (n+m) (cat (n*k) U X)∧w.grownBy w' v.ownBlock:=by
 obtain⟨i,hi,hzz⟩:=Option.map_eq_some_iff.1 hinfo
 simp only[Prod.mk.injEq] at hzz
 obtain⟨hz,hs,hb⟩:=hzz
 by_cases h0:m=0
 · subst h0
   obtain⟨a0,c0,rfl⟩:=h.is
   have hle:=h.le
   have hnone:Src P i.size t (.slice a 0 c) 0 [] w:=by
    cases a with
    |none=>exact Src.ofNil w ht c
    |some ad=>exact Src.ofSlice w ht ad 0 c [] (by simp) (fun j u hu=>by simp at hu) (fun _ hu=>by cases hu)
   refine⟨a0,c0,w,run_append_nothing w t t ty e i ht hi a0 n c0 hle _ hnone,h.congr fun q hq=>by simp[cat,hq],?_⟩
   exact⟨rfl,rfl,rfl,Nat.le_refl _,fun _ _ _=>rfl⟩
 · obtain⟨b,o,rfl,hbl,hc⟩:=hx (Nat.mul_pos (by omega) hk)
   obtain⟨g,cap,w',hr,h2,h3,_⟩:=run_append_lies (P:=P) w t ty base e i z k bytes ht hi hz hs hb hzs hk v n (numL (n*k) U) h ⟨b,o,none⟩ m c (numL (m*k) X) (numL_len _ _)
    (fun j u hu=>by
      have hj:j<m*k:=by have:=(List.getElem?_eq_some_iff.1 hu).1;rwa [numL_len] at this
      rw[numL_get hj] at hu
      rw[Addr.add_lit,hc j hj];exact hu)
    (fun u hu=>by obtain⟨q,_,rfl⟩:=List.mem_map.1 hu;rfl) (by omega) h63 hbytes hbase _ rfl
   refine⟨_,_,w',hr,?_,h3⟩
   unfold OwnL
   rw[Nat.add_mul,←numL_cat]
   exact h2
section
variable {P:Program} {ops:Array Oper} {o:Oper} {a:Act} {Q:Exit→Act→World→Prop} {w:World}
theorem wp_app {K:Act→World→Prop} (s x:Operand) (t:TypeId) (ho:o.op= .call {callee:= .builtin .append,args:= #[s,x],argTypes:= #[t,t]})
 (base e k bytes:Nat) (z:Value) (ht:P.underlying t=some (.slice e)) (hinfo:(P.info? e).map (fun i=>(i.zero,i.size,i.bytes))=some (some z,k,bytes)) (hzs:z.cells.size=k) (hk:0<k)
 (v:Value) (n:Nat) (U:Nat→Int) (hs:a.eval s=v) (h:OwnL w base e k v n U) (ad:Option Addr) (m c:Nat) (X:Nat→Int) (hxx:a.eval x= .slice ad m c) (hx:Flat w ad (m*k) X)
 (h63:n+m≤maxLen) (hbytes:(n+m)*bytes≤140737488355328) (hbase:base≤w.heap.size)
 (hK:∀ a' c' w',OwnL w' base e k (.slice a' (n+m) c') (n+m) (cat (n*k) U X)→w.grownBy w' v.ownBlock→K (a.put o.dst (.slice a' (n+m) c')) w'):o.wp P a w K Q:=by
 obtain⟨a',c',w',hr,h2,h3⟩:=run_app (P:=P) base t o.type e k bytes z ht hinfo hzs hk w v n U h ad m c X hx h63 hbytes hbase
 unfold Oper.wp execOp
 simp only[ho,resolve,invoke,builtin,Sem.run_bind,Sem.run_pure,Result.andThen_ok,List.map_toArray,List.map_cons,List.map_nil,hs,hxx,hr]
 exact hK _ _ _ h2 h3
theorem wpList_app {rest:List Oper} (hgd:o.guard=none) (s x:Operand) (t:TypeId) (ho:o.op= .call {callee:= .builtin .append,args:= #[s,x],argTypes:= #[t,t]})
 (base e k bytes:Nat) (z:Value) (ht:P.underlying t=some (.slice e)) (hinfo:(P.info? e).map (fun i=>(i.zero,i.size,i.bytes))=some (some z,k,bytes)) (hzs:z.cells.size=k) (hk:0<k)
 (v:Value) (n:Nat) (U:Nat→Int) (hs:a.eval s=v) (h:OwnL w base e k v n U) (ad:Option Addr) (m c:Nat) (X:Nat→Int) (hxx:a.eval x= .slice ad m c) (hx:Flat w ad (m*k) X)
 (h63:n+m≤maxLen) (hbytes:(n+m)*bytes≤140737488355328) (hbase:base≤w.heap.size)
 (hK:∀ a' c' w',OwnL w' base e k (.slice a' (n+m) c') (n+m) (cat (n*k) U X)→w.grownBy w' v.ownBlock→wpList P ops Q rest (a.put o.dst (.slice a' (n+m) c')) w'):wpList P ops Q (o::rest) a w:=
 wpList_plain hgd fun _ hK'=>wp_app s x t ho base e k bytes z ht hinfo hzs hk v n U hs h ad m c X hxx hx h63 hbytes hbase fun a' c' w' h2 h3=>hK' _ _ (hK a' c' w' h2 h3)
end
end Go.Proofs.YtcalhcfinkhemaaGreatDoor
namespace Go.Proofs.YtcalhcfinkhemaaGreatDoor
open Go.RowKit
set_option linter.unusedVariables false
set_option linter.unusedSimpArgs false
theorem _root_.Go.RowKit.Below.ofDr {B:Nat} {w w':World} (h:Below B w.drew w'):Below B w w':=⟨h.os,h.tape,h.output,h.size,h.block⟩
structure Fr (X:Nat→Prop) (w w':World):Prop where
 os:w'.os=w.os
 tape:w'.tape=w.tape
 output:w'.output=w.output
 size:w.heap.size≤w'.heap.size
 block:∀ k,k<w.heap.size→¬ X k→w'.heap[k]? =w.heap[k]?
 kind:∀ (k:Nat) (o:Obj),w.heap[k]? =some o→o.isCells=false→w'.heap[k]? =some o
theorem Fr.refl (X:Nat→Prop) (w:World):Fr X w w:=⟨rfl,rfl,rfl,Nat.le_refl _,fun _ _ _=>rfl,fun _ _ h _=>h⟩
theorem Fr.trans' {X Y:Nat→Prop} {a b c:World} (h:Fr X a b) (k:Fr Y b c) (hXY:∀ i,i<a.heap.size→Y i→X i):Fr X a c:=
 ⟨k.os.trans h.os,k.tape.trans h.tape,k.output.trans h.output,Nat.le_trans h.size k.size,fun i hi hn=>(k.block i (Nat.lt_of_lt_of_le hi h.size) (fun y=>hn (hXY i hi y))).trans (h.block i hi hn),fun i o hi ho=>k.kind i o (h.kind i o hi ho) ho⟩
theorem Fr.trans {X:Nat→Prop} {a b c:World} (h:Fr X a b) (k:Fr X b c):Fr X a c:=h.trans' k fun _ _ x=>x
theorem Fr.of_below {X:Nat→Prop} {w w':World} (h:Below w.heap.size w w'):Fr X w w':=⟨h.os,h.tape,h.output,h.size,fun k hk _=>h.block k hk,fun k o hk _=>(h.block k (Array.getElem?_eq_some_iff.1 hk).1).trans hk⟩
theorem Fr.below {X:Nat→Prop} {B:Nat} {w w':World} (h:Fr X w w') (hB:B≤w.heap.size) (hX:∀ k,X k→B≤k):Below B w w':=⟨h.os,h.tape,h.output,h.size,fun k hk=>h.block k (by omega) (fun x=>by have:=hX k x;omega)⟩
theorem Fr.others {X:Nat→Prop} {w w':World} (h:Fr X w w'):KeepsOthers w w':=⟨h.size,h.kind⟩
theorem Fr.keeps {X:Nat→Prop} {w w':World} (h:Fr X w w') (B:Nat):KeepsFrom B w w':=h.others.from B
theorem Fr.cell {X:Nat→Prop} {w w':World} (h:Fr X w w') {p:Addr} (hp:p.block<w.heap.size) (hn:¬ X p.block):w'.cell? p=w.cell? p:=World.cell?_of_block (w:=w) (h.block p.block hp hn)
theorem Fr.frozen {X:Nat→Prop} {w w':World} (h:Fr X w w') {p:Addr} (hp:p.block<w.heap.size) (hn:¬ X p.block):w'.frozen? p=w.frozen? p:=World.frozen?_of_block (w:=w) (h.block p.block hp hn)
theorem Fr.mono {X Y:Nat→Prop} {w w':World} (h:Fr X w w') (hXY:∀ k,k<w.heap.size→X k→Y k):Fr Y w w':=⟨h.os,h.tape,h.output,h.size,fun k hk hn=>h.block k hk (fun x=>hn (hXY k hk x)),h.kind⟩
theorem Fr.setCell {X:Nat→Prop} {w:World} {p:Addr} (hp:X p.block) (v:Value):Fr X w (w.setCell p v):=
 ⟨rfl,rfl,rfl,by simp[World.setCell],fun k _ hn=>Below.heap_setCell _ _ _ _ (fun e=>hn (by subst e;exact hp)),(KeepsOthers.setCell w p v).same⟩
theorem Fr.grown {X:Nat→Prop} {w w':World} {row:Option Nat} (hg:w.grownBy w' row) (hX:∀ b,row=some b→X b) (hc:∀ b o,row=some b→w.heap[b]? =some o→o.isCells=true):Fr X w w':=
 ⟨hg.os,hg.tape,hg.output,hg.size,fun k hk hn=>hg.block k hk (fun e=>hn (hX k e.symm)),fun k o hk ho=>(hg.block k (Array.getElem?_eq_some_iff.1 hk).1 (fun e=>by have:=hc k o e.symm hk;rw[ho] at this;cases this)).trans hk⟩
theorem Fr.drew {X:Nat→Prop} {w w':World} (h:Fr X w w'):Fr X w w'.drew:=h.trans (Fr.of_below (Below.drew (Below.refl _ _)))
theorem OwnL.isCells {w:World} {base t k n:Nat} {v:Value} {U:Nat→Int} (h:OwnL w base t k v n U):∀ b o,v.ownBlock=some b→w.heap[b]? =some o→o.isCells=true:=by
 intro b o hb ho
 rcases h.2 with⟨hv,_⟩|⟨g,cap,cur,hv,_,hg,_⟩
 · subst hv;cases hb
 · subst hv
   simp only[Value.ownBlock,Option.some.injEq] at hb
   subst hb
   rw[hg] at ho
   cases ho
   rfl
theorem OwnL.sm {w w':World} {B base t k n:Nat} {v:Value} {U:Nat→Int} (h:OwnL w base t k v n U) (hs:Sm B w w'):OwnL w' base t k v n U:=by
 refine⟨h.1,?_⟩
 rcases h.2 with q|⟨g,cap,cur,hv,hb,hg,rest⟩
 · exact .inl q
 · exact .inr ⟨g,cap,cur,hv,hb,hs.cells _ _ hg rfl,rest⟩
theorem OwnL.frame {X:Nat→Prop} {w w':World} {base t k n:Nat} {v:Value} {U:Nat→Int} (h:OwnL w base t k v n U) (hs:Fr X w w') (hX:∀ b,v.ownBlock=some b→¬ X b):OwnL w' base t k v n U:=by
 refine⟨h.1,?_⟩
 rcases h.2 with q|⟨g,cap,cur,hv,hb,hg,rest⟩
 · exact .inl q
 · exact .inr ⟨g,cap,cur,hv,hb,(hs.block _ (Array.getElem?_eq_some_iff.1 hg).1 (hX g (by rw[hv];rfl))).trans hg,rest⟩
theorem OwnL.some {w:World} {base t k n:Nat} {v:Value} {U:Nat→Int} (h:OwnL w base t k v n U) (hn:0<n):∃ g c,v= .slice (Option.some ⟨g,0,none⟩) n c:=by
 rcases h.2 with⟨_,e⟩|⟨g,cap,cur,hv,_⟩
 · omega
 · exact⟨g,cap,hv⟩
theorem OwnL.at1 {w:World} {base t n g c:Nat} {U:Nat→Int} (h:OwnL w base t 1 (.slice (Option.some ⟨g,0,none⟩) n c) n U) {j:Nat} (hj:j<n):w.cell? ⟨g,j,none⟩=Option.some (.int .i64 (U j)):=by
 have:=World.ownsRow.cellAt h j (by omega)
 rw[this,numL_get (by omega)]
theorem OwnL.fro {w:World} {base t k n g c:Nat} {U:Nat→Int} (h:OwnL w base t k (.slice (Option.some ⟨g,0,none⟩) n c) n U) (j:Nat):w.frozen? ⟨g,j,none⟩=false:=World.ownsRow.frozenAt h j
theorem OwnL.put {w:World} {base t n g c:Nat} {U:Nat→Int} (h:OwnL w base t 1 (.slice (Option.some ⟨g,0,none⟩) n c) n U) {j:Nat} (hj:j<n) (y:Int):OwnL (w.setCell ⟨g,j,none⟩ (.int .i64 y)) base t 1 (.slice (Option.some ⟨g,0,none⟩) n c) n (fun q=>if q=j then y else U q):=by
 have h1:=(World.ownsRow.stored h j (.int .i64 y)).1
 unfold OwnL
 rw[show numL (n*1) (fun q=>if q=j then y else U q)=(numL (n*1) U).set j (.int .i64 y) from ?_]
 · exact h1
 · apply List.ext_getElem?
   intro q
   rw[List.getElem?_set,numL_len]
   by_cases hq:q<n*1
   · rw[numL_get hq]
     by_cases e:j=q
     · subst e;simp;omega
     · rw[if_neg e,numL_get hq];simp[Ne.symm e]
   · rw[List.getElem?_eq_none (by rw[numL_len];omega)]
     by_cases e:j=q
     · omega
     · rw[if_neg e,List.getElem?_eq_none (by rw[numL_len];omega)]
def snoc (n:Nat) (U:Nat→Int) (y:Int):Nat→Int:=fun q=>if q=n then y else U q
theorem step_app1 {P:Program} {w:World} {ops:Array Oper} {o:Oper} {a:Act} {K:Act→World→Prop} {Q:Exit→Act→World→Prop} {E:Prop} (hgd:o.guard=none) (s x:Operand) (t:TypeId)
 (ho:o.op= .call {callee:= .builtin .append,args:= #[s,x],argTypes:= #[t,t]})
 (base e:Nat) (z:Value) (ht:P.underlying t=some (.slice e)) (hinfo:(P.info? e).map (fun i=>(i.zero,i.size,i.bytes))=some (some z,1,8)) (hzs:z.cells.size=1)
 (v:Value) (n:Nat) (U:Nat→Int) (hs:a.eval s=v) (h:OwnL w base e 1 v n U) (B c:Nat) (y:Int) (hx:a.eval x= .slice (some ⟨B,0,none⟩) 1 c) (hv:w.cell? ⟨B,0,none⟩=some (.int .i64 y))
 (hn:n≤1048576) (hbase:base≤w.heap.size) (H:Nat) (hH:w.heap.size=H)
 (hK:∀ g cap w',OwnL w' base e 1 (.slice (some ⟨g,0,none⟩) (n+1) cap) (n+1) (snoc n U y)→w.grownBy w' v.ownBlock→(v.ownBlock=some g∨g=H)→g<w'.heap.size→K (a.put o.dst (.slice (some ⟨g,0,none⟩) (n+1) cap)) w'):
 if Region.wanted o (yielded ops a.tmps)=true then Oper.wp P o a w K Q else E:=by
 obtain⟨i,hi,hzz⟩:=Option.map_eq_some_iff.1 hinfo
 simp only[Prod.mk.injEq] at hzz
 obtain⟨hz,hsz,hby⟩:=hzz
 refine step_append_lies w hgd s x t ho base e i z 1 8 ht hi hz hsz hby hzs (by omega) v n (numL (n*1) U) hs h ⟨B,0,none⟩ 1 c [.int .i64 y] hx (by simp) ?_ (by intro u hu;simp at hu;subst hu;rfl) (by omega) (by unfold maxLen;omega) (by omega) hbase H hH ?_
 · intro j u hu
   cases j with
   |zero=>simp at hu;subst hu;simpa [Addr.add] using hv
   |succ n=>simp at hu
 · intro g cap w' h2 h3 h4 h5
   refine hK g cap w' ?_ h3 h4 h5
   unfold OwnL
   rw[show numL ((n+1)*1) (snoc n U y)=numL (n*1) U++[.int .i64 y] from ?_]
   · exact h2
   · apply List.ext_getElem?
     intro q
     rcases Nat.lt_trichotomy q n with l|l|l
     · rw[List.getElem?_append_left (by rw[numL_len];omega),numL_get (by omega),numL_get (by omega),snoc,if_neg (by omega)]
     · subst l;rw[List.getElem?_append_right (by rw[numL_len];omega),numL_len,numL_get (by omega)];simp[snoc]
     · rw[List.getElem?_append_right (by rw[numL_len];omega),numL_len,List.getElem?_eq_none (by rw[numL_len];omega),List.getElem?_eq_none (by simp;omega)]
structure Cs (w:World) (cb n:Nat) (C:Nat→Nat→Int) (S:Nat→Value):Prop where
 hd:∀ i,i<12→w.cell? ⟨cb,i,none⟩=some (S i)
 nf:∀ i,i<12→w.frozen? ⟨cb,i,none⟩=false
 own:∀ i,i<12→OwnL w cb 85 1 (S i) n (C i)
 ncb:∀ i,i<12→∀ b,(S i).ownBlock=some b→b≠cb
 dis:∀ i j,i<12→j<12→i≠j→∀ b,(S i).ownBlock=some b→(S j).ownBlock≠some b
def Xc (S:Nat→Value):Nat→Prop:=fun k=>∃ i,i<12∧(S i).ownBlock=some k
theorem Cs.lt {w:World} {cb n:Nat} {C:Nat→Nat→Int} {S:Nat→Value} (h:Cs w cb n C S):cb<w.heap.size:=cell_lt (a:=⟨cb,0,none⟩) (h.hd 0 (by omega))
theorem Cs.xlt {w:World} {cb n:Nat} {C:Nat→Nat→Int} {S:Nat→Value} (h:Cs w cb n C S) {b:Nat} (hb:Xc S b):cb<b∧b<w.heap.size:=by
 obtain⟨i,hi,e⟩:=hb
 have:=(h.own i hi).lt b e
 have:=h.ncb i hi b e
 omega
theorem Cs.below {w w':World} {cb n:Nat} {C:Nat→Nat→Int} {S:Nat→Value} (h:Cs w cb n C S) (hb:Below w.heap.size w w'):Cs w' cb n C S:=
 ⟨fun i hi=>(hb.cell (p:=⟨cb,i,none⟩) h.lt).trans (h.hd i hi),fun i hi=>(hb.frozen (p:=⟨cb,i,none⟩) h.lt).trans (h.nf i hi),fun i hi=>(h.own i hi).below hb,h.ncb,h.dis⟩
theorem Cs.sm {w w':World} {B cb n:Nat} {C:Nat→Nat→Int} {S:Nat→Value} (h:Cs w cb n C S) (hs:Sm B w w'):Cs w' cb n C S:=
 ⟨fun i hi=>hs.cell (h.hd i hi),fun i hi=>hs.frozen (h.hd i hi) (h.nf i hi),fun i hi=>(h.own i hi).sm hs,h.ncb,h.dis⟩
theorem Cs.frame {X:Nat→Prop} {w w':World} {cb n:Nat} {C:Nat→Nat→Int} {S:Nat→Value} (h:Cs w cb n C S) (hs:Fr X w w') (h0:¬ X cb) (hX:∀ b,Xc S b→¬ X b):Cs w' cb n C S:=
 ⟨fun i hi=>(hs.cell (p:=⟨cb,i,none⟩) h.lt h0).trans (h.hd i hi),fun i hi=>(hs.frozen (p:=⟨cb,i,none⟩) h.lt h0).trans (h.nf i hi),fun i hi=>(h.own i hi).frame hs fun b hb=>hX b ⟨i,hi,hb⟩,h.ncb,h.dis⟩
theorem Cs.congr {w:World} {cb n:Nat} {C C':Nat→Nat→Int} {S:Nat→Value} (h:Cs w cb n C S) (e:∀ i k,i<12→k<n→C i k=C' i k):Cs w cb n C' S:=
 ⟨h.hd,h.nf,fun i hi=>(h.own i hi).congr fun q hq=>e i q hi (by omega),h.ncb,h.dis⟩
structure Cell1 (w:World) (cb n i k:Nat) (y:Int) (g c:Nat):Prop where
 hd:w.cell? ⟨cb,i,none⟩=some (.slice (some ⟨g,0,none⟩) n c)
 at_:w.cell? ⟨g,k,none⟩=some (.int .i64 y)
 fro:w.frozen? ⟨g,k,none⟩=false
 gl:g<w.heap.size
 cg:cb<g
theorem Cs.at {w:World} {cb n:Nat} {C:Nat→Nat→Int} {S:Nat→Value} (h:Cs w cb n C S) {i k:Nat} (hi:i<12) (hk:k<n):∃ g c,S i= .slice (some ⟨g,0,none⟩) n c∧Cell1 w cb n i k (C i k) g c:=by
 obtain⟨g,c,e⟩:=(h.own i hi).some (by omega)
 have ho:=h.own i hi
 have hh:=h.hd i hi
 rw[e] at ho hh
 have hl:=h.xlt (b:=g) ⟨i,hi,by rw[e];rfl⟩
 exact⟨g,c,e,hh,ho.at1 hk,ho.fro k,hl.2,hl.1⟩
def setC (C:Nat→Nat→Int) (i k:Nat) (y:Int):Nat→Nat→Int:=fun i' k'=>if i'=i∧k'=k then y else C i' k'
theorem Cs.set {w:World} {cb n:Nat} {C:Nat→Nat→Int} {S:Nat→Value} (h:Cs w cb n C S) {i k g c:Nat} (hi:i<12) (hk:k<n) (e:S i= .slice (some ⟨g,0,none⟩) n c) (y:Int):Cs (w.setCell ⟨g,k,none⟩ (.int .i64 y)) cb n (setC C i k y) S:=by
 have hx:Xc S g:=⟨i,hi,by rw[e];rfl⟩
 have hl:=h.xlt hx
 have hf:Fr (fun b=>b=g) w (w.setCell ⟨g,k,none⟩ (.int .i64 y)):=Fr.setCell (X:=fun b=>b=g) rfl _
 refine⟨fun j hj=>(hf.cell (p:=⟨cb,j,none⟩) h.lt (by show ¬ cb=g;omega)).trans (h.hd j hj),fun j hj=>(hf.frozen (p:=⟨cb,j,none⟩) h.lt (by show ¬ cb=g;omega)).trans (h.nf j hj),fun j hj=> ?_,h.ncb,h.dis⟩
 by_cases eij:j=i
 · subst eij
   have ho:=h.own j hj
   rw[e] at ho ⊢
   exact(ho.put hk y).congr fun q _=>by by_cases eq:q=k<;>simp[setC,eq]
 · refine((h.own j hj).frame hf fun b hb eb=> ?_).congr fun q _=>by simp[setC,eij]
   subst eb
   exact h.dis i j hi hj (Ne.symm eij) b (by rw[e];rfl) hb
end Go.Proofs.YtcalhcfinkhemaaGreatDoor
namespace Go.Proofs.YtcalhcfinkhemaaGreatDoor
open Go.RowKit
set_option linter.unusedVariables false
theorem kfa {W w1:World} (hb:Below W.heap.size W w1) (b:Nat) (h:b<W.heap.size:=by((try simp only[World.size_drew,World.size_alloc,World.size_setCell]);omega)):
 (∀ o,w1.cell? ⟨b,o,none⟩=W.cell? ⟨b,o,none⟩)∧(∀ o,w1.frozen? ⟨b,o,none⟩=W.frozen? ⟨b,o,none⟩)∧b<w1.heap.size:=
 ⟨fun o=>hb.cell (p:=⟨b,o,none⟩) h,fun o=>hb.frozen (p:=⟨b,o,none⟩) h,Nat.lt_of_lt_of_le h hb.size⟩
end Go.Proofs.YtcalhcfinkhemaaGreatDoor
namespace Go.Proofs.YtcalhcfinkhemaaGreatDoor
open Go.RowKit Go.Shelf
set_option linter.unusedVariables false
set_option linter.unusedSimpArgs false
abbrev hdk (cb k:Nat):Value:= .agg #[.int .i64 (k:Int),.pointer (some ⟨cb,0,none⟩)]
theorem handle_any (cb k:Nat) (w:World):
 Calls Tryz.prog 60 #[.pointer (some ⟨cb,0,none⟩),.int .i64 (k:Int)] w fun e w'=>e= .returned (hdk cb k)∧Below w.heap.size w w':=by
 go_enter Tryz.func60,Tryz.ntmps60
 go_wp2
 exact bodyPost_ret (v:=hdk cb k) (by simp[results,Tryz.results60,go_sem, *]) rfl ⟨rfl,by repeat(first|with_reducible apply Below.refl|(with_reducible apply Below.setCell;rotate_left;focus (first|omega|(simp;done)|(simp;omega)))|(with_reducible apply Below.alloc;rotate_left;focus (first|omega|(simp;done)|(simp;omega))))⟩
theorem each_enters:∀ args w,(callFunc 39 args).run Tryz.prog w= .ok (.enter 39 args) w:=enters_of Tryz.func39 (by kernel_rfl) rfl
theorem each_it (cb nn cc:Nat) (ad:Option Addr) (w:World) (hcb:cb<w.heap.size) (hc:w.cell? ⟨cb,0,none⟩=some (.slice ad nn cc)) (hn:nn≤1048576):
 ItC Tryz.prog 39 #[.pointer (some ⟨cb,0,none⟩)] (fun k=> #[hdk cb k]) nn w:=by
 intro l J Jx W hbW hJb hJx hY h0
 have hc':W.cell? ⟨cb,0,none⟩=some (.slice ad nn cc):=(hbW.cell (p:=⟨cb,0,none⟩) hcb).trans hc
 refine callsIn_of_wp Tryz.func39 rfl trivial ?_ rfl
 simp only[Tryz.ntmps39,List.size_toArray,List.length_cons,List.length_nil,Nat.reduceAdd,Nat.reduceSub,Array.replicate_succ,Array.replicate_zero,List.push_toArray,List.append_toArray,List.nil_append,List.cons_append]
 gi_wp2
 gi_loopw [4,10] (fun _ i wr=>∃ k:Nat,k≤nn∧i= .int .i64 (k:Int)∧J k wr) (fun _ i _=>nn-(intOf i).toNat)
 case atStart=>exact⟨0,Nat.zero_le _,rfl,h0⟩
 case round=>
  obtain⟨k,hk,rfl,hJ⟩:=hrel
  by_cases hlt:k<nn
  · gi_wp2_with (refine⟨trivial,rfl,?_⟩;gi_at_call 60;refine(callsIn_wide.2 (handle_any cb k _)).mono ?_;rintro e w1 ⟨rfl,hb1⟩;have hJ1:=hJb _ _ _ hJ hb1;obtain⟨fn,tmps,assign,body,hy,hR⟩:=hY k w1 hJ1 hlt)
    refine⟨rfl,hR.mono ?_⟩
    rintro e w2 (⟨rfl,hJ2⟩|⟨rfl,hJx2⟩)
    · gi_wp2
      go_roundw
      case rel=>exact⟨k+1,by omega,by go_num,hJ2⟩
      case measure=>simp[intOf];omega
    · gi_wp2
      refine bodyPost_ret (results_none rfl _ _ _) rfl ?_
      exact⟨⟨_,rfl⟩,.inr hJx2⟩
  · gi_wp2
    go_end0
    obtain rfl:k=nn:=by omega
    exact⟨⟨_,rfl⟩,.inl hJ⟩
end Go.Proofs.YtcalhcfinkhemaaGreatDoor
namespace Go.Proofs.YtcalhcfinkhemaaGreatDoor
open Go.RowKit
set_option linter.unusedVariables false
set_option linter.unusedSimpArgs false
theorem l2Clamp_any (x y:Int) (w:World):
 Calls Tryz.prog 153 #[vv x y] w fun e w'=>e= .returned (vv (fc x) (fc y))∧Below w.heap.size w w':=by
 have hset:=cset_map
 go_enter Tryz.func153,Tryz.ntmps153
 go_wp2
 go_region_with (go_at_call 154;refine(sFixClamp_any _ _).mono ?_;rintro e w' ⟨rfl,rfl⟩)
 all_goals
  go_wp2
  exact bodyPost_ret (v:=vv (fc x) (fc y)) (by simp[results,Tryz.results153,go_sem, *]) rfl ⟨rfl,bel_a⟩
theorem l1In_any (n l h:Int) (w:World):
 Calls Tryz.prog 25 #[.int .i64 n,.int .i64 l,.int .i64 h] w fun e w'=>e= .returned (.bool (decide (l≤n∧n≤h)))∧w'=w:=by
 go_enter Tryz.func25,Tryz.ntmps25
 go_wp2
 all_goals
  go_ret
  refine⟨ret_bool ?_,rfl⟩
  first|(simp;omega)|(simp;done)
theorem sVecSub_any (x y u v:Int) (w:World):
 Calls Tryz.prog 137 #[vv x y,vv u v] w fun e w'=>e= .returned (vv (fc (fc x-fc u)) (fc (fc y-fc v)))∧Below w.heap.size w w':=by
 have hx:=fc_bd x
 have hy:=fc_bd y
 have hu:=fc_bd u
 have hv:=fc_bd v
 have hset:=cset_map
 go_enter Tryz.func137,Tryz.ntmps137
 go_wp2_with (go_at_call 153;refine(l2Clamp_any _ _ _).mono ?_;rintro e w1 ⟨rfl,hb1⟩;obtain⟨hc1,hf1⟩:=bcell hb1;have hz1:=hb1.size;(try simp at hz1);have hq1x0a:w.heap.size<w1.heap.size:=(by omega);have hq1x1a:w.heap.size+1<w1.heap.size:=(by omega);have hq1x2a:w.heap.size+1+1<w1.heap.size:=(by omega);have hq1x2b:w.heap.size+2<w1.heap.size:=(by omega))
 exact bodyPost_ret (v:=vv (fc (fc x-fc u)) (fc (fc y-fc v))) (by simp[results,Tryz.results137,go_sem, *]) rfl ⟨rfl,bel_a⟩
theorem sVecDot_any (x y u v:Int) (w:World):
 Calls Tryz.prog 136 #[vv x y,vv u v] w fun e w'=>e= .returned (.int .i64 (vdot x y u v))∧Below w.heap.size w w':=by
 have hx:=fc_bd x
 have hy:=fc_bd y
 have hu:=fc_bd u
 have hv:=fc_bd v
 have p:=mul_bd hx hu
 have q:=mul_bd hy hv
 have hset:=cset_map
 go_enter Tryz.func136,Tryz.ntmps136
 go_wp2_with (first
  |(go_at_call 153;refine(l2Clamp_any _ _ _).mono ?_;rintro e w1 ⟨rfl,hb1⟩;obtain⟨hc1,hf1⟩:=bcell hb1;have hz1:=hb1.size;(try simp at hz1);have hq1x0a:w.heap.size<w1.heap.size:=(by omega);have hq1x1a:w.heap.size+1<w1.heap.size:=(by omega))
  |(go_at_call 154;refine(sFixClamp_any _ _).mono ?_;rintro e w' ⟨rfl,rfl⟩))
 go_ret
 exact⟨rfl,bel_a⟩
abbrev b4 (a b c d:Int):Value:= .agg #[.int .i64 a,.int .i64 b,.int .i64 c,.int .i64 d]
def leB (x y u v:Int):Bool:=decide (x≤u∧y≤v)
def bokB (a b c d:Int):Bool:=vokB a b&&(vokB c d&&leB a b c d)
theorem noneGreater_any (x y u v:Int) (w:World):
 Calls Tryz.prog 198 #[vv x y,vv u v] w fun e w'=>e= .returned (.bool (leB x y u v))∧Below w.heap.size w w':=by
 have hset:=cset_map
 go_enter Tryz.func198,Tryz.ntmps198
 go_wp2
 all_goals
  go_ret
  refine⟨ret_bool ?_,bel_a⟩
  unfold leB
  first|(simp;done)|(simp;omega)|(simp at*;omega)
theorem wayTimes_any (x y n:Int) (w:World) (hx: -1000000000≤x∧x≤1000000000) (hy: -1000000000≤y∧y≤1000000000) (hn: -1000000000≤n∧n≤1000000000):
 Calls Tryz.prog 179 #[vv x y,.int .i64 n] w fun e w'=>e= .returned (vv (fc ((x*n).tdiv 256)) (fc ((y*n).tdiv 256)))∧Below w.heap.size w w':=by
 have hset:=cset_map
 go_enter Tryz.func179,Tryz.ntmps179
 go_wp2
 go_region_with (go_at_call 193;refine(times_any _ _ _ (by omega) (by omega)).mono ?_;rintro e w' ⟨rfl,rfl⟩)
 all_goals
  go_wp2
  exact bodyPost_ret (v:=vv (fc ((x*n).tdiv 256)) (fc ((y*n).tdiv 256))) (by simp[results,Tryz.results179,go_sem, *]) rfl ⟨rfl,bel_a⟩
theorem dot_any (x y u v:Int) (w:World) (hx: -1000000000≤x∧x≤1000000000) (hy: -1000000000≤y∧y≤1000000000) (hu: -1000000000≤u∧u≤1000000000) (hv: -1000000000≤v∧v≤1000000000):
 Calls Tryz.prog 192 #[vv x y,vv u v] w fun e w'=>e= .returned (.int .i64 (fc ((x*u+y*v).tdiv 256)))∧Below w.heap.size w w':=by
 have p:=mul_bd (A:=1000000000) (B:=1000000000) hx hu
 have q:=mul_bd (A:=1000000000) (B:=1000000000) hy hv
 have ht:=i64w (n:=(x*u+y*v).tdiv 256) (by have:=tdiv_bd (x:=x*u+y*v) (B:=2000000000000000000) 256 (by omega);omega)
 have hset:=cset_map
 go_enter Tryz.func192,Tryz.ntmps192
 go_wp2_with (first
  |(go_at_call 194;refine(products_any _ _ _ _ _ (by omega) (by omega) (by omega) (by omega)).mono ?_;rintro e w2 ⟨rfl,hb2⟩;obtain⟨hc2,hf2⟩:=bcell hb2;have hz2:=hb2.size;(try simp at hz2);have hq2x0a:w.heap.size<w2.heap.size:=(by omega);have hq2x1a:w.heap.size+1<w2.heap.size:=(by omega))
  |(go_at_call 159;refine(held_any _ _ _ (by omega) (by omega)).mono ?_;rintro e w' ⟨rfl,rfl⟩))
 all_goals
  go_ret
  exact⟨rfl,bel_a⟩
theorem length_any (x y:Int) (w:World) (hx: -1000000000≤x∧x≤1000000000) (hy: -1000000000≤y∧y≤1000000000):
 Calls Tryz.prog 196 #[vv x y] w fun e w'=>e= .returned (.int .i64 (vl x y))∧Below w.heap.size w w':=by
 have hs:=sq_bd hx hy
 have hset:=cset_map
 go_enter Tryz.func196,Tryz.ntmps196
 go_wp2_with (first
  |(go_at_call 194;refine(products_any _ _ _ _ _ (by omega) (by omega) (by omega) (by omega)).mono ?_;rintro e w2 ⟨rfl,hb2⟩;obtain⟨hc2,hf2⟩:=bcell hb2;have hz2:=hb2.size;(try simp at hz2);have hq2x0a:w.heap.size<w2.heap.size:=(by omega))
  |(go_at_call 201;refine(root_any _ _ (by omega)).mono ?_;rintro e w5 ⟨rfl,hb5⟩;obtain⟨hc5,hf5⟩:=bcell hb5;have hz5:=hb5.size;(try simp at hz5);have hq5x0a:w.heap.size<w5.heap.size:=(by omega))
  |(go_at_call 159;refine(held_any _ _ _ (by omega) (by omega)).mono ?_;rintro e w' ⟨rfl,rfl⟩))
 go_ret
 exact⟨rfl,bel_a⟩
end Go.Proofs.YtcalhcfinkhemaaGreatDoor
namespace Go.Proofs.YtcalhcfinkhemaaGreatDoor
open Go.RowKit
set_option linter.unusedVariables false
theorem kfy {m:Nat} {W w1:World} (hc:∀ b o,b<m→w1.cell? ⟨b,o,none⟩=W.cell? ⟨b,o,none⟩) (hf:∀ b o,b<m→w1.frozen? ⟨b,o,none⟩=W.frozen? ⟨b,o,none⟩) (hz:m≤w1.heap.size) (b:Nat) (h:b<m):
 (∀ o,w1.cell? ⟨b,o,none⟩=W.cell? ⟨b,o,none⟩)∧(∀ o,w1.frozen? ⟨b,o,none⟩=W.frozen? ⟨b,o,none⟩)∧b<w1.heap.size∧(b=w1.heap.size)=False∧(w1.heap.size=b)=False:=
 have q:=Nat.lt_of_lt_of_le h hz
 ⟨fun o=>hc b o h,fun o=>hf b o h,q,eq_false (Nat.ne_of_lt q),eq_false (Nat.ne_of_gt q)⟩
theorem kfz {m:Nat} {W w1:World} (hc:∀ b o,b<m→w1.cell? ⟨b,o,none⟩=W.cell? ⟨b,o,none⟩) (hf:∀ b o,b<m→w1.frozen? ⟨b,o,none⟩=W.frozen? ⟨b,o,none⟩) (hz:m≤w1.heap.size) (b:Nat) (h:b<m):
 (∀ o,w1.cell? ⟨b,o,none⟩=W.cell? ⟨b,o,none⟩)∧(∀ o,w1.frozen? ⟨b,o,none⟩=W.frozen? ⟨b,o,none⟩)∧b<w1.heap.size∧(w1.heap.size=b)=False:=
 have q:=Nat.lt_of_lt_of_le h hz
 ⟨fun o=>hc b o h,fun o=>hf b o h,q,eq_false (Nat.ne_of_gt q)⟩
end Go.Proofs.YtcalhcfinkhemaaGreatDoor
