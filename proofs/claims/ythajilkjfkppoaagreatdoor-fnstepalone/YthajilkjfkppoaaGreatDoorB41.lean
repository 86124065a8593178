/- Texts of a proof. -/
import Derived.Test.YthajilkjfkppoaaGreatDoorB15
import Derived.Test.YthajilkjfkppoaaGreatDoorJo
import Derived.Test.YthajilkjfkppoaaGreatDoorB3
import Derived.Deep.RegionHeld3
import Derived.Deep.DeepCutAuto
import Derived.Test.YthajilkjfkppoaaGreatDoorB27
set_option maxHeartbeats 16000000
set_option maxRecDepth 20000
namespace Go.Proofs.YthajilkjfkppoaaGreatDoor
open Go.RowKit
set_option linter.unusedVariables false
set_option linter.unusedSimpArgs false
def hvs (cb:Nat) (l:List Nat):List Value:=l.flatMap fun (j:Nat)=>[.int .i64 (j:Int),.pointer (some ⟨cb,0,none⟩)]
theorem hvs_app (cb:Nat) (l:List Nat) (j:Nat):hvs cb l++[.int .i64 (j:Int),.pointer (some ⟨cb,0,none⟩)]=hvs cb (l++[j]):=by
 unfold hvs;rw[List.flatMap_append];rfl
theorem hvs_get (cb:Nat):∀ (l:List Nat) (q:Nat) (h:q<l.length),(hvs cb l)[q*2]? =some (.int .i64 (l[q]:Int))∧(hvs cb l)[q*2+1]? =some (.pointer (some ⟨cb,0,none⟩))
 | [],q,h=>absurd h (Nat.not_lt_zero _)
 |x::xs,0,_=>⟨rfl,rfl⟩
 | x::xs,q+1,h=>by
   have:=hvs_get cb xs q (by simpa using h)
   have e:hvs cb (x::xs)= .int .i64 (x:Int):: .pointer (some ⟨cb,0,none⟩)::hvs cb xs:=rfl
   rw[e,show (q+1)*2=q*2+1+1 by omega,show q*2+1+1+1=(q*2+1)+1+1 by omega]
   exact this
def HL (w:World) (base cb:Nat) (v:Value) (l:List Nat):Prop:=w.ownsRow base 59 2 v l.length (hvs cb l)
theorem HL.nil (w:World) (base cb:Nat):HL w base cb (.slice none 0 0) []:=World.ownsRow_nil w base _ _
theorem HL.lt {w:World} {base cb:Nat} {v:Value} {l:List Nat} (h:HL w base cb v l):∀ b,v.ownBlock=some b→base≤b∧b<w.heap.size:=World.ownsRow.lt h
theorem HL.sm {w w':World} {B base cb:Nat} {v:Value} {l:List Nat} (h:HL w base cb v l) (hs:Sm B w w'):HL w' base cb v l:=by
 refine⟨h.1,?_⟩
 rcases h.2 with q|⟨g,cap,cur,hv,hb,hg,rest⟩
 · exact .inl q
 · exact .inr ⟨g,cap,cur,hv,hb,hs.cells _ _ hg rfl,rest⟩
theorem HL.frame {X:Nat→Prop} {w w':World} {base cb:Nat} {v:Value} {l:List Nat} (h:HL w base cb v l) (hs:Fr X w w') (hX:∀ b,v.ownBlock=some b→¬ X b):HL w' base cb v l:=by
 refine⟨h.1,?_⟩
 rcases h.2 with q|⟨g,cap,cur,hv,hb,hg,rest⟩
 · exact .inl q
 · exact .inr ⟨g,cap,cur,hv,hb,(hs.block _ (Array.getElem?_eq_some_iff.1 hg).1 (hX g (by rw[hv];rfl))).trans hg,rest⟩
theorem HL.below {w w':World} {base cb:Nat} {v:Value} {l:List Nat} (h:HL w base cb v l) (hb:Below w.heap.size w w'):HL w' base cb v l:=h.frame (X:=fun _=>False) (Fr.of_below hb) (fun _ _ h=>h)
theorem HL.kx {w w':World} {B H base cb:Nat} {v:Value} {l:List Nat} (h:HL w base cb v l) (hs:Kx B H w w') (hH:H≤base):HL w' base cb v l:=by
 refine⟨h.1,?_⟩
 rcases h.2 with q|⟨g,cap,cur,hv,hb,hg,rest⟩
 · exact .inl q
 · exact .inr ⟨g,cap,cur,hv,hb,hs.cells _ _ hg rfl (by omega),rest⟩
theorem HL.base {w:World} {base B cb:Nat} {v:Value} {l:List Nat} (h:HL w base cb v l) (hB:B≤base):HL w B cb v l:=by
 refine⟨h.1,?_⟩
 rcases h.2 with q|⟨g,cap,cur,hv,hb,rest⟩
 · exact .inl q
 · exact .inr ⟨g,cap,cur,hv,by omega,rest⟩
theorem HL.is {w:World} {base cb:Nat} {v:Value} {l:List Nat} (h:HL w base cb v l):∃ a c,v= .slice a l.length c:=by
 rcases h.2 with⟨hv,e⟩|⟨g,cap,cur,hv,_⟩
 · exact⟨_,_,by rw[hv,e]⟩
 · exact⟨_,_,hv⟩
theorem HL.isCells {w:World} {base cb:Nat} {v:Value} {l:List Nat} (h:HL w base cb v l):∀ b o,v.ownBlock=some b→w.heap[b]? =some o→o.isCells=true:=by
 intro b o hb ho
 rcases h.2 with⟨hv,_⟩|⟨g,cap,cur,hv,_,hg,_⟩
 · subst hv;cases hb
 · subst hv
   simp only[Value.ownBlock,Option.some.injEq] at hb
   subst hb
   rw[hg] at ho;cases ho;rfl
theorem HL.cells {w:World} {base cb g c:Nat} {l:List Nat} (h:HL w base cb (.slice (some ⟨g,0,none⟩) l.length c) l) {q:Nat} (hq:q<l.length):
 w.cell? ⟨g,q*2,none⟩=some (.int .i64 (l[q]:Int))∧w.cell? ⟨g,q*2+1,none⟩=some (.pointer (some ⟨cb,0,none⟩)):=by
 have e0:=World.ownsRow.cellAt h (q*2) (by omega)
 have e1:=World.ownsRow.cellAt h (q*2+1) (by omega)
 have:=hvs_get cb l q hq
 exact⟨e0.trans this.1,e1.trans this.2⟩
theorem wpList_happ {P:Program} {ops:Array Oper} {rest:List Oper} {o:Oper} {a:Act} {Q:Exit→Act→World→Prop} {w:World} (hgd:o.guard=none) (s x:Operand) (t:TypeId)
 (ho:o.op= .call {callee:= .builtin .append,args:= #[s,x],argTypes:= #[t,t]}) (z:Value)
 (ht:P.underlying t=some (.slice 59)) (hinfo:(P.info? 59).map (fun i=>(i.zero,i.size,i.bytes))=some (some z,2,16)) (hzs:z.cells.size=2)
 (base cb:Nat) (v:Value) (l:List Nat) (hs:a.eval s=v) (h:HL w base cb v l) (b:Nat) (hx:a.eval x= .slice (some ⟨b,0,none⟩) 1 1) (j:Nat) (h0:w.cell? ⟨b,0,none⟩=some (.int .i64 (j:Int))) (h1:w.cell? ⟨b,1,none⟩=some (.pointer (some ⟨cb,0,none⟩)))
 (hn:l.length≤1000) (hbase:base≤w.heap.size)
 (hK:∀ g' c' w',HL w' base cb (.slice (some ⟨g',0,none⟩) (l++[j]).length c') (l++[j])→w.grownBy w' v.ownBlock→wpList P ops Q rest (a.put o.dst (.slice (some ⟨g',0,none⟩) (l++[j]).length c')) w'):wpList P ops Q (o::rest) a w:=by
 obtain⟨i,hi,hzz⟩:=Option.map_eq_some_iff.1 hinfo
 simp only[Prod.mk.injEq] at hzz
 obtain⟨hz,hsz,hb8⟩:=hzz
 refine wpList_append_lies w hgd s x t ho base 59 i z 2 16 ht hi hz hsz hb8 hzs (by decide) v l.length (hvs cb l) hs h ⟨b,0,none⟩ 1 1 [.int .i64 (j:Int),.pointer (some ⟨cb,0,none⟩)] hx rfl ?_ ?_ (by decide) (by unfold maxLen;omega) (by omega) hbase _ rfl ?_
 · intro q u hu
   match q,hu with
   |0,hu=>simp at hu;subst hu;exact h0
   |1,hu=>simp at hu;subst hu;exact h1
   |q+2,hu=>simp at hu
 · intro u hu;simp at hu;rcases hu with rfl|rfl<;>rfl
 · intro g' cap' w' r1 r2 r3 r4
   have e:(l++[j]).length=l.length+1:=by simp
   refine(congrArg (fun m=>wpList P ops Q rest (a.put o.dst (.slice (some ⟨g',0,none⟩) m cap')) w') e).mp (hK g' cap' w' ?_ r2)
   unfold HL
   rw[e,←hvs_app]
   exact r1
def Bk (B H:Nat) (A A':World):Prop:=∀ (k:Nat) (o:Obj),B≤k→k<H→A.heap[k]? =some o→o.isCells=true→A'.heap[k]? =some o
theorem Bk.cell {B H:Nat} {A A':World} (h:Bk B H A A') {p:Addr} {v:Value} (hc:A.cell? p=some v) (h1:B≤p.block) (h2:p.block<H):A'.cell? p=some v:=by
 obtain⟨o,ho,hx⟩:=isCells_of_cell hc
 exact(World.cell?_of_block ((h _ _ h1 h2 ho hx).trans ho.symm)).trans hc
theorem Bk.frozen {B H:Nat} {A A':World} (h:Bk B H A A') {p:Addr} {v:Value} {x:Bool} (hc:A.cell? p=some v) (hf:A.frozen? p=x) (h1:B≤p.block) (h2:p.block<H):A'.frozen? p=x:=by
 obtain⟨o,ho,hx⟩:=isCells_of_cell hc
 exact(World.frozen?_of_block ((h _ _ h1 h2 ho hx).trans ho.symm)).trans hf
theorem Bk.sm {B H B':Nat} {A A':World} (h:Sm B' A A'):Bk B H A A':=fun k o _ _ hk ho=>h.cells k o hk ho
theorem Bk.fr {B H:Nat} {A A':World} {T:Nat→Prop} (h:Fr T A A') (hT:∀ b,T b→b<B∨H≤b):Bk B H A A':=(Kc.fr h hT).band
theorem Bk.below {B H:Nat} {A A':World} (h:Below A.heap.size A A'):Bk B H A A':=(Kc.of_below h).band
structure Pb (B H ub g bu bg:Nat):Prop where
 y:B+1<H
 ub1:B≤ub
 ub2:ub<H
 g1:B+1<g
 g2:g<H
 bu1:B≤bu
 bu2:bu<H
 bg1:B+1<bg
 bg2:bg<H
 n1:bg≠g
 n2:bg≠ub
 n3:bg≠bu
 n4:bu≠g
 n5:ub≠g
structure Pv (A:World) (B cb yl ub g n bu bg:Nat) (L:Nat→Nat) (v:Nat):Prop where
 c0:A.cell? ⟨B,0,none⟩=some (.pointer (some ⟨cb,0,none⟩))
 c1:A.cell? ⟨B+1,0,none⟩=some (.func (.yield yl) #[] #[])
 cu:A.cell? ⟨bu,0,none⟩=some (.pointer (some ⟨ub,0,none⟩))
 cg:A.cell? ⟨bg,0,none⟩=some (.int .i64 (v:Int))
 fg:A.frozen? ⟨bg,0,none⟩=false
 uf:∃ G,Uf A ub g n n G∧∀ j,rootF G j=L j
section
variable {A A':World} {B H cb yl ub g n bu bg:Nat} {L:Nat→Nat} {v:Nat}
theorem Uf.bk {c:Nat} {G:Nat→Nat} (h:Uf A ub g n c G) (hb:Pb B H ub g bu bg) (k:Bk B H A A') (hs:A.heap.size≤A'.heap.size):Uf A' ub g n c G:=by
 have h1:=hb.g1
 exact⟨k.cell h.hd hb.ub1 hb.ub2,fun i hi=>k.cell (h.row i hi) (by show B≤g;omega) hb.g2,fun i hi=>k.frozen (h.row i hi) (h.fz i hi) (by show B≤g;omega) hb.g2,h.le,h.ne,by have:=h.l1;omega,by have:=h.l2;omega⟩
theorem Pv.bk (h:Pv A B cb yl ub g n bu bg L v) (hb:Pb B H ub g bu bg) (k:Bk B H A A') (hs:A.heap.size≤A'.heap.size):Pv A' B cb yl ub g n bu bg L v:=by
 obtain⟨G,hu,hG⟩:=h.uf
 have:=hb.y
 have:=hb.bg1
 exact⟨k.cell h.c0 (Nat.le_refl _) (by show B<H;omega),k.cell h.c1 (by show B≤B+1;omega) hb.y,k.cell h.cu hb.bu1 hb.bu2,k.cell h.cg (by show B≤bg;omega) hb.bg2,k.frozen h.cg h.fg (by show B≤bg;omega) hb.bg2,G,hu.bk hb k hs,hG⟩
theorem Pv.top (h:Pv A B cb yl ub g n bu bg L v) (hb:Pb B H ub g bu bg) (k:Fr (fun b=>b=g) A A') {G:Nat→Nat} (hu:Uf A' ub g n n G) (hG:∀ j,rootF G j=L j):Pv A' B cb yl ub g n bu bg L v:=by
 have h1:=hb.g1
 have l0:B<A.heap.size:=cell_lt (a:=⟨B,0,none⟩) h.c0
 have l1:B+1<A.heap.size:=cell_lt (a:=⟨B+1,0,none⟩) h.c1
 have l2:bu<A.heap.size:=cell_lt (a:=⟨bu,0,none⟩) h.cu
 have l3:bg<A.heap.size:=cell_lt (a:=⟨bg,0,none⟩) h.cg
 exact⟨(k.cell (p:=⟨B,0,none⟩) l0 (by show ¬ B=g;omega)).trans h.c0,(k.cell (p:=⟨B+1,0,none⟩) l1 (by show ¬ B+1=g;omega)).trans h.c1,(k.cell (p:=⟨bu,0,none⟩) l2 hb.n4).trans h.cu,(k.cell (p:=⟨bg,0,none⟩) l3 hb.n1).trans h.cg,(k.frozen (p:=⟨bg,0,none⟩) l3 hb.n1).trans h.fg,G,hu,hG⟩
theorem Pv.next (h:Pv A B cb yl ub g n bu bg L v) (hb:Pb B H ub g bu bg) (v':Nat):Pv (A.setCell ⟨bg,0,none⟩ (.int .i64 (v':Int))) B cb yl ub g n bu bg L v':=by
 obtain⟨G,hu,hG⟩:=h.uf
 have h1:=hb.bg1
 have h2:=hb.n1
 have h3:=hb.n2
 have h4:=hb.n3
 refine⟨?_,?_,?_,?_,by rw[World.frozen?_setCell];exact h.fg,G,⟨?_,fun i hi=> ?_,fun i hi=>by rw[World.frozen?_setCell];exact hu.fz i hi,hu.le,hu.ne,by simpa using hu.l1,by simpa using hu.l2⟩,hG⟩
 · rw[cset_far (by simp;omega)];exact h.c0
 · rw[cset_far (by simp;omega)];exact h.c1
 · rw[cset_far (by simp;omega)];exact h.cu
 · rw[cset_map,h.cg];rfl
 · rw[cset_far (by simp;omega)];exact hu.hd
 · rw[cset_far (by simp;omega)];exact hu.row i hi
end
end Go.Proofs.YthajilkjfkppoaaGreatDoor
namespace Go.Proofs.YthajilkjfkppoaaGreatDoor
open Go.RowKit
set_option linter.unusedVariables false
set_option linter.unusedSimpArgs false
def memL (L:Nat→Nat) (i:Nat):Nat→List Nat
 |0=>[]
 |k+1=>memL L i k++(if L k=i then [k] else [])
theorem memL_le (L:Nat→Nat) (i:Nat):∀ k,(memL L i k).length≤k
 |0=>Nat.le_refl _
 | k+1=>by
   have:=memL_le L i k
   rw[memL,List.length_append]
   split<;>simp<;>omega
def fstB (fx:Nat→Bool) (L:Nat→Nat) (i:Nat):Bool:= !fx i&&decide (L i=i)
def ColF (cb n:Nat) (fx:Nat→Bool) (A:World):Prop:=∃ C S,Cs A cb n C S∧∀ j,j<n→decide (C 8 j=0)=fx j
def GrE (cb n:Nat) (fx:Nat→Bool) (L:Nat→Nat) (H k:Nat) (args:Array Value) (A:World):Prop:=
 ∃ i v,i<n∧fstB fx L i=true∧cntp (fstB fx L) i=k∧args= #[.int .i64 (k:Int),v]∧HL A H cb v (memL L i n)
structure Mb (X:World) (mb cb:Nat) (v:Value) (l:List Nat):Prop where
 box:X.cell? ⟨mb,0,none⟩=some v
 nf:X.frozen? ⟨mb,0,none⟩=false
 own:HL X (mb+1) cb v l
section
variable {A X Y:World} {B H cb yl ub g n bu bg ba mb i cv:Nat} {L:Nat→Nat} {v:Value} {l:List Nat}
structure Q2 (A X:World) (B H cb yl ub g n bu bg ba mb i cv:Nat) (L:Nat→Nat) (v:Value) (l:List Nat):Prop where
 p:Pv X B cb yl ub g n bu bg L cv
 m:Mb X mb cb v l
 f0:X.cell? ⟨ba,0,none⟩=some (.int .i64 (i:Int))
 f1:X.cell? ⟨ba,1,none⟩=some (.pointer (some ⟨cb,0,none⟩))
 kx:Kx B H A X
 kf:KeepsFrom H A X
theorem Q2.fr (h:Q2 A X B H cb yl ub g n bu bg ba mb i cv L v l) (hb:Pb B H ub g bu bg) {T:Nat→Prop} (k:Fr T X Y) (hT:∀ b,T b→A.heap.size≤b) (hHA:H≤A.heap.size) (hba:¬ T ba) (hmb:¬ T mb) (hv:∀ b,v.ownBlock=some b→¬ T b):Q2 A Y B H cb yl ub g n bu bg ba mb i cv L v l:=by
 have hy:=hb.y
 exact⟨h.p.bk hb (Bk.fr k (fun b e=>by have:=hT b e;omega)) k.size,⟨(k.cell (p:=⟨mb,0,none⟩) (cell_lt (a:=⟨mb,0,none⟩) h.m.box) hmb).trans h.m.box,(k.frozen (p:=⟨mb,0,none⟩) (cell_lt (a:=⟨mb,0,none⟩) h.m.box) hmb).trans h.m.nf,h.m.own.frame k hv⟩,
  (k.cell (p:=⟨ba,0,none⟩) (cell_lt (a:=⟨ba,0,none⟩) h.f0) hba).trans h.f0,(k.cell (p:=⟨ba,1,none⟩) (cell_lt (a:=⟨ba,0,none⟩) h.f0) hba).trans h.f1,h.kx.fr k (fun b e=>⟨by have:=hT b e;omega,.inr (hT b e)⟩) (by omega),h.kf.trans (k.keeps _)⟩
theorem Q2.below (h:Q2 A X B H cb yl ub g n bu bg ba mb i cv L v l) (hb:Pb B H ub g bu bg) (k:Below X.heap.size X Y) (hHA:H≤A.heap.size):Q2 A Y B H cb yl ub g n bu bg ba mb i cv L v l:=
 h.fr hb (T:=fun _=>False) (Fr.of_below k) (fun _ q=>q.elim) hHA (fun q=>q) (fun q=>q) (fun _ _ q=>q)
theorem Q2.sm (h:Q2 A X B H cb yl ub g n bu bg ba mb i cv L v l) (hb:Pb B H ub g bu bg) {B':Nat} (k:Sm B' X Y) (hA:A.heap.size≤B') (hB:B≤B'):Q2 A Y B H cb yl ub g n bu bg ba mb i cv L v l:=
 ⟨h.p.bk hb (Bk.sm k) k.size,⟨k.cell h.m.box,k.frozen h.m.box h.m.nf,h.m.own.sm k⟩,k.cell h.f0,k.cell h.f1,h.kx.sm k hB,h.kf.sm k hA⟩
theorem Q2.top (h:Q2 A X B H cb yl ub g n bu bg ba mb i cv L v l) (hb:Pb B H ub g bu bg) (k:Fr (fun b=>b=g) X Y) {G:Nat→Nat} (hu:Uf Y ub g n n G) (hG:∀ j,rootF G j=L j) (hHA:H≤A.heap.size) (hba:H≤ba) (hmb:H≤mb):Q2 A Y B H cb yl ub g n bu bg ba mb i cv L v l:=by
 have hy:=hb.g2
 have hy1:=hb.g1
 exact⟨h.p.top hb k hu hG,⟨(k.cell (p:=⟨mb,0,none⟩) (cell_lt (a:=⟨mb,0,none⟩) h.m.box) (by show ¬ mb=g;omega)).trans h.m.box,(k.frozen (p:=⟨mb,0,none⟩) (cell_lt (a:=⟨mb,0,none⟩) h.m.box) (by show ¬ mb=g;omega)).trans h.m.nf,h.m.own.frame k (fun b e q=>by have:=(h.m.own.lt b e).1;omega)⟩,
  (k.cell (p:=⟨ba,0,none⟩) (cell_lt (a:=⟨ba,0,none⟩) h.f0) (by show ¬ ba=g;omega)).trans h.f0,(k.cell (p:=⟨ba,1,none⟩) (cell_lt (a:=⟨ba,0,none⟩) h.f0) (by show ¬ ba=g;omega)).trans h.f1,h.kx.fr k (fun b e=>by subst e;exact⟨by omega,.inl hy⟩) (by omega),h.kf.trans (k.keeps _)⟩
theorem Q2.app (h:Q2 A X B H cb yl ub g n bu bg ba mb i cv L v l) (hb:Pb B H ub g bu bg) (hHA:H≤A.heap.size) (hba:H≤ba) (hm1:A.heap.size≤mb) (hbm:ba<mb) {v':Value} {l':List Nat} (k:Fr (fun b=>b=mb∨v.ownBlock=some b) X Y) (hbx:Y.cell? ⟨mb,0,none⟩=some v') (hnf:Y.frozen? ⟨mb,0,none⟩=false) (ho:HL Y (mb+1) cb v' l'):Q2 A Y B H cb yl ub g n bu bg ba mb i cv L v' l':=by
 have hlo:∀ b,v.ownBlock=some b→mb+1≤b:=fun b e=>(h.m.own.lt b e).1
 have hy:=hb.y
 have hnba:¬ (ba=mb∨v.ownBlock=some ba):=fun q=>q.elim (by omega) (fun e=>by have:=hlo _ e;omega)
 exact⟨h.p.bk hb (Bk.fr k (fun b e=>e.elim (fun e=>by omega) (fun e=>by have:=hlo b e;omega))) k.size,⟨hbx,hnf,ho⟩,
  (k.cell (p:=⟨ba,0,none⟩) (cell_lt (a:=⟨ba,0,none⟩) h.f0) hnba).trans h.f0,(k.cell (p:=⟨ba,1,none⟩) (cell_lt (a:=⟨ba,0,none⟩) h.f0) hnba).trans h.f1,h.kx.fr k (fun b e=>e.elim (fun e=>⟨by omega,.inr (by omega)⟩) (fun e=>by have:=hlo b e;exact⟨by omega,.inr (by omega)⟩)) (by omega),h.kf.trans (k.keeps _)⟩
theorem Q2.push (h:Q2 A X B H cb yl ub g n bu bg ba mb i cv L v l) (hb:Pb B H ub g bu bg) (hHA:H≤A.heap.size) (hba:H≤ba) (hm1:A.heap.size≤mb) (hbm:ba<mb) {Y w7:World} (hE:Below X.heap.size X Y) (hg:Y.grownBy w7 v.ownBlock) {v':Value} {l':List Nat} (ho:HL w7 (mb+1) cb v' l'):
 (w7.cell? ⟨mb,0,none⟩=some v∧w7.frozen? ⟨mb,0,none⟩=false)∧Q2 A (w7.setCell ⟨mb,0,none⟩ v') B H cb yl ub g n bu bg ba mb i cv L v' l'∧Fr (fun b=>b=mb∨v.ownBlock=some b) X (w7.setCell ⟨mb,0,none⟩ v'):=by
 have h7:=h.below hb hE hHA
 have hF7:Fr (fun b=>v.ownBlock=some b) Y w7:=Fr.grown hg (fun b e=>e) h7.m.own.isCells
 have hml:mb<Y.heap.size:=cell_lt (a:=⟨mb,0,none⟩) h7.m.box
 have nmb:¬ (v.ownBlock=some mb):=fun e=>by have:=(h.m.own.lt _ e).1;omega
 have c:=(hF7.cell (p:=⟨mb,0,none⟩) hml nmb).trans h7.m.box
 have f:=(hF7.frozen (p:=⟨mb,0,none⟩) hml nmb).trans h7.m.nf
 have hF:Fr (fun b=>b=mb∨v.ownBlock=some b) X (w7.setCell ⟨mb,0,none⟩ v'):=((Fr.of_below hE).trans (hF7.mono (fun _ _ e=> .inr e))).trans (Fr.setCell (p:=⟨mb,0,none⟩) (.inl rfl) _)
 refine⟨⟨c,f⟩,h.app hb hHA hba hm1 hbm hF ?_ ?_ ?_,hF⟩
 · rw[cset_map,c];rfl
 · rw[World.frozen?_setCell];exact f
 · exact ho.frame (X:=fun b=>b=mb) (Fr.setCell (X:=fun b=>b=mb) (p:=⟨mb,0,none⟩) rfl _) (fun b e q=>by have:=(ho.lt b e).1;omega)
end
theorem opIn_yield {P:Program} {Q:Exit→Act→World→Prop} {l0 l:Nat} {o:Oper} {a:Act} {w:World} {rest:List Oper} {ops:Array Oper} {x p q:Operand} {ts:Array TypeId} {vp vq:Value} {R:Ending→World→Prop}
 (hg:o.guard=none) (ho:o.op= .call {callee:= .value x,args:= #[p,q],argTypes:=ts}) (hx:a.eval x= .func (.yield l) #[] #[]) (hp:a.eval p=vp) (hq:a.eval q=vq)
 (hY:YieldAt Fence.wide 0 P l #[vp,vq] w R) (hK:∀ e w',R e w'→∃ v,e= .returned v∧wpListIn (Fence.wide.inRound l0) 0 P ops Q rest (a.put o.dst v) w'):wpListIn (Fence.wide.inRound l0) 0 P ops Q (o::rest) a w:=by
 obtain⟨fn,tmps,assign,body,hy,hR⟩:=hY
 obtain⟨dst,op,ty,pos,after,guard⟩:=o
 simp only at ho hg
 subst ho hg
 unfold wpListIn
 rw[if_pos (by simp[Region.wanted])]
 unfold Oper.wpIn
 refine⟨fun _ _=>trivial,?_⟩
 rw[Oper.semAt_eq _ _ _ (by intro c e;cases e)]
 have e:(execOp a.eval {dst:=dst,op:= .call {callee:= .value x,args:= #[p,q],argTypes:=ts},type:=ty,pos:=pos,after:=after,guard:=none}).run P w= .ok (.round l fn tmps assign body) w:=by
  have hm:(#[p,q]:Array Operand).map a.eval= #[vp,vq]:=by simp[hp,hq]
  simp only[execOp,resolve,hx,hm]
  simp[go_sem,invoke,hy]
 rw[e,Oper.uponIn_round]
 refine⟨(fun e=>by cases e),hR.mono ?_⟩
 intro e w' h
 obtain⟨v,rfl,h2⟩:=hK e w' h
 exact h2
theorem opIn_plain {P:Program} {Q:Exit→Act→World→Prop} {l0:Nat} {o:Oper} {a:Act} {w:World} {rest:List Oper} {ops:Array Oper} (hg:o.guard=none) (hd:∀ c,o.op≠ .defer c)
 (h:∀ K,(∀ a w,wpListIn (Fence.wide.inRound l0) 0 P ops Q rest a w→K a w)→o.wp P a w K Q):wpListIn (Fence.wide.inRound l0) 0 P ops Q (o::rest) a w:=by
 unfold wpListIn
 rw[if_pos (by simp[Region.wanted,hg])]
 exact opIn_of hd (h _ (fun _ _ h=>h))
abbrev zcHan:Value:= .agg #[.int .i64 0,.pointer none]
theorem infoHan:(Tryz.prog.info? 59).map (fun i=>(i.zero,i.size,i.bytes))=some (some zcHan,2,16):=by kernel_rfl
theorem cntp_up (p:Nat→Bool) {a b:Nat} (h:a≤b):cntp p a≤cntp p b:=by
 induction b with
 | zero=>
   have:a=0:=by omega
   subst this;exact Nat.le_refl _
 | succ b ih=>
   by_cases e:a=b+1
   · subst e;exact Nat.le_refl _
   · have:=ih (by omega)
     show cntp p a≤cntp p b+(if p b=true then 1 else 0)
     split<;>omega
theorem cntp_in (p:Nat→Bool) {i n:Nat} (hi:i<n) (hp:p i=true):cntp p i<cntp p n:=by
 have:=cntp_up p (show i+1≤n by omega)
 rw[cntp,hp] at this
 simp at this
 omega
theorem groups_it (cb n:Nat) (U:Nat→Int) (S:Nat→Value) (M:Nat) (w:World) (hC:Cs w cb n (colOf U) S) (hn:n≤12) (hM:(conL (colOf U) n).length=M*5) (hMk:M≤1000)
 (L:Nat→Nat) (hL:∀ j,L j=lab (edg U (ofL (conL (colOf U) n))) M j) (fx:Nat→Bool):
 ItG Tryz.prog 116 #[.pointer (some ⟨cb,0,none⟩)] (ColF cb n fx) (GrE cb n fx L) (cntp (fstB fx L) n) w:=by
 intro l J W hbW hJ hJc hJ0 hY
 have hset:=cset_map
 have hCW:=hC.below hbW
 refine callsIn_wide.2 (calls_of_wp_marks Tryz.func116 rfl ?_)
 simp only[Tryz.ntmps116,List.size_toArray,List.length_cons,List.length_nil,Nat.reduceAdd,Nat.reduceSub,Array.replicate_succ,Array.replicate_zero,List.push_toArray,List.append_toArray,List.nil_append,List.cons_append]
 go_upto_region 2 with(go_at_call 144;refine(joined_q cb n U S M _ (hCW.below (((Below.refl _ _).alloc (Nat.le_refl _) _).alloc (by simp) _)) hn hM hMk).mono ?_;rintro e w1 ⟨ub,g,G,rfl,hgu,hU1,hG1,hb1⟩)
 simp only[World.size_alloc] at hgu hb1
 have hz1:=hb1.size
 simp only[World.size_alloc] at hz1
 have p0:=(hb1.cell (p:=⟨W.heap.size,0,none⟩) (by show W.heap.size<W.heap.size+1+1;omega)).trans (by go_simp:_=some (.pointer (some ⟨cb,0,none⟩)))
 have p1:=(hb1.cell (p:=⟨W.heap.size+1,0,none⟩) (by show W.heap.size+1<W.heap.size+1+1;omega)).trans (by go_simp:_=some (.func (.yield l) #[] #[]))
 have hbA:Below W.heap.size W w1:=(((Below.refl _ W).alloc (Nat.le_refl _) _).alloc (by simp) _).trans (hb1.mono (by omega))
 have hE2:Below w1.heap.size w1 ((w1.alloc (Obj.cells #[.pointer (some ⟨ub,0,none⟩)] 208)).alloc (Obj.cells #[.int .i64 0] 3)):=((Below.refl _ _).alloc (Nat.le_refl _) _).alloc (by simp) _
 have hB2:Below W.heap.size W ((w1.alloc (Obj.cells #[.pointer (some ⟨ub,0,none⟩)] 208)).alloc (Obj.cells #[.int .i64 0] 3)):=hbA.trans (hE2.mono (by omega))
 have hz2:((w1.alloc (Obj.cells #[.pointer (some ⟨ub,0,none⟩)] 208)).alloc (Obj.cells #[.int .i64 0] 3)).heap.size=w1.heap.size+1+1:=by simp
 have cu:((w1.alloc (Obj.cells #[.pointer (some ⟨ub,0,none⟩)] 208)).alloc (Obj.cells #[.int .i64 0] 3)).cell? ⟨w1.heap.size,0,none⟩=some (.pointer (some ⟨ub,0,none⟩)):=by go_simp
 have cg:((w1.alloc (Obj.cells #[.pointer (some ⟨ub,0,none⟩)] 208)).alloc (Obj.cells #[.int .i64 0] 3)).cell? ⟨w1.heap.size+1,0,none⟩=some (.int .i64 0):=by go_simp
 have fg:((w1.alloc (Obj.cells #[.pointer (some ⟨ub,0,none⟩)] 208)).alloc (Obj.cells #[.int .i64 0] 3)).frozen? ⟨w1.heap.size+1,0,none⟩=false:=by go_simp
 generalize ((w1.alloc (Obj.cells #[.pointer (some ⟨ub,0,none⟩)] 208)).alloc (Obj.cells #[.int .i64 0] 3))=w2 at hE2 hB2 hz2 cu cg fg ⊢
 have hU2:=hU1.on hE2
 have l2:=hU1.l2
 have l1:=hU1.l1
 have hn5:=hU1.ne
 have hPv:Pv w2 W.heap.size cb l ub g n w1.heap.size (w1.heap.size+1) L 0:=
  ⟨(hE2.cell (p:=⟨W.heap.size,0,none⟩) (by show W.heap.size<w1.heap.size;omega)).trans p0,(hE2.cell (p:=⟨W.heap.size+1,0,none⟩) (by show W.heap.size+1<w1.heap.size;omega)).trans p1,cu,cg,fg,G,hU2,fun j=>(hG1 j).trans (hL j).symm⟩
 have hPb:Pb W.heap.size w2.heap.size ub g w1.heap.size (w1.heap.size+1):=by
  refine⟨by omega,by omega,by omega,by omega,by omega,by omega,by omega,by omega,by omega,by omega,by omega,by omega,by omega,hn5⟩
 have hJ2:=hJ0 w2 hB2
 have hC2:=hCW.below hB2
 have p0':=hPv.c0
 clear hL p0 p1 hbA hE2 hU2 l1 l2 hn5 hU1 hG1 hb1 hgu cu cg fg
 generalize w1.heap.size+1=bg at hPv hPb hz2 ⊢
 generalize w1.heap.size=bu at hPv hPb hz2 hz1 ⊢
 have hHB:W.heap.size≤w2.heap.size:=hB2.size
 obtain⟨ad,cc,hS0⟩:=(hC2.own 0 (by omega)).is
 have hd0:=hC2.hd 0 (by omega)
 rw[hS0] at hd0
 go_wp2
 refine wp_range_out (gf:=29) (bound:= #[.pointer (some ⟨cb,0,none⟩)]) rfl each_enters (each_it cb n _ _ w2 hC2.lt hd0 (by omega)) (fun _=>rfl) (fun i A=>Pv A W.heap.size cb l ub g n bu bg L (cntp (fstB fx L) i)∧J w2.heap.size (cntp (fstB fx L) i) A∧w2.heap.size≤A.heap.size) (fun _ _=>False) ?_ (fun _ _ _ h _=>h) ⟨hPv,hJ2,Nat.le_refl _⟩ ?round ?done (fun _ _ _ _ h _=>h.elim)
 · rintro i A A' ⟨h1,h2,h3⟩ hs
   exact⟨h1.bk hPb (Bk.sm hs) hs.size,hJ _ _ _ _ h2 (Kx.of_sm hs hHB),Nat.le_trans h3 hs.size⟩
 case done=>
  rintro D A hD ⟨h1,h2,h3⟩ hK
  go_wp2
  refine marks_ret (B:=w2.heap.size) hD rfl hK fun A' hS=>⟨_,results_none rfl _ _ _,⟨_,rfl⟩,w2.heap.size,?_⟩
  exact hJ _ _ _ _ h2 (Kx.of_sm hS hHB)
 case round=>
  rintro l0 i A hl0 ⟨hP,hJA,hHA0⟩ hi
  clear hPv hJ2 hC2 hd0 hS0 p0'
  obtain⟨H,hH⟩:∃ x,w2.heap.size=x:=⟨_,rfl⟩
  rw[hH] at hPb hJA hHA0 hHB hl0 ⊢
  obtain⟨B,hB⟩:∃ x,W.heap.size=x:=⟨_,rfl⟩
  rw[hB] at hPb hP hHB hJ hY ⊢
  simp only[List.zip_toArray,List.zip_cons_cons,List.zip_nil_left,List.foldl_toArray,List.foldl_cons,List.foldl_nil,List.setIfInBounds_toArray,List.set_cons_succ,List.set_cons_zero]
  refine wpIn_region_plain (by rintro⟨_,_,h⟩;exact h) (by kernel_rfl) ?_
  go_wp2
  refine⟨(KeepsOthers.alloc _ _).from _,fun A2 hS hr=> ?_⟩
  obtain⟨rr,hrr⟩:=hr
  have hE1:Below A.heap.size A (A.alloc (Obj.cells #[.int .i64 (i:Int),.pointer (some ⟨cb,0,none⟩)] 59)):=(Below.refl _ _).alloc (Nat.le_refl _) _
  have v0:(A.alloc (Obj.cells #[.int .i64 (i:Int),.pointer (some ⟨cb,0,none⟩)] 59)).cell? ⟨A.heap.size,0,none⟩=some (.int .i64 (i:Int)):=by go_simp
  have v1:(A.alloc (Obj.cells #[.int .i64 (i:Int),.pointer (some ⟨cb,0,none⟩)] 59)).cell? ⟨A.heap.size,1,none⟩=some (.pointer (some ⟨cb,0,none⟩)):=by go_simp
  have hz3:(A.alloc (Obj.cells #[.int .i64 (i:Int),.pointer (some ⟨cb,0,none⟩)] 59)).heap.size=A.heap.size+1:=by simp
  generalize (A.alloc (Obj.cells #[.int .i64 (i:Int),.pointer (some ⟨cb,0,none⟩)] 59))=A1 at hE1 v0 v1 hz3 hS
  have hP2:=(hP.bk hPb (Bk.below hE1) hE1.size).bk hPb (Bk.sm hS) hS.size
  have hJ2:=hJ _ _ _ _ hJA ((Kx.of_below hE1 (by omega)).sm hS (by omega))
  replace v0:=hS.cell v0
  replace v1:=hS.cell v1
  have hzA:=hS.size
  clear hP hJA hE1 hS
  obtain⟨ba,hba0⟩:∃ x,A.heap.size=x:=⟨_,rfl⟩
  rw[hba0] at v0 v1 hz3 hHA0 ⊢
  clear hba0
  have hba:H≤ba:=hHA0
  have hHA:H≤A2.heap.size:=by omega
  have hbaA:ba<A2.heap.size:=by omega
  obtain⟨C2,S2,hCs,hfx⟩:=hJc _ _ _ hJ2
  have hfi:=hfx i hi
  have u0:=hP2.cu
  refine wpIn_block ?_
  refine wpIn_seq_k fun K1 hK1=> ?_
  refine wpIn_seq_k fun K2 hK2=> ?_
  have stay:∀ Y,Pv Y B cb l ub g n bu bg L (cntp (fstB fx L) i)→J H (cntp (fstB fx L) i) Y→KeepsFrom H A2 Y→A2.heap.size≤Y.heap.size→fstB fx L i=false→KeepsFrom H A2 Y∧Pv Y B cb l ub g n bu bg L (cntp (fstB fx L) (i+1))∧J H (cntp (fstB fx L) (i+1)) Y∧H≤Y.heap.size:=fun Y h1 h2 h3 h4 h5=>by
   have e:cntp (fstB fx L) (i+1)=cntp (fstB fx L) i:=by rw[cntp,h5];rfl
   rw[e]
   exact⟨h3,h1,h2,Nat.le_trans hHA h4⟩
  obtain⟨fi,hfe⟩:∃ b,fx i=b:=⟨_,rfl⟩
  rw[hfe] at hfi
  cases fi with
  | true=>
    have hno:fstB fx L i=false:=by unfold fstB;rw[hfe];rfl
    refine wpIn_region_held_drew (S:=fun w'=>w'.cell? ⟨bu,0,none⟩=some (.pointer (some ⟨ub,0,none⟩))∧w'.cell? ⟨ba,0,none⟩=some (.int .i64 (i:Int))∧w'.cell? ⟨ba,1,none⟩=some (.pointer (some ⟨cb,0,none⟩))) (by kernel_rfl) (by rintro⟨_,_,h⟩;exact h) (by kernel_rfl) ?_ (fun hHeld=> ?_)
    · (try dsimp only)
      (first|(go_simp;done)|(go_keep;done))
    refine tq 0 hHeld ?_
    refine tc 1 fun K hK=> ?_
    (go_simp
     have hD:Below A2.heap.size A2 A2.drew:=Below.drew (Below.refl _ _)
     (go_at_call 51;refine(kFixed_q (Cs.hat (hCs.below hD) hi (by omega)) hfi).mono ?_;rintro e w11 ⟨rfl,hx⟩)
     have hb1:Below A2.heap.size A2 w11:=hD.trans hx
     clear hx hD
     have hP3:=hP2.bk hPb (Bk.below hb1) hb1.size
     have hk3:Kx B H A2 w11:=Kx.of_below hb1 (by omega)
     have hf3:KeepsFrom H A2 w11:=KeepsFrom.of_below hb1
     clear u0
     have u0:=hP3.cu
     have x0:=(hb1.cell (p:=⟨ba,0,none⟩) hbaA).trans v0
     have x1:=(hb1.cell (p:=⟨ba,1,none⟩) hbaA).trans v1
     have hz4:=hb1.size
     (try go_wp2_with fail)
     refine tr hK (fun hHeld=> ?_)
     clear hK K)
    refine tq 2 hHeld ?_
    refine tn 3 hHeld ?_
    refine tn 4 hHeld ?_
    refine tn 5 hHeld ?_
    refine tn 6 hHeld ?_
    refine tn 7 hHeld ?_
    refine tn 8 hHeld ?_
    refine tn 9 hHeld ?_
    refine tq 10 hHeld ?_
    refine wpAnyH_done (by kernel_rfl) ?_ _
    go_wp2_with fail
    refine wpIn_cond_true rfl ?_
    refine wpIn_exit ?_
    exact stay _ hP3 (hJ _ _ _ _ hJ2 hk3) hf3 hz4 hno
  | false=>
    obtain⟨be,hbe⟩:∃ b,((L i:Int) !=(i:Int))=b:=⟨_,rfl⟩
    refine wpIn_region_held_drew (S:=fun w'=>w'.cell? ⟨bu,0,none⟩=some (.pointer (some ⟨ub,0,none⟩))∧w'.cell? ⟨ba,0,none⟩=some (.int .i64 (i:Int))∧w'.cell? ⟨ba,1,none⟩=some (.pointer (some ⟨cb,0,none⟩))) (by kernel_rfl) (by rintro⟨_,_,h⟩;exact h) (by kernel_rfl) ?_ (fun hHeld=> ?_)
    · (try dsimp only)
      (first|(go_simp;done)|(go_keep;done))
    refine tq 0 hHeld ?_
    refine tc 1 fun K hK=> ?_
    (go_simp
     have hD:Below A2.heap.size A2 A2.drew:=Below.drew (Below.refl _ _)
     (go_at_call 51;refine(kFixed_q (Cs.hat (hCs.below hD) hi (by omega)) hfi).mono ?_;rintro e w11 ⟨rfl,hx⟩)
     have hb1:Below A2.heap.size A2 w11:=hD.trans hx
     clear hx hD
     have hP3:=hP2.bk hPb (Bk.below hb1) hb1.size
     have hk3:Kx B H A2 w11:=Kx.of_below hb1 (by omega)
     have hf3:KeepsFrom H A2 w11:=KeepsFrom.of_below hb1
     clear u0
     have u0:=hP3.cu
     have x0:=(hb1.cell (p:=⟨ba,0,none⟩) hbaA).trans v0
     have x1:=(hb1.cell (p:=⟨ba,1,none⟩) hbaA).trans v1
     have hz4:=hb1.size
     (try go_wp2_with fail)
     refine tr hK (fun hHeld=> ?_)
     clear hK K)
    refine tq 2 hHeld ?_
    refine tq 3 hHeld ?_
    refine tq 4 hHeld ?_
    refine tq 5 hHeld ?_
    refine tq 7 hHeld ?_
    refine tq 8 hHeld ?_
    refine tc 6 fun K hK=> ?_
    (go_simp
     obtain⟨G,hu,hG⟩:=hP3.uf
     have hrk:=hG i
     (go_at_call 145;refine(top_q ub g n n i G _ hu hi).mono ?_;rintro e w12 ⟨he,⟨G',hu',hGG⟩,hF⟩;rw[hrk] at he;subst he)
     have hP4:=hP3.top hPb hF hu' (fun j=>(hGG j).trans (hG j))
     have hg1:=hPb.g1
     have hg2:=hPb.g2
     have hk4:Kx B H A2 w12:=hk3.fr hF (fun b e=>by subst e;exact⟨by omega,.inl hg2⟩) (by omega)
     have hf4:KeepsFrom H A2 w12:=hf3.trans (hF.keeps _)
     replace x0:=(hF.cell (p:=⟨ba,0,none⟩) (by show ba<w11.heap.size;omega) (by show ¬ ba=g;omega)).trans x0
     replace x1:=(hF.cell (p:=⟨ba,1,none⟩) (by show ba<w11.heap.size;omega) (by show ¬ ba=g;omega)).trans x1
     clear u0
     have u0:=hP4.cu
     have hz5:=Nat.le_trans hz4 hF.size
     clear hP3 hk3 hf3 hF hu hu' hGG hG hrk G G'
     (try go_wp2_with fail)
     refine tr hK (fun hHeld=> ?_)
     clear hK K)
    refine tq 9 hHeld ?_
    refine tq 10 hHeld ?_
    refine wpAnyH_done (by kernel_rfl) ?_ _
    go_wp2_with fail
    cases be with
    | true=>
      refine wpIn_cond_true rfl ?_
      refine wpIn_exit ?_
      exact stay _ hP4 (hJ _ _ _ _ hJ2 hk4) hf4 hz5 (by have:=bne_iff_ne.1 hbe;unfold fstB;rw[hfe,decide_eq_false (by omega)];rfl)
    | false=>
      have hLi:L i=i:=by have:=bne_eq_false_iff_eq.1 hbe;omega
      have hyes:fstB fx L i=true:=by unfold fstB;rw[hfe,decide_eq_true hLi];rfl
      refine wpIn_cond_false rfl ?_
      refine wpIn_skip ?_
      refine hK1 _ _ ?_
      refine wpIn_seq_k fun K3 hK3=> ?_
      refine wpIn_region_plain (by rintro⟨_,_,h⟩;exact h) (by kernel_rfl) ?_
      go_wp2
      have hba4:ba<w12.heap.size:=by omega
      have hE4:Below w12.heap.size w12 (w12.alloc (Obj.cells #[.slice none 0 0] 175)):=(Below.refl _ _).alloc (Nat.le_refl _) _
      have mb0:(w12.alloc (Obj.cells #[.slice none 0 0] 175)).cell? ⟨w12.heap.size,0,none⟩=some (.slice none 0 0):=by go_simp
      have mf0:(w12.alloc (Obj.cells #[.slice none 0 0] 175)).frozen? ⟨w12.heap.size,0,none⟩=false:=by go_simp
      have hz6:(w12.alloc (Obj.cells #[.slice none 0 0] 175)).heap.size=w12.heap.size+1:=by simp
      generalize (w12.alloc (Obj.cells #[.slice none 0 0] 175))=A4 at hE4 mb0 mf0 hz6 ⊢
      have hQ0:Q2 A2 A4 B H cb l ub g n bu bg ba w12.heap.size i (cntp (fstB fx L) i) L (.slice none 0 0) (memL L i 0):=
       ⟨hP4.bk hPb (Bk.below hE4) hE4.size,⟨mb0,mf0,HL.nil _ _ _⟩,(hE4.cell (p:=⟨ba,0,none⟩) hba4).trans x0,(hE4.cell (p:=⟨ba,1,none⟩) hba4).trans x1,hk4.trans (Kx.of_below hE4 (by omega)),hf4.trans (KeepsFrom.of_below hE4)⟩
      clear hP4 hk4 hf4 hE4 mb0 mf0 x0 x1 u0 v0 v1 hCs hfx hHeld
      generalize w12.heap.size=mb at hQ0 hz6 hz5 hba4 ⊢
      obtain⟨C4,S4,hC4,-⟩:=hJc _ _ _ (hJ _ _ _ _ hJ2 hQ0.kx)
      obtain⟨ad4,cc4,hS4⟩:=(hC4.own 0 (by omega)).is
      have hd4:=hC4.hd 0 (by omega)
      rw[hS4] at hd4
      have hr4:=hQ0.kf.same _ _ hl0 hrr rfl
      have c0:=hQ0.p.c0
      refine wpIn_seq_k fun K4 hK4=> ?_
      refine wpIn_seq_k fun K5 hK5=> ?_
      refine wpIn_region_plain (by rintro⟨_,_,h⟩;exact h) (by kernel_rfl) ?_
      go_wp2
      refine wpIn_block ?_
      refine wpIn_range_in hr4 (gf:=29) (bound:= #[.pointer (some ⟨cb,0,none⟩)]) rfl each_enters (each_it cb n _ _ A4 hC4.lt hd4 (by omega)) (fun _=>rfl)
       (fun k X=>∃ v,Q2 A2 X B H cb l ub g n bu bg ba mb i (cntp (fstB fx L) i) L v (memL L i k)∧A4.heap.size≤X.heap.size) (fun _ _=>False) ?_ (fun _ _ _ h _=>h) ⟨_,hQ0,Nat.le_refl _⟩ ?round2 ?done2 (fun _ _ h=>h.elim)
      · rintro k A Y ⟨v,h1,h2⟩ hs
        exact⟨v,h1.sm hPb hs (by omega) (by omega),Nat.le_trans h2 hs.size⟩
      case round2=>
       rintro l1 k X hl1 ⟨v,hQ,hXz⟩ hk
       clear c0 hd4 hS4 hC4 hQ0
       simp only[List.zip_toArray,List.zip_cons_cons,List.zip_nil_left,List.foldl_toArray,List.foldl_cons,List.foldl_nil,List.setIfInBounds_toArray,List.set_cons_succ,List.set_cons_zero]
       refine wpIn_region_plain (by rintro⟨_,_,h⟩;exact h) (by kernel_rfl) ?_
       go_wp2
       refine⟨(KeepsOthers.alloc _ _).from _,fun X2 hS2 hr2=> ?_⟩
       clear hr2
       have hE5:Below X.heap.size X (X.alloc (Obj.cells #[.int .i64 (k:Int),.pointer (some ⟨cb,0,none⟩)] 59)):=(Below.refl _ _).alloc (Nat.le_refl _) _
       have b0:X2.cell? ⟨X.heap.size,0,none⟩=some (.int .i64 (k:Int)):=hS2.cell (by go_simp)
       have b1:X2.cell? ⟨X.heap.size,1,none⟩=some (.pointer (some ⟨cb,0,none⟩)):=hS2.cell (by go_simp)
       have hbl:X.heap.size<X2.heap.size:=by have:=hS2.size;simp at this;omega
       have hQ2:=(hQ.below hPb hE5 hHA).sm hPb hS2 (by omega) (by omega)
       have hml:mb<X.heap.size:=cell_lt (a:=⟨mb,0,none⟩) hQ.m.box
       clear hS2 hE5 hQ
       generalize X.heap.size=bb at b0 b1 hbl hXz hml ⊢
       have hmb:H≤mb:=by omega
       have hm1:A2.heap.size≤mb:=hz5
       have hbm:ba<mb:=hba4
       have hg2:=hPb.g2
       have u0:=hQ2.p.cu
       have x0:=hQ2.f0
       have y0:=b0
       refine wpIn_block ?_
       refine wpIn_seq_k fun K6 hK6=> ?_
       obtain⟨bk,hbk⟩:∃ b,((L k:Int)==(i:Int))=b:=⟨_,rfl⟩
       refine wpIn_region_held_drew (S:=fun w'=>w'.cell? ⟨bu,0,none⟩=some (.pointer (some ⟨ub,0,none⟩))∧w'.cell? ⟨bb,0,none⟩=some (.int .i64 (k:Int))∧w'.cell? ⟨ba,0,none⟩=some (.int .i64 (i:Int))) (by kernel_rfl) (by rintro⟨_,_,h⟩;exact h) (by kernel_rfl) ?_ (fun hHeld=> ?_)
       · (try dsimp only)
         (first|(go_simp;done)|(go_keep;done))
       refine tq 0 hHeld ?_
       refine tq 1 hHeld ?_
       refine tq 2 hHeld ?_
       refine tq 4 hHeld ?_
       refine tq 5 hHeld ?_
       refine tc 3 fun K hK=> ?_
       (go_simp
        replace hQ2:=hQ2.below hPb (Below.drew (Below.refl _ _)) hHA
        obtain⟨G,hu,hG⟩:=hQ2.p.uf
        have hrk:=hG k
        (go_at_call 145;refine(top_q ub g n n k G _ hu hk).mono ?_;rintro e w31 ⟨he,⟨G',hu',hGG⟩,hF⟩;rw[hrk] at he;subst he)
        have hQ3:=hQ2.top hPb hF hu' (fun j=>(hGG j).trans (hG j)) hHA hba hmb
        clear u0 x0 y0
        have u0:=hQ3.p.cu
        have x0:=hQ3.f0
        have y0:=(hF.cell (p:=⟨bb,0,none⟩) hbl (by show ¬ bb=g;omega)).trans b0
        have y1:=(hF.cell (p:=⟨bb,1,none⟩) hbl (by show ¬ bb=g;omega)).trans b1
        have hbl3:bb<w31.heap.size:=Nat.lt_of_lt_of_le hbl hF.size
        have hKS:KeepsFrom A4.heap.size X2 w31:=(KeepsFrom.of_below (Below.drew (Below.refl _ _))).trans (hF.keeps _)
        have hz31:X2.heap.size≤w31.heap.size:=hF.size
        clear hQ2 hF hu hu' hGG hG hrk G G' b0 b1 hbl
        (try go_wp2_with fail)
        refine tr hK (fun hHeld=> ?_)
        clear hK K)
       refine tq 6 hHeld ?_
       refine wpAnyH_done (by kernel_rfl) ?_ _
       go_wp2_with fail
       cases bk with
       | false=>
         have hne:¬ L k=i:=by have:=beq_eq_false_iff_ne.1 hbk;omega
         refine wpIn_cond_false rfl ?_
         refine wpIn_skip ?_
         exact⟨hKS,v,by rw[memL,if_neg hne,List.append_nil];exact hQ3,by omega⟩
       | true=>
         have hne:L k=i:=by have:=beq_iff_eq.1 hbk;omega
         have m0:=hQ3.m.box
         have hle:=memL_le L i k
         refine wpIn_cond_true rfl ?_
         refine wpIn_region_plain (by rintro⟨_,_,h⟩;exact h) (by kernel_rfl) ?_
         have hE7:Below w31.heap.size w31 (w31.alloc (Obj.cells #[.int .i64 (k:Int),.pointer (some ⟨cb,0,none⟩)] 59)):=(Below.refl _ _).alloc (Nat.le_refl _) _
         have hL7:=hQ3.m.own.below hE7
         have q0:(w31.alloc (Obj.cells #[.int .i64 (k:Int),.pointer (some ⟨cb,0,none⟩)] 59)).cell? ⟨w31.heap.size,0,none⟩=some (.int .i64 (k:Int)):=by go_simp
         have q1:(w31.alloc (Obj.cells #[.int .i64 (k:Int),.pointer (some ⟨cb,0,none⟩)] 59)).cell? ⟨w31.heap.size,1,none⟩=some (.pointer (some ⟨cb,0,none⟩)):=by go_simp
         have hml3:mb<w31.heap.size:=cell_lt (a:=⟨mb,0,none⟩) hQ3.m.box
         go_wp2_with (refine wpList_happ rfl _ _ _ rfl zcHan Tryz.underlying175 infoHan rfl (mb+1) cb v (memL L i k) rfl hL7 w31.heap.size rfl k q0 q1 (by omega) (by simp only[World.size_alloc];omega) ?_;intro g7 c7 w7 ho7 hg7;rw[show (memL L i k++[k]).length=(memL L i k).length+1 by simp] at ho7;obtain⟨⟨n0,nf⟩,hQ4,hF4⟩:=hQ3.push hPb hHA hba hm1 hbm hE7 hg7 ho7)
         exact⟨hKS.trans (hF4.keeps _),_,by rw[memL,if_pos hne];exact hQ4,by have:=hF4.size;omega⟩
      case done2=>
       rintro X ⟨v,hQ,hz⟩
       refine hK4 _ _ ?_
       clear c0 hd4 hS4 hC4 hQ0
       have hJX:=hJ _ _ _ _ hJ2 hQ.kx
       have hle:=cntp_le (fstB fx L) i
       have hlt:=cntp_in (fstB fx L) hi hyes
       have hEE:GrE cb n fx L H (cntp (fstB fx L) i) #[.int .i64 ((cntp (fstB fx L) i:Nat):Int),v] X:=⟨i,v,hi,hyes,rfl,rfl,hQ.m.own.base (by omega)⟩
       have hyy:=hY H _ X _ hJX hlt hEE
       have c1:=hQ.p.c1
       have cg:=hQ.p.cg
       have m0:=hQ.m.box
       refine wpIn_seq_k fun K7 hK7=> ?_
       refine wpIn_seq_k fun K8 hK8=> ?_
       refine wpIn_region_list ?_
       refine opIn_plain rfl (fun c e=>by cases e) fun K hK=> ?_
       go_simp
       refine hK _ _ ?_
       clear hK K
       refine opIn_plain rfl (fun c e=>by cases e) fun K hK=> ?_
       go_simp
       refine hK _ _ ?_
       clear hK K
       refine opIn_plain rfl (fun c e=>by cases e) fun K hK=> ?_
       go_simp
       refine hK _ _ ?_
       clear hK K
       refine opIn_yield rfl rfl rfl rfl rfl hyy ?_
       rintro e X3 ⟨rfl,hJ3,hKc⟩
       refine⟨_,rfl,?_⟩
       refine opIn_plain rfl (fun c e=>by cases e) fun K hK=> ?_
       go_simp
       refine hK _ _ ?_
       clear hK K
       refine wpListIn_nil ?_
       refine hK8 _ _ ?_
       refine wpIn_cond_false rfl ?_
       refine wpIn_skip ?_
       refine hK7 _ _ ?_
       have hP3:=hQ.p.bk hPb hKc.band hKc.others.size
       have hkf3:KeepsFrom H A2 X3:=hQ.kf.trans ⟨hKc.others.size,fun k o hk h1 h2=>hKc.others.same k o (by omega) h1 h2⟩
       have hz8:=hkf3.size
       clear c1 cg m0 hyy hJX hEE hKc hQ
       have cg:=hP3.cg
       have fg:=hP3.fg
       have hg8:=hPb.bg1
       have hg9:=hPb.bg2
       have hz9:bg<X3.heap.size:=cell_lt (a:=⟨bg,0,none⟩) cg
       have hstp:cntp (fstB fx L) (i+1)=cntp (fstB fx L) i+1:=by rw[cntp,hyes];rfl
       have hP5:=hP3.next hPb (cntp (fstB fx L) i+1)
       have hF5:Fr (fun b=>b=bg) X3 (X3.setCell ⟨bg,0,none⟩ (.int .i64 ((cntp (fstB fx L) i+1:Nat):Int))):=Fr.setCell (X:=fun b=>b=bg) (p:=⟨bg,0,none⟩) rfl _
       have hJ5:=hJ _ _ _ _ hJ3 ((Kx.refl B H X3).fr hF5 (fun b e=>by subst e;exact⟨by omega,.inl hg9⟩) (by omega))
       have hi5:((cntp (fstB fx L) i+1:Nat):Int)=((cntp (fstB fx L) i:Nat):Int)+1:=by omega
       rw[hi5] at hP5 hF5 hJ5
       refine wpIn_region_plain (by rintro⟨_,_,h⟩;exact h) (by kernel_rfl) ?_
       go_wp2
       rw[hstp]
       exact⟨hkf3.trans (hF5.keeps _),hP5,hJ5,by have:=hF5.size;omega⟩
theorem groups_any (cb n:Nat) (U:Nat→Int) (S:Nat→Value) (M:Nat) (w:World) (hC:Cs w cb n (colOf U) S) (hn:n≤12) (hM:(conL (colOf U) n).length=M*5) (hMk:M≤1000)
 (L:Nat→Nat) (hL:∀ j,L j=lab (edg U (ofL (conL (colOf U) n))) M j) (fx:Nat→Bool):
 ItG Tryz.prog 116 #[.pointer (some ⟨cb,0,none⟩)] (ColF cb n fx) (GrE cb n fx L) (cntp (fstB fx L) n) w:=by
 exact groups_it cb n U S M w hC hn hM hMk L hL fx
theorem groups_enters:∀ args w,(callFunc 116 args).run Tryz.prog w= .ok (.enter 116 args) w:=enters_of Tryz.func116 (by kernel_rfl) rfl
end Go.Proofs.YthajilkjfkppoaaGreatDoor
namespace Go.Proofs.YthajilkjfkppoaaGreatDoor
open Go.RowKit
set_option linter.unusedVariables false
set_option linter.unusedSimpArgs false
def gnum (fx:Nat→Bool) (L:Nat→Nat) (j:Nat):Int:=if fx j=true then-1 else (cntp (fstB fx L) (L j):Int)
def fxU (U:Nat→Int) (j:Nat):Bool:=decide (U (j*12+8)=0)
theorem ofL_set (l:List Int) (A:Nat) (v:Int) (j:Nat) (hA:A<l.length):ofL (l.set A v) j=if j=A then v else ofL l j:=by
 unfold ofL
 rw[List.getD_eq_getElem?_getD,List.getD_eq_getElem?_getD,List.getElem?_set]
 by_cases e:A=j
 · subst e;simp[hA]
 · rw[if_neg e,if_neg (fun q=>e q.symm)]
theorem join_eq {U C:Nat→Int} {n m k:Nat} (hC:CtOk n m C) (hk:k<m) {l:List Int} (hl:l.length=n) {G:Nat→Nat} (h:∀ j,j<n→ofL l j=(G j:Int)):∀ j,j<n→ofL (joinL U C l k) j=(stp G (edg U C k) j:Int):=by
 intro j hj
 have ha:=hC.a k hk
 have hb:=hC.b k hk
 have hA:(C (k*5)).toNat<n:=by omega
 have hB:(C (k*5+1)).toNat<n:=by omega
 unfold joinL edg
 generalize (C (k*5)).toNat=A at hA ⊢
 generalize (C (k*5+1)).toNat=B at hB ⊢
 by_cases hu:U (A*12+8)=0
 · rw[decide_eq_true hu,if_neg (fun q=>q.1 hu)]
   exact h j hj
 · by_cases hv:U (B*12+8)=0
   · rw[decide_eq_false hu,decide_eq_true hv,if_neg (fun q=>q.2 hv)]
     exact h j hj
   · rw[decide_eq_false hu,decide_eq_false hv,if_pos ⟨hu,hv⟩]
     show ofL (joinG l A B) j=((if j=A∨j=B then min (G A) (G B) else G j:Nat):Int)
     unfold joinG
     rw[ofL_set _ B _ j (by rw[List.length_set];omega),ofL_set _ A _ j (by omega),h A hA,h B hB,h j hj]
     have hm:(if (G B:Int)<(G A:Int) then (G B:Int) else (G A:Int))=((min (G A) (G B):Nat):Int):=by split<;>omega
     rw[hm]
     by_cases e1:j=B
     · rw[if_pos e1,if_pos (Or.inr e1)]
     · rw[if_neg e1]
       by_cases e2:j=A
       · rw[if_pos e2,if_pos (Or.inl e2)]
       · rw[if_neg e2,if_neg (fun q=>q.elim e2 e1)]
theorem grpI_eq {U C:Nat→Int} {n m:Nat} (hC:CtOk n m C) {l:List Int} (hl:l.length=n) {G:Nat→Nat} (h:∀ j,j<n→ofL l j=(G j:Int)):∀ k,k≤m→∀ j,j<n→ofL (grpI U C l k) j=(rnd (edg U C) G k j:Int)
 |0,_=>h
 | k+1,hk=>by
   rw[grpI,rnd]
   exact join_eq hC hk (by rw[grpI_len];exact hl) (grpI_eq hC hl h k (by omega))
theorem rng_at:∀ n j,j<n→ofL (rng n) j=(j:Int)
 |0,j,h=>absurd h (Nat.not_lt_zero _)
 | n+1,j,h=>by
   rw[rng]
   by_cases e:j<n
   · rw[ofL_app _ _ _ (by rw[rng_len];exact e)];exact rng_at n j e
   · obtain rfl:j=n:=by omega
     rw[ofL_app' _ _ _ (by rw[rng_len];exact Nat.le_refl _),rng_len,Nat.sub_self];rfl
theorem grpR_eq {U C:Nat→Int} {n m:Nat} (hC:CtOk n m C):∀ r j,j<n→ofL (grpR U C m (rng n) r) j=(rnds (edg U C) m r j:Int)
 |0=>fun j hj=>rng_at n j hj
 | r+1=>by
   rw[grpR,rnds]
   exact grpI_eq hC (by rw[grpR_len,rng_len]) (grpR_eq hC r) m (Nat.le_refl _)
def fl (p:Nat→Bool):Nat→List Int
 |0=>[]
 |i+1=>fl p i++(if p i=true then [(i:Int)] else [])
theorem fl_len (p:Nat→Bool):∀ i,(fl p i).length=cntp p i
 |0=>rfl
 | i+1=>by
   rw[fl,cntp,List.length_append,fl_len p i]
   split<;>rfl
theorem atOf_app (l x:List Int) (v:Int):∀ k,k≤l.length→atOf (l++x) v k=atOf l v k
 |0,_=>rfl
 |k+1,h=>by rw[atOf,atOf,ofL_app _ _ _ h,atOf_app l x v k (by omega)]
theorem atOf_fl (p:Nat→Bool) (x:Nat):∀ i,atOf (fl p i) (x:Int) (cntp p i)=if x<i∧p x=true then (cntp p x:Int) else-1
 |0=>by rw[if_neg (fun q=>absurd q.1 (Nat.not_lt_zero _))];rfl
 | i+1=>by
   have ih:=atOf_fl p x i
   cases hp:p i with
   | false=>
     have e1:fl p (i+1)=fl p i:=by rw[fl,hp];simp
     have e2:cntp p (i+1)=cntp p i:=by rw[cntp,hp];rfl
     rw[e1,e2,ih]
     by_cases q:x<i∧p x=true
     · rw[if_pos q,if_pos ⟨by omega,q.2⟩]
     · rw[if_neg q,if_neg]
       rintro⟨a,b⟩
       by_cases e:x=i
       · subst e;rw[hp] at b;cases b
       · exact q ⟨by omega,b⟩
   | true=>
     have e1:fl p (i+1)=fl p i++[(i:Int)]:=by rw[fl,hp];rfl
     have e2:cntp p (i+1)=cntp p i+1:=by rw[cntp,hp];rfl
     have e3:ofL (fl p i++[(i:Int)]) (cntp p i)=(i:Int):=by
      rw[ofL_app' _ _ _ (by rw[fl_len];exact Nat.le_refl _),fl_len,Nat.sub_self];rfl
     rw[e1,e2,atOf,e3,atOf_app _ _ _ _ (by rw[fl_len];exact Nat.le_refl _),ih]
     by_cases e:i=x
     · subst e
       rw[if_pos rfl,if_pos ⟨by omega,hp⟩]
     · rw[if_neg (by omega)]
       by_cases q:x<i∧p x=true
       · rw[if_pos q,if_pos ⟨by omega,q.2⟩]
       · rw[if_neg q,if_neg (fun r=>q ⟨by omega,r.2⟩)]
structure Tops (fx:Nat→Bool) (L:Nat→Nat):Prop where
 le:∀ j,L j≤j
 idem:∀ j,L (L j)=L j
 fx:∀ j,fx (L j)=fx j
theorem Tops.fst {fx:Nat→Bool} {L:Nat→Nat} (h:Tops fx L) {j:Nat} (hj:fx j=false):fstB fx L (L j)=true:=by
 unfold fstB;rw[h.fx,hj,decide_eq_true (h.idem j)];rfl
theorem numS_eq {U G:Nat→Int} {L:Nat→Nat} {n:Nat} (hT:Tops (fxU U) L) (hG:∀ j,j<n→G j=(L j:Int)):∀ i,i≤n→(numS U G i).2=fl (fstB (fxU U) L) i∧∀ j,j<i→ofL (numS U G i).1 j=gnum (fxU U) L j
 |0,_=>⟨rfl,fun j h=>absurd h (Nat.not_lt_zero _)⟩
 | i+1,hi=>by
   obtain⟨ih1,ih2⟩:=numS_eq hT hG i (by omega)
   obtain⟨hl,-⟩:=numS_len U G i
   have fin:∀ (v:Int) (j:Nat),v=gnum (fxU U) L i→j<i+1→ofL ((numS U G i).1++[v]) j=gnum (fxU U) L j:=fun v j hv hj=>by
    by_cases e:j<i
    · rw[ofL_app _ _ _ (by omega)];exact ih2 j e
    · obtain rfl:j=i:=by omega
      rw[ofL_app' _ _ _ (by omega),hl,Nat.sub_self]
      exact hv
   by_cases hu:U (i*12+8)=0
   · have hf:fxU U i=true:=decide_eq_true hu
     have hb:fstB (fxU U) L i=false:=by unfold fstB;rw[hf];rfl
     rw[numS_z hu,fl,hb]
     exact⟨by rw[ih1];simp,fun j hj=>fin _ j (by unfold gnum;rw[if_pos hf]) hj⟩
   · have hf:fxU U i=false:=decide_eq_false hu
     have ha:atOf (numS U G i).2 (G i) (numS U G i).2.length=if L i<i∧fstB (fxU U) L (L i)=true then (cntp (fstB (fxU U) L) (L i):Int) else-1:=by
      rw[ih1,fl_len,hG i (by omega),atOf_fl]
     have hle:=hT.le i
     by_cases e:L i=i
     · rw[if_neg (by omega)] at ha
       have hb:fstB (fxU U) L i=true:=by unfold fstB;rw[hf,decide_eq_true e];rfl
       rw[numS_n hu (by rw[ha];decide),fl,hb]
       refine⟨by rw[ih1,hG i (by omega),e];rfl,fun j hj=>fin _ j ?_ hj⟩
       unfold gnum
       rw[if_neg (by rw[hf];simp),e,ih1,fl_len]
     · rw[if_pos ⟨by omega,hT.fst hf⟩] at ha
       have hb:fstB (fxU U) L i=false:=by unfold fstB;rw[decide_eq_false e];simp
       rw[numS_o hu (by rw[ha];omega),fl,hb]
       refine⟨by rw[ih1];simp,fun j hj=>fin _ j ?_ hj⟩
       unfold gnum
       rw[if_neg (by rw[hf];simp),ha]
theorem lab_tops (U C:Nat→Int) (m:Nat):Tops (fxU U) (lab (edg U C) m):=by
 refine⟨lab_le _ m,lab_idem _ m,fun j=> ?_⟩
 have h:=lab_set (edg U C) (fun j=>U (j*12+8)=0) m (fun i A B _ e=>by
  unfold edg at e
  split at e
  · rename_i q
    simp only[Option.some.injEq,Prod.mk.injEq] at e
    obtain⟨rfl,rfl⟩:=e
    exact⟨fun x=>absurd x q.1,fun x=>absurd x q.2⟩
  · cases e) j
 unfold fxU
 exact decide_eq_decide.2 h
theorem grpL_eq {U C:Nat→Int} {n m:Nat} (hC:CtOk n m C):∀ j,j<n→ofL (grpL U C m n) j=gnum (fxU U) (lab (edg U C) m) j:=by
 have hE:∀ i A B,i<m→edg U C i=some (A,B)→A<n∧B<n:=fun i A B hi e=>by
  have ha:=hC.a i hi
  have hb:=hC.b i hi
  unfold edg at e
  split at e
  · simp only[Option.some.injEq,Prod.mk.injEq] at e
    obtain⟨rfl,rfl⟩:=e
    omega
  · cases e
 exact(numS_eq (lab_tops U C m) (fun j hj=>by rw[grpR_eq hC n j hj,rnds_lab _ m n hE j hj]) n (Nat.le_refl _)).2
def vnum (fx:Nat→Bool) (L:Nat→Nat) (k j:Nat):Int:=if fx j=false∧cntp (fstB fx L) (L j)<k then (cntp (fstB fx L) (L j):Int) else-1
theorem cntp_inj (p:Nat→Bool) {i j:Nat} (hi:p i=true) (hj:p j=true) (h:cntp p i=cntp p j):i=j:=by
 rcases Nat.lt_trichotomy i j with q|q|q
 · have:=cntp_in p q hi;omega
 · exact q
 · have:=cntp_in p q hj;omega
theorem memL_mem (L:Nat→Nat) (i:Nat):∀ n j,j∈memL L i n↔j<n∧L j=i
 |0,j=>by simp[memL]
 | n+1,j=>by
   rw[memL,List.mem_append,memL_mem L i n j]
   by_cases h:L n=i
   · rw[if_pos h,List.mem_singleton]
     constructor
     · rintro(⟨a,b⟩|rfl)
       · exact⟨by omega,b⟩
       · exact⟨by omega,h⟩
     · rintro⟨a,b⟩
       by_cases e:j=n
       · exact .inr e
       · exact .inl ⟨by omega,b⟩
   · rw[if_neg h]
     constructor
     · rintro(⟨a,b⟩|h)
       · exact⟨by omega,b⟩
       · cases h
     · rintro⟨a,b⟩
       by_cases e:j=n
       · subst e;exact absurd b h
       · exact .inl ⟨by omega,b⟩
end Go.Proofs.YthajilkjfkppoaaGreatDoor
