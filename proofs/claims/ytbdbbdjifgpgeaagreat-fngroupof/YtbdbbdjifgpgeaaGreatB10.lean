/- Texts of a proof. -/
import Derived.Test.YtbdbbdjifgpgeaaGreatB5
import Derived.Test.YtbdbbdjifgpgeaaGreatB6
set_option maxHeartbeats 16000000
set_option maxRecDepth 20000
namespace Go.Proofs.YtbdbbdjifgpgeaaGreat
open Go.RowKit
set_option linter.unusedVariables false
set_option linter.unusedSimpArgs false
theorem OwnL.setq {w:World} {base t k n g c:Nat} {U:Nat→Int} (h:OwnL w base t k (.slice (Option.some ⟨g,0,none⟩) n c) n U) (q:Nat) (hq:q<n*k) (x:Int):OwnL (w.setCell ⟨g,q,none⟩ (.int .i64 x)) base t k (.slice (Option.some ⟨g,0,none⟩) n c) n (fun r=>if r=q then x else U r):=by
 have h1:=(World.ownsRow.stored h q (.int .i64 x)).1
 unfold OwnL
 rw[show numL (n*k) (fun r=>if r=q then x else U r)=(numL (n*k) U).set q (.int .i64 x) from ?_]
 · exact h1
 · apply List.ext_getElem?
   intro r
   rw[List.getElem?_set,numL_len]
   by_cases hr:r<n*k
   · rw[numL_get hr]
     by_cases e:q=r
     · subst e;simp;omega
     · rw[if_neg e,numL_get hr];simp[Ne.symm e]
   · rw[List.getElem?_eq_none (by rw[numL_len];omega)]
     by_cases e:q=r
     · omega
     · rw[if_neg e,List.getElem?_eq_none (by rw[numL_len];omega)]
theorem OwnL.loc {w:World} {base t k n c:Nat} {a:Option Addr} {U:Nat→Int} (h:OwnL w base t k (.slice a n c) n U) (h0:0<n):∃ g,a=Option.some ⟨g,0,none⟩∧base≤g∧g<w.heap.size:=by
 rcases h.2 with⟨hv,hn⟩|⟨g,cap,cur,hv,hb,hg,_⟩
 · omega
 · simp only[Value.slice.injEq,true_and] at hv
   exact⟨g,hv.1,hb,(Array.getElem?_eq_some_iff.1 hg).1⟩
theorem OwnL.cellq {w:World} {base t k n g c:Nat} {U:Nat→Int} (h:OwnL w base t k (.slice (Option.some ⟨g,0,none⟩) n c) n U) {q:Nat} (hq:q<n*k):w.cell? ⟨g,q,none⟩=Option.some (.int .i64 (U q)):=by
 rw[World.ownsRow.cellAt h q hq,numL_get hq]
abbrev mixU (p:Nat) (U:Nat→Int):Nat→Int:=fun q=>if q<p then 1+(q:Int) else U q
structure Lv (w:World) (lo hi t k:Nat) (a:Option Addr) (n c:Nat) (U:Nat→Int):Prop where
 own:OwnL w lo t k (.slice a n c) n U
 top:∀ b,(Value.slice a n c).ownBlock=some b→b<hi
 le:hi≤w.heap.size
theorem Lv.on {w w':World} {lo hi t k:Nat} {a:Option Addr} {n c:Nat} {U:Nat→Int} (h:Lv w lo hi t k a n c U) (hb:Below w.heap.size w w'):Lv w' lo hi t k a n c U:=⟨h.own.below hb,h.top,Nat.le_trans h.le hb.size⟩
theorem Lv.flat {w:World} {lo hi t k:Nat} {a:Option Addr} {n c:Nat} {U:Nat→Int} (h:Lv w lo hi t k a n c U):Flat w a (n*k) U:=h.own.flat
theorem Lv.below {w0 w w':World} {lo hi t k B:Nat} {a:Option Addr} {n c:Nat} {U:Nat→Int} (h:Lv w lo hi t k a n c U) (hB:Below B w0 w) (hBw:B≤w.heap.size) (hg:w.grownBy w' (Value.slice a n c).ownBlock) (hl:B≤lo):Below B w0 w':=
 hB.grown hg hBw (fun b e=>by have:=(h.own.lt b e).1;omega)
theorem Lv.row {w w':World} {b n t k:Nat} {U:Nat→Int} (h:Row w' b t (n*k) U) (hb:w.heap.size≤b) (hn:n≤1048576):Lv w' w.heap.size w'.heap.size t k (some ⟨b,0,none⟩) n n U:=
 ⟨h.own hb (by unfold maxLen;omega),fun x e=>by simp[Value.ownBlock] at e;subst e;exact h.lt,Nat.le_refl _⟩
structure OutL (w w':World) (t k:Nat) (a:Option Addr) (n c:Nat) (R:Nat→Int):Prop where
 bel:Below w.heap.size w w'
 own:OwnL w' w.heap.size t k (.slice a n c) n R
theorem OutL.lv {w w':World} {t k:Nat} {a:Option Addr} {n c:Nat} {R:Nat→Int} (h:OutL w w' t k a n c R):Lv w' w.heap.size w'.heap.size t k a n c R:=⟨h.own,fun b e=>(h.own.lt b e).2,Nat.le_refl _⟩
def ofL (l:List Int):Nat→Int:=fun q=>l.getD q 0
theorem ofL_app (l x:List Int) (q:Nat) (h:q<l.length):ofL (l++x) q=ofL l q:=by
 unfold ofL
 rw[List.getD_eq_getElem?_getD,List.getD_eq_getElem?_getD,List.getElem?_append_left h]
theorem ofL_app' (l x:List Int) (q:Nat) (h:l.length≤q):ofL (l++x) q=ofL x (q-l.length):=by
 unfold ofL
 rw[List.getD_eq_getElem?_getD,List.getD_eq_getElem?_getD,List.getElem?_append_right h]
theorem cat_ofL (l x:List Int):cat l.length (ofL l) (ofL x)=ofL (l++x):=by
 funext q
 unfold cat
 by_cases h:q<l.length
 · rw[if_pos h,ofL_app l x q h]
 · rw[if_neg h,ofL_app' l x q (by omega)]
theorem step_appk {P:Program} {w:World} {ops:Array Oper} {o:Oper} {a:Act} {K:Act→World→Prop} {Q:Exit→Act→World→Prop} {E:Prop} (hgd:o.guard=none) (s x:Operand) (t:TypeId)
 (ho:o.op= .call {callee:= .builtin .append,args:= #[s,x],argTypes:= #[t,t]})
 (base e k bytes:Nat) (z:Value) (ht:P.underlying t=some (.slice e)) (hinfo:(P.info? e).map (fun i=>(i.zero,i.size,i.bytes))=some (some z,k,bytes)) (hzs:z.cells.size=k) (hk:0<k)
 (v:Value) (n:Nat) (U:Nat→Int) (hs:a.eval s=v) (h:OwnL w base e k v n U) (B c:Nat) (X:Nat→Int) (hx:a.eval x= .slice (some ⟨B,0,none⟩) 1 c) (hv:∀ q,q<k→w.cell? ⟨B,q,none⟩=some (.int .i64 (X q)))
 (h63:n+1≤maxLen) (hbytes:(n+1)*bytes≤140737488355328) (hbase:base≤w.heap.size) (H:Nat) (hH:w.heap.size=H)
 (hK:∀ g cap w',OwnL w' base e k (.slice (some ⟨g,0,none⟩) (n+1) cap) (n+1) (cat (n*k) U X)→w.grownBy w' v.ownBlock→(v.ownBlock=some g∨g=H)→g<w'.heap.size→K (a.put o.dst (.slice (some ⟨g,0,none⟩) (n+1) cap)) w'):
 if Region.wanted o (yielded ops a.tmps)=true then Oper.wp P o a w K Q else E:=by
 obtain⟨i,hi,hzz⟩:=Option.map_eq_some_iff.1 hinfo
 simp only[Prod.mk.injEq] at hzz
 obtain⟨hz,hsz,hby⟩:=hzz
 refine step_append_lies w hgd s x t ho base e i z k bytes ht hi hz hsz hby hzs hk v n (numL (n*k) U) hs h ⟨B,0,none⟩ 1 c (numL (1*k) X) hx (numL_len _ _) ?_ (fun u hu=>by obtain⟨q,_,rfl⟩:=List.mem_map.1 hu;rfl) (by omega) h63 hbytes hbase H hH ?_
 · intro j u hu
   have hj:j<1*k:=by have:=(List.getElem?_eq_some_iff.1 hu).1;rwa [numL_len] at this
   rw[numL_get hj] at hu
   rw[Addr.add_lit,Nat.zero_add,hv j (by omega)]
   exact hu
 · intro g cap w' h2 h3 h4 h5
   refine hK g cap w' ?_ h3 h4 h5
   unfold OwnL
   rw[Nat.add_mul,←numL_cat]
   exact h2
theorem l11AnyPlace_s (rb p:Nat) (w:World) (hs0:RS w rb p) (hp:p≤997000):
 Calls Tryz.prog 47 #[.pointer (some ⟨rb,0,none⟩)] w fun e w'=>∃ x y:Int,e= .returned (vv x y)∧(Bn x∧Bn y)∧RB w w' rb (p+600):=by
 have hlt:=hs0.lt
 have hne:(w.heap.size=rb)=False:=eq_false (by omega)
 have hset:=cset_map
 go_enter Tryz.func47,Tryz.ntmps47
 go_wp2_with (first
  |(have _:=hr1;go_at_call 13;refine(pick_s rb (p+200) _ _ (by repeat(first|(with_reducible apply RS.setNew;rotate_left;(first|omega|(simp only[zz];omega)))|with_reducible apply RS.alloc|(with_reducible apply RS.up hr1;omega)|(with_reducible apply RS.mono hs0;omega)|with_reducible apply RS.drew|with_reducible apply RS.drewN)) (by omega) (by omega) (by omega)).mono ?_;rintro e w2 ⟨v2,rfl,va2,vb2,hr2⟩;obtain⟨hc2,hf2⟩:=RB.cells hr2;have hz2:=RB.size hr2;(try simp only[zz] at hc2 hf2 hz2);have hq2x0:w.heap.size<w2.heap.size:=(by omega);have ha2x0:(w2.heap.size=w.heap.size)=False:=eq_false (by omega);have hb2x0:(w.heap.size=w2.heap.size)=False:=eq_false (by omega);have he2x0:(w.heap.size=rb)=False:=eq_false (by omega);have hk2x0:=fun o=>hc2 (w.heap.size) o (by omega) (by omega);have hj2x0:=fun o=>hf2 (w.heap.size) o (by omega) (by omega);have hq2x1:w1.heap.size<w2.heap.size:=(by omega);have ha2x1:(w2.heap.size=w1.heap.size)=False:=eq_false (by omega);have hb2x1:(w1.heap.size=w2.heap.size)=False:=eq_false (by omega);have he2x1:(w1.heap.size=rb)=False:=eq_false (by omega);have hk2x1:=fun o=>hc2 (w1.heap.size) o (by omega) (by omega);have hj2x1:=fun o=>hf2 (w1.heap.size) o (by omega) (by omega))
  |(have _:=hr2;go_at_call 45;refine(one_s (-2560001) 2560001 rb (p+300) _ _ _ _ _ (by repeat(first|(with_reducible apply RS.setNew;rotate_left;(first|omega|(simp only[zz];omega)))|with_reducible apply RS.alloc|(with_reducible apply RS.up hr2;omega)|(with_reducible apply RS.mono hs0;omega)|with_reducible apply RS.drew|with_reducible apply RS.drewN)) (by omega) (by repeat(first|exact AllBd.nil|refine AllBd.cons (by omega) (by omega) ?_)) (by rfl) (by omega) (by omega)).mono ?_;rintro e w3 ⟨v3,rfl,va3,vb3,hr3⟩;obtain⟨hc3,hf3⟩:=RB.cells hr3;have hz3:=RB.size hr3;(try simp only[zz] at hc3 hf3 hz3);have hq3x0:w.heap.size<w3.heap.size:=(by omega);have ha3x0:(w3.heap.size=w.heap.size)=False:=eq_false (by omega);have hb3x0:(w.heap.size=w3.heap.size)=False:=eq_false (by omega);have he3x0:(w.heap.size=rb)=False:=eq_false (by omega);have hk3x0:=fun o=>hc3 (w.heap.size) o (by omega) (by omega);have hj3x0:=fun o=>hf3 (w.heap.size) o (by omega) (by omega);have hq3x1:w1.heap.size<w3.heap.size:=(by omega);have ha3x1:(w3.heap.size=w1.heap.size)=False:=eq_false (by omega);have hb3x1:(w1.heap.size=w3.heap.size)=False:=eq_false (by omega);have he3x1:(w1.heap.size=rb)=False:=eq_false (by omega);have hk3x1:=fun o=>hc3 (w1.heap.size) o (by omega) (by omega);have hj3x1:=fun o=>hf3 (w1.heap.size) o (by omega) (by omega))
  |(go_at_call 71;refine(l11Place_s rb (p+100) _ (by repeat(first|(with_reducible apply RS.setNew;rotate_left;(first|omega|(simp only[zz];omega)))|with_reducible apply RS.alloc|(with_reducible apply RS.mono hs0;omega)|with_reducible apply RS.drew|with_reducible apply RS.drewN)) (by omega)).mono ?_;rintro e w1 ⟨x1,y1,rfl,hd1,hr1⟩;obtain⟨hc1,hf1⟩:=RB.cells hr1;have hz1:=RB.size hr1;(try simp only[zz] at hc1 hf1 hz1);have hq1x0:w.heap.size<w1.heap.size:=(by omega);have ha1x0:(w1.heap.size=w.heap.size)=False:=eq_false (by omega);have hb1x0:(w.heap.size=w1.heap.size)=False:=eq_false (by omega);have he1x0:(w.heap.size=rb)=False:=eq_false (by omega);have hk1x0:=fun o=>hc1 (w.heap.size) o (by omega) (by omega);have hj1x0:=fun o=>hf1 (w.heap.size) o (by omega) (by omega);obtain⟨⟨x1a,x1b⟩,⟨y1a,y1b⟩⟩:=hd1))
 · exact bodyPost_ret (v:=vv v3 y1) (by simp[results,Tryz.results47,go_sem, *]) rfl ⟨_,_,rfl,⟨Bn.mk ⟨by omega,by omega⟩,Bn.mk ⟨by omega,by omega⟩⟩,RB.mk (by repeat(first|(with_reducible apply But.setNew;rotate_left;(first|omega|(simp only[zz];omega)))|with_reducible apply But.alloc|with_reducible apply But.trans (k:=RB.but hr3)|with_reducible apply But.trans (k:=RB.but hr2)|with_reducible apply But.trans (k:=RB.but hr1)|with_reducible apply But.refl|with_reducible apply But.drewN|with_reducible apply But.drew)) (by repeat(first|(with_reducible apply RS.setNew;rotate_left;(first|omega|(simp only[zz];omega)))|with_reducible apply RS.alloc|(with_reducible apply RS.up hr3;omega)|(with_reducible apply RS.up hr2;omega)|(with_reducible apply RS.up hr1;omega)|(with_reducible apply RS.mono hs0;omega)|with_reducible apply RS.drew|with_reducible apply RS.drewN))⟩
 · exact bodyPost_ret (v:=vv x1 v3) (by simp[results,Tryz.results47,go_sem, *]) rfl ⟨_,_,rfl,⟨Bn.mk ⟨by omega,by omega⟩,Bn.mk ⟨by omega,by omega⟩⟩,RB.mk (by repeat(first|(with_reducible apply But.setNew;rotate_left;(first|omega|(simp only[zz];omega)))|with_reducible apply But.alloc|with_reducible apply But.trans (k:=RB.but hr3)|with_reducible apply But.trans (k:=RB.but hr2)|with_reducible apply But.trans (k:=RB.but hr1)|with_reducible apply But.refl|with_reducible apply But.drewN|with_reducible apply But.drew)) (by repeat(first|(with_reducible apply RS.setNew;rotate_left;(first|omega|(simp only[zz];omega)))|with_reducible apply RS.alloc|(with_reducible apply RS.up hr3;omega)|(with_reducible apply RS.up hr2;omega)|(with_reducible apply RS.up hr1;omega)|(with_reducible apply RS.mono hs0;omega)|with_reducible apply RS.drew|with_reducible apply RS.drewN))⟩
 · exact bodyPost_ret (v:=vv x1 y1) (by simp[results,Tryz.results47,go_sem, *]) rfl ⟨_,_,rfl,⟨Bn.mk ⟨by omega,by omega⟩,Bn.mk ⟨by omega,by omega⟩⟩,RB.mk (by repeat(first|(with_reducible apply But.setNew;rotate_left;(first|omega|(simp only[zz];omega)))|with_reducible apply But.alloc|with_reducible apply But.trans (k:=RB.but hr2)|with_reducible apply But.trans (k:=RB.but hr1)|with_reducible apply But.refl|with_reducible apply But.drewN|with_reducible apply But.drew)) (by repeat(first|(with_reducible apply RS.setNew;rotate_left;(first|omega|(simp only[zz];omega)))|with_reducible apply RS.alloc|(with_reducible apply RS.up hr2;omega)|(with_reducible apply RS.up hr1;omega)|(with_reducible apply RS.mono hs0;omega)|with_reducible apply RS.drew|with_reducible apply RS.drewN))⟩
end Go.Proofs.YtbdbbdjifgpgeaaGreat
