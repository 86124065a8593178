/- Texts of a proof. -/
import Derived.Test.YtpmjnpmnocjjgaaGreatDoorB41
import Derived.Test.YtpmjnpmnocjjgaaGreatDoorB9
import Derived.Test.YtpmjnpmnocjjgaaGreatDoorB13
import Derived.Deep.RegionHeld3
import Derived.Deep.DeepCutAuto
import Derived.LoopNIn
import Derived.LoopIn
import Derived.OwnWalkIn
import Derived.Test.YtpmjnpmnocjjgaaGreatDoorB32
import Derived.Test.YtpmjnpmnocjjgaaGreatDoorB26
import Derived.Test.YtpmjnpmnocjjgaaGreatDoorB40
import Derived.Test.YtpmjnpmnocjjgaaGreatDoorB28
set_option maxHeartbeats 16000000
set_option maxRecDepth 20000
namespace Go.Proofs.YtpmjnpmnocjjgaaGreatDoor
open Go.RowKit
set_option linter.unusedVariables false
set_option linter.unusedSimpArgs false
theorem oneAwake_any {cb n base:Nat} {C:Nat→Nat→Int} {S:Nat→Value} {v:Value} {ms:List Nat} {sl:Nat→Bool} (w:World) (hC:Cs w cb n C S) (h:HL w base cb v ms) (hl:∀ j,j∈ms→j<n) (hn:n≤12) (hms:ms.length≤12) (hs:∀ j,j<n→decide (C 11 j=8)=sl j) (b:Bool) (hb:ms.any (fun j=> !sl j)=b):
 Calls Tryz.prog 20 #[v] w fun e w'=>e= .returned (.bool b)∧Below w.heap.size w w':=by
 have hset:=cset_map
 obtain⟨ad,cc,rfl⟩:=h.is
 go_enter Tryz.func20,Tryz.ntmps20
 go_upto_region 2 with fail
 go_loopw [7] (fun s wr=>∃ q:Nat,q≤ms.length∧s= .int .i64 (q:Int)∧(ms.take q).any (fun j=> !sl j)=false∧Below w.heap.size w wr) (fun s _=>ms.length-(intOf s).toNat)
 case atStart=>exact⟨0,Nat.zero_le _,rfl,rfl,Below.refl _ _⟩
 case round=>
  obtain⟨q,hq,rfl,hno,hB⟩:=hrel
  by_cases hlt:q<ms.length
  · obtain⟨g,c,he,-,-⟩:=h.some (by omega)
    cases he
    have hw:=h.below hB
    obtain⟨c0,c1⟩:=hw.cells hlt
    obtain⟨r,hr⟩:∃ r,ms[q]=r:=⟨_,rfl⟩
    rw[hr] at c0
    have hrn:r<n:=hl r (hr▸List.getElem_mem hlt)
    have hqi:(q:Int)<(ms.length:Int):=by omega
    have hCw:=hC.below hB
    have hE1:Below wr.heap.size wr (wr.alloc (Obj.cells #[.int .i64 (r:Int),.pointer (some ⟨cb,0,none⟩)] 76)):=(Below.refl _ _).alloc (Nat.le_refl _) _
    have hsr:=hs r hrn
    have htk:Shut ((ms.take (q+1)).any (fun j=> !sl j)= !sl r):=by
     unfold Shut
     rw[List.take_succ_eq_append_getElem hlt,List.any_append,hno,hr];simp
    cases hsl:sl r with
    | true=>
      rw[hsl] at hsr htk
      go_wp2_with (go_at_call 46;refine(kSleeps (Cs.hat (hCw.below hE1) hrn (by omega))).mono ?_;rw[hsr];rintro e w1 ⟨rfl,hb1⟩)
      go_roundw
      case rel=>exact⟨q+1,by omega,by go_num,htk.out,hB.trans ((hE1.trans (hb1.mono hE1.size)).mono hB.size)⟩
      case measure=>simp[intOf];omega
    | false=>
      rw[hsl] at hsr htk
      obtain rfl:true=b:=by
       rw[←hb,eq_comm,List.any_eq_true]
       exact⟨r,hr▸List.getElem_mem hlt,by rw[hsl];rfl⟩
      go_wp2_with (go_at_call 46;refine(kSleeps (Cs.hat (hCw.below hE1) hrn (by omega))).mono ?_;rw[hsr];rintro e w1 ⟨rfl,hb1⟩)
      go_ret
      exact⟨rfl,hB.trans ((hE1.trans (hb1.mono hE1.size)).mono hB.size)⟩
  · obtain rfl:q=ms.length:=by omega
    rw[List.take_length,hb] at hno
    subst hno
    go_wp2
    go_ret
    exact⟨rfl,hB⟩
theorem step_push1 {P:Program} {w:World} {ops:Array Oper} {o:Oper} {a:Act} {K:Act→World→Prop} {Q:Exit→Act→World→Prop} {E:Prop} (hgd:o.guard=none) (s x:Operand) (t:TypeId)
 (ho:o.op= .call {callee:= .builtin .append,args:= #[s,x],argTypes:= #[t,t]}) (e bytes:Nat) (z:Value) (ht:P.underlying t=some (.slice e)) (hinfo:(P.info? e).map (fun i=>(i.zero,i.size,i.bytes))=some (some z,1,bytes)) (hzs:z.cells.size=1) (hby:bytes≤8)
 (base:Nat) (v:Value) (m:Nat) (xs:List Value) (hs:a.eval s=v) (h:w.ownsRow base e 1 v m xs) (b:Nat) (hx:a.eval x= .slice (some ⟨b,0,none⟩) 1 1) (u:Value) (hu:w.cell? ⟨b,0,none⟩=some u) (h1:u.oneCell'=true) (hn:m≤1048576) (hbase:base≤w.heap.size)
 (hK:∀ g' c' w',w'.ownsRow base e 1 (.slice (some ⟨g',0,none⟩) (m+1) c') (m+1) (xs++[u])→w.grownBy w' v.ownBlock→K (a.put o.dst (.slice (some ⟨g',0,none⟩) (m+1) c')) w'):
 if Region.wanted o (yielded ops a.tmps)=true then Oper.wp P o a w K Q else E:=by
 obtain⟨i,hi,hzz⟩:=Option.map_eq_some_iff.1 hinfo
 simp only[Prod.mk.injEq] at hzz
 obtain⟨hz,hsz,hb8⟩:=hzz
 refine step_append_lies w hgd s x t ho base e i z 1 bytes ht hi hz hsz hb8 hzs (by decide) v m xs hs h ⟨b,0,none⟩ 1 1 [u] hx rfl ?_ ?_ (by decide) (by unfold maxLen;omega) ?_ hbase _ rfl ?_
 · intro j v hv
   cases j with
   |zero=>simp at hv;subst hv;exact hu
   |succ j=>simp at hv
 · intro v hv;simp at hv;rw[hv];exact h1
 · have:(m+1)*bytes≤(m+1)*8:=Nat.mul_le_mul_left _ hby
   omega
 · intro g' cap' w' r1 r2 _ _
   exact hK g' cap' w' r1 r2
structure Vr (w A:World) (H lb t:Nat) (v:Value) (m:Nat) (xs:List Value):Prop where
 bel:Below w.heap.size w A
 box:A.cell? ⟨lb,0,none⟩=some v
 nf:A.frozen? ⟨lb,0,none⟩=false
 own:A.ownsRow H t 1 v m xs
 lo:w.heap.size≤lb
 hi:lb<H
section
variable {w A A':World} {H lb t m:Nat} {v:Value} {xs:List Value}
theorem Vr.lt (h:Vr w A H lb t v m xs):lb<A.heap.size:=cell_lt (a:=⟨lb,0,none⟩) h.box
theorem Vr.isCells (h:Vr w A H lb t v m xs):∀ b o,v.ownBlock=some b→A.heap[b]? =some o→o.isCells=true:=by
 intro b o hb ho
 rcases h.own.2 with⟨hv,_⟩|⟨g,cap,cur,hv,_,hg,_⟩
 · subst hv;cases hb
 · subst hv
   simp only[Value.ownBlock,Option.some.injEq] at hb
   subst hb
   rw[hg] at ho;cases ho;rfl
theorem Vr.kx {B:Nat} (h:Vr w A H lb t v m xs) (k:Kx B H A A') (hB:w.heap.size≤B) (hl:lb<B):Vr w A' H lb t v m xs:=by
 refine⟨h.bel.trans (k.below.mono hB),(k.below.cell (p:=⟨lb,0,none⟩) hl).trans h.box,(k.below.frozen (p:=⟨lb,0,none⟩) hl).trans h.nf,⟨h.own.1,?_⟩,h.lo,h.hi⟩
 rcases h.own.2 with q|⟨g,cap,cur,hv,hb,hg,rest⟩
 · exact .inl q
 · exact .inr ⟨g,cap,cur,hv,hb,k.cells _ _ hg rfl hb,rest⟩
theorem Vr.sm {B:Nat} (h:Vr w A H lb t v m xs) (k:Sm B A A') (hB:w.heap.size≤B):Vr w A' H lb t v m xs:=by
 refine⟨h.bel.trans (k.below.mono hB),k.cell h.box,k.frozen h.box h.nf,⟨h.own.1,?_⟩,h.lo,h.hi⟩
 rcases h.own.2 with q|⟨g,cap,cur,hv,hb,hg,rest⟩
 · exact .inl q
 · exact .inr ⟨g,cap,cur,hv,hb,k.cells _ _ hg rfl,rest⟩
theorem Vr.on (h:Vr w A H lb t v m xs) (k:Below A.heap.size A A'):Vr w A' H lb t v m xs:=by
 refine⟨h.bel.trans (k.mono h.bel.size),(k.cell (p:=⟨lb,0,none⟩) h.lt).trans h.box,(k.frozen (p:=⟨lb,0,none⟩) h.lt).trans h.nf,⟨h.own.1,?_⟩,h.lo,h.hi⟩
 rcases h.own.2 with q|⟨g,cap,cur,hv,hb,hg,rest⟩
 · exact .inl q
 · exact .inr ⟨g,cap,cur,hv,hb,(k.block _ (Array.getElem?_eq_some_iff.1 hg).1).trans hg,rest⟩
theorem Vr.push (h:Vr w A H lb t v m xs) {Y w7:World} (hE:Below A.heap.size A Y) (hg:Y.grownBy w7 v.ownBlock) {v':Value} {m':Nat} {xs':List Value} (ho:w7.ownsRow H t 1 v' m' xs'):
 (w7.cell? ⟨lb,0,none⟩=some v∧w7.frozen? ⟨lb,0,none⟩=false)∧Vr w (w7.setCell ⟨lb,0,none⟩ v') H lb t v' m' xs'∧Fr (fun b=>b=lb∨H≤b) A (w7.setCell ⟨lb,0,none⟩ v'):=by
 have h7:=h.on hE
 have hlo:∀ b,v.ownBlock=some b→H≤b:=fun b e=>(World.ownsRow.lt h7.own b e).1
 have hF7:Fr (fun b=>v.ownBlock=some b) Y w7:=Fr.grown hg (fun b e=>e) h7.isCells
 have hi:=h.hi
 have nlb:¬ (v.ownBlock=some lb):=fun e=>by have:=hlo _ e;omega
 have c:=(hF7.cell (p:=⟨lb,0,none⟩) h7.lt nlb).trans h7.box
 have f:=(hF7.frozen (p:=⟨lb,0,none⟩) h7.lt nlb).trans h7.nf
 have hF:Fr (fun b=>b=lb∨H≤b) A (w7.setCell ⟨lb,0,none⟩ v'):=((Fr.of_below hE).trans (hF7.mono (fun _ _ e=> .inr (hlo _ e)))).trans (Fr.setCell (p:=⟨lb,0,none⟩) (.inl rfl) _)
 have hlo':=h.lo
 refine⟨⟨c,f⟩,⟨h.bel.trans (hF.below h.bel.size (fun b e=>e.elim (fun e=>by omega) (fun e=>by omega))),?_,?_,⟨ho.1,?_⟩,h.lo,h.hi⟩,hF⟩
 · rw[cset_map,c];rfl
 · rw[World.frozen?_setCell];exact f
 · rcases ho.2 with q|⟨g,cap,cur,hv,hb,hg,rest⟩
   · exact .inl q
   · exact .inr ⟨g,cap,cur,hv,hb,(Below.heap_setCell w7 ⟨lb,0,none⟩ v' g (by show ¬ g=lb;omega)).trans hg,rest⟩
end
section
attribute [local go_sem] Oper.semAt_some
theorem groupAwake_any (a:Option Addr) (n c:Nat) (U:Nat→Int) (M:Nat) (w:World) (h:Flat w a (n*12) U) (hok:bodsB n U=true) (hn:n≤12) (hM:(conL (colOf U) n).length=M*5) (hMk:M≤1000) (hq:∀ j,j<n→decide (colOf U 11 j=8)=slG U j):
 Calls Tryz.prog 8 #[.slice a n c] w fun e w'=>∃ v:Value,∃ m bl,e= .returned v∧m=cntp (fstB (fxU U) (lab (edg U (ofL (conL (colOf U) n))) M)) n∧w'.ownsRow w.heap.size 4 1 v m (BV bl)∧bl.length=m∧(∀ t,t<m→bl.getD t false=awk (fxU U) (lab (edg U (ofL (conL (colOf U) n))) M) (slG U) n t)∧Below w.heap.size w w':=by
 have hset:=cset_map
 obtain⟨L,hL⟩:∃ L,lab (edg U (ofL (conL (colOf U) n))) M=L:=⟨_,rfl⟩
 have hT:Shut (Tops (fxU U) L):=hL▸lab_tops U _ M
 have hGr:∀ cb S w1,Cs w1 cb n (colOf U) S→ItG Tryz.prog 19 #[.pointer (some ⟨cb,0,none⟩)] (ColF cb n (fxU U)) (GrE cb n (fxU U) L) (cntp (fstB (fxU U) L) n) w1:=fun cb S w1 hC=>groups_any cb n U S M w1 hC hn hM hMk L (fun j=>by rw[←hL]) (fxU U)
 rw[hL]
 clear hL hM hMk
 obtain⟨sl,hsl0⟩:∃ s,slG U=s:=⟨_,rfl⟩
 rw[hsl0] at hq ⊢
 have hsl:=hq
 clear hq hsl0
 have hn20:n≤1048576:=by omega
 refine calls_of_wp_marks Tryz.func8 rfl ?_
 simp only[Tryz.ntmps8,List.size_toArray,List.length_cons,List.length_nil,Nat.reduceAdd,Nat.reduceSub,Array.replicate_succ,Array.replicate_zero,List.push_toArray,List.append_toArray,List.nil_append,List.cons_append]
 go_wp2_with (go_at_call 18;refine(columnsOf_ok a n c U _ h hn20 hok).mono ?_;rintro e w1 ⟨cb,S,rfl,hcb,hC,hb1⟩)
 have hE1:Below w1.heap.size w1 (w1.alloc (Obj.cells #[.slice none 0 0] 28)):=(Below.refl _ _).alloc (Nat.le_refl _) _
 have x1:(w1.alloc (Obj.cells #[.slice none 0 0] 28)).cell? ⟨w1.heap.size,0,none⟩=some (.slice none 0 0):=by go_simp
 have f1:(w1.alloc (Obj.cells #[.slice none 0 0] 28)).frozen? ⟨w1.heap.size,0,none⟩=false:=by go_simp
 have hz1:(w1.alloc (Obj.cells #[.slice none 0 0] 28)).heap.size=w1.heap.size+1:=by simp
 generalize (w1.alloc (Obj.cells #[.slice none 0 0] 28))=w2 at hE1 x1 f1 hz1 ⊢
 have hb1z:=hb1.size
 have hG2:=hGr cb S w2 (hC.below hE1)
 have hB2:Below w1.heap.size w1 w2:=hE1
 clear hGr
 refine wp_range_outG (gf:=19) (bound:= #[.pointer (some ⟨cb,0,none⟩)]) rfl groups_enters hG2 (fun H k args A hE=>by obtain⟨i,v,_,_,_,rfl,_⟩:=hE;rfl)
  (fun H k A=>w2.heap.size≤H∧∃ v bl,Vr w1 A H w1.heap.size 4 v k (BV bl)∧bl.length=k∧∀ t,t<k→bl.getD t false=awk (fxU U) L sl n t) ?hI ?hIs ?hcol ?h0 ?round ?done
 case hI=>rintro H k A B' ⟨h0,v,bl,h1,h2⟩ hk;exact⟨h0,v,bl,h1.kx hk (by omega) (by omega),h2⟩
 case hIs=>rintro H k A B' ⟨h0,v,bl,h1,h2⟩ hs;exact⟨h0,v,bl,h1.sm hs (by omega),h2⟩
 case hcol=>rintro H k A ⟨_,v,bl,h1,h2⟩;exact⟨_,_,hC.below h1.bel,fun j _=>rfl⟩
 case h0=>
  intro W0 hb hz
  exact⟨by omega,.slice none 0 0,[],⟨hE1.trans (hb.mono (by omega)),(hb.cell (p:=⟨w1.heap.size,0,none⟩) (by show w1.heap.size<w2.heap.size;omega)).trans x1,(hb.frozen (p:=⟨w1.heap.size,0,none⟩) (by show w1.heap.size<w2.heap.size;omega)).trans f1,World.ownsRow_nil _ _ _ _,Nat.le_refl _,by omega⟩,rfl,fun t ht=>absurd ht (Nat.not_lt_zero _)⟩
 case done=>
  rintro D H W hD ⟨h0,v,bl,h1,h2,h3⟩ hK
  have hbx:=h1.box
  go_wp2
  refine marks_ret (B:=w1.heap.size) (by omega) rfl hK fun W' hS=>⟨v,?_,v,_,bl,rfl,rfl,?_,h2,h3,hb1.trans ((h1.sm hS (Nat.le_refl _)).bel.mono hb1.size)⟩
  · simp[results,Tryz.results8,go_sem, *]
  · have ho:=(h1.sm hS (Nat.le_refl _)).own
    refine⟨ho.1,?_⟩
    rcases ho.2 with q|⟨g,cap,cur,hv,hb,rest⟩
    · exact .inl q
    · exact .inr ⟨g,cap,cur,hv,by omega,rest⟩
 case round=>
  rintro lr H m W args hlr1 hlr2 hWz ⟨hHz,v,bl,hV1,hlen,hbl⟩ hkk ⟨i,vv,hi,hfi,hck,rfl,hHL⟩
  have hmn:m<12:=by have:=cntp_le (fstB (fxU U) L) n;omega
  clear hG2 x1 f1 hkk
  have hLi:L i=i:=by unfold fstB at hfi;exact of_decide_eq_true (by simp at hfi;exact decide_eq_true hfi.2)
  have hmm:=memL_mem L i n
  have hml:=memL_le L i n
  have hm0:0<(memL L i n).length:=List.length_pos_of_mem ((hmm i).2 ⟨hi,hLi⟩)
  obtain⟨bk,hbk⟩:∃ b,(memL L i n).any (fun j=> !sl j)=b:=⟨_,rfl⟩
  have hbk':awk (fxU U) L sl n m=bk:=(memL_awk hT.out sl n hfi hck).symm.trans hbk
  generalize memL L i n=ms at hmm hml hm0 hbk hHL ⊢
  obtain⟨mg,mc,rfl,hmg,hmg2⟩:=hHL.some hm0
  simp only[List.zip_toArray,List.zip_cons_cons,List.zip_nil_left,List.foldl_toArray,List.foldl_cons,List.foldl_nil,List.setIfInBounds_toArray,List.set_cons_succ,List.set_cons_zero]
  refine wpIn_region_plain (by rintro⟨_,_,h⟩;exact h) (by kernel_rfl) ?_
  go_wp2
  refine⟨KeepsFrom.refl _ _,fun W2 hS hKc hr=> ?_⟩
  have hV2:=hV1.sm hS (by omega)
  have hHL2:=hHL.sm hS
  have hKc2:Kc (w2.heap.size+2) H W W2:=hKc _ _ hlr2
  have hz2:=hS.size
  clear hV1 hHL hKc hS hr
  have x0:=hV2.box
  have hbl':∀ t,t<m+1→(bl++[bk]).getD t false=awk (fxU U) L sl n t:=fun t ht=>by
   rw[getD_app]
   by_cases e:t=bl.length
   · rw[if_pos e,←hbk',show t=m by omega]
   · rw[if_neg e];exact hbl t (by omega)
  refine wpIn_block ?_
  refine wpIn_region_held_drew (S:=fun w'=>True) (by kernel_rfl) (by rintro⟨_,_,h⟩;exact h) (by kernel_rfl) ?_ (fun hHeld=> ?_)
  · trivial
  refine tq 1 hHeld ?_
  refine wpAnyH_ready (rs:=[0,2]) (by kernel_rfl) (by simp) ?_
  refine AllReadyH.cons rfl (fun K hK=> ?_) (AllReadyH.cons rfl (fun K hK=> ?_) AllReadyH.nil)
  · (go_simp
     refine tr hK (fun hHeld=> ?_) trivial
     clear hK K)
    refine tc 2 fun K hK=> ?_
    (go_simp
     (go_at_call 20;refine(oneAwake_any _ (hC.below (hV2.bel.drew)) (hHL2.below (Below.drew (Below.refl _ _))) (fun j hj=>((hmm j).1 hj).1) hn (by omega) hsl bk hbk).mono ?_;rintro e w31 ⟨rfl,hx⟩)
     have hx1:Below W2.heap.size W2 w31:=(Below.drew (Below.refl _ _)).trans hx
     have hV3:=hV2.on hx1
     clear x0 hx
     have x0:=hV3.box
     (try go_wp2_with fail)
     refine tr hK (fun hHeld=> ?_) trivial
     clear hK K)
    refine tc 3 fun K hK=> ?_
    (go_simp
     have hE3:Below w31.heap.size w31 (w31.alloc (Obj.cells #[.bool bk] 4)):=(Below.refl _ _).alloc (Nat.le_refl _) _
     have q0:(w31.alloc (Obj.cells #[.bool bk] 4)).cell? ⟨w31.heap.size,0,none⟩=some (.bool bk):=by go_simp
     generalize w31.alloc (Obj.cells #[.bool bk] 4)=w32 at hE3 q0 ⊢
     have hV4:=hV3.on hE3
     clear x0
     have x0:=hV4.box
     refine tr hK (fun hHeld=> ?_) trivial
     clear hK K)
    refine tc 4 fun K hK=> ?_
    (refine step_push1 (by rfl) _ _ _ (by rfl) 4 1 zcBool Tryz.underlying28 infoBool rfl (by decide) H v m (BV bl) (by rfl) hV4.own w31.heap.size (by rfl) (.bool bk) q0 rfl (by omega) (by have:=hE3.size;have:=hx1.size;omega) ?_
     intro g7 c7 w33 ho7 hg7
     obtain⟨⟨n0,nf⟩,hV5,hF5⟩:=hV3.push hE3 hg7 ho7
     refine tr hK (fun hHeld=> ?_) trivial
     clear hK K)
    refine tc 5 fun K hK=> ?_
    (go_simp
     refine tr hK (fun hHeld=> ?_) trivial
     clear hK K)
    refine wpAnyH_done (by kernel_rfl) ?_ _
    go_wp2_with fail
    exact⟨(KeepsFrom.of_below hx1).trans (hF5.keeps _),⟨hHz,_,bl++[bk],by rw[BV_app] at hV5;exact hV5,by simp[hlen],hbl'⟩,(hKc2.trans (Kc.of_below hx1)).trans (Kc.fr hF5 (fun b e=>e.elim (fun e=> .inl (by omega)) (fun e=> .inr e)))⟩
  · (go_simp
     (go_at_call 20;refine(oneAwake_any _ (hC.below (hV2.bel.drew)) (hHL2.below (Below.drew (Below.refl _ _))) (fun j hj=>((hmm j).1 hj).1) hn (by omega) hsl bk hbk).mono ?_;rintro e w31 ⟨rfl,hx⟩)
     have hx1:Below W2.heap.size W2 w31:=(Below.drew (Below.refl _ _)).trans hx
     have hV3:=hV2.on hx1
     clear x0 hx
     have x0:=hV3.box
     (try go_wp2_with fail)
     refine tr hK (fun hHeld=> ?_) trivial
     clear hK K)
    refine wpAnyH_ready (rs:=[0,3]) (by kernel_rfl) (by simp) ?_
    refine AllReadyH.cons rfl (fun K hK=> ?_) (AllReadyH.cons rfl (fun K hK=> ?_) AllReadyH.nil)
    · (go_simp
       refine tr hK (fun hHeld=> ?_) trivial
       clear hK K)
      refine tc 3 fun K hK=> ?_
      (go_simp
       have hE3:Below w31.heap.size w31 (w31.alloc (Obj.cells #[.bool bk] 4)):=(Below.refl _ _).alloc (Nat.le_refl _) _
       have q0:(w31.alloc (Obj.cells #[.bool bk] 4)).cell? ⟨w31.heap.size,0,none⟩=some (.bool bk):=by go_simp
       generalize w31.alloc (Obj.cells #[.bool bk] 4)=w32 at hE3 q0 ⊢
       have hV4:=hV3.on hE3
       clear x0
       have x0:=hV4.box
       refine tr hK (fun hHeld=> ?_) trivial
       clear hK K)
      refine tc 4 fun K hK=> ?_
      (refine step_push1 (by rfl) _ _ _ (by rfl) 4 1 zcBool Tryz.underlying28 infoBool rfl (by decide) H v m (BV bl) (by rfl) hV4.own w31.heap.size (by rfl) (.bool bk) q0 rfl (by omega) (by have:=hE3.size;have:=hx1.size;omega) ?_
       intro g7 c7 w33 ho7 hg7
       obtain⟨⟨n0,nf⟩,hV5,hF5⟩:=hV3.push hE3 hg7 ho7
       refine tr hK (fun hHeld=> ?_) trivial
       clear hK K)
      refine tc 5 fun K hK=> ?_
      (go_simp
       refine tr hK (fun hHeld=> ?_) trivial
       clear hK K)
      refine wpAnyH_done (by kernel_rfl) ?_ _
      go_wp2_with fail
      exact⟨(KeepsFrom.of_below hx1).trans (hF5.keeps _),⟨hHz,_,bl++[bk],by rw[BV_app] at hV5;exact hV5,by simp[hlen],hbl'⟩,(hKc2.trans (Kc.of_below hx1)).trans (Kc.fr hF5 (fun b e=>e.elim (fun e=> .inl (by omega)) (fun e=> .inr e)))⟩
    · (go_simp
       have hE3:Below w31.heap.size w31 (w31.alloc (Obj.cells #[.bool bk] 4)):=(Below.refl _ _).alloc (Nat.le_refl _) _
       have q0:(w31.alloc (Obj.cells #[.bool bk] 4)).cell? ⟨w31.heap.size,0,none⟩=some (.bool bk):=by go_simp
       generalize w31.alloc (Obj.cells #[.bool bk] 4)=w32 at hE3 q0 ⊢
       have hV4:=hV3.on hE3
       clear x0
       have x0:=hV4.box
       refine tr hK (fun hHeld=> ?_) trivial
       clear hK K)
      refine tc 0 fun K hK=> ?_
      (go_simp
       refine tr hK (fun hHeld=> ?_) trivial
       clear hK K)
      refine tc 4 fun K hK=> ?_
      (refine step_push1 (by rfl) _ _ _ (by rfl) 4 1 zcBool Tryz.underlying28 infoBool rfl (by decide) H v m (BV bl) (by rfl) hV4.own w31.heap.size (by rfl) (.bool bk) q0 rfl (by omega) (by have:=hE3.size;have:=hx1.size;omega) ?_
       intro g7 c7 w33 ho7 hg7
       obtain⟨⟨n0,nf⟩,hV5,hF5⟩:=hV3.push hE3 hg7 ho7
       refine tr hK (fun hHeld=> ?_) trivial
       clear hK K)
      refine tc 5 fun K hK=> ?_
      (go_simp
       refine tr hK (fun hHeld=> ?_) trivial
       clear hK K)
      refine wpAnyH_done (by kernel_rfl) ?_ _
      go_wp2_with fail
      exact⟨(KeepsFrom.of_below hx1).trans (hF5.keeps _),⟨hHz,_,bl++[bk],by rw[BV_app] at hV5;exact hV5,by simp[hlen],hbl'⟩,(hKc2.trans (Kc.of_below hx1)).trans (Kc.fr hF5 (fun b e=>e.elim (fun e=> .inl (by omega)) (fun e=> .inr e)))⟩
end
end Go.Proofs.YtpmjnpmnocjjgaaGreatDoor
namespace Go.Proofs.YtpmjnpmnocjjgaaGreatDoor
open Go.RowKit
set_option linter.unusedVariables false
set_option linter.unusedSimpArgs false
def memG (G:Nat→Int) (n t:Nat):List Nat:=(List.range n).filter fun j=>decide (G j=(t:Int))
theorem memG_mem {G:Nat→Int} {n t j:Nat}:j∈memG G n t↔j<n∧G j=(t:Int):=by unfold memG;rw[List.mem_filter,List.mem_range,decide_eq_true_iff]
theorem memG_len (G:Nat→Int) (n t:Nat):(memG G n t).length≤n:=Nat.le_trans (List.length_filter_le _ _) (by rw[List.length_range];exact Nat.le_refl _)
def AwL (w:World) (base cb:Nat) (v:Value) (G:Nat→Int) (n:Nat) (gs:List Nat):Prop:=
 ∃ a c,v= .slice a gs.length c∧∀ q (h:q<gs.length),∃ b o vq,a=some ⟨b,o,none⟩∧base≤b∧b<w.heap.size∧w.cell? ⟨b,o+q,none⟩=some vq∧HL w base cb vq (memG G n gs[q])
theorem AwL.fr {w w':World} {base cb n:Nat} {v:Value} {G:Nat→Int} {gs:List Nat} {X:Nat→Prop} (h:AwL w base cb v G n gs) (hF:Fr X w w') (hX:∀ b,base≤b→b<w.heap.size→¬ X b):AwL w' base cb v G n gs:=by
 obtain⟨a,c,e,hq⟩:=h
 refine⟨a,c,e,fun q h=> ?_⟩
 obtain⟨b,o,vq,e1,h1,h2,h3,h4⟩:=hq q h
 exact⟨b,o,vq,e1,h1,Nat.lt_of_lt_of_le h2 hF.size,(hF.cell (p:=⟨b,o+q,none⟩) h2 (hX b h1 h2)).trans h3,h4.frame hF fun b' e'=>hX b' (h4.lt b' e').1 (h4.lt b' e').2⟩
def wkU (P:Nat→Bool) (n:Nat) (U:Nat→Int):Nat→Int:=mapR (fun i V=>wakeV (P i) V) U n
theorem wkU_row {P:Nat→Bool} {n:Nat} {U:Nat→Int} {j:Nat} (hj:j<n):∀ i,i<12→colOf (wkU P n U) i j=wakeV (P j) (fun i=>U (j*12+i)) i:=fun i hi=>by unfold colOf wkU;rw[mapR_in hj hi]
theorem wkU_congr {P P':Nat→Bool} {n:Nat} {U:Nat→Int} (h:∀ j,j<n→P j=P' j):∀ i j,i<12→j<n→colOf (wkU P n U) i j=colOf (wkU P' n U) i j:=fun i j hi hj=>by rw[wkU_row hj i hi,wkU_row hj i hi,h j hj]
theorem wkU_set {P P':Nat→Bool} {n:Nat} {U:Nat→Int} {j:Nat} (hb:BOk (fun i=>U (j*12+i))) (hj:j<n) (hs:colOf (wkU P n U) 11 j=8) (hP:∀ k,k<n→P' k=(P k||decide (k=j))):∀ i k,i<12→k<n→setC (colOf (wkU P n U)) 11 j 0 i k=colOf (wkU P' n U) i k:=fun i k hi hk=>by
 rw[wkU_row hj 11 (by omega)] at hs
 have hPj:P j=false:=by
  cases e:P j with
  |false=>rfl
  | true=>
    rw[e] at hs
    unfold wakeV at hs
    cases e2:decide (8≤U (j*12+11)) with
    |true=>simp only[e2,Bool.true_and,cond_true] at hs;simp[setV] at hs
    | false=>
      simp only[e2,Bool.true_and,cond_false] at hs
      have:=of_decide_eq_false e2
      omega
 rw[hPj] at hs
 have hs':U (j*12+11)=8:=hs
 rw[wkU_row hk i hi,hP k hk]
 unfold setC
 by_cases e:k=j
 · subst e
   rw[hPj,decide_eq_true rfl,Bool.false_or]
   unfold wakeV
   rw[decide_eq_true (by show (8:Int)≤U (k*12+11);omega)]
   by_cases ei:i=11
   · subst ei;simp[setV]
   · simp[setV,ei]
     rw[wkU_row hk i hi,hPj]
     rfl
 · rw[if_neg (fun q=>e q.2),wkU_row hk i hi,decide_eq_false e,Bool.or_false]
theorem wkU_no {P P':Nat→Bool} {n:Nat} {U:Nat→Int} {j:Nat} (hb:BOk (fun i=>U (j*12+i))) (hj:j<n) (hs:¬ colOf (wkU P n U) 11 j=8) (hP:∀ k,k<n→P' k=(P k||decide (k=j))):∀ i k,i<12→k<n→colOf (wkU P n U) i k=colOf (wkU P' n U) i k:=fun i k hi hk=>by
 rw[wkU_row hj 11 (by omega)] at hs
 rw[wkU_row hk i hi,wkU_row hk i hi,hP k hk]
 by_cases e:k=j
 · subst e
   rw[decide_eq_true rfl,Bool.or_true]
   cases e:P k with
   |true=>rfl
   | false=>
     rw[e] at hs
     have hs':¬ U (k*12+11)=8:=hs
     have:0≤U (k*12+11)∧U (k*12+11)≤8:=hb.q11
     unfold wakeV
     rw[decide_eq_false (by show ¬ (8:Int)≤U (k*12+11);omega)]
     rfl
 · rw[decide_eq_false e,Bool.or_false]
def slpL (G:Nat→Int) (n:Nat) (U:Nat→Int) (gs:List Nat):Nat→Int:=gs.foldl (fun V g=>sleepS G (fun _=>true) n g V) U
theorem slp_take {G U:Nat→Int} {n q:Nat} {gs:List Nat} (h:q<gs.length):slpL G n U (gs.take (q+1))=sleepS G (fun _=>true) n gs[q] (slpL G n U (gs.take q)):=by
 unfold slpL
 rw[List.take_succ_eq_append_getElem h,List.foldl_append]
 rfl
theorem sleepS_row {G U:Nat→Int} {A:Nat→Bool} {n g j i:Nat} (hj:j<n) (hi:i<12) (h:G j≠(g:Int)):sleepS G A n g U (j*12+i)=U (j*12+i):=by
 unfold sleepS
 cases A g&&allQ G U g n with
 |false=>rfl
 | true=>
   show mapR (slF G g) U n (j*12+i)=_
   rw[mapR_in hj hi]
   unfold slF
   rw[decide_eq_false h]
   rfl
theorem slp_row {G:Nat→Int} {n j i:Nat} (hj:j<n) (hi:i<12):∀ (gs:List Nat) (U:Nat→Int),(∀ t,t∈gs→G j≠(t:Int))→slpL G n U gs (j*12+i)=U (j*12+i)
 | [],U,_=>rfl
 |t::gs,U,h=>(slp_row hj hi gs (sleepS G (fun _=>true) n t U) (fun s hs=>h s (List.mem_cons_of_mem _ hs))).trans (sleepS_row hj hi (h t List.mem_cons_self))
theorem sleepN_eq (G U:Nat→Int) (A:Nat→Bool) (n:Nat):∀ N,sleepN G A n U N=slpL G n U ((List.range N).filter A)
 |0=>rfl
 | N+1=>by
   rw[sleepN,sleepN_eq G U A n N,List.range_succ,List.filter_append]
   unfold slpL
   rw[List.foldl_append]
   cases h:A N with
   |true=>simp only[List.filter,h,List.foldl_cons,List.foldl_nil];unfold sleepS;rw[h]
   |false=>simp only[List.filter,h,List.foldl_nil];unfold sleepS;rw[h];rfl
theorem allQ_iff {G U:Nat→Int} {g:Nat}:∀ n,allQ G U g n=true↔∀ i,i<n→G i=(g:Int)→7≤U (i*12+11)
 |0=>⟨fun _ i h=>absurd h (Nat.not_lt_zero _),fun _=>rfl⟩
 | n+1=>by
   rw[allQ,Bool.and_eq_true,allQ_iff n,Bool.or_eq_true,Bool.not_eq_true',decide_eq_false_iff_not,decide_eq_true_iff]
   constructor
   · rintro⟨h1,h2⟩ i hi hg
     by_cases e:i=n
     · subst e;exact h2.resolve_left (fun q=>q hg)
     · exact h1 i (by omega) hg
   · intro h
     refine⟨fun i hi=>h i (by omega),?_⟩
     by_cases e:G n=(g:Int)
     · exact .inr (h n (by omega) e)
     · exact .inl e
theorem rest_iff {G U:Nat→Int} {g n:Nat} (hq:∀ j,j<n→G j=(g:Int)→U (j*12+11)≤7):(memG G n g).any (fun j=>U (j*12+11) !=7)= !allQ G U g n:=by
 rw[Bool.eq_iff_iff,List.any_eq_true,Bool.not_eq_true',←Bool.not_eq_true,allQ_iff]
 constructor
 · rintro⟨j,hj,h⟩ h2
   obtain⟨h3,h4⟩:=memG_mem.1 hj
   have:=hq j h3 h4
   have:=h2 j h3 h4
   have h5:U (j*12+11)≠7:=by simpa using h
   omega
 · intro h
   by_cases e:∃ j,j∈memG G n g∧(U (j*12+11) !=7)=true
   · exact e
   · exact absurd (fun i hi hg=>by
      by_cases e7:U (i*12+11)=7
      · omega
      · exact absurd ⟨i,memG_mem.2 ⟨hi,hg⟩,by simpa using e7⟩ e) h
def fsU (P:Nat→Bool) (n:Nat) (U:Nat→Int):Nat→Int:=mapR (fun i V=>bif P i then slV V else V) U n
theorem fsU_row {P:Nat→Bool} {n:Nat} {U:Nat→Int} {j:Nat} (hj:j<n):∀ i,i<12→colOf (fsU P n U) i j=(bif P j then slV (fun i=>U (j*12+i)) else fun i=>U (j*12+i)) i:=fun i hi=>by unfold colOf fsU;rw[mapR_in hj hi]
theorem fsU_set {P P':Nat→Bool} {n:Nat} {U:Nat→Int} {j:Nat} (hj:j<n) (hP:∀ k,k<n→P' k=(P k||decide (k=j))):∀ i k,i<12→k<n→setC (setC (setC (colOf (fsU P n U)) 11 j 8) 6 j 0) 7 j 0 i k=colOf (fsU P' n U) i k:=fun i k hi hk=>by
 rw[fsU_row hk i hi,hP k hk]
 unfold setC
 by_cases e:k=j
 · subst e
   rw[decide_eq_true rfl,Bool.or_true]
   show _=slV (fun i=>U (k*12+i)) i
   unfold slV
   by_cases e7:i=7
   · subst e7;simp
   · by_cases e6:i=6
     · subst e6;simp
     · by_cases e11:i=11
       · subst e11;simp
       · simp only[e7,e6,e11,false_and,if_false]
         rw[fsU_row hk i hi]
         cases P k with
         |false=>rfl
         |true=>show slV (fun i=>U (k*12+i)) i=U (k*12+i);unfold slV;simp[e7,e6,e11]
 · rw[if_neg (fun q=>e q.2),if_neg (fun q=>e q.2),if_neg (fun q=>e q.2),fsU_row hk i hi,decide_eq_false e,Bool.or_false]
end Go.Proofs.YtpmjnpmnocjjgaaGreatDoor
