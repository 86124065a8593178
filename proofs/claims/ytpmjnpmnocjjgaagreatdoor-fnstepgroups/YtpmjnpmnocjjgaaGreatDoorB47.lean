/- Texts of a proof. -/
import Derived.Test.YtpmjnpmnocjjgaaGreatDoorB42
import Derived.Test.YtpmjnpmnocjjgaaGreatDoorCon
import Derived.Test.YtpmjnpmnocjjgaaGreatDoorB32
import Derived.Test.YtpmjnpmnocjjgaaGreatDoorB40
import Derived.Deep.RegionHeld3
import Derived.Deep.DeepCutAuto
import Derived.LoopNIn
import Derived.LoopIn
import Derived.Test.YtpmjnpmnocjjgaaGreatDoorB2
import Derived.LaidEqlPtr
import Derived.Test.YtpmjnpmnocjjgaaGreatDoorB8
import Derived.Test.YtpmjnpmnocjjgaaGreatDoorB46
set_option maxHeartbeats 16000000
set_option maxRecDepth 20000
namespace Go.Proofs.YtpmjnpmnocjjgaaGreatDoor
open Go.RowKit
set_option linter.unusedVariables false
set_option linter.unusedSimpArgs false
structure Va (w A:World) (H lb t:Nat) (v:Value) (m:Nat) (xs:List Value):Prop where
 bel:Below w.heap.size w A
 box:A.cell? ⟨lb,3,none⟩=some v
 nf:A.frozen? ⟨lb,3,none⟩=false
 own:A.ownsRow H t 1 v m xs
 lo:w.heap.size≤lb
 hi:lb<H
section
variable {w A A':World} {H lb t m:Nat} {v:Value} {xs:List Value}
theorem Va.lt (h:Va w A H lb t v m xs):lb<A.heap.size:=cell_lt (a:=⟨lb,3,none⟩) h.box
theorem Va.isCells (h:Va w A H lb t v m xs):∀ b o,v.ownBlock=some b→A.heap[b]? =some o→o.isCells=true:=by
 intro b o hb ho
 rcases h.own.2 with⟨hv,_⟩|⟨g,cap,cur,hv,_,hg,_⟩
 · subst hv;cases hb
 · subst hv
   simp only[Value.ownBlock,Option.some.injEq] at hb
   subst hb
   rw[hg] at ho;cases ho;rfl
theorem Va.kx {B:Nat} (h:Va w A H lb t v m xs) (k:Kx B H A A') (hB:w.heap.size≤B) (hl:lb<B):Va w A' H lb t v m xs:=by
 refine⟨h.bel.trans (k.below.mono hB),(k.below.cell (p:=⟨lb,3,none⟩) hl).trans h.box,(k.below.frozen (p:=⟨lb,3,none⟩) hl).trans h.nf,⟨h.own.1,?_⟩,h.lo,h.hi⟩
 rcases h.own.2 with q|⟨g,cap,cur,hv,hb,hg,rest⟩
 · exact .inl q
 · exact .inr ⟨g,cap,cur,hv,hb,k.cells _ _ hg rfl hb,rest⟩
theorem Va.sm {B:Nat} (h:Va w A H lb t v m xs) (k:Sm B A A') (hB:w.heap.size≤B):Va w A' H lb t v m xs:=by
 refine⟨h.bel.trans (k.below.mono hB),k.cell h.box,k.frozen h.box h.nf,⟨h.own.1,?_⟩,h.lo,h.hi⟩
 rcases h.own.2 with q|⟨g,cap,cur,hv,hb,hg,rest⟩
 · exact .inl q
 · exact .inr ⟨g,cap,cur,hv,hb,k.cells _ _ hg rfl,rest⟩
theorem Va.on (h:Va w A H lb t v m xs) (k:Below A.heap.size A A'):Va w A' H lb t v m xs:=by
 refine⟨h.bel.trans (k.mono h.bel.size),(k.cell (p:=⟨lb,3,none⟩) h.lt).trans h.box,(k.frozen (p:=⟨lb,3,none⟩) h.lt).trans h.nf,⟨h.own.1,?_⟩,h.lo,h.hi⟩
 rcases h.own.2 with q|⟨g,cap,cur,hv,hb,hg,rest⟩
 · exact .inl q
 · exact .inr ⟨g,cap,cur,hv,hb,(k.block _ (Array.getElem?_eq_some_iff.1 hg).1).trans hg,rest⟩
theorem Va.push (h:Va w A H lb t v m xs) {Y w7:World} (hE:Below A.heap.size A Y) (hg:Y.grownBy w7 v.ownBlock) {v':Value} {m':Nat} {xs':List Value} (ho:w7.ownsRow H t 1 v' m' xs'):
 (w7.cell? ⟨lb,3,none⟩=some v∧w7.frozen? ⟨lb,3,none⟩=false)∧Va w (w7.setCell ⟨lb,3,none⟩ v') H lb t v' m' xs'∧Fr (fun b=>b=lb∨H≤b) A (w7.setCell ⟨lb,3,none⟩ v'):=by
 have h7:=h.on hE
 have hlo:∀ b,v.ownBlock=some b→H≤b:=fun b e=>(World.ownsRow.lt h7.own b e).1
 have hF7:Fr (fun b=>v.ownBlock=some b) Y w7:=Fr.grown hg (fun b e=>e) h7.isCells
 have hi:=h.hi
 have nlb:¬ (v.ownBlock=some lb):=fun e=>by have:=hlo _ e;omega
 have c:=(hF7.cell (p:=⟨lb,3,none⟩) h7.lt nlb).trans h7.box
 have f:=(hF7.frozen (p:=⟨lb,3,none⟩) h7.lt nlb).trans h7.nf
 have hF:Fr (fun b=>b=lb∨H≤b) A (w7.setCell ⟨lb,3,none⟩ v'):=((Fr.of_below hE).trans (hF7.mono (fun _ _ e=> .inr (hlo _ e)))).trans (Fr.setCell (p:=⟨lb,3,none⟩) (.inl rfl) _)
 have hlo':=h.lo
 refine⟨⟨c,f⟩,⟨h.bel.trans (hF.below h.bel.size (fun b e=>e.elim (fun e=>by omega) (fun e=>by omega))),?_,?_,⟨ho.1,?_⟩,h.lo,h.hi⟩,hF⟩
 · rw[cset_map,c];rfl
 · rw[World.frozen?_setCell];exact f
 · rcases ho.2 with q|⟨g,cap,cur,hv,hb,hg,rest⟩
   · exact .inl q
   · exact .inr ⟨g,cap,cur,hv,hb,(Below.heap_setCell w7 ⟨lb,3,none⟩ v' g (by show ¬ g=lb;omega)).trans hg,rest⟩
end
theorem But.upM {w A A':World} {lb B:Nat} (h:But lb w A) (K:Below B A A') (hB:w.heap.size≤B):But lb w A':=
 ⟨K.os.trans h.os,K.tape.trans h.tape,K.output.trans h.output,Nat.le_trans h.size K.size,fun k hk hn=>(K.block k (by omega)).trans (h.block k hk hn)⟩
theorem But.frM {w A A':World} {lb:Nat} {X:Nat→Prop} (h:But lb w A) (K:Fr X A A') (hX:∀ b,X b→b=lb∨w.heap.size≤b):But lb w A':=
 ⟨K.os.trans h.os,K.tape.trans h.tape,K.output.trans h.output,Nat.le_trans h.size K.size,fun k hk hn=>(K.block k (by have:=h.size;omega) (fun e=>(hX k e).elim hn (fun e=>by omega))).trans (h.block k hk hn)⟩
structure Mf (A:World) (mb cb:Nat) (g:Int) (sv:Value):Prop where
 f0:A.cell? ⟨mb,0,none⟩=some (.pointer (some ⟨cb,0,none⟩))
 f1:A.cell? ⟨mb,1,none⟩=some (.int .i64 g)
 f2:A.cell? ⟨mb,2,none⟩=some sv
 f4:A.cell? ⟨mb,4,none⟩=some (.pointer none)
 f5:A.cell? ⟨mb,5,none⟩=some (.slice none 0 0)
 g4:A.frozen? ⟨mb,4,none⟩=false
 g5:A.frozen? ⟨mb,5,none⟩=false
theorem Mf.bl {A A':World} {mb cb B:Nat} {g:Int} {sv:Value} (h:Mf A mb cb g sv) (k:Below B A A') (hB:mb<B):Mf A' mb cb g sv:=
 ⟨(k.cell (p:=⟨mb,0,none⟩) hB).trans h.f0,(k.cell (p:=⟨mb,1,none⟩) hB).trans h.f1,(k.cell (p:=⟨mb,2,none⟩) hB).trans h.f2,(k.cell (p:=⟨mb,4,none⟩) hB).trans h.f4,(k.cell (p:=⟨mb,5,none⟩) hB).trans h.f5,(k.frozen (p:=⟨mb,4,none⟩) hB).trans h.g4,(k.frozen (p:=⟨mb,5,none⟩) hB).trans h.g5⟩
theorem Mf.sm {A A':World} {mb cb B:Nat} {g:Int} {sv:Value} (h:Mf A mb cb g sv) (k:Sm B A A'):Mf A' mb cb g sv:=
 ⟨k.cell h.f0,k.cell h.f1,k.cell h.f2,k.cell h.f4,k.cell h.f5,k.frozen h.f4 h.g4,k.frozen h.f5 h.g5⟩
theorem Mf.fr {A A':World} {mb cb:Nat} {g:Int} {sv:Value} {X:Nat→Prop} (h:Mf A mb cb g sv) (k:Fr X A A') (hX:¬ X mb):Mf A' mb cb g sv:=
 have hl:mb<A.heap.size:=cell_lt (a:=⟨mb,0,none⟩) h.f0
 ⟨(k.cell (p:=⟨mb,0,none⟩) hl hX).trans h.f0,(k.cell (p:=⟨mb,1,none⟩) hl hX).trans h.f1,(k.cell (p:=⟨mb,2,none⟩) hl hX).trans h.f2,(k.cell (p:=⟨mb,4,none⟩) hl hX).trans h.f4,(k.cell (p:=⟨mb,5,none⟩) hl hX).trans h.f5,(k.frozen (p:=⟨mb,4,none⟩) hl hX).trans h.g4,(k.frozen (p:=⟨mb,5,none⟩) hl hX).trans h.g5⟩
theorem Mf.set {A:World} {mb cb:Nat} {g:Int} {sv v:Value} (h:Mf A mb cb g sv):Mf (A.setCell ⟨mb,3,none⟩ v) mb cb g sv:=by
 have hset:=cset_map
 obtain⟨f0,f1,f2,f4,f5,g4,g5⟩:=h
 exact⟨by go_simp,by go_simp,by go_simp,by go_simp,by go_simp,by go_simp,by go_simp⟩
theorem step_pushS {P:Program} {w:World} {ops:Array Oper} {o:Oper} {a:Act} {K:Act→World→Prop} {Q:Exit→Act→World→Prop} {E:Prop} (hgd:o.guard=none) (s x:Operand) (t:TypeId)
 (ho:o.op= .call {callee:= .builtin .append,args:= #[s,x],argTypes:= #[t,t]}) (e bytes:Nat) (z:Value) (ht:P.underlying t=some (.slice e)) (hinfo:(P.info? e).map (fun i=>(i.zero,i.size,i.bytes))=some (some z,1,bytes)) (hzs:z.cells.size=1) (hby:bytes≤24)
 (base:Nat) (v:Value) (m:Nat) (xs:List Value) (hs:a.eval s=v) (h:w.ownsRow base e 1 v m xs) (b:Nat) (hx:a.eval x= .slice (some ⟨b,0,none⟩) 1 1) (u:Value) (hu:w.cell? ⟨b,0,none⟩=some u) (h1:u.oneCell'=true) (hn:m≤1048576) (hbase:base≤w.heap.size)
 (hK:∀ g' c' w',w'.ownsRow base e 1 (.slice (some ⟨g',0,none⟩) (m+1) c') (m+1) (xs++[u])→w.grownBy w' v.ownBlock→K (a.put o.dst (.slice (some ⟨g',0,none⟩) (m+1) c')) w'):
 if Region.wanted o (yielded ops a.tmps)=true then Oper.wp P o a w K Q else E:=by
 obtain⟨i,hi,hzz⟩:=Option.map_eq_some_iff.1 hinfo
 simp only[Prod.mk.injEq] at hzz
 obtain⟨hz,hsz,hb8⟩:=hzz
 refine step_append_lies w hgd s x t ho base e i z 1 bytes ht hi hz hsz hb8 hzs (by decide) v m xs hs h ⟨b,0,none⟩ 1 1 [u] hx rfl ?_ ?_ (by decide) (by unfold maxLen;omega) ?_ hbase _ rfl ?_
 · intro j v hv
   cases j with
   |zero=>simp at hv;subst hv;exact hu
   |succ j=>simp at hv
 · intro v hv;simp at hv;rw[hv];exact h1
 · have:(m+1)*bytes≤(m+1)*24:=Nat.mul_le_mul_left _ hby
   omega
 · intro g' cap' w' r1 r2 _ _
   exact hK g' cap' w' r1 r2
theorem infoHs:(Tryz.prog.info? 49).map (fun i=>(i.zero,i.size,i.bytes))=some (some (.slice none 0 0),1,24):=by kernel_rfl
theorem memL_filter (L:Nat→Nat) (i:Nat):∀ n,memL L i n=(List.range n).filter fun j=>decide (L j=i)
 |0=>rfl
 | n+1=>by
   rw[memL,memL_filter L i n,List.range_succ,List.filter_append]
   congr 1
   by_cases e:L n=i<;>simp[List.filter,e]
theorem memL_G {fx:Nat→Bool} {L:Nat→Nat} {G:Nat→Int} {n i k:Nat} (hT:Tops fx L) (hG:∀ j,j<n→G j=gnum fx L j) (hf:fstB fx L i=true) (hk:cntp (fstB fx L) i=k):memL L i n=memG G n k:=by
 rw[memL_filter]
 unfold memG
 apply List.filter_congr
 intro j hj
 rw[List.mem_range] at hj
 have hfi:fx i=false:=by
  unfold fstB at hf
  cases h:fx i with
  |false=>rfl
  |true=>rw[h] at hf;cases hf
 rw[hG j hj]
 refine decide_eq_decide.2 ?_
 unfold gnum
 constructor
 · intro h
   have hx:fx j=false:=by rw[←hT.fx,h];exact hfi
   rw[if_neg (by rw[hx];simp),h,hk]
 · intro h
   by_cases hx:fx j=true
   · rw[if_pos hx] at h;omega
   · rw[if_neg hx] at h
     exact cntp_inj _ (hT.fst (by simpa using hx)) hf (by omega)
theorem row_ne {w:World} {B1 B2 t1 t2 k1 k2 n1 n2:Nat} {v1 v2:Value} {x1 x2:List Value} (h1:w.ownsRow B1 t1 k1 v1 n1 x1) (h2:w.ownsRow B2 t2 k2 v2 n2 x2) (ht:t1≠t2):∀ b,v1.ownBlock=some b→¬ v2.ownBlock=some b:=fun b e1 e2=>by
 rcases h1.2 with⟨q,_⟩|⟨g,c,cur,hv,_,hb,_⟩
 · rw[q] at e1;cases e1
 · rcases h2.2 with⟨q2,_⟩|⟨g2,c2,cur2,hv2,_,hb2,_⟩
   · rw[q2] at e2;cases e2
   · rw[hv] at e1
     rw[hv2] at e2
     simp[Value.ownBlock] at e1 e2
     subst e1
     subst e2
     rw[hb] at hb2
     simp at hb2
     exact ht hb2.2
def AwQ (A:World) (H cb:Nat) (G:Nat→Int) (n:Nat) (vs:List Value) (gs:List Nat):Prop:=vs.length=gs.length∧∀ q (h:q<vs.length) (h':q<gs.length),HL A H cb vs[q] (memG G n gs[q])
theorem AwQ.map {A A':World} {H cb n:Nat} {G:Nat→Int} {vs:List Value} {gs:List Nat} (h:AwQ A H cb G n vs gs) (k:∀ vq l,HL A H cb vq l→HL A' H cb vq l):AwQ A' H cb G n vs gs:=⟨h.1,fun q h1 h2=>k _ _ (h.2 q h1 h2)⟩
theorem AwQ.push {A A':World} {H cb n t:Nat} {G:Nat→Int} {vs:List Value} {gs:List Nat} {u:Value} (h:AwQ A H cb G n vs gs) (k:∀ vq l,HL A H cb vq l→HL A' H cb vq l) (hu:HL A' H cb u (memG G n t)):AwQ A' H cb G n (vs++[u]) (gs++[t]):=by
 refine⟨by simp[h.1],fun q h1 h2=> ?_⟩
 rw[List.length_append] at h1 h2
 by_cases e:q<vs.length
 · rw[List.getElem_append_left e,List.getElem_append_left (by rw[←h.1];exact e)]
   exact k _ _ (h.2 q e (by rw[←h.1];exact e))
 · simp only[List.length_cons,List.length_nil] at h1 h2
   have e1:q=vs.length:=by omega
   subst e1
   rw[List.getElem_append_right (Nat.le_refl _),List.getElem_append_right (by rw[h.1];exact Nat.le_refl _)]
   simp only[h.1,Nat.sub_self,List.getElem_cons_zero]
   exact hu
theorem aw_of {A:World} {H B cb n:Nat} {G:Nat→Int} {v:Value} {vs:List Value} {gs:List Nat} (h:A.ownsRow H 49 1 v vs.length vs) (hq:AwQ A H cb G n vs gs) (hB:B≤H):AwL A B cb v G n gs:=by
 have hl:=hq.1
 rcases h.2 with⟨q,h0⟩|⟨g,c,cur,hv,hb,hg,_⟩
 · refine⟨none,0,?_,fun q h=> ?_⟩
   · rw[←hl,h0];exact q
   · omega
 · have hv':v= .slice (some ⟨g,0,none⟩) vs.length c:=by first|exact hv|(cases hv;rfl)
   refine⟨some ⟨g,0,none⟩,c,by rw[←hl];exact hv',fun q h1=> ?_⟩
   have hqv:q<vs.length:=by omega
   refine⟨g,0,vs[q],rfl,by omega,(Array.getElem?_eq_some_iff.1 hg).1,?_,(hq.2 q hqv h1).base hB⟩
   have:=World.ownsRow.cells (hv'▸h) (g:=g) rfl q vs[q] (List.getElem?_eq_getElem hqv)
   rw[Addr.add_lit] at this
   exact this
end Go.Proofs.YtpmjnpmnocjjgaaGreatDoor
namespace Go.Proofs.YtpmjnpmnocjjgaaGreatDoor
open Go.RowKit
set_option linter.unusedVariables false
set_option linter.unusedSimpArgs false
theorem kRestless {cb n k:Nat} {V:Nat→Int} {G:Nat→Nat} {w:World} (h:HAt w cb n k V G) (b:Bool) (e:(V 11 !=7)=b):
 Calls Tryz.prog 143 #[hdk cb k] w fun e w'=>e= .returned (.bool b)∧Below w.heap.size w w':=by
 have hset:=cset_map
 have hE:Below w.heap.size w (w.alloc (.cells #[.int .i64 (k:Int),.pointer (some ⟨cb,0,none⟩)] 76)):=(Below.refl _ _).alloc (Nat.le_refl _) _
 have h':=h.below hE
 subst e
 go_enter Tryz.func143,Tryz.ntmps143
 go_wp2_with (go_at_call 80;refine(kQuiet h').mono ?_;rintro e w1 ⟨rfl,hb1⟩)
 go_ret
 exact⟨rfl,hE.trans (hb1.mono hE.size)⟩
theorem indexFunc_any {cb n base:Nat} {C:Nat→Nat→Int} {S:Nat→Value} {v:Value} {ms:List Nat} (w:World) (hC:Cs w cb n C S) (h:HL w base cb v ms) (hl:∀ j,j∈ms→j<n) (hn:n≤12) (hms:ms.length≤12) (b:Bool) (hb:ms.any (fun j=>C 11 j !=7)=b):
 Calls Tryz.prog 158 #[v,(.func (.func 143) #[] #[])] w fun e w'=>(∃ r:Int,e= .returned (.int .i64 r)∧decide (0≤r)=b)∧Below w.heap.size w w':=by
 have hset:=cset_map
 obtain⟨ad,cc,rfl⟩:=h.is
 go_enter Tryz.func158,Tryz.ntmps158
 go_upto_region 2 with fail
 go_loopw [8,5] (fun s _ wr=>∃ q:Nat,q≤ms.length∧s= .int .i64 (q:Int)∧(ms.take q).any (fun j=>C 11 j !=7)=false∧Below w.heap.size w wr) (fun s _ _=>ms.length-(intOf s).toNat)
 case atStart=>exact⟨0,Nat.zero_le _,rfl,rfl,Below.refl _ _⟩
 case round=>
  obtain⟨q,hq,rfl,hno,hB⟩:=hrel
  by_cases hlt:q<ms.length
  · obtain⟨g,rfl⟩:∃ g,ad=some ⟨g,0,none⟩:=by
     rcases h.2 with⟨q1,q2⟩|⟨g,c,cur,hv,-⟩
     · omega
     · cases hv;exact⟨_,rfl⟩
    have hw:=h.below hB
    obtain⟨c0,c1⟩:=hw.cells hlt
    obtain⟨r,hr⟩:∃ r,ms[q]=r:=⟨_,rfl⟩
    rw[hr] at c0
    have hrn:r<n:=hl r (hr▸List.getElem_mem hlt)
    have hqi:(q:Int)<(ms.length:Int):=by omega
    have hCw:=hC.below hB
    obtain⟨sb,hsr⟩:∃ s,(C 11 r !=7)=s:=⟨_,rfl⟩
    have htk:Shut ((ms.take (q+1)).any (fun j=>C 11 j !=7)=sb):=by
     unfold Shut
     rw[List.take_succ_eq_append_getElem hlt,List.any_append,hno,hr];simp[hsr]
    cases sb with
    | false=>
      go_wp2_with (go_at_call 143;refine(kRestless (Cs.hat hCw hrn (by omega)) false hsr).mono ?_;rintro e w1 ⟨rfl,hb1⟩)
      go_roundw
      case rel=>exact⟨q+1,by omega,by go_num,htk.out,hB.trans (hb1.mono hB.size)⟩
      case measure=>simp[intOf];omega
    | true=>
      obtain rfl:true=b:=by
       rw[←hb,eq_comm,List.any_eq_true]
       exact⟨r,hr▸List.getElem_mem hlt,hsr⟩
      go_wp2_with (go_at_call 143;refine(kRestless (Cs.hat hCw hrn (by omega)) true hsr).mono ?_;rintro e w1 ⟨rfl,hb1⟩)
      go_ret
      exact⟨⟨_,rfl,decide_eq_true (by omega)⟩,hB.trans (hb1.mono hB.size)⟩
  · obtain rfl:q=ms.length:=by omega
    rw[List.take_length,hb] at hno
    subst hno
    go_wp2
    go_ret
    exact⟨⟨_,rfl,rfl⟩,hB⟩
theorem containsFunc_any {cb n base:Nat} {C:Nat→Nat→Int} {S:Nat→Value} {v:Value} {ms:List Nat} (w:World) (hC:Cs w cb n C S) (h:HL w base cb v ms) (hl:∀ j,j∈ms→j<n) (hn:n≤12) (hms:ms.length≤12) (b:Bool) (hb:ms.any (fun j=>C 11 j !=7)=b):
 Calls Tryz.prog 142 #[v,(.func (.func 143) #[] #[])] w fun e w'=>e= .returned (.bool b)∧Below w.heap.size w w':=by
 have hset:=cset_map
 go_enter Tryz.func142,Tryz.ntmps142
 go_wp2_with (go_at_call 158;refine(indexFunc_any w hC h hl hn hms b hb).mono ?_;rintro e w1 ⟨⟨r,rfl,hr⟩,hb1⟩)
 go_ret
 exact⟨by first|(simp[hr];done)|(rw[hr]),hb1⟩
theorem run_eq_han (n d:Nat) (hn:n=d+1) (a x:Int) (cb:Nat) (w:World):(Op.equalIn (n+1) 76 (.agg #[.int .i64 a,.pointer (some ⟨cb,0,none⟩)]) (.agg #[.int .i64 x,.pointer (some ⟨cb,0,none⟩)])).run Tryz.prog w= .ok (a==x) w:=by
 have hi:Tryz.prog.underlying 74=some (.int .i64):=by kernel_rfl
 have hs:Tryz.prog.stoodInHeld 76=false:=by kernel_rfl
 have hp:∀ w,(program).run Tryz.prog w= .ok Tryz.prog w:=fun w=>by rfl
 have p0:∀ (a:Int) w,(part 74 #[.int .i64 a,.pointer (some ⟨cb,0,none⟩)] 0).run Tryz.prog w= .ok (.int .i64 a) w:=fun a w=>by kernel_rfl
 have p1:∀ (a:Int) w,(part 45 #[.int .i64 a,.pointer (some ⟨cb,0,none⟩)] 1).run Tryz.prog w= .ok (.pointer (some ⟨cb,0,none⟩)) w:=fun a w=>by kernel_rfl
 simp only[Op.equalIn,Sem.run_bind,run_underlying Tryz.underlying76,Result.andThen_ok,hp,hs,Bool.false_eq_true,if_false,Sem.run_pure]
 subst hn
 have h0:∀ w,(Op.equalIn (d+1) 74 (.int .i64 a) (.int .i64 x)).run Tryz.prog w= .ok (a==x) w:=fun w=>run_equalIn_int w d 74 .i64 .i64 a x hi
 have h1:∀ w,(Op.equalIn (d+1) 45 (.pointer (some ⟨cb,0,none⟩)) (.pointer (some ⟨cb,0,none⟩))).run Tryz.prog w= .ok true w:=fun w=>by
  simp only[Op.equalIn,Sem.run_bind,run_underlying Tryz.underlying45,Result.andThen_ok]
  have hz:(sizeOf 81).run Tryz.prog w= .ok 12 w:=by kernel_rfl
  simp[Sem.run_bind,hz,run_sameAddr_same]
 simp only[List.forIn_toArray,List.forIn_cons,List.forIn_nil,Sem.run_bind,p0,h0,Result.andThen_ok,Sem.run_ite,Sem.run_pure]
 cases hx:(a==x)<;>simp[Sem.run_bind,p0,p1,h0,h1,Sem.run_ite,hx]
theorem eq_han0 (a x:Int) (cb:Nat) (w:World):(Op.equalIn 10000 76 (.agg #[.int .i64 a,.pointer (some ⟨cb,0,none⟩)]) (.agg #[.int .i64 x,.pointer (some ⟨cb,0,none⟩)])).run Tryz.prog w= .ok (a==x) w:=run_eq_han 9999 9998 rfl a x cb w
end Go.Proofs.YtpmjnpmnocjjgaaGreatDoor
namespace Go.Proofs.YtpmjnpmnocjjgaaGreatDoor
open Go.RowKit
set_option linter.unusedVariables false
set_option linter.unusedSimpArgs false
def bolL (m:Nat) (R:Nat→Bool):List Value:=(List.range m).map fun q=>Value.bool (R q)
theorem bolL_len (m:Nat) (R:Nat→Bool):(bolL m R).length=m:=by simp[bolL]
theorem bolL_get {m:Nat} {R:Nat→Bool} {q:Nat} (h:q<m):(bolL m R)[q]? =some (.bool (R q)):=by simp[bolL,h]
theorem BV_bol {l:List Bool} {n:Nat} (h:l.length=n):BV l=bolL n (fun j=>l.getD j false):=by
 apply List.ext_getElem?
 intro j
 by_cases e:j<n
 · rw[BV_get (by omega),bolL_get e]
 · rw[List.getElem?_eq_none (by rw[BV_len];omega),List.getElem?_eq_none (by rw[bolL_len];omega)]
def OwnB (w:World) (base:Nat) (v:Value) (n:Nat) (R:Nat→Bool):Prop:=w.ownsRow base 4 1 v n (bolL n R)
theorem OwnB.base {w:World} {b B n:Nat} {v:Value} {R:Nat→Bool} (h:OwnB w b v n R) (hB:B≤b):OwnB w B v n R:=by
 refine⟨h.1,?_⟩
 rcases h.2 with q|⟨g,cap,cur,hv,hb,rest⟩
 · exact .inl q
 · exact .inr ⟨g,cap,cur,hv,by omega,rest⟩
section
variable {w w':World} {base n g c:Nat} {v:Value} {R:Nat→Bool} {a:Option Addr}
theorem OwnB.nil (w:World) (base:Nat) (R:Nat→Bool):OwnB w base (.slice none 0 0) 0 R:=World.ownsRow_nil w base _ _
theorem OwnB.loc (h:OwnB w base (.slice a n c) n R) (h0:0<n):∃ g,a=Option.some ⟨g,0,none⟩∧base≤g∧g<w.heap.size:=by
 rcases h.2 with⟨hv,hn⟩|⟨g,cap,cur,hv,hb,hg,_⟩
 · omega
 · simp only[Value.slice.injEq,true_and] at hv
   exact⟨g,hv.1,hb,(Array.getElem?_eq_some_iff.1 hg).1⟩
theorem OwnB.cellq (h:OwnB w base (.slice (Option.some ⟨g,0,none⟩) n c) n R) {q:Nat} (hq:q<n):w.cell? ⟨g,q,none⟩=Option.some (.bool (R q)):=by
 rw[World.ownsRow.cellAt h q (by omega),bolL_get hq]
theorem OwnB.flat (h:OwnB w base (.slice a n c) n R):FlatB w a n R:=by
 intro h0
 obtain⟨g,rfl,_,hl⟩:=h.loc h0
 exact⟨g,0,rfl,hl,fun j hj=>by rw[Nat.zero_add];exact h.cellq hj⟩
end
structure OutB (w w':World) (a:Option Addr) (n c:Nat) (R:Nat→Bool):Prop where
 bel:Below w.heap.size w w'
 own:OwnB w' w.heap.size (.slice a n c) n R
theorem OutB.up {w w' w0:World} {n c:Nat} {a:Option Addr} {R:Nat→Bool} (h:OutB w w' a n c R) (hb:Below w0.heap.size w0 w):OutB w0 w' a n c R:=⟨hb.trans (h.bel.mono hb.size),h.own.base hb.size⟩
end Go.Proofs.YtpmjnpmnocjjgaaGreatDoor
