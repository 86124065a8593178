/- Texts of a proof. -/
import Derived.Test.YtpmjnpmnocjjgaaGreatDoorB41
import Derived.Test.YtpmjnpmnocjjgaaGreatDoorB46
import Derived.Deep.RegionHeld3
import Derived.Deep.DeepCutAuto
import Derived.Test.YtpmjnpmnocjjgaaGreatDoorB47
import Derived.Test.YtpmjnpmnocjjgaaGreatDoorB6
import Derived.Test.YtpmjnpmnocjjgaaGreatDoorB14
import Derived.Test.YtpmjnpmnocjjgaaGreatDoorB7
import Derived.LoopNIn
import Derived.LoopIn
import Derived.OwnWalkIn
set_option maxHeartbeats 16000000
set_option maxRecDepth 20000
namespace Go.Proofs.YtpmjnpmnocjjgaaGreatDoor
open Go.RowKit
set_option linter.unusedVariables false
set_option linter.unusedSimpArgs false
section
attribute [local go_sem] Oper.semAt_some
theorem move_any (mb cb n:Nat) (rb m:Nat) (C:Nat→Int) (U:Nat→Int) (S:Nat→Value) (w:World) (hC:Cs w cb n (colOf U) S) (hm0:w.cell? ⟨mb,0,none⟩=some (.pointer (some ⟨cb,0,none⟩))) (hm4:w.cell? ⟨mb,4,none⟩=some (.pointer (some ⟨rb,0,none⟩))) (hrv:Rv w rb m cb C) (hm:m≤1048576) (ct:CtOk n m C) (hcr:cb<rb) (hxr:∀ b,Xc S b→b<rb) (hmx:¬ Xc S mb) (hn:n≤12) (hbb:Bods n U):
 Calls Tryz.prog 113 #[.pointer (some ⟨mb,0,none⟩)] w fun e w'=>e= .returned (.tuple #[])∧Cs w' cb n (colOf (apartN C (mapR (fun _ V=>goV V) U n) m)) S∧Fr (fun b=>Xc S b∨b=rb) w w':=by
 have hset:=cset_map
 refine calls_of_wp_marks Tryz.func113 rfl ?_
 simp only[Tryz.ntmps113,List.size_toArray,List.length_cons,List.length_nil,Nat.reduceAdd,Nat.reduceSub,Array.replicate_succ,Array.replicate_zero,List.push_toArray,List.append_toArray,List.nil_append,List.cons_append]
 have hxl:∀ b,Xc S b→b<w.heap.size:=fun b e=>(hC.xlt e).2
 have hml:mb<w.heap.size:=cell_lt (a:=⟨mb,0,none⟩) hm0
 obtain⟨w2,rfl⟩:∃ x,x=w:=⟨_,rfl⟩
 have hE0:Below w2.heap.size w2 w2:=Below.refl _ _
 have hz0:w2.heap.size≤w2.heap.size:=Nat.le_refl _
 have hC2:=hC.below hE0
 have m0:=keepL hE0 hm0
 have m4:=hm4
 have hml2:mb<w2.heap.size:=by omega
 have hFr0:Fr (Xc S) w2 w2:=Fr.of_below hE0
 go_wp2
 refine wp_range_outV (gf:=133) (bound:= #[.pointer (some ⟨mb,0,none⟩)]) rfl live_enters (live_it mb cb n w2 hn) (fun _=>rfl) (fun k V A=>V=mapR (fun _ V=>goV V) U k∧Cs A cb n (colOf V) S∧Fr (Xc S) w2 A) ?hI ?hcol U ⟨(mapR_0 _ _).symm,hC2,Fr.refl _ _⟩ ?hskip ?hround ?hdone
 case hI=>rintro k V A B ⟨h1,h2,h3⟩ hs;exact⟨h1,h2.sm hs,h3.sm hs (Nat.le_refl _)⟩
 case hcol=>rintro k V A ⟨h1,h2,h3⟩;exact⟨(h3.cell (p:=⟨mb,0,none⟩) hml2 hmx).trans m0,S,h2⟩
 case hskip=>
  rintro k V A ⟨rfl,h2,h3⟩ hk hl
  rw[lv_row hbb hk] at hl
  have hbk:BOk (fun j=>U (k*12+j)):=BOk.of (hbb.ok k hk)
  have e:mapR (fun _ V=>goV V) U (k+1)=mapR (fun _ V=>goV V) U k:=mapR_same fun j hj=>by
   show goV _ j=_
   rw[go_no hl]
  exact⟨e.symm,h2,h3⟩
 case hdone=>
  rintro D V A hD ⟨rfl,h2,h3⟩ hK
  obtain⟨hsB,-⟩:Bods n (mapR (fun _ V=>goV V) U n)∧True:=⟨hbb.go,trivial⟩
  have hA4:=(h3.cell (p:=⟨mb,4,none⟩) hml2 hmx).trans m4
  have hRA:=hrv.fr h3 (fun b hb e=>by have:=hxr _ e;omega)
  go_wp2_with (go_at_call 141;refine(moveApart_v hRA h2 hm (by omega) hsB ct hcr hxr).mono ?_;rintro e X9 ⟨rfl,hC9,hF9⟩)
  have hK9:=hF9.others.same _ _ hK rfl
  refine marks_ret (B:=w2.heap.size) hD rfl hK9 fun A' hS=>⟨_,results_none rfl _ _ _,rfl,hC9.sm hS,?_⟩
  exact((h3.mono (fun _ _ e=> .inl e)).trans hF9).sm hS (Nat.le_refl _)
 case hround=>
  rintro l k V A hl1 hl2 hA2 ⟨rfl,hCA,hFA⟩ hk hlv
  rw[lv_row hbb hk] at hlv
  have hbk:BOk (fun j=>U (k*12+j)):=BOk.of (hbb.ok k hk)
  have b4:=hbk.a4
  have b5:=hbk.a5
  have b6:=hbk.d6
  have b7:=hbk.d7
  have b8:=hbk.m8
  have b11:=hbk.q11
  (try simp only at b4 b5 b6 b7 b8 b11)
  simp only[List.zip_toArray,List.zip_cons_cons,List.zip_nil_left,List.foldl_toArray,List.foldl_cons,List.foldl_nil,List.setIfInBounds_toArray,List.set_cons_succ,List.set_cons_zero]
  refine wpIn_region_plain (by rintro⟨_,_,h⟩;exact h) (by kernel_rfl) ?_
  go_wp2
  refine⟨(KeepsOthers.alloc _ _).from _,fun A2 hS hKc hr=> ?_⟩
  clear hr
  have hE1:Below A.heap.size A (A.alloc (Obj.cells #[.int .i64 (k:Int),.pointer (some ⟨cb,0,none⟩)] 76)):=(Below.refl _ _).alloc (Nat.le_refl _) _
  have v0:(A.alloc (Obj.cells #[.int .i64 (k:Int),.pointer (some ⟨cb,0,none⟩)] 76)).cell? ⟨A.heap.size,0,none⟩=some (.int .i64 (k:Int)):=by go_simp
  have v1:(A.alloc (Obj.cells #[.int .i64 (k:Int),.pointer (some ⟨cb,0,none⟩)] 76)).cell? ⟨A.heap.size,1,none⟩=some (.pointer (some ⟨cb,0,none⟩)):=by go_simp
  generalize (A.alloc (Obj.cells #[.int .i64 (k:Int),.pointer (some ⟨cb,0,none⟩)] 76))=A1 at hE1 v0 v1 hS hKc
  have hCk:=(hCA.below hE1).sm hS
  have hFk:Fr (Xc S) w2 A2:=(hFA.trans (Fr.of_below hE1)).sm hS (Nat.le_refl _)
  have hKc2:Kcs (w2.heap.size+2) (fun _=>True) A A2:=(Kcs.of_below hE1).trans (hKc _ _ hl2)
  replace v0:=hS.cell v0
  replace v1:=hS.cell v1
  have hzb:w2.heap.size+2≤A.heap.size:=hA2
  clear hS hE1 hKc hCA hFA
  generalize A.heap.size=ba at v0 v1 hzb ⊢
  have hbal:ba<A2.heap.size:=cell_lt (a:=⟨ba,0,none⟩) v0
  have hbx:¬ Xc S ba:=fun e=>by have:=hxl _ e;omega
  have hat:=hCk.hat hk (by omega)
  rw[row_map] at hat
  have hmA0:=(hFk.cell (p:=⟨mb,0,none⟩) hml2 hmx).trans m0
  have hml3:mb<A2.heap.size:=cell_lt (a:=⟨mb,0,none⟩) hmA0
  refine wpIn_block ?_
  have hsp:=sp_bd (V:=fun j=>U (k*12+j)) b6 b7
  gi_upto_region 2 with fail
  refine wpIn_region_held_drew (S:=fun w'=>w'.cell? ⟨ba,0,none⟩=some (.int .i64 (k:Int))∧w'.cell? ⟨ba,1,none⟩=some (.pointer (some ⟨cb,0,none⟩))) (by kernel_rfl) (by rintro⟨_,_,h⟩;exact h) (by kernel_rfl) ?_ (fun hHeld=> ?_)
  · exact⟨v0,v1⟩
  refine tq 0 hHeld ?_
  refine tq 1 hHeld ?_
  refine tc 2 fun K hK=> ?_
  (go_simp;(go_at_call 140;refine(kSpeed (hat.below (Below.drew (Below.refl _ _))) b6 b7).mono ?_;rintro e w11 ⟨rfl,hb11⟩);(try go_wp2_with fail);refine tr hK (fun hHeld=> ?_) ⟨keepL hb11 hHeld.1,keepL hb11 hHeld.2⟩;clear hK K)
  refine tc 3 fun K hK=> ?_
  (go_simp;(go_at_call 139;refine(kMoveU (hCk.below (Below.ofDr hb11)) hk (by omega) (by rw[mapR_row];exact b4) (by rw[mapR_row];exact b5) _ _ hsp.1 hsp.2).mono ?_;rintro e X9 ⟨rfl,hC9,hF9⟩);(try go_wp2_with fail);refine tr hK (fun hHeld=> ?_) ⟨(hF9.cell (p:=⟨ba,0,none⟩) (cell_lt (a:=⟨ba,0,none⟩) hHeld.1) hbx).trans hHeld.1,(hF9.cell (p:=⟨ba,1,none⟩) (cell_lt (a:=⟨ba,0,none⟩) hHeld.1) hbx).trans hHeld.2⟩;clear hK K)
  refine wpAnyH_done (by kernel_rfl) ?_ _
  gi_wp2
  have hall:Fr (Xc S) A2 X9:=(Fr.of_below (Below.ofDr hb11)).trans hF9
  exact⟨hall.keeps _,⟨_,rfl,by
   have e1:mapR (fun _ V=>goV V) U (k+1)=putRow (mapR (fun _ V=>goV V) U k) k ((fun _ V=>goV V) k (fun j=>U (k*12+j))):=(mapR_set (fun _ V=>goV V) U k).symm
   rw[e1]
   show Cs X9 cb n (colOf (putRow _ k (goV (fun j=>U (k*12+j))))) S
   rw[go_yes hlv]
   have e2:(fun j=>mapR (fun _ V=>goV V) U k (k*12+j))=fun j=>U (k*12+j):=funext fun j=>mapR_row _ _ _ _
   rw[e2] at hC9
   exact hC9,hFk.trans hall⟩,hKc2.trans (Kcs.fr hall (fun b e=> .inl (by have:=hxl _ e;omega)))⟩
end
end Go.Proofs.YtpmjnpmnocjjgaaGreatDoor
namespace Go.Proofs.YtpmjnpmnocjjgaaGreatDoor
open Go.RowKit
set_option linter.unusedVariables false
set_option linter.unusedSimpArgs false
theorem index_any {cb base:Nat} {v:Value} {ms:List Nat} (k:Nat) (w:World) (h:HL w base cb v ms) (hms:ms.length≤12):
 Calls Tryz.prog 85 #[v,hdk cb k] w fun e w'=>(∃ r:Int,e= .returned (.int .i64 r)∧decide (0≤r)=decide (k∈ms))∧Below w.heap.size w w':=by
 have hset:=cset_map
 obtain⟨ad,cc,rfl⟩:=h.is
 have hE:Below w.heap.size w (w.alloc (Obj.cells #[.int .i64 (k:Int),.pointer (some ⟨cb,0,none⟩)] 76)):=(Below.refl _ _).alloc (Nat.le_refl _) _
 have v0:(w.alloc (Obj.cells #[.int .i64 (k:Int),.pointer (some ⟨cb,0,none⟩)] 76)).cell? ⟨w.heap.size,0,none⟩=some (.int .i64 (k:Int)):=by go_simp
 have v1:(w.alloc (Obj.cells #[.int .i64 (k:Int),.pointer (some ⟨cb,0,none⟩)] 76)).cell? ⟨w.heap.size,1,none⟩=some (.pointer (some ⟨cb,0,none⟩)):=by go_simp
 have hz:(w.alloc (Obj.cells #[.int .i64 (k:Int),.pointer (some ⟨cb,0,none⟩)] 76)).heap.size=w.heap.size+1:=by simp
 have h1:=h.below hE
 go_enter Tryz.func85,Tryz.ntmps85
 go_upto_region 2 with fail
 generalize (w.alloc (Obj.cells #[.int .i64 (k:Int),.pointer (some ⟨cb,0,none⟩)] 76))=w1 at hE v0 v1 hz h1 ⊢
 go_loopw [8] (fun s wr=>∃ q:Nat,q≤ms.length∧s= .int .i64 (q:Int)∧k ∉ ms.take q∧Below w1.heap.size w1 wr) (fun s _=>ms.length-(intOf s).toNat)
 case atStart=>exact⟨0,Nat.zero_le _,rfl,by simp,Below.refl _ _⟩
 case round=>
  obtain⟨q,hq,rfl,hno,hB⟩:=hrel
  have b0:=(hB.cell (p:=⟨w.heap.size,0,none⟩) (by show w.heap.size<w1.heap.size;omega)).trans v0
  have b1:=(hB.cell (p:=⟨w.heap.size,1,none⟩) (by show w.heap.size<w1.heap.size;omega)).trans v1
  by_cases hlt:q<ms.length
  · obtain⟨g,c,he,-,-⟩:=h1.some (by omega)
    cases he
    obtain⟨c0,c1⟩:=(h1.below hB).cells hlt
    obtain⟨r,hr⟩:∃ r,ms[q]=r:=⟨_,rfl⟩
    rw[hr] at c0
    have hqi:(q:Int)<(ms.length:Int):=by omega
    have hev:=eq_han0 (k:Int) (r:Int) cb
    by_cases he:k=r
    · have he2:((k:Int)==(r:Int))=true:=beq_iff_eq.2 (by omega)
      have hin:k∈ms:=by rw[he,←hr];exact List.getElem_mem hlt
      rw[he2] at hev
      clear he he2
      go_upto_region 4 with fail
      refine wp_region_held_drew (S:=fun w'=>w'.cell? ⟨w.heap.size,0,none⟩=some (.int .i64 (k:Int))∧w'.cell? ⟨w.heap.size,1,none⟩=some (.pointer (some ⟨cb,0,none⟩))∧w'.cell? ⟨g,q*2,none⟩=some (.int .i64 (r:Int))∧w'.cell? ⟨g,q*2+1,none⟩=some (.pointer (some ⟨cb,0,none⟩))) (by kernel_rfl) ?_ (fun hHeld=> ?_)
      · (try dsimp only)
        (first|(go_simp;done)|(go_keep;done))
      refine tq 0 hHeld ?_
      refine tq 1 hHeld ?_
      refine tq 2 hHeld ?_
      refine tq 3 hHeld ?_
      refine tq 4 hHeld ?_
      refine tq 5 hHeld ?_
      refine wpAnyH_done (by kernel_rfl) ?_ _
      go_wp2_with fail
      go_ret
      exact⟨⟨_,rfl,by rw[decide_eq_true hin,decide_eq_true (by omega)]⟩,hE.trans ((hB.mono (by omega)).drew)⟩
    · have he2:((k:Int)==(r:Int))=false:=beq_eq_false_iff_ne.2 (by omega)
      rw[he2] at hev
      clear he2
      go_upto_region 4 with fail
      refine wp_region_held_drew (S:=fun w'=>w'.cell? ⟨w.heap.size,0,none⟩=some (.int .i64 (k:Int))∧w'.cell? ⟨w.heap.size,1,none⟩=some (.pointer (some ⟨cb,0,none⟩))∧w'.cell? ⟨g,q*2,none⟩=some (.int .i64 (r:Int))∧w'.cell? ⟨g,q*2+1,none⟩=some (.pointer (some ⟨cb,0,none⟩))) (by kernel_rfl) ?_ (fun hHeld=> ?_)
      · (try dsimp only)
        (first|(go_simp;done)|(go_keep;done))
      refine tq 0 hHeld ?_
      refine tq 1 hHeld ?_
      refine tq 2 hHeld ?_
      refine tq 3 hHeld ?_
      refine tq 4 hHeld ?_
      refine tq 5 hHeld ?_
      refine wpAnyH_done (by kernel_rfl) ?_ _
      go_wp2_with fail
      go_roundw
      case rel=>exact⟨q+1,by omega,by go_num,by rw[List.take_succ_eq_append_getElem hlt,List.mem_append,List.mem_singleton,hr];exact fun x=>x.elim hno he,hB.drew⟩
      case measure=>simp[intOf];omega
  · obtain rfl:q=ms.length:=by omega
    rw[List.take_length] at hno
    go_wp2_with fail
    go_ret
    exact⟨⟨_,rfl,by rw[decide_eq_false hno];rfl⟩,hE.trans (hB.mono (by omega))⟩
theorem contains_any {cb base:Nat} {v:Value} {ms:List Nat} (k:Nat) (w:World) (h:HL w base cb v ms) (hms:ms.length≤12) (b:Bool) (hb:decide (k∈ms)=b):
 Calls Tryz.prog 47 #[v,hdk cb k] w fun e w'=>e= .returned (.bool b)∧Below w.heap.size w w':=by
 have hset:=cset_map
 go_enter Tryz.func47,Tryz.ntmps47
 go_wp2_with (go_at_call 85;refine(index_any k _ (h.below ((Below.refl _ _).alloc (Nat.le_refl _) _)) hms).mono ?_;rintro e w1 ⟨⟨r,rfl,hr⟩,hb1⟩;rw[hb] at hr)
 go_ret
 have k1:=((Below.refl w.heap.size w).alloc (Nat.le_refl _) (Obj.cells #[.int .i64 (k:Int),.pointer (some ⟨cb,0,none⟩)] 76)).trans (hb1.mono (by simp))
 exact⟨by rw[←hr];simp,k1⟩
end Go.Proofs.YtpmjnpmnocjjgaaGreatDoor
namespace Go.Proofs.YtpmjnpmnocjjgaaGreatDoor
open Go.RowKit
set_option linter.unusedVariables false
set_option linter.unusedSimpArgs false
def selL (p:Nat→Bool):Nat→List Nat
 |0=>[]
 |k+1=>selL p k++(if p k=true then [k] else [])
theorem selL_le (p:Nat→Bool):∀ k,(selL p k).length≤k
 |0=>Nat.le_refl _
 | k+1=>by
   have:=selL_le p k
   rw[selL,List.length_append]
   split<;>simp<;>omega
def selC (C:Nat→Nat→Int) (l:List Nat):Nat→Nat→Int:=fun i j=>C i (l.getD j 0)
theorem selC_snoc (C:Nat→Nat→Int) (l:List Nat) (k:Nat):∀ i j,j<l.length+1→snocC l.length (selC C l) (fun i=>C i k) i j=selC C (l++[k]) i j:=fun i j hj=>by
 unfold snocC snoc selC
 by_cases e:j<l.length
 · rw[if_neg (by omega),List.getD_eq_getElem?_getD,List.getD_eq_getElem?_getD,List.getElem?_append_left e]
 · obtain rfl:j=l.length:=by omega
   rw[if_pos rfl]
   simp
def Pc (w:World) (vb pb:Nat):Prop:=w.heap[vb]? =some (.cells #[.pointer (some ⟨pb,0,none⟩)] 45 (0,0))
theorem Pc.lt {w:World} {vb pb:Nat} (h:Pc w vb pb):vb<w.heap.size:=(Array.getElem?_eq_some_iff.1 h).1
theorem Pc.cell {w:World} {vb pb:Nat} (h:Pc w vb pb):w.cell? ⟨vb,0,none⟩=some (.pointer (some ⟨pb,0,none⟩)):=by unfold Pc at h;simp[World.cell?,h]
theorem Pc.no {w:World} {vb pb n:Nat} {C:Nat→Nat→Int} {S:Nat→Value} (h:Pc w vb pb) (hC:Cs w pb n C S):¬ Xc S vb:=by
 rintro⟨i,hi,e⟩
 rcases(hC.own i hi).2 with⟨hv,_⟩|⟨g,cap,cur,hv,_,hg,_⟩
 · rw[hv] at e;cases e
 · rw[hv] at e
   simp only[Value.ownBlock,Option.some.injEq] at e
   subst e
   unfold Pc at h
   rw[h] at hg
   simp only[Option.some.injEq,Obj.cells.injEq] at hg
   exact absurd hg.2.1 (by decide)
theorem Pc.sm {B:Nat} {w w':World} {vb pb:Nat} (h:Pc w vb pb) (k:Sm B w w'):Pc w' vb pb:=k.cells _ _ h rfl
theorem Pc.below {w w':World} {vb pb:Nat} (h:Pc w vb pb) (k:Below w.heap.size w w'):Pc w' vb pb:=(k.block vb h.lt).trans h
structure Wf (w A:World) (mb vb pb:Nat) (v:Value) (C:Nat→Nat→Int) (l:List Nat) (S:Nat→Value):Prop where
 bel:Below w.heap.size w A
 pc:Pc A vb pb
 cs:Cs A pb l.length (selC C l) S
 mv:A.cell? ⟨mb,0,none⟩=some v
section
variable {w A A':World} {mb vb pb:Nat} {v:Value} {C:Nat→Nat→Int} {l:List Nat} {S S':Nat→Value}
theorem Wf.sm {B:Nat} (h:Wf w A mb vb pb v C l S) (k:Sm B A A') (hB:w.heap.size≤B):Wf w A' mb vb pb v C l S:=⟨h.bel.trans (k.below.mono hB),h.pc.sm k,h.cs.sm k,k.cell h.mv⟩
theorem Wf.on (h:Wf w A mb vb pb v C l S) (k:Below A.heap.size A A'):Wf w A' mb vb pb v C l S:=⟨h.bel.trans (k.mono h.bel.size),h.pc.below k,h.cs.below k,(k.cell (p:=⟨mb,0,none⟩) (cell_lt (a:=⟨mb,0,none⟩) h.mv)).trans h.mv⟩
theorem Wf.add (h:Wf w A mb vb pb v C l S) (k:Nat) (hmb:mb<pb) (hw:w.heap.size≤pb) (hvb:vb≠pb) (hc:Cs A' pb (l.length+1) (snocC l.length (selC C l) (fun i=>C i k)) S') (hF:Fr (fun b=>b=pb∨Xc S b) A A'):Wf w A' mb vb pb v C (l++[k]) S':=by
 have e:(l++[k]).length=l.length+1:=by simp
 refine⟨h.bel.trans (hF.below h.bel.size (fun b q=>q.elim (fun q=>by omega) (fun q=>by have:=(h.cs.xlt q).1;omega))),(hF.block vb h.pc.lt (fun q=>q.elim hvb (h.pc.no h.cs))).trans h.pc,?_,(hF.cell (p:=⟨mb,0,none⟩) (cell_lt (a:=⟨mb,0,none⟩) h.mv) (fun q=>q.elim (fun q=>by simp at q;omega) (fun q=>by have:=(h.cs.xlt q).1;simp at this;omega))).trans h.mv⟩
 rw[e]
 exact hc.congr fun i j _ hj=>selC_snoc C l k i j hj
end
theorem withFixed_any (cb n:Nat) (C:Nat→Nat→Int) (S:Nat→Value) (base:Nat) (v:Value) (ms:List Nat) (w:World) (hC:Cs w cb n C S) (hn:n≤12) (hH:HL w base cb v ms) (hms:ms.length≤12) (p:Nat→Bool) (hp0:∀ k,k<n→p k=(decide (C 8 k=0)||decide (k∈ms))):
 Calls Tryz.prog 21 #[.pointer (some ⟨cb,0,none⟩),v] w fun e w'=>∃ (pb:Nat) (S':Nat→Value),e= .returned (.pointer (some ⟨pb,0,none⟩))∧Cs w' pb (selL p n).length (selC C (selL p n)) S'∧Below w.heap.size w w':=by
 have hset:=cset_map
 obtain⟨va,vc,hva⟩:=hH.is
 have hE:Below w.heap.size w (((w.alloc (Obj.cells #[v] 49)).alloc (Obj.cells #[.slice none 0 0,.slice none 0 0,.slice none 0 0,.slice none 0 0,.slice none 0 0,.slice none 0 0,.slice none 0 0,.slice none 0 0,.slice none 0 0,.slice none 0 0,.slice none 0 0,.slice none 0 0] 81)).alloc (Obj.cells #[.pointer (some ⟨w.heap.size+1,0,none⟩)] 45)):=(((Below.refl _ _).alloc (Nat.le_refl _) _).alloc (by simp) _).alloc (by simp;omega) _
 have hW0:Wf w (((w.alloc (Obj.cells #[v] 49)).alloc (Obj.cells #[.slice none 0 0,.slice none 0 0,.slice none 0 0,.slice none 0 0,.slice none 0 0,.slice none 0 0,.slice none 0 0,.slice none 0 0,.slice none 0 0,.slice none 0 0,.slice none 0 0,.slice none 0 0] 81)).alloc (Obj.cells #[.pointer (some ⟨w.heap.size+1,0,none⟩)] 45)) w.heap.size (w.heap.size+1+1) (w.heap.size+1) v C [] (fun _=> .slice none 0 0):=by
  refine⟨hE,?_,⟨fun i hi=> ?_,fun i hi=>by go_simp,fun i hi=>OwnL.nil _ _ _ _ _,(fun _ _ _ e=>by cases e),(fun _ _ _ _ _ _ e=>by cases e)⟩,by go_simp⟩
  · have q:=World.alloc_heap_new ((w.alloc (Obj.cells #[v] 49)).alloc (Obj.cells #[.slice none 0 0,.slice none 0 0,.slice none 0 0,.slice none 0 0,.slice none 0 0,.slice none 0 0,.slice none 0 0,.slice none 0 0,.slice none 0 0,.slice none 0 0,.slice none 0 0,.slice none 0 0] 81)) (Obj.cells #[.pointer (some ⟨w.heap.size+1,0,none⟩)] 45)
    rw[World.size_alloc,World.size_alloc] at q
    exact q
  · rcases(show i=0∨i=1∨i=2∨i=3∨i=4∨i=5∨i=6∨i=7∨i=8∨i=9∨i=10∨i=11 by omega) with rfl|rfl|rfl|rfl|rfl|rfl|rfl|rfl|rfl|rfl|rfl|rfl<;>go_simp
 have hz2:(((w.alloc (Obj.cells #[v] 49)).alloc (Obj.cells #[.slice none 0 0,.slice none 0 0,.slice none 0 0,.slice none 0 0,.slice none 0 0,.slice none 0 0,.slice none 0 0,.slice none 0 0,.slice none 0 0,.slice none 0 0,.slice none 0 0,.slice none 0 0] 81)).alloc (Obj.cells #[.pointer (some ⟨w.heap.size+1,0,none⟩)] 45)).heap.size=w.heap.size+1+1+1:=by simp
 subst hva
 refine calls_of_wp_marks Tryz.func21 rfl ?_
 simp only[Tryz.ntmps21,List.size_toArray,List.length_cons,List.length_nil,Nat.reduceAdd,Nat.reduceSub,Array.replicate_succ,Array.replicate_zero,List.push_toArray,List.append_toArray,List.nil_append,List.cons_append]
 go_wp2
 generalize (((w.alloc (Obj.cells #[.slice va ms.length vc] 49)).alloc (Obj.cells #[.slice none 0 0,.slice none 0 0,.slice none 0 0,.slice none 0 0,.slice none 0 0,.slice none 0 0,.slice none 0 0,.slice none 0 0,.slice none 0 0,.slice none 0 0,.slice none 0 0,.slice none 0 0] 81)).alloc (Obj.cells #[.pointer (some ⟨w.heap.size+1,0,none⟩)] 45))=w2 at hE hW0 hz2 ⊢
 have hC2:=hC.below hE
 obtain⟨ad,cc,hS0⟩:=(hC2.own 0 (by omega)).is
 have hd0:=hC2.hd 0 (by omega)
 rw[hS0] at hd0
 have hmb:w.heap.size<w.heap.size+1:=by omega
 have hwp:w.heap.size≤w.heap.size+1:=by omega
 have hvp:w.heap.size+1+1≠w.heap.size+1:=by omega
 have hpz:w.heap.size+1<w2.heap.size:=by omega
 obtain⟨vb,hvb⟩:∃ x,w.heap.size+1+1=x:=⟨_,rfl⟩
 obtain⟨pb,hpb⟩:∃ x,w.heap.size+1=x:=⟨_,rfl⟩
 rw[hvb] at hW0 hvp ⊢
 rw[hpb] at hW0 hvp hmb hwp hpz ⊢
 clear hvb hpb
 refine wp_range_out (gf:=41) (bound:= #[.pointer (some ⟨cb,0,none⟩)]) rfl each_enters (each_it cb n _ _ w2 hC2.lt hd0 (by omega)) (fun _=>rfl) (fun k W=>∃ S',Wf w W w.heap.size vb pb (.slice va ms.length vc) C (selL p k) S') (fun _ _=>False) ?_ (fun _ _ _ h _=>h) ⟨_,hW0⟩ ?round ?done (fun _ _ _ _ h _=>h.elim)
 · rintro k A B ⟨S',h1⟩ hs
   exact⟨S',h1.sm hs (by omega)⟩
 case done=>
  rintro D W hD ⟨S',h1⟩ hK
  have hbx:=h1.pc.cell
  go_wp2
  refine marks_ret (B:=w2.heap.size) hD rfl hK fun W' hS=>⟨.pointer (some ⟨pb,0,none⟩),?_,pb,S',rfl,(h1.sm hS (by omega)).cs,(h1.sm hS (by omega)).bel⟩
  simp[results,Tryz.results21,go_sem, *]
 case round=>
  rintro l0 k X hl0 ⟨S2,hW⟩ hk
  simp only[List.zip_toArray,List.zip_cons_cons,List.zip_nil_left,List.foldl_toArray,List.foldl_cons,List.foldl_nil,List.setIfInBounds_toArray,List.set_cons_succ,List.set_cons_zero]
  refine wpIn_region_plain (by rintro⟨_,_,h⟩;exact h) (by kernel_rfl) ?_
  go_wp2
  refine⟨(KeepsOthers.alloc _ _).from _,fun X2 hS hr=> ?_⟩
  clear hr
  have hE1:Below X.heap.size X (X.alloc (Obj.cells #[.int .i64 (k:Int),.pointer (some ⟨cb,0,none⟩)] 76)):=(Below.refl _ _).alloc (Nat.le_refl _) _
  have b0:X2.cell? ⟨X.heap.size,0,none⟩=some (.int .i64 (k:Int)):=hS.cell (by go_simp)
  have b1:X2.cell? ⟨X.heap.size,1,none⟩=some (.pointer (some ⟨cb,0,none⟩)):=hS.cell (by go_simp)
  have hbl:X.heap.size<X2.heap.size:=by have:=hS.size;simp at this;omega
  have hW2:=(hW.on hE1).sm hS (by omega)
  have hXb:∀ b,Xc S2 b→b<X.heap.size:=fun b q=>(hW.cs.xlt q).2
  have hpX:pb<X.heap.size:=hW.cs.lt
  clear hS hE1 hW
  generalize X.heap.size=bb at b0 b1 hbl hXb hpX ⊢
  have hpk0:=hp0 k hk
  obtain⟨sl,hsl⟩:∃ x,selL p k=x:=⟨_,rfl⟩
  have hsll:=selL_le p k
  rw[hsl] at hW2 hsll
  have hCX:=hC.below hW2.bel
  have mv:=hW2.mv
  have hHX:=hH.below hW2.bel
  have stay:∀ Y,Below X2.heap.size X2 Y→p k=false→KeepsFrom w2.heap.size X2 Y∧∃ S',Wf w Y w.heap.size vb pb (.slice va ms.length vc) C (selL p (k+1)) S':=fun Y hb hno=>⟨KeepsFrom.of_below hb,S2,by rw[selL,hno,hsl];simp;exact hW2.on hb⟩
  refine wpIn_block ?_
  refine wpIn_seq_k fun K1 hK1=> ?_
  obtain⟨fk,hfk⟩:∃ b,decide (C 8 k=0)=b:=⟨_,rfl⟩
  rw[hfk] at hpk0
  cases fk with
  | true=>
    have hp:p k=true:=hpk0
    refine wpIn_region_plain (by rintro⟨_,_,h⟩;exact h) (by kernel_rfl) ?_
    go_wp2_with (go_at_call 44;refine(kFixed_q (Cs.hat hCX hk (by omega)) hfk).mono ?_;rintro e w11 ⟨rfl,hbq⟩)
    refine wpIn_cond_true rfl ?_
    have hCA:=hC.below hW2.bel
    have c0:=(hW2.on hbq).pc.cell
    have d0:=(hbq.cell (p:=⟨bb,0,none⟩) hbl).trans b0
    have d1:=(hbq.cell (p:=⟨bb,1,none⟩) hbl).trans b1
    refine wpIn_region_held_drew (S:=fun w'=>w'.cell? ⟨vb,0,none⟩=some (.pointer (some ⟨pb,0,none⟩))∧w'.cell? ⟨bb,0,none⟩=some (.int .i64 (k:Int))∧w'.cell? ⟨bb,1,none⟩=some (.pointer (some ⟨cb,0,none⟩))) (by kernel_rfl) (by rintro⟨_,_,h⟩;exact h) (by kernel_rfl) ?_ (fun hHeld=> ?_)
    · (try dsimp only)
      (first|(go_simp;done)|(go_keep;done))
    refine tq 0 hHeld ?_
    refine tq 1 hHeld ?_
    refine tc 2 fun K hK=> ?_
    (go_simp
     (go_at_call 49;refine(kBody (Cs.hat (hCA.below (Below.drew hbq)) hk (by omega))).mono ?_;rintro e w21 ⟨rfl,hx⟩)
     have hb21:Below X2.heap.size X2 w21:=(Below.drew hbq).trans (hx.mono (Below.drew hbq).size)
     have hW3:=hW2.on hb21
     have y0:=hW3.pc.cell
     have z0:=(hb21.cell (p:=⟨bb,0,none⟩) hbl).trans b0
     have z1:=(hb21.cell (p:=⟨bb,1,none⟩) hbl).trans b1
     (try go_wp2_with fail)
     refine tr hK (fun hHeld=> ?_)
     clear hK K)
    refine tc 3 fun K hK=> ?_
    (go_simp
     (go_at_call 48;refine(add_any pb sl.length (selC C sl) (fun i=>C i k) S2 _ hW3.cs (by omega)).mono ?_;rintro e w22 ⟨rfl,S3,hC3,hF3⟩)
     have hW4:=hW3.add k hmb hwp hvp hC3 hF3
     have y1:=hW4.pc.cell
     have hnb:¬ (bb=pb∨Xc S2 bb):=fun q=>q.elim (fun q=>by omega) (fun q=>by have:=hXb bb q;omega)
     have z2:=(hF3.cell (p:=⟨bb,0,none⟩) (Nat.lt_of_lt_of_le hbl hb21.size) hnb).trans z0
     have z3:=(hF3.cell (p:=⟨bb,1,none⟩) (Nat.lt_of_lt_of_le hbl hb21.size) hnb).trans z1
     (try go_wp2_with fail)
     refine tr hK (fun hHeld=> ?_)
     clear hK K)
    refine wpAnyH_done (by kernel_rfl) ?_ _
    go_wp2_with fail
    exact⟨(KeepsFrom.of_below hb21).trans (hF3.keeps _),S3,by rw[selL,if_pos hp,hsl];exact hW4⟩
  | false=>
    obtain⟨ck,hck⟩:∃ b,decide (k∈ms)=b:=⟨_,rfl⟩
    rw[hck] at hpk0
    cases ck with
    | true=>
      have hp:p k=true:=hpk0
      refine wpIn_region_plain (by rintro⟨_,_,h⟩;exact h) (by kernel_rfl) ?_
      go_wp2_with (first|(have _:=m11;go_at_call 47;refine(contains_any k _ (hHX.below hb11) hms _ hck).mono ?_;rintro e w12 ⟨rfl,hb12⟩)|(go_at_call 44;refine(kFixed_q (Cs.hat hCX hk (by omega)) hfk).mono ?_;rintro e w11 ⟨rfl,hb11⟩;have m11:=(hb11.cell (p:=⟨w.heap.size,0,none⟩) (cell_lt (a:=⟨w.heap.size,0,none⟩) mv)).trans mv;have e0:=(hb11.cell (p:=⟨bb,0,none⟩) hbl).trans b0;have e1:=(hb11.cell (p:=⟨bb,1,none⟩) hbl).trans b1))
      have hbq:=hb11.trans (hb12.mono hb11.size)
      refine wpIn_cond_true rfl ?_
      have hCA:=hC.below hW2.bel
      have c0:=(hW2.on hbq).pc.cell
      have d0:=(hbq.cell (p:=⟨bb,0,none⟩) hbl).trans b0
      have d1:=(hbq.cell (p:=⟨bb,1,none⟩) hbl).trans b1
      refine wpIn_region_held_drew (S:=fun w'=>w'.cell? ⟨vb,0,none⟩=some (.pointer (some ⟨pb,0,none⟩))∧w'.cell? ⟨bb,0,none⟩=some (.int .i64 (k:Int))∧w'.cell? ⟨bb,1,none⟩=some (.pointer (some ⟨cb,0,none⟩))) (by kernel_rfl) (by rintro⟨_,_,h⟩;exact h) (by kernel_rfl) ?_ (fun hHeld=> ?_)
      · (try dsimp only)
        (first|(go_simp;done)|(go_keep;done))
      refine tq 0 hHeld ?_
      refine tq 1 hHeld ?_
      refine tc 2 fun K hK=> ?_
      (go_simp
       (go_at_call 49;refine(kBody (Cs.hat (hCA.below (Below.drew hbq)) hk (by omega))).mono ?_;rintro e w21 ⟨rfl,hx⟩)
       have hb21:Below X2.heap.size X2 w21:=(Below.drew hbq).trans (hx.mono (Below.drew hbq).size)
       have hW3:=hW2.on hb21
       have y0:=hW3.pc.cell
       have z0:=(hb21.cell (p:=⟨bb,0,none⟩) hbl).trans b0
       have z1:=(hb21.cell (p:=⟨bb,1,none⟩) hbl).trans b1
       (try go_wp2_with fail)
       refine tr hK (fun hHeld=> ?_)
       clear hK K)
      refine tc 3 fun K hK=> ?_
      (go_simp
       (go_at_call 48;refine(add_any pb sl.length (selC C sl) (fun i=>C i k) S2 _ hW3.cs (by omega)).mono ?_;rintro e w22 ⟨rfl,S3,hC3,hF3⟩)
       have hW4:=hW3.add k hmb hwp hvp hC3 hF3
       have y1:=hW4.pc.cell
       have hnb:¬ (bb=pb∨Xc S2 bb):=fun q=>q.elim (fun q=>by omega) (fun q=>by have:=hXb bb q;omega)
       have z2:=(hF3.cell (p:=⟨bb,0,none⟩) (Nat.lt_of_lt_of_le hbl hb21.size) hnb).trans z0
       have z3:=(hF3.cell (p:=⟨bb,1,none⟩) (Nat.lt_of_lt_of_le hbl hb21.size) hnb).trans z1
       (try go_wp2_with fail)
       refine tr hK (fun hHeld=> ?_)
       clear hK K)
      refine wpAnyH_done (by kernel_rfl) ?_ _
      go_wp2_with fail
      exact⟨(KeepsFrom.of_below hb21).trans (hF3.keeps _),S3,by rw[selL,if_pos hp,hsl];exact hW4⟩
    | false=>
      have hp:p k=false:=hpk0
      refine wpIn_region_plain (by rintro⟨_,_,h⟩;exact h) (by kernel_rfl) ?_
      go_wp2_with (first|(have _:=m11;go_at_call 47;refine(contains_any k _ (hHX.below hb11) hms _ hck).mono ?_;rintro e w12 ⟨rfl,hb12⟩)|(go_at_call 44;refine(kFixed_q (Cs.hat hCX hk (by omega)) hfk).mono ?_;rintro e w11 ⟨rfl,hb11⟩;have m11:=(hb11.cell (p:=⟨w.heap.size,0,none⟩) (cell_lt (a:=⟨w.heap.size,0,none⟩) mv)).trans mv;have e0:=(hb11.cell (p:=⟨bb,0,none⟩) hbl).trans b0;have e1:=(hb11.cell (p:=⟨bb,1,none⟩) hbl).trans b1))
      refine wpIn_cond_false rfl ?_
      refine wpIn_skip ?_
      exact stay _ (hb11.trans (hb12.mono hb11.size)) hp
end Go.Proofs.YtpmjnpmnocjjgaaGreatDoor
