/- Texts of a proof. -/
import Derived.Test.YthajilkjfkppoaaGreatDoorB42
import Derived.Test.YthajilkjfkppoaaGreatDoorB45
import Derived.Deep.RegionHeld3
import Derived.Deep.DeepCutAuto
import Derived.LoopNIn
import Derived.LoopIn
set_option maxHeartbeats 16000000
set_option maxRecDepth 20000
namespace Go.Proofs.YthajilkjfkppoaaGreatDoor
open Go.RowKit
set_option linter.unusedVariables false
set_option linter.unusedSimpArgs false
section
attribute [local go_sem] Oper.semAt_some
theorem move_any (mb cb n:Nat) (rb m:Nat) (C:Nat→Int) (U:Nat→Int) (S:Nat→Value) (w:World) (hC:Cs w cb n (colOf U) S) (hm0:w.cell? ⟨mb,0,none⟩=some (.pointer (some ⟨cb,0,none⟩))) (hm4:w.cell? ⟨mb,4,none⟩=some (.pointer (some ⟨rb,0,none⟩))) (hrv:Rv w rb m cb C) (hm:m≤1048576) (ct:CtOk n m C) (hcr:cb<rb) (hxr:∀ b,Xc S b→b<rb) (hmx:¬ Xc S mb) (hn:n≤12) (hbb:Bods n U):
 Calls Tryz.prog 121 #[.pointer (some ⟨mb,0,none⟩)] w fun e w'=>e= .returned (.tuple #[])∧Cs w' cb n (colOf (apartN C (mapR (fun _ V=>goV V) U n) m)) S∧Fr (fun b=>Xc S b∨b=rb) w w':=by
 have hset:=cset_map
 refine calls_of_wp_marks Tryz.func121 rfl ?_
 simp only[Tryz.ntmps121,List.size_toArray,List.length_cons,List.length_nil,Nat.reduceAdd,Nat.reduceSub,Array.replicate_succ,Array.replicate_zero,List.push_toArray,List.append_toArray,List.nil_append,List.cons_append]
 have hxl:∀ b,Xc S b→b<w.heap.size:=fun b e=>(hC.xlt e).2
 have hml:mb<w.heap.size:=cell_lt (a:=⟨mb,0,none⟩) hm0
 obtain⟨w2,rfl⟩:∃ x,x=w:=⟨_,rfl⟩
 have hE0:Below w2.heap.size w2 w2:=Below.refl _ _
 have hz0:w2.heap.size≤w2.heap.size:=Nat.le_refl _
 have hC2:=hC.below hE0
 have m0:=keepL hE0 hm0
 have m4:=hm4
 have hml2:mb<w2.heap.size:=by omega
 have hFr0:Fr (Xc S) w2 w2:=Fr.of_below hE0
 go_wp2
 refine wp_range_outV (gf:=148) (bound:= #[.pointer (some ⟨mb,0,none⟩)]) rfl live_enters (live_it mb cb n w2 hn) (fun _=>rfl) (fun k V A=>V=mapR (fun _ V=>goV V) U k∧Cs A cb n (colOf V) S∧Fr (Xc S) w2 A) ?hI ?hcol U ⟨(mapR_0 _ _).symm,hC2,Fr.refl _ _⟩ ?hskip ?hround ?hdone
 case hI=>rintro k V A B ⟨h1,h2,h3⟩ hs;exact⟨h1,h2.sm hs,h3.sm hs (Nat.le_refl _)⟩
 case hcol=>rintro k V A ⟨h1,h2,h3⟩;exact⟨(h3.cell (p:=⟨mb,0,none⟩) hml2 hmx).trans m0,S,h2⟩
 case hskip=>
  rintro k V A ⟨rfl,h2,h3⟩ hk hl
  rw[lv_row hbb hk] at hl
  have hbk:BOk (fun j=>U (k*12+j)):=BOk.of (hbb.ok k hk)
  have e:mapR (fun _ V=>goV V) U (k+1)=mapR (fun _ V=>goV V) U k:=mapR_same fun j hj=>by
   show goV _ j=_
   rw[go_no hl]
  exact⟨e.symm,h2,h3⟩
 case hdone=>
  rintro D V A hD ⟨rfl,h2,h3⟩ hK
  obtain⟨hsB,-⟩:Bods n (mapR (fun _ V=>goV V) U n)∧True:=⟨hbb.go,trivial⟩
  have hA4:=(h3.cell (p:=⟨mb,4,none⟩) hml2 hmx).trans m4
  have hRA:=hrv.fr h3 (fun b hb e=>by have:=hxr _ e;omega)
  go_wp2_with (go_at_call 152;refine(moveApart_v hRA h2 hm (by omega) hsB ct hcr hxr).mono ?_;rintro e X9 ⟨rfl,hC9,hF9⟩)
  have hK9:=hF9.others.same _ _ hK rfl
  refine marks_ret (B:=w2.heap.size) hD rfl hK9 fun A' hS=>⟨_,results_none rfl _ _ _,rfl,hC9.sm hS,?_⟩
  exact((h3.mono (fun _ _ e=> .inl e)).trans hF9).sm hS (Nat.le_refl _)
 case hround=>
  rintro l k V A hl1 hl2 hA2 ⟨rfl,hCA,hFA⟩ hk hlv
  rw[lv_row hbb hk] at hlv
  have hbk:BOk (fun j=>U (k*12+j)):=BOk.of (hbb.ok k hk)
  have b4:=hbk.a4
  have b5:=hbk.a5
  have b6:=hbk.d6
  have b7:=hbk.d7
  have b8:=hbk.m8
  have b11:=hbk.q11
  (try simp only at b4 b5 b6 b7 b8 b11)
  simp only[List.zip_toArray,List.zip_cons_cons,List.zip_nil_left,List.foldl_toArray,List.foldl_cons,List.foldl_nil,List.setIfInBounds_toArray,List.set_cons_succ,List.set_cons_zero]
  refine wpIn_region_plain (by rintro⟨_,_,h⟩;exact h) (by kernel_rfl) ?_
  go_wp2
  refine⟨(KeepsOthers.alloc _ _).from _,fun A2 hS hKc hr=> ?_⟩
  clear hr
  have hE1:Below A.heap.size A (A.alloc (Obj.cells #[.int .i64 (k:Int),.pointer (some ⟨cb,0,none⟩)] 59)):=(Below.refl _ _).alloc (Nat.le_refl _) _
  have v0:(A.alloc (Obj.cells #[.int .i64 (k:Int),.pointer (some ⟨cb,0,none⟩)] 59)).cell? ⟨A.heap.size,0,none⟩=some (.int .i64 (k:Int)):=by go_simp
  have v1:(A.alloc (Obj.cells #[.int .i64 (k:Int),.pointer (some ⟨cb,0,none⟩)] 59)).cell? ⟨A.heap.size,1,none⟩=some (.pointer (some ⟨cb,0,none⟩)):=by go_simp
  generalize (A.alloc (Obj.cells #[.int .i64 (k:Int),.pointer (some ⟨cb,0,none⟩)] 59))=A1 at hE1 v0 v1 hS hKc
  have hCk:=(hCA.below hE1).sm hS
  have hFk:Fr (Xc S) w2 A2:=(hFA.trans (Fr.of_below hE1)).sm hS (Nat.le_refl _)
  have hKc2:Kcs (w2.heap.size+2) (fun _=>True) A A2:=(Kcs.of_below hE1).trans (hKc _ _ hl2)
  replace v0:=hS.cell v0
  replace v1:=hS.cell v1
  have hzb:w2.heap.size+2≤A.heap.size:=hA2
  clear hS hE1 hKc hCA hFA
  generalize A.heap.size=ba at v0 v1 hzb ⊢
  have hbal:ba<A2.heap.size:=cell_lt (a:=⟨ba,0,none⟩) v0
  have hbx:¬ Xc S ba:=fun e=>by have:=hxl _ e;omega
  have hat:=hCk.hat hk (by omega)
  rw[row_map] at hat
  have hmA0:=(hFk.cell (p:=⟨mb,0,none⟩) hml2 hmx).trans m0
  have hml3:mb<A2.heap.size:=cell_lt (a:=⟨mb,0,none⟩) hmA0
  refine wpIn_block ?_
  have hsp:=sp_bd (V:=fun j=>U (k*12+j)) b6 b7
  gi_upto_region 2 with fail
  refine wpIn_region_held_drew (S:=fun w'=>w'.cell? ⟨ba,0,none⟩=some (.int .i64 (k:Int))∧w'.cell? ⟨ba,1,none⟩=some (.pointer (some ⟨cb,0,none⟩))) (by kernel_rfl) (by rintro⟨_,_,h⟩;exact h) (by kernel_rfl) ?_ (fun hHeld=> ?_)
  · exact⟨v0,v1⟩
  refine tq 0 hHeld ?_
  refine tq 1 hHeld ?_
  refine tc 2 fun K hK=> ?_
  (go_simp;(go_at_call 26;refine(kSpeed (hat.below (Below.drew (Below.refl _ _))) b6 b7).mono ?_;rintro e w11 ⟨rfl,hb11⟩);(try go_wp2_with fail);refine tr hK (fun hHeld=> ?_) ⟨keepL hb11 hHeld.1,keepL hb11 hHeld.2⟩;clear hK K)
  refine tc 3 fun K hK=> ?_
  (go_simp;(go_at_call 25;refine(kMoveU (hCk.below (Below.ofDr hb11)) hk (by omega) (by rw[mapR_row];exact b4) (by rw[mapR_row];exact b5) _ _ hsp.1 hsp.2).mono ?_;rintro e X9 ⟨rfl,hC9,hF9⟩);(try go_wp2_with fail);refine tr hK (fun hHeld=> ?_) ⟨(hF9.cell (p:=⟨ba,0,none⟩) (cell_lt (a:=⟨ba,0,none⟩) hHeld.1) hbx).trans hHeld.1,(hF9.cell (p:=⟨ba,1,none⟩) (cell_lt (a:=⟨ba,0,none⟩) hHeld.1) hbx).trans hHeld.2⟩;clear hK K)
  refine wpAnyH_done (by kernel_rfl) ?_ _
  gi_wp2
  have hall:Fr (Xc S) A2 X9:=(Fr.of_below (Below.ofDr hb11)).trans hF9
  exact⟨hall.keeps _,⟨_,rfl,by
   have e1:mapR (fun _ V=>goV V) U (k+1)=putRow (mapR (fun _ V=>goV V) U k) k ((fun _ V=>goV V) k (fun j=>U (k*12+j))):=(mapR_set (fun _ V=>goV V) U k).symm
   rw[e1]
   show Cs X9 cb n (colOf (putRow _ k (goV (fun j=>U (k*12+j))))) S
   rw[go_yes hlv]
   have e2:(fun j=>mapR (fun _ V=>goV V) U k (k*12+j))=fun j=>U (k*12+j):=funext fun j=>mapR_row _ _ _ _
   rw[e2] at hC9
   exact hC9,hFk.trans hall⟩,hKc2.trans (Kcs.fr hall (fun b e=> .inl (by have:=hxl _ e;omega)))⟩
end
end Go.Proofs.YthajilkjfkppoaaGreatDoor
namespace Go.Proofs.YthajilkjfkppoaaGreatDoor
open Go.RowKit
set_option linter.unusedVariables false
set_option linter.unusedSimpArgs false
theorem kRestless {cb n k:Nat} {V:Nat→Int} {G:Nat→Nat} {w:World} (h:HAt w cb n k V G) (b:Bool) (e:(V 11 !=7)=b):
 Calls Tryz.prog 154 #[hdk cb k] w fun e w'=>e= .returned (.bool b)∧Below w.heap.size w w':=by
 have hset:=cset_map
 have hE:Below w.heap.size w (w.alloc (.cells #[.int .i64 (k:Int),.pointer (some ⟨cb,0,none⟩)] 59)):=(Below.refl _ _).alloc (Nat.le_refl _) _
 have h':=h.below hE
 subst e
 go_enter Tryz.func154,Tryz.ntmps154
 go_wp2_with (go_at_call 55;refine(kQuiet h').mono ?_;rintro e w1 ⟨rfl,hb1⟩)
 go_ret
 exact⟨rfl,hE.trans (hb1.mono hE.size)⟩
theorem indexFunc_any {cb n base:Nat} {C:Nat→Nat→Int} {S:Nat→Value} {v:Value} {ms:List Nat} (w:World) (hC:Cs w cb n C S) (h:HL w base cb v ms) (hl:∀ j,j∈ms→j<n) (hn:n≤12) (hms:ms.length≤12) (b:Bool) (hb:ms.any (fun j=>C 11 j !=7)=b):
 Calls Tryz.prog 173 #[v,(.func (.func 154) #[] #[])] w fun e w'=>(∃ r:Int,e= .returned (.int .i64 r)∧decide (0≤r)=b)∧Below w.heap.size w w':=by
 have hset:=cset_map
 obtain⟨ad,cc,rfl⟩:=h.is
 go_enter Tryz.func173,Tryz.ntmps173
 go_upto_region 2 with fail
 go_loopw [8,5] (fun s _ wr=>∃ q:Nat,q≤ms.length∧s= .int .i64 (q:Int)∧(ms.take q).any (fun j=>C 11 j !=7)=false∧Below w.heap.size w wr) (fun s _ _=>ms.length-(intOf s).toNat)
 case atStart=>exact⟨0,Nat.zero_le _,rfl,rfl,Below.refl _ _⟩
 case round=>
  obtain⟨q,hq,rfl,hno,hB⟩:=hrel
  by_cases hlt:q<ms.length
  · obtain⟨g,rfl⟩:∃ g,ad=some ⟨g,0,none⟩:=by
     rcases h.2 with⟨q1,q2⟩|⟨g,c,cur,hv,-⟩
     · omega
     · cases hv;exact⟨_,rfl⟩
    have hw:=h.below hB
    obtain⟨c0,c1⟩:=hw.cells hlt
    obtain⟨r,hr⟩:∃ r,ms[q]=r:=⟨_,rfl⟩
    rw[hr] at c0
    have hrn:r<n:=hl r (hr▸List.getElem_mem hlt)
    have hqi:(q:Int)<(ms.length:Int):=by omega
    have hCw:=hC.below hB
    obtain⟨sb,hsr⟩:∃ s,(C 11 r !=7)=s:=⟨_,rfl⟩
    have htk:Shut ((ms.take (q+1)).any (fun j=>C 11 j !=7)=sb):=by
     unfold Shut
     rw[List.take_succ_eq_append_getElem hlt,List.any_append,hno,hr];simp[hsr]
    cases sb with
    | false=>
      go_wp2_with (go_at_call 154;refine(kRestless (Cs.hat hCw hrn (by omega)) false hsr).mono ?_;rintro e w1 ⟨rfl,hb1⟩)
      go_roundw
      case rel=>exact⟨q+1,by omega,by go_num,htk.out,hB.trans (hb1.mono hB.size)⟩
      case measure=>simp[intOf];omega
    | true=>
      obtain rfl:true=b:=by
       rw[←hb,eq_comm,List.any_eq_true]
       exact⟨r,hr▸List.getElem_mem hlt,hsr⟩
      go_wp2_with (go_at_call 154;refine(kRestless (Cs.hat hCw hrn (by omega)) true hsr).mono ?_;rintro e w1 ⟨rfl,hb1⟩)
      go_ret
      exact⟨⟨_,rfl,decide_eq_true (by omega)⟩,hB.trans (hb1.mono hB.size)⟩
  · obtain rfl:q=ms.length:=by omega
    rw[List.take_length,hb] at hno
    subst hno
    go_wp2
    go_ret
    exact⟨⟨_,rfl,rfl⟩,hB⟩
theorem containsFunc_any {cb n base:Nat} {C:Nat→Nat→Int} {S:Nat→Value} {v:Value} {ms:List Nat} (w:World) (hC:Cs w cb n C S) (h:HL w base cb v ms) (hl:∀ j,j∈ms→j<n) (hn:n≤12) (hms:ms.length≤12) (b:Bool) (hb:ms.any (fun j=>C 11 j !=7)=b):
 Calls Tryz.prog 153 #[v,(.func (.func 154) #[] #[])] w fun e w'=>e= .returned (.bool b)∧Below w.heap.size w w':=by
 have hset:=cset_map
 go_enter Tryz.func153,Tryz.ntmps153
 go_wp2_with (go_at_call 173;refine(indexFunc_any w hC h hl hn hms b hb).mono ?_;rintro e w1 ⟨⟨r,rfl,hr⟩,hb1⟩)
 go_ret
 exact⟨by first|(simp[hr];done)|(rw[hr]),hb1⟩
theorem fallAsleep_any (mb cb n D:Nat) (U G:Nat→Int) (gs:List Nat) (v:Value) (S:Nat→Value) (w:World) (hC:Cs w cb n (colOf U) S) (hm3:w.cell? ⟨mb,3,none⟩=some v) (hmx:¬ Xc S mb) (hA:AwL w D cb v G n gs) (hxD:∀ b,Xc S b→b<D) (hgl:gs.length≤12) (hnd:gs.Nodup) (hn:n≤12)
 (hq7:∀ j,j<n→∀ t,t∈gs→G j=(t:Int)→U (j*12+11)≤7):
 Calls Tryz.prog 123 #[.pointer (some ⟨mb,0,none⟩)] w fun e w'=>e= .returned (.tuple #[])∧Cs w' cb n (colOf (slpL G n U gs)) S∧Fr (Xc S) w w':=by
 have hset:=cset_map
 have hml:mb<w.heap.size:=cell_lt (a:=⟨mb,3,none⟩) hm3
 have hxl:∀ b,Xc S b→b<w.heap.size:=fun b e=>(hC.xlt e).2
 have hAA:∀ A,Fr (Xc S) w A→AwL A D cb v G n gs:=fun A h=>hA.fr h (fun b h1 _ e=>by have:=hxD b e;omega)
 obtain⟨av,ac,rfl,-⟩:=id hA
 obtain⟨K,hK⟩:∃ x,gs.length=x:=⟨_,rfl⟩
 go_enter Tryz.func123,Tryz.ntmps123
 have x3:=hm3
 rw[hK] at x3
 go_upto_region 1 with fail
 clear x3
 go_loopw [11,3,5] (fun s _ _ wr=>∃ (q:Nat),q≤K∧s= .int .i64 (q:Int)∧Cs wr cb n (colOf (slpL G n U (gs.take q))) S∧Fr (Xc S) w wr) (fun s _ _ _=>K-(intOf s).toNat)
 case atStart=>exact⟨0,Nat.zero_le _,rfl,hC,Fr.refl _ _⟩
 case round=>
  obtain⟨q,hq,rfl,hCr,hFr⟩:=hrel
  by_cases hlt:q<K
  · have hqK:(q:Int)<(K:Int):=by omega
    have hqg:q<gs.length:=by omega
    obtain⟨a',c',e',hqq⟩:=hAA _ hFr
    cases e'
    obtain⟨b2,o2,vq,rfl,hb2D,hb2l,hvq,hHL⟩:=hqq q hqg
    have hst:=slp_take (G:=G) (U:=U) (n:=n) hqg
    obtain⟨t,ht⟩:∃ x,gs[q]=x:=⟨_,rfl⟩
    rw[ht] at hHL hst
    have htm:t∈gs:=ht▸List.getElem_mem hqg
    have htn:t ∉ gs.take q:=fun hm=>by
     obtain⟨i,hi,e⟩:=List.mem_iff_getElem.1 hm
     rw[List.length_take] at hi
     rw[List.getElem_take] at e
     exact absurd ((List.getElem_inj hnd).1 (e.trans ht.symm)) (by omega)
    obtain⟨V,hV⟩:∃ x,slpL G n U (gs.take q)=x:=⟨_,rfl⟩
    have hVq:∀ j,j<n→G j=(t:Int)→V (j*12+11)≤7:=fun j hj hg=>by
     rw[←hV,slp_row hj (by omega) (gs.take q) U (fun s hs e=>htn ((Int.ofNat.inj (e.symm.trans hg))▸hs))]
     exact hq7 j hj t htm hg
    rw[hV] at hCr hst
    have hri:=rest_iff (G:=G) (U:=V) hVq
    obtain⟨ms,hms⟩:∃ x,memG G n t=x:=⟨_,rfl⟩
    rw[hms] at hHL hri
    have hmsn:ms.length≤12:=by rw[←hms];exact Nat.le_trans (memG_len _ _ _) hn
    have hmsm:∀ j,j∈ms→j<n:=fun j hj=>by rw[←hms] at hj;exact(memG_mem.1 hj).1
    obtain⟨ma,mc,rfl⟩:=hHL.is
    have hHA:∀ A,Fr (Xc S) wr A→HL A D cb (.slice ma ms.length mc) ms:=fun A h=>hHL.frame h (fun b e k=>by have:=hxD b k;have:=(hHL.lt b e).1;omega)
    clear hqq hVq
    obtain⟨Lm,hLm⟩:∃ x,ms.length=x:=⟨_,rfl⟩
    rw[hLm] at hvq hmsn
    cases hall:allQ G V t n with
    | false=>
      have hst2:Shut (slpL G n U (gs.take (q+1))=V):=by unfold Shut;rw[hst];unfold sleepS;rw[hall];rfl
      have hri2:ms.any (fun j=>colOf V 11 j !=7)=true:=by rw[show (fun j=>colOf V 11 j !=7)=fun j=>V (j*12+11) !=7 from rfl,hri,hall];rfl
      clear hri hall hst
      go_wp2_with (go_at_call 153;refine(containsFunc_any wr hCr (hLm▸hHL) hmsm hn (by omega) true hri2).mono ?_;rintro e w5 ⟨rfl,hb5⟩)
      go_roundw
      case rel=>exact⟨q+1,by omega,by go_num,by rw[hst2.out];exact hCr.below hb5,hFr.trans (Fr.of_below hb5)⟩
      case measure=>simp[intOf];omega
    | true=>
      have hst2:Shut (slpL G n U (gs.take (q+1))=mapR (slF G t) V n):=by unfold Shut;rw[hst];unfold sleepS;rw[hall];rfl
      have hri2:ms.any (fun j=>colOf V 11 j !=7)=false:=by rw[show (fun j=>colOf V 11 j !=7)=fun j=>V (j*12+11) !=7 from rfl,hri,hall];rfl
      clear hri hall hst
      go_upto_region 5 with(go_at_call 153;refine(containsFunc_any wr hCr (hLm▸hHL) hmsm hn (by omega) false hri2).mono ?_;rintro e w5 ⟨rfl,hb5⟩)
      have hF5:Fr (Xc S) wr w5:=Fr.of_below hb5
      go_loopw [20,5] (fun s _ wr'=>∃ (p:Nat) (P2:Nat→Bool),p≤Lm∧s= .int .i64 (p:Int)∧(∀ j,j<n→P2 j=decide (j∈ms.take p))∧Cs wr' cb n (colOf (fsU P2 n V)) S∧Fr (Xc S) wr wr') (fun s _ _=>Lm-(intOf s).toNat)
      case atStart=>
       refine⟨0,fun _=>false,Nat.zero_le _,rfl,fun j _=>by simp,(hCr.below hb5).congr fun i j hi hj=> ?_,hF5⟩
       rw[fsU_row hj i hi];rfl
      case round=>
       obtain⟨p,P2,hp,rfl,hP2,hC2,hF2⟩:=hrel
       by_cases hlp:p<Lm
       · have hpL:(p:Int)<(Lm:Int):=by omega
         have hw:=hHA _ hF2
         have hpm:p<ms.length:=by omega
         obtain⟨g,rfl⟩:∃ g,ma=some ⟨g,0,none⟩:=by
          rcases hw.2 with⟨q1,q2⟩|⟨g,c,cur,hv,-⟩
          · omega
          · cases hv;exact⟨_,rfl⟩
         obtain⟨c0,c1⟩:=hw.cells hpm
         obtain⟨r,hr⟩:∃ r,ms[p]=r:=⟨_,rfl⟩
         rw[hr] at c0
         have hrn:r<n:=hmsm r (hr▸List.getElem_mem hpm)
         have htk:∀ j,j<n→decide (j∈ms.take (p+1))=(P2 j||decide (j=r)):=fun j hj=>by
          rw[hP2 j hj,List.take_succ_eq_append_getElem hpm,hr]
          simp only[List.mem_append,List.mem_singleton]
          exact Bool.decide_or _ _
         obtain⟨P3,hP3⟩:∃ P3:Nat→Bool,∀ j,j<n→P3 j=(P2 j||decide (j=r)):=⟨fun j=>P2 j||decide (j=r),fun _ _=>rfl⟩
         have hE1:Below wr.heap.size wr (wr.alloc (Obj.cells #[.int .i64 (r:Int),.pointer (some ⟨cb,0,none⟩)] 59)):=(Below.refl _ _).alloc (Nat.le_refl _) _
         have hCE:=hC2.below hE1
         have z0:(wr.alloc (Obj.cells #[.int .i64 (r:Int),.pointer (some ⟨cb,0,none⟩)] 59)).cell? ⟨wr.heap.size,0,none⟩=some (.int .i64 (r:Int)):=by go_simp
         have z1:(wr.alloc (Obj.cells #[.int .i64 (r:Int),.pointer (some ⟨cb,0,none⟩)] 59)).cell? ⟨wr.heap.size,1,none⟩=some (.pointer (some ⟨cb,0,none⟩)):=by go_simp
         have hxr:¬ Xc S wr.heap.size:=fun e=>by have:=hxl _ e;have:=hFr.size;have:=hF2.size;omega
         have hlr:wr.heap.size<(wr.alloc (Obj.cells #[.int .i64 (r:Int),.pointer (some ⟨cb,0,none⟩)] 59)).heap.size:=by simp
         go_wp2_with (first
          |(have _:=hC6;go_at_call 59;refine(kSetDrive hC6 hrn (by omega) 0 0).mono ?_;rintro e w7 ⟨rfl,hC7,hF7⟩)
          |(go_at_call 146;refine(kSetQuiet hCE hrn (by omega) 8).mono ?_;rintro e w6 ⟨rfl,hC6,hF6⟩;have z2:=(hF6.cell (p:=⟨wr.heap.size,0,none⟩) hlr hxr).trans z0;have z3:=(hF6.cell (p:=⟨wr.heap.size,1,none⟩) hlr hxr).trans z1))
         go_roundw
         case rel=>exact⟨p+1,P3,by omega,by go_num,fun j hj=>(hP3 j hj).trans (htk j hj).symm,hC7.congr (fsU_set hrn hP3),((hF2.trans (Fr.of_below hE1)).trans hF6).trans hF7⟩
         case measure=>simp[intOf];omega
       · obtain rfl:p=Lm:=by omega
         go_wp2
         go_roundw
         case rel=>
          refine⟨q+1,by omega,by go_num,?_,hFr.trans hF2⟩
          rw[hst2.out]
          refine hC2.congr fun i j hi hj=> ?_
          rw[fsU_row hj i hi,hP2 j hj,←hLm,List.take_length]
          unfold colOf
          rw[mapR_in hj hi]
          unfold slF
          rw[decide_eq_decide.2 (show j∈ms↔G j=(t:Int) from by rw[←hms];exact memG_mem.trans ⟨fun h=>h.2,fun h=>⟨hj,h⟩⟩)]
         case measure=>simp[intOf];omega
  · obtain rfl:q=K:=by omega
    go_wp2
    go_end0
    rw[←hK,List.take_length] at hCr
    exact⟨rfl,hCr,hFr⟩
end Go.Proofs.YthajilkjfkppoaaGreatDoor
