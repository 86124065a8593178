/- Texts of a proof. -/
import Derived.Test.YtpmjnpmnocjjgaaGreatDoorB47
import Derived.Deep.RegionHeld3
import Derived.Deep.DeepCutAuto
import Derived.LoopNIn
import Derived.LoopIn
import Derived.OwnWalkIn
import Derived.Test.YtpmjnpmnocjjgaaGreatDoorB46
set_option maxHeartbeats 16000000
set_option maxRecDepth 20000
namespace Go.Proofs.YtpmjnpmnocjjgaaGreatDoor
open Go.RowKit
set_option linter.unusedVariables false
set_option linter.unusedSimpArgs false
section
attribute [local go_sem] Oper.semAt_some
theorem motionOf_any (cb n:Nat) (g:Int) (U:Nat→Int) (S:Nat→Value) (w:World) (hC:Cs w cb n (colOf U) S) (hbb:Bods n U):
 Calls Tryz.prog 91 #[.pointer (some ⟨cb,0,none⟩),.int .i64 g] w fun e w'=>∃ mb aM cM v,e= .returned (.pointer (some ⟨mb,0,none⟩))∧w.heap.size≤mb∧Below w.heap.size w w'∧Mf w' mb cb g (.slice aM (ctM n U) cM)∧Flat w' aM (ctM n U*5) (ctC n U)∧(∀ b o,aM=some ⟨b,o,none⟩→0<ctM n U*5→w.heap.size≤b∧b<mb)∧w'.cell? ⟨mb,3,none⟩=some v∧w'.frozen? ⟨mb,3,none⟩=false∧AwL w' (mb+1) cb v (gpG n U) n ((List.range (awN n U)).filter (awA n U)):=by
 have hset:=cset_map
 have hn:=hbb.le
 have hn20:n≤1048576:=by omega
 obtain⟨ct,hM5⟩:=ct_ok n U
 have hMk:ctM n U≤144:=by
  obtain⟨m,e,hm⟩:=conOut_len (colOf U) n n
  have e':(conL (colOf U) n).length=m*5:=e
  have:=Nat.mul_le_mul hn hn
  omega
 obtain⟨M,hMe⟩:∃ x,ctM n U=x:=⟨_,rfl⟩
 rw[hMe] at ct hM5 hMk ⊢
 obtain⟨L,hL⟩:∃ L,lab (edg U (ofL (conL (colOf U) n))) M=L:=⟨_,rfl⟩
 have hT:Tops (fxU U) L:=hL▸lab_tops U _ M
 have hG:∀ j,j<n→gpG n U j=gnum (fxU U) L j:=fun j hj=>by
  unfold gpG
  rw[hMe]
  exact(grpL_eq ct j hj).trans (by rw[←hL];rfl)
 have hA:=awL_eq hT hG n (Nat.le_refl _)
 have hN:awN n U=cntp (fstB (fxU U) L) n:=hA.1
 have hAw:∀ t,t<awN n U→awA n U t=awk (fxU U) L (slG U) n t:=fun t ht=>hA.2 t (hN▸ht)
 have hGr:∀ w1,Cs w1 cb n (colOf U) S→ItG Tryz.prog 19 #[.pointer (some ⟨cb,0,none⟩)] (ColF cb n (fxU U)) (GrE cb n (fxU U) L) (cntp (fstB (fxU U) L) n) w1:=fun w1 hC=>groups_any cb n U S M w1 hC hn hM5 (by omega) L (fun j=>by rw[←hL]) (fxU U)
 have hsl:∀ j,j<n→decide (colOf U 11 j=8)=slG U j:=fun j hj=>by
  have:0≤U (j*12+11)∧U (j*12+11)≤8:=(BOk.of (hbb.ok j hj)).q11
  unfold colOf slG
  exact decide_eq_decide.2 ⟨fun h=>by omega,fun h=>by omega⟩
 obtain⟨sl,hsle⟩:∃ s,slG U=s:=⟨_,rfl⟩
 rw[hsle] at hsl hAw
 obtain⟨GG,hGG⟩:∃ x,gpG n U=x:=⟨_,rfl⟩
 obtain⟨AA,hAA⟩:∃ x,awA n U=x:=⟨_,rfl⟩
 obtain⟨NN,hNN⟩:∃ x,awN n U=x:=⟨_,rfl⟩
 obtain⟨CC,hCC⟩:∃ x,ctC n U=x:=⟨_,rfl⟩
 have hCO:ofL (conL (colOf U) n)=CC:=hCC
 rw[hGG] at hG ⊢
 rw[hAA] at hAw ⊢
 rw[hNN] at hAw hN ⊢
 rw[hCC]
 clear hA hL hMe hsle hGG hAA hNN ct
 refine calls_of_wp_marks Tryz.func91 rfl ?_
 simp only[Tryz.ntmps91,List.size_toArray,List.length_cons,List.length_nil,Nat.reduceAdd,Nat.reduceSub,Array.replicate_succ,Array.replicate_zero,List.push_toArray,List.append_toArray,List.nil_append,List.cons_append]
 go_wp2_with (go_at_call 83;refine(contacts_any cb n (colOf U) S _ hC hn).mono ?_;rintro e w1 ⟨aM,Mq,cM,rfl,hMq,hO1⟩;obtain rfl:Mq=M:=(by omega);rw[hCO] at hO1)
 have hE1:Below w1.heap.size w1 (w1.alloc (Obj.cells #[.pointer (some ⟨cb,0,none⟩),.int .i64 g,.slice aM Mq cM,.slice none 0 0,.pointer none,.slice none 0 0] 170)):=(Below.refl _ _).alloc (Nat.le_refl _) _
 have hE2:Below w1.heap.size w1 ((w1.alloc (Obj.cells #[.pointer (some ⟨cb,0,none⟩),.int .i64 g,.slice aM Mq cM,.slice none 0 0,.pointer none,.slice none 0 0] 170)).alloc (Obj.cells #[.pointer (some ⟨w1.heap.size,0,none⟩)] 133)):=(((Below.refl _ _).alloc (Nat.le_refl _) _).alloc (by simp) _)
 have hMf:Mf ((w1.alloc (Obj.cells #[.pointer (some ⟨cb,0,none⟩),.int .i64 g,.slice aM Mq cM,.slice none 0 0,.pointer none,.slice none 0 0] 170)).alloc (Obj.cells #[.pointer (some ⟨w1.heap.size,0,none⟩)] 133)) w1.heap.size cb g (.slice aM Mq cM):=⟨by go_simp,by go_simp,by go_simp,by go_simp,by go_simp,by go_simp,by go_simp⟩
 have x3:((w1.alloc (Obj.cells #[.pointer (some ⟨cb,0,none⟩),.int .i64 g,.slice aM Mq cM,.slice none 0 0,.pointer none,.slice none 0 0] 170)).alloc (Obj.cells #[.pointer (some ⟨w1.heap.size,0,none⟩)] 133)).cell? ⟨w1.heap.size,3,none⟩=some (.slice none 0 0):=by go_simp
 have g3:((w1.alloc (Obj.cells #[.pointer (some ⟨cb,0,none⟩),.int .i64 g,.slice aM Mq cM,.slice none 0 0,.pointer none,.slice none 0 0] 170)).alloc (Obj.cells #[.pointer (some ⟨w1.heap.size,0,none⟩)] 133)).frozen? ⟨w1.heap.size,3,none⟩=false:=by go_simp
 have xv:((w1.alloc (Obj.cells #[.pointer (some ⟨cb,0,none⟩),.int .i64 g,.slice aM Mq cM,.slice none 0 0,.pointer none,.slice none 0 0] 170)).alloc (Obj.cells #[.pointer (some ⟨w1.heap.size,0,none⟩)] 133)).cell? ⟨w1.heap.size+1,0,none⟩=some (.pointer (some ⟨w1.heap.size,0,none⟩)):=by go_simp
 have hz2:((w1.alloc (Obj.cells #[.pointer (some ⟨cb,0,none⟩),.int .i64 g,.slice aM Mq cM,.slice none 0 0,.pointer none,.slice none 0 0] 170)).alloc (Obj.cells #[.pointer (some ⟨w1.heap.size,0,none⟩)] 133)).heap.size=w1.heap.size+1+1:=by simp
 have hb1:Below w.heap.size w w1:=hO1.bel
 have hz1:=hb1.size
 have hF1:Flat w1 aM (Mq*5) CC:=hO1.own.flat
 have hl1:∀ b,(Value.slice aM Mq cM).ownBlock=some b→w.heap.size≤b∧b<w1.heap.size:=fun b e=>hO1.own.lt b e
 have hFa:∀ b o,aM=some ⟨b,o,none⟩→0<Mq*5→w.heap.size≤b∧b<w1.heap.size:=fun b o e h0=>by
  subst e
  rcases hO1.own.2 with⟨q,_⟩|⟨g0,c0,cur,hv,hb0,hg0,_⟩
  · cases q
  · cases hv
    exact⟨hb0,(Array.getElem?_eq_some_iff.1 hg0).1⟩
 have hF2:=hF1.below hE2
 have hB2:Below w.heap.size w ((w1.alloc (Obj.cells #[.pointer (some ⟨cb,0,none⟩),.int .i64 g,.slice aM Mq cM,.slice none 0 0,.pointer none,.slice none 0 0] 170)).alloc (Obj.cells #[.pointer (some ⟨w1.heap.size,0,none⟩)] 133)):=hb1.trans (hE2.mono hz1)
 clear hE1 hO1 hl1 hM5 hMq
 generalize ((w1.alloc (Obj.cells #[.pointer (some ⟨cb,0,none⟩),.int .i64 g,.slice aM Mq cM,.slice none 0 0,.pointer none,.slice none 0 0] 170)).alloc (Obj.cells #[.pointer (some ⟨w1.heap.size,0,none⟩)] 133))=w2 at hE2 hMf x3 g3 xv hz2 hF2 hB2 ⊢
 have hG2:=hGr w2 (hC.below hB2)
 obtain⟨vb,hvb⟩:∃ x,w1.heap.size+1=x:=⟨_,rfl⟩
 rw[hvb] at xv ⊢
 obtain⟨mb,hmb⟩:∃ x,w1.heap.size=x:=⟨_,rfl⟩
 rw[hmb] at hMf x3 g3 xv hvb hz2 hz1 hFa ⊢
 have hm2:mb<w2.heap.size:=by omega
 have hv2:vb<w2.heap.size:=by omega
 have hvm:¬ vb=mb:=by omega
 clear hmb hGr hF1
 refine wp_range_outG (gf:=19) (bound:= #[.pointer (some ⟨cb,0,none⟩)]) rfl groups_enters hG2 (fun H k args A hE=>by obtain⟨i,v,_,_,_,rfl,_⟩:=hE;rfl)
  (fun H k A=>w2.heap.size≤H∧But mb w2 A∧Mf A mb cb g (.slice aM Mq cM)∧∃ v vs,Va w A H mb 49 v vs.length vs∧AwQ A H cb GG n vs ((List.range k).filter AA)) ?hI ?hIs ?hcol ?h0 ?round ?done
 case hI=>rintro H k A B' ⟨h0,h1,h2,v,vs,h3,h4⟩ hk;exact⟨h0,h1.upM hk.below (by omega),h2.bl hk.below (by omega),v,vs,h3.kx hk (by omega) (by omega),h4.map fun vq l h=>h.kx hk (Nat.le_refl _)⟩
 case hIs=>rintro H k A B' ⟨h0,h1,h2,v,vs,h3,h4⟩ hs;exact⟨h0,h1.upM hs.below (Nat.le_refl _),h2.sm hs,v,vs,h3.sm hs (by omega),h4.map fun vq l h=>h.sm hs⟩
 case hcol=>rintro H k A ⟨_,_,_,v,vs,h3,_⟩;exact⟨_,_,hC.below h3.bel,fun j _=>rfl⟩
 case h0=>
  intro W0 hb hz
  exact⟨by omega,But.of_below hb,hMf.bl hb hm2,.slice none 0 0,[],⟨hB2.trans (hb.mono hB2.size),(hb.cell (p:=⟨mb,3,none⟩) hm2).trans x3,(hb.frozen (p:=⟨mb,3,none⟩) hm2).trans g3,World.ownsRow_nil _ _ _ _,by omega,by omega⟩,rfl,fun q h=>absurd h (Nat.not_lt_zero _)⟩
 case done=>
  rintro D H W hD ⟨h0,h1,h2,v,vs,h3,h4⟩ hK
  have hvW:=(h1.cell (p:=⟨vb,0,none⟩) hv2 hvm).trans xv
  go_wp2
  refine marks_ret (B:=w2.heap.size) hD rfl hK fun W' hS=>⟨.pointer (some ⟨mb,0,none⟩),?_,mb,aM,cM,v,rfl,by omega,(h3.sm hS (by have:=hB2.size;omega)).bel,h2.sm hS,?_,hFa,hS.cell h3.box,hS.frozen h3.box h3.nf,?_⟩
  · simp[results,Tryz.results91,go_sem, *]
  · intro h0'
    obtain⟨b,o,e,hbl,hc⟩:=hF2 h0'
    have:=(hFa b o e h0').2
    exact⟨b,o,e,Nat.lt_of_lt_of_le hbl (Nat.le_trans h1.size hS.size),fun j hj=>hS.cell ((h1.cell (p:=⟨b,o+j,none⟩) hbl (by show ¬ b=mb;omega)).trans (hc j hj))⟩
  · rw[←hN] at h4
    have h5:=h4.map (A':=W') fun vq l h=>h.sm hS
    have h6:=h3.sm hS (by have:=hB2.size;omega)
    refine aw_of h6.own h5 (by omega)
 case round=>
  rintro lr H k W args hlr1 hlr2 hWz ⟨hHz,hBt1,hM1,v,vs,hV1,hQ1⟩ hkk ⟨i,vv,hi,hfi,hck,rfl,hHL⟩
  have hkN:k<NN:=by omega
  have hNn:NN≤n:=hN▸cntp_le (fstB (fxU U) L) n
  have hmem:memL L i n=memG GG n k:=memL_G hT hG hfi hck
  have hany:(memL L i n).any (fun j=> !sl j)=AA k:=(memL_awk hT sl n hfi hck).trans (hAw k hkN).symm
  have hLi:L i=i:=by unfold fstB at hfi;exact of_decide_eq_true (by simp at hfi;exact decide_eq_true hfi.2)
  have hm0:0<(memL L i n).length:=List.length_pos_of_mem ((memL_mem L i n i).2 ⟨hi,hLi⟩)
  have hmm:=memL_mem L i n
  have hml:=memL_le L i n
  clear hG2 x3 g3 hF2 hMf hkk hN
  obtain⟨bk,hbk⟩:∃ b,AA k=b:=⟨_,rfl⟩
  rw[hbk] at hany
  have hnext0:(List.range (k+1)).filter AA=(List.range k).filter AA++(if bk=true then [k] else []):=by
   rw[List.range_succ,List.filter_append,←hbk]
   congr 1
   cases h:AA k<;>simp[List.filter,h]
  have hms:Shut (memL L i n=memG GG n k):=hmem
  clear hmem
  generalize memL L i n=ms at hmm hml hm0 hany hms hHL ⊢
  have hvl:vs.length≤1048576:=by
   rw[hQ1.1]
   have:=List.length_filter_le AA (List.range k)
   rw[List.length_range] at this
   omega
  obtain⟨mg,mc,rfl,hmg,hmg2⟩:=hHL.some hm0
  simp only[List.zip_toArray,List.zip_cons_cons,List.zip_nil_left,List.foldl_toArray,List.foldl_cons,List.foldl_nil,List.setIfInBounds_toArray,List.set_cons_succ,List.set_cons_zero]
  refine wpIn_region_plain (by rintro⟨_,_,h⟩;exact h) (by kernel_rfl) ?_
  go_wp2
  refine⟨KeepsFrom.refl _ _,fun W2 hS hKc hr=> ?_⟩
  have hV2:=hV1.sm hS (by have:=hB2.size;omega)
  have hHL2:=hHL.sm hS
  have hBt2:=hBt1.upM hS.below (Nat.le_refl _)
  have hM2:=hM1.sm hS
  have hQ2:AwQ W2 H cb GG n vs ((List.range k).filter AA):=hQ1.map fun vq l h=>h.sm hS
  have hKc2:Kc (w2.heap.size+2) H W W2:=hKc _ _ hlr2
  have hz2':=hS.size
  clear hV1 hHL hKc hS hr hBt1 hM1 hQ1
  refine wpIn_block ?_
  gi_upto_region 4 with fail
  gi_cut [19] from 20 (fun s19 wc=>s19= .bool bk∧Below W2.heap.size W2 wc)
  case first=>
   refine wpIn_region_plain (by rintro⟨_,_,h⟩;exact h) (by kernel_rfl) ?_
   go_wp2_with (go_at_call 20;refine(oneAwake_any _ (hC.below hV2.bel) hHL2 (fun j hj=>((hmm j).1 hj).1) hn (by omega) hsl bk hany).mono ?_;rintro e w31 ⟨rfl,hx⟩)
   gi_meet
   exact⟨rfl,hx⟩
  case rest=>
  obtain⟨rfl,hb5⟩:=hcut
  obtain⟨w5,rfl⟩:∃ x,x=wc:=⟨_,rfl⟩
  have hV5:=hV2.on hb5
  have hHL5:=hHL2.below hb5
  have hBt5:=hBt2.upM hb5 hBt2.size
  have hm5:mb<w5.heap.size:=hV5.lt
  have hM5:=hM2.bl hb5 hV2.lt
  have hQ5:AwQ w5 H cb GG n vs ((List.range k).filter AA):=hQ2.map fun vq l h=>h.below hb5
  have hKc5:Kc (w2.heap.size+2) H W w5:=hKc2.trans (Kc.of_below hb5)
  have hvb5:=(hBt5.cell (p:=⟨vb,0,none⟩) hv2 hvm).trans xv
  have hHw5:H≤w5.heap.size:=by have:=hb5.size;omega
  have x5:=hV5.box
  clear hV2 hHL2 hBt2 hM2 hQ2 hKc2
  cases bk with
  | true=>
    have hnext:Shut ((List.range (k+1)).filter AA=(List.range k).filter AA++[k]):=by unfold Shut;rw[hnext0];rfl
    clear hnext0 hany
    gi_upto_region 5 with fail
    refine wpIn_region_held_drew (S:=fun w'=>w'.cell? ⟨vb,0,none⟩=some (.pointer (some ⟨mb,0,none⟩))) (by kernel_rfl) (by rintro⟨_,_,h⟩;exact h) (by kernel_rfl) ?_ (fun hHeld=> ?_)
    · exact hvb5
    refine tq 0 hHeld ?_
    refine tq 1 hHeld ?_
    refine tq 2 hHeld ?_
    refine tq 3 hHeld ?_
    refine tq 5 hHeld ?_
    refine wpAnyH_ready (rs:=[4,6]) (by kernel_rfl) (by simp) ?_
    refine AllReadyH.cons rfl (fun K hK=> ?_) (AllReadyH.cons rfl (fun K hK=> ?_) AllReadyH.nil)
    · (go_simp
       refine tr hK (fun hHeld=> ?_) (by first|exact hHeld|assumption)
       clear hK K)
      refine tc 6 fun K hK=> ?_
      (go_simp
       have hE3:Below w5.heap.size w5 (w5.alloc (Obj.cells #[.slice (some ⟨mg,0,none⟩) ms.length mc] 49)).drew:=Below.drew ((Below.refl _ _).alloc (Nat.le_refl _) _)
       have q0:(w5.alloc (Obj.cells #[.slice (some ⟨mg,0,none⟩) ms.length mc] 49)).drew.cell? ⟨w5.heap.size,0,none⟩=some (.slice (some ⟨mg,0,none⟩) ms.length mc):=by go_simp
       generalize (w5.alloc (Obj.cells #[.slice (some ⟨mg,0,none⟩) ms.length mc] 49)).drew=w6 at hE3 q0 ⊢
       have hV6:=hV5.on hE3
       have x6:=hV6.box
       have hv6:=keepL hE3 hvb5
       refine tr hK (fun hHeld=> ?_) hv6
       clear hK K)
      refine tc 7 fun K hK=> ?_
      (refine step_pushS (by rfl) _ _ _ (by rfl) 49 24 (.slice none 0 0) Tryz.underlying167 infoHs rfl (by decide) H v vs.length vs (by rfl) hV6.own w5.heap.size (by rfl) (.slice (some ⟨mg,0,none⟩) ms.length mc) q0 rfl (by omega) (by have:=hE3.size;omega) ?_
       intro g7 c7 w7 ho7 hg7
       obtain⟨⟨n0,nf⟩,hV7,hF7⟩:=hV5.push hE3 hg7 ho7
       have hb7:mb<w7.heap.size:=cell_lt (a:=⟨mb,3,none⟩) n0
       have hFs:=Fr.grown hg7 (X:=fun b=>v.ownBlock=some b) (fun b e=>e) hV6.isCells
       have hv7:=(hFs.cell (p:=⟨vb,0,none⟩) (cell_lt (a:=⟨vb,0,none⟩) hv6) (fun e=>by have e:v.ownBlock=some vb:=e;have:=(World.ownsRow.lt hV6.own vb e).1;omega)).trans hv6
       have hM7:=(hM5.bl hE3 hm5).fr hFs (fun e=>by have e:v.ownBlock=some mb:=e;have:=(World.ownsRow.lt hV6.own mb e).1;omega)
       refine tr hK (fun hHeld=> ?_) hv7
       clear hK K)
      refine tq 8 hHeld ?_
      refine tq 9 hHeld ?_
      refine tc 10 fun K hK=> ?_
      (go_simp
       refine tr hK (fun hHeld=> ?_) (by have:=(Fr.setCell (X:=fun b=>b=mb) (w:=w7) (p:=⟨mb,3,none⟩) rfl (.slice (some ⟨g7,0,none⟩) (vs.length+1) c7)).cell (p:=⟨vb,0,none⟩) (cell_lt (a:=⟨vb,0,none⟩) hv7) (by show ¬ vb=mb;omega);exact this.trans hv7)
       clear hK K)
      refine wpAnyH_done (by kernel_rfl) ?_ _
      go_wp2_with fail
      have hF57:Fr (fun b=>b=mb∨H≤b) w5 (w7.setCell ⟨mb,3,none⟩ (.slice (some ⟨g7,0,none⟩) (vs.length+1) c7)):=hF7
      have hfr:∀ (vq:Value) (l:List Nat),HL w5 H cb vq l→HL (w7.setCell ⟨mb,3,none⟩ (.slice (some ⟨g7,0,none⟩) (vs.length+1) c7)) H cb vq l:=fun vq l h=>
       ((h.below hE3).frame hFs (fun b e=>row_ne h hV5.own (by decide) b e)).frame (X:=fun b=>b=mb) (Fr.setCell (X:=fun b=>b=mb) (p:=⟨mb,3,none⟩) rfl _) (fun b e q=>by have:=(h.lt b e).1;have q:b=mb:=q;omega)
      exact⟨(KeepsFrom.of_below hb5).trans (hF57.keeps _),⟨hHz,hBt5.frM hF57 (fun b e=>e.elim .inl (fun e=> .inr (by omega))),hM7.set,_,vs++[.slice (some ⟨mg,0,none⟩) ms.length mc],by rw[show (vs++[Value.slice (some ⟨mg,0,none⟩) ms.length mc]).length=vs.length+1 by simp];exact hV7,by rw[hnext.out];exact hQ5.push hfr (by rw[←hms.out];exact hfr _ _ hHL5)⟩,hKc5.trans (Kc.fr hF57 (fun b e=>e.elim (fun e=> .inl (by omega)) (fun e=> .inr e)))⟩
    · (go_simp
       have hE3:Below w5.heap.size w5 (w5.alloc (Obj.cells #[.slice (some ⟨mg,0,none⟩) ms.length mc] 49)).drew:=Below.drew ((Below.refl _ _).alloc (Nat.le_refl _) _)
       have q0:(w5.alloc (Obj.cells #[.slice (some ⟨mg,0,none⟩) ms.length mc] 49)).drew.cell? ⟨w5.heap.size,0,none⟩=some (.slice (some ⟨mg,0,none⟩) ms.length mc):=by go_simp
       generalize (w5.alloc (Obj.cells #[.slice (some ⟨mg,0,none⟩) ms.length mc] 49)).drew=w6 at hE3 q0 ⊢
       have hV6:=hV5.on hE3
       have x6:=hV6.box
       have hv6:=keepL hE3 hvb5
       refine tr hK (fun hHeld=> ?_) hv6
       clear hK K)
      refine tc 4 fun K hK=> ?_
      (go_simp
       refine tr hK (fun hHeld=> ?_) (by first|exact hHeld|assumption)
       clear hK K)
      refine tc 7 fun K hK=> ?_
      (refine step_pushS (by rfl) _ _ _ (by rfl) 49 24 (.slice none 0 0) Tryz.underlying167 infoHs rfl (by decide) H v vs.length vs (by rfl) hV6.own w5.heap.size (by rfl) (.slice (some ⟨mg,0,none⟩) ms.length mc) q0 rfl (by omega) (by have:=hE3.size;omega) ?_
       intro g7 c7 w7 ho7 hg7
       obtain⟨⟨n0,nf⟩,hV7,hF7⟩:=hV5.push hE3 hg7 ho7
       have hb7:mb<w7.heap.size:=cell_lt (a:=⟨mb,3,none⟩) n0
       have hFs:=Fr.grown hg7 (X:=fun b=>v.ownBlock=some b) (fun b e=>e) hV6.isCells
       have hv7:=(hFs.cell (p:=⟨vb,0,none⟩) (cell_lt (a:=⟨vb,0,none⟩) hv6) (fun e=>by have e:v.ownBlock=some vb:=e;have:=(World.ownsRow.lt hV6.own vb e).1;omega)).trans hv6
       have hM7:=(hM5.bl hE3 hm5).fr hFs (fun e=>by have e:v.ownBlock=some mb:=e;have:=(World.ownsRow.lt hV6.own mb e).1;omega)
       refine tr hK (fun hHeld=> ?_) hv7
       clear hK K)
      refine tq 8 hHeld ?_
      refine tq 9 hHeld ?_
      refine tc 10 fun K hK=> ?_
      (go_simp
       refine tr hK (fun hHeld=> ?_) (by have:=(Fr.setCell (X:=fun b=>b=mb) (w:=w7) (p:=⟨mb,3,none⟩) rfl (.slice (some ⟨g7,0,none⟩) (vs.length+1) c7)).cell (p:=⟨vb,0,none⟩) (cell_lt (a:=⟨vb,0,none⟩) hv7) (by show ¬ vb=mb;omega);exact this.trans hv7)
       clear hK K)
      refine wpAnyH_done (by kernel_rfl) ?_ _
      go_wp2_with fail
      have hF57:Fr (fun b=>b=mb∨H≤b) w5 (w7.setCell ⟨mb,3,none⟩ (.slice (some ⟨g7,0,none⟩) (vs.length+1) c7)):=hF7
      have hfr:∀ (vq:Value) (l:List Nat),HL w5 H cb vq l→HL (w7.setCell ⟨mb,3,none⟩ (.slice (some ⟨g7,0,none⟩) (vs.length+1) c7)) H cb vq l:=fun vq l h=>
       ((h.below hE3).frame hFs (fun b e=>row_ne h hV5.own (by decide) b e)).frame (X:=fun b=>b=mb) (Fr.setCell (X:=fun b=>b=mb) (p:=⟨mb,3,none⟩) rfl _) (fun b e q=>by have:=(h.lt b e).1;have q:b=mb:=q;omega)
      exact⟨(KeepsFrom.of_below hb5).trans (hF57.keeps _),⟨hHz,hBt5.frM hF57 (fun b e=>e.elim .inl (fun e=> .inr (by omega))),hM7.set,_,vs++[.slice (some ⟨mg,0,none⟩) ms.length mc],by rw[show (vs++[Value.slice (some ⟨mg,0,none⟩) ms.length mc]).length=vs.length+1 by simp];exact hV7,by rw[hnext.out];exact hQ5.push hfr (by rw[←hms.out];exact hfr _ _ hHL5)⟩,hKc5.trans (Kc.fr hF57 (fun b e=>e.elim (fun e=> .inl (by omega)) (fun e=> .inr e)))⟩
  | false=>
    have hnext:Shut ((List.range (k+1)).filter AA=(List.range k).filter AA):=by unfold Shut;rw[hnext0];simp
    clear hnext0 hany
    gi_wp2
    exact⟨KeepsFrom.of_below hb5,⟨hHz,hBt5,hM5,v,vs,hV5,by rw[hnext.out];exact hQ5⟩,hKc5⟩
end
end Go.Proofs.YtpmjnpmnocjjgaaGreatDoor
namespace Go.Proofs.YtpmjnpmnocjjgaaGreatDoor
open Go.RowKit
set_option linter.unusedVariables false
set_option linter.unusedSimpArgs false
theorem push_any (mb cb n M:Nat) (aM:Option Addr) (cc:Nat) (U Ct:Nat→Int) (S:Nat→Value) (w:World) (hC:Cs w cb n (colOf U) S) (hm0:w.cell? ⟨mb,0,none⟩=some (.pointer (some ⟨cb,0,none⟩))) (hm2:w.cell? ⟨mb,2,none⟩=some (.slice aM M cc)) (p4:Value) (hm4:w.cell? ⟨mb,4,none⟩=some p4) (hf4:w.frozen? ⟨mb,4,none⟩=false) (hmx:¬ Xc S mb) (hmc:¬ cb=mb) (hFt:Flat w aM (M*5) Ct) (ct:CtOk n M Ct) (hM:M≤144) (hn:n≤12) (hbb:Bods n U) (m:Nat) (hm:(liveL U Ct M).length=m*5) (ctl:CtOk n m (ofL (liveL U Ct M))):
 Calls Tryz.prog 112 #[.pointer (some ⟨mb,0,none⟩)] w fun e w'=>e= .returned (.tuple #[])∧∃ rb,w.heap.size≤rb∧Rv w' rb m cb (ofL (liveL U Ct M))∧w'.cell? ⟨mb,4,none⟩=some (.pointer (some ⟨rb,0,none⟩))∧Cs w' cb n (colOf (allN (ofL (liveL U Ct M)) U m 4)) S∧Fr (fun b=>Xc S b∨b=mb) w w'∧(∀ o x,o≠4→w.cell? ⟨mb,o,none⟩=some x→w'.cell? ⟨mb,o,none⟩=some x):=by
 have hset:=cset_map
 have hml:mb<w.heap.size:=cell_lt (a:=⟨mb,0,none⟩) hm0
 have hcw:=hC.lt
 have hxl:∀ b,Xc S b→b<w.heap.size:=fun b e=>(hC.xlt e).2
 have hml5:m≤1048576:=by have:=liveL_len U Ct M;omega
 go_enter Tryz.func112,Tryz.ntmps112
 go_upto_region 1 with(go_at_call 137;refine(pushing_any mb cb n M aM cc U Ct S _ hC hm0 hm2 hFt ct hM hn hbb m hm).mono ?_;rintro e w1 ⟨rb,rfl,hrb,hR1,hb1⟩;have s4:=keepL hb1 hm4;have g4:=(hb1.frozen (p:=⟨mb,4,none⟩) hml).trans hf4;have hl1:mb<w1.heap.size:=Nat.lt_of_lt_of_le hml hb1.size)
 have hF1:Fr (fun b=>b=mb) w1 (w1.setCell ⟨mb,4,none⟩ (.pointer (some ⟨rb,0,none⟩))):=Fr.setCell (X:=fun b=>b=mb) (p:=⟨mb,4,none⟩) rfl _
 have x4:(w1.setCell ⟨mb,4,none⟩ (.pointer (some ⟨rb,0,none⟩))).cell? ⟨mb,4,none⟩=some (.pointer (some ⟨rb,0,none⟩)):=by rw[cset_map,s4];rfl
 have hoth:∀ o x,o≠4→w.cell? ⟨mb,o,none⟩=some x→(w1.setCell ⟨mb,4,none⟩ (.pointer (some ⟨rb,0,none⟩))).cell? ⟨mb,o,none⟩=some x:=fun o x ho hx=>by
  rw[World.cell?_setCell_other _ (h:=by intro e;cases e;exact ho rfl)]
  exact keepL hb1 hx
 have hC2:=(hC.below hb1).frame hF1 hmc (fun b e q=>hmx (q▸e))
 have hR2:=hR1.fr hF1 (fun b e q=>by have q:b=mb:=q;omega)
 generalize (w1.setCell ⟨mb,4,none⟩ (.pointer (some ⟨rb,0,none⟩)))=w2 at hF1 x4 hC2 hR2 hoth ⊢
 go_wp2_with (go_at_call 138;refine(pushAll_v hR2 hC2 hml5 (by omega) hbb ctl (by omega) (fun b e=>by have:=hxl b e;omega)).mono ?_;rintro e w3 ⟨rfl,hR3,hC3,hF3⟩)
 go_end0
 refine⟨rfl,rb,hrb,hR3,(hF3.cell (p:=⟨mb,4,none⟩) (cell_lt (a:=⟨mb,4,none⟩) x4) (fun e=>e.elim hmx (fun e=>by have e:mb=rb:=e;omega))).trans x4,hC3,?_,fun o x ho hx=>(hF3.cell (p:=⟨mb,o,none⟩) (cell_lt (a:=⟨mb,4,none⟩) x4) (fun e=>e.elim hmx (fun e=>by have e:mb=rb:=e;omega))).trans (hoth o x ho hx)⟩
 have h1:Fr (fun b=>Xc S b∨b=mb) w w2:=(Fr.of_below hb1).trans' hF1 (fun i _ e=> .inr e)
 exact h1.trans' hF3 (fun i hi e=>e.elim .inl (fun e=>by omega))
theorem fallAsleep_any (mb cb n D:Nat) (U G:Nat→Int) (gs:List Nat) (v:Value) (S:Nat→Value) (w:World) (hC:Cs w cb n (colOf U) S) (hm3:w.cell? ⟨mb,3,none⟩=some v) (hmx:¬ Xc S mb) (hA:AwL w D cb v G n gs) (hxD:∀ b,Xc S b→b<D) (hgl:gs.length≤12) (hnd:gs.Nodup) (hn:n≤12)
 (hq7:∀ j,j<n→∀ t,t∈gs→G j=(t:Int)→U (j*12+11)≤7):
 Calls Tryz.prog 115 #[.pointer (some ⟨mb,0,none⟩)] w fun e w'=>e= .returned (.tuple #[])∧Cs w' cb n (colOf (slpL G n U gs)) S∧Fr (Xc S) w w':=by
 have hset:=cset_map
 have hml:mb<w.heap.size:=cell_lt (a:=⟨mb,3,none⟩) hm3
 have hxl:∀ b,Xc S b→b<w.heap.size:=fun b e=>(hC.xlt e).2
 have hAA:∀ A,Fr (Xc S) w A→AwL A D cb v G n gs:=fun A h=>hA.fr h (fun b h1 _ e=>by have:=hxD b e;omega)
 obtain⟨av,ac,rfl,-⟩:=id hA
 obtain⟨K,hK⟩:∃ x,gs.length=x:=⟨_,rfl⟩
 go_enter Tryz.func115,Tryz.ntmps115
 have x3:=hm3
 rw[hK] at x3
 go_upto_region 1 with fail
 clear x3
 go_loopw [11,3,5] (fun s _ _ wr=>∃ (q:Nat),q≤K∧s= .int .i64 (q:Int)∧Cs wr cb n (colOf (slpL G n U (gs.take q))) S∧Fr (Xc S) w wr) (fun s _ _ _=>K-(intOf s).toNat)
 case atStart=>exact⟨0,Nat.zero_le _,rfl,hC,Fr.refl _ _⟩
 case round=>
  obtain⟨q,hq,rfl,hCr,hFr⟩:=hrel
  by_cases hlt:q<K
  · have hqK:(q:Int)<(K:Int):=by omega
    have hqg:q<gs.length:=by omega
    obtain⟨a',c',e',hqq⟩:=hAA _ hFr
    cases e'
    obtain⟨b2,o2,vq,rfl,hb2D,hb2l,hvq,hHL⟩:=hqq q hqg
    have hst:=slp_take (G:=G) (U:=U) (n:=n) hqg
    obtain⟨t,ht⟩:∃ x,gs[q]=x:=⟨_,rfl⟩
    rw[ht] at hHL hst
    have htm:t∈gs:=ht▸List.getElem_mem hqg
    have htn:t ∉ gs.take q:=fun hm=>by
     obtain⟨i,hi,e⟩:=List.mem_iff_getElem.1 hm
     rw[List.length_take] at hi
     rw[List.getElem_take] at e
     exact absurd ((List.getElem_inj hnd).1 (e.trans ht.symm)) (by omega)
    obtain⟨V,hV⟩:∃ x,slpL G n U (gs.take q)=x:=⟨_,rfl⟩
    have hVq:∀ j,j<n→G j=(t:Int)→V (j*12+11)≤7:=fun j hj hg=>by
     rw[←hV,slp_row hj (by omega) (gs.take q) U (fun s hs e=>htn ((Int.ofNat.inj (e.symm.trans hg))▸hs))]
     exact hq7 j hj t htm hg
    rw[hV] at hCr hst
    have hri:=rest_iff (G:=G) (U:=V) hVq
    obtain⟨ms,hms⟩:∃ x,memG G n t=x:=⟨_,rfl⟩
    rw[hms] at hHL hri
    have hmsn:ms.length≤12:=by rw[←hms];exact Nat.le_trans (memG_len _ _ _) hn
    have hmsm:∀ j,j∈ms→j<n:=fun j hj=>by rw[←hms] at hj;exact(memG_mem.1 hj).1
    obtain⟨ma,mc,rfl⟩:=hHL.is
    have hHA:∀ A,Fr (Xc S) wr A→HL A D cb (.slice ma ms.length mc) ms:=fun A h=>hHL.frame h (fun b e k=>by have:=hxD b k;have:=(hHL.lt b e).1;omega)
    clear hqq hVq
    obtain⟨Lm,hLm⟩:∃ x,ms.length=x:=⟨_,rfl⟩
    rw[hLm] at hvq hmsn
    cases hall:allQ G V t n with
    | false=>
      have hst2:Shut (slpL G n U (gs.take (q+1))=V):=by unfold Shut;rw[hst];unfold sleepS;rw[hall];rfl
      have hri2:ms.any (fun j=>colOf V 11 j !=7)=true:=by rw[show (fun j=>colOf V 11 j !=7)=fun j=>V (j*12+11) !=7 from rfl,hri,hall];rfl
      clear hri hall hst
      go_wp2_with (go_at_call 142;refine(containsFunc_any wr hCr (hLm▸hHL) hmsm hn (by omega) true hri2).mono ?_;rintro e w5 ⟨rfl,hb5⟩)
      go_roundw
      case rel=>exact⟨q+1,by omega,by go_num,by rw[hst2.out];exact hCr.below hb5,hFr.trans (Fr.of_below hb5)⟩
      case measure=>simp[intOf];omega
    | true=>
      have hst2:Shut (slpL G n U (gs.take (q+1))=mapR (slF G t) V n):=by unfold Shut;rw[hst];unfold sleepS;rw[hall];rfl
      have hri2:ms.any (fun j=>colOf V 11 j !=7)=false:=by rw[show (fun j=>colOf V 11 j !=7)=fun j=>V (j*12+11) !=7 from rfl,hri,hall];rfl
      clear hri hall hst
      go_upto_region 5 with(go_at_call 142;refine(containsFunc_any wr hCr (hLm▸hHL) hmsm hn (by omega) false hri2).mono ?_;rintro e w5 ⟨rfl,hb5⟩)
      have hF5:Fr (Xc S) wr w5:=Fr.of_below hb5
      go_loopw [20,5] (fun s _ wr'=>∃ (p:Nat) (P2:Nat→Bool),p≤Lm∧s= .int .i64 (p:Int)∧(∀ j,j<n→P2 j=decide (j∈ms.take p))∧Cs wr' cb n (colOf (fsU P2 n V)) S∧Fr (Xc S) wr wr') (fun s _ _=>Lm-(intOf s).toNat)
      case atStart=>
       refine⟨0,fun _=>false,Nat.zero_le _,rfl,fun j _=>by simp,(hCr.below hb5).congr fun i j hi hj=> ?_,hF5⟩
       rw[fsU_row hj i hi];rfl
      case round=>
       obtain⟨p,P2,hp,rfl,hP2,hC2,hF2⟩:=hrel
       by_cases hlp:p<Lm
       · have hpL:(p:Int)<(Lm:Int):=by omega
         have hw:=hHA _ hF2
         have hpm:p<ms.length:=by omega
         obtain⟨g,rfl⟩:∃ g,ma=some ⟨g,0,none⟩:=by
          rcases hw.2 with⟨q1,q2⟩|⟨g,c,cur,hv,-⟩
          · omega
          · cases hv;exact⟨_,rfl⟩
         obtain⟨c0,c1⟩:=hw.cells hpm
         obtain⟨r,hr⟩:∃ r,ms[p]=r:=⟨_,rfl⟩
         rw[hr] at c0
         have hrn:r<n:=hmsm r (hr▸List.getElem_mem hpm)
         have htk:∀ j,j<n→decide (j∈ms.take (p+1))=(P2 j||decide (j=r)):=fun j hj=>by
          rw[hP2 j hj,List.take_succ_eq_append_getElem hpm,hr]
          simp only[List.mem_append,List.mem_singleton]
          exact Bool.decide_or _ _
         obtain⟨P3,hP3⟩:∃ P3:Nat→Bool,∀ j,j<n→P3 j=(P2 j||decide (j=r)):=⟨fun j=>P2 j||decide (j=r),fun _ _=>rfl⟩
         have hE1:Below wr.heap.size wr (wr.alloc (Obj.cells #[.int .i64 (r:Int),.pointer (some ⟨cb,0,none⟩)] 76)):=(Below.refl _ _).alloc (Nat.le_refl _) _
         have hCE:=hC2.below hE1
         have z0:(wr.alloc (Obj.cells #[.int .i64 (r:Int),.pointer (some ⟨cb,0,none⟩)] 76)).cell? ⟨wr.heap.size,0,none⟩=some (.int .i64 (r:Int)):=by go_simp
         have z1:(wr.alloc (Obj.cells #[.int .i64 (r:Int),.pointer (some ⟨cb,0,none⟩)] 76)).cell? ⟨wr.heap.size,1,none⟩=some (.pointer (some ⟨cb,0,none⟩)):=by go_simp
         have hxr:¬ Xc S wr.heap.size:=fun e=>by have:=hxl _ e;have:=hFr.size;have:=hF2.size;omega
         have hlr:wr.heap.size<(wr.alloc (Obj.cells #[.int .i64 (r:Int),.pointer (some ⟨cb,0,none⟩)] 76)).heap.size:=by simp
         go_wp2_with (first
          |(have _:=hC6;go_at_call 135;refine(kSetDrive hC6 hrn (by omega) 0 0).mono ?_;rintro e w7 ⟨rfl,hC7,hF7⟩)
          |(go_at_call 131;refine(kSetQuiet hCE hrn (by omega) 8).mono ?_;rintro e w6 ⟨rfl,hC6,hF6⟩;have z2:=(hF6.cell (p:=⟨wr.heap.size,0,none⟩) hlr hxr).trans z0;have z3:=(hF6.cell (p:=⟨wr.heap.size,1,none⟩) hlr hxr).trans z1))
         go_roundw
         case rel=>exact⟨p+1,P3,by omega,by go_num,fun j hj=>(hP3 j hj).trans (htk j hj).symm,hC7.congr (fsU_set hrn hP3),((hF2.trans (Fr.of_below hE1)).trans hF6).trans hF7⟩
         case measure=>simp[intOf];omega
       · obtain rfl:p=Lm:=by omega
         go_wp2
         go_roundw
         case rel=>
          refine⟨q+1,by omega,by go_num,?_,hFr.trans hF2⟩
          rw[hst2.out]
          refine hC2.congr fun i j hi hj=> ?_
          rw[fsU_row hj i hi,hP2 j hj,←hLm,List.take_length]
          unfold colOf
          rw[mapR_in hj hi]
          unfold slF
          rw[decide_eq_decide.2 (show j∈ms↔G j=(t:Int) from by rw[←hms];exact memG_mem.trans ⟨fun h=>h.2,fun h=>⟨hj,h⟩⟩)]
         case measure=>simp[intOf];omega
  · obtain rfl:q=K:=by omega
    go_wp2
    go_end0
    rw[←hK,List.take_length] at hCr
    exact⟨rfl,hCr,hFr⟩
def awO (n:Nat) (U:Nat→Int):List Bool:=bif bodsB n U then awL U (ofL (grpU n U)) n else []
theorem awO_len (n:Nat) (U:Nat→Int):(awO n U).length≤12:=by
 unfold awO
 cases h:bodsB n U with
 |false=>exact Nat.zero_le _
 |true=>exact Nat.le_trans (awL_len _ _ n) (bods_n h)
theorem awO_y {n:Nat} {U:Nat→Int} (h:bodsB n U=true):awO n U=awL U (ofL (grpU n U)) n:=by unfold awO;rw[h];rfl
theorem awO_n {n:Nat} {U:Nat→Int} (h:bodsB n U=false):awO n U=[]:=by unfold awO;rw[h];rfl
theorem bods_body {U:Nat→Int} {n k:Nat} (h:bodsB n U=true) (l:k<n):bodyB (fun j=>U (k*12+j))=true:=by
 unfold bodsB at h
 rw[Bool.and_eq_true] at h
 have key:∀ m,allBB U m=true→k<m→stepBB U k=true:=by
  intro m
  induction m with
  |zero=>intro _ l;omega
  | succ m ih=>
    intro hm l
    unfold allBB at hm
    rw[Bool.and_eq_true] at hm
    by_cases e:k=m
    · subst e;exact hm.2
    · exact ih hm.1 (by omega)
 have:=key n h.2 l
 unfold stepBB at this
 rw[Bool.and_eq_true] at this
 exact this.1
theorem bods_quiet {U:Nat→Int} {n k:Nat} (h:bodsB n U=true) (l:k<n):0≤U (k*12+11)∧U (k*12+11)≤8:=by
 have h2:=bods_body h l
 unfold bodyB at h2
 simp only[Bool.and_eq_true] at h2
 exact of_decide_eq_true h2.2.2.2.2.2.2.2.1
theorem bods_q {n:Nat} {U:Nat→Int} (h:bodsB n U=true):∀ j,j<n→decide (colOf U 11 j=8)=slG U j:=fun j hj=>by
 have q:=bods_quiet h hj
 unfold slG colOf
 exact decide_eq_decide.2 ⟨fun e=>by omega,fun e=>by omega⟩
theorem awakeI_q (a:Option Addr) (n c:Nat) (U:Nat→Int) (N:Nat) (w:World) (h:Flat w a (n*12) U) (hn:n≤1048576) (hN:(awO n U).length=N):
 Calls Tryz.prog 8 #[.slice a n c] w fun e w'=>∃ a' c',e= .returned (.slice a' N c')∧OutB w w' a' N c' (fun j=>(awO n U).getD j false):=by
 have hset:=cset_map
 cases hok:bodsB n U with
 | true=>
   have h12:=bods_n hok
   obtain⟨hM,hMk⟩:=conN_eq U h12
   refine(groupAwake_any a n c U _ w h hok h12 hM (by omega) (bods_q hok)).mono ?_
   rintro e w' ⟨v,m,bl,rfl,hm,ho,hl,hb,hB⟩
   obtain⟨e1,e2⟩:=awL_eq (lab_tops U (ofL (conL (colOf U) n)) (conN n U)) (grpU_eq h12) n (Nat.le_refl _)
   have ee:bl=awO n U:=by
    rw[awO_y hok]
    exact bool_eq (by rw[hl,hm,e1]) (fun t ht=>by rw[hb t (by omega),e2 t (by omega)])
   subst ee
   obtain rfl:m=N:=by rw[←hl,hN]
   rw[BV_bol hl] at ho
   have hv:∃ a' c',v= .slice a' m c':=by
    rcases ho.2 with⟨hv,e⟩|⟨g,cap,cur,hv,_⟩
    · exact⟨_,_,by rw[hv,e]⟩
    · exact⟨_,_,hv⟩
   obtain⟨a',c',rfl⟩:=hv
   exact⟨a',c',rfl,hB,ho⟩
 | false=>
   rw[awO_n hok] at hN ⊢
   obtain rfl:0=N:=hN
   refine calls_of_wp_marks Tryz.func8 rfl ?_
   simp only[Tryz.ntmps8,List.size_toArray,List.length_cons,List.length_nil,Nat.reduceAdd,Nat.reduceSub,Array.replicate_succ,Array.replicate_zero,List.push_toArray,List.append_toArray,List.nil_append,List.cons_append]
   go_wp2_with (go_at_call 18;refine(columnsOf_no a n c U _ h hn hok).mono ?_;rintro e w1 ⟨rfl,hb1⟩)
   refine marks_ret0 (v:= .slice none 0 0) rfl ?_ ⟨none,0,rfl,hb1,OwnB.nil _ _ _⟩
   simp[results,Tryz.results8,go_sem, *]
end Go.Proofs.YtpmjnpmnocjjgaaGreatDoor
