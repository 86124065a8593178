/- Texts of a proof. -/
import Derived.Test.YthajilkjfkppoaaGreatDoorB45
import Derived.Deep.RegionHeld3
import Derived.Deep.DeepCutAuto
import Derived.LoopNIn
import Derived.LoopIn
import Derived.OwnWalkIn
set_option maxHeartbeats 16000000
set_option maxRecDepth 20000
namespace Go.Proofs.YthajilkjfkppoaaGreatDoor
open Go.RowKit
set_option linter.unusedVariables false
set_option linter.unusedSimpArgs false
section
attribute [local go_sem] Oper.semAt_some
theorem motionOf_any (cb n:Nat) (g:Int) (U:Nat→Int) (S:Nat→Value) (w:World) (hC:Cs w cb n (colOf U) S) (hbb:Bods n U):
 Calls Tryz.prog 96 #[.pointer (some ⟨cb,0,none⟩),.int .i64 g] w fun e w'=>∃ mb aM cM v,e= .returned (.pointer (some ⟨mb,0,none⟩))∧w.heap.size≤mb∧Below w.heap.size w w'∧Mf w' mb cb g (.slice aM (ctM n U) cM)∧Flat w' aM (ctM n U*5) (ctC n U)∧(∀ b o,aM=some ⟨b,o,none⟩→0<ctM n U*5→w.heap.size≤b∧b<mb)∧w'.cell? ⟨mb,3,none⟩=some v∧w'.frozen? ⟨mb,3,none⟩=false∧AwL w' (mb+1) cb v (gpG n U) n ((List.range (awN n U)).filter (awA n U)):=by
 have hset:=cset_map
 have hn:=hbb.le
 have hn20:n≤1048576:=by omega
 obtain⟨ct,hM5⟩:=ct_ok n U
 have hMk:ctM n U≤144:=by
  obtain⟨m,e,hm⟩:=conOut_len (colOf U) n n
  have e':(conL (colOf U) n).length=m*5:=e
  have:=Nat.mul_le_mul hn hn
  omega
 obtain⟨M,hMe⟩:∃ x,ctM n U=x:=⟨_,rfl⟩
 rw[hMe] at ct hM5 hMk ⊢
 obtain⟨L,hL⟩:∃ L,lab (edg U (ofL (conL (colOf U) n))) M=L:=⟨_,rfl⟩
 have hT:Tops (fxU U) L:=hL▸lab_tops U _ M
 have hG:∀ j,j<n→gpG n U j=gnum (fxU U) L j:=fun j hj=>by
  unfold gpG
  rw[hMe]
  exact(grpL_eq ct j hj).trans (by rw[←hL];rfl)
 have hA:=awL_eq hT hG n (Nat.le_refl _)
 have hN:awN n U=cntp (fstB (fxU U) L) n:=hA.1
 have hAw:∀ t,t<awN n U→awA n U t=awk (fxU U) L (slG U) n t:=fun t ht=>hA.2 t (hN▸ht)
 have hGr:∀ w1,Cs w1 cb n (colOf U) S→ItG Tryz.prog 116 #[.pointer (some ⟨cb,0,none⟩)] (ColF cb n (fxU U)) (GrE cb n (fxU U) L) (cntp (fstB (fxU U) L) n) w1:=fun w1 hC=>groups_any cb n U S M w1 hC hn hM5 (by omega) L (fun j=>by rw[←hL]) (fxU U)
 have hsl:∀ j,j<n→decide (colOf U 11 j=8)=slG U j:=fun j hj=>by
  have:0≤U (j*12+11)∧U (j*12+11)≤8:=(BOk.of (hbb.ok j hj)).q11
  unfold colOf slG
  exact decide_eq_decide.2 ⟨fun h=>by omega,fun h=>by omega⟩
 obtain⟨sl,hsle⟩:∃ s,slG U=s:=⟨_,rfl⟩
 rw[hsle] at hsl hAw
 obtain⟨GG,hGG⟩:∃ x,gpG n U=x:=⟨_,rfl⟩
 obtain⟨AA,hAA⟩:∃ x,awA n U=x:=⟨_,rfl⟩
 obtain⟨NN,hNN⟩:∃ x,awN n U=x:=⟨_,rfl⟩
 obtain⟨CC,hCC⟩:∃ x,ctC n U=x:=⟨_,rfl⟩
 have hCO:ofL (conL (colOf U) n)=CC:=hCC
 rw[hGG] at hG ⊢
 rw[hAA] at hAw ⊢
 rw[hNN] at hAw hN ⊢
 rw[hCC]
 clear hA hL hMe hsle hGG hAA hNN ct
 refine calls_of_wp_marks Tryz.func96 rfl ?_
 simp only[Tryz.ntmps96,List.size_toArray,List.length_cons,List.length_nil,Nat.reduceAdd,Nat.reduceSub,Array.replicate_succ,Array.replicate_zero,List.push_toArray,List.append_toArray,List.nil_append,List.cons_append]
 go_wp2_with (go_at_call 22;refine(contacts_any cb n (colOf U) S _ hC hn).mono ?_;rintro e w1 ⟨aM,Mq,cM,rfl,hMq,hO1⟩;obtain rfl:Mq=M:=(by omega);rw[hCO] at hO1)
 have hE1:Below w1.heap.size w1 (w1.alloc (Obj.cells #[.pointer (some ⟨cb,0,none⟩),.int .i64 g,.slice aM Mq cM,.slice none 0 0,.pointer none,.slice none 0 0] 173)):=(Below.refl _ _).alloc (Nat.le_refl _) _
 have hE2:Below w1.heap.size w1 ((w1.alloc (Obj.cells #[.pointer (some ⟨cb,0,none⟩),.int .i64 g,.slice aM Mq cM,.slice none 0 0,.pointer none,.slice none 0 0] 173)).alloc (Obj.cells #[.pointer (some ⟨w1.heap.size,0,none⟩)] 127)):=(((Below.refl _ _).alloc (Nat.le_refl _) _).alloc (by simp) _)
 have hMf:Mf ((w1.alloc (Obj.cells #[.pointer (some ⟨cb,0,none⟩),.int .i64 g,.slice aM Mq cM,.slice none 0 0,.pointer none,.slice none 0 0] 173)).alloc (Obj.cells #[.pointer (some ⟨w1.heap.size,0,none⟩)] 127)) w1.heap.size cb g (.slice aM Mq cM):=⟨by go_simp,by go_simp,by go_simp,by go_simp,by go_simp,by go_simp,by go_simp⟩
 have x3:((w1.alloc (Obj.cells #[.pointer (some ⟨cb,0,none⟩),.int .i64 g,.slice aM Mq cM,.slice none 0 0,.pointer none,.slice none 0 0] 173)).alloc (Obj.cells #[.pointer (some ⟨w1.heap.size,0,none⟩)] 127)).cell? ⟨w1.heap.size,3,none⟩=some (.slice none 0 0):=by go_simp
 have g3:((w1.alloc (Obj.cells #[.pointer (some ⟨cb,0,none⟩),.int .i64 g,.slice aM Mq cM,.slice none 0 0,.pointer none,.slice none 0 0] 173)).alloc (Obj.cells #[.pointer (some ⟨w1.heap.size,0,none⟩)] 127)).frozen? ⟨w1.heap.size,3,none⟩=false:=by go_simp
 have xv:((w1.alloc (Obj.cells #[.pointer (some ⟨cb,0,none⟩),.int .i64 g,.slice aM Mq cM,.slice none 0 0,.pointer none,.slice none 0 0] 173)).alloc (Obj.cells #[.pointer (some ⟨w1.heap.size,0,none⟩)] 127)).cell? ⟨w1.heap.size+1,0,none⟩=some (.pointer (some ⟨w1.heap.size,0,none⟩)):=by go_simp
 have hz2:((w1.alloc (Obj.cells #[.pointer (some ⟨cb,0,none⟩),.int .i64 g,.slice aM Mq cM,.slice none 0 0,.pointer none,.slice none 0 0] 173)).alloc (Obj.cells #[.pointer (some ⟨w1.heap.size,0,none⟩)] 127)).heap.size=w1.heap.size+1+1:=by simp
 have hb1:Below w.heap.size w w1:=hO1.bel
 have hz1:=hb1.size
 have hF1:Flat w1 aM (Mq*5) CC:=hO1.own.flat
 have hl1:∀ b,(Value.slice aM Mq cM).ownBlock=some b→w.heap.size≤b∧b<w1.heap.size:=fun b e=>hO1.own.lt b e
 have hFa:∀ b o,aM=some ⟨b,o,none⟩→0<Mq*5→w.heap.size≤b∧b<w1.heap.size:=fun b o e h0=>by
  subst e
  rcases hO1.own.2 with⟨q,_⟩|⟨g0,c0,cur,hv,hb0,hg0,_⟩
  · cases q
  · cases hv
    exact⟨hb0,(Array.getElem?_eq_some_iff.1 hg0).1⟩
 have hF2:=hF1.below hE2
 have hB2:Below w.heap.size w ((w1.alloc (Obj.cells #[.pointer (some ⟨cb,0,none⟩),.int .i64 g,.slice aM Mq cM,.slice none 0 0,.pointer none,.slice none 0 0] 173)).alloc (Obj.cells #[.pointer (some ⟨w1.heap.size,0,none⟩)] 127)):=hb1.trans (hE2.mono hz1)
 clear hE1 hO1 hl1 hM5 hMq
 generalize ((w1.alloc (Obj.cells #[.pointer (some ⟨cb,0,none⟩),.int .i64 g,.slice aM Mq cM,.slice none 0 0,.pointer none,.slice none 0 0] 173)).alloc (Obj.cells #[.pointer (some ⟨w1.heap.size,0,none⟩)] 127))=w2 at hE2 hMf x3 g3 xv hz2 hF2 hB2 ⊢
 have hG2:=hGr w2 (hC.below hB2)
 obtain⟨vb,hvb⟩:∃ x,w1.heap.size+1=x:=⟨_,rfl⟩
 rw[hvb] at xv ⊢
 obtain⟨mb,hmb⟩:∃ x,w1.heap.size=x:=⟨_,rfl⟩
 rw[hmb] at hMf x3 g3 xv hvb hz2 hz1 hFa ⊢
 have hm2:mb<w2.heap.size:=by omega
 have hv2:vb<w2.heap.size:=by omega
 have hvm:¬ vb=mb:=by omega
 clear hmb hGr hF1
 refine wp_range_outG (gf:=116) (bound:= #[.pointer (some ⟨cb,0,none⟩)]) rfl groups_enters hG2 (fun H k args A hE=>by obtain⟨i,v,_,_,_,rfl,_⟩:=hE;rfl)
  (fun H k A=>w2.heap.size≤H∧But mb w2 A∧Mf A mb cb g (.slice aM Mq cM)∧∃ v vs,Va w A H mb 175 v vs.length vs∧AwQ A H cb GG n vs ((List.range k).filter AA)) ?hI ?hIs ?hcol ?h0 ?round ?done
 case hI=>rintro H k A B' ⟨h0,h1,h2,v,vs,h3,h4⟩ hk;exact⟨h0,h1.upM hk.below (by omega),h2.bl hk.below (by omega),v,vs,h3.kx hk (by omega) (by omega),h4.map fun vq l h=>h.kx hk (Nat.le_refl _)⟩
 case hIs=>rintro H k A B' ⟨h0,h1,h2,v,vs,h3,h4⟩ hs;exact⟨h0,h1.upM hs.below (Nat.le_refl _),h2.sm hs,v,vs,h3.sm hs (by omega),h4.map fun vq l h=>h.sm hs⟩
 case hcol=>rintro H k A ⟨_,_,_,v,vs,h3,_⟩;exact⟨_,_,hC.below h3.bel,fun j _=>rfl⟩
 case h0=>
  intro W0 hb hz
  exact⟨by omega,But.of_below hb,hMf.bl hb hm2,.slice none 0 0,[],⟨hB2.trans (hb.mono hB2.size),(hb.cell (p:=⟨mb,3,none⟩) hm2).trans x3,(hb.frozen (p:=⟨mb,3,none⟩) hm2).trans g3,World.ownsRow_nil _ _ _ _,by omega,by omega⟩,rfl,fun q h=>absurd h (Nat.not_lt_zero _)⟩
 case done=>
  rintro D H W hD ⟨h0,h1,h2,v,vs,h3,h4⟩ hK
  have hvW:=(h1.cell (p:=⟨vb,0,none⟩) hv2 hvm).trans xv
  go_wp2
  refine marks_ret (B:=w2.heap.size) hD rfl hK fun W' hS=>⟨.pointer (some ⟨mb,0,none⟩),?_,mb,aM,cM,v,rfl,by omega,(h3.sm hS (by have:=hB2.size;omega)).bel,h2.sm hS,?_,hFa,hS.cell h3.box,hS.frozen h3.box h3.nf,?_⟩
  · simp[results,Tryz.results96,go_sem, *]
  · intro h0'
    obtain⟨b,o,e,hbl,hc⟩:=hF2 h0'
    have:=(hFa b o e h0').2
    exact⟨b,o,e,Nat.lt_of_lt_of_le hbl (Nat.le_trans h1.size hS.size),fun j hj=>hS.cell ((h1.cell (p:=⟨b,o+j,none⟩) hbl (by show ¬ b=mb;omega)).trans (hc j hj))⟩
  · rw[←hN] at h4
    have h5:=h4.map (A':=W') fun vq l h=>h.sm hS
    have h6:=h3.sm hS (by have:=hB2.size;omega)
    refine aw_of h6.own h5 (by omega)
 case round=>
  rintro lr H k W args hlr1 hlr2 hWz ⟨hHz,hBt1,hM1,v,vs,hV1,hQ1⟩ hkk ⟨i,vv,hi,hfi,hck,rfl,hHL⟩
  have hkN:k<NN:=by omega
  have hNn:NN≤n:=hN▸cntp_le (fstB (fxU U) L) n
  have hmem:memL L i n=memG GG n k:=memL_G hT hG hfi hck
  have hany:(memL L i n).any (fun j=> !sl j)=AA k:=(memL_awk hT sl n hfi hck).trans (hAw k hkN).symm
  have hLi:L i=i:=by unfold fstB at hfi;exact of_decide_eq_true (by simp at hfi;exact decide_eq_true hfi.2)
  have hm0:0<(memL L i n).length:=List.length_pos_of_mem ((memL_mem L i n i).2 ⟨hi,hLi⟩)
  have hmm:=memL_mem L i n
  have hml:=memL_le L i n
  clear hG2 x3 g3 hF2 hMf hkk hN
  obtain⟨bk,hbk⟩:∃ b,AA k=b:=⟨_,rfl⟩
  rw[hbk] at hany
  have hnext0:(List.range (k+1)).filter AA=(List.range k).filter AA++(if bk=true then [k] else []):=by
   rw[List.range_succ,List.filter_append,←hbk]
   congr 1
   cases h:AA k<;>simp[List.filter,h]
  have hms:Shut (memL L i n=memG GG n k):=hmem
  clear hmem
  generalize memL L i n=ms at hmm hml hm0 hany hms hHL ⊢
  have hvl:vs.length≤1048576:=by
   rw[hQ1.1]
   have:=List.length_filter_le AA (List.range k)
   rw[List.length_range] at this
   omega
  obtain⟨mg,mc,rfl,hmg,hmg2⟩:=hHL.some hm0
  simp only[List.zip_toArray,List.zip_cons_cons,List.zip_nil_left,List.foldl_toArray,List.foldl_cons,List.foldl_nil,List.setIfInBounds_toArray,List.set_cons_succ,List.set_cons_zero]
  refine wpIn_region_plain (by rintro⟨_,_,h⟩;exact h) (by kernel_rfl) ?_
  go_wp2
  refine⟨KeepsFrom.refl _ _,fun W2 hS hKc hr=> ?_⟩
  have hV2:=hV1.sm hS (by have:=hB2.size;omega)
  have hHL2:=hHL.sm hS
  have hBt2:=hBt1.upM hS.below (Nat.le_refl _)
  have hM2:=hM1.sm hS
  have hQ2:AwQ W2 H cb GG n vs ((List.range k).filter AA):=hQ1.map fun vq l h=>h.sm hS
  have hKc2:Kc (w2.heap.size+2) H W W2:=hKc _ _ hlr2
  have hz2':=hS.size
  clear hV1 hHL hKc hS hr hBt1 hM1 hQ1
  refine wpIn_block ?_
  gi_upto_region 4 with fail
  gi_cut [19] from 20 (fun s19 wc=>s19= .bool bk∧Below W2.heap.size W2 wc)
  case first=>
   refine wpIn_region_plain (by rintro⟨_,_,h⟩;exact h) (by kernel_rfl) ?_
   go_wp2_with (go_at_call 117;refine(oneAwake_any _ (hC.below hV2.bel) hHL2 (fun j hj=>((hmm j).1 hj).1) hn (by omega) hsl bk hany).mono ?_;rintro e w31 ⟨rfl,hx⟩)
   gi_meet
   exact⟨rfl,hx⟩
  case rest=>
  obtain⟨rfl,hb5⟩:=hcut
  obtain⟨w5,rfl⟩:∃ x,x=wc:=⟨_,rfl⟩
  have hV5:=hV2.on hb5
  have hHL5:=hHL2.below hb5
  have hBt5:=hBt2.upM hb5 hBt2.size
  have hm5:mb<w5.heap.size:=hV5.lt
  have hM5:=hM2.bl hb5 hV2.lt
  have hQ5:AwQ w5 H cb GG n vs ((List.range k).filter AA):=hQ2.map fun vq l h=>h.below hb5
  have hKc5:Kc (w2.heap.size+2) H W w5:=hKc2.trans (Kc.of_below hb5)
  have hvb5:=(hBt5.cell (p:=⟨vb,0,none⟩) hv2 hvm).trans xv
  have hHw5:H≤w5.heap.size:=by have:=hb5.size;omega
  have x5:=hV5.box
  clear hV2 hHL2 hBt2 hM2 hQ2 hKc2
  cases bk with
  | true=>
    have hnext:Shut ((List.range (k+1)).filter AA=(List.range k).filter AA++[k]):=by unfold Shut;rw[hnext0];rfl
    clear hnext0 hany
    gi_upto_region 5 with fail
    refine wpIn_region_held_drew (S:=fun w'=>w'.cell? ⟨vb,0,none⟩=some (.pointer (some ⟨mb,0,none⟩))) (by kernel_rfl) (by rintro⟨_,_,h⟩;exact h) (by kernel_rfl) ?_ (fun hHeld=> ?_)
    · exact hvb5
    refine tq 0 hHeld ?_
    refine tq 1 hHeld ?_
    refine tq 2 hHeld ?_
    refine tq 3 hHeld ?_
    refine tq 5 hHeld ?_
    refine wpAnyH_ready (rs:=[4,6]) (by kernel_rfl) (by simp) ?_
    refine AllReadyH.cons rfl (fun K hK=> ?_) (AllReadyH.cons rfl (fun K hK=> ?_) AllReadyH.nil)
    · (go_simp
       refine tr hK (fun hHeld=> ?_) (by first|exact hHeld|assumption)
       clear hK K)
      refine tc 6 fun K hK=> ?_
      (go_simp
       have hE3:Below w5.heap.size w5 (w5.alloc (Obj.cells #[.slice (some ⟨mg,0,none⟩) ms.length mc] 175)).drew:=Below.drew ((Below.refl _ _).alloc (Nat.le_refl _) _)
       have q0:(w5.alloc (Obj.cells #[.slice (some ⟨mg,0,none⟩) ms.length mc] 175)).drew.cell? ⟨w5.heap.size,0,none⟩=some (.slice (some ⟨mg,0,none⟩) ms.length mc):=by go_simp
       generalize (w5.alloc (Obj.cells #[.slice (some ⟨mg,0,none⟩) ms.length mc] 175)).drew=w6 at hE3 q0 ⊢
       have hV6:=hV5.on hE3
       have x6:=hV6.box
       have hv6:=keepL hE3 hvb5
       refine tr hK (fun hHeld=> ?_) hv6
       clear hK K)
      refine tc 7 fun K hK=> ?_
      (refine step_pushS (by rfl) _ _ _ (by rfl) 175 24 (.slice none 0 0) Tryz.underlying170 infoHs rfl (by decide) H v vs.length vs (by rfl) hV6.own w5.heap.size (by rfl) (.slice (some ⟨mg,0,none⟩) ms.length mc) q0 rfl (by omega) (by have:=hE3.size;omega) ?_
       intro g7 c7 w7 ho7 hg7
       obtain⟨⟨n0,nf⟩,hV7,hF7⟩:=hV5.push hE3 hg7 ho7
       have hb7:mb<w7.heap.size:=cell_lt (a:=⟨mb,3,none⟩) n0
       have hFs:=Fr.grown hg7 (X:=fun b=>v.ownBlock=some b) (fun b e=>e) hV6.isCells
       have hv7:=(hFs.cell (p:=⟨vb,0,none⟩) (cell_lt (a:=⟨vb,0,none⟩) hv6) (fun e=>by have e:v.ownBlock=some vb:=e;have:=(World.ownsRow.lt hV6.own vb e).1;omega)).trans hv6
       have hM7:=(hM5.bl hE3 hm5).fr hFs (fun e=>by have e:v.ownBlock=some mb:=e;have:=(World.ownsRow.lt hV6.own mb e).1;omega)
       refine tr hK (fun hHeld=> ?_) hv7
       clear hK K)
      refine tq 8 hHeld ?_
      refine tq 9 hHeld ?_
      refine tc 10 fun K hK=> ?_
      (go_simp
       refine tr hK (fun hHeld=> ?_) (by have:=(Fr.setCell (X:=fun b=>b=mb) (w:=w7) (p:=⟨mb,3,none⟩) rfl (.slice (some ⟨g7,0,none⟩) (vs.length+1) c7)).cell (p:=⟨vb,0,none⟩) (cell_lt (a:=⟨vb,0,none⟩) hv7) (by show ¬ vb=mb;omega);exact this.trans hv7)
       clear hK K)
      refine wpAnyH_done (by kernel_rfl) ?_ _
      go_wp2_with fail
      have hF57:Fr (fun b=>b=mb∨H≤b) w5 (w7.setCell ⟨mb,3,none⟩ (.slice (some ⟨g7,0,none⟩) (vs.length+1) c7)):=hF7
      have hfr:∀ (vq:Value) (l:List Nat),HL w5 H cb vq l→HL (w7.setCell ⟨mb,3,none⟩ (.slice (some ⟨g7,0,none⟩) (vs.length+1) c7)) H cb vq l:=fun vq l h=>
       ((h.below hE3).frame hFs (fun b e=>row_ne h hV5.own (by decide) b e)).frame (X:=fun b=>b=mb) (Fr.setCell (X:=fun b=>b=mb) (p:=⟨mb,3,none⟩) rfl _) (fun b e q=>by have:=(h.lt b e).1;have q:b=mb:=q;omega)
      exact⟨(KeepsFrom.of_below hb5).trans (hF57.keeps _),⟨hHz,hBt5.frM hF57 (fun b e=>e.elim .inl (fun e=> .inr (by omega))),hM7.set,_,vs++[.slice (some ⟨mg,0,none⟩) ms.length mc],by rw[show (vs++[Value.slice (some ⟨mg,0,none⟩) ms.length mc]).length=vs.length+1 by simp];exact hV7,by rw[hnext.out];exact hQ5.push hfr (by rw[←hms.out];exact hfr _ _ hHL5)⟩,hKc5.trans (Kc.fr hF57 (fun b e=>e.elim (fun e=> .inl (by omega)) (fun e=> .inr e)))⟩
    · (go_simp
       have hE3:Below w5.heap.size w5 (w5.alloc (Obj.cells #[.slice (some ⟨mg,0,none⟩) ms.length mc] 175)).drew:=Below.drew ((Below.refl _ _).alloc (Nat.le_refl _) _)
       have q0:(w5.alloc (Obj.cells #[.slice (some ⟨mg,0,none⟩) ms.length mc] 175)).drew.cell? ⟨w5.heap.size,0,none⟩=some (.slice (some ⟨mg,0,none⟩) ms.length mc):=by go_simp
       generalize (w5.alloc (Obj.cells #[.slice (some ⟨mg,0,none⟩) ms.length mc] 175)).drew=w6 at hE3 q0 ⊢
       have hV6:=hV5.on hE3
       have x6:=hV6.box
       have hv6:=keepL hE3 hvb5
       refine tr hK (fun hHeld=> ?_) hv6
       clear hK K)
      refine tc 4 fun K hK=> ?_
      (go_simp
       refine tr hK (fun hHeld=> ?_) (by first|exact hHeld|assumption)
       clear hK K)
      refine tc 7 fun K hK=> ?_
      (refine step_pushS (by rfl) _ _ _ (by rfl) 175 24 (.slice none 0 0) Tryz.underlying170 infoHs rfl (by decide) H v vs.length vs (by rfl) hV6.own w5.heap.size (by rfl) (.slice (some ⟨mg,0,none⟩) ms.length mc) q0 rfl (by omega) (by have:=hE3.size;omega) ?_
       intro g7 c7 w7 ho7 hg7
       obtain⟨⟨n0,nf⟩,hV7,hF7⟩:=hV5.push hE3 hg7 ho7
       have hb7:mb<w7.heap.size:=cell_lt (a:=⟨mb,3,none⟩) n0
       have hFs:=Fr.grown hg7 (X:=fun b=>v.ownBlock=some b) (fun b e=>e) hV6.isCells
       have hv7:=(hFs.cell (p:=⟨vb,0,none⟩) (cell_lt (a:=⟨vb,0,none⟩) hv6) (fun e=>by have e:v.ownBlock=some vb:=e;have:=(World.ownsRow.lt hV6.own vb e).1;omega)).trans hv6
       have hM7:=(hM5.bl hE3 hm5).fr hFs (fun e=>by have e:v.ownBlock=some mb:=e;have:=(World.ownsRow.lt hV6.own mb e).1;omega)
       refine tr hK (fun hHeld=> ?_) hv7
       clear hK K)
      refine tq 8 hHeld ?_
      refine tq 9 hHeld ?_
      refine tc 10 fun K hK=> ?_
      (go_simp
       refine tr hK (fun hHeld=> ?_) (by have:=(Fr.setCell (X:=fun b=>b=mb) (w:=w7) (p:=⟨mb,3,none⟩) rfl (.slice (some ⟨g7,0,none⟩) (vs.length+1) c7)).cell (p:=⟨vb,0,none⟩) (cell_lt (a:=⟨vb,0,none⟩) hv7) (by show ¬ vb=mb;omega);exact this.trans hv7)
       clear hK K)
      refine wpAnyH_done (by kernel_rfl) ?_ _
      go_wp2_with fail
      have hF57:Fr (fun b=>b=mb∨H≤b) w5 (w7.setCell ⟨mb,3,none⟩ (.slice (some ⟨g7,0,none⟩) (vs.length+1) c7)):=hF7
      have hfr:∀ (vq:Value) (l:List Nat),HL w5 H cb vq l→HL (w7.setCell ⟨mb,3,none⟩ (.slice (some ⟨g7,0,none⟩) (vs.length+1) c7)) H cb vq l:=fun vq l h=>
       ((h.below hE3).frame hFs (fun b e=>row_ne h hV5.own (by decide) b e)).frame (X:=fun b=>b=mb) (Fr.setCell (X:=fun b=>b=mb) (p:=⟨mb,3,none⟩) rfl _) (fun b e q=>by have:=(h.lt b e).1;have q:b=mb:=q;omega)
      exact⟨(KeepsFrom.of_below hb5).trans (hF57.keeps _),⟨hHz,hBt5.frM hF57 (fun b e=>e.elim .inl (fun e=> .inr (by omega))),hM7.set,_,vs++[.slice (some ⟨mg,0,none⟩) ms.length mc],by rw[show (vs++[Value.slice (some ⟨mg,0,none⟩) ms.length mc]).length=vs.length+1 by simp];exact hV7,by rw[hnext.out];exact hQ5.push hfr (by rw[←hms.out];exact hfr _ _ hHL5)⟩,hKc5.trans (Kc.fr hF57 (fun b e=>e.elim (fun e=> .inl (by omega)) (fun e=> .inr e)))⟩
  | false=>
    have hnext:Shut ((List.range (k+1)).filter AA=(List.range k).filter AA):=by unfold Shut;rw[hnext0];simp
    clear hnext0 hany
    gi_wp2
    exact⟨KeepsFrom.of_below hb5,⟨hHz,hBt5,hM5,v,vs,hV5,by rw[hnext.out];exact hQ5⟩,hKc5⟩
end
end Go.Proofs.YthajilkjfkppoaaGreatDoor
