/- Texts of a proof. -/
import Derived.Test.YthajilkjfkppoaaGreatDoorB2
import Derived.Test.YthajilkjfkppoaaGreatDoorB42
import Derived.Deep.RegionHeld3
import Derived.Deep.DeepCutAuto
import Derived.LoopNIn
import Derived.LoopIn
set_option maxHeartbeats 16000000
set_option maxRecDepth 20000
namespace Go.Proofs.YthajilkjfkppoaaGreatDoor
open Go.RowKit
set_option linter.unusedVariables false
set_option linter.unusedSimpArgs false
section
attribute [local go_sem] Oper.semAt_some
theorem pullDown_any (mb cb n:Nat) (g:Int) (U:Nat→Int) (S:Nat→Value) (w:World) (hC:Cs w cb n (colOf U) S) (hm0:w.cell? ⟨mb,0,none⟩=some (.pointer (some ⟨cb,0,none⟩))) (hm1:w.cell? ⟨mb,1,none⟩=some (.int .i64 g)) (hmx:¬ Xc S mb) (hn:n≤12) (hbb:Bods n U) (hg:0≤g∧g≤2560):
 Calls Tryz.prog 119 #[.pointer (some ⟨mb,0,none⟩)] w fun e w'=>e= .returned (.tuple #[])∧Cs w' cb n (colOf (mapR (fun _ V=>pullV g V) U n)) S∧Fr (Xc S) w w':=by
 have hset:=cset_map
 refine calls_of_wp_marks Tryz.func119 rfl ?_
 simp only[Tryz.ntmps119,List.size_toArray,List.length_cons,List.length_nil,Nat.reduceAdd,Nat.reduceSub,Array.replicate_succ,Array.replicate_zero,List.push_toArray,List.append_toArray,List.nil_append,List.cons_append]
 have hxl:∀ b,Xc S b→b<w.heap.size:=fun b e=>(hC.xlt e).2
 have hml:mb<w.heap.size:=cell_lt (a:=⟨mb,0,none⟩) hm0
 have hE0:Below w.heap.size w (w.alloc (Obj.cells #[.pointer (some ⟨mb,0,none⟩)] 127)):=(Below.refl _ _).alloc (Nat.le_refl _) _
 have hz0:w.heap.size<(w.alloc (Obj.cells #[.pointer (some ⟨mb,0,none⟩)] 127)).heap.size:=by simp
 have y0:(w.alloc (Obj.cells #[.pointer (some ⟨mb,0,none⟩)] 127)).cell? ⟨w.heap.size,0,none⟩=some (.pointer (some ⟨mb,0,none⟩)):=by go_simp
 go_upto_region 1 with fail
 generalize (w.alloc (Obj.cells #[.pointer (some ⟨mb,0,none⟩)] 127))=w2 at hE0 hz0 y0 ⊢
 have hC2:=hC.below hE0
 have m0:=keepL hE0 hm0
 have m1:=keepL hE0 hm1
 have hbxx:¬ Xc S w.heap.size:=fun e=>by have:=hxl _ e;omega
 have hml2:mb<w2.heap.size:=by omega
 have hFr0:Fr (Xc S) w w2:=Fr.of_below hE0
 generalize w.heap.size=bx at*
 go_wp2
 refine wp_range_outV (gf:=148) (bound:= #[.pointer (some ⟨mb,0,none⟩)]) rfl live_enters (live_it mb cb n w2 hn) (fun _=>rfl) (fun k V A=>V=mapR (fun _ V=>pullV g V) U k∧Cs A cb n (colOf V) S∧Fr (Xc S) w2 A) ?hI ?hcol U ⟨(mapR_0 _ _).symm,hC2,Fr.refl _ _⟩ ?hskip ?hround ?hdone
 case hI=>rintro k V A B ⟨h1,h2,h3⟩ hs;exact⟨h1,h2.sm hs,h3.sm hs (Nat.le_refl _)⟩
 case hcol=>rintro k V A ⟨h1,h2,h3⟩;exact⟨(h3.cell (p:=⟨mb,0,none⟩) hml2 hmx).trans m0,S,h2⟩
 case hskip=>
  rintro k V A ⟨rfl,h2,h3⟩ hk hl
  rw[lv_row hbb hk] at hl
  have hbk:BOk (fun j=>U (k*12+j)):=BOk.of (hbb.ok k hk)
  have e:mapR (fun _ V=>pullV g V) U (k+1)=mapR (fun _ V=>pullV g V) U k:=mapR_same fun j hj=>by
   show pullV g _ j=_
   rw[pull_no hl]
  exact⟨e.symm,h2,h3⟩
 case hdone=>
  rintro D V A hD ⟨rfl,h2,h3⟩ hK
  go_wp2
  refine marks_ret (B:=w2.heap.size) hD rfl hK fun A' hS=>⟨_,results_none rfl _ _ _,rfl,h2.sm hS,hFr0.trans (h3.sm hS (Nat.le_refl _))⟩
 case hround=>
  rintro l k V A hl1 hl2 hA2 ⟨rfl,hCA,hFA⟩ hk hlv
  rw[lv_row hbb hk] at hlv
  have hbk:BOk (fun j=>U (k*12+j)):=BOk.of (hbb.ok k hk)
  have b4:=hbk.a4
  have b5:=hbk.a5
  have b6:=hbk.d6
  have b7:=hbk.d7
  have b8:=hbk.m8
  have b11:=hbk.q11
  (try simp only at b4 b5 b6 b7 b8 b11)
  simp only[List.zip_toArray,List.zip_cons_cons,List.zip_nil_left,List.foldl_toArray,List.foldl_cons,List.foldl_nil,List.setIfInBounds_toArray,List.set_cons_succ,List.set_cons_zero]
  refine wpIn_region_plain (by rintro⟨_,_,h⟩;exact h) (by kernel_rfl) ?_
  go_wp2
  refine⟨(KeepsOthers.alloc _ _).from _,fun A2 hS hKc hr=> ?_⟩
  clear hr
  have hE1:Below A.heap.size A (A.alloc (Obj.cells #[.int .i64 (k:Int),.pointer (some ⟨cb,0,none⟩)] 59)):=(Below.refl _ _).alloc (Nat.le_refl _) _
  have v0:(A.alloc (Obj.cells #[.int .i64 (k:Int),.pointer (some ⟨cb,0,none⟩)] 59)).cell? ⟨A.heap.size,0,none⟩=some (.int .i64 (k:Int)):=by go_simp
  have v1:(A.alloc (Obj.cells #[.int .i64 (k:Int),.pointer (some ⟨cb,0,none⟩)] 59)).cell? ⟨A.heap.size,1,none⟩=some (.pointer (some ⟨cb,0,none⟩)):=by go_simp
  generalize (A.alloc (Obj.cells #[.int .i64 (k:Int),.pointer (some ⟨cb,0,none⟩)] 59))=A1 at hE1 v0 v1 hS hKc
  have hCk:=(hCA.below hE1).sm hS
  have hFk:Fr (Xc S) w2 A2:=(hFA.trans (Fr.of_below hE1)).sm hS (Nat.le_refl _)
  have hKc2:Kcs (w2.heap.size+2) (fun _=>True) A A2:=(Kcs.of_below hE1).trans (hKc _ _ hl2)
  replace v0:=hS.cell v0
  replace v1:=hS.cell v1
  have hzb:w2.heap.size+2≤A.heap.size:=hA2
  clear hS hE1 hKc hCA hFA
  generalize A.heap.size=ba at v0 v1 hzb ⊢
  have hbal:ba<A2.heap.size:=cell_lt (a:=⟨ba,0,none⟩) v0
  have hbx:¬ Xc S ba:=fun e=>by have:=hxl _ e;omega
  have hat:=hCk.hat hk (by omega)
  rw[row_map] at hat
  have hmA0:=(hFk.cell (p:=⟨mb,0,none⟩) hml2 hmx).trans m0
  have hml3:mb<A2.heap.size:=cell_lt (a:=⟨mb,0,none⟩) hmA0
  refine wpIn_block ?_
  obtain⟨P,hP⟩:∃ P,g*U (k*12+8)=P:=⟨_,rfl⟩
  have hPb:0≤P∧P≤2560000:=by
   rw[←hP]
   exact⟨Int.mul_nonneg hg.1 b8.1,Int.le_trans (Int.mul_le_mul hg.2 b8.2 b8.1 (by omega)) (by omega)⟩
  have hwr:IntKind.i64.wrap P=P:=i64w (by omega)
  obtain⟨Q,hQ⟩:∃ Q,clampZ 20000000 (U (k*12+7)-P)=Q:=⟨_,rfl⟩
  have hQ6:clampZ 20000000 (U (k*12+6))=U (k*12+6):=by unfold clampZ;rw[if_neg (by omega),if_neg (by omega)]
  have hmA1:=(hFk.cell (p:=⟨mb,1,none⟩) hml2 hmx).trans m1
  have hbx0:=(hFk.cell (p:=⟨bx,0,none⟩) (cell_lt (a:=⟨bx,0,none⟩) y0) hbxx).trans y0
  have FF:∀ w',Below A2.heap.size A2 w'→w'.cell? ⟨ba,0,none⟩=some (.int .i64 (k:Int))∧w'.cell? ⟨ba,1,none⟩=some (.pointer (some ⟨cb,0,none⟩))∧w'.cell? ⟨bx,0,none⟩=some (.pointer (some ⟨mb,0,none⟩))∧w'.cell? ⟨mb,1,none⟩=some (.int .i64 g):=fun w' s=>⟨keepL s v0,keepL s v1,keepL s hbx0,keepL s hmA1⟩
  gi_upto_region 3 with fail
  gi_cut [3] from 4 (fun s3 wc=>∃ pb,s3= .pointer (some ⟨pb,0,none⟩)∧A2.heap.size≤pb∧pb<wc.heap.size∧Below A2.heap.size A2 wc∧wc.cell? ⟨pb,0,none⟩=some (.int .i64 (U (k*12+6)))∧wc.cell? ⟨pb,1,none⟩=some (.int .i64 (U (k*12+7)-P)))
  case first=>
   refine wpIn_region_held_drew (S:=fun w'=>Below A2.heap.size A2 w') (by kernel_rfl) (by rintro⟨_,_,h⟩;exact h) (by kernel_rfl) ?_ (fun hHeld=> ?_)
   · exact(Below.refl _ _).drew
   refine tq 0 hHeld ?_ (hv:=by(intro w' s;obtain⟨q0,q1,q2,q3⟩:=FF w' s;go_simp;(try with_reducible rfl)))
   refine tq 2 hHeld ?_ (hv:=by(intro w' s;obtain⟨q0,q1,q2,q3⟩:=FF w' s;go_simp;(try with_reducible rfl)))
   refine tq 3 hHeld ?_
   refine tq 4 hHeld ?_
   refine tq 5 hHeld ?_ (hv:=by(intro w' s;obtain⟨q0,q1,q2,q3⟩:=FF w' s;go_simp;(try with_reducible rfl)))
   refine tq 6 hHeld ?_ (hv:=by(intro w' s;obtain⟨q0,q1,q2,q3⟩:=FF w' s;go_simp;(try with_reducible rfl)))
   refine wpAnyH_ready (rs:=[1,11]) (by kernel_rfl) (by simp) ?_
   refine AllReadyH.cons rfl (fun K hK=> ?_) (AllReadyH.cons rfl (fun K hK=> ?_) AllReadyH.nil)
   · (go_simp;(go_at_call 31;refine(kDrive (hat.below hHeld)).mono ?_;rintro e w8 ⟨rfl,hb8⟩);obtain⟨hc8,hf8⟩:=bcell hb8;have hz8:=hb8.size;(try simp only[zz] at hc8 hf8 hz8);(try have ha8:A2.heap.size<w8.heap.size:=by omega);(try go_wp2_with fail);refine tr hK (fun hHeld=> ?_) (hHeld.trans (hb8.mono hHeld.size));clear hK K)
     refine wpAnyH_ready (rs:=[7,11]) (by kernel_rfl) (by simp) ?_
     refine AllReadyH.cons rfl (fun K hK=> ?_) (AllReadyH.cons rfl (fun K hK=> ?_) AllReadyH.nil)
     · (go_simp;(go_at_call 60;refine(kMass (hat.below hHeld)).mono ?_;rintro e w9 ⟨rfl,hb9⟩);obtain⟨hc9,hf9⟩:=bcell hb9;have hz9:=hb9.size;(try simp only[zz] at hc9 hf9 hz9);(try have ha9:A2.heap.size<w9.heap.size:=by omega);(try have hb9_8:w8.heap.size<w9.heap.size:=by omega);(try go_wp2_with fail);refine tr hK (fun hHeld=> ?_) (hHeld.trans (hb9.mono hHeld.size));clear hK K)
       refine tq 8 hHeld ?_
       refine tq 9 hHeld ?_
       refine wpAnyH_ready (rs:=[10,11]) (by kernel_rfl) (by simp) ?_
       refine AllReadyH.cons rfl (fun K hK=> ?_) (AllReadyH.cons rfl (fun K hK=> ?_) AllReadyH.nil)
       · (go_simp;(go_at_call 149;refine(less_any _ _ _ _ _ (by omega) (by omega) (by omega) (by omega)).mono ?_;rintro e w10 ⟨rfl,hb10⟩);obtain⟨hc10,hf10⟩:=bcell hb10;have hz10:=hb10.size;(try simp only[zz] at hc10 hf10 hz10);(try have ha10:A2.heap.size<w10.heap.size:=by omega);(try have hb10_8:w8.heap.size<w10.heap.size:=by omega);(try have hb10_9:w9.heap.size<w10.heap.size:=by omega);(try go_wp2_with fail);refine tr hK (fun hHeld=> ?_) (hHeld.trans (hb10.mono hHeld.size));clear hK K)
         refine tc 11 fun K hK=> ?_
         (go_simp;refine tr hK (fun hHeld=> ?_) (by first|exact bel_a|exact hHeld.alloc hHeld.size _|exact(hHeld.alloc hHeld.size _).drew);clear hK K)
         refine tc 12 fun K hK=> ?_
         (go_simp;refine tr hK (fun hHeld=> ?_) (by exact bel_a);clear hK K)
         refine wpAnyH_done (by kernel_rfl) ?_ _
         gi_wp2
         gi_meet
         exact⟨_,rfl,by first|(simp;omega)|simp|omega,by first|(simp;omega)|simp|omega,bel_a,by go_simp,by go_simp⟩
       · (go_simp;refine tr hK (fun hHeld=> ?_) (by first|exact bel_a|exact hHeld.alloc hHeld.size _|exact(hHeld.alloc hHeld.size _).drew);clear hK K)
         refine tc 10 fun K hK=> ?_
         (go_simp;(go_at_call 149;refine(less_any _ _ _ _ _ (by omega) (by omega) (by omega) (by omega)).mono ?_;rintro e w10 ⟨rfl,hb10⟩);obtain⟨hc10,hf10⟩:=bcell hb10;have hz10:=hb10.size;(try simp only[zz] at hc10 hf10 hz10);(try have ha10:A2.heap.size<w10.heap.size:=by omega);(try have hb10_8:w8.heap.size<w10.heap.size:=by omega);(try have hb10_9:w9.heap.size<w10.heap.size:=by omega);(try go_wp2_with fail);refine tr hK (fun hHeld=> ?_) (hHeld.trans (hb10.mono hHeld.size));clear hK K)
         refine tc 12 fun K hK=> ?_
         (go_simp;refine tr hK (fun hHeld=> ?_) (by exact bel_a);clear hK K)
         refine wpAnyH_done (by kernel_rfl) ?_ _
         gi_wp2
         gi_meet
         exact⟨_,rfl,by first|(simp;omega)|simp|omega,by first|(simp;omega)|simp|omega,bel_a,by go_simp,by go_simp⟩
     · (go_simp;refine tr hK (fun hHeld=> ?_) (by first|exact bel_a|exact hHeld.alloc hHeld.size _|exact(hHeld.alloc hHeld.size _).drew);clear hK K)
       refine tc 7 fun K hK=> ?_
       (go_simp;(go_at_call 60;refine(kMass (hat.below hHeld)).mono ?_;rintro e w9 ⟨rfl,hb9⟩);obtain⟨hc9,hf9⟩:=bcell hb9;have hz9:=hb9.size;(try simp only[zz] at hc9 hf9 hz9);(try have ha9:A2.heap.size<w9.heap.size:=by omega);(try have hb9_8:w8.heap.size<w9.heap.size:=by omega);(try go_wp2_with fail);refine tr hK (fun hHeld=> ?_) (hHeld.trans (hb9.mono hHeld.size));clear hK K)
       refine tq 8 hHeld ?_
       refine tq 9 hHeld ?_
       refine tc 10 fun K hK=> ?_
       (go_simp;(go_at_call 149;refine(less_any _ _ _ _ _ (by omega) (by omega) (by omega) (by omega)).mono ?_;rintro e w10 ⟨rfl,hb10⟩);obtain⟨hc10,hf10⟩:=bcell hb10;have hz10:=hb10.size;(try simp only[zz] at hc10 hf10 hz10);(try have ha10:A2.heap.size<w10.heap.size:=by omega);(try have hb10_8:w8.heap.size<w10.heap.size:=by omega);(try have hb10_9:w9.heap.size<w10.heap.size:=by omega);(try go_wp2_with fail);refine tr hK (fun hHeld=> ?_) (hHeld.trans (hb10.mono hHeld.size));clear hK K)
       refine tc 12 fun K hK=> ?_
       (go_simp;refine tr hK (fun hHeld=> ?_) (by exact bel_a);clear hK K)
       refine wpAnyH_done (by kernel_rfl) ?_ _
       gi_wp2
       gi_meet
       exact⟨_,rfl,by first|(simp;omega)|simp|omega,by first|(simp;omega)|simp|omega,bel_a,by go_simp,by go_simp⟩
   · (go_simp;refine tr hK (fun hHeld=> ?_) (by first|exact bel_a|exact hHeld.alloc hHeld.size _|exact(hHeld.alloc hHeld.size _).drew);clear hK K)
     refine tc 1 fun K hK=> ?_
     (go_simp;(go_at_call 31;refine(kDrive (hat.below hHeld)).mono ?_;rintro e w8 ⟨rfl,hb8⟩);obtain⟨hc8,hf8⟩:=bcell hb8;have hz8:=hb8.size;(try simp only[zz] at hc8 hf8 hz8);(try have ha8:A2.heap.size<w8.heap.size:=by omega);(try go_wp2_with fail);refine tr hK (fun hHeld=> ?_) (hHeld.trans (hb8.mono hHeld.size));clear hK K)
     refine tc 7 fun K hK=> ?_
     (go_simp;(go_at_call 60;refine(kMass (hat.below hHeld)).mono ?_;rintro e w9 ⟨rfl,hb9⟩);obtain⟨hc9,hf9⟩:=bcell hb9;have hz9:=hb9.size;(try simp only[zz] at hc9 hf9 hz9);(try have ha9:A2.heap.size<w9.heap.size:=by omega);(try have hb9_8:w8.heap.size<w9.heap.size:=by omega);(try go_wp2_with fail);refine tr hK (fun hHeld=> ?_) (hHeld.trans (hb9.mono hHeld.size));clear hK K)
     refine tq 8 hHeld ?_
     refine tq 9 hHeld ?_
     refine tc 10 fun K hK=> ?_
     (go_simp;(go_at_call 149;refine(less_any _ _ _ _ _ (by omega) (by omega) (by omega) (by omega)).mono ?_;rintro e w10 ⟨rfl,hb10⟩);obtain⟨hc10,hf10⟩:=bcell hb10;have hz10:=hb10.size;(try simp only[zz] at hc10 hf10 hz10);(try have ha10:A2.heap.size<w10.heap.size:=by omega);(try have hb10_8:w8.heap.size<w10.heap.size:=by omega);(try have hb10_9:w9.heap.size<w10.heap.size:=by omega);(try go_wp2_with fail);refine tr hK (fun hHeld=> ?_) (hHeld.trans (hb10.mono hHeld.size));clear hK K)
     refine tc 12 fun K hK=> ?_
     (go_simp;refine tr hK (fun hHeld=> ?_) (by exact bel_a);clear hK K)
     refine wpAnyH_done (by kernel_rfl) ?_ _
     gi_wp2
     gi_meet
     exact⟨_,rfl,by first|(simp;omega)|simp|omega,by first|(simp;omega)|simp|omega,bel_a,by go_simp,by go_simp⟩
  case rest=>
  obtain⟨pb,rfl,hpb1,hpb2,hB4,p0,p1⟩:=hcut
  have hC4:=hCk.below hB4
  have hpx:¬ Xc S pb:=fun e=>by have:=hxl _ e;omega
  have hz4:=hB4.size
  have u0:=keepL hB4 v0
  have u1:=keepL hB4 v1
  gi_upto_region 4 with fail
  refine wpIn_region_held_drew (S:=fun w'=>w'.cell? ⟨ba,0,none⟩=some (.int .i64 (k:Int))∧w'.cell? ⟨ba,1,none⟩=some (.pointer (some ⟨cb,0,none⟩))∧w'.cell? ⟨pb,0,none⟩=some (.int .i64 (U (k*12+6)))∧w'.cell? ⟨pb,1,none⟩=some (.int .i64 (U (k*12+7)-P))) (by kernel_rfl) (by rintro⟨_,_,h⟩;exact h) (by kernel_rfl) ?_ (fun hHeld=> ?_)
  · exact⟨u0,u1,p0,p1⟩
  refine tq 0 hHeld ?_
  refine tq 1 hHeld ?_
  refine tc 2 fun K hK=> ?_
  (go_simp;(go_at_call 57;refine(wayHeld_z _ _ 20000000 (U (k*12+6)) Q _ (by omega) (by omega) (by assumption) (by assumption)).mono ?_;rintro e w11 ⟨rfl,hb11⟩);(try go_wp2_with fail);refine tr hK (fun hHeld=> ?_) ⟨keepL hb11 hHeld.1,keepL hb11 hHeld.2.1,keepL hb11 hHeld.2.2.1,keepL hb11 hHeld.2.2.2⟩;clear hK K)
  refine tc 3 fun K hK=> ?_
  (go_simp;(go_at_call 59;refine(kSetDrive (hC4.below (Below.ofDr hb11)) hk (by omega) _ _).mono ?_;rintro e X9 ⟨rfl,hC9,hF9⟩);(try go_wp2_with fail);refine tr hK (fun hHeld=> ?_) ⟨(hF9.cell (p:=⟨ba,0,none⟩) (cell_lt (a:=⟨ba,0,none⟩) hHeld.1) hbx).trans hHeld.1,(hF9.cell (p:=⟨ba,1,none⟩) (cell_lt (a:=⟨ba,0,none⟩) hHeld.1) hbx).trans hHeld.2.1,(hF9.cell (p:=⟨pb,0,none⟩) (cell_lt (a:=⟨pb,0,none⟩) hHeld.2.2.1) hpx).trans hHeld.2.2.1,(hF9.cell (p:=⟨pb,1,none⟩) (cell_lt (a:=⟨pb,0,none⟩) hHeld.2.2.1) hpx).trans hHeld.2.2.2⟩;clear hK K)
  refine wpAnyH_done (by kernel_rfl) ?_ _
  gi_wp2
  have hall:Fr (Xc S) A2 X9:=(Fr.of_below hB4).trans ((Fr.of_below (Below.ofDr hb11)).trans hF9)
  exact⟨hall.keeps _,⟨_,rfl,by
   have e1:mapR (fun _ V=>pullV g V) U (k+1)=putRow (mapR (fun _ V=>pullV g V) U k) k ((fun _ V=>pullV g V) k (fun j=>U (k*12+j))):=(mapR_set (fun _ V=>pullV g V) U k).symm
   rw[e1]
   refine hC9.congr fun i j hi hj=> ?_
   rw[col_put hi]
   by_cases ej:j=k
   · subst ej
     rw[if_pos rfl]
     show _=pullV g (fun q=>U (j*12+q)) i
     rw[pull_yes hlv,hP,hQ]
     unfold setC setV
     by_cases e7:i=7
     · subst e7;simp
     · by_cases e6:i=6
       · subst e6;simp
       · simp[e6,e7];exact mapR_row _ _ _ _
   · rw[if_neg ej];simp[setC,ej],hFk.trans hall⟩,hKc2.trans (Kcs.fr hall (fun b e=> .inl (by have:=hxl _ e;omega)))⟩
end
end Go.Proofs.YthajilkjfkppoaaGreatDoor
namespace Go.Proofs.YthajilkjfkppoaaGreatDoor
open Go.RowKit
set_option linter.unusedVariables false
set_option linter.unusedSimpArgs false
theorem wake_any (mb cb n D:Nat) (U G:Nat→Int) (gs:List Nat) (v:Value) (S:Nat→Value) (w:World) (hC:Cs w cb n (colOf U) S) (hm0:w.cell? ⟨mb,0,none⟩=some (.pointer (some ⟨cb,0,none⟩))) (hm3:w.cell? ⟨mb,3,none⟩=some v) (p5:Value) (hm5:w.cell? ⟨mb,5,none⟩=some p5) (hf5:w.frozen? ⟨mb,5,none⟩=false) (hmx:¬ Xc S mb) (hmc:¬ cb=mb) (hA:AwL w D cb v G n gs) (hxD:∀ b,Xc S b→b<D) (hgl:gs.length≤12) (hn:n≤12) (hbb:Bods n U)
 (P':Nat→Bool) (hP':∀ j,j<n→P' j=gs.any (fun t=>decide (G j=(t:Int)))):
 Calls Tryz.prog 118 #[.pointer (some ⟨mb,0,none⟩)] w fun e w'=>e= .returned (.tuple #[])∧Cs w' cb n (colOf (wkU P' n U)) S∧Fr (fun b=>Xc S b∨b=mb) w w'∧∃ aq qc,w'.cell? ⟨mb,5,none⟩=some (.slice aq n qc)∧Flat w' aq n (colOf (wkU P' n U) 11)∧(∀ b o,aq=some ⟨b,o,none⟩→w.heap.size≤b)∧(∀ o x,o≠5→w.cell? ⟨mb,o,none⟩=some x→w'.cell? ⟨mb,o,none⟩=some x)∧(∀ o,w.frozen? ⟨mb,o,none⟩=false→w'.frozen? ⟨mb,o,none⟩=false):=by
 have hset:=cset_map
 have hml:mb<w.heap.size:=cell_lt (a:=⟨mb,0,none⟩) hm0
 have hcw:=hC.lt
 have hxl:∀ b,Xc S b→b<w.heap.size:=fun b e=>(hC.xlt e).2
 have hm3A:∀ A,Fr (Xc S) w A→A.cell? ⟨mb,3,none⟩=some v:=fun A h=>(h.cell (p:=⟨mb,3,none⟩) hml hmx).trans hm3
 have hAA:∀ A,Fr (Xc S) w A→AwL A D cb v G n gs:=fun A h=>hA.fr h (fun b h1 _ e=>by have:=hxD b e;omega)
 obtain⟨av,ac,rfl,-⟩:=id hA
 obtain⟨K,hK⟩:∃ x,gs.length=x:=⟨_,rfl⟩
 go_enter Tryz.func118,Tryz.ntmps118
 have x3:=hm3
 rw[hK] at x3
 go_upto_region 1 with fail
 clear x3
 go_loopw [11,3,5] (fun s _ _ wr=>∃ (q:Nat) (P:Nat→Bool),q≤K∧s= .int .i64 (q:Int)∧(∀ j,j<n→P j=(gs.take q).any (fun t=>decide (G j=(t:Int))))∧Cs wr cb n (colOf (wkU P n U)) S∧Fr (Xc S) w wr) (fun s _ _ _=>K-(intOf s).toNat)
 case atStart=>
  refine⟨0,fun _=>false,Nat.zero_le _,rfl,fun j _=>rfl,hC.congr fun i j hi hj=> ?_,Fr.refl _ _⟩
  rw[wkU_row hj i hi];rfl
 case round=>
  obtain⟨q,P,hq,rfl,hP,hCr,hFr⟩:=hrel
  by_cases hlt:q<K
  · have hqK:(q:Int)<(K:Int):=by omega
    obtain⟨a',c',e',hqq⟩:=hAA _ hFr
    cases e'
    obtain⟨b2,o2,vq,rfl,hb2D,hb2l,hvq,hHL⟩:=hqq q (by omega)
    obtain⟨ms,hms⟩:∃ x,memG G n (gs[q]'(by omega))=x:=⟨_,rfl⟩
    rw[hms] at hHL
    have hmsn:ms.length≤12:=by rw[←hms];exact Nat.le_trans (memG_len _ _ _) hn
    have hmsm:∀ j,j∈ms→j<n:=fun j hj=>by rw[←hms] at hj;exact(memG_mem.1 hj).1
    obtain⟨ma,mc,rfl⟩:=hHL.is
    have hHA:∀ A,Fr (Xc S) wr A→HL A D cb (.slice ma ms.length mc) ms:=fun A h=>hHL.frame h (fun b e k=>by have:=hxD b k;have:=(hHL.lt b e).1;omega)
    clear hqq
    obtain⟨Lm,hLm⟩:∃ x,ms.length=x:=⟨_,rfl⟩
    rw[hLm] at hvq hmsn
    go_upto_region 4 with fail
    go_loopw [17,5] (fun s _ wr'=>∃ (p:Nat) (P2:Nat→Bool),p≤Lm∧s= .int .i64 (p:Int)∧(∀ j,j<n→P2 j=(P j||decide (j∈ms.take p)))∧Cs wr' cb n (colOf (wkU P2 n U)) S∧Fr (Xc S) wr wr') (fun s _ _=>Lm-(intOf s).toNat)
    case atStart=>exact⟨0,P,Nat.zero_le _,rfl,fun j _=>by simp,hCr,Fr.refl _ _⟩
    case round=>
     obtain⟨p,P2,hp,rfl,hP2,hC2,hF2⟩:=hrel
     by_cases hlp:p<Lm
     · have hpL:(p:Int)<(Lm:Int):=by omega
       have hw:=hHA _ hF2
       have hpm:p<ms.length:=by omega
       obtain⟨g,rfl⟩:∃ g,ma=some ⟨g,0,none⟩:=by
        rcases hw.2 with⟨q1,q2⟩|⟨g,c,cur,hv,-⟩
        · omega
        · cases hv;exact⟨_,rfl⟩
       obtain⟨c0,c1⟩:=hw.cells hpm
       obtain⟨r,hr⟩:∃ r,ms[p]=r:=⟨_,rfl⟩
       rw[hr] at c0
       have hrn:r<n:=hmsm r (hr▸List.getElem_mem hpm)
       have hbr:BOk (fun i=>U (r*12+i)):=BOk.of (hbb.ok r hrn)
       have htk:∀ j,j<n→(P j||decide (j∈ms.take (p+1)))=(P2 j||decide (j=r)):=fun j hj=>by
        rw[hP2 j hj,Bool.or_assoc]
        congr 1
        rw[List.take_succ_eq_append_getElem hpm,hr]
        simp only[List.mem_append,List.mem_singleton]
        exact Bool.decide_or _ _
       obtain⟨P3,hP3⟩:∃ P3:Nat→Bool,∀ j,j<n→P3 j=(P2 j||decide (j=r)):=⟨fun j=>P2 j||decide (j=r),fun _ _=>rfl⟩
       have hE1:Below wr.heap.size wr (wr.alloc (Obj.cells #[.int .i64 (r:Int),.pointer (some ⟨cb,0,none⟩)] 59)):=(Below.refl _ _).alloc (Nat.le_refl _) _
       have hCE:=hC2.below hE1
       have z0:(wr.alloc (Obj.cells #[.int .i64 (r:Int),.pointer (some ⟨cb,0,none⟩)] 59)).cell? ⟨wr.heap.size,0,none⟩=some (.int .i64 (r:Int)):=by go_simp
       have z1:(wr.alloc (Obj.cells #[.int .i64 (r:Int),.pointer (some ⟨cb,0,none⟩)] 59)).cell? ⟨wr.heap.size,1,none⟩=some (.pointer (some ⟨cb,0,none⟩)):=by go_simp
       by_cases h8:colOf (wkU P2 n U) 11 r=8
       · have h8d:decide (colOf (wkU P2 n U) 11 r=8)=true:=decide_eq_true h8
         go_wp2_with (first
          |(have _:=hb5;go_at_call 146;refine(kSetQuiet (hCE.below hb5) hrn (by omega) 0).mono ?_;rintro e w6 ⟨rfl,hC6,hF6⟩)
          |(go_at_call 24;refine(kSleeps (hCE.hat hrn (by omega))).mono ?_;rw[h8d];rintro e w5 ⟨rfl,hb5⟩;have z2:=keepL hb5 z0;have z3:=keepL hb5 z1))
         go_roundw
         case rel=>exact⟨p+1,P3,by omega,by go_num,fun j hj=>(hP3 j hj).trans (htk j hj).symm,hC6.congr (wkU_set hbr hrn h8 hP3),((hF2.trans (Fr.of_below hE1)).trans (Fr.of_below hb5)).trans hF6⟩
         case measure=>simp[intOf];omega
       · have h8d:decide (colOf (wkU P2 n U) 11 r=8)=false:=decide_eq_false h8
         go_wp2_with (go_at_call 24;refine(kSleeps (hCE.hat hrn (by omega))).mono ?_;rw[h8d];rintro e w5 ⟨rfl,hb5⟩)
         go_roundw
         case rel=>exact⟨p+1,P3,by omega,by go_num,fun j hj=>(hP3 j hj).trans (htk j hj).symm,(hCE.below hb5).congr (wkU_no hbr hrn h8 hP3),(hF2.trans (Fr.of_below hE1)).trans (Fr.of_below hb5)⟩
         case measure=>simp[intOf];omega
     · obtain rfl:p=Lm:=by omega
       go_wp2
       go_roundw
       case rel=>
        refine⟨q+1,P2,by omega,by go_num,fun j hj=> ?_,hC2,hFr.trans hF2⟩
        rw[hP2 j hj,←hLm,List.take_length,hP j hj,List.take_succ_eq_append_getElem (by omega),List.any_append]
        congr 1
        rw[←hms]
        simp only[List.any_cons,List.any_nil,Bool.or_false]
        exact decide_eq_decide.2 (memG_mem.trans ⟨fun h=>h.2,fun h=>⟨hj,h⟩⟩)
       case measure=>simp[intOf];omega
  · obtain rfl:q=K:=by omega
    have hCf:Cs wr cb n (colOf (wkU P' n U)) S:=hCr.congr (wkU_congr fun j hj=>by rw[hP j hj,hP' j hj,←hK,List.take_length])
    have y0:=(hFr.cell (p:=⟨mb,0,none⟩) hml hmx).trans hm0
    have y5:=(hFr.cell (p:=⟨mb,5,none⟩) hml hmx).trans hm5
    have g5:=(hFr.frozen (p:=⟨mb,5,none⟩) hml hmx).trans hf5
    have hl5:mb<wr.heap.size:=Nat.lt_of_lt_of_le hml hFr.size
    have hd11:=hCf.hd 11 (by omega)
    go_wp2_with (go_at_call 147;refine(clone_any _ n _ _ _ (hCf.own 11 (by omega)) (by omega)).mono ?_;rintro e w7 ⟨aq,qc,rfl,hq7,hq8,hb7⟩;have y6:=keepL hb7 y5;have g6:=(hb7.frozen (p:=⟨mb,5,none⟩) hl5).trans g5;have hl6:mb<w7.heap.size:=Nat.lt_of_lt_of_le hl5 hb7.size)
    go_end0
    have hF9:Fr (fun b=>b=mb) w7 (w7.setCell ⟨mb,5,none⟩ (.slice aq n qc)):=Fr.setCell (X:=fun b=>b=mb) (p:=⟨mb,5,none⟩) rfl _
    have hsz:=hFr.size
    refine⟨rfl,(hCf.below hb7).frame hF9 hmc (fun b e q=>hmx (q▸e)),?_,aq,qc,by rw[cset_map,y6];rfl,?_,fun b o e=>Nat.le_trans hsz (hq8 b o e),fun o x ho hx=> ?_,fun o hx=> ?_⟩
    · exact((hFr.mono (fun _ _ e=> .inl e)).trans (Fr.of_below hb7)).trans' hF9 (fun i _ e=> .inr e)
    · intro h0
      obtain⟨b,o,e,hbl,hc⟩:=hq7 h0
      have:=hq8 b o e
      exact⟨b,o,e,by simpa using hbl,fun j hj=>(hF9.cell (p:=⟨b,o+j,none⟩) hbl (by show ¬ b=mb;omega)).trans (hc j hj)⟩
    · rw[World.cell?_setCell_other _ (h:=by intro e;cases e;exact ho rfl)]
      exact keepL hb7 ((hFr.cell (p:=⟨mb,o,none⟩) hml hmx).trans hx)
    · rw[World.frozen?_setCell]
      exact(hb7.frozen (p:=⟨mb,o,none⟩) hl5).trans ((hFr.frozen (p:=⟨mb,o,none⟩) hml hmx).trans hx)
end Go.Proofs.YthajilkjfkppoaaGreatDoor
