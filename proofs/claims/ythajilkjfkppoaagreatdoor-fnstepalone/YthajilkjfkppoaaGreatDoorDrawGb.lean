/- Texts of a proof. -/
import Derived.Test.YthajilkjfkppoaaGreatDoorB24
import Derived.Test.YthajilkjfkppoaaGreatDoorB32
import Derived.Deep.RegionHeld3
import Derived.Deep.DeepCutAuto
set_option maxHeartbeats 16000000
set_option maxRecDepth 20000
namespace Go.Proofs.YthajilkjfkppoaaGreatDoor
open Go.RowKit
set_option linter.unusedVariables false
set_option linter.unusedSimpArgs false
theorem l11Bodies_k (rb p:Nat) (w:World) (hs0:RS w rb p) (hp:p≤600000):
 Calls Tryz.prog 33 #[.pointer (some ⟨rb,0,none⟩)] w fun e w'=>∃ (a:Option Addr) (n c:Nat) (U:Nat→Int),e= .returned (.slice a n c)∧Bods n U∧Dg w w' rb (p+30000) (.slice a n c) n U []:=by
 have hlt:=hs0.lt
 have hset:=cset_map
 have hD0:=Dg.start hs0 (fun _=>0)
 go_enter Tryz.func33,Tryz.ntmps33
 go_upto_region 2 with fail
 generalize w.alloc (.cells #[] 35)=w0 at hD0 ⊢
 go_cut [4] (fun s4 wc=>∃ id:Int,s4= .int .i64 id∧(0≤id∧id≤3)∧Dg w wc rb (p+1) (.slice (some ⟨w.heap.size,0,none⟩) 0 0) 0 (fun _=>0) [])
 case first=>
  go_wp2_with (go_at_call 34;refine(pick_s rb (p) _ _ (by exact hD0.bl.rs) (by omega) (by omega) (by omega)).mono ?_;rintro e w1 ⟨v1,rfl,va1,vb1,hr1⟩)
  go_meet
  exact⟨_,rfl,by omega,hD0.call hr1⟩
 case rest=>
 clear hD0
 obtain⟨id,rfl,hid,hD0⟩:=hcut
 go_upto_region 3 with fail
 go_cut [5] (fun s5 wc=>∃ r:Nat,s5= .int .i64 (r:Int)∧r≤12∧Dg w wc rb (p+2) (.slice (some ⟨w.heap.size,0,none⟩) 0 0) 0 (fun _=>0) [])
 case first=>
  go_wp2_with (go_at_call 34;refine(pick_s rb (p+1) _ _ (by exact hD0.bl.rs) (by omega) (by omega) (by omega)).mono ?_;rintro e w2 ⟨v2,rfl,va2,vb2,hr2⟩)
  go_meet
  exact⟨v2.toNat,by rw[Int.toNat_of_nonneg va2],by omega,hD0.call hr2⟩
 case rest=>
 clear hD0
 obtain⟨r0,rfl,hr0,hD0⟩:=hcut
 rename_i hKK
 refine hKK _ _ ?_
 refine wp_seq_k (fun K8 hK8=> ?_)
 go_cut [5] (fun s5 wc=>∃ r:Nat,s5= .int .i64 (r:Int)∧r≤12∧Dg w wc rb (p+3) (.slice (some ⟨w.heap.size,0,none⟩) 0 0) 0 (fun _=>0) [])
 case first=>
  go_upto_region 4 with fail
  go_cut [15] (fun s15 wc=>∃ b:Bool,s15= .bool b∧Dg w wc rb (p+3) (.slice (some ⟨w.heap.size,0,none⟩) 0 0) 0 (fun _=>0) [])
  case first=>
   go_wp2_with (go_at_call 34;refine(pick_s rb (p+2) _ _ (by exact hD0.bl.rs) (by omega) (by omega) (by omega)).mono ?_;rintro e w3 ⟨v3,rfl,va3,vb3,hr3⟩)
   go_meet
   exact⟨_,rfl,hD0.call hr3⟩
  case rest=>
  clear hD0
  obtain⟨b,rfl,hD0⟩:=hcut
  cases b with
  | true=>
    go_wp2_with fail
    go_meet
    exact⟨12,rfl,by omega,hD0⟩
  | false=>
    go_wp2_with fail
    go_meet
    exact⟨r0,rfl,hr0,hD0⟩
 case rest=>
 clear hD0 hr0
 obtain⟨r0,rfl,hr0,hD0⟩:=hcut
 go_upto_region 6 with fail
 go_loopw [3,4,5,6,7] (fun s3 s4 s5 _ _ wr=>∃ (r n:Nat) (a:Option Addr) (c:Nat) (U:Nat→Int) (id:Int),s5= .int .i64 (r:Int)∧s4= .int .i64 id∧s3=(.slice a n c)∧r+n≤12∧Bods n U∧(0≤id∧id≤3+3*(n:Int))∧(∀ k,k<n→U (k*12)<id)∧Dg w wr rb (p+3+2000*n) (.slice a n c) n U []) (fun _ _ s5 _ _ _=>(intOf s5).toNat)
 case atStart=>exact⟨r0,0,_,_,_,id,rfl,rfl,rfl,by omega,⟨by omega,fun k hk=>by omega,fun k hk=>by omega⟩,by omega,fun k hk=>by omega,hD0⟩
 case round=>
  clear hD0 hr0 hid
  obtain⟨r,n,a,c,U,id,rfl,rfl,rfl,hrn,hB,hid,hasc,hD⟩:=hrel
  by_cases hlr:0<r
  · have hri:(0:Int)<(r:Int):=by omega
    obtain⟨p1,hp1⟩:∃ p1,p+3+2000*n=p1:=⟨_,rfl⟩
    have hp1b:p1≤630000:=by omega
    rw[hp1] at hD
    go_upto_region 8 with fail
    go_cut [6] (fun s6 wc=>∃ (ab:Nat) (V:Nat→Int),s6= .pointer (some ⟨ab,0,none⟩)∧(bodyB V=true∧V 0=id)∧Dg w wc rb (p1+1000) (.slice a n c) n U [(ab,12,V)])
    case first=>
     go_wp2_with (go_at_call 67;refine(l11Body_k rb p1 id _ (by exact hD.bl.rs) (by omega) (by omega)).mono ?_;rintro e w1 ⟨V,rfl,⟨hV1,hV2,hV3⟩,hr1⟩;have HV2:Shut (V 0=id):=hV2;clear hV2 hV3)
     go_meet
     exact⟨_,V,rfl,⟨hV1,HV2.out⟩,(hD.call hr1).new _ 12 V rfl (by intro i hi;rcases(show i=0∨i=1∨i=2∨i=3∨i=4∨i=5∨i=6∨i=7∨i=8∨i=9∨i=10∨i=11 by omega) with rfl|rfl|rfl|rfl|rfl|rfl|rfl|rfl|rfl|rfl|rfl|rfl<;>rfl)⟩
    case rest=>
    clear hD
    obtain⟨ab,V,rfl,hV,hD⟩:=hcut
    rename_i hKK
    refine hKK _ _ ?_
    refine wp_seq_k (fun K8 hK8=> ?_)
    go_cut [] (fun wc=>∃ V:Nat→Int,(bodyB V=true∧V 0=id)∧Dg w wc rb (p1+1100) (.slice a n c) n U [(ab,12,V)])
    case first=>
     go_upto_region 9 with fail
     go_cut [30] (fun s30 wc=>∃ z:Bool,s30= .bool z∧(z=true→0<n)∧Dg w wc rb (p1+1001) (.slice a n c) n U [(ab,12,V)])
     case first=>
      by_cases hn0:0<n
      · have e1:(0:Int)<(n:Int):=by omega
        go_wp2_with (go_at_call 34;refine(pick_s rb (p1+1000) _ _ (by exact hD.bl.rs) (by omega) (by omega) (by omega)).mono ?_;rintro e w2 ⟨v2,rfl,va2,vb2,hr2⟩)
        go_meet
        exact⟨_,rfl,fun _=>hn0,hD.call hr2⟩
      · have hn1:n=0:=by omega
        have e1:¬ (0:Int)<(n:Int):=by omega
        clear hn1
        go_wp2_with fail
        go_meet
        exact⟨false,rfl,(fun e=>by cases e),hD.mono (by omega)⟩
     case rest=>
     clear hD
     obtain⟨z,rfl,hz,hD⟩:=hcut
     cases z with
     | false=>
       go_wp2_with fail
       go_meet
       exact⟨V,hV,hD.mono (by omega)⟩
     | true=>
       have hn0:=hz rfl
       have hn1:(1:Int)≤(n:Int):=by omega
       have hn12:=hB.le
       go_upto_region 10 with fail
       go_cut [7] (fun s7 wc=>∃ (xb:Nat) (X:Nat→Int),s7= .pointer (some ⟨xb,0,none⟩)∧bodyB X=true∧ab≠xb∧Dg w wc rb (p1+1002) (.slice a n c) n U [(xb,12,X),(ab,12,V)])
       case first=>
        obtain⟨g,rfl,hg1,hg2⟩:=hD.own.loc hn0
        go_wp2_with (go_at_call 34;refine(pick_s rb (p1+1001) _ _ (by exact hD.bl.rs) (by omega) (by omega) (by omega)).mono ?_;rintro e w2 ⟨v2,rfl,va2,vb2,hr2⟩;have hD2:=hD.call hr2;obtain⟨j,hj⟩:∃ j:Nat,v2=(j:Int):=⟨v2.toNat,by omega⟩;subst hj;have hjn:j<n:=(by omega);(have u0:=hD2.own.cellq (q:=j*12) (by omega));(have u1:=hD2.own.cellq (q:=j*12+1) (by omega));(have u2:=hD2.own.cellq (q:=j*12+2) (by omega));(have u3:=hD2.own.cellq (q:=j*12+3) (by omega));(have u4:=hD2.own.cellq (q:=j*12+4) (by omega));(have u5:=hD2.own.cellq (q:=j*12+5) (by omega));(have u6:=hD2.own.cellq (q:=j*12+6) (by omega));(have u7:=hD2.own.cellq (q:=j*12+7) (by omega));(have u8:=hD2.own.cellq (q:=j*12+8) (by omega));(have u9:=hD2.own.cellq (q:=j*12+9) (by omega));(have u10:=hD2.own.cellq (q:=j*12+10) (by omega));(have u11:=hD2.own.cellq (q:=j*12+11) (by omega)))
        go_meet
        have hab:ab<w2.heap.size:=hD2.bl.lt (x:=(ab,12,V)) (by simp)
        exact⟨_,(fun i=>U (j*12+i)),rfl,hB.ok j hjn,by omega,hD2.new _ 12 (fun i=>U (j*12+i)) rfl (by intro i hi;rcases(show i=0∨i=1∨i=2∨i=3∨i=4∨i=5∨i=6∨i=7∨i=8∨i=9∨i=10∨i=11 by omega) with rfl|rfl|rfl|rfl|rfl|rfl|rfl|rfl|rfl|rfl|rfl|rfl<;>rfl)⟩
       case rest=>
       clear hD
       obtain⟨xb,X,rfl,hX,hne,hD⟩:=hcut
       obtain⟨_,_,X4,X5,_⟩:=bodyB_bd hX
       have hne':¬ ab=xb:=hne
       have hne'':¬ xb=ab:=fun e=>hne e.symm
       have hns2:∀ z∈([(xb,12,X)]:Bls),z.1≠ab:=fun z hz=>by rw[List.mem_singleton.1 hz];exact hne''
       have xc4:wc.cell? ⟨xb,4,none⟩=some (.int .i64 (X 4)):=(hD.bl.get (x:=(xb,12,X)) (List.mem_cons_self ..)).2.2.1 4 (show 4<12 by decide)
       have xc5:wc.cell? ⟨xb,5,none⟩=some (.int .i64 (X 5)):=(hD.bl.get (x:=(xb,12,X)) (List.mem_cons_self ..)).2.2.1 5 (show 5<12 by decide)
       have yc4:wc.cell? ⟨ab,4,none⟩=some (.int .i64 (V 4)):=(hD.bl.get (x:=(ab,12,V)) (List.mem_cons_of_mem _ (List.mem_singleton.2 rfl))).2.2.1 4 (show 4<12 by decide)
       have yc5:wc.cell? ⟨ab,5,none⟩=some (.int .i64 (V 5)):=(hD.bl.get (x:=(ab,12,V)) (List.mem_cons_of_mem _ (List.mem_singleton.2 rfl))).2.2.1 5 (show 5<12 by decide)
       have yf4:wc.frozen? ⟨ab,4,none⟩=false:=(hD.bl.get (x:=(ab,12,V)) (List.mem_cons_of_mem _ (List.mem_singleton.2 rfl))).2.2.2 4 (show 4<12 by decide)
       have yf5:wc.frozen? ⟨ab,5,none⟩=false:=(hD.bl.get (x:=(ab,12,V)) (List.mem_cons_of_mem _ (List.mem_singleton.2 rfl))).2.2.2 5 (show 5<12 by decide)
       go_upto_region 11 with fail
       refine wp_region_held_drew (S:=fun w'=>w'.cell? ⟨xb,4,none⟩=some (.int .i64 (X 4))∧w'.cell? ⟨xb,5,none⟩=some (.int .i64 (X 5))) (by kernel_rfl) ?_ (fun hHeld=> ?_)
       · (try dsimp only)
         (first|(go_simp;done)|(go_keep;done))
       refine tq 0 hHeld ?_
       refine tq 1 hHeld ?_
       refine tq 2 hHeld ?_
       refine tq 3 hHeld ?_
       refine tq 9 hHeld ?_
       refine tq 10 hHeld ?_
       refine tq 11 hHeld ?_
       refine tq 12 hHeld ?_
       refine tc 4 fun K hK=> ?_
       (go_simp
        (go_at_call 34;refine(pick_s rb (p1+1002) _ _ (by exact hD.bl.rs.drew) (by omega) (by omega) (by omega)).mono ?_;rintro e w5 ⟨v5,rfl,va5,vb5,hr5⟩;have hD2:=(hD.drew.call hr5).mono (p1:=p1+1004) (by omega);have u5a:=i64w (n:=v5*4) (by omega);have u5b:=i64w (n:=X 4+v5*4) (by omega);have u5c:=i64w (n:=X 4+v5*4-512) (by omega);clear hr5)
        clear hD xc4 xc5 yc4 yc5 yf4 yf5
        have hD:=hD2
        clear hD2
        have xc4:w5.cell? ⟨xb,4,none⟩=some (.int .i64 (X 4)):=(hD.bl.get (x:=(xb,12,X)) (List.mem_cons_self ..)).2.2.1 4 (show 4<12 by decide)
        have xc5:w5.cell? ⟨xb,5,none⟩=some (.int .i64 (X 5)):=(hD.bl.get (x:=(xb,12,X)) (List.mem_cons_self ..)).2.2.1 5 (show 5<12 by decide)
        have yc4:w5.cell? ⟨ab,4,none⟩=some (.int .i64 (V 4)):=(hD.bl.get (x:=(ab,12,V)) (List.mem_cons_of_mem _ (List.mem_singleton.2 rfl))).2.2.1 4 (show 4<12 by decide)
        have yc5:w5.cell? ⟨ab,5,none⟩=some (.int .i64 (V 5)):=(hD.bl.get (x:=(ab,12,V)) (List.mem_cons_of_mem _ (List.mem_singleton.2 rfl))).2.2.1 5 (show 5<12 by decide)
        have yf4:w5.frozen? ⟨ab,4,none⟩=false:=(hD.bl.get (x:=(ab,12,V)) (List.mem_cons_of_mem _ (List.mem_singleton.2 rfl))).2.2.2 4 (show 4<12 by decide)
        have yf5:w5.frozen? ⟨ab,5,none⟩=false:=(hD.bl.get (x:=(ab,12,V)) (List.mem_cons_of_mem _ (List.mem_singleton.2 rfl))).2.2.2 5 (show 5<12 by decide)
        (try go_wp2_with fail)
        refine tr hK (fun hHeld=> ?_)
        clear hK K)
       refine tq 5 hHeld ?_
       refine tq 6 hHeld ?_
       refine tq 7 hHeld ?_
       refine tc 8 fun K hK=> ?_
       (go_simp
        (go_at_call 68;refine(l6Within_any (X 4+v5*4-512) 2560000 _ (by omega) (by omega)).mono ?_;rintro e w6 ⟨rfl,hw6⟩;have hw6':=hw6.symm;subst hw6';clear hw6;obtain⟨x4,hx4⟩:∃ z,clampZ 2560000 (X 4+v5*4-512)=z:=⟨_,rfl⟩;have bx4:=clampZ_bd (l:=2560000) (X 4+v5*4-512) (by omega);rw[hx4] at bx4;(try rw[hx4]))
        (try go_wp2_with fail)
        refine tr hK (fun hHeld=> ?_)
        clear hK K)
       refine tc 13 fun K hK=> ?_
       (go_simp
        (go_at_call 34;refine(pick_s rb (p1+1004) _ _ (by exact hD.bl.rs) (by omega) (by omega) (by omega)).mono ?_;rintro e w7 ⟨v7,rfl,va7,vb7,hr7⟩;have hD2:=(hD.call hr7).mono (p1:=p1+1006) (by omega);have u7a:=i64w (n:=v7*4) (by omega);have u7b:=i64w (n:=X 5+v7*4) (by omega);have u7c:=i64w (n:=X 5+v7*4-512) (by omega);clear hr7)
        clear hD xc4 xc5 yc4 yc5 yf4 yf5
        have hD:=hD2
        clear hD2
        have xc4:w7.cell? ⟨xb,4,none⟩=some (.int .i64 (X 4)):=(hD.bl.get (x:=(xb,12,X)) (List.mem_cons_self ..)).2.2.1 4 (show 4<12 by decide)
        have xc5:w7.cell? ⟨xb,5,none⟩=some (.int .i64 (X 5)):=(hD.bl.get (x:=(xb,12,X)) (List.mem_cons_self ..)).2.2.1 5 (show 5<12 by decide)
        have yc4:w7.cell? ⟨ab,4,none⟩=some (.int .i64 (V 4)):=(hD.bl.get (x:=(ab,12,V)) (List.mem_cons_of_mem _ (List.mem_singleton.2 rfl))).2.2.1 4 (show 4<12 by decide)
        have yc5:w7.cell? ⟨ab,5,none⟩=some (.int .i64 (V 5)):=(hD.bl.get (x:=(ab,12,V)) (List.mem_cons_of_mem _ (List.mem_singleton.2 rfl))).2.2.1 5 (show 5<12 by decide)
        have yf4:w7.frozen? ⟨ab,4,none⟩=false:=(hD.bl.get (x:=(ab,12,V)) (List.mem_cons_of_mem _ (List.mem_singleton.2 rfl))).2.2.2 4 (show 4<12 by decide)
        have yf5:w7.frozen? ⟨ab,5,none⟩=false:=(hD.bl.get (x:=(ab,12,V)) (List.mem_cons_of_mem _ (List.mem_singleton.2 rfl))).2.2.2 5 (show 5<12 by decide)
        (try go_wp2_with fail)
        refine tr hK (fun hHeld=> ?_)
        clear hK K)
       refine tq 14 hHeld ?_
       refine tq 15 hHeld ?_
       refine tq 16 hHeld ?_
       refine tc 17 fun K hK=> ?_
       (go_simp
        (go_at_call 68;refine(l6Within_any (X 5+v7*4-512) 2560000 _ (by omega) (by omega)).mono ?_;rintro e w8 ⟨rfl,hw8⟩;have hw8':=hw8.symm;subst hw8';clear hw8;obtain⟨y5,hy5⟩:∃ z,clampZ 2560000 (X 5+v7*4-512)=z:=⟨_,rfl⟩;have by5:=clampZ_bd (l:=2560000) (X 5+v7*4-512) (by omega);rw[hy5] at by5;(try rw[hy5]))
        (try go_wp2_with fail)
        refine tr hK (fun hHeld=> ?_)
        clear hK K)
       refine tq 18 hHeld ?_
       refine tq 19 hHeld ?_
       refine tc 20 fun K hK=> ?_
       (go_simp
        have hD2:=((hD.sub (M:=[(ab,12,V),(xb,12,X)]) (fun z hz=>by rcases List.mem_cons.mp hz with rfl|hz2;exact List.mem_cons_of_mem _ (List.mem_singleton.2 rfl);rw[List.mem_singleton.1 hz2];exact List.mem_cons_self ..)).set hns2 4 (by decide) x4).set hns2 5 (by decide) y5
        clear hD xc4 xc5 yc4 yc5 yf4 yf5
        have hD:=hD2
        clear hD2
        generalize ((w7.setCell ⟨ab,4,none⟩ (.int .i64 x4)).setCell ⟨ab,5,none⟩ (.int .i64 y5))=w9 at hD ⊢
        have xc4:w9.cell? ⟨xb,4,none⟩=some (.int .i64 (X 4)):=(hD.bl.get (x:=(xb,12,X)) (List.mem_cons_of_mem _ (List.mem_singleton.2 rfl))).2.2.1 4 (show 4<12 by decide)
        have xc5:w9.cell? ⟨xb,5,none⟩=some (.int .i64 (X 5)):=(hD.bl.get (x:=(xb,12,X)) (List.mem_cons_of_mem _ (List.mem_singleton.2 rfl))).2.2.1 5 (show 5<12 by decide)
        refine tr hK (fun hHeld=> ?_)
        clear hK K)
       refine wpAnyH_done (by kernel_rfl) ?_ _
       go_wp2_with fail
       go_meet
       exact⟨setV (setV V 4 x4) 5 y5,⟨bod_at hV.1 bx4 by5,hV.2⟩,(((hD.sub (M:=[(ab,12,_)]) (fun z hz=>by rw[List.mem_singleton.1 hz];exact List.mem_cons_self ..)).headc (fun i hi=>rfl)).mono (by omega))⟩
    case rest=>
    clear hD hV V
    obtain⟨V,⟨hVb,hV0⟩,hD⟩:=hcut
    have HV0:Shut (V 0=id):=hV0
    clear hV0
    refine hK8 _ _ ?_
    have y0:wc.cell? ⟨ab,0,none⟩=some (.int .i64 (V 0)):=(hD.bl.get (x:=(ab,12,V)) (by simp)).2.2.1 0 (show 0<12 by decide)
    have y1:wc.cell? ⟨ab,1,none⟩=some (.int .i64 (V 1)):=(hD.bl.get (x:=(ab,12,V)) (by simp)).2.2.1 1 (show 1<12 by decide)
    have y2:wc.cell? ⟨ab,2,none⟩=some (.int .i64 (V 2)):=(hD.bl.get (x:=(ab,12,V)) (by simp)).2.2.1 2 (show 2<12 by decide)
    have y3:wc.cell? ⟨ab,3,none⟩=some (.int .i64 (V 3)):=(hD.bl.get (x:=(ab,12,V)) (by simp)).2.2.1 3 (show 3<12 by decide)
    have y4:wc.cell? ⟨ab,4,none⟩=some (.int .i64 (V 4)):=(hD.bl.get (x:=(ab,12,V)) (by simp)).2.2.1 4 (show 4<12 by decide)
    have y5:wc.cell? ⟨ab,5,none⟩=some (.int .i64 (V 5)):=(hD.bl.get (x:=(ab,12,V)) (by simp)).2.2.1 5 (show 5<12 by decide)
    have y6:wc.cell? ⟨ab,6,none⟩=some (.int .i64 (V 6)):=(hD.bl.get (x:=(ab,12,V)) (by simp)).2.2.1 6 (show 6<12 by decide)
    have y7:wc.cell? ⟨ab,7,none⟩=some (.int .i64 (V 7)):=(hD.bl.get (x:=(ab,12,V)) (by simp)).2.2.1 7 (show 7<12 by decide)
    have y8:wc.cell? ⟨ab,8,none⟩=some (.int .i64 (V 8)):=(hD.bl.get (x:=(ab,12,V)) (by simp)).2.2.1 8 (show 8<12 by decide)
    have y9:wc.cell? ⟨ab,9,none⟩=some (.int .i64 (V 9)):=(hD.bl.get (x:=(ab,12,V)) (by simp)).2.2.1 9 (show 9<12 by decide)
    have y10:wc.cell? ⟨ab,10,none⟩=some (.int .i64 (V 10)):=(hD.bl.get (x:=(ab,12,V)) (by simp)).2.2.1 10 (show 10<12 by decide)
    have y11:wc.cell? ⟨ab,11,none⟩=some (.int .i64 (V 11)):=(hD.bl.get (x:=(ab,12,V)) (by simp)).2.2.1 11 (show 11<12 by decide)
    have hF:Flat (wc.alloc (Obj.cells #[.int .i64 (V 0),.int .i64 (V 1),.int .i64 (V 2),.int .i64 (V 3),.int .i64 (V 4),.int .i64 (V 5),.int .i64 (V 6),.int .i64 (V 7),.int .i64 (V 8),.int .i64 (V 9),.int .i64 (V 10),.int .i64 (V 11)] 35)) (some ⟨wc.heap.size,0,none⟩) (1*12) V:=by
     intro _
     refine⟨wc.heap.size,0,rfl,by simp,fun i hi=> ?_⟩
     rw[Nat.zero_add]
     rcases(show i=0∨i=1∨i=2∨i=3∨i=4∨i=5∨i=6∨i=7∨i=8∨i=9∨i=10∨i=11 by omega) with rfl|rfl|rfl|rfl|rfl|rfl|rfl|rfl|rfl|rfl|rfl|rfl<;>go_simp
    have hE:Below wc.heap.size wc (wc.alloc (Obj.cells #[.int .i64 (V 0),.int .i64 (V 1),.int .i64 (V 2),.int .i64 (V 3),.int .i64 (V 4),.int .i64 (V 5),.int .i64 (V 6),.int .i64 (V 7),.int .i64 (V 8),.int .i64 (V 9),.int .i64 (V 10),.int .i64 (V 11)] 35)):=balloc _ _
    have hDE:=(hD.sub (M:=[]) (fun z hz=>by cases hz)).calb hE
    have hn12:n<12:=by omega
    have hsz5:=hDE.bl.but.size
    go_upto_region 13 with(refine wpList_app rfl _ _ _ rfl w.heap.size 35 12 96 zcBody Tryz.underlying23 infoItBody rfl (by decide) (.slice a n c) n U rfl hDE.own (some ⟨wc.heap.size,0,none⟩) 1 1 V rfl hF (by unfold maxLen;omega) (by omega) hsz5 ?_;intro a5 c5 w5 ho5 hg5)
    have hD5:=hDE.grown hg5 ho5
    have hB5:=hB.push hn12 hVb (fun k hk=>by rw[HV0.out];exact hasc k hk)
    clear hE hF hDE hD y0 y1 y2 y3 y4 y5 y6 y7 y8 y9 y10 y11
    have w1:IntKind.i64.wrap (id+1)=id+1:=i64w (by omega)
    go_wp2_with (go_at_call 34;refine(pick_s rb (p1+1100) _ _ (by exact hD5.bl.rs) (by omega) (by omega) (by omega)).mono ?_;rintro e w6 ⟨v6,rfl,va6,vb6,hr6⟩;have w2:IntKind.i64.wrap (id+1+v6)=id+1+v6:=i64w (by omega))
    go_roundw
    case rel=>
     refine⟨r-1,n+1,a5,c5,_,id+1+v6,by first|go_num|(congr 1;omega),rfl,rfl,by omega,hB5,by omega,fun k hk=> ?_,(hD5.call hr6).mono (by omega)⟩
     by_cases e:k=n
     · subst e
       have:cat (k*12) U V (k*12)=V 0:=by unfold cat;rw[if_neg (by omega),Nat.sub_self]
       rw[this,HV0.out];omega
     · have:cat (n*12) U V (k*12)=U (k*12):=by unfold cat;rw[if_pos (by omega)]
       rw[this];have:=hasc k (by omega);omega
    case measure=>simp[intOf];omega
  · have hr00:¬ (0:Int)<(r:Int):=by omega
    obtain⟨p1,hp1⟩:∃ p1,p+3+2000*n=p1:=⟨_,rfl⟩
    have hp1b:p1≤630000:=by omega
    have hn12:=hB.le
    have hp30:p1+10≤p+30000:=by omega
    rw[hp1] at hD
    clear hp1
    go_upto_region 14 with fail
    go_cut [69] (fun s69 wc=>∃ z:Bool,s69= .bool z∧Dg w wc rb (p1+1) (.slice a n c) n U [])
    case first=>
     go_wp2_with (go_at_call 34;refine(pick_s rb (p1) _ _ (by exact hD.bl.rs) (by omega) (by omega) (by omega)).mono ?_;rintro e w2 ⟨v2,rfl,va2,vb2,hr2⟩)
     go_meet
     exact⟨_,rfl,hD.call hr2⟩
    case rest=>
    clear hD
    obtain⟨z,rfl,hD⟩:=hcut
    cases z with
    | false=>
      go_wp2_with fail
      go_ret
      first|exact⟨_,_,_,_,rfl,hB,hD.mono (by omega)⟩|exact⟨_,_,_,rfl,_,hB,hD.mono (by omega)⟩
    | true=>
      have hE:Below wc.heap.size wc (wc.alloc (.cells #[] 35)):=balloc _ _
      have hDE:=hD.calb hE
      have hoe:=OwnL.fresh0 wc w.heap.size 35 12 (fun _=>0) _ rfl hD.bl.but.size
      have hE2:Below (wc.alloc (.cells #[] 35)).heap.size (wc.alloc (.cells #[] 35)) ((wc.alloc (.cells #[] 35)).alloc (.cells #[.int .i64 0,.int .i64 32] 3)):=balloc _ _
      have hrs2:=(hDE.calb hE2).bl.rs
      have hnrb:wc.heap.size+1≠rb:=by have:=hD.bl.but.size;have:=hD.bl.lo;omega
      have hlc:∀ i,i<2→((wc.alloc (.cells #[] 35)).alloc (.cells #[.int .i64 0,.int .i64 32] 3)).cell? ⟨wc.heap.size+1,i,none⟩=some (.int .i64 ([0,32].getD i 0)):=fun i hi=>by rcases(show i=0∨i=1 by omega) with rfl|rfl<;>go_simp
      go_upto_region 16 with(first
       |(have _:=hO4;refine wpList_app0 rfl _ _ _ rfl w.heap.size 35 12 96 zcBody Tryz.underlying23 infoItBody rfl (by decide) (.slice (some ⟨wc.heap.size,0,none⟩) 0 0) (fun _=>0) rfl hoe4 _ n _ (stepU n U v3) rfl hO4.own.flat (by unfold maxLen;omega) (by omega) hsz4 ?_;intro a5 c5 w5 ho5 hg5)
       |(have _:=hr3;go_at_call 20;refine(l9Step_any a n c U v3 _ hD3.own.flat hB (by omega)).mono ?_;rintro e w4 ⟨a4,c4,rfl,hO4⟩;have hD4:=hD3.calb hO4.bel;have hoe4:=hoe3.below hO4.bel;have hsz4:=hD4.bl.but.size)
       |(go_at_call 17;refine(one_g 0 32 rb (p1+1) (wc.heap.size+1) 2 2 [0,32] _ hrs2 (by omega) (by intro x hx;simp at hx;omega) rfl (by omega) (by omega) hnrb hlc).mono ?_;rintro e w3 ⟨v3,rfl,va3,vb3,hr3⟩;have hD3:=(hDE.calb hE2).call hr3;have hoe3:=(hoe.below hE2).but (RB.but hr3) hD.bl.lo))
      have hDx:Dg w w4 rb (p1+2) (.slice (some ⟨wc.heap.size,0,none⟩) 0 0) 0 (fun _=>0) []:=⟨hD4.bl,hoe4,fun x hx=>by cases hx⟩
      have hD5:=hDx.grown hg5 ho5
      have hB5:=(hB.steps v3).2.2.2.2.2.2.1
      go_wp2_with fail
      go_ret
      first|exact⟨_,_,_,_,rfl,hB5,hD5.mono (by omega)⟩|exact⟨_,_,_,rfl,_,hB5,hD5.mono (by omega)⟩
end Go.Proofs.YthajilkjfkppoaaGreatDoor
