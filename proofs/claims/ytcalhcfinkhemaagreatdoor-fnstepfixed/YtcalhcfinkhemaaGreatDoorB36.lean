/- Texts of a proof. -/
import Derived.Test.YtcalhcfinkhemaaGreatDoorB5
import Derived.Test.YtcalhcfinkhemaaGreatDoorB4
import Derived.Test.YtcalhcfinkhemaaGreatDoorB1
import Derived.Test.YtcalhcfinkhemaaGreatDoorB24
import Derived.Test.YtcalhcfinkhemaaGreatDoorB11
import Derived.Handy
import Derived.Deep.RegionHeld3
import Derived.Deep.DeepCutAuto
import Derived.Test.YtcalhcfinkhemaaGreatDoorB20
import Derived.Test.YtcalhcfinkhemaaGreatDoorB34
import Derived.Test.YtcalhcfinkhemaaGreatDoorS7a
set_option maxHeartbeats 16000000
set_option maxRecDepth 20000
namespace Go.Proofs.YtcalhcfinkhemaaGreatDoor
open Go.RowKit
set_option linter.unusedVariables false
set_option linter.unusedSimpArgs false
theorem wayHeld_z (x y l a b:Int) (w:World) (h0:0≤l) (h1:l≤4000000000) (ea:clampZ l x=a) (eb:clampZ l y=b):
 Calls Tryz.prog 145 #[vv x y,.int .i64 l] w fun e w'=>e= .returned (vv a b)∧Below w.heap.size w w':=by
 subst ea eb;exact wayHeld_any x y l w h0 h1
theorem kMove_c {cb n k:Nat} {C:Nat→Nat→Int} {S:Nat→Value} {w:World} (h:Cs w cb n C S) (hk:k<n) (hn:n≤1048576) (p q A B D E:Int) (V:Nat→Int) (hV:∀ i,V i=C i k) (b4: -2560000≤V 4∧V 4≤2560000) (b5: -2560000≤V 5∧V 5≤2560000) (bp: -20000000≤p∧p≤20000000) (bq: -20000000≤q∧q≤20000000)
 (eA:clampZ 2560000 (V 4+p)=A) (eB:clampZ 2560000 (V 5+q)=B) (eC:(if A=V 4+p then V 6 else 0)=D) (eD:(if B=V 5+q then V 7 else 0)=E):
 Calls Tryz.prog 148 #[hdk cb k,vv p q] w fun e w'=>e= .returned (.tuple #[])∧Cs w' cb n (setC (setC (setC (setC C 4 k A) 5 k B) 6 k D) 7 k E) S∧Fr (Xc S) w w':=by
 have hset:=cset_map
 have h0:HAt w cb n k V (gOf S):=by rw[show V=fun i=>C i k from funext hV];exact h.hat hk hn
 clear hV
 have l1:=h0.cbl
 have hx:∀ b,w.heap.size≤b→¬ Xc S b:=fun b hb x=>by have:=(h.xlt x).2;omega
 go_enter Tryz.func148,Tryz.ntmps148
 go_upto_region 1 with fail
 go_cut [4] (fun s wc=>∃ Ba,s= .pointer (some ⟨Ba,0,none⟩)∧wc.cell? ⟨w.heap.size,0,none⟩=some (.int .i64 (k:Int))∧wc.cell? ⟨w.heap.size,1,none⟩=some (.pointer (some ⟨cb,0,none⟩))∧wc.cell? ⟨Ba,0,none⟩=some (.int .i64 (V 4+p))∧wc.cell? ⟨Ba,1,none⟩=some (.int .i64 (V 5+q))∧w.heap.size+1<Ba∧Ba<wc.heap.size∧Below w.heap.size w wc)
 case first=>
  refine wp_region_held_drew (S:=fun w'=>w'.cell? ⟨w.heap.size,0,none⟩=some (.int .i64 (k:Int))∧w'.cell? ⟨w.heap.size,1,none⟩=some (.pointer (some ⟨cb,0,none⟩))∧w'.cell? ⟨w.heap.size+1,0,none⟩=some (.int .i64 p)∧w'.cell? ⟨w.heap.size+1,1,none⟩=some (.int .i64 q)) (by kernel_rfl) ?_ (fun hHeld=> ?_)
  · (try dsimp only)
    (first|(go_simp;done)|(go_keep;done))
  refine tq 0 hHeld ?_
  refine tq 2 hHeld ?_
  repeat' first
   |(replace hK:=hK;go_simp;(first|((go_at_call 84;refine(kAt (h0.below (bel_a))).mono ?_;rintro e w1 ⟨rfl,hb1⟩;obtain⟨hc1,hf1⟩:=bcell hb1;have hz1:=hb1.size;(try simp only[zz] at hc1 hf1 hz1);have:=kf2 hb1 w.heap.size;(try have q:=kfz hc1 hf1 hz1 (w.heap.size+1+1) (by omega);obtain⟨ht1x0,hu1x0,hv1x0,hw1x0⟩:=q);clear hc1 hf1);(try go_wp2_with fail))|((go_at_call 163;refine(plus_any _ _ _ _ _ (by omega) (by omega) (by omega) (by omega)).mono ?_;rintro e w2 ⟨rfl,hb2⟩;obtain⟨hc2,hf2⟩:=bcell hb2;have hz2:=hb2.size;(try simp only[zz] at hc2 hf2 hz2);have:=kf2 hb2 w.heap.size;(try have q:=kfz hc2 hf2 hz2 (w.heap.size+1+1) (by omega);obtain⟨ht2x0,hu2x0,hv2x0,hw2x0⟩:=q);(try have q:=kfz hc2 hf2 hz2 (w1.heap.size) (by omega);obtain⟨ht2x1,hu2x1,hv2x1,hw2x1⟩:=q);clear hc2 hf2);(try go_wp2_with fail))|skip);refine tr hK (fun hHeld=> ?_);clear hK K)
   |refine tc 1 (hr:=by decide+kernel) fun K hK=> ?_
   |refine tc 3 (hr:=by decide+kernel) fun K hK=> ?_
   |refine tc 4 (hr:=by decide+kernel) fun K hK=> ?_
   |refine tc 5 (hr:=by decide+kernel) fun K hK=> ?_
   |(refine wpAnyH_ready (rs:=[1,4]) (by decide+kernel) (by simp) ?_;refine AllReadyH.cons rfl (fun K hK=> ?_) (AllReadyH.cons rfl (fun K hK=> ?_) AllReadyH.nil))
   |(refine wpAnyH_ready (rs:=[3,4]) (by decide+kernel) (by simp) ?_;refine AllReadyH.cons rfl (fun K hK=> ?_) (AllReadyH.cons rfl (fun K hK=> ?_) AllReadyH.nil))
   | (refine wpAnyH_done (by decide+kernel) ?_ _
      go_wp2_with fail
      go_meet
      exact⟨_,rfl,(by go_simp),(by go_simp),(by go_simp),(by go_simp),(by first|omega|(simp;done)|(simp;omega)),(by first|omega|(simp;done)|(simp;omega)),bel_a⟩)
 case rest=>
 obtain⟨Ba,rfl,x0,x1,x2,x3,hlo,hhi,hbel⟩:=hcut
 have nBa:(wc.heap.size=Ba)=False:=eq_false (by omega)
 go_upto_region 2 with fail
 go_cut [5,6] (fun s s' wc=>∃ Bt Bd,s= .pointer (some ⟨Bt,0,none⟩)∧s'= .pointer (some ⟨Bd,0,none⟩)∧wc.cell? ⟨w.heap.size,0,none⟩=some (.int .i64 (k:Int))∧wc.cell? ⟨w.heap.size,1,none⟩=some (.pointer (some ⟨cb,0,none⟩))∧wc.cell? ⟨Ba,0,none⟩=some (.int .i64 (V 4+p))∧wc.cell? ⟨Ba,1,none⟩=some (.int .i64 (V 5+q))∧wc.cell? ⟨Bt,0,none⟩=some (.int .i64 A)∧wc.cell? ⟨Bt,1,none⟩=some (.int .i64 B)∧wc.cell? ⟨Bd,0,none⟩=some (.int .i64 (V 6))∧wc.cell? ⟨Bd,1,none⟩=some (.int .i64 (V 7))∧wc.frozen? ⟨Bd,0,none⟩=false∧wc.frozen? ⟨Bd,1,none⟩=false∧Ba<Bt∧Ba<Bd∧Bt≠Bd∧Bt<wc.heap.size∧Bd<wc.heap.size∧Below w.heap.size w wc)
 case first=>
  refine wp_region_held_drew (S:=fun w'=>w'.cell? ⟨w.heap.size,0,none⟩=some (.int .i64 (k:Int))∧w'.cell? ⟨w.heap.size,1,none⟩=some (.pointer (some ⟨cb,0,none⟩))∧w'.cell? ⟨Ba,0,none⟩=some (.int .i64 (V 4+p))∧w'.cell? ⟨Ba,1,none⟩=some (.int .i64 (V 5+q))) (by kernel_rfl) ?_ (fun hHeld=> ?_)
  · (try dsimp only)
    (first|(go_simp;done)|(go_keep;done))
  refine tq 0 hHeld ?_
  refine tq 2 hHeld ?_
  repeat' first
   |(replace hK:=hK;go_simp;(first|((go_at_call 145;refine(wayHeld_z _ _ _ _ _ _ (by omega) (by omega) (by with_reducible assumption) (by with_reducible assumption)).mono ?_;rintro e w11 ⟨rfl,hb11⟩;obtain⟨hc11,hf11⟩:=bcell hb11;have hz11:=hb11.size;(try simp only[zz] at hc11 hf11 hz11);have:=kfa hb11 w.heap.size;have:=kfa hb11 Ba;(try have q:=kfz hc11 hf11 hz11 (wc.heap.size) (by omega);obtain⟨ht11x0,hu11x0,hv11x0,hw11x0⟩:=q);(try have q:=kfz hc11 hf11 hz11 (wc.heap.size+1) (by omega);obtain⟨ht11x1,hu11x1,hv11x1,hw11x1⟩:=q);clear hc11 hf11);(try go_wp2_with fail))|((go_at_call 86;refine(kDrive (h0.below (bel_a))).mono ?_;rintro e w12 ⟨rfl,hb12⟩;obtain⟨hc12,hf12⟩:=bcell hb12;have hz12:=hb12.size;(try simp only[zz] at hc12 hf12 hz12);have:=kfa hb12 w.heap.size;have:=kfa hb12 Ba;(try have q:=kfz hc12 hf12 hz12 (wc.heap.size) (by omega);obtain⟨ht12x0,hu12x0,hv12x0,hw12x0⟩:=q);(try have q:=kfz hc12 hf12 hz12 (wc.heap.size+1) (by omega);obtain⟨ht12x1,hu12x1,hv12x1,hw12x1⟩:=q);(try have q:=kfz hc12 hf12 hz12 (w11.heap.size) (by omega);obtain⟨ht12x2,hu12x2,hv12x2,hw12x2⟩:=q);(try have q:=kfz hc12 hf12 hz12 (w11.heap.size+1) (by omega);obtain⟨ht12x3,hu12x3,hv12x3,hw12x3⟩:=q);clear hc12 hf12);(try go_wp2_with fail))|skip);refine tr hK (fun hHeld=> ?_);clear hK K)
   |refine tc 1 (hr:=by decide+kernel) fun K hK=> ?_
   |refine tc 3 (hr:=by decide+kernel) fun K hK=> ?_
   |refine tc 4 (hr:=by decide+kernel) fun K hK=> ?_
   |refine tc 5 (hr:=by decide+kernel) fun K hK=> ?_
   |refine tc 6 (hr:=by decide+kernel) fun K hK=> ?_
   |refine tc 7 (hr:=by decide+kernel) fun K hK=> ?_
   |(refine wpAnyH_ready (rs:=[1,4,5]) (by decide+kernel) (by simp) ?_;refine AllReadyH.cons rfl (fun K hK=> ?_) (AllReadyH.cons rfl (fun K hK=> ?_) (AllReadyH.cons rfl (fun K hK=> ?_) AllReadyH.nil)))
   |(refine wpAnyH_ready (rs:=[3,4,5]) (by decide+kernel) (by simp) ?_;refine AllReadyH.cons rfl (fun K hK=> ?_) (AllReadyH.cons rfl (fun K hK=> ?_) (AllReadyH.cons rfl (fun K hK=> ?_) AllReadyH.nil)))
   |(refine wpAnyH_ready (rs:=[4,5]) (by decide+kernel) (by simp) ?_;refine AllReadyH.cons rfl (fun K hK=> ?_) (AllReadyH.cons rfl (fun K hK=> ?_) AllReadyH.nil))
   |(refine wpAnyH_ready (rs:=[3,5]) (by decide+kernel) (by simp) ?_;refine AllReadyH.cons rfl (fun K hK=> ?_) (AllReadyH.cons rfl (fun K hK=> ?_) AllReadyH.nil))
   |(refine wpAnyH_ready (rs:=[3,4]) (by decide+kernel) (by simp) ?_;refine AllReadyH.cons rfl (fun K hK=> ?_) (AllReadyH.cons rfl (fun K hK=> ?_) AllReadyH.nil))
   |(refine wpAnyH_ready (rs:=[1,5]) (by decide+kernel) (by simp) ?_;refine AllReadyH.cons rfl (fun K hK=> ?_) (AllReadyH.cons rfl (fun K hK=> ?_) AllReadyH.nil))
   |(refine wpAnyH_ready (rs:=[1,4]) (by decide+kernel) (by simp) ?_;refine AllReadyH.cons rfl (fun K hK=> ?_) (AllReadyH.cons rfl (fun K hK=> ?_) AllReadyH.nil))
   | (refine wpAnyH_done (by decide+kernel) ?_ _
      go_wp2_with fail
      go_meet
      exact⟨_,_,rfl,rfl,(by go_simp),(by go_simp),(by go_simp),(by go_simp),(by go_simp),(by go_simp),(by go_simp),(by go_simp),(by first|(go_simp;done)|(simp;done)),(by first|(go_simp;done)|(simp;done)),(by first|omega|(simp;done)|(simp;omega)),(by first|omega|(simp;done)|(simp;omega)),(by first|omega|(simp;done)|(simp;omega)),(by first|omega|(simp;done)|(simp;omega)),(by first|omega|(simp;done)|(simp;omega)),bel_a⟩)
 case rest=>
 obtain⟨Bt,Bd,rfl,rfl,y0,y1,y2,y3,y4,y5,y6,y7,z0,z1,m0,m1,m2,m3,m4,hbel2⟩:=hcut
 clear x0 x1 x2 x3 hbel hhi nBa
 have kz:=hbel2.size
 have ne1:(Bt=Bd)=False:=eq_false m2
 have ne2:(Bd=Bt)=False:=eq_false (by omega)
 have ne3:(Ba=Bd)=False:=eq_false (by omega)
 have ne4:(Bd=Ba)=False:=eq_false (by omega)
 have ne5:(w.heap.size=Bd)=False:=eq_false (by omega)
 have ne6:(Bd=w.heap.size)=False:=eq_false (by omega)
 have lq:w.heap.size<wc.heap.size:=by omega
 go_wp2_with fail
 by_cases cA:A=V 4+p
 all_goals
  first|rw[if_pos cA] at eC|rw[if_neg cA] at eC
  subst eC
  by_cases cB:B=V 5+q
  all_goals
   first|rw[if_pos cB] at eD|rw[if_neg cB] at eD
   subst eD
   refine wp_loop_rounds 3 ?_
   rw[rounds_succ]
   go_upto_region 6 with fail
   refine wp_region_held_drew (S:=fun w'=>w'.cell? ⟨Bt,0,none⟩=some (.int .i64 A)∧w'.cell? ⟨Bt,1,none⟩=some (.int .i64 B)∧w'.cell? ⟨Ba,0,none⟩=some (.int .i64 (V 4+p))∧w'.cell? ⟨Ba,1,none⟩=some (.int .i64 (V 5+q))) (by kernel_rfl) ?_ (fun hHeld=> ?_)
   · (try dsimp only)
     (first|(go_simp;done)|(go_keep;done))
   refine tq 0 hHeld ?_
   refine tq 1 hHeld ?_
   refine tq 2 hHeld ?_
   refine tq 3 hHeld ?_
   refine tq 4 hHeld ?_
   refine tq 5 hHeld ?_
   refine tq 6 hHeld ?_
   refine wpAnyH_done (by kernel_rfl) ?_ _
   go_wp2_with fail
   rw[rounds_succ]
   go_upto_region 6 with fail
   refine wp_region_held_drew (S:=fun w'=>w'.cell? ⟨Bt,0,none⟩=some (.int .i64 A)∧w'.cell? ⟨Bt,1,none⟩=some (.int .i64 B)∧w'.cell? ⟨Ba,0,none⟩=some (.int .i64 (V 4+p))∧w'.cell? ⟨Ba,1,none⟩=some (.int .i64 (V 5+q))) (by kernel_rfl) ?_ (fun hHeld=> ?_)
   · (try dsimp only)
     (first|(go_simp;done)|(go_keep;done))
   refine tq 0 hHeld ?_
   refine tq 1 hHeld ?_
   refine tq 2 hHeld ?_
   refine tq 3 hHeld ?_
   refine tq 4 hHeld ?_
   refine tq 5 hHeld ?_
   refine tq 6 hHeld ?_
   refine wpAnyH_done (by kernel_rfl) ?_ _
   go_wp2_with fail
   rw[rounds_succ]
   go_wp2_with (first
    |(go_at_call 144;refine(kSetDrive hr21 hk hn _ _).mono ?_;rintro e w22 ⟨rfl,hr22,hF22⟩)
    |(go_at_call 164;refine(kSetAt (h.below (bel_a)) hk hn _ _).mono ?_;rintro e w21 ⟨rfl,hr21,hF21⟩;have hz21:=hF21.size;(try simp only[zz] at hz21);have hk21x0:=fun o=>hF21.cell (p:=⟨w.heap.size,o,none⟩) (by first|omega|(simp;done)|(simp;omega)) (hx _ (by first|omega|(simp;done)|(simp;omega)));have hj21x0:=fun o=>hF21.frozen (p:=⟨w.heap.size,o,none⟩) (by first|omega|(simp;done)|(simp;omega)) (hx _ (by first|omega|(simp;done)|(simp;omega)));have hq21x0:w.heap.size<w21.heap.size:=(by omega);have hk21x1:=fun o=>hF21.cell (p:=⟨Bd,o,none⟩) (by first|omega|(simp;done)|(simp;omega)) (hx _ (by first|omega|(simp;done)|(simp;omega)));have hj21x1:=fun o=>hF21.frozen (p:=⟨Bd,o,none⟩) (by first|omega|(simp;done)|(simp;omega)) (hx _ (by first|omega|(simp;done)|(simp;omega)));have hq21x1:Bd<w21.heap.size:=(by omega)))
   go_end0
   exact⟨rfl,(by(try rw[cA]);(try rw[cB]);exact hr22),((Fr.of_below (bel_a)).trans hF21).trans hF22⟩
theorem kShare {cb n k l:Nat} {V1 V2:Nat→Int} {G:Nat→Nat} {w:World} (h1:HAt w cb n k V1 G) (h2:HAt w cb n l V2 G) (m x:Int) (a0:0≤V1 8∧V1 8≤1000) (a1:0≤V2 8∧V2 8≤1000) (hm: -30000≤m∧m≤30000) (ex:shareV V1 V2 m=x):
 Calls Tryz.prog 180 #[hdk cb k,.int .i64 m,hdk cb l] w fun e w'=>e= .returned (.int .i64 x)∧Below w.heap.size w w':=by
 have hset:=cset_map
 have l1:=h1.cbl
 subst ex
 unfold shareV
 have p2:=mul_bd (a:=m) (b:=V2 8) (A:=30000) (B:=1000) (by omega) (by omega)
 have p5:=tdiv_bd (x:=m*V2 8) (B:=30000000) (V1 8+V2 8) (by omega)
 by_cases z1:V1 8=0
 · have d1:decide (V1 8=0)=true:=decide_eq_true z1
   rw[d1,cond_true]
   go_enter Tryz.func180,Tryz.ntmps180
   go_wp2_with (go_at_call 58;refine(kFixed (h1.below (bel_a))).mono ?_;rintro e w1 ⟨rfl,hb1⟩;have hz1:=hb1.size;(try simp only[zz] at hz1);have:=kf2 hb1 w.heap.size)
   exact bodyPost_ret (v:= .int .i64 0) (by simp[results,Tryz.results180,go_sem, *]) rfl ⟨rfl,bel_a⟩
 · have d1:decide (V1 8=0)=false:=decide_eq_false z1
   rw[d1,cond_false]
   by_cases z2:V2 8=0
   · have d2:decide (V2 8=0)=true:=decide_eq_true z2
     rw[d2,cond_true]
     go_enter Tryz.func180,Tryz.ntmps180
     go_wp2_with (first
   |(have _:=hb1;go_at_call 58;refine(kFixed (h2.below (bel_a))).mono ?_;rintro e w2 ⟨rfl,hb2⟩;have hz2:=hb2.size;(try simp only[zz] at hz2);have:=kf2 hb2 w.heap.size)
   | (go_at_call 58;refine(kFixed (h1.below (bel_a))).mono ?_;rintro e w1 ⟨rfl,hb1⟩;have hz1:=hb1.size;(try simp only[zz] at hz1);have:=kf2 hb1 w.heap.size))
     exact bodyPost_ret (v:= .int .i64 m) (by simp[results,Tryz.results180,go_sem, *]) rfl ⟨rfl,bel_a⟩
   · have d2:decide (V2 8=0)=false:=decide_eq_false z2
     rw[d2,cond_false]
     have z3:(V1 8+V2 8=0)=False:=eq_false (by omega)
     have z4:¬ V1 8+V2 8=0:=by omega
     have w1_:IntKind.i64.wrap (m*V2 8)=m*V2 8:=i64w (by omega)
     have w2_:IntKind.i64.wrap (V1 8+V2 8)=V1 8+V2 8:=i64w (by omega)
     have w3_:IntKind.i64.wrap ((m*V2 8).tdiv (V1 8+V2 8))=(m*V2 8).tdiv (V1 8+V2 8):=i64w (by omega)
     go_enter Tryz.func180,Tryz.ntmps180
     go_upto_region 5 with(first
   |(have _:=hb1;go_at_call 58;refine(kFixed (h2.below (bel_a))).mono ?_;rintro e w2 ⟨rfl,hb2⟩;have hz2:=hb2.size;(try simp only[zz] at hz2);have:=kf2 hb2 w.heap.size)
   | (go_at_call 58;refine(kFixed (h1.below (bel_a))).mono ?_;rintro e w1 ⟨rfl,hb1⟩;have hz1:=hb1.size;(try simp only[zz] at hz1);have:=kf2 hb1 w.heap.size))
     refine wp_region_held_drew (S:=fun w'=>w'.cell? ⟨w.heap.size,0,none⟩=some (.int .i64 (k:Int))∧w'.cell? ⟨w.heap.size,1,none⟩=some (.pointer (some ⟨cb,0,none⟩))∧w'.cell? ⟨w.heap.size+1,0,none⟩=some (.int .i64 (l:Int))∧w'.cell? ⟨w.heap.size+1,1,none⟩=some (.pointer (some ⟨cb,0,none⟩))) (by kernel_rfl) ?_ (fun hHeld=> ?_)
     · (try dsimp only)
       (first|(go_simp;done)|(go_keep;done))
     refine tq 0 hHeld ?_
     refine tq 1 hHeld ?_
     refine tq 4 hHeld ?_
     refine tq 6 hHeld ?_
     (refine tc 2 fun K hK=> ?_;go_simp;(go_at_call 87;refine(kMass (h2.below (bel_a))).mono ?_;rintro e w3 ⟨rfl,hb3⟩;have hz3:=hb3.size;(try simp only[zz] at hz3);have:=kf2 hb3 w.heap.size);(try go_wp2_with fail);refine tr hK (fun hHeld=> ?_);clear hK K)
     refine tq 3 hHeld ?_
     (refine tc 5 fun K hK=> ?_;go_simp;(go_at_call 87;refine(kMass (h1.below (bel_a))).mono ?_;rintro e w4 ⟨rfl,hb4⟩;have hz4:=hb4.size;(try simp only[zz] at hz4);have:=kf2 hb4 w.heap.size);(try go_wp2_with fail);refine tr hK (fun hHeld=> ?_);clear hK K)
     (refine tc 7 fun K hK=> ?_;go_simp;(go_at_call 87;refine(kMass (h2.below (bel_a))).mono ?_;rintro e w5 ⟨rfl,hb5⟩;have hz5:=hb5.size;(try simp only[zz] at hz5);have:=kf2 hb5 w.heap.size);(try go_wp2_with fail);refine tr hK (fun hHeld=> ?_);clear hK K)
     refine tq 8 hHeld ?_
     refine tq 9 hHeld ?_
     refine tq 10 hHeld ?_
     refine wpAnyH_done (by kernel_rfl) ?_ _
     go_wp2_with fail
     exact bodyPost_ret (v:= .int .i64 ((m*V2 8).tdiv (V1 8+V2 8))) (by simp[results,Tryz.results180,go_sem, *]) rfl ⟨rfl,bel_a⟩
def anyB (q:Nat→Bool):Nat→Bool
 |0=>false
 |i+1=>anyB q i||q i
theorem anyB_congr {p q:Nat→Bool}:∀ n,(∀ j,j<n→p j=q j)→anyB p n=anyB q n
 |0,_=>rfl
 |n+1,h=>by rw[anyB,anyB,anyB_congr n (fun j hj=>h j (by omega)),h n (by omega)]
theorem anyB_no {q:Nat→Bool}:∀ n,(∀ j,j<n→q j=false)→anyB q n=false
 |0,_=>rfl
 |n+1,h=>by rw[anyB,anyB_no n (fun j hj=>h j (by omega)),h n (by omega)];rfl
def awk (fx:Nat→Bool) (L:Nat→Nat) (sl:Nat→Bool) (n t:Nat):Bool:=anyB (fun j=>decide (gnum fx L j=(t:Int))&& !sl j) n
theorem memL_any (L:Nat→Nat) (i:Nat) (sl:Nat→Bool):∀ n,(memL L i n).any (fun j=> !sl j)=anyB (fun j=>decide (L j=i)&& !sl j) n
 |0=>rfl
 | n+1=>by
   rw[memL,List.any_append,memL_any L i sl n,anyB]
   by_cases h:L n=i
   · rw[if_pos h,decide_eq_true h];simp
   · rw[if_neg h,decide_eq_false h];simp
theorem memL_awk {fx:Nat→Bool} {L:Nat→Nat} (hT:Tops fx L) {i k:Nat} (sl:Nat→Bool) (n:Nat) (hf:fstB fx L i=true) (hk:cntp (fstB fx L) i=k):(memL L i n).any (fun j=> !sl j)=awk fx L sl n k:=by
 rw[memL_any]
 refine anyB_congr n fun j _=> ?_
 have hfi:fx i=false:=by
  unfold fstB at hf
  cases h:fx i with
  |false=>rfl
  |true=>rw[h] at hf;cases hf
 have e:(L j=i)↔gnum fx L j=(k:Int):=by
  unfold gnum
  constructor
  · intro h
    have hx:fx j=false:=by rw[←hT.fx,h];exact hfi
    rw[if_neg (by rw[hx];simp),h,hk]
  · intro h
    by_cases hx:fx j=true
    · rw[if_pos hx] at h;omega
    · rw[if_neg hx] at h
      exact cntp_inj _ (hT.fst (by simpa using hx)) hf (by omega)
 rw[decide_eq_decide.2 e]
def slG (U:Nat→Int) (j:Nat):Bool:=decide (8≤U (j*12+11))
theorem bool_eq {l m:List Bool} (h1:l.length=m.length) (h:∀ t,t<l.length→l.getD t false=m.getD t false):l=m:=by
 apply List.ext_getElem h1
 intro j hj hj'
 have:=h j hj
 rw[List.getD_eq_getElem?_getD,List.getD_eq_getElem?_getD,List.getElem?_eq_getElem hj,List.getElem?_eq_getElem hj'] at this
 exact this
theorem getD_app (l:List Bool) (x:Bool) (t:Nat):(l++[x]).getD t false=if t=l.length then x else l.getD t false:=by
 rw[List.getD_eq_getElem?_getD,List.getD_eq_getElem?_getD]
 by_cases h:t<l.length
 · rw[List.getElem?_append_left h,if_neg (by omega)]
 · by_cases e:t=l.length
   · subst e;simp
   · rw[if_neg e,List.getElem?_eq_none (by simp;omega),List.getElem?_eq_none (by omega)]
theorem getD_set (l:List Bool) (q:Nat) (x:Bool) (t:Nat) (hq:q<l.length):(l.set q x).getD t false=if t=q then x else l.getD t false:=by
 rw[List.getD_eq_getElem?_getD,List.getD_eq_getElem?_getD,List.getElem?_set]
 by_cases e:q=t
 · subst e;simp[hq]
 · rw[if_neg e,if_neg (fun q=>e q.symm)]
theorem gnum_lt {fx:Nat→Bool} {L:Nat→Nat} (hT:Tops fx L) {i j:Nat} (hj:j<i):gnum fx L j<(cntp (fstB fx L) i:Int):=by
 unfold gnum
 by_cases h:fx j=true
 · rw[if_pos h];omega
 · rw[if_neg h]
   have:=hT.le j
   have:=cntp_in (fstB fx L) (show L j<i by omega) (hT.fst (by simpa using h))
   omega
theorem awL_eq {U G:Nat→Int} {L:Nat→Nat} {n:Nat} (hT:Tops (fxU U) L) (hG:∀ j,j<n→G j=gnum (fxU U) L j):∀ i,i≤n→(awL U G i).length=cntp (fstB (fxU U) L) i∧∀ t,t<cntp (fstB (fxU U) L) i→(awL U G i).getD t false=awk (fxU U) L (slG U) i t
 |0,_=>⟨rfl,fun t h=>absurd h (Nat.not_lt_zero _)⟩
 | i+1,hi=>by
   obtain⟨ih1,ih2⟩:=awL_eq hT hG i (by omega)
   have hs:(!decide (8≤U (i*12+11)))= !slG U i:=rfl
   rw[awL,hs,hG i (by omega)]
   cases hf:fxU U i with
   | true=>
     have hb:fstB (fxU U) L i=false:=by unfold fstB;rw[hf];rfl
     have hg:gnum (fxU U) L i= -1:=by unfold gnum;rw[if_pos hf]
     rw[cntp,hb,hg,awP_m _ _ _ (by omega)]
     refine⟨ih1,fun t ht=> ?_⟩
     have ht':t<cntp (fstB (fxU U) L) i:=ht
     rw[ih2 t ht']
     unfold awk
     rw[anyB,hg,decide_eq_false (by omega)]
     simp
   | false=>
     have hle:=hT.le i
     by_cases e:L i=i
     · have hb:fstB (fxU U) L i=true:=by unfold fstB;rw[hf,decide_eq_true e];rfl
       have hg:gnum (fxU U) L i=((awL U G i).length:Int):=by unfold gnum;rw[if_neg (by rw[hf];simp),e,ih1]
       have hset:((awL U G i)++[false]).set (awL U G i).length (!slG U i)=(awL U G i)++[!slG U i]:=by simp
       rw[hg,awP_n,hset,cntp,hb]
       refine⟨by rw[List.length_append,ih1];rfl,fun t ht=> ?_⟩
       have ht':t<cntp (fstB (fxU U) L) i+1:=ht
       rw[getD_app]
       unfold awk
       rw[anyB]
       by_cases q:t=(awL U G i).length
       · rw[if_pos q,anyB_no i (fun j hj=>by
          have:=gnum_lt hT hj
          rw[decide_eq_false (by omega)];rfl),hg,decide_eq_true (by omega)]
         simp
       · rw[if_neg q,ih2 t (by omega),hg,decide_eq_false (by omega)]
         unfold awk
         simp
     · have hb:fstB (fxU U) L i=false:=by unfold fstB;rw[decide_eq_false e];simp
       have hlt:=cntp_in (fstB (fxU U) L) (show L i<i by omega) (hT.fst hf)
       have hg:gnum (fxU U) L i=(cntp (fstB (fxU U) L) (L i):Int):=by unfold gnum;rw[if_neg (by rw[hf];simp)]
       rw[hg,awP_o _ _ _ (by omega),cntp,hb]
       refine⟨by rw[List.length_set,ih1];rfl,fun t ht=> ?_⟩
       have ht':t<cntp (fstB (fxU U) L) i:=ht
       rw[getD_set _ _ _ _ (by omega),ih2 _ hlt]
       unfold awk
       rw[anyB,hg]
       by_cases q:t=cntp (fstB (fxU U) L) (L i)
       · rw[if_pos q,←q,decide_eq_true (by rfl)]
         simp
       · rw[if_neg q,ih2 t ht',decide_eq_false (by omega)]
         unfold awk
         simp
end Go.Proofs.YtcalhcfinkhemaaGreatDoor
