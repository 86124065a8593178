/- Texts of a proof. -/
import Derived.Test.YthajilkjfkppoaaGreatDoorB6
import Derived.Test.YthajilkjfkppoaaGreatDoorB9
import Derived.Test.YthajilkjfkppoaaGreatDoorB3
import Derived.Test.YthajilkjfkppoaaGreatDoorB12
import Derived.Test.YthajilkjfkppoaaGreatDoorB14
import Derived.Handy
import Derived.Deep.RegionHeld3
import Derived.Deep.DeepCutAuto
import Derived.Test.YthajilkjfkppoaaGreatDoorB20
import Derived.Test.YthajilkjfkppoaaGreatDoorB2
import Derived.Test.YthajilkjfkppoaaGreatDoorB29
import Derived.Test.YthajilkjfkppoaaGreatDoorB5
import Derived.Test.YthajilkjfkppoaaGreatDoorB11
set_option maxHeartbeats 16000000
set_option maxRecDepth 20000
namespace Go.Proofs.YthajilkjfkppoaaGreatDoor
open Go.RowKit
set_option linter.unusedVariables false
set_option linter.unusedSimpArgs false
theorem wayHeld_z (x y l a b:Int) (w:World) (h0:0≤l) (h1:l≤4000000000) (ea:clampZ l x=a) (eb:clampZ l y=b):
 Calls Tryz.prog 57 #[vv x y,.int .i64 l] w fun e w'=>e= .returned (vv a b)∧Below w.heap.size w w':=by
 subst ea eb;exact wayHeld_any x y l w h0 h1
theorem kMove_c {cb n k:Nat} {C:Nat→Nat→Int} {S:Nat→Value} {w:World} (h:Cs w cb n C S) (hk:k<n) (hn:n≤1048576) (p q A B D E:Int) (V:Nat→Int) (hV:∀ i,V i=C i k) (b4: -2560000≤V 4∧V 4≤2560000) (b5: -2560000≤V 5∧V 5≤2560000) (bp: -20000000≤p∧p≤20000000) (bq: -20000000≤q∧q≤20000000)
 (eA:clampZ 2560000 (V 4+p)=A) (eB:clampZ 2560000 (V 5+q)=B) (eC:(if A=V 4+p then V 6 else 0)=D) (eD:(if B=V 5+q then V 7 else 0)=E):
 Calls Tryz.prog 25 #[hdk cb k,vv p q] w fun e w'=>e= .returned (.tuple #[])∧Cs w' cb n (setC (setC (setC (setC C 4 k A) 5 k B) 6 k D) 7 k E) S∧Fr (Xc S) w w':=by
 have hset:=cset_map
 have h0:HAt w cb n k V (gOf S):=by rw[show V=fun i=>C i k from funext hV];exact h.hat hk hn
 clear hV
 have l1:=h0.cbl
 have hx:∀ b,w.heap.size≤b→¬ Xc S b:=fun b hb x=>by have:=(h.xlt x).2;omega
 go_enter Tryz.func25,Tryz.ntmps25
 go_upto_region 1 with fail
 go_cut [4] (fun s wc=>∃ Ba,s= .pointer (some ⟨Ba,0,none⟩)∧wc.cell? ⟨w.heap.size,0,none⟩=some (.int .i64 (k:Int))∧wc.cell? ⟨w.heap.size,1,none⟩=some (.pointer (some ⟨cb,0,none⟩))∧wc.cell? ⟨Ba,0,none⟩=some (.int .i64 (V 4+p))∧wc.cell? ⟨Ba,1,none⟩=some (.int .i64 (V 5+q))∧w.heap.size+1<Ba∧Ba<wc.heap.size∧Below w.heap.size w wc)
 case first=>
  refine wp_region_held_drew (S:=fun w'=>w'.cell? ⟨w.heap.size,0,none⟩=some (.int .i64 (k:Int))∧w'.cell? ⟨w.heap.size,1,none⟩=some (.pointer (some ⟨cb,0,none⟩))∧w'.cell? ⟨w.heap.size+1,0,none⟩=some (.int .i64 p)∧w'.cell? ⟨w.heap.size+1,1,none⟩=some (.int .i64 q)) (by kernel_rfl) ?_ (fun hHeld=> ?_)
  · (try dsimp only)
    (first|(go_simp;done)|(go_keep;done))
  refine tq 0 hHeld ?_
  refine tq 2 hHeld ?_
  repeat' first
   |(replace hK:=hK;go_simp;(first|((go_at_call 56;refine(kAt (h0.below (bel_a))).mono ?_;rintro e w1 ⟨rfl,hb1⟩;obtain⟨hc1,hf1⟩:=bcell hb1;have hz1:=hb1.size;(try simp only[zz] at hc1 hf1 hz1);have:=kf2 hb1 w.heap.size;(try have q:=kfz hc1 hf1 hz1 (w.heap.size+1+1) (by omega);obtain⟨ht1x0,hu1x0,hv1x0,hw1x0⟩:=q);clear hc1 hf1);(try go_wp2_with fail))|((go_at_call 30;refine(plus_any _ _ _ _ _ (by omega) (by omega) (by omega) (by omega)).mono ?_;rintro e w2 ⟨rfl,hb2⟩;obtain⟨hc2,hf2⟩:=bcell hb2;have hz2:=hb2.size;(try simp only[zz] at hc2 hf2 hz2);have:=kf2 hb2 w.heap.size;(try have q:=kfz hc2 hf2 hz2 (w.heap.size+1+1) (by omega);obtain⟨ht2x0,hu2x0,hv2x0,hw2x0⟩:=q);(try have q:=kfz hc2 hf2 hz2 (w1.heap.size) (by omega);obtain⟨ht2x1,hu2x1,hv2x1,hw2x1⟩:=q);clear hc2 hf2);(try go_wp2_with fail))|skip);refine tr hK (fun hHeld=> ?_);clear hK K)
   |refine tc 1 (hr:=by decide+kernel) fun K hK=> ?_
   |refine tc 3 (hr:=by decide+kernel) fun K hK=> ?_
   |refine tc 4 (hr:=by decide+kernel) fun K hK=> ?_
   |refine tc 5 (hr:=by decide+kernel) fun K hK=> ?_
   |(refine wpAnyH_ready (rs:=[1,4]) (by decide+kernel) (by simp) ?_;refine AllReadyH.cons rfl (fun K hK=> ?_) (AllReadyH.cons rfl (fun K hK=> ?_) AllReadyH.nil))
   |(refine wpAnyH_ready (rs:=[3,4]) (by decide+kernel) (by simp) ?_;refine AllReadyH.cons rfl (fun K hK=> ?_) (AllReadyH.cons rfl (fun K hK=> ?_) AllReadyH.nil))
   | (refine wpAnyH_done (by decide+kernel) ?_ _
      go_wp2_with fail
      go_meet
      exact⟨_,rfl,(by go_simp),(by go_simp),(by go_simp),(by go_simp),(by first|omega|(simp;done)|(simp;omega)),(by first|omega|(simp;done)|(simp;omega)),bel_a⟩)
 case rest=>
 obtain⟨Ba,rfl,x0,x1,x2,x3,hlo,hhi,hbel⟩:=hcut
 have nBa:(wc.heap.size=Ba)=False:=eq_false (by omega)
 go_upto_region 2 with fail
 go_cut [5,6] (fun s s' wc=>∃ Bt Bd,s= .pointer (some ⟨Bt,0,none⟩)∧s'= .pointer (some ⟨Bd,0,none⟩)∧wc.cell? ⟨w.heap.size,0,none⟩=some (.int .i64 (k:Int))∧wc.cell? ⟨w.heap.size,1,none⟩=some (.pointer (some ⟨cb,0,none⟩))∧wc.cell? ⟨Ba,0,none⟩=some (.int .i64 (V 4+p))∧wc.cell? ⟨Ba,1,none⟩=some (.int .i64 (V 5+q))∧wc.cell? ⟨Bt,0,none⟩=some (.int .i64 A)∧wc.cell? ⟨Bt,1,none⟩=some (.int .i64 B)∧wc.cell? ⟨Bd,0,none⟩=some (.int .i64 (V 6))∧wc.cell? ⟨Bd,1,none⟩=some (.int .i64 (V 7))∧wc.frozen? ⟨Bd,0,none⟩=false∧wc.frozen? ⟨Bd,1,none⟩=false∧Ba<Bt∧Ba<Bd∧Bt≠Bd∧Bt<wc.heap.size∧Bd<wc.heap.size∧Below w.heap.size w wc)
 case first=>
  refine wp_region_held_drew (S:=fun w'=>w'.cell? ⟨w.heap.size,0,none⟩=some (.int .i64 (k:Int))∧w'.cell? ⟨w.heap.size,1,none⟩=some (.pointer (some ⟨cb,0,none⟩))∧w'.cell? ⟨Ba,0,none⟩=some (.int .i64 (V 4+p))∧w'.cell? ⟨Ba,1,none⟩=some (.int .i64 (V 5+q))) (by kernel_rfl) ?_ (fun hHeld=> ?_)
  · (try dsimp only)
    (first|(go_simp;done)|(go_keep;done))
  refine tq 0 hHeld ?_
  refine tq 2 hHeld ?_
  repeat' first
   |(replace hK:=hK;go_simp;(first|((go_at_call 57;refine(wayHeld_z _ _ _ _ _ _ (by omega) (by omega) (by with_reducible assumption) (by with_reducible assumption)).mono ?_;rintro e w11 ⟨rfl,hb11⟩;obtain⟨hc11,hf11⟩:=bcell hb11;have hz11:=hb11.size;(try simp only[zz] at hc11 hf11 hz11);have:=kfa hb11 w.heap.size;have:=kfa hb11 Ba;(try have q:=kfz hc11 hf11 hz11 (wc.heap.size) (by omega);obtain⟨ht11x0,hu11x0,hv11x0,hw11x0⟩:=q);(try have q:=kfz hc11 hf11 hz11 (wc.heap.size+1) (by omega);obtain⟨ht11x1,hu11x1,hv11x1,hw11x1⟩:=q);clear hc11 hf11);(try go_wp2_with fail))|((go_at_call 31;refine(kDrive (h0.below (bel_a))).mono ?_;rintro e w12 ⟨rfl,hb12⟩;obtain⟨hc12,hf12⟩:=bcell hb12;have hz12:=hb12.size;(try simp only[zz] at hc12 hf12 hz12);have:=kfa hb12 w.heap.size;have:=kfa hb12 Ba;(try have q:=kfz hc12 hf12 hz12 (wc.heap.size) (by omega);obtain⟨ht12x0,hu12x0,hv12x0,hw12x0⟩:=q);(try have q:=kfz hc12 hf12 hz12 (wc.heap.size+1) (by omega);obtain⟨ht12x1,hu12x1,hv12x1,hw12x1⟩:=q);(try have q:=kfz hc12 hf12 hz12 (w11.heap.size) (by omega);obtain⟨ht12x2,hu12x2,hv12x2,hw12x2⟩:=q);(try have q:=kfz hc12 hf12 hz12 (w11.heap.size+1) (by omega);obtain⟨ht12x3,hu12x3,hv12x3,hw12x3⟩:=q);clear hc12 hf12);(try go_wp2_with fail))|skip);refine tr hK (fun hHeld=> ?_);clear hK K)
   |refine tc 1 (hr:=by decide+kernel) fun K hK=> ?_
   |refine tc 3 (hr:=by decide+kernel) fun K hK=> ?_
   |refine tc 4 (hr:=by decide+kernel) fun K hK=> ?_
   |refine tc 5 (hr:=by decide+kernel) fun K hK=> ?_
   |refine tc 6 (hr:=by decide+kernel) fun K hK=> ?_
   |refine tc 7 (hr:=by decide+kernel) fun K hK=> ?_
   |(refine wpAnyH_ready (rs:=[1,4,5]) (by decide+kernel) (by simp) ?_;refine AllReadyH.cons rfl (fun K hK=> ?_) (AllReadyH.cons rfl (fun K hK=> ?_) (AllReadyH.cons rfl (fun K hK=> ?_) AllReadyH.nil)))
   |(refine wpAnyH_ready (rs:=[3,4,5]) (by decide+kernel) (by simp) ?_;refine AllReadyH.cons rfl (fun K hK=> ?_) (AllReadyH.cons rfl (fun K hK=> ?_) (AllReadyH.cons rfl (fun K hK=> ?_) AllReadyH.nil)))
   |(refine wpAnyH_ready (rs:=[4,5]) (by decide+kernel) (by simp) ?_;refine AllReadyH.cons rfl (fun K hK=> ?_) (AllReadyH.cons rfl (fun K hK=> ?_) AllReadyH.nil))
   |(refine wpAnyH_ready (rs:=[3,5]) (by decide+kernel) (by simp) ?_;refine AllReadyH.cons rfl (fun K hK=> ?_) (AllReadyH.cons rfl (fun K hK=> ?_) AllReadyH.nil))
   |(refine wpAnyH_ready (rs:=[3,4]) (by decide+kernel) (by simp) ?_;refine AllReadyH.cons rfl (fun K hK=> ?_) (AllReadyH.cons rfl (fun K hK=> ?_) AllReadyH.nil))
   |(refine wpAnyH_ready (rs:=[1,5]) (by decide+kernel) (by simp) ?_;refine AllReadyH.cons rfl (fun K hK=> ?_) (AllReadyH.cons rfl (fun K hK=> ?_) AllReadyH.nil))
   |(refine wpAnyH_ready (rs:=[1,4]) (by decide+kernel) (by simp) ?_;refine AllReadyH.cons rfl (fun K hK=> ?_) (AllReadyH.cons rfl (fun K hK=> ?_) AllReadyH.nil))
   | (refine wpAnyH_done (by decide+kernel) ?_ _
      go_wp2_with fail
      go_meet
      exact⟨_,_,rfl,rfl,(by go_simp),(by go_simp),(by go_simp),(by go_simp),(by go_simp),(by go_simp),(by go_simp),(by go_simp),(by first|(go_simp;done)|(simp;done)),(by first|(go_simp;done)|(simp;done)),(by first|omega|(simp;done)|(simp;omega)),(by first|omega|(simp;done)|(simp;omega)),(by first|omega|(simp;done)|(simp;omega)),(by first|omega|(simp;done)|(simp;omega)),(by first|omega|(simp;done)|(simp;omega)),bel_a⟩)
 case rest=>
 obtain⟨Bt,Bd,rfl,rfl,y0,y1,y2,y3,y4,y5,y6,y7,z0,z1,m0,m1,m2,m3,m4,hbel2⟩:=hcut
 clear x0 x1 x2 x3 hbel hhi nBa
 have kz:=hbel2.size
 have ne1:(Bt=Bd)=False:=eq_false m2
 have ne2:(Bd=Bt)=False:=eq_false (by omega)
 have ne3:(Ba=Bd)=False:=eq_false (by omega)
 have ne4:(Bd=Ba)=False:=eq_false (by omega)
 have ne5:(w.heap.size=Bd)=False:=eq_false (by omega)
 have ne6:(Bd=w.heap.size)=False:=eq_false (by omega)
 have lq:w.heap.size<wc.heap.size:=by omega
 go_wp2_with fail
 by_cases cA:A=V 4+p
 all_goals
  first|rw[if_pos cA] at eC|rw[if_neg cA] at eC
  subst eC
  by_cases cB:B=V 5+q
  all_goals
   first|rw[if_pos cB] at eD|rw[if_neg cB] at eD
   subst eD
   refine wp_loop_rounds 3 ?_
   rw[rounds_succ]
   go_upto_region 6 with fail
   refine wp_region_held_drew (S:=fun w'=>w'.cell? ⟨Bt,0,none⟩=some (.int .i64 A)∧w'.cell? ⟨Bt,1,none⟩=some (.int .i64 B)∧w'.cell? ⟨Ba,0,none⟩=some (.int .i64 (V 4+p))∧w'.cell? ⟨Ba,1,none⟩=some (.int .i64 (V 5+q))) (by kernel_rfl) ?_ (fun hHeld=> ?_)
   · (try dsimp only)
     (first|(go_simp;done)|(go_keep;done))
   refine tq 0 hHeld ?_
   refine tq 1 hHeld ?_
   refine tq 2 hHeld ?_
   refine tq 3 hHeld ?_
   refine tq 4 hHeld ?_
   refine tq 5 hHeld ?_
   refine tq 6 hHeld ?_
   refine wpAnyH_done (by kernel_rfl) ?_ _
   go_wp2_with fail
   rw[rounds_succ]
   go_upto_region 6 with fail
   refine wp_region_held_drew (S:=fun w'=>w'.cell? ⟨Bt,0,none⟩=some (.int .i64 A)∧w'.cell? ⟨Bt,1,none⟩=some (.int .i64 B)∧w'.cell? ⟨Ba,0,none⟩=some (.int .i64 (V 4+p))∧w'.cell? ⟨Ba,1,none⟩=some (.int .i64 (V 5+q))) (by kernel_rfl) ?_ (fun hHeld=> ?_)
   · (try dsimp only)
     (first|(go_simp;done)|(go_keep;done))
   refine tq 0 hHeld ?_
   refine tq 1 hHeld ?_
   refine tq 2 hHeld ?_
   refine tq 3 hHeld ?_
   refine tq 4 hHeld ?_
   refine tq 5 hHeld ?_
   refine tq 6 hHeld ?_
   refine wpAnyH_done (by kernel_rfl) ?_ _
   go_wp2_with fail
   rw[rounds_succ]
   go_wp2_with (first
    |(go_at_call 59;refine(kSetDrive hr21 hk hn _ _).mono ?_;rintro e w22 ⟨rfl,hr22,hF22⟩)
    |(go_at_call 58;refine(kSetAt (h.below (bel_a)) hk hn _ _).mono ?_;rintro e w21 ⟨rfl,hr21,hF21⟩;have hz21:=hF21.size;(try simp only[zz] at hz21);have hk21x0:=fun o=>hF21.cell (p:=⟨w.heap.size,o,none⟩) (by first|omega|(simp;done)|(simp;omega)) (hx _ (by first|omega|(simp;done)|(simp;omega)));have hj21x0:=fun o=>hF21.frozen (p:=⟨w.heap.size,o,none⟩) (by first|omega|(simp;done)|(simp;omega)) (hx _ (by first|omega|(simp;done)|(simp;omega)));have hq21x0:w.heap.size<w21.heap.size:=(by omega);have hk21x1:=fun o=>hF21.cell (p:=⟨Bd,o,none⟩) (by first|omega|(simp;done)|(simp;omega)) (hx _ (by first|omega|(simp;done)|(simp;omega)));have hj21x1:=fun o=>hF21.frozen (p:=⟨Bd,o,none⟩) (by first|omega|(simp;done)|(simp;omega)) (hx _ (by first|omega|(simp;done)|(simp;omega)));have hq21x1:Bd<w21.heap.size:=(by omega)))
   go_end0
   exact⟨rfl,(by(try rw[cA]);(try rw[cB]);exact hr22),((Fr.of_below (bel_a)).trans hF21).trans hF22⟩
theorem kShare {cb n k l:Nat} {V1 V2:Nat→Int} {G:Nat→Nat} {w:World} (h1:HAt w cb n k V1 G) (h2:HAt w cb n l V2 G) (m x:Int) (a0:0≤V1 8∧V1 8≤1000) (a1:0≤V2 8∧V2 8≤1000) (hm: -30000≤m∧m≤30000) (ex:shareV V1 V2 m=x):
 Calls Tryz.prog 188 #[hdk cb k,.int .i64 m,hdk cb l] w fun e w'=>e= .returned (.int .i64 x)∧Below w.heap.size w w':=by
 have hset:=cset_map
 have l1:=h1.cbl
 subst ex
 unfold shareV
 have p2:=mul_bd (a:=m) (b:=V2 8) (A:=30000) (B:=1000) (by omega) (by omega)
 have p5:=tdiv_bd (x:=m*V2 8) (B:=30000000) (V1 8+V2 8) (by omega)
 by_cases z1:V1 8=0
 · have d1:decide (V1 8=0)=true:=decide_eq_true z1
   rw[d1,cond_true]
   go_enter Tryz.func188,Tryz.ntmps188
   go_wp2_with (go_at_call 51;refine(kFixed (h1.below (bel_a))).mono ?_;rintro e w1 ⟨rfl,hb1⟩;have hz1:=hb1.size;(try simp only[zz] at hz1);have:=kf2 hb1 w.heap.size)
   exact bodyPost_ret (v:= .int .i64 0) (by simp[results,Tryz.results188,go_sem, *]) rfl ⟨rfl,bel_a⟩
 · have d1:decide (V1 8=0)=false:=decide_eq_false z1
   rw[d1,cond_false]
   by_cases z2:V2 8=0
   · have d2:decide (V2 8=0)=true:=decide_eq_true z2
     rw[d2,cond_true]
     go_enter Tryz.func188,Tryz.ntmps188
     go_wp2_with (first
   |(have _:=hb1;go_at_call 51;refine(kFixed (h2.below (bel_a))).mono ?_;rintro e w2 ⟨rfl,hb2⟩;have hz2:=hb2.size;(try simp only[zz] at hz2);have:=kf2 hb2 w.heap.size)
   | (go_at_call 51;refine(kFixed (h1.below (bel_a))).mono ?_;rintro e w1 ⟨rfl,hb1⟩;have hz1:=hb1.size;(try simp only[zz] at hz1);have:=kf2 hb1 w.heap.size))
     exact bodyPost_ret (v:= .int .i64 m) (by simp[results,Tryz.results188,go_sem, *]) rfl ⟨rfl,bel_a⟩
   · have d2:decide (V2 8=0)=false:=decide_eq_false z2
     rw[d2,cond_false]
     have z3:(V1 8+V2 8=0)=False:=eq_false (by omega)
     have z4:¬ V1 8+V2 8=0:=by omega
     have w1_:IntKind.i64.wrap (m*V2 8)=m*V2 8:=i64w (by omega)
     have w2_:IntKind.i64.wrap (V1 8+V2 8)=V1 8+V2 8:=i64w (by omega)
     have w3_:IntKind.i64.wrap ((m*V2 8).tdiv (V1 8+V2 8))=(m*V2 8).tdiv (V1 8+V2 8):=i64w (by omega)
     go_enter Tryz.func188,Tryz.ntmps188
     go_upto_region 5 with(first
   |(have _:=hb1;go_at_call 51;refine(kFixed (h2.below (bel_a))).mono ?_;rintro e w2 ⟨rfl,hb2⟩;have hz2:=hb2.size;(try simp only[zz] at hz2);have:=kf2 hb2 w.heap.size)
   | (go_at_call 51;refine(kFixed (h1.below (bel_a))).mono ?_;rintro e w1 ⟨rfl,hb1⟩;have hz1:=hb1.size;(try simp only[zz] at hz1);have:=kf2 hb1 w.heap.size))
     refine wp_region_held_drew (S:=fun w'=>w'.cell? ⟨w.heap.size,0,none⟩=some (.int .i64 (k:Int))∧w'.cell? ⟨w.heap.size,1,none⟩=some (.pointer (some ⟨cb,0,none⟩))∧w'.cell? ⟨w.heap.size+1,0,none⟩=some (.int .i64 (l:Int))∧w'.cell? ⟨w.heap.size+1,1,none⟩=some (.pointer (some ⟨cb,0,none⟩))) (by kernel_rfl) ?_ (fun hHeld=> ?_)
     · (try dsimp only)
       (first|(go_simp;done)|(go_keep;done))
     refine tq 0 hHeld ?_
     refine tq 1 hHeld ?_
     refine tq 4 hHeld ?_
     refine tq 6 hHeld ?_
     (refine tc 2 fun K hK=> ?_;go_simp;(go_at_call 60;refine(kMass (h2.below (bel_a))).mono ?_;rintro e w3 ⟨rfl,hb3⟩;have hz3:=hb3.size;(try simp only[zz] at hz3);have:=kf2 hb3 w.heap.size);(try go_wp2_with fail);refine tr hK (fun hHeld=> ?_);clear hK K)
     refine tq 3 hHeld ?_
     (refine tc 5 fun K hK=> ?_;go_simp;(go_at_call 60;refine(kMass (h1.below (bel_a))).mono ?_;rintro e w4 ⟨rfl,hb4⟩;have hz4:=hb4.size;(try simp only[zz] at hz4);have:=kf2 hb4 w.heap.size);(try go_wp2_with fail);refine tr hK (fun hHeld=> ?_);clear hK K)
     (refine tc 7 fun K hK=> ?_;go_simp;(go_at_call 60;refine(kMass (h2.below (bel_a))).mono ?_;rintro e w5 ⟨rfl,hb5⟩;have hz5:=hb5.size;(try simp only[zz] at hz5);have:=kf2 hb5 w.heap.size);(try go_wp2_with fail);refine tr hK (fun hHeld=> ?_);clear hK K)
     refine tq 8 hHeld ?_
     refine tq 9 hHeld ?_
     refine tq 10 hHeld ?_
     refine wpAnyH_done (by kernel_rfl) ?_ _
     go_wp2_with fail
     exact bodyPost_ret (v:= .int .i64 ((m*V2 8).tdiv (V1 8+V2 8))) (by simp[results,Tryz.results188,go_sem, *]) rfl ⟨rfl,bel_a⟩
theorem wayTimes_z (x y n p q:Int) (w:World) (hx: -1000000000≤x∧x≤1000000000) (hy: -1000000000≤y∧y≤1000000000) (hn: -1000000000≤n∧n≤1000000000) (ep:fc ((x*n).tdiv 256)=p) (eq:fc ((y*n).tdiv 256)=q):
 Calls Tryz.prog 187 #[vv x y,.int .i64 n] w fun e w'=>e= .returned (vv p q)∧Below w.heap.size w w':=by
 subst ep eq;exact wayTimes_any x y n w hx hy hn
theorem kMoveU {cb n k:Nat} {U:Nat→Int} {S:Nat→Value} {w:World} (h:Cs w cb n (colOf U) S) (hk:k<n) (hn:n≤1048576) (a4: -2560000≤U (k*12+4)∧U (k*12+4)≤2560000) (a5: -2560000≤U (k*12+5)∧U (k*12+5)≤2560000) (p q:Int) (bp: -20000000≤p∧p≤20000000) (bq: -20000000≤q∧q≤20000000):
 Calls Tryz.prog 25 #[hdk cb k,vv p q] w fun e w'=>e= .returned (.tuple #[])∧Cs w' cb n (colOf (putRow U k (moveV (fun j=>U (k*12+j)) p q))) S∧Fr (Xc S) w w':=by
 refine(kMove_c h hk hn p q _ _ _ _ (fun j=>U (k*12+j)) (fun i=>rfl) a4 a5 bp bq rfl rfl rfl rfl).mono ?_
 rintro e w1 ⟨rfl,hC,hF⟩
 refine⟨rfl,hC.congr fun i j hi hj=> ?_,hF⟩
 rw[col_put hi]
 unfold setC moveV mvX mvY setV
 by_cases e:j=k
 · subst e
   simp only[and_true,if_true]
   repeat' split
   all_goals rfl
 · simp only[e,and_false,if_false]
theorem td_sh {x m:Int} (hx: -256≤x∧x≤256) (hm:0≤m∧m≤30000): -30000≤(x*m).tdiv 256∧(x*m).tdiv 256≤30000∧fc ((x*m).tdiv 256)=(x*m).tdiv 256:=by
 have p:=mul_bd (a:=x) (b:=m) (A:=256) (B:=30000) hx (by omega)
 have t:=tdiv_le (x:=x*m) (B:=30000) (m:=256) (by omega) (by omega) (by omega)
 exact⟨t.1,t.2,fc_id (by omega) (by omega)⟩
theorem mApart {cb n A B:Nat} {U:Nat→Int} {S:Nat→Value} {w:World} (x y d:Int) (h:Cs w cb n (colOf U) S) (hn:n≤1048576) (hAn:A<n) (hBn:B<n) (hAB:A≠B) (oA:BOk (fun j=>U (A*12+j))) (oB:BOk (fun j=>U (B*12+j))) (hX: -256≤x∧x≤256) (hY: -256≤y∧y≤256) (hD:0≤d∧d≤102400):
 Calls Tryz.prog 172 #[(.agg #[.int .i64 x,.int .i64 y,.int .i64 d,.int .i64 (A:Int),.pointer (some ⟨cb,0,none⟩),.int .i64 (B:Int),.pointer (some ⟨cb,0,none⟩)])] w fun e w'=>e= .returned (.tuple #[])∧Cs w' cb n (colOf (apartU U A B x y d)) S∧Fr (Xc S) w w':=by
 have hset:=cset_map
 have hx:∀ b,w.heap.size≤b→¬ Xc S b:=fun b hb x=>by have:=(h.xlt x).2;omega
 obtain⟨m,em⟩:∃ m,(d-64).tdiv 4=m:=⟨_,rfl⟩
 have bm: -30000≤m∧m≤30000:=by rw[←em];exact tdiv_le (by omega) (by omega) (by omega)
 have w1_:IntKind.i64.wrap (d-64)=d-64:=i64w (by omega)
 have w2_:IntKind.i64.wrap ((d-64).tdiv 4)=m:=by rw[em];exact i64w (by omega)
 have w3_:IntKind.i64.wrap m=m:=i64w (by omega)
 by_cases hm:0<m
 · have hmn:¬ (m≤0):=by omega
   obtain⟨sa,esa⟩:∃ s,shareV (fun j=>U (A*12+j)) (fun j=>U (B*12+j)) m=s:=⟨_,rfl⟩
   obtain⟨sb,esb⟩:∃ s,shareV (fun j=>U (B*12+j)) (fun j=>U (A*12+j)) m=s:=⟨_,rfl⟩
   have ba:=share_bd (V:=(fun j=>U (A*12+j))) (W:=(fun j=>U (B*12+j))) (n:=m) oA.m8.1 oB.m8.1 (by omega)
   have bb:=share_bd (V:=(fun j=>U (B*12+j))) (W:=(fun j=>U (A*12+j))) (n:=m) oB.m8.1 oA.m8.1 (by omega)
   rw[esa] at ba
   rw[esb] at bb
   obtain⟨p,ep⟩:∃ p,(-x*sa).tdiv 256=p:=⟨_,rfl⟩
   obtain⟨q,eq⟩:∃ q,(-y*sa).tdiv 256=q:=⟨_,rfl⟩
   obtain⟨r,er⟩:∃ r,(x*sb).tdiv 256=r:=⟨_,rfl⟩
   obtain⟨s,es⟩:∃ s,(y*sb).tdiv 256=s:=⟨_,rfl⟩
   obtain⟨tp1,tp2,fp⟩:=td_sh (x:= -x) (m:=sa) (by omega) (by omega)
   obtain⟨tq1,tq2,fq⟩:=td_sh (x:= -y) (m:=sa) (by omega) (by omega)
   obtain⟨tr1,tr2,fr⟩:=td_sh (x:=x) (m:=sb) (by omega) (by omega)
   obtain⟨ts1,ts2,fs⟩:=td_sh (x:=y) (m:=sb) (by omega) (by omega)
   rw[ep] at tp1 tp2
   replace fp:=fp.trans ep
   rw[eq] at tq1 tq2
   replace fq:=fq.trans eq
   rw[er] at tr1 tr2
   replace fr:=fr.trans er
   rw[es] at ts1 ts2
   replace fs:=fs.trans es
   have ht:=apart_two (U:=U) (A:=A) (B:=B) (x:=x) (y:=y) (d:=d) (p:=p) (q:=q) (r:=r) (s:=s) hAB oA oB (by rw[em];exact hm) (by rw[em,esa];exact ep) (by rw[em,esa];exact eq) (by rw[em,esb];exact er) (by rw[em,esb];exact es)
   have mA:=oA.m8
   have mB:=oB.m8
   have hA0:HAt w cb n A (fun j=>U (A*12+j)) (gOf S):=h.hat hAn hn
   have hB0:HAt w cb n B (fun j=>U (B*12+j)) (gOf S):=h.hat hBn hn
   have l1:=hA0.cbl
   clear ep eq er es
   obtain⟨U1,eU1⟩:∃ U1,putRow U A (moveV (fun j=>U (A*12+j)) p q)=U1:=⟨_,rfl⟩
   rw[eU1] at ht
   rw[←ht]
   clear ht
   have r8A:U1 (A*12+8)=U (A*12+8):=by rw[←eU1,row_is 8 (by omega)];rfl
   have r8B:U1 (B*12+8)=U (B*12+8):=by rw[←eU1,row_else (fun e=>hAB e.symm) 8 (by omega)]
   have oB1:(-2560000≤U1 (B*12+4)∧U1 (B*12+4)≤2560000)∧(-2560000≤U1 (B*12+5)∧U1 (B*12+5)≤2560000):=by rw[←eU1,row_else (fun e=>hAB e.symm) 4 (by omega),row_else (fun e=>hAB e.symm) 5 (by omega)];exact⟨oB.a4,oB.a5⟩
   have esb1:shareV (fun j=>U1 (B*12+j)) (fun j=>U1 (A*12+j)) m=sb:=(shareV_congr m r8B r8A).trans esb
   have mA1:0≤U1 (A*12+8)∧U1 (A*12+8)≤1000:=by rw[r8A];exact mA
   have mB1:0≤U1 (B*12+8)∧U1 (B*12+8)≤1000:=by rw[r8B];exact mB
   go_enter Tryz.func172,Tryz.ntmps172
   go_upto_region 3 with fail
   go_cut [] (fun wc=>Cs wc cb n (colOf U1) S∧Fr (Xc S) w wc∧wc.cell? ⟨w.heap.size,0,none⟩=some (.int .i64 x)∧wc.cell? ⟨w.heap.size,1,none⟩=some (.int .i64 y)∧wc.cell? ⟨w.heap.size,2,none⟩=some (.int .i64 d)∧wc.cell? ⟨w.heap.size,3,none⟩=some (.int .i64 (A:Int))∧wc.cell? ⟨w.heap.size,4,none⟩=some (.pointer (some ⟨cb,0,none⟩))∧wc.cell? ⟨w.heap.size,5,none⟩=some (.int .i64 (B:Int))∧wc.cell? ⟨w.heap.size,6,none⟩=some (.pointer (some ⟨cb,0,none⟩))∧w.heap.size<wc.heap.size)
   case first=>
    clear esb1 mA1 mB1 r8A r8B oB1
    refine wp_region_held_drew (S:=fun w'=>w'.cell? ⟨w.heap.size,0,none⟩=some (.int .i64 x)∧w'.cell? ⟨w.heap.size,1,none⟩=some (.int .i64 y)∧w'.cell? ⟨w.heap.size,2,none⟩=some (.int .i64 d)∧w'.cell? ⟨w.heap.size,3,none⟩=some (.int .i64 (A:Int))∧w'.cell? ⟨w.heap.size,4,none⟩=some (.pointer (some ⟨cb,0,none⟩))∧w'.cell? ⟨w.heap.size,5,none⟩=some (.int .i64 (B:Int))∧w'.cell? ⟨w.heap.size,6,none⟩=some (.pointer (some ⟨cb,0,none⟩))) (by kernel_rfl) ?_ (fun hHeld=> ?_)
    · (try dsimp only)
      (first|(go_simp;done)|(go_keep;done))
    refine tq 0 hHeld ?_
    refine tq 1 hHeld ?_
    refine tq 2 hHeld ?_
    refine tq 3 hHeld ?_
    refine tq 4 hHeld ?_
    refine tq 6 hHeld ?_
    refine tq 7 hHeld ?_
    refine tq 8 hHeld ?_
    refine tq 9 hHeld ?_
    refine tq 10 hHeld ?_
    (refine tc 5 fun K hK=> ?_;go_simp;(go_at_call 177;refine(opp_z _ _ _ (by omega) (by omega)).mono ?_;rintro e w1 ⟨rfl,hb1⟩;have hz1:=hb1.size;(try simp only[zz] at hz1);have:=kfa hb1 w.heap.size);(try go_wp2_with fail);refine tr hK (fun hHeld=> ?_);clear hK K)
    (refine tc 11 fun K hK=> ?_;go_simp;(go_at_call 188;refine(kShare (hA0.below (bel_a)) (hB0.below (bel_a)) _ _ (by omega) (by omega) (by omega) (by with_reducible assumption)).mono ?_;rintro e w2 ⟨rfl,hb2⟩;have hz2:=hb2.size;(try simp only[zz] at hz2);have:=kfa hb2 w.heap.size);(try go_wp2_with fail);refine tr hK (fun hHeld=> ?_);clear hK K)
    (refine tc 12 fun K hK=> ?_;go_simp;(go_at_call 187;refine(wayTimes_z _ _ _ _ _ _ (by omega) (by omega) (by omega) (by with_reducible assumption) (by with_reducible assumption)).mono ?_;rintro e w3 ⟨rfl,hb3⟩;have hz3:=hb3.size;(try simp only[zz] at hz3);have:=kfa hb3 w.heap.size);(try go_wp2_with fail);refine tr hK (fun hHeld=> ?_);clear hK K)
    (refine tc 13 fun K hK=> ?_;go_simp;(go_at_call 25;refine(kMoveU (h.below (bel_a)) hAn hn oA.a4 oA.a5 _ _ (by omega) (by omega)).mono ?_;rintro e w4 ⟨rfl,hr4,hF4⟩;have hk4:=fun o=>hF4.cell (p:=⟨w.heap.size,o,none⟩) (by first|omega|(simp;done)|(simp;omega)) (hx _ (Nat.le_refl _));have hz4:=hF4.size;(try simp only[zz] at hz4));(try go_wp2_with fail);refine tr hK (fun hHeld=> ?_);clear hK K)
    refine wpAnyH_done (by kernel_rfl) ?_ _
    go_wp2_with fail
    go_meet
    exact⟨(by rw[←eU1];exact hr4),(Fr.of_below (bel_a)).trans hF4,(by go_simp),(by go_simp),(by go_simp),(by go_simp),(by go_simp),(by go_simp),(by go_simp),(by first|omega|(simp;done)|(simp;omega))⟩
   case rest=>
   obtain⟨hC,hF,k0,k1,k2,k3,k4,k5,k6,hl⟩:=hcut
   have hA1:HAt wc cb n A (fun j=>U1 (A*12+j)) (gOf S):=hC.hat hAn hn
   have hB1:HAt wc cb n B (fun j=>U1 (B*12+j)) (gOf S):=hC.hat hBn hn
   have hx1:∀ b,wc.heap.size≤b→¬ Xc S b:=fun b hb x=>by have:=(hC.xlt x).2;omega
   have l2:=hA1.cbl
   clear eU1
   go_upto_region 4 with fail
   refine wp_region_held_drew (S:=fun w'=>w'.cell? ⟨w.heap.size,0,none⟩=some (.int .i64 x)∧w'.cell? ⟨w.heap.size,1,none⟩=some (.int .i64 y)∧w'.cell? ⟨w.heap.size,2,none⟩=some (.int .i64 d)∧w'.cell? ⟨w.heap.size,3,none⟩=some (.int .i64 (A:Int))∧w'.cell? ⟨w.heap.size,4,none⟩=some (.pointer (some ⟨cb,0,none⟩))∧w'.cell? ⟨w.heap.size,5,none⟩=some (.int .i64 (B:Int))∧w'.cell? ⟨w.heap.size,6,none⟩=some (.pointer (some ⟨cb,0,none⟩))) (by kernel_rfl) ?_ (fun hHeld=> ?_)
   · (try dsimp only)
     (first|(go_simp;done)|(go_keep;done))
   refine tq 0 hHeld ?_
   refine tq 1 hHeld ?_
   refine tq 2 hHeld ?_
   refine tq 3 hHeld ?_
   refine tq 4 hHeld ?_
   refine tq 5 hHeld ?_
   refine tq 6 hHeld ?_
   refine tq 7 hHeld ?_
   refine tq 8 hHeld ?_
   refine tq 9 hHeld ?_
   (refine tc 10 fun K hK=> ?_;go_simp;(go_at_call 188;refine(kShare (hB1.below (bel_a)) (hA1.below (bel_a)) _ _ (by omega) (by omega) (by omega) (by with_reducible assumption)).mono ?_;rintro e w12 ⟨rfl,hb12⟩;have hz12:=hb12.size;(try simp only[zz] at hz12);have:=kfa hb12 w.heap.size);(try go_wp2_with fail);refine tr hK (fun hHeld=> ?_);clear hK K)
   (refine tc 11 fun K hK=> ?_;go_simp;(go_at_call 187;refine(wayTimes_z _ _ _ _ _ _ (by omega) (by omega) (by omega) (by with_reducible assumption) (by with_reducible assumption)).mono ?_;rintro e w13 ⟨rfl,hb13⟩;have hz13:=hb13.size;(try simp only[zz] at hz13);have:=kfa hb13 w.heap.size);(try go_wp2_with fail);refine tr hK (fun hHeld=> ?_);clear hK K)
   (refine tc 12 fun K hK=> ?_;go_simp;(go_at_call 25;refine(kMoveU (hC.below (bel_a)) hBn hn oB1.1 oB1.2 _ _ (by omega) (by omega)).mono ?_;rintro e w14 ⟨rfl,hr14,hF14⟩;have hk14:=fun o=>hF14.cell (p:=⟨w.heap.size,o,none⟩) (by first|omega|(simp;done)|(simp;omega)) (hx _ (Nat.le_refl _)));(try go_wp2_with fail);refine tr hK (fun hHeld=> ?_);clear hK K)
   refine wpAnyH_done (by kernel_rfl) ?_ _
   go_wp2_with fail
   go_end0
   exact⟨rfl,hr14,(hF.trans (Fr.of_below (bel_a))).trans hF14⟩
 · have hmn:m≤0:=by omega
   have e0:apartU U A B x y d=U:=by unfold apartU;rw[em,decide_eq_false hm];rfl
   rw[e0]
   go_enter Tryz.func172,Tryz.ntmps172
   go_wp2_with fail
   refine bodyPost_ret (results_none rfl _ _ _) rfl ?_
   exact⟨rfl,h.below (bel_a),Fr.of_below (bel_a)⟩
end Go.Proofs.YthajilkjfkppoaaGreatDoor
