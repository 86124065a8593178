/- Texts of a proof. -/
import Derived.Test.YtpmjnpmnocjjgaaGreatDoorB6
import Derived.Test.YtpmjnpmnocjjgaaGreatDoorB8
import Derived.Test.YtpmjnpmnocjjgaaGreatDoorB5
import Derived.Test.YtpmjnpmnocjjgaaGreatDoorB2
import Derived.Test.YtpmjnpmnocjjgaaGreatDoorB16
import Derived.Test.YtpmjnpmnocjjgaaGreatDoorB14
import Derived.Handy
import Derived.Deep.RegionHeld3
import Derived.Deep.DeepCutAuto
import Derived.Test.YtpmjnpmnocjjgaaGreatDoorB36
import Derived.Laws.EntriesVeiled
import Derived.Test.YtpmjnpmnocjjgaaGreatDoorB17
import Derived.Test.YtpmjnpmnocjjgaaGreatDoorB9
import Derived.Test.YtpmjnpmnocjjgaaGreatDoorB13
set_option maxHeartbeats 16000000
set_option maxRecDepth 20000
namespace Go.Proofs.YtpmjnpmnocjjgaaGreatDoor
open Go.RowKit
set_option linter.unusedVariables false
set_option linter.unusedSimpArgs false
theorem wayHeld_z (x y l a b:Int) (w:World) (h0:0≤l) (h1:l≤4000000000) (ea:clampZ l x=a) (eb:clampZ l y=b):
 Calls Tryz.prog 136 #[vv x y,.int .i64 l] w fun e w'=>e= .returned (vv a b)∧Below w.heap.size w w':=by
 subst ea eb;exact wayHeld_any x y l w h0 h1
theorem kMove_c {cb n k:Nat} {C:Nat→Nat→Int} {S:Nat→Value} {w:World} (h:Cs w cb n C S) (hk:k<n) (hn:n≤1048576) (p q A B D E:Int) (V:Nat→Int) (hV:∀ i,V i=C i k) (b4: -2560000≤V 4∧V 4≤2560000) (b5: -2560000≤V 5∧V 5≤2560000) (bp: -20000000≤p∧p≤20000000) (bq: -20000000≤q∧q≤20000000)
 (eA:clampZ 2560000 (V 4+p)=A) (eB:clampZ 2560000 (V 5+q)=B) (eC:(if A=V 4+p then V 6 else 0)=D) (eD:(if B=V 5+q then V 7 else 0)=E):
 Calls Tryz.prog 139 #[hdk cb k,vv p q] w fun e w'=>e= .returned (.tuple #[])∧Cs w' cb n (setC (setC (setC (setC C 4 k A) 5 k B) 6 k D) 7 k E) S∧Fr (Xc S) w w':=by
 have hset:=cset_map
 have h0:HAt w cb n k V (gOf S):=by rw[show V=fun i=>C i k from funext hV];exact h.hat hk hn
 clear hV
 have l1:=h0.cbl
 have hx:∀ b,w.heap.size≤b→¬ Xc S b:=fun b hb x=>by have:=(h.xlt x).2;omega
 go_enter Tryz.func139,Tryz.ntmps139
 go_upto_region 1 with fail
 go_cut [4] (fun s wc=>∃ Ba,s= .pointer (some ⟨Ba,0,none⟩)∧wc.cell? ⟨w.heap.size,0,none⟩=some (.int .i64 (k:Int))∧wc.cell? ⟨w.heap.size,1,none⟩=some (.pointer (some ⟨cb,0,none⟩))∧wc.cell? ⟨Ba,0,none⟩=some (.int .i64 (V 4+p))∧wc.cell? ⟨Ba,1,none⟩=some (.int .i64 (V 5+q))∧w.heap.size+1<Ba∧Ba<wc.heap.size∧Below w.heap.size w wc)
 case first=>
  refine wp_region_held_drew (S:=fun w'=>w'.cell? ⟨w.heap.size,0,none⟩=some (.int .i64 (k:Int))∧w'.cell? ⟨w.heap.size,1,none⟩=some (.pointer (some ⟨cb,0,none⟩))∧w'.cell? ⟨w.heap.size+1,0,none⟩=some (.int .i64 p)∧w'.cell? ⟨w.heap.size+1,1,none⟩=some (.int .i64 q)) (by kernel_rfl) ?_ (fun hHeld=> ?_)
  · (try dsimp only)
    (first|(go_simp;done)|(go_keep;done))
  refine tq 0 hHeld ?_
  refine tq 2 hHeld ?_
  repeat' first
   |(replace hK:=hK;go_simp;(first|((go_at_call 74;refine(kAt (h0.below (bel_a))).mono ?_;rintro e w1 ⟨rfl,hb1⟩;obtain⟨hc1,hf1⟩:=bcell hb1;have hz1:=hb1.size;(try simp only[zz] at hc1 hf1 hz1);have:=kf2 hb1 w.heap.size;(try have q:=kfz hc1 hf1 hz1 (w.heap.size+1+1) (by omega);obtain⟨ht1x0,hu1x0,hv1x0,hw1x0⟩:=q);clear hc1 hf1);(try go_wp2_with fail))|((go_at_call 155;refine(plus_any _ _ _ _ _ (by omega) (by omega) (by omega) (by omega)).mono ?_;rintro e w2 ⟨rfl,hb2⟩;obtain⟨hc2,hf2⟩:=bcell hb2;have hz2:=hb2.size;(try simp only[zz] at hc2 hf2 hz2);have:=kf2 hb2 w.heap.size;(try have q:=kfz hc2 hf2 hz2 (w.heap.size+1+1) (by omega);obtain⟨ht2x0,hu2x0,hv2x0,hw2x0⟩:=q);(try have q:=kfz hc2 hf2 hz2 (w1.heap.size) (by omega);obtain⟨ht2x1,hu2x1,hv2x1,hw2x1⟩:=q);clear hc2 hf2);(try go_wp2_with fail))|skip);refine tr hK (fun hHeld=> ?_);clear hK K)
   |refine tc 1 (hr:=by decide+kernel) fun K hK=> ?_
   |refine tc 3 (hr:=by decide+kernel) fun K hK=> ?_
   |refine tc 4 (hr:=by decide+kernel) fun K hK=> ?_
   |refine tc 5 (hr:=by decide+kernel) fun K hK=> ?_
   |(refine wpAnyH_ready (rs:=[1,4]) (by decide+kernel) (by simp) ?_;refine AllReadyH.cons rfl (fun K hK=> ?_) (AllReadyH.cons rfl (fun K hK=> ?_) AllReadyH.nil))
   |(refine wpAnyH_ready (rs:=[3,4]) (by decide+kernel) (by simp) ?_;refine AllReadyH.cons rfl (fun K hK=> ?_) (AllReadyH.cons rfl (fun K hK=> ?_) AllReadyH.nil))
   | (refine wpAnyH_done (by decide+kernel) ?_ _
      go_wp2_with fail
      go_meet
      exact⟨_,rfl,(by go_simp),(by go_simp),(by go_simp),(by go_simp),(by first|omega|(simp;done)|(simp;omega)),(by first|omega|(simp;done)|(simp;omega)),bel_a⟩)
 case rest=>
 obtain⟨Ba,rfl,x0,x1,x2,x3,hlo,hhi,hbel⟩:=hcut
 have nBa:(wc.heap.size=Ba)=False:=eq_false (by omega)
 go_upto_region 2 with fail
 go_cut [5,6] (fun s s' wc=>∃ Bt Bd,s= .pointer (some ⟨Bt,0,none⟩)∧s'= .pointer (some ⟨Bd,0,none⟩)∧wc.cell? ⟨w.heap.size,0,none⟩=some (.int .i64 (k:Int))∧wc.cell? ⟨w.heap.size,1,none⟩=some (.pointer (some ⟨cb,0,none⟩))∧wc.cell? ⟨Ba,0,none⟩=some (.int .i64 (V 4+p))∧wc.cell? ⟨Ba,1,none⟩=some (.int .i64 (V 5+q))∧wc.cell? ⟨Bt,0,none⟩=some (.int .i64 A)∧wc.cell? ⟨Bt,1,none⟩=some (.int .i64 B)∧wc.cell? ⟨Bd,0,none⟩=some (.int .i64 (V 6))∧wc.cell? ⟨Bd,1,none⟩=some (.int .i64 (V 7))∧wc.frozen? ⟨Bd,0,none⟩=false∧wc.frozen? ⟨Bd,1,none⟩=false∧Ba<Bt∧Ba<Bd∧Bt≠Bd∧Bt<wc.heap.size∧Bd<wc.heap.size∧Below w.heap.size w wc)
 case first=>
  refine wp_region_held_drew (S:=fun w'=>w'.cell? ⟨w.heap.size,0,none⟩=some (.int .i64 (k:Int))∧w'.cell? ⟨w.heap.size,1,none⟩=some (.pointer (some ⟨cb,0,none⟩))∧w'.cell? ⟨Ba,0,none⟩=some (.int .i64 (V 4+p))∧w'.cell? ⟨Ba,1,none⟩=some (.int .i64 (V 5+q))) (by kernel_rfl) ?_ (fun hHeld=> ?_)
  · (try dsimp only)
    (first|(go_simp;done)|(go_keep;done))
  refine tq 0 hHeld ?_
  refine tq 2 hHeld ?_
  repeat' first
   |(replace hK:=hK;go_simp;(first|((go_at_call 136;refine(wayHeld_z _ _ _ _ _ _ (by omega) (by omega) (by with_reducible assumption) (by with_reducible assumption)).mono ?_;rintro e w11 ⟨rfl,hb11⟩;obtain⟨hc11,hf11⟩:=bcell hb11;have hz11:=hb11.size;(try simp only[zz] at hc11 hf11 hz11);have:=kfa hb11 w.heap.size;have:=kfa hb11 Ba;(try have q:=kfz hc11 hf11 hz11 (wc.heap.size) (by omega);obtain⟨ht11x0,hu11x0,hv11x0,hw11x0⟩:=q);(try have q:=kfz hc11 hf11 hz11 (wc.heap.size+1) (by omega);obtain⟨ht11x1,hu11x1,hv11x1,hw11x1⟩:=q);clear hc11 hf11);(try go_wp2_with fail))|((go_at_call 76;refine(kDrive (h0.below (bel_a))).mono ?_;rintro e w12 ⟨rfl,hb12⟩;obtain⟨hc12,hf12⟩:=bcell hb12;have hz12:=hb12.size;(try simp only[zz] at hc12 hf12 hz12);have:=kfa hb12 w.heap.size;have:=kfa hb12 Ba;(try have q:=kfz hc12 hf12 hz12 (wc.heap.size) (by omega);obtain⟨ht12x0,hu12x0,hv12x0,hw12x0⟩:=q);(try have q:=kfz hc12 hf12 hz12 (wc.heap.size+1) (by omega);obtain⟨ht12x1,hu12x1,hv12x1,hw12x1⟩:=q);(try have q:=kfz hc12 hf12 hz12 (w11.heap.size) (by omega);obtain⟨ht12x2,hu12x2,hv12x2,hw12x2⟩:=q);(try have q:=kfz hc12 hf12 hz12 (w11.heap.size+1) (by omega);obtain⟨ht12x3,hu12x3,hv12x3,hw12x3⟩:=q);clear hc12 hf12);(try go_wp2_with fail))|skip);refine tr hK (fun hHeld=> ?_);clear hK K)
   |refine tc 1 (hr:=by decide+kernel) fun K hK=> ?_
   |refine tc 3 (hr:=by decide+kernel) fun K hK=> ?_
   |refine tc 4 (hr:=by decide+kernel) fun K hK=> ?_
   |refine tc 5 (hr:=by decide+kernel) fun K hK=> ?_
   |refine tc 6 (hr:=by decide+kernel) fun K hK=> ?_
   |refine tc 7 (hr:=by decide+kernel) fun K hK=> ?_
   |(refine wpAnyH_ready (rs:=[1,4,5]) (by decide+kernel) (by simp) ?_;refine AllReadyH.cons rfl (fun K hK=> ?_) (AllReadyH.cons rfl (fun K hK=> ?_) (AllReadyH.cons rfl (fun K hK=> ?_) AllReadyH.nil)))
   |(refine wpAnyH_ready (rs:=[3,4,5]) (by decide+kernel) (by simp) ?_;refine AllReadyH.cons rfl (fun K hK=> ?_) (AllReadyH.cons rfl (fun K hK=> ?_) (AllReadyH.cons rfl (fun K hK=> ?_) AllReadyH.nil)))
   |(refine wpAnyH_ready (rs:=[4,5]) (by decide+kernel) (by simp) ?_;refine AllReadyH.cons rfl (fun K hK=> ?_) (AllReadyH.cons rfl (fun K hK=> ?_) AllReadyH.nil))
   |(refine wpAnyH_ready (rs:=[3,5]) (by decide+kernel) (by simp) ?_;refine AllReadyH.cons rfl (fun K hK=> ?_) (AllReadyH.cons rfl (fun K hK=> ?_) AllReadyH.nil))
   |(refine wpAnyH_ready (rs:=[3,4]) (by decide+kernel) (by simp) ?_;refine AllReadyH.cons rfl (fun K hK=> ?_) (AllReadyH.cons rfl (fun K hK=> ?_) AllReadyH.nil))
   |(refine wpAnyH_ready (rs:=[1,5]) (by decide+kernel) (by simp) ?_;refine AllReadyH.cons rfl (fun K hK=> ?_) (AllReadyH.cons rfl (fun K hK=> ?_) AllReadyH.nil))
   |(refine wpAnyH_ready (rs:=[1,4]) (by decide+kernel) (by simp) ?_;refine AllReadyH.cons rfl (fun K hK=> ?_) (AllReadyH.cons rfl (fun K hK=> ?_) AllReadyH.nil))
   | (refine wpAnyH_done (by decide+kernel) ?_ _
      go_wp2_with fail
      go_meet
      exact⟨_,_,rfl,rfl,(by go_simp),(by go_simp),(by go_simp),(by go_simp),(by go_simp),(by go_simp),(by go_simp),(by go_simp),(by first|(go_simp;done)|(simp;done)),(by first|(go_simp;done)|(simp;done)),(by first|omega|(simp;done)|(simp;omega)),(by first|omega|(simp;done)|(simp;omega)),(by first|omega|(simp;done)|(simp;omega)),(by first|omega|(simp;done)|(simp;omega)),(by first|omega|(simp;done)|(simp;omega)),bel_a⟩)
 case rest=>
 obtain⟨Bt,Bd,rfl,rfl,y0,y1,y2,y3,y4,y5,y6,y7,z0,z1,m0,m1,m2,m3,m4,hbel2⟩:=hcut
 clear x0 x1 x2 x3 hbel hhi nBa
 have kz:=hbel2.size
 have ne1:(Bt=Bd)=False:=eq_false m2
 have ne2:(Bd=Bt)=False:=eq_false (by omega)
 have ne3:(Ba=Bd)=False:=eq_false (by omega)
 have ne4:(Bd=Ba)=False:=eq_false (by omega)
 have ne5:(w.heap.size=Bd)=False:=eq_false (by omega)
 have ne6:(Bd=w.heap.size)=False:=eq_false (by omega)
 have lq:w.heap.size<wc.heap.size:=by omega
 go_wp2_with fail
 by_cases cA:A=V 4+p
 all_goals
  first|rw[if_pos cA] at eC|rw[if_neg cA] at eC
  subst eC
  by_cases cB:B=V 5+q
  all_goals
   first|rw[if_pos cB] at eD|rw[if_neg cB] at eD
   subst eD
   refine wp_loop_rounds 3 ?_
   rw[rounds_succ]
   go_upto_region 6 with fail
   refine wp_region_held_drew (S:=fun w'=>w'.cell? ⟨Bt,0,none⟩=some (.int .i64 A)∧w'.cell? ⟨Bt,1,none⟩=some (.int .i64 B)∧w'.cell? ⟨Ba,0,none⟩=some (.int .i64 (V 4+p))∧w'.cell? ⟨Ba,1,none⟩=some (.int .i64 (V 5+q))) (by kernel_rfl) ?_ (fun hHeld=> ?_)
   · (try dsimp only)
     (first|(go_simp;done)|(go_keep;done))
   refine tq 0 hHeld ?_
   refine tq 1 hHeld ?_
   refine tq 2 hHeld ?_
   refine tq 3 hHeld ?_
   refine tq 4 hHeld ?_
   refine tq 5 hHeld ?_
   refine tq 6 hHeld ?_
   refine wpAnyH_done (by kernel_rfl) ?_ _
   go_wp2_with fail
   rw[rounds_succ]
   go_upto_region 6 with fail
   refine wp_region_held_drew (S:=fun w'=>w'.cell? ⟨Bt,0,none⟩=some (.int .i64 A)∧w'.cell? ⟨Bt,1,none⟩=some (.int .i64 B)∧w'.cell? ⟨Ba,0,none⟩=some (.int .i64 (V 4+p))∧w'.cell? ⟨Ba,1,none⟩=some (.int .i64 (V 5+q))) (by kernel_rfl) ?_ (fun hHeld=> ?_)
   · (try dsimp only)
     (first|(go_simp;done)|(go_keep;done))
   refine tq 0 hHeld ?_
   refine tq 1 hHeld ?_
   refine tq 2 hHeld ?_
   refine tq 3 hHeld ?_
   refine tq 4 hHeld ?_
   refine tq 5 hHeld ?_
   refine tq 6 hHeld ?_
   refine wpAnyH_done (by kernel_rfl) ?_ _
   go_wp2_with fail
   rw[rounds_succ]
   go_wp2_with (first
    |(go_at_call 135;refine(kSetDrive hr21 hk hn _ _).mono ?_;rintro e w22 ⟨rfl,hr22,hF22⟩)
    |(go_at_call 156;refine(kSetAt (h.below (bel_a)) hk hn _ _).mono ?_;rintro e w21 ⟨rfl,hr21,hF21⟩;have hz21:=hF21.size;(try simp only[zz] at hz21);have hk21x0:=fun o=>hF21.cell (p:=⟨w.heap.size,o,none⟩) (by first|omega|(simp;done)|(simp;omega)) (hx _ (by first|omega|(simp;done)|(simp;omega)));have hj21x0:=fun o=>hF21.frozen (p:=⟨w.heap.size,o,none⟩) (by first|omega|(simp;done)|(simp;omega)) (hx _ (by first|omega|(simp;done)|(simp;omega)));have hq21x0:w.heap.size<w21.heap.size:=(by omega);have hk21x1:=fun o=>hF21.cell (p:=⟨Bd,o,none⟩) (by first|omega|(simp;done)|(simp;omega)) (hx _ (by first|omega|(simp;done)|(simp;omega)));have hj21x1:=fun o=>hF21.frozen (p:=⟨Bd,o,none⟩) (by first|omega|(simp;done)|(simp;omega)) (hx _ (by first|omega|(simp;done)|(simp;omega)));have hq21x1:Bd<w21.heap.size:=(by omega)))
   go_end0
   exact⟨rfl,(by(try rw[cA]);(try rw[cB]);exact hr22),((Fr.of_below (bel_a)).trans hF21).trans hF22⟩
def plZ (k g h x y:Int):Bool:=shB k g h&&inB 2560000 x y
theorem placedOf_any (k g h x y:Int) (w:World):Calls Tryz.prog 147 #[s3 k g h,vv x y] w fun e w'=>∃ A B C D:Int,e= .returned (.tuple #[b4 A B C D,.bool (plZ k g h x y)])∧Below w.heap.size w w':=by
 unfold plZ
 cases sh:shB k g h with
 |false=>exact(placedOf_n k g h x y w sh).mono fun e w' ⟨h1,h2⟩=>⟨0,0,0,0,h1,h2⟩
 | true=>
   cases p1:inB 2560000 x y with
   |false=>exact(placedOf_p k g h x y w sh p1).mono fun e w' ⟨h1,h2⟩=>⟨0,0,0,0,h1,h2⟩
   | true=>
     rcases shB_kinds sh with⟨rfl,rfl,a0,a1⟩|⟨rfl,a0,a1,a2,a3⟩
     · exact(placedOf_r g x y w ⟨a0,a1⟩ p1).mono fun e w' ⟨h1,h2⟩=>⟨_,_,_,_,h1,h2⟩
     · exact(placedOf_b g h x y w ⟨a0,a1⟩ ⟨a2,a3⟩ p1).mono fun e w' ⟨h1,h2⟩=>⟨_,_,_,_,h1,h2⟩
theorem touch_g (F:Nat) (k1 g1 h1 q1 k2 g2 h2 q2 x y u v X Y D:Int) (J:Bool) (w:World)
 (c1:∀ w,Calls Tryz.prog 147 #[s3 k1 g1 h1,vv x y] w fun e w'=>e= .returned (.tuple #[b4 x y g1 q1,.bool true])∧Below w.heap.size w w')
 (c2:∀ w,Calls Tryz.prog 147 #[s3 k2 g2 h2,vv u v] w fun e w'=>e= .returned (.tuple #[b4 u v g2 q2,.bool true])∧Below w.heap.size w w')
 (c3:∀ w,Calls Tryz.prog 148 #[.int .i64 k1,.int .i64 k2] w fun e w'=>e= .returned (.func (.func F) #[] #[])∧Below w.heap.size w w')
 (hF:F=161∨F=162∨F=163∨F=164)
 (c4:∀ w,Calls Tryz.prog F #[b4 x y g1 q1,b4 u v g2 q2] w fun e w'=>e= .returned (.tuple #[s3 X Y D,.bool J])∧Below w.heap.size w w'):
 Calls Tryz.prog 130 #[s3 k1 g1 h1,vv x y,s3 k2 g2 h2,vv u v] w fun e w'=>e= .returned (.tuple #[s3 X Y D,.bool J])∧Below w.heap.size w w':=by
 have hset:=cset_map
 rcases hF with rfl|rfl|rfl|rfl
 all_goals
  go_enter Tryz.func130,Tryz.ntmps130
  go_upto_region 5 with(first
   |(have _:=hb1;go_at_call 147;refine(c2 _).mono ?_;rintro e w2 ⟨rfl,hb2⟩;have hz2:=hb2.size;(try simp only[zz] at hz2);have:=kf5 hb2 w.heap.size;have:=kfa hb2 w1.heap.size)
   |(go_at_call 147;refine(c1 _).mono ?_;rintro e w1 ⟨rfl,hb1⟩;have hz1:=hb1.size;(try simp only[zz] at hz1);have:=kf5 hb1 w.heap.size))
  refine wp_region_held_drew (S:=fun w'=>w'.cell? ⟨w.heap.size,0,none⟩=some (.int .i64 k1)∧w'.cell? ⟨w.heap.size+1+1,0,none⟩=some (.int .i64 k2)∧w'.cell? ⟨w1.heap.size,0,none⟩=some (.int .i64 x)∧w'.cell? ⟨w1.heap.size,1,none⟩=some (.int .i64 y)∧w'.cell? ⟨w1.heap.size,2,none⟩=some (.int .i64 g1)∧w'.cell? ⟨w1.heap.size,3,none⟩=some (.int .i64 q1)∧w'.cell? ⟨w2.heap.size,0,none⟩=some (.int .i64 u)∧w'.cell? ⟨w2.heap.size,1,none⟩=some (.int .i64 v)∧w'.cell? ⟨w2.heap.size,2,none⟩=some (.int .i64 g2)∧w'.cell? ⟨w2.heap.size,3,none⟩=some (.int .i64 q2)) (by kernel_rfl) ?_ (fun hHeld=> ?_)
  · (try dsimp only)
    (first|(go_simp;done)|(go_keep;done))
  refine tq 0 hHeld ?_
  refine tq 1 hHeld ?_
  refine tq 2 hHeld ?_
  refine tq 3 hHeld ?_
  refine tq 5 hHeld ?_
  refine tq 6 hHeld ?_
  refine wpAnyH_ready (rs:=[4,11]) (by kernel_rfl) (by simp) ?_
  refine AllReadyH.cons rfl (fun K hK=> ?_) (AllReadyH.cons rfl (fun K hK=> ?_) AllReadyH.nil)
  rotate_left
  (go_simp;refine tr hK (fun hHeld=> ?_);clear hK K;refine tc 4 fun K hK=> ?_)
  rotate_left
  all_goals
   (go_simp;(go_at_call 148;refine(c3 _).mono ?_;rintro e w3 ⟨rfl,hb3⟩;obtain⟨hc3,hf3⟩:=bcell hb3;have hz3:=hb3.size;(try simp only[zz] at hc3 hf3 hz3);have:=kf5 hb3 w.heap.size;have:=kfa hb3 w1.heap.size;have:=kfa hb3 w2.heap.size;(try have q:=kfy hc3 hf3 hz3 (w2.heap.size+1) (by omega);obtain⟨hk3y0,hj3y0,hq3y0,hr3y0,ht3y0⟩:=q);clear hc3 hf3);(try go_wp2_with fail);refine tr hK (fun hHeld=> ?_);clear hK K)
  rotate_left
  refine tc 7 fun K hK=> ?_
  rotate_left
  refine wpAnyH_ready (rs:=[7,11]) (by kernel_rfl) (by simp) ?_
  refine AllReadyH.cons rfl (fun K hK=> ?_) (AllReadyH.cons rfl (fun K hK=> ?_) AllReadyH.nil)
  rotate_left
  (go_simp;refine tr hK (fun hHeld=> ?_);clear hK K;refine tc 7 fun K hK=> ?_)
  all_goals
   (go_simp;(refine(c4 _).mono ?_;rintro e w4 ⟨rfl,hb4⟩;obtain⟨hc4,hf4⟩:=bcell hb4;have hz4:=hb4.size;(try simp only[zz] at hc4 hf4 hz4);have:=kf5 hb4 w.heap.size;have:=kfa hb4 w1.heap.size;have:=kfa hb4 w2.heap.size;(try have q:=kfy hc4 hf4 hz4 (w2.heap.size+1) (by omega);obtain⟨hk4y0,hj4y0,hq4y0,hr4y0,ht4y0⟩:=q);(try have q:=kfy hc4 hf4 hz4 (w3.heap.size) (by omega);obtain⟨hk4y1,hj4y1,hq4y1,hr4y1,ht4y1⟩:=q);clear hc4 hf4);(try go_wp2_with fail);refine tr hK (fun hHeld=> ?_);clear hK K)
   refine tq 8 hHeld ?_
   refine tq 9 hHeld ?_
   refine tq 10 hHeld ?_
  rotate_left
  rotate_left
  (refine tc 11 fun K hK=> ?_;go_simp;refine tr hK (fun hHeld=> ?_);clear hK K)
  all_goals
   (refine tc 12 fun K hK=> ?_;go_simp;refine tr hK (fun hHeld=> ?_);clear hK K)
   refine tq 13 hHeld ?_
   refine wpAnyH_done (by kernel_rfl) ?_ _
   go_wp2_with (go_at_call 149;refine(dentHit_q _ _ _ _).mono ?_;rintro e w5 ⟨rfl,hb5⟩;obtain⟨hc5,hf5⟩:=bcell hb5;have hz5:=hb5.size;(try simp only[zz] at hc5 hf5 hz5);have:=kf5 hb5 w.heap.size;(try have q:=kfy hc5 hf5 hz5 (w2.heap.size+1) (by omega);obtain⟨hk5y0,hj5y0,hq5y0,hr5y0,ht5y0⟩:=q);(try have q:=kfy hc5 hf5 hz5 (w3.heap.size) (by omega);obtain⟨hk5y1,hj5y1,hq5y1,hr5y1,ht5y1⟩:=q);(try have q:=kfy hc5 hf5 hz5 (w4.heap.size) (by omega);obtain⟨hk5y2,hj5y2,hq5y2,hr5y2,ht5y2⟩:=q);clear hc5 hf5)
   exact bodyPost_ret (v:= .tuple #[s3 X Y D,.bool J]) (by simp[results,Tryz.results130,go_sem, *]) rfl ⟨rfl,bel_a⟩
theorem placedOf_z (k g h x y:Int) (b:Bool) (w:World) (e:plZ k g h x y=b):Calls Tryz.prog 147 #[s3 k g h,vv x y] w fun e w'=>∃ A B C D:Int,e= .returned (.tuple #[b4 A B C D,.bool b])∧Below w.heap.size w w':=by
 subst e;exact placedOf_any k g h x y w
theorem touch_z (k1 g1 h1 x y k2 g2 h2 u v:Int) (w:World) (hz:(plZ k1 g1 h1 x y&&plZ k2 g2 h2 u v)=false):
 Calls Tryz.prog 130 #[s3 k1 g1 h1,vv x y,s3 k2 g2 h2,vv u v] w fun e w'=>e= .returned (.tuple #[s3 0 0 0,.bool false])∧Below w.heap.size w w':=by
 have hset:=cset_map
 cases a1:plZ k1 g1 h1 x y with
 | false=>
   cases a2:plZ k2 g2 h2 u v with
   | false=>
     clear hz
     go_enter Tryz.func130,Tryz.ntmps130
     go_wp2_with (first
      |(have _:=hb1;go_at_call 147;refine(placedOf_z k2 g2 h2 u v _ _ a2).mono ?_;rintro e w2 ⟨A2,B2,C2,D2,rfl,hb2⟩;have hz2:=hb2.size;(try simp only[zz] at hz2);have:=kf5 hb2 w.heap.size;have:=kfa hb2 w1.heap.size)
      |(go_at_call 147;refine(placedOf_z k1 g1 h1 x y _ _ a1).mono ?_;rintro e w1 ⟨A1,B1,C1,D1,rfl,hb1⟩;have hz1:=hb1.size;(try simp only[zz] at hz1);have:=kf5 hb1 w.heap.size))
     exact bodyPost_ret (v:= .tuple #[s3 0 0 0,.bool false]) (by simp[results,Tryz.results130,go_sem, *]) rfl ⟨rfl,bel_a⟩
   | true=>
     clear hz
     go_enter Tryz.func130,Tryz.ntmps130
     go_wp2_with (first
      |(have _:=hb1;go_at_call 147;refine(placedOf_z k2 g2 h2 u v _ _ a2).mono ?_;rintro e w2 ⟨A2,B2,C2,D2,rfl,hb2⟩;have hz2:=hb2.size;(try simp only[zz] at hz2);have:=kf5 hb2 w.heap.size;have:=kfa hb2 w1.heap.size)
      |(go_at_call 147;refine(placedOf_z k1 g1 h1 x y _ _ a1).mono ?_;rintro e w1 ⟨A1,B1,C1,D1,rfl,hb1⟩;have hz1:=hb1.size;(try simp only[zz] at hz1);have:=kf5 hb1 w.heap.size))
     exact bodyPost_ret (v:= .tuple #[s3 0 0 0,.bool false]) (by simp[results,Tryz.results130,go_sem, *]) rfl ⟨rfl,bel_a⟩
 | true=>
   cases a2:plZ k2 g2 h2 u v with
   | false=>
     clear hz
     go_enter Tryz.func130,Tryz.ntmps130
     go_wp2_with (first
      |(have _:=hb1;go_at_call 147;refine(placedOf_z k2 g2 h2 u v _ _ a2).mono ?_;rintro e w2 ⟨A2,B2,C2,D2,rfl,hb2⟩;have hz2:=hb2.size;(try simp only[zz] at hz2);have:=kf5 hb2 w.heap.size;have:=kfa hb2 w1.heap.size)
      |(go_at_call 147;refine(placedOf_z k1 g1 h1 x y _ _ a1).mono ?_;rintro e w1 ⟨A1,B1,C1,D1,rfl,hb1⟩;have hz1:=hb1.size;(try simp only[zz] at hz1);have:=kf5 hb1 w.heap.size))
     exact bodyPost_ret (v:= .tuple #[s3 0 0 0,.bool false]) (by simp[results,Tryz.results130,go_sem, *]) rfl ⟨rfl,bel_a⟩
   |true=>rw[a1,a2] at hz;cases hz
theorem touch_q (k1 g1 h1 x y k2 g2 h2 u v X Y D:Int) (J:Bool) (w:World) (e:toT k1 g1 h1 x y k2 g2 h2 u v=((X,Y,D),J)):
 Calls Tryz.prog 130 #[s3 k1 g1 h1,vv x y,s3 k2 g2 h2,vv u v] w fun e w'=>e= .returned (.tuple #[s3 X Y D,.bool J])∧Below w.heap.size w w':=by
 cases hz:(plZ k1 g1 h1 x y&&plZ k2 g2 h2 u v) with
 | false=>
   have e2:toT k1 g1 h1 x y k2 g2 h2 u v=((0,0,0),false):=by
    unfold toT;rw[if_neg ?_]
    intro h
    unfold plZ at hz
    simp only[Bool.and_eq_true] at h
    rw[h.1,h.2.1,h.2.2.1,h.2.2.2] at hz
    cases hz
   rw[e2] at e
   simp only[Prod.mk.injEq] at e
   obtain⟨⟨eX,eY,eD⟩,eK⟩:=e
   subst eX
   subst eY
   subst eD
   subst eK
   exact touch_z k1 g1 h1 x y k2 g2 h2 u v w hz
 | true=>
   unfold plZ at hz
   simp only[Bool.and_eq_true] at hz
   obtain⟨⟨s1,p1⟩,s2,p2⟩:=hz
   obtain⟨⟨x0,x1⟩,y0,y1⟩:=inB_of p1
   obtain⟨⟨u0,u1⟩,v0,v1⟩:=inB_of p2
   have e3:tcT k1 g1 h1 x y k2 g2 h2 u v=((X,Y,D),J):=by rw[←e];unfold toT;rw[if_pos (by simp[*])]
   clear e
   rcases shB_kinds s1 with⟨rfl,rfl,a0,a1⟩|⟨rfl,a0,a1,a2,a3⟩
   · rcases shB_kinds s2 with⟨rfl,rfl,b0,b1⟩|⟨rfl,b0,b1,b2,b3⟩
     · exact touch_g _ 1 g1 0 g1 1 g2 0 g2 x y u v X Y D J w (fun w=>placedOf_r g1 x y w (by omega) p1) (fun w=>placedOf_r g2 u v w (by omega) p2) (fun w=>toucherOf_rr w) (.inl rfl) (fun w=>roundsTouch_q x y g1 g1 u v g2 g2 X Y D J w (by omega) (by omega) (by omega) (by omega) (by omega) (by omega) e3)
     · exact touch_g _ 1 g1 0 g1 2 g2 h2 h2 x y u v X Y D J w (fun w=>placedOf_r g1 x y w (by omega) p1) (fun w=>placedOf_b g2 h2 u v w (by omega) (by omega) p2) (fun w=>toucherOf_rb w) (.inr (.inl rfl)) (fun w=>roundTouchesBox_q x y g1 g1 u v g2 h2 X Y D J w (by omega) (by omega) (by omega) (by omega) (by omega) (by omega) (by omega) e3)
   · rcases shB_kinds s2 with⟨rfl,rfl,b0,b1⟩|⟨rfl,b0,b1,b2,b3⟩
     · exact touch_g _ 2 g1 h1 h1 1 g2 0 g2 x y u v X Y D J w (fun w=>placedOf_b g1 h1 x y w (by omega) (by omega) p1) (fun w=>placedOf_r g2 u v w (by omega) p2) (fun w=>toucherOf_br w) (.inr (.inr (.inl rfl))) (fun w=>boxTouchesRound_q x y g1 h1 u v g2 g2 X Y D J w (by omega) (by omega) (by omega) (by omega) (by omega) (by omega) (by omega) e3)
     · exact touch_g _ 2 g1 h1 h1 2 g2 h2 h2 x y u v X Y D J w (fun w=>placedOf_b g1 h1 x y w (by omega) (by omega) p1) (fun w=>placedOf_b g2 h2 u v w (by omega) (by omega) p2) (fun w=>toucherOf_bb w) (.inr (.inr (.inr rfl))) (fun w=>boxesTouch_q x y g1 h1 u v g2 h2 X Y D J w (by omega) (by omega) (by omega) (by omega) (by omega) (by omega) (by omega) (by omega) e3)
theorem place_any (k:Int) (w:World):
 Calls Tryz.prog 109 #[.int .i64 k] w fun e w'=>e= .returned (.int .i64 k)∧Below w.heap.size w w':=by
 go_enter Tryz.func109,Tryz.ntmps109
 go_wp2
 go_ret
 exact⟨rfl,bel_a⟩
theorem kTouch {cb n k cb' n' k':Nat} {V V':Nat→Int} {G G':Nat→Nat} {w:World} (h:HAt w cb n k V G) (h':HAt w cb' n' k' V' G') (X Y D:Int) (J:Bool) (e:toT (V 1) (V 2) (V 3) (V 4) (V 5) (V' 1) (V' 2) (V' 3) (V' 4) (V' 5)=((X,Y,D),J)):
 Calls Tryz.prog 108 #[hdk cb k,hdk cb' k'] w fun e w'=>e= .returned (.tuple #[s3 X Y D,.bool J])∧Below w.heap.size w w':=by
 have hset:=cset_map
 go_enter Tryz.func108,Tryz.ntmps108
 go_upto_region 1 with fail
 refine wp_region_held_drew (S:=fun w'=>w'.cell? ⟨w.heap.size,0,none⟩=some (.int .i64 (k:Int))∧w'.cell? ⟨w.heap.size,1,none⟩=some (.pointer (some ⟨cb,0,none⟩))∧w'.cell? ⟨w.heap.size+1,0,none⟩=some (.int .i64 (k':Int))∧w'.cell? ⟨w.heap.size+1,1,none⟩=some (.pointer (some ⟨cb',0,none⟩))) (by kernel_rfl) ?_ (fun hHeld=> ?_)
 · (try dsimp only)
   (first|(go_simp;done)|(go_keep;done))
 refine tq 0 hHeld ?_
 refine tq 2 hHeld ?_
 refine tq 5 hHeld ?_
 refine tq 7 hHeld ?_
 (refine tc 1 fun K hK=> ?_;go_simp;(go_at_call 73;refine(kShape (HAt.below h (bel_a))).mono ?_;rintro e w1 ⟨rfl,hb1⟩;have hz1:=hb1.size;(try simp only[zz] at hz1);have:=kf3 hb1 w.heap.size);(try go_wp2_with fail);refine tr hK (fun hHeld=> ?_);clear hK K)
 (refine tc 3 fun K hK=> ?_;go_simp;(go_at_call 74;refine(kAt (HAt.below h (bel_a))).mono ?_;rintro e w2 ⟨rfl,hb2⟩;have hz2:=hb2.size;(try simp only[zz] at hz2);have:=kf3 hb2 w.heap.size);(try go_wp2_with fail);refine tr hK (fun hHeld=> ?_);clear hK K)
 (refine tc 4 fun K hK=> ?_;go_simp;(go_at_call 86;refine(vec_any _ _ _).mono ?_;rintro e w3 ⟨rfl,hb3⟩;have hz3:=hb3.size;(try simp only[zz] at hz3);have:=kf3 hb3 w.heap.size);(try go_wp2_with fail);refine tr hK (fun hHeld=> ?_);clear hK K)
 (refine tc 6 fun K hK=> ?_;go_simp;(go_at_call 73;refine(kShape (HAt.below h' (bel_a))).mono ?_;rintro e w4 ⟨rfl,hb4⟩;have hz4:=hb4.size;(try simp only[zz] at hz4);have:=kf3 hb4 w.heap.size);(try go_wp2_with fail);refine tr hK (fun hHeld=> ?_);clear hK K)
 (refine tc 8 fun K hK=> ?_;go_simp;(go_at_call 74;refine(kAt (HAt.below h' (bel_a))).mono ?_;rintro e w5 ⟨rfl,hb5⟩;have hz5:=hb5.size;(try simp only[zz] at hz5);have:=kf3 hb5 w.heap.size);(try go_wp2_with fail);refine tr hK (fun hHeld=> ?_);clear hK K)
 (refine tc 9 fun K hK=> ?_;go_simp;(go_at_call 86;refine(vec_any _ _ _).mono ?_;rintro e w6 ⟨rfl,hb6⟩;have hz6:=hb6.size;(try simp only[zz] at hz6);have:=kf3 hb6 w.heap.size);(try go_wp2_with fail);refine tr hK (fun hHeld=> ?_);clear hK K)
 (refine tc 10 fun K hK=> ?_;go_simp;(go_at_call 130;refine(touch_q _ _ _ _ _ _ _ _ _ _ X Y D J _ (by with_reducible assumption)).mono ?_;rintro e w7 ⟨rfl,hb7⟩;have hz7:=hb7.size;(try simp only[zz] at hz7);have:=kf3 hb7 w.heap.size);(try go_wp2_with fail);refine tr hK (fun hHeld=> ?_);clear hK K)
 refine tq 11 hHeld ?_
 refine tq 12 hHeld ?_
 (refine tc 13 fun K hK=> ?_;go_simp;refine tr hK (fun hHeld=> ?_);clear hK K)
 refine tq 14 hHeld ?_
 refine wpAnyH_done (by kernel_rfl) ?_ _
 go_wp2_with fail
 exact bodyPost_ret (v:= .tuple #[s3 X Y D,.bool J]) (by simp[results,Tryz.results108,go_sem, *]) rfl ⟨rfl,bel_a⟩
end Go.Proofs.YtpmjnpmnocjjgaaGreatDoor
