/- Texts of a proof. -/
import Derived.Test.YtbdbbdjifgpgeaaGreatB7
import Derived.Test.YtbdbbdjifgpgeaaGreatB3
import Derived.Test.YtbdbbdjifgpgeaaGreatB2
import Derived.Test.YtbdbbdjifgpgeaaGreatB16
import Derived.Test.YtbdbbdjifgpgeaaGreatB8
import Derived.Deep.RegionHeld3
import Derived.Deep.DeepCutAuto
set_option maxHeartbeats 16000000
set_option maxRecDepth 20000
namespace Go.Proofs.YtbdbbdjifgpgeaaGreat
open Go.RowKit
set_option linter.unusedVariables false
set_option linter.unusedSimpArgs false
theorem ux_bd2 {x y:Int} (hx: -6000000≤x∧x≤6000000): -1600000000≤ux x y∧ux x y≤1600000000:=by
 unfold ux;split
 · omega
 · have:=tdiv_bd (x:=x*256) (B:=1600000000) (vl x y) (by omega);exact this
theorem uy_bd2 {x y:Int} (hy: -6000000≤y∧y≤6000000): -1600000000≤uy x y∧uy x y≤1600000000:=by
 unfold uy;split
 · omega
 · have:=tdiv_bd (x:=y*256) (B:=1600000000) (vl x y) (by omega);exact this
theorem mxT_bd {a b c d x y g X Y D:Int} {K:Bool} (qa: -3000000≤a∧a≤3000000) (qb: -3000000≤b∧b≤3000000) (qc: -3000000≤c∧c≤3000000) (qd: -3000000≤d∧d≤3000000) (qx: -3000000≤x∧x≤3000000) (qy: -3000000≤y∧y≤3000000) (e:mxT a b c d x y g=((X,Y,D),K)):
 (-1600000000≤X∧X≤1600000000)∧(-1600000000≤Y∧Y≤1600000000):=by
 unfold mxT at e
 split at e
 · have hb:=bsT_bd (s0:=c-x) (s1:=x-a) (s2:=d-y) (s3:=y-b) (B:=6000000) (by omega) (by omega) (by omega) (by omega)
   simp only[Prod.mk.injEq] at e
   obtain⟨⟨eX,eY,eD⟩,eK⟩:=e
   omega
 · have n1:=near_in (a:=a) (c:=c) (x:=x) (B:=3000000) (by omega) (by omega) (by omega)
   have n2:=near_in (a:=b) (c:=d) (x:=y) (B:=3000000) (by omega) (by omega) (by omega)
   unfold rdT at e
   split at e
   · simp only[Prod.mk.injEq] at e
     obtain⟨⟨eX,eY,eD⟩,eK⟩:=e
     have h1:=ux_bd2 (x:=x-mn (mx x a) c) (y:=y-mn (mx y b) d) (by omega)
     have h2:=uy_bd2 (x:=x-mn (mx x a) c) (y:=y-mn (mx y b) d) (by omega)
     omega
   · simp only[Prod.mk.injEq] at e
     obtain⟨⟨eX,eY,eD⟩,eK⟩:=e
     omega
def tnT (m:(Int×Int×Int)×Bool):(Int×Int×Int)×Bool:=if m.2=true then ((-m.1.1,-m.1.2.1,m.1.2.2),true) else ((0,0,0),false)
theorem sT_rr (g1 g2 x y u v X Y D:Int) (K:Bool) (w:World) (lg1:1≤g1∧g1≤25600) (lg2:1≤g2∧g2≤25600) (px: -2560000≤x∧x≤2560000) (py: -2560000≤y∧y≤2560000) (pu: -2560000≤u∧u≤2560000) (pv: -2560000≤v∧v≤2560000) (e:rdT (u-x) (v-y) (g1+g2)=((X,Y,D),K)):
 Calls Tryz.prog 36 #[s3 1 g1 0,vv x y,s3 1 g2 0,vv u v] w fun e w'=>e= .returned (.tuple #[s3 X Y D,.bool K])∧Below w.heap.size w w':=by
 have hset:=cset_map
 have w1:=i64w (n:=g1+g2) (by omega)
 go_enter Tryz.func36,Tryz.ntmps36
 go_wp2_with (go_at_call 65;refine(l5Rounds_q _ _ _ _ _ X Y D _ _ (by omega) (by omega) (by omega) (by omega) (by omega) e).mono ?_;rintro e w1 ⟨rfl,hb1⟩;have hz1:=hb1.size;(try simp only[zz] at hz1);have:=kf5 hb1 w.heap.size)
 exact bodyPost_ret (v:= .tuple #[s3 X Y D,.bool K]) (by simp[results,Tryz.results36,go_sem, *]) rfl ⟨rfl,bel_a⟩
theorem sT_bb (g1 h1 g2 h2 x y u v X Y D:Int) (K:Bool) (w:World) (lg1:1≤g1∧g1≤25600) (lh1:1≤h1∧h1≤25600) (lg2:1≤g2∧g2≤25600) (lh2:1≤h2∧h2≤25600) (px: -2560000≤x∧x≤2560000) (py: -2560000≤y∧y≤2560000) (pu: -2560000≤u∧u≤2560000) (pv: -2560000≤v∧v≤2560000) (e:bxT (x-g1) (y-h1) (x+g1) (y+h1) (u-g2) (v-h2) (u+g2) (v+h2)=((X,Y,D),K)):
 Calls Tryz.prog 36 #[s3 2 g1 h1,vv x y,s3 2 g2 h2,vv u v] w fun e w'=>e= .returned (.tuple #[s3 X Y D,.bool K])∧Below w.heap.size w w':=by
 have hset:=cset_map
 go_enter Tryz.func36,Tryz.ntmps36
 go_upto_region 4 with fail
 refine wp_region_held_drew (S:=fun w'=>w'.cell? ⟨w.heap.size,0,none⟩=some (.int .i64 2)∧w'.cell? ⟨w.heap.size,1,none⟩=some (.int .i64 g1)∧w'.cell? ⟨w.heap.size,2,none⟩=some (.int .i64 h1)∧w'.cell? ⟨w.heap.size+1,0,none⟩=some (.int .i64 x)∧w'.cell? ⟨w.heap.size+1,1,none⟩=some (.int .i64 y)∧w'.cell? ⟨w.heap.size+1+1,0,none⟩=some (.int .i64 2)∧w'.cell? ⟨w.heap.size+1+1,1,none⟩=some (.int .i64 g2)∧w'.cell? ⟨w.heap.size+1+1,2,none⟩=some (.int .i64 h2)∧w'.cell? ⟨w.heap.size+1+1+1,0,none⟩=some (.int .i64 u)∧w'.cell? ⟨w.heap.size+1+1+1,1,none⟩=some (.int .i64 v)) (by kernel_rfl) ?_ (fun hHeld=> ?_)
 · (try dsimp only)
   (first|(go_simp;done)|(go_keep;done))
 refine tq 0 hHeld ?_
 refine tq 1 hHeld ?_
 refine tq 3 hHeld ?_
 refine tq 4 hHeld ?_
 (refine tc 2 fun K hK=> ?_;go_simp;(go_at_call 67;refine(l3Bounds_b _ _ _ _ _ (by omega) (by omega) (by omega) (by omega) (by omega) (by omega)).mono ?_;rintro e w1 ⟨rfl,hb1⟩;have hz1:=hb1.size;(try simp only[zz] at hz1);have:=kf5 hb1 w.heap.size);(try go_wp2_with fail);refine tr hK (fun hHeld=> ?_);clear hK K)
 (refine tc 5 fun K hK=> ?_;go_simp;(go_at_call 67;refine(l3Bounds_b _ _ _ _ _ (by omega) (by omega) (by omega) (by omega) (by omega) (by omega)).mono ?_;rintro e w2 ⟨rfl,hb2⟩;have hz2:=hb2.size;(try simp only[zz] at hz2);have:=kf5 hb2 w.heap.size);(try go_wp2_with fail);refine tr hK (fun hHeld=> ?_);clear hK K)
 (refine tc 6 fun K hK=> ?_;go_simp;(go_at_call 66;refine(l5Boxes_q _ _ _ _ _ _ _ _ X Y D _ _ (by omega) (by omega) (by omega) (by omega) (by omega) (by omega) (by omega) (by omega) e).mono ?_;rintro e w3 ⟨rfl,hb3⟩;have hz3:=hb3.size;(try simp only[zz] at hz3);have:=kf5 hb3 w.heap.size);(try go_wp2_with fail);refine tr hK (fun hHeld=> ?_);clear hK K)
 refine tq 7 hHeld ?_
 refine tq 8 hHeld ?_
 (refine tc 9 fun K hK=> ?_;go_simp;refine tr hK (fun hHeld=> ?_);clear hK K)
 refine tq 10 hHeld ?_
 refine wpAnyH_done (by kernel_rfl) ?_ _
 go_wp2_with fail
 exact bodyPost_ret (v:= .tuple #[s3 X Y D,.bool K]) (by simp[results,Tryz.results36,go_sem, *]) rfl ⟨rfl,bel_a⟩
theorem sT_br (g1 h1 g2 x y u v X Y D:Int) (K:Bool) (w:World) (lg1:1≤g1∧g1≤25600) (lh1:1≤h1∧h1≤25600) (lg2:1≤g2∧g2≤25600) (px: -2560000≤x∧x≤2560000) (py: -2560000≤y∧y≤2560000) (pu: -2560000≤u∧u≤2560000) (pv: -2560000≤v∧v≤2560000) (e:mxT (x-g1) (y-h1) (x+g1) (y+h1) u v g2=((X,Y,D),K)):
 Calls Tryz.prog 36 #[s3 2 g1 h1,vv x y,s3 1 g2 0,vv u v] w fun e w'=>e= .returned (.tuple #[s3 X Y D,.bool K])∧Below w.heap.size w w':=by
 have hset:=cset_map
 go_enter Tryz.func36,Tryz.ntmps36
 go_upto_region 6 with fail
 refine wp_region_held_drew (S:=fun w'=>w'.cell? ⟨w.heap.size,0,none⟩=some (.int .i64 2)∧w'.cell? ⟨w.heap.size,1,none⟩=some (.int .i64 g1)∧w'.cell? ⟨w.heap.size,2,none⟩=some (.int .i64 h1)∧w'.cell? ⟨w.heap.size+1,0,none⟩=some (.int .i64 x)∧w'.cell? ⟨w.heap.size+1,1,none⟩=some (.int .i64 y)∧w'.cell? ⟨w.heap.size+1+1,0,none⟩=some (.int .i64 1)∧w'.cell? ⟨w.heap.size+1+1,1,none⟩=some (.int .i64 g2)∧w'.cell? ⟨w.heap.size+1+1,2,none⟩=some (.int .i64 0)∧w'.cell? ⟨w.heap.size+1+1+1,0,none⟩=some (.int .i64 u)∧w'.cell? ⟨w.heap.size+1+1+1,1,none⟩=some (.int .i64 v)) (by kernel_rfl) ?_ (fun hHeld=> ?_)
 · (try dsimp only)
   (first|(go_simp;done)|(go_keep;done))
 refine tq 0 hHeld ?_
 refine tq 1 hHeld ?_
 refine tq 3 hHeld ?_
 refine tq 4 hHeld ?_
 refine tq 5 hHeld ?_
 (refine tc 2 fun K hK=> ?_;go_simp;(go_at_call 67;refine(l3Bounds_b _ _ _ _ _ (by omega) (by omega) (by omega) (by omega) (by omega) (by omega)).mono ?_;rintro e w1 ⟨rfl,hb1⟩;have hz1:=hb1.size;(try simp only[zz] at hz1);have:=kf5 hb1 w.heap.size);(try go_wp2_with fail);refine tr hK (fun hHeld=> ?_);clear hK K)
 (refine tc 6 fun K hK=> ?_;go_simp;(go_at_call 68;refine(l5Mixed_q _ _ _ _ _ _ _ X Y D _ _ (by omega) (by omega) (by omega) (by omega) (by omega) (by omega) (by omega) e).mono ?_;rintro e w2 ⟨rfl,hb2⟩;have hz2:=hb2.size;(try simp only[zz] at hz2);have:=kf5 hb2 w.heap.size);(try go_wp2_with fail);refine tr hK (fun hHeld=> ?_);clear hK K)
 refine tq 7 hHeld ?_
 refine tq 8 hHeld ?_
 (refine tc 9 fun K hK=> ?_;go_simp;refine tr hK (fun hHeld=> ?_);clear hK K)
 refine tq 10 hHeld ?_
 refine wpAnyH_done (by kernel_rfl) ?_ _
 go_wp2_with fail
 exact bodyPost_ret (v:= .tuple #[s3 X Y D,.bool K]) (by simp[results,Tryz.results36,go_sem, *]) rfl ⟨rfl,bel_a⟩
theorem sT_rb (g1 g2 h2 x y u v X Y D:Int) (K:Bool) (w:World) (lg1:1≤g1∧g1≤25600) (lg2:1≤g2∧g2≤25600) (lh2:1≤h2∧h2≤25600) (px: -2560000≤x∧x≤2560000) (py: -2560000≤y∧y≤2560000) (pu: -2560000≤u∧u≤2560000) (pv: -2560000≤v∧v≤2560000) (e:tnT (mxT (u-g2) (v-h2) (u+g2) (v+h2) x y g1)=((X,Y,D),K)):
 Calls Tryz.prog 36 #[s3 1 g1 0,vv x y,s3 2 g2 h2,vv u v] w fun e w'=>e= .returned (.tuple #[s3 X Y D,.bool K])∧Below w.heap.size w w':=by
 have hset:=cset_map
 obtain⟨⟨⟨P,Q,E⟩,Z⟩,eM⟩:∃ z,mxT (u-g2) (v-h2) (u+g2) (v+h2) x y g1=z:=⟨_,rfl⟩
 obtain⟨hP,hQ⟩:=mxT_bd (by omega) (by omega) (by omega) (by omega) (by omega) (by omega) eM
 rw[eM] at e
 unfold tnT at e
 cases Z with
 | true=>
   simp only[if_true,Prod.mk.injEq] at e
   obtain⟨⟨eX,eY,eD⟩,eK⟩:=e
   subst eX
   subst eY
   subst eD
   subst eK
   go_enter Tryz.func36,Tryz.ntmps36
   go_upto_region 7 with fail
   refine wp_region_held_drew (S:=fun w'=>w'.cell? ⟨w.heap.size,0,none⟩=some (.int .i64 1)∧w'.cell? ⟨w.heap.size,1,none⟩=some (.int .i64 g1)∧w'.cell? ⟨w.heap.size,2,none⟩=some (.int .i64 0)∧w'.cell? ⟨w.heap.size+1,0,none⟩=some (.int .i64 x)∧w'.cell? ⟨w.heap.size+1,1,none⟩=some (.int .i64 y)∧w'.cell? ⟨w.heap.size+1+1,0,none⟩=some (.int .i64 2)∧w'.cell? ⟨w.heap.size+1+1,1,none⟩=some (.int .i64 g2)∧w'.cell? ⟨w.heap.size+1+1,2,none⟩=some (.int .i64 h2)∧w'.cell? ⟨w.heap.size+1+1+1,0,none⟩=some (.int .i64 u)∧w'.cell? ⟨w.heap.size+1+1+1,1,none⟩=some (.int .i64 v)) (by kernel_rfl) ?_ (fun hHeld=> ?_)
   · (try dsimp only)
     (first|(go_simp;done)|(go_keep;done))
   refine tq 0 hHeld ?_
   refine tq 1 hHeld ?_
   refine tq 3 hHeld ?_
   refine tq 4 hHeld ?_
   refine tq 5 hHeld ?_
   repeat' first
    |(replace hK:=hK;go_simp;(first|((go_at_call 67;refine(l3Bounds_b _ _ _ _ _ (by omega) (by omega) (by omega) (by omega) (by omega) (by omega)).mono ?_;rintro e w1 ⟨rfl,hb1⟩;obtain⟨hc1,hf1⟩:=bcell hb1;have hz1:=hb1.size;(try simp only[zz] at hc1 hf1 hz1);have:=kf5 hb1 w.heap.size;(try have q:=kfy hc1 hf1 hz1 (w.heap.size+1+1+1+1+1) (by omega);obtain⟨hk1y0,hj1y0,hq1y0,hr1y0,ht1y0⟩:=q);clear hc1 hf1);(try go_wp2_with fail))|((go_at_call 68;refine(l5Mixed_q _ _ _ _ _ _ _ P Q E true _ (by omega) (by omega) (by omega) (by omega) (by omega) (by omega) (by omega) eM).mono ?_;rintro e w2 ⟨rfl,hb2⟩;obtain⟨hc2,hf2⟩:=bcell hb2;have hz2:=hb2.size;(try simp only[zz] at hc2 hf2 hz2);have:=kf5 hb2 w.heap.size;(try have q:=kfy hc2 hf2 hz2 (w.heap.size+1+1+1+1+1) (by omega);obtain⟨hk2y0,hj2y0,hq2y0,hr2y0,ht2y0⟩:=q);(try have q:=kfy hc2 hf2 hz2 (w1.heap.size) (by omega);obtain⟨hk2y1,hj2y1,hq2y1,hr2y1,ht2y1⟩:=q);clear hc2 hf2);(try go_wp2_with fail))|skip);refine tr hK (fun hHeld=> ?_);clear hK K)
    |refine tc 2 (hr:=by decide+kernel) fun K hK=> ?_
    |refine tc 6 (hr:=by decide+kernel) fun K hK=> ?_
    |refine tc 10 (hr:=by decide+kernel) fun K hK=> ?_
    |refine tc 11 (hr:=by decide+kernel) fun K hK=> ?_
    |refine tq 7 hHeld ?_ (hc:=by decide+kernel)
    |refine tq 8 hHeld ?_ (hc:=by decide+kernel)
    |refine tq 9 hHeld ?_ (hc:=by decide+kernel)
    |refine tq 12 hHeld ?_ (hc:=by decide+kernel)
    |(refine wpAnyH_ready (rs:=[2,10]) (by decide+kernel) (by simp) ?_;refine AllReadyH.cons rfl (fun K hK=> ?_) (AllReadyH.cons rfl (fun K hK=> ?_) AllReadyH.nil))
    |(refine wpAnyH_ready (rs:=[6,10]) (by decide+kernel) (by simp) ?_;refine AllReadyH.cons rfl (fun K hK=> ?_) (AllReadyH.cons rfl (fun K hK=> ?_) AllReadyH.nil))
    | (refine wpAnyH_done (by decide+kernel) ?_ _
       go_wp2_with (go_at_call 69;refine(l5Turn_q _ _ _ _ (by omega) (by omega)).mono ?_;rintro e w5 ⟨rfl,hb5⟩;have hz5:=hb5.size;(try simp only[zz] at hz5);have:=kf5 hb5 w.heap.size)
       exact bodyPost_ret (v:= .tuple #[s3 (-P) (-Q) E,.bool true]) (by simp[results,Tryz.results36,go_sem, *]) rfl ⟨rfl,bel_a⟩)
 | false=>
   rw[if_neg (by simp)] at e
   simp only[Prod.mk.injEq] at e
   obtain⟨⟨eX,eY,eD⟩,eK⟩:=e
   subst eX
   subst eY
   subst eD
   subst eK
   go_enter Tryz.func36,Tryz.ntmps36
   go_upto_region 7 with fail
   refine wp_region_held_drew (S:=fun w'=>w'.cell? ⟨w.heap.size,0,none⟩=some (.int .i64 1)∧w'.cell? ⟨w.heap.size,1,none⟩=some (.int .i64 g1)∧w'.cell? ⟨w.heap.size,2,none⟩=some (.int .i64 0)∧w'.cell? ⟨w.heap.size+1,0,none⟩=some (.int .i64 x)∧w'.cell? ⟨w.heap.size+1,1,none⟩=some (.int .i64 y)∧w'.cell? ⟨w.heap.size+1+1,0,none⟩=some (.int .i64 2)∧w'.cell? ⟨w.heap.size+1+1,1,none⟩=some (.int .i64 g2)∧w'.cell? ⟨w.heap.size+1+1,2,none⟩=some (.int .i64 h2)∧w'.cell? ⟨w.heap.size+1+1+1,0,none⟩=some (.int .i64 u)∧w'.cell? ⟨w.heap.size+1+1+1,1,none⟩=some (.int .i64 v)) (by kernel_rfl) ?_ (fun hHeld=> ?_)
   · (try dsimp only)
     (first|(go_simp;done)|(go_keep;done))
   refine tq 0 hHeld ?_
   refine tq 1 hHeld ?_
   refine tq 3 hHeld ?_
   refine tq 4 hHeld ?_
   refine tq 5 hHeld ?_
   repeat' first
    |(replace hK:=hK;go_simp;(first|((go_at_call 67;refine(l3Bounds_b _ _ _ _ _ (by omega) (by omega) (by omega) (by omega) (by omega) (by omega)).mono ?_;rintro e w1 ⟨rfl,hb1⟩;obtain⟨hc1,hf1⟩:=bcell hb1;have hz1:=hb1.size;(try simp only[zz] at hc1 hf1 hz1);have:=kf5 hb1 w.heap.size;(try have q:=kfy hc1 hf1 hz1 (w.heap.size+1+1+1+1+1) (by omega);obtain⟨hk1y0,hj1y0,hq1y0,hr1y0,ht1y0⟩:=q);clear hc1 hf1);(try go_wp2_with fail))|((go_at_call 68;refine(l5Mixed_q _ _ _ _ _ _ _ P Q E false _ (by omega) (by omega) (by omega) (by omega) (by omega) (by omega) (by omega) eM).mono ?_;rintro e w2 ⟨rfl,hb2⟩;obtain⟨hc2,hf2⟩:=bcell hb2;have hz2:=hb2.size;(try simp only[zz] at hc2 hf2 hz2);have:=kf5 hb2 w.heap.size;(try have q:=kfy hc2 hf2 hz2 (w.heap.size+1+1+1+1+1) (by omega);obtain⟨hk2y0,hj2y0,hq2y0,hr2y0,ht2y0⟩:=q);(try have q:=kfy hc2 hf2 hz2 (w1.heap.size) (by omega);obtain⟨hk2y1,hj2y1,hq2y1,hr2y1,ht2y1⟩:=q);clear hc2 hf2);(try go_wp2_with fail))|skip);refine tr hK (fun hHeld=> ?_);clear hK K)
    |refine tc 2 (hr:=by decide+kernel) fun K hK=> ?_
    |refine tc 6 (hr:=by decide+kernel) fun K hK=> ?_
    |refine tc 10 (hr:=by decide+kernel) fun K hK=> ?_
    |refine tc 11 (hr:=by decide+kernel) fun K hK=> ?_
    |refine tq 7 hHeld ?_ (hc:=by decide+kernel)
    |refine tq 8 hHeld ?_ (hc:=by decide+kernel)
    |refine tq 9 hHeld ?_ (hc:=by decide+kernel)
    |refine tq 12 hHeld ?_ (hc:=by decide+kernel)
    |(refine wpAnyH_ready (rs:=[2,10]) (by decide+kernel) (by simp) ?_;refine AllReadyH.cons rfl (fun K hK=> ?_) (AllReadyH.cons rfl (fun K hK=> ?_) AllReadyH.nil))
    |(refine wpAnyH_ready (rs:=[6,10]) (by decide+kernel) (by simp) ?_;refine AllReadyH.cons rfl (fun K hK=> ?_) (AllReadyH.cons rfl (fun K hK=> ?_) AllReadyH.nil))
    | (refine wpAnyH_done (by decide+kernel) ?_ _
       go_wp2_with fail
       exact bodyPost_ret (v:= .tuple #[s3 0 0 0,.bool false]) (by simp[results,Tryz.results36,go_sem, *]) rfl ⟨rfl,bel_a⟩)
end Go.Proofs.YtbdbbdjifgpgeaaGreat
