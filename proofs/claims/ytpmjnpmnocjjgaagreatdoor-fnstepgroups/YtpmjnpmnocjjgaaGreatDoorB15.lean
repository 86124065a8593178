/- Texts of a proof. -/
import Derived.Test.YtpmjnpmnocjjgaaGreatDoorB6
import Derived.Test.YtpmjnpmnocjjgaaGreatDoorB5
import Derived.Test.YtpmjnpmnocjjgaaGreatDoorB2
import Derived.Test.YtpmjnpmnocjjgaaGreatDoorB8
import Derived.Deep.RegionHeld3
import Derived.Deep.DeepCutAuto
import Derived.Test.YtpmjnpmnocjjgaaGreatDoorB9
set_option maxHeartbeats 16000000
set_option maxRecDepth 20000
namespace Go.Proofs.YtpmjnpmnocjjgaaGreatDoor
open Go.RowKit
set_option linter.unusedVariables false
set_option linter.unusedSimpArgs false
def mxT (a b c d x y g:Int):(Int×Int×Int)×Bool:=if ptB a b c d x y=true then (((bsT (c-x) (x-a) (d-y) (y-b)).1,(bsT (c-x) (x-a) (d-y) (y-b)).2.1,(bsT (c-x) (x-a) (d-y) (y-b)).2.2+g),true) else rdT (x-mn (mx x a) c) (y-mn (mx y b) d) g
theorem bsT_bd {s0 s1 s2 s3 B:Int} (h0: -B≤s0∧s0≤B) (h1: -B≤s1∧s1≤B) (h2: -B≤s2∧s2≤B) (h3: -B≤s3∧s3≤B): -B≤(bsT s0 s1 s2 s3).2.2∧(bsT s0 s1 s2 s3).2.2≤B∧(-256≤(bsT s0 s1 s2 s3).1∧(bsT s0 s1 s2 s3).1≤256)∧(-256≤(bsT s0 s1 s2 s3).2.1∧(bsT s0 s1 s2 s3).2.1≤256):=by
 unfold bsT
 by_cases a:s1<s0
 · simp only[if_pos a]
   by_cases b:s2<s1
   · simp only[if_pos b]
     by_cases c:s3<s2
     · simp only[if_pos c];omega
     · simp only[if_neg c];omega
   · simp only[if_neg b]
     by_cases c:s3<s1
     · simp only[if_pos c];omega
     · simp only[if_neg c];omega
 · simp only[if_neg a]
   by_cases b:s2<s0
   · simp only[if_pos b]
     by_cases c:s3<s2
     · simp only[if_pos c];omega
     · simp only[if_neg c];omega
   · simp only[if_neg b]
     by_cases c:s3<s0
     · simp only[if_pos c];omega
     · simp only[if_neg c];omega
theorem near_in {a c x B:Int} (ha: -B≤a∧a≤B) (hc: -B≤c∧c≤B) (hx: -B≤x∧x≤B): -B≤mn (mx x a) c∧mn (mx x a) c≤B:=by
 unfold mn mx;repeat' split<;>omega
theorem spoint_q (a b c d x y:Int) (z:Bool) (w:World) (e:ptB a b c d x y=z):
 Calls Tryz.prog 123 #[b4 a b c d,vv x y] w fun e w'=>e= .returned (.bool z)∧Below w.heap.size w w':=by
 subst e;exact l3Point_any a b c d x y w
theorem snear_q (a b c d x y X Y:Int) (w:World) (e1:mn (mx x a) c=X) (e2:mn (mx y b) d=Y):
 Calls Tryz.prog 124 #[b4 a b c d,vv x y] w fun e w'=>e= .returned (vv X Y)∧Below w.heap.size w w':=by
 subst e1;subst e2;exact l3Near_any a b c d x y w
theorem l5Mixed_q (a b c d x y g X Y D:Int) (K:Bool) (w:World) (qa: -3000000≤a∧a≤3000000) (qb: -3000000≤b∧b≤3000000) (qc: -3000000≤c∧c≤3000000) (qd: -3000000≤d∧d≤3000000) (qx: -3000000≤x∧x≤3000000) (qy: -3000000≤y∧y≤3000000) (g0:0≤g∧g≤100000) (e:mxT a b c d x y g=((X,Y,D),K)):
 Calls Tryz.prog 100 #[b4 a b c d,vv x y,.int .i64 g] w fun e w'=>e= .returned (.tuple #[s3 X Y D,.bool K])∧Below w.heap.size w w':=by
 have hset:=cset_map
 unfold mxT at e
 cases eP:ptB a b c d x y with
 | true=>
   rw[if_pos eP] at e
   have hb:=bsT_bd (s0:=c-x) (s1:=x-a) (s2:=d-y) (s3:=y-b) (B:=6000000) (by omega) (by omega) (by omega) (by omega)
   obtain⟨⟨P,Q,E⟩,eQ⟩:∃ z,bsT (c-x) (x-a) (d-y) (y-b)=z:=⟨_,rfl⟩
   rw[eQ] at e hb
   dsimp only at hb
   simp only[Prod.mk.injEq] at e
   obtain⟨⟨eX,eY,eD⟩,eK⟩:=e
   subst eX
   subst eY
   subst eD
   subst eK
   have eB:bxT a b c d x y x y=((P,Q,E),true):=by
    have hm:(leB a b x y&&leB x y c d)=true:=by
     unfold ptB at eP;have:=of_decide_eq_true eP;unfold leB;simp only[Bool.and_eq_true,decide_eq_true_eq];omega
    unfold bxT;rw[if_pos hm,eQ]
   have w1:=i64w (n:=E+g) (by have:=hb.1;have:=hb.2.1;omega)
   clear hb eQ
   go_enter Tryz.func100,Tryz.ntmps100
   go_wp2_with (first
   |(go_at_call 123;refine(spoint_q _ _ _ _ _ _ _ _ eP).mono ?_;rintro e w1 ⟨rfl,hb1⟩;have hz1:=hb1.size;(try simp only[zz] at hz1);have:=kf3 hb1 w.heap.size)
   |(go_at_call 98;refine(l5Boxes_q _ _ _ _ _ _ _ _ P Q E true _ (by omega) (by omega) (by omega) (by omega) (by omega) (by omega) (by omega) (by omega) eB).mono ?_;rintro e w2 ⟨rfl,hb2⟩;have hz2:=hb2.size;(try simp only[zz] at hz2);have:=kf3 hb2 w.heap.size))
   exact bodyPost_ret (v:= .tuple #[s3 P Q (E+g),.bool true]) (by simp[results,Tryz.results100,go_sem, *]) rfl ⟨rfl,bel_a⟩
 | false=>
   rw[if_neg (by simp[eP])] at e
   have n1:=near_in (a:=a) (c:=c) (x:=x) (B:=3000000) (by omega) (by omega) (by omega)
   have n2:=near_in (a:=b) (c:=d) (x:=y) (B:=3000000) (by omega) (by omega) (by omega)
   obtain⟨nx,eN1⟩:∃ z,mn (mx x a) c=z:=⟨_,rfl⟩
   obtain⟨ny,eN2⟩:∃ z,mn (mx y b) d=z:=⟨_,rfl⟩
   rw[eN1] at e n1
   rw[eN2] at e n2
   go_enter Tryz.func100,Tryz.ntmps100
   go_upto_region 5 with(go_at_call 123;refine(spoint_q _ _ _ _ _ _ _ _ eP).mono ?_;rintro e w1 ⟨rfl,hb1⟩;have hz1:=hb1.size;(try simp only[zz] at hz1);have:=kf3 hb1 w.heap.size)
   refine wp_region_held_drew (S:=fun w'=>w'.cell? ⟨w.heap.size,0,none⟩=some (.int .i64 a)∧w'.cell? ⟨w.heap.size,1,none⟩=some (.int .i64 b)∧w'.cell? ⟨w.heap.size,2,none⟩=some (.int .i64 c)∧w'.cell? ⟨w.heap.size,3,none⟩=some (.int .i64 d)∧w'.cell? ⟨w.heap.size+1,0,none⟩=some (.int .i64 x)∧w'.cell? ⟨w.heap.size+1,1,none⟩=some (.int .i64 y)) (by kernel_rfl) ?_ (fun hHeld=> ?_)
   · (try dsimp only)
     (first|(go_simp;done)|(go_keep;done))
   refine tq 0 hHeld ?_
   refine tq 1 hHeld ?_
   refine tq 3 hHeld ?_
   refine tq 4 hHeld ?_
   (refine tc 2 fun K hK=> ?_;go_simp;(go_at_call 124;refine(snear_q _ _ _ _ _ _ _ _ _ eN1 eN2).mono ?_;rintro e w3 ⟨rfl,hb3⟩;have hz3:=hb3.size;(try simp only[zz] at hz3);have:=kf3 hb3 w.heap.size);(try go_wp2_with fail);refine tr hK (fun hHeld=> ?_);clear hK K)
   (refine tc 5 fun K hK=> ?_;go_simp;(go_at_call 97;refine(l5Rounds_q nx ny x y g X Y D _ _ (by omega) (by omega) (by omega) (by omega) (by omega) e).mono ?_;rintro e w4 ⟨rfl,hb4⟩;have hz4:=hb4.size;(try simp only[zz] at hz4);have:=kf3 hb4 w.heap.size);(try go_wp2_with fail);refine tr hK (fun hHeld=> ?_);clear hK K)
   refine tq 6 hHeld ?_
   refine tq 7 hHeld ?_
   (refine tc 8 fun K hK=> ?_;go_simp;refine tr hK (fun hHeld=> ?_);clear hK K)
   refine tq 9 hHeld ?_
   refine wpAnyH_done (by kernel_rfl) ?_ _
   go_wp2_with fail
   exact bodyPost_ret (v:= .tuple #[s3 X Y D,.bool K]) (by simp[results,Tryz.results100,go_sem, *]) rfl ⟨rfl,bel_a⟩
theorem l5Turn_q (x y k:Int) (w:World) (hx: -2000000000≤x∧x≤2000000000) (hy: -2000000000≤y∧y≤2000000000):
 Calls Tryz.prog 101 #[s3 x y k] w fun e w'=>e= .returned (s3 (-x) (-y) k)∧Below w.heap.size w w':=by
 have hset:=cset_map
 have w1:=i64w (n:= -x) (by omega)
 have w2:=i64w (n:= -y) (by omega)
 go_enter Tryz.func101,Tryz.ntmps101
 go_wp2_with fail
 exact bodyPost_ret (v:=s3 (-x) (-y) k) (by simp[results,Tryz.results101,go_sem, *]) rfl ⟨rfl,bel_a⟩
theorem ux_bd2 {x y:Int} (hx: -6000000≤x∧x≤6000000): -1600000000≤ux x y∧ux x y≤1600000000:=by
 unfold ux;split
 · omega
 · have:=tdiv_bd (x:=x*256) (B:=1600000000) (vl x y) (by omega);exact this
theorem uy_bd2 {x y:Int} (hy: -6000000≤y∧y≤6000000): -1600000000≤uy x y∧uy x y≤1600000000:=by
 unfold uy;split
 · omega
 · have:=tdiv_bd (x:=y*256) (B:=1600000000) (vl x y) (by omega);exact this
theorem mxT_bd {a b c d x y g X Y D:Int} {K:Bool} (qa: -3000000≤a∧a≤3000000) (qb: -3000000≤b∧b≤3000000) (qc: -3000000≤c∧c≤3000000) (qd: -3000000≤d∧d≤3000000) (qx: -3000000≤x∧x≤3000000) (qy: -3000000≤y∧y≤3000000) (e:mxT a b c d x y g=((X,Y,D),K)):
 (-1600000000≤X∧X≤1600000000)∧(-1600000000≤Y∧Y≤1600000000):=by
 unfold mxT at e
 split at e
 · have hb:=bsT_bd (s0:=c-x) (s1:=x-a) (s2:=d-y) (s3:=y-b) (B:=6000000) (by omega) (by omega) (by omega) (by omega)
   simp only[Prod.mk.injEq] at e
   obtain⟨⟨eX,eY,eD⟩,eK⟩:=e
   omega
 · have n1:=near_in (a:=a) (c:=c) (x:=x) (B:=3000000) (by omega) (by omega) (by omega)
   have n2:=near_in (a:=b) (c:=d) (x:=y) (B:=3000000) (by omega) (by omega) (by omega)
   unfold rdT at e
   split at e
   · simp only[Prod.mk.injEq] at e
     obtain⟨⟨eX,eY,eD⟩,eK⟩:=e
     have h1:=ux_bd2 (x:=x-mn (mx x a) c) (y:=y-mn (mx y b) d) (by omega)
     have h2:=uy_bd2 (x:=x-mn (mx x a) c) (y:=y-mn (mx y b) d) (by omega)
     omega
   · simp only[Prod.mk.injEq] at e
     obtain⟨⟨eX,eY,eD⟩,eK⟩:=e
     omega
def tnT (m:(Int×Int×Int)×Bool):(Int×Int×Int)×Bool:=if m.2=true then ((-m.1.1,-m.1.2.1,m.1.2.2),true) else ((0,0,0),false)
theorem sT_rr (g1 g2 x y u v X Y D:Int) (K:Bool) (w:World) (lg1:1≤g1∧g1≤25600) (lg2:1≤g2∧g2≤25600) (px: -2560000≤x∧x≤2560000) (py: -2560000≤y∧y≤2560000) (pu: -2560000≤u∧u≤2560000) (pv: -2560000≤v∧v≤2560000) (e:rdT (u-x) (v-y) (g1+g2)=((X,Y,D),K)):
 Calls Tryz.prog 61 #[s3 1 g1 0,vv x y,s3 1 g2 0,vv u v] w fun e w'=>e= .returned (.tuple #[s3 X Y D,.bool K])∧Below w.heap.size w w':=by
 have hset:=cset_map
 have w1:=i64w (n:=g1+g2) (by omega)
 go_enter Tryz.func61,Tryz.ntmps61
 go_wp2_with (go_at_call 97;refine(l5Rounds_q _ _ _ _ _ X Y D _ _ (by omega) (by omega) (by omega) (by omega) (by omega) e).mono ?_;rintro e w1 ⟨rfl,hb1⟩;have hz1:=hb1.size;(try simp only[zz] at hz1);have:=kf5 hb1 w.heap.size)
 exact bodyPost_ret (v:= .tuple #[s3 X Y D,.bool K]) (by simp[results,Tryz.results61,go_sem, *]) rfl ⟨rfl,bel_a⟩
theorem sT_bb (g1 h1 g2 h2 x y u v X Y D:Int) (K:Bool) (w:World) (lg1:1≤g1∧g1≤25600) (lh1:1≤h1∧h1≤25600) (lg2:1≤g2∧g2≤25600) (lh2:1≤h2∧h2≤25600) (px: -2560000≤x∧x≤2560000) (py: -2560000≤y∧y≤2560000) (pu: -2560000≤u∧u≤2560000) (pv: -2560000≤v∧v≤2560000) (e:bxT (x-g1) (y-h1) (x+g1) (y+h1) (u-g2) (v-h2) (u+g2) (v+h2)=((X,Y,D),K)):
 Calls Tryz.prog 61 #[s3 2 g1 h1,vv x y,s3 2 g2 h2,vv u v] w fun e w'=>e= .returned (.tuple #[s3 X Y D,.bool K])∧Below w.heap.size w w':=by
 have hset:=cset_map
 go_enter Tryz.func61,Tryz.ntmps61
 go_upto_region 4 with fail
 refine wp_region_held_drew (S:=fun w'=>w'.cell? ⟨w.heap.size,0,none⟩=some (.int .i64 2)∧w'.cell? ⟨w.heap.size,1,none⟩=some (.int .i64 g1)∧w'.cell? ⟨w.heap.size,2,none⟩=some (.int .i64 h1)∧w'.cell? ⟨w.heap.size+1,0,none⟩=some (.int .i64 x)∧w'.cell? ⟨w.heap.size+1,1,none⟩=some (.int .i64 y)∧w'.cell? ⟨w.heap.size+1+1,0,none⟩=some (.int .i64 2)∧w'.cell? ⟨w.heap.size+1+1,1,none⟩=some (.int .i64 g2)∧w'.cell? ⟨w.heap.size+1+1,2,none⟩=some (.int .i64 h2)∧w'.cell? ⟨w.heap.size+1+1+1,0,none⟩=some (.int .i64 u)∧w'.cell? ⟨w.heap.size+1+1+1,1,none⟩=some (.int .i64 v)) (by kernel_rfl) ?_ (fun hHeld=> ?_)
 · (try dsimp only)
   (first|(go_simp;done)|(go_keep;done))
 refine tq 0 hHeld ?_
 refine tq 1 hHeld ?_
 refine tq 3 hHeld ?_
 refine tq 4 hHeld ?_
 (refine tc 2 fun K hK=> ?_;go_simp;(go_at_call 99;refine(l3Bounds_b _ _ _ _ _ (by omega) (by omega) (by omega) (by omega) (by omega) (by omega)).mono ?_;rintro e w1 ⟨rfl,hb1⟩;have hz1:=hb1.size;(try simp only[zz] at hz1);have:=kf5 hb1 w.heap.size);(try go_wp2_with fail);refine tr hK (fun hHeld=> ?_);clear hK K)
 (refine tc 5 fun K hK=> ?_;go_simp;(go_at_call 99;refine(l3Bounds_b _ _ _ _ _ (by omega) (by omega) (by omega) (by omega) (by omega) (by omega)).mono ?_;rintro e w2 ⟨rfl,hb2⟩;have hz2:=hb2.size;(try simp only[zz] at hz2);have:=kf5 hb2 w.heap.size);(try go_wp2_with fail);refine tr hK (fun hHeld=> ?_);clear hK K)
 (refine tc 6 fun K hK=> ?_;go_simp;(go_at_call 98;refine(l5Boxes_q _ _ _ _ _ _ _ _ X Y D _ _ (by omega) (by omega) (by omega) (by omega) (by omega) (by omega) (by omega) (by omega) e).mono ?_;rintro e w3 ⟨rfl,hb3⟩;have hz3:=hb3.size;(try simp only[zz] at hz3);have:=kf5 hb3 w.heap.size);(try go_wp2_with fail);refine tr hK (fun hHeld=> ?_);clear hK K)
 refine tq 7 hHeld ?_
 refine tq 8 hHeld ?_
 (refine tc 9 fun K hK=> ?_;go_simp;refine tr hK (fun hHeld=> ?_);clear hK K)
 refine tq 10 hHeld ?_
 refine wpAnyH_done (by kernel_rfl) ?_ _
 go_wp2_with fail
 exact bodyPost_ret (v:= .tuple #[s3 X Y D,.bool K]) (by simp[results,Tryz.results61,go_sem, *]) rfl ⟨rfl,bel_a⟩
theorem sT_br (g1 h1 g2 x y u v X Y D:Int) (K:Bool) (w:World) (lg1:1≤g1∧g1≤25600) (lh1:1≤h1∧h1≤25600) (lg2:1≤g2∧g2≤25600) (px: -2560000≤x∧x≤2560000) (py: -2560000≤y∧y≤2560000) (pu: -2560000≤u∧u≤2560000) (pv: -2560000≤v∧v≤2560000) (e:mxT (x-g1) (y-h1) (x+g1) (y+h1) u v g2=((X,Y,D),K)):
 Calls Tryz.prog 61 #[s3 2 g1 h1,vv x y,s3 1 g2 0,vv u v] w fun e w'=>e= .returned (.tuple #[s3 X Y D,.bool K])∧Below w.heap.size w w':=by
 have hset:=cset_map
 go_enter Tryz.func61,Tryz.ntmps61
 go_upto_region 6 with fail
 refine wp_region_held_drew (S:=fun w'=>w'.cell? ⟨w.heap.size,0,none⟩=some (.int .i64 2)∧w'.cell? ⟨w.heap.size,1,none⟩=some (.int .i64 g1)∧w'.cell? ⟨w.heap.size,2,none⟩=some (.int .i64 h1)∧w'.cell? ⟨w.heap.size+1,0,none⟩=some (.int .i64 x)∧w'.cell? ⟨w.heap.size+1,1,none⟩=some (.int .i64 y)∧w'.cell? ⟨w.heap.size+1+1,0,none⟩=some (.int .i64 1)∧w'.cell? ⟨w.heap.size+1+1,1,none⟩=some (.int .i64 g2)∧w'.cell? ⟨w.heap.size+1+1,2,none⟩=some (.int .i64 0)∧w'.cell? ⟨w.heap.size+1+1+1,0,none⟩=some (.int .i64 u)∧w'.cell? ⟨w.heap.size+1+1+1,1,none⟩=some (.int .i64 v)) (by kernel_rfl) ?_ (fun hHeld=> ?_)
 · (try dsimp only)
   (first|(go_simp;done)|(go_keep;done))
 refine tq 0 hHeld ?_
 refine tq 1 hHeld ?_
 refine tq 3 hHeld ?_
 refine tq 4 hHeld ?_
 refine tq 5 hHeld ?_
 (refine tc 2 fun K hK=> ?_;go_simp;(go_at_call 99;refine(l3Bounds_b _ _ _ _ _ (by omega) (by omega) (by omega) (by omega) (by omega) (by omega)).mono ?_;rintro e w1 ⟨rfl,hb1⟩;have hz1:=hb1.size;(try simp only[zz] at hz1);have:=kf5 hb1 w.heap.size);(try go_wp2_with fail);refine tr hK (fun hHeld=> ?_);clear hK K)
 (refine tc 6 fun K hK=> ?_;go_simp;(go_at_call 100;refine(l5Mixed_q _ _ _ _ _ _ _ X Y D _ _ (by omega) (by omega) (by omega) (by omega) (by omega) (by omega) (by omega) e).mono ?_;rintro e w2 ⟨rfl,hb2⟩;have hz2:=hb2.size;(try simp only[zz] at hz2);have:=kf5 hb2 w.heap.size);(try go_wp2_with fail);refine tr hK (fun hHeld=> ?_);clear hK K)
 refine tq 7 hHeld ?_
 refine tq 8 hHeld ?_
 (refine tc 9 fun K hK=> ?_;go_simp;refine tr hK (fun hHeld=> ?_);clear hK K)
 refine tq 10 hHeld ?_
 refine wpAnyH_done (by kernel_rfl) ?_ _
 go_wp2_with fail
 exact bodyPost_ret (v:= .tuple #[s3 X Y D,.bool K]) (by simp[results,Tryz.results61,go_sem, *]) rfl ⟨rfl,bel_a⟩
theorem sT_rb (g1 g2 h2 x y u v X Y D:Int) (K:Bool) (w:World) (lg1:1≤g1∧g1≤25600) (lg2:1≤g2∧g2≤25600) (lh2:1≤h2∧h2≤25600) (px: -2560000≤x∧x≤2560000) (py: -2560000≤y∧y≤2560000) (pu: -2560000≤u∧u≤2560000) (pv: -2560000≤v∧v≤2560000) (e:tnT (mxT (u-g2) (v-h2) (u+g2) (v+h2) x y g1)=((X,Y,D),K)):
 Calls Tryz.prog 61 #[s3 1 g1 0,vv x y,s3 2 g2 h2,vv u v] w fun e w'=>e= .returned (.tuple #[s3 X Y D,.bool K])∧Below w.heap.size w w':=by
 have hset:=cset_map
 obtain⟨⟨⟨P,Q,E⟩,Z⟩,eM⟩:∃ z,mxT (u-g2) (v-h2) (u+g2) (v+h2) x y g1=z:=⟨_,rfl⟩
 obtain⟨hP,hQ⟩:=mxT_bd (by omega) (by omega) (by omega) (by omega) (by omega) (by omega) eM
 rw[eM] at e
 unfold tnT at e
 cases Z with
 | true=>
   simp only[if_true,Prod.mk.injEq] at e
   obtain⟨⟨eX,eY,eD⟩,eK⟩:=e
   subst eX
   subst eY
   subst eD
   subst eK
   go_enter Tryz.func61,Tryz.ntmps61
   go_upto_region 7 with fail
   refine wp_region_held_drew (S:=fun w'=>w'.cell? ⟨w.heap.size,0,none⟩=some (.int .i64 1)∧w'.cell? ⟨w.heap.size,1,none⟩=some (.int .i64 g1)∧w'.cell? ⟨w.heap.size,2,none⟩=some (.int .i64 0)∧w'.cell? ⟨w.heap.size+1,0,none⟩=some (.int .i64 x)∧w'.cell? ⟨w.heap.size+1,1,none⟩=some (.int .i64 y)∧w'.cell? ⟨w.heap.size+1+1,0,none⟩=some (.int .i64 2)∧w'.cell? ⟨w.heap.size+1+1,1,none⟩=some (.int .i64 g2)∧w'.cell? ⟨w.heap.size+1+1,2,none⟩=some (.int .i64 h2)∧w'.cell? ⟨w.heap.size+1+1+1,0,none⟩=some (.int .i64 u)∧w'.cell? ⟨w.heap.size+1+1+1,1,none⟩=some (.int .i64 v)) (by kernel_rfl) ?_ (fun hHeld=> ?_)
   · (try dsimp only)
     (first|(go_simp;done)|(go_keep;done))
   refine tq 0 hHeld ?_
   refine tq 1 hHeld ?_
   refine tq 3 hHeld ?_
   refine tq 4 hHeld ?_
   refine tq 5 hHeld ?_
   repeat' first
    |(replace hK:=hK;go_simp;(first|((go_at_call 99;refine(l3Bounds_b _ _ _ _ _ (by omega) (by omega) (by omega) (by omega) (by omega) (by omega)).mono ?_;rintro e w1 ⟨rfl,hb1⟩;obtain⟨hc1,hf1⟩:=bcell hb1;have hz1:=hb1.size;(try simp only[zz] at hc1 hf1 hz1);have:=kf5 hb1 w.heap.size;(try have q:=kfy hc1 hf1 hz1 (w.heap.size+1+1+1+1+1) (by omega);obtain⟨hk1y0,hj1y0,hq1y0,hr1y0,ht1y0⟩:=q);clear hc1 hf1);(try go_wp2_with fail))|((go_at_call 100;refine(l5Mixed_q _ _ _ _ _ _ _ P Q E true _ (by omega) (by omega) (by omega) (by omega) (by omega) (by omega) (by omega) eM).mono ?_;rintro e w2 ⟨rfl,hb2⟩;obtain⟨hc2,hf2⟩:=bcell hb2;have hz2:=hb2.size;(try simp only[zz] at hc2 hf2 hz2);have:=kf5 hb2 w.heap.size;(try have q:=kfy hc2 hf2 hz2 (w.heap.size+1+1+1+1+1) (by omega);obtain⟨hk2y0,hj2y0,hq2y0,hr2y0,ht2y0⟩:=q);(try have q:=kfy hc2 hf2 hz2 (w1.heap.size) (by omega);obtain⟨hk2y1,hj2y1,hq2y1,hr2y1,ht2y1⟩:=q);clear hc2 hf2);(try go_wp2_with fail))|skip);refine tr hK (fun hHeld=> ?_);clear hK K)
    |refine tc 2 (hr:=by decide+kernel) fun K hK=> ?_
    |refine tc 6 (hr:=by decide+kernel) fun K hK=> ?_
    |refine tc 10 (hr:=by decide+kernel) fun K hK=> ?_
    |refine tc 11 (hr:=by decide+kernel) fun K hK=> ?_
    |refine tq 7 hHeld ?_ (hc:=by decide+kernel)
    |refine tq 8 hHeld ?_ (hc:=by decide+kernel)
    |refine tq 9 hHeld ?_ (hc:=by decide+kernel)
    |refine tq 12 hHeld ?_ (hc:=by decide+kernel)
    |(refine wpAnyH_ready (rs:=[2,10]) (by decide+kernel) (by simp) ?_;refine AllReadyH.cons rfl (fun K hK=> ?_) (AllReadyH.cons rfl (fun K hK=> ?_) AllReadyH.nil))
    |(refine wpAnyH_ready (rs:=[6,10]) (by decide+kernel) (by simp) ?_;refine AllReadyH.cons rfl (fun K hK=> ?_) (AllReadyH.cons rfl (fun K hK=> ?_) AllReadyH.nil))
    | (refine wpAnyH_done (by decide+kernel) ?_ _
       go_wp2_with (go_at_call 101;refine(l5Turn_q _ _ _ _ (by omega) (by omega)).mono ?_;rintro e w5 ⟨rfl,hb5⟩;have hz5:=hb5.size;(try simp only[zz] at hz5);have:=kf5 hb5 w.heap.size)
       exact bodyPost_ret (v:= .tuple #[s3 (-P) (-Q) E,.bool true]) (by simp[results,Tryz.results61,go_sem, *]) rfl ⟨rfl,bel_a⟩)
 | false=>
   rw[if_neg (by simp)] at e
   simp only[Prod.mk.injEq] at e
   obtain⟨⟨eX,eY,eD⟩,eK⟩:=e
   subst eX
   subst eY
   subst eD
   subst eK
   go_enter Tryz.func61,Tryz.ntmps61
   go_upto_region 7 with fail
   refine wp_region_held_drew (S:=fun w'=>w'.cell? ⟨w.heap.size,0,none⟩=some (.int .i64 1)∧w'.cell? ⟨w.heap.size,1,none⟩=some (.int .i64 g1)∧w'.cell? ⟨w.heap.size,2,none⟩=some (.int .i64 0)∧w'.cell? ⟨w.heap.size+1,0,none⟩=some (.int .i64 x)∧w'.cell? ⟨w.heap.size+1,1,none⟩=some (.int .i64 y)∧w'.cell? ⟨w.heap.size+1+1,0,none⟩=some (.int .i64 2)∧w'.cell? ⟨w.heap.size+1+1,1,none⟩=some (.int .i64 g2)∧w'.cell? ⟨w.heap.size+1+1,2,none⟩=some (.int .i64 h2)∧w'.cell? ⟨w.heap.size+1+1+1,0,none⟩=some (.int .i64 u)∧w'.cell? ⟨w.heap.size+1+1+1,1,none⟩=some (.int .i64 v)) (by kernel_rfl) ?_ (fun hHeld=> ?_)
   · (try dsimp only)
     (first|(go_simp;done)|(go_keep;done))
   refine tq 0 hHeld ?_
   refine tq 1 hHeld ?_
   refine tq 3 hHeld ?_
   refine tq 4 hHeld ?_
   refine tq 5 hHeld ?_
   repeat' first
    |(replace hK:=hK;go_simp;(first|((go_at_call 99;refine(l3Bounds_b _ _ _ _ _ (by omega) (by omega) (by omega) (by omega) (by omega) (by omega)).mono ?_;rintro e w1 ⟨rfl,hb1⟩;obtain⟨hc1,hf1⟩:=bcell hb1;have hz1:=hb1.size;(try simp only[zz] at hc1 hf1 hz1);have:=kf5 hb1 w.heap.size;(try have q:=kfy hc1 hf1 hz1 (w.heap.size+1+1+1+1+1) (by omega);obtain⟨hk1y0,hj1y0,hq1y0,hr1y0,ht1y0⟩:=q);clear hc1 hf1);(try go_wp2_with fail))|((go_at_call 100;refine(l5Mixed_q _ _ _ _ _ _ _ P Q E false _ (by omega) (by omega) (by omega) (by omega) (by omega) (by omega) (by omega) eM).mono ?_;rintro e w2 ⟨rfl,hb2⟩;obtain⟨hc2,hf2⟩:=bcell hb2;have hz2:=hb2.size;(try simp only[zz] at hc2 hf2 hz2);have:=kf5 hb2 w.heap.size;(try have q:=kfy hc2 hf2 hz2 (w.heap.size+1+1+1+1+1) (by omega);obtain⟨hk2y0,hj2y0,hq2y0,hr2y0,ht2y0⟩:=q);(try have q:=kfy hc2 hf2 hz2 (w1.heap.size) (by omega);obtain⟨hk2y1,hj2y1,hq2y1,hr2y1,ht2y1⟩:=q);clear hc2 hf2);(try go_wp2_with fail))|skip);refine tr hK (fun hHeld=> ?_);clear hK K)
    |refine tc 2 (hr:=by decide+kernel) fun K hK=> ?_
    |refine tc 6 (hr:=by decide+kernel) fun K hK=> ?_
    |refine tc 10 (hr:=by decide+kernel) fun K hK=> ?_
    |refine tc 11 (hr:=by decide+kernel) fun K hK=> ?_
    |refine tq 7 hHeld ?_ (hc:=by decide+kernel)
    |refine tq 8 hHeld ?_ (hc:=by decide+kernel)
    |refine tq 9 hHeld ?_ (hc:=by decide+kernel)
    |refine tq 12 hHeld ?_ (hc:=by decide+kernel)
    |(refine wpAnyH_ready (rs:=[2,10]) (by decide+kernel) (by simp) ?_;refine AllReadyH.cons rfl (fun K hK=> ?_) (AllReadyH.cons rfl (fun K hK=> ?_) AllReadyH.nil))
    |(refine wpAnyH_ready (rs:=[6,10]) (by decide+kernel) (by simp) ?_;refine AllReadyH.cons rfl (fun K hK=> ?_) (AllReadyH.cons rfl (fun K hK=> ?_) AllReadyH.nil))
    | (refine wpAnyH_done (by decide+kernel) ?_ _
       go_wp2_with fail
       exact bodyPost_ret (v:= .tuple #[s3 0 0 0,.bool false]) (by simp[results,Tryz.results61,go_sem, *]) rfl ⟨rfl,bel_a⟩)
end Go.Proofs.YtpmjnpmnocjjgaaGreatDoor
