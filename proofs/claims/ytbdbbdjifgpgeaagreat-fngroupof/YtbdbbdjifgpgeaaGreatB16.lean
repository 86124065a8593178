/- Texts of a proof. -/
import Derived.Test.YtbdbbdjifgpgeaaGreatB6
import Derived.Test.YtbdbbdjifgpgeaaGreatB7
import Derived.Deep.QuietTactic
import Derived.BigQuiet
import Derived.Deep.RegionWith
import Derived.Deep.RegionHeld3
import Derived.Test.YtbdbbdjifgpgeaaGreatB3
import Derived.Test.YtbdbbdjifgpgeaaGreatB2
import Derived.Deep.DeepCutAuto
set_option maxHeartbeats 16000000
set_option maxRecDepth 20000
namespace Go.Proofs.YtbdbbdjifgpgeaaGreat
open Go.RowKit
set_option linter.unusedVariables false
set_option linter.unusedSimpArgs false
theorem l3Less_any (x y:Int) (w:World):
 Calls Tryz.prog 34 #[.int .i64 x,.int .i64 y] w fun e w'=>e= .returned (.int .i64 (mn x y))∧w'=w:=by
 go_enter Tryz.func34,Tryz.ntmps34
 go_wp2
 all_goals
  go_ret
  refine⟨?_,rfl⟩
  unfold mn
  split<;>first|rfl|(exfalso;omega)|(have hxy:x=y:=(by omega);subst hxy;rfl)|(exfalso;simp at*;omega)
theorem l3More_any (x y:Int) (w:World):
 Calls Tryz.prog 73 #[.int .i64 x,.int .i64 y] w fun e w'=>e= .returned (.int .i64 (mx x y))∧w'=w:=by
 go_enter Tryz.func73,Tryz.ntmps73
 go_wp2
 all_goals
  go_ret
  refine⟨?_,rfl⟩
  unfold mx
  split<;>first|rfl|(exfalso;omega)|(have hxy:x=y:=(by omega);subst hxy;rfl)|(exfalso;simp at*;omega)
theorem l3Near_any (a b c d x y:Int) (w:World):
 Calls Tryz.prog 92 #[b4 a b c d,vv x y] w fun e w'=>e= .returned (vv (mn (mx x a) c) (mn (mx y b) d))∧Below w.heap.size w w':=by
 have hset:=cset_map
 go_enter Tryz.func92,Tryz.ntmps92
 go_wp2
 go_region_held3 (fun w'=>w'.cell? ⟨w.heap.size,0,none⟩=some (.int .i64 a)∧w'.cell? ⟨w.heap.size,1,none⟩=some (.int .i64 b)∧w'.cell? ⟨w.heap.size,2,none⟩=some (.int .i64 c)∧w'.cell? ⟨w.heap.size,3,none⟩=some (.int .i64 d)∧w'.cell? ⟨w.heap.size+1,0,none⟩=some (.int .i64 x)∧w'.cell? ⟨w.heap.size+1,1,none⟩=some (.int .i64 y)) (first|(go_simp;done)|(go_keep;done)) (first
  |(go_at_call 34;refine(l3Less_any _ _ _).mono ?_;rintro e w' ⟨rfl,rfl⟩)
  |(go_at_call 73;refine(l3More_any _ _ _).mono ?_;rintro e w' ⟨rfl,rfl⟩))
 all_goals
  go_wp2
  exact bodyPost_ret (v:=vv (mn (mx x a) c) (mn (mx y b) d)) (by simp[results,Tryz.results92,go_sem, *]) rfl ⟨rfl,bel_a⟩
def rdT (dx dy g:Int):(Int×Int×Int)×Bool:=if dx*dx+dy*dy≤g*g then ((ux dx dy,uy dx dy,g-vl dx dy),true) else ((0,0,0),false)
def bsT (s0 s1 s2 s3:Int):Int×Int×Int:=
 let m1:Int×Int×Int:=if s1<s0 then (-256,0,s1) else (256,0,s0)
 let m2:Int×Int×Int:=if s2<m1.2.2 then (0,256,s2) else m1
 if s3<m2.2.2 then (0,-256,s3) else m2
def bxT (a b c d r s t u:Int):(Int×Int×Int)×Bool:=if (leB a b t u&&leB r s c d)=true then (bsT (c-r) (t-a) (d-s) (u-b),true) else ((0,0,0),false)
theorem sunit_q (x y X Y:Int) (w:World) (e1:ux (fc x) (fc y)=X) (e2:uy (fc x) (fc y)=Y):
 Calls Tryz.prog 88 #[vv x y] w fun e w'=>e= .returned (vv X Y)∧Below w.heap.size w w':=by
 subst e1;subst e2;exact sVecUnit_any x y w
theorem slen_q (x y L:Int) (w:World) (e:vl (fc x) (fc y)=L):
 Calls Tryz.prog 89 #[vv x y] w fun e w'=>e= .returned (.int .i64 L)∧Below w.heap.size w w':=by
 subst e;exact sVecLen_any x y w
theorem l5Rounds_q (a b x y g X Y D:Int) (K:Bool) (w:World) (qa: -3000000≤a∧a≤3000000) (qb: -3000000≤b∧b≤3000000) (qx: -3000000≤x∧x≤3000000) (qy: -3000000≤y∧y≤3000000) (g0:0≤g∧g≤100000) (e:rdT (x-a) (y-b) g=((X,Y,D),K)):
 Calls Tryz.prog 65 #[vv a b,vv x y,.int .i64 g] w fun e w'=>e= .returned (.tuple #[s3 X Y D,.bool K])∧Below w.heap.size w w':=by
 have hset:=cset_map
 obtain⟨dx,ex⟩:∃ z,x-a=z:=⟨_,rfl⟩
 obtain⟨dy,ey⟩:∃ z,y-b=z:=⟨_,rfl⟩
 have w1:=i64w (n:=x-a) (by omega)
 have w2:=i64w (n:=y-b) (by omega)
 rw[ex] at e w1
 rw[ey] at e w2
 have m3:=mul_bd (a:=g) (b:=g) (A:=100000) (B:=100000) (by omega) (by omega)
 have w3:=i64w (n:=g*g) (by omega)
 unfold rdT at e
 cases dd:decide (g*g<dx*dx+dy*dy) with
 | true=>
   have hn:=of_decide_eq_true dd
   rw[if_neg (by omega)] at e
   cases e
   clear hn m3
   go_enter Tryz.func65,Tryz.ntmps65
   go_wp2_with (go_at_call 87;refine(l2Square_any _ _ _ (by omega) (by omega)).mono ?_;rintro e w1 ⟨rfl,hb1⟩;have hz1:=hb1.size;(try simp only[zz] at hz1);have:=kf4 hb1 w.heap.size)
   exact bodyPost_ret (v:= .tuple #[s3 0 0 0,.bool false]) (by simp[results,Tryz.results65,go_sem, *]) rfl ⟨rfl,bel_a⟩
 | false=>
   have hn:=of_decide_eq_false dd
   rw[if_pos (by omega)] at e
   obtain⟨L,eL⟩:∃ z,vl dx dy=z:=⟨_,rfl⟩
   have lb:=vl_bd dx dy
   rw[eL] at lb
   rw[eL] at e
   simp only[Prod.mk.injEq] at e
   obtain⟨⟨eX,eY,eD⟩,eK⟩:=e
   subst eD
   subst eK
   have f1:=fc_id (n:=dx) (by omega) (by omega)
   have f2:=fc_id (n:=dy) (by omega) (by omega)
   have eX:ux (fc dx) (fc dy)=X:=by rw[f1,f2];exact eX
   have eY:uy (fc dx) (fc dy)=Y:=by rw[f1,f2];exact eY
   have eL:vl (fc dx) (fc dy)=L:=by rw[f1,f2];exact eL
   have w4:=i64w (n:=g-L) (by omega)
   clear hn m3 f1 f2
   go_enter Tryz.func65,Tryz.ntmps65
   go_upto_region 4 with(go_at_call 87;refine(l2Square_any _ _ _ (by omega) (by omega)).mono ?_;rintro e w1 ⟨rfl,hb1⟩;have hz1:=hb1.size;(try simp only[zz] at hz1);have:=kf4 hb1 w.heap.size)
   refine wp_region_held_drew (S:=fun w'=>w'.cell? ⟨w.heap.size+1+1+1,0,none⟩=some (.int .i64 dx)∧w'.cell? ⟨w.heap.size+1+1+1,1,none⟩=some (.int .i64 dy)) (by kernel_rfl) ?_ (fun hHeld=> ?_)
   · (try dsimp only)
     (first|(go_simp;done)|(go_keep;done))
   refine tq 0 hHeld ?_
   refine tq 2 hHeld ?_
   refine tq 3 hHeld ?_
   (refine tc 1 fun K hK=> ?_;go_simp;(go_at_call 88;refine(sunit_q _ _ _ _ _ eX eY).mono ?_;rintro e w2 ⟨rfl,hb2⟩;have hz2:=hb2.size;(try simp only[zz] at hz2);have:=kf4 hb2 w.heap.size);(try go_wp2_with fail);refine tr hK (fun hHeld=> ?_);clear hK K)
   (refine tc 4 fun K hK=> ?_;go_simp;(go_at_call 89;refine(slen_q _ _ _ _ eL).mono ?_;rintro e w3 ⟨rfl,hb3⟩;have hz3:=hb3.size;(try simp only[zz] at hz3);have:=kf4 hb3 w.heap.size);(try go_wp2_with fail);refine tr hK (fun hHeld=> ?_);clear hK K)
   refine tq 5 hHeld ?_
   refine tq 6 hHeld ?_
   (refine tc 7 fun K hK=> ?_;go_simp;refine tr hK (fun hHeld=> ?_);clear hK K)
   refine tq 8 hHeld ?_
   refine wpAnyH_done (by kernel_rfl) ?_ _
   go_wp2_with fail
   exact bodyPost_ret (v:= .tuple #[s3 X Y (g-L),.bool true]) (by simp[results,Tryz.results65,go_sem, *]) rfl ⟨rfl,bel_a⟩
theorem smeets_q (a b c d r s t u:Int) (z:Bool) (w:World) (e:(leB a b t u&&leB r s c d)=z):
 Calls Tryz.prog 90 #[b4 a b c d,b4 r s t u] w fun e w'=>e= .returned (.bool z)∧Below w.heap.size w w':=by
 subst e;exact l3Meets_any a b c d r s t u w
theorem l5Boxes_q (a b c d r s t u X Y D:Int) (K:Bool) (w:World) (qa: -3000000≤a∧a≤3000000) (qb: -3000000≤b∧b≤3000000) (qc: -3000000≤c∧c≤3000000) (qd: -3000000≤d∧d≤3000000) (qr: -3000000≤r∧r≤3000000) (qs: -3000000≤s∧s≤3000000) (qt: -3000000≤t∧t≤3000000) (qu: -3000000≤u∧u≤3000000) (e:bxT a b c d r s t u=((X,Y,D),K)):
 Calls Tryz.prog 66 #[b4 a b c d,b4 r s t u] w fun e w'=>e= .returned (.tuple #[s3 X Y D,.bool K])∧Below w.heap.size w w':=by
 have hset:=cset_map
 unfold bxT at e
 cases eM:(leB a b t u&&leB r s c d) with
 | false=>
   rw[if_neg (by simp[eM])] at e
   cases e
   go_enter Tryz.func66,Tryz.ntmps66
   go_wp2_with (go_at_call 90;refine(smeets_q _ _ _ _ _ _ _ _ _ _ eM).mono ?_;rintro e w1 ⟨rfl,hb1⟩;have hz1:=hb1.size;(try simp only[zz] at hz1);have:=kf3 hb1 w.heap.size)
   exact bodyPost_ret (v:= .tuple #[s3 0 0 0,.bool false]) (by simp[results,Tryz.results66,go_sem, *]) rfl ⟨rfl,bel_a⟩
 | true=>
   rw[if_pos eM] at e
   obtain⟨s0,es0⟩:∃ z,c-r=z:=⟨_,rfl⟩
   have ws0:=i64w (n:=c-r) (by omega)
   rw[es0] at e ws0
   obtain⟨s1,es1⟩:∃ z,t-a=z:=⟨_,rfl⟩
   have ws1:=i64w (n:=t-a) (by omega)
   rw[es1] at e ws1
   obtain⟨s2,es2⟩:∃ z,d-s=z:=⟨_,rfl⟩
   have ws2:=i64w (n:=d-s) (by omega)
   rw[es2] at e ws2
   obtain⟨s3',es3'⟩:∃ z,u-b=z:=⟨_,rfl⟩
   have ws3':=i64w (n:=u-b) (by omega)
   rw[es3'] at e ws3'
   unfold bsT at e
   cases d1:decide (s1<s0) with
   | true=>
     simp only[if_pos (of_decide_eq_true d1)] at e
     cases d2:decide (s2<s1) with
     | true=>
       simp only[if_pos (of_decide_eq_true d2)] at e
       cases d3:decide (s3'<s2) with
       | true=>
         simp only[if_pos (of_decide_eq_true d3)] at e
         simp only[Prod.mk.injEq] at e
         obtain⟨⟨eX,eY,eD⟩,eK⟩:=e
         subst eX
         subst eY
         subst eD
         subst eK
         go_enter Tryz.func66,Tryz.ntmps66
         go_wp2_with (go_at_call 90;refine(smeets_q _ _ _ _ _ _ _ _ _ _ eM).mono ?_;rintro e w1 ⟨rfl,hb1⟩;have hz1:=hb1.size;(try simp only[zz] at hz1);have:=kf3 hb1 w.heap.size)
         exact bodyPost_ret (v:= .tuple #[s3 0 (-256) s3',.bool true]) (by simp[results,Tryz.results66,go_sem, *]) rfl ⟨rfl,bel_a⟩
       | false=>
         simp only[if_neg (of_decide_eq_false d3)] at e
         simp only[Prod.mk.injEq] at e
         obtain⟨⟨eX,eY,eD⟩,eK⟩:=e
         subst eX
         subst eY
         subst eD
         subst eK
         go_enter Tryz.func66,Tryz.ntmps66
         go_wp2_with (go_at_call 90;refine(smeets_q _ _ _ _ _ _ _ _ _ _ eM).mono ?_;rintro e w1 ⟨rfl,hb1⟩;have hz1:=hb1.size;(try simp only[zz] at hz1);have:=kf3 hb1 w.heap.size)
         exact bodyPost_ret (v:= .tuple #[s3 0 256 s2,.bool true]) (by simp[results,Tryz.results66,go_sem, *]) rfl ⟨rfl,bel_a⟩
     | false=>
       simp only[if_neg (of_decide_eq_false d2)] at e
       cases d3:decide (s3'<s1) with
       | true=>
         simp only[if_pos (of_decide_eq_true d3)] at e
         simp only[Prod.mk.injEq] at e
         obtain⟨⟨eX,eY,eD⟩,eK⟩:=e
         subst eX
         subst eY
         subst eD
         subst eK
         go_enter Tryz.func66,Tryz.ntmps66
         go_wp2_with (go_at_call 90;refine(smeets_q _ _ _ _ _ _ _ _ _ _ eM).mono ?_;rintro e w1 ⟨rfl,hb1⟩;have hz1:=hb1.size;(try simp only[zz] at hz1);have:=kf3 hb1 w.heap.size)
         exact bodyPost_ret (v:= .tuple #[s3 0 (-256) s3',.bool true]) (by simp[results,Tryz.results66,go_sem, *]) rfl ⟨rfl,bel_a⟩
       | false=>
         simp only[if_neg (of_decide_eq_false d3)] at e
         simp only[Prod.mk.injEq] at e
         obtain⟨⟨eX,eY,eD⟩,eK⟩:=e
         subst eX
         subst eY
         subst eD
         subst eK
         go_enter Tryz.func66,Tryz.ntmps66
         go_wp2_with (go_at_call 90;refine(smeets_q _ _ _ _ _ _ _ _ _ _ eM).mono ?_;rintro e w1 ⟨rfl,hb1⟩;have hz1:=hb1.size;(try simp only[zz] at hz1);have:=kf3 hb1 w.heap.size)
         exact bodyPost_ret (v:= .tuple #[s3 (-256) 0 s1,.bool true]) (by simp[results,Tryz.results66,go_sem, *]) rfl ⟨rfl,bel_a⟩
   | false=>
     simp only[if_neg (of_decide_eq_false d1)] at e
     cases d2:decide (s2<s0) with
     | true=>
       simp only[if_pos (of_decide_eq_true d2)] at e
       cases d3:decide (s3'<s2) with
       | true=>
         simp only[if_pos (of_decide_eq_true d3)] at e
         simp only[Prod.mk.injEq] at e
         obtain⟨⟨eX,eY,eD⟩,eK⟩:=e
         subst eX
         subst eY
         subst eD
         subst eK
         go_enter Tryz.func66,Tryz.ntmps66
         go_wp2_with (go_at_call 90;refine(smeets_q _ _ _ _ _ _ _ _ _ _ eM).mono ?_;rintro e w1 ⟨rfl,hb1⟩;have hz1:=hb1.size;(try simp only[zz] at hz1);have:=kf3 hb1 w.heap.size)
         exact bodyPost_ret (v:= .tuple #[s3 0 (-256) s3',.bool true]) (by simp[results,Tryz.results66,go_sem, *]) rfl ⟨rfl,bel_a⟩
       | false=>
         simp only[if_neg (of_decide_eq_false d3)] at e
         simp only[Prod.mk.injEq] at e
         obtain⟨⟨eX,eY,eD⟩,eK⟩:=e
         subst eX
         subst eY
         subst eD
         subst eK
         go_enter Tryz.func66,Tryz.ntmps66
         go_wp2_with (go_at_call 90;refine(smeets_q _ _ _ _ _ _ _ _ _ _ eM).mono ?_;rintro e w1 ⟨rfl,hb1⟩;have hz1:=hb1.size;(try simp only[zz] at hz1);have:=kf3 hb1 w.heap.size)
         exact bodyPost_ret (v:= .tuple #[s3 0 256 s2,.bool true]) (by simp[results,Tryz.results66,go_sem, *]) rfl ⟨rfl,bel_a⟩
     | false=>
       simp only[if_neg (of_decide_eq_false d2)] at e
       cases d3:decide (s3'<s0) with
       | true=>
         simp only[if_pos (of_decide_eq_true d3)] at e
         simp only[Prod.mk.injEq] at e
         obtain⟨⟨eX,eY,eD⟩,eK⟩:=e
         subst eX
         subst eY
         subst eD
         subst eK
         go_enter Tryz.func66,Tryz.ntmps66
         go_wp2_with (go_at_call 90;refine(smeets_q _ _ _ _ _ _ _ _ _ _ eM).mono ?_;rintro e w1 ⟨rfl,hb1⟩;have hz1:=hb1.size;(try simp only[zz] at hz1);have:=kf3 hb1 w.heap.size)
         exact bodyPost_ret (v:= .tuple #[s3 0 (-256) s3',.bool true]) (by simp[results,Tryz.results66,go_sem, *]) rfl ⟨rfl,bel_a⟩
       | false=>
         simp only[if_neg (of_decide_eq_false d3)] at e
         simp only[Prod.mk.injEq] at e
         obtain⟨⟨eX,eY,eD⟩,eK⟩:=e
         subst eX
         subst eY
         subst eD
         subst eK
         go_enter Tryz.func66,Tryz.ntmps66
         go_wp2_with (go_at_call 90;refine(smeets_q _ _ _ _ _ _ _ _ _ _ eM).mono ?_;rintro e w1 ⟨rfl,hb1⟩;have hz1:=hb1.size;(try simp only[zz] at hz1);have:=kf3 hb1 w.heap.size)
         exact bodyPost_ret (v:= .tuple #[s3 256 0 s0,.bool true]) (by simp[results,Tryz.results66,go_sem, *]) rfl ⟨rfl,bel_a⟩
def mxT (a b c d x y g:Int):(Int×Int×Int)×Bool:=if ptB a b c d x y=true then (((bsT (c-x) (x-a) (d-y) (y-b)).1,(bsT (c-x) (x-a) (d-y) (y-b)).2.1,(bsT (c-x) (x-a) (d-y) (y-b)).2.2+g),true) else rdT (x-mn (mx x a) c) (y-mn (mx y b) d) g
theorem bsT_bd {s0 s1 s2 s3 B:Int} (h0: -B≤s0∧s0≤B) (h1: -B≤s1∧s1≤B) (h2: -B≤s2∧s2≤B) (h3: -B≤s3∧s3≤B): -B≤(bsT s0 s1 s2 s3).2.2∧(bsT s0 s1 s2 s3).2.2≤B∧(-256≤(bsT s0 s1 s2 s3).1∧(bsT s0 s1 s2 s3).1≤256)∧(-256≤(bsT s0 s1 s2 s3).2.1∧(bsT s0 s1 s2 s3).2.1≤256):=by
 unfold bsT
 by_cases a:s1<s0
 · simp only[if_pos a]
   by_cases b:s2<s1
   · simp only[if_pos b]
     by_cases c:s3<s2
     · simp only[if_pos c];omega
     · simp only[if_neg c];omega
   · simp only[if_neg b]
     by_cases c:s3<s1
     · simp only[if_pos c];omega
     · simp only[if_neg c];omega
 · simp only[if_neg a]
   by_cases b:s2<s0
   · simp only[if_pos b]
     by_cases c:s3<s2
     · simp only[if_pos c];omega
     · simp only[if_neg c];omega
   · simp only[if_neg b]
     by_cases c:s3<s0
     · simp only[if_pos c];omega
     · simp only[if_neg c];omega
theorem near_in {a c x B:Int} (ha: -B≤a∧a≤B) (hc: -B≤c∧c≤B) (hx: -B≤x∧x≤B): -B≤mn (mx x a) c∧mn (mx x a) c≤B:=by
 unfold mn mx;repeat' split<;>omega
theorem spoint_q (a b c d x y:Int) (z:Bool) (w:World) (e:ptB a b c d x y=z):
 Calls Tryz.prog 91 #[b4 a b c d,vv x y] w fun e w'=>e= .returned (.bool z)∧Below w.heap.size w w':=by
 subst e;exact l3Point_any a b c d x y w
theorem snear_q (a b c d x y X Y:Int) (w:World) (e1:mn (mx x a) c=X) (e2:mn (mx y b) d=Y):
 Calls Tryz.prog 92 #[b4 a b c d,vv x y] w fun e w'=>e= .returned (vv X Y)∧Below w.heap.size w w':=by
 subst e1;subst e2;exact l3Near_any a b c d x y w
theorem l5Mixed_q (a b c d x y g X Y D:Int) (K:Bool) (w:World) (qa: -3000000≤a∧a≤3000000) (qb: -3000000≤b∧b≤3000000) (qc: -3000000≤c∧c≤3000000) (qd: -3000000≤d∧d≤3000000) (qx: -3000000≤x∧x≤3000000) (qy: -3000000≤y∧y≤3000000) (g0:0≤g∧g≤100000) (e:mxT a b c d x y g=((X,Y,D),K)):
 Calls Tryz.prog 68 #[b4 a b c d,vv x y,.int .i64 g] w fun e w'=>e= .returned (.tuple #[s3 X Y D,.bool K])∧Below w.heap.size w w':=by
 have hset:=cset_map
 unfold mxT at e
 cases eP:ptB a b c d x y with
 | true=>
   rw[if_pos eP] at e
   have hb:=bsT_bd (s0:=c-x) (s1:=x-a) (s2:=d-y) (s3:=y-b) (B:=6000000) (by omega) (by omega) (by omega) (by omega)
   obtain⟨⟨P,Q,E⟩,eQ⟩:∃ z,bsT (c-x) (x-a) (d-y) (y-b)=z:=⟨_,rfl⟩
   rw[eQ] at e hb
   dsimp only at hb
   simp only[Prod.mk.injEq] at e
   obtain⟨⟨eX,eY,eD⟩,eK⟩:=e
   subst eX
   subst eY
   subst eD
   subst eK
   have eB:bxT a b c d x y x y=((P,Q,E),true):=by
    have hm:(leB a b x y&&leB x y c d)=true:=by
     unfold ptB at eP;have:=of_decide_eq_true eP;unfold leB;simp only[Bool.and_eq_true,decide_eq_true_eq];omega
    unfold bxT;rw[if_pos hm,eQ]
   have w1:=i64w (n:=E+g) (by have:=hb.1;have:=hb.2.1;omega)
   clear hb eQ
   go_enter Tryz.func68,Tryz.ntmps68
   go_wp2_with (first
   |(go_at_call 91;refine(spoint_q _ _ _ _ _ _ _ _ eP).mono ?_;rintro e w1 ⟨rfl,hb1⟩;have hz1:=hb1.size;(try simp only[zz] at hz1);have:=kf3 hb1 w.heap.size)
   |(go_at_call 66;refine(l5Boxes_q _ _ _ _ _ _ _ _ P Q E true _ (by omega) (by omega) (by omega) (by omega) (by omega) (by omega) (by omega) (by omega) eB).mono ?_;rintro e w2 ⟨rfl,hb2⟩;have hz2:=hb2.size;(try simp only[zz] at hz2);have:=kf3 hb2 w.heap.size))
   exact bodyPost_ret (v:= .tuple #[s3 P Q (E+g),.bool true]) (by simp[results,Tryz.results68,go_sem, *]) rfl ⟨rfl,bel_a⟩
 | false=>
   rw[if_neg (by simp[eP])] at e
   have n1:=near_in (a:=a) (c:=c) (x:=x) (B:=3000000) (by omega) (by omega) (by omega)
   have n2:=near_in (a:=b) (c:=d) (x:=y) (B:=3000000) (by omega) (by omega) (by omega)
   obtain⟨nx,eN1⟩:∃ z,mn (mx x a) c=z:=⟨_,rfl⟩
   obtain⟨ny,eN2⟩:∃ z,mn (mx y b) d=z:=⟨_,rfl⟩
   rw[eN1] at e n1
   rw[eN2] at e n2
   go_enter Tryz.func68,Tryz.ntmps68
   go_upto_region 5 with(go_at_call 91;refine(spoint_q _ _ _ _ _ _ _ _ eP).mono ?_;rintro e w1 ⟨rfl,hb1⟩;have hz1:=hb1.size;(try simp only[zz] at hz1);have:=kf3 hb1 w.heap.size)
   refine wp_region_held_drew (S:=fun w'=>w'.cell? ⟨w.heap.size,0,none⟩=some (.int .i64 a)∧w'.cell? ⟨w.heap.size,1,none⟩=some (.int .i64 b)∧w'.cell? ⟨w.heap.size,2,none⟩=some (.int .i64 c)∧w'.cell? ⟨w.heap.size,3,none⟩=some (.int .i64 d)∧w'.cell? ⟨w.heap.size+1,0,none⟩=some (.int .i64 x)∧w'.cell? ⟨w.heap.size+1,1,none⟩=some (.int .i64 y)) (by kernel_rfl) ?_ (fun hHeld=> ?_)
   · (try dsimp only)
     (first|(go_simp;done)|(go_keep;done))
   refine tq 0 hHeld ?_
   refine tq 1 hHeld ?_
   refine tq 3 hHeld ?_
   refine tq 4 hHeld ?_
   (refine tc 2 fun K hK=> ?_;go_simp;(go_at_call 92;refine(snear_q _ _ _ _ _ _ _ _ _ eN1 eN2).mono ?_;rintro e w3 ⟨rfl,hb3⟩;have hz3:=hb3.size;(try simp only[zz] at hz3);have:=kf3 hb3 w.heap.size);(try go_wp2_with fail);refine tr hK (fun hHeld=> ?_);clear hK K)
   (refine tc 5 fun K hK=> ?_;go_simp;(go_at_call 65;refine(l5Rounds_q nx ny x y g X Y D _ _ (by omega) (by omega) (by omega) (by omega) (by omega) e).mono ?_;rintro e w4 ⟨rfl,hb4⟩;have hz4:=hb4.size;(try simp only[zz] at hz4);have:=kf3 hb4 w.heap.size);(try go_wp2_with fail);refine tr hK (fun hHeld=> ?_);clear hK K)
   refine tq 6 hHeld ?_
   refine tq 7 hHeld ?_
   (refine tc 8 fun K hK=> ?_;go_simp;refine tr hK (fun hHeld=> ?_);clear hK K)
   refine tq 9 hHeld ?_
   refine wpAnyH_done (by kernel_rfl) ?_ _
   go_wp2_with fail
   exact bodyPost_ret (v:= .tuple #[s3 X Y D,.bool K]) (by simp[results,Tryz.results68,go_sem, *]) rfl ⟨rfl,bel_a⟩
theorem l5Turn_q (x y k:Int) (w:World) (hx: -2000000000≤x∧x≤2000000000) (hy: -2000000000≤y∧y≤2000000000):
 Calls Tryz.prog 69 #[s3 x y k] w fun e w'=>e= .returned (s3 (-x) (-y) k)∧Below w.heap.size w w':=by
 have hset:=cset_map
 have w1:=i64w (n:= -x) (by omega)
 have w2:=i64w (n:= -y) (by omega)
 go_enter Tryz.func69,Tryz.ntmps69
 go_wp2_with fail
 exact bodyPost_ret (v:=s3 (-x) (-y) k) (by simp[results,Tryz.results69,go_sem, *]) rfl ⟨rfl,bel_a⟩
end Go.Proofs.YtbdbbdjifgpgeaaGreat
