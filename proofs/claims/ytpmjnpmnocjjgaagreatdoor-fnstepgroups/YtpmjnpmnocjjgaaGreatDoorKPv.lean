/- Texts of a proof. -/
import Derived.Test.YtpmjnpmnocjjgaaGreatDoorB6
import Derived.Test.YtpmjnpmnocjjgaaGreatDoorB5
import Derived.Test.YtpmjnpmnocjjgaaGreatDoorB2
import Derived.Test.YtpmjnpmnocjjgaaGreatDoorB30
import Derived.Deep.RegionHeld3
import Derived.Deep.DeepCutAuto
set_option maxHeartbeats 16000000
set_option maxRecDepth 20000
namespace Go.Proofs.YtpmjnpmnocjjgaaGreatDoor
open Go.RowKit
set_option linter.unusedVariables false
set_option linter.unusedSimpArgs false
theorem kClosing_q (V1 V2:Nat→Int) (x y k:Int) (cb nn i j:Nat) (G1 G2:Nat→Nat) (c:Int) (w:World) (h1:HAt w cb nn i V1 G1) (h2:HAt w cb nn j V2 G2) (b6: -20000000≤V1 6∧V1 6≤20000000) (b7: -20000000≤V1 7∧V1 7≤20000000) (d6: -20000000≤V2 6∧V2 6≤20000000) (d7: -20000000≤V2 7∧V2 7≤20000000) (bx: -256≤x∧x≤256) (bY: -256≤y∧y≤256) (ec:closeV V1 V2 x y=c):
 Calls Tryz.prog 181 #[(.agg #[.int .i64 x,.int .i64 y,.int .i64 k,.int .i64 (i:Int),.pointer (some ⟨cb,0,none⟩),.int .i64 (j:Int),.pointer (some ⟨cb,0,none⟩)])] w fun e w'=>e= .returned (.int .i64 c)∧Below w.heap.size w w':=by
 subst ec;exact kClosing V1 V2 x y k cb nn i j G1 G2 w h1 h2 b6 b7 d6 d7 bx bY
theorem dot_q2 (x y u v D:Int) (w:World) (hx: -1000000000≤x∧x≤1000000000) (hy: -1000000000≤y∧y≤1000000000) (hu: -1000000000≤u∧u≤1000000000) (hv: -1000000000≤v∧v≤1000000000) (e:fc ((x*u+y*v).tdiv 256)=D):
 Calls Tryz.prog 184 #[vv x y,vv u v] w fun e w'=>e= .returned (.int .i64 D)∧Below w.heap.size w w':=by
 subst e;exact dot_any x y u v w hx hy hu hv
theorem held_w (n l a:Int) (w:World) (h0:0≤l) (h1:l≤1000000000000000) (e:clampZ l n=a):
 Calls Tryz.prog 151 #[.int .i64 n,.int .i64 l] w fun e w'=>e= .returned (.int .i64 a)∧Below w.heap.size w w':=by
 subst e
 go_enter Tryz.func151,Tryz.ntmps151
 go_wp2
 all_goals
  go_ret
  refine⟨ret_int ?_,Below.refl _ _⟩
  unfold clampZ
  repeat' split
  all_goals omega
theorem kPushed_t (V1 V2:Nat→Int) (x y k:Int) (cb nn i j:Nat) (G1 G2:Nat→Nat) (b r c n P D T M A:Int) (w:World) (h1:HAt w cb nn i V1 G1) (h2:HAt w cb nn j V2 G2) (a0:0≤V1 8∧V1 8≤1000) (a1:0≤V2 8∧V2 8≤1000) (b6: -20000000≤V1 6∧V1 6≤20000000) (b7: -20000000≤V1 7∧V1 7≤20000000) (d6: -20000000≤V2 6∧V2 6≤20000000) (d7: -20000000≤V2 7∧V2 7≤20000000) (bx: -256≤x∧x≤256) (bY: -256≤y∧y≤256) (ec:closeV V1 V2 x y=c) (eb:(if V1 9<V2 9 then V2 9 else V1 9)=b) (er:(if V2 10<V1 10 then V2 10 else V1 10)=r) (eP:togV V1 V2 n=P) (eD:fc (((spX V1-spX V2)*(-y)+(spY V1-spY V2)*x).tdiv 256)=D) (eS:togV V1 V2 D=T) (eM:(P*r).tdiv 256=M) (eA:clampZ M T=A) (en:c+(c*b).tdiv 256=n) (bc:0<c∧c≤100000000) (b0:0≤b∧b≤256) (r0:0≤r∧r≤256) (bn:0<n∧n≤200000000) (bP:0≤P∧P≤200000000000000) (bD: -100000000≤D∧D≤100000000) (bT: -100000000000000≤T∧T≤100000000000000) (bM:0≤M∧M≤200000000000000) (bA: -200000000000000≤A∧A≤200000000000000):
 Calls Tryz.prog 167 #[(.agg #[.int .i64 x,.int .i64 y,.int .i64 k,.int .i64 (i:Int),.pointer (some ⟨cb,0,none⟩),.int .i64 (j:Int),.pointer (some ⟨cb,0,none⟩)]),.bool true] w fun e w'=>e= .returned (vv (clampZ 20000000 ((P*x+A*(-y)).tdiv 256)) (clampZ 20000000 ((P*y+A*x).tdiv 256)))∧Below w.heap.size w w':=by
 have hset:=cset_map
 have m1:=mul_bd (a:=c) (b:=b) (A:=100000000) (B:=256) (by omega) (by omega)
 have m2:=tdiv_bd (x:=c*b) (B:=25600000000) 256 (by omega)
 have m3:=mul_bd (a:=P) (b:=r) (A:=200000000000000) (B:=256) (by omega) (by omega)
 have m4:=mul_bd (a:=P) (b:=x) (A:=200000000000000) (B:=256) (by omega) (by omega)
 have m5:=mul_bd (a:=P) (b:=y) (A:=200000000000000) (B:=256) (by omega) (by omega)
 have m6:=mul_bd (a:=A) (b:= -y) (A:=200000000000000) (B:=256) (by omega) (by omega)
 have m7:=mul_bd (a:=A) (b:=x) (A:=200000000000000) (B:=256) (by omega) (by omega)
 have m8:=tdiv_bd (x:=P*x+A*(-y)) (B:=200000000000000000) 256 (by omega)
 have m9:=tdiv_bd (x:=P*y+A*x) (B:=200000000000000000) 256 (by omega)
 have w1_:IntKind.i64.wrap (c*b)=c*b:=i64w (by omega)
 have w2_:IntKind.i64.wrap ((c*b).tdiv 256)=(c*b).tdiv 256:=i64w (by omega)
 have w3_:IntKind.i64.wrap (c+(c*b).tdiv 256)=c+(c*b).tdiv 256:=i64w (by omega)
 have w4_:IntKind.i64.wrap (P*r)=P*r:=i64w (by omega)
 have w5_:IntKind.i64.wrap ((P*r).tdiv 256)=M:=by rw[eM];exact i64w (by omega)
 have w6_:IntKind.i64.wrap M=M:=i64w (by omega)
 have w7_:IntKind.i64.wrap n=n:=i64w (by omega)
 have sx1:=spX_bd V1 b6
 have sy1:=spY_bd V1 b7
 have sx2:=spX_bd V2 d6
 have sy2:=spY_bd V2 d7
 have l1:=h1.cbl
 have l2:=h2.cbl
 go_enter Tryz.func167,Tryz.ntmps167
 go_upto_region 5 with(go_at_call 181;refine(kClosing_q V1 V2 x y k cb nn i j G1 G2 _ _ (h1.below (by exact bel_a)) (h2.below (by exact bel_a)) (by omega) (by omega) (by omega) (by omega) (by omega) (by omega) (by with_reducible assumption)).mono ?_;rintro e w1 ⟨rfl,hb1⟩;have hz1:=hb1.size;(try simp only[zz] at hz1);have:=kf2 hb1 w.heap.size)
 refine wp_region_held_drew (S:=fun w'=>w'.cell? ⟨w.heap.size,0,none⟩=some (.int .i64 x)∧w'.cell? ⟨w.heap.size,1,none⟩=some (.int .i64 y)∧w'.cell? ⟨w.heap.size,2,none⟩=some (.int .i64 k)∧w'.cell? ⟨w.heap.size,3,none⟩=some (.int .i64 (i:Int))∧w'.cell? ⟨w.heap.size,4,none⟩=some (.pointer (some ⟨cb,0,none⟩))∧w'.cell? ⟨w.heap.size,5,none⟩=some (.int .i64 (j:Int))∧w'.cell? ⟨w.heap.size,6,none⟩=some (.pointer (some ⟨cb,0,none⟩))) (by kernel_rfl) ?_ (fun hHeld=> ?_)
 · (try dsimp only)
   (first|(go_simp;done)|(go_keep;done))
 refine tq 0 hHeld ?_
 refine tq 1 hHeld ?_
 refine tq 2 hHeld ?_
 refine tq 3 hHeld ?_
 refine tq 5 hHeld ?_
 refine tq 6 hHeld ?_
 (refine tc 4 fun K hK=> ?_;go_simp;(go_at_call 78;refine(kBounce (h1.below (by exact bel_a))).mono ?_;rintro e w2 ⟨rfl,hb2⟩;have hz2:=hb2.size;(try simp only[zz] at hz2);have:=kf2 hb2 w.heap.size);(try go_wp2_with fail);refine tr hK (fun hHeld=> ?_);clear hK K)
 (refine tc 7 fun K hK=> ?_;go_simp;(go_at_call 78;refine(kBounce (h2.below (by exact bel_a))).mono ?_;rintro e w3 ⟨rfl,hb3⟩;have hz3:=hb3.size;(try simp only[zz] at hz3);have:=kf2 hb3 w.heap.size);(try go_wp2_with fail);refine tr hK (fun hHeld=> ?_);clear hK K)
 refine tq 8 hHeld ?_
 refine tq 9 hHeld ?_
 refine tq 10 hHeld ?_
 refine tq 11 hHeld ?_
 refine tq 12 hHeld ?_
 refine wpAnyH_done (by kernel_rfl) ?_ _
 go_upto_region 8 with(go_at_call 182;refine(kTogether V1 V2 x y k cb nn i j G1 G2 _ _ _ (h1.below (by exact bel_a)) (h2.below (by exact bel_a)) (by omega) (by omega) (by omega) (by with_reducible assumption)).mono ?_;rintro e w4 ⟨rfl,hb4⟩;have hz4:=hb4.size;(try simp only[zz] at hz4);have:=kf2 hb4 w.heap.size)
 refine wp_region_held_drew (S:=fun w'=>w'.cell? ⟨w.heap.size,0,none⟩=some (.int .i64 x)∧w'.cell? ⟨w.heap.size,1,none⟩=some (.int .i64 y)∧w'.cell? ⟨w.heap.size,2,none⟩=some (.int .i64 k)∧w'.cell? ⟨w.heap.size,3,none⟩=some (.int .i64 (i:Int))∧w'.cell? ⟨w.heap.size,4,none⟩=some (.pointer (some ⟨cb,0,none⟩))∧w'.cell? ⟨w.heap.size,5,none⟩=some (.int .i64 (j:Int))∧w'.cell? ⟨w.heap.size,6,none⟩=some (.pointer (some ⟨cb,0,none⟩))∧w'.cell? ⟨w4.heap.size,0,none⟩=some (.int .i64 (-y))∧w'.cell? ⟨w4.heap.size,1,none⟩=some (.int .i64 x)) (by kernel_rfl) ?_ (fun hHeld=> ?_)
 · (try dsimp only)
   (first|(go_simp;done)|(go_keep;done))
 refine tq 0 hHeld ?_
 refine tq 1 hHeld ?_
 refine tq 2 hHeld ?_
 refine tq 4 hHeld ?_
 refine tq 5 hHeld ?_
 (refine tc 3 fun K hK=> ?_;go_simp;(go_at_call 79;refine(kRub (h1.below (by exact bel_a))).mono ?_;rintro e w5 ⟨rfl,hb5⟩;have hz5:=hb5.size;(try simp only[zz] at hz5);have:=kf2 hb5 w.heap.size;have:=kfa hb5 w4.heap.size);(try go_wp2_with fail);refine tr hK (fun hHeld=> ?_);clear hK K)
 (refine tc 6 fun K hK=> ?_;go_simp;(go_at_call 79;refine(kRub (h2.below (by exact bel_a))).mono ?_;rintro e w6 ⟨rfl,hb6⟩;have hz6:=hb6.size;(try simp only[zz] at hz6);have:=kf2 hb6 w.heap.size;have:=kfa hb6 w4.heap.size);(try go_wp2_with fail);refine tr hK (fun hHeld=> ?_);clear hK K)
 refine tq 7 hHeld ?_
 refine tq 8 hHeld ?_
 refine tq 9 hHeld ?_
 refine tq 10 hHeld ?_
 refine wpAnyH_done (by kernel_rfl) ?_ _
 go_upto_region 9 with fail
 refine wp_region_held_drew (S:=fun w'=>w'.cell? ⟨w.heap.size,0,none⟩=some (.int .i64 x)∧w'.cell? ⟨w.heap.size,1,none⟩=some (.int .i64 y)∧w'.cell? ⟨w.heap.size,2,none⟩=some (.int .i64 k)∧w'.cell? ⟨w.heap.size,3,none⟩=some (.int .i64 (i:Int))∧w'.cell? ⟨w.heap.size,4,none⟩=some (.pointer (some ⟨cb,0,none⟩))∧w'.cell? ⟨w.heap.size,5,none⟩=some (.int .i64 (j:Int))∧w'.cell? ⟨w.heap.size,6,none⟩=some (.pointer (some ⟨cb,0,none⟩))∧w'.cell? ⟨w4.heap.size,0,none⟩=some (.int .i64 (-y))∧w'.cell? ⟨w4.heap.size,1,none⟩=some (.int .i64 x)) (by kernel_rfl) ?_ (fun hHeld=> ?_)
 · (try dsimp only)
   (first|(go_simp;done)|(go_keep;done))
 refine tq 0 hHeld ?_
 refine tq 1 hHeld ?_
 refine tq 3 hHeld ?_
 refine tq 6 hHeld ?_
 (refine tc 2 fun K hK=> ?_;go_simp;(go_at_call 183;refine(kNearing V1 V2 x y k cb nn i j G1 G2 _ (h1.below (by exact bel_a)) (h2.below (by exact bel_a)) (by omega) (by omega) (by omega) (by omega)).mono ?_;rintro e w7 ⟨rfl,hb7⟩;have hz7:=hb7.size;(try simp only[zz] at hz7);have:=kf2 hb7 w.heap.size;have:=kfa hb7 w4.heap.size);(try go_wp2_with fail);refine tr hK (fun hHeld=> ?_);clear hK K)
 (refine tc 4 fun K hK=> ?_;go_simp;(go_at_call 184;refine(dot_q2 _ _ _ _ _ _ (by omega) (by omega) (by omega) (by omega) (by with_reducible assumption)).mono ?_;rintro e w8 ⟨rfl,hb8⟩;have hz8:=hb8.size;(try simp only[zz] at hz8);have:=kf2 hb8 w.heap.size;have:=kfa hb8 w4.heap.size);(try go_wp2_with fail);refine tr hK (fun hHeld=> ?_);clear hK K)
 (refine tc 5 fun K hK=> ?_;go_simp;(go_at_call 182;refine(kTogether V1 V2 x y k cb nn i j G1 G2 _ _ _ (h1.below (by exact bel_a)) (h2.below (by exact bel_a)) (by omega) (by omega) (by omega) (by with_reducible assumption)).mono ?_;rintro e w9 ⟨rfl,hb9⟩;have hz9:=hb9.size;(try simp only[zz] at hz9);have:=kf2 hb9 w.heap.size;have:=kfa hb9 w4.heap.size);(try go_wp2_with fail);refine tr hK (fun hHeld=> ?_);clear hK K)
 (refine tc 7 fun K hK=> ?_;go_simp;(go_at_call 151;refine(held_w _ _ _ _ (by omega) (by omega) (by with_reducible assumption)).mono ?_;rintro e w10 ⟨rfl,hb10⟩;have hz10:=hb10.size;(try simp only[zz] at hz10);have:=kf2 hb10 w.heap.size;have:=kfa hb10 w4.heap.size);(try go_wp2_with fail);refine tr hK (fun hHeld=> ?_);clear hK K)
 refine tq 8 hHeld ?_
 refine wpAnyH_done (by kernel_rfl) ?_ _
 go_wp2_with (go_at_call 136;refine(wayHeld_any _ _ _ _ (by omega) (by omega)).mono ?_;rintro e w11 ⟨rfl,hb11⟩;have hz11:=hb11.size;(try simp only[zz] at hz11);have:=kf2 hb11 w.heap.size;have:=kfa hb11 w4.heap.size)
 exact bodyPost_ret (v:=vv (clampZ 20000000 ((P*x+A*(-y)).tdiv 256)) (clampZ 20000000 ((P*y+A*x).tdiv 256))) (by simp[results,Tryz.results167,go_sem, *]) rfl ⟨rfl,bel_a⟩
theorem kPushed_f (V1 V2:Nat→Int) (x y k:Int) (cb nn i j:Nat) (G1 G2:Nat→Nat) (b r c n P D T M A:Int) (w:World) (h1:HAt w cb nn i V1 G1) (h2:HAt w cb nn j V2 G2) (a0:0≤V1 8∧V1 8≤1000) (a1:0≤V2 8∧V2 8≤1000) (b6: -20000000≤V1 6∧V1 6≤20000000) (b7: -20000000≤V1 7∧V1 7≤20000000) (d6: -20000000≤V2 6∧V2 6≤20000000) (d7: -20000000≤V2 7∧V2 7≤20000000) (bx: -256≤x∧x≤256) (bY: -256≤y∧y≤256) (ec:closeV V1 V2 x y=c) (eb:(if V1 9<V2 9 then V2 9 else V1 9)=b) (er:(if V2 10<V1 10 then V2 10 else V1 10)=r) (eP:togV V1 V2 n=P) (eD:fc (((spX V1-spX V2)*(-y)+(spY V1-spY V2)*x).tdiv 256)=D) (eS:togV V1 V2 D=T) (eM:(P*r).tdiv 256=M) (eA:clampZ M T=A) (en:c=n) (bc:0<c∧c≤100000000) (b0:0≤b∧b≤256) (r0:0≤r∧r≤256) (bn:0<n∧n≤200000000) (bP:0≤P∧P≤200000000000000) (bD: -100000000≤D∧D≤100000000) (bT: -100000000000000≤T∧T≤100000000000000) (bM:0≤M∧M≤200000000000000) (bA: -200000000000000≤A∧A≤200000000000000):
 Calls Tryz.prog 167 #[(.agg #[.int .i64 x,.int .i64 y,.int .i64 k,.int .i64 (i:Int),.pointer (some ⟨cb,0,none⟩),.int .i64 (j:Int),.pointer (some ⟨cb,0,none⟩)]),.bool false] w fun e w'=>e= .returned (vv (clampZ 20000000 ((P*x+A*(-y)).tdiv 256)) (clampZ 20000000 ((P*y+A*x).tdiv 256)))∧Below w.heap.size w w':=by
 have hset:=cset_map
 subst en
 have m1:=mul_bd (a:=c) (b:=b) (A:=100000000) (B:=256) (by omega) (by omega)
 have m2:=tdiv_bd (x:=c*b) (B:=25600000000) 256 (by omega)
 have m3:=mul_bd (a:=P) (b:=r) (A:=200000000000000) (B:=256) (by omega) (by omega)
 have m4:=mul_bd (a:=P) (b:=x) (A:=200000000000000) (B:=256) (by omega) (by omega)
 have m5:=mul_bd (a:=P) (b:=y) (A:=200000000000000) (B:=256) (by omega) (by omega)
 have m6:=mul_bd (a:=A) (b:= -y) (A:=200000000000000) (B:=256) (by omega) (by omega)
 have m7:=mul_bd (a:=A) (b:=x) (A:=200000000000000) (B:=256) (by omega) (by omega)
 have m8:=tdiv_bd (x:=P*x+A*(-y)) (B:=200000000000000000) 256 (by omega)
 have m9:=tdiv_bd (x:=P*y+A*x) (B:=200000000000000000) 256 (by omega)
 have w1_:IntKind.i64.wrap (c*b)=c*b:=i64w (by omega)
 have w2_:IntKind.i64.wrap ((c*b).tdiv 256)=(c*b).tdiv 256:=i64w (by omega)
 have w3_:IntKind.i64.wrap (c+(c*b).tdiv 256)=c+(c*b).tdiv 256:=i64w (by omega)
 have w4_:IntKind.i64.wrap (P*r)=P*r:=i64w (by omega)
 have w5_:IntKind.i64.wrap ((P*r).tdiv 256)=M:=by rw[eM];exact i64w (by omega)
 have w6_:IntKind.i64.wrap M=M:=i64w (by omega)
 have sx1:=spX_bd V1 b6
 have sy1:=spY_bd V1 b7
 have sx2:=spX_bd V2 d6
 have sy2:=spY_bd V2 d7
 have l1:=h1.cbl
 have l2:=h2.cbl
 go_enter Tryz.func167,Tryz.ntmps167
 go_upto_region 8 with(first
  |(go_at_call 182;refine(kTogether V1 V2 x y k cb nn i j G1 G2 _ _ _ (h1.below (by exact bel_a)) (h2.below (by exact bel_a)) (by omega) (by omega) (by omega) (by with_reducible assumption)).mono ?_;rintro e w4 ⟨rfl,hb4⟩;have hz4:=hb4.size;(try simp only[zz] at hz4);have:=kf2 hb4 w.heap.size)
  |(go_at_call 181;refine(kClosing_q V1 V2 x y k cb nn i j G1 G2 _ _ (h1.below (by exact bel_a)) (h2.below (by exact bel_a)) (by omega) (by omega) (by omega) (by omega) (by omega) (by omega) (by with_reducible assumption)).mono ?_;rintro e w1 ⟨rfl,hb1⟩;have hz1:=hb1.size;(try simp only[zz] at hz1);have:=kf2 hb1 w.heap.size))
 refine wp_region_held_drew (S:=fun w'=>w'.cell? ⟨w.heap.size,0,none⟩=some (.int .i64 x)∧w'.cell? ⟨w.heap.size,1,none⟩=some (.int .i64 y)∧w'.cell? ⟨w.heap.size,2,none⟩=some (.int .i64 k)∧w'.cell? ⟨w.heap.size,3,none⟩=some (.int .i64 (i:Int))∧w'.cell? ⟨w.heap.size,4,none⟩=some (.pointer (some ⟨cb,0,none⟩))∧w'.cell? ⟨w.heap.size,5,none⟩=some (.int .i64 (j:Int))∧w'.cell? ⟨w.heap.size,6,none⟩=some (.pointer (some ⟨cb,0,none⟩))∧w'.cell? ⟨w4.heap.size,0,none⟩=some (.int .i64 (-y))∧w'.cell? ⟨w4.heap.size,1,none⟩=some (.int .i64 x)) (by kernel_rfl) ?_ (fun hHeld=> ?_)
 · (try dsimp only)
   (first|(go_simp;done)|(go_keep;done))
 refine tq 0 hHeld ?_
 refine tq 1 hHeld ?_
 refine tq 2 hHeld ?_
 refine tq 4 hHeld ?_
 refine tq 5 hHeld ?_
 (refine tc 3 fun K hK=> ?_;go_simp;(go_at_call 79;refine(kRub (h1.below (by exact bel_a))).mono ?_;rintro e w5 ⟨rfl,hb5⟩;have hz5:=hb5.size;(try simp only[zz] at hz5);have:=kf2 hb5 w.heap.size;have:=kfa hb5 w4.heap.size);(try go_wp2_with fail);refine tr hK (fun hHeld=> ?_);clear hK K)
 (refine tc 6 fun K hK=> ?_;go_simp;(go_at_call 79;refine(kRub (h2.below (by exact bel_a))).mono ?_;rintro e w6 ⟨rfl,hb6⟩;have hz6:=hb6.size;(try simp only[zz] at hz6);have:=kf2 hb6 w.heap.size;have:=kfa hb6 w4.heap.size);(try go_wp2_with fail);refine tr hK (fun hHeld=> ?_);clear hK K)
 refine tq 7 hHeld ?_
 refine tq 8 hHeld ?_
 refine tq 9 hHeld ?_
 refine tq 10 hHeld ?_
 refine wpAnyH_done (by kernel_rfl) ?_ _
 go_upto_region 9 with fail
 refine wp_region_held_drew (S:=fun w'=>w'.cell? ⟨w.heap.size,0,none⟩=some (.int .i64 x)∧w'.cell? ⟨w.heap.size,1,none⟩=some (.int .i64 y)∧w'.cell? ⟨w.heap.size,2,none⟩=some (.int .i64 k)∧w'.cell? ⟨w.heap.size,3,none⟩=some (.int .i64 (i:Int))∧w'.cell? ⟨w.heap.size,4,none⟩=some (.pointer (some ⟨cb,0,none⟩))∧w'.cell? ⟨w.heap.size,5,none⟩=some (.int .i64 (j:Int))∧w'.cell? ⟨w.heap.size,6,none⟩=some (.pointer (some ⟨cb,0,none⟩))∧w'.cell? ⟨w4.heap.size,0,none⟩=some (.int .i64 (-y))∧w'.cell? ⟨w4.heap.size,1,none⟩=some (.int .i64 x)) (by kernel_rfl) ?_ (fun hHeld=> ?_)
 · (try dsimp only)
   (first|(go_simp;done)|(go_keep;done))
 refine tq 0 hHeld ?_
 refine tq 1 hHeld ?_
 refine tq 3 hHeld ?_
 refine tq 6 hHeld ?_
 (refine tc 2 fun K hK=> ?_;go_simp;(go_at_call 183;refine(kNearing V1 V2 x y k cb nn i j G1 G2 _ (h1.below (by exact bel_a)) (h2.below (by exact bel_a)) (by omega) (by omega) (by omega) (by omega)).mono ?_;rintro e w7 ⟨rfl,hb7⟩;have hz7:=hb7.size;(try simp only[zz] at hz7);have:=kf2 hb7 w.heap.size;have:=kfa hb7 w4.heap.size);(try go_wp2_with fail);refine tr hK (fun hHeld=> ?_);clear hK K)
 (refine tc 4 fun K hK=> ?_;go_simp;(go_at_call 184;refine(dot_q2 _ _ _ _ _ _ (by omega) (by omega) (by omega) (by omega) (by with_reducible assumption)).mono ?_;rintro e w8 ⟨rfl,hb8⟩;have hz8:=hb8.size;(try simp only[zz] at hz8);have:=kf2 hb8 w.heap.size;have:=kfa hb8 w4.heap.size);(try go_wp2_with fail);refine tr hK (fun hHeld=> ?_);clear hK K)
 (refine tc 5 fun K hK=> ?_;go_simp;(go_at_call 182;refine(kTogether V1 V2 x y k cb nn i j G1 G2 _ _ _ (h1.below (by exact bel_a)) (h2.below (by exact bel_a)) (by omega) (by omega) (by omega) (by with_reducible assumption)).mono ?_;rintro e w9 ⟨rfl,hb9⟩;have hz9:=hb9.size;(try simp only[zz] at hz9);have:=kf2 hb9 w.heap.size;have:=kfa hb9 w4.heap.size);(try go_wp2_with fail);refine tr hK (fun hHeld=> ?_);clear hK K)
 (refine tc 7 fun K hK=> ?_;go_simp;(go_at_call 151;refine(held_w _ _ _ _ (by omega) (by omega) (by with_reducible assumption)).mono ?_;rintro e w10 ⟨rfl,hb10⟩;have hz10:=hb10.size;(try simp only[zz] at hz10);have:=kf2 hb10 w.heap.size;have:=kfa hb10 w4.heap.size);(try go_wp2_with fail);refine tr hK (fun hHeld=> ?_);clear hK K)
 refine tq 8 hHeld ?_
 refine wpAnyH_done (by kernel_rfl) ?_ _
 go_wp2_with (go_at_call 136;refine(wayHeld_any _ _ _ _ (by omega) (by omega)).mono ?_;rintro e w11 ⟨rfl,hb11⟩;have hz11:=hb11.size;(try simp only[zz] at hz11);have:=kf2 hb11 w.heap.size;have:=kfa hb11 w4.heap.size)
 exact bodyPost_ret (v:=vv (clampZ 20000000 ((P*x+A*(-y)).tdiv 256)) (clampZ 20000000 ((P*y+A*x).tdiv 256))) (by simp[results,Tryz.results167,go_sem, *]) rfl ⟨rfl,bel_a⟩
end Go.Proofs.YtpmjnpmnocjjgaaGreatDoor
