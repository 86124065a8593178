/- Texts of a proof. -/
import Derived.Test.YthajilkjfkppoaaGreatDoorB6
import Derived.Test.YthajilkjfkppoaaGreatDoorB3
import Derived.Test.YthajilkjfkppoaaGreatDoorB22
import Derived.Test.YthajilkjfkppoaaGreatDoorB4
import Derived.Test.YthajilkjfkppoaaGreatDoorB5
import Derived.Test.YthajilkjfkppoaaGreatDoorB25
import Derived.Deep.RegionHeld3
import Derived.Deep.DeepCutAuto
set_option maxHeartbeats 16000000
set_option maxRecDepth 20000
namespace Go.Proofs.YthajilkjfkppoaaGreatDoor
open Go.RowKit
set_option linter.unusedVariables false
set_option linter.unusedSimpArgs false
theorem spX_bd (V:Nat→Int) (h: -20000000≤V 6∧V 6≤20000000): -20000000≤spX V∧spX V≤20000000:=by
 unfold spX;split
 · omega
 · exact tdiv_bd _ h
theorem spY_bd (V:Nat→Int) (h: -20000000≤V 7∧V 7≤20000000): -20000000≤spY V∧spY V≤20000000:=by
 unfold spY;split
 · omega
 · exact tdiv_bd _ h
def closeV (V1 V2:Nat→Int) (x y:Int):Int:=fc (((spX V1-spX V2)*x+(spY V1-spY V2)*y).tdiv 256)
def clV (V1 V2:Nat→Int) (x y k:Int):Int:=if (bodyB V1&&(bodyB V2&&hitB x y k))=true then closeV V1 V2 x y else 0
theorem sVecSub_q (x y u v:Int) (w:World) (hx: -20000000≤x∧x≤20000000) (hy: -20000000≤y∧y≤20000000) (hu: -20000000≤u∧u≤20000000) (hv: -20000000≤v∧v≤20000000):
 Calls Tryz.prog 136 #[vv x y,vv u v] w fun e w'=>e= .returned (vv (x-u) (y-v))∧Below w.heap.size w w':=by
 have q:=sVecSub_any x y u v w
 rw[fc_id (n:=x) (by omega) (by omega),fc_id (n:=y) (by omega) (by omega),fc_id (n:=u) (by omega) (by omega),fc_id (n:=v) (by omega) (by omega),fc_id (n:=x-u) (by omega) (by omega),fc_id (n:=y-v) (by omega) (by omega)] at q
 exact q
theorem sVecDot_q (x y u v:Int) (w:World) (hx: -40000000≤x∧x≤40000000) (hy: -40000000≤y∧y≤40000000) (hu: -256≤u∧u≤256) (hv: -256≤v∧v≤256):
 Calls Tryz.prog 135 #[vv x y,vv u v] w fun e w'=>e= .returned (.int .i64 (fc ((x*u+y*v).tdiv 256)))∧Below w.heap.size w w':=by
 have q:=sVecDot_any x y u v w
 unfold vdot at q
 rw[fc_id (n:=x) (by omega) (by omega),fc_id (n:=y) (by omega) (by omega),fc_id (n:=u) (by omega) (by omega),fc_id (n:=v) (by omega) (by omega)] at q
 exact q
theorem l8Closing_any (V1 V2:Nat→Int) (x y k:Int) (w:World) (b6: -20000000≤V1 6∧V1 6≤20000000) (b7: -20000000≤V1 7∧V1 7≤20000000) (d6: -20000000≤V2 6∧V2 6≤20000000) (d7: -20000000≤V2 7∧V2 7≤20000000) (bx: -256≤x∧x≤256) (bY: -256≤y∧y≤256):
 Calls Tryz.prog 133 #[bodyW V1,bodyW V2,s3 x y k] w fun e w'=>e= .returned (.int .i64 (closeV V1 V2 x y))∧Below w.heap.size w w':=by
 have hset:=cset_map
 have sx1:=spX_bd V1 b6
 have sy1:=spY_bd V1 b7
 have sx2:=spX_bd V2 d6
 have sy2:=spY_bd V2 d7
 go_enter Tryz.func133,Tryz.ntmps133
 go_upto_region 1 with fail
 refine wp_region_held_drew (S:=fun w'=>w'.cell? ⟨w.heap.size,0,none⟩=some (.int .i64 (V1 0))∧w'.cell? ⟨w.heap.size,1,none⟩=some (.int .i64 (V1 1))∧w'.cell? ⟨w.heap.size,2,none⟩=some (.int .i64 (V1 2))∧w'.cell? ⟨w.heap.size,3,none⟩=some (.int .i64 (V1 3))∧w'.cell? ⟨w.heap.size,4,none⟩=some (.int .i64 (V1 4))∧w'.cell? ⟨w.heap.size,5,none⟩=some (.int .i64 (V1 5))∧w'.cell? ⟨w.heap.size,6,none⟩=some (.int .i64 (V1 6))∧w'.cell? ⟨w.heap.size,7,none⟩=some (.int .i64 (V1 7))∧w'.cell? ⟨w.heap.size,8,none⟩=some (.int .i64 (V1 8))∧w'.cell? ⟨w.heap.size,9,none⟩=some (.int .i64 (V1 9))∧w'.cell? ⟨w.heap.size,10,none⟩=some (.int .i64 (V1 10))∧w'.cell? ⟨w.heap.size,11,none⟩=some (.int .i64 (V1 11))∧w'.cell? ⟨w.heap.size+1,0,none⟩=some (.int .i64 (V2 0))∧w'.cell? ⟨w.heap.size+1,1,none⟩=some (.int .i64 (V2 1))∧w'.cell? ⟨w.heap.size+1,2,none⟩=some (.int .i64 (V2 2))∧w'.cell? ⟨w.heap.size+1,3,none⟩=some (.int .i64 (V2 3))∧w'.cell? ⟨w.heap.size+1,4,none⟩=some (.int .i64 (V2 4))∧w'.cell? ⟨w.heap.size+1,5,none⟩=some (.int .i64 (V2 5))∧w'.cell? ⟨w.heap.size+1,6,none⟩=some (.int .i64 (V2 6))∧w'.cell? ⟨w.heap.size+1,7,none⟩=some (.int .i64 (V2 7))∧w'.cell? ⟨w.heap.size+1,8,none⟩=some (.int .i64 (V2 8))∧w'.cell? ⟨w.heap.size+1,9,none⟩=some (.int .i64 (V2 9))∧w'.cell? ⟨w.heap.size+1,10,none⟩=some (.int .i64 (V2 10))∧w'.cell? ⟨w.heap.size+1,11,none⟩=some (.int .i64 (V2 11))∧w'.cell? ⟨w.heap.size+1+1,0,none⟩=some (.int .i64 x)∧w'.cell? ⟨w.heap.size+1+1,1,none⟩=some (.int .i64 y)∧w'.cell? ⟨w.heap.size+1+1,2,none⟩=some (.int .i64 k)) (by kernel_rfl) ?_ (fun hHeld=> ?_)
 · (try dsimp only)
   (first|(go_simp;done)|(go_keep;done))
 refine tq 0 hHeld ?_
 refine tq 2 hHeld ?_
 refine tq 5 hHeld ?_
 refine tq 6 hHeld ?_
 (refine tc 1 fun K hK=> ?_;go_simp;(go_at_call 84;refine(l6Speed_any V1 _ (by omega) (by omega)).mono ?_;rintro e w1 ⟨rfl,hb1⟩;have hz1:=hb1.size;(try simp only[zz] at hz1);have:=kf3 hb1 w.heap.size);(try go_wp2_with fail);refine tr hK (fun hHeld=> ?_);clear hK K)
 (refine tc 3 fun K hK=> ?_;go_simp;(go_at_call 84;refine(l6Speed_any V2 _ (by omega) (by omega)).mono ?_;rintro e w2 ⟨rfl,hb2⟩;have hz2:=hb2.size;(try simp only[zz] at hz2);have:=kf3 hb2 w.heap.size);(try go_wp2_with fail);refine tr hK (fun hHeld=> ?_);clear hK K)
 (refine tc 4 fun K hK=> ?_;go_simp;(go_at_call 136;refine(sVecSub_q _ _ _ _ _ (by omega) (by omega) (by omega) (by omega)).mono ?_;rintro e w3 ⟨rfl,hb3⟩;have hz3:=hb3.size;(try simp only[zz] at hz3);have:=kf3 hb3 w.heap.size);(try go_wp2_with fail);refine tr hK (fun hHeld=> ?_);clear hK K)
 (refine tc 7 fun K hK=> ?_;go_simp;(go_at_call 135;refine(sVecDot_q _ _ _ _ _ (by omega) (by omega) (by omega) (by omega)).mono ?_;rintro e w4 ⟨rfl,hb4⟩;have hz4:=hb4.size;(try simp only[zz] at hz4);have:=kf3 hb4 w.heap.size);(try go_wp2_with fail);refine tr hK (fun hHeld=> ?_);clear hK K)
 refine tq 8 hHeld ?_
 refine wpAnyH_done (by kernel_rfl) ?_ _
 go_wp2_with fail
 go_ret
 exact⟨rfl,bel_a⟩
def togV (V1 V2:Nat→Int) (n:Int):Int:=if V1 8=0∨V2 8=0 then n*(V1 8+V2 8) else (n*V1 8*V2 8).tdiv (V1 8+V2 8)
theorem l8Mass_q (V1 V2:Nat→Int) (n P:Int) (w:World) (a0:0≤V1 8∧V1 8≤1000) (a1:0≤V2 8∧V2 8≤1000) (bn: -1000000000≤n∧n≤1000000000) (eP:togV V1 V2 n=P):
 Calls Tryz.prog 134 #[bodyW V1,bodyW V2,.int .i64 n] w fun e w'=>e= .returned (.int .i64 P)∧Below w.heap.size w w':=by
 have hset:=cset_map
 subst eP
 have p1:=mul_bd (a:=n) (b:=V1 8+V2 8) (A:=1000000000) (B:=2000) (by omega) (by omega)
 have p2:=mul_bd (a:=n) (b:=V1 8) (A:=1000000000) (B:=1000) (by omega) (by omega)
 have p3:=mul_bd (a:=n*V1 8) (b:=V2 8) (A:=1000000000000) (B:=1000) (by omega) (by omega)
 have p4:=mul_bd (a:=n) (b:=V2 8) (A:=1000000000) (B:=1000) (by omega) (by omega)
 have p5:=tdiv_bd (x:=n*V1 8*V2 8) (B:=1000000000000000) (V1 8+V2 8) (by omega)
 unfold togV
 by_cases z1:V1 8=0
 · have e1:(if V1 8=0∨V2 8=0 then n*(V1 8+V2 8) else (n*V1 8*V2 8).tdiv (V1 8+V2 8))=n*V2 8:=by rw[if_pos (.inl z1),z1,Int.zero_add]
   rw[e1]
   clear e1
   go_enter Tryz.func134,Tryz.ntmps134
   go_wp2_with fail
   go_ret
   exact⟨rfl,bel_a⟩
 · by_cases z2:V2 8=0
   · have e1:(if V1 8=0∨V2 8=0 then n*(V1 8+V2 8) else (n*V1 8*V2 8).tdiv (V1 8+V2 8))=n*V1 8:=by rw[if_pos (.inr z2),z2,Int.add_zero]
     rw[e1]
     clear e1
     go_enter Tryz.func134,Tryz.ntmps134
     go_wp2_with fail
     go_ret
     exact⟨rfl,bel_a⟩
   · rw[if_neg (by omega)]
     have z3:(V1 8+V2 8=0)=False:=eq_false (by omega)
     go_enter Tryz.func134,Tryz.ntmps134
     go_wp2_with fail
     go_ret
     exact⟨rfl,bel_a⟩
theorem togV_bd (V1 V2:Nat→Int) (n B:Int) (a0:0≤V1 8∧V1 8≤1000) (a1:0≤V2 8∧V2 8≤1000) (h: -B≤n∧n≤B) (hB:0≤B): -(1000000*B)≤togV V1 V2 n∧togV V1 V2 n≤1000000*B:=by
 have p1:=mul_bd (a:=n) (b:=V1 8+V2 8) (A:=B) (B:=2000) (by omega) (by omega)
 have p2:=mul_bd (a:=n) (b:=V1 8) (A:=B) (B:=1000) (by omega) (by omega)
 have p3:=mul_bd (a:=n*V1 8) (b:=V2 8) (A:=B*1000) (B:=1000) (by omega) (by omega)
 have p5:=tdiv_bd (x:=n*V1 8*V2 8) (B:=B*1000*1000) (V1 8+V2 8) (by omega)
 unfold togV;split<;>omega
theorem l8Closing_q (V1 V2:Nat→Int) (x y k c:Int) (w:World) (b6: -20000000≤V1 6∧V1 6≤20000000) (b7: -20000000≤V1 7∧V1 7≤20000000) (d6: -20000000≤V2 6∧V2 6≤20000000) (d7: -20000000≤V2 7∧V2 7≤20000000) (bx: -256≤x∧x≤256) (bY: -256≤y∧y≤256) (ec:closeV V1 V2 x y=c):
 Calls Tryz.prog 133 #[bodyW V1,bodyW V2,s3 x y k] w fun e w'=>e= .returned (.int .i64 c)∧Below w.heap.size w w':=by
 subst ec;exact l8Closing_any V1 V2 x y k w b6 b7 d6 d7 bx bY
theorem l3More_q (x y b:Int) (w:World) (e:(if x<y then y else x)=b):Calls Tryz.prog 95 #[.int .i64 x,.int .i64 y] w fun e w'=>e= .returned (.int .i64 b)∧w'=w:=by
 subst e;exact l3More_any x y w
theorem l3Less_q (x y b:Int) (w:World) (e:(if y<x then y else x)=b):Calls Tryz.prog 77 #[.int .i64 x,.int .i64 y] w fun e w'=>e= .returned (.int .i64 b)∧w'=w:=by
 subst e;exact l3Less_any x y w
theorem l6Within_w (n m a:Int) (w:World) (h0:0≤m) (h1:m≤1000000000000000) (e:clampZ m n=a):
 Calls Tryz.prog 68 #[.int .i64 n,.int .i64 m] w fun e w'=>e= .returned (.int .i64 a)∧w'=w:=by
 subst e
 go_enter Tryz.func68,Tryz.ntmps68
 go_wp2_with (first
  |(go_at_call 77;refine(l3Less_any _ _ _).mono ?_;rintro e w' ⟨rfl,rfl⟩)
  |(go_at_call 95;refine(l3More_any _ _ _).mono ?_;rintro e w' ⟨rfl,rfl⟩))
 go_ret
 exact⟨ret_int (mnmx n m h0),rfl⟩
theorem sVecDot_q2 (x y u v D:Int) (w:World) (hx: -40000000≤x∧x≤40000000) (hy: -40000000≤y∧y≤40000000) (hu: -256≤u∧u≤256) (hv: -256≤v∧v≤256) (e:fc ((x*u+y*v).tdiv 256)=D):
 Calls Tryz.prog 135 #[vv x y,vv u v] w fun e w'=>e= .returned (.int .i64 D)∧Below w.heap.size w w':=by
 subst e;exact sVecDot_q x y u v w hx hy hu hv
theorem l8Push_b (V1 V2:Nat→Int) (x y k:Int) (b r c n P D T M A:Int) (bo:Bool) (w:World) (a0:0≤V1 8∧V1 8≤1000) (a1:0≤V2 8∧V2 8≤1000) (b6: -20000000≤V1 6∧V1 6≤20000000) (b7: -20000000≤V1 7∧V1 7≤20000000) (d6: -20000000≤V2 6∧V2 6≤20000000) (d7: -20000000≤V2 7∧V2 7≤20000000) (bx: -256≤x∧x≤256) (bY: -256≤y∧y≤256) (ec:closeV V1 V2 x y=c) (eb:(if V1 9<V2 9 then V2 9 else V1 9)=b) (er:(if V2 10<V1 10 then V2 10 else V1 10)=r) (eP:togV V1 V2 n=P) (eD:fc (((spX V1-spX V2)*(-y)+(spY V1-spY V2)*x).tdiv 256)=D) (eS:togV V1 V2 D=T) (eM:(P*r).tdiv 256=M) (eA:clampZ M T=A) (en:(bif bo then c+(c*b).tdiv 256 else c)=n) (bc:0<c∧c≤100000000) (b0:0≤b∧b≤256) (r0:0≤r∧r≤256) (bn:0<n∧n≤200000000) (bP:0≤P∧P≤200000000000000) (bD: -100000000≤D∧D≤100000000) (bT: -100000000000000≤T∧T≤100000000000000) (bM:0≤M∧M≤200000000000000) (bA: -200000000000000≤A∧A≤200000000000000) (hz:(V1 8=0∧V2 8=0)=False):
 Calls Tryz.prog 107 #[bodyW V1,bodyW V2,s3 x y k,.bool bo] w fun e w'=>e= .returned (vv (clampZ 20000000 ((P*x+A*(-y)).tdiv 256)) (clampZ 20000000 ((P*y+A*x).tdiv 256)))∧Below w.heap.size w w':=by
 have hset:=cset_map
 have m1:=mul_bd (a:=c) (b:=b) (A:=100000000) (B:=256) (by omega) (by omega)
 have m2:=tdiv_bd (x:=c*b) (B:=25600000000) 256 (by omega)
 have m3:=mul_bd (a:=P) (b:=r) (A:=200000000000000) (B:=256) (by omega) (by omega)
 have m4:=mul_bd (a:=P) (b:=x) (A:=200000000000000) (B:=256) (by omega) (by omega)
 have m5:=mul_bd (a:=P) (b:=y) (A:=200000000000000) (B:=256) (by omega) (by omega)
 have m6:=mul_bd (a:=A) (b:= -y) (A:=200000000000000) (B:=256) (by omega) (by omega)
 have m7:=mul_bd (a:=A) (b:=x) (A:=200000000000000) (B:=256) (by omega) (by omega)
 have m8:=tdiv_bd (x:=P*x+A*(-y)) (B:=200000000000000000) 256 (by omega)
 have m9:=tdiv_bd (x:=P*y+A*x) (B:=200000000000000000) 256 (by omega)
 have w1_:IntKind.i64.wrap (c*b)=c*b:=i64w (by omega)
 have w2_:IntKind.i64.wrap ((c*b).tdiv 256)=(c*b).tdiv 256:=i64w (by omega)
 have w3_:IntKind.i64.wrap (c+(c*b).tdiv 256)=c+(c*b).tdiv 256:=i64w (by omega)
 have w4_:IntKind.i64.wrap (P*r)=P*r:=i64w (by omega)
 have w5_:IntKind.i64.wrap ((P*r).tdiv 256)=M:=by rw[eM];exact i64w (by omega)
 have w6_:IntKind.i64.wrap M=M:=i64w (by omega)
 have w7_:IntKind.i64.wrap n=n:=i64w (by omega)
 have sx1:=spX_bd V1 b6
 have sy1:=spY_bd V1 b7
 have sx2:=spX_bd V2 d6
 have sy2:=spY_bd V2 d7
 have v1_:IntKind.i64.wrap (P*x)=P*x:=i64w (by omega)
 have v2_:IntKind.i64.wrap (A*(-y))=A*(-y):=i64w (by omega)
 have v2__:IntKind.i64.wrap (A* -y)=A* -y:=i64w (by omega)
 have v3_:IntKind.i64.wrap (P*y)=P*y:=i64w (by omega)
 have v4_:IntKind.i64.wrap (A*x)=A*x:=i64w (by omega)
 have v5_:IntKind.i64.wrap (P*x+A*(-y))=P*x+A*(-y):=i64w (by omega)
 have v6_:IntKind.i64.wrap (P*y+A*x)=P*y+A*x:=i64w (by omega)
 have v7_:IntKind.i64.wrap ((P*x+A*(-y)).tdiv 256)=(P*x+A*(-y)).tdiv 256:=i64w (by omega)
 have v8_:IntKind.i64.wrap ((P*y+A*x).tdiv 256)=(P*y+A*x).tdiv 256:=i64w (by omega)
 have hz':¬ (V1 8=0∧V2 8=0):=fun q=>by rw[hz] at q;exact q
 have hk:(V1 8==0)=false∨((V1 8==0)=true∧(V2 8==0)=false):=by
  cases z1:(V1 8==0) with
  |false=>exact .inl rfl
  | true=>cases z2:(V2 8==0) with
    |true=>exact absurd ⟨by simpa using z1,by simpa using z2⟩ hz'
    |false=>exact .inr ⟨rfl,rfl⟩
 cases bo
 all_goals
  simp only[cond_true,cond_false] at en
  try (have en2:c=n:=en
       clear en
       subst en2)
  rcases hk with z1|⟨z1,z2⟩
  all_goals
   go_enter Tryz.func107,Tryz.ntmps107
   go_upto_region 4 with(go_at_call 133;refine(l8Closing_q V1 V2 x y k _ _ (by omega) (by omega) (by omega) (by omega) (by omega) (by omega) (by with_reducible assumption)).mono ?_;rintro e w1 ⟨rfl,hb1⟩;have hz1:=hb1.size;(try simp only[zz] at hz1);have:=kf4 hb1 w.heap.size)
   go_upto_region 9 with(first
    |(go_at_call 134;refine(l8Mass_q V1 V2 _ _ _ (by omega) (by omega) (by omega) (by with_reducible assumption)).mono ?_;rintro e w2 ⟨rfl,hb2⟩;have hz2:=hb2.size;(try simp only[zz] at hz2);have:=kf4 hb2 w.heap.size)
    |(go_at_call 95;refine(l3More_q _ _ _ _ (by with_reducible assumption)).mono ?_;rintro e w' ⟨rfl,rfl⟩))
   refine wp_region_held_drew (S:=fun w'=>w'.cell? ⟨w.heap.size,0,none⟩=some (.int .i64 (V1 0))∧w'.cell? ⟨w.heap.size,1,none⟩=some (.int .i64 (V1 1))∧w'.cell? ⟨w.heap.size,2,none⟩=some (.int .i64 (V1 2))∧w'.cell? ⟨w.heap.size,3,none⟩=some (.int .i64 (V1 3))∧w'.cell? ⟨w.heap.size,4,none⟩=some (.int .i64 (V1 4))∧w'.cell? ⟨w.heap.size,5,none⟩=some (.int .i64 (V1 5))∧w'.cell? ⟨w.heap.size,6,none⟩=some (.int .i64 (V1 6))∧w'.cell? ⟨w.heap.size,7,none⟩=some (.int .i64 (V1 7))∧w'.cell? ⟨w.heap.size,8,none⟩=some (.int .i64 (V1 8))∧w'.cell? ⟨w.heap.size,9,none⟩=some (.int .i64 (V1 9))∧w'.cell? ⟨w.heap.size,10,none⟩=some (.int .i64 (V1 10))∧w'.cell? ⟨w.heap.size,11,none⟩=some (.int .i64 (V1 11))∧w'.cell? ⟨w.heap.size+1,0,none⟩=some (.int .i64 (V2 0))∧w'.cell? ⟨w.heap.size+1,1,none⟩=some (.int .i64 (V2 1))∧w'.cell? ⟨w.heap.size+1,2,none⟩=some (.int .i64 (V2 2))∧w'.cell? ⟨w.heap.size+1,3,none⟩=some (.int .i64 (V2 3))∧w'.cell? ⟨w.heap.size+1,4,none⟩=some (.int .i64 (V2 4))∧w'.cell? ⟨w.heap.size+1,5,none⟩=some (.int .i64 (V2 5))∧w'.cell? ⟨w.heap.size+1,6,none⟩=some (.int .i64 (V2 6))∧w'.cell? ⟨w.heap.size+1,7,none⟩=some (.int .i64 (V2 7))∧w'.cell? ⟨w.heap.size+1,8,none⟩=some (.int .i64 (V2 8))∧w'.cell? ⟨w.heap.size+1,9,none⟩=some (.int .i64 (V2 9))∧w'.cell? ⟨w.heap.size+1,10,none⟩=some (.int .i64 (V2 10))∧w'.cell? ⟨w.heap.size+1,11,none⟩=some (.int .i64 (V2 11))∧w'.cell? ⟨w2.heap.size,0,none⟩=some (.int .i64 (-y))∧w'.cell? ⟨w2.heap.size,1,none⟩=some (.int .i64 x)) (by kernel_rfl) ?_ (fun hHeld=> ?_)
   · (try dsimp only)
     (first|(go_simp;done)|(go_keep;done))
   refine tq 0 hHeld ?_
   refine tq 1 hHeld ?_
   refine tq 2 hHeld ?_
   refine tq 4 hHeld ?_
   refine tq 7 hHeld ?_
   (refine tc 3 fun K hK=> ?_;go_simp;(go_at_call 84;refine(l6Speed_any V1 _ (by omega) (by omega)).mono ?_;rintro e w3 ⟨rfl,hb3⟩;have hz3:=hb3.size;(try simp only[zz] at hz3);have:=kf4 hb3 w.heap.size;have:=kfa hb3 w2.heap.size);(try go_wp2_with fail);refine tr hK (fun hHeld=> ?_);clear hK K)
   (refine tc 5 fun K hK=> ?_;go_simp;(go_at_call 84;refine(l6Speed_any V2 _ (by omega) (by omega)).mono ?_;rintro e w4 ⟨rfl,hb4⟩;have hz4:=hb4.size;(try simp only[zz] at hz4);have:=kf4 hb4 w.heap.size;have:=kfa hb4 w2.heap.size);(try go_wp2_with fail);refine tr hK (fun hHeld=> ?_);clear hK K)
   (refine tc 6 fun K hK=> ?_;go_simp;(go_at_call 136;refine(sVecSub_q _ _ _ _ _ (by omega) (by omega) (by omega) (by omega)).mono ?_;rintro e w5 ⟨rfl,hb5⟩;have hz5:=hb5.size;(try simp only[zz] at hz5);have:=kf4 hb5 w.heap.size;have:=kfa hb5 w2.heap.size);(try go_wp2_with fail);refine tr hK (fun hHeld=> ?_);clear hK K)
   (refine tc 8 fun K hK=> ?_;go_simp;(go_at_call 135;refine(sVecDot_q2 _ _ _ _ _ _ (by omega) (by omega) (by omega) (by omega) (by with_reducible assumption)).mono ?_;rintro e w6 ⟨rfl,hb6⟩;have hz6:=hb6.size;(try simp only[zz] at hz6);have:=kf4 hb6 w.heap.size;have:=kfa hb6 w2.heap.size);(try go_wp2_with fail);refine tr hK (fun hHeld=> ?_);clear hK K)
   (refine tc 9 fun K hK=> ?_;go_simp;(go_at_call 134;refine(l8Mass_q V1 V2 _ _ _ (by omega) (by omega) (by omega) (by with_reducible assumption)).mono ?_;rintro e w7 ⟨rfl,hb7⟩;have hz7:=hb7.size;(try simp only[zz] at hz7);have:=kf4 hb7 w.heap.size;have:=kfa hb7 w2.heap.size);(try go_wp2_with fail);refine tr hK (fun hHeld=> ?_);clear hK K)
   refine tq 10 hHeld ?_
   refine wpAnyH_done (by kernel_rfl) ?_ _
   go_upto_region 12 with(first
    |(go_at_call 77;refine(l3Less_q _ _ _ _ (by with_reducible assumption)).mono ?_;rintro e w' ⟨rfl,rfl⟩)
    |(go_at_call 68;refine(l6Within_w _ _ _ _ (by omega) (by omega) (by with_reducible assumption)).mono ?_;rintro e w' ⟨rfl,rfl⟩))
   refine wp_region_held_drew (S:=fun w'=>w'.cell? ⟨w.heap.size+1+1,0,none⟩=some (.int .i64 x)∧w'.cell? ⟨w.heap.size+1+1,1,none⟩=some (.int .i64 y)∧w'.cell? ⟨w.heap.size+1+1,2,none⟩=some (.int .i64 k)∧w'.cell? ⟨w2.heap.size,0,none⟩=some (.int .i64 (-y))∧w'.cell? ⟨w2.heap.size,1,none⟩=some (.int .i64 x)) (by kernel_rfl) ?_ (fun hHeld=> ?_)
   · (try dsimp only)
     (first|(go_simp;done)|(go_keep;done))
   refine tq 0 hHeld ?_
   refine tq 1 hHeld ?_
   refine tq 2 hHeld ?_
   refine tq 3 hHeld ?_
   refine tq 4 hHeld ?_
   refine tq 5 hHeld ?_
   refine tq 6 hHeld ?_
   refine tq 7 hHeld ?_
   refine tq 8 hHeld ?_
   refine tq 9 hHeld ?_
   refine tq 10 hHeld ?_
   refine tq 12 hHeld ?_
   refine tq 13 hHeld ?_
   refine tq 14 hHeld ?_
   refine tq 15 hHeld ?_
   refine tq 16 hHeld ?_
   refine tq 17 hHeld ?_
   refine tq 18 hHeld ?_
   refine tq 19 hHeld ?_
   refine tq 20 hHeld ?_
   refine tq 21 hHeld ?_
   refine tq 22 hHeld ?_
   (refine tc 11 fun K hK=> ?_;go_simp;(go_at_call 68;refine(l6Within_any _ _ _ (by omega) (by omega)).mono ?_;rintro e w' ⟨rfl,rfl⟩);(try go_wp2_with fail);refine tr hK (fun hHeld=> ?_);clear hK K)
   (refine tc 23 fun K hK=> ?_;go_simp;(go_at_call 68;refine(l6Within_any _ _ _ (by omega) (by omega)).mono ?_;rintro e w' ⟨rfl,rfl⟩);(try go_wp2_with fail);refine tr hK (fun hHeld=> ?_);clear hK K)
   refine tq 24 hHeld ?_
   (refine tc 25 fun K hK=> ?_;go_simp;refine tr hK (fun hHeld=> ?_);clear hK K)
   refine wpAnyH_done (by kernel_rfl) ?_ _
   go_wp2_with fail
   exact bodyPost_ret (v:=vv (clampZ 20000000 ((P*x+A*(-y)).tdiv 256)) (clampZ 20000000 ((P*y+A*x).tdiv 256))) (by simp[results,Tryz.results107,go_sem, *]) rfl ⟨rfl,bel_a⟩
end Go.Proofs.YthajilkjfkppoaaGreatDoor
