/- Texts of a proof. -/
import Derived.Test.YthajilkjfkppoaaGreatDoorB6
import Derived.Test.YthajilkjfkppoaaGreatDoorSPdk
import Derived.Deep.RegionHeld3
import Derived.Deep.DeepCutAuto
import Derived.Test.YthajilkjfkppoaaGreatDoorB15
import Derived.Test.YthajilkjfkppoaaGreatDoorB22
import Derived.Test.YthajilkjfkppoaaGreatDoorB9
import Derived.Test.YthajilkjfkppoaaGreatDoorB11
set_option maxHeartbeats 16000000
set_option maxRecDepth 20000
namespace Go.Proofs.YthajilkjfkppoaaGreatDoor
open Go.RowKit
set_option linter.unusedVariables false
set_option linter.unusedSimpArgs false
theorem td256q {x B:Int} (h: -(B*256)≤x∧x≤B*256): -B≤x.tdiv 256∧x.tdiv 256≤B:=by
 have e:=Int.mul_tdiv_add_tmod x 256
 have a:=Int.tmod_lt_of_pos x (show (0:Int)<256 by decide)
 have b: -256<x.tmod 256:=Int.lt_tmod_of_pos x (by decide)
 omega
theorem td256p {x:Int} (h:0≤x):0≤x.tdiv 256:=Int.tdiv_nonneg h (by decide)
theorem dot_bd {u v x y:Int} (hu: -40000000≤u∧u≤40000000) (hv: -40000000≤v∧v≤40000000) (bx: -256≤x∧x≤256) (bY: -256≤y∧y≤256): -80000000≤fc ((u*x+v*y).tdiv 256)∧fc ((u*x+v*y).tdiv 256)≤80000000:=by
 have p:=mul_bd (a:=u) (b:=x) (A:=40000000) (B:=256) hu bx
 have q:=mul_bd (a:=v) (b:=y) (A:=40000000) (B:=256) hv bY
 have t:=td256q (x:=u*x+v*y) (B:=80000000) (by omega)
 rw[fc_id (by omega) (by omega)];exact t
def mxB (V1 V2:Nat→Int):Int:=if V1 9<V2 9 then V2 9 else V1 9
def mnR (V1 V2:Nat→Int):Int:=if V2 10<V1 10 then V2 10 else V1 10
def pN (V1 V2:Nat→Int) (x y:Int) (bo:Bool):Int:=bif bo then closeV V1 V2 x y+(closeV V1 V2 x y*mxB V1 V2).tdiv 256 else closeV V1 V2 x y
def pP (V1 V2:Nat→Int) (x y:Int) (bo:Bool):Int:=togV V1 V2 (pN V1 V2 x y bo)
def pD (V1 V2:Nat→Int) (x y:Int):Int:=fc (((spX V1-spX V2)*(-y)+(spY V1-spY V2)*x).tdiv 256)
def pM (V1 V2:Nat→Int) (x y:Int) (bo:Bool):Int:=(pP V1 V2 x y bo*mnR V1 V2).tdiv 256
def pA (V1 V2:Nat→Int) (x y:Int) (bo:Bool):Int:=clampZ (pM V1 V2 x y bo) (togV V1 V2 (pD V1 V2 x y))
def puX (V1 V2:Nat→Int) (x y:Int) (bo:Bool):Int:=if closeV V1 V2 x y≤0 then 0 else clampZ 20000000 ((pP V1 V2 x y bo*x+pA V1 V2 x y bo*(-y)).tdiv 256)
def puY (V1 V2:Nat→Int) (x y:Int) (bo:Bool):Int:=if closeV V1 V2 x y≤0 then 0 else clampZ 20000000 ((pP V1 V2 x y bo*y+pA V1 V2 x y bo*x).tdiv 256)
theorem togV_nn (V1 V2:Nat→Int) (n:Int) (a0:0≤V1 8) (a1:0≤V2 8) (h:0≤n):0≤togV V1 V2 n:=by
 unfold togV;split
 · exact Int.mul_nonneg h (by omega)
 · exact Int.tdiv_nonneg (Int.mul_nonneg (Int.mul_nonneg h a0) a1) (by omega)
theorem close_fixed (V1 V2:Nat→Int) (x y:Int) (h1:V1 8=0) (h2:V2 8=0):closeV V1 V2 x y=0:=by
 unfold closeV spX spY;rw[if_pos h1,if_pos h1,if_pos h2,if_pos h2];simp[fc,clampZ]
theorem push_bd (V1 V2:Nat→Int) (x y:Int) (bo:Bool) (a0:0≤V1 8∧V1 8≤1000) (a1:0≤V2 8∧V2 8≤1000) (b6: -20000000≤V1 6∧V1 6≤20000000) (b7: -20000000≤V1 7∧V1 7≤20000000) (d6: -20000000≤V2 6∧V2 6≤20000000) (d7: -20000000≤V2 7∧V2 7≤20000000) (bx: -256≤x∧x≤256) (bY: -256≤y∧y≤256)
 (e9:0≤V1 9∧V1 9≤256) (f9:0≤V2 9∧V2 9≤256) (e10:0≤V1 10∧V1 10≤256) (f10:0≤V2 10∧V2 10≤256) (hc:0<closeV V1 V2 x y):
 closeV V1 V2 x y≤100000000∧(0≤mxB V1 V2∧mxB V1 V2≤256)∧(0≤mnR V1 V2∧mnR V1 V2≤256)∧(0<pN V1 V2 x y bo∧pN V1 V2 x y bo≤200000000)∧(0≤pP V1 V2 x y bo∧pP V1 V2 x y bo≤200000000000000)∧(-100000000≤pD V1 V2 x y∧pD V1 V2 x y≤100000000)∧(-100000000000000≤togV V1 V2 (pD V1 V2 x y)∧togV V1 V2 (pD V1 V2 x y)≤100000000000000)∧(0≤pM V1 V2 x y bo∧pM V1 V2 x y bo≤200000000000000)∧(-200000000000000≤pA V1 V2 x y bo∧pA V1 V2 x y bo≤200000000000000):=by
 have sx1:=spX_bd V1 b6
 have sy1:=spY_bd V1 b7
 have sx2:=spX_bd V2 d6
 have sy2:=spY_bd V2 d7
 have hcb: -80000000≤closeV V1 V2 x y∧closeV V1 V2 x y≤80000000:=dot_bd (by omega) (by omega) bx bY
 have hD: -80000000≤pD V1 V2 x y∧pD V1 V2 x y≤80000000:=dot_bd (by omega) (by omega) (by omega) bx
 have hB:0≤mxB V1 V2∧mxB V1 V2≤256:=by unfold mxB;split<;>omega
 have hR:0≤mnR V1 V2∧mnR V1 V2≤256:=by unfold mnR;split<;>omega
 have hN:0<pN V1 V2 x y bo∧pN V1 V2 x y bo≤160000000:=by
  have q:=mul_bd (a:=closeV V1 V2 x y) (b:=mxB V1 V2) (A:=80000000) (B:=256) (by omega) (by omega)
  have q1:=td256q (x:=closeV V1 V2 x y*mxB V1 V2) (B:=80000000) (by omega)
  have q2:=td256p (x:=closeV V1 V2 x y*mxB V1 V2) (Int.mul_nonneg (by omega) hB.1)
  unfold pN;cases bo
  · simp only[cond_false];omega
  · simp only[cond_true];omega
 have hP:0≤pP V1 V2 x y bo∧pP V1 V2 x y bo≤160000000000000:=by
  have q:=togV_bd V1 V2 (pN V1 V2 x y bo) 160000000 a0 a1 (by omega) (by omega)
  have q2:=togV_nn V1 V2 (pN V1 V2 x y bo) a0.1 a1.1 (by omega)
  unfold pP;omega
 have hT:=togV_bd V1 V2 (pD V1 V2 x y) 80000000 a0 a1 hD (by omega)
 have hM:0≤pM V1 V2 x y bo∧pM V1 V2 x y bo≤160000000000000:=by
  have q:=mul_bd (a:=pP V1 V2 x y bo) (b:=mnR V1 V2) (A:=160000000000000) (B:=256) (by omega) (by omega)
  have q1:=td256q (x:=pP V1 V2 x y bo*mnR V1 V2) (B:=160000000000000) (by omega)
  have q2:=td256p (x:=pP V1 V2 x y bo*mnR V1 V2) (Int.mul_nonneg hP.1 hR.1)
  unfold pM;omega
 have hA:=clampZ_bd (l:=pM V1 V2 x y bo) (togV V1 V2 (pD V1 V2 x y)) hM.1
 have hA': -200000000000000≤pA V1 V2 x y bo∧pA V1 V2 x y bo≤200000000000000:=by unfold pA;omega
 exact⟨by omega,hB,hR,by omega,by omega,by omega,by omega,by omega,hA'⟩
theorem l8Push_z (V1 V2:Nat→Int) (x y k c:Int) (bo:Bool) (w:World) (b6: -20000000≤V1 6∧V1 6≤20000000) (b7: -20000000≤V1 7∧V1 7≤20000000) (d6: -20000000≤V2 6∧V2 6≤20000000) (d7: -20000000≤V2 7∧V2 7≤20000000) (bx: -256≤x∧x≤256) (bY: -256≤y∧y≤256) (ec:closeV V1 V2 x y=c) (hc:c≤0):
 Calls Tryz.prog 107 #[bodyW V1,bodyW V2,s3 x y k,.bool bo] w fun e w'=>e= .returned (vv 0 0)∧Below w.heap.size w w':=by
 have hset:=cset_map
 go_enter Tryz.func107,Tryz.ntmps107
 go_wp2_with (go_at_call 133;refine(l8Closing_q V1 V2 x y k _ _ (by omega) (by omega) (by omega) (by omega) (by omega) (by omega) (by with_reducible assumption)).mono ?_;rintro e w1 ⟨rfl,hb1⟩;have hz1:=hb1.size;(try simp only[zz] at hz1);have:=kf4 hb1 w.heap.size)
 exact bodyPost_ret (v:=vv 0 0) (by simp[results,Tryz.results107,go_sem, *]) rfl ⟨rfl,bel_a⟩
theorem l8Push_any (V1 V2:Nat→Int) (x y k:Int) (bo:Bool) (w:World) (a0:0≤V1 8∧V1 8≤1000) (a1:0≤V2 8∧V2 8≤1000) (b6: -20000000≤V1 6∧V1 6≤20000000) (b7: -20000000≤V1 7∧V1 7≤20000000) (d6: -20000000≤V2 6∧V2 6≤20000000) (d7: -20000000≤V2 7∧V2 7≤20000000) (bx: -256≤x∧x≤256) (bY: -256≤y∧y≤256) (e9:0≤V1 9∧V1 9≤256) (f9:0≤V2 9∧V2 9≤256) (e10:0≤V1 10∧V1 10≤256) (f10:0≤V2 10∧V2 10≤256):
 Calls Tryz.prog 107 #[bodyW V1,bodyW V2,s3 x y k,.bool bo] w fun e w'=>e= .returned (vv (puX V1 V2 x y bo) (puY V1 V2 x y bo))∧Below w.heap.size w w':=by
 by_cases hc:closeV V1 V2 x y≤0
 · unfold puX puY;rw[if_pos hc,if_pos hc]
   exact l8Push_z V1 V2 x y k _ bo w b6 b7 d6 d7 bx bY rfl hc
 · unfold puX puY;rw[if_neg hc,if_neg hc]
   have hz:(V1 8=0∧V2 8=0)=False:=eq_false (fun ⟨u,v⟩=>hc (by rw[close_fixed V1 V2 x y u v];omega))
   obtain⟨q1,q2,q3,q4,q5,q6,q7,q8,q9⟩:=push_bd V1 V2 x y bo a0 a1 b6 b7 d6 d7 bx bY e9 f9 e10 f10 (by omega)
   exact l8Push_b V1 V2 x y k (mxB V1 V2) (mnR V1 V2) (closeV V1 V2 x y) (pN V1 V2 x y bo) (pP V1 V2 x y bo) (pD V1 V2 x y) (togV V1 V2 (pD V1 V2 x y)) (pM V1 V2 x y bo) (pA V1 V2 x y bo) bo w a0 a1 b6 b7 d6 d7 bx bY rfl rfl rfl rfl rfl rfl rfl rfl rfl ⟨by omega,q1⟩ q2 q3 q4 q5 q6 q7 q8 q9 hz
def poX (V1 V2:Nat→Int) (x y k:Int) (bo:Bool):Int:=if (bodyB V1&&(bodyB V2&&hitB x y k))=true then puX V1 V2 x y bo else 0
def poY (V1 V2:Nat→Int) (x y k:Int) (bo:Bool):Int:=if (bodyB V1&&(bodyB V2&&hitB x y k))=true then puY V1 V2 x y bo else 0
def fitsB (V W:Nat→Int) (p q:Int):Bool:=(decide (V 8=0)||inB 20000000 (V 6-p) (V 7-q))&&(decide (W 8=0)||inB 20000000 (W 6+p) (W 7+q))
theorem l8Fits_q (V W:Nat→Int) (p q:Int) (b:Bool) (w:World) (b6: -20000000≤V 6∧V 6≤20000000) (b7: -20000000≤V 7∧V 7≤20000000) (d6: -20000000≤W 6∧W 6≤20000000) (d7: -20000000≤W 7∧W 7≤20000000) (bp: -20000000≤p∧p≤20000000) (bq: -20000000≤q∧q≤20000000) (e:fitsB V W p q=b):
 Calls Tryz.prog 108 #[bodyW V,bodyW W,vv p q] w fun e w'=>e= .returned (.bool b)∧Below w.heap.size w w':=by
 have hset:=cset_map
 have w1:IntKind.i64.wrap (V 6-p)=V 6-p:=i64w (by omega)
 have w2:IntKind.i64.wrap (V 7-q)=V 7-q:=i64w (by omega)
 have w3:IntKind.i64.wrap (W 6+p)=W 6+p:=i64w (by omega)
 have w4:IntKind.i64.wrap (W 7+q)=W 7+q:=i64w (by omega)
 clear b6 b7 d6 d7 bp bq
 obtain⟨D1,hD1⟩:∃ b,inB 20000000 (V 6-p) (V 7-q)=b:=⟨_,rfl⟩
 obtain⟨D2,hD2⟩:∃ b,inB 20000000 (W 6+p) (W 7+q)=b:=⟨_,rfl⟩
 unfold fitsB at e
 rw[hD1,hD2] at e
 by_cases m0:V 8=0
 · have e1:(V 8==0)=true:=by simp[m0]
   by_cases m1:W 8=0
   · have e2:(W 8==0)=true:=by simp[m1]
     have hb:b=true:=by rw[←e];rw[decide_eq_true m0,decide_eq_true m1];rfl
     subst hb
     clear e
     have M0:Shut (V 8=0):=m0
     clear m0
     have M1:Shut (W 8=0):=m1
     clear m1
     go_enter Tryz.func108,Tryz.ntmps108
     go_wp2_with fail
     go_ret
     exact⟨rfl,bel_a⟩
   · have e2:(W 8==0)=false:=by simp[m1]
     have hb:b=D2:=by rw[←e];rw[decide_eq_true m0,decide_eq_false m1];rfl
     rw[hb]
     clear e hb
     have M0:Shut (V 8=0):=m0
     clear m0
     go_enter Tryz.func108,Tryz.ntmps108
     go_wp2_with (go_at_call 66;refine(l6Drive_q (W 6+p) (W 7+q) D2 _ hD2).mono ?_;rintro e w6 ⟨rfl,hb6⟩;have hz6:=hb6.size;(try simp only[zz] at hz6);have:=kf5 hb6 w.heap.size)
     go_ret
     exact⟨by first|rfl|simp,bel_a⟩
 · have e1:(V 8==0)=false:=by simp[m0]
   cases D1 with
   | false=>
     have hb:b=false:=by rw[←e];rw[decide_eq_false m0];rfl
     subst hb
     clear e
     go_enter Tryz.func108,Tryz.ntmps108
     go_wp2_with (go_at_call 66;refine(l6Drive_q (V 6-p) (V 7-q) false _ hD1).mono ?_;rintro e w5 ⟨rfl,hb5⟩;have hz5:=hb5.size;(try simp only[zz] at hz5);have:=kf5 hb5 w.heap.size)
     go_ret
     exact⟨rfl,bel_a⟩
   | true=>
     by_cases m1:W 8=0
     · have e2:(W 8==0)=true:=by simp[m1]
       have hb:b=true:=by rw[←e];rw[decide_eq_false m0,decide_eq_true m1];rfl
       subst hb
       clear e
       have M1:Shut (W 8=0):=m1
       clear m1
       go_enter Tryz.func108,Tryz.ntmps108
       go_wp2_with (go_at_call 66;refine(l6Drive_q (V 6-p) (V 7-q) true _ hD1).mono ?_;rintro e w5 ⟨rfl,hb5⟩;have hz5:=hb5.size;(try simp only[zz] at hz5);have:=kf5 hb5 w.heap.size)
       go_ret
       exact⟨rfl,bel_a⟩
     · have e2:(W 8==0)=false:=by simp[m1]
       have hb:b=D2:=by rw[←e];rw[decide_eq_false m0,decide_eq_false m1];rfl
       rw[hb]
       clear e hb
       go_enter Tryz.func108,Tryz.ntmps108
       go_wp2_with (first
        |(have _:=hb5;go_at_call 66;refine(l6Drive_q (W 6+p) (W 7+q) D2 _ hD2).mono ?_;rintro e w6 ⟨rfl,hb6⟩;have hz6:=hb6.size;(try simp only[zz] at hz6);have:=kf5 hb6 w.heap.size)
        |(go_at_call 66;refine(l6Drive_q (V 6-p) (V 7-q) true _ hD1).mono ?_;rintro e w5 ⟨rfl,hb5⟩;have hz5:=hb5.size;(try simp only[zz] at hz5);have:=kf5 hb5 w.heap.size))
       go_ret
       exact⟨by first|rfl|simp,bel_a⟩
def oneU (U:Nat→Int) (A B:Nat) (X Y:Int) (bo:Bool):Nat→Int:=
 bif (puX (fun j=>U (A*12+j)) (fun j=>U (B*12+j)) X Y bo==0&&puY (fun j=>U (A*12+j)) (fun j=>U (B*12+j)) X Y bo==0)|| !fitsB (fun j=>U (A*12+j)) (fun j=>U (B*12+j)) (puX (fun j=>U (A*12+j)) (fun j=>U (B*12+j)) X Y bo) (puY (fun j=>U (A*12+j)) (fun j=>U (B*12+j)) X Y bo) then U
 else putRow (putRow U A (pushV (fun j=>U (A*12+j)) (-puX (fun j=>U (A*12+j)) (fun j=>U (B*12+j)) X Y bo) (-puY (fun j=>U (A*12+j)) (fun j=>U (B*12+j)) X Y bo))) B (pushV (fun j=>U (B*12+j)) (puX (fun j=>U (A*12+j)) (fun j=>U (B*12+j)) X Y bo) (puY (fun j=>U (A*12+j)) (fun j=>U (B*12+j)) X Y bo))
theorem puX_bd (V1 V2:Nat→Int) (x y:Int) (bo:Bool): -20000000≤puX V1 V2 x y bo∧puX V1 V2 x y bo≤20000000:=by
 unfold puX
 split
 · omega
 · exact clampZ_bd _ (by omega)
theorem puY_bd (V1 V2:Nat→Int) (x y:Int) (bo:Bool): -20000000≤puY V1 V2 x y bo∧puY V1 V2 x y bo≤20000000:=by
 unfold puY
 split
 · omega
 · exact clampZ_bd _ (by omega)
structure O8 (w wc:World) (base g n c A B:Nat) (X Y D:Int) (U:Nat→Int):Prop where
 hC:Nb wc w.heap.size 5 (fun j=>[(A:Int),(B:Int),X,Y,D].getD j 0)
 own:OwnL wc base 35 12 (.slice (some ⟨g,0,none⟩) n c) n U
 fr:Fr (fun b=>b=g) w wc
theorem O8.on {w wc w':World} {base g n c A B:Nat} {X Y D:Int} {U:Nat→Int} (h:O8 w wc base g n c A B X Y D U) (hb:Below wc.heap.size wc w'):O8 w w' base g n c A B X Y D U:=
 ⟨h.hC.on hb,h.own.below hb,h.fr.trans (Fr.of_below hb)⟩
theorem O8.set {w wc w':World} {base g n c A B pb:Nat} {X Y D:Int} {U:Nat→Int} (h:O8 w wc base g n c A B X Y D U) (hs:Fr (fun b=>b=pb) wc w') (h1:w.heap.size<pb) (h2:g<pb):O8 w w' base g n c A B X Y D U:=
 ⟨h.hC.fr hs (by omega),h.own.frame hs (fun b e x=>by simp[Value.ownBlock] at e;omega),h.fr.trans' hs (fun i hi e=>by omega)⟩
theorem O8.put {w wc w':World} {base g n c A B:Nat} {X Y D:Int} {U U':Nat→Int} (h:O8 w wc base g n c A B X Y D U) (hs:Fr (fun b=>b=g) wc w') (h1:g<w.heap.size) (hq:OwnL w' base 35 12 (.slice (some ⟨g,0,none⟩) n c) n U'):O8 w w' base g n c A B X Y D U':=
 ⟨h.hC.fr hs (by omega),hq,h.fr.trans hs⟩
theorem O8.ks {w wc:World} {base g n c A B:Nat} {X Y D:Int} {U:Nat→Int} (h:O8 w wc base g n c A B X Y D U):
 wc.cell? ⟨w.heap.size,0,none⟩=some (.int .i64 (A:Int))∧wc.cell? ⟨w.heap.size,1,none⟩=some (.int .i64 (B:Int))∧wc.cell? ⟨w.heap.size,2,none⟩=some (.int .i64 X)∧wc.cell? ⟨w.heap.size,3,none⟩=some (.int .i64 Y)∧wc.cell? ⟨w.heap.size,4,none⟩=some (.int .i64 D):=
 ⟨h.hC.c 0 (by decide),h.hC.c 1 (by decide),h.hC.c 2 (by decide),h.hC.c 3 (by decide),h.hC.c 4 (by decide)⟩
theorem own12 {w:World} {base g n c A:Nat} {U V:Nat→Int} (h:OwnL w base 35 12 (.slice (some ⟨g,0,none⟩) n c) n U) (i:∀ j,j<12→A*12+j<n*12) (hV:∀ j,j<12→U (A*12+j)=V j):
 w.cell? ⟨g,A*12,none⟩=some (.int .i64 (V 0))∧w.cell? ⟨g,A*12+1,none⟩=some (.int .i64 (V 1))∧w.cell? ⟨g,A*12+2,none⟩=some (.int .i64 (V 2))∧w.cell? ⟨g,A*12+3,none⟩=some (.int .i64 (V 3))∧w.cell? ⟨g,A*12+4,none⟩=some (.int .i64 (V 4))∧w.cell? ⟨g,A*12+5,none⟩=some (.int .i64 (V 5))∧w.cell? ⟨g,A*12+6,none⟩=some (.int .i64 (V 6))∧w.cell? ⟨g,A*12+7,none⟩=some (.int .i64 (V 7))∧w.cell? ⟨g,A*12+8,none⟩=some (.int .i64 (V 8))∧w.cell? ⟨g,A*12+9,none⟩=some (.int .i64 (V 9))∧w.cell? ⟨g,A*12+10,none⟩=some (.int .i64 (V 10))∧w.cell? ⟨g,A*12+11,none⟩=some (.int .i64 (V 11)):=
 have q:∀ j,j<12→w.cell? ⟨g,A*12+j,none⟩=some (.int .i64 (V j)):=fun j hj=>(h.cellq (q:=A*12+j) (i j hj)).trans (congrArg (fun z=>some (Value.int .i64 z)) (hV j hj))
 ⟨q 0 (by decide),q 1 (by decide),q 2 (by decide),q 3 (by decide),q 4 (by decide),q 5 (by decide),q 6 (by decide),q 7 (by decide),q 8 (by decide),q 9 (by decide),q 10 (by decide),q 11 (by decide)⟩
theorem l8One_any (base g n c:Nat) (U:Nat→Int) (A B:Nat) (X Y D:Int) (bo:Bool) (w:World) (ho0:OwnL w base 35 12 (.slice (some ⟨g,0,none⟩) n c) n U) (hn:n≤1048576) (hA:A<n) (hB:B<n) (hAB:A≠B) (hbb:Bods n U) (hX: -256≤X∧X≤256) (hY: -256≤Y∧Y≤256):
 Calls Tryz.prog 81 #[.slice (some ⟨g,0,none⟩) n c,.agg #[.int .i64 (A:Int),.int .i64 (B:Int),.int .i64 X,.int .i64 Y,.int .i64 D],.bool bo] w fun e w'=>e= .returned (.tuple #[])∧OwnL w' base 35 12 (.slice (some ⟨g,0,none⟩) n c) n (oneU U A B X Y bo)∧Fr (fun b=>b=g) w w':=by
 have hset:=cset_map
 have hgl:g<w.heap.size:=(ho0.lt g rfl).2
 have hAi:(A:Int)<(n:Int):=by omega
 have hBi:(B:Int)<(n:Int):=by omega
 have iA:∀ j,j<12→A*12+j<n*12:=fun j hj=>by omega
 have iB:∀ j,j<12→B*12+j<n*12:=fun j hj=>by omega
 obtain⟨mA,_,_,_,b6A,b7A,b9A,b10A,_⟩:=bodyB_bd (hbb.ok A hA)
 have mA:0≤(fun j=>U (A*12+j)) 8∧(fun j=>U (A*12+j)) 8≤1000:=mA
 have b6A: -20000000≤(fun j=>U (A*12+j)) 6∧(fun j=>U (A*12+j)) 6≤20000000:=b6A
 have b7A: -20000000≤(fun j=>U (A*12+j)) 7∧(fun j=>U (A*12+j)) 7≤20000000:=b7A
 have b9A:0≤(fun j=>U (A*12+j)) 9∧(fun j=>U (A*12+j)) 9≤256:=b9A
 have b10A:0≤(fun j=>U (A*12+j)) 10∧(fun j=>U (A*12+j)) 10≤256:=b10A
 have hVA:∀ j,U (A*12+j)=(fun j=>U (A*12+j)) j:=fun j=>rfl
 obtain⟨mB,_,_,_,b6B,b7B,b9B,b10B,_⟩:=bodyB_bd (hbb.ok B hB)
 have mB:0≤(fun j=>U (B*12+j)) 8∧(fun j=>U (B*12+j)) 8≤1000:=mB
 have b6B: -20000000≤(fun j=>U (B*12+j)) 6∧(fun j=>U (B*12+j)) 6≤20000000:=b6B
 have b7B: -20000000≤(fun j=>U (B*12+j)) 7∧(fun j=>U (B*12+j)) 7≤20000000:=b7B
 have b9B:0≤(fun j=>U (B*12+j)) 9∧(fun j=>U (B*12+j)) 9≤256:=b9B
 have b10B:0≤(fun j=>U (B*12+j)) 10∧(fun j=>U (B*12+j)) 10≤256:=b10B
 have hVB:∀ j,U (B*12+j)=(fun j=>U (B*12+j)) j:=fun j=>rfl
 have hE:Below w.heap.size w (w.alloc (Obj.cells #[.int .i64 (A:Int),.int .i64 (B:Int),.int .i64 X,.int .i64 Y,.int .i64 D] 40)):=(Below.refl _ _).alloc (Nat.le_refl _) _
 obtain⟨R,hR⟩:∃ R,oneU U A B X Y bo=R:=⟨_,rfl⟩
 rw[hR]
 unfold oneU at hR
 have bp:=puX_bd (fun j=>U (A*12+j)) (fun j=>U (B*12+j)) X Y bo
 have bq:=puY_bd (fun j=>U (A*12+j)) (fun j=>U (B*12+j)) X Y bo
 obtain⟨p,hp⟩:∃ p,puX (fun j=>U (A*12+j)) (fun j=>U (B*12+j)) X Y bo=p:=⟨_,rfl⟩
 obtain⟨q,hq⟩:∃ q,puY (fun j=>U (A*12+j)) (fun j=>U (B*12+j)) X Y bo=q:=⟨_,rfl⟩
 rw[hp] at bp hR
 rw[hq] at bq hR
 generalize (fun j=>U (A*12+j))=VA at hR hVA mA b6A b7A b9A b10A hp hq
 generalize (fun j=>U (B*12+j))=VB at hR hVB mB b6B b7B b9B b10B hp hq
 have hbpn: -20000000≤ -p∧ -p≤20000000:=by omega
 have hbqn: -20000000≤ -q∧ -q≤20000000:=by omega
 have wp1:IntKind.i64.wrap (-p)= -p:=i64w (by omega)
 have wq1:IntKind.i64.wrap (-q)= -q:=i64w (by omega)
 obtain⟨EZ,hEZ⟩:∃ b,(p==0&&q==0)=b:=⟨_,rfl⟩
 rw[hEZ] at hR
 go_enter Tryz.func81,Tryz.ntmps81
 go_upto_region 1 with fail
 have hO:O8 w (w.alloc (Obj.cells #[.int .i64 (A:Int),.int .i64 (B:Int),.int .i64 X,.int .i64 Y,.int .i64 D] 40)) base g n c A B X Y D U:=⟨⟨fun j hj=>by rcases(show j=0∨j=1∨j=2∨j=3∨j=4 by omega) with rfl|rfl|rfl|rfl|rfl<;>go_simp,fun o=>by go_simp,by simp⟩,ho0.below hE,Fr.of_below hE⟩
 generalize (w.alloc (Obj.cells #[.int .i64 (A:Int),.int .i64 (B:Int),.int .i64 X,.int .i64 Y,.int .i64 D] 40))=w0 at hO ⊢
 clear hE
 obtain⟨k0,k1,k2,k3,k4⟩:=hO.ks
 obtain⟨a0,a1,a2,a3,a4,a5,a6,a7,a8,a9,a10,a11⟩:=own12 hO.own iA (fun j _=>hVA j)
 obtain⟨b0,b1,b2,b3,b4,b5,b6,b7,b8,b9,b10,b11⟩:=own12 hO.own iB (fun j _=>hVB j)
 go_cut [6] (fun s6 wc=>∃ pb,s6= .pointer (some ⟨pb,0,none⟩)∧O8 w wc base g n c A B X Y D U∧Nb wc pb 2 (fun j=>[p,q].getD j 0)∧w.heap.size<pb∧g<pb)
 case first=>
  refine wp_region_held_drew (S:=fun w'=>w'.cell? ⟨w.heap.size,0,none⟩=some (.int .i64 (A:Int))∧w'.cell? ⟨w.heap.size,1,none⟩=some (.int .i64 (B:Int))∧w'.cell? ⟨w.heap.size,2,none⟩=some (.int .i64 X)∧w'.cell? ⟨w.heap.size,3,none⟩=some (.int .i64 Y)∧w'.cell? ⟨w.heap.size,4,none⟩=some (.int .i64 D)∧w'.cell? ⟨g,A*12,none⟩=some (.int .i64 (VA 0))∧w'.cell? ⟨g,A*12+1,none⟩=some (.int .i64 (VA 1))∧w'.cell? ⟨g,A*12+2,none⟩=some (.int .i64 (VA 2))∧w'.cell? ⟨g,A*12+3,none⟩=some (.int .i64 (VA 3))∧w'.cell? ⟨g,A*12+4,none⟩=some (.int .i64 (VA 4))∧w'.cell? ⟨g,A*12+5,none⟩=some (.int .i64 (VA 5))∧w'.cell? ⟨g,A*12+6,none⟩=some (.int .i64 (VA 6))∧w'.cell? ⟨g,A*12+7,none⟩=some (.int .i64 (VA 7))∧w'.cell? ⟨g,A*12+8,none⟩=some (.int .i64 (VA 8))∧w'.cell? ⟨g,A*12+9,none⟩=some (.int .i64 (VA 9))∧w'.cell? ⟨g,A*12+10,none⟩=some (.int .i64 (VA 10))∧w'.cell? ⟨g,A*12+11,none⟩=some (.int .i64 (VA 11))∧w'.cell? ⟨g,B*12,none⟩=some (.int .i64 (VB 0))∧w'.cell? ⟨g,B*12+1,none⟩=some (.int .i64 (VB 1))∧w'.cell? ⟨g,B*12+2,none⟩=some (.int .i64 (VB 2))∧w'.cell? ⟨g,B*12+3,none⟩=some (.int .i64 (VB 3))∧w'.cell? ⟨g,B*12+4,none⟩=some (.int .i64 (VB 4))∧w'.cell? ⟨g,B*12+5,none⟩=some (.int .i64 (VB 5))∧w'.cell? ⟨g,B*12+6,none⟩=some (.int .i64 (VB 6))∧w'.cell? ⟨g,B*12+7,none⟩=some (.int .i64 (VB 7))∧w'.cell? ⟨g,B*12+8,none⟩=some (.int .i64 (VB 8))∧w'.cell? ⟨g,B*12+9,none⟩=some (.int .i64 (VB 9))∧w'.cell? ⟨g,B*12+10,none⟩=some (.int .i64 (VB 10))∧w'.cell? ⟨g,B*12+11,none⟩=some (.int .i64 (VB 11))) (by kernel_rfl) ?_ (fun hHeld=> ?_)
  · (try dsimp only)
    (first|(go_simp;done)|(go_keep;done))
  refine tq 0 hHeld ?_
  refine tq 1 hHeld ?_
  refine tq 2 hHeld ?_
  refine tq 3 hHeld ?_
  refine tq 4 hHeld ?_
  refine tq 5 hHeld ?_
  refine tq 6 hHeld ?_
  refine tq 7 hHeld ?_
  refine tq 8 hHeld ?_
  refine tq 9 hHeld ?_
  refine tq 10 hHeld ?_
  refine tq 11 hHeld ?_
  refine tq 12 hHeld ?_
  refine wpAnyH_ready (rs:=[13,14]) (by kernel_rfl) (by simp) ?_
  refine AllReadyH.cons rfl (fun K hK=> ?_) (AllReadyH.cons rfl (fun K hK=> ?_) AllReadyH.nil)
  · (go_simp
     (go_at_call 107;refine(l8Push_any VA VB X Y D bo _ mA mB b6A b7A b6B b7B hX hY b9A b9B b10A b10B).mono ?_;rintro e w5 ⟨rfl,hb5⟩;(try rw[hp,hq]))
     have hb5:=hb5.ofDr
     have hO2:=hO.on hb5
     clear k0 k1 k2 k3 k4 a0 a1 a2 a3 a4 a5 a6 a7 a8 a9 a10 a11 b0 b1 b2 b3 b4 b5 b6 b7 b8 b9 b10 b11
     clear hO
     have hO:=hO2
     clear hO2
     obtain⟨k0,k1,k2,k3,k4⟩:=hO.ks
     obtain⟨a0,a1,a2,a3,a4,a5,a6,a7,a8,a9,a10,a11⟩:=own12 hO.own iA (fun j _=>hVA j)
     obtain⟨b0,b1,b2,b3,b4,b5,b6,b7,b8,b9,b10,b11⟩:=own12 hO.own iB (fun j _=>hVB j)
     (try go_wp2_with fail)
     refine tr hK (fun hHeld=> ?_)
     clear hK K)
    refine tc 14 fun K hK=> ?_
    (go_simp
     have hE:Below w5.heap.size w5 (w5.alloc (Obj.cells #[.int .i64 0,.int .i64 0] 33)):=(Below.refl _ _).alloc (Nat.le_refl _) _
     have hO2:=hO.on hE
     have hV:Nb (w5.alloc (Obj.cells #[.int .i64 0,.int .i64 0] 33)) w5.heap.size 2 (fun _=>0):=⟨fun j hj=>by rcases(show j=0∨j=1 by omega) with rfl|rfl<;>go_simp,fun o=>by go_simp,by simp⟩
     have hp1:w.heap.size<w5.heap.size:=hO.hC.l
     have hp2:g<w5.heap.size:=Nat.lt_of_lt_of_le hgl (Nat.le_of_lt hp1)
     clear hE
     clear k0 k1 k2 k3 k4 a0 a1 a2 a3 a4 a5 a6 a7 a8 a9 a10 a11 b0 b1 b2 b3 b4 b5 b6 b7 b8 b9 b10 b11
     clear hO
     have hO:=hO2
     clear hO2
     generalize (w5.alloc (Obj.cells #[.int .i64 0,.int .i64 0] 33))=w6 at hO hV ⊢
     generalize w5.heap.size=pb at hV hp1 hp2 ⊢
     obtain⟨k0,k1,k2,k3,k4⟩:=hO.ks
     obtain⟨a0,a1,a2,a3,a4,a5,a6,a7,a8,a9,a10,a11⟩:=own12 hO.own iA (fun j _=>hVA j)
     obtain⟨b0,b1,b2,b3,b4,b5,b6,b7,b8,b9,b10,b11⟩:=own12 hO.own iB (fun j _=>hVB j)
     (have v0:w6.cell? ⟨pb,0,none⟩=some (.int .i64 0):=hV.c 0 (by decide))
     (have v1:w6.cell? ⟨pb,1,none⟩=some (.int .i64 0):=hV.c 1 (by decide))
     have vf:=hV.f
     refine tr hK (fun hHeld=> ?_)
     clear hK K)
    refine tc 15 fun K hK=> ?_
    (go_simp
     have hs:Fr (fun b=>b=pb) w6 ((w6.setCell ⟨pb,0,none⟩ (.int .i64 p)).setCell ⟨pb,1,none⟩ (.int .i64 q)):=(Fr.setCell (X:=fun b=>b=pb) rfl _).trans (Fr.setCell (X:=fun b=>b=pb) rfl _)
     have hV2:Nb ((w6.setCell ⟨pb,0,none⟩ (.int .i64 p)).setCell ⟨pb,1,none⟩ (.int .i64 q)) pb 2 (fun j=>[p,q].getD j 0):=((hV.set 0 (by decide) p).set 1 (by decide) q).congr (fun j hj=>by rcases(show j=0∨j=1 by omega) with rfl|rfl<;>rfl)
     have hO2:=hO.set hs hp1 hp2
     clear k0 k1 k2 k3 k4 a0 a1 a2 a3 a4 a5 a6 a7 a8 a9 a10 a11 b0 b1 b2 b3 b4 b5 b6 b7 b8 b9 b10 b11
     clear hs hV v0 v1 vf
     have hV:=hV2
     clear hV2
     clear hO
     have hO:=hO2
     clear hO2
     generalize ((w6.setCell ⟨pb,0,none⟩ (.int .i64 p)).setCell ⟨pb,1,none⟩ (.int .i64 q))=w7 at hO hV ⊢
     obtain⟨k0,k1,k2,k3,k4⟩:=hO.ks
     obtain⟨a0,a1,a2,a3,a4,a5,a6,a7,a8,a9,a10,a11⟩:=own12 hO.own iA (fun j _=>hVA j)
     obtain⟨b0,b1,b2,b3,b4,b5,b6,b7,b8,b9,b10,b11⟩:=own12 hO.own iB (fun j _=>hVB j)
     refine tr hK (fun hHeld=> ?_)
     clear hK K)
    refine wpAnyH_done (by kernel_rfl) ?_ _
    go_wp2_with fail
    go_meet
    exact⟨pb,rfl,hO,hV,hp1,hp2⟩
  · (go_simp
     have hE:Below w0.heap.size w0 (w0.alloc (Obj.cells #[.int .i64 0,.int .i64 0] 33)).drew:=Below.drew ((Below.refl _ _).alloc (Nat.le_refl _) _)
     have hO2:=hO.on hE
     have hV:Nb (w0.alloc (Obj.cells #[.int .i64 0,.int .i64 0] 33)).drew w0.heap.size 2 (fun _=>0):=⟨fun j hj=>by rcases(show j=0∨j=1 by omega) with rfl|rfl<;>go_simp,fun o=>by go_simp,by simp⟩
     have hp1:w.heap.size<w0.heap.size:=hO.hC.l
     have hp2:g<w0.heap.size:=Nat.lt_of_lt_of_le hgl (Nat.le_of_lt hp1)
     clear hE
     clear k0 k1 k2 k3 k4 a0 a1 a2 a3 a4 a5 a6 a7 a8 a9 a10 a11 b0 b1 b2 b3 b4 b5 b6 b7 b8 b9 b10 b11
     clear hO
     have hO:=hO2
     clear hO2
     generalize (w0.alloc (Obj.cells #[.int .i64 0,.int .i64 0] 33)).drew=w6 at hO hV ⊢
     generalize w0.heap.size=pb at hV hp1 hp2 ⊢
     obtain⟨k0,k1,k2,k3,k4⟩:=hO.ks
     obtain⟨a0,a1,a2,a3,a4,a5,a6,a7,a8,a9,a10,a11⟩:=own12 hO.own iA (fun j _=>hVA j)
     obtain⟨b0,b1,b2,b3,b4,b5,b6,b7,b8,b9,b10,b11⟩:=own12 hO.own iB (fun j _=>hVB j)
     (have v0:w6.cell? ⟨pb,0,none⟩=some (.int .i64 0):=hV.c 0 (by decide))
     (have v1:w6.cell? ⟨pb,1,none⟩=some (.int .i64 0):=hV.c 1 (by decide))
     have vf:=hV.f
     refine tr hK (fun hHeld=> ?_)
     clear hK K)
    refine tc 13 fun K hK=> ?_
    (go_simp
     (go_at_call 107;refine(l8Push_any VA VB X Y D bo _ mA mB b6A b7A b6B b7B hX hY b9A b9B b10A b10B).mono ?_;rintro e w5 ⟨rfl,hb5⟩;(try rw[hp,hq]))
     have hO2:=hO.on hb5
     have hV2:=hV.on hb5
     clear hV v0 v1 vf
     have hV:=hV2
     clear hV2
     clear k0 k1 k2 k3 k4 a0 a1 a2 a3 a4 a5 a6 a7 a8 a9 a10 a11 b0 b1 b2 b3 b4 b5 b6 b7 b8 b9 b10 b11
     clear hO
     have hO:=hO2
     clear hO2
     obtain⟨k0,k1,k2,k3,k4⟩:=hO.ks
     obtain⟨a0,a1,a2,a3,a4,a5,a6,a7,a8,a9,a10,a11⟩:=own12 hO.own iA (fun j _=>hVA j)
     obtain⟨b0,b1,b2,b3,b4,b5,b6,b7,b8,b9,b10,b11⟩:=own12 hO.own iB (fun j _=>hVB j)
     (have v0:w5.cell? ⟨pb,0,none⟩=some (.int .i64 0):=hV.c 0 (by decide))
     (have v1:w5.cell? ⟨pb,1,none⟩=some (.int .i64 0):=hV.c 1 (by decide))
     have vf:=hV.f
     (try go_wp2_with fail)
     refine tr hK (fun hHeld=> ?_)
     clear hK K)
    refine tc 15 fun K hK=> ?_
    (go_simp
     have hs:Fr (fun b=>b=pb) w5 ((w5.setCell ⟨pb,0,none⟩ (.int .i64 p)).setCell ⟨pb,1,none⟩ (.int .i64 q)):=(Fr.setCell (X:=fun b=>b=pb) rfl _).trans (Fr.setCell (X:=fun b=>b=pb) rfl _)
     have hV2:Nb ((w5.setCell ⟨pb,0,none⟩ (.int .i64 p)).setCell ⟨pb,1,none⟩ (.int .i64 q)) pb 2 (fun j=>[p,q].getD j 0):=((hV.set 0 (by decide) p).set 1 (by decide) q).congr (fun j hj=>by rcases(show j=0∨j=1 by omega) with rfl|rfl<;>rfl)
     have hO2:=hO.set hs hp1 hp2
     clear k0 k1 k2 k3 k4 a0 a1 a2 a3 a4 a5 a6 a7 a8 a9 a10 a11 b0 b1 b2 b3 b4 b5 b6 b7 b8 b9 b10 b11
     clear hs hV v0 v1 vf
     have hV:=hV2
     clear hV2
     clear hO
     have hO:=hO2
     clear hO2
     generalize ((w5.setCell ⟨pb,0,none⟩ (.int .i64 p)).setCell ⟨pb,1,none⟩ (.int .i64 q))=w7 at hO hV ⊢
     obtain⟨k0,k1,k2,k3,k4⟩:=hO.ks
     obtain⟨a0,a1,a2,a3,a4,a5,a6,a7,a8,a9,a10,a11⟩:=own12 hO.own iA (fun j _=>hVA j)
     obtain⟨b0,b1,b2,b3,b4,b5,b6,b7,b8,b9,b10,b11⟩:=own12 hO.own iB (fun j _=>hVB j)
     refine tr hK (fun hHeld=> ?_)
     clear hK K)
    refine wpAnyH_done (by kernel_rfl) ?_ _
    go_wp2_with fail
    go_meet
    exact⟨pb,rfl,hO,hV,hp1,hp2⟩
 case rest=>
 clear k0 k1 k2 k3 k4 a0 a1 a2 a3 a4 a5 a6 a7 a8 a9 a10 a11 b0 b1 b2 b3 b4 b5 b6 b7 b8 b9 b10 b11
 clear hO
 obtain⟨pb,rfl,hO,hV,hp1,hp2⟩:=hcut
 obtain⟨k0,k1,k2,k3,k4⟩:=hO.ks
 obtain⟨a0,a1,a2,a3,a4,a5,a6,a7,a8,a9,a10,a11⟩:=own12 hO.own iA (fun j _=>hVA j)
 obtain⟨b0,b1,b2,b3,b4,b5,b6,b7,b8,b9,b10,b11⟩:=own12 hO.own iB (fun j _=>hVB j)
 (have v0:wc.cell? ⟨pb,0,none⟩=some (.int .i64 p):=hV.c 0 (by decide))
 (have v1:wc.cell? ⟨pb,1,none⟩=some (.int .i64 q):=hV.c 1 (by decide))
 have vf:=hV.f
 have hev:∀ w,(Op.equalIn 10000 33 (.agg #[.int .i64 p,.int .i64 q]) (.agg #[.int .i64 0,.int .i64 0])).run Tryz.prog w= .ok EZ w:=fun w=>by rw[eq_vec0,hEZ]
 clear hEZ
 cases EZ with
 | true=>
   simp only[Bool.true_or,cond_true] at hR
   subst hR
   go_upto_region 2 with fail
   refine wp_region_held_drew (S:=fun w'=>w'.cell? ⟨w.heap.size,0,none⟩=some (.int .i64 (A:Int))∧w'.cell? ⟨w.heap.size,1,none⟩=some (.int .i64 (B:Int))∧w'.cell? ⟨w.heap.size,2,none⟩=some (.int .i64 X)∧w'.cell? ⟨w.heap.size,3,none⟩=some (.int .i64 Y)∧w'.cell? ⟨w.heap.size,4,none⟩=some (.int .i64 D)∧w'.cell? ⟨g,A*12,none⟩=some (.int .i64 (VA 0))∧w'.cell? ⟨g,A*12+1,none⟩=some (.int .i64 (VA 1))∧w'.cell? ⟨g,A*12+2,none⟩=some (.int .i64 (VA 2))∧w'.cell? ⟨g,A*12+3,none⟩=some (.int .i64 (VA 3))∧w'.cell? ⟨g,A*12+4,none⟩=some (.int .i64 (VA 4))∧w'.cell? ⟨g,A*12+5,none⟩=some (.int .i64 (VA 5))∧w'.cell? ⟨g,A*12+6,none⟩=some (.int .i64 (VA 6))∧w'.cell? ⟨g,A*12+7,none⟩=some (.int .i64 (VA 7))∧w'.cell? ⟨g,A*12+8,none⟩=some (.int .i64 (VA 8))∧w'.cell? ⟨g,A*12+9,none⟩=some (.int .i64 (VA 9))∧w'.cell? ⟨g,A*12+10,none⟩=some (.int .i64 (VA 10))∧w'.cell? ⟨g,A*12+11,none⟩=some (.int .i64 (VA 11))∧w'.cell? ⟨g,B*12,none⟩=some (.int .i64 (VB 0))∧w'.cell? ⟨g,B*12+1,none⟩=some (.int .i64 (VB 1))∧w'.cell? ⟨g,B*12+2,none⟩=some (.int .i64 (VB 2))∧w'.cell? ⟨g,B*12+3,none⟩=some (.int .i64 (VB 3))∧w'.cell? ⟨g,B*12+4,none⟩=some (.int .i64 (VB 4))∧w'.cell? ⟨g,B*12+5,none⟩=some (.int .i64 (VB 5))∧w'.cell? ⟨g,B*12+6,none⟩=some (.int .i64 (VB 6))∧w'.cell? ⟨g,B*12+7,none⟩=some (.int .i64 (VB 7))∧w'.cell? ⟨g,B*12+8,none⟩=some (.int .i64 (VB 8))∧w'.cell? ⟨g,B*12+9,none⟩=some (.int .i64 (VB 9))∧w'.cell? ⟨g,B*12+10,none⟩=some (.int .i64 (VB 10))∧w'.cell? ⟨g,B*12+11,none⟩=some (.int .i64 (VB 11))∧w'.cell? ⟨pb,0,none⟩=some (.int .i64 p)∧w'.cell? ⟨pb,1,none⟩=some (.int .i64 q)) (by kernel_rfl) ?_ (fun hHeld=> ?_)
   · (try dsimp only)
     (first|(go_simp;done)|(go_keep;done))
   refine tq 0 hHeld ?_
   refine tq 1 hHeld ?_
   refine tq 2 hHeld ?_
   refine tq 3 hHeld ?_
   refine tn 4 hHeld ?_
   refine tn 5 hHeld ?_
   refine tn 6 hHeld ?_
   refine tn 7 hHeld ?_
   refine tn 8 hHeld ?_
   refine tn 9 hHeld ?_
   refine tn 10 hHeld ?_
   refine tn 11 hHeld ?_
   refine tn 12 hHeld ?_
   refine tn 13 hHeld ?_
   refine tn 14 hHeld ?_
   refine tn 15 hHeld ?_
   refine tn 16 hHeld ?_
   refine tq 17 hHeld ?_
   refine wpAnyH_done (by kernel_rfl) ?_ _
   go_wp2_with fail
   refine bodyPost_ret (results_none rfl _ _ _) rfl ?_
   exact⟨rfl,hO.own.drewO,hO.fr.drew⟩
 | false=>
   obtain⟨fb,hfb⟩:∃ b,fitsB VA VB p q=b:=⟨_,rfl⟩
   rw[hfb] at hR
   go_upto_region 2 with fail
   go_cut [38] (fun s38 wc=>s38= .bool (!fb)∧O8 w wc base g n c A B X Y D U∧Nb wc pb 2 (fun j=>[p,q].getD j 0))
   case first=>
    refine wp_region_held_drew (S:=fun w'=>w'.cell? ⟨w.heap.size,0,none⟩=some (.int .i64 (A:Int))∧w'.cell? ⟨w.heap.size,1,none⟩=some (.int .i64 (B:Int))∧w'.cell? ⟨w.heap.size,2,none⟩=some (.int .i64 X)∧w'.cell? ⟨w.heap.size,3,none⟩=some (.int .i64 Y)∧w'.cell? ⟨w.heap.size,4,none⟩=some (.int .i64 D)∧w'.cell? ⟨g,A*12,none⟩=some (.int .i64 (VA 0))∧w'.cell? ⟨g,A*12+1,none⟩=some (.int .i64 (VA 1))∧w'.cell? ⟨g,A*12+2,none⟩=some (.int .i64 (VA 2))∧w'.cell? ⟨g,A*12+3,none⟩=some (.int .i64 (VA 3))∧w'.cell? ⟨g,A*12+4,none⟩=some (.int .i64 (VA 4))∧w'.cell? ⟨g,A*12+5,none⟩=some (.int .i64 (VA 5))∧w'.cell? ⟨g,A*12+6,none⟩=some (.int .i64 (VA 6))∧w'.cell? ⟨g,A*12+7,none⟩=some (.int .i64 (VA 7))∧w'.cell? ⟨g,A*12+8,none⟩=some (.int .i64 (VA 8))∧w'.cell? ⟨g,A*12+9,none⟩=some (.int .i64 (VA 9))∧w'.cell? ⟨g,A*12+10,none⟩=some (.int .i64 (VA 10))∧w'.cell? ⟨g,A*12+11,none⟩=some (.int .i64 (VA 11))∧w'.cell? ⟨g,B*12,none⟩=some (.int .i64 (VB 0))∧w'.cell? ⟨g,B*12+1,none⟩=some (.int .i64 (VB 1))∧w'.cell? ⟨g,B*12+2,none⟩=some (.int .i64 (VB 2))∧w'.cell? ⟨g,B*12+3,none⟩=some (.int .i64 (VB 3))∧w'.cell? ⟨g,B*12+4,none⟩=some (.int .i64 (VB 4))∧w'.cell? ⟨g,B*12+5,none⟩=some (.int .i64 (VB 5))∧w'.cell? ⟨g,B*12+6,none⟩=some (.int .i64 (VB 6))∧w'.cell? ⟨g,B*12+7,none⟩=some (.int .i64 (VB 7))∧w'.cell? ⟨g,B*12+8,none⟩=some (.int .i64 (VB 8))∧w'.cell? ⟨g,B*12+9,none⟩=some (.int .i64 (VB 9))∧w'.cell? ⟨g,B*12+10,none⟩=some (.int .i64 (VB 10))∧w'.cell? ⟨g,B*12+11,none⟩=some (.int .i64 (VB 11))∧w'.cell? ⟨pb,0,none⟩=some (.int .i64 p)∧w'.cell? ⟨pb,1,none⟩=some (.int .i64 q)) (by kernel_rfl) ?_ (fun hHeld=> ?_)
    · (try dsimp only)
      (first|(go_simp;done)|(go_keep;done))
    refine tq 0 hHeld ?_
    refine tq 1 hHeld ?_
    refine tq 2 hHeld ?_
    refine tq 3 hHeld ?_
    refine tq 4 hHeld ?_
    refine tq 5 hHeld ?_
    refine tq 6 hHeld ?_
    refine tq 7 hHeld ?_
    refine tq 8 hHeld ?_
    refine tq 9 hHeld ?_
    refine tq 10 hHeld ?_
    refine tq 11 hHeld ?_
    refine tq 12 hHeld ?_
    refine tq 13 hHeld ?_
    refine tq 14 hHeld ?_
    refine tc 15 fun K hK=> ?_
    (go_simp
     (go_at_call 108;refine(l8Fits_q VA VB p q fb _ b6A b7A b6B b7B bp bq hfb).mono ?_;rintro e w5 ⟨rfl,hb5⟩)
     have hb5:=hb5.ofDr
     have hO2:=hO.on hb5
     have hV2:=hV.on hb5
     clear k0 k1 k2 k3 k4 a0 a1 a2 a3 a4 a5 a6 a7 a8 a9 a10 a11 b0 b1 b2 b3 b4 b5 b6 b7 b8 b9 b10 b11
     clear hV v0 v1 vf
     have hV:=hV2
     clear hV2
     clear hO
     have hO:=hO2
     clear hO2
     obtain⟨k0,k1,k2,k3,k4⟩:=hO.ks
     obtain⟨a0,a1,a2,a3,a4,a5,a6,a7,a8,a9,a10,a11⟩:=own12 hO.own iA (fun j _=>hVA j)
     obtain⟨b0,b1,b2,b3,b4,b5,b6,b7,b8,b9,b10,b11⟩:=own12 hO.own iB (fun j _=>hVB j)
     (have v0:w5.cell? ⟨pb,0,none⟩=some (.int .i64 p):=hV.c 0 (by decide))
     (have v1:w5.cell? ⟨pb,1,none⟩=some (.int .i64 q):=hV.c 1 (by decide))
     have vf:=hV.f
     (try go_wp2_with fail)
     refine tr hK (fun hHeld=> ?_)
     clear hK K)
    refine tq 16 hHeld ?_
    refine tq 17 hHeld ?_
    refine wpAnyH_done (by kernel_rfl) ?_ _
    go_wp2_with fail
    go_meet
    exact⟨rfl,hO,hV⟩
   case rest=>
   clear k0 k1 k2 k3 k4 a0 a1 a2 a3 a4 a5 a6 a7 a8 a9 a10 a11 b0 b1 b2 b3 b4 b5 b6 b7 b8 b9 b10 b11
   clear hO hV v0 v1 vf hev
   obtain⟨rfl,hO,hV⟩:=hcut
   cases fb with
   | false=>
     simp only[Bool.false_or,Bool.not_false,cond_true] at hR
     subst hR
     go_wp2_with fail
     refine bodyPost_ret (results_none rfl _ _ _) rfl ?_
     exact⟨rfl,hO.own,hO.fr⟩
   | true=>
     simp only[Bool.false_or,Bool.not_true,cond_false] at hR
     obtain⟨k0,k1,k2,k3,k4⟩:=hO.ks
     obtain⟨a0,a1,a2,a3,a4,a5,a6,a7,a8,a9,a10,a11⟩:=own12 hO.own iA (fun j _=>hVA j)
     (have v0:wc.cell? ⟨pb,0,none⟩=some (.int .i64 p):=hV.c 0 (by decide))
     (have v1:wc.cell? ⟨pb,1,none⟩=some (.int .i64 q):=hV.c 1 (by decide))
     have vf:=hV.f
     obtain⟨MA,hM⟩:∃ M,pushV VA (-p) (-q)=M:=⟨_,rfl⟩
     rw[hM] at hR
     go_upto_region 3 with fail
     refine wp_region_held_drew (S:=fun w'=>w'.cell? ⟨w.heap.size,0,none⟩=some (.int .i64 (A:Int))∧w'.cell? ⟨w.heap.size,1,none⟩=some (.int .i64 (B:Int))∧w'.cell? ⟨w.heap.size,2,none⟩=some (.int .i64 X)∧w'.cell? ⟨w.heap.size,3,none⟩=some (.int .i64 Y)∧w'.cell? ⟨w.heap.size,4,none⟩=some (.int .i64 D)∧w'.cell? ⟨pb,0,none⟩=some (.int .i64 p)∧w'.cell? ⟨pb,1,none⟩=some (.int .i64 q)) (by kernel_rfl) ?_ (fun hHeld=> ?_)
     · (try dsimp only)
       (first|(go_simp;done)|(go_keep;done))
     refine tq 0 hHeld ?_
     refine tq 1 hHeld ?_
     refine tq 2 hHeld ?_
     refine tq 3 hHeld ?_
     refine tq 4 hHeld ?_
     refine tq 5 hHeld ?_
     refine tq 6 hHeld ?_
     refine tq 8 hHeld ?_
     refine tq 9 hHeld ?_
     refine tq 10 hHeld ?_
     refine tq 11 hHeld ?_
     refine tq 12 hHeld ?_
     refine tq 13 hHeld ?_
     refine tq 14 hHeld ?_
     refine tc 7 fun K hK=> ?_
     (go_simp
      refine tr hK (fun hHeld=> ?_)
      clear hK K)
     refine tc 15 fun K hK=> ?_
     (go_simp
      (go_at_call 109;refine(l6Push_any VA (-p) (-q) _ b6A b7A hbpn hbqn).mono ?_;rintro e wm ⟨rfl,hbm⟩;(try rw[hM]))
      have hbm:=hbm.ofDr
      have hO2:=hO.on hbm
      have hV2:=hV.on hbm
      clear k0 k1 k2 k3 k4 a0 a1 a2 a3 a4 a5 a6 a7 a8 a9 a10 a11
      clear hV v0 v1 vf
      have hV:=hV2
      clear hV2
      clear hO
      have hO:=hO2
      clear hO2
      obtain⟨k0,k1,k2,k3,k4⟩:=hO.ks
      obtain⟨a0,a1,a2,a3,a4,a5,a6,a7,a8,a9,a10,a11⟩:=own12 hO.own iA (fun j _=>hVA j)
      (have v0:wm.cell? ⟨pb,0,none⟩=some (.int .i64 p):=hV.c 0 (by decide))
      (have v1:wm.cell? ⟨pb,1,none⟩=some (.int .i64 q):=hV.c 1 (by decide))
      have vf:=hV.f
      have umf:=hO.own.fro
      (try go_wp2_with fail)
      refine tr hK (fun hHeld=> ?_)
      clear hK K)
     refine tq 16 hHeld ?_
     refine tc 17 fun K hK=> ?_
     (go_simp
      have hq:=put12 hO.own hA MA
      have hfq:=putFr (w4:=wm) (g:=g) (p:=A) MA
      have hO2:=hO.put hfq hgl hq
      have hV2:=hV.fr hfq (by omega)
      clear k0 k1 k2 k3 k4 a0 a1 a2 a3 a4 a5 a6 a7 a8 a9 a10 a11 umf hfq hq
      clear hV v0 v1 vf
      have hV:=hV2
      clear hV2
      clear hO
      have hO:=hO2
      clear hO2
      generalize ((((((((((((wm.setCell ⟨g,A*12,none⟩ (.int .i64 (MA 0))).setCell ⟨g,A*12+1,none⟩ (.int .i64 (MA 1))).setCell ⟨g,A*12+2,none⟩ (.int .i64 (MA 2))).setCell ⟨g,A*12+3,none⟩ (.int .i64 (MA 3))).setCell ⟨g,A*12+4,none⟩ (.int .i64 (MA 4))).setCell ⟨g,A*12+5,none⟩ (.int .i64 (MA 5))).setCell ⟨g,A*12+6,none⟩ (.int .i64 (MA 6))).setCell ⟨g,A*12+7,none⟩ (.int .i64 (MA 7))).setCell ⟨g,A*12+8,none⟩ (.int .i64 (MA 8))).setCell ⟨g,A*12+9,none⟩ (.int .i64 (MA 9))).setCell ⟨g,A*12+10,none⟩ (.int .i64 (MA 10))).setCell ⟨g,A*12+11,none⟩ (.int .i64 (MA 11)))=w8 at hO hV ⊢
      obtain⟨k0,k1,k2,k3,k4⟩:=hO.ks
      (have v0:w8.cell? ⟨pb,0,none⟩=some (.int .i64 p):=hV.c 0 (by decide))
      (have v1:w8.cell? ⟨pb,1,none⟩=some (.int .i64 q):=hV.c 1 (by decide))
      have vf:=hV.f
      refine tr hK (fun hHeld=> ?_)
      clear hK K)
     refine wpAnyH_done (by kernel_rfl) ?_ _
     have hVB':∀ j,j<12→putRow U A MA (B*12+j)=VB j:=fun j hj=>(putRow_else (fun e=>hAB e.symm) hj).trans (hVB j)
     clear hM
     obtain⟨b0,b1,b2,b3,b4,b5,b6,b7,b8,b9,b10,b11⟩:=own12 hO.own iB hVB'
     obtain⟨MB,hM⟩:∃ M,pushV VB p q=M:=⟨_,rfl⟩
     rw[hM] at hR
     go_upto_region 4 with fail
     refine wp_region_held_drew (S:=fun w'=>w'.cell? ⟨w.heap.size,0,none⟩=some (.int .i64 (A:Int))∧w'.cell? ⟨w.heap.size,1,none⟩=some (.int .i64 (B:Int))∧w'.cell? ⟨w.heap.size,2,none⟩=some (.int .i64 X)∧w'.cell? ⟨w.heap.size,3,none⟩=some (.int .i64 Y)∧w'.cell? ⟨w.heap.size,4,none⟩=some (.int .i64 D)∧w'.cell? ⟨pb,0,none⟩=some (.int .i64 p)∧w'.cell? ⟨pb,1,none⟩=some (.int .i64 q)) (by kernel_rfl) ?_ (fun hHeld=> ?_)
     · (try dsimp only)
       (first|(go_simp;done)|(go_keep;done))
     refine tq 0 hHeld ?_
     refine tq 1 hHeld ?_
     refine tq 2 hHeld ?_
     refine tq 3 hHeld ?_
     refine tq 4 hHeld ?_
     refine tq 5 hHeld ?_
     refine tq 6 hHeld ?_
     refine tq 8 hHeld ?_
     refine tc 7 fun K hK=> ?_
     (go_simp
      refine tr hK (fun hHeld=> ?_)
      clear hK K)
     refine tc 9 fun K hK=> ?_
     (go_simp
      (go_at_call 109;refine(l6Push_any VB p q _ b6B b7B bp bq).mono ?_;rintro e wm ⟨rfl,hbm⟩;(try rw[hM]))
      have hbm:=hbm.ofDr
      have hO2:=hO.on hbm
      have hV2:=hV.on hbm
      clear k0 k1 k2 k3 k4 b0 b1 b2 b3 b4 b5 b6 b7 b8 b9 b10 b11
      clear hV v0 v1 vf
      have hV:=hV2
      clear hV2
      clear hO
      have hO:=hO2
      clear hO2
      obtain⟨k0,k1,k2,k3,k4⟩:=hO.ks
      obtain⟨b0,b1,b2,b3,b4,b5,b6,b7,b8,b9,b10,b11⟩:=own12 hO.own iB hVB'
      (have v0:wm.cell? ⟨pb,0,none⟩=some (.int .i64 p):=hV.c 0 (by decide))
      (have v1:wm.cell? ⟨pb,1,none⟩=some (.int .i64 q):=hV.c 1 (by decide))
      have vf:=hV.f
      have umf:=hO.own.fro
      (try go_wp2_with fail)
      refine tr hK (fun hHeld=> ?_)
      clear hK K)
     refine tq 10 hHeld ?_
     refine tc 11 fun K hK=> ?_
     (go_simp
      have hq:=put12 hO.own hB MB
      have hfq:=putFr (w4:=wm) (g:=g) (p:=B) MB
      have hO2:=hO.put hfq hgl hq
      have hV2:=hV.fr hfq (by omega)
      clear k0 k1 k2 k3 k4 b0 b1 b2 b3 b4 b5 b6 b7 b8 b9 b10 b11 umf hfq hq
      clear hV v0 v1 vf
      have hV:=hV2
      clear hV2
      clear hO
      have hO:=hO2
      clear hO2
      generalize ((((((((((((wm.setCell ⟨g,B*12,none⟩ (.int .i64 (MB 0))).setCell ⟨g,B*12+1,none⟩ (.int .i64 (MB 1))).setCell ⟨g,B*12+2,none⟩ (.int .i64 (MB 2))).setCell ⟨g,B*12+3,none⟩ (.int .i64 (MB 3))).setCell ⟨g,B*12+4,none⟩ (.int .i64 (MB 4))).setCell ⟨g,B*12+5,none⟩ (.int .i64 (MB 5))).setCell ⟨g,B*12+6,none⟩ (.int .i64 (MB 6))).setCell ⟨g,B*12+7,none⟩ (.int .i64 (MB 7))).setCell ⟨g,B*12+8,none⟩ (.int .i64 (MB 8))).setCell ⟨g,B*12+9,none⟩ (.int .i64 (MB 9))).setCell ⟨g,B*12+10,none⟩ (.int .i64 (MB 10))).setCell ⟨g,B*12+11,none⟩ (.int .i64 (MB 11)))=w9 at hO hV ⊢
      obtain⟨k0,k1,k2,k3,k4⟩:=hO.ks
      (have v0:w9.cell? ⟨pb,0,none⟩=some (.int .i64 p):=hV.c 0 (by decide))
      (have v1:w9.cell? ⟨pb,1,none⟩=some (.int .i64 q):=hV.c 1 (by decide))
      have vf:=hV.f
      refine tr hK (fun hHeld=> ?_)
      clear hK K)
     refine wpAnyH_done (by kernel_rfl) ?_ _
     go_wp2_with fail
     go_end0
     exact⟨rfl,by rw[←hR];exact hO.own,hO.fr⟩
theorem col_put {U V:Nat→Int} {k i j:Nat} (hi:i<12):colOf (putRow U k V) i j=if j=k then V i else colOf U i j:=by
 unfold colOf putRow
 by_cases e:j=k
 · subst e;rw[if_pos (by omega),if_pos rfl,Nat.add_sub_cancel_left]
 · rw[if_neg (by omega),if_neg e]
theorem putRow_self (U:Nat→Int) (k:Nat):putRow U k (fun j=>U (k*12+j))=U:=by
 funext q
 unfold putRow
 by_cases e:k*12≤q∧q<k*12+12
 · rw[if_pos e];exact congrArg U (by omega)
 · rw[if_neg e]
theorem shareV_congr {V W V' W':Nat→Int} (m:Int) (h1:V 8=V' 8) (h2:W 8=W' 8):shareV V W m=shareV V' W' m:=by unfold shareV;rw[h1,h2]
theorem moveV_zero {V:Nat→Int} (a4: -2560000≤V 4∧V 4≤2560000) (a5: -2560000≤V 5∧V 5≤2560000):moveV V 0 0=V:=by
 have e4:clampZ 2560000 (V 4+0)=V 4:=by unfold clampZ;(repeat' split);all_goals omega
 have e5:clampZ 2560000 (V 5+0)=V 5:=by unfold clampZ;(repeat' split);all_goals omega
 unfold moveV mvX mvY
 rw[e4,e5,if_pos (by omega),if_pos (by omega)]
 funext j
 unfold setV
 repeat' split
 all_goals(first|rfl|(subst_vars;rfl))
theorem row_else {U V:Nat→Int} {k l:Nat} (h:l≠k):∀ j,j<12→putRow U k V (l*12+j)=U (l*12+j):=fun j hj=>putRow_else h hj
theorem row_is {U V:Nat→Int} {k:Nat}:∀ j,j<12→putRow U k V (k*12+j)=V j:=fun j hj=>by unfold putRow;rw[if_pos (by omega),Nat.add_sub_cancel_left]
theorem putRow_congr {U V W:Nat→Int} {k:Nat} (h:∀ j,j<12→V j=W j):putRow U k V=putRow U k W:=by
 funext q
 unfold putRow
 by_cases e:k*12≤q∧q<k*12+12
 · rw[if_pos e,if_pos e];exact h _ (by omega)
 · rw[if_neg e,if_neg e]
theorem moveV_congr {V W:Nat→Int} (p q:Int) (h:∀ j,j<12→V j=W j):∀ j,j<12→moveV V p q j=moveV W p q j:=fun j hj=>by
 unfold moveV mvX mvY setV
 rw[h 4 (by omega),h 5 (by omega),h 6 (by omega),h 7 (by omega),h j hj]
theorem apart_two {U:Nat→Int} {A B:Nat} {x y d p q r s:Int} (hAB:A≠B) (hA:BOk (fun j=>U (A*12+j))) (hB:BOk (fun j=>U (B*12+j))) (hm:0<(d-64).tdiv 4)
 (ep:(-x*shareV (fun j=>U (A*12+j)) (fun j=>U (B*12+j)) ((d-64).tdiv 4)).tdiv 256=p) (eq:(-y*shareV (fun j=>U (A*12+j)) (fun j=>U (B*12+j)) ((d-64).tdiv 4)).tdiv 256=q)
 (er:(x*shareV (fun j=>U (B*12+j)) (fun j=>U (A*12+j)) ((d-64).tdiv 4)).tdiv 256=r) (es:(y*shareV (fun j=>U (B*12+j)) (fun j=>U (A*12+j)) ((d-64).tdiv 4)).tdiv 256=s):
 putRow (putRow U A (moveV (fun j=>U (A*12+j)) p q)) B (moveV (fun j=>putRow U A (moveV (fun j=>U (A*12+j)) p q) (B*12+j)) r s)=apartU U A B x y d:=by
 have e1:putRow U A (moveV (fun j=>U (A*12+j)) p q)=bif decide (0<U (A*12+8)) then putRow U A (moveV (fun j=>U (A*12+j)) p q) else U:=by
  by_cases z:0<U (A*12+8)
  · rw[decide_eq_true z,cond_true]
  · rw[decide_eq_false z,cond_false]
    have z8:U (A*12+8)=0:=by have:=hA.m8;omega
    have s0:shareV (fun j=>U (A*12+j)) (fun j=>U (B*12+j)) ((d-64).tdiv 4)=0:=by unfold shareV;rw[show decide (U (A*12+8)=0)=true from decide_eq_true z8];rfl
    rw[s0,Int.mul_zero] at ep eq
    have p0:p=0:=ep.symm
    have q0:q=0:=eq.symm
    rw[p0,q0,moveV_zero hA.a4 hA.a5,putRow_self]
 have e2:∀ U1:Nat→Int,(∀ j,j<12→U1 (B*12+j)=U (B*12+j))→putRow U1 B (moveV (fun j=>U1 (B*12+j)) r s)=bif decide (0<U (B*12+8)) then putRow U1 B (moveV (fun j=>U (B*12+j)) r s) else U1:=by
  intro U1 h1
  by_cases z:0<U (B*12+8)
  · rw[decide_eq_true z,cond_true]
    exact putRow_congr (moveV_congr r s h1)
  · rw[decide_eq_false z,cond_false]
    have z8:U (B*12+8)=0:=by have:=hB.m8;omega
    have s0:shareV (fun j=>U (B*12+j)) (fun j=>U (A*12+j)) ((d-64).tdiv 4)=0:=by unfold shareV;rw[show decide (U (B*12+8)=0)=true from decide_eq_true z8];rfl
    rw[s0,Int.mul_zero] at er es
    have r0:r=0:=er.symm
    have s0:s=0:=es.symm
    have a4:=hB.a4
    have a5:=hB.a5
    rw[r0,s0,moveV_zero (V:=fun j=>U1 (B*12+j)) (by rw[h1 4 (by omega)];exact a4) (by rw[h1 5 (by omega)];exact a5),putRow_self]
 rw[e2 _ (row_else (fun e=>hAB e.symm)),e1]
 unfold apartU
 rw[decide_eq_true hm,ep,eq,er,es]
 rfl
end Go.Proofs.YthajilkjfkppoaaGreatDoor
