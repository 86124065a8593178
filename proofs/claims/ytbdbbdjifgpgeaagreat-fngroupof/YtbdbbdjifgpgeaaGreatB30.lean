/- Texts of a proof. -/
import Derived.Test.YtbdbbdjifgpgeaaGreatB25
import Derived.Test.YtbdbbdjifgpgeaaGreatB28
import Derived.Test.YtbdbbdjifgpgeaaGreatB7
import Derived.Test.YtbdbbdjifgpgeaaGreatB3
import Derived.Test.YtbdbbdjifgpgeaaGreatSPdk
import Derived.Deep.RegionHeld3
import Derived.Deep.DeepCutAuto
import Derived.Test.YtbdbbdjifgpgeaaGreatB15
import Derived.Test.YtbdbbdjifgpgeaaGreatB10
import Derived.Test.YtbdbbdjifgpgeaaGreatB6
import Derived.Test.YtbdbbdjifgpgeaaGreatB2
set_option maxHeartbeats 16000000
set_option maxRecDepth 20000
namespace Go.Proofs.YtbdbbdjifgpgeaaGreat
open Go.RowKit
set_option linter.unusedVariables false
set_option linter.unusedSimpArgs false
theorem wake_ok {V:Nat→Int} (b:Bool) (h:BOk V):BOk (wakeV b V):=by
 unfold wakeV
 cases hl:(b&&decide (8≤V 11)) with
 |false=>exact h
 | true=>
   simp only[Bool.and_eq_true,decide_eq_true_eq] at hl
   obtain⟨a0,a1,a2,a3,a4,a5,a6,a7,a8,a9,b0,b1⟩:=h
   have m8:V 8≠0:=fun e=>by have:=b0 e;omega
   show BOk (setV V 11 0)
   have e:∀ j,j≠11→setV V 11 0 j=V j:=fun j hj=>setV_ne hj
   have eb:setV V 11 0 11=0:=setV_eq
   generalize setV V 11 0=W at e eb
   have w0:=e 0 (by decide)
   have w1:=e 1 (by decide)
   have w2:=e 2 (by decide)
   have w3:=e 3 (by decide)
   have w4:=e 4 (by decide)
   have w5:=e 5 (by decide)
   have w6:=e 6 (by decide)
   have w7:=e 7 (by decide)
   have w8:=e 8 (by decide)
   have w9:=e 9 (by decide)
   have wa:=e 10 (by decide)
   exact⟨by rw[w0];exact a0,by rw[w1,w2,w3];exact a1,by rw[w4];exact a2,by rw[w5];exact a3,by rw[w6];exact a4,by rw[w7];exact a5,by rw[w8];exact a6,by rw[w9];exact a7,by rw[wa];exact a8,by rw[eb];omega,by rw[eb];exact fun _=>rfl,.inl ⟨by rw[w8];exact m8,by rw[eb];decide⟩⟩
theorem sl_ok {V:Nat→Int} (h:BOk V) (m8:V 8≠0):BOk (slV V):=by
 obtain⟨a0,a1,a2,a3,a4,a5,a6,a7,a8,a9,b0,b1⟩:=h
 have e:∀ j,j≠7→j≠6→j≠11→slV V j=V j:=fun j h1 h2 h3=>by unfold slV;rw[if_neg h1,if_neg h2,if_neg h3]
 have e7:slV V 7=0:=rfl
 have e6:slV V 6=0:=rfl
 have eb:slV V 11=8:=rfl
 generalize slV V=W at e e7 e6 eb
 have w0:=e 0 (by decide) (by decide) (by decide)
 have w1:=e 1 (by decide) (by decide) (by decide)
 have w2:=e 2 (by decide) (by decide) (by decide)
 have w3:=e 3 (by decide) (by decide) (by decide)
 have w4:=e 4 (by decide) (by decide) (by decide)
 have w5:=e 5 (by decide) (by decide) (by decide)
 have w8:=e 8 (by decide) (by decide) (by decide)
 have w9:=e 9 (by decide) (by decide) (by decide)
 have wa:=e 10 (by decide) (by decide) (by decide)
 exact⟨by rw[w0];exact a0,by rw[w1,w2,w3];exact a1,by rw[w4];exact a2,by rw[w5];exact a3,by rw[e6];omega,by rw[e7];omega,by rw[w8];exact a6,by rw[w9];exact a7,by rw[wa];exact a8,by rw[eb];omega,by rw[w8];exact fun q=>absurd q m8,.inr ⟨e6,e7⟩⟩
theorem Bods.wake {n:Nat} {U G:Nat→Int} {A:Nat→Bool} (h:Bods n U):Bods n (mapR (fun i V=>wakeV (awK G A i) V) U n):=
 h.map (fun k hk=>(wake_ok _ (h.row hk)).to) (fun k hk=>by show wakeV _ (fun j=>U (k*12+j)) 0=_;unfold wakeV;cases (awK G A k&&decide (8≤(fun j=>U (k*12+j)) 11))<;>rfl)
theorem slF_8 (G:Nat→Int) (g i:Nat) (V:Nat→Int):slF G g i V 8=V 8:=by unfold slF;cases decide (G i=(g:Int))<;>rfl
theorem Bods.sleepS {n:Nat} {U G:Nat→Int} {A:Nat→Bool} (h:Bods n U) (hG:∀ k,k<n→0≤G k→U (k*12+8)≠0) (g:Nat):Bods n (sleepS G A n g U)∧∀ k,k<n→sleepS G A n g U (k*12+8)=U (k*12+8):=by
 unfold Go.Proofs.YtbdbbdjifgpgeaaGreat.sleepS
 cases (A g&&allQ G U g n) with
 |false=>exact⟨h,fun k hk=>rfl⟩
 | true=>
   refine⟨h.map (fun k hk=> ?_) (fun k hk=> ?_),fun k hk=>(mapR_in hk (by omega)).trans (slF_8 G g k _)⟩
   · unfold slF
     by_cases e:G k=(g:Int)
     · rw[decide_eq_true e];exact(sl_ok (h.row hk) (hG k hk (by omega))).to
     · rw[decide_eq_false e];exact h.ok k hk
   · unfold slF;cases decide (G k=(g:Int))<;>rfl
theorem Bods.sleep {n:Nat} {U G:Nat→Int} {A:Nat→Bool} (h:Bods n U) (hG:∀ k,k<n→0≤G k→U (k*12+8)≠0):∀ g,Bods n (sleepN G A n U g)∧∀ k,k<n→sleepN G A n U g (k*12+8)=U (k*12+8)
 |0=>⟨h,fun k hk=>rfl⟩
 | g+1=>by
   obtain⟨h1,h2⟩:=Bods.sleep h hG g
   obtain⟨q1,q2⟩:=Bods.sleepS (A:=A) h1 (fun k hk h0=>by rw[h2 k hk];exact hG k hk h0) g
   exact⟨q1,fun k hk=>(q2 k hk).trans (h2 k hk)⟩
theorem td256q {x B:Int} (h: -(B*256)≤x∧x≤B*256): -B≤x.tdiv 256∧x.tdiv 256≤B:=by
 have e:=Int.mul_tdiv_add_tmod x 256
 have a:=Int.tmod_lt_of_pos x (show (0:Int)<256 by decide)
 have b: -256<x.tmod 256:=Int.lt_tmod_of_pos x (by decide)
 omega
theorem td256p {x:Int} (h:0≤x):0≤x.tdiv 256:=Int.tdiv_nonneg h (by decide)
theorem dot_bd {u v x y:Int} (hu: -40000000≤u∧u≤40000000) (hv: -40000000≤v∧v≤40000000) (bx: -256≤x∧x≤256) (bY: -256≤y∧y≤256): -80000000≤fc ((u*x+v*y).tdiv 256)∧fc ((u*x+v*y).tdiv 256)≤80000000:=by
 have p:=mul_bd (a:=u) (b:=x) (A:=40000000) (B:=256) hu bx
 have q:=mul_bd (a:=v) (b:=y) (A:=40000000) (B:=256) hv bY
 have t:=td256q (x:=u*x+v*y) (B:=80000000) (by omega)
 rw[fc_id (by omega) (by omega)];exact t
def mxB (V1 V2:Nat→Int):Int:=if V1 9<V2 9 then V2 9 else V1 9
def mnR (V1 V2:Nat→Int):Int:=if V2 10<V1 10 then V2 10 else V1 10
def pN (V1 V2:Nat→Int) (x y:Int) (bo:Bool):Int:=bif bo then closeV V1 V2 x y+(closeV V1 V2 x y*mxB V1 V2).tdiv 256 else closeV V1 V2 x y
def pP (V1 V2:Nat→Int) (x y:Int) (bo:Bool):Int:=togV V1 V2 (pN V1 V2 x y bo)
def pD (V1 V2:Nat→Int) (x y:Int):Int:=fc (((spX V1-spX V2)*(-y)+(spY V1-spY V2)*x).tdiv 256)
def pM (V1 V2:Nat→Int) (x y:Int) (bo:Bool):Int:=(pP V1 V2 x y bo*mnR V1 V2).tdiv 256
def pA (V1 V2:Nat→Int) (x y:Int) (bo:Bool):Int:=clampZ (pM V1 V2 x y bo) (togV V1 V2 (pD V1 V2 x y))
def puX (V1 V2:Nat→Int) (x y:Int) (bo:Bool):Int:=if closeV V1 V2 x y≤0 then 0 else clampZ 20000000 ((pP V1 V2 x y bo*x+pA V1 V2 x y bo*(-y)).tdiv 256)
def puY (V1 V2:Nat→Int) (x y:Int) (bo:Bool):Int:=if closeV V1 V2 x y≤0 then 0 else clampZ 20000000 ((pP V1 V2 x y bo*y+pA V1 V2 x y bo*x).tdiv 256)
theorem togV_nn (V1 V2:Nat→Int) (n:Int) (a0:0≤V1 8) (a1:0≤V2 8) (h:0≤n):0≤togV V1 V2 n:=by
 unfold togV;split
 · exact Int.mul_nonneg h (by omega)
 · exact Int.tdiv_nonneg (Int.mul_nonneg (Int.mul_nonneg h a0) a1) (by omega)
theorem close_fixed (V1 V2:Nat→Int) (x y:Int) (h1:V1 8=0) (h2:V2 8=0):closeV V1 V2 x y=0:=by
 unfold closeV spX spY;rw[if_pos h1,if_pos h1,if_pos h2,if_pos h2];simp[fc,clampZ]
theorem push_bd (V1 V2:Nat→Int) (x y:Int) (bo:Bool) (a0:0≤V1 8∧V1 8≤1000) (a1:0≤V2 8∧V2 8≤1000) (b6: -20000000≤V1 6∧V1 6≤20000000) (b7: -20000000≤V1 7∧V1 7≤20000000) (d6: -20000000≤V2 6∧V2 6≤20000000) (d7: -20000000≤V2 7∧V2 7≤20000000) (bx: -256≤x∧x≤256) (bY: -256≤y∧y≤256)
 (e9:0≤V1 9∧V1 9≤256) (f9:0≤V2 9∧V2 9≤256) (e10:0≤V1 10∧V1 10≤256) (f10:0≤V2 10∧V2 10≤256) (hc:0<closeV V1 V2 x y):
 closeV V1 V2 x y≤100000000∧(0≤mxB V1 V2∧mxB V1 V2≤256)∧(0≤mnR V1 V2∧mnR V1 V2≤256)∧(0<pN V1 V2 x y bo∧pN V1 V2 x y bo≤200000000)∧(0≤pP V1 V2 x y bo∧pP V1 V2 x y bo≤200000000000000)∧(-100000000≤pD V1 V2 x y∧pD V1 V2 x y≤100000000)∧(-100000000000000≤togV V1 V2 (pD V1 V2 x y)∧togV V1 V2 (pD V1 V2 x y)≤100000000000000)∧(0≤pM V1 V2 x y bo∧pM V1 V2 x y bo≤200000000000000)∧(-200000000000000≤pA V1 V2 x y bo∧pA V1 V2 x y bo≤200000000000000):=by
 have sx1:=spX_bd V1 b6
 have sy1:=spY_bd V1 b7
 have sx2:=spX_bd V2 d6
 have sy2:=spY_bd V2 d7
 have hcb: -80000000≤closeV V1 V2 x y∧closeV V1 V2 x y≤80000000:=dot_bd (by omega) (by omega) bx bY
 have hD: -80000000≤pD V1 V2 x y∧pD V1 V2 x y≤80000000:=dot_bd (by omega) (by omega) (by omega) bx
 have hB:0≤mxB V1 V2∧mxB V1 V2≤256:=by unfold mxB;split<;>omega
 have hR:0≤mnR V1 V2∧mnR V1 V2≤256:=by unfold mnR;split<;>omega
 have hN:0<pN V1 V2 x y bo∧pN V1 V2 x y bo≤160000000:=by
  have q:=mul_bd (a:=closeV V1 V2 x y) (b:=mxB V1 V2) (A:=80000000) (B:=256) (by omega) (by omega)
  have q1:=td256q (x:=closeV V1 V2 x y*mxB V1 V2) (B:=80000000) (by omega)
  have q2:=td256p (x:=closeV V1 V2 x y*mxB V1 V2) (Int.mul_nonneg (by omega) hB.1)
  unfold pN;cases bo
  · simp only[cond_false];omega
  · simp only[cond_true];omega
 have hP:0≤pP V1 V2 x y bo∧pP V1 V2 x y bo≤160000000000000:=by
  have q:=togV_bd V1 V2 (pN V1 V2 x y bo) 160000000 a0 a1 (by omega) (by omega)
  have q2:=togV_nn V1 V2 (pN V1 V2 x y bo) a0.1 a1.1 (by omega)
  unfold pP;omega
 have hT:=togV_bd V1 V2 (pD V1 V2 x y) 80000000 a0 a1 hD (by omega)
 have hM:0≤pM V1 V2 x y bo∧pM V1 V2 x y bo≤160000000000000:=by
  have q:=mul_bd (a:=pP V1 V2 x y bo) (b:=mnR V1 V2) (A:=160000000000000) (B:=256) (by omega) (by omega)
  have q1:=td256q (x:=pP V1 V2 x y bo*mnR V1 V2) (B:=160000000000000) (by omega)
  have q2:=td256p (x:=pP V1 V2 x y bo*mnR V1 V2) (Int.mul_nonneg hP.1 hR.1)
  unfold pM;omega
 have hA:=clampZ_bd (l:=pM V1 V2 x y bo) (togV V1 V2 (pD V1 V2 x y)) hM.1
 have hA': -200000000000000≤pA V1 V2 x y bo∧pA V1 V2 x y bo≤200000000000000:=by unfold pA;omega
 exact⟨by omega,hB,hR,by omega,by omega,by omega,by omega,by omega,hA'⟩
theorem l8Push_z (V1 V2:Nat→Int) (x y k c:Int) (bo:Bool) (w:World) (b6: -20000000≤V1 6∧V1 6≤20000000) (b7: -20000000≤V1 7∧V1 7≤20000000) (d6: -20000000≤V2 6∧V2 6≤20000000) (d7: -20000000≤V2 7∧V2 7≤20000000) (bx: -256≤x∧x≤256) (bY: -256≤y∧y≤256) (ec:closeV V1 V2 x y=c) (hc:c≤0):
 Calls Tryz.prog 104 #[bodyW V1,bodyW V2,s3 x y k,.bool bo] w fun e w'=>e= .returned (vv 0 0)∧Below w.heap.size w w':=by
 have hset:=cset_map
 go_enter Tryz.func104,Tryz.ntmps104
 go_wp2_with (go_at_call 111;refine(l8Closing_q V1 V2 x y k _ _ (by omega) (by omega) (by omega) (by omega) (by omega) (by omega) (by with_reducible assumption)).mono ?_;rintro e w1 ⟨rfl,hb1⟩;have hz1:=hb1.size;(try simp only[zz] at hz1);have:=kf4 hb1 w.heap.size)
 exact bodyPost_ret (v:=vv 0 0) (by simp[results,Tryz.results104,go_sem, *]) rfl ⟨rfl,bel_a⟩
theorem l8Push_any (V1 V2:Nat→Int) (x y k:Int) (bo:Bool) (w:World) (a0:0≤V1 8∧V1 8≤1000) (a1:0≤V2 8∧V2 8≤1000) (b6: -20000000≤V1 6∧V1 6≤20000000) (b7: -20000000≤V1 7∧V1 7≤20000000) (d6: -20000000≤V2 6∧V2 6≤20000000) (d7: -20000000≤V2 7∧V2 7≤20000000) (bx: -256≤x∧x≤256) (bY: -256≤y∧y≤256) (e9:0≤V1 9∧V1 9≤256) (f9:0≤V2 9∧V2 9≤256) (e10:0≤V1 10∧V1 10≤256) (f10:0≤V2 10∧V2 10≤256):
 Calls Tryz.prog 104 #[bodyW V1,bodyW V2,s3 x y k,.bool bo] w fun e w'=>e= .returned (vv (puX V1 V2 x y bo) (puY V1 V2 x y bo))∧Below w.heap.size w w':=by
 by_cases hc:closeV V1 V2 x y≤0
 · unfold puX puY;rw[if_pos hc,if_pos hc]
   exact l8Push_z V1 V2 x y k _ bo w b6 b7 d6 d7 bx bY rfl hc
 · unfold puX puY;rw[if_neg hc,if_neg hc]
   have hz:(V1 8=0∧V2 8=0)=False:=eq_false (fun ⟨u,v⟩=>hc (by rw[close_fixed V1 V2 x y u v];omega))
   obtain⟨q1,q2,q3,q4,q5,q6,q7,q8,q9⟩:=push_bd V1 V2 x y bo a0 a1 b6 b7 d6 d7 bx bY e9 f9 e10 f10 (by omega)
   exact l8Push_b V1 V2 x y k (mxB V1 V2) (mnR V1 V2) (closeV V1 V2 x y) (pN V1 V2 x y bo) (pP V1 V2 x y bo) (pD V1 V2 x y) (togV V1 V2 (pD V1 V2 x y)) (pM V1 V2 x y bo) (pA V1 V2 x y bo) bo w a0 a1 b6 b7 d6 d7 bx bY rfl rfl rfl rfl rfl rfl rfl rfl rfl ⟨by omega,q1⟩ q2 q3 q4 q5 q6 q7 q8 q9 hz
def poX (V1 V2:Nat→Int) (x y k:Int) (bo:Bool):Int:=if (bodyB V1&&(bodyB V2&&hitB x y k))=true then puX V1 V2 x y bo else 0
def poY (V1 V2:Nat→Int) (x y k:Int) (bo:Bool):Int:=if (bodyB V1&&(bodyB V2&&hitB x y k))=true then puY V1 V2 x y bo else 0
def fitsB (V W:Nat→Int) (p q:Int):Bool:=(decide (V 8=0)||inB 20000000 (V 6-p) (V 7-q))&&(decide (W 8=0)||inB 20000000 (W 6+p) (W 7+q))
theorem l8Fits_q (V W:Nat→Int) (p q:Int) (b:Bool) (w:World) (b6: -20000000≤V 6∧V 6≤20000000) (b7: -20000000≤V 7∧V 7≤20000000) (d6: -20000000≤W 6∧W 6≤20000000) (d7: -20000000≤W 7∧W 7≤20000000) (bp: -20000000≤p∧p≤20000000) (bq: -20000000≤q∧q≤20000000) (e:fitsB V W p q=b):
 Calls Tryz.prog 105 #[bodyW V,bodyW W,vv p q] w fun e w'=>e= .returned (.bool b)∧Below w.heap.size w w':=by
 have hset:=cset_map
 have w1:IntKind.i64.wrap (V 6-p)=V 6-p:=i64w (by omega)
 have w2:IntKind.i64.wrap (V 7-q)=V 7-q:=i64w (by omega)
 have w3:IntKind.i64.wrap (W 6+p)=W 6+p:=i64w (by omega)
 have w4:IntKind.i64.wrap (W 7+q)=W 7+q:=i64w (by omega)
 clear b6 b7 d6 d7 bp bq
 obtain⟨D1,hD1⟩:∃ b,inB 20000000 (V 6-p) (V 7-q)=b:=⟨_,rfl⟩
 obtain⟨D2,hD2⟩:∃ b,inB 20000000 (W 6+p) (W 7+q)=b:=⟨_,rfl⟩
 unfold fitsB at e
 rw[hD1,hD2] at e
 by_cases m0:V 8=0
 · have e1:(V 8==0)=true:=by simp[m0]
   by_cases m1:W 8=0
   · have e2:(W 8==0)=true:=by simp[m1]
     have hb:b=true:=by rw[←e];rw[decide_eq_true m0,decide_eq_true m1];rfl
     subst hb
     clear e
     have M0:Shut (V 8=0):=m0
     clear m0
     have M1:Shut (W 8=0):=m1
     clear m1
     go_enter Tryz.func105,Tryz.ntmps105
     go_wp2_with fail
     go_ret
     exact⟨rfl,bel_a⟩
   · have e2:(W 8==0)=false:=by simp[m1]
     have hb:b=D2:=by rw[←e];rw[decide_eq_true m0,decide_eq_false m1];rfl
     rw[hb]
     clear e hb
     have M0:Shut (V 8=0):=m0
     clear m0
     go_enter Tryz.func105,Tryz.ntmps105
     go_wp2_with (go_at_call 40;refine(l6Drive_q (W 6+p) (W 7+q) D2 _ hD2).mono ?_;rintro e w6 ⟨rfl,hb6⟩;have hz6:=hb6.size;(try simp only[zz] at hz6);have:=kf5 hb6 w.heap.size)
     go_ret
     exact⟨by first|rfl|simp,bel_a⟩
 · have e1:(V 8==0)=false:=by simp[m0]
   cases D1 with
   | false=>
     have hb:b=false:=by rw[←e];rw[decide_eq_false m0];rfl
     subst hb
     clear e
     go_enter Tryz.func105,Tryz.ntmps105
     go_wp2_with (go_at_call 40;refine(l6Drive_q (V 6-p) (V 7-q) false _ hD1).mono ?_;rintro e w5 ⟨rfl,hb5⟩;have hz5:=hb5.size;(try simp only[zz] at hz5);have:=kf5 hb5 w.heap.size)
     go_ret
     exact⟨rfl,bel_a⟩
   | true=>
     by_cases m1:W 8=0
     · have e2:(W 8==0)=true:=by simp[m1]
       have hb:b=true:=by rw[←e];rw[decide_eq_false m0,decide_eq_true m1];rfl
       subst hb
       clear e
       have M1:Shut (W 8=0):=m1
       clear m1
       go_enter Tryz.func105,Tryz.ntmps105
       go_wp2_with (go_at_call 40;refine(l6Drive_q (V 6-p) (V 7-q) true _ hD1).mono ?_;rintro e w5 ⟨rfl,hb5⟩;have hz5:=hb5.size;(try simp only[zz] at hz5);have:=kf5 hb5 w.heap.size)
       go_ret
       exact⟨rfl,bel_a⟩
     · have e2:(W 8==0)=false:=by simp[m1]
       have hb:b=D2:=by rw[←e];rw[decide_eq_false m0,decide_eq_false m1];rfl
       rw[hb]
       clear e hb
       go_enter Tryz.func105,Tryz.ntmps105
       go_wp2_with (first
        |(have _:=hb5;go_at_call 40;refine(l6Drive_q (W 6+p) (W 7+q) D2 _ hD2).mono ?_;rintro e w6 ⟨rfl,hb6⟩;have hz6:=hb6.size;(try simp only[zz] at hz6);have:=kf5 hb6 w.heap.size)
        |(go_at_call 40;refine(l6Drive_q (V 6-p) (V 7-q) true _ hD1).mono ?_;rintro e w5 ⟨rfl,hb5⟩;have hz5:=hb5.size;(try simp only[zz] at hz5);have:=kf5 hb5 w.heap.size))
       go_ret
       exact⟨by first|rfl|simp,bel_a⟩
theorem pqBodies_same (a a':Option Addr) (N c c':Nat) (R:Nat→Int) (w:World) (h:Flat w a (N*12) R) (h':Flat w a' (N*12) R) (hN:N≤1000):
 Calls Tryz.prog 6 #[.slice a N c,.slice a' N c'] w fun e w'=>e= .returned (.bool true)∧Below w.heap.size w w':=by
 have hset:=cset_map
 have e0:((N:Int) !=(N:Int))=false:=by simp
 go_enter Tryz.func6,Tryz.ntmps6
 go_upto_region 4 with fail
 go_loopw [5] (fun s wr=>∃ k:Nat,k≤N∧s= .int .i64 (k:Int)∧Below w.heap.size w wr) (fun s _=>N-(intOf s).toNat)
 case atStart=>exact⟨0,Nat.zero_le _,rfl,Below.refl _ _⟩
 case round=>
  obtain⟨k,hk,rfl,hw⟩:=hrel
  by_cases hlt:k<N
  · have hkN:(k:Int)<(N:Int):=by omega
    obtain⟨b1,o1,e1,_,hc1⟩:=(h.below hw) (by omega)
    obtain⟨b2,o2,e2,_,hc2⟩:=(h'.below hw) (by omega)
    have r0:wr.cell? ⟨b1,o1+k*12,none⟩=some (.int .i64 (R (k*12))):=by have q:=hc1 (k*12+0) (by omega);rw[←Nat.add_assoc] at q;exact q
    have s0:wr.cell? ⟨b2,o2+k*12,none⟩=some (.int .i64 (R (k*12))):=by have q:=hc2 (k*12+0) (by omega);rw[←Nat.add_assoc] at q;exact q
    have r1:wr.cell? ⟨b1,o1+k*12+1,none⟩=some (.int .i64 (R (k*12+1))):=by have q:=hc1 (k*12+1) (by omega);rw[←Nat.add_assoc] at q;exact q
    have s1:wr.cell? ⟨b2,o2+k*12+1,none⟩=some (.int .i64 (R (k*12+1))):=by have q:=hc2 (k*12+1) (by omega);rw[←Nat.add_assoc] at q;exact q
    have r2:wr.cell? ⟨b1,o1+k*12+2,none⟩=some (.int .i64 (R (k*12+2))):=by have q:=hc1 (k*12+2) (by omega);rw[←Nat.add_assoc] at q;exact q
    have s2:wr.cell? ⟨b2,o2+k*12+2,none⟩=some (.int .i64 (R (k*12+2))):=by have q:=hc2 (k*12+2) (by omega);rw[←Nat.add_assoc] at q;exact q
    have r3:wr.cell? ⟨b1,o1+k*12+3,none⟩=some (.int .i64 (R (k*12+3))):=by have q:=hc1 (k*12+3) (by omega);rw[←Nat.add_assoc] at q;exact q
    have s3:wr.cell? ⟨b2,o2+k*12+3,none⟩=some (.int .i64 (R (k*12+3))):=by have q:=hc2 (k*12+3) (by omega);rw[←Nat.add_assoc] at q;exact q
    have r4:wr.cell? ⟨b1,o1+k*12+4,none⟩=some (.int .i64 (R (k*12+4))):=by have q:=hc1 (k*12+4) (by omega);rw[←Nat.add_assoc] at q;exact q
    have s4:wr.cell? ⟨b2,o2+k*12+4,none⟩=some (.int .i64 (R (k*12+4))):=by have q:=hc2 (k*12+4) (by omega);rw[←Nat.add_assoc] at q;exact q
    have r5:wr.cell? ⟨b1,o1+k*12+5,none⟩=some (.int .i64 (R (k*12+5))):=by have q:=hc1 (k*12+5) (by omega);rw[←Nat.add_assoc] at q;exact q
    have s5:wr.cell? ⟨b2,o2+k*12+5,none⟩=some (.int .i64 (R (k*12+5))):=by have q:=hc2 (k*12+5) (by omega);rw[←Nat.add_assoc] at q;exact q
    have r6:wr.cell? ⟨b1,o1+k*12+6,none⟩=some (.int .i64 (R (k*12+6))):=by have q:=hc1 (k*12+6) (by omega);rw[←Nat.add_assoc] at q;exact q
    have s6:wr.cell? ⟨b2,o2+k*12+6,none⟩=some (.int .i64 (R (k*12+6))):=by have q:=hc2 (k*12+6) (by omega);rw[←Nat.add_assoc] at q;exact q
    have r7:wr.cell? ⟨b1,o1+k*12+7,none⟩=some (.int .i64 (R (k*12+7))):=by have q:=hc1 (k*12+7) (by omega);rw[←Nat.add_assoc] at q;exact q
    have s7:wr.cell? ⟨b2,o2+k*12+7,none⟩=some (.int .i64 (R (k*12+7))):=by have q:=hc2 (k*12+7) (by omega);rw[←Nat.add_assoc] at q;exact q
    have r8:wr.cell? ⟨b1,o1+k*12+8,none⟩=some (.int .i64 (R (k*12+8))):=by have q:=hc1 (k*12+8) (by omega);rw[←Nat.add_assoc] at q;exact q
    have s8:wr.cell? ⟨b2,o2+k*12+8,none⟩=some (.int .i64 (R (k*12+8))):=by have q:=hc2 (k*12+8) (by omega);rw[←Nat.add_assoc] at q;exact q
    have r9:wr.cell? ⟨b1,o1+k*12+9,none⟩=some (.int .i64 (R (k*12+9))):=by have q:=hc1 (k*12+9) (by omega);rw[←Nat.add_assoc] at q;exact q
    have s9:wr.cell? ⟨b2,o2+k*12+9,none⟩=some (.int .i64 (R (k*12+9))):=by have q:=hc2 (k*12+9) (by omega);rw[←Nat.add_assoc] at q;exact q
    have r10:wr.cell? ⟨b1,o1+k*12+10,none⟩=some (.int .i64 (R (k*12+10))):=by have q:=hc1 (k*12+10) (by omega);rw[←Nat.add_assoc] at q;exact q
    have s10:wr.cell? ⟨b2,o2+k*12+10,none⟩=some (.int .i64 (R (k*12+10))):=by have q:=hc2 (k*12+10) (by omega);rw[←Nat.add_assoc] at q;exact q
    have r11:wr.cell? ⟨b1,o1+k*12+11,none⟩=some (.int .i64 (R (k*12+11))):=by have q:=hc1 (k*12+11) (by omega);rw[←Nat.add_assoc] at q;exact q
    have s11:wr.cell? ⟨b2,o2+k*12+11,none⟩=some (.int .i64 (R (k*12+11))):=by have q:=hc2 (k*12+11) (by omega);rw[←Nat.add_assoc] at q;exact q
    clear hc1 hc2
    subst e1 e2
    have hev:=eq_body0 (R (k*12)) (R (k*12+1)) (R (k*12+2)) (R (k*12+3)) (R (k*12+4)) (R (k*12+5)) (R (k*12+6)) (R (k*12+7)) (R (k*12+8)) (R (k*12+9)) (R (k*12+10)) (R (k*12+11))
    go_upto_region 6 with fail
    refine wp_region_held_drew (S:=fun w'=>w'.cell? ⟨b1,o1+k*12,none⟩=some (.int .i64 (R (k*12)))∧w'.cell? ⟨b1,o1+k*12+1,none⟩=some (.int .i64 (R (k*12+1)))∧w'.cell? ⟨b1,o1+k*12+2,none⟩=some (.int .i64 (R (k*12+2)))∧w'.cell? ⟨b1,o1+k*12+3,none⟩=some (.int .i64 (R (k*12+3)))∧w'.cell? ⟨b1,o1+k*12+4,none⟩=some (.int .i64 (R (k*12+4)))∧w'.cell? ⟨b1,o1+k*12+5,none⟩=some (.int .i64 (R (k*12+5)))∧w'.cell? ⟨b1,o1+k*12+6,none⟩=some (.int .i64 (R (k*12+6)))∧w'.cell? ⟨b1,o1+k*12+7,none⟩=some (.int .i64 (R (k*12+7)))∧w'.cell? ⟨b1,o1+k*12+8,none⟩=some (.int .i64 (R (k*12+8)))∧w'.cell? ⟨b1,o1+k*12+9,none⟩=some (.int .i64 (R (k*12+9)))∧w'.cell? ⟨b1,o1+k*12+10,none⟩=some (.int .i64 (R (k*12+10)))∧w'.cell? ⟨b1,o1+k*12+11,none⟩=some (.int .i64 (R (k*12+11)))∧w'.cell? ⟨b2,o2+k*12,none⟩=some (.int .i64 (R (k*12)))∧w'.cell? ⟨b2,o2+k*12+1,none⟩=some (.int .i64 (R (k*12+1)))∧w'.cell? ⟨b2,o2+k*12+2,none⟩=some (.int .i64 (R (k*12+2)))∧w'.cell? ⟨b2,o2+k*12+3,none⟩=some (.int .i64 (R (k*12+3)))∧w'.cell? ⟨b2,o2+k*12+4,none⟩=some (.int .i64 (R (k*12+4)))∧w'.cell? ⟨b2,o2+k*12+5,none⟩=some (.int .i64 (R (k*12+5)))∧w'.cell? ⟨b2,o2+k*12+6,none⟩=some (.int .i64 (R (k*12+6)))∧w'.cell? ⟨b2,o2+k*12+7,none⟩=some (.int .i64 (R (k*12+7)))∧w'.cell? ⟨b2,o2+k*12+8,none⟩=some (.int .i64 (R (k*12+8)))∧w'.cell? ⟨b2,o2+k*12+9,none⟩=some (.int .i64 (R (k*12+9)))∧w'.cell? ⟨b2,o2+k*12+10,none⟩=some (.int .i64 (R (k*12+10)))∧w'.cell? ⟨b2,o2+k*12+11,none⟩=some (.int .i64 (R (k*12+11)))) (by kernel_rfl) ?_ (fun hHeld=> ?_)
    · (try dsimp only)
      (first|(go_simp;done)|(go_keep;done))
    refine tq 0 hHeld ?_
    refine tq 1 hHeld ?_
    refine tq 2 hHeld ?_
    refine tq 3 hHeld ?_
    refine tq 4 hHeld ?_
    refine tq 5 hHeld ?_
    refine tq 6 hHeld ?_
    refine tq 7 hHeld ?_
    refine tq 8 hHeld ?_
    refine wpAnyH_done (by kernel_rfl) ?_ _
    go_wp2_with fail
    go_roundw
    case rel=>exact⟨k+1,by omega,by go_num,hw.drew⟩
    case measure=>simp[intOf];omega
  · obtain rfl:k=N:=by omega
    go_wp2_with fail
    go_ret
    exact⟨rfl,hw⟩
end Go.Proofs.YtbdbbdjifgpgeaaGreat
