/- Texts of a proof. -/
import Derived.Test.YtpmjnpmnocjjgaaGreatDoorB29
import Derived.Test.YtpmjnpmnocjjgaaGreatDoorB28
import Derived.Test.YtpmjnpmnocjjgaaGreatDoorS9q
import Derived.Test.YtpmjnpmnocjjgaaGreatDoorB19
import Derived.Test.YtpmjnpmnocjjgaaGreatDoorB18
import Derived.Test.YtpmjnpmnocjjgaaGreatDoorB30
import Derived.Test.YtpmjnpmnocjjgaaGreatDoorS8a
import Derived.Test.YtpmjnpmnocjjgaaGreatDoorB21
import Derived.Deep.RegionHeld3
import Derived.Deep.DeepCutAuto
import Derived.Test.YtpmjnpmnocjjgaaGreatDoorDrawBk
import Derived.Test.YtpmjnpmnocjjgaaGreatDoorB24
import Derived.Test.YtpmjnpmnocjjgaaGreatDoorB11
import Derived.Test.YtpmjnpmnocjjgaaGreatDoorB8
import Derived.Test.YtpmjnpmnocjjgaaGreatDoorB9
import Derived.Lib.SliceRun
import Derived.Test.YtpmjnpmnocjjgaaGreatDoorB6
import Derived.Test.YtpmjnpmnocjjgaaGreatDoorB13
import Derived.Test.YtpmjnpmnocjjgaaGreatDoorB26
import Derived.Test.YtpmjnpmnocjjgaaGreatDoorB16
set_option maxHeartbeats 16000000
set_option maxRecDepth 20000
namespace Go.Proofs.YtpmjnpmnocjjgaaGreatDoor
open Go.RowKit
set_option linter.unusedVariables false
set_option linter.unusedSimpArgs false
theorem OutL.up {w0 w wr:World} {t k n c:Nat} {a:Option Addr} {R:Nat→Int} (h:OutL w wr t k a n c R) (hb:Below w0.heap.size w0 w):OutL w0 wr t k a n c R:=⟨hb.trans (h.bel.mono hb.size),h.own.base hb.size⟩
theorem l8Aparts_any:ApartDoes:=fun base g n c U A B X Y D w h1 h2 h3 h4 h5 h6 h7 h8=>l8Apart_any base g n c U A B X Y D w h1 h2 h3 h4 h5 h6 h7 h8
def ctC (n:Nat) (U:Nat→Int):Nat→Int:=ofL (conL (colOf U) n)
def ctM (n:Nat) (U:Nat→Int):Nat:=(conL (colOf U) n).length/5
def gpG (n:Nat) (U:Nat→Int):Nat→Int:=ofL (grpL U (ctC n U) (ctM n U) n)
def awA (n:Nat) (U:Nat→Int):Nat→Bool:=fun j=>(awL U (gpG n U) n).getD j false
def awN (n:Nat) (U:Nat→Int):Nat:=(awL U (gpG n U) n).length
def wokeU (n:Nat) (U:Nat→Int):Nat→Int:=mapR (fun i V=>wakeV (awK (gpG n U) (awA n U) i) V) U n
def lvC (n:Nat) (U:Nat→Int):Nat→Int:=ofL (liveL (wokeU n U) (ctC n U) (ctM n U))
def lvM (n:Nat) (U:Nat→Int):Nat:=(liveL (wokeU n U) (ctC n U) (ctM n U)).length/5
def pushU (n:Nat) (U:Nat→Int) (g:Int):Nat→Int:=allN (lvC n U) (mapR (fun _ V=>pullV g V) (wokeU n U) n) (lvM n U) 4
def goneU (n:Nat) (U:Nat→Int) (g:Int):Nat→Int:=apartN (lvC n U) (mapR (fun _ V=>goV V) (pushU n U g) n) (lvM n U)
def stepU (n:Nat) (U:Nat→Int) (g:Int):Nat→Int:=sleepN (gpG n U) (awA n U) n (mapR (fun i V=>quietV (wokeU n U (i*12+11)) V) (goneU n U g) n) (awN n U)
theorem gp_val (n:Nat) (U:Nat→Int):∀ i,i<n→gpG n U i=valN U (ofL (grpR U (ctC n U) (ctM n U) (rng n) n)) i:=fun i hi=>ofL_num U _ n i hi
theorem ct_ok (n:Nat) (U:Nat→Int):CtOk n (ctM n U) (ctC n U)∧(conL (colOf U) n).length=ctM n U*5:=by
 obtain⟨m,e,_⟩:=conOut_ok (colOf U) n (n:=n)
 have e':(conL (colOf U) n).length=m*5:=e
 have hm:ctM n U=m:=by unfold ctM;omega
 rw[hm]
 exact⟨con_ct _ e',e'⟩
theorem lv_ok (n:Nat) (U:Nat→Int):CtOk n (lvM n U) (lvC n U)∧(liveL (wokeU n U) (ctC n U) (ctM n U)).length=lvM n U*5:=by
 have h:=live_ok (U:=wokeU n U) (con_P (colOf U) (ct_ok n U).2) (ctM n U) (Nat.le_refl _)
 obtain⟨m,e,_⟩:=id h
 have hm:lvM n U=m:=by unfold lvM ctC;omega
 rw[hm]
 exact⟨h.ct e,e⟩
theorem go8 (V:Nat→Int):goV V 8=V 8:=by unfold goV;cases liveV V<;>rfl
theorem quiet8 (z:Int) (V:Nat→Int):quietV z V 8=V 8:=by unfold quietV;cases (decide (V 8=0)||decide (8≤V 11))<;>rfl
theorem pull8 (z:Int) (V:Nat→Int):pullV z V 8=V 8:=by unfold pullV;cases liveV V<;>rfl
theorem wake8 (b:Bool) (V:Nat→Int):wakeV b V 8=V 8:=by unfold wakeV;first|(cases b<;>cases decide (8≤V 11)<;>rfl)|(split<;>rfl)
theorem Bods.steps {n:Nat} {U:Nat→Int} (h:Bods n U) (g:Int):
 Bods n (wokeU n U)∧Bods n (mapR (fun _ V=>pullV g V) (wokeU n U) n)∧Bods n (pushU n U g)∧Bods n (mapR (fun _ V=>goV V) (pushU n U g) n)∧Bods n (goneU n U g)∧Bods n (mapR (fun i V=>quietV (wokeU n U (i*12+11)) V) (goneU n U g) n)∧Bods n (stepU n U g)∧∀ k,k<n→stepU n U g (k*12+8)=U (k*12+8):=by
 have h1:Bods n (wokeU n U):=h.wake
 have h2:=h1.pull g
 have h3:Bods n (pushU n U g)∧∀ i,pushU n U g (i*12+8)=mapR (fun _ V=>pullV g V) (wokeU n U) n (i*12+8):=h2.all (lv_ok n U).1 4
 have h4:=h3.1.go
 have h5:Bods n (goneU n U g)∧∀ i,goneU n U g (i*12+8)=mapR (fun _ V=>goV V) (pushU n U g) n (i*12+8):=h4.aparts (lv_ok n U).1 (lvM n U) (Nat.le_refl _)
 have h6:Bods n (mapR (fun i V=>quietV (wokeU n U (i*12+11)) V) (goneU n U g) n):=h5.1.quiet h1
 have m6:∀ k,k<n→mapR (fun i V=>quietV (wokeU n U (i*12+11)) V) (goneU n U g) n (k*12+8)=U (k*12+8):=fun k hk=>by
  rw[mapR_in hk (by omega),quiet8]
  show goneU n U g (k*12+8)=_
  rw[h5.2 k,mapR_in hk (by omega),go8]
  show pushU n U g (k*12+8)=_
  rw[h3.2 k,mapR_in hk (by omega),pull8]
  show wokeU n U (k*12+8)=_
  unfold wokeU
  rw[mapR_in hk (by omega),wake8]
 have h7:=h6.sleep (G:=gpG n U) (A:=awA n U) (fun k hk hg=>by rw[m6 k hk];exact(grp_bd U _ (gpG n U) n (gp_val n U) k hk).2.2 hg) (awN n U)
 exact⟨h1,h2,h3.1,h4,h5.1,h6,h7.1,fun k hk=>(h7.2 k hk).trans (m6 k hk)⟩
theorem l9Step_any (a:Option Addr) (n c:Nat) (U:Nat→Int) (g:Int) (w:World) (h:Flat w a (n*12) U) (hbb:Bods n U) (hg:0≤g∧g≤2560):
 Calls Tryz.prog 17 #[.slice a n c,.int .i64 g] w fun e w'=>∃ a1 c1,e= .returned (.slice a1 n c1)∧OutL w w' 35 12 a1 n c1 (stepU n U g):=by
 have hset:=cset_map
 have hn12:=hbb.le
 obtain⟨B1,B2,B3,B4,B5,B6,B7,_⟩:=hbb.steps g
 obtain⟨K1,L1⟩:=ct_ok n U
 obtain⟨K2,L2⟩:=lv_ok n U
 have hG:=grp_bd U _ (gpG n U) n (gp_val n U)
 have hm1:ctM n U≤1048576:=by
  obtain⟨m,e,hm⟩:=conOut_len (colOf U) n n
  have e':(conL (colOf U) n).length=m*5:=e
  have:=Nat.mul_le_mul hn12 hn12
  omega
 have hm2:lvM n U≤1048576:=by have:=liveL_len (wokeU n U) (ctC n U) (ctM n U);omega
 have hq2:∀ k,k<n→0≤wokeU n U (k*12+11)∧wokeU n U (k*12+11)≤8:=fun k hk=>(bodyB_bd (B1.ok k hk)).2.1
 have hna:awN n U≤1048576:=by have:=awL_len U (gpG n U) n;unfold awN;omega
 go_enter Tryz.func17,Tryz.ntmps17
 go_upto_region 2 with(go_at_call 29;refine(l7Contacts_any a n c U _ h hbb.to hn12).mono ?_;rintro e w1 ⟨a1,m1,c1,rfl,hm,hO1⟩)
 obtain rfl:m1=ctM n U:=by omega
 have hO1:OutL w w1 108 5 a1 (ctM n U) c1 (ctC n U):=hO1
 have h1:=h.below hO1.bel
 have f1:=hO1.own.flat
 go_upto_region 3 with(go_at_call 30;refine(l7Groups_any a n c U a1 (ctM n U) c1 (ctC n U) _ h1 (by omega) hm1 f1 K1).mono ?_;rintro e w2 ⟨g2,c2,rfl,hO2⟩)
 have h2:=h1.below hO2.bel
 have f12:=f1.below hO2.bel
 have f2:Flat w2 (some ⟨g2,0,none⟩) (n*1) (gpG n U):=hO2.flat
 go_upto_region 4 with(go_at_call 31;refine(l7Awake_any a n c U (some ⟨g2,0,none⟩) c2 (gpG n U) _ h2 (by omega) f2 (fun i hi=>(hG i hi).1)).mono ?_;rintro e w3 ⟨g3,c3,na,rfl,hna3,hO3⟩)
 obtain rfl:na=awN n U:=hna3
 have h3:=h2.below hO3.bel
 have f13:=f12.below hO3.bel
 have f23:=f2.below hO3.bel
 have f3:FlatB w3 (some ⟨g3,0,none⟩) (awN n U) (awA n U):=hO3.flatB
 go_upto_region 5 with(go_at_call 32;refine(l9Wake_any a n c U (some ⟨g2,0,none⟩) c2 (gpG n U) (some ⟨g3,0,none⟩) (awN n U) c3 (awA n U) _ h3 (by omega) f23 f3 (fun i hi=>(hG i hi).2.1)).mono ?_;rintro e w4 ⟨a4,c4,rfl,hO4⟩)
 have hO4:OutL w3 w4 35 12 a4 n c4 (wokeU n U):=hO4
 have f14:=f13.below hO4.bel
 have f24:=f23.below hO4.bel
 have f34:=f3.below hO4.bel (B:=0)
 have f4:=hO4.own.flat
 go_upto_region 6 with(go_at_call 33;refine(l9Live_any a4 n c4 (wokeU n U) a1 (ctM n U) c1 (ctC n U) _ f4 (by omega) hm1 f14 (fun k hk=>⟨K1.a k hk,K1.b k hk⟩)).mono ?_;rintro e w5 ⟨a5,m5,c5,rfl,hm5,hO5⟩)
 obtain rfl:m5=lvM n U:=by omega
 have hO5:OutL w4 w5 108 5 a5 (lvM n U) c5 (lvC n U):=hO5
 have f25:=f24.below hO5.bel
 have f35:=f34.below hO5.bel (B:=0)
 have f45:=f4.below hO5.bel
 have f5:=hO5.own.flat
 go_upto_region 7 with(first
  |(go_at_call 35;refine(l9Pull_any a4 n c4 (wokeU n U) g _ f45 (by omega) hg B1).mono ?_;rintro e w6 ⟨a6,c6,rfl,hO6⟩)
  |(go_at_call 34;refine(l8All_any a6 n c6 _ a5 (lvM n U) c5 (lvC n U) _ hO6.own.flat (by omega) hm2 (f5.below hO6.bel) B2 K2).mono ?_;rintro e w7 ⟨a7,c7,rfl,hO7⟩))
 have hO7:OutL w6 w7 35 12 a7 n c7 (pushU n U g):=hO7
 have f27:=(f25.below hO6.bel).below hO7.bel
 have f37:=(f35.below hO6.bel (B:=0)).below hO7.bel (B:=0)
 have f47:=(f45.below hO6.bel).below hO7.bel
 have f57:=(f5.below hO6.bel).below hO7.bel
 have f7:=hO7.own.flat
 go_upto_region 8 with(first
  |(go_at_call 37;refine(l9Moves_any a7 n c7 (pushU n U g) _ f7 (by omega) B3).mono ?_;rintro e w8 ⟨a8,c8,rfl,hO8⟩)
  |(go_at_call 36;refine(l8Aparts_of l8Aparts_any a8 n c8 _ a5 (lvM n U) c5 (lvC n U) _ hO8.own.flat (by omega) hm2 (f57.below hO8.bel) B4 K2).mono ?_;rintro e w9 ⟨a9,c9,rfl,hO9⟩))
 have hO9:OutL w8 w9 35 12 a9 n c9 (goneU n U g):=hO9
 have f29:=(f27.below hO8.bel).below hO9.bel
 have f39:=(f37.below hO8.bel (B:=0)).below hO9.bel (B:=0)
 have f49:=(f47.below hO8.bel).below hO9.bel
 have f9:=hO9.own.flat
 go_wp2_with (first
  |(go_at_call 39;refine(l9Quiet_any a9 n c9 (goneU n U g) a4 c4 (wokeU n U) _ f9 (by omega) B5 f49 hq2).mono ?_;rintro e w10 ⟨a10,c10,rfl,hO10⟩)
  |(go_at_call 38;refine(l9Sleep_any a10 n c10 _ (some ⟨g2,0,none⟩) c2 (gpG n U) (some ⟨g3,0,none⟩) (awN n U) c3 (awA n U) _ hO10.own.flat (by omega) hna (f29.below hO10.bel) (f39.below hO10.bel (B:=0))).mono ?_;rintro e w11 ⟨a11,c11,rfl,hO11⟩))
 go_ret
 have b2:=hO1.bel.trans (hO2.bel.mono hO1.bel.size)
 have b3:=b2.trans (hO3.bel.mono b2.size)
 have b4:=b3.trans (hO4.bel.mono b3.size)
 have b5:=b4.trans (hO5.bel.mono b4.size)
 have b6:=b5.trans (hO6.bel.mono b5.size)
 have b7:=b6.trans (hO7.bel.mono b6.size)
 have b8:=b7.trans (hO8.bel.mono b7.size)
 have b9:=b8.trans (hO9.bel.mono b8.size)
 have b10:=b9.trans (hO10.bel.mono b9.size)
 exact⟨_,_,rfl,hO11.up b10⟩
theorem Al.far {w0 w:World} {ab n b k:Nat} {V:Nat→Int} (h:Al w0 w ab n V) (hb:ab≠b) (v:Value):Al w0 (w.setCell ⟨b,k,none⟩ v) ab n V:=h.off hb v
def BN (V:Nat→Int):Prop:=∀ j,j<12→Bn (V j)
theorem BN.set {V:Nat→Int} (h:BN V) {k:Nat} {v:Int} (hv:Bn v):BN (fun j=>if j=k then v else V j):=by
 intro j hj
 by_cases e:j=k
 · simp only[e,if_true];exact hv
 · simp only[e,if_false];exact h j hj
theorem bn_of {V:Nat→Int} (h:bodyB V=true):BN V:=by
 obtain⟨a8,a11,a4,a5,a6,a7,a9,a10,sh,_⟩:=bodyB_bd h
 have a0:0≤V 0∧V 0≤999999999:=by unfold bodyB at h;rw[Bool.and_eq_true] at h;exact of_decide_eq_true h.1
 have s3:Bn (V 1)∧Bn (V 2)∧Bn (V 3):=by unfold shB rdB bxB at sh;rw[Bool.or_eq_true] at sh;simp only[decide_eq_true_eq] at sh;unfold Bn;rcases sh with q|q<;>omega
 intro j hj
 unfold Bn at*
 rcases(show j=0∨j=1∨j=2∨j=3∨j=4∨j=5∨j=6∨j=7∨j=8∨j=9∨j=10∨j=11 by omega) with rfl|rfl|rfl|rfl|rfl|rfl|rfl|rfl|rfl|rfl|rfl|rfl<;>omega
theorem l11Body_s (rb p:Nat) (id:Int) (w:World) (hs0:RS w rb p) (hp:p≤800000) (hid:0≤id∧id≤999999999):
 Calls Tryz.prog 50 #[.pointer (some ⟨rb,0,none⟩),.int .i64 id] w fun e w'=>∃ V:Nat→Int,e= .returned (bodyW V)∧(BN V∧True)∧RB w w' rb (p+1000):=
 (l11Body_k rb p id w hs0 hp hid).mono fun e w' ⟨V,a,b,c⟩=>⟨V,a,⟨bn_of b.1,trivial⟩,c⟩
structure DA (w w':World) (rb p ab:Nat) (V:Nat→Int):Prop where
 but:But rb w w'
 rs:RS w' rb p
 res:Al w w' w.heap.size 12 (fun _=>0)
 bod:Al w w' ab 12 V
 far:w.heap.size<ab
 bf:BN V
theorem DA.call {w w' w1:World} {rb p p1 ab:Nat} {V:Nat→Int} (h:DA w w' rb p ab V) (hrb:rb<w.heap.size) (k:RB w' w1 rb p1):DA w w1 rb p1 ab V:=
 ⟨h.but.trans k.but,RS.of k,h.res.up hrb k.but,h.bod.up hrb k.but,h.far,h.bf⟩
theorem DA.mono {w w':World} {rb p p1 ab:Nat} {V:Nat→Int} (h:DA w w' rb p ab V) (k:p≤p1):DA w w' rb p1 ab V:=
 ⟨h.but,h.rs.mono k,h.res,h.bod,h.far,h.bf⟩
theorem DA.set {w w':World} {rb p ab:Nat} {V:Nat→Int} (h:DA w w' rb p ab V) (hrb:rb<w.heap.size) (k:Nat) (hk:k<12) (v:Int) (hv:Bn v):
 DA w (w'.setCell ⟨ab,k,none⟩ (.int .i64 v)) rb p ab (fun j=>if j=k then v else V j):=by
 have hf:=h.far
 exact⟨h.but.setNew (by simp;omega) _,h.rs.setNew (by simp;omega) _,h.res.far (by omega) _,h.bod.set k hk v,h.far,h.bf.set hv⟩
theorem l11AnyBody_s (rb p:Nat) (w:World) (hs0:RS w rb p) (hp:p≤700000):
 Calls Tryz.prog 25 #[.pointer (some ⟨rb,0,none⟩)] w fun e w'=>∃ V:Nat→Int,e= .returned (bodyW V)∧BN V∧RB w w' rb (p+3000):=by
 have hlt:=hs0.lt
 have hne:(w.heap.size=rb)=False:=eq_false (by omega)
 have hset:=cset_map
 go_enter Tryz.func25,Tryz.ntmps25
 go_upto_region 1 with fail
 have r0:Al w (w.alloc (.cells #[.int .i64 0,.int .i64 0,.int .i64 0,.int .i64 0,.int .i64 0,.int .i64 0,.int .i64 0,.int .i64 0,.int .i64 0,.int .i64 0,.int .i64 0,.int .i64 0] 35)) w.heap.size 12 (fun _=>0):=Al.new (Nat.le_refl _) (by intro i hi;rcases(show i=0∨i=1∨i=2∨i=3∨i=4∨i=5∨i=6∨i=7∨i=8∨i=9∨i=10∨i=11 by omega) with rfl|rfl|rfl|rfl|rfl|rfl|rfl|rfl|rfl|rfl|rfl|rfl<;>rfl)
 have hs1:RS (w.alloc (.cells #[.int .i64 0,.int .i64 0,.int .i64 0,.int .i64 0,.int .i64 0,.int .i64 0,.int .i64 0,.int .i64 0,.int .i64 0,.int .i64 0,.int .i64 0,.int .i64 0] 35)) rb p:=hs0.alloc _
 have hb0:But rb w (w.alloc (.cells #[.int .i64 0,.int .i64 0,.int .i64 0,.int .i64 0,.int .i64 0,.int .i64 0,.int .i64 0,.int .i64 0,.int .i64 0,.int .i64 0,.int .i64 0,.int .i64 0] 35)):=but_alloc rb _ _
 generalize w.alloc (.cells #[.int .i64 0,.int .i64 0,.int .i64 0,.int .i64 0,.int .i64 0,.int .i64 0,.int .i64 0,.int .i64 0,.int .i64 0,.int .i64 0,.int .i64 0,.int .i64 0] 35)=w0 at*
 have hz0:=hb0.size
 go_cut [3] (fun s3 wc=>∃ (ab:Nat) (V:Nat→Int),s3= .pointer (some ⟨ab,0,none⟩)∧DA w wc rb (p+2000) ab V)
 case first=>
  go_wp2_with (first
  |(have _:=hr1;go_at_call 50;refine(l11Body_s rb (p+10) _ _ (by exact RS.up hr1 (by omega)) (by omega) ⟨by omega,by omega⟩).mono ?_;rintro e w2 ⟨V2,rfl,hd2,hr2⟩)
  |(go_at_call 24;refine(pick_s rb (p) _ _ (by exact hs1) (by omega) (by omega) (by omega)).mono ?_;rintro e w1 ⟨v1,rfl,va1,vb1,hr1⟩))
  go_meet
  have ht2:=(RB.but hr1).trans (RB.but hr2)
  have hz2:=(hb0.trans ht2).size
  have hz3:w0.heap.size≤w2.heap.size:=Nat.le_trans (RB.size hr1) (RB.size hr2)
  have hlo:=r0.2.1
  exact⟨_,V2,rfl,(hb0.trans ht2).alloc _,(RS.up hr2 (by omega)).alloc _,(r0.up hlt ht2).up hlt (but_alloc rb _ _),Al.new hz2 (by intro i hi;rcases(show i=0∨i=1∨i=2∨i=3∨i=4∨i=5∨i=6∨i=7∨i=8∨i=9∨i=10∨i=11 by omega) with rfl|rfl|rfl|rfl|rfl|rfl|rfl|rfl|rfl|rfl|rfl|rfl<;>rfl),by omega,hd2.1⟩
 case rest=>
 obtain⟨ab,V,rfl,hD⟩:=hcut
 clear hs1 hb0 r0 hz0 w0
 go_upto_region 2 with fail
 have hlo:=hD.far
 go_cut [9] (fun s9 wc=>∃ (v7:Int) (V:Nat→Int),s9= .int .i64 v7∧DA w wc rb (p+2100) ab V)
 case first=>
  go_wp2_with (go_at_call 24;refine(pick_s rb (p+2000) _ _ (by exact hD.rs) (by omega) (by omega) (by omega)).mono ?_;rintro e w7 ⟨v7,rfl,va7,vb7,hr7⟩)
  go_meet
  exact⟨_,_,rfl,(hD.call hlt hr7).mono (by omega)⟩
 case rest=>
 clear hD
 obtain⟨v7,V,rfl,hD⟩:=hcut
 have hD7:=hD.mono (p1:=p+3000) (by omega)
 have kc0:=(hD7.bod).2.2.1 0 (by omega)
 have kf0:=(hD7.bod).2.2.2 0 (by omega)
 have kc1:=(hD7.bod).2.2.1 1 (by omega)
 have kf1:=(hD7.bod).2.2.2 1 (by omega)
 have kc2:=(hD7.bod).2.2.1 2 (by omega)
 have kf2:=(hD7.bod).2.2.2 2 (by omega)
 have kc3:=(hD7.bod).2.2.1 3 (by omega)
 have kf3:=(hD7.bod).2.2.2 3 (by omega)
 have kc4:=(hD7.bod).2.2.1 4 (by omega)
 have kf4:=(hD7.bod).2.2.2 4 (by omega)
 have kc5:=(hD7.bod).2.2.1 5 (by omega)
 have kf5:=(hD7.bod).2.2.2 5 (by omega)
 have kc6:=(hD7.bod).2.2.1 6 (by omega)
 have kf6:=(hD7.bod).2.2.2 6 (by omega)
 have kc7:=(hD7.bod).2.2.1 7 (by omega)
 have kf7:=(hD7.bod).2.2.2 7 (by omega)
 have kc8:=(hD7.bod).2.2.1 8 (by omega)
 have kf8:=(hD7.bod).2.2.2 8 (by omega)
 have kc9:=(hD7.bod).2.2.1 9 (by omega)
 have kf9:=(hD7.bod).2.2.2 9 (by omega)
 have kc10:=(hD7.bod).2.2.1 10 (by omega)
 have kf10:=(hD7.bod).2.2.2 10 (by omega)
 have kc11:=(hD7.bod).2.2.1 11 (by omega)
 have kf11:=(hD7.bod).2.2.2 11 (by omega)
 go_upto_region 19 with(first
  |(go_at_call 13;refine(one_s (-20000001) 1000000001 rb (p+2100) _ _ _ _ _ (by exact hD.rs) (by omega) (by repeat(first|exact AllBd.nil|refine AllBd.cons (by omega) (by omega) ?_)) (by rfl) (by omega) (by omega)).mono ?_;rintro e w8 ⟨v8,rfl,va8,vb8,hr8⟩;have hD8:=(hD.call hlt hr8).mono (p1:=p+3000) (by omega);have mc0:=(hD8.bod).2.2.1 0 (by omega);have mf0:=(hD8.bod).2.2.2 0 (by omega);have mc1:=(hD8.bod).2.2.1 1 (by omega);have mf1:=(hD8.bod).2.2.2 1 (by omega);have mc2:=(hD8.bod).2.2.1 2 (by omega);have mf2:=(hD8.bod).2.2.2 2 (by omega);have mc3:=(hD8.bod).2.2.1 3 (by omega);have mf3:=(hD8.bod).2.2.2 3 (by omega);have mc4:=(hD8.bod).2.2.1 4 (by omega);have mf4:=(hD8.bod).2.2.2 4 (by omega);have mc5:=(hD8.bod).2.2.1 5 (by omega);have mf5:=(hD8.bod).2.2.2 5 (by omega);have mc6:=(hD8.bod).2.2.1 6 (by omega);have mf6:=(hD8.bod).2.2.2 6 (by omega);have mc7:=(hD8.bod).2.2.1 7 (by omega);have mf7:=(hD8.bod).2.2.2 7 (by omega);have mc8:=(hD8.bod).2.2.1 8 (by omega);have mf8:=(hD8.bod).2.2.2 8 (by omega);have mc9:=(hD8.bod).2.2.1 9 (by omega);have mf9:=(hD8.bod).2.2.2 9 (by omega);have mc10:=(hD8.bod).2.2.1 10 (by omega);have mf10:=(hD8.bod).2.2.2 10 (by omega);have mc11:=(hD8.bod).2.2.1 11 (by omega);have mf11:=(hD8.bod).2.2.2 11 (by omega))
  |(go_at_call 52;refine(l11AnyShape_s rb (p+2100) _ (by exact hD.rs) (by omega)).mono ?_;rintro e w8 ⟨k8,g8,h8,rfl,hd8,hr8⟩;have hD8:=(hD.call hlt hr8).mono (p1:=p+3000) (by omega);have mc0:=(hD8.bod).2.2.1 0 (by omega);have mf0:=(hD8.bod).2.2.2 0 (by omega);have mc1:=(hD8.bod).2.2.1 1 (by omega);have mf1:=(hD8.bod).2.2.2 1 (by omega);have mc2:=(hD8.bod).2.2.1 2 (by omega);have mf2:=(hD8.bod).2.2.2 2 (by omega);have mc3:=(hD8.bod).2.2.1 3 (by omega);have mf3:=(hD8.bod).2.2.2 3 (by omega);have mc4:=(hD8.bod).2.2.1 4 (by omega);have mf4:=(hD8.bod).2.2.2 4 (by omega);have mc5:=(hD8.bod).2.2.1 5 (by omega);have mf5:=(hD8.bod).2.2.2 5 (by omega);have mc6:=(hD8.bod).2.2.1 6 (by omega);have mf6:=(hD8.bod).2.2.2 6 (by omega);have mc7:=(hD8.bod).2.2.1 7 (by omega);have mf7:=(hD8.bod).2.2.2 7 (by omega);have mc8:=(hD8.bod).2.2.1 8 (by omega);have mf8:=(hD8.bod).2.2.2 8 (by omega);have mc9:=(hD8.bod).2.2.1 9 (by omega);have mf9:=(hD8.bod).2.2.2 9 (by omega);have mc10:=(hD8.bod).2.2.1 10 (by omega);have mf10:=(hD8.bod).2.2.2 10 (by omega);have mc11:=(hD8.bod).2.2.1 11 (by omega);have mf11:=(hD8.bod).2.2.2 11 (by omega))
  |(go_at_call 53;refine(l11AnyPlace_s rb (p+2100) _ (by exact hD.rs) (by omega)).mono ?_;rintro e w8 ⟨x8,y8,rfl,hd8,hr8⟩;have hD8:=(hD.call hlt hr8).mono (p1:=p+3000) (by omega);have mc0:=(hD8.bod).2.2.1 0 (by omega);have mf0:=(hD8.bod).2.2.2 0 (by omega);have mc1:=(hD8.bod).2.2.1 1 (by omega);have mf1:=(hD8.bod).2.2.2 1 (by omega);have mc2:=(hD8.bod).2.2.1 2 (by omega);have mf2:=(hD8.bod).2.2.2 2 (by omega);have mc3:=(hD8.bod).2.2.1 3 (by omega);have mf3:=(hD8.bod).2.2.2 3 (by omega);have mc4:=(hD8.bod).2.2.1 4 (by omega);have mf4:=(hD8.bod).2.2.2 4 (by omega);have mc5:=(hD8.bod).2.2.1 5 (by omega);have mf5:=(hD8.bod).2.2.2 5 (by omega);have mc6:=(hD8.bod).2.2.1 6 (by omega);have mf6:=(hD8.bod).2.2.2 6 (by omega);have mc7:=(hD8.bod).2.2.1 7 (by omega);have mf7:=(hD8.bod).2.2.2 7 (by omega);have mc8:=(hD8.bod).2.2.1 8 (by omega);have mf8:=(hD8.bod).2.2.2 8 (by omega);have mc9:=(hD8.bod).2.2.1 9 (by omega);have mf9:=(hD8.bod).2.2.2 9 (by omega);have mc10:=(hD8.bod).2.2.1 10 (by omega);have mf10:=(hD8.bod).2.2.2 10 (by omega);have mc11:=(hD8.bod).2.2.1 11 (by omega);have mf11:=(hD8.bod).2.2.2 11 (by omega)))
 clear kc0 kf0 kc1 kf1 kc2 kf2 kc3 kf3 kc4 kf4 kc5 kf5 kc6 kf6 kc7 kf7 kc8 kf8 kc9 kf9 kc10 kf10 kc11 kf11
 clear mc0 mf0 mc1 mf1 mc2 mf2 mc3 mf3 mc4 mf4 mc5 mf5 mc6 mf6 mc7 mf7 mc8 mf8 mc9 mf9 mc10 mf10 mc11 mf11
 have hE:=(hD8.set hlt 0 (by omega) v8 ⟨by omega,by omega⟩)
 generalize (w8.setCell ⟨ab,0,none⟩ (.int .i64 v8))=wx at hE ⊢
 obtain⟨Vx,hE⟩:∃ Vx,DA w wx rb (p+3000) ab Vx:=⟨_,hE⟩
 rotate_left
 clear kc0 kf0 kc1 kf1 kc2 kf2 kc3 kf3 kc4 kf4 kc5 kf5 kc6 kf6 kc7 kf7 kc8 kf8 kc9 kf9 kc10 kf10 kc11 kf11
 clear mc0 mf0 mc1 mf1 mc2 mf2 mc3 mf3 mc4 mf4 mc5 mf5 mc6 mf6 mc7 mf7 mc8 mf8 mc9 mf9 mc10 mf10 mc11 mf11
 have hE:=(((hD8.set hlt 1 (by omega) k8 hd8.1).set hlt 2 (by omega) g8 hd8.2.1).set hlt 3 (by omega) h8 hd8.2.2)
 generalize (((w8.setCell ⟨ab,1,none⟩ (.int .i64 k8)).setCell ⟨ab,2,none⟩ (.int .i64 g8)).setCell ⟨ab,3,none⟩ (.int .i64 h8))=wx at hE ⊢
 obtain⟨Vx,hE⟩:∃ Vx,DA w wx rb (p+3000) ab Vx:=⟨_,hE⟩
 rotate_left
 clear kc0 kf0 kc1 kf1 kc2 kf2 kc3 kf3 kc4 kf4 kc5 kf5 kc6 kf6 kc7 kf7 kc8 kf8 kc9 kf9 kc10 kf10 kc11 kf11
 clear mc0 mf0 mc1 mf1 mc2 mf2 mc3 mf3 mc4 mf4 mc5 mf5 mc6 mf6 mc7 mf7 mc8 mf8 mc9 mf9 mc10 mf10 mc11 mf11
 have hE:=((hD8.set hlt 4 (by omega) x8 hd8.1).set hlt 5 (by omega) y8 hd8.2)
 generalize ((w8.setCell ⟨ab,4,none⟩ (.int .i64 x8)).setCell ⟨ab,5,none⟩ (.int .i64 y8))=wx at hE ⊢
 obtain⟨Vx,hE⟩:∃ Vx,DA w wx rb (p+3000) ab Vx:=⟨_,hE⟩
 rotate_left
 clear kc0 kf0 kc1 kf1 kc2 kf2 kc3 kf3 kc4 kf4 kc5 kf5 kc6 kf6 kc7 kf7 kc8 kf8 kc9 kf9 kc10 kf10 kc11 kf11
 clear mc0 mf0 mc1 mf1 mc2 mf2 mc3 mf3 mc4 mf4 mc5 mf5 mc6 mf6 mc7 mf7 mc8 mf8 mc9 mf9 mc10 mf10 mc11 mf11
 have hE:=(hD8.set hlt 6 (by omega) v8 ⟨by omega,by omega⟩)
 generalize (w8.setCell ⟨ab,6,none⟩ (.int .i64 v8))=wx at hE ⊢
 obtain⟨Vx,hE⟩:∃ Vx,DA w wx rb (p+3000) ab Vx:=⟨_,hE⟩
 rotate_left
 clear kc0 kf0 kc1 kf1 kc2 kf2 kc3 kf3 kc4 kf4 kc5 kf5 kc6 kf6 kc7 kf7 kc8 kf8 kc9 kf9 kc10 kf10 kc11 kf11
 clear mc0 mf0 mc1 mf1 mc2 mf2 mc3 mf3 mc4 mf4 mc5 mf5 mc6 mf6 mc7 mf7 mc8 mf8 mc9 mf9 mc10 mf10 mc11 mf11
 have hE:=(hD8.set hlt 8 (by omega) v8 ⟨by omega,by omega⟩)
 generalize (w8.setCell ⟨ab,8,none⟩ (.int .i64 v8))=wx at hE ⊢
 obtain⟨Vx,hE⟩:∃ Vx,DA w wx rb (p+3000) ab Vx:=⟨_,hE⟩
 rotate_left
 clear kc0 kf0 kc1 kf1 kc2 kf2 kc3 kf3 kc4 kf4 kc5 kf5 kc6 kf6 kc7 kf7 kc8 kf8 kc9 kf9 kc10 kf10 kc11 kf11
 clear mc0 mf0 mc1 mf1 mc2 mf2 mc3 mf3 mc4 mf4 mc5 mf5 mc6 mf6 mc7 mf7 mc8 mf8 mc9 mf9 mc10 mf10 mc11 mf11
 have hE:=(hD8.set hlt 9 (by omega) v8 ⟨by omega,by omega⟩)
 generalize (w8.setCell ⟨ab,9,none⟩ (.int .i64 v8))=wx at hE ⊢
 obtain⟨Vx,hE⟩:∃ Vx,DA w wx rb (p+3000) ab Vx:=⟨_,hE⟩
 rotate_left
 clear kc0 kf0 kc1 kf1 kc2 kf2 kc3 kf3 kc4 kf4 kc5 kf5 kc6 kf6 kc7 kf7 kc8 kf8 kc9 kf9 kc10 kf10 kc11 kf11
 clear mc0 mf0 mc1 mf1 mc2 mf2 mc3 mf3 mc4 mf4 mc5 mf5 mc6 mf6 mc7 mf7 mc8 mf8 mc9 mf9 mc10 mf10 mc11 mf11
 have hE:=(hD8.set hlt 11 (by omega) v8 ⟨by omega,by omega⟩)
 generalize (w8.setCell ⟨ab,11,none⟩ (.int .i64 v8))=wx at hE ⊢
 obtain⟨Vx,hE⟩:∃ Vx,DA w wx rb (p+3000) ab Vx:=⟨_,hE⟩
 rotate_left
 clear kc0 kf0 kc1 kf1 kc2 kf2 kc3 kf3 kc4 kf4 kc5 kf5 kc6 kf6 kc7 kf7 kc8 kf8 kc9 kf9 kc10 kf10 kc11 kf11
 clear mc0 mf0 mc1 mf1 mc2 mf2 mc3 mf3 mc4 mf4 mc5 mf5 mc6 mf6 mc7 mf7 mc8 mf8 mc9 mf9 mc10 mf10 mc11 mf11
 have hE:=(hD8.set hlt 10 (by omega) v8 ⟨by omega,by omega⟩)
 generalize (w8.setCell ⟨ab,10,none⟩ (.int .i64 v8))=wx at hE ⊢
 obtain⟨Vx,hE⟩:∃ Vx,DA w wx rb (p+3000) ab Vx:=⟨_,hE⟩
 rotate_left
 clear kc0 kf0 kc1 kf1 kc2 kf2 kc3 kf3 kc4 kf4 kc5 kf5 kc6 kf6 kc7 kf7 kc8 kf8 kc9 kf9 kc10 kf10 kc11 kf11
 have hE:=hD7
 obtain⟨Vx,hE⟩:∃ Vx,DA w wc rb (p+3000) ab Vx:=⟨_,hE⟩
 rotate_left
 all_goals
  have h0:=hE
  have ec0:=(hE.bod).2.2.1 0 (by omega)
  have ef0:=(hE.bod).2.2.2 0 (by omega)
  have ec1:=(hE.bod).2.2.1 1 (by omega)
  have ef1:=(hE.bod).2.2.2 1 (by omega)
  have ec2:=(hE.bod).2.2.1 2 (by omega)
  have ef2:=(hE.bod).2.2.2 2 (by omega)
  have ec3:=(hE.bod).2.2.1 3 (by omega)
  have ef3:=(hE.bod).2.2.2 3 (by omega)
  have ec4:=(hE.bod).2.2.1 4 (by omega)
  have ef4:=(hE.bod).2.2.2 4 (by omega)
  have ec5:=(hE.bod).2.2.1 5 (by omega)
  have ef5:=(hE.bod).2.2.2 5 (by omega)
  have ec6:=(hE.bod).2.2.1 6 (by omega)
  have ef6:=(hE.bod).2.2.2 6 (by omega)
  have ec7:=(hE.bod).2.2.1 7 (by omega)
  have ef7:=(hE.bod).2.2.2 7 (by omega)
  have ec8:=(hE.bod).2.2.1 8 (by omega)
  have ef8:=(hE.bod).2.2.2 8 (by omega)
  have ec9:=(hE.bod).2.2.1 9 (by omega)
  have ef9:=(hE.bod).2.2.2 9 (by omega)
  have ec10:=(hE.bod).2.2.1 10 (by omega)
  have ef10:=(hE.bod).2.2.2 10 (by omega)
  have ec11:=(hE.bod).2.2.1 11 (by omega)
  have ef11:=(hE.bod).2.2.2 11 (by omega)
  have rc0:=(hE.res).2.2.1 0 (by omega)
  have rf0:=(hE.res).2.2.2 0 (by omega)
  have rc1:=(hE.res).2.2.1 1 (by omega)
  have rf1:=(hE.res).2.2.2 1 (by omega)
  have rc2:=(hE.res).2.2.1 2 (by omega)
  have rf2:=(hE.res).2.2.2 2 (by omega)
  have rc3:=(hE.res).2.2.1 3 (by omega)
  have rf3:=(hE.res).2.2.2 3 (by omega)
  have rc4:=(hE.res).2.2.1 4 (by omega)
  have rf4:=(hE.res).2.2.2 4 (by omega)
  have rc5:=(hE.res).2.2.1 5 (by omega)
  have rf5:=(hE.res).2.2.2 5 (by omega)
  have rc6:=(hE.res).2.2.1 6 (by omega)
  have rf6:=(hE.res).2.2.2 6 (by omega)
  have rc7:=(hE.res).2.2.1 7 (by omega)
  have rf7:=(hE.res).2.2.2 7 (by omega)
  have rc8:=(hE.res).2.2.1 8 (by omega)
  have rf8:=(hE.res).2.2.2 8 (by omega)
  have rc9:=(hE.res).2.2.1 9 (by omega)
  have rf9:=(hE.res).2.2.2 9 (by omega)
  have rc10:=(hE.res).2.2.1 10 (by omega)
  have rf10:=(hE.res).2.2.2 10 (by omega)
  have rc11:=(hE.res).2.2.1 11 (by omega)
  have rf11:=(hE.res).2.2.2 11 (by omega)
  go_wp2_with fail
  exact bodyPost_ret (v:=bodyW Vx) (by simp[results,Tryz.results25,go_sem, *]) rfl ⟨Vx,rfl,hE.bf,RB.mk ((((((((((((hE.but.setNew (by simp) _).setNew (by simp) _).setNew (by simp) _).setNew (by simp) _).setNew (by simp) _).setNew (by simp) _).setNew (by simp) _).setNew (by simp) _).setNew (by simp) _).setNew (by simp) _).setNew (by simp) _).setNew (by simp) _) (((((((((((((hE.rs.mono (by omega)).setNew (by simp;omega) _).setNew (by simp;omega) _).setNew (by simp;omega) _).setNew (by simp;omega) _).setNew (by simp;omega) _).setNew (by simp;omega) _).setNew (by simp;omega) _).setNew (by simp;omega) _).setNew (by simp;omega) _).setNew (by simp;omega) _).setNew (by simp;omega) _).setNew (by simp;omega) _)⟩
def Blk (w:World) (b:Nat) (cs:Array Value) (t:TypeId):Prop:=w.heap[b]? =some (.cells cs t (0,0))
theorem Blk.lt {w:World} {b:Nat} {cs:Array Value} {t:TypeId} (h:Blk w b cs t):b<w.heap.size:=by
 rcases Nat.lt_or_ge b w.heap.size with q|q
 · exact q
 · unfold Blk at h;rw[Array.getElem?_eq_none q] at h;cases h
theorem Blk.cell {w:World} {b:Nat} {cs:Array Value} {t:TypeId} (h:Blk w b cs t) (i:Nat) {v:Value} (hv:cs[i]? =some v):w.cell? ⟨b,i,none⟩=some v:=by unfold Blk at h;simp[World.cell?,h,hv]
theorem Blk.f {w:World} {b:Nat} {cs:Array Value} {t:TypeId} (h:Blk w b cs t):∀ o,w.frozen? ⟨b,o,none⟩=false:=by unfold Blk at h;intro o;simp[World.frozen?,h]
theorem Blk.on {w w':World} {b:Nat} {cs:Array Value} {t:TypeId} (h:Blk w b cs t) (hb:Below w.heap.size w w'):Blk w' b cs t:=(hb.block b h.lt).trans h
theorem Blk.but {w w':World} {b rb:Nat} {cs:Array Value} {t:TypeId} (h:Blk w b cs t) (hb:But rb w w') (hn:b≠rb):Blk w' b cs t:=(hb.block b h.lt hn).trans h
theorem Blk.new (w:World) (cs:Array Value) (t:TypeId):Blk (w.alloc (.cells cs t)) w.heap.size cs t:=by show (w.heap.push _)[w.heap.size]? =_;simp
theorem Blk.al {w:World} {b:Nat} {cs:Array Value} {t:TypeId} (h:Blk w b cs t) (o:Obj):Blk (w.alloc o) b cs t:=h.on ((Below.refl _ _).alloc (Nat.le_refl _) o)
theorem Blk.dr {w:World} {b:Nat} {cs:Array Value} {t:TypeId} (h:Blk w b cs t):Blk w.drew b cs t:=h
theorem Blk.far {w:World} {b b' o:Nat} {cs:Array Value} {t:TypeId} (h:Blk w b cs t) (hn:b≠b') (v:Value):Blk (w.setCell ⟨b',o,none⟩ v) b cs t:=(Below.heap_setCell w ⟨b',o,none⟩ v b hn).trans h
theorem Blk.put {w:World} {b:Nat} {cs:Array Value} {t:TypeId} (h:Blk w b cs t) (i:Nat) (v:Value):Blk (w.setCell ⟨b,i,none⟩ v) b (cs.setIfInBounds i v) t:=by
 show (w.heap.modify b _)[b]? =_
 unfold Blk at h
 rw[Array.getElem?_modify,if_pos rfl,h]
 rfl
theorem Blk.gr {w w':World} {b:Nat} {cs:Array Value} {t:TypeId} {row:Option Nat} (h:Blk w b cs t) (hg:w.grownBy w' row) (hn:row≠some b):Blk w' b cs t:=(hg.block b h.lt (fun e=>hn e.symm)).trans h
theorem Blk.ne {w:World} {b base t t' k n:Nat} {cs:Array Value} {v:Value} {U:Nat→Int} (h:Blk w b cs t') (ho:OwnL w base t k v n U) (ht:t≠t'):v.ownBlock≠some b:=by
 intro e
 rcases ho.2 with⟨hv,_⟩|⟨g',cap,cur,hv,hb,hg,_⟩
 · subst hv;simp[Value.ownBlock] at e
 · subst hv
   simp[Value.ownBlock] at e
   subst e
   unfold Blk at h
   rw[h] at hg
   simp only[Option.some.injEq,Obj.cells.injEq] at hg
   exact ht hg.2.1.symm
theorem OwnL.dr {w:World} {base t k n:Nat} {v:Value} {U:Nat→Int} (h:OwnL w base t k v n U):OwnL w.drew base t k v n U:=World.ownsRow.drew h
theorem OwnL.al {w:World} {base t k n:Nat} {v:Value} {U:Nat→Int} (h:OwnL w base t k v n U) (o:Obj):OwnL (w.alloc o) base t k v n U:=h.below ((Below.refl _ _).alloc (Nat.le_refl _) o)
theorem OwnL.btb {w w':World} {rb base t k n:Nat} {v:Value} {U:Nat→Int} (h:OwnL w base t k v n U) (hb:But rb w w') (hr:rb<base):OwnL w' base t k v n U:=by
 have hg:w.grownBy w' (Option.some rb):=⟨hb.os,hb.tape,hb.output,hb.size,fun j hj hne=>hb.block j hj (fun e=>hne (by rw[e]))⟩
 cases e:v.ownBlock with
 |none=>exact World.ownsRow.kept h hg (.inl e)
 |some b=>exact World.ownsRow.kept h hg (.inr (by rw[e];intro q;have:=(h.lt b e).1;simp at q;omega))
theorem RB.al {w0 w:World} {rb p:Nat} (h:RB w0 w rb p) (o:Obj):RB w0 (w.alloc o) rb p:=h.alloc o
theorem RB.rs {w0 w:World} {rb p:Nat} (h:RB w0 w rb p):RS w rb p:=RS.of h
theorem Rd.upq {w w':World} {rb p B:Nat} (h:Rd w rb p) (k:Below B w w') (hB:rb<B):Rd w' rb p:=by
 obtain⟨a,len,cap,c0,c1,f1,hle,hz⟩:=h
 refine⟨a,len,cap,by rw[k.cell hB];exact c0,by rw[k.cell hB];exact c1,by rw[k.frozen hB];exact f1,hle,?_⟩
 rcases hz with hz|⟨b,off,ha,hb,hz⟩
 · exact .inl hz
 · exact .inr ⟨b,off,ha,hb,fun i hi=>by obtain⟨z,h1,h2⟩:=hz i hi;exact⟨z,by rw[k.cell (p:=⟨b,off+i,none⟩) (by show b<B;omega)];exact h1,h2⟩⟩
theorem RB.upq {w0 w w':World} {rb p:Nat} (h:RB w0 w rb p) (k:Below w0.heap.size w w') (hl:rb<w0.heap.size):RB w0 w' rb p:=by
 obtain⟨q,a,b,c⟩:=h
 exact⟨q,a,b.upq k hl,⟨k.os.trans c.os,k.tape.trans c.tape,k.output.trans c.output,Nat.le_trans c.size k.size,fun j hj hn=>(k.block j hj).trans (c.block j hj hn)⟩⟩
theorem RB.gr {w0 w w':World} {rb p:Nat} {row:Option Nat} (h:RB w0 w rb p) (hg:w.grownBy w' row) (hl:rb<w0.heap.size) (hr:∀ b,row=some b→w0.heap.size≤b):RB w0 w' rb p:=
 h.upq ((Below.refl w0.heap.size w).grown hg h.size hr) hl
theorem infoNumb:(Tryz.prog.info? 78).map (fun i=>(i.zero,i.size,i.bytes))=some (some (.int .i64 0),1,8):=by kernel_rfl
theorem clone_any (base n:Nat) (v:Value) (Z:Nat→Int) (w:World) (h:OwnL w base 78 1 v n Z) (hn:n≤1048576):
 Calls Tryz.prog 132 #[v] w fun e w'=>∃ aq qc,e= .returned (.slice aq n qc)∧Flat w' aq n Z∧(∀ b o,aq=some ⟨b,o,none⟩→w.heap.size≤b)∧Below w.heap.size w w':=by
 have hset:=cset_map
 have q22:∀ (w:World) (a:Option Addr) (n c n' c':Nat),(binOp .eql 79 (.slice a n c) (.slice none n' c')).run Tryz.prog w= .ok (.bool a.isNone) w:=fun w a n c n' c'=>Go.Lib.run_eql_slice_nil w _ _ a n c n' c' Tryz.underlying79
 rcases h.2 with⟨rfl,hn0⟩|⟨g,cap,cur,rfl,hb,hg,hrest⟩
 · obtain rfl:n=0:=by simpa using hn0
   go_enter Tryz.func132,Tryz.ntmps132
   go_wp2
   go_ret
   exact⟨none,⟨0,rfl⟩,fun h0=>absurd h0 (Nat.lt_irrefl _),fun b o e=>(by cases e),Below.refl _ _⟩
 · have hF:=h.flat
   go_enter Tryz.func132,Tryz.ntmps132
   have hE:Below w.heap.size w (w.alloc (.cells #[] 78)):=(Below.refl _ _).alloc (Nat.le_refl _) _
   have ho0:OwnL (w.alloc (.cells #[] 78)) w.heap.size 78 1 (.slice (some ⟨w.heap.size,0,none⟩) 0 0) 0 (fun _=>0):=⟨by simp[numL],.inr ⟨w.heap.size,0, #[],rfl,Nat.le_refl _,Go.Deep.blk_alloc_new _ _,Nat.le_refl _,Nat.zero_le _,by simp,by simp[numL]⟩⟩
   go_wp2_with (refine wpList_app rfl _ _ _ rfl w.heap.size 78 1 8 (.int .i64 0) Tryz.underlying79 infoNumb rfl (by decide) (.slice (some ⟨w.heap.size,0,none⟩) 0 0) 0 (fun _=>0) rfl ho0 (some ⟨g,0,none⟩) n cap Z rfl (hF.below hE) (by unfold maxLen;omega) (by omega) (by simp) ?_;intro a7 c7 w7 ho7 hg7)
   rw[Nat.zero_add] at ho7
   have hb7:Below w.heap.size w w7:=hE.grown hg7 (by simp) (fun k e=>by simp[Value.ownBlock] at e;omega)
   (try simp only[Nat.zero_add])
   go_ret
   refine⟨_,_,rfl,?_,?_,hb7⟩
   · have hq:=ho7.flat
     rw[Nat.mul_one] at hq
     intro h0
     obtain⟨b,o,e,hbl,hc⟩:=hq h0
     exact⟨b,o,e,hbl,fun j hj=>by rw[hc j hj];simp[cat]⟩
   · intro b o e
     subst e
     rcases ho7.2 with⟨hv,_⟩|⟨g',c',cur',hv,hb',_⟩
     · cases hv
     · cases hv;exact hb'
def lsB (U:Nat→Int) (k:Nat):Bool:=decide (0<U (k*12+8))&& !decide (8≤U (k*12+11))
def noLs (U:Nat→Int):Nat→Bool
 |0=>true
 |k+1=>noLs U k&& !lsB U k
def stB (n:Nat) (U:Nat→Int):Bool:=noLs U n&&bodsB n U
theorem bodiesOf_t (a:Option Addr) (n c:Nat) (U:Nat→Int) (w:World) (h:Flat w a (n*12) U) (hn:n≤1048576) (hB:bodsB n U=true):
 Calls Tryz.prog 54 #[.slice a n c] w fun e w'=>∃ cb S,e= .returned (.tuple #[.pointer (some ⟨cb,0,none⟩),Value.nilIface])∧w.heap.size≤cb∧Cs w' cb n (colOf U) S∧Below w.heap.size w w':=by
 have hset:=cset_map
 go_enter Tryz.func54,Tryz.ntmps54
 go_wp2_with (go_at_call 18;refine(columnsOf_any a n c U _ h hn).mono ?_;rintro e w1 ⟨hb1,(⟨_,cb,S,rfl,hcb,hCs⟩|⟨hF,rfl⟩)⟩)
 all_goals(try(exfalso;rw[hB] at hF;cases hF))
 exact bodyPost_ret (v:= .tuple #[.pointer (some ⟨cb,0,none⟩),Value.nilIface]) (by simp[results,Tryz.results54,go_sem]) rfl ⟨cb,S,rfl,hcb,hCs,hb1⟩
theorem bodiesOf_f (a:Option Addr) (n c:Nat) (U:Nat→Int) (w:World) (h:Flat w a (n*12) U) (hn:n≤1048576) (hB:bodsB n U=false):
 Calls Tryz.prog 54 #[.slice a n c] w fun e w'=>∃ x:Addr,e= .returned (.tuple #[.pointer none,.iface 98 (.pointer (some x))])∧Below w.heap.size w w':=by
 have hset:=cset_map
 go_enter Tryz.func54,Tryz.ntmps54
 go_wp2_with (go_at_call 18;refine(columnsOf_any a n c U _ h hn).mono ?_;rintro e w1 ⟨hb1,(⟨hT,cb,S,rfl,hcb,hCs⟩|⟨_,rfl⟩)⟩)
 all_goals(try(exfalso;rw[hB] at hT;cases hT))
 exact bodyPost_ret (v:= .tuple #[.pointer none,.iface 98 (.pointer (some ⟨w1.heap.size,0,none⟩))]) (by simp[results,Tryz.results54,go_sem]) rfl ⟨_,rfl,hb1.alloc hb1.size _⟩
end Go.Proofs.YtpmjnpmnocjjgaaGreatDoor
