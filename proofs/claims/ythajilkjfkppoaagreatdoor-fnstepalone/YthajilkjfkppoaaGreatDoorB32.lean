/- Texts of a proof. -/
import Derived.Test.YthajilkjfkppoaaGreatDoorB22
import Derived.Test.YthajilkjfkppoaaGreatDoorB28
import Derived.Test.YthajilkjfkppoaaGreatDoorB20
import Derived.Test.YthajilkjfkppoaaGreatDoorB19
import Derived.Test.YthajilkjfkppoaaGreatDoorB16
import Derived.Test.YthajilkjfkppoaaGreatDoorB30
import Derived.Test.YthajilkjfkppoaaGreatDoorS8a
import Derived.Test.YthajilkjfkppoaaGreatDoorB27
import Derived.Deep.RegionHeld3
import Derived.Deep.DeepCutAuto
import Derived.Test.YthajilkjfkppoaaGreatDoorB4
import Derived.Test.YthajilkjfkppoaaGreatDoorB10
import Derived.Test.YthajilkjfkppoaaGreatDoorB6
import Derived.Test.YthajilkjfkppoaaGreatDoorB12
import Derived.Test.YthajilkjfkppoaaGreatDoorB25
import Derived.Test.YthajilkjfkppoaaGreatDoorB11
set_option maxHeartbeats 16000000
set_option maxRecDepth 20000
namespace Go.Proofs.YthajilkjfkppoaaGreatDoor
open Go.RowKit
set_option linter.unusedVariables false
set_option linter.unusedSimpArgs false
def valN (U G:Nat→Int) (i:Nat):Int:=
 bif decide (U (i*12+8)=0) then-1 else bif decide (atOf (numS U G i).2 (G i) (numS U G i).2.length<0) then ((numS U G i).2.length:Int) else atOf (numS U G i).2 (G i) (numS U G i).2.length
theorem numS_1 (U G:Nat→Int) (i:Nat):(numS U G (i+1)).1=(numS U G i).1++[valN U G i]:=by
 unfold valN
 by_cases h:U (i*12+8)=0
 · rw[numS_z h,decide_eq_true h];rfl
 · rw[decide_eq_false h]
   by_cases k:atOf (numS U G i).2 (G i) (numS U G i).2.length<0
   · rw[numS_n h k,decide_eq_true k];rfl
   · rw[numS_o h k,decide_eq_false k];rfl
theorem ofL_num (U G:Nat→Int):∀ n i,i<n→ofL (numS U G n).1 i=valN U G i
 |0,i,h=>by omega
 | n+1,i,h=>by
   rw[numS_1]
   have hl:=(numS_len U G n).1
   by_cases e:i=n
   · subst e;rw[ofL_r (by omega),hl,Nat.sub_self];rfl
   · rw[ofL_l (by omega)];exact ofL_num U G n i (by omega)
theorem val_cases (U G:Nat→Int) (i:Nat):
 (valN U G i= -1∧(numS U G (i+1)).2.length=(numS U G i).2.length)∨(U (i*12+8)≠0∧valN U G i=((numS U G i).2.length:Int)∧(numS U G (i+1)).2.length=(numS U G i).2.length+1)∨(U (i*12+8)≠0∧0≤valN U G i∧valN U G i<((numS U G i).2.length:Int)∧(numS U G (i+1)).2.length=(numS U G i).2.length):=by
 unfold valN
 by_cases h:U (i*12+8)=0
 · rw[numS_z h,decide_eq_true h];exact .inl ⟨rfl,rfl⟩
 · rw[decide_eq_false h]
   by_cases k:atOf (numS U G i).2 (G i) (numS U G i).2.length<0
   · rw[numS_n h k,decide_eq_true k];exact .inr (.inl ⟨h,rfl,by rw[List.length_append];rfl⟩)
   · rw[numS_o h k,decide_eq_false k]
     refine .inr (.inr ⟨h,?_,?_,rfl⟩)
     · show 0≤atOf _ _ _;omega
     · show atOf (numS U G i).2 (G i) (numS U G i).2.length<_
       rcases atOf_bd (numS U G i).2 (G i) (numS U G i).2.length with q|q<;>omega
theorem awP_g (l:List Bool) (g:Int) (s:Bool):(awP l g s).length=if g=(l.length:Int) then l.length+1 else l.length:=by
 unfold awP
 by_cases e:g=(l.length:Int)
 · rw[if_pos e,decide_eq_true e]
   cases decide (0≤g)<;>simp
 · rw[if_neg e,decide_eq_false e]
   cases decide (0≤g)<;>simp
theorem aw_len (U Gr G:Nat→Int) (n:Nat) (hG:∀ i,i<n→G i=valN U Gr i):∀ i,i≤n→(awL U G i).length=(numS U Gr i).2.length
 |0,_=>rfl
 | i+1,h=>by
   have ih:=aw_len U Gr G n hG i (by omega)
   rw[awL,awP_g,ih,hG i (by omega)]
   rcases val_cases U Gr i with⟨a,b⟩|⟨_,a,b⟩|⟨_,a,b,c⟩
   · rw[if_neg (by omega),b]
   · rw[if_pos (by omega),b]
   · rw[if_neg (by omega),c]
theorem num2_mono (U Gr:Nat→Int):∀ j i,i≤j→(numS U Gr i).2.length≤(numS U Gr j).2.length
 | 0,i,h=>by
   obtain rfl:i=0:=by omega
   exact Nat.le_refl _
 | j+1,i,h=>by
   by_cases e:i=j+1
   · rw[e];exact Nat.le_refl _
   · have:=num2_mono U Gr j i (by omega)
     rcases val_cases U Gr j with⟨a,b⟩|⟨_,a,b⟩|⟨_,a,b,c⟩<;>omega
theorem grp_bd (U Gr G:Nat→Int) (n:Nat) (hG:∀ i,i<n→G i=valN U Gr i):∀ i,i<n→(-1≤G i∧G i≤((awL U G i).length:Int))∧G i<((awL U G n).length:Int)∧(0≤G i→U (i*12+8)≠0):=by
 intro i hi
 have h1:=aw_len U Gr G n hG i (by omega)
 have h2:=aw_len U Gr G n hG n (Nat.le_refl _)
 have h3:=num2_mono U Gr n (i+1) (by omega)
 have h4:=num2_mono U Gr (i+1) i (by omega)
 rw[h1,h2,hG i hi]
 rcases val_cases U Gr i with⟨a,b⟩|⟨m,a,b⟩|⟨m,a,b,c⟩
 · exact⟨by omega,by omega,fun q=>by omega⟩
 · exact⟨by omega,by omega,fun _=>m⟩
 · exact⟨by omega,by omega,fun _=>m⟩
theorem live_ok {U C:Nat→Int} {n m:Nat} (h:∀ k,k<m→CtP n (C (k*5)) (C (k*5+1)) (C (k*5+2)) (C (k*5+3)) (C (k*5+4))):∀ k,k≤m→Fives (CtP n) (liveL U C k)
 |0,_=>Fives.nil _
 | k+1,hk=>by
   have ih:=live_ok (U:=U) h k (by omega)
   cases e:liveC U C k with
   |true=>rw[liveL_yes e];exact ih.app (Fives.one (h k (by omega)))
   |false=>rw[liveL_no e];exact ih
theorem con_P (C:Nat→Nat→Int) {n m:Nat} (e:(conL C n).length=m*5):∀ k,k<m→CtP n (ofL (conL C n) (k*5)) (ofL (conL C n) (k*5+1)) (ofL (conL C n) (k*5+2)) (ofL (conL C n) (k*5+3)) (ofL (conL C n) (k*5+4)):=by
 obtain⟨m',e',p⟩:=conOut_ok C n (n:=n)
 obtain rfl:m'=m:=by unfold conL at e;omega
 exact p
theorem OutL.up {w0 w wr:World} {t k n c:Nat} {a:Option Addr} {R:Nat→Int} (h:OutL w wr t k a n c R) (hb:Below w0.heap.size w0 w):OutL w0 wr t k a n c R:=⟨hb.trans (h.bel.mono hb.size),h.own.base hb.size⟩
theorem l8Aparts_any:ApartDoes:=fun base g n c U A B X Y D w h1 h2 h3 h4 h5 h6 h7 h8=>l8Apart_any base g n c U A B X Y D w h1 h2 h3 h4 h5 h6 h7 h8
def ctC (n:Nat) (U:Nat→Int):Nat→Int:=ofL (conL (colOf U) n)
def ctM (n:Nat) (U:Nat→Int):Nat:=(conL (colOf U) n).length/5
def gpG (n:Nat) (U:Nat→Int):Nat→Int:=ofL (grpL U (ctC n U) (ctM n U) n)
def awA (n:Nat) (U:Nat→Int):Nat→Bool:=fun j=>(awL U (gpG n U) n).getD j false
def awN (n:Nat) (U:Nat→Int):Nat:=(awL U (gpG n U) n).length
def wokeU (n:Nat) (U:Nat→Int):Nat→Int:=mapR (fun i V=>wakeV (awK (gpG n U) (awA n U) i) V) U n
def lvC (n:Nat) (U:Nat→Int):Nat→Int:=ofL (liveL (wokeU n U) (ctC n U) (ctM n U))
def lvM (n:Nat) (U:Nat→Int):Nat:=(liveL (wokeU n U) (ctC n U) (ctM n U)).length/5
def pushU (n:Nat) (U:Nat→Int) (g:Int):Nat→Int:=allN (lvC n U) (mapR (fun _ V=>pullV g V) (wokeU n U) n) (lvM n U) 4
def goneU (n:Nat) (U:Nat→Int) (g:Int):Nat→Int:=apartN (lvC n U) (mapR (fun _ V=>goV V) (pushU n U g) n) (lvM n U)
def stepU (n:Nat) (U:Nat→Int) (g:Int):Nat→Int:=sleepN (gpG n U) (awA n U) n (mapR (fun i V=>quietV (wokeU n U (i*12+11)) V) (goneU n U g) n) (awN n U)
theorem gp_val (n:Nat) (U:Nat→Int):∀ i,i<n→gpG n U i=valN U (ofL (grpR U (ctC n U) (ctM n U) (rng n) n)) i:=fun i hi=>ofL_num U _ n i hi
theorem ct_ok (n:Nat) (U:Nat→Int):CtOk n (ctM n U) (ctC n U)∧(conL (colOf U) n).length=ctM n U*5:=by
 obtain⟨m,e,_⟩:=conOut_ok (colOf U) n (n:=n)
 have e':(conL (colOf U) n).length=m*5:=e
 have hm:ctM n U=m:=by unfold ctM;omega
 rw[hm]
 exact⟨con_ct _ e',e'⟩
theorem lv_ok (n:Nat) (U:Nat→Int):CtOk n (lvM n U) (lvC n U)∧(liveL (wokeU n U) (ctC n U) (ctM n U)).length=lvM n U*5:=by
 have h:=live_ok (U:=wokeU n U) (con_P (colOf U) (ct_ok n U).2) (ctM n U) (Nat.le_refl _)
 obtain⟨m,e,_⟩:=id h
 have hm:lvM n U=m:=by unfold lvM ctC;omega
 rw[hm]
 exact⟨h.ct e,e⟩
theorem go8 (V:Nat→Int):goV V 8=V 8:=by unfold goV;cases liveV V<;>rfl
theorem quiet8 (z:Int) (V:Nat→Int):quietV z V 8=V 8:=by unfold quietV;cases (decide (V 8=0)||decide (8≤V 11))<;>rfl
theorem pull8 (z:Int) (V:Nat→Int):pullV z V 8=V 8:=by unfold pullV;cases liveV V<;>rfl
theorem wake8 (b:Bool) (V:Nat→Int):wakeV b V 8=V 8:=by unfold wakeV;first|(cases b<;>cases decide (8≤V 11)<;>rfl)|(split<;>rfl)
theorem Bods.steps {n:Nat} {U:Nat→Int} (h:Bods n U) (g:Int):
 Bods n (wokeU n U)∧Bods n (mapR (fun _ V=>pullV g V) (wokeU n U) n)∧Bods n (pushU n U g)∧Bods n (mapR (fun _ V=>goV V) (pushU n U g) n)∧Bods n (goneU n U g)∧Bods n (mapR (fun i V=>quietV (wokeU n U (i*12+11)) V) (goneU n U g) n)∧Bods n (stepU n U g)∧∀ k,k<n→stepU n U g (k*12+8)=U (k*12+8):=by
 have h1:Bods n (wokeU n U):=h.wake
 have h2:=h1.pull g
 have h3:Bods n (pushU n U g)∧∀ i,pushU n U g (i*12+8)=mapR (fun _ V=>pullV g V) (wokeU n U) n (i*12+8):=h2.all (lv_ok n U).1 4
 have h4:=h3.1.go
 have h5:Bods n (goneU n U g)∧∀ i,goneU n U g (i*12+8)=mapR (fun _ V=>goV V) (pushU n U g) n (i*12+8):=h4.aparts (lv_ok n U).1 (lvM n U) (Nat.le_refl _)
 have h6:Bods n (mapR (fun i V=>quietV (wokeU n U (i*12+11)) V) (goneU n U g) n):=h5.1.quiet h1
 have m6:∀ k,k<n→mapR (fun i V=>quietV (wokeU n U (i*12+11)) V) (goneU n U g) n (k*12+8)=U (k*12+8):=fun k hk=>by
  rw[mapR_in hk (by omega),quiet8]
  show goneU n U g (k*12+8)=_
  rw[h5.2 k,mapR_in hk (by omega),go8]
  show pushU n U g (k*12+8)=_
  rw[h3.2 k,mapR_in hk (by omega),pull8]
  show wokeU n U (k*12+8)=_
  unfold wokeU
  rw[mapR_in hk (by omega),wake8]
 have h7:=h6.sleep (G:=gpG n U) (A:=awA n U) (fun k hk hg=>by rw[m6 k hk];exact(grp_bd U _ (gpG n U) n (gp_val n U) k hk).2.2 hg) (awN n U)
 exact⟨h1,h2,h3.1,h4,h5.1,h6,h7.1,fun k hk=>(h7.2 k hk).trans (m6 k hk)⟩
theorem l9Step_any (a:Option Addr) (n c:Nat) (U:Nat→Int) (g:Int) (w:World) (h:Flat w a (n*12) U) (hbb:Bods n U) (hg:0≤g∧g≤2560):
 Calls Tryz.prog 20 #[.slice a n c,.int .i64 g] w fun e w'=>∃ a1 c1,e= .returned (.slice a1 n c1)∧OutL w w' 35 12 a1 n c1 (stepU n U g):=by
 have hset:=cset_map
 have hn12:=hbb.le
 obtain⟨B1,B2,B3,B4,B5,B6,B7,_⟩:=hbb.steps g
 obtain⟨K1,L1⟩:=ct_ok n U
 obtain⟨K2,L2⟩:=lv_ok n U
 have hG:=grp_bd U _ (gpG n U) n (gp_val n U)
 have hm1:ctM n U≤1048576:=by
  obtain⟨m,e,hm⟩:=conOut_len (colOf U) n n
  have e':(conL (colOf U) n).length=m*5:=e
  have:=Nat.mul_le_mul hn12 hn12
  omega
 have hm2:lvM n U≤1048576:=by have:=liveL_len (wokeU n U) (ctC n U) (ctM n U);omega
 have hq2:∀ k,k<n→0≤wokeU n U (k*12+11)∧wokeU n U (k*12+11)≤8:=fun k hk=>(bodyB_bd (B1.ok k hk)).2.1
 have hna:awN n U≤1048576:=by have:=awL_len U (gpG n U) n;unfold awN;omega
 go_enter Tryz.func20,Tryz.ntmps20
 go_upto_region 2 with(go_at_call 38;refine(l7Contacts_any a n c U _ h hbb.to hn12).mono ?_;rintro e w1 ⟨a1,m1,c1,rfl,hm,hO1⟩)
 obtain rfl:m1=ctM n U:=by omega
 have hO1:OutL w w1 40 5 a1 (ctM n U) c1 (ctC n U):=hO1
 have h1:=h.below hO1.bel
 have f1:=hO1.own.flat
 go_upto_region 3 with(go_at_call 39;refine(l7Groups_any a n c U a1 (ctM n U) c1 (ctC n U) _ h1 (by omega) hm1 f1 K1).mono ?_;rintro e w2 ⟨g2,c2,rfl,hO2⟩)
 have h2:=h1.below hO2.bel
 have f12:=f1.below hO2.bel
 have f2:Flat w2 (some ⟨g2,0,none⟩) (n*1) (gpG n U):=hO2.flat
 go_upto_region 4 with(go_at_call 40;refine(l7Awake_any a n c U (some ⟨g2,0,none⟩) c2 (gpG n U) _ h2 (by omega) f2 (fun i hi=>(hG i hi).1)).mono ?_;rintro e w3 ⟨g3,c3,na,rfl,hna3,hO3⟩)
 obtain rfl:na=awN n U:=hna3
 have h3:=h2.below hO3.bel
 have f13:=f12.below hO3.bel
 have f23:=f2.below hO3.bel
 have f3:FlatB w3 (some ⟨g3,0,none⟩) (awN n U) (awA n U):=hO3.flatB
 go_upto_region 5 with(go_at_call 41;refine(l9Wake_any a n c U (some ⟨g2,0,none⟩) c2 (gpG n U) (some ⟨g3,0,none⟩) (awN n U) c3 (awA n U) _ h3 (by omega) f23 f3 (fun i hi=>(hG i hi).2.1)).mono ?_;rintro e w4 ⟨a4,c4,rfl,hO4⟩)
 have hO4:OutL w3 w4 35 12 a4 n c4 (wokeU n U):=hO4
 have f14:=f13.below hO4.bel
 have f24:=f23.below hO4.bel
 have f34:=f3.below hO4.bel (B:=0)
 have f4:=hO4.own.flat
 go_upto_region 6 with(go_at_call 42;refine(l9Live_any a4 n c4 (wokeU n U) a1 (ctM n U) c1 (ctC n U) _ f4 (by omega) hm1 f14 (fun k hk=>⟨K1.a k hk,K1.b k hk⟩)).mono ?_;rintro e w5 ⟨a5,m5,c5,rfl,hm5,hO5⟩)
 obtain rfl:m5=lvM n U:=by omega
 have hO5:OutL w4 w5 40 5 a5 (lvM n U) c5 (lvC n U):=hO5
 have f25:=f24.below hO5.bel
 have f35:=f34.below hO5.bel (B:=0)
 have f45:=f4.below hO5.bel
 have f5:=hO5.own.flat
 go_upto_region 7 with(first
  |(go_at_call 44;refine(l9Pull_any a4 n c4 (wokeU n U) g _ f45 (by omega) hg B1).mono ?_;rintro e w6 ⟨a6,c6,rfl,hO6⟩)
  |(go_at_call 43;refine(l8All_any a6 n c6 _ a5 (lvM n U) c5 (lvC n U) _ hO6.own.flat (by omega) hm2 (f5.below hO6.bel) B2 K2).mono ?_;rintro e w7 ⟨a7,c7,rfl,hO7⟩))
 have hO7:OutL w6 w7 35 12 a7 n c7 (pushU n U g):=hO7
 have f27:=(f25.below hO6.bel).below hO7.bel
 have f37:=(f35.below hO6.bel (B:=0)).below hO7.bel (B:=0)
 have f47:=(f45.below hO6.bel).below hO7.bel
 have f57:=(f5.below hO6.bel).below hO7.bel
 have f7:=hO7.own.flat
 go_upto_region 8 with(first
  |(go_at_call 46;refine(l9Moves_any a7 n c7 (pushU n U g) _ f7 (by omega) B3).mono ?_;rintro e w8 ⟨a8,c8,rfl,hO8⟩)
  |(go_at_call 45;refine(l8Aparts_of l8Aparts_any a8 n c8 _ a5 (lvM n U) c5 (lvC n U) _ hO8.own.flat (by omega) hm2 (f57.below hO8.bel) B4 K2).mono ?_;rintro e w9 ⟨a9,c9,rfl,hO9⟩))
 have hO9:OutL w8 w9 35 12 a9 n c9 (goneU n U g):=hO9
 have f29:=(f27.below hO8.bel).below hO9.bel
 have f39:=(f37.below hO8.bel (B:=0)).below hO9.bel (B:=0)
 have f49:=(f47.below hO8.bel).below hO9.bel
 have f9:=hO9.own.flat
 go_wp2_with (first
  |(go_at_call 48;refine(l9Quiet_any a9 n c9 (goneU n U g) a4 c4 (wokeU n U) _ f9 (by omega) B5 f49 hq2).mono ?_;rintro e w10 ⟨a10,c10,rfl,hO10⟩)
  |(go_at_call 47;refine(l9Sleep_any a10 n c10 _ (some ⟨g2,0,none⟩) c2 (gpG n U) (some ⟨g3,0,none⟩) (awN n U) c3 (awA n U) _ hO10.own.flat (by omega) hna (f29.below hO10.bel) (f39.below hO10.bel (B:=0))).mono ?_;rintro e w11 ⟨a11,c11,rfl,hO11⟩))
 go_ret
 have b2:=hO1.bel.trans (hO2.bel.mono hO1.bel.size)
 have b3:=b2.trans (hO3.bel.mono b2.size)
 have b4:=b3.trans (hO4.bel.mono b3.size)
 have b5:=b4.trans (hO5.bel.mono b4.size)
 have b6:=b5.trans (hO6.bel.mono b5.size)
 have b7:=b6.trans (hO7.bel.mono b6.size)
 have b8:=b7.trans (hO8.bel.mono b7.size)
 have b9:=b8.trans (hO9.bel.mono b8.size)
 have b10:=b9.trans (hO10.bel.mono b9.size)
 exact⟨_,_,rfl,hO11.up b10⟩
def lsB (U:Nat→Int) (k:Nat):Bool:=decide (0<U (k*12+8))&& !decide (8≤U (k*12+11))
def noLs (U:Nat→Int):Nat→Bool
 |0=>true
 |k+1=>noLs U k&& !lsB U k
def stB (n:Nat) (U:Nat→Int):Bool:=noLs U n&&bodsB n U
theorem bodiesOf_t (a:Option Addr) (n c:Nat) (U:Nat→Int) (w:World) (h:Flat w a (n*12) U) (hn:n≤1048576) (hB:bodsB n U=true):
 Calls Tryz.prog 71 #[.slice a n c] w fun e w'=>∃ cb S,e= .returned (.tuple #[.pointer (some ⟨cb,0,none⟩),Value.nilIface])∧w.heap.size≤cb∧Cs w' cb n (colOf U) S∧Below w.heap.size w w':=by
 have hset:=cset_map
 go_enter Tryz.func71,Tryz.ntmps71
 go_wp2_with (go_at_call 21;refine(columnsOf_any a n c U _ h hn).mono ?_;rintro e w1 ⟨hb1,(⟨_,cb,S,rfl,hcb,hCs⟩|⟨hF,rfl⟩)⟩)
 all_goals(try(exfalso;rw[hB] at hF;cases hF))
 exact bodyPost_ret (v:= .tuple #[.pointer (some ⟨cb,0,none⟩),Value.nilIface]) (by simp[results,Tryz.results71,go_sem]) rfl ⟨cb,S,rfl,hcb,hCs,hb1⟩
theorem bodiesOf_f (a:Option Addr) (n c:Nat) (U:Nat→Int) (w:World) (h:Flat w a (n*12) U) (hn:n≤1048576) (hB:bodsB n U=false):
 Calls Tryz.prog 71 #[.slice a n c] w fun e w'=>∃ x:Addr,e= .returned (.tuple #[.pointer none,.iface 112 (.pointer (some x))])∧Below w.heap.size w w':=by
 have hset:=cset_map
 go_enter Tryz.func71,Tryz.ntmps71
 go_wp2_with (go_at_call 21;refine(columnsOf_any a n c U _ h hn).mono ?_;rintro e w1 ⟨hb1,(⟨hT,cb,S,rfl,hcb,hCs⟩|⟨_,rfl⟩)⟩)
 all_goals(try(exfalso;rw[hB] at hT;cases hT))
 exact bodyPost_ret (v:= .tuple #[.pointer none,.iface 112 (.pointer (some ⟨w1.heap.size,0,none⟩))]) (by simp[results,Tryz.results71,go_sem]) rfl ⟨_,rfl,hb1.alloc hb1.size _⟩
theorem one_far {U:Nat→Int} {A B i j:Nat} (hA:i≠A) (hB:i≠B) (hj:j<12) (X Y:Int) (bo:Bool):oneU U A B X Y bo (i*12+j)=U (i*12+j):=by
 unfold oneU
 cases ((puX (fun j=>U (A*12+j)) (fun j=>U (B*12+j)) X Y bo==0&&puY (fun j=>U (A*12+j)) (fun j=>U (B*12+j)) X Y bo==0)|| !fitsB (fun j=>U (A*12+j)) (fun j=>U (B*12+j)) (puX (fun j=>U (A*12+j)) (fun j=>U (B*12+j)) X Y bo) (puY (fun j=>U (A*12+j)) (fun j=>U (B*12+j)) X Y bo)) with
 |true=>rfl
 |false=>simp only[cond_false];rw[putRow_else hB hj,putRow_else hA hj]
def Far (C:Nat→Int) (m i:Nat):Prop:=∀ k,k<m→i≠(C (k*5)).toNat∧i≠(C (k*5+1)).toNat
theorem rnd_far {C U:Nat→Int} {m i j:Nat} (h:Far C m i) (hj:j<12) (bo:Bool):∀ k,k≤m→rndN C bo U k (i*12+j)=U (i*12+j)
 |0,_=>rfl
 |k+1,hk=>by rw[rndN,one_far (h k (by omega)).1 (h k (by omega)).2 hj,rnd_far h hj bo k (by omega)]
theorem all_far {C U:Nat→Int} {m i j:Nat} (h:Far C m i) (hj:j<12):∀ r,allN C U m r (i*12+j)=U (i*12+j)
 |0=>rfl
 |r+1=>by rw[allN,rnd_far h hj _ m (Nat.le_refl _),all_far h hj r]
theorem apart_far {U:Nat→Int} {A B i j:Nat} (hA:i≠A) (hB:i≠B) (hj:j<12) (X Y D:Int):apartU U A B X Y D (i*12+j)=U (i*12+j):=by
 unfold apartU
 cases decide (0<(D-64).tdiv 4) with
 |false=>rfl
 | true=>
   simp only[cond_true]
   cases decide (0<U (A*12+8))<;>cases decide (0<U (B*12+8))<;>simp only[cond_true,cond_false]
   · rw[putRow_else hB hj]
   · rw[putRow_else hA hj]
   · rw[putRow_else hB hj,putRow_else hA hj]
theorem aparts_far {C U:Nat→Int} {m i j:Nat} (h:Far C m i) (hj:j<12):∀ k,k≤m→apartN C U k (i*12+j)=U (i*12+j)
 |0,_=>rfl
 |k+1,hk=>by rw[apartN,apart_far (h k (by omega)).1 (h k (by omega)).2 hj,aparts_far h hj k (by omega)]
def Free (C U:Nat→Int) (m:Nat):Prop:=∀ k,k<m→U ((C (k*5)).toNat*12+8)≠0∧U ((C (k*5+1)).toNat*12+8)≠0
end Go.Proofs.YthajilkjfkppoaaGreatDoor
