/- Texts of a proof. -/
import Derived.Test.YtcalhcfinkhemaaGreatDoorB46
import Derived.Test.YtcalhcfinkhemaaGreatDoorB38
import Derived.Test.YtcalhcfinkhemaaGreatDoorB22
import Derived.Deep.RegionHeld3
import Derived.Deep.DeepCutAuto
import Derived.LoopNIn
import Derived.LoopIn
import Derived.Test.YtcalhcfinkhemaaGreatDoorB24
import Derived.Test.YtcalhcfinkhemaaGreatDoorB36
import Derived.Test.YtcalhcfinkhemaaGreatDoorB34
import Derived.Test.YtcalhcfinkhemaaGreatDoorB43
set_option maxHeartbeats 16000000
set_option maxRecDepth 20000
namespace Go.Proofs.YtcalhcfinkhemaaGreatDoor
open Go.RowKit
set_option linter.unusedVariables false
set_option linter.unusedSimpArgs false
theorem step_s (a:Option Addr) (n c:Nat) (U:Nat→Int) (p:Int) (w:World) (h:Flat w a (n*12) U) (hn:n≤1048576) (N:Nat) (hN:(bif (bodsB n U&&okP p) then n else 0)=N):
 Calls Tryz.prog 11 #[.slice a n c,.int .i64 p] w fun e w'=>∃ a1 c1,e= .returned (.slice a1 N c1)∧OutL w w' 33 12 a1 N c1 (stepU n U p):=by
 have hset:=cset_map
 cases kb:bodsB n U with
 | false=>
   rw[kb,Bool.false_and,cond_false] at hN
   subst hN
   go_enter Tryz.func11,Tryz.ntmps11
   go_wp2_with (go_at_call 18;refine(sBodiesOk_q a n c U false _ h hn kb).mono ?_;rintro e w1 ⟨rfl,hb1⟩)
   go_ret
   exact⟨_,_,rfl,hb1.trans (((Below.refl _ _).alloc (Nat.le_refl _) _).mono hb1.size),((LsV.new w1 33 12).own.base hb1.size).congr (fun q hq=>by omega)⟩
 | true=>
   cases kp0:okP p with
   | false=>
     have kp:decide (0≤p∧p≤2560)=false:=kp0
     rw[kb,kp0,Bool.true_and,cond_false] at hN
     subst hN
     go_enter Tryz.func11,Tryz.ntmps11
     go_wp2_with (first|(have _:=hb1;go_at_call 25;refine(l1In_q p 0 2560 false _ kp).mono ?_;rintro e w2 ⟨rfl,hb2⟩)|(go_at_call 18;refine(sBodiesOk_q a n c U true _ h hn kb).mono ?_;rintro e w1 ⟨rfl,hb1⟩))
     have hb12:=hb1.trans (hb2.mono hb1.size)
     go_ret
     exact⟨_,_,rfl,hb12.trans (((Below.refl _ _).alloc (Nat.le_refl _) _).mono hb12.size),((LsV.new w2 33 12).own.base hb12.size).congr (fun q hq=>by omega)⟩
   | true=>
     have kp:decide (0≤p∧p≤2560)=true:=kp0
     rw[kb,kp0,Bool.true_and,cond_true] at hN
     subst hN
     go_enter Tryz.func11,Tryz.ntmps11
     go_wp2_with (first
      |(have _:=hb2;go_at_call 26;refine(l9Step_any a n c U p _ (h.below hb12) (Bods.of kb) (of_decide_eq_true kp)).mono ?_;rintro e w3 ⟨a3,c3,rfl,hO3⟩)
      |(have _:=hb1;go_at_call 25;refine(l1In_q p 0 2560 true _ kp).mono ?_;rintro e w2 ⟨rfl,hb2⟩;have hb12:=hb1.trans (hb2.mono hb1.size))
      |(go_at_call 18;refine(sBodiesOk_q a n c U true _ h hn kb).mono ?_;rintro e w1 ⟨rfl,hb1⟩))
     go_ret
     exact⟨_,_,rfl,hb12.trans (hO3.bel.mono hb12.size),hO3.own.base hb12.size⟩
theorem steps_s (a:Option Addr) (n c:Nat) (U:Nat→Int) (p s:Int) (w:World) (h:Flat w a (n*12) U) (hn:n≤1048576) (N:Nat) (hN:(bif okSts n U p s then n else 0)=N):
 Calls Tryz.prog 17 #[.slice a n c,.int .i64 p,.int .i64 s] w fun e w'=>∃ a1 c1,e= .returned (.slice a1 N c1)∧OutL w w' 33 12 a1 N c1 (stsU n U p s.toNat):=by
 have hset:=cset_map
 unfold okSts at hN
 cases kb:bodsB n U with
 | false=>
   rw[kb,Bool.false_and,cond_false] at hN
   subst hN
   go_enter Tryz.func17,Tryz.ntmps17
   go_wp2_with (go_at_call 18;refine(sBodiesOk_q a n c U false _ h hn kb).mono ?_;rintro e w1 ⟨rfl,hb1⟩)
   go_ret
   exact⟨_,_,rfl,hb1.trans (((Below.refl _ _).alloc (Nat.le_refl _) _).mono hb1.size),((LsV.new w1 33 12).own.base hb1.size).congr (fun q hq=>by omega)⟩
 | true=>
   rw[kb,Bool.true_and] at hN
   cases kp0:okP p with
   | false=>
     have kp:decide (0≤p∧p≤2560)=false:=kp0
     rw[kp0,Bool.false_and,cond_false] at hN
     subst hN
     go_enter Tryz.func17,Tryz.ntmps17
     go_wp2_with (first|(have _:=hb1;go_at_call 25;refine(l1In_q p 0 2560 false _ kp).mono ?_;rintro e w2 ⟨rfl,hb2⟩)|(go_at_call 18;refine(sBodiesOk_q a n c U true _ h hn kb).mono ?_;rintro e w1 ⟨rfl,hb1⟩))
     have hb12:=hb1.trans (hb2.mono hb1.size)
     go_ret
     exact⟨_,_,rfl,hb12.trans (((Below.refl _ _).alloc (Nat.le_refl _) _).mono hb12.size),((LsV.new w2 33 12).own.base hb12.size).congr (fun q hq=>by omega)⟩
   | true=>
     have kp:decide (0≤p∧p≤2560)=true:=kp0
     rw[kp0,Bool.true_and] at hN
     cases ks0:okS s with
     | false=>
       have ks:decide (0≤s∧s≤60)=false:=ks0
       rw[ks0,cond_false] at hN
       subst hN
       go_enter Tryz.func17,Tryz.ntmps17
       go_wp2_with (first|(have _:=hb2;go_at_call 25;refine(l1In_q s 0 60 false _ ks).mono ?_;rintro e w3 ⟨rfl,hb3⟩)|(have _:=hb1;go_at_call 25;refine(l1In_q p 0 2560 true _ kp).mono ?_;rintro e w2 ⟨rfl,hb2⟩)|(go_at_call 18;refine(sBodiesOk_q a n c U true _ h hn kb).mono ?_;rintro e w1 ⟨rfl,hb1⟩))
       have hb12:=hb1.trans (hb2.mono hb1.size)
       have hb13:=hb12.trans (hb3.mono hb12.size)
       go_ret
       exact⟨_,_,rfl,hb13.trans (((Below.refl _ _).alloc (Nat.le_refl _) _).mono hb13.size),((LsV.new w3 33 12).own.base hb13.size).congr (fun q hq=>by omega)⟩
     | true=>
       have ks:decide (0≤s∧s≤60)=true:=ks0
       have hp:=of_decide_eq_true kp
       have hs:=of_decide_eq_true ks
       have hbb:=Bods.of kb
       rw[ks0,cond_true] at hN
       subst hN
       obtain⟨K,hK⟩:∃ K:Nat,s=(K:Int):=⟨s.toNat,by omega⟩
       subst hK
       rw[Int.toNat_natCast]
       go_enter Tryz.func17,Tryz.ntmps17
       go_upto_region 4 with(first
        |(have _:=hb3;go_at_call 35;refine(l8Copy_any a n c U _ (h.below hb13) hn).mono ?_;rintro e w4 ⟨a4,c4,rfl,hO4⟩)
        |(have _:=hb2;go_at_call 25;refine(l1In_q (K:Int) 0 60 true _ ks).mono ?_;rintro e w3 ⟨rfl,hb3⟩;have hb13:=(hb1.trans (hb2.mono hb1.size)).trans (hb3.mono (hb1.trans (hb2.mono hb1.size)).size))
        |(have _:=hb1;go_at_call 25;refine(l1In_q p 0 2560 true _ kp).mono ?_;rintro e w2 ⟨rfl,hb2⟩)
        |(go_at_call 18;refine(sBodiesOk_q a n c U true _ h hn kb).mono ?_;rintro e w1 ⟨rfl,hb1⟩))
       have hO:OutL w w4 33 12 a4 n c4 (stsU n U p 0):=⟨hb13.trans (hO4.bel.mono hb13.size),hO4.own.base hb13.size⟩
       clear hO4 hb13 hb1 hb2 hb3
       go_loopw [2,7] (fun s2 s7 wr=>∃ (k:Nat) (ak:Option Addr) (ck:Nat),k≤K∧s2= .int .i64 ((K:Int)-(k:Int))∧s7= .slice ak n ck∧OutL w wr 33 12 ak n ck (stsU n U p k)) (fun s2 _ _=>(intOf s2).toNat)
       case atStart=>exact⟨0,a4,c4,Nat.zero_le _,by simp,rfl,hO⟩
       case round=>
        clear hO
        obtain⟨k,ak,ck,hk,rfl,rfl,hOk⟩:=hrel
        by_cases hlt:k<K
        · have hkK:(0:Int)<(K:Int)-(k:Int):=by omega
          have hwr:IntKind.i64.wrap ((K:Int)-(k:Int)-1)=(K:Int)-((k+1:Nat):Int):=by rw[i64w (by omega)];omega
          go_wp2_with (go_at_call 26;refine(l9Step_any ak n ck _ p _ hOk.own.flat (hbb.sts p k) hp).mono ?_;rintro e w5 ⟨a5,c5,rfl,hO5⟩)
          go_roundw
          case rel=>exact⟨k+1,a5,c5,by omega,by first|rfl|(congr 1;omega),rfl,hOk.bel.trans (hO5.bel.mono hOk.bel.size),hO5.own.base hOk.bel.size⟩
          case measure=>simp[intOf];omega
        · obtain rfl:k=K:=by omega
          have hkK:¬ (0:Int)<(k:Int)-(k:Int):=by omega
          go_wp2
          go_ret
          exact⟨ak,ck,rfl,hOk⟩
theorem step_sr {n:Nat} {U R:Nat→Int} {p:Int} (hR:R=stepU n U p) (a:Option Addr) (c N:Nat) (w:World) (h:Flat w a (n*12) U) (hn:n≤1048576) (hN:(bif (bodsB n U&&okP p) then n else 0)=N):
 Calls Tryz.prog 11 #[.slice a n c,.int .i64 p] w fun e w'=>∃ a1 c1,e= .returned (.slice a1 N c1)∧OutL w w' 33 12 a1 N c1 R:=by subst hR;exact step_s a n c U p w h hn N hN
theorem step_ir {n:Nat} {U R:Nat→Int} {p:Int} (hR:R=stepU n U p) (a:Option Addr) (c N:Nat) (w:World) (h:Flat w a (n*12) U) (hn:n≤1048576) (hg:w.cell? ⟨0,0,none⟩=some (.iface 176 (.agg #[.pointer (some ⟨1,64,none⟩)]))) (hN:(bif (bodsB n U&&okP p) then n else 0)=N):
 Calls Tryz.prog 9 #[.slice a n c,.int .i64 p] w fun e w'=>∃ a1 c1,e= .returned (.slice a1 N c1)∧OutL w w' 33 12 a1 N c1 R:=by subst hR;exact step_i a n c U p w h hn hg N hN
theorem steps_sr {n:Nat} {U R:Nat→Int} {p s:Int} (hR:R=stsU n U p s.toNat) (a:Option Addr) (c N:Nat) (w:World) (h:Flat w a (n*12) U) (hn:n≤1048576) (hN:(bif okSts n U p s then n else 0)=N):
 Calls Tryz.prog 17 #[.slice a n c,.int .i64 p,.int .i64 s] w fun e w'=>∃ a1 c1,e= .returned (.slice a1 N c1)∧OutL w w' 33 12 a1 N c1 R:=by subst hR;exact steps_s a n c U p s w h hn N hN
theorem steps_ir {n:Nat} {U R:Nat→Int} {p s:Int} (hR:R=stsU n U p s.toNat) (a:Option Addr) (c N:Nat) (w:World) (h:Flat w a (n*12) U) (hn:n≤1048576) (hg:w.cell? ⟨0,0,none⟩=some (.iface 176 (.agg #[.pointer (some ⟨1,64,none⟩)]))) (hN:(bif okSts n U p s then n else 0)=N):
 Calls Tryz.prog 16 #[.slice a n c,.int .i64 p,.int .i64 s] w fun e w'=>∃ a1 c1,e= .returned (.slice a1 N c1)∧OutL w w' 33 12 a1 N c1 R:=by subst hR;exact steps_i a n c U p s w h hn hg N hN
theorem bif_le (b:Bool) (n:Nat):(bif b then n else 0)≤n:=by cases b<;>simp
def Fxd (j:Nat):Prop:=j≠4∧j≠5∧j≠6∧j≠7∧j≠11
theorem setV_else {V:Nat→Int} {k j:Nat} {a:Int} (h:j≠k):setV V k a j=V j:=by unfold setV;rw[if_neg h]
theorem moveV_keep (V:Nat→Int) (p q:Int) {j:Nat} (h4:j≠4) (h5:j≠5) (h6:j≠6) (h7:j≠7):moveV V p q j=V j:=by
 unfold moveV
 rw[setV_else h7,setV_else h6,setV_else h5,setV_else h4]
theorem wakeV_keep (b:Bool) (V:Nat→Int) {j:Nat} (h:j≠11∨b=false):wakeV b V j=V j:=by
 unfold wakeV
 cases hc:(b&&decide (8≤V 11)) with
 |false=>rfl
 | true=>
   rcases h with h|h
   · exact setV_else h
   · subst h;cases hc
theorem pullV_keep (g:Int) (V:Nat→Int) {j:Nat} (h:j≠7∨liveV V=false):pullV g V j=V j:=by
 unfold pullV
 cases hc:liveV V with
 |false=>rfl
 | true=>
   rcases h with h|h
   · exact setV_else h
   · rw[h] at hc;cases hc
theorem goV_keep (V:Nat→Int) {j:Nat} (h:(j≠4∧j≠5∧j≠6∧j≠7)∨liveV V=false):goV V j=V j:=by
 unfold goV
 cases hc:liveV V with
 |false=>rfl
 | true=>
   rcases h with⟨h4,h5,h6,h7⟩|h
   · exact moveV_keep V _ _ h4 h5 h6 h7
   · rw[h] at hc;cases hc
theorem quietV_keep (r:Int) (V:Nat→Int) {j:Nat} (h:j≠11∨(V 8=0∨8≤V 11)):quietV r V j=V j:=by
 unfold quietV
 cases hc:(decide (V 8=0)||decide (8≤V 11)) with
 |true=>rfl
 | false=>
   rcases h with h|h
   · exact setV_else h
   · simp only[Bool.or_eq_false_iff,decide_eq_false_iff_not] at hc;omega
theorem live0 {V:Nat→Int} (h:V 8=0):liveV V=false:=by unfold liveV;rw[h];rfl
theorem live8 {V:Nat→Int} (h:8≤V 11):liveV V=false:=by unfold liveV;rw[decide_eq_true h,Bool.not_true,Bool.and_false]
theorem apart_keep {U:Nat→Int} {A B i j:Nat} (hj:j<12) (X Y D:Int) (hAB:A≠B) (h:Fxd j∨U (i*12+8)=0):apartU U A B X Y D (i*12+j)=U (i*12+j):=by
 unfold apartU
 cases decide (0<(D-64).tdiv 4) with
 |false=>rfl
 | true=>
   simp only[cond_true]
   have hm:∀ p q,0<U (i*12+8)→moveV (fun j=>U (i*12+j)) p q j=U (i*12+j):=fun p q hp=>by
    rcases h with h|h
    · exact moveV_keep _ p q h.1 h.2.1 h.2.2.1 h.2.2.2.1
    · omega
   cases hdA:decide (0<U (A*12+8))<;>cases hdB:decide (0<U (B*12+8))<;>simp only[cond_true,cond_false]
   · by_cases e:i=B
     · subst e;rw[putRow_is hj,hm _ _ (of_decide_eq_true hdB)]
     · rw[putRow_else e hj]
   · by_cases e:i=A
     · subst e;rw[putRow_is hj,hm _ _ (of_decide_eq_true hdA)]
     · rw[putRow_else e hj]
   · by_cases e:i=B
     · subst e;rw[putRow_is hj,hm _ _ (of_decide_eq_true hdB)]
     · rw[putRow_else e hj]
       by_cases e2:i=A
       · subst e2;rw[putRow_is hj,hm _ _ (of_decide_eq_true hdA)]
       · rw[putRow_else e2 hj]
theorem aparts_keep {n m:Nat} {C U:Nat→Int} (hC:CtOk n m C) {i j:Nat} (hj:j<12) (h:Fxd j∨U (i*12+8)=0):∀ k,k≤m→apartN C U k (i*12+j)=U (i*12+j)∧apartN C U k (i*12+8)=U (i*12+8)
 |0,_=>⟨rfl,rfl⟩
 | k+1,hk=>by
   obtain⟨h1,h2⟩:=aparts_keep hC hj h k (by omega)
   have ha:=hC.a k (by omega)
   have hb:=hC.b k (by omega)
   have hn:=hC.ne k (by omega)
   have hAB:(C (k*5)).toNat≠(C (k*5+1)).toNat:=by omega
   rw[apartN]
   exact⟨(apart_keep hj _ _ _ hAB (by rw[h2];exact h)).trans h1,(apart_keep (by decide) _ _ _ hAB (.inl (by unfold Fxd;decide))).trans h2⟩
theorem sleepS_keep {G:Nat→Int} {A:Nat→Bool} {n g i j:Nat} {U:Nat→Int} (hi:i<n) (hj:j<12) (h:(j≠6∧j≠7∧j≠11)∨G i≠(g:Int)∨A g=false):sleepS G A n g U (i*12+j)=U (i*12+j):=by
 unfold sleepS
 cases hc:(A g&&allQ G U g n) with
 |false=>rfl
 | true=>
   simp only[cond_true]
   rw[mapR_in hi hj]
   unfold slF
   cases hd:decide (G i=(g:Int)) with
   |false=>rfl
   | true=>
     rcases h with⟨h6,h7,h11⟩|h|h
     · simp only[cond_true]
       unfold slV
       rw[if_neg h7,if_neg h6,if_neg h11]
     · exact absurd (of_decide_eq_true hd) h
     · rw[h] at hc;cases hc
theorem sleepN_keep {G:Nat→Int} {A:Nat→Bool} {n i j:Nat} {U:Nat→Int} (hi:i<n) (hj:j<12):∀ N,((j≠6∧j≠7∧j≠11)∨∀ g:Nat,g<N→G i≠(g:Int)∨A g=false)→sleepN G A n U N (i*12+j)=U (i*12+j)
 |0,_=>rfl
 | g+1,h=>by
   rw[sleepN,sleepS_keep hi hj (h.imp id (fun q=>q g (by omega))),sleepN_keep hi hj g (h.imp id (fun q g' hg'=>q g' (by omega)))]
theorem stepU_eq (n:Nat) (U:Nat→Int) (g:Int):stepU n U g=sleepN (gpG n U) (awA n U) n (mapR (fun i V=>quietV (wokeU n U (i*12+11)) V) (goneU n U g) n) (awN n U):=rfl
theorem woke_at {n:Nat} {U:Nat→Int} {i j:Nat} (hi:i<n) (hj:j<12):wokeU n U (i*12+j)=wakeV (awK (gpG n U) (awA n U) i) (fun j=>U (i*12+j)) j:=by unfold wokeU;exact mapR_in hi hj
theorem step_keep {n:Nat} {U:Nat→Int} {g:Int} {i j:Nat} (hi:i<n) (hj:j<12) (h:Fxd j∨U (i*12+8)=0):stepU n U g (i*12+j)=U (i*12+j):=by
 have hG:=grp_bd U _ (gpG n U) n (gp_val n U) i hi
 have hgo:U (i*12+8)=0→awK (gpG n U) (awA n U) i=false:=fun e=>by
  unfold awK
  rw[decide_eq_false (fun q=>hG.2.2 q e)]
  rfl
 have m1:wokeU n U (i*12+8)=U (i*12+8):=by rw[woke_at hi (by decide)];exact wakeV_keep _ _ (.inl (by decide))
 have j1:wokeU n U (i*12+j)=U (i*12+j):=by
  rw[woke_at hi hj]
  exact wakeV_keep _ _ (h.imp (fun q=>q.2.2.2.2) hgo)
 have m2:mapR (fun _ V=>pullV g V) (wokeU n U) n (i*12+8)=U (i*12+8):=by rw[mapR_in hi (by decide)];exact(pullV_keep g _ (.inl (by decide))).trans m1
 have j2:mapR (fun _ V=>pullV g V) (wokeU n U) n (i*12+j)=U (i*12+j):=by
  rw[mapR_in hi hj]
  exact(pullV_keep g _ (h.imp (fun q=>q.2.2.2.1) (fun q=>live0 (m1.trans q)))).trans j1
 have a3:=all_keep (U:=mapR (fun _ V=>pullV g V) (wokeU n U) n) (lv_ok n U).1 (i:=i) hj (h.imp (fun q=>⟨q.2.2.1,q.2.2.2.1,q.2.2.2.2⟩) (fun q=>m2.trans q)) 4
 have m3:pushU n U g (i*12+8)=U (i*12+8):=a3.2.trans m2
 have j3:pushU n U g (i*12+j)=U (i*12+j):=a3.1.trans j2
 have m4:mapR (fun _ V=>goV V) (pushU n U g) n (i*12+8)=U (i*12+8):=by rw[mapR_in hi (by decide)];exact(goV_keep _ (.inl (by decide))).trans m3
 have j4:mapR (fun _ V=>goV V) (pushU n U g) n (i*12+j)=U (i*12+j):=by
  rw[mapR_in hi hj]
  exact(goV_keep _ (h.imp (fun q=>⟨q.1,q.2.1,q.2.2.1,q.2.2.2.1⟩) (fun q=>live0 (m3.trans q)))).trans j3
 have a5:=aparts_keep (U:=mapR (fun _ V=>goV V) (pushU n U g) n) (lv_ok n U).1 (i:=i) hj (h.imp id (fun q=>m4.trans q)) (lvM n U) (Nat.le_refl _)
 have m5:goneU n U g (i*12+8)=U (i*12+8):=a5.2.trans m4
 have j5:goneU n U g (i*12+j)=U (i*12+j):=a5.1.trans j4
 have j6:mapR (fun i V=>quietV (wokeU n U (i*12+11)) V) (goneU n U g) n (i*12+j)=U (i*12+j):=by
  rw[mapR_in hi hj]
  exact(quietV_keep _ _ (h.imp (fun q=>q.2.2.2.2) (fun q=> .inl (m5.trans q)))).trans j5
 rw[stepU_eq,sleepN_keep hi hj _ (h.imp (fun q=>⟨q.2.2.1,q.2.2.2.1,q.2.2.2.2⟩) (fun q k _=> .inl (fun e=>hG.2.2 (by omega) q))),j6]
theorem sts_add (n:Nat) (U:Nat→Int) (g:Int) (a:Nat):∀ b,stsU n (stsU n U g a) g b=stsU n U g (a+b)
 |0=>rfl
 |b+1=>by rw[stsU,sts_add n U g a b];rfl
theorem anyB_f {q:Nat→Bool}:∀ {n:Nat},anyB q n=false→∀ j,j<n→q j=false
 |0,_,j,hj=>absurd hj (Nat.not_lt_zero _)
 | n+1,h,j,hj=>by
   rw[anyB,Bool.or_eq_false_iff] at h
   rcases Nat.lt_succ_iff_lt_or_eq.1 hj with l|rfl
   · exact anyB_f h.1 j l
   · exact h.2
theorem anyB_t {q:Nat→Bool} {j:Nat} (h:q j=true):∀ {n:Nat},j<n→anyB q n=true
 |0,hj=>absurd hj (Nat.not_lt_zero _)
 | n+1,hj=>by
   rw[anyB]
   rcases Nat.lt_succ_iff_lt_or_eq.1 hj with l|rfl
   · rw[anyB_t h l];rfl
   · rw[h,Bool.or_true]
theorem gp_num (n:Nat) (U:Nat→Int):∀ j,j<n→gpG n U j=gnum (fxU U) (lab (edg U (ctC n U)) (ctM n U)) j:=grpL_eq (ct_ok n U).1
theorem awA_any (n:Nat) (U:Nat→Int) (t:Nat) (ht:t<awN n U):awA n U t=anyB (fun j=>decide (gpG n U j=(t:Int))&& !slG U j) n:=by
 obtain⟨e1,e2⟩:=awL_eq (G:=gpG n U) (lab_tops U (ctC n U) (ctM n U)) (gp_num n U) n (Nat.le_refl _)
 unfold awA
 unfold awN at ht
 rw[e2 t (by omega)]
 exact anyB_congr n fun j hj=>by rw[gp_num n U j hj]
theorem gp_lt (n:Nat) (U:Nat→Int) (i:Nat) (hi:i<n): -1≤gpG n U i∧gpG n U i<(awN n U:Int)∧(0≤gpG n U i→U (i*12+8)≠0):=by
 have h:=grp_bd U _ (gpG n U) n (gp_val n U) i hi
 exact⟨h.1.1,h.2.1,h.2.2⟩
theorem gp_mv (n:Nat) (U:Nat→Int) (i:Nat) (hi:i<n) (hm:U (i*12+8)≠0):0≤gpG n U i:=by
 rw[gp_num n U i hi]
 unfold gnum fxU
 rw[decide_eq_false hm]
 simp
theorem gp_touch (n:Nat) (U:Nat→Int) (k:Nat) (hk:k<ctM n U) (hA:U ((ctC n U (k*5)).toNat*12+8)≠0) (hB:U ((ctC n U (k*5+1)).toNat*12+8)≠0):gpG n U (ctC n U (k*5)).toNat=gpG n U (ctC n U (k*5+1)).toNat:=by
 have ha:=(ct_ok n U).1.a k hk
 have hb:=(ct_ok n U).1.b k hk
 have he:=lab_edge (edg U (ctC n U)) (ctM n U) k _ _ hk (show edg U (ctC n U) k=some ((ctC n U (k*5)).toNat,(ctC n U (k*5+1)).toNat) by unfold edg;rw[if_pos ⟨hA,hB⟩])
 rw[gp_num n U _ (by omega),gp_num n U _ (by omega)]
 unfold gnum fxU
 rw[he,decide_eq_false hA,decide_eq_false hB]
theorem grp_sleeps {n:Nat} {U:Nat→Int} {i j:Nat} (hi:i<n) (hj:j<n) (h0:0≤gpG n U i) (h:awA n U (gpG n U i).toNat=false) (e:gpG n U j=gpG n U i):8≤U (j*12+11):=by
 have hl:=gp_lt n U i hi
 rw[awA_any n U _ (by omega)] at h
 have q:=anyB_f h j hj
 rw[decide_eq_true (show gpG n U j=((gpG n U i).toNat:Int) by omega),Bool.true_and] at q
 unfold slG at q
 simp only[Bool.not_eq_false',decide_eq_true_eq] at q
 exact q
def Rests (n:Nat) (U:Nat→Int) (i:Nat):Prop:=U (i*12+8)=0∨(0≤gpG n U i∧awA n U (gpG n U i).toNat=false)
theorem woke_rest {n:Nat} {U:Nat→Int} {i:Nat} (hi:i<n) (h:Rests n U i) {j:Nat} (hj:j<12):wokeU n U (i*12+j)=U (i*12+j):=by
 rw[woke_at hi hj]
 refine wakeV_keep _ _ (.inr ?_)
 unfold awK
 rcases h with h|⟨h0,h⟩
 · rw[decide_eq_false (fun q=>(gp_lt n U i hi).2.2 q h)];rfl
 · rw[h,Bool.and_false]
theorem rest_live {n:Nat} {U:Nat→Int} {i:Nat} (hi:i<n) (h:Rests n U i):liveV (rowU (wokeU n U) (i:Int))=false:=by
 have e:∀ j,j<12→rowU (wokeU n U) (i:Int) j=U (i*12+j):=fun j hj=>by
  show wokeU n U ((i:Int).toNat*12+j)=_
  rw[Int.toNat_natCast]
  exact woke_rest hi h hj
 rcases id h with h|⟨h0,h1⟩
 · exact live0 ((e 8 (by decide)).trans h)
 · exact live8 (by rw[e 11 (by decide)];exact grp_sleeps hi hi h0 h1 rfl)
theorem rest_con {n:Nat} {U:Nat→Int} {i k:Nat} (hi:i<n) (h0:0≤gpG n U i) (h:awA n U (gpG n U i).toNat=false) (hk:k<ctM n U) (e:i=(ctC n U (k*5)).toNat∨i=(ctC n U (k*5+1)).toNat):liveC (wokeU n U) (ctC n U) k=false:=by
 have ha:=(ct_ok n U).1.a k hk
 have hb:=(ct_ok n U).1.b k hk
 have hr:∀ j,j<n→gpG n U j=gpG n U i→Rests n U j:=fun j hj q=> .inr ⟨by omega,by rw[q];exact h⟩
 have hA:Rests n U (ctC n U (k*5)).toNat∧Rests n U (ctC n U (k*5+1)).toNat:=by
  by_cases mA:U ((ctC n U (k*5)).toNat*12+8)=0
  · refine⟨.inl mA,?_⟩
    by_cases mB:U ((ctC n U (k*5+1)).toNat*12+8)=0
    · exact .inl mB
    · rcases e with e|e
      · exact absurd (by rw[e];exact mA) ((gp_lt n U i hi).2.2 h0)
      · exact hr _ (by omega) (by rw[←e])
  · by_cases mB:U ((ctC n U (k*5+1)).toNat*12+8)=0
    · refine⟨?_,.inl mB⟩
      rcases e with e|e
      · exact hr _ (by omega) (by rw[←e])
      · exact absurd (by rw[e];exact mB) ((gp_lt n U i hi).2.2 h0)
    · have q:=gp_touch n U k hk mA mB
      rcases e with e|e
      · exact⟨hr _ (by omega) (by rw[←e]),hr _ (by omega) (by rw[←q,←e])⟩
      · exact⟨hr _ (by omega) (by rw[q,←e]),hr _ (by omega) (by rw[←e])⟩
 unfold liveC
 have e1:=rest_live (by omega) hA.1
 have e2:=rest_live (by omega) hA.2
 rw[Int.toNat_of_nonneg ha.1] at e1
 rw[Int.toNat_of_nonneg hb.1] at e2
 rw[e1,e2]
 rfl
theorem live_P {P:Int→Int→Int→Int→Int→Prop} {U C:Nat→Int} {m:Nat} (h:∀ k,k<m→liveC U C k=true→P (C (k*5)) (C (k*5+1)) (C (k*5+2)) (C (k*5+3)) (C (k*5+4))):∀ k,k≤m→Fives P (liveL U C k)
 |0,_=>Fives.nil _
 | k+1,hk=>by
   have ih:=live_P h k (by omega)
   cases e:liveC U C k with
   |true=>rw[liveL_yes e];exact ih.app (Fives.one (h k (by omega) e))
   |false=>rw[liveL_no e];exact ih
theorem live_at {P:Int→Int→Int→Int→Int→Prop} {n:Nat} {U:Nat→Int} (h:∀ k,k<ctM n U→liveC (wokeU n U) (ctC n U) k=true→P (ctC n U (k*5)) (ctC n U (k*5+1)) (ctC n U (k*5+2)) (ctC n U (k*5+3)) (ctC n U (k*5+4))):
 ∀ k,k<lvM n U→P (lvC n U (k*5)) (lvC n U (k*5+1)) (lvC n U (k*5+2)) (lvC n U (k*5+3)) (lvC n U (k*5+4)):=by
 obtain⟨m,e,q⟩:=live_P h (ctM n U) (Nat.le_refl _)
 have hm:lvM n U=m:=by unfold lvM;omega
 rw[hm]
 exact q
theorem live_far {n:Nat} {U:Nat→Int} {i:Nat} (h:∀ k,k<ctM n U→(i=(ctC n U (k*5)).toNat∨i=(ctC n U (k*5+1)).toNat)→liveC (wokeU n U) (ctC n U) k=false):Far (lvC n U) (lvM n U) i:=by
 have q:=live_at (P:=fun a b _ _ _=>i≠a.toNat∧i≠b.toNat) (n:=n) (U:=U) fun k hk hl=>⟨fun e=>(by rw[h k hk (.inl e)] at hl;cases hl),fun e=>(by rw[h k hk (.inr e)] at hl;cases hl)⟩
 exact fun k hk=>q k hk
theorem step_rest {n:Nat} {U:Nat→Int} {g:Int} {i j:Nat} (hi:i<n) (hj:j<12) (h:Rests n U i):stepU n U g (i*12+j)=U (i*12+j):=by
 rcases id h with hm|⟨h0,ha⟩
 · exact step_keep hi hj (.inr hm)
 have w1:∀ j,j<12→wokeU n U (i*12+j)=U (i*12+j):=fun j hj=>woke_rest hi h hj
 have q8:8≤U (i*12+11):=grp_sleeps hi hi h0 ha rfl
 have hF:=live_far fun k hk e=>rest_con hi h0 ha hk e
 have w2:∀ j,j<12→mapR (fun _ V=>pullV g V) (wokeU n U) n (i*12+j)=U (i*12+j):=fun j hj=>by
  rw[mapR_in hi hj]
  exact(pullV_keep g _ (.inr (live8 (by rw[w1 11 (by decide)];exact q8)))).trans (w1 j hj)
 have w3:∀ j,j<12→pushU n U g (i*12+j)=U (i*12+j):=fun j hj=>(all_far hF hj 4).trans (w2 j hj)
 have w4:∀ j,j<12→mapR (fun _ V=>goV V) (pushU n U g) n (i*12+j)=U (i*12+j):=fun j hj=>by
  rw[mapR_in hi hj]
  exact(goV_keep _ (.inr (live8 (by rw[w3 11 (by decide)];exact q8)))).trans (w3 j hj)
 have w5:∀ j,j<12→goneU n U g (i*12+j)=U (i*12+j):=fun j hj=>(aparts_far hF hj _ (Nat.le_refl _)).trans (w4 j hj)
 have w6:∀ j,j<12→mapR (fun i V=>quietV (wokeU n U (i*12+11)) V) (goneU n U g) n (i*12+j)=U (i*12+j):=fun j hj=>by
  rw[mapR_in hi hj]
  exact(quietV_keep _ _ (.inr (.inr (by rw[w5 11 (by decide)];exact q8)))).trans (w5 j hj)
 rw[stepU_eq,sleepN_keep hi hj _ (.inr fun k hk=>by
  by_cases e:gpG n U i=(k:Int)
  · right;rw[e,Int.toNat_natCast] at ha;exact ha
  · exact .inl e),w6 j hj]
theorem all_rest {n:Nat} {U:Nat→Int} (h:∀ k,k<n→U (k*12+8)=0∨8≤U (k*12+11)) (i:Nat) (hi:i<n):Rests n U i:=by
 by_cases hm:U (i*12+8)=0
 · exact .inl hm
 have h0:=gp_mv n U i hi hm
 have hl:=gp_lt n U i hi
 refine .inr ⟨h0,?_⟩
 rw[awA_any n U _ (by omega)]
 refine anyB_no n fun j hj=> ?_
 rcases h j hj with q|q
 · rw[decide_eq_false (fun e=>(gp_lt n U j hj).2.2 (by omega) q),Bool.false_and]
 · unfold slG;rw[decide_eq_true q,Bool.not_true,Bool.and_false]
theorem sts_rest {n:Nat} {U:Nat→Int} {g:Int} (h:∀ k,k<n→U (k*12+8)=0∨8≤U (k*12+11)):∀ s i j,i<n→j<12→stsU n U g s (i*12+j)=U (i*12+j)
 |0,_,_,_,_=>rfl
 | s+1,i,j,hi,hj=>by
   have ih:=sts_rest h (g:=g) s
   rw[stsU]
   exact(step_rest hi hj (all_rest (fun k hk=>by rw[ih k 8 hk (by decide),ih k 11 hk (by decide)];exact h k hk) i hi)).trans (ih i j hi hj)
theorem wakeV_lt (V:Nat→Int):wakeV true V 11<8:=by
 unfold wakeV
 by_cases q:8≤V 11
 · rw[decide_eq_true q]
   show setV V 11 0 11<8
   unfold setV
   rw[if_pos rfl];decide
 · rw[decide_eq_false q]
   show V 11<8
   omega
theorem woke_lt {n:Nat} {U:Nat→Int} {i:Nat} (hi:i<n) (h0:0≤gpG n U i) (ha:awA n U (gpG n U i).toNat=true):wokeU n U (i*12+11)<8:=by
 rw[woke_at hi (by decide),show awK (gpG n U) (awA n U) i=true by unfold awK;rw[decide_eq_true h0,ha];rfl]
 exact wakeV_lt _
theorem pushV_11 (V:Nat→Int) (p q:Int):pushV V p q 11=V 11∨pushV V p q 11=0:=by
 unfold pushV
 split
 · exact .inl rfl
 · refine .inr ?_
   unfold setV
   rw[if_pos rfl]
theorem one_11 {U:Nat→Int} (A B i:Nat) (X Y:Int) (bo:Bool):oneU U A B X Y bo (i*12+11)=U (i*12+11)∨oneU U A B X Y bo (i*12+11)=0:=by
 unfold oneU
 generalize puX (fun j=>U (A*12+j)) (fun j=>U (B*12+j)) X Y bo=p
 generalize puY (fun j=>U (A*12+j)) (fun j=>U (B*12+j)) X Y bo=q
 cases ((p==0&&q==0)|| !fitsB (fun j=>U (A*12+j)) (fun j=>U (B*12+j)) p q) with
 |true=>exact .inl rfl
 | false=>
   simp only[cond_false]
   by_cases eB:i=B
   · subst eB;rw[putRow_is (by decide)];exact pushV_11 _ _ _
   · rw[putRow_else eB (by decide)]
     by_cases eA:i=A
     · subst eA;rw[putRow_is (by decide)];exact pushV_11 _ _ _
     · rw[putRow_else eA (by decide)];exact .inl rfl
theorem rnd_11 {C U:Nat→Int} {i:Nat} (bo:Bool):∀ k,rndN C bo U k (i*12+11)=U (i*12+11)∨rndN C bo U k (i*12+11)=0
 |0=> .inl rfl
 | k+1=>by
   rw[rndN]
   rcases one_11 (U:=rndN C bo U k) _ _ i _ _ bo with e|e
   · rw[e];exact rnd_11 bo k
   · exact .inr e
theorem all_11 {C U:Nat→Int} {m i:Nat}:∀ r,allN C U m r (i*12+11)=U (i*12+11)∨allN C U m r (i*12+11)=0
 |0=> .inl rfl
 | r+1=>by
   rw[allN]
   rcases rnd_11 (C:=C) (U:=allN C U m r) (i:=i) (((r:Nat):Int)==0) m with e|e
   · rw[e];exact all_11 r
   · exact .inr e
theorem apart_11 {U:Nat→Int} (A B i:Nat) (X Y D:Int):apartU U A B X Y D (i*12+11)=U (i*12+11):=by
 have hm:∀ (V:Nat→Int) p q,moveV V p q 11=V 11:=fun V p q=>moveV_keep V p q (by decide) (by decide) (by decide) (by decide)
 unfold apartU
 cases decide (0<(D-64).tdiv 4) with
 |false=>rfl
 | true=>
   simp only[cond_true]
   cases decide (0<U (A*12+8))<;>cases decide (0<U (B*12+8))<;>simp only[cond_true,cond_false]
   · by_cases e:i=B
     · subst e;rw[putRow_is (by decide),hm]
     · rw[putRow_else e (by decide)]
   · by_cases e:i=A
     · subst e;rw[putRow_is (by decide),hm]
     · rw[putRow_else e (by decide)]
   · by_cases e:i=B
     · subst e;rw[putRow_is (by decide),hm]
     · rw[putRow_else e (by decide)]
       by_cases e2:i=A
       · subst e2;rw[putRow_is (by decide),hm]
       · rw[putRow_else e2 (by decide)]
theorem aparts_11 {C U:Nat→Int} {i:Nat}:∀ k,apartN C U k (i*12+11)=U (i*12+11)
 |0=>rfl
 |k+1=>by rw[apartN,apart_11,aparts_11 k]
theorem quiet_lt {n:Nat} {U:Nat→Int} {g:Int} {i:Nat} (hi:i<n) (h:wokeU n U (i*12+11)<8):mapR (fun i V=>quietV (wokeU n U (i*12+11)) V) (goneU n U g) n (i*12+11)<8:=by
 have e2:mapR (fun _ V=>pullV g V) (wokeU n U) n (i*12+11)=wokeU n U (i*12+11):=by rw[mapR_in hi (by decide)];exact pullV_keep g _ (.inl (by decide))
 have e3:pushU n U g (i*12+11)<8:=by
  rcases all_11 (C:=lvC n U) (U:=mapR (fun _ V=>pullV g V) (wokeU n U) n) (m:=lvM n U) (i:=i) 4 with e|e
  · exact Int.lt_of_le_of_lt (Int.le_of_eq (e.trans e2)) h
  · exact Int.lt_of_le_of_lt (Int.le_of_eq e) (by decide)
 have e4:mapR (fun _ V=>goV V) (pushU n U g) n (i*12+11)=pushU n U g (i*12+11):=by rw[mapR_in hi (by decide)];exact goV_keep _ (.inl (by decide))
 have e5:goneU n U g (i*12+11)<8:=Int.lt_of_le_of_lt (Int.le_of_eq ((aparts_11 _).trans e4)) e3
 rw[mapR_in hi (by decide)]
 unfold quietV
 cases (decide ((fun j=>goneU n U g (i*12+j)) 8=0)||decide (8≤(fun j=>goneU n U g (i*12+j)) 11)) with
 |true=>exact e5
 | false=>
   simp only[cond_false]
   unfold setV
   rw[if_pos rfl]
   cases (decide (-8≤spX (fun j=>goneU n U g (i*12+j))∧spX (fun j=>goneU n U g (i*12+j))≤8)&&decide (-8≤spY (fun j=>goneU n U g (i*12+j))∧spY (fun j=>goneU n U g (i*12+j))≤8)) with
   |true=>show mn _ 7<8;unfold mn;split<;>omega
   |false=>show (0:Int)<8;decide
theorem sleepN_one {G:Nat→Int} {A:Nat→Bool} {n t:Nat} {U:Nat→Int} (hU:∀ i,i<n→G i=(t:Int)→U (i*12+11)<8):∀ N,(∀ i,i<n→G i=(t:Int)→sleepN G A n U N (i*12+11)<8)∨(∀ i,i<n→G i=(t:Int)→sleepN G A n U N (i*12+11)=8)
 |0=> .inl hU
 | g+1=>by
   by_cases e:g=t
   · subst e
     have hk:∀ i,i<n→G i=(g:Int)→sleepN G A n U g (i*12+11)=U (i*12+11):=fun i hi hg=>sleepN_keep hi (by decide) g (.inr fun q hq=> .inl (by omega))
     rw[sleepN]
     unfold sleepS
     cases (A g&&allQ G (sleepN G A n U g) g n) with
     |false=>exact .inl fun i hi hg=>by show sleepN G A n U g (i*12+11)<8;rw[hk i hi hg];exact hU i hi hg
     | true=>
       refine .inr fun i hi hg=> ?_
       simp only[cond_true]
       rw[mapR_in hi (by decide)]
       unfold slF
       rw[decide_eq_true hg]
       rfl
   · have hk:∀ i,i<n→G i=(t:Int)→sleepN G A n U (g+1) (i*12+11)=sleepN G A n U g (i*12+11):=fun i hi hg=>by
      rw[sleepN]
      exact sleepS_keep hi (by decide) (.inr (.inl (by omega)))
     rcases sleepN_one hU g with q|q
     · exact .inl fun i hi hg=>by rw[hk i hi hg];exact q i hi hg
     · exact .inr fun i hi hg=>by rw[hk i hi hg];exact q i hi hg
theorem step_as_one {n:Nat} {U:Nat→Int} {g:Int} {t:Nat} (ha:awA n U t=true):(∀ i,i<n→gpG n U i=(t:Int)→stepU n U g (i*12+11)<8)∨(∀ i,i<n→gpG n U i=(t:Int)→stepU n U g (i*12+11)=8):=by
 rw[stepU_eq]
 refine sleepN_one (fun i hi hg=>quiet_lt hi (woke_lt hi (by omega) (by rw[hg,Int.toNat_natCast];exact ha))) _
def awO (n:Nat) (U:Nat→Int):List Bool:=bif bodsB n U then awL U (ofL (grpU n U)) n else []
theorem awO_len (n:Nat) (U:Nat→Int):(awO n U).length≤12:=by
 unfold awO
 cases h:bodsB n U with
 |false=>exact Nat.zero_le _
 |true=>exact Nat.le_trans (awL_len _ _ n) (bods_n h)
theorem awO_y {n:Nat} {U:Nat→Int} (h:bodsB n U=true):awO n U=awL U (ofL (grpU n U)) n:=by unfold awO;rw[h];rfl
theorem awO_n {n:Nat} {U:Nat→Int} (h:bodsB n U=false):awO n U=[]:=by unfold awO;rw[h];rfl
theorem bods_body {U:Nat→Int} {n k:Nat} (h:bodsB n U=true) (l:k<n):bodyB (fun j=>U (k*12+j))=true:=by
 unfold bodsB at h
 rw[Bool.and_eq_true] at h
 have key:∀ m,allBB U m=true→k<m→stepBB U k=true:=by
  intro m
  induction m with
  |zero=>intro _ l;omega
  | succ m ih=>
    intro hm l
    unfold allBB at hm
    rw[Bool.and_eq_true] at hm
    by_cases e:k=m
    · subst e;exact hm.2
    · exact ih hm.1 (by omega)
 have:=key n h.2 l
 unfold stepBB at this
 rw[Bool.and_eq_true] at this
 exact this.1
theorem bods_quiet {U:Nat→Int} {n k:Nat} (h:bodsB n U=true) (l:k<n):0≤U (k*12+11)∧U (k*12+11)≤8:=by
 have h2:=bods_body h l
 unfold bodyB at h2
 simp only[Bool.and_eq_true] at h2
 exact of_decide_eq_true h2.2.2.2.2.2.2.2.1
theorem bods_q {n:Nat} {U:Nat→Int} (h:bodsB n U=true):∀ j,j<n→decide (colOf U 11 j=8)=slG U j:=fun j hj=>by
 have q:=bods_quiet h hj
 unfold slG colOf
 exact decide_eq_decide.2 ⟨fun e=>by omega,fun e=>by omega⟩
theorem awakeI_q (a:Option Addr) (n c:Nat) (U:Nat→Int) (N:Nat) (w:World) (h:Flat w a (n*12) U) (hn:n≤1048576) (hN:(awO n U).length=N):
 Calls Tryz.prog 13 #[.slice a n c] w fun e w'=>∃ a' c',e= .returned (.slice a' N c')∧OutB w w' a' N c' (fun j=>(awO n U).getD j false):=by
 have hset:=cset_map
 cases hok:bodsB n U with
 | true=>
   have h12:=bods_n hok
   obtain⟨hM,hMk⟩:=conN_eq U h12
   refine(groupAwake_any a n c U _ w h hok h12 hM (by omega) (bods_q hok)).mono ?_
   rintro e w' ⟨v,m,bl,rfl,hm,ho,hl,hb,hB⟩
   obtain⟨e1,e2⟩:=awL_eq (lab_tops U (ofL (conL (colOf U) n)) (conN n U)) (grpU_eq h12) n (Nat.le_refl _)
   have ee:bl=awO n U:=by
    rw[awO_y hok]
    exact bool_eq (by rw[hl,hm,e1]) (fun t ht=>by rw[hb t (by omega),e2 t (by omega)])
   subst ee
   obtain rfl:m=N:=by rw[←hl,hN]
   rw[BV_bol hl] at ho
   have hv:∃ a' c',v= .slice a' m c':=by
    rcases ho.2 with⟨hv,e⟩|⟨g,cap,cur,hv,_⟩
    · exact⟨_,_,by rw[hv,e]⟩
    · exact⟨_,_,hv⟩
   obtain⟨a',c',rfl⟩:=hv
   exact⟨a',c',rfl,hB,ho⟩
 | false=>
   rw[awO_n hok] at hN ⊢
   obtain rfl:0=N:=hN
   refine calls_of_wp_marks Tryz.func13 rfl ?_
   simp only[Tryz.ntmps13,List.size_toArray,List.length_cons,List.length_nil,Nat.reduceAdd,Nat.reduceSub,Array.replicate_succ,Array.replicate_zero,List.push_toArray,List.append_toArray,List.nil_append,List.cons_append]
   go_wp2_with (go_at_call 27;refine(columnsOf_no a n c U _ h hn hok).mono ?_;rintro e w1 ⟨rfl,hb1⟩)
   refine marks_ret0 (v:= .slice none 0 0) rfl ?_ ⟨none,0,rfl,hb1,OwnB.nil _ _ _⟩
   simp[results,Tryz.results13,go_sem, *]
theorem awakeI_r {n:Nat} {U:Nat→Int} {R:Nat→Bool} (hR:R=fun j=>(awO n U).getD j false) (a:Option Addr) (c N:Nat) (w:World) (h:Flat w a (n*12) U) (hn:n≤1048576) (hN:(awO n U).length=N):
 Calls Tryz.prog 13 #[.slice a n c] w fun e w'=>∃ a' c',e= .returned (.slice a' N c')∧OutB w w' a' N c' R:=by subst hR;exact awakeI_q a n c U N w h hn hN
end Go.Proofs.YtcalhcfinkhemaaGreatDoor
