/- Texts of a proof. -/
import Derived.Test.YtcalhcfinkhemaaGreatDoorB2
import Derived.Test.YtcalhcfinkhemaaGreatDoorB4
import Derived.Test.YtcalhcfinkhemaaGreatDoorB38
import Derived.Test.YtcalhcfinkhemaaGreatDoorB36
import Derived.Test.YtcalhcfinkhemaaGreatDoorB16
import Derived.Deep.RegionHeld3
import Derived.Deep.DeepCutAuto
import Derived.Test.YtcalhcfinkhemaaGreatDoorB15
import Derived.Test.YtcalhcfinkhemaaGreatDoorB12
import Derived.Test.YtcalhcfinkhemaaGreatDoorS9q
import Derived.Test.YtcalhcfinkhemaaGreatDoorB21
import Derived.Sort.CutIn
import Derived.Test.YtcalhcfinkhemaaGreatDoorB34
import Derived.Test.YtcalhcfinkhemaaGreatDoorB7
import Derived.Test.YtcalhcfinkhemaaGreatDoorB14
import Derived.LoopNIn
import Derived.LoopIn
import Derived.OwnWalkIn
set_option maxHeartbeats 16000000
set_option maxRecDepth 20000
namespace Go.Proofs.YtcalhcfinkhemaaGreatDoor
open Go.RowKit
set_option linter.unusedVariables false
set_option linter.unusedSimpArgs false
theorem wayTimes_z (x y n p q:Int) (w:World) (hx: -1000000000≤x∧x≤1000000000) (hy: -1000000000≤y∧y≤1000000000) (hn: -1000000000≤n∧n≤1000000000) (ep:fc ((x*n).tdiv 256)=p) (eq:fc ((y*n).tdiv 256)=q):
 Calls Tryz.prog 179 #[vv x y,.int .i64 n] w fun e w'=>e= .returned (vv p q)∧Below w.heap.size w w':=by
 subst ep eq;exact wayTimes_any x y n w hx hy hn
theorem kMoveU {cb n k:Nat} {U:Nat→Int} {S:Nat→Value} {w:World} (h:Cs w cb n (colOf U) S) (hk:k<n) (hn:n≤1048576) (a4: -2560000≤U (k*12+4)∧U (k*12+4)≤2560000) (a5: -2560000≤U (k*12+5)∧U (k*12+5)≤2560000) (p q:Int) (bp: -20000000≤p∧p≤20000000) (bq: -20000000≤q∧q≤20000000):
 Calls Tryz.prog 148 #[hdk cb k,vv p q] w fun e w'=>e= .returned (.tuple #[])∧Cs w' cb n (colOf (putRow U k (moveV (fun j=>U (k*12+j)) p q))) S∧Fr (Xc S) w w':=by
 refine(kMove_c h hk hn p q _ _ _ _ (fun j=>U (k*12+j)) (fun i=>rfl) a4 a5 bp bq rfl rfl rfl rfl).mono ?_
 rintro e w1 ⟨rfl,hC,hF⟩
 refine⟨rfl,hC.congr fun i j hi hj=> ?_,hF⟩
 rw[col_put hi]
 unfold setC moveV mvX mvY setV
 by_cases e:j=k
 · subst e
   simp only[and_true,if_true]
   repeat' split
   all_goals rfl
 · simp only[e,and_false,if_false]
theorem td_sh {x m:Int} (hx: -256≤x∧x≤256) (hm:0≤m∧m≤30000): -30000≤(x*m).tdiv 256∧(x*m).tdiv 256≤30000∧fc ((x*m).tdiv 256)=(x*m).tdiv 256:=by
 have p:=mul_bd (a:=x) (b:=m) (A:=256) (B:=30000) hx (by omega)
 have t:=tdiv_le (x:=x*m) (B:=30000) (m:=256) (by omega) (by omega) (by omega)
 exact⟨t.1,t.2,fc_id (by omega) (by omega)⟩
theorem mApart {cb n A B:Nat} {U:Nat→Int} {S:Nat→Value} {w:World} (x y d:Int) (h:Cs w cb n (colOf U) S) (hn:n≤1048576) (hAn:A<n) (hBn:B<n) (hAB:A≠B) (oA:BOk (fun j=>U (A*12+j))) (oB:BOk (fun j=>U (B*12+j))) (hX: -256≤x∧x≤256) (hY: -256≤y∧y≤256) (hD:0≤d∧d≤102400):
 Calls Tryz.prog 165 #[(.agg #[.int .i64 x,.int .i64 y,.int .i64 d,.int .i64 (A:Int),.pointer (some ⟨cb,0,none⟩),.int .i64 (B:Int),.pointer (some ⟨cb,0,none⟩)])] w fun e w'=>e= .returned (.tuple #[])∧Cs w' cb n (colOf (apartU U A B x y d)) S∧Fr (Xc S) w w':=by
 have hset:=cset_map
 have hx:∀ b,w.heap.size≤b→¬ Xc S b:=fun b hb x=>by have:=(h.xlt x).2;omega
 obtain⟨m,em⟩:∃ m,(d-64).tdiv 4=m:=⟨_,rfl⟩
 have bm: -30000≤m∧m≤30000:=by rw[←em];exact tdiv_le (by omega) (by omega) (by omega)
 have w1_:IntKind.i64.wrap (d-64)=d-64:=i64w (by omega)
 have w2_:IntKind.i64.wrap ((d-64).tdiv 4)=m:=by rw[em];exact i64w (by omega)
 have w3_:IntKind.i64.wrap m=m:=i64w (by omega)
 by_cases hm:0<m
 · have hmn:¬ (m≤0):=by omega
   obtain⟨sa,esa⟩:∃ s,shareV (fun j=>U (A*12+j)) (fun j=>U (B*12+j)) m=s:=⟨_,rfl⟩
   obtain⟨sb,esb⟩:∃ s,shareV (fun j=>U (B*12+j)) (fun j=>U (A*12+j)) m=s:=⟨_,rfl⟩
   have ba:=share_bd (V:=(fun j=>U (A*12+j))) (W:=(fun j=>U (B*12+j))) (n:=m) oA.m8.1 oB.m8.1 (by omega)
   have bb:=share_bd (V:=(fun j=>U (B*12+j))) (W:=(fun j=>U (A*12+j))) (n:=m) oB.m8.1 oA.m8.1 (by omega)
   rw[esa] at ba
   rw[esb] at bb
   obtain⟨p,ep⟩:∃ p,(-x*sa).tdiv 256=p:=⟨_,rfl⟩
   obtain⟨q,eq⟩:∃ q,(-y*sa).tdiv 256=q:=⟨_,rfl⟩
   obtain⟨r,er⟩:∃ r,(x*sb).tdiv 256=r:=⟨_,rfl⟩
   obtain⟨s,es⟩:∃ s,(y*sb).tdiv 256=s:=⟨_,rfl⟩
   obtain⟨tp1,tp2,fp⟩:=td_sh (x:= -x) (m:=sa) (by omega) (by omega)
   obtain⟨tq1,tq2,fq⟩:=td_sh (x:= -y) (m:=sa) (by omega) (by omega)
   obtain⟨tr1,tr2,fr⟩:=td_sh (x:=x) (m:=sb) (by omega) (by omega)
   obtain⟨ts1,ts2,fs⟩:=td_sh (x:=y) (m:=sb) (by omega) (by omega)
   rw[ep] at tp1 tp2
   replace fp:=fp.trans ep
   rw[eq] at tq1 tq2
   replace fq:=fq.trans eq
   rw[er] at tr1 tr2
   replace fr:=fr.trans er
   rw[es] at ts1 ts2
   replace fs:=fs.trans es
   have ht:=apart_two (U:=U) (A:=A) (B:=B) (x:=x) (y:=y) (d:=d) (p:=p) (q:=q) (r:=r) (s:=s) hAB oA oB (by rw[em];exact hm) (by rw[em,esa];exact ep) (by rw[em,esa];exact eq) (by rw[em,esb];exact er) (by rw[em,esb];exact es)
   have mA:=oA.m8
   have mB:=oB.m8
   have hA0:HAt w cb n A (fun j=>U (A*12+j)) (gOf S):=h.hat hAn hn
   have hB0:HAt w cb n B (fun j=>U (B*12+j)) (gOf S):=h.hat hBn hn
   have l1:=hA0.cbl
   clear ep eq er es
   obtain⟨U1,eU1⟩:∃ U1,putRow U A (moveV (fun j=>U (A*12+j)) p q)=U1:=⟨_,rfl⟩
   rw[eU1] at ht
   rw[←ht]
   clear ht
   have r8A:U1 (A*12+8)=U (A*12+8):=by rw[←eU1,row_is 8 (by omega)];rfl
   have r8B:U1 (B*12+8)=U (B*12+8):=by rw[←eU1,row_else (fun e=>hAB e.symm) 8 (by omega)]
   have oB1:(-2560000≤U1 (B*12+4)∧U1 (B*12+4)≤2560000)∧(-2560000≤U1 (B*12+5)∧U1 (B*12+5)≤2560000):=by rw[←eU1,row_else (fun e=>hAB e.symm) 4 (by omega),row_else (fun e=>hAB e.symm) 5 (by omega)];exact⟨oB.a4,oB.a5⟩
   have esb1:shareV (fun j=>U1 (B*12+j)) (fun j=>U1 (A*12+j)) m=sb:=(shareV_congr m r8B r8A).trans esb
   have mA1:0≤U1 (A*12+8)∧U1 (A*12+8)≤1000:=by rw[r8A];exact mA
   have mB1:0≤U1 (B*12+8)∧U1 (B*12+8)≤1000:=by rw[r8B];exact mB
   go_enter Tryz.func165,Tryz.ntmps165
   go_upto_region 3 with fail
   go_cut [] (fun wc=>Cs wc cb n (colOf U1) S∧Fr (Xc S) w wc∧wc.cell? ⟨w.heap.size,0,none⟩=some (.int .i64 x)∧wc.cell? ⟨w.heap.size,1,none⟩=some (.int .i64 y)∧wc.cell? ⟨w.heap.size,2,none⟩=some (.int .i64 d)∧wc.cell? ⟨w.heap.size,3,none⟩=some (.int .i64 (A:Int))∧wc.cell? ⟨w.heap.size,4,none⟩=some (.pointer (some ⟨cb,0,none⟩))∧wc.cell? ⟨w.heap.size,5,none⟩=some (.int .i64 (B:Int))∧wc.cell? ⟨w.heap.size,6,none⟩=some (.pointer (some ⟨cb,0,none⟩))∧w.heap.size<wc.heap.size)
   case first=>
    clear esb1 mA1 mB1 r8A r8B oB1
    refine wp_region_held_drew (S:=fun w'=>w'.cell? ⟨w.heap.size,0,none⟩=some (.int .i64 x)∧w'.cell? ⟨w.heap.size,1,none⟩=some (.int .i64 y)∧w'.cell? ⟨w.heap.size,2,none⟩=some (.int .i64 d)∧w'.cell? ⟨w.heap.size,3,none⟩=some (.int .i64 (A:Int))∧w'.cell? ⟨w.heap.size,4,none⟩=some (.pointer (some ⟨cb,0,none⟩))∧w'.cell? ⟨w.heap.size,5,none⟩=some (.int .i64 (B:Int))∧w'.cell? ⟨w.heap.size,6,none⟩=some (.pointer (some ⟨cb,0,none⟩))) (by kernel_rfl) ?_ (fun hHeld=> ?_)
    · (try dsimp only)
      (first|(go_simp;done)|(go_keep;done))
    refine tq 0 hHeld ?_
    refine tq 1 hHeld ?_
    refine tq 2 hHeld ?_
    refine tq 3 hHeld ?_
    refine tq 4 hHeld ?_
    refine tq 6 hHeld ?_
    refine tq 7 hHeld ?_
    refine tq 8 hHeld ?_
    refine tq 9 hHeld ?_
    refine tq 10 hHeld ?_
    (refine tc 5 fun K hK=> ?_;go_simp;(go_at_call 176;refine(opp_z _ _ _ (by omega) (by omega)).mono ?_;rintro e w1 ⟨rfl,hb1⟩;have hz1:=hb1.size;(try simp only[zz] at hz1);have:=kfa hb1 w.heap.size);(try go_wp2_with fail);refine tr hK (fun hHeld=> ?_);clear hK K)
    (refine tc 11 fun K hK=> ?_;go_simp;(go_at_call 180;refine(kShare (hA0.below (bel_a)) (hB0.below (bel_a)) _ _ (by omega) (by omega) (by omega) (by with_reducible assumption)).mono ?_;rintro e w2 ⟨rfl,hb2⟩;have hz2:=hb2.size;(try simp only[zz] at hz2);have:=kfa hb2 w.heap.size);(try go_wp2_with fail);refine tr hK (fun hHeld=> ?_);clear hK K)
    (refine tc 12 fun K hK=> ?_;go_simp;(go_at_call 179;refine(wayTimes_z _ _ _ _ _ _ (by omega) (by omega) (by omega) (by with_reducible assumption) (by with_reducible assumption)).mono ?_;rintro e w3 ⟨rfl,hb3⟩;have hz3:=hb3.size;(try simp only[zz] at hz3);have:=kfa hb3 w.heap.size);(try go_wp2_with fail);refine tr hK (fun hHeld=> ?_);clear hK K)
    (refine tc 13 fun K hK=> ?_;go_simp;(go_at_call 148;refine(kMoveU (h.below (bel_a)) hAn hn oA.a4 oA.a5 _ _ (by omega) (by omega)).mono ?_;rintro e w4 ⟨rfl,hr4,hF4⟩;have hk4:=fun o=>hF4.cell (p:=⟨w.heap.size,o,none⟩) (by first|omega|(simp;done)|(simp;omega)) (hx _ (Nat.le_refl _));have hz4:=hF4.size;(try simp only[zz] at hz4));(try go_wp2_with fail);refine tr hK (fun hHeld=> ?_);clear hK K)
    refine wpAnyH_done (by kernel_rfl) ?_ _
    go_wp2_with fail
    go_meet
    exact⟨(by rw[←eU1];exact hr4),(Fr.of_below (bel_a)).trans hF4,(by go_simp),(by go_simp),(by go_simp),(by go_simp),(by go_simp),(by go_simp),(by go_simp),(by first|omega|(simp;done)|(simp;omega))⟩
   case rest=>
   obtain⟨hC,hF,k0,k1,k2,k3,k4,k5,k6,hl⟩:=hcut
   have hA1:HAt wc cb n A (fun j=>U1 (A*12+j)) (gOf S):=hC.hat hAn hn
   have hB1:HAt wc cb n B (fun j=>U1 (B*12+j)) (gOf S):=hC.hat hBn hn
   have hx1:∀ b,wc.heap.size≤b→¬ Xc S b:=fun b hb x=>by have:=(hC.xlt x).2;omega
   have l2:=hA1.cbl
   clear eU1
   go_upto_region 4 with fail
   refine wp_region_held_drew (S:=fun w'=>w'.cell? ⟨w.heap.size,0,none⟩=some (.int .i64 x)∧w'.cell? ⟨w.heap.size,1,none⟩=some (.int .i64 y)∧w'.cell? ⟨w.heap.size,2,none⟩=some (.int .i64 d)∧w'.cell? ⟨w.heap.size,3,none⟩=some (.int .i64 (A:Int))∧w'.cell? ⟨w.heap.size,4,none⟩=some (.pointer (some ⟨cb,0,none⟩))∧w'.cell? ⟨w.heap.size,5,none⟩=some (.int .i64 (B:Int))∧w'.cell? ⟨w.heap.size,6,none⟩=some (.pointer (some ⟨cb,0,none⟩))) (by kernel_rfl) ?_ (fun hHeld=> ?_)
   · (try dsimp only)
     (first|(go_simp;done)|(go_keep;done))
   refine tq 0 hHeld ?_
   refine tq 1 hHeld ?_
   refine tq 2 hHeld ?_
   refine tq 3 hHeld ?_
   refine tq 4 hHeld ?_
   refine tq 5 hHeld ?_
   refine tq 6 hHeld ?_
   refine tq 7 hHeld ?_
   refine tq 8 hHeld ?_
   refine tq 9 hHeld ?_
   (refine tc 10 fun K hK=> ?_;go_simp;(go_at_call 180;refine(kShare (hB1.below (bel_a)) (hA1.below (bel_a)) _ _ (by omega) (by omega) (by omega) (by with_reducible assumption)).mono ?_;rintro e w12 ⟨rfl,hb12⟩;have hz12:=hb12.size;(try simp only[zz] at hz12);have:=kfa hb12 w.heap.size);(try go_wp2_with fail);refine tr hK (fun hHeld=> ?_);clear hK K)
   (refine tc 11 fun K hK=> ?_;go_simp;(go_at_call 179;refine(wayTimes_z _ _ _ _ _ _ (by omega) (by omega) (by omega) (by with_reducible assumption) (by with_reducible assumption)).mono ?_;rintro e w13 ⟨rfl,hb13⟩;have hz13:=hb13.size;(try simp only[zz] at hz13);have:=kfa hb13 w.heap.size);(try go_wp2_with fail);refine tr hK (fun hHeld=> ?_);clear hK K)
   (refine tc 12 fun K hK=> ?_;go_simp;(go_at_call 148;refine(kMoveU (hC.below (bel_a)) hBn hn oB1.1 oB1.2 _ _ (by omega) (by omega)).mono ?_;rintro e w14 ⟨rfl,hr14,hF14⟩;have hk14:=fun o=>hF14.cell (p:=⟨w.heap.size,o,none⟩) (by first|omega|(simp;done)|(simp;omega)) (hx _ (Nat.le_refl _)));(try go_wp2_with fail);refine tr hK (fun hHeld=> ?_);clear hK K)
   refine wpAnyH_done (by kernel_rfl) ?_ _
   go_wp2_with fail
   go_end0
   exact⟨rfl,hr14,(hF.trans (Fr.of_below (bel_a))).trans hF14⟩
 · have hmn:m≤0:=by omega
   have e0:apartU U A B x y d=U:=by unfold apartU;rw[em,decide_eq_false hm];rfl
   rw[e0]
   go_enter Tryz.func165,Tryz.ntmps165
   go_wp2_with fail
   refine bodyPost_ret (results_none rfl _ _ _) rfl ?_
   exact⟨rfl,h.below (bel_a),Fr.of_below (bel_a)⟩
theorem lv_eq {V:Nat→Int} (h:BOk V):(!decide (V 8=0)&& !decide (V 11=8))=liveV V:=by
 have h1:=h.m8
 have h2:=h.q11
 unfold liveV
 rw[show decide (0<V 8)= !decide (V 8=0) by by_cases e:V 8=0<;>simp[e]<;>omega,show decide (8≤V 11)=decide (V 11=8) by by_cases e:V 11=8<;>simp[e]<;>omega]
theorem lv_row {f:Nat→(Nat→Int)→Nat→Int} {n k:Nat} {U:Nat→Int} (h:Bods n U) (hk:k<n):lvK (mapR f U k) k=liveV (fun j=>U (k*12+j)):=by
 unfold lvK
 rw[mapR_row,mapR_row]
 exact lv_eq (V:=fun j=>U (k*12+j)) (BOk.of (h.ok k hk))
theorem row_map (f:Nat→(Nat→Int)→Nat→Int) (U:Nat→Int) (k:Nat):(fun i=>colOf (mapR f U k) i k)=fun i=>U (k*12+i):=by
 funext i
 unfold colOf
 exact mapR_row f U k i
theorem pull_yes {V:Nat→Int} {g:Int} (h:liveV V=true):pullV g V=setV V 7 (clampZ 20000000 (V 7-g*V 8)):=by unfold pullV;rw[h];rfl
theorem pull_no {V:Nat→Int} {g:Int} (h:liveV V=false):pullV g V=V:=by unfold pullV;rw[h];rfl
theorem go_yes {V:Nat→Int} (h:liveV V=true):goV V=moveV V (spX V) (spY V):=by unfold goV;rw[h];rfl
theorem go_no {V:Nat→Int} (h:liveV V=false):goV V=V:=by unfold goV;rw[h];rfl
theorem quiet_yes {V:Nat→Int} {z:Int} (hb:BOk V) (h:liveV V=true):quietV z V=setV V 11 (bif decide (-8≤spX V∧spX V≤8)&&decide (-8≤spY V∧spY V≤8) then mn (z+1) 7 else 0):=by
 have h1:=hb.m8
 have h2:=hb.q11
 unfold liveV at h
 simp only[Bool.and_eq_true,decide_eq_true_eq,Bool.not_eq_true',decide_eq_false_iff_not] at h
 unfold quietV
 rw[decide_eq_false (by omega),decide_eq_false (by omega)]
 rfl
theorem inB_two (l x y:Int):inB l x y=(decide (-l≤x∧x≤l)&&decide (-l≤y∧y≤l)):=by unfold inB;rw[←Bool.decide_and];exact decide_eq_decide.2 ⟨fun h=>⟨⟨h.1,h.2.1⟩,h.2.2⟩,fun h=>⟨h.1.1,h.1.2,h.2⟩⟩
theorem quiet_no {V:Nat→Int} {z:Int} (hb:BOk V) (h:liveV V=false):quietV z V=V:=by
 have h1:=hb.m8
 have h2:=hb.q11
 unfold liveV at h
 unfold quietV
 by_cases e:V 8=0
 · rw[decide_eq_true e];rfl
 · have e2:8≤V 11:=by
    by_cases e3:8≤V 11
    · exact e3
    · rw[decide_eq_true (by omega),decide_eq_false e3] at h;cases h
   rw[decide_eq_true e2,Bool.or_true];rfl
end Go.Proofs.YtcalhcfinkhemaaGreatDoor
namespace Go.Proofs.YtcalhcfinkhemaaGreatDoor
open Go.RowKit
set_option linter.unusedVariables false
set_option linter.unusedSimpArgs false
theorem oneAwake_any {cb n base:Nat} {C:Nat→Nat→Int} {S:Nat→Value} {v:Value} {ms:List Nat} {sl:Nat→Bool} (w:World) (hC:Cs w cb n C S) (h:HL w base cb v ms) (hl:∀ j,j∈ms→j<n) (hn:n≤12) (hms:ms.length≤12) (hs:∀ j,j<n→decide (C 11 j=8)=sl j) (b:Bool) (hb:ms.any (fun j=> !sl j)=b):
 Calls Tryz.prog 30 #[v] w fun e w'=>e= .returned (.bool b)∧Below w.heap.size w w':=by
 have hset:=cset_map
 obtain⟨ad,cc,rfl⟩:=h.is
 go_enter Tryz.func30,Tryz.ntmps30
 go_upto_region 2 with fail
 go_loopw [7] (fun s wr=>∃ q:Nat,q≤ms.length∧s= .int .i64 (q:Int)∧(ms.take q).any (fun j=> !sl j)=false∧Below w.heap.size w wr) (fun s _=>ms.length-(intOf s).toNat)
 case atStart=>exact⟨0,Nat.zero_le _,rfl,rfl,Below.refl _ _⟩
 case round=>
  obtain⟨q,hq,rfl,hno,hB⟩:=hrel
  by_cases hlt:q<ms.length
  · obtain⟨g,c,he,-,-⟩:=h.some (by omega)
    cases he
    have hw:=h.below hB
    obtain⟨c0,c1⟩:=hw.cells hlt
    obtain⟨r,hr⟩:∃ r,ms[q]=r:=⟨_,rfl⟩
    rw[hr] at c0
    have hrn:r<n:=hl r (hr▸List.getElem_mem hlt)
    have hqi:(q:Int)<(ms.length:Int):=by omega
    have hCw:=hC.below hB
    have hE1:Below wr.heap.size wr (wr.alloc (Obj.cells #[.int .i64 (r:Int),.pointer (some ⟨cb,0,none⟩)] 59)):=(Below.refl _ _).alloc (Nat.le_refl _) _
    have hsr:=hs r hrn
    have htk:Shut ((ms.take (q+1)).any (fun j=> !sl j)= !sl r):=by
     unfold Shut
     rw[List.take_succ_eq_append_getElem hlt,List.any_append,hno,hr];simp
    cases hsl:sl r with
    | true=>
      rw[hsl] at hsr htk
      go_wp2_with (go_at_call 32;refine(kSleeps (Cs.hat (hCw.below hE1) hrn (by omega))).mono ?_;rw[hsr];rintro e w1 ⟨rfl,hb1⟩)
      go_roundw
      case rel=>exact⟨q+1,by omega,by go_num,htk.out,hB.trans ((hE1.trans (hb1.mono hE1.size)).mono hB.size)⟩
      case measure=>simp[intOf];omega
    | false=>
      rw[hsl] at hsr htk
      obtain rfl:true=b:=by
       rw[←hb,eq_comm,List.any_eq_true]
       exact⟨r,hr▸List.getElem_mem hlt,by rw[hsl];rfl⟩
      go_wp2_with (go_at_call 32;refine(kSleeps (Cs.hat (hCw.below hE1) hrn (by omega))).mono ?_;rw[hsr];rintro e w1 ⟨rfl,hb1⟩)
      go_ret
      exact⟨rfl,hB.trans ((hE1.trans (hb1.mono hE1.size)).mono hB.size)⟩
  · obtain rfl:q=ms.length:=by omega
    rw[List.take_length,hb] at hno
    subst hno
    go_wp2
    go_ret
    exact⟨rfl,hB⟩
theorem step_push1 {P:Program} {w:World} {ops:Array Oper} {o:Oper} {a:Act} {K:Act→World→Prop} {Q:Exit→Act→World→Prop} {E:Prop} (hgd:o.guard=none) (s x:Operand) (t:TypeId)
 (ho:o.op= .call {callee:= .builtin .append,args:= #[s,x],argTypes:= #[t,t]}) (e bytes:Nat) (z:Value) (ht:P.underlying t=some (.slice e)) (hinfo:(P.info? e).map (fun i=>(i.zero,i.size,i.bytes))=some (some z,1,bytes)) (hzs:z.cells.size=1) (hby:bytes≤8)
 (base:Nat) (v:Value) (m:Nat) (xs:List Value) (hs:a.eval s=v) (h:w.ownsRow base e 1 v m xs) (b:Nat) (hx:a.eval x= .slice (some ⟨b,0,none⟩) 1 1) (u:Value) (hu:w.cell? ⟨b,0,none⟩=some u) (h1:u.oneCell'=true) (hn:m≤1048576) (hbase:base≤w.heap.size)
 (hK:∀ g' c' w',w'.ownsRow base e 1 (.slice (some ⟨g',0,none⟩) (m+1) c') (m+1) (xs++[u])→w.grownBy w' v.ownBlock→K (a.put o.dst (.slice (some ⟨g',0,none⟩) (m+1) c')) w'):
 if Region.wanted o (yielded ops a.tmps)=true then Oper.wp P o a w K Q else E:=by
 obtain⟨i,hi,hzz⟩:=Option.map_eq_some_iff.1 hinfo
 simp only[Prod.mk.injEq] at hzz
 obtain⟨hz,hsz,hb8⟩:=hzz
 refine step_append_lies w hgd s x t ho base e i z 1 bytes ht hi hz hsz hb8 hzs (by decide) v m xs hs h ⟨b,0,none⟩ 1 1 [u] hx rfl ?_ ?_ (by decide) (by unfold maxLen;omega) ?_ hbase _ rfl ?_
 · intro j v hv
   cases j with
   |zero=>simp at hv;subst hv;exact hu
   |succ j=>simp at hv
 · intro v hv;simp at hv;rw[hv];exact h1
 · have:(m+1)*bytes≤(m+1)*8:=Nat.mul_le_mul_left _ hby
   omega
 · intro g' cap' w' r1 r2 _ _
   exact hK g' cap' w' r1 r2
structure Vr (w A:World) (H lb t:Nat) (v:Value) (m:Nat) (xs:List Value):Prop where
 bel:Below w.heap.size w A
 box:A.cell? ⟨lb,0,none⟩=some v
 nf:A.frozen? ⟨lb,0,none⟩=false
 own:A.ownsRow H t 1 v m xs
 lo:w.heap.size≤lb
 hi:lb<H
section
variable {w A A':World} {H lb t m:Nat} {v:Value} {xs:List Value}
theorem Vr.lt (h:Vr w A H lb t v m xs):lb<A.heap.size:=cell_lt (a:=⟨lb,0,none⟩) h.box
theorem Vr.isCells (h:Vr w A H lb t v m xs):∀ b o,v.ownBlock=some b→A.heap[b]? =some o→o.isCells=true:=by
 intro b o hb ho
 rcases h.own.2 with⟨hv,_⟩|⟨g,cap,cur,hv,_,hg,_⟩
 · subst hv;cases hb
 · subst hv
   simp only[Value.ownBlock,Option.some.injEq] at hb
   subst hb
   rw[hg] at ho;cases ho;rfl
theorem Vr.kx {B:Nat} (h:Vr w A H lb t v m xs) (k:Kx B H A A') (hB:w.heap.size≤B) (hl:lb<B):Vr w A' H lb t v m xs:=by
 refine⟨h.bel.trans (k.below.mono hB),(k.below.cell (p:=⟨lb,0,none⟩) hl).trans h.box,(k.below.frozen (p:=⟨lb,0,none⟩) hl).trans h.nf,⟨h.own.1,?_⟩,h.lo,h.hi⟩
 rcases h.own.2 with q|⟨g,cap,cur,hv,hb,hg,rest⟩
 · exact .inl q
 · exact .inr ⟨g,cap,cur,hv,hb,k.cells _ _ hg rfl hb,rest⟩
theorem Vr.sm {B:Nat} (h:Vr w A H lb t v m xs) (k:Sm B A A') (hB:w.heap.size≤B):Vr w A' H lb t v m xs:=by
 refine⟨h.bel.trans (k.below.mono hB),k.cell h.box,k.frozen h.box h.nf,⟨h.own.1,?_⟩,h.lo,h.hi⟩
 rcases h.own.2 with q|⟨g,cap,cur,hv,hb,hg,rest⟩
 · exact .inl q
 · exact .inr ⟨g,cap,cur,hv,hb,k.cells _ _ hg rfl,rest⟩
theorem Vr.on (h:Vr w A H lb t v m xs) (k:Below A.heap.size A A'):Vr w A' H lb t v m xs:=by
 refine⟨h.bel.trans (k.mono h.bel.size),(k.cell (p:=⟨lb,0,none⟩) h.lt).trans h.box,(k.frozen (p:=⟨lb,0,none⟩) h.lt).trans h.nf,⟨h.own.1,?_⟩,h.lo,h.hi⟩
 rcases h.own.2 with q|⟨g,cap,cur,hv,hb,hg,rest⟩
 · exact .inl q
 · exact .inr ⟨g,cap,cur,hv,hb,(k.block _ (Array.getElem?_eq_some_iff.1 hg).1).trans hg,rest⟩
theorem Vr.push (h:Vr w A H lb t v m xs) {Y w7:World} (hE:Below A.heap.size A Y) (hg:Y.grownBy w7 v.ownBlock) {v':Value} {m':Nat} {xs':List Value} (ho:w7.ownsRow H t 1 v' m' xs'):
 (w7.cell? ⟨lb,0,none⟩=some v∧w7.frozen? ⟨lb,0,none⟩=false)∧Vr w (w7.setCell ⟨lb,0,none⟩ v') H lb t v' m' xs'∧Fr (fun b=>b=lb∨H≤b) A (w7.setCell ⟨lb,0,none⟩ v'):=by
 have h7:=h.on hE
 have hlo:∀ b,v.ownBlock=some b→H≤b:=fun b e=>(World.ownsRow.lt h7.own b e).1
 have hF7:Fr (fun b=>v.ownBlock=some b) Y w7:=Fr.grown hg (fun b e=>e) h7.isCells
 have hi:=h.hi
 have nlb:¬ (v.ownBlock=some lb):=fun e=>by have:=hlo _ e;omega
 have c:=(hF7.cell (p:=⟨lb,0,none⟩) h7.lt nlb).trans h7.box
 have f:=(hF7.frozen (p:=⟨lb,0,none⟩) h7.lt nlb).trans h7.nf
 have hF:Fr (fun b=>b=lb∨H≤b) A (w7.setCell ⟨lb,0,none⟩ v'):=((Fr.of_below hE).trans (hF7.mono (fun _ _ e=> .inr (hlo _ e)))).trans (Fr.setCell (p:=⟨lb,0,none⟩) (.inl rfl) _)
 have hlo':=h.lo
 refine⟨⟨c,f⟩,⟨h.bel.trans (hF.below h.bel.size (fun b e=>e.elim (fun e=>by omega) (fun e=>by omega))),?_,?_,⟨ho.1,?_⟩,h.lo,h.hi⟩,hF⟩
 · rw[cset_map,c];rfl
 · rw[World.frozen?_setCell];exact f
 · rcases ho.2 with q|⟨g,cap,cur,hv,hb,hg,rest⟩
   · exact .inl q
   · exact .inr ⟨g,cap,cur,hv,hb,(Below.heap_setCell w7 ⟨lb,0,none⟩ v' g (by show ¬ g=lb;omega)).trans hg,rest⟩
end
section
attribute [local go_sem] Oper.semAt_some
theorem groupAwake_any (a:Option Addr) (n c:Nat) (U:Nat→Int) (M:Nat) (w:World) (h:Flat w a (n*12) U) (hok:bodsB n U=true) (hn:n≤12) (hM:(conL (colOf U) n).length=M*5) (hMk:M≤1000) (hq:∀ j,j<n→decide (colOf U 11 j=8)=slG U j):
 Calls Tryz.prog 13 #[.slice a n c] w fun e w'=>∃ v:Value,∃ m bl,e= .returned v∧m=cntp (fstB (fxU U) (lab (edg U (ofL (conL (colOf U) n))) M)) n∧w'.ownsRow w.heap.size 4 1 v m (BV bl)∧bl.length=m∧(∀ t,t<m→bl.getD t false=awk (fxU U) (lab (edg U (ofL (conL (colOf U) n))) M) (slG U) n t)∧Below w.heap.size w w':=by
 have hset:=cset_map
 obtain⟨L,hL⟩:∃ L,lab (edg U (ofL (conL (colOf U) n))) M=L:=⟨_,rfl⟩
 have hT:Shut (Tops (fxU U) L):=hL▸lab_tops U _ M
 have hGr:∀ cb S w1,Cs w1 cb n (colOf U) S→ItG Tryz.prog 29 #[.pointer (some ⟨cb,0,none⟩)] (ColF cb n (fxU U)) (GrE cb n (fxU U) L) (cntp (fstB (fxU U) L) n) w1:=fun cb S w1 hC=>groups_any cb n U S M w1 hC hn hM hMk L (fun j=>by rw[←hL]) (fxU U)
 rw[hL]
 clear hL hM hMk
 obtain⟨sl,hsl0⟩:∃ s,slG U=s:=⟨_,rfl⟩
 rw[hsl0] at hq ⊢
 have hsl:=hq
 clear hq hsl0
 have hn20:n≤1048576:=by omega
 refine calls_of_wp_marks Tryz.func13 rfl ?_
 simp only[Tryz.ntmps13,List.size_toArray,List.length_cons,List.length_nil,Nat.reduceAdd,Nat.reduceSub,Array.replicate_succ,Array.replicate_zero,List.push_toArray,List.append_toArray,List.nil_append,List.cons_append]
 go_wp2_with (go_at_call 27;refine(columnsOf_ok a n c U _ h hn20 hok).mono ?_;rintro e w1 ⟨cb,S,rfl,hcb,hC,hb1⟩)
 have hE1:Below w1.heap.size w1 (w1.alloc (Obj.cells #[.slice none 0 0] 37)):=(Below.refl _ _).alloc (Nat.le_refl _) _
 have x1:(w1.alloc (Obj.cells #[.slice none 0 0] 37)).cell? ⟨w1.heap.size,0,none⟩=some (.slice none 0 0):=by go_simp
 have f1:(w1.alloc (Obj.cells #[.slice none 0 0] 37)).frozen? ⟨w1.heap.size,0,none⟩=false:=by go_simp
 have hz1:(w1.alloc (Obj.cells #[.slice none 0 0] 37)).heap.size=w1.heap.size+1:=by simp
 generalize (w1.alloc (Obj.cells #[.slice none 0 0] 37))=w2 at hE1 x1 f1 hz1 ⊢
 have hb1z:=hb1.size
 have hG2:=hGr cb S w2 (hC.below hE1)
 have hB2:Below w1.heap.size w1 w2:=hE1
 clear hGr
 refine wp_range_outG (gf:=29) (bound:= #[.pointer (some ⟨cb,0,none⟩)]) rfl groups_enters hG2 (fun H k args A hE=>by obtain⟨i,v,_,_,_,rfl,_⟩:=hE;rfl)
  (fun H k A=>w2.heap.size≤H∧∃ v bl,Vr w1 A H w1.heap.size 4 v k (BV bl)∧bl.length=k∧∀ t,t<k→bl.getD t false=awk (fxU U) L sl n t) ?hI ?hIs ?hcol ?h0 ?round ?done
 case hI=>rintro H k A B' ⟨h0,v,bl,h1,h2⟩ hk;exact⟨h0,v,bl,h1.kx hk (by omega) (by omega),h2⟩
 case hIs=>rintro H k A B' ⟨h0,v,bl,h1,h2⟩ hs;exact⟨h0,v,bl,h1.sm hs (by omega),h2⟩
 case hcol=>rintro H k A ⟨_,v,bl,h1,h2⟩;exact⟨_,_,hC.below h1.bel,fun j _=>rfl⟩
 case h0=>
  intro W0 hb hz
  exact⟨by omega,.slice none 0 0,[],⟨hE1.trans (hb.mono (by omega)),(hb.cell (p:=⟨w1.heap.size,0,none⟩) (by show w1.heap.size<w2.heap.size;omega)).trans x1,(hb.frozen (p:=⟨w1.heap.size,0,none⟩) (by show w1.heap.size<w2.heap.size;omega)).trans f1,World.ownsRow_nil _ _ _ _,Nat.le_refl _,by omega⟩,rfl,fun t ht=>absurd ht (Nat.not_lt_zero _)⟩
 case done=>
  rintro D H W hD ⟨h0,v,bl,h1,h2,h3⟩ hK
  have hbx:=h1.box
  go_wp2
  refine marks_ret (B:=w1.heap.size) (by omega) rfl hK fun W' hS=>⟨v,?_,v,_,bl,rfl,rfl,?_,h2,h3,hb1.trans ((h1.sm hS (Nat.le_refl _)).bel.mono hb1.size)⟩
  · simp[results,Tryz.results13,go_sem, *]
  · have ho:=(h1.sm hS (Nat.le_refl _)).own
    refine⟨ho.1,?_⟩
    rcases ho.2 with q|⟨g,cap,cur,hv,hb,rest⟩
    · exact .inl q
    · exact .inr ⟨g,cap,cur,hv,by omega,rest⟩
 case round=>
  rintro lr H m W args hlr1 hlr2 hWz ⟨hHz,v,bl,hV1,hlen,hbl⟩ hkk ⟨i,vv,hi,hfi,hck,rfl,hHL⟩
  have hmn:m<12:=by have:=cntp_le (fstB (fxU U) L) n;omega
  clear hG2 x1 f1 hkk
  have hLi:L i=i:=by unfold fstB at hfi;exact of_decide_eq_true (by simp at hfi;exact decide_eq_true hfi.2)
  have hmm:=memL_mem L i n
  have hml:=memL_le L i n
  have hm0:0<(memL L i n).length:=List.length_pos_of_mem ((hmm i).2 ⟨hi,hLi⟩)
  obtain⟨bk,hbk⟩:∃ b,(memL L i n).any (fun j=> !sl j)=b:=⟨_,rfl⟩
  have hbk':awk (fxU U) L sl n m=bk:=(memL_awk hT.out sl n hfi hck).symm.trans hbk
  generalize memL L i n=ms at hmm hml hm0 hbk hHL ⊢
  obtain⟨mg,mc,rfl,hmg,hmg2⟩:=hHL.some hm0
  simp only[List.zip_toArray,List.zip_cons_cons,List.zip_nil_left,List.foldl_toArray,List.foldl_cons,List.foldl_nil,List.setIfInBounds_toArray,List.set_cons_succ,List.set_cons_zero]
  refine wpIn_region_plain (by rintro⟨_,_,h⟩;exact h) (by kernel_rfl) ?_
  go_wp2
  refine⟨KeepsFrom.refl _ _,fun W2 hS hKc hr=> ?_⟩
  have hV2:=hV1.sm hS (by omega)
  have hHL2:=hHL.sm hS
  have hKc2:Kc (w2.heap.size+2) H W W2:=hKc _ _ hlr2
  have hz2:=hS.size
  clear hV1 hHL hKc hS hr
  have x0:=hV2.box
  have hbl':∀ t,t<m+1→(bl++[bk]).getD t false=awk (fxU U) L sl n t:=fun t ht=>by
   rw[getD_app]
   by_cases e:t=bl.length
   · rw[if_pos e,←hbk',show t=m by omega]
   · rw[if_neg e];exact hbl t (by omega)
  refine wpIn_block ?_
  refine wpIn_region_held_drew (S:=fun w'=>True) (by kernel_rfl) (by rintro⟨_,_,h⟩;exact h) (by kernel_rfl) ?_ (fun hHeld=> ?_)
  · trivial
  refine tq 1 hHeld ?_
  refine wpAnyH_ready (rs:=[0,2]) (by kernel_rfl) (by simp) ?_
  refine AllReadyH.cons rfl (fun K hK=> ?_) (AllReadyH.cons rfl (fun K hK=> ?_) AllReadyH.nil)
  · (go_simp
     refine tr hK (fun hHeld=> ?_) trivial
     clear hK K)
    refine tc 2 fun K hK=> ?_
    (go_simp
     (go_at_call 30;refine(oneAwake_any _ (hC.below (hV2.bel.drew)) (hHL2.below (Below.drew (Below.refl _ _))) (fun j hj=>((hmm j).1 hj).1) hn (by omega) hsl bk hbk).mono ?_;rintro e w31 ⟨rfl,hx⟩)
     have hx1:Below W2.heap.size W2 w31:=(Below.drew (Below.refl _ _)).trans hx
     have hV3:=hV2.on hx1
     clear x0 hx
     have x0:=hV3.box
     (try go_wp2_with fail)
     refine tr hK (fun hHeld=> ?_) trivial
     clear hK K)
    refine tc 3 fun K hK=> ?_
    (go_simp
     have hE3:Below w31.heap.size w31 (w31.alloc (Obj.cells #[.bool bk] 4)):=(Below.refl _ _).alloc (Nat.le_refl _) _
     have q0:(w31.alloc (Obj.cells #[.bool bk] 4)).cell? ⟨w31.heap.size,0,none⟩=some (.bool bk):=by go_simp
     generalize w31.alloc (Obj.cells #[.bool bk] 4)=w32 at hE3 q0 ⊢
     have hV4:=hV3.on hE3
     clear x0
     have x0:=hV4.box
     refine tr hK (fun hHeld=> ?_) trivial
     clear hK K)
    refine tc 4 fun K hK=> ?_
    (refine step_push1 (by rfl) _ _ _ (by rfl) 4 1 zcBool Tryz.underlying37 infoBool rfl (by decide) H v m (BV bl) (by rfl) hV4.own w31.heap.size (by rfl) (.bool bk) q0 rfl (by omega) (by have:=hE3.size;have:=hx1.size;omega) ?_
     intro g7 c7 w33 ho7 hg7
     obtain⟨⟨n0,nf⟩,hV5,hF5⟩:=hV3.push hE3 hg7 ho7
     refine tr hK (fun hHeld=> ?_) trivial
     clear hK K)
    refine tc 5 fun K hK=> ?_
    (go_simp
     refine tr hK (fun hHeld=> ?_) trivial
     clear hK K)
    refine wpAnyH_done (by kernel_rfl) ?_ _
    go_wp2_with fail
    exact⟨(KeepsFrom.of_below hx1).trans (hF5.keeps _),⟨hHz,_,bl++[bk],by rw[BV_app] at hV5;exact hV5,by simp[hlen],hbl'⟩,(hKc2.trans (Kc.of_below hx1)).trans (Kc.fr hF5 (fun b e=>e.elim (fun e=> .inl (by omega)) (fun e=> .inr e)))⟩
  · (go_simp
     (go_at_call 30;refine(oneAwake_any _ (hC.below (hV2.bel.drew)) (hHL2.below (Below.drew (Below.refl _ _))) (fun j hj=>((hmm j).1 hj).1) hn (by omega) hsl bk hbk).mono ?_;rintro e w31 ⟨rfl,hx⟩)
     have hx1:Below W2.heap.size W2 w31:=(Below.drew (Below.refl _ _)).trans hx
     have hV3:=hV2.on hx1
     clear x0 hx
     have x0:=hV3.box
     (try go_wp2_with fail)
     refine tr hK (fun hHeld=> ?_) trivial
     clear hK K)
    refine wpAnyH_ready (rs:=[0,3]) (by kernel_rfl) (by simp) ?_
    refine AllReadyH.cons rfl (fun K hK=> ?_) (AllReadyH.cons rfl (fun K hK=> ?_) AllReadyH.nil)
    · (go_simp
       refine tr hK (fun hHeld=> ?_) trivial
       clear hK K)
      refine tc 3 fun K hK=> ?_
      (go_simp
       have hE3:Below w31.heap.size w31 (w31.alloc (Obj.cells #[.bool bk] 4)):=(Below.refl _ _).alloc (Nat.le_refl _) _
       have q0:(w31.alloc (Obj.cells #[.bool bk] 4)).cell? ⟨w31.heap.size,0,none⟩=some (.bool bk):=by go_simp
       generalize w31.alloc (Obj.cells #[.bool bk] 4)=w32 at hE3 q0 ⊢
       have hV4:=hV3.on hE3
       clear x0
       have x0:=hV4.box
       refine tr hK (fun hHeld=> ?_) trivial
       clear hK K)
      refine tc 4 fun K hK=> ?_
      (refine step_push1 (by rfl) _ _ _ (by rfl) 4 1 zcBool Tryz.underlying37 infoBool rfl (by decide) H v m (BV bl) (by rfl) hV4.own w31.heap.size (by rfl) (.bool bk) q0 rfl (by omega) (by have:=hE3.size;have:=hx1.size;omega) ?_
       intro g7 c7 w33 ho7 hg7
       obtain⟨⟨n0,nf⟩,hV5,hF5⟩:=hV3.push hE3 hg7 ho7
       refine tr hK (fun hHeld=> ?_) trivial
       clear hK K)
      refine tc 5 fun K hK=> ?_
      (go_simp
       refine tr hK (fun hHeld=> ?_) trivial
       clear hK K)
      refine wpAnyH_done (by kernel_rfl) ?_ _
      go_wp2_with fail
      exact⟨(KeepsFrom.of_below hx1).trans (hF5.keeps _),⟨hHz,_,bl++[bk],by rw[BV_app] at hV5;exact hV5,by simp[hlen],hbl'⟩,(hKc2.trans (Kc.of_below hx1)).trans (Kc.fr hF5 (fun b e=>e.elim (fun e=> .inl (by omega)) (fun e=> .inr e)))⟩
    · (go_simp
       have hE3:Below w31.heap.size w31 (w31.alloc (Obj.cells #[.bool bk] 4)):=(Below.refl _ _).alloc (Nat.le_refl _) _
       have q0:(w31.alloc (Obj.cells #[.bool bk] 4)).cell? ⟨w31.heap.size,0,none⟩=some (.bool bk):=by go_simp
       generalize w31.alloc (Obj.cells #[.bool bk] 4)=w32 at hE3 q0 ⊢
       have hV4:=hV3.on hE3
       clear x0
       have x0:=hV4.box
       refine tr hK (fun hHeld=> ?_) trivial
       clear hK K)
      refine tc 0 fun K hK=> ?_
      (go_simp
       refine tr hK (fun hHeld=> ?_) trivial
       clear hK K)
      refine tc 4 fun K hK=> ?_
      (refine step_push1 (by rfl) _ _ _ (by rfl) 4 1 zcBool Tryz.underlying37 infoBool rfl (by decide) H v m (BV bl) (by rfl) hV4.own w31.heap.size (by rfl) (.bool bk) q0 rfl (by omega) (by have:=hE3.size;have:=hx1.size;omega) ?_
       intro g7 c7 w33 ho7 hg7
       obtain⟨⟨n0,nf⟩,hV5,hF5⟩:=hV3.push hE3 hg7 ho7
       refine tr hK (fun hHeld=> ?_) trivial
       clear hK K)
      refine tc 5 fun K hK=> ?_
      (go_simp
       refine tr hK (fun hHeld=> ?_) trivial
       clear hK K)
      refine wpAnyH_done (by kernel_rfl) ?_ _
      go_wp2_with fail
      exact⟨(KeepsFrom.of_below hx1).trans (hF5.keeps _),⟨hHz,_,bl++[bk],by rw[BV_app] at hV5;exact hV5,by simp[hlen],hbl'⟩,(hKc2.trans (Kc.of_below hx1)).trans (Kc.fr hF5 (fun b e=>e.elim (fun e=> .inl (by omega)) (fun e=> .inr e)))⟩
end
end Go.Proofs.YtcalhcfinkhemaaGreatDoor
namespace Go.Proofs.YtcalhcfinkhemaaGreatDoor
open Go.RowKit
set_option linter.unusedVariables false
set_option linter.unusedSimpArgs false
theorem IV_num {l:List Int} {n:Nat} (h:l.length=n):IV l=numL (n*1) (ofL l):=by
 apply List.ext_getElem?
 intro j
 by_cases e:j<n
 · rw[IV_get (by omega),numL_get (by omega)]
 · rw[List.getElem?_eq_none (by rw[IV_len];omega),List.getElem?_eq_none (by rw[numL_len];omega)]
theorem LV.out {w wr:World} {t g cap n:Nat} {l:List Int} (h:LV w wr t g cap n (IV l)):OutL w wr t 1 (some ⟨g,0,none⟩) n cap (ofL l):=by
 refine⟨h.bel,?_⟩
 have hl:=h.len
 rw[IV_len] at hl
 have ho:=h.own
 rw[IV_num hl] at ho
 exact ho
theorem OutL.upG {w w0 wr:World} {t k:Nat} {a:Option Addr} {n c:Nat} {R:Nat→Int} (h:OutL w wr t k a n c R) (hb:Below w0.heap.size w0 w):OutL w0 wr t k a n c R:=⟨hb.trans (h.bel.mono hb.size),h.own.base hb.size⟩
def conN (n:Nat) (U:Nat→Int):Nat:=(conL (colOf U) n).length/5
theorem conN_eq {n:Nat} (U:Nat→Int) (hn:n≤12):(conL (colOf U) n).length=conN n U*5∧conN n U≤144:=by
 obtain⟨m,h1,h2⟩:=conOut_len (colOf U) n n
 have e:(conL (colOf U) n).length=m*5:=h1
 have:=Nat.mul_le_mul hn hn
 unfold conN
 rw[e]
 omega
def grpU (n:Nat) (U:Nat→Int):List Int:=grpL U (ofL (conL (colOf U) n)) (conN n U) n
def grpO (n:Nat) (U:Nat→Int):List Int:=bif bodsB n U then grpU n U else []
theorem bods_n {n:Nat} {U:Nat→Int} (h:bodsB n U=true):n≤12:=by unfold bodsB at h;rw[Bool.and_eq_true,decide_eq_true_eq] at h;exact h.1
theorem grpU_eq {n:Nat} {U:Nat→Int} (h12:n≤12):∀ j,j<n→ofL (grpU n U) j=gnum (fxU U) (lab (edg U (ofL (conL (colOf U) n))) (conN n U)) j:=grpL_eq (con_ct (colOf U) (conN_eq U h12).1)
theorem grpO_y {n:Nat} {U:Nat→Int} (h:bodsB n U=true):grpO n U=grpU n U:=by unfold grpO;rw[h];rfl
theorem grpO_n {n:Nat} {U:Nat→Int} (h:bodsB n U=false):grpO n U=[]:=by unfold grpO;rw[h];rfl
theorem groupsI_q (a:Option Addr) (n c:Nat) (U:Nat→Int) (N:Nat) (w:World) (h:Flat w a (n*12) U) (hn:n≤1048576) (hN:(grpO n U).length=N):
 Calls Tryz.prog 12 #[.slice a n c] w fun e w'=>∃ a' c',e= .returned (.slice a' N c')∧OutL w w' 3 1 a' N c' (ofL (grpO n U)):=by
 have hset:=cset_map
 cases hok:bodsB n U with
 | true=>
   have h12:=bods_n hok
   obtain⟨hM,hMk⟩:=conN_eq U h12
   rw[grpO_y hok] at hN ⊢
   rw[grpU,grpL_len] at hN
   subst hN
   go_enter Tryz.func12,Tryz.ntmps12
   go_wp2_with (first
    |(go_at_call 27;refine(columnsOf_ok a n c U _ h hn hok).mono ?_;rintro e w1 ⟨cb,S,rfl,hcb,hC,hb1⟩)
    |(go_at_call 28;refine(numbered_any cb n U S _ _ hC h12 hM (by omega)).mono ?_;rintro e w2 ⟨g2,rfl,hO2⟩))
   go_ret
   exact⟨_,_,rfl,hO2.out.upG hb1⟩
 | false=>
   rw[grpO_n hok] at hN ⊢
   obtain rfl:0=N:=hN
   go_enter Tryz.func12,Tryz.ntmps12
   go_wp2_with (go_at_call 27;refine(columnsOf_no a n c U _ h hn hok).mono ?_;rintro e w1 ⟨rfl,hb1⟩)
   go_ret
   exact⟨none,0,rfl,hb1,OwnL.nil _ _ _ _ _⟩
theorem groupsI_r {n:Nat} {U R:Nat→Int} (hR:R=ofL (grpO n U)) (a:Option Addr) (c N:Nat) (w:World) (h:Flat w a (n*12) U) (hn:n≤1048576) (hN:(grpO n U).length=N):
 Calls Tryz.prog 12 #[.slice a n c] w fun e w'=>∃ a' c',e= .returned (.slice a' N c')∧OutL w w' 3 1 a' N c' R:=by subst hR;exact groupsI_q a n c U N w h hn hN
end Go.Proofs.YtcalhcfinkhemaaGreatDoor
