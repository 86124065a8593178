/- Texts of a proof. -/
import Derived.Test.YtpmjnpmnocjjgaaGreatDoorB6
import Derived.Test.YtpmjnpmnocjjgaaGreatDoorB5
import Derived.Test.YtpmjnpmnocjjgaaGreatDoorB37
import Derived.Test.YtpmjnpmnocjjgaaGreatDoorB21
import Derived.Deep.RegionHeld3
import Derived.Deep.DeepCutAuto
import Derived.Test.YtpmjnpmnocjjgaaGreatDoorB29
import Derived.Test.YtpmjnpmnocjjgaaGreatDoorB18
import Derived.Test.YtpmjnpmnocjjgaaGreatDoorB28
import Derived.Test.YtpmjnpmnocjjgaaGreatDoorB19
import Derived.Test.YtpmjnpmnocjjgaaGreatDoorS9q
import Derived.Test.YtpmjnpmnocjjgaaGreatDoorB30
import Derived.Test.YtpmjnpmnocjjgaaGreatDoorB17
import Derived.Sort.CutIn
import Derived.Test.YtpmjnpmnocjjgaaGreatDoorB40
import Derived.LoopNIn
import Derived.LoopIn
import Derived.OwnWalkIn
import Derived.Laws.MakeOwn
import Derived.Test.YtpmjnpmnocjjgaaGreatDoorB22
set_option maxHeartbeats 16000000
set_option maxRecDepth 20000
namespace Go.Proofs.YtpmjnpmnocjjgaaGreatDoor
open Go.RowKit
set_option linter.unusedVariables false
set_option linter.unusedSimpArgs false
theorem kShare {cb n k l:Nat} {V1 V2:Nat→Int} {G:Nat→Nat} {w:World} (h1:HAt w cb n k V1 G) (h2:HAt w cb n l V2 G) (m x:Int) (a0:0≤V1 8∧V1 8≤1000) (a1:0≤V2 8∧V2 8≤1000) (hm: -30000≤m∧m≤30000) (ex:shareV V1 V2 m=x):
 Calls Tryz.prog 172 #[hdk cb k,.int .i64 m,hdk cb l] w fun e w'=>e= .returned (.int .i64 x)∧Below w.heap.size w w':=by
 have hset:=cset_map
 have l1:=h1.cbl
 subst ex
 unfold shareV
 have p2:=mul_bd (a:=m) (b:=V2 8) (A:=30000) (B:=1000) (by omega) (by omega)
 have p5:=tdiv_bd (x:=m*V2 8) (B:=30000000) (V1 8+V2 8) (by omega)
 by_cases z1:V1 8=0
 · have d1:decide (V1 8=0)=true:=decide_eq_true z1
   rw[d1,cond_true]
   go_enter Tryz.func172,Tryz.ntmps172
   go_wp2_with (go_at_call 44;refine(kFixed (h1.below (bel_a))).mono ?_;rintro e w1 ⟨rfl,hb1⟩;have hz1:=hb1.size;(try simp only[zz] at hz1);have:=kf2 hb1 w.heap.size)
   exact bodyPost_ret (v:= .int .i64 0) (by simp[results,Tryz.results172,go_sem, *]) rfl ⟨rfl,bel_a⟩
 · have d1:decide (V1 8=0)=false:=decide_eq_false z1
   rw[d1,cond_false]
   by_cases z2:V2 8=0
   · have d2:decide (V2 8=0)=true:=decide_eq_true z2
     rw[d2,cond_true]
     go_enter Tryz.func172,Tryz.ntmps172
     go_wp2_with (first
   |(have _:=hb1;go_at_call 44;refine(kFixed (h2.below (bel_a))).mono ?_;rintro e w2 ⟨rfl,hb2⟩;have hz2:=hb2.size;(try simp only[zz] at hz2);have:=kf2 hb2 w.heap.size)
   | (go_at_call 44;refine(kFixed (h1.below (bel_a))).mono ?_;rintro e w1 ⟨rfl,hb1⟩;have hz1:=hb1.size;(try simp only[zz] at hz1);have:=kf2 hb1 w.heap.size))
     exact bodyPost_ret (v:= .int .i64 m) (by simp[results,Tryz.results172,go_sem, *]) rfl ⟨rfl,bel_a⟩
   · have d2:decide (V2 8=0)=false:=decide_eq_false z2
     rw[d2,cond_false]
     have z3:(V1 8+V2 8=0)=False:=eq_false (by omega)
     have z4:¬ V1 8+V2 8=0:=by omega
     have w1_:IntKind.i64.wrap (m*V2 8)=m*V2 8:=i64w (by omega)
     have w2_:IntKind.i64.wrap (V1 8+V2 8)=V1 8+V2 8:=i64w (by omega)
     have w3_:IntKind.i64.wrap ((m*V2 8).tdiv (V1 8+V2 8))=(m*V2 8).tdiv (V1 8+V2 8):=i64w (by omega)
     go_enter Tryz.func172,Tryz.ntmps172
     go_upto_region 5 with(first
   |(have _:=hb1;go_at_call 44;refine(kFixed (h2.below (bel_a))).mono ?_;rintro e w2 ⟨rfl,hb2⟩;have hz2:=hb2.size;(try simp only[zz] at hz2);have:=kf2 hb2 w.heap.size)
   | (go_at_call 44;refine(kFixed (h1.below (bel_a))).mono ?_;rintro e w1 ⟨rfl,hb1⟩;have hz1:=hb1.size;(try simp only[zz] at hz1);have:=kf2 hb1 w.heap.size))
     refine wp_region_held_drew (S:=fun w'=>w'.cell? ⟨w.heap.size,0,none⟩=some (.int .i64 (k:Int))∧w'.cell? ⟨w.heap.size,1,none⟩=some (.pointer (some ⟨cb,0,none⟩))∧w'.cell? ⟨w.heap.size+1,0,none⟩=some (.int .i64 (l:Int))∧w'.cell? ⟨w.heap.size+1,1,none⟩=some (.pointer (some ⟨cb,0,none⟩))) (by kernel_rfl) ?_ (fun hHeld=> ?_)
     · (try dsimp only)
       (first|(go_simp;done)|(go_keep;done))
     refine tq 0 hHeld ?_
     refine tq 1 hHeld ?_
     refine tq 4 hHeld ?_
     refine tq 6 hHeld ?_
     (refine tc 2 fun K hK=> ?_;go_simp;(go_at_call 77;refine(kMass (h2.below (bel_a))).mono ?_;rintro e w3 ⟨rfl,hb3⟩;have hz3:=hb3.size;(try simp only[zz] at hz3);have:=kf2 hb3 w.heap.size);(try go_wp2_with fail);refine tr hK (fun hHeld=> ?_);clear hK K)
     refine tq 3 hHeld ?_
     (refine tc 5 fun K hK=> ?_;go_simp;(go_at_call 77;refine(kMass (h1.below (bel_a))).mono ?_;rintro e w4 ⟨rfl,hb4⟩;have hz4:=hb4.size;(try simp only[zz] at hz4);have:=kf2 hb4 w.heap.size);(try go_wp2_with fail);refine tr hK (fun hHeld=> ?_);clear hK K)
     (refine tc 7 fun K hK=> ?_;go_simp;(go_at_call 77;refine(kMass (h2.below (bel_a))).mono ?_;rintro e w5 ⟨rfl,hb5⟩;have hz5:=hb5.size;(try simp only[zz] at hz5);have:=kf2 hb5 w.heap.size);(try go_wp2_with fail);refine tr hK (fun hHeld=> ?_);clear hK K)
     refine tq 8 hHeld ?_
     refine tq 9 hHeld ?_
     refine tq 10 hHeld ?_
     refine wpAnyH_done (by kernel_rfl) ?_ _
     go_wp2_with fail
     exact bodyPost_ret (v:= .int .i64 ((m*V2 8).tdiv (V1 8+V2 8))) (by simp[results,Tryz.results172,go_sem, *]) rfl ⟨rfl,bel_a⟩
theorem wayTimes_z (x y n p q:Int) (w:World) (hx: -1000000000≤x∧x≤1000000000) (hy: -1000000000≤y∧y≤1000000000) (hn: -1000000000≤n∧n≤1000000000) (ep:fc ((x*n).tdiv 256)=p) (eq:fc ((y*n).tdiv 256)=q):
 Calls Tryz.prog 171 #[vv x y,.int .i64 n] w fun e w'=>e= .returned (vv p q)∧Below w.heap.size w w':=by
 subst ep eq;exact wayTimes_any x y n w hx hy hn
theorem kMoveU {cb n k:Nat} {U:Nat→Int} {S:Nat→Value} {w:World} (h:Cs w cb n (colOf U) S) (hk:k<n) (hn:n≤1048576) (a4: -2560000≤U (k*12+4)∧U (k*12+4)≤2560000) (a5: -2560000≤U (k*12+5)∧U (k*12+5)≤2560000) (p q:Int) (bp: -20000000≤p∧p≤20000000) (bq: -20000000≤q∧q≤20000000):
 Calls Tryz.prog 139 #[hdk cb k,vv p q] w fun e w'=>e= .returned (.tuple #[])∧Cs w' cb n (colOf (putRow U k (moveV (fun j=>U (k*12+j)) p q))) S∧Fr (Xc S) w w':=by
 refine(kMove_c h hk hn p q _ _ _ _ (fun j=>U (k*12+j)) (fun i=>rfl) a4 a5 bp bq rfl rfl rfl rfl).mono ?_
 rintro e w1 ⟨rfl,hC,hF⟩
 refine⟨rfl,hC.congr fun i j hi hj=> ?_,hF⟩
 rw[col_put hi]
 unfold setC moveV mvX mvY setV
 by_cases e:j=k
 · subst e
   simp only[and_true,if_true]
   repeat' split
   all_goals rfl
 · simp only[e,and_false,if_false]
theorem td_sh {x m:Int} (hx: -256≤x∧x≤256) (hm:0≤m∧m≤30000): -30000≤(x*m).tdiv 256∧(x*m).tdiv 256≤30000∧fc ((x*m).tdiv 256)=(x*m).tdiv 256:=by
 have p:=mul_bd (a:=x) (b:=m) (A:=256) (B:=30000) hx (by omega)
 have t:=tdiv_le (x:=x*m) (B:=30000) (m:=256) (by omega) (by omega) (by omega)
 exact⟨t.1,t.2,fc_id (by omega) (by omega)⟩
theorem mApart {cb n A B:Nat} {U:Nat→Int} {S:Nat→Value} {w:World} (x y d:Int) (h:Cs w cb n (colOf U) S) (hn:n≤1048576) (hAn:A<n) (hBn:B<n) (hAB:A≠B) (oA:BOk (fun j=>U (A*12+j))) (oB:BOk (fun j=>U (B*12+j))) (hX: -256≤x∧x≤256) (hY: -256≤y∧y≤256) (hD:0≤d∧d≤102400):
 Calls Tryz.prog 157 #[(.agg #[.int .i64 x,.int .i64 y,.int .i64 d,.int .i64 (A:Int),.pointer (some ⟨cb,0,none⟩),.int .i64 (B:Int),.pointer (some ⟨cb,0,none⟩)])] w fun e w'=>e= .returned (.tuple #[])∧Cs w' cb n (colOf (apartU U A B x y d)) S∧Fr (Xc S) w w':=by
 have hset:=cset_map
 have hx:∀ b,w.heap.size≤b→¬ Xc S b:=fun b hb x=>by have:=(h.xlt x).2;omega
 obtain⟨m,em⟩:∃ m,(d-64).tdiv 4=m:=⟨_,rfl⟩
 have bm: -30000≤m∧m≤30000:=by rw[←em];exact tdiv_le (by omega) (by omega) (by omega)
 have w1_:IntKind.i64.wrap (d-64)=d-64:=i64w (by omega)
 have w2_:IntKind.i64.wrap ((d-64).tdiv 4)=m:=by rw[em];exact i64w (by omega)
 have w3_:IntKind.i64.wrap m=m:=i64w (by omega)
 by_cases hm:0<m
 · have hmn:¬ (m≤0):=by omega
   obtain⟨sa,esa⟩:∃ s,shareV (fun j=>U (A*12+j)) (fun j=>U (B*12+j)) m=s:=⟨_,rfl⟩
   obtain⟨sb,esb⟩:∃ s,shareV (fun j=>U (B*12+j)) (fun j=>U (A*12+j)) m=s:=⟨_,rfl⟩
   have ba:=share_bd (V:=(fun j=>U (A*12+j))) (W:=(fun j=>U (B*12+j))) (n:=m) oA.m8.1 oB.m8.1 (by omega)
   have bb:=share_bd (V:=(fun j=>U (B*12+j))) (W:=(fun j=>U (A*12+j))) (n:=m) oB.m8.1 oA.m8.1 (by omega)
   rw[esa] at ba
   rw[esb] at bb
   obtain⟨p,ep⟩:∃ p,(-x*sa).tdiv 256=p:=⟨_,rfl⟩
   obtain⟨q,eq⟩:∃ q,(-y*sa).tdiv 256=q:=⟨_,rfl⟩
   obtain⟨r,er⟩:∃ r,(x*sb).tdiv 256=r:=⟨_,rfl⟩
   obtain⟨s,es⟩:∃ s,(y*sb).tdiv 256=s:=⟨_,rfl⟩
   obtain⟨tp1,tp2,fp⟩:=td_sh (x:= -x) (m:=sa) (by omega) (by omega)
   obtain⟨tq1,tq2,fq⟩:=td_sh (x:= -y) (m:=sa) (by omega) (by omega)
   obtain⟨tr1,tr2,fr⟩:=td_sh (x:=x) (m:=sb) (by omega) (by omega)
   obtain⟨ts1,ts2,fs⟩:=td_sh (x:=y) (m:=sb) (by omega) (by omega)
   rw[ep] at tp1 tp2
   replace fp:=fp.trans ep
   rw[eq] at tq1 tq2
   replace fq:=fq.trans eq
   rw[er] at tr1 tr2
   replace fr:=fr.trans er
   rw[es] at ts1 ts2
   replace fs:=fs.trans es
   have ht:=apart_two (U:=U) (A:=A) (B:=B) (x:=x) (y:=y) (d:=d) (p:=p) (q:=q) (r:=r) (s:=s) hAB oA oB (by rw[em];exact hm) (by rw[em,esa];exact ep) (by rw[em,esa];exact eq) (by rw[em,esb];exact er) (by rw[em,esb];exact es)
   have mA:=oA.m8
   have mB:=oB.m8
   have hA0:HAt w cb n A (fun j=>U (A*12+j)) (gOf S):=h.hat hAn hn
   have hB0:HAt w cb n B (fun j=>U (B*12+j)) (gOf S):=h.hat hBn hn
   have l1:=hA0.cbl
   clear ep eq er es
   obtain⟨U1,eU1⟩:∃ U1,putRow U A (moveV (fun j=>U (A*12+j)) p q)=U1:=⟨_,rfl⟩
   rw[eU1] at ht
   rw[←ht]
   clear ht
   have r8A:U1 (A*12+8)=U (A*12+8):=by rw[←eU1,row_is 8 (by omega)];rfl
   have r8B:U1 (B*12+8)=U (B*12+8):=by rw[←eU1,row_else (fun e=>hAB e.symm) 8 (by omega)]
   have oB1:(-2560000≤U1 (B*12+4)∧U1 (B*12+4)≤2560000)∧(-2560000≤U1 (B*12+5)∧U1 (B*12+5)≤2560000):=by rw[←eU1,row_else (fun e=>hAB e.symm) 4 (by omega),row_else (fun e=>hAB e.symm) 5 (by omega)];exact⟨oB.a4,oB.a5⟩
   have esb1:shareV (fun j=>U1 (B*12+j)) (fun j=>U1 (A*12+j)) m=sb:=(shareV_congr m r8B r8A).trans esb
   have mA1:0≤U1 (A*12+8)∧U1 (A*12+8)≤1000:=by rw[r8A];exact mA
   have mB1:0≤U1 (B*12+8)∧U1 (B*12+8)≤1000:=by rw[r8B];exact mB
   go_enter Tryz.func157,Tryz.ntmps157
   go_upto_region 3 with fail
   go_cut [] (fun wc=>Cs wc cb n (colOf U1) S∧Fr (Xc S) w wc∧wc.cell? ⟨w.heap.size,0,none⟩=some (.int .i64 x)∧wc.cell? ⟨w.heap.size,1,none⟩=some (.int .i64 y)∧wc.cell? ⟨w.heap.size,2,none⟩=some (.int .i64 d)∧wc.cell? ⟨w.heap.size,3,none⟩=some (.int .i64 (A:Int))∧wc.cell? ⟨w.heap.size,4,none⟩=some (.pointer (some ⟨cb,0,none⟩))∧wc.cell? ⟨w.heap.size,5,none⟩=some (.int .i64 (B:Int))∧wc.cell? ⟨w.heap.size,6,none⟩=some (.pointer (some ⟨cb,0,none⟩))∧w.heap.size<wc.heap.size)
   case first=>
    clear esb1 mA1 mB1 r8A r8B oB1
    refine wp_region_held_drew (S:=fun w'=>w'.cell? ⟨w.heap.size,0,none⟩=some (.int .i64 x)∧w'.cell? ⟨w.heap.size,1,none⟩=some (.int .i64 y)∧w'.cell? ⟨w.heap.size,2,none⟩=some (.int .i64 d)∧w'.cell? ⟨w.heap.size,3,none⟩=some (.int .i64 (A:Int))∧w'.cell? ⟨w.heap.size,4,none⟩=some (.pointer (some ⟨cb,0,none⟩))∧w'.cell? ⟨w.heap.size,5,none⟩=some (.int .i64 (B:Int))∧w'.cell? ⟨w.heap.size,6,none⟩=some (.pointer (some ⟨cb,0,none⟩))) (by kernel_rfl) ?_ (fun hHeld=> ?_)
    · (try dsimp only)
      (first|(go_simp;done)|(go_keep;done))
    refine tq 0 hHeld ?_
    refine tq 1 hHeld ?_
    refine tq 2 hHeld ?_
    refine tq 3 hHeld ?_
    refine tq 4 hHeld ?_
    refine tq 6 hHeld ?_
    refine tq 7 hHeld ?_
    refine tq 8 hHeld ?_
    refine tq 9 hHeld ?_
    refine tq 10 hHeld ?_
    (refine tc 5 fun K hK=> ?_;go_simp;(go_at_call 168;refine(opp_z _ _ _ (by omega) (by omega)).mono ?_;rintro e w1 ⟨rfl,hb1⟩;have hz1:=hb1.size;(try simp only[zz] at hz1);have:=kfa hb1 w.heap.size);(try go_wp2_with fail);refine tr hK (fun hHeld=> ?_);clear hK K)
    (refine tc 11 fun K hK=> ?_;go_simp;(go_at_call 172;refine(kShare (hA0.below (bel_a)) (hB0.below (bel_a)) _ _ (by omega) (by omega) (by omega) (by with_reducible assumption)).mono ?_;rintro e w2 ⟨rfl,hb2⟩;have hz2:=hb2.size;(try simp only[zz] at hz2);have:=kfa hb2 w.heap.size);(try go_wp2_with fail);refine tr hK (fun hHeld=> ?_);clear hK K)
    (refine tc 12 fun K hK=> ?_;go_simp;(go_at_call 171;refine(wayTimes_z _ _ _ _ _ _ (by omega) (by omega) (by omega) (by with_reducible assumption) (by with_reducible assumption)).mono ?_;rintro e w3 ⟨rfl,hb3⟩;have hz3:=hb3.size;(try simp only[zz] at hz3);have:=kfa hb3 w.heap.size);(try go_wp2_with fail);refine tr hK (fun hHeld=> ?_);clear hK K)
    (refine tc 13 fun K hK=> ?_;go_simp;(go_at_call 139;refine(kMoveU (h.below (bel_a)) hAn hn oA.a4 oA.a5 _ _ (by omega) (by omega)).mono ?_;rintro e w4 ⟨rfl,hr4,hF4⟩;have hk4:=fun o=>hF4.cell (p:=⟨w.heap.size,o,none⟩) (by first|omega|(simp;done)|(simp;omega)) (hx _ (Nat.le_refl _));have hz4:=hF4.size;(try simp only[zz] at hz4));(try go_wp2_with fail);refine tr hK (fun hHeld=> ?_);clear hK K)
    refine wpAnyH_done (by kernel_rfl) ?_ _
    go_wp2_with fail
    go_meet
    exact⟨(by rw[←eU1];exact hr4),(Fr.of_below (bel_a)).trans hF4,(by go_simp),(by go_simp),(by go_simp),(by go_simp),(by go_simp),(by go_simp),(by go_simp),(by first|omega|(simp;done)|(simp;omega))⟩
   case rest=>
   obtain⟨hC,hF,k0,k1,k2,k3,k4,k5,k6,hl⟩:=hcut
   have hA1:HAt wc cb n A (fun j=>U1 (A*12+j)) (gOf S):=hC.hat hAn hn
   have hB1:HAt wc cb n B (fun j=>U1 (B*12+j)) (gOf S):=hC.hat hBn hn
   have hx1:∀ b,wc.heap.size≤b→¬ Xc S b:=fun b hb x=>by have:=(hC.xlt x).2;omega
   have l2:=hA1.cbl
   clear eU1
   go_upto_region 4 with fail
   refine wp_region_held_drew (S:=fun w'=>w'.cell? ⟨w.heap.size,0,none⟩=some (.int .i64 x)∧w'.cell? ⟨w.heap.size,1,none⟩=some (.int .i64 y)∧w'.cell? ⟨w.heap.size,2,none⟩=some (.int .i64 d)∧w'.cell? ⟨w.heap.size,3,none⟩=some (.int .i64 (A:Int))∧w'.cell? ⟨w.heap.size,4,none⟩=some (.pointer (some ⟨cb,0,none⟩))∧w'.cell? ⟨w.heap.size,5,none⟩=some (.int .i64 (B:Int))∧w'.cell? ⟨w.heap.size,6,none⟩=some (.pointer (some ⟨cb,0,none⟩))) (by kernel_rfl) ?_ (fun hHeld=> ?_)
   · (try dsimp only)
     (first|(go_simp;done)|(go_keep;done))
   refine tq 0 hHeld ?_
   refine tq 1 hHeld ?_
   refine tq 2 hHeld ?_
   refine tq 3 hHeld ?_
   refine tq 4 hHeld ?_
   refine tq 5 hHeld ?_
   refine tq 6 hHeld ?_
   refine tq 7 hHeld ?_
   refine tq 8 hHeld ?_
   refine tq 9 hHeld ?_
   (refine tc 10 fun K hK=> ?_;go_simp;(go_at_call 172;refine(kShare (hB1.below (bel_a)) (hA1.below (bel_a)) _ _ (by omega) (by omega) (by omega) (by with_reducible assumption)).mono ?_;rintro e w12 ⟨rfl,hb12⟩;have hz12:=hb12.size;(try simp only[zz] at hz12);have:=kfa hb12 w.heap.size);(try go_wp2_with fail);refine tr hK (fun hHeld=> ?_);clear hK K)
   (refine tc 11 fun K hK=> ?_;go_simp;(go_at_call 171;refine(wayTimes_z _ _ _ _ _ _ (by omega) (by omega) (by omega) (by with_reducible assumption) (by with_reducible assumption)).mono ?_;rintro e w13 ⟨rfl,hb13⟩;have hz13:=hb13.size;(try simp only[zz] at hz13);have:=kfa hb13 w.heap.size);(try go_wp2_with fail);refine tr hK (fun hHeld=> ?_);clear hK K)
   (refine tc 12 fun K hK=> ?_;go_simp;(go_at_call 139;refine(kMoveU (hC.below (bel_a)) hBn hn oB1.1 oB1.2 _ _ (by omega) (by omega)).mono ?_;rintro e w14 ⟨rfl,hr14,hF14⟩;have hk14:=fun o=>hF14.cell (p:=⟨w.heap.size,o,none⟩) (by first|omega|(simp;done)|(simp;omega)) (hx _ (Nat.le_refl _)));(try go_wp2_with fail);refine tr hK (fun hHeld=> ?_);clear hK K)
   refine wpAnyH_done (by kernel_rfl) ?_ _
   go_wp2_with fail
   go_end0
   exact⟨rfl,hr14,(hF.trans (Fr.of_below (bel_a))).trans hF14⟩
 · have hmn:m≤0:=by omega
   have e0:apartU U A B x y d=U:=by unfold apartU;rw[em,decide_eq_false hm];rfl
   rw[e0]
   go_enter Tryz.func157,Tryz.ntmps157
   go_wp2_with fail
   refine bodyPost_ret (results_none rfl _ _ _) rfl ?_
   exact⟨rfl,h.below (bel_a),Fr.of_below (bel_a)⟩
theorem lv_eq {V:Nat→Int} (h:BOk V):(!decide (V 8=0)&& !decide (V 11=8))=liveV V:=by
 have h1:=h.m8
 have h2:=h.q11
 unfold liveV
 rw[show decide (0<V 8)= !decide (V 8=0) by by_cases e:V 8=0<;>simp[e]<;>omega,show decide (8≤V 11)=decide (V 11=8) by by_cases e:V 11=8<;>simp[e]<;>omega]
theorem lv_row {f:Nat→(Nat→Int)→Nat→Int} {n k:Nat} {U:Nat→Int} (h:Bods n U) (hk:k<n):lvK (mapR f U k) k=liveV (fun j=>U (k*12+j)):=by
 unfold lvK
 rw[mapR_row,mapR_row]
 exact lv_eq (V:=fun j=>U (k*12+j)) (BOk.of (h.ok k hk))
theorem row_map (f:Nat→(Nat→Int)→Nat→Int) (U:Nat→Int) (k:Nat):(fun i=>colOf (mapR f U k) i k)=fun i=>U (k*12+i):=by
 funext i
 unfold colOf
 exact mapR_row f U k i
theorem pull_yes {V:Nat→Int} {g:Int} (h:liveV V=true):pullV g V=setV V 7 (clampZ 20000000 (V 7-g*V 8)):=by unfold pullV;rw[h];rfl
theorem pull_no {V:Nat→Int} {g:Int} (h:liveV V=false):pullV g V=V:=by unfold pullV;rw[h];rfl
theorem go_yes {V:Nat→Int} (h:liveV V=true):goV V=moveV V (spX V) (spY V):=by unfold goV;rw[h];rfl
theorem go_no {V:Nat→Int} (h:liveV V=false):goV V=V:=by unfold goV;rw[h];rfl
theorem quiet_yes {V:Nat→Int} {z:Int} (hb:BOk V) (h:liveV V=true):quietV z V=setV V 11 (bif decide (-8≤spX V∧spX V≤8)&&decide (-8≤spY V∧spY V≤8) then mn (z+1) 7 else 0):=by
 have h1:=hb.m8
 have h2:=hb.q11
 unfold liveV at h
 simp only[Bool.and_eq_true,decide_eq_true_eq,Bool.not_eq_true',decide_eq_false_iff_not] at h
 unfold quietV
 rw[decide_eq_false (by omega),decide_eq_false (by omega)]
 rfl
theorem inB_two (l x y:Int):inB l x y=(decide (-l≤x∧x≤l)&&decide (-l≤y∧y≤l)):=by unfold inB;rw[←Bool.decide_and];exact decide_eq_decide.2 ⟨fun h=>⟨⟨h.1,h.2.1⟩,h.2.2⟩,fun h=>⟨h.1.1,h.1.2,h.2⟩⟩
theorem quiet_no {V:Nat→Int} {z:Int} (hb:BOk V) (h:liveV V=false):quietV z V=V:=by
 have h1:=hb.m8
 have h2:=hb.q11
 unfold liveV at h
 unfold quietV
 by_cases e:V 8=0
 · rw[decide_eq_true e];rfl
 · have e2:8≤V 11:=by
    by_cases e3:8≤V 11
    · exact e3
    · rw[decide_eq_true (by omega),decide_eq_false e3] at h;cases h
   rw[decide_eq_true e2,Bool.or_true];rfl
def gnum (fx:Nat→Bool) (L:Nat→Nat) (j:Nat):Int:=if fx j=true then-1 else (cntp (fstB fx L) (L j):Int)
def fxU (U:Nat→Int) (j:Nat):Bool:=decide (U (j*12+8)=0)
theorem ofL_set (l:List Int) (A:Nat) (v:Int) (j:Nat) (hA:A<l.length):ofL (l.set A v) j=if j=A then v else ofL l j:=by
 unfold ofL
 rw[List.getD_eq_getElem?_getD,List.getD_eq_getElem?_getD,List.getElem?_set]
 by_cases e:A=j
 · subst e;simp[hA]
 · rw[if_neg e,if_neg (fun q=>e q.symm)]
theorem join_eq {U C:Nat→Int} {n m k:Nat} (hC:CtOk n m C) (hk:k<m) {l:List Int} (hl:l.length=n) {G:Nat→Nat} (h:∀ j,j<n→ofL l j=(G j:Int)):∀ j,j<n→ofL (joinL U C l k) j=(stp G (edg U C k) j:Int):=by
 intro j hj
 have ha:=hC.a k hk
 have hb:=hC.b k hk
 have hA:(C (k*5)).toNat<n:=by omega
 have hB:(C (k*5+1)).toNat<n:=by omega
 unfold joinL edg
 generalize (C (k*5)).toNat=A at hA ⊢
 generalize (C (k*5+1)).toNat=B at hB ⊢
 by_cases hu:U (A*12+8)=0
 · rw[decide_eq_true hu,if_neg (fun q=>q.1 hu)]
   exact h j hj
 · by_cases hv:U (B*12+8)=0
   · rw[decide_eq_false hu,decide_eq_true hv,if_neg (fun q=>q.2 hv)]
     exact h j hj
   · rw[decide_eq_false hu,decide_eq_false hv,if_pos ⟨hu,hv⟩]
     show ofL (joinG l A B) j=((if j=A∨j=B then min (G A) (G B) else G j:Nat):Int)
     unfold joinG
     rw[ofL_set _ B _ j (by rw[List.length_set];omega),ofL_set _ A _ j (by omega),h A hA,h B hB,h j hj]
     have hm:(if (G B:Int)<(G A:Int) then (G B:Int) else (G A:Int))=((min (G A) (G B):Nat):Int):=by split<;>omega
     rw[hm]
     by_cases e1:j=B
     · rw[if_pos e1,if_pos (Or.inr e1)]
     · rw[if_neg e1]
       by_cases e2:j=A
       · rw[if_pos e2,if_pos (Or.inl e2)]
       · rw[if_neg e2,if_neg (fun q=>q.elim e2 e1)]
theorem grpI_eq {U C:Nat→Int} {n m:Nat} (hC:CtOk n m C) {l:List Int} (hl:l.length=n) {G:Nat→Nat} (h:∀ j,j<n→ofL l j=(G j:Int)):∀ k,k≤m→∀ j,j<n→ofL (grpI U C l k) j=(rnd (edg U C) G k j:Int)
 |0,_=>h
 | k+1,hk=>by
   rw[grpI,rnd]
   exact join_eq hC hk (by rw[grpI_len];exact hl) (grpI_eq hC hl h k (by omega))
theorem rng_at:∀ n j,j<n→ofL (rng n) j=(j:Int)
 |0,j,h=>absurd h (Nat.not_lt_zero _)
 | n+1,j,h=>by
   rw[rng]
   by_cases e:j<n
   · rw[ofL_app _ _ _ (by rw[rng_len];exact e)];exact rng_at n j e
   · obtain rfl:j=n:=by omega
     rw[ofL_app' _ _ _ (by rw[rng_len];exact Nat.le_refl _),rng_len,Nat.sub_self];rfl
theorem grpR_eq {U C:Nat→Int} {n m:Nat} (hC:CtOk n m C):∀ r j,j<n→ofL (grpR U C m (rng n) r) j=(rnds (edg U C) m r j:Int)
 |0=>fun j hj=>rng_at n j hj
 | r+1=>by
   rw[grpR,rnds]
   exact grpI_eq hC (by rw[grpR_len,rng_len]) (grpR_eq hC r) m (Nat.le_refl _)
def fl (p:Nat→Bool):Nat→List Int
 |0=>[]
 |i+1=>fl p i++(if p i=true then [(i:Int)] else [])
theorem fl_len (p:Nat→Bool):∀ i,(fl p i).length=cntp p i
 |0=>rfl
 | i+1=>by
   rw[fl,cntp,List.length_append,fl_len p i]
   split<;>rfl
theorem atOf_app (l x:List Int) (v:Int):∀ k,k≤l.length→atOf (l++x) v k=atOf l v k
 |0,_=>rfl
 |k+1,h=>by rw[atOf,atOf,ofL_app _ _ _ h,atOf_app l x v k (by omega)]
theorem atOf_fl (p:Nat→Bool) (x:Nat):∀ i,atOf (fl p i) (x:Int) (cntp p i)=if x<i∧p x=true then (cntp p x:Int) else-1
 |0=>by rw[if_neg (fun q=>absurd q.1 (Nat.not_lt_zero _))];rfl
 | i+1=>by
   have ih:=atOf_fl p x i
   cases hp:p i with
   | false=>
     have e1:fl p (i+1)=fl p i:=by rw[fl,hp];simp
     have e2:cntp p (i+1)=cntp p i:=by rw[cntp,hp];rfl
     rw[e1,e2,ih]
     by_cases q:x<i∧p x=true
     · rw[if_pos q,if_pos ⟨by omega,q.2⟩]
     · rw[if_neg q,if_neg]
       rintro⟨a,b⟩
       by_cases e:x=i
       · subst e;rw[hp] at b;cases b
       · exact q ⟨by omega,b⟩
   | true=>
     have e1:fl p (i+1)=fl p i++[(i:Int)]:=by rw[fl,hp];rfl
     have e2:cntp p (i+1)=cntp p i+1:=by rw[cntp,hp];rfl
     have e3:ofL (fl p i++[(i:Int)]) (cntp p i)=(i:Int):=by
      rw[ofL_app' _ _ _ (by rw[fl_len];exact Nat.le_refl _),fl_len,Nat.sub_self];rfl
     rw[e1,e2,atOf,e3,atOf_app _ _ _ _ (by rw[fl_len];exact Nat.le_refl _),ih]
     by_cases e:i=x
     · subst e
       rw[if_pos rfl,if_pos ⟨by omega,hp⟩]
     · rw[if_neg (by omega)]
       by_cases q:x<i∧p x=true
       · rw[if_pos q,if_pos ⟨by omega,q.2⟩]
       · rw[if_neg q,if_neg (fun r=>q ⟨by omega,r.2⟩)]
structure Tops (fx:Nat→Bool) (L:Nat→Nat):Prop where
 le:∀ j,L j≤j
 idem:∀ j,L (L j)=L j
 fx:∀ j,fx (L j)=fx j
theorem Tops.fst {fx:Nat→Bool} {L:Nat→Nat} (h:Tops fx L) {j:Nat} (hj:fx j=false):fstB fx L (L j)=true:=by
 unfold fstB;rw[h.fx,hj,decide_eq_true (h.idem j)];rfl
theorem numS_eq {U G:Nat→Int} {L:Nat→Nat} {n:Nat} (hT:Tops (fxU U) L) (hG:∀ j,j<n→G j=(L j:Int)):∀ i,i≤n→(numS U G i).2=fl (fstB (fxU U) L) i∧∀ j,j<i→ofL (numS U G i).1 j=gnum (fxU U) L j
 |0,_=>⟨rfl,fun j h=>absurd h (Nat.not_lt_zero _)⟩
 | i+1,hi=>by
   obtain⟨ih1,ih2⟩:=numS_eq hT hG i (by omega)
   obtain⟨hl,-⟩:=numS_len U G i
   have fin:∀ (v:Int) (j:Nat),v=gnum (fxU U) L i→j<i+1→ofL ((numS U G i).1++[v]) j=gnum (fxU U) L j:=fun v j hv hj=>by
    by_cases e:j<i
    · rw[ofL_app _ _ _ (by omega)];exact ih2 j e
    · obtain rfl:j=i:=by omega
      rw[ofL_app' _ _ _ (by omega),hl,Nat.sub_self]
      exact hv
   by_cases hu:U (i*12+8)=0
   · have hf:fxU U i=true:=decide_eq_true hu
     have hb:fstB (fxU U) L i=false:=by unfold fstB;rw[hf];rfl
     rw[numS_z hu,fl,hb]
     exact⟨by rw[ih1];simp,fun j hj=>fin _ j (by unfold gnum;rw[if_pos hf]) hj⟩
   · have hf:fxU U i=false:=decide_eq_false hu
     have ha:atOf (numS U G i).2 (G i) (numS U G i).2.length=if L i<i∧fstB (fxU U) L (L i)=true then (cntp (fstB (fxU U) L) (L i):Int) else-1:=by
      rw[ih1,fl_len,hG i (by omega),atOf_fl]
     have hle:=hT.le i
     by_cases e:L i=i
     · rw[if_neg (by omega)] at ha
       have hb:fstB (fxU U) L i=true:=by unfold fstB;rw[hf,decide_eq_true e];rfl
       rw[numS_n hu (by rw[ha];decide),fl,hb]
       refine⟨by rw[ih1,hG i (by omega),e];rfl,fun j hj=>fin _ j ?_ hj⟩
       unfold gnum
       rw[if_neg (by rw[hf];simp),e,ih1,fl_len]
     · rw[if_pos ⟨by omega,hT.fst hf⟩] at ha
       have hb:fstB (fxU U) L i=false:=by unfold fstB;rw[decide_eq_false e];simp
       rw[numS_o hu (by rw[ha];omega),fl,hb]
       refine⟨by rw[ih1];simp,fun j hj=>fin _ j ?_ hj⟩
       unfold gnum
       rw[if_neg (by rw[hf];simp),ha]
theorem lab_tops (U C:Nat→Int) (m:Nat):Tops (fxU U) (lab (edg U C) m):=by
 refine⟨lab_le _ m,lab_idem _ m,fun j=> ?_⟩
 have h:=lab_set (edg U C) (fun j=>U (j*12+8)=0) m (fun i A B _ e=>by
  unfold edg at e
  split at e
  · rename_i q
    simp only[Option.some.injEq,Prod.mk.injEq] at e
    obtain⟨rfl,rfl⟩:=e
    exact⟨fun x=>absurd x q.1,fun x=>absurd x q.2⟩
  · cases e) j
 unfold fxU
 exact decide_eq_decide.2 h
theorem grpL_eq {U C:Nat→Int} {n m:Nat} (hC:CtOk n m C):∀ j,j<n→ofL (grpL U C m n) j=gnum (fxU U) (lab (edg U C) m) j:=by
 have hE:∀ i A B,i<m→edg U C i=some (A,B)→A<n∧B<n:=fun i A B hi e=>by
  have ha:=hC.a i hi
  have hb:=hC.b i hi
  unfold edg at e
  split at e
  · simp only[Option.some.injEq,Prod.mk.injEq] at e
    obtain⟨rfl,rfl⟩:=e
    omega
  · cases e
 exact(numS_eq (lab_tops U C m) (fun j hj=>by rw[grpR_eq hC n j hj,rnds_lab _ m n hE j hj]) n (Nat.le_refl _)).2
def vnum (fx:Nat→Bool) (L:Nat→Nat) (k j:Nat):Int:=if fx j=false∧cntp (fstB fx L) (L j)<k then (cntp (fstB fx L) (L j):Int) else-1
theorem cntp_inj (p:Nat→Bool) {i j:Nat} (hi:p i=true) (hj:p j=true) (h:cntp p i=cntp p j):i=j:=by
 rcases Nat.lt_trichotomy i j with q|q|q
 · have:=cntp_in p q hi;omega
 · exact q
 · have:=cntp_in p q hj;omega
theorem memL_mem (L:Nat→Nat) (i:Nat):∀ n j,j∈memL L i n↔j<n∧L j=i
 |0,j=>by simp[memL]
 | n+1,j=>by
   rw[memL,List.mem_append,memL_mem L i n j]
   by_cases h:L n=i
   · rw[if_pos h,List.mem_singleton]
     constructor
     · rintro(⟨a,b⟩|rfl)
       · exact⟨by omega,b⟩
       · exact⟨by omega,h⟩
     · rintro⟨a,b⟩
       by_cases e:j=n
       · exact .inr e
       · exact .inl ⟨by omega,b⟩
   · rw[if_neg h]
     constructor
     · rintro(⟨a,b⟩|h)
       · exact⟨by omega,b⟩
       · cases h
     · rintro⟨a,b⟩
       by_cases e:j=n
       · subst e;exact absurd b h
       · exact .inl ⟨by omega,b⟩
def anyB (q:Nat→Bool):Nat→Bool
 |0=>false
 |i+1=>anyB q i||q i
theorem anyB_congr {p q:Nat→Bool}:∀ n,(∀ j,j<n→p j=q j)→anyB p n=anyB q n
 |0,_=>rfl
 |n+1,h=>by rw[anyB,anyB,anyB_congr n (fun j hj=>h j (by omega)),h n (by omega)]
theorem anyB_no {q:Nat→Bool}:∀ n,(∀ j,j<n→q j=false)→anyB q n=false
 |0,_=>rfl
 |n+1,h=>by rw[anyB,anyB_no n (fun j hj=>h j (by omega)),h n (by omega)];rfl
def awk (fx:Nat→Bool) (L:Nat→Nat) (sl:Nat→Bool) (n t:Nat):Bool:=anyB (fun j=>decide (gnum fx L j=(t:Int))&& !sl j) n
theorem memL_any (L:Nat→Nat) (i:Nat) (sl:Nat→Bool):∀ n,(memL L i n).any (fun j=> !sl j)=anyB (fun j=>decide (L j=i)&& !sl j) n
 |0=>rfl
 | n+1=>by
   rw[memL,List.any_append,memL_any L i sl n,anyB]
   by_cases h:L n=i
   · rw[if_pos h,decide_eq_true h];simp
   · rw[if_neg h,decide_eq_false h];simp
theorem memL_awk {fx:Nat→Bool} {L:Nat→Nat} (hT:Tops fx L) {i k:Nat} (sl:Nat→Bool) (n:Nat) (hf:fstB fx L i=true) (hk:cntp (fstB fx L) i=k):(memL L i n).any (fun j=> !sl j)=awk fx L sl n k:=by
 rw[memL_any]
 refine anyB_congr n fun j _=> ?_
 have hfi:fx i=false:=by
  unfold fstB at hf
  cases h:fx i with
  |false=>rfl
  |true=>rw[h] at hf;cases hf
 have e:(L j=i)↔gnum fx L j=(k:Int):=by
  unfold gnum
  constructor
  · intro h
    have hx:fx j=false:=by rw[←hT.fx,h];exact hfi
    rw[if_neg (by rw[hx];simp),h,hk]
  · intro h
    by_cases hx:fx j=true
    · rw[if_pos hx] at h;omega
    · rw[if_neg hx] at h
      exact cntp_inj _ (hT.fst (by simpa using hx)) hf (by omega)
 rw[decide_eq_decide.2 e]
def slG (U:Nat→Int) (j:Nat):Bool:=decide (8≤U (j*12+11))
theorem bool_eq {l m:List Bool} (h1:l.length=m.length) (h:∀ t,t<l.length→l.getD t false=m.getD t false):l=m:=by
 apply List.ext_getElem h1
 intro j hj hj'
 have:=h j hj
 rw[List.getD_eq_getElem?_getD,List.getD_eq_getElem?_getD,List.getElem?_eq_getElem hj,List.getElem?_eq_getElem hj'] at this
 exact this
theorem getD_app (l:List Bool) (x:Bool) (t:Nat):(l++[x]).getD t false=if t=l.length then x else l.getD t false:=by
 rw[List.getD_eq_getElem?_getD,List.getD_eq_getElem?_getD]
 by_cases h:t<l.length
 · rw[List.getElem?_append_left h,if_neg (by omega)]
 · by_cases e:t=l.length
   · subst e;simp
   · rw[if_neg e,List.getElem?_eq_none (by simp;omega),List.getElem?_eq_none (by omega)]
theorem getD_set (l:List Bool) (q:Nat) (x:Bool) (t:Nat) (hq:q<l.length):(l.set q x).getD t false=if t=q then x else l.getD t false:=by
 rw[List.getD_eq_getElem?_getD,List.getD_eq_getElem?_getD,List.getElem?_set]
 by_cases e:q=t
 · subst e;simp[hq]
 · rw[if_neg e,if_neg (fun q=>e q.symm)]
theorem gnum_lt {fx:Nat→Bool} {L:Nat→Nat} (hT:Tops fx L) {i j:Nat} (hj:j<i):gnum fx L j<(cntp (fstB fx L) i:Int):=by
 unfold gnum
 by_cases h:fx j=true
 · rw[if_pos h];omega
 · rw[if_neg h]
   have:=hT.le j
   have:=cntp_in (fstB fx L) (show L j<i by omega) (hT.fst (by simpa using h))
   omega
theorem awL_eq {U G:Nat→Int} {L:Nat→Nat} {n:Nat} (hT:Tops (fxU U) L) (hG:∀ j,j<n→G j=gnum (fxU U) L j):∀ i,i≤n→(awL U G i).length=cntp (fstB (fxU U) L) i∧∀ t,t<cntp (fstB (fxU U) L) i→(awL U G i).getD t false=awk (fxU U) L (slG U) i t
 |0,_=>⟨rfl,fun t h=>absurd h (Nat.not_lt_zero _)⟩
 | i+1,hi=>by
   obtain⟨ih1,ih2⟩:=awL_eq hT hG i (by omega)
   have hs:(!decide (8≤U (i*12+11)))= !slG U i:=rfl
   rw[awL,hs,hG i (by omega)]
   cases hf:fxU U i with
   | true=>
     have hb:fstB (fxU U) L i=false:=by unfold fstB;rw[hf];rfl
     have hg:gnum (fxU U) L i= -1:=by unfold gnum;rw[if_pos hf]
     rw[cntp,hb,hg,awP_m _ _ _ (by omega)]
     refine⟨ih1,fun t ht=> ?_⟩
     have ht':t<cntp (fstB (fxU U) L) i:=ht
     rw[ih2 t ht']
     unfold awk
     rw[anyB,hg,decide_eq_false (by omega)]
     simp
   | false=>
     have hle:=hT.le i
     by_cases e:L i=i
     · have hb:fstB (fxU U) L i=true:=by unfold fstB;rw[hf,decide_eq_true e];rfl
       have hg:gnum (fxU U) L i=((awL U G i).length:Int):=by unfold gnum;rw[if_neg (by rw[hf];simp),e,ih1]
       have hset:((awL U G i)++[false]).set (awL U G i).length (!slG U i)=(awL U G i)++[!slG U i]:=by simp
       rw[hg,awP_n,hset,cntp,hb]
       refine⟨by rw[List.length_append,ih1];rfl,fun t ht=> ?_⟩
       have ht':t<cntp (fstB (fxU U) L) i+1:=ht
       rw[getD_app]
       unfold awk
       rw[anyB]
       by_cases q:t=(awL U G i).length
       · rw[if_pos q,anyB_no i (fun j hj=>by
          have:=gnum_lt hT hj
          rw[decide_eq_false (by omega)];rfl),hg,decide_eq_true (by omega)]
         simp
       · rw[if_neg q,ih2 t (by omega),hg,decide_eq_false (by omega)]
         unfold awk
         simp
     · have hb:fstB (fxU U) L i=false:=by unfold fstB;rw[decide_eq_false e];simp
       have hlt:=cntp_in (fstB (fxU U) L) (show L i<i by omega) (hT.fst hf)
       have hg:gnum (fxU U) L i=(cntp (fstB (fxU U) L) (L i):Int):=by unfold gnum;rw[if_neg (by rw[hf];simp)]
       rw[hg,awP_o _ _ _ (by omega),cntp,hb]
       refine⟨by rw[List.length_set,ih1];rfl,fun t ht=> ?_⟩
       have ht':t<cntp (fstB (fxU U) L) i:=ht
       rw[getD_set _ _ _ _ (by omega),ih2 _ hlt]
       unfold awk
       rw[anyB,hg]
       by_cases q:t=cntp (fstB (fxU U) L) (L i)
       · rw[if_pos q,←q,decide_eq_true (by rfl)]
         simp
       · rw[if_neg q,ih2 t ht',decide_eq_false (by omega)]
         unfold awk
         simp
end Go.Proofs.YtpmjnpmnocjjgaaGreatDoor
namespace Go.Proofs.YtpmjnpmnocjjgaaGreatDoor
open Go.RowKit
set_option linter.unusedVariables false
set_option linter.unusedSimpArgs false
theorem HL.some {w:World} {base cb:Nat} {v:Value} {l:List Nat} (h:HL w base cb v l) (hl:0<l.length):∃ g c:Nat,v= .slice (some ⟨g,0,none⟩) l.length c∧base≤g∧g<w.heap.size:=by
 rcases h.2 with⟨_,e⟩|⟨g,cap,cur,hv,hb,_⟩
 · omega
 · exact⟨g,cap,hv,hb,(h.lt g (by rw[hv];rfl)).2⟩
theorem LV.blk {w wr w':World} {t g cap n:Nat} {xs:List Value} (h:LV w wr t g cap n xs) (hb:Below w.heap.size wr w') (e:w'.heap[g]? =wr.heap[g]?):LV w w' t g cap n xs:=by
 refine⟨h.bel.trans hb,h.len,h.own.1,?_⟩
 rcases h.own.2 with⟨q,_⟩|⟨g',cap',cur,hv,hb',hg,rest⟩
 · cases q
 · cases hv
   exact .inr ⟨g,cap,cur,rfl,hb',e.trans hg,rest⟩
theorem LV.sm {w wr w':World} {B t g cap n:Nat} {xs:List Value} (h:LV w wr t g cap n xs) (hs:Sm B wr w') (hB:w.heap.size≤B):LV w w' t g cap n xs:=by
 refine h.blk (hs.below.mono hB) ?_
 rcases h.own.2 with⟨q,_⟩|⟨g',cap',cur,hv,hb',hg,rest⟩
 · cases q
 · cases hv
   exact(hs.cells _ _ hg rfl).trans hg.symm
theorem LV.made (w:World) (t n:Nat) (hn:n≤maxLen):LV w (w.alloc (.cells (madeCells #[.int .i64 0] n) t)) t w.heap.size n n (IV (List.replicate n 0)):=by
 have e:(madeCells #[Value.int .i64 0] n).toList=IV (List.replicate n 0):=by
  unfold madeCells IV
  apply List.ext_getElem?
  intro j
  by_cases h:j<n
  · simp[h,Nat.mod_one]
  · simp[h]
 refine⟨(Below.refl _ _).alloc (Nat.le_refl _) _,by rw[IV_len,List.length_replicate],by rw[IV_len,List.length_replicate,Nat.mul_one],.inr ⟨w.heap.size,n,_,rfl,Nat.le_refl _,Go.Deep.blk_alloc_new _ _,Nat.le_refl _,hn,by rw[size_madeCells,Nat.mul_one],?_⟩⟩
 rw[e,Nat.mul_one,List.take_of_length_le (by rw[IV_len,List.length_replicate];exact Nat.le_refl _)]
structure Nr (w A:World) (g lb n:Nat) (l:List Int):Prop where
 lv:LV w A 3 g n n (IV l)
 box:A.cell? ⟨lb,0,none⟩=some (.slice (some ⟨g,0,none⟩) n n)
 lo:w.heap.size≤lb
 ne:lb≠g
section
variable {w A A':World} {g lb n:Nat} {l:List Int}
theorem Nr.lt (h:Nr w A g lb n l):lb<A.heap.size:=cell_lt (a:=⟨lb,0,none⟩) h.box
theorem Nr.len (h:Nr w A g lb n l):l.length=n:=by have:=h.lv.len;rwa [IV_len] at this
theorem Nr.blk (h:Nr w A g lb n l) (hb:Below w.heap.size A A') (e1:A'.heap[g]? =A.heap[g]?) (e2:A'.heap[lb]? =A.heap[lb]?):Nr w A' g lb n l:=
 ⟨h.lv.blk hb e1,(World.cell?_of_block (w:=A) (a:=⟨lb,0,none⟩) e2).trans h.box,h.lo,h.ne⟩
theorem Nr.below {B:Nat} (h:Nr w A g lb n l) (hb:Below B A A') (hB:w.heap.size≤B) (h1:g<B) (h2:lb<B):Nr w A' g lb n l:=h.blk (hb.mono hB) (hb.block g h1) (hb.block lb h2)
theorem Nr.on (h:Nr w A g lb n l) (hb:Below A.heap.size A A'):Nr w A' g lb n l:=h.below hb h.lv.bel.size h.lv.lt.2 h.lt
theorem Nr.sm {B:Nat} (h:Nr w A g lb n l) (hs:Sm B A A') (hB:w.heap.size≤B):Nr w A' g lb n l:=⟨h.lv.sm hs hB,hs.cell h.box,h.lo,h.ne⟩
theorem Nr.set (h:Nr w A g lb n l) (j:Nat) (x:Int):Nr w (A.setCell ⟨g,j,none⟩ (.int .i64 x)) g lb n (l.set j x):=
 ⟨by rw[←IV_set];exact h.lv.set j _,by rw[cset_far (by simp;exact h.ne)];exact h.box,h.lo,h.ne⟩
end
section
attribute [local go_sem] Oper.semAt_some
end
end Go.Proofs.YtpmjnpmnocjjgaaGreatDoor
namespace Go.Proofs.YtpmjnpmnocjjgaaGreatDoor
open Go.RowKit
set_option linter.unusedVariables false
set_option linter.unusedSimpArgs false
theorem goApart {w:World} {rb g m c cb n:Nat} {C U:Nat→Int} {S:Nat→Value} (hR0:Rg w rb g m c cb C 0) (hC0:Cs w cb n (colOf U) S) (hm:m≤1048576) (hn:n≤1048576) (hbb:Bods n U) (ct:CtOk n m C) (hrb:¬ Xc S rb) (hg:¬ Xc S g) (hcb:¬ cb=rb):
 Calls Tryz.prog 153 #[.pointer (some ⟨rb,0,none⟩),(.func (.func 157) #[] #[])] w fun e w'=>e= .returned (.tuple #[])∧Cs w' cb n (colOf (apartN C U m)) S∧Fr (fun b=>Xc S b∨b=rb) w w':=by
 have hset:=cset_map
 have hxr:∀ b,Xc S b→¬ b=rb:=fun b hb e=>hrb (e▸hb)
 have c0:=hR0.c0
 go_enter Tryz.func153,Tryz.ntmps153
 go_upto_region 1 with fail
 go_loopw [9] (fun s wr=>∃ k:Nat,k≤m∧s= .int .i64 (k:Int)∧Rg wr rb g m c cb C (k % m)∧Cs wr cb n (colOf (apartN C U k)) S∧Fr (fun b=>Xc S b∨b=rb) w wr) (fun s _=>m-(intOf s).toNat)
 case atStart=>exact⟨0,Nat.zero_le _,rfl,by rw[Nat.zero_mod];exact hR0,hC0,Fr.refl _ _⟩
 case round=>
  clear hR0 hC0 c0
  obtain⟨k,hk,rfl,hR,hC,hF⟩:=hrel
  by_cases hlt:k<m
  · have hkm:(k:Int)<(m:Int):=by omega
    rw[Nat.mod_eq_of_lt hlt] at hR
    have ca:=ct.a k hlt
    have cb_:=ct.b k hlt
    have cn:=ct.ne k hlt
    have cx:=ct.x k hlt
    have cy:=ct.y k hlt
    have cd:=ct.d k hlt
    have hB:=(hbb.aparts ct k hk).1
    have HN:Shut (apartN C U (k+1)=apartU (apartN C U k) (C (k*5)).toNat (C (k*5+1)).toNat (C (k*5+2)) (C (k*5+3)) (C (k*5+4))):=by show _=_;rw[apartN]
    obtain⟨A,hA⟩:∃ A:Nat,C (k*5)=(A:Int):=⟨(C (k*5)).toNat,by omega⟩
    obtain⟨B,hBB⟩:∃ B:Nat,C (k*5+1)=(B:Int):=⟨(C (k*5+1)).toNat,by omega⟩
    rw[hA,hBB,Int.toNat_natCast,Int.toNat_natCast] at HN
    rw[hA] at ca cn
    rw[hBB] at cb_ cn
    go_wp2_with (first
  |(go_at_call 157;refine(mApart _ _ _ (hC.frame hF4 hcb hxr) hn (by omega) (by omega) (by omega) (hB.row (by omega)) (hB.row (by omega)) cx cy cd).mono ?_;rintro e w5 ⟨rfl,hC5,hF5⟩)
  | (go_at_call 166;refine(take_q (j:=k) hR hlt hm _ _ _ _ _ rfl rfl rfl hA hBB).mono ?_;rintro e w4 ⟨rfl,hR4,hF4⟩))
    have hF9:Fr (fun b=>Xc S b∨b=rb) w w5:=(hF.trans (hF4.mono fun _ _ e=> .inr e)).trans (hF5.mono fun _ _ e=> .inl e)
    have hR9:=hR4.fr hF5 hrb hg
    go_roundw
    case rel=>exact⟨k+1,by omega,by go_num,hR9,by rw[HN.out];exact hC5,hF9⟩
    case measure=>simp[intOf];omega
  · obtain rfl:k=m:=by omega
    go_wp2_with fail
    go_end0
    exact⟨rfl,hC,hF⟩
theorem goApart0 {w:World} {rb c:Nat} (c0:w.cell? ⟨rb,0,none⟩=some (.slice none 0 c)):
 Calls Tryz.prog 153 #[.pointer (some ⟨rb,0,none⟩),(.func (.func 157) #[] #[])] w fun e w'=>e= .returned (.tuple #[])∧w'=w:=by
 go_enter Tryz.func153,Tryz.ntmps153
 go_upto_region 1 with fail
 refine wp_loop_rounds 1 ?_
 rw[rounds_succ]
 go_wp2_with fail
 go_end0
 exact⟨rfl,rfl⟩
theorem moveApart_q {w:World} {rb g m c cb n:Nat} {C U:Nat→Int} {S:Nat→Value} (hR0:Rg w rb g m c cb C 0) (hC0:Cs w cb n (colOf U) S) (hm:m≤1048576) (hn:n≤1048576) (hbb:Bods n U) (ct:CtOk n m C) (hrb:¬ Xc S rb) (hg:¬ Xc S g) (hcb:¬ cb=rb):
 Calls Tryz.prog 141 #[.pointer (some ⟨rb,0,none⟩)] w fun e w'=>e= .returned (.tuple #[])∧Cs w' cb n (colOf (apartN C U m)) S∧Fr (fun b=>Xc S b∨b=rb) w w':=by
 go_enter Tryz.func141,Tryz.ntmps141
 go_wp2_with (go_at_call 153;refine(goApart hR0 hC0 hm hn hbb ct hrb hg hcb).mono ?_;rintro e w1 ⟨rfl,h1,h2⟩)
 go_end0
 exact⟨rfl,h1,h2⟩
theorem moveApart_0 {w:World} {rb c:Nat} (c0:w.cell? ⟨rb,0,none⟩=some (.slice none 0 c)):
 Calls Tryz.prog 141 #[.pointer (some ⟨rb,0,none⟩)] w fun e w'=>e= .returned (.tuple #[])∧w'=w:=by
 go_enter Tryz.func141,Tryz.ntmps141
 go_wp2_with (go_at_call 153;refine(goApart0 c0).mono ?_;rintro e w1 ⟨rfl,rfl⟩)
 go_end0
 exact⟨rfl,rfl⟩
end Go.Proofs.YtpmjnpmnocjjgaaGreatDoor
namespace Go.Proofs.YtpmjnpmnocjjgaaGreatDoor
open Go.RowKit
set_option linter.unusedVariables false
set_option linter.unusedSimpArgs false
section
attribute [local go_sem] Oper.semAt_some
theorem countQuiet_any (mb cb n:Nat) (Z:Nat→Int) (aq:Option Addr) (qc:Nat) (U:Nat→Int) (S:Nat→Value) (w:World) (hC:Cs w cb n (colOf U) S) (hm0:w.cell? ⟨mb,0,none⟩=some (.pointer (some ⟨cb,0,none⟩))) (hm5:w.cell? ⟨mb,5,none⟩=some (.slice aq n qc)) (hQ0:Flat w aq n Z) (hqn:∀ b o,aq=some ⟨b,o,none⟩→0<n→¬ Xc S b) (hmx:¬ Xc S mb) (hn:n≤12) (hbb:Bods n U) (hZ:∀ k,k<n→0≤Z k∧Z k≤8):
 Calls Tryz.prog 114 #[.pointer (some ⟨mb,0,none⟩)] w fun e w'=>e= .returned (.tuple #[])∧Cs w' cb n (colOf (mapR (fun i V=>quietV (Z i) V) U n)) S∧Fr (Xc S) w w':=by
 have hset:=cset_map
 refine calls_of_wp_marks Tryz.func114 rfl ?_
 simp only[Tryz.ntmps114,List.size_toArray,List.length_cons,List.length_nil,Nat.reduceAdd,Nat.reduceSub,Array.replicate_succ,Array.replicate_zero,List.push_toArray,List.append_toArray,List.nil_append,List.cons_append]
 have hxl:∀ b,Xc S b→b<w.heap.size:=fun b e=>(hC.xlt e).2
 have hml:mb<w.heap.size:=cell_lt (a:=⟨mb,0,none⟩) hm0
 have hE0:Below w.heap.size w (w.alloc (Obj.cells #[.pointer (some ⟨mb,0,none⟩)] 133)):=(Below.refl _ _).alloc (Nat.le_refl _) _
 have hz0:w.heap.size<(w.alloc (Obj.cells #[.pointer (some ⟨mb,0,none⟩)] 133)).heap.size:=by simp
 have y0:(w.alloc (Obj.cells #[.pointer (some ⟨mb,0,none⟩)] 133)).cell? ⟨w.heap.size,0,none⟩=some (.pointer (some ⟨mb,0,none⟩)):=by go_simp
 go_upto_region 1 with fail
 generalize (w.alloc (Obj.cells #[.pointer (some ⟨mb,0,none⟩)] 133))=w2 at hE0 hz0 y0 ⊢
 have hC2:=hC.below hE0
 have m0:=keepL hE0 hm0
 have m5:=keepL hE0 hm5
 have hQF:=hQ0.below hE0
 have hbxx:¬ Xc S w.heap.size:=fun e=>by have:=hxl _ e;omega
 have hml2:mb<w2.heap.size:=by omega
 have hFr0:Fr (Xc S) w w2:=Fr.of_below hE0
 generalize w.heap.size=bx at*
 go_wp2
 refine wp_range_outV (gf:=133) (bound:= #[.pointer (some ⟨mb,0,none⟩)]) rfl live_enters (live_it mb cb n w2 hn) (fun _=>rfl) (fun k V A=>V=mapR (fun i V=>quietV (Z i) V) U k∧Cs A cb n (colOf V) S∧Fr (Xc S) w2 A) ?hI ?hcol U ⟨(mapR_0 _ _).symm,hC2,Fr.refl _ _⟩ ?hskip ?hround ?hdone
 case hI=>rintro k V A B ⟨h1,h2,h3⟩ hs;exact⟨h1,h2.sm hs,h3.sm hs (Nat.le_refl _)⟩
 case hcol=>rintro k V A ⟨h1,h2,h3⟩;exact⟨(h3.cell (p:=⟨mb,0,none⟩) hml2 hmx).trans m0,S,h2⟩
 case hskip=>
  rintro k V A ⟨rfl,h2,h3⟩ hk hl
  rw[lv_row hbb hk] at hl
  have hbk:BOk (fun j=>U (k*12+j)):=BOk.of (hbb.ok k hk)
  have e:mapR (fun i V=>quietV (Z i) V) U (k+1)=mapR (fun i V=>quietV (Z i) V) U k:=mapR_same fun j hj=>by
   show quietV _ _ j=_
   rw[quiet_no hbk hl]
  exact⟨e.symm,h2,h3⟩
 case hdone=>
  rintro D V A hD ⟨rfl,h2,h3⟩ hK
  go_wp2
  refine marks_ret (B:=w2.heap.size) hD rfl hK fun A' hS=>⟨_,results_none rfl _ _ _,rfl,h2.sm hS,hFr0.trans (h3.sm hS (Nat.le_refl _))⟩
 case hround=>
  rintro l k V A hl1 hl2 hA2 ⟨rfl,hCA,hFA⟩ hk hlv
  rw[lv_row hbb hk] at hlv
  have hbk:BOk (fun j=>U (k*12+j)):=BOk.of (hbb.ok k hk)
  have b4:=hbk.a4
  have b5:=hbk.a5
  have b6:=hbk.d6
  have b7:=hbk.d7
  have b8:=hbk.m8
  have b11:=hbk.q11
  (try simp only at b4 b5 b6 b7 b8 b11)
  simp only[List.zip_toArray,List.zip_cons_cons,List.zip_nil_left,List.foldl_toArray,List.foldl_cons,List.foldl_nil,List.setIfInBounds_toArray,List.set_cons_succ,List.set_cons_zero]
  refine wpIn_region_plain (by rintro⟨_,_,h⟩;exact h) (by kernel_rfl) ?_
  go_wp2
  refine⟨(KeepsOthers.alloc _ _).from _,fun A2 hS hKc hr=> ?_⟩
  clear hr
  have hE1:Below A.heap.size A (A.alloc (Obj.cells #[.int .i64 (k:Int),.pointer (some ⟨cb,0,none⟩)] 76)):=(Below.refl _ _).alloc (Nat.le_refl _) _
  have v0:(A.alloc (Obj.cells #[.int .i64 (k:Int),.pointer (some ⟨cb,0,none⟩)] 76)).cell? ⟨A.heap.size,0,none⟩=some (.int .i64 (k:Int)):=by go_simp
  have v1:(A.alloc (Obj.cells #[.int .i64 (k:Int),.pointer (some ⟨cb,0,none⟩)] 76)).cell? ⟨A.heap.size,1,none⟩=some (.pointer (some ⟨cb,0,none⟩)):=by go_simp
  generalize (A.alloc (Obj.cells #[.int .i64 (k:Int),.pointer (some ⟨cb,0,none⟩)] 76))=A1 at hE1 v0 v1 hS hKc
  have hCk:=(hCA.below hE1).sm hS
  have hFk:Fr (Xc S) w2 A2:=(hFA.trans (Fr.of_below hE1)).sm hS (Nat.le_refl _)
  have hKc2:Kcs (w2.heap.size+2) (fun _=>True) A A2:=(Kcs.of_below hE1).trans (hKc _ _ hl2)
  replace v0:=hS.cell v0
  replace v1:=hS.cell v1
  have hzb:w2.heap.size+2≤A.heap.size:=hA2
  clear hS hE1 hKc hCA hFA
  generalize A.heap.size=ba at v0 v1 hzb ⊢
  have hbal:ba<A2.heap.size:=cell_lt (a:=⟨ba,0,none⟩) v0
  have hbx:¬ Xc S ba:=fun e=>by have:=hxl _ e;omega
  have hat:=hCk.hat hk (by omega)
  rw[row_map] at hat
  have hmA0:=(hFk.cell (p:=⟨mb,0,none⟩) hml2 hmx).trans m0
  have hml3:mb<A2.heap.size:=cell_lt (a:=⟨mb,0,none⟩) hmA0
  refine wpIn_block ?_
  obtain⟨qb,qo,rfl,hql,hqc⟩:=hQF (by omega)
  have hqx:¬ Xc S qb:=hqn qb qo rfl (by omega)
  have hq0:=hqc k (by omega)
  have hmA5:=(hFk.cell (p:=⟨mb,5,none⟩) hml2 hmx).trans m5
  have hqA:=(hFk.cell (p:=⟨qb,qo+k,none⟩) hql hqx).trans hq0
  have hbx0:=(hFk.cell (p:=⟨bx,0,none⟩) (cell_lt (a:=⟨bx,0,none⟩) y0) hbxx).trans y0
  have hz1:=hZ k hk
  have hwz:IntKind.i64.wrap (Z k+1)=Z k+1:=i64w (by omega)
  have hkn:(k:Int)<(n:Int):=by omega
  obtain⟨bw,hbw⟩:∃ b,inB 8 (spX (fun i=>U (k*12+i))) (spY (fun i=>U (k*12+i)))=b:=⟨_,rfl⟩
  obtain⟨mz,hmin⟩:∃ z,mn (Z k+1) 7=z:=⟨_,rfl⟩
  gi_upto_region 4 with fail
  gi_cut [9] from 10 (fun s9 wc=>s9= .bool bw∧Below A2.heap.size A2 wc)
  case first=>
   refine wpIn_region_plain (by rintro⟨_,_,h⟩;exact h) (by kernel_rfl) ?_
   go_wp2_with (first
    |(have _:=hb11;go_at_call 75;refine(within2_q _ _ 8 bw _ (by omega) (by omega) hbw).mono ?_;rintro e w12 ⟨rfl,hb12⟩;have s0:=keepL hb12 u0;have s1:=keepL hb12 u1)
    |(go_at_call 140;refine(kSpeed (hat.below (Below.refl _ _)) b6 b7).mono ?_;rintro e w11 ⟨rfl,hb11⟩;have u0:=keepL hb11 v0;have u1:=keepL hb11 v1))
   gi_meet
   exact⟨rfl,hb11.trans (hb12.mono hb11.size)⟩
  case rest=>
  obtain⟨rfl,hB12⟩:=hcut
  have FF:∀ w',Below A2.heap.size A2 w'→w'.cell? ⟨ba,0,none⟩=some (.int .i64 (k:Int))∧w'.cell? ⟨ba,1,none⟩=some (.pointer (some ⟨cb,0,none⟩))∧w'.cell? ⟨bx,0,none⟩=some (.pointer (some ⟨mb,0,none⟩))∧w'.cell? ⟨mb,5,none⟩=some (.slice (some ⟨qb,qo,none⟩) n qc)∧w'.cell? ⟨qb,qo+k,none⟩=some (.int .i64 (Z k)):=fun w' s=>⟨keepL s v0,keepL s v1,keepL s hbx0,keepL s hmA5,keepL s hqA⟩
  have hz12:=hB12.size
  cases bw with
  | true=>
    gi_upto_region 5 with fail
    gi_cut [3] from 10 (fun s3 wc=>s3= .int .i64 mz∧Below A2.heap.size A2 wc)
    case first=>
     refine wpIn_region_held_drew (S:=fun w'=>Below A2.heap.size A2 w') (by kernel_rfl) (by rintro⟨_,_,h⟩;exact h) (by kernel_rfl) ?_ (fun hHeld=> ?_)
     · exact hB12.drew
     refine tq 0 hHeld ?_ (hv:=by(intro w' s;obtain⟨q0,q1,q2,q3,q4⟩:=FF w' s;go_simp;(try with_reducible rfl)))
     refine tq 1 hHeld ?_
     refine tq 2 hHeld ?_
     refine tq 3 hHeld ?_ (hv:=by(intro w' s;obtain⟨q0,q1,q2,q3,q4⟩:=FF w' s;go_simp;(try with_reducible rfl)))
     refine tq 4 hHeld ?_
     refine tq 5 hHeld ?_ (hv:=by(intro w' s;obtain⟨q0,q1,q2,q3,q4⟩:=FF w' s;go_simp;(try with_reducible rfl)))
     refine tq 6 hHeld ?_
     refine tq 7 hHeld ?_ (hv:=by(intro w' s;obtain⟨q0,q1,q2,q3,q4⟩:=FF w' s;go_simp;(try with_reducible rfl)))
     refine tq 8 hHeld ?_
     refine tc 9 fun K hK=> ?_
     (go_simp;refine tr hK (fun hHeld=> ?_);clear hK K)
     refine tq 10 hHeld ?_
     refine wpAnyH_done (by kernel_rfl) ?_ _
     gi_wp2
     all_goals(gi_meet;exact⟨congrArg (Value.int .i64) (by(try rw[←hmin]);unfold mn;split<;>omega),hHeld⟩)
    case rest=>
    clear hB12 hz12
    obtain⟨rfl,hB12⟩:=hcut
    have s0:=keepL hB12 v0
    have s1:=keepL hB12 v1
    gi_upto_region 6 with fail
    refine wpIn_region_plain (by rintro⟨_,_,h⟩;exact h) (by kernel_rfl) ?_
    go_wp2_with (go_at_call 131;refine(kSetQuiet (hCk.below hB12) hk (by omega) (mz)).mono ?_;rintro e X9 ⟨rfl,hC9,hF9⟩)
    have hall:Fr (Xc S) A2 X9:=(Fr.of_below hB12).trans hF9
    exact⟨hall.keeps _,⟨_,rfl,by
     have e1:mapR (fun i V=>quietV (Z i) V) U (k+1)=putRow (mapR (fun i V=>quietV (Z i) V) U k) k ((fun i V=>quietV (Z i) V) k (fun j=>U (k*12+j))):=(mapR_set (fun i V=>quietV (Z i) V) U k).symm
     rw[e1]
     refine hC9.congr fun i j hi hj=> ?_
     rw[col_put hi]
     by_cases ej:j=k
     · subst ej
       rw[if_pos rfl]
       show _=quietV (Z j) (fun q=>U (j*12+q)) i
       rw[quiet_yes hbk hlv]
       unfold setC setV
       by_cases e7:i=11
       · subst e7;simp only[and_self,reduceIte];rw[←hmin];rw[inB_two] at hbw;rw[hbw];rfl
       · simp[e7];exact mapR_row _ _ _ _
     · rw[if_neg ej];simp[setC,ej],hFk.trans hall⟩,hKc2.trans (Kcs.fr hall (fun b e=> .inl (by have:=hxl _ e;omega)))⟩
  | false=>
    have s0:=keepL hB12 v0
    have s1:=keepL hB12 v1
    gi_upto_region 6 with fail
    refine wpIn_region_plain (by rintro⟨_,_,h⟩;exact h) (by kernel_rfl) ?_
    go_wp2_with (go_at_call 131;refine(kSetQuiet (hCk.below hB12) hk (by omega) (0)).mono ?_;rintro e X9 ⟨rfl,hC9,hF9⟩)
    have hall:Fr (Xc S) A2 X9:=(Fr.of_below hB12).trans hF9
    exact⟨hall.keeps _,⟨_,rfl,by
     have e1:mapR (fun i V=>quietV (Z i) V) U (k+1)=putRow (mapR (fun i V=>quietV (Z i) V) U k) k ((fun i V=>quietV (Z i) V) k (fun j=>U (k*12+j))):=(mapR_set (fun i V=>quietV (Z i) V) U k).symm
     rw[e1]
     refine hC9.congr fun i j hi hj=> ?_
     rw[col_put hi]
     by_cases ej:j=k
     · subst ej
       rw[if_pos rfl]
       show _=quietV (Z j) (fun q=>U (j*12+q)) i
       rw[quiet_yes hbk hlv]
       unfold setC setV
       by_cases e7:i=11
       · subst e7;simp only[and_self,reduceIte];rw[inB_two] at hbw;rw[hbw];rfl
       · simp[e7];exact mapR_row _ _ _ _
     · rw[if_neg ej];simp[setC,ej],hFk.trans hall⟩,hKc2.trans (Kcs.fr hall (fun b e=> .inl (by have:=hxl _ e;omega)))⟩
end
end Go.Proofs.YtpmjnpmnocjjgaaGreatDoor
