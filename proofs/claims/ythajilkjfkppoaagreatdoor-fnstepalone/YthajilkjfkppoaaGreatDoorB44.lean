/- Texts of a proof. -/
import Derived.Test.YthajilkjfkppoaaGreatDoorB6
import Derived.Test.YthajilkjfkppoaaGreatDoorB30
import Derived.Deep.RegionHeld3
import Derived.Deep.DeepCutAuto
import Derived.Test.YthajilkjfkppoaaGreatDoorB29
import Derived.Test.YthajilkjfkppoaaGreatDoorB11
set_option maxHeartbeats 16000000
set_option maxRecDepth 20000
namespace Go.Proofs.YthajilkjfkppoaaGreatDoor
open Go.RowKit
set_option linter.unusedVariables false
set_option linter.unusedSimpArgs false
theorem kPushed_z (V1 V2:Nat→Int) (x y k:Int) (cb nn i j:Nat) (G1 G2:Nat→Nat) (bo:Bool) (c:Int) (w:World) (h1:HAt w cb nn i V1 G1) (h2:HAt w cb nn j V2 G2) (b6: -20000000≤V1 6∧V1 6≤20000000) (b7: -20000000≤V1 7∧V1 7≤20000000) (d6: -20000000≤V2 6∧V2 6≤20000000) (d7: -20000000≤V2 7∧V2 7≤20000000) (bx: -256≤x∧x≤256) (bY: -256≤y∧y≤256) (ec:closeV V1 V2 x y=c) (hc:c≤0):
 Calls Tryz.prog 184 #[(.agg #[.int .i64 x,.int .i64 y,.int .i64 k,.int .i64 (i:Int),.pointer (some ⟨cb,0,none⟩),.int .i64 (j:Int),.pointer (some ⟨cb,0,none⟩)]),.bool bo] w fun e w'=>e= .returned (vv 0 0)∧Below w.heap.size w w':=by
 have hset:=cset_map
 have l1:=h1.cbl
 have l2:=h2.cbl
 go_enter Tryz.func184,Tryz.ntmps184
 go_wp2_with (go_at_call 190;refine(kClosing_q V1 V2 x y k cb nn i j G1 G2 _ _ (h1.below (by exact bel_a)) (h2.below (by exact bel_a)) (by omega) (by omega) (by omega) (by omega) (by omega) (by omega) (by with_reducible assumption)).mono ?_;rintro e w1 ⟨rfl,hb1⟩;have hz1:=hb1.size;(try simp only[zz] at hz1);have:=kf2 hb1 w.heap.size)
 exact bodyPost_ret (v:=vv 0 0) (by simp[results,Tryz.results184,go_sem, *]) rfl ⟨rfl,bel_a⟩
theorem kPushed (V1 V2:Nat→Int) (x y k:Int) (cb nn i j:Nat) (G1 G2:Nat→Nat) (bo:Bool) (w:World) (h1:HAt w cb nn i V1 G1) (h2:HAt w cb nn j V2 G2) (a0:0≤V1 8∧V1 8≤1000) (a1:0≤V2 8∧V2 8≤1000) (b6: -20000000≤V1 6∧V1 6≤20000000) (b7: -20000000≤V1 7∧V1 7≤20000000) (d6: -20000000≤V2 6∧V2 6≤20000000) (d7: -20000000≤V2 7∧V2 7≤20000000) (bx: -256≤x∧x≤256) (bY: -256≤y∧y≤256) (e9:0≤V1 9∧V1 9≤256) (f9:0≤V2 9∧V2 9≤256) (e10:0≤V1 10∧V1 10≤256) (f10:0≤V2 10∧V2 10≤256):
 Calls Tryz.prog 184 #[(.agg #[.int .i64 x,.int .i64 y,.int .i64 k,.int .i64 (i:Int),.pointer (some ⟨cb,0,none⟩),.int .i64 (j:Int),.pointer (some ⟨cb,0,none⟩)]),.bool bo] w fun e w'=>e= .returned (vv (puX V1 V2 x y bo) (puY V1 V2 x y bo))∧Below w.heap.size w w':=by
 by_cases hc:closeV V1 V2 x y≤0
 · unfold puX puY;rw[if_pos hc,if_pos hc]
   exact kPushed_z V1 V2 x y k cb nn i j G1 G2 bo _ w h1 h2 b6 b7 d6 d7 bx bY rfl hc
 · unfold puX puY;rw[if_neg hc,if_neg hc]
   obtain⟨q1,q2,q3,q4,q5,q6,q7,q8,q9⟩:=push_bd V1 V2 x y bo a0 a1 b6 b7 d6 d7 bx bY e9 f9 e10 f10 (by omega)
   cases bo
   · exact kPushed_f V1 V2 x y k cb nn i j G1 G2 (mxB V1 V2) (mnR V1 V2) (closeV V1 V2 x y) (pN V1 V2 x y false) (pP V1 V2 x y false) (pD V1 V2 x y) (togV V1 V2 (pD V1 V2 x y)) (pM V1 V2 x y false) (pA V1 V2 x y false) w h1 h2 a0 a1 b6 b7 d6 d7 bx bY rfl rfl rfl rfl rfl rfl rfl rfl rfl ⟨by omega,q1⟩ q2 q3 q4 q5 q6 q7 q8 q9
   · exact kPushed_t V1 V2 x y k cb nn i j G1 G2 (mxB V1 V2) (mnR V1 V2) (closeV V1 V2 x y) (pN V1 V2 x y true) (pP V1 V2 x y true) (pD V1 V2 x y) (togV V1 V2 (pD V1 V2 x y)) (pM V1 V2 x y true) (pA V1 V2 x y true) w h1 h2 a0 a1 b6 b7 d6 d7 bx bY rfl rfl rfl rfl rfl rfl rfl rfl rfl ⟨by omega,q1⟩ q2 q3 q4 q5 q6 q7 q8 q9
theorem keepk {w w':World} {p:Addr} {v:Value} (hb:Below w.heap.size w w') (h:w.cell? p=some v):w'.cell? p=some v:=(hb.cell (cell_lt h)).trans h
theorem kBears {cb n k:Nat} {V:Nat→Int} {G:Nat→Nat} {w:World} (h:HAt w cb n k V G) (p q:Int) (b6: -20000000≤V 6∧V 6≤20000000) (b7: -20000000≤V 7∧V 7≤20000000) (bp: -20000000≤p∧p≤20000000) (bq: -20000000≤q∧q≤20000000):
 Calls Tryz.prog 185 #[hdk cb k,vv p q] w fun e w'=>e= .returned (.bool (decide (V 8=0)||inB 20000000 (V 6+p) (V 7+q)))∧Below w.heap.size w w':=by
 have hset:=cset_map
 obtain⟨I,eI⟩:∃ I,inB 20000000 (V 6+p) (V 7+q)=I:=⟨_,rfl⟩
 cases hd:decide (V 8=0) with
 | true=>
   go_enter Tryz.func185,Tryz.ntmps185
   go_upto_region 1 with fail
   have hE:Below w.heap.size w ((w.alloc (.cells #[.int .i64 (k:Int),.pointer (some ⟨cb,0,none⟩)] 59)).alloc (.cells #[.int .i64 p,.int .i64 q] 66)):=bel_a
   have c0:((w.alloc (.cells #[.int .i64 (k:Int),.pointer (some ⟨cb,0,none⟩)] 59)).alloc (.cells #[.int .i64 p,.int .i64 q] 66)).cell? ⟨w.heap.size,0,none⟩=some (.int .i64 (k:Int)):=by go_simp
   have c1:((w.alloc (.cells #[.int .i64 (k:Int),.pointer (some ⟨cb,0,none⟩)] 59)).alloc (.cells #[.int .i64 p,.int .i64 q] 66)).cell? ⟨w.heap.size,1,none⟩=some (.pointer (some ⟨cb,0,none⟩)):=by go_simp
   have c2:((w.alloc (.cells #[.int .i64 (k:Int),.pointer (some ⟨cb,0,none⟩)] 59)).alloc (.cells #[.int .i64 p,.int .i64 q] 66)).cell? ⟨w.heap.size+1,0,none⟩=some (.int .i64 p):=by go_simp
   have c3:((w.alloc (.cells #[.int .i64 (k:Int),.pointer (some ⟨cb,0,none⟩)] 59)).alloc (.cells #[.int .i64 p,.int .i64 q] 66)).cell? ⟨w.heap.size+1,1,none⟩=some (.int .i64 q):=by go_simp
   have hz:w.heap.size≤((w.alloc (.cells #[.int .i64 (k:Int),.pointer (some ⟨cb,0,none⟩)] 59)).alloc (.cells #[.int .i64 p,.int .i64 q] 66)).heap.size:=by simp;omega
   generalize ((w.alloc (.cells #[.int .i64 (k:Int),.pointer (some ⟨cb,0,none⟩)] 59)).alloc (.cells #[.int .i64 p,.int .i64 q] 66))=w0 at hE c0 c1 c2 c3 hz ⊢
   have FF:∀ w',Below w0.heap.size w0 w'→w'.cell? ⟨w.heap.size,0,none⟩=some (.int .i64 (k:Int))∧w'.cell? ⟨w.heap.size,1,none⟩=some (.pointer (some ⟨cb,0,none⟩))∧w'.cell? ⟨w.heap.size+1,0,none⟩=some (.int .i64 p)∧w'.cell? ⟨w.heap.size+1,1,none⟩=some (.int .i64 q):=fun w' s=>⟨keepk s c0,keepk s c1,keepk s c2,keepk s c3⟩
   refine wp_region_held_drew (S:=fun w'=>Below w0.heap.size w0 w') (by kernel_rfl) ((Below.refl _ _).drew) (fun hHeld=> ?_)
   refine tq 0 hHeld ?_ (hv:=by(intro w' s;obtain⟨q1,q2,q3,q4⟩:=FF w' s;go_simp;(try with_reducible rfl)))
   refine tc 1 fun K hK=> ?_
   (go_simp;(go_at_call 51;refine(kFixed (h.below (hE.trans (hHeld.mono (by omega))))).mono ?_;rintro e w1 ⟨rfl,hb1⟩;rw[hd]);(try go_wp2_with fail);refine tr hK (fun hHeld=> ?_) (hHeld.trans (hb1.mono hHeld.size));clear hK K)
   refine tq 2 hHeld ?_
   refine tn 3 hHeld ?_
   refine tn 4 hHeld ?_
   refine tn 5 hHeld ?_
   refine tn 6 hHeld ?_
   refine tn 7 hHeld ?_
   refine tq 8 hHeld ?_
   refine tq 9 hHeld ?_
   refine wpAnyH_done (by kernel_rfl) ?_ _
   go_wp2_with fail
   go_ret
   exact⟨ret_bool (by simp),hE.trans (hHeld.mono (by omega))⟩
 | false=>
   go_enter Tryz.func185,Tryz.ntmps185
   go_upto_region 1 with fail
   have hE:Below w.heap.size w ((w.alloc (.cells #[.int .i64 (k:Int),.pointer (some ⟨cb,0,none⟩)] 59)).alloc (.cells #[.int .i64 p,.int .i64 q] 66)):=bel_a
   have c0:((w.alloc (.cells #[.int .i64 (k:Int),.pointer (some ⟨cb,0,none⟩)] 59)).alloc (.cells #[.int .i64 p,.int .i64 q] 66)).cell? ⟨w.heap.size,0,none⟩=some (.int .i64 (k:Int)):=by go_simp
   have c1:((w.alloc (.cells #[.int .i64 (k:Int),.pointer (some ⟨cb,0,none⟩)] 59)).alloc (.cells #[.int .i64 p,.int .i64 q] 66)).cell? ⟨w.heap.size,1,none⟩=some (.pointer (some ⟨cb,0,none⟩)):=by go_simp
   have c2:((w.alloc (.cells #[.int .i64 (k:Int),.pointer (some ⟨cb,0,none⟩)] 59)).alloc (.cells #[.int .i64 p,.int .i64 q] 66)).cell? ⟨w.heap.size+1,0,none⟩=some (.int .i64 p):=by go_simp
   have c3:((w.alloc (.cells #[.int .i64 (k:Int),.pointer (some ⟨cb,0,none⟩)] 59)).alloc (.cells #[.int .i64 p,.int .i64 q] 66)).cell? ⟨w.heap.size+1,1,none⟩=some (.int .i64 q):=by go_simp
   have hz:w.heap.size≤((w.alloc (.cells #[.int .i64 (k:Int),.pointer (some ⟨cb,0,none⟩)] 59)).alloc (.cells #[.int .i64 p,.int .i64 q] 66)).heap.size:=by simp;omega
   generalize ((w.alloc (.cells #[.int .i64 (k:Int),.pointer (some ⟨cb,0,none⟩)] 59)).alloc (.cells #[.int .i64 p,.int .i64 q] 66))=w0 at hE c0 c1 c2 c3 hz ⊢
   have FF:∀ w',Below w0.heap.size w0 w'→w'.cell? ⟨w.heap.size,0,none⟩=some (.int .i64 (k:Int))∧w'.cell? ⟨w.heap.size,1,none⟩=some (.pointer (some ⟨cb,0,none⟩))∧w'.cell? ⟨w.heap.size+1,0,none⟩=some (.int .i64 p)∧w'.cell? ⟨w.heap.size+1,1,none⟩=some (.int .i64 q):=fun w' s=>⟨keepk s c0,keepk s c1,keepk s c2,keepk s c3⟩
   refine wp_region_held_drew (S:=fun w'=>Below w0.heap.size w0 w') (by kernel_rfl) ((Below.refl _ _).drew) (fun hHeld=> ?_)
   refine tq 0 hHeld ?_ (hv:=by(intro w' s;obtain⟨q1,q2,q3,q4⟩:=FF w' s;go_simp;(try with_reducible rfl)))
   refine tc 1 fun K hK=> ?_
   (go_simp;(go_at_call 51;refine(kFixed (h.below (hE.trans (hHeld.mono (by omega))))).mono ?_;rintro e w1 ⟨rfl,hb1⟩;rw[hd]);(try go_wp2_with fail);refine tr hK (fun hHeld=> ?_) (hHeld.trans (hb1.mono hHeld.size));clear hK K)
   refine tq 2 hHeld ?_
   refine tq 3 hHeld ?_ (hv:=by(intro w' s;obtain⟨q1,q2,q3,q4⟩:=FF w' s;go_simp;(try with_reducible rfl)))
   refine tq 5 hHeld ?_ (hv:=by(intro w' s;obtain⟨q1,q2,q3,q4⟩:=FF w' s;go_simp;(try with_reducible rfl)))
   refine tc 4 fun K hK=> ?_
   (go_simp;(go_at_call 31;refine(kDrive (h.below (hE.trans (hHeld.mono (by omega))))).mono ?_;rintro e w2 ⟨rfl,hb2⟩);(try go_wp2_with fail);refine tr hK (fun hHeld=> ?_) (hHeld.trans (hb2.mono hHeld.size));clear hK K)
   refine tc 6 fun K hK=> ?_
   (go_simp;(go_at_call 30;refine(plus_any _ _ _ _ _ (by omega) (by omega) (by omega) (by omega)).mono ?_;rintro e w3 ⟨rfl,hb3⟩);(try go_wp2_with fail);refine tr hK (fun hHeld=> ?_) (hHeld.trans (hb3.mono hHeld.size));clear hK K)
   refine tc 7 fun K hK=> ?_
   (go_simp;(go_at_call 88;refine(within2_q _ _ _ _ _ (by omega) (by omega) eI).mono ?_;rintro e w4 ⟨rfl,hb4⟩);(try go_wp2_with fail);refine tr hK (fun hHeld=> ?_) (hHeld.trans (hb4.mono hHeld.size));clear hK K)
   refine tq 8 hHeld ?_
   refine tq 9 hHeld ?_
   refine wpAnyH_done (by kernel_rfl) ?_ _
   go_wp2_with fail
   go_ret
   exact⟨ret_bool (by rw[Bool.false_or,eI]),hE.trans (hHeld.mono (by omega))⟩
theorem kPushU {cb n k:Nat} {U:Nat→Int} {S:Nat→Value} {w:World} (h:Cs w cb n (colOf U) S) (hk:k<n) (hn:n≤1048576) (p q:Int) (b6: -20000000≤U (k*12+6)∧U (k*12+6)≤20000000) (b7: -20000000≤U (k*12+7)∧U (k*12+7)≤20000000) (bp: -20000000≤p∧p≤20000000) (bq: -20000000≤q∧q≤20000000):
 Calls Tryz.prog 186 #[hdk cb k,vv p q] w fun e w'=>e= .returned (.tuple #[])∧Cs w' cb n (colOf (putRow U k (pushV (fun j=>U (k*12+j)) p q))) S∧Fr (Xc S) w w':=by
 refine(kPush h hk hn p q b6 b7 (by omega) (by omega)).mono ?_
 rintro e w1 ⟨rfl,hC,hF⟩
 refine⟨rfl,hC.congr fun i j hi hj=> ?_,hF⟩
 rw[col_put hi]
 by_cases e:j=k
 · subst e
   rw[if_pos rfl]
   exact congrFun (pushC_V (colOf U) j p q) i
 · rw[if_neg e]
   unfold pushC setC
   split
   · rfl
   · simp only[e,and_false,if_false]
theorem oneU_no {U:Nat→Int} {A B:Nat} {x y P Q:Int} {bo:Bool} (hP:puX (fun j=>U (A*12+j)) (fun j=>U (B*12+j)) x y bo=P) (hQ:puY (fun j=>U (A*12+j)) (fun j=>U (B*12+j)) x y bo=Q) (h:((P==0&&Q==0)|| !fitsB (fun j=>U (A*12+j)) (fun j=>U (B*12+j)) P Q)=true):oneU U A B x y bo=U:=by
 unfold oneU
 rw[hP,hQ,h];rfl
theorem oneU_yes {U:Nat→Int} {A B:Nat} {x y P Q:Int} {bo:Bool} (hP:puX (fun j=>U (A*12+j)) (fun j=>U (B*12+j)) x y bo=P) (hQ:puY (fun j=>U (A*12+j)) (fun j=>U (B*12+j)) x y bo=Q) (h:((P==0&&Q==0)|| !fitsB (fun j=>U (A*12+j)) (fun j=>U (B*12+j)) P Q)=false):oneU U A B x y bo=putRow (putRow U A (pushV (fun j=>U (A*12+j)) (-P) (-Q))) B (pushV (fun j=>U (B*12+j)) P Q):=by
 unfold oneU
 rw[hP,hQ,h];rfl
theorem mPush {cb n A B:Nat} {U:Nat→Int} {S:Nat→Value} {w:World} (x y d:Int) (bo:Bool) (h:Cs w cb n (colOf U) S) (hn:n≤1048576) (hAn:A<n) (hBn:B<n) (hAB:A≠B) (oA:BOk (fun j=>U (A*12+j))) (oB:BOk (fun j=>U (B*12+j))) (hX: -256≤x∧x≤256) (hY: -256≤y∧y≤256):
 Calls Tryz.prog 171 #[.agg #[.bool bo],(.agg #[.int .i64 x,.int .i64 y,.int .i64 d,.int .i64 (A:Int),.pointer (some ⟨cb,0,none⟩),.int .i64 (B:Int),.pointer (some ⟨cb,0,none⟩)])] w fun e w'=>e= .returned (.tuple #[])∧Cs w' cb n (colOf (oneU U A B x y bo)) S∧Fr (Xc S) w w':=by
 have hset:=cset_map
 have hx:∀ b,w.heap.size≤b→¬ Xc S b:=fun b hb x=>by have:=(h.xlt x).2;omega
 obtain⟨P,hP⟩:∃ P,puX (fun j=>U (A*12+j)) (fun j=>U (B*12+j)) x y bo=P:=⟨_,rfl⟩
 obtain⟨Q,hQ⟩:∃ Q,puY (fun j=>U (A*12+j)) (fun j=>U (B*12+j)) x y bo=Q:=⟨_,rfl⟩
 have bP: -20000000≤P∧P≤20000000:=hP▸puX_bd _ _ _ _ _
 have bQ: -20000000≤Q∧Q≤20000000:=hQ▸puY_bd _ _ _ _ _
 have pu:∀ w',Below w.heap.size w w'→Calls Tryz.prog 184 #[(.agg #[.int .i64 x,.int .i64 y,.int .i64 d,.int .i64 (A:Int),.pointer (some ⟨cb,0,none⟩),.int .i64 (B:Int),.pointer (some ⟨cb,0,none⟩)]),.bool bo] w' fun e w''=>e= .returned (vv P Q)∧Below w'.heap.size w' w'':=fun w' hb=>by
  have hC:=h.below hb
  have:=kPushed (fun j=>U (A*12+j)) (fun j=>U (B*12+j)) x y d cb n A B (gOf S) (gOf S) bo w' (hC.hat hAn hn) (hC.hat hBn hn) oA.m8 oB.m8 oA.d6 oA.d7 oB.d6 oB.d7 hX hY oA.b9 oB.b9 oA.r10 oB.r10
  rw[hP,hQ] at this
  exact this
 have ba:∀ w',Below w.heap.size w w'→Calls Tryz.prog 185 #[hdk cb A,vv (-P) (-Q)] w' fun e w''=>e= .returned (.bool (decide (U (A*12+8)=0)||inB 20000000 (U (A*12+6)-P) (U (A*12+7)-Q)))∧Below w'.heap.size w' w'':=fun w' hb=>by
  have:=kBears ((h.below hb).hat hAn hn) (-P) (-Q) oA.d6 oA.d7 (by omega) (by omega)
  exact this
 have bb:∀ w',Below w.heap.size w w'→Calls Tryz.prog 185 #[hdk cb B,vv P Q] w' fun e w''=>e= .returned (.bool (decide (U (B*12+8)=0)||inB 20000000 (U (B*12+6)+P) (U (B*12+7)+Q)))∧Below w'.heap.size w' w'':=fun w' hb=>by
  have:=kBears ((h.below hb).hat hBn hn) P Q oB.d6 oB.d7 (by omega) (by omega)
  exact this
 obtain⟨fa,hfa⟩:∃ f,(decide (U (A*12+8)=0)||inB 20000000 (U (A*12+6)-P) (U (A*12+7)-Q))=f:=⟨_,rfl⟩
 obtain⟨fb,hfb⟩:∃ f,(decide (U (B*12+8)=0)||inB 20000000 (U (B*12+6)+P) (U (B*12+7)+Q))=f:=⟨_,rfl⟩
 have hfit:fitsB (fun j=>U (A*12+j)) (fun j=>U (B*12+j)) P Q=(fa&&fb):=by unfold fitsB;rw[←hfa,←hfb]
 rw[hfa] at ba
 rw[hfb] at bb
 obtain⟨z,hz0⟩:∃ z,(P==0&&Q==0)=z:=⟨_,rfl⟩
 have heq:=eq_way0 P Q 0 0
 rw[hz0] at heq
 go_enter Tryz.func171,Tryz.ntmps171
 go_upto_region 1 with fail
 have hE:Below w.heap.size w ((w.alloc (.cells #[.bool bo] 237)).alloc (.cells #[.int .i64 x,.int .i64 y,.int .i64 d,.int .i64 (A:Int),.pointer (some ⟨cb,0,none⟩),.int .i64 (B:Int),.pointer (some ⟨cb,0,none⟩)] 231)):=bel_a
 have hcs:((w.alloc (.cells #[.bool bo] 237)).alloc (.cells #[.int .i64 x,.int .i64 y,.int .i64 d,.int .i64 (A:Int),.pointer (some ⟨cb,0,none⟩),.int .i64 (B:Int),.pointer (some ⟨cb,0,none⟩)] 231)).cell? ⟨w.heap.size,0,none⟩=some (.bool bo)∧((w.alloc (.cells #[.bool bo] 237)).alloc (.cells #[.int .i64 x,.int .i64 y,.int .i64 d,.int .i64 (A:Int),.pointer (some ⟨cb,0,none⟩),.int .i64 (B:Int),.pointer (some ⟨cb,0,none⟩)] 231)).cell? ⟨w.heap.size+1,0,none⟩=some (.int .i64 x)∧((w.alloc (.cells #[.bool bo] 237)).alloc (.cells #[.int .i64 x,.int .i64 y,.int .i64 d,.int .i64 (A:Int),.pointer (some ⟨cb,0,none⟩),.int .i64 (B:Int),.pointer (some ⟨cb,0,none⟩)] 231)).cell? ⟨w.heap.size+1,1,none⟩=some (.int .i64 y)∧((w.alloc (.cells #[.bool bo] 237)).alloc (.cells #[.int .i64 x,.int .i64 y,.int .i64 d,.int .i64 (A:Int),.pointer (some ⟨cb,0,none⟩),.int .i64 (B:Int),.pointer (some ⟨cb,0,none⟩)] 231)).cell? ⟨w.heap.size+1,2,none⟩=some (.int .i64 d)∧((w.alloc (.cells #[.bool bo] 237)).alloc (.cells #[.int .i64 x,.int .i64 y,.int .i64 d,.int .i64 (A:Int),.pointer (some ⟨cb,0,none⟩),.int .i64 (B:Int),.pointer (some ⟨cb,0,none⟩)] 231)).cell? ⟨w.heap.size+1,3,none⟩=some (.int .i64 (A:Int))∧((w.alloc (.cells #[.bool bo] 237)).alloc (.cells #[.int .i64 x,.int .i64 y,.int .i64 d,.int .i64 (A:Int),.pointer (some ⟨cb,0,none⟩),.int .i64 (B:Int),.pointer (some ⟨cb,0,none⟩)] 231)).cell? ⟨w.heap.size+1,4,none⟩=some (.pointer (some ⟨cb,0,none⟩))∧((w.alloc (.cells #[.bool bo] 237)).alloc (.cells #[.int .i64 x,.int .i64 y,.int .i64 d,.int .i64 (A:Int),.pointer (some ⟨cb,0,none⟩),.int .i64 (B:Int),.pointer (some ⟨cb,0,none⟩)] 231)).cell? ⟨w.heap.size+1,5,none⟩=some (.int .i64 (B:Int))∧((w.alloc (.cells #[.bool bo] 237)).alloc (.cells #[.int .i64 x,.int .i64 y,.int .i64 d,.int .i64 (A:Int),.pointer (some ⟨cb,0,none⟩),.int .i64 (B:Int),.pointer (some ⟨cb,0,none⟩)] 231)).cell? ⟨w.heap.size+1,6,none⟩=some (.pointer (some ⟨cb,0,none⟩)):=⟨by go_simp,by go_simp,by go_simp,by go_simp,by go_simp,by go_simp,by go_simp,by go_simp⟩
 have hz:((w.alloc (.cells #[.bool bo] 237)).alloc (.cells #[.int .i64 x,.int .i64 y,.int .i64 d,.int .i64 (A:Int),.pointer (some ⟨cb,0,none⟩),.int .i64 (B:Int),.pointer (some ⟨cb,0,none⟩)] 231)).heap.size=w.heap.size+1+1:=by simp
 generalize ((w.alloc (.cells #[.bool bo] 237)).alloc (.cells #[.int .i64 x,.int .i64 y,.int .i64 d,.int .i64 (A:Int),.pointer (some ⟨cb,0,none⟩),.int .i64 (B:Int),.pointer (some ⟨cb,0,none⟩)] 231))=w0 at hE hcs hz ⊢
 go_cut [4] (fun s wc=>∃ t,s= .pointer (some ⟨t,0,none⟩)∧w.heap.size≤t∧Below w.heap.size w wc∧wc.cell? ⟨t,0,none⟩=some (.int .i64 P)∧wc.cell? ⟨t,1,none⟩=some (.int .i64 Q)∧wc.cell? ⟨w.heap.size,0,none⟩=some (.bool bo)∧wc.cell? ⟨w.heap.size+1,0,none⟩=some (.int .i64 x)∧wc.cell? ⟨w.heap.size+1,1,none⟩=some (.int .i64 y)∧wc.cell? ⟨w.heap.size+1,2,none⟩=some (.int .i64 d)∧wc.cell? ⟨w.heap.size+1,3,none⟩=some (.int .i64 (A:Int))∧wc.cell? ⟨w.heap.size+1,4,none⟩=some (.pointer (some ⟨cb,0,none⟩))∧wc.cell? ⟨w.heap.size+1,5,none⟩=some (.int .i64 (B:Int))∧wc.cell? ⟨w.heap.size+1,6,none⟩=some (.pointer (some ⟨cb,0,none⟩)))
 case first=>
  obtain⟨m0,m1,m2,m3,m4,m5,m6,m7⟩:=hcs
  go_wp2_with (go_at_call 184;refine(pu _ hE).mono ?_;rintro e w1 ⟨rfl,hb1⟩)
  go_meet
  have hE1:Below w1.heap.size w1 (w1.alloc (.cells #[.int .i64 P,.int .i64 Q] 66)):=(Below.refl _ _).alloc (Nat.le_refl _) _
  have hb1':Below w0.heap.size w0 (w1.alloc (.cells #[.int .i64 P,.int .i64 Q] 66)):=hb1.trans (hE1.mono hb1.size)
  exact⟨_,rfl,by have:=hb1.size;omega,hE.trans (hb1'.mono (by omega)),by go_simp,by go_simp,keepk hb1' m0,keepk hb1' m1,keepk hb1' m2,keepk hb1' m3,keepk hb1' m4,keepk hb1' m5,keepk hb1' m6,keepk hb1' m7⟩
 case rest=>
 clear hcs
 obtain⟨t,rfl,ht,hB,t0,t1,m0,m1,m2,m3,m4,m5,m6,m7⟩:=hcut
 obtain⟨w2,rfl⟩:∃ x,x=wc:=⟨_,rfl⟩
 have hs2:=hB.size
 go_upto_region 2 with fail
 go_cut [5] (fun s wc=>∃ r,s= .pointer (some ⟨r,0,none⟩)∧Below w2.heap.size w2 wc∧wc.cell? ⟨r,0,none⟩=some (.int .i64 (-P))∧wc.cell? ⟨r,1,none⟩=some (.int .i64 (-Q)))
 case first=>
  go_wp2_with fail
  refine(opp_z _ _ _ (by omega) (by omega)).mono ?_;rintro e w1 ⟨rfl,hb1⟩
  go_wp2_with fail
  go_meet
  exact⟨_,rfl,hb1.trans ((Below.refl _ _).alloc hb1.size _),by go_simp,by go_simp⟩
 case rest=>
 obtain⟨r,rfl,hB3,r0,r1⟩:=hcut
 obtain⟨w3,rfl⟩:∃ x,x=wc:=⟨_,rfl⟩
 have hBw:Below w.heap.size w w3:=hB.trans (hB3.mono hs2)
 replace t0:=keepk hB3 t0
 replace t1:=keepk hB3 t1
 replace m0:=keepk hB3 m0
 replace m1:=keepk hB3 m1
 replace m2:=keepk hB3 m2
 replace m3:=keepk hB3 m3
 replace m4:=keepk hB3 m4
 replace m5:=keepk hB3 m5
 replace m6:=keepk hB3 m6
 replace m7:=keepk hB3 m7
 clear hB hB3 hE hz
 go_upto_region 3 with fail
 go_cut [28] (fun s wc=>s= .bool (z|| !(fa&&fb))∧Below w3.heap.size w3 wc)
 case first=>
  clear hP hQ hz0 hfa hfb hfit oA oB bP bQ hX hY pu hx h hs2 ht
  cases z with
  | true=>
    go_wp2_with fail
    go_meet
    exact⟨rfl,Below.refl _ _⟩
  | false=>
    cases fa with
    | false=>
      go_wp2_with (go_at_call 185;refine(ba _ hBw).mono ?_;rintro e w1 ⟨rfl,hb1⟩)
      go_meet
      exact⟨rfl,hb1⟩
    | true=>
      go_wp2_with (first
       |(have _:=hb1;go_at_call 185;refine(bb _ (hBw.trans (hb1.mono hBw.size))).mono ?_;rintro e w4 ⟨rfl,hb4⟩)
       |(go_at_call 185;refine(ba _ hBw).mono ?_;rintro e w1 ⟨rfl,hb1⟩;have t01:=keepk hb1 t0;have t11:=keepk hb1 t1;have m51:=keepk hb1 m6;have m61:=keepk hb1 m7))
      go_meet
      exact⟨(by cases fb<;>rfl),hb1.trans (hb4.mono hb1.size)⟩
 case rest=>
 obtain⟨rfl,hB4⟩:=hcut
 obtain⟨w4,rfl⟩:∃ x,x=wc:=⟨_,rfl⟩
 replace t0:=keepk hB4 t0
 replace t1:=keepk hB4 t1
 replace r0:=keepk hB4 r0
 replace r1:=keepk hB4 r1
 replace m0:=keepk hB4 m0
 replace m1:=keepk hB4 m1
 replace m2:=keepk hB4 m2
 replace m3:=keepk hB4 m3
 replace m4:=keepk hB4 m4
 replace m5:=keepk hB4 m5
 replace m6:=keepk hB4 m6
 replace m7:=keepk hB4 m7
 have hB5:Below w.heap.size w w4:=hBw.trans (hB4.mono hBw.size)
 have hC4:=h.below hB5
 clear ba bb pu heq
 cases hsk:(z|| !(fa&&fb)) with
 | true=>
   have hno:=oneU_no hP hQ (by rw[hz0,hfit];exact hsk)
   go_wp2_with fail
   refine bodyPost_ret (results_none rfl _ _ _) rfl ?_
   exact⟨rfl,by rw[hno];exact hC4,Fr.of_below hB5⟩
 | false=>
   have hye:=oneU_yes hP hQ (by rw[hz0,hfit];exact hsk)
   have hlt:w.heap.size+1<w4.heap.size:=cell_lt m1
   have htl:=cell_lt t0
   have hrl:=cell_lt r0
   simp only at htl hrl
   have nx:∀ b,w.heap.size≤b→¬ Xc S b:=hx
   have htn:¬ Xc S t:=hx t ht
   have hmn:¬ Xc S (w.heap.size+1):=hx _ (by omega)
   obtain⟨U1,hU1⟩:∃ U1,putRow U A (pushV (fun j=>U (A*12+j)) (-P) (-Q))=U1:=⟨_,rfl⟩
   have row:∀ j,j<12→U1 (B*12+j)=U (B*12+j):=hU1▸row_else (Ne.symm hAB)
   have hrw:Shut (putRow U1 B (pushV (fun j=>U1 (B*12+j)) P Q)=oneU U A B x y bo):=by
    show _=_
    rw[hye,hU1]
    refine putRow_congr fun j hj=> ?_
    unfold pushV setV
    simp only[row 8 (by omega),row 6 (by omega),row 7 (by omega)]
    split
    · exact row j hj
    · simp only[row j hj]
   have d6: -20000000≤U1 (B*12+6)∧U1 (B*12+6)≤20000000:=by rw[row 6 (by omega)];exact oB.d6
   have d7: -20000000≤U1 (B*12+7)∧U1 (B*12+7)≤20000000:=by rw[row 7 (by omega)];exact oB.d7
   have a6:=oA.d6
   have a7:=oA.d7
   have kp:∀ w',Cs w' cb n (colOf U) S→Calls Tryz.prog 186 #[hdk cb A,vv (-P) (-Q)] w' fun e w''=>e= .returned (.tuple #[])∧Cs w'' cb n (colOf U1) S∧Fr (Xc S) w' w'':=fun w' hc=>hU1▸kPushU hc hAn hn (-P) (-Q) a6 a7 (by omega) (by omega)
   have kq:∀ w',Cs w' cb n (colOf U1) S→Calls Tryz.prog 186 #[hdk cb B,vv P Q] w' fun e w''=>e= .returned (.tuple #[])∧Cs w'' cb n (colOf (putRow U1 B (pushV (fun j=>U1 (B*12+j)) P Q))) S∧Fr (Xc S) w' w'':=fun w' hc=>kPushU hc hBn hn P Q d6 d7 bP bQ
   obtain⟨U2,hU2⟩:∃ U2,putRow U1 B (pushV (fun j=>U1 (B*12+j)) P Q)=U2:=⟨_,rfl⟩
   rw[hU2] at kq
   have hrw2:Shut (U2=oneU U A B x y bo):=by show _=_;rw[←hU2];exact hrw.out
   clear hrw hU1 hU2 row hye d6 d7 a6 a7 hP hQ hz0 hfa hfb hfit hsk nx oA oB bP bQ hX hY hAB h
   go_wp2_with (first
    |(have _:=hF5;go_at_call 186;refine(kq _ hC5).mono ?_;rintro e w6 ⟨rfl,hC6,hF6⟩)
    |(go_at_call 186;refine(kp _ hC4).mono ?_;rintro e w5 ⟨rfl,hC5,hF5⟩;have t05:=(hF5.cell (p:=⟨t,0,none⟩) htl htn).trans t0;have t15:=(hF5.cell (p:=⟨t,1,none⟩) htl htn).trans t1;have m55:=(hF5.cell (p:=⟨w.heap.size+1,5,none⟩) hlt hmn).trans m6;have m65:=(hF5.cell (p:=⟨w.heap.size+1,6,none⟩) hlt hmn).trans m7))
   go_end0
   exact⟨rfl,hrw2.out▸hC6,(Fr.of_below hB5).trans (hF5.trans hF6)⟩
end Go.Proofs.YthajilkjfkppoaaGreatDoor
