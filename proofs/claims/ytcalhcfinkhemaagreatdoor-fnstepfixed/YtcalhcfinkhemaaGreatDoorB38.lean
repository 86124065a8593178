/- Texts of a proof. -/
import Derived.Test.YtcalhcfinkhemaaGreatDoorB5
import Derived.Test.YtcalhcfinkhemaaGreatDoorB4
import Derived.Test.YtcalhcfinkhemaaGreatDoorB1
import Derived.Test.YtcalhcfinkhemaaGreatDoorB24
import Derived.Test.YtcalhcfinkhemaaGreatDoorB18
import Derived.Test.YtcalhcfinkhemaaGreatDoorB11
import Derived.Deep.RegionHeld3
import Derived.Deep.DeepCutAuto
import Derived.Test.YtcalhcfinkhemaaGreatDoorB21
import Derived.Test.YtcalhcfinkhemaaGreatDoorB8
import Derived.Test.YtcalhcfinkhemaaGreatDoorB9
import Derived.Test.YtcalhcfinkhemaaGreatDoorS7a
import Derived.Test.YtcalhcfinkhemaaGreatDoorB37
import Derived.Test.YtcalhcfinkhemaaGreatDoorB2
import Derived.Test.YtcalhcfinkhemaaGreatDoorB15
import Derived.Test.YtcalhcfinkhemaaGreatDoorB14
import Derived.Test.YtcalhcfinkhemaaGreatDoorB22
import Derived.Test.YtcalhcfinkhemaaGreatDoorB19
import Derived.Test.YtcalhcfinkhemaaGreatDoorS9q
import Derived.Test.YtcalhcfinkhemaaGreatDoorB16
import Derived.Test.YtcalhcfinkhemaaGreatDoorB12
import Derived.Test.YtcalhcfinkhemaaGreatDoorB30
import Derived.Test.YtcalhcfinkhemaaGreatDoorB32
set_option maxHeartbeats 16000000
set_option maxRecDepth 20000
namespace Go.Proofs.YtcalhcfinkhemaaGreatDoor
open Go.RowKit
set_option linter.unusedVariables false
set_option linter.unusedSimpArgs false
theorem kSpeed {cb n k:Nat} {V:Nat→Int} {G:Nat→Nat} {w:World} (h:HAt w cb n k V G) (b6: -20000000≤V 6∧V 6≤20000000) (b7: -20000000≤V 7∧V 7≤20000000):
 Calls Tryz.prog 149 #[hdk cb k] w fun e w'=>e= .returned (vv (spX V) (spY V))∧Below w.heap.size w w':=by
 have t6:=tdiv_bd (x:=V 6) (B:=20000000) (V 8) (by omega)
 have t7:=tdiv_bd (x:=V 7) (B:=20000000) (V 8) (by omega)
 have e6:IntKind.i64.wrap ((V 6).tdiv (V 8))=(V 6).tdiv (V 8):=i64w (by omega)
 have e7:IntKind.i64.wrap ((V 7).tdiv (V 8))=(V 7).tdiv (V 8):=i64w (by omega)
 have hset:=cset_map
 have l1:=h.cbl
 unfold spX spY
 by_cases m:V 8=0
 · rw[if_pos m,if_pos m]
   go_enter Tryz.func149,Tryz.ntmps149
   go_wp2_with (go_at_call 58;refine(kFixed (h.below (by exact bel_a))).mono ?_;rintro e w1 ⟨rfl,hb1⟩;have hz1:=hb1.size;(try simp only[zz] at hz1);have:=kf2 hb1 w.heap.size)
   exact bodyPost_ret (v:=vv 0 0) (by simp[results,Tryz.results149,go_sem, *]) rfl ⟨rfl,bel_a⟩
 · rw[if_neg m,if_neg m]
   go_enter Tryz.func149,Tryz.ntmps149
   go_upto_region 4 with(first
    |(go_at_call 86;refine(kDrive (h.below (by exact bel_a))).mono ?_;rintro e w2 ⟨rfl,hb2⟩;have hz2:=hb2.size;(try simp only[zz] at hz2);have:=kf2 hb2 w.heap.size)
    |(go_at_call 58;refine(kFixed (h.below (by exact bel_a))).mono ?_;rintro e w1 ⟨rfl,hb1⟩;have hz1:=hb1.size;(try simp only[zz] at hz1);have:=kf2 hb1 w.heap.size))
   refine wp_region_held_drew (S:=fun w'=>w'.cell? ⟨w.heap.size,0,none⟩=some (.int .i64 (k:Int))∧w'.cell? ⟨w.heap.size,1,none⟩=some (.pointer (some ⟨cb,0,none⟩))∧w'.cell? ⟨w2.heap.size,0,none⟩=some (.int .i64 (V 6))∧w'.cell? ⟨w2.heap.size,1,none⟩=some (.int .i64 (V 7))) (by kernel_rfl) ?_ (fun hHeld=> ?_)
   · (try dsimp only)
     (first|(go_simp;done)|(go_keep;done))
   refine tq 0 hHeld ?_
   refine tq 1 hHeld ?_
   refine tq 2 hHeld ?_
   refine tq 5 hHeld ?_
   refine tq 6 hHeld ?_
   refine tq 7 hHeld ?_
   (refine tc 3 fun K hK=> ?_;go_simp;(go_at_call 87;refine(kMass (h.below (by exact bel_a))).mono ?_;rintro e w3 ⟨rfl,hb3⟩;have hz3:=hb3.size;(try simp only[zz] at hz3);have:=kf2 hb3 w.heap.size;have:=kfa hb3 w2.heap.size);(try go_wp2_with fail);refine tr hK (fun hHeld=> ?_);clear hK K)
   refine tq 4 hHeld ?_
   (refine tc 8 fun K hK=> ?_;go_simp;(go_at_call 87;refine(kMass (h.below (by exact bel_a))).mono ?_;rintro e w4 ⟨rfl,hb4⟩;have hz4:=hb4.size;(try simp only[zz] at hz4);have:=kf2 hb4 w.heap.size;have:=kfa hb4 w2.heap.size);(try go_wp2_with fail);refine tr hK (fun hHeld=> ?_);clear hK K)
   refine tq 9 hHeld ?_
   refine tq 10 hHeld ?_
   (refine tc 11 fun K hK=> ?_;go_simp;refine tr hK (fun hHeld=> ?_);clear hK K)
   refine wpAnyH_done (by kernel_rfl) ?_ _
   go_wp2_with fail
   exact bodyPost_ret (v:=vv ((V 6).tdiv (V 8)) ((V 7).tdiv (V 8))) (by simp[results,Tryz.results149,go_sem, *]) rfl ⟨rfl,bel_a⟩
theorem kNearing (V1 V2:Nat→Int) (x y k:Int) (cb nn i j:Nat) (G1 G2:Nat→Nat) (w:World) (h1:HAt w cb nn i V1 G1) (h2:HAt w cb nn j V2 G2) (b6: -20000000≤V1 6∧V1 6≤20000000) (b7: -20000000≤V1 7∧V1 7≤20000000) (d6: -20000000≤V2 6∧V2 6≤20000000) (d7: -20000000≤V2 7∧V2 7≤20000000):
 Calls Tryz.prog 191 #[(.agg #[.int .i64 x,.int .i64 y,.int .i64 k,.int .i64 (i:Int),.pointer (some ⟨cb,0,none⟩),.int .i64 (j:Int),.pointer (some ⟨cb,0,none⟩)])] w fun e w'=>e= .returned (vv (spX V1-spX V2) (spY V1-spY V2))∧Below w.heap.size w w':=by
 have hset:=cset_map
 have sx1:=spX_bd V1 b6
 have sy1:=spY_bd V1 b7
 have sx2:=spX_bd V2 d6
 have sy2:=spY_bd V2 d7
 have l1:=h1.cbl
 have l2:=h2.cbl
 go_enter Tryz.func191,Tryz.ntmps191
 go_upto_region 1 with fail
 refine wp_region_held_drew (S:=fun w'=>w'.cell? ⟨w.heap.size,0,none⟩=some (.int .i64 x)∧w'.cell? ⟨w.heap.size,1,none⟩=some (.int .i64 y)∧w'.cell? ⟨w.heap.size,2,none⟩=some (.int .i64 k)∧w'.cell? ⟨w.heap.size,3,none⟩=some (.int .i64 (i:Int))∧w'.cell? ⟨w.heap.size,4,none⟩=some (.pointer (some ⟨cb,0,none⟩))∧w'.cell? ⟨w.heap.size,5,none⟩=some (.int .i64 (j:Int))∧w'.cell? ⟨w.heap.size,6,none⟩=some (.pointer (some ⟨cb,0,none⟩))) (by kernel_rfl) ?_ (fun hHeld=> ?_)
 · (try dsimp only)
   (first|(go_simp;done)|(go_keep;done))
 refine tq 0 hHeld ?_
 refine tq 1 hHeld ?_
 refine tq 3 hHeld ?_
 refine tq 4 hHeld ?_
 (refine tc 2 fun K hK=> ?_;go_simp;(go_at_call 149;refine(kSpeed (h1.below (by exact bel_a)) (by omega) (by omega)).mono ?_;rintro e w1 ⟨rfl,hb1⟩;have hz1:=hb1.size;(try simp only[zz] at hz1);have:=kf2 hb1 w.heap.size);(try go_wp2_with fail);refine tr hK (fun hHeld=> ?_);clear hK K)
 (refine tc 5 fun K hK=> ?_;go_simp;(go_at_call 149;refine(kSpeed (h2.below (by exact bel_a)) (by omega) (by omega)).mono ?_;rintro e w2 ⟨rfl,hb2⟩;have hz2:=hb2.size;(try simp only[zz] at hz2);have:=kf2 hb2 w.heap.size);(try go_wp2_with fail);refine tr hK (fun hHeld=> ?_);clear hK K)
 (refine tc 6 fun K hK=> ?_;go_simp;(go_at_call 143;refine(less_any _ _ _ _ _ (by omega) (by omega) (by omega) (by omega)).mono ?_;rintro e w3 ⟨rfl,hb3⟩;have hz3:=hb3.size;(try simp only[zz] at hz3);have:=kf2 hb3 w.heap.size);(try go_wp2_with fail);refine tr hK (fun hHeld=> ?_);clear hK K)
 (refine tc 7 fun K hK=> ?_;go_simp;refine tr hK (fun hHeld=> ?_);clear hK K)
 refine wpAnyH_done (by kernel_rfl) ?_ _
 go_wp2_with fail
 exact bodyPost_ret (v:=vv (spX V1-spX V2) (spY V1-spY V2)) (by simp[results,Tryz.results191,go_sem, *]) rfl ⟨rfl,bel_a⟩
theorem kClosing (V1 V2:Nat→Int) (x y k:Int) (cb nn i j:Nat) (G1 G2:Nat→Nat) (w:World) (h1:HAt w cb nn i V1 G1) (h2:HAt w cb nn j V2 G2) (b6: -20000000≤V1 6∧V1 6≤20000000) (b7: -20000000≤V1 7∧V1 7≤20000000) (d6: -20000000≤V2 6∧V2 6≤20000000) (d7: -20000000≤V2 7∧V2 7≤20000000) (bx: -256≤x∧x≤256) (bY: -256≤y∧y≤256):
 Calls Tryz.prog 189 #[(.agg #[.int .i64 x,.int .i64 y,.int .i64 k,.int .i64 (i:Int),.pointer (some ⟨cb,0,none⟩),.int .i64 (j:Int),.pointer (some ⟨cb,0,none⟩)])] w fun e w'=>e= .returned (.int .i64 (closeV V1 V2 x y))∧Below w.heap.size w w':=by
 have hset:=cset_map
 have sx1:=spX_bd V1 b6
 have sy1:=spY_bd V1 b7
 have sx2:=spX_bd V2 d6
 have sy2:=spY_bd V2 d7
 have l1:=h1.cbl
 have l2:=h2.cbl
 go_enter Tryz.func189,Tryz.ntmps189
 go_upto_region 1 with fail
 refine wp_region_held_drew (S:=fun w'=>w'.cell? ⟨w.heap.size,0,none⟩=some (.int .i64 x)∧w'.cell? ⟨w.heap.size,1,none⟩=some (.int .i64 y)∧w'.cell? ⟨w.heap.size,2,none⟩=some (.int .i64 k)∧w'.cell? ⟨w.heap.size,3,none⟩=some (.int .i64 (i:Int))∧w'.cell? ⟨w.heap.size,4,none⟩=some (.pointer (some ⟨cb,0,none⟩))∧w'.cell? ⟨w.heap.size,5,none⟩=some (.int .i64 (j:Int))∧w'.cell? ⟨w.heap.size,6,none⟩=some (.pointer (some ⟨cb,0,none⟩))) (by kernel_rfl) ?_ (fun hHeld=> ?_)
 · (try dsimp only)
   (first|(go_simp;done)|(go_keep;done))
 refine tq 0 hHeld ?_
 refine tq 2 hHeld ?_
 refine tq 3 hHeld ?_
 refine tq 4 hHeld ?_
 (refine tc 1 fun K hK=> ?_;go_simp;(go_at_call 191;refine(kNearing V1 V2 x y k cb nn i j G1 G2 _ (h1.below (by exact bel_a)) (h2.below (by exact bel_a)) (by omega) (by omega) (by omega) (by omega)).mono ?_;rintro e w1 ⟨rfl,hb1⟩;have hz1:=hb1.size;(try simp only[zz] at hz1);have:=kfa hb1 w.heap.size);(try go_wp2_with fail);refine tr hK (fun hHeld=> ?_);clear hK K)
 (refine tc 5 fun K hK=> ?_;go_simp;(go_at_call 192;refine(dot_any _ _ _ _ _ (by omega) (by omega) (by omega) (by omega)).mono ?_;rintro e w2 ⟨rfl,hb2⟩;have hz2:=hb2.size;(try simp only[zz] at hz2);have:=kfa hb2 w.heap.size);(try go_wp2_with fail);refine tr hK (fun hHeld=> ?_);clear hK K)
 refine tq 6 hHeld ?_
 refine wpAnyH_done (by kernel_rfl) ?_ _
 go_wp2_with fail
 go_ret
 exact⟨rfl,bel_a⟩
theorem kTogether (V1 V2:Nat→Int) (x y k:Int) (cb nn i j:Nat) (G1 G2:Nat→Nat) (n P:Int) (w:World) (h1:HAt w cb nn i V1 G1) (h2:HAt w cb nn j V2 G2) (a0:0≤V1 8∧V1 8≤1000) (a1:0≤V2 8∧V2 8≤1000) (bn: -1000000000≤n∧n≤1000000000) (eP:togV V1 V2 n=P):
 Calls Tryz.prog 190 #[(.agg #[.int .i64 x,.int .i64 y,.int .i64 k,.int .i64 (i:Int),.pointer (some ⟨cb,0,none⟩),.int .i64 (j:Int),.pointer (some ⟨cb,0,none⟩)]),.int .i64 n] w fun e w'=>e= .returned (.int .i64 P)∧Below w.heap.size w w':=by
 have hset:=cset_map
 subst eP
 have p1:=mul_bd (a:=n) (b:=V1 8+V2 8) (A:=1000000000) (B:=2000) (by omega) (by omega)
 have p2:=mul_bd (a:=n) (b:=V1 8) (A:=1000000000) (B:=1000) (by omega) (by omega)
 have p3:=mul_bd (a:=n*V1 8) (b:=V2 8) (A:=1000000000000) (B:=1000) (by omega) (by omega)
 have p4:=mul_bd (a:=n) (b:=V2 8) (A:=1000000000) (B:=1000) (by omega) (by omega)
 have p5:=tdiv_bd (x:=n*V1 8*V2 8) (B:=1000000000000000) (V1 8+V2 8) (by omega)
 have l1:=h1.cbl
 have l2:=h2.cbl
 unfold togV
 go_enter Tryz.func190,Tryz.ntmps190
 go_upto_region 1 with fail
 refine wp_region_held_drew (S:=fun w'=>w'.cell? ⟨w.heap.size,0,none⟩=some (.int .i64 x)∧w'.cell? ⟨w.heap.size,1,none⟩=some (.int .i64 y)∧w'.cell? ⟨w.heap.size,2,none⟩=some (.int .i64 k)∧w'.cell? ⟨w.heap.size,3,none⟩=some (.int .i64 (i:Int))∧w'.cell? ⟨w.heap.size,4,none⟩=some (.pointer (some ⟨cb,0,none⟩))∧w'.cell? ⟨w.heap.size,5,none⟩=some (.int .i64 (j:Int))∧w'.cell? ⟨w.heap.size,6,none⟩=some (.pointer (some ⟨cb,0,none⟩))) (by kernel_rfl) ?_ (fun hHeld=> ?_)
 · (try dsimp only)
   (first|(go_simp;done)|(go_keep;done))
 refine tq 0 hHeld ?_
 refine tq 1 hHeld ?_
 refine tq 3 hHeld ?_
 refine tq 4 hHeld ?_
 (refine tc 2 fun K hK=> ?_;go_simp;(go_at_call 87;refine(kMass (h1.below (by exact bel_a))).mono ?_;rintro e w1 ⟨rfl,hb1⟩;have hz1:=hb1.size;(try simp only[zz] at hz1);have:=kfa hb1 w.heap.size);(try go_wp2_with fail);refine tr hK (fun hHeld=> ?_);clear hK K)
 (refine tc 5 fun K hK=> ?_;go_simp;(go_at_call 87;refine(kMass (h2.below (by exact bel_a))).mono ?_;rintro e w2 ⟨rfl,hb2⟩;have hz2:=hb2.size;(try simp only[zz] at hz2);have:=kfa hb2 w.heap.size);(try go_wp2_with fail);refine tr hK (fun hHeld=> ?_);clear hK K)
 refine tq 6 hHeld ?_
 refine tq 7 hHeld ?_
 refine wpAnyH_done (by kernel_rfl) ?_ _
 by_cases z1:V1 8=0
 · go_wp2_with fail
   go_ret
   exact⟨ret_int (by first|rfl|(rw[if_pos (Or.inl z1)];simp[z1];done)),bel_a⟩
 · by_cases z2:V2 8=0
   · go_wp2_with fail
     go_ret
     exact⟨ret_int (by first|rfl|(rw[if_pos (Or.inr z2)];simp[z2];done)),bel_a⟩
   · have z3:(V1 8+V2 8=0)=False:=eq_false (by omega)
     have z1f:(V1 8==0)=false:=by simp[z1]
     have z2f:(V2 8==0)=false:=by simp[z2]
     go_wp2_with fail
     all_goals
      go_ret
      exact⟨ret_int (by first|rfl|(exfalso;simp_all;done)|(exfalso;simp at*;omega)),bel_a⟩
theorem col_put {U V:Nat→Int} {k i j:Nat} (hi:i<12):colOf (putRow U k V) i j=if j=k then V i else colOf U i j:=by
 unfold colOf putRow
 by_cases e:j=k
 · subst e;rw[if_pos (by omega),if_pos rfl,Nat.add_sub_cancel_left]
 · rw[if_neg (by omega),if_neg e]
theorem putRow_self (U:Nat→Int) (k:Nat):putRow U k (fun j=>U (k*12+j))=U:=by
 funext q
 unfold putRow
 by_cases e:k*12≤q∧q<k*12+12
 · rw[if_pos e];exact congrArg U (by omega)
 · rw[if_neg e]
theorem shareV_congr {V W V' W':Nat→Int} (m:Int) (h1:V 8=V' 8) (h2:W 8=W' 8):shareV V W m=shareV V' W' m:=by unfold shareV;rw[h1,h2]
theorem moveV_zero {V:Nat→Int} (a4: -2560000≤V 4∧V 4≤2560000) (a5: -2560000≤V 5∧V 5≤2560000):moveV V 0 0=V:=by
 have e4:clampZ 2560000 (V 4+0)=V 4:=by unfold clampZ;(repeat' split);all_goals omega
 have e5:clampZ 2560000 (V 5+0)=V 5:=by unfold clampZ;(repeat' split);all_goals omega
 unfold moveV mvX mvY
 rw[e4,e5,if_pos (by omega),if_pos (by omega)]
 funext j
 unfold setV
 repeat' split
 all_goals(first|rfl|(subst_vars;rfl))
theorem row_else {U V:Nat→Int} {k l:Nat} (h:l≠k):∀ j,j<12→putRow U k V (l*12+j)=U (l*12+j):=fun j hj=>putRow_else h hj
theorem row_is {U V:Nat→Int} {k:Nat}:∀ j,j<12→putRow U k V (k*12+j)=V j:=fun j hj=>by unfold putRow;rw[if_pos (by omega),Nat.add_sub_cancel_left]
theorem putRow_congr {U V W:Nat→Int} {k:Nat} (h:∀ j,j<12→V j=W j):putRow U k V=putRow U k W:=by
 funext q
 unfold putRow
 by_cases e:k*12≤q∧q<k*12+12
 · rw[if_pos e,if_pos e];exact h _ (by omega)
 · rw[if_neg e,if_neg e]
theorem moveV_congr {V W:Nat→Int} (p q:Int) (h:∀ j,j<12→V j=W j):∀ j,j<12→moveV V p q j=moveV W p q j:=fun j hj=>by
 unfold moveV mvX mvY setV
 rw[h 4 (by omega),h 5 (by omega),h 6 (by omega),h 7 (by omega),h j hj]
theorem apart_two {U:Nat→Int} {A B:Nat} {x y d p q r s:Int} (hAB:A≠B) (hA:BOk (fun j=>U (A*12+j))) (hB:BOk (fun j=>U (B*12+j))) (hm:0<(d-64).tdiv 4)
 (ep:(-x*shareV (fun j=>U (A*12+j)) (fun j=>U (B*12+j)) ((d-64).tdiv 4)).tdiv 256=p) (eq:(-y*shareV (fun j=>U (A*12+j)) (fun j=>U (B*12+j)) ((d-64).tdiv 4)).tdiv 256=q)
 (er:(x*shareV (fun j=>U (B*12+j)) (fun j=>U (A*12+j)) ((d-64).tdiv 4)).tdiv 256=r) (es:(y*shareV (fun j=>U (B*12+j)) (fun j=>U (A*12+j)) ((d-64).tdiv 4)).tdiv 256=s):
 putRow (putRow U A (moveV (fun j=>U (A*12+j)) p q)) B (moveV (fun j=>putRow U A (moveV (fun j=>U (A*12+j)) p q) (B*12+j)) r s)=apartU U A B x y d:=by
 have e1:putRow U A (moveV (fun j=>U (A*12+j)) p q)=bif decide (0<U (A*12+8)) then putRow U A (moveV (fun j=>U (A*12+j)) p q) else U:=by
  by_cases z:0<U (A*12+8)
  · rw[decide_eq_true z,cond_true]
  · rw[decide_eq_false z,cond_false]
    have z8:U (A*12+8)=0:=by have:=hA.m8;omega
    have s0:shareV (fun j=>U (A*12+j)) (fun j=>U (B*12+j)) ((d-64).tdiv 4)=0:=by unfold shareV;rw[show decide (U (A*12+8)=0)=true from decide_eq_true z8];rfl
    rw[s0,Int.mul_zero] at ep eq
    have p0:p=0:=ep.symm
    have q0:q=0:=eq.symm
    rw[p0,q0,moveV_zero hA.a4 hA.a5,putRow_self]
 have e2:∀ U1:Nat→Int,(∀ j,j<12→U1 (B*12+j)=U (B*12+j))→putRow U1 B (moveV (fun j=>U1 (B*12+j)) r s)=bif decide (0<U (B*12+8)) then putRow U1 B (moveV (fun j=>U (B*12+j)) r s) else U1:=by
  intro U1 h1
  by_cases z:0<U (B*12+8)
  · rw[decide_eq_true z,cond_true]
    exact putRow_congr (moveV_congr r s h1)
  · rw[decide_eq_false z,cond_false]
    have z8:U (B*12+8)=0:=by have:=hB.m8;omega
    have s0:shareV (fun j=>U (B*12+j)) (fun j=>U (A*12+j)) ((d-64).tdiv 4)=0:=by unfold shareV;rw[show decide (U (B*12+8)=0)=true from decide_eq_true z8];rfl
    rw[s0,Int.mul_zero] at er es
    have r0:r=0:=er.symm
    have s0:s=0:=es.symm
    have a4:=hB.a4
    have a5:=hB.a5
    rw[r0,s0,moveV_zero (V:=fun j=>U1 (B*12+j)) (by rw[h1 4 (by omega)];exact a4) (by rw[h1 5 (by omega)];exact a5),putRow_self]
 rw[e2 _ (row_else (fun e=>hAB e.symm)),e1]
 unfold apartU
 rw[decide_eq_true hm,ep,eq,er,es]
 rfl
def valN (U G:Nat→Int) (i:Nat):Int:=
 bif decide (U (i*12+8)=0) then-1 else bif decide (atOf (numS U G i).2 (G i) (numS U G i).2.length<0) then ((numS U G i).2.length:Int) else atOf (numS U G i).2 (G i) (numS U G i).2.length
theorem numS_1 (U G:Nat→Int) (i:Nat):(numS U G (i+1)).1=(numS U G i).1++[valN U G i]:=by
 unfold valN
 by_cases h:U (i*12+8)=0
 · rw[numS_z h,decide_eq_true h];rfl
 · rw[decide_eq_false h]
   by_cases k:atOf (numS U G i).2 (G i) (numS U G i).2.length<0
   · rw[numS_n h k,decide_eq_true k];rfl
   · rw[numS_o h k,decide_eq_false k];rfl
theorem ofL_num (U G:Nat→Int):∀ n i,i<n→ofL (numS U G n).1 i=valN U G i
 |0,i,h=>by omega
 | n+1,i,h=>by
   rw[numS_1]
   have hl:=(numS_len U G n).1
   by_cases e:i=n
   · subst e;rw[ofL_r (by omega),hl,Nat.sub_self];rfl
   · rw[ofL_l (by omega)];exact ofL_num U G n i (by omega)
theorem val_cases (U G:Nat→Int) (i:Nat):
 (valN U G i= -1∧(numS U G (i+1)).2.length=(numS U G i).2.length)∨(U (i*12+8)≠0∧valN U G i=((numS U G i).2.length:Int)∧(numS U G (i+1)).2.length=(numS U G i).2.length+1)∨(U (i*12+8)≠0∧0≤valN U G i∧valN U G i<((numS U G i).2.length:Int)∧(numS U G (i+1)).2.length=(numS U G i).2.length):=by
 unfold valN
 by_cases h:U (i*12+8)=0
 · rw[numS_z h,decide_eq_true h];exact .inl ⟨rfl,rfl⟩
 · rw[decide_eq_false h]
   by_cases k:atOf (numS U G i).2 (G i) (numS U G i).2.length<0
   · rw[numS_n h k,decide_eq_true k];exact .inr (.inl ⟨h,rfl,by rw[List.length_append];rfl⟩)
   · rw[numS_o h k,decide_eq_false k]
     refine .inr (.inr ⟨h,?_,?_,rfl⟩)
     · show 0≤atOf _ _ _;omega
     · show atOf (numS U G i).2 (G i) (numS U G i).2.length<_
       rcases atOf_bd (numS U G i).2 (G i) (numS U G i).2.length with q|q<;>omega
theorem awP_g (l:List Bool) (g:Int) (s:Bool):(awP l g s).length=if g=(l.length:Int) then l.length+1 else l.length:=by
 unfold awP
 by_cases e:g=(l.length:Int)
 · rw[if_pos e,decide_eq_true e]
   cases decide (0≤g)<;>simp
 · rw[if_neg e,decide_eq_false e]
   cases decide (0≤g)<;>simp
theorem aw_len (U Gr G:Nat→Int) (n:Nat) (hG:∀ i,i<n→G i=valN U Gr i):∀ i,i≤n→(awL U G i).length=(numS U Gr i).2.length
 |0,_=>rfl
 | i+1,h=>by
   have ih:=aw_len U Gr G n hG i (by omega)
   rw[awL,awP_g,ih,hG i (by omega)]
   rcases val_cases U Gr i with⟨a,b⟩|⟨_,a,b⟩|⟨_,a,b,c⟩
   · rw[if_neg (by omega),b]
   · rw[if_pos (by omega),b]
   · rw[if_neg (by omega),c]
theorem num2_mono (U Gr:Nat→Int):∀ j i,i≤j→(numS U Gr i).2.length≤(numS U Gr j).2.length
 | 0,i,h=>by
   obtain rfl:i=0:=by omega
   exact Nat.le_refl _
 | j+1,i,h=>by
   by_cases e:i=j+1
   · rw[e];exact Nat.le_refl _
   · have:=num2_mono U Gr j i (by omega)
     rcases val_cases U Gr j with⟨a,b⟩|⟨_,a,b⟩|⟨_,a,b,c⟩<;>omega
theorem grp_bd (U Gr G:Nat→Int) (n:Nat) (hG:∀ i,i<n→G i=valN U Gr i):∀ i,i<n→(-1≤G i∧G i≤((awL U G i).length:Int))∧G i<((awL U G n).length:Int)∧(0≤G i→U (i*12+8)≠0):=by
 intro i hi
 have h1:=aw_len U Gr G n hG i (by omega)
 have h2:=aw_len U Gr G n hG n (Nat.le_refl _)
 have h3:=num2_mono U Gr n (i+1) (by omega)
 have h4:=num2_mono U Gr (i+1) i (by omega)
 rw[h1,h2,hG i hi]
 rcases val_cases U Gr i with⟨a,b⟩|⟨m,a,b⟩|⟨m,a,b,c⟩
 · exact⟨by omega,by omega,fun q=>by omega⟩
 · exact⟨by omega,by omega,fun _=>m⟩
 · exact⟨by omega,by omega,fun _=>m⟩
theorem live_ok {U C:Nat→Int} {n m:Nat} (h:∀ k,k<m→CtP n (C (k*5)) (C (k*5+1)) (C (k*5+2)) (C (k*5+3)) (C (k*5+4))):∀ k,k≤m→Fives (CtP n) (liveL U C k)
 |0,_=>Fives.nil _
 | k+1,hk=>by
   have ih:=live_ok (U:=U) h k (by omega)
   cases e:liveC U C k with
   |true=>rw[liveL_yes e];exact ih.app (Fives.one (h k (by omega)))
   |false=>rw[liveL_no e];exact ih
theorem con_P (C:Nat→Nat→Int) {n m:Nat} (e:(conL C n).length=m*5):∀ k,k<m→CtP n (ofL (conL C n) (k*5)) (ofL (conL C n) (k*5+1)) (ofL (conL C n) (k*5+2)) (ofL (conL C n) (k*5+3)) (ofL (conL C n) (k*5+4)):=by
 obtain⟨m',e',p⟩:=conOut_ok C n (n:=n)
 obtain rfl:m'=m:=by unfold conL at e;omega
 exact p
theorem l5Touch_q (k1 g1 h1 x y k2 g2 h2 u v X Y D:Int) (K:Bool) (w:World) (s1:shB k1 g1 h1=true) (s2:shB k2 g2 h2=true) (p1:inB 2560000 x y=true) (p2:inB 2560000 u v=true) (e:toT k1 g1 h1 x y k2 g2 h2 u v=((X,Y,D),K)):
 Calls Tryz.prog 73 #[s3 k1 g1 h1,vv x y,s3 k2 g2 h2,vv u v] w fun e w'=>e= .returned (.tuple #[s3 X Y D,.bool K])∧Below w.heap.size w w':=by
 have e2:toT k1 g1 h1 x y k2 g2 h2 u v=tcT k1 g1 h1 x y k2 g2 h2 u v:=by unfold toT;rw[if_pos (by simp[*])]
 rw[e2] at e
 obtain⟨px,py⟩:=inB_of p1
 obtain⟨pu,pv⟩:=inB_of p2
 rcases shB_kinds s1 with⟨rfl,rfl,a1,a2⟩|⟨rfl,a1,a2,a3,a4⟩<;>rcases shB_kinds s2 with⟨rfl,rfl,b1,b2⟩|⟨rfl,b1,b2,b3,b4⟩
 · exact sT_rr g1 g2 x y u v X Y D K w ⟨a1,a2⟩ ⟨b1,b2⟩ px py pu pv (by simpa [tcT] using e)
 · exact sT_rb g1 g2 h2 x y u v X Y D K w ⟨a1,a2⟩ ⟨b1,b2⟩ ⟨b3,b4⟩ px py pu pv (by simpa [tcT] using e)
 · exact sT_br g1 h1 g2 x y u v X Y D K w ⟨a1,a2⟩ ⟨a3,a4⟩ ⟨b1,b2⟩ px py pu pv (by simpa [tcT] using e)
 · exact sT_bb g1 h1 g2 h2 x y u v X Y D K w ⟨a1,a2⟩ ⟨a3,a4⟩ ⟨b1,b2⟩ ⟨b3,b4⟩ px py pu pv (by simpa [tcT] using e)
theorem bods_sh {U:Nat→Int} {n k:Nat} (h:bodsB n U=true) (l:k<n):shB (U (k*12+1)) (U (k*12+2)) (U (k*12+3))=true∧inB 2560000 (U (k*12+4)) (U (k*12+5))=true:=by
 unfold bodsB at h
 rw[Bool.and_eq_true] at h
 have h2:bodyB (fun j=>U (k*12+j))=true:=by
  have key:∀ m,allBB U m=true→k<m→stepBB U k=true:=by
   intro m
   induction m with
   |zero=>intro _ l;omega
   | succ m ih=>
     intro hm l
     unfold allBB at hm
     rw[Bool.and_eq_true] at hm
     by_cases e:k=m
     · subst e;exact hm.2
     · exact ih hm.1 (by omega)
  have:=key n h.2 l
  unfold stepBB at this
  rw[Bool.and_eq_true] at this
  exact this.1
 unfold bodyB at h2
 simp only[Bool.and_eq_true] at h2
 exact⟨h2.2.1,h2.2.2.1⟩
theorem flat5 (w:World) (p q r s u:Int) (t:TypeId):Flat (w.alloc (Obj.cells #[.int .i64 p,.int .i64 q,.int .i64 r,.int .i64 s,.int .i64 u] t)) (some ⟨w.heap.size,0,none⟩) (1*5) (ofL [p,q,r,s,u]):=by
 intro _
 refine⟨w.heap.size,0,rfl,by simp,fun j hj=> ?_⟩
 rw[Nat.zero_add]
 rcases(show j=0∨j=1∨j=2∨j=3∨j=4 by omega) with rfl|rfl|rfl|rfl|rfl<;>(simp only[ofL];go_simp;(try rfl))
theorem l7Contacts_any (a:Option Addr) (n c:Nat) (U:Nat→Int) (w:World) (h:Flat w a (n*12) U) (hok:bodsB n U=true) (hn:n≤12):
 Calls Tryz.prog 44 #[.slice a n c] w fun e w'=>∃ a' m c',e= .returned (.slice a' m c')∧(conL (colOf U) n).length=m*5∧OutL w w' 116 5 a' m c' (ofL (conL (colOf U) n)):=by
 have hset:=cset_map
 go_enter Tryz.func44,Tryz.ntmps44
 go_wp2
 go_loopw [3,4,5,6,7] (fun s3 s4 _ _ _ wr=>∃ i a' m c',i≤n∧s4= .int .i64 (i:Int)∧s3= .slice a' m c'∧LsV w wr 116 5 a' m c' (conOut (colOf U) n i)) (fun _ s4 _ _ _ _=>n-(intOf s4).toNat)
 case atStart=>exact⟨0,_,_,_,Nat.zero_le _,rfl,rfl,LsV.new w _ _⟩
 case round=>
  obtain⟨i,a',m,c',hi,rfl,rfl,hL⟩:=hrel
  by_cases hlt:i<n
  · have hin:(i:Int)<(n:Int):=by omega
    obtain⟨b,o,rfl,hbl,hc⟩:=h (by omega)
    obtain⟨si,qi⟩:=bods_sh hok hlt
    obtain⟨mm,hm1,hm2⟩:=conOut_len (colOf U) n i
    have hm6:i*n≤12*12:=Nat.mul_le_mul (by omega) hn
    go_wp2
    go_loopw [3,5,6,7] (fun s3 s5 _ _ wr=>∃ k a' m c',i<k∧k≤n∧s5= .int .i64 (k:Int)∧s3= .slice a' m c'∧LsV w wr 116 5 a' m c' (conOut (colOf U) n i++conIn (colOf U) i k)) (fun _ s5 _ _ _=>n-(intOf s5).toNat)
    case atStart=>exact⟨i+1,_,_,_,by omega,by omega,by go_num,rfl,by rw[conIn_ge i (i+1) (Nat.le_refl _),List.append_nil];exact hL⟩
    case round=>
     clear hL
     obtain⟨k,a2,m2,c2,hik,hk,rfl,rfl,hL⟩:=hrel
     by_cases hlk:k<n
     · have hkn:(k:Int)<(n:Int):=by omega
       obtain⟨sk,qk⟩:=bods_sh hok hlk
       obtain⟨mk,hm3,hm4⟩:=conIn_len (colOf U) i k
       have hm5:=hL.len
       rw[List.length_append,hm1,hm3] at hm5
       have hc':∀ q,q<n*12→wr.cell? ⟨b,o+q,none⟩=some (.int .i64 (U q)):=fun q hq=>(hL.bel.cell (p:=⟨b,o+q,none⟩) hbl).trans (hc q hq)
       have hzr:=hL.bel.size
       have ci1:=hc' (i*12+1) (by omega)
       have ck1:=hc' (k*12+1) (by omega)
       have ci2:=hc' (i*12+2) (by omega)
       have ck2:=hc' (k*12+2) (by omega)
       have ci3:=hc' (i*12+3) (by omega)
       have ck3:=hc' (k*12+3) (by omega)
       have ci4:=hc' (i*12+4) (by omega)
       have ck4:=hc' (k*12+4) (by omega)
       have ci5:=hc' (i*12+5) (by omega)
       have ck5:=hc' (k*12+5) (by omega)
       have ci8:=hc' (i*12+8) (by omega)
       have ck8:=hc' (k*12+8) (by omega)
       simp only[←Nat.add_assoc] at ci1 ck1 ci2 ck2 ci3 ck3 ci4 ck4 ci5 ck5 ci8 ck8
       clear hc'
       by_cases hfx:U (i*12+8)=0∧U (k*12+8)=0
       · obtain⟨f1,f2⟩:=hfx
         have hno:Shut (conOne (colOf U) i k=[]):=conOne_no (by unfold conB colOf;rw[f1,f2];simp)
         rw[f1] at ci8
         rw[f2] at ck8
         go_wp2
         go_roundw
         case rel=>exact⟨k+1,_,_,_,by omega,by omega,by go_num,rfl,by rw[conIn,hno.out,List.append_nil];exact hL⟩
         case measure=>simp[intOf];omega
       · obtain⟨TX,TY,TD,TJ,hT⟩:∃ TX TY TD TJ,tcH (colOf U) i k=((TX,TY,TD),TJ):=⟨_,_,_,_,rfl⟩
         have hfx':Shut (¬ (U (i*12+8)=0∧U (k*12+8)=0)):=hfx
         have key:∀ (g:Prop),(U (i*12+8)≠0→g)→(U (i*12+8)=0→U (k*12+8)≠0→g)→g:=fun g h1 h2=>by
          by_cases e:U (i*12+8)=0
          · exact h2 e (fun e2=>hfx ⟨e,e2⟩)
          · exact h1 e
         clear hfx
         go_upto_region 8 with fail
         go_cut [36] (fun s wc=>s= .bool false∧wr=wc)
         case first=>
          refine key _ (fun e=> ?_) (fun e1 e2=> ?_)
          · have e':decide (U (i*12+8)=0)=false:=decide_eq_false e
            have e3:(U (i*12+8)==0)=false:=by simp[e]
            go_wp2
            go_meet
            exact⟨by first|rfl|simp[e3],rfl⟩
          · have e':decide (U (k*12+8)=0)=false:=decide_eq_false e2
            have e3:(U (k*12+8)==0)=false:=by simp[e2]
            rw[e1] at ci8
            go_wp2
            go_meet
            exact⟨by first|rfl|simp[e3],rfl⟩
         case rest=>
         obtain⟨rfl,rfl⟩:=hcut
         clear key ci8 ck8
         go_upto_region 9 with fail
         go_cut [6,7] (fun s6 s7 wd=>∃ bh,s6= .pointer (some ⟨bh,0,none⟩)∧s7= .bool TJ∧wd.cell? ⟨bh,0,none⟩=some (.int .i64 TX)∧wd.cell? ⟨bh,1,none⟩=some (.int .i64 TY)∧wd.cell? ⟨bh,2,none⟩=some (.int .i64 TD)∧bh<wd.heap.size∧wr.heap.size≤bh∧Below wr.heap.size wr wd)
         case first=>
          refine wp_region_held_drew (S:=fun w'=>w'.cell? ⟨b,o+i*12+1,none⟩=some (.int .i64 (U (i*12+1)))∧w'.cell? ⟨b,o+i*12+2,none⟩=some (.int .i64 (U (i*12+2)))∧w'.cell? ⟨b,o+i*12+3,none⟩=some (.int .i64 (U (i*12+3)))∧w'.cell? ⟨b,o+i*12+4,none⟩=some (.int .i64 (U (i*12+4)))∧w'.cell? ⟨b,o+i*12+5,none⟩=some (.int .i64 (U (i*12+5)))∧w'.cell? ⟨b,o+k*12+1,none⟩=some (.int .i64 (U (k*12+1)))∧w'.cell? ⟨b,o+k*12+2,none⟩=some (.int .i64 (U (k*12+2)))∧w'.cell? ⟨b,o+k*12+3,none⟩=some (.int .i64 (U (k*12+3)))∧w'.cell? ⟨b,o+k*12+4,none⟩=some (.int .i64 (U (k*12+4)))∧w'.cell? ⟨b,o+k*12+5,none⟩=some (.int .i64 (U (k*12+5)))) (by kernel_rfl) ?_ (fun hHeld=> ?_)
          · (try dsimp only)
            (first|(go_simp;done)|(go_keep;done))
          refine tq 0 hHeld ?_
          refine tq 1 hHeld ?_
          refine tq 2 hHeld ?_
          refine tq 3 hHeld ?_
          refine tq 4 hHeld ?_
          refine tq 5 hHeld ?_
          refine tq 6 hHeld ?_
          refine tq 7 hHeld ?_
          refine tq 8 hHeld ?_
          refine tq 9 hHeld ?_
          refine tq 10 hHeld ?_
          refine tq 11 hHeld ?_
          refine tq 12 hHeld ?_
          refine tq 13 hHeld ?_
          refine tq 14 hHeld ?_
          refine tq 15 hHeld ?_
          refine tq 16 hHeld ?_
          refine tq 17 hHeld ?_
          refine tq 18 hHeld ?_
          refine tq 19 hHeld ?_
          refine wpAnyH_ready (rs:=[20,24]) (by kernel_rfl) (by simp) ?_
          refine AllReadyH.cons rfl (fun K hK=> ?_) (AllReadyH.cons rfl (fun K hK=> ?_) AllReadyH.nil)
          · (go_simp;(go_at_call 73;refine(l5Touch_q _ _ _ _ _ _ _ _ _ _ TX TY TD TJ _ si sk qi qk hT).mono ?_;rintro e w3 ⟨rfl,hb3⟩;have hz3:=hb3.size;(try simp only[zz] at hz3);have:=kfa hb3 b;have hk3z:=fun o=>hb3.cell (p:=⟨wr.heap.size,o,none⟩);have hj3z:=fun o=>hb3.frozen (p:=⟨wr.heap.size,o,none⟩);(try simp only[World.size_drew,World.size_alloc] at hk3z hj3z));(try go_wp2_with fail);refine tr hK (fun hHeld=> ?_);clear hK K)
            refine tq 21 hHeld ?_
            refine tq 22 hHeld ?_
            refine tq 23 hHeld ?_
            refine tc 24 fun K hK=> ?_
            (go_simp;refine tr hK (fun hHeld=> ?_);clear hK K)
            refine tc 25 fun K hK=> ?_
            (go_simp;refine tr hK (fun hHeld=> ?_);clear hK K)
            refine tq 26 hHeld ?_
            refine wpAnyH_done (by kernel_rfl) ?_ _
            go_wp2_with fail
            go_meet
            exact⟨_,rfl,rfl,by go_simp,by go_simp,by go_simp,by first|(simp;omega)|simp|omega,by first|(simp;omega)|simp|omega,bel_a⟩
          · (go_simp;refine tr hK (fun hHeld=> ?_);clear hK K)
            refine tc 20 fun K hK=> ?_
            (go_simp;(go_at_call 73;refine(l5Touch_q _ _ _ _ _ _ _ _ _ _ TX TY TD TJ _ si sk qi qk hT).mono ?_;rintro e w3 ⟨rfl,hb3⟩;have hz3:=hb3.size;(try simp only[zz] at hz3);have:=kfa hb3 b;have hk3z:=fun o=>hb3.cell (p:=⟨wr.heap.size,o,none⟩);have hj3z:=fun o=>hb3.frozen (p:=⟨wr.heap.size,o,none⟩);(try simp only[World.size_drew,World.size_alloc] at hk3z hj3z));(try go_wp2_with fail);refine tr hK (fun hHeld=> ?_);clear hK K)
            refine tq 21 hHeld ?_
            refine tq 22 hHeld ?_
            refine tq 23 hHeld ?_
            refine tc 25 fun K hK=> ?_
            (go_simp;refine tr hK (fun hHeld=> ?_);clear hK K)
            refine tq 26 hHeld ?_
            refine wpAnyH_done (by kernel_rfl) ?_ _
            go_wp2_with fail
            go_meet
            exact⟨_,rfl,rfl,by go_simp,by go_simp,by go_simp,by first|(simp;omega)|simp|omega,by first|(simp;omega)|simp|omega,bel_a⟩
         case rest=>
         obtain⟨bh,rfl,rfl,t0,t1,t2,hbh,hbh0,hbd⟩:=hcut
         have hLd:=hL.below hbd
         cases TJ with
         | false=>
           have hno:Shut (conOne (colOf U) i k=[]):=conOne_no (by unfold conB;rw[hT];simp)
           go_wp2
           go_roundw
           case rel=>exact⟨k+1,_,_,_,by omega,by omega,by go_num,rfl,by rw[conIn,hno.out,List.append_nil];exact hLd⟩
           case measure=>simp[intOf];omega
         | true=>
           have hyes:Shut (conOne (colOf U) i k=[(i:Int),(k:Int),TX,TY,TD]):=conOne_yes (conB_yes hik hfx'.out hT) hT
           go_wp2_with (refine wpList_app rfl _ _ _ rfl w.heap.size 116 5 40 (.agg #[.int .i64 0,.int .i64 0,.int .i64 0,.int .i64 0,.int .i64 0]) Tryz.underlying76 (by kernel_rfl) (by rfl) (by omega) (.slice a2 m2 c2) m2 (ofL (conOut (colOf U) n i++conIn (colOf U) i k)) rfl (hLd.below ((Below.refl _ _).alloc (Nat.le_refl _) _)).own _ 1 _ (ofL [(i:Int),(k:Int),TX,TY,TD]) rfl (flat5 _ _ _ _ _ _ _) (by unfold maxLen;omega) (by omega) (by simp only[World.size_alloc];have:=hLd.bel.size;omega) ?_;intro a1 c1 w1 ho1 hg1)
           have hP:=(hLd.below ((Below.refl _ _).alloc (Nat.le_refl _) _)).push (x:=[(i:Int),(k:Int),TX,TY,TD]) rfl hg1 ho1
           go_roundw
           case rel=>exact⟨k+1,_,_,_,by omega,by omega,by go_num,rfl,by rw[conIn,hyes.out,←List.append_assoc];exact hP⟩
           case measure=>simp[intOf];omega
     · obtain rfl:k=n:=by omega
       go_wp2
       go_roundw
       case rel=>exact⟨i+1,_,_,_,by omega,by go_num,rfl,hL⟩
       case measure=>simp[intOf];omega
  · obtain rfl:i=n:=by omega
    go_wp2
    go_ret
    exact⟨_,_,_,rfl,hL.len,hL.bel,hL.own⟩
theorem OutL.up {w0 w wr:World} {t k n c:Nat} {a:Option Addr} {R:Nat→Int} (h:OutL w wr t k a n c R) (hb:Below w0.heap.size w0 w):OutL w0 wr t k a n c R:=⟨hb.trans (h.bel.mono hb.size),h.own.base hb.size⟩
theorem l8Aparts_any:ApartDoes:=fun base g n c U A B X Y D w h1 h2 h3 h4 h5 h6 h7 h8=>l8Apart_any base g n c U A B X Y D w h1 h2 h3 h4 h5 h6 h7 h8
def ctC (n:Nat) (U:Nat→Int):Nat→Int:=ofL (conL (colOf U) n)
def ctM (n:Nat) (U:Nat→Int):Nat:=(conL (colOf U) n).length/5
def gpG (n:Nat) (U:Nat→Int):Nat→Int:=ofL (grpL U (ctC n U) (ctM n U) n)
def awA (n:Nat) (U:Nat→Int):Nat→Bool:=fun j=>(awL U (gpG n U) n).getD j false
def awN (n:Nat) (U:Nat→Int):Nat:=(awL U (gpG n U) n).length
def wokeU (n:Nat) (U:Nat→Int):Nat→Int:=mapR (fun i V=>wakeV (awK (gpG n U) (awA n U) i) V) U n
def lvC (n:Nat) (U:Nat→Int):Nat→Int:=ofL (liveL (wokeU n U) (ctC n U) (ctM n U))
def lvM (n:Nat) (U:Nat→Int):Nat:=(liveL (wokeU n U) (ctC n U) (ctM n U)).length/5
def pushU (n:Nat) (U:Nat→Int) (g:Int):Nat→Int:=allN (lvC n U) (mapR (fun _ V=>pullV g V) (wokeU n U) n) (lvM n U) 4
def goneU (n:Nat) (U:Nat→Int) (g:Int):Nat→Int:=apartN (lvC n U) (mapR (fun _ V=>goV V) (pushU n U g) n) (lvM n U)
def stepU (n:Nat) (U:Nat→Int) (g:Int):Nat→Int:=sleepN (gpG n U) (awA n U) n (mapR (fun i V=>quietV (wokeU n U (i*12+11)) V) (goneU n U g) n) (awN n U)
theorem gp_val (n:Nat) (U:Nat→Int):∀ i,i<n→gpG n U i=valN U (ofL (grpR U (ctC n U) (ctM n U) (rng n) n)) i:=fun i hi=>ofL_num U _ n i hi
theorem ct_ok (n:Nat) (U:Nat→Int):CtOk n (ctM n U) (ctC n U)∧(conL (colOf U) n).length=ctM n U*5:=by
 obtain⟨m,e,_⟩:=conOut_ok (colOf U) n (n:=n)
 have e':(conL (colOf U) n).length=m*5:=e
 have hm:ctM n U=m:=by unfold ctM;omega
 rw[hm]
 exact⟨con_ct _ e',e'⟩
theorem lv_ok (n:Nat) (U:Nat→Int):CtOk n (lvM n U) (lvC n U)∧(liveL (wokeU n U) (ctC n U) (ctM n U)).length=lvM n U*5:=by
 have h:=live_ok (U:=wokeU n U) (con_P (colOf U) (ct_ok n U).2) (ctM n U) (Nat.le_refl _)
 obtain⟨m,e,_⟩:=id h
 have hm:lvM n U=m:=by unfold lvM ctC;omega
 rw[hm]
 exact⟨h.ct e,e⟩
theorem go8 (V:Nat→Int):goV V 8=V 8:=by unfold goV;cases liveV V<;>rfl
theorem quiet8 (z:Int) (V:Nat→Int):quietV z V 8=V 8:=by unfold quietV;cases (decide (V 8=0)||decide (8≤V 11))<;>rfl
theorem pull8 (z:Int) (V:Nat→Int):pullV z V 8=V 8:=by unfold pullV;cases liveV V<;>rfl
theorem wake8 (b:Bool) (V:Nat→Int):wakeV b V 8=V 8:=by unfold wakeV;first|(cases b<;>cases decide (8≤V 11)<;>rfl)|(split<;>rfl)
theorem Bods.steps {n:Nat} {U:Nat→Int} (h:Bods n U) (g:Int):
 Bods n (wokeU n U)∧Bods n (mapR (fun _ V=>pullV g V) (wokeU n U) n)∧Bods n (pushU n U g)∧Bods n (mapR (fun _ V=>goV V) (pushU n U g) n)∧Bods n (goneU n U g)∧Bods n (mapR (fun i V=>quietV (wokeU n U (i*12+11)) V) (goneU n U g) n)∧Bods n (stepU n U g)∧∀ k,k<n→stepU n U g (k*12+8)=U (k*12+8):=by
 have h1:Bods n (wokeU n U):=h.wake
 have h2:=h1.pull g
 have h3:Bods n (pushU n U g)∧∀ i,pushU n U g (i*12+8)=mapR (fun _ V=>pullV g V) (wokeU n U) n (i*12+8):=h2.all (lv_ok n U).1 4
 have h4:=h3.1.go
 have h5:Bods n (goneU n U g)∧∀ i,goneU n U g (i*12+8)=mapR (fun _ V=>goV V) (pushU n U g) n (i*12+8):=h4.aparts (lv_ok n U).1 (lvM n U) (Nat.le_refl _)
 have h6:Bods n (mapR (fun i V=>quietV (wokeU n U (i*12+11)) V) (goneU n U g) n):=h5.1.quiet h1
 have m6:∀ k,k<n→mapR (fun i V=>quietV (wokeU n U (i*12+11)) V) (goneU n U g) n (k*12+8)=U (k*12+8):=fun k hk=>by
  rw[mapR_in hk (by omega),quiet8]
  show goneU n U g (k*12+8)=_
  rw[h5.2 k,mapR_in hk (by omega),go8]
  show pushU n U g (k*12+8)=_
  rw[h3.2 k,mapR_in hk (by omega),pull8]
  show wokeU n U (k*12+8)=_
  unfold wokeU
  rw[mapR_in hk (by omega),wake8]
 have h7:=h6.sleep (G:=gpG n U) (A:=awA n U) (fun k hk hg=>by rw[m6 k hk];exact(grp_bd U _ (gpG n U) n (gp_val n U) k hk).2.2 hg) (awN n U)
 exact⟨h1,h2,h3.1,h4,h5.1,h6,h7.1,fun k hk=>(h7.2 k hk).trans (m6 k hk)⟩
theorem l9Step_any (a:Option Addr) (n c:Nat) (U:Nat→Int) (g:Int) (w:World) (h:Flat w a (n*12) U) (hbb:Bods n U) (hg:0≤g∧g≤2560):
 Calls Tryz.prog 26 #[.slice a n c,.int .i64 g] w fun e w'=>∃ a1 c1,e= .returned (.slice a1 n c1)∧OutL w w' 33 12 a1 n c1 (stepU n U g):=by
 have hset:=cset_map
 have hn12:=hbb.le
 obtain⟨B1,B2,B3,B4,B5,B6,B7,_⟩:=hbb.steps g
 obtain⟨K1,L1⟩:=ct_ok n U
 obtain⟨K2,L2⟩:=lv_ok n U
 have hG:=grp_bd U _ (gpG n U) n (gp_val n U)
 have hm1:ctM n U≤1048576:=by
  obtain⟨m,e,hm⟩:=conOut_len (colOf U) n n
  have e':(conL (colOf U) n).length=m*5:=e
  have:=Nat.mul_le_mul hn12 hn12
  omega
 have hm2:lvM n U≤1048576:=by have:=liveL_len (wokeU n U) (ctC n U) (ctM n U);omega
 have hq2:∀ k,k<n→0≤wokeU n U (k*12+11)∧wokeU n U (k*12+11)≤8:=fun k hk=>(bodyB_bd (B1.ok k hk)).2.1
 have hna:awN n U≤1048576:=by have:=awL_len U (gpG n U) n;unfold awN;omega
 go_enter Tryz.func26,Tryz.ntmps26
 go_upto_region 2 with(go_at_call 44;refine(l7Contacts_any a n c U _ h hbb.to hn12).mono ?_;rintro e w1 ⟨a1,m1,c1,rfl,hm,hO1⟩)
 obtain rfl:m1=ctM n U:=by omega
 have hO1:OutL w w1 116 5 a1 (ctM n U) c1 (ctC n U):=hO1
 have h1:=h.below hO1.bel
 have f1:=hO1.own.flat
 go_upto_region 3 with(go_at_call 45;refine(l7Groups_any a n c U a1 (ctM n U) c1 (ctC n U) _ h1 (by omega) hm1 f1 K1).mono ?_;rintro e w2 ⟨g2,c2,rfl,hO2⟩)
 have h2:=h1.below hO2.bel
 have f12:=f1.below hO2.bel
 have f2:Flat w2 (some ⟨g2,0,none⟩) (n*1) (gpG n U):=hO2.flat
 go_upto_region 4 with(go_at_call 46;refine(l7Awake_any a n c U (some ⟨g2,0,none⟩) c2 (gpG n U) _ h2 (by omega) f2 (fun i hi=>(hG i hi).1)).mono ?_;rintro e w3 ⟨g3,c3,na,rfl,hna3,hO3⟩)
 obtain rfl:na=awN n U:=hna3
 have h3:=h2.below hO3.bel
 have f13:=f12.below hO3.bel
 have f23:=f2.below hO3.bel
 have f3:FlatB w3 (some ⟨g3,0,none⟩) (awN n U) (awA n U):=hO3.flatB
 go_upto_region 5 with(go_at_call 47;refine(l9Wake_any a n c U (some ⟨g2,0,none⟩) c2 (gpG n U) (some ⟨g3,0,none⟩) (awN n U) c3 (awA n U) _ h3 (by omega) f23 f3 (fun i hi=>(hG i hi).2.1)).mono ?_;rintro e w4 ⟨a4,c4,rfl,hO4⟩)
 have hO4:OutL w3 w4 33 12 a4 n c4 (wokeU n U):=hO4
 have f14:=f13.below hO4.bel
 have f24:=f23.below hO4.bel
 have f34:=f3.below hO4.bel (B:=0)
 have f4:=hO4.own.flat
 go_upto_region 6 with(go_at_call 48;refine(l9Live_any a4 n c4 (wokeU n U) a1 (ctM n U) c1 (ctC n U) _ f4 (by omega) hm1 f14 (fun k hk=>⟨K1.a k hk,K1.b k hk⟩)).mono ?_;rintro e w5 ⟨a5,m5,c5,rfl,hm5,hO5⟩)
 obtain rfl:m5=lvM n U:=by omega
 have hO5:OutL w4 w5 116 5 a5 (lvM n U) c5 (lvC n U):=hO5
 have f25:=f24.below hO5.bel
 have f35:=f34.below hO5.bel (B:=0)
 have f45:=f4.below hO5.bel
 have f5:=hO5.own.flat
 go_upto_region 7 with(first
  |(go_at_call 50;refine(l9Pull_any a4 n c4 (wokeU n U) g _ f45 (by omega) hg B1).mono ?_;rintro e w6 ⟨a6,c6,rfl,hO6⟩)
  |(go_at_call 49;refine(l8All_any a6 n c6 _ a5 (lvM n U) c5 (lvC n U) _ hO6.own.flat (by omega) hm2 (f5.below hO6.bel) B2 K2).mono ?_;rintro e w7 ⟨a7,c7,rfl,hO7⟩))
 have hO7:OutL w6 w7 33 12 a7 n c7 (pushU n U g):=hO7
 have f27:=(f25.below hO6.bel).below hO7.bel
 have f37:=(f35.below hO6.bel (B:=0)).below hO7.bel (B:=0)
 have f47:=(f45.below hO6.bel).below hO7.bel
 have f57:=(f5.below hO6.bel).below hO7.bel
 have f7:=hO7.own.flat
 go_upto_region 8 with(first
  |(go_at_call 52;refine(l9Moves_any a7 n c7 (pushU n U g) _ f7 (by omega) B3).mono ?_;rintro e w8 ⟨a8,c8,rfl,hO8⟩)
  |(go_at_call 51;refine(l8Aparts_of l8Aparts_any a8 n c8 _ a5 (lvM n U) c5 (lvC n U) _ hO8.own.flat (by omega) hm2 (f57.below hO8.bel) B4 K2).mono ?_;rintro e w9 ⟨a9,c9,rfl,hO9⟩))
 have hO9:OutL w8 w9 33 12 a9 n c9 (goneU n U g):=hO9
 have f29:=(f27.below hO8.bel).below hO9.bel
 have f39:=(f37.below hO8.bel (B:=0)).below hO9.bel (B:=0)
 have f49:=(f47.below hO8.bel).below hO9.bel
 have f9:=hO9.own.flat
 go_wp2_with (first
  |(go_at_call 54;refine(l9Quiet_any a9 n c9 (goneU n U g) a4 c4 (wokeU n U) _ f9 (by omega) B5 f49 hq2).mono ?_;rintro e w10 ⟨a10,c10,rfl,hO10⟩)
  |(go_at_call 53;refine(l9Sleep_any a10 n c10 _ (some ⟨g2,0,none⟩) c2 (gpG n U) (some ⟨g3,0,none⟩) (awN n U) c3 (awA n U) _ hO10.own.flat (by omega) hna (f29.below hO10.bel) (f39.below hO10.bel (B:=0))).mono ?_;rintro e w11 ⟨a11,c11,rfl,hO11⟩))
 go_ret
 have b2:=hO1.bel.trans (hO2.bel.mono hO1.bel.size)
 have b3:=b2.trans (hO3.bel.mono b2.size)
 have b4:=b3.trans (hO4.bel.mono b3.size)
 have b5:=b4.trans (hO5.bel.mono b4.size)
 have b6:=b5.trans (hO6.bel.mono b5.size)
 have b7:=b6.trans (hO7.bel.mono b6.size)
 have b8:=b7.trans (hO8.bel.mono b7.size)
 have b9:=b8.trans (hO9.bel.mono b8.size)
 have b10:=b9.trans (hO10.bel.mono b9.size)
 exact⟨_,_,rfl,hO11.up b10⟩
end Go.Proofs.YtcalhcfinkhemaaGreatDoor
