/- Texts of a proof. -/
import Derived.Test.YthajilkjfkppoaaGreatDoorB29
import Derived.Test.YthajilkjfkppoaaGreatDoorB22
import Derived.Deep.RegionHeld3
import Derived.Deep.DeepCutAuto
import Derived.Test.YthajilkjfkppoaaGreatDoorB6
import Derived.Test.YthajilkjfkppoaaGreatDoorB3
import Derived.Test.YthajilkjfkppoaaGreatDoorB15
import Derived.Test.YthajilkjfkppoaaGreatDoorB14
set_option maxHeartbeats 16000000
set_option maxRecDepth 20000
namespace Go.Proofs.YthajilkjfkppoaaGreatDoor
open Go.RowKit
set_option linter.unusedVariables false
set_option linter.unusedSimpArgs false
theorem pushV_0 (V:Nat→Int) (p q:Int):pushV V p q 0=V 0:=by unfold pushV;split<;>rfl
theorem pushV_8 (V:Nat→Int) (p q:Int):pushV V p q 8=V 8:=by unfold pushV;split<;>rfl
theorem Bods.one {n:Nat} {U:Nat→Int} (h:Bods n U) {A B:Nat} (hA:A<n) (hB:B<n) (hAB:A≠B) (X Y:Int) (bo:Bool):Bods n (oneU U A B X Y bo)∧∀ i,oneU U A B X Y bo (i*12+8)=U (i*12+8):=by
 unfold oneU
 generalize puX (fun j=>U (A*12+j)) (fun j=>U (B*12+j)) X Y bo=p
 generalize puY (fun j=>U (A*12+j)) (fun j=>U (B*12+j)) X Y bo=q
 generalize ((p==0&&q==0)|| !fitsB (fun j=>U (A*12+j)) (fun j=>U (B*12+j)) p q)=z
 cases z with
 |true=>exact⟨h,fun i=>rfl⟩
 | false=>
   simp only[cond_false]
   have hb0:putRow U A (pushV (fun j=>U (A*12+j)) (-p) (-q)) (B*12)=U (B*12):=by
    have:=putRow_else (U:=U) (V:=pushV (fun j=>U (A*12+j)) (-p) (-q)) (k:=A) (i:=B) (j:=0) (fun e=>hAB e.symm) (by omega)
    simpa using this
   have h8:∀ i,putRow U A (pushV (fun j=>U (A*12+j)) (-p) (-q)) (i*12+8)=U (i*12+8):=fun i=>putRow_8 (by rw[pushV_8])
   exact⟨(h.put hA (push_ok (-p) (-q) (h.row hA)) (by rw[pushV_0];rfl)).put hB (push_ok p q (h.row hB)) (by rw[pushV_0,hb0];rfl),fun i=>(putRow_8 (by rw[pushV_8,h8])).trans (h8 i)⟩
def rndN (C:Nat→Int) (bo:Bool) (U:Nat→Int):Nat→Nat→Int
 |0=>U
 |k+1=>oneU (rndN C bo U k) (C (k*5)).toNat (C (k*5+1)).toNat (C (k*5+2)) (C (k*5+3)) bo
def allN (C U:Nat→Int) (m:Nat):Nat→Nat→Int
 |0=>U
 |r+1=>rndN C (((r:Nat):Int)==0) (allN C U m r) m
theorem Bods.rnd {n m:Nat} {U C:Nat→Int} (h:Bods n U) (hC:CtOk n m C) (bo:Bool):∀ k,k≤m→Bods n (rndN C bo U k)∧∀ i,rndN C bo U k (i*12+8)=U (i*12+8)
 |0,_=>⟨h,fun i=>rfl⟩
 | k+1,hk=>by
   obtain⟨h1,h2⟩:=Bods.rnd h hC bo k (by omega)
   have ha:=hC.a k (by omega)
   have hb:=hC.b k (by omega)
   have hn:=hC.ne k (by omega)
   obtain⟨q1,q2⟩:=h1.one (A:=(C (k*5)).toNat) (B:=(C (k*5+1)).toNat) (by omega) (by omega) (by omega) (C (k*5+2)) (C (k*5+3)) bo
   exact⟨q1,fun i=>(q2 i).trans (h2 i)⟩
theorem Bods.all {n m:Nat} {U C:Nat→Int} (h:Bods n U) (hC:CtOk n m C):∀ r,Bods n (allN C U m r)∧∀ i,allN C U m r (i*12+8)=U (i*12+8)
 |0=>⟨h,fun i=>rfl⟩
 | r+1=>by
   obtain⟨h1,h2⟩:=Bods.all h hC r
   obtain⟨q1,q2⟩:=h1.rnd hC (((r:Nat):Int)==0) m (Nat.le_refl _)
   exact⟨q1,fun i=>(q2 i).trans (h2 i)⟩
theorem l8All_any (a:Option Addr) (n c:Nat) (U:Nat→Int) (ac:Option Addr) (m cc:Nat) (C:Nat→Int) (w:World) (h:Flat w a (n*12) U) (hn:n≤1048576) (hm:m≤1048576) (h2:Flat w ac (m*5) C) (hbb:Bods n U) (hC:CtOk n m C):
 Calls Tryz.prog 43 #[.slice a n c,.slice ac m cc] w fun e w'=>∃ a1 c1,e= .returned (.slice a1 n c1)∧OutL w w' 35 12 a1 n c1 (allN C U m 4):=by
 have hset:=cset_map
 go_enter Tryz.func43,Tryz.ntmps43
 go_upto_region 1 with fail
 go_cut [5] (fun s0 wc=>∃ a1 c1,s0= .slice a1 n c1∧OutL w wc 35 12 a1 n c1 U)
 case first=>
  go_wp2_with (go_at_call 80;refine(l8Copy_any a n c U _ h hn).mono ?_;rintro e w3 ⟨a1,c1,rfl,hO⟩)
  go_meet
  exact⟨_,_,rfl,hO⟩
 case rest=>
 obtain⟨a1,c1,rfl,hO⟩:=hcut
 go_upto_region 3 with fail
 go_loopw [6,7] (fun s _ wr=>∃ r:Nat,r≤4∧s= .int .i64 (r:Int)∧OutL w wr 35 12 a1 n c1 (allN C U m r)) (fun s _ _=>4-(intOf s).toNat)
 case atStart=>exact⟨0,Nat.zero_le _,rfl,hO⟩
 case round=>
  clear hO
  obtain⟨r,hr,rfl,hO⟩:=hrel
  by_cases hlr:r<4
  · have hr4:(r:Int)<4:=by omega
    have hB0:=(hbb.all hC r).1
    have HAL:Shut (allN C U m (r+1)=rndN C (((r:Nat):Int)==0) (allN C U m r) m):=by show _=_;rw[allN]
    obtain⟨bo,hbo⟩:∃ b,((r:Int)==0)=b:=⟨_,rfl⟩
    rw[hbo] at HAL
    generalize allN C U m r=X at hO hB0 HAL
    go_upto_region 6 with fail
    go_loopw [7] (fun s wq=>∃ k:Nat,k≤m∧s= .int .i64 (k:Int)∧OutL w wq 35 12 a1 n c1 (rndN C bo X k)) (fun s _=>m-(intOf s).toNat)
    case atStart=>exact⟨0,Nat.zero_le _,rfl,hO⟩
    case round=>
     clear hO
     obtain⟨k,hk,rfl,hO⟩:=hrel
     by_cases hlt:k<m
     · have hkm:(k:Int)<(m:Int):=by omega
       have ca:=hC.a k hlt
       have cb:=hC.b k hlt
       have cx:=hC.x k hlt
       have cy:=hC.y k hlt
       have cn:=hC.ne k hlt
       have hB:=(hB0.rnd hC bo k hk).1
       obtain⟨b2,o2,e2,hbl2,hc2⟩:=(h2.below hO.bel) (by omega)
       have r0:=hc2 (k*5) (by omega)
       have r1:=hc2 (k*5+1) (by omega)
       have r2:=hc2 (k*5+2) (by omega)
       have r3:=hc2 (k*5+3) (by omega)
       have r4:=hc2 (k*5+4) (by omega)
       simp only[←Nat.add_assoc] at r0 r1 r2 r3 r4
       clear hc2
       subst e2
       have HN:Shut (rndN C bo X (k+1)=oneU (rndN C bo X k) (C (k*5)).toNat (C (k*5+1)).toNat (C (k*5+2)) (C (k*5+3)) bo):=by show _=_;rw[rndN]
       obtain⟨A,hA⟩:∃ A:Nat,C (k*5)=(A:Int):=⟨(C (k*5)).toNat,by omega⟩
       obtain⟨B,hBB⟩:∃ B:Nat,C (k*5+1)=(B:Int):=⟨(C (k*5+1)).toNat,by omega⟩
       rw[hA,hBB,Int.toNat_natCast,Int.toNat_natCast] at HN
       rw[hA] at ca r0 cn
       rw[hBB] at cb r1 cn
       clear hA hBB
       have hAB:A≠B:=fun e=>cn (by rw[e])
       clear cn
       obtain⟨g,rfl,hg1,hg2⟩:=hO.own.loc (by omega)
       go_wp2_with (go_at_call 81;refine(l8One_any w.heap.size g n c1 (rndN C bo X k) A B _ _ _ bo _ hO.own hn (by omega) (by omega) hAB hB cx cy).mono ?_;rintro e w5 ⟨rfl,ho5,hf5⟩)
       have hB5:Below w.heap.size w w5:=hO.bel.trans (hf5.below (by have:=hO.bel.size;omega) (fun b e=>by omega))
       go_roundw
       case rel=>exact⟨k+1,by omega,by go_num,hB5,by rw[HN.out];exact ho5⟩
       case measure=>simp[intOf];omega
     · obtain rfl:k=m:=by omega
       go_wp2_with fail
       go_roundw
       case rel=>exact⟨r+1,by omega,by go_num,by rw[HAL.out];exact hO⟩
       case measure=>simp[intOf];omega
  · obtain rfl:r=4:=by omega
    go_wp2_with fail
    go_ret
    exact⟨_,_,rfl,hO⟩
theorem kSpeed {cb n k:Nat} {V:Nat→Int} {G:Nat→Nat} {w:World} (h:HAt w cb n k V G) (b6: -20000000≤V 6∧V 6≤20000000) (b7: -20000000≤V 7∧V 7≤20000000):
 Calls Tryz.prog 26 #[hdk cb k] w fun e w'=>e= .returned (vv (spX V) (spY V))∧Below w.heap.size w w':=by
 have t6:=tdiv_bd (x:=V 6) (B:=20000000) (V 8) (by omega)
 have t7:=tdiv_bd (x:=V 7) (B:=20000000) (V 8) (by omega)
 have e6:IntKind.i64.wrap ((V 6).tdiv (V 8))=(V 6).tdiv (V 8):=i64w (by omega)
 have e7:IntKind.i64.wrap ((V 7).tdiv (V 8))=(V 7).tdiv (V 8):=i64w (by omega)
 have hset:=cset_map
 have l1:=h.cbl
 unfold spX spY
 by_cases m:V 8=0
 · rw[if_pos m,if_pos m]
   go_enter Tryz.func26,Tryz.ntmps26
   go_wp2_with (go_at_call 51;refine(kFixed (h.below (by exact bel_a))).mono ?_;rintro e w1 ⟨rfl,hb1⟩;have hz1:=hb1.size;(try simp only[zz] at hz1);have:=kf2 hb1 w.heap.size)
   exact bodyPost_ret (v:=vv 0 0) (by simp[results,Tryz.results26,go_sem, *]) rfl ⟨rfl,bel_a⟩
 · rw[if_neg m,if_neg m]
   go_enter Tryz.func26,Tryz.ntmps26
   go_upto_region 4 with(first
    |(go_at_call 31;refine(kDrive (h.below (by exact bel_a))).mono ?_;rintro e w2 ⟨rfl,hb2⟩;have hz2:=hb2.size;(try simp only[zz] at hz2);have:=kf2 hb2 w.heap.size)
    |(go_at_call 51;refine(kFixed (h.below (by exact bel_a))).mono ?_;rintro e w1 ⟨rfl,hb1⟩;have hz1:=hb1.size;(try simp only[zz] at hz1);have:=kf2 hb1 w.heap.size))
   refine wp_region_held_drew (S:=fun w'=>w'.cell? ⟨w.heap.size,0,none⟩=some (.int .i64 (k:Int))∧w'.cell? ⟨w.heap.size,1,none⟩=some (.pointer (some ⟨cb,0,none⟩))∧w'.cell? ⟨w2.heap.size,0,none⟩=some (.int .i64 (V 6))∧w'.cell? ⟨w2.heap.size,1,none⟩=some (.int .i64 (V 7))) (by kernel_rfl) ?_ (fun hHeld=> ?_)
   · (try dsimp only)
     (first|(go_simp;done)|(go_keep;done))
   refine tq 0 hHeld ?_
   refine tq 1 hHeld ?_
   refine tq 2 hHeld ?_
   refine tq 5 hHeld ?_
   refine tq 6 hHeld ?_
   refine tq 7 hHeld ?_
   (refine tc 3 fun K hK=> ?_;go_simp;(go_at_call 60;refine(kMass (h.below (by exact bel_a))).mono ?_;rintro e w3 ⟨rfl,hb3⟩;have hz3:=hb3.size;(try simp only[zz] at hz3);have:=kf2 hb3 w.heap.size;have:=kfa hb3 w2.heap.size);(try go_wp2_with fail);refine tr hK (fun hHeld=> ?_);clear hK K)
   refine tq 4 hHeld ?_
   (refine tc 8 fun K hK=> ?_;go_simp;(go_at_call 60;refine(kMass (h.below (by exact bel_a))).mono ?_;rintro e w4 ⟨rfl,hb4⟩;have hz4:=hb4.size;(try simp only[zz] at hz4);have:=kf2 hb4 w.heap.size;have:=kfa hb4 w2.heap.size);(try go_wp2_with fail);refine tr hK (fun hHeld=> ?_);clear hK K)
   refine tq 9 hHeld ?_
   refine tq 10 hHeld ?_
   (refine tc 11 fun K hK=> ?_;go_simp;refine tr hK (fun hHeld=> ?_);clear hK K)
   refine wpAnyH_done (by kernel_rfl) ?_ _
   go_wp2_with fail
   exact bodyPost_ret (v:=vv ((V 6).tdiv (V 8)) ((V 7).tdiv (V 8))) (by simp[results,Tryz.results26,go_sem, *]) rfl ⟨rfl,bel_a⟩
theorem kNearing (V1 V2:Nat→Int) (x y k:Int) (cb nn i j:Nat) (G1 G2:Nat→Nat) (w:World) (h1:HAt w cb nn i V1 G1) (h2:HAt w cb nn j V2 G2) (b6: -20000000≤V1 6∧V1 6≤20000000) (b7: -20000000≤V1 7∧V1 7≤20000000) (d6: -20000000≤V2 6∧V2 6≤20000000) (d7: -20000000≤V2 7∧V2 7≤20000000):
 Calls Tryz.prog 192 #[(.agg #[.int .i64 x,.int .i64 y,.int .i64 k,.int .i64 (i:Int),.pointer (some ⟨cb,0,none⟩),.int .i64 (j:Int),.pointer (some ⟨cb,0,none⟩)])] w fun e w'=>e= .returned (vv (spX V1-spX V2) (spY V1-spY V2))∧Below w.heap.size w w':=by
 have hset:=cset_map
 have sx1:=spX_bd V1 b6
 have sy1:=spY_bd V1 b7
 have sx2:=spX_bd V2 d6
 have sy2:=spY_bd V2 d7
 have l1:=h1.cbl
 have l2:=h2.cbl
 go_enter Tryz.func192,Tryz.ntmps192
 go_upto_region 1 with fail
 refine wp_region_held_drew (S:=fun w'=>w'.cell? ⟨w.heap.size,0,none⟩=some (.int .i64 x)∧w'.cell? ⟨w.heap.size,1,none⟩=some (.int .i64 y)∧w'.cell? ⟨w.heap.size,2,none⟩=some (.int .i64 k)∧w'.cell? ⟨w.heap.size,3,none⟩=some (.int .i64 (i:Int))∧w'.cell? ⟨w.heap.size,4,none⟩=some (.pointer (some ⟨cb,0,none⟩))∧w'.cell? ⟨w.heap.size,5,none⟩=some (.int .i64 (j:Int))∧w'.cell? ⟨w.heap.size,6,none⟩=some (.pointer (some ⟨cb,0,none⟩))) (by kernel_rfl) ?_ (fun hHeld=> ?_)
 · (try dsimp only)
   (first|(go_simp;done)|(go_keep;done))
 refine tq 0 hHeld ?_
 refine tq 1 hHeld ?_
 refine tq 3 hHeld ?_
 refine tq 4 hHeld ?_
 (refine tc 2 fun K hK=> ?_;go_simp;(go_at_call 26;refine(kSpeed (h1.below (by exact bel_a)) (by omega) (by omega)).mono ?_;rintro e w1 ⟨rfl,hb1⟩;have hz1:=hb1.size;(try simp only[zz] at hz1);have:=kf2 hb1 w.heap.size);(try go_wp2_with fail);refine tr hK (fun hHeld=> ?_);clear hK K)
 (refine tc 5 fun K hK=> ?_;go_simp;(go_at_call 26;refine(kSpeed (h2.below (by exact bel_a)) (by omega) (by omega)).mono ?_;rintro e w2 ⟨rfl,hb2⟩;have hz2:=hb2.size;(try simp only[zz] at hz2);have:=kf2 hb2 w.heap.size);(try go_wp2_with fail);refine tr hK (fun hHeld=> ?_);clear hK K)
 (refine tc 6 fun K hK=> ?_;go_simp;(go_at_call 149;refine(less_any _ _ _ _ _ (by omega) (by omega) (by omega) (by omega)).mono ?_;rintro e w3 ⟨rfl,hb3⟩;have hz3:=hb3.size;(try simp only[zz] at hz3);have:=kf2 hb3 w.heap.size);(try go_wp2_with fail);refine tr hK (fun hHeld=> ?_);clear hK K)
 (refine tc 7 fun K hK=> ?_;go_simp;refine tr hK (fun hHeld=> ?_);clear hK K)
 refine wpAnyH_done (by kernel_rfl) ?_ _
 go_wp2_with fail
 exact bodyPost_ret (v:=vv (spX V1-spX V2) (spY V1-spY V2)) (by simp[results,Tryz.results192,go_sem, *]) rfl ⟨rfl,bel_a⟩
theorem kClosing (V1 V2:Nat→Int) (x y k:Int) (cb nn i j:Nat) (G1 G2:Nat→Nat) (w:World) (h1:HAt w cb nn i V1 G1) (h2:HAt w cb nn j V2 G2) (b6: -20000000≤V1 6∧V1 6≤20000000) (b7: -20000000≤V1 7∧V1 7≤20000000) (d6: -20000000≤V2 6∧V2 6≤20000000) (d7: -20000000≤V2 7∧V2 7≤20000000) (bx: -256≤x∧x≤256) (bY: -256≤y∧y≤256):
 Calls Tryz.prog 190 #[(.agg #[.int .i64 x,.int .i64 y,.int .i64 k,.int .i64 (i:Int),.pointer (some ⟨cb,0,none⟩),.int .i64 (j:Int),.pointer (some ⟨cb,0,none⟩)])] w fun e w'=>e= .returned (.int .i64 (closeV V1 V2 x y))∧Below w.heap.size w w':=by
 have hset:=cset_map
 have sx1:=spX_bd V1 b6
 have sy1:=spY_bd V1 b7
 have sx2:=spX_bd V2 d6
 have sy2:=spY_bd V2 d7
 have l1:=h1.cbl
 have l2:=h2.cbl
 go_enter Tryz.func190,Tryz.ntmps190
 go_upto_region 1 with fail
 refine wp_region_held_drew (S:=fun w'=>w'.cell? ⟨w.heap.size,0,none⟩=some (.int .i64 x)∧w'.cell? ⟨w.heap.size,1,none⟩=some (.int .i64 y)∧w'.cell? ⟨w.heap.size,2,none⟩=some (.int .i64 k)∧w'.cell? ⟨w.heap.size,3,none⟩=some (.int .i64 (i:Int))∧w'.cell? ⟨w.heap.size,4,none⟩=some (.pointer (some ⟨cb,0,none⟩))∧w'.cell? ⟨w.heap.size,5,none⟩=some (.int .i64 (j:Int))∧w'.cell? ⟨w.heap.size,6,none⟩=some (.pointer (some ⟨cb,0,none⟩))) (by kernel_rfl) ?_ (fun hHeld=> ?_)
 · (try dsimp only)
   (first|(go_simp;done)|(go_keep;done))
 refine tq 0 hHeld ?_
 refine tq 2 hHeld ?_
 refine tq 3 hHeld ?_
 refine tq 4 hHeld ?_
 (refine tc 1 fun K hK=> ?_;go_simp;(go_at_call 192;refine(kNearing V1 V2 x y k cb nn i j G1 G2 _ (h1.below (by exact bel_a)) (h2.below (by exact bel_a)) (by omega) (by omega) (by omega) (by omega)).mono ?_;rintro e w1 ⟨rfl,hb1⟩;have hz1:=hb1.size;(try simp only[zz] at hz1);have:=kfa hb1 w.heap.size);(try go_wp2_with fail);refine tr hK (fun hHeld=> ?_);clear hK K)
 (refine tc 5 fun K hK=> ?_;go_simp;(go_at_call 193;refine(dot_any _ _ _ _ _ (by omega) (by omega) (by omega) (by omega)).mono ?_;rintro e w2 ⟨rfl,hb2⟩;have hz2:=hb2.size;(try simp only[zz] at hz2);have:=kfa hb2 w.heap.size);(try go_wp2_with fail);refine tr hK (fun hHeld=> ?_);clear hK K)
 refine tq 6 hHeld ?_
 refine wpAnyH_done (by kernel_rfl) ?_ _
 go_wp2_with fail
 go_ret
 exact⟨rfl,bel_a⟩
theorem kTogether (V1 V2:Nat→Int) (x y k:Int) (cb nn i j:Nat) (G1 G2:Nat→Nat) (n P:Int) (w:World) (h1:HAt w cb nn i V1 G1) (h2:HAt w cb nn j V2 G2) (a0:0≤V1 8∧V1 8≤1000) (a1:0≤V2 8∧V2 8≤1000) (bn: -1000000000≤n∧n≤1000000000) (eP:togV V1 V2 n=P):
 Calls Tryz.prog 191 #[(.agg #[.int .i64 x,.int .i64 y,.int .i64 k,.int .i64 (i:Int),.pointer (some ⟨cb,0,none⟩),.int .i64 (j:Int),.pointer (some ⟨cb,0,none⟩)]),.int .i64 n] w fun e w'=>e= .returned (.int .i64 P)∧Below w.heap.size w w':=by
 have hset:=cset_map
 subst eP
 have p1:=mul_bd (a:=n) (b:=V1 8+V2 8) (A:=1000000000) (B:=2000) (by omega) (by omega)
 have p2:=mul_bd (a:=n) (b:=V1 8) (A:=1000000000) (B:=1000) (by omega) (by omega)
 have p3:=mul_bd (a:=n*V1 8) (b:=V2 8) (A:=1000000000000) (B:=1000) (by omega) (by omega)
 have p4:=mul_bd (a:=n) (b:=V2 8) (A:=1000000000) (B:=1000) (by omega) (by omega)
 have p5:=tdiv_bd (x:=n*V1 8*V2 8) (B:=1000000000000000) (V1 8+V2 8) (by omega)
 have l1:=h1.cbl
 have l2:=h2.cbl
 unfold togV
 go_enter Tryz.func191,Tryz.ntmps191
 go_upto_region 1 with fail
 refine wp_region_held_drew (S:=fun w'=>w'.cell? ⟨w.heap.size,0,none⟩=some (.int .i64 x)∧w'.cell? ⟨w.heap.size,1,none⟩=some (.int .i64 y)∧w'.cell? ⟨w.heap.size,2,none⟩=some (.int .i64 k)∧w'.cell? ⟨w.heap.size,3,none⟩=some (.int .i64 (i:Int))∧w'.cell? ⟨w.heap.size,4,none⟩=some (.pointer (some ⟨cb,0,none⟩))∧w'.cell? ⟨w.heap.size,5,none⟩=some (.int .i64 (j:Int))∧w'.cell? ⟨w.heap.size,6,none⟩=some (.pointer (some ⟨cb,0,none⟩))) (by kernel_rfl) ?_ (fun hHeld=> ?_)
 · (try dsimp only)
   (first|(go_simp;done)|(go_keep;done))
 refine tq 0 hHeld ?_
 refine tq 1 hHeld ?_
 refine tq 3 hHeld ?_
 refine tq 4 hHeld ?_
 (refine tc 2 fun K hK=> ?_;go_simp;(go_at_call 60;refine(kMass (h1.below (by exact bel_a))).mono ?_;rintro e w1 ⟨rfl,hb1⟩;have hz1:=hb1.size;(try simp only[zz] at hz1);have:=kfa hb1 w.heap.size);(try go_wp2_with fail);refine tr hK (fun hHeld=> ?_);clear hK K)
 (refine tc 5 fun K hK=> ?_;go_simp;(go_at_call 60;refine(kMass (h2.below (by exact bel_a))).mono ?_;rintro e w2 ⟨rfl,hb2⟩;have hz2:=hb2.size;(try simp only[zz] at hz2);have:=kfa hb2 w.heap.size);(try go_wp2_with fail);refine tr hK (fun hHeld=> ?_);clear hK K)
 refine tq 6 hHeld ?_
 refine tq 7 hHeld ?_
 refine wpAnyH_done (by kernel_rfl) ?_ _
 by_cases z1:V1 8=0
 · go_wp2_with fail
   go_ret
   exact⟨ret_int (by first|rfl|(rw[if_pos (Or.inl z1)];simp[z1];done)),bel_a⟩
 · by_cases z2:V2 8=0
   · go_wp2_with fail
     go_ret
     exact⟨ret_int (by first|rfl|(rw[if_pos (Or.inr z2)];simp[z2];done)),bel_a⟩
   · have z3:(V1 8+V2 8=0)=False:=eq_false (by omega)
     have z1f:(V1 8==0)=false:=by simp[z1]
     have z2f:(V2 8==0)=false:=by simp[z2]
     go_wp2_with fail
     all_goals
      go_ret
      exact⟨ret_int (by first|rfl|(exfalso;simp_all;done)|(exfalso;simp at*;omega)),bel_a⟩
theorem kClosing_q (V1 V2:Nat→Int) (x y k:Int) (cb nn i j:Nat) (G1 G2:Nat→Nat) (c:Int) (w:World) (h1:HAt w cb nn i V1 G1) (h2:HAt w cb nn j V2 G2) (b6: -20000000≤V1 6∧V1 6≤20000000) (b7: -20000000≤V1 7∧V1 7≤20000000) (d6: -20000000≤V2 6∧V2 6≤20000000) (d7: -20000000≤V2 7∧V2 7≤20000000) (bx: -256≤x∧x≤256) (bY: -256≤y∧y≤256) (ec:closeV V1 V2 x y=c):
 Calls Tryz.prog 190 #[(.agg #[.int .i64 x,.int .i64 y,.int .i64 k,.int .i64 (i:Int),.pointer (some ⟨cb,0,none⟩),.int .i64 (j:Int),.pointer (some ⟨cb,0,none⟩)])] w fun e w'=>e= .returned (.int .i64 c)∧Below w.heap.size w w':=by
 subst ec;exact kClosing V1 V2 x y k cb nn i j G1 G2 w h1 h2 b6 b7 d6 d7 bx bY
theorem dot_q2 (x y u v D:Int) (w:World) (hx: -1000000000≤x∧x≤1000000000) (hy: -1000000000≤y∧y≤1000000000) (hu: -1000000000≤u∧u≤1000000000) (hv: -1000000000≤v∧v≤1000000000) (e:fc ((x*u+y*v).tdiv 256)=D):
 Calls Tryz.prog 193 #[vv x y,vv u v] w fun e w'=>e= .returned (.int .i64 D)∧Below w.heap.size w w':=by
 subst e;exact dot_any x y u v w hx hy hu hv
theorem held_w (n l a:Int) (w:World) (h0:0≤l) (h1:l≤1000000000000000) (e:clampZ l n=a):
 Calls Tryz.prog 91 #[.int .i64 n,.int .i64 l] w fun e w'=>e= .returned (.int .i64 a)∧Below w.heap.size w w':=by
 subst e
 go_enter Tryz.func91,Tryz.ntmps91
 go_wp2
 all_goals
  go_ret
  refine⟨ret_int ?_,Below.refl _ _⟩
  unfold clampZ
  repeat' split
  all_goals omega
theorem kPushed_t (V1 V2:Nat→Int) (x y k:Int) (cb nn i j:Nat) (G1 G2:Nat→Nat) (b r c n P D T M A:Int) (w:World) (h1:HAt w cb nn i V1 G1) (h2:HAt w cb nn j V2 G2) (a0:0≤V1 8∧V1 8≤1000) (a1:0≤V2 8∧V2 8≤1000) (b6: -20000000≤V1 6∧V1 6≤20000000) (b7: -20000000≤V1 7∧V1 7≤20000000) (d6: -20000000≤V2 6∧V2 6≤20000000) (d7: -20000000≤V2 7∧V2 7≤20000000) (bx: -256≤x∧x≤256) (bY: -256≤y∧y≤256) (ec:closeV V1 V2 x y=c) (eb:(if V1 9<V2 9 then V2 9 else V1 9)=b) (er:(if V2 10<V1 10 then V2 10 else V1 10)=r) (eP:togV V1 V2 n=P) (eD:fc (((spX V1-spX V2)*(-y)+(spY V1-spY V2)*x).tdiv 256)=D) (eS:togV V1 V2 D=T) (eM:(P*r).tdiv 256=M) (eA:clampZ M T=A) (en:c+(c*b).tdiv 256=n) (bc:0<c∧c≤100000000) (b0:0≤b∧b≤256) (r0:0≤r∧r≤256) (bn:0<n∧n≤200000000) (bP:0≤P∧P≤200000000000000) (bD: -100000000≤D∧D≤100000000) (bT: -100000000000000≤T∧T≤100000000000000) (bM:0≤M∧M≤200000000000000) (bA: -200000000000000≤A∧A≤200000000000000):
 Calls Tryz.prog 184 #[(.agg #[.int .i64 x,.int .i64 y,.int .i64 k,.int .i64 (i:Int),.pointer (some ⟨cb,0,none⟩),.int .i64 (j:Int),.pointer (some ⟨cb,0,none⟩)]),.bool true] w fun e w'=>e= .returned (vv (clampZ 20000000 ((P*x+A*(-y)).tdiv 256)) (clampZ 20000000 ((P*y+A*x).tdiv 256)))∧Below w.heap.size w w':=by
 have hset:=cset_map
 have m1:=mul_bd (a:=c) (b:=b) (A:=100000000) (B:=256) (by omega) (by omega)
 have m2:=tdiv_bd (x:=c*b) (B:=25600000000) 256 (by omega)
 have m3:=mul_bd (a:=P) (b:=r) (A:=200000000000000) (B:=256) (by omega) (by omega)
 have m4:=mul_bd (a:=P) (b:=x) (A:=200000000000000) (B:=256) (by omega) (by omega)
 have m5:=mul_bd (a:=P) (b:=y) (A:=200000000000000) (B:=256) (by omega) (by omega)
 have m6:=mul_bd (a:=A) (b:= -y) (A:=200000000000000) (B:=256) (by omega) (by omega)
 have m7:=mul_bd (a:=A) (b:=x) (A:=200000000000000) (B:=256) (by omega) (by omega)
 have m8:=tdiv_bd (x:=P*x+A*(-y)) (B:=200000000000000000) 256 (by omega)
 have m9:=tdiv_bd (x:=P*y+A*x) (B:=200000000000000000) 256 (by omega)
 have w1_:IntKind.i64.wrap (c*b)=c*b:=i64w (by omega)
 have w2_:IntKind.i64.wrap ((c*b).tdiv 256)=(c*b).tdiv 256:=i64w (by omega)
 have w3_:IntKind.i64.wrap (c+(c*b).tdiv 256)=c+(c*b).tdiv 256:=i64w (by omega)
 have w4_:IntKind.i64.wrap (P*r)=P*r:=i64w (by omega)
 have w5_:IntKind.i64.wrap ((P*r).tdiv 256)=M:=by rw[eM];exact i64w (by omega)
 have w6_:IntKind.i64.wrap M=M:=i64w (by omega)
 have w7_:IntKind.i64.wrap n=n:=i64w (by omega)
 have sx1:=spX_bd V1 b6
 have sy1:=spY_bd V1 b7
 have sx2:=spX_bd V2 d6
 have sy2:=spY_bd V2 d7
 have l1:=h1.cbl
 have l2:=h2.cbl
 go_enter Tryz.func184,Tryz.ntmps184
 go_upto_region 5 with(go_at_call 190;refine(kClosing_q V1 V2 x y k cb nn i j G1 G2 _ _ (h1.below (by exact bel_a)) (h2.below (by exact bel_a)) (by omega) (by omega) (by omega) (by omega) (by omega) (by omega) (by with_reducible assumption)).mono ?_;rintro e w1 ⟨rfl,hb1⟩;have hz1:=hb1.size;(try simp only[zz] at hz1);have:=kf2 hb1 w.heap.size)
 refine wp_region_held_drew (S:=fun w'=>w'.cell? ⟨w.heap.size,0,none⟩=some (.int .i64 x)∧w'.cell? ⟨w.heap.size,1,none⟩=some (.int .i64 y)∧w'.cell? ⟨w.heap.size,2,none⟩=some (.int .i64 k)∧w'.cell? ⟨w.heap.size,3,none⟩=some (.int .i64 (i:Int))∧w'.cell? ⟨w.heap.size,4,none⟩=some (.pointer (some ⟨cb,0,none⟩))∧w'.cell? ⟨w.heap.size,5,none⟩=some (.int .i64 (j:Int))∧w'.cell? ⟨w.heap.size,6,none⟩=some (.pointer (some ⟨cb,0,none⟩))) (by kernel_rfl) ?_ (fun hHeld=> ?_)
 · (try dsimp only)
   (first|(go_simp;done)|(go_keep;done))
 refine tq 0 hHeld ?_
 refine tq 1 hHeld ?_
 refine tq 2 hHeld ?_
 refine tq 3 hHeld ?_
 refine tq 5 hHeld ?_
 refine tq 6 hHeld ?_
 (refine tc 4 fun K hK=> ?_;go_simp;(go_at_call 62;refine(kBounce (h1.below (by exact bel_a))).mono ?_;rintro e w2 ⟨rfl,hb2⟩;have hz2:=hb2.size;(try simp only[zz] at hz2);have:=kf2 hb2 w.heap.size);(try go_wp2_with fail);refine tr hK (fun hHeld=> ?_);clear hK K)
 (refine tc 7 fun K hK=> ?_;go_simp;(go_at_call 62;refine(kBounce (h2.below (by exact bel_a))).mono ?_;rintro e w3 ⟨rfl,hb3⟩;have hz3:=hb3.size;(try simp only[zz] at hz3);have:=kf2 hb3 w.heap.size);(try go_wp2_with fail);refine tr hK (fun hHeld=> ?_);clear hK K)
 refine tq 8 hHeld ?_
 refine tq 9 hHeld ?_
 refine tq 10 hHeld ?_
 refine tq 11 hHeld ?_
 refine tq 12 hHeld ?_
 refine wpAnyH_done (by kernel_rfl) ?_ _
 go_upto_region 8 with(go_at_call 191;refine(kTogether V1 V2 x y k cb nn i j G1 G2 _ _ _ (h1.below (by exact bel_a)) (h2.below (by exact bel_a)) (by omega) (by omega) (by omega) (by with_reducible assumption)).mono ?_;rintro e w4 ⟨rfl,hb4⟩;have hz4:=hb4.size;(try simp only[zz] at hz4);have:=kf2 hb4 w.heap.size)
 refine wp_region_held_drew (S:=fun w'=>w'.cell? ⟨w.heap.size,0,none⟩=some (.int .i64 x)∧w'.cell? ⟨w.heap.size,1,none⟩=some (.int .i64 y)∧w'.cell? ⟨w.heap.size,2,none⟩=some (.int .i64 k)∧w'.cell? ⟨w.heap.size,3,none⟩=some (.int .i64 (i:Int))∧w'.cell? ⟨w.heap.size,4,none⟩=some (.pointer (some ⟨cb,0,none⟩))∧w'.cell? ⟨w.heap.size,5,none⟩=some (.int .i64 (j:Int))∧w'.cell? ⟨w.heap.size,6,none⟩=some (.pointer (some ⟨cb,0,none⟩))∧w'.cell? ⟨w4.heap.size,0,none⟩=some (.int .i64 (-y))∧w'.cell? ⟨w4.heap.size,1,none⟩=some (.int .i64 x)) (by kernel_rfl) ?_ (fun hHeld=> ?_)
 · (try dsimp only)
   (first|(go_simp;done)|(go_keep;done))
 refine tq 0 hHeld ?_
 refine tq 1 hHeld ?_
 refine tq 2 hHeld ?_
 refine tq 4 hHeld ?_
 refine tq 5 hHeld ?_
 (refine tc 3 fun K hK=> ?_;go_simp;(go_at_call 63;refine(kRub (h1.below (by exact bel_a))).mono ?_;rintro e w5 ⟨rfl,hb5⟩;have hz5:=hb5.size;(try simp only[zz] at hz5);have:=kf2 hb5 w.heap.size;have:=kfa hb5 w4.heap.size);(try go_wp2_with fail);refine tr hK (fun hHeld=> ?_);clear hK K)
 (refine tc 6 fun K hK=> ?_;go_simp;(go_at_call 63;refine(kRub (h2.below (by exact bel_a))).mono ?_;rintro e w6 ⟨rfl,hb6⟩;have hz6:=hb6.size;(try simp only[zz] at hz6);have:=kf2 hb6 w.heap.size;have:=kfa hb6 w4.heap.size);(try go_wp2_with fail);refine tr hK (fun hHeld=> ?_);clear hK K)
 refine tq 7 hHeld ?_
 refine tq 8 hHeld ?_
 refine tq 9 hHeld ?_
 refine tq 10 hHeld ?_
 refine wpAnyH_done (by kernel_rfl) ?_ _
 go_upto_region 9 with fail
 refine wp_region_held_drew (S:=fun w'=>w'.cell? ⟨w.heap.size,0,none⟩=some (.int .i64 x)∧w'.cell? ⟨w.heap.size,1,none⟩=some (.int .i64 y)∧w'.cell? ⟨w.heap.size,2,none⟩=some (.int .i64 k)∧w'.cell? ⟨w.heap.size,3,none⟩=some (.int .i64 (i:Int))∧w'.cell? ⟨w.heap.size,4,none⟩=some (.pointer (some ⟨cb,0,none⟩))∧w'.cell? ⟨w.heap.size,5,none⟩=some (.int .i64 (j:Int))∧w'.cell? ⟨w.heap.size,6,none⟩=some (.pointer (some ⟨cb,0,none⟩))∧w'.cell? ⟨w4.heap.size,0,none⟩=some (.int .i64 (-y))∧w'.cell? ⟨w4.heap.size,1,none⟩=some (.int .i64 x)) (by kernel_rfl) ?_ (fun hHeld=> ?_)
 · (try dsimp only)
   (first|(go_simp;done)|(go_keep;done))
 refine tq 0 hHeld ?_
 refine tq 1 hHeld ?_
 refine tq 3 hHeld ?_
 refine tq 6 hHeld ?_
 (refine tc 2 fun K hK=> ?_;go_simp;(go_at_call 192;refine(kNearing V1 V2 x y k cb nn i j G1 G2 _ (h1.below (by exact bel_a)) (h2.below (by exact bel_a)) (by omega) (by omega) (by omega) (by omega)).mono ?_;rintro e w7 ⟨rfl,hb7⟩;have hz7:=hb7.size;(try simp only[zz] at hz7);have:=kf2 hb7 w.heap.size;have:=kfa hb7 w4.heap.size);(try go_wp2_with fail);refine tr hK (fun hHeld=> ?_);clear hK K)
 (refine tc 4 fun K hK=> ?_;go_simp;(go_at_call 193;refine(dot_q2 _ _ _ _ _ _ (by omega) (by omega) (by omega) (by omega) (by with_reducible assumption)).mono ?_;rintro e w8 ⟨rfl,hb8⟩;have hz8:=hb8.size;(try simp only[zz] at hz8);have:=kf2 hb8 w.heap.size;have:=kfa hb8 w4.heap.size);(try go_wp2_with fail);refine tr hK (fun hHeld=> ?_);clear hK K)
 (refine tc 5 fun K hK=> ?_;go_simp;(go_at_call 191;refine(kTogether V1 V2 x y k cb nn i j G1 G2 _ _ _ (h1.below (by exact bel_a)) (h2.below (by exact bel_a)) (by omega) (by omega) (by omega) (by with_reducible assumption)).mono ?_;rintro e w9 ⟨rfl,hb9⟩;have hz9:=hb9.size;(try simp only[zz] at hz9);have:=kf2 hb9 w.heap.size;have:=kfa hb9 w4.heap.size);(try go_wp2_with fail);refine tr hK (fun hHeld=> ?_);clear hK K)
 (refine tc 7 fun K hK=> ?_;go_simp;(go_at_call 91;refine(held_w _ _ _ _ (by omega) (by omega) (by with_reducible assumption)).mono ?_;rintro e w10 ⟨rfl,hb10⟩;have hz10:=hb10.size;(try simp only[zz] at hz10);have:=kf2 hb10 w.heap.size;have:=kfa hb10 w4.heap.size);(try go_wp2_with fail);refine tr hK (fun hHeld=> ?_);clear hK K)
 refine tq 8 hHeld ?_
 refine wpAnyH_done (by kernel_rfl) ?_ _
 go_wp2_with (go_at_call 57;refine(wayHeld_any _ _ _ _ (by omega) (by omega)).mono ?_;rintro e w11 ⟨rfl,hb11⟩;have hz11:=hb11.size;(try simp only[zz] at hz11);have:=kf2 hb11 w.heap.size;have:=kfa hb11 w4.heap.size)
 exact bodyPost_ret (v:=vv (clampZ 20000000 ((P*x+A*(-y)).tdiv 256)) (clampZ 20000000 ((P*y+A*x).tdiv 256))) (by simp[results,Tryz.results184,go_sem, *]) rfl ⟨rfl,bel_a⟩
theorem kPushed_f (V1 V2:Nat→Int) (x y k:Int) (cb nn i j:Nat) (G1 G2:Nat→Nat) (b r c n P D T M A:Int) (w:World) (h1:HAt w cb nn i V1 G1) (h2:HAt w cb nn j V2 G2) (a0:0≤V1 8∧V1 8≤1000) (a1:0≤V2 8∧V2 8≤1000) (b6: -20000000≤V1 6∧V1 6≤20000000) (b7: -20000000≤V1 7∧V1 7≤20000000) (d6: -20000000≤V2 6∧V2 6≤20000000) (d7: -20000000≤V2 7∧V2 7≤20000000) (bx: -256≤x∧x≤256) (bY: -256≤y∧y≤256) (ec:closeV V1 V2 x y=c) (eb:(if V1 9<V2 9 then V2 9 else V1 9)=b) (er:(if V2 10<V1 10 then V2 10 else V1 10)=r) (eP:togV V1 V2 n=P) (eD:fc (((spX V1-spX V2)*(-y)+(spY V1-spY V2)*x).tdiv 256)=D) (eS:togV V1 V2 D=T) (eM:(P*r).tdiv 256=M) (eA:clampZ M T=A) (en:c=n) (bc:0<c∧c≤100000000) (b0:0≤b∧b≤256) (r0:0≤r∧r≤256) (bn:0<n∧n≤200000000) (bP:0≤P∧P≤200000000000000) (bD: -100000000≤D∧D≤100000000) (bT: -100000000000000≤T∧T≤100000000000000) (bM:0≤M∧M≤200000000000000) (bA: -200000000000000≤A∧A≤200000000000000):
 Calls Tryz.prog 184 #[(.agg #[.int .i64 x,.int .i64 y,.int .i64 k,.int .i64 (i:Int),.pointer (some ⟨cb,0,none⟩),.int .i64 (j:Int),.pointer (some ⟨cb,0,none⟩)]),.bool false] w fun e w'=>e= .returned (vv (clampZ 20000000 ((P*x+A*(-y)).tdiv 256)) (clampZ 20000000 ((P*y+A*x).tdiv 256)))∧Below w.heap.size w w':=by
 have hset:=cset_map
 subst en
 have m1:=mul_bd (a:=c) (b:=b) (A:=100000000) (B:=256) (by omega) (by omega)
 have m2:=tdiv_bd (x:=c*b) (B:=25600000000) 256 (by omega)
 have m3:=mul_bd (a:=P) (b:=r) (A:=200000000000000) (B:=256) (by omega) (by omega)
 have m4:=mul_bd (a:=P) (b:=x) (A:=200000000000000) (B:=256) (by omega) (by omega)
 have m5:=mul_bd (a:=P) (b:=y) (A:=200000000000000) (B:=256) (by omega) (by omega)
 have m6:=mul_bd (a:=A) (b:= -y) (A:=200000000000000) (B:=256) (by omega) (by omega)
 have m7:=mul_bd (a:=A) (b:=x) (A:=200000000000000) (B:=256) (by omega) (by omega)
 have m8:=tdiv_bd (x:=P*x+A*(-y)) (B:=200000000000000000) 256 (by omega)
 have m9:=tdiv_bd (x:=P*y+A*x) (B:=200000000000000000) 256 (by omega)
 have w1_:IntKind.i64.wrap (c*b)=c*b:=i64w (by omega)
 have w2_:IntKind.i64.wrap ((c*b).tdiv 256)=(c*b).tdiv 256:=i64w (by omega)
 have w3_:IntKind.i64.wrap (c+(c*b).tdiv 256)=c+(c*b).tdiv 256:=i64w (by omega)
 have w4_:IntKind.i64.wrap (P*r)=P*r:=i64w (by omega)
 have w5_:IntKind.i64.wrap ((P*r).tdiv 256)=M:=by rw[eM];exact i64w (by omega)
 have w6_:IntKind.i64.wrap M=M:=i64w (by omega)
 have sx1:=spX_bd V1 b6
 have sy1:=spY_bd V1 b7
 have sx2:=spX_bd V2 d6
 have sy2:=spY_bd V2 d7
 have l1:=h1.cbl
 have l2:=h2.cbl
 go_enter Tryz.func184,Tryz.ntmps184
 go_upto_region 8 with(first
  |(go_at_call 191;refine(kTogether V1 V2 x y k cb nn i j G1 G2 _ _ _ (h1.below (by exact bel_a)) (h2.below (by exact bel_a)) (by omega) (by omega) (by omega) (by with_reducible assumption)).mono ?_;rintro e w4 ⟨rfl,hb4⟩;have hz4:=hb4.size;(try simp only[zz] at hz4);have:=kf2 hb4 w.heap.size)
  |(go_at_call 190;refine(kClosing_q V1 V2 x y k cb nn i j G1 G2 _ _ (h1.below (by exact bel_a)) (h2.below (by exact bel_a)) (by omega) (by omega) (by omega) (by omega) (by omega) (by omega) (by with_reducible assumption)).mono ?_;rintro e w1 ⟨rfl,hb1⟩;have hz1:=hb1.size;(try simp only[zz] at hz1);have:=kf2 hb1 w.heap.size))
 refine wp_region_held_drew (S:=fun w'=>w'.cell? ⟨w.heap.size,0,none⟩=some (.int .i64 x)∧w'.cell? ⟨w.heap.size,1,none⟩=some (.int .i64 y)∧w'.cell? ⟨w.heap.size,2,none⟩=some (.int .i64 k)∧w'.cell? ⟨w.heap.size,3,none⟩=some (.int .i64 (i:Int))∧w'.cell? ⟨w.heap.size,4,none⟩=some (.pointer (some ⟨cb,0,none⟩))∧w'.cell? ⟨w.heap.size,5,none⟩=some (.int .i64 (j:Int))∧w'.cell? ⟨w.heap.size,6,none⟩=some (.pointer (some ⟨cb,0,none⟩))∧w'.cell? ⟨w4.heap.size,0,none⟩=some (.int .i64 (-y))∧w'.cell? ⟨w4.heap.size,1,none⟩=some (.int .i64 x)) (by kernel_rfl) ?_ (fun hHeld=> ?_)
 · (try dsimp only)
   (first|(go_simp;done)|(go_keep;done))
 refine tq 0 hHeld ?_
 refine tq 1 hHeld ?_
 refine tq 2 hHeld ?_
 refine tq 4 hHeld ?_
 refine tq 5 hHeld ?_
 (refine tc 3 fun K hK=> ?_;go_simp;(go_at_call 63;refine(kRub (h1.below (by exact bel_a))).mono ?_;rintro e w5 ⟨rfl,hb5⟩;have hz5:=hb5.size;(try simp only[zz] at hz5);have:=kf2 hb5 w.heap.size;have:=kfa hb5 w4.heap.size);(try go_wp2_with fail);refine tr hK (fun hHeld=> ?_);clear hK K)
 (refine tc 6 fun K hK=> ?_;go_simp;(go_at_call 63;refine(kRub (h2.below (by exact bel_a))).mono ?_;rintro e w6 ⟨rfl,hb6⟩;have hz6:=hb6.size;(try simp only[zz] at hz6);have:=kf2 hb6 w.heap.size;have:=kfa hb6 w4.heap.size);(try go_wp2_with fail);refine tr hK (fun hHeld=> ?_);clear hK K)
 refine tq 7 hHeld ?_
 refine tq 8 hHeld ?_
 refine tq 9 hHeld ?_
 refine tq 10 hHeld ?_
 refine wpAnyH_done (by kernel_rfl) ?_ _
 go_upto_region 9 with fail
 refine wp_region_held_drew (S:=fun w'=>w'.cell? ⟨w.heap.size,0,none⟩=some (.int .i64 x)∧w'.cell? ⟨w.heap.size,1,none⟩=some (.int .i64 y)∧w'.cell? ⟨w.heap.size,2,none⟩=some (.int .i64 k)∧w'.cell? ⟨w.heap.size,3,none⟩=some (.int .i64 (i:Int))∧w'.cell? ⟨w.heap.size,4,none⟩=some (.pointer (some ⟨cb,0,none⟩))∧w'.cell? ⟨w.heap.size,5,none⟩=some (.int .i64 (j:Int))∧w'.cell? ⟨w.heap.size,6,none⟩=some (.pointer (some ⟨cb,0,none⟩))∧w'.cell? ⟨w4.heap.size,0,none⟩=some (.int .i64 (-y))∧w'.cell? ⟨w4.heap.size,1,none⟩=some (.int .i64 x)) (by kernel_rfl) ?_ (fun hHeld=> ?_)
 · (try dsimp only)
   (first|(go_simp;done)|(go_keep;done))
 refine tq 0 hHeld ?_
 refine tq 1 hHeld ?_
 refine tq 3 hHeld ?_
 refine tq 6 hHeld ?_
 (refine tc 2 fun K hK=> ?_;go_simp;(go_at_call 192;refine(kNearing V1 V2 x y k cb nn i j G1 G2 _ (h1.below (by exact bel_a)) (h2.below (by exact bel_a)) (by omega) (by omega) (by omega) (by omega)).mono ?_;rintro e w7 ⟨rfl,hb7⟩;have hz7:=hb7.size;(try simp only[zz] at hz7);have:=kf2 hb7 w.heap.size;have:=kfa hb7 w4.heap.size);(try go_wp2_with fail);refine tr hK (fun hHeld=> ?_);clear hK K)
 (refine tc 4 fun K hK=> ?_;go_simp;(go_at_call 193;refine(dot_q2 _ _ _ _ _ _ (by omega) (by omega) (by omega) (by omega) (by with_reducible assumption)).mono ?_;rintro e w8 ⟨rfl,hb8⟩;have hz8:=hb8.size;(try simp only[zz] at hz8);have:=kf2 hb8 w.heap.size;have:=kfa hb8 w4.heap.size);(try go_wp2_with fail);refine tr hK (fun hHeld=> ?_);clear hK K)
 (refine tc 5 fun K hK=> ?_;go_simp;(go_at_call 191;refine(kTogether V1 V2 x y k cb nn i j G1 G2 _ _ _ (h1.below (by exact bel_a)) (h2.below (by exact bel_a)) (by omega) (by omega) (by omega) (by with_reducible assumption)).mono ?_;rintro e w9 ⟨rfl,hb9⟩;have hz9:=hb9.size;(try simp only[zz] at hz9);have:=kf2 hb9 w.heap.size;have:=kfa hb9 w4.heap.size);(try go_wp2_with fail);refine tr hK (fun hHeld=> ?_);clear hK K)
 (refine tc 7 fun K hK=> ?_;go_simp;(go_at_call 91;refine(held_w _ _ _ _ (by omega) (by omega) (by with_reducible assumption)).mono ?_;rintro e w10 ⟨rfl,hb10⟩;have hz10:=hb10.size;(try simp only[zz] at hz10);have:=kf2 hb10 w.heap.size;have:=kfa hb10 w4.heap.size);(try go_wp2_with fail);refine tr hK (fun hHeld=> ?_);clear hK K)
 refine tq 8 hHeld ?_
 refine wpAnyH_done (by kernel_rfl) ?_ _
 go_wp2_with (go_at_call 57;refine(wayHeld_any _ _ _ _ (by omega) (by omega)).mono ?_;rintro e w11 ⟨rfl,hb11⟩;have hz11:=hb11.size;(try simp only[zz] at hz11);have:=kf2 hb11 w.heap.size;have:=kfa hb11 w4.heap.size)
 exact bodyPost_ret (v:=vv (clampZ 20000000 ((P*x+A*(-y)).tdiv 256)) (clampZ 20000000 ((P*y+A*x).tdiv 256))) (by simp[results,Tryz.results184,go_sem, *]) rfl ⟨rfl,bel_a⟩
end Go.Proofs.YthajilkjfkppoaaGreatDoor
