/- Texts of a proof. -/
import Derived.Test.YthajilkjfkppoaaGreatDoorB6
import Derived.Test.YthajilkjfkppoaaGreatDoorB10
import Derived.Test.YthajilkjfkppoaaGreatDoorB7
import Derived.Test.YthajilkjfkppoaaGreatDoorB9
import Derived.Test.YthajilkjfkppoaaGreatDoorB3
import Derived.Deep.RegionHeld3
import Derived.Deep.DeepCutAuto
import Derived.Test.YthajilkjfkppoaaGreatDoorB2
set_option maxHeartbeats 16000000
set_option maxRecDepth 20000
namespace Go.Proofs.YthajilkjfkppoaaGreatDoor
open Go.RowKit
set_option linter.unusedVariables false
set_option linter.unusedSimpArgs false
theorem kBody {cb n k:Nat} {V:Nat→Int} {G:Nat→Nat} {w:World} (h:HAt w cb n k V G):
 Calls Tryz.prog 27 #[hdk cb k] w fun e w'=>e= .returned (bodyW V)∧Below w.heap.size w w':=by
 have hset:=cset_map
 have l1:=h.cbl
 have hkn:=h.kn
 have hnl:=h.nl
 obtain⟨c0,hc0,hv0,_,l0g,q0⟩:=h.col 0 (by omega)
 generalize hG0:G 0=g0 at hc0 hv0 l0g q0
 clear hG0 q0
 go_enter Tryz.func27,Tryz.ntmps27
 go_upto_region 1 with fail
 refine wp_region_held_drew (S:=fun w'=>w'.cell? ⟨w.heap.size,0,none⟩=some (.int .i64 (k:Int))∧w'.cell? ⟨w.heap.size,1,none⟩=some (.pointer (some ⟨cb,0,none⟩))∧w'.cell? ⟨cb,0,none⟩=some (.slice (some ⟨g0,0,none⟩) n c0)∧w'.cell? ⟨g0,k,none⟩=some (.int .i64 (V 0))) (by kernel_rfl) ?_ (fun hHeld=> ?_)
 · (try dsimp only)
   (first|(go_simp;done)|(go_keep;done))
 refine tq 0 hHeld ?_
 refine tq 1 hHeld ?_
 refine tq 2 hHeld ?_
 refine tq 3 hHeld ?_
 refine tq 4 hHeld ?_
 refine tq 5 hHeld ?_
 refine tq 6 hHeld ?_
 refine tq 7 hHeld ?_
 refine tq 8 hHeld ?_
 refine tq 9 hHeld ?_
 refine tq 11 hHeld ?_
 refine tq 14 hHeld ?_
 refine tq 17 hHeld ?_
 refine tq 19 hHeld ?_
 refine tq 21 hHeld ?_
 refine tq 23 hHeld ?_
 (refine tc 10 fun K hK=> ?_;go_simp;(go_at_call 61;refine(kShape (HAt.below h (bel_a))).mono ?_;rintro e w1 ⟨rfl,hb1⟩;have hz1:=hb1.size;(try simp only[zz] at hz1);have:=kf2 hb1 w.heap.size;have:=kfa hb1 cb;have:=kfa hb1 g0);(try go_wp2_with fail);refine tr hK (fun hHeld=> ?_);clear hK K)
 (refine tc 12 fun K hK=> ?_;go_simp;(go_at_call 56;refine(kAt (HAt.below h (bel_a))).mono ?_;rintro e w2 ⟨rfl,hb2⟩;have hz2:=hb2.size;(try simp only[zz] at hz2);have:=kf2 hb2 w.heap.size;have:=kfa hb2 cb;have:=kfa hb2 g0);(try go_wp2_with fail);refine tr hK (fun hHeld=> ?_);clear hK K)
 (refine tc 13 fun K hK=> ?_;go_simp;(go_at_call 32;refine(vec_any _ _ _).mono ?_;rintro e w3 ⟨rfl,hb3⟩;have hz3:=hb3.size;(try simp only[zz] at hz3);have:=kf2 hb3 w.heap.size;have:=kfa hb3 cb;have:=kfa hb3 g0);(try go_wp2_with fail);refine tr hK (fun hHeld=> ?_);clear hK K)
 (refine tc 15 fun K hK=> ?_;go_simp;(go_at_call 31;refine(kDrive (HAt.below h (bel_a))).mono ?_;rintro e w4 ⟨rfl,hb4⟩;have hz4:=hb4.size;(try simp only[zz] at hz4);have:=kf2 hb4 w.heap.size;have:=kfa hb4 cb;have:=kfa hb4 g0);(try go_wp2_with fail);refine tr hK (fun hHeld=> ?_);clear hK K)
 (refine tc 16 fun K hK=> ?_;go_simp;(go_at_call 32;refine(vec_any _ _ _).mono ?_;rintro e w5 ⟨rfl,hb5⟩;have hz5:=hb5.size;(try simp only[zz] at hz5);obtain⟨hk5x0,hj5x0,hq5x0⟩:=kfa hb5 (w.heap.size);obtain⟨hk5x1,hj5x1,hq5x1⟩:=kfa hb5 (w.heap.size+1);have:=kfa hb5 cb;have:=kfa hb5 g0);(try go_wp2_with fail);refine tr hK (fun hHeld=> ?_);clear hK K)
 (refine tc 18 fun K hK=> ?_;go_simp;(go_at_call 60;refine(kMass (HAt.below h (bel_a))).mono ?_;rintro e w6 ⟨rfl,hb6⟩;have hz6:=hb6.size;(try simp only[zz] at hz6);have:=kf2 hb6 w.heap.size;have:=kfa hb6 cb;have:=kfa hb6 g0);(try go_wp2_with fail);refine tr hK (fun hHeld=> ?_);clear hK K)
 (refine tc 20 fun K hK=> ?_;go_simp;(go_at_call 62;refine(kBounce (HAt.below h (bel_a))).mono ?_;rintro e w7 ⟨rfl,hb7⟩;have hz7:=hb7.size;(try simp only[zz] at hz7);have:=kf2 hb7 w.heap.size;have:=kfa hb7 cb;have:=kfa hb7 g0);(try go_wp2_with fail);refine tr hK (fun hHeld=> ?_);clear hK K)
 (refine tc 22 fun K hK=> ?_;go_simp;(go_at_call 63;refine(kRub (HAt.below h (bel_a))).mono ?_;rintro e w8 ⟨rfl,hb8⟩;have hz8:=hb8.size;(try simp only[zz] at hz8);have:=kf2 hb8 w.heap.size;have:=kfa hb8 cb;have:=kfa hb8 g0);(try go_wp2_with fail);refine tr hK (fun hHeld=> ?_);clear hK K)
 (refine tc 24 fun K hK=> ?_;go_simp;(go_at_call 55;refine(kQuiet (HAt.below h (bel_a))).mono ?_;rintro e w9 ⟨rfl,hb9⟩;have hz9:=hb9.size;(try simp only[zz] at hz9);have:=kf2 hb9 w.heap.size;have:=kfa hb9 cb;have:=kfa hb9 g0);(try go_wp2_with fail);refine tr hK (fun hHeld=> ?_);clear hK K)
 refine tq 25 hHeld ?_
 (refine tc 26 fun K hK=> ?_;go_simp;refine tr hK (fun hHeld=> ?_);clear hK K)
 refine wpAnyH_done (by kernel_rfl) ?_ _
 go_wp2_with fail
 exact bodyPost_ret (v:=bodyW V) (by simp[results,Tryz.results27,go_sem, *]) rfl ⟨rfl,bel_a⟩
def pushC (C:Nat→Nat→Int) (k:Nat) (p q:Int):Nat→Nat→Int:=if C 8 k=0 then C else setC (setC (setC C 6 k (clampZ 20000000 (C 6 k+p))) 7 k (clampZ 20000000 (C 7 k+q))) 11 k 0
theorem kPush {cb n k:Nat} {C:Nat→Nat→Int} {S:Nat→Value} {w:World} (h:Cs w cb n C S) (hk:k<n) (hn:n≤1048576) (p q:Int) (b6: -20000000≤C 6 k∧C 6 k≤20000000) (b7: -20000000≤C 7 k∧C 7 k≤20000000) (bp: -4000000000≤p∧p≤4000000000) (bq: -4000000000≤q∧q≤4000000000):
 Calls Tryz.prog 186 #[hdk cb k,vv p q] w fun e w'=>e= .returned (.tuple #[])∧Cs w' cb n (pushC C k p q) S∧Fr (Xc S) w w':=by
 have hset:=cset_map
 have h0:=h.hat hk hn
 have hx:∀ b,w.heap.size≤b→¬ Xc S b:=fun b hb x=>by have:=(h.xlt x).2;omega
 unfold pushC
 by_cases m:C 8 k=0
 · rw[if_pos m]
   have md:decide (C 8 k=0)=true:=decide_eq_true m
   go_enter Tryz.func186,Tryz.ntmps186
   go_wp2_with (go_at_call 51;refine(kFixed (h0.below (bel_a))).mono ?_;rintro e w1 ⟨rfl,hb1⟩;have hz1:=hb1.size;(try simp only[zz] at hz1);have:=kf2 hb1 w.heap.size)
   refine bodyPost_ret (results_none rfl _ _ _) rfl ?_
   exact⟨rfl,(h.below (bel_a)),Fr.of_below (bel_a)⟩
 · rw[if_neg m]
   have md:decide (C 8 k=0)=false:=decide_eq_false m
   go_enter Tryz.func186,Tryz.ntmps186
   go_upto_region 2 with(go_at_call 51;refine(kFixed (h0.below (bel_a))).mono ?_;rintro e w1 ⟨rfl,hb1⟩;have hz1:=hb1.size;(try simp only[zz] at hz1);have:=kf2 hb1 w.heap.size)
   refine wp_region_held_drew (S:=fun w'=>w'.cell? ⟨w.heap.size,0,none⟩=some (.int .i64 (k:Int))∧w'.cell? ⟨w.heap.size,1,none⟩=some (.pointer (some ⟨cb,0,none⟩))∧w'.cell? ⟨w.heap.size+1,0,none⟩=some (.int .i64 p)∧w'.cell? ⟨w.heap.size+1,1,none⟩=some (.int .i64 q)) (by kernel_rfl) ?_ (fun hHeld=> ?_)
   · (try dsimp only)
     (first|(go_simp;done)|(go_keep;done))
   refine tq 0 hHeld ?_
   refine tq 1 hHeld ?_
   refine tq 3 hHeld ?_
   (refine tc 2 fun K hK=> ?_;go_simp;(go_at_call 31;refine(kDrive (h0.below (bel_a))).mono ?_;rintro e w2 ⟨rfl,hb2⟩;have hz2:=hb2.size;(try simp only[zz] at hz2);have:=kf2 hb2 w.heap.size);(try go_wp2_with fail);refine tr hK (fun hHeld=> ?_);clear hK K)
   (refine tc 4 fun K hK=> ?_;go_simp;(go_at_call 30;refine(plus_any _ _ _ _ _ (by omega) (by omega) (by omega) (by omega)).mono ?_;rintro e w3 ⟨rfl,hb3⟩;have hz3:=hb3.size;(try simp only[zz] at hz3);have:=kf2 hb3 w.heap.size);(try go_wp2_with fail);refine tr hK (fun hHeld=> ?_);clear hK K)
   (refine tc 5 fun K hK=> ?_;go_simp;(go_at_call 57;refine(wayHeld_any _ _ _ _ (by omega) (by omega)).mono ?_;rintro e w4 ⟨rfl,hb4⟩;have hz4:=hb4.size;(try simp only[zz] at hz4);have:=kf2 hb4 w.heap.size);(try go_wp2_with fail);refine tr hK (fun hHeld=> ?_);clear hK K)
   (refine tc 6 fun K hK=> ?_;go_simp;(go_at_call 59;refine(kSetDrive (h.below (bel_a)) hk hn _ _).mono ?_;rintro e w5 ⟨rfl,hr5,hF5⟩;have hz5:=hF5.size;(try simp only[zz] at hz5);have hk5x0:=fun o=>hF5.cell (p:=⟨w.heap.size,o,none⟩) (by first|omega|(simp;done)|(simp;omega)) (hx _ (by first|omega|(simp;done)|(simp;omega)));have hj5x0:=fun o=>hF5.frozen (p:=⟨w.heap.size,o,none⟩) (by first|omega|(simp;done)|(simp;omega)) (hx _ (by first|omega|(simp;done)|(simp;omega)));have hq5x0:w.heap.size<w5.heap.size:=(by omega);have hk5x1:=fun o=>hF5.cell (p:=⟨w.heap.size+1,o,none⟩) (by first|omega|(simp;done)|(simp;omega)) (hx _ (by first|omega|(simp;done)|(simp;omega)));have hj5x1:=fun o=>hF5.frozen (p:=⟨w.heap.size+1,o,none⟩) (by first|omega|(simp;done)|(simp;omega)) (hx _ (by first|omega|(simp;done)|(simp;omega)));have hq5x1:w.heap.size+1<w5.heap.size:=(by omega));(try go_wp2_with fail);refine tr hK (fun hHeld=> ?_);clear hK K)
   refine wpAnyH_done (by kernel_rfl) ?_ _
   go_wp2_with (go_at_call 146;refine(kSetQuiet hr5 hk hn 0).mono ?_;rintro e w6 ⟨rfl,hr6,hF6⟩)
   go_end0
   exact⟨rfl,hr6,((Fr.of_below (bel_a)).trans hF5).trans hF6⟩
theorem flatB (w:World) (V:Nat→Int) (t:TypeId) (s:Nat) (e:w.heap.size=s):Flat (w.alloc (Obj.cells #[.int .i64 (V 0),.int .i64 (V 1),.int .i64 (V 2),.int .i64 (V 3),.int .i64 (V 4),.int .i64 (V 5),.int .i64 (V 6),.int .i64 (V 7),.int .i64 (V 8),.int .i64 (V 9),.int .i64 (V 10),.int .i64 (V 11)] t)) (some ⟨s,0,none⟩) (1*12) V:=by
 subst e
 intro _
 refine⟨w.heap.size,0,rfl,by simp,fun j hj=> ?_⟩
 rw[Nat.zero_add]
 rcases(show j=0∨j=1∨j=2∨j=3∨j=4∨j=5∨j=6∨j=7∨j=8∨j=9∨j=10∨j=11 by omega) with rfl|rfl|rfl|rfl|rfl|rfl|rfl|rfl|rfl|rfl|rfl|rfl<;>go_simp
theorem handle_0 (cb:Nat) (w:World):Calls Tryz.prog 54 #[.pointer (some ⟨cb,0,none⟩),.int .i64 0] w fun e w'=>e= .returned (.agg #[.int .i64 0,.pointer (some ⟨cb,0,none⟩)])∧Below w.heap.size w w':=handle_any cb 0 w
theorem kOk_z {cb n:Nat} {V:Nat→Int} {G:Nat→Nat} {w:World} (h:HAt w cb n 0 V G) (b:Bool) (e:bodyB V=b):
 Calls Tryz.prog 50 #[.agg #[.int .i64 0,.pointer (some ⟨cb,0,none⟩)]] w fun e w'=>e= .returned (.bool b)∧Below w.heap.size w w':=kOk_q h b e
theorem Cs.setO {w:World} {cb n b o:Nat} {C:Nat→Nat→Int} {S:Nat→Value} (h:Cs w cb n C S) (hb:b<cb) (v:Value):Cs (w.setCell ⟨b,o,none⟩ v) cb n C S:=
 h.frame (X:=fun x=>x=b) (Fr.setCell (X:=fun x=>x=b) rfl _) (by show ¬ cb=b;omega) (fun x hx e=>by have:=(h.xlt hx).1;omega)
theorem handleOf_k (V:Nat→Int) (w:World) (KB:Bool) (eK:bodyB V=KB):
 Calls Tryz.prog 23 #[bodyW V] w fun e w'=>∃ cb S,e= .returned (.tuple #[hdk cb 0,.bool KB])∧w.heap.size+1<cb∧Cs w' cb 1 (fun i _=>V i) S∧Below w.heap.size w w':=by
 have hset:=cset_map
 go_enter Tryz.func23,Tryz.ntmps23
 go_upto_region 2 with(first
  |(go_at_call 54;refine(handle_0 _ _).mono ?_;rintro e w2 ⟨rfl,hb2⟩;have hz2:=hb2.size;(try simp only[zz] at hz2);have:=kfa hb2 (w.heap.size+1))
  |(go_at_call 49;refine(rowsOf_any _ 1 _ V _ (flatB _ V _ _ (by simp)) (by omega)).mono ?_;rintro e w1 ⟨rfl,hb1,S,hC1⟩;have hz1:=hb1.size;(try simp only[zz] at hz1 hC1);have hC1:=hC1.congr (C':=fun i _=>V i) (fun i k _ hk=>(by obtain rfl:k=0:=(by omega);simp[colOf]));have:=kfa hb1 (w.heap.size+1)))
 refine wp_region_held_drew (S:=fun w'=>w'.cell? ⟨w2.heap.size,0,none⟩=some (.int .i64 (0:Int))∧w'.cell? ⟨w2.heap.size,1,none⟩=some (.pointer (some ⟨w.heap.size+1+1+1,0,none⟩))) (by kernel_rfl) ?_ (fun hHeld=> ?_)
 · (try dsimp only)
   (first|(go_simp;done)|(go_keep;done))
 refine tq 0 hHeld ?_
 refine tq 1 hHeld ?_
 (refine tc 2 fun K hK=> ?_;go_simp;(go_at_call 50;refine(kOk_z ((hC1.below (bel_a)).hat (by omega) (by omega)) KB eK).mono ?_;rintro e w3 ⟨rfl,hb3⟩;have hz3:=hb3.size;(try simp only[zz] at hz3);have:=kfa hb3 (w.heap.size+1);have:=kfa hb3 w2.heap.size);(try go_wp2_with fail);refine tr hK (fun hHeld=> ?_);clear hK K)
 (refine tc 3 fun K hK=> ?_;go_simp;refine tr hK (fun hHeld=> ?_);clear hK K)
 refine tq 4 hHeld ?_
 refine wpAnyH_done (by kernel_rfl) ?_ _
 go_wp2_with fail
 exact bodyPost_ret (v:= .tuple #[.agg #[.int .i64 0,.pointer (some ⟨w.heap.size+1+1+1,0,none⟩)],.bool KB]) (by simp[results,Tryz.results23,go_sem, *]) rfl ⟨w.heap.size+1+1+1,S,rfl,by omega,((hC1.below (w':=w3) (bel_a)).setO (by omega) _).setO (by omega) _,bel_a⟩
def setV (V:Nat→Int) (k:Nat) (a:Int):Nat→Int:=fun j=>if j=k then a else V j
def pushV (V:Nat→Int) (p q:Int):Nat→Int:=if V 8=0 then V else setV (setV (setV V 6 (clampZ 20000000 (V 6+p))) 7 (clampZ 20000000 (V 7+q))) 11 0
theorem pushC_V (C:Nat→Nat→Int) (k:Nat) (p q:Int):(fun i=>pushC C k p q i k)=pushV (fun i=>C i k) p q:=by
 funext i
 unfold pushC pushV
 by_cases m:C 8 k=0
 · rw[if_pos m,if_pos m]
 · rw[if_neg m,if_neg m];simp[setC,setV]
theorem mnmx (n m:Int) (h:0≤m):mn (mx n (-m)) m=clampZ m n:=by unfold mn mx clampZ;repeat(first|omega|split)
theorem l6Within_any (n m:Int) (w:World) (h0:0≤m) (h1:m≤4000000000):
 Calls Tryz.prog 68 #[.int .i64 n,.int .i64 m] w fun e w'=>e= .returned (.int .i64 (clampZ m n))∧w'=w:=by
 go_enter Tryz.func68,Tryz.ntmps68
 go_wp2_with (first
  |(go_at_call 77;refine(l3Less_any _ _ _).mono ?_;rintro e w' ⟨rfl,rfl⟩)
  |(go_at_call 95;refine(l3More_any _ _ _).mono ?_;rintro e w' ⟨rfl,rfl⟩))
 go_ret
 exact⟨ret_int (mnmx n m h0),rfl⟩
structure PB (w wx:World) (U:Nat→Int) (p q:Int):Prop where
 inn:∀ j,j<12→wx.cell? ⟨w.heap.size,j,none⟩=some (.int .i64 (U j))
 v0:wx.cell? ⟨w.heap.size+1,0,none⟩=some (.int .i64 p)
 v1:wx.cell? ⟨w.heap.size+1,1,none⟩=some (.int .i64 q)
 res:∀ j,j<12→wx.cell? ⟨w.heap.size+1+1,j,none⟩=some (.int .i64 0)
 nfi:∀ j,j<12→wx.frozen? ⟨w.heap.size,j,none⟩=false
 nfr:∀ j,j<12→wx.frozen? ⟨w.heap.size+1+1,j,none⟩=false
 bel:Below w.heap.size w wx
 big:w.heap.size+1+1<wx.heap.size
theorem PB.drew {w wx:World} {U:Nat→Int} {p q:Int} (h:PB w wx U p q):PB w wx.drew U p q:=⟨h.inn,h.v0,h.v1,h.res,h.nfi,h.nfr,h.bel.drew,h.big⟩
theorem PB.set {w wx:World} {U:Nat→Int} {p q:Int} (h:PB w wx U p q) {k:Nat} (hk:k<12) (a:Int):PB w (wx.setCell ⟨w.heap.size,k,none⟩ (.int .i64 a)) (setV U k a) p q:=by
 refine⟨fun j hj=> ?_,?_,?_,fun j hj=> ?_,fun j hj=> ?_,fun j hj=> ?_,?_,?_⟩
 · by_cases e:j=k
   · subst e;rw[cset_same (h.inn j hj)];simp[setV]
   · rw[cset_other (by intro x;injection x with x1 x2;exact e x2.symm),h.inn j hj];simp[setV,e]
 · rw[cset_far (by simp)];exact h.v0
 · rw[cset_far (by simp)];exact h.v1
 · rw[cset_far (by simp;omega)];exact h.res j hj
 · rw[World.frozen?_setCell];exact h.nfi j hj
 · rw[World.frozen?_setCell];exact h.nfr j hj
 · exact h.bel.setCell (by simp) _
 · simpa using h.big
theorem PB.start (w:World) (V:Nat→Int) (p q:Int):PB w (((w.alloc (.cells #[.int .i64 (V 0),.int .i64 (V 1),.int .i64 (V 2),.int .i64 (V 3),.int .i64 (V 4),.int .i64 (V 5),.int .i64 (V 6),.int .i64 (V 7),.int .i64 (V 8),.int .i64 (V 9),.int .i64 (V 10),.int .i64 (V 11)] 35)).alloc (.cells #[.int .i64 p,.int .i64 q] 33)).alloc (.cells #[.int .i64 0,.int .i64 0,.int .i64 0,.int .i64 0,.int .i64 0,.int .i64 0,.int .i64 0,.int .i64 0,.int .i64 0,.int .i64 0,.int .i64 0,.int .i64 0] 35)) V p q:=⟨(fun j hj=>by(rcases(show j=0∨j=1∨j=2∨j=3∨j=4∨j=5∨j=6∨j=7∨j=8∨j=9∨j=10∨j=11 by omega) with rfl|rfl|rfl|rfl|rfl|rfl|rfl|rfl|rfl|rfl|rfl|rfl<;>(first|(go_simp;done)|(simp;done)))),by go_simp,by go_simp,(fun j hj=>by(rcases(show j=0∨j=1∨j=2∨j=3∨j=4∨j=5∨j=6∨j=7∨j=8∨j=9∨j=10∨j=11 by omega) with rfl|rfl|rfl|rfl|rfl|rfl|rfl|rfl|rfl|rfl|rfl|rfl<;>(first|(go_simp;done)|(simp;done)))),(fun j hj=>by(rcases(show j=0∨j=1∨j=2∨j=3∨j=4∨j=5∨j=6∨j=7∨j=8∨j=9∨j=10∨j=11 by omega) with rfl|rfl|rfl|rfl|rfl|rfl|rfl|rfl|rfl|rfl|rfl|rfl<;>(first|(go_simp;done)|(simp;done)))),(fun j hj=>by(rcases(show j=0∨j=1∨j=2∨j=3∨j=4∨j=5∨j=6∨j=7∨j=8∨j=9∨j=10∨j=11 by omega) with rfl|rfl|rfl|rfl|rfl|rfl|rfl|rfl|rfl|rfl|rfl|rfl<;>(first|(go_simp;done)|(simp;done)))),bel_a,by simp⟩
theorem l6Push_any (V:Nat→Int) (p q:Int) (w:World) (b6: -20000000≤V 6∧V 6≤20000000) (b7: -20000000≤V 7∧V 7≤20000000) (bp: -20000000≤p∧p≤20000000) (bq: -20000000≤q∧q≤20000000):
 Calls Tryz.prog 109 #[bodyW V,vv p q] w fun e w'=>e= .returned (bodyW (pushV V p q))∧Below w.heap.size w w':=by
 have hset:=cset_map
 have e6:IntKind.i64.wrap (V 6+p)=V 6+p:=i64w (by omega)
 have e7:IntKind.i64.wrap (V 7+q)=V 7+q:=i64w (by omega)
 unfold pushV
 by_cases m:V 8=0
 · rw[if_pos m]
   go_enter Tryz.func109,Tryz.ntmps109
   go_upto_region 1 with fail
   have h0:=PB.start w V p q
   generalize (((w.alloc (.cells #[.int .i64 (V 0),.int .i64 (V 1),.int .i64 (V 2),.int .i64 (V 3),.int .i64 (V 4),.int .i64 (V 5),.int .i64 (V 6),.int .i64 (V 7),.int .i64 (V 8),.int .i64 (V 9),.int .i64 (V 10),.int .i64 (V 11)] 35)).alloc (.cells #[.int .i64 p,.int .i64 q] 33)).alloc (.cells #[.int .i64 0,.int .i64 0,.int .i64 0,.int .i64 0,.int .i64 0,.int .i64 0,.int .i64 0,.int .i64 0,.int .i64 0,.int .i64 0,.int .i64 0,.int .i64 0] 35))=wx0 at h0 ⊢
   have o0:=h0.inn 0 (by omega)
   have r0:=h0.res 0 (by omega)
   have f0:=h0.nfr 0 (by omega)
   have o1:=h0.inn 1 (by omega)
   have r1:=h0.res 1 (by omega)
   have f1:=h0.nfr 1 (by omega)
   have o2:=h0.inn 2 (by omega)
   have r2:=h0.res 2 (by omega)
   have f2:=h0.nfr 2 (by omega)
   have o3:=h0.inn 3 (by omega)
   have r3:=h0.res 3 (by omega)
   have f3:=h0.nfr 3 (by omega)
   have o4:=h0.inn 4 (by omega)
   have r4:=h0.res 4 (by omega)
   have f4:=h0.nfr 4 (by omega)
   have o5:=h0.inn 5 (by omega)
   have r5:=h0.res 5 (by omega)
   have f5:=h0.nfr 5 (by omega)
   have o6:=h0.inn 6 (by omega)
   have r6:=h0.res 6 (by omega)
   have f6:=h0.nfr 6 (by omega)
   have o7:=h0.inn 7 (by omega)
   have r7:=h0.res 7 (by omega)
   have f7:=h0.nfr 7 (by omega)
   have o8:=h0.inn 8 (by omega)
   have r8:=h0.res 8 (by omega)
   have f8:=h0.nfr 8 (by omega)
   have o9:=h0.inn 9 (by omega)
   have r9:=h0.res 9 (by omega)
   have f9:=h0.nfr 9 (by omega)
   have o10:=h0.inn 10 (by omega)
   have r10:=h0.res 10 (by omega)
   have f10:=h0.nfr 10 (by omega)
   have o11:=h0.inn 11 (by omega)
   have r11:=h0.res 11 (by omega)
   have f11:=h0.nfr 11 (by omega)
   have z0:=h0.big
   have hbel:=h0.bel
   clear h0
   go_wp2_with fail
   exact bodyPost_ret (v:=bodyW V) (by simp[results,Tryz.results109,go_sem, *]) rfl ⟨rfl,bel_a⟩
 · rw[if_neg m]
   obtain⟨U,hU⟩:∃ U,setV (setV V 6 (clampZ 20000000 (V 6+p))) 7 (clampZ 20000000 (V 7+q))=U:=⟨_,rfl⟩
   obtain⟨U2,hU2⟩:∃ U2,setV U 11 0=U2:=⟨_,rfl⟩
   rw[hU,hU2]
   go_enter Tryz.func109,Tryz.ntmps109
   go_upto_region 1 with fail
   have h0:=PB.start w V p q
   generalize (((w.alloc (.cells #[.int .i64 (V 0),.int .i64 (V 1),.int .i64 (V 2),.int .i64 (V 3),.int .i64 (V 4),.int .i64 (V 5),.int .i64 (V 6),.int .i64 (V 7),.int .i64 (V 8),.int .i64 (V 9),.int .i64 (V 10),.int .i64 (V 11)] 35)).alloc (.cells #[.int .i64 p,.int .i64 q] 33)).alloc (.cells #[.int .i64 0,.int .i64 0,.int .i64 0,.int .i64 0,.int .i64 0,.int .i64 0,.int .i64 0,.int .i64 0,.int .i64 0,.int .i64 0,.int .i64 0,.int .i64 0] 35))=wx0 at h0 ⊢
   have i8:=h0.inn 8 (by omega)
   go_upto_region 3 with fail
   have i6:=h0.inn 6 (by omega)
   have i7:=h0.inn 7 (by omega)
   have n6:=h0.nfi 6 (by omega)
   have n7:=h0.nfi 7 (by omega)
   have y0:=h0.v0
   have y1:=h0.v1
   go_cut [] (fun wc=>PB w wc U p q)
   case first=>
    refine wp_region_held_drew (S:=fun w'=>w'.cell? ⟨w.heap.size+1,0,none⟩=some (.int .i64 p)∧w'.cell? ⟨w.heap.size+1,1,none⟩=some (.int .i64 q)) (by kernel_rfl) ?_ (fun hHeld=> ?_)
    · (try dsimp only)
      (first|(go_simp;done)|(go_keep;done))
    refine tq 0 hHeld ?_
    refine tq 1 hHeld ?_
    refine tq 3 hHeld ?_
    refine tq 4 hHeld ?_
    refine tq 7 hHeld ?_
    refine tq 8 hHeld ?_
    refine tq 10 hHeld ?_
    refine tq 11 hHeld ?_
    repeat' first
     |(replace hK:=hK;go_simp;(first|((go_at_call 68;refine(l6Within_any _ _ _ (by omega) (by omega)).mono ?_;rintro e w' ⟨rfl,rfl⟩);(try go_wp2_with fail))|skip);refine tr hK (fun hHeld=> ?_);clear hK K)
     |refine tc 2 (hr:=by decide+kernel) fun K hK=> ?_
     |refine tc 6 (hr:=by decide+kernel) fun K hK=> ?_
     |refine tc 9 (hr:=by decide+kernel) fun K hK=> ?_
     |refine tc 13 (hr:=by decide+kernel) fun K hK=> ?_
     |refine tc 16 (hr:=by decide+kernel) fun K hK=> ?_
     |refine tq 5 hHeld ?_ (hc:=by decide+kernel)
     |refine tq 12 hHeld ?_ (hc:=by decide+kernel)
     |refine tq 14 hHeld ?_ (hc:=by decide+kernel)
     |refine tq 15 hHeld ?_ (hc:=by decide+kernel)
     |(refine wpAnyH_ready (rs:=[2,9]) (by decide+kernel) (by simp) ?_;refine AllReadyH.cons rfl (fun K hK=> ?_) (AllReadyH.cons rfl (fun K hK=> ?_) AllReadyH.nil))
     |(refine wpAnyH_ready (rs:=[6,9]) (by decide+kernel) (by simp) ?_;refine AllReadyH.cons rfl (fun K hK=> ?_) (AllReadyH.cons rfl (fun K hK=> ?_) AllReadyH.nil))
     | (refine wpAnyH_done (by decide+kernel) ?_ _
        go_wp2_with fail
        go_meet
        have q9:=PB.drew (PB.set (PB.set h0 (k:=6) (by omega) (clampZ 20000000 (V 6+p))) (k:=7) (by omega) (clampZ 20000000 (V 7+q)))
        rw[hU] at q9
        exact q9)
   case rest=>
   clear i6 i7 n6 n7 y0 y1 i8 h0 hU
   have h1:=hcut
   have i11:=h1.inn 11 (by omega)
   have n11:=h1.nfi 11 (by omega)
   go_upto_region 4 with fail
   go_cut [] (fun wc=>PB w wc U2 p q)
   case first=>
    go_wp2_with fail
    go_meet
    have q9:=PB.set h1 (k:=11) (by omega) 0
    rw[hU2] at q9
    exact q9
   case rest=>
   have h2:=hcut
   have o0:=h2.inn 0 (by omega)
   have r0:=h2.res 0 (by omega)
   have f0:=h2.nfr 0 (by omega)
   have o1:=h2.inn 1 (by omega)
   have r1:=h2.res 1 (by omega)
   have f1:=h2.nfr 1 (by omega)
   have o2:=h2.inn 2 (by omega)
   have r2:=h2.res 2 (by omega)
   have f2:=h2.nfr 2 (by omega)
   have o3:=h2.inn 3 (by omega)
   have r3:=h2.res 3 (by omega)
   have f3:=h2.nfr 3 (by omega)
   have o4:=h2.inn 4 (by omega)
   have r4:=h2.res 4 (by omega)
   have f4:=h2.nfr 4 (by omega)
   have o5:=h2.inn 5 (by omega)
   have r5:=h2.res 5 (by omega)
   have f5:=h2.nfr 5 (by omega)
   have o6:=h2.inn 6 (by omega)
   have r6:=h2.res 6 (by omega)
   have f6:=h2.nfr 6 (by omega)
   have o7:=h2.inn 7 (by omega)
   have r7:=h2.res 7 (by omega)
   have f7:=h2.nfr 7 (by omega)
   have o8:=h2.inn 8 (by omega)
   have r8:=h2.res 8 (by omega)
   have f8:=h2.nfr 8 (by omega)
   have o9:=h2.inn 9 (by omega)
   have r9:=h2.res 9 (by omega)
   have f9:=h2.nfr 9 (by omega)
   have o10:=h2.inn 10 (by omega)
   have r10:=h2.res 10 (by omega)
   have f10:=h2.nfr 10 (by omega)
   have o11:=h2.inn 11 (by omega)
   have r11:=h2.res 11 (by omega)
   have f11:=h2.nfr 11 (by omega)
   have z0:=h2.big
   have hbel:=h2.bel
   clear h1 h2 i11 n11
   go_wp2_with fail
   exact bodyPost_ret (v:=bodyW U2) (by simp[results,Tryz.results109,go_sem, *]) rfl ⟨rfl,bel_a⟩
end Go.Proofs.YthajilkjfkppoaaGreatDoor
