/- Texts of a proof. -/
import Derived.Test.YthajilkjfkppoaaGreatDoorB2
import Derived.Test.YthajilkjfkppoaaGreatDoorB6
import Derived.Test.YthajilkjfkppoaaGreatDoorB4
import Derived.Deep.QuietTactic
import Derived.BigQuiet
import Derived.Deep.RegionWith
import Derived.Deep.RegionHeld3
import Derived.Test.YthajilkjfkppoaaGreatDoorB5
import Derived.Deep.DeepCutAuto
set_option maxHeartbeats 16000000
set_option maxRecDepth 20000
namespace Go.Proofs.YthajilkjfkppoaaGreatDoor
open Go.RowKit
set_option linter.unusedVariables false
set_option linter.unusedSimpArgs false
def hh (k wd h:Int):Int:=if k=1 then wd else h
theorem inB_of {l x y:Int} (h:inB l x y=true):(-l≤x∧x≤l)∧(-l≤y∧y≤l):=by
 unfold inB at h;simp only[decide_eq_true_eq] at h;omega
theorem isPlace_any (x y:Int) (w:World):
 Calls Tryz.prog 138 #[vv x y] w fun e w'=>e= .returned (.bool (inB 2560000 x y))∧Below w.heap.size w w':=by
 have hset:=cset_map
 go_enter Tryz.func138,Tryz.ntmps138
 go_wp2_with (first
  |(go_at_call 139;refine(wayOf_any _ _ _).mono ?_;rintro e w1 ⟨rfl,hb1⟩;obtain⟨hc1,hf1⟩:=bcell hb1;have hl1:=blt hb1;have hz1:=hb1.size;(try simp only[zz] at hc1 hf1 hl1 hz1);(try have hq1x0:w.heap.size<w1.heap.size:=(by omega)))
  |(go_at_call 88;refine(within2_any _ _ _ _ (by omega) (by omega)).mono ?_;rintro e w2 ⟨rfl,hb2⟩;obtain⟨hc2,hf2⟩:=bcell hb2;have hl2:=blt hb2;have hz2:=hb2.size;(try simp only[zz] at hc2 hf2 hl2 hz2);(try have hq2x0:w.heap.size<w2.heap.size:=(by omega))))
 go_ret
 exact⟨rfl,bel_a⟩
theorem reach_r (wd:Int) (w:World):
 Calls Tryz.prog 232 #[.agg #[.int .i64 wd]] w fun e w'=>e= .returned (vv wd wd)∧Below w.heap.size w w':=by
 have hset:=cset_map
 go_enter Tryz.func232,Tryz.ntmps232
 go_wp2
 exact bodyPost_ret (v:=vv wd wd) (by simp[results,Tryz.results232,go_sem, *]) rfl ⟨rfl,bel_a⟩
theorem reach_b (wd h:Int) (w:World):
 Calls Tryz.prog 233 #[.agg #[.int .i64 wd,.int .i64 h]] w fun e w'=>e= .returned (vv wd h)∧Below w.heap.size w w':=by
 have hset:=cset_map
 go_enter Tryz.func233,Tryz.ntmps233
 go_wp2
 exact bodyPost_ret (v:=vv wd h) (by simp[results,Tryz.results233,go_sem, *]) rfl ⟨rfl,bel_a⟩
theorem l3Place_any (x y:Int) (w:World):
 Calls Tryz.prog 65 #[vv x y] w fun e w'=>e= .returned (.bool (inB 2560000 x y))∧Below w.heap.size w w':=by
 have hset:=cset_map
 go_enter Tryz.func65,Tryz.ntmps65
 go_wp2_with (go_at_call 19;refine(l1In_any _ _ _ _).mono ?_;rintro e w' ⟨rfl,rfl⟩)
 all_goals
  go_ret
  refine⟨ret_bool ?_,bel_a⟩
  unfold inB
  first|(simp[*];done)|(simp at*;omega)|(simp[*];omega)
theorem l3Bounds_b (wd h x y:Int) (w:World) (h1:1≤wd) (h2:wd≤25600) (h3:1≤h) (h4:h≤25600) (hx: -2560000≤x∧x≤2560000) (hy: -2560000≤y∧y≤2560000):
 Calls Tryz.prog 104 #[s3 2 wd h,vv x y] w fun e w'=>e= .returned (b4 (x-wd) (y-h) (x+wd) (y+h))∧Below w.heap.size w w':=by
 have hset:=cset_map
 go_enter Tryz.func104,Tryz.ntmps104
 go_wp2
 all_goals
  exact bodyPost_ret (v:=b4 (x-wd) (y-h) (x+wd) (y+h)) (by simp[results,Tryz.results104,go_sem, *]) rfl ⟨rfl,bel_a⟩
structure HAt (w:World) (cb n k:Nat) (V:Nat→Int) (G:Nat→Nat):Prop where
 col:∀ i,i<12→∃ c,Cell1 w cb n i k (V i) (G i) c
 cbl:cb<w.heap.size
 kn:k<n
 nl:n≤1048576
theorem HAt.below {w w':World} {cb n k:Nat} {V:Nat→Int} {G:Nat→Nat} (h:HAt w cb n k V G) (hb:Below w.heap.size w w'):HAt w' cb n k V G:=
 ⟨fun i hi=>by
  obtain⟨c,h1,h2,h3,h4,h5⟩:=h.col i hi
  exact⟨c,(hb.cell (p:=⟨cb,i,none⟩) h.cbl).trans h1,(hb.cell (p:=⟨G i,k,none⟩) h4).trans h2,(hb.frozen (p:=⟨G i,k,none⟩) h4).trans h3,Nat.lt_of_lt_of_le h4 hb.size,h5⟩,Nat.lt_of_lt_of_le h.cbl hb.size,h.kn,h.nl⟩
def gOf (S:Nat→Value) (i:Nat):Nat:=((S i).ownBlock).getD 0
theorem Cs.hat {w:World} {cb n k:Nat} {C:Nat→Nat→Int} {S:Nat→Value} (h:Cs w cb n C S) (hk:k<n) (hn:n≤1048576):HAt w cb n k (fun i=>C i k) (gOf S):=
 ⟨fun i hi=>by
  obtain⟨g,c,e,hc⟩:=h.at hi hk
  refine⟨c,?_⟩
  rw[show gOf S i=g from by unfold gOf;rw[e];rfl]
  exact hc,h.lt,hk,hn⟩
theorem upTo_any (n l:Int) (w:World):
 Calls Tryz.prog 86 #[.int .i64 n,.int .i64 l] w fun e w'=>e= .returned (.bool (decide (0≤n∧n≤l)))∧w'=w:=by
 go_enter Tryz.func86,Tryz.ntmps86
 go_wp2
 all_goals
  go_ret
  refine⟨ret_bool ?_,rfl⟩
  first|(simp[*];done)|(simp at*;omega)|(simp[*];omega)
theorem kMass {cb n k:Nat} {V:Nat→Int} {G:Nat→Nat} {w:World} (h:HAt w cb n k V G):
 Calls Tryz.prog 60 #[hdk cb k] w fun e w'=>e= .returned (.int .i64 (V 8))∧Below w.heap.size w w':=by
 have hset:=cset_map
 have l1:=h.cbl
 have hkn:=h.kn
 have hnl:=h.nl
 obtain⟨c8,hc8,hv8,_,l8g,lc8⟩:=h.col 8 (by omega)
 generalize G 8=g8 at hc8 hv8 l8g lc8
 clear h
 go_enter Tryz.func60,Tryz.ntmps60
 go_upto_region 1 with fail
 refine wp_region_held_drew (S:=fun w'=>w'.cell? ⟨w.heap.size,0,none⟩=some (.int .i64 (k:Int))∧w'.cell? ⟨w.heap.size,1,none⟩=some (.pointer (some ⟨cb,0,none⟩))∧w'.cell? ⟨cb,8,none⟩=some (.slice (some ⟨g8,0,none⟩) n c8)∧w'.cell? ⟨g8,k,none⟩=some (.int .i64 (V 8))) (by kernel_rfl) ?_ (fun hHeld=> ?_)
 · (try dsimp only)
   (first|(go_simp;done)|(go_keep;done))
 refine tq 0 hHeld ?_
 refine tq 1 hHeld ?_
 refine tq 2 hHeld ?_
 refine tq 3 hHeld ?_
 refine tq 4 hHeld ?_
 refine tq 5 hHeld ?_
 refine tq 6 hHeld ?_
 refine tq 7 hHeld ?_
 refine tq 8 hHeld ?_
 refine tq 9 hHeld ?_
 refine wpAnyH_done (by kernel_rfl) ?_ _
 go_wp2_with fail
 go_ret
 exact⟨rfl,bel_a⟩
theorem kBounce {cb n k:Nat} {V:Nat→Int} {G:Nat→Nat} {w:World} (h:HAt w cb n k V G):
 Calls Tryz.prog 62 #[hdk cb k] w fun e w'=>e= .returned (.int .i64 (V 9))∧Below w.heap.size w w':=by
 have hset:=cset_map
 have l1:=h.cbl
 have hkn:=h.kn
 have hnl:=h.nl
 obtain⟨c9,hc9,hv9,_,l9g,lc9⟩:=h.col 9 (by omega)
 generalize G 9=g9 at hc9 hv9 l9g lc9
 clear h
 go_enter Tryz.func62,Tryz.ntmps62
 go_upto_region 1 with fail
 refine wp_region_held_drew (S:=fun w'=>w'.cell? ⟨w.heap.size,0,none⟩=some (.int .i64 (k:Int))∧w'.cell? ⟨w.heap.size,1,none⟩=some (.pointer (some ⟨cb,0,none⟩))∧w'.cell? ⟨cb,9,none⟩=some (.slice (some ⟨g9,0,none⟩) n c9)∧w'.cell? ⟨g9,k,none⟩=some (.int .i64 (V 9))) (by kernel_rfl) ?_ (fun hHeld=> ?_)
 · (try dsimp only)
   (first|(go_simp;done)|(go_keep;done))
 refine tq 0 hHeld ?_
 refine tq 1 hHeld ?_
 refine tq 2 hHeld ?_
 refine tq 3 hHeld ?_
 refine tq 4 hHeld ?_
 refine tq 5 hHeld ?_
 refine tq 6 hHeld ?_
 refine tq 7 hHeld ?_
 refine tq 8 hHeld ?_
 refine tq 9 hHeld ?_
 refine wpAnyH_done (by kernel_rfl) ?_ _
 go_wp2_with fail
 go_ret
 exact⟨rfl,bel_a⟩
theorem kRub {cb n k:Nat} {V:Nat→Int} {G:Nat→Nat} {w:World} (h:HAt w cb n k V G):
 Calls Tryz.prog 63 #[hdk cb k] w fun e w'=>e= .returned (.int .i64 (V 10))∧Below w.heap.size w w':=by
 have hset:=cset_map
 have l1:=h.cbl
 have hkn:=h.kn
 have hnl:=h.nl
 obtain⟨c10,hc10,hv10,_,l10g,lc10⟩:=h.col 10 (by omega)
 generalize G 10=g10 at hc10 hv10 l10g lc10
 clear h
 go_enter Tryz.func63,Tryz.ntmps63
 go_upto_region 1 with fail
 refine wp_region_held_drew (S:=fun w'=>w'.cell? ⟨w.heap.size,0,none⟩=some (.int .i64 (k:Int))∧w'.cell? ⟨w.heap.size,1,none⟩=some (.pointer (some ⟨cb,0,none⟩))∧w'.cell? ⟨cb,10,none⟩=some (.slice (some ⟨g10,0,none⟩) n c10)∧w'.cell? ⟨g10,k,none⟩=some (.int .i64 (V 10))) (by kernel_rfl) ?_ (fun hHeld=> ?_)
 · (try dsimp only)
   (first|(go_simp;done)|(go_keep;done))
 refine tq 0 hHeld ?_
 refine tq 1 hHeld ?_
 refine tq 2 hHeld ?_
 refine tq 3 hHeld ?_
 refine tq 4 hHeld ?_
 refine tq 5 hHeld ?_
 refine tq 6 hHeld ?_
 refine tq 7 hHeld ?_
 refine tq 8 hHeld ?_
 refine tq 9 hHeld ?_
 refine wpAnyH_done (by kernel_rfl) ?_ _
 go_wp2_with fail
 go_ret
 exact⟨rfl,bel_a⟩
theorem kQuiet {cb n k:Nat} {V:Nat→Int} {G:Nat→Nat} {w:World} (h:HAt w cb n k V G):
 Calls Tryz.prog 55 #[hdk cb k] w fun e w'=>e= .returned (.int .i64 (V 11))∧Below w.heap.size w w':=by
 have hset:=cset_map
 have l1:=h.cbl
 have hkn:=h.kn
 have hnl:=h.nl
 obtain⟨c11,hc11,hv11,_,l11g,lc11⟩:=h.col 11 (by omega)
 generalize G 11=g11 at hc11 hv11 l11g lc11
 clear h
 go_enter Tryz.func55,Tryz.ntmps55
 go_upto_region 1 with fail
 refine wp_region_held_drew (S:=fun w'=>w'.cell? ⟨w.heap.size,0,none⟩=some (.int .i64 (k:Int))∧w'.cell? ⟨w.heap.size,1,none⟩=some (.pointer (some ⟨cb,0,none⟩))∧w'.cell? ⟨cb,11,none⟩=some (.slice (some ⟨g11,0,none⟩) n c11)∧w'.cell? ⟨g11,k,none⟩=some (.int .i64 (V 11))) (by kernel_rfl) ?_ (fun hHeld=> ?_)
 · (try dsimp only)
   (first|(go_simp;done)|(go_keep;done))
 refine tq 0 hHeld ?_
 refine tq 1 hHeld ?_
 refine tq 2 hHeld ?_
 refine tq 3 hHeld ?_
 refine tq 4 hHeld ?_
 refine tq 5 hHeld ?_
 refine tq 6 hHeld ?_
 refine tq 7 hHeld ?_
 refine tq 8 hHeld ?_
 refine tq 9 hHeld ?_
 refine wpAnyH_done (by kernel_rfl) ?_ _
 go_wp2_with fail
 go_ret
 exact⟨rfl,bel_a⟩
theorem kAt {cb n k:Nat} {V:Nat→Int} {G:Nat→Nat} {w:World} (h:HAt w cb n k V G):
 Calls Tryz.prog 56 #[hdk cb k] w fun e w'=>e= .returned (vv (V 4) (V 5))∧Below w.heap.size w w':=by
 have hset:=cset_map
 have l1:=h.cbl
 have hkn:=h.kn
 have hnl:=h.nl
 obtain⟨c4,hc4,hv4,_,l4g,lc4⟩:=h.col 4 (by omega)
 generalize G 4=g4 at hc4 hv4 l4g lc4
 obtain⟨c5,hc5,hv5,_,l5g,lc5⟩:=h.col 5 (by omega)
 generalize G 5=g5 at hc5 hv5 l5g lc5
 clear h
 go_enter Tryz.func56,Tryz.ntmps56
 go_upto_region 1 with fail
 refine wp_region_held_drew (S:=fun w'=>w'.cell? ⟨w.heap.size,0,none⟩=some (.int .i64 (k:Int))∧w'.cell? ⟨w.heap.size,1,none⟩=some (.pointer (some ⟨cb,0,none⟩))∧w'.cell? ⟨cb,4,none⟩=some (.slice (some ⟨g4,0,none⟩) n c4)∧w'.cell? ⟨g4,k,none⟩=some (.int .i64 (V 4))∧w'.cell? ⟨cb,5,none⟩=some (.slice (some ⟨g5,0,none⟩) n c5)∧w'.cell? ⟨g5,k,none⟩=some (.int .i64 (V 5))) (by kernel_rfl) ?_ (fun hHeld=> ?_)
 · (try dsimp only)
   (first|(go_simp;done)|(go_keep;done))
 refine tq 0 hHeld ?_
 refine tq 1 hHeld ?_
 refine tq 2 hHeld ?_
 refine tq 3 hHeld ?_
 refine tq 4 hHeld ?_
 refine tq 5 hHeld ?_
 refine tq 6 hHeld ?_
 refine tq 7 hHeld ?_
 refine tq 8 hHeld ?_
 refine tq 9 hHeld ?_
 refine tq 10 hHeld ?_
 refine tq 11 hHeld ?_
 refine tq 12 hHeld ?_
 refine tq 13 hHeld ?_
 refine tq 14 hHeld ?_
 refine tq 15 hHeld ?_
 refine tq 16 hHeld ?_
 refine tq 17 hHeld ?_
 refine tq 18 hHeld ?_
 (refine tc 19 fun K hK=> ?_;go_simp;refine tr hK (fun hHeld=> ?_);clear hK K)
 refine wpAnyH_done (by kernel_rfl) ?_ _
 go_wp2_with fail
 exact bodyPost_ret (v:=vv (V 4) (V 5)) (by simp[results,Tryz.results56,go_sem, *]) rfl ⟨rfl,bel_a⟩
theorem kDrive {cb n k:Nat} {V:Nat→Int} {G:Nat→Nat} {w:World} (h:HAt w cb n k V G):
 Calls Tryz.prog 31 #[hdk cb k] w fun e w'=>e= .returned (vv (V 6) (V 7))∧Below w.heap.size w w':=by
 have hset:=cset_map
 have l1:=h.cbl
 have hkn:=h.kn
 have hnl:=h.nl
 obtain⟨c6,hc6,hv6,_,l6g,lc6⟩:=h.col 6 (by omega)
 generalize G 6=g6 at hc6 hv6 l6g lc6
 obtain⟨c7,hc7,hv7,_,l7g,lc7⟩:=h.col 7 (by omega)
 generalize G 7=g7 at hc7 hv7 l7g lc7
 clear h
 go_enter Tryz.func31,Tryz.ntmps31
 go_upto_region 1 with fail
 refine wp_region_held_drew (S:=fun w'=>w'.cell? ⟨w.heap.size,0,none⟩=some (.int .i64 (k:Int))∧w'.cell? ⟨w.heap.size,1,none⟩=some (.pointer (some ⟨cb,0,none⟩))∧w'.cell? ⟨cb,6,none⟩=some (.slice (some ⟨g6,0,none⟩) n c6)∧w'.cell? ⟨g6,k,none⟩=some (.int .i64 (V 6))∧w'.cell? ⟨cb,7,none⟩=some (.slice (some ⟨g7,0,none⟩) n c7)∧w'.cell? ⟨g7,k,none⟩=some (.int .i64 (V 7))) (by kernel_rfl) ?_ (fun hHeld=> ?_)
 · (try dsimp only)
   (first|(go_simp;done)|(go_keep;done))
 refine tq 0 hHeld ?_
 refine tq 1 hHeld ?_
 refine tq 2 hHeld ?_
 refine tq 3 hHeld ?_
 refine tq 4 hHeld ?_
 refine tq 5 hHeld ?_
 refine tq 6 hHeld ?_
 refine tq 7 hHeld ?_
 refine tq 8 hHeld ?_
 refine tq 9 hHeld ?_
 refine tq 10 hHeld ?_
 refine tq 11 hHeld ?_
 refine tq 12 hHeld ?_
 refine tq 13 hHeld ?_
 refine tq 14 hHeld ?_
 refine tq 15 hHeld ?_
 refine tq 16 hHeld ?_
 refine tq 17 hHeld ?_
 refine tq 18 hHeld ?_
 (refine tc 19 fun K hK=> ?_;go_simp;refine tr hK (fun hHeld=> ?_);clear hK K)
 refine wpAnyH_done (by kernel_rfl) ?_ _
 go_wp2_with fail
 exact bodyPost_ret (v:=vv (V 6) (V 7)) (by simp[results,Tryz.results31,go_sem, *]) rfl ⟨rfl,bel_a⟩
theorem kShape {cb n k:Nat} {V:Nat→Int} {G:Nat→Nat} {w:World} (h:HAt w cb n k V G):
 Calls Tryz.prog 61 #[hdk cb k] w fun e w'=>e= .returned (s3 (V 1) (V 2) (V 3))∧Below w.heap.size w w':=by
 have hset:=cset_map
 have l1:=h.cbl
 have hkn:=h.kn
 have hnl:=h.nl
 obtain⟨c1,hc1,hv1,_,l1g,lc1⟩:=h.col 1 (by omega)
 generalize G 1=g1 at hc1 hv1 l1g lc1
 obtain⟨c2,hc2,hv2,_,l2g,lc2⟩:=h.col 2 (by omega)
 generalize G 2=g2 at hc2 hv2 l2g lc2
 obtain⟨c3,hc3,hv3,_,l3g,lc3⟩:=h.col 3 (by omega)
 generalize G 3=g3 at hc3 hv3 l3g lc3
 clear h
 go_enter Tryz.func61,Tryz.ntmps61
 go_upto_region 1 with fail
 refine wp_region_held_drew (S:=fun w'=>w'.cell? ⟨w.heap.size,0,none⟩=some (.int .i64 (k:Int))∧w'.cell? ⟨w.heap.size,1,none⟩=some (.pointer (some ⟨cb,0,none⟩))∧w'.cell? ⟨cb,1,none⟩=some (.slice (some ⟨g1,0,none⟩) n c1)∧w'.cell? ⟨g1,k,none⟩=some (.int .i64 (V 1))∧w'.cell? ⟨cb,2,none⟩=some (.slice (some ⟨g2,0,none⟩) n c2)∧w'.cell? ⟨g2,k,none⟩=some (.int .i64 (V 2))∧w'.cell? ⟨cb,3,none⟩=some (.slice (some ⟨g3,0,none⟩) n c3)∧w'.cell? ⟨g3,k,none⟩=some (.int .i64 (V 3))) (by kernel_rfl) ?_ (fun hHeld=> ?_)
 · (try dsimp only)
   (first|(go_simp;done)|(go_keep;done))
 refine tq 0 hHeld ?_
 refine tq 1 hHeld ?_
 refine tq 2 hHeld ?_
 refine tq 3 hHeld ?_
 refine tq 4 hHeld ?_
 refine tq 5 hHeld ?_
 refine tq 6 hHeld ?_
 refine tq 7 hHeld ?_
 refine tq 8 hHeld ?_
 refine tq 9 hHeld ?_
 refine tq 10 hHeld ?_
 refine tq 11 hHeld ?_
 refine tq 12 hHeld ?_
 refine tq 13 hHeld ?_
 refine tq 14 hHeld ?_
 refine tq 15 hHeld ?_
 refine tq 16 hHeld ?_
 refine tq 17 hHeld ?_
 refine tq 18 hHeld ?_
 refine tq 19 hHeld ?_
 refine tq 20 hHeld ?_
 refine tq 21 hHeld ?_
 refine tq 22 hHeld ?_
 refine tq 23 hHeld ?_
 refine tq 24 hHeld ?_
 refine tq 25 hHeld ?_
 refine tq 26 hHeld ?_
 refine tq 27 hHeld ?_
 (refine tc 28 fun K hK=> ?_;go_simp;refine tr hK (fun hHeld=> ?_);clear hK K)
 refine wpAnyH_done (by kernel_rfl) ?_ _
 go_wp2_with fail
 exact bodyPost_ret (v:=s3 (V 1) (V 2) (V 3)) (by simp[results,Tryz.results61,go_sem, *]) rfl ⟨rfl,bel_a⟩
theorem kFixed {cb n k:Nat} {V:Nat→Int} {G:Nat→Nat} {w:World} (h:HAt w cb n k V G):
 Calls Tryz.prog 51 #[hdk cb k] w fun e w'=>e= .returned (.bool (decide (V 8=0)))∧Below w.heap.size w w':=by
 have hset:=cset_map
 have h':HAt (w.alloc (.cells #[.int .i64 (k:Int),.pointer (some ⟨cb,0,none⟩)] 59)) cb n k V G:=h.below (bel_a)
 go_enter Tryz.func51,Tryz.ntmps51
 go_wp2_with (go_at_call 60;refine(kMass h').mono ?_;rintro e w1 ⟨rfl,hb1⟩;have hz1:=hb1.size;(try simp only[zz] at hz1);have:=kfa hb1 w.heap.size)
 go_ret
 exact⟨rfl,bel_a⟩
theorem kSleeps {cb n k:Nat} {V:Nat→Int} {G:Nat→Nat} {w:World} (h:HAt w cb n k V G):
 Calls Tryz.prog 24 #[hdk cb k] w fun e w'=>e= .returned (.bool (decide (V 11=8)))∧Below w.heap.size w w':=by
 have hset:=cset_map
 have h':HAt (w.alloc (.cells #[.int .i64 (k:Int),.pointer (some ⟨cb,0,none⟩)] 59)) cb n k V G:=h.below (bel_a)
 go_enter Tryz.func24,Tryz.ntmps24
 go_wp2_with (go_at_call 55;refine(kQuiet h').mono ?_;rintro e w1 ⟨rfl,hb1⟩;have hz1:=hb1.size;(try simp only[zz] at hz1);have:=kfa hb1 w.heap.size)
 go_ret
 exact⟨rfl,bel_a⟩
def restB (V:Nat→Int):Bool:=decide ((V 8=0→V 11=0)∧((V 8≠0∧V 11≠8)∨(V 6=0∧V 7=0)))
def bodyB (V:Nat→Int):Bool:=(decide (0≤V 0∧V 0≤999999999)&&(shB (V 1) (V 2) (V 3)&&(inB 2560000 (V 4) (V 5)&&(inB 20000000 (V 6) (V 7)&&(decide (0≤V 8∧V 8≤1000)&&(decide (0≤V 9∧V 9≤256)&&(decide (0≤V 10∧V 10≤256)&&(decide (0≤V 11∧V 11≤8)&&restB V))))))))
theorem upTo_q (n l:Int) (b:Bool) (w:World) (e:decide (0≤n∧n≤l)=b):
 Calls Tryz.prog 86 #[.int .i64 n,.int .i64 l] w fun e w'=>e= .returned (.bool b)∧Below w.heap.size w w':=by
 subst e;exact(upTo_any n l w).mono fun e w' ⟨a,b⟩=>⟨a,b▸Below.refl _ _⟩
theorem shapeOk_q (k wd h:Int) (b:Bool) (w:World) (e:shB k wd h=b):
 Calls Tryz.prog 87 #[s3 k wd h] w fun e w'=>e= .returned (.bool b)∧Below w.heap.size w w':=by
 subst e;exact shapeOk_any k wd h w
theorem within2_q (x y l:Int) (b:Bool) (w:World) (h0:0≤l) (h1:l≤4000000000) (e:inB l x y=b):
 Calls Tryz.prog 88 #[vv x y,.int .i64 l] w fun e w'=>e= .returned (.bool b)∧Below w.heap.size w w':=by
 subst e;exact within2_any x y l w h0 h1
theorem run_eq_way (n d:Nat) (hn:n=d+1) (a b x y:Int) (w:World):(Op.equalIn (n+1) 66 (vv a b) (vv x y)).run Tryz.prog w= .ok (a==x&&b==y) w:=by
 have hu:Tryz.prog.underlying 66=some (.array 2 64):=by kernel_rfl
 have hi:Tryz.prog.underlying 64=some (.int .i64):=by kernel_rfl
 have hz:∀ w,(sizeOf 64).run Tryz.prog w= .ok 1 w:=fun w=>by kernel_rfl
 have p0:∀ (a b:Int) w,(part 64 #[.int .i64 a,.int .i64 b] (0*1)).run Tryz.prog w= .ok (.int .i64 a) w:=fun a b w=>by kernel_rfl
 have p1:∀ (a b:Int) w,(part 64 #[.int .i64 a,.int .i64 b] (1*1)).run Tryz.prog w= .ok (.int .i64 b) w:=fun a b w=>by kernel_rfl
 simp only[Op.equalIn,Sem.run_bind,run_underlying hu,Result.andThen_ok,hz]
 subst hn
 have h0:∀ w,(Op.equalIn (d+1) 64 (.int .i64 a) (.int .i64 x)).run Tryz.prog w= .ok (a==x) w:=fun w=>run_equalIn_int w d 64 .i64 .i64 a x hi
 have h1:∀ w,(Op.equalIn (d+1) 64 (.int .i64 b) (.int .i64 y)).run Tryz.prog w= .ok (b==y) w:=fun w=>run_equalIn_int w d 64 .i64 .i64 b y hi
 simp only[Std.Legacy.Range.forIn_eq_forIn_range',Std.Legacy.Range.size,List.range',List.forIn_cons,List.forIn_nil,Sem.run_bind,p0,h0,Result.andThen_ok,Sem.run_ite,Sem.run_pure]
 cases hx:(a==x)<;>cases hy:(b==y)<;>simp[Sem.run_bind,p1,h0,h1,Sem.run_ite,hx,hy]
theorem eq_way0 (a b x y:Int) (w:World):(Op.equalIn 10000 66 (.agg #[.int .i64 a,.int .i64 b]) (.agg #[.int .i64 x,.int .i64 y])).run Tryz.prog w= .ok (a==x&&b==y) w:=run_eq_way 9999 9998 rfl a b x y w
theorem kRestOk {cb n k:Nat} {V:Nat→Int} {G:Nat→Nat} {w:World} (h:HAt w cb n k V G) (b:Bool) (eb:restB V=b):
 Calls Tryz.prog 89 #[hdk cb k] w fun e w'=>e= .returned (.bool b)∧Below w.heap.size w w':=by
 have hset:=cset_map
 have heq:=eq_way0
 subst eb
 unfold restB
 by_cases f8:V 8=0<;>by_cases f11:V 11=0<;>by_cases f88:V 11=8<;>by_cases f6:V 6=0<;>by_cases f7:V 7=0
 all_goals(try(exfalso;omega))
 all_goals
  go_enter Tryz.func89,Tryz.ntmps89
  go_wp2_with (first
   |(go_at_call 51;refine(kFixed (HAt.below h (bel_a))).mono ?_;rintro e w1 ⟨rfl,hb1⟩;have hz1:=hb1.size;(try simp only[zz] at hz1);have:=kfa hb1 w.heap.size)
   |(go_at_call 55;refine(kQuiet (HAt.below h (bel_a))).mono ?_;rintro e w2 ⟨rfl,hb2⟩;have hz2:=hb2.size;(try simp only[zz] at hz2);have:=kfa hb2 w.heap.size)
   |(go_at_call 24;refine(kSleeps (HAt.below h (bel_a))).mono ?_;rintro e w3 ⟨rfl,hb3⟩;have hz3:=hb3.size;(try simp only[zz] at hz3);have:=kfa hb3 w.heap.size)
   |(go_at_call 31;refine(kDrive (HAt.below h (bel_a))).mono ?_;rintro e w4 ⟨rfl,hb4⟩;have hz4:=hb4.size;(try simp only[zz] at hz4);have:=kfa hb4 w.heap.size))
  all_goals
   go_ret
   exact⟨ret_bool (by simp[*]),bel_a⟩
abbrev bodyW (V:Nat→Int):Value:= .agg #[.int .i64 (V 0),.int .i64 (V 1),.int .i64 (V 2),.int .i64 (V 3),.int .i64 (V 4),.int .i64 (V 5),.int .i64 (V 6),.int .i64 (V 7),.int .i64 (V 8),.int .i64 (V 9),.int .i64 (V 10),.int .i64 (V 11)]
theorem l1In_q (n l h:Int) (b:Bool) (w:World) (e:decide (l≤n∧n≤h)=b):
 Calls Tryz.prog 19 #[.int .i64 n,.int .i64 l,.int .i64 h] w fun e w'=>e= .returned (.bool b)∧Below w.heap.size w w':=by
 subst e;exact(l1In_any n l h w).mono fun e w' ⟨a,b⟩=>⟨a,b▸Below.refl _ _⟩
theorem sShapeOk_q (k wd h:Int) (b:Bool) (w:World) (e:shB k wd h=b):
 Calls Tryz.prog 64 #[s3 k wd h] w fun e w'=>e= .returned (.bool b)∧Below w.heap.size w w':=by
 subst e;exact sShapeOk_any k wd h w
theorem l3Place_q (x y:Int) (b:Bool) (w:World) (e:inB 2560000 x y=b):
 Calls Tryz.prog 65 #[vv x y] w fun e w'=>e= .returned (.bool b)∧Below w.heap.size w w':=by
 subst e;exact l3Place_any x y w
theorem l6Drive_any (x y:Int) (w:World):
 Calls Tryz.prog 66 #[vv x y] w fun e w'=>e= .returned (.bool (inB 20000000 x y))∧Below w.heap.size w w':=by
 have hset:=cset_map
 go_enter Tryz.func66,Tryz.ntmps66
 go_wp2_with (go_at_call 19;refine(l1In_any _ _ _ _).mono ?_;rintro e w' ⟨rfl,rfl⟩)
 all_goals
  go_ret
  refine⟨ret_bool ?_,bel_a⟩
  unfold inB
  first|(simp[*];done)|(simp at*;omega)|(simp[*];omega)
theorem l6Drive_q (x y:Int) (b:Bool) (w:World) (e:inB 20000000 x y=b):
 Calls Tryz.prog 66 #[vv x y] w fun e w'=>e= .returned (.bool b)∧Below w.heap.size w w':=by
 subst e;exact l6Drive_any x y w
theorem sBodyOk_0 (V:Nat→Int) (w:World) (k0:decide (0≤V 0∧V 0≤999999999)=false):
 Calls Tryz.prog 28 #[bodyW V] w fun e w'=>e= .returned (.bool false)∧Below w.heap.size w w':=by
 have hset:=cset_map
 go_enter Tryz.func28,Tryz.ntmps28
 go_wp2_with (first
  |(go_at_call 19;refine(l1In_q _ _ _ _ _ (by with_reducible assumption)).mono ?_;rintro e w1 ⟨rfl,hb1⟩;have hz1:=hb1.size;(try simp only[zz] at hz1);have:=kfa hb1 w.heap.size)
  |(go_at_call 64;refine(sShapeOk_q _ _ _ _ _ (by with_reducible assumption)).mono ?_;rintro e w2 ⟨rfl,hb2⟩;have hz2:=hb2.size;(try simp only[zz] at hz2);have:=kfa hb2 w.heap.size)
  |(go_at_call 65;refine(l3Place_q _ _ _ _ (by with_reducible assumption)).mono ?_;rintro e w3 ⟨rfl,hb3⟩;have hz3:=hb3.size;(try simp only[zz] at hz3);have:=kfa hb3 w.heap.size)
  |(go_at_call 66;refine(l6Drive_q _ _ _ _ (by with_reducible assumption)).mono ?_;rintro e w4 ⟨rfl,hb4⟩;have hz4:=hb4.size;(try simp only[zz] at hz4);have:=kfa hb4 w.heap.size))
 go_ret
 exact⟨rfl,bel_a⟩
theorem sBodyOk_1 (V:Nat→Int) (w:World) (k0:decide (0≤V 0∧V 0≤999999999)=true) (k1:shB (V 1) (V 2) (V 3)=false):
 Calls Tryz.prog 28 #[bodyW V] w fun e w'=>e= .returned (.bool false)∧Below w.heap.size w w':=by
 have hset:=cset_map
 go_enter Tryz.func28,Tryz.ntmps28
 go_wp2_with (first
  |(go_at_call 19;refine(l1In_q _ _ _ _ _ (by with_reducible assumption)).mono ?_;rintro e w1 ⟨rfl,hb1⟩;have hz1:=hb1.size;(try simp only[zz] at hz1);have:=kfa hb1 w.heap.size)
  |(go_at_call 64;refine(sShapeOk_q _ _ _ _ _ (by with_reducible assumption)).mono ?_;rintro e w2 ⟨rfl,hb2⟩;have hz2:=hb2.size;(try simp only[zz] at hz2);have:=kfa hb2 w.heap.size)
  |(go_at_call 65;refine(l3Place_q _ _ _ _ (by with_reducible assumption)).mono ?_;rintro e w3 ⟨rfl,hb3⟩;have hz3:=hb3.size;(try simp only[zz] at hz3);have:=kfa hb3 w.heap.size)
  |(go_at_call 66;refine(l6Drive_q _ _ _ _ (by with_reducible assumption)).mono ?_;rintro e w4 ⟨rfl,hb4⟩;have hz4:=hb4.size;(try simp only[zz] at hz4);have:=kfa hb4 w.heap.size))
 go_ret
 exact⟨rfl,bel_a⟩
theorem sBodyOk_2 (V:Nat→Int) (w:World) (k0:decide (0≤V 0∧V 0≤999999999)=true) (k1:shB (V 1) (V 2) (V 3)=true) (k2:inB 2560000 (V 4) (V 5)=false):
 Calls Tryz.prog 28 #[bodyW V] w fun e w'=>e= .returned (.bool false)∧Below w.heap.size w w':=by
 have hset:=cset_map
 go_enter Tryz.func28,Tryz.ntmps28
 go_wp2_with (first
  |(go_at_call 19;refine(l1In_q _ _ _ _ _ (by with_reducible assumption)).mono ?_;rintro e w1 ⟨rfl,hb1⟩;have hz1:=hb1.size;(try simp only[zz] at hz1);have:=kfa hb1 w.heap.size)
  |(go_at_call 64;refine(sShapeOk_q _ _ _ _ _ (by with_reducible assumption)).mono ?_;rintro e w2 ⟨rfl,hb2⟩;have hz2:=hb2.size;(try simp only[zz] at hz2);have:=kfa hb2 w.heap.size)
  |(go_at_call 65;refine(l3Place_q _ _ _ _ (by with_reducible assumption)).mono ?_;rintro e w3 ⟨rfl,hb3⟩;have hz3:=hb3.size;(try simp only[zz] at hz3);have:=kfa hb3 w.heap.size)
  |(go_at_call 66;refine(l6Drive_q _ _ _ _ (by with_reducible assumption)).mono ?_;rintro e w4 ⟨rfl,hb4⟩;have hz4:=hb4.size;(try simp only[zz] at hz4);have:=kfa hb4 w.heap.size))
 go_ret
 exact⟨rfl,bel_a⟩
theorem sBodyOk_3 (V:Nat→Int) (w:World) (k0:decide (0≤V 0∧V 0≤999999999)=true) (k1:shB (V 1) (V 2) (V 3)=true) (k2:inB 2560000 (V 4) (V 5)=true) (k3:inB 20000000 (V 6) (V 7)=false):
 Calls Tryz.prog 28 #[bodyW V] w fun e w'=>e= .returned (.bool false)∧Below w.heap.size w w':=by
 have hset:=cset_map
 go_enter Tryz.func28,Tryz.ntmps28
 go_wp2_with (first
  |(go_at_call 19;refine(l1In_q _ _ _ _ _ (by with_reducible assumption)).mono ?_;rintro e w1 ⟨rfl,hb1⟩;have hz1:=hb1.size;(try simp only[zz] at hz1);have:=kfa hb1 w.heap.size)
  |(go_at_call 64;refine(sShapeOk_q _ _ _ _ _ (by with_reducible assumption)).mono ?_;rintro e w2 ⟨rfl,hb2⟩;have hz2:=hb2.size;(try simp only[zz] at hz2);have:=kfa hb2 w.heap.size)
  |(go_at_call 65;refine(l3Place_q _ _ _ _ (by with_reducible assumption)).mono ?_;rintro e w3 ⟨rfl,hb3⟩;have hz3:=hb3.size;(try simp only[zz] at hz3);have:=kfa hb3 w.heap.size)
  |(go_at_call 66;refine(l6Drive_q _ _ _ _ (by with_reducible assumption)).mono ?_;rintro e w4 ⟨rfl,hb4⟩;have hz4:=hb4.size;(try simp only[zz] at hz4);have:=kfa hb4 w.heap.size))
 go_ret
 exact⟨rfl,bel_a⟩
theorem sBodyOk_4 (V:Nat→Int) (w:World) (k0:decide (0≤V 0∧V 0≤999999999)=true) (k1:shB (V 1) (V 2) (V 3)=true) (k2:inB 2560000 (V 4) (V 5)=true) (k3:inB 20000000 (V 6) (V 7)=true) (k4:decide (0≤V 8∧V 8≤1000)=false):
 Calls Tryz.prog 28 #[bodyW V] w fun e w'=>e= .returned (.bool false)∧Below w.heap.size w w':=by
 have hset:=cset_map
 go_enter Tryz.func28,Tryz.ntmps28
 go_wp2_with (first
  |(go_at_call 19;refine(l1In_q _ _ _ _ _ (by with_reducible assumption)).mono ?_;rintro e w1 ⟨rfl,hb1⟩;have hz1:=hb1.size;(try simp only[zz] at hz1);have:=kfa hb1 w.heap.size)
  |(go_at_call 64;refine(sShapeOk_q _ _ _ _ _ (by with_reducible assumption)).mono ?_;rintro e w2 ⟨rfl,hb2⟩;have hz2:=hb2.size;(try simp only[zz] at hz2);have:=kfa hb2 w.heap.size)
  |(go_at_call 65;refine(l3Place_q _ _ _ _ (by with_reducible assumption)).mono ?_;rintro e w3 ⟨rfl,hb3⟩;have hz3:=hb3.size;(try simp only[zz] at hz3);have:=kfa hb3 w.heap.size)
  |(go_at_call 66;refine(l6Drive_q _ _ _ _ (by with_reducible assumption)).mono ?_;rintro e w4 ⟨rfl,hb4⟩;have hz4:=hb4.size;(try simp only[zz] at hz4);have:=kfa hb4 w.heap.size))
 go_ret
 exact⟨rfl,bel_a⟩
theorem sBodyOk_5 (V:Nat→Int) (w:World) (k0:decide (0≤V 0∧V 0≤999999999)=true) (k1:shB (V 1) (V 2) (V 3)=true) (k2:inB 2560000 (V 4) (V 5)=true) (k3:inB 20000000 (V 6) (V 7)=true) (k4:decide (0≤V 8∧V 8≤1000)=true) (k5:decide (0≤V 9∧V 9≤256)=false):
 Calls Tryz.prog 28 #[bodyW V] w fun e w'=>e= .returned (.bool false)∧Below w.heap.size w w':=by
 have hset:=cset_map
 go_enter Tryz.func28,Tryz.ntmps28
 go_wp2_with (first
  |(go_at_call 19;refine(l1In_q _ _ _ _ _ (by with_reducible assumption)).mono ?_;rintro e w1 ⟨rfl,hb1⟩;have hz1:=hb1.size;(try simp only[zz] at hz1);have:=kfa hb1 w.heap.size)
  |(go_at_call 64;refine(sShapeOk_q _ _ _ _ _ (by with_reducible assumption)).mono ?_;rintro e w2 ⟨rfl,hb2⟩;have hz2:=hb2.size;(try simp only[zz] at hz2);have:=kfa hb2 w.heap.size)
  |(go_at_call 65;refine(l3Place_q _ _ _ _ (by with_reducible assumption)).mono ?_;rintro e w3 ⟨rfl,hb3⟩;have hz3:=hb3.size;(try simp only[zz] at hz3);have:=kfa hb3 w.heap.size)
  |(go_at_call 66;refine(l6Drive_q _ _ _ _ (by with_reducible assumption)).mono ?_;rintro e w4 ⟨rfl,hb4⟩;have hz4:=hb4.size;(try simp only[zz] at hz4);have:=kfa hb4 w.heap.size))
 go_ret
 exact⟨rfl,bel_a⟩
theorem sBodyOk_6 (V:Nat→Int) (w:World) (k0:decide (0≤V 0∧V 0≤999999999)=true) (k1:shB (V 1) (V 2) (V 3)=true) (k2:inB 2560000 (V 4) (V 5)=true) (k3:inB 20000000 (V 6) (V 7)=true) (k4:decide (0≤V 8∧V 8≤1000)=true) (k5:decide (0≤V 9∧V 9≤256)=true) (k6:decide (0≤V 10∧V 10≤256)=false):
 Calls Tryz.prog 28 #[bodyW V] w fun e w'=>e= .returned (.bool false)∧Below w.heap.size w w':=by
 have hset:=cset_map
 go_enter Tryz.func28,Tryz.ntmps28
 go_wp2_with (first
  |(go_at_call 19;refine(l1In_q _ _ _ _ _ (by with_reducible assumption)).mono ?_;rintro e w1 ⟨rfl,hb1⟩;have hz1:=hb1.size;(try simp only[zz] at hz1);have:=kfa hb1 w.heap.size)
  |(go_at_call 64;refine(sShapeOk_q _ _ _ _ _ (by with_reducible assumption)).mono ?_;rintro e w2 ⟨rfl,hb2⟩;have hz2:=hb2.size;(try simp only[zz] at hz2);have:=kfa hb2 w.heap.size)
  |(go_at_call 65;refine(l3Place_q _ _ _ _ (by with_reducible assumption)).mono ?_;rintro e w3 ⟨rfl,hb3⟩;have hz3:=hb3.size;(try simp only[zz] at hz3);have:=kfa hb3 w.heap.size)
  |(go_at_call 66;refine(l6Drive_q _ _ _ _ (by with_reducible assumption)).mono ?_;rintro e w4 ⟨rfl,hb4⟩;have hz4:=hb4.size;(try simp only[zz] at hz4);have:=kfa hb4 w.heap.size))
 go_ret
 exact⟨rfl,bel_a⟩
theorem sBodyOk_7 (V:Nat→Int) (w:World) (k0:decide (0≤V 0∧V 0≤999999999)=true) (k1:shB (V 1) (V 2) (V 3)=true) (k2:inB 2560000 (V 4) (V 5)=true) (k3:inB 20000000 (V 6) (V 7)=true) (k4:decide (0≤V 8∧V 8≤1000)=true) (k5:decide (0≤V 9∧V 9≤256)=true) (k6:decide (0≤V 10∧V 10≤256)=true) (k7:decide (0≤V 11∧V 11≤8)=false):
 Calls Tryz.prog 28 #[bodyW V] w fun e w'=>e= .returned (.bool false)∧Below w.heap.size w w':=by
 have hset:=cset_map
 go_enter Tryz.func28,Tryz.ntmps28
 go_wp2_with (first
  |(go_at_call 19;refine(l1In_q _ _ _ _ _ (by with_reducible assumption)).mono ?_;rintro e w1 ⟨rfl,hb1⟩;have hz1:=hb1.size;(try simp only[zz] at hz1);have:=kfa hb1 w.heap.size)
  |(go_at_call 64;refine(sShapeOk_q _ _ _ _ _ (by with_reducible assumption)).mono ?_;rintro e w2 ⟨rfl,hb2⟩;have hz2:=hb2.size;(try simp only[zz] at hz2);have:=kfa hb2 w.heap.size)
  |(go_at_call 65;refine(l3Place_q _ _ _ _ (by with_reducible assumption)).mono ?_;rintro e w3 ⟨rfl,hb3⟩;have hz3:=hb3.size;(try simp only[zz] at hz3);have:=kfa hb3 w.heap.size)
  |(go_at_call 66;refine(l6Drive_q _ _ _ _ (by with_reducible assumption)).mono ?_;rintro e w4 ⟨rfl,hb4⟩;have hz4:=hb4.size;(try simp only[zz] at hz4);have:=kfa hb4 w.heap.size))
 go_ret
 exact⟨rfl,bel_a⟩
theorem sBodyOk_8 (V:Nat→Int) (w:World) (k0:decide (0≤V 0∧V 0≤999999999)=true) (k1:shB (V 1) (V 2) (V 3)=true) (k2:inB 2560000 (V 4) (V 5)=true) (k3:inB 20000000 (V 6) (V 7)=true) (k4:decide (0≤V 8∧V 8≤1000)=true) (k5:decide (0≤V 9∧V 9≤256)=true) (k6:decide (0≤V 10∧V 10≤256)=true) (k7:decide (0≤V 11∧V 11≤8)=true):
 Calls Tryz.prog 28 #[bodyW V] w fun e w'=>e= .returned (.bool (restB V))∧Below w.heap.size w w':=by
 have hset:=cset_map
 have k7':=k7
 simp only[decide_eq_true_eq] at k7'
 obtain⟨k70,k71⟩:=k7'
 unfold restB
 go_enter Tryz.func28,Tryz.ntmps28
 go_upto_region 3 with(first
  |(go_at_call 19;refine(l1In_q _ _ _ _ _ (by with_reducible assumption)).mono ?_;rintro e w1 ⟨rfl,hb1⟩;have hz1:=hb1.size;(try simp only[zz] at hz1);have:=kfa hb1 w.heap.size)
  |(go_at_call 64;refine(sShapeOk_q _ _ _ _ _ (by with_reducible assumption)).mono ?_;rintro e w2 ⟨rfl,hb2⟩;have hz2:=hb2.size;(try simp only[zz] at hz2);have:=kfa hb2 w.heap.size)
  |(go_at_call 65;refine(l3Place_q _ _ _ _ (by with_reducible assumption)).mono ?_;rintro e w3 ⟨rfl,hb3⟩;have hz3:=hb3.size;(try simp only[zz] at hz3);have:=kfa hb3 w.heap.size)
  |(go_at_call 66;refine(l6Drive_q _ _ _ _ (by with_reducible assumption)).mono ?_;rintro e w4 ⟨rfl,hb4⟩;have hz4:=hb4.size;(try simp only[zz] at hz4);have:=kfa hb4 w.heap.size))
 clear k0 k1 k2 k3 k4 k5 k6 k7
 by_cases f8:V 8=0<;>by_cases f11:V 11=0<;>by_cases f88:V 11<8<;>by_cases f6:V 6=0<;>by_cases f7:V 7=0
 all_goals(try(exfalso;omega))
 all_goals
  have f9:(V 11=8)=(¬ V 11<8):=propext (by omega)
  go_wp2_with fail
  all_goals
   go_ret
   exact⟨ret_bool (by simp[*]),bel_a⟩
theorem sBodyOk_q (V:Nat→Int) (b:Bool) (w:World) (e:bodyB V=b):
 Calls Tryz.prog 28 #[bodyW V] w fun e w'=>e= .returned (.bool b)∧Below w.heap.size w w':=by
 subst e
 unfold bodyB
 cases k0:decide (0≤V 0∧V 0≤999999999) with
 |false=>exact sBodyOk_0 V w k0
 | true=>
   cases k1:shB (V 1) (V 2) (V 3) with
   |false=>exact sBodyOk_1 V w k0 k1
   | true=>
     cases k2:inB 2560000 (V 4) (V 5) with
     |false=>exact sBodyOk_2 V w k0 k1 k2
     | true=>
       cases k3:inB 20000000 (V 6) (V 7) with
       |false=>exact sBodyOk_3 V w k0 k1 k2 k3
       | true=>
         cases k4:decide (0≤V 8∧V 8≤1000) with
         |false=>exact sBodyOk_4 V w k0 k1 k2 k3 k4
         | true=>
           cases k5:decide (0≤V 9∧V 9≤256) with
           |false=>exact sBodyOk_5 V w k0 k1 k2 k3 k4 k5
           | true=>
             cases k6:decide (0≤V 10∧V 10≤256) with
             |false=>exact sBodyOk_6 V w k0 k1 k2 k3 k4 k5 k6
             | true=>
               cases k7:decide (0≤V 11∧V 11≤8) with
               |false=>exact sBodyOk_7 V w k0 k1 k2 k3 k4 k5 k6 k7
               | true=>
                 simp only[Bool.true_and]
                 exact sBodyOk_8 V w k0 k1 k2 k3 k4 k5 k6 k7
theorem bodyB_bd {V:Nat→Int} (h:bodyB V=true):(0≤V 8∧V 8≤1000)∧(0≤V 11∧V 11≤8)∧(-2560000≤V 4∧V 4≤2560000)∧(-2560000≤V 5∧V 5≤2560000)∧(-20000000≤V 6∧V 6≤20000000)∧(-20000000≤V 7∧V 7≤20000000)∧(0≤V 9∧V 9≤256)∧(0≤V 10∧V 10≤256)∧shB (V 1) (V 2) (V 3)=true∧restB V=true:=by
 unfold bodyB at h
 simp only[Bool.and_eq_true,decide_eq_true_eq] at h
 obtain⟨a0,a1,a2,a3,a4,a5,a6,a7,a8⟩:=h
 obtain⟨p1,p2⟩:=inB_of a2
 obtain⟨q1,q2⟩:=inB_of a3
 exact⟨a4,a7,p1,p2,q1,q2,a5,a6,a1,a8⟩
def spX (V:Nat→Int):Int:=if V 8=0 then 0 else (V 6).tdiv (V 8)
def spY (V:Nat→Int):Int:=if V 8=0 then 0 else (V 7).tdiv (V 8)
end Go.Proofs.YthajilkjfkppoaaGreatDoor
