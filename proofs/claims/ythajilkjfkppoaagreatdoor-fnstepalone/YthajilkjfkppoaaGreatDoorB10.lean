/- Texts of a proof. -/
import Derived.Test.YthajilkjfkppoaaGreatDoorB2
import Derived.Test.YthajilkjfkppoaaGreatDoorB6
import Derived.Test.YthajilkjfkppoaaGreatDoorB7
import Derived.Deep.RegionHeld3
import Derived.Deep.DeepCutAuto
import Derived.Test.YthajilkjfkppoaaGreatDoorB9
import Derived.LoopNIn
import Derived.LoopIn
import Derived.OwnWalkIn
import Derived.Test.YthajilkjfkppoaaGreatDoorB3
import Derived.Deep.QuietTactic
import Derived.BigQuiet
import Derived.Deep.RegionWith
import Derived.Lib.SliceRun
set_option maxHeartbeats 16000000
set_option maxRecDepth 20000
namespace Go.Proofs.YthajilkjfkppoaaGreatDoor
open Go.RowKit
set_option linter.unusedVariables false
set_option linter.unusedSimpArgs false
theorem kOk_any {cb n k:Nat} {V:Nat→Int} {G:Nat→Nat} {w:World} (h:HAt w cb n k V G):
 Calls Tryz.prog 50 #[hdk cb k] w fun e w'=>e= .returned (.bool (bodyB V))∧Below w.heap.size w w':=by
 unfold bodyB
 generalize k0:decide (0≤V 0∧V 0≤999999999)=b0
 generalize k1:shB (V 1) (V 2) (V 3)=b1
 generalize k2:inB 2560000 (V 4) (V 5)=b2
 generalize k3:inB 20000000 (V 6) (V 7)=b3
 generalize k4:decide (0≤V 8∧V 8≤1000)=b4
 generalize k5:decide (0≤V 9∧V 9≤256)=b5
 generalize k6:decide (0≤V 10∧V 10≤256)=b6
 generalize k7:decide (0≤V 11∧V 11≤8)=b7
 generalize k8:restB V=b8
 have hset:=cset_map
 have l1:=h.cbl
 have hkn:=h.kn
 have hnl:=h.nl
 obtain⟨c0,hc0,hv0,_,l0g,lc0⟩:=h.col 0 (by omega)
 generalize hG0:G 0=g0 at hc0 hv0 l0g lc0
 clear hG0
 go_enter Tryz.func50,Tryz.ntmps50
 go_upto_region 1 with fail
 refine wp_region_held_drew (S:=fun w'=>w'.cell? ⟨w.heap.size,0,none⟩=some (.int .i64 (k:Int))∧w'.cell? ⟨w.heap.size,1,none⟩=some (.pointer (some ⟨cb,0,none⟩))∧w'.cell? ⟨cb,0,none⟩=some (.slice (some ⟨g0,0,none⟩) n c0)∧w'.cell? ⟨g0,k,none⟩=some (.int .i64 (V 0))) (by kernel_rfl) ?_ (fun hHeld=> ?_)
 · (try dsimp only)
   (first|(go_simp;done)|(go_keep;done))
 refine tq 0 hHeld ?_
 refine tq 1 hHeld ?_
 refine tq 2 hHeld ?_
 refine tq 3 hHeld ?_
 refine tq 4 hHeld ?_
 refine tq 5 hHeld ?_
 refine tq 6 hHeld ?_
 refine tq 7 hHeld ?_
 refine tq 8 hHeld ?_
 (refine tc 9 fun K hK=> ?_;go_simp;(go_at_call 86;refine(upTo_q _ _ _ _ (by with_reducible assumption)).mono ?_;rintro e w1 ⟨rfl,hb1⟩;have hz1:=hb1.size;(try simp only[zz] at hz1);have:=kfa hb1 w.heap.size;have:=kfa hb1 cb;have:=kfa hb1 g0);(try go_wp2_with fail);refine tr hK (fun hHeld=> ?_);clear hK K)
 refine tq 10 hHeld ?_
 all_goals first|refine tn 11 hHeld ?_|(cases b0<;>first|refine tn 11 hHeld ?_|refine tq 11 hHeld ?_)
 all_goals first|refine tn 12 hHeld ?_|(refine tc 12 fun K hK=> ?_;go_simp;(go_at_call 61;refine(kShape (HAt.below h (bel_a))).mono ?_;rintro e w2 ⟨rfl,hb2⟩;have hz2:=hb2.size;(try simp only[zz] at hz2);have:=kfa hb2 w.heap.size;have:=kfa hb2 cb;have:=kfa hb2 g0);(try go_wp2_with fail);refine tr hK (fun hHeld=> ?_);clear hK K)
 all_goals first|refine tn 13 hHeld ?_|(refine tc 13 fun K hK=> ?_;go_simp;(go_at_call 87;refine(shapeOk_q _ _ _ _ _ (by with_reducible assumption)).mono ?_;rintro e w3 ⟨rfl,hb3⟩;have hz3:=hb3.size;(try simp only[zz] at hz3);have:=kfa hb3 w.heap.size;have:=kfa hb3 cb;have:=kfa hb3 g0);(try go_wp2_with fail);refine tr hK (fun hHeld=> ?_);clear hK K)
 all_goals refine tq 14 hHeld ?_
 all_goals refine tq 15 hHeld ?_
 all_goals first|refine tn 16 hHeld ?_|(cases b1<;>first|refine tn 16 hHeld ?_|refine tq 16 hHeld ?_)
 all_goals first|refine tn 17 hHeld ?_|(refine tc 17 fun K hK=> ?_;go_simp;(go_at_call 56;refine(kAt (HAt.below h (bel_a))).mono ?_;rintro e w4 ⟨rfl,hb4⟩;have hz4:=hb4.size;(try simp only[zz] at hz4);have:=kfa hb4 w.heap.size;have:=kfa hb4 cb;have:=kfa hb4 g0);(try go_wp2_with fail);refine tr hK (fun hHeld=> ?_);clear hK K)
 all_goals first|refine tn 18 hHeld ?_|(refine tc 18 fun K hK=> ?_;go_simp;(go_at_call 88;refine(within2_q _ _ _ _ _ (by omega) (by omega) (by with_reducible assumption)).mono ?_;rintro e w5 ⟨rfl,hb5⟩;have hz5:=hb5.size;(try simp only[zz] at hz5);have:=kfa hb5 w.heap.size;have:=kfa hb5 cb;have:=kfa hb5 g0);(try go_wp2_with fail);refine tr hK (fun hHeld=> ?_);clear hK K)
 all_goals refine tq 19 hHeld ?_
 all_goals refine tq 20 hHeld ?_
 all_goals first|refine tn 21 hHeld ?_|(cases b2<;>first|refine tn 21 hHeld ?_|refine tq 21 hHeld ?_)
 all_goals first|refine tn 22 hHeld ?_|(refine tc 22 fun K hK=> ?_;go_simp;(go_at_call 31;refine(kDrive (HAt.below h (bel_a))).mono ?_;rintro e w6 ⟨rfl,hb6⟩;have hz6:=hb6.size;(try simp only[zz] at hz6);have:=kfa hb6 w.heap.size;have:=kfa hb6 cb;have:=kfa hb6 g0);(try go_wp2_with fail);refine tr hK (fun hHeld=> ?_);clear hK K)
 all_goals first|refine tn 23 hHeld ?_|(refine tc 23 fun K hK=> ?_;go_simp;(go_at_call 88;refine(within2_q _ _ _ _ _ (by omega) (by omega) (by with_reducible assumption)).mono ?_;rintro e w7 ⟨rfl,hb7⟩;have hz7:=hb7.size;(try simp only[zz] at hz7);have:=kfa hb7 w.heap.size;have:=kfa hb7 cb;have:=kfa hb7 g0);(try go_wp2_with fail);refine tr hK (fun hHeld=> ?_);clear hK K)
 all_goals refine tq 24 hHeld ?_
 all_goals refine tq 25 hHeld ?_
 all_goals first|refine tn 26 hHeld ?_|(cases b3<;>first|refine tn 26 hHeld ?_|refine tq 26 hHeld ?_)
 all_goals first|refine tn 27 hHeld ?_|(refine tc 27 fun K hK=> ?_;go_simp;(go_at_call 60;refine(kMass (HAt.below h (bel_a))).mono ?_;rintro e w8 ⟨rfl,hb8⟩;have hz8:=hb8.size;(try simp only[zz] at hz8);have:=kfa hb8 w.heap.size;have:=kfa hb8 cb;have:=kfa hb8 g0);(try go_wp2_with fail);refine tr hK (fun hHeld=> ?_);clear hK K)
 all_goals first|refine tn 28 hHeld ?_|(refine tc 28 fun K hK=> ?_;go_simp;(go_at_call 86;refine(upTo_q _ _ _ _ (by with_reducible assumption)).mono ?_;rintro e w9 ⟨rfl,hb9⟩;have hz9:=hb9.size;(try simp only[zz] at hz9);have:=kfa hb9 w.heap.size;have:=kfa hb9 cb;have:=kfa hb9 g0);(try go_wp2_with fail);refine tr hK (fun hHeld=> ?_);clear hK K)
 all_goals refine tq 29 hHeld ?_
 all_goals refine tq 30 hHeld ?_
 all_goals first|refine tn 31 hHeld ?_|(cases b4<;>first|refine tn 31 hHeld ?_|refine tq 31 hHeld ?_)
 all_goals first|refine tn 32 hHeld ?_|(refine tc 32 fun K hK=> ?_;go_simp;(go_at_call 62;refine(kBounce (HAt.below h (bel_a))).mono ?_;rintro e w10 ⟨rfl,hb10⟩;have hz10:=hb10.size;(try simp only[zz] at hz10);have:=kfa hb10 w.heap.size;have:=kfa hb10 cb;have:=kfa hb10 g0);(try go_wp2_with fail);refine tr hK (fun hHeld=> ?_);clear hK K)
 all_goals first|refine tn 33 hHeld ?_|(refine tc 33 fun K hK=> ?_;go_simp;(go_at_call 86;refine(upTo_q _ _ _ _ (by with_reducible assumption)).mono ?_;rintro e w11 ⟨rfl,hb11⟩;have hz11:=hb11.size;(try simp only[zz] at hz11);have:=kfa hb11 w.heap.size;have:=kfa hb11 cb;have:=kfa hb11 g0);(try go_wp2_with fail);refine tr hK (fun hHeld=> ?_);clear hK K)
 all_goals refine tq 34 hHeld ?_
 all_goals refine tq 35 hHeld ?_
 all_goals first|refine tn 36 hHeld ?_|(cases b5<;>first|refine tn 36 hHeld ?_|refine tq 36 hHeld ?_)
 all_goals first|refine tn 37 hHeld ?_|(refine tc 37 fun K hK=> ?_;go_simp;(go_at_call 63;refine(kRub (HAt.below h (bel_a))).mono ?_;rintro e w12 ⟨rfl,hb12⟩;have hz12:=hb12.size;(try simp only[zz] at hz12);have:=kfa hb12 w.heap.size;have:=kfa hb12 cb;have:=kfa hb12 g0);(try go_wp2_with fail);refine tr hK (fun hHeld=> ?_);clear hK K)
 all_goals first|refine tn 38 hHeld ?_|(refine tc 38 fun K hK=> ?_;go_simp;(go_at_call 86;refine(upTo_q _ _ _ _ (by with_reducible assumption)).mono ?_;rintro e w13 ⟨rfl,hb13⟩;have hz13:=hb13.size;(try simp only[zz] at hz13);have:=kfa hb13 w.heap.size;have:=kfa hb13 cb;have:=kfa hb13 g0);(try go_wp2_with fail);refine tr hK (fun hHeld=> ?_);clear hK K)
 all_goals refine tq 39 hHeld ?_
 all_goals refine tq 40 hHeld ?_
 all_goals first|refine tn 41 hHeld ?_|(cases b6<;>first|refine tn 41 hHeld ?_|refine tq 41 hHeld ?_)
 all_goals first|refine tn 42 hHeld ?_|(refine tc 42 fun K hK=> ?_;go_simp;(go_at_call 55;refine(kQuiet (HAt.below h (bel_a))).mono ?_;rintro e w14 ⟨rfl,hb14⟩;have hz14:=hb14.size;(try simp only[zz] at hz14);have:=kfa hb14 w.heap.size;have:=kfa hb14 cb;have:=kfa hb14 g0);(try go_wp2_with fail);refine tr hK (fun hHeld=> ?_);clear hK K)
 all_goals first|refine tn 43 hHeld ?_|(refine tc 43 fun K hK=> ?_;go_simp;(go_at_call 86;refine(upTo_q _ _ _ _ (by with_reducible assumption)).mono ?_;rintro e w15 ⟨rfl,hb15⟩;have hz15:=hb15.size;(try simp only[zz] at hz15);have:=kfa hb15 w.heap.size;have:=kfa hb15 cb;have:=kfa hb15 g0);(try go_wp2_with fail);refine tr hK (fun hHeld=> ?_);clear hK K)
 all_goals refine tq 44 hHeld ?_
 all_goals refine tq 45 hHeld ?_
 all_goals first|refine tn 46 hHeld ?_|(cases b7<;>first|refine tn 46 hHeld ?_|refine tq 46 hHeld ?_)
 all_goals first|refine tn 47 hHeld ?_|(refine tc 47 fun K hK=> ?_;go_simp;(go_at_call 89;refine(kRestOk (HAt.below h (bel_a)) _ (by with_reducible assumption)).mono ?_;rintro e w16 ⟨rfl,hb16⟩;have hz16:=hb16.size;(try simp only[zz] at hz16);have:=kfa hb16 w.heap.size;have:=kfa hb16 cb;have:=kfa hb16 g0);(try go_wp2_with fail);refine tr hK (fun hHeld=> ?_);clear hK K)
 all_goals refine tq 48 hHeld ?_
 all_goals refine tq 49 hHeld ?_
 all_goals
  refine wpAnyH_done (by kernel_rfl) ?_ _
  go_wp2_with fail
  go_ret
  exact⟨rfl,bel_a⟩
theorem kOk_q {cb n k:Nat} {V:Nat→Int} {G:Nat→Nat} {w:World} (h:HAt w cb n k V G) (b:Bool) (e:bodyB V=b):
 Calls Tryz.prog 50 #[hdk cb k] w fun e w'=>e= .returned (.bool b)∧Below w.heap.size w w':=by
 subst e;exact kOk_any h
def stepBB (U:Nat→Int) (k:Nat):Bool:=bodyB (fun j=>U (k*12+j))&&(decide (k=0)||decide (U ((k-1)*12)<U (k*12)))
def allBB (U:Nat→Int):Nat→Bool
 |0=>true
 |k+1=>allBB U k&&stepBB U k
theorem allBB_no {U:Nat→Int} {k:Nat} (h:stepBB U k=false):∀ n,k<n→allBB U n=false
 |0,l=>absurd l (Nat.not_lt_zero _)
 | n+1,l=>by
   unfold allBB
   rcases Nat.lt_succ_iff_lt_or_eq.1 l with l|rfl
   · rw[allBB_no h n l];rfl
   · rw[h,Bool.and_false]
def bodsB (n:Nat) (U:Nat→Int):Bool:=decide (n≤12)&&allBB U n
def CsPost (n:Nat) (U:Nat→Int) (w:World) (e:Ending) (w':World):Prop:=
 Below w.heap.size w w'∧((bodsB n U=true∧∃ cb S,e= .returned (.tuple #[.pointer (some ⟨cb,0,none⟩),.bool true])∧w.heap.size≤cb∧Cs w' cb n (colOf U) S)∨
  (bodsB n U=false∧e= .returned (.tuple #[.pointer none,.bool false])))
theorem columnsOf_any (a:Option Addr) (n c:Nat) (U:Nat→Int) (w:World) (h:Flat w a (n*12) U) (hn:n≤1048576):
 Calls Tryz.prog 21 #[.slice a n c] w (CsPost n U w):=by
 have hset:=cset_map
 by_cases h12:n≤12
 · have h12':¬ (12:Int)<(n:Int):=by omega
   refine calls_of_wp_marks Tryz.func21 rfl ?_
   simp only[Tryz.ntmps21,List.size_toArray,List.length_cons,List.length_nil,Nat.reduceAdd,Nat.reduceSub,Array.replicate_succ,Array.replicate_zero,List.push_toArray,List.append_toArray,List.nil_append,List.cons_append]
   go_wp2_with (go_at_call 49;refine(rowsOf_any a n c U _ (h.below (bel_a)) (by omega)).mono ?_;rintro e w1 ⟨rfl,hb1,S,hC⟩)
   have hz1:=hb1.size
   simp only[World.size_alloc] at hz1
   have hB:Below w.heap.size w (w1.alloc (Obj.cells #[.pointer (some ⟨w.heap.size+1+1,0,none⟩)] 53)):=((bel_a:Below w.heap.size w w1)).alloc (by omega) _
   have hw1:Below w1.heap.size w1 (w1.alloc (Obj.cells #[.pointer (some ⟨w.heap.size+1+1,0,none⟩)] 53)):=(Below.refl _ _).alloc (Nat.le_refl _) _
   have hC2:=hC.below hw1
   simp only[World.size_alloc] at hC2
   have r2:(w1.alloc (Obj.cells #[.pointer (some ⟨w.heap.size+1+1,0,none⟩)] 53)).cell? ⟨w.heap.size,0,none⟩=some (.pointer none):=(hw1.cell (p:=⟨w.heap.size,0,none⟩) (by simp;omega)).trans ((hb1.cell (p:=⟨w.heap.size,0,none⟩) (by simp;omega)).trans (by go_simp))
   have r3:(w1.alloc (Obj.cells #[.pointer (some ⟨w.heap.size+1+1,0,none⟩)] 53)).cell? ⟨w.heap.size+1,0,none⟩=some (.bool false):=(hw1.cell (p:=⟨w.heap.size+1,0,none⟩) (by simp;omega)).trans ((hb1.cell (p:=⟨w.heap.size+1,0,none⟩) (by simp)).trans (by go_simp))
   have f2:(w1.alloc (Obj.cells #[.pointer (some ⟨w.heap.size+1+1,0,none⟩)] 53)).frozen? ⟨w.heap.size,0,none⟩=false:=(hw1.frozen (p:=⟨w.heap.size,0,none⟩) (by simp;omega)).trans ((hb1.frozen (p:=⟨w.heap.size,0,none⟩) (by simp;omega)).trans (by go_simp))
   have f3:(w1.alloc (Obj.cells #[.pointer (some ⟨w.heap.size+1+1,0,none⟩)] 53)).frozen? ⟨w.heap.size+1,0,none⟩=false:=(hw1.frozen (p:=⟨w.heap.size+1,0,none⟩) (by simp;omega)).trans ((hb1.frozen (p:=⟨w.heap.size+1,0,none⟩) (by simp)).trans (by go_simp))
   have r4:(w1.alloc (Obj.cells #[.pointer (some ⟨w.heap.size+1+1,0,none⟩)] 53)).cell? ⟨w1.heap.size,0,none⟩=some (.pointer (some ⟨w.heap.size+1+1,0,none⟩)):=by go_simp
   have hz2:w1.heap.size<(w1.alloc (Obj.cells #[.pointer (some ⟨w.heap.size+1+1,0,none⟩)] 53)).heap.size:=by simp
   generalize (w1.alloc (Obj.cells #[.pointer (some ⟨w.heap.size+1+1,0,none⟩)] 53))=w2 at hB hC2 r2 r3 f2 f3 r4 hz2 ⊢
   clear hw1 hC hb1
   have hcl:=hC2.lt
   have hcb0:w.heap.size+1<w.heap.size+1+1:=by omega
   generalize w.heap.size+1+1=cb at hC2 r4 hcl hcb0 ⊢
   generalize hbv:w1.heap.size=bv at hz1 hz2 r4 ⊢
   clear hbv
   obtain⟨ad,cc,hS0⟩:=(hC2.own 0 (by omega)).is
   have hd0:=hC2.hd 0 (by omega)
   rw[hS0] at hd0
   refine wp_range_out (gf:=29) (bound:= #[.pointer (some ⟨cb,0,none⟩)]) rfl each_enters (each_it cb n _ _ w2 hcl hd0 hn) (fun _=>rfl) (fun k W=>Below w2.heap.size w2 W∧allBB U k=true)
    (fun c W=>c= .ret∧Below w.heap.size w W∧W.cell? ⟨w.heap.size,0,none⟩=some (.pointer none)∧W.cell? ⟨w.heap.size+1,0,none⟩=some (.bool false)∧bodsB n U=false) ?_ ?_ ⟨Below.refl _ _,rfl⟩ ?round ?done ?stop
   · rintro k A B ⟨h1,h2⟩ hs
     exact⟨h1.trans hs.below,h2⟩
   · rintro c A B ⟨h1,h2,h3,h4,h5⟩ hs
     exact⟨h1,h2.trans (hs.below.mono hB.size),hs.cell h3,hs.cell h4,h5⟩
   case round=>
    rintro l k W hl ⟨hbW,hall⟩ hk
    simp only[List.zip_toArray,List.zip_cons_cons,List.zip_nil_left,List.foldl_toArray,List.foldl_cons,List.foldl_nil,List.setIfInBounds_toArray,List.set_cons_succ,List.set_cons_zero]
    refine wpIn_region_plain (by rintro⟨_,_,h⟩;exact h) (by kernel_rfl) ?_
    go_wp2
    refine⟨(KeepsOthers.alloc _ _).from _,fun W2 hS hr=> ?_⟩
    have hbX:Below w2.heap.size w2 (W.alloc (Obj.cells #[.int .i64 (k:Int),.pointer (some ⟨cb,0,none⟩)] 59)):=hbW.alloc hbW.size _
    have hb2:=hbX.trans hS.below
    have hzW:=hbW.size
    have v0:W2.cell? ⟨W.heap.size,0,none⟩=some (.int .i64 (k:Int)):=hS.cell (by go_simp)
    have v1:W2.cell? ⟨W.heap.size,1,none⟩=some (.pointer (some ⟨cb,0,none⟩)):=hS.cell (by go_simp)
    have r4':W2.cell? ⟨bv,0,none⟩=some (.pointer (some ⟨cb,0,none⟩)):=(hb2.cell (p:=⟨bv,0,none⟩) hz2).trans r4
    have hC3:=hC2.below hb2
    have hz3:W.heap.size<W2.heap.size:=by have:=hS.size;simp at this;omega
    clear hS hbX hr
    have hh:=hC3.hat hk (by omega)
    obtain⟨g0,c0,e0,hd3,hv3,_,hg3,hcg⟩:=hC3.at (i:=0) (k:=k) (by omega) hk
    refine wpIn_block ?_
    refine wpIn_seq_k fun K hK=> ?_
    cases hi:bodyB (fun i=>colOf U i k) with
    | false=>
      have hno:Shut (stepBB U k=false):=by show stepBB U k=false;rw[stepBB,show (fun j=>U (k*12+j))=(fun i=>colOf U i k) from rfl,hi];rfl
      refine wpIn_region_held_drew (S:=fun w'=>w'.cell? ⟨W.heap.size,0,none⟩=some (.int .i64 (k:Int))∧w'.cell? ⟨W.heap.size,1,none⟩=some (.pointer (some ⟨cb,0,none⟩))∧w'.cell? ⟨bv,0,none⟩=some (.pointer (some ⟨cb,0,none⟩))∧w'.cell? ⟨cb,0,none⟩=some (.slice (some ⟨g0,0,none⟩) n c0)∧w'.cell? ⟨g0,k,none⟩=some (.int .i64 (colOf U 0 k))) (by kernel_rfl) (by rintro⟨_,_,h⟩;exact h) (by kernel_rfl) ?_ (fun hHeld=> ?_)
      · (try dsimp only)
        (first|(go_simp;done)|(go_keep;done))
      refine tq 0 hHeld ?_
      (refine tc 1 fun K hK=> ?_;go_simp;(go_at_call 50;refine(kOk_q (HAt.below hh (Below.drew (Below.refl _ _))) _ hi).mono ?_;rintro e w5 ⟨rfl,hb5⟩;obtain⟨hc5,hf5⟩:=bcell hb5;have hz5:=hb5.size;(try simp only[zz] at hc5 hf5 hz5);have hk1:=fun o=>hc5 W.heap.size o (by omega);have hk2:=fun o=>hc5 bv o (by omega);have hk3:=fun o=>hc5 cb o (by omega);have hk4:=fun o=>hc5 g0 o (by omega);clear hc5 hf5);(try go_wp2_with fail);refine tr hK (fun hHeld=> ?_);clear hK K)
      refine tq 2 hHeld ?_
      refine tq 3 hHeld ?_
      refine tn 4 hHeld ?_
      refine tn 5 hHeld ?_
      refine tn 6 hHeld ?_
      refine tn 7 hHeld ?_
      refine tn 8 hHeld ?_
      refine tn 9 hHeld ?_
      refine tn 10 hHeld ?_
      refine tn 11 hHeld ?_
      refine tn 12 hHeld ?_
      refine tn 13 hHeld ?_
      refine tn 14 hHeld ?_
      refine tn 15 hHeld ?_
      refine tn 16 hHeld ?_
      refine tn 17 hHeld ?_
      refine tn 18 hHeld ?_
      refine tn 19 hHeld ?_
      refine tn 20 hHeld ?_
      refine tn 21 hHeld ?_
      refine tn 22 hHeld ?_
      refine tn 23 hHeld ?_
      refine tn 24 hHeld ?_
      refine tn 25 hHeld ?_
      refine tn 26 hHeld ?_
      refine tq 27 hHeld ?_
      refine wpAnyH_done (by kernel_rfl) ?_ _
      refine hK _ _ ?_
      refine wpIn_cond_true rfl ?_
      refine wpIn_seq_k fun K2 hK2=> ?_
      refine wpIn_region_plain (by rintro⟨_,_,h⟩;exact h) (by kernel_rfl) ?_
      have hb25:=hb2.trans (hb5.ofDr.mono hb2.size)
      have hBB:Below w.heap.size w w5:=hB.trans (hb25.mono hB.size)
      have q2:w5.cell? ⟨w.heap.size,0,none⟩=some (.pointer none):=(hb25.cell (p:=⟨w.heap.size,0,none⟩) (by simp;omega)).trans r2
      have q3:w5.cell? ⟨w.heap.size+1,0,none⟩=some (.bool false):=(hb25.cell (p:=⟨w.heap.size+1,0,none⟩) (by simp;omega)).trans r3
      have p2:w5.frozen? ⟨w.heap.size,0,none⟩=false:=(hb25.frozen (p:=⟨w.heap.size,0,none⟩) (by simp;omega)).trans f2
      have p3:w5.frozen? ⟨w.heap.size+1,0,none⟩=false:=(hb25.frozen (p:=⟨w.heap.size+1,0,none⟩) (by simp;omega)).trans f3
      go_wp2
      refine wpIn_ret ?_
      exact⟨(KeepsFrom.of_below hb5.ofDr).trans (((KeepsOthers.setCell _ _ _).trans (KeepsOthers.setCell _ _ _)).from _),rfl,(hBB.setCell (by simp) _).setCell (by simp) _,by go_simp,by go_simp,by rw[bodsB,allBB_no hno.out n hk,Bool.and_false]⟩
    | true=>
      by_cases hk0:0<k
      · have hd0':decide (0<k)=true:=decide_eq_true hk0
        obtain⟨j,hj⟩:∃ j,j+1=k:=⟨k-1,by omega⟩
        have hj':(k:Int)-1=(j:Int):=by omega
        have hjn:j<n:=by omega
        have hwj:IntKind.i64.wrap (j:Int)=(j:Int):=i64w (by omega)
        obtain⟨g0',c0',e0',_,p3,_⟩:=hC3.at (i:=0) (k:=j) (by omega) hjn
        rw[e0] at e0'
        simp only[Value.slice.injEq,Option.some.injEq,Addr.mk.injEq] at e0'
        obtain⟨⟨rfl,_⟩,_,rfl⟩:=e0'
        have HJ:Shut (j+1=k):=hj
        clear hj
        by_cases hge:colOf U 0 j<colOf U 0 k
        · have hdg:decide (colOf U 0 k≤colOf U 0 j)=false:=decide_eq_false (by omega)
          have hyes:Shut (stepBB U k=true):=by show stepBB U k=true;rw[stepBB,show (fun j=>U (k*12+j))=(fun i=>colOf U i k) from rfl,hi,show k-1=j from by have:=HJ.out;omega];simp only[Bool.true_and];rw[show U (j*12)=colOf U 0 j from rfl,show U (k*12)=colOf U 0 k from rfl];simp[hge]
          refine wpIn_region_held_drew (S:=fun w'=>w'.cell? ⟨W.heap.size,0,none⟩=some (.int .i64 (k:Int))∧w'.cell? ⟨W.heap.size,1,none⟩=some (.pointer (some ⟨cb,0,none⟩))∧w'.cell? ⟨bv,0,none⟩=some (.pointer (some ⟨cb,0,none⟩))∧w'.cell? ⟨cb,0,none⟩=some (.slice (some ⟨g0,0,none⟩) n c0)∧w'.cell? ⟨g0,k,none⟩=some (.int .i64 (colOf U 0 k))∧w'.cell? ⟨g0,j,none⟩=some (.int .i64 (colOf U 0 j))) (by kernel_rfl) (by rintro⟨_,_,h⟩;exact h) (by kernel_rfl) ?_ (fun hHeld=> ?_)
          · (try dsimp only)
            (first|(go_simp;done)|(go_keep;done))
          refine tq 0 hHeld ?_
          (refine tc 1 fun K hK=> ?_;go_simp;(go_at_call 50;refine(kOk_q (HAt.below hh (Below.drew (Below.refl _ _))) _ hi).mono ?_;rintro e w5 ⟨rfl,hb5⟩;obtain⟨hc5,hf5⟩:=bcell hb5;have hz5:=hb5.size;(try simp only[zz] at hc5 hf5 hz5);have hk1:=fun o=>hc5 W.heap.size o (by omega);have hk2:=fun o=>hc5 bv o (by omega);have hk3:=fun o=>hc5 cb o (by omega);have hk4:=fun o=>hc5 g0 o (by omega);clear hc5 hf5);(try go_wp2_with fail);refine tr hK (fun hHeld=> ?_);clear hK K)
          refine tq 2 hHeld ?_
          refine tq 3 hHeld ?_
          refine tq 4 hHeld ?_
          refine tq 5 hHeld ?_
          refine tq 6 hHeld ?_
          refine tq 7 hHeld ?_
          refine tq 8 hHeld ?_
          refine tq 9 hHeld ?_
          refine tq 10 hHeld ?_
          refine tq 11 hHeld ?_
          refine tq 12 hHeld ?_
          refine tq 13 hHeld ?_
          refine tq 14 hHeld ?_
          refine tq 15 hHeld ?_
          refine tq 16 hHeld ?_
          refine tq 17 hHeld ?_
          refine tq 18 hHeld ?_
          refine tq 19 hHeld ?_
          refine tq 20 hHeld ?_
          refine tq 21 hHeld ?_
          refine tq 22 hHeld ?_
          refine tq 23 hHeld ?_
          refine tq 24 hHeld ?_
          refine tq 25 hHeld ?_
          refine tq 26 hHeld ?_
          refine tq 27 hHeld ?_
          refine wpAnyH_done (by kernel_rfl) ?_ _
          refine hK _ _ ?_
          refine wpIn_cond_false rfl ?_
          refine wpIn_skip ?_
          exact⟨KeepsFrom.of_below hb5.ofDr,hb2.trans (hb5.ofDr.mono hb2.size),by rw[allBB,hall,hyes.out];rfl⟩
        · have hdg:decide (colOf U 0 k≤colOf U 0 j)=true:=decide_eq_true (by omega)
          have hno:Shut (stepBB U k=false):=by show stepBB U k=false;rw[stepBB,show k-1=j from by have:=HJ.out;omega];have:=HJ.out;rw[show U (j*12)=colOf U 0 j from rfl,show U (k*12)=colOf U 0 k from rfl];simp[hge];omega
          refine wpIn_region_held_drew (S:=fun w'=>w'.cell? ⟨W.heap.size,0,none⟩=some (.int .i64 (k:Int))∧w'.cell? ⟨W.heap.size,1,none⟩=some (.pointer (some ⟨cb,0,none⟩))∧w'.cell? ⟨bv,0,none⟩=some (.pointer (some ⟨cb,0,none⟩))∧w'.cell? ⟨cb,0,none⟩=some (.slice (some ⟨g0,0,none⟩) n c0)∧w'.cell? ⟨g0,k,none⟩=some (.int .i64 (colOf U 0 k))∧w'.cell? ⟨g0,j,none⟩=some (.int .i64 (colOf U 0 j))) (by kernel_rfl) (by rintro⟨_,_,h⟩;exact h) (by kernel_rfl) ?_ (fun hHeld=> ?_)
          · (try dsimp only)
            (first|(go_simp;done)|(go_keep;done))
          refine tq 0 hHeld ?_
          (refine tc 1 fun K hK=> ?_;go_simp;(go_at_call 50;refine(kOk_q (HAt.below hh (Below.drew (Below.refl _ _))) _ hi).mono ?_;rintro e w5 ⟨rfl,hb5⟩;obtain⟨hc5,hf5⟩:=bcell hb5;have hz5:=hb5.size;(try simp only[zz] at hc5 hf5 hz5);have hk1:=fun o=>hc5 W.heap.size o (by omega);have hk2:=fun o=>hc5 bv o (by omega);have hk3:=fun o=>hc5 cb o (by omega);have hk4:=fun o=>hc5 g0 o (by omega);clear hc5 hf5);(try go_wp2_with fail);refine tr hK (fun hHeld=> ?_);clear hK K)
          refine tq 2 hHeld ?_
          refine tq 3 hHeld ?_
          refine tq 4 hHeld ?_
          refine tq 5 hHeld ?_
          refine tq 6 hHeld ?_
          refine tq 7 hHeld ?_
          refine tq 8 hHeld ?_
          refine tq 9 hHeld ?_
          refine tq 10 hHeld ?_
          refine tq 11 hHeld ?_
          refine tq 12 hHeld ?_
          refine tq 13 hHeld ?_
          refine tq 14 hHeld ?_
          refine tq 15 hHeld ?_
          refine tq 16 hHeld ?_
          refine tq 17 hHeld ?_
          refine tq 18 hHeld ?_
          refine tq 19 hHeld ?_
          refine tq 20 hHeld ?_
          refine tq 21 hHeld ?_
          refine tq 22 hHeld ?_
          refine tq 23 hHeld ?_
          refine tq 24 hHeld ?_
          refine tq 25 hHeld ?_
          refine tq 26 hHeld ?_
          refine tq 27 hHeld ?_
          refine wpAnyH_done (by kernel_rfl) ?_ _
          refine hK _ _ ?_
          refine wpIn_cond_true rfl ?_
          refine wpIn_seq_k fun K2 hK2=> ?_
          refine wpIn_region_plain (by rintro⟨_,_,h⟩;exact h) (by kernel_rfl) ?_
          have hb25:=hb2.trans (hb5.ofDr.mono hb2.size)
          have hBB:Below w.heap.size w w5:=hB.trans (hb25.mono hB.size)
          have q2:w5.cell? ⟨w.heap.size,0,none⟩=some (.pointer none):=(hb25.cell (p:=⟨w.heap.size,0,none⟩) (by simp;omega)).trans r2
          have q3:w5.cell? ⟨w.heap.size+1,0,none⟩=some (.bool false):=(hb25.cell (p:=⟨w.heap.size+1,0,none⟩) (by simp;omega)).trans r3
          have p2:w5.frozen? ⟨w.heap.size,0,none⟩=false:=(hb25.frozen (p:=⟨w.heap.size,0,none⟩) (by simp;omega)).trans f2
          have p3:w5.frozen? ⟨w.heap.size+1,0,none⟩=false:=(hb25.frozen (p:=⟨w.heap.size+1,0,none⟩) (by simp;omega)).trans f3
          go_wp2
          refine wpIn_ret ?_
          exact⟨(KeepsFrom.of_below hb5.ofDr).trans (((KeepsOthers.setCell _ _ _).trans (KeepsOthers.setCell _ _ _)).from _),rfl,(hBB.setCell (by simp) _).setCell (by simp) _,by go_simp,by go_simp,by rw[bodsB,allBB_no hno.out n hk,Bool.and_false]⟩
      · have hd0':decide (0<k)=false:=decide_eq_false hk0
        have HK:Shut (k=0):=(by omega:k=0)
        clear hk0
        have hyes:Shut (stepBB U k=true):=by show stepBB U k=true;rw[stepBB,show (fun j=>U (k*12+j))=(fun i=>colOf U i k) from rfl,hi,HK.out];rfl
        refine wpIn_region_held_drew (S:=fun w'=>w'.cell? ⟨W.heap.size,0,none⟩=some (.int .i64 (k:Int))∧w'.cell? ⟨W.heap.size,1,none⟩=some (.pointer (some ⟨cb,0,none⟩))∧w'.cell? ⟨bv,0,none⟩=some (.pointer (some ⟨cb,0,none⟩))∧w'.cell? ⟨cb,0,none⟩=some (.slice (some ⟨g0,0,none⟩) n c0)∧w'.cell? ⟨g0,k,none⟩=some (.int .i64 (colOf U 0 k))) (by kernel_rfl) (by rintro⟨_,_,h⟩;exact h) (by kernel_rfl) ?_ (fun hHeld=> ?_)
        · (try dsimp only)
          (first|(go_simp;done)|(go_keep;done))
        refine tq 0 hHeld ?_
        (refine tc 1 fun K hK=> ?_;go_simp;(go_at_call 50;refine(kOk_q (HAt.below hh (Below.drew (Below.refl _ _))) _ hi).mono ?_;rintro e w5 ⟨rfl,hb5⟩;obtain⟨hc5,hf5⟩:=bcell hb5;have hz5:=hb5.size;(try simp only[zz] at hc5 hf5 hz5);have hk1:=fun o=>hc5 W.heap.size o (by omega);have hk2:=fun o=>hc5 bv o (by omega);have hk3:=fun o=>hc5 cb o (by omega);have hk4:=fun o=>hc5 g0 o (by omega);clear hc5 hf5);(try go_wp2_with fail);refine tr hK (fun hHeld=> ?_);clear hK K)
        refine tq 2 hHeld ?_
        refine tq 3 hHeld ?_
        refine tq 4 hHeld ?_
        refine tq 5 hHeld ?_
        refine tq 6 hHeld ?_
        refine tq 7 hHeld ?_
        refine tn 8 hHeld ?_
        refine tn 9 hHeld ?_
        refine tn 10 hHeld ?_
        refine tn 11 hHeld ?_
        refine tn 12 hHeld ?_
        refine tn 13 hHeld ?_
        refine tn 14 hHeld ?_
        refine tn 15 hHeld ?_
        refine tn 16 hHeld ?_
        refine tn 17 hHeld ?_
        refine tn 18 hHeld ?_
        refine tn 19 hHeld ?_
        refine tn 20 hHeld ?_
        refine tn 21 hHeld ?_
        refine tn 22 hHeld ?_
        refine tn 23 hHeld ?_
        refine tn 24 hHeld ?_
        refine tn 25 hHeld ?_
        refine tq 26 hHeld ?_
        refine tq 27 hHeld ?_
        refine wpAnyH_done (by kernel_rfl) ?_ _
        refine hK _ _ ?_
        refine wpIn_cond_false rfl ?_
        refine wpIn_skip ?_
        exact⟨KeepsFrom.of_below hb5.ofDr,hb2.trans (hb5.ofDr.mono hb2.size),by rw[allBB,hall,hyes.out];rfl⟩
   case done=>
    rintro D W hD ⟨hbW,hall⟩ hK
    have q2:=(hbW.cell (p:=⟨w.heap.size,0,none⟩) (by simp;omega)).trans r2
    have q3:=(hbW.cell (p:=⟨w.heap.size+1,0,none⟩) (by simp;omega)).trans r3
    have q4:=(hbW.cell (p:=⟨bv,0,none⟩) hz2).trans r4
    have p2:=(hbW.frozen (p:=⟨w.heap.size,0,none⟩) (by simp;omega)).trans f2
    have p3:=(hbW.frozen (p:=⟨w.heap.size+1,0,none⟩) (by simp;omega)).trans f3
    have hC4:=hC2.below hbW
    have hBW:Below w.heap.size w W:=hB.trans (hbW.mono hB.size)
    have hzW:=hbW.size
    go_wp2
    have hF:Fr (fun b=>b=w.heap.size∨b=w.heap.size+1) W ((W.setCell ⟨w.heap.size,0,none⟩ (.pointer (some ⟨cb,0,none⟩))).setCell ⟨w.heap.size+1,0,none⟩ (.bool true)):=(Fr.setCell (.inl rfl) _).trans (Fr.setCell (.inr rfl) _)
    refine marks_ret (B:=w2.heap.size) hD rfl (hF.kind _ _ hK rfl) fun W' hS=>⟨.tuple #[.pointer (some ⟨cb,0,none⟩),.bool true],?_,?_,.inl ⟨?_,cb,S,rfl,?_,?_⟩⟩
    · have x2:W'.cell? ⟨w.heap.size,0,none⟩=some (.pointer (some ⟨cb,0,none⟩)):=hS.cell (by go_simp)
      have x3:W'.cell? ⟨w.heap.size+1,0,none⟩=some (.bool true):=hS.cell (by go_simp)
      simp[results,Tryz.results21,go_sem, *]
    · exact((hBW.setCell (by simp) _).setCell (by simp) _).trans (hS.below.mono (by omega))
    · rw[bodsB,hall,decide_eq_true h12];rfl
    · omega
    · exact(hC4.frame hF (by omega) (fun b hb=>by have:=(hC2.xlt hb).1;omega)).sm hS
   case stop=>
    rintro D c W hD ⟨rfl,hbW,q2,q3,hno⟩ hK
    go_wp2
    refine marks_ret (B:=w2.heap.size) hD rfl hK fun W' hS=>⟨.tuple #[.pointer none,.bool false],?_,hbW.trans (hS.below.mono (by omega)),.inr ⟨hno,rfl⟩⟩
    have x2:=hS.cell q2
    have x3:=hS.cell q3
    simp[results,Tryz.results21,go_sem, *]
 · have h12':(12:Int)<(n:Int):=by omega
   refine calls_of_wp_marks Tryz.func21 rfl ?_
   simp only[Tryz.ntmps21,List.size_toArray,List.length_cons,List.length_nil,Nat.reduceAdd,Nat.reduceSub,Array.replicate_succ,Array.replicate_zero,List.push_toArray,List.append_toArray,List.nil_append,List.cons_append]
   go_wp2
   refine marks_ret0 (v:= .tuple #[.pointer none,.bool false]) rfl (by simp[results,Tryz.results21,go_sem, *]) ⟨bel_a,.inr ⟨by rw[bodsB,decide_eq_false h12];rfl,rfl⟩⟩
theorem kSetQuiet {cb n k:Nat} {C:Nat→Nat→Int} {S:Nat→Value} {w:World} (h:Cs w cb n C S) (hk:k<n) (hn:n≤1048576) (y:Int):
 Calls Tryz.prog 146 #[hdk cb k,.int .i64 y] w fun e w'=>e= .returned (.tuple #[])∧Cs w' cb n (setC C 11 k y) S∧Fr (Xc S) w w':=by
 have hset:=cset_map
 have l1:=h.lt
 have hkn:(k:Int)<(n:Int):=by omega
 obtain⟨g11,c11,e11,hc11,hv11,hf11,l11g,lc11⟩:=h.at (i:=11) (by omega) hk
 go_enter Tryz.func146,Tryz.ntmps146
 go_upto_region 1 with fail
 refine wp_region_held_drew (S:=fun w'=>w'.cell? ⟨w.heap.size,0,none⟩=some (.int .i64 (k:Int))∧w'.cell? ⟨w.heap.size,1,none⟩=some (.pointer (some ⟨cb,0,none⟩))∧w'.cell? ⟨cb,11,none⟩=some (.slice (some ⟨g11,0,none⟩) n c11)) (by kernel_rfl) ?_ (fun hHeld=> ?_)
 · (try dsimp only)
   (first|(go_simp;done)|(go_keep;done))
 refine tq 0 hHeld ?_
 refine tq 1 hHeld ?_
 refine tq 2 hHeld ?_
 refine tq 3 hHeld ?_
 refine tq 4 hHeld ?_
 refine tq 5 hHeld ?_
 refine tq 6 hHeld ?_
 refine tq 7 hHeld ?_
 refine tq 8 hHeld ?_
 (refine tc 9 fun K hK=> ?_;go_simp;refine tr hK (fun hHeld=> ?_);clear hK K)
 refine wpAnyH_done (by kernel_rfl) ?_ _
 go_wp2_with fail
 go_end0
 have hE:Below (w.setCell ⟨g11,k,none⟩ (.int .i64 y)).heap.size (w.setCell ⟨g11,k,none⟩ (.int .i64 y)) ((w.setCell ⟨g11,k,none⟩ (.int .i64 y)).alloc (Obj.cells #[.int .i64 (k:Int),.pointer (some ⟨cb,0,none⟩)] 59)).drew:=bel_a
 exact⟨rfl,(h.set (i:=11) (by omega) hk e11 y).below hE,((Fr.refl (Xc S) w).trans (Fr.setCell (X:=Xc S) (p:=⟨g11,k,none⟩) ⟨11,by omega,by rw[e11];rfl⟩ (.int .i64 y))).trans (Fr.of_below hE)⟩
theorem kSetDrive {cb n k:Nat} {C:Nat→Nat→Int} {S:Nat→Value} {w:World} (h:Cs w cb n C S) (hk:k<n) (hn:n≤1048576) (x y:Int):
 Calls Tryz.prog 59 #[hdk cb k,vv x y] w fun e w'=>e= .returned (.tuple #[])∧Cs w' cb n (setC (setC C 6 k x) 7 k y) S∧Fr (Xc S) w w':=by
 have hset:=cset_map
 have l1:=h.lt
 have hkn:(k:Int)<(n:Int):=by omega
 obtain⟨g6,c6,e6,hc6,hv6,hf6,l6g,lc6⟩:=h.at (i:=6) (by omega) hk
 obtain⟨g7,c7,e7,hc7,hv7,hf7,l7g,lc7⟩:=h.at (i:=7) (by omega) hk
 have ne:g6≠g7:=fun q=>h.dis 6 7 (by omega) (by omega) (by omega) g6 (by rw[e6];rfl) (by rw[e7,q];rfl)
 go_enter Tryz.func59,Tryz.ntmps59
 go_upto_region 1 with fail
 refine wp_region_held_drew (S:=fun w'=>w'.cell? ⟨w.heap.size,0,none⟩=some (.int .i64 (k:Int))∧w'.cell? ⟨w.heap.size,1,none⟩=some (.pointer (some ⟨cb,0,none⟩))∧w'.cell? ⟨cb,6,none⟩=some (.slice (some ⟨g6,0,none⟩) n c6)∧w'.cell? ⟨cb,7,none⟩=some (.slice (some ⟨g7,0,none⟩) n c7)∧w'.cell? ⟨w.heap.size+1,0,none⟩=some (.int .i64 x)∧w'.cell? ⟨w.heap.size+1,1,none⟩=some (.int .i64 y)) (by kernel_rfl) ?_ (fun hHeld=> ?_)
 · (try dsimp only)
   (first|(go_simp;done)|(go_keep;done))
 refine tq 0 hHeld ?_
 refine tq 1 hHeld ?_
 refine tq 2 hHeld ?_
 refine tq 3 hHeld ?_
 refine tq 4 hHeld ?_
 refine tq 5 hHeld ?_
 refine tq 6 hHeld ?_
 refine tq 7 hHeld ?_
 refine tq 8 hHeld ?_
 refine tq 9 hHeld ?_
 refine tq 10 hHeld ?_
 refine tq 11 hHeld ?_
 refine tq 12 hHeld ?_
 refine tq 13 hHeld ?_
 refine tq 14 hHeld ?_
 refine tq 15 hHeld ?_
 refine tq 16 hHeld ?_
 refine tq 17 hHeld ?_
 refine tq 18 hHeld ?_
 (refine tc 19 fun K hK=> ?_;go_simp;refine tr hK (fun hHeld=> ?_);clear hK K)
 refine tq 20 hHeld ?_
 (refine tc 21 fun K hK=> ?_;go_simp;refine tr hK (fun hHeld=> ?_);clear hK K)
 refine wpAnyH_done (by kernel_rfl) ?_ _
 go_wp2_with fail
 go_end0
 have hE:Below ((w.setCell ⟨g6,k,none⟩ (.int .i64 x)).setCell ⟨g7,k,none⟩ (.int .i64 y)).heap.size ((w.setCell ⟨g6,k,none⟩ (.int .i64 x)).setCell ⟨g7,k,none⟩ (.int .i64 y)) ((((w.setCell ⟨g6,k,none⟩ (.int .i64 x)).setCell ⟨g7,k,none⟩ (.int .i64 y)).alloc (Obj.cells #[.int .i64 (k:Int),.pointer (some ⟨cb,0,none⟩)] 59)).alloc (Obj.cells #[.int .i64 x,.int .i64 y] 66)).drew:=bel_a
 exact⟨rfl,((h.set (i:=6) (by omega) hk e6 x).set (i:=7) (by omega) hk e7 y).below hE,(((Fr.refl (Xc S) w).trans (Fr.setCell (X:=Xc S) (p:=⟨g6,k,none⟩) ⟨6,by omega,by rw[e6];rfl⟩ (.int .i64 x))).trans (Fr.setCell (X:=Xc S) (p:=⟨g7,k,none⟩) ⟨7,by omega,by rw[e7];rfl⟩ (.int .i64 y))).trans (Fr.of_below hE)⟩
theorem spanAround_any (x y u v:Int) (w:World) (hx: -4000000000≤x∧x≤4000000000) (hy: -4000000000≤y∧y≤4000000000) (hu: -4000000000≤u∧u≤4000000000) (hv: -4000000000≤v∧v≤4000000000):
 Calls Tryz.prog 178 #[vv x y,vv u v] w fun e w'=>e= .returned (b4 (x-u) (y-v) (x+u) (y+v))∧Below w.heap.size w w':=by
 have hset:=cset_map
 go_enter Tryz.func178,Tryz.ntmps178
 go_wp2
 go_region_held3 (fun w'=>w'.cell? ⟨w.heap.size,0,none⟩=some (.int .i64 x)∧w'.cell? ⟨w.heap.size,1,none⟩=some (.int .i64 y)∧w'.cell? ⟨w.heap.size+1,0,none⟩=some (.int .i64 u)∧w'.cell? ⟨w.heap.size+1,1,none⟩=some (.int .i64 v)) (first|(go_simp;done)|(go_keep;done)) (first
  |(go_at_call 30;refine(plus_any _ _ _ _ _ (by omega) (by omega) (by omega) (by omega)).mono ?_;rintro e w1 ⟨rfl,hb1⟩;obtain⟨hc1,hf1⟩:=bcell hb1;have hl1:=blt hb1;have hz1:=hb1.size;(try simp only[zz] at hc1 hf1 hl1 hz1);(try have hq1x0:w.heap.size<w1.heap.size:=(by omega));(try have hq1x1:w.heap.size+1<w1.heap.size:=(by omega));(try have hq1x2:w.heap.size+1+1<w1.heap.size:=(by omega)))
  |(go_at_call 149;refine(less_any _ _ _ _ _ (by omega) (by omega) (by omega) (by omega)).mono ?_;rintro e w1 ⟨rfl,hb1⟩;obtain⟨hc1,hf1⟩:=bcell hb1;have hl1:=blt hb1;have hz1:=hb1.size;(try simp only[zz] at hc1 hf1 hl1 hz1);(try have hq1x0:w.heap.size<w1.heap.size:=(by omega));(try have hq1x1:w.heap.size+1<w1.heap.size:=(by omega));(try have hq1x2:w.heap.size+1+1<w1.heap.size:=(by omega))))
 all_goals
  go_wp2
  exact bodyPost_ret (v:=b4 (x-u) (y-v) (x+u) (y+v)) (by simp[results,Tryz.results178,go_sem, *]) rfl ⟨rfl,bel_a⟩
theorem infoNumb:(Tryz.prog.info? 64).map (fun i=>(i.zero,i.size,i.bytes))=some (some (.int .i64 0),1,8):=by kernel_rfl
theorem clone_any (base n:Nat) (v:Value) (Z:Nat→Int) (w:World) (h:OwnL w base 64 1 v n Z) (hn:n≤1048576):
 Calls Tryz.prog 147 #[v] w fun e w'=>∃ aq qc,e= .returned (.slice aq n qc)∧Flat w' aq n Z∧(∀ b o,aq=some ⟨b,o,none⟩→w.heap.size≤b)∧Below w.heap.size w w':=by
 have hset:=cset_map
 have q22:∀ (w:World) (a:Option Addr) (n c n' c':Nat),(binOp .eql 89 (.slice a n c) (.slice none n' c')).run Tryz.prog w= .ok (.bool a.isNone) w:=fun w a n c n' c'=>Go.Lib.run_eql_slice_nil w _ _ a n c n' c' Tryz.underlying89
 rcases h.2 with⟨rfl,hn0⟩|⟨g,cap,cur,rfl,hb,hg,hrest⟩
 · obtain rfl:n=0:=by simpa using hn0
   go_enter Tryz.func147,Tryz.ntmps147
   go_wp2
   go_ret
   exact⟨none,⟨0,rfl⟩,fun h0=>absurd h0 (Nat.lt_irrefl _),fun b o e=>(by cases e),Below.refl _ _⟩
 · have hF:=h.flat
   go_enter Tryz.func147,Tryz.ntmps147
   have hE:Below w.heap.size w (w.alloc (.cells #[] 64)):=(Below.refl _ _).alloc (Nat.le_refl _) _
   have ho0:OwnL (w.alloc (.cells #[] 64)) w.heap.size 64 1 (.slice (some ⟨w.heap.size,0,none⟩) 0 0) 0 (fun _=>0):=⟨by simp[numL],.inr ⟨w.heap.size,0, #[],rfl,Nat.le_refl _,Go.Deep.blk_alloc_new _ _,Nat.le_refl _,Nat.zero_le _,by simp,by simp[numL]⟩⟩
   go_wp2_with (refine wpList_app rfl _ _ _ rfl w.heap.size 64 1 8 (.int .i64 0) Tryz.underlying89 infoNumb rfl (by decide) (.slice (some ⟨w.heap.size,0,none⟩) 0 0) 0 (fun _=>0) rfl ho0 (some ⟨g,0,none⟩) n cap Z rfl (hF.below hE) (by unfold maxLen;omega) (by omega) (by simp) ?_;intro a7 c7 w7 ho7 hg7)
   rw[Nat.zero_add] at ho7
   have hb7:Below w.heap.size w w7:=hE.grown hg7 (by simp) (fun k e=>by simp[Value.ownBlock] at e;omega)
   (try simp only[Nat.zero_add])
   go_ret
   refine⟨_,_,rfl,?_,?_,hb7⟩
   · have hq:=ho7.flat
     rw[Nat.mul_one] at hq
     intro h0
     obtain⟨b,o,e,hbl,hc⟩:=hq h0
     exact⟨b,o,e,hbl,fun j hj=>by rw[hc j hj];simp[cat]⟩
   · intro b o e
     subst e
     rcases ho7.2 with⟨hv,_⟩|⟨g',c',cur',hv,hb',_⟩
     · cases hv
     · cases hv;exact hb'
end Go.Proofs.YthajilkjfkppoaaGreatDoor
