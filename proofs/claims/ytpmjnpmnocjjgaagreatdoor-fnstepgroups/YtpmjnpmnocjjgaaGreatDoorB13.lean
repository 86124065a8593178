/- Texts of a proof. -/
import Derived.Test.YtpmjnpmnocjjgaaGreatDoorB5
import Derived.Test.YtpmjnpmnocjjgaaGreatDoorB12
import Derived.Test.YtpmjnpmnocjjgaaGreatDoorB9
import Derived.Test.YtpmjnpmnocjjgaaGreatDoorB10
import Derived.LoopNIn
import Derived.LoopIn
import Derived.OwnWalkIn
import Derived.Deep.RegionHeld3
import Derived.Deep.DeepCutAuto
set_option maxHeartbeats 16000000
set_option maxRecDepth 20000
namespace Go.Proofs.YtpmjnpmnocjjgaaGreatDoor
open Go.RowKit
set_option linter.unusedVariables false
set_option linter.unusedSimpArgs false
def stepBB (U:Nat→Int) (k:Nat):Bool:=bodyB (fun j=>U (k*12+j))&&(decide (k=0)||decide (U ((k-1)*12)<U (k*12)))
def allBB (U:Nat→Int):Nat→Bool
 |0=>true
 |k+1=>allBB U k&&stepBB U k
theorem allBB_no {U:Nat→Int} {k:Nat} (h:stepBB U k=false):∀ n,k<n→allBB U n=false
 |0,l=>absurd l (Nat.not_lt_zero _)
 | n+1,l=>by
   unfold allBB
   rcases Nat.lt_succ_iff_lt_or_eq.1 l with l|rfl
   · rw[allBB_no h n l];rfl
   · rw[h,Bool.and_false]
def bodsB (n:Nat) (U:Nat→Int):Bool:=decide (n≤12)&&allBB U n
def CsPost (n:Nat) (U:Nat→Int) (w:World) (e:Ending) (w':World):Prop:=
 Below w.heap.size w w'∧((bodsB n U=true∧∃ cb S,e= .returned (.tuple #[.pointer (some ⟨cb,0,none⟩),.bool true])∧w.heap.size≤cb∧Cs w' cb n (colOf U) S)∨
  (bodsB n U=false∧e= .returned (.tuple #[.pointer none,.bool false])))
theorem columnsOf_any (a:Option Addr) (n c:Nat) (U:Nat→Int) (w:World) (h:Flat w a (n*12) U) (hn:n≤1048576):
 Calls Tryz.prog 18 #[.slice a n c] w (CsPost n U w):=by
 have hset:=cset_map
 by_cases h12:n≤12
 · have h12':¬ (12:Int)<(n:Int):=by omega
   refine calls_of_wp_marks Tryz.func18 rfl ?_
   simp only[Tryz.ntmps18,List.size_toArray,List.length_cons,List.length_nil,Nat.reduceAdd,Nat.reduceSub,Array.replicate_succ,Array.replicate_zero,List.push_toArray,List.append_toArray,List.nil_append,List.cons_append]
   go_wp2_with (go_at_call 40;refine(rowsOf_any a n c U _ (h.below (bel_a)) (by omega)).mono ?_;rintro e w1 ⟨rfl,hb1,S,hC⟩)
   have hz1:=hb1.size
   simp only[World.size_alloc] at hz1
   have hB:Below w.heap.size w (w1.alloc (Obj.cells #[.pointer (some ⟨w.heap.size+1+1,0,none⟩)] 45)):=((bel_a:Below w.heap.size w w1)).alloc (by omega) _
   have hw1:Below w1.heap.size w1 (w1.alloc (Obj.cells #[.pointer (some ⟨w.heap.size+1+1,0,none⟩)] 45)):=(Below.refl _ _).alloc (Nat.le_refl _) _
   have hC2:=hC.below hw1
   simp only[World.size_alloc] at hC2
   have r2:(w1.alloc (Obj.cells #[.pointer (some ⟨w.heap.size+1+1,0,none⟩)] 45)).cell? ⟨w.heap.size,0,none⟩=some (.pointer none):=(hw1.cell (p:=⟨w.heap.size,0,none⟩) (by simp;omega)).trans ((hb1.cell (p:=⟨w.heap.size,0,none⟩) (by simp;omega)).trans (by go_simp))
   have r3:(w1.alloc (Obj.cells #[.pointer (some ⟨w.heap.size+1+1,0,none⟩)] 45)).cell? ⟨w.heap.size+1,0,none⟩=some (.bool false):=(hw1.cell (p:=⟨w.heap.size+1,0,none⟩) (by simp;omega)).trans ((hb1.cell (p:=⟨w.heap.size+1,0,none⟩) (by simp)).trans (by go_simp))
   have f2:(w1.alloc (Obj.cells #[.pointer (some ⟨w.heap.size+1+1,0,none⟩)] 45)).frozen? ⟨w.heap.size,0,none⟩=false:=(hw1.frozen (p:=⟨w.heap.size,0,none⟩) (by simp;omega)).trans ((hb1.frozen (p:=⟨w.heap.size,0,none⟩) (by simp;omega)).trans (by go_simp))
   have f3:(w1.alloc (Obj.cells #[.pointer (some ⟨w.heap.size+1+1,0,none⟩)] 45)).frozen? ⟨w.heap.size+1,0,none⟩=false:=(hw1.frozen (p:=⟨w.heap.size+1,0,none⟩) (by simp;omega)).trans ((hb1.frozen (p:=⟨w.heap.size+1,0,none⟩) (by simp)).trans (by go_simp))
   have r4:(w1.alloc (Obj.cells #[.pointer (some ⟨w.heap.size+1+1,0,none⟩)] 45)).cell? ⟨w1.heap.size,0,none⟩=some (.pointer (some ⟨w.heap.size+1+1,0,none⟩)):=by go_simp
   have hz2:w1.heap.size<(w1.alloc (Obj.cells #[.pointer (some ⟨w.heap.size+1+1,0,none⟩)] 45)).heap.size:=by simp
   generalize (w1.alloc (Obj.cells #[.pointer (some ⟨w.heap.size+1+1,0,none⟩)] 45))=w2 at hB hC2 r2 r3 f2 f3 r4 hz2 ⊢
   clear hw1 hC hb1
   have hcl:=hC2.lt
   have hcb0:w.heap.size+1<w.heap.size+1+1:=by omega
   generalize w.heap.size+1+1=cb at hC2 r4 hcl hcb0 ⊢
   generalize hbv:w1.heap.size=bv at hz1 hz2 r4 ⊢
   clear hbv
   obtain⟨ad,cc,hS0⟩:=(hC2.own 0 (by omega)).is
   have hd0:=hC2.hd 0 (by omega)
   rw[hS0] at hd0
   refine wp_range_out (gf:=41) (bound:= #[.pointer (some ⟨cb,0,none⟩)]) rfl each_enters (each_it cb n _ _ w2 hcl hd0 hn) (fun _=>rfl) (fun k W=>Below w2.heap.size w2 W∧allBB U k=true)
    (fun c W=>c= .ret∧Below w.heap.size w W∧W.cell? ⟨w.heap.size,0,none⟩=some (.pointer none)∧W.cell? ⟨w.heap.size+1,0,none⟩=some (.bool false)∧bodsB n U=false) ?_ ?_ ⟨Below.refl _ _,rfl⟩ ?round ?done ?stop
   · rintro k A B ⟨h1,h2⟩ hs
     exact⟨h1.trans hs.below,h2⟩
   · rintro c A B ⟨h1,h2,h3,h4,h5⟩ hs
     exact⟨h1,h2.trans (hs.below.mono hB.size),hs.cell h3,hs.cell h4,h5⟩
   case round=>
    rintro l k W hl ⟨hbW,hall⟩ hk
    simp only[List.zip_toArray,List.zip_cons_cons,List.zip_nil_left,List.foldl_toArray,List.foldl_cons,List.foldl_nil,List.setIfInBounds_toArray,List.set_cons_succ,List.set_cons_zero]
    refine wpIn_region_plain (by rintro⟨_,_,h⟩;exact h) (by kernel_rfl) ?_
    go_wp2
    refine⟨(KeepsOthers.alloc _ _).from _,fun W2 hS hr=> ?_⟩
    have hbX:Below w2.heap.size w2 (W.alloc (Obj.cells #[.int .i64 (k:Int),.pointer (some ⟨cb,0,none⟩)] 76)):=hbW.alloc hbW.size _
    have hb2:=hbX.trans hS.below
    have hzW:=hbW.size
    have v0:W2.cell? ⟨W.heap.size,0,none⟩=some (.int .i64 (k:Int)):=hS.cell (by go_simp)
    have v1:W2.cell? ⟨W.heap.size,1,none⟩=some (.pointer (some ⟨cb,0,none⟩)):=hS.cell (by go_simp)
    have r4':W2.cell? ⟨bv,0,none⟩=some (.pointer (some ⟨cb,0,none⟩)):=(hb2.cell (p:=⟨bv,0,none⟩) hz2).trans r4
    have hC3:=hC2.below hb2
    have hz3:W.heap.size<W2.heap.size:=by have:=hS.size;simp at this;omega
    clear hS hbX hr
    have hh:=hC3.hat hk (by omega)
    obtain⟨g0,c0,e0,hd3,hv3,_,hg3,hcg⟩:=hC3.at (i:=0) (k:=k) (by omega) hk
    refine wpIn_block ?_
    refine wpIn_seq_k fun K hK=> ?_
    cases hi:bodyB (fun i=>colOf U i k) with
    | false=>
      have hno:Shut (stepBB U k=false):=by show stepBB U k=false;rw[stepBB,show (fun j=>U (k*12+j))=(fun i=>colOf U i k) from rfl,hi];rfl
      refine wpIn_region_held_drew (S:=fun w'=>w'.cell? ⟨W.heap.size,0,none⟩=some (.int .i64 (k:Int))∧w'.cell? ⟨W.heap.size,1,none⟩=some (.pointer (some ⟨cb,0,none⟩))∧w'.cell? ⟨bv,0,none⟩=some (.pointer (some ⟨cb,0,none⟩))∧w'.cell? ⟨cb,0,none⟩=some (.slice (some ⟨g0,0,none⟩) n c0)∧w'.cell? ⟨g0,k,none⟩=some (.int .i64 (colOf U 0 k))) (by kernel_rfl) (by rintro⟨_,_,h⟩;exact h) (by kernel_rfl) ?_ (fun hHeld=> ?_)
      · (try dsimp only)
        (first|(go_simp;done)|(go_keep;done))
      refine tq 0 hHeld ?_
      (refine tc 1 fun K hK=> ?_;go_simp;(go_at_call 42;refine(kOk_q (HAt.below hh (Below.drew (Below.refl _ _))) _ hi).mono ?_;rintro e w5 ⟨rfl,hb5⟩;obtain⟨hc5,hf5⟩:=bcell hb5;have hz5:=hb5.size;(try simp only[zz] at hc5 hf5 hz5);have hk1:=fun o=>hc5 W.heap.size o (by omega);have hk2:=fun o=>hc5 bv o (by omega);have hk3:=fun o=>hc5 cb o (by omega);have hk4:=fun o=>hc5 g0 o (by omega);clear hc5 hf5);(try go_wp2_with fail);refine tr hK (fun hHeld=> ?_);clear hK K)
      refine tq 2 hHeld ?_
      refine tq 3 hHeld ?_
      refine tn 4 hHeld ?_
      refine tn 5 hHeld ?_
      refine tn 6 hHeld ?_
      refine tn 7 hHeld ?_
      refine tn 8 hHeld ?_
      refine tn 9 hHeld ?_
      refine tn 10 hHeld ?_
      refine tn 11 hHeld ?_
      refine tn 12 hHeld ?_
      refine tn 13 hHeld ?_
      refine tn 14 hHeld ?_
      refine tn 15 hHeld ?_
      refine tn 16 hHeld ?_
      refine tn 17 hHeld ?_
      refine tn 18 hHeld ?_
      refine tn 19 hHeld ?_
      refine tn 20 hHeld ?_
      refine tn 21 hHeld ?_
      refine tn 22 hHeld ?_
      refine tn 23 hHeld ?_
      refine tn 24 hHeld ?_
      refine tn 25 hHeld ?_
      refine tn 26 hHeld ?_
      refine tq 27 hHeld ?_
      refine wpAnyH_done (by kernel_rfl) ?_ _
      refine hK _ _ ?_
      refine wpIn_cond_true rfl ?_
      refine wpIn_seq_k fun K2 hK2=> ?_
      refine wpIn_region_plain (by rintro⟨_,_,h⟩;exact h) (by kernel_rfl) ?_
      have hb25:=hb2.trans (hb5.ofDr.mono hb2.size)
      have hBB:Below w.heap.size w w5:=hB.trans (hb25.mono hB.size)
      have q2:w5.cell? ⟨w.heap.size,0,none⟩=some (.pointer none):=(hb25.cell (p:=⟨w.heap.size,0,none⟩) (by simp;omega)).trans r2
      have q3:w5.cell? ⟨w.heap.size+1,0,none⟩=some (.bool false):=(hb25.cell (p:=⟨w.heap.size+1,0,none⟩) (by simp;omega)).trans r3
      have p2:w5.frozen? ⟨w.heap.size,0,none⟩=false:=(hb25.frozen (p:=⟨w.heap.size,0,none⟩) (by simp;omega)).trans f2
      have p3:w5.frozen? ⟨w.heap.size+1,0,none⟩=false:=(hb25.frozen (p:=⟨w.heap.size+1,0,none⟩) (by simp;omega)).trans f3
      go_wp2
      refine wpIn_ret ?_
      exact⟨(KeepsFrom.of_below hb5.ofDr).trans (((KeepsOthers.setCell _ _ _).trans (KeepsOthers.setCell _ _ _)).from _),rfl,(hBB.setCell (by simp) _).setCell (by simp) _,by go_simp,by go_simp,by rw[bodsB,allBB_no hno.out n hk,Bool.and_false]⟩
    | true=>
      by_cases hk0:0<k
      · have hd0':decide (0<k)=true:=decide_eq_true hk0
        obtain⟨j,hj⟩:∃ j,j+1=k:=⟨k-1,by omega⟩
        have hj':(k:Int)-1=(j:Int):=by omega
        have hjn:j<n:=by omega
        have hwj:IntKind.i64.wrap (j:Int)=(j:Int):=i64w (by omega)
        obtain⟨g0',c0',e0',_,p3,_⟩:=hC3.at (i:=0) (k:=j) (by omega) hjn
        rw[e0] at e0'
        simp only[Value.slice.injEq,Option.some.injEq,Addr.mk.injEq] at e0'
        obtain⟨⟨rfl,_⟩,_,rfl⟩:=e0'
        have HJ:Shut (j+1=k):=hj
        clear hj
        by_cases hge:colOf U 0 j<colOf U 0 k
        · have hdg:decide (colOf U 0 k≤colOf U 0 j)=false:=decide_eq_false (by omega)
          have hyes:Shut (stepBB U k=true):=by show stepBB U k=true;rw[stepBB,show (fun j=>U (k*12+j))=(fun i=>colOf U i k) from rfl,hi,show k-1=j from by have:=HJ.out;omega];simp only[Bool.true_and];rw[show U (j*12)=colOf U 0 j from rfl,show U (k*12)=colOf U 0 k from rfl];simp[hge]
          refine wpIn_region_held_drew (S:=fun w'=>w'.cell? ⟨W.heap.size,0,none⟩=some (.int .i64 (k:Int))∧w'.cell? ⟨W.heap.size,1,none⟩=some (.pointer (some ⟨cb,0,none⟩))∧w'.cell? ⟨bv,0,none⟩=some (.pointer (some ⟨cb,0,none⟩))∧w'.cell? ⟨cb,0,none⟩=some (.slice (some ⟨g0,0,none⟩) n c0)∧w'.cell? ⟨g0,k,none⟩=some (.int .i64 (colOf U 0 k))∧w'.cell? ⟨g0,j,none⟩=some (.int .i64 (colOf U 0 j))) (by kernel_rfl) (by rintro⟨_,_,h⟩;exact h) (by kernel_rfl) ?_ (fun hHeld=> ?_)
          · (try dsimp only)
            (first|(go_simp;done)|(go_keep;done))
          refine tq 0 hHeld ?_
          (refine tc 1 fun K hK=> ?_;go_simp;(go_at_call 42;refine(kOk_q (HAt.below hh (Below.drew (Below.refl _ _))) _ hi).mono ?_;rintro e w5 ⟨rfl,hb5⟩;obtain⟨hc5,hf5⟩:=bcell hb5;have hz5:=hb5.size;(try simp only[zz] at hc5 hf5 hz5);have hk1:=fun o=>hc5 W.heap.size o (by omega);have hk2:=fun o=>hc5 bv o (by omega);have hk3:=fun o=>hc5 cb o (by omega);have hk4:=fun o=>hc5 g0 o (by omega);clear hc5 hf5);(try go_wp2_with fail);refine tr hK (fun hHeld=> ?_);clear hK K)
          refine tq 2 hHeld ?_
          refine tq 3 hHeld ?_
          refine tq 4 hHeld ?_
          refine tq 5 hHeld ?_
          refine tq 6 hHeld ?_
          refine tq 7 hHeld ?_
          refine tq 8 hHeld ?_
          refine tq 9 hHeld ?_
          refine tq 10 hHeld ?_
          refine tq 11 hHeld ?_
          refine tq 12 hHeld ?_
          refine tq 13 hHeld ?_
          refine tq 14 hHeld ?_
          refine tq 15 hHeld ?_
          refine tq 16 hHeld ?_
          refine tq 17 hHeld ?_
          refine tq 18 hHeld ?_
          refine tq 19 hHeld ?_
          refine tq 20 hHeld ?_
          refine tq 21 hHeld ?_
          refine tq 22 hHeld ?_
          refine tq 23 hHeld ?_
          refine tq 24 hHeld ?_
          refine tq 25 hHeld ?_
          refine tq 26 hHeld ?_
          refine tq 27 hHeld ?_
          refine wpAnyH_done (by kernel_rfl) ?_ _
          refine hK _ _ ?_
          refine wpIn_cond_false rfl ?_
          refine wpIn_skip ?_
          exact⟨KeepsFrom.of_below hb5.ofDr,hb2.trans (hb5.ofDr.mono hb2.size),by rw[allBB,hall,hyes.out];rfl⟩
        · have hdg:decide (colOf U 0 k≤colOf U 0 j)=true:=decide_eq_true (by omega)
          have hno:Shut (stepBB U k=false):=by show stepBB U k=false;rw[stepBB,show k-1=j from by have:=HJ.out;omega];have:=HJ.out;rw[show U (j*12)=colOf U 0 j from rfl,show U (k*12)=colOf U 0 k from rfl];simp[hge];omega
          refine wpIn_region_held_drew (S:=fun w'=>w'.cell? ⟨W.heap.size,0,none⟩=some (.int .i64 (k:Int))∧w'.cell? ⟨W.heap.size,1,none⟩=some (.pointer (some ⟨cb,0,none⟩))∧w'.cell? ⟨bv,0,none⟩=some (.pointer (some ⟨cb,0,none⟩))∧w'.cell? ⟨cb,0,none⟩=some (.slice (some ⟨g0,0,none⟩) n c0)∧w'.cell? ⟨g0,k,none⟩=some (.int .i64 (colOf U 0 k))∧w'.cell? ⟨g0,j,none⟩=some (.int .i64 (colOf U 0 j))) (by kernel_rfl) (by rintro⟨_,_,h⟩;exact h) (by kernel_rfl) ?_ (fun hHeld=> ?_)
          · (try dsimp only)
            (first|(go_simp;done)|(go_keep;done))
          refine tq 0 hHeld ?_
          (refine tc 1 fun K hK=> ?_;go_simp;(go_at_call 42;refine(kOk_q (HAt.below hh (Below.drew (Below.refl _ _))) _ hi).mono ?_;rintro e w5 ⟨rfl,hb5⟩;obtain⟨hc5,hf5⟩:=bcell hb5;have hz5:=hb5.size;(try simp only[zz] at hc5 hf5 hz5);have hk1:=fun o=>hc5 W.heap.size o (by omega);have hk2:=fun o=>hc5 bv o (by omega);have hk3:=fun o=>hc5 cb o (by omega);have hk4:=fun o=>hc5 g0 o (by omega);clear hc5 hf5);(try go_wp2_with fail);refine tr hK (fun hHeld=> ?_);clear hK K)
          refine tq 2 hHeld ?_
          refine tq 3 hHeld ?_
          refine tq 4 hHeld ?_
          refine tq 5 hHeld ?_
          refine tq 6 hHeld ?_
          refine tq 7 hHeld ?_
          refine tq 8 hHeld ?_
          refine tq 9 hHeld ?_
          refine tq 10 hHeld ?_
          refine tq 11 hHeld ?_
          refine tq 12 hHeld ?_
          refine tq 13 hHeld ?_
          refine tq 14 hHeld ?_
          refine tq 15 hHeld ?_
          refine tq 16 hHeld ?_
          refine tq 17 hHeld ?_
          refine tq 18 hHeld ?_
          refine tq 19 hHeld ?_
          refine tq 20 hHeld ?_
          refine tq 21 hHeld ?_
          refine tq 22 hHeld ?_
          refine tq 23 hHeld ?_
          refine tq 24 hHeld ?_
          refine tq 25 hHeld ?_
          refine tq 26 hHeld ?_
          refine tq 27 hHeld ?_
          refine wpAnyH_done (by kernel_rfl) ?_ _
          refine hK _ _ ?_
          refine wpIn_cond_true rfl ?_
          refine wpIn_seq_k fun K2 hK2=> ?_
          refine wpIn_region_plain (by rintro⟨_,_,h⟩;exact h) (by kernel_rfl) ?_
          have hb25:=hb2.trans (hb5.ofDr.mono hb2.size)
          have hBB:Below w.heap.size w w5:=hB.trans (hb25.mono hB.size)
          have q2:w5.cell? ⟨w.heap.size,0,none⟩=some (.pointer none):=(hb25.cell (p:=⟨w.heap.size,0,none⟩) (by simp;omega)).trans r2
          have q3:w5.cell? ⟨w.heap.size+1,0,none⟩=some (.bool false):=(hb25.cell (p:=⟨w.heap.size+1,0,none⟩) (by simp;omega)).trans r3
          have p2:w5.frozen? ⟨w.heap.size,0,none⟩=false:=(hb25.frozen (p:=⟨w.heap.size,0,none⟩) (by simp;omega)).trans f2
          have p3:w5.frozen? ⟨w.heap.size+1,0,none⟩=false:=(hb25.frozen (p:=⟨w.heap.size+1,0,none⟩) (by simp;omega)).trans f3
          go_wp2
          refine wpIn_ret ?_
          exact⟨(KeepsFrom.of_below hb5.ofDr).trans (((KeepsOthers.setCell _ _ _).trans (KeepsOthers.setCell _ _ _)).from _),rfl,(hBB.setCell (by simp) _).setCell (by simp) _,by go_simp,by go_simp,by rw[bodsB,allBB_no hno.out n hk,Bool.and_false]⟩
      · have hd0':decide (0<k)=false:=decide_eq_false hk0
        have HK:Shut (k=0):=(by omega:k=0)
        clear hk0
        have hyes:Shut (stepBB U k=true):=by show stepBB U k=true;rw[stepBB,show (fun j=>U (k*12+j))=(fun i=>colOf U i k) from rfl,hi,HK.out];rfl
        refine wpIn_region_held_drew (S:=fun w'=>w'.cell? ⟨W.heap.size,0,none⟩=some (.int .i64 (k:Int))∧w'.cell? ⟨W.heap.size,1,none⟩=some (.pointer (some ⟨cb,0,none⟩))∧w'.cell? ⟨bv,0,none⟩=some (.pointer (some ⟨cb,0,none⟩))∧w'.cell? ⟨cb,0,none⟩=some (.slice (some ⟨g0,0,none⟩) n c0)∧w'.cell? ⟨g0,k,none⟩=some (.int .i64 (colOf U 0 k))) (by kernel_rfl) (by rintro⟨_,_,h⟩;exact h) (by kernel_rfl) ?_ (fun hHeld=> ?_)
        · (try dsimp only)
          (first|(go_simp;done)|(go_keep;done))
        refine tq 0 hHeld ?_
        (refine tc 1 fun K hK=> ?_;go_simp;(go_at_call 42;refine(kOk_q (HAt.below hh (Below.drew (Below.refl _ _))) _ hi).mono ?_;rintro e w5 ⟨rfl,hb5⟩;obtain⟨hc5,hf5⟩:=bcell hb5;have hz5:=hb5.size;(try simp only[zz] at hc5 hf5 hz5);have hk1:=fun o=>hc5 W.heap.size o (by omega);have hk2:=fun o=>hc5 bv o (by omega);have hk3:=fun o=>hc5 cb o (by omega);have hk4:=fun o=>hc5 g0 o (by omega);clear hc5 hf5);(try go_wp2_with fail);refine tr hK (fun hHeld=> ?_);clear hK K)
        refine tq 2 hHeld ?_
        refine tq 3 hHeld ?_
        refine tq 4 hHeld ?_
        refine tq 5 hHeld ?_
        refine tq 6 hHeld ?_
        refine tq 7 hHeld ?_
        refine tn 8 hHeld ?_
        refine tn 9 hHeld ?_
        refine tn 10 hHeld ?_
        refine tn 11 hHeld ?_
        refine tn 12 hHeld ?_
        refine tn 13 hHeld ?_
        refine tn 14 hHeld ?_
        refine tn 15 hHeld ?_
        refine tn 16 hHeld ?_
        refine tn 17 hHeld ?_
        refine tn 18 hHeld ?_
        refine tn 19 hHeld ?_
        refine tn 20 hHeld ?_
        refine tn 21 hHeld ?_
        refine tn 22 hHeld ?_
        refine tn 23 hHeld ?_
        refine tn 24 hHeld ?_
        refine tn 25 hHeld ?_
        refine tq 26 hHeld ?_
        refine tq 27 hHeld ?_
        refine wpAnyH_done (by kernel_rfl) ?_ _
        refine hK _ _ ?_
        refine wpIn_cond_false rfl ?_
        refine wpIn_skip ?_
        exact⟨KeepsFrom.of_below hb5.ofDr,hb2.trans (hb5.ofDr.mono hb2.size),by rw[allBB,hall,hyes.out];rfl⟩
   case done=>
    rintro D W hD ⟨hbW,hall⟩ hK
    have q2:=(hbW.cell (p:=⟨w.heap.size,0,none⟩) (by simp;omega)).trans r2
    have q3:=(hbW.cell (p:=⟨w.heap.size+1,0,none⟩) (by simp;omega)).trans r3
    have q4:=(hbW.cell (p:=⟨bv,0,none⟩) hz2).trans r4
    have p2:=(hbW.frozen (p:=⟨w.heap.size,0,none⟩) (by simp;omega)).trans f2
    have p3:=(hbW.frozen (p:=⟨w.heap.size+1,0,none⟩) (by simp;omega)).trans f3
    have hC4:=hC2.below hbW
    have hBW:Below w.heap.size w W:=hB.trans (hbW.mono hB.size)
    have hzW:=hbW.size
    go_wp2
    have hF:Fr (fun b=>b=w.heap.size∨b=w.heap.size+1) W ((W.setCell ⟨w.heap.size,0,none⟩ (.pointer (some ⟨cb,0,none⟩))).setCell ⟨w.heap.size+1,0,none⟩ (.bool true)):=(Fr.setCell (.inl rfl) _).trans (Fr.setCell (.inr rfl) _)
    refine marks_ret (B:=w2.heap.size) hD rfl (hF.kind _ _ hK rfl) fun W' hS=>⟨.tuple #[.pointer (some ⟨cb,0,none⟩),.bool true],?_,?_,.inl ⟨?_,cb,S,rfl,?_,?_⟩⟩
    · have x2:W'.cell? ⟨w.heap.size,0,none⟩=some (.pointer (some ⟨cb,0,none⟩)):=hS.cell (by go_simp)
      have x3:W'.cell? ⟨w.heap.size+1,0,none⟩=some (.bool true):=hS.cell (by go_simp)
      simp[results,Tryz.results18,go_sem, *]
    · exact((hBW.setCell (by simp) _).setCell (by simp) _).trans (hS.below.mono (by omega))
    · rw[bodsB,hall,decide_eq_true h12];rfl
    · omega
    · exact(hC4.frame hF (by omega) (fun b hb=>by have:=(hC2.xlt hb).1;omega)).sm hS
   case stop=>
    rintro D c W hD ⟨rfl,hbW,q2,q3,hno⟩ hK
    go_wp2
    refine marks_ret (B:=w2.heap.size) hD rfl hK fun W' hS=>⟨.tuple #[.pointer none,.bool false],?_,hbW.trans (hS.below.mono (by omega)),.inr ⟨hno,rfl⟩⟩
    have x2:=hS.cell q2
    have x3:=hS.cell q3
    simp[results,Tryz.results18,go_sem, *]
 · have h12':(12:Int)<(n:Int):=by omega
   refine calls_of_wp_marks Tryz.func18 rfl ?_
   simp only[Tryz.ntmps18,List.size_toArray,List.length_cons,List.length_nil,Nat.reduceAdd,Nat.reduceSub,Array.replicate_succ,Array.replicate_zero,List.push_toArray,List.append_toArray,List.nil_append,List.cons_append]
   go_wp2
   refine marks_ret0 (v:= .tuple #[.pointer none,.bool false]) rfl (by simp[results,Tryz.results18,go_sem, *]) ⟨bel_a,.inr ⟨by rw[bodsB,decide_eq_false h12];rfl,rfl⟩⟩
theorem sBodiesOk_any (a:Option Addr) (n c:Nat) (U:Nat→Int) (w:World) (h:Flat w a (n*12) U) (hn:n≤1048576):
 Calls Tryz.prog 15 #[.slice a n c] w fun e w'=>e= .returned (.bool (bodsB n U))∧Below w.heap.size w w':=by
 have hset:=cset_map
 go_enter Tryz.func15,Tryz.ntmps15
 go_wp2
 go_loopw [3] (fun i wr=>∃ k:Nat,k≤n∧i= .int .i64 (k:Int)∧Below w.heap.size w wr∧allBB U k=true) (fun i _=>n-(intOf i).toNat)
 case atStart=>exact⟨0,Nat.zero_le _,rfl,Below.refl _ _,rfl⟩
 case round=>
  obtain⟨k,hk,rfl,hB,hall0⟩:=hrel
  have hall:Shut (allBB U k=true):=hall0
  clear hall0
  by_cases hlt:k<n
  · have hkn:(k:Int)<(n:Int):=by omega
    obtain⟨b,o,rfl,hbl,hc⟩:=(h.below hB) (by omega)
    have c0:=hc (k*12) (by omega)
    have c1:=hc (k*12+1) (by omega)
    have c2:=hc (k*12+2) (by omega)
    have c3:=hc (k*12+3) (by omega)
    have c4:=hc (k*12+4) (by omega)
    have c5:=hc (k*12+5) (by omega)
    have c6:=hc (k*12+6) (by omega)
    have c7:=hc (k*12+7) (by omega)
    have c8:=hc (k*12+8) (by omega)
    have c9:=hc (k*12+9) (by omega)
    have c10:=hc (k*12+10) (by omega)
    have c11:=hc (k*12+11) (by omega)
    simp only[←Nat.add_assoc] at c0 c1 c2 c3 c4 c5 c6 c7 c8 c9 c10 c11
    go_upto_region 4 with fail
    cases hi:bodyB (fun j=>U (k*12+j)) with
    | false=>
      have hno:Shut (stepBB U k=false):=by show stepBB U k=false;rw[stepBB,hi];rfl
      clear hc
      refine wp_region_held_drew (S:=fun w'=>w'.cell? ⟨b,o+k*12,none⟩=some (.int .i64 (U (k*12)))∧w'.cell? ⟨b,o+k*12+1,none⟩=some (.int .i64 (U (k*12+1)))∧w'.cell? ⟨b,o+k*12+2,none⟩=some (.int .i64 (U (k*12+2)))∧w'.cell? ⟨b,o+k*12+3,none⟩=some (.int .i64 (U (k*12+3)))∧w'.cell? ⟨b,o+k*12+4,none⟩=some (.int .i64 (U (k*12+4)))∧w'.cell? ⟨b,o+k*12+5,none⟩=some (.int .i64 (U (k*12+5)))∧w'.cell? ⟨b,o+k*12+6,none⟩=some (.int .i64 (U (k*12+6)))∧w'.cell? ⟨b,o+k*12+7,none⟩=some (.int .i64 (U (k*12+7)))∧w'.cell? ⟨b,o+k*12+8,none⟩=some (.int .i64 (U (k*12+8)))∧w'.cell? ⟨b,o+k*12+9,none⟩=some (.int .i64 (U (k*12+9)))∧w'.cell? ⟨b,o+k*12+10,none⟩=some (.int .i64 (U (k*12+10)))∧w'.cell? ⟨b,o+k*12+11,none⟩=some (.int .i64 (U (k*12+11)))) (by kernel_rfl) ?_ (fun hHeld=> ?_)
      · (try dsimp only)
        (first|(go_simp;done)|(go_keep;done))
      refine tq 0 hHeld ?_
      refine tq 1 hHeld ?_
      refine tq 2 hHeld ?_
      refine tq 3 hHeld ?_
      (refine tc 4 fun K hK=> ?_;go_simp;(go_at_call 28;refine(sBodyOk_q (fun j=>U (k*12+j)) _ _ (by exact hi)).mono ?_;rintro e w2 ⟨rfl,hb2⟩;obtain⟨hc2,hf2⟩:=bcell hb2;have hz2:=hb2.size;(try simp only[zz] at hc2 hf2 hz2);have hk3:=fun o=>hc2 b o (by omega);clear hc2 hf2);(try go_wp2_with fail);refine tr hK (fun hHeld=> ?_);clear hK K)
      refine tq 5 hHeld ?_
      refine tq 6 hHeld ?_
      refine tn 7 hHeld ?_
      refine tn 8 hHeld ?_
      refine tn 9 hHeld ?_
      refine tn 10 hHeld ?_
      refine tn 11 hHeld ?_
      refine tn 12 hHeld ?_
      refine tn 13 hHeld ?_
      refine tn 14 hHeld ?_
      refine tn 15 hHeld ?_
      refine tn 16 hHeld ?_
      refine tn 17 hHeld ?_
      refine tn 18 hHeld ?_
      refine tn 19 hHeld ?_
      refine tn 20 hHeld ?_
      refine tn 21 hHeld ?_
      refine tn 22 hHeld ?_
      refine tq 23 hHeld ?_
      refine wpAnyH_done (by kernel_rfl) ?_ _
      go_wp2_with fail
      go_ret
      exact⟨by rw[bodsB,allBB_no hno.out n hlt,Bool.and_false];rfl,hB.trans (hb2.ofDr.mono hB.size)⟩
    | true=>
      by_cases hk0:0<k
      · have hd0:decide (0<k)=true:=decide_eq_true hk0
        obtain⟨j,hj⟩:∃ j,j+1=k:=⟨k-1,by omega⟩
        have hj':(k:Int)-1=(j:Int):=by omega
        have hjn:j<n:=by omega
        have hwj:IntKind.i64.wrap (j:Int)=(j:Int):=i64w (by omega)
        have HJ:Shut (j+1=k):=hj
        clear hj
        have p0:=hc (j*12) (by omega)
        clear hc
        by_cases hge:U (j*12)<U (k*12)
        · have hdg:decide (U (k*12)≤U (j*12))=false:=decide_eq_false (by omega)
          have hyes:Shut (stepBB U k=true):=by show stepBB U k=true;rw[stepBB,hi,show k-1=j from by have:=HJ.out;omega];simp[hge]
          refine wp_region_held_drew (S:=fun w'=>w'.cell? ⟨b,o+k*12,none⟩=some (.int .i64 (U (k*12)))∧w'.cell? ⟨b,o+k*12+1,none⟩=some (.int .i64 (U (k*12+1)))∧w'.cell? ⟨b,o+k*12+2,none⟩=some (.int .i64 (U (k*12+2)))∧w'.cell? ⟨b,o+k*12+3,none⟩=some (.int .i64 (U (k*12+3)))∧w'.cell? ⟨b,o+k*12+4,none⟩=some (.int .i64 (U (k*12+4)))∧w'.cell? ⟨b,o+k*12+5,none⟩=some (.int .i64 (U (k*12+5)))∧w'.cell? ⟨b,o+k*12+6,none⟩=some (.int .i64 (U (k*12+6)))∧w'.cell? ⟨b,o+k*12+7,none⟩=some (.int .i64 (U (k*12+7)))∧w'.cell? ⟨b,o+k*12+8,none⟩=some (.int .i64 (U (k*12+8)))∧w'.cell? ⟨b,o+k*12+9,none⟩=some (.int .i64 (U (k*12+9)))∧w'.cell? ⟨b,o+k*12+10,none⟩=some (.int .i64 (U (k*12+10)))∧w'.cell? ⟨b,o+k*12+11,none⟩=some (.int .i64 (U (k*12+11)))∧w'.cell? ⟨b,o+j*12,none⟩=some (.int .i64 (U (j*12)))) (by kernel_rfl) ?_ (fun hHeld=> ?_)
          · (try dsimp only)
            (first|(go_simp;done)|(go_keep;done))
          refine tq 0 hHeld ?_
          refine tq 1 hHeld ?_
          refine tq 2 hHeld ?_
          refine tq 3 hHeld ?_
          (refine tc 4 fun K hK=> ?_;go_simp;(go_at_call 28;refine(sBodyOk_q (fun j=>U (k*12+j)) _ _ (by exact hi)).mono ?_;rintro e w2 ⟨rfl,hb2⟩;obtain⟨hc2,hf2⟩:=bcell hb2;have hz2:=hb2.size;(try simp only[zz] at hc2 hf2 hz2);have hk3:=fun o=>hc2 b o (by omega);clear hc2 hf2);(try go_wp2_with fail);refine tr hK (fun hHeld=> ?_);clear hK K)
          refine tq 5 hHeld ?_
          refine tq 6 hHeld ?_
          refine tq 7 hHeld ?_
          refine tq 8 hHeld ?_
          refine tq 9 hHeld ?_
          refine tq 10 hHeld ?_
          refine tq 11 hHeld ?_
          refine tq 12 hHeld ?_
          refine tq 13 hHeld ?_
          refine tq 14 hHeld ?_
          refine tq 15 hHeld ?_
          refine tq 16 hHeld ?_
          refine tq 17 hHeld ?_
          refine tq 18 hHeld ?_
          refine tq 19 hHeld ?_
          refine tq 20 hHeld ?_
          refine tq 21 hHeld ?_
          refine tq 22 hHeld ?_
          refine tq 23 hHeld ?_
          refine wpAnyH_done (by kernel_rfl) ?_ _
          go_wp2_with fail
          go_roundw
          case rel=>exact⟨k+1,by omega,by go_num,hB.trans (hb2.ofDr.mono hB.size),by rw[allBB,hall.out,hyes.out];rfl⟩
          case measure=>simp[intOf];omega
        · have hdg:decide (U (k*12)≤U (j*12))=true:=decide_eq_true (by omega)
          have hno:Shut (stepBB U k=false):=by show stepBB U k=false;rw[stepBB,show k-1=j from by have:=HJ.out;omega];have:=HJ.out;simp[hge];omega
          refine wp_region_held_drew (S:=fun w'=>w'.cell? ⟨b,o+k*12,none⟩=some (.int .i64 (U (k*12)))∧w'.cell? ⟨b,o+k*12+1,none⟩=some (.int .i64 (U (k*12+1)))∧w'.cell? ⟨b,o+k*12+2,none⟩=some (.int .i64 (U (k*12+2)))∧w'.cell? ⟨b,o+k*12+3,none⟩=some (.int .i64 (U (k*12+3)))∧w'.cell? ⟨b,o+k*12+4,none⟩=some (.int .i64 (U (k*12+4)))∧w'.cell? ⟨b,o+k*12+5,none⟩=some (.int .i64 (U (k*12+5)))∧w'.cell? ⟨b,o+k*12+6,none⟩=some (.int .i64 (U (k*12+6)))∧w'.cell? ⟨b,o+k*12+7,none⟩=some (.int .i64 (U (k*12+7)))∧w'.cell? ⟨b,o+k*12+8,none⟩=some (.int .i64 (U (k*12+8)))∧w'.cell? ⟨b,o+k*12+9,none⟩=some (.int .i64 (U (k*12+9)))∧w'.cell? ⟨b,o+k*12+10,none⟩=some (.int .i64 (U (k*12+10)))∧w'.cell? ⟨b,o+k*12+11,none⟩=some (.int .i64 (U (k*12+11)))∧w'.cell? ⟨b,o+j*12,none⟩=some (.int .i64 (U (j*12)))) (by kernel_rfl) ?_ (fun hHeld=> ?_)
          · (try dsimp only)
            (first|(go_simp;done)|(go_keep;done))
          refine tq 0 hHeld ?_
          refine tq 1 hHeld ?_
          refine tq 2 hHeld ?_
          refine tq 3 hHeld ?_
          (refine tc 4 fun K hK=> ?_;go_simp;(go_at_call 28;refine(sBodyOk_q (fun j=>U (k*12+j)) _ _ (by exact hi)).mono ?_;rintro e w2 ⟨rfl,hb2⟩;obtain⟨hc2,hf2⟩:=bcell hb2;have hz2:=hb2.size;(try simp only[zz] at hc2 hf2 hz2);have hk3:=fun o=>hc2 b o (by omega);clear hc2 hf2);(try go_wp2_with fail);refine tr hK (fun hHeld=> ?_);clear hK K)
          refine tq 5 hHeld ?_
          refine tq 6 hHeld ?_
          refine tq 7 hHeld ?_
          refine tq 8 hHeld ?_
          refine tq 9 hHeld ?_
          refine tq 10 hHeld ?_
          refine tq 11 hHeld ?_
          refine tq 12 hHeld ?_
          refine tq 13 hHeld ?_
          refine tq 14 hHeld ?_
          refine tq 15 hHeld ?_
          refine tq 16 hHeld ?_
          refine tq 17 hHeld ?_
          refine tq 18 hHeld ?_
          refine tq 19 hHeld ?_
          refine tq 20 hHeld ?_
          refine tq 21 hHeld ?_
          refine tq 22 hHeld ?_
          refine tq 23 hHeld ?_
          refine wpAnyH_done (by kernel_rfl) ?_ _
          go_wp2_with fail
          go_ret
          exact⟨by rw[bodsB,allBB_no hno.out n hlt,Bool.and_false];rfl,hB.trans (hb2.ofDr.mono hB.size)⟩
      · have hd0:decide (0<k)=false:=decide_eq_false hk0
        have HK:Shut (k=0):=(by omega:k=0)
        clear hk0 hc
        have hyes:Shut (stepBB U k=true):=by show stepBB U k=true;rw[stepBB,hi,HK.out];rfl
        refine wp_region_held_drew (S:=fun w'=>w'.cell? ⟨b,o+k*12,none⟩=some (.int .i64 (U (k*12)))∧w'.cell? ⟨b,o+k*12+1,none⟩=some (.int .i64 (U (k*12+1)))∧w'.cell? ⟨b,o+k*12+2,none⟩=some (.int .i64 (U (k*12+2)))∧w'.cell? ⟨b,o+k*12+3,none⟩=some (.int .i64 (U (k*12+3)))∧w'.cell? ⟨b,o+k*12+4,none⟩=some (.int .i64 (U (k*12+4)))∧w'.cell? ⟨b,o+k*12+5,none⟩=some (.int .i64 (U (k*12+5)))∧w'.cell? ⟨b,o+k*12+6,none⟩=some (.int .i64 (U (k*12+6)))∧w'.cell? ⟨b,o+k*12+7,none⟩=some (.int .i64 (U (k*12+7)))∧w'.cell? ⟨b,o+k*12+8,none⟩=some (.int .i64 (U (k*12+8)))∧w'.cell? ⟨b,o+k*12+9,none⟩=some (.int .i64 (U (k*12+9)))∧w'.cell? ⟨b,o+k*12+10,none⟩=some (.int .i64 (U (k*12+10)))∧w'.cell? ⟨b,o+k*12+11,none⟩=some (.int .i64 (U (k*12+11)))) (by kernel_rfl) ?_ (fun hHeld=> ?_)
        · (try dsimp only)
          (first|(go_simp;done)|(go_keep;done))
        refine tq 0 hHeld ?_
        refine tq 1 hHeld ?_
        refine tq 2 hHeld ?_
        refine tq 3 hHeld ?_
        (refine tc 4 fun K hK=> ?_;go_simp;(go_at_call 28;refine(sBodyOk_q (fun j=>U (k*12+j)) _ _ (by exact hi)).mono ?_;rintro e w2 ⟨rfl,hb2⟩;obtain⟨hc2,hf2⟩:=bcell hb2;have hz2:=hb2.size;(try simp only[zz] at hc2 hf2 hz2);have hk3:=fun o=>hc2 b o (by omega);clear hc2 hf2);(try go_wp2_with fail);refine tr hK (fun hHeld=> ?_);clear hK K)
        refine tq 5 hHeld ?_
        refine tq 6 hHeld ?_
        refine tq 7 hHeld ?_
        refine tq 8 hHeld ?_
        refine tq 9 hHeld ?_
        refine tn 10 hHeld ?_
        refine tn 11 hHeld ?_
        refine tn 12 hHeld ?_
        refine tn 13 hHeld ?_
        refine tn 14 hHeld ?_
        refine tn 15 hHeld ?_
        refine tn 16 hHeld ?_
        refine tn 17 hHeld ?_
        refine tn 18 hHeld ?_
        refine tn 19 hHeld ?_
        refine tn 20 hHeld ?_
        refine tn 21 hHeld ?_
        refine tq 22 hHeld ?_
        refine tq 23 hHeld ?_
        refine wpAnyH_done (by kernel_rfl) ?_ _
        go_wp2_with fail
        go_roundw
        case rel=>exact⟨k+1,by omega,by go_num,hB.trans (hb2.ofDr.mono hB.size),by rw[allBB,hall.out,hyes.out];rfl⟩
        case measure=>simp[intOf];omega
  · obtain rfl:k=n:=by omega
    by_cases h12:k≤12
    · have h12':(k:Int)≤12:=by omega
      go_wp2
      go_ret
      exact⟨by rw[bodsB,hall.out,decide_eq_true h12];rfl,hB⟩
    · have h12':¬ (k:Int)≤12:=by omega
      go_wp2
      go_ret
      exact⟨by rw[bodsB,decide_eq_false h12];rfl,hB⟩
theorem sBodiesOk_q (a:Option Addr) (n c:Nat) (U:Nat→Int) (b:Bool) (w:World) (h:Flat w a (n*12) U) (hn:n≤1048576) (e:bodsB n U=b):
 Calls Tryz.prog 15 #[.slice a n c] w fun e w'=>e= .returned (.bool b)∧Below w.heap.size w w':=by subst e;exact sBodiesOk_any a n c U w h hn
theorem columnsOf_ok (a:Option Addr) (n c:Nat) (U:Nat→Int) (w:World) (h:Flat w a (n*12) U) (hn:n≤1048576) (e:bodsB n U=true):
 Calls Tryz.prog 18 #[.slice a n c] w fun e w'=>∃ cb S,e= .returned (.tuple #[.pointer (some ⟨cb,0,none⟩),.bool true])∧w.heap.size≤cb∧Cs w' cb n (colOf U) S∧Below w.heap.size w w':=
 (columnsOf_any a n c U w h hn).mono fun e' w' q=>by
   obtain⟨q1,(⟨_,cb,S,q2,q3,q4⟩|⟨q2,_⟩)⟩:=q
   · exact⟨cb,S,q2,q3,q4,q1⟩
   · rw[e] at q2;cases q2
theorem columnsOf_no (a:Option Addr) (n c:Nat) (U:Nat→Int) (w:World) (h:Flat w a (n*12) U) (hn:n≤1048576) (e:bodsB n U=false):
 Calls Tryz.prog 18 #[.slice a n c] w fun e w'=>e= .returned (.tuple #[.pointer none,.bool false])∧Below w.heap.size w w':=
 (columnsOf_any a n c U w h hn).mono fun e' w' q=>by
   obtain⟨q1,(⟨q2,_⟩|⟨_,q2⟩)⟩:=q
   · rw[e] at q2;cases q2
   · exact⟨q2,q1⟩
end Go.Proofs.YtpmjnpmnocjjgaaGreatDoor
