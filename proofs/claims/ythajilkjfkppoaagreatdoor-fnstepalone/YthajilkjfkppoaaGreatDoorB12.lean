/- Texts of a proof. -/
import Derived.Test.YthajilkjfkppoaaGreatDoorB2
import Derived.Test.YthajilkjfkppoaaGreatDoorB3
import Derived.Deep.RegionHeld3
import Derived.Test.YthajilkjfkppoaaGreatDoorB6
import Derived.Test.YthajilkjfkppoaaGreatDoorB11
import Derived.Deep.DeepCutAuto
import Derived.Test.YthajilkjfkppoaaGreatDoorB10
import Derived.Test.YthajilkjfkppoaaGreatDoorB7
set_option maxHeartbeats 16000000
set_option maxRecDepth 20000
namespace Go.Proofs.YthajilkjfkppoaaGreatDoor
open Go.RowKit
set_option linter.unusedVariables false
set_option linter.unusedSimpArgs false
def Dn (x:Int):Prop:= -1099511627776≤x∧x≤1099511627776
theorem RB.size {w0 w:World} {rb p:Nat} (h:RB w0 w rb p):w0.heap.size≤w.heap.size:=by
 have:=(h.old (B:=0) (Nat.zero_le _) (Nat.zero_le _)).size
 exact this
def tcT (k1 g1 h1 x y k2 g2 h2 u v:Int):(Int×Int×Int)×Bool:=
 if k1=1 then (if k2=1 then rdT (u-x) (v-y) (g1+g2) else tnT (mxT (u-g2) (v-h2) (u+g2) (v+h2) x y g1))
 else (if k2=1 then mxT (x-g1) (y-h1) (x+g1) (y+h1) u v g2 else bxT (x-g1) (y-h1) (x+g1) (y+h1) (u-g2) (v-h2) (u+g2) (v+h2))
def toT (k1 g1 h1 x y k2 g2 h2 u v:Int):(Int×Int×Int)×Bool:=if (shB k1 g1 h1&&(shB k2 g2 h2&&(inB 2560000 x y&&inB 2560000 u v)))=true then tcT k1 g1 h1 x y k2 g2 h2 u v else ((0,0,0),false)
theorem shB_kinds {k g h:Int} (e:shB k g h=true):(k=1∧h=0∧1≤g∧g≤25600)∨(k=2∧1≤g∧g≤25600∧1≤h∧h≤25600):=by
 unfold shB rdB bxB at e;simp only[Bool.or_eq_true,decide_eq_true_eq] at e;omega
theorem sBodiesOk_any (a:Option Addr) (n c:Nat) (U:Nat→Int) (w:World) (h:Flat w a (n*12) U) (hn:n≤1048576):
 Calls Tryz.prog 12 #[.slice a n c] w fun e w'=>e= .returned (.bool (bodsB n U))∧Below w.heap.size w w':=by
 have hset:=cset_map
 go_enter Tryz.func12,Tryz.ntmps12
 go_wp2
 go_loopw [3] (fun i wr=>∃ k:Nat,k≤n∧i= .int .i64 (k:Int)∧Below w.heap.size w wr∧allBB U k=true) (fun i _=>n-(intOf i).toNat)
 case atStart=>exact⟨0,Nat.zero_le _,rfl,Below.refl _ _,rfl⟩
 case round=>
  obtain⟨k,hk,rfl,hB,hall0⟩:=hrel
  have hall:Shut (allBB U k=true):=hall0
  clear hall0
  by_cases hlt:k<n
  · have hkn:(k:Int)<(n:Int):=by omega
    obtain⟨b,o,rfl,hbl,hc⟩:=(h.below hB) (by omega)
    have c0:=hc (k*12) (by omega)
    have c1:=hc (k*12+1) (by omega)
    have c2:=hc (k*12+2) (by omega)
    have c3:=hc (k*12+3) (by omega)
    have c4:=hc (k*12+4) (by omega)
    have c5:=hc (k*12+5) (by omega)
    have c6:=hc (k*12+6) (by omega)
    have c7:=hc (k*12+7) (by omega)
    have c8:=hc (k*12+8) (by omega)
    have c9:=hc (k*12+9) (by omega)
    have c10:=hc (k*12+10) (by omega)
    have c11:=hc (k*12+11) (by omega)
    simp only[←Nat.add_assoc] at c0 c1 c2 c3 c4 c5 c6 c7 c8 c9 c10 c11
    go_upto_region 4 with fail
    cases hi:bodyB (fun j=>U (k*12+j)) with
    | false=>
      have hno:Shut (stepBB U k=false):=by show stepBB U k=false;rw[stepBB,hi];rfl
      clear hc
      refine wp_region_held_drew (S:=fun w'=>w'.cell? ⟨b,o+k*12,none⟩=some (.int .i64 (U (k*12)))∧w'.cell? ⟨b,o+k*12+1,none⟩=some (.int .i64 (U (k*12+1)))∧w'.cell? ⟨b,o+k*12+2,none⟩=some (.int .i64 (U (k*12+2)))∧w'.cell? ⟨b,o+k*12+3,none⟩=some (.int .i64 (U (k*12+3)))∧w'.cell? ⟨b,o+k*12+4,none⟩=some (.int .i64 (U (k*12+4)))∧w'.cell? ⟨b,o+k*12+5,none⟩=some (.int .i64 (U (k*12+5)))∧w'.cell? ⟨b,o+k*12+6,none⟩=some (.int .i64 (U (k*12+6)))∧w'.cell? ⟨b,o+k*12+7,none⟩=some (.int .i64 (U (k*12+7)))∧w'.cell? ⟨b,o+k*12+8,none⟩=some (.int .i64 (U (k*12+8)))∧w'.cell? ⟨b,o+k*12+9,none⟩=some (.int .i64 (U (k*12+9)))∧w'.cell? ⟨b,o+k*12+10,none⟩=some (.int .i64 (U (k*12+10)))∧w'.cell? ⟨b,o+k*12+11,none⟩=some (.int .i64 (U (k*12+11)))) (by kernel_rfl) ?_ (fun hHeld=> ?_)
      · (try dsimp only)
        (first|(go_simp;done)|(go_keep;done))
      refine tq 0 hHeld ?_
      refine tq 1 hHeld ?_
      refine tq 2 hHeld ?_
      refine tq 3 hHeld ?_
      (refine tc 4 fun K hK=> ?_;go_simp;(go_at_call 28;refine(sBodyOk_q (fun j=>U (k*12+j)) _ _ (by exact hi)).mono ?_;rintro e w2 ⟨rfl,hb2⟩;obtain⟨hc2,hf2⟩:=bcell hb2;have hz2:=hb2.size;(try simp only[zz] at hc2 hf2 hz2);have hk3:=fun o=>hc2 b o (by omega);clear hc2 hf2);(try go_wp2_with fail);refine tr hK (fun hHeld=> ?_);clear hK K)
      refine tq 5 hHeld ?_
      refine tq 6 hHeld ?_
      refine tn 7 hHeld ?_
      refine tn 8 hHeld ?_
      refine tn 9 hHeld ?_
      refine tn 10 hHeld ?_
      refine tn 11 hHeld ?_
      refine tn 12 hHeld ?_
      refine tn 13 hHeld ?_
      refine tn 14 hHeld ?_
      refine tn 15 hHeld ?_
      refine tn 16 hHeld ?_
      refine tn 17 hHeld ?_
      refine tn 18 hHeld ?_
      refine tn 19 hHeld ?_
      refine tn 20 hHeld ?_
      refine tn 21 hHeld ?_
      refine tn 22 hHeld ?_
      refine tq 23 hHeld ?_
      refine wpAnyH_done (by kernel_rfl) ?_ _
      go_wp2_with fail
      go_ret
      exact⟨by rw[bodsB,allBB_no hno.out n hlt,Bool.and_false];rfl,hB.trans (hb2.ofDr.mono hB.size)⟩
    | true=>
      by_cases hk0:0<k
      · have hd0:decide (0<k)=true:=decide_eq_true hk0
        obtain⟨j,hj⟩:∃ j,j+1=k:=⟨k-1,by omega⟩
        have hj':(k:Int)-1=(j:Int):=by omega
        have hjn:j<n:=by omega
        have hwj:IntKind.i64.wrap (j:Int)=(j:Int):=i64w (by omega)
        have HJ:Shut (j+1=k):=hj
        clear hj
        have p0:=hc (j*12) (by omega)
        clear hc
        by_cases hge:U (j*12)<U (k*12)
        · have hdg:decide (U (k*12)≤U (j*12))=false:=decide_eq_false (by omega)
          have hyes:Shut (stepBB U k=true):=by show stepBB U k=true;rw[stepBB,hi,show k-1=j from by have:=HJ.out;omega];simp[hge]
          refine wp_region_held_drew (S:=fun w'=>w'.cell? ⟨b,o+k*12,none⟩=some (.int .i64 (U (k*12)))∧w'.cell? ⟨b,o+k*12+1,none⟩=some (.int .i64 (U (k*12+1)))∧w'.cell? ⟨b,o+k*12+2,none⟩=some (.int .i64 (U (k*12+2)))∧w'.cell? ⟨b,o+k*12+3,none⟩=some (.int .i64 (U (k*12+3)))∧w'.cell? ⟨b,o+k*12+4,none⟩=some (.int .i64 (U (k*12+4)))∧w'.cell? ⟨b,o+k*12+5,none⟩=some (.int .i64 (U (k*12+5)))∧w'.cell? ⟨b,o+k*12+6,none⟩=some (.int .i64 (U (k*12+6)))∧w'.cell? ⟨b,o+k*12+7,none⟩=some (.int .i64 (U (k*12+7)))∧w'.cell? ⟨b,o+k*12+8,none⟩=some (.int .i64 (U (k*12+8)))∧w'.cell? ⟨b,o+k*12+9,none⟩=some (.int .i64 (U (k*12+9)))∧w'.cell? ⟨b,o+k*12+10,none⟩=some (.int .i64 (U (k*12+10)))∧w'.cell? ⟨b,o+k*12+11,none⟩=some (.int .i64 (U (k*12+11)))∧w'.cell? ⟨b,o+j*12,none⟩=some (.int .i64 (U (j*12)))) (by kernel_rfl) ?_ (fun hHeld=> ?_)
          · (try dsimp only)
            (first|(go_simp;done)|(go_keep;done))
          refine tq 0 hHeld ?_
          refine tq 1 hHeld ?_
          refine tq 2 hHeld ?_
          refine tq 3 hHeld ?_
          (refine tc 4 fun K hK=> ?_;go_simp;(go_at_call 28;refine(sBodyOk_q (fun j=>U (k*12+j)) _ _ (by exact hi)).mono ?_;rintro e w2 ⟨rfl,hb2⟩;obtain⟨hc2,hf2⟩:=bcell hb2;have hz2:=hb2.size;(try simp only[zz] at hc2 hf2 hz2);have hk3:=fun o=>hc2 b o (by omega);clear hc2 hf2);(try go_wp2_with fail);refine tr hK (fun hHeld=> ?_);clear hK K)
          refine tq 5 hHeld ?_
          refine tq 6 hHeld ?_
          refine tq 7 hHeld ?_
          refine tq 8 hHeld ?_
          refine tq 9 hHeld ?_
          refine tq 10 hHeld ?_
          refine tq 11 hHeld ?_
          refine tq 12 hHeld ?_
          refine tq 13 hHeld ?_
          refine tq 14 hHeld ?_
          refine tq 15 hHeld ?_
          refine tq 16 hHeld ?_
          refine tq 17 hHeld ?_
          refine tq 18 hHeld ?_
          refine tq 19 hHeld ?_
          refine tq 20 hHeld ?_
          refine tq 21 hHeld ?_
          refine tq 22 hHeld ?_
          refine tq 23 hHeld ?_
          refine wpAnyH_done (by kernel_rfl) ?_ _
          go_wp2_with fail
          go_roundw
          case rel=>exact⟨k+1,by omega,by go_num,hB.trans (hb2.ofDr.mono hB.size),by rw[allBB,hall.out,hyes.out];rfl⟩
          case measure=>simp[intOf];omega
        · have hdg:decide (U (k*12)≤U (j*12))=true:=decide_eq_true (by omega)
          have hno:Shut (stepBB U k=false):=by show stepBB U k=false;rw[stepBB,show k-1=j from by have:=HJ.out;omega];have:=HJ.out;simp[hge];omega
          refine wp_region_held_drew (S:=fun w'=>w'.cell? ⟨b,o+k*12,none⟩=some (.int .i64 (U (k*12)))∧w'.cell? ⟨b,o+k*12+1,none⟩=some (.int .i64 (U (k*12+1)))∧w'.cell? ⟨b,o+k*12+2,none⟩=some (.int .i64 (U (k*12+2)))∧w'.cell? ⟨b,o+k*12+3,none⟩=some (.int .i64 (U (k*12+3)))∧w'.cell? ⟨b,o+k*12+4,none⟩=some (.int .i64 (U (k*12+4)))∧w'.cell? ⟨b,o+k*12+5,none⟩=some (.int .i64 (U (k*12+5)))∧w'.cell? ⟨b,o+k*12+6,none⟩=some (.int .i64 (U (k*12+6)))∧w'.cell? ⟨b,o+k*12+7,none⟩=some (.int .i64 (U (k*12+7)))∧w'.cell? ⟨b,o+k*12+8,none⟩=some (.int .i64 (U (k*12+8)))∧w'.cell? ⟨b,o+k*12+9,none⟩=some (.int .i64 (U (k*12+9)))∧w'.cell? ⟨b,o+k*12+10,none⟩=some (.int .i64 (U (k*12+10)))∧w'.cell? ⟨b,o+k*12+11,none⟩=some (.int .i64 (U (k*12+11)))∧w'.cell? ⟨b,o+j*12,none⟩=some (.int .i64 (U (j*12)))) (by kernel_rfl) ?_ (fun hHeld=> ?_)
          · (try dsimp only)
            (first|(go_simp;done)|(go_keep;done))
          refine tq 0 hHeld ?_
          refine tq 1 hHeld ?_
          refine tq 2 hHeld ?_
          refine tq 3 hHeld ?_
          (refine tc 4 fun K hK=> ?_;go_simp;(go_at_call 28;refine(sBodyOk_q (fun j=>U (k*12+j)) _ _ (by exact hi)).mono ?_;rintro e w2 ⟨rfl,hb2⟩;obtain⟨hc2,hf2⟩:=bcell hb2;have hz2:=hb2.size;(try simp only[zz] at hc2 hf2 hz2);have hk3:=fun o=>hc2 b o (by omega);clear hc2 hf2);(try go_wp2_with fail);refine tr hK (fun hHeld=> ?_);clear hK K)
          refine tq 5 hHeld ?_
          refine tq 6 hHeld ?_
          refine tq 7 hHeld ?_
          refine tq 8 hHeld ?_
          refine tq 9 hHeld ?_
          refine tq 10 hHeld ?_
          refine tq 11 hHeld ?_
          refine tq 12 hHeld ?_
          refine tq 13 hHeld ?_
          refine tq 14 hHeld ?_
          refine tq 15 hHeld ?_
          refine tq 16 hHeld ?_
          refine tq 17 hHeld ?_
          refine tq 18 hHeld ?_
          refine tq 19 hHeld ?_
          refine tq 20 hHeld ?_
          refine tq 21 hHeld ?_
          refine tq 22 hHeld ?_
          refine tq 23 hHeld ?_
          refine wpAnyH_done (by kernel_rfl) ?_ _
          go_wp2_with fail
          go_ret
          exact⟨by rw[bodsB,allBB_no hno.out n hlt,Bool.and_false];rfl,hB.trans (hb2.ofDr.mono hB.size)⟩
      · have hd0:decide (0<k)=false:=decide_eq_false hk0
        have HK:Shut (k=0):=(by omega:k=0)
        clear hk0 hc
        have hyes:Shut (stepBB U k=true):=by show stepBB U k=true;rw[stepBB,hi,HK.out];rfl
        refine wp_region_held_drew (S:=fun w'=>w'.cell? ⟨b,o+k*12,none⟩=some (.int .i64 (U (k*12)))∧w'.cell? ⟨b,o+k*12+1,none⟩=some (.int .i64 (U (k*12+1)))∧w'.cell? ⟨b,o+k*12+2,none⟩=some (.int .i64 (U (k*12+2)))∧w'.cell? ⟨b,o+k*12+3,none⟩=some (.int .i64 (U (k*12+3)))∧w'.cell? ⟨b,o+k*12+4,none⟩=some (.int .i64 (U (k*12+4)))∧w'.cell? ⟨b,o+k*12+5,none⟩=some (.int .i64 (U (k*12+5)))∧w'.cell? ⟨b,o+k*12+6,none⟩=some (.int .i64 (U (k*12+6)))∧w'.cell? ⟨b,o+k*12+7,none⟩=some (.int .i64 (U (k*12+7)))∧w'.cell? ⟨b,o+k*12+8,none⟩=some (.int .i64 (U (k*12+8)))∧w'.cell? ⟨b,o+k*12+9,none⟩=some (.int .i64 (U (k*12+9)))∧w'.cell? ⟨b,o+k*12+10,none⟩=some (.int .i64 (U (k*12+10)))∧w'.cell? ⟨b,o+k*12+11,none⟩=some (.int .i64 (U (k*12+11)))) (by kernel_rfl) ?_ (fun hHeld=> ?_)
        · (try dsimp only)
          (first|(go_simp;done)|(go_keep;done))
        refine tq 0 hHeld ?_
        refine tq 1 hHeld ?_
        refine tq 2 hHeld ?_
        refine tq 3 hHeld ?_
        (refine tc 4 fun K hK=> ?_;go_simp;(go_at_call 28;refine(sBodyOk_q (fun j=>U (k*12+j)) _ _ (by exact hi)).mono ?_;rintro e w2 ⟨rfl,hb2⟩;obtain⟨hc2,hf2⟩:=bcell hb2;have hz2:=hb2.size;(try simp only[zz] at hc2 hf2 hz2);have hk3:=fun o=>hc2 b o (by omega);clear hc2 hf2);(try go_wp2_with fail);refine tr hK (fun hHeld=> ?_);clear hK K)
        refine tq 5 hHeld ?_
        refine tq 6 hHeld ?_
        refine tq 7 hHeld ?_
        refine tq 8 hHeld ?_
        refine tq 9 hHeld ?_
        refine tn 10 hHeld ?_
        refine tn 11 hHeld ?_
        refine tn 12 hHeld ?_
        refine tn 13 hHeld ?_
        refine tn 14 hHeld ?_
        refine tn 15 hHeld ?_
        refine tn 16 hHeld ?_
        refine tn 17 hHeld ?_
        refine tn 18 hHeld ?_
        refine tn 19 hHeld ?_
        refine tn 20 hHeld ?_
        refine tn 21 hHeld ?_
        refine tq 22 hHeld ?_
        refine tq 23 hHeld ?_
        refine wpAnyH_done (by kernel_rfl) ?_ _
        go_wp2_with fail
        go_roundw
        case rel=>exact⟨k+1,by omega,by go_num,hB.trans (hb2.ofDr.mono hB.size),by rw[allBB,hall.out,hyes.out];rfl⟩
        case measure=>simp[intOf];omega
  · obtain rfl:k=n:=by omega
    by_cases h12:k≤12
    · have h12':(k:Int)≤12:=by omega
      go_wp2
      go_ret
      exact⟨by rw[bodsB,hall.out,decide_eq_true h12];rfl,hB⟩
    · have h12':¬ (k:Int)≤12:=by omega
      go_wp2
      go_ret
      exact⟨by rw[bodsB,decide_eq_false h12];rfl,hB⟩
theorem sBodiesOk_q (a:Option Addr) (n c:Nat) (U:Nat→Int) (b:Bool) (w:World) (h:Flat w a (n*12) U) (hn:n≤1048576) (e:bodsB n U=b):
 Calls Tryz.prog 12 #[.slice a n c] w fun e w'=>e= .returned (.bool b)∧Below w.heap.size w w':=by subst e;exact sBodiesOk_any a n c U w h hn
theorem columnsOf_ok (a:Option Addr) (n c:Nat) (U:Nat→Int) (w:World) (h:Flat w a (n*12) U) (hn:n≤1048576) (e:bodsB n U=true):
 Calls Tryz.prog 21 #[.slice a n c] w fun e w'=>∃ cb S,e= .returned (.tuple #[.pointer (some ⟨cb,0,none⟩),.bool true])∧w.heap.size≤cb∧Cs w' cb n (colOf U) S∧Below w.heap.size w w':=
 (columnsOf_any a n c U w h hn).mono fun e' w' q=>by
   obtain⟨q1,(⟨_,cb,S,q2,q3,q4⟩|⟨q2,_⟩)⟩:=q
   · exact⟨cb,S,q2,q3,q4,q1⟩
   · rw[e] at q2;cases q2
theorem columnsOf_no (a:Option Addr) (n c:Nat) (U:Nat→Int) (w:World) (h:Flat w a (n*12) U) (hn:n≤1048576) (e:bodsB n U=false):
 Calls Tryz.prog 21 #[.slice a n c] w fun e w'=>e= .returned (.tuple #[.pointer none,.bool false])∧Below w.heap.size w w':=
 (columnsOf_any a n c U w h hn).mono fun e' w' q=>by
   obtain⟨q1,(⟨q2,_⟩|⟨_,q2⟩)⟩:=q
   · rw[e] at q2;cases q2
   · exact⟨q2,q1⟩
theorem kSetAt {cb n k:Nat} {C:Nat→Nat→Int} {S:Nat→Value} {w:World} (h:Cs w cb n C S) (hk:k<n) (hn:n≤1048576) (x y:Int):
 Calls Tryz.prog 58 #[hdk cb k,vv x y] w fun e w'=>e= .returned (.tuple #[])∧Cs w' cb n (setC (setC C 4 k x) 5 k y) S∧Fr (Xc S) w w':=by
 have hset:=cset_map
 have l1:=h.lt
 have hkn:(k:Int)<(n:Int):=by omega
 obtain⟨g4,c4,e4,hc4,hv4,hf4,l4g,lc4⟩:=h.at (i:=4) (by omega) hk
 obtain⟨g5,c5,e5,hc5,hv5,hf5,l5g,lc5⟩:=h.at (i:=5) (by omega) hk
 have ne:g4≠g5:=fun q=>h.dis 4 5 (by omega) (by omega) (by omega) g4 (by rw[e4];rfl) (by rw[e5,q];rfl)
 go_enter Tryz.func58,Tryz.ntmps58
 go_upto_region 1 with fail
 refine wp_region_held_drew (S:=fun w'=>w'.cell? ⟨w.heap.size,0,none⟩=some (.int .i64 (k:Int))∧w'.cell? ⟨w.heap.size,1,none⟩=some (.pointer (some ⟨cb,0,none⟩))∧w'.cell? ⟨cb,4,none⟩=some (.slice (some ⟨g4,0,none⟩) n c4)∧w'.cell? ⟨cb,5,none⟩=some (.slice (some ⟨g5,0,none⟩) n c5)∧w'.cell? ⟨w.heap.size+1,0,none⟩=some (.int .i64 x)∧w'.cell? ⟨w.heap.size+1,1,none⟩=some (.int .i64 y)) (by kernel_rfl) ?_ (fun hHeld=> ?_)
 · (try dsimp only)
   (first|(go_simp;done)|(go_keep;done))
 refine tq 0 hHeld ?_
 refine tq 1 hHeld ?_
 refine tq 2 hHeld ?_
 refine tq 3 hHeld ?_
 refine tq 4 hHeld ?_
 refine tq 5 hHeld ?_
 refine tq 6 hHeld ?_
 refine tq 7 hHeld ?_
 refine tq 8 hHeld ?_
 refine tq 9 hHeld ?_
 refine tq 10 hHeld ?_
 refine tq 11 hHeld ?_
 refine tq 12 hHeld ?_
 refine tq 13 hHeld ?_
 refine tq 14 hHeld ?_
 refine tq 15 hHeld ?_
 refine tq 16 hHeld ?_
 refine tq 17 hHeld ?_
 refine tq 18 hHeld ?_
 (refine tc 19 fun K hK=> ?_;go_simp;refine tr hK (fun hHeld=> ?_);clear hK K)
 refine tq 20 hHeld ?_
 (refine tc 21 fun K hK=> ?_;go_simp;refine tr hK (fun hHeld=> ?_);clear hK K)
 refine wpAnyH_done (by kernel_rfl) ?_ _
 go_wp2_with fail
 go_end0
 have hE:Below ((w.setCell ⟨g4,k,none⟩ (.int .i64 x)).setCell ⟨g5,k,none⟩ (.int .i64 y)).heap.size ((w.setCell ⟨g4,k,none⟩ (.int .i64 x)).setCell ⟨g5,k,none⟩ (.int .i64 y)) ((((w.setCell ⟨g4,k,none⟩ (.int .i64 x)).setCell ⟨g5,k,none⟩ (.int .i64 y)).alloc (Obj.cells #[.int .i64 (k:Int),.pointer (some ⟨cb,0,none⟩)] 59)).alloc (Obj.cells #[.int .i64 x,.int .i64 y] 66)).drew:=bel_a
 exact⟨rfl,((h.set (i:=4) (by omega) hk e4 x).set (i:=5) (by omega) hk e5 y).below hE,(((Fr.refl (Xc S) w).trans (Fr.setCell (X:=Xc S) (p:=⟨g4,k,none⟩) ⟨4,by omega,by rw[e4];rfl⟩ (.int .i64 x))).trans (Fr.setCell (X:=Xc S) (p:=⟨g5,k,none⟩) ⟨5,by omega,by rw[e5];rfl⟩ (.int .i64 y))).trans (Fr.of_below hE)⟩
end Go.Proofs.YthajilkjfkppoaaGreatDoor
