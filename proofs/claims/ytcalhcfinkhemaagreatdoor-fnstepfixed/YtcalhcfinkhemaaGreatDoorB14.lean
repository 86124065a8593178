/- Texts of a proof. -/
import Derived.Test.YtcalhcfinkhemaaGreatDoorB4
import Derived.Test.YtcalhcfinkhemaaGreatDoorB9
import Derived.Test.YtcalhcfinkhemaaGreatDoorB7
import Derived.Test.YtcalhcfinkhemaaGreatDoorB5
import Derived.Deep.RegionHeld3
import Derived.Deep.DeepCutAuto
import Derived.Test.YtcalhcfinkhemaaGreatDoorB13
import Derived.Test.YtcalhcfinkhemaaGreatDoorB2
import Derived.Test.YtcalhcfinkhemaaGreatDoorB8
import Derived.Test.YtcalhcfinkhemaaGreatDoorB1
set_option maxHeartbeats 16000000
set_option maxRecDepth 20000
namespace Go.Proofs.YtcalhcfinkhemaaGreatDoor
open Go.RowKit
set_option linter.unusedVariables false
set_option linter.unusedSimpArgs false
structure TB (w wx:World) (V:Nat→Int) (m:Nat):Prop where
 inn:∀ j,j<12→wx.cell? ⟨w.heap.size,j,none⟩=some (.int .i64 (V j))
 out:∀ j,j<12→wx.cell? ⟨w.heap.size+1+1,j,none⟩=some (.int .i64 (if j<m then V j else 0))
 res:∀ j,j<12→wx.cell? ⟨w.heap.size+1,j,none⟩=some (.int .i64 0)
 nfo:∀ j,j<12→wx.frozen? ⟨w.heap.size+1+1,j,none⟩=false
 nfr:∀ j,j<12→wx.frozen? ⟨w.heap.size+1,j,none⟩=false
 bel:Below w.heap.size w wx
 big:w.heap.size+1+1<wx.heap.size
theorem TB.below {w wx w1:World} {V:Nat→Int} {m:Nat} (h:TB w wx V m) (hb:Below wx.heap.size wx w1):TB w w1 V m:=by
 have big:=h.big
 exact⟨fun j hj=>(hb.cell (by simp;omega)).trans (h.inn j hj),fun j hj=>(hb.cell (by simp;omega)).trans (h.out j hj),fun j hj=>(hb.cell (by simp;omega)).trans (h.res j hj),fun j hj=>(hb.frozen (by simp;omega)).trans (h.nfo j hj),fun j hj=>(hb.frozen (by simp;omega)).trans (h.nfr j hj),h.bel.trans (hb.mono (by omega)),Nat.lt_of_lt_of_le big hb.size⟩
theorem TB.step {w w1:World} {V:Nat→Int} {m:Nat} (h:TB w w1 V m) (hm:m<12):TB w (w1.setCell ⟨w.heap.size+1+1,m,none⟩ (.int .i64 (V m))) V (m+1):=by
 have big:=h.big
 refine⟨fun j hj=> ?_,fun j hj=> ?_,fun j hj=> ?_,fun j hj=> ?_,fun j hj=> ?_,?_,?_⟩
 · rw[cset_far (by simp;omega)];exact h.inn j hj
 · by_cases e:j=m
   · subst e;rw[cset_same (h.out j hj),if_pos (by omega)]
   · rw[cset_other (by intro q;injection q with q1 q2;exact e q2.symm),h.out j hj]
     by_cases q:j<m
     · rw[if_pos q,if_pos (by omega)]
     · rw[if_neg q,if_neg (by omega)]
 · rw[cset_far (by simp)];exact h.res j hj
 · rw[World.frozen?_setCell];exact h.nfo j hj
 · rw[World.frozen?_setCell];exact h.nfr j hj
 · exact h.bel.setCell (by simp;omega) _
 · simpa using big
def tcT (k1 g1 h1 x y k2 g2 h2 u v:Int):(Int×Int×Int)×Bool:=
 if k1=1 then (if k2=1 then rdT (u-x) (v-y) (g1+g2) else tnT (mxT (u-g2) (v-h2) (u+g2) (v+h2) x y g1))
 else (if k2=1 then mxT (x-g1) (y-h1) (x+g1) (y+h1) u v g2 else bxT (x-g1) (y-h1) (x+g1) (y+h1) (u-g2) (v-h2) (u+g2) (v+h2))
def toT (k1 g1 h1 x y k2 g2 h2 u v:Int):(Int×Int×Int)×Bool:=if (shB k1 g1 h1&&(shB k2 g2 h2&&(inB 2560000 x y&&inB 2560000 u v)))=true then tcT k1 g1 h1 x y k2 g2 h2 u v else ((0,0,0),false)
theorem shB_kinds {k g h:Int} (e:shB k g h=true):(k=1∧h=0∧1≤g∧g≤25600)∨(k=2∧1≤g∧g≤25600∧1≤h∧h≤25600):=by
 unfold shB rdB bxB at e;simp only[Bool.or_eq_true,decide_eq_true_eq] at e;omega
theorem sBodiesOk_any (a:Option Addr) (n c:Nat) (U:Nat→Int) (w:World) (h:Flat w a (n*12) U) (hn:n≤1048576):
 Calls Tryz.prog 18 #[.slice a n c] w fun e w'=>e= .returned (.bool (bodsB n U))∧Below w.heap.size w w':=by
 have hset:=cset_map
 go_enter Tryz.func18,Tryz.ntmps18
 go_wp2
 go_loopw [3] (fun i wr=>∃ k:Nat,k≤n∧i= .int .i64 (k:Int)∧Below w.heap.size w wr∧allBB U k=true) (fun i _=>n-(intOf i).toNat)
 case atStart=>exact⟨0,Nat.zero_le _,rfl,Below.refl _ _,rfl⟩
 case round=>
  obtain⟨k,hk,rfl,hB,hall0⟩:=hrel
  have hall:Shut (allBB U k=true):=hall0
  clear hall0
  by_cases hlt:k<n
  · have hkn:(k:Int)<(n:Int):=by omega
    obtain⟨b,o,rfl,hbl,hc⟩:=(h.below hB) (by omega)
    have c0:=hc (k*12) (by omega)
    have c1:=hc (k*12+1) (by omega)
    have c2:=hc (k*12+2) (by omega)
    have c3:=hc (k*12+3) (by omega)
    have c4:=hc (k*12+4) (by omega)
    have c5:=hc (k*12+5) (by omega)
    have c6:=hc (k*12+6) (by omega)
    have c7:=hc (k*12+7) (by omega)
    have c8:=hc (k*12+8) (by omega)
    have c9:=hc (k*12+9) (by omega)
    have c10:=hc (k*12+10) (by omega)
    have c11:=hc (k*12+11) (by omega)
    simp only[←Nat.add_assoc] at c0 c1 c2 c3 c4 c5 c6 c7 c8 c9 c10 c11
    go_upto_region 4 with fail
    cases hi:bodyB (fun j=>U (k*12+j)) with
    | false=>
      have hno:Shut (stepBB U k=false):=by show stepBB U k=false;rw[stepBB,hi];rfl
      clear hc
      refine wp_region_held_drew (S:=fun w'=>w'.cell? ⟨b,o+k*12,none⟩=some (.int .i64 (U (k*12)))∧w'.cell? ⟨b,o+k*12+1,none⟩=some (.int .i64 (U (k*12+1)))∧w'.cell? ⟨b,o+k*12+2,none⟩=some (.int .i64 (U (k*12+2)))∧w'.cell? ⟨b,o+k*12+3,none⟩=some (.int .i64 (U (k*12+3)))∧w'.cell? ⟨b,o+k*12+4,none⟩=some (.int .i64 (U (k*12+4)))∧w'.cell? ⟨b,o+k*12+5,none⟩=some (.int .i64 (U (k*12+5)))∧w'.cell? ⟨b,o+k*12+6,none⟩=some (.int .i64 (U (k*12+6)))∧w'.cell? ⟨b,o+k*12+7,none⟩=some (.int .i64 (U (k*12+7)))∧w'.cell? ⟨b,o+k*12+8,none⟩=some (.int .i64 (U (k*12+8)))∧w'.cell? ⟨b,o+k*12+9,none⟩=some (.int .i64 (U (k*12+9)))∧w'.cell? ⟨b,o+k*12+10,none⟩=some (.int .i64 (U (k*12+10)))∧w'.cell? ⟨b,o+k*12+11,none⟩=some (.int .i64 (U (k*12+11)))) (by kernel_rfl) ?_ (fun hHeld=> ?_)
      · (try dsimp only)
        (first|(go_simp;done)|(go_keep;done))
      refine tq 0 hHeld ?_
      refine tq 1 hHeld ?_
      refine tq 2 hHeld ?_
      refine tq 3 hHeld ?_
      (refine tc 4 fun K hK=> ?_;go_simp;(go_at_call 36;refine(sBodyOk_q (fun j=>U (k*12+j)) _ _ (by exact hi)).mono ?_;rintro e w2 ⟨rfl,hb2⟩;obtain⟨hc2,hf2⟩:=bcell hb2;have hz2:=hb2.size;(try simp only[zz] at hc2 hf2 hz2);have hk3:=fun o=>hc2 b o (by omega);clear hc2 hf2);(try go_wp2_with fail);refine tr hK (fun hHeld=> ?_);clear hK K)
      refine tq 5 hHeld ?_
      refine tq 6 hHeld ?_
      refine tn 7 hHeld ?_
      refine tn 8 hHeld ?_
      refine tn 9 hHeld ?_
      refine tn 10 hHeld ?_
      refine tn 11 hHeld ?_
      refine tn 12 hHeld ?_
      refine tn 13 hHeld ?_
      refine tn 14 hHeld ?_
      refine tn 15 hHeld ?_
      refine tn 16 hHeld ?_
      refine tn 17 hHeld ?_
      refine tn 18 hHeld ?_
      refine tn 19 hHeld ?_
      refine tn 20 hHeld ?_
      refine tn 21 hHeld ?_
      refine tn 22 hHeld ?_
      refine tq 23 hHeld ?_
      refine wpAnyH_done (by kernel_rfl) ?_ _
      go_wp2_with fail
      go_ret
      exact⟨by rw[bodsB,allBB_no hno.out n hlt,Bool.and_false];rfl,hB.trans (hb2.ofDr.mono hB.size)⟩
    | true=>
      by_cases hk0:0<k
      · have hd0:decide (0<k)=true:=decide_eq_true hk0
        obtain⟨j,hj⟩:∃ j,j+1=k:=⟨k-1,by omega⟩
        have hj':(k:Int)-1=(j:Int):=by omega
        have hjn:j<n:=by omega
        have hwj:IntKind.i64.wrap (j:Int)=(j:Int):=i64w (by omega)
        have HJ:Shut (j+1=k):=hj
        clear hj
        have p0:=hc (j*12) (by omega)
        clear hc
        by_cases hge:U (j*12)<U (k*12)
        · have hdg:decide (U (k*12)≤U (j*12))=false:=decide_eq_false (by omega)
          have hyes:Shut (stepBB U k=true):=by show stepBB U k=true;rw[stepBB,hi,show k-1=j from by have:=HJ.out;omega];simp[hge]
          refine wp_region_held_drew (S:=fun w'=>w'.cell? ⟨b,o+k*12,none⟩=some (.int .i64 (U (k*12)))∧w'.cell? ⟨b,o+k*12+1,none⟩=some (.int .i64 (U (k*12+1)))∧w'.cell? ⟨b,o+k*12+2,none⟩=some (.int .i64 (U (k*12+2)))∧w'.cell? ⟨b,o+k*12+3,none⟩=some (.int .i64 (U (k*12+3)))∧w'.cell? ⟨b,o+k*12+4,none⟩=some (.int .i64 (U (k*12+4)))∧w'.cell? ⟨b,o+k*12+5,none⟩=some (.int .i64 (U (k*12+5)))∧w'.cell? ⟨b,o+k*12+6,none⟩=some (.int .i64 (U (k*12+6)))∧w'.cell? ⟨b,o+k*12+7,none⟩=some (.int .i64 (U (k*12+7)))∧w'.cell? ⟨b,o+k*12+8,none⟩=some (.int .i64 (U (k*12+8)))∧w'.cell? ⟨b,o+k*12+9,none⟩=some (.int .i64 (U (k*12+9)))∧w'.cell? ⟨b,o+k*12+10,none⟩=some (.int .i64 (U (k*12+10)))∧w'.cell? ⟨b,o+k*12+11,none⟩=some (.int .i64 (U (k*12+11)))∧w'.cell? ⟨b,o+j*12,none⟩=some (.int .i64 (U (j*12)))) (by kernel_rfl) ?_ (fun hHeld=> ?_)
          · (try dsimp only)
            (first|(go_simp;done)|(go_keep;done))
          refine tq 0 hHeld ?_
          refine tq 1 hHeld ?_
          refine tq 2 hHeld ?_
          refine tq 3 hHeld ?_
          (refine tc 4 fun K hK=> ?_;go_simp;(go_at_call 36;refine(sBodyOk_q (fun j=>U (k*12+j)) _ _ (by exact hi)).mono ?_;rintro e w2 ⟨rfl,hb2⟩;obtain⟨hc2,hf2⟩:=bcell hb2;have hz2:=hb2.size;(try simp only[zz] at hc2 hf2 hz2);have hk3:=fun o=>hc2 b o (by omega);clear hc2 hf2);(try go_wp2_with fail);refine tr hK (fun hHeld=> ?_);clear hK K)
          refine tq 5 hHeld ?_
          refine tq 6 hHeld ?_
          refine tq 7 hHeld ?_
          refine tq 8 hHeld ?_
          refine tq 9 hHeld ?_
          refine tq 10 hHeld ?_
          refine tq 11 hHeld ?_
          refine tq 12 hHeld ?_
          refine tq 13 hHeld ?_
          refine tq 14 hHeld ?_
          refine tq 15 hHeld ?_
          refine tq 16 hHeld ?_
          refine tq 17 hHeld ?_
          refine tq 18 hHeld ?_
          refine tq 19 hHeld ?_
          refine tq 20 hHeld ?_
          refine tq 21 hHeld ?_
          refine tq 22 hHeld ?_
          refine tq 23 hHeld ?_
          refine wpAnyH_done (by kernel_rfl) ?_ _
          go_wp2_with fail
          go_roundw
          case rel=>exact⟨k+1,by omega,by go_num,hB.trans (hb2.ofDr.mono hB.size),by rw[allBB,hall.out,hyes.out];rfl⟩
          case measure=>simp[intOf];omega
        · have hdg:decide (U (k*12)≤U (j*12))=true:=decide_eq_true (by omega)
          have hno:Shut (stepBB U k=false):=by show stepBB U k=false;rw[stepBB,show k-1=j from by have:=HJ.out;omega];have:=HJ.out;simp[hge];omega
          refine wp_region_held_drew (S:=fun w'=>w'.cell? ⟨b,o+k*12,none⟩=some (.int .i64 (U (k*12)))∧w'.cell? ⟨b,o+k*12+1,none⟩=some (.int .i64 (U (k*12+1)))∧w'.cell? ⟨b,o+k*12+2,none⟩=some (.int .i64 (U (k*12+2)))∧w'.cell? ⟨b,o+k*12+3,none⟩=some (.int .i64 (U (k*12+3)))∧w'.cell? ⟨b,o+k*12+4,none⟩=some (.int .i64 (U (k*12+4)))∧w'.cell? ⟨b,o+k*12+5,none⟩=some (.int .i64 (U (k*12+5)))∧w'.cell? ⟨b,o+k*12+6,none⟩=some (.int .i64 (U (k*12+6)))∧w'.cell? ⟨b,o+k*12+7,none⟩=some (.int .i64 (U (k*12+7)))∧w'.cell? ⟨b,o+k*12+8,none⟩=some (.int .i64 (U (k*12+8)))∧w'.cell? ⟨b,o+k*12+9,none⟩=some (.int .i64 (U (k*12+9)))∧w'.cell? ⟨b,o+k*12+10,none⟩=some (.int .i64 (U (k*12+10)))∧w'.cell? ⟨b,o+k*12+11,none⟩=some (.int .i64 (U (k*12+11)))∧w'.cell? ⟨b,o+j*12,none⟩=some (.int .i64 (U (j*12)))) (by kernel_rfl) ?_ (fun hHeld=> ?_)
          · (try dsimp only)
            (first|(go_simp;done)|(go_keep;done))
          refine tq 0 hHeld ?_
          refine tq 1 hHeld ?_
          refine tq 2 hHeld ?_
          refine tq 3 hHeld ?_
          (refine tc 4 fun K hK=> ?_;go_simp;(go_at_call 36;refine(sBodyOk_q (fun j=>U (k*12+j)) _ _ (by exact hi)).mono ?_;rintro e w2 ⟨rfl,hb2⟩;obtain⟨hc2,hf2⟩:=bcell hb2;have hz2:=hb2.size;(try simp only[zz] at hc2 hf2 hz2);have hk3:=fun o=>hc2 b o (by omega);clear hc2 hf2);(try go_wp2_with fail);refine tr hK (fun hHeld=> ?_);clear hK K)
          refine tq 5 hHeld ?_
          refine tq 6 hHeld ?_
          refine tq 7 hHeld ?_
          refine tq 8 hHeld ?_
          refine tq 9 hHeld ?_
          refine tq 10 hHeld ?_
          refine tq 11 hHeld ?_
          refine tq 12 hHeld ?_
          refine tq 13 hHeld ?_
          refine tq 14 hHeld ?_
          refine tq 15 hHeld ?_
          refine tq 16 hHeld ?_
          refine tq 17 hHeld ?_
          refine tq 18 hHeld ?_
          refine tq 19 hHeld ?_
          refine tq 20 hHeld ?_
          refine tq 21 hHeld ?_
          refine tq 22 hHeld ?_
          refine tq 23 hHeld ?_
          refine wpAnyH_done (by kernel_rfl) ?_ _
          go_wp2_with fail
          go_ret
          exact⟨by rw[bodsB,allBB_no hno.out n hlt,Bool.and_false];rfl,hB.trans (hb2.ofDr.mono hB.size)⟩
      · have hd0:decide (0<k)=false:=decide_eq_false hk0
        have HK:Shut (k=0):=(by omega:k=0)
        clear hk0 hc
        have hyes:Shut (stepBB U k=true):=by show stepBB U k=true;rw[stepBB,hi,HK.out];rfl
        refine wp_region_held_drew (S:=fun w'=>w'.cell? ⟨b,o+k*12,none⟩=some (.int .i64 (U (k*12)))∧w'.cell? ⟨b,o+k*12+1,none⟩=some (.int .i64 (U (k*12+1)))∧w'.cell? ⟨b,o+k*12+2,none⟩=some (.int .i64 (U (k*12+2)))∧w'.cell? ⟨b,o+k*12+3,none⟩=some (.int .i64 (U (k*12+3)))∧w'.cell? ⟨b,o+k*12+4,none⟩=some (.int .i64 (U (k*12+4)))∧w'.cell? ⟨b,o+k*12+5,none⟩=some (.int .i64 (U (k*12+5)))∧w'.cell? ⟨b,o+k*12+6,none⟩=some (.int .i64 (U (k*12+6)))∧w'.cell? ⟨b,o+k*12+7,none⟩=some (.int .i64 (U (k*12+7)))∧w'.cell? ⟨b,o+k*12+8,none⟩=some (.int .i64 (U (k*12+8)))∧w'.cell? ⟨b,o+k*12+9,none⟩=some (.int .i64 (U (k*12+9)))∧w'.cell? ⟨b,o+k*12+10,none⟩=some (.int .i64 (U (k*12+10)))∧w'.cell? ⟨b,o+k*12+11,none⟩=some (.int .i64 (U (k*12+11)))) (by kernel_rfl) ?_ (fun hHeld=> ?_)
        · (try dsimp only)
          (first|(go_simp;done)|(go_keep;done))
        refine tq 0 hHeld ?_
        refine tq 1 hHeld ?_
        refine tq 2 hHeld ?_
        refine tq 3 hHeld ?_
        (refine tc 4 fun K hK=> ?_;go_simp;(go_at_call 36;refine(sBodyOk_q (fun j=>U (k*12+j)) _ _ (by exact hi)).mono ?_;rintro e w2 ⟨rfl,hb2⟩;obtain⟨hc2,hf2⟩:=bcell hb2;have hz2:=hb2.size;(try simp only[zz] at hc2 hf2 hz2);have hk3:=fun o=>hc2 b o (by omega);clear hc2 hf2);(try go_wp2_with fail);refine tr hK (fun hHeld=> ?_);clear hK K)
        refine tq 5 hHeld ?_
        refine tq 6 hHeld ?_
        refine tq 7 hHeld ?_
        refine tq 8 hHeld ?_
        refine tq 9 hHeld ?_
        refine tn 10 hHeld ?_
        refine tn 11 hHeld ?_
        refine tn 12 hHeld ?_
        refine tn 13 hHeld ?_
        refine tn 14 hHeld ?_
        refine tn 15 hHeld ?_
        refine tn 16 hHeld ?_
        refine tn 17 hHeld ?_
        refine tn 18 hHeld ?_
        refine tn 19 hHeld ?_
        refine tn 20 hHeld ?_
        refine tn 21 hHeld ?_
        refine tq 22 hHeld ?_
        refine tq 23 hHeld ?_
        refine wpAnyH_done (by kernel_rfl) ?_ _
        go_wp2_with fail
        go_roundw
        case rel=>exact⟨k+1,by omega,by go_num,hB.trans (hb2.ofDr.mono hB.size),by rw[allBB,hall.out,hyes.out];rfl⟩
        case measure=>simp[intOf];omega
  · obtain rfl:k=n:=by omega
    by_cases h12:k≤12
    · have h12':(k:Int)≤12:=by omega
      go_wp2
      go_ret
      exact⟨by rw[bodsB,hall.out,decide_eq_true h12];rfl,hB⟩
    · have h12':¬ (k:Int)≤12:=by omega
      go_wp2
      go_ret
      exact⟨by rw[bodsB,decide_eq_false h12];rfl,hB⟩
theorem sBodiesOk_q (a:Option Addr) (n c:Nat) (U:Nat→Int) (b:Bool) (w:World) (h:Flat w a (n*12) U) (hn:n≤1048576) (e:bodsB n U=b):
 Calls Tryz.prog 18 #[.slice a n c] w fun e w'=>e= .returned (.bool b)∧Below w.heap.size w w':=by subst e;exact sBodiesOk_any a n c U w h hn
theorem columnsOf_ok (a:Option Addr) (n c:Nat) (U:Nat→Int) (w:World) (h:Flat w a (n*12) U) (hn:n≤1048576) (e:bodsB n U=true):
 Calls Tryz.prog 27 #[.slice a n c] w fun e w'=>∃ cb S,e= .returned (.tuple #[.pointer (some ⟨cb,0,none⟩),.bool true])∧w.heap.size≤cb∧Cs w' cb n (colOf U) S∧Below w.heap.size w w':=
 (columnsOf_any a n c U w h hn).mono fun e' w' q=>by
   obtain⟨q1,(⟨_,cb,S,q2,q3,q4⟩|⟨q2,_⟩)⟩:=q
   · exact⟨cb,S,q2,q3,q4,q1⟩
   · rw[e] at q2;cases q2
theorem columnsOf_no (a:Option Addr) (n c:Nat) (U:Nat→Int) (w:World) (h:Flat w a (n*12) U) (hn:n≤1048576) (e:bodsB n U=false):
 Calls Tryz.prog 27 #[.slice a n c] w fun e w'=>e= .returned (.tuple #[.pointer none,.bool false])∧Below w.heap.size w w':=
 (columnsOf_any a n c U w h hn).mono fun e' w' q=>by
   obtain⟨q1,(⟨q2,_⟩|⟨_,q2⟩)⟩:=q
   · rw[e] at q2;cases q2
   · exact⟨q2,q1⟩
def Dn (x:Int):Prop:= -1099511627776≤x∧x≤1099511627776
theorem RB.size {w0 w:World} {rb p:Nat} (h:RB w0 w rb p):w0.heap.size≤w.heap.size:=by
 have:=(h.old (B:=0) (Nat.zero_le _) (Nat.zero_le _)).size
 exact this
def Bn (x:Int):Prop:= -1100000000≤x∧x≤1100000000
def RS (w:World) (rb p:Nat):Prop:=∃ q,q≤p∧Rd w rb q
theorem RS.of {w0 w:World} {rb p:Nat} (h:RB w0 w rb p):RS w rb p:=by
 obtain⟨q,a,b,c⟩:=h;exact⟨q,a,b⟩
theorem RS.rb {w:World} {rb p:Nat} (h:RS w rb p):RB w w rb p:=by
 obtain⟨q,a,b⟩:=h;exact⟨q,a,b,But.refl _ _⟩
theorem RS.mono {w:World} {rb p p':Nat} (h:RS w rb p) (k:p≤p'):RS w rb p':=by
 obtain⟨q,a,b⟩:=h;exact⟨q,by omega,b⟩
theorem RS.up {w0 w:World} {rb p p':Nat} (h:RB w0 w rb p) (k:p≤p'):RS w rb p':=(RS.of h).mono k
theorem RB.but {w0 w:World} {rb p:Nat} (h:RB w0 w rb p):But rb w0 w:=by
 obtain⟨q,a,b,c⟩:=h;exact c
theorem RB.mk {w0 w:World} {rb p:Nat} (h:But rb w0 w) (k:RS w rb p):RB w0 w rb p:=by
 obtain⟨q,a,b⟩:=k;exact⟨q,a,b,h⟩
theorem But.setNew {rb:Nat} {a w:World} (h:But rb a w) {x:Addr} (hx:a.heap.size≤x.block) (u:Value):But rb a (w.setCell x u):=
 ⟨h.os,h.tape,h.output,by simpa [World.setCell] using h.size,fun k hk hn=>(Below.heap_setCell _ _ _ _ (by omega)).trans (h.block k hk hn)⟩
theorem But.drew {rb:Nat} {a w:World} (h:But rb a w):But rb a w.drew:=⟨h.os,h.tape,h.output,h.size,h.block⟩
theorem RS.lt {w:World} {rb p:Nat} (h:RS w rb p):rb<w.heap.size:=h.rb.lt
theorem RS.alloc {w:World} {rb p:Nat} (h:RS w rb p) (o:Obj):RS (w.alloc o) rb p:=RS.of (h.rb.alloc o)
theorem RS.setNew {w:World} {rb p:Nat} (h:RS w rb p) {a:Addr} (ha:rb<a.block) (v:Value):RS (w.setCell a v) rb p:=by
 obtain⟨q,k,b⟩:=h;exact⟨q,k,b.setNew ha v⟩
theorem RS.drewN {w:World} {rb p:Nat} (h:RS w rb p) (n:Nat):RS (w.drewN n) rb p:=h
theorem RS.drew {w:World} {rb p:Nat} (h:RS w rb p):RS w.drew rb p:=h
theorem RB.drewN {w0 w:World} {rb p:Nat} (h:RB w0 w rb p) (n:Nat):RB w0 (w.drewN n) rb p:=by
 obtain⟨q,a,b,c⟩:=h;exact⟨q,a,b,c.drewN n⟩
theorem RB.drew {w0 w:World} {rb p:Nat} (h:RB w0 w rb p):RB w0 w.drew rb p:=by
 obtain⟨q,a,b,c⟩:=h;exact⟨q,a,b,c.drewN 1⟩
theorem RB.trans {a b c:World} {rb p p':Nat} (h:RB a b rb p) (k:RB b c rb p'):RB a c rb p':=by
 obtain⟨q,_,_,x⟩:=h
 obtain⟨q',y,z,u⟩:=k
 exact⟨q',y,z,x.trans u⟩
theorem pick_s (rb p:Nat) (n:Int) (w:World) (hr:RS w rb p) (hp:p≤999000) (h0:1≤n) (h1:n≤4000000000):
 Calls Tryz.prog 37 #[.pointer (some ⟨rb,0,none⟩),.int .i64 n] w fun e w'=>∃ v:Int,e= .returned (.int .i64 v)∧0≤v∧v<n∧RB w w' rb (p+1):=
 pick_rb w rb p n w hr.rb hp h0 h1
theorem one_s (lo hi:Int) (rb p len cap:Nat) (cs:Array Value) (t:TypeId) (w:World) (hr:RS w rb p) (hp:p≤999000) (hcs:AllBd lo hi cs.toList) (hl:cs.size=len) (h0:1≤len) (h1:len≤100):
 Calls Tryz.prog 24 #[.pointer (some ⟨rb,0,none⟩),.slice (some ⟨w.heap.size,0,none⟩) len cap] (w.alloc (.cells cs t)) fun e w'=>∃ v:Int,e= .returned (.int .i64 v)∧lo≤v∧v≤hi∧RB w w' rb (p+1):=
 one_rb lo hi w rb p len cap cs t w hr.rb hp hcs hl h0 h1
theorem one_g (lo hi:Int) (rb p lb len cap:Nat) (xs:List Int) (w:World) (hr:RS w rb p) (hp:p≤999000) (hx:∀ x∈xs,lo≤x∧x≤hi) (hl:xs.length=len) (h0:1≤len) (h1:len≤100) (hb:lb≠rb) (hc:∀ i,i<len→w.cell? ⟨lb,i,none⟩=some (.int .i64 (xs.getD i 0))):
 Calls Tryz.prog 24 #[.pointer (some ⟨rb,0,none⟩),.slice (some ⟨lb,0,none⟩) len cap] w fun e w'=>∃ v:Int,e= .returned (.int .i64 v)∧lo≤v∧v≤hi∧RB w w' rb (p+1):=by
 obtain⟨q,hq,hd⟩:=hr
 refine(one_any rb q lb len cap xs w hd (by omega) hl h0 h1 hb hc).mono ?_
 rintro e w' ⟨v,rfl,hv,hr',hb'⟩
 obtain⟨v0,v1⟩:=hx v hv
 exact⟨v,rfl,v0,v1,q+1,by omega,hr',hb'⟩
def Bm (x:Int):Prop:= -10000≤x∧x≤10000
theorem Bm.mk {x:Int} (h: -10000≤x∧x≤10000):Bm x:=h
theorem Bm.bn {x:Int} (h:Bm x):Bn x:=by unfold Bm Bn at*;omega
theorem Bn.mk {x:Int} (h: -1100000000≤x∧x≤1100000000):Bn x:=h
theorem l11Place_s (rb p:Nat) (w:World) (hs0:RS w rb p) (hp:p≤997900):
 Calls Tryz.prog 102 #[.pointer (some ⟨rb,0,none⟩)] w fun e w'=>∃ x y:Int,e= .returned (vv x y)∧(Bm x∧Bm y)∧RB w w' rb (p+60):=by
 have hlt:=hs0.lt
 have hne:(w.heap.size=rb)=False:=eq_false (by omega)
 have hset:=cset_map
 go_enter Tryz.func102,Tryz.ntmps102
 go_wp2_with (first
  |(have _:=hr1;go_at_call 37;refine(pick_s rb (p+20) _ _ (by repeat(first|(with_reducible apply RS.setNew;rotate_left;(first|omega|(simp only[zz];omega)))|with_reducible apply RS.alloc|(with_reducible apply RS.up hr1;omega)|(with_reducible apply RS.mono hs0;omega)|with_reducible apply RS.drew|with_reducible apply RS.drewN)) (by omega) (by omega) (by omega)).mono ?_;rintro e w2 ⟨v2,rfl,va2,vb2,hr2⟩;obtain⟨hc2,hf2⟩:=RB.cells hr2;have hz2:=RB.size hr2;(try simp only[zz] at hc2 hf2 hz2);have hq2x0:w.heap.size<w2.heap.size:=(by omega);have ha2x0:(w2.heap.size=w.heap.size)=False:=eq_false (by omega);have hb2x0:(w.heap.size=w2.heap.size)=False:=eq_false (by omega);have he2x0:(w.heap.size=rb)=False:=eq_false (by omega);have hk2x0:=fun o=>hc2 (w.heap.size) o (by omega) (by omega);have hj2x0:=fun o=>hf2 (w.heap.size) o (by omega) (by omega))
  |(go_at_call 37;refine(pick_s rb (p+10) _ _ (by repeat(first|(with_reducible apply RS.setNew;rotate_left;(first|omega|(simp only[zz];omega)))|with_reducible apply RS.alloc|(with_reducible apply RS.mono hs0;omega)|with_reducible apply RS.drew|with_reducible apply RS.drewN)) (by omega) (by omega) (by omega)).mono ?_;rintro e w1 ⟨v1,rfl,va1,vb1,hr1⟩;obtain⟨hc1,hf1⟩:=RB.cells hr1;have hz1:=RB.size hr1;(try simp only[zz] at hc1 hf1 hz1);have hq1x0:w.heap.size<w1.heap.size:=(by omega);have ha1x0:(w1.heap.size=w.heap.size)=False:=eq_false (by omega);have hb1x0:(w.heap.size=w1.heap.size)=False:=eq_false (by omega);have he1x0:(w.heap.size=rb)=False:=eq_false (by omega);have hk1x0:=fun o=>hc1 (w.heap.size) o (by omega) (by omega);have hj1x0:=fun o=>hf1 (w.heap.size) o (by omega) (by omega)))
 exact bodyPost_ret (v:=vv (v1*8-1024) (v2*8-1024)) (by simp[results,Tryz.results102,go_sem, *]) rfl ⟨_,_,rfl,⟨Bm.mk ⟨by omega,by omega⟩,Bm.mk ⟨by omega,by omega⟩⟩,RB.mk (by repeat(first|(with_reducible apply But.setNew;rotate_left;(first|omega|(simp only[zz];omega)))|with_reducible apply But.alloc|with_reducible apply But.trans (k:=RB.but hr2)|with_reducible apply But.trans (k:=RB.but hr1)|with_reducible apply But.refl|with_reducible apply But.drewN|with_reducible apply But.drew)) (by repeat(first|(with_reducible apply RS.setNew;rotate_left;(first|omega|(simp only[zz];omega)))|with_reducible apply RS.alloc|(with_reducible apply RS.up hr2;omega)|(with_reducible apply RS.up hr1;omega)|(with_reducible apply RS.mono hs0;omega)|with_reducible apply RS.drew|with_reducible apply RS.drewN))⟩
theorem l11Shape_s (rb p:Nat) (w:World) (hs0:RS w rb p) (hp:p≤997900):
 Calls Tryz.prog 101 #[.pointer (some ⟨rb,0,none⟩)] w fun e w'=>∃ k g h:Int,e= .returned (s3 k g h)∧(Bn k∧Bn g∧Bn h)∧RB w w' rb (p+60):=by
 have hlt:=hs0.lt
 have hne:(w.heap.size=rb)=False:=eq_false (by omega)
 have hset:=cset_map
 go_enter Tryz.func101,Tryz.ntmps101
 go_wp2_with (first
  |(have _:=hr3;go_at_call 37;refine(pick_s rb (p+40) _ _ (by repeat(first|(with_reducible apply RS.setNew;rotate_left;(first|omega|(simp only[zz];omega)))|with_reducible apply RS.alloc|(with_reducible apply RS.up hr3;omega)|(with_reducible apply RS.mono hs0;omega)|with_reducible apply RS.drew|with_reducible apply RS.drewN)) (by omega) (by omega) (by omega)).mono ?_;rintro e w4 ⟨v4,rfl,va4,vb4,hr4⟩;obtain⟨hc4,hf4⟩:=RB.cells hr4;have hz4:=RB.size hr4;(try simp only[zz] at hc4 hf4 hz4);have hq4x0:w.heap.size<w4.heap.size:=(by omega);have ha4x0:(w4.heap.size=w.heap.size)=False:=eq_false (by omega);have hb4x0:(w.heap.size=w4.heap.size)=False:=eq_false (by omega);have he4x0:(w.heap.size=rb)=False:=eq_false (by omega);have hk4x0:=fun o=>hc4 (w.heap.size) o (by omega) (by omega);have hj4x0:=fun o=>hf4 (w.heap.size) o (by omega) (by omega))
  |(have _:=hr2;go_at_call 37;refine(pick_s rb (p+30) _ _ (by repeat(first|(with_reducible apply RS.setNew;rotate_left;(first|omega|(simp only[zz];omega)))|with_reducible apply RS.alloc|(with_reducible apply RS.up hr2;omega)|(with_reducible apply RS.mono hs0;omega)|with_reducible apply RS.drew|with_reducible apply RS.drewN)) (by omega) (by omega) (by omega)).mono ?_;rintro e w3 ⟨v3,rfl,va3,vb3,hr3⟩;obtain⟨hc3,hf3⟩:=RB.cells hr3;have hz3:=RB.size hr3;(try simp only[zz] at hc3 hf3 hz3);have hq3x0:w.heap.size<w3.heap.size:=(by omega);have ha3x0:(w3.heap.size=w.heap.size)=False:=eq_false (by omega);have hb3x0:(w.heap.size=w3.heap.size)=False:=eq_false (by omega);have he3x0:(w.heap.size=rb)=False:=eq_false (by omega);have hk3x0:=fun o=>hc3 (w.heap.size) o (by omega) (by omega);have hj3x0:=fun o=>hf3 (w.heap.size) o (by omega) (by omega))
  |(go_at_call 37;refine(pick_s rb (p+10) _ _ (by repeat(first|(with_reducible apply RS.setNew;rotate_left;(first|omega|(simp only[zz];omega)))|with_reducible apply RS.alloc|(with_reducible apply RS.mono hs0;omega)|with_reducible apply RS.drew|with_reducible apply RS.drewN)) (by omega) (by omega) (by omega)).mono ?_;rintro e w1 ⟨v1,rfl,va1,vb1,hr1⟩;obtain⟨hc1,hf1⟩:=RB.cells hr1;have hz1:=RB.size hr1;(try simp only[zz] at hc1 hf1 hz1);have hq1x0:w.heap.size<w1.heap.size:=(by omega);have ha1x0:(w1.heap.size=w.heap.size)=False:=eq_false (by omega);have hb1x0:(w.heap.size=w1.heap.size)=False:=eq_false (by omega);have he1x0:(w.heap.size=rb)=False:=eq_false (by omega);have hk1x0:=fun o=>hc1 (w.heap.size) o (by omega) (by omega);have hj1x0:=fun o=>hf1 (w.heap.size) o (by omega) (by omega))
  |(have _:=hr4;go_at_call 24;refine(one_s (1) 1000 rb (p+50) _ _ _ _ _ (by repeat(first|(with_reducible apply RS.setNew;rotate_left;(first|omega|(simp only[zz];omega)))|with_reducible apply RS.alloc|(with_reducible apply RS.up hr4;omega)|(with_reducible apply RS.mono hs0;omega)|with_reducible apply RS.drew|with_reducible apply RS.drewN)) (by omega) (by repeat(first|exact AllBd.nil|refine AllBd.cons (by omega) (by omega) ?_)) (by rfl) (by omega) (by omega)).mono ?_;rintro e w5 ⟨v5,rfl,va5,vb5,hr5⟩;obtain⟨hc5,hf5⟩:=RB.cells hr5;have hz5:=RB.size hr5;(try simp only[zz] at hc5 hf5 hz5);have hq5x0:w.heap.size<w5.heap.size:=(by omega);have ha5x0:(w5.heap.size=w.heap.size)=False:=eq_false (by omega);have hb5x0:(w.heap.size=w5.heap.size)=False:=eq_false (by omega);have he5x0:(w.heap.size=rb)=False:=eq_false (by omega);have hk5x0:=fun o=>hc5 (w.heap.size) o (by omega) (by omega);have hj5x0:=fun o=>hf5 (w.heap.size) o (by omega) (by omega))
  |(have _:=hr1;go_at_call 24;refine(one_s (1) 1000 rb (p+20) _ _ _ _ _ (by repeat(first|(with_reducible apply RS.setNew;rotate_left;(first|omega|(simp only[zz];omega)))|with_reducible apply RS.alloc|(with_reducible apply RS.up hr1;omega)|(with_reducible apply RS.mono hs0;omega)|with_reducible apply RS.drew|with_reducible apply RS.drewN)) (by omega) (by repeat(first|exact AllBd.nil|refine AllBd.cons (by omega) (by omega) ?_)) (by rfl) (by omega) (by omega)).mono ?_;rintro e w2 ⟨v2,rfl,va2,vb2,hr2⟩;obtain⟨hc2,hf2⟩:=RB.cells hr2;have hz2:=RB.size hr2;(try simp only[zz] at hc2 hf2 hz2);have hq2x0:w.heap.size<w2.heap.size:=(by omega);have ha2x0:(w2.heap.size=w.heap.size)=False:=eq_false (by omega);have hb2x0:(w.heap.size=w2.heap.size)=False:=eq_false (by omega);have he2x0:(w.heap.size=rb)=False:=eq_false (by omega);have hk2x0:=fun o=>hc2 (w.heap.size) o (by omega) (by omega);have hj2x0:=fun o=>hf2 (w.heap.size) o (by omega) (by omega)))
 · exact bodyPost_ret (v:=s3 1 v2 0) (by simp[results,Tryz.results101,go_sem, *]) rfl ⟨_,_,_,rfl,⟨Bn.mk ⟨by omega,by omega⟩,Bn.mk ⟨by omega,by omega⟩,Bn.mk ⟨by omega,by omega⟩⟩,RB.mk (by repeat(first|(with_reducible apply But.setNew;rotate_left;(first|omega|(simp only[zz];omega)))|with_reducible apply But.alloc|with_reducible apply But.trans (k:=RB.but hr3)|with_reducible apply But.trans (k:=RB.but hr2)|with_reducible apply But.trans (k:=RB.but hr1)|with_reducible apply But.refl|with_reducible apply But.drewN|with_reducible apply But.drew)) (by repeat(first|(with_reducible apply RS.setNew;rotate_left;(first|omega|(simp only[zz];omega)))|with_reducible apply RS.alloc|(with_reducible apply RS.up hr3;omega)|(with_reducible apply RS.up hr2;omega)|(with_reducible apply RS.up hr1;omega)|(with_reducible apply RS.mono hs0;omega)|with_reducible apply RS.drew|with_reducible apply RS.drewN))⟩
 · exact bodyPost_ret (v:=s3 2 v2 v5) (by simp[results,Tryz.results101,go_sem, *]) rfl ⟨_,_,_,rfl,⟨Bn.mk ⟨by omega,by omega⟩,Bn.mk ⟨by omega,by omega⟩,Bn.mk ⟨by omega,by omega⟩⟩,RB.mk (by repeat(first|(with_reducible apply But.setNew;rotate_left;(first|omega|(simp only[zz];omega)))|with_reducible apply But.alloc|with_reducible apply But.trans (k:=RB.but hr5)|with_reducible apply But.trans (k:=RB.but hr4)|with_reducible apply But.trans (k:=RB.but hr3)|with_reducible apply But.trans (k:=RB.but hr2)|with_reducible apply But.trans (k:=RB.but hr1)|with_reducible apply But.refl|with_reducible apply But.drewN|with_reducible apply But.drew)) (by repeat(first|(with_reducible apply RS.setNew;rotate_left;(first|omega|(simp only[zz];omega)))|with_reducible apply RS.alloc|(with_reducible apply RS.up hr5;omega)|(with_reducible apply RS.up hr4;omega)|(with_reducible apply RS.up hr3;omega)|(with_reducible apply RS.up hr2;omega)|(with_reducible apply RS.up hr1;omega)|(with_reducible apply RS.mono hs0;omega)|with_reducible apply RS.drew|with_reducible apply RS.drewN))⟩
end Go.Proofs.YtcalhcfinkhemaaGreatDoor
