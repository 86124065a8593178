/- Texts of a proof. -/
import Derived.Test.YtcalhcfinkhemaaGreatDoorB12
import Derived.Deep.RegionHeld3
import Derived.Deep.DeepCutAuto
import Derived.Test.YtcalhcfinkhemaaGreatDoorB8
import Derived.Test.YtcalhcfinkhemaaGreatDoorB1
import Derived.Test.YtcalhcfinkhemaaGreatDoorB2
import Derived.Test.YtcalhcfinkhemaaGreatDoorB14
import Derived.Test.YtcalhcfinkhemaaGreatDoorB18
import Derived.Test.YtcalhcfinkhemaaGreatDoorB9
set_option maxHeartbeats 16000000
set_option maxRecDepth 20000
namespace Go.Proofs.YtcalhcfinkhemaaGreatDoor
open Go.RowKit
set_option linter.unusedVariables false
set_option linter.unusedSimpArgs false
def FlatB (w:World) (a:Option Addr) (n:Nat) (A:Nat→Bool):Prop:=0<n→∃ b o,a=some ⟨b,o,none⟩∧b<w.heap.size∧∀ j,j<n→w.cell? ⟨b,o+j,none⟩=some (.bool (A j))
theorem FlatB.below {w w':World} {a:Option Addr} {n B:Nat} {A:Nat→Bool} (h:FlatB w a n A) (hb:Below w.heap.size w w'):FlatB w' a n A:=fun h0=>by
 obtain⟨b,o,e,l,c⟩:=h h0
 exact⟨b,o,e,Nat.lt_of_lt_of_le l hb.size,fun j hj=>(hb.cell (p:=⟨b,o+j,none⟩) l).trans (c j hj)⟩
def wakeV (b:Bool) (V:Nat→Int):Nat→Int:=bif b&&decide (8≤V 11) then setV V 11 0 else V
def awK (G:Nat→Int) (A:Nat→Bool) (k:Nat):Bool:=decide (0≤G k)&&A (G k).toNat
theorem l9Wake_any (a:Option Addr) (n c:Nat) (U:Nat→Int) (ag:Option Addr) (cg:Nat) (G:Nat→Int) (aa:Option Addr) (na ca:Nat) (A:Nat→Bool) (w:World) (h:Flat w a (n*12) U) (hn:n≤1048576) (hG2:Flat w ag (n*1) G) (hA3:FlatB w aa na A) (hGn:∀ k,k<n→G k<(na:Int)):
 Calls Tryz.prog 47 #[.slice a n c,.slice ag n cg,.slice aa na ca] w fun e w'=>∃ a1 c1,e= .returned (.slice a1 n c1)∧OutL w w' 33 12 a1 n c1 (mapR (fun i V=>wakeV (awK G A i) V) U n):=by
 have hset:=cset_map
 go_enter Tryz.func47,Tryz.ntmps47
 go_upto_region 1 with fail
 go_cut [7] (fun s0 wc=>∃ a1 c1,s0= .slice a1 n c1∧OutL w wc 33 12 a1 n c1 U)
 case first=>
  go_wp2_with (go_at_call 35;refine(l8Copy_any a n c U _ h hn).mono ?_;rintro e w3 ⟨a1,c1,rfl,hO⟩)
  go_meet
  exact⟨_,_,rfl,hO⟩
 case rest=>
 obtain⟨a1,c1,rfl,hO⟩:=hcut
 go_upto_region 3 with fail
 go_loopw [8] (fun s wr=>∃ k:Nat,k≤n∧s= .int .i64 (k:Int)∧OutL w wr 33 12 a1 n c1 (mapR (fun i V=>wakeV (awK G A i) V) U k)) (fun s _=>n-(intOf s).toNat)
 case atStart=>exact⟨0,Nat.zero_le _,rfl,by rw[mapR_0];exact hO⟩
 case round=>
  clear hO
  obtain⟨k,hk,rfl,hO⟩:=hrel
  by_cases hlt:k<n
  · have hkn:(k:Int)<(n:Int):=by omega
    obtain⟨g,rfl,hg1,hg2⟩:=hO.own.loc (by omega)
    have d0:wr.cell? ⟨g,k*12,none⟩=some (.int .i64 (U (k*12))):=by have q:=hO.own.cellq (q:=k*12+0) (by omega);rw[mapR_row] at q;exact q
    have d1:wr.cell? ⟨g,k*12+1,none⟩=some (.int .i64 (U (k*12+1))):=by have q:=hO.own.cellq (q:=k*12+1) (by omega);rw[mapR_row] at q;exact q
    have d2:wr.cell? ⟨g,k*12+2,none⟩=some (.int .i64 (U (k*12+2))):=by have q:=hO.own.cellq (q:=k*12+2) (by omega);rw[mapR_row] at q;exact q
    have d3:wr.cell? ⟨g,k*12+3,none⟩=some (.int .i64 (U (k*12+3))):=by have q:=hO.own.cellq (q:=k*12+3) (by omega);rw[mapR_row] at q;exact q
    have d4:wr.cell? ⟨g,k*12+4,none⟩=some (.int .i64 (U (k*12+4))):=by have q:=hO.own.cellq (q:=k*12+4) (by omega);rw[mapR_row] at q;exact q
    have d5:wr.cell? ⟨g,k*12+5,none⟩=some (.int .i64 (U (k*12+5))):=by have q:=hO.own.cellq (q:=k*12+5) (by omega);rw[mapR_row] at q;exact q
    have d6:wr.cell? ⟨g,k*12+6,none⟩=some (.int .i64 (U (k*12+6))):=by have q:=hO.own.cellq (q:=k*12+6) (by omega);rw[mapR_row] at q;exact q
    have d7:wr.cell? ⟨g,k*12+7,none⟩=some (.int .i64 (U (k*12+7))):=by have q:=hO.own.cellq (q:=k*12+7) (by omega);rw[mapR_row] at q;exact q
    have d8:wr.cell? ⟨g,k*12+8,none⟩=some (.int .i64 (U (k*12+8))):=by have q:=hO.own.cellq (q:=k*12+8) (by omega);rw[mapR_row] at q;exact q
    have d9:wr.cell? ⟨g,k*12+9,none⟩=some (.int .i64 (U (k*12+9))):=by have q:=hO.own.cellq (q:=k*12+9) (by omega);rw[mapR_row] at q;exact q
    have d10:wr.cell? ⟨g,k*12+10,none⟩=some (.int .i64 (U (k*12+10))):=by have q:=hO.own.cellq (q:=k*12+10) (by omega);rw[mapR_row] at q;exact q
    have d11:wr.cell? ⟨g,k*12+11,none⟩=some (.int .i64 (U (k*12+11))):=by have q:=hO.own.cellq (q:=k*12+11) (by omega);rw[mapR_row] at q;exact q
    have df:=hO.own.fro
    obtain⟨SL,hSL⟩:∃ b,decide (8≤(fun j=>U (k*12+j)) 11)=b:=⟨_,rfl⟩
    obtain⟨b2,o2,e2,hbl2,hc2⟩:=(hG2.below hO.bel) (by omega)
    have r2:=hc2 k (by omega)
    clear hc2
    have hGk:=hGn k hlt
    subst e2
    obtain⟨gk,hgk⟩:∃ z,G k=z:=⟨_,rfl⟩
    rw[hgk] at r2 hGk
    by_cases hg0:0≤gk
    · obtain⟨b3,o3,e3,hbl3,hc3⟩:=hA3 (by omega)
      have r3:=(hO.bel.cell (p:=⟨b3,o3+gk.toNat,none⟩) hbl3).trans (hc3 gk.toNat (by omega))
      clear hc3
      subst e3
      obtain⟨aw,haw⟩:∃ z,A gk.toNat=z:=⟨_,rfl⟩
      have hak:awK G A k=aw:=by unfold awK;rw[hgk,decide_eq_true hg0,Bool.true_and,haw]
      rw[haw] at r3
      have hgi:gk<(na:Int):=by omega
      clear hgk haw
      cases aw with
      | false=>
        have HNO:Shut (mapR (fun i V=>wakeV (awK G A i) V) U (k+1)=mapR (fun i V=>wakeV (awK G A i) V) U k):=mapR_same (fun j hj=>by show wakeV (awK G A k) (fun j=>U (k*12+j)) j=_;unfold wakeV;rw[hak];rfl)
        clear hak hSL
        go_wp2_with fail
        go_roundw
        case rel=>exact⟨k+1,by omega,by go_num,by rw[HNO.out];exact hO⟩
        case measure=>simp[intOf];omega
      | true=>
        cases SL with
        | false=>
          have HNO:Shut (mapR (fun i V=>wakeV (awK G A i) V) U (k+1)=mapR (fun i V=>wakeV (awK G A i) V) U k):=mapR_same (fun j hj=>by show wakeV (awK G A k) (fun j=>U (k*12+j)) j=_;unfold wakeV;rw[hak,hSL];rfl)
          clear hak
          go_wp2_with (go_at_call 41;refine(l6Sleeps_k (fun j=>U (k*12+j)) _ false hSL).mono ?_;rintro e w4 ⟨rfl,hb4⟩)
          go_roundw
          case rel=>exact⟨k+1,by omega,by go_num,by rw[HNO.out];exact hO.on hb4⟩
          case measure=>simp[intOf];omega
        | true=>
          have HS:Shut ((fun r=>if r=k*12+11 then 0 else mapR (fun i V=>wakeV (awK G A i) V) U k r)=mapR (fun i V=>wakeV (awK G A i) V) U (k+1)):=mapR_one (by omega) (fun i hi=>by
           show wakeV (awK G A k) (fun j=>U (k*12+j)) i=_
           unfold wakeV
           rw[hak,hSL]
           rfl)
          clear hak
          go_upto_region 6 with(go_at_call 41;refine(l6Sleeps_k (fun j=>U (k*12+j)) _ true hSL).mono ?_;rintro e w4 ⟨rfl,hb4⟩)
          have hO4:=hO.on hb4
          have uf:=hO4.own.fro
          have uc:=hO4.own.cellq (q:=k*12+11) (by omega)
          go_wp2_with fail
          have hq:=hO4.own.setq (k*12+11) (by omega) 0
          rw[HS.out] at hq
          have hB5:Below w.heap.size w (w4.setCell ⟨g,k*12+11,none⟩ (.int .i64 0)):=hO4.bel.setCell hg1 _
          go_roundw
          case rel=>exact⟨k+1,by omega,by go_num,hB5,hq⟩
          case measure=>simp[intOf];omega
    · have hak:awK G A k=false:=by unfold awK;rw[hgk,decide_eq_false hg0,Bool.false_and]
      have HNO:Shut (mapR (fun i V=>wakeV (awK G A i) V) U (k+1)=mapR (fun i V=>wakeV (awK G A i) V) U k):=mapR_same (fun j hj=>by show wakeV (awK G A k) (fun j=>U (k*12+j)) j=_;unfold wakeV;rw[hak];rfl)
      clear hak hSL hgk
      go_wp2_with fail
      go_roundw
      case rel=>exact⟨k+1,by omega,by go_num,by rw[HNO.out];exact hO⟩
      case measure=>simp[intOf];omega
  · obtain rfl:k=n:=by omega
    go_wp2_with fail
    go_ret
    exact⟨_,_,rfl,hO⟩
def allQ (G U:Nat→Int) (g:Nat):Nat→Bool
 |0=>true
 |i+1=>allQ G U g i&&(!decide (G i=(g:Int))||decide (7≤U (i*12+11)))
def slV (V:Nat→Int):Nat→Int:=fun i=>if i=7 then 0 else if i=6 then 0 else if i=11 then 8 else V i
def slF (G:Nat→Int) (g:Nat):Nat→(Nat→Int)→Nat→Int:=fun i V=>bif decide (G i=(g:Int)) then slV V else V
def sleepS (G:Nat→Int) (A:Nat→Bool) (n g:Nat) (U:Nat→Int):Nat→Int:=bif A g&&allQ G U g n then mapR (slF G g) U n else U
def sleepN (G:Nat→Int) (A:Nat→Bool) (n:Nat) (U:Nat→Int):Nat→Nat→Int
 |0=>U
 |g+1=>sleepS G A n g (sleepN G A n U g)
theorem mapR_sl {f:Nat→(Nat→Int)→Nat→Int} {U:Nat→Int} {k:Nat} (h:f k (fun j=>U (k*12+j))=slV (fun j=>U (k*12+j))):(fun r=>if r=k*12+7 then 0 else if r=k*12+6 then 0 else if r=k*12+11 then 8 else mapR f U k r)=mapR f U (k+1):=by
 rw[←mapR_set,h]
 funext q
 unfold putRow slV
 by_cases e:k*12≤q∧q<k*12+12
 · rw[if_pos e]
   obtain⟨d,rfl⟩:∃ d,q=k*12+d:=⟨q-k*12,by omega⟩
   rw[Nat.add_sub_cancel_left,mapR_row]
   by_cases e1:d=7
   · rw[if_pos (by omega),if_pos e1]
   · rw[if_neg (by omega),if_neg e1]
     by_cases e2:d=6
     · rw[if_pos (by omega),if_pos e2]
     · rw[if_neg (by omega),if_neg e2]
       by_cases e3:d=11
       · rw[if_pos (by omega),if_pos e3]
       · rw[if_neg (by omega),if_neg e3]
 · rw[if_neg e,if_neg (by omega),if_neg (by omega),if_neg (by omega)]
def slU (b:Bool) (G:Nat→Int) (g:Nat) (U:Nat→Int) (i:Nat):Nat→Int:=bif b then mapR (slF G g) U i else U
theorem l9Sleep_any (a:Option Addr) (n c:Nat) (U:Nat→Int) (ag:Option Addr) (cg:Nat) (G:Nat→Int) (aa:Option Addr) (na ca:Nat) (A:Nat→Bool) (w:World) (h:Flat w a (n*12) U) (hn:n≤1048576) (hna:na≤1048576) (hG2:Flat w ag (n*1) G) (hA3:FlatB w aa na A):
 Calls Tryz.prog 53 #[.slice a n c,.slice ag n cg,.slice aa na ca] w fun e w'=>∃ a1 c1,e= .returned (.slice a1 n c1)∧OutL w w' 33 12 a1 n c1 (sleepN G A n U na):=by
 have hset:=cset_map
 go_enter Tryz.func53,Tryz.ntmps53
 go_upto_region 1 with fail
 go_cut [7] (fun s0 wc=>∃ a1 c1,s0= .slice a1 n c1∧OutL w wc 33 12 a1 n c1 U)
 case first=>
  go_wp2_with (go_at_call 35;refine(l8Copy_any a n c U _ h hn).mono ?_;rintro e w3 ⟨a1,c1,rfl,hO⟩)
  go_meet
  exact⟨_,_,rfl,hO⟩
 case rest=>
 obtain⟨a1,c1,rfl,hO⟩:=hcut
 go_upto_region 3 with fail
 go_loopw [8,9,10,11] (fun s _ _ _ wr=>∃ g:Nat,g≤na∧s= .int .i64 (g:Int)∧OutL w wr 33 12 a1 n c1 (sleepN G A n U g)) (fun s _ _ _ _=>na-(intOf s).toNat)
 case atStart=>exact⟨0,Nat.zero_le _,rfl,hO⟩
 case round=>
  clear hO
  obtain⟨g,hg,rfl,hO⟩:=hrel
  by_cases hlt:g<na
  · have hgn:(g:Int)<(na:Int):=by omega
    obtain⟨b3,o3,e3,hbl3,hc3⟩:=hA3 (by omega)
    have r3:=(hO.bel.cell (p:=⟨b3,o3+g,none⟩) hbl3).trans (hc3 g hlt)
    clear hc3
    subst e3
    obtain⟨aw,haw⟩:∃ z,A g=z:=⟨_,rfl⟩
    rw[haw] at r3
    obtain⟨X,hX⟩:∃ X,sleepN G A n U g=X:=⟨_,rfl⟩
    have HN:Shut (sleepN G A n U (g+1)=sleepS G A n g X):=by show _=_;rw[sleepN,hX]
    rw[hX] at hO
    clear hX
    cases aw with
    | false=>
      have HNO:Shut (sleepN G A n U (g+1)=X):=by show _=_;rw[HN.out];unfold sleepS;rw[haw];rfl
      clear haw
      go_wp2_with fail
      go_roundw
      case rel=>exact⟨g+1,by omega,by go_num,by rw[HNO.out];exact hO⟩
      case measure=>simp[intOf];omega
    | true=>
      have HYE:Shut (sleepN G A n U (g+1)=slU (allQ G X g n) G g X n):=by show _=_;rw[HN.out];unfold sleepS slU;rw[haw];rfl
      clear haw HN
      go_upto_region 8 with fail
      go_loopw [9,10] (fun s9 s10 wq=>∃ i:Nat,i≤n∧s10= .int .i64 (i:Int)∧s9= .bool (allQ G X g i)∧wq=wr) (fun _ s10 _=>n-(intOf s10).toNat)
      case atStart=>exact⟨0,Nat.zero_le _,rfl,rfl,rfl⟩
      case round=>
       obtain⟨i,hi,rfl,rfl,rfl⟩:=hrel
       by_cases hil:i<n
       · have hin:(i:Int)<(n:Int):=by omega
         obtain⟨b2,o2,e2,hbl2,hc2⟩:=(hG2.below hO.bel) (by omega)
         have r2:=hc2 i (by omega)
         clear hc2
         subst e2
         obtain⟨gb,rfl,hg1,hg2⟩:=hO.own.loc (by omega)
         have u11:=hO.own.cellq (q:=i*12+11) (by omega)
         obtain⟨AL,hAL⟩:∃ b,allQ G X g i=b:=⟨_,rfl⟩
         have HQ:Shut (allQ G X g (i+1)=(AL&&(!decide (G i=(g:Int))||decide (7≤X (i*12+11))))):=by show _=_;rw[allQ,hAL]
         rw[hAL]
         clear hAL
         cases AL with
         | false=>
           go_wp2_with fail
           go_roundw
           case rel=>exact⟨i+1,by omega,by go_num,congrArg Value.bool (by rw[HQ.out];rfl),by trivial⟩
           case measure=>simp[intOf];omega
         | true=>
           by_cases e:G i=(g:Int)
           · have e4:(G i !=(g:Int))=false:=by simp[e]
             have e5:(G i==(g:Int))=true:=by simp[e]
             have E:Shut (G i=(g:Int)):=e
             clear e
             by_cases q7:7≤X (i*12+11)
             · go_wp2_with fail
               go_roundw
               case rel=>exact⟨i+1,by omega,by go_num,congrArg Value.bool (by rw[HQ.out,decide_eq_true E.out,decide_eq_true q7];rfl),by trivial⟩
               case measure=>simp[intOf];omega
             · go_wp2_with fail
               go_roundw
               case rel=>exact⟨i+1,by omega,by go_num,congrArg Value.bool (by rw[HQ.out,decide_eq_true E.out,decide_eq_false q7];rfl),by trivial⟩
               case measure=>simp[intOf];omega
           · have e4:(G i !=(g:Int))=true:=by simp[e]
             have e5:(G i==(g:Int))=false:=by simp[e]
             go_wp2_with fail
             go_roundw
             case rel=>exact⟨i+1,by omega,by go_num,congrArg Value.bool (by rw[HQ.out,decide_eq_false e];rfl),by trivial⟩
             case measure=>simp[intOf];omega
       · obtain rfl:i=n:=by omega
         obtain⟨AL,hAL⟩:∃ b,allQ G X g i=b:=⟨_,rfl⟩
         rw[hAL] at HYE
         rw[hAL]
         clear hAL
         go_upto_region 12 with fail
         go_loopw [11] (fun s wq=>∃ k:Nat,k≤i∧s= .int .i64 (k:Int)∧OutL w wq 33 12 a1 i c1 (slU AL G g X k)) (fun s _=>i-(intOf s).toNat)
         case atStart=>exact⟨0,Nat.zero_le _,rfl,by unfold slU;cases AL;exact hO;rw[mapR_0];exact hO⟩
         case round=>
          clear hO
          obtain⟨k,hk,rfl,hO⟩:=hrel
          by_cases hkl:k<i
          · have hkn:(k:Int)<(i:Int):=by omega
            cases AL with
            | false=>
              go_wp2_with fail
              go_roundw
              case rel=>exact⟨k+1,by omega,by go_num,hO⟩
              case measure=>simp[intOf];omega
            | true=>
              obtain⟨b2,o2,e2,hbl2,hc2⟩:=(hG2.below hO.bel) (by omega)
              have r2:=hc2 k (by omega)
              clear hc2
              subst e2
              by_cases e:G k=(g:Int)
              · have e5:(G k==(g:Int))=true:=by simp[e]
                have e6:(G k=(g:Int))=True:=eq_true e
                have HS:Shut ((fun r=>if r=k*12+7 then 0 else if r=k*12+6 then 0 else if r=k*12+11 then 8 else mapR (slF G g) X k r)=mapR (slF G g) X (k+1)):=mapR_sl (by unfold slF;rw[decide_eq_true e];rfl)
                clear e
                obtain⟨gb,rfl,hg1,hg2⟩:=hO.own.loc (by omega)
                have hO':OutL w wr 33 12 (some ⟨gb,0,none⟩) i c1 (mapR (slF G g) X k):=hO
                have uf:=hO'.own.fro
                have u6:=hO'.own.cellq (q:=k*12+6) (by omega)
                have u7:=hO'.own.cellq (q:=k*12+7) (by omega)
                have u11:=hO'.own.cellq (q:=k*12+11) (by omega)
                go_wp2_with fail
                have q1:=((hO'.own.setq (k*12+11) (by omega) 8).setq (k*12+6) (by omega) 0).setq (k*12+7) (by omega) 0
                rw[HS.out] at q1
                have qB:Below w.heap.size w (((wr.setCell ⟨gb,k*12+11,none⟩ (.int .i64 8)).setCell ⟨gb,k*12+6,none⟩ (.int .i64 0)).setCell ⟨gb,k*12+7,none⟩ (.int .i64 0)):=((hO'.bel.setCell hg1 _).setCell hg1 _).setCell hg1 _
                go_roundw
                case rel=>exact⟨k+1,by omega,by go_num,qB,q1⟩
                case measure=>simp[intOf];omega
              · have e5:(G k==(g:Int))=false:=by simp[e]
                have HNO:Shut (mapR (slF G g) X (k+1)=mapR (slF G g) X k):=mapR_same (fun j hj=>by unfold slF;rw[decide_eq_false e];rfl)
                go_wp2_with fail
                go_roundw
                case rel=>exact⟨k+1,by omega,by go_num,by show OutL _ _ _ _ _ _ _ (mapR (slF G g) X (k+1));rw[HNO.out];exact hO⟩
                case measure=>simp[intOf];omega
          · obtain rfl:k=i:=by omega
            go_wp2_with fail
            go_roundw
            case rel=>exact⟨g+1,by omega,by go_num,by rw[HYE.out];exact hO⟩
            case measure=>simp[intOf];omega
  · obtain rfl:g=na:=by omega
    go_wp2_with fail
    go_ret
    exact⟨_,_,rfl,hO⟩
def rootF (F:Nat→Nat) (i:Nat):Nat:=if h:F i<i then rootF F (F i) else i
termination_by i
theorem root_lt {F:Nat→Nat} {i:Nat} (h:F i<i):rootF F i=rootF F (F i):=by rw[rootF,dif_pos h]
theorem root_self {F:Nat→Nat} {i:Nat} (h:¬ F i<i):rootF F i=i:=by rw[rootF,dif_neg h]
theorem root_step {F:Nat→Nat} (le:∀ i,F i≤i) (i:Nat):rootF F (F i)=rootF F i:=by
 by_cases h:F i<i
 · rw[root_lt h]
 · have e:F i=i:=by have:=le i;omega
   rw[e]
theorem root_le (F:Nat→Nat):∀ i,rootF F i≤i:=by
 intro i
 induction i using Nat.strongRecOn with
 | ind i ih=>
   by_cases h:F i<i
   · rw[root_lt h];exact Nat.le_trans (ih _ h) (Nat.le_of_lt h)
   · rw[root_self h];exact Nat.le_refl _
theorem root_top (F:Nat→Nat):∀ i,¬ F (rootF F i)<rootF F i:=by
 intro i
 induction i using Nat.strongRecOn with
 | ind i ih=>
   by_cases h:F i<i
   · rw[root_lt h];exact ih _ h
   · rw[root_self h];exact h
def setF (F:Nat→Nat) (p v:Nat):Nat→Nat:=fun j=>if j=p then v else F j
theorem setF_at (F:Nat→Nat) (p v:Nat):setF F p v p=v:=if_pos rfl
theorem setF_ne {F:Nat→Nat} {p v j:Nat} (h:j≠p):setF F p v j=F j:=if_neg h
theorem setF_le {F:Nat→Nat} {p v:Nat} (le:∀ i,F i≤i) (hv:v≤p):∀ i,setF F p v i≤i:=fun i=>by
 by_cases e:i=p
 · subst e;rw[setF_at];exact hv
 · rw[setF_ne e];exact le i
theorem root_half {F:Nat→Nat} (le:∀ i,F i≤i) (p:Nat):∀ j,rootF (setF F p (F (F p))) j=rootF F j:=by
 intro j
 induction j using Nat.strongRecOn with
 | ind j ih=>
   by_cases e:j=p
   · subst e
     have l1:=le j
     have l2:=le (F j)
     by_cases h:F (F j)<j
     · rw[root_lt (by rw[setF_at];exact h),setF_at,ih _ h,root_step le,root_step le]
     · rw[root_self (by rw[setF_at];exact h),root_self (by omega)]
   · by_cases h:F j<j
     · rw[root_lt (by rw[setF_ne e];exact h),setF_ne e,ih _ h,root_step le]
     · rw[root_self (by rw[setF_ne e];exact h),root_self h]
theorem root_join {F:Nat→Nat} {m M:Nat} (hm:¬ F m<m) (hM:¬ F M<M) (hmM:m≤M):∀ j,rootF (setF F M m) j=if rootF F j=M then m else rootF F j:=by
 intro j
 induction j using Nat.strongRecOn with
 | ind j ih=>
   by_cases e:j=M
   · subst e
     rw[root_self (F:=F) hM,if_pos rfl]
     by_cases h:m<j
     · rw[root_lt (by rw[setF_at];exact h),setF_at,root_self (by rw[setF_ne (by omega)];exact hm)]
     · rw[root_self (by rw[setF_at];exact h)];omega
   · by_cases h:F j<j
     · rw[root_lt (by rw[setF_ne e];exact h),setF_ne e,ih _ h,←root_lt h]
     · rw[root_self (by rw[setF_ne e];exact h),root_self h,if_neg e]
structure Uf (w:World) (ub g n c:Nat) (F:Nat→Nat):Prop where
 hd:w.cell? ⟨ub,0,none⟩=some (.slice (some ⟨g,0,none⟩) n c)
 row:∀ i,i<n→w.cell? ⟨g,i,none⟩=some (.int .i64 (F i:Int))
 fz:∀ i,i<n→w.frozen? ⟨g,i,none⟩=false
 le:∀ i,F i≤i
 ne:ub≠g
 l1:ub<w.heap.size
 l2:g<w.heap.size
theorem Uf.on {w w':World} {ub g n c:Nat} {F:Nat→Nat} (h:Uf w ub g n c F) (k:Below w.heap.size w w'):Uf w' ub g n c F:=
 ⟨(k.cell (p:=⟨ub,0,none⟩) h.l1).trans h.hd,fun i hi=>(k.cell (p:=⟨g,i,none⟩) h.l2).trans (h.row i hi),fun i hi=>(k.frozen (p:=⟨g,i,none⟩) h.l2).trans (h.fz i hi),h.le,h.ne,Nat.lt_of_lt_of_le h.l1 k.size,Nat.lt_of_lt_of_le h.l2 k.size⟩
theorem Uf.set {w:World} {ub g n c:Nat} {F:Nat→Nat} (h:Uf w ub g n c F) {p v:Nat} (hp:p<n) (hv:v≤p):Uf (w.setCell ⟨g,p,none⟩ (.int .i64 (v:Int))) ub g n c (setF F p v):=by
 refine⟨?_,fun i hi=> ?_,fun i hi=>by rw[World.frozen?_setCell];exact h.fz i hi,setF_le h.le hv,h.ne,by simpa using h.l1,by simpa using h.l2⟩
 · rw[cset_far (by simp;have:=h.ne;omega)];exact h.hd
 · by_cases e:i=p
   · subst e;rw[cset_map,h.row i hi,setF_at];rfl
   · rw[cset_other (by intro q;cases q;exact e rfl),setF_ne e];exact h.row i hi
theorem top_q (ub g n c p:Nat) (F:Nat→Nat) (w:World) (h:Uf w ub g n c F) (hp:p<n):
 Calls Tryz.prog 59 #[.pointer (some ⟨ub,0,none⟩),.int .i64 (p:Int)] w fun e w'=>e= .returned (.int .i64 (rootF F p:Int))∧(∃ F',Uf w' ub g n c F'∧∀ j,rootF F' j=rootF F j)∧Fr (fun b=>b=g) w w':=by
 have hset:=cset_map
 go_enter Tryz.func59,Tryz.ntmps59
 go_upto_region 1 with fail
 go_loopw [1] (fun s1 wr=>∃ (q:Nat) (F':Nat→Nat),s1= .int .i64 (q:Int)∧q<n∧Uf wr ub g n c F'∧(∀ j,rootF F' j=rootF F j)∧rootF F' q=rootF F p∧Fr (fun b=>b=g) w wr) (fun s1 _=>(intOf s1).toNat)
 case atStart=>exact⟨p,F,rfl,hp,h,fun _=>rfl,rfl,Fr.refl _ _⟩
 case round=>
  obtain⟨q,F',rfl,hqn,hU,hall0,hrt0,hF⟩:=hrel
  have hall:Shut (∀ j,rootF F' j=rootF F j):=hall0
  have hrt:Shut (rootF F' q=rootF F p):=hrt0
  clear hall0 hrt0
  have hqi:(q:Int)<(n:Int):=by omega
  have u0:=hU.hd
  have uq:=hU.row q hqn
  have uf:=hU.fz q hqn
  have hle:=hU.le
  by_cases e:F' q=q
  · have ee:((F' q:Int) !=(q:Int))=false:=by simp[e]
    have hv:rootF F p=q:=by rw[←hrt.out,root_self (by omega)]
    clear e hrt
    go_wp2_with fail
    go_ret
    refine⟨?_,⟨F',hU,hall.out⟩,hF⟩
    rw[hv]
    rfl
  · have hlq:F' q<q:=by have:=hle q;omega
    have ee:((F' q:Int) !=(q:Int))=true:=by simp;omega
    have HH0:=root_half hle q
    have HR0:rootF F' (F' (F' q))=rootF F' q:=by rw[root_step hle,root_step hle]
    have hr2:=hle (F' q)
    have ur:=hU.row (F' q) (by omega)
    obtain⟨s,hs⟩:∃ s,F' q=s:=⟨_,rfl⟩
    rw[hs] at uq ee hlq HH0 HR0 hr2 ur
    obtain⟨r,hr⟩:∃ r,F' s=r:=⟨_,rfl⟩
    rw[hr] at HH0 HR0 hr2 ur
    have HH:Shut (∀ j,rootF (setF F' q r) j=rootF F j):=fun j=>(HH0 j).trans (hall.out j)
    have HR:Shut (rootF (setF F' q r) r=rootF F p):=(HH0 r).trans (HR0.trans hrt.out)
    clear HH0 HR0 hall hrt e hs hr hle
    have hsi:(s:Int)<(n:Int):=by omega
    have hr2q:r≤q:=by omega
    go_upto_region 2 with fail
    refine wp_region_held_drew (S:=fun w'=>w'.cell? ⟨ub,0,none⟩=some (.slice (some ⟨g,0,none⟩) n c)) (by kernel_rfl) ?_ (fun hHeld=> ?_)
    · (try dsimp only)
      (first|(go_simp;done)|(go_keep;done))
    refine tq 0 hHeld ?_
    refine tq 1 hHeld ?_
    refine tq 2 hHeld ?_
    refine tq 3 hHeld ?_
    refine tq 4 hHeld ?_
    refine tq 5 hHeld ?_
    refine tq 6 hHeld ?_
    refine tq 7 hHeld ?_
    refine tq 8 hHeld ?_
    refine tq 9 hHeld ?_
    refine tq 10 hHeld ?_
    refine tq 11 hHeld ?_
    refine tq 12 hHeld ?_
    refine tq 13 hHeld ?_
    refine tq 14 hHeld ?_
    refine tc 15 fun K hK=> ?_
    (go_simp
     refine tr hK (fun hHeld=> ?_)
     clear hK K)
    refine tq 16 hHeld ?_
    refine tc 17 fun K hK=> ?_
    (go_simp
     refine tr hK (fun hHeld=> ?_)
     clear hK K)
    refine tq 18 hHeld ?_
    refine tc 19 fun K hK=> ?_
    (go_simp
     have hU2:=hU.set (v:=r) hqn hr2q
     have hF2:=hF.trans (Fr.setCell (X:=fun b=>b=g) (p:=⟨g,q,none⟩) rfl (.int .i64 (r:Int)))
     clear u0 uq ur
     replace hU2:=hU2.on (Below.drew (Below.refl _ _))
     replace hF2:=hF2.drew
     generalize (wr.setCell ⟨g,q,none⟩ (.int .i64 (r:Int))).drew=w5 at hU2 hF2 ⊢
     have u0:=hU2.hd
     refine tr hK (fun hHeld=> ?_)
     clear hK K)
    refine wpAnyH_done (by kernel_rfl) ?_ _
    have uq:=hU2.row q hqn
    rw[setF_at] at uq
    go_wp2_with fail
    go_roundw
    case rel=>exact⟨r,_,rfl,by omega,hU2,HH.out,HR.out,hF2⟩
    case measure=>simp[intOf];omega
theorem join_q (ub g n c p q:Nat) (F:Nat→Nat) (w:World) (h:Uf w ub g n c F) (hp:p<n) (hq:q<n):
 Calls Tryz.prog 93 #[.pointer (some ⟨ub,0,none⟩),.int .i64 (p:Int),.int .i64 (q:Int)] w fun e w'=>e= .returned (.tuple #[])∧(∃ F',Uf w' ub g n c F'∧∀ j,rootF F' j=if rootF F j=max (rootF F p) (rootF F q) then min (rootF F p) (rootF F q) else rootF F j)∧Fr (fun b=>b=g) w w':=by
 have hset:=cset_map
 have lp:=root_le F p
 have lq:=root_le F q
 go_enter Tryz.func93,Tryz.ntmps93
 go_upto_region 1 with(first
  |(have _:=hF1;go_at_call 59;refine(top_q ub g n c q F1 _ hU1 hq).mono ?_;rintro e w2 ⟨rfl,⟨F2,hU2,hE2⟩,hF2⟩)
  |(go_at_call 59;refine(top_q ub g n c p F _ h hp).mono ?_;rintro e w1 ⟨rfl,⟨F1,hU1,hE1⟩,hF1⟩))
 have hE:∀ j,rootF F2 j=rootF F j:=fun j=>(hE2 j).trans (hE1 j)
 have hF:=hF1.trans hF2
 (try rw[hE1 q])
 have hU:=hU2
 obtain⟨F',hF'⟩:∃ F',F2=F':=⟨_,rfl⟩
 rw[hF'] at hU hE
 clear hE1 hE2 hF1 hF2 hU1 hU2 hF'
 have tp:¬ F' (rootF F p)<rootF F p:=by rw[←hE p];exact root_top F' p
 have tq':¬ F' (rootF F q)<rootF F q:=by rw[←hE q];exact root_top F' q
 generalize hA0:rootF F p=A at lp tp ⊢
 generalize hB0:rootF F q=B at lq tq' ⊢
 have hA:Shut (rootF F p=A):=hA0
 have hB:Shut (rootF F q=B):=hB0
 have HE:Shut (∀ j,rootF F' j=rootF F j):=hE
 clear hA0 hB0 hE
 have u0:=hU.hd
 have ufA:=hU.fz A (by omega)
 have ufB:=hU.fz B (by omega)
 by_cases hAB:A<B
 · have i1:(A:Int)<(B:Int):=by omega
   have i2:¬ (B:Int)<(A:Int):=by omega
   have i3:(B:Int)<(n:Int):=by omega
   have uB:=hU.row B (by omega)
   have hJ:Shut (∀ j,rootF (setF F' B A) j=if rootF F' j=B then A else rootF F' j):=root_join (m:=A) (M:=B) tp tq' (by omega)
   have hmx:Shut (max A B=B∧min A B=A):=by show _∧_;omega
   have hU2:=hU.set (p:=B) (v:=A) (by omega) (by omega)
   clear tp tq' lp lq
   go_wp2_with fail
   go_end0
   exact⟨rfl,⟨_,hU2,fun j=>by rw[hJ.out j,HE.out j,hA.out,hB.out,hmx.out.1,hmx.out.2]⟩,hF.trans (Fr.setCell (X:=fun b=>b=g) rfl _)⟩
 · by_cases hBA:B<A
   · have i1:(B:Int)<(A:Int):=by omega
     have i2:¬ (A:Int)<(B:Int):=by omega
     have i3:(A:Int)<(n:Int):=by omega
     have uB:=hU.row A (by omega)
     have hJ:Shut (∀ j,rootF (setF F' A B) j=if rootF F' j=A then B else rootF F' j):=root_join (m:=B) (M:=A) tq' tp (by omega)
     have hmx:Shut (max A B=A∧min A B=B):=by show _∧_;omega
     have hU2:=hU.set (p:=A) (v:=B) (by omega) (by omega)
     clear tp tq' lp lq
     go_wp2_with fail
     go_end0
     exact⟨rfl,⟨_,hU2,fun j=>by rw[hJ.out j,HE.out j,hA.out,hB.out,hmx.out.1,hmx.out.2]⟩,hF.trans (Fr.setCell (X:=fun b=>b=g) rfl _)⟩
   · obtain rfl:A=B:=by omega
     have i2:¬ (A:Int)<(A:Int):=by omega
     have i3:(A:Int)<(n:Int):=by omega
     have uB:=hU.row A (by omega)
     have hJ:Shut (∀ j,rootF (setF F' A A) j=if rootF F' j=A then A else rootF F' j):=root_join (m:=A) (M:=A) tp tp (by omega)
     have hmx:Shut (max A A=A∧min A A=A):=by show _∧_;omega
     have hU2:=hU.set (p:=A) (v:=A) (by omega) (by omega)
     clear tp tq' lp lq
     go_wp2_with fail
     go_end0
     exact⟨rfl,⟨_,hU2,fun j=>by rw[hJ.out j,HE.out j,hA.out,hB.out,hmx.out.1,hmx.out.2]⟩,hF.trans (Fr.setCell (X:=fun b=>b=g) rfl _)⟩
theorem sh_r {g:Int} (h:1≤g∧g≤25600):shB 1 g 0=true:=by unfold shB rdB;simp[h]
theorem sh_b {g k:Int} (h:1≤g∧g≤25600) (h2:1≤k∧k≤25600):shB 2 g k=true:=by unfold shB bxB;simp[h,h2]
theorem l11Shape_k (rb p:Nat) (w:World) (hs0:RS w rb p) (hp:p≤997900):
 Calls Tryz.prog 101 #[.pointer (some ⟨rb,0,none⟩)] w fun e w'=>∃ k g h:Int,e= .returned (s3 k g h)∧shB k g h=true∧RB w w' rb (p+60):=by
 have hlt:=hs0.lt
 have hne:(w.heap.size=rb)=False:=eq_false (by omega)
 have hset:=cset_map
 go_enter Tryz.func101,Tryz.ntmps101
 go_wp2_with (first
  |(have _:=hr3;go_at_call 37;refine(pick_s rb (p+40) _ _ (by repeat(first|(with_reducible apply RS.setNew;rotate_left;(first|omega|(simp only[zz];omega)))|with_reducible apply RS.alloc|(with_reducible apply RS.up hr3;omega)|(with_reducible apply RS.mono hs0;omega)|with_reducible apply RS.drew|with_reducible apply RS.drewN)) (by omega) (by omega) (by omega)).mono ?_;rintro e w4 ⟨v4,rfl,va4,vb4,hr4⟩;obtain⟨hc4,hf4⟩:=RB.cells hr4;have hz4:=RB.size hr4;(try simp only[zz] at hc4 hf4 hz4);have hq4x0:w.heap.size<w4.heap.size:=(by omega);have ha4x0:(w4.heap.size=w.heap.size)=False:=eq_false (by omega);have hb4x0:(w.heap.size=w4.heap.size)=False:=eq_false (by omega);have he4x0:(w.heap.size=rb)=False:=eq_false (by omega);have hk4x0:=fun o=>hc4 (w.heap.size) o (by omega) (by omega);have hj4x0:=fun o=>hf4 (w.heap.size) o (by omega) (by omega))
  |(have _:=hr2;go_at_call 37;refine(pick_s rb (p+30) _ _ (by repeat(first|(with_reducible apply RS.setNew;rotate_left;(first|omega|(simp only[zz];omega)))|with_reducible apply RS.alloc|(with_reducible apply RS.up hr2;omega)|(with_reducible apply RS.mono hs0;omega)|with_reducible apply RS.drew|with_reducible apply RS.drewN)) (by omega) (by omega) (by omega)).mono ?_;rintro e w3 ⟨v3,rfl,va3,vb3,hr3⟩;obtain⟨hc3,hf3⟩:=RB.cells hr3;have hz3:=RB.size hr3;(try simp only[zz] at hc3 hf3 hz3);have hq3x0:w.heap.size<w3.heap.size:=(by omega);have ha3x0:(w3.heap.size=w.heap.size)=False:=eq_false (by omega);have hb3x0:(w.heap.size=w3.heap.size)=False:=eq_false (by omega);have he3x0:(w.heap.size=rb)=False:=eq_false (by omega);have hk3x0:=fun o=>hc3 (w.heap.size) o (by omega) (by omega);have hj3x0:=fun o=>hf3 (w.heap.size) o (by omega) (by omega))
  |(go_at_call 37;refine(pick_s rb (p+10) _ _ (by repeat(first|(with_reducible apply RS.setNew;rotate_left;(first|omega|(simp only[zz];omega)))|with_reducible apply RS.alloc|(with_reducible apply RS.mono hs0;omega)|with_reducible apply RS.drew|with_reducible apply RS.drewN)) (by omega) (by omega) (by omega)).mono ?_;rintro e w1 ⟨v1,rfl,va1,vb1,hr1⟩;obtain⟨hc1,hf1⟩:=RB.cells hr1;have hz1:=RB.size hr1;(try simp only[zz] at hc1 hf1 hz1);have hq1x0:w.heap.size<w1.heap.size:=(by omega);have ha1x0:(w1.heap.size=w.heap.size)=False:=eq_false (by omega);have hb1x0:(w.heap.size=w1.heap.size)=False:=eq_false (by omega);have he1x0:(w.heap.size=rb)=False:=eq_false (by omega);have hk1x0:=fun o=>hc1 (w.heap.size) o (by omega) (by omega);have hj1x0:=fun o=>hf1 (w.heap.size) o (by omega) (by omega))
  |(have _:=hr4;go_at_call 24;refine(one_s (1) 1000 rb (p+50) _ _ _ _ _ (by repeat(first|(with_reducible apply RS.setNew;rotate_left;(first|omega|(simp only[zz];omega)))|with_reducible apply RS.alloc|(with_reducible apply RS.up hr4;omega)|(with_reducible apply RS.mono hs0;omega)|with_reducible apply RS.drew|with_reducible apply RS.drewN)) (by omega) (by repeat(first|exact AllBd.nil|refine AllBd.cons (by omega) (by omega) ?_)) (by rfl) (by omega) (by omega)).mono ?_;rintro e w5 ⟨v5,rfl,va5,vb5,hr5⟩;obtain⟨hc5,hf5⟩:=RB.cells hr5;have hz5:=RB.size hr5;(try simp only[zz] at hc5 hf5 hz5);have hq5x0:w.heap.size<w5.heap.size:=(by omega);have ha5x0:(w5.heap.size=w.heap.size)=False:=eq_false (by omega);have hb5x0:(w.heap.size=w5.heap.size)=False:=eq_false (by omega);have he5x0:(w.heap.size=rb)=False:=eq_false (by omega);have hk5x0:=fun o=>hc5 (w.heap.size) o (by omega) (by omega);have hj5x0:=fun o=>hf5 (w.heap.size) o (by omega) (by omega))
  |(have _:=hr1;go_at_call 24;refine(one_s (1) 1000 rb (p+20) _ _ _ _ _ (by repeat(first|(with_reducible apply RS.setNew;rotate_left;(first|omega|(simp only[zz];omega)))|with_reducible apply RS.alloc|(with_reducible apply RS.up hr1;omega)|(with_reducible apply RS.mono hs0;omega)|with_reducible apply RS.drew|with_reducible apply RS.drewN)) (by omega) (by repeat(first|exact AllBd.nil|refine AllBd.cons (by omega) (by omega) ?_)) (by rfl) (by omega) (by omega)).mono ?_;rintro e w2 ⟨v2,rfl,va2,vb2,hr2⟩;obtain⟨hc2,hf2⟩:=RB.cells hr2;have hz2:=RB.size hr2;(try simp only[zz] at hc2 hf2 hz2);have hq2x0:w.heap.size<w2.heap.size:=(by omega);have ha2x0:(w2.heap.size=w.heap.size)=False:=eq_false (by omega);have hb2x0:(w.heap.size=w2.heap.size)=False:=eq_false (by omega);have he2x0:(w.heap.size=rb)=False:=eq_false (by omega);have hk2x0:=fun o=>hc2 (w.heap.size) o (by omega) (by omega);have hj2x0:=fun o=>hf2 (w.heap.size) o (by omega) (by omega)))
 · exact bodyPost_ret (v:=s3 1 v2 0) (by simp[results,Tryz.results101,go_sem, *]) rfl ⟨_,_,_,rfl,(sh_r ⟨by omega,by omega⟩),RB.mk (by repeat(first|(with_reducible apply But.setNew;rotate_left;(first|omega|(simp only[zz];omega)))|with_reducible apply But.alloc|with_reducible apply But.trans (k:=RB.but hr3)|with_reducible apply But.trans (k:=RB.but hr2)|with_reducible apply But.trans (k:=RB.but hr1)|with_reducible apply But.refl|with_reducible apply But.drewN|with_reducible apply But.drew)) (by repeat(first|(with_reducible apply RS.setNew;rotate_left;(first|omega|(simp only[zz];omega)))|with_reducible apply RS.alloc|(with_reducible apply RS.up hr3;omega)|(with_reducible apply RS.up hr2;omega)|(with_reducible apply RS.up hr1;omega)|(with_reducible apply RS.mono hs0;omega)|with_reducible apply RS.drew|with_reducible apply RS.drewN))⟩
 · exact bodyPost_ret (v:=s3 2 v2 v5) (by simp[results,Tryz.results101,go_sem, *]) rfl ⟨_,_,_,rfl,(sh_b ⟨by omega,by omega⟩ ⟨by omega,by omega⟩),RB.mk (by repeat(first|(with_reducible apply But.setNew;rotate_left;(first|omega|(simp only[zz];omega)))|with_reducible apply But.alloc|with_reducible apply But.trans (k:=RB.but hr5)|with_reducible apply But.trans (k:=RB.but hr4)|with_reducible apply But.trans (k:=RB.but hr3)|with_reducible apply But.trans (k:=RB.but hr2)|with_reducible apply But.trans (k:=RB.but hr1)|with_reducible apply But.refl|with_reducible apply But.drewN|with_reducible apply But.drew)) (by repeat(first|(with_reducible apply RS.setNew;rotate_left;(first|omega|(simp only[zz];omega)))|with_reducible apply RS.alloc|(with_reducible apply RS.up hr5;omega)|(with_reducible apply RS.up hr4;omega)|(with_reducible apply RS.up hr3;omega)|(with_reducible apply RS.up hr2;omega)|(with_reducible apply RS.up hr1;omega)|(with_reducible apply RS.mono hs0;omega)|with_reducible apply RS.drew|with_reducible apply RS.drewN))⟩
theorem l11Drive_k (rb p:Nat) (m:Int) (w:World) (hs0:RS w rb p) (hp:p≤900000) (hm:0≤m∧m≤100):
 Calls Tryz.prog 103 #[.pointer (some ⟨rb,0,none⟩),.int .i64 m] w fun e w'=>∃ x y:Int,e= .returned (vv x y)∧(((-64000≤x∧x≤64000)∧ -64000≤y∧y≤64000)∧(m=0→x=0∧y=0))∧RB w w' rb (p+60):=by
 have hlt:=hs0.lt
 have hne:(w.heap.size=rb)=False:=eq_false (by omega)
 have hset:=cset_map
 go_enter Tryz.func103,Tryz.ntmps103
 go_upto_region 1 with fail
 have r0:Al w (w.alloc (.cells #[.int .i64 0,.int .i64 0] 31)) w.heap.size 2 (fun _=>0):=Al.new (Nat.le_refl _) (by intro i hi;rcases(show i=0∨i=1 by omega) with rfl|rfl<;>rfl)
 have hs1:RS (w.alloc (.cells #[.int .i64 0,.int .i64 0] 31)) rb p:=hs0.alloc _
 have hb0:But rb w (w.alloc (.cells #[.int .i64 0,.int .i64 0] 31)):=but_alloc rb _ _
 generalize w.alloc (.cells #[.int .i64 0,.int .i64 0] 31)=w0 at*
 go_cut [5] (fun s5 wc=>∃ v,s5= .int .i64 v∧0≤v∧v≤2000∧(m=0→v=0)∧But rb w wc∧RS wc rb (p+10)∧Al w wc w.heap.size 2 (fun _=>0))
 case first=>
  go_wp2_with (go_at_call 24;refine(one_s (0) 20 rb (p) _ _ _ _ _ (by exact hs1) (by omega) (by repeat(first|exact AllBd.nil|refine AllBd.cons (by omega) (by omega) ?_)) (by rfl) (by omega) (by omega)).mono ?_;rintro e w1 ⟨v1,rfl,va1,vb1,hr1⟩;have hm1:=mul_bd (a:=v1) (b:=m) (A:=20) (B:=100) (by omega) (by omega);have hw1:=i64w (n:=v1*m) (by omega);have hg1:0≤v1*m:=Int.mul_nonneg va1 hm.1)
  go_meet
  exact⟨_,rfl,by omega,by omega,fun e=>by rw[e,Int.mul_zero],hb0.trans (RB.but hr1),RS.up hr1 (by omega),r0.up hlt (RB.but hr1)⟩
 case rest=>
 obtain⟨v,rfl,v0,v1,vz,hbut,hrs,hal⟩:=hcut
 go_upto_region 2 with fail
 have hz:=hbut.size
 go_wp2_with (first
  |(have _:=hr2;go_at_call 37;refine(pick_s rb (p+20) _ _ (by exact RS.up hr2 (by omega)) (by omega) (by omega) (by omega)).mono ?_;rintro e w3 ⟨v3,rfl,va3,vb3,hr3⟩;have hw3:=i64w (n:=v3-32) (by omega);have hm3:=mul_bd (a:=v3-32) (b:=v) (A:=32) (B:=2000) (by omega) (by omega);have hx3:=i64w (n:=(v3-32)*v) (by omega);have ha3:=hal.up hlt ((RB.but hr2).trans (RB.but hr3));have rc0:=(ha3).2.2.1 0 (by omega);have rf0:=(ha3).2.2.2 0 (by omega);have rc1:=(ha3).2.2.1 1 (by omega);have rf1:=(ha3).2.2.2 1 (by omega))
  |(go_at_call 37;refine(pick_s rb (p+10) _ _ (by exact hrs) (by omega) (by omega) (by omega)).mono ?_;rintro e w2 ⟨v2,rfl,va2,vb2,hr2⟩;have hw2:=i64w (n:=v2-32) (by omega);have hm2:=mul_bd (a:=v2-32) (b:=v) (A:=32) (B:=2000) (by omega) (by omega);have hx2:=i64w (n:=(v2-32)*v) (by omega)))
 exact bodyPost_ret (v:=vv ((v2-32)*v) ((v3-32)*v)) (by simp[results,Tryz.results103,go_sem, *]) rfl ⟨_,_,rfl,⟨⟨⟨by omega,by omega⟩,by omega,by omega⟩,fun e=>by rw[vz e,Int.mul_zero,Int.mul_zero];exact⟨rfl,rfl⟩⟩,RB.mk (((hbut.trans ((RB.but hr2).trans (RB.but hr3))).setNew (by simp) _).setNew (by simp) _) (((RS.up hr3 (by omega)).setNew (by simp;omega) _).setNew (by simp;omega) _)⟩
end Go.Proofs.YtcalhcfinkhemaaGreatDoor
