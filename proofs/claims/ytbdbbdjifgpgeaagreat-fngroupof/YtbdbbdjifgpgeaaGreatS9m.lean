/- Texts of a proof. -/
import Derived.Test.YtbdbbdjifgpgeaaGreatB20
import Derived.Test.YtbdbbdjifgpgeaaGreatB21
import Derived.Deep.RegionHeld3
import Derived.Deep.DeepCutAuto
set_option maxHeartbeats 16000000
set_option maxRecDepth 20000
namespace Go.Proofs.YtbdbbdjifgpgeaaGreat
open Go.RowKit
set_option linter.unusedVariables false
set_option linter.unusedSimpArgs false
theorem sp_bd {V:Nat→Int} (b6: -20000000≤V 6∧V 6≤20000000) (b7: -20000000≤V 7∧V 7≤20000000):(-20000000≤spX V∧spX V≤20000000)∧(-20000000≤spY V∧spY V≤20000000):=by
 have t6:=tdiv_bd (x:=V 6) (B:=20000000) (V 8) (by omega)
 have t7:=tdiv_bd (x:=V 7) (B:=20000000) (V 8) (by omega)
 unfold spX spY
 by_cases m:V 8=0
 · rw[if_pos m,if_pos m];omega
 · rw[if_neg m,if_neg m];omega
def goV (V:Nat→Int):Nat→Int:=bif liveV V then moveV V (spX V) (spY V) else V
theorem own12m {w:World} {base t g n c k:Nat} {f:Nat→(Nat→Int)→Nat→Int} {U:Nat→Int} (h:OwnL w base t 12 (.slice (some ⟨g,0,none⟩) n c) n (mapR f U k)) (hk:k<n):
 w.cell? ⟨g,k*12,none⟩=some (.int .i64 (U (k*12)))∧w.cell? ⟨g,k*12+1,none⟩=some (.int .i64 (U (k*12+1)))∧w.cell? ⟨g,k*12+2,none⟩=some (.int .i64 (U (k*12+2)))∧w.cell? ⟨g,k*12+3,none⟩=some (.int .i64 (U (k*12+3)))∧w.cell? ⟨g,k*12+4,none⟩=some (.int .i64 (U (k*12+4)))∧w.cell? ⟨g,k*12+5,none⟩=some (.int .i64 (U (k*12+5)))∧w.cell? ⟨g,k*12+6,none⟩=some (.int .i64 (U (k*12+6)))∧w.cell? ⟨g,k*12+7,none⟩=some (.int .i64 (U (k*12+7)))∧w.cell? ⟨g,k*12+8,none⟩=some (.int .i64 (U (k*12+8)))∧w.cell? ⟨g,k*12+9,none⟩=some (.int .i64 (U (k*12+9)))∧w.cell? ⟨g,k*12+10,none⟩=some (.int .i64 (U (k*12+10)))∧w.cell? ⟨g,k*12+11,none⟩=some (.int .i64 (U (k*12+11))):=
 have q:∀ j,j<12→w.cell? ⟨g,k*12+j,none⟩=some (.int .i64 (U (k*12+j))):=fun j hj=>by
  have q:=h.cellq (q:=k*12+j) (by omega)
  rw[mapR_row] at q
  exact q
 ⟨q 0 (by decide),q 1 (by decide),q 2 (by decide),q 3 (by decide),q 4 (by decide),q 5 (by decide),q 6 (by decide),q 7 (by decide),q 8 (by decide),q 9 (by decide),q 10 (by decide),q 11 (by decide)⟩
theorem l9Moves_any (a:Option Addr) (n c:Nat) (U:Nat→Int) (w:World) (h:Flat w a (n*12) U) (hn:n≤1048576) (hbb:Bods n U):
 Calls Tryz.prog 80 #[.slice a n c] w fun e w'=>∃ a1 c1,e= .returned (.slice a1 n c1)∧OutL w w' 36 12 a1 n c1 (mapR (fun _ V=>goV V) U n):=by
 have hset:=cset_map
 go_enter Tryz.func80,Tryz.ntmps80
 go_upto_region 1 with fail
 go_cut [3] (fun s0 wc=>∃ a1 c1,s0= .slice a1 n c1∧OutL w wc 36 12 a1 n c1 U)
 case first=>
  go_wp2_with (go_at_call 94;refine(l8Copy_any a n c U _ h hn).mono ?_;rintro e w3 ⟨a1,c1,rfl,hO⟩)
  go_meet
  exact⟨_,_,rfl,hO⟩
 case rest=>
 obtain⟨a1,c1,rfl,hO⟩:=hcut
 go_upto_region 3 with fail
 go_loopw [4] (fun s wr=>∃ k:Nat,k≤n∧s= .int .i64 (k:Int)∧OutL w wr 36 12 a1 n c1 (mapR (fun _ V=>goV V) U k)) (fun s _=>n-(intOf s).toNat)
 case atStart=>exact⟨0,Nat.zero_le _,rfl,by rw[mapR_0];exact hO⟩
 case round=>
  clear hO
  obtain⟨k,hk,rfl,hO⟩:=hrel
  by_cases hlt:k<n
  · have hkn:(k:Int)<(n:Int):=by omega
    obtain⟨g,rfl,hg1,hg2⟩:=hO.own.loc (by omega)
    have d0:wr.cell? ⟨g,k*12,none⟩=some (.int .i64 (U (k*12))):=by have q:=hO.own.cellq (q:=k*12+0) (by omega);rw[mapR_row] at q;exact q
    have d1:wr.cell? ⟨g,k*12+1,none⟩=some (.int .i64 (U (k*12+1))):=by have q:=hO.own.cellq (q:=k*12+1) (by omega);rw[mapR_row] at q;exact q
    have d2:wr.cell? ⟨g,k*12+2,none⟩=some (.int .i64 (U (k*12+2))):=by have q:=hO.own.cellq (q:=k*12+2) (by omega);rw[mapR_row] at q;exact q
    have d3:wr.cell? ⟨g,k*12+3,none⟩=some (.int .i64 (U (k*12+3))):=by have q:=hO.own.cellq (q:=k*12+3) (by omega);rw[mapR_row] at q;exact q
    have d4:wr.cell? ⟨g,k*12+4,none⟩=some (.int .i64 (U (k*12+4))):=by have q:=hO.own.cellq (q:=k*12+4) (by omega);rw[mapR_row] at q;exact q
    have d5:wr.cell? ⟨g,k*12+5,none⟩=some (.int .i64 (U (k*12+5))):=by have q:=hO.own.cellq (q:=k*12+5) (by omega);rw[mapR_row] at q;exact q
    have d6:wr.cell? ⟨g,k*12+6,none⟩=some (.int .i64 (U (k*12+6))):=by have q:=hO.own.cellq (q:=k*12+6) (by omega);rw[mapR_row] at q;exact q
    have d7:wr.cell? ⟨g,k*12+7,none⟩=some (.int .i64 (U (k*12+7))):=by have q:=hO.own.cellq (q:=k*12+7) (by omega);rw[mapR_row] at q;exact q
    have d8:wr.cell? ⟨g,k*12+8,none⟩=some (.int .i64 (U (k*12+8))):=by have q:=hO.own.cellq (q:=k*12+8) (by omega);rw[mapR_row] at q;exact q
    have d9:wr.cell? ⟨g,k*12+9,none⟩=some (.int .i64 (U (k*12+9))):=by have q:=hO.own.cellq (q:=k*12+9) (by omega);rw[mapR_row] at q;exact q
    have d10:wr.cell? ⟨g,k*12+10,none⟩=some (.int .i64 (U (k*12+10))):=by have q:=hO.own.cellq (q:=k*12+10) (by omega);rw[mapR_row] at q;exact q
    have d11:wr.cell? ⟨g,k*12+11,none⟩=some (.int .i64 (U (k*12+11))):=by have q:=hO.own.cellq (q:=k*12+11) (by omega);rw[mapR_row] at q;exact q
    have df:=hO.own.fro
    obtain⟨_,_,bd4,bd5,bd6,bd7,_⟩:=bodyB_bd (hbb.ok k hlt)
    obtain⟨sbx,sby⟩:=sp_bd (V:=(fun j=>U (k*12+j))) bd6 bd7
    obtain⟨SL,hSL⟩:∃ b,decide (8≤(fun j=>U (k*12+j)) 11)=b:=⟨_,rfl⟩
    by_cases hm:0<U (k*12+8)
    · cases SL with
      | true=>
        have HNO:Shut (mapR (fun _ V=>goV V) U (k+1)=mapR (fun _ V=>goV V) U k):=mapR_same (fun j hj=>by show goV (fun j=>U (k*12+j)) j=_;unfold goV;rw[live_s hSL];rfl)
        go_wp2_with (go_at_call 93;refine(l6Sleeps_k (fun j=>U (k*12+j)) _ true hSL).mono ?_;rintro e w4 ⟨rfl,hb4⟩)
        go_roundw
        case rel=>exact⟨k+1,by omega,by go_num,by rw[HNO.out];exact hO.on hb4⟩
        case measure=>simp[intOf];omega
      | false=>
        have HS:Shut (putRow (mapR (fun _ V=>goV V) U k) k (moveV (fun j=>U (k*12+j)) (spX (fun j=>U (k*12+j))) (spY (fun j=>U (k*12+j))))=mapR (fun _ V=>goV V) U (k+1)):=by
         show _=_
         rw[←mapR_set]
         congr 1
         show _=goV (fun j=>U (k*12+j))
         unfold goV
         rw[live_t (V:=(fun j=>U (k*12+j))) hm hSL]
         rfl
        go_upto_region 6 with(go_at_call 93;refine(l6Sleeps_k (fun j=>U (k*12+j)) _ false hSL).mono ?_;rintro e w4 ⟨rfl,hb4⟩)
        have hO4:=hO.on hb4
        clear hO df d0 d1 d2 d3 d4 d5 d6 d7 d8 d9 d10 d11
        have hO:=hO4
        clear hO4 hb4
        have d0:w4.cell? ⟨g,k*12,none⟩=some (.int .i64 (U (k*12))):=by have q:=hO.own.cellq (q:=k*12+0) (by omega);rw[mapR_row] at q;exact q
        have d1:w4.cell? ⟨g,k*12+1,none⟩=some (.int .i64 (U (k*12+1))):=by have q:=hO.own.cellq (q:=k*12+1) (by omega);rw[mapR_row] at q;exact q
        have d2:w4.cell? ⟨g,k*12+2,none⟩=some (.int .i64 (U (k*12+2))):=by have q:=hO.own.cellq (q:=k*12+2) (by omega);rw[mapR_row] at q;exact q
        have d3:w4.cell? ⟨g,k*12+3,none⟩=some (.int .i64 (U (k*12+3))):=by have q:=hO.own.cellq (q:=k*12+3) (by omega);rw[mapR_row] at q;exact q
        have d4:w4.cell? ⟨g,k*12+4,none⟩=some (.int .i64 (U (k*12+4))):=by have q:=hO.own.cellq (q:=k*12+4) (by omega);rw[mapR_row] at q;exact q
        have d5:w4.cell? ⟨g,k*12+5,none⟩=some (.int .i64 (U (k*12+5))):=by have q:=hO.own.cellq (q:=k*12+5) (by omega);rw[mapR_row] at q;exact q
        have d6:w4.cell? ⟨g,k*12+6,none⟩=some (.int .i64 (U (k*12+6))):=by have q:=hO.own.cellq (q:=k*12+6) (by omega);rw[mapR_row] at q;exact q
        have d7:w4.cell? ⟨g,k*12+7,none⟩=some (.int .i64 (U (k*12+7))):=by have q:=hO.own.cellq (q:=k*12+7) (by omega);rw[mapR_row] at q;exact q
        have d8:w4.cell? ⟨g,k*12+8,none⟩=some (.int .i64 (U (k*12+8))):=by have q:=hO.own.cellq (q:=k*12+8) (by omega);rw[mapR_row] at q;exact q
        have d9:w4.cell? ⟨g,k*12+9,none⟩=some (.int .i64 (U (k*12+9))):=by have q:=hO.own.cellq (q:=k*12+9) (by omega);rw[mapR_row] at q;exact q
        have d10:w4.cell? ⟨g,k*12+10,none⟩=some (.int .i64 (U (k*12+10))):=by have q:=hO.own.cellq (q:=k*12+10) (by omega);rw[mapR_row] at q;exact q
        have d11:w4.cell? ⟨g,k*12+11,none⟩=some (.int .i64 (U (k*12+11))):=by have q:=hO.own.cellq (q:=k*12+11) (by omega);rw[mapR_row] at q;exact q
        refine wp_region_held_drew (S:=fun w'=>(1:Nat)≤2) (by kernel_rfl) ?_ (fun hHeld=> ?_)
        · (try dsimp only)
          (first|(go_simp;done)|(go_keep;done))
        refine tq 0 hHeld ?_
        refine tq 1 hHeld ?_
        refine tq 2 hHeld ?_
        refine tq 3 hHeld ?_
        refine tq 4 hHeld ?_
        refine tq 6 hHeld ?_
        refine tq 7 hHeld ?_
        refine tq 8 hHeld ?_
        refine wpAnyH_ready (rs:=[5,9]) (by kernel_rfl) (by simp) ?_
        refine AllReadyH.cons rfl (fun K hK=> ?_) (AllReadyH.cons rfl (fun K hK=> ?_) AllReadyH.nil)
        · (go_simp;refine tr hK (fun hHeld=> ?_);clear hK K)
          refine tc 9 fun K hK=> ?_
          (go_simp;refine tr hK (fun hHeld=> ?_);clear hK K)
          refine tc 10 fun K hK=> ?_
          (go_simp;(go_at_call 98;refine(l6Speed_any (fun j=>U (k*12+j)) _ bd6 bd7).mono ?_;rintro e w5 ⟨rfl,hb5⟩;have hO5:=hO.on hb5.ofDr;have uf5:=hO5.own.fro;obtain⟨u5_0,u5_1,u5_2,u5_3,u5_4,u5_5,u5_6,u5_7,u5_8,u5_9,u5_10,u5_11⟩:=own12m hO5.own (by omega));(try go_wp2_with fail);refine tr hK (fun hHeld=> ?_);clear hK K)
          refine tc 11 fun K hK=> ?_
          (go_simp;(go_at_call 97;refine(l6Move_any (fun j=>U (k*12+j)) (spX (fun j=>U (k*12+j))) (spY (fun j=>U (k*12+j))) _ bd4 bd5 sbx sby).mono ?_;rintro e w6 ⟨rfl,hb6⟩;have hO6:=hO5.on hb6;have uf6:=hO6.own.fro;obtain⟨u6_0,u6_1,u6_2,u6_3,u6_4,u6_5,u6_6,u6_7,u6_8,u6_9,u6_10,u6_11⟩:=own12m hO6.own (by omega));(try go_wp2_with fail);refine tr hK (fun hHeld=> ?_);clear hK K)
          refine tq 12 hHeld ?_
          refine tc 13 fun K hK=> ?_
          (go_simp;refine tr hK (fun hHeld=> ?_);clear hK K)
          refine wpAnyH_done (by kernel_rfl) ?_ _
          go_wp2_with fail
          have hq:=put12 hO6.own hlt (moveV (fun j=>U (k*12+j)) (spX (fun j=>U (k*12+j))) (spY (fun j=>U (k*12+j))))
          rw[HS.out] at hq
          have hqb:=(putFr (w4:=w6) (g:=g) (p:=k) (moveV (fun j=>U (k*12+j)) (spX (fun j=>U (k*12+j))) (spY (fun j=>U (k*12+j))))).below (B:=w.heap.size) hO6.bel.size (fun b e=>by omega)
          go_roundw
          case rel=>exact⟨k+1,by omega,by go_num,hO6.bel.trans hqb,hq⟩
          case measure=>simp[intOf];omega
        · (go_simp;refine tr hK (fun hHeld=> ?_);clear hK K)
          refine wpAnyH_ready (rs:=[5,10]) (by kernel_rfl) (by simp) ?_
          refine AllReadyH.cons rfl (fun K hK=> ?_) (AllReadyH.cons rfl (fun K hK=> ?_) AllReadyH.nil)
          · (go_simp;refine tr hK (fun hHeld=> ?_);clear hK K)
            refine tc 10 fun K hK=> ?_
            (go_simp;(go_at_call 98;refine(l6Speed_any (fun j=>U (k*12+j)) _ bd6 bd7).mono ?_;rintro e w5 ⟨rfl,hb5⟩;have hO5:=hO.on hb5.ofDr;have uf5:=hO5.own.fro;obtain⟨u5_0,u5_1,u5_2,u5_3,u5_4,u5_5,u5_6,u5_7,u5_8,u5_9,u5_10,u5_11⟩:=own12m hO5.own (by omega));(try go_wp2_with fail);refine tr hK (fun hHeld=> ?_);clear hK K)
            refine tc 11 fun K hK=> ?_
            (go_simp;(go_at_call 97;refine(l6Move_any (fun j=>U (k*12+j)) (spX (fun j=>U (k*12+j))) (spY (fun j=>U (k*12+j))) _ bd4 bd5 sbx sby).mono ?_;rintro e w6 ⟨rfl,hb6⟩;have hO6:=hO5.on hb6;have uf6:=hO6.own.fro;obtain⟨u6_0,u6_1,u6_2,u6_3,u6_4,u6_5,u6_6,u6_7,u6_8,u6_9,u6_10,u6_11⟩:=own12m hO6.own (by omega));(try go_wp2_with fail);refine tr hK (fun hHeld=> ?_);clear hK K)
            refine tq 12 hHeld ?_
            refine tc 13 fun K hK=> ?_
            (go_simp;refine tr hK (fun hHeld=> ?_);clear hK K)
            refine wpAnyH_done (by kernel_rfl) ?_ _
            go_wp2_with fail
            have hq:=put12 hO6.own hlt (moveV (fun j=>U (k*12+j)) (spX (fun j=>U (k*12+j))) (spY (fun j=>U (k*12+j))))
            rw[HS.out] at hq
            have hqb:=(putFr (w4:=w6) (g:=g) (p:=k) (moveV (fun j=>U (k*12+j)) (spX (fun j=>U (k*12+j))) (spY (fun j=>U (k*12+j))))).below (B:=w.heap.size) hO6.bel.size (fun b e=>by omega)
            go_roundw
            case rel=>exact⟨k+1,by omega,by go_num,hO6.bel.trans hqb,hq⟩
            case measure=>simp[intOf];omega
          · (go_simp;(go_at_call 98;refine(l6Speed_any (fun j=>U (k*12+j)) _ bd6 bd7).mono ?_;rintro e w5 ⟨rfl,hb5⟩;have hO5:=hO.on hb5.ofDr;have uf5:=hO5.own.fro;obtain⟨u5_0,u5_1,u5_2,u5_3,u5_4,u5_5,u5_6,u5_7,u5_8,u5_9,u5_10,u5_11⟩:=own12m hO5.own (by omega));(try go_wp2_with fail);refine tr hK (fun hHeld=> ?_);clear hK K)
            refine tc 5 fun K hK=> ?_
            (go_simp;refine tr hK (fun hHeld=> ?_);clear hK K)
            refine tc 11 fun K hK=> ?_
            (go_simp;(go_at_call 97;refine(l6Move_any (fun j=>U (k*12+j)) (spX (fun j=>U (k*12+j))) (spY (fun j=>U (k*12+j))) _ bd4 bd5 sbx sby).mono ?_;rintro e w6 ⟨rfl,hb6⟩;have hO6:=hO5.on hb6;have uf6:=hO6.own.fro;obtain⟨u6_0,u6_1,u6_2,u6_3,u6_4,u6_5,u6_6,u6_7,u6_8,u6_9,u6_10,u6_11⟩:=own12m hO6.own (by omega));(try go_wp2_with fail);refine tr hK (fun hHeld=> ?_);clear hK K)
            refine tq 12 hHeld ?_
            refine tc 13 fun K hK=> ?_
            (go_simp;refine tr hK (fun hHeld=> ?_);clear hK K)
            refine wpAnyH_done (by kernel_rfl) ?_ _
            go_wp2_with fail
            have hq:=put12 hO6.own hlt (moveV (fun j=>U (k*12+j)) (spX (fun j=>U (k*12+j))) (spY (fun j=>U (k*12+j))))
            rw[HS.out] at hq
            have hqb:=(putFr (w4:=w6) (g:=g) (p:=k) (moveV (fun j=>U (k*12+j)) (spX (fun j=>U (k*12+j))) (spY (fun j=>U (k*12+j))))).below (B:=w.heap.size) hO6.bel.size (fun b e=>by omega)
            go_roundw
            case rel=>exact⟨k+1,by omega,by go_num,hO6.bel.trans hqb,hq⟩
            case measure=>simp[intOf];omega
    · have HNO:Shut (mapR (fun _ V=>goV V) U (k+1)=mapR (fun _ V=>goV V) U k):=mapR_same (fun j hj=>by show goV (fun j=>U (k*12+j)) j=_;unfold goV;rw[live_m (V:=(fun j=>U (k*12+j))) hm];rfl)
      go_wp2_with fail
      go_roundw
      case rel=>exact⟨k+1,by omega,by go_num,by rw[HNO.out];exact hO⟩
      case measure=>simp[intOf];omega
  · obtain rfl:k=n:=by omega
    go_wp2_with fail
    go_ret
    exact⟨_,_,rfl,hO⟩
end Go.Proofs.YtbdbbdjifgpgeaaGreat
