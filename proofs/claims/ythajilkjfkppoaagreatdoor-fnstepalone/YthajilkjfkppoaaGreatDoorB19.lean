/- Texts of a proof. -/
import Derived.Test.YthajilkjfkppoaaGreatDoorB16
import Derived.Test.YthajilkjfkppoaaGreatDoorB18
import Derived.Deep.RegionHeld3
import Derived.Deep.DeepCutAuto
set_option maxHeartbeats 16000000
set_option maxRecDepth 20000
namespace Go.Proofs.YthajilkjfkppoaaGreatDoor
open Go.RowKit
set_option linter.unusedVariables false
set_option linter.unusedSimpArgs false
theorem sp_bd {V:Nat→Int} (b6: -20000000≤V 6∧V 6≤20000000) (b7: -20000000≤V 7∧V 7≤20000000):(-20000000≤spX V∧spX V≤20000000)∧(-20000000≤spY V∧spY V≤20000000):=by
 have t6:=tdiv_bd (x:=V 6) (B:=20000000) (V 8) (by omega)
 have t7:=tdiv_bd (x:=V 7) (B:=20000000) (V 8) (by omega)
 unfold spX spY
 by_cases m:V 8=0
 · rw[if_pos m,if_pos m];omega
 · rw[if_neg m,if_neg m];omega
def goV (V:Nat→Int):Nat→Int:=bif liveV V then moveV V (spX V) (spY V) else V
theorem own12m {w:World} {base t g n c k:Nat} {f:Nat→(Nat→Int)→Nat→Int} {U:Nat→Int} (h:OwnL w base t 12 (.slice (some ⟨g,0,none⟩) n c) n (mapR f U k)) (hk:k<n):
 w.cell? ⟨g,k*12,none⟩=some (.int .i64 (U (k*12)))∧w.cell? ⟨g,k*12+1,none⟩=some (.int .i64 (U (k*12+1)))∧w.cell? ⟨g,k*12+2,none⟩=some (.int .i64 (U (k*12+2)))∧w.cell? ⟨g,k*12+3,none⟩=some (.int .i64 (U (k*12+3)))∧w.cell? ⟨g,k*12+4,none⟩=some (.int .i64 (U (k*12+4)))∧w.cell? ⟨g,k*12+5,none⟩=some (.int .i64 (U (k*12+5)))∧w.cell? ⟨g,k*12+6,none⟩=some (.int .i64 (U (k*12+6)))∧w.cell? ⟨g,k*12+7,none⟩=some (.int .i64 (U (k*12+7)))∧w.cell? ⟨g,k*12+8,none⟩=some (.int .i64 (U (k*12+8)))∧w.cell? ⟨g,k*12+9,none⟩=some (.int .i64 (U (k*12+9)))∧w.cell? ⟨g,k*12+10,none⟩=some (.int .i64 (U (k*12+10)))∧w.cell? ⟨g,k*12+11,none⟩=some (.int .i64 (U (k*12+11))):=
 have q:∀ j,j<12→w.cell? ⟨g,k*12+j,none⟩=some (.int .i64 (U (k*12+j))):=fun j hj=>by
  have q:=h.cellq (q:=k*12+j) (by omega)
  rw[mapR_row] at q
  exact q
 ⟨q 0 (by decide),q 1 (by decide),q 2 (by decide),q 3 (by decide),q 4 (by decide),q 5 (by decide),q 6 (by decide),q 7 (by decide),q 8 (by decide),q 9 (by decide),q 10 (by decide),q 11 (by decide)⟩
theorem l9Moves_any (a:Option Addr) (n c:Nat) (U:Nat→Int) (w:World) (h:Flat w a (n*12) U) (hn:n≤1048576) (hbb:Bods n U):
 Calls Tryz.prog 46 #[.slice a n c] w fun e w'=>∃ a1 c1,e= .returned (.slice a1 n c1)∧OutL w w' 35 12 a1 n c1 (mapR (fun _ V=>goV V) U n):=by
 have hset:=cset_map
 go_enter Tryz.func46,Tryz.ntmps46
 go_upto_region 1 with fail
 go_cut [3] (fun s0 wc=>∃ a1 c1,s0= .slice a1 n c1∧OutL w wc 35 12 a1 n c1 U)
 case first=>
  go_wp2_with (go_at_call 80;refine(l8Copy_any a n c U _ h hn).mono ?_;rintro e w3 ⟨a1,c1,rfl,hO⟩)
  go_meet
  exact⟨_,_,rfl,hO⟩
 case rest=>
 obtain⟨a1,c1,rfl,hO⟩:=hcut
 go_upto_region 3 with fail
 go_loopw [4] (fun s wr=>∃ k:Nat,k≤n∧s= .int .i64 (k:Int)∧OutL w wr 35 12 a1 n c1 (mapR (fun _ V=>goV V) U k)) (fun s _=>n-(intOf s).toNat)
 case atStart=>exact⟨0,Nat.zero_le _,rfl,by rw[mapR_0];exact hO⟩
 case round=>
  clear hO
  obtain⟨k,hk,rfl,hO⟩:=hrel
  by_cases hlt:k<n
  · have hkn:(k:Int)<(n:Int):=by omega
    obtain⟨g,rfl,hg1,hg2⟩:=hO.own.loc (by omega)
    have d0:wr.cell? ⟨g,k*12,none⟩=some (.int .i64 (U (k*12))):=by have q:=hO.own.cellq (q:=k*12+0) (by omega);rw[mapR_row] at q;exact q
    have d1:wr.cell? ⟨g,k*12+1,none⟩=some (.int .i64 (U (k*12+1))):=by have q:=hO.own.cellq (q:=k*12+1) (by omega);rw[mapR_row] at q;exact q
    have d2:wr.cell? ⟨g,k*12+2,none⟩=some (.int .i64 (U (k*12+2))):=by have q:=hO.own.cellq (q:=k*12+2) (by omega);rw[mapR_row] at q;exact q
    have d3:wr.cell? ⟨g,k*12+3,none⟩=some (.int .i64 (U (k*12+3))):=by have q:=hO.own.cellq (q:=k*12+3) (by omega);rw[mapR_row] at q;exact q
    have d4:wr.cell? ⟨g,k*12+4,none⟩=some (.int .i64 (U (k*12+4))):=by have q:=hO.own.cellq (q:=k*12+4) (by omega);rw[mapR_row] at q;exact q
    have d5:wr.cell? ⟨g,k*12+5,none⟩=some (.int .i64 (U (k*12+5))):=by have q:=hO.own.cellq (q:=k*12+5) (by omega);rw[mapR_row] at q;exact q
    have d6:wr.cell? ⟨g,k*12+6,none⟩=some (.int .i64 (U (k*12+6))):=by have q:=hO.own.cellq (q:=k*12+6) (by omega);rw[mapR_row] at q;exact q
    have d7:wr.cell? ⟨g,k*12+7,none⟩=some (.int .i64 (U (k*12+7))):=by have q:=hO.own.cellq (q:=k*12+7) (by omega);rw[mapR_row] at q;exact q
    have d8:wr.cell? ⟨g,k*12+8,none⟩=some (.int .i64 (U (k*12+8))):=by have q:=hO.own.cellq (q:=k*12+8) (by omega);rw[mapR_row] at q;exact q
    have d9:wr.cell? ⟨g,k*12+9,none⟩=some (.int .i64 (U (k*12+9))):=by have q:=hO.own.cellq (q:=k*12+9) (by omega);rw[mapR_row] at q;exact q
    have d10:wr.cell? ⟨g,k*12+10,none⟩=some (.int .i64 (U (k*12+10))):=by have q:=hO.own.cellq (q:=k*12+10) (by omega);rw[mapR_row] at q;exact q
    have d11:wr.cell? ⟨g,k*12+11,none⟩=some (.int .i64 (U (k*12+11))):=by have q:=hO.own.cellq (q:=k*12+11) (by omega);rw[mapR_row] at q;exact q
    have df:=hO.own.fro
    obtain⟨_,_,bd4,bd5,bd6,bd7,_⟩:=bodyB_bd (hbb.ok k hlt)
    obtain⟨sbx,sby⟩:=sp_bd (V:=(fun j=>U (k*12+j))) bd6 bd7
    obtain⟨SL,hSL⟩:∃ b,decide (8≤(fun j=>U (k*12+j)) 11)=b:=⟨_,rfl⟩
    by_cases hm:0<U (k*12+8)
    · cases SL with
      | true=>
        have HNO:Shut (mapR (fun _ V=>goV V) U (k+1)=mapR (fun _ V=>goV V) U k):=mapR_same (fun j hj=>by show goV (fun j=>U (k*12+j)) j=_;unfold goV;rw[live_s hSL];rfl)
        go_wp2_with (go_at_call 79;refine(l6Sleeps_k (fun j=>U (k*12+j)) _ true hSL).mono ?_;rintro e w4 ⟨rfl,hb4⟩)
        go_roundw
        case rel=>exact⟨k+1,by omega,by go_num,by rw[HNO.out];exact hO.on hb4⟩
        case measure=>simp[intOf];omega
      | false=>
        have HS:Shut (putRow (mapR (fun _ V=>goV V) U k) k (moveV (fun j=>U (k*12+j)) (spX (fun j=>U (k*12+j))) (spY (fun j=>U (k*12+j))))=mapR (fun _ V=>goV V) U (k+1)):=by
         show _=_
         rw[←mapR_set]
         congr 1
         show _=goV (fun j=>U (k*12+j))
         unfold goV
         rw[live_t (V:=(fun j=>U (k*12+j))) hm hSL]
         rfl
        go_upto_region 6 with(go_at_call 79;refine(l6Sleeps_k (fun j=>U (k*12+j)) _ false hSL).mono ?_;rintro e w4 ⟨rfl,hb4⟩)
        have hO4:=hO.on hb4
        clear hO df d0 d1 d2 d3 d4 d5 d6 d7 d8 d9 d10 d11
        have hO:=hO4
        clear hO4 hb4
        have d0:w4.cell? ⟨g,k*12,none⟩=some (.int .i64 (U (k*12))):=by have q:=hO.own.cellq (q:=k*12+0) (by omega);rw[mapR_row] at q;exact q
        have d1:w4.cell? ⟨g,k*12+1,none⟩=some (.int .i64 (U (k*12+1))):=by have q:=hO.own.cellq (q:=k*12+1) (by omega);rw[mapR_row] at q;exact q
        have d2:w4.cell? ⟨g,k*12+2,none⟩=some (.int .i64 (U (k*12+2))):=by have q:=hO.own.cellq (q:=k*12+2) (by omega);rw[mapR_row] at q;exact q
        have d3:w4.cell? ⟨g,k*12+3,none⟩=some (.int .i64 (U (k*12+3))):=by have q:=hO.own.cellq (q:=k*12+3) (by omega);rw[mapR_row] at q;exact q
        have d4:w4.cell? ⟨g,k*12+4,none⟩=some (.int .i64 (U (k*12+4))):=by have q:=hO.own.cellq (q:=k*12+4) (by omega);rw[mapR_row] at q;exact q
        have d5:w4.cell? ⟨g,k*12+5,none⟩=some (.int .i64 (U (k*12+5))):=by have q:=hO.own.cellq (q:=k*12+5) (by omega);rw[mapR_row] at q;exact q
        have d6:w4.cell? ⟨g,k*12+6,none⟩=some (.int .i64 (U (k*12+6))):=by have q:=hO.own.cellq (q:=k*12+6) (by omega);rw[mapR_row] at q;exact q
        have d7:w4.cell? ⟨g,k*12+7,none⟩=some (.int .i64 (U (k*12+7))):=by have q:=hO.own.cellq (q:=k*12+7) (by omega);rw[mapR_row] at q;exact q
        have d8:w4.cell? ⟨g,k*12+8,none⟩=some (.int .i64 (U (k*12+8))):=by have q:=hO.own.cellq (q:=k*12+8) (by omega);rw[mapR_row] at q;exact q
        have d9:w4.cell? ⟨g,k*12+9,none⟩=some (.int .i64 (U (k*12+9))):=by have q:=hO.own.cellq (q:=k*12+9) (by omega);rw[mapR_row] at q;exact q
        have d10:w4.cell? ⟨g,k*12+10,none⟩=some (.int .i64 (U (k*12+10))):=by have q:=hO.own.cellq (q:=k*12+10) (by omega);rw[mapR_row] at q;exact q
        have d11:w4.cell? ⟨g,k*12+11,none⟩=some (.int .i64 (U (k*12+11))):=by have q:=hO.own.cellq (q:=k*12+11) (by omega);rw[mapR_row] at q;exact q
        refine wp_region_held_drew (S:=fun w'=>(1:Nat)≤2) (by kernel_rfl) ?_ (fun hHeld=> ?_)
        · (try dsimp only)
          (first|(go_simp;done)|(go_keep;done))
        refine tq 0 hHeld ?_
        refine tq 1 hHeld ?_
        refine tq 2 hHeld ?_
        refine tq 3 hHeld ?_
        refine tq 4 hHeld ?_
        refine tq 6 hHeld ?_
        refine tq 7 hHeld ?_
        refine tq 8 hHeld ?_
        refine wpAnyH_ready (rs:=[5,9]) (by kernel_rfl) (by simp) ?_
        refine AllReadyH.cons rfl (fun K hK=> ?_) (AllReadyH.cons rfl (fun K hK=> ?_) AllReadyH.nil)
        · (go_simp;refine tr hK (fun hHeld=> ?_);clear hK K)
          refine tc 9 fun K hK=> ?_
          (go_simp;refine tr hK (fun hHeld=> ?_);clear hK K)
          refine tc 10 fun K hK=> ?_
          (go_simp;(go_at_call 84;refine(l6Speed_any (fun j=>U (k*12+j)) _ bd6 bd7).mono ?_;rintro e w5 ⟨rfl,hb5⟩;have hO5:=hO.on hb5.ofDr;have uf5:=hO5.own.fro;obtain⟨u5_0,u5_1,u5_2,u5_3,u5_4,u5_5,u5_6,u5_7,u5_8,u5_9,u5_10,u5_11⟩:=own12m hO5.own (by omega));(try go_wp2_with fail);refine tr hK (fun hHeld=> ?_);clear hK K)
          refine tc 11 fun K hK=> ?_
          (go_simp;(go_at_call 83;refine(l6Move_any (fun j=>U (k*12+j)) (spX (fun j=>U (k*12+j))) (spY (fun j=>U (k*12+j))) _ bd4 bd5 sbx sby).mono ?_;rintro e w6 ⟨rfl,hb6⟩;have hO6:=hO5.on hb6;have uf6:=hO6.own.fro;obtain⟨u6_0,u6_1,u6_2,u6_3,u6_4,u6_5,u6_6,u6_7,u6_8,u6_9,u6_10,u6_11⟩:=own12m hO6.own (by omega));(try go_wp2_with fail);refine tr hK (fun hHeld=> ?_);clear hK K)
          refine tq 12 hHeld ?_
          refine tc 13 fun K hK=> ?_
          (go_simp;refine tr hK (fun hHeld=> ?_);clear hK K)
          refine wpAnyH_done (by kernel_rfl) ?_ _
          go_wp2_with fail
          have hq:=put12 hO6.own hlt (moveV (fun j=>U (k*12+j)) (spX (fun j=>U (k*12+j))) (spY (fun j=>U (k*12+j))))
          rw[HS.out] at hq
          have hqb:=(putFr (w4:=w6) (g:=g) (p:=k) (moveV (fun j=>U (k*12+j)) (spX (fun j=>U (k*12+j))) (spY (fun j=>U (k*12+j))))).below (B:=w.heap.size) hO6.bel.size (fun b e=>by omega)
          go_roundw
          case rel=>exact⟨k+1,by omega,by go_num,hO6.bel.trans hqb,hq⟩
          case measure=>simp[intOf];omega
        · (go_simp;refine tr hK (fun hHeld=> ?_);clear hK K)
          refine wpAnyH_ready (rs:=[5,10]) (by kernel_rfl) (by simp) ?_
          refine AllReadyH.cons rfl (fun K hK=> ?_) (AllReadyH.cons rfl (fun K hK=> ?_) AllReadyH.nil)
          · (go_simp;refine tr hK (fun hHeld=> ?_);clear hK K)
            refine tc 10 fun K hK=> ?_
            (go_simp;(go_at_call 84;refine(l6Speed_any (fun j=>U (k*12+j)) _ bd6 bd7).mono ?_;rintro e w5 ⟨rfl,hb5⟩;have hO5:=hO.on hb5.ofDr;have uf5:=hO5.own.fro;obtain⟨u5_0,u5_1,u5_2,u5_3,u5_4,u5_5,u5_6,u5_7,u5_8,u5_9,u5_10,u5_11⟩:=own12m hO5.own (by omega));(try go_wp2_with fail);refine tr hK (fun hHeld=> ?_);clear hK K)
            refine tc 11 fun K hK=> ?_
            (go_simp;(go_at_call 83;refine(l6Move_any (fun j=>U (k*12+j)) (spX (fun j=>U (k*12+j))) (spY (fun j=>U (k*12+j))) _ bd4 bd5 sbx sby).mono ?_;rintro e w6 ⟨rfl,hb6⟩;have hO6:=hO5.on hb6;have uf6:=hO6.own.fro;obtain⟨u6_0,u6_1,u6_2,u6_3,u6_4,u6_5,u6_6,u6_7,u6_8,u6_9,u6_10,u6_11⟩:=own12m hO6.own (by omega));(try go_wp2_with fail);refine tr hK (fun hHeld=> ?_);clear hK K)
            refine tq 12 hHeld ?_
            refine tc 13 fun K hK=> ?_
            (go_simp;refine tr hK (fun hHeld=> ?_);clear hK K)
            refine wpAnyH_done (by kernel_rfl) ?_ _
            go_wp2_with fail
            have hq:=put12 hO6.own hlt (moveV (fun j=>U (k*12+j)) (spX (fun j=>U (k*12+j))) (spY (fun j=>U (k*12+j))))
            rw[HS.out] at hq
            have hqb:=(putFr (w4:=w6) (g:=g) (p:=k) (moveV (fun j=>U (k*12+j)) (spX (fun j=>U (k*12+j))) (spY (fun j=>U (k*12+j))))).below (B:=w.heap.size) hO6.bel.size (fun b e=>by omega)
            go_roundw
            case rel=>exact⟨k+1,by omega,by go_num,hO6.bel.trans hqb,hq⟩
            case measure=>simp[intOf];omega
          · (go_simp;(go_at_call 84;refine(l6Speed_any (fun j=>U (k*12+j)) _ bd6 bd7).mono ?_;rintro e w5 ⟨rfl,hb5⟩;have hO5:=hO.on hb5.ofDr;have uf5:=hO5.own.fro;obtain⟨u5_0,u5_1,u5_2,u5_3,u5_4,u5_5,u5_6,u5_7,u5_8,u5_9,u5_10,u5_11⟩:=own12m hO5.own (by omega));(try go_wp2_with fail);refine tr hK (fun hHeld=> ?_);clear hK K)
            refine tc 5 fun K hK=> ?_
            (go_simp;refine tr hK (fun hHeld=> ?_);clear hK K)
            refine tc 11 fun K hK=> ?_
            (go_simp;(go_at_call 83;refine(l6Move_any (fun j=>U (k*12+j)) (spX (fun j=>U (k*12+j))) (spY (fun j=>U (k*12+j))) _ bd4 bd5 sbx sby).mono ?_;rintro e w6 ⟨rfl,hb6⟩;have hO6:=hO5.on hb6;have uf6:=hO6.own.fro;obtain⟨u6_0,u6_1,u6_2,u6_3,u6_4,u6_5,u6_6,u6_7,u6_8,u6_9,u6_10,u6_11⟩:=own12m hO6.own (by omega));(try go_wp2_with fail);refine tr hK (fun hHeld=> ?_);clear hK K)
            refine tq 12 hHeld ?_
            refine tc 13 fun K hK=> ?_
            (go_simp;refine tr hK (fun hHeld=> ?_);clear hK K)
            refine wpAnyH_done (by kernel_rfl) ?_ _
            go_wp2_with fail
            have hq:=put12 hO6.own hlt (moveV (fun j=>U (k*12+j)) (spX (fun j=>U (k*12+j))) (spY (fun j=>U (k*12+j))))
            rw[HS.out] at hq
            have hqb:=(putFr (w4:=w6) (g:=g) (p:=k) (moveV (fun j=>U (k*12+j)) (spX (fun j=>U (k*12+j))) (spY (fun j=>U (k*12+j))))).below (B:=w.heap.size) hO6.bel.size (fun b e=>by omega)
            go_roundw
            case rel=>exact⟨k+1,by omega,by go_num,hO6.bel.trans hqb,hq⟩
            case measure=>simp[intOf];omega
    · have HNO:Shut (mapR (fun _ V=>goV V) U (k+1)=mapR (fun _ V=>goV V) U k):=mapR_same (fun j hj=>by show goV (fun j=>U (k*12+j)) j=_;unfold goV;rw[live_m (V:=(fun j=>U (k*12+j))) hm];rfl)
      go_wp2_with fail
      go_roundw
      case rel=>exact⟨k+1,by omega,by go_num,by rw[HNO.out];exact hO⟩
      case measure=>simp[intOf];omega
  · obtain rfl:k=n:=by omega
    go_wp2_with fail
    go_ret
    exact⟨_,_,rfl,hO⟩
def quietV (r:Int) (V:Nat→Int):Nat→Int:=bif decide (V 8=0)||decide (8≤V 11) then V else setV V 11 (bif decide (-8≤spX V∧spX V≤8)&&decide (-8≤spY V∧spY V≤8) then mn (r+1) 7 else 0)
theorem l9Quiet_any (a:Option Addr) (n c:Nat) (U:Nat→Int) (a2:Option Addr) (c2:Nat) (U2:Nat→Int) (w:World) (h:Flat w a (n*12) U) (hn:n≤1048576) (hbb:Bods n U) (h2:Flat w a2 (n*12) U2) (hq2:∀ k,k<n→0≤U2 (k*12+11)∧U2 (k*12+11)≤8):
 Calls Tryz.prog 48 #[.slice a n c,.slice a2 n c2] w fun e w'=>∃ a1 c1,e= .returned (.slice a1 n c1)∧OutL w w' 35 12 a1 n c1 (mapR (fun i V=>quietV (U2 (i*12+11)) V) U n):=by
 have hset:=cset_map
 go_enter Tryz.func48,Tryz.ntmps48
 go_upto_region 1 with fail
 go_cut [5] (fun s0 wc=>∃ a1 c1,s0= .slice a1 n c1∧OutL w wc 35 12 a1 n c1 U)
 case first=>
  go_wp2_with (go_at_call 80;refine(l8Copy_any a n c U _ h hn).mono ?_;rintro e w3 ⟨a1,c1,rfl,hO⟩)
  go_meet
  exact⟨_,_,rfl,hO⟩
 case rest=>
 obtain⟨a1,c1,rfl,hO⟩:=hcut
 go_upto_region 3 with fail
 go_loopw [6,7] (fun s _ wr=>∃ k:Nat,k≤n∧s= .int .i64 (k:Int)∧OutL w wr 35 12 a1 n c1 (mapR (fun i V=>quietV (U2 (i*12+11)) V) U k)) (fun s _ _=>n-(intOf s).toNat)
 case atStart=>exact⟨0,Nat.zero_le _,rfl,by rw[mapR_0];exact hO⟩
 case round=>
  clear hO
  obtain⟨k,hk,rfl,hO⟩:=hrel
  by_cases hlt:k<n
  · have hkn:(k:Int)<(n:Int):=by omega
    obtain⟨g,rfl,hg1,hg2⟩:=hO.own.loc (by omega)
    have d0:wr.cell? ⟨g,k*12,none⟩=some (.int .i64 (U (k*12))):=by have q:=hO.own.cellq (q:=k*12+0) (by omega);rw[mapR_row] at q;exact q
    have d1:wr.cell? ⟨g,k*12+1,none⟩=some (.int .i64 (U (k*12+1))):=by have q:=hO.own.cellq (q:=k*12+1) (by omega);rw[mapR_row] at q;exact q
    have d2:wr.cell? ⟨g,k*12+2,none⟩=some (.int .i64 (U (k*12+2))):=by have q:=hO.own.cellq (q:=k*12+2) (by omega);rw[mapR_row] at q;exact q
    have d3:wr.cell? ⟨g,k*12+3,none⟩=some (.int .i64 (U (k*12+3))):=by have q:=hO.own.cellq (q:=k*12+3) (by omega);rw[mapR_row] at q;exact q
    have d4:wr.cell? ⟨g,k*12+4,none⟩=some (.int .i64 (U (k*12+4))):=by have q:=hO.own.cellq (q:=k*12+4) (by omega);rw[mapR_row] at q;exact q
    have d5:wr.cell? ⟨g,k*12+5,none⟩=some (.int .i64 (U (k*12+5))):=by have q:=hO.own.cellq (q:=k*12+5) (by omega);rw[mapR_row] at q;exact q
    have d6:wr.cell? ⟨g,k*12+6,none⟩=some (.int .i64 (U (k*12+6))):=by have q:=hO.own.cellq (q:=k*12+6) (by omega);rw[mapR_row] at q;exact q
    have d7:wr.cell? ⟨g,k*12+7,none⟩=some (.int .i64 (U (k*12+7))):=by have q:=hO.own.cellq (q:=k*12+7) (by omega);rw[mapR_row] at q;exact q
    have d8:wr.cell? ⟨g,k*12+8,none⟩=some (.int .i64 (U (k*12+8))):=by have q:=hO.own.cellq (q:=k*12+8) (by omega);rw[mapR_row] at q;exact q
    have d9:wr.cell? ⟨g,k*12+9,none⟩=some (.int .i64 (U (k*12+9))):=by have q:=hO.own.cellq (q:=k*12+9) (by omega);rw[mapR_row] at q;exact q
    have d10:wr.cell? ⟨g,k*12+10,none⟩=some (.int .i64 (U (k*12+10))):=by have q:=hO.own.cellq (q:=k*12+10) (by omega);rw[mapR_row] at q;exact q
    have d11:wr.cell? ⟨g,k*12+11,none⟩=some (.int .i64 (U (k*12+11))):=by have q:=hO.own.cellq (q:=k*12+11) (by omega);rw[mapR_row] at q;exact q
    have df:=hO.own.fro
    obtain⟨⟨m0,m1⟩,_,_,_,bd6,bd7,_⟩:=bodyB_bd (hbb.ok k hlt)
    (try simp only at m0 m1)
    obtain⟨SL,hSL⟩:∃ b,decide (8≤(fun j=>U (k*12+j)) 11)=b:=⟨_,rfl⟩
    by_cases hm:U (k*12+8)=0
    · have HNO:Shut (mapR (fun i V=>quietV (U2 (i*12+11)) V) U (k+1)=mapR (fun i V=>quietV (U2 (i*12+11)) V) U k):=mapR_same (fun j hj=>by show quietV _ (fun j=>U (k*12+j)) j=_;unfold quietV;rw[show decide ((fun j=>U (k*12+j)) 8=0)=true from decide_eq_true hm];rfl)
      have e1:(U (k*12+8)==0)=true:=by simp[hm]
      have e2:(U (k*12+8)=0)=True:=eq_true hm
      clear hm hSL
      go_wp2_with fail
      go_roundw
      case rel=>exact⟨k+1,by omega,by go_num,by rw[HNO.out];exact hO⟩
      case measure=>simp[intOf];omega
    · have NM:decide ((fun j=>U (k*12+j)) 8=0)=false:=decide_eq_false hm
      have e1:(U (k*12+8)==0)=false:=by simp[hm]
      cases SL with
      | true=>
        have HNO:Shut (mapR (fun i V=>quietV (U2 (i*12+11)) V) U (k+1)=mapR (fun i V=>quietV (U2 (i*12+11)) V) U k):=mapR_same (fun j hj=>by show quietV _ (fun j=>U (k*12+j)) j=_;unfold quietV;rw[NM,hSL];rfl)
        clear NM
        go_wp2_with (go_at_call 79;refine(l6Sleeps_k (fun j=>U (k*12+j)) _ true hSL).mono ?_;rintro e w4 ⟨rfl,hb4⟩)
        go_roundw
        case rel=>exact⟨k+1,by omega,by go_num,by rw[HNO.out];exact hO.on hb4⟩
        case measure=>simp[intOf];omega
      | false=>
        go_upto_region 6 with(go_at_call 79;refine(l6Sleeps_k (fun j=>U (k*12+j)) _ false hSL).mono ?_;rintro e w4 ⟨rfl,hb4⟩)
        have hO4:=hO.on hb4
        clear hO df d0 d1 d2 d3 d4 d5 d6 d7 d8 d9 d10 d11
        have d0:w4.cell? ⟨g,k*12,none⟩=some (.int .i64 (U (k*12))):=by have q:=hO4.own.cellq (q:=k*12+0) (by omega);rw[mapR_row] at q;exact q
        have d1:w4.cell? ⟨g,k*12+1,none⟩=some (.int .i64 (U (k*12+1))):=by have q:=hO4.own.cellq (q:=k*12+1) (by omega);rw[mapR_row] at q;exact q
        have d2:w4.cell? ⟨g,k*12+2,none⟩=some (.int .i64 (U (k*12+2))):=by have q:=hO4.own.cellq (q:=k*12+2) (by omega);rw[mapR_row] at q;exact q
        have d3:w4.cell? ⟨g,k*12+3,none⟩=some (.int .i64 (U (k*12+3))):=by have q:=hO4.own.cellq (q:=k*12+3) (by omega);rw[mapR_row] at q;exact q
        have d4:w4.cell? ⟨g,k*12+4,none⟩=some (.int .i64 (U (k*12+4))):=by have q:=hO4.own.cellq (q:=k*12+4) (by omega);rw[mapR_row] at q;exact q
        have d5:w4.cell? ⟨g,k*12+5,none⟩=some (.int .i64 (U (k*12+5))):=by have q:=hO4.own.cellq (q:=k*12+5) (by omega);rw[mapR_row] at q;exact q
        have d6:w4.cell? ⟨g,k*12+6,none⟩=some (.int .i64 (U (k*12+6))):=by have q:=hO4.own.cellq (q:=k*12+6) (by omega);rw[mapR_row] at q;exact q
        have d7:w4.cell? ⟨g,k*12+7,none⟩=some (.int .i64 (U (k*12+7))):=by have q:=hO4.own.cellq (q:=k*12+7) (by omega);rw[mapR_row] at q;exact q
        have d8:w4.cell? ⟨g,k*12+8,none⟩=some (.int .i64 (U (k*12+8))):=by have q:=hO4.own.cellq (q:=k*12+8) (by omega);rw[mapR_row] at q;exact q
        have d9:w4.cell? ⟨g,k*12+9,none⟩=some (.int .i64 (U (k*12+9))):=by have q:=hO4.own.cellq (q:=k*12+9) (by omega);rw[mapR_row] at q;exact q
        have d10:w4.cell? ⟨g,k*12+10,none⟩=some (.int .i64 (U (k*12+10))):=by have q:=hO4.own.cellq (q:=k*12+10) (by omega);rw[mapR_row] at q;exact q
        have d11:w4.cell? ⟨g,k*12+11,none⟩=some (.int .i64 (U (k*12+11))):=by have q:=hO4.own.cellq (q:=k*12+11) (by omega);rw[mapR_row] at q;exact q
        obtain⟨IX,HX⟩:∃ b,decide (-8≤spX (fun j=>U (k*12+j))∧spX (fun j=>U (k*12+j))≤8)=b:=⟨_,rfl⟩
        obtain⟨IY,HY⟩:∃ b,decide (-8≤spY (fun j=>U (k*12+j))∧spY (fun j=>U (k*12+j))≤8)=b:=⟨_,rfl⟩
        cases IX with
        | false=>
          have HS:Shut ((fun r=>if r=k*12+11 then 0 else mapR (fun i V=>quietV (U2 (i*12+11)) V) U k r)=mapR (fun i V=>quietV (U2 (i*12+11)) V) U (k+1)):=mapR_one (by omega) (fun i hi=>by
           show quietV (U2 (k*12+11)) (fun j=>U (k*12+j)) i=_
           unfold quietV
           rw[NM,hSL,HX]
           rfl)
          go_upto_region 7 with(go_at_call 84;refine(l6Speed_any (fun j=>U (k*12+j)) _ bd6 bd7).mono ?_;rintro e w5 ⟨rfl,hb5⟩)
          have hE5:Below w5.heap.size w5 (w5.alloc (Obj.cells #[.int .i64 (spX (fun j=>U (k*12+j))),.int .i64 (spY (fun j=>U (k*12+j)))] 33)):=(Below.refl _ _).alloc (Nat.le_refl _) _
          have hO6:=(hO4.on hb5).on hE5
          have v0:(w5.alloc (Obj.cells #[.int .i64 (spX (fun j=>U (k*12+j))),.int .i64 (spY (fun j=>U (k*12+j)))] 33)).cell? ⟨w5.heap.size,0,none⟩=some (.int .i64 (spX (fun j=>U (k*12+j)))):=by go_simp
          have v1:(w5.alloc (Obj.cells #[.int .i64 (spX (fun j=>U (k*12+j))),.int .i64 (spY (fun j=>U (k*12+j)))] 33)).cell? ⟨w5.heap.size,1,none⟩=some (.int .i64 (spY (fun j=>U (k*12+j)))):=by go_simp
          have hv5:w5.heap.size<(w5.alloc (Obj.cells #[.int .i64 (spX (fun j=>U (k*12+j))),.int .i64 (spY (fun j=>U (k*12+j)))] 33)).heap.size:=by simp
          have hgv:g<w5.heap.size:=by have:=hb5.size;have:=hb4.size;omega
          generalize (w5.alloc (Obj.cells #[.int .i64 (spX (fun j=>U (k*12+j))),.int .i64 (spY (fun j=>U (k*12+j)))] 33))=w6 at hE5 hO6 v0 v1 hv5 ⊢
          generalize w5.heap.size=bv at v0 v1 hv5 hgv hE5 ⊢
          clear hb5 hb4 hO4 hE5
          have ne1:¬ g=bv:=by omega
          have ne2:¬ bv=g:=by omega
          have uf:=hO6.own.fro
          have uc:=hO6.own.cellq (q:=k*12+11) (by omega)
          have hq0:=hO6.own.setq (k*12+11) (by omega) 0
          have hB0:Below w.heap.size w (w6.setCell ⟨g,k*12+11,none⟩ (.int .i64 0)):=hO6.bel.setCell hg1 _
          go_upto_region 8 with fail
          have t0:(w6.setCell ⟨g,k*12+11,none⟩ (.int .i64 0)).cell? ⟨bv,0,none⟩=some (.int .i64 (spX (fun j=>U (k*12+j)))):=by go_simp
          have t1:(w6.setCell ⟨g,k*12+11,none⟩ (.int .i64 0)).cell? ⟨bv,1,none⟩=some (.int .i64 (spY (fun j=>U (k*12+j)))):=by go_simp
          have hbv:bv<(w6.setCell ⟨g,k*12+11,none⟩ (.int .i64 0)).heap.size:=by simp;omega
          generalize (w6.setCell ⟨g,k*12+11,none⟩ (.int .i64 0))=w7 at hq0 hB0 t0 t1 hbv ⊢
          clear hO6 uf uc v0 v1
          obtain⟨sx,hsx⟩:∃ sx,spX (fun j=>U (k*12+j))=sx:=⟨_,rfl⟩
          obtain⟨sy,hsy⟩:∃ sy,spY (fun j=>U (k*12+j))=sy:=⟨_,rfl⟩
          rw[hsx] at t0
          rw[hsy] at t1
          rw[hsx] at HX
          rw[hsy] at HY
          clear hsx hsy
          go_wp2_with (go_at_call 19;refine(l1In_q _ _ _ false _ HX).mono ?_;rintro e w8 ⟨rfl,hb8⟩)
          have hq9:=hq0.below hb8
          rw[HS.out] at hq9
          go_roundw
          case rel=>exact⟨k+1,by omega,by go_num,hB0.trans (hb8.mono hB0.size),hq9⟩
          case measure=>simp[intOf];omega
        | true=>
          cases IY with
          | false=>
            have HS:Shut ((fun r=>if r=k*12+11 then 0 else mapR (fun i V=>quietV (U2 (i*12+11)) V) U k r)=mapR (fun i V=>quietV (U2 (i*12+11)) V) U (k+1)):=mapR_one (by omega) (fun i hi=>by
             show quietV (U2 (k*12+11)) (fun j=>U (k*12+j)) i=_
             unfold quietV
             rw[NM,hSL,HX,HY]
             rfl)
            go_upto_region 7 with(go_at_call 84;refine(l6Speed_any (fun j=>U (k*12+j)) _ bd6 bd7).mono ?_;rintro e w5 ⟨rfl,hb5⟩)
            have hE5:Below w5.heap.size w5 (w5.alloc (Obj.cells #[.int .i64 (spX (fun j=>U (k*12+j))),.int .i64 (spY (fun j=>U (k*12+j)))] 33)):=(Below.refl _ _).alloc (Nat.le_refl _) _
            have hO6:=(hO4.on hb5).on hE5
            have v0:(w5.alloc (Obj.cells #[.int .i64 (spX (fun j=>U (k*12+j))),.int .i64 (spY (fun j=>U (k*12+j)))] 33)).cell? ⟨w5.heap.size,0,none⟩=some (.int .i64 (spX (fun j=>U (k*12+j)))):=by go_simp
            have v1:(w5.alloc (Obj.cells #[.int .i64 (spX (fun j=>U (k*12+j))),.int .i64 (spY (fun j=>U (k*12+j)))] 33)).cell? ⟨w5.heap.size,1,none⟩=some (.int .i64 (spY (fun j=>U (k*12+j)))):=by go_simp
            have hv5:w5.heap.size<(w5.alloc (Obj.cells #[.int .i64 (spX (fun j=>U (k*12+j))),.int .i64 (spY (fun j=>U (k*12+j)))] 33)).heap.size:=by simp
            have hgv:g<w5.heap.size:=by have:=hb5.size;have:=hb4.size;omega
            generalize (w5.alloc (Obj.cells #[.int .i64 (spX (fun j=>U (k*12+j))),.int .i64 (spY (fun j=>U (k*12+j)))] 33))=w6 at hE5 hO6 v0 v1 hv5 ⊢
            generalize w5.heap.size=bv at v0 v1 hv5 hgv hE5 ⊢
            clear hb5 hb4 hO4 hE5
            have ne1:¬ g=bv:=by omega
            have ne2:¬ bv=g:=by omega
            have uf:=hO6.own.fro
            have uc:=hO6.own.cellq (q:=k*12+11) (by omega)
            have hq0:=hO6.own.setq (k*12+11) (by omega) 0
            have hB0:Below w.heap.size w (w6.setCell ⟨g,k*12+11,none⟩ (.int .i64 0)):=hO6.bel.setCell hg1 _
            go_upto_region 8 with fail
            have t0:(w6.setCell ⟨g,k*12+11,none⟩ (.int .i64 0)).cell? ⟨bv,0,none⟩=some (.int .i64 (spX (fun j=>U (k*12+j)))):=by go_simp
            have t1:(w6.setCell ⟨g,k*12+11,none⟩ (.int .i64 0)).cell? ⟨bv,1,none⟩=some (.int .i64 (spY (fun j=>U (k*12+j)))):=by go_simp
            have hbv:bv<(w6.setCell ⟨g,k*12+11,none⟩ (.int .i64 0)).heap.size:=by simp;omega
            generalize (w6.setCell ⟨g,k*12+11,none⟩ (.int .i64 0))=w7 at hq0 hB0 t0 t1 hbv ⊢
            clear hO6 uf uc v0 v1
            obtain⟨sx,hsx⟩:∃ sx,spX (fun j=>U (k*12+j))=sx:=⟨_,rfl⟩
            obtain⟨sy,hsy⟩:∃ sy,spY (fun j=>U (k*12+j))=sy:=⟨_,rfl⟩
            rw[hsx] at t0
            rw[hsy] at t1
            rw[hsx] at HX
            rw[hsy] at HY
            clear hsx hsy
            go_wp2_with (first
             |(have _:=hb8;go_at_call 19;refine(l1In_q _ _ _ false _ HY).mono ?_;rintro e w9 ⟨rfl,hb9⟩)
             |(go_at_call 19;refine(l1In_q _ _ _ true _ HX).mono ?_;rintro e w8 ⟨rfl,hb8⟩;obtain⟨hc8,hf8⟩:=bcell hb8;have t2:=(hc8 bv 1 hbv).trans t1;clear hc8 hf8))
            have hq9:=hq0.below (hb8.trans (hb9.mono hb8.size))
            rw[HS.out] at hq9
            go_roundw
            case rel=>exact⟨k+1,by omega,by go_num,hB0.trans ((hb8.trans (hb9.mono hb8.size)).mono hB0.size),hq9⟩
            case measure=>simp[intOf];omega
          | true=>
            obtain⟨qv,hqv⟩:∃ qv,mn (U2 (k*12+11)+1) 7=qv:=⟨_,rfl⟩
            have HS:Shut ((fun r=>if r=k*12+11 then qv else mapR (fun i V=>quietV (U2 (i*12+11)) V) U k r)=mapR (fun i V=>quietV (U2 (i*12+11)) V) U (k+1)):=mapR_one (by omega) (fun i hi=>by
             show quietV (U2 (k*12+11)) (fun j=>U (k*12+j)) i=_
             unfold quietV
             rw[NM,hSL,HX,HY,←hqv]
             rfl)
            go_upto_region 7 with(go_at_call 84;refine(l6Speed_any (fun j=>U (k*12+j)) _ bd6 bd7).mono ?_;rintro e w5 ⟨rfl,hb5⟩)
            have hE5:Below w5.heap.size w5 (w5.alloc (Obj.cells #[.int .i64 (spX (fun j=>U (k*12+j))),.int .i64 (spY (fun j=>U (k*12+j)))] 33)):=(Below.refl _ _).alloc (Nat.le_refl _) _
            have hO6:=(hO4.on hb5).on hE5
            have v0:(w5.alloc (Obj.cells #[.int .i64 (spX (fun j=>U (k*12+j))),.int .i64 (spY (fun j=>U (k*12+j)))] 33)).cell? ⟨w5.heap.size,0,none⟩=some (.int .i64 (spX (fun j=>U (k*12+j)))):=by go_simp
            have v1:(w5.alloc (Obj.cells #[.int .i64 (spX (fun j=>U (k*12+j))),.int .i64 (spY (fun j=>U (k*12+j)))] 33)).cell? ⟨w5.heap.size,1,none⟩=some (.int .i64 (spY (fun j=>U (k*12+j)))):=by go_simp
            have hv5:w5.heap.size<(w5.alloc (Obj.cells #[.int .i64 (spX (fun j=>U (k*12+j))),.int .i64 (spY (fun j=>U (k*12+j)))] 33)).heap.size:=by simp
            have hgv:g<w5.heap.size:=by have:=hb5.size;have:=hb4.size;omega
            generalize (w5.alloc (Obj.cells #[.int .i64 (spX (fun j=>U (k*12+j))),.int .i64 (spY (fun j=>U (k*12+j)))] 33))=w6 at hE5 hO6 v0 v1 hv5 ⊢
            generalize w5.heap.size=bv at v0 v1 hv5 hgv hE5 ⊢
            clear hb5 hb4 hO4 hE5
            have ne1:¬ g=bv:=by omega
            have ne2:¬ bv=g:=by omega
            have uf:=hO6.own.fro
            have uc:=hO6.own.cellq (q:=k*12+11) (by omega)
            have hq0:=hO6.own.setq (k*12+11) (by omega) 0
            have hB0:Below w.heap.size w (w6.setCell ⟨g,k*12+11,none⟩ (.int .i64 0)):=hO6.bel.setCell hg1 _
            go_upto_region 8 with fail
            have t0:(w6.setCell ⟨g,k*12+11,none⟩ (.int .i64 0)).cell? ⟨bv,0,none⟩=some (.int .i64 (spX (fun j=>U (k*12+j)))):=by go_simp
            have t1:(w6.setCell ⟨g,k*12+11,none⟩ (.int .i64 0)).cell? ⟨bv,1,none⟩=some (.int .i64 (spY (fun j=>U (k*12+j)))):=by go_simp
            have hbv:bv<(w6.setCell ⟨g,k*12+11,none⟩ (.int .i64 0)).heap.size:=by simp;omega
            generalize (w6.setCell ⟨g,k*12+11,none⟩ (.int .i64 0))=w7 at hq0 hB0 t0 t1 hbv ⊢
            clear hO6 uf uc v0 v1
            obtain⟨sx,hsx⟩:∃ sx,spX (fun j=>U (k*12+j))=sx:=⟨_,rfl⟩
            obtain⟨sy,hsy⟩:∃ sy,spY (fun j=>U (k*12+j))=sy:=⟨_,rfl⟩
            rw[hsx] at t0
            rw[hsy] at t1
            rw[hsx] at HX
            rw[hsy] at HY
            clear hsx hsy
            go_upto_region 9 with(first
             |(have _:=hb8;go_at_call 19;refine(l1In_q _ _ _ true _ HY).mono ?_;rintro e w9 ⟨rfl,hb9⟩)
             |(go_at_call 19;refine(l1In_q _ _ _ true _ HX).mono ?_;rintro e w8 ⟨rfl,hb8⟩;obtain⟨hc8,hf8⟩:=bcell hb8;have t2:=(hc8 bv 1 hbv).trans t1;clear hc8 hf8))
            have hq9:=(hq0.below hb8).below hb9
            have hB9:Below w.heap.size w w9:=hB0.trans ((hb8.trans (hb9.mono hb8.size)).mono hB0.size)
            clear hq0 hB0 hb8 hb9 t0 t1 t2
            obtain⟨b2,o2,rfl,hbl2,hc2⟩:=(h2.below hB9) (by omega)
            have r2:=hc2 (k*12+11) (by omega)
            simp only[←Nat.add_assoc] at r2
            clear hc2
            have hqb:=hq2 k hlt
            have hwq:IntKind.i64.wrap (U2 (k*12+11)+1)=U2 (k*12+11)+1:=i64w (by omega)
            have uf:=hq9.fro
            have uc:=hq9.cellq (q:=k*12+11) (by omega)
            go_wp2_with (go_at_call 77;refine(l3Less_any _ _ _).mono ?_;rintro e wa ⟨rfl,ha⟩;have ha':=ha.symm;subst ha';clear ha)
            have hqa:=(hq9.setq (k*12+11) (by omega) qv).congr (V:=fun r=>if r=k*12+11 then qv else mapR (fun i V=>quietV (U2 (i*12+11)) V) U k r) (fun q _=>by by_cases e:q=k*12+11<;>simp[e])
            rw[HS.out] at hqa
            have hBa:Below w.heap.size w (w9.setCell ⟨g,k*12+11,none⟩ (.int .i64 qv)):=hB9.setCell hg1 _
            go_roundw
            case rel=>exact⟨k+1,by omega,by go_num,hBa,hqa⟩
            case measure=>simp[intOf];omega
  · obtain rfl:k=n:=by omega
    go_wp2_with fail
    go_ret
    exact⟨_,_,rfl,hO⟩
end Go.Proofs.YthajilkjfkppoaaGreatDoor
