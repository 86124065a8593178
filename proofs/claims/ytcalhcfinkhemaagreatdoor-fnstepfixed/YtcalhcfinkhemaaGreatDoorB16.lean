/- Texts of a proof. -/
import Derived.Test.YtcalhcfinkhemaaGreatDoorB11
import Derived.Test.YtcalhcfinkhemaaGreatDoorB14
import Derived.Deep.RegionHeld3
import Derived.Deep.DeepCutAuto
import Derived.Test.YtcalhcfinkhemaaGreatDoorB12
import Derived.Test.YtcalhcfinkhemaaGreatDoorB5
import Derived.Test.YtcalhcfinkhemaaGreatDoorB4
import Derived.Test.YtcalhcfinkhemaaGreatDoorB1
import Derived.Test.YtcalhcfinkhemaaGreatDoorB13
import Derived.Test.YtcalhcfinkhemaaGreatDoorB10
set_option maxHeartbeats 16000000
set_option maxRecDepth 20000
namespace Go.Proofs.YtcalhcfinkhemaaGreatDoor
open Go.RowKit
set_option linter.unusedVariables false
set_option linter.unusedSimpArgs false
def mvX (V:Nat→Int) (p:Int):Int:=clampZ 2560000 (V 4+p)
def mvY (V:Nat→Int) (q:Int):Int:=clampZ 2560000 (V 5+q)
def moveV (V:Nat→Int) (p q:Int):Nat→Int:=setV (setV (setV (setV V 4 (mvX V p)) 5 (mvY V q)) 6 (if mvX V p=V 4+p then V 6 else 0)) 7 (if mvY V q=V 5+q then V 7 else 0)
theorem setV_self (V:Nat→Int) (k:Nat):setV V k (V k)=V:=by funext j;unfold setV;split<;>simp_all
theorem setV_at (V:Nat→Int) (k j:Nat) (a:Int) (h:j≠k):setV V k a j=V j:=by unfold setV;rw[if_neg h]
theorem setV_is (V:Nat→Int) (k:Nat) (a:Int):setV V k a k=a:=by unfold setV;rw[if_pos rfl]
theorem l6Within_q (n m a:Int) (w:World) (h0:0≤m) (h1:m≤4000000000) (e:clampZ m n=a):
 Calls Tryz.prog 70 #[.int .i64 n,.int .i64 m] w fun e w'=>e= .returned (.int .i64 a)∧w'=w:=by
 subst e;exact l6Within_any n m w h0 h1
theorem l6Move_c (V:Nat→Int) (p q A B C D:Int) (w:World) (b4: -2560000≤V 4∧V 4≤2560000) (b5: -2560000≤V 5∧V 5≤2560000) (bp: -20000000≤p∧p≤20000000) (bq: -20000000≤q∧q≤20000000)
 (eA:clampZ 2560000 (V 4+p)=A) (eB:clampZ 2560000 (V 5+q)=B) (eC:(if A=V 4+p then V 6 else 0)=C) (eD:(if B=V 5+q then V 7 else 0)=D):
 Calls Tryz.prog 78 #[bodyW V,vv p q] w fun e w'=>e= .returned (bodyW (setV (setV (setV (setV V 4 A) 5 B) 6 C) 7 D))∧Below w.heap.size w w':=by
 have hset:=cset_map
 obtain⟨U,hU⟩:∃ U,setV (setV V 4 A) 5 B=U:=⟨_,rfl⟩
 obtain⟨X,hX⟩:∃ X,setV (setV U 6 C) 7 D=X:=⟨_,rfl⟩
 have i6U:U 6=V 6:=by rw[←hU,setV_at _ _ _ _ (by omega),setV_at _ _ _ _ (by omega)]
 have i7U:U 7=V 7:=by rw[←hU,setV_at _ _ _ _ (by omega),setV_at _ _ _ _ (by omega)]
 have i4U:U 4=A:=by rw[←hU,setV_at _ _ _ _ (by omega),setV_is]
 have i5U:U 5=B:=by rw[←hU,setV_is]
 rw[hU,hX]
 go_enter Tryz.func78,Tryz.ntmps78
 go_upto_region 1 with fail
 have h0:=PB.start w V p q
 generalize (((w.alloc (.cells #[.int .i64 (V 0),.int .i64 (V 1),.int .i64 (V 2),.int .i64 (V 3),.int .i64 (V 4),.int .i64 (V 5),.int .i64 (V 6),.int .i64 (V 7),.int .i64 (V 8),.int .i64 (V 9),.int .i64 (V 10),.int .i64 (V 11)] 33)).alloc (.cells #[.int .i64 p,.int .i64 q] 31)).alloc (.cells #[.int .i64 0,.int .i64 0,.int .i64 0,.int .i64 0,.int .i64 0,.int .i64 0,.int .i64 0,.int .i64 0,.int .i64 0,.int .i64 0,.int .i64 0,.int .i64 0] 33))=wx0 at h0 ⊢
 have i4:=h0.inn 4 (by omega)
 have i5:=h0.inn 5 (by omega)
 have n4:=h0.nfi 4 (by omega)
 have n5:=h0.nfi 5 (by omega)
 have y0:=h0.v0
 have y1:=h0.v1
 go_upto_region 3 with fail
 go_cut [] (fun wc=>PB w wc U p q)
 case first=>
  go_wp2_with (go_at_call 70;refine(l6Within_q _ _ _ _ (by omega) (by omega) (by with_reducible assumption)).mono ?_;rintro e w' ⟨rfl,rfl⟩)
  go_meet
  have q9:=PB.set (PB.set h0 (k:=4) (by omega) A) (k:=5) (by omega) B
  rw[hU] at q9
  exact q9
 case rest=>
 have h1:=hcut
 clear i4 i5 n4 n5 y0 y1 h0 hcut
 have i4:=h1.inn 4 (by omega)
 have i5:=h1.inn 5 (by omega)
 have i6:=h1.inn 6 (by omega)
 have i7:=h1.inn 7 (by omega)
 have n6:=h1.nfi 6 (by omega)
 have n7:=h1.nfi 7 (by omega)
 rw[i4U] at i4
 rw[i5U] at i5
 by_cases cA:A=V 4+p
 focus
  rw[if_pos cA] at eC;subst eC
  by_cases cB:B=V 5+q
  focus
   rw[if_pos cB] at eD;subst eD
   have hXU:X=U:=by rw[←hX,←i6U,setV_self,←i7U,setV_self]
   go_upto_region 8 with fail
   have h3:=h1
   rw[←hXU] at h3
   generalize wc=wq at h3 ⊢
  rotate_left
  focus
   rw[if_neg cB] at eD;subst eD
   have hXU:X=(setV U 7 0):=by rw[←hX,←i6U,setV_self]
   go_upto_region 8 with fail
   have h3:=(PB.set h1 (k:=7) (by omega) 0)
   rw[←hXU] at h3
   generalize (wc.setCell ⟨w.heap.size,7,none⟩ (.int .i64 0))=wq at h3 ⊢
 rotate_left 2
 focus
  rw[if_neg cA] at eC;subst eC
  by_cases cB:B=V 5+q
  focus
   rw[if_pos cB] at eD;subst eD
   have hXU:X=(setV U 6 0):=by rw[←hX,←i7U,←setV_at U 6 7 0 (by omega),setV_self]
   go_upto_region 8 with fail
   have h3:=(PB.set h1 (k:=6) (by omega) 0)
   rw[←hXU] at h3
   generalize (wc.setCell ⟨w.heap.size,6,none⟩ (.int .i64 0))=wq at h3 ⊢
  rotate_left
  focus
   rw[if_neg cB] at eD;subst eD
   have hXU:X=(setV (setV U 6 0) 7 0):=by rw[←hX]
   go_upto_region 8 with fail
   have h3:=(PB.set (PB.set h1 (k:=6) (by omega) 0) (k:=7) (by omega) 0)
   rw[←hXU] at h3
   generalize ((wc.setCell ⟨w.heap.size,6,none⟩ (.int .i64 0)).setCell ⟨w.heap.size,7,none⟩ (.int .i64 0))=wq at h3 ⊢
 all_goals
  clear i4 i5 i6 i7 n6 n7 h1 hXU hX hU i6U i7U i4U i5U cA cB eA eB
  have o0:=h3.inn 0 (by omega)
  have r0:=h3.res 0 (by omega)
  have f0:=h3.nfr 0 (by omega)
  have o1:=h3.inn 1 (by omega)
  have r1:=h3.res 1 (by omega)
  have f1:=h3.nfr 1 (by omega)
  have o2:=h3.inn 2 (by omega)
  have r2:=h3.res 2 (by omega)
  have f2:=h3.nfr 2 (by omega)
  have o3:=h3.inn 3 (by omega)
  have r3:=h3.res 3 (by omega)
  have f3:=h3.nfr 3 (by omega)
  have o4:=h3.inn 4 (by omega)
  have r4:=h3.res 4 (by omega)
  have f4:=h3.nfr 4 (by omega)
  have o5:=h3.inn 5 (by omega)
  have r5:=h3.res 5 (by omega)
  have f5:=h3.nfr 5 (by omega)
  have o6:=h3.inn 6 (by omega)
  have r6:=h3.res 6 (by omega)
  have f6:=h3.nfr 6 (by omega)
  have o7:=h3.inn 7 (by omega)
  have r7:=h3.res 7 (by omega)
  have f7:=h3.nfr 7 (by omega)
  have o8:=h3.inn 8 (by omega)
  have r8:=h3.res 8 (by omega)
  have f8:=h3.nfr 8 (by omega)
  have o9:=h3.inn 9 (by omega)
  have r9:=h3.res 9 (by omega)
  have f9:=h3.nfr 9 (by omega)
  have o10:=h3.inn 10 (by omega)
  have r10:=h3.res 10 (by omega)
  have f10:=h3.nfr 10 (by omega)
  have o11:=h3.inn 11 (by omega)
  have r11:=h3.res 11 (by omega)
  have f11:=h3.nfr 11 (by omega)
  have z0:=h3.big
  have hbel:=h3.bel
  clear h3
  go_wp2_with fail
  exact bodyPost_ret (v:=bodyW X) (by simp[results,Tryz.results78,go_sem, *]) rfl ⟨rfl,bel_a⟩
theorem l6Move_any (V:Nat→Int) (p q:Int) (w:World) (b4: -2560000≤V 4∧V 4≤2560000) (b5: -2560000≤V 5∧V 5≤2560000) (bp: -20000000≤p∧p≤20000000) (bq: -20000000≤q∧q≤20000000):
 Calls Tryz.prog 78 #[bodyW V,vv p q] w fun e w'=>e= .returned (bodyW (moveV V p q))∧Below w.heap.size w w':=
 l6Move_c V p q _ _ _ _ w b4 b5 bp bq rfl rfl rfl rfl
theorem sp_bd {V:Nat→Int} (b6: -20000000≤V 6∧V 6≤20000000) (b7: -20000000≤V 7∧V 7≤20000000):(-20000000≤spX V∧spX V≤20000000)∧(-20000000≤spY V∧spY V≤20000000):=by
 have t6:=tdiv_bd (x:=V 6) (B:=20000000) (V 8) (by omega)
 have t7:=tdiv_bd (x:=V 7) (B:=20000000) (V 8) (by omega)
 unfold spX spY
 by_cases m:V 8=0
 · rw[if_pos m,if_pos m];omega
 · rw[if_neg m,if_neg m];omega
def goV (V:Nat→Int):Nat→Int:=bif liveV V then moveV V (spX V) (spY V) else V
theorem own12m {w:World} {base t g n c k:Nat} {f:Nat→(Nat→Int)→Nat→Int} {U:Nat→Int} (h:OwnL w base t 12 (.slice (some ⟨g,0,none⟩) n c) n (mapR f U k)) (hk:k<n):
 w.cell? ⟨g,k*12,none⟩=some (.int .i64 (U (k*12)))∧w.cell? ⟨g,k*12+1,none⟩=some (.int .i64 (U (k*12+1)))∧w.cell? ⟨g,k*12+2,none⟩=some (.int .i64 (U (k*12+2)))∧w.cell? ⟨g,k*12+3,none⟩=some (.int .i64 (U (k*12+3)))∧w.cell? ⟨g,k*12+4,none⟩=some (.int .i64 (U (k*12+4)))∧w.cell? ⟨g,k*12+5,none⟩=some (.int .i64 (U (k*12+5)))∧w.cell? ⟨g,k*12+6,none⟩=some (.int .i64 (U (k*12+6)))∧w.cell? ⟨g,k*12+7,none⟩=some (.int .i64 (U (k*12+7)))∧w.cell? ⟨g,k*12+8,none⟩=some (.int .i64 (U (k*12+8)))∧w.cell? ⟨g,k*12+9,none⟩=some (.int .i64 (U (k*12+9)))∧w.cell? ⟨g,k*12+10,none⟩=some (.int .i64 (U (k*12+10)))∧w.cell? ⟨g,k*12+11,none⟩=some (.int .i64 (U (k*12+11))):=
 have q:∀ j,j<12→w.cell? ⟨g,k*12+j,none⟩=some (.int .i64 (U (k*12+j))):=fun j hj=>by
  have q:=h.cellq (q:=k*12+j) (by omega)
  rw[mapR_row] at q
  exact q
 ⟨q 0 (by decide),q 1 (by decide),q 2 (by decide),q 3 (by decide),q 4 (by decide),q 5 (by decide),q 6 (by decide),q 7 (by decide),q 8 (by decide),q 9 (by decide),q 10 (by decide),q 11 (by decide)⟩
theorem l9Moves_any (a:Option Addr) (n c:Nat) (U:Nat→Int) (w:World) (h:Flat w a (n*12) U) (hn:n≤1048576) (hbb:Bods n U):
 Calls Tryz.prog 52 #[.slice a n c] w fun e w'=>∃ a1 c1,e= .returned (.slice a1 n c1)∧OutL w w' 33 12 a1 n c1 (mapR (fun _ V=>goV V) U n):=by
 have hset:=cset_map
 go_enter Tryz.func52,Tryz.ntmps52
 go_upto_region 1 with fail
 go_cut [3] (fun s0 wc=>∃ a1 c1,s0= .slice a1 n c1∧OutL w wc 33 12 a1 n c1 U)
 case first=>
  go_wp2_with (go_at_call 35;refine(l8Copy_any a n c U _ h hn).mono ?_;rintro e w3 ⟨a1,c1,rfl,hO⟩)
  go_meet
  exact⟨_,_,rfl,hO⟩
 case rest=>
 obtain⟨a1,c1,rfl,hO⟩:=hcut
 go_upto_region 3 with fail
 go_loopw [4] (fun s wr=>∃ k:Nat,k≤n∧s= .int .i64 (k:Int)∧OutL w wr 33 12 a1 n c1 (mapR (fun _ V=>goV V) U k)) (fun s _=>n-(intOf s).toNat)
 case atStart=>exact⟨0,Nat.zero_le _,rfl,by rw[mapR_0];exact hO⟩
 case round=>
  clear hO
  obtain⟨k,hk,rfl,hO⟩:=hrel
  by_cases hlt:k<n
  · have hkn:(k:Int)<(n:Int):=by omega
    obtain⟨g,rfl,hg1,hg2⟩:=hO.own.loc (by omega)
    have d0:wr.cell? ⟨g,k*12,none⟩=some (.int .i64 (U (k*12))):=by have q:=hO.own.cellq (q:=k*12+0) (by omega);rw[mapR_row] at q;exact q
    have d1:wr.cell? ⟨g,k*12+1,none⟩=some (.int .i64 (U (k*12+1))):=by have q:=hO.own.cellq (q:=k*12+1) (by omega);rw[mapR_row] at q;exact q
    have d2:wr.cell? ⟨g,k*12+2,none⟩=some (.int .i64 (U (k*12+2))):=by have q:=hO.own.cellq (q:=k*12+2) (by omega);rw[mapR_row] at q;exact q
    have d3:wr.cell? ⟨g,k*12+3,none⟩=some (.int .i64 (U (k*12+3))):=by have q:=hO.own.cellq (q:=k*12+3) (by omega);rw[mapR_row] at q;exact q
    have d4:wr.cell? ⟨g,k*12+4,none⟩=some (.int .i64 (U (k*12+4))):=by have q:=hO.own.cellq (q:=k*12+4) (by omega);rw[mapR_row] at q;exact q
    have d5:wr.cell? ⟨g,k*12+5,none⟩=some (.int .i64 (U (k*12+5))):=by have q:=hO.own.cellq (q:=k*12+5) (by omega);rw[mapR_row] at q;exact q
    have d6:wr.cell? ⟨g,k*12+6,none⟩=some (.int .i64 (U (k*12+6))):=by have q:=hO.own.cellq (q:=k*12+6) (by omega);rw[mapR_row] at q;exact q
    have d7:wr.cell? ⟨g,k*12+7,none⟩=some (.int .i64 (U (k*12+7))):=by have q:=hO.own.cellq (q:=k*12+7) (by omega);rw[mapR_row] at q;exact q
    have d8:wr.cell? ⟨g,k*12+8,none⟩=some (.int .i64 (U (k*12+8))):=by have q:=hO.own.cellq (q:=k*12+8) (by omega);rw[mapR_row] at q;exact q
    have d9:wr.cell? ⟨g,k*12+9,none⟩=some (.int .i64 (U (k*12+9))):=by have q:=hO.own.cellq (q:=k*12+9) (by omega);rw[mapR_row] at q;exact q
    have d10:wr.cell? ⟨g,k*12+10,none⟩=some (.int .i64 (U (k*12+10))):=by have q:=hO.own.cellq (q:=k*12+10) (by omega);rw[mapR_row] at q;exact q
    have d11:wr.cell? ⟨g,k*12+11,none⟩=some (.int .i64 (U (k*12+11))):=by have q:=hO.own.cellq (q:=k*12+11) (by omega);rw[mapR_row] at q;exact q
    have df:=hO.own.fro
    obtain⟨_,_,bd4,bd5,bd6,bd7,_⟩:=bodyB_bd (hbb.ok k hlt)
    obtain⟨sbx,sby⟩:=sp_bd (V:=(fun j=>U (k*12+j))) bd6 bd7
    obtain⟨SL,hSL⟩:∃ b,decide (8≤(fun j=>U (k*12+j)) 11)=b:=⟨_,rfl⟩
    by_cases hm:0<U (k*12+8)
    · cases SL with
      | true=>
        have HNO:Shut (mapR (fun _ V=>goV V) U (k+1)=mapR (fun _ V=>goV V) U k):=mapR_same (fun j hj=>by show goV (fun j=>U (k*12+j)) j=_;unfold goV;rw[live_s hSL];rfl)
        go_wp2_with (go_at_call 41;refine(l6Sleeps_k (fun j=>U (k*12+j)) _ true hSL).mono ?_;rintro e w4 ⟨rfl,hb4⟩)
        go_roundw
        case rel=>exact⟨k+1,by omega,by go_num,by rw[HNO.out];exact hO.on hb4⟩
        case measure=>simp[intOf];omega
      | false=>
        have HS:Shut (putRow (mapR (fun _ V=>goV V) U k) k (moveV (fun j=>U (k*12+j)) (spX (fun j=>U (k*12+j))) (spY (fun j=>U (k*12+j))))=mapR (fun _ V=>goV V) U (k+1)):=by
         show _=_
         rw[←mapR_set]
         congr 1
         show _=goV (fun j=>U (k*12+j))
         unfold goV
         rw[live_t (V:=(fun j=>U (k*12+j))) hm hSL]
         rfl
        go_upto_region 6 with(go_at_call 41;refine(l6Sleeps_k (fun j=>U (k*12+j)) _ false hSL).mono ?_;rintro e w4 ⟨rfl,hb4⟩)
        have hO4:=hO.on hb4
        clear hO df d0 d1 d2 d3 d4 d5 d6 d7 d8 d9 d10 d11
        have hO:=hO4
        clear hO4 hb4
        have d0:w4.cell? ⟨g,k*12,none⟩=some (.int .i64 (U (k*12))):=by have q:=hO.own.cellq (q:=k*12+0) (by omega);rw[mapR_row] at q;exact q
        have d1:w4.cell? ⟨g,k*12+1,none⟩=some (.int .i64 (U (k*12+1))):=by have q:=hO.own.cellq (q:=k*12+1) (by omega);rw[mapR_row] at q;exact q
        have d2:w4.cell? ⟨g,k*12+2,none⟩=some (.int .i64 (U (k*12+2))):=by have q:=hO.own.cellq (q:=k*12+2) (by omega);rw[mapR_row] at q;exact q
        have d3:w4.cell? ⟨g,k*12+3,none⟩=some (.int .i64 (U (k*12+3))):=by have q:=hO.own.cellq (q:=k*12+3) (by omega);rw[mapR_row] at q;exact q
        have d4:w4.cell? ⟨g,k*12+4,none⟩=some (.int .i64 (U (k*12+4))):=by have q:=hO.own.cellq (q:=k*12+4) (by omega);rw[mapR_row] at q;exact q
        have d5:w4.cell? ⟨g,k*12+5,none⟩=some (.int .i64 (U (k*12+5))):=by have q:=hO.own.cellq (q:=k*12+5) (by omega);rw[mapR_row] at q;exact q
        have d6:w4.cell? ⟨g,k*12+6,none⟩=some (.int .i64 (U (k*12+6))):=by have q:=hO.own.cellq (q:=k*12+6) (by omega);rw[mapR_row] at q;exact q
        have d7:w4.cell? ⟨g,k*12+7,none⟩=some (.int .i64 (U (k*12+7))):=by have q:=hO.own.cellq (q:=k*12+7) (by omega);rw[mapR_row] at q;exact q
        have d8:w4.cell? ⟨g,k*12+8,none⟩=some (.int .i64 (U (k*12+8))):=by have q:=hO.own.cellq (q:=k*12+8) (by omega);rw[mapR_row] at q;exact q
        have d9:w4.cell? ⟨g,k*12+9,none⟩=some (.int .i64 (U (k*12+9))):=by have q:=hO.own.cellq (q:=k*12+9) (by omega);rw[mapR_row] at q;exact q
        have d10:w4.cell? ⟨g,k*12+10,none⟩=some (.int .i64 (U (k*12+10))):=by have q:=hO.own.cellq (q:=k*12+10) (by omega);rw[mapR_row] at q;exact q
        have d11:w4.cell? ⟨g,k*12+11,none⟩=some (.int .i64 (U (k*12+11))):=by have q:=hO.own.cellq (q:=k*12+11) (by omega);rw[mapR_row] at q;exact q
        refine wp_region_held_drew (S:=fun w'=>(1:Nat)≤2) (by kernel_rfl) ?_ (fun hHeld=> ?_)
        · (try dsimp only)
          (first|(go_simp;done)|(go_keep;done))
        refine tq 0 hHeld ?_
        refine tq 1 hHeld ?_
        refine tq 2 hHeld ?_
        refine tq 3 hHeld ?_
        refine tq 4 hHeld ?_
        refine tq 6 hHeld ?_
        refine tq 7 hHeld ?_
        refine tq 8 hHeld ?_
        refine wpAnyH_ready (rs:=[5,9]) (by kernel_rfl) (by simp) ?_
        refine AllReadyH.cons rfl (fun K hK=> ?_) (AllReadyH.cons rfl (fun K hK=> ?_) AllReadyH.nil)
        · (go_simp;refine tr hK (fun hHeld=> ?_);clear hK K)
          refine tc 9 fun K hK=> ?_
          (go_simp;refine tr hK (fun hHeld=> ?_);clear hK K)
          refine tc 10 fun K hK=> ?_
          (go_simp;(go_at_call 79;refine(l6Speed_any (fun j=>U (k*12+j)) _ bd6 bd7).mono ?_;rintro e w5 ⟨rfl,hb5⟩;have hO5:=hO.on hb5.ofDr;have uf5:=hO5.own.fro;obtain⟨u5_0,u5_1,u5_2,u5_3,u5_4,u5_5,u5_6,u5_7,u5_8,u5_9,u5_10,u5_11⟩:=own12m hO5.own (by omega));(try go_wp2_with fail);refine tr hK (fun hHeld=> ?_);clear hK K)
          refine tc 11 fun K hK=> ?_
          (go_simp;(go_at_call 78;refine(l6Move_any (fun j=>U (k*12+j)) (spX (fun j=>U (k*12+j))) (spY (fun j=>U (k*12+j))) _ bd4 bd5 sbx sby).mono ?_;rintro e w6 ⟨rfl,hb6⟩;have hO6:=hO5.on hb6;have uf6:=hO6.own.fro;obtain⟨u6_0,u6_1,u6_2,u6_3,u6_4,u6_5,u6_6,u6_7,u6_8,u6_9,u6_10,u6_11⟩:=own12m hO6.own (by omega));(try go_wp2_with fail);refine tr hK (fun hHeld=> ?_);clear hK K)
          refine tq 12 hHeld ?_
          refine tc 13 fun K hK=> ?_
          (go_simp;refine tr hK (fun hHeld=> ?_);clear hK K)
          refine wpAnyH_done (by kernel_rfl) ?_ _
          go_wp2_with fail
          have hq:=put12 hO6.own hlt (moveV (fun j=>U (k*12+j)) (spX (fun j=>U (k*12+j))) (spY (fun j=>U (k*12+j))))
          rw[HS.out] at hq
          have hqb:=(putFr (w4:=w6) (g:=g) (p:=k) (moveV (fun j=>U (k*12+j)) (spX (fun j=>U (k*12+j))) (spY (fun j=>U (k*12+j))))).below (B:=w.heap.size) hO6.bel.size (fun b e=>by omega)
          go_roundw
          case rel=>exact⟨k+1,by omega,by go_num,hO6.bel.trans hqb,hq⟩
          case measure=>simp[intOf];omega
        · (go_simp;refine tr hK (fun hHeld=> ?_);clear hK K)
          refine wpAnyH_ready (rs:=[5,10]) (by kernel_rfl) (by simp) ?_
          refine AllReadyH.cons rfl (fun K hK=> ?_) (AllReadyH.cons rfl (fun K hK=> ?_) AllReadyH.nil)
          · (go_simp;refine tr hK (fun hHeld=> ?_);clear hK K)
            refine tc 10 fun K hK=> ?_
            (go_simp;(go_at_call 79;refine(l6Speed_any (fun j=>U (k*12+j)) _ bd6 bd7).mono ?_;rintro e w5 ⟨rfl,hb5⟩;have hO5:=hO.on hb5.ofDr;have uf5:=hO5.own.fro;obtain⟨u5_0,u5_1,u5_2,u5_3,u5_4,u5_5,u5_6,u5_7,u5_8,u5_9,u5_10,u5_11⟩:=own12m hO5.own (by omega));(try go_wp2_with fail);refine tr hK (fun hHeld=> ?_);clear hK K)
            refine tc 11 fun K hK=> ?_
            (go_simp;(go_at_call 78;refine(l6Move_any (fun j=>U (k*12+j)) (spX (fun j=>U (k*12+j))) (spY (fun j=>U (k*12+j))) _ bd4 bd5 sbx sby).mono ?_;rintro e w6 ⟨rfl,hb6⟩;have hO6:=hO5.on hb6;have uf6:=hO6.own.fro;obtain⟨u6_0,u6_1,u6_2,u6_3,u6_4,u6_5,u6_6,u6_7,u6_8,u6_9,u6_10,u6_11⟩:=own12m hO6.own (by omega));(try go_wp2_with fail);refine tr hK (fun hHeld=> ?_);clear hK K)
            refine tq 12 hHeld ?_
            refine tc 13 fun K hK=> ?_
            (go_simp;refine tr hK (fun hHeld=> ?_);clear hK K)
            refine wpAnyH_done (by kernel_rfl) ?_ _
            go_wp2_with fail
            have hq:=put12 hO6.own hlt (moveV (fun j=>U (k*12+j)) (spX (fun j=>U (k*12+j))) (spY (fun j=>U (k*12+j))))
            rw[HS.out] at hq
            have hqb:=(putFr (w4:=w6) (g:=g) (p:=k) (moveV (fun j=>U (k*12+j)) (spX (fun j=>U (k*12+j))) (spY (fun j=>U (k*12+j))))).below (B:=w.heap.size) hO6.bel.size (fun b e=>by omega)
            go_roundw
            case rel=>exact⟨k+1,by omega,by go_num,hO6.bel.trans hqb,hq⟩
            case measure=>simp[intOf];omega
          · (go_simp;(go_at_call 79;refine(l6Speed_any (fun j=>U (k*12+j)) _ bd6 bd7).mono ?_;rintro e w5 ⟨rfl,hb5⟩;have hO5:=hO.on hb5.ofDr;have uf5:=hO5.own.fro;obtain⟨u5_0,u5_1,u5_2,u5_3,u5_4,u5_5,u5_6,u5_7,u5_8,u5_9,u5_10,u5_11⟩:=own12m hO5.own (by omega));(try go_wp2_with fail);refine tr hK (fun hHeld=> ?_);clear hK K)
            refine tc 5 fun K hK=> ?_
            (go_simp;refine tr hK (fun hHeld=> ?_);clear hK K)
            refine tc 11 fun K hK=> ?_
            (go_simp;(go_at_call 78;refine(l6Move_any (fun j=>U (k*12+j)) (spX (fun j=>U (k*12+j))) (spY (fun j=>U (k*12+j))) _ bd4 bd5 sbx sby).mono ?_;rintro e w6 ⟨rfl,hb6⟩;have hO6:=hO5.on hb6;have uf6:=hO6.own.fro;obtain⟨u6_0,u6_1,u6_2,u6_3,u6_4,u6_5,u6_6,u6_7,u6_8,u6_9,u6_10,u6_11⟩:=own12m hO6.own (by omega));(try go_wp2_with fail);refine tr hK (fun hHeld=> ?_);clear hK K)
            refine tq 12 hHeld ?_
            refine tc 13 fun K hK=> ?_
            (go_simp;refine tr hK (fun hHeld=> ?_);clear hK K)
            refine wpAnyH_done (by kernel_rfl) ?_ _
            go_wp2_with fail
            have hq:=put12 hO6.own hlt (moveV (fun j=>U (k*12+j)) (spX (fun j=>U (k*12+j))) (spY (fun j=>U (k*12+j))))
            rw[HS.out] at hq
            have hqb:=(putFr (w4:=w6) (g:=g) (p:=k) (moveV (fun j=>U (k*12+j)) (spX (fun j=>U (k*12+j))) (spY (fun j=>U (k*12+j))))).below (B:=w.heap.size) hO6.bel.size (fun b e=>by omega)
            go_roundw
            case rel=>exact⟨k+1,by omega,by go_num,hO6.bel.trans hqb,hq⟩
            case measure=>simp[intOf];omega
    · have HNO:Shut (mapR (fun _ V=>goV V) U (k+1)=mapR (fun _ V=>goV V) U k):=mapR_same (fun j hj=>by show goV (fun j=>U (k*12+j)) j=_;unfold goV;rw[live_m (V:=(fun j=>U (k*12+j))) hm];rfl)
      go_wp2_with fail
      go_roundw
      case rel=>exact⟨k+1,by omega,by go_num,by rw[HNO.out];exact hO⟩
      case measure=>simp[intOf];omega
  · obtain rfl:k=n:=by omega
    go_wp2_with fail
    go_ret
    exact⟨_,_,rfl,hO⟩
theorem unit_z (x y X Y:Int) (w:World) (hx: -1000000000≤x∧x≤1000000000) (hy: -1000000000≤y∧y≤1000000000) (e1:ux x y=X) (e2:uy x y=Y):
 Calls Tryz.prog 195 #[vv x y] w fun e w'=>e= .returned (vv X Y)∧Below w.heap.size w w':=by
 subst e1;subst e2;exact unit_any x y w hx hy
theorem length_z (x y L:Int) (w:World) (hx: -1000000000≤x∧x≤1000000000) (hy: -1000000000≤y∧y≤1000000000) (e:vl x y=L):
 Calls Tryz.prog 196 #[vv x y] w fun e w'=>e= .returned (.int .i64 L)∧Below w.heap.size w w':=by
 subst e;exact length_any x y w hx hy
theorem roundDent_q (dx dy g X Y D:Int) (K:Bool) (w:World) (qx: -6000000≤dx∧dx≤6000000) (qy: -6000000≤dy∧dy≤6000000) (g0:0≤g∧g≤100000) (e:rdT dx dy g=((X,Y,D),K)):
 Calls Tryz.prog 181 #[vv dx dy,.int .i64 g] w fun e w'=>e= .returned (.tuple #[s3 X Y D,.bool K])∧Below w.heap.size w w':=by
 have hset:=cset_map
 have m3:=mul_bd (a:=g) (b:=g) (A:=100000) (B:=100000) (by omega) (by omega)
 have w3:=i64w (n:=g*g) (by omega)
 unfold rdT at e
 cases dd:decide (g*g<dx*dx+dy*dy) with
 | true=>
   have hn:=of_decide_eq_true dd
   rw[if_neg (by omega)] at e
   simp only[Prod.mk.injEq] at e
   obtain⟨⟨eX,eY,eD⟩,eK⟩:=e
   subst eX
   subst eY
   subst eD
   subst eK
   clear hn m3
   go_enter Tryz.func181,Tryz.ntmps181
   go_wp2_with (go_at_call 194;refine(products_any _ _ _ _ _ (by omega) (by omega) (by omega) (by omega)).mono ?_;rintro e w1 ⟨rfl,hb1⟩;have hz1:=hb1.size;(try simp only[zz] at hz1);have:=kf2 hb1 w.heap.size)
   exact bodyPost_ret (v:= .tuple #[s3 0 0 0,.bool false]) (by simp[results,Tryz.results181,go_sem, *]) rfl ⟨rfl,bel_a⟩
 | false=>
   have hn:=of_decide_eq_false dd
   rw[if_pos (by omega)] at e
   obtain⟨L,eL⟩:∃ z,vl dx dy=z:=⟨_,rfl⟩
   have lb:=vl_bd dx dy
   rw[eL] at lb e
   simp only[Prod.mk.injEq] at e
   obtain⟨⟨eX,eY,eD⟩,eK⟩:=e
   subst eD
   subst eK
   have w4:=i64w (n:=g-L) (by omega)
   clear hn m3
   go_enter Tryz.func181,Tryz.ntmps181
   go_upto_region 3 with(go_at_call 194;refine(products_any _ _ _ _ _ (by omega) (by omega) (by omega) (by omega)).mono ?_;rintro e w1 ⟨rfl,hb1⟩;have hz1:=hb1.size;(try simp only[zz] at hz1);have:=kf2 hb1 w.heap.size)
   refine wp_region_held_drew (S:=fun w'=>w'.cell? ⟨w.heap.size,0,none⟩=some (.int .i64 dx)∧w'.cell? ⟨w.heap.size,1,none⟩=some (.int .i64 dy)) (by kernel_rfl) ?_ (fun hHeld=> ?_)
   · (try dsimp only)
     (first|(go_simp;done)|(go_keep;done))
   refine tq 0 hHeld ?_
   refine tq 2 hHeld ?_
   refine tq 3 hHeld ?_
   (refine tc 1 fun K hK=> ?_;go_simp;(go_at_call 195;refine(unit_z _ _ _ _ _ (by omega) (by omega) eX eY).mono ?_;rintro e w2 ⟨rfl,hb2⟩;have hz2:=hb2.size;(try simp only[zz] at hz2);have:=kf2 hb2 w.heap.size);(try go_wp2_with fail);refine tr hK (fun hHeld=> ?_);clear hK K)
   (refine tc 4 fun K hK=> ?_;go_simp;(go_at_call 196;refine(length_z _ _ _ _ (by omega) (by omega) eL).mono ?_;rintro e w3 ⟨rfl,hb3⟩;have hz3:=hb3.size;(try simp only[zz] at hz3);have:=kf2 hb3 w.heap.size);(try go_wp2_with fail);refine tr hK (fun hHeld=> ?_);clear hK K)
   refine tq 5 hHeld ?_
   refine tq 6 hHeld ?_
   (refine tc 7 fun K hK=> ?_;go_simp;refine tr hK (fun hHeld=> ?_);clear hK K)
   refine tq 8 hHeld ?_
   refine wpAnyH_done (by kernel_rfl) ?_ _
   go_wp2_with fail
   exact bodyPost_ret (v:= .tuple #[s3 X Y (g-L),.bool true]) (by simp[results,Tryz.results181,go_sem, *]) rfl ⟨rfl,bel_a⟩
theorem placedBounds_q (x y g h:Int) (w:World) (qx: -3000000≤x∧x≤3000000) (qy: -3000000≤y∧y≤3000000) (qg: -3000000≤g∧g≤3000000) (qh: -3000000≤h∧h≤3000000):
 Calls Tryz.prog 184 #[b4 x y g h] w fun e w'=>e= .returned (b4 (x-g) (y-h) (x+g) (y+h))∧Below w.heap.size w w':=by
 have hset:=cset_map
 go_enter Tryz.func184,Tryz.ntmps184
 go_wp2_with (go_at_call 197;refine(spanAround_any _ _ _ _ _ (by omega) (by omega) (by omega) (by omega)).mono ?_;rintro e w1 ⟨rfl,hb1⟩;have hz1:=hb1.size;(try simp only[zz] at hz1);have:=kf2 hb1 w.heap.size)
 exact bodyPost_ret (v:=b4 (x-g) (y-h) (x+g) (y+h)) (by simp[results,Tryz.results184,go_sem, *]) rfl ⟨rfl,bel_a⟩
theorem placedWide_q (x y g h:Int) (w:World):
 Calls Tryz.prog 182 #[b4 x y g h] w fun e w'=>e= .returned (.int .i64 g)∧Below w.heap.size w w':=by
 have hset:=cset_map
 go_enter Tryz.func182,Tryz.ntmps182
 go_wp2_with fail
 go_ret
 exact⟨rfl,bel_a⟩
theorem dentHit_q (X Y D:Int) (w:World):
 Calls Tryz.prog 158 #[s3 X Y D] w fun e w'=>e= .returned (s3 X Y D)∧Below w.heap.size w w':=by
 have hset:=cset_map
 go_enter Tryz.func158,Tryz.ntmps158
 go_upto_region 1 with fail
 refine wp_region_held_drew (S:=fun w'=>w'.cell? ⟨w.heap.size,0,none⟩=some (.int .i64 X)∧w'.cell? ⟨w.heap.size,1,none⟩=some (.int .i64 Y)∧w'.cell? ⟨w.heap.size,2,none⟩=some (.int .i64 D)) (by kernel_rfl) ?_ (fun hHeld=> ?_)
 · (try dsimp only)
   (first|(go_simp;done)|(go_keep;done))
 refine tq 0 hHeld ?_
 refine tq 1 hHeld ?_
 refine tq 3 hHeld ?_
 refine tq 4 hHeld ?_
 (refine tc 2 fun K hK=> ?_;go_simp;(go_at_call 124;refine(vec_any _ _ _).mono ?_;rintro e w1 ⟨rfl,hb1⟩;have hz1:=hb1.size;(try simp only[zz] at hz1);have:=kf2 hb1 w.heap.size);(try go_wp2_with fail);refine tr hK (fun hHeld=> ?_);clear hK K)
 refine tq 5 hHeld ?_
 (refine tc 6 fun K hK=> ?_;go_simp;refine tr hK (fun hHeld=> ?_);clear hK K)
 refine wpAnyH_done (by kernel_rfl) ?_ _
 go_wp2_with fail
 exact bodyPost_ret (v:=s3 X Y D) (by simp[results,Tryz.results158,go_sem, *]) rfl ⟨rfl,bel_a⟩
theorem opp_z (x y:Int) (w:World) (hx: -2000000000≤x∧x≤2000000000) (hy: -2000000000≤y∧y≤2000000000):
 Calls Tryz.prog 176 #[vv x y] w fun e w'=>e= .returned (vv (-x) (-y))∧Below w.heap.size w w':=by
 have hset:=cset_map
 have w1:=i64w (n:= -x) (by omega)
 have w2:=i64w (n:= -y) (by omega)
 go_enter Tryz.func176,Tryz.ntmps176
 go_wp2_with fail
 exact bodyPost_ret (v:=vv (-x) (-y)) (by simp[results,Tryz.results176,go_sem, *]) rfl ⟨rfl,bel_a⟩
theorem dentTurned_q (X Y D:Int) (w:World) (hx: -2000000000≤X∧X≤2000000000) (hy: -2000000000≤Y∧Y≤2000000000):
 Calls Tryz.prog 183 #[s3 X Y D] w fun e w'=>e= .returned (s3 (-X) (-Y) D)∧Below w.heap.size w w':=by
 have hset:=cset_map
 go_enter Tryz.func183,Tryz.ntmps183
 go_upto_region 1 with fail
 refine wp_region_held_drew (S:=fun w'=>w'.cell? ⟨w.heap.size,0,none⟩=some (.int .i64 X)∧w'.cell? ⟨w.heap.size,1,none⟩=some (.int .i64 Y)∧w'.cell? ⟨w.heap.size,2,none⟩=some (.int .i64 D)) (by kernel_rfl) ?_ (fun hHeld=> ?_)
 · (try dsimp only)
   (first|(go_simp;done)|(go_keep;done))
 refine tq 0 hHeld ?_
 refine tq 1 hHeld ?_
 refine tq 3 hHeld ?_
 refine tq 4 hHeld ?_
 (refine tc 2 fun K hK=> ?_;go_simp;(go_at_call 176;refine(opp_z _ _ _ (by omega) (by omega)).mono ?_;rintro e w1 ⟨rfl,hb1⟩;have hz1:=hb1.size;(try simp only[zz] at hz1);have:=kf2 hb1 w.heap.size);(try go_wp2_with fail);refine tr hK (fun hHeld=> ?_);clear hK K)
 refine tq 5 hHeld ?_
 (refine tc 6 fun K hK=> ?_;go_simp;refine tr hK (fun hHeld=> ?_);clear hK K)
 refine wpAnyH_done (by kernel_rfl) ?_ _
 go_wp2_with fail
 exact bodyPost_ret (v:=s3 (-X) (-Y) D) (by simp[results,Tryz.results183,go_sem, *]) rfl ⟨rfl,bel_a⟩
def stp (G:Nat→Nat):Option (Nat×Nat)→Nat→Nat
 |none=>G
 |some (A,B)=>fun j=>if j=A∨j=B then min (G A) (G B) else G j
def rnd (E:Nat→Option (Nat×Nat)) (G:Nat→Nat):Nat→Nat→Nat
 |0=>G
 |k+1=>stp (rnd E G k) (E k)
def rnds (E:Nat→Option (Nat×Nat)) (M:Nat):Nat→Nat→Nat
 |0=>fun j=>j
 |r+1=>rnd E (rnds E M r) M
def jn (L:Nat→Nat):Option (Nat×Nat)→Nat→Nat
 |none=>L
 |some (A,B)=>fun j=>if L j=max (L A) (L B) then min (L A) (L B) else L j
def lab (E:Nat→Option (Nat×Nat)):Nat→Nat→Nat
 |0=>fun j=>j
 |k+1=>jn (lab E k) (E k)
theorem lab_le (E:Nat→Option (Nat×Nat)):∀ k j,lab E k j≤j
 |0,j=>Nat.le_refl _
 | k+1,j=>by
   have ih:=lab_le E k
   rw[lab]
   cases h:E k with
   |none=>exact ih j
   | some p=>
     obtain⟨A,B⟩:=p
     show (if lab E k j=max (lab E k A) (lab E k B) then min (lab E k A) (lab E k B) else lab E k j)≤j
     have:=ih j
     split<;>omega
theorem lab_edge (E:Nat→Option (Nat×Nat)):∀ k i A B,i<k→E i=some (A,B)→lab E k A=lab E k B
 |0,i,_,_,h,_=>absurd h (Nat.not_lt_zero _)
 | k+1,i,A,B,h,e=>by
   rw[lab]
   cases hk:E k with
   | none=>
     by_cases hi:i=k
     · subst hi;rw[hk] at e;cases e
     · exact lab_edge E k i A B (by omega) e
   | some p=>
     obtain⟨C,D⟩:=p
     show (if lab E k A=max (lab E k C) (lab E k D) then min (lab E k C) (lab E k D) else lab E k A)=(if lab E k B=max (lab E k C) (lab E k D) then min (lab E k C) (lab E k D) else lab E k B)
     by_cases hi:i=k
     · subst hi
       rw[hk] at e
       simp only[Option.some.injEq,Prod.mk.injEq] at e
       obtain⟨rfl,rfl⟩:=e
       split<;>split<;>omega
     · rw[lab_edge E k i A B (by omega) e]
theorem lab_set (E:Nat→Option (Nat×Nat)) (X:Nat→Prop):∀ k,(∀ i A B,i<k→E i=some (A,B)→(X A↔X B))→∀ j,(X (lab E k j)↔X j)
 |0,_,j=>Iff.rfl
 | k+1,hX,j=>by
   have ih:=lab_set E X k (fun i A B h e=>hX i A B (by omega) e)
   rw[lab]
   cases hk:E k with
   |none=>exact ih j
   | some p=>
     obtain⟨A,B⟩:=p
     show X (if lab E k j=max (lab E k A) (lab E k B) then min (lab E k A) (lab E k B) else lab E k j)↔X j
     have hAB:=hX k A B (Nat.lt_succ_self _) hk
     have h1:=ih A
     have h2:=ih B
     have h3:=ih j
     by_cases e:lab E k j=max (lab E k A) (lab E k B)
     · rw[if_pos e]
       rcases Nat.le_total (lab E k A) (lab E k B) with q|q
       · rw[Nat.min_eq_left q]
         rw[Nat.max_eq_right q] at e
         rw[e] at h3
         exact h1.trans (hAB.trans (h2.symm.trans h3))
       · rw[Nat.min_eq_right q]
         rw[Nat.max_eq_left q] at e
         rw[e] at h3
         exact h2.trans (hAB.symm.trans (h1.symm.trans h3))
     · rw[if_neg e];exact h3
theorem lab_idem (E:Nat→Option (Nat×Nat)) (k j:Nat):lab E k (lab E k j)=lab E k j:=
 (lab_set E (fun x=>lab E k x=lab E k j) k (fun i A B h e=>by rw[lab_edge E k i A B h e]) j).2 rfl
theorem stp_le (G:Nat→Nat) (e:Option (Nat×Nat)) (j:Nat):stp G e j≤G j:=by
 cases e with
 |none=>exact Nat.le_refl _
 | some p=>
   obtain⟨A,B⟩:=p
   show (if j=A∨j=B then min (G A) (G B) else G j)≤G j
   by_cases h:j=A∨j=B
   · rw[if_pos h]
     rcases h with rfl|rfl
     · exact Nat.min_le_left _ _
     · exact Nat.min_le_right _ _
   · rw[if_neg h];exact Nat.le_refl _
theorem rnd_le (E:Nat→Option (Nat×Nat)) (G:Nat→Nat):∀ k j,rnd E G k j≤G j
 |0,_=>Nat.le_refl _
 |k+1,j=>Nat.le_trans (stp_le _ _ _) (rnd_le E G k j)
theorem rnd_mono (E:Nat→Option (Nat×Nat)) (G:Nat→Nat) (k:Nat):∀ m,k≤m→∀ j,rnd E G m j≤rnd E G k j
 | 0,h,j=>by
   obtain rfl:k=0:=by omega
   exact Nat.le_refl _
 | m+1,h,j=>by
   by_cases e:k=m+1
   · subst e;exact Nat.le_refl _
   · exact Nat.le_trans (stp_le _ _ _) (rnd_mono E G k m (by omega) j)
def Same (L G:Nat→Nat):Prop:=∀ j,L (G j)=L j
theorem stp_same {L G:Nat→Nat} {e:Option (Nat×Nat)} (h:Same L G) (he:∀ A B,e=some (A,B)→L A=L B):Same L (stp G e):=by
 intro j
 cases e with
 |none=>exact h j
 | some p=>
   obtain⟨A,B⟩:=p
   have q:=he A B rfl
   show L (if j=A∨j=B then min (G A) (G B) else G j)=L j
   by_cases hj:j=A∨j=B
   · rw[if_pos hj]
     have hm:L (min (G A) (G B))=L A:=by
      rcases Nat.le_total (G A) (G B) with z|z
      · rw[Nat.min_eq_left z];exact h A
      · rw[Nat.min_eq_right z];exact(h B).trans q.symm
     rw[hm]
     rcases hj with rfl|rfl
     · rfl
     · exact q
   · rw[if_neg hj];exact h j
theorem rnd_same {E:Nat→Option (Nat×Nat)} {L G:Nat→Nat} {M:Nat} (hE:∀ i A B,i<M→E i=some (A,B)→L A=L B) (h:Same L G):∀ k,k≤M→Same L (rnd E G k)
 |0,_=>h
 |k+1,hk=>stp_same (rnd_same hE h k (by omega)) (fun A B e=>hE k A B (by omega) e)
theorem rnds_same {E:Nat→Option (Nat×Nat)} {L:Nat→Nat} {M:Nat} (hE:∀ i A B,i<M→E i=some (A,B)→L A=L B):∀ r,Same L (rnds E M r)
 |0=>fun _=>rfl
 |r+1=>rnd_same hE (rnds_same hE r) M (Nat.le_refl _)
theorem rnds_le (E:Nat→Option (Nat×Nat)) (M:Nat):∀ r j,rnds E M r j≤j
 |0,_=>Nat.le_refl _
 |r+1,j=>Nat.le_trans (rnd_le E _ M j) (rnds_le E M r j)
def cntp (p:Nat→Bool):Nat→Nat
 |0=>0
 |n+1=>cntp p n+(if p n=true then 1 else 0)
theorem cntp_le (p:Nat→Bool):∀ n,cntp p n≤n
 |0=>Nat.le_refl _
 |n+1=>by have:=cntp_le p n;rw[cntp];split<;>omega
theorem cntp_mono {p q:Nat→Bool}:∀ n,(∀ v,v<n→p v=true→q v=true)→cntp p n≤cntp q n
 |0,_=>Nat.le_refl _
 | n+1,h=>by
   have a:=cntp_mono (p:=p) (q:=q) n (fun v hv=>h v (by omega))
   have b:=h n (by omega)
   rw[cntp,cntp]
   by_cases e:p n=true
   · rw[if_pos e,if_pos (b e)];omega
   · rw[if_neg e];omega
theorem cntp_lt {p q:Nat→Bool} {y:Nat}:∀ n,y<n→(∀ v,v<n→p v=true→q v=true)→p y=false→q y=true→cntp p n<cntp q n
 |0,h,_,_,_=>absurd h (Nat.not_lt_zero _)
 | n+1,h,hm,h1,h2=>by
   rw[cntp,cntp]
   by_cases e:y=n
   · subst e
     have a:=cntp_mono (p:=p) (q:=q) y (fun v hv=>hm v (by omega))
     rw[if_neg (by rw[h1];simp),if_pos h2];omega
   · have a:=cntp_lt n (by omega) (fun v hv=>hm v (by omega)) h1 h2
     have b:=hm n (by omega)
     by_cases z:p n=true
     · rw[if_pos z,if_pos (b z)];omega
     · rw[if_neg z];omega
theorem rnds_lab (E:Nat→Option (Nat×Nat)) (M n:Nat) (hE:∀ i A B,i<M→E i=some (A,B)→A<n∧B<n):∀ v,v<n→rnds E M n v=lab E M v:=by
 have hedge:=fun i A B (h:i<M) (e:E i=some (A,B))=>lab_edge E M i A B h e
 have hsame:=rnds_same (E:=E) (L:=lab E M) (M:=M) hedge
 have hge:∀ r j,lab E M j≤rnds E M r j:=fun r j=>by
  have a:=lab_le E M (rnds E M r j)
  rw[hsame r j] at a
  exact a
 have key:∀ r,(∀ v,v<n→rnds E M r v=lab E M v)∨r<cntp (fun v=>decide (rnds E M r v=lab E M v)) n:=by
  intro r
  induction r with
  | zero=>
    by_cases h0:n=0
    · left;intro v hv;omega
    · right
      have z:lab E M 0=0:=by have:=lab_le E M 0;omega
      have:=cntp_lt (p:=fun _=>false) (q:=fun v=>decide (rnds E M 0 v=lab E M v)) (y:=0) n (by omega) (fun _ _ h=>by cases h) rfl (by show decide (0=lab E M 0)=true;rw[z];rfl)
      omega
  | succ r ih=>
    have mono:∀ v,rnds E M r v=lab E M v→rnds E M (r+1) v=lab E M v:=fun v e=>by
     have a:=rnd_le E (rnds E M r) M v
     have b:=hge (r+1) v
     have c:rnds E M (r+1) v=rnd E (rnds E M r) M v:=rfl
     omega
    rcases ih with ih|ih
    · left;intro v hv;exact mono v (ih v hv)
    · by_cases all:∀ v,v<n→rnds E M (r+1) v=lab E M v
      · left;exact all
      · right
        -- an edge that parts what is there from what is not
        have cross:∃ y,y<n∧rnds E M r y≠lab E M y∧rnds E M (r+1) y=lab E M y:=by
         refine Classical.byContradiction fun hno=>all fun v hv=>mono v ?_
         have closed:∀ i A B,i<M→E i=some (A,B)→(rnds E M r A=lab E M A↔rnds E M r B=lab E M B):=by
          intro i A B hi e
          have hb:=hE i A B hi e
          have hl:=hedge i A B hi e
          have st:rnd E (rnds E M r) (i+1) A=min (rnd E (rnds E M r) i A) (rnd E (rnds E M r) i B)∧rnd E (rnds E M r) (i+1) B=min (rnd E (rnds E M r) i A) (rnd E (rnds E M r) i B):=by
           constructor
           · show stp _ (E i) A=_;rw[e];show (if A=A∨A=B then _ else _)=_;rw[if_pos (.inl rfl)]
           · show stp _ (E i) B=_;rw[e];show (if B=A∨B=B then _ else _)=_;rw[if_pos (.inr rfl)]
          have mA:=rnd_mono E (rnds E M r) (i+1) M (by omega) A
          have mB:=rnd_mono E (rnds E M r) (i+1) M (by omega) B
          have lA:=rnd_le E (rnds E M r) i A
          have lB:=rnd_le E (rnds E M r) i B
          have gA:=hge (r+1) A
          have gB:=hge (r+1) B
          have cA:rnds E M (r+1) A=rnd E (rnds E M r) M A:=rfl
          have cB:rnds E M (r+1) B=rnd E (rnds E M r) M B:=rfl
          rw[cA] at gA
          rw[cB] at gB
          have eA:=st.1
          have eB:=st.2
          constructor
          · intro h
            refine Classical.byContradiction fun hn=>hno ⟨B,hb.2,hn,?_⟩
            rw[cB]
            have:=Nat.min_le_left (rnd E (rnds E M r) i A) (rnd E (rnds E M r) i B)
            omega
          · intro h
            refine Classical.byContradiction fun hn=>hno ⟨A,hb.1,hn,?_⟩
            rw[cA]
            have:=Nat.min_le_right (rnd E (rnds E M r) i A) (rnd E (rnds E M r) i B)
            omega
         refine(lab_set E (fun x=>rnds E M r x=lab E M x) M closed v).1 ?_
         have a:=rnds_le E M r (lab E M v)
         have b:=hge r (lab E M v)
         rw[lab_idem] at b ⊢
         omega
        obtain⟨y,hy,h1,h2⟩:=cross
        have:=cntp_lt (p:=fun v=>decide (rnds E M r v=lab E M v)) (q:=fun v=>decide (rnds E M (r+1) v=lab E M v)) (y:=y) n hy (fun v _ h=>decide_eq_true (mono v (of_decide_eq_true h))) (decide_eq_false h1) (decide_eq_true h2)
        omega
 rcases key n with h|h
 · exact h
 · have:=cntp_le (fun v=>decide (rnds E M n v=lab E M v)) n
   omega
end Go.Proofs.YtcalhcfinkhemaaGreatDoor
