/- Texts of a proof. -/
import Derived.Test.YtpmjnpmnocjjgaaGreatDoorB14
import Derived.Test.YtpmjnpmnocjjgaaGreatDoorB16
import Derived.Deep.RegionHeld3
import Derived.Deep.DeepCutAuto
import Derived.Test.YtpmjnpmnocjjgaaGreatDoorB18
import Derived.Test.YtpmjnpmnocjjgaaGreatDoorB5
import Derived.Test.YtpmjnpmnocjjgaaGreatDoorB11
set_option maxHeartbeats 16000000
set_option maxRecDepth 20000
namespace Go.Proofs.YtpmjnpmnocjjgaaGreatDoor
open Go.RowKit
set_option linter.unusedVariables false
set_option linter.unusedSimpArgs false
def mvX (V:Nat→Int) (p:Int):Int:=clampZ 2560000 (V 4+p)
def mvY (V:Nat→Int) (q:Int):Int:=clampZ 2560000 (V 5+q)
def moveV (V:Nat→Int) (p q:Int):Nat→Int:=setV (setV (setV (setV V 4 (mvX V p)) 5 (mvY V q)) 6 (if mvX V p=V 4+p then V 6 else 0)) 7 (if mvY V q=V 5+q then V 7 else 0)
theorem setV_self (V:Nat→Int) (k:Nat):setV V k (V k)=V:=by funext j;unfold setV;split<;>simp_all
theorem setV_at (V:Nat→Int) (k j:Nat) (a:Int) (h:j≠k):setV V k a j=V j:=by unfold setV;rw[if_neg h]
theorem setV_is (V:Nat→Int) (k:Nat) (a:Int):setV V k a k=a:=by unfold setV;rw[if_pos rfl]
theorem l6Within_q (n m a:Int) (w:World) (h0:0≤m) (h1:m≤4000000000) (e:clampZ m n=a):
 Calls Tryz.prog 51 #[.int .i64 n,.int .i64 m] w fun e w'=>e= .returned (.int .i64 a)∧w'=w:=by
 subst e;exact l6Within_any n m w h0 h1
theorem l6Move_c (V:Nat→Int) (p q A B C D:Int) (w:World) (b4: -2560000≤V 4∧V 4≤2560000) (b5: -2560000≤V 5∧V 5≤2560000) (bp: -20000000≤p∧p≤20000000) (bq: -20000000≤q∧q≤20000000)
 (eA:clampZ 2560000 (V 4+p)=A) (eB:clampZ 2560000 (V 5+q)=B) (eC:(if A=V 4+p then V 6 else 0)=C) (eD:(if B=V 5+q then V 7 else 0)=D):
 Calls Tryz.prog 68 #[bodyW V,vv p q] w fun e w'=>e= .returned (bodyW (setV (setV (setV (setV V 4 A) 5 B) 6 C) 7 D))∧Below w.heap.size w w':=by
 have hset:=cset_map
 obtain⟨U,hU⟩:∃ U,setV (setV V 4 A) 5 B=U:=⟨_,rfl⟩
 obtain⟨X,hX⟩:∃ X,setV (setV U 6 C) 7 D=X:=⟨_,rfl⟩
 have i6U:U 6=V 6:=by rw[←hU,setV_at _ _ _ _ (by omega),setV_at _ _ _ _ (by omega)]
 have i7U:U 7=V 7:=by rw[←hU,setV_at _ _ _ _ (by omega),setV_at _ _ _ _ (by omega)]
 have i4U:U 4=A:=by rw[←hU,setV_at _ _ _ _ (by omega),setV_is]
 have i5U:U 5=B:=by rw[←hU,setV_is]
 rw[hU,hX]
 go_enter Tryz.func68,Tryz.ntmps68
 go_upto_region 1 with fail
 have h0:=PB.start w V p q
 generalize (((w.alloc (.cells #[.int .i64 (V 0),.int .i64 (V 1),.int .i64 (V 2),.int .i64 (V 3),.int .i64 (V 4),.int .i64 (V 5),.int .i64 (V 6),.int .i64 (V 7),.int .i64 (V 8),.int .i64 (V 9),.int .i64 (V 10),.int .i64 (V 11)] 35)).alloc (.cells #[.int .i64 p,.int .i64 q] 33)).alloc (.cells #[.int .i64 0,.int .i64 0,.int .i64 0,.int .i64 0,.int .i64 0,.int .i64 0,.int .i64 0,.int .i64 0,.int .i64 0,.int .i64 0,.int .i64 0,.int .i64 0] 35))=wx0 at h0 ⊢
 have i4:=h0.inn 4 (by omega)
 have i5:=h0.inn 5 (by omega)
 have n4:=h0.nfi 4 (by omega)
 have n5:=h0.nfi 5 (by omega)
 have y0:=h0.v0
 have y1:=h0.v1
 go_upto_region 3 with fail
 go_cut [] (fun wc=>PB w wc U p q)
 case first=>
  go_wp2_with (go_at_call 51;refine(l6Within_q _ _ _ _ (by omega) (by omega) (by with_reducible assumption)).mono ?_;rintro e w' ⟨rfl,rfl⟩)
  go_meet
  have q9:=PB.set (PB.set h0 (k:=4) (by omega) A) (k:=5) (by omega) B
  rw[hU] at q9
  exact q9
 case rest=>
 have h1:=hcut
 clear i4 i5 n4 n5 y0 y1 h0 hcut
 have i4:=h1.inn 4 (by omega)
 have i5:=h1.inn 5 (by omega)
 have i6:=h1.inn 6 (by omega)
 have i7:=h1.inn 7 (by omega)
 have n6:=h1.nfi 6 (by omega)
 have n7:=h1.nfi 7 (by omega)
 rw[i4U] at i4
 rw[i5U] at i5
 by_cases cA:A=V 4+p
 focus
  rw[if_pos cA] at eC;subst eC
  by_cases cB:B=V 5+q
  focus
   rw[if_pos cB] at eD;subst eD
   have hXU:X=U:=by rw[←hX,←i6U,setV_self,←i7U,setV_self]
   go_upto_region 8 with fail
   have h3:=h1
   rw[←hXU] at h3
   generalize wc=wq at h3 ⊢
  rotate_left
  focus
   rw[if_neg cB] at eD;subst eD
   have hXU:X=(setV U 7 0):=by rw[←hX,←i6U,setV_self]
   go_upto_region 8 with fail
   have h3:=(PB.set h1 (k:=7) (by omega) 0)
   rw[←hXU] at h3
   generalize (wc.setCell ⟨w.heap.size,7,none⟩ (.int .i64 0))=wq at h3 ⊢
 rotate_left 2
 focus
  rw[if_neg cA] at eC;subst eC
  by_cases cB:B=V 5+q
  focus
   rw[if_pos cB] at eD;subst eD
   have hXU:X=(setV U 6 0):=by rw[←hX,←i7U,←setV_at U 6 7 0 (by omega),setV_self]
   go_upto_region 8 with fail
   have h3:=(PB.set h1 (k:=6) (by omega) 0)
   rw[←hXU] at h3
   generalize (wc.setCell ⟨w.heap.size,6,none⟩ (.int .i64 0))=wq at h3 ⊢
  rotate_left
  focus
   rw[if_neg cB] at eD;subst eD
   have hXU:X=(setV (setV U 6 0) 7 0):=by rw[←hX]
   go_upto_region 8 with fail
   have h3:=(PB.set (PB.set h1 (k:=6) (by omega) 0) (k:=7) (by omega) 0)
   rw[←hXU] at h3
   generalize ((wc.setCell ⟨w.heap.size,6,none⟩ (.int .i64 0)).setCell ⟨w.heap.size,7,none⟩ (.int .i64 0))=wq at h3 ⊢
 all_goals
  clear i4 i5 i6 i7 n6 n7 h1 hXU hX hU i6U i7U i4U i5U cA cB eA eB
  have o0:=h3.inn 0 (by omega)
  have r0:=h3.res 0 (by omega)
  have f0:=h3.nfr 0 (by omega)
  have o1:=h3.inn 1 (by omega)
  have r1:=h3.res 1 (by omega)
  have f1:=h3.nfr 1 (by omega)
  have o2:=h3.inn 2 (by omega)
  have r2:=h3.res 2 (by omega)
  have f2:=h3.nfr 2 (by omega)
  have o3:=h3.inn 3 (by omega)
  have r3:=h3.res 3 (by omega)
  have f3:=h3.nfr 3 (by omega)
  have o4:=h3.inn 4 (by omega)
  have r4:=h3.res 4 (by omega)
  have f4:=h3.nfr 4 (by omega)
  have o5:=h3.inn 5 (by omega)
  have r5:=h3.res 5 (by omega)
  have f5:=h3.nfr 5 (by omega)
  have o6:=h3.inn 6 (by omega)
  have r6:=h3.res 6 (by omega)
  have f6:=h3.nfr 6 (by omega)
  have o7:=h3.inn 7 (by omega)
  have r7:=h3.res 7 (by omega)
  have f7:=h3.nfr 7 (by omega)
  have o8:=h3.inn 8 (by omega)
  have r8:=h3.res 8 (by omega)
  have f8:=h3.nfr 8 (by omega)
  have o9:=h3.inn 9 (by omega)
  have r9:=h3.res 9 (by omega)
  have f9:=h3.nfr 9 (by omega)
  have o10:=h3.inn 10 (by omega)
  have r10:=h3.res 10 (by omega)
  have f10:=h3.nfr 10 (by omega)
  have o11:=h3.inn 11 (by omega)
  have r11:=h3.res 11 (by omega)
  have f11:=h3.nfr 11 (by omega)
  have z0:=h3.big
  have hbel:=h3.bel
  clear h3
  go_wp2_with fail
  exact bodyPost_ret (v:=bodyW X) (by simp[results,Tryz.results68,go_sem, *]) rfl ⟨rfl,bel_a⟩
theorem l6Move_any (V:Nat→Int) (p q:Int) (w:World) (b4: -2560000≤V 4∧V 4≤2560000) (b5: -2560000≤V 5∧V 5≤2560000) (bp: -20000000≤p∧p≤20000000) (bq: -20000000≤q∧q≤20000000):
 Calls Tryz.prog 68 #[bodyW V,vv p q] w fun e w'=>e= .returned (bodyW (moveV V p q))∧Below w.heap.size w w':=
 l6Move_c V p q _ _ _ _ w b4 b5 bp bq rfl rfl rfl rfl
theorem sp_bd {V:Nat→Int} (b6: -20000000≤V 6∧V 6≤20000000) (b7: -20000000≤V 7∧V 7≤20000000):(-20000000≤spX V∧spX V≤20000000)∧(-20000000≤spY V∧spY V≤20000000):=by
 have t6:=tdiv_bd (x:=V 6) (B:=20000000) (V 8) (by omega)
 have t7:=tdiv_bd (x:=V 7) (B:=20000000) (V 8) (by omega)
 unfold spX spY
 by_cases m:V 8=0
 · rw[if_pos m,if_pos m];omega
 · rw[if_neg m,if_neg m];omega
def goV (V:Nat→Int):Nat→Int:=bif liveV V then moveV V (spX V) (spY V) else V
theorem own12m {w:World} {base t g n c k:Nat} {f:Nat→(Nat→Int)→Nat→Int} {U:Nat→Int} (h:OwnL w base t 12 (.slice (some ⟨g,0,none⟩) n c) n (mapR f U k)) (hk:k<n):
 w.cell? ⟨g,k*12,none⟩=some (.int .i64 (U (k*12)))∧w.cell? ⟨g,k*12+1,none⟩=some (.int .i64 (U (k*12+1)))∧w.cell? ⟨g,k*12+2,none⟩=some (.int .i64 (U (k*12+2)))∧w.cell? ⟨g,k*12+3,none⟩=some (.int .i64 (U (k*12+3)))∧w.cell? ⟨g,k*12+4,none⟩=some (.int .i64 (U (k*12+4)))∧w.cell? ⟨g,k*12+5,none⟩=some (.int .i64 (U (k*12+5)))∧w.cell? ⟨g,k*12+6,none⟩=some (.int .i64 (U (k*12+6)))∧w.cell? ⟨g,k*12+7,none⟩=some (.int .i64 (U (k*12+7)))∧w.cell? ⟨g,k*12+8,none⟩=some (.int .i64 (U (k*12+8)))∧w.cell? ⟨g,k*12+9,none⟩=some (.int .i64 (U (k*12+9)))∧w.cell? ⟨g,k*12+10,none⟩=some (.int .i64 (U (k*12+10)))∧w.cell? ⟨g,k*12+11,none⟩=some (.int .i64 (U (k*12+11))):=
 have q:∀ j,j<12→w.cell? ⟨g,k*12+j,none⟩=some (.int .i64 (U (k*12+j))):=fun j hj=>by
  have q:=h.cellq (q:=k*12+j) (by omega)
  rw[mapR_row] at q
  exact q
 ⟨q 0 (by decide),q 1 (by decide),q 2 (by decide),q 3 (by decide),q 4 (by decide),q 5 (by decide),q 6 (by decide),q 7 (by decide),q 8 (by decide),q 9 (by decide),q 10 (by decide),q 11 (by decide)⟩
theorem l9Moves_any (a:Option Addr) (n c:Nat) (U:Nat→Int) (w:World) (h:Flat w a (n*12) U) (hn:n≤1048576) (hbb:Bods n U):
 Calls Tryz.prog 37 #[.slice a n c] w fun e w'=>∃ a1 c1,e= .returned (.slice a1 n c1)∧OutL w w' 35 12 a1 n c1 (mapR (fun _ V=>goV V) U n):=by
 have hset:=cset_map
 go_enter Tryz.func37,Tryz.ntmps37
 go_upto_region 1 with fail
 go_cut [3] (fun s0 wc=>∃ a1 c1,s0= .slice a1 n c1∧OutL w wc 35 12 a1 n c1 U)
 case first=>
  go_wp2_with (go_at_call 65;refine(l8Copy_any a n c U _ h hn).mono ?_;rintro e w3 ⟨a1,c1,rfl,hO⟩)
  go_meet
  exact⟨_,_,rfl,hO⟩
 case rest=>
 obtain⟨a1,c1,rfl,hO⟩:=hcut
 go_upto_region 3 with fail
 go_loopw [4] (fun s wr=>∃ k:Nat,k≤n∧s= .int .i64 (k:Int)∧OutL w wr 35 12 a1 n c1 (mapR (fun _ V=>goV V) U k)) (fun s _=>n-(intOf s).toNat)
 case atStart=>exact⟨0,Nat.zero_le _,rfl,by rw[mapR_0];exact hO⟩
 case round=>
  clear hO
  obtain⟨k,hk,rfl,hO⟩:=hrel
  by_cases hlt:k<n
  · have hkn:(k:Int)<(n:Int):=by omega
    obtain⟨g,rfl,hg1,hg2⟩:=hO.own.loc (by omega)
    have d0:wr.cell? ⟨g,k*12,none⟩=some (.int .i64 (U (k*12))):=by have q:=hO.own.cellq (q:=k*12+0) (by omega);rw[mapR_row] at q;exact q
    have d1:wr.cell? ⟨g,k*12+1,none⟩=some (.int .i64 (U (k*12+1))):=by have q:=hO.own.cellq (q:=k*12+1) (by omega);rw[mapR_row] at q;exact q
    have d2:wr.cell? ⟨g,k*12+2,none⟩=some (.int .i64 (U (k*12+2))):=by have q:=hO.own.cellq (q:=k*12+2) (by omega);rw[mapR_row] at q;exact q
    have d3:wr.cell? ⟨g,k*12+3,none⟩=some (.int .i64 (U (k*12+3))):=by have q:=hO.own.cellq (q:=k*12+3) (by omega);rw[mapR_row] at q;exact q
    have d4:wr.cell? ⟨g,k*12+4,none⟩=some (.int .i64 (U (k*12+4))):=by have q:=hO.own.cellq (q:=k*12+4) (by omega);rw[mapR_row] at q;exact q
    have d5:wr.cell? ⟨g,k*12+5,none⟩=some (.int .i64 (U (k*12+5))):=by have q:=hO.own.cellq (q:=k*12+5) (by omega);rw[mapR_row] at q;exact q
    have d6:wr.cell? ⟨g,k*12+6,none⟩=some (.int .i64 (U (k*12+6))):=by have q:=hO.own.cellq (q:=k*12+6) (by omega);rw[mapR_row] at q;exact q
    have d7:wr.cell? ⟨g,k*12+7,none⟩=some (.int .i64 (U (k*12+7))):=by have q:=hO.own.cellq (q:=k*12+7) (by omega);rw[mapR_row] at q;exact q
    have d8:wr.cell? ⟨g,k*12+8,none⟩=some (.int .i64 (U (k*12+8))):=by have q:=hO.own.cellq (q:=k*12+8) (by omega);rw[mapR_row] at q;exact q
    have d9:wr.cell? ⟨g,k*12+9,none⟩=some (.int .i64 (U (k*12+9))):=by have q:=hO.own.cellq (q:=k*12+9) (by omega);rw[mapR_row] at q;exact q
    have d10:wr.cell? ⟨g,k*12+10,none⟩=some (.int .i64 (U (k*12+10))):=by have q:=hO.own.cellq (q:=k*12+10) (by omega);rw[mapR_row] at q;exact q
    have d11:wr.cell? ⟨g,k*12+11,none⟩=some (.int .i64 (U (k*12+11))):=by have q:=hO.own.cellq (q:=k*12+11) (by omega);rw[mapR_row] at q;exact q
    have df:=hO.own.fro
    obtain⟨_,_,bd4,bd5,bd6,bd7,_⟩:=bodyB_bd (hbb.ok k hlt)
    obtain⟨sbx,sby⟩:=sp_bd (V:=(fun j=>U (k*12+j))) bd6 bd7
    obtain⟨SL,hSL⟩:∃ b,decide (8≤(fun j=>U (k*12+j)) 11)=b:=⟨_,rfl⟩
    by_cases hm:0<U (k*12+8)
    · cases SL with
      | true=>
        have HNO:Shut (mapR (fun _ V=>goV V) U (k+1)=mapR (fun _ V=>goV V) U k):=mapR_same (fun j hj=>by show goV (fun j=>U (k*12+j)) j=_;unfold goV;rw[live_s hSL];rfl)
        go_wp2_with (go_at_call 64;refine(l6Sleeps_k (fun j=>U (k*12+j)) _ true hSL).mono ?_;rintro e w4 ⟨rfl,hb4⟩)
        go_roundw
        case rel=>exact⟨k+1,by omega,by go_num,by rw[HNO.out];exact hO.on hb4⟩
        case measure=>simp[intOf];omega
      | false=>
        have HS:Shut (putRow (mapR (fun _ V=>goV V) U k) k (moveV (fun j=>U (k*12+j)) (spX (fun j=>U (k*12+j))) (spY (fun j=>U (k*12+j))))=mapR (fun _ V=>goV V) U (k+1)):=by
         show _=_
         rw[←mapR_set]
         congr 1
         show _=goV (fun j=>U (k*12+j))
         unfold goV
         rw[live_t (V:=(fun j=>U (k*12+j))) hm hSL]
         rfl
        go_upto_region 6 with(go_at_call 64;refine(l6Sleeps_k (fun j=>U (k*12+j)) _ false hSL).mono ?_;rintro e w4 ⟨rfl,hb4⟩)
        have hO4:=hO.on hb4
        clear hO df d0 d1 d2 d3 d4 d5 d6 d7 d8 d9 d10 d11
        have hO:=hO4
        clear hO4 hb4
        have d0:w4.cell? ⟨g,k*12,none⟩=some (.int .i64 (U (k*12))):=by have q:=hO.own.cellq (q:=k*12+0) (by omega);rw[mapR_row] at q;exact q
        have d1:w4.cell? ⟨g,k*12+1,none⟩=some (.int .i64 (U (k*12+1))):=by have q:=hO.own.cellq (q:=k*12+1) (by omega);rw[mapR_row] at q;exact q
        have d2:w4.cell? ⟨g,k*12+2,none⟩=some (.int .i64 (U (k*12+2))):=by have q:=hO.own.cellq (q:=k*12+2) (by omega);rw[mapR_row] at q;exact q
        have d3:w4.cell? ⟨g,k*12+3,none⟩=some (.int .i64 (U (k*12+3))):=by have q:=hO.own.cellq (q:=k*12+3) (by omega);rw[mapR_row] at q;exact q
        have d4:w4.cell? ⟨g,k*12+4,none⟩=some (.int .i64 (U (k*12+4))):=by have q:=hO.own.cellq (q:=k*12+4) (by omega);rw[mapR_row] at q;exact q
        have d5:w4.cell? ⟨g,k*12+5,none⟩=some (.int .i64 (U (k*12+5))):=by have q:=hO.own.cellq (q:=k*12+5) (by omega);rw[mapR_row] at q;exact q
        have d6:w4.cell? ⟨g,k*12+6,none⟩=some (.int .i64 (U (k*12+6))):=by have q:=hO.own.cellq (q:=k*12+6) (by omega);rw[mapR_row] at q;exact q
        have d7:w4.cell? ⟨g,k*12+7,none⟩=some (.int .i64 (U (k*12+7))):=by have q:=hO.own.cellq (q:=k*12+7) (by omega);rw[mapR_row] at q;exact q
        have d8:w4.cell? ⟨g,k*12+8,none⟩=some (.int .i64 (U (k*12+8))):=by have q:=hO.own.cellq (q:=k*12+8) (by omega);rw[mapR_row] at q;exact q
        have d9:w4.cell? ⟨g,k*12+9,none⟩=some (.int .i64 (U (k*12+9))):=by have q:=hO.own.cellq (q:=k*12+9) (by omega);rw[mapR_row] at q;exact q
        have d10:w4.cell? ⟨g,k*12+10,none⟩=some (.int .i64 (U (k*12+10))):=by have q:=hO.own.cellq (q:=k*12+10) (by omega);rw[mapR_row] at q;exact q
        have d11:w4.cell? ⟨g,k*12+11,none⟩=some (.int .i64 (U (k*12+11))):=by have q:=hO.own.cellq (q:=k*12+11) (by omega);rw[mapR_row] at q;exact q
        refine wp_region_held_drew (S:=fun w'=>(1:Nat)≤2) (by kernel_rfl) ?_ (fun hHeld=> ?_)
        · (try dsimp only)
          (first|(go_simp;done)|(go_keep;done))
        refine tq 0 hHeld ?_
        refine tq 1 hHeld ?_
        refine tq 2 hHeld ?_
        refine tq 3 hHeld ?_
        refine tq 4 hHeld ?_
        refine tq 6 hHeld ?_
        refine tq 7 hHeld ?_
        refine tq 8 hHeld ?_
        refine wpAnyH_ready (rs:=[5,9]) (by kernel_rfl) (by simp) ?_
        refine AllReadyH.cons rfl (fun K hK=> ?_) (AllReadyH.cons rfl (fun K hK=> ?_) AllReadyH.nil)
        · (go_simp;refine tr hK (fun hHeld=> ?_);clear hK K)
          refine tc 9 fun K hK=> ?_
          (go_simp;refine tr hK (fun hHeld=> ?_);clear hK K)
          refine tc 10 fun K hK=> ?_
          (go_simp;(go_at_call 69;refine(l6Speed_any (fun j=>U (k*12+j)) _ bd6 bd7).mono ?_;rintro e w5 ⟨rfl,hb5⟩;have hO5:=hO.on hb5.ofDr;have uf5:=hO5.own.fro;obtain⟨u5_0,u5_1,u5_2,u5_3,u5_4,u5_5,u5_6,u5_7,u5_8,u5_9,u5_10,u5_11⟩:=own12m hO5.own (by omega));(try go_wp2_with fail);refine tr hK (fun hHeld=> ?_);clear hK K)
          refine tc 11 fun K hK=> ?_
          (go_simp;(go_at_call 68;refine(l6Move_any (fun j=>U (k*12+j)) (spX (fun j=>U (k*12+j))) (spY (fun j=>U (k*12+j))) _ bd4 bd5 sbx sby).mono ?_;rintro e w6 ⟨rfl,hb6⟩;have hO6:=hO5.on hb6;have uf6:=hO6.own.fro;obtain⟨u6_0,u6_1,u6_2,u6_3,u6_4,u6_5,u6_6,u6_7,u6_8,u6_9,u6_10,u6_11⟩:=own12m hO6.own (by omega));(try go_wp2_with fail);refine tr hK (fun hHeld=> ?_);clear hK K)
          refine tq 12 hHeld ?_
          refine tc 13 fun K hK=> ?_
          (go_simp;refine tr hK (fun hHeld=> ?_);clear hK K)
          refine wpAnyH_done (by kernel_rfl) ?_ _
          go_wp2_with fail
          have hq:=put12 hO6.own hlt (moveV (fun j=>U (k*12+j)) (spX (fun j=>U (k*12+j))) (spY (fun j=>U (k*12+j))))
          rw[HS.out] at hq
          have hqb:=(putFr (w4:=w6) (g:=g) (p:=k) (moveV (fun j=>U (k*12+j)) (spX (fun j=>U (k*12+j))) (spY (fun j=>U (k*12+j))))).below (B:=w.heap.size) hO6.bel.size (fun b e=>by omega)
          go_roundw
          case rel=>exact⟨k+1,by omega,by go_num,hO6.bel.trans hqb,hq⟩
          case measure=>simp[intOf];omega
        · (go_simp;refine tr hK (fun hHeld=> ?_);clear hK K)
          refine wpAnyH_ready (rs:=[5,10]) (by kernel_rfl) (by simp) ?_
          refine AllReadyH.cons rfl (fun K hK=> ?_) (AllReadyH.cons rfl (fun K hK=> ?_) AllReadyH.nil)
          · (go_simp;refine tr hK (fun hHeld=> ?_);clear hK K)
            refine tc 10 fun K hK=> ?_
            (go_simp;(go_at_call 69;refine(l6Speed_any (fun j=>U (k*12+j)) _ bd6 bd7).mono ?_;rintro e w5 ⟨rfl,hb5⟩;have hO5:=hO.on hb5.ofDr;have uf5:=hO5.own.fro;obtain⟨u5_0,u5_1,u5_2,u5_3,u5_4,u5_5,u5_6,u5_7,u5_8,u5_9,u5_10,u5_11⟩:=own12m hO5.own (by omega));(try go_wp2_with fail);refine tr hK (fun hHeld=> ?_);clear hK K)
            refine tc 11 fun K hK=> ?_
            (go_simp;(go_at_call 68;refine(l6Move_any (fun j=>U (k*12+j)) (spX (fun j=>U (k*12+j))) (spY (fun j=>U (k*12+j))) _ bd4 bd5 sbx sby).mono ?_;rintro e w6 ⟨rfl,hb6⟩;have hO6:=hO5.on hb6;have uf6:=hO6.own.fro;obtain⟨u6_0,u6_1,u6_2,u6_3,u6_4,u6_5,u6_6,u6_7,u6_8,u6_9,u6_10,u6_11⟩:=own12m hO6.own (by omega));(try go_wp2_with fail);refine tr hK (fun hHeld=> ?_);clear hK K)
            refine tq 12 hHeld ?_
            refine tc 13 fun K hK=> ?_
            (go_simp;refine tr hK (fun hHeld=> ?_);clear hK K)
            refine wpAnyH_done (by kernel_rfl) ?_ _
            go_wp2_with fail
            have hq:=put12 hO6.own hlt (moveV (fun j=>U (k*12+j)) (spX (fun j=>U (k*12+j))) (spY (fun j=>U (k*12+j))))
            rw[HS.out] at hq
            have hqb:=(putFr (w4:=w6) (g:=g) (p:=k) (moveV (fun j=>U (k*12+j)) (spX (fun j=>U (k*12+j))) (spY (fun j=>U (k*12+j))))).below (B:=w.heap.size) hO6.bel.size (fun b e=>by omega)
            go_roundw
            case rel=>exact⟨k+1,by omega,by go_num,hO6.bel.trans hqb,hq⟩
            case measure=>simp[intOf];omega
          · (go_simp;(go_at_call 69;refine(l6Speed_any (fun j=>U (k*12+j)) _ bd6 bd7).mono ?_;rintro e w5 ⟨rfl,hb5⟩;have hO5:=hO.on hb5.ofDr;have uf5:=hO5.own.fro;obtain⟨u5_0,u5_1,u5_2,u5_3,u5_4,u5_5,u5_6,u5_7,u5_8,u5_9,u5_10,u5_11⟩:=own12m hO5.own (by omega));(try go_wp2_with fail);refine tr hK (fun hHeld=> ?_);clear hK K)
            refine tc 5 fun K hK=> ?_
            (go_simp;refine tr hK (fun hHeld=> ?_);clear hK K)
            refine tc 11 fun K hK=> ?_
            (go_simp;(go_at_call 68;refine(l6Move_any (fun j=>U (k*12+j)) (spX (fun j=>U (k*12+j))) (spY (fun j=>U (k*12+j))) _ bd4 bd5 sbx sby).mono ?_;rintro e w6 ⟨rfl,hb6⟩;have hO6:=hO5.on hb6;have uf6:=hO6.own.fro;obtain⟨u6_0,u6_1,u6_2,u6_3,u6_4,u6_5,u6_6,u6_7,u6_8,u6_9,u6_10,u6_11⟩:=own12m hO6.own (by omega));(try go_wp2_with fail);refine tr hK (fun hHeld=> ?_);clear hK K)
            refine tq 12 hHeld ?_
            refine tc 13 fun K hK=> ?_
            (go_simp;refine tr hK (fun hHeld=> ?_);clear hK K)
            refine wpAnyH_done (by kernel_rfl) ?_ _
            go_wp2_with fail
            have hq:=put12 hO6.own hlt (moveV (fun j=>U (k*12+j)) (spX (fun j=>U (k*12+j))) (spY (fun j=>U (k*12+j))))
            rw[HS.out] at hq
            have hqb:=(putFr (w4:=w6) (g:=g) (p:=k) (moveV (fun j=>U (k*12+j)) (spX (fun j=>U (k*12+j))) (spY (fun j=>U (k*12+j))))).below (B:=w.heap.size) hO6.bel.size (fun b e=>by omega)
            go_roundw
            case rel=>exact⟨k+1,by omega,by go_num,hO6.bel.trans hqb,hq⟩
            case measure=>simp[intOf];omega
    · have HNO:Shut (mapR (fun _ V=>goV V) U (k+1)=mapR (fun _ V=>goV V) U k):=mapR_same (fun j hj=>by show goV (fun j=>U (k*12+j)) j=_;unfold goV;rw[live_m (V:=(fun j=>U (k*12+j))) hm];rfl)
      go_wp2_with fail
      go_roundw
      case rel=>exact⟨k+1,by omega,by go_num,by rw[HNO.out];exact hO⟩
      case measure=>simp[intOf];omega
  · obtain rfl:k=n:=by omega
    go_wp2_with fail
    go_ret
    exact⟨_,_,rfl,hO⟩
theorem l11AnyShape_s (rb p:Nat) (w:World) (hs0:RS w rb p) (hp:p≤997000):
 Calls Tryz.prog 52 #[.pointer (some ⟨rb,0,none⟩)] w fun e w'=>∃ k g h:Int,e= .returned (s3 k g h)∧(Bn k∧Bn g∧Bn h)∧RB w w' rb (p+600):=by
 have hlt:=hs0.lt
 have hne:(w.heap.size=rb)=False:=eq_false (by omega)
 have hset:=cset_map
 go_enter Tryz.func52,Tryz.ntmps52
 go_wp2_with (first
  |(have _:=hr1;go_at_call 24;refine(pick_s rb (p+200) _ _ (by repeat(first|(with_reducible apply RS.setNew;rotate_left;(first|omega|(simp only[zz];omega)))|with_reducible apply RS.alloc|(with_reducible apply RS.up hr1;omega)|(with_reducible apply RS.mono hs0;omega)|with_reducible apply RS.drew|with_reducible apply RS.drewN)) (by omega) (by omega) (by omega)).mono ?_;rintro e w2 ⟨v2,rfl,va2,vb2,hr2⟩;obtain⟨hc2,hf2⟩:=RB.cells hr2;have hz2:=RB.size hr2;(try simp only[zz] at hc2 hf2 hz2);have hq2x0:w.heap.size<w2.heap.size:=(by omega);have ha2x0:(w2.heap.size=w.heap.size)=False:=eq_false (by omega);have hb2x0:(w.heap.size=w2.heap.size)=False:=eq_false (by omega);have he2x0:(w.heap.size=rb)=False:=eq_false (by omega);have hk2x0:=fun o=>hc2 (w.heap.size) o (by omega) (by omega);have hj2x0:=fun o=>hf2 (w.heap.size) o (by omega) (by omega);have hq2x1:w1.heap.size<w2.heap.size:=(by omega);have ha2x1:(w2.heap.size=w1.heap.size)=False:=eq_false (by omega);have hb2x1:(w1.heap.size=w2.heap.size)=False:=eq_false (by omega);have he2x1:(w1.heap.size=rb)=False:=eq_false (by omega);have hk2x1:=fun o=>hc2 (w1.heap.size) o (by omega) (by omega);have hj2x1:=fun o=>hf2 (w1.heap.size) o (by omega) (by omega))
  |(have _:=hr2;go_at_call 13;refine(one_s (-1) 25601 rb (p+300) _ _ _ _ _ (by repeat(first|(with_reducible apply RS.setNew;rotate_left;(first|omega|(simp only[zz];omega)))|with_reducible apply RS.alloc|(with_reducible apply RS.up hr2;omega)|(with_reducible apply RS.mono hs0;omega)|with_reducible apply RS.drew|with_reducible apply RS.drewN)) (by omega) (by repeat(first|exact AllBd.nil|refine AllBd.cons (by omega) (by omega) ?_)) (by rfl) (by omega) (by omega)).mono ?_;rintro e w3 ⟨v3,rfl,va3,vb3,hr3⟩;obtain⟨hc3,hf3⟩:=RB.cells hr3;have hz3:=RB.size hr3;(try simp only[zz] at hc3 hf3 hz3);have hq3x0:w.heap.size<w3.heap.size:=(by omega);have ha3x0:(w3.heap.size=w.heap.size)=False:=eq_false (by omega);have hb3x0:(w.heap.size=w3.heap.size)=False:=eq_false (by omega);have he3x0:(w.heap.size=rb)=False:=eq_false (by omega);have hk3x0:=fun o=>hc3 (w.heap.size) o (by omega) (by omega);have hj3x0:=fun o=>hf3 (w.heap.size) o (by omega) (by omega);have hq3x1:w1.heap.size<w3.heap.size:=(by omega);have ha3x1:(w3.heap.size=w1.heap.size)=False:=eq_false (by omega);have hb3x1:(w1.heap.size=w3.heap.size)=False:=eq_false (by omega);have he3x1:(w1.heap.size=rb)=False:=eq_false (by omega);have hk3x1:=fun o=>hc3 (w1.heap.size) o (by omega) (by omega);have hj3x1:=fun o=>hf3 (w1.heap.size) o (by omega) (by omega))
  |(go_at_call 87;refine(l11Shape_s rb (p+100) _ (by repeat(first|(with_reducible apply RS.setNew;rotate_left;(first|omega|(simp only[zz];omega)))|with_reducible apply RS.alloc|(with_reducible apply RS.mono hs0;omega)|with_reducible apply RS.drew|with_reducible apply RS.drewN)) (by omega)).mono ?_;rintro e w1 ⟨k1,g1,h1,rfl,hd1,hr1⟩;obtain⟨hc1,hf1⟩:=RB.cells hr1;have hz1:=RB.size hr1;(try simp only[zz] at hc1 hf1 hz1);have hq1x0:w.heap.size<w1.heap.size:=(by omega);have ha1x0:(w1.heap.size=w.heap.size)=False:=eq_false (by omega);have hb1x0:(w.heap.size=w1.heap.size)=False:=eq_false (by omega);have he1x0:(w.heap.size=rb)=False:=eq_false (by omega);have hk1x0:=fun o=>hc1 (w.heap.size) o (by omega) (by omega);have hj1x0:=fun o=>hf1 (w.heap.size) o (by omega) (by omega);obtain⟨⟨k1a,k1b⟩,⟨g1a,g1b⟩,⟨h1a,h1b⟩⟩:=hd1))
 · exact bodyPost_ret (v:=s3 v3 g1 h1) (by simp[results,Tryz.results52,go_sem, *]) rfl ⟨_,_,_,rfl,⟨Bn.mk ⟨by omega,by omega⟩,Bn.mk ⟨by omega,by omega⟩,Bn.mk ⟨by omega,by omega⟩⟩,RB.mk (by repeat(first|(with_reducible apply But.setNew;rotate_left;(first|omega|(simp only[zz];omega)))|with_reducible apply But.alloc|with_reducible apply But.trans (k:=RB.but hr3)|with_reducible apply But.trans (k:=RB.but hr2)|with_reducible apply But.trans (k:=RB.but hr1)|with_reducible apply But.refl|with_reducible apply But.drewN|with_reducible apply But.drew)) (by repeat(first|(with_reducible apply RS.setNew;rotate_left;(first|omega|(simp only[zz];omega)))|with_reducible apply RS.alloc|(with_reducible apply RS.up hr3;omega)|(with_reducible apply RS.up hr2;omega)|(with_reducible apply RS.up hr1;omega)|(with_reducible apply RS.mono hs0;omega)|with_reducible apply RS.drew|with_reducible apply RS.drewN))⟩
 · exact bodyPost_ret (v:=s3 k1 v3 h1) (by simp[results,Tryz.results52,go_sem, *]) rfl ⟨_,_,_,rfl,⟨Bn.mk ⟨by omega,by omega⟩,Bn.mk ⟨by omega,by omega⟩,Bn.mk ⟨by omega,by omega⟩⟩,RB.mk (by repeat(first|(with_reducible apply But.setNew;rotate_left;(first|omega|(simp only[zz];omega)))|with_reducible apply But.alloc|with_reducible apply But.trans (k:=RB.but hr3)|with_reducible apply But.trans (k:=RB.but hr2)|with_reducible apply But.trans (k:=RB.but hr1)|with_reducible apply But.refl|with_reducible apply But.drewN|with_reducible apply But.drew)) (by repeat(first|(with_reducible apply RS.setNew;rotate_left;(first|omega|(simp only[zz];omega)))|with_reducible apply RS.alloc|(with_reducible apply RS.up hr3;omega)|(with_reducible apply RS.up hr2;omega)|(with_reducible apply RS.up hr1;omega)|(with_reducible apply RS.mono hs0;omega)|with_reducible apply RS.drew|with_reducible apply RS.drewN))⟩
 · exact bodyPost_ret (v:=s3 k1 g1 v3) (by simp[results,Tryz.results52,go_sem, *]) rfl ⟨_,_,_,rfl,⟨Bn.mk ⟨by omega,by omega⟩,Bn.mk ⟨by omega,by omega⟩,Bn.mk ⟨by omega,by omega⟩⟩,RB.mk (by repeat(first|(with_reducible apply But.setNew;rotate_left;(first|omega|(simp only[zz];omega)))|with_reducible apply But.alloc|with_reducible apply But.trans (k:=RB.but hr3)|with_reducible apply But.trans (k:=RB.but hr2)|with_reducible apply But.trans (k:=RB.but hr1)|with_reducible apply But.refl|with_reducible apply But.drewN|with_reducible apply But.drew)) (by repeat(first|(with_reducible apply RS.setNew;rotate_left;(first|omega|(simp only[zz];omega)))|with_reducible apply RS.alloc|(with_reducible apply RS.up hr3;omega)|(with_reducible apply RS.up hr2;omega)|(with_reducible apply RS.up hr1;omega)|(with_reducible apply RS.mono hs0;omega)|with_reducible apply RS.drew|with_reducible apply RS.drewN))⟩
 · exact bodyPost_ret (v:=s3 k1 g1 h1) (by simp[results,Tryz.results52,go_sem, *]) rfl ⟨_,_,_,rfl,⟨Bn.mk ⟨by omega,by omega⟩,Bn.mk ⟨by omega,by omega⟩,Bn.mk ⟨by omega,by omega⟩⟩,RB.mk (by repeat(first|(with_reducible apply But.setNew;rotate_left;(first|omega|(simp only[zz];omega)))|with_reducible apply But.alloc|with_reducible apply But.trans (k:=RB.but hr2)|with_reducible apply But.trans (k:=RB.but hr1)|with_reducible apply But.refl|with_reducible apply But.drewN|with_reducible apply But.drew)) (by repeat(first|(with_reducible apply RS.setNew;rotate_left;(first|omega|(simp only[zz];omega)))|with_reducible apply RS.alloc|(with_reducible apply RS.up hr2;omega)|(with_reducible apply RS.up hr1;omega)|(with_reducible apply RS.mono hs0;omega)|with_reducible apply RS.drew|with_reducible apply RS.drewN))⟩
end Go.Proofs.YtpmjnpmnocjjgaaGreatDoor
