/- Texts of a proof. -/
import Derived.Test.YtpmjnpmnocjjgaaGreatDoorB34
import Derived.Test.YtpmjnpmnocjjgaaGreatDoorB52
import Derived.Test.YtpmjnpmnocjjgaaGreatDoorB50
import Derived.Test.YtpmjnpmnocjjgaaGreatDoorB18
import Derived.Test.YtpmjnpmnocjjgaaGreatDoorB26
import Derived.Test.YtpmjnpmnocjjgaaGreatDoorB46
import Derived.Test.YtpmjnpmnocjjgaaGreatDoorB48
import Derived.Test.YtpmjnpmnocjjgaaGreatDoorB41
import Derived.Deep.RegionHeld3
import Derived.Deep.DeepCutAuto
set_option maxHeartbeats 16000000
set_option maxRecDepth 20000
namespace Go.Proofs.YtpmjnpmnocjjgaaGreatDoor
open Go.RowKit
set_option linter.unusedVariables false
set_option linter.unusedSimpArgs false
def Gk (w:World):Prop:=w.cell? ⟨0,0,none⟩=some (.iface 172 (.agg #[.pointer (some ⟨1,58,none⟩)]))
theorem Gk.on {w w':World} (h:Gk w) (k:Below w.heap.size w w'):Gk w':=(k.cell (p:=⟨0,0,none⟩) (cell_lt (a:=⟨0,0,none⟩) h)).trans h
theorem groupOfI_r {n:Nat} {U R:Nat→Int} {q:Int} (hR:R=ofL (rsL U (gofS n U q))) (a:Option Addr) (c N:Nat) (w:World) (h:Flat w a (n*12) U) (hn:n≤1048576) (hN:(gofS n U q).length=N):
 Calls Tryz.prog 9 #[.slice a n c,.int .i64 q] w fun e w'=>∃ a' c',e= .returned (.slice a' N c')∧OutL w w' 35 12 a' N c' R:=by subst hR;exact groupOfI_q a n c U q N w h hn hN
theorem gof_bods {n:Nat} {U:Nat→Int} (hB:bodsB n U=true) (q:Int):bodsB (gofS n U q).length (ofL (rsL U (gofS n U q)))=true:=by
 by_cases h0:0≤q
 · rw[gofS_y hB h0]
   exact(part_bods (Bods.of hB) _ (fun a r ha hr=>rsL_at U _ ha hr)).to
 · rw[gofS_n (.inr (by omega))]
   rfl
theorem fnStepGroups_walk (ac0:Option Addr) (len cap:Nat) (w:World) (hb:Bytes w ac0 len cap) (hg:Gk w):
 Calls Tryz.prog 3 #[.slice ac0 len cap] w fun e w'=>e= .returned (.bool true)∧Below w.heap.size w w':=by
 have hset:=cset_map
 by_cases hlen:1048576<len
 · have hl:(1048576:Int)<(len:Int):=by omega
   go_enter Tryz.func3,Tryz.ntmps3
   go_wp2_with fail
   go_ret
   exact⟨rfl,Below.refl _ _⟩
 have hl:¬ (1048576:Int)<(len:Int):=by omega
 go_enter Tryz.func3,Tryz.ntmps3
 go_upto_region 3 with fail
 go_cut [3,4] (fun s3 s4 wc=>∃ (al:Option Addr) (n c:Nat) (U:Nat→Int) (p:Int),s3= .slice al n c∧s4= .int .i64 p∧n≤13∧Below w.heap.size w wc∧OwnL wc w.heap.size 35 12 (.slice al n c) n U)
 case first=>
  go_wp2_with (go_at_call 4;refine(drStep_k _ _ _ _ hb).mono ?_;intro e w1 hD;unfold DrStep at hD;obtain⟨al,n,c,U,p,rfl,hn,hp,hb1,hO1⟩:=hD)
  go_meet
  exact⟨al,n,c,U,p,rfl,rfl,hn,hb1,hO1⟩
 case rest=>
 obtain⟨al,n,c,U,p,rfl,rfl,hn,bel,hO⟩:=hcut
 obtain⟨N,hN0⟩:∃ N,(bif (bodsB n U&&okP p) then n else 0)=N:=⟨_,rfl⟩
 have hNn:N≤n:=by rw[←hN0];cases (bodsB n U&&okP p)<;>simp
 have hN:Shut ((bif (bodsB n U&&okP p) then n else 0)=N):=hN0
 clear hN0
 obtain⟨RP,hRP0⟩:∃ R,R=stepU n U p:=⟨_,rfl⟩
 have hRP:Shut (RP=stepU n U p):=hRP0
 clear hRP0
 go_upto_region 4 with fail
 go_cut [5] (fun s wc=>∃ (a1:Option Addr) (c1:Nat),s= .slice a1 N c1∧Below w.heap.size w wc∧OwnL wc w.heap.size 35 12 (.slice al n c) n U∧OwnL wc w.heap.size 35 12 (.slice a1 N c1) N RP)
 case first=>
  go_wp2_with (go_at_call 5;refine(step_ir hRP.out al c N _ hO.flat (by omega) (hg.on bel) hN.out).mono ?_;rintro e w1 ⟨a1,c1,rfl,hOu⟩)
  go_meet
  have bz:=hOu.bel
  exact⟨a1,c1,rfl,bel.trans (bz.mono bel.size),hO.below bz,hOu.own.base bel.size⟩
 case rest=>
 clear bel hO
 obtain⟨a1,c1,rfl,bel,hO,hX⟩:=hcut
 obtain⟨NE,hNE⟩:∃ b,((N:Int) !=(n:Int))=b:=⟨_,rfl⟩
 go_upto_region 5 with fail
 go_cut [35] (fun s wc=>s= .bool NE∧Below w.heap.size w wc∧OwnL wc w.heap.size 35 12 (.slice al n c) n U∧OwnL wc w.heap.size 35 12 (.slice a1 N c1) N RP)
 case first=>
  go_wp2_with (first
 |(have _:=b5;go_at_call 6;refine(pqBodies_same a1 a5 N _ _ RP _ (hX.below b5).flat hO5.own.flat (by omega)).mono ?_;rintro e w6 ⟨rfl,hb6⟩;have b6:=b5.trans (hb6.mono b5.size))
 |(go_at_call 7;refine(step_sr hRP.out al c N _ hO.flat (by omega) hN.out).mono ?_;rintro e w5 ⟨a5,c5,rfl,hO5⟩;have b5:=hO5.bel))
  go_meet
  exact⟨by simp,bel.trans (b6.mono bel.size),hO.below b6,hX.below b6⟩
 case rest=>
 clear bel hO hX
 obtain⟨rfl,bel,hO,hX⟩:=hcut
 cases NE with
 | true=>
   go_wp2_with (first
 |(have _:=b5;go_at_call 6;refine(pqBodies_same a1 a5 N _ _ RP _ (hX.below b5).flat hO5.own.flat (by omega)).mono ?_;rintro e w6 ⟨rfl,hb6⟩;have b6:=b5.trans (hb6.mono b5.size))
 | (go_at_call 7;refine(step_sr hRP.out al c N _ hO.flat (by omega) hN.out).mono ?_;rintro e w5 ⟨a5,c5,rfl,hO5⟩;have b5:=hO5.bel))
   go_ret
   exact⟨rfl,bel.trans (b6.mono bel.size)⟩
 | false=>
   have hNE':N=n:=by simp at hNE;omega
   subst hNE'
   clear hNE
   have hBB:Shut (0<N→bodsB N U=true):=fun h0=>by
    have h:=hN.out
    cases e:bodsB N U with
    |true=>rfl
    |false=>rw[e] at h;have h:0=N:=h;omega
   have hBk:Shut (bodsB N U=true):=by
    show _=_
    by_cases h0:N=0
    · subst h0;rfl
    · exact hBB.out (by omega)
   clear hBB
   have hP:Shut (0<N→okP p=true):=fun h0=>by
    have h:=hN.out
    rw[hBk.out] at h
    cases e:okP p with
    |true=>rfl
    |false=>rw[e] at h;have h:0=N:=h;omega
   have hXB:Shut (bodsB N RP=true):=by show _=_;rw[hRP.out];exact((Bods.of hBk.out).steps p).2.2.2.2.2.2.1.to
   have hN12:=bods_n hBk.out
   obtain⟨M,hM0⟩:∃ M,(awO N U).length=M:=⟨_,rfl⟩
   have hM:Shut ((awO N U).length=M):=hM0
   have hM12:M≤12:=by rw[←hM0];exact awO_len _ _
   have hMN:Shut (0<M→0<N):=fun h=>by
    by_cases h0:N=0
    · subst h0
      have e:(awO 0 U).length=0:=rfl
      omega
    · omega
   clear hM0
   go_upto_region 7 with fail
   go_cut [6] (fun s wc=>s= .int .i64 (M:Int)∧Below w.heap.size w wc∧OwnL wc w.heap.size 35 12 (.slice al N c) N U∧OwnL wc w.heap.size 35 12 (.slice a1 N c1) N RP)
   case first=>
    go_wp2_with (go_at_call 8;refine(awakeI_q al N c U M _ hO.flat (by omega) hM.out).mono ?_;rintro e w1 ⟨aa,ca,rfl,hOu⟩)
    go_meet
    have bz:=hOu.bel
    exact⟨rfl,bel.trans (bz.mono bel.size),hO.below bz,hX.below bz⟩
   case rest=>
   clear bel hO hX
   obtain⟨rfl,bel,hO,hX⟩:=hcut
   go_wp2_with fail
   go_loopw [7,8,9,10,11] (fun s7 _ _ _ _ wr=>∃ k:Nat,k≤M∧s7= .int .i64 (k:Int)∧Below w.heap.size w wr∧OwnL wr w.heap.size 35 12 (.slice al N c) N U∧OwnL wr w.heap.size 35 12 (.slice a1 N c1) N RP) (fun s7 _ _ _ _ _=>M-(intOf s7).toNat)
   case atStart=>exact⟨0,Nat.zero_le _,rfl,bel,hO,hX⟩
   case round=>
    clear bel hO hX
    obtain⟨k,hk,rfl,bel,hO,hX⟩:=hrel
    by_cases hlk:k<M
    · have hkl:(k:Int)<(M:Int):=by omega
      have hN0:=hMN.out (by omega)
      have hg12:=gofS_len N U (k:Int)
      obtain⟨m,hm0⟩:∃ m,(gofS N U (k:Int)).length=m:=⟨_,rfl⟩
      have hmS:Shut ((gofS N U (k:Int)).length=m):=hm0
      rw[hm0] at hg12
      clear hm0
      obtain⟨RG,hRG0⟩:∃ R,R=ofL (rsL U (gofS N U (k:Int))):=⟨_,rfl⟩
      have hRG:Shut (RG=ofL (rsL U (gofS N U (k:Int)))):=hRG0
      clear hRG0
      obtain⟨RY,hRY0⟩:∃ R,R=stepU m RG p:=⟨_,rfl⟩
      have hRY:Shut (RY=stepU m RG p):=hRY0
      clear hRY0
      have hNm:Shut ((bif (bodsB m RG&&okP p) then m else 0)=m):=by
       show _=_
       rw[hP.out hN0,←hmS.out,hRG.out,gof_bods hBk.out]
       rfl
      have hSel:Shut (∀ i,i<m→∃ t,t<N∧∀ j,j<12→RY (i*12+j)=RP (t*12+j)):=fun i hi=>by
       have h:=step_gof (g:=p) hBk.out (q:=(k:Int)) (by omega) (by rw[hM.out];exact hkl) i (by rw[hmS.out];exact hi)
       rw[hmS.out,←hRG.out,←hRY.out,←hRP.out] at h
       exact⟨_,h.1,h.2⟩
      go_upto_region 11 with fail
      go_cut [8] (fun s wc=>∃ (a2:Option Addr) (c2:Nat),s= .slice a2 m c2∧Below w.heap.size w wc∧OwnL wc w.heap.size 35 12 (.slice al N c) N U∧OwnL wc w.heap.size 35 12 (.slice a1 N c1) N RP∧OwnL wc w.heap.size 35 12 (.slice a2 m c2) m RY)
      case first=>
       have b0:=Below.refl wr.heap.size wr
       go_wp2_with (first
        |(have _:=b3;go_at_call 5;refine(step_ir hRY.out a3 c3 m _ hO3.own.flat (by omega) (hg.on (bel.trans (b3.mono bel.size))) hNm.out).mono ?_;rintro e w4 ⟨a4,c4,rfl,hO4⟩;have b4:=b3.trans (hO4.bel.mono b3.size))
        |(go_at_call 9;refine(groupOfI_r hRG.out al c m _ hO.flat (by omega) hmS.out).mono ?_;rintro e w3 ⟨a3,c3,rfl,hO3⟩;have b3:=b0.trans (hO3.bel.mono b0.size)))
       go_meet
       exact⟨a4,c4,rfl,bel.trans (b4.mono bel.size),hO.below b4,hX.below b4,hO4.own.base (bel.trans (b3.mono bel.size)).size⟩
      case rest=>
      clear bel hO hX
      obtain⟨a2,c2,rfl,bel,hO,hX,hY⟩:=hcut
      go_wp2_with fail
      go_loopw [9,10,11] (fun s9 _ _ wu=>∃ i:Nat,i≤m∧s9= .int .i64 (i:Int)∧Below w.heap.size w wu∧OwnL wu w.heap.size 35 12 (.slice al N c) N U∧OwnL wu w.heap.size 35 12 (.slice a1 N c1) N RP∧OwnL wu w.heap.size 35 12 (.slice a2 m c2) m RY) (fun s9 _ _ _=>m-(intOf s9).toNat)
      case atStart=>exact⟨0,Nat.zero_le _,rfl,bel,hO,hX,hY⟩
      case round=>
       clear bel hO hX hY
       obtain⟨i,hi,rfl,bel,hO,hX,hY⟩:=hrel
       by_cases hlt:i<m
       · have hil:(i:Int)<(m:Int):=by omega
         obtain⟨t,htN,htE⟩:=hSel.out i hlt
         have htS:Shut (∀ j,j<12→RY (i*12+j)=RP (t*12+j)):=htE
         clear htE
         obtain⟨gx,rfl,hg1,hg2⟩:=hX.loc (by omega)
         obtain⟨gy,rfl,hg3,hg4⟩:=hY.loc (by omega)
         clear hg1 hg2 hg3 hg4
         go_wp2_with fail
         go_loopw [10,11] (fun s10 s11 wv=>∃ j:Nat,j≤N∧s11= .int .i64 (j:Int)∧(∃ b:Bool,s10= .bool b∧(t<j→b=true))∧Below w.heap.size w wv∧OwnL wv w.heap.size 35 12 (.slice al N c) N U∧OwnL wv w.heap.size 35 12 (.slice (some ⟨gx,0,none⟩) N c1) N RP∧OwnL wv w.heap.size 35 12 (.slice (some ⟨gy,0,none⟩) m c2) m RY) (fun _ s11 _=>N-(intOf s11).toNat)
         case atStart=>exact⟨0,Nat.zero_le _,rfl,⟨false,rfl,fun h=>absurd h (Nat.not_lt_zero _)⟩,bel,hO,hX,hY⟩
         case round=>
          clear bel hO hX hY
          obtain⟨j,hj,rfl,⟨b,rfl,hbt⟩,bel,hO,hX,hY⟩:=hrel
          have hbS:Shut (t<j→b=true):=hbt
          clear hbt
          by_cases hlj:j<N
          · have hjl:(j:Int)<(N:Int):=by omega
            cases b with
            | true=>
              go_upto_region 19 with fail
              refine wp_region_held_drew (S:=fun w'=>True) (by kernel_rfl) ?_ (fun hHeld=> ?_)
              · trivial
              refine tq 0 hHeld ?_
              refine tq 1 hHeld ?_
              refine tn 2 hHeld ?_
              refine tn 3 hHeld ?_
              refine tn 4 hHeld ?_
              refine tn 5 hHeld ?_
              refine tn 6 hHeld ?_
              refine tn 7 hHeld ?_
              refine tn 8 hHeld ?_
              refine tn 9 hHeld ?_
              refine tn 10 hHeld ?_
              refine tq 11 hHeld ?_
              refine tq 12 hHeld ?_
              refine wpAnyH_done (by kernel_rfl) ?_ _
              have bz:=(Below.refl wr.heap.size wr).drew
              go_wp2_with fail
              go_roundw
              case rel=>exact⟨j+1,by omega,by go_num,⟨true,rfl,fun _=>rfl⟩,bel.trans (bz.mono bel.size),hO.below bz,hX.below bz,hY.below bz⟩
              case measure=>simp[intOf];omega
            | false=>
              have x0:=hX.cellq (q:=j*12) (by omega)
              have x1:=hX.cellq (q:=j*12+1) (by omega)
              have x2:=hX.cellq (q:=j*12+2) (by omega)
              have x3:=hX.cellq (q:=j*12+3) (by omega)
              have x4:=hX.cellq (q:=j*12+4) (by omega)
              have x5:=hX.cellq (q:=j*12+5) (by omega)
              have x6:=hX.cellq (q:=j*12+6) (by omega)
              have x7:=hX.cellq (q:=j*12+7) (by omega)
              have x8:=hX.cellq (q:=j*12+8) (by omega)
              have x9:=hX.cellq (q:=j*12+9) (by omega)
              have x10:=hX.cellq (q:=j*12+10) (by omega)
              have x11:=hX.cellq (q:=j*12+11) (by omega)
              have y0:=hY.cellq (q:=i*12) (by omega)
              have y1:=hY.cellq (q:=i*12+1) (by omega)
              have y2:=hY.cellq (q:=i*12+2) (by omega)
              have y3:=hY.cellq (q:=i*12+3) (by omega)
              have y4:=hY.cellq (q:=i*12+4) (by omega)
              have y5:=hY.cellq (q:=i*12+5) (by omega)
              have y6:=hY.cellq (q:=i*12+6) (by omega)
              have y7:=hY.cellq (q:=i*12+7) (by omega)
              have y8:=hY.cellq (q:=i*12+8) (by omega)
              have y9:=hY.cellq (q:=i*12+9) (by omega)
              have y10:=hY.cellq (q:=i*12+10) (by omega)
              have y11:=hY.cellq (q:=i*12+11) (by omega)
              have hev:=eq_bodyG (RP (j*12)) (RP (j*12+1)) (RP (j*12+2)) (RP (j*12+3)) (RP (j*12+4)) (RP (j*12+5)) (RP (j*12+6)) (RP (j*12+7)) (RP (j*12+8)) (RP (j*12+9)) (RP (j*12+10)) (RP (j*12+11)) (RY (i*12)) (RY (i*12+1)) (RY (i*12+2)) (RY (i*12+3)) (RY (i*12+4)) (RY (i*12+5)) (RY (i*12+6)) (RY (i*12+7)) (RY (i*12+8)) (RY (i*12+9)) (RY (i*12+10)) (RY (i*12+11))
              obtain⟨Z,hZ⟩:∃ Z:Bool,((RP (j*12)==RY (i*12))&&((RP (j*12+1)==RY (i*12+1)&&(RP (j*12+2)==RY (i*12+2)&&RP (j*12+3)==RY (i*12+3)))&&((RP (j*12+4)==RY (i*12+4)&&RP (j*12+5)==RY (i*12+5))&&((RP (j*12+6)==RY (i*12+6)&&RP (j*12+7)==RY (i*12+7))&&((RP (j*12+8)==RY (i*12+8))&&((RP (j*12+9)==RY (i*12+9))&&((RP (j*12+10)==RY (i*12+10))&&((RP (j*12+11)==RY (i*12+11))))))))))=Z:=⟨_,rfl⟩
              rw[hZ] at hev
              have hZt:Shut (t<j+1→Z=true):=fun h=>by
               by_cases e:t<j
               · have:=hbS.out e;cases this
               · obtain rfl:t=j:=by omega
                 rw[←hZ]
                 have z0:=htS.out 0 (by decide)
                 rw[Nat.add_zero,Nat.add_zero] at z0
                 simp[z0,htS.out 1 (by decide),htS.out 2 (by decide),htS.out 3 (by decide),htS.out 4 (by decide),htS.out 5 (by decide),htS.out 6 (by decide),htS.out 7 (by decide),htS.out 8 (by decide),htS.out 9 (by decide),htS.out 10 (by decide),htS.out 11 (by decide)]
              clear hZ
              go_upto_region 19 with fail
              refine wp_region_held_drew (S:=fun w'=>w'.cell? ⟨gx,j*12,none⟩=some (.int .i64 (RP (j*12)))∧w'.cell? ⟨gx,j*12+1,none⟩=some (.int .i64 (RP (j*12+1)))∧w'.cell? ⟨gx,j*12+2,none⟩=some (.int .i64 (RP (j*12+2)))∧w'.cell? ⟨gx,j*12+3,none⟩=some (.int .i64 (RP (j*12+3)))∧w'.cell? ⟨gx,j*12+4,none⟩=some (.int .i64 (RP (j*12+4)))∧w'.cell? ⟨gx,j*12+5,none⟩=some (.int .i64 (RP (j*12+5)))∧w'.cell? ⟨gx,j*12+6,none⟩=some (.int .i64 (RP (j*12+6)))∧w'.cell? ⟨gx,j*12+7,none⟩=some (.int .i64 (RP (j*12+7)))∧w'.cell? ⟨gx,j*12+8,none⟩=some (.int .i64 (RP (j*12+8)))∧w'.cell? ⟨gx,j*12+9,none⟩=some (.int .i64 (RP (j*12+9)))∧w'.cell? ⟨gx,j*12+10,none⟩=some (.int .i64 (RP (j*12+10)))∧w'.cell? ⟨gx,j*12+11,none⟩=some (.int .i64 (RP (j*12+11)))∧w'.cell? ⟨gy,i*12,none⟩=some (.int .i64 (RY (i*12)))∧w'.cell? ⟨gy,i*12+1,none⟩=some (.int .i64 (RY (i*12+1)))∧w'.cell? ⟨gy,i*12+2,none⟩=some (.int .i64 (RY (i*12+2)))∧w'.cell? ⟨gy,i*12+3,none⟩=some (.int .i64 (RY (i*12+3)))∧w'.cell? ⟨gy,i*12+4,none⟩=some (.int .i64 (RY (i*12+4)))∧w'.cell? ⟨gy,i*12+5,none⟩=some (.int .i64 (RY (i*12+5)))∧w'.cell? ⟨gy,i*12+6,none⟩=some (.int .i64 (RY (i*12+6)))∧w'.cell? ⟨gy,i*12+7,none⟩=some (.int .i64 (RY (i*12+7)))∧w'.cell? ⟨gy,i*12+8,none⟩=some (.int .i64 (RY (i*12+8)))∧w'.cell? ⟨gy,i*12+9,none⟩=some (.int .i64 (RY (i*12+9)))∧w'.cell? ⟨gy,i*12+10,none⟩=some (.int .i64 (RY (i*12+10)))∧w'.cell? ⟨gy,i*12+11,none⟩=some (.int .i64 (RY (i*12+11)))) (by kernel_rfl) ?_ (fun hHeld=> ?_)
              · (try dsimp only)
                (first|(go_simp;done)|(go_keep;done))
              refine tq 0 hHeld ?_
              refine tq 1 hHeld ?_
              refine tq 2 hHeld ?_
              refine tq 3 hHeld ?_
              refine tq 4 hHeld ?_
              refine tq 5 hHeld ?_
              refine tq 6 hHeld ?_
              refine tq 7 hHeld ?_
              refine tq 8 hHeld ?_
              refine tq 9 hHeld ?_
              refine tq 10 hHeld ?_
              refine tq 11 hHeld ?_
              refine tq 12 hHeld ?_
              refine wpAnyH_done (by kernel_rfl) ?_ _
              have bz:=(Below.refl wr.heap.size wr).drew
              go_wp2_with fail
              go_roundw
              case rel=>exact⟨j+1,by omega,by go_num,⟨Z,rfl,hZt.out⟩,bel.trans (bz.mono bel.size),hO.below bz,hX.below bz,hY.below bz⟩
              case measure=>simp[intOf];omega
          · obtain rfl:N=j:=by omega
            obtain rfl:=hbS.out htN
            go_wp2_with fail
            go_roundw
            case rel=>exact⟨i+1,by omega,by go_num,bel,hO,hX,hY⟩
            case measure=>simp[intOf];omega
       · obtain rfl:m=i:=by omega
         go_wp2_with fail
         go_roundw
         case rel=>exact⟨k+1,by omega,by go_num,bel,hO,hX⟩
         case measure=>simp[intOf];omega
    · obtain rfl:M=k:=by omega
      go_wp2_with (go_at_call 10;refine(bodiesOk_q a1 N c1 RP true _ hX.flat (by omega) hXB.out).mono ?_;rintro e w7 ⟨rfl,b7⟩)
      go_ret
      exact⟨rfl,bel.trans (b7.mono bel.size)⟩
end Go.Proofs.YtpmjnpmnocjjgaaGreatDoor
