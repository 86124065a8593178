/- Texts of a proof. -/
import Derived.Test.YtcalhcfinkhemaaGreatDoorB48
import Derived.Test.YtcalhcfinkhemaaGreatDoorB47
import Derived.Test.YtcalhcfinkhemaaGreatDoorB21
import Derived.Test.YtcalhcfinkhemaaGreatDoorB20
import Derived.Test.YtcalhcfinkhemaaGreatDoorB39
import Derived.Test.YtcalhcfinkhemaaGreatDoorB34
import Derived.Test.YtcalhcfinkhemaaGreatDoorB36
import Derived.Deep.RegionHeld3
import Derived.Deep.DeepCutAuto
set_option maxHeartbeats 16000000
set_option maxRecDepth 20000
namespace Go.Proofs.YtcalhcfinkhemaaGreatDoor
open Go.RowKit
set_option linter.unusedVariables false
set_option linter.unusedSimpArgs false
def Gk (w:World):Prop:=w.cell? ⟨0,0,none⟩=some (.iface 176 (.agg #[.pointer (some ⟨1,64,none⟩)]))
theorem Gk.on {w w':World} (h:Gk w) (k:Below w.heap.size w w'):Gk w':=(k.cell (p:=⟨0,0,none⟩) (cell_lt (a:=⟨0,0,none⟩) h)).trans h
theorem OwnB.blw {w w':World} {base n:Nat} {v:Value} {R:Nat→Bool} (h:OwnB w base v n R) (hb:Below w.heap.size w w'):OwnB w' base v n R:=by
 have hg:=below_grown hb rfl
 cases e:v.ownBlock with
 |none=>exact World.ownsRow.kept h hg (.inl e)
 |some b=>exact World.ownsRow.kept h hg (.inr (by rw[e];simp))
theorem fnStepSleep_walk (ac0:Option Addr) (len cap:Nat) (w:World) (hb:Bytes w ac0 len cap) (hg:Gk w):
 Calls Tryz.prog 4 #[.slice ac0 len cap] w fun e w'=>e= .returned (.bool true)∧Below w.heap.size w w':=by
 have hset:=cset_map
 by_cases hlen:1048576<len
 · have hl:(1048576:Int)<(len:Int):=by omega
   go_enter Tryz.func4,Tryz.ntmps4
   go_wp2_with fail
   go_ret
   exact⟨rfl,Below.refl _ _⟩
 have hl:¬ (1048576:Int)<(len:Int):=by omega
 go_enter Tryz.func4,Tryz.ntmps4
 go_upto_region 3 with fail
 go_cut [3,4] (fun s3 s4 wc=>∃ (al:Option Addr) (n c:Nat) (U:Nat→Int) (p:Int),s3= .slice al n c∧s4= .int .i64 p∧n≤13∧Below w.heap.size w wc∧OwnL wc w.heap.size 33 12 (.slice al n c) n U)
 case first=>
  go_wp2_with (go_at_call 8;refine(drStep_k _ _ _ _ hb).mono ?_;intro e w1 hD;unfold DrStep at hD;obtain⟨al,n,c,U,p,rfl,hn,hp,hb1,hO1⟩:=hD)
  go_meet
  exact⟨al,n,c,U,p,rfl,rfl,hn,hb1,hO1⟩
 case rest=>
 obtain⟨al,n,c,U,p,rfl,rfl,hn,bel,hO⟩:=hcut
 obtain⟨N,hN0⟩:∃ N,(bif (bodsB n U&&okP p) then n else 0)=N:=⟨_,rfl⟩
 have hNn:N≤n:=by rw[←hN0];cases (bodsB n U&&okP p)<;>simp
 have hN:Shut ((bif (bodsB n U&&okP p) then n else 0)=N):=hN0
 clear hN0
 obtain⟨RP,hRP0⟩:∃ R,R=stepU n U p:=⟨_,rfl⟩
 have hRP:Shut (RP=stepU n U p):=hRP0
 clear hRP0
 go_upto_region 4 with fail
 go_cut [5] (fun s wc=>∃ (a1:Option Addr) (c1:Nat),s= .slice a1 N c1∧Below w.heap.size w wc∧OwnL wc w.heap.size 33 12 (.slice al n c) n U∧OwnL wc w.heap.size 33 12 (.slice a1 N c1) N RP)
 case first=>
  go_wp2_with (go_at_call 9;refine(step_ir hRP.out al c N _ hO.flat (by omega) (hg.on bel) hN.out).mono ?_;rintro e w1 ⟨a1,c1,rfl,hOu⟩)
  go_meet
  have bz:=hOu.bel
  exact⟨a1,c1,rfl,bel.trans (bz.mono bel.size),hO.below bz,hOu.own.base bel.size⟩
 case rest=>
 clear bel hO
 obtain⟨a1,c1,rfl,bel,hO,hX⟩:=hcut
 obtain⟨NE,hNE⟩:∃ b,((N:Int) !=(n:Int))=b:=⟨_,rfl⟩
 go_upto_region 5 with fail
 go_cut [32] (fun s wc=>s= .bool NE∧Below w.heap.size w wc∧OwnL wc w.heap.size 33 12 (.slice al n c) n U∧OwnL wc w.heap.size 33 12 (.slice a1 N c1) N RP)
 case first=>
  go_wp2_with (first
 |(have _:=b5;go_at_call 10;refine(pqBodies_same a1 a5 N _ _ RP _ (hX.below b5).flat hO5.own.flat (by omega)).mono ?_;rintro e w6 ⟨rfl,hb6⟩;have b6:=b5.trans (hb6.mono b5.size))
 |(go_at_call 11;refine(step_sr hRP.out al c N _ hO.flat (by omega) hN.out).mono ?_;rintro e w5 ⟨a5,c5,rfl,hO5⟩;have b5:=hO5.bel))
  go_meet
  exact⟨by simp,bel.trans (b6.mono bel.size),hO.below b6,hX.below b6⟩
 case rest=>
 clear bel hO hX
 obtain⟨rfl,bel,hO,hX⟩:=hcut
 cases NE with
 | true=>
   go_wp2_with (first
 |(have _:=b5;go_at_call 10;refine(pqBodies_same a1 a5 N _ _ RP _ (hX.below b5).flat hO5.own.flat (by omega)).mono ?_;rintro e w6 ⟨rfl,hb6⟩;have b6:=b5.trans (hb6.mono b5.size))
 | (go_at_call 11;refine(step_sr hRP.out al c N _ hO.flat (by omega) hN.out).mono ?_;rintro e w5 ⟨a5,c5,rfl,hO5⟩;have b5:=hO5.bel))
   go_ret
   exact⟨rfl,bel.trans (b6.mono bel.size)⟩
 | false=>
   have hNE':N=n:=by simp at hNE;omega
   subst hNE'
   clear hNE
   have hBB:Shut (0<N→bodsB N U=true):=fun h0=>by
    have h:=hN.out
    cases e:bodsB N U with
    |true=>rfl
    |false=>rw[e] at h;have h:0=N:=h;omega
   have hBk:Shut (bodsB N U=true):=by
    show _=_
    by_cases h0:N=0
    · subst h0;rfl
    · exact hBB.out (by omega)
   clear hBB
   obtain⟨G,hG0⟩:∃ G,G=gpG N U:=⟨_,rfl⟩
   have hGE:Shut (G=gpG N U):=hG0
   have hGR:Shut (G=ofL (grpO N U)):=by show _=_;rw[hG0,grpO_y hBk.out];rfl
   have hGN:Shut ((grpO N U).length=N):=by show _=_;rw[grpO_y hBk.out];exact grpL_len _ _ _ _
   clear hG0
   obtain⟨A,hA0⟩:∃ A,A=awA N U:=⟨_,rfl⟩
   have hAE:Shut (A=awA N U):=hA0
   have hAR:Shut (A=fun j=>(awO N U).getD j false):=by show _=_;rw[hA0,awO_y hBk.out];rfl
   clear hA0
   obtain⟨M,hM0⟩:∃ M,awN N U=M:=⟨_,rfl⟩
   have hME:Shut (awN N U=M):=hM0
   have hMN:Shut ((awO N U).length=M):=by show _=_;rw[awO_y hBk.out];exact hM0
   have hM12:M≤12:=by rw[←hMN.out];exact awO_len _ _
   clear hM0
   go_upto_region 7 with fail
   go_cut [6] (fun s wc=>∃ (ag:Option Addr) (cg:Nat),s= .slice ag N cg∧Below w.heap.size w wc∧OwnL wc w.heap.size 33 12 (.slice al N c) N U∧OwnL wc w.heap.size 33 12 (.slice a1 N c1) N RP∧OwnL wc w.heap.size 3 1 (.slice ag N cg) N G)
   case first=>
    go_wp2_with (go_at_call 12;refine(groupsI_r hGR.out al c N _ hO.flat (by omega) hGN.out).mono ?_;rintro e w1 ⟨ag,cg,rfl,hOu⟩)
    go_meet
    have bz:=hOu.bel
    exact⟨ag,cg,rfl,bel.trans (bz.mono bel.size),hO.below bz,hX.below bz,hOu.own.base bel.size⟩
   case rest=>
   clear bel hO hX
   obtain⟨ag,cg,rfl,bel,hO,hX,hG⟩:=hcut
   go_upto_region 8 with fail
   go_cut [7] (fun s wc=>∃ (aa:Option Addr) (ca:Nat),s= .slice aa M ca∧Below w.heap.size w wc∧OwnL wc w.heap.size 33 12 (.slice al N c) N U∧OwnL wc w.heap.size 33 12 (.slice a1 N c1) N RP∧OwnL wc w.heap.size 3 1 (.slice ag N cg) N G∧OwnB wc w.heap.size (.slice aa M ca) M A)
   case first=>
    go_wp2_with (go_at_call 13;refine(awakeI_r hAR.out al c M _ hO.flat (by omega) hMN.out).mono ?_;rintro e w1 ⟨aa,ca,rfl,hOu⟩)
    go_meet
    have bz:=hOu.bel
    exact⟨aa,ca,rfl,bel.trans (bz.mono bel.size),hO.below bz,hX.below bz,hG.below bz,hOu.own.base bel.size⟩
   case rest=>
   clear bel hO hX hG
   obtain⟨aa,ca,rfl,bel,hO,hX,hG,hA⟩:=hcut
   go_wp2_with fail
   go_loopw [8] (fun s8 wr=>∃ i:Nat,i≤N∧s8= .int .i64 (i:Int)∧Below w.heap.size w wr∧OwnL wr w.heap.size 33 12 (.slice al N c) N U∧OwnL wr w.heap.size 33 12 (.slice a1 N c1) N RP∧OwnL wr w.heap.size 3 1 (.slice ag N cg) N G∧OwnB wr w.heap.size (.slice aa M ca) M A) (fun s8 _=>N-(intOf s8).toNat)
   case atStart=>exact⟨0,Nat.zero_le _,rfl,bel,hO,hX,hG,hA⟩
   case round=>
    clear bel hO hX hG hA
    obtain⟨i,hi,rfl,bel,hO,hX,hG,hA⟩:=hrel
    by_cases hlt:i<N
    · have hil:(i:Int)<(N:Int):=by omega
      obtain⟨go,rfl,hg1,hg2⟩:=hO.loc (by omega)
      obtain⟨gx,rfl,hg3,hg4⟩:=hX.loc (by omega)
      obtain⟨gg,rfl,hg5,hg6⟩:=hG.loc (by omega)
      clear hg1 hg2 hg3 hg4 hg5 hg6
      have g0:=hG.cellq (q:=i) (by omega)
      by_cases h0:0≤G i
      · have hlm:G i<(M:Int):=by rw[hGE.out,←hME.out];exact(gp_lt N U i hlt).2.1
        obtain⟨t,ht⟩:∃ t:Nat,G i=(t:Int):=⟨(G i).toNat,by omega⟩
        have htS:Shut (G i=(t:Int)):=ht
        rw[ht] at g0 hlm h0
        clear ht
        obtain⟨ga,rfl,hg5,hg6⟩:=hA.loc (by omega)
        clear hg5 hg6
        have a0:=hA.cellq (q:=t) (by omega)
        cases hat:A t with
        | true=>
          rw[hat] at a0
          clear hat
          go_upto_region 12 with fail
          refine wp_region_held_drew (S:=fun w'=>w'.cell? ⟨gg,i,none⟩=some (.int .i64 (t:Int))∧w'.cell? ⟨ga,t,none⟩=some (.bool true)) (by kernel_rfl) ?_ (fun hHeld=> ?_)
          · (try dsimp only)
            (first|(go_simp;done)|(go_keep;done))
          refine tq 0 hHeld ?_
          refine tq 1 hHeld ?_
          refine tq 2 hHeld ?_
          refine tq 3 hHeld ?_
          refine tq 4 hHeld ?_
          refine tq 5 hHeld ?_
          refine tq 6 hHeld ?_
          refine tq 7 hHeld ?_
          refine tq 8 hHeld ?_
          refine tq 9 hHeld ?_
          refine tq 10 hHeld ?_
          refine tq 11 hHeld ?_
          refine tq 12 hHeld ?_
          refine tq 13 hHeld ?_
          refine tq 14 hHeld ?_
          refine tq 15 hHeld ?_
          refine tn 16 hHeld ?_
          refine tn 17 hHeld ?_
          refine tn 18 hHeld ?_
          refine tn 19 hHeld ?_
          refine tn 20 hHeld ?_
          refine tn 21 hHeld ?_
          refine tn 22 hHeld ?_
          refine tn 23 hHeld ?_
          refine tn 24 hHeld ?_
          refine tq 25 hHeld ?_
          refine wpAnyH_done (by kernel_rfl) ?_ _
          have bz:=(Below.refl wr.heap.size wr).drew
          go_wp2_with fail
          go_roundw
          case rel=>exact⟨i+1,by omega,by go_num,bel.trans (bz.mono bel.size),hO.below bz,hX.below bz,hG.below bz,hA.blw bz⟩
          case measure=>simp[intOf];omega
        | false=>
          rw[hat] at a0
          have e1:∀ j,j<12→RP (i*12+j)=U (i*12+j):=fun j hj=>by
           have h2:=htS.out
           rw[hGE.out] at h2
           rw[hRP.out]
           refine step_rest hlt hj (.inr ⟨by omega,?_⟩)
           rw[h2,Int.toNat_natCast,←hAE.out]
           exact hat
          clear hat
          have p:∀ j,j<12→wr.cell? ⟨go,i*12+j,none⟩=some (.int .i64 (U (i*12+j))):=fun j hj=>hO.cellq (by omega)
          have q:∀ j,j<12→wr.cell? ⟨gx,i*12+j,none⟩=some (.int .i64 (U (i*12+j))):=fun j hj=>by rw[←e1 j hj];exact hX.cellq (by omega)
          have p0:=p 0 (by decide)
          have p1:=p 1 (by decide)
          have p2:=p 2 (by decide)
          have p3:=p 3 (by decide)
          have p4:=p 4 (by decide)
          have p5:=p 5 (by decide)
          have p6:=p 6 (by decide)
          have p7:=p 7 (by decide)
          have p8:=p 8 (by decide)
          have p9:=p 9 (by decide)
          have p10:=p 10 (by decide)
          have p11:=p 11 (by decide)
          have q0:=q 0 (by decide)
          have q1:=q 1 (by decide)
          have q2:=q 2 (by decide)
          have q3:=q 3 (by decide)
          have q4:=q 4 (by decide)
          have q5:=q 5 (by decide)
          have q6:=q 6 (by decide)
          have q7:=q 7 (by decide)
          have q8:=q 8 (by decide)
          have q9:=q 9 (by decide)
          have q10:=q 10 (by decide)
          have q11:=q 11 (by decide)
          rw[Nat.add_zero] at p0 q0
          have hev:=eq_body0 (U (i*12)) (U (i*12+1)) (U (i*12+2)) (U (i*12+3)) (U (i*12+4)) (U (i*12+5)) (U (i*12+6)) (U (i*12+7)) (U (i*12+8)) (U (i*12+9)) (U (i*12+10)) (U (i*12+11))
          clear p q e1
          go_upto_region 12 with fail
          refine wp_region_held_drew (S:=fun w'=>w'.cell? ⟨gg,i,none⟩=some (.int .i64 (t:Int))∧w'.cell? ⟨ga,t,none⟩=some (.bool false)∧w'.cell? ⟨gx,i*12,none⟩=some (.int .i64 (U (i*12)))∧w'.cell? ⟨gx,i*12+1,none⟩=some (.int .i64 (U (i*12+1)))∧w'.cell? ⟨gx,i*12+2,none⟩=some (.int .i64 (U (i*12+2)))∧w'.cell? ⟨gx,i*12+3,none⟩=some (.int .i64 (U (i*12+3)))∧w'.cell? ⟨gx,i*12+4,none⟩=some (.int .i64 (U (i*12+4)))∧w'.cell? ⟨gx,i*12+5,none⟩=some (.int .i64 (U (i*12+5)))∧w'.cell? ⟨gx,i*12+6,none⟩=some (.int .i64 (U (i*12+6)))∧w'.cell? ⟨gx,i*12+7,none⟩=some (.int .i64 (U (i*12+7)))∧w'.cell? ⟨gx,i*12+8,none⟩=some (.int .i64 (U (i*12+8)))∧w'.cell? ⟨gx,i*12+9,none⟩=some (.int .i64 (U (i*12+9)))∧w'.cell? ⟨gx,i*12+10,none⟩=some (.int .i64 (U (i*12+10)))∧w'.cell? ⟨gx,i*12+11,none⟩=some (.int .i64 (U (i*12+11)))∧w'.cell? ⟨go,i*12,none⟩=some (.int .i64 (U (i*12)))∧w'.cell? ⟨go,i*12+1,none⟩=some (.int .i64 (U (i*12+1)))∧w'.cell? ⟨go,i*12+2,none⟩=some (.int .i64 (U (i*12+2)))∧w'.cell? ⟨go,i*12+3,none⟩=some (.int .i64 (U (i*12+3)))∧w'.cell? ⟨go,i*12+4,none⟩=some (.int .i64 (U (i*12+4)))∧w'.cell? ⟨go,i*12+5,none⟩=some (.int .i64 (U (i*12+5)))∧w'.cell? ⟨go,i*12+6,none⟩=some (.int .i64 (U (i*12+6)))∧w'.cell? ⟨go,i*12+7,none⟩=some (.int .i64 (U (i*12+7)))∧w'.cell? ⟨go,i*12+8,none⟩=some (.int .i64 (U (i*12+8)))∧w'.cell? ⟨go,i*12+9,none⟩=some (.int .i64 (U (i*12+9)))∧w'.cell? ⟨go,i*12+10,none⟩=some (.int .i64 (U (i*12+10)))∧w'.cell? ⟨go,i*12+11,none⟩=some (.int .i64 (U (i*12+11)))) (by kernel_rfl) ?_ (fun hHeld=> ?_)
          · (try dsimp only)
            (first|(go_simp;done)|(go_keep;done))
          refine tq 0 hHeld ?_
          refine tq 1 hHeld ?_
          refine tq 2 hHeld ?_
          refine tq 3 hHeld ?_
          refine tq 4 hHeld ?_
          refine tq 5 hHeld ?_
          refine tq 6 hHeld ?_
          refine tq 7 hHeld ?_
          refine tq 8 hHeld ?_
          refine tq 9 hHeld ?_
          refine tq 10 hHeld ?_
          refine tq 11 hHeld ?_
          refine tq 12 hHeld ?_
          refine tq 13 hHeld ?_
          refine tq 14 hHeld ?_
          refine tq 15 hHeld ?_
          refine tq 16 hHeld ?_
          refine tq 17 hHeld ?_
          refine tq 18 hHeld ?_
          refine tq 19 hHeld ?_
          refine tq 20 hHeld ?_
          refine tq 21 hHeld ?_
          refine tq 22 hHeld ?_
          refine tq 23 hHeld ?_
          refine tq 24 hHeld ?_
          refine tq 25 hHeld ?_
          refine wpAnyH_done (by kernel_rfl) ?_ _
          have bz:=(Below.refl wr.heap.size wr).drew
          go_wp2_with fail
          go_roundw
          case rel=>exact⟨i+1,by omega,by go_num,bel.trans (bz.mono bel.size),hO.below bz,hX.below bz,hG.below bz,hA.blw bz⟩
          case measure=>simp[intOf];omega
      · have h0':¬ (0:Int)≤G i:=h0
        go_upto_region 12 with fail
        refine wp_region_held_drew (S:=fun w'=>w'.cell? ⟨gg,i,none⟩=some (.int .i64 (G i))) (by kernel_rfl) ?_ (fun hHeld=> ?_)
        · (try dsimp only)
          (first|(go_simp;done)|(go_keep;done))
        refine tq 0 hHeld ?_
        refine tq 1 hHeld ?_
        refine tq 2 hHeld ?_
        refine tq 3 hHeld ?_
        refine tq 4 hHeld ?_
        refine tq 5 hHeld ?_
        refine tn 6 hHeld ?_
        refine tn 7 hHeld ?_
        refine tn 8 hHeld ?_
        refine tn 9 hHeld ?_
        refine tn 10 hHeld ?_
        refine tn 11 hHeld ?_
        refine tn 12 hHeld ?_
        refine tn 13 hHeld ?_
        refine tq 14 hHeld ?_
        refine tq 15 hHeld ?_
        refine tn 16 hHeld ?_
        refine tn 17 hHeld ?_
        refine tn 18 hHeld ?_
        refine tn 19 hHeld ?_
        refine tn 20 hHeld ?_
        refine tn 21 hHeld ?_
        refine tn 22 hHeld ?_
        refine tn 23 hHeld ?_
        refine tn 24 hHeld ?_
        refine tq 25 hHeld ?_
        refine wpAnyH_done (by kernel_rfl) ?_ _
        have bz:=(Below.refl wr.heap.size wr).drew
        go_wp2_with fail
        go_roundw
        case rel=>exact⟨i+1,by omega,by go_num,bel.trans (bz.mono bel.size),hO.below bz,hX.below bz,hG.below bz,hA.blw bz⟩
        case measure=>simp[intOf];omega
    · obtain rfl:N=i:=by omega
      go_wp2_with fail
      go_ret
      exact⟨rfl,bel⟩
end Go.Proofs.YtcalhcfinkhemaaGreatDoor
