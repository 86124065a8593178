/- Texts of a proof. -/
import Derived.Test.YtcalhcfinkhemaaGreatDoorB48
import Derived.Test.YtcalhcfinkhemaaGreatDoorB47
import Derived.Test.YtcalhcfinkhemaaGreatDoorB21
import Derived.Test.YtcalhcfinkhemaaGreatDoorLGa
import Derived.Test.YtcalhcfinkhemaaGreatDoorSeq
import Derived.Test.YtcalhcfinkhemaaGreatDoorB39
import Derived.Test.YtcalhcfinkhemaaGreatDoorB34
import Derived.Test.YtcalhcfinkhemaaGreatDoorB36
import Derived.Deep.RegionHeld3
import Derived.Deep.DeepCutAuto
set_option maxHeartbeats 16000000
set_option maxRecDepth 20000
namespace Go.Proofs.YtcalhcfinkhemaaGreatDoor
open Go.RowKit
set_option linter.unusedVariables false
set_option linter.unusedSimpArgs false
def Gk (w:World):Prop:=w.cell? ⟨0,0,none⟩=some (.iface 176 (.agg #[.pointer (some ⟨1,64,none⟩)]))
theorem Gk.on {w w':World} (h:Gk w) (k:Below w.heap.size w w'):Gk w':=(k.cell (p:=⟨0,0,none⟩) (cell_lt (a:=⟨0,0,none⟩) h)).trans h
theorem OwnB.blw {w w':World} {base n:Nat} {v:Value} {R:Nat→Bool} (h:OwnB w base v n R) (hb:Below w.heap.size w w'):OwnB w' base v n R:=by
 have hg:=below_grown hb rfl
 cases e:v.ownBlock with
 |none=>exact World.ownsRow.kept h hg (.inl e)
 |some b=>exact World.ownsRow.kept h hg (.inr (by rw[e];simp))
theorem cntp_none {p:Nat→Bool}:∀ {n:Nat},(∀ j,j<n→p j=false)→cntp p n=0
 |0,_=>rfl
 |n+1,h=>by rw[cntp,cntp_none (fun j hj=>h j (by omega)),h n (by omega)];rfl
theorem cntp_all {p q:Nat→Bool}:∀ {n:Nat},(∀ j,j<n→p j=q j)→cntp p n=cntp q n
 |0,_=>rfl
 |n+1,h=>by rw[cntp,cntp,cntp_all (fun j hj=>h j (by omega)),h n (by omega)]
theorem one_all {n k:Nat} {G R:Nat→Int} (h:(∀ i,i<n→G i=(k:Int)→R (i*12+11)<8)∨(∀ i,i<n→G i=(k:Int)→R (i*12+11)=8)):cntp (fun j=>decide (G j=(k:Int))&&decide (R (j*12+11)=8)) n=0∨cntp (fun j=>decide (G j=(k:Int))&&decide (R (j*12+11)=8)) n=cntp (fun j=>decide (G j=(k:Int))) n:=by
 rcases h with h|h
 · refine .inl (cntp_none fun j hj=> ?_)
   by_cases e:G j=(k:Int)
   · have:=h j hj e
     rw[decide_eq_false (show ¬ R (j*12+11)=8 by omega),Bool.and_false]
   · rw[decide_eq_false e,Bool.false_and]
 · refine .inr (cntp_all fun j hj=> ?_)
   by_cases e:G j=(k:Int)
   · rw[decide_eq_true (h j hj e),Bool.and_true]
   · rw[decide_eq_false e,Bool.false_and]
theorem fnStepRest_walk (ac0:Option Addr) (len cap:Nat) (w:World) (hb:Bytes w ac0 len cap) (hg:Gk w):
 Calls Tryz.prog 5 #[.slice ac0 len cap] w fun e w'=>e= .returned (.bool true)∧Below w.heap.size w w':=by
 have hset:=cset_map
 by_cases hlen:1048576<len
 · have hl:(1048576:Int)<(len:Int):=by omega
   go_enter Tryz.func5,Tryz.ntmps5
   go_wp2_with fail
   go_ret
   exact⟨rfl,Below.refl _ _⟩
 have hl:¬ (1048576:Int)<(len:Int):=by omega
 go_enter Tryz.func5,Tryz.ntmps5
 go_upto_region 3 with fail
 go_cut [3,4] (fun s3 s4 wc=>∃ (al:Option Addr) (n c:Nat) (U:Nat→Int) (p:Int),s3= .slice al n c∧s4= .int .i64 p∧n≤13∧Below w.heap.size w wc∧OwnL wc w.heap.size 33 12 (.slice al n c) n U)
 case first=>
  go_wp2_with (go_at_call 8;refine(drStep_k _ _ _ _ hb).mono ?_;intro e w1 hD;unfold DrStep at hD;obtain⟨al,n,c,U,p,rfl,hn,hp,hb1,hO1⟩:=hD)
  go_meet
  exact⟨al,n,c,U,p,rfl,rfl,hn,hb1,hO1⟩
 case rest=>
 obtain⟨al,n,c,U,p,rfl,rfl,hn,bel,hO⟩:=hcut
 obtain⟨N,hN0⟩:∃ N,(bif (bodsB n U&&okP p) then n else 0)=N:=⟨_,rfl⟩
 have hNn:N≤n:=by rw[←hN0];cases (bodsB n U&&okP p)<;>simp
 have hN:Shut ((bif (bodsB n U&&okP p) then n else 0)=N):=hN0
 clear hN0
 obtain⟨RP,hRP0⟩:∃ R,R=stepU n U p:=⟨_,rfl⟩
 have hRP:Shut (RP=stepU n U p):=hRP0
 clear hRP0
 go_upto_region 4 with fail
 go_cut [5] (fun s wc=>∃ (a1:Option Addr) (c1:Nat),s= .slice a1 N c1∧Below w.heap.size w wc∧OwnL wc w.heap.size 33 12 (.slice al n c) n U∧OwnL wc w.heap.size 33 12 (.slice a1 N c1) N RP)
 case first=>
  go_wp2_with (go_at_call 9;refine(step_ir hRP.out al c N _ hO.flat (by omega) (hg.on bel) hN.out).mono ?_;rintro e w1 ⟨a1,c1,rfl,hOu⟩)
  go_meet
  have bz:=hOu.bel
  exact⟨a1,c1,rfl,bel.trans (bz.mono bel.size),hO.below bz,hOu.own.base bel.size⟩
 case rest=>
 clear bel hO
 obtain⟨a1,c1,rfl,bel,hO,hX⟩:=hcut
 obtain⟨NE,hNE⟩:∃ b,((N:Int) !=(n:Int))=b:=⟨_,rfl⟩
 go_upto_region 5 with fail
 go_cut [35] (fun s wc=>s= .bool NE∧Below w.heap.size w wc∧OwnL wc w.heap.size 33 12 (.slice al n c) n U∧OwnL wc w.heap.size 33 12 (.slice a1 N c1) N RP)
 case first=>
  go_wp2_with (first
 |(have _:=b5;go_at_call 10;refine(pqBodies_same a1 a5 N _ _ RP _ (hX.below b5).flat hO5.own.flat (by omega)).mono ?_;rintro e w6 ⟨rfl,hb6⟩;have b6:=b5.trans (hb6.mono b5.size))
 |(go_at_call 11;refine(step_sr hRP.out al c N _ hO.flat (by omega) hN.out).mono ?_;rintro e w5 ⟨a5,c5,rfl,hO5⟩;have b5:=hO5.bel))
  go_meet
  exact⟨by simp,bel.trans (b6.mono bel.size),hO.below b6,hX.below b6⟩
 case rest=>
 clear bel hO hX
 obtain⟨rfl,bel,hO,hX⟩:=hcut
 cases NE with
 | true=>
   go_wp2_with (first
 |(have _:=b5;go_at_call 10;refine(pqBodies_same a1 a5 N _ _ RP _ (hX.below b5).flat hO5.own.flat (by omega)).mono ?_;rintro e w6 ⟨rfl,hb6⟩;have b6:=b5.trans (hb6.mono b5.size))
 | (go_at_call 11;refine(step_sr hRP.out al c N _ hO.flat (by omega) hN.out).mono ?_;rintro e w5 ⟨a5,c5,rfl,hO5⟩;have b5:=hO5.bel))
   go_ret
   exact⟨rfl,bel.trans (b6.mono bel.size)⟩
 | false=>
   have hNE':N=n:=by simp at hNE;omega
   subst hNE'
   clear hNE
   have hBB:Shut (0<N→bodsB N U=true):=fun h0=>by
    have h:=hN.out
    cases e:bodsB N U with
    |true=>rfl
    |false=>rw[e] at h;have h:0=N:=h;omega
   have hBk:Shut (bodsB N U=true):=by
    show _=_
    by_cases h0:N=0
    · subst h0;rfl
    · exact hBB.out (by omega)
   clear hBB
   obtain⟨G,hG0⟩:∃ G,G=gpG N U:=⟨_,rfl⟩
   have hGE:Shut (G=gpG N U):=hG0
   have hGR:Shut (G=ofL (grpO N U)):=by show _=_;rw[hG0,grpO_y hBk.out];rfl
   have hGN:Shut ((grpO N U).length=N):=by show _=_;rw[grpO_y hBk.out];exact grpL_len _ _ _ _
   clear hG0
   obtain⟨A,hA0⟩:∃ A,A=awA N U:=⟨_,rfl⟩
   have hAE:Shut (A=awA N U):=hA0
   have hAR:Shut (A=fun j=>(awO N U).getD j false):=by show _=_;rw[hA0,awO_y hBk.out];rfl
   clear hA0
   obtain⟨M,hM0⟩:∃ M,awN N U=M:=⟨_,rfl⟩
   have hME:Shut (awN N U=M):=hM0
   have hMN:Shut ((awO N U).length=M):=by show _=_;rw[awO_y hBk.out];exact hM0
   have hM12:M≤12:=by rw[←hMN.out];exact awO_len _ _
   clear hM0
   go_upto_region 7 with fail
   go_cut [6] (fun s wc=>∃ (ag:Option Addr) (cg:Nat),s= .slice ag N cg∧Below w.heap.size w wc∧OwnL wc w.heap.size 33 12 (.slice al N c) N U∧OwnL wc w.heap.size 33 12 (.slice a1 N c1) N RP∧OwnL wc w.heap.size 3 1 (.slice ag N cg) N G)
   case first=>
    go_wp2_with (go_at_call 12;refine(groupsI_r hGR.out al c N _ hO.flat (by omega) hGN.out).mono ?_;rintro e w1 ⟨ag,cg,rfl,hOu⟩)
    go_meet
    have bz:=hOu.bel
    exact⟨ag,cg,rfl,bel.trans (bz.mono bel.size),hO.below bz,hX.below bz,hOu.own.base bel.size⟩
   case rest=>
   clear bel hO hX
   obtain⟨ag,cg,rfl,bel,hO,hX,hG⟩:=hcut
   go_upto_region 8 with fail
   go_cut [7] (fun s wc=>∃ (aa:Option Addr) (ca:Nat),s= .slice aa M ca∧Below w.heap.size w wc∧OwnL wc w.heap.size 33 12 (.slice al N c) N U∧OwnL wc w.heap.size 33 12 (.slice a1 N c1) N RP∧OwnL wc w.heap.size 3 1 (.slice ag N cg) N G∧OwnB wc w.heap.size (.slice aa M ca) M A)
   case first=>
    go_wp2_with (go_at_call 13;refine(awakeI_r hAR.out al c M _ hO.flat (by omega) hMN.out).mono ?_;rintro e w1 ⟨aa,ca,rfl,hOu⟩)
    go_meet
    have bz:=hOu.bel
    exact⟨aa,ca,rfl,bel.trans (bz.mono bel.size),hO.below bz,hX.below bz,hG.below bz,hOu.own.base bel.size⟩
   case rest=>
   clear bel hO hX hG
   obtain⟨aa,ca,rfl,bel,hO,hX,hG,hA⟩:=hcut
   have hOne:Shut (∀ k,A k=true→(∀ i,i<N→G i=(k:Int)→RP (i*12+11)<8)∨(∀ i,i<N→G i=(k:Int)→RP (i*12+11)=8)):=fun k hk=>by
    rw[hGE.out,hRP.out]
    rw[hAE.out] at hk
    exact step_as_one hk
   have hBR:Shut (Bods N RP):=by show Bods N RP;rw[hRP.out];exact((Bods.of hBk.out).steps p).2.2.2.2.2.2.1
   clear hGE hGR hGN hAE hAR hME hMN hRP
   go_wp2_with fail
   go_loopw [8,9,10,11] (fun s8 _ _ _ wr=>∃ k:Nat,k≤M∧s8= .int .i64 (k:Int)∧Below w.heap.size w wr∧OwnL wr w.heap.size 33 12 (.slice al N c) N U∧OwnL wr w.heap.size 33 12 (.slice a1 N c1) N RP∧OwnL wr w.heap.size 3 1 (.slice ag N cg) N G∧OwnB wr w.heap.size (.slice aa M ca) M A) (fun s8 _ _ _ _=>M-(intOf s8).toNat)
   case atStart=>exact⟨0,Nat.zero_le _,rfl,bel,hO,hX,hG,hA⟩
   case round=>
    clear bel hO hX hG hA
    obtain⟨k,hk,rfl,bel,hO,hX,hG,hA⟩:=hrel
    by_cases hlk:k<M
    · have hkl:(k:Int)<(M:Int):=by omega
      obtain⟨ga,rfl,hg1,hg2⟩:=hA.loc (by omega)
      clear hg1 hg2
      go_wp2_with fail
      go_loopw [9,10,11] (fun s9 s10 s11 wq=>∃ i:Nat,i≤N∧s11= .int .i64 (i:Int)∧s9= .int .i64 (cntp (fun j=>decide (G j=(k:Int))&&decide (RP (j*12+11)=8)) i:Int)∧s10= .int .i64 (cntp (fun j=>decide (G j=(k:Int))) i:Int)∧Below w.heap.size w wq∧OwnL wq w.heap.size 33 12 (.slice al N c) N U∧OwnL wq w.heap.size 33 12 (.slice a1 N c1) N RP∧OwnL wq w.heap.size 3 1 (.slice ag N cg) N G∧OwnB wq w.heap.size (.slice (some ⟨ga,0,none⟩) M ca) M A) (fun _ _ s11 _=>N-(intOf s11).toNat)
      case atStart=>exact⟨0,Nat.zero_le _,rfl,rfl,rfl,bel,hO,hX,hG,hA⟩
      case round=>
       clear bel hO hX hG hA
       obtain⟨i,hi,rfl,rfl,rfl,bel,hO,hX,hG,hA⟩:=hrel
       have ha:=cntp_le (fun j=>decide (G j=(k:Int))&&decide (RP (j*12+11)=8)) i
       have hb':=cntp_le (fun j=>decide (G j=(k:Int))) i
       by_cases hlt:i<N
       · have hil:(i:Int)<(N:Int):=by omega
         obtain⟨gx,rfl,hg3,hg4⟩:=hX.loc (by omega)
         obtain⟨gg,rfl,hg5,hg6⟩:=hG.loc (by omega)
         clear hg3 hg4 hg5 hg6
         have g0:=hG.cellq (q:=i) (by omega)
         have nS:cntp (fun j=>decide (G j=(k:Int))&&decide (RP (j*12+11)=8)) (i+1)=cntp (fun j=>decide (G j=(k:Int))&&decide (RP (j*12+11)=8)) i+(if (decide (G i=(k:Int))&&decide (RP (i*12+11)=8))=true then 1 else 0):=rfl
         have nA:cntp (fun j=>decide (G j=(k:Int))) (i+1)=cntp (fun j=>decide (G j=(k:Int))) i+(if decide (G i=(k:Int))=true then 1 else 0):=rfl
         obtain⟨cS,hcS⟩:∃ x,cntp (fun j=>decide (G j=(k:Int))&&decide (RP (j*12+11)=8)) i=x:=⟨_,rfl⟩
         obtain⟨cA,hcA⟩:∃ x,cntp (fun j=>decide (G j=(k:Int))) i=x:=⟨_,rfl⟩
         rw[hcS] at nS ha ⊢
         rw[hcA] at nA hb' ⊢
         clear hcS hcA
         by_cases hgk:G i=(k:Int)
         · have hge:(G i==(k:Int))=true:=by simp[hgk]
           rw[decide_eq_true hgk] at nS nA
           clear hgk
           have q0:=hX.cellq (q:=i*12) (by omega)
           have q1:=hX.cellq (q:=i*12+1) (by omega)
           have q2:=hX.cellq (q:=i*12+2) (by omega)
           have q3:=hX.cellq (q:=i*12+3) (by omega)
           have q4:=hX.cellq (q:=i*12+4) (by omega)
           have q5:=hX.cellq (q:=i*12+5) (by omega)
           have q6:=hX.cellq (q:=i*12+6) (by omega)
           have q7:=hX.cellq (q:=i*12+7) (by omega)
           have q8:=hX.cellq (q:=i*12+8) (by omega)
           have q9:=hX.cellq (q:=i*12+9) (by omega)
           have q10:=hX.cellq (q:=i*12+10) (by omega)
           have q11:=hX.cellq (q:=i*12+11) (by omega)
           have hbd:=hBR.out.ok i hlt
           have e1:IntKind.i64.wrap ((cA:Int)+1)=((cA+1:Nat):Int):=by rw[i64w (by omega)];omega
           have e2:IntKind.i64.wrap ((cS:Int)+1)=((cS+1:Nat):Int):=by rw[i64w (by omega)];omega
           cases hsl:decide (RP (i*12+11)=8) with
           | true=>
             rw[hsl] at nS
             go_wp2_with (go_at_call 14;refine(bodySleeps_k (fun j=>RP (i*12+j)) _ hbd true hsl).mono ?_;rintro e w2 ⟨rfl,bz⟩)
             go_roundw
             case rel=>exact⟨i+1,by omega,by go_num,by rw[nS];rfl,by rw[nA];rfl,bel.trans (bz.mono bel.size),hO.below bz,hX.below bz,hG.below bz,hA.blw bz⟩
             case measure=>simp[intOf];omega
           | false=>
             rw[hsl] at nS
             go_wp2_with (go_at_call 14;refine(bodySleeps_k (fun j=>RP (i*12+j)) _ hbd false hsl).mono ?_;rintro e w2 ⟨rfl,bz⟩)
             go_roundw
             case rel=>exact⟨i+1,by omega,by go_num,by rw[nS];rfl,by rw[nA];rfl,bel.trans (bz.mono bel.size),hO.below bz,hX.below bz,hG.below bz,hA.blw bz⟩
             case measure=>simp[intOf];omega
         · have hge:(G i==(k:Int))=false:=by simp[hgk]
           rw[decide_eq_false hgk] at nS nA
           clear hgk
           go_wp2_with fail
           go_roundw
           case rel=>exact⟨i+1,by omega,by go_num,by rw[nS];rfl,by rw[nA];rfl,bel,hO,hX,hG,hA⟩
           case measure=>simp[intOf];omega
       · obtain rfl:N=i:=by omega
         have a0:=hA.cellq (q:=k) (by omega)
         cases hat:A k with
         | false=>
           rw[hat] at a0
           clear hat ha hb'
           generalize cntp (fun j=>decide (G j=(k:Int))&&decide (RP (j*12+11)=8)) N=cS
           generalize cntp (fun j=>decide (G j=(k:Int))) N=cA
           go_upto_region 21 with fail
           refine wp_region_list ?_
           refine sq ?_
           refine sq ?_
           refine sq ?_
           refine sq ?_
           refine sq ?_
           refine sn ?_
           refine sn ?_
           refine sq ?_
           refine sq ?_
           refine sn ?_
           refine sn ?_
           refine sn ?_
           refine sq ?_
           refine wpList_nil ?_
           go_wp2_with fail
           go_roundw
           case rel=>exact⟨k+1,by omega,by go_num,bel,hO,hX,hG,hA⟩
           case measure=>simp[intOf];omega
         | true=>
           rw[hat] at a0
           have h2:=one_all (hOne.out k hat)
           clear hat
           generalize cntp (fun j=>decide (G j=(k:Int))&&decide (RP (j*12+11)=8)) N=cS at h2 ha ⊢
           generalize cntp (fun j=>decide (G j=(k:Int))) N=cA at h2 hb' ⊢
           by_cases hz:cS=0
           · have e0:((cS:Int) !=0)=false:=by simp[hz]
             clear h2 hz
             go_upto_region 21 with fail
             refine wp_region_list ?_
             refine sq ?_
             refine sq ?_
             refine sq ?_
             refine sq ?_
             refine sq ?_
             refine sq ?_
             refine sq ?_
             refine sq ?_
             refine sq ?_
             refine sn ?_
             refine sn ?_
             refine sn ?_
             refine sq ?_
             refine wpList_nil ?_
             go_wp2_with fail
             go_roundw
             case rel=>exact⟨k+1,by omega,by go_num,bel,hO,hX,hG,hA⟩
             case measure=>simp[intOf];omega
           · have e0:((cS:Int) !=0)=true:=by simp[hz]
             have e3:((cS:Int) !=(cA:Int))=false:=by simp;omega
             clear h2 hz
             go_upto_region 21 with fail
             refine wp_region_list ?_
             refine sq ?_
             refine sq ?_
             refine sq ?_
             refine sq ?_
             refine sq ?_
             refine sq ?_
             refine sq ?_
             refine sq ?_
             refine sq ?_
             refine sq ?_
             refine sq ?_
             refine sq ?_
             refine sq ?_
             refine wpList_nil ?_
             go_wp2_with fail
             go_roundw
             case rel=>exact⟨k+1,by omega,by go_num,bel,hO,hX,hG,hA⟩
             case measure=>simp[intOf];omega
    · obtain rfl:M=k:=by omega
      go_wp2_with fail
      go_ret
      exact⟨rfl,bel⟩
end Go.Proofs.YtcalhcfinkhemaaGreatDoor
