/- Texts of a proof. -/
import Derived.Test.YtcalhcfinkhemaaGreatDoorB48
import Derived.Test.YtcalhcfinkhemaaGreatDoorB47
import Derived.Test.YtcalhcfinkhemaaGreatDoorB21
import Derived.Test.YtcalhcfinkhemaaGreatDoorB18
import Derived.Test.YtcalhcfinkhemaaGreatDoorB20
import Derived.Test.YtcalhcfinkhemaaGreatDoorSeq
import Derived.Test.YtcalhcfinkhemaaGreatDoorB14
import Derived.Test.YtcalhcfinkhemaaGreatDoorB39
import Derived.Test.YtcalhcfinkhemaaGreatDoorB34
import Derived.Test.YtcalhcfinkhemaaGreatDoorB36
import Derived.Deep.RegionHeld3
import Derived.Deep.DeepCutAuto
set_option maxHeartbeats 16000000
set_option maxRecDepth 20000
namespace Go.Proofs.YtcalhcfinkhemaaGreatDoor
open Go.RowKit
set_option linter.unusedVariables false
set_option linter.unusedSimpArgs false
def Gk (w:World):Prop:=w.cell? ⟨0,0,none⟩=some (.iface 176 (.agg #[.pointer (some ⟨1,64,none⟩)]))
theorem Gk.on {w w':World} (h:Gk w) (k:Below w.heap.size w w'):Gk w':=(k.cell (p:=⟨0,0,none⟩) (cell_lt (a:=⟨0,0,none⟩) h)).trans h
theorem eq_shape0 (a b c:Int) (w:World):(Op.equalIn 10000 29 (.agg #[.int .i64 a,.int .i64 b,.int .i64 c]) (.agg #[.int .i64 a,.int .i64 b,.int .i64 c])).run Tryz.prog w= .ok true w:=run_eq_shape 9999 9998 rfl a b c w
theorem fnStepFixed_walk (ac0:Option Addr) (len cap:Nat) (w:World) (hb:Bytes w ac0 len cap) (hg:Gk w):
 Calls Tryz.prog 3 #[.slice ac0 len cap] w fun e w'=>e= .returned (.bool true)∧Below w.heap.size w w':=by
 have hset:=cset_map
 by_cases hlen:1048576<len
 · have hl:(1048576:Int)<(len:Int):=by omega
   go_enter Tryz.func3,Tryz.ntmps3
   go_wp2_with fail
   go_ret
   exact⟨rfl,Below.refl _ _⟩
 have hl:¬ (1048576:Int)<(len:Int):=by omega
 go_enter Tryz.func3,Tryz.ntmps3
 go_upto_region 3 with fail
 go_cut [3,4] (fun s3 s4 wc=>∃ (al:Option Addr) (n c:Nat) (U:Nat→Int) (p:Int),s3= .slice al n c∧s4= .int .i64 p∧n≤13∧Below w.heap.size w wc∧OwnL wc w.heap.size 33 12 (.slice al n c) n U)
 case first=>
  go_wp2_with (go_at_call 8;refine(drStep_k _ _ _ _ hb).mono ?_;intro e w1 hD;unfold DrStep at hD;obtain⟨al,n,c,U,p,rfl,hn,hp,hb1,hO1⟩:=hD)
  go_meet
  exact⟨al,n,c,U,p,rfl,rfl,hn,hb1,hO1⟩
 case rest=>
 obtain⟨al,n,c,U,p,rfl,rfl,hn,bel,hO⟩:=hcut
 obtain⟨N,hN0⟩:∃ N,(bif (bodsB n U&&okP p) then n else 0)=N:=⟨_,rfl⟩
 have hNn:N≤n:=by rw[←hN0];cases (bodsB n U&&okP p)<;>simp
 have hN:Shut ((bif (bodsB n U&&okP p) then n else 0)=N):=hN0
 clear hN0
 obtain⟨RP,hRP0⟩:∃ R,R=stepU n U p:=⟨_,rfl⟩
 have hRP:Shut (RP=stepU n U p):=hRP0
 clear hRP0
 go_upto_region 4 with fail
 go_cut [5] (fun s wc=>∃ (a1:Option Addr) (c1:Nat),s= .slice a1 N c1∧Below w.heap.size w wc∧OwnL wc w.heap.size 33 12 (.slice al n c) n U∧OwnL wc w.heap.size 33 12 (.slice a1 N c1) N RP)
 case first=>
  go_wp2_with (go_at_call 9;refine(step_ir hRP.out al c N _ hO.flat (by omega) (hg.on bel) hN.out).mono ?_;rintro e w1 ⟨a1,c1,rfl,hOu⟩)
  go_meet
  have bz:=hOu.bel
  exact⟨a1,c1,rfl,bel.trans (bz.mono bel.size),hO.below bz,hOu.own.base bel.size⟩
 case rest=>
 clear bel hO
 obtain⟨a1,c1,rfl,bel,hO,hX⟩:=hcut
 obtain⟨NE,hNE⟩:∃ b,((N:Int) !=(n:Int))=b:=⟨_,rfl⟩
 go_upto_region 5 with fail
 go_cut [32] (fun s wc=>s= .bool NE∧Below w.heap.size w wc∧OwnL wc w.heap.size 33 12 (.slice al n c) n U∧OwnL wc w.heap.size 33 12 (.slice a1 N c1) N RP)
 case first=>
  go_wp2_with (first
 |(have _:=b5;go_at_call 10;refine(pqBodies_same a1 a5 N _ _ RP _ (hX.below b5).flat hO5.own.flat (by omega)).mono ?_;rintro e w6 ⟨rfl,hb6⟩;have b6:=b5.trans (hb6.mono b5.size))
 |(go_at_call 11;refine(step_sr hRP.out al c N _ hO.flat (by omega) hN.out).mono ?_;rintro e w5 ⟨a5,c5,rfl,hO5⟩;have b5:=hO5.bel))
  go_meet
  exact⟨by simp,bel.trans (b6.mono bel.size),hO.below b6,hX.below b6⟩
 case rest=>
 clear bel hO hX
 obtain⟨rfl,bel,hO,hX⟩:=hcut
 cases NE with
 | true=>
   go_wp2_with (first
 |(have _:=b5;go_at_call 10;refine(pqBodies_same a1 a5 N _ _ RP _ (hX.below b5).flat hO5.own.flat (by omega)).mono ?_;rintro e w6 ⟨rfl,hb6⟩;have b6:=b5.trans (hb6.mono b5.size))
 | (go_at_call 11;refine(step_sr hRP.out al c N _ hO.flat (by omega) hN.out).mono ?_;rintro e w5 ⟨a5,c5,rfl,hO5⟩;have b5:=hO5.bel))
   go_ret
   exact⟨rfl,bel.trans (b6.mono bel.size)⟩
 | false=>
   have hNE':N=n:=by simp at hNE;omega
   subst hNE'
   clear hNE
   have hBB:Shut (0<N→bodsB N U=true):=fun h0=>by
    have h:=hN.out
    cases e:bodsB N U with
    |true=>rfl
    |false=>rw[e] at h;have h:0=N:=h;omega
   go_wp2_with fail
   go_loopw [6,7,8] (fun s6 _ _ wr=>∃ i:Nat,i≤N∧s6= .int .i64 (i:Int)∧Below w.heap.size w wr∧OwnL wr w.heap.size 33 12 (.slice al N c) N U∧OwnL wr w.heap.size 33 12 (.slice a1 N c1) N RP) (fun s6 _ _ _=>N-(intOf s6).toNat)
   case atStart=>exact⟨0,Nat.zero_le _,rfl,bel,hO,hX⟩
   case round=>
    clear bel hO hX
    obtain⟨i,hi,rfl,bel,hO,hX⟩:=hrel
    by_cases hlt:i<N
    · have hil:(i:Int)<(N:Int):=by omega
      obtain⟨go,rfl,hg1,hg2⟩:=hO.loc (by omega)
      obtain⟨gx,rfl,hg3,hg4⟩:=hX.loc (by omega)
      clear hg1 hg2 hg3 hg4
      go_upto_region 10 with fail
      go_cut [7] (fun s wc=>∃ ga:Nat,s= .pointer (some ⟨ga,0,none⟩)∧Blk wc ga #[.int .i64 (U (i*12)),.int .i64 (U (i*12+1)),.int .i64 (U (i*12+2)),.int .i64 (U (i*12+3)),.int .i64 (U (i*12+4)),.int .i64 (U (i*12+5)),.int .i64 (U (i*12+6)),.int .i64 (U (i*12+7)),.int .i64 (U (i*12+8)),.int .i64 (U (i*12+9)),.int .i64 (U (i*12+10)),.int .i64 (U (i*12+11))] 33∧Below w.heap.size w wc∧OwnL wc w.heap.size 33 12 (.slice (some ⟨go,0,none⟩) N c) N U∧OwnL wc w.heap.size 33 12 (.slice (some ⟨gx,0,none⟩) N c1) N RP)
      case first=>
       have p0:=hO.cellq (q:=i*12) (by omega)
       have p1:=hO.cellq (q:=i*12+1) (by omega)
       have p2:=hO.cellq (q:=i*12+2) (by omega)
       have p3:=hO.cellq (q:=i*12+3) (by omega)
       have p4:=hO.cellq (q:=i*12+4) (by omega)
       have p5:=hO.cellq (q:=i*12+5) (by omega)
       have p6:=hO.cellq (q:=i*12+6) (by omega)
       have p7:=hO.cellq (q:=i*12+7) (by omega)
       have p8:=hO.cellq (q:=i*12+8) (by omega)
       have p9:=hO.cellq (q:=i*12+9) (by omega)
       have p10:=hO.cellq (q:=i*12+10) (by omega)
       have p11:=hO.cellq (q:=i*12+11) (by omega)
       refine wp_region_list ?_
       refine sq ?_
       refine sq ?_
       refine sq ?_
       refine sq ?_
       clear p0 p1 p2 p3 p4 p5 p6 p7 p8 p9 p10 p11
       go_wp2_with fail
       go_meet
       have bz9:=(Below.refl wr.heap.size wr).alloc (Nat.le_refl _) (.cells #[.int .i64 (U (i*12)),.int .i64 (U (i*12+1)),.int .i64 (U (i*12+2)),.int .i64 (U (i*12+3)),.int .i64 (U (i*12+4)),.int .i64 (U (i*12+5)),.int .i64 (U (i*12+6)),.int .i64 (U (i*12+7)),.int .i64 (U (i*12+8)),.int .i64 (U (i*12+9)),.int .i64 (U (i*12+10)),.int .i64 (U (i*12+11))] 33)
       exact⟨_,rfl,Blk.new _ _ _,bel.trans (bz9.mono bel.size),hO.below bz9,hX.below bz9⟩
      case rest=>
      clear bel hO hX
      obtain⟨ga,rfl,hA,bel,hO,hX⟩:=hcut
      go_upto_region 11 with fail
      go_cut [8] (fun s wc=>∃ gb:Nat,s= .pointer (some ⟨gb,0,none⟩)∧Blk wc gb #[.int .i64 (RP (i*12)),.int .i64 (RP (i*12+1)),.int .i64 (RP (i*12+2)),.int .i64 (RP (i*12+3)),.int .i64 (RP (i*12+4)),.int .i64 (RP (i*12+5)),.int .i64 (RP (i*12+6)),.int .i64 (RP (i*12+7)),.int .i64 (RP (i*12+8)),.int .i64 (RP (i*12+9)),.int .i64 (RP (i*12+10)),.int .i64 (RP (i*12+11))] 33∧Blk wc ga #[.int .i64 (U (i*12)),.int .i64 (U (i*12+1)),.int .i64 (U (i*12+2)),.int .i64 (U (i*12+3)),.int .i64 (U (i*12+4)),.int .i64 (U (i*12+5)),.int .i64 (U (i*12+6)),.int .i64 (U (i*12+7)),.int .i64 (U (i*12+8)),.int .i64 (U (i*12+9)),.int .i64 (U (i*12+10)),.int .i64 (U (i*12+11))] 33∧Below w.heap.size w wc∧OwnL wc w.heap.size 33 12 (.slice (some ⟨go,0,none⟩) N c) N U∧OwnL wc w.heap.size 33 12 (.slice (some ⟨gx,0,none⟩) N c1) N RP)
      case first=>
       have q0:=hX.cellq (q:=i*12) (by omega)
       have q1:=hX.cellq (q:=i*12+1) (by omega)
       have q2:=hX.cellq (q:=i*12+2) (by omega)
       have q3:=hX.cellq (q:=i*12+3) (by omega)
       have q4:=hX.cellq (q:=i*12+4) (by omega)
       have q5:=hX.cellq (q:=i*12+5) (by omega)
       have q6:=hX.cellq (q:=i*12+6) (by omega)
       have q7:=hX.cellq (q:=i*12+7) (by omega)
       have q8:=hX.cellq (q:=i*12+8) (by omega)
       have q9:=hX.cellq (q:=i*12+9) (by omega)
       have q10:=hX.cellq (q:=i*12+10) (by omega)
       have q11:=hX.cellq (q:=i*12+11) (by omega)
       refine wp_region_list ?_
       refine sq ?_
       refine sq ?_
       refine sq ?_
       refine sq ?_
       clear q0 q1 q2 q3 q4 q5 q6 q7 q8 q9 q10 q11
       go_wp2_with fail
       go_meet
       have bz9:=(Below.refl wc.heap.size wc).alloc (Nat.le_refl _) (.cells #[.int .i64 (RP (i*12)),.int .i64 (RP (i*12+1)),.int .i64 (RP (i*12+2)),.int .i64 (RP (i*12+3)),.int .i64 (RP (i*12+4)),.int .i64 (RP (i*12+5)),.int .i64 (RP (i*12+6)),.int .i64 (RP (i*12+7)),.int .i64 (RP (i*12+8)),.int .i64 (RP (i*12+9)),.int .i64 (RP (i*12+10)),.int .i64 (RP (i*12+11))] 33)
       exact⟨_,rfl,Blk.new _ _ _,hA.on bz9,bel.trans (bz9.mono bel.size),hO.below bz9,hX.below bz9⟩
      case rest=>
      clear hA bel hO hX
      obtain⟨gb,rfl,hB,hA,bel,hO,hX⟩:=hcut
      have h88:(U (i*12+8) !=U (i*12+8))=false:=by simp
      have hes:=eq_shape0 (U (i*12+1)) (U (i*12+2)) (U (i*12+3))
      have p0:=hA.cell 0 rfl
      have p1:=hA.cell 1 rfl
      have p2:=hA.cell 2 rfl
      have p3:=hA.cell 3 rfl
      have p4:=hA.cell 4 rfl
      have p5:=hA.cell 5 rfl
      have p6:=hA.cell 6 rfl
      have p7:=hA.cell 7 rfl
      have p8:=hA.cell 8 rfl
      have p9:=hA.cell 9 rfl
      have p10:=hA.cell 10 rfl
      have p11:=hA.cell 11 rfl
      have hBB':=hBB.out (by omega)
      cases hm0:(U (i*12+8)==0) with
      | true=>
        have hB2:Blk wc gb #[.int .i64 (U (i*12)),.int .i64 (U (i*12+1)),.int .i64 (U (i*12+2)),.int .i64 (U (i*12+3)),.int .i64 (U (i*12+4)),.int .i64 (U (i*12+5)),.int .i64 (U (i*12+6)),.int .i64 (U (i*12+7)),.int .i64 (U (i*12+8)),.int .i64 (U (i*12+9)),.int .i64 (U (i*12+10)),.int .i64 (U (i*12+11))] 33:=by
         have e1:∀ j,j<12→RP (i*12+j)=U (i*12+j):=fun j hj=>by rw[hRP.out];exact step_keep hlt hj (.inr (by simpa using hm0))
         have e0:=e1 0 (by decide)
         rw[Nat.add_zero] at e0
         rw[←e0,←e1 1 (by decide),←e1 2 (by decide),←e1 3 (by decide),←e1 4 (by decide),←e1 5 (by decide),←e1 6 (by decide),←e1 7 (by decide),←e1 8 (by decide),←e1 9 (by decide),←e1 10 (by decide),←e1 11 (by decide)]
         exact hB
        have q0:=hB2.cell 0 rfl
        have q1:=hB2.cell 1 rfl
        have q2:=hB2.cell 2 rfl
        have q3:=hB2.cell 3 rfl
        have q4:=hB2.cell 4 rfl
        have q5:=hB2.cell 5 rfl
        have q6:=hB2.cell 6 rfl
        have q7:=hB2.cell 7 rfl
        have q8:=hB2.cell 8 rfl
        have q9:=hB2.cell 9 rfl
        have q10:=hB2.cell 10 rfl
        have q11:=hB2.cell 11 rfl
        have hev:=eq_body0 (U (i*12)) (U (i*12+1)) (U (i*12+2)) (U (i*12+3)) (U (i*12+4)) (U (i*12+5)) (U (i*12+6)) (U (i*12+7)) (U (i*12+8)) (U (i*12+9)) (U (i*12+10)) (U (i*12+11))
        go_upto_region 12 with fail
        refine wp_region_list ?_
        refine sq ?_
        refine sq ?_
        refine sq ?_
        refine sq ?_
        refine sq ?_
        refine sq ?_
        refine sq ?_
        refine sq ?_
        refine sq ?_
        refine sq ?_
        refine sq ?_
        refine sq ?_
        refine sq ?_
        refine sq ?_
        refine sq ?_
        refine sq ?_
        refine sq ?_
        refine sq ?_
        refine sq ?_
        refine sq ?_
        refine sq ?_
        refine sq ?_
        refine sq ?_
        refine sq ?_
        refine sq ?_
        refine sq ?_
        refine sq ?_
        refine sq ?_
        refine sq ?_
        refine sq ?_
        refine sq ?_
        refine sq ?_
        refine sq ?_
        refine sq ?_
        refine sq ?_
        refine sq ?_
        refine sq ?_
        refine sq ?_
        refine sq ?_
        refine sq ?_
        refine sq ?_
        refine sq ?_
        refine sq ?_
        refine wpList_nil ?_
        go_wp2_with fail
        go_roundw
        case rel=>exact⟨i+1,by omega,by go_num,bel,hO,hX⟩
        case measure=>simp[intOf];omega
      | false=>
        have e1:∀ j,j<12→Fxd j→RP (i*12+j)=U (i*12+j):=fun j hj h=>by rw[hRP.out];exact step_keep hlt hj (.inl h)
        have q:∀ j,j<12→Fxd j→wc.cell? ⟨gb,j,none⟩=some (.int .i64 (U (i*12+j))):=fun j hj h=>by
         rw[←e1 j hj h]
         rcases(show j=0∨j=1∨j=2∨j=3∨j=4∨j=5∨j=6∨j=7∨j=8∨j=9∨j=10∨j=11 by omega) with rfl|rfl|rfl|rfl|rfl|rfl|rfl|rfl|rfl|rfl|rfl|rfl<;>exact hB.cell _ rfl
        have q0:=q 0 (by decide) (by unfold Fxd;decide)
        have q1:=q 1 (by decide) (by unfold Fxd;decide)
        have q2:=q 2 (by decide) (by unfold Fxd;decide)
        have q3:=q 3 (by decide) (by unfold Fxd;decide)
        have q8:=q 8 (by decide) (by unfold Fxd;decide)
        have q9:=q 9 (by decide) (by unfold Fxd;decide)
        have q10:=q 10 (by decide) (by unfold Fxd;decide)
        rw[Nat.add_zero] at q0
        clear q e1
        go_upto_region 12 with fail
        refine wp_region_list ?_
        refine sq ?_
        refine sq ?_
        refine sq ?_
        refine sq ?_
        refine sn ?_
        refine sn ?_
        refine sn ?_
        refine sq ?_
        refine sq ?_
        refine sq ?_
        refine sq ?_
        refine sq ?_
        refine sq ?_
        refine sq ?_
        refine sq ?_
        refine sq ?_
        refine sq ?_
        refine sq ?_
        refine sq ?_
        refine sq ?_
        refine sq ?_
        refine sq ?_
        refine sq ?_
        refine sq ?_
        refine sq ?_
        refine sq ?_
        refine sq ?_
        refine sq ?_
        refine sq ?_
        refine sq ?_
        refine sq ?_
        refine sq ?_
        refine sq ?_
        refine sq ?_
        refine sq ?_
        refine sq ?_
        refine sq ?_
        refine sq ?_
        refine sq ?_
        refine sq ?_
        refine sq ?_
        refine sq ?_
        refine sq ?_
        refine wpList_nil ?_
        go_wp2_with fail
        go_roundw
        case rel=>exact⟨i+1,by omega,by go_num,bel,hO,hX⟩
        case measure=>simp[intOf];omega
    · obtain rfl:N=i:=by omega
      go_wp2_with fail
      go_ret
      exact⟨rfl,bel⟩
end Go.Proofs.YtcalhcfinkhemaaGreatDoor
