/- Texts of a proof. -/
import Derived.Test.YthajilkjfkppoaaGreatDoorB35
import Derived.Test.YthajilkjfkppoaaGreatDoorB50
import Derived.Test.YthajilkjfkppoaaGreatDoorB6
import Derived.Test.YthajilkjfkppoaaGreatDoorB42
import Derived.Test.YthajilkjfkppoaaGreatDoorB2
import Derived.Test.YthajilkjfkppoaaGreatDoorB12
import Derived.Deep.RegionHeld3
import Derived.Deep.DeepCutAuto
set_option maxHeartbeats 16000000
set_option maxRecDepth 20000
namespace Go.Proofs.YthajilkjfkppoaaGreatDoor
open Go.RowKit
set_option linter.unusedVariables false
set_option linter.unusedSimpArgs false
def Gk (w:World):Prop:=w.cell? ⟨0,0,none⟩=some (.iface 178 (.agg #[.pointer (some ⟨1,76,none⟩)]))
theorem Gk.on {w w':World} (h:Gk w) (k:Below w.heap.size w w'):Gk w':=(k.cell (p:=⟨0,0,none⟩) (cell_lt (a:=⟨0,0,none⟩) h)).trans h
def smN (C:Nat→Int) (i:Int):Nat→Bool
 |0=>false
 |k+1=>smN C i k||(C (k*5)==i||C (k*5+1)==i)
theorem smN_far {n m:Nat} {C:Nat→Int} (hC:CtOk n m C) {i:Nat}:∀ k,k≤m→smN C (i:Int) k=false→∀ q,q<k→i≠(C (q*5)).toNat∧i≠(C (q*5+1)).toNat
 |0,_,_,q,hq=>absurd hq (Nat.not_lt_zero _)
 | k+1,hk,h,q,hq=>by
   rw[smN] at h
   simp only[Bool.or_eq_false_iff,beq_eq_false_iff_ne] at h
   rcases Nat.lt_succ_iff_lt_or_eq.1 hq with l|rfl
   · exact smN_far hC k (by omega) h.1 q l
   · have ha:=hC.a q (by omega)
     have hb:=hC.b q (by omega)
     omega
theorem fnStepAlone_walk (ac0:Option Addr) (len cap:Nat) (w:World) (hb:Bytes w ac0 len cap) (hg:Gk w):
 Calls Tryz.prog 3 #[.slice ac0 len cap] w fun e w'=>e= .returned (.bool true)∧Below w.heap.size w w':=by
 have hset:=cset_map
 by_cases hlen:1048576<len
 · have hl:(1048576:Int)<(len:Int):=by omega
   go_enter Tryz.func3,Tryz.ntmps3
   go_wp2_with fail
   go_ret
   exact⟨rfl,Below.refl _ _⟩
 have hl:¬ (1048576:Int)<(len:Int):=by omega
 go_enter Tryz.func3,Tryz.ntmps3
 go_upto_region 3 with fail
 go_cut [3,4] (fun s3 s4 wc=>∃ (al:Option Addr) (n c:Nat) (U:Nat→Int) (p:Int),s3= .slice al n c∧s4= .int .i64 p∧n≤13∧Below w.heap.size w wc∧OwnL wc w.heap.size 35 12 (.slice al n c) n U)
 case first=>
  go_wp2_with (go_at_call 5;refine(drStep_k _ _ _ _ hb).mono ?_;intro e w1 hD;unfold DrStep at hD;obtain⟨al,n,c,U,p,rfl,hn,hp,hb1,hO1⟩:=hD)
  go_meet
  exact⟨al,n,c,U,p,rfl,rfl,hn,hb1,hO1⟩
 case rest=>
 obtain⟨al,n,c,U,p,rfl,rfl,hn,bel,hO⟩:=hcut
 obtain⟨N,hN0⟩:∃ N,(bif (bodsB n U&&okP p) then n else 0)=N:=⟨_,rfl⟩
 have hNn:N≤n:=by rw[←hN0];cases (bodsB n U&&okP p)<;>simp
 have hN:Shut ((bif (bodsB n U&&okP p) then n else 0)=N):=hN0
 clear hN0
 obtain⟨RP,hRP0⟩:∃ R,R=stepU n U p:=⟨_,rfl⟩
 have hRP:Shut (RP=stepU n U p):=hRP0
 clear hRP0
 go_upto_region 4 with fail
 go_cut [5] (fun s wc=>∃ (a1:Option Addr) (c1:Nat),s= .slice a1 N c1∧Below w.heap.size w wc∧OwnL wc w.heap.size 35 12 (.slice al n c) n U∧OwnL wc w.heap.size 35 12 (.slice a1 N c1) N RP)
 case first=>
  go_wp2_with (go_at_call 6;refine(step_ir hRP.out al c N _ hO.flat (by omega) (hg.on bel) hN.out).mono ?_;rintro e w1 ⟨a1,c1,rfl,hOu⟩)
  go_meet
  have bz:=hOu.bel
  exact⟨a1,c1,rfl,bel.trans (bz.mono bel.size),hO.below bz,hOu.own.base bel.size⟩
 case rest=>
 clear bel hO
 obtain⟨a1,c1,rfl,bel,hO,hX⟩:=hcut
 obtain⟨NE,hNE⟩:∃ b,((N:Int) !=(n:Int))=b:=⟨_,rfl⟩
 go_upto_region 5 with fail
 go_cut [35] (fun s wc=>s= .bool NE∧Below w.heap.size w wc∧OwnL wc w.heap.size 35 12 (.slice al n c) n U∧OwnL wc w.heap.size 35 12 (.slice a1 N c1) N RP)
 case first=>
  go_wp2_with (first
 |(have _:=b5;go_at_call 7;refine(pqBodies_same a1 a5 N _ _ RP _ (hX.below b5).flat hO5.own.flat (by omega)).mono ?_;rintro e w6 ⟨rfl,hb6⟩;have b6:=b5.trans (hb6.mono b5.size))
 |(go_at_call 8;refine(step_sr hRP.out al c N _ hO.flat (by omega) hN.out).mono ?_;rintro e w5 ⟨a5,c5,rfl,hO5⟩;have b5:=hO5.bel))
  go_meet
  exact⟨by simp,bel.trans (b6.mono bel.size),hO.below b6,hX.below b6⟩
 case rest=>
 clear bel hO hX
 obtain⟨rfl,bel,hO,hX⟩:=hcut
 cases NE with
 | true=>
   go_wp2_with (first
 |(have _:=b5;go_at_call 7;refine(pqBodies_same a1 a5 N _ _ RP _ (hX.below b5).flat hO5.own.flat (by omega)).mono ?_;rintro e w6 ⟨rfl,hb6⟩;have b6:=b5.trans (hb6.mono b5.size))
 | (go_at_call 8;refine(step_sr hRP.out al c N _ hO.flat (by omega) hN.out).mono ?_;rintro e w5 ⟨a5,c5,rfl,hO5⟩;have b5:=hO5.bel))
   go_ret
   exact⟨rfl,bel.trans (b6.mono bel.size)⟩
 | false=>
   have hNE':N=n:=by simp at hNE;omega
   subst hNE'
   clear hNE
   have hBB:Shut (0<N→bodsB N U=true):=fun h0=>by
    have h:=hN.out
    cases e:bodsB N U with
    |true=>rfl
    |false=>rw[e] at h;have h:0=N:=h;omega
   have hBk:Shut (bodsB N U=true):=by
    show _=_
    by_cases h0:N=0
    · subst h0;rfl
    · exact hBB.out (by omega)
   clear hBB
   have hP:Shut (0<N→0≤p∧p≤2560):=fun h0=>by
    have h:=hN.out
    rw[hBk.out] at h
    cases e:okP p with
    |true=>unfold okP at e;exact of_decide_eq_true e
    |false=>rw[e] at h;have h:0=N:=h;omega
   obtain⟨CT,hCT0⟩:∃ C,C=ctC N U:=⟨_,rfl⟩
   have hCE:Shut (CT=ctC N U):=hCT0
   have hCR:Shut (CT=ofL (conR N U)):=by show _=_;rw[hCT0];unfold conR;rw[hBk.out];rfl
   clear hCT0
   obtain⟨M,hM0⟩:∃ M,ctM N U=M:=⟨_,rfl⟩
   have hME:Shut (ctM N U=M):=hM0
   have hMN:Shut ((conR N U).length=M*5):=by show _=_;rw[←hM0];unfold conR;rw[hBk.out];exact(ct_ok N U).2
   have hM144:M≤144:=by
    obtain⟨m,e,h⟩:=conR_len N U
    have:=hMN.out
    omega
   clear hM0
   go_upto_region 7 with fail
   go_cut [6] (fun s wc=>∃ (ac:Option Addr) (cc:Nat),s= .slice ac M cc∧Below w.heap.size w wc∧OwnL wc w.heap.size 35 12 (.slice al N c) N U∧OwnL wc w.heap.size 35 12 (.slice a1 N c1) N RP∧OwnL wc w.heap.size 40 5 (.slice ac M cc) M CT)
   case first=>
    go_wp2_with (go_at_call 9;refine(contactsI_r hCR.out al c M _ hO.flat (by omega) hMN.out).mono ?_;rintro e w1 ⟨ac,cc,rfl,hOu⟩)
    go_meet
    have bz:=hOu.bel
    exact⟨ac,cc,rfl,bel.trans (bz.mono bel.size),hO.below bz,hX.below bz,hOu.own.base bel.size⟩
   case rest=>
   clear bel hO hX
   obtain⟨ac,cc,rfl,bel,hO,hX,hC⟩:=hcut
   go_wp2_with fail
   go_loopw [7,8,9,10,11] (fun s7 _ _ _ _ wr=>∃ i:Nat,i≤N∧s7= .int .i64 (i:Int)∧Below w.heap.size w wr∧OwnL wr w.heap.size 35 12 (.slice al N c) N U∧OwnL wr w.heap.size 35 12 (.slice a1 N c1) N RP∧OwnL wr w.heap.size 40 5 (.slice ac M cc) M CT) (fun s7 _ _ _ _ _=>N-(intOf s7).toNat)
   case atStart=>exact⟨0,Nat.zero_le _,rfl,bel,hO,hX,hC⟩
   case round=>
    clear bel hO hX hC
    obtain⟨i,hi,rfl,bel,hO,hX,hC⟩:=hrel
    by_cases hlt:i<N
    · have hil:(i:Int)<(N:Int):=by omega
      obtain⟨go,rfl,hg1,hg2⟩:=hO.loc (by omega)
      obtain⟨gx,rfl,hg3,hg4⟩:=hX.loc (by omega)
      clear hg1 hg3
      have hbod:=(Bods.of hBk.out).ok i hlt
      have hpp:=hP.out (by omega)
      go_upto_region 11 with fail
      go_cut [8] (fun s wc=>∃ gb:Nat,s= .pointer (some ⟨gb,0,none⟩)∧(gb≠go∧gb≠gx∧w.heap.size≤gb)∧Below w.heap.size w wc∧Blk wc gb #[.int .i64 (U (i*12)),.int .i64 (U (i*12+1)),.int .i64 (U (i*12+2)),.int .i64 (U (i*12+3)),.int .i64 (U (i*12+4)),.int .i64 (U (i*12+5)),.int .i64 (U (i*12+6)),.int .i64 (U (i*12+7)),.int .i64 (U (i*12+8)),.int .i64 (U (i*12+9)),.int .i64 (U (i*12+10)),.int .i64 (U (i*12+11))] 35∧OwnL wc w.heap.size 35 12 (.slice (some ⟨go,0,none⟩) N c) N U∧OwnL wc w.heap.size 35 12 (.slice (some ⟨gx,0,none⟩) N c1) N RP∧OwnL wc w.heap.size 40 5 (.slice ac M cc) M CT)
      case first=>
       have p0:=hO.cellq (q:=i*12) (by omega)
       have p1:=hO.cellq (q:=i*12+1) (by omega)
       have p2:=hO.cellq (q:=i*12+2) (by omega)
       have p3:=hO.cellq (q:=i*12+3) (by omega)
       have p4:=hO.cellq (q:=i*12+4) (by omega)
       have p5:=hO.cellq (q:=i*12+5) (by omega)
       have p6:=hO.cellq (q:=i*12+6) (by omega)
       have p7:=hO.cellq (q:=i*12+7) (by omega)
       have p8:=hO.cellq (q:=i*12+8) (by omega)
       have p9:=hO.cellq (q:=i*12+9) (by omega)
       have p10:=hO.cellq (q:=i*12+10) (by omega)
       have p11:=hO.cellq (q:=i*12+11) (by omega)
       refine wp_region_list ?_
       refine sq ?_
       refine sq ?_
       refine sq ?_
       refine sq ?_
       clear p0 p1 p2 p3 p4 p5 p6 p7 p8 p9 p10 p11
       go_wp2_with fail
       go_meet
       have bz:=(Below.refl wr.heap.size wr).alloc (Nat.le_refl _) (.cells #[.int .i64 (U (i*12)),.int .i64 (U (i*12+1)),.int .i64 (U (i*12+2)),.int .i64 (U (i*12+3)),.int .i64 (U (i*12+4)),.int .i64 (U (i*12+5)),.int .i64 (U (i*12+6)),.int .i64 (U (i*12+7)),.int .i64 (U (i*12+8)),.int .i64 (U (i*12+9)),.int .i64 (U (i*12+10)),.int .i64 (U (i*12+11))] 35)
       exact⟨_,rfl,⟨by omega,by omega,bel.size⟩,bel.trans (bz.mono bel.size),Blk.new _ _ _,hO.below bz,hX.below bz,hC.below bz⟩
      case rest=>
      clear bel hO hX hC
      obtain⟨gb,rfl,⟨hgo,hgx,hgb⟩,bel,hV,hO,hX,hC⟩:=hcut
      clear hg2 hg4
      have hn1:(Value.slice (some ⟨go,0,none⟩) N c).ownBlock≠some gb:=by simp[Value.ownBlock];omega
      have hn2:(Value.slice (some ⟨gx,0,none⟩) N c1).ownBlock≠some gb:=by simp[Value.ownBlock];omega
      obtain⟨pm,hpm⟩:∃ z,p*U (i*12+8)=z:=⟨_,rfl⟩
      have hpm0:0≤pm:=by rw[←hpm];exact Int.mul_nonneg (by omega) (by obtain⟨⟨m0,m1⟩,_⟩:=bodyB_bd hbod;exact m0)
      have hb12:=bodyB_bd hbod
      have hpm1:=mul_bd (a:=p) (b:=U (i*12+8)) (A:=2560) (B:=1000) (by omega) (by obtain⟨⟨m0,m1⟩,_⟩:=hb12;have m0':0≤U (i*12+8):=m0;have m1':U (i*12+8)≤1000:=m1;omega)
      rw[hpm] at hpm1
      have hpmS:Shut (p*U (i*12+8)=pm):=hpm
      have hw1:IntKind.i64.wrap (p*U (i*12+8))=pm:=by rw[hpm];exact i64w (by omega)
      clear hpm
      have h7: -20000000≤U (i*12+7)∧U (i*12+7)≤20000000:=by obtain⟨_,_,_,_,_,⟨v0,v1⟩,_⟩:=hb12;exact⟨v0,v1⟩
      clear hb12
      obtain⟨q7,hq7⟩:∃ z,U (i*12+7)-pm=z:=⟨_,rfl⟩
      have hw2:IntKind.i64.wrap (U (i*12+7)-pm)=q7:=by rw[i64w (by omega)];exact hq7
      have hq7S:Shut (U (i*12+7)-pm=q7):=hq7
      have hq7b:q7≤20000000:=by omega
      clear hq7
      go_upto_region 12 with fail
      go_cut [9] (fun s wc=>∃ Z:Bool,s= .bool Z∧(Z=false→U (i*12+8)≠0∧U (i*12+11)≠8∧ -20000000≤q7)∧Below w.heap.size w wc∧Blk wc gb #[.int .i64 (U (i*12)),.int .i64 (U (i*12+1)),.int .i64 (U (i*12+2)),.int .i64 (U (i*12+3)),.int .i64 (U (i*12+4)),.int .i64 (U (i*12+5)),.int .i64 (U (i*12+6)),.int .i64 (U (i*12+7)),.int .i64 (U (i*12+8)),.int .i64 (U (i*12+9)),.int .i64 (U (i*12+10)),.int .i64 (U (i*12+11))] 35∧OwnL wc w.heap.size 35 12 (.slice (some ⟨go,0,none⟩) N c) N U∧OwnL wc w.heap.size 35 12 (.slice (some ⟨gx,0,none⟩) N c1) N RP∧OwnL wc w.heap.size 40 5 (.slice ac M cc) M CT)
      case first=>
       have v0:=hV.cell 0 rfl
       have v1:=hV.cell 1 rfl
       have v2:=hV.cell 2 rfl
       have v3:=hV.cell 3 rfl
       have v4:=hV.cell 4 rfl
       have v5:=hV.cell 5 rfl
       have v6:=hV.cell 6 rfl
       have v7:=hV.cell 7 rfl
       have v8:=hV.cell 8 rfl
       have v9:=hV.cell 9 rfl
       have v10:=hV.cell 10 rfl
       have v11:=hV.cell 11 rfl
       have b0:=Below.refl wc.heap.size wc
       by_cases hm:U (i*12+8)=0
       · have e0:(U (i*12+8)==0)=true:=by simp[hm]
         clear hm
         go_wp2_with fail
         go_meet
         exact⟨true,rfl,(fun e=>by cases e),bel,hV,hO,hX,hC⟩
       · have e0:(U (i*12+8)==0)=false:=by simp[hm]
         cases hsl:decide (U (i*12+11)=8) with
         | true=>
           have hmS:Shut (¬ U (i*12+8)=0):=hm
           clear hm
           go_wp2_with (go_at_call 10;refine(bodySleeps_k (fun j=>U (i*12+j)) _ hbod true hsl).mono ?_;rintro e w2 ⟨rfl,b2⟩)
           go_meet
           exact⟨true,rfl,(fun e=>by cases e),bel.trans (b2.mono bel.size),hV.on b2,hO.below b2,hX.below b2,hC.below b2⟩
         | false=>
           have hmS:Shut (¬ U (i*12+8)=0):=hm
           clear hm
           by_cases hlo:q7< -20000000
           · go_wp2_with (go_at_call 10;refine(bodySleeps_k (fun j=>U (i*12+j)) _ hbod false hsl).mono ?_;rintro e w2 ⟨rfl,b2⟩;have u7:=(hV.on b2).cell 7 rfl;have u8:=(hV.on b2).cell 8 rfl)
             go_meet
             exact⟨true,(by simp[hlo]),(fun e=>by cases e),bel.trans (b2.mono bel.size),hV.on b2,hO.below b2,hX.below b2,hC.below b2⟩
           · go_wp2_with (go_at_call 10;refine(bodySleeps_k (fun j=>U (i*12+j)) _ hbod false hsl).mono ?_;rintro e w2 ⟨rfl,b2⟩;have u7:=(hV.on b2).cell 7 rfl;have u8:=(hV.on b2).cell 8 rfl)
             go_meet
             exact⟨false,(by simp[hlo]),(fun _=>⟨hmS.out,of_decide_eq_false hsl,by omega⟩),bel.trans (b2.mono bel.size),hV.on b2,hO.below b2,hX.below b2,hC.below b2⟩
      case rest=>
      clear bel hV hO hX hC
      obtain⟨Z,rfl,hZ,bel,hV,hO,hX,hC⟩:=hcut
      have hZS:Shut (Z=false→U (i*12+8)≠0∧U (i*12+11)≠8∧ -20000000≤q7):=hZ
      clear hZ
      go_wp2_with fail
      go_loopw [9,10] (fun s9 s10 wq=>∃ k:Nat,k≤M∧s9= .bool (Z||smN CT (i:Int) k)∧s10= .int .i64 (k:Int)∧Below w.heap.size w wq∧Blk wq gb #[.int .i64 (U (i*12)),.int .i64 (U (i*12+1)),.int .i64 (U (i*12+2)),.int .i64 (U (i*12+3)),.int .i64 (U (i*12+4)),.int .i64 (U (i*12+5)),.int .i64 (U (i*12+6)),.int .i64 (U (i*12+7)),.int .i64 (U (i*12+8)),.int .i64 (U (i*12+9)),.int .i64 (U (i*12+10)),.int .i64 (U (i*12+11))] 35∧OwnL wq w.heap.size 35 12 (.slice (some ⟨go,0,none⟩) N c) N U∧OwnL wq w.heap.size 35 12 (.slice (some ⟨gx,0,none⟩) N c1) N RP∧OwnL wq w.heap.size 40 5 (.slice ac M cc) M CT) (fun _ s10 _=>M-(intOf s10).toNat)
      case atStart=>exact⟨0,Nat.zero_le _,by cases Z<;>rfl,rfl,bel,hV,hO,hX,hC⟩
      case round=>
       clear bel hV hO hX hC
       obtain⟨k,hk,rfl,rfl,bel,hV,hO,hX,hC⟩:=hrel
       by_cases hlk:k<M
       · have hkl:(k:Int)<(M:Int):=by omega
         obtain⟨gc,rfl,hg1,hg2⟩:=hC.loc (by omega)
         clear hg1 hg2
         have c0:=hC.cellq (q:=k*5) (by omega)
         have c1_:=hC.cellq (q:=k*5+1) (by omega)
         have hnx:(Z||smN CT (i:Int) (k+1))=((Z||smN CT (i:Int) k)||(CT (k*5)==(i:Int)||CT (k*5+1)==(i:Int))):=by rw[smN,Bool.or_assoc]
         cases hs:(Z||smN CT (i:Int) k) with
         | true=>
           rw[hs,Bool.true_or] at hnx
           clear hs
           go_wp2_with fail
           go_roundw
           case rel=>exact⟨k+1,by omega,by rw[hnx],by go_num,bel,hV,hO,hX,hC⟩
           case measure=>simp[intOf];omega
         | false=>
           rw[hs,Bool.false_or] at hnx
           clear hs
           cases e1:(CT (k*5)==(i:Int)) with
           | true=>
             rw[e1,Bool.true_or] at hnx
             go_wp2_with fail
             go_roundw
             case rel=>exact⟨k+1,by omega,by rw[hnx],by go_num,bel,hV,hO,hX,hC⟩
             case measure=>simp[intOf];omega
           | false=>
             rw[e1,Bool.false_or] at hnx
             go_wp2_with fail
             go_roundw
             case rel=>exact⟨k+1,by omega,by rw[hnx],by go_num,bel,hV,hO,hX,hC⟩
             case measure=>simp[intOf];omega
       · obtain rfl:M=k:=by omega
         cases hs:(Z||smN CT (i:Int) M) with
         | true=>
           clear hs
           go_wp2_with fail
           go_roundw
           case rel=>exact⟨i+1,by omega,by go_num,bel,hO,hX,hC⟩
           case measure=>simp[intOf];omega
         | false=>
           rw[Bool.or_eq_false_iff] at hs
           obtain⟨hm8,hq11,hlo⟩:=hZS.out hs.1
           have hVd:∀ j,j<12→(fun jj=>if jj=7 then q7 else U (i*12+jj)) j=dropV p (fun j=>U (i*12+j)) j:=fun j hj=>by
            unfold dropV setV
            dsimp only
            rw[hpmS.out,hq7S.out]
           have hal:=step_alone (Bods.of hBk.out) hlt hm8 (by obtain⟨_,⟨n0,n1⟩,_⟩:=bodyB_bd hbod;have n1':U (i*12+11)≤8:=n1;omega) hpp.1 (by rw[hpmS.out,hq7S.out];exact hlo) (fun k hk=>by
            have h:=smN_far (n:=N) (m:=M) (C:=CT) (by rw[hCE.out,←hME.out];exact(ct_ok N U).1) M (Nat.le_refl _) hs.2 k (by rw[←hME.out];exact hk)
            rw[hCE.out] at h
            exact h) (fun jj=>if jj=7 then q7 else U (i*12+jj)) hVd
           have hbm:bodyB (fun jj=>if jj=7 then q7 else U (i*12+jj))=true:=by
            rw[bodyB_cong hVd]
            exact drop_bod hbod hm8 hq11 (by show-20000000≤U (i*12+7)-p*U (i*12+8);rw[hpmS.out,hq7S.out];exact hlo) (by show 0≤p*U (i*12+8);rw[hpmS.out];exact hpm0)
           obtain⟨Y,hY0⟩:∃ Y,moveV (fun jj=>if jj=7 then q7 else U (i*12+jj)) (spX (fun jj=>if jj=7 then q7 else U (i*12+jj))) (spY (fun jj=>if jj=7 then q7 else U (i*12+jj)))=Y:=⟨_,rfl⟩
           rw[←hRP.out,hY0] at hal
           have hYS:Shut (moveV (fun jj=>if jj=7 then q7 else U (i*12+jj)) (spX (fun jj=>if jj=7 then q7 else U (i*12+jj))) (spY (fun jj=>if jj=7 then q7 else U (i*12+jj)))=Y):=hY0
           obtain⟨⟨e4',e5'⟩,hdr⟩:=hal
           have e4:Shut (RP (i*12+4)=Y 4):=e4'
           have e5:Shut (RP (i*12+5)=Y 5):=e5'
           clear e4' e5'
           have hdrS:Shut (RP (i*12+11)≠8→RP (i*12+6)=Y 6∧RP (i*12+7)=Y 7):=hdr
           clear hY0 hdr hVd hs hm8 hq11
           have hbd:bodyB (fun j=>RP (i*12+j))=true:=by rw[hRP.out];exact((Bods.of hBk.out).steps p).2.2.2.2.2.2.1.ok i hlt
           go_upto_region 18 with fail
           go_cut [] (fun wc=>Below w.heap.size w wc∧Blk wc gb #[.int .i64 (U (i*12)),.int .i64 (U (i*12+1)),.int .i64 (U (i*12+2)),.int .i64 (U (i*12+3)),.int .i64 (U (i*12+4)),.int .i64 (U (i*12+5)),.int .i64 (U (i*12+6)),.int .i64 q7,.int .i64 (U (i*12+8)),.int .i64 (U (i*12+9)),.int .i64 (U (i*12+10)),.int .i64 (U (i*12+11))] 35∧OwnL wc w.heap.size 35 12 (.slice (some ⟨go,0,none⟩) N c) N U∧OwnL wc w.heap.size 35 12 (.slice (some ⟨gx,0,none⟩) N c1) N RP∧OwnL wc w.heap.size 40 5 (.slice ac M cc) M CT)
           case first=>
            have v6:=hV.cell 6 rfl
            have v7:=hV.cell 7 rfl
            have v8:=hV.cell 8 rfl
            have vf:=hV.f
            go_wp2_with fail
            go_meet
            have hV2:=hV.put 7 (.int .i64 q7)
            simp only[List.setIfInBounds_toArray,List.set_cons_zero,List.set_cons_succ] at hV2
            exact⟨bel.setCell (p:=⟨gb,7,none⟩) (by show w.heap.size≤gb;exact hgb) (.int .i64 q7),hV2,hO.stb (b:=gb) (o:=7) hn1 (.int .i64 q7),hX.stb (b:=gb) (o:=7) hn2 (.int .i64 q7),hC.stb (b:=gb) (o:=7) (hV.ne hC (show 40≠35 by decide)) (.int .i64 q7)⟩
           case rest=>
           clear bel hV hO hX hC
           obtain⟨bel,hV,hO,hX,hC⟩:=hcut
           go_upto_region 19 with fail
           go_cut [11] (fun s wc=>∃ gy:Nat,s= .pointer (some ⟨gy,0,none⟩)∧Below w.heap.size w wc∧Blk wc gb #[.int .i64 (U (i*12)),.int .i64 (U (i*12+1)),.int .i64 (U (i*12+2)),.int .i64 (U (i*12+3)),.int .i64 (U (i*12+4)),.int .i64 (U (i*12+5)),.int .i64 (U (i*12+6)),.int .i64 q7,.int .i64 (U (i*12+8)),.int .i64 (U (i*12+9)),.int .i64 (U (i*12+10)),.int .i64 (U (i*12+11))] 35∧Blk wc gy #[.int .i64 (Y 0),.int .i64 (Y 1),.int .i64 (Y 2),.int .i64 (Y 3),.int .i64 (Y 4),.int .i64 (Y 5),.int .i64 (Y 6),.int .i64 (Y 7),.int .i64 (Y 8),.int .i64 (Y 9),.int .i64 (Y 10),.int .i64 (Y 11)] 35∧OwnL wc w.heap.size 35 12 (.slice (some ⟨go,0,none⟩) N c) N U∧OwnL wc w.heap.size 35 12 (.slice (some ⟨gx,0,none⟩) N c1) N RP∧OwnL wc w.heap.size 40 5 (.slice ac M cc) M CT)
           case first=>
            have v0:=hV.cell 0 rfl
            have v1:=hV.cell 1 rfl
            have v2:=hV.cell 2 rfl
            have v3:=hV.cell 3 rfl
            have v4:=hV.cell 4 rfl
            have v5:=hV.cell 5 rfl
            have v6:=hV.cell 6 rfl
            have v7:=hV.cell 7 rfl
            have v8:=hV.cell 8 rfl
            have v9:=hV.cell 9 rfl
            have v10:=hV.cell 10 rfl
            have v11:=hV.cell 11 rfl
            go_wp2_with (go_at_call 11;refine(bodyMove_k (fun jj=>if jj=7 then q7 else U (i*12+jj)) _ hbm).mono ?_;rintro e w2 ⟨rfl,b2⟩;have hYS2:=hYS.out;rw[hYS2];clear hYS2)
            go_meet
            have b3:=b2.alloc b2.size (.cells #[.int .i64 (Y 0),.int .i64 (Y 1),.int .i64 (Y 2),.int .i64 (Y 3),.int .i64 (Y 4),.int .i64 (Y 5),.int .i64 (Y 6),.int .i64 (Y 7),.int .i64 (Y 8),.int .i64 (Y 9),.int .i64 (Y 10),.int .i64 (Y 11)] 35)
            exact⟨_,rfl,bel.trans (b3.mono bel.size),hV.on b3,Blk.new _ _ _,hO.below b3,hX.below b3,hC.below b3⟩
           case rest=>
           clear bel hV hO hX hC
           obtain⟨gy,rfl,bel,hV,hY,hO,hX,hC⟩:=hcut
           have hev:=eq_vec0 (RP (i*12+4)) (RP (i*12+5)) (RP (i*12+4)) (RP (i*12+5))
           have hv2:(RP (i*12+4)==RP (i*12+4)&&RP (i*12+5)==RP (i*12+5))=true:=by simp
           rw[hv2] at hev
           clear hv2
           cases hsl:decide (RP (i*12+11)=8) with
           | true=>
             go_upto_region 20 with fail
             have x0:=(hX.below (Below.refl _ _)).cellq (q:=i*12) (by omega)
             have x1:=(hX.below (Below.refl _ _)).cellq (q:=i*12+1) (by omega)
             have x2:=(hX.below (Below.refl _ _)).cellq (q:=i*12+2) (by omega)
             have x3:=(hX.below (Below.refl _ _)).cellq (q:=i*12+3) (by omega)
             have x4:=(hX.below (Below.refl _ _)).cellq (q:=i*12+4) (by omega)
             have x5:=(hX.below (Below.refl _ _)).cellq (q:=i*12+5) (by omega)
             have x6:=(hX.below (Below.refl _ _)).cellq (q:=i*12+6) (by omega)
             have x7:=(hX.below (Below.refl _ _)).cellq (q:=i*12+7) (by omega)
             have x8:=(hX.below (Below.refl _ _)).cellq (q:=i*12+8) (by omega)
             have x9:=(hX.below (Below.refl _ _)).cellq (q:=i*12+9) (by omega)
             have x10:=(hX.below (Below.refl _ _)).cellq (q:=i*12+10) (by omega)
             have x11:=(hX.below (Below.refl _ _)).cellq (q:=i*12+11) (by omega)
             have y4:=((hY.on (Below.refl _ _)).cell 4 rfl)
             have y5:=((hY.on (Below.refl _ _)).cell 5 rfl)
             rw[←e4.out] at y4
             rw[←e5.out] at y5
             refine wp_region_held_drew (S:=fun w'=>w'.cell? ⟨gx,i*12,none⟩=some (.int .i64 (RP (i*12)))∧w'.cell? ⟨gx,i*12+1,none⟩=some (.int .i64 (RP (i*12+1)))∧w'.cell? ⟨gx,i*12+2,none⟩=some (.int .i64 (RP (i*12+2)))∧w'.cell? ⟨gx,i*12+3,none⟩=some (.int .i64 (RP (i*12+3)))∧w'.cell? ⟨gx,i*12+4,none⟩=some (.int .i64 (RP (i*12+4)))∧w'.cell? ⟨gx,i*12+5,none⟩=some (.int .i64 (RP (i*12+5)))∧w'.cell? ⟨gx,i*12+6,none⟩=some (.int .i64 (RP (i*12+6)))∧w'.cell? ⟨gx,i*12+7,none⟩=some (.int .i64 (RP (i*12+7)))∧w'.cell? ⟨gx,i*12+8,none⟩=some (.int .i64 (RP (i*12+8)))∧w'.cell? ⟨gx,i*12+9,none⟩=some (.int .i64 (RP (i*12+9)))∧w'.cell? ⟨gx,i*12+10,none⟩=some (.int .i64 (RP (i*12+10)))∧w'.cell? ⟨gx,i*12+11,none⟩=some (.int .i64 (RP (i*12+11)))∧w'.cell? ⟨gy,4,none⟩=some (.int .i64 (RP (i*12+4)))∧w'.cell? ⟨gy,5,none⟩=some (.int .i64 (RP (i*12+5)))) (by kernel_rfl) ?_ (fun hHeld=> ?_)
             · (try dsimp only)
               (first|(go_simp;done)|(go_keep;done))
             refine tq 0 hHeld ?_
             refine tq 1 hHeld ?_
             refine tq 2 hHeld ?_
             refine tq 3 hHeld ?_
             refine tq 4 hHeld ?_
             refine tq 5 hHeld ?_
             refine tq 6 hHeld ?_
             refine tq 7 hHeld ?_
             refine tq 8 hHeld ?_
             refine tq 9 hHeld ?_
             refine tq 10 hHeld ?_
             refine tq 11 hHeld ?_
             refine tq 12 hHeld ?_
             refine tc 13 fun K hK=> ?_
             (go_simp
              (go_at_call 10;refine(bodySleeps_k (fun j=>RP (i*12+j)) _ hbd true hsl).mono ?_;rintro e w2 ⟨rfl,hb2⟩)
              have bz:=hb2.ofDr
              clear x0 x1 x2 x3 x4 x5 x6 x7 x8 x9 x10 x11 y4 y5
              have x0:=(hX.below bz).cellq (q:=i*12) (by omega)
              have x1:=(hX.below bz).cellq (q:=i*12+1) (by omega)
              have x2:=(hX.below bz).cellq (q:=i*12+2) (by omega)
              have x3:=(hX.below bz).cellq (q:=i*12+3) (by omega)
              have x4:=(hX.below bz).cellq (q:=i*12+4) (by omega)
              have x5:=(hX.below bz).cellq (q:=i*12+5) (by omega)
              have x6:=(hX.below bz).cellq (q:=i*12+6) (by omega)
              have x7:=(hX.below bz).cellq (q:=i*12+7) (by omega)
              have x8:=(hX.below bz).cellq (q:=i*12+8) (by omega)
              have x9:=(hX.below bz).cellq (q:=i*12+9) (by omega)
              have x10:=(hX.below bz).cellq (q:=i*12+10) (by omega)
              have x11:=(hX.below bz).cellq (q:=i*12+11) (by omega)
              have y4:=((hY.on bz).cell 4 rfl)
              have y5:=((hY.on bz).cell 5 rfl)
              rw[←e4.out] at y4
              rw[←e5.out] at y5
              (try go_wp2_with fail)
              refine tr hK (fun hHeld=> ?_)
              clear hK K)
             refine tq 14 hHeld ?_
             refine tq 15 hHeld ?_
             refine tn 16 hHeld ?_
             refine tn 17 hHeld ?_
             refine tn 18 hHeld ?_
             refine tn 19 hHeld ?_
             refine tn 20 hHeld ?_
             refine tn 21 hHeld ?_
             refine tn 22 hHeld ?_
             refine tn 23 hHeld ?_
             refine tq 24 hHeld ?_
             refine tq 25 hHeld ?_
             refine wpAnyH_done (by kernel_rfl) ?_ _
             go_wp2_with fail
             go_roundw
             case rel=>exact⟨i+1,by omega,by go_num,bel.trans (bz.mono bel.size),hO.below bz,hX.below bz,hC.below bz⟩
             case measure=>simp[intOf];omega
           | false=>
             obtain⟨e6',e7'⟩:=hdrS.out (of_decide_eq_false hsl)
             have e6:Shut (RP (i*12+6)=Y 6):=e6'
             have e7:Shut (RP (i*12+7)=Y 7):=e7'
             clear e6' e7'
             have hew:=eq_vec0 (RP (i*12+6)) (RP (i*12+7)) (RP (i*12+6)) (RP (i*12+7))
             have hv2:(RP (i*12+6)==RP (i*12+6)&&RP (i*12+7)==RP (i*12+7))=true:=by simp
             rw[hv2] at hew
             clear hv2
             go_upto_region 20 with fail
             have x0:=(hX.below (Below.refl _ _)).cellq (q:=i*12) (by omega)
             have x1:=(hX.below (Below.refl _ _)).cellq (q:=i*12+1) (by omega)
             have x2:=(hX.below (Below.refl _ _)).cellq (q:=i*12+2) (by omega)
             have x3:=(hX.below (Below.refl _ _)).cellq (q:=i*12+3) (by omega)
             have x4:=(hX.below (Below.refl _ _)).cellq (q:=i*12+4) (by omega)
             have x5:=(hX.below (Below.refl _ _)).cellq (q:=i*12+5) (by omega)
             have x6:=(hX.below (Below.refl _ _)).cellq (q:=i*12+6) (by omega)
             have x7:=(hX.below (Below.refl _ _)).cellq (q:=i*12+7) (by omega)
             have x8:=(hX.below (Below.refl _ _)).cellq (q:=i*12+8) (by omega)
             have x9:=(hX.below (Below.refl _ _)).cellq (q:=i*12+9) (by omega)
             have x10:=(hX.below (Below.refl _ _)).cellq (q:=i*12+10) (by omega)
             have x11:=(hX.below (Below.refl _ _)).cellq (q:=i*12+11) (by omega)
             have y4:=((hY.on (Below.refl _ _)).cell 4 rfl)
             have y5:=((hY.on (Below.refl _ _)).cell 5 rfl)
             have y6:=((hY.on (Below.refl _ _)).cell 6 rfl)
             have y7:=((hY.on (Below.refl _ _)).cell 7 rfl)
             rw[←e4.out] at y4
             rw[←e5.out] at y5
             rw[←e6.out] at y6
             rw[←e7.out] at y7
             refine wp_region_held_drew (S:=fun w'=>w'.cell? ⟨gx,i*12,none⟩=some (.int .i64 (RP (i*12)))∧w'.cell? ⟨gx,i*12+1,none⟩=some (.int .i64 (RP (i*12+1)))∧w'.cell? ⟨gx,i*12+2,none⟩=some (.int .i64 (RP (i*12+2)))∧w'.cell? ⟨gx,i*12+3,none⟩=some (.int .i64 (RP (i*12+3)))∧w'.cell? ⟨gx,i*12+4,none⟩=some (.int .i64 (RP (i*12+4)))∧w'.cell? ⟨gx,i*12+5,none⟩=some (.int .i64 (RP (i*12+5)))∧w'.cell? ⟨gx,i*12+6,none⟩=some (.int .i64 (RP (i*12+6)))∧w'.cell? ⟨gx,i*12+7,none⟩=some (.int .i64 (RP (i*12+7)))∧w'.cell? ⟨gx,i*12+8,none⟩=some (.int .i64 (RP (i*12+8)))∧w'.cell? ⟨gx,i*12+9,none⟩=some (.int .i64 (RP (i*12+9)))∧w'.cell? ⟨gx,i*12+10,none⟩=some (.int .i64 (RP (i*12+10)))∧w'.cell? ⟨gx,i*12+11,none⟩=some (.int .i64 (RP (i*12+11)))∧w'.cell? ⟨gy,4,none⟩=some (.int .i64 (RP (i*12+4)))∧w'.cell? ⟨gy,5,none⟩=some (.int .i64 (RP (i*12+5)))∧w'.cell? ⟨gy,6,none⟩=some (.int .i64 (RP (i*12+6)))∧w'.cell? ⟨gy,7,none⟩=some (.int .i64 (RP (i*12+7)))) (by kernel_rfl) ?_ (fun hHeld=> ?_)
             · (try dsimp only)
               (first|(go_simp;done)|(go_keep;done))
             refine tq 0 hHeld ?_
             refine tq 1 hHeld ?_
             refine tq 2 hHeld ?_
             refine tq 3 hHeld ?_
             refine tq 4 hHeld ?_
             refine tq 5 hHeld ?_
             refine tq 6 hHeld ?_
             refine tq 7 hHeld ?_
             refine tq 8 hHeld ?_
             refine tq 9 hHeld ?_
             refine tq 10 hHeld ?_
             refine tq 11 hHeld ?_
             refine tq 12 hHeld ?_
             refine tc 13 fun K hK=> ?_
             (go_simp
              (go_at_call 10;refine(bodySleeps_k (fun j=>RP (i*12+j)) _ hbd false hsl).mono ?_;rintro e w2 ⟨rfl,hb2⟩)
              have bz:=hb2.ofDr
              clear x0 x1 x2 x3 x4 x5 x6 x7 x8 x9 x10 x11 y4 y5 y6 y7
              have x0:=(hX.below bz).cellq (q:=i*12) (by omega)
              have x1:=(hX.below bz).cellq (q:=i*12+1) (by omega)
              have x2:=(hX.below bz).cellq (q:=i*12+2) (by omega)
              have x3:=(hX.below bz).cellq (q:=i*12+3) (by omega)
              have x4:=(hX.below bz).cellq (q:=i*12+4) (by omega)
              have x5:=(hX.below bz).cellq (q:=i*12+5) (by omega)
              have x6:=(hX.below bz).cellq (q:=i*12+6) (by omega)
              have x7:=(hX.below bz).cellq (q:=i*12+7) (by omega)
              have x8:=(hX.below bz).cellq (q:=i*12+8) (by omega)
              have x9:=(hX.below bz).cellq (q:=i*12+9) (by omega)
              have x10:=(hX.below bz).cellq (q:=i*12+10) (by omega)
              have x11:=(hX.below bz).cellq (q:=i*12+11) (by omega)
              have y4:=((hY.on bz).cell 4 rfl)
              have y5:=((hY.on bz).cell 5 rfl)
              have y6:=((hY.on bz).cell 6 rfl)
              have y7:=((hY.on bz).cell 7 rfl)
              rw[←e4.out] at y4
              rw[←e5.out] at y5
              rw[←e6.out] at y6
              rw[←e7.out] at y7
              (try go_wp2_with fail)
              refine tr hK (fun hHeld=> ?_)
              clear hK K)
             refine tq 14 hHeld ?_
             refine tq 15 hHeld ?_
             refine tq 16 hHeld ?_
             refine tq 17 hHeld ?_
             refine tq 18 hHeld ?_
             refine tq 19 hHeld ?_
             refine tq 20 hHeld ?_
             refine tq 21 hHeld ?_
             refine tq 22 hHeld ?_
             refine tq 23 hHeld ?_
             refine tq 24 hHeld ?_
             refine tq 25 hHeld ?_
             refine wpAnyH_done (by kernel_rfl) ?_ _
             go_wp2_with fail
             go_roundw
             case rel=>exact⟨i+1,by omega,by go_num,bel.trans (bz.mono bel.size),hO.below bz,hX.below bz,hC.below bz⟩
             case measure=>simp[intOf];omega
    · obtain rfl:N=i:=by omega
      go_wp2_with fail
      go_ret
      exact⟨rfl,bel⟩
end Go.Proofs.YthajilkjfkppoaaGreatDoor
