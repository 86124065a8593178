/- All groups, and what is fixed, are all bodies, and a group by itself is one group (promise 38), for every code. -/
import Derived.Test.YtbdbbdjifgpgeaaGreatGofX
import Derived.Test.YtbdbbdjifgpgeaaGreatB40
import Derived.Test.YtbdbbdjifgpgeaaGreatDrawH
import Derived.Test.YtbdbbdjifgpgeaaGreatB6
import Derived.Test.YtbdbbdjifgpgeaaGreatBlk
import Derived.Test.YtbdbbdjifgpgeaaGreatB30
import Derived.Test.YtbdbbdjifgpgeaaGreatBdOk
import Derived.Test.YtbdbbdjifgpgeaaGreatBdOkI
import Derived.Deep.RegionHeld3
import Derived.Deep.DeepCutAuto
import Derived.Test.YtbdbbdjifgpgeaaGreatB3
import Derived.ProofKit
import Derived.OpenShut
import Derived.ShutString
import Derived.ChangeOld
import Derived.Lib.SmallJoins
set_option maxHeartbeats 16000000
set_option maxRecDepth 20000
namespace Go.Proofs.YtbdbbdjifgpgeaaGreat
open Go.RowKit
set_option linter.unusedVariables false
set_option linter.unusedSimpArgs false
theorem l7Neg_any (b:Bool) (w:World):Calls Tryz.prog 14 #[.bool b] w fun e w'=>∃ z:Int,e= .returned (.int .i64 z)∧(0≤z∧z≤5)∧Below w.heap.size w w':=by
 cases b with
 | true=>
   go_enter Tryz.func14,Tryz.ntmps14
   go_wp2_with fail
   go_ret
   exact⟨5,rfl,by decide,Below.refl _ _⟩
 | false=>
   go_enter Tryz.func14,Tryz.ntmps14
   go_wp2_with fail
   go_ret
   exact⟨0,rfl,by decide,Below.refl _ _⟩
def DrGof (w:World) (e:Ending) (w':World):Prop:=∃ (al:Option Addr) (n c:Nat) (U:Nat→Int) (q:Int),e= .returned (.tuple #[.slice al n c,.int .i64 q])∧n≤13∧(-5≤q∧q≤3)∧Below w.heap.size w w'∧OwnL w' w.heap.size 36 12 (.slice al n c) n U
theorem drGof_k (ac0:Option Addr) (len cap:Nat) (w:World) (hb:Bytes w ac0 len cap):
 Calls Tryz.prog 4 #[.slice ac0 len cap] w fun e w'=>DrGof w e w':=by
 have hset:=cset_map
 go_enter Tryz.func4,Tryz.ntmps4
 go_upto_region 1 with fail
 go_cut [4] (fun s wc=>∃ rb:Nat,s= .pointer (some ⟨rb,0,none⟩)∧w.heap.size≤rb∧RS wc rb 0∧Below w.heap.size w wc)
 case first=>
  go_wp2_with (go_at_call 11;refine(l1Open_rb _ _ _ _ hb).mono ?_;rintro e w1 ⟨rfl,hr1,hbel⟩)
  go_meet
  exact⟨_,rfl,Nat.le_refl _,hr1.rs,hbel⟩
 case rest=>
 obtain⟨rb,rfl,hlo,hS,hW⟩:=hcut
 have hlt:=hS.lt
 go_wp2_with (first
  |(have _:=hW4;go_at_call 14;refine(l7Neg_any _ _).mono ?_;rintro e w5 ⟨z5,rfl,hz5,hb5⟩;have hW5:=hW4.trans (hb5.mono hW4.size);have hO5:=hO4.below hb5;have hw5:IntKind.i64.wrap (v3-z5)=v3-z5:=i64w (by omega))
  |(have _:=hW3;go_at_call 13;refine(pick_s rb (40001) 8 _ (by exact hS3) (by omega) (by omega) (by omega)).mono ?_;rintro e w4 ⟨v4,rfl,va4,vb4,hr4⟩;have hS4:=hr4.rs;have hO4:=hO3.btb hr4.but hB0;have hW4:=hW3.trans (hr4.old (by omega) hW3.size))
  |(have _:=hW2;go_at_call 13;refine(pick_s rb (40000) 4 _ (by exact hS2) (by omega) (by omega) (by omega)).mono ?_;rintro e w3 ⟨v3,rfl,va3,vb3,hr3⟩;have hS3:=hr3.rs;have hO3:=hO2.btb hr3.but hB0;have hW3:=hW2.trans (hr3.old (by omega) hW2.size))
  |(go_at_call 12;refine(l11AnyBodies_k rb 0 _ (by exact hS) (by omega)).mono ?_;rintro e w2 ⟨al,n,c,U,rfl,hL,hD⟩;have hr2:=hD.bl.done;obtain⟨B0,hB0,hB1,hO2⟩:∃ B0,rb<B0∧w.heap.size≤B0∧OwnL w2 B0 36 12 (.slice al n c) n U:=⟨_,hlt,hW.size,hD.own⟩;have hS2:=hr2.rs.mono (p':=40000) (by omega);have hW2:=hW.trans (hr2.old (by omega) hW.size);clear hD))
 go_ret2
 unfold DrGof
 exact⟨al,n,c,U,v3-z5,rfl,hL.1,by omega,hW5,hO5.base hB1⟩
theorem groupOfI_r {n:Nat} {U R:Nat→Int} {q:Int} (hR:R=ofL (rsL U (gofS n U q))) (a:Option Addr) (c N:Nat) (w:World) (h:Flat w a (n*12) U) (hn:n≤1048576) (hN:(gofS n U q).length=N):
 Calls Tryz.prog 5 #[.slice a n c,.int .i64 q] w fun e w'=>∃ a' c',e= .returned (.slice a' N c')∧OutL w w' 36 12 a' N c' R:=by subst hR;exact groupOfI_q a n c U q N w h hn hN
theorem groupOfS_r {n:Nat} {U R:Nat→Int} {q:Int} (hR:R=ofL (rsL U (gofS n U q))) (a:Option Addr) (c N:Nat) (w:World) (h:Flat w a (n*12) U) (hn:n≤1048576) (hN:(gofS n U q).length=N):
 Calls Tryz.prog 7 #[.slice a n c,.int .i64 q] w fun e w'=>∃ a' c',e= .returned (.slice a' N c')∧OutL w w' 36 12 a' N c' R:=by subst hR;exact groupOfS_q a n c U q N w h hn hN
theorem gof_bods {n:Nat} {U:Nat→Int} (hB:bodsB n U=true) (q:Int):bodsB (gofS n U q).length (ofL (rsL U (gofS n U q)))=true:=by
 by_cases h0:0≤q
 · rw[gofS_y hB h0]
   exact(part_bods (Bods.of hB) _ (fun a r ha hr=>rsL_at U _ ha hr)).to
 · rw[gofS_n (.inr (by omega))]
   rfl
theorem fnGroupOf_walk (ac0:Option Addr) (len cap:Nat) (w:World) (hb:Bytes w ac0 len cap):
 Calls Tryz.prog 3 #[.slice ac0 len cap] w fun e w'=>e= .returned (.bool true)∧Below w.heap.size w w':=by
 have hset:=cset_map
 by_cases hlen:1048576<len
 · have hl:(1048576:Int)<(len:Int):=by omega
   go_enter Tryz.func3,Tryz.ntmps3
   go_wp2_with fail
   go_ret
   exact⟨rfl,Below.refl _ _⟩
 have hl:¬ (1048576:Int)<(len:Int):=by omega
 go_enter Tryz.func3,Tryz.ntmps3
 go_upto_region 3 with fail
 go_cut [3,4] (fun s3 s4 wc=>∃ (al:Option Addr) (n c:Nat) (U:Nat→Int) (q:Int),s3= .slice al n c∧s4= .int .i64 q∧n≤13∧(-5≤q∧q≤3)∧Below w.heap.size w wc∧OwnL wc w.heap.size 36 12 (.slice al n c) n U)
 case first=>
  go_wp2_with (go_at_call 4;refine(drGof_k _ _ _ _ hb).mono ?_;intro e w1 hD;unfold DrGof at hD;obtain⟨al,n,c,U,q,rfl,hn,hq,hb1,hO1⟩:=hD)
  go_meet
  exact⟨al,n,c,U,q,rfl,rfl,hn,hq,hb1,hO1⟩
 case rest=>
 obtain⟨al,n,c,U,q,rfl,rfl,hn,hq,bel,hO⟩:=hcut
 obtain⟨m,hm0⟩:∃ m,(gofS n U q).length=m:=⟨_,rfl⟩
 have hMN:Shut ((gofS n U q).length=m):=hm0
 have hm12:m≤12:=by rw[←hm0];exact gofS_len _ _ _
 clear hm0
 obtain⟨RP,hRP0⟩:∃ R,R=ofL (rsL U (gofS n U q)):=⟨_,rfl⟩
 have hRP:Shut (RP=ofL (rsL U (gofS n U q))):=hRP0
 clear hRP0
 obtain⟨OK,hOK0⟩:∃ b,bodsB n U=b:=⟨_,rfl⟩
 have hOK:Shut (bodsB n U=OK):=hOK0
 clear hOK0
 go_upto_region 4 with fail
 go_cut [5] (fun s wc=>∃ (a1:Option Addr) (c1:Nat),s= .slice a1 m c1∧Below w.heap.size w wc∧OwnL wc w.heap.size 36 12 (.slice al n c) n U∧OwnL wc w.heap.size 36 12 (.slice a1 m c1) m RP)
 case first=>
  have b0:=Below.refl wc.heap.size wc
  go_wp2_with (go_at_call 5;refine(groupOfI_r hRP.out al c m _ hO.flat (by omega) hMN.out).mono ?_;rintro e w1 ⟨a1,c1,rfl,hO1⟩;have b1:=b0.trans (hO1.bel.mono b0.size))
  go_meet
  exact⟨a1,c1,rfl,bel.trans (b1.mono bel.size),hO.below b1,hO1.own.base bel.size⟩
 case rest=>
 clear bel hO
 obtain⟨a1,c1,rfl,bel,hO,hX⟩:=hcut
 go_upto_region 5 with fail
 go_cut [32] (fun s wc=>s= .bool (!OK)∧Below w.heap.size w wc∧OwnL wc w.heap.size 36 12 (.slice al n c) n U∧OwnL wc w.heap.size 36 12 (.slice a1 m c1) m RP)
 case first=>
  go_wp2_with (first
   |(have _:=b6;go_at_call 8;refine(sBodiesOk_q al n c U OK _ (hO.below b6).flat (by omega) hOK.out).mono ?_;rintro e w7 ⟨rfl,hb7⟩;have b7:=b6.trans (hb7.mono b6.size))
   |(have _:=b5;go_at_call 6;refine(pqBodies_same a1 a5 m _ _ RP _ (hX.below b5).flat hO5.own.flat (by omega)).mono ?_;rintro e w6 ⟨rfl,hb6⟩;have b6:=b5.trans (hb6.mono b5.size))
   |(go_at_call 7;refine(groupOfS_r hRP.out al c m _ hO.flat (by omega) hMN.out).mono ?_;rintro e w5 ⟨a5,c5,rfl,hO5⟩;have b5:=hO5.bel))
  go_meet
  exact⟨by cases OK<;>rfl,bel.trans (b7.mono bel.size),hO.below b7,hX.below b7⟩
 case rest=>
 clear bel hO hX
 obtain⟨rfl,bel,hO,hX⟩:=hcut
 cases OK with
 | false=>
   go_wp2_with (first
    |(have _:=b5;go_at_call 6;refine(pqBodies_same a1 a5 m _ _ RP _ (hX.below b5).flat hO5.own.flat (by omega)).mono ?_;rintro e w6 ⟨rfl,hb6⟩;have b6:=b5.trans (hb6.mono b5.size))
    |(go_at_call 7;refine(groupOfS_r hRP.out al c m _ hO.flat (by omega) hMN.out).mono ?_;rintro e w5 ⟨a5,c5,rfl,hO5⟩;have b5:=hO5.bel))
   go_ret
   exact⟨rfl,bel.trans (b6.mono bel.size)⟩
 | true=>
   have hBn:=bods_n hOK.out
   obtain⟨N,hN0⟩:∃ N,(awO n U).length=N:=⟨_,rfl⟩
   have hN:Shut ((awO n U).length=N):=hN0
   have hN12:N≤12:=by rw[←hN0];exact awO_len _ _
   clear hN0
   go_upto_region 7 with fail
   go_cut [6] (fun s wc=>s= .int .i64 (N:Int)∧Below w.heap.size w wc∧OwnL wc w.heap.size 36 12 (.slice al n c) n U∧OwnL wc w.heap.size 36 12 (.slice a1 m c1) m RP)
   case first=>
    go_wp2_with (go_at_call 9;refine(awakeI_q al n c U N _ hO.flat (by omega) hN.out).mono ?_;rintro e w1 ⟨aa,ca,rfl,hOu⟩)
    go_meet
    have bz:=hOu.bel
    exact⟨rfl,bel.trans (bz.mono bel.size),hO.below bz,hX.below bz⟩
   case rest=>
   clear bel hO hX
   obtain⟨rfl,bel,hO,hX⟩:=hcut
   go_wp2_with fail
   go_loopw [7,8] (fun s7 s8 wr=>∃ i:Nat,i≤n∧s7= .int .i64 (cntp (fxU U) i:Int)∧s8= .int .i64 (i:Int)∧Below w.heap.size w wr∧OwnL wr w.heap.size 36 12 (.slice al n c) n U∧OwnL wr w.heap.size 36 12 (.slice a1 m c1) m RP) (fun _ s8 _=>n-(intOf s8).toNat)
   case atStart=>exact⟨0,Nat.zero_le _,rfl,rfl,bel,hO,hX⟩
   case round=>
    clear bel hO hX
    obtain⟨i,hi,rfl,rfl,bel,hO,hX⟩:=hrel
    by_cases hlt:i<n
    · have hil:(i:Int)<(n:Int):=by omega
      obtain⟨go,rfl,hg1,hg2⟩:=hO.loc (by omega)
      clear hg1 hg2
      have c8:=hO.cellq (q:=i*12+8) (by omega)
      have hcl:=cntp_le (fxU U) i
      have hnx:cntp (fxU U) (i+1)=cntp (fxU U) i+(if decide (U (i*12+8)=0)=true then 1 else 0):=rfl
      obtain⟨x,hx⟩:∃ x,cntp (fxU U) i=x:=⟨_,rfl⟩
      rw[hx] at hcl hnx ⊢
      clear hx
      by_cases hm:U (i*12+8)=0
      · have e0:(U (i*12+8)==0)=true:=by simp[hm]
        rw[decide_eq_true hm,if_pos rfl] at hnx
        have e1:IntKind.i64.wrap ((x:Int)+1)=((x+1:Nat):Int):=by rw[i64w (by omega)];omega
        clear hm
        go_wp2_with fail
        go_roundw
        case rel=>exact⟨i+1,by omega,by rw[hnx];rfl,by go_num,bel,hO,hX⟩
        case measure=>simp[intOf];omega
      · have e0:(U (i*12+8)==0)=false:=by simp[hm]
        rw[decide_eq_false hm,if_neg (by decide)] at hnx
        clear hm
        go_wp2_with fail
        go_roundw
        case rel=>exact⟨i+1,by omega,by rw[hnx];rfl,by go_num,bel,hO,hX⟩
        case measure=>simp[intOf];omega
    · obtain rfl:n=i:=by omega
      have hFl:=cntp_le (fxU U) n
      have hFN:Shut (fxN n U=cntp (fxU U) n):=rfl
      obtain⟨FX,hFX⟩:∃ x,cntp (fxU U) n=x:=⟨_,rfl⟩
      rw[hFX] at hFl hFN ⊢
      clear hFX
      go_wp2_with fail
      go_loopw [9,10] (fun s9 s10 wr=>∃ i:Nat,i≤N∧s9= .int .i64 (sumG n U i:Int)∧s10= .int .i64 (i:Int)∧Below w.heap.size w wr∧OwnL wr w.heap.size 36 12 (.slice al n c) n U∧OwnL wr w.heap.size 36 12 (.slice a1 m c1) m RP) (fun _ s10 _=>N-(intOf s10).toNat)
      case atStart=>exact⟨0,Nat.zero_le _,by rw[sumG_0];rfl,rfl,bel,hO,hX⟩
      case round=>
       clear bel hO hX
       obtain⟨i,hi,rfl,rfl,bel,hO,hX⟩:=hrel
       by_cases hlt:i<N
       · have hil:(i:Int)<(N:Int):=by omega
         have hst:=sumG_step hOK.out i
         rw[hFN.out] at hst
         have hs1:sumG n U i≤n:=cntp_le _ _
         have hg12:=gofS_len n U (i:Int)
         obtain⟨mi,hmi⟩:∃ x,(gofS n U (i:Int)).length=x:=⟨_,rfl⟩
         have hMi:Shut ((gofS n U (i:Int)).length=mi):=hmi
         rw[hmi] at hst hg12
         clear hmi
         obtain⟨S0,hS0⟩:∃ x,sumG n U i=x:=⟨_,rfl⟩
         obtain⟨S1,hS1⟩:∃ x,sumG n U (i+1)=x:=⟨_,rfl⟩
         have hSS:Shut (sumG n U (i+1)=S1):=hS1
         rw[hS0] at hst hs1 ⊢
         rw[hS1] at hst
         clear hS0 hS1
         obtain⟨Ri,hRi0⟩:∃ R,R=ofL (rsL U (gofS n U (i:Int))):=⟨_,rfl⟩
         have hRi:Shut (Ri=ofL (rsL U (gofS n U (i:Int)))):=hRi0
         clear hRi0
         have e1:IntKind.i64.wrap ((S0:Int)+(mi:Int))=(S0:Int)+(mi:Int):=i64w (by omega)
         have e2:IntKind.i64.wrap ((S0:Int)+(mi:Int)-(FX:Int))=(S1:Int):=by rw[i64w (by omega)];omega
         have b0:=Below.refl wr.heap.size wr
         clear hst
         go_wp2_with (go_at_call 5;refine(groupOfI_r hRi.out al c mi _ hO.flat (by omega) hMi.out).mono ?_;rintro e w3 ⟨a3,c3,rfl,hO3⟩;have b3:=b0.trans (hO3.bel.mono b0.size))
         go_roundw
         case rel=>exact⟨i+1,by omega,by rw[hSS.out],by go_num,bel.trans (b3.mono bel.size),hO.below b3,hX.below b3⟩
         case measure=>simp[intOf];omega
       · obtain rfl:N=i:=by omega
         have hall:=sumG_all hOK.out
         rw[hFN.out,hN.out] at hall
         obtain⟨S0,hS0⟩:∃ x,sumG n U N=x:=⟨_,rfl⟩
         rw[hS0] at hall ⊢
         clear hS0
         have e1:IntKind.i64.wrap ((S0:Int)+(FX:Int))=(n:Int):=by rw[i64w (by omega)];omega
         clear hall
         have hXB:Shut (bodsB m RP=true):=by show _=_;rw[←hMN.out,hRP.out];exact gof_bods hOK.out q
         by_cases h0:q<0
         · go_wp2_with (go_at_call 10;refine(bodiesOk_q a1 m c1 RP true _ hX.flat (by omega) hXB.out).mono ?_;rintro e w7 ⟨rfl,b7⟩)
           go_ret
           exact⟨rfl,bel.trans (b7.mono bel.size)⟩
         · by_cases h1:(N:Int)≤q
           · go_wp2_with (go_at_call 10;refine(bodiesOk_q a1 m c1 RP true _ hX.flat (by omega) hXB.out).mono ?_;rintro e w7 ⟨rfl,b7⟩)
             go_ret
             exact⟨rfl,bel.trans (b7.mono bel.size)⟩
           · have hpw:=part_whole hOK.out (q:=q) (by omega) (by rw[hN.out];omega)
             rw[←hRP.out,hMN.out] at hpw
             have hW1:Shut ((awO m RP).length=1):=hpw.1
             obtain⟨R9,hR90⟩:∃ R,R=ofL (rsL RP (gofS m RP 0)):=⟨_,rfl⟩
             have hR9:Shut (R9=ofL (rsL RP (gofS m RP 0))):=hR90
             have hN9:Shut ((gofS m RP 0).length=m):=hpw.2.1
             have hE9:Shut (∀ x,x<m*12→R9 x=RP x):=by rw[hR90];exact hpw.2.2
             clear hR90 hpw
             go_wp2_with (first
              |(have _:=b9;go_at_call 6;refine(pqBodies_same a9 a1 m _ _ RP _ (hO9.own.congr hE9.out).flat (hX.below b9).flat (by omega)).mono ?_;rintro e w10 ⟨rfl,hb10⟩;have b10:=b9.trans (hb10.mono b9.size))
              |(have _:=b8;go_at_call 5;refine(groupOfI_r hR9.out a1 c1 m _ (hX.below b8).flat (by omega) hN9.out).mono ?_;rintro e w9 ⟨a9,c9,rfl,hO9⟩;have b9:=b8.trans (hO9.bel.mono b8.size))
              |(have _:=b7;go_at_call 9;refine(awakeI_q a1 m c1 RP 1 _ (hX.below b7).flat (by omega) hW1.out).mono ?_;rintro e w8 ⟨a8,c8,rfl,hO8⟩;have b8:=b7.trans (hO8.bel.mono b7.size))
              |(go_at_call 10;refine(bodiesOk_q a1 m c1 RP true _ hX.flat (by omega) hXB.out).mono ?_;rintro e w7 ⟨rfl,b7⟩))
             go_ret
             exact⟨rfl,bel.trans (b10.mono bel.size)⟩
end Go.Proofs.YtbdbbdjifgpgeaaGreat
namespace Go.Proofs.YtbdbbdjifgpgeaaGreat
open Go.ChangeShapes Go.WideShapes Go.ChangeAt Go.RowKit Go.Joins
set_option linter.unusedVariables false
theorem fnGroupOf_closed : joinedFacts Tryz.prog 3 Tryz.f3 Rows.fnGroupOfSpec Rows.fnGroupOfRow = true := by
  unfold joinedFacts
  rw [mayEnterT, liftsFinalT, makeT, laidOutT, mapsRowedT, stopsHeardT, plainKeysT]
  kernel_rfl

set_option maxRecDepth 100000 in
theorem fnGroupOf_lifted (os : Os) (started : os.Started) (H : Type) (enc : TypeId × Value → H) :
    ReturnsInHanded {} Tryz.checked os 3 .any (Rows.fnGroupOfSpec.pre6 enc Tryz.prog Tryz.f3 Rows.fnGroupOfRow.domain false) (Rows.fnGroupOfSpec.post enc Tryz.prog Tryz.f3 false true false false) := by
  refine returnsInHanded_of_change (C := Tryz.checked) ownT started (by kernel_rfl) Tryz.func3
    (ChangeSpec.witness6 (enc := enc) (C := Tryz.checked) false ⟨#[], #[.slice none 0 0], []⟩ 8 (by kernel_rfl) (by kernel_rfl) (by kernel_rfl) (by kernel_rfl)) ?_
  intro W base args ds gs before hval0 hW hcnd _
  have hval : ∀ (j : Nat) t v, Tryz.f3.params[j]? = some t → args[j]? = some v → Value.okWide Tryz.prog W .any base t v := hval0
  have hW' := hW
  obtain ⟨p, q, hA0, hV, rfl, hfz, hnd⟩ := hW
  have hA : DataW.TrodAll enc Tryz.prog W 0 (fun _ => true) true Tryz.f3.params.toList args.toList ds p := hA0
  rw [Tryz.params3] at hA hval
  obtain ⟨v0, vs0, d0, ds0, p0, q0, hargs, rfl, rfl, h0, r0⟩ := trodAll_cons hA
  obtain ⟨rfl, rfl, rfl⟩ := trodAll_nil r0
  obtain rfl : args = #[v0] := by cases args; simp_all
  obtain ⟨rfl, rfl⟩ := trodVars_none hV
  obtain ⟨a0, len0, cap0, rfl⟩ := okWide_slice Tryz.underlying22 (hval 0 22 v0 rfl rfl)
  have k0 := h0
  have lt0 : ∀ x ∈ p0, x.block < W.heap.size := by obtain ⟨m, hm⟩ := k0; exact DataW.trod_lt m _ _ _ hm
  have w0 : Bytes W a0 len0 cap0 := by
    obtain ⟨fuel, hf⟩ := h0
    rcases open_ints Tryz.underlying22 Tryz.underlying5 (by kernel_rfl) hf with ⟨hcs, _⟩ | ⟨x, l, c, zs, hcs, _, hl, hm, hz, _, hcell, hwz⟩
    · simp [Value.cells] at hcs
      obtain ⟨rfl, rfl, rfl⟩ := hcs
      exact Bytes.nil W
    · simp [Value.cells] at hcs
      obtain ⟨rfl, rfl, rfl⟩ := hcs
      exact Bytes.of hl (by simpa using hz) hcell hwz
  clear hA0 hval0
  refine (fnGroupOf_walk _ _ _ W w0).mono fun e W' ⟨he, bel⟩ => ?_
  subst he
  exact ⟨_, rfl, _, _, _, [], _, [], hW', trodAll_mk1 (shut_bool Tryz.underlying4 _), (trodAll_cons_mk (Below.trod laidOutT (by kernel_rfl) (of_decide_eq_true (by kernel_rfl)) k0 bel lt0) trodAll_mk0), rfl, bel.frame _, fun h => by cases h⟩

theorem fnGroupOf_over : Rows.fnGroupOfRow.holds Tryz.pinned (OpenSpec.ofChange Rows.fnGroupOfSpec) :=
  OpenClaim.holds_of_wide 3 Tryz.f3 rfl rfl rfl rfl rfl rfl rfl ⟨rfl, rfl, rfl, rfl, rfl⟩ rfl rfl rfl rfl rfl (by kernel_rfl) Tryz.func3 fnGroupOf_closed
    (of_decide_eq_true (by kernel_rfl)) (by unfold Func.isWrapper; first | (rw [if_pos (by decide +kernel)]; kernel_rfl) | (rw [if_neg (by decide +kernel)]; exact ⟨rfl, rfl⟩))
    (fun os started H enc _ => fnGroupOf_lifted os started H enc)

theorem fnGroupOf_proved : Rows.FnGroupOfSaid := fnGroupOf_over
#print axioms fnGroupOf_proved
end Go.Proofs.YtbdbbdjifgpgeaaGreat
