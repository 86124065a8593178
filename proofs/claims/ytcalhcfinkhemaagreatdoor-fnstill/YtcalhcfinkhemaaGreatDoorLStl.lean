/- Texts of a proof. -/
import Derived.Test.YtcalhcfinkhemaaGreatDoorB48
import Derived.Test.YtcalhcfinkhemaaGreatDoorB47
import Derived.Test.YtcalhcfinkhemaaGreatDoorB21
import Derived.Test.YtcalhcfinkhemaaGreatDoorB14
import Derived.Test.YtcalhcfinkhemaaGreatDoorB22
import Derived.Test.YtcalhcfinkhemaaGreatDoorSeq
import Derived.Test.YtcalhcfinkhemaaGreatDoorB39
import Derived.Test.YtcalhcfinkhemaaGreatDoorB34
import Derived.Test.YtcalhcfinkhemaaGreatDoorB36
import Derived.Deep.RegionHeld3
import Derived.Deep.DeepCutAuto
set_option maxHeartbeats 16000000
set_option maxRecDepth 20000
namespace Go.Proofs.YtcalhcfinkhemaaGreatDoor
open Go.RowKit
set_option linter.unusedVariables false
set_option linter.unusedSimpArgs false
def Gk (w:World):Prop:=w.cell? ⟨0,0,none⟩=some (.iface 176 (.agg #[.pointer (some ⟨1,64,none⟩)]))
theorem Gk.on {w w':World} (h:Gk w) (k:Below w.heap.size w w'):Gk w':=(k.cell (p:=⟨0,0,none⟩) (cell_lt (a:=⟨0,0,none⟩) h)).trans h
theorem noLs_f {U:Nat→Int}:∀ {n:Nat},noLs U n=false→∃ k,k<n∧lsB U k=true
 |0,h=>by cases h
 | n+1,h=>by
   rw[noLs,Bool.and_eq_false_iff] at h
   rcases h with h|h
   · obtain⟨k,hk,e⟩:=noLs_f h;exact⟨k,by omega,e⟩
   · exact⟨n,by omega,by simpa using h⟩
theorem noLs_t {U:Nat→Int}:∀ {n:Nat},noLs U n=true→∀ k,k<n→lsB U k=false
 |0,_,k,hk=>absurd hk (Nat.not_lt_zero _)
 | n+1,h,k,hk=>by
   rw[noLs,Bool.and_eq_true] at h
   rcases Nat.lt_succ_iff_lt_or_eq.1 hk with l|rfl
   · exact noLs_t h.1 k l
   · simpa using h.2
theorem still_sts {n:Nat} {U:Nat→Int} (hB:Bods n U) (h:stB n U=true) (g:Int) (s q:Nat) (hq:q<n*12):stsU n U g s q=U q:=by
 unfold stB at h
 rw[Bool.and_eq_true] at h
 have e:=sts_rest (g:=g) (U:=U) (n:=n) (fun k hk=>by
  have a:=noLs_t h.1 k hk
  have b:=ls_ok hB hk
  unfold lsB at a
  rw[Bool.and_eq_false_iff] at a
  rcases a with a|a
  · exact .inl (by have:=of_decide_eq_false a;omega)
  · exact .inr (by simpa using a)) s (q/12) (q % 12) (by omega) (by omega)
 rw[show q/12*12+q % 12=q by omega] at e
 exact e
theorem still_no {n:Nat} {U:Nat→Int} (hB:bodsB n U=true) (h:stB n U=false):anyB (awA n U) (awN n U)=true:=by
 unfold stB at h
 rw[hB,Bool.and_true] at h
 obtain⟨k,hk,e⟩:=noLs_f h
 unfold lsB at e
 simp only[Bool.and_eq_true,decide_eq_true_eq,Bool.not_eq_true',decide_eq_false_iff_not] at e
 have h0:=gp_mv n U k hk (by omega)
 have hl:=gp_lt n U k hk
 refine anyB_t (j:=(gpG n U k).toNat) ?_ (by omega)
 rw[awA_any n U _ (by omega)]
 refine anyB_t (j:=k) ?_ hk
 rw[decide_eq_true (show gpG n U k=((gpG n U k).toNat:Int) by omega)]
 unfold slG
 rw[decide_eq_false e.2]
 rfl
theorem fnStill_walk (ac0:Option Addr) (len cap:Nat) (w:World) (hb:Bytes w ac0 len cap) (hg:Gk w):
 Calls Tryz.prog 7 #[.slice ac0 len cap] w fun e w'=>e= .returned (.bool true)∧Below w.heap.size w w':=by
 have hset:=cset_map
 by_cases hlen:1048576<len
 · have hl:(1048576:Int)<(len:Int):=by omega
   go_enter Tryz.func7,Tryz.ntmps7
   go_wp2_with fail
   go_ret
   exact⟨rfl,Below.refl _ _⟩
 have hl:¬ (1048576:Int)<(len:Int):=by omega
 go_enter Tryz.func7,Tryz.ntmps7
 go_upto_region 3 with fail
 go_cut [3] (fun s3 wc=>∃ (al:Option Addr) (n c:Nat) (U:Nat→Int),s3= .slice al n c∧n≤13∧Below w.heap.size w wc∧OwnL wc w.heap.size 33 12 (.slice al n c) n U)
 case first=>
  go_wp2_with (go_at_call 19;refine(drStill_k _ _ _ _ hb).mono ?_;intro e w1 hD;unfold DrStill at hD;obtain⟨al,n,c,U,rfl,hn,hb1,hO1⟩:=hD)
  go_meet
  exact⟨al,n,c,U,rfl,hn,hb1,hO1⟩
 case rest=>
 obtain⟨al,n,c,U,rfl,hn,bel,hO⟩:=hcut
 obtain⟨ST,hST0⟩:∃ b,stB n U=b:=⟨_,rfl⟩
 have hST:Shut (stB n U=ST):=hST0
 clear hST0
 obtain⟨OK,hOK0⟩:∃ b,bodsB n U=b:=⟨_,rfl⟩
 have hOK:Shut (bodsB n U=OK):=hOK0
 clear hOK0
 go_upto_region 4 with fail
 go_cut [4] (fun s wc=>s= .bool ST∧Below w.heap.size w wc∧OwnL wc w.heap.size 33 12 (.slice al n c) n U)
 case first=>
  go_wp2_with (go_at_call 20;refine(still_q al n c U ST _ hO.flat (by omega) (hg.on bel) hST.out).mono ?_;rintro e w1 ⟨rfl,b1⟩)
  go_meet
  exact⟨rfl,bel.trans (b1.mono bel.size),hO.below b1⟩
 case rest=>
 clear bel hO
 obtain⟨rfl,bel,hO⟩:=hcut
 have hss:(ST !=ST)=false:=by simp
 have hse:(ST==ST)=true:=by simp
 go_upto_region 5 with fail
 go_cut [23] (fun s wc=>s= .bool (!OK)∧Below w.heap.size w wc∧OwnL wc w.heap.size 33 12 (.slice al n c) n U)
 case first=>
  go_wp2_with (first
   |(have _:=b5;go_at_call 18;refine(sBodiesOk_q al n c U OK _ (hO.below b5).flat (by omega) hOK.out).mono ?_;rintro e w6 ⟨rfl,hb6⟩;have b6:=b5.trans (hb6.mono b5.size))
   |(go_at_call 21;refine(sStill_q al n c U ST _ hO.flat (by omega) hST.out).mono ?_;rintro e w5 ⟨rfl,b5⟩))
  go_meet
  exact⟨by cases OK<;>rfl,bel.trans (b6.mono bel.size),hO.below b6⟩
 case rest=>
 clear bel hO
 obtain⟨rfl,bel,hO⟩:=hcut
 cases OK with
 | false=>
   go_wp2_with (go_at_call 21;refine(sStill_q al n c U ST _ hO.flat (by omega) hST.out).mono ?_;rintro e w5 ⟨rfl,b5⟩)
   go_ret
   exact⟨rfl,bel.trans (b5.mono bel.size)⟩
 | true=>
   cases ST with
   | true=>
     obtain⟨RS1,hRS0⟩:∃ R,R=stsU n U 32 (9:Int).toNat:=⟨_,rfl⟩
     have hRS:Shut (RS1=stsU n U 32 (9:Int).toNat):=hRS0
     clear hRS0
     have hN:Shut ((bif okSts n U 32 9 then n else 0)=n):=by
      show _=_
      unfold okSts
      rw[hOK.out]
      rfl
     have hE:Shut (∀ q,q<n*12→U q=RS1 q):=fun q hq=>by rw[hRS.out];exact(still_sts (Bods.of hOK.out) hST.out 32 _ q hq).symm
     go_wp2_with (first
      |(have _:=hO5;go_at_call 10;refine(pqBodies_same a5 al n _ _ RS1 _ hO5.own.flat ((hO.below hO5.bel).congr hE.out).flat (by omega)).mono ?_;rintro e w6 ⟨rfl,hb6⟩;have b6:=hO5.bel.trans (hb6.mono hO5.bel.size))
      |(go_at_call 16;refine(steps_ir hRS.out al c n _ hO.flat (by omega) (hg.on bel) hN.out).mono ?_;rintro e w5 ⟨a5,c5,rfl,hO5⟩))
     go_ret
     exact⟨rfl,bel.trans (b6.mono bel.size)⟩
   | false=>
     obtain⟨A,hA0⟩:∃ A,A=awA n U:=⟨_,rfl⟩
     have hAR:Shut (A=fun j=>(awO n U).getD j false):=by show _=_;rw[hA0,awO_y hOK.out];rfl
     obtain⟨M,hM0⟩:∃ M,awN n U=M:=⟨_,rfl⟩
     have hMN:Shut ((awO n U).length=M):=by show _=_;rw[awO_y hOK.out];exact hM0
     have hM12:M≤12:=by rw[←hMN.out];exact awO_len _ _
     have hSo:Shut (anyB A M=true):=by show _=_;rw[hA0,←hM0];exact still_no hOK.out hST.out
     clear hA0 hM0
     go_upto_region 10 with fail
     go_cut [6] (fun s wc=>∃ (aa:Option Addr) (ca:Nat),s= .slice aa M ca∧Below w.heap.size w wc∧OwnL wc w.heap.size 33 12 (.slice al n c) n U∧OwnB wc w.heap.size (.slice aa M ca) M A)
     case first=>
      go_wp2_with (go_at_call 13;refine(awakeI_r hAR.out al c M _ hO.flat (by omega) hMN.out).mono ?_;rintro e w1 ⟨aa,ca,rfl,hOu⟩)
      go_meet
      have bz:=hOu.bel
      exact⟨aa,ca,rfl,bel.trans (bz.mono bel.size),hO.below bz,hOu.own.base bel.size⟩
     case rest=>
     clear bel hO
     obtain⟨aa,ca,rfl,bel,hO,hA⟩:=hcut
     go_wp2_with fail
     go_loopw [5,7] (fun s5 s7 wr=>∃ k:Nat,k≤M∧s5= .bool (anyB A k)∧s7= .int .i64 (k:Int)∧Below w.heap.size w wr∧OwnL wr w.heap.size 33 12 (.slice al n c) n U∧OwnB wr w.heap.size (.slice aa M ca) M A) (fun _ s7 _=>M-(intOf s7).toNat)
     case atStart=>exact⟨0,Nat.zero_le _,rfl,rfl,bel,hO,hA⟩
     case round=>
      clear bel hO hA
      obtain⟨k,hk,rfl,rfl,bel,hO,hA⟩:=hrel
      by_cases hlk:k<M
      · have hkl:(k:Int)<(M:Int):=by omega
        obtain⟨ga,rfl,hg1,hg2⟩:=hA.loc (by omega)
        clear hg1 hg2
        have a0:=hA.cellq (q:=k) (by omega)
        have hnx:anyB A (k+1)=(anyB A k||A k):=rfl
        cases hs:anyB A k with
        | true=>
          rw[hs,Bool.true_or] at hnx
          clear hs
          go_wp2_with fail
          go_roundw
          case rel=>exact⟨k+1,by omega,by rw[hnx],by go_num,bel,hO,hA⟩
          case measure=>simp[intOf];omega
        | false=>
          rw[hs,Bool.false_or] at hnx
          clear hs
          go_wp2_with fail
          go_roundw
          case rel=>exact⟨k+1,by omega,by rw[hnx],by go_num,bel,hO,hA⟩
          case measure=>simp[intOf];omega
      · obtain rfl:M=k:=by omega
        rw[hSo.out]
        go_wp2_with fail
        go_ret
        exact⟨rfl,bel⟩
end Go.Proofs.YtcalhcfinkhemaaGreatDoor
