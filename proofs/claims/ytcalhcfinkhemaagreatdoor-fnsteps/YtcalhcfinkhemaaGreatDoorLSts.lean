/- Texts of a proof. -/
import Derived.Test.YtcalhcfinkhemaaGreatDoorB48
import Derived.Test.YtcalhcfinkhemaaGreatDoorB47
import Derived.Test.YtcalhcfinkhemaaGreatDoorB21
import Derived.Test.YtcalhcfinkhemaaGreatDoorB14
import Derived.Test.YtcalhcfinkhemaaGreatDoorB39
import Derived.Test.YtcalhcfinkhemaaGreatDoorB34
import Derived.Test.YtcalhcfinkhemaaGreatDoorB36
import Derived.Deep.RegionHeld3
import Derived.Deep.DeepCutAuto
set_option maxHeartbeats 16000000
set_option maxRecDepth 20000
namespace Go.Proofs.YtcalhcfinkhemaaGreatDoor
open Go.RowKit
set_option linter.unusedVariables false
set_option linter.unusedSimpArgs false
def Gk (w:World):Prop:=w.cell? ⟨0,0,none⟩=some (.iface 176 (.agg #[.pointer (some ⟨1,64,none⟩)]))
theorem Gk.on {w w':World} (h:Gk w) (k:Below w.heap.size w w'):Gk w':=(k.cell (p:=⟨0,0,none⟩) (cell_lt (a:=⟨0,0,none⟩) h)).trans h
theorem fnSteps_walk (ac0:Option Addr) (len cap:Nat) (w:World) (hb:Bytes w ac0 len cap) (hg:Gk w):
 Calls Tryz.prog 6 #[.slice ac0 len cap] w fun e w'=>e= .returned (.bool true)∧Below w.heap.size w w':=by
 have hset:=cset_map
 by_cases hlen:1048576<len
 · have hl:(1048576:Int)<(len:Int):=by omega
   go_enter Tryz.func6,Tryz.ntmps6
   go_wp2_with fail
   go_ret
   exact⟨rfl,Below.refl _ _⟩
 have hl:¬ (1048576:Int)<(len:Int):=by omega
 go_enter Tryz.func6,Tryz.ntmps6
 go_upto_region 3 with fail
 go_cut [3,4,5] (fun s3 s4 s5 wc=>∃ (al:Option Addr) (n c:Nat) (U:Nat→Int) (p t:Int),s3= .slice al n c∧s4= .int .i64 p∧s5= .int .i64 t∧n≤13∧(0≤p∧p≤32)∧(-1≤t∧t≤61)∧Below w.heap.size w wc∧OwnL wc w.heap.size 33 12 (.slice al n c) n U)
 case first=>
  go_wp2_with (go_at_call 15;refine(drSteps_k _ _ _ _ hb).mono ?_;intro e w1 hD;unfold DrSteps at hD;obtain⟨al,n,c,U,p,t,rfl,hn,hp,ht,hb1,hO1⟩:=hD)
  go_meet
  exact⟨al,n,c,U,p,t,rfl,rfl,rfl,hn,hp,ht,hb1,hO1⟩
 case rest=>
 obtain⟨al,n,c,U,p,t,rfl,rfl,rfl,hn,hp,ht,bel,hO⟩:=hcut
 obtain⟨N,hN0⟩:∃ N,(bif okSts n U p t then n else 0)=N:=⟨_,rfl⟩
 have hNn:N≤n:=by rw[←hN0];exact bif_le _ _
 have hN:Shut ((bif okSts n U p t then n else 0)=N):=hN0
 clear hN0
 obtain⟨RP,hRP0⟩:∃ R,R=stsU n U p t.toNat:=⟨_,rfl⟩
 have hRP:Shut (RP=stsU n U p t.toNat):=hRP0
 clear hRP0
 obtain⟨OK,hOK0⟩:∃ b,bodsB n U=b:=⟨_,rfl⟩
 have hOK:Shut (bodsB n U=OK):=hOK0
 clear hOK0
 go_upto_region 4 with fail
 go_cut [6] (fun s wc=>∃ (a1:Option Addr) (c1:Nat),s= .slice a1 N c1∧Below w.heap.size w wc∧OwnL wc w.heap.size 33 12 (.slice al n c) n U∧OwnL wc w.heap.size 33 12 (.slice a1 N c1) N RP)
 case first=>
  have b0:=Below.refl wc.heap.size wc
  go_wp2_with (go_at_call 16;refine(steps_ir hRP.out al c N _ hO.flat (by omega) (hg.on (bel.trans (b0.mono bel.size))) hN.out).mono ?_;rintro e w1 ⟨a1,c1,rfl,hO1⟩;have b1:=b0.trans (hO1.bel.mono b0.size))
  go_meet
  exact⟨a1,c1,rfl,bel.trans (b1.mono bel.size),hO.below b1,hO1.own.base bel.size⟩
 case rest=>
 clear bel hO
 obtain⟨a1,c1,rfl,bel,hO,hX⟩:=hcut
 go_upto_region 5 with fail
 go_cut [40] (fun s wc=>∃ Z:Bool,s= .bool Z∧(Z=false→OK=true∧0≤t∧t≤30)∧Below w.heap.size w wc∧OwnL wc w.heap.size 33 12 (.slice al n c) n U∧OwnL wc w.heap.size 33 12 (.slice a1 N c1) N RP)
 case first=>
  cases OK with
  | false=>
    go_wp2_with (first
 |(have _:=b6;go_at_call 18;refine(sBodiesOk_q al n c U false _ (hO.below b6).flat (by omega) hOK.out).mono ?_;rintro e w7 ⟨rfl,hb7⟩;have b7:=b6.trans (hb7.mono b6.size))
 |(have _:=b5;go_at_call 10;refine(pqBodies_same a1 a5 N _ _ RP _ (hX.below b5).flat hO5.own.flat (by omega)).mono ?_;rintro e w6 ⟨rfl,hb6⟩;have b6:=b5.trans (hb6.mono b5.size))
 | (go_at_call 17;refine(steps_sr hRP.out al c N _ hO.flat (by omega) hN.out).mono ?_;rintro e w5 ⟨a5,c5,rfl,hO5⟩;have b5:=hO5.bel))
    go_meet
    exact⟨true,rfl,(fun e=>by cases e),bel.trans (b7.mono bel.size),hO.below b7,hX.below b7⟩
  | true=>
    by_cases h0:t<0
    · go_wp2_with (first
 |(have _:=b6;go_at_call 18;refine(sBodiesOk_q al n c U true _ (hO.below b6).flat (by omega) hOK.out).mono ?_;rintro e w7 ⟨rfl,hb7⟩;have b7:=b6.trans (hb7.mono b6.size))
 |(have _:=b5;go_at_call 10;refine(pqBodies_same a1 a5 N _ _ RP _ (hX.below b5).flat hO5.own.flat (by omega)).mono ?_;rintro e w6 ⟨rfl,hb6⟩;have b6:=b5.trans (hb6.mono b5.size))
 | (go_at_call 17;refine(steps_sr hRP.out al c N _ hO.flat (by omega) hN.out).mono ?_;rintro e w5 ⟨a5,c5,rfl,hO5⟩;have b5:=hO5.bel))
      go_meet
      exact⟨true,rfl,(fun e=>by cases e),bel.trans (b7.mono bel.size),hO.below b7,hX.below b7⟩
    · by_cases h3:30<t
      · go_wp2_with (first
 |(have _:=b6;go_at_call 18;refine(sBodiesOk_q al n c U true _ (hO.below b6).flat (by omega) hOK.out).mono ?_;rintro e w7 ⟨rfl,hb7⟩;have b7:=b6.trans (hb7.mono b6.size))
 |(have _:=b5;go_at_call 10;refine(pqBodies_same a1 a5 N _ _ RP _ (hX.below b5).flat hO5.own.flat (by omega)).mono ?_;rintro e w6 ⟨rfl,hb6⟩;have b6:=b5.trans (hb6.mono b5.size))
 |(go_at_call 17;refine(steps_sr hRP.out al c N _ hO.flat (by omega) hN.out).mono ?_;rintro e w5 ⟨a5,c5,rfl,hO5⟩;have b5:=hO5.bel))
        go_meet
        exact⟨true,rfl,(fun e=>by cases e),bel.trans (b7.mono bel.size),hO.below b7,hX.below b7⟩
      · go_wp2_with (first
 |(have _:=b6;go_at_call 18;refine(sBodiesOk_q al n c U true _ (hO.below b6).flat (by omega) hOK.out).mono ?_;rintro e w7 ⟨rfl,hb7⟩;have b7:=b6.trans (hb7.mono b6.size))
 |(have _:=b5;go_at_call 10;refine(pqBodies_same a1 a5 N _ _ RP _ (hX.below b5).flat hO5.own.flat (by omega)).mono ?_;rintro e w6 ⟨rfl,hb6⟩;have b6:=b5.trans (hb6.mono b5.size))
 |(go_at_call 17;refine(steps_sr hRP.out al c N _ hO.flat (by omega) hN.out).mono ?_;rintro e w5 ⟨a5,c5,rfl,hO5⟩;have b5:=hO5.bel))
        go_meet
        exact⟨false,by simp[h0,h3],(fun _=>⟨(by first|exact trivial|rfl),by omega,by omega⟩),bel.trans (b7.mono bel.size),hO.below b7,hX.below b7⟩
 case rest=>
 clear bel hO hX
 obtain⟨Z,rfl,hZ,bel,hO,hX⟩:=hcut
 cases Z with
 | true=>
   go_wp2_with (first
    |(have _:=b5;go_at_call 10;refine(pqBodies_same a1 a5 N _ _ RP _ (hX.below b5).flat hO5.own.flat (by omega)).mono ?_;rintro e w6 ⟨rfl,hb6⟩;have b6:=b5.trans (hb6.mono b5.size))
    |(go_at_call 17;refine(steps_sr hRP.out al c N _ hO.flat (by omega) hN.out).mono ?_;rintro e w5 ⟨a5,c5,rfl,hO5⟩;have b5:=hO5.bel))
   go_ret
   exact⟨rfl,bel.trans (b6.mono bel.size)⟩
 | false=>
   obtain⟨rfl,h0,h30⟩:=hZ rfl
   clear hZ
   have hok:∀ q:Int,0≤q→q≤60→∀ V,bodsB n V=true→(bif okSts n V p q then n else 0)=n:=fun q q0 q1 V hV=>by
    unfold okSts okP okS
    rw[hV,decide_eq_true (show 0≤p∧p≤2560 by omega),decide_eq_true (show 0≤q∧q≤60 by omega)]
    rfl
   have hNE:N=n:=by rw[←hN.out];exact hok t (by omega) (by omega) U hOK.out
   subst hNE
   have hd:0≤t.tdiv 2∧t.tdiv 2≤t:=by rw[Int.tdiv_eq_ediv_of_nonneg (by omega)];omega
   obtain⟨d,hd0⟩:∃ d,t.tdiv 2=d:=⟨_,rfl⟩
   rw[hd0] at hd
   have hd1:IntKind.i64.wrap (t.tdiv 2)=d:=by rw[hd0];exact i64w (by omega)
   have hd2:IntKind.i64.wrap (t-d)=t-d:=i64w (by omega)
   clear hd0
   obtain⟨R1,hR10⟩:∃ R,R=stsU N U p d.toNat:=⟨_,rfl⟩
   have hR1:Shut (R1=stsU N U p d.toNat):=hR10
   clear hR10
   have hB1:Shut (bodsB N R1=true):=by show _=_;rw[hR1.out];exact((Bods.of hOK.out).sts p _).to
   have hR2:Shut (RP=stsU N R1 p (t-d).toNat):=by
    show _=_
    rw[hRP.out,hR1.out,sts_add]
    congr 1
    omega
   have hNa:Shut ((bif okSts N U p d then N else 0)=N):=hok d (by omega) (by omega) U hOK.out
   have hNb:Shut ((bif okSts N R1 p (t-d) then N else 0)=N):=hok (t-d) (by omega) (by omega) R1 hB1.out
   have hNc:Shut ((bif okSts N U p 1 then N else 0)=N):=hok 1 (by omega) (by omega) U hOK.out
   have hNd:Shut ((bif okSts N U p 0 then N else 0)=N):=hok 0 (by omega) (by omega) U hOK.out
   have hNe:Shut ((bif (bodsB N U&&okP p) then N else 0)=N):=by
    show _=_
    unfold okP
    rw[hOK.out,decide_eq_true (show 0≤p∧p≤2560 by omega)]
    rfl
   obtain⟨RS1,hRS0⟩:∃ R,R=stepU N U p:=⟨_,rfl⟩
   have hRS:Shut (RS1=stepU N U p):=hRS0
   have hRT:Shut (RS1=stsU N U p (1:Int).toNat):=hRS0
   have hU0:Shut (U=stsU N U p (0:Int).toNat):=rfl
   clear hRS0 hok
   go_upto_region 7 with fail
   go_cut [7] (fun s wc=>∃ (a2:Option Addr) (c2:Nat),s= .slice a2 N c2∧OwnL wc w.heap.size 33 12 (.slice a2 N c2) N RP∧Below w.heap.size w wc∧OwnL wc w.heap.size 33 12 (.slice al N c) N U∧OwnL wc w.heap.size 33 12 (.slice a1 N c1) N RP)
   case first=>
    have b0:=Below.refl wc.heap.size wc
    go_wp2_with (first
     |(have _:=b3;go_at_call 16;refine(steps_ir hR2.out a3 c3 N _ hO3.own.flat (by omega) (hg.on (bel.trans (b3.mono bel.size))) hNb.out).mono ?_;rintro e w4 ⟨a4,c4,rfl,hO4⟩;have b4:=b3.trans (hO4.bel.mono b3.size))
     |(go_at_call 16;refine(steps_ir hR1.out al c N _ hO.flat (by omega) (hg.on (bel.trans (b0.mono bel.size))) hNa.out).mono ?_;rintro e w3 ⟨a3,c3,rfl,hO3⟩;have b3:=b0.trans (hO3.bel.mono b0.size)))
    go_meet
    exact⟨a4,c4,rfl,hO4.own.base (bel.trans (b3.mono bel.size)).size,bel.trans (b4.mono bel.size),hO.below b4,hX.below b4⟩
   case rest=>
   clear bel hO hX
   obtain⟨a2,c2,rfl,hY,bel,hO,hX⟩:=hcut
   have b0:=Below.refl wc.heap.size wc
   go_wp2_with (first
    |(have _:=b8;go_at_call 10;refine(pqBodies_same a8 al N _ _ U _ hO8.own.flat (hO.below b8).flat (by omega)).mono ?_;rintro e w9 ⟨rfl,hb9⟩;have b9:=b8.trans (hb9.mono b8.size))
    |(have _:=b7;go_at_call 16;refine(steps_ir hU0.out al c N _ (hO.below b7).flat (by omega) (hg.on (bel.trans (b7.mono bel.size))) hNd.out).mono ?_;rintro e w8 ⟨a8,c8,rfl,hO8⟩;have b8:=b7.trans (hO8.bel.mono b7.size))
    |(have _:=b6;go_at_call 10;refine(pqBodies_same a5 a6 N _ _ RS1 _ (hO5.own.flat.below hO6.bel) hO6.own.flat (by omega)).mono ?_;rintro e w7 ⟨rfl,hb7⟩;have b7:=b6.trans (hb7.mono b6.size))
    |(have _:=b5;go_at_call 9;refine(step_ir hRS.out al c N _ (hO.below b5).flat (by omega) (hg.on (bel.trans (b5.mono bel.size))) hNe.out).mono ?_;rintro e w6 ⟨a6,c6,rfl,hO6⟩;have b6:=b5.trans (hO6.bel.mono b5.size))
    |(have _:=b4;go_at_call 16;refine(steps_ir hRT.out al c N _ (hO.below b4).flat (by omega) (hg.on (bel.trans (b4.mono bel.size))) hNc.out).mono ?_;rintro e w5 ⟨a5,c5,rfl,hO5⟩;have b5:=b4.trans (hO5.bel.mono b4.size))
    |(go_at_call 10;refine(pqBodies_same a1 a2 N _ _ RP _ hX.flat hY.flat (by omega)).mono ?_;rintro e w4 ⟨rfl,hb4⟩;have b4:=b0.trans (hb4.mono b0.size)))
   go_ret
   exact⟨rfl,bel.trans (b9.mono bel.size)⟩
end Go.Proofs.YtcalhcfinkhemaaGreatDoor
