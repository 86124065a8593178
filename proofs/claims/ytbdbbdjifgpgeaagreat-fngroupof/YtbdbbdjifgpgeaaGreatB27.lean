/- Texts of a proof. -/
import Derived.Test.YtbdbbdjifgpgeaaGreatB20
import Derived.Deep.RegionHeld3
import Derived.Deep.DeepCutAuto
import Derived.Test.YtbdbbdjifgpgeaaGreatB5
import Derived.Test.YtbdbbdjifgpgeaaGreatB6
set_option maxHeartbeats 16000000
set_option maxRecDepth 20000
namespace Go.Proofs.YtbdbbdjifgpgeaaGreat
open Go.RowKit
set_option linter.unusedVariables false
set_option linter.unusedSimpArgs false
def FlatB (w:World) (a:Option Addr) (n:Nat) (A:Nat→Bool):Prop:=0<n→∃ b o,a=some ⟨b,o,none⟩∧b<w.heap.size∧∀ j,j<n→w.cell? ⟨b,o+j,none⟩=some (.bool (A j))
theorem FlatB.below {w w':World} {a:Option Addr} {n B:Nat} {A:Nat→Bool} (h:FlatB w a n A) (hb:Below w.heap.size w w'):FlatB w' a n A:=fun h0=>by
 obtain⟨b,o,e,l,c⟩:=h h0
 exact⟨b,o,e,Nat.lt_of_lt_of_le l hb.size,fun j hj=>(hb.cell (p:=⟨b,o+j,none⟩) l).trans (c j hj)⟩
def wakeV (b:Bool) (V:Nat→Int):Nat→Int:=bif b&&decide (8≤V 11) then setV V 11 0 else V
def awK (G:Nat→Int) (A:Nat→Bool) (k:Nat):Bool:=decide (0≤G k)&&A (G k).toNat
theorem l9Wake_any (a:Option Addr) (n c:Nat) (U:Nat→Int) (ag:Option Addr) (cg:Nat) (G:Nat→Int) (aa:Option Addr) (na ca:Nat) (A:Nat→Bool) (w:World) (h:Flat w a (n*12) U) (hn:n≤1048576) (hG2:Flat w ag (n*1) G) (hA3:FlatB w aa na A) (hGn:∀ k,k<n→G k<(na:Int)):
 Calls Tryz.prog 75 #[.slice a n c,.slice ag n cg,.slice aa na ca] w fun e w'=>∃ a1 c1,e= .returned (.slice a1 n c1)∧OutL w w' 36 12 a1 n c1 (mapR (fun i V=>wakeV (awK G A i) V) U n):=by
 have hset:=cset_map
 go_enter Tryz.func75,Tryz.ntmps75
 go_upto_region 1 with fail
 go_cut [7] (fun s0 wc=>∃ a1 c1,s0= .slice a1 n c1∧OutL w wc 36 12 a1 n c1 U)
 case first=>
  go_wp2_with (go_at_call 94;refine(l8Copy_any a n c U _ h hn).mono ?_;rintro e w3 ⟨a1,c1,rfl,hO⟩)
  go_meet
  exact⟨_,_,rfl,hO⟩
 case rest=>
 obtain⟨a1,c1,rfl,hO⟩:=hcut
 go_upto_region 3 with fail
 go_loopw [8] (fun s wr=>∃ k:Nat,k≤n∧s= .int .i64 (k:Int)∧OutL w wr 36 12 a1 n c1 (mapR (fun i V=>wakeV (awK G A i) V) U k)) (fun s _=>n-(intOf s).toNat)
 case atStart=>exact⟨0,Nat.zero_le _,rfl,by rw[mapR_0];exact hO⟩
 case round=>
  clear hO
  obtain⟨k,hk,rfl,hO⟩:=hrel
  by_cases hlt:k<n
  · have hkn:(k:Int)<(n:Int):=by omega
    obtain⟨g,rfl,hg1,hg2⟩:=hO.own.loc (by omega)
    have d0:wr.cell? ⟨g,k*12,none⟩=some (.int .i64 (U (k*12))):=by have q:=hO.own.cellq (q:=k*12+0) (by omega);rw[mapR_row] at q;exact q
    have d1:wr.cell? ⟨g,k*12+1,none⟩=some (.int .i64 (U (k*12+1))):=by have q:=hO.own.cellq (q:=k*12+1) (by omega);rw[mapR_row] at q;exact q
    have d2:wr.cell? ⟨g,k*12+2,none⟩=some (.int .i64 (U (k*12+2))):=by have q:=hO.own.cellq (q:=k*12+2) (by omega);rw[mapR_row] at q;exact q
    have d3:wr.cell? ⟨g,k*12+3,none⟩=some (.int .i64 (U (k*12+3))):=by have q:=hO.own.cellq (q:=k*12+3) (by omega);rw[mapR_row] at q;exact q
    have d4:wr.cell? ⟨g,k*12+4,none⟩=some (.int .i64 (U (k*12+4))):=by have q:=hO.own.cellq (q:=k*12+4) (by omega);rw[mapR_row] at q;exact q
    have d5:wr.cell? ⟨g,k*12+5,none⟩=some (.int .i64 (U (k*12+5))):=by have q:=hO.own.cellq (q:=k*12+5) (by omega);rw[mapR_row] at q;exact q
    have d6:wr.cell? ⟨g,k*12+6,none⟩=some (.int .i64 (U (k*12+6))):=by have q:=hO.own.cellq (q:=k*12+6) (by omega);rw[mapR_row] at q;exact q
    have d7:wr.cell? ⟨g,k*12+7,none⟩=some (.int .i64 (U (k*12+7))):=by have q:=hO.own.cellq (q:=k*12+7) (by omega);rw[mapR_row] at q;exact q
    have d8:wr.cell? ⟨g,k*12+8,none⟩=some (.int .i64 (U (k*12+8))):=by have q:=hO.own.cellq (q:=k*12+8) (by omega);rw[mapR_row] at q;exact q
    have d9:wr.cell? ⟨g,k*12+9,none⟩=some (.int .i64 (U (k*12+9))):=by have q:=hO.own.cellq (q:=k*12+9) (by omega);rw[mapR_row] at q;exact q
    have d10:wr.cell? ⟨g,k*12+10,none⟩=some (.int .i64 (U (k*12+10))):=by have q:=hO.own.cellq (q:=k*12+10) (by omega);rw[mapR_row] at q;exact q
    have d11:wr.cell? ⟨g,k*12+11,none⟩=some (.int .i64 (U (k*12+11))):=by have q:=hO.own.cellq (q:=k*12+11) (by omega);rw[mapR_row] at q;exact q
    have df:=hO.own.fro
    obtain⟨SL,hSL⟩:∃ b,decide (8≤(fun j=>U (k*12+j)) 11)=b:=⟨_,rfl⟩
    obtain⟨b2,o2,e2,hbl2,hc2⟩:=(hG2.below hO.bel) (by omega)
    have r2:=hc2 k (by omega)
    clear hc2
    have hGk:=hGn k hlt
    subst e2
    obtain⟨gk,hgk⟩:∃ z,G k=z:=⟨_,rfl⟩
    rw[hgk] at r2 hGk
    by_cases hg0:0≤gk
    · obtain⟨b3,o3,e3,hbl3,hc3⟩:=hA3 (by omega)
      have r3:=(hO.bel.cell (p:=⟨b3,o3+gk.toNat,none⟩) hbl3).trans (hc3 gk.toNat (by omega))
      clear hc3
      subst e3
      obtain⟨aw,haw⟩:∃ z,A gk.toNat=z:=⟨_,rfl⟩
      have hak:awK G A k=aw:=by unfold awK;rw[hgk,decide_eq_true hg0,Bool.true_and,haw]
      rw[haw] at r3
      have hgi:gk<(na:Int):=by omega
      clear hgk haw
      cases aw with
      | false=>
        have HNO:Shut (mapR (fun i V=>wakeV (awK G A i) V) U (k+1)=mapR (fun i V=>wakeV (awK G A i) V) U k):=mapR_same (fun j hj=>by show wakeV (awK G A k) (fun j=>U (k*12+j)) j=_;unfold wakeV;rw[hak];rfl)
        clear hak hSL
        go_wp2_with fail
        go_roundw
        case rel=>exact⟨k+1,by omega,by go_num,by rw[HNO.out];exact hO⟩
        case measure=>simp[intOf];omega
      | true=>
        cases SL with
        | false=>
          have HNO:Shut (mapR (fun i V=>wakeV (awK G A i) V) U (k+1)=mapR (fun i V=>wakeV (awK G A i) V) U k):=mapR_same (fun j hj=>by show wakeV (awK G A k) (fun j=>U (k*12+j)) j=_;unfold wakeV;rw[hak,hSL];rfl)
          clear hak
          go_wp2_with (go_at_call 93;refine(l6Sleeps_k (fun j=>U (k*12+j)) _ false hSL).mono ?_;rintro e w4 ⟨rfl,hb4⟩)
          go_roundw
          case rel=>exact⟨k+1,by omega,by go_num,by rw[HNO.out];exact hO.on hb4⟩
          case measure=>simp[intOf];omega
        | true=>
          have HS:Shut ((fun r=>if r=k*12+11 then 0 else mapR (fun i V=>wakeV (awK G A i) V) U k r)=mapR (fun i V=>wakeV (awK G A i) V) U (k+1)):=mapR_one (by omega) (fun i hi=>by
           show wakeV (awK G A k) (fun j=>U (k*12+j)) i=_
           unfold wakeV
           rw[hak,hSL]
           rfl)
          clear hak
          go_upto_region 6 with(go_at_call 93;refine(l6Sleeps_k (fun j=>U (k*12+j)) _ true hSL).mono ?_;rintro e w4 ⟨rfl,hb4⟩)
          have hO4:=hO.on hb4
          have uf:=hO4.own.fro
          have uc:=hO4.own.cellq (q:=k*12+11) (by omega)
          go_wp2_with fail
          have hq:=hO4.own.setq (k*12+11) (by omega) 0
          rw[HS.out] at hq
          have hB5:Below w.heap.size w (w4.setCell ⟨g,k*12+11,none⟩ (.int .i64 0)):=hO4.bel.setCell hg1 _
          go_roundw
          case rel=>exact⟨k+1,by omega,by go_num,hB5,hq⟩
          case measure=>simp[intOf];omega
    · have hak:awK G A k=false:=by unfold awK;rw[hgk,decide_eq_false hg0,Bool.false_and]
      have HNO:Shut (mapR (fun i V=>wakeV (awK G A i) V) U (k+1)=mapR (fun i V=>wakeV (awK G A i) V) U k):=mapR_same (fun j hj=>by show wakeV (awK G A k) (fun j=>U (k*12+j)) j=_;unfold wakeV;rw[hak];rfl)
      clear hak hSL hgk
      go_wp2_with fail
      go_roundw
      case rel=>exact⟨k+1,by omega,by go_num,by rw[HNO.out];exact hO⟩
      case measure=>simp[intOf];omega
  · obtain rfl:k=n:=by omega
    go_wp2_with fail
    go_ret
    exact⟨_,_,rfl,hO⟩
theorem l11AnyShape_s (rb p:Nat) (w:World) (hs0:RS w rb p) (hp:p≤997000):
 Calls Tryz.prog 46 #[.pointer (some ⟨rb,0,none⟩)] w fun e w'=>∃ k g h:Int,e= .returned (s3 k g h)∧(Bn k∧Bn g∧Bn h)∧RB w w' rb (p+600):=by
 have hlt:=hs0.lt
 have hne:(w.heap.size=rb)=False:=eq_false (by omega)
 have hset:=cset_map
 go_enter Tryz.func46,Tryz.ntmps46
 go_wp2_with (first
  |(have _:=hr1;go_at_call 13;refine(pick_s rb (p+200) _ _ (by repeat(first|(with_reducible apply RS.setNew;rotate_left;(first|omega|(simp only[zz];omega)))|with_reducible apply RS.alloc|(with_reducible apply RS.up hr1;omega)|(with_reducible apply RS.mono hs0;omega)|with_reducible apply RS.drew|with_reducible apply RS.drewN)) (by omega) (by omega) (by omega)).mono ?_;rintro e w2 ⟨v2,rfl,va2,vb2,hr2⟩;obtain⟨hc2,hf2⟩:=RB.cells hr2;have hz2:=RB.size hr2;(try simp only[zz] at hc2 hf2 hz2);have hq2x0:w.heap.size<w2.heap.size:=(by omega);have ha2x0:(w2.heap.size=w.heap.size)=False:=eq_false (by omega);have hb2x0:(w.heap.size=w2.heap.size)=False:=eq_false (by omega);have he2x0:(w.heap.size=rb)=False:=eq_false (by omega);have hk2x0:=fun o=>hc2 (w.heap.size) o (by omega) (by omega);have hj2x0:=fun o=>hf2 (w.heap.size) o (by omega) (by omega);have hq2x1:w1.heap.size<w2.heap.size:=(by omega);have ha2x1:(w2.heap.size=w1.heap.size)=False:=eq_false (by omega);have hb2x1:(w1.heap.size=w2.heap.size)=False:=eq_false (by omega);have he2x1:(w1.heap.size=rb)=False:=eq_false (by omega);have hk2x1:=fun o=>hc2 (w1.heap.size) o (by omega) (by omega);have hj2x1:=fun o=>hf2 (w1.heap.size) o (by omega) (by omega))
  |(have _:=hr2;go_at_call 45;refine(one_s (-1) 25601 rb (p+300) _ _ _ _ _ (by repeat(first|(with_reducible apply RS.setNew;rotate_left;(first|omega|(simp only[zz];omega)))|with_reducible apply RS.alloc|(with_reducible apply RS.up hr2;omega)|(with_reducible apply RS.mono hs0;omega)|with_reducible apply RS.drew|with_reducible apply RS.drewN)) (by omega) (by repeat(first|exact AllBd.nil|refine AllBd.cons (by omega) (by omega) ?_)) (by rfl) (by omega) (by omega)).mono ?_;rintro e w3 ⟨v3,rfl,va3,vb3,hr3⟩;obtain⟨hc3,hf3⟩:=RB.cells hr3;have hz3:=RB.size hr3;(try simp only[zz] at hc3 hf3 hz3);have hq3x0:w.heap.size<w3.heap.size:=(by omega);have ha3x0:(w3.heap.size=w.heap.size)=False:=eq_false (by omega);have hb3x0:(w.heap.size=w3.heap.size)=False:=eq_false (by omega);have he3x0:(w.heap.size=rb)=False:=eq_false (by omega);have hk3x0:=fun o=>hc3 (w.heap.size) o (by omega) (by omega);have hj3x0:=fun o=>hf3 (w.heap.size) o (by omega) (by omega);have hq3x1:w1.heap.size<w3.heap.size:=(by omega);have ha3x1:(w3.heap.size=w1.heap.size)=False:=eq_false (by omega);have hb3x1:(w1.heap.size=w3.heap.size)=False:=eq_false (by omega);have he3x1:(w1.heap.size=rb)=False:=eq_false (by omega);have hk3x1:=fun o=>hc3 (w1.heap.size) o (by omega) (by omega);have hj3x1:=fun o=>hf3 (w1.heap.size) o (by omega) (by omega))
  |(go_at_call 70;refine(l11Shape_s rb (p+100) _ (by repeat(first|(with_reducible apply RS.setNew;rotate_left;(first|omega|(simp only[zz];omega)))|with_reducible apply RS.alloc|(with_reducible apply RS.mono hs0;omega)|with_reducible apply RS.drew|with_reducible apply RS.drewN)) (by omega)).mono ?_;rintro e w1 ⟨k1,g1,h1,rfl,hd1,hr1⟩;obtain⟨hc1,hf1⟩:=RB.cells hr1;have hz1:=RB.size hr1;(try simp only[zz] at hc1 hf1 hz1);have hq1x0:w.heap.size<w1.heap.size:=(by omega);have ha1x0:(w1.heap.size=w.heap.size)=False:=eq_false (by omega);have hb1x0:(w.heap.size=w1.heap.size)=False:=eq_false (by omega);have he1x0:(w.heap.size=rb)=False:=eq_false (by omega);have hk1x0:=fun o=>hc1 (w.heap.size) o (by omega) (by omega);have hj1x0:=fun o=>hf1 (w.heap.size) o (by omega) (by omega);obtain⟨⟨k1a,k1b⟩,⟨g1a,g1b⟩,⟨h1a,h1b⟩⟩:=hd1))
 · exact bodyPost_ret (v:=s3 v3 g1 h1) (by simp[results,Tryz.results46,go_sem, *]) rfl ⟨_,_,_,rfl,⟨Bn.mk ⟨by omega,by omega⟩,Bn.mk ⟨by omega,by omega⟩,Bn.mk ⟨by omega,by omega⟩⟩,RB.mk (by repeat(first|(with_reducible apply But.setNew;rotate_left;(first|omega|(simp only[zz];omega)))|with_reducible apply But.alloc|with_reducible apply But.trans (k:=RB.but hr3)|with_reducible apply But.trans (k:=RB.but hr2)|with_reducible apply But.trans (k:=RB.but hr1)|with_reducible apply But.refl|with_reducible apply But.drewN|with_reducible apply But.drew)) (by repeat(first|(with_reducible apply RS.setNew;rotate_left;(first|omega|(simp only[zz];omega)))|with_reducible apply RS.alloc|(with_reducible apply RS.up hr3;omega)|(with_reducible apply RS.up hr2;omega)|(with_reducible apply RS.up hr1;omega)|(with_reducible apply RS.mono hs0;omega)|with_reducible apply RS.drew|with_reducible apply RS.drewN))⟩
 · exact bodyPost_ret (v:=s3 k1 v3 h1) (by simp[results,Tryz.results46,go_sem, *]) rfl ⟨_,_,_,rfl,⟨Bn.mk ⟨by omega,by omega⟩,Bn.mk ⟨by omega,by omega⟩,Bn.mk ⟨by omega,by omega⟩⟩,RB.mk (by repeat(first|(with_reducible apply But.setNew;rotate_left;(first|omega|(simp only[zz];omega)))|with_reducible apply But.alloc|with_reducible apply But.trans (k:=RB.but hr3)|with_reducible apply But.trans (k:=RB.but hr2)|with_reducible apply But.trans (k:=RB.but hr1)|with_reducible apply But.refl|with_reducible apply But.drewN|with_reducible apply But.drew)) (by repeat(first|(with_reducible apply RS.setNew;rotate_left;(first|omega|(simp only[zz];omega)))|with_reducible apply RS.alloc|(with_reducible apply RS.up hr3;omega)|(with_reducible apply RS.up hr2;omega)|(with_reducible apply RS.up hr1;omega)|(with_reducible apply RS.mono hs0;omega)|with_reducible apply RS.drew|with_reducible apply RS.drewN))⟩
 · exact bodyPost_ret (v:=s3 k1 g1 v3) (by simp[results,Tryz.results46,go_sem, *]) rfl ⟨_,_,_,rfl,⟨Bn.mk ⟨by omega,by omega⟩,Bn.mk ⟨by omega,by omega⟩,Bn.mk ⟨by omega,by omega⟩⟩,RB.mk (by repeat(first|(with_reducible apply But.setNew;rotate_left;(first|omega|(simp only[zz];omega)))|with_reducible apply But.alloc|with_reducible apply But.trans (k:=RB.but hr3)|with_reducible apply But.trans (k:=RB.but hr2)|with_reducible apply But.trans (k:=RB.but hr1)|with_reducible apply But.refl|with_reducible apply But.drewN|with_reducible apply But.drew)) (by repeat(first|(with_reducible apply RS.setNew;rotate_left;(first|omega|(simp only[zz];omega)))|with_reducible apply RS.alloc|(with_reducible apply RS.up hr3;omega)|(with_reducible apply RS.up hr2;omega)|(with_reducible apply RS.up hr1;omega)|(with_reducible apply RS.mono hs0;omega)|with_reducible apply RS.drew|with_reducible apply RS.drewN))⟩
 · exact bodyPost_ret (v:=s3 k1 g1 h1) (by simp[results,Tryz.results46,go_sem, *]) rfl ⟨_,_,_,rfl,⟨Bn.mk ⟨by omega,by omega⟩,Bn.mk ⟨by omega,by omega⟩,Bn.mk ⟨by omega,by omega⟩⟩,RB.mk (by repeat(first|(with_reducible apply But.setNew;rotate_left;(first|omega|(simp only[zz];omega)))|with_reducible apply But.alloc|with_reducible apply But.trans (k:=RB.but hr2)|with_reducible apply But.trans (k:=RB.but hr1)|with_reducible apply But.refl|with_reducible apply But.drewN|with_reducible apply But.drew)) (by repeat(first|(with_reducible apply RS.setNew;rotate_left;(first|omega|(simp only[zz];omega)))|with_reducible apply RS.alloc|(with_reducible apply RS.up hr2;omega)|(with_reducible apply RS.up hr1;omega)|(with_reducible apply RS.mono hs0;omega)|with_reducible apply RS.drew|with_reducible apply RS.drewN))⟩
end Go.Proofs.YtbdbbdjifgpgeaaGreat
