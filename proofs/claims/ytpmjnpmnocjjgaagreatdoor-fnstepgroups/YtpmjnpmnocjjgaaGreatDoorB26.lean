/- Texts of a proof. -/
import Derived.Test.YtpmjnpmnocjjgaaGreatDoorB8
import Derived.Test.YtpmjnpmnocjjgaaGreatDoorB3
import Derived.Deep.RegionHeld3
import Derived.Deep.DeepCutAuto
import Derived.Test.YtpmjnpmnocjjgaaGreatDoorB18
import Derived.Test.YtpmjnpmnocjjgaaGreatDoorB21
import Derived.Test.YtpmjnpmnocjjgaaGreatDoorB13
import Derived.Test.YtpmjnpmnocjjgaaGreatDoorB17
import Derived.Test.YtpmjnpmnocjjgaaGreatDoorB14
import Derived.Test.YtpmjnpmnocjjgaaGreatDoorB6
import Derived.LoopNIn
import Derived.LoopIn
import Derived.OwnWalkIn
import Derived.Test.YtpmjnpmnocjjgaaGreatDoorB5
set_option maxHeartbeats 16000000
set_option maxRecDepth 20000
namespace Go.Proofs.YtpmjnpmnocjjgaaGreatDoor
open Go.RowKit
set_option linter.unusedVariables false
set_option linter.unusedSimpArgs false
def FlatB (w:World) (a:Option Addr) (n:Nat) (A:Nat→Bool):Prop:=0<n→∃ b o,a=some ⟨b,o,none⟩∧b<w.heap.size∧∀ j,j<n→w.cell? ⟨b,o+j,none⟩=some (.bool (A j))
theorem FlatB.below {w w':World} {a:Option Addr} {n B:Nat} {A:Nat→Bool} (h:FlatB w a n A) (hb:Below w.heap.size w w'):FlatB w' a n A:=fun h0=>by
 obtain⟨b,o,e,l,c⟩:=h h0
 exact⟨b,o,e,Nat.lt_of_lt_of_le l hb.size,fun j hj=>(hb.cell (p:=⟨b,o+j,none⟩) l).trans (c j hj)⟩
def wakeV (b:Bool) (V:Nat→Int):Nat→Int:=bif b&&decide (8≤V 11) then setV V 11 0 else V
def awK (G:Nat→Int) (A:Nat→Bool) (k:Nat):Bool:=decide (0≤G k)&&A (G k).toNat
theorem l9Wake_any (a:Option Addr) (n c:Nat) (U:Nat→Int) (ag:Option Addr) (cg:Nat) (G:Nat→Int) (aa:Option Addr) (na ca:Nat) (A:Nat→Bool) (w:World) (h:Flat w a (n*12) U) (hn:n≤1048576) (hG2:Flat w ag (n*1) G) (hA3:FlatB w aa na A) (hGn:∀ k,k<n→G k<(na:Int)):
 Calls Tryz.prog 32 #[.slice a n c,.slice ag n cg,.slice aa na ca] w fun e w'=>∃ a1 c1,e= .returned (.slice a1 n c1)∧OutL w w' 35 12 a1 n c1 (mapR (fun i V=>wakeV (awK G A i) V) U n):=by
 have hset:=cset_map
 go_enter Tryz.func32,Tryz.ntmps32
 go_upto_region 1 with fail
 go_cut [7] (fun s0 wc=>∃ a1 c1,s0= .slice a1 n c1∧OutL w wc 35 12 a1 n c1 U)
 case first=>
  go_wp2_with (go_at_call 65;refine(l8Copy_any a n c U _ h hn).mono ?_;rintro e w3 ⟨a1,c1,rfl,hO⟩)
  go_meet
  exact⟨_,_,rfl,hO⟩
 case rest=>
 obtain⟨a1,c1,rfl,hO⟩:=hcut
 go_upto_region 3 with fail
 go_loopw [8] (fun s wr=>∃ k:Nat,k≤n∧s= .int .i64 (k:Int)∧OutL w wr 35 12 a1 n c1 (mapR (fun i V=>wakeV (awK G A i) V) U k)) (fun s _=>n-(intOf s).toNat)
 case atStart=>exact⟨0,Nat.zero_le _,rfl,by rw[mapR_0];exact hO⟩
 case round=>
  clear hO
  obtain⟨k,hk,rfl,hO⟩:=hrel
  by_cases hlt:k<n
  · have hkn:(k:Int)<(n:Int):=by omega
    obtain⟨g,rfl,hg1,hg2⟩:=hO.own.loc (by omega)
    have d0:wr.cell? ⟨g,k*12,none⟩=some (.int .i64 (U (k*12))):=by have q:=hO.own.cellq (q:=k*12+0) (by omega);rw[mapR_row] at q;exact q
    have d1:wr.cell? ⟨g,k*12+1,none⟩=some (.int .i64 (U (k*12+1))):=by have q:=hO.own.cellq (q:=k*12+1) (by omega);rw[mapR_row] at q;exact q
    have d2:wr.cell? ⟨g,k*12+2,none⟩=some (.int .i64 (U (k*12+2))):=by have q:=hO.own.cellq (q:=k*12+2) (by omega);rw[mapR_row] at q;exact q
    have d3:wr.cell? ⟨g,k*12+3,none⟩=some (.int .i64 (U (k*12+3))):=by have q:=hO.own.cellq (q:=k*12+3) (by omega);rw[mapR_row] at q;exact q
    have d4:wr.cell? ⟨g,k*12+4,none⟩=some (.int .i64 (U (k*12+4))):=by have q:=hO.own.cellq (q:=k*12+4) (by omega);rw[mapR_row] at q;exact q
    have d5:wr.cell? ⟨g,k*12+5,none⟩=some (.int .i64 (U (k*12+5))):=by have q:=hO.own.cellq (q:=k*12+5) (by omega);rw[mapR_row] at q;exact q
    have d6:wr.cell? ⟨g,k*12+6,none⟩=some (.int .i64 (U (k*12+6))):=by have q:=hO.own.cellq (q:=k*12+6) (by omega);rw[mapR_row] at q;exact q
    have d7:wr.cell? ⟨g,k*12+7,none⟩=some (.int .i64 (U (k*12+7))):=by have q:=hO.own.cellq (q:=k*12+7) (by omega);rw[mapR_row] at q;exact q
    have d8:wr.cell? ⟨g,k*12+8,none⟩=some (.int .i64 (U (k*12+8))):=by have q:=hO.own.cellq (q:=k*12+8) (by omega);rw[mapR_row] at q;exact q
    have d9:wr.cell? ⟨g,k*12+9,none⟩=some (.int .i64 (U (k*12+9))):=by have q:=hO.own.cellq (q:=k*12+9) (by omega);rw[mapR_row] at q;exact q
    have d10:wr.cell? ⟨g,k*12+10,none⟩=some (.int .i64 (U (k*12+10))):=by have q:=hO.own.cellq (q:=k*12+10) (by omega);rw[mapR_row] at q;exact q
    have d11:wr.cell? ⟨g,k*12+11,none⟩=some (.int .i64 (U (k*12+11))):=by have q:=hO.own.cellq (q:=k*12+11) (by omega);rw[mapR_row] at q;exact q
    have df:=hO.own.fro
    obtain⟨SL,hSL⟩:∃ b,decide (8≤(fun j=>U (k*12+j)) 11)=b:=⟨_,rfl⟩
    obtain⟨b2,o2,e2,hbl2,hc2⟩:=(hG2.below hO.bel) (by omega)
    have r2:=hc2 k (by omega)
    clear hc2
    have hGk:=hGn k hlt
    subst e2
    obtain⟨gk,hgk⟩:∃ z,G k=z:=⟨_,rfl⟩
    rw[hgk] at r2 hGk
    by_cases hg0:0≤gk
    · obtain⟨b3,o3,e3,hbl3,hc3⟩:=hA3 (by omega)
      have r3:=(hO.bel.cell (p:=⟨b3,o3+gk.toNat,none⟩) hbl3).trans (hc3 gk.toNat (by omega))
      clear hc3
      subst e3
      obtain⟨aw,haw⟩:∃ z,A gk.toNat=z:=⟨_,rfl⟩
      have hak:awK G A k=aw:=by unfold awK;rw[hgk,decide_eq_true hg0,Bool.true_and,haw]
      rw[haw] at r3
      have hgi:gk<(na:Int):=by omega
      clear hgk haw
      cases aw with
      | false=>
        have HNO:Shut (mapR (fun i V=>wakeV (awK G A i) V) U (k+1)=mapR (fun i V=>wakeV (awK G A i) V) U k):=mapR_same (fun j hj=>by show wakeV (awK G A k) (fun j=>U (k*12+j)) j=_;unfold wakeV;rw[hak];rfl)
        clear hak hSL
        go_wp2_with fail
        go_roundw
        case rel=>exact⟨k+1,by omega,by go_num,by rw[HNO.out];exact hO⟩
        case measure=>simp[intOf];omega
      | true=>
        cases SL with
        | false=>
          have HNO:Shut (mapR (fun i V=>wakeV (awK G A i) V) U (k+1)=mapR (fun i V=>wakeV (awK G A i) V) U k):=mapR_same (fun j hj=>by show wakeV (awK G A k) (fun j=>U (k*12+j)) j=_;unfold wakeV;rw[hak,hSL];rfl)
          clear hak
          go_wp2_with (go_at_call 64;refine(l6Sleeps_k (fun j=>U (k*12+j)) _ false hSL).mono ?_;rintro e w4 ⟨rfl,hb4⟩)
          go_roundw
          case rel=>exact⟨k+1,by omega,by go_num,by rw[HNO.out];exact hO.on hb4⟩
          case measure=>simp[intOf];omega
        | true=>
          have HS:Shut ((fun r=>if r=k*12+11 then 0 else mapR (fun i V=>wakeV (awK G A i) V) U k r)=mapR (fun i V=>wakeV (awK G A i) V) U (k+1)):=mapR_one (by omega) (fun i hi=>by
           show wakeV (awK G A k) (fun j=>U (k*12+j)) i=_
           unfold wakeV
           rw[hak,hSL]
           rfl)
          clear hak
          go_upto_region 6 with(go_at_call 64;refine(l6Sleeps_k (fun j=>U (k*12+j)) _ true hSL).mono ?_;rintro e w4 ⟨rfl,hb4⟩)
          have hO4:=hO.on hb4
          have uf:=hO4.own.fro
          have uc:=hO4.own.cellq (q:=k*12+11) (by omega)
          go_wp2_with fail
          have hq:=hO4.own.setq (k*12+11) (by omega) 0
          rw[HS.out] at hq
          have hB5:Below w.heap.size w (w4.setCell ⟨g,k*12+11,none⟩ (.int .i64 0)):=hO4.bel.setCell hg1 _
          go_roundw
          case rel=>exact⟨k+1,by omega,by go_num,hB5,hq⟩
          case measure=>simp[intOf];omega
    · have hak:awK G A k=false:=by unfold awK;rw[hgk,decide_eq_false hg0,Bool.false_and]
      have HNO:Shut (mapR (fun i V=>wakeV (awK G A i) V) U (k+1)=mapR (fun i V=>wakeV (awK G A i) V) U k):=mapR_same (fun j hj=>by show wakeV (awK G A k) (fun j=>U (k*12+j)) j=_;unfold wakeV;rw[hak];rfl)
      clear hak hSL hgk
      go_wp2_with fail
      go_roundw
      case rel=>exact⟨k+1,by omega,by go_num,by rw[HNO.out];exact hO⟩
      case measure=>simp[intOf];omega
  · obtain rfl:k=n:=by omega
    go_wp2_with fail
    go_ret
    exact⟨_,_,rfl,hO⟩
def ctsB (n:Nat) (C:Nat→Int):Nat→Bool
 |0=>true
 |k+1=>ctsB n C k&&atB n (C (k*5)) (C (k*5+1)) (C (k*5+2)) (C (k*5+3)) (C (k*5+4))
structure Mo (w wr:World) (cb n rb k:Nat) (U C:Nat→Int) (S:Nat→Value) (v:Value):Prop where
 cs:Cs wr cb n (colOf U) S
 r0:wr.cell? ⟨rb,0,none⟩=some v
 r1:wr.cell? ⟨rb,1,none⟩=some (.int .i64 0)
 f0:wr.frozen? ⟨rb,0,none⟩=false
 f1:wr.frozen? ⟨rb,1,none⟩=false
 ml:ML wr (rb+1) cb v C k
 bel:Below w.heap.size w wr
 rl:rb<wr.heap.size
theorem Mo.on {w wr:World} {cb n rb k:Nat} {U C:Nat→Int} {S:Nat→Value} {v:Value} {w':World} (h:Mo w wr cb n rb k U C S v) (hb:Below wr.heap.size wr w'):Mo w w' cb n rb k U C S v:=
 ⟨h.cs.below hb,(hb.cell (p:=⟨rb,0,none⟩) h.rl).trans h.r0,(hb.cell (p:=⟨rb,1,none⟩) h.rl).trans h.r1,(hb.frozen (p:=⟨rb,0,none⟩) h.rl).trans h.f0,(hb.frozen (p:=⟨rb,1,none⟩) h.rl).trans h.f1,h.ml.below hb,h.bel.trans (hb.mono h.bel.size),Nat.lt_of_lt_of_le h.rl hb.size⟩
theorem Mo.push {w wr:World} {cb n rb k:Nat} {U C:Nat→Int} {S:Nat→Value} {v:Value} {W w7:World} {g c:Nat} (h:Mo w wr cb n rb k U C S v) (hb:Below wr.heap.size wr W) (hg:W.grownBy w7 v.ownBlock) (ho:ML w7 (rb+1) cb (.slice (some ⟨g,0,none⟩) (k+1) c) C (k+1)) (hwr:w.heap.size≤rb) (hcb:cb<rb) (hxr:∀ b,Xc S b→b<rb):
 (w7.cell? ⟨rb,0,none⟩=some v∧w7.frozen? ⟨rb,0,none⟩=false∧rb<w7.heap.size)∧Mo w (w7.setCell ⟨rb,0,none⟩ (.slice (some ⟨g,0,none⟩) (k+1) c)) cb n rb (k+1) U C S (.slice (some ⟨g,0,none⟩) (k+1) c):=by
 have h1:=h.on hb
 have hlt:=h1.ml.lt
 have hF:Fr (fun b=>v.ownBlock=some b) W w7:=Fr.grown hg (fun b e=>e) h1.ml.isCells
 have nr:¬ v.ownBlock=some rb:=fun e=>by have:=(hlt rb e).1;omega
 have n0:=(hF.cell (p:=⟨rb,0,none⟩) h1.rl nr).trans h1.r0
 have n1:=(hF.cell (p:=⟨rb,1,none⟩) h1.rl nr).trans h1.r1
 have m0:=(hF.frozen (p:=⟨rb,0,none⟩) h1.rl nr).trans h1.f0
 have m1:=(hF.frozen (p:=⟨rb,1,none⟩) h1.rl nr).trans h1.f1
 have l7:rb<w7.heap.size:=Nat.lt_of_lt_of_le h1.rl hF.size
 have c7:=h1.cs.frame hF (fun e=>by have:=(hlt cb e).1;omega) (fun b hx e=>by have:=(hlt b e).1;have:=hxr b hx;omega)
 have hS:Fr (fun b=>b=rb) w7 (w7.setCell ⟨rb,0,none⟩ (.slice (some ⟨g,0,none⟩) (k+1) c)):=Fr.setCell (X:=fun b=>b=rb) rfl _
 refine⟨⟨n0,m0,l7⟩,c7.frame hS (by show ¬ cb=rb;omega) (fun b hx e=>by have:=hxr b hx;omega),by go_simp,by go_simp,by go_simp,by go_simp,ho.frame hS (fun b e e2=>by have:=(ho.lt b e).1;omega),?_,by simpa using l7⟩
 exact(h1.bel.trans (hF.below (by have:=h1.bel.size;omega) (fun b e=>by have:=(hlt b e).1;omega))).trans (hS.below (by have:=hF.size;have:=h1.bel.size;omega) (fun b e=>by omega))
def rwL (C:Nat→Nat→Int):Nat→List Int
 |0=>[]
 |k+1=>rwL C k++[C 0 k,C 1 k,C 2 k,C 3 k,C 4 k,C 5 k,C 6 k,C 7 k,C 8 k,C 9 k,C 10 k,C 11 k]
theorem rwL_len (C:Nat→Nat→Int):∀ k,(rwL C k).length=k*12
 |0=>rfl
 | k+1=>by
   rw[rwL,List.length_append,rwL_len C k]
   simp only[List.length_cons,List.length_nil]
   omega
theorem rwL_at (C:Nat→Nat→Int):∀ n q,q<n*12→ofL (rwL C n) q=C (q % 12) (q/12)
 |0,q,h=>by omega
 | k+1,q,h=>by
   rw[rwL]
   by_cases e:q<k*12
   · rw[ofL_app _ _ _ (by rw[rwL_len];exact e)];exact rwL_at C k q e
   · rw[ofL_app' _ _ _ (by rw[rwL_len];omega),rwL_len]
     have h1:q/12=k:=by omega
     have h2:q % 12=q-k*12:=by omega
     rw[h1,h2]
     have h3:q-k*12<12:=by omega
     generalize q-k*12=j at h3 ⊢
     rcases(show j=0∨j=1∨j=2∨j=3∨j=4∨j=5∨j=6∨j=7∨j=8∨j=9∨j=10∨j=11 by omega) with rfl|rfl|rfl|rfl|rfl|rfl|rfl|rfl|rfl|rfl|rfl|rfl<;>rfl
theorem cells12 (w:World) (V:Nat→Int) (t:TypeId):∀ j,j<12→(w.alloc (Obj.cells #[.int .i64 (V 0),.int .i64 (V 1),.int .i64 (V 2),.int .i64 (V 3),.int .i64 (V 4),.int .i64 (V 5),.int .i64 (V 6),.int .i64 (V 7),.int .i64 (V 8),.int .i64 (V 9),.int .i64 (V 10),.int .i64 (V 11)] t)).cell? ⟨w.heap.size,j,none⟩=some (.int .i64 (ofL [V 0,V 1,V 2,V 3,V 4,V 5,V 6,V 7,V 8,V 9,V 10,V 11] j)):=by
 intro j hj
 rcases(show j=0∨j=1∨j=2∨j=3∨j=4∨j=5∨j=6∨j=7∨j=8∨j=9∨j=10∨j=11 by omega) with rfl|rfl|rfl|rfl|rfl|rfl|rfl|rfl|rfl|rfl|rfl|rfl<;>(simp only[ofL];go_simp;(try rfl))
theorem list_any (cb n:Nat) (C:Nat→Nat→Int) (S:Nat→Value) (w:World) (hC:Cs w cb n C S) (hn:n≤12):
 Calls Tryz.prog 22 #[.pointer (some ⟨cb,0,none⟩)] w fun e w'=>∃ a c,e= .returned (.slice a n c)∧OutL w w' 35 12 a n c (fun q=>C (q % 12) (q/12)):=by
 have hset:=cset_map
 refine calls_of_wp_marks Tryz.func22 rfl ?_
 simp only[Tryz.ntmps22,List.size_toArray,List.length_cons,List.length_nil,Nat.reduceAdd,Nat.reduceSub,Array.replicate_succ,Array.replicate_zero,List.push_toArray,List.append_toArray,List.nil_append,List.cons_append]
 go_wp2
 have hE:Below w.heap.size w (w.alloc (Obj.cells #[.slice none 0 0] 23)):=(Below.refl _ _).alloc (Nat.le_refl _) _
 have hC2:=hC.below hE
 have hA:LsAt (w.alloc (Obj.cells #[.slice none 0 0] 23)) (w.alloc (Obj.cells #[.slice none 0 0] 23)) w.heap.size 35 12 none 0 0 []:=LsAt.start (by go_simp) (by go_simp)
 have hz2:(w.alloc (Obj.cells #[.slice none 0 0] 23)).heap.size=w.heap.size+1:=by simp
 generalize (w.alloc (Obj.cells #[.slice none 0 0] 23))=w2 at hE hC2 hA hz2 ⊢
 have hXl:∀ b,Xc S b→b<w.heap.size:=fun b hb=>(hC.xlt hb).2
 have hcl0:=hC.lt
 have hlb:w.heap.size<w2.heap.size:=by omega
 obtain⟨ad,cc,hS0⟩:=(hC2.own 0 (by omega)).is
 have hd0:=hC2.hd 0 (by omega)
 rw[hS0] at hd0
 have hlw:w.heap.size≤w.heap.size:=Nat.le_refl _
 have hcl1:cb<w.heap.size:=hcl0
 generalize hlbe:w.heap.size=lb at hA hlb hXl hcl1 hlw ⊢
 refine wp_range_out (gf:=41) (bound:= #[.pointer (some ⟨cb,0,none⟩)]) rfl each_enters (each_it cb n _ _ w2 hC2.lt hd0 (by omega)) (fun _=>rfl) (fun k W=>∃ a m c,LsAt w2 W lb 35 12 a m c (rwL C k)) (fun _ _=>False) ?_ (fun _ _ _ h _=>h) ⟨_,_,_,hA⟩ ?round ?done (fun _ _ _ _ h _=>h.elim)
 · rintro k A B ⟨a,m,c,h1⟩ hs
   exact⟨a,m,c,h1.sm hs (Nat.le_refl _)⟩
 case done=>
  rintro D W hD ⟨a,m,c,hL⟩ hK
  have hbx:=hL.box
  have hm:m=n:=by have:=hL.len;rw[rwL_len] at this;omega
  subst hm
  go_wp2
  refine marks_ret (B:=w2.heap.size) hD rfl hK fun W' hS=>⟨.slice a m c,?_,a,c,rfl,?_,?_⟩
  · simp[results,Tryz.results22,go_sem, *]
  · rw[hlbe]
    rw[hlbe] at hE
    exact(hE.trans (hL.fr.below (by omega) (fun b e=>by omega))).trans (hS.below.mono (by omega))
  · rw[hlbe]
    exact((hL.own.sm hS).base (by omega)).congr fun q hq=>rwL_at C m q hq
 case round=>
  rintro l0 k X hl0 ⟨a,m,c,hL⟩ hk
  have hm12:m≤12:=by have:=hL.len;rw[rwL_len] at this;omega
  simp only[List.zip_toArray,List.zip_cons_cons,List.zip_nil_left,List.foldl_toArray,List.foldl_cons,List.foldl_nil,List.setIfInBounds_toArray,List.set_cons_succ,List.set_cons_zero]
  refine wpIn_region_plain (by rintro⟨_,_,h⟩;exact h) (by kernel_rfl) ?_
  go_wp2
  refine⟨(KeepsOthers.alloc _ _).from _,fun X2 hS hr=> ?_⟩
  clear hr
  have hL2:LsAt w2 X2 lb 35 12 a m c (rwL C k):=(hL.below ((Below.refl _ _).alloc (Nat.le_refl _) _)).sm hS (Nat.le_refl _)
  have b0:X2.cell? ⟨X.heap.size,0,none⟩=some (.int .i64 (k:Int)):=hS.cell (by go_simp)
  have b1:X2.cell? ⟨X.heap.size,1,none⟩=some (.pointer (some ⟨cb,0,none⟩)):=hS.cell (by go_simp)
  have hbl:X.heap.size<X2.heap.size:=by have:=hS.size;simp at this;omega
  have hown:∀ b,(Value.slice a m c).ownBlock=some b→b<X.heap.size:=fun b hb=>(hL.own.lt b hb).2
  have hzX:=hL.fr.size
  clear hS hL
  generalize X.heap.size=bb at b0 b1 hbl hown hzX ⊢
  have hCX:=hC2.frame hL2.fr (by omega) (fun b hb=>by have:=hXl b hb;omega)
  have x0:=hL2.box
  have e0:=b0
  have e1:=b1
  refine wpIn_block ?_
  refine wpIn_region_held_drew (S:=fun w'=>w'.cell? ⟨bb,0,none⟩=some (.int .i64 (k:Int))∧w'.cell? ⟨bb,1,none⟩=some (.pointer (some ⟨cb,0,none⟩))) (by kernel_rfl) (by rintro⟨_,_,h⟩;exact h) (by kernel_rfl) ?_ (fun hHeld=> ?_)
  · (try dsimp only)
    (first|(go_simp;done)|(go_keep;done))
  refine tq 1 hHeld ?_
  refine wpAnyH_ready (rs:=[0,2]) (by kernel_rfl) (by simp) ?_
  refine AllReadyH.cons rfl (fun K hK=> ?_) (AllReadyH.cons rfl (fun K hK=> ?_) AllReadyH.nil)
  · (go_simp
     refine tr hK (fun hHeld=> ?_)
     clear hK K)
    refine tc 2 fun K hK=> ?_
    (go_simp
     (go_at_call 49;refine(kBody (Cs.hat (hCX.below (Below.drew (Below.refl _ _))) hk (by omega))).mono ?_;rintro e w31 ⟨rfl,hx⟩)
     have hx1:Below X2.heap.size X2 w31:=(Below.drew (Below.refl _ _)).trans hx
     have hL3:=hL2.below hx1
     clear x0 e0 e1 hx
     have x0:=hL3.box
     have e0:=(hx1.cell (p:=⟨bb,0,none⟩) hbl).trans b0
     have e1:=(hx1.cell (p:=⟨bb,1,none⟩) hbl).trans b1
     have hbl3:bb<w31.heap.size:=Nat.lt_of_lt_of_le hbl hx1.size
     (try go_wp2_with fail)
     refine tr hK (fun hHeld=> ?_)
     clear hK K)
    refine tc 3 fun K hK=> ?_
    (go_simp
     have hE3:Below w31.heap.size w31 (w31.alloc (Obj.cells #[.int .i64 (C 0 k),.int .i64 (C 1 k),.int .i64 (C 2 k),.int .i64 (C 3 k),.int .i64 (C 4 k),.int .i64 (C 5 k),.int .i64 (C 6 k),.int .i64 (C 7 k),.int .i64 (C 8 k),.int .i64 (C 9 k),.int .i64 (C 10 k),.int .i64 (C 11 k)] 35)):=(Below.refl _ _).alloc (Nat.le_refl _) _
     have q12:=cells12 w31 (fun j=>C j k) 35
     have hz32:(w31.alloc (Obj.cells #[.int .i64 (C 0 k),.int .i64 (C 1 k),.int .i64 (C 2 k),.int .i64 (C 3 k),.int .i64 (C 4 k),.int .i64 (C 5 k),.int .i64 (C 6 k),.int .i64 (C 7 k),.int .i64 (C 8 k),.int .i64 (C 9 k),.int .i64 (C 10 k),.int .i64 (C 11 k)] 35)).heap.size=w31.heap.size+1:=by simp
     clear x0 e0 e1
     generalize w31.alloc (Obj.cells #[.int .i64 (C 0 k),.int .i64 (C 1 k),.int .i64 (C 2 k),.int .i64 (C 3 k),.int .i64 (C 4 k),.int .i64 (C 5 k),.int .i64 (C 6 k),.int .i64 (C 7 k),.int .i64 (C 8 k),.int .i64 (C 9 k),.int .i64 (C 10 k),.int .i64 (C 11 k)] 35)=w32 at hE3 q12 hz32 ⊢
     have hL4:=hL3.below hE3
     have x0:=hL4.box
     have e0:=(hE3.cell (p:=⟨bb,0,none⟩) hbl3).trans ((hx1.cell (p:=⟨bb,0,none⟩) hbl).trans b0)
     have e1:=(hE3.cell (p:=⟨bb,1,none⟩) hbl3).trans ((hx1.cell (p:=⟨bb,1,none⟩) hbl).trans b1)
     refine tr hK (fun hHeld=> ?_)
     clear hK K)
    refine tc 4 fun K hK=> ?_
    (refine step_appk (by rfl) _ _ _ (by rfl) w2.heap.size 35 12 96 zcBody Tryz.underlying23 infoItBody (by rfl) (by omega) (.slice a m c) m (ofL (rwL C k)) (by rfl) hL4.own w31.heap.size _ (ofL [C 0 k,C 1 k,C 2 k,C 3 k,C 4 k,C 5 k,C 6 k,C 7 k,C 8 k,C 9 k,C 10 k,C 11 k]) (by rfl) q12 (by unfold maxLen;omega) (by omega) (by have:=hL4.fr.size;omega) _ rfl ?_
     intro g6 c6 w33 ho6 hg6 hor6 hlt6
     have hP:=hL4.push hlb (x:=[C 0 k,C 1 k,C 2 k,C 3 k,C 4 k,C 5 k,C 6 k,C 7 k,C 8 k,C 9 k,C 10 k,C 11 k]) rfl hg6 ho6
     have hKP:=(Fr.of_below (hx1.trans (hE3.mono hx1.size))).trans (hL4.keeps (a':=some ⟨g6,0,none⟩) (m':=m+1) (c':=c6) hlb hg6)
     have hnb:∀ b,(Value.slice a m c).ownBlock=some b→b≠bb:=fun b e=>by have:=hown b e;omega
     have y0:=(hg6.cell_far ⟨bb,0,none⟩ (by show bb<w32.heap.size;omega) (fun e=>hnb bb e.symm rfl)).trans e0
     have y1:=(hg6.cell_far ⟨bb,1,none⟩ (by show bb<w32.heap.size;omega) (fun e=>hnb bb e.symm rfl)).trans e1
     have n0:=(hg6.cell_far ⟨lb,0,none⟩ (by show lb<w32.heap.size;have:=hL4.fr.size;omega) (fun e=>by have:=(hL4.own.lt lb e.symm).1;omega)).trans hL4.box
     have nf:=(hg6.frozen_far ⟨lb,0,none⟩ (by show lb<w32.heap.size;have:=hL4.fr.size;omega) (fun e=>by have:=(hL4.own.lt lb e.symm).1;omega)).trans hL4.nf
     clear x0 e0 e1
     refine tr hK (fun hHeld=> ?_)
     clear hK K)
    refine tc 5 fun K hK=> ?_
    (have z0:(w33.setCell ⟨lb,0,none⟩ (.slice (some ⟨g6,0,none⟩) (m+1) c6)).cell? ⟨bb,0,none⟩=some (.int .i64 (k:Int)):=by rw[cset_far (by simp;omega)];exact y0
     have z1:(w33.setCell ⟨lb,0,none⟩ (.slice (some ⟨g6,0,none⟩) (m+1) c6)).cell? ⟨bb,1,none⟩=some (.pointer (some ⟨cb,0,none⟩)):=by rw[cset_far (by simp;omega)];exact y1
     go_simp
     refine tr hK (fun hHeld=> ?_)
     clear hK K)
    refine wpAnyH_done (by kernel_rfl) ?_ _
    go_wp2_with fail
    exact⟨hKP.keeps _,_,_,_,by rw[rwL];exact hP⟩
  · (go_simp
     (go_at_call 49;refine(kBody (Cs.hat (hCX.below (Below.drew (Below.refl _ _))) hk (by omega))).mono ?_;rintro e w31 ⟨rfl,hx⟩)
     have hx1:Below X2.heap.size X2 w31:=(Below.drew (Below.refl _ _)).trans hx
     have hL3:=hL2.below hx1
     clear x0 e0 e1 hx
     have x0:=hL3.box
     have e0:=(hx1.cell (p:=⟨bb,0,none⟩) hbl).trans b0
     have e1:=(hx1.cell (p:=⟨bb,1,none⟩) hbl).trans b1
     have hbl3:bb<w31.heap.size:=Nat.lt_of_lt_of_le hbl hx1.size
     (try go_wp2_with fail)
     refine tr hK (fun hHeld=> ?_)
     clear hK K)
    refine wpAnyH_ready (rs:=[0,3]) (by kernel_rfl) (by simp) ?_
    refine AllReadyH.cons rfl (fun K hK=> ?_) (AllReadyH.cons rfl (fun K hK=> ?_) AllReadyH.nil)
    · (go_simp
       refine tr hK (fun hHeld=> ?_)
       clear hK K)
      refine tc 3 fun K hK=> ?_
      (go_simp
       have hE3:Below w31.heap.size w31 (w31.alloc (Obj.cells #[.int .i64 (C 0 k),.int .i64 (C 1 k),.int .i64 (C 2 k),.int .i64 (C 3 k),.int .i64 (C 4 k),.int .i64 (C 5 k),.int .i64 (C 6 k),.int .i64 (C 7 k),.int .i64 (C 8 k),.int .i64 (C 9 k),.int .i64 (C 10 k),.int .i64 (C 11 k)] 35)):=(Below.refl _ _).alloc (Nat.le_refl _) _
       have q12:=cells12 w31 (fun j=>C j k) 35
       have hz32:(w31.alloc (Obj.cells #[.int .i64 (C 0 k),.int .i64 (C 1 k),.int .i64 (C 2 k),.int .i64 (C 3 k),.int .i64 (C 4 k),.int .i64 (C 5 k),.int .i64 (C 6 k),.int .i64 (C 7 k),.int .i64 (C 8 k),.int .i64 (C 9 k),.int .i64 (C 10 k),.int .i64 (C 11 k)] 35)).heap.size=w31.heap.size+1:=by simp
       clear x0 e0 e1
       generalize w31.alloc (Obj.cells #[.int .i64 (C 0 k),.int .i64 (C 1 k),.int .i64 (C 2 k),.int .i64 (C 3 k),.int .i64 (C 4 k),.int .i64 (C 5 k),.int .i64 (C 6 k),.int .i64 (C 7 k),.int .i64 (C 8 k),.int .i64 (C 9 k),.int .i64 (C 10 k),.int .i64 (C 11 k)] 35)=w32 at hE3 q12 hz32 ⊢
       have hL4:=hL3.below hE3
       have x0:=hL4.box
       have e0:=(hE3.cell (p:=⟨bb,0,none⟩) hbl3).trans ((hx1.cell (p:=⟨bb,0,none⟩) hbl).trans b0)
       have e1:=(hE3.cell (p:=⟨bb,1,none⟩) hbl3).trans ((hx1.cell (p:=⟨bb,1,none⟩) hbl).trans b1)
       refine tr hK (fun hHeld=> ?_)
       clear hK K)
      refine tc 4 fun K hK=> ?_
      (refine step_appk (by rfl) _ _ _ (by rfl) w2.heap.size 35 12 96 zcBody Tryz.underlying23 infoItBody (by rfl) (by omega) (.slice a m c) m (ofL (rwL C k)) (by rfl) hL4.own w31.heap.size _ (ofL [C 0 k,C 1 k,C 2 k,C 3 k,C 4 k,C 5 k,C 6 k,C 7 k,C 8 k,C 9 k,C 10 k,C 11 k]) (by rfl) q12 (by unfold maxLen;omega) (by omega) (by have:=hL4.fr.size;omega) _ rfl ?_
       intro g6 c6 w33 ho6 hg6 hor6 hlt6
       have hP:=hL4.push hlb (x:=[C 0 k,C 1 k,C 2 k,C 3 k,C 4 k,C 5 k,C 6 k,C 7 k,C 8 k,C 9 k,C 10 k,C 11 k]) rfl hg6 ho6
       have hKP:=(Fr.of_below (hx1.trans (hE3.mono hx1.size))).trans (hL4.keeps (a':=some ⟨g6,0,none⟩) (m':=m+1) (c':=c6) hlb hg6)
       have hnb:∀ b,(Value.slice a m c).ownBlock=some b→b≠bb:=fun b e=>by have:=hown b e;omega
       have y0:=(hg6.cell_far ⟨bb,0,none⟩ (by show bb<w32.heap.size;omega) (fun e=>hnb bb e.symm rfl)).trans e0
       have y1:=(hg6.cell_far ⟨bb,1,none⟩ (by show bb<w32.heap.size;omega) (fun e=>hnb bb e.symm rfl)).trans e1
       have n0:=(hg6.cell_far ⟨lb,0,none⟩ (by show lb<w32.heap.size;have:=hL4.fr.size;omega) (fun e=>by have:=(hL4.own.lt lb e.symm).1;omega)).trans hL4.box
       have nf:=(hg6.frozen_far ⟨lb,0,none⟩ (by show lb<w32.heap.size;have:=hL4.fr.size;omega) (fun e=>by have:=(hL4.own.lt lb e.symm).1;omega)).trans hL4.nf
       clear x0 e0 e1
       refine tr hK (fun hHeld=> ?_)
       clear hK K)
      refine tc 5 fun K hK=> ?_
      (have z0:(w33.setCell ⟨lb,0,none⟩ (.slice (some ⟨g6,0,none⟩) (m+1) c6)).cell? ⟨bb,0,none⟩=some (.int .i64 (k:Int)):=by rw[cset_far (by simp;omega)];exact y0
       have z1:(w33.setCell ⟨lb,0,none⟩ (.slice (some ⟨g6,0,none⟩) (m+1) c6)).cell? ⟨bb,1,none⟩=some (.pointer (some ⟨cb,0,none⟩)):=by rw[cset_far (by simp;omega)];exact y1
       go_simp
       refine tr hK (fun hHeld=> ?_)
       clear hK K)
      refine wpAnyH_done (by kernel_rfl) ?_ _
      go_wp2_with fail
      exact⟨hKP.keeps _,_,_,_,by rw[rwL];exact hP⟩
    · (go_simp
       have hE3:Below w31.heap.size w31 (w31.alloc (Obj.cells #[.int .i64 (C 0 k),.int .i64 (C 1 k),.int .i64 (C 2 k),.int .i64 (C 3 k),.int .i64 (C 4 k),.int .i64 (C 5 k),.int .i64 (C 6 k),.int .i64 (C 7 k),.int .i64 (C 8 k),.int .i64 (C 9 k),.int .i64 (C 10 k),.int .i64 (C 11 k)] 35)):=(Below.refl _ _).alloc (Nat.le_refl _) _
       have q12:=cells12 w31 (fun j=>C j k) 35
       have hz32:(w31.alloc (Obj.cells #[.int .i64 (C 0 k),.int .i64 (C 1 k),.int .i64 (C 2 k),.int .i64 (C 3 k),.int .i64 (C 4 k),.int .i64 (C 5 k),.int .i64 (C 6 k),.int .i64 (C 7 k),.int .i64 (C 8 k),.int .i64 (C 9 k),.int .i64 (C 10 k),.int .i64 (C 11 k)] 35)).heap.size=w31.heap.size+1:=by simp
       clear x0 e0 e1
       generalize w31.alloc (Obj.cells #[.int .i64 (C 0 k),.int .i64 (C 1 k),.int .i64 (C 2 k),.int .i64 (C 3 k),.int .i64 (C 4 k),.int .i64 (C 5 k),.int .i64 (C 6 k),.int .i64 (C 7 k),.int .i64 (C 8 k),.int .i64 (C 9 k),.int .i64 (C 10 k),.int .i64 (C 11 k)] 35)=w32 at hE3 q12 hz32 ⊢
       have hL4:=hL3.below hE3
       have x0:=hL4.box
       have e0:=(hE3.cell (p:=⟨bb,0,none⟩) hbl3).trans ((hx1.cell (p:=⟨bb,0,none⟩) hbl).trans b0)
       have e1:=(hE3.cell (p:=⟨bb,1,none⟩) hbl3).trans ((hx1.cell (p:=⟨bb,1,none⟩) hbl).trans b1)
       refine tr hK (fun hHeld=> ?_)
       clear hK K)
      refine tc 0 fun K hK=> ?_
      (go_simp
       refine tr hK (fun hHeld=> ?_)
       clear hK K)
      refine tc 4 fun K hK=> ?_
      (refine step_appk (by rfl) _ _ _ (by rfl) w2.heap.size 35 12 96 zcBody Tryz.underlying23 infoItBody (by rfl) (by omega) (.slice a m c) m (ofL (rwL C k)) (by rfl) hL4.own w31.heap.size _ (ofL [C 0 k,C 1 k,C 2 k,C 3 k,C 4 k,C 5 k,C 6 k,C 7 k,C 8 k,C 9 k,C 10 k,C 11 k]) (by rfl) q12 (by unfold maxLen;omega) (by omega) (by have:=hL4.fr.size;omega) _ rfl ?_
       intro g6 c6 w33 ho6 hg6 hor6 hlt6
       have hP:=hL4.push hlb (x:=[C 0 k,C 1 k,C 2 k,C 3 k,C 4 k,C 5 k,C 6 k,C 7 k,C 8 k,C 9 k,C 10 k,C 11 k]) rfl hg6 ho6
       have hKP:=(Fr.of_below (hx1.trans (hE3.mono hx1.size))).trans (hL4.keeps (a':=some ⟨g6,0,none⟩) (m':=m+1) (c':=c6) hlb hg6)
       have hnb:∀ b,(Value.slice a m c).ownBlock=some b→b≠bb:=fun b e=>by have:=hown b e;omega
       have y0:=(hg6.cell_far ⟨bb,0,none⟩ (by show bb<w32.heap.size;omega) (fun e=>hnb bb e.symm rfl)).trans e0
       have y1:=(hg6.cell_far ⟨bb,1,none⟩ (by show bb<w32.heap.size;omega) (fun e=>hnb bb e.symm rfl)).trans e1
       have n0:=(hg6.cell_far ⟨lb,0,none⟩ (by show lb<w32.heap.size;have:=hL4.fr.size;omega) (fun e=>by have:=(hL4.own.lt lb e.symm).1;omega)).trans hL4.box
       have nf:=(hg6.frozen_far ⟨lb,0,none⟩ (by show lb<w32.heap.size;have:=hL4.fr.size;omega) (fun e=>by have:=(hL4.own.lt lb e.symm).1;omega)).trans hL4.nf
       clear x0 e0 e1
       refine tr hK (fun hHeld=> ?_)
       clear hK K)
      refine tc 5 fun K hK=> ?_
      (have z0:(w33.setCell ⟨lb,0,none⟩ (.slice (some ⟨g6,0,none⟩) (m+1) c6)).cell? ⟨bb,0,none⟩=some (.int .i64 (k:Int)):=by rw[cset_far (by simp;omega)];exact y0
       have z1:(w33.setCell ⟨lb,0,none⟩ (.slice (some ⟨g6,0,none⟩) (m+1) c6)).cell? ⟨bb,1,none⟩=some (.pointer (some ⟨cb,0,none⟩)):=by rw[cset_far (by simp;omega)];exact y1
       go_simp
       refine tr hK (fun hHeld=> ?_)
       clear hK K)
      refine wpAnyH_done (by kernel_rfl) ?_ _
      go_wp2_with fail
      exact⟨hKP.keeps _,_,_,_,by rw[rwL];exact hP⟩
theorem bodiesOk_q (a:Option Addr) (n c:Nat) (U:Nat→Int) (b:Bool) (w:World) (h:Flat w a (n*12) U) (hn:n≤1048576) (eb:bodsB n U=b):
 Calls Tryz.prog 10 #[.slice a n c] w fun e w'=>e= .returned (.bool b)∧Below w.heap.size w w':=by
 have hset:=cset_map
 cases b with
 | true=>
   go_enter Tryz.func10,Tryz.ntmps10
   go_wp2_with (go_at_call 18;refine(columnsOf_ok a n c U _ h hn eb).mono ?_;rintro e w1 ⟨cb,S,rfl,hcb,hC,hb1⟩)
   go_ret
   exact⟨rfl,bel_a⟩
 | false=>
   go_enter Tryz.func10,Tryz.ntmps10
   go_wp2_with (go_at_call 18;refine(columnsOf_no a n c U _ h hn eb).mono ?_;rintro e w1 ⟨rfl,hb1⟩)
   go_ret
   exact⟨rfl,bel_a⟩
def sumD (U:Nat→Int) (j:Nat):Nat→Int
 |0=>0
 |k+1=>sumD U j k+U (k*12+j)
structure SumAt (w2 W:World) (ab:Nat) (x y:Int):Prop where
 fr:Fr (fun b=>b=ab) w2 W
 cx:W.cell? ⟨ab,0,none⟩=some (.int .i64 x)
 cy:W.cell? ⟨ab,1,none⟩=some (.int .i64 y)
 fx:W.frozen? ⟨ab,0,none⟩=false
 fy:W.frozen? ⟨ab,1,none⟩=false
theorem SumAt.sm {B ab:Nat} {w2 W W':World} {x y:Int} (h:SumAt w2 W ab x y) (hs:Sm B W W') (hB:w2.heap.size≤B):SumAt w2 W' ab x y:=
 ⟨⟨hs.below.os.trans h.fr.os,hs.below.tape.trans h.fr.tape,hs.below.output.trans h.fr.output,Nat.le_trans h.fr.size hs.size,fun k hk hn=>(hs.below.block k (by omega)).trans (h.fr.block k hk hn),fun k o hk ho=>(hs.below.block k (by have:=(Array.getElem?_eq_some_iff.1 hk).1;omega)).trans (h.fr.kind k o hk ho)⟩,
   hs.cell h.cx,hs.cell h.cy,hs.frozen h.cx h.fx,hs.frozen h.cy h.fy⟩
theorem SumAt.below {ab:Nat} {w2 W W':World} {x y:Int} (h:SumAt w2 W ab x y) (hs:Below W.heap.size W W'):SumAt w2 W' ab x y:=
 h.sm (Sm.of_below hs (Nat.le_refl _)) h.fr.size
theorem SumAt.set {ab:Nat} {w2 W:World} {x y:Int} (h:SumAt w2 W ab x y) (x' y':Int):SumAt w2 ((W.setCell ⟨ab,0,none⟩ (.int .i64 x')).setCell ⟨ab,1,none⟩ (.int .i64 y')) ab x' y':=by
 have hx:=h.cx
 have hy:=h.cy
 have fx:=h.fx
 have fy:=h.fy
 have hset:=cset_map
 exact⟨(h.fr.trans (Fr.setCell (X:=fun b=>b=ab) rfl _)).trans (Fr.setCell (X:=fun b=>b=ab) rfl _),by go_simp,by go_simp,by go_simp,by go_simp⟩
end Go.Proofs.YtpmjnpmnocjjgaaGreatDoor
