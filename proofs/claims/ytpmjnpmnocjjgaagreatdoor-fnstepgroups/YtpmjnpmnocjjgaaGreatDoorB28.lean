/- Texts of a proof. -/
import Derived.Test.YtpmjnpmnocjjgaaGreatDoorB26
import Derived.Deep.RegionHeld3
import Derived.Deep.DeepCutAuto
import Derived.Test.YtpmjnpmnocjjgaaGreatDoorB12
import Derived.Test.YtpmjnpmnocjjgaaGreatDoorB9
import Derived.Test.YtpmjnpmnocjjgaaGreatDoorB6
import Derived.LoopNIn
import Derived.LoopIn
import Derived.OwnWalkIn
set_option maxHeartbeats 16000000
set_option maxRecDepth 20000
namespace Go.Proofs.YtpmjnpmnocjjgaaGreatDoor
open Go.RowKit
set_option linter.unusedVariables false
set_option linter.unusedSimpArgs false
def allQ (G U:Nat→Int) (g:Nat):Nat→Bool
 |0=>true
 |i+1=>allQ G U g i&&(!decide (G i=(g:Int))||decide (7≤U (i*12+11)))
def slV (V:Nat→Int):Nat→Int:=fun i=>if i=7 then 0 else if i=6 then 0 else if i=11 then 8 else V i
def slF (G:Nat→Int) (g:Nat):Nat→(Nat→Int)→Nat→Int:=fun i V=>bif decide (G i=(g:Int)) then slV V else V
def sleepS (G:Nat→Int) (A:Nat→Bool) (n g:Nat) (U:Nat→Int):Nat→Int:=bif A g&&allQ G U g n then mapR (slF G g) U n else U
def sleepN (G:Nat→Int) (A:Nat→Bool) (n:Nat) (U:Nat→Int):Nat→Nat→Int
 |0=>U
 |g+1=>sleepS G A n g (sleepN G A n U g)
theorem mapR_sl {f:Nat→(Nat→Int)→Nat→Int} {U:Nat→Int} {k:Nat} (h:f k (fun j=>U (k*12+j))=slV (fun j=>U (k*12+j))):(fun r=>if r=k*12+7 then 0 else if r=k*12+6 then 0 else if r=k*12+11 then 8 else mapR f U k r)=mapR f U (k+1):=by
 rw[←mapR_set,h]
 funext q
 unfold putRow slV
 by_cases e:k*12≤q∧q<k*12+12
 · rw[if_pos e]
   obtain⟨d,rfl⟩:∃ d,q=k*12+d:=⟨q-k*12,by omega⟩
   rw[Nat.add_sub_cancel_left,mapR_row]
   by_cases e1:d=7
   · rw[if_pos (by omega),if_pos e1]
   · rw[if_neg (by omega),if_neg e1]
     by_cases e2:d=6
     · rw[if_pos (by omega),if_pos e2]
     · rw[if_neg (by omega),if_neg e2]
       by_cases e3:d=11
       · rw[if_pos (by omega),if_pos e3]
       · rw[if_neg (by omega),if_neg e3]
 · rw[if_neg e,if_neg (by omega),if_neg (by omega),if_neg (by omega)]
def slU (b:Bool) (G:Nat→Int) (g:Nat) (U:Nat→Int) (i:Nat):Nat→Int:=bif b then mapR (slF G g) U i else U
theorem l9Sleep_any (a:Option Addr) (n c:Nat) (U:Nat→Int) (ag:Option Addr) (cg:Nat) (G:Nat→Int) (aa:Option Addr) (na ca:Nat) (A:Nat→Bool) (w:World) (h:Flat w a (n*12) U) (hn:n≤1048576) (hna:na≤1048576) (hG2:Flat w ag (n*1) G) (hA3:FlatB w aa na A):
 Calls Tryz.prog 38 #[.slice a n c,.slice ag n cg,.slice aa na ca] w fun e w'=>∃ a1 c1,e= .returned (.slice a1 n c1)∧OutL w w' 35 12 a1 n c1 (sleepN G A n U na):=by
 have hset:=cset_map
 go_enter Tryz.func38,Tryz.ntmps38
 go_upto_region 1 with fail
 go_cut [7] (fun s0 wc=>∃ a1 c1,s0= .slice a1 n c1∧OutL w wc 35 12 a1 n c1 U)
 case first=>
  go_wp2_with (go_at_call 65;refine(l8Copy_any a n c U _ h hn).mono ?_;rintro e w3 ⟨a1,c1,rfl,hO⟩)
  go_meet
  exact⟨_,_,rfl,hO⟩
 case rest=>
 obtain⟨a1,c1,rfl,hO⟩:=hcut
 go_upto_region 3 with fail
 go_loopw [8,9,10,11] (fun s _ _ _ wr=>∃ g:Nat,g≤na∧s= .int .i64 (g:Int)∧OutL w wr 35 12 a1 n c1 (sleepN G A n U g)) (fun s _ _ _ _=>na-(intOf s).toNat)
 case atStart=>exact⟨0,Nat.zero_le _,rfl,hO⟩
 case round=>
  clear hO
  obtain⟨g,hg,rfl,hO⟩:=hrel
  by_cases hlt:g<na
  · have hgn:(g:Int)<(na:Int):=by omega
    obtain⟨b3,o3,e3,hbl3,hc3⟩:=hA3 (by omega)
    have r3:=(hO.bel.cell (p:=⟨b3,o3+g,none⟩) hbl3).trans (hc3 g hlt)
    clear hc3
    subst e3
    obtain⟨aw,haw⟩:∃ z,A g=z:=⟨_,rfl⟩
    rw[haw] at r3
    obtain⟨X,hX⟩:∃ X,sleepN G A n U g=X:=⟨_,rfl⟩
    have HN:Shut (sleepN G A n U (g+1)=sleepS G A n g X):=by show _=_;rw[sleepN,hX]
    rw[hX] at hO
    clear hX
    cases aw with
    | false=>
      have HNO:Shut (sleepN G A n U (g+1)=X):=by show _=_;rw[HN.out];unfold sleepS;rw[haw];rfl
      clear haw
      go_wp2_with fail
      go_roundw
      case rel=>exact⟨g+1,by omega,by go_num,by rw[HNO.out];exact hO⟩
      case measure=>simp[intOf];omega
    | true=>
      have HYE:Shut (sleepN G A n U (g+1)=slU (allQ G X g n) G g X n):=by show _=_;rw[HN.out];unfold sleepS slU;rw[haw];rfl
      clear haw HN
      go_upto_region 8 with fail
      go_loopw [9,10] (fun s9 s10 wq=>∃ i:Nat,i≤n∧s10= .int .i64 (i:Int)∧s9= .bool (allQ G X g i)∧wq=wr) (fun _ s10 _=>n-(intOf s10).toNat)
      case atStart=>exact⟨0,Nat.zero_le _,rfl,rfl,rfl⟩
      case round=>
       obtain⟨i,hi,rfl,rfl,rfl⟩:=hrel
       by_cases hil:i<n
       · have hin:(i:Int)<(n:Int):=by omega
         obtain⟨b2,o2,e2,hbl2,hc2⟩:=(hG2.below hO.bel) (by omega)
         have r2:=hc2 i (by omega)
         clear hc2
         subst e2
         obtain⟨gb,rfl,hg1,hg2⟩:=hO.own.loc (by omega)
         have u11:=hO.own.cellq (q:=i*12+11) (by omega)
         obtain⟨AL,hAL⟩:∃ b,allQ G X g i=b:=⟨_,rfl⟩
         have HQ:Shut (allQ G X g (i+1)=(AL&&(!decide (G i=(g:Int))||decide (7≤X (i*12+11))))):=by show _=_;rw[allQ,hAL]
         rw[hAL]
         clear hAL
         cases AL with
         | false=>
           go_wp2_with fail
           go_roundw
           case rel=>exact⟨i+1,by omega,by go_num,congrArg Value.bool (by rw[HQ.out];rfl),by trivial⟩
           case measure=>simp[intOf];omega
         | true=>
           by_cases e:G i=(g:Int)
           · have e4:(G i !=(g:Int))=false:=by simp[e]
             have e5:(G i==(g:Int))=true:=by simp[e]
             have E:Shut (G i=(g:Int)):=e
             clear e
             by_cases q7:7≤X (i*12+11)
             · go_wp2_with fail
               go_roundw
               case rel=>exact⟨i+1,by omega,by go_num,congrArg Value.bool (by rw[HQ.out,decide_eq_true E.out,decide_eq_true q7];rfl),by trivial⟩
               case measure=>simp[intOf];omega
             · go_wp2_with fail
               go_roundw
               case rel=>exact⟨i+1,by omega,by go_num,congrArg Value.bool (by rw[HQ.out,decide_eq_true E.out,decide_eq_false q7];rfl),by trivial⟩
               case measure=>simp[intOf];omega
           · have e4:(G i !=(g:Int))=true:=by simp[e]
             have e5:(G i==(g:Int))=false:=by simp[e]
             go_wp2_with fail
             go_roundw
             case rel=>exact⟨i+1,by omega,by go_num,congrArg Value.bool (by rw[HQ.out,decide_eq_false e];rfl),by trivial⟩
             case measure=>simp[intOf];omega
       · obtain rfl:i=n:=by omega
         obtain⟨AL,hAL⟩:∃ b,allQ G X g i=b:=⟨_,rfl⟩
         rw[hAL] at HYE
         rw[hAL]
         clear hAL
         go_upto_region 12 with fail
         go_loopw [11] (fun s wq=>∃ k:Nat,k≤i∧s= .int .i64 (k:Int)∧OutL w wq 35 12 a1 i c1 (slU AL G g X k)) (fun s _=>i-(intOf s).toNat)
         case atStart=>exact⟨0,Nat.zero_le _,rfl,by unfold slU;cases AL;exact hO;rw[mapR_0];exact hO⟩
         case round=>
          clear hO
          obtain⟨k,hk,rfl,hO⟩:=hrel
          by_cases hkl:k<i
          · have hkn:(k:Int)<(i:Int):=by omega
            cases AL with
            | false=>
              go_wp2_with fail
              go_roundw
              case rel=>exact⟨k+1,by omega,by go_num,hO⟩
              case measure=>simp[intOf];omega
            | true=>
              obtain⟨b2,o2,e2,hbl2,hc2⟩:=(hG2.below hO.bel) (by omega)
              have r2:=hc2 k (by omega)
              clear hc2
              subst e2
              by_cases e:G k=(g:Int)
              · have e5:(G k==(g:Int))=true:=by simp[e]
                have e6:(G k=(g:Int))=True:=eq_true e
                have HS:Shut ((fun r=>if r=k*12+7 then 0 else if r=k*12+6 then 0 else if r=k*12+11 then 8 else mapR (slF G g) X k r)=mapR (slF G g) X (k+1)):=mapR_sl (by unfold slF;rw[decide_eq_true e];rfl)
                clear e
                obtain⟨gb,rfl,hg1,hg2⟩:=hO.own.loc (by omega)
                have hO':OutL w wr 35 12 (some ⟨gb,0,none⟩) i c1 (mapR (slF G g) X k):=hO
                have uf:=hO'.own.fro
                have u6:=hO'.own.cellq (q:=k*12+6) (by omega)
                have u7:=hO'.own.cellq (q:=k*12+7) (by omega)
                have u11:=hO'.own.cellq (q:=k*12+11) (by omega)
                go_wp2_with fail
                have q1:=((hO'.own.setq (k*12+11) (by omega) 8).setq (k*12+6) (by omega) 0).setq (k*12+7) (by omega) 0
                rw[HS.out] at q1
                have qB:Below w.heap.size w (((wr.setCell ⟨gb,k*12+11,none⟩ (.int .i64 8)).setCell ⟨gb,k*12+6,none⟩ (.int .i64 0)).setCell ⟨gb,k*12+7,none⟩ (.int .i64 0)):=((hO'.bel.setCell hg1 _).setCell hg1 _).setCell hg1 _
                go_roundw
                case rel=>exact⟨k+1,by omega,by go_num,qB,q1⟩
                case measure=>simp[intOf];omega
              · have e5:(G k==(g:Int))=false:=by simp[e]
                have HNO:Shut (mapR (slF G g) X (k+1)=mapR (slF G g) X k):=mapR_same (fun j hj=>by unfold slF;rw[decide_eq_false e];rfl)
                go_wp2_with fail
                go_roundw
                case rel=>exact⟨k+1,by omega,by go_num,by show OutL _ _ _ _ _ _ _ (mapR (slF G g) X (k+1));rw[HNO.out];exact hO⟩
                case measure=>simp[intOf];omega
          · obtain rfl:k=i:=by omega
            go_wp2_with fail
            go_roundw
            case rel=>exact⟨g+1,by omega,by go_num,by rw[HYE.out];exact hO⟩
            case measure=>simp[intOf];omega
  · obtain rfl:g=na:=by omega
    go_wp2_with fail
    go_ret
    exact⟨_,_,rfl,hO⟩
end Go.Proofs.YtpmjnpmnocjjgaaGreatDoor
namespace Go.Proofs.YtpmjnpmnocjjgaaGreatDoor
open Go.RowKit
set_option linter.unusedVariables false
set_option linter.unusedSimpArgs false
theorem keepL {w w':World} {p:Addr} {v:Value} (hb:Below w.heap.size w w') (h:w.cell? p=some v):w'.cell? p=some v:=(hb.cell (cell_lt h)).trans h
theorem kLv1 {cb n k:Nat} {V:Nat→Int} {G:Nat→Nat} {w:World} (h:HAt w cb n k V G) (b:Bool) (e:(!decide (V 8=0)&& !decide (V 11=8))=b):
 Calls Tryz.prog 150 #[hdk cb k] w fun e w'=>e= .returned (.bool b)∧Below w.heap.size w w':=by
 have hset:=cset_map
 have hE:Below w.heap.size w (w.alloc (.cells #[.int .i64 (k:Int),.pointer (some ⟨cb,0,none⟩)] 76)):=(Below.refl _ _).alloc (Nat.le_refl _) _
 have h':=h.below hE
 have x0:(w.alloc (.cells #[.int .i64 (k:Int),.pointer (some ⟨cb,0,none⟩)] 76)).cell? ⟨w.heap.size,0,none⟩=some (.int .i64 (k:Int)):=by go_simp
 have x1:(w.alloc (.cells #[.int .i64 (k:Int),.pointer (some ⟨cb,0,none⟩)] 76)).cell? ⟨w.heap.size,1,none⟩=some (.pointer (some ⟨cb,0,none⟩)):=by go_simp
 subst e
 cases h8:decide (V 8=0) with
 | true=>
   go_enter Tryz.func150,Tryz.ntmps150
   go_wp2_with (go_at_call 44;refine(kFixed h').mono ?_;rw[h8];rintro e w1 ⟨rfl,hb1⟩)
   go_ret
   exact⟨rfl,hE.trans (hb1.mono hE.size)⟩
 | false=>
   go_enter Tryz.func150,Tryz.ntmps150
   go_wp2_with (first
    |(have _:=hb1;go_at_call 46;refine(kSleeps (h'.below hb1)).mono ?_;rintro e w2 ⟨rfl,hb2⟩)
    |(go_at_call 44;refine(kFixed h').mono ?_;rw[h8];rintro e w1 ⟨rfl,hb1⟩;have y0:=keepL hb1 x0;have y1:=keepL hb1 x1))
   go_ret
   exact⟨rfl,(hE.trans (hb1.mono hE.size)).trans (hb2.mono (hE.trans (hb1.mono hE.size)).size)⟩
theorem opIn_w {P:Program} {Q:Exit→Act→World→Prop} {l0:Nat} {o:Oper} {a:Act} {w:World} {rest:List Oper} {ops:Array Oper} (hw:Region.wanted o (yielded ops a.tmps)=true) (hd:∀ c,o.op≠ .defer c)
 (h:∀ K,(∀ a w,wpListIn (Fence.wide.inRound l0) 0 P ops Q rest a w→K a w)→o.wp P a w K Q):wpListIn (Fence.wide.inRound l0) 0 P ops Q (o::rest) a w:=by
 unfold wpListIn
 rw[if_pos hw]
 exact opIn_of hd (h _ (fun _ _ h=>h))
theorem opIn_s {P:Program} {Q:Exit→Act→World→Prop} {l0:Nat} {o:Oper} {a:Act} {w:World} {rest:List Oper} {ops:Array Oper} (hw:Region.wanted o (yielded ops a.tmps)=false)
 (h:wpListIn (Fence.wide.inRound l0) 0 P ops Q rest (a.put o.dst undef) w):wpListIn (Fence.wide.inRound l0) 0 P ops Q (o::rest) a w:=by
 unfold wpListIn
 rw[if_neg (by rw[hw];decide)]
 exact⟨fun _ _=>trivial,h⟩
theorem opIn_y1 {P:Program} {Q:Exit→Act→World→Prop} {l0 l:Nat} {o:Oper} {a:Act} {w:World} {rest:List Oper} {ops:Array Oper} {x p:Operand} {ts:Array TypeId} {vp:Value} {R:Ending→World→Prop}
 (hw:Region.wanted o (yielded ops a.tmps)=true) (ho:o.op= .call {callee:= .value x,args:= #[p],argTypes:=ts}) (hx:a.eval x= .func (.yield l) #[] #[]) (hp:a.eval p=vp)
 (hY:YieldAt Fence.wide 0 P l #[vp] w R) (hK:∀ e w',R e w'→∃ v,e= .returned v∧wpListIn (Fence.wide.inRound l0) 0 P ops Q rest (a.put o.dst v) w'):wpListIn (Fence.wide.inRound l0) 0 P ops Q (o::rest) a w:=by
 obtain⟨fn,tmps,assign,body,hy,hR⟩:=hY
 obtain⟨dst,op,ty,pos,after,guard⟩:=o
 simp only at ho
 subst ho
 unfold wpListIn
 rw[if_pos hw]
 unfold Oper.wpIn
 refine⟨fun _ _=>trivial,?_⟩
 rw[Oper.semAt_eq _ _ _ (by intro c e;cases e)]
 have e:(execOp a.eval {dst:=dst,op:= .call {callee:= .value x,args:= #[p],argTypes:=ts},type:=ty,pos:=pos,after:=after,guard:=guard}).run P w= .ok (.round l fn tmps assign body) w:=by
  have hm:(#[p]:Array Operand).map a.eval= #[vp]:=by simp[hp]
  simp only[execOp,resolve,hx,hm]
  simp[go_sem,invoke,hy]
 rw[e,Oper.uponIn_round]
 refine⟨(fun e=>by cases e),hR.mono ?_⟩
 intro e w' h
 obtain⟨v,rfl,h2⟩:=hK e w' h
 exact h2
def ColM (mb cb n:Nat) (U:Nat→Int) (A:World):Prop:=A.cell? ⟨mb,0,none⟩=some (.pointer (some ⟨cb,0,none⟩))∧∃ S,Cs A cb n (colOf U) S
theorem live_enters:∀ args w,(callFunc 133 args).run Tryz.prog w= .ok (.enter 133 args) w:=enters_of Tryz.func133 (by kernel_rfl) rfl
section
attribute [local go_sem] Oper.semAt_some
theorem live_it (mb cb n:Nat) (w:World) (hn:n≤12):ItV Tryz.prog 133 #[.pointer (some ⟨mb,0,none⟩)] (fun k=> #[hdk cb k]) (ColM mb cb n) n w:=by
 intro l J U0 W hbW hJ hc hskip hY h0
 have hset:=cset_map
 refine callsIn_wide.2 (calls_of_wp_marks Tryz.func133 rfl ?_)
 simp only[Tryz.ntmps133,List.size_toArray,List.length_cons,List.length_nil,Nat.reduceAdd,Nat.reduceSub,Array.replicate_succ,Array.replicate_zero,List.push_toArray,List.append_toArray,List.nil_append,List.cons_append]
 obtain⟨m0,S0,hC0⟩:=hc _ _ _ h0
 have hE0:Below W.heap.size W (W.alloc (Obj.cells #[.func (.yield l) #[] #[]] 114)):=(Below.refl _ _).alloc (Nat.le_refl _) _
 have y0:(W.alloc (Obj.cells #[.func (.yield l) #[] #[]] 114)).cell? ⟨W.heap.size,0,none⟩=some (.func (.yield l) #[] #[]):=by go_simp
 have hJ0:=hJ _ _ _ _ h0 (Sm.of_below hE0 (Nat.le_refl _))
 have hC1:=hC0.below hE0
 have m1:=keepL hE0 m0
 go_upto_region 1 with fail
 have hyl:W.heap.size<(W.alloc (Obj.cells #[.func (.yield l) #[] #[]] 114)).heap.size:=by simp
 generalize (W.alloc (Obj.cells #[.func (.yield l) #[] #[]] 114))=w2 at hE0 y0 hJ0 hC1 m1 hyl ⊢
 obtain⟨ad,cc,hS0⟩:=(hC1.own 0 (by omega)).is
 have hd0:=hC1.hd 0 (by omega)
 rw[hS0] at hd0
 have hz:=hE0.size
 generalize W.heap.size=yb at*
 go_wp2
 refine wp_range_out (gf:=41) (bound:= #[.pointer (some ⟨cb,0,none⟩)]) rfl each_enters (each_it cb n cc ad w2 hC1.lt hd0 (by omega)) (fun _=>rfl) (fun k A=>(∃ U,J k U A)∧A.cell? ⟨yb,0,none⟩=some (.func (.yield l) #[] #[])∧w2.heap.size≤A.heap.size) (fun _ _=>False) ?_ (fun _ _ _ h _=>h) ⟨⟨_,hJ0⟩,y0,Nat.le_refl _⟩ ?round ?done (fun _ _ _ _ h _=>h.elim)
 · rintro i A A' ⟨⟨U,h1⟩,h2,h3⟩ hs
   exact⟨⟨U,hJ _ _ _ _ h1 ⟨hs.below.mono hz,hs.cells⟩⟩,hs.cell h2,Nat.le_trans h3 hs.size⟩
 case done=>
  rintro D A hD ⟨⟨U,h1⟩,h2,h3⟩ hK
  go_wp2
  refine marks_ret (B:=yb) (by omega) rfl hK fun A' hS=>⟨_,results_none rfl _ _ _,⟨_,rfl⟩,U,?_⟩
  exact hJ _ _ _ _ h1 hS
 case round=>
  rintro l0 k A hl0 ⟨⟨U,hJk⟩,hyb,hA2⟩ hk
  clear hJ0 hC1 hC0 m0 m1 h0 y0 hd0 hS0 hE0
  simp only[List.zip_toArray,List.zip_cons_cons,List.zip_nil_left,List.foldl_toArray,List.foldl_cons,List.foldl_nil,List.setIfInBounds_toArray,List.set_cons_succ,List.set_cons_zero]
  refine wpIn_region_plain (by rintro⟨_,_,h⟩;exact h) (by kernel_rfl) ?_
  go_wp2
  refine⟨(KeepsOthers.alloc _ _).from _,fun A2 hS hr=> ?_⟩
  clear hr
  have hE1:Below A.heap.size A (A.alloc (Obj.cells #[.int .i64 (k:Int),.pointer (some ⟨cb,0,none⟩)] 76)):=(Below.refl _ _).alloc (Nat.le_refl _) _
  have v0:(A.alloc (Obj.cells #[.int .i64 (k:Int),.pointer (some ⟨cb,0,none⟩)] 76)).cell? ⟨A.heap.size,0,none⟩=some (.int .i64 (k:Int)):=by go_simp
  have v1:(A.alloc (Obj.cells #[.int .i64 (k:Int),.pointer (some ⟨cb,0,none⟩)] 76)).cell? ⟨A.heap.size,1,none⟩=some (.pointer (some ⟨cb,0,none⟩)):=by go_simp
  generalize (A.alloc (Obj.cells #[.int .i64 (k:Int),.pointer (some ⟨cb,0,none⟩)] 76))=A1 at hE1 v0 v1 hS
  have hz2:w2.heap.size≤A2.heap.size:=Nat.le_trans hA2 (Nat.le_trans hE1.size hS.size)
  have hJ2:=hJ _ _ _ _ (hJ _ _ _ _ hJk ((Sm.of_below hE1 (by omega)))) ⟨hS.below.mono hz,hS.cells⟩
  have hyb2:=hS.cell (keepL hE1 hyb)
  replace v0:=hS.cell v0
  replace v1:=hS.cell v1
  clear hJk hyb hS hE1
  generalize A.heap.size=ba at v0 v1 ⊢
  have hbal:ba<A2.heap.size:=cell_lt (a:=⟨ba,0,none⟩) v0
  obtain⟨-,S2,hC2⟩:=hc _ _ _ hJ2
  have hat:=hC2.hat hk (by omega)
  obtain⟨lb,hlb⟩:∃ b,lvK U k=b:=⟨_,rfl⟩
  have hlb2:(!decide (colOf U 8 k=0)&& !decide (colOf U 11 k=8))=lb:=hlb
  refine wpIn_block ?_
  refine wpIn_seq_k fun K1 hK1=> ?_
  refine wpIn_region_list ?_
  refine opIn_w rfl (fun c e=>by cases e) fun K hK=> ?_
  go_simp
  refine hK _ _ ?_
  clear hK K
  refine opIn_w rfl (fun c e=>by cases e) fun K hK=> ?_
  go_simp
  (go_at_call 150;refine(kLv1 hat lb hlb2).mono ?_;rintro e w3 ⟨rfl,hb3⟩)
  refine hK _ _ ?_
  clear hK K
  refine opIn_w rfl (fun c e=>by cases e) fun K hK=> ?_
  go_simp
  refine hK _ _ ?_
  clear hK K
  have u0:=keepL hb3 v0
  have u1:=keepL hb3 v1
  have hyb3:=keepL hb3 hyb2
  have hJ3:=hJ _ _ _ _ hJ2 (Sm.of_below hb3 (by omega))
  have hz3:=hb3.size
  cases lb with
  | true=>
    have hyy:=hY _ _ _ hJ3 hk hlb
    refine opIn_w rfl (fun c e=>by cases e) fun K hK=> ?_
    go_simp
    refine hK _ _ ?_
    clear hK K
    refine opIn_w rfl (fun c e=>by cases e) fun K hK=> ?_
    go_simp
    refine hK _ _ ?_
    clear hK K
    refine opIn_y1 rfl rfl rfl rfl hyy ?_
    rintro e X3 ⟨rfl,⟨U',hJ4⟩,hKF⟩
    refine⟨_,rfl,?_⟩
    refine opIn_w rfl (fun c e=>by cases e) fun K hK=> ?_
    go_simp
    refine hK _ _ ?_
    clear hK K
    refine opIn_w rfl (fun c e=>by cases e) fun K hK=> ?_
    go_simp
    refine hK _ _ ?_
    clear hK K
    refine wpListIn_nil ?_
    refine hK1 _ _ ?_
    refine wpIn_cond_false rfl ?_
    refine wpIn_skip ?_
    have hk4:=hKF.others.size
    exact⟨(KeepsFrom.of_below hb3).trans ⟨hk4,fun q o hq h1 h2=>hKF.others.same q o (by omega) h1 h2⟩,⟨U',hJ4⟩,hKF.cell hyb3 (Nat.le_refl _) trivial,by omega⟩
  | false=>
    refine opIn_s rfl ?_
    refine opIn_s rfl ?_
    refine opIn_s rfl ?_
    refine opIn_s rfl ?_
    refine opIn_w rfl (fun c e=>by cases e) fun K hK=> ?_
    go_simp
    refine hK _ _ ?_
    clear hK K
    refine wpListIn_nil ?_
    refine hK1 _ _ ?_
    refine wpIn_cond_false rfl ?_
    refine wpIn_skip ?_
    exact⟨KeepsFrom.of_below hb3,⟨U,hskip _ _ _ hJ3 hk hlb⟩,hyb3,by omega⟩
end
end Go.Proofs.YtpmjnpmnocjjgaaGreatDoor
