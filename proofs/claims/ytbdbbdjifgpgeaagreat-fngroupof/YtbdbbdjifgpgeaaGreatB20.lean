/- Texts of a proof. -/
import Derived.Test.YtbdbbdjifgpgeaaGreatB18
import Derived.Test.YtbdbbdjifgpgeaaGreatCsOf
import Derived.Test.YtbdbbdjifgpgeaaGreatB19
import Derived.Deep.RegionHeld3
import Derived.Deep.DeepCutAuto
import Derived.Test.YtbdbbdjifgpgeaaGreatB15
import Derived.Deep.AppendLies
import Derived.Laws.OwnMore
set_option maxHeartbeats 16000000
set_option maxRecDepth 20000
namespace Go.Proofs.YtbdbbdjifgpgeaaGreat
open Go.RowKit
set_option linter.unusedVariables false
set_option linter.unusedSimpArgs false
def mapR (f:Nat→(Nat→Int)→Nat→Int) (U:Nat→Int) (k:Nat):Nat→Int:=fun q=>if q<k*12 then f (q/12) (fun j=>U (q/12*12+j)) (q % 12) else U q
theorem mapR_0 (f:Nat→(Nat→Int)→Nat→Int) (U:Nat→Int):mapR f U 0=U:=by funext q;unfold mapR;rw[if_neg (by omega)]
theorem mapR_row (f:Nat→(Nat→Int)→Nat→Int) (U:Nat→Int) (k j:Nat):mapR f U k (k*12+j)=U (k*12+j):=by unfold mapR;rw[if_neg (by omega)]
theorem mapR_in {f:Nat→(Nat→Int)→Nat→Int} {U:Nat→Int} {k n j:Nat} (h:k<n) (hj:j<12):mapR f U n (k*12+j)=f k (fun j=>U (k*12+j)) j:=by
 unfold mapR
 rw[if_pos (by omega),show (k*12+j)/12=k by omega,show (k*12+j) % 12=j by omega]
theorem mapR_set (f:Nat→(Nat→Int)→Nat→Int) (U:Nat→Int) (k:Nat):putRow (mapR f U k) k (f k (fun j=>U (k*12+j)))=mapR f U (k+1):=by
 funext q
 unfold putRow
 by_cases h:k*12≤q∧q<k*12+12
 · rw[if_pos h]
   obtain⟨d,rfl⟩:∃ d,q=k*12+d:=⟨q-k*12,by omega⟩
   rw[mapR_in (by omega) (by omega),Nat.add_sub_cancel_left]
 · rw[if_neg h]
   unfold mapR
   by_cases l:q<k*12
   · rw[if_pos l,if_pos (by omega)]
   · rw[if_neg l,if_neg (by omega)]
theorem mapR_same {f:Nat→(Nat→Int)→Nat→Int} {U:Nat→Int} {k:Nat} (h:∀ j,j<12→f k (fun j=>U (k*12+j)) j=U (k*12+j)):mapR f U (k+1)=mapR f U k:=by
 rw[←mapR_set]
 funext q
 unfold putRow
 by_cases e:k*12≤q∧q<k*12+12
 · rw[if_pos e]
   obtain⟨d,rfl⟩:∃ d,q=k*12+d:=⟨q-k*12,by omega⟩
   rw[Nat.add_sub_cancel_left,h d (by omega),mapR_row]
 · rw[if_neg e]
theorem mapR_one {f:Nat→(Nat→Int)→Nat→Int} {U:Nat→Int} {k j:Nat} {x:Int} (hj:j<12) (h:∀ i,i<12→f k (fun j=>U (k*12+j)) i=if i=j then x else U (k*12+i)):(fun r=>if r=k*12+j then x else mapR f U k r)=mapR f U (k+1):=by
 rw[←mapR_set]
 funext q
 unfold putRow
 by_cases e:k*12≤q∧q<k*12+12
 · rw[if_pos e]
   obtain⟨d,rfl⟩:∃ d,q=k*12+d:=⟨q-k*12,by omega⟩
   rw[Nat.add_sub_cancel_left,h d (by omega),mapR_row]
   by_cases e2:d=j
   · rw[if_pos e2,if_pos (by omega)]
   · rw[if_neg e2,if_neg (by omega)]
 · rw[if_neg e,if_neg (by omega)]
theorem bodyB_cong {V W:Nat→Int} (h:∀ j,j<12→V j=W j):bodyB V=bodyB W:=by
 unfold bodyB restB
 simp only[h 0 (by omega),h 1 (by omega),h 2 (by omega),h 3 (by omega),h 4 (by omega),h 5 (by omega),h 6 (by omega),h 7 (by omega),h 8 (by omega),h 9 (by omega),h 10 (by omega),h 11 (by omega)]
structure Bods (n:Nat) (U:Nat→Int):Prop where
 le:n≤12
 ok:∀ k,k<n→bodyB (fun j=>U (k*12+j))=true
 asc:∀ k,k+1<n→U (k*12)<U ((k+1)*12)
theorem Bods.of {n:Nat} {U:Nat→Int} (h:bodsB n U=true):Bods n U:=by
 unfold bodsB at h
 rw[Bool.and_eq_true] at h
 have key:∀ m,allBB U m=true→∀ k,k<m→stepBB U k=true:=by
  intro m
  induction m with
  |zero=>intro _ k l;omega
  | succ m ih=>
    intro hm k l
    unfold allBB at hm
    rw[Bool.and_eq_true] at hm
    by_cases e:k=m
    · subst e;exact hm.2
    · exact ih hm.1 k (by omega)
 refine⟨of_decide_eq_true h.1,fun k hk=> ?_,fun k hk=> ?_⟩
 · have:=key n h.2 k hk
   unfold stepBB at this
   rw[Bool.and_eq_true] at this
   exact this.1
 · have:=key n h.2 (k+1) hk
   unfold stepBB at this
   simp at this
   exact this.2
theorem Bods.to {n:Nat} {U:Nat→Int} (h:Bods n U):bodsB n U=true:=by
 have key:∀ m,m≤n→allBB U m=true:=by
  intro m
  induction m with
  |zero=>intro _;rfl
  | succ m ih=>
    intro hm
    unfold allBB
    rw[ih (by omega),Bool.true_and]
    unfold stepBB
    rw[h.ok m (by omega),Bool.true_and]
    by_cases e:m=0
    · simp[e]
    · obtain⟨k,rfl⟩:∃ k,m=k+1:=⟨m-1,by omega⟩
      have:=h.asc k (by omega)
      simp
      exact this
 unfold bodsB
 rw[key n (Nat.le_refl _),decide_eq_true h.le]
 rfl
theorem Bods.map {n:Nat} {U:Nat→Int} {f:Nat→(Nat→Int)→Nat→Int} (h:Bods n U) (hf:∀ k,k<n→bodyB (f k (fun j=>U (k*12+j)))=true) (h0:∀ k,k<n→f k (fun j=>U (k*12+j)) 0=U (k*12)):Bods n (mapR f U n):=by
 refine⟨h.le,fun k hk=> ?_,fun k hk=> ?_⟩
 · rw[bodyB_cong (W:=f k (fun j=>U (k*12+j))) (fun j hj=>mapR_in hk hj)];exact hf k hk
 · have e1:=mapR_in (f:=f) (U:=U) (k:=k) (n:=n) (j:=0) (by omega) (by omega)
   have e2:=mapR_in (f:=f) (U:=U) (k:=k+1) (n:=n) (j:=0) hk (by omega)
   rw[Nat.add_zero] at e1 e2
   rw[e1,e2,h0 k (by omega),h0 (k+1) hk]
   exact h.asc k hk
def liveV (V:Nat→Int):Bool:=decide (0<V 8)&& !decide (8≤V 11)
def pullV (g:Int) (V:Nat→Int):Nat→Int:=bif liveV V then setV V 7 (clampZ 20000000 (V 7-g*V 8)) else V
theorem live_t {V:Nat→Int} (h1:0<V 8) (h2:decide (8≤V 11)=false):liveV V=true:=by unfold liveV;rw[h2];simp[h1]
theorem live_m {V:Nat→Int} (h1:¬ 0<V 8):liveV V=false:=by unfold liveV;simp[h1]
theorem live_s {V:Nat→Int} (h2:decide (8≤V 11)=true):liveV V=false:=by unfold liveV;rw[h2];simp
theorem l9Pull_any (a:Option Addr) (n c:Nat) (U:Nat→Int) (gg:Int) (w:World) (h:Flat w a (n*12) U) (hn:n≤1048576) (hg0:0≤gg∧gg≤2560) (hbb:Bods n U):
 Calls Tryz.prog 78 #[.slice a n c,.int .i64 gg] w fun e w'=>∃ a1 c1,e= .returned (.slice a1 n c1)∧OutL w w' 36 12 a1 n c1 (mapR (fun _ V=>pullV gg V) U n):=by
 have hset:=cset_map
 go_enter Tryz.func78,Tryz.ntmps78
 go_upto_region 1 with fail
 go_cut [5] (fun s0 wc=>∃ a1 c1,s0= .slice a1 n c1∧OutL w wc 36 12 a1 n c1 U)
 case first=>
  go_wp2_with (go_at_call 94;refine(l8Copy_any a n c U _ h hn).mono ?_;rintro e w3 ⟨a1,c1,rfl,hO⟩)
  go_meet
  exact⟨_,_,rfl,hO⟩
 case rest=>
 obtain⟨a1,c1,rfl,hO⟩:=hcut
 go_upto_region 3 with fail
 go_loopw [6,7] (fun s _ wr=>∃ k:Nat,k≤n∧s= .int .i64 (k:Int)∧OutL w wr 36 12 a1 n c1 (mapR (fun _ V=>pullV gg V) U k)) (fun s _ _=>n-(intOf s).toNat)
 case atStart=>exact⟨0,Nat.zero_le _,rfl,by rw[mapR_0];exact hO⟩
 case round=>
  clear hO
  obtain⟨k,hk,rfl,hO⟩:=hrel
  by_cases hlt:k<n
  · have hkn:(k:Int)<(n:Int):=by omega
    obtain⟨g,rfl,hg1,hg2⟩:=hO.own.loc (by omega)
    have d0:wr.cell? ⟨g,k*12,none⟩=some (.int .i64 (U (k*12))):=by have q:=hO.own.cellq (q:=k*12+0) (by omega);rw[mapR_row] at q;exact q
    have d1:wr.cell? ⟨g,k*12+1,none⟩=some (.int .i64 (U (k*12+1))):=by have q:=hO.own.cellq (q:=k*12+1) (by omega);rw[mapR_row] at q;exact q
    have d2:wr.cell? ⟨g,k*12+2,none⟩=some (.int .i64 (U (k*12+2))):=by have q:=hO.own.cellq (q:=k*12+2) (by omega);rw[mapR_row] at q;exact q
    have d3:wr.cell? ⟨g,k*12+3,none⟩=some (.int .i64 (U (k*12+3))):=by have q:=hO.own.cellq (q:=k*12+3) (by omega);rw[mapR_row] at q;exact q
    have d4:wr.cell? ⟨g,k*12+4,none⟩=some (.int .i64 (U (k*12+4))):=by have q:=hO.own.cellq (q:=k*12+4) (by omega);rw[mapR_row] at q;exact q
    have d5:wr.cell? ⟨g,k*12+5,none⟩=some (.int .i64 (U (k*12+5))):=by have q:=hO.own.cellq (q:=k*12+5) (by omega);rw[mapR_row] at q;exact q
    have d6:wr.cell? ⟨g,k*12+6,none⟩=some (.int .i64 (U (k*12+6))):=by have q:=hO.own.cellq (q:=k*12+6) (by omega);rw[mapR_row] at q;exact q
    have d7:wr.cell? ⟨g,k*12+7,none⟩=some (.int .i64 (U (k*12+7))):=by have q:=hO.own.cellq (q:=k*12+7) (by omega);rw[mapR_row] at q;exact q
    have d8:wr.cell? ⟨g,k*12+8,none⟩=some (.int .i64 (U (k*12+8))):=by have q:=hO.own.cellq (q:=k*12+8) (by omega);rw[mapR_row] at q;exact q
    have d9:wr.cell? ⟨g,k*12+9,none⟩=some (.int .i64 (U (k*12+9))):=by have q:=hO.own.cellq (q:=k*12+9) (by omega);rw[mapR_row] at q;exact q
    have d10:wr.cell? ⟨g,k*12+10,none⟩=some (.int .i64 (U (k*12+10))):=by have q:=hO.own.cellq (q:=k*12+10) (by omega);rw[mapR_row] at q;exact q
    have d11:wr.cell? ⟨g,k*12+11,none⟩=some (.int .i64 (U (k*12+11))):=by have q:=hO.own.cellq (q:=k*12+11) (by omega);rw[mapR_row] at q;exact q
    have df:=hO.own.fro
    have bd:=bodyB_bd (hbb.ok k hlt)
    obtain⟨⟨m0,m1⟩,_,_,_,_,⟨e0,e1⟩,_⟩:=bd
    (try simp only at m0 m1 e0 e1)
    obtain⟨SL,hSL⟩:∃ b,decide (8≤(fun j=>U (k*12+j)) 11)=b:=⟨_,rfl⟩
    by_cases hm:0<U (k*12+8)
    · cases SL with
      | true=>
        have HNO:Shut (mapR (fun _ V=>pullV gg V) U (k+1)=mapR (fun _ V=>pullV gg V) U k):=mapR_same (fun j hj=>by show pullV gg (fun j=>U (k*12+j)) j=_;unfold pullV;rw[live_s hSL];rfl)
        have hE:Below wr.heap.size wr (wr.alloc (Obj.cells #[.int .i64 (U (k*12)),.int .i64 (U (k*12+1)),.int .i64 (U (k*12+2)),.int .i64 (U (k*12+3)),.int .i64 (U (k*12+4)),.int .i64 (U (k*12+5)),.int .i64 (U (k*12+6)),.int .i64 (U (k*12+7)),.int .i64 (U (k*12+8)),.int .i64 (U (k*12+9)),.int .i64 (U (k*12+10)),.int .i64 (U (k*12+11))] 36)):=(Below.refl _ _).alloc (Nat.le_refl _) _
        go_wp2_with (go_at_call 93;refine(l6Sleeps_k (fun j=>U (k*12+j)) _ true hSL).mono ?_;rintro e w5 ⟨rfl,hb5⟩)
        go_roundw
        case rel=>exact⟨k+1,by omega,by go_num,by rw[HNO.out];exact(hO.on hE).on hb5⟩
        case measure=>simp[intOf];omega
      | false=>
        have hlv:liveV (fun j=>U (k*12+j))=true:=live_t (V:=(fun j=>U (k*12+j))) hm hSL
        obtain⟨pm,hpm⟩:∃ pm,gg*U (k*12+8)=pm:=⟨_,rfl⟩
        have hpb:=mul_bd (a:=gg) (b:=U (k*12+8)) (A:=2560) (B:=1000) (by omega) (by omega)
        rw[hpm] at hpb
        obtain⟨y,hy⟩:∃ y,clampZ 20000000 (U (k*12+7)-pm)=y:=⟨_,rfl⟩
        have hw1:IntKind.i64.wrap pm=pm:=i64w (by omega)
        have hw2:IntKind.i64.wrap (U (k*12+7)-pm)=U (k*12+7)-pm:=i64w (by omega)
        have HS:Shut (putRow (mapR (fun _ V=>pullV gg V) U k) k (fun j=>if j=7 then y else U (k*12+j))=mapR (fun _ V=>pullV gg V) U (k+1)):=by
         show _=_
         rw[←mapR_set]
         congr 1
         funext j
         show _=pullV gg (fun j=>U (k*12+j)) j
         unfold pullV
         rw[hlv]
         show _=setV (fun j=>U (k*12+j)) 7 (clampZ 20000000 (U (k*12+7)-gg*U (k*12+8))) j
         rw[hpm,hy]
         rfl
        clear hlv
        have hE:Below wr.heap.size wr (wr.alloc (Obj.cells #[.int .i64 (U (k*12)),.int .i64 (U (k*12+1)),.int .i64 (U (k*12+2)),.int .i64 (U (k*12+3)),.int .i64 (U (k*12+4)),.int .i64 (U (k*12+5)),.int .i64 (U (k*12+6)),.int .i64 (U (k*12+7)),.int .i64 (U (k*12+8)),.int .i64 (U (k*12+9)),.int .i64 (U (k*12+10)),.int .i64 (U (k*12+11))] 36)):=(Below.refl _ _).alloc (Nat.le_refl _) _
        have hO2:=hO.on hE
        have hz2:wr.heap.size<(wr.alloc (Obj.cells #[.int .i64 (U (k*12)),.int .i64 (U (k*12+1)),.int .i64 (U (k*12+2)),.int .i64 (U (k*12+3)),.int .i64 (U (k*12+4)),.int .i64 (U (k*12+5)),.int .i64 (U (k*12+6)),.int .i64 (U (k*12+7)),.int .i64 (U (k*12+8)),.int .i64 (U (k*12+9)),.int .i64 (U (k*12+10)),.int .i64 (U (k*12+11))] 36)).heap.size:=by simp
        have x0:(wr.alloc (Obj.cells #[.int .i64 (U (k*12)),.int .i64 (U (k*12+1)),.int .i64 (U (k*12+2)),.int .i64 (U (k*12+3)),.int .i64 (U (k*12+4)),.int .i64 (U (k*12+5)),.int .i64 (U (k*12+6)),.int .i64 (U (k*12+7)),.int .i64 (U (k*12+8)),.int .i64 (U (k*12+9)),.int .i64 (U (k*12+10)),.int .i64 (U (k*12+11))] 36)).cell? ⟨wr.heap.size,0,none⟩=some (.int .i64 (U (k*12))):=by go_simp
        have x1:(wr.alloc (Obj.cells #[.int .i64 (U (k*12)),.int .i64 (U (k*12+1)),.int .i64 (U (k*12+2)),.int .i64 (U (k*12+3)),.int .i64 (U (k*12+4)),.int .i64 (U (k*12+5)),.int .i64 (U (k*12+6)),.int .i64 (U (k*12+7)),.int .i64 (U (k*12+8)),.int .i64 (U (k*12+9)),.int .i64 (U (k*12+10)),.int .i64 (U (k*12+11))] 36)).cell? ⟨wr.heap.size,1,none⟩=some (.int .i64 (U (k*12+1))):=by go_simp
        have x2:(wr.alloc (Obj.cells #[.int .i64 (U (k*12)),.int .i64 (U (k*12+1)),.int .i64 (U (k*12+2)),.int .i64 (U (k*12+3)),.int .i64 (U (k*12+4)),.int .i64 (U (k*12+5)),.int .i64 (U (k*12+6)),.int .i64 (U (k*12+7)),.int .i64 (U (k*12+8)),.int .i64 (U (k*12+9)),.int .i64 (U (k*12+10)),.int .i64 (U (k*12+11))] 36)).cell? ⟨wr.heap.size,2,none⟩=some (.int .i64 (U (k*12+2))):=by go_simp
        have x3:(wr.alloc (Obj.cells #[.int .i64 (U (k*12)),.int .i64 (U (k*12+1)),.int .i64 (U (k*12+2)),.int .i64 (U (k*12+3)),.int .i64 (U (k*12+4)),.int .i64 (U (k*12+5)),.int .i64 (U (k*12+6)),.int .i64 (U (k*12+7)),.int .i64 (U (k*12+8)),.int .i64 (U (k*12+9)),.int .i64 (U (k*12+10)),.int .i64 (U (k*12+11))] 36)).cell? ⟨wr.heap.size,3,none⟩=some (.int .i64 (U (k*12+3))):=by go_simp
        have x4:(wr.alloc (Obj.cells #[.int .i64 (U (k*12)),.int .i64 (U (k*12+1)),.int .i64 (U (k*12+2)),.int .i64 (U (k*12+3)),.int .i64 (U (k*12+4)),.int .i64 (U (k*12+5)),.int .i64 (U (k*12+6)),.int .i64 (U (k*12+7)),.int .i64 (U (k*12+8)),.int .i64 (U (k*12+9)),.int .i64 (U (k*12+10)),.int .i64 (U (k*12+11))] 36)).cell? ⟨wr.heap.size,4,none⟩=some (.int .i64 (U (k*12+4))):=by go_simp
        have x5:(wr.alloc (Obj.cells #[.int .i64 (U (k*12)),.int .i64 (U (k*12+1)),.int .i64 (U (k*12+2)),.int .i64 (U (k*12+3)),.int .i64 (U (k*12+4)),.int .i64 (U (k*12+5)),.int .i64 (U (k*12+6)),.int .i64 (U (k*12+7)),.int .i64 (U (k*12+8)),.int .i64 (U (k*12+9)),.int .i64 (U (k*12+10)),.int .i64 (U (k*12+11))] 36)).cell? ⟨wr.heap.size,5,none⟩=some (.int .i64 (U (k*12+5))):=by go_simp
        have x6:(wr.alloc (Obj.cells #[.int .i64 (U (k*12)),.int .i64 (U (k*12+1)),.int .i64 (U (k*12+2)),.int .i64 (U (k*12+3)),.int .i64 (U (k*12+4)),.int .i64 (U (k*12+5)),.int .i64 (U (k*12+6)),.int .i64 (U (k*12+7)),.int .i64 (U (k*12+8)),.int .i64 (U (k*12+9)),.int .i64 (U (k*12+10)),.int .i64 (U (k*12+11))] 36)).cell? ⟨wr.heap.size,6,none⟩=some (.int .i64 (U (k*12+6))):=by go_simp
        have x7:(wr.alloc (Obj.cells #[.int .i64 (U (k*12)),.int .i64 (U (k*12+1)),.int .i64 (U (k*12+2)),.int .i64 (U (k*12+3)),.int .i64 (U (k*12+4)),.int .i64 (U (k*12+5)),.int .i64 (U (k*12+6)),.int .i64 (U (k*12+7)),.int .i64 (U (k*12+8)),.int .i64 (U (k*12+9)),.int .i64 (U (k*12+10)),.int .i64 (U (k*12+11))] 36)).cell? ⟨wr.heap.size,7,none⟩=some (.int .i64 (U (k*12+7))):=by go_simp
        have x8:(wr.alloc (Obj.cells #[.int .i64 (U (k*12)),.int .i64 (U (k*12+1)),.int .i64 (U (k*12+2)),.int .i64 (U (k*12+3)),.int .i64 (U (k*12+4)),.int .i64 (U (k*12+5)),.int .i64 (U (k*12+6)),.int .i64 (U (k*12+7)),.int .i64 (U (k*12+8)),.int .i64 (U (k*12+9)),.int .i64 (U (k*12+10)),.int .i64 (U (k*12+11))] 36)).cell? ⟨wr.heap.size,8,none⟩=some (.int .i64 (U (k*12+8))):=by go_simp
        have x9:(wr.alloc (Obj.cells #[.int .i64 (U (k*12)),.int .i64 (U (k*12+1)),.int .i64 (U (k*12+2)),.int .i64 (U (k*12+3)),.int .i64 (U (k*12+4)),.int .i64 (U (k*12+5)),.int .i64 (U (k*12+6)),.int .i64 (U (k*12+7)),.int .i64 (U (k*12+8)),.int .i64 (U (k*12+9)),.int .i64 (U (k*12+10)),.int .i64 (U (k*12+11))] 36)).cell? ⟨wr.heap.size,9,none⟩=some (.int .i64 (U (k*12+9))):=by go_simp
        have x10:(wr.alloc (Obj.cells #[.int .i64 (U (k*12)),.int .i64 (U (k*12+1)),.int .i64 (U (k*12+2)),.int .i64 (U (k*12+3)),.int .i64 (U (k*12+4)),.int .i64 (U (k*12+5)),.int .i64 (U (k*12+6)),.int .i64 (U (k*12+7)),.int .i64 (U (k*12+8)),.int .i64 (U (k*12+9)),.int .i64 (U (k*12+10)),.int .i64 (U (k*12+11))] 36)).cell? ⟨wr.heap.size,10,none⟩=some (.int .i64 (U (k*12+10))):=by go_simp
        have x11:(wr.alloc (Obj.cells #[.int .i64 (U (k*12)),.int .i64 (U (k*12+1)),.int .i64 (U (k*12+2)),.int .i64 (U (k*12+3)),.int .i64 (U (k*12+4)),.int .i64 (U (k*12+5)),.int .i64 (U (k*12+6)),.int .i64 (U (k*12+7)),.int .i64 (U (k*12+8)),.int .i64 (U (k*12+9)),.int .i64 (U (k*12+10)),.int .i64 (U (k*12+11))] 36)).cell? ⟨wr.heap.size,11,none⟩=some (.int .i64 (U (k*12+11))):=by go_simp
        have xf:∀ o,(wr.alloc (Obj.cells #[.int .i64 (U (k*12)),.int .i64 (U (k*12+1)),.int .i64 (U (k*12+2)),.int .i64 (U (k*12+3)),.int .i64 (U (k*12+4)),.int .i64 (U (k*12+5)),.int .i64 (U (k*12+6)),.int .i64 (U (k*12+7)),.int .i64 (U (k*12+8)),.int .i64 (U (k*12+9)),.int .i64 (U (k*12+10)),.int .i64 (U (k*12+11))] 36)).frozen? ⟨wr.heap.size,o,none⟩=false:=fun o=>by go_simp
        go_upto_region 6 with fail
        generalize (wr.alloc (Obj.cells #[.int .i64 (U (k*12)),.int .i64 (U (k*12+1)),.int .i64 (U (k*12+2)),.int .i64 (U (k*12+3)),.int .i64 (U (k*12+4)),.int .i64 (U (k*12+5)),.int .i64 (U (k*12+6)),.int .i64 (U (k*12+7)),.int .i64 (U (k*12+8)),.int .i64 (U (k*12+9)),.int .i64 (U (k*12+10)),.int .i64 (U (k*12+11))] 36))=wx at hE hO2 hz2 x0 x1 x2 x3 x4 x5 x6 x7 x8 x9 x10 x11 xf ⊢
        have hne:¬ wr.heap.size=g:=by omega
        have hne':¬ g=wr.heap.size:=by omega
        have hbw:=hO.bel.size
        generalize wr.heap.size=bp at hz2 x0 x1 x2 x3 x4 x5 x6 x7 x8 x9 x10 x11 xf hne hne' hE hg2 hbw ⊢
        clear hO df d0 d1 d2 d3 d4 d5 d6 d7 d8 d9 d10 d11 hE
        go_upto_region 7 with(go_at_call 93;refine(l6Sleeps_k (fun j=>U (k*12+j)) _ false hSL).mono ?_;rintro e w5 ⟨rfl,hb5⟩)
        have hO5:=hO2.on hb5
        obtain⟨hc5,hf5⟩:=bcell hb5
        have z0:=(hc5 bp 0 hz2).trans x0
        have z1:=(hc5 bp 1 hz2).trans x1
        have z2:=(hc5 bp 2 hz2).trans x2
        have z3:=(hc5 bp 3 hz2).trans x3
        have z4:=(hc5 bp 4 hz2).trans x4
        have z5:=(hc5 bp 5 hz2).trans x5
        have z6:=(hc5 bp 6 hz2).trans x6
        have z7:=(hc5 bp 7 hz2).trans x7
        have z8:=(hc5 bp 8 hz2).trans x8
        have z9:=(hc5 bp 9 hz2).trans x9
        have z10:=(hc5 bp 10 hz2).trans x10
        have z11:=(hc5 bp 11 hz2).trans x11
        have zf:=fun o=>(hf5 bp o hz2).trans (xf o)
        have hz5:bp<w5.heap.size:=Nat.lt_of_lt_of_le hz2 hb5.size
        clear hc5 hf5 x0 x1 x2 x3 x4 x5 x6 x7 x8 x9 x10 x11 xf hb5 hO2
        go_upto_region 8 with(go_at_call 43;refine(l6Within_any _ _ _ (by omega) (by omega)).mono ?_;rintro e w6 ⟨rfl,h6⟩;have h6':=h6.symm;subst h6';clear h6)
        (try rw[hy])
        have hs7:Fr (fun b=>b=bp) w5 (w5.setCell ⟨bp,7,none⟩ (.int .i64 y)):=Fr.setCell (X:=fun b=>b=bp) rfl _
        have hO7:OutL w (w5.setCell ⟨bp,7,none⟩ (.int .i64 y)) 36 12 (some ⟨g,0,none⟩) n c1 (mapR (fun _ V=>pullV gg V) U k):=⟨hO5.bel.setCell (by omega) _,hO5.own.frame hs7 (fun b e x=>by simp[Value.ownBlock] at e;omega)⟩
        have uf:=hO7.own.fro
        have u0:=hO7.own.cellq (q:=k*12) (by omega)
        have u1:=hO7.own.cellq (q:=k*12+1) (by omega)
        have u2:=hO7.own.cellq (q:=k*12+2) (by omega)
        have u3:=hO7.own.cellq (q:=k*12+3) (by omega)
        have u4:=hO7.own.cellq (q:=k*12+4) (by omega)
        have u5:=hO7.own.cellq (q:=k*12+5) (by omega)
        have u6:=hO7.own.cellq (q:=k*12+6) (by omega)
        have u7:=hO7.own.cellq (q:=k*12+7) (by omega)
        have u8:=hO7.own.cellq (q:=k*12+8) (by omega)
        have u9:=hO7.own.cellq (q:=k*12+9) (by omega)
        have u10:=hO7.own.cellq (q:=k*12+10) (by omega)
        have u11:=hO7.own.cellq (q:=k*12+11) (by omega)
        have t0:(w5.setCell ⟨bp,7,none⟩ (.int .i64 y)).cell? ⟨bp,0,none⟩=some (.int .i64 (U (k*12))):=by go_simp
        have t1:(w5.setCell ⟨bp,7,none⟩ (.int .i64 y)).cell? ⟨bp,1,none⟩=some (.int .i64 (U (k*12+1))):=by go_simp
        have t2:(w5.setCell ⟨bp,7,none⟩ (.int .i64 y)).cell? ⟨bp,2,none⟩=some (.int .i64 (U (k*12+2))):=by go_simp
        have t3:(w5.setCell ⟨bp,7,none⟩ (.int .i64 y)).cell? ⟨bp,3,none⟩=some (.int .i64 (U (k*12+3))):=by go_simp
        have t4:(w5.setCell ⟨bp,7,none⟩ (.int .i64 y)).cell? ⟨bp,4,none⟩=some (.int .i64 (U (k*12+4))):=by go_simp
        have t5:(w5.setCell ⟨bp,7,none⟩ (.int .i64 y)).cell? ⟨bp,5,none⟩=some (.int .i64 (U (k*12+5))):=by go_simp
        have t6:(w5.setCell ⟨bp,7,none⟩ (.int .i64 y)).cell? ⟨bp,6,none⟩=some (.int .i64 (U (k*12+6))):=by go_simp
        have t7:(w5.setCell ⟨bp,7,none⟩ (.int .i64 y)).cell? ⟨bp,7,none⟩=some (.int .i64 (y)):=by go_simp
        have t8:(w5.setCell ⟨bp,7,none⟩ (.int .i64 y)).cell? ⟨bp,8,none⟩=some (.int .i64 (U (k*12+8))):=by go_simp
        have t9:(w5.setCell ⟨bp,7,none⟩ (.int .i64 y)).cell? ⟨bp,9,none⟩=some (.int .i64 (U (k*12+9))):=by go_simp
        have t10:(w5.setCell ⟨bp,7,none⟩ (.int .i64 y)).cell? ⟨bp,10,none⟩=some (.int .i64 (U (k*12+10))):=by go_simp
        have t11:(w5.setCell ⟨bp,7,none⟩ (.int .i64 y)).cell? ⟨bp,11,none⟩=some (.int .i64 (U (k*12+11))):=by go_simp
        generalize (w5.setCell ⟨bp,7,none⟩ (.int .i64 y))=w7 at hO7 uf u0 t0 u1 t1 u2 t2 u3 t3 u4 t4 u5 t5 u6 t6 u7 t7 u8 t8 u9 t9 u10 t10 u11 t11 ⊢
        clear z0 z1 z2 z3 z4 z5 z6 z7 z8 z9 z10 z11 zf hO5
        go_wp2_with fail
        have hq:=put12 hO7.own hlt (fun j=>if j=7 then y else U (k*12+j))
        rw[HS.out] at hq
        have hqb:=(putFr (w4:=w7) (g:=g) (p:=k) (fun j=>if j=7 then y else U (k*12+j))).below (B:=w.heap.size) hO7.bel.size (fun b e=>by omega)
        go_roundw
        case rel=>exact⟨k+1,by omega,by go_num,hO7.bel.trans hqb,hq⟩
        case measure=>simp[intOf];omega
    · have HNO:Shut (mapR (fun _ V=>pullV gg V) U (k+1)=mapR (fun _ V=>pullV gg V) U k):=mapR_same (fun j hj=>by show pullV gg (fun j=>U (k*12+j)) j=_;unfold pullV;rw[live_m (V:=(fun j=>U (k*12+j))) hm];rfl)
      have hE:Below wr.heap.size wr (wr.alloc (Obj.cells #[.int .i64 (U (k*12)),.int .i64 (U (k*12+1)),.int .i64 (U (k*12+2)),.int .i64 (U (k*12+3)),.int .i64 (U (k*12+4)),.int .i64 (U (k*12+5)),.int .i64 (U (k*12+6)),.int .i64 (U (k*12+7)),.int .i64 (U (k*12+8)),.int .i64 (U (k*12+9)),.int .i64 (U (k*12+10)),.int .i64 (U (k*12+11))] 36)):=(Below.refl _ _).alloc (Nat.le_refl _) _
      go_wp2_with fail
      go_roundw
      case rel=>exact⟨k+1,by omega,by go_num,by rw[HNO.out];exact hO.on hE⟩
      case measure=>simp[intOf];omega
  · obtain rfl:k=n:=by omega
    go_wp2_with fail
    go_ret
    exact⟨_,_,rfl,hO⟩
structure LV (w wr:World) (t g cap n:Nat) (xs:List Value):Prop where
 bel:Below w.heap.size w wr
 len:xs.length=n
 own:wr.ownsRow w.heap.size t 1 (.slice (some ⟨g,0,none⟩) n cap) n xs
theorem LV.new {w wr:World} (t:Nat) (h:Below w.heap.size w wr) {s:Nat} (e:wr.heap.size=s):LV w (wr.alloc (.cells #[] t)) t s 0 0 []:=by
 subst e
 exact⟨h.alloc h.size _,rfl,⟨rfl,.inr ⟨wr.heap.size,0, #[],rfl,h.size,Go.Deep.blk_alloc_new _ _,Nat.le_refl _,Nat.zero_le _,by simp,by simp⟩⟩⟩
theorem LV.lt {w wr:World} {t g cap n:Nat} {xs:List Value} (h:LV w wr t g cap n xs):w.heap.size≤g∧g<wr.heap.size:=World.ownsRow.lt h.own g rfl
theorem LV.fro {w wr:World} {t g cap n:Nat} {xs:List Value} (h:LV w wr t g cap n xs) (j:Nat):wr.frozen? ⟨g,j,none⟩=false:=World.ownsRow.frozenAt h.own j
theorem LV.cell {w wr:World} {t g cap n:Nat} {xs:List Value} (h:LV w wr t g cap n xs) {j:Nat} {u:Value} (hu:xs[j]? =some u):wr.cell? ⟨g,j,none⟩=some u:=by
 have hj:j<n:=by rw[←h.len];exact(List.getElem?_eq_some_iff.1 hu).1
 rw[World.ownsRow.cellAt h.own j (by omega),hu]
theorem LV.on {w wr w':World} {t g cap n:Nat} {xs:List Value} (h:LV w wr t g cap n xs) (hb:Below wr.heap.size wr w'):LV w w' t g cap n xs:=
 ⟨h.bel.trans (hb.mono h.bel.size),h.len,World.ownsRow.kept h.own (below_grown hb rfl) (.inr (by simp[Value.ownBlock]))⟩
theorem LV.dr {w wr:World} {t g cap n:Nat} {xs:List Value} (h:LV w wr t g cap n xs):LV w wr.drew t g cap n xs:=h.on (Below.drew (Below.refl _ _))
theorem LV.set {w wr:World} {t g cap n:Nat} {xs:List Value} (h:LV w wr t g cap n xs) (j:Nat) (u:Value):LV w (wr.setCell ⟨g,j,none⟩ u) t g cap n (xs.set j u):=
 ⟨h.bel.setCell h.lt.1 _,by rw[List.length_set];exact h.len,(World.ownsRow.stored h.own j u).1⟩
theorem LV.ne {w wr:World} {t g cap n:Nat} {xs:List Value} (h:LV w wr t g cap n xs) {b:Nat} (hb:w.heap.size≤b) (hn:b≠g) (j:Nat) (u:Value):LV w (wr.setCell ⟨b,j,none⟩ u) t g cap n xs:=
 ⟨h.bel.setCell hb _,h.len,World.ownsRow.kept h.own (row:=some b) (by
  have hs:=Fr.setCell (X:=fun k=>k=b) (w:=wr) (p:=⟨b,j,none⟩) rfl u
  exact⟨hs.os,hs.tape,hs.output,hs.size,fun k hk hne=>hs.block k hk (fun e=>hne (by rw[e]))⟩) (.inr (by simp[Value.ownBlock];exact fun e=>hn e.symm))⟩
theorem LV.kept {w wr w':World} {t g cap n row:Nat} {xs:List Value} (h:LV w wr t g cap n xs) (hg:wr.grownBy w' (some row)) (hb:w.heap.size≤row) (hn:row≠g):LV w w' t g cap n xs:=
 ⟨h.bel.grown hg h.bel.size (fun b e=>by cases e;exact hb),h.len,World.ownsRow.kept h.own hg (.inr (by simp[Value.ownBlock];exact fun e=>hn e.symm))⟩
theorem wpList_push {P:Program} {ops:Array Oper} {rest:List Oper} {o:Oper} {a:Act} {Q:Exit→Act→World→Prop} {w wr wx:World} (hgd:o.guard=none) (s x:Operand) (t:TypeId)
 (ho:o.op= .call {callee:= .builtin .append,args:= #[s,x],argTypes:= #[t,t]})
 (e bytes:Nat) (z:Value) (ht:P.underlying t=some (.slice e)) (hinfo:(P.info? e).map (fun i=>(i.zero,i.size,i.bytes))=some (some z,1,bytes)) (hzs:z.cells.size=1) (hby:bytes≤8)
 (g cap n:Nat) (xs:List Value) (hs:a.eval s= .slice (some ⟨g,0,none⟩) n cap) (h:LV w wr e g cap n xs) (hb:Below wr.heap.size wr wx) (b:Nat) (hx:a.eval x= .slice (some ⟨b,0,none⟩) 1 1) (u:Value) (hu:wx.cell? ⟨b,0,none⟩=some u) (h1:u.oneCell'=true)
 (hn:n≤1048576) (hK:∀ g' cap' w',LV w w' e g' cap' (n+1) (xs++[u])→wx.grownBy w' (some g)→(g'=g∨g'=wx.heap.size)→wpList P ops Q rest (a.put o.dst (.slice (some ⟨g',0,none⟩) (n+1) cap')) w'):wpList P ops Q (o::rest) a wx:=by
 obtain⟨i,hi,hzz⟩:=Option.map_eq_some_iff.1 hinfo
 simp only[Prod.mk.injEq] at hzz
 obtain⟨hz,hsz,hb8⟩:=hzz
 have hw:=h.on hb
 refine wpList_append_lies wx hgd s x t ho w.heap.size e i z 1 bytes ht hi hz hsz hb8 hzs (by decide) (.slice (some ⟨g,0,none⟩) n cap) n xs hs hw.own ⟨b,0,none⟩ 1 1 [u] hx rfl ?_ ?_ (by decide) (by unfold maxLen;omega) ?_ hw.bel.size _ rfl ?_
 · intro j v hv
   cases j with
   |zero=>simp at hv;subst hv;exact hu
   |succ j=>simp at hv
 · intro v hv;simp at hv;rw[hv];exact h1
 · have:(n+1)*bytes≤(n+1)*8:=Nat.mul_le_mul_left _ hby
   omega
 · intro g' cap' w' r1 r2 r3 r4
   refine hK g' cap' w' ⟨hw.bel.grown r2 hw.bel.size (fun b e=>by cases e;exact hw.lt.1),by rw[List.length_append,hw.len];rfl,r1⟩ r2 ?_
   rcases r3 with r3|r3
   · simp[Value.ownBlock] at r3;exact .inl r3.symm
   · exact .inr r3
def IV (l:List Int):List Value:=l.map (Value.int .i64)
theorem IV_app (l:List Int) (x:Int):IV l++[.int .i64 x]=IV (l++[x]):=by unfold IV;rw[List.map_append];rfl
theorem IV_set (l:List Int) (j:Nat) (x:Int):(IV l).set j (.int .i64 x)=IV (l.set j x):=by unfold IV;rw[List.map_set]
theorem IV_len (l:List Int):(IV l).length=l.length:=by unfold IV;rw[List.length_map]
theorem IV_get {l:List Int} {j:Nat} (h:j<l.length):(IV l)[j]? =some (.int .i64 (ofL l j)):=by
 unfold IV ofL
 rw[List.getElem?_map,List.getElem?_eq_getElem h,List.getD_eq_getElem?_getD,List.getElem?_eq_getElem h]
 rfl
theorem LV.flat {w wr:World} {t g cap n:Nat} {l:List Int} (h:LV w wr t g cap n (IV l)):Flat wr (some ⟨g,0,none⟩) (n*1) (ofL l):=by
 intro h0
 refine⟨g,0,rfl,h.lt.2,fun j hj=> ?_⟩
 rw[Nat.zero_add]
 have hl:=h.len
 rw[IV_len] at hl
 exact h.cell (IV_get (by omega))
theorem LV.ic {w wr:World} {t g cap n:Nat} {l:List Int} (h:LV w wr t g cap n (IV l)) {j:Nat} (hj:j<n):wr.cell? ⟨g,j,none⟩=some (.int .i64 (ofL l j)):=by
 have hl:=h.len
 rw[IV_len] at hl
 exact h.cell (IV_get (by omega))
abbrev zcInt:Value:= .int .i64 0
theorem infoInt:(Tryz.prog.info? 3).map (fun i=>(i.zero,i.size,i.bytes))=some (some zcInt,1,8):=by kernel_rfl
end Go.Proofs.YtbdbbdjifgpgeaaGreat
