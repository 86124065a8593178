/- Texts of a proof. -/
import Derived.Test.YthajilkjfkppoaaGreatDoorB11
import Derived.Test.YthajilkjfkppoaaGreatDoorB10
import Derived.Test.YthajilkjfkppoaaGreatDoorB14
import Derived.Deep.RegionHeld3
import Derived.Deep.DeepCutAuto
import Derived.Test.YthajilkjfkppoaaGreatDoorB6
import Derived.Test.YthajilkjfkppoaaGreatDoorB15
import Derived.Test.YthajilkjfkppoaaGreatDoorB5
set_option maxHeartbeats 16000000
set_option maxRecDepth 20000
namespace Go.Proofs.YthajilkjfkppoaaGreatDoor
open Go.RowKit
set_option linter.unusedVariables false
set_option linter.unusedSimpArgs false
def mapR (f:Nat→(Nat→Int)→Nat→Int) (U:Nat→Int) (k:Nat):Nat→Int:=fun q=>if q<k*12 then f (q/12) (fun j=>U (q/12*12+j)) (q % 12) else U q
theorem mapR_0 (f:Nat→(Nat→Int)→Nat→Int) (U:Nat→Int):mapR f U 0=U:=by funext q;unfold mapR;rw[if_neg (by omega)]
theorem mapR_row (f:Nat→(Nat→Int)→Nat→Int) (U:Nat→Int) (k j:Nat):mapR f U k (k*12+j)=U (k*12+j):=by unfold mapR;rw[if_neg (by omega)]
theorem mapR_in {f:Nat→(Nat→Int)→Nat→Int} {U:Nat→Int} {k n j:Nat} (h:k<n) (hj:j<12):mapR f U n (k*12+j)=f k (fun j=>U (k*12+j)) j:=by
 unfold mapR
 rw[if_pos (by omega),show (k*12+j)/12=k by omega,show (k*12+j) % 12=j by omega]
theorem mapR_set (f:Nat→(Nat→Int)→Nat→Int) (U:Nat→Int) (k:Nat):putRow (mapR f U k) k (f k (fun j=>U (k*12+j)))=mapR f U (k+1):=by
 funext q
 unfold putRow
 by_cases h:k*12≤q∧q<k*12+12
 · rw[if_pos h]
   obtain⟨d,rfl⟩:∃ d,q=k*12+d:=⟨q-k*12,by omega⟩
   rw[mapR_in (by omega) (by omega),Nat.add_sub_cancel_left]
 · rw[if_neg h]
   unfold mapR
   by_cases l:q<k*12
   · rw[if_pos l,if_pos (by omega)]
   · rw[if_neg l,if_neg (by omega)]
theorem mapR_same {f:Nat→(Nat→Int)→Nat→Int} {U:Nat→Int} {k:Nat} (h:∀ j,j<12→f k (fun j=>U (k*12+j)) j=U (k*12+j)):mapR f U (k+1)=mapR f U k:=by
 rw[←mapR_set]
 funext q
 unfold putRow
 by_cases e:k*12≤q∧q<k*12+12
 · rw[if_pos e]
   obtain⟨d,rfl⟩:∃ d,q=k*12+d:=⟨q-k*12,by omega⟩
   rw[Nat.add_sub_cancel_left,h d (by omega),mapR_row]
 · rw[if_neg e]
theorem mapR_one {f:Nat→(Nat→Int)→Nat→Int} {U:Nat→Int} {k j:Nat} {x:Int} (hj:j<12) (h:∀ i,i<12→f k (fun j=>U (k*12+j)) i=if i=j then x else U (k*12+i)):(fun r=>if r=k*12+j then x else mapR f U k r)=mapR f U (k+1):=by
 rw[←mapR_set]
 funext q
 unfold putRow
 by_cases e:k*12≤q∧q<k*12+12
 · rw[if_pos e]
   obtain⟨d,rfl⟩:∃ d,q=k*12+d:=⟨q-k*12,by omega⟩
   rw[Nat.add_sub_cancel_left,h d (by omega),mapR_row]
   by_cases e2:d=j
   · rw[if_pos e2,if_pos (by omega)]
   · rw[if_neg e2,if_neg (by omega)]
 · rw[if_neg e,if_neg (by omega)]
theorem bodyB_cong {V W:Nat→Int} (h:∀ j,j<12→V j=W j):bodyB V=bodyB W:=by
 unfold bodyB restB
 simp only[h 0 (by omega),h 1 (by omega),h 2 (by omega),h 3 (by omega),h 4 (by omega),h 5 (by omega),h 6 (by omega),h 7 (by omega),h 8 (by omega),h 9 (by omega),h 10 (by omega),h 11 (by omega)]
structure Bods (n:Nat) (U:Nat→Int):Prop where
 le:n≤12
 ok:∀ k,k<n→bodyB (fun j=>U (k*12+j))=true
 asc:∀ k,k+1<n→U (k*12)<U ((k+1)*12)
theorem Bods.of {n:Nat} {U:Nat→Int} (h:bodsB n U=true):Bods n U:=by
 unfold bodsB at h
 rw[Bool.and_eq_true] at h
 have key:∀ m,allBB U m=true→∀ k,k<m→stepBB U k=true:=by
  intro m
  induction m with
  |zero=>intro _ k l;omega
  | succ m ih=>
    intro hm k l
    unfold allBB at hm
    rw[Bool.and_eq_true] at hm
    by_cases e:k=m
    · subst e;exact hm.2
    · exact ih hm.1 k (by omega)
 refine⟨of_decide_eq_true h.1,fun k hk=> ?_,fun k hk=> ?_⟩
 · have:=key n h.2 k hk
   unfold stepBB at this
   rw[Bool.and_eq_true] at this
   exact this.1
 · have:=key n h.2 (k+1) hk
   unfold stepBB at this
   simp at this
   exact this.2
theorem Bods.to {n:Nat} {U:Nat→Int} (h:Bods n U):bodsB n U=true:=by
 have key:∀ m,m≤n→allBB U m=true:=by
  intro m
  induction m with
  |zero=>intro _;rfl
  | succ m ih=>
    intro hm
    unfold allBB
    rw[ih (by omega),Bool.true_and]
    unfold stepBB
    rw[h.ok m (by omega),Bool.true_and]
    by_cases e:m=0
    · simp[e]
    · obtain⟨k,rfl⟩:∃ k,m=k+1:=⟨m-1,by omega⟩
      have:=h.asc k (by omega)
      simp
      exact this
 unfold bodsB
 rw[key n (Nat.le_refl _),decide_eq_true h.le]
 rfl
theorem Bods.map {n:Nat} {U:Nat→Int} {f:Nat→(Nat→Int)→Nat→Int} (h:Bods n U) (hf:∀ k,k<n→bodyB (f k (fun j=>U (k*12+j)))=true) (h0:∀ k,k<n→f k (fun j=>U (k*12+j)) 0=U (k*12)):Bods n (mapR f U n):=by
 refine⟨h.le,fun k hk=> ?_,fun k hk=> ?_⟩
 · rw[bodyB_cong (W:=f k (fun j=>U (k*12+j))) (fun j hj=>mapR_in hk hj)];exact hf k hk
 · have e1:=mapR_in (f:=f) (U:=U) (k:=k) (n:=n) (j:=0) (by omega) (by omega)
   have e2:=mapR_in (f:=f) (U:=U) (k:=k+1) (n:=n) (j:=0) hk (by omega)
   rw[Nat.add_zero] at e1 e2
   rw[e1,e2,h0 k (by omega),h0 (k+1) hk]
   exact h.asc k hk
def liveV (V:Nat→Int):Bool:=decide (0<V 8)&& !decide (8≤V 11)
def pullV (g:Int) (V:Nat→Int):Nat→Int:=bif liveV V then setV V 7 (clampZ 20000000 (V 7-g*V 8)) else V
theorem live_t {V:Nat→Int} (h1:0<V 8) (h2:decide (8≤V 11)=false):liveV V=true:=by unfold liveV;rw[h2];simp[h1]
theorem live_m {V:Nat→Int} (h1:¬ 0<V 8):liveV V=false:=by unfold liveV;simp[h1]
theorem live_s {V:Nat→Int} (h2:decide (8≤V 11)=true):liveV V=false:=by unfold liveV;rw[h2];simp
theorem l9Pull_any (a:Option Addr) (n c:Nat) (U:Nat→Int) (gg:Int) (w:World) (h:Flat w a (n*12) U) (hn:n≤1048576) (hg0:0≤gg∧gg≤2560) (hbb:Bods n U):
 Calls Tryz.prog 44 #[.slice a n c,.int .i64 gg] w fun e w'=>∃ a1 c1,e= .returned (.slice a1 n c1)∧OutL w w' 35 12 a1 n c1 (mapR (fun _ V=>pullV gg V) U n):=by
 have hset:=cset_map
 go_enter Tryz.func44,Tryz.ntmps44
 go_upto_region 1 with fail
 go_cut [5] (fun s0 wc=>∃ a1 c1,s0= .slice a1 n c1∧OutL w wc 35 12 a1 n c1 U)
 case first=>
  go_wp2_with (go_at_call 80;refine(l8Copy_any a n c U _ h hn).mono ?_;rintro e w3 ⟨a1,c1,rfl,hO⟩)
  go_meet
  exact⟨_,_,rfl,hO⟩
 case rest=>
 obtain⟨a1,c1,rfl,hO⟩:=hcut
 go_upto_region 3 with fail
 go_loopw [6,7] (fun s _ wr=>∃ k:Nat,k≤n∧s= .int .i64 (k:Int)∧OutL w wr 35 12 a1 n c1 (mapR (fun _ V=>pullV gg V) U k)) (fun s _ _=>n-(intOf s).toNat)
 case atStart=>exact⟨0,Nat.zero_le _,rfl,by rw[mapR_0];exact hO⟩
 case round=>
  clear hO
  obtain⟨k,hk,rfl,hO⟩:=hrel
  by_cases hlt:k<n
  · have hkn:(k:Int)<(n:Int):=by omega
    obtain⟨g,rfl,hg1,hg2⟩:=hO.own.loc (by omega)
    have d0:wr.cell? ⟨g,k*12,none⟩=some (.int .i64 (U (k*12))):=by have q:=hO.own.cellq (q:=k*12+0) (by omega);rw[mapR_row] at q;exact q
    have d1:wr.cell? ⟨g,k*12+1,none⟩=some (.int .i64 (U (k*12+1))):=by have q:=hO.own.cellq (q:=k*12+1) (by omega);rw[mapR_row] at q;exact q
    have d2:wr.cell? ⟨g,k*12+2,none⟩=some (.int .i64 (U (k*12+2))):=by have q:=hO.own.cellq (q:=k*12+2) (by omega);rw[mapR_row] at q;exact q
    have d3:wr.cell? ⟨g,k*12+3,none⟩=some (.int .i64 (U (k*12+3))):=by have q:=hO.own.cellq (q:=k*12+3) (by omega);rw[mapR_row] at q;exact q
    have d4:wr.cell? ⟨g,k*12+4,none⟩=some (.int .i64 (U (k*12+4))):=by have q:=hO.own.cellq (q:=k*12+4) (by omega);rw[mapR_row] at q;exact q
    have d5:wr.cell? ⟨g,k*12+5,none⟩=some (.int .i64 (U (k*12+5))):=by have q:=hO.own.cellq (q:=k*12+5) (by omega);rw[mapR_row] at q;exact q
    have d6:wr.cell? ⟨g,k*12+6,none⟩=some (.int .i64 (U (k*12+6))):=by have q:=hO.own.cellq (q:=k*12+6) (by omega);rw[mapR_row] at q;exact q
    have d7:wr.cell? ⟨g,k*12+7,none⟩=some (.int .i64 (U (k*12+7))):=by have q:=hO.own.cellq (q:=k*12+7) (by omega);rw[mapR_row] at q;exact q
    have d8:wr.cell? ⟨g,k*12+8,none⟩=some (.int .i64 (U (k*12+8))):=by have q:=hO.own.cellq (q:=k*12+8) (by omega);rw[mapR_row] at q;exact q
    have d9:wr.cell? ⟨g,k*12+9,none⟩=some (.int .i64 (U (k*12+9))):=by have q:=hO.own.cellq (q:=k*12+9) (by omega);rw[mapR_row] at q;exact q
    have d10:wr.cell? ⟨g,k*12+10,none⟩=some (.int .i64 (U (k*12+10))):=by have q:=hO.own.cellq (q:=k*12+10) (by omega);rw[mapR_row] at q;exact q
    have d11:wr.cell? ⟨g,k*12+11,none⟩=some (.int .i64 (U (k*12+11))):=by have q:=hO.own.cellq (q:=k*12+11) (by omega);rw[mapR_row] at q;exact q
    have df:=hO.own.fro
    have bd:=bodyB_bd (hbb.ok k hlt)
    obtain⟨⟨m0,m1⟩,_,_,_,_,⟨e0,e1⟩,_⟩:=bd
    (try simp only at m0 m1 e0 e1)
    obtain⟨SL,hSL⟩:∃ b,decide (8≤(fun j=>U (k*12+j)) 11)=b:=⟨_,rfl⟩
    by_cases hm:0<U (k*12+8)
    · cases SL with
      | true=>
        have HNO:Shut (mapR (fun _ V=>pullV gg V) U (k+1)=mapR (fun _ V=>pullV gg V) U k):=mapR_same (fun j hj=>by show pullV gg (fun j=>U (k*12+j)) j=_;unfold pullV;rw[live_s hSL];rfl)
        have hE:Below wr.heap.size wr (wr.alloc (Obj.cells #[.int .i64 (U (k*12)),.int .i64 (U (k*12+1)),.int .i64 (U (k*12+2)),.int .i64 (U (k*12+3)),.int .i64 (U (k*12+4)),.int .i64 (U (k*12+5)),.int .i64 (U (k*12+6)),.int .i64 (U (k*12+7)),.int .i64 (U (k*12+8)),.int .i64 (U (k*12+9)),.int .i64 (U (k*12+10)),.int .i64 (U (k*12+11))] 35)):=(Below.refl _ _).alloc (Nat.le_refl _) _
        go_wp2_with (go_at_call 79;refine(l6Sleeps_k (fun j=>U (k*12+j)) _ true hSL).mono ?_;rintro e w5 ⟨rfl,hb5⟩)
        go_roundw
        case rel=>exact⟨k+1,by omega,by go_num,by rw[HNO.out];exact(hO.on hE).on hb5⟩
        case measure=>simp[intOf];omega
      | false=>
        have hlv:liveV (fun j=>U (k*12+j))=true:=live_t (V:=(fun j=>U (k*12+j))) hm hSL
        obtain⟨pm,hpm⟩:∃ pm,gg*U (k*12+8)=pm:=⟨_,rfl⟩
        have hpb:=mul_bd (a:=gg) (b:=U (k*12+8)) (A:=2560) (B:=1000) (by omega) (by omega)
        rw[hpm] at hpb
        obtain⟨y,hy⟩:∃ y,clampZ 20000000 (U (k*12+7)-pm)=y:=⟨_,rfl⟩
        have hw1:IntKind.i64.wrap pm=pm:=i64w (by omega)
        have hw2:IntKind.i64.wrap (U (k*12+7)-pm)=U (k*12+7)-pm:=i64w (by omega)
        have HS:Shut (putRow (mapR (fun _ V=>pullV gg V) U k) k (fun j=>if j=7 then y else U (k*12+j))=mapR (fun _ V=>pullV gg V) U (k+1)):=by
         show _=_
         rw[←mapR_set]
         congr 1
         funext j
         show _=pullV gg (fun j=>U (k*12+j)) j
         unfold pullV
         rw[hlv]
         show _=setV (fun j=>U (k*12+j)) 7 (clampZ 20000000 (U (k*12+7)-gg*U (k*12+8))) j
         rw[hpm,hy]
         rfl
        clear hlv
        have hE:Below wr.heap.size wr (wr.alloc (Obj.cells #[.int .i64 (U (k*12)),.int .i64 (U (k*12+1)),.int .i64 (U (k*12+2)),.int .i64 (U (k*12+3)),.int .i64 (U (k*12+4)),.int .i64 (U (k*12+5)),.int .i64 (U (k*12+6)),.int .i64 (U (k*12+7)),.int .i64 (U (k*12+8)),.int .i64 (U (k*12+9)),.int .i64 (U (k*12+10)),.int .i64 (U (k*12+11))] 35)):=(Below.refl _ _).alloc (Nat.le_refl _) _
        have hO2:=hO.on hE
        have hz2:wr.heap.size<(wr.alloc (Obj.cells #[.int .i64 (U (k*12)),.int .i64 (U (k*12+1)),.int .i64 (U (k*12+2)),.int .i64 (U (k*12+3)),.int .i64 (U (k*12+4)),.int .i64 (U (k*12+5)),.int .i64 (U (k*12+6)),.int .i64 (U (k*12+7)),.int .i64 (U (k*12+8)),.int .i64 (U (k*12+9)),.int .i64 (U (k*12+10)),.int .i64 (U (k*12+11))] 35)).heap.size:=by simp
        have x0:(wr.alloc (Obj.cells #[.int .i64 (U (k*12)),.int .i64 (U (k*12+1)),.int .i64 (U (k*12+2)),.int .i64 (U (k*12+3)),.int .i64 (U (k*12+4)),.int .i64 (U (k*12+5)),.int .i64 (U (k*12+6)),.int .i64 (U (k*12+7)),.int .i64 (U (k*12+8)),.int .i64 (U (k*12+9)),.int .i64 (U (k*12+10)),.int .i64 (U (k*12+11))] 35)).cell? ⟨wr.heap.size,0,none⟩=some (.int .i64 (U (k*12))):=by go_simp
        have x1:(wr.alloc (Obj.cells #[.int .i64 (U (k*12)),.int .i64 (U (k*12+1)),.int .i64 (U (k*12+2)),.int .i64 (U (k*12+3)),.int .i64 (U (k*12+4)),.int .i64 (U (k*12+5)),.int .i64 (U (k*12+6)),.int .i64 (U (k*12+7)),.int .i64 (U (k*12+8)),.int .i64 (U (k*12+9)),.int .i64 (U (k*12+10)),.int .i64 (U (k*12+11))] 35)).cell? ⟨wr.heap.size,1,none⟩=some (.int .i64 (U (k*12+1))):=by go_simp
        have x2:(wr.alloc (Obj.cells #[.int .i64 (U (k*12)),.int .i64 (U (k*12+1)),.int .i64 (U (k*12+2)),.int .i64 (U (k*12+3)),.int .i64 (U (k*12+4)),.int .i64 (U (k*12+5)),.int .i64 (U (k*12+6)),.int .i64 (U (k*12+7)),.int .i64 (U (k*12+8)),.int .i64 (U (k*12+9)),.int .i64 (U (k*12+10)),.int .i64 (U (k*12+11))] 35)).cell? ⟨wr.heap.size,2,none⟩=some (.int .i64 (U (k*12+2))):=by go_simp
        have x3:(wr.alloc (Obj.cells #[.int .i64 (U (k*12)),.int .i64 (U (k*12+1)),.int .i64 (U (k*12+2)),.int .i64 (U (k*12+3)),.int .i64 (U (k*12+4)),.int .i64 (U (k*12+5)),.int .i64 (U (k*12+6)),.int .i64 (U (k*12+7)),.int .i64 (U (k*12+8)),.int .i64 (U (k*12+9)),.int .i64 (U (k*12+10)),.int .i64 (U (k*12+11))] 35)).cell? ⟨wr.heap.size,3,none⟩=some (.int .i64 (U (k*12+3))):=by go_simp
        have x4:(wr.alloc (Obj.cells #[.int .i64 (U (k*12)),.int .i64 (U (k*12+1)),.int .i64 (U (k*12+2)),.int .i64 (U (k*12+3)),.int .i64 (U (k*12+4)),.int .i64 (U (k*12+5)),.int .i64 (U (k*12+6)),.int .i64 (U (k*12+7)),.int .i64 (U (k*12+8)),.int .i64 (U (k*12+9)),.int .i64 (U (k*12+10)),.int .i64 (U (k*12+11))] 35)).cell? ⟨wr.heap.size,4,none⟩=some (.int .i64 (U (k*12+4))):=by go_simp
        have x5:(wr.alloc (Obj.cells #[.int .i64 (U (k*12)),.int .i64 (U (k*12+1)),.int .i64 (U (k*12+2)),.int .i64 (U (k*12+3)),.int .i64 (U (k*12+4)),.int .i64 (U (k*12+5)),.int .i64 (U (k*12+6)),.int .i64 (U (k*12+7)),.int .i64 (U (k*12+8)),.int .i64 (U (k*12+9)),.int .i64 (U (k*12+10)),.int .i64 (U (k*12+11))] 35)).cell? ⟨wr.heap.size,5,none⟩=some (.int .i64 (U (k*12+5))):=by go_simp
        have x6:(wr.alloc (Obj.cells #[.int .i64 (U (k*12)),.int .i64 (U (k*12+1)),.int .i64 (U (k*12+2)),.int .i64 (U (k*12+3)),.int .i64 (U (k*12+4)),.int .i64 (U (k*12+5)),.int .i64 (U (k*12+6)),.int .i64 (U (k*12+7)),.int .i64 (U (k*12+8)),.int .i64 (U (k*12+9)),.int .i64 (U (k*12+10)),.int .i64 (U (k*12+11))] 35)).cell? ⟨wr.heap.size,6,none⟩=some (.int .i64 (U (k*12+6))):=by go_simp
        have x7:(wr.alloc (Obj.cells #[.int .i64 (U (k*12)),.int .i64 (U (k*12+1)),.int .i64 (U (k*12+2)),.int .i64 (U (k*12+3)),.int .i64 (U (k*12+4)),.int .i64 (U (k*12+5)),.int .i64 (U (k*12+6)),.int .i64 (U (k*12+7)),.int .i64 (U (k*12+8)),.int .i64 (U (k*12+9)),.int .i64 (U (k*12+10)),.int .i64 (U (k*12+11))] 35)).cell? ⟨wr.heap.size,7,none⟩=some (.int .i64 (U (k*12+7))):=by go_simp
        have x8:(wr.alloc (Obj.cells #[.int .i64 (U (k*12)),.int .i64 (U (k*12+1)),.int .i64 (U (k*12+2)),.int .i64 (U (k*12+3)),.int .i64 (U (k*12+4)),.int .i64 (U (k*12+5)),.int .i64 (U (k*12+6)),.int .i64 (U (k*12+7)),.int .i64 (U (k*12+8)),.int .i64 (U (k*12+9)),.int .i64 (U (k*12+10)),.int .i64 (U (k*12+11))] 35)).cell? ⟨wr.heap.size,8,none⟩=some (.int .i64 (U (k*12+8))):=by go_simp
        have x9:(wr.alloc (Obj.cells #[.int .i64 (U (k*12)),.int .i64 (U (k*12+1)),.int .i64 (U (k*12+2)),.int .i64 (U (k*12+3)),.int .i64 (U (k*12+4)),.int .i64 (U (k*12+5)),.int .i64 (U (k*12+6)),.int .i64 (U (k*12+7)),.int .i64 (U (k*12+8)),.int .i64 (U (k*12+9)),.int .i64 (U (k*12+10)),.int .i64 (U (k*12+11))] 35)).cell? ⟨wr.heap.size,9,none⟩=some (.int .i64 (U (k*12+9))):=by go_simp
        have x10:(wr.alloc (Obj.cells #[.int .i64 (U (k*12)),.int .i64 (U (k*12+1)),.int .i64 (U (k*12+2)),.int .i64 (U (k*12+3)),.int .i64 (U (k*12+4)),.int .i64 (U (k*12+5)),.int .i64 (U (k*12+6)),.int .i64 (U (k*12+7)),.int .i64 (U (k*12+8)),.int .i64 (U (k*12+9)),.int .i64 (U (k*12+10)),.int .i64 (U (k*12+11))] 35)).cell? ⟨wr.heap.size,10,none⟩=some (.int .i64 (U (k*12+10))):=by go_simp
        have x11:(wr.alloc (Obj.cells #[.int .i64 (U (k*12)),.int .i64 (U (k*12+1)),.int .i64 (U (k*12+2)),.int .i64 (U (k*12+3)),.int .i64 (U (k*12+4)),.int .i64 (U (k*12+5)),.int .i64 (U (k*12+6)),.int .i64 (U (k*12+7)),.int .i64 (U (k*12+8)),.int .i64 (U (k*12+9)),.int .i64 (U (k*12+10)),.int .i64 (U (k*12+11))] 35)).cell? ⟨wr.heap.size,11,none⟩=some (.int .i64 (U (k*12+11))):=by go_simp
        have xf:∀ o,(wr.alloc (Obj.cells #[.int .i64 (U (k*12)),.int .i64 (U (k*12+1)),.int .i64 (U (k*12+2)),.int .i64 (U (k*12+3)),.int .i64 (U (k*12+4)),.int .i64 (U (k*12+5)),.int .i64 (U (k*12+6)),.int .i64 (U (k*12+7)),.int .i64 (U (k*12+8)),.int .i64 (U (k*12+9)),.int .i64 (U (k*12+10)),.int .i64 (U (k*12+11))] 35)).frozen? ⟨wr.heap.size,o,none⟩=false:=fun o=>by go_simp
        go_upto_region 6 with fail
        generalize (wr.alloc (Obj.cells #[.int .i64 (U (k*12)),.int .i64 (U (k*12+1)),.int .i64 (U (k*12+2)),.int .i64 (U (k*12+3)),.int .i64 (U (k*12+4)),.int .i64 (U (k*12+5)),.int .i64 (U (k*12+6)),.int .i64 (U (k*12+7)),.int .i64 (U (k*12+8)),.int .i64 (U (k*12+9)),.int .i64 (U (k*12+10)),.int .i64 (U (k*12+11))] 35))=wx at hE hO2 hz2 x0 x1 x2 x3 x4 x5 x6 x7 x8 x9 x10 x11 xf ⊢
        have hne:¬ wr.heap.size=g:=by omega
        have hne':¬ g=wr.heap.size:=by omega
        have hbw:=hO.bel.size
        generalize wr.heap.size=bp at hz2 x0 x1 x2 x3 x4 x5 x6 x7 x8 x9 x10 x11 xf hne hne' hE hg2 hbw ⊢
        clear hO df d0 d1 d2 d3 d4 d5 d6 d7 d8 d9 d10 d11 hE
        go_upto_region 7 with(go_at_call 79;refine(l6Sleeps_k (fun j=>U (k*12+j)) _ false hSL).mono ?_;rintro e w5 ⟨rfl,hb5⟩)
        have hO5:=hO2.on hb5
        obtain⟨hc5,hf5⟩:=bcell hb5
        have z0:=(hc5 bp 0 hz2).trans x0
        have z1:=(hc5 bp 1 hz2).trans x1
        have z2:=(hc5 bp 2 hz2).trans x2
        have z3:=(hc5 bp 3 hz2).trans x3
        have z4:=(hc5 bp 4 hz2).trans x4
        have z5:=(hc5 bp 5 hz2).trans x5
        have z6:=(hc5 bp 6 hz2).trans x6
        have z7:=(hc5 bp 7 hz2).trans x7
        have z8:=(hc5 bp 8 hz2).trans x8
        have z9:=(hc5 bp 9 hz2).trans x9
        have z10:=(hc5 bp 10 hz2).trans x10
        have z11:=(hc5 bp 11 hz2).trans x11
        have zf:=fun o=>(hf5 bp o hz2).trans (xf o)
        have hz5:bp<w5.heap.size:=Nat.lt_of_lt_of_le hz2 hb5.size
        clear hc5 hf5 x0 x1 x2 x3 x4 x5 x6 x7 x8 x9 x10 x11 xf hb5 hO2
        go_upto_region 8 with(go_at_call 68;refine(l6Within_any _ _ _ (by omega) (by omega)).mono ?_;rintro e w6 ⟨rfl,h6⟩;have h6':=h6.symm;subst h6';clear h6)
        (try rw[hy])
        have hs7:Fr (fun b=>b=bp) w5 (w5.setCell ⟨bp,7,none⟩ (.int .i64 y)):=Fr.setCell (X:=fun b=>b=bp) rfl _
        have hO7:OutL w (w5.setCell ⟨bp,7,none⟩ (.int .i64 y)) 35 12 (some ⟨g,0,none⟩) n c1 (mapR (fun _ V=>pullV gg V) U k):=⟨hO5.bel.setCell (by omega) _,hO5.own.frame hs7 (fun b e x=>by simp[Value.ownBlock] at e;omega)⟩
        have uf:=hO7.own.fro
        have u0:=hO7.own.cellq (q:=k*12) (by omega)
        have u1:=hO7.own.cellq (q:=k*12+1) (by omega)
        have u2:=hO7.own.cellq (q:=k*12+2) (by omega)
        have u3:=hO7.own.cellq (q:=k*12+3) (by omega)
        have u4:=hO7.own.cellq (q:=k*12+4) (by omega)
        have u5:=hO7.own.cellq (q:=k*12+5) (by omega)
        have u6:=hO7.own.cellq (q:=k*12+6) (by omega)
        have u7:=hO7.own.cellq (q:=k*12+7) (by omega)
        have u8:=hO7.own.cellq (q:=k*12+8) (by omega)
        have u9:=hO7.own.cellq (q:=k*12+9) (by omega)
        have u10:=hO7.own.cellq (q:=k*12+10) (by omega)
        have u11:=hO7.own.cellq (q:=k*12+11) (by omega)
        have t0:(w5.setCell ⟨bp,7,none⟩ (.int .i64 y)).cell? ⟨bp,0,none⟩=some (.int .i64 (U (k*12))):=by go_simp
        have t1:(w5.setCell ⟨bp,7,none⟩ (.int .i64 y)).cell? ⟨bp,1,none⟩=some (.int .i64 (U (k*12+1))):=by go_simp
        have t2:(w5.setCell ⟨bp,7,none⟩ (.int .i64 y)).cell? ⟨bp,2,none⟩=some (.int .i64 (U (k*12+2))):=by go_simp
        have t3:(w5.setCell ⟨bp,7,none⟩ (.int .i64 y)).cell? ⟨bp,3,none⟩=some (.int .i64 (U (k*12+3))):=by go_simp
        have t4:(w5.setCell ⟨bp,7,none⟩ (.int .i64 y)).cell? ⟨bp,4,none⟩=some (.int .i64 (U (k*12+4))):=by go_simp
        have t5:(w5.setCell ⟨bp,7,none⟩ (.int .i64 y)).cell? ⟨bp,5,none⟩=some (.int .i64 (U (k*12+5))):=by go_simp
        have t6:(w5.setCell ⟨bp,7,none⟩ (.int .i64 y)).cell? ⟨bp,6,none⟩=some (.int .i64 (U (k*12+6))):=by go_simp
        have t7:(w5.setCell ⟨bp,7,none⟩ (.int .i64 y)).cell? ⟨bp,7,none⟩=some (.int .i64 (y)):=by go_simp
        have t8:(w5.setCell ⟨bp,7,none⟩ (.int .i64 y)).cell? ⟨bp,8,none⟩=some (.int .i64 (U (k*12+8))):=by go_simp
        have t9:(w5.setCell ⟨bp,7,none⟩ (.int .i64 y)).cell? ⟨bp,9,none⟩=some (.int .i64 (U (k*12+9))):=by go_simp
        have t10:(w5.setCell ⟨bp,7,none⟩ (.int .i64 y)).cell? ⟨bp,10,none⟩=some (.int .i64 (U (k*12+10))):=by go_simp
        have t11:(w5.setCell ⟨bp,7,none⟩ (.int .i64 y)).cell? ⟨bp,11,none⟩=some (.int .i64 (U (k*12+11))):=by go_simp
        generalize (w5.setCell ⟨bp,7,none⟩ (.int .i64 y))=w7 at hO7 uf u0 t0 u1 t1 u2 t2 u3 t3 u4 t4 u5 t5 u6 t6 u7 t7 u8 t8 u9 t9 u10 t10 u11 t11 ⊢
        clear z0 z1 z2 z3 z4 z5 z6 z7 z8 z9 z10 z11 zf hO5
        go_wp2_with fail
        have hq:=put12 hO7.own hlt (fun j=>if j=7 then y else U (k*12+j))
        rw[HS.out] at hq
        have hqb:=(putFr (w4:=w7) (g:=g) (p:=k) (fun j=>if j=7 then y else U (k*12+j))).below (B:=w.heap.size) hO7.bel.size (fun b e=>by omega)
        go_roundw
        case rel=>exact⟨k+1,by omega,by go_num,hO7.bel.trans hqb,hq⟩
        case measure=>simp[intOf];omega
    · have HNO:Shut (mapR (fun _ V=>pullV gg V) U (k+1)=mapR (fun _ V=>pullV gg V) U k):=mapR_same (fun j hj=>by show pullV gg (fun j=>U (k*12+j)) j=_;unfold pullV;rw[live_m (V:=(fun j=>U (k*12+j))) hm];rfl)
      have hE:Below wr.heap.size wr (wr.alloc (Obj.cells #[.int .i64 (U (k*12)),.int .i64 (U (k*12+1)),.int .i64 (U (k*12+2)),.int .i64 (U (k*12+3)),.int .i64 (U (k*12+4)),.int .i64 (U (k*12+5)),.int .i64 (U (k*12+6)),.int .i64 (U (k*12+7)),.int .i64 (U (k*12+8)),.int .i64 (U (k*12+9)),.int .i64 (U (k*12+10)),.int .i64 (U (k*12+11))] 35)):=(Below.refl _ _).alloc (Nat.le_refl _) _
      go_wp2_with fail
      go_roundw
      case rel=>exact⟨k+1,by omega,by go_num,by rw[HNO.out];exact hO.on hE⟩
      case measure=>simp[intOf];omega
  · obtain rfl:k=n:=by omega
    go_wp2_with fail
    go_ret
    exact⟨_,_,rfl,hO⟩
def atB (n:Nat) (a b x y d:Int):Bool:=hitB x y d&&(decide (0≤a∧a<(n:Int))&&(decide (0≤b∧b<(n:Int))&& !decide (a=b)))
theorem handle_i (cb:Nat) (a:Int) (w:World) (ha:0≤a):
 Calls Tryz.prog 54 #[.pointer (some ⟨cb,0,none⟩),.int .i64 a] w fun e w'=>e= .returned (.agg #[.int .i64 a,.pointer (some ⟨cb,0,none⟩)])∧Below w.heap.size w w':=by
 obtain⟨A,rfl⟩:∃ A:Nat,a=(A:Int):=⟨a.toNat,by omega⟩
 exact handle_any cb A w
theorem meetingAt_yes {cb n:Nat} {C:Nat→Nat→Int} {S:Nat→Value} {w:World} (hC:Cs w cb n C S) (hn:n≤1048576) (a b x y d:Int) (e:atB n a b x y d=true):
 Calls Tryz.prog 169 #[.pointer (some ⟨cb,0,none⟩),.agg #[.int .i64 a,.int .i64 b,.int .i64 x,.int .i64 y,.int .i64 d]] w fun e w'=>e= .returned (.tuple #[.agg #[.int .i64 x,.int .i64 y,.int .i64 d,.int .i64 a,.pointer (some ⟨cb,0,none⟩),.int .i64 b,.pointer (some ⟨cb,0,none⟩)],.bool true])∧Below w.heap.size w w':=by
 have hset:=cset_map
 have l1:=hC.lt
 obtain⟨ad,cc,hS0⟩:=(hC.own 0 (by omega)).is
 have hd0:=hC.hd 0 (by omega)
 rw[hS0] at hd0
 clear hS0
 unfold atB at e
 simp only[Bool.and_eq_true,decide_eq_true_eq,Bool.not_eq_true',decide_eq_false_iff_not] at e
 obtain⟨k1,ha,hb,hab⟩:=e
 obtain⟨mi,emi⟩:∃ mi,(if b<a then b else a)=mi:=⟨_,rfl⟩
 obtain⟨ma,ema⟩:∃ ma,(if a<b then b else a)=ma:=⟨_,rfl⟩
 have k2:¬ (mi<0):=by split at emi<;>omega
 have k3:¬ ((n:Int)≤ma):=by split at ema<;>omega
 have d2:decide (mi<0)=false:=decide_eq_false k2
 have d3:decide ((n:Int)≤ma)=false:=decide_eq_false k3
 have d5:decide (a=b)=false:=decide_eq_false hab
 have k4:(a==b)=false:=by simp[hab]
 have k5:(a=b)=False:=eq_false hab
 go_enter Tryz.func169,Tryz.ntmps169
 go_upto_region 2 with(go_at_call 182;refine(dentOf_q _ _ _ _ _ (by with_reducible assumption)).mono ?_;rintro e w1 ⟨rfl,hb1⟩;have hz1:=hb1.size;(try simp only[zz] at hz1);have:=kf2 hb1 w.heap.size;have:=kfa hb1 cb)
 refine wp_region_held_drew (S:=fun w'=>w'.cell? ⟨w.heap.size,0,none⟩=some (.int .i64 a)∧w'.cell? ⟨w.heap.size,1,none⟩=some (.int .i64 b)∧w'.cell? ⟨w.heap.size,2,none⟩=some (.int .i64 x)∧w'.cell? ⟨w.heap.size,3,none⟩=some (.int .i64 y)∧w'.cell? ⟨w.heap.size,4,none⟩=some (.int .i64 d)∧w'.cell? ⟨cb,0,none⟩=some (.slice ad n cc)) (by kernel_rfl) ?_ (fun hHeld=> ?_)
 · (try dsimp only)
   (first|(go_simp;done)|(go_keep;done))
 refine tq 0 hHeld ?_
 refine tq 1 hHeld ?_
 refine tq 2 hHeld ?_
 refine tq 3 hHeld ?_
 refine tq 4 hHeld ?_
 refine tq 5 hHeld ?_
 refine tq 6 hHeld ?_
 refine tq 7 hHeld ?_
 refine tq 8 hHeld ?_
 refine tq 9 hHeld ?_
 refine tq 10 hHeld ?_
 refine tq 11 hHeld ?_
 refine tq 12 hHeld ?_
 refine tq 13 hHeld ?_
 refine tq 14 hHeld ?_
 refine tq 15 hHeld ?_
 refine tq 16 hHeld ?_
 refine tq 17 hHeld ?_
 refine tq 18 hHeld ?_
 refine tq 19 hHeld ?_
 refine tq 20 hHeld ?_
 refine tq 21 hHeld ?_
 refine tq 22 hHeld ?_
 refine tq 23 hHeld ?_
 refine tq 24 hHeld ?_
 refine tq 25 hHeld ?_
 refine tq 26 hHeld ?_
 refine tq 27 hHeld ?_
 refine tq 28 hHeld ?_
 refine tq 29 hHeld ?_
 refine wpAnyH_done (by kernel_rfl) ?_ _
 go_upto_region 4 with fail
 refine wp_region_held_drew (S:=fun w'=>w'.cell? ⟨w.heap.size,0,none⟩=some (.int .i64 a)∧w'.cell? ⟨w.heap.size,1,none⟩=some (.int .i64 b)∧w'.cell? ⟨w.heap.size,2,none⟩=some (.int .i64 x)∧w'.cell? ⟨w.heap.size,3,none⟩=some (.int .i64 y)∧w'.cell? ⟨w.heap.size,4,none⟩=some (.int .i64 d)∧w'.cell? ⟨w1.heap.size,0,none⟩=some (.int .i64 x)∧w'.cell? ⟨w1.heap.size,1,none⟩=some (.int .i64 y)∧w'.cell? ⟨w1.heap.size,2,none⟩=some (.int .i64 d)) (by kernel_rfl) ?_ (fun hHeld=> ?_)
 · (try dsimp only)
   (first|(go_simp;done)|(go_keep;done))
 refine tq 0 hHeld ?_
 refine tq 1 hHeld ?_
 refine tq 2 hHeld ?_
 refine tq 3 hHeld ?_
 refine tq 5 hHeld ?_
 refine tq 6 hHeld ?_
 refine tq 7 hHeld ?_
 (refine tc 4 fun K hK=> ?_;go_simp;(go_at_call 54;refine(handle_i cb a _ ha.1).mono ?_;rintro e w2 ⟨rfl,hb2⟩;have hz2:=hb2.size;(try simp only[zz] at hz2);have:=kf2 hb2 w.heap.size;have:=kfa hb2 w1.heap.size);(try go_wp2_with fail);refine tr hK (fun hHeld=> ?_);clear hK K)
 (refine tc 8 fun K hK=> ?_;go_simp;(go_at_call 54;refine(handle_i cb b _ hb.1).mono ?_;rintro e w3 ⟨rfl,hb3⟩;have hz3:=hb3.size;(try simp only[zz] at hz3);have:=kf2 hb3 w.heap.size;have:=kfa hb3 w1.heap.size);(try go_wp2_with fail);refine tr hK (fun hHeld=> ?_);clear hK K)
 refine tq 9 hHeld ?_
 (refine tc 10 fun K hK=> ?_;go_simp;refine tr hK (fun hHeld=> ?_);clear hK K)
 refine tq 11 hHeld ?_
 refine wpAnyH_done (by kernel_rfl) ?_ _
 go_wp2_with fail
 exact bodyPost_ret (v:= .tuple #[.agg #[.int .i64 x,.int .i64 y,.int .i64 d,.int .i64 a,.pointer (some ⟨cb,0,none⟩),.int .i64 b,.pointer (some ⟨cb,0,none⟩)],.bool true]) (by simp[results,Tryz.results169,go_sem, *]) rfl ⟨rfl,bel_a⟩
end Go.Proofs.YthajilkjfkppoaaGreatDoor
