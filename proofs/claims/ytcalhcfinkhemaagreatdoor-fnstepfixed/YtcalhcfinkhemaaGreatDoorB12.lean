/- Texts of a proof. -/
import Derived.Test.YtcalhcfinkhemaaGreatDoorB6
import Derived.Test.YtcalhcfinkhemaaGreatDoorB8
import Derived.Test.YtcalhcfinkhemaaGreatDoorB9
import Derived.Test.YtcalhcfinkhemaaGreatDoorB11
import Derived.Deep.RegionHeld3
import Derived.Deep.DeepCutAuto
set_option maxHeartbeats 16000000
set_option maxRecDepth 20000
namespace Go.Proofs.YtcalhcfinkhemaaGreatDoor
open Go.RowKit
set_option linter.unusedVariables false
def lvK (U:Nat→Int) (k:Nat):Bool:= !decide (U (k*12+8)=0)&& !decide (U (k*12+11)=8)
def ItV (P:Program) (gf:Nat) (bound:Array Value) (encs:Nat→Array Value) (Col:(Nat→Int)→World→Prop) (nn:Nat) (w:World):Prop:=
 ∀ (l:Nat) (J:Nat→(Nat→Int)→World→Prop) (U0:Nat→Int) (W:World),Below w.heap.size w W→
   (∀ k U A A',J k U A→Sm W.heap.size A A'→J k U A')→(∀ k U A,J k U A→Col U A)→
   (∀ k U A,J k U A→k<nn→lvK U k=false→J (k+1) U A)→
   (∀ k U A,J k U A→k<nn→lvK U k=true→YieldAt Fence.wide 0 P l (encs k) A fun e A'=>e= .returned (.bool true)∧(∃ U',J (k+1) U' A')∧Kcs W.heap.size (fun _=>True) A A')→
   J 0 U0 W→CallsIn Fence.wide 0 P gf (bound++ #[.func (.yield l) #[] #[]]) W fun e A=>(∃ v,e= .returned v)∧∃ U,J nn U A
theorem wp_range_outV {P:Program} {g:Operand} {ps:Array Tmp} {assign body:Code} {Q:Exit→Act→World→Prop} {a:Act} {w:World} {gf:Nat} {bound:Array Value}
 (hg:a.eval g= .func (.func gf) bound #[]) (eg:∀ args w,(callFunc gf args).run P w= .ok (.enter gf args) w)
 {encs:Nat→Array Value} {Col:(Nat→Int)→World→Prop} {nn:Nat} (hit:ItV P gf bound encs Col nn w) (hps:∀ k,(encs k).size=ps.size)
 (I:Nat→(Nat→Int)→World→Prop) (hI:∀ k U A B,I k U A→Sm w.heap.size A B→I k U B) (hcol:∀ k U A,I k U A→Col U A) (U0:Nat→Int) (h0:I 0 U0 w)
 (hskip:∀ k U A,I k U A→k<nn→lvK U k=false→I (k+1) U A)
 (hround:∀ l k U W,w.heap.size≤l→l<w.heap.size+2→w.heap.size+2≤W.heap.size→I k U W→k<nn→lvK U k=true→
   assign.wpIn (Fence.wide.inRound l) 0 P (Exit.then (fun a₁ W₁=>KeepsFrom w.heap.size W W₁∧∀ W₂,Sm w.heap.size W₁ W₂→(∀ (B':Nat) (H':Nat→Prop),l<B'→Kcs B' H' W₁ W₂)→(∃ r,W₂.heap[l]? =some (.loop r))→
    body.wpIn (Fence.wide.inRound l) 0 P (rdPost w.heap.size (fun W'=>(∃ U',I (k+1) U' W')∧Kcs (w.heap.size+2) (fun _=>True) W W') (fun _ _=>False) W₂) a₁ W₂) (fun _ _ _=>False))
   {tmps:=(ps.zip (encs k)).foldl (fun t (p,v)=>t.setIfInBounds p v) a.tmps,defers:=[]} W)
 (hdone:∀ (D:Nat) (U:Nat→Int) (W:World),w.heap.size≤D→I nn U W→W.heap[D]? =some (.deferred (some []))→Q .normal {a with defers:={target:= .collected D,args:= #[]}::a.defers} W):
 (Code.rangeFunc g ps assign body).wp P Q a w:=by
 refine wpIn_wide.1 (wpIn_rangeFunc (n:=0) ?_)
 intro fn _
 obtain⟨rec,hrec⟩:∃ rec:LoopState→Option Code→Loop,rec=fun st pe=>{state:=st,pending:=pe,fn,tmps:=a.tmps,params:=ps,assign,body,defers:=w.heap.size}:=⟨_,rfl⟩
 obtain⟨W1,hW1⟩:∃ W1,(w.alloc (.deferred (some []))).alloc (.loop (rec .ready none))=W1:=⟨_,rfl⟩
 have hb1:Below w.heap.size w W1:=by rw[←hW1];exact((Below.refl _ w).alloc (Nat.le_refl _) _).alloc (by simp) _
 have hz1:W1.heap.size=w.heap.size+2:=by rw[←hW1];simp
 have hL1:W1.heap[w.heap.size+1]? =some (.loop (rec .ready none)):=by
  rw[←hW1];have:=World.alloc_heap_new (w.alloc (.deferred (some []))) (.loop (rec .ready none));rwa [World.size_alloc] at this
 have hK1:W1.heap[w.heap.size]? =some (.deferred (some [])):=by
  rw[←hW1];exact(Below.heap_alloc _ _ _ (by simp)).trans (World.alloc_heap_new w _)
 refine⟨w.heap.size+1,[{target:= .collected w.heap.size,args:= #[]}],W1,{target:= .fn (.func gf) #[],args:=bound++ #[.func (.yield (w.heap.size+1)) #[] #[]]},W1,gf,
  bound++ #[.func (.yield (w.heap.size+1)) #[] #[]],W1,?_,?_,fun _ _=>trivial,?_,(fun e=>by cases e),?_⟩
 · rw[←hW1,hrec];exact run_enterLoop_outer _ _ _ _ _
 · simp only[resolve,hg]
   simp[go_sem]
 · simp[invoke,go_sem,eg]
 · refine(hit (w.heap.size+1)
    (fun k U W=>I k U W∧W.heap[w.heap.size+1]? =some (.loop (rec .ready none))∧W.heap[w.heap.size]? =some (.deferred (some []))∧w.heap.size+2≤W.heap.size)
    U0 W1 hb1 ?_ ?_ ?_ ?_ ⟨hI _ _ _ _ h0 (Sm.of_below hb1 (Nat.le_refl _)),hL1,hK1,by omega⟩).mono ?_
   · rintro k U A B ⟨h1,h2,h3,h4⟩ hb
     rw[hz1] at hb
     exact⟨hI _ _ _ _ h1 ⟨hb.below.mono (by omega),hb.cells⟩,(hb.below.block _ (by omega)).trans h2,(hb.below.block _ (by omega)).trans h3,Nat.le_trans h4 hb.size⟩
   · rintro k U A ⟨h1,_⟩
     exact hcol _ _ _ h1
   · rintro k U A ⟨h1,h2,h3,h4⟩ hk hl
     exact⟨hskip _ _ _ h1 hk hl,h2,h3,h4⟩
   · rintro k U W ⟨h1,h2,h3,h4⟩ hk hlv
     rw[hz1]
     refine(yield_roundS (P:=P) (ps:=ps) (assign:=assign) (body:=body) (a:=a) (B:=w.heap.size) (l:=w.heap.size+1) (dl:=w.heap.size) (fn:=fn) (args:=encs k) (hps k)
      (I':=fun W'=>(∃ U',I (k+1) U' W')∧Kcs (w.heap.size+2) (fun _=>True) W W')
      (fun A r o h hl=>⟨h.1.imp fun U' h=>hI _ _ _ _ h (Sm.putObj _ hl rfl (by omega)),h.2.trans (Kcs.putObj _ (by omega))⟩)
      (Hh:=fun W=>W.heap[w.heap.size]? =some (.deferred (some []))∧w.heap.size+2≤W.heap.size) (fun A B h hk=>⟨hk.same _ _ (Nat.le_refl _) h.1 rfl,Nat.le_trans h.2 hk.size⟩) (fun A o h=>⟨(World.putObj_heap_other (by omega)).trans h.1,by simpa [World.putObj] using h.2⟩) hrec (by omega) h2 ⟨h3,h4⟩
      (hround _ k U W (by omega) (by omega) h4 h1 hk hlv)).mono ?_
     rintro e W' ⟨e1,⟨⟨U',h1⟩,hc⟩,h2,h3,h4⟩
     exact⟨e1,⟨U',h1,h2,h3,h4⟩,hc⟩
   · rintro e W2 ⟨⟨v,rfl⟩,U,hi,hl,hk,_⟩
     exact⟨none,_,by have:=run_endLoop (P:=P) hl (by rw[hrec];simp);rw[hrec] at this;exact this,hdone _ U _ (Nat.le_refl _) (hI _ _ _ _ hi (Sm.putObj _ hl rfl (by omega))) ((World.putObj_heap_other (by omega)).trans hk)⟩
end Go.Proofs.YtcalhcfinkhemaaGreatDoor
namespace Go.Proofs.YtcalhcfinkhemaaGreatDoor
open Go.RowKit
set_option linter.unusedVariables false
set_option linter.unusedSimpArgs false
def mapR (f:Nat→(Nat→Int)→Nat→Int) (U:Nat→Int) (k:Nat):Nat→Int:=fun q=>if q<k*12 then f (q/12) (fun j=>U (q/12*12+j)) (q % 12) else U q
theorem mapR_0 (f:Nat→(Nat→Int)→Nat→Int) (U:Nat→Int):mapR f U 0=U:=by funext q;unfold mapR;rw[if_neg (by omega)]
theorem mapR_row (f:Nat→(Nat→Int)→Nat→Int) (U:Nat→Int) (k j:Nat):mapR f U k (k*12+j)=U (k*12+j):=by unfold mapR;rw[if_neg (by omega)]
theorem mapR_in {f:Nat→(Nat→Int)→Nat→Int} {U:Nat→Int} {k n j:Nat} (h:k<n) (hj:j<12):mapR f U n (k*12+j)=f k (fun j=>U (k*12+j)) j:=by
 unfold mapR
 rw[if_pos (by omega),show (k*12+j)/12=k by omega,show (k*12+j) % 12=j by omega]
theorem mapR_set (f:Nat→(Nat→Int)→Nat→Int) (U:Nat→Int) (k:Nat):putRow (mapR f U k) k (f k (fun j=>U (k*12+j)))=mapR f U (k+1):=by
 funext q
 unfold putRow
 by_cases h:k*12≤q∧q<k*12+12
 · rw[if_pos h]
   obtain⟨d,rfl⟩:∃ d,q=k*12+d:=⟨q-k*12,by omega⟩
   rw[mapR_in (by omega) (by omega),Nat.add_sub_cancel_left]
 · rw[if_neg h]
   unfold mapR
   by_cases l:q<k*12
   · rw[if_pos l,if_pos (by omega)]
   · rw[if_neg l,if_neg (by omega)]
theorem mapR_same {f:Nat→(Nat→Int)→Nat→Int} {U:Nat→Int} {k:Nat} (h:∀ j,j<12→f k (fun j=>U (k*12+j)) j=U (k*12+j)):mapR f U (k+1)=mapR f U k:=by
 rw[←mapR_set]
 funext q
 unfold putRow
 by_cases e:k*12≤q∧q<k*12+12
 · rw[if_pos e]
   obtain⟨d,rfl⟩:∃ d,q=k*12+d:=⟨q-k*12,by omega⟩
   rw[Nat.add_sub_cancel_left,h d (by omega),mapR_row]
 · rw[if_neg e]
theorem mapR_one {f:Nat→(Nat→Int)→Nat→Int} {U:Nat→Int} {k j:Nat} {x:Int} (hj:j<12) (h:∀ i,i<12→f k (fun j=>U (k*12+j)) i=if i=j then x else U (k*12+i)):(fun r=>if r=k*12+j then x else mapR f U k r)=mapR f U (k+1):=by
 rw[←mapR_set]
 funext q
 unfold putRow
 by_cases e:k*12≤q∧q<k*12+12
 · rw[if_pos e]
   obtain⟨d,rfl⟩:∃ d,q=k*12+d:=⟨q-k*12,by omega⟩
   rw[Nat.add_sub_cancel_left,h d (by omega),mapR_row]
   by_cases e2:d=j
   · rw[if_pos e2,if_pos (by omega)]
   · rw[if_neg e2,if_neg (by omega)]
 · rw[if_neg e,if_neg (by omega)]
theorem bodyB_cong {V W:Nat→Int} (h:∀ j,j<12→V j=W j):bodyB V=bodyB W:=by
 unfold bodyB restB
 simp only[h 0 (by omega),h 1 (by omega),h 2 (by omega),h 3 (by omega),h 4 (by omega),h 5 (by omega),h 6 (by omega),h 7 (by omega),h 8 (by omega),h 9 (by omega),h 10 (by omega),h 11 (by omega)]
structure Bods (n:Nat) (U:Nat→Int):Prop where
 le:n≤12
 ok:∀ k,k<n→bodyB (fun j=>U (k*12+j))=true
 asc:∀ k,k+1<n→U (k*12)<U ((k+1)*12)
theorem Bods.of {n:Nat} {U:Nat→Int} (h:bodsB n U=true):Bods n U:=by
 unfold bodsB at h
 rw[Bool.and_eq_true] at h
 have key:∀ m,allBB U m=true→∀ k,k<m→stepBB U k=true:=by
  intro m
  induction m with
  |zero=>intro _ k l;omega
  | succ m ih=>
    intro hm k l
    unfold allBB at hm
    rw[Bool.and_eq_true] at hm
    by_cases e:k=m
    · subst e;exact hm.2
    · exact ih hm.1 k (by omega)
 refine⟨of_decide_eq_true h.1,fun k hk=> ?_,fun k hk=> ?_⟩
 · have:=key n h.2 k hk
   unfold stepBB at this
   rw[Bool.and_eq_true] at this
   exact this.1
 · have:=key n h.2 (k+1) hk
   unfold stepBB at this
   simp at this
   exact this.2
theorem Bods.to {n:Nat} {U:Nat→Int} (h:Bods n U):bodsB n U=true:=by
 have key:∀ m,m≤n→allBB U m=true:=by
  intro m
  induction m with
  |zero=>intro _;rfl
  | succ m ih=>
    intro hm
    unfold allBB
    rw[ih (by omega),Bool.true_and]
    unfold stepBB
    rw[h.ok m (by omega),Bool.true_and]
    by_cases e:m=0
    · simp[e]
    · obtain⟨k,rfl⟩:∃ k,m=k+1:=⟨m-1,by omega⟩
      have:=h.asc k (by omega)
      simp
      exact this
 unfold bodsB
 rw[key n (Nat.le_refl _),decide_eq_true h.le]
 rfl
theorem Bods.map {n:Nat} {U:Nat→Int} {f:Nat→(Nat→Int)→Nat→Int} (h:Bods n U) (hf:∀ k,k<n→bodyB (f k (fun j=>U (k*12+j)))=true) (h0:∀ k,k<n→f k (fun j=>U (k*12+j)) 0=U (k*12)):Bods n (mapR f U n):=by
 refine⟨h.le,fun k hk=> ?_,fun k hk=> ?_⟩
 · rw[bodyB_cong (W:=f k (fun j=>U (k*12+j))) (fun j hj=>mapR_in hk hj)];exact hf k hk
 · have e1:=mapR_in (f:=f) (U:=U) (k:=k) (n:=n) (j:=0) (by omega) (by omega)
   have e2:=mapR_in (f:=f) (U:=U) (k:=k+1) (n:=n) (j:=0) hk (by omega)
   rw[Nat.add_zero] at e1 e2
   rw[e1,e2,h0 k (by omega),h0 (k+1) hk]
   exact h.asc k hk
def liveV (V:Nat→Int):Bool:=decide (0<V 8)&& !decide (8≤V 11)
def pullV (g:Int) (V:Nat→Int):Nat→Int:=bif liveV V then setV V 7 (clampZ 20000000 (V 7-g*V 8)) else V
theorem live_t {V:Nat→Int} (h1:0<V 8) (h2:decide (8≤V 11)=false):liveV V=true:=by unfold liveV;rw[h2];simp[h1]
theorem live_m {V:Nat→Int} (h1:¬ 0<V 8):liveV V=false:=by unfold liveV;simp[h1]
theorem live_s {V:Nat→Int} (h2:decide (8≤V 11)=true):liveV V=false:=by unfold liveV;rw[h2];simp
theorem l9Pull_any (a:Option Addr) (n c:Nat) (U:Nat→Int) (gg:Int) (w:World) (h:Flat w a (n*12) U) (hn:n≤1048576) (hg0:0≤gg∧gg≤2560) (hbb:Bods n U):
 Calls Tryz.prog 50 #[.slice a n c,.int .i64 gg] w fun e w'=>∃ a1 c1,e= .returned (.slice a1 n c1)∧OutL w w' 33 12 a1 n c1 (mapR (fun _ V=>pullV gg V) U n):=by
 have hset:=cset_map
 go_enter Tryz.func50,Tryz.ntmps50
 go_upto_region 1 with fail
 go_cut [5] (fun s0 wc=>∃ a1 c1,s0= .slice a1 n c1∧OutL w wc 33 12 a1 n c1 U)
 case first=>
  go_wp2_with (go_at_call 35;refine(l8Copy_any a n c U _ h hn).mono ?_;rintro e w3 ⟨a1,c1,rfl,hO⟩)
  go_meet
  exact⟨_,_,rfl,hO⟩
 case rest=>
 obtain⟨a1,c1,rfl,hO⟩:=hcut
 go_upto_region 3 with fail
 go_loopw [6,7] (fun s _ wr=>∃ k:Nat,k≤n∧s= .int .i64 (k:Int)∧OutL w wr 33 12 a1 n c1 (mapR (fun _ V=>pullV gg V) U k)) (fun s _ _=>n-(intOf s).toNat)
 case atStart=>exact⟨0,Nat.zero_le _,rfl,by rw[mapR_0];exact hO⟩
 case round=>
  clear hO
  obtain⟨k,hk,rfl,hO⟩:=hrel
  by_cases hlt:k<n
  · have hkn:(k:Int)<(n:Int):=by omega
    obtain⟨g,rfl,hg1,hg2⟩:=hO.own.loc (by omega)
    have d0:wr.cell? ⟨g,k*12,none⟩=some (.int .i64 (U (k*12))):=by have q:=hO.own.cellq (q:=k*12+0) (by omega);rw[mapR_row] at q;exact q
    have d1:wr.cell? ⟨g,k*12+1,none⟩=some (.int .i64 (U (k*12+1))):=by have q:=hO.own.cellq (q:=k*12+1) (by omega);rw[mapR_row] at q;exact q
    have d2:wr.cell? ⟨g,k*12+2,none⟩=some (.int .i64 (U (k*12+2))):=by have q:=hO.own.cellq (q:=k*12+2) (by omega);rw[mapR_row] at q;exact q
    have d3:wr.cell? ⟨g,k*12+3,none⟩=some (.int .i64 (U (k*12+3))):=by have q:=hO.own.cellq (q:=k*12+3) (by omega);rw[mapR_row] at q;exact q
    have d4:wr.cell? ⟨g,k*12+4,none⟩=some (.int .i64 (U (k*12+4))):=by have q:=hO.own.cellq (q:=k*12+4) (by omega);rw[mapR_row] at q;exact q
    have d5:wr.cell? ⟨g,k*12+5,none⟩=some (.int .i64 (U (k*12+5))):=by have q:=hO.own.cellq (q:=k*12+5) (by omega);rw[mapR_row] at q;exact q
    have d6:wr.cell? ⟨g,k*12+6,none⟩=some (.int .i64 (U (k*12+6))):=by have q:=hO.own.cellq (q:=k*12+6) (by omega);rw[mapR_row] at q;exact q
    have d7:wr.cell? ⟨g,k*12+7,none⟩=some (.int .i64 (U (k*12+7))):=by have q:=hO.own.cellq (q:=k*12+7) (by omega);rw[mapR_row] at q;exact q
    have d8:wr.cell? ⟨g,k*12+8,none⟩=some (.int .i64 (U (k*12+8))):=by have q:=hO.own.cellq (q:=k*12+8) (by omega);rw[mapR_row] at q;exact q
    have d9:wr.cell? ⟨g,k*12+9,none⟩=some (.int .i64 (U (k*12+9))):=by have q:=hO.own.cellq (q:=k*12+9) (by omega);rw[mapR_row] at q;exact q
    have d10:wr.cell? ⟨g,k*12+10,none⟩=some (.int .i64 (U (k*12+10))):=by have q:=hO.own.cellq (q:=k*12+10) (by omega);rw[mapR_row] at q;exact q
    have d11:wr.cell? ⟨g,k*12+11,none⟩=some (.int .i64 (U (k*12+11))):=by have q:=hO.own.cellq (q:=k*12+11) (by omega);rw[mapR_row] at q;exact q
    have df:=hO.own.fro
    have bd:=bodyB_bd (hbb.ok k hlt)
    obtain⟨⟨m0,m1⟩,_,_,_,_,⟨e0,e1⟩,_⟩:=bd
    (try simp only at m0 m1 e0 e1)
    obtain⟨SL,hSL⟩:∃ b,decide (8≤(fun j=>U (k*12+j)) 11)=b:=⟨_,rfl⟩
    by_cases hm:0<U (k*12+8)
    · cases SL with
      | true=>
        have HNO:Shut (mapR (fun _ V=>pullV gg V) U (k+1)=mapR (fun _ V=>pullV gg V) U k):=mapR_same (fun j hj=>by show pullV gg (fun j=>U (k*12+j)) j=_;unfold pullV;rw[live_s hSL];rfl)
        have hE:Below wr.heap.size wr (wr.alloc (Obj.cells #[.int .i64 (U (k*12)),.int .i64 (U (k*12+1)),.int .i64 (U (k*12+2)),.int .i64 (U (k*12+3)),.int .i64 (U (k*12+4)),.int .i64 (U (k*12+5)),.int .i64 (U (k*12+6)),.int .i64 (U (k*12+7)),.int .i64 (U (k*12+8)),.int .i64 (U (k*12+9)),.int .i64 (U (k*12+10)),.int .i64 (U (k*12+11))] 33)):=(Below.refl _ _).alloc (Nat.le_refl _) _
        go_wp2_with (go_at_call 41;refine(l6Sleeps_k (fun j=>U (k*12+j)) _ true hSL).mono ?_;rintro e w5 ⟨rfl,hb5⟩)
        go_roundw
        case rel=>exact⟨k+1,by omega,by go_num,by rw[HNO.out];exact(hO.on hE).on hb5⟩
        case measure=>simp[intOf];omega
      | false=>
        have hlv:liveV (fun j=>U (k*12+j))=true:=live_t (V:=(fun j=>U (k*12+j))) hm hSL
        obtain⟨pm,hpm⟩:∃ pm,gg*U (k*12+8)=pm:=⟨_,rfl⟩
        have hpb:=mul_bd (a:=gg) (b:=U (k*12+8)) (A:=2560) (B:=1000) (by omega) (by omega)
        rw[hpm] at hpb
        obtain⟨y,hy⟩:∃ y,clampZ 20000000 (U (k*12+7)-pm)=y:=⟨_,rfl⟩
        have hw1:IntKind.i64.wrap pm=pm:=i64w (by omega)
        have hw2:IntKind.i64.wrap (U (k*12+7)-pm)=U (k*12+7)-pm:=i64w (by omega)
        have HS:Shut (putRow (mapR (fun _ V=>pullV gg V) U k) k (fun j=>if j=7 then y else U (k*12+j))=mapR (fun _ V=>pullV gg V) U (k+1)):=by
         show _=_
         rw[←mapR_set]
         congr 1
         funext j
         show _=pullV gg (fun j=>U (k*12+j)) j
         unfold pullV
         rw[hlv]
         show _=setV (fun j=>U (k*12+j)) 7 (clampZ 20000000 (U (k*12+7)-gg*U (k*12+8))) j
         rw[hpm,hy]
         rfl
        clear hlv
        have hE:Below wr.heap.size wr (wr.alloc (Obj.cells #[.int .i64 (U (k*12)),.int .i64 (U (k*12+1)),.int .i64 (U (k*12+2)),.int .i64 (U (k*12+3)),.int .i64 (U (k*12+4)),.int .i64 (U (k*12+5)),.int .i64 (U (k*12+6)),.int .i64 (U (k*12+7)),.int .i64 (U (k*12+8)),.int .i64 (U (k*12+9)),.int .i64 (U (k*12+10)),.int .i64 (U (k*12+11))] 33)):=(Below.refl _ _).alloc (Nat.le_refl _) _
        have hO2:=hO.on hE
        have hz2:wr.heap.size<(wr.alloc (Obj.cells #[.int .i64 (U (k*12)),.int .i64 (U (k*12+1)),.int .i64 (U (k*12+2)),.int .i64 (U (k*12+3)),.int .i64 (U (k*12+4)),.int .i64 (U (k*12+5)),.int .i64 (U (k*12+6)),.int .i64 (U (k*12+7)),.int .i64 (U (k*12+8)),.int .i64 (U (k*12+9)),.int .i64 (U (k*12+10)),.int .i64 (U (k*12+11))] 33)).heap.size:=by simp
        have x0:(wr.alloc (Obj.cells #[.int .i64 (U (k*12)),.int .i64 (U (k*12+1)),.int .i64 (U (k*12+2)),.int .i64 (U (k*12+3)),.int .i64 (U (k*12+4)),.int .i64 (U (k*12+5)),.int .i64 (U (k*12+6)),.int .i64 (U (k*12+7)),.int .i64 (U (k*12+8)),.int .i64 (U (k*12+9)),.int .i64 (U (k*12+10)),.int .i64 (U (k*12+11))] 33)).cell? ⟨wr.heap.size,0,none⟩=some (.int .i64 (U (k*12))):=by go_simp
        have x1:(wr.alloc (Obj.cells #[.int .i64 (U (k*12)),.int .i64 (U (k*12+1)),.int .i64 (U (k*12+2)),.int .i64 (U (k*12+3)),.int .i64 (U (k*12+4)),.int .i64 (U (k*12+5)),.int .i64 (U (k*12+6)),.int .i64 (U (k*12+7)),.int .i64 (U (k*12+8)),.int .i64 (U (k*12+9)),.int .i64 (U (k*12+10)),.int .i64 (U (k*12+11))] 33)).cell? ⟨wr.heap.size,1,none⟩=some (.int .i64 (U (k*12+1))):=by go_simp
        have x2:(wr.alloc (Obj.cells #[.int .i64 (U (k*12)),.int .i64 (U (k*12+1)),.int .i64 (U (k*12+2)),.int .i64 (U (k*12+3)),.int .i64 (U (k*12+4)),.int .i64 (U (k*12+5)),.int .i64 (U (k*12+6)),.int .i64 (U (k*12+7)),.int .i64 (U (k*12+8)),.int .i64 (U (k*12+9)),.int .i64 (U (k*12+10)),.int .i64 (U (k*12+11))] 33)).cell? ⟨wr.heap.size,2,none⟩=some (.int .i64 (U (k*12+2))):=by go_simp
        have x3:(wr.alloc (Obj.cells #[.int .i64 (U (k*12)),.int .i64 (U (k*12+1)),.int .i64 (U (k*12+2)),.int .i64 (U (k*12+3)),.int .i64 (U (k*12+4)),.int .i64 (U (k*12+5)),.int .i64 (U (k*12+6)),.int .i64 (U (k*12+7)),.int .i64 (U (k*12+8)),.int .i64 (U (k*12+9)),.int .i64 (U (k*12+10)),.int .i64 (U (k*12+11))] 33)).cell? ⟨wr.heap.size,3,none⟩=some (.int .i64 (U (k*12+3))):=by go_simp
        have x4:(wr.alloc (Obj.cells #[.int .i64 (U (k*12)),.int .i64 (U (k*12+1)),.int .i64 (U (k*12+2)),.int .i64 (U (k*12+3)),.int .i64 (U (k*12+4)),.int .i64 (U (k*12+5)),.int .i64 (U (k*12+6)),.int .i64 (U (k*12+7)),.int .i64 (U (k*12+8)),.int .i64 (U (k*12+9)),.int .i64 (U (k*12+10)),.int .i64 (U (k*12+11))] 33)).cell? ⟨wr.heap.size,4,none⟩=some (.int .i64 (U (k*12+4))):=by go_simp
        have x5:(wr.alloc (Obj.cells #[.int .i64 (U (k*12)),.int .i64 (U (k*12+1)),.int .i64 (U (k*12+2)),.int .i64 (U (k*12+3)),.int .i64 (U (k*12+4)),.int .i64 (U (k*12+5)),.int .i64 (U (k*12+6)),.int .i64 (U (k*12+7)),.int .i64 (U (k*12+8)),.int .i64 (U (k*12+9)),.int .i64 (U (k*12+10)),.int .i64 (U (k*12+11))] 33)).cell? ⟨wr.heap.size,5,none⟩=some (.int .i64 (U (k*12+5))):=by go_simp
        have x6:(wr.alloc (Obj.cells #[.int .i64 (U (k*12)),.int .i64 (U (k*12+1)),.int .i64 (U (k*12+2)),.int .i64 (U (k*12+3)),.int .i64 (U (k*12+4)),.int .i64 (U (k*12+5)),.int .i64 (U (k*12+6)),.int .i64 (U (k*12+7)),.int .i64 (U (k*12+8)),.int .i64 (U (k*12+9)),.int .i64 (U (k*12+10)),.int .i64 (U (k*12+11))] 33)).cell? ⟨wr.heap.size,6,none⟩=some (.int .i64 (U (k*12+6))):=by go_simp
        have x7:(wr.alloc (Obj.cells #[.int .i64 (U (k*12)),.int .i64 (U (k*12+1)),.int .i64 (U (k*12+2)),.int .i64 (U (k*12+3)),.int .i64 (U (k*12+4)),.int .i64 (U (k*12+5)),.int .i64 (U (k*12+6)),.int .i64 (U (k*12+7)),.int .i64 (U (k*12+8)),.int .i64 (U (k*12+9)),.int .i64 (U (k*12+10)),.int .i64 (U (k*12+11))] 33)).cell? ⟨wr.heap.size,7,none⟩=some (.int .i64 (U (k*12+7))):=by go_simp
        have x8:(wr.alloc (Obj.cells #[.int .i64 (U (k*12)),.int .i64 (U (k*12+1)),.int .i64 (U (k*12+2)),.int .i64 (U (k*12+3)),.int .i64 (U (k*12+4)),.int .i64 (U (k*12+5)),.int .i64 (U (k*12+6)),.int .i64 (U (k*12+7)),.int .i64 (U (k*12+8)),.int .i64 (U (k*12+9)),.int .i64 (U (k*12+10)),.int .i64 (U (k*12+11))] 33)).cell? ⟨wr.heap.size,8,none⟩=some (.int .i64 (U (k*12+8))):=by go_simp
        have x9:(wr.alloc (Obj.cells #[.int .i64 (U (k*12)),.int .i64 (U (k*12+1)),.int .i64 (U (k*12+2)),.int .i64 (U (k*12+3)),.int .i64 (U (k*12+4)),.int .i64 (U (k*12+5)),.int .i64 (U (k*12+6)),.int .i64 (U (k*12+7)),.int .i64 (U (k*12+8)),.int .i64 (U (k*12+9)),.int .i64 (U (k*12+10)),.int .i64 (U (k*12+11))] 33)).cell? ⟨wr.heap.size,9,none⟩=some (.int .i64 (U (k*12+9))):=by go_simp
        have x10:(wr.alloc (Obj.cells #[.int .i64 (U (k*12)),.int .i64 (U (k*12+1)),.int .i64 (U (k*12+2)),.int .i64 (U (k*12+3)),.int .i64 (U (k*12+4)),.int .i64 (U (k*12+5)),.int .i64 (U (k*12+6)),.int .i64 (U (k*12+7)),.int .i64 (U (k*12+8)),.int .i64 (U (k*12+9)),.int .i64 (U (k*12+10)),.int .i64 (U (k*12+11))] 33)).cell? ⟨wr.heap.size,10,none⟩=some (.int .i64 (U (k*12+10))):=by go_simp
        have x11:(wr.alloc (Obj.cells #[.int .i64 (U (k*12)),.int .i64 (U (k*12+1)),.int .i64 (U (k*12+2)),.int .i64 (U (k*12+3)),.int .i64 (U (k*12+4)),.int .i64 (U (k*12+5)),.int .i64 (U (k*12+6)),.int .i64 (U (k*12+7)),.int .i64 (U (k*12+8)),.int .i64 (U (k*12+9)),.int .i64 (U (k*12+10)),.int .i64 (U (k*12+11))] 33)).cell? ⟨wr.heap.size,11,none⟩=some (.int .i64 (U (k*12+11))):=by go_simp
        have xf:∀ o,(wr.alloc (Obj.cells #[.int .i64 (U (k*12)),.int .i64 (U (k*12+1)),.int .i64 (U (k*12+2)),.int .i64 (U (k*12+3)),.int .i64 (U (k*12+4)),.int .i64 (U (k*12+5)),.int .i64 (U (k*12+6)),.int .i64 (U (k*12+7)),.int .i64 (U (k*12+8)),.int .i64 (U (k*12+9)),.int .i64 (U (k*12+10)),.int .i64 (U (k*12+11))] 33)).frozen? ⟨wr.heap.size,o,none⟩=false:=fun o=>by go_simp
        go_upto_region 6 with fail
        generalize (wr.alloc (Obj.cells #[.int .i64 (U (k*12)),.int .i64 (U (k*12+1)),.int .i64 (U (k*12+2)),.int .i64 (U (k*12+3)),.int .i64 (U (k*12+4)),.int .i64 (U (k*12+5)),.int .i64 (U (k*12+6)),.int .i64 (U (k*12+7)),.int .i64 (U (k*12+8)),.int .i64 (U (k*12+9)),.int .i64 (U (k*12+10)),.int .i64 (U (k*12+11))] 33))=wx at hE hO2 hz2 x0 x1 x2 x3 x4 x5 x6 x7 x8 x9 x10 x11 xf ⊢
        have hne:¬ wr.heap.size=g:=by omega
        have hne':¬ g=wr.heap.size:=by omega
        have hbw:=hO.bel.size
        generalize wr.heap.size=bp at hz2 x0 x1 x2 x3 x4 x5 x6 x7 x8 x9 x10 x11 xf hne hne' hE hg2 hbw ⊢
        clear hO df d0 d1 d2 d3 d4 d5 d6 d7 d8 d9 d10 d11 hE
        go_upto_region 7 with(go_at_call 41;refine(l6Sleeps_k (fun j=>U (k*12+j)) _ false hSL).mono ?_;rintro e w5 ⟨rfl,hb5⟩)
        have hO5:=hO2.on hb5
        obtain⟨hc5,hf5⟩:=bcell hb5
        have z0:=(hc5 bp 0 hz2).trans x0
        have z1:=(hc5 bp 1 hz2).trans x1
        have z2:=(hc5 bp 2 hz2).trans x2
        have z3:=(hc5 bp 3 hz2).trans x3
        have z4:=(hc5 bp 4 hz2).trans x4
        have z5:=(hc5 bp 5 hz2).trans x5
        have z6:=(hc5 bp 6 hz2).trans x6
        have z7:=(hc5 bp 7 hz2).trans x7
        have z8:=(hc5 bp 8 hz2).trans x8
        have z9:=(hc5 bp 9 hz2).trans x9
        have z10:=(hc5 bp 10 hz2).trans x10
        have z11:=(hc5 bp 11 hz2).trans x11
        have zf:=fun o=>(hf5 bp o hz2).trans (xf o)
        have hz5:bp<w5.heap.size:=Nat.lt_of_lt_of_le hz2 hb5.size
        clear hc5 hf5 x0 x1 x2 x3 x4 x5 x6 x7 x8 x9 x10 x11 xf hb5 hO2
        go_upto_region 8 with(go_at_call 70;refine(l6Within_any _ _ _ (by omega) (by omega)).mono ?_;rintro e w6 ⟨rfl,h6⟩;have h6':=h6.symm;subst h6';clear h6)
        (try rw[hy])
        have hs7:Fr (fun b=>b=bp) w5 (w5.setCell ⟨bp,7,none⟩ (.int .i64 y)):=Fr.setCell (X:=fun b=>b=bp) rfl _
        have hO7:OutL w (w5.setCell ⟨bp,7,none⟩ (.int .i64 y)) 33 12 (some ⟨g,0,none⟩) n c1 (mapR (fun _ V=>pullV gg V) U k):=⟨hO5.bel.setCell (by omega) _,hO5.own.frame hs7 (fun b e x=>by simp[Value.ownBlock] at e;omega)⟩
        have uf:=hO7.own.fro
        have u0:=hO7.own.cellq (q:=k*12) (by omega)
        have u1:=hO7.own.cellq (q:=k*12+1) (by omega)
        have u2:=hO7.own.cellq (q:=k*12+2) (by omega)
        have u3:=hO7.own.cellq (q:=k*12+3) (by omega)
        have u4:=hO7.own.cellq (q:=k*12+4) (by omega)
        have u5:=hO7.own.cellq (q:=k*12+5) (by omega)
        have u6:=hO7.own.cellq (q:=k*12+6) (by omega)
        have u7:=hO7.own.cellq (q:=k*12+7) (by omega)
        have u8:=hO7.own.cellq (q:=k*12+8) (by omega)
        have u9:=hO7.own.cellq (q:=k*12+9) (by omega)
        have u10:=hO7.own.cellq (q:=k*12+10) (by omega)
        have u11:=hO7.own.cellq (q:=k*12+11) (by omega)
        have t0:(w5.setCell ⟨bp,7,none⟩ (.int .i64 y)).cell? ⟨bp,0,none⟩=some (.int .i64 (U (k*12))):=by go_simp
        have t1:(w5.setCell ⟨bp,7,none⟩ (.int .i64 y)).cell? ⟨bp,1,none⟩=some (.int .i64 (U (k*12+1))):=by go_simp
        have t2:(w5.setCell ⟨bp,7,none⟩ (.int .i64 y)).cell? ⟨bp,2,none⟩=some (.int .i64 (U (k*12+2))):=by go_simp
        have t3:(w5.setCell ⟨bp,7,none⟩ (.int .i64 y)).cell? ⟨bp,3,none⟩=some (.int .i64 (U (k*12+3))):=by go_simp
        have t4:(w5.setCell ⟨bp,7,none⟩ (.int .i64 y)).cell? ⟨bp,4,none⟩=some (.int .i64 (U (k*12+4))):=by go_simp
        have t5:(w5.setCell ⟨bp,7,none⟩ (.int .i64 y)).cell? ⟨bp,5,none⟩=some (.int .i64 (U (k*12+5))):=by go_simp
        have t6:(w5.setCell ⟨bp,7,none⟩ (.int .i64 y)).cell? ⟨bp,6,none⟩=some (.int .i64 (U (k*12+6))):=by go_simp
        have t7:(w5.setCell ⟨bp,7,none⟩ (.int .i64 y)).cell? ⟨bp,7,none⟩=some (.int .i64 (y)):=by go_simp
        have t8:(w5.setCell ⟨bp,7,none⟩ (.int .i64 y)).cell? ⟨bp,8,none⟩=some (.int .i64 (U (k*12+8))):=by go_simp
        have t9:(w5.setCell ⟨bp,7,none⟩ (.int .i64 y)).cell? ⟨bp,9,none⟩=some (.int .i64 (U (k*12+9))):=by go_simp
        have t10:(w5.setCell ⟨bp,7,none⟩ (.int .i64 y)).cell? ⟨bp,10,none⟩=some (.int .i64 (U (k*12+10))):=by go_simp
        have t11:(w5.setCell ⟨bp,7,none⟩ (.int .i64 y)).cell? ⟨bp,11,none⟩=some (.int .i64 (U (k*12+11))):=by go_simp
        generalize (w5.setCell ⟨bp,7,none⟩ (.int .i64 y))=w7 at hO7 uf u0 t0 u1 t1 u2 t2 u3 t3 u4 t4 u5 t5 u6 t6 u7 t7 u8 t8 u9 t9 u10 t10 u11 t11 ⊢
        clear z0 z1 z2 z3 z4 z5 z6 z7 z8 z9 z10 z11 zf hO5
        go_wp2_with fail
        have hq:=put12 hO7.own hlt (fun j=>if j=7 then y else U (k*12+j))
        rw[HS.out] at hq
        have hqb:=(putFr (w4:=w7) (g:=g) (p:=k) (fun j=>if j=7 then y else U (k*12+j))).below (B:=w.heap.size) hO7.bel.size (fun b e=>by omega)
        go_roundw
        case rel=>exact⟨k+1,by omega,by go_num,hO7.bel.trans hqb,hq⟩
        case measure=>simp[intOf];omega
    · have HNO:Shut (mapR (fun _ V=>pullV gg V) U (k+1)=mapR (fun _ V=>pullV gg V) U k):=mapR_same (fun j hj=>by show pullV gg (fun j=>U (k*12+j)) j=_;unfold pullV;rw[live_m (V:=(fun j=>U (k*12+j))) hm];rfl)
      have hE:Below wr.heap.size wr (wr.alloc (Obj.cells #[.int .i64 (U (k*12)),.int .i64 (U (k*12+1)),.int .i64 (U (k*12+2)),.int .i64 (U (k*12+3)),.int .i64 (U (k*12+4)),.int .i64 (U (k*12+5)),.int .i64 (U (k*12+6)),.int .i64 (U (k*12+7)),.int .i64 (U (k*12+8)),.int .i64 (U (k*12+9)),.int .i64 (U (k*12+10)),.int .i64 (U (k*12+11))] 33)):=(Below.refl _ _).alloc (Nat.le_refl _) _
      go_wp2_with fail
      go_roundw
      case rel=>exact⟨k+1,by omega,by go_num,by rw[HNO.out];exact hO.on hE⟩
      case measure=>simp[intOf];omega
  · obtain rfl:k=n:=by omega
    go_wp2_with fail
    go_ret
    exact⟨_,_,rfl,hO⟩
end Go.Proofs.YtcalhcfinkhemaaGreatDoor
