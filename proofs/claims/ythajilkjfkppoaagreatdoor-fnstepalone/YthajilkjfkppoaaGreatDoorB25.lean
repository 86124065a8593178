/- Texts of a proof. -/
import Derived.Test.YthajilkjfkppoaaGreatDoorB6
import Derived.Test.YthajilkjfkppoaaGreatDoorB4
import Derived.Deep.RegionHeld3
import Derived.Deep.DeepCutAuto
import Derived.Test.YthajilkjfkppoaaGreatDoorB17
import Derived.Test.YthajilkjfkppoaaGreatDoorB12
import Derived.Test.YthajilkjfkppoaaGreatDoorB18
import Derived.Test.YthajilkjfkppoaaGreatDoorB9
import Derived.Test.YthajilkjfkppoaaGreatDoorB7
import Derived.LoopNIn
import Derived.LoopIn
import Derived.OwnWalkIn
import Derived.Test.YthajilkjfkppoaaGreatDoorB15
import Derived.Test.YthajilkjfkppoaaGreatDoorB1
import Derived.Test.YthajilkjfkppoaaGreatDoorB5
import Derived.Test.YthajilkjfkppoaaGreatDoorB3
set_option maxHeartbeats 16000000
set_option maxRecDepth 20000
namespace Go.Proofs.YthajilkjfkppoaaGreatDoor
open Go.RowKit
set_option linter.unusedVariables false
set_option linter.unusedSimpArgs false
def B2 (x:Int):Prop:= -2000000000≤x∧x≤2000000000
def HN (X Y D:Int):Prop:=B2 X∧B2 Y
end Go.Proofs.YthajilkjfkppoaaGreatDoor
namespace Go.Proofs.YthajilkjfkppoaaGreatDoor
open Go.RowKit
set_option linter.unusedVariables false
def lvK (U:Nat→Int) (k:Nat):Bool:= !decide (U (k*12+8)=0)&& !decide (U (k*12+11)=8)
def ItV (P:Program) (gf:Nat) (bound:Array Value) (encs:Nat→Array Value) (Col:(Nat→Int)→World→Prop) (nn:Nat) (w:World):Prop:=
 ∀ (l:Nat) (J:Nat→(Nat→Int)→World→Prop) (U0:Nat→Int) (W:World),Below w.heap.size w W→
   (∀ k U A A',J k U A→Sm W.heap.size A A'→J k U A')→(∀ k U A,J k U A→Col U A)→
   (∀ k U A,J k U A→k<nn→lvK U k=false→J (k+1) U A)→
   (∀ k U A,J k U A→k<nn→lvK U k=true→YieldAt Fence.wide 0 P l (encs k) A fun e A'=>e= .returned (.bool true)∧(∃ U',J (k+1) U' A')∧Kcs W.heap.size (fun _=>True) A A')→
   J 0 U0 W→CallsIn Fence.wide 0 P gf (bound++ #[.func (.yield l) #[] #[]]) W fun e A=>(∃ v,e= .returned v)∧∃ U,J nn U A
theorem wp_range_outV {P:Program} {g:Operand} {ps:Array Tmp} {assign body:Code} {Q:Exit→Act→World→Prop} {a:Act} {w:World} {gf:Nat} {bound:Array Value}
 (hg:a.eval g= .func (.func gf) bound #[]) (eg:∀ args w,(callFunc gf args).run P w= .ok (.enter gf args) w)
 {encs:Nat→Array Value} {Col:(Nat→Int)→World→Prop} {nn:Nat} (hit:ItV P gf bound encs Col nn w) (hps:∀ k,(encs k).size=ps.size)
 (I:Nat→(Nat→Int)→World→Prop) (hI:∀ k U A B,I k U A→Sm w.heap.size A B→I k U B) (hcol:∀ k U A,I k U A→Col U A) (U0:Nat→Int) (h0:I 0 U0 w)
 (hskip:∀ k U A,I k U A→k<nn→lvK U k=false→I (k+1) U A)
 (hround:∀ l k U W,w.heap.size≤l→l<w.heap.size+2→w.heap.size+2≤W.heap.size→I k U W→k<nn→lvK U k=true→
   assign.wpIn (Fence.wide.inRound l) 0 P (Exit.then (fun a₁ W₁=>KeepsFrom w.heap.size W W₁∧∀ W₂,Sm w.heap.size W₁ W₂→(∀ (B':Nat) (H':Nat→Prop),l<B'→Kcs B' H' W₁ W₂)→(∃ r,W₂.heap[l]? =some (.loop r))→
    body.wpIn (Fence.wide.inRound l) 0 P (rdPost w.heap.size (fun W'=>(∃ U',I (k+1) U' W')∧Kcs (w.heap.size+2) (fun _=>True) W W') (fun _ _=>False) W₂) a₁ W₂) (fun _ _ _=>False))
   {tmps:=(ps.zip (encs k)).foldl (fun t (p,v)=>t.setIfInBounds p v) a.tmps,defers:=[]} W)
 (hdone:∀ (D:Nat) (U:Nat→Int) (W:World),w.heap.size≤D→I nn U W→W.heap[D]? =some (.deferred (some []))→Q .normal {a with defers:={target:= .collected D,args:= #[]}::a.defers} W):
 (Code.rangeFunc g ps assign body).wp P Q a w:=by
 refine wpIn_wide.1 (wpIn_rangeFunc (n:=0) ?_)
 intro fn _
 obtain⟨rec,hrec⟩:∃ rec:LoopState→Option Code→Loop,rec=fun st pe=>{state:=st,pending:=pe,fn,tmps:=a.tmps,params:=ps,assign,body,defers:=w.heap.size}:=⟨_,rfl⟩
 obtain⟨W1,hW1⟩:∃ W1,(w.alloc (.deferred (some []))).alloc (.loop (rec .ready none))=W1:=⟨_,rfl⟩
 have hb1:Below w.heap.size w W1:=by rw[←hW1];exact((Below.refl _ w).alloc (Nat.le_refl _) _).alloc (by simp) _
 have hz1:W1.heap.size=w.heap.size+2:=by rw[←hW1];simp
 have hL1:W1.heap[w.heap.size+1]? =some (.loop (rec .ready none)):=by
  rw[←hW1];have:=World.alloc_heap_new (w.alloc (.deferred (some []))) (.loop (rec .ready none));rwa [World.size_alloc] at this
 have hK1:W1.heap[w.heap.size]? =some (.deferred (some [])):=by
  rw[←hW1];exact(Below.heap_alloc _ _ _ (by simp)).trans (World.alloc_heap_new w _)
 refine⟨w.heap.size+1,[{target:= .collected w.heap.size,args:= #[]}],W1,{target:= .fn (.func gf) #[],args:=bound++ #[.func (.yield (w.heap.size+1)) #[] #[]]},W1,gf,
  bound++ #[.func (.yield (w.heap.size+1)) #[] #[]],W1,?_,?_,fun _ _=>trivial,?_,(fun e=>by cases e),?_⟩
 · rw[←hW1,hrec];exact run_enterLoop_outer _ _ _ _ _
 · simp only[resolve,hg]
   simp[go_sem]
 · simp[invoke,go_sem,eg]
 · refine(hit (w.heap.size+1)
    (fun k U W=>I k U W∧W.heap[w.heap.size+1]? =some (.loop (rec .ready none))∧W.heap[w.heap.size]? =some (.deferred (some []))∧w.heap.size+2≤W.heap.size)
    U0 W1 hb1 ?_ ?_ ?_ ?_ ⟨hI _ _ _ _ h0 (Sm.of_below hb1 (Nat.le_refl _)),hL1,hK1,by omega⟩).mono ?_
   · rintro k U A B ⟨h1,h2,h3,h4⟩ hb
     rw[hz1] at hb
     exact⟨hI _ _ _ _ h1 ⟨hb.below.mono (by omega),hb.cells⟩,(hb.below.block _ (by omega)).trans h2,(hb.below.block _ (by omega)).trans h3,Nat.le_trans h4 hb.size⟩
   · rintro k U A ⟨h1,_⟩
     exact hcol _ _ _ h1
   · rintro k U A ⟨h1,h2,h3,h4⟩ hk hl
     exact⟨hskip _ _ _ h1 hk hl,h2,h3,h4⟩
   · rintro k U W ⟨h1,h2,h3,h4⟩ hk hlv
     rw[hz1]
     refine(yield_roundS (P:=P) (ps:=ps) (assign:=assign) (body:=body) (a:=a) (B:=w.heap.size) (l:=w.heap.size+1) (dl:=w.heap.size) (fn:=fn) (args:=encs k) (hps k)
      (I':=fun W'=>(∃ U',I (k+1) U' W')∧Kcs (w.heap.size+2) (fun _=>True) W W')
      (fun A r o h hl=>⟨h.1.imp fun U' h=>hI _ _ _ _ h (Sm.putObj _ hl rfl (by omega)),h.2.trans (Kcs.putObj _ (by omega))⟩)
      (Hh:=fun W=>W.heap[w.heap.size]? =some (.deferred (some []))∧w.heap.size+2≤W.heap.size) (fun A B h hk=>⟨hk.same _ _ (Nat.le_refl _) h.1 rfl,Nat.le_trans h.2 hk.size⟩) (fun A o h=>⟨(World.putObj_heap_other (by omega)).trans h.1,by simpa [World.putObj] using h.2⟩) hrec (by omega) h2 ⟨h3,h4⟩
      (hround _ k U W (by omega) (by omega) h4 h1 hk hlv)).mono ?_
     rintro e W' ⟨e1,⟨⟨U',h1⟩,hc⟩,h2,h3,h4⟩
     exact⟨e1,⟨U',h1,h2,h3,h4⟩,hc⟩
   · rintro e W2 ⟨⟨v,rfl⟩,U,hi,hl,hk,_⟩
     exact⟨none,_,by have:=run_endLoop (P:=P) hl (by rw[hrec];simp);rw[hrec] at this;exact this,hdone _ U _ (Nat.le_refl _) (hI _ _ _ _ hi (Sm.putObj _ hl rfl (by omega))) ((World.putObj_heap_other (by omega)).trans hk)⟩
end Go.Proofs.YthajilkjfkppoaaGreatDoor
namespace Go.Proofs.YthajilkjfkppoaaGreatDoor
open Go.RowKit
set_option linter.unusedVariables false
set_option linter.unusedSimpArgs false
theorem keepL {w w':World} {p:Addr} {v:Value} (hb:Below w.heap.size w w') (h:w.cell? p=some v):w'.cell? p=some v:=(hb.cell (cell_lt h)).trans h
theorem kLv1 {cb n k:Nat} {V:Nat→Int} {G:Nat→Nat} {w:World} (h:HAt w cb n k V G) (b:Bool) (e:(!decide (V 8=0)&& !decide (V 11=8))=b):
 Calls Tryz.prog 168 #[hdk cb k] w fun e w'=>e= .returned (.bool b)∧Below w.heap.size w w':=by
 have hset:=cset_map
 have hE:Below w.heap.size w (w.alloc (.cells #[.int .i64 (k:Int),.pointer (some ⟨cb,0,none⟩)] 59)):=(Below.refl _ _).alloc (Nat.le_refl _) _
 have h':=h.below hE
 have x0:(w.alloc (.cells #[.int .i64 (k:Int),.pointer (some ⟨cb,0,none⟩)] 59)).cell? ⟨w.heap.size,0,none⟩=some (.int .i64 (k:Int)):=by go_simp
 have x1:(w.alloc (.cells #[.int .i64 (k:Int),.pointer (some ⟨cb,0,none⟩)] 59)).cell? ⟨w.heap.size,1,none⟩=some (.pointer (some ⟨cb,0,none⟩)):=by go_simp
 subst e
 cases h8:decide (V 8=0) with
 | true=>
   go_enter Tryz.func168,Tryz.ntmps168
   go_wp2_with (go_at_call 51;refine(kFixed h').mono ?_;rw[h8];rintro e w1 ⟨rfl,hb1⟩)
   go_ret
   exact⟨rfl,hE.trans (hb1.mono hE.size)⟩
 | false=>
   go_enter Tryz.func168,Tryz.ntmps168
   go_wp2_with (first
    |(have _:=hb1;go_at_call 24;refine(kSleeps (h'.below hb1)).mono ?_;rintro e w2 ⟨rfl,hb2⟩)
    |(go_at_call 51;refine(kFixed h').mono ?_;rw[h8];rintro e w1 ⟨rfl,hb1⟩;have y0:=keepL hb1 x0;have y1:=keepL hb1 x1))
   go_ret
   exact⟨rfl,(hE.trans (hb1.mono hE.size)).trans (hb2.mono (hE.trans (hb1.mono hE.size)).size)⟩
theorem opIn_w {P:Program} {Q:Exit→Act→World→Prop} {l0:Nat} {o:Oper} {a:Act} {w:World} {rest:List Oper} {ops:Array Oper} (hw:Region.wanted o (yielded ops a.tmps)=true) (hd:∀ c,o.op≠ .defer c)
 (h:∀ K,(∀ a w,wpListIn (Fence.wide.inRound l0) 0 P ops Q rest a w→K a w)→o.wp P a w K Q):wpListIn (Fence.wide.inRound l0) 0 P ops Q (o::rest) a w:=by
 unfold wpListIn
 rw[if_pos hw]
 exact opIn_of hd (h _ (fun _ _ h=>h))
theorem opIn_s {P:Program} {Q:Exit→Act→World→Prop} {l0:Nat} {o:Oper} {a:Act} {w:World} {rest:List Oper} {ops:Array Oper} (hw:Region.wanted o (yielded ops a.tmps)=false)
 (h:wpListIn (Fence.wide.inRound l0) 0 P ops Q rest (a.put o.dst undef) w):wpListIn (Fence.wide.inRound l0) 0 P ops Q (o::rest) a w:=by
 unfold wpListIn
 rw[if_neg (by rw[hw];decide)]
 exact⟨fun _ _=>trivial,h⟩
theorem opIn_y1 {P:Program} {Q:Exit→Act→World→Prop} {l0 l:Nat} {o:Oper} {a:Act} {w:World} {rest:List Oper} {ops:Array Oper} {x p:Operand} {ts:Array TypeId} {vp:Value} {R:Ending→World→Prop}
 (hw:Region.wanted o (yielded ops a.tmps)=true) (ho:o.op= .call {callee:= .value x,args:= #[p],argTypes:=ts}) (hx:a.eval x= .func (.yield l) #[] #[]) (hp:a.eval p=vp)
 (hY:YieldAt Fence.wide 0 P l #[vp] w R) (hK:∀ e w',R e w'→∃ v,e= .returned v∧wpListIn (Fence.wide.inRound l0) 0 P ops Q rest (a.put o.dst v) w'):wpListIn (Fence.wide.inRound l0) 0 P ops Q (o::rest) a w:=by
 obtain⟨fn,tmps,assign,body,hy,hR⟩:=hY
 obtain⟨dst,op,ty,pos,after,guard⟩:=o
 simp only at ho
 subst ho
 unfold wpListIn
 rw[if_pos hw]
 unfold Oper.wpIn
 refine⟨fun _ _=>trivial,?_⟩
 rw[Oper.semAt_eq _ _ _ (by intro c e;cases e)]
 have e:(execOp a.eval {dst:=dst,op:= .call {callee:= .value x,args:= #[p],argTypes:=ts},type:=ty,pos:=pos,after:=after,guard:=guard}).run P w= .ok (.round l fn tmps assign body) w:=by
  have hm:(#[p]:Array Operand).map a.eval= #[vp]:=by simp[hp]
  simp only[execOp,resolve,hx,hm]
  simp[go_sem,invoke,hy]
 rw[e,Oper.uponIn_round]
 refine⟨(fun e=>by cases e),hR.mono ?_⟩
 intro e w' h
 obtain⟨v,rfl,h2⟩:=hK e w' h
 exact h2
def ColM (mb cb n:Nat) (U:Nat→Int) (A:World):Prop:=A.cell? ⟨mb,0,none⟩=some (.pointer (some ⟨cb,0,none⟩))∧∃ S,Cs A cb n (colOf U) S
theorem live_enters:∀ args w,(callFunc 148 args).run Tryz.prog w= .ok (.enter 148 args) w:=enters_of Tryz.func148 (by kernel_rfl) rfl
section
attribute [local go_sem] Oper.semAt_some
theorem live_it (mb cb n:Nat) (w:World) (hn:n≤12):ItV Tryz.prog 148 #[.pointer (some ⟨mb,0,none⟩)] (fun k=> #[hdk cb k]) (ColM mb cb n) n w:=by
 intro l J U0 W hbW hJ hc hskip hY h0
 have hset:=cset_map
 refine callsIn_wide.2 (calls_of_wp_marks Tryz.func148 rfl ?_)
 simp only[Tryz.ntmps148,List.size_toArray,List.length_cons,List.length_nil,Nat.reduceAdd,Nat.reduceSub,Array.replicate_succ,Array.replicate_zero,List.push_toArray,List.append_toArray,List.nil_append,List.cons_append]
 obtain⟨m0,S0,hC0⟩:=hc _ _ _ h0
 have hE0:Below W.heap.size W (W.alloc (Obj.cells #[.func (.yield l) #[] #[]] 101)):=(Below.refl _ _).alloc (Nat.le_refl _) _
 have y0:(W.alloc (Obj.cells #[.func (.yield l) #[] #[]] 101)).cell? ⟨W.heap.size,0,none⟩=some (.func (.yield l) #[] #[]):=by go_simp
 have hJ0:=hJ _ _ _ _ h0 (Sm.of_below hE0 (Nat.le_refl _))
 have hC1:=hC0.below hE0
 have m1:=keepL hE0 m0
 go_upto_region 1 with fail
 have hyl:W.heap.size<(W.alloc (Obj.cells #[.func (.yield l) #[] #[]] 101)).heap.size:=by simp
 generalize (W.alloc (Obj.cells #[.func (.yield l) #[] #[]] 101))=w2 at hE0 y0 hJ0 hC1 m1 hyl ⊢
 obtain⟨ad,cc,hS0⟩:=(hC1.own 0 (by omega)).is
 have hd0:=hC1.hd 0 (by omega)
 rw[hS0] at hd0
 have hz:=hE0.size
 generalize W.heap.size=yb at*
 go_wp2
 refine wp_range_out (gf:=29) (bound:= #[.pointer (some ⟨cb,0,none⟩)]) rfl each_enters (each_it cb n cc ad w2 hC1.lt hd0 (by omega)) (fun _=>rfl) (fun k A=>(∃ U,J k U A)∧A.cell? ⟨yb,0,none⟩=some (.func (.yield l) #[] #[])∧w2.heap.size≤A.heap.size) (fun _ _=>False) ?_ (fun _ _ _ h _=>h) ⟨⟨_,hJ0⟩,y0,Nat.le_refl _⟩ ?round ?done (fun _ _ _ _ h _=>h.elim)
 · rintro i A A' ⟨⟨U,h1⟩,h2,h3⟩ hs
   exact⟨⟨U,hJ _ _ _ _ h1 ⟨hs.below.mono hz,hs.cells⟩⟩,hs.cell h2,Nat.le_trans h3 hs.size⟩
 case done=>
  rintro D A hD ⟨⟨U,h1⟩,h2,h3⟩ hK
  go_wp2
  refine marks_ret (B:=yb) (by omega) rfl hK fun A' hS=>⟨_,results_none rfl _ _ _,⟨_,rfl⟩,U,?_⟩
  exact hJ _ _ _ _ h1 hS
 case round=>
  rintro l0 k A hl0 ⟨⟨U,hJk⟩,hyb,hA2⟩ hk
  clear hJ0 hC1 hC0 m0 m1 h0 y0 hd0 hS0 hE0
  simp only[List.zip_toArray,List.zip_cons_cons,List.zip_nil_left,List.foldl_toArray,List.foldl_cons,List.foldl_nil,List.setIfInBounds_toArray,List.set_cons_succ,List.set_cons_zero]
  refine wpIn_region_plain (by rintro⟨_,_,h⟩;exact h) (by kernel_rfl) ?_
  go_wp2
  refine⟨(KeepsOthers.alloc _ _).from _,fun A2 hS hr=> ?_⟩
  clear hr
  have hE1:Below A.heap.size A (A.alloc (Obj.cells #[.int .i64 (k:Int),.pointer (some ⟨cb,0,none⟩)] 59)):=(Below.refl _ _).alloc (Nat.le_refl _) _
  have v0:(A.alloc (Obj.cells #[.int .i64 (k:Int),.pointer (some ⟨cb,0,none⟩)] 59)).cell? ⟨A.heap.size,0,none⟩=some (.int .i64 (k:Int)):=by go_simp
  have v1:(A.alloc (Obj.cells #[.int .i64 (k:Int),.pointer (some ⟨cb,0,none⟩)] 59)).cell? ⟨A.heap.size,1,none⟩=some (.pointer (some ⟨cb,0,none⟩)):=by go_simp
  generalize (A.alloc (Obj.cells #[.int .i64 (k:Int),.pointer (some ⟨cb,0,none⟩)] 59))=A1 at hE1 v0 v1 hS
  have hz2:w2.heap.size≤A2.heap.size:=Nat.le_trans hA2 (Nat.le_trans hE1.size hS.size)
  have hJ2:=hJ _ _ _ _ (hJ _ _ _ _ hJk ((Sm.of_below hE1 (by omega)))) ⟨hS.below.mono hz,hS.cells⟩
  have hyb2:=hS.cell (keepL hE1 hyb)
  replace v0:=hS.cell v0
  replace v1:=hS.cell v1
  clear hJk hyb hS hE1
  generalize A.heap.size=ba at v0 v1 ⊢
  have hbal:ba<A2.heap.size:=cell_lt (a:=⟨ba,0,none⟩) v0
  obtain⟨-,S2,hC2⟩:=hc _ _ _ hJ2
  have hat:=hC2.hat hk (by omega)
  obtain⟨lb,hlb⟩:∃ b,lvK U k=b:=⟨_,rfl⟩
  have hlb2:(!decide (colOf U 8 k=0)&& !decide (colOf U 11 k=8))=lb:=hlb
  refine wpIn_block ?_
  refine wpIn_seq_k fun K1 hK1=> ?_
  refine wpIn_region_list ?_
  refine opIn_w rfl (fun c e=>by cases e) fun K hK=> ?_
  go_simp
  refine hK _ _ ?_
  clear hK K
  refine opIn_w rfl (fun c e=>by cases e) fun K hK=> ?_
  go_simp
  (go_at_call 168;refine(kLv1 hat lb hlb2).mono ?_;rintro e w3 ⟨rfl,hb3⟩)
  refine hK _ _ ?_
  clear hK K
  refine opIn_w rfl (fun c e=>by cases e) fun K hK=> ?_
  go_simp
  refine hK _ _ ?_
  clear hK K
  have u0:=keepL hb3 v0
  have u1:=keepL hb3 v1
  have hyb3:=keepL hb3 hyb2
  have hJ3:=hJ _ _ _ _ hJ2 (Sm.of_below hb3 (by omega))
  have hz3:=hb3.size
  cases lb with
  | true=>
    have hyy:=hY _ _ _ hJ3 hk hlb
    refine opIn_w rfl (fun c e=>by cases e) fun K hK=> ?_
    go_simp
    refine hK _ _ ?_
    clear hK K
    refine opIn_w rfl (fun c e=>by cases e) fun K hK=> ?_
    go_simp
    refine hK _ _ ?_
    clear hK K
    refine opIn_y1 rfl rfl rfl rfl hyy ?_
    rintro e X3 ⟨rfl,⟨U',hJ4⟩,hKF⟩
    refine⟨_,rfl,?_⟩
    refine opIn_w rfl (fun c e=>by cases e) fun K hK=> ?_
    go_simp
    refine hK _ _ ?_
    clear hK K
    refine opIn_w rfl (fun c e=>by cases e) fun K hK=> ?_
    go_simp
    refine hK _ _ ?_
    clear hK K
    refine wpListIn_nil ?_
    refine hK1 _ _ ?_
    refine wpIn_cond_false rfl ?_
    refine wpIn_skip ?_
    have hk4:=hKF.others.size
    exact⟨(KeepsFrom.of_below hb3).trans ⟨hk4,fun q o hq h1 h2=>hKF.others.same q o (by omega) h1 h2⟩,⟨U',hJ4⟩,hKF.cell hyb3 (Nat.le_refl _) trivial,by omega⟩
  | false=>
    refine opIn_s rfl ?_
    refine opIn_s rfl ?_
    refine opIn_s rfl ?_
    refine opIn_s rfl ?_
    refine opIn_w rfl (fun c e=>by cases e) fun K hK=> ?_
    go_simp
    refine hK _ _ ?_
    clear hK K
    refine wpListIn_nil ?_
    refine hK1 _ _ ?_
    refine wpIn_cond_false rfl ?_
    refine wpIn_skip ?_
    exact⟨KeepsFrom.of_below hb3,⟨U,hskip _ _ _ hJ3 hk hlb⟩,hyb3,by omega⟩
end
end Go.Proofs.YthajilkjfkppoaaGreatDoor
namespace Go.Proofs.YthajilkjfkppoaaGreatDoor
open Go.RowKit
set_option linter.unusedVariables false
set_option linter.unusedSimpArgs false
abbrev zeroBd:Value:= .agg #[.int .i64 0,.int .i64 0,.int .i64 0,.int .i64 0,.int .i64 0,.int .i64 0,.int .i64 0,.int .i64 0,.int .i64 0,.int .i64 0,.int .i64 0,.int .i64 0]
def sumD (U:Nat→Int) (j:Nat):Nat→Int
 |0=>0
 |k+1=>sumD U j k+U (k*12+j)
structure SumAt (w2 W:World) (ab:Nat) (x y:Int):Prop where
 fr:Fr (fun b=>b=ab) w2 W
 cx:W.cell? ⟨ab,0,none⟩=some (.int .i64 x)
 cy:W.cell? ⟨ab,1,none⟩=some (.int .i64 y)
 fx:W.frozen? ⟨ab,0,none⟩=false
 fy:W.frozen? ⟨ab,1,none⟩=false
theorem SumAt.sm {B ab:Nat} {w2 W W':World} {x y:Int} (h:SumAt w2 W ab x y) (hs:Sm B W W') (hB:w2.heap.size≤B):SumAt w2 W' ab x y:=
 ⟨⟨hs.below.os.trans h.fr.os,hs.below.tape.trans h.fr.tape,hs.below.output.trans h.fr.output,Nat.le_trans h.fr.size hs.size,fun k hk hn=>(hs.below.block k (by omega)).trans (h.fr.block k hk hn),fun k o hk ho=>(hs.below.block k (by have:=(Array.getElem?_eq_some_iff.1 hk).1;omega)).trans (h.fr.kind k o hk ho)⟩,
   hs.cell h.cx,hs.cell h.cy,hs.frozen h.cx h.fx,hs.frozen h.cy h.fy⟩
theorem SumAt.below {ab:Nat} {w2 W W':World} {x y:Int} (h:SumAt w2 W ab x y) (hs:Below W.heap.size W W'):SumAt w2 W' ab x y:=
 h.sm (Sm.of_below hs (Nat.le_refl _)) h.fr.size
theorem SumAt.set {ab:Nat} {w2 W:World} {x y:Int} (h:SumAt w2 W ab x y) (x' y':Int):SumAt w2 ((W.setCell ⟨ab,0,none⟩ (.int .i64 x')).setCell ⟨ab,1,none⟩ (.int .i64 y')) ab x' y':=by
 have hx:=h.cx
 have hy:=h.cy
 have fx:=h.fx
 have fy:=h.fy
 have hset:=cset_map
 exact⟨(h.fr.trans (Fr.setCell (X:=fun b=>b=ab) rfl _)).trans (Fr.setCell (X:=fun b=>b=ab) rfl _),by go_simp,by go_simp,by go_simp,by go_simp⟩
end Go.Proofs.YthajilkjfkppoaaGreatDoor
