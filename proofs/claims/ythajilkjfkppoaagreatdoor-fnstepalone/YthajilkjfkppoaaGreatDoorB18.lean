/- Texts of a proof. -/
import Derived.Test.YthajilkjfkppoaaGreatDoorB14
import Derived.Test.YthajilkjfkppoaaGreatDoorB15
import Derived.Deep.RegionHeld3
import Derived.Deep.DeepCutAuto
import Derived.Test.YthajilkjfkppoaaGreatDoorB2
import Derived.Test.YthajilkjfkppoaaGreatDoorB5
import Derived.RangeFuncBound
import Derived.Test.YthajilkjfkppoaaGreatDoorB10
import Derived.Test.YthajilkjfkppoaaGreatDoorB3
set_option maxHeartbeats 16000000
set_option maxRecDepth 20000
namespace Go.Proofs.YthajilkjfkppoaaGreatDoor
open Go.RowKit
set_option linter.unusedVariables false
set_option linter.unusedSimpArgs false
def mvX (V:Nat→Int) (p:Int):Int:=clampZ 2560000 (V 4+p)
def mvY (V:Nat→Int) (q:Int):Int:=clampZ 2560000 (V 5+q)
def moveV (V:Nat→Int) (p q:Int):Nat→Int:=setV (setV (setV (setV V 4 (mvX V p)) 5 (mvY V q)) 6 (if mvX V p=V 4+p then V 6 else 0)) 7 (if mvY V q=V 5+q then V 7 else 0)
theorem setV_self (V:Nat→Int) (k:Nat):setV V k (V k)=V:=by funext j;unfold setV;split<;>simp_all
theorem setV_at (V:Nat→Int) (k j:Nat) (a:Int) (h:j≠k):setV V k a j=V j:=by unfold setV;rw[if_neg h]
theorem setV_is (V:Nat→Int) (k:Nat) (a:Int):setV V k a k=a:=by unfold setV;rw[if_pos rfl]
theorem l6Within_q (n m a:Int) (w:World) (h0:0≤m) (h1:m≤4000000000) (e:clampZ m n=a):
 Calls Tryz.prog 68 #[.int .i64 n,.int .i64 m] w fun e w'=>e= .returned (.int .i64 a)∧w'=w:=by
 subst e;exact l6Within_any n m w h0 h1
theorem l6Move_c (V:Nat→Int) (p q A B C D:Int) (w:World) (b4: -2560000≤V 4∧V 4≤2560000) (b5: -2560000≤V 5∧V 5≤2560000) (bp: -20000000≤p∧p≤20000000) (bq: -20000000≤q∧q≤20000000)
 (eA:clampZ 2560000 (V 4+p)=A) (eB:clampZ 2560000 (V 5+q)=B) (eC:(if A=V 4+p then V 6 else 0)=C) (eD:(if B=V 5+q then V 7 else 0)=D):
 Calls Tryz.prog 83 #[bodyW V,vv p q] w fun e w'=>e= .returned (bodyW (setV (setV (setV (setV V 4 A) 5 B) 6 C) 7 D))∧Below w.heap.size w w':=by
 have hset:=cset_map
 obtain⟨U,hU⟩:∃ U,setV (setV V 4 A) 5 B=U:=⟨_,rfl⟩
 obtain⟨X,hX⟩:∃ X,setV (setV U 6 C) 7 D=X:=⟨_,rfl⟩
 have i6U:U 6=V 6:=by rw[←hU,setV_at _ _ _ _ (by omega),setV_at _ _ _ _ (by omega)]
 have i7U:U 7=V 7:=by rw[←hU,setV_at _ _ _ _ (by omega),setV_at _ _ _ _ (by omega)]
 have i4U:U 4=A:=by rw[←hU,setV_at _ _ _ _ (by omega),setV_is]
 have i5U:U 5=B:=by rw[←hU,setV_is]
 rw[hU,hX]
 go_enter Tryz.func83,Tryz.ntmps83
 go_upto_region 1 with fail
 have h0:=PB.start w V p q
 generalize (((w.alloc (.cells #[.int .i64 (V 0),.int .i64 (V 1),.int .i64 (V 2),.int .i64 (V 3),.int .i64 (V 4),.int .i64 (V 5),.int .i64 (V 6),.int .i64 (V 7),.int .i64 (V 8),.int .i64 (V 9),.int .i64 (V 10),.int .i64 (V 11)] 35)).alloc (.cells #[.int .i64 p,.int .i64 q] 33)).alloc (.cells #[.int .i64 0,.int .i64 0,.int .i64 0,.int .i64 0,.int .i64 0,.int .i64 0,.int .i64 0,.int .i64 0,.int .i64 0,.int .i64 0,.int .i64 0,.int .i64 0] 35))=wx0 at h0 ⊢
 have i4:=h0.inn 4 (by omega)
 have i5:=h0.inn 5 (by omega)
 have n4:=h0.nfi 4 (by omega)
 have n5:=h0.nfi 5 (by omega)
 have y0:=h0.v0
 have y1:=h0.v1
 go_upto_region 3 with fail
 go_cut [] (fun wc=>PB w wc U p q)
 case first=>
  go_wp2_with (go_at_call 68;refine(l6Within_q _ _ _ _ (by omega) (by omega) (by with_reducible assumption)).mono ?_;rintro e w' ⟨rfl,rfl⟩)
  go_meet
  have q9:=PB.set (PB.set h0 (k:=4) (by omega) A) (k:=5) (by omega) B
  rw[hU] at q9
  exact q9
 case rest=>
 have h1:=hcut
 clear i4 i5 n4 n5 y0 y1 h0 hcut
 have i4:=h1.inn 4 (by omega)
 have i5:=h1.inn 5 (by omega)
 have i6:=h1.inn 6 (by omega)
 have i7:=h1.inn 7 (by omega)
 have n6:=h1.nfi 6 (by omega)
 have n7:=h1.nfi 7 (by omega)
 rw[i4U] at i4
 rw[i5U] at i5
 by_cases cA:A=V 4+p
 focus
  rw[if_pos cA] at eC;subst eC
  by_cases cB:B=V 5+q
  focus
   rw[if_pos cB] at eD;subst eD
   have hXU:X=U:=by rw[←hX,←i6U,setV_self,←i7U,setV_self]
   go_upto_region 8 with fail
   have h3:=h1
   rw[←hXU] at h3
   generalize wc=wq at h3 ⊢
  rotate_left
  focus
   rw[if_neg cB] at eD;subst eD
   have hXU:X=(setV U 7 0):=by rw[←hX,←i6U,setV_self]
   go_upto_region 8 with fail
   have h3:=(PB.set h1 (k:=7) (by omega) 0)
   rw[←hXU] at h3
   generalize (wc.setCell ⟨w.heap.size,7,none⟩ (.int .i64 0))=wq at h3 ⊢
 rotate_left 2
 focus
  rw[if_neg cA] at eC;subst eC
  by_cases cB:B=V 5+q
  focus
   rw[if_pos cB] at eD;subst eD
   have hXU:X=(setV U 6 0):=by rw[←hX,←i7U,←setV_at U 6 7 0 (by omega),setV_self]
   go_upto_region 8 with fail
   have h3:=(PB.set h1 (k:=6) (by omega) 0)
   rw[←hXU] at h3
   generalize (wc.setCell ⟨w.heap.size,6,none⟩ (.int .i64 0))=wq at h3 ⊢
  rotate_left
  focus
   rw[if_neg cB] at eD;subst eD
   have hXU:X=(setV (setV U 6 0) 7 0):=by rw[←hX]
   go_upto_region 8 with fail
   have h3:=(PB.set (PB.set h1 (k:=6) (by omega) 0) (k:=7) (by omega) 0)
   rw[←hXU] at h3
   generalize ((wc.setCell ⟨w.heap.size,6,none⟩ (.int .i64 0)).setCell ⟨w.heap.size,7,none⟩ (.int .i64 0))=wq at h3 ⊢
 all_goals
  clear i4 i5 i6 i7 n6 n7 h1 hXU hX hU i6U i7U i4U i5U cA cB eA eB
  have o0:=h3.inn 0 (by omega)
  have r0:=h3.res 0 (by omega)
  have f0:=h3.nfr 0 (by omega)
  have o1:=h3.inn 1 (by omega)
  have r1:=h3.res 1 (by omega)
  have f1:=h3.nfr 1 (by omega)
  have o2:=h3.inn 2 (by omega)
  have r2:=h3.res 2 (by omega)
  have f2:=h3.nfr 2 (by omega)
  have o3:=h3.inn 3 (by omega)
  have r3:=h3.res 3 (by omega)
  have f3:=h3.nfr 3 (by omega)
  have o4:=h3.inn 4 (by omega)
  have r4:=h3.res 4 (by omega)
  have f4:=h3.nfr 4 (by omega)
  have o5:=h3.inn 5 (by omega)
  have r5:=h3.res 5 (by omega)
  have f5:=h3.nfr 5 (by omega)
  have o6:=h3.inn 6 (by omega)
  have r6:=h3.res 6 (by omega)
  have f6:=h3.nfr 6 (by omega)
  have o7:=h3.inn 7 (by omega)
  have r7:=h3.res 7 (by omega)
  have f7:=h3.nfr 7 (by omega)
  have o8:=h3.inn 8 (by omega)
  have r8:=h3.res 8 (by omega)
  have f8:=h3.nfr 8 (by omega)
  have o9:=h3.inn 9 (by omega)
  have r9:=h3.res 9 (by omega)
  have f9:=h3.nfr 9 (by omega)
  have o10:=h3.inn 10 (by omega)
  have r10:=h3.res 10 (by omega)
  have f10:=h3.nfr 10 (by omega)
  have o11:=h3.inn 11 (by omega)
  have r11:=h3.res 11 (by omega)
  have f11:=h3.nfr 11 (by omega)
  have z0:=h3.big
  have hbel:=h3.bel
  clear h3
  go_wp2_with fail
  exact bodyPost_ret (v:=bodyW X) (by simp[results,Tryz.results83,go_sem, *]) rfl ⟨rfl,bel_a⟩
theorem l6Move_any (V:Nat→Int) (p q:Int) (w:World) (b4: -2560000≤V 4∧V 4≤2560000) (b5: -2560000≤V 5∧V 5≤2560000) (bp: -20000000≤p∧p≤20000000) (bq: -20000000≤q∧q≤20000000):
 Calls Tryz.prog 83 #[bodyW V,vv p q] w fun e w'=>e= .returned (bodyW (moveV V p q))∧Below w.heap.size w w':=
 l6Move_c V p q _ _ _ _ w b4 b5 bp bq rfl rfl rfl rfl
end Go.Proofs.YthajilkjfkppoaaGreatDoor
namespace Go.Proofs.YthajilkjfkppoaaGreatDoor
open Go.RowKit
set_option linter.unusedVariables false
structure Kxs (B:Nat) (S:Nat→Prop) (A A':World):Prop where
 below:Below B A A'
 cells:∀ (k:Nat) (o:Obj),A.heap[k]? =some o→o.isCells=true→¬ S k→A'.heap[k]? =some o
structure Kcs (B:Nat) (S:Nat→Prop) (A A':World):Prop where
 others:KeepsFrom B A A'
 own:∀ (k:Nat) (o:Obj),B≤k→S k→A.heap[k]? =some o→o.isCells=true→A'.heap[k]? =some o
def Gr (A:World) (S S':Nat→Prop):Prop:=∀ b,S' b→S b∨A.heap.size≤b
theorem Gr.refl (A:World) (S:Nat→Prop):Gr A S S:=fun _ h=> .inl h
theorem Gr.old {A:World} {S S':Nat→Prop} (h:Gr A S S') {b:Nat} (hb:b<A.heap.size) (hS:¬ S b):¬ S' b:=fun k=>by
 rcases h b k with e|e
 · exact hS e
 · omega
theorem Gr.trans {X Y:World} {S S' S'':Nat→Prop} (h:Gr X S S') (k:Gr Y S' S'') (hs:X.heap.size≤Y.heap.size):Gr X S S'':=fun b e=>by
 rcases k b e with z|z
 · exact h b z
 · exact .inr (by omega)
theorem Kxs.refl (B:Nat) (S:Nat→Prop) (A:World):Kxs B S A A:=⟨Below.refl _ _,fun _ _ h _ _=>h⟩
theorem Kxs.size {B:Nat} {S:Nat→Prop} {X Y:World} (h:Kxs B S X Y):X.heap.size≤Y.heap.size:=h.below.size
theorem Kxs.trans {B:Nat} {S:Nat→Prop} {X Y Z:World} (h:Kxs B S X Y) (k:Kxs B S Y Z):Kxs B S X Z:=⟨h.below.trans k.below,fun i o hi ho hS=>k.cells i o (h.cells i o hi ho hS) ho hS⟩
theorem Kxs.grown {B:Nat} {S S':Nat→Prop} {X Y Z:World} (h:Kxs B S X Y) (g:Gr X S S') (k:Kxs B S' Y Z):Kxs B S X Z:=
 ⟨h.below.trans k.below,fun i o hi ho hS=>k.cells i o (h.cells i o hi ho hS) ho (g.old (Array.getElem?_eq_some_iff.1 hi).1 hS)⟩
theorem Kxs.sm {B B':Nat} {S:Nat→Prop} {X Y Z:World} (h:Kxs B S X Y) (k:Sm B' Y Z) (hB:B≤B'):Kxs B S X Z:=⟨h.below.trans (k.below.mono hB),fun i o hi ho hS=>k.cells i o (h.cells i o hi ho hS) ho⟩
theorem Kxs.of_sm {B B':Nat} {S:Nat→Prop} {X Y:World} (k:Sm B' X Y) (hB:B≤B'):Kxs B S X Y:=(Kxs.refl B S X).sm k hB
theorem Kxs.fr {B:Nat} {S:Nat→Prop} {X Y Z:World} {T:Nat→Prop} (h:Kxs B S X Y) (k:Fr T Y Z) (hT:∀ b,T b→B≤b∧(S b∨X.heap.size≤b)) (hB:B≤X.heap.size):Kxs B S X Z:=
 ⟨h.below.trans (k.below (Nat.le_trans hB h.size) (fun b e=>(hT b e).1)),fun i o hi ho hS=>by
  have hl:i<X.heap.size:=(Array.getElem?_eq_some_iff.1 hi).1
  exact(k.block i (Nat.lt_of_lt_of_le hl h.size) (fun e=>by
   rcases(hT i e).2 with z|z
   · exact hS z
   · omega)).trans (h.cells i o hi ho hS)⟩
theorem Kxs.of_below {B:Nat} {S:Nat→Prop} {X Y:World} (k:Below X.heap.size X Y) (hB:B≤X.heap.size):Kxs B S X Y:=
 ⟨k.mono hB,fun i o hi _ _=>(k.block i (Array.getElem?_eq_some_iff.1 hi).1).trans hi⟩
theorem Kcs.refl (B:Nat) (S:Nat→Prop) (A:World):Kcs B S A A:=⟨KeepsFrom.refl _ _,fun _ _ _ _ h _=>h⟩
theorem Kcs.trans {B:Nat} {S:Nat→Prop} {X Y Z:World} (h:Kcs B S X Y) (k:Kcs B S Y Z):Kcs B S X Z:=⟨h.others.trans k.others,fun i o a b c d=>k.own i o a b (h.own i o a b c d) d⟩
theorem Kcs.fr {B:Nat} {S:Nat→Prop} {X Y:World} {T:Nat→Prop} (k:Fr T X Y) (hT:∀ b,T b→b<B∨¬ S b):Kcs B S X Y:=
 ⟨k.keeps B,fun i o hB hS hi ho=>(k.block i (Array.getElem?_eq_some_iff.1 hi).1 (fun e=>by
  rcases hT i e with z|z
  · omega
  · exact z hS)).trans hi⟩
theorem Kcs.of_below {B:Nat} {S:Nat→Prop} {X Y:World} (k:Below X.heap.size X Y):Kcs B S X Y:=Kcs.fr (T:=fun _=>False) (Fr.of_below k) (fun _ h=>h.elim)
theorem Kcs.putObj {B l:Nat} {S:Nat→Prop} {X:World} (o:Obj) (h:l<B):Kcs B S X (X.putObj l o):=
 ⟨⟨by simp[World.putObj],fun k x hk hx _=>(World.putObj_heap_other (by omega)).trans hx⟩,fun k x hB _ hx _=>(World.putObj_heap_other (by omega)).trans hx⟩
theorem Kcs.cell {B:Nat} {S:Nat→Prop} {X Y:World} (h:Kcs B S X Y) {p:Addr} {v:Value} (hc:X.cell? p=some v) (h1:B≤p.block) (h2:S p.block):Y.cell? p=some v:=by
 obtain⟨o,ho,hx⟩:=isCells_of_cell hc
 exact(World.cell?_of_block ((h.own _ _ h1 h2 ho hx).trans ho.symm)).trans hc
def ItGs (P:Program) (gf:Nat) (bound:Array Value) (Col:World→Prop) (E:(Nat→Prop)→Nat→Array Value→World→Prop) (nn:Nat) (w:World):Prop:=
 ∀ (l:Nat) (J:(Nat→Prop)→Nat→World→Prop) (W:World),Below w.heap.size w W→
   (∀ H H' k A A',J H k A→Kxs W.heap.size H A A'→Gr A H H'→J H' k A')→(∀ H k A,J H k A→Col A)→
   (∀ H W0,Below W.heap.size W W0→(∀ b,H b→W.heap.size≤b)→J H 0 W0)→
   (∀ H k A args,J H k A→k<nn→E H k args A→YieldAt Fence.wide 0 P l args A fun e A'=>e= .returned (.bool true)∧J H (k+1) A'∧Kcs W.heap.size H A A')→
   CallsIn Fence.wide 0 P gf (bound++ #[.func (.yield l) #[] #[]]) W fun e A=>(∃ v,e= .returned v)∧∃ H,J H nn A
theorem yield_roundS {P:Program} {ps:Array Tmp} {assign body:Code} {a:Act} {B l dl:Nat} {fn:FuncId} {args:Array Value} (hps:args.size=ps.size)
 {I':World→Prop} (hI':∀ A r o,I' A→A.heap[l]? =some (.loop r)→I' (A.putObj l (.loop o))) {Hh:World→Prop} (hH:∀ A B',Hh A→KeepsFrom B A B'→Hh B') (hHp:∀ A o,Hh A→Hh (A.putObj l o))
 {rec:LoopState→Option Code→Loop} (hrec:rec=fun st pe=>{state:=st,pending:=pe,fn,tmps:=a.tmps,params:=ps,assign,body,defers:=dl}) (hBl:B≤l)
 {W:World} (hl:W.heap[l]? =some (.loop (rec .ready none))) (hh:Hh W)
 (hround:assign.wpIn (Fence.wide.inRound l) 0 P (Exit.then (fun a₁ W₁=>KeepsFrom B W W₁∧∀ W₂,Sm B W₁ W₂→(∀ (B':Nat) (H':Nat→Prop),l<B'→Kcs B' H' W₁ W₂)→(∃ r,W₂.heap[l]? =some (.loop r))→body.wpIn (Fence.wide.inRound l) 0 P (rdPost B I' (fun _ _=>False) W₂) a₁ W₂) (fun _ _ _=>False))
   {tmps:=(ps.zip args).foldl (fun t (p,v)=>t.setIfInBounds p v) a.tmps,defers:=[]} W):
 YieldAt Fence.wide 0 P l args W fun e W'=>e= .returned (.bool true)∧I' W'∧W'.heap[l]? =some (.loop (rec .ready none))∧Hh W':=by
 have hy:=run_yield (P:=P) (args:=args) hl (by rw[hrec];exact hps)
 rw[hrec] at hy
 refine⟨fn,_,assign,body,hy,roundIn_of_wpIn trivial (wpIn_mono hround ?_)⟩
 intro e a₁ W₁ q
 cases e with
 | normal=>
   obtain⟨hk1,hb⟩:=q
   have hl1:=hk1.same _ _ hBl hl rfl
   have hh1:=hH _ _ hh hk1
   refine⟨_,run_beginRound hl1 (by rw[hrec]),?_⟩
   have hlt:l<W₁.heap.size:=(Array.getElem?_eq_some_iff.1 hl1).1
   have hl2:(W₁.putObj l (.loop {rec .ready none with state:= .busy})).heap[l]? =some (.loop {rec .ready none with state:= .busy}):=World.putObj_heap_same hlt
   refine wpIn_mono (hb _ (Sm.putObj _ hl1 rfl hBl) (fun B' H' h=>Kcs.putObj _ h) ⟨_,hl2⟩) ?_
   rintro e a3 W3 hp
   cases e with
   | normal=>
     obtain⟨hk3,hi3⟩:=hp
     have hl3:=hk3.same _ _ hBl hl2 rfl
     have hr:=run_endRound (P:=P) none hl3
     have hr':(Instr.endRound l none).run P W3= .ok (.bool true) (W3.putObj l (.loop (rec .ready none))):=by rw[hrec] at hr ⊢;exact hr
     exact⟨_,_,hr',rfl,hI' _ _ _ hi3 hl3,World.putObj_heap_same (Array.getElem?_eq_some_iff.1 hl3).1,hHp _ _ (hH _ _ (hHp _ _ hh1) hk3)⟩
   |ret=>exact hp.2.elim
   |exit id=>exact hp.2.elim
   |goto t=>exact hp.2.elim
   |panic ch=>exact hp.elim
   |outgrown=>exact hp.elim
 |exit id=>exact q.elim
 |goto t=>exact q.elim
 |ret=>exact q.elim
 |panic ch=>exact q.elim
 |outgrown=>exact q.elim
end Go.Proofs.YthajilkjfkppoaaGreatDoor
namespace Go.Proofs.YthajilkjfkppoaaGreatDoor
open Go.RowKit
set_option linter.unusedVariables false
set_option linter.unusedSimpArgs false
def rootF (F:Nat→Nat) (i:Nat):Nat:=if h:F i<i then rootF F (F i) else i
termination_by i
theorem root_lt {F:Nat→Nat} {i:Nat} (h:F i<i):rootF F i=rootF F (F i):=by rw[rootF,dif_pos h]
theorem root_self {F:Nat→Nat} {i:Nat} (h:¬ F i<i):rootF F i=i:=by rw[rootF,dif_neg h]
theorem root_step {F:Nat→Nat} (le:∀ i,F i≤i) (i:Nat):rootF F (F i)=rootF F i:=by
 by_cases h:F i<i
 · rw[root_lt h]
 · have e:F i=i:=by have:=le i;omega
   rw[e]
theorem root_le (F:Nat→Nat):∀ i,rootF F i≤i:=by
 intro i
 induction i using Nat.strongRecOn with
 | ind i ih=>
   by_cases h:F i<i
   · rw[root_lt h];exact Nat.le_trans (ih _ h) (Nat.le_of_lt h)
   · rw[root_self h];exact Nat.le_refl _
theorem root_top (F:Nat→Nat):∀ i,¬ F (rootF F i)<rootF F i:=by
 intro i
 induction i using Nat.strongRecOn with
 | ind i ih=>
   by_cases h:F i<i
   · rw[root_lt h];exact ih _ h
   · rw[root_self h];exact h
def setF (F:Nat→Nat) (p v:Nat):Nat→Nat:=fun j=>if j=p then v else F j
theorem setF_at (F:Nat→Nat) (p v:Nat):setF F p v p=v:=if_pos rfl
theorem setF_ne {F:Nat→Nat} {p v j:Nat} (h:j≠p):setF F p v j=F j:=if_neg h
theorem setF_le {F:Nat→Nat} {p v:Nat} (le:∀ i,F i≤i) (hv:v≤p):∀ i,setF F p v i≤i:=fun i=>by
 by_cases e:i=p
 · subst e;rw[setF_at];exact hv
 · rw[setF_ne e];exact le i
theorem root_half {F:Nat→Nat} (le:∀ i,F i≤i) (p:Nat):∀ j,rootF (setF F p (F (F p))) j=rootF F j:=by
 intro j
 induction j using Nat.strongRecOn with
 | ind j ih=>
   by_cases e:j=p
   · subst e
     have l1:=le j
     have l2:=le (F j)
     by_cases h:F (F j)<j
     · rw[root_lt (by rw[setF_at];exact h),setF_at,ih _ h,root_step le,root_step le]
     · rw[root_self (by rw[setF_at];exact h),root_self (by omega)]
   · by_cases h:F j<j
     · rw[root_lt (by rw[setF_ne e];exact h),setF_ne e,ih _ h,root_step le]
     · rw[root_self (by rw[setF_ne e];exact h),root_self h]
theorem root_join {F:Nat→Nat} {m M:Nat} (hm:¬ F m<m) (hM:¬ F M<M) (hmM:m≤M):∀ j,rootF (setF F M m) j=if rootF F j=M then m else rootF F j:=by
 intro j
 induction j using Nat.strongRecOn with
 | ind j ih=>
   by_cases e:j=M
   · subst e
     rw[root_self (F:=F) hM,if_pos rfl]
     by_cases h:m<j
     · rw[root_lt (by rw[setF_at];exact h),setF_at,root_self (by rw[setF_ne (by omega)];exact hm)]
     · rw[root_self (by rw[setF_at];exact h)];omega
   · by_cases h:F j<j
     · rw[root_lt (by rw[setF_ne e];exact h),setF_ne e,ih _ h,←root_lt h]
     · rw[root_self (by rw[setF_ne e];exact h),root_self h,if_neg e]
structure Uf (w:World) (ub g n c:Nat) (F:Nat→Nat):Prop where
 hd:w.cell? ⟨ub,0,none⟩=some (.slice (some ⟨g,0,none⟩) n c)
 row:∀ i,i<n→w.cell? ⟨g,i,none⟩=some (.int .i64 (F i:Int))
 fz:∀ i,i<n→w.frozen? ⟨g,i,none⟩=false
 le:∀ i,F i≤i
 ne:ub≠g
 l1:ub<w.heap.size
 l2:g<w.heap.size
theorem Uf.on {w w':World} {ub g n c:Nat} {F:Nat→Nat} (h:Uf w ub g n c F) (k:Below w.heap.size w w'):Uf w' ub g n c F:=
 ⟨(k.cell (p:=⟨ub,0,none⟩) h.l1).trans h.hd,fun i hi=>(k.cell (p:=⟨g,i,none⟩) h.l2).trans (h.row i hi),fun i hi=>(k.frozen (p:=⟨g,i,none⟩) h.l2).trans (h.fz i hi),h.le,h.ne,Nat.lt_of_lt_of_le h.l1 k.size,Nat.lt_of_lt_of_le h.l2 k.size⟩
theorem Uf.set {w:World} {ub g n c:Nat} {F:Nat→Nat} (h:Uf w ub g n c F) {p v:Nat} (hp:p<n) (hv:v≤p):Uf (w.setCell ⟨g,p,none⟩ (.int .i64 (v:Int))) ub g n c (setF F p v):=by
 refine⟨?_,fun i hi=> ?_,fun i hi=>by rw[World.frozen?_setCell];exact h.fz i hi,setF_le h.le hv,h.ne,by simpa using h.l1,by simpa using h.l2⟩
 · rw[cset_far (by simp;have:=h.ne;omega)];exact h.hd
 · by_cases e:i=p
   · subst e;rw[cset_map,h.row i hi,setF_at];rfl
   · rw[cset_other (by intro q;cases q;exact e rfl),setF_ne e];exact h.row i hi
theorem top_q (ub g n c p:Nat) (F:Nat→Nat) (w:World) (h:Uf w ub g n c F) (hp:p<n):
 Calls Tryz.prog 145 #[.pointer (some ⟨ub,0,none⟩),.int .i64 (p:Int)] w fun e w'=>e= .returned (.int .i64 (rootF F p:Int))∧(∃ F',Uf w' ub g n c F'∧∀ j,rootF F' j=rootF F j)∧Fr (fun b=>b=g) w w':=by
 have hset:=cset_map
 go_enter Tryz.func145,Tryz.ntmps145
 go_upto_region 1 with fail
 go_loopw [1] (fun s1 wr=>∃ (q:Nat) (F':Nat→Nat),s1= .int .i64 (q:Int)∧q<n∧Uf wr ub g n c F'∧(∀ j,rootF F' j=rootF F j)∧rootF F' q=rootF F p∧Fr (fun b=>b=g) w wr) (fun s1 _=>(intOf s1).toNat)
 case atStart=>exact⟨p,F,rfl,hp,h,fun _=>rfl,rfl,Fr.refl _ _⟩
 case round=>
  obtain⟨q,F',rfl,hqn,hU,hall0,hrt0,hF⟩:=hrel
  have hall:Shut (∀ j,rootF F' j=rootF F j):=hall0
  have hrt:Shut (rootF F' q=rootF F p):=hrt0
  clear hall0 hrt0
  have hqi:(q:Int)<(n:Int):=by omega
  have u0:=hU.hd
  have uq:=hU.row q hqn
  have uf:=hU.fz q hqn
  have hle:=hU.le
  by_cases e:F' q=q
  · have ee:((F' q:Int) !=(q:Int))=false:=by simp[e]
    have hv:rootF F p=q:=by rw[←hrt.out,root_self (by omega)]
    clear e hrt
    go_wp2_with fail
    go_ret
    refine⟨?_,⟨F',hU,hall.out⟩,hF⟩
    rw[hv]
    rfl
  · have hlq:F' q<q:=by have:=hle q;omega
    have ee:((F' q:Int) !=(q:Int))=true:=by simp;omega
    have HH0:=root_half hle q
    have HR0:rootF F' (F' (F' q))=rootF F' q:=by rw[root_step hle,root_step hle]
    have hr2:=hle (F' q)
    have ur:=hU.row (F' q) (by omega)
    obtain⟨s,hs⟩:∃ s,F' q=s:=⟨_,rfl⟩
    rw[hs] at uq ee hlq HH0 HR0 hr2 ur
    obtain⟨r,hr⟩:∃ r,F' s=r:=⟨_,rfl⟩
    rw[hr] at HH0 HR0 hr2 ur
    have HH:Shut (∀ j,rootF (setF F' q r) j=rootF F j):=fun j=>(HH0 j).trans (hall.out j)
    have HR:Shut (rootF (setF F' q r) r=rootF F p):=(HH0 r).trans (HR0.trans hrt.out)
    clear HH0 HR0 hall hrt e hs hr hle
    have hsi:(s:Int)<(n:Int):=by omega
    have hr2q:r≤q:=by omega
    go_upto_region 2 with fail
    refine wp_region_held_drew (S:=fun w'=>w'.cell? ⟨ub,0,none⟩=some (.slice (some ⟨g,0,none⟩) n c)) (by kernel_rfl) ?_ (fun hHeld=> ?_)
    · (try dsimp only)
      (first|(go_simp;done)|(go_keep;done))
    refine tq 0 hHeld ?_
    refine tq 1 hHeld ?_
    refine tq 2 hHeld ?_
    refine tq 3 hHeld ?_
    refine tq 4 hHeld ?_
    refine tq 5 hHeld ?_
    refine tq 6 hHeld ?_
    refine tq 7 hHeld ?_
    refine tq 8 hHeld ?_
    refine tq 9 hHeld ?_
    refine tq 10 hHeld ?_
    refine tq 11 hHeld ?_
    refine tq 12 hHeld ?_
    refine tq 13 hHeld ?_
    refine tq 14 hHeld ?_
    refine tc 15 fun K hK=> ?_
    (go_simp
     refine tr hK (fun hHeld=> ?_)
     clear hK K)
    refine tq 16 hHeld ?_
    refine tc 17 fun K hK=> ?_
    (go_simp
     refine tr hK (fun hHeld=> ?_)
     clear hK K)
    refine tq 18 hHeld ?_
    refine tc 19 fun K hK=> ?_
    (go_simp
     have hU2:=hU.set (v:=r) hqn hr2q
     have hF2:=hF.trans (Fr.setCell (X:=fun b=>b=g) (p:=⟨g,q,none⟩) rfl (.int .i64 (r:Int)))
     clear u0 uq ur
     replace hU2:=hU2.on (Below.drew (Below.refl _ _))
     replace hF2:=hF2.drew
     generalize (wr.setCell ⟨g,q,none⟩ (.int .i64 (r:Int))).drew=w5 at hU2 hF2 ⊢
     have u0:=hU2.hd
     refine tr hK (fun hHeld=> ?_)
     clear hK K)
    refine wpAnyH_done (by kernel_rfl) ?_ _
    have uq:=hU2.row q hqn
    rw[setF_at] at uq
    go_wp2_with fail
    go_roundw
    case rel=>exact⟨r,_,rfl,by omega,hU2,HH.out,HR.out,hF2⟩
    case measure=>simp[intOf];omega
theorem join_q (ub g n c p q:Nat) (F:Nat→Nat) (w:World) (h:Uf w ub g n c F) (hp:p<n) (hq:q<n):
 Calls Tryz.prog 167 #[.pointer (some ⟨ub,0,none⟩),.int .i64 (p:Int),.int .i64 (q:Int)] w fun e w'=>e= .returned (.tuple #[])∧(∃ F',Uf w' ub g n c F'∧∀ j,rootF F' j=if rootF F j=max (rootF F p) (rootF F q) then min (rootF F p) (rootF F q) else rootF F j)∧Fr (fun b=>b=g) w w':=by
 have hset:=cset_map
 have lp:=root_le F p
 have lq:=root_le F q
 go_enter Tryz.func167,Tryz.ntmps167
 go_upto_region 1 with(first
  |(have _:=hF1;go_at_call 145;refine(top_q ub g n c q F1 _ hU1 hq).mono ?_;rintro e w2 ⟨rfl,⟨F2,hU2,hE2⟩,hF2⟩)
  |(go_at_call 145;refine(top_q ub g n c p F _ h hp).mono ?_;rintro e w1 ⟨rfl,⟨F1,hU1,hE1⟩,hF1⟩))
 have hE:∀ j,rootF F2 j=rootF F j:=fun j=>(hE2 j).trans (hE1 j)
 have hF:=hF1.trans hF2
 (try rw[hE1 q])
 have hU:=hU2
 obtain⟨F',hF'⟩:∃ F',F2=F':=⟨_,rfl⟩
 rw[hF'] at hU hE
 clear hE1 hE2 hF1 hF2 hU1 hU2 hF'
 have tp:¬ F' (rootF F p)<rootF F p:=by rw[←hE p];exact root_top F' p
 have tq':¬ F' (rootF F q)<rootF F q:=by rw[←hE q];exact root_top F' q
 generalize hA0:rootF F p=A at lp tp ⊢
 generalize hB0:rootF F q=B at lq tq' ⊢
 have hA:Shut (rootF F p=A):=hA0
 have hB:Shut (rootF F q=B):=hB0
 have HE:Shut (∀ j,rootF F' j=rootF F j):=hE
 clear hA0 hB0 hE
 have u0:=hU.hd
 have ufA:=hU.fz A (by omega)
 have ufB:=hU.fz B (by omega)
 by_cases hAB:A<B
 · have i1:(A:Int)<(B:Int):=by omega
   have i2:¬ (B:Int)<(A:Int):=by omega
   have i3:(B:Int)<(n:Int):=by omega
   have uB:=hU.row B (by omega)
   have hJ:Shut (∀ j,rootF (setF F' B A) j=if rootF F' j=B then A else rootF F' j):=root_join (m:=A) (M:=B) tp tq' (by omega)
   have hmx:Shut (max A B=B∧min A B=A):=by show _∧_;omega
   have hU2:=hU.set (p:=B) (v:=A) (by omega) (by omega)
   clear tp tq' lp lq
   go_wp2_with fail
   go_end0
   exact⟨rfl,⟨_,hU2,fun j=>by rw[hJ.out j,HE.out j,hA.out,hB.out,hmx.out.1,hmx.out.2]⟩,hF.trans (Fr.setCell (X:=fun b=>b=g) rfl _)⟩
 · by_cases hBA:B<A
   · have i1:(B:Int)<(A:Int):=by omega
     have i2:¬ (A:Int)<(B:Int):=by omega
     have i3:(A:Int)<(n:Int):=by omega
     have uB:=hU.row A (by omega)
     have hJ:Shut (∀ j,rootF (setF F' A B) j=if rootF F' j=A then B else rootF F' j):=root_join (m:=B) (M:=A) tq' tp (by omega)
     have hmx:Shut (max A B=A∧min A B=B):=by show _∧_;omega
     have hU2:=hU.set (p:=A) (v:=B) (by omega) (by omega)
     clear tp tq' lp lq
     go_wp2_with fail
     go_end0
     exact⟨rfl,⟨_,hU2,fun j=>by rw[hJ.out j,HE.out j,hA.out,hB.out,hmx.out.1,hmx.out.2]⟩,hF.trans (Fr.setCell (X:=fun b=>b=g) rfl _)⟩
   · obtain rfl:A=B:=by omega
     have i2:¬ (A:Int)<(A:Int):=by omega
     have i3:(A:Int)<(n:Int):=by omega
     have uB:=hU.row A (by omega)
     have hJ:Shut (∀ j,rootF (setF F' A A) j=if rootF F' j=A then A else rootF F' j):=root_join (m:=A) (M:=A) tp tp (by omega)
     have hmx:Shut (max A A=A∧min A A=A):=by show _∧_;omega
     have hU2:=hU.set (p:=A) (v:=A) (by omega) (by omega)
     clear tp tq' lp lq
     go_wp2_with fail
     go_end0
     exact⟨rfl,⟨_,hU2,fun j=>by rw[hJ.out j,HE.out j,hA.out,hB.out,hmx.out.1,hmx.out.2]⟩,hF.trans (Fr.setCell (X:=fun b=>b=g) rfl _)⟩
end Go.Proofs.YthajilkjfkppoaaGreatDoor
