/- Texts of a proof. -/
import Derived.Test.YtpmjnpmnocjjgaaGreatDoorB1
import Derived.RangeFuncNested
import Derived.OrdersIn
import Derived.TacticsIn
import Derived.Deep.RegionHeld3
set_option maxHeartbeats 16000000
set_option maxRecDepth 20000
namespace Go.Proofs.YtpmjnpmnocjjgaaGreatDoor
open Go.RowKit
set_option linter.unusedVariables false
section
variable {P:Program} {Q:Exit→Act→World→Prop}
theorem rows_wide {n:Nat} {row:String} {args:Array Value} {w:World} {R:Value→World→Prop} (h:Rows P row args w R):RowsIn Fence.wide n P row args w R:=
 fun c cs _=>let ⟨v,w',r,s⟩:=h c cs;⟨v,w',r,stepsIn_wide.2 s⟩
theorem opIn_of {l n:Nat} {o:Oper} (hd:∀ c,o.op≠ .defer c) {a:Act} {w:World} {K:Act→World→Prop} (h:o.wp P a w K Q):o.wpIn (Fence.wide.inRound l) n P a w K Q:=by
 unfold Oper.wp at h
 unfold Oper.wpIn
 refine⟨fun _ _=>trivial,?_⟩
 rw[Oper.semAt_eq _ _ _ hd]
 generalize (execOp a.eval o).run P w=r at*
 cases r with
 | ok x w'=>
   cases x<;>simp only[Oper.upon,Oper.uponIn] at h ⊢ <;>
    first
     |exact h
     |exact⟨(fun e=>by cases e),CallsIn.inRound l (callsIn_wide.2 h)⟩
     |exact⟨(fun e=>by cases e),rows_wide h⟩
 |halt x w'=>cases x<;>simp only[Oper.upon,Oper.uponIn] at h ⊢ <;>exact h
def noDefer (ops:Array Oper):Bool:=ops.toList.all fun o=>match o.op with| .defer _=>false|_=>true
theorem noDefer_at {ops:Array Oper} (h:noDefer ops=true) {i:Nat} {o:Oper} (hi:ops[i]? =some o):∀ c,o.op≠ .defer c:=by
 intro c e
 have hm:o∈ops.toList:=List.mem_of_getElem? (by simpa using hi)
 have:=List.all_eq_true.1 h o hm
 rw[e] at this
 cases this
theorem wpOpIn_of {l n:Nat} {ops:Array Oper} (hL:¬ LetsOut Q) (hn:noDefer ops=true) {i:Nat} {K:Act→World→Prop} {a:Act} {w:World} (h:wpOp P ops Q i K a w):wpOpIn (Fence.wide.inRound l) n P ops Q i K a w:=by
 unfold wpOp at h
 unfold wpOpIn
 cases hi:ops[i]? with
 |none=>simp only[hi] at h ⊢;exact h
 | some o=>
   simp only[hi] at h ⊢
   split
   · rename_i hw
     rw[if_pos hw] at h
     exact opIn_of (noDefer_at hn hi) (h.resolve_right fun q=>hL q.2)
   · rename_i hw
     rw[if_neg hw] at h
     exact⟨fun _ _=>trivial,h⟩
theorem wpAnyIn_of {l n:Nat} {md:Region.Mode} {ops:Array Oper} (hL:¬ LetsOut Q) (hn:noDefer ops=true):∀ (fuel:Nat) (listed:Array Bool) (a:Act) (w:World),
 wpAny P md ops Q fuel listed a w→wpAnyIn (Fence.wide.inRound l) n P md ops Q fuel listed a w
 |0,_,_,_,h=>h
 |fuel+1,_,_,_,h=>⟨h.1,fun i hi=>wpOpIn_of hL hn (wpOp_mono (fun a' w' h'=>wpAnyIn_of hL hn fuel _ a' w' h') (h.2 i hi))⟩
theorem wpIn_region_held_drew {l n:Nat} {ops:Array Oper} {S:World→Prop} {id:Nat} {a:Act} {w:World} (hm:P.follows .mixedOrders=true) (hL:¬ LetsOut Q) (hn:noDefer ops=true) (hS:S w.drew)
 (h:S w.drew→wpAnyH P .any ops Q S ops.size (Array.replicate ops.size false) a w.drew):(Code.region id ops true).wpIn (Fence.wide.inRound l) n P Q a w:=
 wpIn_region_any hm (wpAnyIn_of hL hn _ _ _ _ (wpAny_of_held _ _ _ _ (h hS)))
theorem wpListIn_of {l n:Nat} {ops:Array Oper} (hL:¬ LetsOut Q):∀ (os:List Oper) (hn:noDefer os.toArray=true) (a:Act) (w:World),wpList P ops Q os a w→wpListIn (Fence.wide.inRound l) n P ops Q os a w
 | [],_,_,_,h=>h
 | o::rest,hn,a,w,h=>by
   unfold wpList at h
   unfold wpListIn
   have hn':noDefer rest.toArray=true:=by simp[noDefer] at hn ⊢;exact hn.2
   split
   · rename_i hw
     rw[if_pos hw] at h
     refine opIn_of (noDefer_at hn (i:=0) (by simp)) (Oper.wp_mono (fun a' w' h'=>wpListIn_of hL rest hn' a' w' h') (h.resolve_right fun q=>hL q.2))
   · rename_i hw
     rw[if_neg hw] at h
     exact⟨fun _ _=>trivial,wpListIn_of hL rest hn' _ _ h⟩
theorem wpIn_region_plain {l n:Nat} {ops:Array Oper} {id:Nat} {a:Act} {w:World} (hL:¬ LetsOut Q) (hn:noDefer ops=true) (h:wpList P ops Q ops.toList a w):(Code.region id ops false).wpIn (Fence.wide.inRound l) n P Q a w:=
 wpIn_region_list (wpListIn_of hL _ (by simpa using hn) _ _ h)
end
structure Sm (B:Nat) (W W':World):Prop where
 below:Below B W W'
 cells:∀ (k:Nat) (o:Obj),W.heap[k]? =some o→o.isCells=true→W'.heap[k]? =some o
theorem Sm.refl (B:Nat) (W:World):Sm B W W:=⟨Below.refl _ _,fun _ _ h _=>h⟩
theorem Sm.trans {B:Nat} {X Y Z:World} (h:Sm B X Y) (k:Sm B Y Z):Sm B X Z:=⟨h.below.trans k.below,fun i o hi ho=>k.cells i o (h.cells i o hi ho) ho⟩
theorem Sm.mono {B B':Nat} {X Y:World} (h:Sm B X Y) (hB:B'≤B):Sm B' X Y:=⟨h.below.mono hB,h.cells⟩
theorem Sm.of_below {B:Nat} {W W':World} (h:Below W.heap.size W W') (hB:B≤W.heap.size):Sm B W W':=
 ⟨h.mono hB,fun k o hk _=>(h.block k (Array.getElem?_eq_some_iff.1 hk).1).trans hk⟩
theorem Sm.putObj {B l:Nat} {W:World} {o:Obj} (o':Obj) (hl:W.heap[l]? =some o) (ho:o.isCells=false) (hB:B≤l):Sm B W (W.putObj l o'):=
 ⟨⟨rfl,rfl,rfl,by simp,fun k hk=>World.putObj_heap_other (by omega)⟩,fun k x hk hx=>by
   refine(World.putObj_heap_other (fun e=> ?_)).trans hk
   subst e
   rw[hl] at hk
   cases hk
   rw[ho] at hx
   cases hx⟩
theorem isCells_of_cell {W:World} {p:Addr} {v:Value} (h:W.cell? p=some v):∃ o:Obj,W.heap[p.block]? =some o∧o.isCells=true:=by
 unfold World.cell? at h
 cases ho:W.heap[p.block]? with
 |none=>simp[ho] at h
 |some o=>cases o<;>simp[ho] at h<;>exact⟨_,rfl,rfl⟩
theorem Sm.block {B:Nat} {W W':World} (h:Sm B W W') {p:Addr} {v:Value} (hc:W.cell? p=some v):W'.heap[p.block]? =W.heap[p.block]? :=by
 obtain⟨o,ho,hx⟩:=isCells_of_cell hc
 rw[ho]
 exact h.cells _ _ ho hx
theorem Sm.cell {B:Nat} {W W':World} (h:Sm B W W') {p:Addr} {v:Value} (hc:W.cell? p=some v):W'.cell? p=some v:=(World.cell?_of_block (h.block hc)).trans hc
theorem Sm.frozen {B:Nat} {W W':World} (h:Sm B W W') {p:Addr} {v:Value} (hc:W.cell? p=some v) {b:Bool} (hf:W.frozen? p=b):W'.frozen? p=b:=(World.frozen?_of_block (h.block hc)).trans hf
theorem Sm.size {B:Nat} {W W':World} (h:Sm B W W'):W.heap.size≤W'.heap.size:=h.below.size
theorem KeepsFrom.of_below {B:Nat} {W W':World} (h:Below W.heap.size W W'):KeepsFrom B W W':=
 ⟨h.size,fun k o _ hk _=>(h.block k (Array.getElem?_eq_some_iff.1 hk).1).trans hk⟩
def rdPost (B:Nat) (I:World→Prop) (Ix:Code→World→Prop) (W:World):Exit→Act→World→Prop
 | .normal,_,W'=>KeepsFrom B W W'∧I W'
 | .ret,_,W'=>KeepsFrom B W W'∧Ix .ret W'
 | .exit id,_,W'=>KeepsFrom B W W'∧Ix (.exit id) W'
 | .goto t,_,W'=>KeepsFrom B W W'∧Ix (.goto t) W'
 | .panic _,_,_=>False
 | .outgrown,_,_=>False
def ItC (P:Program) (gf:Nat) (bound:Array Value) (encs:Nat→Array Value) (nn:Nat) (w:World):Prop:=
 ∀ (l:Nat) (J:Nat→World→Prop) (Jx:World→Prop) (W:World),Below w.heap.size w W→
   (∀ k A B,J k A→Below A.heap.size A B→J k B)→(∀ A B,Jx A→Below A.heap.size A B→Jx B)→
   (∀ k A,J k A→k<nn→YieldAt Fence.wide 0 P l (encs k) A fun e A'=>(e= .returned (.bool true)∧J (k+1) A')∨(e= .returned (.bool false)∧Jx A'))→
   J 0 W→CallsIn Fence.wide 0 P gf (bound++ #[.func (.yield l) #[] #[]]) W fun e A=>(∃ v,e= .returned v)∧(J nn A∨Jx A)
theorem yield_round {P:Program} {ps:Array Tmp} {assign body:Code} {a:Act} {w:World} {B l dl:Nat} {fn:FuncId} {encs:Nat→Array Value} {k:Nat} (hps:(encs k).size=ps.size)
 {I I':World→Prop} {Ix:Code→World→Prop} (hI:∀ A B',I A→Sm B A B'→I B') (hI':∀ A B',I' A→Sm B A B'→I' B') (hIx:∀ c A B',Ix c A→Sm B A B'→Ix c B') {H:World→Prop} (hH:∀ A B',H A→KeepsFrom B A B'→H B') (hHp:∀ A o,H A→H (A.putObj l o))
 {rec:LoopState→Option Code→Loop} (hrec:rec=fun st pe=>{state:=st,pending:=pe,fn,tmps:=a.tmps,params:=ps,assign,body,defers:=dl}) (hBl:B≤l)
 {W:World} (hi:I W) (hl:W.heap[l]? =some (.loop (rec .ready none))) (hh:H W)
 (hround:assign.wpIn (Fence.wide.inRound l) 0 P (Exit.then (fun a₁ W₁=>KeepsFrom B W W₁∧∀ W₂,Sm B W₁ W₂→(∃ r,W₂.heap[l]? =some (.loop r))→body.wpIn (Fence.wide.inRound l) 0 P (rdPost B I' Ix W₂) a₁ W₂) (fun _ _ _=>False))
   {tmps:=(ps.zip (encs k)).foldl (fun t (p,v)=>t.setIfInBounds p v) a.tmps,defers:=[]} W):
 YieldAt Fence.wide 0 P l (encs k) W fun e W'=>(e= .returned (.bool true)∧I' W'∧W'.heap[l]? =some (.loop (rec .ready none))∧H W')∨(e= .returned (.bool false)∧∃ c,Ix c W'∧W'.heap[l]? =some (.loop (rec .done (some c)))∧H W'):=by
 have hy:=run_yield (P:=P) (args:=encs k) hl (by rw[hrec];exact hps)
 rw[hrec] at hy
 refine⟨fn,_,assign,body,hy,roundIn_of_wpIn trivial (wpIn_mono hround ?_)⟩
 intro e a₁ W₁ q
 cases e with
 | normal=>
   obtain⟨hk1,hb⟩:=q
   have hl1:=hk1.same _ _ hBl hl rfl
   have hh1:=hH _ _ hh hk1
   refine⟨_,run_beginRound hl1 (by rw[hrec]),?_⟩
   have hlt:l<W₁.heap.size:=(Array.getElem?_eq_some_iff.1 hl1).1
   have hl2:(W₁.putObj l (.loop {rec .ready none with state:= .busy})).heap[l]? =some (.loop {rec .ready none with state:= .busy}):=World.putObj_heap_same hlt
   refine wpIn_mono (hb _ (Sm.putObj _ hl1 rfl hBl) ⟨_,hl2⟩) ?_
   have fin:∀ (jump:Option Code) (W3:World),KeepsFrom B (W₁.putObj l (.loop {rec .ready none with state:= .busy})) W3→
    (Instr.endRound l jump).run P W3= .ok (.bool jump.isNone) (W3.putObj l (.loop (rec (if jump.isNone then .ready else .done) jump)))∧
    Sm B W3 (W3.putObj l (.loop (rec (if jump.isNone then .ready else .done) jump)))∧
    (W3.putObj l (.loop (rec (if jump.isNone then .ready else .done) jump))).heap[l]? =some (.loop (rec (if jump.isNone then .ready else .done) jump))∧
    H (W3.putObj l (.loop (rec (if jump.isNone then .ready else .done) jump))):=fun jump W3 hk3=>by
    have hl3:=hk3.same _ _ hBl hl2 rfl
    have:=run_endRound (P:=P) jump hl3
    rw[hrec] at this ⊢
    exact⟨this,Sm.putObj _ hl3 rfl hBl,World.putObj_heap_same (Array.getElem?_eq_some_iff.1 hl3).1,hHp _ _ (hH _ _ (hHp _ _ hh1) (by rw[hrec] at hk3;exact hk3))⟩
   rintro e a3 W3 hp
   cases e with
   | normal=>
     obtain⟨hk3,hi3⟩:=hp
     obtain⟨hr,hs,hl4,hh4⟩:=fin none W3 hk3
     exact⟨_,_,hr,.inl ⟨rfl,hI' _ _ hi3 hs,hl4,hh4⟩⟩
   | ret=>
     obtain⟨hk3,hi3⟩:=hp
     obtain⟨hr,hs,hl4,hh4⟩:=fin (some .ret) W3 hk3
     exact⟨_,_,hr,.inr ⟨rfl,.ret,hIx _ _ _ hi3 hs,hl4,hh4⟩⟩
   | exit id=>
     obtain⟨hk3,hi3⟩:=hp
     obtain⟨hr,hs,hl4,hh4⟩:=fin (some (.exit id)) W3 hk3
     exact⟨_,_,hr,.inr ⟨rfl,.exit id,hIx _ _ _ hi3 hs,hl4,hh4⟩⟩
   | goto t=>
     obtain⟨hk3,hi3⟩:=hp
     obtain⟨hr,hs,hl4,hh4⟩:=fin (some (.goto t)) W3 hk3
     exact⟨_,_,hr,.inr ⟨rfl,.goto t,hIx _ _ _ hi3 hs,hl4,hh4⟩⟩
   |panic ch=>exact hp.elim
   |outgrown=>exact hp.elim
 |exit id=>exact q.elim
 |goto t=>exact q.elim
 |ret=>exact q.elim
 |panic ch=>exact q.elim
 |outgrown=>exact q.elim
theorem wp_range_out {P:Program} {g:Operand} {ps:Array Tmp} {assign body:Code} {Q:Exit→Act→World→Prop} {a:Act} {w:World} {gf:Nat} {bound:Array Value}
 (hg:a.eval g= .func (.func gf) bound #[]) (eg:∀ args w,(callFunc gf args).run P w= .ok (.enter gf args) w)
 {encs:Nat→Array Value} {nn:Nat} (hit:ItC P gf bound encs nn w) (hps:∀ k,(encs k).size=ps.size)
 (I:Nat→World→Prop) (Ix:Code→World→Prop) (hI:∀ k A B,I k A→Sm w.heap.size A B→I k B) (hIx:∀ c A B,Ix c A→Sm w.heap.size A B→Ix c B) (h0:I 0 w)
 (hround:∀ l k W,w.heap.size≤l→I k W→k<nn→
   assign.wpIn (Fence.wide.inRound l) 0 P (Exit.then (fun a₁ W₁=>KeepsFrom w.heap.size W W₁∧∀ W₂,Sm w.heap.size W₁ W₂→(∃ r,W₂.heap[l]? =some (.loop r))→body.wpIn (Fence.wide.inRound l) 0 P (rdPost w.heap.size (I (k+1)) Ix W₂) a₁ W₂) (fun _ _ _=>False))
   {tmps:=(ps.zip (encs k)).foldl (fun t (p,v)=>t.setIfInBounds p v) a.tmps,defers:=[]} W)
 (hdone:∀ (D:Nat) (W:World),w.heap.size≤D→I nn W→W.heap[D]? =some (.deferred (some []))→Q .normal {a with defers:={target:= .collected D,args:= #[]}::a.defers} W)
 (hstop:∀ (D:Nat) (c:Code) (W:World),w.heap.size≤D→Ix c W→W.heap[D]? =some (.deferred (some []))→c.wp P Q {a with defers:={target:= .collected D,args:= #[]}::a.defers} W):
 (Code.rangeFunc g ps assign body).wp P Q a w:=by
 refine wpIn_wide.1 (wpIn_rangeFunc (n:=0) ?_)
 intro fn _
 obtain⟨rec,hrec⟩:∃ rec:LoopState→Option Code→Loop,rec=fun st pe=>{state:=st,pending:=pe,fn,tmps:=a.tmps,params:=ps,assign,body,defers:=w.heap.size}:=⟨_,rfl⟩
 obtain⟨W1,hW1⟩:∃ W1,(w.alloc (.deferred (some []))).alloc (.loop (rec .ready none))=W1:=⟨_,rfl⟩
 have hb1:Below w.heap.size w W1:=by rw[←hW1];exact((Below.refl _ w).alloc (Nat.le_refl _) _).alloc (by simp) _
 have hL1:W1.heap[w.heap.size+1]? =some (.loop (rec .ready none)):=by
  rw[←hW1];have:=World.alloc_heap_new (w.alloc (.deferred (some []))) (.loop (rec .ready none));rwa [World.size_alloc] at this
 have hK1:W1.heap[w.heap.size]? =some (.deferred (some [])):=by
  rw[←hW1];exact(Below.heap_alloc _ _ _ (by simp)).trans (World.alloc_heap_new w _)
 refine⟨w.heap.size+1,[{target:= .collected w.heap.size,args:= #[]}],W1,{target:= .fn (.func gf) #[],args:=bound++ #[.func (.yield (w.heap.size+1)) #[] #[]]},W1,gf,
  bound++ #[.func (.yield (w.heap.size+1)) #[] #[]],W1,?_,?_,fun _ _=>trivial,?_,(fun e=>by cases e),?_⟩
 · rw[←hW1,hrec];exact run_enterLoop_outer _ _ _ _ _
 · simp only[resolve,hg]
   simp[go_sem]
 · simp[invoke,go_sem,eg]
 · refine(hit (w.heap.size+1)
    (fun k W=>I k W∧W.heap[w.heap.size+1]? =some (.loop (rec .ready none))∧W.heap[w.heap.size]? =some (.deferred (some []))∧w.heap.size≤W.heap.size)
    (fun W=>∃ c,Ix c W∧W.heap[w.heap.size+1]? =some (.loop (rec .done (some c)))∧W.heap[w.heap.size]? =some (.deferred (some []))∧w.heap.size≤W.heap.size)
    W1 hb1 ?_ ?_ ?_ ⟨hI _ _ _ h0 (Sm.of_below hb1 (Nat.le_refl _)),hL1,hK1,hb1.size⟩).mono ?_
   · rintro k A B ⟨h1,h2,h3,h4⟩ hb
     exact⟨hI _ _ _ h1 (Sm.of_below hb h4),(hb.block _ (Array.getElem?_eq_some_iff.1 h2).1).trans h2,(hb.block _ (Array.getElem?_eq_some_iff.1 h3).1).trans h3,Nat.le_trans h4 hb.size⟩
   · rintro A B ⟨c,h1,h2,h3,h4⟩ hb
     exact⟨c,hIx _ _ _ h1 (Sm.of_below hb h4),(hb.block _ (Array.getElem?_eq_some_iff.1 h2).1).trans h2,(hb.block _ (Array.getElem?_eq_some_iff.1 h3).1).trans h3,Nat.le_trans h4 hb.size⟩
   · rintro k W ⟨h1,h2,h3,h4⟩ hk
     obtain⟨fn',tm,as',bo,hy,hR⟩:=yield_round (P:=P) (ps:=ps) (assign:=assign) (body:=body) (a:=a) (w:=w) (B:=w.heap.size) (l:=w.heap.size+1) (dl:=w.heap.size) (fn:=fn) (encs:=encs) (k:=k) (hps k) (I:=I k) (I':=I (k+1)) (Ix:=Ix) (hI k) (hI (k+1)) hIx
      (H:=fun W=>W.heap[w.heap.size]? =some (.deferred (some []))∧w.heap.size≤W.heap.size) (fun A B h hk=>⟨hk.same _ _ (Nat.le_refl _) h.1 rfl,Nat.le_trans h.2 hk.size⟩) (fun A o h=>⟨(World.putObj_heap_other (by omega)).trans h.1,by simpa using h.2⟩) hrec (by omega) h1 h2 ⟨h3,h4⟩ (hround _ k W (by omega) h1 hk)
     refine⟨fn',tm,as',bo,hy,hR.mono ?_⟩
     rintro e W' (⟨e1,h1,h2,h3,h4⟩|⟨e1,c,h1,h2,h3,h4⟩)
     · exact .inl ⟨e1,h1,h2,h3,h4⟩
     · exact .inr ⟨e1,c,h1,h2,h3,h4⟩
   · rintro e W2 ⟨⟨v,rfl⟩,(⟨hi,hl,hk,_⟩|⟨c,hi,hl,hk,_⟩)⟩
     · exact⟨none,_,by have:=run_endLoop (P:=P) hl (by rw[hrec];simp);rw[hrec] at this;exact this,hdone _ _ (Nat.le_refl _) (hI _ _ _ hi (Sm.putObj _ hl rfl (by omega))) ((World.putObj_heap_other (by omega)).trans hk)⟩
     · exact⟨some c,_,by have:=run_endLoop (P:=P) hl (by rw[hrec];simp);rw[hrec] at this;exact this,wpIn_wide.2 (hstop _ c _ (Nat.le_refl _) (hIx _ _ _ hi (Sm.putObj _ hl rfl (by omega))) ((World.putObj_heap_other (by omega)).trans hk))⟩
theorem wpIn_range_in {P:Program} {g:Operand} {ps:Array Tmp} {assign body:Code} {Q:Exit→Act→World→Prop} {a:Act} {w:World} {l₀:Nat} {r₀:Loop} (hr₀:w.heap[l₀]? =some (.loop r₀)) {gf:Nat} {bound:Array Value}
 (hg:a.eval g= .func (.func gf) bound #[]) (eg:∀ args w,(callFunc gf args).run P w= .ok (.enter gf args) w)
 {encs:Nat→Array Value} {nn:Nat} (hit:ItC P gf bound encs nn w) (hps:∀ k,(encs k).size=ps.size)
 (I:Nat→World→Prop) (Ix:Code→World→Prop) (hI:∀ k A B,I k A→Sm w.heap.size A B→I k B) (hIx:∀ c A B,Ix c A→Sm w.heap.size A B→Ix c B) (h0:I 0 w)
 (hround:∀ l k W,w.heap.size≤l→I k W→k<nn→
   assign.wpIn (Fence.wide.inRound l) 0 P (Exit.then (fun a₁ W₁=>KeepsFrom w.heap.size W W₁∧∀ W₂,Sm w.heap.size W₁ W₂→(∃ r,W₂.heap[l]? =some (.loop r))→body.wpIn (Fence.wide.inRound l) 0 P (rdPost w.heap.size (I (k+1)) Ix W₂) a₁ W₂) (fun _ _ _=>False))
   {tmps:=(ps.zip (encs k)).foldl (fun t (p,v)=>t.setIfInBounds p v) a.tmps,defers:=[]} W)
 (hdone:∀ (W:World),I nn W→Q .normal a W)
 (hstop:∀ (c:Code) (W:World),Ix c W→c.wpIn (Fence.wide.inRound l₀) 0 P Q a W):
 (Code.rangeFunc g ps assign body).wpIn (Fence.wide.inRound l₀) 0 P Q a w:=by
 refine wpIn_rangeFunc (n:=0) ?_
 intro fn _
 obtain⟨rec,hrec⟩:∃ rec:LoopState→Option Code→Loop,rec=fun st pe=>{state:=st,pending:=pe,fn,tmps:=a.tmps,params:=ps,assign,body,defers:=r₀.defers}:=⟨_,rfl⟩
 obtain⟨W1,hW1⟩:∃ W1,w.alloc (.loop (rec .ready none))=W1:=⟨_,rfl⟩
 have hb1:Below w.heap.size w W1:=by rw[←hW1];exact(Below.refl _ w).alloc (Nat.le_refl _) _
 have hL1:W1.heap[w.heap.size]? =some (.loop (rec .ready none)):=by
  rw[←hW1];exact World.alloc_heap_new w (.loop (rec .ready none))
 refine⟨w.heap.size,[],W1,{target:= .fn (.func gf) #[],args:=bound++ #[.func (.yield w.heap.size) #[] #[]]},W1,gf,
  bound++ #[.func (.yield w.heap.size) #[] #[]],W1,?_,?_,fun _ _=>trivial,?_,(fun e=>by cases e),?_⟩
 · rw[←hW1,hrec];exact run_enterLoop_inner hr₀ _ _ _ _ _
 · simp only[resolve,hg]
   simp[go_sem]
 · simp[invoke,go_sem,eg]
 · refine CallsIn.inRound l₀ ((hit w.heap.size
    (fun k W=>I k W∧W.heap[w.heap.size]? =some (.loop (rec .ready none))∧w.heap.size≤W.heap.size)
    (fun W=>∃ c,Ix c W∧W.heap[w.heap.size]? =some (.loop (rec .done (some c)))∧w.heap.size≤W.heap.size)
    W1 hb1 ?_ ?_ ?_ ⟨hI _ _ _ h0 (Sm.of_below hb1 (Nat.le_refl _)),hL1,hb1.size⟩).mono ?_)
   · rintro k A B ⟨h1,h2,h4⟩ hb
     exact⟨hI _ _ _ h1 (Sm.of_below hb h4),(hb.block _ (Array.getElem?_eq_some_iff.1 h2).1).trans h2,Nat.le_trans h4 hb.size⟩
   · rintro A B ⟨c,h1,h2,h4⟩ hb
     exact⟨c,hIx _ _ _ h1 (Sm.of_below hb h4),(hb.block _ (Array.getElem?_eq_some_iff.1 h2).1).trans h2,Nat.le_trans h4 hb.size⟩
   · rintro k W ⟨h1,h2,h4⟩ hk
     obtain⟨fn',tm,as',bo,hy,hR⟩:=yield_round (P:=P) (ps:=ps) (assign:=assign) (body:=body) (a:=a) (w:=w) (B:=w.heap.size) (l:=w.heap.size) (dl:=r₀.defers) (fn:=fn) (encs:=encs) (k:=k) (hps k) (I:=I k) (I':=I (k+1)) (Ix:=Ix) (hI k) (hI (k+1)) hIx
      (H:=fun W=>w.heap.size≤W.heap.size) (fun A B h hk=>Nat.le_trans h hk.size) (fun A o h=>by simpa using h) hrec (Nat.le_refl _) h1 h2 h4 (hround _ k W (Nat.le_refl _) h1 hk)
     refine⟨fn',tm,as',bo,hy,hR.mono ?_⟩
     rintro e W' (⟨e1,h1,h2,h4⟩|⟨e1,c,h1,h2,h4⟩)
     · exact .inl ⟨e1,h1,h2,h4⟩
     · exact .inr ⟨e1,c,h1,h2,h4⟩
   · rintro e W2 ⟨⟨v,rfl⟩,(⟨hi,hl,_⟩|⟨c,hi,hl,_⟩)⟩
     · exact⟨none,_,by have:=run_endLoop (P:=P) hl (by rw[hrec];simp);rw[hrec] at this;exact this,hdone _ (hI _ _ _ hi (Sm.putObj _ hl rfl (Nat.le_refl _)))⟩
     · exact⟨some c,_,by have:=run_endLoop (P:=P) hl (by rw[hrec];simp);rw[hrec] at this;exact this,hstop c _ (hIx _ _ _ hi (Sm.putObj _ hl rfl (Nat.le_refl _)))⟩
theorem calls_of_wp_marks {P:Program} {f:FuncId} {fn:Func} {c:Code} {args:Array Value} {w:World} {R:Ending→World→Prop} (hf:P.funcs[f]? =some fn) (hb:fn.body=some c)
 (h:c.wp P (bodyPostM Fence.wide 0 P fn R) {tmps:=args++Array.replicate (fn.ntmps-args.size) undef,defers:=[]} w):Calls P f args w R:=
 callsIn_wide.1 (callsIn_of_wp_marks (n:=0) hf hb trivial (wpIn_wide.2 h))
theorem marks_ret {P:Program} {fn:Func} {R:Ending→World→Prop} {a:Act} {w:World} {B D:Nat} (hB:B≤D) (hd:a.defers=[{target:= .collected D,args:= #[]}]) (hK:w.heap[D]? =some (.deferred (some [])))
 (h:∀ W',Sm B w W'→∃ v,(results fn a.tmps).run P W'= .ok v W'∧R (.returned v) W'):bodyPostM Fence.wide 0 P fn R .ret a w:=by
 show LeavesInM Fence.wide 0 P fn a.tmps R a.defers .returning w
 rw[hd]
 exact⟨by simp,.inl ⟨_,_,rfl,run_takeDeferred hK,h _ (Sm.putObj _ hK rfl hB)⟩⟩
theorem marks_ret0 {P:Program} {fn:Func} {R:Ending→World→Prop} {a:Act} {w:World} {v:Value} (hd:a.defers=[]) (hr:(results fn a.tmps).run P w= .ok v w) (hR:R (.returned v) w):bodyPostM Fence.wide 0 P fn R .ret a w:=by
 show LeavesInM Fence.wide 0 P fn a.tmps R a.defers .returning w
 rw[hd]
 exact⟨v,hr,hR⟩
end Go.Proofs.YtpmjnpmnocjjgaaGreatDoor
