/- Texts of a proof. -/
import Derived.Test.YtcalhcfinkhemaaGreatDoorB7
import Derived.Test.YtcalhcfinkhemaaGreatDoorB1
import Derived.Deep.RegionHeld3
import Derived.Deep.DeepCutAuto
import Derived.Test.YtcalhcfinkhemaaGreatDoorB2
import Derived.Test.YtcalhcfinkhemaaGreatDoorB6
import Derived.Deep.QuietTactic
import Derived.BigQuiet
import Derived.Deep.RegionWith
import Derived.Test.YtcalhcfinkhemaaGreatDoorRfG
import Derived.Test.YtcalhcfinkhemaaGreatDoorB4
import Derived.RangeFuncBound
set_option maxHeartbeats 16000000
set_option maxRecDepth 20000
namespace Go.Proofs.YtcalhcfinkhemaaGreatDoor
open Go.RowKit
set_option linter.unusedVariables false
set_option linter.unusedSimpArgs false
theorem kSetQuiet {cb n k:Nat} {C:Nat→Nat→Int} {S:Nat→Value} {w:World} (h:Cs w cb n C S) (hk:k<n) (hn:n≤1048576) (y:Int):
 Calls Tryz.prog 140 #[hdk cb k,.int .i64 y] w fun e w'=>e= .returned (.tuple #[])∧Cs w' cb n (setC C 11 k y) S∧Fr (Xc S) w w':=by
 have hset:=cset_map
 have l1:=h.lt
 have hkn:(k:Int)<(n:Int):=by omega
 obtain⟨g11,c11,e11,hc11,hv11,hf11,l11g,lc11⟩:=h.at (i:=11) (by omega) hk
 go_enter Tryz.func140,Tryz.ntmps140
 go_upto_region 1 with fail
 refine wp_region_held_drew (S:=fun w'=>w'.cell? ⟨w.heap.size,0,none⟩=some (.int .i64 (k:Int))∧w'.cell? ⟨w.heap.size,1,none⟩=some (.pointer (some ⟨cb,0,none⟩))∧w'.cell? ⟨cb,11,none⟩=some (.slice (some ⟨g11,0,none⟩) n c11)) (by kernel_rfl) ?_ (fun hHeld=> ?_)
 · (try dsimp only)
   (first|(go_simp;done)|(go_keep;done))
 refine tq 0 hHeld ?_
 refine tq 1 hHeld ?_
 refine tq 2 hHeld ?_
 refine tq 3 hHeld ?_
 refine tq 4 hHeld ?_
 refine tq 5 hHeld ?_
 refine tq 6 hHeld ?_
 refine tq 7 hHeld ?_
 refine tq 8 hHeld ?_
 (refine tc 9 fun K hK=> ?_;go_simp;refine tr hK (fun hHeld=> ?_);clear hK K)
 refine wpAnyH_done (by kernel_rfl) ?_ _
 go_wp2_with fail
 go_end0
 have hE:Below (w.setCell ⟨g11,k,none⟩ (.int .i64 y)).heap.size (w.setCell ⟨g11,k,none⟩ (.int .i64 y)) ((w.setCell ⟨g11,k,none⟩ (.int .i64 y)).alloc (Obj.cells #[.int .i64 (k:Int),.pointer (some ⟨cb,0,none⟩)] 59)).drew:=bel_a
 exact⟨rfl,(h.set (i:=11) (by omega) hk e11 y).below hE,((Fr.refl (Xc S) w).trans (Fr.setCell (X:=Xc S) (p:=⟨g11,k,none⟩) ⟨11,by omega,by rw[e11];rfl⟩ (.int .i64 y))).trans (Fr.of_below hE)⟩
theorem kSetDrive {cb n k:Nat} {C:Nat→Nat→Int} {S:Nat→Value} {w:World} (h:Cs w cb n C S) (hk:k<n) (hn:n≤1048576) (x y:Int):
 Calls Tryz.prog 144 #[hdk cb k,vv x y] w fun e w'=>e= .returned (.tuple #[])∧Cs w' cb n (setC (setC C 6 k x) 7 k y) S∧Fr (Xc S) w w':=by
 have hset:=cset_map
 have l1:=h.lt
 have hkn:(k:Int)<(n:Int):=by omega
 obtain⟨g6,c6,e6,hc6,hv6,hf6,l6g,lc6⟩:=h.at (i:=6) (by omega) hk
 obtain⟨g7,c7,e7,hc7,hv7,hf7,l7g,lc7⟩:=h.at (i:=7) (by omega) hk
 have ne:g6≠g7:=fun q=>h.dis 6 7 (by omega) (by omega) (by omega) g6 (by rw[e6];rfl) (by rw[e7,q];rfl)
 go_enter Tryz.func144,Tryz.ntmps144
 go_upto_region 1 with fail
 refine wp_region_held_drew (S:=fun w'=>w'.cell? ⟨w.heap.size,0,none⟩=some (.int .i64 (k:Int))∧w'.cell? ⟨w.heap.size,1,none⟩=some (.pointer (some ⟨cb,0,none⟩))∧w'.cell? ⟨cb,6,none⟩=some (.slice (some ⟨g6,0,none⟩) n c6)∧w'.cell? ⟨cb,7,none⟩=some (.slice (some ⟨g7,0,none⟩) n c7)∧w'.cell? ⟨w.heap.size+1,0,none⟩=some (.int .i64 x)∧w'.cell? ⟨w.heap.size+1,1,none⟩=some (.int .i64 y)) (by kernel_rfl) ?_ (fun hHeld=> ?_)
 · (try dsimp only)
   (first|(go_simp;done)|(go_keep;done))
 refine tq 0 hHeld ?_
 refine tq 1 hHeld ?_
 refine tq 2 hHeld ?_
 refine tq 3 hHeld ?_
 refine tq 4 hHeld ?_
 refine tq 5 hHeld ?_
 refine tq 6 hHeld ?_
 refine tq 7 hHeld ?_
 refine tq 8 hHeld ?_
 refine tq 9 hHeld ?_
 refine tq 10 hHeld ?_
 refine tq 11 hHeld ?_
 refine tq 12 hHeld ?_
 refine tq 13 hHeld ?_
 refine tq 14 hHeld ?_
 refine tq 15 hHeld ?_
 refine tq 16 hHeld ?_
 refine tq 17 hHeld ?_
 refine tq 18 hHeld ?_
 (refine tc 19 fun K hK=> ?_;go_simp;refine tr hK (fun hHeld=> ?_);clear hK K)
 refine tq 20 hHeld ?_
 (refine tc 21 fun K hK=> ?_;go_simp;refine tr hK (fun hHeld=> ?_);clear hK K)
 refine wpAnyH_done (by kernel_rfl) ?_ _
 go_wp2_with fail
 go_end0
 have hE:Below ((w.setCell ⟨g6,k,none⟩ (.int .i64 x)).setCell ⟨g7,k,none⟩ (.int .i64 y)).heap.size ((w.setCell ⟨g6,k,none⟩ (.int .i64 x)).setCell ⟨g7,k,none⟩ (.int .i64 y)) ((((w.setCell ⟨g6,k,none⟩ (.int .i64 x)).setCell ⟨g7,k,none⟩ (.int .i64 y)).alloc (Obj.cells #[.int .i64 (k:Int),.pointer (some ⟨cb,0,none⟩)] 59)).alloc (Obj.cells #[.int .i64 x,.int .i64 y] 126)).drew:=bel_a
 exact⟨rfl,((h.set (i:=6) (by omega) hk e6 x).set (i:=7) (by omega) hk e7 y).below hE,(((Fr.refl (Xc S) w).trans (Fr.setCell (X:=Xc S) (p:=⟨g6,k,none⟩) ⟨6,by omega,by rw[e6];rfl⟩ (.int .i64 x))).trans (Fr.setCell (X:=Xc S) (p:=⟨g7,k,none⟩) ⟨7,by omega,by rw[e7];rfl⟩ (.int .i64 y))).trans (Fr.of_below hE)⟩
theorem spanAround_any (x y u v:Int) (w:World) (hx: -4000000000≤x∧x≤4000000000) (hy: -4000000000≤y∧y≤4000000000) (hu: -4000000000≤u∧u≤4000000000) (hv: -4000000000≤v∧v≤4000000000):
 Calls Tryz.prog 197 #[vv x y,vv u v] w fun e w'=>e= .returned (b4 (x-u) (y-v) (x+u) (y+v))∧Below w.heap.size w w':=by
 have hset:=cset_map
 go_enter Tryz.func197,Tryz.ntmps197
 go_wp2
 go_region_held3 (fun w'=>w'.cell? ⟨w.heap.size,0,none⟩=some (.int .i64 x)∧w'.cell? ⟨w.heap.size,1,none⟩=some (.int .i64 y)∧w'.cell? ⟨w.heap.size+1,0,none⟩=some (.int .i64 u)∧w'.cell? ⟨w.heap.size+1,1,none⟩=some (.int .i64 v)) (first|(go_simp;done)|(go_keep;done)) (first
  |(go_at_call 163;refine(plus_any _ _ _ _ _ (by omega) (by omega) (by omega) (by omega)).mono ?_;rintro e w1 ⟨rfl,hb1⟩;obtain⟨hc1,hf1⟩:=bcell hb1;have hl1:=blt hb1;have hz1:=hb1.size;(try simp only[zz] at hc1 hf1 hl1 hz1);(try have hq1x0:w.heap.size<w1.heap.size:=(by omega));(try have hq1x1:w.heap.size+1<w1.heap.size:=(by omega));(try have hq1x2:w.heap.size+1+1<w1.heap.size:=(by omega)))
  |(go_at_call 143;refine(less_any _ _ _ _ _ (by omega) (by omega) (by omega) (by omega)).mono ?_;rintro e w1 ⟨rfl,hb1⟩;obtain⟨hc1,hf1⟩:=bcell hb1;have hl1:=blt hb1;have hz1:=hb1.size;(try simp only[zz] at hc1 hf1 hl1 hz1);(try have hq1x0:w.heap.size<w1.heap.size:=(by omega));(try have hq1x1:w.heap.size+1<w1.heap.size:=(by omega));(try have hq1x2:w.heap.size+1+1<w1.heap.size:=(by omega))))
 all_goals
  go_wp2
  exact bodyPost_ret (v:=b4 (x-u) (y-v) (x+u) (y+v)) (by simp[results,Tryz.results197,go_sem, *]) rfl ⟨rfl,bel_a⟩
end Go.Proofs.YtcalhcfinkhemaaGreatDoor
namespace Go.Proofs.YtcalhcfinkhemaaGreatDoor
open Go.RowKit
set_option linter.unusedVariables false
structure Kx (B H:Nat) (A A':World):Prop where
 below:Below B A A'
 cells:∀ (k:Nat) (o:Obj),A.heap[k]? =some o→o.isCells=true→H≤k→A'.heap[k]? =some o
structure Kc (B H:Nat) (A A':World):Prop where
 others:KeepsFrom B A A'
 band:∀ (k:Nat) (o:Obj),B≤k→k<H→A.heap[k]? =some o→o.isCells=true→A'.heap[k]? =some o
theorem Kx.refl (B H:Nat) (A:World):Kx B H A A:=⟨Below.refl _ _,fun _ _ h _ _=>h⟩
theorem Kx.trans {B H:Nat} {X Y Z:World} (h:Kx B H X Y) (k:Kx B H Y Z):Kx B H X Z:=⟨h.below.trans k.below,fun i o hi ho hH=>k.cells i o (h.cells i o hi ho hH) ho hH⟩
theorem Kx.size {B H:Nat} {X Y:World} (h:Kx B H X Y):X.heap.size≤Y.heap.size:=h.below.size
theorem Kx.sm {B H B':Nat} {X Y Z:World} (h:Kx B H X Y) (k:Sm B' Y Z) (hB:B≤B'):Kx B H X Z:=⟨h.below.trans (k.below.mono hB),fun i o hi ho hH=>k.cells i o (h.cells i o hi ho hH) ho⟩
theorem Kx.of_sm {B H B':Nat} {X Y:World} (k:Sm B' X Y) (hB:B≤B'):Kx B H X Y:=(Kx.refl B H X).sm k hB
theorem Kx.fr {B H:Nat} {X Y Z:World} {T:Nat→Prop} (h:Kx B H X Y) (k:Fr T Y Z) (hT:∀ b,T b→B≤b∧(b<H∨X.heap.size≤b)) (hB:B≤X.heap.size):Kx B H X Z:=
 ⟨h.below.trans (k.below (Nat.le_trans hB h.size) (fun b e=>(hT b e).1)),fun i o hi ho hH=>by
  have hl:i<X.heap.size:=(Array.getElem?_eq_some_iff.1 hi).1
  exact(k.block i (Nat.lt_of_lt_of_le hl h.size) (fun e=>by have:=(hT i e).2;omega)).trans (h.cells i o hi ho hH)⟩
theorem Kx.of_below {B H:Nat} {X Y:World} (k:Below X.heap.size X Y) (hB:B≤X.heap.size):Kx B H X Y:=
 ⟨k.mono hB,fun i o hi _ _=>(k.block i (Array.getElem?_eq_some_iff.1 hi).1).trans hi⟩
theorem Kc.refl (B H:Nat) (A:World):Kc B H A A:=⟨KeepsFrom.refl _ _,fun _ _ _ _ h _=>h⟩
theorem Kc.trans {B H:Nat} {X Y Z:World} (h:Kc B H X Y) (k:Kc B H Y Z):Kc B H X Z:=⟨h.others.trans k.others,fun i o a b c d=>k.band i o a b (h.band i o a b c d) d⟩
theorem Kc.fr {B H:Nat} {X Y:World} {T:Nat→Prop} (k:Fr T X Y) (hT:∀ b,T b→b<B∨H≤b):Kc B H X Y:=
 ⟨k.keeps B,fun i o hB hH hi ho=>(k.block i (Array.getElem?_eq_some_iff.1 hi).1 (fun e=>by have:=hT i e;omega)).trans hi⟩
theorem Kc.of_below {B H:Nat} {X Y:World} (k:Below X.heap.size X Y):Kc B H X Y:=Kc.fr (T:=fun _=>False) (Fr.of_below k) (fun _ h=>h.elim)
theorem Kc.putObj {B H l:Nat} {X:World} (o:Obj) (h:l<B):Kc B H X (X.putObj l o):=
 ⟨⟨by simp[World.putObj],fun k x hk hx _=>(World.putObj_heap_other (by omega)).trans hx⟩,fun k x hB _ hx _=>(World.putObj_heap_other (by omega)).trans hx⟩
theorem Kc.cell {B H:Nat} {X Y:World} (h:Kc B H X Y) {p:Addr} {v:Value} (hc:X.cell? p=some v) (h1:B≤p.block) (h2:p.block<H):Y.cell? p=some v:=by
 obtain⟨o,ho,hx⟩:=isCells_of_cell hc
 exact(World.cell?_of_block ((h.band _ _ h1 h2 ho hx).trans ho.symm)).trans hc
def ItG (P:Program) (gf:Nat) (bound:Array Value) (Col:World→Prop) (E:Nat→Nat→Array Value→World→Prop) (nn:Nat) (w:World):Prop:=
 ∀ (l:Nat) (J:Nat→Nat→World→Prop) (W:World),Below w.heap.size w W→
   (∀ H k A A',J H k A→Kx W.heap.size H A A'→J H k A')→(∀ H k A,J H k A→Col A)→
   (∀ W0,Below W.heap.size W W0→J W0.heap.size 0 W0)→
   (∀ H k A args,J H k A→k<nn→E H k args A→YieldAt Fence.wide 0 P l args A fun e A'=>e= .returned (.bool true)∧J H (k+1) A'∧Kc W.heap.size H A A')→
   CallsIn Fence.wide 0 P gf (bound++ #[.func (.yield l) #[] #[]]) W fun e A=>(∃ v,e= .returned v)∧∃ H,J H nn A
theorem yield_roundG {P:Program} {ps:Array Tmp} {assign body:Code} {a:Act} {B l dl:Nat} {fn:FuncId} {args:Array Value} (hps:args.size=ps.size)
 {I':World→Prop} (hI':∀ A r o,I' A→A.heap[l]? =some (.loop r)→I' (A.putObj l (.loop o))) {Hh:World→Prop} (hH:∀ A B',Hh A→KeepsFrom B A B'→Hh B') (hHp:∀ A o,Hh A→Hh (A.putObj l o))
 {rec:LoopState→Option Code→Loop} (hrec:rec=fun st pe=>{state:=st,pending:=pe,fn,tmps:=a.tmps,params:=ps,assign,body,defers:=dl}) (hBl:B≤l)
 {W:World} (hl:W.heap[l]? =some (.loop (rec .ready none))) (hh:Hh W)
 (hround:assign.wpIn (Fence.wide.inRound l) 0 P (Exit.then (fun a₁ W₁=>KeepsFrom B W W₁∧∀ W₂,Sm B W₁ W₂→(∀ B' H',l<B'→Kc B' H' W₁ W₂)→(∃ r,W₂.heap[l]? =some (.loop r))→body.wpIn (Fence.wide.inRound l) 0 P (rdPost B I' (fun _ _=>False) W₂) a₁ W₂) (fun _ _ _=>False))
   {tmps:=(ps.zip args).foldl (fun t (p,v)=>t.setIfInBounds p v) a.tmps,defers:=[]} W):
 YieldAt Fence.wide 0 P l args W fun e W'=>e= .returned (.bool true)∧I' W'∧W'.heap[l]? =some (.loop (rec .ready none))∧Hh W':=by
 have hy:=run_yield (P:=P) (args:=args) hl (by rw[hrec];exact hps)
 rw[hrec] at hy
 refine⟨fn,_,assign,body,hy,roundIn_of_wpIn trivial (wpIn_mono hround ?_)⟩
 intro e a₁ W₁ q
 cases e with
 | normal=>
   obtain⟨hk1,hb⟩:=q
   have hl1:=hk1.same _ _ hBl hl rfl
   have hh1:=hH _ _ hh hk1
   refine⟨_,run_beginRound hl1 (by rw[hrec]),?_⟩
   have hlt:l<W₁.heap.size:=(Array.getElem?_eq_some_iff.1 hl1).1
   have hl2:(W₁.putObj l (.loop {rec .ready none with state:= .busy})).heap[l]? =some (.loop {rec .ready none with state:= .busy}):=World.putObj_heap_same hlt
   refine wpIn_mono (hb _ (Sm.putObj _ hl1 rfl hBl) (fun B' H' h=>Kc.putObj _ h) ⟨_,hl2⟩) ?_
   rintro e a3 W3 hp
   cases e with
   | normal=>
     obtain⟨hk3,hi3⟩:=hp
     have hl3:=hk3.same _ _ hBl hl2 rfl
     have hr:=run_endRound (P:=P) none hl3
     have hr':(Instr.endRound l none).run P W3= .ok (.bool true) (W3.putObj l (.loop (rec .ready none))):=by rw[hrec] at hr ⊢;exact hr
     exact⟨_,_,hr',rfl,hI' _ _ _ hi3 hl3,World.putObj_heap_same (Array.getElem?_eq_some_iff.1 hl3).1,hHp _ _ (hH _ _ (hHp _ _ hh1) hk3)⟩
   |ret=>exact hp.2.elim
   |exit id=>exact hp.2.elim
   |goto t=>exact hp.2.elim
   |panic ch=>exact hp.elim
   |outgrown=>exact hp.elim
 |exit id=>exact q.elim
 |goto t=>exact q.elim
 |ret=>exact q.elim
 |panic ch=>exact q.elim
 |outgrown=>exact q.elim
theorem wp_range_outG {P:Program} {g:Operand} {ps:Array Tmp} {assign body:Code} {Q:Exit→Act→World→Prop} {a:Act} {w:World} {gf:Nat} {bound:Array Value}
 (hg:a.eval g= .func (.func gf) bound #[]) (eg:∀ args w,(callFunc gf args).run P w= .ok (.enter gf args) w)
 {Col:World→Prop} {E:Nat→Nat→Array Value→World→Prop} {nn:Nat} (hit:ItG P gf bound Col E nn w) (hps:∀ H k args A,E H k args A→args.size=ps.size)
 (I:Nat→Nat→World→Prop) (hI:∀ H k A B,I H k A→Kx (w.heap.size+2) H A B→I H k B) (hIs:∀ H k A B,I H k A→Sm w.heap.size A B→I H k B) (hcol:∀ H k A,I H k A→Col A)
 (h0:∀ W0,Below w.heap.size w W0→w.heap.size+2≤W0.heap.size→I W0.heap.size 0 W0)
 (hround:∀ l H k W args,w.heap.size≤l→l<w.heap.size+2→w.heap.size+2≤W.heap.size→I H k W→k<nn→E H k args W→
   assign.wpIn (Fence.wide.inRound l) 0 P (Exit.then (fun a₁ W₁=>KeepsFrom w.heap.size W W₁∧∀ W₂,Sm w.heap.size W₁ W₂→(∀ B' H',l<B'→Kc B' H' W₁ W₂)→(∃ r,W₂.heap[l]? =some (.loop r))→
    body.wpIn (Fence.wide.inRound l) 0 P (rdPost w.heap.size (fun W'=>I H (k+1) W'∧Kc (w.heap.size+2) H W W') (fun _ _=>False) W₂) a₁ W₂) (fun _ _ _=>False))
   {tmps:=(ps.zip args).foldl (fun t (p,v)=>t.setIfInBounds p v) a.tmps,defers:=[]} W)
 (hdone:∀ (D H:Nat) (W:World),w.heap.size≤D→I H nn W→W.heap[D]? =some (.deferred (some []))→Q .normal {a with defers:={target:= .collected D,args:= #[]}::a.defers} W):
 (Code.rangeFunc g ps assign body).wp P Q a w:=by
 refine wpIn_wide.1 (wpIn_rangeFunc (n:=0) ?_)
 intro fn _
 obtain⟨rec,hrec⟩:∃ rec:LoopState→Option Code→Loop,rec=fun st pe=>{state:=st,pending:=pe,fn,tmps:=a.tmps,params:=ps,assign,body,defers:=w.heap.size}:=⟨_,rfl⟩
 obtain⟨W1,hW1⟩:∃ W1,(w.alloc (.deferred (some []))).alloc (.loop (rec .ready none))=W1:=⟨_,rfl⟩
 have hb1:Below w.heap.size w W1:=by rw[←hW1];exact((Below.refl _ w).alloc (Nat.le_refl _) _).alloc (by simp) _
 have hz1:W1.heap.size=w.heap.size+2:=by rw[←hW1];simp
 have hL1:W1.heap[w.heap.size+1]? =some (.loop (rec .ready none)):=by
  rw[←hW1];have:=World.alloc_heap_new (w.alloc (.deferred (some []))) (.loop (rec .ready none));rwa [World.size_alloc] at this
 have hK1:W1.heap[w.heap.size]? =some (.deferred (some [])):=by
  rw[←hW1];exact(Below.heap_alloc _ _ _ (by simp)).trans (World.alloc_heap_new w _)
 refine⟨w.heap.size+1,[{target:= .collected w.heap.size,args:= #[]}],W1,{target:= .fn (.func gf) #[],args:=bound++ #[.func (.yield (w.heap.size+1)) #[] #[]]},W1,gf,
  bound++ #[.func (.yield (w.heap.size+1)) #[] #[]],W1,?_,?_,fun _ _=>trivial,?_,(fun e=>by cases e),?_⟩
 · rw[←hW1,hrec];exact run_enterLoop_outer _ _ _ _ _
 · simp only[resolve,hg]
   simp[go_sem]
 · simp[invoke,go_sem,eg]
 · refine(hit (w.heap.size+1)
    (fun H k W=>I H k W∧W.heap[w.heap.size+1]? =some (.loop (rec .ready none))∧W.heap[w.heap.size]? =some (.deferred (some []))∧w.heap.size+2≤W.heap.size)
    W1 hb1 ?_ ?_ ?_ ?_).mono ?_
   · rintro H k A B ⟨h1,h2,h3,h4⟩ hb
     rw[hz1] at hb
     exact⟨hI _ _ _ _ h1 hb,(hb.below.block _ (by omega)).trans h2,(hb.below.block _ (by omega)).trans h3,Nat.le_trans h4 hb.size⟩
   · rintro H k A ⟨h1,_⟩
     exact hcol _ _ _ h1
   · intro W0 hb
     exact⟨h0 W0 (hb1.trans (hb.mono (by omega))) (by have:=hb.size;omega),(hb.block _ (by omega)).trans hL1,(hb.block _ (by omega)).trans hK1,by have:=hb.size;omega⟩
   · rintro H k W args ⟨h1,h2,h3,h4⟩ hk hE
     rw[hz1]
     refine(yield_roundG (P:=P) (ps:=ps) (assign:=assign) (body:=body) (a:=a) (B:=w.heap.size) (l:=w.heap.size+1) (dl:=w.heap.size) (fn:=fn) (args:=args) (hps _ _ _ _ hE)
      (I':=fun W'=>I H (k+1) W'∧Kc (w.heap.size+2) H W W') (fun A r o h hl=>⟨hIs _ _ _ _ h.1 (Sm.putObj _ hl rfl (by omega)),h.2.trans (Kc.putObj _ (by omega))⟩)
      (Hh:=fun W=>W.heap[w.heap.size]? =some (.deferred (some []))∧w.heap.size+2≤W.heap.size) (fun A B h hk=>⟨hk.same _ _ (Nat.le_refl _) h.1 rfl,Nat.le_trans h.2 hk.size⟩) (fun A o h=>⟨(World.putObj_heap_other (by omega)).trans h.1,by simpa [World.putObj] using h.2⟩) hrec (by omega) h2 ⟨h3,h4⟩
      (hround _ H k W args (by omega) (by omega) h4 h1 hk hE)).mono ?_
     rintro e W' ⟨e1,⟨h1,hc⟩,h2,h3,h4⟩
     exact⟨e1,⟨h1,h2,h3,h4⟩,hc⟩
   · rintro e W2 ⟨⟨v,rfl⟩,H,hi,hl,hk,_⟩
     exact⟨none,_,by have:=run_endLoop (P:=P) hl (by rw[hrec];simp);rw[hrec] at this;exact this,hdone _ H _ (Nat.le_refl _) (hIs _ _ _ _ hi (Sm.putObj _ hl rfl (by omega))) ((World.putObj_heap_other (by omega)).trans hk)⟩
end Go.Proofs.YtcalhcfinkhemaaGreatDoor
namespace Go.Proofs.YtcalhcfinkhemaaGreatDoor
open Go.RowKit
set_option linter.unusedVariables false
set_option linter.unusedSimpArgs false
theorem spanNear_any (a b c d x y:Int) (w:World):
 Calls Tryz.prog 187 #[b4 a b c d,vv x y] w fun e w'=>e= .returned (vv (mn (mx x a) c) (mn (mx y b) d))∧Below w.heap.size w w':=by
 have hset:=cset_map
 go_enter Tryz.func187,Tryz.ntmps187
 go_wp2
 go_region_held3 (fun w'=>w'.cell? ⟨w.heap.size,0,none⟩=some (.int .i64 a)∧w'.cell? ⟨w.heap.size,1,none⟩=some (.int .i64 b)∧w'.cell? ⟨w.heap.size,2,none⟩=some (.int .i64 c)∧w'.cell? ⟨w.heap.size,3,none⟩=some (.int .i64 d)∧w'.cell? ⟨w.heap.size+1,0,none⟩=some (.int .i64 x)∧w'.cell? ⟨w.heap.size+1,1,none⟩=some (.int .i64 y)) (first|(go_simp;done)|(go_keep;done)) (first
  |(go_at_call 200;refine(least_any _ _ _ _ _).mono ?_;rintro e w2 ⟨rfl,hb2⟩;obtain⟨hc2,hf2⟩:=bcell hb2;have hl2:=blt hb2;have hz2:=hb2.size;(try simp only[zz] at hc2 hf2 hl2 hz2);(try have hq2x0:w.heap.size<w2.heap.size:=(by omega));(try have hq2x1:w.heap.size+1<w2.heap.size:=(by omega));(try have hq2x2:w.heap.size+1+1<w2.heap.size:=(by omega)))
  |(go_at_call 199;refine(greatest_any _ _ _ _ _).mono ?_;rintro e w1 ⟨rfl,hb1⟩;obtain⟨hc1,hf1⟩:=bcell hb1;have hl1:=blt hb1;have hz1:=hb1.size;(try simp only[zz] at hc1 hf1 hl1 hz1);(try have hq1x0:w.heap.size<w1.heap.size:=(by omega));(try have hq1x1:w.heap.size+1<w1.heap.size:=(by omega));(try have hq1x2:w.heap.size+1+1<w1.heap.size:=(by omega))))
 all_goals
  go_wp2
  exact bodyPost_ret (v:=vv (mn (mx x a) c) (mn (mx y b) d)) (by simp[results,Tryz.results187,go_sem, *]) rfl ⟨rfl,bel_a⟩
end Go.Proofs.YtcalhcfinkhemaaGreatDoor
