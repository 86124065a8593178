/- Texts of a proof. -/
import Derived.Test.YthajilkjfkppoaaGreatDoorB6
import Derived.Test.YthajilkjfkppoaaGreatDoorB7
import Derived.Test.YthajilkjfkppoaaGreatDoorB4
import Derived.Deep.RegionHeld3
import Derived.Deep.DeepCutAuto
import Derived.Test.YthajilkjfkppoaaGreatDoorB5
import Derived.Test.YthajilkjfkppoaaGreatDoorB3
import Derived.Test.YthajilkjfkppoaaGreatDoorB9
import Derived.Test.YthajilkjfkppoaaGreatDoorB2
import Derived.RangeFuncBound
import Derived.Deep.QuietTactic
import Derived.BigQuiet
import Derived.Deep.RegionWith
set_option maxHeartbeats 16000000
set_option maxRecDepth 20000
namespace Go.Proofs.YthajilkjfkppoaaGreatDoor
open Go.RowKit
set_option linter.unusedVariables false
set_option linter.unusedSimpArgs false
structure TB (w wx:World) (V:Nat→Int) (m:Nat):Prop where
 inn:∀ j,j<12→wx.cell? ⟨w.heap.size,j,none⟩=some (.int .i64 (V j))
 out:∀ j,j<12→wx.cell? ⟨w.heap.size+1+1,j,none⟩=some (.int .i64 (if j<m then V j else 0))
 res:∀ j,j<12→wx.cell? ⟨w.heap.size+1,j,none⟩=some (.int .i64 0)
 nfo:∀ j,j<12→wx.frozen? ⟨w.heap.size+1+1,j,none⟩=false
 nfr:∀ j,j<12→wx.frozen? ⟨w.heap.size+1,j,none⟩=false
 bel:Below w.heap.size w wx
 big:w.heap.size+1+1<wx.heap.size
theorem TB.below {w wx w1:World} {V:Nat→Int} {m:Nat} (h:TB w wx V m) (hb:Below wx.heap.size wx w1):TB w w1 V m:=by
 have big:=h.big
 exact⟨fun j hj=>(hb.cell (by simp;omega)).trans (h.inn j hj),fun j hj=>(hb.cell (by simp;omega)).trans (h.out j hj),fun j hj=>(hb.cell (by simp;omega)).trans (h.res j hj),fun j hj=>(hb.frozen (by simp;omega)).trans (h.nfo j hj),fun j hj=>(hb.frozen (by simp;omega)).trans (h.nfr j hj),h.bel.trans (hb.mono (by omega)),Nat.lt_of_lt_of_le big hb.size⟩
theorem TB.step {w w1:World} {V:Nat→Int} {m:Nat} (h:TB w w1 V m) (hm:m<12):TB w (w1.setCell ⟨w.heap.size+1+1,m,none⟩ (.int .i64 (V m))) V (m+1):=by
 have big:=h.big
 refine⟨fun j hj=> ?_,fun j hj=> ?_,fun j hj=> ?_,fun j hj=> ?_,fun j hj=> ?_,?_,?_⟩
 · rw[cset_far (by simp;omega)];exact h.inn j hj
 · by_cases e:j=m
   · subst e;rw[cset_same (h.out j hj),if_pos (by omega)]
   · rw[cset_other (by intro q;injection q with q1 q2;exact e q2.symm),h.out j hj]
     by_cases q:j<m
     · rw[if_pos q,if_pos (by omega)]
     · rw[if_neg q,if_neg (by omega)]
 · rw[cset_far (by simp)];exact h.res j hj
 · rw[World.frozen?_setCell];exact h.nfo j hj
 · rw[World.frozen?_setCell];exact h.nfr j hj
 · exact h.bel.setCell (by simp;omega) _
 · simpa using big
structure Nb (w:World) (b k:Nat) (V:Nat→Int):Prop where
 c:∀ j,j<k→w.cell? ⟨b,j,none⟩=some (.int .i64 (V j))
 f:∀ o,w.frozen? ⟨b,o,none⟩=false
 l:b<w.heap.size
theorem Nb.on {w w':World} {b k:Nat} {V:Nat→Int} (h:Nb w b k V) (hb:Below w.heap.size w w'):Nb w' b k V:=
 ⟨fun j hj=>(hb.cell (p:=⟨b,j,none⟩) h.l).trans (h.c j hj),fun o=>(hb.frozen (p:=⟨b,o,none⟩) h.l).trans (h.f o),Nat.lt_of_lt_of_le h.l hb.size⟩
theorem Nb.fr {w w':World} {b k:Nat} {V:Nat→Int} {X:Nat→Prop} (h:Nb w b k V) (hs:Fr X w w') (hx:¬ X b):Nb w' b k V:=
 ⟨fun j hj=>(hs.cell (p:=⟨b,j,none⟩) h.l hx).trans (h.c j hj),fun o=>(hs.frozen (p:=⟨b,o,none⟩) h.l hx).trans (h.f o),Nat.lt_of_lt_of_le h.l hs.size⟩
theorem Nb.dr {w:World} {b k:Nat} {V:Nat→Int} (h:Nb w b k V):Nb w.drew b k V:=⟨fun j hj=>h.c j hj,fun o=>h.f o,h.l⟩
theorem Nb.congr {w:World} {b k:Nat} {V W:Nat→Int} (h:Nb w b k V) (e:∀ j,j<k→V j=W j):Nb w b k W:=⟨fun j hj=>by rw[←e j hj];exact h.c j hj,h.f,h.l⟩
theorem Nb.set {w:World} {b k:Nat} {V:Nat→Int} (h:Nb w b k V) (j:Nat) (hj:j<k) (x:Int):Nb (w.setCell ⟨b,j,none⟩ (.int .i64 x)) b k (fun i=>if i=j then x else V i):=by
 have h1:=h.c j hj
 refine⟨fun i hi=> ?_,fun o=> ?_,by simp;exact h.l⟩
 · by_cases e:i=j
   · subst e;rw[if_pos rfl];exact World.cell?_setCell_same _ _ _ h1
   · rw[if_neg e,World.cell?_setCell_other _ _ _ _ (by intro h;simp only[Addr.mk.injEq] at h;omega)];exact h.c i hi
 · have:=h.f o;simp[this]
theorem dentOf_q (x y k:Int) (b:Bool) (w:World) (e:hitB x y k=b):
 Calls Tryz.prog 182 #[s3 x y k] w fun e w'=>e= .returned (.tuple #[s3 x y k,.bool b])∧Below w.heap.size w w':=by
 have hset:=cset_map
 go_enter Tryz.func182,Tryz.ntmps182
 go_upto_region 1 with fail
 go_cut [4] (fun s wc=>∃ B,s= .pointer (some ⟨B,0,none⟩)∧wc.cell? ⟨B,0,none⟩=some (.int .i64 x)∧wc.cell? ⟨B,1,none⟩=some (.int .i64 y)∧wc.cell? ⟨B,2,none⟩=some (.int .i64 k)∧wc.cell? ⟨w.heap.size+1,0,none⟩=some (.int .i64 0)∧wc.cell? ⟨w.heap.size+1,1,none⟩=some (.int .i64 0)∧wc.cell? ⟨w.heap.size+1,2,none⟩=some (.int .i64 0)∧wc.frozen? ⟨w.heap.size+1,0,none⟩=false∧wc.frozen? ⟨w.heap.size+1,1,none⟩=false∧wc.frozen? ⟨w.heap.size+1,2,none⟩=false∧w.heap.size+1<B∧B<wc.heap.size∧Below w.heap.size w wc)
 case first=>
  refine wp_region_held_drew (S:=fun w'=>w'.cell? ⟨w.heap.size,0,none⟩=some (.int .i64 x)∧w'.cell? ⟨w.heap.size,1,none⟩=some (.int .i64 y)∧w'.cell? ⟨w.heap.size,2,none⟩=some (.int .i64 k)) (by kernel_rfl) ?_ (fun hHeld=> ?_)
  · (try dsimp only)
    (first|(go_simp;done)|(go_keep;done))
  refine tq 0 hHeld ?_
  refine tq 1 hHeld ?_
  refine tq 3 hHeld ?_
  refine tq 4 hHeld ?_
  refine wpAnyH_ready (rs:=[2,6]) (by kernel_rfl) (by simp) ?_
  refine AllReadyH.cons rfl (fun K hK=> ?_) (AllReadyH.cons rfl (fun K hK=> ?_) AllReadyH.nil)
  · (go_simp;(go_at_call 139;refine(wayOf_any _ _ _).mono ?_;rintro e w1 ⟨rfl,hb1⟩;obtain⟨hc1,hf1⟩:=bcell hb1;have hz1:=hb1.size;(try simp only[zz] at hc1 hf1 hz1);have:=kf2 hb1 w.heap.size;(try have q:=kfz hc1 hf1 hz1 (w.heap.size+1+1) (by omega);obtain⟨ht1x0,hu1x0,hv1x0,hw1x0⟩:=q);clear hc1 hf1);(try go_wp2_with fail);refine tr hK (fun hHeld=> ?_);clear hK K)
    refine tq 5 hHeld ?_
    (refine tc 6 fun K hK=> ?_;go_simp;refine tr hK (fun hHeld=> ?_);clear hK K)
    (refine tc 7 fun K hK=> ?_;go_simp;refine tr hK (fun hHeld=> ?_);clear hK K)
    refine wpAnyH_done (by kernel_rfl) ?_ _
    go_wp2_with fail
    go_meet
    exact⟨_,rfl,(by go_simp),(by go_simp),(by go_simp),(by go_simp),(by go_simp),(by go_simp),(by first|(go_simp;done)|(simp;done)),(by first|(go_simp;done)|(simp;done)),(by first|(go_simp;done)|(simp;done)),(by first|omega|(simp;done)|(simp;omega)),(by first|omega|(simp;done)|(simp;omega)),bel_a⟩
  · (go_simp;refine tr hK (fun hHeld=> ?_);clear hK K)
    (refine tc 2 fun K hK=> ?_;go_simp;(go_at_call 139;refine(wayOf_any _ _ _).mono ?_;rintro e w1 ⟨rfl,hb1⟩;obtain⟨hc1,hf1⟩:=bcell hb1;have hz1:=hb1.size;(try simp only[zz] at hc1 hf1 hz1);have:=kf2 hb1 w.heap.size;(try have q:=kfz hc1 hf1 hz1 (w.heap.size+1+1) (by omega);obtain⟨ht1x0,hu1x0,hv1x0,hw1x0⟩:=q);clear hc1 hf1);(try go_wp2_with fail);refine tr hK (fun hHeld=> ?_);clear hK K)
    refine tq 5 hHeld ?_
    (refine tc 7 fun K hK=> ?_;go_simp;refine tr hK (fun hHeld=> ?_);clear hK K)
    refine wpAnyH_done (by kernel_rfl) ?_ _
    go_wp2_with fail
    go_meet
    exact⟨_,rfl,(by go_simp),(by go_simp),(by go_simp),(by go_simp),(by go_simp),(by go_simp),(by first|(go_simp;done)|(simp;done)),(by first|(go_simp;done)|(simp;done)),(by first|(go_simp;done)|(simp;done)),(by first|omega|(simp;done)|(simp;omega)),(by first|omega|(simp;done)|(simp;omega)),bel_a⟩
 case rest=>
 obtain⟨B,rfl,x0,x1,x2,r0,r1,r2,f0,f1,f2,hlo,hhi,hbel⟩:=hcut
 have kz:=hbel.size
 have n1:(w.heap.size+1=B)=False:=eq_false (by omega)
 have n2:(B=w.heap.size+1)=False:=eq_false (by omega)
 have lz:w.heap.size+1<wc.heap.size:=by omega
 unfold hitB at e
 go_upto_region 2 with fail
 cases k1:inB 256 x y with
 | false=>
   rw[k1] at e
   simp only[Bool.false_and] at e
   subst e
   refine wp_region_held_drew (S:=fun w'=>w'.cell? ⟨B,0,none⟩=some (.int .i64 x)∧w'.cell? ⟨B,1,none⟩=some (.int .i64 y)∧w'.cell? ⟨B,2,none⟩=some (.int .i64 k)) (by kernel_rfl) ?_ (fun hHeld=> ?_)
   · (try dsimp only)
     (first|(go_simp;done)|(go_keep;done))
   refine tq 0 hHeld ?_
   refine tq 1 hHeld ?_
   refine tq 2 hHeld ?_
   (refine tc 3 fun K hK=> ?_;go_simp;(go_at_call 88;refine(within2_q _ _ _ _ _ (by omega) (by omega) (by with_reducible assumption)).mono ?_;rintro e w2 ⟨rfl,hb2⟩;have hz2:=hb2.size;(try simp only[zz] at hz2);have:=kfa hb2 (w.heap.size+1);have:=kfa hb2 B);(try go_wp2_with fail);refine tr hK (fun hHeld=> ?_);clear hK K)
   refine tq 4 hHeld ?_
   refine tn 5 hHeld ?_
   refine tn 6 hHeld ?_
   refine tn 7 hHeld ?_
   refine tq 8 hHeld ?_
   (refine tc 9 fun K hK=> ?_;go_simp;refine tr hK (fun hHeld=> ?_);clear hK K)
   refine tq 10 hHeld ?_
   refine wpAnyH_done (by kernel_rfl) ?_ _
   go_wp2_with fail
   exact bodyPost_ret (v:= .tuple #[s3 x y k,.bool false]) (by simp[results,Tryz.results182,go_sem, *]) rfl ⟨rfl,bel_a⟩
 | true=>
   rw[k1] at e
   simp only[Bool.true_and] at e
   refine wp_region_held_drew (S:=fun w'=>w'.cell? ⟨B,0,none⟩=some (.int .i64 x)∧w'.cell? ⟨B,1,none⟩=some (.int .i64 y)∧w'.cell? ⟨B,2,none⟩=some (.int .i64 k)) (by kernel_rfl) ?_ (fun hHeld=> ?_)
   · (try dsimp only)
     (first|(go_simp;done)|(go_keep;done))
   refine tq 0 hHeld ?_
   refine tq 1 hHeld ?_
   refine tq 2 hHeld ?_
   (refine tc 3 fun K hK=> ?_;go_simp;(go_at_call 88;refine(within2_q _ _ _ _ _ (by omega) (by omega) (by with_reducible assumption)).mono ?_;rintro e w2 ⟨rfl,hb2⟩;have hz2:=hb2.size;(try simp only[zz] at hz2);have:=kfa hb2 (w.heap.size+1);have:=kfa hb2 B);(try go_wp2_with fail);refine tr hK (fun hHeld=> ?_);clear hK K)
   refine tq 4 hHeld ?_
   refine tq 5 hHeld ?_
   refine tq 6 hHeld ?_
   (refine tc 7 fun K hK=> ?_;go_simp;(go_at_call 86;refine(upTo_q _ _ _ _ (by with_reducible assumption)).mono ?_;rintro e w3 ⟨rfl,hb3⟩;have hz3:=hb3.size;(try simp only[zz] at hz3);have:=kfa hb3 (w.heap.size+1);have:=kfa hb3 B);(try go_wp2_with fail);refine tr hK (fun hHeld=> ?_);clear hK K)
   refine tq 8 hHeld ?_
   (refine tc 9 fun K hK=> ?_;go_simp;refine tr hK (fun hHeld=> ?_);clear hK K)
   refine tq 10 hHeld ?_
   refine wpAnyH_done (by kernel_rfl) ?_ _
   go_wp2_with fail
   exact bodyPost_ret (v:= .tuple #[s3 x y k,.bool b]) (by simp[results,Tryz.results182,go_sem, *]) rfl ⟨rfl,bel_a⟩
end Go.Proofs.YthajilkjfkppoaaGreatDoor
namespace Go.Proofs.YthajilkjfkppoaaGreatDoor
open Go.RowKit
set_option linter.unusedVariables false
structure Kx (B H:Nat) (A A':World):Prop where
 below:Below B A A'
 cells:∀ (k:Nat) (o:Obj),A.heap[k]? =some o→o.isCells=true→H≤k→A'.heap[k]? =some o
structure Kc (B H:Nat) (A A':World):Prop where
 others:KeepsFrom B A A'
 band:∀ (k:Nat) (o:Obj),B≤k→k<H→A.heap[k]? =some o→o.isCells=true→A'.heap[k]? =some o
theorem Kx.refl (B H:Nat) (A:World):Kx B H A A:=⟨Below.refl _ _,fun _ _ h _ _=>h⟩
theorem Kx.trans {B H:Nat} {X Y Z:World} (h:Kx B H X Y) (k:Kx B H Y Z):Kx B H X Z:=⟨h.below.trans k.below,fun i o hi ho hH=>k.cells i o (h.cells i o hi ho hH) ho hH⟩
theorem Kx.size {B H:Nat} {X Y:World} (h:Kx B H X Y):X.heap.size≤Y.heap.size:=h.below.size
theorem Kx.sm {B H B':Nat} {X Y Z:World} (h:Kx B H X Y) (k:Sm B' Y Z) (hB:B≤B'):Kx B H X Z:=⟨h.below.trans (k.below.mono hB),fun i o hi ho hH=>k.cells i o (h.cells i o hi ho hH) ho⟩
theorem Kx.of_sm {B H B':Nat} {X Y:World} (k:Sm B' X Y) (hB:B≤B'):Kx B H X Y:=(Kx.refl B H X).sm k hB
theorem Kx.fr {B H:Nat} {X Y Z:World} {T:Nat→Prop} (h:Kx B H X Y) (k:Fr T Y Z) (hT:∀ b,T b→B≤b∧(b<H∨X.heap.size≤b)) (hB:B≤X.heap.size):Kx B H X Z:=
 ⟨h.below.trans (k.below (Nat.le_trans hB h.size) (fun b e=>(hT b e).1)),fun i o hi ho hH=>by
  have hl:i<X.heap.size:=(Array.getElem?_eq_some_iff.1 hi).1
  exact(k.block i (Nat.lt_of_lt_of_le hl h.size) (fun e=>by have:=(hT i e).2;omega)).trans (h.cells i o hi ho hH)⟩
theorem Kx.of_below {B H:Nat} {X Y:World} (k:Below X.heap.size X Y) (hB:B≤X.heap.size):Kx B H X Y:=
 ⟨k.mono hB,fun i o hi _ _=>(k.block i (Array.getElem?_eq_some_iff.1 hi).1).trans hi⟩
theorem Kc.refl (B H:Nat) (A:World):Kc B H A A:=⟨KeepsFrom.refl _ _,fun _ _ _ _ h _=>h⟩
theorem Kc.trans {B H:Nat} {X Y Z:World} (h:Kc B H X Y) (k:Kc B H Y Z):Kc B H X Z:=⟨h.others.trans k.others,fun i o a b c d=>k.band i o a b (h.band i o a b c d) d⟩
theorem Kc.fr {B H:Nat} {X Y:World} {T:Nat→Prop} (k:Fr T X Y) (hT:∀ b,T b→b<B∨H≤b):Kc B H X Y:=
 ⟨k.keeps B,fun i o hB hH hi ho=>(k.block i (Array.getElem?_eq_some_iff.1 hi).1 (fun e=>by have:=hT i e;omega)).trans hi⟩
theorem Kc.of_below {B H:Nat} {X Y:World} (k:Below X.heap.size X Y):Kc B H X Y:=Kc.fr (T:=fun _=>False) (Fr.of_below k) (fun _ h=>h.elim)
theorem Kc.putObj {B H l:Nat} {X:World} (o:Obj) (h:l<B):Kc B H X (X.putObj l o):=
 ⟨⟨by simp[World.putObj],fun k x hk hx _=>(World.putObj_heap_other (by omega)).trans hx⟩,fun k x hB _ hx _=>(World.putObj_heap_other (by omega)).trans hx⟩
theorem Kc.cell {B H:Nat} {X Y:World} (h:Kc B H X Y) {p:Addr} {v:Value} (hc:X.cell? p=some v) (h1:B≤p.block) (h2:p.block<H):Y.cell? p=some v:=by
 obtain⟨o,ho,hx⟩:=isCells_of_cell hc
 exact(World.cell?_of_block ((h.band _ _ h1 h2 ho hx).trans ho.symm)).trans hc
def ItG (P:Program) (gf:Nat) (bound:Array Value) (Col:World→Prop) (E:Nat→Nat→Array Value→World→Prop) (nn:Nat) (w:World):Prop:=
 ∀ (l:Nat) (J:Nat→Nat→World→Prop) (W:World),Below w.heap.size w W→
   (∀ H k A A',J H k A→Kx W.heap.size H A A'→J H k A')→(∀ H k A,J H k A→Col A)→
   (∀ W0,Below W.heap.size W W0→J W0.heap.size 0 W0)→
   (∀ H k A args,J H k A→k<nn→E H k args A→YieldAt Fence.wide 0 P l args A fun e A'=>e= .returned (.bool true)∧J H (k+1) A'∧Kc W.heap.size H A A')→
   CallsIn Fence.wide 0 P gf (bound++ #[.func (.yield l) #[] #[]]) W fun e A=>(∃ v,e= .returned v)∧∃ H,J H nn A
theorem yield_roundG {P:Program} {ps:Array Tmp} {assign body:Code} {a:Act} {B l dl:Nat} {fn:FuncId} {args:Array Value} (hps:args.size=ps.size)
 {I':World→Prop} (hI':∀ A r o,I' A→A.heap[l]? =some (.loop r)→I' (A.putObj l (.loop o))) {Hh:World→Prop} (hH:∀ A B',Hh A→KeepsFrom B A B'→Hh B') (hHp:∀ A o,Hh A→Hh (A.putObj l o))
 {rec:LoopState→Option Code→Loop} (hrec:rec=fun st pe=>{state:=st,pending:=pe,fn,tmps:=a.tmps,params:=ps,assign,body,defers:=dl}) (hBl:B≤l)
 {W:World} (hl:W.heap[l]? =some (.loop (rec .ready none))) (hh:Hh W)
 (hround:assign.wpIn (Fence.wide.inRound l) 0 P (Exit.then (fun a₁ W₁=>KeepsFrom B W W₁∧∀ W₂,Sm B W₁ W₂→(∀ B' H',l<B'→Kc B' H' W₁ W₂)→(∃ r,W₂.heap[l]? =some (.loop r))→body.wpIn (Fence.wide.inRound l) 0 P (rdPost B I' (fun _ _=>False) W₂) a₁ W₂) (fun _ _ _=>False))
   {tmps:=(ps.zip args).foldl (fun t (p,v)=>t.setIfInBounds p v) a.tmps,defers:=[]} W):
 YieldAt Fence.wide 0 P l args W fun e W'=>e= .returned (.bool true)∧I' W'∧W'.heap[l]? =some (.loop (rec .ready none))∧Hh W':=by
 have hy:=run_yield (P:=P) (args:=args) hl (by rw[hrec];exact hps)
 rw[hrec] at hy
 refine⟨fn,_,assign,body,hy,roundIn_of_wpIn trivial (wpIn_mono hround ?_)⟩
 intro e a₁ W₁ q
 cases e with
 | normal=>
   obtain⟨hk1,hb⟩:=q
   have hl1:=hk1.same _ _ hBl hl rfl
   have hh1:=hH _ _ hh hk1
   refine⟨_,run_beginRound hl1 (by rw[hrec]),?_⟩
   have hlt:l<W₁.heap.size:=(Array.getElem?_eq_some_iff.1 hl1).1
   have hl2:(W₁.putObj l (.loop {rec .ready none with state:= .busy})).heap[l]? =some (.loop {rec .ready none with state:= .busy}):=World.putObj_heap_same hlt
   refine wpIn_mono (hb _ (Sm.putObj _ hl1 rfl hBl) (fun B' H' h=>Kc.putObj _ h) ⟨_,hl2⟩) ?_
   rintro e a3 W3 hp
   cases e with
   | normal=>
     obtain⟨hk3,hi3⟩:=hp
     have hl3:=hk3.same _ _ hBl hl2 rfl
     have hr:=run_endRound (P:=P) none hl3
     have hr':(Instr.endRound l none).run P W3= .ok (.bool true) (W3.putObj l (.loop (rec .ready none))):=by rw[hrec] at hr ⊢;exact hr
     exact⟨_,_,hr',rfl,hI' _ _ _ hi3 hl3,World.putObj_heap_same (Array.getElem?_eq_some_iff.1 hl3).1,hHp _ _ (hH _ _ (hHp _ _ hh1) hk3)⟩
   |ret=>exact hp.2.elim
   |exit id=>exact hp.2.elim
   |goto t=>exact hp.2.elim
   |panic ch=>exact hp.elim
   |outgrown=>exact hp.elim
 |exit id=>exact q.elim
 |goto t=>exact q.elim
 |ret=>exact q.elim
 |panic ch=>exact q.elim
 |outgrown=>exact q.elim
theorem wp_range_outG {P:Program} {g:Operand} {ps:Array Tmp} {assign body:Code} {Q:Exit→Act→World→Prop} {a:Act} {w:World} {gf:Nat} {bound:Array Value}
 (hg:a.eval g= .func (.func gf) bound #[]) (eg:∀ args w,(callFunc gf args).run P w= .ok (.enter gf args) w)
 {Col:World→Prop} {E:Nat→Nat→Array Value→World→Prop} {nn:Nat} (hit:ItG P gf bound Col E nn w) (hps:∀ H k args A,E H k args A→args.size=ps.size)
 (I:Nat→Nat→World→Prop) (hI:∀ H k A B,I H k A→Kx (w.heap.size+2) H A B→I H k B) (hIs:∀ H k A B,I H k A→Sm w.heap.size A B→I H k B) (hcol:∀ H k A,I H k A→Col A)
 (h0:∀ W0,Below w.heap.size w W0→w.heap.size+2≤W0.heap.size→I W0.heap.size 0 W0)
 (hround:∀ l H k W args,w.heap.size≤l→l<w.heap.size+2→w.heap.size+2≤W.heap.size→I H k W→k<nn→E H k args W→
   assign.wpIn (Fence.wide.inRound l) 0 P (Exit.then (fun a₁ W₁=>KeepsFrom w.heap.size W W₁∧∀ W₂,Sm w.heap.size W₁ W₂→(∀ B' H',l<B'→Kc B' H' W₁ W₂)→(∃ r,W₂.heap[l]? =some (.loop r))→
    body.wpIn (Fence.wide.inRound l) 0 P (rdPost w.heap.size (fun W'=>I H (k+1) W'∧Kc (w.heap.size+2) H W W') (fun _ _=>False) W₂) a₁ W₂) (fun _ _ _=>False))
   {tmps:=(ps.zip args).foldl (fun t (p,v)=>t.setIfInBounds p v) a.tmps,defers:=[]} W)
 (hdone:∀ (D H:Nat) (W:World),w.heap.size≤D→I H nn W→W.heap[D]? =some (.deferred (some []))→Q .normal {a with defers:={target:= .collected D,args:= #[]}::a.defers} W):
 (Code.rangeFunc g ps assign body).wp P Q a w:=by
 refine wpIn_wide.1 (wpIn_rangeFunc (n:=0) ?_)
 intro fn _
 obtain⟨rec,hrec⟩:∃ rec:LoopState→Option Code→Loop,rec=fun st pe=>{state:=st,pending:=pe,fn,tmps:=a.tmps,params:=ps,assign,body,defers:=w.heap.size}:=⟨_,rfl⟩
 obtain⟨W1,hW1⟩:∃ W1,(w.alloc (.deferred (some []))).alloc (.loop (rec .ready none))=W1:=⟨_,rfl⟩
 have hb1:Below w.heap.size w W1:=by rw[←hW1];exact((Below.refl _ w).alloc (Nat.le_refl _) _).alloc (by simp) _
 have hz1:W1.heap.size=w.heap.size+2:=by rw[←hW1];simp
 have hL1:W1.heap[w.heap.size+1]? =some (.loop (rec .ready none)):=by
  rw[←hW1];have:=World.alloc_heap_new (w.alloc (.deferred (some []))) (.loop (rec .ready none));rwa [World.size_alloc] at this
 have hK1:W1.heap[w.heap.size]? =some (.deferred (some [])):=by
  rw[←hW1];exact(Below.heap_alloc _ _ _ (by simp)).trans (World.alloc_heap_new w _)
 refine⟨w.heap.size+1,[{target:= .collected w.heap.size,args:= #[]}],W1,{target:= .fn (.func gf) #[],args:=bound++ #[.func (.yield (w.heap.size+1)) #[] #[]]},W1,gf,
  bound++ #[.func (.yield (w.heap.size+1)) #[] #[]],W1,?_,?_,fun _ _=>trivial,?_,(fun e=>by cases e),?_⟩
 · rw[←hW1,hrec];exact run_enterLoop_outer _ _ _ _ _
 · simp only[resolve,hg]
   simp[go_sem]
 · simp[invoke,go_sem,eg]
 · refine(hit (w.heap.size+1)
    (fun H k W=>I H k W∧W.heap[w.heap.size+1]? =some (.loop (rec .ready none))∧W.heap[w.heap.size]? =some (.deferred (some []))∧w.heap.size+2≤W.heap.size)
    W1 hb1 ?_ ?_ ?_ ?_).mono ?_
   · rintro H k A B ⟨h1,h2,h3,h4⟩ hb
     rw[hz1] at hb
     exact⟨hI _ _ _ _ h1 hb,(hb.below.block _ (by omega)).trans h2,(hb.below.block _ (by omega)).trans h3,Nat.le_trans h4 hb.size⟩
   · rintro H k A ⟨h1,_⟩
     exact hcol _ _ _ h1
   · intro W0 hb
     exact⟨h0 W0 (hb1.trans (hb.mono (by omega))) (by have:=hb.size;omega),(hb.block _ (by omega)).trans hL1,(hb.block _ (by omega)).trans hK1,by have:=hb.size;omega⟩
   · rintro H k W args ⟨h1,h2,h3,h4⟩ hk hE
     rw[hz1]
     refine(yield_roundG (P:=P) (ps:=ps) (assign:=assign) (body:=body) (a:=a) (B:=w.heap.size) (l:=w.heap.size+1) (dl:=w.heap.size) (fn:=fn) (args:=args) (hps _ _ _ _ hE)
      (I':=fun W'=>I H (k+1) W'∧Kc (w.heap.size+2) H W W') (fun A r o h hl=>⟨hIs _ _ _ _ h.1 (Sm.putObj _ hl rfl (by omega)),h.2.trans (Kc.putObj _ (by omega))⟩)
      (Hh:=fun W=>W.heap[w.heap.size]? =some (.deferred (some []))∧w.heap.size+2≤W.heap.size) (fun A B h hk=>⟨hk.same _ _ (Nat.le_refl _) h.1 rfl,Nat.le_trans h.2 hk.size⟩) (fun A o h=>⟨(World.putObj_heap_other (by omega)).trans h.1,by simpa [World.putObj] using h.2⟩) hrec (by omega) h2 ⟨h3,h4⟩
      (hround _ H k W args (by omega) (by omega) h4 h1 hk hE)).mono ?_
     rintro e W' ⟨e1,⟨h1,hc⟩,h2,h3,h4⟩
     exact⟨e1,⟨h1,h2,h3,h4⟩,hc⟩
   · rintro e W2 ⟨⟨v,rfl⟩,H,hi,hl,hk,_⟩
     exact⟨none,_,by have:=run_endLoop (P:=P) hl (by rw[hrec];simp);rw[hrec] at this;exact this,hdone _ H _ (Nat.le_refl _) (hIs _ _ _ _ hi (Sm.putObj _ hl rfl (by omega))) ((World.putObj_heap_other (by omega)).trans hk)⟩
end Go.Proofs.YthajilkjfkppoaaGreatDoor
namespace Go.Proofs.YthajilkjfkppoaaGreatDoor
open Go.RowKit
set_option linter.unusedVariables false
set_option linter.unusedSimpArgs false
theorem spanNear_any (a b c d x y:Int) (w:World):
 Calls Tryz.prog 164 #[b4 a b c d,vv x y] w fun e w'=>e= .returned (vv (mn (mx x a) c) (mn (mx y b) d))∧Below w.heap.size w w':=by
 have hset:=cset_map
 go_enter Tryz.func164,Tryz.ntmps164
 go_wp2
 go_region_held3 (fun w'=>w'.cell? ⟨w.heap.size,0,none⟩=some (.int .i64 a)∧w'.cell? ⟨w.heap.size,1,none⟩=some (.int .i64 b)∧w'.cell? ⟨w.heap.size,2,none⟩=some (.int .i64 c)∧w'.cell? ⟨w.heap.size,3,none⟩=some (.int .i64 d)∧w'.cell? ⟨w.heap.size+1,0,none⟩=some (.int .i64 x)∧w'.cell? ⟨w.heap.size+1,1,none⟩=some (.int .i64 y)) (first|(go_simp;done)|(go_keep;done)) (first
  |(go_at_call 181;refine(least_any _ _ _ _ _).mono ?_;rintro e w2 ⟨rfl,hb2⟩;obtain⟨hc2,hf2⟩:=bcell hb2;have hl2:=blt hb2;have hz2:=hb2.size;(try simp only[zz] at hc2 hf2 hl2 hz2);(try have hq2x0:w.heap.size<w2.heap.size:=(by omega));(try have hq2x1:w.heap.size+1<w2.heap.size:=(by omega));(try have hq2x2:w.heap.size+1+1<w2.heap.size:=(by omega)))
  |(go_at_call 180;refine(greatest_any _ _ _ _ _).mono ?_;rintro e w1 ⟨rfl,hb1⟩;obtain⟨hc1,hf1⟩:=bcell hb1;have hl1:=blt hb1;have hz1:=hb1.size;(try simp only[zz] at hc1 hf1 hl1 hz1);(try have hq1x0:w.heap.size<w1.heap.size:=(by omega));(try have hq1x1:w.heap.size+1<w1.heap.size:=(by omega));(try have hq1x2:w.heap.size+1+1<w1.heap.size:=(by omega))))
 all_goals
  go_wp2
  exact bodyPost_ret (v:=vv (mn (mx x a) c) (mn (mx y b) d)) (by simp[results,Tryz.results164,go_sem, *]) rfl ⟨rfl,bel_a⟩
theorem run_eq_shape (n d:Nat) (hn:n=d+1) (a b c:Int) (w:World):(Op.equalIn (n+1) 31 (.agg #[.int .i64 a,.int .i64 b,.int .i64 c]) (.agg #[.int .i64 a,.int .i64 b,.int .i64 c])).run Tryz.prog w= .ok true w:=by
 have hi:Tryz.prog.underlying 3=some (.int .i64):=by kernel_rfl
 have hs:Tryz.prog.stoodInHeld 31=false:=by kernel_rfl
 have hp:∀ w,(program).run Tryz.prog w= .ok Tryz.prog w:=fun w=>by rfl
 have p0:∀ (a b c:Int) w,(part 3 #[.int .i64 a,.int .i64 b,.int .i64 c] 0).run Tryz.prog w= .ok (.int .i64 a) w:=fun a b c w=>by kernel_rfl
 have p1:∀ (a b c:Int) w,(part 3 #[.int .i64 a,.int .i64 b,.int .i64 c] 1).run Tryz.prog w= .ok (.int .i64 b) w:=fun a b c w=>by kernel_rfl
 have p2:∀ (a b c:Int) w,(part 3 #[.int .i64 a,.int .i64 b,.int .i64 c] 2).run Tryz.prog w= .ok (.int .i64 c) w:=fun a b c w=>by kernel_rfl
 simp only[Op.equalIn,Sem.run_bind,run_underlying Tryz.underlying31,Result.andThen_ok,hp,hs,Bool.false_eq_true,if_false,Sem.run_pure]
 subst hn
 have h0:∀ w,(Op.equalIn (d+1) 3 (.int .i64 a) (.int .i64 a)).run Tryz.prog w= .ok true w:=fun w=>by rw[run_equalIn_int w (d+0) 3 .i64 .i64 a a hi];simp
 have h1:∀ w,(Op.equalIn (d+1) 3 (.int .i64 b) (.int .i64 b)).run Tryz.prog w= .ok true w:=fun w=>by rw[run_equalIn_int w (d+0) 3 .i64 .i64 b b hi];simp
 have h2:∀ w,(Op.equalIn (d+1) 3 (.int .i64 c) (.int .i64 c)).run Tryz.prog w= .ok true w:=fun w=>by rw[run_equalIn_int w (d+0) 3 .i64 .i64 c c hi];simp
 simp only[List.forIn_toArray,List.forIn_cons,List.forIn_nil,Sem.run_bind,p0,h0,Result.andThen_ok,Sem.run_ite,Sem.run_pure]
 simp[Sem.run_bind,p0,h0,p1,h1,p2,h2,Sem.run_ite]
theorem run_eq_body (n d:Nat) (hn:n=d+3) (x0 x1 x2 x3 x4 x5 x6 x7 x8 x9 x10 x11:Int) (w:World):(Op.equalIn (n+1) 35 (.agg #[.int .i64 x0,.int .i64 x1,.int .i64 x2,.int .i64 x3,.int .i64 x4,.int .i64 x5,.int .i64 x6,.int .i64 x7,.int .i64 x8,.int .i64 x9,.int .i64 x10,.int .i64 x11]) (.agg #[.int .i64 x0,.int .i64 x1,.int .i64 x2,.int .i64 x3,.int .i64 x4,.int .i64 x5,.int .i64 x6,.int .i64 x7,.int .i64 x8,.int .i64 x9,.int .i64 x10,.int .i64 x11])).run Tryz.prog w= .ok true w:=by
 have hi:Tryz.prog.underlying 3=some (.int .i64):=by kernel_rfl
 have hs:Tryz.prog.stoodInHeld 35=false:=by kernel_rfl
 have hp:∀ w,(program).run Tryz.prog w= .ok Tryz.prog w:=fun w=>by rfl
 have p0:∀ (x0 x1 x2 x3 x4 x5 x6 x7 x8 x9 x10 x11:Int) w,(part 3 #[.int .i64 x0,.int .i64 x1,.int .i64 x2,.int .i64 x3,.int .i64 x4,.int .i64 x5,.int .i64 x6,.int .i64 x7,.int .i64 x8,.int .i64 x9,.int .i64 x10,.int .i64 x11] 0).run Tryz.prog w= .ok (.int .i64 x0) w:=fun x0 x1 x2 x3 x4 x5 x6 x7 x8 x9 x10 x11 w=>by kernel_rfl
 have p1:∀ (x0 x1 x2 x3 x4 x5 x6 x7 x8 x9 x10 x11:Int) w,(part 31 #[.int .i64 x0,.int .i64 x1,.int .i64 x2,.int .i64 x3,.int .i64 x4,.int .i64 x5,.int .i64 x6,.int .i64 x7,.int .i64 x8,.int .i64 x9,.int .i64 x10,.int .i64 x11] 1).run Tryz.prog w= .ok (.agg #[.int .i64 x1,.int .i64 x2,.int .i64 x3]) w:=fun x0 x1 x2 x3 x4 x5 x6 x7 x8 x9 x10 x11 w=>by kernel_rfl
 have p2:∀ (x0 x1 x2 x3 x4 x5 x6 x7 x8 x9 x10 x11:Int) w,(part 33 #[.int .i64 x0,.int .i64 x1,.int .i64 x2,.int .i64 x3,.int .i64 x4,.int .i64 x5,.int .i64 x6,.int .i64 x7,.int .i64 x8,.int .i64 x9,.int .i64 x10,.int .i64 x11] 4).run Tryz.prog w= .ok (.agg #[.int .i64 x4,.int .i64 x5]) w:=fun x0 x1 x2 x3 x4 x5 x6 x7 x8 x9 x10 x11 w=>by kernel_rfl
 have p3:∀ (x0 x1 x2 x3 x4 x5 x6 x7 x8 x9 x10 x11:Int) w,(part 33 #[.int .i64 x0,.int .i64 x1,.int .i64 x2,.int .i64 x3,.int .i64 x4,.int .i64 x5,.int .i64 x6,.int .i64 x7,.int .i64 x8,.int .i64 x9,.int .i64 x10,.int .i64 x11] 6).run Tryz.prog w= .ok (.agg #[.int .i64 x6,.int .i64 x7]) w:=fun x0 x1 x2 x3 x4 x5 x6 x7 x8 x9 x10 x11 w=>by kernel_rfl
 have p4:∀ (x0 x1 x2 x3 x4 x5 x6 x7 x8 x9 x10 x11:Int) w,(part 3 #[.int .i64 x0,.int .i64 x1,.int .i64 x2,.int .i64 x3,.int .i64 x4,.int .i64 x5,.int .i64 x6,.int .i64 x7,.int .i64 x8,.int .i64 x9,.int .i64 x10,.int .i64 x11] 8).run Tryz.prog w= .ok (.int .i64 x8) w:=fun x0 x1 x2 x3 x4 x5 x6 x7 x8 x9 x10 x11 w=>by kernel_rfl
 have p5:∀ (x0 x1 x2 x3 x4 x5 x6 x7 x8 x9 x10 x11:Int) w,(part 3 #[.int .i64 x0,.int .i64 x1,.int .i64 x2,.int .i64 x3,.int .i64 x4,.int .i64 x5,.int .i64 x6,.int .i64 x7,.int .i64 x8,.int .i64 x9,.int .i64 x10,.int .i64 x11] 9).run Tryz.prog w= .ok (.int .i64 x9) w:=fun x0 x1 x2 x3 x4 x5 x6 x7 x8 x9 x10 x11 w=>by kernel_rfl
 have p6:∀ (x0 x1 x2 x3 x4 x5 x6 x7 x8 x9 x10 x11:Int) w,(part 3 #[.int .i64 x0,.int .i64 x1,.int .i64 x2,.int .i64 x3,.int .i64 x4,.int .i64 x5,.int .i64 x6,.int .i64 x7,.int .i64 x8,.int .i64 x9,.int .i64 x10,.int .i64 x11] 10).run Tryz.prog w= .ok (.int .i64 x10) w:=fun x0 x1 x2 x3 x4 x5 x6 x7 x8 x9 x10 x11 w=>by kernel_rfl
 have p7:∀ (x0 x1 x2 x3 x4 x5 x6 x7 x8 x9 x10 x11:Int) w,(part 3 #[.int .i64 x0,.int .i64 x1,.int .i64 x2,.int .i64 x3,.int .i64 x4,.int .i64 x5,.int .i64 x6,.int .i64 x7,.int .i64 x8,.int .i64 x9,.int .i64 x10,.int .i64 x11] 11).run Tryz.prog w= .ok (.int .i64 x11) w:=fun x0 x1 x2 x3 x4 x5 x6 x7 x8 x9 x10 x11 w=>by kernel_rfl
 simp only[Op.equalIn,Sem.run_bind,run_underlying Tryz.underlying35,Result.andThen_ok,hp,hs,Bool.false_eq_true,if_false,Sem.run_pure]
 subst hn
 have h0:∀ w,(Op.equalIn (d+3) 3 (.int .i64 x0) (.int .i64 x0)).run Tryz.prog w= .ok true w:=fun w=>by rw[run_equalIn_int w (d+2) 3 .i64 .i64 x0 x0 hi];simp
 have h1:∀ w,(Op.equalIn (d+3) 31 (.agg #[.int .i64 x1,.int .i64 x2,.int .i64 x3]) (.agg #[.int .i64 x1,.int .i64 x2,.int .i64 x3])).run Tryz.prog w= .ok true w:=fun w=>run_eq_shape (d+2) (d+1) rfl x1 x2 x3 w
 have h2:∀ w,(Op.equalIn (d+3) 33 (.agg #[.int .i64 x4,.int .i64 x5]) (.agg #[.int .i64 x4,.int .i64 x5])).run Tryz.prog w= .ok true w:=fun w=>by rw[run_eq_vec (d+2) (d+1) rfl];simp
 have h3:∀ w,(Op.equalIn (d+3) 33 (.agg #[.int .i64 x6,.int .i64 x7]) (.agg #[.int .i64 x6,.int .i64 x7])).run Tryz.prog w= .ok true w:=fun w=>by rw[run_eq_vec (d+2) (d+1) rfl];simp
 have h4:∀ w,(Op.equalIn (d+3) 3 (.int .i64 x8) (.int .i64 x8)).run Tryz.prog w= .ok true w:=fun w=>by rw[run_equalIn_int w (d+2) 3 .i64 .i64 x8 x8 hi];simp
 have h5:∀ w,(Op.equalIn (d+3) 3 (.int .i64 x9) (.int .i64 x9)).run Tryz.prog w= .ok true w:=fun w=>by rw[run_equalIn_int w (d+2) 3 .i64 .i64 x9 x9 hi];simp
 have h6:∀ w,(Op.equalIn (d+3) 3 (.int .i64 x10) (.int .i64 x10)).run Tryz.prog w= .ok true w:=fun w=>by rw[run_equalIn_int w (d+2) 3 .i64 .i64 x10 x10 hi];simp
 have h7:∀ w,(Op.equalIn (d+3) 3 (.int .i64 x11) (.int .i64 x11)).run Tryz.prog w= .ok true w:=fun w=>by rw[run_equalIn_int w (d+2) 3 .i64 .i64 x11 x11 hi];simp
 simp only[List.forIn_toArray,List.forIn_cons,List.forIn_nil,Sem.run_bind,p0,h0,Result.andThen_ok,Sem.run_ite,Sem.run_pure]
 simp[Sem.run_bind,p0,h0,p1,h1,p2,h2,p3,h3,p4,h4,p5,h5,p6,h6,p7,h7,Sem.run_ite]
theorem eq_body0 (x0 x1 x2 x3 x4 x5 x6 x7 x8 x9 x10 x11:Int) (w:World):(Op.equalIn 10000 35 (.agg #[.int .i64 x0,.int .i64 x1,.int .i64 x2,.int .i64 x3,.int .i64 x4,.int .i64 x5,.int .i64 x6,.int .i64 x7,.int .i64 x8,.int .i64 x9,.int .i64 x10,.int .i64 x11]) (.agg #[.int .i64 x0,.int .i64 x1,.int .i64 x2,.int .i64 x3,.int .i64 x4,.int .i64 x5,.int .i64 x6,.int .i64 x7,.int .i64 x8,.int .i64 x9,.int .i64 x10,.int .i64 x11])).run Tryz.prog w= .ok true w:=run_eq_body 9999 9996 rfl x0 x1 x2 x3 x4 x5 x6 x7 x8 x9 x10 x11 w
end Go.Proofs.YthajilkjfkppoaaGreatDoor
