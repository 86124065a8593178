/- Texts of a proof. -/
import Derived.Test.YthajilkjfkppoaaGreatDoorB5
import Derived.Test.YthajilkjfkppoaaGreatDoorB3
import Derived.Deep.RegionHeld3
import Derived.Deep.DeepCutAuto
set_option maxHeartbeats 16000000
set_option maxRecDepth 20000
namespace Go.Proofs.YthajilkjfkppoaaGreatDoor
open Go.RowKit
set_option linter.unusedVariables false
set_option linter.unusedSimpArgs false
abbrev bodyV (V:Nat→Int):Value:= .agg #[.int .i64 (V 0),.int .i64 (V 1),.int .i64 (V 2),.int .i64 (V 3),.int .i64 (V 4),.int .i64 (V 5),.int .i64 (V 6),.int .i64 (V 7),.int .i64 (V 8),.int .i64 (V 9),.int .i64 (V 10),.int .i64 (V 11)]
structure AddN (w wx:World) (cb n:Nat) (C:Nat→Nat→Int) (V:Nat→Int) (S:Nat→Value) (k:Nat) (S':Nat→Value):Prop where
 body:∀ j,j<12→wx.cell? ⟨w.heap.size,j,none⟩=some (.int .i64 (V j))
 hd:∀ i,i<12→wx.cell? ⟨cb,i,none⟩=some (S' i)
 nf:∀ i,i<12→wx.frozen? ⟨cb,i,none⟩=false
 did:∀ i,i<k→OwnL wx cb 64 1 (S' i) (n+1) (snoc n (C i) (V i))
 todo:∀ i,k≤i→i<12→S' i=S i∧OwnL wx cb 64 1 (S i) n (C i)
 dis:∀ i j,i<12→j<12→i≠j→∀ b,(S' i).ownBlock=some b→(S' j).ownBlock≠some b
 ncb:∀ i,i<12→∀ b,(S' i).ownBlock=some b→b≠cb∧b≠w.heap.size
 fr:Fr (fun k=>k=cb∨Xc S k) w wx
 big:w.heap.size<wx.heap.size
theorem OwnL.alloc' {w:World} {base t k n:Nat} {v:Value} {U:Nat→Int} (h:OwnL w base t k v n U) (o:Obj):OwnL (w.alloc o).drew base t k v n U:=World.ownsRow.drew (World.ownsRow.alloc h o)
theorem AddN.own {w wx:World} {cb n k:Nat} {C:Nat→Nat→Int} {V:Nat→Int} {S S':Nat→Value} (h:AddN w wx cb n C V S k S') {i:Nat} (hi:i<12):∃ m U,OwnL wx cb 64 1 (S' i) m U:=by
 by_cases e:i<k
 · exact⟨_,_,h.did i e⟩
 · obtain⟨e1,e2⟩:=h.todo i (by omega) hi
   rw[e1]
   exact⟨_,_,e2⟩
theorem AddN.step {w wx w1:World} {cb n k g cap:Nat} {C:Nat→Nat→Int} {V:Nat→Int} {S S':Nat→Value} {o:Obj} (h:AddN w wx cb n C V S k S') (hk:k<12) (hcb:cb<w.heap.size)
 (ho:OwnL w1 cb 64 1 (.slice (some ⟨g,0,none⟩) (n+1) cap) (n+1) (snoc n (C k) (V k))) (hg:(wx.alloc o).drew.grownBy w1 (S k).ownBlock) (hor:(S k).ownBlock=some g∨g=wx.heap.size+1) (hlt:g<w1.heap.size):
 w1.cell? ⟨w.heap.size,k,none⟩=some (.int .i64 (V k))∧w1.cell? ⟨cb,k,none⟩=some (S k)∧w1.frozen? ⟨cb,k,none⟩=false∧
 AddN w (w1.setCell ⟨cb,k,none⟩ (.slice (some ⟨g,0,none⟩) (n+1) cap)) cb n C V S (k+1) (fun i=>if i=k then .slice (some ⟨g,0,none⟩) (n+1) cap else S' i):=by
 obtain⟨es,ok⟩:=h.todo k (Nat.le_refl _) hk
 have big:=h.big
 have sz:(wx.alloc o).drew.heap.size=wx.heap.size+1:=by simp
 have hne:∀ b,(S k).ownBlock=some b→b≠cb∧b≠w.heap.size:=fun b hb=>h.ncb k hk b (by rw[es];exact hb)
 have hX:∀ b,(S k).ownBlock=some b→Xc S b:=fun b hb=>⟨k,hk,hb⟩
 have hblk:∀ b,b<wx.heap.size→(S k).ownBlock≠some b→w1.heap[b]? =wx.heap[b]? :=fun b hb hn=>(hg.block b (by omega) (Ne.symm hn)).trans (Below.heap_alloc _ _ _ hb)
 have F0:Fr (fun x=>x=cb∨Xc S x) wx (wx.alloc o).drew:=Fr.of_below (Below.drew ((Below.refl _ _).alloc (Nat.le_refl _) _))
 have F1:Fr (fun x=>x=cb∨Xc S x) (wx.alloc o).drew w1:=Fr.grown hg (fun b hb=> .inr (hX b hb)) (OwnL.isCells (ok.alloc' o))
 have F2:Fr (fun x=>x=cb∨Xc S x) w1 (w1.setCell ⟨cb,k,none⟩ (.slice (some ⟨g,0,none⟩) (n+1) cap)):=Fr.setCell (.inl rfl) _
 have cbl:cb<wx.heap.size:=by omega
 have bcb:w1.heap[cb]? =wx.heap[cb]? :=hblk cb cbl (fun e=>(hne cb e).1 rfl)
 have bbd:w1.heap[w.heap.size]? =wx.heap[w.heap.size]? :=hblk _ big (fun e=>(hne _ e).2 rfl)
 have gcb:g≠cb∧g≠w.heap.size:=by
  rcases hor with q|q
  · exact hne g q
  · omega
 have gS:∀ i,i<12→i≠k→(S' i).ownBlock≠some g:=fun i hi hik e=>by
  rcases hor with q|q
  · exact h.dis i k hi hk hik g e (by rw[es];exact q)
  · obtain⟨m,U,oo⟩:=h.own hi
    have:=(oo.lt g e).2
    omega
 have keep:∀ i,i<12→i≠k→∀ {m U},OwnL wx cb 64 1 (S' i) m U→OwnL (w1.setCell ⟨cb,k,none⟩ (.slice (some ⟨g,0,none⟩) (n+1) cap)) cb 64 1 (S' i) m U:=fun i hi hik m U oo=>by
  refine OwnL.frame (X:=fun x=>x=cb∨(S k).ownBlock=some x) (oo.alloc' o) ((Fr.grown hg (fun b hb=> .inr hb) (OwnL.isCells (ok.alloc' o))).trans (Fr.setCell (.inl rfl) _)) (fun b hb q=> ?_)
  rcases q with q|q
  · exact(h.ncb i hi b hb).1 q
  · exact h.dis i k hi hk hik b hb (by rw[es];exact q)
 refine⟨(World.cell?_of_block bbd).trans (h.body k hk),(World.cell?_of_block bcb).trans ((h.hd k hk).trans (by rw[es])),(World.frozen?_of_block bcb).trans (h.nf k hk),?_⟩
 have hk1:w1.cell? ⟨cb,k,none⟩=some (S k):=(World.cell?_of_block bcb).trans ((h.hd k hk).trans (by rw[es]))
 refine⟨fun j hj=> ?_,fun i hi=> ?_,fun i hi=> ?_,fun i hi=> ?_,fun i hi hi'=> ?_,fun i j hi hj hij b=> ?_,fun i hi b=> ?_,((h.fr.trans F0).trans F1).trans F2,?_⟩
 · rw[cset_far (by simp;omega)]
   exact(World.cell?_of_block (a:=⟨w.heap.size,j,none⟩) bbd).trans (h.body j hj)
 · by_cases e:i=k
   · subst e
     simp only[if_pos]
     exact cset_same hk1
   · simp only[if_neg e]
     rw[cset_other (by intro q;injection q with _ q;exact e q.symm)]
     exact(World.cell?_of_block (a:=⟨cb,i,none⟩) bcb).trans (h.hd i hi)
 · rw[World.frozen?_setCell]
   exact(World.frozen?_of_block (a:=⟨cb,i,none⟩) bcb).trans (h.nf i hi)
 · by_cases e:i=k
   · subst e
     simp only[if_pos]
     refine OwnL.frame (X:=fun x=>x=cb) ho (Fr.setCell (X:=fun x=>x=cb) rfl _) (fun b hb q=> ?_)
     simp only[Value.ownBlock,Option.some.injEq] at hb
     omega
   · simp only[if_neg e]
     exact keep i (by omega) e (h.did i (by omega))
 · have e:i≠k:=by omega
   obtain⟨q1,q2⟩:=h.todo i (by omega) hi'
   simp only[if_neg e]
   refine⟨q1,?_⟩
   have:=keep i hi' e (m:=n) (U:=C i) (by rw[q1];exact q2)
   rw[q1] at this
   exact this
 · by_cases e:i=k
   · subst e
     have e2:¬ j=i:=Ne.symm hij
     simp only[if_pos,if_neg e2]
     intro hb
     simp only[Value.ownBlock,Option.some.injEq] at hb
     subst hb
     exact gS j hj e2
   · by_cases e2:j=k
     · subst e2
       simp only[if_pos,if_neg e]
       intro hb q
       simp only[Value.ownBlock,Option.some.injEq] at q
       subst q
       exact gS i hi e hb
     · simp only[if_neg e,if_neg e2]
       exact h.dis i j hi hj hij b
 · by_cases e:i=k
   · subst e
     simp only[if_pos]
     intro hb
     simp only[Value.ownBlock,Option.some.injEq] at hb
     subst hb
     exact gcb
   · simp only[if_neg e]
     exact h.ncb i hi b
 · have:=F1.size
   simp
   omega
theorem AddN.start {w wx:World} {cb n:Nat} {C:Nat→Nat→Int} {V:Nat→Int} {S:Nat→Value} (h:Cs w cb n C S) (hb:Below w.heap.size w wx) (hbody:∀ j,j<12→wx.cell? ⟨w.heap.size,j,none⟩=some (.int .i64 (V j))) (big:w.heap.size<wx.heap.size):AddN w wx cb n C V S 0 S:=by
 have h':=h.below hb
 exact⟨hbody,h'.hd,h'.nf,fun i hi=>absurd hi (by omega),fun i _ hi=>⟨rfl,h'.own i hi⟩,h.dis,fun i hi b hb=>⟨h.ncb i hi b hb,by have:=h.xlt (b:=b) ⟨i,hi,hb⟩;omega⟩,Fr.of_below hb,big⟩
def snocC (n:Nat) (C:Nat→Nat→Int) (V:Nat→Int):Nat→Nat→Int:=fun i=>snoc n (C i) (V i)
theorem AddN.cs {w wx:World} {cb n:Nat} {C:Nat→Nat→Int} {V:Nat→Int} {S S':Nat→Value} (h:AddN w wx cb n C V S 12 S'):Cs wx cb (n+1) (snocC n C V) S':=
 ⟨h.hd,h.nf,h.did,fun i hi b hb=>(h.ncb i hi b hb).1,h.dis⟩
theorem add_any (cb n:Nat) (C:Nat→Nat→Int) (V:Nat→Int) (S:Nat→Value) (w:World) (h:Cs w cb n C S) (hn:n≤1048576):
 Calls Tryz.prog 85 #[.pointer (some ⟨cb,0,none⟩),bodyV V] w fun e w'=>e= .returned (.tuple #[])∧∃ S',Cs w' cb (n+1) (snocC n C V) S'∧Fr (fun k=>k=cb∨Xc S k) w w':=by
 have hset:=cset_map
 have hcb:=h.lt
 go_enter Tryz.func85,Tryz.ntmps85
 go_upto_region 1 with fail
 have h0:AddN w (w.alloc (.cells #[.int .i64 (V 0),.int .i64 (V 1),.int .i64 (V 2),.int .i64 (V 3),.int .i64 (V 4),.int .i64 (V 5),.int .i64 (V 6),.int .i64 (V 7),.int .i64 (V 8),.int .i64 (V 9),.int .i64 (V 10),.int .i64 (V 11)] 35)) cb n C V S 0 S:=AddN.start h (bel_a) (by intro j hj;rcases(show j=0∨j=1∨j=2∨j=3∨j=4∨j=5∨j=6∨j=7∨j=8∨j=9∨j=10∨j=11 by omega) with rfl|rfl|rfl|rfl|rfl|rfl|rfl|rfl|rfl|rfl|rfl|rfl<;>go_simp) (by simp)
 clear h
 generalize (w.alloc (.cells #[.int .i64 (V 0),.int .i64 (V 1),.int .i64 (V 2),.int .i64 (V 3),.int .i64 (V 4),.int .i64 (V 5),.int .i64 (V 6),.int .i64 (V 7),.int .i64 (V 8),.int .i64 (V 9),.int .i64 (V 10),.int .i64 (V 11)] 35))=wx0 at h0 ⊢
 have b0:=h0.body 0 (by omega)
 obtain⟨e0,o0⟩:=h0.todo 0 (by omega) (by omega)
 have c0:=h0.hd 0 (by omega)
 rw[e0] at c0
 clear e0
 have f0:=h0.nf 0 (by omega)
 have z0:=h0.big
 have l0:cb<wx0.heap.size:=by omega
 go_cut [] (fun wc=>∃ S',AddN w wc cb n C V S 1 S')
 case first=>
  refine wp_region_held_drew (S:=fun w'=>w'.cell? ⟨w.heap.size,0,none⟩=some (.int .i64 (V 0))) (by kernel_rfl) ?_ (fun hHeld=> ?_)
  · (try dsimp only)
    (first|(go_simp;done)|(go_keep;done))
  refine tq 0 hHeld ?_
  refine tq 1 hHeld ?_
  refine tq 2 hHeld ?_
  refine tq 3 hHeld ?_
  refine tq 5 hHeld ?_
  refine tq 6 hHeld ?_
  refine td 4 7 hHeld (fun hHeld=> ?_)
  refine tc 8 fun K hK=> ?_
  refine step_app1 (by rfl) _ _ _ (by rfl) cb 64 (.int .i64 0) Tryz.underlying89 (by kernel_rfl) (by rfl) (S 0) n (C 0) (by rfl) (o0.alloc' _) wx0.heap.size _ (V 0) (by rfl) (by go_simp) hn (by simp;omega) (wx0.heap.size+1) (by simp) ?_
  intro g cap w1 ho hg hor hlt
  obtain⟨qb,qc,qf,hst⟩:=AddN.step h0 (by omega) hcb ho hg hor hlt
  refine tr hK (fun hHeld=> ?_) (by(try dsimp only);exact qb)
  clear hK K
  refine tq 9 hHeld ?_
  refine tq 10 hHeld ?_
  (refine tc 11 fun K hK=> ?_;go_simp;refine tr hK (fun hHeld=> ?_) (by(try dsimp only);exact(cset_far (by simp;omega)).trans qb);clear hK K)
  refine wpAnyH_done (by kernel_rfl) ?_ _
  go_wp2_with fail
  go_meet
  exact⟨_,hst⟩
 case rest=>
 obtain⟨S1,h1⟩:=hcut
 clear b0 o0 c0 f0 z0 l0 h0
 go_upto_region 2 with fail
 have b0:=h1.body 1 (by omega)
 obtain⟨e0,o0⟩:=h1.todo 1 (by omega) (by omega)
 have c0:=h1.hd 1 (by omega)
 rw[e0] at c0
 clear e0
 have f0:=h1.nf 1 (by omega)
 have z0:=h1.big
 have l0:cb<wc.heap.size:=by omega
 go_cut [] (fun wc=>∃ S',AddN w wc cb n C V S 2 S')
 case first=>
  refine wp_region_held_drew (S:=fun w'=>w'.cell? ⟨w.heap.size,1,none⟩=some (.int .i64 (V 1))) (by kernel_rfl) ?_ (fun hHeld=> ?_)
  · (try dsimp only)
    (first|(go_simp;done)|(go_keep;done))
  refine tq 0 hHeld ?_
  refine tq 1 hHeld ?_
  refine tq 2 hHeld ?_
  refine tq 3 hHeld ?_
  refine tq 5 hHeld ?_
  refine tq 6 hHeld ?_
  refine tq 7 hHeld ?_
  refine td 4 8 hHeld (fun hHeld=> ?_)
  refine tc 9 fun K hK=> ?_
  refine step_app1 (by rfl) _ _ _ (by rfl) cb 64 (.int .i64 0) Tryz.underlying89 (by kernel_rfl) (by rfl) (S 1) n (C 1) (by rfl) (o0.alloc' _) wc.heap.size _ (V 1) (by rfl) (by go_simp) hn (by simp;omega) (wc.heap.size+1) (by simp) ?_
  intro g cap w1 ho hg hor hlt
  obtain⟨qb,qc,qf,hst⟩:=AddN.step h1 (by omega) hcb ho hg hor hlt
  refine tr hK (fun hHeld=> ?_) (by(try dsimp only);exact qb)
  clear hK K
  refine tq 10 hHeld ?_
  refine tq 11 hHeld ?_
  (refine tc 12 fun K hK=> ?_;go_simp;refine tr hK (fun hHeld=> ?_) (by(try dsimp only);exact(cset_far (by simp;omega)).trans qb);clear hK K)
  refine wpAnyH_done (by kernel_rfl) ?_ _
  go_wp2_with fail
  go_meet
  exact⟨_,hst⟩
 case rest=>
 obtain⟨S2,h2⟩:=hcut
 clear b0 o0 c0 f0 z0 l0 h1
 go_upto_region 3 with fail
 have b0:=h2.body 2 (by omega)
 obtain⟨e0,o0⟩:=h2.todo 2 (by omega) (by omega)
 have c0:=h2.hd 2 (by omega)
 rw[e0] at c0
 clear e0
 have f0:=h2.nf 2 (by omega)
 have z0:=h2.big
 have l0:cb<wc.heap.size:=by omega
 go_cut [] (fun wc=>∃ S',AddN w wc cb n C V S 3 S')
 case first=>
  refine wp_region_held_drew (S:=fun w'=>w'.cell? ⟨w.heap.size,2,none⟩=some (.int .i64 (V 2))) (by kernel_rfl) ?_ (fun hHeld=> ?_)
  · (try dsimp only)
    (first|(go_simp;done)|(go_keep;done))
  refine tq 0 hHeld ?_
  refine tq 1 hHeld ?_
  refine tq 2 hHeld ?_
  refine tq 3 hHeld ?_
  refine tq 5 hHeld ?_
  refine tq 6 hHeld ?_
  refine tq 7 hHeld ?_
  refine td 4 8 hHeld (fun hHeld=> ?_)
  refine tc 9 fun K hK=> ?_
  refine step_app1 (by rfl) _ _ _ (by rfl) cb 64 (.int .i64 0) Tryz.underlying89 (by kernel_rfl) (by rfl) (S 2) n (C 2) (by rfl) (o0.alloc' _) wc.heap.size _ (V 2) (by rfl) (by go_simp) hn (by simp;omega) (wc.heap.size+1) (by simp) ?_
  intro g cap w1 ho hg hor hlt
  obtain⟨qb,qc,qf,hst⟩:=AddN.step h2 (by omega) hcb ho hg hor hlt
  refine tr hK (fun hHeld=> ?_) (by(try dsimp only);exact qb)
  clear hK K
  refine tq 10 hHeld ?_
  refine tq 11 hHeld ?_
  (refine tc 12 fun K hK=> ?_;go_simp;refine tr hK (fun hHeld=> ?_) (by(try dsimp only);exact(cset_far (by simp;omega)).trans qb);clear hK K)
  refine wpAnyH_done (by kernel_rfl) ?_ _
  go_wp2_with fail
  go_meet
  exact⟨_,hst⟩
 case rest=>
 obtain⟨S3,h3⟩:=hcut
 clear b0 o0 c0 f0 z0 l0 h2
 go_upto_region 4 with fail
 have b0:=h3.body 3 (by omega)
 obtain⟨e0,o0⟩:=h3.todo 3 (by omega) (by omega)
 have c0:=h3.hd 3 (by omega)
 rw[e0] at c0
 clear e0
 have f0:=h3.nf 3 (by omega)
 have z0:=h3.big
 have l0:cb<wc.heap.size:=by omega
 go_cut [] (fun wc=>∃ S',AddN w wc cb n C V S 4 S')
 case first=>
  refine wp_region_held_drew (S:=fun w'=>w'.cell? ⟨w.heap.size,3,none⟩=some (.int .i64 (V 3))) (by kernel_rfl) ?_ (fun hHeld=> ?_)
  · (try dsimp only)
    (first|(go_simp;done)|(go_keep;done))
  refine tq 0 hHeld ?_
  refine tq 1 hHeld ?_
  refine tq 2 hHeld ?_
  refine tq 3 hHeld ?_
  refine tq 5 hHeld ?_
  refine tq 6 hHeld ?_
  refine tq 7 hHeld ?_
  refine td 4 8 hHeld (fun hHeld=> ?_)
  refine tc 9 fun K hK=> ?_
  refine step_app1 (by rfl) _ _ _ (by rfl) cb 64 (.int .i64 0) Tryz.underlying89 (by kernel_rfl) (by rfl) (S 3) n (C 3) (by rfl) (o0.alloc' _) wc.heap.size _ (V 3) (by rfl) (by go_simp) hn (by simp;omega) (wc.heap.size+1) (by simp) ?_
  intro g cap w1 ho hg hor hlt
  obtain⟨qb,qc,qf,hst⟩:=AddN.step h3 (by omega) hcb ho hg hor hlt
  refine tr hK (fun hHeld=> ?_) (by(try dsimp only);exact qb)
  clear hK K
  refine tq 10 hHeld ?_
  refine tq 11 hHeld ?_
  (refine tc 12 fun K hK=> ?_;go_simp;refine tr hK (fun hHeld=> ?_) (by(try dsimp only);exact(cset_far (by simp;omega)).trans qb);clear hK K)
  refine wpAnyH_done (by kernel_rfl) ?_ _
  go_wp2_with fail
  go_meet
  exact⟨_,hst⟩
 case rest=>
 obtain⟨S4,h4⟩:=hcut
 clear b0 o0 c0 f0 z0 l0 h3
 go_upto_region 5 with fail
 have b0:=h4.body 4 (by omega)
 obtain⟨e0,o0⟩:=h4.todo 4 (by omega) (by omega)
 have c0:=h4.hd 4 (by omega)
 rw[e0] at c0
 clear e0
 have f0:=h4.nf 4 (by omega)
 have z0:=h4.big
 have l0:cb<wc.heap.size:=by omega
 go_cut [] (fun wc=>∃ S',AddN w wc cb n C V S 5 S')
 case first=>
  refine wp_region_held_drew (S:=fun w'=>w'.cell? ⟨w.heap.size,4,none⟩=some (.int .i64 (V 4))) (by kernel_rfl) ?_ (fun hHeld=> ?_)
  · (try dsimp only)
    (first|(go_simp;done)|(go_keep;done))
  refine tq 0 hHeld ?_
  refine tq 1 hHeld ?_
  refine tq 2 hHeld ?_
  refine tq 3 hHeld ?_
  refine tq 5 hHeld ?_
  refine tq 6 hHeld ?_
  refine tq 7 hHeld ?_
  refine td 4 8 hHeld (fun hHeld=> ?_)
  refine tc 9 fun K hK=> ?_
  refine step_app1 (by rfl) _ _ _ (by rfl) cb 64 (.int .i64 0) Tryz.underlying89 (by kernel_rfl) (by rfl) (S 4) n (C 4) (by rfl) (o0.alloc' _) wc.heap.size _ (V 4) (by rfl) (by go_simp) hn (by simp;omega) (wc.heap.size+1) (by simp) ?_
  intro g cap w1 ho hg hor hlt
  obtain⟨qb,qc,qf,hst⟩:=AddN.step h4 (by omega) hcb ho hg hor hlt
  refine tr hK (fun hHeld=> ?_) (by(try dsimp only);exact qb)
  clear hK K
  refine tq 10 hHeld ?_
  refine tq 11 hHeld ?_
  (refine tc 12 fun K hK=> ?_;go_simp;refine tr hK (fun hHeld=> ?_) (by(try dsimp only);exact(cset_far (by simp;omega)).trans qb);clear hK K)
  refine wpAnyH_done (by kernel_rfl) ?_ _
  go_wp2_with fail
  go_meet
  exact⟨_,hst⟩
 case rest=>
 obtain⟨S5,h5⟩:=hcut
 clear b0 o0 c0 f0 z0 l0 h4
 go_upto_region 6 with fail
 have b0:=h5.body 5 (by omega)
 obtain⟨e0,o0⟩:=h5.todo 5 (by omega) (by omega)
 have c0:=h5.hd 5 (by omega)
 rw[e0] at c0
 clear e0
 have f0:=h5.nf 5 (by omega)
 have z0:=h5.big
 have l0:cb<wc.heap.size:=by omega
 go_cut [] (fun wc=>∃ S',AddN w wc cb n C V S 6 S')
 case first=>
  refine wp_region_held_drew (S:=fun w'=>w'.cell? ⟨w.heap.size,5,none⟩=some (.int .i64 (V 5))) (by kernel_rfl) ?_ (fun hHeld=> ?_)
  · (try dsimp only)
    (first|(go_simp;done)|(go_keep;done))
  refine tq 0 hHeld ?_
  refine tq 1 hHeld ?_
  refine tq 2 hHeld ?_
  refine tq 3 hHeld ?_
  refine tq 5 hHeld ?_
  refine tq 6 hHeld ?_
  refine tq 7 hHeld ?_
  refine td 4 8 hHeld (fun hHeld=> ?_)
  refine tc 9 fun K hK=> ?_
  refine step_app1 (by rfl) _ _ _ (by rfl) cb 64 (.int .i64 0) Tryz.underlying89 (by kernel_rfl) (by rfl) (S 5) n (C 5) (by rfl) (o0.alloc' _) wc.heap.size _ (V 5) (by rfl) (by go_simp) hn (by simp;omega) (wc.heap.size+1) (by simp) ?_
  intro g cap w1 ho hg hor hlt
  obtain⟨qb,qc,qf,hst⟩:=AddN.step h5 (by omega) hcb ho hg hor hlt
  refine tr hK (fun hHeld=> ?_) (by(try dsimp only);exact qb)
  clear hK K
  refine tq 10 hHeld ?_
  refine tq 11 hHeld ?_
  (refine tc 12 fun K hK=> ?_;go_simp;refine tr hK (fun hHeld=> ?_) (by(try dsimp only);exact(cset_far (by simp;omega)).trans qb);clear hK K)
  refine wpAnyH_done (by kernel_rfl) ?_ _
  go_wp2_with fail
  go_meet
  exact⟨_,hst⟩
 case rest=>
 obtain⟨S6,h6⟩:=hcut
 clear b0 o0 c0 f0 z0 l0 h5
 go_upto_region 7 with fail
 have b0:=h6.body 6 (by omega)
 obtain⟨e0,o0⟩:=h6.todo 6 (by omega) (by omega)
 have c0:=h6.hd 6 (by omega)
 rw[e0] at c0
 clear e0
 have f0:=h6.nf 6 (by omega)
 have z0:=h6.big
 have l0:cb<wc.heap.size:=by omega
 go_cut [] (fun wc=>∃ S',AddN w wc cb n C V S 7 S')
 case first=>
  refine wp_region_held_drew (S:=fun w'=>w'.cell? ⟨w.heap.size,6,none⟩=some (.int .i64 (V 6))) (by kernel_rfl) ?_ (fun hHeld=> ?_)
  · (try dsimp only)
    (first|(go_simp;done)|(go_keep;done))
  refine tq 0 hHeld ?_
  refine tq 1 hHeld ?_
  refine tq 2 hHeld ?_
  refine tq 3 hHeld ?_
  refine tq 5 hHeld ?_
  refine tq 6 hHeld ?_
  refine tq 7 hHeld ?_
  refine td 4 8 hHeld (fun hHeld=> ?_)
  refine tc 9 fun K hK=> ?_
  refine step_app1 (by rfl) _ _ _ (by rfl) cb 64 (.int .i64 0) Tryz.underlying89 (by kernel_rfl) (by rfl) (S 6) n (C 6) (by rfl) (o0.alloc' _) wc.heap.size _ (V 6) (by rfl) (by go_simp) hn (by simp;omega) (wc.heap.size+1) (by simp) ?_
  intro g cap w1 ho hg hor hlt
  obtain⟨qb,qc,qf,hst⟩:=AddN.step h6 (by omega) hcb ho hg hor hlt
  refine tr hK (fun hHeld=> ?_) (by(try dsimp only);exact qb)
  clear hK K
  refine tq 10 hHeld ?_
  refine tq 11 hHeld ?_
  (refine tc 12 fun K hK=> ?_;go_simp;refine tr hK (fun hHeld=> ?_) (by(try dsimp only);exact(cset_far (by simp;omega)).trans qb);clear hK K)
  refine wpAnyH_done (by kernel_rfl) ?_ _
  go_wp2_with fail
  go_meet
  exact⟨_,hst⟩
 case rest=>
 obtain⟨S7,h7⟩:=hcut
 clear b0 o0 c0 f0 z0 l0 h6
 go_upto_region 8 with fail
 have b0:=h7.body 7 (by omega)
 obtain⟨e0,o0⟩:=h7.todo 7 (by omega) (by omega)
 have c0:=h7.hd 7 (by omega)
 rw[e0] at c0
 clear e0
 have f0:=h7.nf 7 (by omega)
 have z0:=h7.big
 have l0:cb<wc.heap.size:=by omega
 go_cut [] (fun wc=>∃ S',AddN w wc cb n C V S 8 S')
 case first=>
  refine wp_region_held_drew (S:=fun w'=>w'.cell? ⟨w.heap.size,7,none⟩=some (.int .i64 (V 7))) (by kernel_rfl) ?_ (fun hHeld=> ?_)
  · (try dsimp only)
    (first|(go_simp;done)|(go_keep;done))
  refine tq 0 hHeld ?_
  refine tq 1 hHeld ?_
  refine tq 2 hHeld ?_
  refine tq 3 hHeld ?_
  refine tq 5 hHeld ?_
  refine tq 6 hHeld ?_
  refine tq 7 hHeld ?_
  refine td 4 8 hHeld (fun hHeld=> ?_)
  refine tc 9 fun K hK=> ?_
  refine step_app1 (by rfl) _ _ _ (by rfl) cb 64 (.int .i64 0) Tryz.underlying89 (by kernel_rfl) (by rfl) (S 7) n (C 7) (by rfl) (o0.alloc' _) wc.heap.size _ (V 7) (by rfl) (by go_simp) hn (by simp;omega) (wc.heap.size+1) (by simp) ?_
  intro g cap w1 ho hg hor hlt
  obtain⟨qb,qc,qf,hst⟩:=AddN.step h7 (by omega) hcb ho hg hor hlt
  refine tr hK (fun hHeld=> ?_) (by(try dsimp only);exact qb)
  clear hK K
  refine tq 10 hHeld ?_
  refine tq 11 hHeld ?_
  (refine tc 12 fun K hK=> ?_;go_simp;refine tr hK (fun hHeld=> ?_) (by(try dsimp only);exact(cset_far (by simp;omega)).trans qb);clear hK K)
  refine wpAnyH_done (by kernel_rfl) ?_ _
  go_wp2_with fail
  go_meet
  exact⟨_,hst⟩
 case rest=>
 obtain⟨S8,h8⟩:=hcut
 clear b0 o0 c0 f0 z0 l0 h7
 go_upto_region 9 with fail
 have b0:=h8.body 8 (by omega)
 obtain⟨e0,o0⟩:=h8.todo 8 (by omega) (by omega)
 have c0:=h8.hd 8 (by omega)
 rw[e0] at c0
 clear e0
 have f0:=h8.nf 8 (by omega)
 have z0:=h8.big
 have l0:cb<wc.heap.size:=by omega
 go_cut [] (fun wc=>∃ S',AddN w wc cb n C V S 9 S')
 case first=>
  refine wp_region_held_drew (S:=fun w'=>w'.cell? ⟨w.heap.size,8,none⟩=some (.int .i64 (V 8))) (by kernel_rfl) ?_ (fun hHeld=> ?_)
  · (try dsimp only)
    (first|(go_simp;done)|(go_keep;done))
  refine tq 0 hHeld ?_
  refine tq 1 hHeld ?_
  refine tq 2 hHeld ?_
  refine tq 3 hHeld ?_
  refine tq 5 hHeld ?_
  refine tq 6 hHeld ?_
  refine td 4 7 hHeld (fun hHeld=> ?_)
  refine tc 8 fun K hK=> ?_
  refine step_app1 (by rfl) _ _ _ (by rfl) cb 64 (.int .i64 0) Tryz.underlying89 (by kernel_rfl) (by rfl) (S 8) n (C 8) (by rfl) (o0.alloc' _) wc.heap.size _ (V 8) (by rfl) (by go_simp) hn (by simp;omega) (wc.heap.size+1) (by simp) ?_
  intro g cap w1 ho hg hor hlt
  obtain⟨qb,qc,qf,hst⟩:=AddN.step h8 (by omega) hcb ho hg hor hlt
  refine tr hK (fun hHeld=> ?_) (by(try dsimp only);exact qb)
  clear hK K
  refine tq 9 hHeld ?_
  refine tq 10 hHeld ?_
  (refine tc 11 fun K hK=> ?_;go_simp;refine tr hK (fun hHeld=> ?_) (by(try dsimp only);exact(cset_far (by simp;omega)).trans qb);clear hK K)
  refine wpAnyH_done (by kernel_rfl) ?_ _
  go_wp2_with fail
  go_meet
  exact⟨_,hst⟩
 case rest=>
 obtain⟨S9,h9⟩:=hcut
 clear b0 o0 c0 f0 z0 l0 h8
 go_upto_region 10 with fail
 have b0:=h9.body 9 (by omega)
 obtain⟨e0,o0⟩:=h9.todo 9 (by omega) (by omega)
 have c0:=h9.hd 9 (by omega)
 rw[e0] at c0
 clear e0
 have f0:=h9.nf 9 (by omega)
 have z0:=h9.big
 have l0:cb<wc.heap.size:=by omega
 go_cut [] (fun wc=>∃ S',AddN w wc cb n C V S 10 S')
 case first=>
  refine wp_region_held_drew (S:=fun w'=>w'.cell? ⟨w.heap.size,9,none⟩=some (.int .i64 (V 9))) (by kernel_rfl) ?_ (fun hHeld=> ?_)
  · (try dsimp only)
    (first|(go_simp;done)|(go_keep;done))
  refine tq 0 hHeld ?_
  refine tq 1 hHeld ?_
  refine tq 2 hHeld ?_
  refine tq 3 hHeld ?_
  refine tq 5 hHeld ?_
  refine tq 6 hHeld ?_
  refine td 4 7 hHeld (fun hHeld=> ?_)
  refine tc 8 fun K hK=> ?_
  refine step_app1 (by rfl) _ _ _ (by rfl) cb 64 (.int .i64 0) Tryz.underlying89 (by kernel_rfl) (by rfl) (S 9) n (C 9) (by rfl) (o0.alloc' _) wc.heap.size _ (V 9) (by rfl) (by go_simp) hn (by simp;omega) (wc.heap.size+1) (by simp) ?_
  intro g cap w1 ho hg hor hlt
  obtain⟨qb,qc,qf,hst⟩:=AddN.step h9 (by omega) hcb ho hg hor hlt
  refine tr hK (fun hHeld=> ?_) (by(try dsimp only);exact qb)
  clear hK K
  refine tq 9 hHeld ?_
  refine tq 10 hHeld ?_
  (refine tc 11 fun K hK=> ?_;go_simp;refine tr hK (fun hHeld=> ?_) (by(try dsimp only);exact(cset_far (by simp;omega)).trans qb);clear hK K)
  refine wpAnyH_done (by kernel_rfl) ?_ _
  go_wp2_with fail
  go_meet
  exact⟨_,hst⟩
 case rest=>
 obtain⟨S10,h10⟩:=hcut
 clear b0 o0 c0 f0 z0 l0 h9
 go_upto_region 11 with fail
 have b0:=h10.body 10 (by omega)
 obtain⟨e0,o0⟩:=h10.todo 10 (by omega) (by omega)
 have c0:=h10.hd 10 (by omega)
 rw[e0] at c0
 clear e0
 have f0:=h10.nf 10 (by omega)
 have z0:=h10.big
 have l0:cb<wc.heap.size:=by omega
 go_cut [] (fun wc=>∃ S',AddN w wc cb n C V S 11 S')
 case first=>
  refine wp_region_held_drew (S:=fun w'=>w'.cell? ⟨w.heap.size,10,none⟩=some (.int .i64 (V 10))) (by kernel_rfl) ?_ (fun hHeld=> ?_)
  · (try dsimp only)
    (first|(go_simp;done)|(go_keep;done))
  refine tq 0 hHeld ?_
  refine tq 1 hHeld ?_
  refine tq 2 hHeld ?_
  refine tq 3 hHeld ?_
  refine tq 5 hHeld ?_
  refine tq 6 hHeld ?_
  refine td 4 7 hHeld (fun hHeld=> ?_)
  refine tc 8 fun K hK=> ?_
  refine step_app1 (by rfl) _ _ _ (by rfl) cb 64 (.int .i64 0) Tryz.underlying89 (by kernel_rfl) (by rfl) (S 10) n (C 10) (by rfl) (o0.alloc' _) wc.heap.size _ (V 10) (by rfl) (by go_simp) hn (by simp;omega) (wc.heap.size+1) (by simp) ?_
  intro g cap w1 ho hg hor hlt
  obtain⟨qb,qc,qf,hst⟩:=AddN.step h10 (by omega) hcb ho hg hor hlt
  refine tr hK (fun hHeld=> ?_) (by(try dsimp only);exact qb)
  clear hK K
  refine tq 9 hHeld ?_
  refine tq 10 hHeld ?_
  (refine tc 11 fun K hK=> ?_;go_simp;refine tr hK (fun hHeld=> ?_) (by(try dsimp only);exact(cset_far (by simp;omega)).trans qb);clear hK K)
  refine wpAnyH_done (by kernel_rfl) ?_ _
  go_wp2_with fail
  go_meet
  exact⟨_,hst⟩
 case rest=>
 obtain⟨S11,h11⟩:=hcut
 clear b0 o0 c0 f0 z0 l0 h10
 go_upto_region 12 with fail
 have b0:=h11.body 11 (by omega)
 obtain⟨e0,o0⟩:=h11.todo 11 (by omega) (by omega)
 have c0:=h11.hd 11 (by omega)
 rw[e0] at c0
 clear e0
 have f0:=h11.nf 11 (by omega)
 have z0:=h11.big
 have l0:cb<wc.heap.size:=by omega
 refine wp_region_held_drew (S:=fun w'=>w'.cell? ⟨w.heap.size,11,none⟩=some (.int .i64 (V 11))) (by kernel_rfl) ?_ (fun hHeld=> ?_)
 · (try dsimp only)
   (first|(go_simp;done)|(go_keep;done))
 refine tq 0 hHeld ?_
 refine tq 1 hHeld ?_
 refine tq 2 hHeld ?_
 refine tq 3 hHeld ?_
 refine tq 5 hHeld ?_
 refine tq 6 hHeld ?_
 refine td 4 7 hHeld (fun hHeld=> ?_)
 refine tc 8 fun K hK=> ?_
 refine step_app1 (by rfl) _ _ _ (by rfl) cb 64 (.int .i64 0) Tryz.underlying89 (by kernel_rfl) (by rfl) (S 11) n (C 11) (by rfl) (o0.alloc' _) wc.heap.size _ (V 11) (by rfl) (by go_simp) hn (by simp;omega) (wc.heap.size+1) (by simp) ?_
 intro g cap w1 ho hg hor hlt
 obtain⟨qb,qc,qf,hst⟩:=AddN.step h11 (by omega) hcb ho hg hor hlt
 refine tr hK (fun hHeld=> ?_) (by(try dsimp only);exact qb)
 clear hK K
 refine tq 9 hHeld ?_
 refine tq 10 hHeld ?_
 (refine tc 11 fun K hK=> ?_;go_simp;refine tr hK (fun hHeld=> ?_) (by(try dsimp only);exact(cset_far (by simp;omega)).trans qb);clear hK K)
 refine wpAnyH_done (by kernel_rfl) ?_ _
 go_wp2_with fail
 go_end0
 exact⟨rfl,_,hst.cs,hst.fr⟩
end Go.Proofs.YthajilkjfkppoaaGreatDoor
