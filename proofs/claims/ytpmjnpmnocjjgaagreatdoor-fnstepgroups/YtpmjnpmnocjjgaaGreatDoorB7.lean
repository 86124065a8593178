/- Texts of a proof. -/
import Derived.Test.YtpmjnpmnocjjgaaGreatDoorB5
import Derived.Test.YtpmjnpmnocjjgaaGreatDoorB3
import Derived.Deep.QuietTactic
import Derived.BigQuiet
import Derived.Deep.RegionWith
import Derived.Deep.RegionHeld3
import Derived.Test.YtpmjnpmnocjjgaaGreatDoorB2
import Derived.Deep.DeepCutAuto
import Derived.Test.YtpmjnpmnocjjgaaGreatDoorRfG
import Derived.RangeFuncBound
set_option maxHeartbeats 16000000
set_option maxRecDepth 20000
namespace Go.Proofs.YtpmjnpmnocjjgaaGreatDoor
open Go.RowKit
set_option linter.unusedVariables false
set_option linter.unusedSimpArgs false
def mn (x y:Int):Int:=if y<x then y else x
def mx (x y:Int):Int:=if x<y then y else x
theorem spanMeets_any (a b c d r s t u:Int) (w:World):
 Calls Tryz.prog 180 #[b4 a b c d,b4 r s t u] w fun e w'=>e= .returned (.bool (leB a b t u&&leB r s c d))∧Below w.heap.size w w':=by
 have hset:=cset_map
 go_enter Tryz.func180,Tryz.ntmps180
 go_wp2_with (go_at_call 190;refine(noneGreater_any _ _ _ _ _).mono ?_;rintro e w1 ⟨rfl,hb1⟩;obtain⟨hc1,hf1⟩:=bcell hb1;have hl1:=blt hb1;have hz1:=hb1.size;(try simp only[zz] at hc1 hf1 hl1 hz1);(try have hq1x0:w.heap.size<w1.heap.size:=(by omega));(try have hq1x1:w.heap.size+1<w1.heap.size:=(by omega)))
 all_goals
  go_ret
  refine⟨ret_bool ?_,bel_a⟩
  first|(simp[*];done)|(simp at*;simp[*];done)|(simp at*;omega)
theorem spanHas_any (a b c d r s t u:Int) (w:World):
 Calls Tryz.prog 177 #[b4 a b c d,b4 r s t u] w fun e w'=>e= .returned (.bool (leB a b r s&&leB t u c d))∧Below w.heap.size w w':=by
 have hset:=cset_map
 go_enter Tryz.func177,Tryz.ntmps177
 go_wp2_with (go_at_call 190;refine(noneGreater_any _ _ _ _ _).mono ?_;rintro e w1 ⟨rfl,hb1⟩;obtain⟨hc1,hf1⟩:=bcell hb1;have hl1:=blt hb1;have hz1:=hb1.size;(try simp only[zz] at hc1 hf1 hl1 hz1);(try have hq1x0:w.heap.size<w1.heap.size:=(by omega));(try have hq1x1:w.heap.size+1<w1.heap.size:=(by omega)))
 all_goals
  go_ret
  refine⟨ret_bool ?_,bel_a⟩
  first|(simp[*];done)|(simp at*;simp[*];done)|(simp at*;omega)
theorem least_any (x y u v:Int) (w:World):
 Calls Tryz.prog 192 #[vv x y,vv u v] w fun e w'=>e= .returned (vv (mn x u) (mn y v))∧Below w.heap.size w w':=by
 have hset:=cset_map
 go_enter Tryz.func192,Tryz.ntmps192
 go_wp2
 all_goals
  refine bodyPost_ret (v:=vv (mn x u) (mn y v)) ?_ rfl ⟨rfl,bel_a⟩
  simp[results,Tryz.results192,go_sem, *]
  try(constructor<;>(unfold mn;split<;>omega))
theorem greatest_any (x y u v:Int) (w:World):
 Calls Tryz.prog 191 #[vv x y,vv u v] w fun e w'=>e= .returned (vv (mx x u) (mx y v))∧Below w.heap.size w w':=by
 have hset:=cset_map
 go_enter Tryz.func191,Tryz.ntmps191
 go_wp2
 all_goals
  refine bodyPost_ret (v:=vv (mx x u) (mx y v)) ?_ rfl ⟨rfl,bel_a⟩
  simp[results,Tryz.results191,go_sem, *]
  try(constructor<;>(unfold mx;split<;>omega))
theorem l2Square_any (x y:Int) (w:World) (hx: -1500000000≤x∧x≤1500000000) (hy: -1500000000≤y∧y≤1500000000):
 Calls Tryz.prog 119 #[vv x y] w fun e w'=>e= .returned (.int .i64 (x*x+y*y))∧Below w.heap.size w w':=by
 have p:=mul_bd (a:=x) (b:=x) (A:=1500000000) (B:=1500000000) hx hx
 have q:=mul_bd (a:=y) (b:=y) (A:=1500000000) (B:=1500000000) hy hy
 have hset:=cset_map
 go_enter Tryz.func119,Tryz.ntmps119
 go_wp2
 go_ret
 exact⟨rfl,bel_a⟩
theorem sVecLen_any (x y:Int) (w:World):
 Calls Tryz.prog 121 #[vv x y] w fun e w'=>e= .returned (.int .i64 (vl (fc x) (fc y)))∧Below w.heap.size w w':=by
 have hx:=fc_bd x
 have hy:=fc_bd y
 have hs:=sq_bd hx hy
 have hset:=cset_map
 go_enter Tryz.func121,Tryz.ntmps121
 go_wp2_with (first
  |(go_at_call 144;refine(l2Clamp_any _ _ _).mono ?_;rintro e w1 ⟨rfl,hb1⟩;obtain⟨hc1,hf1⟩:=bcell hb1;have hz1:=hb1.size;(try simp at hz1);have hq1x0a:w.heap.size<w1.heap.size:=(by omega))
  |(go_at_call 119;refine(l2Square_any _ _ _ (by omega) (by omega)).mono ?_;rintro e w2 ⟨rfl,hb2⟩;obtain⟨hc2,hf2⟩:=bcell hb2;have hz2:=hb2.size;(try simp at hz2);have hq2x0a:w.heap.size<w2.heap.size:=(by omega))
  |(go_at_call 146;refine(l1Root_any _ _ (by omega) (by omega)).mono ?_;rintro e w' ⟨rfl,rfl⟩)
  |(go_at_call 145;refine(sFixClamp_any _ _).mono ?_;rintro e w' ⟨rfl,rfl⟩))
 go_ret
 exact⟨rfl,bel_a⟩
theorem sVecUnit_any (x y:Int) (w:World):
 Calls Tryz.prog 120 #[vv x y] w fun e w'=>e= .returned (vv (ux (fc x) (fc y)) (uy (fc x) (fc y)))∧Below w.heap.size w w':=by
 have hx:=fc_bd x
 have hy:=fc_bd y
 have hl:=vl_bd (fc x) (fc y)
 have f1:=fc_fc x
 have f2:=fc_fc y
 by_cases h0:vl (fc x) (fc y)=0
 · have e1:ux (fc x) (fc y)=0:=if_pos h0
   have e2:uy (fc x) (fc y)=256:=if_pos h0
   have hset:=cset_map
   go_enter Tryz.func120,Tryz.ntmps120
   go_wp2_with (first
   |(go_at_call 144;refine(l2Clamp_any _ _ _).mono ?_;rintro e w1 ⟨rfl,hb1⟩;obtain⟨hc1,hf1⟩:=bcell hb1;have hz1:=hb1.size;(try simp at hz1);have hq1x0a:w.heap.size<w1.heap.size:=(by omega);have hq1x1a:w.heap.size+1<w1.heap.size:=(by omega))
   |(go_at_call 121;refine(sVecLen_any _ _ _).mono ?_;rintro e w6 ⟨rfl,hb6⟩;obtain⟨hc6,hf6⟩:=bcell hb6;have hz6:=hb6.size;(try simp at hz6);have hq6x0a:w.heap.size<w6.heap.size:=(by omega);have hq6x1a:w.heap.size+1<w6.heap.size:=(by omega)))
   exact bodyPost_ret (v:=vv 0 256) (by simp[results,Tryz.results120,go_sem, *]) rfl ⟨by rw[e1,e2],bel_a⟩
 · have t1:=w64 (n:=(fc x*256).tdiv (vl (fc x) (fc y))) (by have:=tdiv_bd (x:=fc x*256) (B:=256000000000) (vl (fc x) (fc y)) (by omega);omega)
   have t2:=w64 (n:=(fc y*256).tdiv (vl (fc x) (fc y))) (by have:=tdiv_bd (x:=fc y*256) (B:=256000000000) (vl (fc x) (fc y)) (by omega);omega)
   have s1:=i64w (n:=(fc x*256).tdiv (vl (fc x) (fc y))) (by have:=tdiv_bd (x:=fc x*256) (B:=256000000000) (vl (fc x) (fc y)) (by omega);omega)
   have s2:=i64w (n:=(fc y*256).tdiv (vl (fc x) (fc y))) (by have:=tdiv_bd (x:=fc y*256) (B:=256000000000) (vl (fc x) (fc y)) (by omega);omega)
   have E1:Hid (ux (fc x) (fc y)=(fc x*256).tdiv (vl (fc x) (fc y))):=if_neg h0
   have E2:Hid (uy (fc x) (fc y)=(fc y*256).tdiv (vl (fc x) (fc y))):=if_neg h0
   have hset:=cset_map
   go_enter Tryz.func120,Tryz.ntmps120
   go_wp2_with (first
   |(go_at_call 144;refine(l2Clamp_any _ _ _).mono ?_;rintro e w1 ⟨rfl,hb1⟩;obtain⟨hc1,hf1⟩:=bcell hb1;have hz1:=hb1.size;(try simp at hz1);have hq1x0a:w.heap.size<w1.heap.size:=(by omega);have hq1x1a:w.heap.size+1<w1.heap.size:=(by omega))
   |(go_at_call 121;refine(sVecLen_any _ _ _).mono ?_;rintro e w6 ⟨rfl,hb6⟩;obtain⟨hc6,hf6⟩:=bcell hb6;have hz6:=hb6.size;(try simp at hz6);have hq6x0a:w.heap.size<w6.heap.size:=(by omega);have hq6x1a:w.heap.size+1<w6.heap.size:=(by omega)))
   go_region
   all_goals
    go_wp2
    exact bodyPost_ret (v:=vv ((fc x*256).tdiv (vl (fc x) (fc y))) ((fc y*256).tdiv (vl (fc x) (fc y)))) (by simp[results,Tryz.results120,go_sem, *]) rfl ⟨by rw[E1.out,E2.out],bel_a⟩
abbrev bodyV (V:Nat→Int):Value:= .agg #[.int .i64 (V 0),.int .i64 (V 1),.int .i64 (V 2),.int .i64 (V 3),.int .i64 (V 4),.int .i64 (V 5),.int .i64 (V 6),.int .i64 (V 7),.int .i64 (V 8),.int .i64 (V 9),.int .i64 (V 10),.int .i64 (V 11)]
structure AddN (w wx:World) (cb n:Nat) (C:Nat→Nat→Int) (V:Nat→Int) (S:Nat→Value) (k:Nat) (S':Nat→Value):Prop where
 body:∀ j,j<12→wx.cell? ⟨w.heap.size,j,none⟩=some (.int .i64 (V j))
 hd:∀ i,i<12→wx.cell? ⟨cb,i,none⟩=some (S' i)
 nf:∀ i,i<12→wx.frozen? ⟨cb,i,none⟩=false
 did:∀ i,i<k→OwnL wx cb 78 1 (S' i) (n+1) (snoc n (C i) (V i))
 todo:∀ i,k≤i→i<12→S' i=S i∧OwnL wx cb 78 1 (S i) n (C i)
 dis:∀ i j,i<12→j<12→i≠j→∀ b,(S' i).ownBlock=some b→(S' j).ownBlock≠some b
 ncb:∀ i,i<12→∀ b,(S' i).ownBlock=some b→b≠cb∧b≠w.heap.size
 fr:Fr (fun k=>k=cb∨Xc S k) w wx
 big:w.heap.size<wx.heap.size
theorem OwnL.alloc' {w:World} {base t k n:Nat} {v:Value} {U:Nat→Int} (h:OwnL w base t k v n U) (o:Obj):OwnL (w.alloc o).drew base t k v n U:=World.ownsRow.drew (World.ownsRow.alloc h o)
theorem AddN.own {w wx:World} {cb n k:Nat} {C:Nat→Nat→Int} {V:Nat→Int} {S S':Nat→Value} (h:AddN w wx cb n C V S k S') {i:Nat} (hi:i<12):∃ m U,OwnL wx cb 78 1 (S' i) m U:=by
 by_cases e:i<k
 · exact⟨_,_,h.did i e⟩
 · obtain⟨e1,e2⟩:=h.todo i (by omega) hi
   rw[e1]
   exact⟨_,_,e2⟩
theorem AddN.step {w wx w1:World} {cb n k g cap:Nat} {C:Nat→Nat→Int} {V:Nat→Int} {S S':Nat→Value} {o:Obj} (h:AddN w wx cb n C V S k S') (hk:k<12) (hcb:cb<w.heap.size)
 (ho:OwnL w1 cb 78 1 (.slice (some ⟨g,0,none⟩) (n+1) cap) (n+1) (snoc n (C k) (V k))) (hg:(wx.alloc o).drew.grownBy w1 (S k).ownBlock) (hor:(S k).ownBlock=some g∨g=wx.heap.size+1) (hlt:g<w1.heap.size):
 w1.cell? ⟨w.heap.size,k,none⟩=some (.int .i64 (V k))∧w1.cell? ⟨cb,k,none⟩=some (S k)∧w1.frozen? ⟨cb,k,none⟩=false∧
 AddN w (w1.setCell ⟨cb,k,none⟩ (.slice (some ⟨g,0,none⟩) (n+1) cap)) cb n C V S (k+1) (fun i=>if i=k then .slice (some ⟨g,0,none⟩) (n+1) cap else S' i):=by
 obtain⟨es,ok⟩:=h.todo k (Nat.le_refl _) hk
 have big:=h.big
 have sz:(wx.alloc o).drew.heap.size=wx.heap.size+1:=by simp
 have hne:∀ b,(S k).ownBlock=some b→b≠cb∧b≠w.heap.size:=fun b hb=>h.ncb k hk b (by rw[es];exact hb)
 have hX:∀ b,(S k).ownBlock=some b→Xc S b:=fun b hb=>⟨k,hk,hb⟩
 have hblk:∀ b,b<wx.heap.size→(S k).ownBlock≠some b→w1.heap[b]? =wx.heap[b]? :=fun b hb hn=>(hg.block b (by omega) (Ne.symm hn)).trans (Below.heap_alloc _ _ _ hb)
 have F0:Fr (fun x=>x=cb∨Xc S x) wx (wx.alloc o).drew:=Fr.of_below (Below.drew ((Below.refl _ _).alloc (Nat.le_refl _) _))
 have F1:Fr (fun x=>x=cb∨Xc S x) (wx.alloc o).drew w1:=Fr.grown hg (fun b hb=> .inr (hX b hb)) (OwnL.isCells (ok.alloc' o))
 have F2:Fr (fun x=>x=cb∨Xc S x) w1 (w1.setCell ⟨cb,k,none⟩ (.slice (some ⟨g,0,none⟩) (n+1) cap)):=Fr.setCell (.inl rfl) _
 have cbl:cb<wx.heap.size:=by omega
 have bcb:w1.heap[cb]? =wx.heap[cb]? :=hblk cb cbl (fun e=>(hne cb e).1 rfl)
 have bbd:w1.heap[w.heap.size]? =wx.heap[w.heap.size]? :=hblk _ big (fun e=>(hne _ e).2 rfl)
 have gcb:g≠cb∧g≠w.heap.size:=by
  rcases hor with q|q
  · exact hne g q
  · omega
 have gS:∀ i,i<12→i≠k→(S' i).ownBlock≠some g:=fun i hi hik e=>by
  rcases hor with q|q
  · exact h.dis i k hi hk hik g e (by rw[es];exact q)
  · obtain⟨m,U,oo⟩:=h.own hi
    have:=(oo.lt g e).2
    omega
 have keep:∀ i,i<12→i≠k→∀ {m U},OwnL wx cb 78 1 (S' i) m U→OwnL (w1.setCell ⟨cb,k,none⟩ (.slice (some ⟨g,0,none⟩) (n+1) cap)) cb 78 1 (S' i) m U:=fun i hi hik m U oo=>by
  refine OwnL.frame (X:=fun x=>x=cb∨(S k).ownBlock=some x) (oo.alloc' o) ((Fr.grown hg (fun b hb=> .inr hb) (OwnL.isCells (ok.alloc' o))).trans (Fr.setCell (.inl rfl) _)) (fun b hb q=> ?_)
  rcases q with q|q
  · exact(h.ncb i hi b hb).1 q
  · exact h.dis i k hi hk hik b hb (by rw[es];exact q)
 refine⟨(World.cell?_of_block bbd).trans (h.body k hk),(World.cell?_of_block bcb).trans ((h.hd k hk).trans (by rw[es])),(World.frozen?_of_block bcb).trans (h.nf k hk),?_⟩
 have hk1:w1.cell? ⟨cb,k,none⟩=some (S k):=(World.cell?_of_block bcb).trans ((h.hd k hk).trans (by rw[es]))
 refine⟨fun j hj=> ?_,fun i hi=> ?_,fun i hi=> ?_,fun i hi=> ?_,fun i hi hi'=> ?_,fun i j hi hj hij b=> ?_,fun i hi b=> ?_,((h.fr.trans F0).trans F1).trans F2,?_⟩
 · rw[cset_far (by simp;omega)]
   exact(World.cell?_of_block (a:=⟨w.heap.size,j,none⟩) bbd).trans (h.body j hj)
 · by_cases e:i=k
   · subst e
     simp only[if_pos]
     exact cset_same hk1
   · simp only[if_neg e]
     rw[cset_other (by intro q;injection q with _ q;exact e q.symm)]
     exact(World.cell?_of_block (a:=⟨cb,i,none⟩) bcb).trans (h.hd i hi)
 · rw[World.frozen?_setCell]
   exact(World.frozen?_of_block (a:=⟨cb,i,none⟩) bcb).trans (h.nf i hi)
 · by_cases e:i=k
   · subst e
     simp only[if_pos]
     refine OwnL.frame (X:=fun x=>x=cb) ho (Fr.setCell (X:=fun x=>x=cb) rfl _) (fun b hb q=> ?_)
     simp only[Value.ownBlock,Option.some.injEq] at hb
     omega
   · simp only[if_neg e]
     exact keep i (by omega) e (h.did i (by omega))
 · have e:i≠k:=by omega
   obtain⟨q1,q2⟩:=h.todo i (by omega) hi'
   simp only[if_neg e]
   refine⟨q1,?_⟩
   have:=keep i hi' e (m:=n) (U:=C i) (by rw[q1];exact q2)
   rw[q1] at this
   exact this
 · by_cases e:i=k
   · subst e
     have e2:¬ j=i:=Ne.symm hij
     simp only[if_pos,if_neg e2]
     intro hb
     simp only[Value.ownBlock,Option.some.injEq] at hb
     subst hb
     exact gS j hj e2
   · by_cases e2:j=k
     · subst e2
       simp only[if_pos,if_neg e]
       intro hb q
       simp only[Value.ownBlock,Option.some.injEq] at q
       subst q
       exact gS i hi e hb
     · simp only[if_neg e,if_neg e2]
       exact h.dis i j hi hj hij b
 · by_cases e:i=k
   · subst e
     simp only[if_pos]
     intro hb
     simp only[Value.ownBlock,Option.some.injEq] at hb
     subst hb
     exact gcb
   · simp only[if_neg e]
     exact h.ncb i hi b
 · have:=F1.size
   simp
   omega
theorem AddN.start {w wx:World} {cb n:Nat} {C:Nat→Nat→Int} {V:Nat→Int} {S:Nat→Value} (h:Cs w cb n C S) (hb:Below w.heap.size w wx) (hbody:∀ j,j<12→wx.cell? ⟨w.heap.size,j,none⟩=some (.int .i64 (V j))) (big:w.heap.size<wx.heap.size):AddN w wx cb n C V S 0 S:=by
 have h':=h.below hb
 exact⟨hbody,h'.hd,h'.nf,fun i hi=>absurd hi (by omega),fun i _ hi=>⟨rfl,h'.own i hi⟩,h.dis,fun i hi b hb=>⟨h.ncb i hi b hb,by have:=h.xlt (b:=b) ⟨i,hi,hb⟩;omega⟩,Fr.of_below hb,big⟩
def snocC (n:Nat) (C:Nat→Nat→Int) (V:Nat→Int):Nat→Nat→Int:=fun i=>snoc n (C i) (V i)
theorem AddN.cs {w wx:World} {cb n:Nat} {C:Nat→Nat→Int} {V:Nat→Int} {S S':Nat→Value} (h:AddN w wx cb n C V S 12 S'):Cs wx cb (n+1) (snocC n C V) S':=
 ⟨h.hd,h.nf,h.did,fun i hi b hb=>(h.ncb i hi b hb).1,h.dis⟩
theorem add_any (cb n:Nat) (C:Nat→Nat→Int) (V:Nat→Int) (S:Nat→Value) (w:World) (h:Cs w cb n C S) (hn:n≤1048576):
 Calls Tryz.prog 48 #[.pointer (some ⟨cb,0,none⟩),bodyV V] w fun e w'=>e= .returned (.tuple #[])∧∃ S',Cs w' cb (n+1) (snocC n C V) S'∧Fr (fun k=>k=cb∨Xc S k) w w':=by
 have hset:=cset_map
 have hcb:=h.lt
 go_enter Tryz.func48,Tryz.ntmps48
 go_upto_region 1 with fail
 have h0:AddN w (w.alloc (.cells #[.int .i64 (V 0),.int .i64 (V 1),.int .i64 (V 2),.int .i64 (V 3),.int .i64 (V 4),.int .i64 (V 5),.int .i64 (V 6),.int .i64 (V 7),.int .i64 (V 8),.int .i64 (V 9),.int .i64 (V 10),.int .i64 (V 11)] 35)) cb n C V S 0 S:=AddN.start h (bel_a) (by intro j hj;rcases(show j=0∨j=1∨j=2∨j=3∨j=4∨j=5∨j=6∨j=7∨j=8∨j=9∨j=10∨j=11 by omega) with rfl|rfl|rfl|rfl|rfl|rfl|rfl|rfl|rfl|rfl|rfl|rfl<;>go_simp) (by simp)
 clear h
 generalize (w.alloc (.cells #[.int .i64 (V 0),.int .i64 (V 1),.int .i64 (V 2),.int .i64 (V 3),.int .i64 (V 4),.int .i64 (V 5),.int .i64 (V 6),.int .i64 (V 7),.int .i64 (V 8),.int .i64 (V 9),.int .i64 (V 10),.int .i64 (V 11)] 35))=wx0 at h0 ⊢
 have b0:=h0.body 0 (by omega)
 obtain⟨e0,o0⟩:=h0.todo 0 (by omega) (by omega)
 have c0:=h0.hd 0 (by omega)
 rw[e0] at c0
 clear e0
 have f0:=h0.nf 0 (by omega)
 have z0:=h0.big
 have l0:cb<wx0.heap.size:=by omega
 go_cut [] (fun wc=>∃ S',AddN w wc cb n C V S 1 S')
 case first=>
  refine wp_region_held_drew (S:=fun w'=>w'.cell? ⟨w.heap.size,0,none⟩=some (.int .i64 (V 0))) (by kernel_rfl) ?_ (fun hHeld=> ?_)
  · (try dsimp only)
    (first|(go_simp;done)|(go_keep;done))
  refine tq 0 hHeld ?_
  refine tq 1 hHeld ?_
  refine tq 2 hHeld ?_
  refine tq 3 hHeld ?_
  refine tq 5 hHeld ?_
  refine tq 6 hHeld ?_
  refine td 4 7 hHeld (fun hHeld=> ?_)
  refine tc 8 fun K hK=> ?_
  refine step_app1 (by rfl) _ _ _ (by rfl) cb 78 (.int .i64 0) Tryz.underlying79 (by kernel_rfl) (by rfl) (S 0) n (C 0) (by rfl) (o0.alloc' _) wx0.heap.size _ (V 0) (by rfl) (by go_simp) hn (by simp;omega) (wx0.heap.size+1) (by simp) ?_
  intro g cap w1 ho hg hor hlt
  obtain⟨qb,qc,qf,hst⟩:=AddN.step h0 (by omega) hcb ho hg hor hlt
  refine tr hK (fun hHeld=> ?_) (by(try dsimp only);exact qb)
  clear hK K
  refine tq 9 hHeld ?_
  refine tq 10 hHeld ?_
  (refine tc 11 fun K hK=> ?_;go_simp;refine tr hK (fun hHeld=> ?_) (by(try dsimp only);exact(cset_far (by simp;omega)).trans qb);clear hK K)
  refine wpAnyH_done (by kernel_rfl) ?_ _
  go_wp2_with fail
  go_meet
  exact⟨_,hst⟩
 case rest=>
 obtain⟨S1,h1⟩:=hcut
 clear b0 o0 c0 f0 z0 l0 h0
 go_upto_region 2 with fail
 have b0:=h1.body 1 (by omega)
 obtain⟨e0,o0⟩:=h1.todo 1 (by omega) (by omega)
 have c0:=h1.hd 1 (by omega)
 rw[e0] at c0
 clear e0
 have f0:=h1.nf 1 (by omega)
 have z0:=h1.big
 have l0:cb<wc.heap.size:=by omega
 go_cut [] (fun wc=>∃ S',AddN w wc cb n C V S 2 S')
 case first=>
  refine wp_region_held_drew (S:=fun w'=>w'.cell? ⟨w.heap.size,1,none⟩=some (.int .i64 (V 1))) (by kernel_rfl) ?_ (fun hHeld=> ?_)
  · (try dsimp only)
    (first|(go_simp;done)|(go_keep;done))
  refine tq 0 hHeld ?_
  refine tq 1 hHeld ?_
  refine tq 2 hHeld ?_
  refine tq 3 hHeld ?_
  refine tq 5 hHeld ?_
  refine tq 6 hHeld ?_
  refine tq 7 hHeld ?_
  refine td 4 8 hHeld (fun hHeld=> ?_)
  refine tc 9 fun K hK=> ?_
  refine step_app1 (by rfl) _ _ _ (by rfl) cb 78 (.int .i64 0) Tryz.underlying79 (by kernel_rfl) (by rfl) (S 1) n (C 1) (by rfl) (o0.alloc' _) wc.heap.size _ (V 1) (by rfl) (by go_simp) hn (by simp;omega) (wc.heap.size+1) (by simp) ?_
  intro g cap w1 ho hg hor hlt
  obtain⟨qb,qc,qf,hst⟩:=AddN.step h1 (by omega) hcb ho hg hor hlt
  refine tr hK (fun hHeld=> ?_) (by(try dsimp only);exact qb)
  clear hK K
  refine tq 10 hHeld ?_
  refine tq 11 hHeld ?_
  (refine tc 12 fun K hK=> ?_;go_simp;refine tr hK (fun hHeld=> ?_) (by(try dsimp only);exact(cset_far (by simp;omega)).trans qb);clear hK K)
  refine wpAnyH_done (by kernel_rfl) ?_ _
  go_wp2_with fail
  go_meet
  exact⟨_,hst⟩
 case rest=>
 obtain⟨S2,h2⟩:=hcut
 clear b0 o0 c0 f0 z0 l0 h1
 go_upto_region 3 with fail
 have b0:=h2.body 2 (by omega)
 obtain⟨e0,o0⟩:=h2.todo 2 (by omega) (by omega)
 have c0:=h2.hd 2 (by omega)
 rw[e0] at c0
 clear e0
 have f0:=h2.nf 2 (by omega)
 have z0:=h2.big
 have l0:cb<wc.heap.size:=by omega
 go_cut [] (fun wc=>∃ S',AddN w wc cb n C V S 3 S')
 case first=>
  refine wp_region_held_drew (S:=fun w'=>w'.cell? ⟨w.heap.size,2,none⟩=some (.int .i64 (V 2))) (by kernel_rfl) ?_ (fun hHeld=> ?_)
  · (try dsimp only)
    (first|(go_simp;done)|(go_keep;done))
  refine tq 0 hHeld ?_
  refine tq 1 hHeld ?_
  refine tq 2 hHeld ?_
  refine tq 3 hHeld ?_
  refine tq 5 hHeld ?_
  refine tq 6 hHeld ?_
  refine tq 7 hHeld ?_
  refine td 4 8 hHeld (fun hHeld=> ?_)
  refine tc 9 fun K hK=> ?_
  refine step_app1 (by rfl) _ _ _ (by rfl) cb 78 (.int .i64 0) Tryz.underlying79 (by kernel_rfl) (by rfl) (S 2) n (C 2) (by rfl) (o0.alloc' _) wc.heap.size _ (V 2) (by rfl) (by go_simp) hn (by simp;omega) (wc.heap.size+1) (by simp) ?_
  intro g cap w1 ho hg hor hlt
  obtain⟨qb,qc,qf,hst⟩:=AddN.step h2 (by omega) hcb ho hg hor hlt
  refine tr hK (fun hHeld=> ?_) (by(try dsimp only);exact qb)
  clear hK K
  refine tq 10 hHeld ?_
  refine tq 11 hHeld ?_
  (refine tc 12 fun K hK=> ?_;go_simp;refine tr hK (fun hHeld=> ?_) (by(try dsimp only);exact(cset_far (by simp;omega)).trans qb);clear hK K)
  refine wpAnyH_done (by kernel_rfl) ?_ _
  go_wp2_with fail
  go_meet
  exact⟨_,hst⟩
 case rest=>
 obtain⟨S3,h3⟩:=hcut
 clear b0 o0 c0 f0 z0 l0 h2
 go_upto_region 4 with fail
 have b0:=h3.body 3 (by omega)
 obtain⟨e0,o0⟩:=h3.todo 3 (by omega) (by omega)
 have c0:=h3.hd 3 (by omega)
 rw[e0] at c0
 clear e0
 have f0:=h3.nf 3 (by omega)
 have z0:=h3.big
 have l0:cb<wc.heap.size:=by omega
 go_cut [] (fun wc=>∃ S',AddN w wc cb n C V S 4 S')
 case first=>
  refine wp_region_held_drew (S:=fun w'=>w'.cell? ⟨w.heap.size,3,none⟩=some (.int .i64 (V 3))) (by kernel_rfl) ?_ (fun hHeld=> ?_)
  · (try dsimp only)
    (first|(go_simp;done)|(go_keep;done))
  refine tq 0 hHeld ?_
  refine tq 1 hHeld ?_
  refine tq 2 hHeld ?_
  refine tq 3 hHeld ?_
  refine tq 5 hHeld ?_
  refine tq 6 hHeld ?_
  refine tq 7 hHeld ?_
  refine td 4 8 hHeld (fun hHeld=> ?_)
  refine tc 9 fun K hK=> ?_
  refine step_app1 (by rfl) _ _ _ (by rfl) cb 78 (.int .i64 0) Tryz.underlying79 (by kernel_rfl) (by rfl) (S 3) n (C 3) (by rfl) (o0.alloc' _) wc.heap.size _ (V 3) (by rfl) (by go_simp) hn (by simp;omega) (wc.heap.size+1) (by simp) ?_
  intro g cap w1 ho hg hor hlt
  obtain⟨qb,qc,qf,hst⟩:=AddN.step h3 (by omega) hcb ho hg hor hlt
  refine tr hK (fun hHeld=> ?_) (by(try dsimp only);exact qb)
  clear hK K
  refine tq 10 hHeld ?_
  refine tq 11 hHeld ?_
  (refine tc 12 fun K hK=> ?_;go_simp;refine tr hK (fun hHeld=> ?_) (by(try dsimp only);exact(cset_far (by simp;omega)).trans qb);clear hK K)
  refine wpAnyH_done (by kernel_rfl) ?_ _
  go_wp2_with fail
  go_meet
  exact⟨_,hst⟩
 case rest=>
 obtain⟨S4,h4⟩:=hcut
 clear b0 o0 c0 f0 z0 l0 h3
 go_upto_region 5 with fail
 have b0:=h4.body 4 (by omega)
 obtain⟨e0,o0⟩:=h4.todo 4 (by omega) (by omega)
 have c0:=h4.hd 4 (by omega)
 rw[e0] at c0
 clear e0
 have f0:=h4.nf 4 (by omega)
 have z0:=h4.big
 have l0:cb<wc.heap.size:=by omega
 go_cut [] (fun wc=>∃ S',AddN w wc cb n C V S 5 S')
 case first=>
  refine wp_region_held_drew (S:=fun w'=>w'.cell? ⟨w.heap.size,4,none⟩=some (.int .i64 (V 4))) (by kernel_rfl) ?_ (fun hHeld=> ?_)
  · (try dsimp only)
    (first|(go_simp;done)|(go_keep;done))
  refine tq 0 hHeld ?_
  refine tq 1 hHeld ?_
  refine tq 2 hHeld ?_
  refine tq 3 hHeld ?_
  refine tq 5 hHeld ?_
  refine tq 6 hHeld ?_
  refine tq 7 hHeld ?_
  refine td 4 8 hHeld (fun hHeld=> ?_)
  refine tc 9 fun K hK=> ?_
  refine step_app1 (by rfl) _ _ _ (by rfl) cb 78 (.int .i64 0) Tryz.underlying79 (by kernel_rfl) (by rfl) (S 4) n (C 4) (by rfl) (o0.alloc' _) wc.heap.size _ (V 4) (by rfl) (by go_simp) hn (by simp;omega) (wc.heap.size+1) (by simp) ?_
  intro g cap w1 ho hg hor hlt
  obtain⟨qb,qc,qf,hst⟩:=AddN.step h4 (by omega) hcb ho hg hor hlt
  refine tr hK (fun hHeld=> ?_) (by(try dsimp only);exact qb)
  clear hK K
  refine tq 10 hHeld ?_
  refine tq 11 hHeld ?_
  (refine tc 12 fun K hK=> ?_;go_simp;refine tr hK (fun hHeld=> ?_) (by(try dsimp only);exact(cset_far (by simp;omega)).trans qb);clear hK K)
  refine wpAnyH_done (by kernel_rfl) ?_ _
  go_wp2_with fail
  go_meet
  exact⟨_,hst⟩
 case rest=>
 obtain⟨S5,h5⟩:=hcut
 clear b0 o0 c0 f0 z0 l0 h4
 go_upto_region 6 with fail
 have b0:=h5.body 5 (by omega)
 obtain⟨e0,o0⟩:=h5.todo 5 (by omega) (by omega)
 have c0:=h5.hd 5 (by omega)
 rw[e0] at c0
 clear e0
 have f0:=h5.nf 5 (by omega)
 have z0:=h5.big
 have l0:cb<wc.heap.size:=by omega
 go_cut [] (fun wc=>∃ S',AddN w wc cb n C V S 6 S')
 case first=>
  refine wp_region_held_drew (S:=fun w'=>w'.cell? ⟨w.heap.size,5,none⟩=some (.int .i64 (V 5))) (by kernel_rfl) ?_ (fun hHeld=> ?_)
  · (try dsimp only)
    (first|(go_simp;done)|(go_keep;done))
  refine tq 0 hHeld ?_
  refine tq 1 hHeld ?_
  refine tq 2 hHeld ?_
  refine tq 3 hHeld ?_
  refine tq 5 hHeld ?_
  refine tq 6 hHeld ?_
  refine tq 7 hHeld ?_
  refine td 4 8 hHeld (fun hHeld=> ?_)
  refine tc 9 fun K hK=> ?_
  refine step_app1 (by rfl) _ _ _ (by rfl) cb 78 (.int .i64 0) Tryz.underlying79 (by kernel_rfl) (by rfl) (S 5) n (C 5) (by rfl) (o0.alloc' _) wc.heap.size _ (V 5) (by rfl) (by go_simp) hn (by simp;omega) (wc.heap.size+1) (by simp) ?_
  intro g cap w1 ho hg hor hlt
  obtain⟨qb,qc,qf,hst⟩:=AddN.step h5 (by omega) hcb ho hg hor hlt
  refine tr hK (fun hHeld=> ?_) (by(try dsimp only);exact qb)
  clear hK K
  refine tq 10 hHeld ?_
  refine tq 11 hHeld ?_
  (refine tc 12 fun K hK=> ?_;go_simp;refine tr hK (fun hHeld=> ?_) (by(try dsimp only);exact(cset_far (by simp;omega)).trans qb);clear hK K)
  refine wpAnyH_done (by kernel_rfl) ?_ _
  go_wp2_with fail
  go_meet
  exact⟨_,hst⟩
 case rest=>
 obtain⟨S6,h6⟩:=hcut
 clear b0 o0 c0 f0 z0 l0 h5
 go_upto_region 7 with fail
 have b0:=h6.body 6 (by omega)
 obtain⟨e0,o0⟩:=h6.todo 6 (by omega) (by omega)
 have c0:=h6.hd 6 (by omega)
 rw[e0] at c0
 clear e0
 have f0:=h6.nf 6 (by omega)
 have z0:=h6.big
 have l0:cb<wc.heap.size:=by omega
 go_cut [] (fun wc=>∃ S',AddN w wc cb n C V S 7 S')
 case first=>
  refine wp_region_held_drew (S:=fun w'=>w'.cell? ⟨w.heap.size,6,none⟩=some (.int .i64 (V 6))) (by kernel_rfl) ?_ (fun hHeld=> ?_)
  · (try dsimp only)
    (first|(go_simp;done)|(go_keep;done))
  refine tq 0 hHeld ?_
  refine tq 1 hHeld ?_
  refine tq 2 hHeld ?_
  refine tq 3 hHeld ?_
  refine tq 5 hHeld ?_
  refine tq 6 hHeld ?_
  refine tq 7 hHeld ?_
  refine td 4 8 hHeld (fun hHeld=> ?_)
  refine tc 9 fun K hK=> ?_
  refine step_app1 (by rfl) _ _ _ (by rfl) cb 78 (.int .i64 0) Tryz.underlying79 (by kernel_rfl) (by rfl) (S 6) n (C 6) (by rfl) (o0.alloc' _) wc.heap.size _ (V 6) (by rfl) (by go_simp) hn (by simp;omega) (wc.heap.size+1) (by simp) ?_
  intro g cap w1 ho hg hor hlt
  obtain⟨qb,qc,qf,hst⟩:=AddN.step h6 (by omega) hcb ho hg hor hlt
  refine tr hK (fun hHeld=> ?_) (by(try dsimp only);exact qb)
  clear hK K
  refine tq 10 hHeld ?_
  refine tq 11 hHeld ?_
  (refine tc 12 fun K hK=> ?_;go_simp;refine tr hK (fun hHeld=> ?_) (by(try dsimp only);exact(cset_far (by simp;omega)).trans qb);clear hK K)
  refine wpAnyH_done (by kernel_rfl) ?_ _
  go_wp2_with fail
  go_meet
  exact⟨_,hst⟩
 case rest=>
 obtain⟨S7,h7⟩:=hcut
 clear b0 o0 c0 f0 z0 l0 h6
 go_upto_region 8 with fail
 have b0:=h7.body 7 (by omega)
 obtain⟨e0,o0⟩:=h7.todo 7 (by omega) (by omega)
 have c0:=h7.hd 7 (by omega)
 rw[e0] at c0
 clear e0
 have f0:=h7.nf 7 (by omega)
 have z0:=h7.big
 have l0:cb<wc.heap.size:=by omega
 go_cut [] (fun wc=>∃ S',AddN w wc cb n C V S 8 S')
 case first=>
  refine wp_region_held_drew (S:=fun w'=>w'.cell? ⟨w.heap.size,7,none⟩=some (.int .i64 (V 7))) (by kernel_rfl) ?_ (fun hHeld=> ?_)
  · (try dsimp only)
    (first|(go_simp;done)|(go_keep;done))
  refine tq 0 hHeld ?_
  refine tq 1 hHeld ?_
  refine tq 2 hHeld ?_
  refine tq 3 hHeld ?_
  refine tq 5 hHeld ?_
  refine tq 6 hHeld ?_
  refine tq 7 hHeld ?_
  refine td 4 8 hHeld (fun hHeld=> ?_)
  refine tc 9 fun K hK=> ?_
  refine step_app1 (by rfl) _ _ _ (by rfl) cb 78 (.int .i64 0) Tryz.underlying79 (by kernel_rfl) (by rfl) (S 7) n (C 7) (by rfl) (o0.alloc' _) wc.heap.size _ (V 7) (by rfl) (by go_simp) hn (by simp;omega) (wc.heap.size+1) (by simp) ?_
  intro g cap w1 ho hg hor hlt
  obtain⟨qb,qc,qf,hst⟩:=AddN.step h7 (by omega) hcb ho hg hor hlt
  refine tr hK (fun hHeld=> ?_) (by(try dsimp only);exact qb)
  clear hK K
  refine tq 10 hHeld ?_
  refine tq 11 hHeld ?_
  (refine tc 12 fun K hK=> ?_;go_simp;refine tr hK (fun hHeld=> ?_) (by(try dsimp only);exact(cset_far (by simp;omega)).trans qb);clear hK K)
  refine wpAnyH_done (by kernel_rfl) ?_ _
  go_wp2_with fail
  go_meet
  exact⟨_,hst⟩
 case rest=>
 obtain⟨S8,h8⟩:=hcut
 clear b0 o0 c0 f0 z0 l0 h7
 go_upto_region 9 with fail
 have b0:=h8.body 8 (by omega)
 obtain⟨e0,o0⟩:=h8.todo 8 (by omega) (by omega)
 have c0:=h8.hd 8 (by omega)
 rw[e0] at c0
 clear e0
 have f0:=h8.nf 8 (by omega)
 have z0:=h8.big
 have l0:cb<wc.heap.size:=by omega
 go_cut [] (fun wc=>∃ S',AddN w wc cb n C V S 9 S')
 case first=>
  refine wp_region_held_drew (S:=fun w'=>w'.cell? ⟨w.heap.size,8,none⟩=some (.int .i64 (V 8))) (by kernel_rfl) ?_ (fun hHeld=> ?_)
  · (try dsimp only)
    (first|(go_simp;done)|(go_keep;done))
  refine tq 0 hHeld ?_
  refine tq 1 hHeld ?_
  refine tq 2 hHeld ?_
  refine tq 3 hHeld ?_
  refine tq 5 hHeld ?_
  refine tq 6 hHeld ?_
  refine td 4 7 hHeld (fun hHeld=> ?_)
  refine tc 8 fun K hK=> ?_
  refine step_app1 (by rfl) _ _ _ (by rfl) cb 78 (.int .i64 0) Tryz.underlying79 (by kernel_rfl) (by rfl) (S 8) n (C 8) (by rfl) (o0.alloc' _) wc.heap.size _ (V 8) (by rfl) (by go_simp) hn (by simp;omega) (wc.heap.size+1) (by simp) ?_
  intro g cap w1 ho hg hor hlt
  obtain⟨qb,qc,qf,hst⟩:=AddN.step h8 (by omega) hcb ho hg hor hlt
  refine tr hK (fun hHeld=> ?_) (by(try dsimp only);exact qb)
  clear hK K
  refine tq 9 hHeld ?_
  refine tq 10 hHeld ?_
  (refine tc 11 fun K hK=> ?_;go_simp;refine tr hK (fun hHeld=> ?_) (by(try dsimp only);exact(cset_far (by simp;omega)).trans qb);clear hK K)
  refine wpAnyH_done (by kernel_rfl) ?_ _
  go_wp2_with fail
  go_meet
  exact⟨_,hst⟩
 case rest=>
 obtain⟨S9,h9⟩:=hcut
 clear b0 o0 c0 f0 z0 l0 h8
 go_upto_region 10 with fail
 have b0:=h9.body 9 (by omega)
 obtain⟨e0,o0⟩:=h9.todo 9 (by omega) (by omega)
 have c0:=h9.hd 9 (by omega)
 rw[e0] at c0
 clear e0
 have f0:=h9.nf 9 (by omega)
 have z0:=h9.big
 have l0:cb<wc.heap.size:=by omega
 go_cut [] (fun wc=>∃ S',AddN w wc cb n C V S 10 S')
 case first=>
  refine wp_region_held_drew (S:=fun w'=>w'.cell? ⟨w.heap.size,9,none⟩=some (.int .i64 (V 9))) (by kernel_rfl) ?_ (fun hHeld=> ?_)
  · (try dsimp only)
    (first|(go_simp;done)|(go_keep;done))
  refine tq 0 hHeld ?_
  refine tq 1 hHeld ?_
  refine tq 2 hHeld ?_
  refine tq 3 hHeld ?_
  refine tq 5 hHeld ?_
  refine tq 6 hHeld ?_
  refine td 4 7 hHeld (fun hHeld=> ?_)
  refine tc 8 fun K hK=> ?_
  refine step_app1 (by rfl) _ _ _ (by rfl) cb 78 (.int .i64 0) Tryz.underlying79 (by kernel_rfl) (by rfl) (S 9) n (C 9) (by rfl) (o0.alloc' _) wc.heap.size _ (V 9) (by rfl) (by go_simp) hn (by simp;omega) (wc.heap.size+1) (by simp) ?_
  intro g cap w1 ho hg hor hlt
  obtain⟨qb,qc,qf,hst⟩:=AddN.step h9 (by omega) hcb ho hg hor hlt
  refine tr hK (fun hHeld=> ?_) (by(try dsimp only);exact qb)
  clear hK K
  refine tq 9 hHeld ?_
  refine tq 10 hHeld ?_
  (refine tc 11 fun K hK=> ?_;go_simp;refine tr hK (fun hHeld=> ?_) (by(try dsimp only);exact(cset_far (by simp;omega)).trans qb);clear hK K)
  refine wpAnyH_done (by kernel_rfl) ?_ _
  go_wp2_with fail
  go_meet
  exact⟨_,hst⟩
 case rest=>
 obtain⟨S10,h10⟩:=hcut
 clear b0 o0 c0 f0 z0 l0 h9
 go_upto_region 11 with fail
 have b0:=h10.body 10 (by omega)
 obtain⟨e0,o0⟩:=h10.todo 10 (by omega) (by omega)
 have c0:=h10.hd 10 (by omega)
 rw[e0] at c0
 clear e0
 have f0:=h10.nf 10 (by omega)
 have z0:=h10.big
 have l0:cb<wc.heap.size:=by omega
 go_cut [] (fun wc=>∃ S',AddN w wc cb n C V S 11 S')
 case first=>
  refine wp_region_held_drew (S:=fun w'=>w'.cell? ⟨w.heap.size,10,none⟩=some (.int .i64 (V 10))) (by kernel_rfl) ?_ (fun hHeld=> ?_)
  · (try dsimp only)
    (first|(go_simp;done)|(go_keep;done))
  refine tq 0 hHeld ?_
  refine tq 1 hHeld ?_
  refine tq 2 hHeld ?_
  refine tq 3 hHeld ?_
  refine tq 5 hHeld ?_
  refine tq 6 hHeld ?_
  refine td 4 7 hHeld (fun hHeld=> ?_)
  refine tc 8 fun K hK=> ?_
  refine step_app1 (by rfl) _ _ _ (by rfl) cb 78 (.int .i64 0) Tryz.underlying79 (by kernel_rfl) (by rfl) (S 10) n (C 10) (by rfl) (o0.alloc' _) wc.heap.size _ (V 10) (by rfl) (by go_simp) hn (by simp;omega) (wc.heap.size+1) (by simp) ?_
  intro g cap w1 ho hg hor hlt
  obtain⟨qb,qc,qf,hst⟩:=AddN.step h10 (by omega) hcb ho hg hor hlt
  refine tr hK (fun hHeld=> ?_) (by(try dsimp only);exact qb)
  clear hK K
  refine tq 9 hHeld ?_
  refine tq 10 hHeld ?_
  (refine tc 11 fun K hK=> ?_;go_simp;refine tr hK (fun hHeld=> ?_) (by(try dsimp only);exact(cset_far (by simp;omega)).trans qb);clear hK K)
  refine wpAnyH_done (by kernel_rfl) ?_ _
  go_wp2_with fail
  go_meet
  exact⟨_,hst⟩
 case rest=>
 obtain⟨S11,h11⟩:=hcut
 clear b0 o0 c0 f0 z0 l0 h10
 go_upto_region 12 with fail
 have b0:=h11.body 11 (by omega)
 obtain⟨e0,o0⟩:=h11.todo 11 (by omega) (by omega)
 have c0:=h11.hd 11 (by omega)
 rw[e0] at c0
 clear e0
 have f0:=h11.nf 11 (by omega)
 have z0:=h11.big
 have l0:cb<wc.heap.size:=by omega
 refine wp_region_held_drew (S:=fun w'=>w'.cell? ⟨w.heap.size,11,none⟩=some (.int .i64 (V 11))) (by kernel_rfl) ?_ (fun hHeld=> ?_)
 · (try dsimp only)
   (first|(go_simp;done)|(go_keep;done))
 refine tq 0 hHeld ?_
 refine tq 1 hHeld ?_
 refine tq 2 hHeld ?_
 refine tq 3 hHeld ?_
 refine tq 5 hHeld ?_
 refine tq 6 hHeld ?_
 refine td 4 7 hHeld (fun hHeld=> ?_)
 refine tc 8 fun K hK=> ?_
 refine step_app1 (by rfl) _ _ _ (by rfl) cb 78 (.int .i64 0) Tryz.underlying79 (by kernel_rfl) (by rfl) (S 11) n (C 11) (by rfl) (o0.alloc' _) wc.heap.size _ (V 11) (by rfl) (by go_simp) hn (by simp;omega) (wc.heap.size+1) (by simp) ?_
 intro g cap w1 ho hg hor hlt
 obtain⟨qb,qc,qf,hst⟩:=AddN.step h11 (by omega) hcb ho hg hor hlt
 refine tr hK (fun hHeld=> ?_) (by(try dsimp only);exact qb)
 clear hK K
 refine tq 9 hHeld ?_
 refine tq 10 hHeld ?_
 (refine tc 11 fun K hK=> ?_;go_simp;refine tr hK (fun hHeld=> ?_) (by(try dsimp only);exact(cset_far (by simp;omega)).trans qb);clear hK K)
 refine wpAnyH_done (by kernel_rfl) ?_ _
 go_wp2_with fail
 go_end0
 exact⟨rfl,_,hst.cs,hst.fr⟩
def bb (o:Bool) (x:Int):Int:=if o=true then x else 0
end Go.Proofs.YtpmjnpmnocjjgaaGreatDoor
namespace Go.Proofs.YtpmjnpmnocjjgaaGreatDoor
open Go.RowKit
set_option linter.unusedVariables false
structure Kxs (B:Nat) (S:Nat→Prop) (A A':World):Prop where
 below:Below B A A'
 cells:∀ (k:Nat) (o:Obj),A.heap[k]? =some o→o.isCells=true→¬ S k→A'.heap[k]? =some o
structure Kcs (B:Nat) (S:Nat→Prop) (A A':World):Prop where
 others:KeepsFrom B A A'
 own:∀ (k:Nat) (o:Obj),B≤k→S k→A.heap[k]? =some o→o.isCells=true→A'.heap[k]? =some o
def Gr (A:World) (S S':Nat→Prop):Prop:=∀ b,S' b→S b∨A.heap.size≤b
theorem Gr.refl (A:World) (S:Nat→Prop):Gr A S S:=fun _ h=> .inl h
theorem Gr.old {A:World} {S S':Nat→Prop} (h:Gr A S S') {b:Nat} (hb:b<A.heap.size) (hS:¬ S b):¬ S' b:=fun k=>by
 rcases h b k with e|e
 · exact hS e
 · omega
theorem Gr.trans {X Y:World} {S S' S'':Nat→Prop} (h:Gr X S S') (k:Gr Y S' S'') (hs:X.heap.size≤Y.heap.size):Gr X S S'':=fun b e=>by
 rcases k b e with z|z
 · exact h b z
 · exact .inr (by omega)
theorem Kxs.refl (B:Nat) (S:Nat→Prop) (A:World):Kxs B S A A:=⟨Below.refl _ _,fun _ _ h _ _=>h⟩
theorem Kxs.size {B:Nat} {S:Nat→Prop} {X Y:World} (h:Kxs B S X Y):X.heap.size≤Y.heap.size:=h.below.size
theorem Kxs.trans {B:Nat} {S:Nat→Prop} {X Y Z:World} (h:Kxs B S X Y) (k:Kxs B S Y Z):Kxs B S X Z:=⟨h.below.trans k.below,fun i o hi ho hS=>k.cells i o (h.cells i o hi ho hS) ho hS⟩
theorem Kxs.grown {B:Nat} {S S':Nat→Prop} {X Y Z:World} (h:Kxs B S X Y) (g:Gr X S S') (k:Kxs B S' Y Z):Kxs B S X Z:=
 ⟨h.below.trans k.below,fun i o hi ho hS=>k.cells i o (h.cells i o hi ho hS) ho (g.old (Array.getElem?_eq_some_iff.1 hi).1 hS)⟩
theorem Kxs.sm {B B':Nat} {S:Nat→Prop} {X Y Z:World} (h:Kxs B S X Y) (k:Sm B' Y Z) (hB:B≤B'):Kxs B S X Z:=⟨h.below.trans (k.below.mono hB),fun i o hi ho hS=>k.cells i o (h.cells i o hi ho hS) ho⟩
theorem Kxs.of_sm {B B':Nat} {S:Nat→Prop} {X Y:World} (k:Sm B' X Y) (hB:B≤B'):Kxs B S X Y:=(Kxs.refl B S X).sm k hB
theorem Kxs.fr {B:Nat} {S:Nat→Prop} {X Y Z:World} {T:Nat→Prop} (h:Kxs B S X Y) (k:Fr T Y Z) (hT:∀ b,T b→B≤b∧(S b∨X.heap.size≤b)) (hB:B≤X.heap.size):Kxs B S X Z:=
 ⟨h.below.trans (k.below (Nat.le_trans hB h.size) (fun b e=>(hT b e).1)),fun i o hi ho hS=>by
  have hl:i<X.heap.size:=(Array.getElem?_eq_some_iff.1 hi).1
  exact(k.block i (Nat.lt_of_lt_of_le hl h.size) (fun e=>by
   rcases(hT i e).2 with z|z
   · exact hS z
   · omega)).trans (h.cells i o hi ho hS)⟩
theorem Kxs.of_below {B:Nat} {S:Nat→Prop} {X Y:World} (k:Below X.heap.size X Y) (hB:B≤X.heap.size):Kxs B S X Y:=
 ⟨k.mono hB,fun i o hi _ _=>(k.block i (Array.getElem?_eq_some_iff.1 hi).1).trans hi⟩
theorem Kcs.refl (B:Nat) (S:Nat→Prop) (A:World):Kcs B S A A:=⟨KeepsFrom.refl _ _,fun _ _ _ _ h _=>h⟩
theorem Kcs.trans {B:Nat} {S:Nat→Prop} {X Y Z:World} (h:Kcs B S X Y) (k:Kcs B S Y Z):Kcs B S X Z:=⟨h.others.trans k.others,fun i o a b c d=>k.own i o a b (h.own i o a b c d) d⟩
theorem Kcs.fr {B:Nat} {S:Nat→Prop} {X Y:World} {T:Nat→Prop} (k:Fr T X Y) (hT:∀ b,T b→b<B∨¬ S b):Kcs B S X Y:=
 ⟨k.keeps B,fun i o hB hS hi ho=>(k.block i (Array.getElem?_eq_some_iff.1 hi).1 (fun e=>by
  rcases hT i e with z|z
  · omega
  · exact z hS)).trans hi⟩
theorem Kcs.of_below {B:Nat} {S:Nat→Prop} {X Y:World} (k:Below X.heap.size X Y):Kcs B S X Y:=Kcs.fr (T:=fun _=>False) (Fr.of_below k) (fun _ h=>h.elim)
theorem Kcs.putObj {B l:Nat} {S:Nat→Prop} {X:World} (o:Obj) (h:l<B):Kcs B S X (X.putObj l o):=
 ⟨⟨by simp[World.putObj],fun k x hk hx _=>(World.putObj_heap_other (by omega)).trans hx⟩,fun k x hB _ hx _=>(World.putObj_heap_other (by omega)).trans hx⟩
theorem Kcs.cell {B:Nat} {S:Nat→Prop} {X Y:World} (h:Kcs B S X Y) {p:Addr} {v:Value} (hc:X.cell? p=some v) (h1:B≤p.block) (h2:S p.block):Y.cell? p=some v:=by
 obtain⟨o,ho,hx⟩:=isCells_of_cell hc
 exact(World.cell?_of_block ((h.own _ _ h1 h2 ho hx).trans ho.symm)).trans hc
def ItGs (P:Program) (gf:Nat) (bound:Array Value) (Col:World→Prop) (E:(Nat→Prop)→Nat→Array Value→World→Prop) (nn:Nat) (w:World):Prop:=
 ∀ (l:Nat) (J:(Nat→Prop)→Nat→World→Prop) (W:World),Below w.heap.size w W→
   (∀ H H' k A A',J H k A→Kxs W.heap.size H A A'→Gr A H H'→J H' k A')→(∀ H k A,J H k A→Col A)→
   (∀ H W0,Below W.heap.size W W0→(∀ b,H b→W.heap.size≤b)→J H 0 W0)→
   (∀ H k A args,J H k A→k<nn→E H k args A→YieldAt Fence.wide 0 P l args A fun e A'=>e= .returned (.bool true)∧J H (k+1) A'∧Kcs W.heap.size H A A')→
   CallsIn Fence.wide 0 P gf (bound++ #[.func (.yield l) #[] #[]]) W fun e A=>(∃ v,e= .returned v)∧∃ H,J H nn A
theorem yield_roundS {P:Program} {ps:Array Tmp} {assign body:Code} {a:Act} {B l dl:Nat} {fn:FuncId} {args:Array Value} (hps:args.size=ps.size)
 {I':World→Prop} (hI':∀ A r o,I' A→A.heap[l]? =some (.loop r)→I' (A.putObj l (.loop o))) {Hh:World→Prop} (hH:∀ A B',Hh A→KeepsFrom B A B'→Hh B') (hHp:∀ A o,Hh A→Hh (A.putObj l o))
 {rec:LoopState→Option Code→Loop} (hrec:rec=fun st pe=>{state:=st,pending:=pe,fn,tmps:=a.tmps,params:=ps,assign,body,defers:=dl}) (hBl:B≤l)
 {W:World} (hl:W.heap[l]? =some (.loop (rec .ready none))) (hh:Hh W)
 (hround:assign.wpIn (Fence.wide.inRound l) 0 P (Exit.then (fun a₁ W₁=>KeepsFrom B W W₁∧∀ W₂,Sm B W₁ W₂→(∀ (B':Nat) (H':Nat→Prop),l<B'→Kcs B' H' W₁ W₂)→(∃ r,W₂.heap[l]? =some (.loop r))→body.wpIn (Fence.wide.inRound l) 0 P (rdPost B I' (fun _ _=>False) W₂) a₁ W₂) (fun _ _ _=>False))
   {tmps:=(ps.zip args).foldl (fun t (p,v)=>t.setIfInBounds p v) a.tmps,defers:=[]} W):
 YieldAt Fence.wide 0 P l args W fun e W'=>e= .returned (.bool true)∧I' W'∧W'.heap[l]? =some (.loop (rec .ready none))∧Hh W':=by
 have hy:=run_yield (P:=P) (args:=args) hl (by rw[hrec];exact hps)
 rw[hrec] at hy
 refine⟨fn,_,assign,body,hy,roundIn_of_wpIn trivial (wpIn_mono hround ?_)⟩
 intro e a₁ W₁ q
 cases e with
 | normal=>
   obtain⟨hk1,hb⟩:=q
   have hl1:=hk1.same _ _ hBl hl rfl
   have hh1:=hH _ _ hh hk1
   refine⟨_,run_beginRound hl1 (by rw[hrec]),?_⟩
   have hlt:l<W₁.heap.size:=(Array.getElem?_eq_some_iff.1 hl1).1
   have hl2:(W₁.putObj l (.loop {rec .ready none with state:= .busy})).heap[l]? =some (.loop {rec .ready none with state:= .busy}):=World.putObj_heap_same hlt
   refine wpIn_mono (hb _ (Sm.putObj _ hl1 rfl hBl) (fun B' H' h=>Kcs.putObj _ h) ⟨_,hl2⟩) ?_
   rintro e a3 W3 hp
   cases e with
   | normal=>
     obtain⟨hk3,hi3⟩:=hp
     have hl3:=hk3.same _ _ hBl hl2 rfl
     have hr:=run_endRound (P:=P) none hl3
     have hr':(Instr.endRound l none).run P W3= .ok (.bool true) (W3.putObj l (.loop (rec .ready none))):=by rw[hrec] at hr ⊢;exact hr
     exact⟨_,_,hr',rfl,hI' _ _ _ hi3 hl3,World.putObj_heap_same (Array.getElem?_eq_some_iff.1 hl3).1,hHp _ _ (hH _ _ (hHp _ _ hh1) hk3)⟩
   |ret=>exact hp.2.elim
   |exit id=>exact hp.2.elim
   |goto t=>exact hp.2.elim
   |panic ch=>exact hp.elim
   |outgrown=>exact hp.elim
 |exit id=>exact q.elim
 |goto t=>exact q.elim
 |ret=>exact q.elim
 |panic ch=>exact q.elim
 |outgrown=>exact q.elim
end Go.Proofs.YtpmjnpmnocjjgaaGreatDoor
