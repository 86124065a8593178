/- Texts of a proof. -/
import Derived.Test.YtbdbbdjifgpgeaaGreatB21
import Derived.Test.YtbdbbdjifgpgeaaGreatB19
import Derived.Test.YtbdbbdjifgpgeaaGreatB5
import Derived.Test.YtbdbbdjifgpgeaaGreatCsOf
import Derived.Test.YtbdbbdjifgpgeaaGreatB6
import Derived.Deep.RegionHeld3
import Derived.Deep.DeepCutAuto
import Derived.LoopNIn
import Derived.LoopIn
import Derived.OwnWalkIn
set_option maxHeartbeats 16000000
set_option maxRecDepth 20000
namespace Go.Proofs.YtbdbbdjifgpgeaaGreat
open Go.RowKit
set_option linter.unusedVariables false
set_option linter.unusedSimpArgs false
def rwL (C:Nat→Nat→Int):Nat→List Int
 |0=>[]
 |k+1=>rwL C k++[C 0 k,C 1 k,C 2 k,C 3 k,C 4 k,C 5 k,C 6 k,C 7 k,C 8 k,C 9 k,C 10 k,C 11 k]
theorem rwL_len (C:Nat→Nat→Int):∀ k,(rwL C k).length=k*12
 |0=>rfl
 | k+1=>by
   rw[rwL,List.length_append,rwL_len C k]
   simp only[List.length_cons,List.length_nil]
   omega
theorem rwL_at (C:Nat→Nat→Int):∀ n q,q<n*12→ofL (rwL C n) q=C (q % 12) (q/12)
 |0,q,h=>by omega
 | k+1,q,h=>by
   rw[rwL]
   by_cases e:q<k*12
   · rw[ofL_app _ _ _ (by rw[rwL_len];exact e)];exact rwL_at C k q e
   · rw[ofL_app' _ _ _ (by rw[rwL_len];omega),rwL_len]
     have h1:q/12=k:=by omega
     have h2:q % 12=q-k*12:=by omega
     rw[h1,h2]
     have h3:q-k*12<12:=by omega
     generalize q-k*12=j at h3 ⊢
     rcases(show j=0∨j=1∨j=2∨j=3∨j=4∨j=5∨j=6∨j=7∨j=8∨j=9∨j=10∨j=11 by omega) with rfl|rfl|rfl|rfl|rfl|rfl|rfl|rfl|rfl|rfl|rfl|rfl<;>rfl
theorem cells12 (w:World) (V:Nat→Int) (t:TypeId):∀ j,j<12→(w.alloc (Obj.cells #[.int .i64 (V 0),.int .i64 (V 1),.int .i64 (V 2),.int .i64 (V 3),.int .i64 (V 4),.int .i64 (V 5),.int .i64 (V 6),.int .i64 (V 7),.int .i64 (V 8),.int .i64 (V 9),.int .i64 (V 10),.int .i64 (V 11)] t)).cell? ⟨w.heap.size,j,none⟩=some (.int .i64 (ofL [V 0,V 1,V 2,V 3,V 4,V 5,V 6,V 7,V 8,V 9,V 10,V 11] j)):=by
 intro j hj
 rcases(show j=0∨j=1∨j=2∨j=3∨j=4∨j=5∨j=6∨j=7∨j=8∨j=9∨j=10∨j=11 by omega) with rfl|rfl|rfl|rfl|rfl|rfl|rfl|rfl|rfl|rfl|rfl|rfl<;>(simp only[ofL];go_simp;(try rfl))
theorem list_any (cb n:Nat) (C:Nat→Nat→Int) (S:Nat→Value) (w:World) (hC:Cs w cb n C S) (hn:n≤12):
 Calls Tryz.prog 18 #[.pointer (some ⟨cb,0,none⟩)] w fun e w'=>∃ a c,e= .returned (.slice a n c)∧OutL w w' 36 12 a n c (fun q=>C (q % 12) (q/12)):=by
 have hset:=cset_map
 refine calls_of_wp_marks Tryz.func18 rfl ?_
 simp only[Tryz.ntmps18,List.size_toArray,List.length_cons,List.length_nil,Nat.reduceAdd,Nat.reduceSub,Array.replicate_succ,Array.replicate_zero,List.push_toArray,List.append_toArray,List.nil_append,List.cons_append]
 go_wp2
 have hE:Below w.heap.size w (w.alloc (Obj.cells #[.slice none 0 0] 23)):=(Below.refl _ _).alloc (Nat.le_refl _) _
 have hC2:=hC.below hE
 have hA:LsAt (w.alloc (Obj.cells #[.slice none 0 0] 23)) (w.alloc (Obj.cells #[.slice none 0 0] 23)) w.heap.size 36 12 none 0 0 []:=LsAt.start (by go_simp) (by go_simp)
 have hz2:(w.alloc (Obj.cells #[.slice none 0 0] 23)).heap.size=w.heap.size+1:=by simp
 generalize (w.alloc (Obj.cells #[.slice none 0 0] 23))=w2 at hE hC2 hA hz2 ⊢
 have hXl:∀ b,Xc S b→b<w.heap.size:=fun b hb=>(hC.xlt hb).2
 have hcl0:=hC.lt
 have hlb:w.heap.size<w2.heap.size:=by omega
 obtain⟨ad,cc,hS0⟩:=(hC2.own 0 (by omega)).is
 have hd0:=hC2.hd 0 (by omega)
 rw[hS0] at hd0
 have hlw:w.heap.size≤w.heap.size:=Nat.le_refl _
 have hcl1:cb<w.heap.size:=hcl0
 generalize hlbe:w.heap.size=lb at hA hlb hXl hcl1 hlw ⊢
 refine wp_range_out (gf:=26) (bound:= #[.pointer (some ⟨cb,0,none⟩)]) rfl each_enters (each_it cb n _ _ w2 hC2.lt hd0 (by omega)) (fun _=>rfl) (fun k W=>∃ a m c,LsAt w2 W lb 36 12 a m c (rwL C k)) (fun _ _=>False) ?_ (fun _ _ _ h _=>h) ⟨_,_,_,hA⟩ ?round ?done (fun _ _ _ _ h _=>h.elim)
 · rintro k A B ⟨a,m,c,h1⟩ hs
   exact⟨a,m,c,h1.sm hs (Nat.le_refl _)⟩
 case done=>
  rintro D W hD ⟨a,m,c,hL⟩ hK
  have hbx:=hL.box
  have hm:m=n:=by have:=hL.len;rw[rwL_len] at this;omega
  subst hm
  go_wp2
  refine marks_ret (B:=w2.heap.size) hD rfl hK fun W' hS=>⟨.slice a m c,?_,a,c,rfl,?_,?_⟩
  · simp[results,Tryz.results18,go_sem, *]
  · rw[hlbe]
    rw[hlbe] at hE
    exact(hE.trans (hL.fr.below (by omega) (fun b e=>by omega))).trans (hS.below.mono (by omega))
  · rw[hlbe]
    exact((hL.own.sm hS).base (by omega)).congr fun q hq=>rwL_at C m q hq
 case round=>
  rintro l0 k X hl0 ⟨a,m,c,hL⟩ hk
  have hm12:m≤12:=by have:=hL.len;rw[rwL_len] at this;omega
  simp only[List.zip_toArray,List.zip_cons_cons,List.zip_nil_left,List.foldl_toArray,List.foldl_cons,List.foldl_nil,List.setIfInBounds_toArray,List.set_cons_succ,List.set_cons_zero]
  refine wpIn_region_plain (by rintro⟨_,_,h⟩;exact h) (by kernel_rfl) ?_
  go_wp2
  refine⟨(KeepsOthers.alloc _ _).from _,fun X2 hS hr=> ?_⟩
  clear hr
  have hL2:LsAt w2 X2 lb 36 12 a m c (rwL C k):=(hL.below ((Below.refl _ _).alloc (Nat.le_refl _) _)).sm hS (Nat.le_refl _)
  have b0:X2.cell? ⟨X.heap.size,0,none⟩=some (.int .i64 (k:Int)):=hS.cell (by go_simp)
  have b1:X2.cell? ⟨X.heap.size,1,none⟩=some (.pointer (some ⟨cb,0,none⟩)):=hS.cell (by go_simp)
  have hbl:X.heap.size<X2.heap.size:=by have:=hS.size;simp at this;omega
  have hown:∀ b,(Value.slice a m c).ownBlock=some b→b<X.heap.size:=fun b hb=>(hL.own.lt b hb).2
  have hzX:=hL.fr.size
  clear hS hL
  generalize X.heap.size=bb at b0 b1 hbl hown hzX ⊢
  have hCX:=hC2.frame hL2.fr (by omega) (fun b hb=>by have:=hXl b hb;omega)
  have x0:=hL2.box
  have e0:=b0
  have e1:=b1
  refine wpIn_block ?_
  refine wpIn_region_held_drew (S:=fun w'=>w'.cell? ⟨bb,0,none⟩=some (.int .i64 (k:Int))∧w'.cell? ⟨bb,1,none⟩=some (.pointer (some ⟨cb,0,none⟩))) (by kernel_rfl) (by rintro⟨_,_,h⟩;exact h) (by kernel_rfl) ?_ (fun hHeld=> ?_)
  · (try dsimp only)
    (first|(go_simp;done)|(go_keep;done))
  refine tq 1 hHeld ?_
  refine wpAnyH_ready (rs:=[0,2]) (by kernel_rfl) (by simp) ?_
  refine AllReadyH.cons rfl (fun K hK=> ?_) (AllReadyH.cons rfl (fun K hK=> ?_) AllReadyH.nil)
  · (go_simp
     refine tr hK (fun hHeld=> ?_)
     clear hK K)
    refine tc 2 fun K hK=> ?_
    (go_simp
     (go_at_call 33;refine(kBody (Cs.hat (hCX.below (Below.drew (Below.refl _ _))) hk (by omega))).mono ?_;rintro e w31 ⟨rfl,hx⟩)
     have hx1:Below X2.heap.size X2 w31:=(Below.drew (Below.refl _ _)).trans hx
     have hL3:=hL2.below hx1
     clear x0 e0 e1 hx
     have x0:=hL3.box
     have e0:=(hx1.cell (p:=⟨bb,0,none⟩) hbl).trans b0
     have e1:=(hx1.cell (p:=⟨bb,1,none⟩) hbl).trans b1
     have hbl3:bb<w31.heap.size:=Nat.lt_of_lt_of_le hbl hx1.size
     (try go_wp2_with fail)
     refine tr hK (fun hHeld=> ?_)
     clear hK K)
    refine tc 3 fun K hK=> ?_
    (go_simp
     have hE3:Below w31.heap.size w31 (w31.alloc (Obj.cells #[.int .i64 (C 0 k),.int .i64 (C 1 k),.int .i64 (C 2 k),.int .i64 (C 3 k),.int .i64 (C 4 k),.int .i64 (C 5 k),.int .i64 (C 6 k),.int .i64 (C 7 k),.int .i64 (C 8 k),.int .i64 (C 9 k),.int .i64 (C 10 k),.int .i64 (C 11 k)] 36)):=(Below.refl _ _).alloc (Nat.le_refl _) _
     have q12:=cells12 w31 (fun j=>C j k) 36
     have hz32:(w31.alloc (Obj.cells #[.int .i64 (C 0 k),.int .i64 (C 1 k),.int .i64 (C 2 k),.int .i64 (C 3 k),.int .i64 (C 4 k),.int .i64 (C 5 k),.int .i64 (C 6 k),.int .i64 (C 7 k),.int .i64 (C 8 k),.int .i64 (C 9 k),.int .i64 (C 10 k),.int .i64 (C 11 k)] 36)).heap.size=w31.heap.size+1:=by simp
     clear x0 e0 e1
     generalize w31.alloc (Obj.cells #[.int .i64 (C 0 k),.int .i64 (C 1 k),.int .i64 (C 2 k),.int .i64 (C 3 k),.int .i64 (C 4 k),.int .i64 (C 5 k),.int .i64 (C 6 k),.int .i64 (C 7 k),.int .i64 (C 8 k),.int .i64 (C 9 k),.int .i64 (C 10 k),.int .i64 (C 11 k)] 36)=w32 at hE3 q12 hz32 ⊢
     have hL4:=hL3.below hE3
     have x0:=hL4.box
     have e0:=(hE3.cell (p:=⟨bb,0,none⟩) hbl3).trans ((hx1.cell (p:=⟨bb,0,none⟩) hbl).trans b0)
     have e1:=(hE3.cell (p:=⟨bb,1,none⟩) hbl3).trans ((hx1.cell (p:=⟨bb,1,none⟩) hbl).trans b1)
     refine tr hK (fun hHeld=> ?_)
     clear hK K)
    refine tc 4 fun K hK=> ?_
    (refine step_appk (by rfl) _ _ _ (by rfl) w2.heap.size 36 12 96 zcBody Tryz.underlying23 infoItBody (by rfl) (by omega) (.slice a m c) m (ofL (rwL C k)) (by rfl) hL4.own w31.heap.size _ (ofL [C 0 k,C 1 k,C 2 k,C 3 k,C 4 k,C 5 k,C 6 k,C 7 k,C 8 k,C 9 k,C 10 k,C 11 k]) (by rfl) q12 (by unfold maxLen;omega) (by omega) (by have:=hL4.fr.size;omega) _ rfl ?_
     intro g6 c6 w33 ho6 hg6 hor6 hlt6
     have hP:=hL4.push hlb (x:=[C 0 k,C 1 k,C 2 k,C 3 k,C 4 k,C 5 k,C 6 k,C 7 k,C 8 k,C 9 k,C 10 k,C 11 k]) rfl hg6 ho6
     have hKP:=(Fr.of_below (hx1.trans (hE3.mono hx1.size))).trans (hL4.keeps (a':=some ⟨g6,0,none⟩) (m':=m+1) (c':=c6) hlb hg6)
     have hnb:∀ b,(Value.slice a m c).ownBlock=some b→b≠bb:=fun b e=>by have:=hown b e;omega
     have y0:=(hg6.cell_far ⟨bb,0,none⟩ (by show bb<w32.heap.size;omega) (fun e=>hnb bb e.symm rfl)).trans e0
     have y1:=(hg6.cell_far ⟨bb,1,none⟩ (by show bb<w32.heap.size;omega) (fun e=>hnb bb e.symm rfl)).trans e1
     have n0:=(hg6.cell_far ⟨lb,0,none⟩ (by show lb<w32.heap.size;have:=hL4.fr.size;omega) (fun e=>by have:=(hL4.own.lt lb e.symm).1;omega)).trans hL4.box
     have nf:=(hg6.frozen_far ⟨lb,0,none⟩ (by show lb<w32.heap.size;have:=hL4.fr.size;omega) (fun e=>by have:=(hL4.own.lt lb e.symm).1;omega)).trans hL4.nf
     clear x0 e0 e1
     refine tr hK (fun hHeld=> ?_)
     clear hK K)
    refine tc 5 fun K hK=> ?_
    (have z0:(w33.setCell ⟨lb,0,none⟩ (.slice (some ⟨g6,0,none⟩) (m+1) c6)).cell? ⟨bb,0,none⟩=some (.int .i64 (k:Int)):=by rw[cset_far (by simp;omega)];exact y0
     have z1:(w33.setCell ⟨lb,0,none⟩ (.slice (some ⟨g6,0,none⟩) (m+1) c6)).cell? ⟨bb,1,none⟩=some (.pointer (some ⟨cb,0,none⟩)):=by rw[cset_far (by simp;omega)];exact y1
     go_simp
     refine tr hK (fun hHeld=> ?_)
     clear hK K)
    refine wpAnyH_done (by kernel_rfl) ?_ _
    go_wp2_with fail
    exact⟨hKP.keeps _,_,_,_,by rw[rwL];exact hP⟩
  · (go_simp
     (go_at_call 33;refine(kBody (Cs.hat (hCX.below (Below.drew (Below.refl _ _))) hk (by omega))).mono ?_;rintro e w31 ⟨rfl,hx⟩)
     have hx1:Below X2.heap.size X2 w31:=(Below.drew (Below.refl _ _)).trans hx
     have hL3:=hL2.below hx1
     clear x0 e0 e1 hx
     have x0:=hL3.box
     have e0:=(hx1.cell (p:=⟨bb,0,none⟩) hbl).trans b0
     have e1:=(hx1.cell (p:=⟨bb,1,none⟩) hbl).trans b1
     have hbl3:bb<w31.heap.size:=Nat.lt_of_lt_of_le hbl hx1.size
     (try go_wp2_with fail)
     refine tr hK (fun hHeld=> ?_)
     clear hK K)
    refine wpAnyH_ready (rs:=[0,3]) (by kernel_rfl) (by simp) ?_
    refine AllReadyH.cons rfl (fun K hK=> ?_) (AllReadyH.cons rfl (fun K hK=> ?_) AllReadyH.nil)
    · (go_simp
       refine tr hK (fun hHeld=> ?_)
       clear hK K)
      refine tc 3 fun K hK=> ?_
      (go_simp
       have hE3:Below w31.heap.size w31 (w31.alloc (Obj.cells #[.int .i64 (C 0 k),.int .i64 (C 1 k),.int .i64 (C 2 k),.int .i64 (C 3 k),.int .i64 (C 4 k),.int .i64 (C 5 k),.int .i64 (C 6 k),.int .i64 (C 7 k),.int .i64 (C 8 k),.int .i64 (C 9 k),.int .i64 (C 10 k),.int .i64 (C 11 k)] 36)):=(Below.refl _ _).alloc (Nat.le_refl _) _
       have q12:=cells12 w31 (fun j=>C j k) 36
       have hz32:(w31.alloc (Obj.cells #[.int .i64 (C 0 k),.int .i64 (C 1 k),.int .i64 (C 2 k),.int .i64 (C 3 k),.int .i64 (C 4 k),.int .i64 (C 5 k),.int .i64 (C 6 k),.int .i64 (C 7 k),.int .i64 (C 8 k),.int .i64 (C 9 k),.int .i64 (C 10 k),.int .i64 (C 11 k)] 36)).heap.size=w31.heap.size+1:=by simp
       clear x0 e0 e1
       generalize w31.alloc (Obj.cells #[.int .i64 (C 0 k),.int .i64 (C 1 k),.int .i64 (C 2 k),.int .i64 (C 3 k),.int .i64 (C 4 k),.int .i64 (C 5 k),.int .i64 (C 6 k),.int .i64 (C 7 k),.int .i64 (C 8 k),.int .i64 (C 9 k),.int .i64 (C 10 k),.int .i64 (C 11 k)] 36)=w32 at hE3 q12 hz32 ⊢
       have hL4:=hL3.below hE3
       have x0:=hL4.box
       have e0:=(hE3.cell (p:=⟨bb,0,none⟩) hbl3).trans ((hx1.cell (p:=⟨bb,0,none⟩) hbl).trans b0)
       have e1:=(hE3.cell (p:=⟨bb,1,none⟩) hbl3).trans ((hx1.cell (p:=⟨bb,1,none⟩) hbl).trans b1)
       refine tr hK (fun hHeld=> ?_)
       clear hK K)
      refine tc 4 fun K hK=> ?_
      (refine step_appk (by rfl) _ _ _ (by rfl) w2.heap.size 36 12 96 zcBody Tryz.underlying23 infoItBody (by rfl) (by omega) (.slice a m c) m (ofL (rwL C k)) (by rfl) hL4.own w31.heap.size _ (ofL [C 0 k,C 1 k,C 2 k,C 3 k,C 4 k,C 5 k,C 6 k,C 7 k,C 8 k,C 9 k,C 10 k,C 11 k]) (by rfl) q12 (by unfold maxLen;omega) (by omega) (by have:=hL4.fr.size;omega) _ rfl ?_
       intro g6 c6 w33 ho6 hg6 hor6 hlt6
       have hP:=hL4.push hlb (x:=[C 0 k,C 1 k,C 2 k,C 3 k,C 4 k,C 5 k,C 6 k,C 7 k,C 8 k,C 9 k,C 10 k,C 11 k]) rfl hg6 ho6
       have hKP:=(Fr.of_below (hx1.trans (hE3.mono hx1.size))).trans (hL4.keeps (a':=some ⟨g6,0,none⟩) (m':=m+1) (c':=c6) hlb hg6)
       have hnb:∀ b,(Value.slice a m c).ownBlock=some b→b≠bb:=fun b e=>by have:=hown b e;omega
       have y0:=(hg6.cell_far ⟨bb,0,none⟩ (by show bb<w32.heap.size;omega) (fun e=>hnb bb e.symm rfl)).trans e0
       have y1:=(hg6.cell_far ⟨bb,1,none⟩ (by show bb<w32.heap.size;omega) (fun e=>hnb bb e.symm rfl)).trans e1
       have n0:=(hg6.cell_far ⟨lb,0,none⟩ (by show lb<w32.heap.size;have:=hL4.fr.size;omega) (fun e=>by have:=(hL4.own.lt lb e.symm).1;omega)).trans hL4.box
       have nf:=(hg6.frozen_far ⟨lb,0,none⟩ (by show lb<w32.heap.size;have:=hL4.fr.size;omega) (fun e=>by have:=(hL4.own.lt lb e.symm).1;omega)).trans hL4.nf
       clear x0 e0 e1
       refine tr hK (fun hHeld=> ?_)
       clear hK K)
      refine tc 5 fun K hK=> ?_
      (have z0:(w33.setCell ⟨lb,0,none⟩ (.slice (some ⟨g6,0,none⟩) (m+1) c6)).cell? ⟨bb,0,none⟩=some (.int .i64 (k:Int)):=by rw[cset_far (by simp;omega)];exact y0
       have z1:(w33.setCell ⟨lb,0,none⟩ (.slice (some ⟨g6,0,none⟩) (m+1) c6)).cell? ⟨bb,1,none⟩=some (.pointer (some ⟨cb,0,none⟩)):=by rw[cset_far (by simp;omega)];exact y1
       go_simp
       refine tr hK (fun hHeld=> ?_)
       clear hK K)
      refine wpAnyH_done (by kernel_rfl) ?_ _
      go_wp2_with fail
      exact⟨hKP.keeps _,_,_,_,by rw[rwL];exact hP⟩
    · (go_simp
       have hE3:Below w31.heap.size w31 (w31.alloc (Obj.cells #[.int .i64 (C 0 k),.int .i64 (C 1 k),.int .i64 (C 2 k),.int .i64 (C 3 k),.int .i64 (C 4 k),.int .i64 (C 5 k),.int .i64 (C 6 k),.int .i64 (C 7 k),.int .i64 (C 8 k),.int .i64 (C 9 k),.int .i64 (C 10 k),.int .i64 (C 11 k)] 36)):=(Below.refl _ _).alloc (Nat.le_refl _) _
       have q12:=cells12 w31 (fun j=>C j k) 36
       have hz32:(w31.alloc (Obj.cells #[.int .i64 (C 0 k),.int .i64 (C 1 k),.int .i64 (C 2 k),.int .i64 (C 3 k),.int .i64 (C 4 k),.int .i64 (C 5 k),.int .i64 (C 6 k),.int .i64 (C 7 k),.int .i64 (C 8 k),.int .i64 (C 9 k),.int .i64 (C 10 k),.int .i64 (C 11 k)] 36)).heap.size=w31.heap.size+1:=by simp
       clear x0 e0 e1
       generalize w31.alloc (Obj.cells #[.int .i64 (C 0 k),.int .i64 (C 1 k),.int .i64 (C 2 k),.int .i64 (C 3 k),.int .i64 (C 4 k),.int .i64 (C 5 k),.int .i64 (C 6 k),.int .i64 (C 7 k),.int .i64 (C 8 k),.int .i64 (C 9 k),.int .i64 (C 10 k),.int .i64 (C 11 k)] 36)=w32 at hE3 q12 hz32 ⊢
       have hL4:=hL3.below hE3
       have x0:=hL4.box
       have e0:=(hE3.cell (p:=⟨bb,0,none⟩) hbl3).trans ((hx1.cell (p:=⟨bb,0,none⟩) hbl).trans b0)
       have e1:=(hE3.cell (p:=⟨bb,1,none⟩) hbl3).trans ((hx1.cell (p:=⟨bb,1,none⟩) hbl).trans b1)
       refine tr hK (fun hHeld=> ?_)
       clear hK K)
      refine tc 0 fun K hK=> ?_
      (go_simp
       refine tr hK (fun hHeld=> ?_)
       clear hK K)
      refine tc 4 fun K hK=> ?_
      (refine step_appk (by rfl) _ _ _ (by rfl) w2.heap.size 36 12 96 zcBody Tryz.underlying23 infoItBody (by rfl) (by omega) (.slice a m c) m (ofL (rwL C k)) (by rfl) hL4.own w31.heap.size _ (ofL [C 0 k,C 1 k,C 2 k,C 3 k,C 4 k,C 5 k,C 6 k,C 7 k,C 8 k,C 9 k,C 10 k,C 11 k]) (by rfl) q12 (by unfold maxLen;omega) (by omega) (by have:=hL4.fr.size;omega) _ rfl ?_
       intro g6 c6 w33 ho6 hg6 hor6 hlt6
       have hP:=hL4.push hlb (x:=[C 0 k,C 1 k,C 2 k,C 3 k,C 4 k,C 5 k,C 6 k,C 7 k,C 8 k,C 9 k,C 10 k,C 11 k]) rfl hg6 ho6
       have hKP:=(Fr.of_below (hx1.trans (hE3.mono hx1.size))).trans (hL4.keeps (a':=some ⟨g6,0,none⟩) (m':=m+1) (c':=c6) hlb hg6)
       have hnb:∀ b,(Value.slice a m c).ownBlock=some b→b≠bb:=fun b e=>by have:=hown b e;omega
       have y0:=(hg6.cell_far ⟨bb,0,none⟩ (by show bb<w32.heap.size;omega) (fun e=>hnb bb e.symm rfl)).trans e0
       have y1:=(hg6.cell_far ⟨bb,1,none⟩ (by show bb<w32.heap.size;omega) (fun e=>hnb bb e.symm rfl)).trans e1
       have n0:=(hg6.cell_far ⟨lb,0,none⟩ (by show lb<w32.heap.size;have:=hL4.fr.size;omega) (fun e=>by have:=(hL4.own.lt lb e.symm).1;omega)).trans hL4.box
       have nf:=(hg6.frozen_far ⟨lb,0,none⟩ (by show lb<w32.heap.size;have:=hL4.fr.size;omega) (fun e=>by have:=(hL4.own.lt lb e.symm).1;omega)).trans hL4.nf
       clear x0 e0 e1
       refine tr hK (fun hHeld=> ?_)
       clear hK K)
      refine tc 5 fun K hK=> ?_
      (have z0:(w33.setCell ⟨lb,0,none⟩ (.slice (some ⟨g6,0,none⟩) (m+1) c6)).cell? ⟨bb,0,none⟩=some (.int .i64 (k:Int)):=by rw[cset_far (by simp;omega)];exact y0
       have z1:(w33.setCell ⟨lb,0,none⟩ (.slice (some ⟨g6,0,none⟩) (m+1) c6)).cell? ⟨bb,1,none⟩=some (.pointer (some ⟨cb,0,none⟩)):=by rw[cset_far (by simp;omega)];exact y1
       go_simp
       refine tr hK (fun hHeld=> ?_)
       clear hK K)
      refine wpAnyH_done (by kernel_rfl) ?_ _
      go_wp2_with fail
      exact⟨hKP.keeps _,_,_,_,by rw[rwL];exact hP⟩
end Go.Proofs.YtbdbbdjifgpgeaaGreat
