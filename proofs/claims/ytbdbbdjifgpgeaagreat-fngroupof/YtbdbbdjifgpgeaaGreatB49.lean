/- Texts of a proof. -/
import Derived.Test.YtbdbbdjifgpgeaaGreatB47
import Derived.Test.YtbdbbdjifgpgeaaGreatB6
import Derived.Deep.RegionHeld3
import Derived.Deep.DeepCutAuto
import Derived.Test.YtbdbbdjifgpgeaaGreatB19
import Derived.Test.YtbdbbdjifgpgeaaGreatCsAdd
import Derived.LoopNIn
import Derived.LoopIn
import Derived.OwnWalkIn
import Derived.Test.YtbdbbdjifgpgeaaGreatLst
import Derived.Test.YtbdbbdjifgpgeaaGreatBdOk
set_option maxHeartbeats 16000000
set_option maxRecDepth 20000
namespace Go.Proofs.YtbdbbdjifgpgeaaGreat
open Go.RowKit
set_option linter.unusedVariables false
set_option linter.unusedSimpArgs false
theorem index_any {cb base:Nat} {v:Value} {ms:List Nat} (k:Nat) (w:World) (h:HL w base cb v ms) (hms:ms.length≤12):
 Calls Tryz.prog 63 #[v,hdk cb k] w fun e w'=>(∃ r:Int,e= .returned (.int .i64 r)∧decide (0≤r)=decide (k∈ms))∧Below w.heap.size w w':=by
 have hset:=cset_map
 obtain⟨ad,cc,rfl⟩:=h.is
 have hE:Below w.heap.size w (w.alloc (Obj.cells #[.int .i64 (k:Int),.pointer (some ⟨cb,0,none⟩)] 63)):=(Below.refl _ _).alloc (Nat.le_refl _) _
 have v0:(w.alloc (Obj.cells #[.int .i64 (k:Int),.pointer (some ⟨cb,0,none⟩)] 63)).cell? ⟨w.heap.size,0,none⟩=some (.int .i64 (k:Int)):=by go_simp
 have v1:(w.alloc (Obj.cells #[.int .i64 (k:Int),.pointer (some ⟨cb,0,none⟩)] 63)).cell? ⟨w.heap.size,1,none⟩=some (.pointer (some ⟨cb,0,none⟩)):=by go_simp
 have hz:(w.alloc (Obj.cells #[.int .i64 (k:Int),.pointer (some ⟨cb,0,none⟩)] 63)).heap.size=w.heap.size+1:=by simp
 have h1:=h.below hE
 go_enter Tryz.func63,Tryz.ntmps63
 go_upto_region 2 with fail
 generalize (w.alloc (Obj.cells #[.int .i64 (k:Int),.pointer (some ⟨cb,0,none⟩)] 63))=w1 at hE v0 v1 hz h1 ⊢
 go_loopw [8] (fun s wr=>∃ q:Nat,q≤ms.length∧s= .int .i64 (q:Int)∧k ∉ ms.take q∧Below w1.heap.size w1 wr) (fun s _=>ms.length-(intOf s).toNat)
 case atStart=>exact⟨0,Nat.zero_le _,rfl,by simp,Below.refl _ _⟩
 case round=>
  obtain⟨q,hq,rfl,hno,hB⟩:=hrel
  have b0:=(hB.cell (p:=⟨w.heap.size,0,none⟩) (by show w.heap.size<w1.heap.size;omega)).trans v0
  have b1:=(hB.cell (p:=⟨w.heap.size,1,none⟩) (by show w.heap.size<w1.heap.size;omega)).trans v1
  by_cases hlt:q<ms.length
  · obtain⟨g,c,he,-,-⟩:=h1.some (by omega)
    cases he
    obtain⟨c0,c1⟩:=(h1.below hB).cells hlt
    obtain⟨r,hr⟩:∃ r,ms[q]=r:=⟨_,rfl⟩
    rw[hr] at c0
    have hqi:(q:Int)<(ms.length:Int):=by omega
    have hev:=eq_han0 (k:Int) (r:Int) cb
    by_cases he:k=r
    · have he2:((k:Int)==(r:Int))=true:=beq_iff_eq.2 (by omega)
      have hin:k∈ms:=by rw[he,←hr];exact List.getElem_mem hlt
      rw[he2] at hev
      clear he he2
      go_upto_region 4 with fail
      refine wp_region_held_drew (S:=fun w'=>w'.cell? ⟨w.heap.size,0,none⟩=some (.int .i64 (k:Int))∧w'.cell? ⟨w.heap.size,1,none⟩=some (.pointer (some ⟨cb,0,none⟩))∧w'.cell? ⟨g,q*2,none⟩=some (.int .i64 (r:Int))∧w'.cell? ⟨g,q*2+1,none⟩=some (.pointer (some ⟨cb,0,none⟩))) (by kernel_rfl) ?_ (fun hHeld=> ?_)
      · (try dsimp only)
        (first|(go_simp;done)|(go_keep;done))
      refine tq 0 hHeld ?_
      refine tq 1 hHeld ?_
      refine tq 2 hHeld ?_
      refine tq 3 hHeld ?_
      refine tq 4 hHeld ?_
      refine tq 5 hHeld ?_
      refine wpAnyH_done (by kernel_rfl) ?_ _
      go_wp2_with fail
      go_ret
      exact⟨⟨_,rfl,by rw[decide_eq_true hin,decide_eq_true (by omega)]⟩,hE.trans ((hB.mono (by omega)).drew)⟩
    · have he2:((k:Int)==(r:Int))=false:=beq_eq_false_iff_ne.2 (by omega)
      rw[he2] at hev
      clear he2
      go_upto_region 4 with fail
      refine wp_region_held_drew (S:=fun w'=>w'.cell? ⟨w.heap.size,0,none⟩=some (.int .i64 (k:Int))∧w'.cell? ⟨w.heap.size,1,none⟩=some (.pointer (some ⟨cb,0,none⟩))∧w'.cell? ⟨g,q*2,none⟩=some (.int .i64 (r:Int))∧w'.cell? ⟨g,q*2+1,none⟩=some (.pointer (some ⟨cb,0,none⟩))) (by kernel_rfl) ?_ (fun hHeld=> ?_)
      · (try dsimp only)
        (first|(go_simp;done)|(go_keep;done))
      refine tq 0 hHeld ?_
      refine tq 1 hHeld ?_
      refine tq 2 hHeld ?_
      refine tq 3 hHeld ?_
      refine tq 4 hHeld ?_
      refine tq 5 hHeld ?_
      refine wpAnyH_done (by kernel_rfl) ?_ _
      go_wp2_with fail
      go_roundw
      case rel=>exact⟨q+1,by omega,by go_num,by rw[List.take_succ_eq_append_getElem hlt,List.mem_append,List.mem_singleton,hr];exact fun x=>x.elim hno he,hB.drew⟩
      case measure=>simp[intOf];omega
  · obtain rfl:q=ms.length:=by omega
    rw[List.take_length] at hno
    go_wp2_with fail
    go_ret
    exact⟨⟨_,rfl,by rw[decide_eq_false hno];rfl⟩,hE.trans (hB.mono (by omega))⟩
theorem contains_any {cb base:Nat} {v:Value} {ms:List Nat} (k:Nat) (w:World) (h:HL w base cb v ms) (hms:ms.length≤12) (b:Bool) (hb:decide (k∈ms)=b):
 Calls Tryz.prog 31 #[v,hdk cb k] w fun e w'=>e= .returned (.bool b)∧Below w.heap.size w w':=by
 have hset:=cset_map
 go_enter Tryz.func31,Tryz.ntmps31
 go_wp2_with (go_at_call 63;refine(index_any k _ (h.below ((Below.refl _ _).alloc (Nat.le_refl _) _)) hms).mono ?_;rintro e w1 ⟨⟨r,rfl,hr⟩,hb1⟩;rw[hb] at hr)
 go_ret
 have k1:=((Below.refl w.heap.size w).alloc (Nat.le_refl _) (Obj.cells #[.int .i64 (k:Int),.pointer (some ⟨cb,0,none⟩)] 63)).trans (hb1.mono (by simp))
 exact⟨by rw[←hr];simp,k1⟩
end Go.Proofs.YtbdbbdjifgpgeaaGreat
namespace Go.Proofs.YtbdbbdjifgpgeaaGreat
open Go.RowKit
set_option linter.unusedVariables false
set_option linter.unusedSimpArgs false
def selL (p:Nat→Bool):Nat→List Nat
 |0=>[]
 |k+1=>selL p k++(if p k=true then [k] else [])
theorem selL_le (p:Nat→Bool):∀ k,(selL p k).length≤k
 |0=>Nat.le_refl _
 | k+1=>by
   have:=selL_le p k
   rw[selL,List.length_append]
   split<;>simp<;>omega
def selC (C:Nat→Nat→Int) (l:List Nat):Nat→Nat→Int:=fun i j=>C i (l.getD j 0)
theorem selC_snoc (C:Nat→Nat→Int) (l:List Nat) (k:Nat):∀ i j,j<l.length+1→snocC l.length (selC C l) (fun i=>C i k) i j=selC C (l++[k]) i j:=fun i j hj=>by
 unfold snocC snoc selC
 by_cases e:j<l.length
 · rw[if_neg (by omega),List.getD_eq_getElem?_getD,List.getD_eq_getElem?_getD,List.getElem?_append_left e]
 · obtain rfl:j=l.length:=by omega
   rw[if_pos rfl]
   simp
def Pc (w:World) (vb pb:Nat):Prop:=w.heap[vb]? =some (.cells #[.pointer (some ⟨pb,0,none⟩)] 43 (0,0))
theorem Pc.lt {w:World} {vb pb:Nat} (h:Pc w vb pb):vb<w.heap.size:=(Array.getElem?_eq_some_iff.1 h).1
theorem Pc.cell {w:World} {vb pb:Nat} (h:Pc w vb pb):w.cell? ⟨vb,0,none⟩=some (.pointer (some ⟨pb,0,none⟩)):=by unfold Pc at h;simp[World.cell?,h]
theorem Pc.no {w:World} {vb pb n:Nat} {C:Nat→Nat→Int} {S:Nat→Value} (h:Pc w vb pb) (hC:Cs w pb n C S):¬ Xc S vb:=by
 rintro⟨i,hi,e⟩
 rcases(hC.own i hi).2 with⟨hv,_⟩|⟨g,cap,cur,hv,_,hg,_⟩
 · rw[hv] at e;cases e
 · rw[hv] at e
   simp only[Value.ownBlock,Option.some.injEq] at e
   subst e
   unfold Pc at h
   rw[h] at hg
   simp only[Option.some.injEq,Obj.cells.injEq] at hg
   exact absurd hg.2.1 (by decide)
theorem Pc.sm {B:Nat} {w w':World} {vb pb:Nat} (h:Pc w vb pb) (k:Sm B w w'):Pc w' vb pb:=k.cells _ _ h rfl
theorem Pc.below {w w':World} {vb pb:Nat} (h:Pc w vb pb) (k:Below w.heap.size w w'):Pc w' vb pb:=(k.block vb h.lt).trans h
structure Wf (w A:World) (mb vb pb:Nat) (v:Value) (C:Nat→Nat→Int) (l:List Nat) (S:Nat→Value):Prop where
 bel:Below w.heap.size w A
 pc:Pc A vb pb
 cs:Cs A pb l.length (selC C l) S
 mv:A.cell? ⟨mb,0,none⟩=some v
section
variable {w A A':World} {mb vb pb:Nat} {v:Value} {C:Nat→Nat→Int} {l:List Nat} {S S':Nat→Value}
theorem Wf.sm {B:Nat} (h:Wf w A mb vb pb v C l S) (k:Sm B A A') (hB:w.heap.size≤B):Wf w A' mb vb pb v C l S:=⟨h.bel.trans (k.below.mono hB),h.pc.sm k,h.cs.sm k,k.cell h.mv⟩
theorem Wf.on (h:Wf w A mb vb pb v C l S) (k:Below A.heap.size A A'):Wf w A' mb vb pb v C l S:=⟨h.bel.trans (k.mono h.bel.size),h.pc.below k,h.cs.below k,(k.cell (p:=⟨mb,0,none⟩) (cell_lt (a:=⟨mb,0,none⟩) h.mv)).trans h.mv⟩
theorem Wf.add (h:Wf w A mb vb pb v C l S) (k:Nat) (hmb:mb<pb) (hw:w.heap.size≤pb) (hvb:vb≠pb) (hc:Cs A' pb (l.length+1) (snocC l.length (selC C l) (fun i=>C i k)) S') (hF:Fr (fun b=>b=pb∨Xc S b) A A'):Wf w A' mb vb pb v C (l++[k]) S':=by
 have e:(l++[k]).length=l.length+1:=by simp
 refine⟨h.bel.trans (hF.below h.bel.size (fun b q=>q.elim (fun q=>by omega) (fun q=>by have:=(h.cs.xlt q).1;omega))),(hF.block vb h.pc.lt (fun q=>q.elim hvb (h.pc.no h.cs))).trans h.pc,?_,(hF.cell (p:=⟨mb,0,none⟩) (cell_lt (a:=⟨mb,0,none⟩) h.mv) (fun q=>q.elim (fun q=>by simp at q;omega) (fun q=>by have:=(h.cs.xlt q).1;simp at this;omega))).trans h.mv⟩
 rw[e]
 exact hc.congr fun i j _ hj=>selC_snoc C l k i j hj
end
theorem withFixed_any (cb n:Nat) (C:Nat→Nat→Int) (S:Nat→Value) (base:Nat) (v:Value) (ms:List Nat) (w:World) (hC:Cs w cb n C S) (hn:n≤12) (hH:HL w base cb v ms) (hms:ms.length≤12) (p:Nat→Bool) (hp0:∀ k,k<n→p k=(decide (C 8 k=0)||decide (k∈ms))):
 Calls Tryz.prog 17 #[.pointer (some ⟨cb,0,none⟩),v] w fun e w'=>∃ (pb:Nat) (S':Nat→Value),e= .returned (.pointer (some ⟨pb,0,none⟩))∧Cs w' pb (selL p n).length (selC C (selL p n)) S'∧Below w.heap.size w w':=by
 have hset:=cset_map
 obtain⟨va,vc,hva⟩:=hH.is
 have hE:Below w.heap.size w (((w.alloc (Obj.cells #[v] 46)).alloc (Obj.cells #[.slice none 0 0,.slice none 0 0,.slice none 0 0,.slice none 0 0,.slice none 0 0,.slice none 0 0,.slice none 0 0,.slice none 0 0,.slice none 0 0,.slice none 0 0,.slice none 0 0,.slice none 0 0] 68)).alloc (Obj.cells #[.pointer (some ⟨w.heap.size+1,0,none⟩)] 43)):=(((Below.refl _ _).alloc (Nat.le_refl _) _).alloc (by simp) _).alloc (by simp;omega) _
 have hW0:Wf w (((w.alloc (Obj.cells #[v] 46)).alloc (Obj.cells #[.slice none 0 0,.slice none 0 0,.slice none 0 0,.slice none 0 0,.slice none 0 0,.slice none 0 0,.slice none 0 0,.slice none 0 0,.slice none 0 0,.slice none 0 0,.slice none 0 0,.slice none 0 0] 68)).alloc (Obj.cells #[.pointer (some ⟨w.heap.size+1,0,none⟩)] 43)) w.heap.size (w.heap.size+1+1) (w.heap.size+1) v C [] (fun _=> .slice none 0 0):=by
  refine⟨hE,?_,⟨fun i hi=> ?_,fun i hi=>by go_simp,fun i hi=>OwnL.nil _ _ _ _ _,(fun _ _ _ e=>by cases e),(fun _ _ _ _ _ _ e=>by cases e)⟩,by go_simp⟩
  · have q:=World.alloc_heap_new ((w.alloc (Obj.cells #[v] 46)).alloc (Obj.cells #[.slice none 0 0,.slice none 0 0,.slice none 0 0,.slice none 0 0,.slice none 0 0,.slice none 0 0,.slice none 0 0,.slice none 0 0,.slice none 0 0,.slice none 0 0,.slice none 0 0,.slice none 0 0] 68)) (Obj.cells #[.pointer (some ⟨w.heap.size+1,0,none⟩)] 43)
    rw[World.size_alloc,World.size_alloc] at q
    exact q
  · rcases(show i=0∨i=1∨i=2∨i=3∨i=4∨i=5∨i=6∨i=7∨i=8∨i=9∨i=10∨i=11 by omega) with rfl|rfl|rfl|rfl|rfl|rfl|rfl|rfl|rfl|rfl|rfl|rfl<;>go_simp
 have hz2:(((w.alloc (Obj.cells #[v] 46)).alloc (Obj.cells #[.slice none 0 0,.slice none 0 0,.slice none 0 0,.slice none 0 0,.slice none 0 0,.slice none 0 0,.slice none 0 0,.slice none 0 0,.slice none 0 0,.slice none 0 0,.slice none 0 0,.slice none 0 0] 68)).alloc (Obj.cells #[.pointer (some ⟨w.heap.size+1,0,none⟩)] 43)).heap.size=w.heap.size+1+1+1:=by simp
 subst hva
 refine calls_of_wp_marks Tryz.func17 rfl ?_
 simp only[Tryz.ntmps17,List.size_toArray,List.length_cons,List.length_nil,Nat.reduceAdd,Nat.reduceSub,Array.replicate_succ,Array.replicate_zero,List.push_toArray,List.append_toArray,List.nil_append,List.cons_append]
 go_wp2
 generalize (((w.alloc (Obj.cells #[.slice va ms.length vc] 46)).alloc (Obj.cells #[.slice none 0 0,.slice none 0 0,.slice none 0 0,.slice none 0 0,.slice none 0 0,.slice none 0 0,.slice none 0 0,.slice none 0 0,.slice none 0 0,.slice none 0 0,.slice none 0 0,.slice none 0 0] 68)).alloc (Obj.cells #[.pointer (some ⟨w.heap.size+1,0,none⟩)] 43))=w2 at hE hW0 hz2 ⊢
 have hC2:=hC.below hE
 obtain⟨ad,cc,hS0⟩:=(hC2.own 0 (by omega)).is
 have hd0:=hC2.hd 0 (by omega)
 rw[hS0] at hd0
 have hmb:w.heap.size<w.heap.size+1:=by omega
 have hwp:w.heap.size≤w.heap.size+1:=by omega
 have hvp:w.heap.size+1+1≠w.heap.size+1:=by omega
 have hpz:w.heap.size+1<w2.heap.size:=by omega
 obtain⟨vb,hvb⟩:∃ x,w.heap.size+1+1=x:=⟨_,rfl⟩
 obtain⟨pb,hpb⟩:∃ x,w.heap.size+1=x:=⟨_,rfl⟩
 rw[hvb] at hW0 hvp ⊢
 rw[hpb] at hW0 hvp hmb hwp hpz ⊢
 clear hvb hpb
 refine wp_range_out (gf:=26) (bound:= #[.pointer (some ⟨cb,0,none⟩)]) rfl each_enters (each_it cb n _ _ w2 hC2.lt hd0 (by omega)) (fun _=>rfl) (fun k W=>∃ S',Wf w W w.heap.size vb pb (.slice va ms.length vc) C (selL p k) S') (fun _ _=>False) ?_ (fun _ _ _ h _=>h) ⟨_,hW0⟩ ?round ?done (fun _ _ _ _ h _=>h.elim)
 · rintro k A B ⟨S',h1⟩ hs
   exact⟨S',h1.sm hs (by omega)⟩
 case done=>
  rintro D W hD ⟨S',h1⟩ hK
  have hbx:=h1.pc.cell
  go_wp2
  refine marks_ret (B:=w2.heap.size) hD rfl hK fun W' hS=>⟨.pointer (some ⟨pb,0,none⟩),?_,pb,S',rfl,(h1.sm hS (by omega)).cs,(h1.sm hS (by omega)).bel⟩
  simp[results,Tryz.results17,go_sem, *]
 case round=>
  rintro l0 k X hl0 ⟨S2,hW⟩ hk
  simp only[List.zip_toArray,List.zip_cons_cons,List.zip_nil_left,List.foldl_toArray,List.foldl_cons,List.foldl_nil,List.setIfInBounds_toArray,List.set_cons_succ,List.set_cons_zero]
  refine wpIn_region_plain (by rintro⟨_,_,h⟩;exact h) (by kernel_rfl) ?_
  go_wp2
  refine⟨(KeepsOthers.alloc _ _).from _,fun X2 hS hr=> ?_⟩
  clear hr
  have hE1:Below X.heap.size X (X.alloc (Obj.cells #[.int .i64 (k:Int),.pointer (some ⟨cb,0,none⟩)] 63)):=(Below.refl _ _).alloc (Nat.le_refl _) _
  have b0:X2.cell? ⟨X.heap.size,0,none⟩=some (.int .i64 (k:Int)):=hS.cell (by go_simp)
  have b1:X2.cell? ⟨X.heap.size,1,none⟩=some (.pointer (some ⟨cb,0,none⟩)):=hS.cell (by go_simp)
  have hbl:X.heap.size<X2.heap.size:=by have:=hS.size;simp at this;omega
  have hW2:=(hW.on hE1).sm hS (by omega)
  have hXb:∀ b,Xc S2 b→b<X.heap.size:=fun b q=>(hW.cs.xlt q).2
  have hpX:pb<X.heap.size:=hW.cs.lt
  clear hS hE1 hW
  generalize X.heap.size=bb at b0 b1 hbl hXb hpX ⊢
  have hpk0:=hp0 k hk
  obtain⟨sl,hsl⟩:∃ x,selL p k=x:=⟨_,rfl⟩
  have hsll:=selL_le p k
  rw[hsl] at hW2 hsll
  have hCX:=hC.below hW2.bel
  have mv:=hW2.mv
  have hHX:=hH.below hW2.bel
  have stay:∀ Y,Below X2.heap.size X2 Y→p k=false→KeepsFrom w2.heap.size X2 Y∧∃ S',Wf w Y w.heap.size vb pb (.slice va ms.length vc) C (selL p (k+1)) S':=fun Y hb hno=>⟨KeepsFrom.of_below hb,S2,by rw[selL,hno,hsl];simp;exact hW2.on hb⟩
  refine wpIn_block ?_
  refine wpIn_seq_k fun K1 hK1=> ?_
  obtain⟨fk,hfk⟩:∃ b,decide (C 8 k=0)=b:=⟨_,rfl⟩
  rw[hfk] at hpk0
  cases fk with
  | true=>
    have hp:p k=true:=hpk0
    refine wpIn_region_plain (by rintro⟨_,_,h⟩;exact h) (by kernel_rfl) ?_
    go_wp2_with (go_at_call 29;refine(kFixed_q (Cs.hat hCX hk (by omega)) hfk).mono ?_;rintro e w11 ⟨rfl,hbq⟩)
    refine wpIn_cond_true rfl ?_
    have hCA:=hC.below hW2.bel
    have c0:=(hW2.on hbq).pc.cell
    have d0:=(hbq.cell (p:=⟨bb,0,none⟩) hbl).trans b0
    have d1:=(hbq.cell (p:=⟨bb,1,none⟩) hbl).trans b1
    refine wpIn_region_held_drew (S:=fun w'=>w'.cell? ⟨vb,0,none⟩=some (.pointer (some ⟨pb,0,none⟩))∧w'.cell? ⟨bb,0,none⟩=some (.int .i64 (k:Int))∧w'.cell? ⟨bb,1,none⟩=some (.pointer (some ⟨cb,0,none⟩))) (by kernel_rfl) (by rintro⟨_,_,h⟩;exact h) (by kernel_rfl) ?_ (fun hHeld=> ?_)
    · (try dsimp only)
      (first|(go_simp;done)|(go_keep;done))
    refine tq 0 hHeld ?_
    refine tq 1 hHeld ?_
    refine tc 2 fun K hK=> ?_
    (go_simp
     (go_at_call 33;refine(kBody (Cs.hat (hCA.below (Below.drew hbq)) hk (by omega))).mono ?_;rintro e w21 ⟨rfl,hx⟩)
     have hb21:Below X2.heap.size X2 w21:=(Below.drew hbq).trans (hx.mono (Below.drew hbq).size)
     have hW3:=hW2.on hb21
     have y0:=hW3.pc.cell
     have z0:=(hb21.cell (p:=⟨bb,0,none⟩) hbl).trans b0
     have z1:=(hb21.cell (p:=⟨bb,1,none⟩) hbl).trans b1
     (try go_wp2_with fail)
     refine tr hK (fun hHeld=> ?_)
     clear hK K)
    refine tc 3 fun K hK=> ?_
    (go_simp
     (go_at_call 32;refine(add_any pb sl.length (selC C sl) (fun i=>C i k) S2 _ hW3.cs (by omega)).mono ?_;rintro e w22 ⟨rfl,S3,hC3,hF3⟩)
     have hW4:=hW3.add k hmb hwp hvp hC3 hF3
     have y1:=hW4.pc.cell
     have hnb:¬ (bb=pb∨Xc S2 bb):=fun q=>q.elim (fun q=>by omega) (fun q=>by have:=hXb bb q;omega)
     have z2:=(hF3.cell (p:=⟨bb,0,none⟩) (Nat.lt_of_lt_of_le hbl hb21.size) hnb).trans z0
     have z3:=(hF3.cell (p:=⟨bb,1,none⟩) (Nat.lt_of_lt_of_le hbl hb21.size) hnb).trans z1
     (try go_wp2_with fail)
     refine tr hK (fun hHeld=> ?_)
     clear hK K)
    refine wpAnyH_done (by kernel_rfl) ?_ _
    go_wp2_with fail
    exact⟨(KeepsFrom.of_below hb21).trans (hF3.keeps _),S3,by rw[selL,if_pos hp,hsl];exact hW4⟩
  | false=>
    obtain⟨ck,hck⟩:∃ b,decide (k∈ms)=b:=⟨_,rfl⟩
    rw[hck] at hpk0
    cases ck with
    | true=>
      have hp:p k=true:=hpk0
      refine wpIn_region_plain (by rintro⟨_,_,h⟩;exact h) (by kernel_rfl) ?_
      go_wp2_with (first|(have _:=m11;go_at_call 31;refine(contains_any k _ (hHX.below hb11) hms _ hck).mono ?_;rintro e w12 ⟨rfl,hb12⟩)|(go_at_call 29;refine(kFixed_q (Cs.hat hCX hk (by omega)) hfk).mono ?_;rintro e w11 ⟨rfl,hb11⟩;have m11:=(hb11.cell (p:=⟨w.heap.size,0,none⟩) (cell_lt (a:=⟨w.heap.size,0,none⟩) mv)).trans mv;have e0:=(hb11.cell (p:=⟨bb,0,none⟩) hbl).trans b0;have e1:=(hb11.cell (p:=⟨bb,1,none⟩) hbl).trans b1))
      have hbq:=hb11.trans (hb12.mono hb11.size)
      refine wpIn_cond_true rfl ?_
      have hCA:=hC.below hW2.bel
      have c0:=(hW2.on hbq).pc.cell
      have d0:=(hbq.cell (p:=⟨bb,0,none⟩) hbl).trans b0
      have d1:=(hbq.cell (p:=⟨bb,1,none⟩) hbl).trans b1
      refine wpIn_region_held_drew (S:=fun w'=>w'.cell? ⟨vb,0,none⟩=some (.pointer (some ⟨pb,0,none⟩))∧w'.cell? ⟨bb,0,none⟩=some (.int .i64 (k:Int))∧w'.cell? ⟨bb,1,none⟩=some (.pointer (some ⟨cb,0,none⟩))) (by kernel_rfl) (by rintro⟨_,_,h⟩;exact h) (by kernel_rfl) ?_ (fun hHeld=> ?_)
      · (try dsimp only)
        (first|(go_simp;done)|(go_keep;done))
      refine tq 0 hHeld ?_
      refine tq 1 hHeld ?_
      refine tc 2 fun K hK=> ?_
      (go_simp
       (go_at_call 33;refine(kBody (Cs.hat (hCA.below (Below.drew hbq)) hk (by omega))).mono ?_;rintro e w21 ⟨rfl,hx⟩)
       have hb21:Below X2.heap.size X2 w21:=(Below.drew hbq).trans (hx.mono (Below.drew hbq).size)
       have hW3:=hW2.on hb21
       have y0:=hW3.pc.cell
       have z0:=(hb21.cell (p:=⟨bb,0,none⟩) hbl).trans b0
       have z1:=(hb21.cell (p:=⟨bb,1,none⟩) hbl).trans b1
       (try go_wp2_with fail)
       refine tr hK (fun hHeld=> ?_)
       clear hK K)
      refine tc 3 fun K hK=> ?_
      (go_simp
       (go_at_call 32;refine(add_any pb sl.length (selC C sl) (fun i=>C i k) S2 _ hW3.cs (by omega)).mono ?_;rintro e w22 ⟨rfl,S3,hC3,hF3⟩)
       have hW4:=hW3.add k hmb hwp hvp hC3 hF3
       have y1:=hW4.pc.cell
       have hnb:¬ (bb=pb∨Xc S2 bb):=fun q=>q.elim (fun q=>by omega) (fun q=>by have:=hXb bb q;omega)
       have z2:=(hF3.cell (p:=⟨bb,0,none⟩) (Nat.lt_of_lt_of_le hbl hb21.size) hnb).trans z0
       have z3:=(hF3.cell (p:=⟨bb,1,none⟩) (Nat.lt_of_lt_of_le hbl hb21.size) hnb).trans z1
       (try go_wp2_with fail)
       refine tr hK (fun hHeld=> ?_)
       clear hK K)
      refine wpAnyH_done (by kernel_rfl) ?_ _
      go_wp2_with fail
      exact⟨(KeepsFrom.of_below hb21).trans (hF3.keeps _),S3,by rw[selL,if_pos hp,hsl];exact hW4⟩
    | false=>
      have hp:p k=false:=hpk0
      refine wpIn_region_plain (by rintro⟨_,_,h⟩;exact h) (by kernel_rfl) ?_
      go_wp2_with (first|(have _:=m11;go_at_call 31;refine(contains_any k _ (hHX.below hb11) hms _ hck).mono ?_;rintro e w12 ⟨rfl,hb12⟩)|(go_at_call 29;refine(kFixed_q (Cs.hat hCX hk (by omega)) hfk).mono ?_;rintro e w11 ⟨rfl,hb11⟩;have m11:=(hb11.cell (p:=⟨w.heap.size,0,none⟩) (cell_lt (a:=⟨w.heap.size,0,none⟩) mv)).trans mv;have e0:=(hb11.cell (p:=⟨bb,0,none⟩) hbl).trans b0;have e1:=(hb11.cell (p:=⟨bb,1,none⟩) hbl).trans b1))
      refine wpIn_cond_false rfl ?_
      refine wpIn_skip ?_
      exact stay _ (hb11.trans (hb12.mono hb11.size)) hp
end Go.Proofs.YtbdbbdjifgpgeaaGreat
namespace Go.Proofs.YtbdbbdjifgpgeaaGreat
open Go.RowKit
set_option linter.unusedVariables false
set_option linter.unusedSimpArgs false
theorem selL_congr {p q:Nat→Bool}:∀ n,(∀ j,j<n→p j=q j)→selL p n=selL q n
 |0,_=>rfl
 |n+1,h=>by rw[selL,selL,selL_congr n (fun j hj=>h j (by omega)),h n (by omega)]
def gofP (fx:Nat→Bool) (L:Nat→Nat) (q:Int) (j:Nat):Bool:=fx j||decide (gnum fx L j=q)
theorem mem_gnum {fx:Nat→Bool} {L:Nat→Nat} (hT:Tops fx L) {i k:Nat} (hf:fstB fx L i=true) (hk:cntp (fstB fx L) i=k) (j:Nat):L j=i↔gnum fx L j=(k:Int):=by
 have hfi:fx i=false:=by
  unfold fstB at hf
  cases h:fx i with
  |false=>rfl
  |true=>rw[h] at hf;cases hf
 unfold gnum
 constructor
 · intro h
   have hx:fx j=false:=by rw[←hT.fx,h];exact hfi
   rw[if_neg (by rw[hx];simp),h,hk]
 · intro h
   by_cases hx:fx j=true
   · rw[if_pos hx] at h;omega
   · rw[if_neg hx] at h
     exact cntp_inj _ (hT.fst (by simpa using hx)) hf (by omega)
structure Fv (w A:World) (H fb gb cb:Nat) (q:Int) (v:Value) (ms:List Nat):Prop where
 bel:Below w.heap.size w A
 box:A.cell? ⟨fb,0,none⟩=some v
 nf:A.frozen? ⟨fb,0,none⟩=false
 gb:A.cell? ⟨gb,0,none⟩=some (.int .i64 q)
 own:HL A H cb v ms
 lo:w.heap.size≤fb
section
variable {w A A':World} {H fb gb cb:Nat} {q:Int} {v v':Value} {ms ms':List Nat}
theorem Fv.lt (h:Fv w A H fb gb cb q v ms):fb<A.heap.size:=cell_lt (a:=⟨fb,0,none⟩) h.box
theorem Fv.kx {B:Nat} (h:Fv w A H fb gb cb q v ms) (k:Kx B H A A') (hB:w.heap.size≤B) (h1:fb<B) (h2:gb<B):Fv w A' H fb gb cb q v ms:=
 ⟨h.bel.trans (k.below.mono hB),(k.below.cell (p:=⟨fb,0,none⟩) h1).trans h.box,(k.below.frozen (p:=⟨fb,0,none⟩) h1).trans h.nf,(k.below.cell (p:=⟨gb,0,none⟩) h2).trans h.gb,h.own.kx k (Nat.le_refl _),h.lo⟩
theorem Fv.sm {B:Nat} (h:Fv w A H fb gb cb q v ms) (k:Sm B A A') (hB:w.heap.size≤B):Fv w A' H fb gb cb q v ms:=
 ⟨h.bel.trans (k.below.mono hB),k.cell h.box,k.frozen h.box h.nf,k.cell h.gb,h.own.sm k,h.lo⟩
theorem Fv.put (h:Fv w A H fb gb cb q v ms) (hn:gb≠fb) (hH:fb<H) (ho:HL A H cb v' ms'):Fv w (A.setCell ⟨fb,0,none⟩ v') H fb gb cb q v' ms':=
 ⟨h.bel.setCell h.lo _,by rw[cset_map,h.box];rfl,by rw[World.frozen?_setCell];exact h.nf,by rw[cset_far (by simp;exact hn)];exact h.gb,ho.frame (X:=fun b=>b=fb) (Fr.setCell (X:=fun b=>b=fb) (p:=⟨fb,0,none⟩) rfl _) (fun b e z=>by have:=(ho.lt b e).1;omega),h.lo⟩
end
theorem groupOf_any (a:Option Addr) (n c:Nat) (U:Nat→Int) (q:Int) (M:Nat) (w:World) (h:Flat w a (n*12) U) (hok:bodsB n U=true) (hn:n≤12) (hM:(conL (colOf U) n).length=M*5) (hMk:M≤1000) (hq:0≤q)
 (sel:List Nat) (hsel:selL (gofP (fxU U) (lab (edg U (ofL (conL (colOf U) n))) M) q) n=sel):
 Calls Tryz.prog 5 #[.slice a n c,.int .i64 q] w fun e w'=>∃ a' c',e= .returned (.slice a' sel.length c')∧OutL w w' 36 12 a' sel.length c' (fun z=>selC (colOf U) sel (z % 12) (z/12)):=by
 have hset:=cset_map
 obtain⟨L,hL⟩:∃ L,(lab (edg U (ofL (conL (colOf U) n))) M)=L:=⟨_,rfl⟩
 have hT:Shut (Tops (fxU U) L):=hL▸lab_tops U _ M
 have hGr:∀ cb S w1,Cs w1 cb n (colOf U) S→ItG Tryz.prog 16 #[.pointer (some ⟨cb,0,none⟩)] (ColF cb n (fxU U)) (GrE cb n (fxU U) L) (cntp (fstB (fxU U) L) n) w1:=fun cb S w1 hC=>groups_any cb n U S M w1 hC hn hM hMk L (fun j=>by rw[←hL]) (fxU U)
 rw[hL] at hsel
 clear hL hM hMk
 have hsl:=selL_le (gofP (fxU U) L q) n
 rw[hsel] at hsl
 have hn20:n≤1048576:=by omega
 have hq0:¬ q<0:=by omega
 have hEg:Below w.heap.size w (w.alloc (Obj.cells #[.int .i64 q] 3)):=(Below.refl _ _).alloc (Nat.le_refl _) _
 have g0:(w.alloc (Obj.cells #[.int .i64 q] 3)).cell? ⟨w.heap.size,0,none⟩=some (.int .i64 q):=by go_simp
 have hzg:(w.alloc (Obj.cells #[.int .i64 q] 3)).heap.size=w.heap.size+1:=by simp
 have hfl:=h.below hEg
 refine calls_of_wp_marks Tryz.func5 rfl ?_
 simp only[Tryz.ntmps5,List.size_toArray,List.length_cons,List.length_nil,Nat.reduceAdd,Nat.reduceSub,Array.replicate_succ,Array.replicate_zero,List.push_toArray,List.append_toArray,List.nil_append,List.cons_append]
 go_wp2_with (go_at_call 15;refine(columnsOf_ok a n c U _ hfl hn20 hok).mono ?_;rintro e w1 ⟨cb,S,rfl,hcb,hC,hb1⟩;have g1:=(hb1.cell (p:=⟨w.heap.size,0,none⟩) (by show w.heap.size<(w.alloc (Obj.cells #[.int .i64 q] 3)).heap.size;omega)).trans g0)
 have hb01:Below w.heap.size w w1:=hEg.trans (hb1.mono (by omega))
 have hz1:w.heap.size+1≤w1.heap.size:=by have:=hb1.size;omega
 have hE1:Below w1.heap.size w1 (w1.alloc (Obj.cells #[.slice none 0 0] 46)):=(Below.refl _ _).alloc (Nat.le_refl _) _
 have x1:(w1.alloc (Obj.cells #[.slice none 0 0] 46)).cell? ⟨w1.heap.size,0,none⟩=some (.slice none 0 0):=by go_simp
 have f1:(w1.alloc (Obj.cells #[.slice none 0 0] 46)).frozen? ⟨w1.heap.size,0,none⟩=false:=by go_simp
 have hz2:(w1.alloc (Obj.cells #[.slice none 0 0] 46)).heap.size=w1.heap.size+1:=by simp
 have g2:=(hE1.cell (p:=⟨w.heap.size,0,none⟩) (by show w.heap.size<w1.heap.size;omega)).trans g1
 generalize (w1.alloc (Obj.cells #[.slice none 0 0] 46))=w2 at hE1 x1 f1 hz2 g2 ⊢
 have hG2:=hGr cb S w2 (hC.below hE1)
 have hCA:∀ A,Below w1.heap.size w1 A→Cs A cb n (colOf U) S:=fun A hb=>hC.below hb
 clear hGr g0 g1 hzg hEg hfl hb1
 refine wp_range_outG (gf:=16) (bound:= #[.pointer (some ⟨cb,0,none⟩)]) rfl groups_enters hG2 (fun H k args A hE=>by obtain⟨i,v,_,_,_,rfl,_⟩:=hE;rfl)
  (fun H k A=>w2.heap.size≤H∧∃ v ms,Fv w1 A H w1.heap.size w.heap.size cb q v ms∧ms.length≤12∧∀ j,j∈ms↔j<n∧gnum (fxU U) L j=q∧q<(k:Int)) ?hI ?hIs ?hcol ?h0 ?round ?done
 case hI=>rintro H k A B' ⟨h0,v,ms,h1,h2⟩ hk;exact⟨h0,v,ms,h1.kx hk (by omega) (by omega) (by omega),h2⟩
 case hIs=>rintro H k A B' ⟨h0,v,ms,h1,h2⟩ hs;exact⟨h0,v,ms,h1.sm hs (by omega),h2⟩
 case hcol=>rintro H k A ⟨_,v,ms,h1,h2⟩;exact⟨_,_,hCA A h1.bel,fun j _=>rfl⟩
 case h0=>
  intro W0 hb hz
  exact⟨by omega,.slice none 0 0,[],⟨hE1.trans (hb.mono (by omega)),(hb.cell (p:=⟨w1.heap.size,0,none⟩) (by show w1.heap.size<w2.heap.size;omega)).trans x1,(hb.frozen (p:=⟨w1.heap.size,0,none⟩) (by show w1.heap.size<w2.heap.size;omega)).trans f1,(hb.cell (p:=⟨w.heap.size,0,none⟩) (by show w.heap.size<w2.heap.size;omega)).trans g2,HL.nil _ _ _,Nat.le_refl _⟩,by simp,fun j=>⟨(fun z=>by cases z),(fun z=>by omega)⟩⟩
 case round=>
  rintro lr H k W args hlr1 hlr2 hWz ⟨hHz,v,ms,hV1,hml,hmem⟩ hkk ⟨i,vv,hi,hfi,hck,rfl,hHL⟩
  clear hG2 x1 f1 g2
  obtain⟨va,vc,rfl⟩:=hHL.is
  simp only[List.zip_toArray,List.zip_cons_cons,List.zip_nil_left,List.foldl_toArray,List.foldl_cons,List.foldl_nil,List.setIfInBounds_toArray,List.set_cons_succ,List.set_cons_zero]
  refine wpIn_seq_k fun K1 hK1=> ?_
  refine wpIn_region_plain (by rintro⟨_,_,h⟩;exact h) (by kernel_rfl) ?_
  go_wp2
  refine wpIn_region_plain (by rintro⟨_,_,h⟩;exact h) (by kernel_rfl) ?_
  go_wp2
  refine⟨KeepsFrom.refl _ _,fun W2 hS hKc hr=> ?_⟩
  have hV2:=hV1.sm hS (by omega)
  have hHL2:=hHL.sm hS
  have hKc2:Kc (w2.heap.size+2) H W W2:=hKc _ _ hlr2
  clear hV1 hHL hKc hS hr
  have x0:=hV2.box
  have xf:=hV2.nf
  have y0:=hV2.gb
  refine wpIn_block ?_
  refine wpIn_seq_k fun K2 hK2=> ?_
  refine wpIn_region_plain (by rintro⟨_,_,h⟩;exact h) (by kernel_rfl) ?_
  go_wp2
  obtain⟨be,hbe⟩:∃ b,((k:Int)==q)=b:=⟨_,rfl⟩
  cases be with
  | true=>
    have hkq:(k:Int)=q:=beq_iff_eq.1 hbe
    refine wpIn_cond_true (by simp[go_sem,hbe]) ?_
    refine wpIn_region_plain (by rintro⟨_,_,h⟩;exact h) (by kernel_rfl) ?_
    have hP:=hV2.put (by omega) (by omega) hHL2
    go_wp2
    refine⟨(KeepsOthers.setCell _ _ _).from _,⟨hHz,_,_,hP,Nat.le_trans (memL_le L i n) hn,fun j=> ?_⟩,hKc2.trans (Kc.fr (Fr.setCell (X:=fun b=>b=w1.heap.size) (p:=⟨w1.heap.size,0,none⟩) rfl _) (fun b e=> .inl (by omega)))⟩
    rw[memL_mem,mem_gnum hT.out hfi hck j]
    constructor
    · rintro⟨z1,z2⟩;exact⟨z1,by omega,by omega⟩
    · rintro⟨z1,z2,_⟩;exact⟨z1,by omega⟩
  | false=>
    have hkq:(k:Int)≠q:=beq_eq_false_iff_ne.1 hbe
    refine wpIn_cond_false (by simp[go_sem,hbe]) ?_
    refine wpIn_skip ?_
    refine⟨KeepsFrom.refl _ _,⟨hHz,v,ms,hV2,hml,fun j=> ?_⟩,hKc2⟩
    rw[hmem j]
    constructor
    · rintro⟨z1,z2,z3⟩;exact⟨z1,z2,by omega⟩
    · rintro⟨z1,z2,z3⟩;exact⟨z1,z2,by omega⟩
 case done=>
  rintro D H W hD ⟨h0,v,ms,h1,hml,hmem⟩ hK
  have hbx:=h1.box
  have hsel2:Shut (selL (fun j=>fxU U j||decide (j∈ms)) n=sel):=by
   show _=_
   rw[←hsel]
   refine selL_congr n fun j hj=> ?_
   unfold gofP
   cases hx:fxU U j with
   |true=>rfl
   | false=>
     have:(j∈ms)↔gnum (fxU U) L j=q:=by
      rw[hmem j]
      constructor
      · exact fun z=>z.2.1
      · intro z
        refine⟨hj,z,?_⟩
        have hg:=cntp_in (fstB (fxU U) L) (show L j<n by have:=hT.out.le j;omega) (hT.out.fst hx)
        unfold gnum at z
        rw[if_neg (by rw[hx];simp)] at z
        omega
     rw[decide_eq_decide.2 this]
  have hDl:D<W.heap.size:=(Array.getElem?_eq_some_iff.1 hK).1
  go_wp2_with (first
   |(have _:=hb11;go_at_call 18;refine(list_any pb sel.length (selC (colOf U) sel) S11 _ hC11 (by omega)).mono ?_;rintro e w12 ⟨a12,c12,rfl,hO12⟩)
   |(go_at_call 17;refine(withFixed_any cb n (colOf U) S H v ms _ (hCA _ h1.bel) hn h1.own hml (fun j=>fxU U j||decide (j∈ms)) (fun j _=>rfl)).mono ?_;rintro e w11 ⟨pb,S11,rfl,hC11,hb11⟩;rw[hsel2.out] at hC11))
  have hK2:=(hO12.bel.block D (Nat.lt_of_lt_of_le hDl hb11.size)).trans ((hb11.block D hDl).trans hK)
  refine marks_ret (B:=w2.heap.size) hD rfl hK2 fun W' hS=>⟨.slice a12 sel.length c12,?_,a12,c12,rfl,?_,?_⟩
  · simp[results,Tryz.results5,go_sem, *]
  · have k1:=hb01.trans ((h1.bel.trans ((hb11.trans (hO12.bel.mono hb11.size)).mono h1.bel.size)).mono hb01.size)
    exact k1.trans (hS.below.mono (by omega))
  · exact(hO12.own.sm hS).base (by have:=hb11.size;have:=h1.bel.size;omega)
end Go.Proofs.YtbdbbdjifgpgeaaGreat
