/- Texts of a proof. -/
import Derived.Test.YtcalhcfinkhemaaGreatDoorB12
import Derived.Test.YtcalhcfinkhemaaGreatDoorB7
import Derived.Test.YtcalhcfinkhemaaGreatDoorB4
import Derived.LoopNIn
import Derived.LoopIn
import Derived.OwnWalkIn
import Derived.Deep.RegionHeld3
import Derived.Deep.DeepCutAuto
import Derived.Test.YtcalhcfinkhemaaGreatDoorB5
import Derived.Test.YtcalhcfinkhemaaGreatDoorB14
import Derived.Test.YtcalhcfinkhemaaGreatDoorB1
set_option maxHeartbeats 16000000
set_option maxRecDepth 20000
namespace Go.Proofs.YtcalhcfinkhemaaGreatDoor
open Go.RowKit
set_option linter.unusedVariables false
set_option linter.unusedSimpArgs false
theorem keepL {w w':World} {p:Addr} {v:Value} (hb:Below w.heap.size w w') (h:w.cell? p=some v):w'.cell? p=some v:=(hb.cell (cell_lt h)).trans h
theorem kLv1 {cb n k:Nat} {V:Nat→Int} {G:Nat→Nat} {w:World} (h:HAt w cb n k V G) (b:Bool) (e:(!decide (V 8=0)&& !decide (V 11=8))=b):
 Calls Tryz.prog 40 #[hdk cb k] w fun e w'=>e= .returned (.bool b)∧Below w.heap.size w w':=by
 have hset:=cset_map
 have hE:Below w.heap.size w (w.alloc (.cells #[.int .i64 (k:Int),.pointer (some ⟨cb,0,none⟩)] 59)):=(Below.refl _ _).alloc (Nat.le_refl _) _
 have h':=h.below hE
 have x0:(w.alloc (.cells #[.int .i64 (k:Int),.pointer (some ⟨cb,0,none⟩)] 59)).cell? ⟨w.heap.size,0,none⟩=some (.int .i64 (k:Int)):=by go_simp
 have x1:(w.alloc (.cells #[.int .i64 (k:Int),.pointer (some ⟨cb,0,none⟩)] 59)).cell? ⟨w.heap.size,1,none⟩=some (.pointer (some ⟨cb,0,none⟩)):=by go_simp
 subst e
 cases h8:decide (V 8=0) with
 | true=>
   go_enter Tryz.func40,Tryz.ntmps40
   go_wp2_with (go_at_call 58;refine(kFixed h').mono ?_;rw[h8];rintro e w1 ⟨rfl,hb1⟩)
   go_ret
   exact⟨rfl,hE.trans (hb1.mono hE.size)⟩
 | false=>
   go_enter Tryz.func40,Tryz.ntmps40
   go_wp2_with (first
    |(have _:=hb1;go_at_call 32;refine(kSleeps (h'.below hb1)).mono ?_;rintro e w2 ⟨rfl,hb2⟩)
    |(go_at_call 58;refine(kFixed h').mono ?_;rw[h8];rintro e w1 ⟨rfl,hb1⟩;have y0:=keepL hb1 x0;have y1:=keepL hb1 x1))
   go_ret
   exact⟨rfl,(hE.trans (hb1.mono hE.size)).trans (hb2.mono (hE.trans (hb1.mono hE.size)).size)⟩
theorem opIn_w {P:Program} {Q:Exit→Act→World→Prop} {l0:Nat} {o:Oper} {a:Act} {w:World} {rest:List Oper} {ops:Array Oper} (hw:Region.wanted o (yielded ops a.tmps)=true) (hd:∀ c,o.op≠ .defer c)
 (h:∀ K,(∀ a w,wpListIn (Fence.wide.inRound l0) 0 P ops Q rest a w→K a w)→o.wp P a w K Q):wpListIn (Fence.wide.inRound l0) 0 P ops Q (o::rest) a w:=by
 unfold wpListIn
 rw[if_pos hw]
 exact opIn_of hd (h _ (fun _ _ h=>h))
theorem opIn_s {P:Program} {Q:Exit→Act→World→Prop} {l0:Nat} {o:Oper} {a:Act} {w:World} {rest:List Oper} {ops:Array Oper} (hw:Region.wanted o (yielded ops a.tmps)=false)
 (h:wpListIn (Fence.wide.inRound l0) 0 P ops Q rest (a.put o.dst undef) w):wpListIn (Fence.wide.inRound l0) 0 P ops Q (o::rest) a w:=by
 unfold wpListIn
 rw[if_neg (by rw[hw];decide)]
 exact⟨fun _ _=>trivial,h⟩
theorem opIn_y1 {P:Program} {Q:Exit→Act→World→Prop} {l0 l:Nat} {o:Oper} {a:Act} {w:World} {rest:List Oper} {ops:Array Oper} {x p:Operand} {ts:Array TypeId} {vp:Value} {R:Ending→World→Prop}
 (hw:Region.wanted o (yielded ops a.tmps)=true) (ho:o.op= .call {callee:= .value x,args:= #[p],argTypes:=ts}) (hx:a.eval x= .func (.yield l) #[] #[]) (hp:a.eval p=vp)
 (hY:YieldAt Fence.wide 0 P l #[vp] w R) (hK:∀ e w',R e w'→∃ v,e= .returned v∧wpListIn (Fence.wide.inRound l0) 0 P ops Q rest (a.put o.dst v) w'):wpListIn (Fence.wide.inRound l0) 0 P ops Q (o::rest) a w:=by
 obtain⟨fn,tmps,assign,body,hy,hR⟩:=hY
 obtain⟨dst,op,ty,pos,after,guard⟩:=o
 simp only at ho
 subst ho
 unfold wpListIn
 rw[if_pos hw]
 unfold Oper.wpIn
 refine⟨fun _ _=>trivial,?_⟩
 rw[Oper.semAt_eq _ _ _ (by intro c e;cases e)]
 have e:(execOp a.eval {dst:=dst,op:= .call {callee:= .value x,args:= #[p],argTypes:=ts},type:=ty,pos:=pos,after:=after,guard:=guard}).run P w= .ok (.round l fn tmps assign body) w:=by
  have hm:(#[p]:Array Operand).map a.eval= #[vp]:=by simp[hp]
  simp only[execOp,resolve,hx,hm]
  simp[go_sem,invoke,hy]
 rw[e,Oper.uponIn_round]
 refine⟨(fun e=>by cases e),hR.mono ?_⟩
 intro e w' h
 obtain⟨v,rfl,h2⟩:=hK e w' h
 exact h2
def ColM (mb cb n:Nat) (U:Nat→Int) (A:World):Prop:=A.cell? ⟨mb,0,none⟩=some (.pointer (some ⟨cb,0,none⟩))∧∃ S,Cs A cb n (colOf U) S
theorem live_enters:∀ args w,(callFunc 142 args).run Tryz.prog w= .ok (.enter 142 args) w:=enters_of Tryz.func142 (by kernel_rfl) rfl
section
attribute [local go_sem] Oper.semAt_some
theorem live_it (mb cb n:Nat) (w:World) (hn:n≤12):ItV Tryz.prog 142 #[.pointer (some ⟨mb,0,none⟩)] (fun k=> #[hdk cb k]) (ColM mb cb n) n w:=by
 intro l J U0 W hbW hJ hc hskip hY h0
 have hset:=cset_map
 refine callsIn_wide.2 (calls_of_wp_marks Tryz.func142 rfl ?_)
 simp only[Tryz.ntmps142,List.size_toArray,List.length_cons,List.length_nil,Nat.reduceAdd,Nat.reduceSub,Array.replicate_succ,Array.replicate_zero,List.push_toArray,List.append_toArray,List.nil_append,List.cons_append]
 obtain⟨m0,S0,hC0⟩:=hc _ _ _ h0
 have hE0:Below W.heap.size W (W.alloc (Obj.cells #[.func (.yield l) #[] #[]] 106)):=(Below.refl _ _).alloc (Nat.le_refl _) _
 have y0:(W.alloc (Obj.cells #[.func (.yield l) #[] #[]] 106)).cell? ⟨W.heap.size,0,none⟩=some (.func (.yield l) #[] #[]):=by go_simp
 have hJ0:=hJ _ _ _ _ h0 (Sm.of_below hE0 (Nat.le_refl _))
 have hC1:=hC0.below hE0
 have m1:=keepL hE0 m0
 go_upto_region 1 with fail
 have hyl:W.heap.size<(W.alloc (Obj.cells #[.func (.yield l) #[] #[]] 106)).heap.size:=by simp
 generalize (W.alloc (Obj.cells #[.func (.yield l) #[] #[]] 106))=w2 at hE0 y0 hJ0 hC1 m1 hyl ⊢
 obtain⟨ad,cc,hS0⟩:=(hC1.own 0 (by omega)).is
 have hd0:=hC1.hd 0 (by omega)
 rw[hS0] at hd0
 have hz:=hE0.size
 generalize W.heap.size=yb at*
 go_wp2
 refine wp_range_out (gf:=39) (bound:= #[.pointer (some ⟨cb,0,none⟩)]) rfl each_enters (each_it cb n cc ad w2 hC1.lt hd0 (by omega)) (fun _=>rfl) (fun k A=>(∃ U,J k U A)∧A.cell? ⟨yb,0,none⟩=some (.func (.yield l) #[] #[])∧w2.heap.size≤A.heap.size) (fun _ _=>False) ?_ (fun _ _ _ h _=>h) ⟨⟨_,hJ0⟩,y0,Nat.le_refl _⟩ ?round ?done (fun _ _ _ _ h _=>h.elim)
 · rintro i A A' ⟨⟨U,h1⟩,h2,h3⟩ hs
   exact⟨⟨U,hJ _ _ _ _ h1 ⟨hs.below.mono hz,hs.cells⟩⟩,hs.cell h2,Nat.le_trans h3 hs.size⟩
 case done=>
  rintro D A hD ⟨⟨U,h1⟩,h2,h3⟩ hK
  go_wp2
  refine marks_ret (B:=yb) (by omega) rfl hK fun A' hS=>⟨_,results_none rfl _ _ _,⟨_,rfl⟩,U,?_⟩
  exact hJ _ _ _ _ h1 hS
 case round=>
  rintro l0 k A hl0 ⟨⟨U,hJk⟩,hyb,hA2⟩ hk
  clear hJ0 hC1 hC0 m0 m1 h0 y0 hd0 hS0 hE0
  simp only[List.zip_toArray,List.zip_cons_cons,List.zip_nil_left,List.foldl_toArray,List.foldl_cons,List.foldl_nil,List.setIfInBounds_toArray,List.set_cons_succ,List.set_cons_zero]
  refine wpIn_region_plain (by rintro⟨_,_,h⟩;exact h) (by kernel_rfl) ?_
  go_wp2
  refine⟨(KeepsOthers.alloc _ _).from _,fun A2 hS hr=> ?_⟩
  clear hr
  have hE1:Below A.heap.size A (A.alloc (Obj.cells #[.int .i64 (k:Int),.pointer (some ⟨cb,0,none⟩)] 59)):=(Below.refl _ _).alloc (Nat.le_refl _) _
  have v0:(A.alloc (Obj.cells #[.int .i64 (k:Int),.pointer (some ⟨cb,0,none⟩)] 59)).cell? ⟨A.heap.size,0,none⟩=some (.int .i64 (k:Int)):=by go_simp
  have v1:(A.alloc (Obj.cells #[.int .i64 (k:Int),.pointer (some ⟨cb,0,none⟩)] 59)).cell? ⟨A.heap.size,1,none⟩=some (.pointer (some ⟨cb,0,none⟩)):=by go_simp
  generalize (A.alloc (Obj.cells #[.int .i64 (k:Int),.pointer (some ⟨cb,0,none⟩)] 59))=A1 at hE1 v0 v1 hS
  have hz2:w2.heap.size≤A2.heap.size:=Nat.le_trans hA2 (Nat.le_trans hE1.size hS.size)
  have hJ2:=hJ _ _ _ _ (hJ _ _ _ _ hJk ((Sm.of_below hE1 (by omega)))) ⟨hS.below.mono hz,hS.cells⟩
  have hyb2:=hS.cell (keepL hE1 hyb)
  replace v0:=hS.cell v0
  replace v1:=hS.cell v1
  clear hJk hyb hS hE1
  generalize A.heap.size=ba at v0 v1 ⊢
  have hbal:ba<A2.heap.size:=cell_lt (a:=⟨ba,0,none⟩) v0
  obtain⟨-,S2,hC2⟩:=hc _ _ _ hJ2
  have hat:=hC2.hat hk (by omega)
  obtain⟨lb,hlb⟩:∃ b,lvK U k=b:=⟨_,rfl⟩
  have hlb2:(!decide (colOf U 8 k=0)&& !decide (colOf U 11 k=8))=lb:=hlb
  refine wpIn_block ?_
  refine wpIn_seq_k fun K1 hK1=> ?_
  refine wpIn_region_list ?_
  refine opIn_w rfl (fun c e=>by cases e) fun K hK=> ?_
  go_simp
  refine hK _ _ ?_
  clear hK K
  refine opIn_w rfl (fun c e=>by cases e) fun K hK=> ?_
  go_simp
  (go_at_call 40;refine(kLv1 hat lb hlb2).mono ?_;rintro e w3 ⟨rfl,hb3⟩)
  refine hK _ _ ?_
  clear hK K
  refine opIn_w rfl (fun c e=>by cases e) fun K hK=> ?_
  go_simp
  refine hK _ _ ?_
  clear hK K
  have u0:=keepL hb3 v0
  have u1:=keepL hb3 v1
  have hyb3:=keepL hb3 hyb2
  have hJ3:=hJ _ _ _ _ hJ2 (Sm.of_below hb3 (by omega))
  have hz3:=hb3.size
  cases lb with
  | true=>
    have hyy:=hY _ _ _ hJ3 hk hlb
    refine opIn_w rfl (fun c e=>by cases e) fun K hK=> ?_
    go_simp
    refine hK _ _ ?_
    clear hK K
    refine opIn_w rfl (fun c e=>by cases e) fun K hK=> ?_
    go_simp
    refine hK _ _ ?_
    clear hK K
    refine opIn_y1 rfl rfl rfl rfl hyy ?_
    rintro e X3 ⟨rfl,⟨U',hJ4⟩,hKF⟩
    refine⟨_,rfl,?_⟩
    refine opIn_w rfl (fun c e=>by cases e) fun K hK=> ?_
    go_simp
    refine hK _ _ ?_
    clear hK K
    refine opIn_w rfl (fun c e=>by cases e) fun K hK=> ?_
    go_simp
    refine hK _ _ ?_
    clear hK K
    refine wpListIn_nil ?_
    refine hK1 _ _ ?_
    refine wpIn_cond_false rfl ?_
    refine wpIn_skip ?_
    have hk4:=hKF.others.size
    exact⟨(KeepsFrom.of_below hb3).trans ⟨hk4,fun q o hq h1 h2=>hKF.others.same q o (by omega) h1 h2⟩,⟨U',hJ4⟩,hKF.cell hyb3 (Nat.le_refl _) trivial,by omega⟩
  | false=>
    refine opIn_s rfl ?_
    refine opIn_s rfl ?_
    refine opIn_s rfl ?_
    refine opIn_s rfl ?_
    refine opIn_w rfl (fun c e=>by cases e) fun K hK=> ?_
    go_simp
    refine hK _ _ ?_
    clear hK K
    refine wpListIn_nil ?_
    refine hK1 _ _ ?_
    refine wpIn_cond_false rfl ?_
    refine wpIn_skip ?_
    exact⟨KeepsFrom.of_below hb3,⟨U,hskip _ _ _ hJ3 hk hlb⟩,hyb3,by omega⟩
end
end Go.Proofs.YtcalhcfinkhemaaGreatDoor
namespace Go.Proofs.YtcalhcfinkhemaaGreatDoor
open Go.RowKit
set_option linter.unusedVariables false
set_option linter.unusedSimpArgs false
def tcH (C:Nat→Nat→Int) (i k:Nat):(Int×Int×Int)×Bool:=toT (C 1 i) (C 2 i) (C 3 i) (C 4 i) (C 5 i) (C 1 k) (C 2 k) (C 3 k) (C 4 k) (C 5 k)
def conB (C:Nat→Nat→Int) (i k:Nat):Bool:=decide (i<k)&&(!(decide (C 8 i=0)&&decide (C 8 k=0))&&(tcH C i k).2)
def conOne (C:Nat→Nat→Int) (i k:Nat):List Int:=if conB C i k=true then [(i:Int),(k:Int),(tcH C i k).1.1,(tcH C i k).1.2.1,(tcH C i k).1.2.2] else []
def conIn (C:Nat→Nat→Int) (i:Nat):Nat→List Int
 |0=>[]
 |k+1=>conIn C i k++conOne C i k
def conOut (C:Nat→Nat→Int) (n:Nat):Nat→List Int
 |0=>[]
 |i+1=>conOut C n i++conIn C i n
def conL (C:Nat→Nat→Int) (n:Nat):List Int:=conOut C n n
theorem conOne_len (C:Nat→Nat→Int) (i k:Nat):∃ m,(conOne C i k).length=m*5∧m≤1:=by
 unfold conOne
 split
 · exact⟨1,rfl,Nat.le_refl _⟩
 · exact⟨0,rfl,by omega⟩
theorem conIn_len (C:Nat→Nat→Int) (i:Nat):∀ k,∃ m,(conIn C i k).length=m*5∧m≤k
 |0=>⟨0,rfl,Nat.le_refl _⟩
 | k+1=>by
   obtain⟨m,h1,h2⟩:=conIn_len C i k
   obtain⟨m',h3,h4⟩:=conOne_len C i k
   exact⟨m+m',by rw[conIn,List.length_append,h1,h3];omega,by omega⟩
theorem conOut_len (C:Nat→Nat→Int) (n:Nat):∀ i,∃ m,(conOut C n i).length=m*5∧m≤i*n
 |0=>⟨0,rfl,by omega⟩
 | i+1=>by
   obtain⟨m,h1,h2⟩:=conOut_len C n i
   obtain⟨m',h3,h4⟩:=conIn_len C i n
   exact⟨m+m',by rw[conOut,List.length_append,h1,h3];omega,by rw[Nat.succ_mul];omega⟩
theorem conB_ge {C:Nat→Nat→Int} {i k:Nat} (h:k≤i):conB C i k=false:=by
 unfold conB
 rw[decide_eq_false (by omega)]
 rfl
theorem conOne_no {C:Nat→Nat→Int} {i k:Nat} (h:conB C i k=false):conOne C i k=[]:=by
 unfold conOne
 rw[h]
 rfl
theorem conOne_yes {C:Nat→Nat→Int} {i k:Nat} {X Y D:Int} (h:conB C i k=true) (e:tcH C i k=((X,Y,D),true)):conOne C i k=[(i:Int),(k:Int),X,Y,D]:=by
 unfold conOne
 rw[if_pos h,e]
theorem conB_yes {C:Nat→Nat→Int} {i k:Nat} {X Y D:Int} (h:i<k) (hf:¬ (C 8 i=0∧C 8 k=0)) (e:tcH C i k=((X,Y,D),true)):conB C i k=true:=by
 unfold conB
 rw[e,decide_eq_true h]
 by_cases e1:C 8 i=0
 · have e2:¬ C 8 k=0:=fun q=>hf ⟨e1,q⟩
   simp[e2]
 · simp[e1]
theorem conIn_ge {C:Nat→Nat→Int} (i:Nat):∀ k,k≤i+1→conIn C i k=[]
 |0,_=>rfl
 |k+1,h=>by rw[conIn,conIn_ge i k (by omega),conOne_no (conB_ge (by omega))];rfl
structure LsAt (w2 W:World) (lb t k:Nat) (a:Option Addr) (m c:Nat) (l:List Int):Prop where
 fr:Fr (fun b=>b=lb) w2 W
 box:W.cell? ⟨lb,0,none⟩=some (.slice a m c)
 nf:W.frozen? ⟨lb,0,none⟩=false
 len:l.length=m*k
 own:OwnL W w2.heap.size t k (.slice a m c) m (ofL l)
theorem Fr.sm {X:Nat→Prop} {w2 W W':World} {B:Nat} (h:Fr X w2 W) (hs:Sm B W W') (hB:w2.heap.size≤B):Fr X w2 W':=
 ⟨hs.below.os.trans h.os,hs.below.tape.trans h.tape,hs.below.output.trans h.output,Nat.le_trans h.size hs.size,fun k hk hn=>(hs.below.block k (by omega)).trans (h.block k hk hn),fun k o hk ho=>(hs.below.block k (by have:=(Array.getElem?_eq_some_iff.1 hk).1;omega)).trans (h.kind k o hk ho)⟩
theorem LsAt.sm {w2 W W':World} {B lb t k m c:Nat} {a:Option Addr} {l:List Int} (h:LsAt w2 W lb t k a m c l) (hs:Sm B W W') (hB:w2.heap.size≤B):LsAt w2 W' lb t k a m c l:=
 ⟨h.fr.sm hs hB,hs.cell h.box,hs.frozen h.box h.nf,h.len,h.own.sm hs⟩
theorem LsAt.below {w2 W W':World} {lb t k m c:Nat} {a:Option Addr} {l:List Int} (h:LsAt w2 W lb t k a m c l) (hs:Below W.heap.size W W'):LsAt w2 W' lb t k a m c l:=h.sm (Sm.of_below hs (Nat.le_refl _)) h.fr.size
theorem LsAt.start {w2:World} {lb t k:Nat} (h:w2.cell? ⟨lb,0,none⟩=some (.slice none 0 0)) (hf:w2.frozen? ⟨lb,0,none⟩=false):LsAt w2 w2 lb t k none 0 0 []:=
 ⟨Fr.refl _ _,h,hf,by simp,OwnL.nil _ _ _ _ _⟩
theorem LsAt.keeps {w2 W W1:World} {lb t k m c m' c':Nat} {a a':Option Addr} {l:List Int} (h:LsAt w2 W lb t k a m c l) (hlb:lb<w2.heap.size) (hg:W.grownBy W1 (Value.slice a m c).ownBlock):
 Fr (fun b=>b=lb∨(Value.slice a m c).ownBlock=some b) W (W1.setCell ⟨lb,0,none⟩ (.slice a' m' c')):=
 (Fr.grown hg (fun b hb=> .inr hb) h.own.isCells).trans (Fr.setCell (.inl rfl) _)
theorem LsAt.push {w2 W W1:World} {lb t k m c:Nat} {a a':Option Addr} {c':Nat} {l x:List Int} (h:LsAt w2 W lb t k a m c l) (hlb:lb<w2.heap.size) (hx:x.length=k) (hg:W.grownBy W1 (Value.slice a m c).ownBlock)
 (ho:OwnL W1 w2.heap.size t k (.slice a' (m+1) c') (m+1) (cat (m*k) (ofL l) (ofL x))):LsAt w2 (W1.setCell ⟨lb,0,none⟩ (.slice a' (m+1) c')) lb t k a' (m+1) c' (l++x):=by
 have hne:∀ b,(Value.slice a m c).ownBlock=some b→b≠lb:=fun b hb=>by have:=(h.own.lt b hb).1;omega
 have hl:lb<W.heap.size:=Nat.lt_of_lt_of_le hlb h.fr.size
 have hb1:W1.heap[lb]? =W.heap[lb]? :=hg.block lb hl (fun e=>hne lb e.symm rfl)
 refine⟨(h.fr.trans' (Fr.grown (X:=fun b=>(Value.slice a m c).ownBlock=some b) hg (fun b hb=>hb) h.own.isCells) (fun i hi e=>by have:=(h.own.lt i e).1;omega)).trans (Fr.setCell (X:=fun b=>b=lb) rfl _),cset_same ((World.cell?_of_block (a:=⟨lb,0,none⟩) hb1).trans h.box),?_,by rw[List.length_append,h.len,hx,Nat.succ_mul],?_⟩
 · rw[World.frozen?_setCell];exact(World.frozen?_of_block (a:=⟨lb,0,none⟩) hb1).trans h.nf
 · rw[←cat_ofL,h.len]
   refine OwnL.frame (X:=fun b=>b=lb) ho (Fr.setCell (X:=fun b=>b=lb) rfl _) (fun b hb e=> ?_)
   have:=(ho.lt b hb).1
   omega
theorem _root_.Go.KeepsFrom.sm {B B':Nat} {W X X':World} (h:KeepsFrom B W X) (hs:Sm B' X X') (hB:W.heap.size≤B'):KeepsFrom B W X':=
 ⟨Nat.le_trans h.size hs.size,fun k o hk h0 ho=>(hs.below.block k (by have:=(Array.getElem?_eq_some_iff.1 h0).1;omega)).trans (h.same k o hk h0 ho)⟩
structure Rg (w:World) (rb g m c cb:Nat) (C:Nat→Int) (j:Nat):Prop where
 c0:w.cell? ⟨rb,0,none⟩=some (.slice (some ⟨g,0,none⟩) m c)
 c1:w.cell? ⟨rb,1,none⟩=some (.int .i64 (j:Int))
 f1:w.frozen? ⟨rb,1,none⟩=false
 cl:∀ q,q<m→w.cell? ⟨g,q*7,none⟩=some (.int .i64 (C (q*5+2)))∧w.cell? ⟨g,q*7+1,none⟩=some (.int .i64 (C (q*5+3)))∧w.cell? ⟨g,q*7+2,none⟩=some (.int .i64 (C (q*5+4)))∧w.cell? ⟨g,q*7+3,none⟩=some (.int .i64 (C (q*5)))∧w.cell? ⟨g,q*7+4,none⟩=some (.pointer (some ⟨cb,0,none⟩))∧w.cell? ⟨g,q*7+5,none⟩=some (.int .i64 (C (q*5+1)))∧w.cell? ⟨g,q*7+6,none⟩=some (.pointer (some ⟨cb,0,none⟩))
 gl:g<w.heap.size
 rl:rb<w.heap.size
 ne:rb≠g
theorem Rg.fr {X:Nat→Prop} {w w':World} {rb g m c cb:Nat} {C:Nat→Int} {j:Nat} (h:Rg w rb g m c cb C j) (hF:Fr X w w') (h1:¬ X rb) (h2:¬ X g):Rg w' rb g m c cb C j:=
 have k:=fun o=>hF.cell (p:=⟨g,o,none⟩) h.gl h2
 ⟨(hF.cell (p:=⟨rb,0,none⟩) h.rl h1).trans h.c0,(hF.cell (p:=⟨rb,1,none⟩) h.rl h1).trans h.c1,(hF.frozen (p:=⟨rb,1,none⟩) h.rl h1).trans h.f1,fun q hq=>by
   obtain⟨r0,r1,r2,r3,r4,r5,r6⟩:=h.cl q hq
   exact⟨(k _).trans r0,(k _).trans r1,(k _).trans r2,(k _).trans r3,(k _).trans r4,(k _).trans r5,(k _).trans r6⟩,Nat.lt_of_lt_of_le h.gl hF.size,Nat.lt_of_lt_of_le h.rl hF.size,h.ne⟩
theorem Fr.put {b:Nat} {w w':World} (h:Fr (fun x=>x=b) w w') (o:Nat) (v:Value):Fr (fun x=>x=b) w (w'.setCell ⟨b,o,none⟩ v):=h.trans (Fr.setCell (X:=fun x=>x=b) rfl v)
theorem Rg.below {w w':World} {rb g m c cb:Nat} {C:Nat→Int} {j:Nat} (h:Rg w rb g m c cb C j) (hb:Below w.heap.size w w'):Rg w' rb g m c cb C j:=h.fr (Fr.of_below (X:=fun _=>False) hb) id id
theorem Rg.set {w:World} {rb g m c cb:Nat} {C:Nat→Int} {j:Nat} (h:Rg w rb g m c cb C j) (i:Nat):Rg (w.setCell ⟨rb,1,none⟩ (.int .i64 (i:Int))) rb g m c cb C i:=by
 have hne:=h.ne
 have k:∀ o,(w.setCell ⟨rb,1,none⟩ (.int .i64 (i:Int))).cell? ⟨g,o,none⟩=w.cell? ⟨g,o,none⟩:=fun o=>by go_simp
 have c1:=h.c1
 have c0:=h.c0
 have f1:=h.f1
 refine⟨by go_simp,by go_simp,by go_simp,fun q hq=> ?_,by simpa using h.gl,by simpa using h.rl,h.ne⟩
 obtain⟨r0,r1,r2,r3,r4,r5,r6⟩:=h.cl q hq
 exact⟨(k _).trans r0,(k _).trans r1,(k _).trans r2,(k _).trans r3,(k _).trans r4,(k _).trans r5,(k _).trans r6⟩
theorem take_q {w:World} {rb g m c cb j:Nat} {C:Nat→Int} (h:Rg w rb g m c cb C j) (hj:j<m) (hm:m≤1048576) (X Y D A B:Int) (eX:C (j*5+2)=X) (eY:C (j*5+3)=Y) (eD:C (j*5+4)=D) (eA:C (j*5)=A) (eB:C (j*5+1)=B):
 Calls Tryz.prog 174 #[.pointer (some ⟨rb,0,none⟩)] w fun e w'=>e= .returned (.agg #[.int .i64 X,.int .i64 Y,.int .i64 D,.int .i64 A,.pointer (some ⟨cb,0,none⟩),.int .i64 B,.pointer (some ⟨cb,0,none⟩)])∧Rg w' rb g m c cb C ((j+1) % m)∧Fr (fun b=>b=rb) w w':=by
 have hset:=cset_map
 obtain⟨r0,r1,r2,r3,r4,r5,r6⟩:=h.cl j hj
 rw[eX] at r0
 rw[eY] at r1
 rw[eD] at r2
 rw[eA] at r3
 rw[eB] at r5
 clear eX eY eD eA eB
 have c0:=h.c0
 have c1:=h.c1
 have f1:=h.f1
 have gl:=h.gl
 have rl:=h.rl
 have ne:=h.ne
 have hjm:(j:Int)<(m:Int):=by omega
 have hm0:¬ ((m:Int)=0):=by omega
 have hm1:¬ (m=0):=by omega
 obtain⟨i,ei⟩:∃ i:Nat,(j+1) % m=i:=⟨_,rfl⟩
 have hi:i<m:=by rw[←ei];exact Nat.mod_lt _ (by omega)
 have er:((j:Int)+1).tmod (m:Int)=(i:Int):=by rw[←ei,Int.natCast_emod];exact(Int.tmod_eq_emod_of_nonneg (by omega))
 have w1_:IntKind.i64.wrap ((j:Int)+1)=(j:Int)+1:=i64w (by omega)
 have w2_:IntKind.i64.wrap (i:Int)=(i:Int):=i64w (by omega)
 rw[ei]
 clear ei
 go_enter Tryz.func174,Tryz.ntmps174
 go_upto_region 1 with fail
 go_cut [3] (fun s wc=>∃ b,s= .pointer (some ⟨b,0,none⟩)∧wc.cell? ⟨b,0,none⟩=some (.int .i64 X)∧wc.cell? ⟨b,1,none⟩=some (.int .i64 Y)∧wc.cell? ⟨b,2,none⟩=some (.int .i64 D)∧wc.cell? ⟨b,3,none⟩=some (.int .i64 A)∧wc.cell? ⟨b,4,none⟩=some (.pointer (some ⟨cb,0,none⟩))∧wc.cell? ⟨b,5,none⟩=some (.int .i64 B)∧wc.cell? ⟨b,6,none⟩=some (.pointer (some ⟨cb,0,none⟩))∧w.heap.size<b∧b<wc.heap.size∧wc.frozen? ⟨w.heap.size,0,none⟩=false∧wc.frozen? ⟨w.heap.size,1,none⟩=false∧wc.frozen? ⟨w.heap.size,2,none⟩=false∧wc.frozen? ⟨w.heap.size,3,none⟩=false∧wc.frozen? ⟨w.heap.size,4,none⟩=false∧wc.frozen? ⟨w.heap.size,5,none⟩=false∧wc.frozen? ⟨w.heap.size,6,none⟩=false∧wc.cell? ⟨w.heap.size,0,none⟩=some (.int .i64 0)∧wc.cell? ⟨w.heap.size,1,none⟩=some (.int .i64 0)∧wc.cell? ⟨w.heap.size,2,none⟩=some (.int .i64 0)∧wc.cell? ⟨w.heap.size,3,none⟩=some (.int .i64 0)∧wc.cell? ⟨w.heap.size,4,none⟩=some (.pointer none)∧wc.cell? ⟨w.heap.size,5,none⟩=some (.int .i64 0)∧wc.cell? ⟨w.heap.size,6,none⟩=some (.pointer none)∧Below w.heap.size w wc)
 case first=>
  refine wp_region_held_drew (S:=fun w'=>w'.cell? ⟨rb,0,none⟩=some (.slice (some ⟨g,0,none⟩) m c)∧w'.cell? ⟨rb,1,none⟩=some (.int .i64 (j:Int))∧w'.cell? ⟨g,j*7,none⟩=some (.int .i64 X)∧w'.cell? ⟨g,j*7+1,none⟩=some (.int .i64 Y)∧w'.cell? ⟨g,j*7+2,none⟩=some (.int .i64 D)∧w'.cell? ⟨g,j*7+3,none⟩=some (.int .i64 A)∧w'.cell? ⟨g,j*7+4,none⟩=some (.pointer (some ⟨cb,0,none⟩))∧w'.cell? ⟨g,j*7+5,none⟩=some (.int .i64 B)∧w'.cell? ⟨g,j*7+6,none⟩=some (.pointer (some ⟨cb,0,none⟩))) (by kernel_rfl) ?_ (fun hHeld=> ?_)
  · (try dsimp only)
    (first|(go_simp;done)|(go_keep;done))
  refine tq 0 hHeld ?_
  refine tq 1 hHeld ?_
  refine tq 2 hHeld ?_
  refine tq 3 hHeld ?_
  refine tq 4 hHeld ?_
  refine tq 5 hHeld ?_
  refine tq 6 hHeld ?_
  refine tq 7 hHeld ?_
  refine tq 8 hHeld ?_
  refine tq 9 hHeld ?_
  (refine tc 10 fun K hK=> ?_;go_simp;refine tr hK (fun hHeld=> ?_);clear hK K)
  (refine tc 11 fun K hK=> ?_;go_simp;refine tr hK (fun hHeld=> ?_);clear hK K)
  refine wpAnyH_done (by kernel_rfl) ?_ _
  go_wp2_with fail
  go_meet
  exact⟨_,rfl,(by go_simp),(by go_simp),(by go_simp),(by go_simp),(by go_simp),(by go_simp),(by go_simp),(by first|omega|(simp;done)|(simp;omega)),(by first|omega|(simp;done)|(simp;omega)),(by first|(go_simp;done)|(simp;done)),(by first|(go_simp;done)|(simp;done)),(by first|(go_simp;done)|(simp;done)),(by first|(go_simp;done)|(simp;done)),(by first|(go_simp;done)|(simp;done)),(by first|(go_simp;done)|(simp;done)),(by first|(go_simp;done)|(simp;done)),(by go_simp),(by go_simp),(by go_simp),(by go_simp),(by go_simp),(by go_simp),(by go_simp),bel_a⟩
 case rest=>
 obtain⟨b,rfl,k0,k1,k2,k3,k4,k5,k6,hb1,hb2,z0,z1,z2,z3,z4,z5,z6,y0,y1,y2,y3,y4,y5,y6,hB⟩:=hcut
 have hR:=h.below hB
 have q0:=hR.c0
 have q1:=hR.c1
 have q2:=hR.f1
 have lw:w.heap.size<wc.heap.size:=by omega
 clear c0 c1 f1 r0 r1 r2 r3 r4 r5 r6
 have n1:(rb=b)=False:=eq_false (by omega)
 have n2:(rb=w.heap.size)=False:=eq_false (by omega)
 have n3:(w.heap.size=b)=False:=eq_false (by omega)
 have n4:(b=rb)=False:=eq_false (by omega)
 have n5:(w.heap.size=rb)=False:=eq_false (by omega)
 have n6:(b=w.heap.size)=False:=eq_false (by omega)
 go_upto_region 2 with fail
 refine wp_region_held_drew (S:=fun w'=>w'.cell? ⟨rb,0,none⟩=some (.slice (some ⟨g,0,none⟩) m c)) (by kernel_rfl) ?_ (fun hHeld=> ?_)
 · (try dsimp only)
   (first|(go_simp;done)|(go_keep;done))
 refine tq 0 hHeld ?_
 refine tq 1 hHeld ?_
 refine tq 2 hHeld ?_
 refine tq 3 hHeld ?_
 refine tq 6 hHeld ?_
 refine tq 7 hHeld ?_
 refine tq 8 hHeld ?_
 refine tq 9 hHeld ?_
 refine tq 10 hHeld ?_
 (refine tc 4 fun K hK=> ?_;go_simp;refine tr hK (fun hHeld=> ?_);clear hK K)
 refine tq 5 hHeld ?_
 refine tq 11 hHeld ?_
 refine tq 12 hHeld ?_
 refine tq 13 hHeld ?_
 (refine tc 14 fun K hK=> ?_;go_simp;refine tr hK (fun hHeld=> ?_);clear hK K)
 refine wpAnyH_done (by kernel_rfl) ?_ _
 skip
 have hS:=hR.set i
 have hF:Fr (fun b=>b=rb) w (wc.setCell ⟨rb,1,none⟩ (.int .i64 (i:Int))):=(Fr.of_below (X:=fun b=>b=rb) hB).trans (Fr.setCell (X:=fun b=>b=rb) (p:=⟨rb,1,none⟩) rfl _)
 go_wp2_with fail
 have Y0:(wc.setCell ⟨rb,1,none⟩ (.int .i64 (i:Int))).cell? ⟨w.heap.size,0,none⟩=some (.int .i64 0):=by go_simp
 have Y1:(wc.setCell ⟨rb,1,none⟩ (.int .i64 (i:Int))).cell? ⟨w.heap.size,1,none⟩=some (.int .i64 0):=by go_simp
 have Y2:(wc.setCell ⟨rb,1,none⟩ (.int .i64 (i:Int))).cell? ⟨w.heap.size,2,none⟩=some (.int .i64 0):=by go_simp
 have Y3:(wc.setCell ⟨rb,1,none⟩ (.int .i64 (i:Int))).cell? ⟨w.heap.size,3,none⟩=some (.int .i64 0):=by go_simp
 have Y4:(wc.setCell ⟨rb,1,none⟩ (.int .i64 (i:Int))).cell? ⟨w.heap.size,4,none⟩=some (.pointer none):=by go_simp
 have Y5:(wc.setCell ⟨rb,1,none⟩ (.int .i64 (i:Int))).cell? ⟨w.heap.size,5,none⟩=some (.int .i64 0):=by go_simp
 have Y6:(wc.setCell ⟨rb,1,none⟩ (.int .i64 (i:Int))).cell? ⟨w.heap.size,6,none⟩=some (.pointer none):=by go_simp
 generalize wc.setCell ⟨rb,1,none⟩ (.int .i64 (i:Int))=wy at hS hF Y0 Y1 Y2 Y3 Y4 Y5 Y6 ⊢
 clear hR hB q0 q1 q2 h er w1_ w2_ k0 k1 k2 k3 k4 k5 k6 y0 y1 y2 y3 y4 y5 y6 z0 z1 z2 z3 z4 z5 z6
 have FF:∀ W',Fr (fun b=>b=w.heap.size) wy W'→Rg W' rb g m c cb C i∧Fr (fun b=>b=rb) w W':=fun W' hQ=>⟨hS.fr hQ (by show ¬ rb=w.heap.size;omega) (by show ¬ g=w.heap.size;omega),hF.trans' hQ (fun i hi e=>by omega)⟩
 refine bodyPost_ret (v:= .agg #[.int .i64 X,.int .i64 Y,.int .i64 D,.int .i64 A,.pointer (some ⟨cb,0,none⟩),.int .i64 B,.pointer (some ⟨cb,0,none⟩)]) ?_ rfl ⟨rfl,FF _ ?_⟩
 · clear FF hS hF
   simp[results,Tryz.results174,go_sem, *]
 · with_reducible exact Fr.drew (((((((Fr.refl _ wy).put 0 _).put 1 _).put 2 _).put 3 _).put 4 _).put 5 _|>.put 6 _)
end Go.Proofs.YtcalhcfinkhemaaGreatDoor
