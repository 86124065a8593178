/- Texts of a proof. -/
import Derived.Test.YtcalhcfinkhemaaGreatDoorB18
import Derived.Test.YtcalhcfinkhemaaGreatDoorB4
import Derived.Deep.RegionHeld3
import Derived.Deep.DeepCutAuto
import Derived.Test.YtcalhcfinkhemaaGreatDoorB5
import Derived.Test.YtcalhcfinkhemaaGreatDoorB20
import Derived.Test.YtcalhcfinkhemaaGreatDoorB8
import Derived.Test.YtcalhcfinkhemaaGreatDoorB14
import Derived.Test.YtcalhcfinkhemaaGreatDoorB1
import Derived.Test.YtcalhcfinkhemaaGreatDoorB9
import Derived.Test.YtcalhcfinkhemaaGreatDoorB7
import Derived.Test.YtcalhcfinkhemaaGreatDoorB12
set_option maxHeartbeats 16000000
set_option maxRecDepth 20000
namespace Go.Proofs.YtcalhcfinkhemaaGreatDoor
open Go.RowKit
set_option linter.unusedVariables false
set_option linter.unusedSimpArgs false
structure LsV (w wr:World) (t k:Nat) (a:Option Addr) (m c:Nat) (l:List Int):Prop where
 bel:Below w.heap.size w wr
 len:l.length=m*k
 own:OwnL wr w.heap.size t k (.slice a m c) m (ofL l)
theorem LsV.below {w wr w':World} {t k m c:Nat} {a:Option Addr} {l:List Int} (h:LsV w wr t k a m c l) (hb:Below wr.heap.size wr w'):LsV w w' t k a m c l:=⟨h.bel.trans (hb.mono h.bel.size),h.len,h.own.below hb⟩
theorem LsV.push {w wr w1:World} {t k m c c':Nat} {a a':Option Addr} {l x:List Int} (h:LsV w wr t k a m c l) (hx:x.length=k) (hg:wr.grownBy w1 (Value.slice a m c).ownBlock) (ho:OwnL w1 w.heap.size t k (.slice a' (m+1) c') (m+1) (cat (m*k) (ofL l) (ofL x))):LsV w w1 t k a' (m+1) c' (l++x):=
 ⟨h.bel.grown hg h.bel.size (fun b e=>(h.own.lt b e).1),by rw[List.length_append,h.len,hx,Nat.succ_mul],by rw[←cat_ofL,h.len];exact ho⟩
theorem LsV.new (w:World) (t k:Nat):LsV w (w.alloc (.cells #[] t)) t k (some ⟨w.heap.size,0,none⟩) 0 0 []:=
 ⟨(Below.refl _ _).alloc (Nat.le_refl _) _,by simp,⟨by simp[numL],.inr ⟨w.heap.size,0, #[],rfl,Nat.le_refl _,Go.Deep.blk_alloc_new _ _,Nat.le_refl _,Nat.zero_le _,by simp,by simp[numL]⟩⟩⟩
theorem LsV.nil (w:World) (t k:Nat):LsV w w t k none 0 0 []:=⟨Below.refl _ _,by simp,OwnL.nil _ _ _ _ _⟩
theorem LsV.out {w0 w wr:World} {t k m c:Nat} {a:Option Addr} {l:List Int} (h:LsV w wr t k a m c l) (hb:Below w0.heap.size w0 w):OutL w0 wr t k a m c (ofL l):=⟨hb.trans (h.bel.mono hb.size),h.own.base hb.size⟩
def atB (n:Nat) (a b x y d:Int):Bool:=hitB x y d&&(decide (0≤a∧a<(n:Int))&&(decide (0≤b∧b<(n:Int))&& !decide (a=b)))
theorem handle_i (cb:Nat) (a:Int) (w:World) (ha:0≤a):
 Calls Tryz.prog 60 #[.pointer (some ⟨cb,0,none⟩),.int .i64 a] w fun e w'=>e= .returned (.agg #[.int .i64 a,.pointer (some ⟨cb,0,none⟩)])∧Below w.heap.size w w':=by
 obtain⟨A,rfl⟩:∃ A:Nat,a=(A:Int):=⟨a.toNat,by omega⟩
 exact handle_any cb A w
theorem meetingAt_yes {cb n:Nat} {C:Nat→Nat→Int} {S:Nat→Value} {w:World} (hC:Cs w cb n C S) (hn:n≤1048576) (a b x y d:Int) (e:atB n a b x y d=true):
 Calls Tryz.prog 160 #[.pointer (some ⟨cb,0,none⟩),.agg #[.int .i64 a,.int .i64 b,.int .i64 x,.int .i64 y,.int .i64 d]] w fun e w'=>e= .returned (.tuple #[.agg #[.int .i64 x,.int .i64 y,.int .i64 d,.int .i64 a,.pointer (some ⟨cb,0,none⟩),.int .i64 b,.pointer (some ⟨cb,0,none⟩)],.bool true])∧Below w.heap.size w w':=by
 have hset:=cset_map
 have l1:=hC.lt
 obtain⟨ad,cc,hS0⟩:=(hC.own 0 (by omega)).is
 have hd0:=hC.hd 0 (by omega)
 rw[hS0] at hd0
 clear hS0
 unfold atB at e
 simp only[Bool.and_eq_true,decide_eq_true_eq,Bool.not_eq_true',decide_eq_false_iff_not] at e
 obtain⟨k1,ha,hb,hab⟩:=e
 obtain⟨mi,emi⟩:∃ mi,(if b<a then b else a)=mi:=⟨_,rfl⟩
 obtain⟨ma,ema⟩:∃ ma,(if a<b then b else a)=ma:=⟨_,rfl⟩
 have k2:¬ (mi<0):=by split at emi<;>omega
 have k3:¬ ((n:Int)≤ma):=by split at ema<;>omega
 have d2:decide (mi<0)=false:=decide_eq_false k2
 have d3:decide ((n:Int)≤ma)=false:=decide_eq_false k3
 have d5:decide (a=b)=false:=decide_eq_false hab
 have k4:(a==b)=false:=by simp[hab]
 have k5:(a=b)=False:=eq_false hab
 go_enter Tryz.func160,Tryz.ntmps160
 go_upto_region 2 with(go_at_call 173;refine(dentOf_q _ _ _ _ _ (by with_reducible assumption)).mono ?_;rintro e w1 ⟨rfl,hb1⟩;have hz1:=hb1.size;(try simp only[zz] at hz1);have:=kf2 hb1 w.heap.size;have:=kfa hb1 cb)
 refine wp_region_held_drew (S:=fun w'=>w'.cell? ⟨w.heap.size,0,none⟩=some (.int .i64 a)∧w'.cell? ⟨w.heap.size,1,none⟩=some (.int .i64 b)∧w'.cell? ⟨w.heap.size,2,none⟩=some (.int .i64 x)∧w'.cell? ⟨w.heap.size,3,none⟩=some (.int .i64 y)∧w'.cell? ⟨w.heap.size,4,none⟩=some (.int .i64 d)∧w'.cell? ⟨cb,0,none⟩=some (.slice ad n cc)) (by kernel_rfl) ?_ (fun hHeld=> ?_)
 · (try dsimp only)
   (first|(go_simp;done)|(go_keep;done))
 refine tq 0 hHeld ?_
 refine tq 1 hHeld ?_
 refine tq 2 hHeld ?_
 refine tq 3 hHeld ?_
 refine tq 4 hHeld ?_
 refine tq 5 hHeld ?_
 refine tq 6 hHeld ?_
 refine tq 7 hHeld ?_
 refine tq 8 hHeld ?_
 refine tq 9 hHeld ?_
 refine tq 10 hHeld ?_
 refine tq 11 hHeld ?_
 refine tq 12 hHeld ?_
 refine tq 13 hHeld ?_
 refine tq 14 hHeld ?_
 refine tq 15 hHeld ?_
 refine tq 16 hHeld ?_
 refine tq 17 hHeld ?_
 refine tq 18 hHeld ?_
 refine tq 19 hHeld ?_
 refine tq 20 hHeld ?_
 refine tq 21 hHeld ?_
 refine tq 22 hHeld ?_
 refine tq 23 hHeld ?_
 refine tq 24 hHeld ?_
 refine tq 25 hHeld ?_
 refine tq 26 hHeld ?_
 refine tq 27 hHeld ?_
 refine tq 28 hHeld ?_
 refine tq 29 hHeld ?_
 refine wpAnyH_done (by kernel_rfl) ?_ _
 go_upto_region 4 with fail
 refine wp_region_held_drew (S:=fun w'=>w'.cell? ⟨w.heap.size,0,none⟩=some (.int .i64 a)∧w'.cell? ⟨w.heap.size,1,none⟩=some (.int .i64 b)∧w'.cell? ⟨w.heap.size,2,none⟩=some (.int .i64 x)∧w'.cell? ⟨w.heap.size,3,none⟩=some (.int .i64 y)∧w'.cell? ⟨w.heap.size,4,none⟩=some (.int .i64 d)∧w'.cell? ⟨w1.heap.size,0,none⟩=some (.int .i64 x)∧w'.cell? ⟨w1.heap.size,1,none⟩=some (.int .i64 y)∧w'.cell? ⟨w1.heap.size,2,none⟩=some (.int .i64 d)) (by kernel_rfl) ?_ (fun hHeld=> ?_)
 · (try dsimp only)
   (first|(go_simp;done)|(go_keep;done))
 refine tq 0 hHeld ?_
 refine tq 1 hHeld ?_
 refine tq 2 hHeld ?_
 refine tq 3 hHeld ?_
 refine tq 5 hHeld ?_
 refine tq 6 hHeld ?_
 refine tq 7 hHeld ?_
 (refine tc 4 fun K hK=> ?_;go_simp;(go_at_call 60;refine(handle_i cb a _ ha.1).mono ?_;rintro e w2 ⟨rfl,hb2⟩;have hz2:=hb2.size;(try simp only[zz] at hz2);have:=kf2 hb2 w.heap.size;have:=kfa hb2 w1.heap.size);(try go_wp2_with fail);refine tr hK (fun hHeld=> ?_);clear hK K)
 (refine tc 8 fun K hK=> ?_;go_simp;(go_at_call 60;refine(handle_i cb b _ hb.1).mono ?_;rintro e w3 ⟨rfl,hb3⟩;have hz3:=hb3.size;(try simp only[zz] at hz3);have:=kf2 hb3 w.heap.size;have:=kfa hb3 w1.heap.size);(try go_wp2_with fail);refine tr hK (fun hHeld=> ?_);clear hK K)
 refine tq 9 hHeld ?_
 (refine tc 10 fun K hK=> ?_;go_simp;refine tr hK (fun hHeld=> ?_);clear hK K)
 refine tq 11 hHeld ?_
 refine wpAnyH_done (by kernel_rfl) ?_ _
 go_wp2_with fail
 exact bodyPost_ret (v:= .tuple #[.agg #[.int .i64 x,.int .i64 y,.int .i64 d,.int .i64 a,.pointer (some ⟨cb,0,none⟩),.int .i64 b,.pointer (some ⟨cb,0,none⟩)],.bool true]) (by simp[results,Tryz.results160,go_sem, *]) rfl ⟨rfl,bel_a⟩
def ctsB (n:Nat) (C:Nat→Int):Nat→Bool
 |0=>true
 |k+1=>ctsB n C k&&atB n (C (k*5)) (C (k*5+1)) (C (k*5+2)) (C (k*5+3)) (C (k*5+4))
structure Mo (w wr:World) (cb n rb k:Nat) (U C:Nat→Int) (S:Nat→Value) (v:Value):Prop where
 cs:Cs wr cb n (colOf U) S
 r0:wr.cell? ⟨rb,0,none⟩=some v
 r1:wr.cell? ⟨rb,1,none⟩=some (.int .i64 0)
 f0:wr.frozen? ⟨rb,0,none⟩=false
 f1:wr.frozen? ⟨rb,1,none⟩=false
 ml:ML wr (rb+1) cb v C k
 bel:Below w.heap.size w wr
 rl:rb<wr.heap.size
theorem Mo.on {w wr:World} {cb n rb k:Nat} {U C:Nat→Int} {S:Nat→Value} {v:Value} {w':World} (h:Mo w wr cb n rb k U C S v) (hb:Below wr.heap.size wr w'):Mo w w' cb n rb k U C S v:=
 ⟨h.cs.below hb,(hb.cell (p:=⟨rb,0,none⟩) h.rl).trans h.r0,(hb.cell (p:=⟨rb,1,none⟩) h.rl).trans h.r1,(hb.frozen (p:=⟨rb,0,none⟩) h.rl).trans h.f0,(hb.frozen (p:=⟨rb,1,none⟩) h.rl).trans h.f1,h.ml.below hb,h.bel.trans (hb.mono h.bel.size),Nat.lt_of_lt_of_le h.rl hb.size⟩
theorem Mo.push {w wr:World} {cb n rb k:Nat} {U C:Nat→Int} {S:Nat→Value} {v:Value} {W w7:World} {g c:Nat} (h:Mo w wr cb n rb k U C S v) (hb:Below wr.heap.size wr W) (hg:W.grownBy w7 v.ownBlock) (ho:ML w7 (rb+1) cb (.slice (some ⟨g,0,none⟩) (k+1) c) C (k+1)) (hwr:w.heap.size≤rb) (hcb:cb<rb) (hxr:∀ b,Xc S b→b<rb):
 (w7.cell? ⟨rb,0,none⟩=some v∧w7.frozen? ⟨rb,0,none⟩=false∧rb<w7.heap.size)∧Mo w (w7.setCell ⟨rb,0,none⟩ (.slice (some ⟨g,0,none⟩) (k+1) c)) cb n rb (k+1) U C S (.slice (some ⟨g,0,none⟩) (k+1) c):=by
 have h1:=h.on hb
 have hlt:=h1.ml.lt
 have hF:Fr (fun b=>v.ownBlock=some b) W w7:=Fr.grown hg (fun b e=>e) h1.ml.isCells
 have nr:¬ v.ownBlock=some rb:=fun e=>by have:=(hlt rb e).1;omega
 have n0:=(hF.cell (p:=⟨rb,0,none⟩) h1.rl nr).trans h1.r0
 have n1:=(hF.cell (p:=⟨rb,1,none⟩) h1.rl nr).trans h1.r1
 have m0:=(hF.frozen (p:=⟨rb,0,none⟩) h1.rl nr).trans h1.f0
 have m1:=(hF.frozen (p:=⟨rb,1,none⟩) h1.rl nr).trans h1.f1
 have l7:rb<w7.heap.size:=Nat.lt_of_lt_of_le h1.rl hF.size
 have c7:=h1.cs.frame hF (fun e=>by have:=(hlt cb e).1;omega) (fun b hx e=>by have:=(hlt b e).1;have:=hxr b hx;omega)
 have hS:Fr (fun b=>b=rb) w7 (w7.setCell ⟨rb,0,none⟩ (.slice (some ⟨g,0,none⟩) (k+1) c)):=Fr.setCell (X:=fun b=>b=rb) rfl _
 refine⟨⟨n0,m0,l7⟩,c7.frame hS (by show ¬ cb=rb;omega) (fun b hx e=>by have:=hxr b hx;omega),by go_simp,by go_simp,by go_simp,by go_simp,ho.frame hS (fun b e e2=>by have:=(ho.lt b e).1;omega),?_,by simpa using l7⟩
 exact(h1.bel.trans (hF.below (by have:=h1.bel.size;omega) (fun b e=>by have:=(hlt b e).1;omega))).trans (hS.below (by have:=hF.size;have:=h1.bel.size;omega) (fun b e=>by omega))
abbrev zeroBd:Value:= .agg #[.int .i64 0,.int .i64 0,.int .i64 0,.int .i64 0,.int .i64 0,.int .i64 0,.int .i64 0,.int .i64 0,.int .i64 0,.int .i64 0,.int .i64 0,.int .i64 0]
def lsB (U:Nat→Int) (k:Nat):Bool:=decide (0<U (k*12+8))&& !decide (8≤U (k*12+11))
def noLs (U:Nat→Int):Nat→Bool
 |0=>true
 |k+1=>noLs U k&& !lsB U k
theorem noLs_no {U:Nat→Int} {k:Nat} (h:lsB U k=true):∀ n,k<n→noLs U n=false
 |0,l=>absurd l (Nat.not_lt_zero _)
 | n+1,l=>by
   rw[noLs]
   by_cases e:k=n
   · subst e;rw[h];simp
   · rw[noLs_no h n (by omega)];rfl
def stB (n:Nat) (U:Nat→Int):Bool:=noLs U n&&bodsB n U
theorem ls_ok {U:Nat→Int} {n k:Nat} (h:Bods n U) (hk:k<n):(0≤U (k*12+8))∧(0≤U (k*12+11)∧U (k*12+11)≤8):=by
 have q:=h.ok k hk
 unfold bodyB restB at q
 simp only[Bool.and_eq_true,decide_eq_true_eq] at q
 omega
theorem bodiesOf_t (a:Option Addr) (n c:Nat) (U:Nat→Int) (w:World) (h:Flat w a (n*12) U) (hn:n≤1048576) (hB:bodsB n U=true):
 Calls Tryz.prog 38 #[.slice a n c] w fun e w'=>∃ cb S,e= .returned (.tuple #[.pointer (some ⟨cb,0,none⟩),Value.nilIface])∧w.heap.size≤cb∧Cs w' cb n (colOf U) S∧Below w.heap.size w w':=by
 have hset:=cset_map
 go_enter Tryz.func38,Tryz.ntmps38
 go_wp2_with (go_at_call 27;refine(columnsOf_any a n c U _ h hn).mono ?_;rintro e w1 ⟨hb1,(⟨_,cb,S,rfl,hcb,hCs⟩|⟨hF,rfl⟩)⟩)
 all_goals(try(exfalso;rw[hB] at hF;cases hF))
 exact bodyPost_ret (v:= .tuple #[.pointer (some ⟨cb,0,none⟩),Value.nilIface]) (by simp[results,Tryz.results38,go_sem]) rfl ⟨cb,S,rfl,hcb,hCs,hb1⟩
theorem bodiesOf_f (a:Option Addr) (n c:Nat) (U:Nat→Int) (w:World) (h:Flat w a (n*12) U) (hn:n≤1048576) (hB:bodsB n U=false):
 Calls Tryz.prog 38 #[.slice a n c] w fun e w'=>∃ x:Addr,e= .returned (.tuple #[.pointer none,.iface 99 (.pointer (some x))])∧Below w.heap.size w w':=by
 have hset:=cset_map
 go_enter Tryz.func38,Tryz.ntmps38
 go_wp2_with (go_at_call 27;refine(columnsOf_any a n c U _ h hn).mono ?_;rintro e w1 ⟨hb1,(⟨hT,cb,S,rfl,hcb,hCs⟩|⟨_,rfl⟩)⟩)
 all_goals(try(exfalso;rw[hB] at hT;cases hT))
 exact bodyPost_ret (v:= .tuple #[.pointer none,.iface 99 (.pointer (some ⟨w1.heap.size,0,none⟩))]) (by simp[results,Tryz.results38,go_sem]) rfl ⟨_,rfl,hb1.alloc hb1.size _⟩
theorem kLive {cb n k:Nat} {V:Nat→Int} {G:Nat→Nat} {w:World} (h:HAt w cb n k V G) {b:Bool} (e:(!decide (V 8=0)&& !decide (V 11=8))=b):
 Calls Tryz.prog 40 #[hdk cb k] w fun e w'=>e= .returned (.bool b)∧Below w.heap.size w w':=by
 have hset:=cset_map
 have hE:Below w.heap.size w (w.alloc (Obj.cells #[.int .i64 (k:Int),.pointer (some ⟨cb,0,none⟩)] 59)):=(Below.refl _ _).alloc (Nat.le_refl _) _
 have h1:=h.below hE
 subst e
 cases h8:decide (V 8=0) with
 | true=>
   go_enter Tryz.func40,Tryz.ntmps40
   go_wp2_with (go_at_call 58;refine(kFixed h1).mono ?_;rw[h8];rintro e w1 ⟨rfl,hb1⟩)
   go_ret
   exact⟨rfl,hE.trans (hb1.mono hE.size)⟩
 | false=>
   go_enter Tryz.func40,Tryz.ntmps40
   go_wp2_with (first
    |(have _:=hb1;go_at_call 32;refine(kSleeps (h1.below hb1)).mono ?_;rintro e w2 ⟨rfl,hb2⟩)
    |(go_at_call 58;refine(kFixed h1).mono ?_;rw[h8];rintro e w1 ⟨rfl,hb1⟩;have k0:=hb1.cell (p:=⟨w.heap.size,0,none⟩) (by simp);have k1:=hb1.cell (p:=⟨w.heap.size,1,none⟩) (by simp)))
   go_ret
   exact⟨by simp,(hE.trans (hb1.mono hE.size)).trans (hb2.mono (Nat.le_trans hE.size hb1.size))⟩
theorem still_q (a:Option Addr) (n c:Nat) (U:Nat→Int) (v:Bool) (w:World) (h:Flat w a (n*12) U) (hn:n≤1048576) (hg:w.cell? ⟨0,0,none⟩=some (.iface 176 (.agg #[.pointer (some ⟨1,64,none⟩)]))) (hv:stB n U=v):
 Calls Tryz.prog 20 #[.slice a n c] w fun e w'=>e= .returned (.bool v)∧Below w.heap.size w w':=by
 have hset:=cset_map
 have hE:Below w.heap.size w (w.alloc (Obj.cells #[.bool false] 4)):=(Below.refl _ _).alloc (Nat.le_refl _) _
 have hlt:0<w.heap.size:=cell_lt (a:=⟨0,0,none⟩) hg
 have h1:=h.below hE
 have hg1:=(hE.cell (p:=⟨0,0,none⟩) hlt).trans hg
 have h0z:0<(w.alloc (Obj.cells #[.bool false] 4)).heap.size:=by simp
 have r2:(w.alloc (Obj.cells #[.bool false] 4)).cell? ⟨w.heap.size,0,none⟩=some (.bool false):=by go_simp
 have f2:(w.alloc (Obj.cells #[.bool false] 4)).frozen? ⟨w.heap.size,0,none⟩=false:=by go_simp
 cases hB:bodsB n U with
 | false=>
   obtain rfl:v=false:=by rw[←hv];unfold stB;rw[hB];simp
   clear hv
   refine calls_of_wp_marks Tryz.func20 rfl ?_
   simp only[Tryz.ntmps20,List.size_toArray,List.length_cons,List.length_nil,Nat.reduceAdd,Nat.reduceSub,Array.replicate_succ,Array.replicate_zero,List.push_toArray,List.append_toArray,List.nil_append,List.cons_append]
   go_wp2_with (first
    |(have _:=hb1;go_at_call 34;refine(refused_yes x _ ((hb1.cell (p:=⟨0,0,none⟩) h0z).trans hg1)).mono ?_;rintro e w2 ⟨rfl,hb2⟩;have hb12:=hb1.trans (hb2.mono hb1.size);have q2:=(hb12.cell (p:=⟨w.heap.size,0,none⟩) (by simp)).trans r2;have p2:=(hb12.frozen (p:=⟨w.heap.size,0,none⟩) (by simp)).trans f2)
    |(go_at_call 38;refine(bodiesOf_f a n c U _ h1 hn hB).mono ?_;rintro e w1 ⟨x,rfl,hb1⟩))
   refine marks_ret0 (v:= .bool false) rfl (by simp[results,Tryz.results20,go_sem, *]) ?_
   exact⟨rfl,((hE.trans (hb1.mono hE.size)).trans (hb2.mono (Nat.le_trans hE.size hb1.size))).setCell (Nat.le_refl _) _⟩
 | true=>
   have hBd:=Bods.of hB
   have hv':noLs U n=v:=by rw[←hv];unfold stB;rw[hB,Bool.and_true]
   clear hv
   refine calls_of_wp_marks Tryz.func20 rfl ?_
   simp only[Tryz.ntmps20,List.size_toArray,List.length_cons,List.length_nil,Nat.reduceAdd,Nat.reduceSub,Array.replicate_succ,Array.replicate_zero,List.push_toArray,List.append_toArray,List.nil_append,List.cons_append]
   go_wp2_with (first
    |(have _:=hb1;go_at_call 34;refine(refused_nil _).mono ?_;rintro e w2 ⟨rfl,hb2⟩)
    |(go_at_call 38;refine(bodiesOf_t a n c U _ h1 hn hB).mono ?_;rintro e w1 ⟨cb,S,rfl,hcb,hCs,hb1⟩))
   have hb12:=hb1.trans (hb2.mono hb1.size)
   have q2:=(hb12.cell (p:=⟨w.heap.size,0,none⟩) (by simp)).trans r2
   have p2:=(hb12.frozen (p:=⟨w.heap.size,0,none⟩) (by simp)).trans f2
   have hB2:Below w.heap.size w w2:=hE.trans (hb12.mono hE.size)
   have hC2:=hCs.below hb2
   have hcl:=hC2.lt
   have hcb':w.heap.size<cb:=by simp only[World.size_alloc] at hcb;omega
   clear hb1 hb2 hb12 hCs hE h1 hg1 r2 f2 hcb
   obtain⟨ad,cc,hS0⟩:=(hC2.own 0 (by omega)).is
   have hd0:=hC2.hd 0 (by omega)
   rw[hS0] at hd0
   refine wp_range_out (gf:=39) (bound:= #[.pointer (some ⟨cb,0,none⟩)]) rfl each_enters (each_it cb n _ _ w2 hcl hd0 hn) (fun _=>rfl) (fun k W=>Below w2.heap.size w2 W∧noLs U k=true)
    (fun c W=>c= .ret∧Below w.heap.size w W∧W.cell? ⟨w.heap.size,0,none⟩=some (.bool false)∧noLs U n=false) ?_ ?_ ⟨Below.refl _ _,rfl⟩ ?round ?done ?stop
   · rintro k A B ⟨h1,h2⟩ hs
     exact⟨h1.trans hs.below,h2⟩
   · rintro c A B ⟨h1,h2,h3,h4⟩ hs
     exact⟨h1,h2.trans (hs.below.mono hB2.size),hs.cell h3,h4⟩
   case round=>
    rintro l k W hl ⟨hbW,hall⟩ hk
    simp only[List.zip_toArray,List.zip_cons_cons,List.zip_nil_left,List.foldl_toArray,List.foldl_cons,List.foldl_nil,List.setIfInBounds_toArray,List.set_cons_succ,List.set_cons_zero]
    refine wpIn_region_plain (by rintro⟨_,_,h⟩;exact h) (by kernel_rfl) ?_
    go_wp2
    refine⟨(KeepsOthers.alloc _ _).from _,fun W2 hS hr=> ?_⟩
    have hbX:Below w2.heap.size w2 (W.alloc (Obj.cells #[.int .i64 (k:Int),.pointer (some ⟨cb,0,none⟩)] 59)):=hbW.alloc hbW.size _
    have hb2:=hbX.trans hS.below
    have hzW:=hbW.size
    have v0:W2.cell? ⟨W.heap.size,0,none⟩=some (.int .i64 (k:Int)):=hS.cell (by go_simp)
    have v1:W2.cell? ⟨W.heap.size,1,none⟩=some (.pointer (some ⟨cb,0,none⟩)):=hS.cell (by go_simp)
    have hC3:=hC2.below hb2
    clear hS hbX hr
    have hh:=hC3.hat hk (by omega)
    have hok:=ls_ok hBd hk
    have hlv:(!decide (colOf U 8 k=0)&& !decide (colOf U 11 k=8))=lsB U k:=by
     unfold lsB
     show (!decide (U (k*12+8)=0)&& !decide (U (k*12+11)=8))=_
     rw[Bool.eq_iff_iff]
     simp only[Bool.and_eq_true,Bool.not_eq_true',decide_eq_true_eq,decide_eq_false_iff_not]
     omega
    obtain⟨LB,hLB⟩:∃ b,lsB U k=b:=⟨_,rfl⟩
    rw[hLB] at hlv
    have HLB:Shut (lsB U k=LB):=hLB
    have HLV:Shut ((!decide (colOf U 8 k=0)&& !decide (colOf U 11 k=8))=LB):=hlv
    have HALL:Shut (noLs U k=true):=hall
    clear hLB hlv hall hok
    refine wpIn_block ?_
    refine wpIn_seq_k fun K hK=> ?_
    refine wpIn_region_plain (by rintro⟨_,_,h⟩;exact h) (by kernel_rfl) ?_
    go_wp2_with (go_at_call 40;refine(kLive hh HLV.out).mono ?_;rintro e w5 ⟨rfl,hb5⟩)
    have hb25:=hb2.trans (hb5.mono hb2.size)
    cases LB with
    | true=>
      refine wpIn_cond_true rfl ?_
      refine wpIn_seq_k fun K2 hK2=> ?_
      refine wpIn_region_plain (by rintro⟨_,_,h⟩;exact h) (by kernel_rfl) ?_
      have hBB:Below w.heap.size w w5:=hB2.trans (hb25.mono hB2.size)
      have hwl:w.heap.size<w2.heap.size:=by omega
      have x2:w5.cell? ⟨w.heap.size,0,none⟩=some (.bool false):=(hb25.cell (p:=⟨w.heap.size,0,none⟩) hwl).trans q2
      have y2:w5.frozen? ⟨w.heap.size,0,none⟩=false:=(hb25.frozen (p:=⟨w.heap.size,0,none⟩) hwl).trans p2
      go_wp2
      refine wpIn_ret ?_
      exact⟨(KeepsFrom.of_below hb5).trans ((KeepsOthers.setCell _ _ _).from _),rfl,hBB.setCell (Nat.le_refl _) _,by go_simp,noLs_no HLB.out n hk⟩
    | false=>
      refine wpIn_cond_false rfl ?_
      refine wpIn_skip ?_
      exact⟨KeepsFrom.of_below hb5,hb25,by rw[noLs,HALL.out,HLB.out];rfl⟩
   case done=>
    rintro D W hD ⟨hbW,hall⟩ hK
    have hwl:w.heap.size<w2.heap.size:=by omega
    have x2:=(hbW.cell (p:=⟨w.heap.size,0,none⟩) hwl).trans q2
    have y2:=(hbW.frozen (p:=⟨w.heap.size,0,none⟩) hwl).trans p2
    have hBW:Below w.heap.size w W:=hB2.trans (hbW.mono hB2.size)
    obtain rfl:v=true:=by rw[←hv'];exact hall
    clear hall hv'
    go_wp2
    have hF:Fr (fun b=>b=w.heap.size) W (W.setCell ⟨w.heap.size,0,none⟩ (.bool true)):=Fr.setCell (X:=fun b=>b=w.heap.size) rfl _
    refine marks_ret (B:=w2.heap.size) hD rfl (hF.kind _ _ hK rfl) fun W' hS=>⟨.bool true,?_,rfl,?_⟩
    · have z2:W'.cell? ⟨w.heap.size,0,none⟩=some (.bool true):=hS.cell (by go_simp)
      simp[results,Tryz.results20,go_sem, *]
    · exact(hBW.setCell (Nat.le_refl _) _).trans (hS.below.mono (by omega))
   case stop=>
    rintro D c W hD ⟨rfl,hbW,x2,hno⟩ hK
    obtain rfl:v=false:=by rw[←hv'];exact hno
    clear hno hv'
    go_wp2
    refine marks_ret (B:=w2.heap.size) hD rfl hK fun W' hS=>⟨.bool false,?_,rfl,hbW.trans (hS.below.mono (by omega))⟩
    have z2:=hS.cell x2
    simp[results,Tryz.results20,go_sem, *]
theorem sStill_q (a:Option Addr) (n c:Nat) (U:Nat→Int) (v:Bool) (w:World) (h:Flat w a (n*12) U) (hn:n≤1048576) (hv:stB n U=v):
 Calls Tryz.prog 21 #[.slice a n c] w fun e w'=>e= .returned (.bool v)∧Below w.heap.size w w':=by
 have hset:=cset_map
 have HV:Shut (stB n U=v):=hv
 clear hv
 go_enter Tryz.func21,Tryz.ntmps21
 go_upto_region 2 with fail
 go_loopw [3] (fun s wr=>∃ k:Nat,k≤n∧s= .int .i64 (k:Int)∧noLs U k=true∧Below w.heap.size w wr) (fun s _=>n-(intOf s).toNat)
 case atStart=>exact⟨0,Nat.zero_le _,rfl,rfl,Below.refl _ _⟩
 case round=>
  obtain⟨k,hk,rfl,hall0,hw⟩:=hrel
  have HALL:Shut (noLs U k=true):=hall0
  clear hall0
  by_cases hlt:k<n
  · have hkn:(k:Int)<(n:Int):=by omega
    obtain⟨b1,o1,e1,_,hc1⟩:=(h.below hw) (by omega)
    have t0:wr.cell? ⟨b1,o1+k*12,none⟩=some (.int .i64 (U (k*12))):=by have q:=hc1 (k*12+0) (by omega);simpa [Nat.add_assoc] using q
    have t1:wr.cell? ⟨b1,o1+k*12+1,none⟩=some (.int .i64 (U (k*12+1))):=by have q:=hc1 (k*12+1) (by omega);simpa [Nat.add_assoc] using q
    have t2:wr.cell? ⟨b1,o1+k*12+2,none⟩=some (.int .i64 (U (k*12+2))):=by have q:=hc1 (k*12+2) (by omega);simpa [Nat.add_assoc] using q
    have t3:wr.cell? ⟨b1,o1+k*12+3,none⟩=some (.int .i64 (U (k*12+3))):=by have q:=hc1 (k*12+3) (by omega);simpa [Nat.add_assoc] using q
    have t4:wr.cell? ⟨b1,o1+k*12+4,none⟩=some (.int .i64 (U (k*12+4))):=by have q:=hc1 (k*12+4) (by omega);simpa [Nat.add_assoc] using q
    have t5:wr.cell? ⟨b1,o1+k*12+5,none⟩=some (.int .i64 (U (k*12+5))):=by have q:=hc1 (k*12+5) (by omega);simpa [Nat.add_assoc] using q
    have t6:wr.cell? ⟨b1,o1+k*12+6,none⟩=some (.int .i64 (U (k*12+6))):=by have q:=hc1 (k*12+6) (by omega);simpa [Nat.add_assoc] using q
    have t7:wr.cell? ⟨b1,o1+k*12+7,none⟩=some (.int .i64 (U (k*12+7))):=by have q:=hc1 (k*12+7) (by omega);simpa [Nat.add_assoc] using q
    have t8:wr.cell? ⟨b1,o1+k*12+8,none⟩=some (.int .i64 (U (k*12+8))):=by have q:=hc1 (k*12+8) (by omega);simpa [Nat.add_assoc] using q
    have t9:wr.cell? ⟨b1,o1+k*12+9,none⟩=some (.int .i64 (U (k*12+9))):=by have q:=hc1 (k*12+9) (by omega);simpa [Nat.add_assoc] using q
    have t10:wr.cell? ⟨b1,o1+k*12+10,none⟩=some (.int .i64 (U (k*12+10))):=by have q:=hc1 (k*12+10) (by omega);simpa [Nat.add_assoc] using q
    have t11:wr.cell? ⟨b1,o1+k*12+11,none⟩=some (.int .i64 (U (k*12+11))):=by have q:=hc1 (k*12+11) (by omega);simpa [Nat.add_assoc] using q
    clear hc1
    subst e1
    obtain⟨SL,hSL0⟩:∃ b,decide (8≤(fun j=>U (k*12+j)) 11)=b:=⟨_,rfl⟩
    have hSL:Shut (decide (8≤(fun j=>U (k*12+j)) 11)=SL):=hSL0
    by_cases hm:0<U (k*12+8)
    · have hlsk:Shut (lsB U k= !SL):=by show lsB U k= !SL;unfold lsB;rw[decide_eq_true hm,Bool.true_and,←hSL0]
      clear hSL0
      cases SL with
      | true=>
        have hl2:Shut (lsB U k=false):=by show _=_;rw[hlsk.out];rfl
        clear hlsk
        go_wp2_with (go_at_call 41;refine(l6Sleeps_k (fun j=>U (k*12+j)) _ _ hSL.out).mono ?_;rintro e w2 ⟨rfl,hb2⟩)
        go_roundw
        case rel=>exact⟨k+1,by omega,by go_num,by rw[noLs,HALL.out,hl2.out];rfl,hw.trans (hb2.mono hw.size)⟩
        case measure=>simp[intOf];omega
      | false=>
        have hl2:Shut (lsB U k=true):=by show _=_;rw[hlsk.out];rfl
        clear hlsk
        have hvf:v=false:=by rw[←HV.out];unfold stB;rw[noLs_no hl2.out n hlt];rfl
        subst hvf
        go_wp2_with (go_at_call 41;refine(l6Sleeps_k (fun j=>U (k*12+j)) _ _ hSL.out).mono ?_;rintro e w2 ⟨rfl,hb2⟩)
        go_ret
        exact⟨rfl,hw.trans (hb2.mono hw.size)⟩
    · have hlsk:Shut (lsB U k=false):=by show lsB U k=false;unfold lsB;rw[decide_eq_false hm,Bool.false_and]
      have hm':¬ (0:Int)<U (k*12+8):=hm
      clear hSL0
      go_wp2_with fail
      go_roundw
      case rel=>exact⟨k+1,by omega,by go_num,by rw[noLs,HALL.out,hlsk.out];rfl,hw⟩
      case measure=>simp[intOf];omega
  · obtain rfl:k=n:=by omega
    have hv2:bodsB k U=v:=by rw[←HV.out];unfold stB;rw[HALL.out,Bool.true_and]
    go_wp2_with (go_at_call 18;refine(sBodiesOk_q a k c U v _ (h.below hw) hn hv2).mono ?_;rintro e w2 ⟨rfl,hb2⟩)
    go_ret
    exact⟨rfl,hw.trans (hb2.mono hw.size)⟩
end Go.Proofs.YtcalhcfinkhemaaGreatDoor
