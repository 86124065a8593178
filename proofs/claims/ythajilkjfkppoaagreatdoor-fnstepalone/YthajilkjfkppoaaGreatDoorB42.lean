/- Texts of a proof. -/
import Derived.Test.YthajilkjfkppoaaGreatDoorB25
import Derived.Test.YthajilkjfkppoaaGreatDoorB16
import Derived.Test.YthajilkjfkppoaaGreatDoorB19
import Derived.Test.YthajilkjfkppoaaGreatDoorB28
import Derived.Test.YthajilkjfkppoaaGreatDoorB30
import Derived.Test.YthajilkjfkppoaaGreatDoorB36
import Derived.Test.YthajilkjfkppoaaGreatDoorB13
import Derived.Sort.CutIn
import Derived.Test.YthajilkjfkppoaaGreatDoorB41
import Derived.Test.YthajilkjfkppoaaGreatDoorB20
import Derived.Deep.RegionHeld3
import Derived.Deep.DeepCutAuto
import Derived.LoopNIn
import Derived.LoopIn
import Derived.OwnWalkIn
import Derived.Laws.MakeOwn
import Derived.Test.YthajilkjfkppoaaGreatDoorB7
import Derived.Test.YthajilkjfkppoaaGreatDoorB12
import Derived.Test.YthajilkjfkppoaaGreatDoorB10
import Derived.Test.YthajilkjfkppoaaGreatDoorB24
import Derived.Test.YthajilkjfkppoaaGreatDoorB22
import Derived.Test.YthajilkjfkppoaaGreatDoorB39
import Derived.Test.YthajilkjfkppoaaGreatDoorB27
import Derived.Test.YthajilkjfkppoaaGreatDoorB6
import Derived.Test.YthajilkjfkppoaaGreatDoorB34
import Derived.Test.YthajilkjfkppoaaGreatDoorB9
set_option maxHeartbeats 16000000
set_option maxRecDepth 20000
namespace Go.Proofs.YthajilkjfkppoaaGreatDoor
open Go.RowKit
set_option linter.unusedVariables false
set_option linter.unusedSimpArgs false
theorem lv_eq {V:Nat→Int} (h:BOk V):(!decide (V 8=0)&& !decide (V 11=8))=liveV V:=by
 have h1:=h.m8
 have h2:=h.q11
 unfold liveV
 rw[show decide (0<V 8)= !decide (V 8=0) by by_cases e:V 8=0<;>simp[e]<;>omega,show decide (8≤V 11)=decide (V 11=8) by by_cases e:V 11=8<;>simp[e]<;>omega]
theorem lv_row {f:Nat→(Nat→Int)→Nat→Int} {n k:Nat} {U:Nat→Int} (h:Bods n U) (hk:k<n):lvK (mapR f U k) k=liveV (fun j=>U (k*12+j)):=by
 unfold lvK
 rw[mapR_row,mapR_row]
 exact lv_eq (V:=fun j=>U (k*12+j)) (BOk.of (h.ok k hk))
theorem row_map (f:Nat→(Nat→Int)→Nat→Int) (U:Nat→Int) (k:Nat):(fun i=>colOf (mapR f U k) i k)=fun i=>U (k*12+i):=by
 funext i
 unfold colOf
 exact mapR_row f U k i
theorem pull_yes {V:Nat→Int} {g:Int} (h:liveV V=true):pullV g V=setV V 7 (clampZ 20000000 (V 7-g*V 8)):=by unfold pullV;rw[h];rfl
theorem pull_no {V:Nat→Int} {g:Int} (h:liveV V=false):pullV g V=V:=by unfold pullV;rw[h];rfl
theorem go_yes {V:Nat→Int} (h:liveV V=true):goV V=moveV V (spX V) (spY V):=by unfold goV;rw[h];rfl
theorem go_no {V:Nat→Int} (h:liveV V=false):goV V=V:=by unfold goV;rw[h];rfl
theorem quiet_yes {V:Nat→Int} {z:Int} (hb:BOk V) (h:liveV V=true):quietV z V=setV V 11 (bif decide (-8≤spX V∧spX V≤8)&&decide (-8≤spY V∧spY V≤8) then mn (z+1) 7 else 0):=by
 have h1:=hb.m8
 have h2:=hb.q11
 unfold liveV at h
 simp only[Bool.and_eq_true,decide_eq_true_eq,Bool.not_eq_true',decide_eq_false_iff_not] at h
 unfold quietV
 rw[decide_eq_false (by omega),decide_eq_false (by omega)]
 rfl
theorem inB_two (l x y:Int):inB l x y=(decide (-l≤x∧x≤l)&&decide (-l≤y∧y≤l)):=by unfold inB;rw[←Bool.decide_and];exact decide_eq_decide.2 ⟨fun h=>⟨⟨h.1,h.2.1⟩,h.2.2⟩,fun h=>⟨h.1.1,h.1.2,h.2⟩⟩
theorem quiet_no {V:Nat→Int} {z:Int} (hb:BOk V) (h:liveV V=false):quietV z V=V:=by
 have h1:=hb.m8
 have h2:=hb.q11
 unfold liveV at h
 unfold quietV
 by_cases e:V 8=0
 · rw[decide_eq_true e];rfl
 · have e2:8≤V 11:=by
    by_cases e3:8≤V 11
    · exact e3
    · rw[decide_eq_true (by omega),decide_eq_false e3] at h;cases h
   rw[decide_eq_true e2,Bool.or_true];rfl
def anyB (q:Nat→Bool):Nat→Bool
 |0=>false
 |i+1=>anyB q i||q i
theorem anyB_congr {p q:Nat→Bool}:∀ n,(∀ j,j<n→p j=q j)→anyB p n=anyB q n
 |0,_=>rfl
 |n+1,h=>by rw[anyB,anyB,anyB_congr n (fun j hj=>h j (by omega)),h n (by omega)]
theorem anyB_no {q:Nat→Bool}:∀ n,(∀ j,j<n→q j=false)→anyB q n=false
 |0,_=>rfl
 |n+1,h=>by rw[anyB,anyB_no n (fun j hj=>h j (by omega)),h n (by omega)];rfl
def awk (fx:Nat→Bool) (L:Nat→Nat) (sl:Nat→Bool) (n t:Nat):Bool:=anyB (fun j=>decide (gnum fx L j=(t:Int))&& !sl j) n
theorem memL_any (L:Nat→Nat) (i:Nat) (sl:Nat→Bool):∀ n,(memL L i n).any (fun j=> !sl j)=anyB (fun j=>decide (L j=i)&& !sl j) n
 |0=>rfl
 | n+1=>by
   rw[memL,List.any_append,memL_any L i sl n,anyB]
   by_cases h:L n=i
   · rw[if_pos h,decide_eq_true h];simp
   · rw[if_neg h,decide_eq_false h];simp
theorem memL_awk {fx:Nat→Bool} {L:Nat→Nat} (hT:Tops fx L) {i k:Nat} (sl:Nat→Bool) (n:Nat) (hf:fstB fx L i=true) (hk:cntp (fstB fx L) i=k):(memL L i n).any (fun j=> !sl j)=awk fx L sl n k:=by
 rw[memL_any]
 refine anyB_congr n fun j _=> ?_
 have hfi:fx i=false:=by
  unfold fstB at hf
  cases h:fx i with
  |false=>rfl
  |true=>rw[h] at hf;cases hf
 have e:(L j=i)↔gnum fx L j=(k:Int):=by
  unfold gnum
  constructor
  · intro h
    have hx:fx j=false:=by rw[←hT.fx,h];exact hfi
    rw[if_neg (by rw[hx];simp),h,hk]
  · intro h
    by_cases hx:fx j=true
    · rw[if_pos hx] at h;omega
    · rw[if_neg hx] at h
      exact cntp_inj _ (hT.fst (by simpa using hx)) hf (by omega)
 rw[decide_eq_decide.2 e]
def slG (U:Nat→Int) (j:Nat):Bool:=decide (8≤U (j*12+11))
theorem getD_app (l:List Bool) (x:Bool) (t:Nat):(l++[x]).getD t false=if t=l.length then x else l.getD t false:=by
 rw[List.getD_eq_getElem?_getD,List.getD_eq_getElem?_getD]
 by_cases h:t<l.length
 · rw[List.getElem?_append_left h,if_neg (by omega)]
 · by_cases e:t=l.length
   · subst e;simp
   · rw[if_neg e,List.getElem?_eq_none (by simp;omega),List.getElem?_eq_none (by omega)]
theorem getD_set (l:List Bool) (q:Nat) (x:Bool) (t:Nat) (hq:q<l.length):(l.set q x).getD t false=if t=q then x else l.getD t false:=by
 rw[List.getD_eq_getElem?_getD,List.getD_eq_getElem?_getD,List.getElem?_set]
 by_cases e:q=t
 · subst e;simp[hq]
 · rw[if_neg e,if_neg (fun q=>e q.symm)]
theorem gnum_lt {fx:Nat→Bool} {L:Nat→Nat} (hT:Tops fx L) {i j:Nat} (hj:j<i):gnum fx L j<(cntp (fstB fx L) i:Int):=by
 unfold gnum
 by_cases h:fx j=true
 · rw[if_pos h];omega
 · rw[if_neg h]
   have:=hT.le j
   have:=cntp_in (fstB fx L) (show L j<i by omega) (hT.fst (by simpa using h))
   omega
theorem awL_eq {U G:Nat→Int} {L:Nat→Nat} {n:Nat} (hT:Tops (fxU U) L) (hG:∀ j,j<n→G j=gnum (fxU U) L j):∀ i,i≤n→(awL U G i).length=cntp (fstB (fxU U) L) i∧∀ t,t<cntp (fstB (fxU U) L) i→(awL U G i).getD t false=awk (fxU U) L (slG U) i t
 |0,_=>⟨rfl,fun t h=>absurd h (Nat.not_lt_zero _)⟩
 | i+1,hi=>by
   obtain⟨ih1,ih2⟩:=awL_eq hT hG i (by omega)
   have hs:(!decide (8≤U (i*12+11)))= !slG U i:=rfl
   rw[awL,hs,hG i (by omega)]
   cases hf:fxU U i with
   | true=>
     have hb:fstB (fxU U) L i=false:=by unfold fstB;rw[hf];rfl
     have hg:gnum (fxU U) L i= -1:=by unfold gnum;rw[if_pos hf]
     rw[cntp,hb,hg,awP_m _ _ _ (by omega)]
     refine⟨ih1,fun t ht=> ?_⟩
     have ht':t<cntp (fstB (fxU U) L) i:=ht
     rw[ih2 t ht']
     unfold awk
     rw[anyB,hg,decide_eq_false (by omega)]
     simp
   | false=>
     have hle:=hT.le i
     by_cases e:L i=i
     · have hb:fstB (fxU U) L i=true:=by unfold fstB;rw[hf,decide_eq_true e];rfl
       have hg:gnum (fxU U) L i=((awL U G i).length:Int):=by unfold gnum;rw[if_neg (by rw[hf];simp),e,ih1]
       have hset:((awL U G i)++[false]).set (awL U G i).length (!slG U i)=(awL U G i)++[!slG U i]:=by simp
       rw[hg,awP_n,hset,cntp,hb]
       refine⟨by rw[List.length_append,ih1];rfl,fun t ht=> ?_⟩
       have ht':t<cntp (fstB (fxU U) L) i+1:=ht
       rw[getD_app]
       unfold awk
       rw[anyB]
       by_cases q:t=(awL U G i).length
       · rw[if_pos q,anyB_no i (fun j hj=>by
          have:=gnum_lt hT hj
          rw[decide_eq_false (by omega)];rfl),hg,decide_eq_true (by omega)]
         simp
       · rw[if_neg q,ih2 t (by omega),hg,decide_eq_false (by omega)]
         unfold awk
         simp
     · have hb:fstB (fxU U) L i=false:=by unfold fstB;rw[decide_eq_false e];simp
       have hlt:=cntp_in (fstB (fxU U) L) (show L i<i by omega) (hT.fst hf)
       have hg:gnum (fxU U) L i=(cntp (fstB (fxU U) L) (L i):Int):=by unfold gnum;rw[if_neg (by rw[hf];simp)]
       rw[hg,awP_o _ _ _ (by omega),cntp,hb]
       refine⟨by rw[List.length_set,ih1];rfl,fun t ht=> ?_⟩
       have ht':t<cntp (fstB (fxU U) L) i:=ht
       rw[getD_set _ _ _ _ (by omega),ih2 _ hlt]
       unfold awk
       rw[anyB,hg]
       by_cases q:t=cntp (fstB (fxU U) L) (L i)
       · rw[if_pos q,←q,decide_eq_true (by rfl)]
         simp
       · rw[if_neg q,ih2 t ht',decide_eq_false (by omega)]
         unfold awk
         simp
end Go.Proofs.YthajilkjfkppoaaGreatDoor
namespace Go.Proofs.YthajilkjfkppoaaGreatDoor
open Go.RowKit
set_option linter.unusedVariables false
set_option linter.unusedSimpArgs false
theorem HL.some {w:World} {base cb:Nat} {v:Value} {l:List Nat} (h:HL w base cb v l) (hl:0<l.length):∃ g c:Nat,v= .slice (some ⟨g,0,none⟩) l.length c∧base≤g∧g<w.heap.size:=by
 rcases h.2 with⟨_,e⟩|⟨g,cap,cur,hv,hb,_⟩
 · omega
 · exact⟨g,cap,hv,hb,(h.lt g (by rw[hv];rfl)).2⟩
theorem LV.blk {w wr w':World} {t g cap n:Nat} {xs:List Value} (h:LV w wr t g cap n xs) (hb:Below w.heap.size wr w') (e:w'.heap[g]? =wr.heap[g]?):LV w w' t g cap n xs:=by
 refine⟨h.bel.trans hb,h.len,h.own.1,?_⟩
 rcases h.own.2 with⟨q,_⟩|⟨g',cap',cur,hv,hb',hg,rest⟩
 · cases q
 · cases hv
   exact .inr ⟨g,cap,cur,rfl,hb',e.trans hg,rest⟩
theorem LV.sm {w wr w':World} {B t g cap n:Nat} {xs:List Value} (h:LV w wr t g cap n xs) (hs:Sm B wr w') (hB:w.heap.size≤B):LV w w' t g cap n xs:=by
 refine h.blk (hs.below.mono hB) ?_
 rcases h.own.2 with⟨q,_⟩|⟨g',cap',cur,hv,hb',hg,rest⟩
 · cases q
 · cases hv
   exact(hs.cells _ _ hg rfl).trans hg.symm
theorem LV.made (w:World) (t n:Nat) (hn:n≤maxLen):LV w (w.alloc (.cells (madeCells #[.int .i64 0] n) t)) t w.heap.size n n (IV (List.replicate n 0)):=by
 have e:(madeCells #[Value.int .i64 0] n).toList=IV (List.replicate n 0):=by
  unfold madeCells IV
  apply List.ext_getElem?
  intro j
  by_cases h:j<n
  · simp[h,Nat.mod_one]
  · simp[h]
 refine⟨(Below.refl _ _).alloc (Nat.le_refl _) _,by rw[IV_len,List.length_replicate],by rw[IV_len,List.length_replicate,Nat.mul_one],.inr ⟨w.heap.size,n,_,rfl,Nat.le_refl _,Go.Deep.blk_alloc_new _ _,Nat.le_refl _,hn,by rw[size_madeCells,Nat.mul_one],?_⟩⟩
 rw[e,Nat.mul_one,List.take_of_length_le (by rw[IV_len,List.length_replicate];exact Nat.le_refl _)]
structure Nr (w A:World) (g lb n:Nat) (l:List Int):Prop where
 lv:LV w A 3 g n n (IV l)
 box:A.cell? ⟨lb,0,none⟩=some (.slice (some ⟨g,0,none⟩) n n)
 lo:w.heap.size≤lb
 ne:lb≠g
section
variable {w A A':World} {g lb n:Nat} {l:List Int}
theorem Nr.lt (h:Nr w A g lb n l):lb<A.heap.size:=cell_lt (a:=⟨lb,0,none⟩) h.box
theorem Nr.len (h:Nr w A g lb n l):l.length=n:=by have:=h.lv.len;rwa [IV_len] at this
theorem Nr.blk (h:Nr w A g lb n l) (hb:Below w.heap.size A A') (e1:A'.heap[g]? =A.heap[g]?) (e2:A'.heap[lb]? =A.heap[lb]?):Nr w A' g lb n l:=
 ⟨h.lv.blk hb e1,(World.cell?_of_block (w:=A) (a:=⟨lb,0,none⟩) e2).trans h.box,h.lo,h.ne⟩
theorem Nr.below {B:Nat} (h:Nr w A g lb n l) (hb:Below B A A') (hB:w.heap.size≤B) (h1:g<B) (h2:lb<B):Nr w A' g lb n l:=h.blk (hb.mono hB) (hb.block g h1) (hb.block lb h2)
theorem Nr.on (h:Nr w A g lb n l) (hb:Below A.heap.size A A'):Nr w A' g lb n l:=h.below hb h.lv.bel.size h.lv.lt.2 h.lt
theorem Nr.sm {B:Nat} (h:Nr w A g lb n l) (hs:Sm B A A') (hB:w.heap.size≤B):Nr w A' g lb n l:=⟨h.lv.sm hs hB,hs.cell h.box,h.lo,h.ne⟩
theorem Nr.set (h:Nr w A g lb n l) (j:Nat) (x:Int):Nr w (A.setCell ⟨g,j,none⟩ (.int .i64 x)) g lb n (l.set j x):=
 ⟨by rw[←IV_set];exact h.lv.set j _,by rw[cset_far (by simp;exact h.ne)];exact h.box,h.lo,h.ne⟩
end
section
attribute [local go_sem] Oper.semAt_some
end
end Go.Proofs.YthajilkjfkppoaaGreatDoor
namespace Go.Proofs.YthajilkjfkppoaaGreatDoor
open Go.RowKit
set_option linter.unusedVariables false
set_option linter.unusedSimpArgs false
theorem oneAwake_any {cb n base:Nat} {C:Nat→Nat→Int} {S:Nat→Value} {v:Value} {ms:List Nat} {sl:Nat→Bool} (w:World) (hC:Cs w cb n C S) (h:HL w base cb v ms) (hl:∀ j,j∈ms→j<n) (hn:n≤12) (hms:ms.length≤12) (hs:∀ j,j<n→decide (C 11 j=8)=sl j) (b:Bool) (hb:ms.any (fun j=> !sl j)=b):
 Calls Tryz.prog 117 #[v] w fun e w'=>e= .returned (.bool b)∧Below w.heap.size w w':=by
 have hset:=cset_map
 obtain⟨ad,cc,rfl⟩:=h.is
 go_enter Tryz.func117,Tryz.ntmps117
 go_upto_region 2 with fail
 go_loopw [7] (fun s wr=>∃ q:Nat,q≤ms.length∧s= .int .i64 (q:Int)∧(ms.take q).any (fun j=> !sl j)=false∧Below w.heap.size w wr) (fun s _=>ms.length-(intOf s).toNat)
 case atStart=>exact⟨0,Nat.zero_le _,rfl,rfl,Below.refl _ _⟩
 case round=>
  obtain⟨q,hq,rfl,hno,hB⟩:=hrel
  by_cases hlt:q<ms.length
  · obtain⟨g,c,he,-,-⟩:=h.some (by omega)
    cases he
    have hw:=h.below hB
    obtain⟨c0,c1⟩:=hw.cells hlt
    obtain⟨r,hr⟩:∃ r,ms[q]=r:=⟨_,rfl⟩
    rw[hr] at c0
    have hrn:r<n:=hl r (hr▸List.getElem_mem hlt)
    have hqi:(q:Int)<(ms.length:Int):=by omega
    have hCw:=hC.below hB
    have hE1:Below wr.heap.size wr (wr.alloc (Obj.cells #[.int .i64 (r:Int),.pointer (some ⟨cb,0,none⟩)] 59)):=(Below.refl _ _).alloc (Nat.le_refl _) _
    have hsr:=hs r hrn
    have htk:Shut ((ms.take (q+1)).any (fun j=> !sl j)= !sl r):=by
     unfold Shut
     rw[List.take_succ_eq_append_getElem hlt,List.any_append,hno,hr];simp
    cases hsl:sl r with
    | true=>
      rw[hsl] at hsr htk
      go_wp2_with (go_at_call 24;refine(kSleeps (Cs.hat (hCw.below hE1) hrn (by omega))).mono ?_;rw[hsr];rintro e w1 ⟨rfl,hb1⟩)
      go_roundw
      case rel=>exact⟨q+1,by omega,by go_num,htk.out,hB.trans ((hE1.trans (hb1.mono hE1.size)).mono hB.size)⟩
      case measure=>simp[intOf];omega
    | false=>
      rw[hsl] at hsr htk
      obtain rfl:true=b:=by
       rw[←hb,eq_comm,List.any_eq_true]
       exact⟨r,hr▸List.getElem_mem hlt,by rw[hsl];rfl⟩
      go_wp2_with (go_at_call 24;refine(kSleeps (Cs.hat (hCw.below hE1) hrn (by omega))).mono ?_;rw[hsr];rintro e w1 ⟨rfl,hb1⟩)
      go_ret
      exact⟨rfl,hB.trans ((hE1.trans (hb1.mono hE1.size)).mono hB.size)⟩
  · obtain rfl:q=ms.length:=by omega
    rw[List.take_length,hb] at hno
    subst hno
    go_wp2
    go_ret
    exact⟨rfl,hB⟩
structure Vr (w A:World) (H lb t:Nat) (v:Value) (m:Nat) (xs:List Value):Prop where
 bel:Below w.heap.size w A
 box:A.cell? ⟨lb,0,none⟩=some v
 nf:A.frozen? ⟨lb,0,none⟩=false
 own:A.ownsRow H t 1 v m xs
 lo:w.heap.size≤lb
 hi:lb<H
section
variable {w A A':World} {H lb t m:Nat} {v:Value} {xs:List Value}
theorem Vr.lt (h:Vr w A H lb t v m xs):lb<A.heap.size:=cell_lt (a:=⟨lb,0,none⟩) h.box
theorem Vr.isCells (h:Vr w A H lb t v m xs):∀ b o,v.ownBlock=some b→A.heap[b]? =some o→o.isCells=true:=by
 intro b o hb ho
 rcases h.own.2 with⟨hv,_⟩|⟨g,cap,cur,hv,_,hg,_⟩
 · subst hv;cases hb
 · subst hv
   simp only[Value.ownBlock,Option.some.injEq] at hb
   subst hb
   rw[hg] at ho;cases ho;rfl
theorem Vr.kx {B:Nat} (h:Vr w A H lb t v m xs) (k:Kx B H A A') (hB:w.heap.size≤B) (hl:lb<B):Vr w A' H lb t v m xs:=by
 refine⟨h.bel.trans (k.below.mono hB),(k.below.cell (p:=⟨lb,0,none⟩) hl).trans h.box,(k.below.frozen (p:=⟨lb,0,none⟩) hl).trans h.nf,⟨h.own.1,?_⟩,h.lo,h.hi⟩
 rcases h.own.2 with q|⟨g,cap,cur,hv,hb,hg,rest⟩
 · exact .inl q
 · exact .inr ⟨g,cap,cur,hv,hb,k.cells _ _ hg rfl hb,rest⟩
theorem Vr.sm {B:Nat} (h:Vr w A H lb t v m xs) (k:Sm B A A') (hB:w.heap.size≤B):Vr w A' H lb t v m xs:=by
 refine⟨h.bel.trans (k.below.mono hB),k.cell h.box,k.frozen h.box h.nf,⟨h.own.1,?_⟩,h.lo,h.hi⟩
 rcases h.own.2 with q|⟨g,cap,cur,hv,hb,hg,rest⟩
 · exact .inl q
 · exact .inr ⟨g,cap,cur,hv,hb,k.cells _ _ hg rfl,rest⟩
theorem Vr.on (h:Vr w A H lb t v m xs) (k:Below A.heap.size A A'):Vr w A' H lb t v m xs:=by
 refine⟨h.bel.trans (k.mono h.bel.size),(k.cell (p:=⟨lb,0,none⟩) h.lt).trans h.box,(k.frozen (p:=⟨lb,0,none⟩) h.lt).trans h.nf,⟨h.own.1,?_⟩,h.lo,h.hi⟩
 rcases h.own.2 with q|⟨g,cap,cur,hv,hb,hg,rest⟩
 · exact .inl q
 · exact .inr ⟨g,cap,cur,hv,hb,(k.block _ (Array.getElem?_eq_some_iff.1 hg).1).trans hg,rest⟩
theorem Vr.push (h:Vr w A H lb t v m xs) {Y w7:World} (hE:Below A.heap.size A Y) (hg:Y.grownBy w7 v.ownBlock) {v':Value} {m':Nat} {xs':List Value} (ho:w7.ownsRow H t 1 v' m' xs'):
 (w7.cell? ⟨lb,0,none⟩=some v∧w7.frozen? ⟨lb,0,none⟩=false)∧Vr w (w7.setCell ⟨lb,0,none⟩ v') H lb t v' m' xs'∧Fr (fun b=>b=lb∨H≤b) A (w7.setCell ⟨lb,0,none⟩ v'):=by
 have h7:=h.on hE
 have hlo:∀ b,v.ownBlock=some b→H≤b:=fun b e=>(World.ownsRow.lt h7.own b e).1
 have hF7:Fr (fun b=>v.ownBlock=some b) Y w7:=Fr.grown hg (fun b e=>e) h7.isCells
 have hi:=h.hi
 have nlb:¬ (v.ownBlock=some lb):=fun e=>by have:=hlo _ e;omega
 have c:=(hF7.cell (p:=⟨lb,0,none⟩) h7.lt nlb).trans h7.box
 have f:=(hF7.frozen (p:=⟨lb,0,none⟩) h7.lt nlb).trans h7.nf
 have hF:Fr (fun b=>b=lb∨H≤b) A (w7.setCell ⟨lb,0,none⟩ v'):=((Fr.of_below hE).trans (hF7.mono (fun _ _ e=> .inr (hlo _ e)))).trans (Fr.setCell (p:=⟨lb,0,none⟩) (.inl rfl) _)
 have hlo':=h.lo
 refine⟨⟨c,f⟩,⟨h.bel.trans (hF.below h.bel.size (fun b e=>e.elim (fun e=>by omega) (fun e=>by omega))),?_,?_,⟨ho.1,?_⟩,h.lo,h.hi⟩,hF⟩
 · rw[cset_map,c];rfl
 · rw[World.frozen?_setCell];exact f
 · rcases ho.2 with q|⟨g,cap,cur,hv,hb,hg,rest⟩
   · exact .inl q
   · exact .inr ⟨g,cap,cur,hv,hb,(Below.heap_setCell w7 ⟨lb,0,none⟩ v' g (by show ¬ g=lb;omega)).trans hg,rest⟩
end
section
attribute [local go_sem] Oper.semAt_some
end
end Go.Proofs.YthajilkjfkppoaaGreatDoor
namespace Go.Proofs.YthajilkjfkppoaaGreatDoor
open Go.RowKit
set_option linter.unusedVariables false
set_option linter.unusedSimpArgs false
def memG (G:Nat→Int) (n t:Nat):List Nat:=(List.range n).filter fun j=>decide (G j=(t:Int))
theorem memG_mem {G:Nat→Int} {n t j:Nat}:j∈memG G n t↔j<n∧G j=(t:Int):=by unfold memG;rw[List.mem_filter,List.mem_range,decide_eq_true_iff]
theorem memG_len (G:Nat→Int) (n t:Nat):(memG G n t).length≤n:=Nat.le_trans (List.length_filter_le _ _) (by rw[List.length_range];exact Nat.le_refl _)
def AwL (w:World) (base cb:Nat) (v:Value) (G:Nat→Int) (n:Nat) (gs:List Nat):Prop:=
 ∃ a c,v= .slice a gs.length c∧∀ q (h:q<gs.length),∃ b o vq,a=some ⟨b,o,none⟩∧base≤b∧b<w.heap.size∧w.cell? ⟨b,o+q,none⟩=some vq∧HL w base cb vq (memG G n gs[q])
theorem AwL.fr {w w':World} {base cb n:Nat} {v:Value} {G:Nat→Int} {gs:List Nat} {X:Nat→Prop} (h:AwL w base cb v G n gs) (hF:Fr X w w') (hX:∀ b,base≤b→b<w.heap.size→¬ X b):AwL w' base cb v G n gs:=by
 obtain⟨a,c,e,hq⟩:=h
 refine⟨a,c,e,fun q h=> ?_⟩
 obtain⟨b,o,vq,e1,h1,h2,h3,h4⟩:=hq q h
 exact⟨b,o,vq,e1,h1,Nat.lt_of_lt_of_le h2 hF.size,(hF.cell (p:=⟨b,o+q,none⟩) h2 (hX b h1 h2)).trans h3,h4.frame hF fun b' e'=>hX b' (h4.lt b' e').1 (h4.lt b' e').2⟩
def wkU (P:Nat→Bool) (n:Nat) (U:Nat→Int):Nat→Int:=mapR (fun i V=>wakeV (P i) V) U n
theorem wkU_row {P:Nat→Bool} {n:Nat} {U:Nat→Int} {j:Nat} (hj:j<n):∀ i,i<12→colOf (wkU P n U) i j=wakeV (P j) (fun i=>U (j*12+i)) i:=fun i hi=>by unfold colOf wkU;rw[mapR_in hj hi]
theorem wkU_congr {P P':Nat→Bool} {n:Nat} {U:Nat→Int} (h:∀ j,j<n→P j=P' j):∀ i j,i<12→j<n→colOf (wkU P n U) i j=colOf (wkU P' n U) i j:=fun i j hi hj=>by rw[wkU_row hj i hi,wkU_row hj i hi,h j hj]
theorem wkU_set {P P':Nat→Bool} {n:Nat} {U:Nat→Int} {j:Nat} (hb:BOk (fun i=>U (j*12+i))) (hj:j<n) (hs:colOf (wkU P n U) 11 j=8) (hP:∀ k,k<n→P' k=(P k||decide (k=j))):∀ i k,i<12→k<n→setC (colOf (wkU P n U)) 11 j 0 i k=colOf (wkU P' n U) i k:=fun i k hi hk=>by
 rw[wkU_row hj 11 (by omega)] at hs
 have hPj:P j=false:=by
  cases e:P j with
  |false=>rfl
  | true=>
    rw[e] at hs
    unfold wakeV at hs
    cases e2:decide (8≤U (j*12+11)) with
    |true=>simp only[e2,Bool.true_and,cond_true] at hs;simp[setV] at hs
    | false=>
      simp only[e2,Bool.true_and,cond_false] at hs
      have:=of_decide_eq_false e2
      omega
 rw[hPj] at hs
 have hs':U (j*12+11)=8:=hs
 rw[wkU_row hk i hi,hP k hk]
 unfold setC
 by_cases e:k=j
 · subst e
   rw[hPj,decide_eq_true rfl,Bool.false_or]
   unfold wakeV
   rw[decide_eq_true (by show (8:Int)≤U (k*12+11);omega)]
   by_cases ei:i=11
   · subst ei;simp[setV]
   · simp[setV,ei]
     rw[wkU_row hk i hi,hPj]
     rfl
 · rw[if_neg (fun q=>e q.2),wkU_row hk i hi,decide_eq_false e,Bool.or_false]
theorem wkU_no {P P':Nat→Bool} {n:Nat} {U:Nat→Int} {j:Nat} (hb:BOk (fun i=>U (j*12+i))) (hj:j<n) (hs:¬ colOf (wkU P n U) 11 j=8) (hP:∀ k,k<n→P' k=(P k||decide (k=j))):∀ i k,i<12→k<n→colOf (wkU P n U) i k=colOf (wkU P' n U) i k:=fun i k hi hk=>by
 rw[wkU_row hj 11 (by omega)] at hs
 rw[wkU_row hk i hi,wkU_row hk i hi,hP k hk]
 by_cases e:k=j
 · subst e
   rw[decide_eq_true rfl,Bool.or_true]
   cases e:P k with
   |true=>rfl
   | false=>
     rw[e] at hs
     have hs':¬ U (k*12+11)=8:=hs
     have:0≤U (k*12+11)∧U (k*12+11)≤8:=hb.q11
     unfold wakeV
     rw[decide_eq_false (by show ¬ (8:Int)≤U (k*12+11);omega)]
     rfl
 · rw[decide_eq_false e,Bool.or_false]
theorem goApart {w:World} {rb g m c cb n:Nat} {C U:Nat→Int} {S:Nat→Value} (hR0:Rg w rb g m c cb C 0) (hC0:Cs w cb n (colOf U) S) (hm:m≤1048576) (hn:n≤1048576) (hbb:Bods n U) (ct:CtOk n m C) (hrb:¬ Xc S rb) (hg:¬ Xc S g) (hcb:¬ cb=rb):
 Calls Tryz.prog 170 #[.pointer (some ⟨rb,0,none⟩),(.func (.func 172) #[] #[])] w fun e w'=>e= .returned (.tuple #[])∧Cs w' cb n (colOf (apartN C U m)) S∧Fr (fun b=>Xc S b∨b=rb) w w':=by
 have hset:=cset_map
 have hxr:∀ b,Xc S b→¬ b=rb:=fun b hb e=>hrb (e▸hb)
 have c0:=hR0.c0
 go_enter Tryz.func170,Tryz.ntmps170
 go_upto_region 1 with fail
 go_loopw [9] (fun s wr=>∃ k:Nat,k≤m∧s= .int .i64 (k:Int)∧Rg wr rb g m c cb C (k % m)∧Cs wr cb n (colOf (apartN C U k)) S∧Fr (fun b=>Xc S b∨b=rb) w wr) (fun s _=>m-(intOf s).toNat)
 case atStart=>exact⟨0,Nat.zero_le _,rfl,by rw[Nat.zero_mod];exact hR0,hC0,Fr.refl _ _⟩
 case round=>
  clear hR0 hC0 c0
  obtain⟨k,hk,rfl,hR,hC,hF⟩:=hrel
  by_cases hlt:k<m
  · have hkm:(k:Int)<(m:Int):=by omega
    rw[Nat.mod_eq_of_lt hlt] at hR
    have ca:=ct.a k hlt
    have cb_:=ct.b k hlt
    have cn:=ct.ne k hlt
    have cx:=ct.x k hlt
    have cy:=ct.y k hlt
    have cd:=ct.d k hlt
    have hB:=(hbb.aparts ct k hk).1
    have HN:Shut (apartN C U (k+1)=apartU (apartN C U k) (C (k*5)).toNat (C (k*5+1)).toNat (C (k*5+2)) (C (k*5+3)) (C (k*5+4))):=by show _=_;rw[apartN]
    obtain⟨A,hA⟩:∃ A:Nat,C (k*5)=(A:Int):=⟨(C (k*5)).toNat,by omega⟩
    obtain⟨B,hBB⟩:∃ B:Nat,C (k*5+1)=(B:Int):=⟨(C (k*5+1)).toNat,by omega⟩
    rw[hA,hBB,Int.toNat_natCast,Int.toNat_natCast] at HN
    rw[hA] at ca cn
    rw[hBB] at cb_ cn
    go_wp2_with (first
  |(go_at_call 172;refine(mApart _ _ _ (hC.frame hF4 hcb hxr) hn (by omega) (by omega) (by omega) (hB.row (by omega)) (hB.row (by omega)) cx cy cd).mono ?_;rintro e w5 ⟨rfl,hC5,hF5⟩)
  | (go_at_call 183;refine(take_q (j:=k) hR hlt hm _ _ _ _ _ rfl rfl rfl hA hBB).mono ?_;rintro e w4 ⟨rfl,hR4,hF4⟩))
    have hF9:Fr (fun b=>Xc S b∨b=rb) w w5:=(hF.trans (hF4.mono fun _ _ e=> .inr e)).trans (hF5.mono fun _ _ e=> .inl e)
    have hR9:=hR4.fr hF5 hrb hg
    go_roundw
    case rel=>exact⟨k+1,by omega,by go_num,hR9,by rw[HN.out];exact hC5,hF9⟩
    case measure=>simp[intOf];omega
  · obtain rfl:k=m:=by omega
    go_wp2_with fail
    go_end0
    exact⟨rfl,hC,hF⟩
theorem goApart0 {w:World} {rb c:Nat} (c0:w.cell? ⟨rb,0,none⟩=some (.slice none 0 c)):
 Calls Tryz.prog 170 #[.pointer (some ⟨rb,0,none⟩),(.func (.func 172) #[] #[])] w fun e w'=>e= .returned (.tuple #[])∧w'=w:=by
 go_enter Tryz.func170,Tryz.ntmps170
 go_upto_region 1 with fail
 refine wp_loop_rounds 1 ?_
 rw[rounds_succ]
 go_wp2_with fail
 go_end0
 exact⟨rfl,rfl⟩
theorem moveApart_q {w:World} {rb g m c cb n:Nat} {C U:Nat→Int} {S:Nat→Value} (hR0:Rg w rb g m c cb C 0) (hC0:Cs w cb n (colOf U) S) (hm:m≤1048576) (hn:n≤1048576) (hbb:Bods n U) (ct:CtOk n m C) (hrb:¬ Xc S rb) (hg:¬ Xc S g) (hcb:¬ cb=rb):
 Calls Tryz.prog 152 #[.pointer (some ⟨rb,0,none⟩)] w fun e w'=>e= .returned (.tuple #[])∧Cs w' cb n (colOf (apartN C U m)) S∧Fr (fun b=>Xc S b∨b=rb) w w':=by
 go_enter Tryz.func152,Tryz.ntmps152
 go_wp2_with (go_at_call 170;refine(goApart hR0 hC0 hm hn hbb ct hrb hg hcb).mono ?_;rintro e w1 ⟨rfl,h1,h2⟩)
 go_end0
 exact⟨rfl,h1,h2⟩
theorem moveApart_0 {w:World} {rb c:Nat} (c0:w.cell? ⟨rb,0,none⟩=some (.slice none 0 c)):
 Calls Tryz.prog 152 #[.pointer (some ⟨rb,0,none⟩)] w fun e w'=>e= .returned (.tuple #[])∧w'=w:=by
 go_enter Tryz.func152,Tryz.ntmps152
 go_wp2_with (go_at_call 170;refine(goApart0 c0).mono ?_;rintro e w1 ⟨rfl,rfl⟩)
 go_end0
 exact⟨rfl,rfl⟩
abbrev conW (V:Nat→Int):Value:= .agg #[.int .i64 (V 0),.int .i64 (V 1),.int .i64 (V 2),.int .i64 (V 3),.int .i64 (V 4)]
def conR (n:Nat) (U:Nat→Int):List Int:=bif bodsB n U then conL (colOf U) n else []
theorem conR_len (n:Nat) (U:Nat→Int):∃ m,(conR n U).length=m*5∧m≤144:=by
 unfold conR
 cases h:bodsB n U with
 |false=>exact⟨0,rfl,by omega⟩
 | true=>
   obtain⟨m,h1,h2⟩:=conOut_len (colOf U) n n
   refine⟨m,h1,Nat.le_trans h2 ?_⟩
   have h12:n≤12:=by unfold bodsB at h;rw[Bool.and_eq_true,decide_eq_true_eq] at h;exact h.1
   have:=Nat.mul_le_mul h12 h12
   omega
theorem OutL.nil {w:World} {t k:Nat} {R:Nat→Int}:OutL w w t k none 0 0 R:=⟨Below.refl _ _,OwnL.nil _ _ _ _ _⟩
theorem contactsI_q (a:Option Addr) (n c:Nat) (U:Nat→Int) (N:Nat) (w:World) (h:Flat w a (n*12) U) (hn:n≤1048576) (hN:(conR n U).length=N*5):
 Calls Tryz.prog 9 #[.slice a n c] w fun e w'=>∃ a' c',e= .returned (.slice a' N c')∧OutL w w' 40 5 a' N c' (ofL (conR n U)):=by
 have hset:=cset_map
 cases hok:bodsB n U with
 | true=>
   have e0:conR n U=conL (colOf U) n:=by unfold conR;rw[hok];rfl
   rw[e0] at hN ⊢
   clear e0
   have h12:n≤12:=by unfold bodsB at hok;rw[Bool.and_eq_true,decide_eq_true_eq] at hok;exact hok.1
   go_enter Tryz.func9,Tryz.ntmps9
   go_wp2_with (first
    |(go_at_call 21;refine(columnsOf_ok a n c U _ h hn hok).mono ?_;rintro e w1 ⟨cb,S,rfl,hcb,hC,hb1⟩)
    |(go_at_call 22;refine(contacts_any cb n (colOf U) S _ hC h12).mono ?_;rintro e w2 ⟨a2,m2,c2,rfl,hl2,hO2⟩))
   go_ret
   obtain rfl:m2=N:=by omega
   exact⟨a2,c2,rfl,hb1.trans (hO2.bel.mono hb1.size),hO2.own.base hb1.size⟩
 | false=>
   have e0:conR n U=[]:=by unfold conR;rw[hok];rfl
   rw[e0] at hN ⊢
   clear e0
   rw[List.length_nil] at hN
   obtain rfl:N=0:=by omega
   clear hN
   go_enter Tryz.func9,Tryz.ntmps9
   go_wp2_with (go_at_call 21;refine(columnsOf_no a n c U _ h hn hok).mono ?_;rintro e w1 ⟨rfl,hb1⟩)
   go_ret
   exact⟨none,0,rfl,hb1,OwnL.nil _ _ _ _ _⟩
theorem contactsI_r {n:Nat} {U R:Nat→Int} (hR:R=ofL (conR n U)) (a:Option Addr) (c N:Nat) (w:World) (h:Flat w a (n*12) U) (hn:n≤1048576) (hN:(conR n U).length=N*5):
 Calls Tryz.prog 9 #[.slice a n c] w fun e w'=>∃ a' c',e= .returned (.slice a' N c')∧OutL w w' 40 5 a' N c' R:=by subst hR;exact contactsI_q a n c U N w h hn hN
def bcB (n m:Nat) (U Ct:Nat→Int):Bool:=bodsB n U&&decide (m≤144)&&ctsB n Ct m
end Go.Proofs.YthajilkjfkppoaaGreatDoor
namespace Go.Proofs.YthajilkjfkppoaaGreatDoor
open Go.RowKit
set_option linter.unusedVariables false
set_option linter.unusedSimpArgs false
section
attribute [local go_sem] Oper.semAt_some
theorem countQuiet_any (mb cb n:Nat) (Z:Nat→Int) (aq:Option Addr) (qc:Nat) (U:Nat→Int) (S:Nat→Value) (w:World) (hC:Cs w cb n (colOf U) S) (hm0:w.cell? ⟨mb,0,none⟩=some (.pointer (some ⟨cb,0,none⟩))) (hm5:w.cell? ⟨mb,5,none⟩=some (.slice aq n qc)) (hQ0:Flat w aq n Z) (hqn:∀ b o,aq=some ⟨b,o,none⟩→0<n→¬ Xc S b) (hmx:¬ Xc S mb) (hn:n≤12) (hbb:Bods n U) (hZ:∀ k,k<n→0≤Z k∧Z k≤8):
 Calls Tryz.prog 122 #[.pointer (some ⟨mb,0,none⟩)] w fun e w'=>e= .returned (.tuple #[])∧Cs w' cb n (colOf (mapR (fun i V=>quietV (Z i) V) U n)) S∧Fr (Xc S) w w':=by
 have hset:=cset_map
 refine calls_of_wp_marks Tryz.func122 rfl ?_
 simp only[Tryz.ntmps122,List.size_toArray,List.length_cons,List.length_nil,Nat.reduceAdd,Nat.reduceSub,Array.replicate_succ,Array.replicate_zero,List.push_toArray,List.append_toArray,List.nil_append,List.cons_append]
 have hxl:∀ b,Xc S b→b<w.heap.size:=fun b e=>(hC.xlt e).2
 have hml:mb<w.heap.size:=cell_lt (a:=⟨mb,0,none⟩) hm0
 have hE0:Below w.heap.size w (w.alloc (Obj.cells #[.pointer (some ⟨mb,0,none⟩)] 127)):=(Below.refl _ _).alloc (Nat.le_refl _) _
 have hz0:w.heap.size<(w.alloc (Obj.cells #[.pointer (some ⟨mb,0,none⟩)] 127)).heap.size:=by simp
 have y0:(w.alloc (Obj.cells #[.pointer (some ⟨mb,0,none⟩)] 127)).cell? ⟨w.heap.size,0,none⟩=some (.pointer (some ⟨mb,0,none⟩)):=by go_simp
 go_upto_region 1 with fail
 generalize (w.alloc (Obj.cells #[.pointer (some ⟨mb,0,none⟩)] 127))=w2 at hE0 hz0 y0 ⊢
 have hC2:=hC.below hE0
 have m0:=keepL hE0 hm0
 have m5:=keepL hE0 hm5
 have hQF:=hQ0.below hE0
 have hbxx:¬ Xc S w.heap.size:=fun e=>by have:=hxl _ e;omega
 have hml2:mb<w2.heap.size:=by omega
 have hFr0:Fr (Xc S) w w2:=Fr.of_below hE0
 generalize w.heap.size=bx at*
 go_wp2
 refine wp_range_outV (gf:=148) (bound:= #[.pointer (some ⟨mb,0,none⟩)]) rfl live_enters (live_it mb cb n w2 hn) (fun _=>rfl) (fun k V A=>V=mapR (fun i V=>quietV (Z i) V) U k∧Cs A cb n (colOf V) S∧Fr (Xc S) w2 A) ?hI ?hcol U ⟨(mapR_0 _ _).symm,hC2,Fr.refl _ _⟩ ?hskip ?hround ?hdone
 case hI=>rintro k V A B ⟨h1,h2,h3⟩ hs;exact⟨h1,h2.sm hs,h3.sm hs (Nat.le_refl _)⟩
 case hcol=>rintro k V A ⟨h1,h2,h3⟩;exact⟨(h3.cell (p:=⟨mb,0,none⟩) hml2 hmx).trans m0,S,h2⟩
 case hskip=>
  rintro k V A ⟨rfl,h2,h3⟩ hk hl
  rw[lv_row hbb hk] at hl
  have hbk:BOk (fun j=>U (k*12+j)):=BOk.of (hbb.ok k hk)
  have e:mapR (fun i V=>quietV (Z i) V) U (k+1)=mapR (fun i V=>quietV (Z i) V) U k:=mapR_same fun j hj=>by
   show quietV _ _ j=_
   rw[quiet_no hbk hl]
  exact⟨e.symm,h2,h3⟩
 case hdone=>
  rintro D V A hD ⟨rfl,h2,h3⟩ hK
  go_wp2
  refine marks_ret (B:=w2.heap.size) hD rfl hK fun A' hS=>⟨_,results_none rfl _ _ _,rfl,h2.sm hS,hFr0.trans (h3.sm hS (Nat.le_refl _))⟩
 case hround=>
  rintro l k V A hl1 hl2 hA2 ⟨rfl,hCA,hFA⟩ hk hlv
  rw[lv_row hbb hk] at hlv
  have hbk:BOk (fun j=>U (k*12+j)):=BOk.of (hbb.ok k hk)
  have b4:=hbk.a4
  have b5:=hbk.a5
  have b6:=hbk.d6
  have b7:=hbk.d7
  have b8:=hbk.m8
  have b11:=hbk.q11
  (try simp only at b4 b5 b6 b7 b8 b11)
  simp only[List.zip_toArray,List.zip_cons_cons,List.zip_nil_left,List.foldl_toArray,List.foldl_cons,List.foldl_nil,List.setIfInBounds_toArray,List.set_cons_succ,List.set_cons_zero]
  refine wpIn_region_plain (by rintro⟨_,_,h⟩;exact h) (by kernel_rfl) ?_
  go_wp2
  refine⟨(KeepsOthers.alloc _ _).from _,fun A2 hS hKc hr=> ?_⟩
  clear hr
  have hE1:Below A.heap.size A (A.alloc (Obj.cells #[.int .i64 (k:Int),.pointer (some ⟨cb,0,none⟩)] 59)):=(Below.refl _ _).alloc (Nat.le_refl _) _
  have v0:(A.alloc (Obj.cells #[.int .i64 (k:Int),.pointer (some ⟨cb,0,none⟩)] 59)).cell? ⟨A.heap.size,0,none⟩=some (.int .i64 (k:Int)):=by go_simp
  have v1:(A.alloc (Obj.cells #[.int .i64 (k:Int),.pointer (some ⟨cb,0,none⟩)] 59)).cell? ⟨A.heap.size,1,none⟩=some (.pointer (some ⟨cb,0,none⟩)):=by go_simp
  generalize (A.alloc (Obj.cells #[.int .i64 (k:Int),.pointer (some ⟨cb,0,none⟩)] 59))=A1 at hE1 v0 v1 hS hKc
  have hCk:=(hCA.below hE1).sm hS
  have hFk:Fr (Xc S) w2 A2:=(hFA.trans (Fr.of_below hE1)).sm hS (Nat.le_refl _)
  have hKc2:Kcs (w2.heap.size+2) (fun _=>True) A A2:=(Kcs.of_below hE1).trans (hKc _ _ hl2)
  replace v0:=hS.cell v0
  replace v1:=hS.cell v1
  have hzb:w2.heap.size+2≤A.heap.size:=hA2
  clear hS hE1 hKc hCA hFA
  generalize A.heap.size=ba at v0 v1 hzb ⊢
  have hbal:ba<A2.heap.size:=cell_lt (a:=⟨ba,0,none⟩) v0
  have hbx:¬ Xc S ba:=fun e=>by have:=hxl _ e;omega
  have hat:=hCk.hat hk (by omega)
  rw[row_map] at hat
  have hmA0:=(hFk.cell (p:=⟨mb,0,none⟩) hml2 hmx).trans m0
  have hml3:mb<A2.heap.size:=cell_lt (a:=⟨mb,0,none⟩) hmA0
  refine wpIn_block ?_
  obtain⟨qb,qo,rfl,hql,hqc⟩:=hQF (by omega)
  have hqx:¬ Xc S qb:=hqn qb qo rfl (by omega)
  have hq0:=hqc k (by omega)
  have hmA5:=(hFk.cell (p:=⟨mb,5,none⟩) hml2 hmx).trans m5
  have hqA:=(hFk.cell (p:=⟨qb,qo+k,none⟩) hql hqx).trans hq0
  have hbx0:=(hFk.cell (p:=⟨bx,0,none⟩) (cell_lt (a:=⟨bx,0,none⟩) y0) hbxx).trans y0
  have hz1:=hZ k hk
  have hwz:IntKind.i64.wrap (Z k+1)=Z k+1:=i64w (by omega)
  have hkn:(k:Int)<(n:Int):=by omega
  obtain⟨bw,hbw⟩:∃ b,inB 8 (spX (fun i=>U (k*12+i))) (spY (fun i=>U (k*12+i)))=b:=⟨_,rfl⟩
  obtain⟨mz,hmin⟩:∃ z,mn (Z k+1) 7=z:=⟨_,rfl⟩
  gi_upto_region 4 with fail
  gi_cut [9] from 10 (fun s9 wc=>s9= .bool bw∧Below A2.heap.size A2 wc)
  case first=>
   refine wpIn_region_plain (by rintro⟨_,_,h⟩;exact h) (by kernel_rfl) ?_
   go_wp2_with (first
    |(have _:=hb11;go_at_call 88;refine(within2_q _ _ 8 bw _ (by omega) (by omega) hbw).mono ?_;rintro e w12 ⟨rfl,hb12⟩;have s0:=keepL hb12 u0;have s1:=keepL hb12 u1)
    |(go_at_call 26;refine(kSpeed (hat.below (Below.refl _ _)) b6 b7).mono ?_;rintro e w11 ⟨rfl,hb11⟩;have u0:=keepL hb11 v0;have u1:=keepL hb11 v1))
   gi_meet
   exact⟨rfl,hb11.trans (hb12.mono hb11.size)⟩
  case rest=>
  obtain⟨rfl,hB12⟩:=hcut
  have FF:∀ w',Below A2.heap.size A2 w'→w'.cell? ⟨ba,0,none⟩=some (.int .i64 (k:Int))∧w'.cell? ⟨ba,1,none⟩=some (.pointer (some ⟨cb,0,none⟩))∧w'.cell? ⟨bx,0,none⟩=some (.pointer (some ⟨mb,0,none⟩))∧w'.cell? ⟨mb,5,none⟩=some (.slice (some ⟨qb,qo,none⟩) n qc)∧w'.cell? ⟨qb,qo+k,none⟩=some (.int .i64 (Z k)):=fun w' s=>⟨keepL s v0,keepL s v1,keepL s hbx0,keepL s hmA5,keepL s hqA⟩
  have hz12:=hB12.size
  cases bw with
  | true=>
    gi_upto_region 5 with fail
    gi_cut [3] from 10 (fun s3 wc=>s3= .int .i64 mz∧Below A2.heap.size A2 wc)
    case first=>
     refine wpIn_region_held_drew (S:=fun w'=>Below A2.heap.size A2 w') (by kernel_rfl) (by rintro⟨_,_,h⟩;exact h) (by kernel_rfl) ?_ (fun hHeld=> ?_)
     · exact hB12.drew
     refine tq 0 hHeld ?_ (hv:=by(intro w' s;obtain⟨q0,q1,q2,q3,q4⟩:=FF w' s;go_simp;(try with_reducible rfl)))
     refine tq 1 hHeld ?_
     refine tq 2 hHeld ?_
     refine tq 3 hHeld ?_ (hv:=by(intro w' s;obtain⟨q0,q1,q2,q3,q4⟩:=FF w' s;go_simp;(try with_reducible rfl)))
     refine tq 4 hHeld ?_
     refine tq 5 hHeld ?_ (hv:=by(intro w' s;obtain⟨q0,q1,q2,q3,q4⟩:=FF w' s;go_simp;(try with_reducible rfl)))
     refine tq 6 hHeld ?_
     refine tq 7 hHeld ?_ (hv:=by(intro w' s;obtain⟨q0,q1,q2,q3,q4⟩:=FF w' s;go_simp;(try with_reducible rfl)))
     refine tq 8 hHeld ?_
     refine tc 9 fun K hK=> ?_
     (go_simp;refine tr hK (fun hHeld=> ?_);clear hK K)
     refine tq 10 hHeld ?_
     refine wpAnyH_done (by kernel_rfl) ?_ _
     gi_wp2
     all_goals(gi_meet;exact⟨congrArg (Value.int .i64) (by(try rw[←hmin]);unfold mn;split<;>omega),hHeld⟩)
    case rest=>
    clear hB12 hz12
    obtain⟨rfl,hB12⟩:=hcut
    have s0:=keepL hB12 v0
    have s1:=keepL hB12 v1
    gi_upto_region 6 with fail
    refine wpIn_region_plain (by rintro⟨_,_,h⟩;exact h) (by kernel_rfl) ?_
    go_wp2_with (go_at_call 146;refine(kSetQuiet (hCk.below hB12) hk (by omega) (mz)).mono ?_;rintro e X9 ⟨rfl,hC9,hF9⟩)
    have hall:Fr (Xc S) A2 X9:=(Fr.of_below hB12).trans hF9
    exact⟨hall.keeps _,⟨_,rfl,by
     have e1:mapR (fun i V=>quietV (Z i) V) U (k+1)=putRow (mapR (fun i V=>quietV (Z i) V) U k) k ((fun i V=>quietV (Z i) V) k (fun j=>U (k*12+j))):=(mapR_set (fun i V=>quietV (Z i) V) U k).symm
     rw[e1]
     refine hC9.congr fun i j hi hj=> ?_
     rw[col_put hi]
     by_cases ej:j=k
     · subst ej
       rw[if_pos rfl]
       show _=quietV (Z j) (fun q=>U (j*12+q)) i
       rw[quiet_yes hbk hlv]
       unfold setC setV
       by_cases e7:i=11
       · subst e7;simp only[and_self,reduceIte];rw[←hmin];rw[inB_two] at hbw;rw[hbw];rfl
       · simp[e7];exact mapR_row _ _ _ _
     · rw[if_neg ej];simp[setC,ej],hFk.trans hall⟩,hKc2.trans (Kcs.fr hall (fun b e=> .inl (by have:=hxl _ e;omega)))⟩
  | false=>
    have s0:=keepL hB12 v0
    have s1:=keepL hB12 v1
    gi_upto_region 6 with fail
    refine wpIn_region_plain (by rintro⟨_,_,h⟩;exact h) (by kernel_rfl) ?_
    go_wp2_with (go_at_call 146;refine(kSetQuiet (hCk.below hB12) hk (by omega) (0)).mono ?_;rintro e X9 ⟨rfl,hC9,hF9⟩)
    have hall:Fr (Xc S) A2 X9:=(Fr.of_below hB12).trans hF9
    exact⟨hall.keeps _,⟨_,rfl,by
     have e1:mapR (fun i V=>quietV (Z i) V) U (k+1)=putRow (mapR (fun i V=>quietV (Z i) V) U k) k ((fun i V=>quietV (Z i) V) k (fun j=>U (k*12+j))):=(mapR_set (fun i V=>quietV (Z i) V) U k).symm
     rw[e1]
     refine hC9.congr fun i j hi hj=> ?_
     rw[col_put hi]
     by_cases ej:j=k
     · subst ej
       rw[if_pos rfl]
       show _=quietV (Z j) (fun q=>U (j*12+q)) i
       rw[quiet_yes hbk hlv]
       unfold setC setV
       by_cases e7:i=11
       · subst e7;simp only[and_self,reduceIte];rw[inB_two] at hbw;rw[hbw];rfl
       · simp[e7];exact mapR_row _ _ _ _
     · rw[if_neg ej];simp[setC,ej],hFk.trans hall⟩,hKc2.trans (Kcs.fr hall (fun b e=> .inl (by have:=hxl _ e;omega)))⟩
end
end Go.Proofs.YthajilkjfkppoaaGreatDoor
namespace Go.Proofs.YthajilkjfkppoaaGreatDoor
open Go.RowKit
set_option linter.unusedVariables false
set_option linter.unusedSimpArgs false
theorem IV_num {l:List Int} {n:Nat} (h:l.length=n):IV l=numL (n*1) (ofL l):=by
 apply List.ext_getElem?
 intro j
 by_cases e:j<n
 · rw[IV_get (by omega),numL_get (by omega)]
 · rw[List.getElem?_eq_none (by rw[IV_len];omega),List.getElem?_eq_none (by rw[numL_len];omega)]
theorem LV.out {w wr:World} {t g cap n:Nat} {l:List Int} (h:LV w wr t g cap n (IV l)):OutL w wr t 1 (some ⟨g,0,none⟩) n cap (ofL l):=by
 refine⟨h.bel,?_⟩
 have hl:=h.len
 rw[IV_len] at hl
 have ho:=h.own
 rw[IV_num hl] at ho
 exact ho
def conN (n:Nat) (U:Nat→Int):Nat:=(conL (colOf U) n).length/5
def grpU (n:Nat) (U:Nat→Int):List Int:=grpL U (ofL (conL (colOf U) n)) (conN n U) n
def grpO (n:Nat) (U:Nat→Int):List Int:=bif bodsB n U then grpU n U else []
end Go.Proofs.YthajilkjfkppoaaGreatDoor
namespace Go.Proofs.YthajilkjfkppoaaGreatDoor
open Go.RowKit
set_option linter.unusedVariables false
set_option linter.unusedSimpArgs false
def bolL (m:Nat) (R:Nat→Bool):List Value:=(List.range m).map fun q=>Value.bool (R q)
theorem bolL_get {m:Nat} {R:Nat→Bool} {q:Nat} (h:q<m):(bolL m R)[q]? =some (.bool (R q)):=by simp[bolL,h]
def OwnB (w:World) (base:Nat) (v:Value) (n:Nat) (R:Nat→Bool):Prop:=w.ownsRow base 4 1 v n (bolL n R)
theorem OwnB.base {w:World} {b B n:Nat} {v:Value} {R:Nat→Bool} (h:OwnB w b v n R) (hB:B≤b):OwnB w B v n R:=by
 refine⟨h.1,?_⟩
 rcases h.2 with q|⟨g,cap,cur,hv,hb,rest⟩
 · exact .inl q
 · exact .inr ⟨g,cap,cur,hv,by omega,rest⟩
section
variable {w w':World} {base n g c:Nat} {v:Value} {R:Nat→Bool} {a:Option Addr}
theorem OwnB.nil (w:World) (base:Nat) (R:Nat→Bool):OwnB w base (.slice none 0 0) 0 R:=World.ownsRow_nil w base _ _
theorem OwnB.loc (h:OwnB w base (.slice a n c) n R) (h0:0<n):∃ g,a=Option.some ⟨g,0,none⟩∧base≤g∧g<w.heap.size:=by
 rcases h.2 with⟨hv,hn⟩|⟨g,cap,cur,hv,hb,hg,_⟩
 · omega
 · simp only[Value.slice.injEq,true_and] at hv
   exact⟨g,hv.1,hb,(Array.getElem?_eq_some_iff.1 hg).1⟩
theorem OwnB.cellq (h:OwnB w base (.slice (Option.some ⟨g,0,none⟩) n c) n R) {q:Nat} (hq:q<n):w.cell? ⟨g,q,none⟩=Option.some (.bool (R q)):=by
 rw[World.ownsRow.cellAt h q (by omega),bolL_get hq]
theorem OwnB.flat (h:OwnB w base (.slice a n c) n R):FlatB w a n R:=by
 intro h0
 obtain⟨g,rfl,_,hl⟩:=h.loc h0
 exact⟨g,0,rfl,hl,fun j hj=>by rw[Nat.zero_add];exact h.cellq hj⟩
end
structure OutB (w w':World) (a:Option Addr) (n c:Nat) (R:Nat→Bool):Prop where
 bel:Below w.heap.size w w'
 own:OwnB w' w.heap.size (.slice a n c) n R
theorem OutB.up {w w' w0:World} {n c:Nat} {a:Option Addr} {R:Nat→Bool} (h:OutB w w' a n c R) (hb:Below w0.heap.size w0 w):OutB w0 w' a n c R:=⟨hb.trans (h.bel.mono hb.size),h.own.base hb.size⟩
end Go.Proofs.YthajilkjfkppoaaGreatDoor
namespace Go.Proofs.YthajilkjfkppoaaGreatDoor
open Go.RowKit
set_option linter.unusedVariables false
set_option linter.unusedSimpArgs false
def awO (n:Nat) (U:Nat→Int):List Bool:=bif bodsB n U then awL U (ofL (grpU n U)) n else []
end Go.Proofs.YthajilkjfkppoaaGreatDoor
