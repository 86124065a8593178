/- Texts of a proof. -/
import Derived.Test.YtbdbbdjifgpgeaaGreatB47
import Derived.Test.YtbdbbdjifgpgeaaGreatB36
import Derived.Deep.RegionHeld3
import Derived.Deep.DeepCutAuto
import Derived.Test.YtbdbbdjifgpgeaaGreatS7a
import Derived.Test.YtbdbbdjifgpgeaaGreatB8
import Derived.Test.YtbdbbdjifgpgeaaGreatBdOk
import Derived.LoopNIn
import Derived.LoopIn
import Derived.OwnWalkIn
import Derived.Test.YtbdbbdjifgpgeaaGreatB10
set_option maxHeartbeats 16000000
set_option maxRecDepth 20000
namespace Go.Proofs.YtbdbbdjifgpgeaaGreat
open Go.RowKit
set_option linter.unusedVariables false
set_option linter.unusedSimpArgs false
theorem IV_num {l:List Int} {n:Nat} (h:l.length=n):IV l=numL (n*1) (ofL l):=by
 apply List.ext_getElem?
 intro j
 by_cases e:j<n
 · rw[IV_get (by omega),numL_get (by omega)]
 · rw[List.getElem?_eq_none (by rw[IV_len];omega),List.getElem?_eq_none (by rw[numL_len];omega)]
theorem LV.out {w wr:World} {t g cap n:Nat} {l:List Int} (h:LV w wr t g cap n (IV l)):OutL w wr t 1 (some ⟨g,0,none⟩) n cap (ofL l):=by
 refine⟨h.bel,?_⟩
 have hl:=h.len
 rw[IV_len] at hl
 have ho:=h.own
 rw[IV_num hl] at ho
 exact ho
def conN (n:Nat) (U:Nat→Int):Nat:=(conL (colOf U) n).length/5
theorem conN_eq {n:Nat} (U:Nat→Int) (hn:n≤12):(conL (colOf U) n).length=conN n U*5∧conN n U≤144:=by
 obtain⟨m,h1,h2⟩:=conOut_len (colOf U) n n
 have e:(conL (colOf U) n).length=m*5:=h1
 have:=Nat.mul_le_mul hn hn
 unfold conN
 rw[e]
 omega
def grpU (n:Nat) (U:Nat→Int):List Int:=grpL U (ofL (conL (colOf U) n)) (conN n U) n
def grpO (n:Nat) (U:Nat→Int):List Int:=bif bodsB n U then grpU n U else []
theorem bods_n {n:Nat} {U:Nat→Int} (h:bodsB n U=true):n≤12:=by unfold bodsB at h;rw[Bool.and_eq_true,decide_eq_true_eq] at h;exact h.1
theorem grpU_eq {n:Nat} {U:Nat→Int} (h12:n≤12):∀ j,j<n→ofL (grpU n U) j=gnum (fxU U) (lab (edg U (ofL (conL (colOf U) n))) (conN n U)) j:=grpL_eq (con_ct (colOf U) (conN_eq U h12).1)
def anyB (q:Nat→Bool):Nat→Bool
 |0=>false
 |i+1=>anyB q i||q i
theorem anyB_congr {p q:Nat→Bool}:∀ n,(∀ j,j<n→p j=q j)→anyB p n=anyB q n
 |0,_=>rfl
 |n+1,h=>by rw[anyB,anyB,anyB_congr n (fun j hj=>h j (by omega)),h n (by omega)]
theorem anyB_no {q:Nat→Bool}:∀ n,(∀ j,j<n→q j=false)→anyB q n=false
 |0,_=>rfl
 |n+1,h=>by rw[anyB,anyB_no n (fun j hj=>h j (by omega)),h n (by omega)];rfl
def awk (fx:Nat→Bool) (L:Nat→Nat) (sl:Nat→Bool) (n t:Nat):Bool:=anyB (fun j=>decide (gnum fx L j=(t:Int))&& !sl j) n
theorem memL_any (L:Nat→Nat) (i:Nat) (sl:Nat→Bool):∀ n,(memL L i n).any (fun j=> !sl j)=anyB (fun j=>decide (L j=i)&& !sl j) n
 |0=>rfl
 | n+1=>by
   rw[memL,List.any_append,memL_any L i sl n,anyB]
   by_cases h:L n=i
   · rw[if_pos h,decide_eq_true h];simp
   · rw[if_neg h,decide_eq_false h];simp
theorem memL_awk {fx:Nat→Bool} {L:Nat→Nat} (hT:Tops fx L) {i k:Nat} (sl:Nat→Bool) (n:Nat) (hf:fstB fx L i=true) (hk:cntp (fstB fx L) i=k):(memL L i n).any (fun j=> !sl j)=awk fx L sl n k:=by
 rw[memL_any]
 refine anyB_congr n fun j _=> ?_
 have hfi:fx i=false:=by
  unfold fstB at hf
  cases h:fx i with
  |false=>rfl
  |true=>rw[h] at hf;cases hf
 have e:(L j=i)↔gnum fx L j=(k:Int):=by
  unfold gnum
  constructor
  · intro h
    have hx:fx j=false:=by rw[←hT.fx,h];exact hfi
    rw[if_neg (by rw[hx];simp),h,hk]
  · intro h
    by_cases hx:fx j=true
    · rw[if_pos hx] at h;omega
    · rw[if_neg hx] at h
      exact cntp_inj _ (hT.fst (by simpa using hx)) hf (by omega)
 rw[decide_eq_decide.2 e]
def slG (U:Nat→Int) (j:Nat):Bool:=decide (8≤U (j*12+11))
theorem bool_eq {l m:List Bool} (h1:l.length=m.length) (h:∀ t,t<l.length→l.getD t false=m.getD t false):l=m:=by
 apply List.ext_getElem h1
 intro j hj hj'
 have:=h j hj
 rw[List.getD_eq_getElem?_getD,List.getD_eq_getElem?_getD,List.getElem?_eq_getElem hj,List.getElem?_eq_getElem hj'] at this
 exact this
theorem getD_app (l:List Bool) (x:Bool) (t:Nat):(l++[x]).getD t false=if t=l.length then x else l.getD t false:=by
 rw[List.getD_eq_getElem?_getD,List.getD_eq_getElem?_getD]
 by_cases h:t<l.length
 · rw[List.getElem?_append_left h,if_neg (by omega)]
 · by_cases e:t=l.length
   · subst e;simp
   · rw[if_neg e,List.getElem?_eq_none (by simp;omega),List.getElem?_eq_none (by omega)]
theorem getD_set (l:List Bool) (q:Nat) (x:Bool) (t:Nat) (hq:q<l.length):(l.set q x).getD t false=if t=q then x else l.getD t false:=by
 rw[List.getD_eq_getElem?_getD,List.getD_eq_getElem?_getD,List.getElem?_set]
 by_cases e:q=t
 · subst e;simp[hq]
 · rw[if_neg e,if_neg (fun q=>e q.symm)]
theorem gnum_lt {fx:Nat→Bool} {L:Nat→Nat} (hT:Tops fx L) {i j:Nat} (hj:j<i):gnum fx L j<(cntp (fstB fx L) i:Int):=by
 unfold gnum
 by_cases h:fx j=true
 · rw[if_pos h];omega
 · rw[if_neg h]
   have:=hT.le j
   have:=cntp_in (fstB fx L) (show L j<i by omega) (hT.fst (by simpa using h))
   omega
theorem awL_eq {U G:Nat→Int} {L:Nat→Nat} {n:Nat} (hT:Tops (fxU U) L) (hG:∀ j,j<n→G j=gnum (fxU U) L j):∀ i,i≤n→(awL U G i).length=cntp (fstB (fxU U) L) i∧∀ t,t<cntp (fstB (fxU U) L) i→(awL U G i).getD t false=awk (fxU U) L (slG U) i t
 |0,_=>⟨rfl,fun t h=>absurd h (Nat.not_lt_zero _)⟩
 | i+1,hi=>by
   obtain⟨ih1,ih2⟩:=awL_eq hT hG i (by omega)
   have hs:(!decide (8≤U (i*12+11)))= !slG U i:=rfl
   rw[awL,hs,hG i (by omega)]
   cases hf:fxU U i with
   | true=>
     have hb:fstB (fxU U) L i=false:=by unfold fstB;rw[hf];rfl
     have hg:gnum (fxU U) L i= -1:=by unfold gnum;rw[if_pos hf]
     rw[cntp,hb,hg,awP_m _ _ _ (by omega)]
     refine⟨ih1,fun t ht=> ?_⟩
     have ht':t<cntp (fstB (fxU U) L) i:=ht
     rw[ih2 t ht']
     unfold awk
     rw[anyB,hg,decide_eq_false (by omega)]
     simp
   | false=>
     have hle:=hT.le i
     by_cases e:L i=i
     · have hb:fstB (fxU U) L i=true:=by unfold fstB;rw[hf,decide_eq_true e];rfl
       have hg:gnum (fxU U) L i=((awL U G i).length:Int):=by unfold gnum;rw[if_neg (by rw[hf];simp),e,ih1]
       have hset:((awL U G i)++[false]).set (awL U G i).length (!slG U i)=(awL U G i)++[!slG U i]:=by simp
       rw[hg,awP_n,hset,cntp,hb]
       refine⟨by rw[List.length_append,ih1];rfl,fun t ht=> ?_⟩
       have ht':t<cntp (fstB (fxU U) L) i+1:=ht
       rw[getD_app]
       unfold awk
       rw[anyB]
       by_cases q:t=(awL U G i).length
       · rw[if_pos q,anyB_no i (fun j hj=>by
          have:=gnum_lt hT hj
          rw[decide_eq_false (by omega)];rfl),hg,decide_eq_true (by omega)]
         simp
       · rw[if_neg q,ih2 t (by omega),hg,decide_eq_false (by omega)]
         unfold awk
         simp
     · have hb:fstB (fxU U) L i=false:=by unfold fstB;rw[decide_eq_false e];simp
       have hlt:=cntp_in (fstB (fxU U) L) (show L i<i by omega) (hT.fst hf)
       have hg:gnum (fxU U) L i=(cntp (fstB (fxU U) L) (L i):Int):=by unfold gnum;rw[if_neg (by rw[hf];simp)]
       rw[hg,awP_o _ _ _ (by omega),cntp,hb]
       refine⟨by rw[List.length_set,ih1];rfl,fun t ht=> ?_⟩
       have ht':t<cntp (fstB (fxU U) L) i:=ht
       rw[getD_set _ _ _ _ (by omega),ih2 _ hlt]
       unfold awk
       rw[anyB,hg]
       by_cases q:t=cntp (fstB (fxU U) L) (L i)
       · rw[if_pos q,←q,decide_eq_true (by rfl)]
         simp
       · rw[if_neg q,ih2 t ht',decide_eq_false (by omega)]
         unfold awk
         simp
end Go.Proofs.YtbdbbdjifgpgeaaGreat
namespace Go.Proofs.YtbdbbdjifgpgeaaGreat
open Go.RowKit
set_option linter.unusedVariables false
set_option linter.unusedSimpArgs false
theorem oneAwake_any {cb n base:Nat} {C:Nat→Nat→Int} {S:Nat→Value} {v:Value} {ms:List Nat} {sl:Nat→Bool} (w:World) (hC:Cs w cb n C S) (h:HL w base cb v ms) (hl:∀ j,j∈ms→j<n) (hn:n≤12) (hms:ms.length≤12) (hs:∀ j,j<n→decide (C 11 j=8)=sl j) (b:Bool) (hb:ms.any (fun j=> !sl j)=b):
 Calls Tryz.prog 22 #[v] w fun e w'=>e= .returned (.bool b)∧Below w.heap.size w w':=by
 have hset:=cset_map
 obtain⟨ad,cc,rfl⟩:=h.is
 go_enter Tryz.func22,Tryz.ntmps22
 go_upto_region 2 with fail
 go_loopw [7] (fun s wr=>∃ q:Nat,q≤ms.length∧s= .int .i64 (q:Int)∧(ms.take q).any (fun j=> !sl j)=false∧Below w.heap.size w wr) (fun s _=>ms.length-(intOf s).toNat)
 case atStart=>exact⟨0,Nat.zero_le _,rfl,rfl,Below.refl _ _⟩
 case round=>
  obtain⟨q,hq,rfl,hno,hB⟩:=hrel
  by_cases hlt:q<ms.length
  · obtain⟨g,c,he,-,-⟩:=h.some (by omega)
    cases he
    have hw:=h.below hB
    obtain⟨c0,c1⟩:=hw.cells hlt
    obtain⟨r,hr⟩:∃ r,ms[q]=r:=⟨_,rfl⟩
    rw[hr] at c0
    have hrn:r<n:=hl r (hr▸List.getElem_mem hlt)
    have hqi:(q:Int)<(ms.length:Int):=by omega
    have hCw:=hC.below hB
    have hE1:Below wr.heap.size wr (wr.alloc (Obj.cells #[.int .i64 (r:Int),.pointer (some ⟨cb,0,none⟩)] 63)):=(Below.refl _ _).alloc (Nat.le_refl _) _
    have hsr:=hs r hrn
    have htk:Shut ((ms.take (q+1)).any (fun j=> !sl j)= !sl r):=by
     unfold Shut
     rw[List.take_succ_eq_append_getElem hlt,List.any_append,hno,hr];simp
    cases hsl:sl r with
    | true=>
      rw[hsl] at hsr htk
      go_wp2_with (go_at_call 41;refine(kSleeps (Cs.hat (hCw.below hE1) hrn (by omega))).mono ?_;rw[hsr];rintro e w1 ⟨rfl,hb1⟩)
      go_roundw
      case rel=>exact⟨q+1,by omega,by go_num,htk.out,hB.trans ((hE1.trans (hb1.mono hE1.size)).mono hB.size)⟩
      case measure=>simp[intOf];omega
    | false=>
      rw[hsl] at hsr htk
      obtain rfl:true=b:=by
       rw[←hb,eq_comm,List.any_eq_true]
       exact⟨r,hr▸List.getElem_mem hlt,by rw[hsl];rfl⟩
      go_wp2_with (go_at_call 41;refine(kSleeps (Cs.hat (hCw.below hE1) hrn (by omega))).mono ?_;rw[hsr];rintro e w1 ⟨rfl,hb1⟩)
      go_ret
      exact⟨rfl,hB.trans ((hE1.trans (hb1.mono hE1.size)).mono hB.size)⟩
  · obtain rfl:q=ms.length:=by omega
    rw[List.take_length,hb] at hno
    subst hno
    go_wp2
    go_ret
    exact⟨rfl,hB⟩
theorem step_push1 {P:Program} {w:World} {ops:Array Oper} {o:Oper} {a:Act} {K:Act→World→Prop} {Q:Exit→Act→World→Prop} {E:Prop} (hgd:o.guard=none) (s x:Operand) (t:TypeId)
 (ho:o.op= .call {callee:= .builtin .append,args:= #[s,x],argTypes:= #[t,t]}) (e bytes:Nat) (z:Value) (ht:P.underlying t=some (.slice e)) (hinfo:(P.info? e).map (fun i=>(i.zero,i.size,i.bytes))=some (some z,1,bytes)) (hzs:z.cells.size=1) (hby:bytes≤8)
 (base:Nat) (v:Value) (m:Nat) (xs:List Value) (hs:a.eval s=v) (h:w.ownsRow base e 1 v m xs) (b:Nat) (hx:a.eval x= .slice (some ⟨b,0,none⟩) 1 1) (u:Value) (hu:w.cell? ⟨b,0,none⟩=some u) (h1:u.oneCell'=true) (hn:m≤1048576) (hbase:base≤w.heap.size)
 (hK:∀ g' c' w',w'.ownsRow base e 1 (.slice (some ⟨g',0,none⟩) (m+1) c') (m+1) (xs++[u])→w.grownBy w' v.ownBlock→K (a.put o.dst (.slice (some ⟨g',0,none⟩) (m+1) c')) w'):
 if Region.wanted o (yielded ops a.tmps)=true then Oper.wp P o a w K Q else E:=by
 obtain⟨i,hi,hzz⟩:=Option.map_eq_some_iff.1 hinfo
 simp only[Prod.mk.injEq] at hzz
 obtain⟨hz,hsz,hb8⟩:=hzz
 refine step_append_lies w hgd s x t ho base e i z 1 bytes ht hi hz hsz hb8 hzs (by decide) v m xs hs h ⟨b,0,none⟩ 1 1 [u] hx rfl ?_ ?_ (by decide) (by unfold maxLen;omega) ?_ hbase _ rfl ?_
 · intro j v hv
   cases j with
   |zero=>simp at hv;subst hv;exact hu
   |succ j=>simp at hv
 · intro v hv;simp at hv;rw[hv];exact h1
 · have:(m+1)*bytes≤(m+1)*8:=Nat.mul_le_mul_left _ hby
   omega
 · intro g' cap' w' r1 r2 _ _
   exact hK g' cap' w' r1 r2
structure Vr (w A:World) (H lb t:Nat) (v:Value) (m:Nat) (xs:List Value):Prop where
 bel:Below w.heap.size w A
 box:A.cell? ⟨lb,0,none⟩=some v
 nf:A.frozen? ⟨lb,0,none⟩=false
 own:A.ownsRow H t 1 v m xs
 lo:w.heap.size≤lb
 hi:lb<H
section
variable {w A A':World} {H lb t m:Nat} {v:Value} {xs:List Value}
theorem Vr.lt (h:Vr w A H lb t v m xs):lb<A.heap.size:=cell_lt (a:=⟨lb,0,none⟩) h.box
theorem Vr.isCells (h:Vr w A H lb t v m xs):∀ b o,v.ownBlock=some b→A.heap[b]? =some o→o.isCells=true:=by
 intro b o hb ho
 rcases h.own.2 with⟨hv,_⟩|⟨g,cap,cur,hv,_,hg,_⟩
 · subst hv;cases hb
 · subst hv
   simp only[Value.ownBlock,Option.some.injEq] at hb
   subst hb
   rw[hg] at ho;cases ho;rfl
theorem Vr.kx {B:Nat} (h:Vr w A H lb t v m xs) (k:Kx B H A A') (hB:w.heap.size≤B) (hl:lb<B):Vr w A' H lb t v m xs:=by
 refine⟨h.bel.trans (k.below.mono hB),(k.below.cell (p:=⟨lb,0,none⟩) hl).trans h.box,(k.below.frozen (p:=⟨lb,0,none⟩) hl).trans h.nf,⟨h.own.1,?_⟩,h.lo,h.hi⟩
 rcases h.own.2 with q|⟨g,cap,cur,hv,hb,hg,rest⟩
 · exact .inl q
 · exact .inr ⟨g,cap,cur,hv,hb,k.cells _ _ hg rfl hb,rest⟩
theorem Vr.sm {B:Nat} (h:Vr w A H lb t v m xs) (k:Sm B A A') (hB:w.heap.size≤B):Vr w A' H lb t v m xs:=by
 refine⟨h.bel.trans (k.below.mono hB),k.cell h.box,k.frozen h.box h.nf,⟨h.own.1,?_⟩,h.lo,h.hi⟩
 rcases h.own.2 with q|⟨g,cap,cur,hv,hb,hg,rest⟩
 · exact .inl q
 · exact .inr ⟨g,cap,cur,hv,hb,k.cells _ _ hg rfl,rest⟩
theorem Vr.on (h:Vr w A H lb t v m xs) (k:Below A.heap.size A A'):Vr w A' H lb t v m xs:=by
 refine⟨h.bel.trans (k.mono h.bel.size),(k.cell (p:=⟨lb,0,none⟩) h.lt).trans h.box,(k.frozen (p:=⟨lb,0,none⟩) h.lt).trans h.nf,⟨h.own.1,?_⟩,h.lo,h.hi⟩
 rcases h.own.2 with q|⟨g,cap,cur,hv,hb,hg,rest⟩
 · exact .inl q
 · exact .inr ⟨g,cap,cur,hv,hb,(k.block _ (Array.getElem?_eq_some_iff.1 hg).1).trans hg,rest⟩
theorem Vr.push (h:Vr w A H lb t v m xs) {Y w7:World} (hE:Below A.heap.size A Y) (hg:Y.grownBy w7 v.ownBlock) {v':Value} {m':Nat} {xs':List Value} (ho:w7.ownsRow H t 1 v' m' xs'):
 (w7.cell? ⟨lb,0,none⟩=some v∧w7.frozen? ⟨lb,0,none⟩=false)∧Vr w (w7.setCell ⟨lb,0,none⟩ v') H lb t v' m' xs'∧Fr (fun b=>b=lb∨H≤b) A (w7.setCell ⟨lb,0,none⟩ v'):=by
 have h7:=h.on hE
 have hlo:∀ b,v.ownBlock=some b→H≤b:=fun b e=>(World.ownsRow.lt h7.own b e).1
 have hF7:Fr (fun b=>v.ownBlock=some b) Y w7:=Fr.grown hg (fun b e=>e) h7.isCells
 have hi:=h.hi
 have nlb:¬ (v.ownBlock=some lb):=fun e=>by have:=hlo _ e;omega
 have c:=(hF7.cell (p:=⟨lb,0,none⟩) h7.lt nlb).trans h7.box
 have f:=(hF7.frozen (p:=⟨lb,0,none⟩) h7.lt nlb).trans h7.nf
 have hF:Fr (fun b=>b=lb∨H≤b) A (w7.setCell ⟨lb,0,none⟩ v'):=((Fr.of_below hE).trans (hF7.mono (fun _ _ e=> .inr (hlo _ e)))).trans (Fr.setCell (p:=⟨lb,0,none⟩) (.inl rfl) _)
 have hlo':=h.lo
 refine⟨⟨c,f⟩,⟨h.bel.trans (hF.below h.bel.size (fun b e=>e.elim (fun e=>by omega) (fun e=>by omega))),?_,?_,⟨ho.1,?_⟩,h.lo,h.hi⟩,hF⟩
 · rw[cset_map,c];rfl
 · rw[World.frozen?_setCell];exact f
 · rcases ho.2 with q|⟨g,cap,cur,hv,hb,hg,rest⟩
   · exact .inl q
   · exact .inr ⟨g,cap,cur,hv,hb,(Below.heap_setCell w7 ⟨lb,0,none⟩ v' g (by show ¬ g=lb;omega)).trans hg,rest⟩
end
section
attribute [local go_sem] Oper.semAt_some
theorem groupAwake_any (a:Option Addr) (n c:Nat) (U:Nat→Int) (M:Nat) (w:World) (h:Flat w a (n*12) U) (hok:bodsB n U=true) (hn:n≤12) (hM:(conL (colOf U) n).length=M*5) (hMk:M≤1000) (hq:∀ j,j<n→decide (colOf U 11 j=8)=slG U j):
 Calls Tryz.prog 9 #[.slice a n c] w fun e w'=>∃ v:Value,∃ m bl,e= .returned v∧m=cntp (fstB (fxU U) (lab (edg U (ofL (conL (colOf U) n))) M)) n∧w'.ownsRow w.heap.size 4 1 v m (BV bl)∧bl.length=m∧(∀ t,t<m→bl.getD t false=awk (fxU U) (lab (edg U (ofL (conL (colOf U) n))) M) (slG U) n t)∧Below w.heap.size w w':=by
 have hset:=cset_map
 obtain⟨L,hL⟩:∃ L,lab (edg U (ofL (conL (colOf U) n))) M=L:=⟨_,rfl⟩
 have hT:Shut (Tops (fxU U) L):=hL▸lab_tops U _ M
 have hGr:∀ cb S w1,Cs w1 cb n (colOf U) S→ItG Tryz.prog 16 #[.pointer (some ⟨cb,0,none⟩)] (ColF cb n (fxU U)) (GrE cb n (fxU U) L) (cntp (fstB (fxU U) L) n) w1:=fun cb S w1 hC=>groups_any cb n U S M w1 hC hn hM hMk L (fun j=>by rw[←hL]) (fxU U)
 rw[hL]
 clear hL hM hMk
 obtain⟨sl,hsl0⟩:∃ s,slG U=s:=⟨_,rfl⟩
 rw[hsl0] at hq ⊢
 have hsl:=hq
 clear hq hsl0
 have hn20:n≤1048576:=by omega
 refine calls_of_wp_marks Tryz.func9 rfl ?_
 simp only[Tryz.ntmps9,List.size_toArray,List.length_cons,List.length_nil,Nat.reduceAdd,Nat.reduceSub,Array.replicate_succ,Array.replicate_zero,List.push_toArray,List.append_toArray,List.nil_append,List.cons_append]
 go_wp2_with (go_at_call 15;refine(columnsOf_ok a n c U _ h hn20 hok).mono ?_;rintro e w1 ⟨cb,S,rfl,hcb,hC,hb1⟩)
 have hE1:Below w1.heap.size w1 (w1.alloc (Obj.cells #[.slice none 0 0] 29)):=(Below.refl _ _).alloc (Nat.le_refl _) _
 have x1:(w1.alloc (Obj.cells #[.slice none 0 0] 29)).cell? ⟨w1.heap.size,0,none⟩=some (.slice none 0 0):=by go_simp
 have f1:(w1.alloc (Obj.cells #[.slice none 0 0] 29)).frozen? ⟨w1.heap.size,0,none⟩=false:=by go_simp
 have hz1:(w1.alloc (Obj.cells #[.slice none 0 0] 29)).heap.size=w1.heap.size+1:=by simp
 generalize (w1.alloc (Obj.cells #[.slice none 0 0] 29))=w2 at hE1 x1 f1 hz1 ⊢
 have hb1z:=hb1.size
 have hG2:=hGr cb S w2 (hC.below hE1)
 have hB2:Below w1.heap.size w1 w2:=hE1
 clear hGr
 refine wp_range_outG (gf:=16) (bound:= #[.pointer (some ⟨cb,0,none⟩)]) rfl groups_enters hG2 (fun H k args A hE=>by obtain⟨i,v,_,_,_,rfl,_⟩:=hE;rfl)
  (fun H k A=>w2.heap.size≤H∧∃ v bl,Vr w1 A H w1.heap.size 4 v k (BV bl)∧bl.length=k∧∀ t,t<k→bl.getD t false=awk (fxU U) L sl n t) ?hI ?hIs ?hcol ?h0 ?round ?done
 case hI=>rintro H k A B' ⟨h0,v,bl,h1,h2⟩ hk;exact⟨h0,v,bl,h1.kx hk (by omega) (by omega),h2⟩
 case hIs=>rintro H k A B' ⟨h0,v,bl,h1,h2⟩ hs;exact⟨h0,v,bl,h1.sm hs (by omega),h2⟩
 case hcol=>rintro H k A ⟨_,v,bl,h1,h2⟩;exact⟨_,_,hC.below h1.bel,fun j _=>rfl⟩
 case h0=>
  intro W0 hb hz
  exact⟨by omega,.slice none 0 0,[],⟨hE1.trans (hb.mono (by omega)),(hb.cell (p:=⟨w1.heap.size,0,none⟩) (by show w1.heap.size<w2.heap.size;omega)).trans x1,(hb.frozen (p:=⟨w1.heap.size,0,none⟩) (by show w1.heap.size<w2.heap.size;omega)).trans f1,World.ownsRow_nil _ _ _ _,Nat.le_refl _,by omega⟩,rfl,fun t ht=>absurd ht (Nat.not_lt_zero _)⟩
 case done=>
  rintro D H W hD ⟨h0,v,bl,h1,h2,h3⟩ hK
  have hbx:=h1.box
  go_wp2
  refine marks_ret (B:=w1.heap.size) (by omega) rfl hK fun W' hS=>⟨v,?_,v,_,bl,rfl,rfl,?_,h2,h3,hb1.trans ((h1.sm hS (Nat.le_refl _)).bel.mono hb1.size)⟩
  · simp[results,Tryz.results9,go_sem, *]
  · have ho:=(h1.sm hS (Nat.le_refl _)).own
    refine⟨ho.1,?_⟩
    rcases ho.2 with q|⟨g,cap,cur,hv,hb,rest⟩
    · exact .inl q
    · exact .inr ⟨g,cap,cur,hv,by omega,rest⟩
 case round=>
  rintro lr H m W args hlr1 hlr2 hWz ⟨hHz,v,bl,hV1,hlen,hbl⟩ hkk ⟨i,vv,hi,hfi,hck,rfl,hHL⟩
  have hmn:m<12:=by have:=cntp_le (fstB (fxU U) L) n;omega
  clear hG2 x1 f1 hkk
  have hLi:L i=i:=by unfold fstB at hfi;exact of_decide_eq_true (by simp at hfi;exact decide_eq_true hfi.2)
  have hmm:=memL_mem L i n
  have hml:=memL_le L i n
  have hm0:0<(memL L i n).length:=List.length_pos_of_mem ((hmm i).2 ⟨hi,hLi⟩)
  obtain⟨bk,hbk⟩:∃ b,(memL L i n).any (fun j=> !sl j)=b:=⟨_,rfl⟩
  have hbk':awk (fxU U) L sl n m=bk:=(memL_awk hT.out sl n hfi hck).symm.trans hbk
  generalize memL L i n=ms at hmm hml hm0 hbk hHL ⊢
  obtain⟨mg,mc,rfl,hmg,hmg2⟩:=hHL.some hm0
  simp only[List.zip_toArray,List.zip_cons_cons,List.zip_nil_left,List.foldl_toArray,List.foldl_cons,List.foldl_nil,List.setIfInBounds_toArray,List.set_cons_succ,List.set_cons_zero]
  refine wpIn_region_plain (by rintro⟨_,_,h⟩;exact h) (by kernel_rfl) ?_
  go_wp2
  refine⟨KeepsFrom.refl _ _,fun W2 hS hKc hr=> ?_⟩
  have hV2:=hV1.sm hS (by omega)
  have hHL2:=hHL.sm hS
  have hKc2:Kc (w2.heap.size+2) H W W2:=hKc _ _ hlr2
  have hz2:=hS.size
  clear hV1 hHL hKc hS hr
  have x0:=hV2.box
  have hbl':∀ t,t<m+1→(bl++[bk]).getD t false=awk (fxU U) L sl n t:=fun t ht=>by
   rw[getD_app]
   by_cases e:t=bl.length
   · rw[if_pos e,←hbk',show t=m by omega]
   · rw[if_neg e];exact hbl t (by omega)
  refine wpIn_block ?_
  refine wpIn_region_held_drew (S:=fun w'=>True) (by kernel_rfl) (by rintro⟨_,_,h⟩;exact h) (by kernel_rfl) ?_ (fun hHeld=> ?_)
  · trivial
  refine tq 1 hHeld ?_
  refine wpAnyH_ready (rs:=[0,2]) (by kernel_rfl) (by simp) ?_
  refine AllReadyH.cons rfl (fun K hK=> ?_) (AllReadyH.cons rfl (fun K hK=> ?_) AllReadyH.nil)
  · (go_simp
     refine tr hK (fun hHeld=> ?_) trivial
     clear hK K)
    refine tc 2 fun K hK=> ?_
    (go_simp
     (go_at_call 22;refine(oneAwake_any _ (hC.below (hV2.bel.drew)) (hHL2.below (Below.drew (Below.refl _ _))) (fun j hj=>((hmm j).1 hj).1) hn (by omega) hsl bk hbk).mono ?_;rintro e w31 ⟨rfl,hx⟩)
     have hx1:Below W2.heap.size W2 w31:=(Below.drew (Below.refl _ _)).trans hx
     have hV3:=hV2.on hx1
     clear x0 hx
     have x0:=hV3.box
     (try go_wp2_with fail)
     refine tr hK (fun hHeld=> ?_) trivial
     clear hK K)
    refine tc 3 fun K hK=> ?_
    (go_simp
     have hE3:Below w31.heap.size w31 (w31.alloc (Obj.cells #[.bool bk] 4)):=(Below.refl _ _).alloc (Nat.le_refl _) _
     have q0:(w31.alloc (Obj.cells #[.bool bk] 4)).cell? ⟨w31.heap.size,0,none⟩=some (.bool bk):=by go_simp
     generalize w31.alloc (Obj.cells #[.bool bk] 4)=w32 at hE3 q0 ⊢
     have hV4:=hV3.on hE3
     clear x0
     have x0:=hV4.box
     refine tr hK (fun hHeld=> ?_) trivial
     clear hK K)
    refine tc 4 fun K hK=> ?_
    (refine step_push1 (by rfl) _ _ _ (by rfl) 4 1 zcBool Tryz.underlying29 infoBool rfl (by decide) H v m (BV bl) (by rfl) hV4.own w31.heap.size (by rfl) (.bool bk) q0 rfl (by omega) (by have:=hE3.size;have:=hx1.size;omega) ?_
     intro g7 c7 w33 ho7 hg7
     obtain⟨⟨n0,nf⟩,hV5,hF5⟩:=hV3.push hE3 hg7 ho7
     refine tr hK (fun hHeld=> ?_) trivial
     clear hK K)
    refine tc 5 fun K hK=> ?_
    (go_simp
     refine tr hK (fun hHeld=> ?_) trivial
     clear hK K)
    refine wpAnyH_done (by kernel_rfl) ?_ _
    go_wp2_with fail
    exact⟨(KeepsFrom.of_below hx1).trans (hF5.keeps _),⟨hHz,_,bl++[bk],by rw[BV_app] at hV5;exact hV5,by simp[hlen],hbl'⟩,(hKc2.trans (Kc.of_below hx1)).trans (Kc.fr hF5 (fun b e=>e.elim (fun e=> .inl (by omega)) (fun e=> .inr e)))⟩
  · (go_simp
     (go_at_call 22;refine(oneAwake_any _ (hC.below (hV2.bel.drew)) (hHL2.below (Below.drew (Below.refl _ _))) (fun j hj=>((hmm j).1 hj).1) hn (by omega) hsl bk hbk).mono ?_;rintro e w31 ⟨rfl,hx⟩)
     have hx1:Below W2.heap.size W2 w31:=(Below.drew (Below.refl _ _)).trans hx
     have hV3:=hV2.on hx1
     clear x0 hx
     have x0:=hV3.box
     (try go_wp2_with fail)
     refine tr hK (fun hHeld=> ?_) trivial
     clear hK K)
    refine wpAnyH_ready (rs:=[0,3]) (by kernel_rfl) (by simp) ?_
    refine AllReadyH.cons rfl (fun K hK=> ?_) (AllReadyH.cons rfl (fun K hK=> ?_) AllReadyH.nil)
    · (go_simp
       refine tr hK (fun hHeld=> ?_) trivial
       clear hK K)
      refine tc 3 fun K hK=> ?_
      (go_simp
       have hE3:Below w31.heap.size w31 (w31.alloc (Obj.cells #[.bool bk] 4)):=(Below.refl _ _).alloc (Nat.le_refl _) _
       have q0:(w31.alloc (Obj.cells #[.bool bk] 4)).cell? ⟨w31.heap.size,0,none⟩=some (.bool bk):=by go_simp
       generalize w31.alloc (Obj.cells #[.bool bk] 4)=w32 at hE3 q0 ⊢
       have hV4:=hV3.on hE3
       clear x0
       have x0:=hV4.box
       refine tr hK (fun hHeld=> ?_) trivial
       clear hK K)
      refine tc 4 fun K hK=> ?_
      (refine step_push1 (by rfl) _ _ _ (by rfl) 4 1 zcBool Tryz.underlying29 infoBool rfl (by decide) H v m (BV bl) (by rfl) hV4.own w31.heap.size (by rfl) (.bool bk) q0 rfl (by omega) (by have:=hE3.size;have:=hx1.size;omega) ?_
       intro g7 c7 w33 ho7 hg7
       obtain⟨⟨n0,nf⟩,hV5,hF5⟩:=hV3.push hE3 hg7 ho7
       refine tr hK (fun hHeld=> ?_) trivial
       clear hK K)
      refine tc 5 fun K hK=> ?_
      (go_simp
       refine tr hK (fun hHeld=> ?_) trivial
       clear hK K)
      refine wpAnyH_done (by kernel_rfl) ?_ _
      go_wp2_with fail
      exact⟨(KeepsFrom.of_below hx1).trans (hF5.keeps _),⟨hHz,_,bl++[bk],by rw[BV_app] at hV5;exact hV5,by simp[hlen],hbl'⟩,(hKc2.trans (Kc.of_below hx1)).trans (Kc.fr hF5 (fun b e=>e.elim (fun e=> .inl (by omega)) (fun e=> .inr e)))⟩
    · (go_simp
       have hE3:Below w31.heap.size w31 (w31.alloc (Obj.cells #[.bool bk] 4)):=(Below.refl _ _).alloc (Nat.le_refl _) _
       have q0:(w31.alloc (Obj.cells #[.bool bk] 4)).cell? ⟨w31.heap.size,0,none⟩=some (.bool bk):=by go_simp
       generalize w31.alloc (Obj.cells #[.bool bk] 4)=w32 at hE3 q0 ⊢
       have hV4:=hV3.on hE3
       clear x0
       have x0:=hV4.box
       refine tr hK (fun hHeld=> ?_) trivial
       clear hK K)
      refine tc 0 fun K hK=> ?_
      (go_simp
       refine tr hK (fun hHeld=> ?_) trivial
       clear hK K)
      refine tc 4 fun K hK=> ?_
      (refine step_push1 (by rfl) _ _ _ (by rfl) 4 1 zcBool Tryz.underlying29 infoBool rfl (by decide) H v m (BV bl) (by rfl) hV4.own w31.heap.size (by rfl) (.bool bk) q0 rfl (by omega) (by have:=hE3.size;have:=hx1.size;omega) ?_
       intro g7 c7 w33 ho7 hg7
       obtain⟨⟨n0,nf⟩,hV5,hF5⟩:=hV3.push hE3 hg7 ho7
       refine tr hK (fun hHeld=> ?_) trivial
       clear hK K)
      refine tc 5 fun K hK=> ?_
      (go_simp
       refine tr hK (fun hHeld=> ?_) trivial
       clear hK K)
      refine wpAnyH_done (by kernel_rfl) ?_ _
      go_wp2_with fail
      exact⟨(KeepsFrom.of_below hx1).trans (hF5.keeps _),⟨hHz,_,bl++[bk],by rw[BV_app] at hV5;exact hV5,by simp[hlen],hbl'⟩,(hKc2.trans (Kc.of_below hx1)).trans (Kc.fr hF5 (fun b e=>e.elim (fun e=> .inl (by omega)) (fun e=> .inr e)))⟩
end
end Go.Proofs.YtbdbbdjifgpgeaaGreat
namespace Go.Proofs.YtbdbbdjifgpgeaaGreat
open Go.RowKit
set_option linter.unusedVariables false
set_option linter.unusedSimpArgs false
def bolL (m:Nat) (R:Nat→Bool):List Value:=(List.range m).map fun q=>Value.bool (R q)
theorem bolL_len (m:Nat) (R:Nat→Bool):(bolL m R).length=m:=by simp[bolL]
theorem bolL_get {m:Nat} {R:Nat→Bool} {q:Nat} (h:q<m):(bolL m R)[q]? =some (.bool (R q)):=by simp[bolL,h]
theorem BV_bol {l:List Bool} {n:Nat} (h:l.length=n):BV l=bolL n (fun j=>l.getD j false):=by
 apply List.ext_getElem?
 intro j
 by_cases e:j<n
 · rw[BV_get (by omega),bolL_get e]
 · rw[List.getElem?_eq_none (by rw[BV_len];omega),List.getElem?_eq_none (by rw[bolL_len];omega)]
def OwnB (w:World) (base:Nat) (v:Value) (n:Nat) (R:Nat→Bool):Prop:=w.ownsRow base 4 1 v n (bolL n R)
theorem OwnB.base {w:World} {b B n:Nat} {v:Value} {R:Nat→Bool} (h:OwnB w b v n R) (hB:B≤b):OwnB w B v n R:=by
 refine⟨h.1,?_⟩
 rcases h.2 with q|⟨g,cap,cur,hv,hb,rest⟩
 · exact .inl q
 · exact .inr ⟨g,cap,cur,hv,by omega,rest⟩
section
variable {w w':World} {base n g c:Nat} {v:Value} {R:Nat→Bool} {a:Option Addr}
theorem OwnB.nil (w:World) (base:Nat) (R:Nat→Bool):OwnB w base (.slice none 0 0) 0 R:=World.ownsRow_nil w base _ _
theorem OwnB.loc (h:OwnB w base (.slice a n c) n R) (h0:0<n):∃ g,a=Option.some ⟨g,0,none⟩∧base≤g∧g<w.heap.size:=by
 rcases h.2 with⟨hv,hn⟩|⟨g,cap,cur,hv,hb,hg,_⟩
 · omega
 · simp only[Value.slice.injEq,true_and] at hv
   exact⟨g,hv.1,hb,(Array.getElem?_eq_some_iff.1 hg).1⟩
theorem OwnB.cellq (h:OwnB w base (.slice (Option.some ⟨g,0,none⟩) n c) n R) {q:Nat} (hq:q<n):w.cell? ⟨g,q,none⟩=Option.some (.bool (R q)):=by
 rw[World.ownsRow.cellAt h q (by omega),bolL_get hq]
theorem OwnB.flat (h:OwnB w base (.slice a n c) n R):FlatB w a n R:=by
 intro h0
 obtain⟨g,rfl,_,hl⟩:=h.loc h0
 exact⟨g,0,rfl,hl,fun j hj=>by rw[Nat.zero_add];exact h.cellq hj⟩
end
structure OutB (w w':World) (a:Option Addr) (n c:Nat) (R:Nat→Bool):Prop where
 bel:Below w.heap.size w w'
 own:OwnB w' w.heap.size (.slice a n c) n R
theorem OutB.up {w w' w0:World} {n c:Nat} {a:Option Addr} {R:Nat→Bool} (h:OutB w w' a n c R) (hb:Below w0.heap.size w0 w):OutB w0 w' a n c R:=⟨hb.trans (h.bel.mono hb.size),h.own.base hb.size⟩
end Go.Proofs.YtbdbbdjifgpgeaaGreat
namespace Go.Proofs.YtbdbbdjifgpgeaaGreat
open Go.RowKit
set_option linter.unusedVariables false
set_option linter.unusedSimpArgs false
def awO (n:Nat) (U:Nat→Int):List Bool:=bif bodsB n U then awL U (ofL (grpU n U)) n else []
theorem awO_len (n:Nat) (U:Nat→Int):(awO n U).length≤12:=by
 unfold awO
 cases h:bodsB n U with
 |false=>exact Nat.zero_le _
 |true=>exact Nat.le_trans (awL_len _ _ n) (bods_n h)
theorem awO_y {n:Nat} {U:Nat→Int} (h:bodsB n U=true):awO n U=awL U (ofL (grpU n U)) n:=by unfold awO;rw[h];rfl
theorem awO_n {n:Nat} {U:Nat→Int} (h:bodsB n U=false):awO n U=[]:=by unfold awO;rw[h];rfl
theorem bods_body {U:Nat→Int} {n k:Nat} (h:bodsB n U=true) (l:k<n):bodyB (fun j=>U (k*12+j))=true:=by
 unfold bodsB at h
 rw[Bool.and_eq_true] at h
 have key:∀ m,allBB U m=true→k<m→stepBB U k=true:=by
  intro m
  induction m with
  |zero=>intro _ l;omega
  | succ m ih=>
    intro hm l
    unfold allBB at hm
    rw[Bool.and_eq_true] at hm
    by_cases e:k=m
    · subst e;exact hm.2
    · exact ih hm.1 (by omega)
 have:=key n h.2 l
 unfold stepBB at this
 rw[Bool.and_eq_true] at this
 exact this.1
theorem bods_quiet {U:Nat→Int} {n k:Nat} (h:bodsB n U=true) (l:k<n):0≤U (k*12+11)∧U (k*12+11)≤8:=by
 have h2:=bods_body h l
 unfold bodyB at h2
 simp only[Bool.and_eq_true] at h2
 exact of_decide_eq_true h2.2.2.2.2.2.2.2.1
theorem bods_q {n:Nat} {U:Nat→Int} (h:bodsB n U=true):∀ j,j<n→decide (colOf U 11 j=8)=slG U j:=fun j hj=>by
 have q:=bods_quiet h hj
 unfold slG colOf
 exact decide_eq_decide.2 ⟨fun e=>by omega,fun e=>by omega⟩
theorem awakeI_q (a:Option Addr) (n c:Nat) (U:Nat→Int) (N:Nat) (w:World) (h:Flat w a (n*12) U) (hn:n≤1048576) (hN:(awO n U).length=N):
 Calls Tryz.prog 9 #[.slice a n c] w fun e w'=>∃ a' c',e= .returned (.slice a' N c')∧OutB w w' a' N c' (fun j=>(awO n U).getD j false):=by
 have hset:=cset_map
 cases hok:bodsB n U with
 | true=>
   have h12:=bods_n hok
   obtain⟨hM,hMk⟩:=conN_eq U h12
   refine(groupAwake_any a n c U _ w h hok h12 hM (by omega) (bods_q hok)).mono ?_
   rintro e w' ⟨v,m,bl,rfl,hm,ho,hl,hb,hB⟩
   obtain⟨e1,e2⟩:=awL_eq (lab_tops U (ofL (conL (colOf U) n)) (conN n U)) (grpU_eq h12) n (Nat.le_refl _)
   have ee:bl=awO n U:=by
    rw[awO_y hok]
    exact bool_eq (by rw[hl,hm,e1]) (fun t ht=>by rw[hb t (by omega),e2 t (by omega)])
   subst ee
   obtain rfl:m=N:=by rw[←hl,hN]
   rw[BV_bol hl] at ho
   have hv:∃ a' c',v= .slice a' m c':=by
    rcases ho.2 with⟨hv,e⟩|⟨g,cap,cur,hv,_⟩
    · exact⟨_,_,by rw[hv,e]⟩
    · exact⟨_,_,hv⟩
   obtain⟨a',c',rfl⟩:=hv
   exact⟨a',c',rfl,hB,ho⟩
 | false=>
   rw[awO_n hok] at hN ⊢
   obtain rfl:0=N:=hN
   refine calls_of_wp_marks Tryz.func9 rfl ?_
   simp only[Tryz.ntmps9,List.size_toArray,List.length_cons,List.length_nil,Nat.reduceAdd,Nat.reduceSub,Array.replicate_succ,Array.replicate_zero,List.push_toArray,List.append_toArray,List.nil_append,List.cons_append]
   go_wp2_with (go_at_call 15;refine(columnsOf_no a n c U _ h hn hok).mono ?_;rintro e w1 ⟨rfl,hb1⟩)
   refine marks_ret0 (v:= .slice none 0 0) rfl ?_ ⟨none,0,rfl,hb1,OwnB.nil _ _ _⟩
   simp[results,Tryz.results9,go_sem, *]
end Go.Proofs.YtbdbbdjifgpgeaaGreat
