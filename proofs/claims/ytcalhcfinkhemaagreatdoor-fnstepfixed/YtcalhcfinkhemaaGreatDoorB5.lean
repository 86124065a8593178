/- Texts of a proof. -/
import Derived.Test.YtcalhcfinkhemaaGreatDoorB2
import Derived.ProofKit
import Derived.Test.YtcalhcfinkhemaaGreatDoorB1
import Derived.Test.YtcalhcfinkhemaaGreatDoorB4
import Derived.Deep.QuietTactic
import Derived.BigQuiet
import Derived.Deep.RegionWith
set_option maxHeartbeats 16000000
set_option maxRecDepth 20000
namespace Go.Proofs.YtcalhcfinkhemaaGreatDoor
set_option maxRecDepth 100000
def ordL:{l:List Char//Tryz.prog.initOrder=String.ofList l}:=⟨_,rfl⟩
theorem ownT:ownKnob Tryz.prog.godebug=none:=by kernel_rfl
theorem laidOutT:laidOutB Tryz.prog=true:=by kernel_rfl
end Go.Proofs.YtcalhcfinkhemaaGreatDoor
namespace Go.Proofs.YtcalhcfinkhemaaGreatDoor
open Go.RowKit
set_option linter.unusedVariables false
set_option linter.unusedSimpArgs false
def szB (n:Int):Bool:=decide (1≤n∧n≤25600)
theorem isSize_any (n:Int) (w:World):
 Calls Tryz.prog 138 #[.int .i64 n] w fun e w'=>e= .returned (.bool (szB n))∧w'=w:=by
 go_enter Tryz.func138,Tryz.ntmps138
 go_wp2
 all_goals
  go_ret
  refine⟨ret_bool ?_,rfl⟩
  unfold szB
  first|(simp;omega)|(simp;done)
def rdB (k wd h:Int):Bool:=decide (k=1∧(1≤wd∧wd≤25600)∧h=0)
def bxB (k wd h:Int):Bool:=decide (k=2∧(1≤wd∧wd≤25600)∧(1≤h∧h≤25600))
def shB (k wd h:Int):Bool:=rdB k wd h||bxB k wd h
abbrev s3 (k wd h:Int):Value:= .agg #[.int .i64 k,.int .i64 wd,.int .i64 h]
theorem figureOf_round (wd:Int) (w:World) (h1:1≤wd) (h2:wd≤25600):
 Calls Tryz.prog 114 #[s3 1 wd 0] w fun e w'=>e= .returned (.tuple #[.iface 199 (.agg #[.int .i64 wd]),.bool true])∧Below w.heap.size w w':=by
 have hs:szB wd=true:=by unfold szB;simp;omega
 go_enter Tryz.func114,Tryz.ntmps114
 go_wp2_with (go_at_call 138;refine(isSize_any _ _).mono ?_;rintro e w' ⟨rfl,rfl⟩)
 go_ret2
 exact⟨rfl,(Below.refl _ _).alloc (Nat.le_refl _) _⟩
theorem figureOf_box (wd h:Int) (w:World) (h1:1≤wd) (h2:wd≤25600) (h3:1≤h) (h4:h≤25600):
 Calls Tryz.prog 114 #[s3 2 wd h] w fun e w'=>e= .returned (.tuple #[.iface 201 (.agg #[.int .i64 wd,.int .i64 h]),.bool true])∧Below w.heap.size w w':=by
 have hs:szB wd=true:=by unfold szB;simp;omega
 have hs2:szB h=true:=by unfold szB;simp;omega
 go_enter Tryz.func114,Tryz.ntmps114
 go_wp2_with (go_at_call 138;refine(isSize_any _ _).mono ?_;rintro e w' ⟨rfl,rfl⟩)
 go_ret2
 exact⟨rfl,(Below.refl _ _).alloc (Nat.le_refl _) _⟩
theorem figureOf_none (k wd h:Int) (w:World) (hn:shB k wd h=false):
 Calls Tryz.prog 114 #[s3 k wd h] w fun e w'=>e= .returned (.tuple #[.nilIface,.bool false])∧Below w.heap.size w w':=by
 have HN:Hid (¬ ((k=1∧(1≤wd∧wd≤25600)∧h=0)∨(k=2∧(1≤wd∧wd≤25600)∧(1≤h∧h≤25600)))):=by
  unfold shB rdB bxB at hn
  simp only[Bool.or_eq_false_iff,decide_eq_false_iff_not] at hn
  rintro(h|h)
  · exact hn.1 h
  · exact hn.2 h
 clear hn
 have hsz:Hid (∀ n,szB n=true→1≤n∧n≤25600):=by intro n hn;unfold szB at hn;simpa using hn
 go_enter Tryz.func114,Tryz.ntmps114
 go_wp2_with (go_at_call 138;refine(isSize_any _ _).mono ?_;rintro e w' ⟨rfl,rfl⟩)
 all_goals
  first
   |(go_ret2;exact⟨rfl,(Below.refl _ _).alloc (Nat.le_refl _) _⟩)
   |(exfalso;subst k;exact HN.out (.inl ⟨rfl,hsz.out _ ‹_›,by simpa using ‹(h==0)=true›⟩))
   |(exfalso;subst k;exact HN.out (.inr ⟨rfl,hsz.out _ ‹szB wd=true›,hsz.out _ ‹szB h=true›⟩))
theorem shapeOk_any (k wd h:Int) (w:World):
 Calls Tryz.prog 82 #[s3 k wd h] w fun e w'=>e= .returned (.bool (shB k wd h))∧Below w.heap.size w w':=by
 by_cases hr:rdB k wd h=true
 · have e:shB k wd h=true:=by unfold shB;rw[hr];rfl
   have E:Hid (shB k wd h=true):=e
   clear e
   unfold rdB at hr
   obtain⟨rfl,⟨h1,h2⟩,rfl⟩:=of_decide_eq_true hr
   clear hr
   go_enter Tryz.func82,Tryz.ntmps82
   go_wp2_with (go_at_call 114;refine(figureOf_round _ _ h1 h2).mono ?_;rintro e w1 ⟨rfl,hb1⟩)
   go_ret
   exact⟨ret_bool E.out.symm,((Below.refl _ _).alloc (Nat.le_refl _) _).trans (hb1.mono (by simp))⟩
 · by_cases hb:bxB k wd h=true
   · have e:shB k wd h=true:=by unfold shB;rw[hb];simp
     have E:Hid (shB k wd h=true):=e
     clear e hr
     unfold bxB at hb
     obtain⟨rfl,⟨h1,h2⟩,h3,h4⟩:=of_decide_eq_true hb
     clear hb
     go_enter Tryz.func82,Tryz.ntmps82
     go_wp2_with (go_at_call 114;refine(figureOf_box _ _ _ h1 h2 h3 h4).mono ?_;rintro e w1 ⟨rfl,hb1⟩)
     go_ret
     exact⟨ret_bool E.out.symm,((Below.refl _ _).alloc (Nat.le_refl _) _).trans (hb1.mono (by simp))⟩
   · have e:shB k wd h=false:=by unfold shB;simp[hr,hb]
     have E:Hid (shB k wd h=false):=e
     clear e hr hb
     go_enter Tryz.func82,Tryz.ntmps82
     go_wp2_with (go_at_call 114;refine(figureOf_none _ _ _ _ E.out).mono ?_;rintro e w1 ⟨rfl,hb1⟩)
     go_ret
     exact⟨ret_bool E.out.symm,((Below.refl _ _).alloc (Nat.le_refl _) _).trans (hb1.mono (by simp))⟩
theorem sShapeOk_any (k wd h:Int) (w:World):
 Calls Tryz.prog 66 #[s3 k wd h] w fun e w'=>e= .returned (.bool (shB k wd h))∧Below w.heap.size w w':=by
 go_enter Tryz.func66,Tryz.ntmps66
 go_wp2_with (go_at_call 25;refine(l1In_any _ _ _ _).mono ?_;rintro e w' ⟨rfl,rfl⟩)
 all_goals
  go_ret
  refine⟨ret_bool ?_,(Below.refl _ _).alloc (Nat.le_refl _) _⟩
  unfold shB rdB bxB
  first|(simp[*];done)|(simp at*;subst k;simp[*];done)|(simp at*;subst k;simp[*];rfl)|(simp at*;subst k;simp;omega)|(simp at*;simp[*];done)
def ptB (a b c d x y:Int):Bool:=decide ((a≤x∧x≤c)∧(b≤y∧y≤d))
theorem l3Meets_any (a b c d r s t u:Int) (w:World):
 Calls Tryz.prog 131 #[b4 a b c d,b4 r s t u] w fun e w'=>e= .returned (.bool (leB a b t u&&leB r s c d))∧Below w.heap.size w w':=by
 have hset:=cset_map
 go_enter Tryz.func131,Tryz.ntmps131
 go_wp2
 all_goals
  go_ret
  refine⟨ret_bool ?_,bel_a⟩
  unfold leB
  first|(simp[*];done)|(simp at*;omega)|(simp[*];omega)
theorem l3Point_any (a b c d x y:Int) (w:World):
 Calls Tryz.prog 132 #[b4 a b c d,vv x y] w fun e w'=>e= .returned (.bool (ptB a b c d x y))∧Below w.heap.size w w':=by
 have hset:=cset_map
 go_enter Tryz.func132,Tryz.ntmps132
 go_wp2_with (go_at_call 25;refine(l1In_any _ _ _ _).mono ?_;rintro e w' ⟨rfl,rfl⟩)
 all_goals
  go_ret
  refine⟨ret_bool ?_,bel_a⟩
  unfold ptB
  first|(simp[*];done)|(simp at*;omega)|(simp[*];omega)
theorem OwnL.setq {w:World} {base t k n g c:Nat} {U:Nat→Int} (h:OwnL w base t k (.slice (Option.some ⟨g,0,none⟩) n c) n U) (q:Nat) (hq:q<n*k) (x:Int):OwnL (w.setCell ⟨g,q,none⟩ (.int .i64 x)) base t k (.slice (Option.some ⟨g,0,none⟩) n c) n (fun r=>if r=q then x else U r):=by
 have h1:=(World.ownsRow.stored h q (.int .i64 x)).1
 unfold OwnL
 rw[show numL (n*k) (fun r=>if r=q then x else U r)=(numL (n*k) U).set q (.int .i64 x) from ?_]
 · exact h1
 · apply List.ext_getElem?
   intro r
   rw[List.getElem?_set,numL_len]
   by_cases hr:r<n*k
   · rw[numL_get hr]
     by_cases e:q=r
     · subst e;simp;omega
     · rw[if_neg e,numL_get hr];simp[Ne.symm e]
   · rw[List.getElem?_eq_none (by rw[numL_len];omega)]
     by_cases e:q=r
     · omega
     · rw[if_neg e,List.getElem?_eq_none (by rw[numL_len];omega)]
theorem OwnL.loc {w:World} {base t k n c:Nat} {a:Option Addr} {U:Nat→Int} (h:OwnL w base t k (.slice a n c) n U) (h0:0<n):∃ g,a=Option.some ⟨g,0,none⟩∧base≤g∧g<w.heap.size:=by
 rcases h.2 with⟨hv,hn⟩|⟨g,cap,cur,hv,hb,hg,_⟩
 · omega
 · simp only[Value.slice.injEq,true_and] at hv
   exact⟨g,hv.1,hb,(Array.getElem?_eq_some_iff.1 hg).1⟩
theorem OwnL.cellq {w:World} {base t k n g c:Nat} {U:Nat→Int} (h:OwnL w base t k (.slice (Option.some ⟨g,0,none⟩) n c) n U) {q:Nat} (hq:q<n*k):w.cell? ⟨g,q,none⟩=Option.some (.int .i64 (U q)):=by
 rw[World.ownsRow.cellAt h q hq,numL_get hq]
abbrev mixU (p:Nat) (U:Nat→Int):Nat→Int:=fun q=>if q<p then 1+(q:Int) else U q
structure Lv (w:World) (lo hi t k:Nat) (a:Option Addr) (n c:Nat) (U:Nat→Int):Prop where
 own:OwnL w lo t k (.slice a n c) n U
 top:∀ b,(Value.slice a n c).ownBlock=some b→b<hi
 le:hi≤w.heap.size
theorem Lv.on {w w':World} {lo hi t k:Nat} {a:Option Addr} {n c:Nat} {U:Nat→Int} (h:Lv w lo hi t k a n c U) (hb:Below w.heap.size w w'):Lv w' lo hi t k a n c U:=⟨h.own.below hb,h.top,Nat.le_trans h.le hb.size⟩
theorem Lv.flat {w:World} {lo hi t k:Nat} {a:Option Addr} {n c:Nat} {U:Nat→Int} (h:Lv w lo hi t k a n c U):Flat w a (n*k) U:=h.own.flat
theorem Lv.below {w0 w w':World} {lo hi t k B:Nat} {a:Option Addr} {n c:Nat} {U:Nat→Int} (h:Lv w lo hi t k a n c U) (hB:Below B w0 w) (hBw:B≤w.heap.size) (hg:w.grownBy w' (Value.slice a n c).ownBlock) (hl:B≤lo):Below B w0 w':=
 hB.grown hg hBw (fun b e=>by have:=(h.own.lt b e).1;omega)
theorem Lv.row {w w':World} {b n t k:Nat} {U:Nat→Int} (h:Row w' b t (n*k) U) (hb:w.heap.size≤b) (hn:n≤1048576):Lv w' w.heap.size w'.heap.size t k (some ⟨b,0,none⟩) n n U:=
 ⟨h.own hb (by unfold maxLen;omega),fun x e=>by simp[Value.ownBlock] at e;subst e;exact h.lt,Nat.le_refl _⟩
structure OutL (w w':World) (t k:Nat) (a:Option Addr) (n c:Nat) (R:Nat→Int):Prop where
 bel:Below w.heap.size w w'
 own:OwnL w' w.heap.size t k (.slice a n c) n R
theorem OutL.lv {w w':World} {t k:Nat} {a:Option Addr} {n c:Nat} {R:Nat→Int} (h:OutL w w' t k a n c R):Lv w' w.heap.size w'.heap.size t k a n c R:=⟨h.own,fun b e=>(h.own.lt b e).2,Nat.le_refl _⟩
def ofL (l:List Int):Nat→Int:=fun q=>l.getD q 0
theorem ofL_app (l x:List Int) (q:Nat) (h:q<l.length):ofL (l++x) q=ofL l q:=by
 unfold ofL
 rw[List.getD_eq_getElem?_getD,List.getD_eq_getElem?_getD,List.getElem?_append_left h]
theorem ofL_app' (l x:List Int) (q:Nat) (h:l.length≤q):ofL (l++x) q=ofL x (q-l.length):=by
 unfold ofL
 rw[List.getD_eq_getElem?_getD,List.getD_eq_getElem?_getD,List.getElem?_append_right h]
theorem cat_ofL (l x:List Int):cat l.length (ofL l) (ofL x)=ofL (l++x):=by
 funext q
 unfold cat
 by_cases h:q<l.length
 · rw[if_pos h,ofL_app l x q h]
 · rw[if_neg h,ofL_app' l x q (by omega)]
theorem step_appk {P:Program} {w:World} {ops:Array Oper} {o:Oper} {a:Act} {K:Act→World→Prop} {Q:Exit→Act→World→Prop} {E:Prop} (hgd:o.guard=none) (s x:Operand) (t:TypeId)
 (ho:o.op= .call {callee:= .builtin .append,args:= #[s,x],argTypes:= #[t,t]})
 (base e k bytes:Nat) (z:Value) (ht:P.underlying t=some (.slice e)) (hinfo:(P.info? e).map (fun i=>(i.zero,i.size,i.bytes))=some (some z,k,bytes)) (hzs:z.cells.size=k) (hk:0<k)
 (v:Value) (n:Nat) (U:Nat→Int) (hs:a.eval s=v) (h:OwnL w base e k v n U) (B c:Nat) (X:Nat→Int) (hx:a.eval x= .slice (some ⟨B,0,none⟩) 1 c) (hv:∀ q,q<k→w.cell? ⟨B,q,none⟩=some (.int .i64 (X q)))
 (h63:n+1≤maxLen) (hbytes:(n+1)*bytes≤140737488355328) (hbase:base≤w.heap.size) (H:Nat) (hH:w.heap.size=H)
 (hK:∀ g cap w',OwnL w' base e k (.slice (some ⟨g,0,none⟩) (n+1) cap) (n+1) (cat (n*k) U X)→w.grownBy w' v.ownBlock→(v.ownBlock=some g∨g=H)→g<w'.heap.size→K (a.put o.dst (.slice (some ⟨g,0,none⟩) (n+1) cap)) w'):
 if Region.wanted o (yielded ops a.tmps)=true then Oper.wp P o a w K Q else E:=by
 obtain⟨i,hi,hzz⟩:=Option.map_eq_some_iff.1 hinfo
 simp only[Prod.mk.injEq] at hzz
 obtain⟨hz,hsz,hby⟩:=hzz
 refine step_append_lies w hgd s x t ho base e i z k bytes ht hi hz hsz hby hzs hk v n (numL (n*k) U) hs h ⟨B,0,none⟩ 1 c (numL (1*k) X) hx (numL_len _ _) ?_ (fun u hu=>by obtain⟨q,_,rfl⟩:=List.mem_map.1 hu;rfl) (by omega) h63 hbytes hbase H hH ?_
 · intro j u hu
   have hj:j<1*k:=by have:=(List.getElem?_eq_some_iff.1 hu).1;rwa [numL_len] at this
   rw[numL_get hj] at hu
   rw[Addr.add_lit,Nat.zero_add,hv j (by omega)]
   exact hu
 · intro g cap w' h2 h3 h4 h5
   refine hK g cap w' ?_ h3 h4 h5
   unfold OwnL
   rw[Nat.add_mul,←numL_cat]
   exact h2
end Go.Proofs.YtcalhcfinkhemaaGreatDoor
namespace Go.Proofs.YtcalhcfinkhemaaGreatDoor
open Go.RowKit
set_option linter.unusedVariables false
theorem kf2 {W w1:World} (hb:Below W.heap.size W w1) (b:Nat) (h:b+1<W.heap.size:=by((try simp only[zz]);omega)):
 ((∀ o,w1.cell? ⟨b,o,none⟩=W.cell? ⟨b,o,none⟩)∧(∀ o,w1.frozen? ⟨b,o,none⟩=W.frozen? ⟨b,o,none⟩)∧b<w1.heap.size)∧((∀ o,w1.cell? ⟨b+1,o,none⟩=W.cell? ⟨b+1,o,none⟩)∧(∀ o,w1.frozen? ⟨b+1,o,none⟩=W.frozen? ⟨b+1,o,none⟩)∧b+1<w1.heap.size):=
 ⟨kfa hb (b) (by omega),kfa hb (b+1) (by omega)⟩
theorem kf3 {W w1:World} (hb:Below W.heap.size W w1) (b:Nat) (h:b+1+1<W.heap.size:=by((try simp only[zz]);omega)):
 ((∀ o,w1.cell? ⟨b,o,none⟩=W.cell? ⟨b,o,none⟩)∧(∀ o,w1.frozen? ⟨b,o,none⟩=W.frozen? ⟨b,o,none⟩)∧b<w1.heap.size)∧((∀ o,w1.cell? ⟨b+1,o,none⟩=W.cell? ⟨b+1,o,none⟩)∧(∀ o,w1.frozen? ⟨b+1,o,none⟩=W.frozen? ⟨b+1,o,none⟩)∧b+1<w1.heap.size)∧((∀ o,w1.cell? ⟨b+1+1,o,none⟩=W.cell? ⟨b+1+1,o,none⟩)∧(∀ o,w1.frozen? ⟨b+1+1,o,none⟩=W.frozen? ⟨b+1+1,o,none⟩)∧b+1+1<w1.heap.size):=
 ⟨kfa hb (b) (by omega),kfa hb (b+1) (by omega),kfa hb (b+1+1) (by omega)⟩
theorem kf4 {W w1:World} (hb:Below W.heap.size W w1) (b:Nat) (h:b+1+1+1<W.heap.size:=by((try simp only[zz]);omega)):
 ((∀ o,w1.cell? ⟨b,o,none⟩=W.cell? ⟨b,o,none⟩)∧(∀ o,w1.frozen? ⟨b,o,none⟩=W.frozen? ⟨b,o,none⟩)∧b<w1.heap.size)∧((∀ o,w1.cell? ⟨b+1,o,none⟩=W.cell? ⟨b+1,o,none⟩)∧(∀ o,w1.frozen? ⟨b+1,o,none⟩=W.frozen? ⟨b+1,o,none⟩)∧b+1<w1.heap.size)∧((∀ o,w1.cell? ⟨b+1+1,o,none⟩=W.cell? ⟨b+1+1,o,none⟩)∧(∀ o,w1.frozen? ⟨b+1+1,o,none⟩=W.frozen? ⟨b+1+1,o,none⟩)∧b+1+1<w1.heap.size)∧((∀ o,w1.cell? ⟨b+1+1+1,o,none⟩=W.cell? ⟨b+1+1+1,o,none⟩)∧(∀ o,w1.frozen? ⟨b+1+1+1,o,none⟩=W.frozen? ⟨b+1+1+1,o,none⟩)∧b+1+1+1<w1.heap.size):=
 ⟨kfa hb (b) (by omega),kfa hb (b+1) (by omega),kfa hb (b+1+1) (by omega),kfa hb (b+1+1+1) (by omega)⟩
theorem kf5 {W w1:World} (hb:Below W.heap.size W w1) (b:Nat) (h:b+1+1+1+1<W.heap.size:=by((try simp only[zz]);omega)):
 ((∀ o,w1.cell? ⟨b,o,none⟩=W.cell? ⟨b,o,none⟩)∧(∀ o,w1.frozen? ⟨b,o,none⟩=W.frozen? ⟨b,o,none⟩)∧b<w1.heap.size)∧((∀ o,w1.cell? ⟨b+1,o,none⟩=W.cell? ⟨b+1,o,none⟩)∧(∀ o,w1.frozen? ⟨b+1,o,none⟩=W.frozen? ⟨b+1,o,none⟩)∧b+1<w1.heap.size)∧((∀ o,w1.cell? ⟨b+1+1,o,none⟩=W.cell? ⟨b+1+1,o,none⟩)∧(∀ o,w1.frozen? ⟨b+1+1,o,none⟩=W.frozen? ⟨b+1+1,o,none⟩)∧b+1+1<w1.heap.size)∧((∀ o,w1.cell? ⟨b+1+1+1,o,none⟩=W.cell? ⟨b+1+1+1,o,none⟩)∧(∀ o,w1.frozen? ⟨b+1+1+1,o,none⟩=W.frozen? ⟨b+1+1+1,o,none⟩)∧b+1+1+1<w1.heap.size)∧((∀ o,w1.cell? ⟨b+1+1+1+1,o,none⟩=W.cell? ⟨b+1+1+1+1,o,none⟩)∧(∀ o,w1.frozen? ⟨b+1+1+1+1,o,none⟩=W.frozen? ⟨b+1+1+1+1,o,none⟩)∧b+1+1+1+1<w1.heap.size):=
 ⟨kfa hb (b) (by omega),kfa hb (b+1) (by omega),kfa hb (b+1+1) (by omega),kfa hb (b+1+1+1) (by omega),kfa hb (b+1+1+1+1) (by omega)⟩
theorem kf6 {W w1:World} (hb:Below W.heap.size W w1) (b:Nat) (h:b+1+1+1+1+1<W.heap.size:=by((try simp only[zz]);omega)):
 ((∀ o,w1.cell? ⟨b,o,none⟩=W.cell? ⟨b,o,none⟩)∧(∀ o,w1.frozen? ⟨b,o,none⟩=W.frozen? ⟨b,o,none⟩)∧b<w1.heap.size)∧((∀ o,w1.cell? ⟨b+1,o,none⟩=W.cell? ⟨b+1,o,none⟩)∧(∀ o,w1.frozen? ⟨b+1,o,none⟩=W.frozen? ⟨b+1,o,none⟩)∧b+1<w1.heap.size)∧((∀ o,w1.cell? ⟨b+1+1,o,none⟩=W.cell? ⟨b+1+1,o,none⟩)∧(∀ o,w1.frozen? ⟨b+1+1,o,none⟩=W.frozen? ⟨b+1+1,o,none⟩)∧b+1+1<w1.heap.size)∧((∀ o,w1.cell? ⟨b+1+1+1,o,none⟩=W.cell? ⟨b+1+1+1,o,none⟩)∧(∀ o,w1.frozen? ⟨b+1+1+1,o,none⟩=W.frozen? ⟨b+1+1+1,o,none⟩)∧b+1+1+1<w1.heap.size)∧((∀ o,w1.cell? ⟨b+1+1+1+1,o,none⟩=W.cell? ⟨b+1+1+1+1,o,none⟩)∧(∀ o,w1.frozen? ⟨b+1+1+1+1,o,none⟩=W.frozen? ⟨b+1+1+1+1,o,none⟩)∧b+1+1+1+1<w1.heap.size)∧((∀ o,w1.cell? ⟨b+1+1+1+1+1,o,none⟩=W.cell? ⟨b+1+1+1+1+1,o,none⟩)∧(∀ o,w1.frozen? ⟨b+1+1+1+1+1,o,none⟩=W.frozen? ⟨b+1+1+1+1+1,o,none⟩)∧b+1+1+1+1+1<w1.heap.size):=
 ⟨kfa hb (b) (by omega),kfa hb (b+1) (by omega),kfa hb (b+1+1) (by omega),kfa hb (b+1+1+1) (by omega),kfa hb (b+1+1+1+1) (by omega),kfa hb (b+1+1+1+1+1) (by omega)⟩
end Go.Proofs.YtcalhcfinkhemaaGreatDoor
namespace Go.Proofs.YtcalhcfinkhemaaGreatDoor
open Go.RowKit
set_option linter.unusedVariables false
set_option linter.unusedSimpArgs false
theorem unit_any (x y:Int) (w:World) (hx: -1000000000≤x∧x≤1000000000) (hy: -1000000000≤y∧y≤1000000000):
 Calls Tryz.prog 195 #[vv x y] w fun e w'=>e= .returned (vv (ux x y) (uy x y))∧Below w.heap.size w w':=by
 have hl:=vl_bd x y
 by_cases h0:vl x y=0
 · have e1:ux x y=0:=if_pos h0
   have e2:uy x y=256:=if_pos h0
   have hset:=cset_map
   go_enter Tryz.func195,Tryz.ntmps195
   go_wp2_with (go_at_call 196;refine(length_any _ _ _ (by omega) (by omega)).mono ?_;rintro e w6 ⟨rfl,hb6⟩;obtain⟨hc6,hf6⟩:=bcell hb6;have hz6:=hb6.size;(try simp at hz6);have hq6x0a:w.heap.size<w6.heap.size:=(by omega);have hq6x1a:w.heap.size+1<w6.heap.size:=(by omega))
   exact bodyPost_ret (v:=vv 0 256) (by simp[results,Tryz.results195,go_sem, *]) rfl ⟨by rw[e1,e2],bel_a⟩
 · have e1:ux x y=(x*256).tdiv (vl x y):=if_neg h0
   have e2:uy x y=(y*256).tdiv (vl x y):=if_neg h0
   have t1:=w64 (n:=(x*256).tdiv (vl x y)) (by have:=tdiv_bd (x:=x*256) (B:=256000000000) (vl x y) (by omega);omega)
   have t2:=w64 (n:=(y*256).tdiv (vl x y)) (by have:=tdiv_bd (x:=y*256) (B:=256000000000) (vl x y) (by omega);omega)
   have s1:=i64w (n:=(x*256).tdiv (vl x y)) (by have:=tdiv_bd (x:=x*256) (B:=256000000000) (vl x y) (by omega);omega)
   have s2:=i64w (n:=(y*256).tdiv (vl x y)) (by have:=tdiv_bd (x:=y*256) (B:=256000000000) (vl x y) (by omega);omega)
   have E1:Hid (ux x y=(x*256).tdiv (vl x y)):=e1
   have E2:Hid (uy x y=(y*256).tdiv (vl x y)):=e2
   clear e1 e2
   have hset:=cset_map
   go_enter Tryz.func195,Tryz.ntmps195
   go_wp2_with (go_at_call 196;refine(length_any _ _ _ (by omega) (by omega)).mono ?_;rintro e w6 ⟨rfl,hb6⟩;obtain⟨hc6,hf6⟩:=bcell hb6;have hz6:=hb6.size;(try simp at hz6);have hq6x0a:w.heap.size<w6.heap.size:=(by omega);have hq6x1a:w.heap.size+1<w6.heap.size:=(by omega))
   go_region
   all_goals
    go_wp2
    exact bodyPost_ret (v:=vv ((x*256).tdiv (vl x y)) ((y*256).tdiv (vl x y))) (by simp[results,Tryz.results195,go_sem, *]) rfl ⟨by rw[E1.out,E2.out],bel_a⟩
end Go.Proofs.YtcalhcfinkhemaaGreatDoor
