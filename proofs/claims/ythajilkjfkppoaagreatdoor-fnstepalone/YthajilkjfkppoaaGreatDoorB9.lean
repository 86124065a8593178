/- Texts of a proof. -/
import Derived.Test.YthajilkjfkppoaaGreatDoorB5
import Derived.Test.YthajilkjfkppoaaGreatDoorCsAdd
import Derived.Deep.RegionHeld3
import Derived.Deep.DeepCutAuto
import Derived.Test.YthajilkjfkppoaaGreatDoorB6
import Derived.Deep.QuietTactic
import Derived.BigQuiet
import Derived.Deep.RegionWith
import Derived.Test.YthajilkjfkppoaaGreatDoorB3
import Derived.Test.YthajilkjfkppoaaGreatDoorB4
set_option maxHeartbeats 16000000
set_option maxRecDepth 20000
namespace Go.Proofs.YthajilkjfkppoaaGreatDoor
open Go.RowKit
set_option linter.unusedVariables false
set_option linter.unusedSimpArgs false
theorem OwnL.setq {w:World} {base t k n g c:Nat} {U:Nat→Int} (h:OwnL w base t k (.slice (Option.some ⟨g,0,none⟩) n c) n U) (q:Nat) (hq:q<n*k) (x:Int):OwnL (w.setCell ⟨g,q,none⟩ (.int .i64 x)) base t k (.slice (Option.some ⟨g,0,none⟩) n c) n (fun r=>if r=q then x else U r):=by
 have h1:=(World.ownsRow.stored h q (.int .i64 x)).1
 unfold OwnL
 rw[show numL (n*k) (fun r=>if r=q then x else U r)=(numL (n*k) U).set q (.int .i64 x) from ?_]
 · exact h1
 · apply List.ext_getElem?
   intro r
   rw[List.getElem?_set,numL_len]
   by_cases hr:r<n*k
   · rw[numL_get hr]
     by_cases e:q=r
     · subst e;simp;omega
     · rw[if_neg e,numL_get hr];simp[Ne.symm e]
   · rw[List.getElem?_eq_none (by rw[numL_len];omega)]
     by_cases e:q=r
     · omega
     · rw[if_neg e,List.getElem?_eq_none (by rw[numL_len];omega)]
theorem OwnL.loc {w:World} {base t k n c:Nat} {a:Option Addr} {U:Nat→Int} (h:OwnL w base t k (.slice a n c) n U) (h0:0<n):∃ g,a=Option.some ⟨g,0,none⟩∧base≤g∧g<w.heap.size:=by
 rcases h.2 with⟨hv,hn⟩|⟨g,cap,cur,hv,hb,hg,_⟩
 · omega
 · simp only[Value.slice.injEq,true_and] at hv
   exact⟨g,hv.1,hb,(Array.getElem?_eq_some_iff.1 hg).1⟩
theorem OwnL.cellq {w:World} {base t k n g c:Nat} {U:Nat→Int} (h:OwnL w base t k (.slice (Option.some ⟨g,0,none⟩) n c) n U) {q:Nat} (hq:q<n*k):w.cell? ⟨g,q,none⟩=Option.some (.int .i64 (U q)):=by
 rw[World.ownsRow.cellAt h q hq,numL_get hq]
abbrev mixU (p:Nat) (U:Nat→Int):Nat→Int:=fun q=>if q<p then 1+(q:Int) else U q
structure Lv (w:World) (lo hi t k:Nat) (a:Option Addr) (n c:Nat) (U:Nat→Int):Prop where
 own:OwnL w lo t k (.slice a n c) n U
 top:∀ b,(Value.slice a n c).ownBlock=some b→b<hi
 le:hi≤w.heap.size
theorem Lv.on {w w':World} {lo hi t k:Nat} {a:Option Addr} {n c:Nat} {U:Nat→Int} (h:Lv w lo hi t k a n c U) (hb:Below w.heap.size w w'):Lv w' lo hi t k a n c U:=⟨h.own.below hb,h.top,Nat.le_trans h.le hb.size⟩
theorem Lv.flat {w:World} {lo hi t k:Nat} {a:Option Addr} {n c:Nat} {U:Nat→Int} (h:Lv w lo hi t k a n c U):Flat w a (n*k) U:=h.own.flat
theorem Lv.below {w0 w w':World} {lo hi t k B:Nat} {a:Option Addr} {n c:Nat} {U:Nat→Int} (h:Lv w lo hi t k a n c U) (hB:Below B w0 w) (hBw:B≤w.heap.size) (hg:w.grownBy w' (Value.slice a n c).ownBlock) (hl:B≤lo):Below B w0 w':=
 hB.grown hg hBw (fun b e=>by have:=(h.own.lt b e).1;omega)
theorem Lv.row {w w':World} {b n t k:Nat} {U:Nat→Int} (h:Row w' b t (n*k) U) (hb:w.heap.size≤b) (hn:n≤1048576):Lv w' w.heap.size w'.heap.size t k (some ⟨b,0,none⟩) n n U:=
 ⟨h.own hb (by unfold maxLen;omega),fun x e=>by simp[Value.ownBlock] at e;subst e;exact h.lt,Nat.le_refl _⟩
structure OutL (w w':World) (t k:Nat) (a:Option Addr) (n c:Nat) (R:Nat→Int):Prop where
 bel:Below w.heap.size w w'
 own:OwnL w' w.heap.size t k (.slice a n c) n R
theorem OutL.lv {w w':World} {t k:Nat} {a:Option Addr} {n c:Nat} {R:Nat→Int} (h:OutL w w' t k a n c R):Lv w' w.heap.size w'.heap.size t k a n c R:=⟨h.own,fun b e=>(h.own.lt b e).2,Nat.le_refl _⟩
def ofL (l:List Int):Nat→Int:=fun q=>l.getD q 0
theorem ofL_app (l x:List Int) (q:Nat) (h:q<l.length):ofL (l++x) q=ofL l q:=by
 unfold ofL
 rw[List.getD_eq_getElem?_getD,List.getD_eq_getElem?_getD,List.getElem?_append_left h]
theorem ofL_app' (l x:List Int) (q:Nat) (h:l.length≤q):ofL (l++x) q=ofL x (q-l.length):=by
 unfold ofL
 rw[List.getD_eq_getElem?_getD,List.getD_eq_getElem?_getD,List.getElem?_append_right h]
theorem cat_ofL (l x:List Int):cat l.length (ofL l) (ofL x)=ofL (l++x):=by
 funext q
 unfold cat
 by_cases h:q<l.length
 · rw[if_pos h,ofL_app l x q h]
 · rw[if_neg h,ofL_app' l x q (by omega)]
theorem step_appk {P:Program} {w:World} {ops:Array Oper} {o:Oper} {a:Act} {K:Act→World→Prop} {Q:Exit→Act→World→Prop} {E:Prop} (hgd:o.guard=none) (s x:Operand) (t:TypeId)
 (ho:o.op= .call {callee:= .builtin .append,args:= #[s,x],argTypes:= #[t,t]})
 (base e k bytes:Nat) (z:Value) (ht:P.underlying t=some (.slice e)) (hinfo:(P.info? e).map (fun i=>(i.zero,i.size,i.bytes))=some (some z,k,bytes)) (hzs:z.cells.size=k) (hk:0<k)
 (v:Value) (n:Nat) (U:Nat→Int) (hs:a.eval s=v) (h:OwnL w base e k v n U) (B c:Nat) (X:Nat→Int) (hx:a.eval x= .slice (some ⟨B,0,none⟩) 1 c) (hv:∀ q,q<k→w.cell? ⟨B,q,none⟩=some (.int .i64 (X q)))
 (h63:n+1≤maxLen) (hbytes:(n+1)*bytes≤140737488355328) (hbase:base≤w.heap.size) (H:Nat) (hH:w.heap.size=H)
 (hK:∀ g cap w',OwnL w' base e k (.slice (some ⟨g,0,none⟩) (n+1) cap) (n+1) (cat (n*k) U X)→w.grownBy w' v.ownBlock→(v.ownBlock=some g∨g=H)→g<w'.heap.size→K (a.put o.dst (.slice (some ⟨g,0,none⟩) (n+1) cap)) w'):
 if Region.wanted o (yielded ops a.tmps)=true then Oper.wp P o a w K Q else E:=by
 obtain⟨i,hi,hzz⟩:=Option.map_eq_some_iff.1 hinfo
 simp only[Prod.mk.injEq] at hzz
 obtain⟨hz,hsz,hby⟩:=hzz
 refine step_append_lies w hgd s x t ho base e i z k bytes ht hi hz hsz hby hzs hk v n (numL (n*k) U) hs h ⟨B,0,none⟩ 1 c (numL (1*k) X) hx (numL_len _ _) ?_ (fun u hu=>by obtain⟨q,_,rfl⟩:=List.mem_map.1 hu;rfl) (by omega) h63 hbytes hbase H hH ?_
 · intro j u hu
   have hj:j<1*k:=by have:=(List.getElem?_eq_some_iff.1 hu).1;rwa [numL_len] at this
   rw[numL_get hj] at hu
   rw[Addr.add_lit,Nat.zero_add,hv j (by omega)]
   exact hu
 · intro g cap w' h2 h3 h4 h5
   refine hK g cap w' ?_ h3 h4 h5
   unfold OwnL
   rw[Nat.add_mul,←numL_cat]
   exact h2
def colOf (U:Nat→Int):Nat→Nat→Int:=fun i k=>U (k*12+i)
theorem snoc_col (U:Nat→Int) (n:Nat) {i k:Nat} (hk:k<n+1):snocC n (colOf U) (fun j=>U (n*12+j)) i k=colOf U i k:=by
 unfold snocC snoc colOf
 by_cases e:k=n
 · rw[if_pos e,e]
 · rw[if_neg e]
theorem rowsOf_any (a:Option Addr) (n c:Nat) (U:Nat→Int) (w:World) (h:Flat w a (n*12) U) (hn:n≤1048575):
 Calls Tryz.prog 49 #[.slice a n c] w fun e w'=>e= .returned (.pointer (some ⟨w.heap.size,0,none⟩))∧Below w.heap.size w w'∧∃ S,Cs w' w.heap.size n (colOf U) S:=by
 have hset:=cset_map
 go_enter Tryz.func49,Tryz.ntmps49
 go_wp2
 go_loopw [5,10] (fun _ i wr=>∃ k:Nat,k≤n∧i= .int .i64 (k:Int)∧Below w.heap.size w wr∧∃ S,Cs wr w.heap.size k (colOf U) S) (fun _ i _=>n-(intOf i).toNat)
 case atStart=>
  refine⟨0,Nat.zero_le _,rfl,(Below.refl _ _).alloc (Nat.le_refl _) _,fun _=> .slice none 0 0,fun i hi=> ?_,fun i hi=> ?_,fun i hi=>OwnL.nil _ _ _ _ _,(fun _ _ _ e=>by cases e),(fun _ _ _ _ _ _ e=>by cases e)⟩
  · rcases(show i=0∨i=1∨i=2∨i=3∨i=4∨i=5∨i=6∨i=7∨i=8∨i=9∨i=10∨i=11 by omega) with rfl|rfl|rfl|rfl|rfl|rfl|rfl|rfl|rfl|rfl|rfl|rfl<;>go_simp
  · go_simp
 case round=>
  obtain⟨k,hk,rfl,hB,S,hC⟩:=hrel
  by_cases hlt:k<n
  · obtain⟨b,o,rfl,hbl,hc⟩:=h (by omega)
    have hc':∀ q,q<n*12→wr.cell? ⟨b,o+q,none⟩=some (.int .i64 (U q)):=fun q hq=>(hB.cell (p:=⟨b,o+q,none⟩) hbl).trans (hc q hq)
    clear hc
    have c0:=hc' (k*12) (by omega)
    have c1:=hc' (k*12+1) (by omega)
    have c2:=hc' (k*12+2) (by omega)
    have c3:=hc' (k*12+3) (by omega)
    have c4:=hc' (k*12+4) (by omega)
    have c5:=hc' (k*12+5) (by omega)
    have c6:=hc' (k*12+6) (by omega)
    have c7:=hc' (k*12+7) (by omega)
    have c8:=hc' (k*12+8) (by omega)
    have c9:=hc' (k*12+9) (by omega)
    have c10:=hc' (k*12+10) (by omega)
    have c11:=hc' (k*12+11) (by omega)
    simp only[←Nat.add_assoc] at c0 c1 c2 c3 c4 c5 c6 c7 c8 c9 c10 c11
    clear hc'
    go_upto_region 5 with fail
    have hE:Below wr.heap.size wr (wr.alloc (Obj.cells #[.int .i64 (U (k*12)),.int .i64 (U (k*12+1)),.int .i64 (U (k*12+2)),.int .i64 (U (k*12+3)),.int .i64 (U (k*12+4)),.int .i64 (U (k*12+5)),.int .i64 (U (k*12+6)),.int .i64 (U (k*12+7)),.int .i64 (U (k*12+8)),.int .i64 (U (k*12+9)),.int .i64 (U (k*12+10)),.int .i64 (U (k*12+11))] 35)):=(Below.refl _ _).alloc (Nat.le_refl _) _
    have hB2:=hB.trans (hE.mono hB.size)
    have hC2:=hC.below hE
    have x0:(wr.alloc (Obj.cells #[.int .i64 (U (k*12)),.int .i64 (U (k*12+1)),.int .i64 (U (k*12+2)),.int .i64 (U (k*12+3)),.int .i64 (U (k*12+4)),.int .i64 (U (k*12+5)),.int .i64 (U (k*12+6)),.int .i64 (U (k*12+7)),.int .i64 (U (k*12+8)),.int .i64 (U (k*12+9)),.int .i64 (U (k*12+10)),.int .i64 (U (k*12+11))] 35)).cell? ⟨wr.heap.size,0,none⟩=some (.int .i64 (U (k*12))):=by go_simp
    have x1:(wr.alloc (Obj.cells #[.int .i64 (U (k*12)),.int .i64 (U (k*12+1)),.int .i64 (U (k*12+2)),.int .i64 (U (k*12+3)),.int .i64 (U (k*12+4)),.int .i64 (U (k*12+5)),.int .i64 (U (k*12+6)),.int .i64 (U (k*12+7)),.int .i64 (U (k*12+8)),.int .i64 (U (k*12+9)),.int .i64 (U (k*12+10)),.int .i64 (U (k*12+11))] 35)).cell? ⟨wr.heap.size,1,none⟩=some (.int .i64 (U (k*12+1))):=by go_simp
    have x2:(wr.alloc (Obj.cells #[.int .i64 (U (k*12)),.int .i64 (U (k*12+1)),.int .i64 (U (k*12+2)),.int .i64 (U (k*12+3)),.int .i64 (U (k*12+4)),.int .i64 (U (k*12+5)),.int .i64 (U (k*12+6)),.int .i64 (U (k*12+7)),.int .i64 (U (k*12+8)),.int .i64 (U (k*12+9)),.int .i64 (U (k*12+10)),.int .i64 (U (k*12+11))] 35)).cell? ⟨wr.heap.size,2,none⟩=some (.int .i64 (U (k*12+2))):=by go_simp
    have x3:(wr.alloc (Obj.cells #[.int .i64 (U (k*12)),.int .i64 (U (k*12+1)),.int .i64 (U (k*12+2)),.int .i64 (U (k*12+3)),.int .i64 (U (k*12+4)),.int .i64 (U (k*12+5)),.int .i64 (U (k*12+6)),.int .i64 (U (k*12+7)),.int .i64 (U (k*12+8)),.int .i64 (U (k*12+9)),.int .i64 (U (k*12+10)),.int .i64 (U (k*12+11))] 35)).cell? ⟨wr.heap.size,3,none⟩=some (.int .i64 (U (k*12+3))):=by go_simp
    have x4:(wr.alloc (Obj.cells #[.int .i64 (U (k*12)),.int .i64 (U (k*12+1)),.int .i64 (U (k*12+2)),.int .i64 (U (k*12+3)),.int .i64 (U (k*12+4)),.int .i64 (U (k*12+5)),.int .i64 (U (k*12+6)),.int .i64 (U (k*12+7)),.int .i64 (U (k*12+8)),.int .i64 (U (k*12+9)),.int .i64 (U (k*12+10)),.int .i64 (U (k*12+11))] 35)).cell? ⟨wr.heap.size,4,none⟩=some (.int .i64 (U (k*12+4))):=by go_simp
    have x5:(wr.alloc (Obj.cells #[.int .i64 (U (k*12)),.int .i64 (U (k*12+1)),.int .i64 (U (k*12+2)),.int .i64 (U (k*12+3)),.int .i64 (U (k*12+4)),.int .i64 (U (k*12+5)),.int .i64 (U (k*12+6)),.int .i64 (U (k*12+7)),.int .i64 (U (k*12+8)),.int .i64 (U (k*12+9)),.int .i64 (U (k*12+10)),.int .i64 (U (k*12+11))] 35)).cell? ⟨wr.heap.size,5,none⟩=some (.int .i64 (U (k*12+5))):=by go_simp
    have x6:(wr.alloc (Obj.cells #[.int .i64 (U (k*12)),.int .i64 (U (k*12+1)),.int .i64 (U (k*12+2)),.int .i64 (U (k*12+3)),.int .i64 (U (k*12+4)),.int .i64 (U (k*12+5)),.int .i64 (U (k*12+6)),.int .i64 (U (k*12+7)),.int .i64 (U (k*12+8)),.int .i64 (U (k*12+9)),.int .i64 (U (k*12+10)),.int .i64 (U (k*12+11))] 35)).cell? ⟨wr.heap.size,6,none⟩=some (.int .i64 (U (k*12+6))):=by go_simp
    have x7:(wr.alloc (Obj.cells #[.int .i64 (U (k*12)),.int .i64 (U (k*12+1)),.int .i64 (U (k*12+2)),.int .i64 (U (k*12+3)),.int .i64 (U (k*12+4)),.int .i64 (U (k*12+5)),.int .i64 (U (k*12+6)),.int .i64 (U (k*12+7)),.int .i64 (U (k*12+8)),.int .i64 (U (k*12+9)),.int .i64 (U (k*12+10)),.int .i64 (U (k*12+11))] 35)).cell? ⟨wr.heap.size,7,none⟩=some (.int .i64 (U (k*12+7))):=by go_simp
    have x8:(wr.alloc (Obj.cells #[.int .i64 (U (k*12)),.int .i64 (U (k*12+1)),.int .i64 (U (k*12+2)),.int .i64 (U (k*12+3)),.int .i64 (U (k*12+4)),.int .i64 (U (k*12+5)),.int .i64 (U (k*12+6)),.int .i64 (U (k*12+7)),.int .i64 (U (k*12+8)),.int .i64 (U (k*12+9)),.int .i64 (U (k*12+10)),.int .i64 (U (k*12+11))] 35)).cell? ⟨wr.heap.size,8,none⟩=some (.int .i64 (U (k*12+8))):=by go_simp
    have x9:(wr.alloc (Obj.cells #[.int .i64 (U (k*12)),.int .i64 (U (k*12+1)),.int .i64 (U (k*12+2)),.int .i64 (U (k*12+3)),.int .i64 (U (k*12+4)),.int .i64 (U (k*12+5)),.int .i64 (U (k*12+6)),.int .i64 (U (k*12+7)),.int .i64 (U (k*12+8)),.int .i64 (U (k*12+9)),.int .i64 (U (k*12+10)),.int .i64 (U (k*12+11))] 35)).cell? ⟨wr.heap.size,9,none⟩=some (.int .i64 (U (k*12+9))):=by go_simp
    have x10:(wr.alloc (Obj.cells #[.int .i64 (U (k*12)),.int .i64 (U (k*12+1)),.int .i64 (U (k*12+2)),.int .i64 (U (k*12+3)),.int .i64 (U (k*12+4)),.int .i64 (U (k*12+5)),.int .i64 (U (k*12+6)),.int .i64 (U (k*12+7)),.int .i64 (U (k*12+8)),.int .i64 (U (k*12+9)),.int .i64 (U (k*12+10)),.int .i64 (U (k*12+11))] 35)).cell? ⟨wr.heap.size,10,none⟩=some (.int .i64 (U (k*12+10))):=by go_simp
    have x11:(wr.alloc (Obj.cells #[.int .i64 (U (k*12)),.int .i64 (U (k*12+1)),.int .i64 (U (k*12+2)),.int .i64 (U (k*12+3)),.int .i64 (U (k*12+4)),.int .i64 (U (k*12+5)),.int .i64 (U (k*12+6)),.int .i64 (U (k*12+7)),.int .i64 (U (k*12+8)),.int .i64 (U (k*12+9)),.int .i64 (U (k*12+10)),.int .i64 (U (k*12+11))] 35)).cell? ⟨wr.heap.size,11,none⟩=some (.int .i64 (U (k*12+11))):=by go_simp
    generalize (wr.alloc (Obj.cells #[.int .i64 (U (k*12)),.int .i64 (U (k*12+1)),.int .i64 (U (k*12+2)),.int .i64 (U (k*12+3)),.int .i64 (U (k*12+4)),.int .i64 (U (k*12+5)),.int .i64 (U (k*12+6)),.int .i64 (U (k*12+7)),.int .i64 (U (k*12+8)),.int .i64 (U (k*12+9)),.int .i64 (U (k*12+10)),.int .i64 (U (k*12+11))] 35))=wx at hE hB2 hC2 x0 x1 x2 x3 x4 x5 x6 x7 x8 x9 x10 x11 ⊢
    clear c0 c1 c2 c3 c4 c5 c6 c7 c8 c9 c10 c11 hE hC hB
    go_wp2_with (go_at_call 85;refine(add_any w.heap.size k (colOf U) (fun j=>U (k*12+j)) S _ hC2 (by omega)).mono ?_;rintro e w1 ⟨rfl,S1,hC1,hF1⟩)
    go_roundw
    case rel=>exact⟨k+1,by omega,by go_num,hB2.trans (hF1.below hB2.size (fun x q=>q.elim (fun q=>Nat.le_of_eq q.symm) (fun q=>Nat.le_of_lt (hC2.xlt q).1))),S1,hC1.congr fun i q _ hq=>snoc_col U k hq⟩
    case measure=>simp[intOf];omega
  · go_wp2
    go_ret
    obtain rfl:k=n:=by omega
    exact⟨rfl,hB,S,hC⟩
theorem l3Less_any (x y:Int) (w:World):
 Calls Tryz.prog 77 #[.int .i64 x,.int .i64 y] w fun e w'=>e= .returned (.int .i64 (mn x y))∧w'=w:=by
 go_enter Tryz.func77,Tryz.ntmps77
 go_wp2
 all_goals
  go_ret
  refine⟨?_,rfl⟩
  unfold mn
  split<;>first|rfl|(exfalso;omega)|(have hxy:x=y:=(by omega);subst hxy;rfl)|(exfalso;simp at*;omega)
theorem l3More_any (x y:Int) (w:World):
 Calls Tryz.prog 95 #[.int .i64 x,.int .i64 y] w fun e w'=>e= .returned (.int .i64 (mx x y))∧w'=w:=by
 go_enter Tryz.func95,Tryz.ntmps95
 go_wp2
 all_goals
  go_ret
  refine⟨?_,rfl⟩
  unfold mx
  split<;>first|rfl|(exfalso;omega)|(have hxy:x=y:=(by omega);subst hxy;rfl)|(exfalso;simp at*;omega)
end Go.Proofs.YthajilkjfkppoaaGreatDoor
namespace Go.Proofs.YthajilkjfkppoaaGreatDoor
open Go.RowKit
set_option linter.unusedVariables false
theorem kfy {m:Nat} {W w1:World} (hc:∀ b o,b<m→w1.cell? ⟨b,o,none⟩=W.cell? ⟨b,o,none⟩) (hf:∀ b o,b<m→w1.frozen? ⟨b,o,none⟩=W.frozen? ⟨b,o,none⟩) (hz:m≤w1.heap.size) (b:Nat) (h:b<m):
 (∀ o,w1.cell? ⟨b,o,none⟩=W.cell? ⟨b,o,none⟩)∧(∀ o,w1.frozen? ⟨b,o,none⟩=W.frozen? ⟨b,o,none⟩)∧b<w1.heap.size∧(b=w1.heap.size)=False∧(w1.heap.size=b)=False:=
 have q:=Nat.lt_of_lt_of_le h hz
 ⟨fun o=>hc b o h,fun o=>hf b o h,q,eq_false (Nat.ne_of_lt q),eq_false (Nat.ne_of_gt q)⟩
theorem kfz {m:Nat} {W w1:World} (hc:∀ b o,b<m→w1.cell? ⟨b,o,none⟩=W.cell? ⟨b,o,none⟩) (hf:∀ b o,b<m→w1.frozen? ⟨b,o,none⟩=W.frozen? ⟨b,o,none⟩) (hz:m≤w1.heap.size) (b:Nat) (h:b<m):
 (∀ o,w1.cell? ⟨b,o,none⟩=W.cell? ⟨b,o,none⟩)∧(∀ o,w1.frozen? ⟨b,o,none⟩=W.frozen? ⟨b,o,none⟩)∧b<w1.heap.size∧(w1.heap.size=b)=False:=
 have q:=Nat.lt_of_lt_of_le h hz
 ⟨fun o=>hc b o h,fun o=>hf b o h,q,eq_false (Nat.ne_of_gt q)⟩
end Go.Proofs.YthajilkjfkppoaaGreatDoor
namespace Go.Proofs.YthajilkjfkppoaaGreatDoor
open Go.RowKit
set_option linter.unusedVariables false
set_option linter.unusedSimpArgs false
theorem l3Near_any (a b c d x y:Int) (w:World):
 Calls Tryz.prog 132 #[b4 a b c d,vv x y] w fun e w'=>e= .returned (vv (mn (mx x a) c) (mn (mx y b) d))∧Below w.heap.size w w':=by
 have hset:=cset_map
 go_enter Tryz.func132,Tryz.ntmps132
 go_wp2
 go_region_held3 (fun w'=>w'.cell? ⟨w.heap.size,0,none⟩=some (.int .i64 a)∧w'.cell? ⟨w.heap.size,1,none⟩=some (.int .i64 b)∧w'.cell? ⟨w.heap.size,2,none⟩=some (.int .i64 c)∧w'.cell? ⟨w.heap.size,3,none⟩=some (.int .i64 d)∧w'.cell? ⟨w.heap.size+1,0,none⟩=some (.int .i64 x)∧w'.cell? ⟨w.heap.size+1,1,none⟩=some (.int .i64 y)) (first|(go_simp;done)|(go_keep;done)) (first
  |(go_at_call 77;refine(l3Less_any _ _ _).mono ?_;rintro e w' ⟨rfl,rfl⟩)
  |(go_at_call 95;refine(l3More_any _ _ _).mono ?_;rintro e w' ⟨rfl,rfl⟩))
 all_goals
  go_wp2
  exact bodyPost_ret (v:=vv (mn (mx x a) c) (mn (mx y b) d)) (by simp[results,Tryz.results132,go_sem, *]) rfl ⟨rfl,bel_a⟩
def rdT (dx dy g:Int):(Int×Int×Int)×Bool:=if dx*dx+dy*dy≤g*g then ((ux dx dy,uy dx dy,g-vl dx dy),true) else ((0,0,0),false)
def bsT (s0 s1 s2 s3:Int):Int×Int×Int:=
 let m1:Int×Int×Int:=if s1<s0 then (-256,0,s1) else (256,0,s0)
 let m2:Int×Int×Int:=if s2<m1.2.2 then (0,256,s2) else m1
 if s3<m2.2.2 then (0,-256,s3) else m2
def bxT (a b c d r s t u:Int):(Int×Int×Int)×Bool:=if (leB a b t u&&leB r s c d)=true then (bsT (c-r) (t-a) (d-s) (u-b),true) else ((0,0,0),false)
theorem sunit_q (x y X Y:Int) (w:World) (e1:ux (fc x) (fc y)=X) (e2:uy (fc x) (fc y)=Y):
 Calls Tryz.prog 128 #[vv x y] w fun e w'=>e= .returned (vv X Y)∧Below w.heap.size w w':=by
 subst e1;subst e2;exact sVecUnit_any x y w
theorem slen_q (x y L:Int) (w:World) (e:vl (fc x) (fc y)=L):
 Calls Tryz.prog 129 #[vv x y] w fun e w'=>e= .returned (.int .i64 L)∧Below w.heap.size w w':=by
 subst e;exact sVecLen_any x y w
theorem l5Rounds_q (a b x y g X Y D:Int) (K:Bool) (w:World) (qa: -3000000≤a∧a≤3000000) (qb: -3000000≤b∧b≤3000000) (qx: -3000000≤x∧x≤3000000) (qy: -3000000≤y∧y≤3000000) (g0:0≤g∧g≤100000) (e:rdT (x-a) (y-b) g=((X,Y,D),K)):
 Calls Tryz.prog 102 #[vv a b,vv x y,.int .i64 g] w fun e w'=>e= .returned (.tuple #[s3 X Y D,.bool K])∧Below w.heap.size w w':=by
 have hset:=cset_map
 obtain⟨dx,ex⟩:∃ z,x-a=z:=⟨_,rfl⟩
 obtain⟨dy,ey⟩:∃ z,y-b=z:=⟨_,rfl⟩
 have w1:=i64w (n:=x-a) (by omega)
 have w2:=i64w (n:=y-b) (by omega)
 rw[ex] at e w1
 rw[ey] at e w2
 have m3:=mul_bd (a:=g) (b:=g) (A:=100000) (B:=100000) (by omega) (by omega)
 have w3:=i64w (n:=g*g) (by omega)
 unfold rdT at e
 cases dd:decide (g*g<dx*dx+dy*dy) with
 | true=>
   have hn:=of_decide_eq_true dd
   rw[if_neg (by omega)] at e
   cases e
   clear hn m3
   go_enter Tryz.func102,Tryz.ntmps102
   go_wp2_with (go_at_call 127;refine(l2Square_any _ _ _ (by omega) (by omega)).mono ?_;rintro e w1 ⟨rfl,hb1⟩;have hz1:=hb1.size;(try simp only[zz] at hz1);have:=kf4 hb1 w.heap.size)
   exact bodyPost_ret (v:= .tuple #[s3 0 0 0,.bool false]) (by simp[results,Tryz.results102,go_sem, *]) rfl ⟨rfl,bel_a⟩
 | false=>
   have hn:=of_decide_eq_false dd
   rw[if_pos (by omega)] at e
   obtain⟨L,eL⟩:∃ z,vl dx dy=z:=⟨_,rfl⟩
   have lb:=vl_bd dx dy
   rw[eL] at lb
   rw[eL] at e
   simp only[Prod.mk.injEq] at e
   obtain⟨⟨eX,eY,eD⟩,eK⟩:=e
   subst eD
   subst eK
   have f1:=fc_id (n:=dx) (by omega) (by omega)
   have f2:=fc_id (n:=dy) (by omega) (by omega)
   have eX:ux (fc dx) (fc dy)=X:=by rw[f1,f2];exact eX
   have eY:uy (fc dx) (fc dy)=Y:=by rw[f1,f2];exact eY
   have eL:vl (fc dx) (fc dy)=L:=by rw[f1,f2];exact eL
   have w4:=i64w (n:=g-L) (by omega)
   clear hn m3 f1 f2
   go_enter Tryz.func102,Tryz.ntmps102
   go_upto_region 4 with(go_at_call 127;refine(l2Square_any _ _ _ (by omega) (by omega)).mono ?_;rintro e w1 ⟨rfl,hb1⟩;have hz1:=hb1.size;(try simp only[zz] at hz1);have:=kf4 hb1 w.heap.size)
   refine wp_region_held_drew (S:=fun w'=>w'.cell? ⟨w.heap.size+1+1+1,0,none⟩=some (.int .i64 dx)∧w'.cell? ⟨w.heap.size+1+1+1,1,none⟩=some (.int .i64 dy)) (by kernel_rfl) ?_ (fun hHeld=> ?_)
   · (try dsimp only)
     (first|(go_simp;done)|(go_keep;done))
   refine tq 0 hHeld ?_
   refine tq 2 hHeld ?_
   refine tq 3 hHeld ?_
   (refine tc 1 fun K hK=> ?_;go_simp;(go_at_call 128;refine(sunit_q _ _ _ _ _ eX eY).mono ?_;rintro e w2 ⟨rfl,hb2⟩;have hz2:=hb2.size;(try simp only[zz] at hz2);have:=kf4 hb2 w.heap.size);(try go_wp2_with fail);refine tr hK (fun hHeld=> ?_);clear hK K)
   (refine tc 4 fun K hK=> ?_;go_simp;(go_at_call 129;refine(slen_q _ _ _ _ eL).mono ?_;rintro e w3 ⟨rfl,hb3⟩;have hz3:=hb3.size;(try simp only[zz] at hz3);have:=kf4 hb3 w.heap.size);(try go_wp2_with fail);refine tr hK (fun hHeld=> ?_);clear hK K)
   refine tq 5 hHeld ?_
   refine tq 6 hHeld ?_
   (refine tc 7 fun K hK=> ?_;go_simp;refine tr hK (fun hHeld=> ?_);clear hK K)
   refine tq 8 hHeld ?_
   refine wpAnyH_done (by kernel_rfl) ?_ _
   go_wp2_with fail
   exact bodyPost_ret (v:= .tuple #[s3 X Y (g-L),.bool true]) (by simp[results,Tryz.results102,go_sem, *]) rfl ⟨rfl,bel_a⟩
theorem smeets_q (a b c d r s t u:Int) (z:Bool) (w:World) (e:(leB a b t u&&leB r s c d)=z):
 Calls Tryz.prog 130 #[b4 a b c d,b4 r s t u] w fun e w'=>e= .returned (.bool z)∧Below w.heap.size w w':=by
 subst e;exact l3Meets_any a b c d r s t u w
theorem l5Boxes_q (a b c d r s t u X Y D:Int) (K:Bool) (w:World) (qa: -3000000≤a∧a≤3000000) (qb: -3000000≤b∧b≤3000000) (qc: -3000000≤c∧c≤3000000) (qd: -3000000≤d∧d≤3000000) (qr: -3000000≤r∧r≤3000000) (qs: -3000000≤s∧s≤3000000) (qt: -3000000≤t∧t≤3000000) (qu: -3000000≤u∧u≤3000000) (e:bxT a b c d r s t u=((X,Y,D),K)):
 Calls Tryz.prog 103 #[b4 a b c d,b4 r s t u] w fun e w'=>e= .returned (.tuple #[s3 X Y D,.bool K])∧Below w.heap.size w w':=by
 have hset:=cset_map
 unfold bxT at e
 cases eM:(leB a b t u&&leB r s c d) with
 | false=>
   rw[if_neg (by simp[eM])] at e
   cases e
   go_enter Tryz.func103,Tryz.ntmps103
   go_wp2_with (go_at_call 130;refine(smeets_q _ _ _ _ _ _ _ _ _ _ eM).mono ?_;rintro e w1 ⟨rfl,hb1⟩;have hz1:=hb1.size;(try simp only[zz] at hz1);have:=kf3 hb1 w.heap.size)
   exact bodyPost_ret (v:= .tuple #[s3 0 0 0,.bool false]) (by simp[results,Tryz.results103,go_sem, *]) rfl ⟨rfl,bel_a⟩
 | true=>
   rw[if_pos eM] at e
   obtain⟨s0,es0⟩:∃ z,c-r=z:=⟨_,rfl⟩
   have ws0:=i64w (n:=c-r) (by omega)
   rw[es0] at e ws0
   obtain⟨s1,es1⟩:∃ z,t-a=z:=⟨_,rfl⟩
   have ws1:=i64w (n:=t-a) (by omega)
   rw[es1] at e ws1
   obtain⟨s2,es2⟩:∃ z,d-s=z:=⟨_,rfl⟩
   have ws2:=i64w (n:=d-s) (by omega)
   rw[es2] at e ws2
   obtain⟨s3',es3'⟩:∃ z,u-b=z:=⟨_,rfl⟩
   have ws3':=i64w (n:=u-b) (by omega)
   rw[es3'] at e ws3'
   unfold bsT at e
   cases d1:decide (s1<s0) with
   | true=>
     simp only[if_pos (of_decide_eq_true d1)] at e
     cases d2:decide (s2<s1) with
     | true=>
       simp only[if_pos (of_decide_eq_true d2)] at e
       cases d3:decide (s3'<s2) with
       | true=>
         simp only[if_pos (of_decide_eq_true d3)] at e
         simp only[Prod.mk.injEq] at e
         obtain⟨⟨eX,eY,eD⟩,eK⟩:=e
         subst eX
         subst eY
         subst eD
         subst eK
         go_enter Tryz.func103,Tryz.ntmps103
         go_wp2_with (go_at_call 130;refine(smeets_q _ _ _ _ _ _ _ _ _ _ eM).mono ?_;rintro e w1 ⟨rfl,hb1⟩;have hz1:=hb1.size;(try simp only[zz] at hz1);have:=kf3 hb1 w.heap.size)
         exact bodyPost_ret (v:= .tuple #[s3 0 (-256) s3',.bool true]) (by simp[results,Tryz.results103,go_sem, *]) rfl ⟨rfl,bel_a⟩
       | false=>
         simp only[if_neg (of_decide_eq_false d3)] at e
         simp only[Prod.mk.injEq] at e
         obtain⟨⟨eX,eY,eD⟩,eK⟩:=e
         subst eX
         subst eY
         subst eD
         subst eK
         go_enter Tryz.func103,Tryz.ntmps103
         go_wp2_with (go_at_call 130;refine(smeets_q _ _ _ _ _ _ _ _ _ _ eM).mono ?_;rintro e w1 ⟨rfl,hb1⟩;have hz1:=hb1.size;(try simp only[zz] at hz1);have:=kf3 hb1 w.heap.size)
         exact bodyPost_ret (v:= .tuple #[s3 0 256 s2,.bool true]) (by simp[results,Tryz.results103,go_sem, *]) rfl ⟨rfl,bel_a⟩
     | false=>
       simp only[if_neg (of_decide_eq_false d2)] at e
       cases d3:decide (s3'<s1) with
       | true=>
         simp only[if_pos (of_decide_eq_true d3)] at e
         simp only[Prod.mk.injEq] at e
         obtain⟨⟨eX,eY,eD⟩,eK⟩:=e
         subst eX
         subst eY
         subst eD
         subst eK
         go_enter Tryz.func103,Tryz.ntmps103
         go_wp2_with (go_at_call 130;refine(smeets_q _ _ _ _ _ _ _ _ _ _ eM).mono ?_;rintro e w1 ⟨rfl,hb1⟩;have hz1:=hb1.size;(try simp only[zz] at hz1);have:=kf3 hb1 w.heap.size)
         exact bodyPost_ret (v:= .tuple #[s3 0 (-256) s3',.bool true]) (by simp[results,Tryz.results103,go_sem, *]) rfl ⟨rfl,bel_a⟩
       | false=>
         simp only[if_neg (of_decide_eq_false d3)] at e
         simp only[Prod.mk.injEq] at e
         obtain⟨⟨eX,eY,eD⟩,eK⟩:=e
         subst eX
         subst eY
         subst eD
         subst eK
         go_enter Tryz.func103,Tryz.ntmps103
         go_wp2_with (go_at_call 130;refine(smeets_q _ _ _ _ _ _ _ _ _ _ eM).mono ?_;rintro e w1 ⟨rfl,hb1⟩;have hz1:=hb1.size;(try simp only[zz] at hz1);have:=kf3 hb1 w.heap.size)
         exact bodyPost_ret (v:= .tuple #[s3 (-256) 0 s1,.bool true]) (by simp[results,Tryz.results103,go_sem, *]) rfl ⟨rfl,bel_a⟩
   | false=>
     simp only[if_neg (of_decide_eq_false d1)] at e
     cases d2:decide (s2<s0) with
     | true=>
       simp only[if_pos (of_decide_eq_true d2)] at e
       cases d3:decide (s3'<s2) with
       | true=>
         simp only[if_pos (of_decide_eq_true d3)] at e
         simp only[Prod.mk.injEq] at e
         obtain⟨⟨eX,eY,eD⟩,eK⟩:=e
         subst eX
         subst eY
         subst eD
         subst eK
         go_enter Tryz.func103,Tryz.ntmps103
         go_wp2_with (go_at_call 130;refine(smeets_q _ _ _ _ _ _ _ _ _ _ eM).mono ?_;rintro e w1 ⟨rfl,hb1⟩;have hz1:=hb1.size;(try simp only[zz] at hz1);have:=kf3 hb1 w.heap.size)
         exact bodyPost_ret (v:= .tuple #[s3 0 (-256) s3',.bool true]) (by simp[results,Tryz.results103,go_sem, *]) rfl ⟨rfl,bel_a⟩
       | false=>
         simp only[if_neg (of_decide_eq_false d3)] at e
         simp only[Prod.mk.injEq] at e
         obtain⟨⟨eX,eY,eD⟩,eK⟩:=e
         subst eX
         subst eY
         subst eD
         subst eK
         go_enter Tryz.func103,Tryz.ntmps103
         go_wp2_with (go_at_call 130;refine(smeets_q _ _ _ _ _ _ _ _ _ _ eM).mono ?_;rintro e w1 ⟨rfl,hb1⟩;have hz1:=hb1.size;(try simp only[zz] at hz1);have:=kf3 hb1 w.heap.size)
         exact bodyPost_ret (v:= .tuple #[s3 0 256 s2,.bool true]) (by simp[results,Tryz.results103,go_sem, *]) rfl ⟨rfl,bel_a⟩
     | false=>
       simp only[if_neg (of_decide_eq_false d2)] at e
       cases d3:decide (s3'<s0) with
       | true=>
         simp only[if_pos (of_decide_eq_true d3)] at e
         simp only[Prod.mk.injEq] at e
         obtain⟨⟨eX,eY,eD⟩,eK⟩:=e
         subst eX
         subst eY
         subst eD
         subst eK
         go_enter Tryz.func103,Tryz.ntmps103
         go_wp2_with (go_at_call 130;refine(smeets_q _ _ _ _ _ _ _ _ _ _ eM).mono ?_;rintro e w1 ⟨rfl,hb1⟩;have hz1:=hb1.size;(try simp only[zz] at hz1);have:=kf3 hb1 w.heap.size)
         exact bodyPost_ret (v:= .tuple #[s3 0 (-256) s3',.bool true]) (by simp[results,Tryz.results103,go_sem, *]) rfl ⟨rfl,bel_a⟩
       | false=>
         simp only[if_neg (of_decide_eq_false d3)] at e
         simp only[Prod.mk.injEq] at e
         obtain⟨⟨eX,eY,eD⟩,eK⟩:=e
         subst eX
         subst eY
         subst eD
         subst eK
         go_enter Tryz.func103,Tryz.ntmps103
         go_wp2_with (go_at_call 130;refine(smeets_q _ _ _ _ _ _ _ _ _ _ eM).mono ?_;rintro e w1 ⟨rfl,hb1⟩;have hz1:=hb1.size;(try simp only[zz] at hz1);have:=kf3 hb1 w.heap.size)
         exact bodyPost_ret (v:= .tuple #[s3 256 0 s0,.bool true]) (by simp[results,Tryz.results103,go_sem, *]) rfl ⟨rfl,bel_a⟩
def mxT (a b c d x y g:Int):(Int×Int×Int)×Bool:=if ptB a b c d x y=true then (((bsT (c-x) (x-a) (d-y) (y-b)).1,(bsT (c-x) (x-a) (d-y) (y-b)).2.1,(bsT (c-x) (x-a) (d-y) (y-b)).2.2+g),true) else rdT (x-mn (mx x a) c) (y-mn (mx y b) d) g
theorem bsT_bd {s0 s1 s2 s3 B:Int} (h0: -B≤s0∧s0≤B) (h1: -B≤s1∧s1≤B) (h2: -B≤s2∧s2≤B) (h3: -B≤s3∧s3≤B): -B≤(bsT s0 s1 s2 s3).2.2∧(bsT s0 s1 s2 s3).2.2≤B∧(-256≤(bsT s0 s1 s2 s3).1∧(bsT s0 s1 s2 s3).1≤256)∧(-256≤(bsT s0 s1 s2 s3).2.1∧(bsT s0 s1 s2 s3).2.1≤256):=by
 unfold bsT
 by_cases a:s1<s0
 · simp only[if_pos a]
   by_cases b:s2<s1
   · simp only[if_pos b]
     by_cases c:s3<s2
     · simp only[if_pos c];omega
     · simp only[if_neg c];omega
   · simp only[if_neg b]
     by_cases c:s3<s1
     · simp only[if_pos c];omega
     · simp only[if_neg c];omega
 · simp only[if_neg a]
   by_cases b:s2<s0
   · simp only[if_pos b]
     by_cases c:s3<s2
     · simp only[if_pos c];omega
     · simp only[if_neg c];omega
   · simp only[if_neg b]
     by_cases c:s3<s0
     · simp only[if_pos c];omega
     · simp only[if_neg c];omega
theorem near_in {a c x B:Int} (ha: -B≤a∧a≤B) (hc: -B≤c∧c≤B) (hx: -B≤x∧x≤B): -B≤mn (mx x a) c∧mn (mx x a) c≤B:=by
 unfold mn mx;repeat' split<;>omega
theorem spoint_q (a b c d x y:Int) (z:Bool) (w:World) (e:ptB a b c d x y=z):
 Calls Tryz.prog 131 #[b4 a b c d,vv x y] w fun e w'=>e= .returned (.bool z)∧Below w.heap.size w w':=by
 subst e;exact l3Point_any a b c d x y w
theorem snear_q (a b c d x y X Y:Int) (w:World) (e1:mn (mx x a) c=X) (e2:mn (mx y b) d=Y):
 Calls Tryz.prog 132 #[b4 a b c d,vv x y] w fun e w'=>e= .returned (vv X Y)∧Below w.heap.size w w':=by
 subst e1;subst e2;exact l3Near_any a b c d x y w
theorem l5Mixed_q (a b c d x y g X Y D:Int) (K:Bool) (w:World) (qa: -3000000≤a∧a≤3000000) (qb: -3000000≤b∧b≤3000000) (qc: -3000000≤c∧c≤3000000) (qd: -3000000≤d∧d≤3000000) (qx: -3000000≤x∧x≤3000000) (qy: -3000000≤y∧y≤3000000) (g0:0≤g∧g≤100000) (e:mxT a b c d x y g=((X,Y,D),K)):
 Calls Tryz.prog 105 #[b4 a b c d,vv x y,.int .i64 g] w fun e w'=>e= .returned (.tuple #[s3 X Y D,.bool K])∧Below w.heap.size w w':=by
 have hset:=cset_map
 unfold mxT at e
 cases eP:ptB a b c d x y with
 | true=>
   rw[if_pos eP] at e
   have hb:=bsT_bd (s0:=c-x) (s1:=x-a) (s2:=d-y) (s3:=y-b) (B:=6000000) (by omega) (by omega) (by omega) (by omega)
   obtain⟨⟨P,Q,E⟩,eQ⟩:∃ z,bsT (c-x) (x-a) (d-y) (y-b)=z:=⟨_,rfl⟩
   rw[eQ] at e hb
   dsimp only at hb
   simp only[Prod.mk.injEq] at e
   obtain⟨⟨eX,eY,eD⟩,eK⟩:=e
   subst eX
   subst eY
   subst eD
   subst eK
   have eB:bxT a b c d x y x y=((P,Q,E),true):=by
    have hm:(leB a b x y&&leB x y c d)=true:=by
     unfold ptB at eP;have:=of_decide_eq_true eP;unfold leB;simp only[Bool.and_eq_true,decide_eq_true_eq];omega
    unfold bxT;rw[if_pos hm,eQ]
   have w1:=i64w (n:=E+g) (by have:=hb.1;have:=hb.2.1;omega)
   clear hb eQ
   go_enter Tryz.func105,Tryz.ntmps105
   go_wp2_with (first
   |(go_at_call 131;refine(spoint_q _ _ _ _ _ _ _ _ eP).mono ?_;rintro e w1 ⟨rfl,hb1⟩;have hz1:=hb1.size;(try simp only[zz] at hz1);have:=kf3 hb1 w.heap.size)
   |(go_at_call 103;refine(l5Boxes_q _ _ _ _ _ _ _ _ P Q E true _ (by omega) (by omega) (by omega) (by omega) (by omega) (by omega) (by omega) (by omega) eB).mono ?_;rintro e w2 ⟨rfl,hb2⟩;have hz2:=hb2.size;(try simp only[zz] at hz2);have:=kf3 hb2 w.heap.size))
   exact bodyPost_ret (v:= .tuple #[s3 P Q (E+g),.bool true]) (by simp[results,Tryz.results105,go_sem, *]) rfl ⟨rfl,bel_a⟩
 | false=>
   rw[if_neg (by simp[eP])] at e
   have n1:=near_in (a:=a) (c:=c) (x:=x) (B:=3000000) (by omega) (by omega) (by omega)
   have n2:=near_in (a:=b) (c:=d) (x:=y) (B:=3000000) (by omega) (by omega) (by omega)
   obtain⟨nx,eN1⟩:∃ z,mn (mx x a) c=z:=⟨_,rfl⟩
   obtain⟨ny,eN2⟩:∃ z,mn (mx y b) d=z:=⟨_,rfl⟩
   rw[eN1] at e n1
   rw[eN2] at e n2
   go_enter Tryz.func105,Tryz.ntmps105
   go_upto_region 5 with(go_at_call 131;refine(spoint_q _ _ _ _ _ _ _ _ eP).mono ?_;rintro e w1 ⟨rfl,hb1⟩;have hz1:=hb1.size;(try simp only[zz] at hz1);have:=kf3 hb1 w.heap.size)
   refine wp_region_held_drew (S:=fun w'=>w'.cell? ⟨w.heap.size,0,none⟩=some (.int .i64 a)∧w'.cell? ⟨w.heap.size,1,none⟩=some (.int .i64 b)∧w'.cell? ⟨w.heap.size,2,none⟩=some (.int .i64 c)∧w'.cell? ⟨w.heap.size,3,none⟩=some (.int .i64 d)∧w'.cell? ⟨w.heap.size+1,0,none⟩=some (.int .i64 x)∧w'.cell? ⟨w.heap.size+1,1,none⟩=some (.int .i64 y)) (by kernel_rfl) ?_ (fun hHeld=> ?_)
   · (try dsimp only)
     (first|(go_simp;done)|(go_keep;done))
   refine tq 0 hHeld ?_
   refine tq 1 hHeld ?_
   refine tq 3 hHeld ?_
   refine tq 4 hHeld ?_
   (refine tc 2 fun K hK=> ?_;go_simp;(go_at_call 132;refine(snear_q _ _ _ _ _ _ _ _ _ eN1 eN2).mono ?_;rintro e w3 ⟨rfl,hb3⟩;have hz3:=hb3.size;(try simp only[zz] at hz3);have:=kf3 hb3 w.heap.size);(try go_wp2_with fail);refine tr hK (fun hHeld=> ?_);clear hK K)
   (refine tc 5 fun K hK=> ?_;go_simp;(go_at_call 102;refine(l5Rounds_q nx ny x y g X Y D _ _ (by omega) (by omega) (by omega) (by omega) (by omega) e).mono ?_;rintro e w4 ⟨rfl,hb4⟩;have hz4:=hb4.size;(try simp only[zz] at hz4);have:=kf3 hb4 w.heap.size);(try go_wp2_with fail);refine tr hK (fun hHeld=> ?_);clear hK K)
   refine tq 6 hHeld ?_
   refine tq 7 hHeld ?_
   (refine tc 8 fun K hK=> ?_;go_simp;refine tr hK (fun hHeld=> ?_);clear hK K)
   refine tq 9 hHeld ?_
   refine wpAnyH_done (by kernel_rfl) ?_ _
   go_wp2_with fail
   exact bodyPost_ret (v:= .tuple #[s3 X Y D,.bool K]) (by simp[results,Tryz.results105,go_sem, *]) rfl ⟨rfl,bel_a⟩
theorem l5Turn_q (x y k:Int) (w:World) (hx: -2000000000≤x∧x≤2000000000) (hy: -2000000000≤y∧y≤2000000000):
 Calls Tryz.prog 106 #[s3 x y k] w fun e w'=>e= .returned (s3 (-x) (-y) k)∧Below w.heap.size w w':=by
 have hset:=cset_map
 have w1:=i64w (n:= -x) (by omega)
 have w2:=i64w (n:= -y) (by omega)
 go_enter Tryz.func106,Tryz.ntmps106
 go_wp2_with fail
 exact bodyPost_ret (v:=s3 (-x) (-y) k) (by simp[results,Tryz.results106,go_sem, *]) rfl ⟨rfl,bel_a⟩
structure LsV (w wr:World) (t k:Nat) (a:Option Addr) (m c:Nat) (l:List Int):Prop where
 bel:Below w.heap.size w wr
 len:l.length=m*k
 own:OwnL wr w.heap.size t k (.slice a m c) m (ofL l)
theorem LsV.below {w wr w':World} {t k m c:Nat} {a:Option Addr} {l:List Int} (h:LsV w wr t k a m c l) (hb:Below wr.heap.size wr w'):LsV w w' t k a m c l:=⟨h.bel.trans (hb.mono h.bel.size),h.len,h.own.below hb⟩
theorem LsV.push {w wr w1:World} {t k m c c':Nat} {a a':Option Addr} {l x:List Int} (h:LsV w wr t k a m c l) (hx:x.length=k) (hg:wr.grownBy w1 (Value.slice a m c).ownBlock) (ho:OwnL w1 w.heap.size t k (.slice a' (m+1) c') (m+1) (cat (m*k) (ofL l) (ofL x))):LsV w w1 t k a' (m+1) c' (l++x):=
 ⟨h.bel.grown hg h.bel.size (fun b e=>(h.own.lt b e).1),by rw[List.length_append,h.len,hx,Nat.succ_mul],by rw[←cat_ofL,h.len];exact ho⟩
theorem LsV.new (w:World) (t k:Nat):LsV w (w.alloc (.cells #[] t)) t k (some ⟨w.heap.size,0,none⟩) 0 0 []:=
 ⟨(Below.refl _ _).alloc (Nat.le_refl _) _,by simp,⟨by simp[numL],.inr ⟨w.heap.size,0, #[],rfl,Nat.le_refl _,Go.Deep.blk_alloc_new _ _,Nat.le_refl _,Nat.zero_le _,by simp,by simp[numL]⟩⟩⟩
theorem LsV.nil (w:World) (t k:Nat):LsV w w t k none 0 0 []:=⟨Below.refl _ _,by simp,OwnL.nil _ _ _ _ _⟩
theorem LsV.out {w0 w wr:World} {t k m c:Nat} {a:Option Addr} {l:List Int} (h:LsV w wr t k a m c l) (hb:Below w0.heap.size w0 w):OutL w0 wr t k a m c (ofL l):=⟨hb.trans (h.bel.mono hb.size),h.own.base hb.size⟩
end Go.Proofs.YthajilkjfkppoaaGreatDoor
