/- Texts of a proof. -/
import Derived.Test.YtpmjnpmnocjjgaaGreatDoorB49
import Derived.Test.YtpmjnpmnocjjgaaGreatDoorB26
import Derived.Test.YtpmjnpmnocjjgaaGreatDoorB13
import Derived.Deep.RegionHeld3
import Derived.Deep.DeepCutAuto
import Derived.LoopNIn
import Derived.LoopIn
import Derived.OwnWalkIn
import Derived.Test.YtpmjnpmnocjjgaaGreatDoorB46
import Derived.Test.YtpmjnpmnocjjgaaGreatDoorB48
import Derived.Test.YtpmjnpmnocjjgaaGreatDoorB41
set_option maxHeartbeats 16000000
set_option maxRecDepth 20000
namespace Go.Proofs.YtpmjnpmnocjjgaaGreatDoor
open Go.RowKit
set_option linter.unusedVariables false
set_option linter.unusedSimpArgs false
theorem selL_congr {p q:Nat→Bool}:∀ n,(∀ j,j<n→p j=q j)→selL p n=selL q n
 |0,_=>rfl
 |n+1,h=>by rw[selL,selL,selL_congr n (fun j hj=>h j (by omega)),h n (by omega)]
def gofP (fx:Nat→Bool) (L:Nat→Nat) (q:Int) (j:Nat):Bool:=fx j||decide (gnum fx L j=q)
theorem mem_gnum {fx:Nat→Bool} {L:Nat→Nat} (hT:Tops fx L) {i k:Nat} (hf:fstB fx L i=true) (hk:cntp (fstB fx L) i=k) (j:Nat):L j=i↔gnum fx L j=(k:Int):=by
 have hfi:fx i=false:=by
  unfold fstB at hf
  cases h:fx i with
  |false=>rfl
  |true=>rw[h] at hf;cases hf
 unfold gnum
 constructor
 · intro h
   have hx:fx j=false:=by rw[←hT.fx,h];exact hfi
   rw[if_neg (by rw[hx];simp),h,hk]
 · intro h
   by_cases hx:fx j=true
   · rw[if_pos hx] at h;omega
   · rw[if_neg hx] at h
     exact cntp_inj _ (hT.fst (by simpa using hx)) hf (by omega)
structure Fv (w A:World) (H fb gb cb:Nat) (q:Int) (v:Value) (ms:List Nat):Prop where
 bel:Below w.heap.size w A
 box:A.cell? ⟨fb,0,none⟩=some v
 nf:A.frozen? ⟨fb,0,none⟩=false
 gb:A.cell? ⟨gb,0,none⟩=some (.int .i64 q)
 own:HL A H cb v ms
 lo:w.heap.size≤fb
section
variable {w A A':World} {H fb gb cb:Nat} {q:Int} {v v':Value} {ms ms':List Nat}
theorem Fv.lt (h:Fv w A H fb gb cb q v ms):fb<A.heap.size:=cell_lt (a:=⟨fb,0,none⟩) h.box
theorem Fv.kx {B:Nat} (h:Fv w A H fb gb cb q v ms) (k:Kx B H A A') (hB:w.heap.size≤B) (h1:fb<B) (h2:gb<B):Fv w A' H fb gb cb q v ms:=
 ⟨h.bel.trans (k.below.mono hB),(k.below.cell (p:=⟨fb,0,none⟩) h1).trans h.box,(k.below.frozen (p:=⟨fb,0,none⟩) h1).trans h.nf,(k.below.cell (p:=⟨gb,0,none⟩) h2).trans h.gb,h.own.kx k (Nat.le_refl _),h.lo⟩
theorem Fv.sm {B:Nat} (h:Fv w A H fb gb cb q v ms) (k:Sm B A A') (hB:w.heap.size≤B):Fv w A' H fb gb cb q v ms:=
 ⟨h.bel.trans (k.below.mono hB),k.cell h.box,k.frozen h.box h.nf,k.cell h.gb,h.own.sm k,h.lo⟩
theorem Fv.put (h:Fv w A H fb gb cb q v ms) (hn:gb≠fb) (hH:fb<H) (ho:HL A H cb v' ms'):Fv w (A.setCell ⟨fb,0,none⟩ v') H fb gb cb q v' ms':=
 ⟨h.bel.setCell h.lo _,by rw[cset_map,h.box];rfl,by rw[World.frozen?_setCell];exact h.nf,by rw[cset_far (by simp;exact hn)];exact h.gb,ho.frame (X:=fun b=>b=fb) (Fr.setCell (X:=fun b=>b=fb) (p:=⟨fb,0,none⟩) rfl _) (fun b e z=>by have:=(ho.lt b e).1;omega),h.lo⟩
end
theorem groupOf_any (a:Option Addr) (n c:Nat) (U:Nat→Int) (q:Int) (M:Nat) (w:World) (h:Flat w a (n*12) U) (hok:bodsB n U=true) (hn:n≤12) (hM:(conL (colOf U) n).length=M*5) (hMk:M≤1000) (hq:0≤q)
 (sel:List Nat) (hsel:selL (gofP (fxU U) (lab (edg U (ofL (conL (colOf U) n))) M) q) n=sel):
 Calls Tryz.prog 9 #[.slice a n c,.int .i64 q] w fun e w'=>∃ a' c',e= .returned (.slice a' sel.length c')∧OutL w w' 35 12 a' sel.length c' (fun z=>selC (colOf U) sel (z % 12) (z/12)):=by
 have hset:=cset_map
 obtain⟨L,hL⟩:∃ L,(lab (edg U (ofL (conL (colOf U) n))) M)=L:=⟨_,rfl⟩
 have hT:Shut (Tops (fxU U) L):=hL▸lab_tops U _ M
 have hGr:∀ cb S w1,Cs w1 cb n (colOf U) S→ItG Tryz.prog 19 #[.pointer (some ⟨cb,0,none⟩)] (ColF cb n (fxU U)) (GrE cb n (fxU U) L) (cntp (fstB (fxU U) L) n) w1:=fun cb S w1 hC=>groups_any cb n U S M w1 hC hn hM hMk L (fun j=>by rw[←hL]) (fxU U)
 rw[hL] at hsel
 clear hL hM hMk
 have hsl:=selL_le (gofP (fxU U) L q) n
 rw[hsel] at hsl
 have hn20:n≤1048576:=by omega
 have hq0:¬ q<0:=by omega
 have hEg:Below w.heap.size w (w.alloc (Obj.cells #[.int .i64 q] 3)):=(Below.refl _ _).alloc (Nat.le_refl _) _
 have g0:(w.alloc (Obj.cells #[.int .i64 q] 3)).cell? ⟨w.heap.size,0,none⟩=some (.int .i64 q):=by go_simp
 have hzg:(w.alloc (Obj.cells #[.int .i64 q] 3)).heap.size=w.heap.size+1:=by simp
 have hfl:=h.below hEg
 refine calls_of_wp_marks Tryz.func9 rfl ?_
 simp only[Tryz.ntmps9,List.size_toArray,List.length_cons,List.length_nil,Nat.reduceAdd,Nat.reduceSub,Array.replicate_succ,Array.replicate_zero,List.push_toArray,List.append_toArray,List.nil_append,List.cons_append]
 go_wp2_with (go_at_call 18;refine(columnsOf_ok a n c U _ hfl hn20 hok).mono ?_;rintro e w1 ⟨cb,S,rfl,hcb,hC,hb1⟩;have g1:=(hb1.cell (p:=⟨w.heap.size,0,none⟩) (by show w.heap.size<(w.alloc (Obj.cells #[.int .i64 q] 3)).heap.size;omega)).trans g0)
 have hb01:Below w.heap.size w w1:=hEg.trans (hb1.mono (by omega))
 have hz1:w.heap.size+1≤w1.heap.size:=by have:=hb1.size;omega
 have hE1:Below w1.heap.size w1 (w1.alloc (Obj.cells #[.slice none 0 0] 49)):=(Below.refl _ _).alloc (Nat.le_refl _) _
 have x1:(w1.alloc (Obj.cells #[.slice none 0 0] 49)).cell? ⟨w1.heap.size,0,none⟩=some (.slice none 0 0):=by go_simp
 have f1:(w1.alloc (Obj.cells #[.slice none 0 0] 49)).frozen? ⟨w1.heap.size,0,none⟩=false:=by go_simp
 have hz2:(w1.alloc (Obj.cells #[.slice none 0 0] 49)).heap.size=w1.heap.size+1:=by simp
 have g2:=(hE1.cell (p:=⟨w.heap.size,0,none⟩) (by show w.heap.size<w1.heap.size;omega)).trans g1
 generalize (w1.alloc (Obj.cells #[.slice none 0 0] 49))=w2 at hE1 x1 f1 hz2 g2 ⊢
 have hG2:=hGr cb S w2 (hC.below hE1)
 have hCA:∀ A,Below w1.heap.size w1 A→Cs A cb n (colOf U) S:=fun A hb=>hC.below hb
 clear hGr g0 g1 hzg hEg hfl hb1
 refine wp_range_outG (gf:=19) (bound:= #[.pointer (some ⟨cb,0,none⟩)]) rfl groups_enters hG2 (fun H k args A hE=>by obtain⟨i,v,_,_,_,rfl,_⟩:=hE;rfl)
  (fun H k A=>w2.heap.size≤H∧∃ v ms,Fv w1 A H w1.heap.size w.heap.size cb q v ms∧ms.length≤12∧∀ j,j∈ms↔j<n∧gnum (fxU U) L j=q∧q<(k:Int)) ?hI ?hIs ?hcol ?h0 ?round ?done
 case hI=>rintro H k A B' ⟨h0,v,ms,h1,h2⟩ hk;exact⟨h0,v,ms,h1.kx hk (by omega) (by omega) (by omega),h2⟩
 case hIs=>rintro H k A B' ⟨h0,v,ms,h1,h2⟩ hs;exact⟨h0,v,ms,h1.sm hs (by omega),h2⟩
 case hcol=>rintro H k A ⟨_,v,ms,h1,h2⟩;exact⟨_,_,hCA A h1.bel,fun j _=>rfl⟩
 case h0=>
  intro W0 hb hz
  exact⟨by omega,.slice none 0 0,[],⟨hE1.trans (hb.mono (by omega)),(hb.cell (p:=⟨w1.heap.size,0,none⟩) (by show w1.heap.size<w2.heap.size;omega)).trans x1,(hb.frozen (p:=⟨w1.heap.size,0,none⟩) (by show w1.heap.size<w2.heap.size;omega)).trans f1,(hb.cell (p:=⟨w.heap.size,0,none⟩) (by show w.heap.size<w2.heap.size;omega)).trans g2,HL.nil _ _ _,Nat.le_refl _⟩,by simp,fun j=>⟨(fun z=>by cases z),(fun z=>by omega)⟩⟩
 case round=>
  rintro lr H k W args hlr1 hlr2 hWz ⟨hHz,v,ms,hV1,hml,hmem⟩ hkk ⟨i,vv,hi,hfi,hck,rfl,hHL⟩
  clear hG2 x1 f1 g2
  obtain⟨va,vc,rfl⟩:=hHL.is
  simp only[List.zip_toArray,List.zip_cons_cons,List.zip_nil_left,List.foldl_toArray,List.foldl_cons,List.foldl_nil,List.setIfInBounds_toArray,List.set_cons_succ,List.set_cons_zero]
  refine wpIn_seq_k fun K1 hK1=> ?_
  refine wpIn_region_plain (by rintro⟨_,_,h⟩;exact h) (by kernel_rfl) ?_
  go_wp2
  refine wpIn_region_plain (by rintro⟨_,_,h⟩;exact h) (by kernel_rfl) ?_
  go_wp2
  refine⟨KeepsFrom.refl _ _,fun W2 hS hKc hr=> ?_⟩
  have hV2:=hV1.sm hS (by omega)
  have hHL2:=hHL.sm hS
  have hKc2:Kc (w2.heap.size+2) H W W2:=hKc _ _ hlr2
  clear hV1 hHL hKc hS hr
  have x0:=hV2.box
  have xf:=hV2.nf
  have y0:=hV2.gb
  refine wpIn_block ?_
  refine wpIn_seq_k fun K2 hK2=> ?_
  refine wpIn_region_plain (by rintro⟨_,_,h⟩;exact h) (by kernel_rfl) ?_
  go_wp2
  obtain⟨be,hbe⟩:∃ b,((k:Int)==q)=b:=⟨_,rfl⟩
  cases be with
  | true=>
    have hkq:(k:Int)=q:=beq_iff_eq.1 hbe
    refine wpIn_cond_true (by simp[go_sem,hbe]) ?_
    refine wpIn_region_plain (by rintro⟨_,_,h⟩;exact h) (by kernel_rfl) ?_
    have hP:=hV2.put (by omega) (by omega) hHL2
    go_wp2
    refine⟨(KeepsOthers.setCell _ _ _).from _,⟨hHz,_,_,hP,Nat.le_trans (memL_le L i n) hn,fun j=> ?_⟩,hKc2.trans (Kc.fr (Fr.setCell (X:=fun b=>b=w1.heap.size) (p:=⟨w1.heap.size,0,none⟩) rfl _) (fun b e=> .inl (by omega)))⟩
    rw[memL_mem,mem_gnum hT.out hfi hck j]
    constructor
    · rintro⟨z1,z2⟩;exact⟨z1,by omega,by omega⟩
    · rintro⟨z1,z2,_⟩;exact⟨z1,by omega⟩
  | false=>
    have hkq:(k:Int)≠q:=beq_eq_false_iff_ne.1 hbe
    refine wpIn_cond_false (by simp[go_sem,hbe]) ?_
    refine wpIn_skip ?_
    refine⟨KeepsFrom.refl _ _,⟨hHz,v,ms,hV2,hml,fun j=> ?_⟩,hKc2⟩
    rw[hmem j]
    constructor
    · rintro⟨z1,z2,z3⟩;exact⟨z1,z2,by omega⟩
    · rintro⟨z1,z2,z3⟩;exact⟨z1,z2,by omega⟩
 case done=>
  rintro D H W hD ⟨h0,v,ms,h1,hml,hmem⟩ hK
  have hbx:=h1.box
  have hsel2:Shut (selL (fun j=>fxU U j||decide (j∈ms)) n=sel):=by
   show _=_
   rw[←hsel]
   refine selL_congr n fun j hj=> ?_
   unfold gofP
   cases hx:fxU U j with
   |true=>rfl
   | false=>
     have:(j∈ms)↔gnum (fxU U) L j=q:=by
      rw[hmem j]
      constructor
      · exact fun z=>z.2.1
      · intro z
        refine⟨hj,z,?_⟩
        have hg:=cntp_in (fstB (fxU U) L) (show L j<n by have:=hT.out.le j;omega) (hT.out.fst hx)
        unfold gnum at z
        rw[if_neg (by rw[hx];simp)] at z
        omega
     rw[decide_eq_decide.2 this]
  have hDl:D<W.heap.size:=(Array.getElem?_eq_some_iff.1 hK).1
  go_wp2_with (first
   |(have _:=hb11;go_at_call 22;refine(list_any pb sel.length (selC (colOf U) sel) S11 _ hC11 (by omega)).mono ?_;rintro e w12 ⟨a12,c12,rfl,hO12⟩)
   |(go_at_call 21;refine(withFixed_any cb n (colOf U) S H v ms _ (hCA _ h1.bel) hn h1.own hml (fun j=>fxU U j||decide (j∈ms)) (fun j _=>rfl)).mono ?_;rintro e w11 ⟨pb,S11,rfl,hC11,hb11⟩;rw[hsel2.out] at hC11))
  have hK2:=(hO12.bel.block D (Nat.lt_of_lt_of_le hDl hb11.size)).trans ((hb11.block D hDl).trans hK)
  refine marks_ret (B:=w2.heap.size) hD rfl hK2 fun W' hS=>⟨.slice a12 sel.length c12,?_,a12,c12,rfl,?_,?_⟩
  · simp[results,Tryz.results9,go_sem, *]
  · have k1:=hb01.trans ((h1.bel.trans ((hb11.trans (hO12.bel.mono hb11.size)).mono h1.bel.size)).mono hb01.size)
    exact k1.trans (hS.below.mono (by omega))
  · exact(hO12.own.sm hS).base (by have:=hb11.size;have:=h1.bel.size;omega)
end Go.Proofs.YtpmjnpmnocjjgaaGreatDoor
namespace Go.Proofs.YtpmjnpmnocjjgaaGreatDoor
open Go.RowKit
set_option linter.unusedVariables false
set_option linter.unusedSimpArgs false
def rsL (U:Nat→Int) (s:List Nat):List Int:=rwL (selC (colOf U) s) s.length
def gofS (n:Nat) (U:Nat→Int) (q:Int):List Nat:=bif bodsB n U&&decide (0≤q) then selL (gofP (fxU U) (lab (edg U (ofL (conL (colOf U) n))) (conN n U)) q) n else []
theorem gofS_y {n:Nat} {U:Nat→Int} {q:Int} (h:bodsB n U=true) (hq:0≤q):gofS n U q=selL (gofP (fxU U) (lab (edg U (ofL (conL (colOf U) n))) (conN n U)) q) n:=by unfold gofS;rw[h,decide_eq_true hq];rfl
theorem gofS_n {n:Nat} {U:Nat→Int} {q:Int} (h:bodsB n U=false∨q<0):gofS n U q=[]:=by
 unfold gofS
 rcases h with h|h
 · rw[h];rfl
 · rw[decide_eq_false (by omega:¬ 0≤q),Bool.and_false];rfl
theorem gofS_len (n:Nat) (U:Nat→Int) (q:Int):(gofS n U q).length≤12:=by
 by_cases h:bodsB n U=true∧0≤q
 · rw[gofS_y h.1 h.2]
   exact Nat.le_trans (selL_le _ _) (bods_n h.1)
 · rw[gofS_n]
   · exact Nat.zero_le _
   · cases e:bodsB n U with
     |false=>exact .inl rfl
     |true=>exact .inr (by rw[e] at h;simp at h;omega)
theorem groupOfI_q (a:Option Addr) (n c:Nat) (U:Nat→Int) (q:Int) (N:Nat) (w:World) (h:Flat w a (n*12) U) (hn:n≤1048576) (hN:(gofS n U q).length=N):
 Calls Tryz.prog 9 #[.slice a n c,.int .i64 q] w fun e w'=>∃ a' c',e= .returned (.slice a' N c')∧OutL w w' 35 12 a' N c' (ofL (rsL U (gofS n U q))):=by
 have hset:=cset_map
 by_cases hh:bodsB n U=true∧0≤q
 · obtain⟨hok,hq⟩:=hh
   have h12:=bods_n hok
   obtain⟨hM,hMk⟩:=conN_eq U h12
   subst hN
   refine(groupOf_any a n c U q _ w h hok h12 hM (by omega) hq (gofS n U q) (gofS_y hok hq).symm).mono ?_
   rintro e w' ⟨a',c',rfl,hO⟩
   exact⟨a',c',rfl,hO.bel,hO.own.congr fun z hz=>(rwL_at _ _ z hz).symm⟩
 · have hno:bodsB n U=false∨q<0:=by
    cases e:bodsB n U with
    |false=>exact .inl rfl
    |true=>exact .inr (by rw[e] at hh;simp at hh;omega)
   rw[gofS_n hno] at hN ⊢
   obtain rfl:0=N:=hN
   have hE:Below w.heap.size w (w.alloc (Obj.cells #[.int .i64 q] 3)):=(Below.refl _ _).alloc (Nat.le_refl _) _
   have g0:(w.alloc (Obj.cells #[.int .i64 q] 3)).cell? ⟨w.heap.size,0,none⟩=some (.int .i64 q):=by go_simp
   have hfl:=h.below hE
   refine calls_of_wp_marks Tryz.func9 rfl ?_
   simp only[Tryz.ntmps9,List.size_toArray,List.length_cons,List.length_nil,Nat.reduceAdd,Nat.reduceSub,Array.replicate_succ,Array.replicate_zero,List.push_toArray,List.append_toArray,List.nil_append,List.cons_append]
   cases hok:bodsB n U with
   | false=>
     go_wp2_with (go_at_call 18;refine(columnsOf_no a n c U _ hfl hn hok).mono ?_;rintro e w1 ⟨rfl,hb1⟩)
     refine marks_ret0 (v:= .slice none 0 0) rfl ?_ ⟨none,0,rfl,hE.trans (hb1.mono (by simp)),OwnL.nil _ _ _ _ _⟩
     simp[results,Tryz.results9,go_sem, *]
   | true=>
     have hq:q<0:=by rcases hno with z|z;(· rw[hok] at z;cases z);exact z
     go_wp2_with (go_at_call 18;refine(columnsOf_ok a n c U _ hfl hn hok).mono ?_;rintro e w1 ⟨cb,S,rfl,hcb,hC,hb1⟩;have g1:=(hb1.cell (p:=⟨w.heap.size,0,none⟩) (by simp)).trans g0)
     refine marks_ret0 (v:= .slice none 0 0) rfl ?_ ⟨none,0,rfl,hE.trans (hb1.mono (by simp)),OwnL.nil _ _ _ _ _⟩
     simp[results,Tryz.results9,go_sem, *]
theorem selL_mem (p:Nat→Bool):∀ n j,j∈selL p n↔j<n∧p j=true
 |0,j=>by simp[selL]
 | n+1,j=>by
   rw[selL,List.mem_append,selL_mem p n j]
   by_cases h:p n=true
   · rw[if_pos h,List.mem_singleton]
     constructor
     · rintro(⟨a,b⟩|rfl)
       · exact⟨by omega,b⟩
       · exact⟨by omega,h⟩
     · rintro⟨a,b⟩
       rcases Nat.lt_succ_iff_lt_or_eq.1 a with l|rfl
       · exact .inl ⟨l,b⟩
       · exact .inr rfl
   · rw[if_neg h]
     constructor
     · rintro(⟨a,b⟩|hh)
       · exact⟨by omega,b⟩
       · cases hh
     · rintro⟨a,b⟩
       rcases Nat.lt_succ_iff_lt_or_eq.1 a with l|rfl
       · exact .inl ⟨l,b⟩
       · exact absurd b h
theorem getD_in {l:List Nat} {a:Nat} (h:a<l.length):l.getD a 0∈l:=by
 rw[List.getD_eq_getElem?_getD,List.getElem?_eq_getElem h];exact List.getElem_mem h
theorem getD_app1 {l x:List Nat} {a:Nat} (h:a<l.length):(l++x).getD a 0=l.getD a 0:=by
 rw[List.getD_eq_getElem?_getD,List.getD_eq_getElem?_getD,List.getElem?_append_left h]
theorem getD_app2 (l:List Nat) (y:Nat):(l++[y]).getD l.length 0=y:=by
 rw[List.getD_eq_getElem?_getD,List.getElem?_append_right (Nat.le_refl _),Nat.sub_self];rfl
theorem selL_asc (p:Nat→Bool):∀ n a b,a<b→b<(selL p n).length→(selL p n).getD a 0<(selL p n).getD b 0
 |0,a,b,_,h=>absurd h (Nat.not_lt_zero _)
 | n+1,a,b,hab,h=>by
   rw[selL] at h ⊢
   by_cases hp:p n=true
   · rw[if_pos hp] at h ⊢
     rw[List.length_append,List.length_singleton] at h
     have hl:a<(selL p n).length:=by omega
     by_cases hb:b<(selL p n).length
     · rw[getD_app1 hl,getD_app1 hb];exact selL_asc p n a b hab hb
     · obtain rfl:b=(selL p n).length:=by omega
       rw[getD_app1 hl,getD_app2]
       exact((selL_mem p n _).1 (getD_in hl)).1
   · rw[if_neg hp,List.append_nil] at h ⊢;exact selL_asc p n a b hab h
theorem selL_ex {p:Nat→Bool} {n j:Nat} (hj:j<n) (hp:p j=true):∃ a,a<(selL p n).length∧(selL p n).getD a 0=j:=by
 obtain⟨a,ha,e⟩:=List.getElem_of_mem ((selL_mem p n j).2 ⟨hj,hp⟩)
 exact⟨a,ha,by rw[List.getD_eq_getElem?_getD,List.getElem?_eq_getElem ha];exact e⟩
theorem selL_at {p:Nat→Bool} {n a:Nat} (h:a<(selL p n).length):(selL p n).getD a 0<n∧p ((selL p n).getD a 0)=true:=(selL_mem p n _).1 (getD_in h)
theorem selL_lt {p:Nat→Bool} {n a b:Nat} (ha:a<(selL p n).length) (hb:b<(selL p n).length):a<b↔(selL p n).getD a 0<(selL p n).getD b 0:=by
 constructor
 · intro l;exact selL_asc p n a b l hb
 · intro l
   rcases Nat.lt_trichotomy a b with h|h|h
   · exact h
   · subst h;omega
   · have:=selL_asc p n b a h ha;omega
theorem selL_inj {p:Nat→Bool} {n a b:Nat} (ha:a<(selL p n).length) (hb:b<(selL p n).length) (e:(selL p n).getD a 0=(selL p n).getD b 0):a=b:=by
 have h1:=selL_lt ha hb
 have h2:=selL_lt hb ha
 omega
/- contacts, each where it stands -/
theorem preOut (C:Nat→Nat→Int) (n j:Nat):∀ m,j≤m→∃ r,conOut C n m=conOut C n j++r
 | 0, h => by obtain rfl:j=0:=by omega
              exact⟨[],by simp⟩
 | m+1,h=>by
   by_cases e:j=m+1
   · subst e;exact⟨[],by simp⟩
   · obtain⟨r,hr⟩:=preOut C n j m (by omega)
     exact⟨r++conIn C m n,by rw[conOut,hr,List.append_assoc]⟩
theorem preIn (C:Nat→Nat→Int) (i j:Nat):∀ m,j≤m→∃ r,conIn C i m=conIn C i j++r
 | 0, h => by obtain rfl:j=0:=by omega
              exact⟨[],by simp⟩
 | m+1,h=>by
   by_cases e:j=m+1
   · subst e;exact⟨[],by simp⟩
   · obtain⟨r,hr⟩:=preIn C i j m (by omega)
     exact⟨r++conOne C i m,by rw[conIn,hr,List.append_assoc]⟩
theorem conAt (C:Nat→Nat→Int) {n i k:Nat} (hi:i<n) (hk:k<n):∃ r,conL C n=(conOut C n i++conIn C i k)++(conOne C i k++r):=by
 obtain⟨r1,h1⟩:=preOut C n (i+1) n (by omega)
 obtain⟨r2,h2⟩:=preIn C i (k+1) n (by omega)
 refine⟨r2++r1,?_⟩
 unfold conL
 rw[h1,conOut,h2,conIn]
 simp only[List.append_assoc]
theorem con_has (C:Nat→Nat→Int) {n i k M:Nat} (hi:i<n) (hk:k<n) (hb:conB C i k=true) (hM:(conL C n).length=M*5):∃ q,q<M∧ofL (conL C n) (q*5)=(i:Int)∧ofL (conL C n) (q*5+1)=(k:Int):=by
 obtain⟨r,hr⟩:=conAt C hi hk
 obtain⟨m1,e1,_⟩:=conOut_len C n i
 obtain⟨m2,e2,_⟩:=conIn_len C i k
 have e3:conOne C i k=[(i:Int),(k:Int),(tcH C i k).1.1,(tcH C i k).1.2.1,(tcH C i k).1.2.2]:=by unfold conOne;rw[if_pos hb]
 have hl:(conOut C n i++conIn C i k).length=(m1+m2)*5:=by rw[List.length_append,e1,e2];omega
 refine⟨m1+m2,?_,?_,?_⟩
 · rw[hr,e3,List.length_append,hl,List.length_append] at hM
   simp only[List.length_cons,List.length_nil] at hM
   omega
 · rw[hr,e3]
   unfold ofL
   rw[List.getD_eq_getElem?_getD,List.getElem?_append_right (by omega),hl,Nat.sub_self]
   rfl
 · rw[hr,e3]
   unfold ofL
   rw[List.getD_eq_getElem?_getD,List.getElem?_append_right (by omega),hl,Nat.add_sub_cancel_left]
   rfl
def ConP (C:Nat→Nat→Int) (n:Nat) (a b _x _y _d:Int):Prop:=∃ i k:Nat,a=i∧b=k∧k<n∧conB C i k=true
theorem conOne_P (C:Nat→Nat→Int) {n i k:Nat} (hk:k<n):Fives (ConP C n) (conOne C i k):=by
 unfold conOne
 by_cases h:conB C i k=true
 · rw[if_pos h];exact Fives.one ⟨i,k,rfl,rfl,hk,h⟩
 · rw[if_neg h];exact Fives.nil _
theorem conIn_P (C:Nat→Nat→Int) {n i:Nat}:∀ k,k≤n→Fives (ConP C n) (conIn C i k)
 |0,_=>Fives.nil _
 |k+1,h=>by rw[conIn];exact(conIn_P C k (by omega)).app (conOne_P C (by omega))
theorem conOut_P (C:Nat→Nat→Int) {n:Nat}:∀ i,Fives (ConP C n) (conOut C n i)
 |0=>Fives.nil _
 |i+1=>by rw[conOut];exact(conOut_P C i).app (conIn_P C n (Nat.le_refl _))
theorem con_is (C:Nat→Nat→Int) {n M:Nat} (hM:(conL C n).length=M*5):∀ q,q<M→∃ i k:Nat,ofL (conL C n) (q*5)=i∧ofL (conL C n) (q*5+1)=k∧k<n∧conB C i k=true:=by
 obtain⟨m,e,h⟩:=conOut_P C (n:=n) n
 have e':(conL C n).length=m*5:=e
 obtain rfl:M=m:=by omega
 exact h
theorem conB_lt {C:Nat→Nat→Int} {i k:Nat} (h:conB C i k=true):i<k:=by
 rcases Nat.lt_or_ge i k with l|l
 · exact l
 · rw[conB_ge l] at h;cases h
theorem conB_of {C C':Nat→Nat→Int} {i k i' k':Nat} (h1:∀ r,r<12→C r i=C' r i') (h2:∀ r,r<12→C r k=C' r k') (hl:i<k↔i'<k'):conB C i k=conB C' i' k':=by
 unfold conB tcH
 rw[h1 1 (by decide),h1 2 (by decide),h1 3 (by decide),h1 4 (by decide),h1 5 (by decide),h1 8 (by decide),h2 1 (by decide),h2 2 (by decide),h2 3 (by decide),h2 4 (by decide),h2 5 (by decide),h2 8 (by decide),decide_eq_decide.2 hl]
theorem edge_of {n M q A B:Nat} {U:Nat→Int} (hM:(conL (colOf U) n).length=M*5) (hq:q<M) (h:edg U (ofL (conL (colOf U) n)) q=some (A,B)):(A<B∧B<n)∧conB (colOf U) A B=true∧fxU U A=false∧fxU U B=false:=by
 obtain⟨i,k,e1,e2,hk,hb⟩:=con_is (colOf U) hM q hq
 unfold edg at h
 rw[e1,e2,Int.toNat_natCast,Int.toNat_natCast] at h
 by_cases hm:U (i*12+8)≠0∧U (k*12+8)≠0
 · rw[if_pos hm] at h
   simp only[Option.some.injEq,Prod.mk.injEq] at h
   obtain⟨rfl,rfl⟩:=h
   exact⟨⟨conB_lt hb,hk⟩,hb,decide_eq_false hm.1,decide_eq_false hm.2⟩
 · rw[if_neg hm] at h;cases h
theorem edge_has {n M A B:Nat} {U:Nat→Int} (hM:(conL (colOf U) n).length=M*5) (hA:A<n) (hB:B<n) (hc:conB (colOf U) A B=true) (fA:fxU U A=false) (fB:fxU U B=false):∃ q,q<M∧edg U (ofL (conL (colOf U) n)) q=some (A,B):=by
 obtain⟨q,hq,e1,e2⟩:=con_has (colOf U) hA hB hc hM
 refine⟨q,hq,?_⟩
 unfold edg
 rw[e1,e2,Int.toNat_natCast,Int.toNat_natCast,if_pos ⟨of_decide_eq_false fA,of_decide_eq_false fB⟩]
theorem gnum_top {fx:Nat→Bool} {L:Nat→Nat} (hT:Tops fx L) {i j:Nat} (fi:fx i=false) (fj:fx j=false) (e:gnum fx L i=gnum fx L j):L i=L j:=by
 unfold gnum at e
 rw[fi,fj] at e
 exact cntp_inj _ (hT.fst fi) (hT.fst fj) (by simp at e;omega)
theorem gofP_in {fx:Nat→Bool} {L:Nat→Nat} {q:Int} {j:Nat} (f:fx j=false) (h:gofP fx L q j=true):gnum fx L j=q:=by
 unfold gofP at h
 rw[f,Bool.false_or] at h
 exact of_decide_eq_true h
theorem part_one {n M M':Nat} {U U':Nat→Int} {k:Int} {s:List Nat} (hM:(conL (colOf U) n).length=M*5)
 (hs:s=selL (gofP (fxU U) (lab (edg U (ofL (conL (colOf U) n))) M) k) n) (hM':(conL (colOf U') s.length).length=M'*5)
 (hU:∀ a r,a<s.length→r<12→U' (a*12+r)=U (s.getD a 0*12+r)):
 ∀ a b,a<s.length→b<s.length→fxU U' a=false→fxU U' b=false→lab (edg U' (ofL (conL (colOf U') s.length))) M' a=lab (edg U' (ofL (conL (colOf U') s.length))) M' b:=by
 intro a b ha hb fa fb
 have hT:=lab_tops U (ofL (conL (colOf U) n)) M
 have hfx:∀ c,c<s.length→fxU U' c=fxU U (s.getD c 0):=fun c hc=>by unfold fxU;rw[hU c 8 hc (by decide)]
 have hp:∀ c,c<s.length→fxU U (s.getD c 0)=false→gnum (fxU U) (lab (edg U (ofL (conL (colOf U) n))) M) (s.getD c 0)=k:=fun c hc f=>by
  subst hs
  exact gofP_in f (selL_at hc).2
 have hin:∀ j,j<n→gnum (fxU U) (lab (edg U (ofL (conL (colOf U) n))) M) j=k→∃ d,d<s.length∧s.getD d 0=j:=fun j hj e=>by
  subst hs
  exact selL_ex hj (by unfold gofP;rw[decide_eq_true e,Bool.or_true])
 have hlt:∀ c d,c<s.length→d<s.length→(c<d↔s.getD c 0<s.getD d 0):=fun c d hc hd=>by
  subst hs
  exact selL_lt hc hd
 have hinj:∀ c d,c<s.length→d<s.length→s.getD c 0=s.getD d 0→c=d:=fun c d hc hd e=>by
  subst hs
  exact selL_inj hc hd e
 -- two of the part that touch have one top
 have hjoin:∀ c d,c<s.length→d<s.length→conB (colOf U) (s.getD c 0) (s.getD d 0)=true→fxU U (s.getD c 0)=false→fxU U (s.getD d 0)=false→lab (edg U' (ofL (conL (colOf U') s.length))) M' c=lab (edg U' (ofL (conL (colOf U') s.length))) M' d:=fun c d hc hd hb fc fd=>by
  have e:=conB_of (C:=colOf U') (C':=colOf U) (i:=c) (k:=d) (i':=s.getD c 0) (k':=s.getD d 0) (fun r hr=>hU c r hc hr) (fun r hr=>hU d r hd hr) (hlt c d hc hd)
  obtain⟨q,hq,he⟩:=edge_has (U:=U') hM' hc hd (e.trans hb) ((hfx c hc).trans fc) ((hfx d hd).trans fd)
  exact lab_edge _ M' q c d hq he
 have hE:∀ q A B,q<M→edg U (ofL (conL (colOf U) n)) q=some (A,B)→gnum (fxU U) (lab (edg U (ofL (conL (colOf U) n))) M) A=gnum (fxU U) (lab (edg U (ofL (conL (colOf U) n))) M) B:=fun q A B hq he=>by
  obtain⟨_,_,fA,fB⟩:=edge_of hM hq he
  have l:=lab_edge _ M q A B hq he
  unfold gnum
  rw[fA,fB,l]
 have hX:=lab_set (edg U (ofL (conL (colOf U) n))) (fun j=>∃ c,c<s.length∧s.getD c 0=j∧lab (edg U' (ofL (conL (colOf U') s.length))) M' c=lab (edg U' (ofL (conL (colOf U') s.length))) M' a) M (fun q A B hq he=>by
  obtain⟨⟨hAB,hBn⟩,hcb,fA,fB⟩:=edge_of hM hq he
  have hg:=hE q A B hq he
  constructor
  · rintro⟨c,hc,rfl,l⟩
    obtain⟨d,hd,rfl⟩:=hin B hBn (hg.symm.trans (hp c hc fA))
    exact⟨d,hd,rfl,(hjoin c d hc hd hcb fA fB).symm.trans l⟩
  · rintro⟨d,hd,rfl,l⟩
    obtain⟨c,hc,rfl⟩:=hin A (by omega) (hg.trans (hp d hd fB))
    exact⟨c,hc,rfl,(hjoin c d hc hd hcb fA fB).trans l⟩)
 have fsa:fxU U (s.getD a 0)=false:=(hfx a ha).symm.trans fa
 have fsb:fxU U (s.getD b 0)=false:=(hfx b hb).symm.trans fb
 have el:lab (edg U (ofL (conL (colOf U) n))) M (s.getD a 0)=lab (edg U (ofL (conL (colOf U) n))) M (s.getD b 0):=gnum_top hT fsa fsb ((hp a ha fsa).trans (hp b hb fsb).symm)
 have x1:=(hX (s.getD a 0)).2 ⟨a,ha,rfl,rfl⟩
 rw[el] at x1
 obtain⟨c,hc,e,l⟩:=(hX (s.getD b 0)).1 x1
 obtain rfl:=hinj c b hc hb e
 exact l.symm
theorem cntp_find {p:Nat→Bool} {k:Nat}:∀ {n:Nat},k<cntp p n→∃ i,i<n∧p i=true∧cntp p i=k
 |0,h=>absurd h (Nat.not_lt_zero _)
 | n+1,h=>by
   by_cases l:k<cntp p n
   · obtain⟨i,hi,a,b⟩:=cntp_find l;exact⟨i,by omega,a,b⟩
   · rw[cntp] at h
     by_cases hp:p n=true
     · rw[if_pos hp] at h;exact⟨n,by omega,hp,by omega⟩
     · rw[if_neg hp] at h;omega
theorem cntp_zero {p:Nat→Bool}:∀ {n:Nat},(∀ j,j<n→p j=false)→cntp p n=0
 |0,_=>rfl
 |n+1,h=>by rw[cntp,cntp_zero (fun j hj=>h j (by omega)),h n (by omega)];rfl
theorem cntp_uniq {p:Nat→Bool} {t:Nat} (ht:p t=true):∀ {n:Nat},t<n→(∀ j,j<n→p j=true→j=t)→cntp p n=1
 |0,h,_=>absurd h (Nat.not_lt_zero _)
 | n+1,h,hu=>by
   rw[cntp]
   by_cases e:t=n
   · subst e
     rw[if_pos ht,cntp_zero (fun j hj=>by
      cases q:p j with
      |false=>rfl
      |true=>have:=hu j (by omega) q;omega)]
   · rw[cntp_uniq ht (by omega) (fun j hj q=>hu j (by omega) q),if_neg (fun q=>e (hu n (by omega) q).symm)]
theorem part_bods {n:Nat} {U U':Nat→Int} (h:Bods n U) (p:Nat→Bool) (hU:∀ a r,a<(selL p n).length→r<12→U' (a*12+r)=U ((selL p n).getD a 0*12+r)):Bods (selL p n).length U':=by
 have hasc:∀ d i,i+d<n→0<d→U (i*12)<U ((i+d)*12):=fun d=>by
  induction d with
  |zero=>intro i _ h0;omega
  | succ d ih=>
    intro i hi _
    have a:=h.asc (i+d) (by omega)
    by_cases h0:d=0
    · subst h0;exact a
    · exact Int.lt_trans (ih i (by omega) (by omega)) a
 refine⟨Nat.le_trans (selL_le p n) h.le,fun a ha=> ?_,fun a ha=> ?_⟩
 · rw[bodyB_cong (fun r hr=>hU a r ha hr)]
   exact h.ok _ (selL_at ha).1
 · have h0:=hU a 0 (by omega) (by decide)
   have h1:=hU (a+1) 0 ha (by decide)
   rw[Nat.add_zero,Nat.add_zero] at h0 h1
   rw[h0,h1]
   have l:=selL_asc p n a (a+1) (by omega) ha
   have q:=(selL_at ha).1
   have r:=hasc ((selL p n).getD (a+1) 0-(selL p n).getD a 0) ((selL p n).getD a 0) (by omega) (by omega)
   rw[show (selL p n).getD a 0+((selL p n).getD (a+1) 0-(selL p n).getD a 0)=(selL p n).getD (a+1) 0 by omega] at r
   exact r
theorem rsL_at (U:Nat→Int) (s:List Nat) {a r:Nat} (ha:a<s.length) (hr:r<12):ofL (rsL U s) (a*12+r)=U (s.getD a 0*12+r):=by
 unfold rsL
 rw[rwL_at _ _ _ (by omega),show (a*12+r) % 12=r by omega,show (a*12+r)/12=a by omega]
 rfl
theorem awO_num {n:Nat} {U:Nat→Int} (hB:bodsB n U=true):(awO n U).length=cntp (fstB (fxU U) (lab (edg U (ofL (conL (colOf U) n))) (conN n U))) n:=by
 rw[awO_y hB]
 exact(awL_eq (lab_tops U _ _) (grpU_eq (bods_n hB)) n (Nat.le_refl _)).1
def mvN (n:Nat) (U:Nat→Int):Nat:=cntp (fun j=> !fxU U j) n
def fxN (n:Nat) (U:Nat→Int):Nat:=cntp (fxU U) n
def sumG (n:Nat) (U:Nat→Int) (i:Nat):Nat:=cntp (fun j=> !fxU U j&&decide (gnum (fxU U) (lab (edg U (ofL (conL (colOf U) n))) (conN n U)) j<(i:Int))) n
end Go.Proofs.YtpmjnpmnocjjgaaGreatDoor
