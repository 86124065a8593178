/- Texts of a proof. -/
import Derived.Test.YtpmjnpmnocjjgaaGreatDoorB17
import Derived.Test.YtpmjnpmnocjjgaaGreatDoorB11
import Derived.Deep.RegionHeld3
import Derived.Deep.DeepCutAuto
import Derived.Test.YtpmjnpmnocjjgaaGreatDoorB13
import Derived.Test.YtpmjnpmnocjjgaaGreatDoorB2
set_option maxHeartbeats 16000000
set_option maxRecDepth 20000
namespace Go.Proofs.YtpmjnpmnocjjgaaGreatDoor
open Go.RowKit
set_option linter.unusedVariables false
set_option linter.unusedSimpArgs false
def atOf (F:List Int) (x:Int):Nat→Int
 |0=> -1
 |k+1=>if ofL F k=x then (k:Int) else atOf F x k
theorem atOf_bd (F:List Int) (x:Int):∀ k,-1≤atOf F x k∧atOf F x k<(k:Int)∨k=0∧atOf F x k= -1
 |0=> .inr ⟨rfl,rfl⟩
 | k+1=>by
   left
   rw[atOf]
   split
   · omega
   · rcases atOf_bd F x k with h|h<;>omega
def numS (U G:Nat→Int):Nat→List Int×List Int
 |0=>([],[])
 | i+1=>
   bif decide (U (i*12+8)=0) then ((numS U G i).1++[-1],(numS U G i).2)
   else bif decide (atOf (numS U G i).2 (G i) (numS U G i).2.length<0) then ((numS U G i).1++[((numS U G i).2.length:Int)],(numS U G i).2++[G i])
   else ((numS U G i).1++[atOf (numS U G i).2 (G i) (numS U G i).2.length],(numS U G i).2)
theorem numS_z {U G:Nat→Int} {i:Nat} (h:U (i*12+8)=0):numS U G (i+1)=((numS U G i).1++[-1],(numS U G i).2):=by rw[numS,decide_eq_true h];rfl
theorem numS_n {U G:Nat→Int} {i:Nat} (h:¬ U (i*12+8)=0) (h2:atOf (numS U G i).2 (G i) (numS U G i).2.length<0):numS U G (i+1)=((numS U G i).1++[((numS U G i).2.length:Int)],(numS U G i).2++[G i]):=by rw[numS,decide_eq_false h,decide_eq_true h2];rfl
theorem numS_o {U G:Nat→Int} {i:Nat} (h:¬ U (i*12+8)=0) (h2:¬ atOf (numS U G i).2 (G i) (numS U G i).2.length<0):numS U G (i+1)=((numS U G i).1++[atOf (numS U G i).2 (G i) (numS U G i).2.length],(numS U G i).2):=by rw[numS,decide_eq_false h,decide_eq_false h2];rfl
theorem numS_len (U G:Nat→Int):∀ i,(numS U G i).1.length=i∧(numS U G i).2.length≤i
 |0=>⟨rfl,Nat.le_refl _⟩
 | i+1=>by
   obtain⟨h1,h2⟩:=numS_len U G i
   by_cases h:U (i*12+8)=0
   · rw[numS_z h];exact⟨by rw[List.length_append,h1];rfl,by show (numS U G i).2.length≤_;omega⟩
   · by_cases k:atOf (numS U G i).2 (G i) (numS U G i).2.length<0
     · rw[numS_n h k];exact⟨by rw[List.length_append,h1];rfl,by rw[List.length_append];simp;omega⟩
     · rw[numS_o h k];exact⟨by rw[List.length_append,h1];rfl,by show (numS U G i).2.length≤_;omega⟩
theorem l7Number_any (a:Option Addr) (n c:Nat) (U:Nat→Int) (ag:Option Addr) (cg:Nat) (G:Nat→Int) (w:World) (h:Flat w a (n*12) U) (hn:n≤1000) (hG2:Flat w ag (n*1) G):
 Calls Tryz.prog 63 #[.slice a n c,.slice ag n cg] w fun e w'=>∃ g1 c1,e= .returned (.slice (some ⟨g1,0,none⟩) n c1)∧LV w w' 3 g1 c1 n (IV (numS U G n).1):=by
 have hset:=cset_map
 have ha:Below w.heap.size w (w.alloc (.cells #[] 3)):=(Below.refl _ _).alloc (Nat.le_refl _) _
 have L1:=LV.new (w:=w) 3 (Below.refl _ w) rfl
 have L2:=LV.new (w:=w) 3 ha (s:=w.heap.size+1) (by simp)
 have L1':=L1.on ((Below.refl _ _).alloc (Nat.le_refl _) (.cells #[] 3))
 go_enter Tryz.func63,Tryz.ntmps63
 go_upto_region 4 with fail
 go_loopw [5,6,7,8,9] (fun s5 s6 s7 _ _ wr=>∃ (i g1 c1 g2 c2:Nat),i≤n∧s7= .int .i64 (i:Int)∧s5= .slice (some ⟨g1,0,none⟩) i c1∧s6= .slice (some ⟨g2,0,none⟩) (numS U G i).2.length c2∧LV w wr 3 g1 c1 i (IV (numS U G i).1)∧LV w wr 3 g2 c2 (numS U G i).2.length (IV (numS U G i).2)∧g1≠g2) (fun _ _ s7 _ _ _=>n-(intOf s7).toNat)
 case atStart=>exact⟨0,_,_,_,_,Nat.zero_le _,rfl,rfl,rfl,L1',L2,by omega⟩
 case round=>
  clear L1 L2 L1' ha
  obtain⟨i,g1,c1,g2,c2,hi,rfl,rfl,rfl,H1,H2,hne⟩:=hrel
  obtain⟨_,hfl⟩:=numS_len U G i
  by_cases hlt:i<n
  · have hin:(i:Int)<(n:Int):=by omega
    obtain⟨b0,o0,e0,hbl0,hc0⟩:=(h.below H1.bel) (by omega)
    have r8:=hc0 (i*12+8) (by omega)
    simp only[←Nat.add_assoc] at r8
    obtain⟨b2,o2,e2,hbl2,hc2⟩:=(hG2.below H1.bel) (by omega)
    have rG:=hc2 i (by omega)
    subst e0 e2
    by_cases hm:U (i*12+8)=0
    · have HZ:Shut (numS U G (i+1)=((numS U G i).1++[-1],(numS U G i).2)):=numS_z hm
      have em:(U (i*12+8)==0)=true:=by simp[hm]
      clear hm
      have hE:Below wr.heap.size wr (wr.alloc (Obj.cells #[.int .i64 (-1)] 3)):=(Below.refl _ _).alloc (Nat.le_refl _) _
      have hcE:(wr.alloc (Obj.cells #[.int .i64 (-1)] 3)).cell? ⟨wr.heap.size,0,none⟩=some (.int .i64 (-1)):=by go_simp
      have H2E:=H2.on hE
      go_wp2_with (refine wpList_push rfl _ _ _ rfl 3 8 zcInt Tryz.underlying42 infoInt rfl (by decide) g1 c1 i (IV (numS U G i).1) rfl H1 hE wr.heap.size rfl (.int .i64 (-1)) hcE rfl (by omega) ?_;intro g5 c5 w5 hp5 hg5 hl5)
      have K2:=H2E.kept hg5 H1.lt.1 hne
      go_roundw
      case rel=>
       refine⟨i+1,g5,c5,g2,c2,by omega,by go_num,rfl,by rw[HZ.out],?_⟩
       rw[HZ.out]
       exact⟨by rw[←IV_app];exact hp5,K2,by have:=H2.lt;have:=H1.lt;simp at hl5;omega⟩
      case measure=>simp[intOf];omega
    · have em:(U (i*12+8)==0)=false:=by simp[hm]
      obtain⟨F,hF⟩:∃ F,(numS U G i).2=F:=⟨_,rfl⟩
      obtain⟨O,hOO⟩:∃ O,(numS U G i).1=O:=⟨_,rfl⟩
      obtain⟨nf,hnf⟩:∃ nf,F.length=nf:=⟨_,rfl⟩
      have HN:= @numS_n U G i hm
      have HO:= @numS_o U G i hm
      rw[hF,hOO,hnf] at HN HO
      rw[hF,hnf] at hfl
      rw[hOO] at H1
      rw[hF,hnf] at H2 ⊢
      have HN:=HN
      have HO:=HO
      clear hm
      go_upto_region 10 with fail
      go_loopw [8,9] (fun s8 s9 wq=>∃ k:Nat,k≤nf∧s9= .int .i64 (k:Int)∧s8= .int .i64 (atOf F (G i) k)∧LV w wq 3 g1 c1 i (IV O)∧LV w wq 3 g2 c2 nf (IV F)) (fun _ s9 _=>nf-(intOf s9).toNat)
      case atStart=>exact⟨0,Nat.zero_le _,rfl,rfl,H1,H2⟩
      case round=>
       clear H1 H2 r8 rG hc0 hc2
       obtain⟨k,hk,rfl,rfl,H1,H2⟩:=hrel
       obtain⟨b2',o2',e2',hbl2',hc2'⟩:=(hG2.below H1.bel) (by omega)
       have rG:=hc2' i (by omega)
       cases e2'
       by_cases hkl:k<nf
       · have hkn:(k:Int)<(nf:Int):=by omega
         have rF:=H2.ic hkl
         have HAT:Shut (atOf F (G i) (k+1)=if ofL F k=G i then (k:Int) else atOf F (G i) k):=by show _=_;rw[atOf]
         by_cases e:ofL F k=G i
         · have e5:(ofL F k==G i)=true:=by simp[e]
           rw[if_pos e] at HAT
           clear e
           go_upto_region 12 with fail
           refine wp_region_held_drew (S:=fun w'=>w'.cell? ⟨g2,k,none⟩=some (.int .i64 (ofL F k))∧w'.cell? ⟨b2,o2+i,none⟩=some (.int .i64 (G i))) (by kernel_rfl) ?_ (fun hHeld=> ?_)
           · (try dsimp only)
             (first|(go_simp;done)|(go_keep;done))
           refine tq 0 hHeld ?_
           refine tq 1 hHeld ?_
           refine tq 2 hHeld ?_
           refine tq 3 hHeld ?_
           refine tq 4 hHeld ?_
           refine tq 5 hHeld ?_
           refine tq 6 hHeld ?_
           refine tq 7 hHeld ?_
           refine tq 8 hHeld ?_
           refine wpAnyH_done (by kernel_rfl) ?_ _
           go_wp2_with fail
           go_roundw
           case rel=>exact⟨k+1,by omega,by go_num,by rw[HAT.out],H1.dr,H2.dr⟩
           case measure=>simp[intOf];omega
         · have e5:(ofL F k==G i)=false:=by simp[e]
           rw[if_neg e] at HAT
           clear e
           go_upto_region 12 with fail
           refine wp_region_held_drew (S:=fun w'=>w'.cell? ⟨g2,k,none⟩=some (.int .i64 (ofL F k))∧w'.cell? ⟨b2,o2+i,none⟩=some (.int .i64 (G i))) (by kernel_rfl) ?_ (fun hHeld=> ?_)
           · (try dsimp only)
             (first|(go_simp;done)|(go_keep;done))
           refine tq 0 hHeld ?_
           refine tq 1 hHeld ?_
           refine tq 2 hHeld ?_
           refine tq 3 hHeld ?_
           refine tq 4 hHeld ?_
           refine tq 5 hHeld ?_
           refine tq 6 hHeld ?_
           refine tq 7 hHeld ?_
           refine tq 8 hHeld ?_
           refine wpAnyH_done (by kernel_rfl) ?_ _
           go_wp2_with fail
           go_roundw
           case rel=>exact⟨k+1,by omega,by go_num,by rw[HAT.out],H1.dr,H2.dr⟩
           case measure=>simp[intOf];omega
       · obtain rfl:k=nf:=by omega
         obtain⟨z,hz⟩:∃ z,atOf F (G i) k=z:=⟨_,rfl⟩
         rw[hz] at HN HO
         rw[hz]
         by_cases hzn:z<0
         · have HN':Shut (numS U G (i+1)=(O++[(k:Int)],F++[G i])):=HN hzn
           have hE:Below wr.heap.size wr (wr.alloc (Obj.cells #[.int .i64 (G i)] 3)):=(Below.refl _ _).alloc (Nat.le_refl _) _
           have hcE:(wr.alloc (Obj.cells #[.int .i64 (G i)] 3)).cell? ⟨wr.heap.size,0,none⟩=some (.int .i64 (G i)):=by go_simp
           have H1E:=H1.on hE
           have hlt1:=H1.lt
           have hlt2:=H2.lt
           go_upto_region 17 with(refine wpList_push rfl _ _ _ rfl 3 8 zcInt Tryz.underlying42 infoInt rfl (by decide) g2 c2 k (IV F) rfl H2 hE wr.heap.size rfl (.int .i64 (G i)) hcE rfl (by omega) ?_;intro g5 c5 w5 hp5 hg5 hl5)
           have K1:=H1E.kept hg5 H2.lt.1 (fun e=>hne e.symm)
           have hE6:Below w5.heap.size w5 (w5.alloc (Obj.cells #[.int .i64 (k:Int)] 3)):=(Below.refl _ _).alloc (Nat.le_refl _) _
           have hcE6:(w5.alloc (Obj.cells #[.int .i64 (k:Int)] 3)).cell? ⟨w5.heap.size,0,none⟩=some (.int .i64 (k:Int)):=by go_simp
           have hne5:g1≠g5:=by simp at hl5;omega
           have hlt5:=hp5.lt
           have H5E:=hp5.on hE6
           clear hE hcE H1E hg5 hl5
           go_wp2_with (refine wpList_push rfl _ _ _ rfl 3 8 zcInt Tryz.underlying42 infoInt rfl (by decide) g1 c1 i (IV O) rfl K1 hE6 w5.heap.size rfl (.int .i64 (k:Int)) hcE6 rfl (by omega) ?_;intro g6 c6 w6 hp6 hg6 hl6)
           have K5:=H5E.kept hg6 K1.lt.1 hne5
           go_roundw
           case rel=>
            refine⟨i+1,g6,c6,g5,c5,by omega,by go_num,rfl,by rw[HN'.out];simp[hnf],?_⟩
            rw[HN'.out]
            exact⟨by rw[←IV_app];exact hp6,by rw[←IV_app,List.length_append,hnf];exact K5,by have:=K5.lt;have:=K1.lt;simp at hl6;omega⟩
           case measure=>simp[intOf];omega
         · have HO':Shut (numS U G (i+1)=(O++[z],F)):=HO (by omega)
           have hE6:Below wr.heap.size wr (wr.alloc (Obj.cells #[.int .i64 z] 3)):=(Below.refl _ _).alloc (Nat.le_refl _) _
           have hcE6:(wr.alloc (Obj.cells #[.int .i64 z] 3)).cell? ⟨wr.heap.size,0,none⟩=some (.int .i64 z):=by go_simp
           have H2E:=H2.on hE6
           go_wp2_with (refine wpList_push rfl _ _ _ rfl 3 8 zcInt Tryz.underlying42 infoInt rfl (by decide) g1 c1 i (IV O) rfl H1 hE6 wr.heap.size rfl (.int .i64 z) hcE6 rfl (by omega) ?_;intro g6 c6 w6 hp6 hg6 hl6)
           have K2:=H2E.kept hg6 H1.lt.1 hne
           go_roundw
           case rel=>
            refine⟨i+1,g6,c6,g2,c2,by omega,by go_num,rfl,by rw[HO'.out];simp[hnf],?_⟩
            rw[HO'.out]
            exact⟨by rw[←IV_app];exact hp6,by rw[hnf];exact K2,by have:=H2.lt;have:=H1.lt;simp at hl6;omega⟩
           case measure=>simp[intOf];omega
  · obtain rfl:i=n:=by omega
    go_wp2_with fail
    go_ret
    exact⟨_,_,rfl,H1⟩
def rootF (F:Nat→Nat) (i:Nat):Nat:=if h:F i<i then rootF F (F i) else i
termination_by i
theorem root_lt {F:Nat→Nat} {i:Nat} (h:F i<i):rootF F i=rootF F (F i):=by rw[rootF,dif_pos h]
theorem root_self {F:Nat→Nat} {i:Nat} (h:¬ F i<i):rootF F i=i:=by rw[rootF,dif_neg h]
theorem root_step {F:Nat→Nat} (le:∀ i,F i≤i) (i:Nat):rootF F (F i)=rootF F i:=by
 by_cases h:F i<i
 · rw[root_lt h]
 · have e:F i=i:=by have:=le i;omega
   rw[e]
theorem root_le (F:Nat→Nat):∀ i,rootF F i≤i:=by
 intro i
 induction i using Nat.strongRecOn with
 | ind i ih=>
   by_cases h:F i<i
   · rw[root_lt h];exact Nat.le_trans (ih _ h) (Nat.le_of_lt h)
   · rw[root_self h];exact Nat.le_refl _
theorem root_top (F:Nat→Nat):∀ i,¬ F (rootF F i)<rootF F i:=by
 intro i
 induction i using Nat.strongRecOn with
 | ind i ih=>
   by_cases h:F i<i
   · rw[root_lt h];exact ih _ h
   · rw[root_self h];exact h
def setF (F:Nat→Nat) (p v:Nat):Nat→Nat:=fun j=>if j=p then v else F j
theorem setF_at (F:Nat→Nat) (p v:Nat):setF F p v p=v:=if_pos rfl
theorem setF_ne {F:Nat→Nat} {p v j:Nat} (h:j≠p):setF F p v j=F j:=if_neg h
theorem setF_le {F:Nat→Nat} {p v:Nat} (le:∀ i,F i≤i) (hv:v≤p):∀ i,setF F p v i≤i:=fun i=>by
 by_cases e:i=p
 · subst e;rw[setF_at];exact hv
 · rw[setF_ne e];exact le i
theorem root_half {F:Nat→Nat} (le:∀ i,F i≤i) (p:Nat):∀ j,rootF (setF F p (F (F p))) j=rootF F j:=by
 intro j
 induction j using Nat.strongRecOn with
 | ind j ih=>
   by_cases e:j=p
   · subst e
     have l1:=le j
     have l2:=le (F j)
     by_cases h:F (F j)<j
     · rw[root_lt (by rw[setF_at];exact h),setF_at,ih _ h,root_step le,root_step le]
     · rw[root_self (by rw[setF_at];exact h),root_self (by omega)]
   · by_cases h:F j<j
     · rw[root_lt (by rw[setF_ne e];exact h),setF_ne e,ih _ h,root_step le]
     · rw[root_self (by rw[setF_ne e];exact h),root_self h]
theorem root_join {F:Nat→Nat} {m M:Nat} (hm:¬ F m<m) (hM:¬ F M<M) (hmM:m≤M):∀ j,rootF (setF F M m) j=if rootF F j=M then m else rootF F j:=by
 intro j
 induction j using Nat.strongRecOn with
 | ind j ih=>
   by_cases e:j=M
   · subst e
     rw[root_self (F:=F) hM,if_pos rfl]
     by_cases h:m<j
     · rw[root_lt (by rw[setF_at];exact h),setF_at,root_self (by rw[setF_ne (by omega)];exact hm)]
     · rw[root_self (by rw[setF_at];exact h)];omega
   · by_cases h:F j<j
     · rw[root_lt (by rw[setF_ne e];exact h),setF_ne e,ih _ h,←root_lt h]
     · rw[root_self (by rw[setF_ne e];exact h),root_self h,if_neg e]
structure Uf (w:World) (ub g n c:Nat) (F:Nat→Nat):Prop where
 hd:w.cell? ⟨ub,0,none⟩=some (.slice (some ⟨g,0,none⟩) n c)
 row:∀ i,i<n→w.cell? ⟨g,i,none⟩=some (.int .i64 (F i:Int))
 fz:∀ i,i<n→w.frozen? ⟨g,i,none⟩=false
 le:∀ i,F i≤i
 ne:ub≠g
 l1:ub<w.heap.size
 l2:g<w.heap.size
theorem Uf.on {w w':World} {ub g n c:Nat} {F:Nat→Nat} (h:Uf w ub g n c F) (k:Below w.heap.size w w'):Uf w' ub g n c F:=
 ⟨(k.cell (p:=⟨ub,0,none⟩) h.l1).trans h.hd,fun i hi=>(k.cell (p:=⟨g,i,none⟩) h.l2).trans (h.row i hi),fun i hi=>(k.frozen (p:=⟨g,i,none⟩) h.l2).trans (h.fz i hi),h.le,h.ne,Nat.lt_of_lt_of_le h.l1 k.size,Nat.lt_of_lt_of_le h.l2 k.size⟩
theorem Uf.set {w:World} {ub g n c:Nat} {F:Nat→Nat} (h:Uf w ub g n c F) {p v:Nat} (hp:p<n) (hv:v≤p):Uf (w.setCell ⟨g,p,none⟩ (.int .i64 (v:Int))) ub g n c (setF F p v):=by
 refine⟨?_,fun i hi=> ?_,fun i hi=>by rw[World.frozen?_setCell];exact h.fz i hi,setF_le h.le hv,h.ne,by simpa using h.l1,by simpa using h.l2⟩
 · rw[cset_far (by simp;have:=h.ne;omega)];exact h.hd
 · by_cases e:i=p
   · subst e;rw[cset_map,h.row i hi,setF_at];rfl
   · rw[cset_other (by intro q;cases q;exact e rfl),setF_ne e];exact h.row i hi
theorem top_q (ub g n c p:Nat) (F:Nat→Nat) (w:World) (h:Uf w ub g n c F) (hp:p<n):
 Calls Tryz.prog 45 #[.pointer (some ⟨ub,0,none⟩),.int .i64 (p:Int)] w fun e w'=>e= .returned (.int .i64 (rootF F p:Int))∧(∃ F',Uf w' ub g n c F'∧∀ j,rootF F' j=rootF F j)∧Fr (fun b=>b=g) w w':=by
 have hset:=cset_map
 go_enter Tryz.func45,Tryz.ntmps45
 go_upto_region 1 with fail
 go_loopw [1] (fun s1 wr=>∃ (q:Nat) (F':Nat→Nat),s1= .int .i64 (q:Int)∧q<n∧Uf wr ub g n c F'∧(∀ j,rootF F' j=rootF F j)∧rootF F' q=rootF F p∧Fr (fun b=>b=g) w wr) (fun s1 _=>(intOf s1).toNat)
 case atStart=>exact⟨p,F,rfl,hp,h,fun _=>rfl,rfl,Fr.refl _ _⟩
 case round=>
  obtain⟨q,F',rfl,hqn,hU,hall0,hrt0,hF⟩:=hrel
  have hall:Shut (∀ j,rootF F' j=rootF F j):=hall0
  have hrt:Shut (rootF F' q=rootF F p):=hrt0
  clear hall0 hrt0
  have hqi:(q:Int)<(n:Int):=by omega
  have u0:=hU.hd
  have uq:=hU.row q hqn
  have uf:=hU.fz q hqn
  have hle:=hU.le
  by_cases e:F' q=q
  · have ee:((F' q:Int) !=(q:Int))=false:=by simp[e]
    have hv:rootF F p=q:=by rw[←hrt.out,root_self (by omega)]
    clear e hrt
    go_wp2_with fail
    go_ret
    refine⟨?_,⟨F',hU,hall.out⟩,hF⟩
    rw[hv]
    rfl
  · have hlq:F' q<q:=by have:=hle q;omega
    have ee:((F' q:Int) !=(q:Int))=true:=by simp;omega
    have HH0:=root_half hle q
    have HR0:rootF F' (F' (F' q))=rootF F' q:=by rw[root_step hle,root_step hle]
    have hr2:=hle (F' q)
    have ur:=hU.row (F' q) (by omega)
    obtain⟨s,hs⟩:∃ s,F' q=s:=⟨_,rfl⟩
    rw[hs] at uq ee hlq HH0 HR0 hr2 ur
    obtain⟨r,hr⟩:∃ r,F' s=r:=⟨_,rfl⟩
    rw[hr] at HH0 HR0 hr2 ur
    have HH:Shut (∀ j,rootF (setF F' q r) j=rootF F j):=fun j=>(HH0 j).trans (hall.out j)
    have HR:Shut (rootF (setF F' q r) r=rootF F p):=(HH0 r).trans (HR0.trans hrt.out)
    clear HH0 HR0 hall hrt e hs hr hle
    have hsi:(s:Int)<(n:Int):=by omega
    have hr2q:r≤q:=by omega
    go_upto_region 2 with fail
    refine wp_region_held_drew (S:=fun w'=>w'.cell? ⟨ub,0,none⟩=some (.slice (some ⟨g,0,none⟩) n c)) (by kernel_rfl) ?_ (fun hHeld=> ?_)
    · (try dsimp only)
      (first|(go_simp;done)|(go_keep;done))
    refine tq 0 hHeld ?_
    refine tq 1 hHeld ?_
    refine tq 2 hHeld ?_
    refine tq 3 hHeld ?_
    refine tq 4 hHeld ?_
    refine tq 5 hHeld ?_
    refine tq 6 hHeld ?_
    refine tq 7 hHeld ?_
    refine tq 8 hHeld ?_
    refine tq 9 hHeld ?_
    refine tq 10 hHeld ?_
    refine tq 11 hHeld ?_
    refine tq 12 hHeld ?_
    refine tq 13 hHeld ?_
    refine tq 14 hHeld ?_
    refine tc 15 fun K hK=> ?_
    (go_simp
     refine tr hK (fun hHeld=> ?_)
     clear hK K)
    refine tq 16 hHeld ?_
    refine tc 17 fun K hK=> ?_
    (go_simp
     refine tr hK (fun hHeld=> ?_)
     clear hK K)
    refine tq 18 hHeld ?_
    refine tc 19 fun K hK=> ?_
    (go_simp
     have hU2:=hU.set (v:=r) hqn hr2q
     have hF2:=hF.trans (Fr.setCell (X:=fun b=>b=g) (p:=⟨g,q,none⟩) rfl (.int .i64 (r:Int)))
     clear u0 uq ur
     replace hU2:=hU2.on (Below.drew (Below.refl _ _))
     replace hF2:=hF2.drew
     generalize (wr.setCell ⟨g,q,none⟩ (.int .i64 (r:Int))).drew=w5 at hU2 hF2 ⊢
     have u0:=hU2.hd
     refine tr hK (fun hHeld=> ?_)
     clear hK K)
    refine wpAnyH_done (by kernel_rfl) ?_ _
    have uq:=hU2.row q hqn
    rw[setF_at] at uq
    go_wp2_with fail
    go_roundw
    case rel=>exact⟨r,_,rfl,by omega,hU2,HH.out,HR.out,hF2⟩
    case measure=>simp[intOf];omega
theorem join_q (ub g n c p q:Nat) (F:Nat→Nat) (w:World) (h:Uf w ub g n c F) (hp:p<n) (hq:q<n):
 Calls Tryz.prog 84 #[.pointer (some ⟨ub,0,none⟩),.int .i64 (p:Int),.int .i64 (q:Int)] w fun e w'=>e= .returned (.tuple #[])∧(∃ F',Uf w' ub g n c F'∧∀ j,rootF F' j=if rootF F j=max (rootF F p) (rootF F q) then min (rootF F p) (rootF F q) else rootF F j)∧Fr (fun b=>b=g) w w':=by
 have hset:=cset_map
 have lp:=root_le F p
 have lq:=root_le F q
 go_enter Tryz.func84,Tryz.ntmps84
 go_upto_region 1 with(first
  |(have _:=hF1;go_at_call 45;refine(top_q ub g n c q F1 _ hU1 hq).mono ?_;rintro e w2 ⟨rfl,⟨F2,hU2,hE2⟩,hF2⟩)
  |(go_at_call 45;refine(top_q ub g n c p F _ h hp).mono ?_;rintro e w1 ⟨rfl,⟨F1,hU1,hE1⟩,hF1⟩))
 have hE:∀ j,rootF F2 j=rootF F j:=fun j=>(hE2 j).trans (hE1 j)
 have hF:=hF1.trans hF2
 (try rw[hE1 q])
 have hU:=hU2
 obtain⟨F',hF'⟩:∃ F',F2=F':=⟨_,rfl⟩
 rw[hF'] at hU hE
 clear hE1 hE2 hF1 hF2 hU1 hU2 hF'
 have tp:¬ F' (rootF F p)<rootF F p:=by rw[←hE p];exact root_top F' p
 have tq':¬ F' (rootF F q)<rootF F q:=by rw[←hE q];exact root_top F' q
 generalize hA0:rootF F p=A at lp tp ⊢
 generalize hB0:rootF F q=B at lq tq' ⊢
 have hA:Shut (rootF F p=A):=hA0
 have hB:Shut (rootF F q=B):=hB0
 have HE:Shut (∀ j,rootF F' j=rootF F j):=hE
 clear hA0 hB0 hE
 have u0:=hU.hd
 have ufA:=hU.fz A (by omega)
 have ufB:=hU.fz B (by omega)
 by_cases hAB:A<B
 · have i1:(A:Int)<(B:Int):=by omega
   have i2:¬ (B:Int)<(A:Int):=by omega
   have i3:(B:Int)<(n:Int):=by omega
   have uB:=hU.row B (by omega)
   have hJ:Shut (∀ j,rootF (setF F' B A) j=if rootF F' j=B then A else rootF F' j):=root_join (m:=A) (M:=B) tp tq' (by omega)
   have hmx:Shut (max A B=B∧min A B=A):=by show _∧_;omega
   have hU2:=hU.set (p:=B) (v:=A) (by omega) (by omega)
   clear tp tq' lp lq
   go_wp2_with fail
   go_end0
   exact⟨rfl,⟨_,hU2,fun j=>by rw[hJ.out j,HE.out j,hA.out,hB.out,hmx.out.1,hmx.out.2]⟩,hF.trans (Fr.setCell (X:=fun b=>b=g) rfl _)⟩
 · by_cases hBA:B<A
   · have i1:(B:Int)<(A:Int):=by omega
     have i2:¬ (A:Int)<(B:Int):=by omega
     have i3:(A:Int)<(n:Int):=by omega
     have uB:=hU.row A (by omega)
     have hJ:Shut (∀ j,rootF (setF F' A B) j=if rootF F' j=A then B else rootF F' j):=root_join (m:=B) (M:=A) tq' tp (by omega)
     have hmx:Shut (max A B=A∧min A B=B):=by show _∧_;omega
     have hU2:=hU.set (p:=A) (v:=B) (by omega) (by omega)
     clear tp tq' lp lq
     go_wp2_with fail
     go_end0
     exact⟨rfl,⟨_,hU2,fun j=>by rw[hJ.out j,HE.out j,hA.out,hB.out,hmx.out.1,hmx.out.2]⟩,hF.trans (Fr.setCell (X:=fun b=>b=g) rfl _)⟩
   · obtain rfl:A=B:=by omega
     have i2:¬ (A:Int)<(A:Int):=by omega
     have i3:(A:Int)<(n:Int):=by omega
     have uB:=hU.row A (by omega)
     have hJ:Shut (∀ j,rootF (setF F' A A) j=if rootF F' j=A then A else rootF F' j):=root_join (m:=A) (M:=A) tp tp (by omega)
     have hmx:Shut (max A A=A∧min A A=A):=by show _∧_;omega
     have hU2:=hU.set (p:=A) (v:=A) (by omega) (by omega)
     clear tp tq' lp lq
     go_wp2_with fail
     go_end0
     exact⟨rfl,⟨_,hU2,fun j=>by rw[hJ.out j,HE.out j,hA.out,hB.out,hmx.out.1,hmx.out.2]⟩,hF.trans (Fr.setCell (X:=fun b=>b=g) rfl _)⟩
end Go.Proofs.YtpmjnpmnocjjgaaGreatDoor
