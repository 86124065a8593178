/- Texts of a proof. -/
import Derived.Test.YtbdbbdjifgpgeaaGreatB20
import Derived.Test.YtbdbbdjifgpgeaaGreatB18
import Derived.Deep.RegionHeld3
import Derived.Deep.DeepCutAuto
import Derived.Test.YtbdbbdjifgpgeaaGreatB27
set_option maxHeartbeats 16000000
set_option maxRecDepth 20000
namespace Go.Proofs.YtbdbbdjifgpgeaaGreat
open Go.RowKit
set_option linter.unusedVariables false
set_option linter.unusedSimpArgs false
def atOf (F:List Int) (x:Int):Nat→Int
 |0=> -1
 |k+1=>if ofL F k=x then (k:Int) else atOf F x k
theorem atOf_bd (F:List Int) (x:Int):∀ k,-1≤atOf F x k∧atOf F x k<(k:Int)∨k=0∧atOf F x k= -1
 |0=> .inr ⟨rfl,rfl⟩
 | k+1=>by
   left
   rw[atOf]
   split
   · omega
   · rcases atOf_bd F x k with h|h<;>omega
def numS (U G:Nat→Int):Nat→List Int×List Int
 |0=>([],[])
 | i+1=>
   bif decide (U (i*12+8)=0) then ((numS U G i).1++[-1],(numS U G i).2)
   else bif decide (atOf (numS U G i).2 (G i) (numS U G i).2.length<0) then ((numS U G i).1++[((numS U G i).2.length:Int)],(numS U G i).2++[G i])
   else ((numS U G i).1++[atOf (numS U G i).2 (G i) (numS U G i).2.length],(numS U G i).2)
theorem numS_z {U G:Nat→Int} {i:Nat} (h:U (i*12+8)=0):numS U G (i+1)=((numS U G i).1++[-1],(numS U G i).2):=by rw[numS,decide_eq_true h];rfl
theorem numS_n {U G:Nat→Int} {i:Nat} (h:¬ U (i*12+8)=0) (h2:atOf (numS U G i).2 (G i) (numS U G i).2.length<0):numS U G (i+1)=((numS U G i).1++[((numS U G i).2.length:Int)],(numS U G i).2++[G i]):=by rw[numS,decide_eq_false h,decide_eq_true h2];rfl
theorem numS_o {U G:Nat→Int} {i:Nat} (h:¬ U (i*12+8)=0) (h2:¬ atOf (numS U G i).2 (G i) (numS U G i).2.length<0):numS U G (i+1)=((numS U G i).1++[atOf (numS U G i).2 (G i) (numS U G i).2.length],(numS U G i).2):=by rw[numS,decide_eq_false h,decide_eq_false h2];rfl
theorem numS_len (U G:Nat→Int):∀ i,(numS U G i).1.length=i∧(numS U G i).2.length≤i
 |0=>⟨rfl,Nat.le_refl _⟩
 | i+1=>by
   obtain⟨h1,h2⟩:=numS_len U G i
   by_cases h:U (i*12+8)=0
   · rw[numS_z h];exact⟨by rw[List.length_append,h1];rfl,by show (numS U G i).2.length≤_;omega⟩
   · by_cases k:atOf (numS U G i).2 (G i) (numS U G i).2.length<0
     · rw[numS_n h k];exact⟨by rw[List.length_append,h1];rfl,by rw[List.length_append];simp;omega⟩
     · rw[numS_o h k];exact⟨by rw[List.length_append,h1];rfl,by show (numS U G i).2.length≤_;omega⟩
theorem l7Number_any (a:Option Addr) (n c:Nat) (U:Nat→Int) (ag:Option Addr) (cg:Nat) (G:Nat→Int) (w:World) (h:Flat w a (n*12) U) (hn:n≤1000) (hG2:Flat w ag (n*1) G):
 Calls Tryz.prog 35 #[.slice a n c,.slice ag n cg] w fun e w'=>∃ g1 c1,e= .returned (.slice (some ⟨g1,0,none⟩) n c1)∧LV w w' 3 g1 c1 n (IV (numS U G n).1):=by
 have hset:=cset_map
 have ha:Below w.heap.size w (w.alloc (.cells #[] 3)):=(Below.refl _ _).alloc (Nat.le_refl _) _
 have L1:=LV.new (w:=w) 3 (Below.refl _ w) rfl
 have L2:=LV.new (w:=w) 3 ha (s:=w.heap.size+1) (by simp)
 have L1':=L1.on ((Below.refl _ _).alloc (Nat.le_refl _) (.cells #[] 3))
 go_enter Tryz.func35,Tryz.ntmps35
 go_upto_region 4 with fail
 go_loopw [5,6,7,8,9] (fun s5 s6 s7 _ _ wr=>∃ (i g1 c1 g2 c2:Nat),i≤n∧s7= .int .i64 (i:Int)∧s5= .slice (some ⟨g1,0,none⟩) i c1∧s6= .slice (some ⟨g2,0,none⟩) (numS U G i).2.length c2∧LV w wr 3 g1 c1 i (IV (numS U G i).1)∧LV w wr 3 g2 c2 (numS U G i).2.length (IV (numS U G i).2)∧g1≠g2) (fun _ _ s7 _ _ _=>n-(intOf s7).toNat)
 case atStart=>exact⟨0,_,_,_,_,Nat.zero_le _,rfl,rfl,rfl,L1',L2,by omega⟩
 case round=>
  clear L1 L2 L1' ha
  obtain⟨i,g1,c1,g2,c2,hi,rfl,rfl,rfl,H1,H2,hne⟩:=hrel
  obtain⟨_,hfl⟩:=numS_len U G i
  by_cases hlt:i<n
  · have hin:(i:Int)<(n:Int):=by omega
    obtain⟨b0,o0,e0,hbl0,hc0⟩:=(h.below H1.bel) (by omega)
    have r8:=hc0 (i*12+8) (by omega)
    simp only[←Nat.add_assoc] at r8
    obtain⟨b2,o2,e2,hbl2,hc2⟩:=(hG2.below H1.bel) (by omega)
    have rG:=hc2 i (by omega)
    subst e0 e2
    by_cases hm:U (i*12+8)=0
    · have HZ:Shut (numS U G (i+1)=((numS U G i).1++[-1],(numS U G i).2)):=numS_z hm
      have em:(U (i*12+8)==0)=true:=by simp[hm]
      clear hm
      have hE:Below wr.heap.size wr (wr.alloc (Obj.cells #[.int .i64 (-1)] 3)):=(Below.refl _ _).alloc (Nat.le_refl _) _
      have hcE:(wr.alloc (Obj.cells #[.int .i64 (-1)] 3)).cell? ⟨wr.heap.size,0,none⟩=some (.int .i64 (-1)):=by go_simp
      have H2E:=H2.on hE
      go_wp2_with (refine wpList_push rfl _ _ _ rfl 3 8 zcInt Tryz.underlying50 infoInt rfl (by decide) g1 c1 i (IV (numS U G i).1) rfl H1 hE wr.heap.size rfl (.int .i64 (-1)) hcE rfl (by omega) ?_;intro g5 c5 w5 hp5 hg5 hl5)
      have K2:=H2E.kept hg5 H1.lt.1 hne
      go_roundw
      case rel=>
       refine⟨i+1,g5,c5,g2,c2,by omega,by go_num,rfl,by rw[HZ.out],?_⟩
       rw[HZ.out]
       exact⟨by rw[←IV_app];exact hp5,K2,by have:=H2.lt;have:=H1.lt;simp at hl5;omega⟩
      case measure=>simp[intOf];omega
    · have em:(U (i*12+8)==0)=false:=by simp[hm]
      obtain⟨F,hF⟩:∃ F,(numS U G i).2=F:=⟨_,rfl⟩
      obtain⟨O,hOO⟩:∃ O,(numS U G i).1=O:=⟨_,rfl⟩
      obtain⟨nf,hnf⟩:∃ nf,F.length=nf:=⟨_,rfl⟩
      have HN:= @numS_n U G i hm
      have HO:= @numS_o U G i hm
      rw[hF,hOO,hnf] at HN HO
      rw[hF,hnf] at hfl
      rw[hOO] at H1
      rw[hF,hnf] at H2 ⊢
      have HN:=HN
      have HO:=HO
      clear hm
      go_upto_region 10 with fail
      go_loopw [8,9] (fun s8 s9 wq=>∃ k:Nat,k≤nf∧s9= .int .i64 (k:Int)∧s8= .int .i64 (atOf F (G i) k)∧LV w wq 3 g1 c1 i (IV O)∧LV w wq 3 g2 c2 nf (IV F)) (fun _ s9 _=>nf-(intOf s9).toNat)
      case atStart=>exact⟨0,Nat.zero_le _,rfl,rfl,H1,H2⟩
      case round=>
       clear H1 H2 r8 rG hc0 hc2
       obtain⟨k,hk,rfl,rfl,H1,H2⟩:=hrel
       obtain⟨b2',o2',e2',hbl2',hc2'⟩:=(hG2.below H1.bel) (by omega)
       have rG:=hc2' i (by omega)
       cases e2'
       by_cases hkl:k<nf
       · have hkn:(k:Int)<(nf:Int):=by omega
         have rF:=H2.ic hkl
         have HAT:Shut (atOf F (G i) (k+1)=if ofL F k=G i then (k:Int) else atOf F (G i) k):=by show _=_;rw[atOf]
         by_cases e:ofL F k=G i
         · have e5:(ofL F k==G i)=true:=by simp[e]
           rw[if_pos e] at HAT
           clear e
           go_upto_region 12 with fail
           refine wp_region_held_drew (S:=fun w'=>w'.cell? ⟨g2,k,none⟩=some (.int .i64 (ofL F k))∧w'.cell? ⟨b2,o2+i,none⟩=some (.int .i64 (G i))) (by kernel_rfl) ?_ (fun hHeld=> ?_)
           · (try dsimp only)
             (first|(go_simp;done)|(go_keep;done))
           refine tq 0 hHeld ?_
           refine tq 1 hHeld ?_
           refine tq 2 hHeld ?_
           refine tq 3 hHeld ?_
           refine tq 4 hHeld ?_
           refine tq 5 hHeld ?_
           refine tq 6 hHeld ?_
           refine tq 7 hHeld ?_
           refine tq 8 hHeld ?_
           refine wpAnyH_done (by kernel_rfl) ?_ _
           go_wp2_with fail
           go_roundw
           case rel=>exact⟨k+1,by omega,by go_num,by rw[HAT.out],H1.dr,H2.dr⟩
           case measure=>simp[intOf];omega
         · have e5:(ofL F k==G i)=false:=by simp[e]
           rw[if_neg e] at HAT
           clear e
           go_upto_region 12 with fail
           refine wp_region_held_drew (S:=fun w'=>w'.cell? ⟨g2,k,none⟩=some (.int .i64 (ofL F k))∧w'.cell? ⟨b2,o2+i,none⟩=some (.int .i64 (G i))) (by kernel_rfl) ?_ (fun hHeld=> ?_)
           · (try dsimp only)
             (first|(go_simp;done)|(go_keep;done))
           refine tq 0 hHeld ?_
           refine tq 1 hHeld ?_
           refine tq 2 hHeld ?_
           refine tq 3 hHeld ?_
           refine tq 4 hHeld ?_
           refine tq 5 hHeld ?_
           refine tq 6 hHeld ?_
           refine tq 7 hHeld ?_
           refine tq 8 hHeld ?_
           refine wpAnyH_done (by kernel_rfl) ?_ _
           go_wp2_with fail
           go_roundw
           case rel=>exact⟨k+1,by omega,by go_num,by rw[HAT.out],H1.dr,H2.dr⟩
           case measure=>simp[intOf];omega
       · obtain rfl:k=nf:=by omega
         obtain⟨z,hz⟩:∃ z,atOf F (G i) k=z:=⟨_,rfl⟩
         rw[hz] at HN HO
         rw[hz]
         by_cases hzn:z<0
         · have HN':Shut (numS U G (i+1)=(O++[(k:Int)],F++[G i])):=HN hzn
           have hE:Below wr.heap.size wr (wr.alloc (Obj.cells #[.int .i64 (G i)] 3)):=(Below.refl _ _).alloc (Nat.le_refl _) _
           have hcE:(wr.alloc (Obj.cells #[.int .i64 (G i)] 3)).cell? ⟨wr.heap.size,0,none⟩=some (.int .i64 (G i)):=by go_simp
           have H1E:=H1.on hE
           have hlt1:=H1.lt
           have hlt2:=H2.lt
           go_upto_region 17 with(refine wpList_push rfl _ _ _ rfl 3 8 zcInt Tryz.underlying50 infoInt rfl (by decide) g2 c2 k (IV F) rfl H2 hE wr.heap.size rfl (.int .i64 (G i)) hcE rfl (by omega) ?_;intro g5 c5 w5 hp5 hg5 hl5)
           have K1:=H1E.kept hg5 H2.lt.1 (fun e=>hne e.symm)
           have hE6:Below w5.heap.size w5 (w5.alloc (Obj.cells #[.int .i64 (k:Int)] 3)):=(Below.refl _ _).alloc (Nat.le_refl _) _
           have hcE6:(w5.alloc (Obj.cells #[.int .i64 (k:Int)] 3)).cell? ⟨w5.heap.size,0,none⟩=some (.int .i64 (k:Int)):=by go_simp
           have hne5:g1≠g5:=by simp at hl5;omega
           have hlt5:=hp5.lt
           have H5E:=hp5.on hE6
           clear hE hcE H1E hg5 hl5
           go_wp2_with (refine wpList_push rfl _ _ _ rfl 3 8 zcInt Tryz.underlying50 infoInt rfl (by decide) g1 c1 i (IV O) rfl K1 hE6 w5.heap.size rfl (.int .i64 (k:Int)) hcE6 rfl (by omega) ?_;intro g6 c6 w6 hp6 hg6 hl6)
           have K5:=H5E.kept hg6 K1.lt.1 hne5
           go_roundw
           case rel=>
            refine⟨i+1,g6,c6,g5,c5,by omega,by go_num,rfl,by rw[HN'.out];simp[hnf],?_⟩
            rw[HN'.out]
            exact⟨by rw[←IV_app];exact hp6,by rw[←IV_app,List.length_append,hnf];exact K5,by have:=K5.lt;have:=K1.lt;simp at hl6;omega⟩
           case measure=>simp[intOf];omega
         · have HO':Shut (numS U G (i+1)=(O++[z],F)):=HO (by omega)
           have hE6:Below wr.heap.size wr (wr.alloc (Obj.cells #[.int .i64 z] 3)):=(Below.refl _ _).alloc (Nat.le_refl _) _
           have hcE6:(wr.alloc (Obj.cells #[.int .i64 z] 3)).cell? ⟨wr.heap.size,0,none⟩=some (.int .i64 z):=by go_simp
           have H2E:=H2.on hE6
           go_wp2_with (refine wpList_push rfl _ _ _ rfl 3 8 zcInt Tryz.underlying50 infoInt rfl (by decide) g1 c1 i (IV O) rfl H1 hE6 wr.heap.size rfl (.int .i64 z) hcE6 rfl (by omega) ?_;intro g6 c6 w6 hp6 hg6 hl6)
           have K2:=H2E.kept hg6 H1.lt.1 hne
           go_roundw
           case rel=>
            refine⟨i+1,g6,c6,g2,c2,by omega,by go_num,rfl,by rw[HO'.out];simp[hnf],?_⟩
            rw[HO'.out]
            exact⟨by rw[←IV_app];exact hp6,by rw[hnf];exact K2,by have:=H2.lt;have:=H1.lt;simp at hl6;omega⟩
           case measure=>simp[intOf];omega
  · obtain rfl:i=n:=by omega
    go_wp2_with fail
    go_ret
    exact⟨_,_,rfl,H1⟩
def allQ (G U:Nat→Int) (g:Nat):Nat→Bool
 |0=>true
 |i+1=>allQ G U g i&&(!decide (G i=(g:Int))||decide (7≤U (i*12+11)))
def slV (V:Nat→Int):Nat→Int:=fun i=>if i=7 then 0 else if i=6 then 0 else if i=11 then 8 else V i
def slF (G:Nat→Int) (g:Nat):Nat→(Nat→Int)→Nat→Int:=fun i V=>bif decide (G i=(g:Int)) then slV V else V
def sleepS (G:Nat→Int) (A:Nat→Bool) (n g:Nat) (U:Nat→Int):Nat→Int:=bif A g&&allQ G U g n then mapR (slF G g) U n else U
def sleepN (G:Nat→Int) (A:Nat→Bool) (n:Nat) (U:Nat→Int):Nat→Nat→Int
 |0=>U
 |g+1=>sleepS G A n g (sleepN G A n U g)
theorem mapR_sl {f:Nat→(Nat→Int)→Nat→Int} {U:Nat→Int} {k:Nat} (h:f k (fun j=>U (k*12+j))=slV (fun j=>U (k*12+j))):(fun r=>if r=k*12+7 then 0 else if r=k*12+6 then 0 else if r=k*12+11 then 8 else mapR f U k r)=mapR f U (k+1):=by
 rw[←mapR_set,h]
 funext q
 unfold putRow slV
 by_cases e:k*12≤q∧q<k*12+12
 · rw[if_pos e]
   obtain⟨d,rfl⟩:∃ d,q=k*12+d:=⟨q-k*12,by omega⟩
   rw[Nat.add_sub_cancel_left,mapR_row]
   by_cases e1:d=7
   · rw[if_pos (by omega),if_pos e1]
   · rw[if_neg (by omega),if_neg e1]
     by_cases e2:d=6
     · rw[if_pos (by omega),if_pos e2]
     · rw[if_neg (by omega),if_neg e2]
       by_cases e3:d=11
       · rw[if_pos (by omega),if_pos e3]
       · rw[if_neg (by omega),if_neg e3]
 · rw[if_neg e,if_neg (by omega),if_neg (by omega),if_neg (by omega)]
def slU (b:Bool) (G:Nat→Int) (g:Nat) (U:Nat→Int) (i:Nat):Nat→Int:=bif b then mapR (slF G g) U i else U
theorem l9Sleep_any (a:Option Addr) (n c:Nat) (U:Nat→Int) (ag:Option Addr) (cg:Nat) (G:Nat→Int) (aa:Option Addr) (na ca:Nat) (A:Nat→Bool) (w:World) (h:Flat w a (n*12) U) (hn:n≤1048576) (hna:na≤1048576) (hG2:Flat w ag (n*1) G) (hA3:FlatB w aa na A):
 Calls Tryz.prog 81 #[.slice a n c,.slice ag n cg,.slice aa na ca] w fun e w'=>∃ a1 c1,e= .returned (.slice a1 n c1)∧OutL w w' 36 12 a1 n c1 (sleepN G A n U na):=by
 have hset:=cset_map
 go_enter Tryz.func81,Tryz.ntmps81
 go_upto_region 1 with fail
 go_cut [7] (fun s0 wc=>∃ a1 c1,s0= .slice a1 n c1∧OutL w wc 36 12 a1 n c1 U)
 case first=>
  go_wp2_with (go_at_call 94;refine(l8Copy_any a n c U _ h hn).mono ?_;rintro e w3 ⟨a1,c1,rfl,hO⟩)
  go_meet
  exact⟨_,_,rfl,hO⟩
 case rest=>
 obtain⟨a1,c1,rfl,hO⟩:=hcut
 go_upto_region 3 with fail
 go_loopw [8,9,10,11] (fun s _ _ _ wr=>∃ g:Nat,g≤na∧s= .int .i64 (g:Int)∧OutL w wr 36 12 a1 n c1 (sleepN G A n U g)) (fun s _ _ _ _=>na-(intOf s).toNat)
 case atStart=>exact⟨0,Nat.zero_le _,rfl,hO⟩
 case round=>
  clear hO
  obtain⟨g,hg,rfl,hO⟩:=hrel
  by_cases hlt:g<na
  · have hgn:(g:Int)<(na:Int):=by omega
    obtain⟨b3,o3,e3,hbl3,hc3⟩:=hA3 (by omega)
    have r3:=(hO.bel.cell (p:=⟨b3,o3+g,none⟩) hbl3).trans (hc3 g hlt)
    clear hc3
    subst e3
    obtain⟨aw,haw⟩:∃ z,A g=z:=⟨_,rfl⟩
    rw[haw] at r3
    obtain⟨X,hX⟩:∃ X,sleepN G A n U g=X:=⟨_,rfl⟩
    have HN:Shut (sleepN G A n U (g+1)=sleepS G A n g X):=by show _=_;rw[sleepN,hX]
    rw[hX] at hO
    clear hX
    cases aw with
    | false=>
      have HNO:Shut (sleepN G A n U (g+1)=X):=by show _=_;rw[HN.out];unfold sleepS;rw[haw];rfl
      clear haw
      go_wp2_with fail
      go_roundw
      case rel=>exact⟨g+1,by omega,by go_num,by rw[HNO.out];exact hO⟩
      case measure=>simp[intOf];omega
    | true=>
      have HYE:Shut (sleepN G A n U (g+1)=slU (allQ G X g n) G g X n):=by show _=_;rw[HN.out];unfold sleepS slU;rw[haw];rfl
      clear haw HN
      go_upto_region 8 with fail
      go_loopw [9,10] (fun s9 s10 wq=>∃ i:Nat,i≤n∧s10= .int .i64 (i:Int)∧s9= .bool (allQ G X g i)∧wq=wr) (fun _ s10 _=>n-(intOf s10).toNat)
      case atStart=>exact⟨0,Nat.zero_le _,rfl,rfl,rfl⟩
      case round=>
       obtain⟨i,hi,rfl,rfl,rfl⟩:=hrel
       by_cases hil:i<n
       · have hin:(i:Int)<(n:Int):=by omega
         obtain⟨b2,o2,e2,hbl2,hc2⟩:=(hG2.below hO.bel) (by omega)
         have r2:=hc2 i (by omega)
         clear hc2
         subst e2
         obtain⟨gb,rfl,hg1,hg2⟩:=hO.own.loc (by omega)
         have u11:=hO.own.cellq (q:=i*12+11) (by omega)
         obtain⟨AL,hAL⟩:∃ b,allQ G X g i=b:=⟨_,rfl⟩
         have HQ:Shut (allQ G X g (i+1)=(AL&&(!decide (G i=(g:Int))||decide (7≤X (i*12+11))))):=by show _=_;rw[allQ,hAL]
         rw[hAL]
         clear hAL
         cases AL with
         | false=>
           go_wp2_with fail
           go_roundw
           case rel=>exact⟨i+1,by omega,by go_num,congrArg Value.bool (by rw[HQ.out];rfl),by trivial⟩
           case measure=>simp[intOf];omega
         | true=>
           by_cases e:G i=(g:Int)
           · have e4:(G i !=(g:Int))=false:=by simp[e]
             have e5:(G i==(g:Int))=true:=by simp[e]
             have E:Shut (G i=(g:Int)):=e
             clear e
             by_cases q7:7≤X (i*12+11)
             · go_wp2_with fail
               go_roundw
               case rel=>exact⟨i+1,by omega,by go_num,congrArg Value.bool (by rw[HQ.out,decide_eq_true E.out,decide_eq_true q7];rfl),by trivial⟩
               case measure=>simp[intOf];omega
             · go_wp2_with fail
               go_roundw
               case rel=>exact⟨i+1,by omega,by go_num,congrArg Value.bool (by rw[HQ.out,decide_eq_true E.out,decide_eq_false q7];rfl),by trivial⟩
               case measure=>simp[intOf];omega
           · have e4:(G i !=(g:Int))=true:=by simp[e]
             have e5:(G i==(g:Int))=false:=by simp[e]
             go_wp2_with fail
             go_roundw
             case rel=>exact⟨i+1,by omega,by go_num,congrArg Value.bool (by rw[HQ.out,decide_eq_false e];rfl),by trivial⟩
             case measure=>simp[intOf];omega
       · obtain rfl:i=n:=by omega
         obtain⟨AL,hAL⟩:∃ b,allQ G X g i=b:=⟨_,rfl⟩
         rw[hAL] at HYE
         rw[hAL]
         clear hAL
         go_upto_region 12 with fail
         go_loopw [11] (fun s wq=>∃ k:Nat,k≤i∧s= .int .i64 (k:Int)∧OutL w wq 36 12 a1 i c1 (slU AL G g X k)) (fun s _=>i-(intOf s).toNat)
         case atStart=>exact⟨0,Nat.zero_le _,rfl,by unfold slU;cases AL;exact hO;rw[mapR_0];exact hO⟩
         case round=>
          clear hO
          obtain⟨k,hk,rfl,hO⟩:=hrel
          by_cases hkl:k<i
          · have hkn:(k:Int)<(i:Int):=by omega
            cases AL with
            | false=>
              go_wp2_with fail
              go_roundw
              case rel=>exact⟨k+1,by omega,by go_num,hO⟩
              case measure=>simp[intOf];omega
            | true=>
              obtain⟨b2,o2,e2,hbl2,hc2⟩:=(hG2.below hO.bel) (by omega)
              have r2:=hc2 k (by omega)
              clear hc2
              subst e2
              by_cases e:G k=(g:Int)
              · have e5:(G k==(g:Int))=true:=by simp[e]
                have e6:(G k=(g:Int))=True:=eq_true e
                have HS:Shut ((fun r=>if r=k*12+7 then 0 else if r=k*12+6 then 0 else if r=k*12+11 then 8 else mapR (slF G g) X k r)=mapR (slF G g) X (k+1)):=mapR_sl (by unfold slF;rw[decide_eq_true e];rfl)
                clear e
                obtain⟨gb,rfl,hg1,hg2⟩:=hO.own.loc (by omega)
                have hO':OutL w wr 36 12 (some ⟨gb,0,none⟩) i c1 (mapR (slF G g) X k):=hO
                have uf:=hO'.own.fro
                have u6:=hO'.own.cellq (q:=k*12+6) (by omega)
                have u7:=hO'.own.cellq (q:=k*12+7) (by omega)
                have u11:=hO'.own.cellq (q:=k*12+11) (by omega)
                go_wp2_with fail
                have q1:=((hO'.own.setq (k*12+11) (by omega) 8).setq (k*12+6) (by omega) 0).setq (k*12+7) (by omega) 0
                rw[HS.out] at q1
                have qB:Below w.heap.size w (((wr.setCell ⟨gb,k*12+11,none⟩ (.int .i64 8)).setCell ⟨gb,k*12+6,none⟩ (.int .i64 0)).setCell ⟨gb,k*12+7,none⟩ (.int .i64 0)):=((hO'.bel.setCell hg1 _).setCell hg1 _).setCell hg1 _
                go_roundw
                case rel=>exact⟨k+1,by omega,by go_num,qB,q1⟩
                case measure=>simp[intOf];omega
              · have e5:(G k==(g:Int))=false:=by simp[e]
                have HNO:Shut (mapR (slF G g) X (k+1)=mapR (slF G g) X k):=mapR_same (fun j hj=>by unfold slF;rw[decide_eq_false e];rfl)
                go_wp2_with fail
                go_roundw
                case rel=>exact⟨k+1,by omega,by go_num,by show OutL _ _ _ _ _ _ _ (mapR (slF G g) X (k+1));rw[HNO.out];exact hO⟩
                case measure=>simp[intOf];omega
          · obtain rfl:k=i:=by omega
            go_wp2_with fail
            go_roundw
            case rel=>exact⟨g+1,by omega,by go_num,by rw[HYE.out];exact hO⟩
            case measure=>simp[intOf];omega
  · obtain rfl:g=na:=by omega
    go_wp2_with fail
    go_ret
    exact⟨_,_,rfl,hO⟩
end Go.Proofs.YtbdbbdjifgpgeaaGreat
