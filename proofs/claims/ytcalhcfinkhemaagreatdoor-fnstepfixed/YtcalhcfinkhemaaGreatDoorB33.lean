/- Texts of a proof. -/
import Derived.Test.YtcalhcfinkhemaaGreatDoorB32
import Derived.Test.YtcalhcfinkhemaaGreatDoorB9
import Derived.Deep.RegionHeld3
import Derived.Deep.DeepCutAuto
import Derived.Test.YtcalhcfinkhemaaGreatDoorB23
import Derived.Test.YtcalhcfinkhemaaGreatDoorB21
set_option maxHeartbeats 16000000
set_option maxRecDepth 20000
namespace Go.Proofs.YtcalhcfinkhemaaGreatDoor
open Go.RowKit
set_option linter.unusedVariables false
set_option linter.unusedSimpArgs false
def atOf (F:List Int) (x:Int):Nat→Int
 |0=> -1
 |k+1=>if ofL F k=x then (k:Int) else atOf F x k
theorem atOf_bd (F:List Int) (x:Int):∀ k,-1≤atOf F x k∧atOf F x k<(k:Int)∨k=0∧atOf F x k= -1
 |0=> .inr ⟨rfl,rfl⟩
 | k+1=>by
   left
   rw[atOf]
   split
   · omega
   · rcases atOf_bd F x k with h|h<;>omega
def numS (U G:Nat→Int):Nat→List Int×List Int
 |0=>([],[])
 | i+1=>
   bif decide (U (i*12+8)=0) then ((numS U G i).1++[-1],(numS U G i).2)
   else bif decide (atOf (numS U G i).2 (G i) (numS U G i).2.length<0) then ((numS U G i).1++[((numS U G i).2.length:Int)],(numS U G i).2++[G i])
   else ((numS U G i).1++[atOf (numS U G i).2 (G i) (numS U G i).2.length],(numS U G i).2)
theorem numS_z {U G:Nat→Int} {i:Nat} (h:U (i*12+8)=0):numS U G (i+1)=((numS U G i).1++[-1],(numS U G i).2):=by rw[numS,decide_eq_true h];rfl
theorem numS_n {U G:Nat→Int} {i:Nat} (h:¬ U (i*12+8)=0) (h2:atOf (numS U G i).2 (G i) (numS U G i).2.length<0):numS U G (i+1)=((numS U G i).1++[((numS U G i).2.length:Int)],(numS U G i).2++[G i]):=by rw[numS,decide_eq_false h,decide_eq_true h2];rfl
theorem numS_o {U G:Nat→Int} {i:Nat} (h:¬ U (i*12+8)=0) (h2:¬ atOf (numS U G i).2 (G i) (numS U G i).2.length<0):numS U G (i+1)=((numS U G i).1++[atOf (numS U G i).2 (G i) (numS U G i).2.length],(numS U G i).2):=by rw[numS,decide_eq_false h,decide_eq_false h2];rfl
theorem numS_len (U G:Nat→Int):∀ i,(numS U G i).1.length=i∧(numS U G i).2.length≤i
 |0=>⟨rfl,Nat.le_refl _⟩
 | i+1=>by
   obtain⟨h1,h2⟩:=numS_len U G i
   by_cases h:U (i*12+8)=0
   · rw[numS_z h];exact⟨by rw[List.length_append,h1];rfl,by show (numS U G i).2.length≤_;omega⟩
   · by_cases k:atOf (numS U G i).2 (G i) (numS U G i).2.length<0
     · rw[numS_n h k];exact⟨by rw[List.length_append,h1];rfl,by rw[List.length_append];simp;omega⟩
     · rw[numS_o h k];exact⟨by rw[List.length_append,h1];rfl,by show (numS U G i).2.length≤_;omega⟩
theorem l7Number_any (a:Option Addr) (n c:Nat) (U:Nat→Int) (ag:Option Addr) (cg:Nat) (G:Nat→Int) (w:World) (h:Flat w a (n*12) U) (hn:n≤1000) (hG2:Flat w ag (n*1) G):
 Calls Tryz.prog 75 #[.slice a n c,.slice ag n cg] w fun e w'=>∃ g1 c1,e= .returned (.slice (some ⟨g1,0,none⟩) n c1)∧LV w w' 3 g1 c1 n (IV (numS U G n).1):=by
 have hset:=cset_map
 have ha:Below w.heap.size w (w.alloc (.cells #[] 3)):=(Below.refl _ _).alloc (Nat.le_refl _) _
 have L1:=LV.new (w:=w) 3 (Below.refl _ w) rfl
 have L2:=LV.new (w:=w) 3 ha (s:=w.heap.size+1) (by simp)
 have L1':=L1.on ((Below.refl _ _).alloc (Nat.le_refl _) (.cells #[] 3))
 go_enter Tryz.func75,Tryz.ntmps75
 go_upto_region 4 with fail
 go_loopw [5,6,7,8,9] (fun s5 s6 s7 _ _ wr=>∃ (i g1 c1 g2 c2:Nat),i≤n∧s7= .int .i64 (i:Int)∧s5= .slice (some ⟨g1,0,none⟩) i c1∧s6= .slice (some ⟨g2,0,none⟩) (numS U G i).2.length c2∧LV w wr 3 g1 c1 i (IV (numS U G i).1)∧LV w wr 3 g2 c2 (numS U G i).2.length (IV (numS U G i).2)∧g1≠g2) (fun _ _ s7 _ _ _=>n-(intOf s7).toNat)
 case atStart=>exact⟨0,_,_,_,_,Nat.zero_le _,rfl,rfl,rfl,L1',L2,by omega⟩
 case round=>
  clear L1 L2 L1' ha
  obtain⟨i,g1,c1,g2,c2,hi,rfl,rfl,rfl,H1,H2,hne⟩:=hrel
  obtain⟨_,hfl⟩:=numS_len U G i
  by_cases hlt:i<n
  · have hin:(i:Int)<(n:Int):=by omega
    obtain⟨b0,o0,e0,hbl0,hc0⟩:=(h.below H1.bel) (by omega)
    have r8:=hc0 (i*12+8) (by omega)
    simp only[←Nat.add_assoc] at r8
    obtain⟨b2,o2,e2,hbl2,hc2⟩:=(hG2.below H1.bel) (by omega)
    have rG:=hc2 i (by omega)
    subst e0 e2
    by_cases hm:U (i*12+8)=0
    · have HZ:Shut (numS U G (i+1)=((numS U G i).1++[-1],(numS U G i).2)):=numS_z hm
      have em:(U (i*12+8)==0)=true:=by simp[hm]
      clear hm
      have hE:Below wr.heap.size wr (wr.alloc (Obj.cells #[.int .i64 (-1)] 3)):=(Below.refl _ _).alloc (Nat.le_refl _) _
      have hcE:(wr.alloc (Obj.cells #[.int .i64 (-1)] 3)).cell? ⟨wr.heap.size,0,none⟩=some (.int .i64 (-1)):=by go_simp
      have H2E:=H2.on hE
      go_wp2_with (refine wpList_push rfl _ _ _ rfl 3 8 zcInt Tryz.underlying35 infoInt rfl (by decide) g1 c1 i (IV (numS U G i).1) rfl H1 hE wr.heap.size rfl (.int .i64 (-1)) hcE rfl (by omega) ?_;intro g5 c5 w5 hp5 hg5 hl5)
      have K2:=H2E.kept hg5 H1.lt.1 hne
      go_roundw
      case rel=>
       refine⟨i+1,g5,c5,g2,c2,by omega,by go_num,rfl,by rw[HZ.out],?_⟩
       rw[HZ.out]
       exact⟨by rw[←IV_app];exact hp5,K2,by have:=H2.lt;have:=H1.lt;simp at hl5;omega⟩
      case measure=>simp[intOf];omega
    · have em:(U (i*12+8)==0)=false:=by simp[hm]
      obtain⟨F,hF⟩:∃ F,(numS U G i).2=F:=⟨_,rfl⟩
      obtain⟨O,hOO⟩:∃ O,(numS U G i).1=O:=⟨_,rfl⟩
      obtain⟨nf,hnf⟩:∃ nf,F.length=nf:=⟨_,rfl⟩
      have HN:= @numS_n U G i hm
      have HO:= @numS_o U G i hm
      rw[hF,hOO,hnf] at HN HO
      rw[hF,hnf] at hfl
      rw[hOO] at H1
      rw[hF,hnf] at H2 ⊢
      have HN:=HN
      have HO:=HO
      clear hm
      go_upto_region 10 with fail
      go_loopw [8,9] (fun s8 s9 wq=>∃ k:Nat,k≤nf∧s9= .int .i64 (k:Int)∧s8= .int .i64 (atOf F (G i) k)∧LV w wq 3 g1 c1 i (IV O)∧LV w wq 3 g2 c2 nf (IV F)) (fun _ s9 _=>nf-(intOf s9).toNat)
      case atStart=>exact⟨0,Nat.zero_le _,rfl,rfl,H1,H2⟩
      case round=>
       clear H1 H2 r8 rG hc0 hc2
       obtain⟨k,hk,rfl,rfl,H1,H2⟩:=hrel
       obtain⟨b2',o2',e2',hbl2',hc2'⟩:=(hG2.below H1.bel) (by omega)
       have rG:=hc2' i (by omega)
       cases e2'
       by_cases hkl:k<nf
       · have hkn:(k:Int)<(nf:Int):=by omega
         have rF:=H2.ic hkl
         have HAT:Shut (atOf F (G i) (k+1)=if ofL F k=G i then (k:Int) else atOf F (G i) k):=by show _=_;rw[atOf]
         by_cases e:ofL F k=G i
         · have e5:(ofL F k==G i)=true:=by simp[e]
           rw[if_pos e] at HAT
           clear e
           go_upto_region 12 with fail
           refine wp_region_held_drew (S:=fun w'=>w'.cell? ⟨g2,k,none⟩=some (.int .i64 (ofL F k))∧w'.cell? ⟨b2,o2+i,none⟩=some (.int .i64 (G i))) (by kernel_rfl) ?_ (fun hHeld=> ?_)
           · (try dsimp only)
             (first|(go_simp;done)|(go_keep;done))
           refine tq 0 hHeld ?_
           refine tq 1 hHeld ?_
           refine tq 2 hHeld ?_
           refine tq 3 hHeld ?_
           refine tq 4 hHeld ?_
           refine tq 5 hHeld ?_
           refine tq 6 hHeld ?_
           refine tq 7 hHeld ?_
           refine tq 8 hHeld ?_
           refine wpAnyH_done (by kernel_rfl) ?_ _
           go_wp2_with fail
           go_roundw
           case rel=>exact⟨k+1,by omega,by go_num,by rw[HAT.out],H1.dr,H2.dr⟩
           case measure=>simp[intOf];omega
         · have e5:(ofL F k==G i)=false:=by simp[e]
           rw[if_neg e] at HAT
           clear e
           go_upto_region 12 with fail
           refine wp_region_held_drew (S:=fun w'=>w'.cell? ⟨g2,k,none⟩=some (.int .i64 (ofL F k))∧w'.cell? ⟨b2,o2+i,none⟩=some (.int .i64 (G i))) (by kernel_rfl) ?_ (fun hHeld=> ?_)
           · (try dsimp only)
             (first|(go_simp;done)|(go_keep;done))
           refine tq 0 hHeld ?_
           refine tq 1 hHeld ?_
           refine tq 2 hHeld ?_
           refine tq 3 hHeld ?_
           refine tq 4 hHeld ?_
           refine tq 5 hHeld ?_
           refine tq 6 hHeld ?_
           refine tq 7 hHeld ?_
           refine tq 8 hHeld ?_
           refine wpAnyH_done (by kernel_rfl) ?_ _
           go_wp2_with fail
           go_roundw
           case rel=>exact⟨k+1,by omega,by go_num,by rw[HAT.out],H1.dr,H2.dr⟩
           case measure=>simp[intOf];omega
       · obtain rfl:k=nf:=by omega
         obtain⟨z,hz⟩:∃ z,atOf F (G i) k=z:=⟨_,rfl⟩
         rw[hz] at HN HO
         rw[hz]
         by_cases hzn:z<0
         · have HN':Shut (numS U G (i+1)=(O++[(k:Int)],F++[G i])):=HN hzn
           have hE:Below wr.heap.size wr (wr.alloc (Obj.cells #[.int .i64 (G i)] 3)):=(Below.refl _ _).alloc (Nat.le_refl _) _
           have hcE:(wr.alloc (Obj.cells #[.int .i64 (G i)] 3)).cell? ⟨wr.heap.size,0,none⟩=some (.int .i64 (G i)):=by go_simp
           have H1E:=H1.on hE
           have hlt1:=H1.lt
           have hlt2:=H2.lt
           go_upto_region 17 with(refine wpList_push rfl _ _ _ rfl 3 8 zcInt Tryz.underlying35 infoInt rfl (by decide) g2 c2 k (IV F) rfl H2 hE wr.heap.size rfl (.int .i64 (G i)) hcE rfl (by omega) ?_;intro g5 c5 w5 hp5 hg5 hl5)
           have K1:=H1E.kept hg5 H2.lt.1 (fun e=>hne e.symm)
           have hE6:Below w5.heap.size w5 (w5.alloc (Obj.cells #[.int .i64 (k:Int)] 3)):=(Below.refl _ _).alloc (Nat.le_refl _) _
           have hcE6:(w5.alloc (Obj.cells #[.int .i64 (k:Int)] 3)).cell? ⟨w5.heap.size,0,none⟩=some (.int .i64 (k:Int)):=by go_simp
           have hne5:g1≠g5:=by simp at hl5;omega
           have hlt5:=hp5.lt
           have H5E:=hp5.on hE6
           clear hE hcE H1E hg5 hl5
           go_wp2_with (refine wpList_push rfl _ _ _ rfl 3 8 zcInt Tryz.underlying35 infoInt rfl (by decide) g1 c1 i (IV O) rfl K1 hE6 w5.heap.size rfl (.int .i64 (k:Int)) hcE6 rfl (by omega) ?_;intro g6 c6 w6 hp6 hg6 hl6)
           have K5:=H5E.kept hg6 K1.lt.1 hne5
           go_roundw
           case rel=>
            refine⟨i+1,g6,c6,g5,c5,by omega,by go_num,rfl,by rw[HN'.out];simp[hnf],?_⟩
            rw[HN'.out]
            exact⟨by rw[←IV_app];exact hp6,by rw[←IV_app,List.length_append,hnf];exact K5,by have:=K5.lt;have:=K1.lt;simp at hl6;omega⟩
           case measure=>simp[intOf];omega
         · have HO':Shut (numS U G (i+1)=(O++[z],F)):=HO (by omega)
           have hE6:Below wr.heap.size wr (wr.alloc (Obj.cells #[.int .i64 z] 3)):=(Below.refl _ _).alloc (Nat.le_refl _) _
           have hcE6:(wr.alloc (Obj.cells #[.int .i64 z] 3)).cell? ⟨wr.heap.size,0,none⟩=some (.int .i64 z):=by go_simp
           have H2E:=H2.on hE6
           go_wp2_with (refine wpList_push rfl _ _ _ rfl 3 8 zcInt Tryz.underlying35 infoInt rfl (by decide) g1 c1 i (IV O) rfl H1 hE6 wr.heap.size rfl (.int .i64 z) hcE6 rfl (by omega) ?_;intro g6 c6 w6 hp6 hg6 hl6)
           have K2:=H2E.kept hg6 H1.lt.1 hne
           go_roundw
           case rel=>
            refine⟨i+1,g6,c6,g2,c2,by omega,by go_num,rfl,by rw[HO'.out];simp[hnf],?_⟩
            rw[HO'.out]
            exact⟨by rw[←IV_app];exact hp6,by rw[hnf];exact K2,by have:=H2.lt;have:=H1.lt;simp at hl6;omega⟩
           case measure=>simp[intOf];omega
  · obtain rfl:i=n:=by omega
    go_wp2_with fail
    go_ret
    exact⟨_,_,rfl,H1⟩
theorem LV.up {w0 w wr:World} {t g cap n:Nat} {xs:List Value} (h:LV w wr t g cap n xs) (hb:Below w0.heap.size w0 w):LV w0 wr t g cap n xs:=
 ⟨hb.trans (h.bel.mono hb.size),h.len,⟨h.own.1,by
  rcases h.own.2 with q|⟨g',cap',cur,hv,hb',rest⟩
  · exact .inl q
  · exact .inr ⟨g',cap',cur,hv,Nat.le_trans hb.size hb',rest⟩⟩⟩
def joinG (l:List Int) (A B:Nat):List Int:=(l.set A (if ofL l B<ofL l A then ofL l B else ofL l A)).set B (if ofL l B<ofL l A then ofL l B else ofL l A)
def joinL (U C:Nat→Int) (l:List Int) (k:Nat):List Int:=
 bif decide (U ((C (k*5)).toNat*12+8)=0)||decide (U ((C (k*5+1)).toNat*12+8)=0) then l else joinG l (C (k*5)).toNat (C (k*5+1)).toNat
def grpI (U C:Nat→Int) (l:List Int):Nat→List Int
 |0=>l
 |k+1=>joinL U C (grpI U C l k) k
def grpR (U C:Nat→Int) (m:Nat) (l:List Int):Nat→List Int
 |0=>l
 |r+1=>grpI U C (grpR U C m l r) m
def rng:Nat→List Int
 |0=>[]
 |i+1=>rng i++[(i:Int)]
theorem joinG_len (l:List Int) (A B:Nat):(joinG l A B).length=l.length:=by unfold joinG;rw[List.length_set,List.length_set]
theorem joinL_len (U C:Nat→Int) (l:List Int) (k:Nat):(joinL U C l k).length=l.length:=by
 unfold joinL
 generalize (decide (U ((C (k*5)).toNat*12+8)=0)||decide (U ((C (k*5+1)).toNat*12+8)=0))=b
 cases b
 · exact joinG_len _ _ _
 · rfl
theorem grpI_len (U C:Nat→Int) (l:List Int):∀ k,(grpI U C l k).length=l.length
 |0=>rfl
 |k+1=>by rw[grpI,joinL_len,grpI_len U C l k]
theorem grpR_len (U C:Nat→Int) (m:Nat) (l:List Int):∀ r,(grpR U C m l r).length=l.length
 |0=>rfl
 |r+1=>by rw[grpR,grpI_len,grpR_len U C m l r]
theorem rng_len:∀ n,(rng n).length=n
 |0=>rfl
 |n+1=>by rw[rng,List.length_append,rng_len n];rfl
def grpL (U C:Nat→Int) (m n:Nat):List Int:=(numS U (ofL (grpR U C m (rng n) n)) n).1
theorem l7Groups_any (a:Option Addr) (n c:Nat) (U:Nat→Int) (ac:Option Addr) (m cc:Nat) (C:Nat→Int) (w:World) (h:Flat w a (n*12) U) (hn:n≤1000) (hm:m≤1048576) (h2:Flat w ac (m*5) C) (hC:CtOk n m C):
 Calls Tryz.prog 45 #[.slice a n c,.slice ac m cc] w fun e w'=>∃ g1 c1,e= .returned (.slice (some ⟨g1,0,none⟩) n c1)∧LV w w' 3 g1 c1 n (IV (grpL U C m n)):=by
 have hset:=cset_map
 have L1:=LV.new (w:=w) 3 (Below.refl _ w) rfl
 go_enter Tryz.func45,Tryz.ntmps45
 go_upto_region 3 with fail
 go_loopw [5,6] (fun s5 s6 wr=>∃ (i g1 c1:Nat),i≤n∧s6= .int .i64 (i:Int)∧s5= .slice (some ⟨g1,0,none⟩) i c1∧LV w wr 3 g1 c1 i (IV (rng i))) (fun _ s6 _=>n-(intOf s6).toNat)
 case atStart=>exact⟨0,_,_,Nat.zero_le _,rfl,rfl,L1⟩
 case round=>
  clear L1
  obtain⟨i,g1,c1,hi,rfl,rfl,H1⟩:=hrel
  by_cases hlt:i<n
  · have hin:(i:Int)<(n:Int):=by omega
    have hE:Below wr.heap.size wr (wr.alloc (Obj.cells #[.int .i64 (i:Int)] 3)):=(Below.refl _ _).alloc (Nat.le_refl _) _
    have hcE:(wr.alloc (Obj.cells #[.int .i64 (i:Int)] 3)).cell? ⟨wr.heap.size,0,none⟩=some (.int .i64 (i:Int)):=by go_simp
    have HR:Shut (rng (i+1)=rng i++[(i:Int)]):=by show _=_;rw[rng]
    go_wp2_with (refine wpList_push rfl _ _ _ rfl 3 8 zcInt Tryz.underlying35 infoInt rfl (by decide) g1 c1 i (IV (rng i)) rfl H1 hE wr.heap.size rfl (.int .i64 (i:Int)) hcE rfl (by omega) ?_;intro g5 c5 w5 hp5 hg5 hl5)
    go_roundw
    case rel=>exact⟨i+1,g5,c5,by omega,by go_num,rfl,by rw[HR.out,←IV_app];exact hp5⟩
    case measure=>simp[intOf];omega
  · obtain rfl:n=i:=by omega
    go_upto_region 7 with fail
    go_loopw [7,8,9,10] (fun s7 _ _ _ wr=>∃ r:Nat,r≤n∧s7= .int .i64 (r:Int)∧LV w wr 3 g1 c1 n (IV (grpR U C m (rng n) r))) (fun s7 _ _ _ _=>n-(intOf s7).toNat)
    case atStart=>exact⟨0,Nat.zero_le _,rfl,H1⟩
    case round=>
     clear H1
     obtain⟨r,hr,rfl,H1⟩:=hrel
     by_cases hlr:r<n
     · have hri:(r:Int)<(n:Int):=by omega
       have HG:Shut (grpR U C m (rng n) (r+1)=grpI U C (grpR U C m (rng n) r) m):=by show _=_;rw[grpR]
       have hl0:(grpR U C m (rng n) r).length=n:=by rw[grpR_len,rng_len]
       generalize grpR U C m (rng n) r=l0 at H1 HG hl0
       go_upto_region 10 with fail
       go_loopw [8,9,10] (fun s8 _ _ wq=>∃ k:Nat,k≤m∧s8= .int .i64 (k:Int)∧LV w wq 3 g1 c1 n (IV (grpI U C l0 k))) (fun s8 _ _ _=>m-(intOf s8).toNat)
       case atStart=>exact⟨0,Nat.zero_le _,rfl,H1⟩
       case round=>
        clear H1
        obtain⟨k,hk,rfl,H1⟩:=hrel
        by_cases hlt:k<m
        · have hkm:(k:Int)<(m:Int):=by omega
          have ca:=hC.a k hlt
          have cb:=hC.b k hlt
          have cn:=hC.ne k hlt
          obtain⟨b1,o1,e1,hbl1,hc1⟩:=(h2.below H1.bel) (by omega)
          have r0:=hc1 (k*5) (by omega)
          have r1:=hc1 (k*5+1) (by omega)
          have r2:=hc1 (k*5+2) (by omega)
          have r3:=hc1 (k*5+3) (by omega)
          have r4:=hc1 (k*5+4) (by omega)
          simp only[←Nat.add_assoc] at r0 r1 r2 r3 r4
          clear hc1
          subst e1
          have HJ:Shut (grpI U C l0 (k+1)=joinL U C (grpI U C l0 k) k):=by show _=_;rw[grpI]
          have hll:(grpI U C l0 k).length=n:=by rw[grpI_len];exact hl0
          obtain⟨l,hl⟩:∃ l,grpI U C l0 k=l:=⟨_,rfl⟩
          rw[hl] at HJ H1 hll
          clear hl
          unfold joinL at HJ
          obtain⟨A,hA⟩:∃ A:Nat,C (k*5)=(A:Int):=⟨(C (k*5)).toNat,by omega⟩
          obtain⟨B,hBB⟩:∃ B:Nat,C (k*5+1)=(B:Int):=⟨(C (k*5+1)).toNat,by omega⟩
          rw[hA,hBB,Int.toNat_natCast,Int.toNat_natCast] at HJ
          rw[hA] at ca r0 cn
          rw[hBB] at cb r1 cn
          clear hA hBB
          have hAB:¬ A=B:=fun e=>cn (by rw[e])
          have hBA:¬ B=A:=fun e=>cn (by rw[e])
          clear cn
          have hAn:A<n:=by omega
          have hBn:B<n:=by omega
          have hAi:(A:Int)<(n:Int):=ca.2
          have hBi:(B:Int)<(n:Int):=cb.2
          obtain⟨b0,o0,e0,hbl0,hc0⟩:=(h.below H1.bel) (by omega)
          have rA:=hc0 (A*12+8) (by omega)
          have rB:=hc0 (B*12+8) (by omega)
          simp only[←Nat.add_assoc] at rA rB
          clear hc0
          subst e0
          have hE:Below wr.heap.size wr (wr.alloc (Obj.cells #[.int .i64 (A:Int),.int .i64 (B:Int),.int .i64 (C (k*5+2)),.int .i64 (C (k*5+3)),.int .i64 (C (k*5+4))] 116)):=(Below.refl _ _).alloc (Nat.le_refl _) _
          have HE:=H1.on hE
          by_cases mA:U (A*12+8)=0
          · have em:(U (A*12+8)==0)=true:=by simp[mA]
            rw[decide_eq_true mA] at HJ
            clear mA
            have HJ':Shut (grpI U C l0 (k+1)=l):=HJ.out
            go_wp2_with fail
            go_roundw
            case rel=>exact⟨k+1,by omega,by go_num,by rw[HJ'.out];exact HE⟩
            case measure=>simp[intOf];omega
          · have em:(U (A*12+8)==0)=false:=by simp[mA]
            by_cases mB:U (B*12+8)=0
            · have em2:(U (B*12+8)==0)=true:=by simp[mB]
              rw[decide_eq_false mA,decide_eq_true mB] at HJ
              clear mA mB
              have HJ':Shut (grpI U C l0 (k+1)=l):=HJ.out
              go_wp2_with fail
              go_roundw
              case rel=>exact⟨k+1,by omega,by go_num,by rw[HJ'.out];exact HE⟩
              case measure=>simp[intOf];omega
            · have em2:(U (B*12+8)==0)=false:=by simp[mB]
              rw[decide_eq_false mA,decide_eq_false mB] at HJ
              clear mA mB
              have HJ':Shut (grpI U C l0 (k+1)=joinG l A B):=HJ.out
              unfold joinG at HJ'
              obtain⟨gm,hgm⟩:∃ x,(if ofL l B<ofL l A then ofL l B else ofL l A)=x:=⟨_,rfl⟩
              rw[hgm] at HJ'
              go_upto_region 14 with fail
              have x0:(wr.alloc (Obj.cells #[.int .i64 (A:Int),.int .i64 (B:Int),.int .i64 (C (k*5+2)),.int .i64 (C (k*5+3)),.int .i64 (C (k*5+4))] 116)).cell? ⟨wr.heap.size,0,none⟩=some (.int .i64 (A:Int)):=by go_simp
              have x1:(wr.alloc (Obj.cells #[.int .i64 (A:Int),.int .i64 (B:Int),.int .i64 (C (k*5+2)),.int .i64 (C (k*5+3)),.int .i64 (C (k*5+4))] 116)).cell? ⟨wr.heap.size,1,none⟩=some (.int .i64 (B:Int)):=by go_simp
              have hgp:=H1.lt
              generalize (wr.alloc (Obj.cells #[.int .i64 (A:Int),.int .i64 (B:Int),.int .i64 (C (k*5+2)),.int .i64 (C (k*5+3)),.int .i64 (C (k*5+4))] 116))=wx at hE HE x0 x1 ⊢
              have hbz:=hE.size
              generalize wr.heap.size=bp at x0 x1 hgp ⊢
              have yA:=HE.ic hAn
              have yB:=HE.ic hBn
              have yf:=HE.fro
              have hne:¬ bp=g1:=by omega
              have hne':¬ g1=bp:=by omega
              clear r0 r1 r2 r3 r4 rA rB em em2 hE H1
              refine wp_region_held_drew (S:=fun w'=>w'.cell? ⟨bp,0,none⟩=some (.int .i64 (A:Int))∧w'.cell? ⟨bp,1,none⟩=some (.int .i64 (B:Int))∧w'.cell? ⟨g1,A,none⟩=some (.int .i64 (ofL l A))∧w'.cell? ⟨g1,B,none⟩=some (.int .i64 (ofL l B))) (by kernel_rfl) ?_ (fun hHeld=> ?_)
              · (try dsimp only)
                (first|(go_simp;done)|(go_keep;done))
              refine tq 0 hHeld ?_
              refine tq 1 hHeld ?_
              refine tq 2 hHeld ?_
              refine tq 3 hHeld ?_
              refine tq 4 hHeld ?_
              refine tq 5 hHeld ?_
              refine tq 6 hHeld ?_
              refine tq 7 hHeld ?_
              refine tq 8 hHeld ?_
              refine tq 9 hHeld ?_
              refine tc 10 fun K hK=> ?_
              (go_simp
               (go_at_call 74;refine(l3Less_q (ofL l A) (ofL l B) gm _ hgm).mono ?_;rintro e w5 ⟨rfl,hw5⟩;subst hw5)
               (try go_wp2_with fail)
               refine tr hK (fun hHeld=> ?_)
               clear hK K)
              refine tq 11 hHeld ?_
              refine wpAnyH_done (by kernel_rfl) ?_ _
              go_wp2_with fail
              have q1:=(HE.dr.set A (.int .i64 gm)).set B (.int .i64 gm)
              rw[IV_set,IV_set,←HJ'.out] at q1
              go_roundw
              case rel=>exact⟨k+1,by omega,by go_num,q1⟩
              case measure=>simp[intOf];omega
        · obtain rfl:k=m:=by omega
          go_wp2_with fail
          go_roundw
          case rel=>exact⟨r+1,by omega,by go_num,by rw[HG.out];exact H1⟩
          case measure=>simp[intOf];omega
     · obtain rfl:r=n:=by omega
       go_wp2_with (go_at_call 75;refine(l7Number_any a r c U (some ⟨g1,0,none⟩) c1 (ofL (grpR U C m (rng r) r)) _ (h.below H1.bel) hn H1.flat).mono ?_;rintro e w5 ⟨g5,c5,rfl,hp5⟩)
       go_ret
       exact⟨_,_,rfl,hp5.up H1.bel⟩
end Go.Proofs.YtcalhcfinkhemaaGreatDoor
