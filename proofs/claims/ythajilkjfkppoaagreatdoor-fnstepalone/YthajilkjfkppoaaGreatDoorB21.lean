/- Texts of a proof. -/
import Derived.Test.YthajilkjfkppoaaGreatDoorB2
import Derived.Test.YthajilkjfkppoaaGreatDoorB13
import Derived.Test.YthajilkjfkppoaaGreatDoorB17
import Derived.Test.YthajilkjfkppoaaGreatDoorB7
import Derived.Deep.RegionHeld3
import Derived.Deep.DeepCutAuto
import Derived.Test.YthajilkjfkppoaaGreatDoorB20
import Derived.Test.YthajilkjfkppoaaGreatDoorB11
set_option maxHeartbeats 16000000
set_option maxRecDepth 20000
namespace Go.Proofs.YthajilkjfkppoaaGreatDoor
open Go.RowKit
set_option linter.unusedVariables false
set_option linter.unusedSimpArgs false
theorem sh_r {g:Int} (h:1≤g∧g≤25600):shB 1 g 0=true:=by unfold shB rdB;simp[h]
theorem sh_b {g k:Int} (h:1≤g∧g≤25600) (h2:1≤k∧k≤25600):shB 2 g k=true:=by unfold shB bxB;simp[h,h2]
theorem l11Shape_k (rb p:Nat) (w:World) (hs0:RS w rb p) (hp:p≤997900):
 Calls Tryz.prog 92 #[.pointer (some ⟨rb,0,none⟩)] w fun e w'=>∃ k g h:Int,e= .returned (s3 k g h)∧shB k g h=true∧RB w w' rb (p+60):=by
 have hlt:=hs0.lt
 have hne:(w.heap.size=rb)=False:=eq_false (by omega)
 have hset:=cset_map
 go_enter Tryz.func92,Tryz.ntmps92
 go_wp2_with (first
  |(have _:=hr3;go_at_call 34;refine(pick_s rb (p+40) _ _ (by repeat(first|(with_reducible apply RS.setNew;rotate_left;(first|omega|(simp only[zz];omega)))|with_reducible apply RS.alloc|(with_reducible apply RS.up hr3;omega)|(with_reducible apply RS.mono hs0;omega)|with_reducible apply RS.drew|with_reducible apply RS.drewN)) (by omega) (by omega) (by omega)).mono ?_;rintro e w4 ⟨v4,rfl,va4,vb4,hr4⟩;obtain⟨hc4,hf4⟩:=RB.cells hr4;have hz4:=RB.size hr4;(try simp only[zz] at hc4 hf4 hz4);have hq4x0:w.heap.size<w4.heap.size:=(by omega);have ha4x0:(w4.heap.size=w.heap.size)=False:=eq_false (by omega);have hb4x0:(w.heap.size=w4.heap.size)=False:=eq_false (by omega);have he4x0:(w.heap.size=rb)=False:=eq_false (by omega);have hk4x0:=fun o=>hc4 (w.heap.size) o (by omega) (by omega);have hj4x0:=fun o=>hf4 (w.heap.size) o (by omega) (by omega))
  |(have _:=hr2;go_at_call 34;refine(pick_s rb (p+30) _ _ (by repeat(first|(with_reducible apply RS.setNew;rotate_left;(first|omega|(simp only[zz];omega)))|with_reducible apply RS.alloc|(with_reducible apply RS.up hr2;omega)|(with_reducible apply RS.mono hs0;omega)|with_reducible apply RS.drew|with_reducible apply RS.drewN)) (by omega) (by omega) (by omega)).mono ?_;rintro e w3 ⟨v3,rfl,va3,vb3,hr3⟩;obtain⟨hc3,hf3⟩:=RB.cells hr3;have hz3:=RB.size hr3;(try simp only[zz] at hc3 hf3 hz3);have hq3x0:w.heap.size<w3.heap.size:=(by omega);have ha3x0:(w3.heap.size=w.heap.size)=False:=eq_false (by omega);have hb3x0:(w.heap.size=w3.heap.size)=False:=eq_false (by omega);have he3x0:(w.heap.size=rb)=False:=eq_false (by omega);have hk3x0:=fun o=>hc3 (w.heap.size) o (by omega) (by omega);have hj3x0:=fun o=>hf3 (w.heap.size) o (by omega) (by omega))
  |(go_at_call 34;refine(pick_s rb (p+10) _ _ (by repeat(first|(with_reducible apply RS.setNew;rotate_left;(first|omega|(simp only[zz];omega)))|with_reducible apply RS.alloc|(with_reducible apply RS.mono hs0;omega)|with_reducible apply RS.drew|with_reducible apply RS.drewN)) (by omega) (by omega) (by omega)).mono ?_;rintro e w1 ⟨v1,rfl,va1,vb1,hr1⟩;obtain⟨hc1,hf1⟩:=RB.cells hr1;have hz1:=RB.size hr1;(try simp only[zz] at hc1 hf1 hz1);have hq1x0:w.heap.size<w1.heap.size:=(by omega);have ha1x0:(w1.heap.size=w.heap.size)=False:=eq_false (by omega);have hb1x0:(w.heap.size=w1.heap.size)=False:=eq_false (by omega);have he1x0:(w.heap.size=rb)=False:=eq_false (by omega);have hk1x0:=fun o=>hc1 (w.heap.size) o (by omega) (by omega);have hj1x0:=fun o=>hf1 (w.heap.size) o (by omega) (by omega))
  |(have _:=hr4;go_at_call 17;refine(one_s (1) 1000 rb (p+50) _ _ _ _ _ (by repeat(first|(with_reducible apply RS.setNew;rotate_left;(first|omega|(simp only[zz];omega)))|with_reducible apply RS.alloc|(with_reducible apply RS.up hr4;omega)|(with_reducible apply RS.mono hs0;omega)|with_reducible apply RS.drew|with_reducible apply RS.drewN)) (by omega) (by repeat(first|exact AllBd.nil|refine AllBd.cons (by omega) (by omega) ?_)) (by rfl) (by omega) (by omega)).mono ?_;rintro e w5 ⟨v5,rfl,va5,vb5,hr5⟩;obtain⟨hc5,hf5⟩:=RB.cells hr5;have hz5:=RB.size hr5;(try simp only[zz] at hc5 hf5 hz5);have hq5x0:w.heap.size<w5.heap.size:=(by omega);have ha5x0:(w5.heap.size=w.heap.size)=False:=eq_false (by omega);have hb5x0:(w.heap.size=w5.heap.size)=False:=eq_false (by omega);have he5x0:(w.heap.size=rb)=False:=eq_false (by omega);have hk5x0:=fun o=>hc5 (w.heap.size) o (by omega) (by omega);have hj5x0:=fun o=>hf5 (w.heap.size) o (by omega) (by omega))
  |(have _:=hr1;go_at_call 17;refine(one_s (1) 1000 rb (p+20) _ _ _ _ _ (by repeat(first|(with_reducible apply RS.setNew;rotate_left;(first|omega|(simp only[zz];omega)))|with_reducible apply RS.alloc|(with_reducible apply RS.up hr1;omega)|(with_reducible apply RS.mono hs0;omega)|with_reducible apply RS.drew|with_reducible apply RS.drewN)) (by omega) (by repeat(first|exact AllBd.nil|refine AllBd.cons (by omega) (by omega) ?_)) (by rfl) (by omega) (by omega)).mono ?_;rintro e w2 ⟨v2,rfl,va2,vb2,hr2⟩;obtain⟨hc2,hf2⟩:=RB.cells hr2;have hz2:=RB.size hr2;(try simp only[zz] at hc2 hf2 hz2);have hq2x0:w.heap.size<w2.heap.size:=(by omega);have ha2x0:(w2.heap.size=w.heap.size)=False:=eq_false (by omega);have hb2x0:(w.heap.size=w2.heap.size)=False:=eq_false (by omega);have he2x0:(w.heap.size=rb)=False:=eq_false (by omega);have hk2x0:=fun o=>hc2 (w.heap.size) o (by omega) (by omega);have hj2x0:=fun o=>hf2 (w.heap.size) o (by omega) (by omega)))
 · exact bodyPost_ret (v:=s3 1 v2 0) (by simp[results,Tryz.results92,go_sem, *]) rfl ⟨_,_,_,rfl,(sh_r ⟨by omega,by omega⟩),RB.mk (by repeat(first|(with_reducible apply But.setNew;rotate_left;(first|omega|(simp only[zz];omega)))|with_reducible apply But.alloc|with_reducible apply But.trans (k:=RB.but hr3)|with_reducible apply But.trans (k:=RB.but hr2)|with_reducible apply But.trans (k:=RB.but hr1)|with_reducible apply But.refl|with_reducible apply But.drewN|with_reducible apply But.drew)) (by repeat(first|(with_reducible apply RS.setNew;rotate_left;(first|omega|(simp only[zz];omega)))|with_reducible apply RS.alloc|(with_reducible apply RS.up hr3;omega)|(with_reducible apply RS.up hr2;omega)|(with_reducible apply RS.up hr1;omega)|(with_reducible apply RS.mono hs0;omega)|with_reducible apply RS.drew|with_reducible apply RS.drewN))⟩
 · exact bodyPost_ret (v:=s3 2 v2 v5) (by simp[results,Tryz.results92,go_sem, *]) rfl ⟨_,_,_,rfl,(sh_b ⟨by omega,by omega⟩ ⟨by omega,by omega⟩),RB.mk (by repeat(first|(with_reducible apply But.setNew;rotate_left;(first|omega|(simp only[zz];omega)))|with_reducible apply But.alloc|with_reducible apply But.trans (k:=RB.but hr5)|with_reducible apply But.trans (k:=RB.but hr4)|with_reducible apply But.trans (k:=RB.but hr3)|with_reducible apply But.trans (k:=RB.but hr2)|with_reducible apply But.trans (k:=RB.but hr1)|with_reducible apply But.refl|with_reducible apply But.drewN|with_reducible apply But.drew)) (by repeat(first|(with_reducible apply RS.setNew;rotate_left;(first|omega|(simp only[zz];omega)))|with_reducible apply RS.alloc|(with_reducible apply RS.up hr5;omega)|(with_reducible apply RS.up hr4;omega)|(with_reducible apply RS.up hr3;omega)|(with_reducible apply RS.up hr2;omega)|(with_reducible apply RS.up hr1;omega)|(with_reducible apply RS.mono hs0;omega)|with_reducible apply RS.drew|with_reducible apply RS.drewN))⟩
theorem l11Drive_k (rb p:Nat) (m:Int) (w:World) (hs0:RS w rb p) (hp:p≤900000) (hm:0≤m∧m≤100):
 Calls Tryz.prog 94 #[.pointer (some ⟨rb,0,none⟩),.int .i64 m] w fun e w'=>∃ x y:Int,e= .returned (vv x y)∧(((-64000≤x∧x≤64000)∧ -64000≤y∧y≤64000)∧(m=0→x=0∧y=0))∧RB w w' rb (p+60):=by
 have hlt:=hs0.lt
 have hne:(w.heap.size=rb)=False:=eq_false (by omega)
 have hset:=cset_map
 go_enter Tryz.func94,Tryz.ntmps94
 go_upto_region 1 with fail
 have r0:Al w (w.alloc (.cells #[.int .i64 0,.int .i64 0] 33)) w.heap.size 2 (fun _=>0):=Al.new (Nat.le_refl _) (by intro i hi;rcases(show i=0∨i=1 by omega) with rfl|rfl<;>rfl)
 have hs1:RS (w.alloc (.cells #[.int .i64 0,.int .i64 0] 33)) rb p:=hs0.alloc _
 have hb0:But rb w (w.alloc (.cells #[.int .i64 0,.int .i64 0] 33)):=but_alloc rb _ _
 generalize w.alloc (.cells #[.int .i64 0,.int .i64 0] 33)=w0 at*
 go_cut [5] (fun s5 wc=>∃ v,s5= .int .i64 v∧0≤v∧v≤2000∧(m=0→v=0)∧But rb w wc∧RS wc rb (p+10)∧Al w wc w.heap.size 2 (fun _=>0))
 case first=>
  go_wp2_with (go_at_call 17;refine(one_s (0) 20 rb (p) _ _ _ _ _ (by exact hs1) (by omega) (by repeat(first|exact AllBd.nil|refine AllBd.cons (by omega) (by omega) ?_)) (by rfl) (by omega) (by omega)).mono ?_;rintro e w1 ⟨v1,rfl,va1,vb1,hr1⟩;have hm1:=mul_bd (a:=v1) (b:=m) (A:=20) (B:=100) (by omega) (by omega);have hw1:=i64w (n:=v1*m) (by omega);have hg1:0≤v1*m:=Int.mul_nonneg va1 hm.1)
  go_meet
  exact⟨_,rfl,by omega,by omega,fun e=>by rw[e,Int.mul_zero],hb0.trans (RB.but hr1),RS.up hr1 (by omega),r0.up hlt (RB.but hr1)⟩
 case rest=>
 obtain⟨v,rfl,v0,v1,vz,hbut,hrs,hal⟩:=hcut
 go_upto_region 2 with fail
 have hz:=hbut.size
 go_wp2_with (first
  |(have _:=hr2;go_at_call 34;refine(pick_s rb (p+20) _ _ (by exact RS.up hr2 (by omega)) (by omega) (by omega) (by omega)).mono ?_;rintro e w3 ⟨v3,rfl,va3,vb3,hr3⟩;have hw3:=i64w (n:=v3-32) (by omega);have hm3:=mul_bd (a:=v3-32) (b:=v) (A:=32) (B:=2000) (by omega) (by omega);have hx3:=i64w (n:=(v3-32)*v) (by omega);have ha3:=hal.up hlt ((RB.but hr2).trans (RB.but hr3));have rc0:=(ha3).2.2.1 0 (by omega);have rf0:=(ha3).2.2.2 0 (by omega);have rc1:=(ha3).2.2.1 1 (by omega);have rf1:=(ha3).2.2.2 1 (by omega))
  |(go_at_call 34;refine(pick_s rb (p+10) _ _ (by exact hrs) (by omega) (by omega) (by omega)).mono ?_;rintro e w2 ⟨v2,rfl,va2,vb2,hr2⟩;have hw2:=i64w (n:=v2-32) (by omega);have hm2:=mul_bd (a:=v2-32) (b:=v) (A:=32) (B:=2000) (by omega) (by omega);have hx2:=i64w (n:=(v2-32)*v) (by omega)))
 exact bodyPost_ret (v:=vv ((v2-32)*v) ((v3-32)*v)) (by simp[results,Tryz.results94,go_sem, *]) rfl ⟨_,_,rfl,⟨⟨⟨by omega,by omega⟩,by omega,by omega⟩,fun e=>by rw[vz e,Int.mul_zero,Int.mul_zero];exact⟨rfl,rfl⟩⟩,RB.mk (((hbut.trans ((RB.but hr2).trans (RB.but hr3))).setNew (by simp) _).setNew (by simp) _) (((RS.up hr3 (by omega)).setNew (by simp;omega) _).setNew (by simp;omega) _)⟩
def atOf (F:List Int) (x:Int):Nat→Int
 |0=> -1
 |k+1=>if ofL F k=x then (k:Int) else atOf F x k
theorem atOf_bd (F:List Int) (x:Int):∀ k,-1≤atOf F x k∧atOf F x k<(k:Int)∨k=0∧atOf F x k= -1
 |0=> .inr ⟨rfl,rfl⟩
 | k+1=>by
   left
   rw[atOf]
   split
   · omega
   · rcases atOf_bd F x k with h|h<;>omega
def numS (U G:Nat→Int):Nat→List Int×List Int
 |0=>([],[])
 | i+1=>
   bif decide (U (i*12+8)=0) then ((numS U G i).1++[-1],(numS U G i).2)
   else bif decide (atOf (numS U G i).2 (G i) (numS U G i).2.length<0) then ((numS U G i).1++[((numS U G i).2.length:Int)],(numS U G i).2++[G i])
   else ((numS U G i).1++[atOf (numS U G i).2 (G i) (numS U G i).2.length],(numS U G i).2)
theorem numS_z {U G:Nat→Int} {i:Nat} (h:U (i*12+8)=0):numS U G (i+1)=((numS U G i).1++[-1],(numS U G i).2):=by rw[numS,decide_eq_true h];rfl
theorem numS_n {U G:Nat→Int} {i:Nat} (h:¬ U (i*12+8)=0) (h2:atOf (numS U G i).2 (G i) (numS U G i).2.length<0):numS U G (i+1)=((numS U G i).1++[((numS U G i).2.length:Int)],(numS U G i).2++[G i]):=by rw[numS,decide_eq_false h,decide_eq_true h2];rfl
theorem numS_o {U G:Nat→Int} {i:Nat} (h:¬ U (i*12+8)=0) (h2:¬ atOf (numS U G i).2 (G i) (numS U G i).2.length<0):numS U G (i+1)=((numS U G i).1++[atOf (numS U G i).2 (G i) (numS U G i).2.length],(numS U G i).2):=by rw[numS,decide_eq_false h,decide_eq_false h2];rfl
theorem numS_len (U G:Nat→Int):∀ i,(numS U G i).1.length=i∧(numS U G i).2.length≤i
 |0=>⟨rfl,Nat.le_refl _⟩
 | i+1=>by
   obtain⟨h1,h2⟩:=numS_len U G i
   by_cases h:U (i*12+8)=0
   · rw[numS_z h];exact⟨by rw[List.length_append,h1];rfl,by show (numS U G i).2.length≤_;omega⟩
   · by_cases k:atOf (numS U G i).2 (G i) (numS U G i).2.length<0
     · rw[numS_n h k];exact⟨by rw[List.length_append,h1];rfl,by rw[List.length_append];simp;omega⟩
     · rw[numS_o h k];exact⟨by rw[List.length_append,h1];rfl,by show (numS U G i).2.length≤_;omega⟩
theorem l7Number_any (a:Option Addr) (n c:Nat) (U:Nat→Int) (ag:Option Addr) (cg:Nat) (G:Nat→Int) (w:World) (h:Flat w a (n*12) U) (hn:n≤1000) (hG2:Flat w ag (n*1) G):
 Calls Tryz.prog 78 #[.slice a n c,.slice ag n cg] w fun e w'=>∃ g1 c1,e= .returned (.slice (some ⟨g1,0,none⟩) n c1)∧LV w w' 3 g1 c1 n (IV (numS U G n).1):=by
 have hset:=cset_map
 have ha:Below w.heap.size w (w.alloc (.cells #[] 3)):=(Below.refl _ _).alloc (Nat.le_refl _) _
 have L1:=LV.new (w:=w) 3 (Below.refl _ w) rfl
 have L2:=LV.new (w:=w) 3 ha (s:=w.heap.size+1) (by simp)
 have L1':=L1.on ((Below.refl _ _).alloc (Nat.le_refl _) (.cells #[] 3))
 go_enter Tryz.func78,Tryz.ntmps78
 go_upto_region 4 with fail
 go_loopw [5,6,7,8,9] (fun s5 s6 s7 _ _ wr=>∃ (i g1 c1 g2 c2:Nat),i≤n∧s7= .int .i64 (i:Int)∧s5= .slice (some ⟨g1,0,none⟩) i c1∧s6= .slice (some ⟨g2,0,none⟩) (numS U G i).2.length c2∧LV w wr 3 g1 c1 i (IV (numS U G i).1)∧LV w wr 3 g2 c2 (numS U G i).2.length (IV (numS U G i).2)∧g1≠g2) (fun _ _ s7 _ _ _=>n-(intOf s7).toNat)
 case atStart=>exact⟨0,_,_,_,_,Nat.zero_le _,rfl,rfl,rfl,L1',L2,by omega⟩
 case round=>
  clear L1 L2 L1' ha
  obtain⟨i,g1,c1,g2,c2,hi,rfl,rfl,rfl,H1,H2,hne⟩:=hrel
  obtain⟨_,hfl⟩:=numS_len U G i
  by_cases hlt:i<n
  · have hin:(i:Int)<(n:Int):=by omega
    obtain⟨b0,o0,e0,hbl0,hc0⟩:=(h.below H1.bel) (by omega)
    have r8:=hc0 (i*12+8) (by omega)
    simp only[←Nat.add_assoc] at r8
    obtain⟨b2,o2,e2,hbl2,hc2⟩:=(hG2.below H1.bel) (by omega)
    have rG:=hc2 i (by omega)
    subst e0 e2
    by_cases hm:U (i*12+8)=0
    · have HZ:Shut (numS U G (i+1)=((numS U G i).1++[-1],(numS U G i).2)):=numS_z hm
      have em:(U (i*12+8)==0)=true:=by simp[hm]
      clear hm
      have hE:Below wr.heap.size wr (wr.alloc (Obj.cells #[.int .i64 (-1)] 3)):=(Below.refl _ _).alloc (Nat.le_refl _) _
      have hcE:(wr.alloc (Obj.cells #[.int .i64 (-1)] 3)).cell? ⟨wr.heap.size,0,none⟩=some (.int .i64 (-1)):=by go_simp
      have H2E:=H2.on hE
      go_wp2_with (refine wpList_push rfl _ _ _ rfl 3 8 zcInt Tryz.underlying50 infoInt rfl (by decide) g1 c1 i (IV (numS U G i).1) rfl H1 hE wr.heap.size rfl (.int .i64 (-1)) hcE rfl (by omega) ?_;intro g5 c5 w5 hp5 hg5 hl5)
      have K2:=H2E.kept hg5 H1.lt.1 hne
      go_roundw
      case rel=>
       refine⟨i+1,g5,c5,g2,c2,by omega,by go_num,rfl,by rw[HZ.out],?_⟩
       rw[HZ.out]
       exact⟨by rw[←IV_app];exact hp5,K2,by have:=H2.lt;have:=H1.lt;simp at hl5;omega⟩
      case measure=>simp[intOf];omega
    · have em:(U (i*12+8)==0)=false:=by simp[hm]
      obtain⟨F,hF⟩:∃ F,(numS U G i).2=F:=⟨_,rfl⟩
      obtain⟨O,hOO⟩:∃ O,(numS U G i).1=O:=⟨_,rfl⟩
      obtain⟨nf,hnf⟩:∃ nf,F.length=nf:=⟨_,rfl⟩
      have HN:= @numS_n U G i hm
      have HO:= @numS_o U G i hm
      rw[hF,hOO,hnf] at HN HO
      rw[hF,hnf] at hfl
      rw[hOO] at H1
      rw[hF,hnf] at H2 ⊢
      have HN:=HN
      have HO:=HO
      clear hm
      go_upto_region 10 with fail
      go_loopw [8,9] (fun s8 s9 wq=>∃ k:Nat,k≤nf∧s9= .int .i64 (k:Int)∧s8= .int .i64 (atOf F (G i) k)∧LV w wq 3 g1 c1 i (IV O)∧LV w wq 3 g2 c2 nf (IV F)) (fun _ s9 _=>nf-(intOf s9).toNat)
      case atStart=>exact⟨0,Nat.zero_le _,rfl,rfl,H1,H2⟩
      case round=>
       clear H1 H2 r8 rG hc0 hc2
       obtain⟨k,hk,rfl,rfl,H1,H2⟩:=hrel
       obtain⟨b2',o2',e2',hbl2',hc2'⟩:=(hG2.below H1.bel) (by omega)
       have rG:=hc2' i (by omega)
       cases e2'
       by_cases hkl:k<nf
       · have hkn:(k:Int)<(nf:Int):=by omega
         have rF:=H2.ic hkl
         have HAT:Shut (atOf F (G i) (k+1)=if ofL F k=G i then (k:Int) else atOf F (G i) k):=by show _=_;rw[atOf]
         by_cases e:ofL F k=G i
         · have e5:(ofL F k==G i)=true:=by simp[e]
           rw[if_pos e] at HAT
           clear e
           go_upto_region 12 with fail
           refine wp_region_held_drew (S:=fun w'=>w'.cell? ⟨g2,k,none⟩=some (.int .i64 (ofL F k))∧w'.cell? ⟨b2,o2+i,none⟩=some (.int .i64 (G i))) (by kernel_rfl) ?_ (fun hHeld=> ?_)
           · (try dsimp only)
             (first|(go_simp;done)|(go_keep;done))
           refine tq 0 hHeld ?_
           refine tq 1 hHeld ?_
           refine tq 2 hHeld ?_
           refine tq 3 hHeld ?_
           refine tq 4 hHeld ?_
           refine tq 5 hHeld ?_
           refine tq 6 hHeld ?_
           refine tq 7 hHeld ?_
           refine tq 8 hHeld ?_
           refine wpAnyH_done (by kernel_rfl) ?_ _
           go_wp2_with fail
           go_roundw
           case rel=>exact⟨k+1,by omega,by go_num,by rw[HAT.out],H1.dr,H2.dr⟩
           case measure=>simp[intOf];omega
         · have e5:(ofL F k==G i)=false:=by simp[e]
           rw[if_neg e] at HAT
           clear e
           go_upto_region 12 with fail
           refine wp_region_held_drew (S:=fun w'=>w'.cell? ⟨g2,k,none⟩=some (.int .i64 (ofL F k))∧w'.cell? ⟨b2,o2+i,none⟩=some (.int .i64 (G i))) (by kernel_rfl) ?_ (fun hHeld=> ?_)
           · (try dsimp only)
             (first|(go_simp;done)|(go_keep;done))
           refine tq 0 hHeld ?_
           refine tq 1 hHeld ?_
           refine tq 2 hHeld ?_
           refine tq 3 hHeld ?_
           refine tq 4 hHeld ?_
           refine tq 5 hHeld ?_
           refine tq 6 hHeld ?_
           refine tq 7 hHeld ?_
           refine tq 8 hHeld ?_
           refine wpAnyH_done (by kernel_rfl) ?_ _
           go_wp2_with fail
           go_roundw
           case rel=>exact⟨k+1,by omega,by go_num,by rw[HAT.out],H1.dr,H2.dr⟩
           case measure=>simp[intOf];omega
       · obtain rfl:k=nf:=by omega
         obtain⟨z,hz⟩:∃ z,atOf F (G i) k=z:=⟨_,rfl⟩
         rw[hz] at HN HO
         rw[hz]
         by_cases hzn:z<0
         · have HN':Shut (numS U G (i+1)=(O++[(k:Int)],F++[G i])):=HN hzn
           have hE:Below wr.heap.size wr (wr.alloc (Obj.cells #[.int .i64 (G i)] 3)):=(Below.refl _ _).alloc (Nat.le_refl _) _
           have hcE:(wr.alloc (Obj.cells #[.int .i64 (G i)] 3)).cell? ⟨wr.heap.size,0,none⟩=some (.int .i64 (G i)):=by go_simp
           have H1E:=H1.on hE
           have hlt1:=H1.lt
           have hlt2:=H2.lt
           go_upto_region 17 with(refine wpList_push rfl _ _ _ rfl 3 8 zcInt Tryz.underlying50 infoInt rfl (by decide) g2 c2 k (IV F) rfl H2 hE wr.heap.size rfl (.int .i64 (G i)) hcE rfl (by omega) ?_;intro g5 c5 w5 hp5 hg5 hl5)
           have K1:=H1E.kept hg5 H2.lt.1 (fun e=>hne e.symm)
           have hE6:Below w5.heap.size w5 (w5.alloc (Obj.cells #[.int .i64 (k:Int)] 3)):=(Below.refl _ _).alloc (Nat.le_refl _) _
           have hcE6:(w5.alloc (Obj.cells #[.int .i64 (k:Int)] 3)).cell? ⟨w5.heap.size,0,none⟩=some (.int .i64 (k:Int)):=by go_simp
           have hne5:g1≠g5:=by simp at hl5;omega
           have hlt5:=hp5.lt
           have H5E:=hp5.on hE6
           clear hE hcE H1E hg5 hl5
           go_wp2_with (refine wpList_push rfl _ _ _ rfl 3 8 zcInt Tryz.underlying50 infoInt rfl (by decide) g1 c1 i (IV O) rfl K1 hE6 w5.heap.size rfl (.int .i64 (k:Int)) hcE6 rfl (by omega) ?_;intro g6 c6 w6 hp6 hg6 hl6)
           have K5:=H5E.kept hg6 K1.lt.1 hne5
           go_roundw
           case rel=>
            refine⟨i+1,g6,c6,g5,c5,by omega,by go_num,rfl,by rw[HN'.out];simp[hnf],?_⟩
            rw[HN'.out]
            exact⟨by rw[←IV_app];exact hp6,by rw[←IV_app,List.length_append,hnf];exact K5,by have:=K5.lt;have:=K1.lt;simp at hl6;omega⟩
           case measure=>simp[intOf];omega
         · have HO':Shut (numS U G (i+1)=(O++[z],F)):=HO (by omega)
           have hE6:Below wr.heap.size wr (wr.alloc (Obj.cells #[.int .i64 z] 3)):=(Below.refl _ _).alloc (Nat.le_refl _) _
           have hcE6:(wr.alloc (Obj.cells #[.int .i64 z] 3)).cell? ⟨wr.heap.size,0,none⟩=some (.int .i64 z):=by go_simp
           have H2E:=H2.on hE6
           go_wp2_with (refine wpList_push rfl _ _ _ rfl 3 8 zcInt Tryz.underlying50 infoInt rfl (by decide) g1 c1 i (IV O) rfl H1 hE6 wr.heap.size rfl (.int .i64 z) hcE6 rfl (by omega) ?_;intro g6 c6 w6 hp6 hg6 hl6)
           have K2:=H2E.kept hg6 H1.lt.1 hne
           go_roundw
           case rel=>
            refine⟨i+1,g6,c6,g2,c2,by omega,by go_num,rfl,by rw[HO'.out];simp[hnf],?_⟩
            rw[HO'.out]
            exact⟨by rw[←IV_app];exact hp6,by rw[hnf];exact K2,by have:=H2.lt;have:=H1.lt;simp at hl6;omega⟩
           case measure=>simp[intOf];omega
  · obtain rfl:i=n:=by omega
    go_wp2_with fail
    go_ret
    exact⟨_,_,rfl,H1⟩
end Go.Proofs.YthajilkjfkppoaaGreatDoor
