/- Texts of a proof. -/
import Derived.Test.YthajilkjfkppoaaGreatDoorDrawBk
import Derived.Test.YthajilkjfkppoaaGreatDoorB24
import Derived.Deep.RegionHeld3
import Derived.Deep.DeepCutAuto
import Derived.Test.YthajilkjfkppoaaGreatDoorB13
import Derived.Test.YthajilkjfkppoaaGreatDoorB14
import Derived.Test.YthajilkjfkppoaaGreatDoorB5
import Derived.Test.YthajilkjfkppoaaGreatDoorB10
import Derived.Test.YthajilkjfkppoaaGreatDoorB6
import Derived.LoopNIn
import Derived.LoopIn
import Derived.OwnWalkIn
set_option maxHeartbeats 16000000
set_option maxRecDepth 20000
namespace Go.Proofs.YthajilkjfkppoaaGreatDoor
open Go.RowKit
set_option linter.unusedVariables false
set_option linter.unusedSimpArgs false
theorem Al.far {w0 w:World} {ab n b k:Nat} {V:Nat→Int} (h:Al w0 w ab n V) (hb:ab≠b) (v:Value):Al w0 (w.setCell ⟨b,k,none⟩ v) ab n V:=h.off hb v
def BN (V:Nat→Int):Prop:=∀ j,j<12→Bn (V j)
theorem BN.set {V:Nat→Int} (h:BN V) {k:Nat} {v:Int} (hv:Bn v):BN (fun j=>if j=k then v else V j):=by
 intro j hj
 by_cases e:j=k
 · simp only[e,if_true];exact hv
 · simp only[e,if_false];exact h j hj
theorem bn_of {V:Nat→Int} (h:bodyB V=true):BN V:=by
 obtain⟨a8,a11,a4,a5,a6,a7,a9,a10,sh,_⟩:=bodyB_bd h
 have a0:0≤V 0∧V 0≤999999999:=by unfold bodyB at h;rw[Bool.and_eq_true] at h;exact of_decide_eq_true h.1
 have s3:Bn (V 1)∧Bn (V 2)∧Bn (V 3):=by unfold shB rdB bxB at sh;rw[Bool.or_eq_true] at sh;simp only[decide_eq_true_eq] at sh;unfold Bn;rcases sh with q|q<;>omega
 intro j hj
 unfold Bn at*
 rcases(show j=0∨j=1∨j=2∨j=3∨j=4∨j=5∨j=6∨j=7∨j=8∨j=9∨j=10∨j=11 by omega) with rfl|rfl|rfl|rfl|rfl|rfl|rfl|rfl|rfl|rfl|rfl|rfl<;>omega
theorem l11Body_s (rb p:Nat) (id:Int) (w:World) (hs0:RS w rb p) (hp:p≤800000) (hid:0≤id∧id≤999999999):
 Calls Tryz.prog 67 #[.pointer (some ⟨rb,0,none⟩),.int .i64 id] w fun e w'=>∃ V:Nat→Int,e= .returned (bodyW V)∧(BN V∧True)∧RB w w' rb (p+1000):=
 (l11Body_k rb p id w hs0 hp hid).mono fun e w' ⟨V,a,b,c⟩=>⟨V,a,⟨bn_of b.1,trivial⟩,c⟩
structure DA (w w':World) (rb p ab:Nat) (V:Nat→Int):Prop where
 but:But rb w w'
 rs:RS w' rb p
 res:Al w w' w.heap.size 12 (fun _=>0)
 bod:Al w w' ab 12 V
 far:w.heap.size<ab
 bf:BN V
theorem DA.call {w w' w1:World} {rb p p1 ab:Nat} {V:Nat→Int} (h:DA w w' rb p ab V) (hrb:rb<w.heap.size) (k:RB w' w1 rb p1):DA w w1 rb p1 ab V:=
 ⟨h.but.trans k.but,RS.of k,h.res.up hrb k.but,h.bod.up hrb k.but,h.far,h.bf⟩
theorem DA.mono {w w':World} {rb p p1 ab:Nat} {V:Nat→Int} (h:DA w w' rb p ab V) (k:p≤p1):DA w w' rb p1 ab V:=
 ⟨h.but,h.rs.mono k,h.res,h.bod,h.far,h.bf⟩
theorem DA.set {w w':World} {rb p ab:Nat} {V:Nat→Int} (h:DA w w' rb p ab V) (hrb:rb<w.heap.size) (k:Nat) (hk:k<12) (v:Int) (hv:Bn v):
 DA w (w'.setCell ⟨ab,k,none⟩ (.int .i64 v)) rb p ab (fun j=>if j=k then v else V j):=by
 have hf:=h.far
 exact⟨h.but.setNew (by simp;omega) _,h.rs.setNew (by simp;omega) _,h.res.far (by omega) _,h.bod.set k hk v,h.far,h.bf.set hv⟩
theorem l11AnyBody_s (rb p:Nat) (w:World) (hs0:RS w rb p) (hp:p≤700000):
 Calls Tryz.prog 35 #[.pointer (some ⟨rb,0,none⟩)] w fun e w'=>∃ V:Nat→Int,e= .returned (bodyW V)∧BN V∧RB w w' rb (p+3000):=by
 have hlt:=hs0.lt
 have hne:(w.heap.size=rb)=False:=eq_false (by omega)
 have hset:=cset_map
 go_enter Tryz.func35,Tryz.ntmps35
 go_upto_region 1 with fail
 have r0:Al w (w.alloc (.cells #[.int .i64 0,.int .i64 0,.int .i64 0,.int .i64 0,.int .i64 0,.int .i64 0,.int .i64 0,.int .i64 0,.int .i64 0,.int .i64 0,.int .i64 0,.int .i64 0] 35)) w.heap.size 12 (fun _=>0):=Al.new (Nat.le_refl _) (by intro i hi;rcases(show i=0∨i=1∨i=2∨i=3∨i=4∨i=5∨i=6∨i=7∨i=8∨i=9∨i=10∨i=11 by omega) with rfl|rfl|rfl|rfl|rfl|rfl|rfl|rfl|rfl|rfl|rfl|rfl<;>rfl)
 have hs1:RS (w.alloc (.cells #[.int .i64 0,.int .i64 0,.int .i64 0,.int .i64 0,.int .i64 0,.int .i64 0,.int .i64 0,.int .i64 0,.int .i64 0,.int .i64 0,.int .i64 0,.int .i64 0] 35)) rb p:=hs0.alloc _
 have hb0:But rb w (w.alloc (.cells #[.int .i64 0,.int .i64 0,.int .i64 0,.int .i64 0,.int .i64 0,.int .i64 0,.int .i64 0,.int .i64 0,.int .i64 0,.int .i64 0,.int .i64 0,.int .i64 0] 35)):=but_alloc rb _ _
 generalize w.alloc (.cells #[.int .i64 0,.int .i64 0,.int .i64 0,.int .i64 0,.int .i64 0,.int .i64 0,.int .i64 0,.int .i64 0,.int .i64 0,.int .i64 0,.int .i64 0,.int .i64 0] 35)=w0 at*
 have hz0:=hb0.size
 go_cut [3] (fun s3 wc=>∃ (ab:Nat) (V:Nat→Int),s3= .pointer (some ⟨ab,0,none⟩)∧DA w wc rb (p+2000) ab V)
 case first=>
  go_wp2_with (first
  |(have _:=hr1;go_at_call 67;refine(l11Body_s rb (p+10) _ _ (by exact RS.up hr1 (by omega)) (by omega) ⟨by omega,by omega⟩).mono ?_;rintro e w2 ⟨V2,rfl,hd2,hr2⟩)
  |(go_at_call 34;refine(pick_s rb (p) _ _ (by exact hs1) (by omega) (by omega) (by omega)).mono ?_;rintro e w1 ⟨v1,rfl,va1,vb1,hr1⟩))
  go_meet
  have ht2:=(RB.but hr1).trans (RB.but hr2)
  have hz2:=(hb0.trans ht2).size
  have hz3:w0.heap.size≤w2.heap.size:=Nat.le_trans (RB.size hr1) (RB.size hr2)
  have hlo:=r0.2.1
  exact⟨_,V2,rfl,(hb0.trans ht2).alloc _,(RS.up hr2 (by omega)).alloc _,(r0.up hlt ht2).up hlt (but_alloc rb _ _),Al.new hz2 (by intro i hi;rcases(show i=0∨i=1∨i=2∨i=3∨i=4∨i=5∨i=6∨i=7∨i=8∨i=9∨i=10∨i=11 by omega) with rfl|rfl|rfl|rfl|rfl|rfl|rfl|rfl|rfl|rfl|rfl|rfl<;>rfl),by omega,hd2.1⟩
 case rest=>
 obtain⟨ab,V,rfl,hD⟩:=hcut
 clear hs1 hb0 r0 hz0 w0
 go_upto_region 2 with fail
 have hlo:=hD.far
 go_cut [9] (fun s9 wc=>∃ (v7:Int) (V:Nat→Int),s9= .int .i64 v7∧DA w wc rb (p+2100) ab V)
 case first=>
  go_wp2_with (go_at_call 34;refine(pick_s rb (p+2000) _ _ (by exact hD.rs) (by omega) (by omega) (by omega)).mono ?_;rintro e w7 ⟨v7,rfl,va7,vb7,hr7⟩)
  go_meet
  exact⟨_,_,rfl,(hD.call hlt hr7).mono (by omega)⟩
 case rest=>
 clear hD
 obtain⟨v7,V,rfl,hD⟩:=hcut
 have hD7:=hD.mono (p1:=p+3000) (by omega)
 have kc0:=(hD7.bod).2.2.1 0 (by omega)
 have kf0:=(hD7.bod).2.2.2 0 (by omega)
 have kc1:=(hD7.bod).2.2.1 1 (by omega)
 have kf1:=(hD7.bod).2.2.2 1 (by omega)
 have kc2:=(hD7.bod).2.2.1 2 (by omega)
 have kf2:=(hD7.bod).2.2.2 2 (by omega)
 have kc3:=(hD7.bod).2.2.1 3 (by omega)
 have kf3:=(hD7.bod).2.2.2 3 (by omega)
 have kc4:=(hD7.bod).2.2.1 4 (by omega)
 have kf4:=(hD7.bod).2.2.2 4 (by omega)
 have kc5:=(hD7.bod).2.2.1 5 (by omega)
 have kf5:=(hD7.bod).2.2.2 5 (by omega)
 have kc6:=(hD7.bod).2.2.1 6 (by omega)
 have kf6:=(hD7.bod).2.2.2 6 (by omega)
 have kc7:=(hD7.bod).2.2.1 7 (by omega)
 have kf7:=(hD7.bod).2.2.2 7 (by omega)
 have kc8:=(hD7.bod).2.2.1 8 (by omega)
 have kf8:=(hD7.bod).2.2.2 8 (by omega)
 have kc9:=(hD7.bod).2.2.1 9 (by omega)
 have kf9:=(hD7.bod).2.2.2 9 (by omega)
 have kc10:=(hD7.bod).2.2.1 10 (by omega)
 have kf10:=(hD7.bod).2.2.2 10 (by omega)
 have kc11:=(hD7.bod).2.2.1 11 (by omega)
 have kf11:=(hD7.bod).2.2.2 11 (by omega)
 go_upto_region 19 with(first
  |(go_at_call 17;refine(one_s (-20000001) 1000000001 rb (p+2100) _ _ _ _ _ (by exact hD.rs) (by omega) (by repeat(first|exact AllBd.nil|refine AllBd.cons (by omega) (by omega) ?_)) (by rfl) (by omega) (by omega)).mono ?_;rintro e w8 ⟨v8,rfl,va8,vb8,hr8⟩;have hD8:=(hD.call hlt hr8).mono (p1:=p+3000) (by omega);have mc0:=(hD8.bod).2.2.1 0 (by omega);have mf0:=(hD8.bod).2.2.2 0 (by omega);have mc1:=(hD8.bod).2.2.1 1 (by omega);have mf1:=(hD8.bod).2.2.2 1 (by omega);have mc2:=(hD8.bod).2.2.1 2 (by omega);have mf2:=(hD8.bod).2.2.2 2 (by omega);have mc3:=(hD8.bod).2.2.1 3 (by omega);have mf3:=(hD8.bod).2.2.2 3 (by omega);have mc4:=(hD8.bod).2.2.1 4 (by omega);have mf4:=(hD8.bod).2.2.2 4 (by omega);have mc5:=(hD8.bod).2.2.1 5 (by omega);have mf5:=(hD8.bod).2.2.2 5 (by omega);have mc6:=(hD8.bod).2.2.1 6 (by omega);have mf6:=(hD8.bod).2.2.2 6 (by omega);have mc7:=(hD8.bod).2.2.1 7 (by omega);have mf7:=(hD8.bod).2.2.2 7 (by omega);have mc8:=(hD8.bod).2.2.1 8 (by omega);have mf8:=(hD8.bod).2.2.2 8 (by omega);have mc9:=(hD8.bod).2.2.1 9 (by omega);have mf9:=(hD8.bod).2.2.2 9 (by omega);have mc10:=(hD8.bod).2.2.1 10 (by omega);have mf10:=(hD8.bod).2.2.2 10 (by omega);have mc11:=(hD8.bod).2.2.1 11 (by omega);have mf11:=(hD8.bod).2.2.2 11 (by omega))
  |(go_at_call 69;refine(l11AnyShape_s rb (p+2100) _ (by exact hD.rs) (by omega)).mono ?_;rintro e w8 ⟨k8,g8,h8,rfl,hd8,hr8⟩;have hD8:=(hD.call hlt hr8).mono (p1:=p+3000) (by omega);have mc0:=(hD8.bod).2.2.1 0 (by omega);have mf0:=(hD8.bod).2.2.2 0 (by omega);have mc1:=(hD8.bod).2.2.1 1 (by omega);have mf1:=(hD8.bod).2.2.2 1 (by omega);have mc2:=(hD8.bod).2.2.1 2 (by omega);have mf2:=(hD8.bod).2.2.2 2 (by omega);have mc3:=(hD8.bod).2.2.1 3 (by omega);have mf3:=(hD8.bod).2.2.2 3 (by omega);have mc4:=(hD8.bod).2.2.1 4 (by omega);have mf4:=(hD8.bod).2.2.2 4 (by omega);have mc5:=(hD8.bod).2.2.1 5 (by omega);have mf5:=(hD8.bod).2.2.2 5 (by omega);have mc6:=(hD8.bod).2.2.1 6 (by omega);have mf6:=(hD8.bod).2.2.2 6 (by omega);have mc7:=(hD8.bod).2.2.1 7 (by omega);have mf7:=(hD8.bod).2.2.2 7 (by omega);have mc8:=(hD8.bod).2.2.1 8 (by omega);have mf8:=(hD8.bod).2.2.2 8 (by omega);have mc9:=(hD8.bod).2.2.1 9 (by omega);have mf9:=(hD8.bod).2.2.2 9 (by omega);have mc10:=(hD8.bod).2.2.1 10 (by omega);have mf10:=(hD8.bod).2.2.2 10 (by omega);have mc11:=(hD8.bod).2.2.1 11 (by omega);have mf11:=(hD8.bod).2.2.2 11 (by omega))
  |(go_at_call 70;refine(l11AnyPlace_s rb (p+2100) _ (by exact hD.rs) (by omega)).mono ?_;rintro e w8 ⟨x8,y8,rfl,hd8,hr8⟩;have hD8:=(hD.call hlt hr8).mono (p1:=p+3000) (by omega);have mc0:=(hD8.bod).2.2.1 0 (by omega);have mf0:=(hD8.bod).2.2.2 0 (by omega);have mc1:=(hD8.bod).2.2.1 1 (by omega);have mf1:=(hD8.bod).2.2.2 1 (by omega);have mc2:=(hD8.bod).2.2.1 2 (by omega);have mf2:=(hD8.bod).2.2.2 2 (by omega);have mc3:=(hD8.bod).2.2.1 3 (by omega);have mf3:=(hD8.bod).2.2.2 3 (by omega);have mc4:=(hD8.bod).2.2.1 4 (by omega);have mf4:=(hD8.bod).2.2.2 4 (by omega);have mc5:=(hD8.bod).2.2.1 5 (by omega);have mf5:=(hD8.bod).2.2.2 5 (by omega);have mc6:=(hD8.bod).2.2.1 6 (by omega);have mf6:=(hD8.bod).2.2.2 6 (by omega);have mc7:=(hD8.bod).2.2.1 7 (by omega);have mf7:=(hD8.bod).2.2.2 7 (by omega);have mc8:=(hD8.bod).2.2.1 8 (by omega);have mf8:=(hD8.bod).2.2.2 8 (by omega);have mc9:=(hD8.bod).2.2.1 9 (by omega);have mf9:=(hD8.bod).2.2.2 9 (by omega);have mc10:=(hD8.bod).2.2.1 10 (by omega);have mf10:=(hD8.bod).2.2.2 10 (by omega);have mc11:=(hD8.bod).2.2.1 11 (by omega);have mf11:=(hD8.bod).2.2.2 11 (by omega)))
 clear kc0 kf0 kc1 kf1 kc2 kf2 kc3 kf3 kc4 kf4 kc5 kf5 kc6 kf6 kc7 kf7 kc8 kf8 kc9 kf9 kc10 kf10 kc11 kf11
 clear mc0 mf0 mc1 mf1 mc2 mf2 mc3 mf3 mc4 mf4 mc5 mf5 mc6 mf6 mc7 mf7 mc8 mf8 mc9 mf9 mc10 mf10 mc11 mf11
 have hE:=(hD8.set hlt 0 (by omega) v8 ⟨by omega,by omega⟩)
 generalize (w8.setCell ⟨ab,0,none⟩ (.int .i64 v8))=wx at hE ⊢
 obtain⟨Vx,hE⟩:∃ Vx,DA w wx rb (p+3000) ab Vx:=⟨_,hE⟩
 rotate_left
 clear kc0 kf0 kc1 kf1 kc2 kf2 kc3 kf3 kc4 kf4 kc5 kf5 kc6 kf6 kc7 kf7 kc8 kf8 kc9 kf9 kc10 kf10 kc11 kf11
 clear mc0 mf0 mc1 mf1 mc2 mf2 mc3 mf3 mc4 mf4 mc5 mf5 mc6 mf6 mc7 mf7 mc8 mf8 mc9 mf9 mc10 mf10 mc11 mf11
 have hE:=(((hD8.set hlt 1 (by omega) k8 hd8.1).set hlt 2 (by omega) g8 hd8.2.1).set hlt 3 (by omega) h8 hd8.2.2)
 generalize (((w8.setCell ⟨ab,1,none⟩ (.int .i64 k8)).setCell ⟨ab,2,none⟩ (.int .i64 g8)).setCell ⟨ab,3,none⟩ (.int .i64 h8))=wx at hE ⊢
 obtain⟨Vx,hE⟩:∃ Vx,DA w wx rb (p+3000) ab Vx:=⟨_,hE⟩
 rotate_left
 clear kc0 kf0 kc1 kf1 kc2 kf2 kc3 kf3 kc4 kf4 kc5 kf5 kc6 kf6 kc7 kf7 kc8 kf8 kc9 kf9 kc10 kf10 kc11 kf11
 clear mc0 mf0 mc1 mf1 mc2 mf2 mc3 mf3 mc4 mf4 mc5 mf5 mc6 mf6 mc7 mf7 mc8 mf8 mc9 mf9 mc10 mf10 mc11 mf11
 have hE:=((hD8.set hlt 4 (by omega) x8 hd8.1).set hlt 5 (by omega) y8 hd8.2)
 generalize ((w8.setCell ⟨ab,4,none⟩ (.int .i64 x8)).setCell ⟨ab,5,none⟩ (.int .i64 y8))=wx at hE ⊢
 obtain⟨Vx,hE⟩:∃ Vx,DA w wx rb (p+3000) ab Vx:=⟨_,hE⟩
 rotate_left
 clear kc0 kf0 kc1 kf1 kc2 kf2 kc3 kf3 kc4 kf4 kc5 kf5 kc6 kf6 kc7 kf7 kc8 kf8 kc9 kf9 kc10 kf10 kc11 kf11
 clear mc0 mf0 mc1 mf1 mc2 mf2 mc3 mf3 mc4 mf4 mc5 mf5 mc6 mf6 mc7 mf7 mc8 mf8 mc9 mf9 mc10 mf10 mc11 mf11
 have hE:=(hD8.set hlt 6 (by omega) v8 ⟨by omega,by omega⟩)
 generalize (w8.setCell ⟨ab,6,none⟩ (.int .i64 v8))=wx at hE ⊢
 obtain⟨Vx,hE⟩:∃ Vx,DA w wx rb (p+3000) ab Vx:=⟨_,hE⟩
 rotate_left
 clear kc0 kf0 kc1 kf1 kc2 kf2 kc3 kf3 kc4 kf4 kc5 kf5 kc6 kf6 kc7 kf7 kc8 kf8 kc9 kf9 kc10 kf10 kc11 kf11
 clear mc0 mf0 mc1 mf1 mc2 mf2 mc3 mf3 mc4 mf4 mc5 mf5 mc6 mf6 mc7 mf7 mc8 mf8 mc9 mf9 mc10 mf10 mc11 mf11
 have hE:=(hD8.set hlt 8 (by omega) v8 ⟨by omega,by omega⟩)
 generalize (w8.setCell ⟨ab,8,none⟩ (.int .i64 v8))=wx at hE ⊢
 obtain⟨Vx,hE⟩:∃ Vx,DA w wx rb (p+3000) ab Vx:=⟨_,hE⟩
 rotate_left
 clear kc0 kf0 kc1 kf1 kc2 kf2 kc3 kf3 kc4 kf4 kc5 kf5 kc6 kf6 kc7 kf7 kc8 kf8 kc9 kf9 kc10 kf10 kc11 kf11
 clear mc0 mf0 mc1 mf1 mc2 mf2 mc3 mf3 mc4 mf4 mc5 mf5 mc6 mf6 mc7 mf7 mc8 mf8 mc9 mf9 mc10 mf10 mc11 mf11
 have hE:=(hD8.set hlt 9 (by omega) v8 ⟨by omega,by omega⟩)
 generalize (w8.setCell ⟨ab,9,none⟩ (.int .i64 v8))=wx at hE ⊢
 obtain⟨Vx,hE⟩:∃ Vx,DA w wx rb (p+3000) ab Vx:=⟨_,hE⟩
 rotate_left
 clear kc0 kf0 kc1 kf1 kc2 kf2 kc3 kf3 kc4 kf4 kc5 kf5 kc6 kf6 kc7 kf7 kc8 kf8 kc9 kf9 kc10 kf10 kc11 kf11
 clear mc0 mf0 mc1 mf1 mc2 mf2 mc3 mf3 mc4 mf4 mc5 mf5 mc6 mf6 mc7 mf7 mc8 mf8 mc9 mf9 mc10 mf10 mc11 mf11
 have hE:=(hD8.set hlt 11 (by omega) v8 ⟨by omega,by omega⟩)
 generalize (w8.setCell ⟨ab,11,none⟩ (.int .i64 v8))=wx at hE ⊢
 obtain⟨Vx,hE⟩:∃ Vx,DA w wx rb (p+3000) ab Vx:=⟨_,hE⟩
 rotate_left
 clear kc0 kf0 kc1 kf1 kc2 kf2 kc3 kf3 kc4 kf4 kc5 kf5 kc6 kf6 kc7 kf7 kc8 kf8 kc9 kf9 kc10 kf10 kc11 kf11
 clear mc0 mf0 mc1 mf1 mc2 mf2 mc3 mf3 mc4 mf4 mc5 mf5 mc6 mf6 mc7 mf7 mc8 mf8 mc9 mf9 mc10 mf10 mc11 mf11
 have hE:=(hD8.set hlt 10 (by omega) v8 ⟨by omega,by omega⟩)
 generalize (w8.setCell ⟨ab,10,none⟩ (.int .i64 v8))=wx at hE ⊢
 obtain⟨Vx,hE⟩:∃ Vx,DA w wx rb (p+3000) ab Vx:=⟨_,hE⟩
 rotate_left
 clear kc0 kf0 kc1 kf1 kc2 kf2 kc3 kf3 kc4 kf4 kc5 kf5 kc6 kf6 kc7 kf7 kc8 kf8 kc9 kf9 kc10 kf10 kc11 kf11
 have hE:=hD7
 obtain⟨Vx,hE⟩:∃ Vx,DA w wc rb (p+3000) ab Vx:=⟨_,hE⟩
 rotate_left
 all_goals
  have h0:=hE
  have ec0:=(hE.bod).2.2.1 0 (by omega)
  have ef0:=(hE.bod).2.2.2 0 (by omega)
  have ec1:=(hE.bod).2.2.1 1 (by omega)
  have ef1:=(hE.bod).2.2.2 1 (by omega)
  have ec2:=(hE.bod).2.2.1 2 (by omega)
  have ef2:=(hE.bod).2.2.2 2 (by omega)
  have ec3:=(hE.bod).2.2.1 3 (by omega)
  have ef3:=(hE.bod).2.2.2 3 (by omega)
  have ec4:=(hE.bod).2.2.1 4 (by omega)
  have ef4:=(hE.bod).2.2.2 4 (by omega)
  have ec5:=(hE.bod).2.2.1 5 (by omega)
  have ef5:=(hE.bod).2.2.2 5 (by omega)
  have ec6:=(hE.bod).2.2.1 6 (by omega)
  have ef6:=(hE.bod).2.2.2 6 (by omega)
  have ec7:=(hE.bod).2.2.1 7 (by omega)
  have ef7:=(hE.bod).2.2.2 7 (by omega)
  have ec8:=(hE.bod).2.2.1 8 (by omega)
  have ef8:=(hE.bod).2.2.2 8 (by omega)
  have ec9:=(hE.bod).2.2.1 9 (by omega)
  have ef9:=(hE.bod).2.2.2 9 (by omega)
  have ec10:=(hE.bod).2.2.1 10 (by omega)
  have ef10:=(hE.bod).2.2.2 10 (by omega)
  have ec11:=(hE.bod).2.2.1 11 (by omega)
  have ef11:=(hE.bod).2.2.2 11 (by omega)
  have rc0:=(hE.res).2.2.1 0 (by omega)
  have rf0:=(hE.res).2.2.2 0 (by omega)
  have rc1:=(hE.res).2.2.1 1 (by omega)
  have rf1:=(hE.res).2.2.2 1 (by omega)
  have rc2:=(hE.res).2.2.1 2 (by omega)
  have rf2:=(hE.res).2.2.2 2 (by omega)
  have rc3:=(hE.res).2.2.1 3 (by omega)
  have rf3:=(hE.res).2.2.2 3 (by omega)
  have rc4:=(hE.res).2.2.1 4 (by omega)
  have rf4:=(hE.res).2.2.2 4 (by omega)
  have rc5:=(hE.res).2.2.1 5 (by omega)
  have rf5:=(hE.res).2.2.2 5 (by omega)
  have rc6:=(hE.res).2.2.1 6 (by omega)
  have rf6:=(hE.res).2.2.2 6 (by omega)
  have rc7:=(hE.res).2.2.1 7 (by omega)
  have rf7:=(hE.res).2.2.2 7 (by omega)
  have rc8:=(hE.res).2.2.1 8 (by omega)
  have rf8:=(hE.res).2.2.2 8 (by omega)
  have rc9:=(hE.res).2.2.1 9 (by omega)
  have rf9:=(hE.res).2.2.2 9 (by omega)
  have rc10:=(hE.res).2.2.1 10 (by omega)
  have rf10:=(hE.res).2.2.2 10 (by omega)
  have rc11:=(hE.res).2.2.1 11 (by omega)
  have rf11:=(hE.res).2.2.2 11 (by omega)
  go_wp2_with fail
  exact bodyPost_ret (v:=bodyW Vx) (by simp[results,Tryz.results35,go_sem, *]) rfl ⟨Vx,rfl,hE.bf,RB.mk ((((((((((((hE.but.setNew (by simp) _).setNew (by simp) _).setNew (by simp) _).setNew (by simp) _).setNew (by simp) _).setNew (by simp) _).setNew (by simp) _).setNew (by simp) _).setNew (by simp) _).setNew (by simp) _).setNew (by simp) _).setNew (by simp) _) (((((((((((((hE.rs.mono (by omega)).setNew (by simp;omega) _).setNew (by simp;omega) _).setNew (by simp;omega) _).setNew (by simp;omega) _).setNew (by simp;omega) _).setNew (by simp;omega) _).setNew (by simp;omega) _).setNew (by simp;omega) _).setNew (by simp;omega) _).setNew (by simp;omega) _).setNew (by simp;omega) _).setNew (by simp;omega) _)⟩
def rwL (C:Nat→Nat→Int):Nat→List Int
 |0=>[]
 |k+1=>rwL C k++[C 0 k,C 1 k,C 2 k,C 3 k,C 4 k,C 5 k,C 6 k,C 7 k,C 8 k,C 9 k,C 10 k,C 11 k]
theorem rwL_len (C:Nat→Nat→Int):∀ k,(rwL C k).length=k*12
 |0=>rfl
 | k+1=>by
   rw[rwL,List.length_append,rwL_len C k]
   simp only[List.length_cons,List.length_nil]
   omega
theorem rwL_at (C:Nat→Nat→Int):∀ n q,q<n*12→ofL (rwL C n) q=C (q % 12) (q/12)
 |0,q,h=>by omega
 | k+1,q,h=>by
   rw[rwL]
   by_cases e:q<k*12
   · rw[ofL_app _ _ _ (by rw[rwL_len];exact e)];exact rwL_at C k q e
   · rw[ofL_app' _ _ _ (by rw[rwL_len];omega),rwL_len]
     have h1:q/12=k:=by omega
     have h2:q % 12=q-k*12:=by omega
     rw[h1,h2]
     have h3:q-k*12<12:=by omega
     generalize q-k*12=j at h3 ⊢
     rcases(show j=0∨j=1∨j=2∨j=3∨j=4∨j=5∨j=6∨j=7∨j=8∨j=9∨j=10∨j=11 by omega) with rfl|rfl|rfl|rfl|rfl|rfl|rfl|rfl|rfl|rfl|rfl|rfl<;>rfl
theorem cells12 (w:World) (V:Nat→Int) (t:TypeId):∀ j,j<12→(w.alloc (Obj.cells #[.int .i64 (V 0),.int .i64 (V 1),.int .i64 (V 2),.int .i64 (V 3),.int .i64 (V 4),.int .i64 (V 5),.int .i64 (V 6),.int .i64 (V 7),.int .i64 (V 8),.int .i64 (V 9),.int .i64 (V 10),.int .i64 (V 11)] t)).cell? ⟨w.heap.size,j,none⟩=some (.int .i64 (ofL [V 0,V 1,V 2,V 3,V 4,V 5,V 6,V 7,V 8,V 9,V 10,V 11] j)):=by
 intro j hj
 rcases(show j=0∨j=1∨j=2∨j=3∨j=4∨j=5∨j=6∨j=7∨j=8∨j=9∨j=10∨j=11 by omega) with rfl|rfl|rfl|rfl|rfl|rfl|rfl|rfl|rfl|rfl|rfl|rfl<;>(simp only[ofL];go_simp;(try rfl))
theorem list_any (cb n:Nat) (C:Nat→Nat→Int) (S:Nat→Value) (w:World) (hC:Cs w cb n C S) (hn:n≤12):
 Calls Tryz.prog 74 #[.pointer (some ⟨cb,0,none⟩)] w fun e w'=>∃ a c,e= .returned (.slice a n c)∧OutL w w' 35 12 a n c (fun q=>C (q % 12) (q/12)):=by
 have hset:=cset_map
 refine calls_of_wp_marks Tryz.func74 rfl ?_
 simp only[Tryz.ntmps74,List.size_toArray,List.length_cons,List.length_nil,Nat.reduceAdd,Nat.reduceSub,Array.replicate_succ,Array.replicate_zero,List.push_toArray,List.append_toArray,List.nil_append,List.cons_append]
 go_wp2
 have hE:Below w.heap.size w (w.alloc (Obj.cells #[.slice none 0 0] 23)):=(Below.refl _ _).alloc (Nat.le_refl _) _
 have hC2:=hC.below hE
 have hA:LsAt (w.alloc (Obj.cells #[.slice none 0 0] 23)) (w.alloc (Obj.cells #[.slice none 0 0] 23)) w.heap.size 35 12 none 0 0 []:=LsAt.start (by go_simp) (by go_simp)
 have hz2:(w.alloc (Obj.cells #[.slice none 0 0] 23)).heap.size=w.heap.size+1:=by simp
 generalize (w.alloc (Obj.cells #[.slice none 0 0] 23))=w2 at hE hC2 hA hz2 ⊢
 have hXl:∀ b,Xc S b→b<w.heap.size:=fun b hb=>(hC.xlt hb).2
 have hcl0:=hC.lt
 have hlb:w.heap.size<w2.heap.size:=by omega
 obtain⟨ad,cc,hS0⟩:=(hC2.own 0 (by omega)).is
 have hd0:=hC2.hd 0 (by omega)
 rw[hS0] at hd0
 have hlw:w.heap.size≤w.heap.size:=Nat.le_refl _
 have hcl1:cb<w.heap.size:=hcl0
 generalize hlbe:w.heap.size=lb at hA hlb hXl hcl1 hlw ⊢
 refine wp_range_out (gf:=29) (bound:= #[.pointer (some ⟨cb,0,none⟩)]) rfl each_enters (each_it cb n _ _ w2 hC2.lt hd0 (by omega)) (fun _=>rfl) (fun k W=>∃ a m c,LsAt w2 W lb 35 12 a m c (rwL C k)) (fun _ _=>False) ?_ (fun _ _ _ h _=>h) ⟨_,_,_,hA⟩ ?round ?done (fun _ _ _ _ h _=>h.elim)
 · rintro k A B ⟨a,m,c,h1⟩ hs
   exact⟨a,m,c,h1.sm hs (Nat.le_refl _)⟩
 case done=>
  rintro D W hD ⟨a,m,c,hL⟩ hK
  have hbx:=hL.box
  have hm:m=n:=by have:=hL.len;rw[rwL_len] at this;omega
  subst hm
  go_wp2
  refine marks_ret (B:=w2.heap.size) hD rfl hK fun W' hS=>⟨.slice a m c,?_,a,c,rfl,?_,?_⟩
  · simp[results,Tryz.results74,go_sem, *]
  · rw[hlbe]
    rw[hlbe] at hE
    exact(hE.trans (hL.fr.below (by omega) (fun b e=>by omega))).trans (hS.below.mono (by omega))
  · rw[hlbe]
    exact((hL.own.sm hS).base (by omega)).congr fun q hq=>rwL_at C m q hq
 case round=>
  rintro l0 k X hl0 ⟨a,m,c,hL⟩ hk
  have hm12:m≤12:=by have:=hL.len;rw[rwL_len] at this;omega
  simp only[List.zip_toArray,List.zip_cons_cons,List.zip_nil_left,List.foldl_toArray,List.foldl_cons,List.foldl_nil,List.setIfInBounds_toArray,List.set_cons_succ,List.set_cons_zero]
  refine wpIn_region_plain (by rintro⟨_,_,h⟩;exact h) (by kernel_rfl) ?_
  go_wp2
  refine⟨(KeepsOthers.alloc _ _).from _,fun X2 hS hr=> ?_⟩
  clear hr
  have hL2:LsAt w2 X2 lb 35 12 a m c (rwL C k):=(hL.below ((Below.refl _ _).alloc (Nat.le_refl _) _)).sm hS (Nat.le_refl _)
  have b0:X2.cell? ⟨X.heap.size,0,none⟩=some (.int .i64 (k:Int)):=hS.cell (by go_simp)
  have b1:X2.cell? ⟨X.heap.size,1,none⟩=some (.pointer (some ⟨cb,0,none⟩)):=hS.cell (by go_simp)
  have hbl:X.heap.size<X2.heap.size:=by have:=hS.size;simp at this;omega
  have hown:∀ b,(Value.slice a m c).ownBlock=some b→b<X.heap.size:=fun b hb=>(hL.own.lt b hb).2
  have hzX:=hL.fr.size
  clear hS hL
  generalize X.heap.size=bb at b0 b1 hbl hown hzX ⊢
  have hCX:=hC2.frame hL2.fr (by omega) (fun b hb=>by have:=hXl b hb;omega)
  have x0:=hL2.box
  have e0:=b0
  have e1:=b1
  refine wpIn_block ?_
  refine wpIn_region_held_drew (S:=fun w'=>w'.cell? ⟨bb,0,none⟩=some (.int .i64 (k:Int))∧w'.cell? ⟨bb,1,none⟩=some (.pointer (some ⟨cb,0,none⟩))) (by kernel_rfl) (by rintro⟨_,_,h⟩;exact h) (by kernel_rfl) ?_ (fun hHeld=> ?_)
  · (try dsimp only)
    (first|(go_simp;done)|(go_keep;done))
  refine tq 1 hHeld ?_
  refine wpAnyH_ready (rs:=[0,2]) (by kernel_rfl) (by simp) ?_
  refine AllReadyH.cons rfl (fun K hK=> ?_) (AllReadyH.cons rfl (fun K hK=> ?_) AllReadyH.nil)
  · (go_simp
     refine tr hK (fun hHeld=> ?_)
     clear hK K)
    refine tc 2 fun K hK=> ?_
    (go_simp
     (go_at_call 27;refine(kBody (Cs.hat (hCX.below (Below.drew (Below.refl _ _))) hk (by omega))).mono ?_;rintro e w31 ⟨rfl,hx⟩)
     have hx1:Below X2.heap.size X2 w31:=(Below.drew (Below.refl _ _)).trans hx
     have hL3:=hL2.below hx1
     clear x0 e0 e1 hx
     have x0:=hL3.box
     have e0:=(hx1.cell (p:=⟨bb,0,none⟩) hbl).trans b0
     have e1:=(hx1.cell (p:=⟨bb,1,none⟩) hbl).trans b1
     have hbl3:bb<w31.heap.size:=Nat.lt_of_lt_of_le hbl hx1.size
     (try go_wp2_with fail)
     refine tr hK (fun hHeld=> ?_)
     clear hK K)
    refine tc 3 fun K hK=> ?_
    (go_simp
     have hE3:Below w31.heap.size w31 (w31.alloc (Obj.cells #[.int .i64 (C 0 k),.int .i64 (C 1 k),.int .i64 (C 2 k),.int .i64 (C 3 k),.int .i64 (C 4 k),.int .i64 (C 5 k),.int .i64 (C 6 k),.int .i64 (C 7 k),.int .i64 (C 8 k),.int .i64 (C 9 k),.int .i64 (C 10 k),.int .i64 (C 11 k)] 35)):=(Below.refl _ _).alloc (Nat.le_refl _) _
     have q12:=cells12 w31 (fun j=>C j k) 35
     have hz32:(w31.alloc (Obj.cells #[.int .i64 (C 0 k),.int .i64 (C 1 k),.int .i64 (C 2 k),.int .i64 (C 3 k),.int .i64 (C 4 k),.int .i64 (C 5 k),.int .i64 (C 6 k),.int .i64 (C 7 k),.int .i64 (C 8 k),.int .i64 (C 9 k),.int .i64 (C 10 k),.int .i64 (C 11 k)] 35)).heap.size=w31.heap.size+1:=by simp
     clear x0 e0 e1
     generalize w31.alloc (Obj.cells #[.int .i64 (C 0 k),.int .i64 (C 1 k),.int .i64 (C 2 k),.int .i64 (C 3 k),.int .i64 (C 4 k),.int .i64 (C 5 k),.int .i64 (C 6 k),.int .i64 (C 7 k),.int .i64 (C 8 k),.int .i64 (C 9 k),.int .i64 (C 10 k),.int .i64 (C 11 k)] 35)=w32 at hE3 q12 hz32 ⊢
     have hL4:=hL3.below hE3
     have x0:=hL4.box
     have e0:=(hE3.cell (p:=⟨bb,0,none⟩) hbl3).trans ((hx1.cell (p:=⟨bb,0,none⟩) hbl).trans b0)
     have e1:=(hE3.cell (p:=⟨bb,1,none⟩) hbl3).trans ((hx1.cell (p:=⟨bb,1,none⟩) hbl).trans b1)
     refine tr hK (fun hHeld=> ?_)
     clear hK K)
    refine tc 4 fun K hK=> ?_
    (refine step_appk (by rfl) _ _ _ (by rfl) w2.heap.size 35 12 96 zcBody Tryz.underlying23 infoItBody (by rfl) (by omega) (.slice a m c) m (ofL (rwL C k)) (by rfl) hL4.own w31.heap.size _ (ofL [C 0 k,C 1 k,C 2 k,C 3 k,C 4 k,C 5 k,C 6 k,C 7 k,C 8 k,C 9 k,C 10 k,C 11 k]) (by rfl) q12 (by unfold maxLen;omega) (by omega) (by have:=hL4.fr.size;omega) _ rfl ?_
     intro g6 c6 w33 ho6 hg6 hor6 hlt6
     have hP:=hL4.push hlb (x:=[C 0 k,C 1 k,C 2 k,C 3 k,C 4 k,C 5 k,C 6 k,C 7 k,C 8 k,C 9 k,C 10 k,C 11 k]) rfl hg6 ho6
     have hKP:=(Fr.of_below (hx1.trans (hE3.mono hx1.size))).trans (hL4.keeps (a':=some ⟨g6,0,none⟩) (m':=m+1) (c':=c6) hlb hg6)
     have hnb:∀ b,(Value.slice a m c).ownBlock=some b→b≠bb:=fun b e=>by have:=hown b e;omega
     have y0:=(hg6.cell_far ⟨bb,0,none⟩ (by show bb<w32.heap.size;omega) (fun e=>hnb bb e.symm rfl)).trans e0
     have y1:=(hg6.cell_far ⟨bb,1,none⟩ (by show bb<w32.heap.size;omega) (fun e=>hnb bb e.symm rfl)).trans e1
     have n0:=(hg6.cell_far ⟨lb,0,none⟩ (by show lb<w32.heap.size;have:=hL4.fr.size;omega) (fun e=>by have:=(hL4.own.lt lb e.symm).1;omega)).trans hL4.box
     have nf:=(hg6.frozen_far ⟨lb,0,none⟩ (by show lb<w32.heap.size;have:=hL4.fr.size;omega) (fun e=>by have:=(hL4.own.lt lb e.symm).1;omega)).trans hL4.nf
     clear x0 e0 e1
     refine tr hK (fun hHeld=> ?_)
     clear hK K)
    refine tc 5 fun K hK=> ?_
    (have z0:(w33.setCell ⟨lb,0,none⟩ (.slice (some ⟨g6,0,none⟩) (m+1) c6)).cell? ⟨bb,0,none⟩=some (.int .i64 (k:Int)):=by rw[cset_far (by simp;omega)];exact y0
     have z1:(w33.setCell ⟨lb,0,none⟩ (.slice (some ⟨g6,0,none⟩) (m+1) c6)).cell? ⟨bb,1,none⟩=some (.pointer (some ⟨cb,0,none⟩)):=by rw[cset_far (by simp;omega)];exact y1
     go_simp
     refine tr hK (fun hHeld=> ?_)
     clear hK K)
    refine wpAnyH_done (by kernel_rfl) ?_ _
    go_wp2_with fail
    exact⟨hKP.keeps _,_,_,_,by rw[rwL];exact hP⟩
  · (go_simp
     (go_at_call 27;refine(kBody (Cs.hat (hCX.below (Below.drew (Below.refl _ _))) hk (by omega))).mono ?_;rintro e w31 ⟨rfl,hx⟩)
     have hx1:Below X2.heap.size X2 w31:=(Below.drew (Below.refl _ _)).trans hx
     have hL3:=hL2.below hx1
     clear x0 e0 e1 hx
     have x0:=hL3.box
     have e0:=(hx1.cell (p:=⟨bb,0,none⟩) hbl).trans b0
     have e1:=(hx1.cell (p:=⟨bb,1,none⟩) hbl).trans b1
     have hbl3:bb<w31.heap.size:=Nat.lt_of_lt_of_le hbl hx1.size
     (try go_wp2_with fail)
     refine tr hK (fun hHeld=> ?_)
     clear hK K)
    refine wpAnyH_ready (rs:=[0,3]) (by kernel_rfl) (by simp) ?_
    refine AllReadyH.cons rfl (fun K hK=> ?_) (AllReadyH.cons rfl (fun K hK=> ?_) AllReadyH.nil)
    · (go_simp
       refine tr hK (fun hHeld=> ?_)
       clear hK K)
      refine tc 3 fun K hK=> ?_
      (go_simp
       have hE3:Below w31.heap.size w31 (w31.alloc (Obj.cells #[.int .i64 (C 0 k),.int .i64 (C 1 k),.int .i64 (C 2 k),.int .i64 (C 3 k),.int .i64 (C 4 k),.int .i64 (C 5 k),.int .i64 (C 6 k),.int .i64 (C 7 k),.int .i64 (C 8 k),.int .i64 (C 9 k),.int .i64 (C 10 k),.int .i64 (C 11 k)] 35)):=(Below.refl _ _).alloc (Nat.le_refl _) _
       have q12:=cells12 w31 (fun j=>C j k) 35
       have hz32:(w31.alloc (Obj.cells #[.int .i64 (C 0 k),.int .i64 (C 1 k),.int .i64 (C 2 k),.int .i64 (C 3 k),.int .i64 (C 4 k),.int .i64 (C 5 k),.int .i64 (C 6 k),.int .i64 (C 7 k),.int .i64 (C 8 k),.int .i64 (C 9 k),.int .i64 (C 10 k),.int .i64 (C 11 k)] 35)).heap.size=w31.heap.size+1:=by simp
       clear x0 e0 e1
       generalize w31.alloc (Obj.cells #[.int .i64 (C 0 k),.int .i64 (C 1 k),.int .i64 (C 2 k),.int .i64 (C 3 k),.int .i64 (C 4 k),.int .i64 (C 5 k),.int .i64 (C 6 k),.int .i64 (C 7 k),.int .i64 (C 8 k),.int .i64 (C 9 k),.int .i64 (C 10 k),.int .i64 (C 11 k)] 35)=w32 at hE3 q12 hz32 ⊢
       have hL4:=hL3.below hE3
       have x0:=hL4.box
       have e0:=(hE3.cell (p:=⟨bb,0,none⟩) hbl3).trans ((hx1.cell (p:=⟨bb,0,none⟩) hbl).trans b0)
       have e1:=(hE3.cell (p:=⟨bb,1,none⟩) hbl3).trans ((hx1.cell (p:=⟨bb,1,none⟩) hbl).trans b1)
       refine tr hK (fun hHeld=> ?_)
       clear hK K)
      refine tc 4 fun K hK=> ?_
      (refine step_appk (by rfl) _ _ _ (by rfl) w2.heap.size 35 12 96 zcBody Tryz.underlying23 infoItBody (by rfl) (by omega) (.slice a m c) m (ofL (rwL C k)) (by rfl) hL4.own w31.heap.size _ (ofL [C 0 k,C 1 k,C 2 k,C 3 k,C 4 k,C 5 k,C 6 k,C 7 k,C 8 k,C 9 k,C 10 k,C 11 k]) (by rfl) q12 (by unfold maxLen;omega) (by omega) (by have:=hL4.fr.size;omega) _ rfl ?_
       intro g6 c6 w33 ho6 hg6 hor6 hlt6
       have hP:=hL4.push hlb (x:=[C 0 k,C 1 k,C 2 k,C 3 k,C 4 k,C 5 k,C 6 k,C 7 k,C 8 k,C 9 k,C 10 k,C 11 k]) rfl hg6 ho6
       have hKP:=(Fr.of_below (hx1.trans (hE3.mono hx1.size))).trans (hL4.keeps (a':=some ⟨g6,0,none⟩) (m':=m+1) (c':=c6) hlb hg6)
       have hnb:∀ b,(Value.slice a m c).ownBlock=some b→b≠bb:=fun b e=>by have:=hown b e;omega
       have y0:=(hg6.cell_far ⟨bb,0,none⟩ (by show bb<w32.heap.size;omega) (fun e=>hnb bb e.symm rfl)).trans e0
       have y1:=(hg6.cell_far ⟨bb,1,none⟩ (by show bb<w32.heap.size;omega) (fun e=>hnb bb e.symm rfl)).trans e1
       have n0:=(hg6.cell_far ⟨lb,0,none⟩ (by show lb<w32.heap.size;have:=hL4.fr.size;omega) (fun e=>by have:=(hL4.own.lt lb e.symm).1;omega)).trans hL4.box
       have nf:=(hg6.frozen_far ⟨lb,0,none⟩ (by show lb<w32.heap.size;have:=hL4.fr.size;omega) (fun e=>by have:=(hL4.own.lt lb e.symm).1;omega)).trans hL4.nf
       clear x0 e0 e1
       refine tr hK (fun hHeld=> ?_)
       clear hK K)
      refine tc 5 fun K hK=> ?_
      (have z0:(w33.setCell ⟨lb,0,none⟩ (.slice (some ⟨g6,0,none⟩) (m+1) c6)).cell? ⟨bb,0,none⟩=some (.int .i64 (k:Int)):=by rw[cset_far (by simp;omega)];exact y0
       have z1:(w33.setCell ⟨lb,0,none⟩ (.slice (some ⟨g6,0,none⟩) (m+1) c6)).cell? ⟨bb,1,none⟩=some (.pointer (some ⟨cb,0,none⟩)):=by rw[cset_far (by simp;omega)];exact y1
       go_simp
       refine tr hK (fun hHeld=> ?_)
       clear hK K)
      refine wpAnyH_done (by kernel_rfl) ?_ _
      go_wp2_with fail
      exact⟨hKP.keeps _,_,_,_,by rw[rwL];exact hP⟩
    · (go_simp
       have hE3:Below w31.heap.size w31 (w31.alloc (Obj.cells #[.int .i64 (C 0 k),.int .i64 (C 1 k),.int .i64 (C 2 k),.int .i64 (C 3 k),.int .i64 (C 4 k),.int .i64 (C 5 k),.int .i64 (C 6 k),.int .i64 (C 7 k),.int .i64 (C 8 k),.int .i64 (C 9 k),.int .i64 (C 10 k),.int .i64 (C 11 k)] 35)):=(Below.refl _ _).alloc (Nat.le_refl _) _
       have q12:=cells12 w31 (fun j=>C j k) 35
       have hz32:(w31.alloc (Obj.cells #[.int .i64 (C 0 k),.int .i64 (C 1 k),.int .i64 (C 2 k),.int .i64 (C 3 k),.int .i64 (C 4 k),.int .i64 (C 5 k),.int .i64 (C 6 k),.int .i64 (C 7 k),.int .i64 (C 8 k),.int .i64 (C 9 k),.int .i64 (C 10 k),.int .i64 (C 11 k)] 35)).heap.size=w31.heap.size+1:=by simp
       clear x0 e0 e1
       generalize w31.alloc (Obj.cells #[.int .i64 (C 0 k),.int .i64 (C 1 k),.int .i64 (C 2 k),.int .i64 (C 3 k),.int .i64 (C 4 k),.int .i64 (C 5 k),.int .i64 (C 6 k),.int .i64 (C 7 k),.int .i64 (C 8 k),.int .i64 (C 9 k),.int .i64 (C 10 k),.int .i64 (C 11 k)] 35)=w32 at hE3 q12 hz32 ⊢
       have hL4:=hL3.below hE3
       have x0:=hL4.box
       have e0:=(hE3.cell (p:=⟨bb,0,none⟩) hbl3).trans ((hx1.cell (p:=⟨bb,0,none⟩) hbl).trans b0)
       have e1:=(hE3.cell (p:=⟨bb,1,none⟩) hbl3).trans ((hx1.cell (p:=⟨bb,1,none⟩) hbl).trans b1)
       refine tr hK (fun hHeld=> ?_)
       clear hK K)
      refine tc 0 fun K hK=> ?_
      (go_simp
       refine tr hK (fun hHeld=> ?_)
       clear hK K)
      refine tc 4 fun K hK=> ?_
      (refine step_appk (by rfl) _ _ _ (by rfl) w2.heap.size 35 12 96 zcBody Tryz.underlying23 infoItBody (by rfl) (by omega) (.slice a m c) m (ofL (rwL C k)) (by rfl) hL4.own w31.heap.size _ (ofL [C 0 k,C 1 k,C 2 k,C 3 k,C 4 k,C 5 k,C 6 k,C 7 k,C 8 k,C 9 k,C 10 k,C 11 k]) (by rfl) q12 (by unfold maxLen;omega) (by omega) (by have:=hL4.fr.size;omega) _ rfl ?_
       intro g6 c6 w33 ho6 hg6 hor6 hlt6
       have hP:=hL4.push hlb (x:=[C 0 k,C 1 k,C 2 k,C 3 k,C 4 k,C 5 k,C 6 k,C 7 k,C 8 k,C 9 k,C 10 k,C 11 k]) rfl hg6 ho6
       have hKP:=(Fr.of_below (hx1.trans (hE3.mono hx1.size))).trans (hL4.keeps (a':=some ⟨g6,0,none⟩) (m':=m+1) (c':=c6) hlb hg6)
       have hnb:∀ b,(Value.slice a m c).ownBlock=some b→b≠bb:=fun b e=>by have:=hown b e;omega
       have y0:=(hg6.cell_far ⟨bb,0,none⟩ (by show bb<w32.heap.size;omega) (fun e=>hnb bb e.symm rfl)).trans e0
       have y1:=(hg6.cell_far ⟨bb,1,none⟩ (by show bb<w32.heap.size;omega) (fun e=>hnb bb e.symm rfl)).trans e1
       have n0:=(hg6.cell_far ⟨lb,0,none⟩ (by show lb<w32.heap.size;have:=hL4.fr.size;omega) (fun e=>by have:=(hL4.own.lt lb e.symm).1;omega)).trans hL4.box
       have nf:=(hg6.frozen_far ⟨lb,0,none⟩ (by show lb<w32.heap.size;have:=hL4.fr.size;omega) (fun e=>by have:=(hL4.own.lt lb e.symm).1;omega)).trans hL4.nf
       clear x0 e0 e1
       refine tr hK (fun hHeld=> ?_)
       clear hK K)
      refine tc 5 fun K hK=> ?_
      (have z0:(w33.setCell ⟨lb,0,none⟩ (.slice (some ⟨g6,0,none⟩) (m+1) c6)).cell? ⟨bb,0,none⟩=some (.int .i64 (k:Int)):=by rw[cset_far (by simp;omega)];exact y0
       have z1:(w33.setCell ⟨lb,0,none⟩ (.slice (some ⟨g6,0,none⟩) (m+1) c6)).cell? ⟨bb,1,none⟩=some (.pointer (some ⟨cb,0,none⟩)):=by rw[cset_far (by simp;omega)];exact y1
       go_simp
       refine tr hK (fun hHeld=> ?_)
       clear hK K)
      refine wpAnyH_done (by kernel_rfl) ?_ _
      go_wp2_with fail
      exact⟨hKP.keeps _,_,_,_,by rw[rwL];exact hP⟩
end Go.Proofs.YthajilkjfkppoaaGreatDoor
