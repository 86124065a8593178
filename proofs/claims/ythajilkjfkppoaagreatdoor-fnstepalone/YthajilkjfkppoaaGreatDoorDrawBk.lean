/- Texts of a proof. -/
import Derived.Test.YthajilkjfkppoaaGreatDoorB21
import Derived.Test.YthajilkjfkppoaaGreatDoorB22
import Derived.Deep.RegionHeld3
import Derived.Deep.DeepCutAuto
set_option maxHeartbeats 16000000
set_option maxRecDepth 20000
namespace Go.Proofs.YthajilkjfkppoaaGreatDoor
open Go.RowKit
set_option linter.unusedVariables false
set_option linter.unusedSimpArgs false
theorem bod_mk {id k g h x y dx dy m bo ru q:Int} (h0:0≤id∧id≤999999999) (hs:shB k g h=true) (hp:Bm x∧Bm y) (hd:(-64000≤dx∧dx≤64000)∧ -64000≤dy∧dy≤64000) (hm:0≤m∧m≤100) (hb:0≤bo∧bo≤256) (hr:0≤ru∧ru≤256) (hq:0≤q∧q≤8) (z1:m=0→dx=0∧dy=0∧q=0) (z2:q=8→dx=0∧dy=0):
 bodyB (fun j=>[id,k,g,h,x,y,dx,dy,m,bo,ru,q].getD j 0)=true:=by
 unfold bodyB restB inB
 show (decide (0≤id∧id≤999999999)&&(shB k g h&&_))=true
 unfold Bm at hp
 rw[hs,decide_eq_true h0]
 simp only[Bool.true_and,Bool.and_eq_true,decide_eq_true_eq]
 simp only[List.getD_cons_succ,List.getD_cons_zero]
 refine⟨by omega,by omega,by omega,by omega,by omega,by omega,?_⟩
 by_cases e:m=0
 · have:=z1 e;omega
 · by_cases e2:q=8
   · have:=z2 e2;omega
   · omega
theorem bl12 {w w':World} {rb p b:Nat} {V:Nat→Int} (h:BL w w' rb p [(b,12,V)]) {x0 x1 x2 x3 x4 x5 x6 x7 x8 x9 x10 x11:Int}:RB w ((((((((((((w'.setCell ⟨b,0,none⟩ (.int .i64 x0)).setCell ⟨b,1,none⟩ (.int .i64 x1)).setCell ⟨b,2,none⟩ (.int .i64 x2)).setCell ⟨b,3,none⟩ (.int .i64 x3)).setCell ⟨b,4,none⟩ (.int .i64 x4)).setCell ⟨b,5,none⟩ (.int .i64 x5)).setCell ⟨b,6,none⟩ (.int .i64 x6)).setCell ⟨b,7,none⟩ (.int .i64 x7)).setCell ⟨b,8,none⟩ (.int .i64 x8)).setCell ⟨b,9,none⟩ (.int .i64 x9)).setCell ⟨b,10,none⟩ (.int .i64 x10)).setCell ⟨b,11,none⟩ (.int .i64 x11)) rb p:=
 ((((((((((((h.set (fun z hz=>by cases hz) 0 (by decide) x0).set (fun z hz=>by cases hz) 1 (by decide) x1).set (fun z hz=>by cases hz) 2 (by decide) x2).set (fun z hz=>by cases hz) 3 (by decide) x3).set (fun z hz=>by cases hz) 4 (by decide) x4).set (fun z hz=>by cases hz) 5 (by decide) x5).set (fun z hz=>by cases hz) 6 (by decide) x6).set (fun z hz=>by cases hz) 7 (by decide) x7).set (fun z hz=>by cases hz) 8 (by decide) x8).set (fun z hz=>by cases hz) 9 (by decide) x9).set (fun z hz=>by cases hz) 10 (by decide) x10).set (fun z hz=>by cases hz) 11 (by decide) x11).done
theorem l11Body_k (rb p:Nat) (id:Int) (w:World) (hs0:RS w rb p) (hp:p≤800000) (hid:0≤id∧id≤999999999):
 Calls Tryz.prog 67 #[.pointer (some ⟨rb,0,none⟩),.int .i64 id] w fun e w'=>∃ V:Nat→Int,e= .returned (bodyW V)∧(bodyB V=true∧V 0=id∧V 8≤100)∧RB w w' rb (p+1000):=by
 have hlt:=hs0.lt
 have hset:=cset_map
 have hD:BL w (w.alloc (.cells #[.int .i64 0,.int .i64 0,.int .i64 0,.int .i64 0,.int .i64 0,.int .i64 0,.int .i64 0,.int .i64 0,.int .i64 0,.int .i64 0,.int .i64 0,.int .i64 0] 35)) rb p [(w.heap.size,12,(fun _=>0))]:=(BL.start hs0).new _ 12 (fun _=>0) rfl (by intro i hi;rcases(show i=0∨i=1∨i=2∨i=3∨i=4∨i=5∨i=6∨i=7∨i=8∨i=9∨i=10∨i=11 by omega) with rfl|rfl|rfl|rfl|rfl|rfl|rfl|rfl|rfl|rfl|rfl|rfl<;>rfl)
 go_enter Tryz.func67,Tryz.ntmps67
 go_upto_region 1 with fail
 generalize w.alloc (.cells #[.int .i64 0,.int .i64 0,.int .i64 0,.int .i64 0,.int .i64 0,.int .i64 0,.int .i64 0,.int .i64 0,.int .i64 0,.int .i64 0,.int .i64 0,.int .i64 0] 35)=w0 at hD ⊢
 go_cut [5] (fun s5 wc=>∃ (ab:Nat) (k g h x y m bo ru:Int),s5= .pointer (some ⟨ab,0,none⟩)∧w.heap.size<ab∧(shB k g h=true∧(Bm x∧Bm y)∧(0≤m∧m≤100)∧(0≤bo∧bo≤256)∧(0≤ru∧ru≤256))∧BL w wc rb (p+500) [(ab,12,(fun j=>[id,k,g,h,x,y,0,0,m,bo,ru,0].getD j 0)),(w.heap.size,12,(fun _=>0))])
 case first=>
  go_wp2_with (first
  |(have _:=hr4;go_at_call 17;refine(one_s (0) 256 rb (p+400) _ _ _ _ _ (by exact RS.up hr4 (by omega)) (by omega) (by repeat(first|exact AllBd.nil|refine AllBd.cons (by omega) (by omega) ?_)) (by rfl) (by omega) (by omega)).mono ?_;rintro e w5 ⟨v5,rfl,va5,vb5,hr5⟩)
  |(have _:=hr3;go_at_call 17;refine(one_s (0) 256 rb (p+300) _ _ _ _ _ (by exact RS.up hr3 (by omega)) (by omega) (by repeat(first|exact AllBd.nil|refine AllBd.cons (by omega) (by omega) ?_)) (by rfl) (by omega) (by omega)).mono ?_;rintro e w4 ⟨v4,rfl,va4,vb4,hr4⟩)
  |(have _:=hr2;go_at_call 17;refine(one_s (0) 100 rb (p+200) _ _ _ _ _ (by exact RS.up hr2 (by omega)) (by omega) (by repeat(first|exact AllBd.nil|refine AllBd.cons (by omega) (by omega) ?_)) (by rfl) (by omega) (by omega)).mono ?_;rintro e w3 ⟨v3,rfl,va3,vb3,hr3⟩)
  |(have _:=hr1;go_at_call 93;refine(l11Place_s rb (p+100) _ (by exact RS.up hr1 (by omega)) (by omega)).mono ?_;rintro e w2 ⟨x2,y2,rfl,hd2,hr2⟩)
  |(go_at_call 92;refine(l11Shape_k rb p _ (by exact hD.rs) (by omega)).mono ?_;rintro e w1 ⟨k1,g1,h1,rfl,hd1,hr1⟩))
  go_meet
  have hD5:=((((hD.call hr1).call hr2).call hr3).call hr4).call hr5
  have q1:w.heap.size<w5.heap.size:=hD5.lt (x:=(w.heap.size,12,(fun _=>0))) (by simp)
  exact⟨_,k1,g1,h1,x2,y2,v3,v4,v5,rfl,q1,⟨hd1,hd2,⟨va3,vb3⟩,⟨va4,vb4⟩,⟨va5,vb5⟩⟩,(hD5.mono (by omega)).new _ 12 (fun j=>[id,k1,g1,h1,x2,y2,0,0,v3,v4,v5,0].getD j 0) rfl (by intro i hi;rcases(show i=0∨i=1∨i=2∨i=3∨i=4∨i=5∨i=6∨i=7∨i=8∨i=9∨i=10∨i=11 by omega) with rfl|rfl|rfl|rfl|rfl|rfl|rfl|rfl|rfl|rfl|rfl|rfl<;>rfl)⟩
 case rest=>
 clear hD
 obtain⟨ab,k,g,h,x,y,m,bo,ru,rfl,hab,⟨hsh,hpl,hm,hbo,hru⟩,hD⟩:=hcut
 have hns:∀ z∈([(w.heap.size,12,(fun _=>0))]:Bls),z.1≠ab:=fun z hz=>by rw[List.mem_singleton.1 hz];show w.heap.size≠ab;omega
 have gA:=hD.get (x:=(ab,12,(fun j=>[id,k,g,h,x,y,0,0,m,bo,ru,0].getD j 0))) (by simp)
 have c0:wc.cell? ⟨ab,0,none⟩=some (.int .i64 id):=gA.2.2.1 0 (show 0<12 by decide)
 have c1:wc.cell? ⟨ab,1,none⟩=some (.int .i64 k):=gA.2.2.1 1 (show 1<12 by decide)
 have c2:wc.cell? ⟨ab,2,none⟩=some (.int .i64 g):=gA.2.2.1 2 (show 2<12 by decide)
 have c3:wc.cell? ⟨ab,3,none⟩=some (.int .i64 h):=gA.2.2.1 3 (show 3<12 by decide)
 have c4:wc.cell? ⟨ab,4,none⟩=some (.int .i64 x):=gA.2.2.1 4 (show 4<12 by decide)
 have c5:wc.cell? ⟨ab,5,none⟩=some (.int .i64 y):=gA.2.2.1 5 (show 5<12 by decide)
 have c6:wc.cell? ⟨ab,6,none⟩=some (.int .i64 0):=gA.2.2.1 6 (show 6<12 by decide)
 have c7:wc.cell? ⟨ab,7,none⟩=some (.int .i64 0):=gA.2.2.1 7 (show 7<12 by decide)
 have c8:wc.cell? ⟨ab,8,none⟩=some (.int .i64 m):=gA.2.2.1 8 (show 8<12 by decide)
 have c9:wc.cell? ⟨ab,9,none⟩=some (.int .i64 bo):=gA.2.2.1 9 (show 9<12 by decide)
 have c10:wc.cell? ⟨ab,10,none⟩=some (.int .i64 ru):=gA.2.2.1 10 (show 10<12 by decide)
 have c11:wc.cell? ⟨ab,11,none⟩=some (.int .i64 0):=gA.2.2.1 11 (show 11<12 by decide)
 have cf:=fun j (hj:j<12)=>gA.2.2.2 j hj
 have cf0:wc.frozen? ⟨ab,0,none⟩=false:=cf 0 (by decide)
 have cf1:wc.frozen? ⟨ab,1,none⟩=false:=cf 1 (by decide)
 have cf2:wc.frozen? ⟨ab,2,none⟩=false:=cf 2 (by decide)
 have cf3:wc.frozen? ⟨ab,3,none⟩=false:=cf 3 (by decide)
 have cf4:wc.frozen? ⟨ab,4,none⟩=false:=cf 4 (by decide)
 have cf5:wc.frozen? ⟨ab,5,none⟩=false:=cf 5 (by decide)
 have cf6:wc.frozen? ⟨ab,6,none⟩=false:=cf 6 (by decide)
 have cf7:wc.frozen? ⟨ab,7,none⟩=false:=cf 7 (by decide)
 have cf8:wc.frozen? ⟨ab,8,none⟩=false:=cf 8 (by decide)
 have cf9:wc.frozen? ⟨ab,9,none⟩=false:=cf 9 (by decide)
 have cf10:wc.frozen? ⟨ab,10,none⟩=false:=cf 10 (by decide)
 have cf11:wc.frozen? ⟨ab,11,none⟩=false:=cf 11 (by decide)
 go_upto_region 2 with fail
 go_cut [] (fun wc=>∃ dx dy:Int,(((-64000≤dx∧dx≤64000)∧ -64000≤dy∧dy≤64000)∧(m=0→dx=0∧dy=0))∧BL w wc rb (p+600) [(ab,12,(fun j=>[id,k,g,h,x,y,dx,dy,m,bo,ru,0].getD j 0)),(w.heap.size,12,(fun _=>0))])
 case first=>
  go_wp2_with (go_at_call 94;refine(l11Drive_k rb (p+500) m _ (by exact hD.rs) (by omega) hm).mono ?_;rintro e w6 ⟨dx,dy,rfl,hd6,hr6⟩;have hD6:=(hD.call hr6).mono (p1:=p+600) (by omega);clear c0 cf0 c1 cf1 c2 cf2 c3 cf3 c4 cf4 c5 cf5 c6 cf6 c7 cf7 c8 cf8 c9 cf9 c10 cf10 c11 cf11 cf;clear hD;have hD:=hD6;clear hD6;have c0:w6.cell? ⟨ab,0,none⟩=some (.int .i64 id):=(hD.get (x:=(ab,12,(fun j=>[id,k,g,h,x,y,0,0,m,bo,ru,0].getD j 0))) (by simp)).2.2.1 0 (show 0<12 by decide);have c1:w6.cell? ⟨ab,1,none⟩=some (.int .i64 k):=(hD.get (x:=(ab,12,(fun j=>[id,k,g,h,x,y,0,0,m,bo,ru,0].getD j 0))) (by simp)).2.2.1 1 (show 1<12 by decide);have c2:w6.cell? ⟨ab,2,none⟩=some (.int .i64 g):=(hD.get (x:=(ab,12,(fun j=>[id,k,g,h,x,y,0,0,m,bo,ru,0].getD j 0))) (by simp)).2.2.1 2 (show 2<12 by decide);have c3:w6.cell? ⟨ab,3,none⟩=some (.int .i64 h):=(hD.get (x:=(ab,12,(fun j=>[id,k,g,h,x,y,0,0,m,bo,ru,0].getD j 0))) (by simp)).2.2.1 3 (show 3<12 by decide);have c4:w6.cell? ⟨ab,4,none⟩=some (.int .i64 x):=(hD.get (x:=(ab,12,(fun j=>[id,k,g,h,x,y,0,0,m,bo,ru,0].getD j 0))) (by simp)).2.2.1 4 (show 4<12 by decide);have c5:w6.cell? ⟨ab,5,none⟩=some (.int .i64 y):=(hD.get (x:=(ab,12,(fun j=>[id,k,g,h,x,y,0,0,m,bo,ru,0].getD j 0))) (by simp)).2.2.1 5 (show 5<12 by decide);have c6:w6.cell? ⟨ab,6,none⟩=some (.int .i64 0):=(hD.get (x:=(ab,12,(fun j=>[id,k,g,h,x,y,0,0,m,bo,ru,0].getD j 0))) (by simp)).2.2.1 6 (show 6<12 by decide);have c7:w6.cell? ⟨ab,7,none⟩=some (.int .i64 0):=(hD.get (x:=(ab,12,(fun j=>[id,k,g,h,x,y,0,0,m,bo,ru,0].getD j 0))) (by simp)).2.2.1 7 (show 7<12 by decide);have c8:w6.cell? ⟨ab,8,none⟩=some (.int .i64 m):=(hD.get (x:=(ab,12,(fun j=>[id,k,g,h,x,y,0,0,m,bo,ru,0].getD j 0))) (by simp)).2.2.1 8 (show 8<12 by decide);have c9:w6.cell? ⟨ab,9,none⟩=some (.int .i64 bo):=(hD.get (x:=(ab,12,(fun j=>[id,k,g,h,x,y,0,0,m,bo,ru,0].getD j 0))) (by simp)).2.2.1 9 (show 9<12 by decide);have c10:w6.cell? ⟨ab,10,none⟩=some (.int .i64 ru):=(hD.get (x:=(ab,12,(fun j=>[id,k,g,h,x,y,0,0,m,bo,ru,0].getD j 0))) (by simp)).2.2.1 10 (show 10<12 by decide);have c11:w6.cell? ⟨ab,11,none⟩=some (.int .i64 0):=(hD.get (x:=(ab,12,(fun j=>[id,k,g,h,x,y,0,0,m,bo,ru,0].getD j 0))) (by simp)).2.2.1 11 (show 11<12 by decide);have cf:=fun j (hj:j<12)=>(hD.get (x:=(ab,12,(fun j=>[id,k,g,h,x,y,0,0,m,bo,ru,0].getD j 0))) (by simp)).2.2.2 j hj;have cf0:w6.frozen? ⟨ab,0,none⟩=false:=cf 0 (by decide);have cf1:w6.frozen? ⟨ab,1,none⟩=false:=cf 1 (by decide);have cf2:w6.frozen? ⟨ab,2,none⟩=false:=cf 2 (by decide);have cf3:w6.frozen? ⟨ab,3,none⟩=false:=cf 3 (by decide);have cf4:w6.frozen? ⟨ab,4,none⟩=false:=cf 4 (by decide);have cf5:w6.frozen? ⟨ab,5,none⟩=false:=cf 5 (by decide);have cf6:w6.frozen? ⟨ab,6,none⟩=false:=cf 6 (by decide);have cf7:w6.frozen? ⟨ab,7,none⟩=false:=cf 7 (by decide);have cf8:w6.frozen? ⟨ab,8,none⟩=false:=cf 8 (by decide);have cf9:w6.frozen? ⟨ab,9,none⟩=false:=cf 9 (by decide);have cf10:w6.frozen? ⟨ab,10,none⟩=false:=cf 10 (by decide);have cf11:w6.frozen? ⟨ab,11,none⟩=false:=cf 11 (by decide))
  go_meet
  exact⟨dx,dy,hd6,((hD.set hns 6 (by decide) dx).set hns 7 (by decide) dy).headc (fun i hi=>by rcases(show i=0∨i=1∨i=2∨i=3∨i=4∨i=5∨i=6∨i=7∨i=8∨i=9∨i=10∨i=11 by omega) with rfl|rfl|rfl|rfl|rfl|rfl|rfl|rfl|rfl|rfl|rfl|rfl<;>rfl)⟩
 case rest=>
 clear c0 cf0 c1 cf1 c2 cf2 c3 cf3 c4 cf4 c5 cf5 c6 cf6 c7 cf7 c8 cf8 c9 cf9 c10 cf10 c11 cf11 cf
 clear hD
 obtain⟨dx,dy,⟨hd,hz⟩,hD⟩:=hcut
 go_upto_region 3 with fail
 go_cut [27] (fun s27 wc=>∃ v7:Int,s27= .int .i64 v7∧BL w wc rb (p+650) [(ab,12,(fun j=>[id,k,g,h,x,y,dx,dy,m,bo,ru,0].getD j 0)),(w.heap.size,12,(fun _=>0))])
 case first=>
  go_wp2_with (go_at_call 34;refine(pick_s rb (p+600) _ _ (by exact hD.rs) (by omega) (by omega) (by omega)).mono ?_;rintro e w7 ⟨v7,rfl,va7,vb7,hr7⟩)
  go_meet
  exact⟨_,rfl,(hD.call hr7).mono (by omega)⟩
 case rest=>
 clear hD
 obtain⟨v7,rfl,hD⟩:=hcut
 rename_i hKK
 refine hKK _ _ ?_
 go_cut [] (fun wc=>∃ ex ey q:Int,(((-64000≤ex∧ex≤64000)∧ -64000≤ey∧ey≤64000)∧(m=0→ex=0∧ey=0)∧(0≤q∧q≤8)∧(q=8→ex=0∧ey=0))∧BL w wc rb (p+700) [(ab,12,(fun j=>[id,k,g,h,x,y,ex,ey,m,bo,ru,q].getD j 0)),(w.heap.size,12,(fun _=>0))])
 case first=>
  have gA:=hD.get (x:=(ab,12,(fun j=>[id,k,g,h,x,y,dx,dy,m,bo,ru,0].getD j 0))) (by simp)
  have c0:wc.cell? ⟨ab,0,none⟩=some (.int .i64 id):=gA.2.2.1 0 (show 0<12 by decide)
  have c1:wc.cell? ⟨ab,1,none⟩=some (.int .i64 k):=gA.2.2.1 1 (show 1<12 by decide)
  have c2:wc.cell? ⟨ab,2,none⟩=some (.int .i64 g):=gA.2.2.1 2 (show 2<12 by decide)
  have c3:wc.cell? ⟨ab,3,none⟩=some (.int .i64 h):=gA.2.2.1 3 (show 3<12 by decide)
  have c4:wc.cell? ⟨ab,4,none⟩=some (.int .i64 x):=gA.2.2.1 4 (show 4<12 by decide)
  have c5:wc.cell? ⟨ab,5,none⟩=some (.int .i64 y):=gA.2.2.1 5 (show 5<12 by decide)
  have c6:wc.cell? ⟨ab,6,none⟩=some (.int .i64 dx):=gA.2.2.1 6 (show 6<12 by decide)
  have c7:wc.cell? ⟨ab,7,none⟩=some (.int .i64 dy):=gA.2.2.1 7 (show 7<12 by decide)
  have c8:wc.cell? ⟨ab,8,none⟩=some (.int .i64 m):=gA.2.2.1 8 (show 8<12 by decide)
  have c9:wc.cell? ⟨ab,9,none⟩=some (.int .i64 bo):=gA.2.2.1 9 (show 9<12 by decide)
  have c10:wc.cell? ⟨ab,10,none⟩=some (.int .i64 ru):=gA.2.2.1 10 (show 10<12 by decide)
  have c11:wc.cell? ⟨ab,11,none⟩=some (.int .i64 0):=gA.2.2.1 11 (show 11<12 by decide)
  have cf:=fun j (hj:j<12)=>gA.2.2.2 j hj
  have cf0:wc.frozen? ⟨ab,0,none⟩=false:=cf 0 (by decide)
  have cf1:wc.frozen? ⟨ab,1,none⟩=false:=cf 1 (by decide)
  have cf2:wc.frozen? ⟨ab,2,none⟩=false:=cf 2 (by decide)
  have cf3:wc.frozen? ⟨ab,3,none⟩=false:=cf 3 (by decide)
  have cf4:wc.frozen? ⟨ab,4,none⟩=false:=cf 4 (by decide)
  have cf5:wc.frozen? ⟨ab,5,none⟩=false:=cf 5 (by decide)
  have cf6:wc.frozen? ⟨ab,6,none⟩=false:=cf 6 (by decide)
  have cf7:wc.frozen? ⟨ab,7,none⟩=false:=cf 7 (by decide)
  have cf8:wc.frozen? ⟨ab,8,none⟩=false:=cf 8 (by decide)
  have cf9:wc.frozen? ⟨ab,9,none⟩=false:=cf 9 (by decide)
  have cf10:wc.frozen? ⟨ab,10,none⟩=false:=cf 10 (by decide)
  have cf11:wc.frozen? ⟨ab,11,none⟩=false:=cf 11 (by decide)
  by_cases e0:v7=0
  · have e1:(v7==0)=true:=by simp[e0]
    clear e0
    go_wp2_with (go_at_call 34;refine(pick_s rb (p+650) _ _ (by exact hD.rs) (by omega) (by omega) (by omega)).mono ?_;rintro e w8 ⟨v8,rfl,va8,vb8,hr8⟩;have hD6:=(hD.call hr8).mono (p1:=p+700) (by omega);clear c0 cf0 c1 cf1 c2 cf2 c3 cf3 c4 cf4 c5 cf5 c6 cf6 c7 cf7 c8 cf8 c9 cf9 c10 cf10 c11 cf11 cf;clear hD;have hD:=hD6;clear hD6;have c0:w8.cell? ⟨ab,0,none⟩=some (.int .i64 id):=(hD.get (x:=(ab,12,(fun j=>[id,k,g,h,x,y,dx,dy,m,bo,ru,0].getD j 0))) (by simp)).2.2.1 0 (show 0<12 by decide);have c1:w8.cell? ⟨ab,1,none⟩=some (.int .i64 k):=(hD.get (x:=(ab,12,(fun j=>[id,k,g,h,x,y,dx,dy,m,bo,ru,0].getD j 0))) (by simp)).2.2.1 1 (show 1<12 by decide);have c2:w8.cell? ⟨ab,2,none⟩=some (.int .i64 g):=(hD.get (x:=(ab,12,(fun j=>[id,k,g,h,x,y,dx,dy,m,bo,ru,0].getD j 0))) (by simp)).2.2.1 2 (show 2<12 by decide);have c3:w8.cell? ⟨ab,3,none⟩=some (.int .i64 h):=(hD.get (x:=(ab,12,(fun j=>[id,k,g,h,x,y,dx,dy,m,bo,ru,0].getD j 0))) (by simp)).2.2.1 3 (show 3<12 by decide);have c4:w8.cell? ⟨ab,4,none⟩=some (.int .i64 x):=(hD.get (x:=(ab,12,(fun j=>[id,k,g,h,x,y,dx,dy,m,bo,ru,0].getD j 0))) (by simp)).2.2.1 4 (show 4<12 by decide);have c5:w8.cell? ⟨ab,5,none⟩=some (.int .i64 y):=(hD.get (x:=(ab,12,(fun j=>[id,k,g,h,x,y,dx,dy,m,bo,ru,0].getD j 0))) (by simp)).2.2.1 5 (show 5<12 by decide);have c6:w8.cell? ⟨ab,6,none⟩=some (.int .i64 dx):=(hD.get (x:=(ab,12,(fun j=>[id,k,g,h,x,y,dx,dy,m,bo,ru,0].getD j 0))) (by simp)).2.2.1 6 (show 6<12 by decide);have c7:w8.cell? ⟨ab,7,none⟩=some (.int .i64 dy):=(hD.get (x:=(ab,12,(fun j=>[id,k,g,h,x,y,dx,dy,m,bo,ru,0].getD j 0))) (by simp)).2.2.1 7 (show 7<12 by decide);have c8:w8.cell? ⟨ab,8,none⟩=some (.int .i64 m):=(hD.get (x:=(ab,12,(fun j=>[id,k,g,h,x,y,dx,dy,m,bo,ru,0].getD j 0))) (by simp)).2.2.1 8 (show 8<12 by decide);have c9:w8.cell? ⟨ab,9,none⟩=some (.int .i64 bo):=(hD.get (x:=(ab,12,(fun j=>[id,k,g,h,x,y,dx,dy,m,bo,ru,0].getD j 0))) (by simp)).2.2.1 9 (show 9<12 by decide);have c10:w8.cell? ⟨ab,10,none⟩=some (.int .i64 ru):=(hD.get (x:=(ab,12,(fun j=>[id,k,g,h,x,y,dx,dy,m,bo,ru,0].getD j 0))) (by simp)).2.2.1 10 (show 10<12 by decide);have c11:w8.cell? ⟨ab,11,none⟩=some (.int .i64 0):=(hD.get (x:=(ab,12,(fun j=>[id,k,g,h,x,y,dx,dy,m,bo,ru,0].getD j 0))) (by simp)).2.2.1 11 (show 11<12 by decide);have cf:=fun j (hj:j<12)=>(hD.get (x:=(ab,12,(fun j=>[id,k,g,h,x,y,dx,dy,m,bo,ru,0].getD j 0))) (by simp)).2.2.2 j hj;have cf0:w8.frozen? ⟨ab,0,none⟩=false:=cf 0 (by decide);have cf1:w8.frozen? ⟨ab,1,none⟩=false:=cf 1 (by decide);have cf2:w8.frozen? ⟨ab,2,none⟩=false:=cf 2 (by decide);have cf3:w8.frozen? ⟨ab,3,none⟩=false:=cf 3 (by decide);have cf4:w8.frozen? ⟨ab,4,none⟩=false:=cf 4 (by decide);have cf5:w8.frozen? ⟨ab,5,none⟩=false:=cf 5 (by decide);have cf6:w8.frozen? ⟨ab,6,none⟩=false:=cf 6 (by decide);have cf7:w8.frozen? ⟨ab,7,none⟩=false:=cf 7 (by decide);have cf8:w8.frozen? ⟨ab,8,none⟩=false:=cf 8 (by decide);have cf9:w8.frozen? ⟨ab,9,none⟩=false:=cf 9 (by decide);have cf10:w8.frozen? ⟨ab,10,none⟩=false:=cf 10 (by decide);have cf11:w8.frozen? ⟨ab,11,none⟩=false:=cf 11 (by decide))
    go_meet
    exact⟨dx,dy,v8,⟨hd,hz,by omega,fun e=>by omega⟩,(hD.set hns 11 (by decide) v8).headc (fun i hi=>by rcases(show i=0∨i=1∨i=2∨i=3∨i=4∨i=5∨i=6∨i=7∨i=8∨i=9∨i=10∨i=11 by omega) with rfl|rfl|rfl|rfl|rfl|rfl|rfl|rfl|rfl|rfl|rfl|rfl<;>rfl)⟩
  · have e1:(v7==0)=false:=by simp[e0]
    by_cases e2:v7=1
    · have e3:(v7==1)=true:=by simp[e2]
      clear e0 e2
      go_wp2_with fail
      go_meet
      exact⟨0,0,8,⟨by omega,fun _=>⟨rfl,rfl⟩,by omega,fun _=>⟨rfl,rfl⟩⟩,((((hD.set hns 11 (by decide) 8).set hns 6 (by decide) 0).set hns 7 (by decide) 0).headc (fun i hi=>by rcases(show i=0∨i=1∨i=2∨i=3∨i=4∨i=5∨i=6∨i=7∨i=8∨i=9∨i=10∨i=11 by omega) with rfl|rfl|rfl|rfl|rfl|rfl|rfl|rfl|rfl|rfl|rfl|rfl<;>rfl)).mono (by omega)⟩
    · have e3:(v7==1)=false:=by simp[e2]
      clear e0 e2
      go_wp2_with fail
      go_meet
      exact⟨dx,dy,0,⟨hd,hz,by omega,fun e=>by omega⟩,hD.mono (by omega)⟩
 case rest=>
 clear hD hd hz
 obtain⟨ex,ey,q,⟨hd,hz,hq,hz2⟩,hD⟩:=hcut
 have gA:=hD.get (x:=(ab,12,(fun j=>[id,k,g,h,x,y,ex,ey,m,bo,ru,q].getD j 0))) (by simp)
 have c0:wc.cell? ⟨ab,0,none⟩=some (.int .i64 id):=gA.2.2.1 0 (show 0<12 by decide)
 have c1:wc.cell? ⟨ab,1,none⟩=some (.int .i64 k):=gA.2.2.1 1 (show 1<12 by decide)
 have c2:wc.cell? ⟨ab,2,none⟩=some (.int .i64 g):=gA.2.2.1 2 (show 2<12 by decide)
 have c3:wc.cell? ⟨ab,3,none⟩=some (.int .i64 h):=gA.2.2.1 3 (show 3<12 by decide)
 have c4:wc.cell? ⟨ab,4,none⟩=some (.int .i64 x):=gA.2.2.1 4 (show 4<12 by decide)
 have c5:wc.cell? ⟨ab,5,none⟩=some (.int .i64 y):=gA.2.2.1 5 (show 5<12 by decide)
 have c6:wc.cell? ⟨ab,6,none⟩=some (.int .i64 ex):=gA.2.2.1 6 (show 6<12 by decide)
 have c7:wc.cell? ⟨ab,7,none⟩=some (.int .i64 ey):=gA.2.2.1 7 (show 7<12 by decide)
 have c8:wc.cell? ⟨ab,8,none⟩=some (.int .i64 m):=gA.2.2.1 8 (show 8<12 by decide)
 have c9:wc.cell? ⟨ab,9,none⟩=some (.int .i64 bo):=gA.2.2.1 9 (show 9<12 by decide)
 have c10:wc.cell? ⟨ab,10,none⟩=some (.int .i64 ru):=gA.2.2.1 10 (show 10<12 by decide)
 have c11:wc.cell? ⟨ab,11,none⟩=some (.int .i64 q):=gA.2.2.1 11 (show 11<12 by decide)
 have cf:=fun j (hj:j<12)=>gA.2.2.2 j hj
 have cf0:wc.frozen? ⟨ab,0,none⟩=false:=cf 0 (by decide)
 have cf1:wc.frozen? ⟨ab,1,none⟩=false:=cf 1 (by decide)
 have cf2:wc.frozen? ⟨ab,2,none⟩=false:=cf 2 (by decide)
 have cf3:wc.frozen? ⟨ab,3,none⟩=false:=cf 3 (by decide)
 have cf4:wc.frozen? ⟨ab,4,none⟩=false:=cf 4 (by decide)
 have cf5:wc.frozen? ⟨ab,5,none⟩=false:=cf 5 (by decide)
 have cf6:wc.frozen? ⟨ab,6,none⟩=false:=cf 6 (by decide)
 have cf7:wc.frozen? ⟨ab,7,none⟩=false:=cf 7 (by decide)
 have cf8:wc.frozen? ⟨ab,8,none⟩=false:=cf 8 (by decide)
 have cf9:wc.frozen? ⟨ab,9,none⟩=false:=cf 9 (by decide)
 have cf10:wc.frozen? ⟨ab,10,none⟩=false:=cf 10 (by decide)
 have cf11:wc.frozen? ⟨ab,11,none⟩=false:=cf 11 (by decide)
 have hR:=(hD.get (x:=(w.heap.size,12,(fun _=>0))) (by simp))
 have r0:wc.cell? ⟨w.heap.size,0,none⟩=some (.int .i64 0):=hR.2.2.1 0 (show 0<12 by decide)
 have rf0:=hR.2.2.2 0 (show 0<12 by decide)
 have r1:wc.cell? ⟨w.heap.size,1,none⟩=some (.int .i64 0):=hR.2.2.1 1 (show 1<12 by decide)
 have rf1:=hR.2.2.2 1 (show 1<12 by decide)
 have r2:wc.cell? ⟨w.heap.size,2,none⟩=some (.int .i64 0):=hR.2.2.1 2 (show 2<12 by decide)
 have rf2:=hR.2.2.2 2 (show 2<12 by decide)
 have r3:wc.cell? ⟨w.heap.size,3,none⟩=some (.int .i64 0):=hR.2.2.1 3 (show 3<12 by decide)
 have rf3:=hR.2.2.2 3 (show 3<12 by decide)
 have r4:wc.cell? ⟨w.heap.size,4,none⟩=some (.int .i64 0):=hR.2.2.1 4 (show 4<12 by decide)
 have rf4:=hR.2.2.2 4 (show 4<12 by decide)
 have r5:wc.cell? ⟨w.heap.size,5,none⟩=some (.int .i64 0):=hR.2.2.1 5 (show 5<12 by decide)
 have rf5:=hR.2.2.2 5 (show 5<12 by decide)
 have r6:wc.cell? ⟨w.heap.size,6,none⟩=some (.int .i64 0):=hR.2.2.1 6 (show 6<12 by decide)
 have rf6:=hR.2.2.2 6 (show 6<12 by decide)
 have r7:wc.cell? ⟨w.heap.size,7,none⟩=some (.int .i64 0):=hR.2.2.1 7 (show 7<12 by decide)
 have rf7:=hR.2.2.2 7 (show 7<12 by decide)
 have r8:wc.cell? ⟨w.heap.size,8,none⟩=some (.int .i64 0):=hR.2.2.1 8 (show 8<12 by decide)
 have rf8:=hR.2.2.2 8 (show 8<12 by decide)
 have r9:wc.cell? ⟨w.heap.size,9,none⟩=some (.int .i64 0):=hR.2.2.1 9 (show 9<12 by decide)
 have rf9:=hR.2.2.2 9 (show 9<12 by decide)
 have r10:wc.cell? ⟨w.heap.size,10,none⟩=some (.int .i64 0):=hR.2.2.1 10 (show 10<12 by decide)
 have rf10:=hR.2.2.2 10 (show 10<12 by decide)
 have r11:wc.cell? ⟨w.heap.size,11,none⟩=some (.int .i64 0):=hR.2.2.1 11 (show 11<12 by decide)
 have rf11:=hR.2.2.2 11 (show 11<12 by decide)
 have hab1:¬ ab=w.heap.size:=by omega
 have hab2:¬ w.heap.size=ab:=by omega
 by_cases m0:m=0
 · have e1:(m==0)=true:=by simp[m0]
   have M0:Shut (m=0):=m0
   clear m0
   have hD2:=(hD.set hns 11 (by decide) 0).headc (U:=(fun j=>[id,k,g,h,x,y,ex,ey,m,bo,ru,0].getD j 0)) (fun i hi=>by rcases(show i=0∨i=1∨i=2∨i=3∨i=4∨i=5∨i=6∨i=7∨i=8∨i=9∨i=10∨i=11 by omega) with rfl|rfl|rfl|rfl|rfl|rfl|rfl|rfl|rfl|rfl|rfl|rfl<;>rfl)
   go_upto_region 11 with fail
   clear c0 cf0 c1 cf1 c2 cf2 c3 cf3 c4 cf4 c5 cf5 c6 cf6 c7 cf7 c8 cf8 c9 cf9 c10 cf10 c11 cf11 cf
   clear hR r0 rf0 r1 rf1 r2 rf2 r3 rf3 r4 rf4 r5 rf5 r6 rf6 r7 rf7 r8 rf8 r9 rf9 r10 rf10 r11 rf11 hD
   generalize (wc.setCell ⟨ab,11,none⟩ (.int .i64 0))=wy at hD2 ⊢
   have hD:=hD2
   clear hD2
   have gA:=hD.get (x:=(ab,12,(fun j=>[id,k,g,h,x,y,ex,ey,m,bo,ru,0].getD j 0))) (by simp)
   have c0:wy.cell? ⟨ab,0,none⟩=some (.int .i64 id):=gA.2.2.1 0 (show 0<12 by decide)
   have c1:wy.cell? ⟨ab,1,none⟩=some (.int .i64 k):=gA.2.2.1 1 (show 1<12 by decide)
   have c2:wy.cell? ⟨ab,2,none⟩=some (.int .i64 g):=gA.2.2.1 2 (show 2<12 by decide)
   have c3:wy.cell? ⟨ab,3,none⟩=some (.int .i64 h):=gA.2.2.1 3 (show 3<12 by decide)
   have c4:wy.cell? ⟨ab,4,none⟩=some (.int .i64 x):=gA.2.2.1 4 (show 4<12 by decide)
   have c5:wy.cell? ⟨ab,5,none⟩=some (.int .i64 y):=gA.2.2.1 5 (show 5<12 by decide)
   have c6:wy.cell? ⟨ab,6,none⟩=some (.int .i64 ex):=gA.2.2.1 6 (show 6<12 by decide)
   have c7:wy.cell? ⟨ab,7,none⟩=some (.int .i64 ey):=gA.2.2.1 7 (show 7<12 by decide)
   have c8:wy.cell? ⟨ab,8,none⟩=some (.int .i64 m):=gA.2.2.1 8 (show 8<12 by decide)
   have c9:wy.cell? ⟨ab,9,none⟩=some (.int .i64 bo):=gA.2.2.1 9 (show 9<12 by decide)
   have c10:wy.cell? ⟨ab,10,none⟩=some (.int .i64 ru):=gA.2.2.1 10 (show 10<12 by decide)
   have c11:wy.cell? ⟨ab,11,none⟩=some (.int .i64 0):=gA.2.2.1 11 (show 11<12 by decide)
   have cf:=fun j (hj:j<12)=>gA.2.2.2 j hj
   have cf0:wy.frozen? ⟨ab,0,none⟩=false:=cf 0 (by decide)
   have cf1:wy.frozen? ⟨ab,1,none⟩=false:=cf 1 (by decide)
   have cf2:wy.frozen? ⟨ab,2,none⟩=false:=cf 2 (by decide)
   have cf3:wy.frozen? ⟨ab,3,none⟩=false:=cf 3 (by decide)
   have cf4:wy.frozen? ⟨ab,4,none⟩=false:=cf 4 (by decide)
   have cf5:wy.frozen? ⟨ab,5,none⟩=false:=cf 5 (by decide)
   have cf6:wy.frozen? ⟨ab,6,none⟩=false:=cf 6 (by decide)
   have cf7:wy.frozen? ⟨ab,7,none⟩=false:=cf 7 (by decide)
   have cf8:wy.frozen? ⟨ab,8,none⟩=false:=cf 8 (by decide)
   have cf9:wy.frozen? ⟨ab,9,none⟩=false:=cf 9 (by decide)
   have cf10:wy.frozen? ⟨ab,10,none⟩=false:=cf 10 (by decide)
   have cf11:wy.frozen? ⟨ab,11,none⟩=false:=cf 11 (by decide)
   have hR:=(hD.get (x:=(w.heap.size,12,(fun _=>0))) (by simp))
   have r0:wy.cell? ⟨w.heap.size,0,none⟩=some (.int .i64 0):=hR.2.2.1 0 (show 0<12 by decide)
   have rf0:=hR.2.2.2 0 (show 0<12 by decide)
   have r1:wy.cell? ⟨w.heap.size,1,none⟩=some (.int .i64 0):=hR.2.2.1 1 (show 1<12 by decide)
   have rf1:=hR.2.2.2 1 (show 1<12 by decide)
   have r2:wy.cell? ⟨w.heap.size,2,none⟩=some (.int .i64 0):=hR.2.2.1 2 (show 2<12 by decide)
   have rf2:=hR.2.2.2 2 (show 2<12 by decide)
   have r3:wy.cell? ⟨w.heap.size,3,none⟩=some (.int .i64 0):=hR.2.2.1 3 (show 3<12 by decide)
   have rf3:=hR.2.2.2 3 (show 3<12 by decide)
   have r4:wy.cell? ⟨w.heap.size,4,none⟩=some (.int .i64 0):=hR.2.2.1 4 (show 4<12 by decide)
   have rf4:=hR.2.2.2 4 (show 4<12 by decide)
   have r5:wy.cell? ⟨w.heap.size,5,none⟩=some (.int .i64 0):=hR.2.2.1 5 (show 5<12 by decide)
   have rf5:=hR.2.2.2 5 (show 5<12 by decide)
   have r6:wy.cell? ⟨w.heap.size,6,none⟩=some (.int .i64 0):=hR.2.2.1 6 (show 6<12 by decide)
   have rf6:=hR.2.2.2 6 (show 6<12 by decide)
   have r7:wy.cell? ⟨w.heap.size,7,none⟩=some (.int .i64 0):=hR.2.2.1 7 (show 7<12 by decide)
   have rf7:=hR.2.2.2 7 (show 7<12 by decide)
   have r8:wy.cell? ⟨w.heap.size,8,none⟩=some (.int .i64 0):=hR.2.2.1 8 (show 8<12 by decide)
   have rf8:=hR.2.2.2 8 (show 8<12 by decide)
   have r9:wy.cell? ⟨w.heap.size,9,none⟩=some (.int .i64 0):=hR.2.2.1 9 (show 9<12 by decide)
   have rf9:=hR.2.2.2 9 (show 9<12 by decide)
   have r10:wy.cell? ⟨w.heap.size,10,none⟩=some (.int .i64 0):=hR.2.2.1 10 (show 10<12 by decide)
   have rf10:=hR.2.2.2 10 (show 10<12 by decide)
   have r11:wy.cell? ⟨w.heap.size,11,none⟩=some (.int .i64 0):=hR.2.2.1 11 (show 11<12 by decide)
   have rf11:=hR.2.2.2 11 (show 11<12 by decide)
   go_wp2_with fail
   exact bodyPost_ret (v:=bodyW (fun j=>[id,k,g,h,x,y,ex,ey,m,bo,ru,0].getD j 0)) (by simp[results,Tryz.results67,go_sem, *]) rfl ⟨_,rfl,⟨bod_mk hid hsh hpl hd hm hbo hru (by omega) (fun e=>⟨(hz e).1,(hz e).2,rfl⟩) (fun e=>by omega),rfl,hm.2⟩,bl12 ((hD.sub (M:=[(w.heap.size,12,(fun _=>0))]) (by simp)).mono (p1:=p+1000) (by omega))⟩
 · have e1:(m==0)=false:=by simp[m0]
   go_wp2_with fail
   exact bodyPost_ret (v:=bodyW (fun j=>[id,k,g,h,x,y,ex,ey,m,bo,ru,q].getD j 0)) (by simp[results,Tryz.results67,go_sem, *]) rfl ⟨_,rfl,⟨bod_mk hid hsh hpl hd hm hbo hru hq (fun e=>absurd e m0) hz2,rfl,hm.2⟩,bl12 ((hD.sub (M:=[(w.heap.size,12,(fun _=>0))]) (by simp)).mono (p1:=p+1000) (by omega))⟩
end Go.Proofs.YthajilkjfkppoaaGreatDoor
