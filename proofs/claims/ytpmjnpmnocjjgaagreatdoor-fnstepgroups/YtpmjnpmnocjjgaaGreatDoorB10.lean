/- Texts of a proof. -/
import Derived.Test.YtpmjnpmnocjjgaaGreatDoorB5
import Derived.Test.YtpmjnpmnocjjgaaGreatDoorB9
import Derived.Deep.RegionHeld3
import Derived.Deep.DeepCutAuto
import Derived.Test.YtpmjnpmnocjjgaaGreatDoorRfG
import Derived.RangeFuncBound
set_option maxHeartbeats 16000000
set_option maxRecDepth 20000
namespace Go.Proofs.YtpmjnpmnocjjgaaGreatDoor
open Go.RowKit
set_option linter.unusedVariables false
set_option linter.unusedSimpArgs false
abbrev bodyW (V:Nat→Int):Value:= .agg #[.int .i64 (V 0),.int .i64 (V 1),.int .i64 (V 2),.int .i64 (V 3),.int .i64 (V 4),.int .i64 (V 5),.int .i64 (V 6),.int .i64 (V 7),.int .i64 (V 8),.int .i64 (V 9),.int .i64 (V 10),.int .i64 (V 11)]
theorem l1In_q (n l h:Int) (b:Bool) (w:World) (e:decide (l≤n∧n≤h)=b):
 Calls Tryz.prog 16 #[.int .i64 n,.int .i64 l,.int .i64 h] w fun e w'=>e= .returned (.bool b)∧Below w.heap.size w w':=by
 subst e;exact(l1In_any n l h w).mono fun e w' ⟨a,b⟩=>⟨a,b▸Below.refl _ _⟩
theorem sShapeOk_q (k wd h:Int) (b:Bool) (w:World) (e:shB k wd h=b):
 Calls Tryz.prog 58 #[s3 k wd h] w fun e w'=>e= .returned (.bool b)∧Below w.heap.size w w':=by
 subst e;exact sShapeOk_any k wd h w
theorem l3Place_q (x y:Int) (b:Bool) (w:World) (e:inB 2560000 x y=b):
 Calls Tryz.prog 59 #[vv x y] w fun e w'=>e= .returned (.bool b)∧Below w.heap.size w w':=by
 subst e;exact l3Place_any x y w
theorem l6Drive_any (x y:Int) (w:World):
 Calls Tryz.prog 60 #[vv x y] w fun e w'=>e= .returned (.bool (inB 20000000 x y))∧Below w.heap.size w w':=by
 have hset:=cset_map
 go_enter Tryz.func60,Tryz.ntmps60
 go_wp2_with (go_at_call 16;refine(l1In_any _ _ _ _).mono ?_;rintro e w' ⟨rfl,rfl⟩)
 all_goals
  go_ret
  refine⟨ret_bool ?_,bel_a⟩
  unfold inB
  first|(simp[*];done)|(simp at*;omega)|(simp[*];omega)
theorem l6Drive_q (x y:Int) (b:Bool) (w:World) (e:inB 20000000 x y=b):
 Calls Tryz.prog 60 #[vv x y] w fun e w'=>e= .returned (.bool b)∧Below w.heap.size w w':=by
 subst e;exact l6Drive_any x y w
theorem sBodyOk_0 (V:Nat→Int) (w:World) (k0:decide (0≤V 0∧V 0≤999999999)=false):
 Calls Tryz.prog 28 #[bodyW V] w fun e w'=>e= .returned (.bool false)∧Below w.heap.size w w':=by
 have hset:=cset_map
 go_enter Tryz.func28,Tryz.ntmps28
 go_wp2_with (first
  |(go_at_call 16;refine(l1In_q _ _ _ _ _ (by with_reducible assumption)).mono ?_;rintro e w1 ⟨rfl,hb1⟩;have hz1:=hb1.size;(try simp only[zz] at hz1);have:=kfa hb1 w.heap.size)
  |(go_at_call 58;refine(sShapeOk_q _ _ _ _ _ (by with_reducible assumption)).mono ?_;rintro e w2 ⟨rfl,hb2⟩;have hz2:=hb2.size;(try simp only[zz] at hz2);have:=kfa hb2 w.heap.size)
  |(go_at_call 59;refine(l3Place_q _ _ _ _ (by with_reducible assumption)).mono ?_;rintro e w3 ⟨rfl,hb3⟩;have hz3:=hb3.size;(try simp only[zz] at hz3);have:=kfa hb3 w.heap.size)
  |(go_at_call 60;refine(l6Drive_q _ _ _ _ (by with_reducible assumption)).mono ?_;rintro e w4 ⟨rfl,hb4⟩;have hz4:=hb4.size;(try simp only[zz] at hz4);have:=kfa hb4 w.heap.size))
 go_ret
 exact⟨rfl,bel_a⟩
theorem sBodyOk_1 (V:Nat→Int) (w:World) (k0:decide (0≤V 0∧V 0≤999999999)=true) (k1:shB (V 1) (V 2) (V 3)=false):
 Calls Tryz.prog 28 #[bodyW V] w fun e w'=>e= .returned (.bool false)∧Below w.heap.size w w':=by
 have hset:=cset_map
 go_enter Tryz.func28,Tryz.ntmps28
 go_wp2_with (first
  |(go_at_call 16;refine(l1In_q _ _ _ _ _ (by with_reducible assumption)).mono ?_;rintro e w1 ⟨rfl,hb1⟩;have hz1:=hb1.size;(try simp only[zz] at hz1);have:=kfa hb1 w.heap.size)
  |(go_at_call 58;refine(sShapeOk_q _ _ _ _ _ (by with_reducible assumption)).mono ?_;rintro e w2 ⟨rfl,hb2⟩;have hz2:=hb2.size;(try simp only[zz] at hz2);have:=kfa hb2 w.heap.size)
  |(go_at_call 59;refine(l3Place_q _ _ _ _ (by with_reducible assumption)).mono ?_;rintro e w3 ⟨rfl,hb3⟩;have hz3:=hb3.size;(try simp only[zz] at hz3);have:=kfa hb3 w.heap.size)
  |(go_at_call 60;refine(l6Drive_q _ _ _ _ (by with_reducible assumption)).mono ?_;rintro e w4 ⟨rfl,hb4⟩;have hz4:=hb4.size;(try simp only[zz] at hz4);have:=kfa hb4 w.heap.size))
 go_ret
 exact⟨rfl,bel_a⟩
theorem sBodyOk_2 (V:Nat→Int) (w:World) (k0:decide (0≤V 0∧V 0≤999999999)=true) (k1:shB (V 1) (V 2) (V 3)=true) (k2:inB 2560000 (V 4) (V 5)=false):
 Calls Tryz.prog 28 #[bodyW V] w fun e w'=>e= .returned (.bool false)∧Below w.heap.size w w':=by
 have hset:=cset_map
 go_enter Tryz.func28,Tryz.ntmps28
 go_wp2_with (first
  |(go_at_call 16;refine(l1In_q _ _ _ _ _ (by with_reducible assumption)).mono ?_;rintro e w1 ⟨rfl,hb1⟩;have hz1:=hb1.size;(try simp only[zz] at hz1);have:=kfa hb1 w.heap.size)
  |(go_at_call 58;refine(sShapeOk_q _ _ _ _ _ (by with_reducible assumption)).mono ?_;rintro e w2 ⟨rfl,hb2⟩;have hz2:=hb2.size;(try simp only[zz] at hz2);have:=kfa hb2 w.heap.size)
  |(go_at_call 59;refine(l3Place_q _ _ _ _ (by with_reducible assumption)).mono ?_;rintro e w3 ⟨rfl,hb3⟩;have hz3:=hb3.size;(try simp only[zz] at hz3);have:=kfa hb3 w.heap.size)
  |(go_at_call 60;refine(l6Drive_q _ _ _ _ (by with_reducible assumption)).mono ?_;rintro e w4 ⟨rfl,hb4⟩;have hz4:=hb4.size;(try simp only[zz] at hz4);have:=kfa hb4 w.heap.size))
 go_ret
 exact⟨rfl,bel_a⟩
theorem sBodyOk_3 (V:Nat→Int) (w:World) (k0:decide (0≤V 0∧V 0≤999999999)=true) (k1:shB (V 1) (V 2) (V 3)=true) (k2:inB 2560000 (V 4) (V 5)=true) (k3:inB 20000000 (V 6) (V 7)=false):
 Calls Tryz.prog 28 #[bodyW V] w fun e w'=>e= .returned (.bool false)∧Below w.heap.size w w':=by
 have hset:=cset_map
 go_enter Tryz.func28,Tryz.ntmps28
 go_wp2_with (first
  |(go_at_call 16;refine(l1In_q _ _ _ _ _ (by with_reducible assumption)).mono ?_;rintro e w1 ⟨rfl,hb1⟩;have hz1:=hb1.size;(try simp only[zz] at hz1);have:=kfa hb1 w.heap.size)
  |(go_at_call 58;refine(sShapeOk_q _ _ _ _ _ (by with_reducible assumption)).mono ?_;rintro e w2 ⟨rfl,hb2⟩;have hz2:=hb2.size;(try simp only[zz] at hz2);have:=kfa hb2 w.heap.size)
  |(go_at_call 59;refine(l3Place_q _ _ _ _ (by with_reducible assumption)).mono ?_;rintro e w3 ⟨rfl,hb3⟩;have hz3:=hb3.size;(try simp only[zz] at hz3);have:=kfa hb3 w.heap.size)
  |(go_at_call 60;refine(l6Drive_q _ _ _ _ (by with_reducible assumption)).mono ?_;rintro e w4 ⟨rfl,hb4⟩;have hz4:=hb4.size;(try simp only[zz] at hz4);have:=kfa hb4 w.heap.size))
 go_ret
 exact⟨rfl,bel_a⟩
theorem sBodyOk_4 (V:Nat→Int) (w:World) (k0:decide (0≤V 0∧V 0≤999999999)=true) (k1:shB (V 1) (V 2) (V 3)=true) (k2:inB 2560000 (V 4) (V 5)=true) (k3:inB 20000000 (V 6) (V 7)=true) (k4:decide (0≤V 8∧V 8≤1000)=false):
 Calls Tryz.prog 28 #[bodyW V] w fun e w'=>e= .returned (.bool false)∧Below w.heap.size w w':=by
 have hset:=cset_map
 go_enter Tryz.func28,Tryz.ntmps28
 go_wp2_with (first
  |(go_at_call 16;refine(l1In_q _ _ _ _ _ (by with_reducible assumption)).mono ?_;rintro e w1 ⟨rfl,hb1⟩;have hz1:=hb1.size;(try simp only[zz] at hz1);have:=kfa hb1 w.heap.size)
  |(go_at_call 58;refine(sShapeOk_q _ _ _ _ _ (by with_reducible assumption)).mono ?_;rintro e w2 ⟨rfl,hb2⟩;have hz2:=hb2.size;(try simp only[zz] at hz2);have:=kfa hb2 w.heap.size)
  |(go_at_call 59;refine(l3Place_q _ _ _ _ (by with_reducible assumption)).mono ?_;rintro e w3 ⟨rfl,hb3⟩;have hz3:=hb3.size;(try simp only[zz] at hz3);have:=kfa hb3 w.heap.size)
  |(go_at_call 60;refine(l6Drive_q _ _ _ _ (by with_reducible assumption)).mono ?_;rintro e w4 ⟨rfl,hb4⟩;have hz4:=hb4.size;(try simp only[zz] at hz4);have:=kfa hb4 w.heap.size))
 go_ret
 exact⟨rfl,bel_a⟩
theorem sBodyOk_5 (V:Nat→Int) (w:World) (k0:decide (0≤V 0∧V 0≤999999999)=true) (k1:shB (V 1) (V 2) (V 3)=true) (k2:inB 2560000 (V 4) (V 5)=true) (k3:inB 20000000 (V 6) (V 7)=true) (k4:decide (0≤V 8∧V 8≤1000)=true) (k5:decide (0≤V 9∧V 9≤256)=false):
 Calls Tryz.prog 28 #[bodyW V] w fun e w'=>e= .returned (.bool false)∧Below w.heap.size w w':=by
 have hset:=cset_map
 go_enter Tryz.func28,Tryz.ntmps28
 go_wp2_with (first
  |(go_at_call 16;refine(l1In_q _ _ _ _ _ (by with_reducible assumption)).mono ?_;rintro e w1 ⟨rfl,hb1⟩;have hz1:=hb1.size;(try simp only[zz] at hz1);have:=kfa hb1 w.heap.size)
  |(go_at_call 58;refine(sShapeOk_q _ _ _ _ _ (by with_reducible assumption)).mono ?_;rintro e w2 ⟨rfl,hb2⟩;have hz2:=hb2.size;(try simp only[zz] at hz2);have:=kfa hb2 w.heap.size)
  |(go_at_call 59;refine(l3Place_q _ _ _ _ (by with_reducible assumption)).mono ?_;rintro e w3 ⟨rfl,hb3⟩;have hz3:=hb3.size;(try simp only[zz] at hz3);have:=kfa hb3 w.heap.size)
  |(go_at_call 60;refine(l6Drive_q _ _ _ _ (by with_reducible assumption)).mono ?_;rintro e w4 ⟨rfl,hb4⟩;have hz4:=hb4.size;(try simp only[zz] at hz4);have:=kfa hb4 w.heap.size))
 go_ret
 exact⟨rfl,bel_a⟩
theorem sBodyOk_6 (V:Nat→Int) (w:World) (k0:decide (0≤V 0∧V 0≤999999999)=true) (k1:shB (V 1) (V 2) (V 3)=true) (k2:inB 2560000 (V 4) (V 5)=true) (k3:inB 20000000 (V 6) (V 7)=true) (k4:decide (0≤V 8∧V 8≤1000)=true) (k5:decide (0≤V 9∧V 9≤256)=true) (k6:decide (0≤V 10∧V 10≤256)=false):
 Calls Tryz.prog 28 #[bodyW V] w fun e w'=>e= .returned (.bool false)∧Below w.heap.size w w':=by
 have hset:=cset_map
 go_enter Tryz.func28,Tryz.ntmps28
 go_wp2_with (first
  |(go_at_call 16;refine(l1In_q _ _ _ _ _ (by with_reducible assumption)).mono ?_;rintro e w1 ⟨rfl,hb1⟩;have hz1:=hb1.size;(try simp only[zz] at hz1);have:=kfa hb1 w.heap.size)
  |(go_at_call 58;refine(sShapeOk_q _ _ _ _ _ (by with_reducible assumption)).mono ?_;rintro e w2 ⟨rfl,hb2⟩;have hz2:=hb2.size;(try simp only[zz] at hz2);have:=kfa hb2 w.heap.size)
  |(go_at_call 59;refine(l3Place_q _ _ _ _ (by with_reducible assumption)).mono ?_;rintro e w3 ⟨rfl,hb3⟩;have hz3:=hb3.size;(try simp only[zz] at hz3);have:=kfa hb3 w.heap.size)
  |(go_at_call 60;refine(l6Drive_q _ _ _ _ (by with_reducible assumption)).mono ?_;rintro e w4 ⟨rfl,hb4⟩;have hz4:=hb4.size;(try simp only[zz] at hz4);have:=kfa hb4 w.heap.size))
 go_ret
 exact⟨rfl,bel_a⟩
theorem sBodyOk_7 (V:Nat→Int) (w:World) (k0:decide (0≤V 0∧V 0≤999999999)=true) (k1:shB (V 1) (V 2) (V 3)=true) (k2:inB 2560000 (V 4) (V 5)=true) (k3:inB 20000000 (V 6) (V 7)=true) (k4:decide (0≤V 8∧V 8≤1000)=true) (k5:decide (0≤V 9∧V 9≤256)=true) (k6:decide (0≤V 10∧V 10≤256)=true) (k7:decide (0≤V 11∧V 11≤8)=false):
 Calls Tryz.prog 28 #[bodyW V] w fun e w'=>e= .returned (.bool false)∧Below w.heap.size w w':=by
 have hset:=cset_map
 go_enter Tryz.func28,Tryz.ntmps28
 go_wp2_with (first
  |(go_at_call 16;refine(l1In_q _ _ _ _ _ (by with_reducible assumption)).mono ?_;rintro e w1 ⟨rfl,hb1⟩;have hz1:=hb1.size;(try simp only[zz] at hz1);have:=kfa hb1 w.heap.size)
  |(go_at_call 58;refine(sShapeOk_q _ _ _ _ _ (by with_reducible assumption)).mono ?_;rintro e w2 ⟨rfl,hb2⟩;have hz2:=hb2.size;(try simp only[zz] at hz2);have:=kfa hb2 w.heap.size)
  |(go_at_call 59;refine(l3Place_q _ _ _ _ (by with_reducible assumption)).mono ?_;rintro e w3 ⟨rfl,hb3⟩;have hz3:=hb3.size;(try simp only[zz] at hz3);have:=kfa hb3 w.heap.size)
  |(go_at_call 60;refine(l6Drive_q _ _ _ _ (by with_reducible assumption)).mono ?_;rintro e w4 ⟨rfl,hb4⟩;have hz4:=hb4.size;(try simp only[zz] at hz4);have:=kfa hb4 w.heap.size))
 go_ret
 exact⟨rfl,bel_a⟩
theorem sBodyOk_8 (V:Nat→Int) (w:World) (k0:decide (0≤V 0∧V 0≤999999999)=true) (k1:shB (V 1) (V 2) (V 3)=true) (k2:inB 2560000 (V 4) (V 5)=true) (k3:inB 20000000 (V 6) (V 7)=true) (k4:decide (0≤V 8∧V 8≤1000)=true) (k5:decide (0≤V 9∧V 9≤256)=true) (k6:decide (0≤V 10∧V 10≤256)=true) (k7:decide (0≤V 11∧V 11≤8)=true):
 Calls Tryz.prog 28 #[bodyW V] w fun e w'=>e= .returned (.bool (restB V))∧Below w.heap.size w w':=by
 have hset:=cset_map
 have k7':=k7
 simp only[decide_eq_true_eq] at k7'
 obtain⟨k70,k71⟩:=k7'
 unfold restB
 go_enter Tryz.func28,Tryz.ntmps28
 go_upto_region 3 with(first
  |(go_at_call 16;refine(l1In_q _ _ _ _ _ (by with_reducible assumption)).mono ?_;rintro e w1 ⟨rfl,hb1⟩;have hz1:=hb1.size;(try simp only[zz] at hz1);have:=kfa hb1 w.heap.size)
  |(go_at_call 58;refine(sShapeOk_q _ _ _ _ _ (by with_reducible assumption)).mono ?_;rintro e w2 ⟨rfl,hb2⟩;have hz2:=hb2.size;(try simp only[zz] at hz2);have:=kfa hb2 w.heap.size)
  |(go_at_call 59;refine(l3Place_q _ _ _ _ (by with_reducible assumption)).mono ?_;rintro e w3 ⟨rfl,hb3⟩;have hz3:=hb3.size;(try simp only[zz] at hz3);have:=kfa hb3 w.heap.size)
  |(go_at_call 60;refine(l6Drive_q _ _ _ _ (by with_reducible assumption)).mono ?_;rintro e w4 ⟨rfl,hb4⟩;have hz4:=hb4.size;(try simp only[zz] at hz4);have:=kfa hb4 w.heap.size))
 clear k0 k1 k2 k3 k4 k5 k6 k7
 by_cases f8:V 8=0<;>by_cases f11:V 11=0<;>by_cases f88:V 11<8<;>by_cases f6:V 6=0<;>by_cases f7:V 7=0
 all_goals(try(exfalso;omega))
 all_goals
  have f9:(V 11=8)=(¬ V 11<8):=propext (by omega)
  go_wp2_with fail
  all_goals
   go_ret
   exact⟨ret_bool (by simp[*]),bel_a⟩
theorem sBodyOk_q (V:Nat→Int) (b:Bool) (w:World) (e:bodyB V=b):
 Calls Tryz.prog 28 #[bodyW V] w fun e w'=>e= .returned (.bool b)∧Below w.heap.size w w':=by
 subst e
 unfold bodyB
 cases k0:decide (0≤V 0∧V 0≤999999999) with
 |false=>exact sBodyOk_0 V w k0
 | true=>
   cases k1:shB (V 1) (V 2) (V 3) with
   |false=>exact sBodyOk_1 V w k0 k1
   | true=>
     cases k2:inB 2560000 (V 4) (V 5) with
     |false=>exact sBodyOk_2 V w k0 k1 k2
     | true=>
       cases k3:inB 20000000 (V 6) (V 7) with
       |false=>exact sBodyOk_3 V w k0 k1 k2 k3
       | true=>
         cases k4:decide (0≤V 8∧V 8≤1000) with
         |false=>exact sBodyOk_4 V w k0 k1 k2 k3 k4
         | true=>
           cases k5:decide (0≤V 9∧V 9≤256) with
           |false=>exact sBodyOk_5 V w k0 k1 k2 k3 k4 k5
           | true=>
             cases k6:decide (0≤V 10∧V 10≤256) with
             |false=>exact sBodyOk_6 V w k0 k1 k2 k3 k4 k5 k6
             | true=>
               cases k7:decide (0≤V 11∧V 11≤8) with
               |false=>exact sBodyOk_7 V w k0 k1 k2 k3 k4 k5 k6 k7
               | true=>
                 simp only[Bool.true_and]
                 exact sBodyOk_8 V w k0 k1 k2 k3 k4 k5 k6 k7
theorem bodyB_bd {V:Nat→Int} (h:bodyB V=true):(0≤V 8∧V 8≤1000)∧(0≤V 11∧V 11≤8)∧(-2560000≤V 4∧V 4≤2560000)∧(-2560000≤V 5∧V 5≤2560000)∧(-20000000≤V 6∧V 6≤20000000)∧(-20000000≤V 7∧V 7≤20000000)∧(0≤V 9∧V 9≤256)∧(0≤V 10∧V 10≤256)∧shB (V 1) (V 2) (V 3)=true∧restB V=true:=by
 unfold bodyB at h
 simp only[Bool.and_eq_true,decide_eq_true_eq] at h
 obtain⟨a0,a1,a2,a3,a4,a5,a6,a7,a8⟩:=h
 obtain⟨p1,p2⟩:=inB_of a2
 obtain⟨q1,q2⟩:=inB_of a3
 exact⟨a4,a7,p1,p2,q1,q2,a5,a6,a1,a8⟩
def spX (V:Nat→Int):Int:=if V 8=0 then 0 else (V 6).tdiv (V 8)
def spY (V:Nat→Int):Int:=if V 8=0 then 0 else (V 7).tdiv (V 8)
theorem kOk_any {cb n k:Nat} {V:Nat→Int} {G:Nat→Nat} {w:World} (h:HAt w cb n k V G):
 Calls Tryz.prog 42 #[hdk cb k] w fun e w'=>e= .returned (.bool (bodyB V))∧Below w.heap.size w w':=by
 unfold bodyB
 generalize k0:decide (0≤V 0∧V 0≤999999999)=b0
 generalize k1:shB (V 1) (V 2) (V 3)=b1
 generalize k2:inB 2560000 (V 4) (V 5)=b2
 generalize k3:inB 20000000 (V 6) (V 7)=b3
 generalize k4:decide (0≤V 8∧V 8≤1000)=b4
 generalize k5:decide (0≤V 9∧V 9≤256)=b5
 generalize k6:decide (0≤V 10∧V 10≤256)=b6
 generalize k7:decide (0≤V 11∧V 11≤8)=b7
 generalize k8:restB V=b8
 have hset:=cset_map
 have l1:=h.cbl
 have hkn:=h.kn
 have hnl:=h.nl
 obtain⟨c0,hc0,hv0,_,l0g,lc0⟩:=h.col 0 (by omega)
 generalize hG0:G 0=g0 at hc0 hv0 l0g lc0
 clear hG0
 go_enter Tryz.func42,Tryz.ntmps42
 go_upto_region 1 with fail
 refine wp_region_held_drew (S:=fun w'=>w'.cell? ⟨w.heap.size,0,none⟩=some (.int .i64 (k:Int))∧w'.cell? ⟨w.heap.size,1,none⟩=some (.pointer (some ⟨cb,0,none⟩))∧w'.cell? ⟨cb,0,none⟩=some (.slice (some ⟨g0,0,none⟩) n c0)∧w'.cell? ⟨g0,k,none⟩=some (.int .i64 (V 0))) (by kernel_rfl) ?_ (fun hHeld=> ?_)
 · (try dsimp only)
   (first|(go_simp;done)|(go_keep;done))
 refine tq 0 hHeld ?_
 refine tq 1 hHeld ?_
 refine tq 2 hHeld ?_
 refine tq 3 hHeld ?_
 refine tq 4 hHeld ?_
 refine tq 5 hHeld ?_
 refine tq 6 hHeld ?_
 refine tq 7 hHeld ?_
 refine tq 8 hHeld ?_
 (refine tc 9 fun K hK=> ?_;go_simp;(go_at_call 71;refine(upTo_q _ _ _ _ (by with_reducible assumption)).mono ?_;rintro e w1 ⟨rfl,hb1⟩;have hz1:=hb1.size;(try simp only[zz] at hz1);have:=kfa hb1 w.heap.size;have:=kfa hb1 cb;have:=kfa hb1 g0);(try go_wp2_with fail);refine tr hK (fun hHeld=> ?_);clear hK K)
 refine tq 10 hHeld ?_
 all_goals first|refine tn 11 hHeld ?_|(cases b0<;>first|refine tn 11 hHeld ?_|refine tq 11 hHeld ?_)
 all_goals first|refine tn 12 hHeld ?_|(refine tc 12 fun K hK=> ?_;go_simp;(go_at_call 73;refine(kShape (HAt.below h (bel_a))).mono ?_;rintro e w2 ⟨rfl,hb2⟩;have hz2:=hb2.size;(try simp only[zz] at hz2);have:=kfa hb2 w.heap.size;have:=kfa hb2 cb;have:=kfa hb2 g0);(try go_wp2_with fail);refine tr hK (fun hHeld=> ?_);clear hK K)
 all_goals first|refine tn 13 hHeld ?_|(refine tc 13 fun K hK=> ?_;go_simp;(go_at_call 72;refine(shapeOk_q _ _ _ _ _ (by with_reducible assumption)).mono ?_;rintro e w3 ⟨rfl,hb3⟩;have hz3:=hb3.size;(try simp only[zz] at hz3);have:=kfa hb3 w.heap.size;have:=kfa hb3 cb;have:=kfa hb3 g0);(try go_wp2_with fail);refine tr hK (fun hHeld=> ?_);clear hK K)
 all_goals refine tq 14 hHeld ?_
 all_goals refine tq 15 hHeld ?_
 all_goals first|refine tn 16 hHeld ?_|(cases b1<;>first|refine tn 16 hHeld ?_|refine tq 16 hHeld ?_)
 all_goals first|refine tn 17 hHeld ?_|(refine tc 17 fun K hK=> ?_;go_simp;(go_at_call 74;refine(kAt (HAt.below h (bel_a))).mono ?_;rintro e w4 ⟨rfl,hb4⟩;have hz4:=hb4.size;(try simp only[zz] at hz4);have:=kfa hb4 w.heap.size;have:=kfa hb4 cb;have:=kfa hb4 g0);(try go_wp2_with fail);refine tr hK (fun hHeld=> ?_);clear hK K)
 all_goals first|refine tn 18 hHeld ?_|(refine tc 18 fun K hK=> ?_;go_simp;(go_at_call 75;refine(within2_q _ _ _ _ _ (by omega) (by omega) (by with_reducible assumption)).mono ?_;rintro e w5 ⟨rfl,hb5⟩;have hz5:=hb5.size;(try simp only[zz] at hz5);have:=kfa hb5 w.heap.size;have:=kfa hb5 cb;have:=kfa hb5 g0);(try go_wp2_with fail);refine tr hK (fun hHeld=> ?_);clear hK K)
 all_goals refine tq 19 hHeld ?_
 all_goals refine tq 20 hHeld ?_
 all_goals first|refine tn 21 hHeld ?_|(cases b2<;>first|refine tn 21 hHeld ?_|refine tq 21 hHeld ?_)
 all_goals first|refine tn 22 hHeld ?_|(refine tc 22 fun K hK=> ?_;go_simp;(go_at_call 76;refine(kDrive (HAt.below h (bel_a))).mono ?_;rintro e w6 ⟨rfl,hb6⟩;have hz6:=hb6.size;(try simp only[zz] at hz6);have:=kfa hb6 w.heap.size;have:=kfa hb6 cb;have:=kfa hb6 g0);(try go_wp2_with fail);refine tr hK (fun hHeld=> ?_);clear hK K)
 all_goals first|refine tn 23 hHeld ?_|(refine tc 23 fun K hK=> ?_;go_simp;(go_at_call 75;refine(within2_q _ _ _ _ _ (by omega) (by omega) (by with_reducible assumption)).mono ?_;rintro e w7 ⟨rfl,hb7⟩;have hz7:=hb7.size;(try simp only[zz] at hz7);have:=kfa hb7 w.heap.size;have:=kfa hb7 cb;have:=kfa hb7 g0);(try go_wp2_with fail);refine tr hK (fun hHeld=> ?_);clear hK K)
 all_goals refine tq 24 hHeld ?_
 all_goals refine tq 25 hHeld ?_
 all_goals first|refine tn 26 hHeld ?_|(cases b3<;>first|refine tn 26 hHeld ?_|refine tq 26 hHeld ?_)
 all_goals first|refine tn 27 hHeld ?_|(refine tc 27 fun K hK=> ?_;go_simp;(go_at_call 77;refine(kMass (HAt.below h (bel_a))).mono ?_;rintro e w8 ⟨rfl,hb8⟩;have hz8:=hb8.size;(try simp only[zz] at hz8);have:=kfa hb8 w.heap.size;have:=kfa hb8 cb;have:=kfa hb8 g0);(try go_wp2_with fail);refine tr hK (fun hHeld=> ?_);clear hK K)
 all_goals first|refine tn 28 hHeld ?_|(refine tc 28 fun K hK=> ?_;go_simp;(go_at_call 71;refine(upTo_q _ _ _ _ (by with_reducible assumption)).mono ?_;rintro e w9 ⟨rfl,hb9⟩;have hz9:=hb9.size;(try simp only[zz] at hz9);have:=kfa hb9 w.heap.size;have:=kfa hb9 cb;have:=kfa hb9 g0);(try go_wp2_with fail);refine tr hK (fun hHeld=> ?_);clear hK K)
 all_goals refine tq 29 hHeld ?_
 all_goals refine tq 30 hHeld ?_
 all_goals first|refine tn 31 hHeld ?_|(cases b4<;>first|refine tn 31 hHeld ?_|refine tq 31 hHeld ?_)
 all_goals first|refine tn 32 hHeld ?_|(refine tc 32 fun K hK=> ?_;go_simp;(go_at_call 78;refine(kBounce (HAt.below h (bel_a))).mono ?_;rintro e w10 ⟨rfl,hb10⟩;have hz10:=hb10.size;(try simp only[zz] at hz10);have:=kfa hb10 w.heap.size;have:=kfa hb10 cb;have:=kfa hb10 g0);(try go_wp2_with fail);refine tr hK (fun hHeld=> ?_);clear hK K)
 all_goals first|refine tn 33 hHeld ?_|(refine tc 33 fun K hK=> ?_;go_simp;(go_at_call 71;refine(upTo_q _ _ _ _ (by with_reducible assumption)).mono ?_;rintro e w11 ⟨rfl,hb11⟩;have hz11:=hb11.size;(try simp only[zz] at hz11);have:=kfa hb11 w.heap.size;have:=kfa hb11 cb;have:=kfa hb11 g0);(try go_wp2_with fail);refine tr hK (fun hHeld=> ?_);clear hK K)
 all_goals refine tq 34 hHeld ?_
 all_goals refine tq 35 hHeld ?_
 all_goals first|refine tn 36 hHeld ?_|(cases b5<;>first|refine tn 36 hHeld ?_|refine tq 36 hHeld ?_)
 all_goals first|refine tn 37 hHeld ?_|(refine tc 37 fun K hK=> ?_;go_simp;(go_at_call 79;refine(kRub (HAt.below h (bel_a))).mono ?_;rintro e w12 ⟨rfl,hb12⟩;have hz12:=hb12.size;(try simp only[zz] at hz12);have:=kfa hb12 w.heap.size;have:=kfa hb12 cb;have:=kfa hb12 g0);(try go_wp2_with fail);refine tr hK (fun hHeld=> ?_);clear hK K)
 all_goals first|refine tn 38 hHeld ?_|(refine tc 38 fun K hK=> ?_;go_simp;(go_at_call 71;refine(upTo_q _ _ _ _ (by with_reducible assumption)).mono ?_;rintro e w13 ⟨rfl,hb13⟩;have hz13:=hb13.size;(try simp only[zz] at hz13);have:=kfa hb13 w.heap.size;have:=kfa hb13 cb;have:=kfa hb13 g0);(try go_wp2_with fail);refine tr hK (fun hHeld=> ?_);clear hK K)
 all_goals refine tq 39 hHeld ?_
 all_goals refine tq 40 hHeld ?_
 all_goals first|refine tn 41 hHeld ?_|(cases b6<;>first|refine tn 41 hHeld ?_|refine tq 41 hHeld ?_)
 all_goals first|refine tn 42 hHeld ?_|(refine tc 42 fun K hK=> ?_;go_simp;(go_at_call 80;refine(kQuiet (HAt.below h (bel_a))).mono ?_;rintro e w14 ⟨rfl,hb14⟩;have hz14:=hb14.size;(try simp only[zz] at hz14);have:=kfa hb14 w.heap.size;have:=kfa hb14 cb;have:=kfa hb14 g0);(try go_wp2_with fail);refine tr hK (fun hHeld=> ?_);clear hK K)
 all_goals first|refine tn 43 hHeld ?_|(refine tc 43 fun K hK=> ?_;go_simp;(go_at_call 71;refine(upTo_q _ _ _ _ (by with_reducible assumption)).mono ?_;rintro e w15 ⟨rfl,hb15⟩;have hz15:=hb15.size;(try simp only[zz] at hz15);have:=kfa hb15 w.heap.size;have:=kfa hb15 cb;have:=kfa hb15 g0);(try go_wp2_with fail);refine tr hK (fun hHeld=> ?_);clear hK K)
 all_goals refine tq 44 hHeld ?_
 all_goals refine tq 45 hHeld ?_
 all_goals first|refine tn 46 hHeld ?_|(cases b7<;>first|refine tn 46 hHeld ?_|refine tq 46 hHeld ?_)
 all_goals first|refine tn 47 hHeld ?_|(refine tc 47 fun K hK=> ?_;go_simp;(go_at_call 81;refine(kRestOk (HAt.below h (bel_a)) _ (by with_reducible assumption)).mono ?_;rintro e w16 ⟨rfl,hb16⟩;have hz16:=hb16.size;(try simp only[zz] at hz16);have:=kfa hb16 w.heap.size;have:=kfa hb16 cb;have:=kfa hb16 g0);(try go_wp2_with fail);refine tr hK (fun hHeld=> ?_);clear hK K)
 all_goals refine tq 48 hHeld ?_
 all_goals refine tq 49 hHeld ?_
 all_goals
  refine wpAnyH_done (by kernel_rfl) ?_ _
  go_wp2_with fail
  go_ret
  exact⟨rfl,bel_a⟩
theorem kOk_q {cb n k:Nat} {V:Nat→Int} {G:Nat→Nat} {w:World} (h:HAt w cb n k V G) (b:Bool) (e:bodyB V=b):
 Calls Tryz.prog 42 #[hdk cb k] w fun e w'=>e= .returned (.bool b)∧Below w.heap.size w w':=by
 subst e;exact kOk_any h
end Go.Proofs.YtpmjnpmnocjjgaaGreatDoor
namespace Go.Proofs.YtpmjnpmnocjjgaaGreatDoor
open Go.RowKit
set_option linter.unusedVariables false
structure Kx (B H:Nat) (A A':World):Prop where
 below:Below B A A'
 cells:∀ (k:Nat) (o:Obj),A.heap[k]? =some o→o.isCells=true→H≤k→A'.heap[k]? =some o
structure Kc (B H:Nat) (A A':World):Prop where
 others:KeepsFrom B A A'
 band:∀ (k:Nat) (o:Obj),B≤k→k<H→A.heap[k]? =some o→o.isCells=true→A'.heap[k]? =some o
theorem Kx.refl (B H:Nat) (A:World):Kx B H A A:=⟨Below.refl _ _,fun _ _ h _ _=>h⟩
theorem Kx.trans {B H:Nat} {X Y Z:World} (h:Kx B H X Y) (k:Kx B H Y Z):Kx B H X Z:=⟨h.below.trans k.below,fun i o hi ho hH=>k.cells i o (h.cells i o hi ho hH) ho hH⟩
theorem Kx.size {B H:Nat} {X Y:World} (h:Kx B H X Y):X.heap.size≤Y.heap.size:=h.below.size
theorem Kx.sm {B H B':Nat} {X Y Z:World} (h:Kx B H X Y) (k:Sm B' Y Z) (hB:B≤B'):Kx B H X Z:=⟨h.below.trans (k.below.mono hB),fun i o hi ho hH=>k.cells i o (h.cells i o hi ho hH) ho⟩
theorem Kx.of_sm {B H B':Nat} {X Y:World} (k:Sm B' X Y) (hB:B≤B'):Kx B H X Y:=(Kx.refl B H X).sm k hB
theorem Kx.fr {B H:Nat} {X Y Z:World} {T:Nat→Prop} (h:Kx B H X Y) (k:Fr T Y Z) (hT:∀ b,T b→B≤b∧(b<H∨X.heap.size≤b)) (hB:B≤X.heap.size):Kx B H X Z:=
 ⟨h.below.trans (k.below (Nat.le_trans hB h.size) (fun b e=>(hT b e).1)),fun i o hi ho hH=>by
  have hl:i<X.heap.size:=(Array.getElem?_eq_some_iff.1 hi).1
  exact(k.block i (Nat.lt_of_lt_of_le hl h.size) (fun e=>by have:=(hT i e).2;omega)).trans (h.cells i o hi ho hH)⟩
theorem Kx.of_below {B H:Nat} {X Y:World} (k:Below X.heap.size X Y) (hB:B≤X.heap.size):Kx B H X Y:=
 ⟨k.mono hB,fun i o hi _ _=>(k.block i (Array.getElem?_eq_some_iff.1 hi).1).trans hi⟩
theorem Kc.refl (B H:Nat) (A:World):Kc B H A A:=⟨KeepsFrom.refl _ _,fun _ _ _ _ h _=>h⟩
theorem Kc.trans {B H:Nat} {X Y Z:World} (h:Kc B H X Y) (k:Kc B H Y Z):Kc B H X Z:=⟨h.others.trans k.others,fun i o a b c d=>k.band i o a b (h.band i o a b c d) d⟩
theorem Kc.fr {B H:Nat} {X Y:World} {T:Nat→Prop} (k:Fr T X Y) (hT:∀ b,T b→b<B∨H≤b):Kc B H X Y:=
 ⟨k.keeps B,fun i o hB hH hi ho=>(k.block i (Array.getElem?_eq_some_iff.1 hi).1 (fun e=>by have:=hT i e;omega)).trans hi⟩
theorem Kc.of_below {B H:Nat} {X Y:World} (k:Below X.heap.size X Y):Kc B H X Y:=Kc.fr (T:=fun _=>False) (Fr.of_below k) (fun _ h=>h.elim)
theorem Kc.putObj {B H l:Nat} {X:World} (o:Obj) (h:l<B):Kc B H X (X.putObj l o):=
 ⟨⟨by simp[World.putObj],fun k x hk hx _=>(World.putObj_heap_other (by omega)).trans hx⟩,fun k x hB _ hx _=>(World.putObj_heap_other (by omega)).trans hx⟩
theorem Kc.cell {B H:Nat} {X Y:World} (h:Kc B H X Y) {p:Addr} {v:Value} (hc:X.cell? p=some v) (h1:B≤p.block) (h2:p.block<H):Y.cell? p=some v:=by
 obtain⟨o,ho,hx⟩:=isCells_of_cell hc
 exact(World.cell?_of_block ((h.band _ _ h1 h2 ho hx).trans ho.symm)).trans hc
def ItG (P:Program) (gf:Nat) (bound:Array Value) (Col:World→Prop) (E:Nat→Nat→Array Value→World→Prop) (nn:Nat) (w:World):Prop:=
 ∀ (l:Nat) (J:Nat→Nat→World→Prop) (W:World),Below w.heap.size w W→
   (∀ H k A A',J H k A→Kx W.heap.size H A A'→J H k A')→(∀ H k A,J H k A→Col A)→
   (∀ W0,Below W.heap.size W W0→J W0.heap.size 0 W0)→
   (∀ H k A args,J H k A→k<nn→E H k args A→YieldAt Fence.wide 0 P l args A fun e A'=>e= .returned (.bool true)∧J H (k+1) A'∧Kc W.heap.size H A A')→
   CallsIn Fence.wide 0 P gf (bound++ #[.func (.yield l) #[] #[]]) W fun e A=>(∃ v,e= .returned v)∧∃ H,J H nn A
theorem yield_roundG {P:Program} {ps:Array Tmp} {assign body:Code} {a:Act} {B l dl:Nat} {fn:FuncId} {args:Array Value} (hps:args.size=ps.size)
 {I':World→Prop} (hI':∀ A r o,I' A→A.heap[l]? =some (.loop r)→I' (A.putObj l (.loop o))) {Hh:World→Prop} (hH:∀ A B',Hh A→KeepsFrom B A B'→Hh B') (hHp:∀ A o,Hh A→Hh (A.putObj l o))
 {rec:LoopState→Option Code→Loop} (hrec:rec=fun st pe=>{state:=st,pending:=pe,fn,tmps:=a.tmps,params:=ps,assign,body,defers:=dl}) (hBl:B≤l)
 {W:World} (hl:W.heap[l]? =some (.loop (rec .ready none))) (hh:Hh W)
 (hround:assign.wpIn (Fence.wide.inRound l) 0 P (Exit.then (fun a₁ W₁=>KeepsFrom B W W₁∧∀ W₂,Sm B W₁ W₂→(∀ B' H',l<B'→Kc B' H' W₁ W₂)→(∃ r,W₂.heap[l]? =some (.loop r))→body.wpIn (Fence.wide.inRound l) 0 P (rdPost B I' (fun _ _=>False) W₂) a₁ W₂) (fun _ _ _=>False))
   {tmps:=(ps.zip args).foldl (fun t (p,v)=>t.setIfInBounds p v) a.tmps,defers:=[]} W):
 YieldAt Fence.wide 0 P l args W fun e W'=>e= .returned (.bool true)∧I' W'∧W'.heap[l]? =some (.loop (rec .ready none))∧Hh W':=by
 have hy:=run_yield (P:=P) (args:=args) hl (by rw[hrec];exact hps)
 rw[hrec] at hy
 refine⟨fn,_,assign,body,hy,roundIn_of_wpIn trivial (wpIn_mono hround ?_)⟩
 intro e a₁ W₁ q
 cases e with
 | normal=>
   obtain⟨hk1,hb⟩:=q
   have hl1:=hk1.same _ _ hBl hl rfl
   have hh1:=hH _ _ hh hk1
   refine⟨_,run_beginRound hl1 (by rw[hrec]),?_⟩
   have hlt:l<W₁.heap.size:=(Array.getElem?_eq_some_iff.1 hl1).1
   have hl2:(W₁.putObj l (.loop {rec .ready none with state:= .busy})).heap[l]? =some (.loop {rec .ready none with state:= .busy}):=World.putObj_heap_same hlt
   refine wpIn_mono (hb _ (Sm.putObj _ hl1 rfl hBl) (fun B' H' h=>Kc.putObj _ h) ⟨_,hl2⟩) ?_
   rintro e a3 W3 hp
   cases e with
   | normal=>
     obtain⟨hk3,hi3⟩:=hp
     have hl3:=hk3.same _ _ hBl hl2 rfl
     have hr:=run_endRound (P:=P) none hl3
     have hr':(Instr.endRound l none).run P W3= .ok (.bool true) (W3.putObj l (.loop (rec .ready none))):=by rw[hrec] at hr ⊢;exact hr
     exact⟨_,_,hr',rfl,hI' _ _ _ hi3 hl3,World.putObj_heap_same (Array.getElem?_eq_some_iff.1 hl3).1,hHp _ _ (hH _ _ (hHp _ _ hh1) hk3)⟩
   |ret=>exact hp.2.elim
   |exit id=>exact hp.2.elim
   |goto t=>exact hp.2.elim
   |panic ch=>exact hp.elim
   |outgrown=>exact hp.elim
 |exit id=>exact q.elim
 |goto t=>exact q.elim
 |ret=>exact q.elim
 |panic ch=>exact q.elim
 |outgrown=>exact q.elim
theorem wp_range_outG {P:Program} {g:Operand} {ps:Array Tmp} {assign body:Code} {Q:Exit→Act→World→Prop} {a:Act} {w:World} {gf:Nat} {bound:Array Value}
 (hg:a.eval g= .func (.func gf) bound #[]) (eg:∀ args w,(callFunc gf args).run P w= .ok (.enter gf args) w)
 {Col:World→Prop} {E:Nat→Nat→Array Value→World→Prop} {nn:Nat} (hit:ItG P gf bound Col E nn w) (hps:∀ H k args A,E H k args A→args.size=ps.size)
 (I:Nat→Nat→World→Prop) (hI:∀ H k A B,I H k A→Kx (w.heap.size+2) H A B→I H k B) (hIs:∀ H k A B,I H k A→Sm w.heap.size A B→I H k B) (hcol:∀ H k A,I H k A→Col A)
 (h0:∀ W0,Below w.heap.size w W0→w.heap.size+2≤W0.heap.size→I W0.heap.size 0 W0)
 (hround:∀ l H k W args,w.heap.size≤l→l<w.heap.size+2→w.heap.size+2≤W.heap.size→I H k W→k<nn→E H k args W→
   assign.wpIn (Fence.wide.inRound l) 0 P (Exit.then (fun a₁ W₁=>KeepsFrom w.heap.size W W₁∧∀ W₂,Sm w.heap.size W₁ W₂→(∀ B' H',l<B'→Kc B' H' W₁ W₂)→(∃ r,W₂.heap[l]? =some (.loop r))→
    body.wpIn (Fence.wide.inRound l) 0 P (rdPost w.heap.size (fun W'=>I H (k+1) W'∧Kc (w.heap.size+2) H W W') (fun _ _=>False) W₂) a₁ W₂) (fun _ _ _=>False))
   {tmps:=(ps.zip args).foldl (fun t (p,v)=>t.setIfInBounds p v) a.tmps,defers:=[]} W)
 (hdone:∀ (D H:Nat) (W:World),w.heap.size≤D→I H nn W→W.heap[D]? =some (.deferred (some []))→Q .normal {a with defers:={target:= .collected D,args:= #[]}::a.defers} W):
 (Code.rangeFunc g ps assign body).wp P Q a w:=by
 refine wpIn_wide.1 (wpIn_rangeFunc (n:=0) ?_)
 intro fn _
 obtain⟨rec,hrec⟩:∃ rec:LoopState→Option Code→Loop,rec=fun st pe=>{state:=st,pending:=pe,fn,tmps:=a.tmps,params:=ps,assign,body,defers:=w.heap.size}:=⟨_,rfl⟩
 obtain⟨W1,hW1⟩:∃ W1,(w.alloc (.deferred (some []))).alloc (.loop (rec .ready none))=W1:=⟨_,rfl⟩
 have hb1:Below w.heap.size w W1:=by rw[←hW1];exact((Below.refl _ w).alloc (Nat.le_refl _) _).alloc (by simp) _
 have hz1:W1.heap.size=w.heap.size+2:=by rw[←hW1];simp
 have hL1:W1.heap[w.heap.size+1]? =some (.loop (rec .ready none)):=by
  rw[←hW1];have:=World.alloc_heap_new (w.alloc (.deferred (some []))) (.loop (rec .ready none));rwa [World.size_alloc] at this
 have hK1:W1.heap[w.heap.size]? =some (.deferred (some [])):=by
  rw[←hW1];exact(Below.heap_alloc _ _ _ (by simp)).trans (World.alloc_heap_new w _)
 refine⟨w.heap.size+1,[{target:= .collected w.heap.size,args:= #[]}],W1,{target:= .fn (.func gf) #[],args:=bound++ #[.func (.yield (w.heap.size+1)) #[] #[]]},W1,gf,
  bound++ #[.func (.yield (w.heap.size+1)) #[] #[]],W1,?_,?_,fun _ _=>trivial,?_,(fun e=>by cases e),?_⟩
 · rw[←hW1,hrec];exact run_enterLoop_outer _ _ _ _ _
 · simp only[resolve,hg]
   simp[go_sem]
 · simp[invoke,go_sem,eg]
 · refine(hit (w.heap.size+1)
    (fun H k W=>I H k W∧W.heap[w.heap.size+1]? =some (.loop (rec .ready none))∧W.heap[w.heap.size]? =some (.deferred (some []))∧w.heap.size+2≤W.heap.size)
    W1 hb1 ?_ ?_ ?_ ?_).mono ?_
   · rintro H k A B ⟨h1,h2,h3,h4⟩ hb
     rw[hz1] at hb
     exact⟨hI _ _ _ _ h1 hb,(hb.below.block _ (by omega)).trans h2,(hb.below.block _ (by omega)).trans h3,Nat.le_trans h4 hb.size⟩
   · rintro H k A ⟨h1,_⟩
     exact hcol _ _ _ h1
   · intro W0 hb
     exact⟨h0 W0 (hb1.trans (hb.mono (by omega))) (by have:=hb.size;omega),(hb.block _ (by omega)).trans hL1,(hb.block _ (by omega)).trans hK1,by have:=hb.size;omega⟩
   · rintro H k W args ⟨h1,h2,h3,h4⟩ hk hE
     rw[hz1]
     refine(yield_roundG (P:=P) (ps:=ps) (assign:=assign) (body:=body) (a:=a) (B:=w.heap.size) (l:=w.heap.size+1) (dl:=w.heap.size) (fn:=fn) (args:=args) (hps _ _ _ _ hE)
      (I':=fun W'=>I H (k+1) W'∧Kc (w.heap.size+2) H W W') (fun A r o h hl=>⟨hIs _ _ _ _ h.1 (Sm.putObj _ hl rfl (by omega)),h.2.trans (Kc.putObj _ (by omega))⟩)
      (Hh:=fun W=>W.heap[w.heap.size]? =some (.deferred (some []))∧w.heap.size+2≤W.heap.size) (fun A B h hk=>⟨hk.same _ _ (Nat.le_refl _) h.1 rfl,Nat.le_trans h.2 hk.size⟩) (fun A o h=>⟨(World.putObj_heap_other (by omega)).trans h.1,by simpa [World.putObj] using h.2⟩) hrec (by omega) h2 ⟨h3,h4⟩
      (hround _ H k W args (by omega) (by omega) h4 h1 hk hE)).mono ?_
     rintro e W' ⟨e1,⟨h1,hc⟩,h2,h3,h4⟩
     exact⟨e1,⟨h1,h2,h3,h4⟩,hc⟩
   · rintro e W2 ⟨⟨v,rfl⟩,H,hi,hl,hk,_⟩
     exact⟨none,_,by have:=run_endLoop (P:=P) hl (by rw[hrec];simp);rw[hrec] at this;exact this,hdone _ H _ (Nat.le_refl _) (hIs _ _ _ _ hi (Sm.putObj _ hl rfl (by omega))) ((World.putObj_heap_other (by omega)).trans hk)⟩
end Go.Proofs.YtpmjnpmnocjjgaaGreatDoor
