/- Texts of a proof. -/
import Derived.Test.YtcalhcfinkhemaaGreatDoorB2
import Derived.Test.YtcalhcfinkhemaaGreatDoorB4
import Derived.Test.YtcalhcfinkhemaaGreatDoorB7
import Derived.Deep.RegionHeld3
import Derived.Deep.DeepCutAuto
import Derived.Test.YtcalhcfinkhemaaGreatDoorB5
import Derived.Test.YtcalhcfinkhemaaGreatDoorB1
import Derived.WalkKit
import Derived.LaidEql
import Derived.Stop.Asserts
import Derived.RowKitTokens
set_option maxHeartbeats 16000000
set_option maxRecDepth 20000
namespace Go.Proofs.YtcalhcfinkhemaaGreatDoor
open Go.RowKit
set_option linter.unusedVariables false
set_option linter.unusedSimpArgs false
abbrev bodyW (V:Nat→Int):Value:= .agg #[.int .i64 (V 0),.int .i64 (V 1),.int .i64 (V 2),.int .i64 (V 3),.int .i64 (V 4),.int .i64 (V 5),.int .i64 (V 6),.int .i64 (V 7),.int .i64 (V 8),.int .i64 (V 9),.int .i64 (V 10),.int .i64 (V 11)]
theorem l1In_q (n l h:Int) (b:Bool) (w:World) (e:decide (l≤n∧n≤h)=b):
 Calls Tryz.prog 25 #[.int .i64 n,.int .i64 l,.int .i64 h] w fun e w'=>e= .returned (.bool b)∧Below w.heap.size w w':=by
 subst e;exact(l1In_any n l h w).mono fun e w' ⟨a,b⟩=>⟨a,b▸Below.refl _ _⟩
theorem sShapeOk_q (k wd h:Int) (b:Bool) (w:World) (e:shB k wd h=b):
 Calls Tryz.prog 66 #[s3 k wd h] w fun e w'=>e= .returned (.bool b)∧Below w.heap.size w w':=by
 subst e;exact sShapeOk_any k wd h w
theorem l3Place_q (x y:Int) (b:Bool) (w:World) (e:inB 2560000 x y=b):
 Calls Tryz.prog 67 #[vv x y] w fun e w'=>e= .returned (.bool b)∧Below w.heap.size w w':=by
 subst e;exact l3Place_any x y w
theorem l6Drive_any (x y:Int) (w:World):
 Calls Tryz.prog 68 #[vv x y] w fun e w'=>e= .returned (.bool (inB 20000000 x y))∧Below w.heap.size w w':=by
 have hset:=cset_map
 go_enter Tryz.func68,Tryz.ntmps68
 go_wp2_with (go_at_call 25;refine(l1In_any _ _ _ _).mono ?_;rintro e w' ⟨rfl,rfl⟩)
 all_goals
  go_ret
  refine⟨ret_bool ?_,bel_a⟩
  unfold inB
  first|(simp[*];done)|(simp at*;omega)|(simp[*];omega)
theorem l6Drive_q (x y:Int) (b:Bool) (w:World) (e:inB 20000000 x y=b):
 Calls Tryz.prog 68 #[vv x y] w fun e w'=>e= .returned (.bool b)∧Below w.heap.size w w':=by
 subst e;exact l6Drive_any x y w
theorem sBodyOk_0 (V:Nat→Int) (w:World) (k0:decide (0≤V 0∧V 0≤999999999)=false):
 Calls Tryz.prog 36 #[bodyW V] w fun e w'=>e= .returned (.bool false)∧Below w.heap.size w w':=by
 have hset:=cset_map
 go_enter Tryz.func36,Tryz.ntmps36
 go_wp2_with (first
  |(go_at_call 25;refine(l1In_q _ _ _ _ _ (by with_reducible assumption)).mono ?_;rintro e w1 ⟨rfl,hb1⟩;have hz1:=hb1.size;(try simp only[zz] at hz1);have:=kfa hb1 w.heap.size)
  |(go_at_call 66;refine(sShapeOk_q _ _ _ _ _ (by with_reducible assumption)).mono ?_;rintro e w2 ⟨rfl,hb2⟩;have hz2:=hb2.size;(try simp only[zz] at hz2);have:=kfa hb2 w.heap.size)
  |(go_at_call 67;refine(l3Place_q _ _ _ _ (by with_reducible assumption)).mono ?_;rintro e w3 ⟨rfl,hb3⟩;have hz3:=hb3.size;(try simp only[zz] at hz3);have:=kfa hb3 w.heap.size)
  |(go_at_call 68;refine(l6Drive_q _ _ _ _ (by with_reducible assumption)).mono ?_;rintro e w4 ⟨rfl,hb4⟩;have hz4:=hb4.size;(try simp only[zz] at hz4);have:=kfa hb4 w.heap.size))
 go_ret
 exact⟨rfl,bel_a⟩
theorem sBodyOk_1 (V:Nat→Int) (w:World) (k0:decide (0≤V 0∧V 0≤999999999)=true) (k1:shB (V 1) (V 2) (V 3)=false):
 Calls Tryz.prog 36 #[bodyW V] w fun e w'=>e= .returned (.bool false)∧Below w.heap.size w w':=by
 have hset:=cset_map
 go_enter Tryz.func36,Tryz.ntmps36
 go_wp2_with (first
  |(go_at_call 25;refine(l1In_q _ _ _ _ _ (by with_reducible assumption)).mono ?_;rintro e w1 ⟨rfl,hb1⟩;have hz1:=hb1.size;(try simp only[zz] at hz1);have:=kfa hb1 w.heap.size)
  |(go_at_call 66;refine(sShapeOk_q _ _ _ _ _ (by with_reducible assumption)).mono ?_;rintro e w2 ⟨rfl,hb2⟩;have hz2:=hb2.size;(try simp only[zz] at hz2);have:=kfa hb2 w.heap.size)
  |(go_at_call 67;refine(l3Place_q _ _ _ _ (by with_reducible assumption)).mono ?_;rintro e w3 ⟨rfl,hb3⟩;have hz3:=hb3.size;(try simp only[zz] at hz3);have:=kfa hb3 w.heap.size)
  |(go_at_call 68;refine(l6Drive_q _ _ _ _ (by with_reducible assumption)).mono ?_;rintro e w4 ⟨rfl,hb4⟩;have hz4:=hb4.size;(try simp only[zz] at hz4);have:=kfa hb4 w.heap.size))
 go_ret
 exact⟨rfl,bel_a⟩
theorem sBodyOk_2 (V:Nat→Int) (w:World) (k0:decide (0≤V 0∧V 0≤999999999)=true) (k1:shB (V 1) (V 2) (V 3)=true) (k2:inB 2560000 (V 4) (V 5)=false):
 Calls Tryz.prog 36 #[bodyW V] w fun e w'=>e= .returned (.bool false)∧Below w.heap.size w w':=by
 have hset:=cset_map
 go_enter Tryz.func36,Tryz.ntmps36
 go_wp2_with (first
  |(go_at_call 25;refine(l1In_q _ _ _ _ _ (by with_reducible assumption)).mono ?_;rintro e w1 ⟨rfl,hb1⟩;have hz1:=hb1.size;(try simp only[zz] at hz1);have:=kfa hb1 w.heap.size)
  |(go_at_call 66;refine(sShapeOk_q _ _ _ _ _ (by with_reducible assumption)).mono ?_;rintro e w2 ⟨rfl,hb2⟩;have hz2:=hb2.size;(try simp only[zz] at hz2);have:=kfa hb2 w.heap.size)
  |(go_at_call 67;refine(l3Place_q _ _ _ _ (by with_reducible assumption)).mono ?_;rintro e w3 ⟨rfl,hb3⟩;have hz3:=hb3.size;(try simp only[zz] at hz3);have:=kfa hb3 w.heap.size)
  |(go_at_call 68;refine(l6Drive_q _ _ _ _ (by with_reducible assumption)).mono ?_;rintro e w4 ⟨rfl,hb4⟩;have hz4:=hb4.size;(try simp only[zz] at hz4);have:=kfa hb4 w.heap.size))
 go_ret
 exact⟨rfl,bel_a⟩
theorem sBodyOk_3 (V:Nat→Int) (w:World) (k0:decide (0≤V 0∧V 0≤999999999)=true) (k1:shB (V 1) (V 2) (V 3)=true) (k2:inB 2560000 (V 4) (V 5)=true) (k3:inB 20000000 (V 6) (V 7)=false):
 Calls Tryz.prog 36 #[bodyW V] w fun e w'=>e= .returned (.bool false)∧Below w.heap.size w w':=by
 have hset:=cset_map
 go_enter Tryz.func36,Tryz.ntmps36
 go_wp2_with (first
  |(go_at_call 25;refine(l1In_q _ _ _ _ _ (by with_reducible assumption)).mono ?_;rintro e w1 ⟨rfl,hb1⟩;have hz1:=hb1.size;(try simp only[zz] at hz1);have:=kfa hb1 w.heap.size)
  |(go_at_call 66;refine(sShapeOk_q _ _ _ _ _ (by with_reducible assumption)).mono ?_;rintro e w2 ⟨rfl,hb2⟩;have hz2:=hb2.size;(try simp only[zz] at hz2);have:=kfa hb2 w.heap.size)
  |(go_at_call 67;refine(l3Place_q _ _ _ _ (by with_reducible assumption)).mono ?_;rintro e w3 ⟨rfl,hb3⟩;have hz3:=hb3.size;(try simp only[zz] at hz3);have:=kfa hb3 w.heap.size)
  |(go_at_call 68;refine(l6Drive_q _ _ _ _ (by with_reducible assumption)).mono ?_;rintro e w4 ⟨rfl,hb4⟩;have hz4:=hb4.size;(try simp only[zz] at hz4);have:=kfa hb4 w.heap.size))
 go_ret
 exact⟨rfl,bel_a⟩
theorem sBodyOk_4 (V:Nat→Int) (w:World) (k0:decide (0≤V 0∧V 0≤999999999)=true) (k1:shB (V 1) (V 2) (V 3)=true) (k2:inB 2560000 (V 4) (V 5)=true) (k3:inB 20000000 (V 6) (V 7)=true) (k4:decide (0≤V 8∧V 8≤1000)=false):
 Calls Tryz.prog 36 #[bodyW V] w fun e w'=>e= .returned (.bool false)∧Below w.heap.size w w':=by
 have hset:=cset_map
 go_enter Tryz.func36,Tryz.ntmps36
 go_wp2_with (first
  |(go_at_call 25;refine(l1In_q _ _ _ _ _ (by with_reducible assumption)).mono ?_;rintro e w1 ⟨rfl,hb1⟩;have hz1:=hb1.size;(try simp only[zz] at hz1);have:=kfa hb1 w.heap.size)
  |(go_at_call 66;refine(sShapeOk_q _ _ _ _ _ (by with_reducible assumption)).mono ?_;rintro e w2 ⟨rfl,hb2⟩;have hz2:=hb2.size;(try simp only[zz] at hz2);have:=kfa hb2 w.heap.size)
  |(go_at_call 67;refine(l3Place_q _ _ _ _ (by with_reducible assumption)).mono ?_;rintro e w3 ⟨rfl,hb3⟩;have hz3:=hb3.size;(try simp only[zz] at hz3);have:=kfa hb3 w.heap.size)
  |(go_at_call 68;refine(l6Drive_q _ _ _ _ (by with_reducible assumption)).mono ?_;rintro e w4 ⟨rfl,hb4⟩;have hz4:=hb4.size;(try simp only[zz] at hz4);have:=kfa hb4 w.heap.size))
 go_ret
 exact⟨rfl,bel_a⟩
theorem sBodyOk_5 (V:Nat→Int) (w:World) (k0:decide (0≤V 0∧V 0≤999999999)=true) (k1:shB (V 1) (V 2) (V 3)=true) (k2:inB 2560000 (V 4) (V 5)=true) (k3:inB 20000000 (V 6) (V 7)=true) (k4:decide (0≤V 8∧V 8≤1000)=true) (k5:decide (0≤V 9∧V 9≤256)=false):
 Calls Tryz.prog 36 #[bodyW V] w fun e w'=>e= .returned (.bool false)∧Below w.heap.size w w':=by
 have hset:=cset_map
 go_enter Tryz.func36,Tryz.ntmps36
 go_wp2_with (first
  |(go_at_call 25;refine(l1In_q _ _ _ _ _ (by with_reducible assumption)).mono ?_;rintro e w1 ⟨rfl,hb1⟩;have hz1:=hb1.size;(try simp only[zz] at hz1);have:=kfa hb1 w.heap.size)
  |(go_at_call 66;refine(sShapeOk_q _ _ _ _ _ (by with_reducible assumption)).mono ?_;rintro e w2 ⟨rfl,hb2⟩;have hz2:=hb2.size;(try simp only[zz] at hz2);have:=kfa hb2 w.heap.size)
  |(go_at_call 67;refine(l3Place_q _ _ _ _ (by with_reducible assumption)).mono ?_;rintro e w3 ⟨rfl,hb3⟩;have hz3:=hb3.size;(try simp only[zz] at hz3);have:=kfa hb3 w.heap.size)
  |(go_at_call 68;refine(l6Drive_q _ _ _ _ (by with_reducible assumption)).mono ?_;rintro e w4 ⟨rfl,hb4⟩;have hz4:=hb4.size;(try simp only[zz] at hz4);have:=kfa hb4 w.heap.size))
 go_ret
 exact⟨rfl,bel_a⟩
theorem sBodyOk_6 (V:Nat→Int) (w:World) (k0:decide (0≤V 0∧V 0≤999999999)=true) (k1:shB (V 1) (V 2) (V 3)=true) (k2:inB 2560000 (V 4) (V 5)=true) (k3:inB 20000000 (V 6) (V 7)=true) (k4:decide (0≤V 8∧V 8≤1000)=true) (k5:decide (0≤V 9∧V 9≤256)=true) (k6:decide (0≤V 10∧V 10≤256)=false):
 Calls Tryz.prog 36 #[bodyW V] w fun e w'=>e= .returned (.bool false)∧Below w.heap.size w w':=by
 have hset:=cset_map
 go_enter Tryz.func36,Tryz.ntmps36
 go_wp2_with (first
  |(go_at_call 25;refine(l1In_q _ _ _ _ _ (by with_reducible assumption)).mono ?_;rintro e w1 ⟨rfl,hb1⟩;have hz1:=hb1.size;(try simp only[zz] at hz1);have:=kfa hb1 w.heap.size)
  |(go_at_call 66;refine(sShapeOk_q _ _ _ _ _ (by with_reducible assumption)).mono ?_;rintro e w2 ⟨rfl,hb2⟩;have hz2:=hb2.size;(try simp only[zz] at hz2);have:=kfa hb2 w.heap.size)
  |(go_at_call 67;refine(l3Place_q _ _ _ _ (by with_reducible assumption)).mono ?_;rintro e w3 ⟨rfl,hb3⟩;have hz3:=hb3.size;(try simp only[zz] at hz3);have:=kfa hb3 w.heap.size)
  |(go_at_call 68;refine(l6Drive_q _ _ _ _ (by with_reducible assumption)).mono ?_;rintro e w4 ⟨rfl,hb4⟩;have hz4:=hb4.size;(try simp only[zz] at hz4);have:=kfa hb4 w.heap.size))
 go_ret
 exact⟨rfl,bel_a⟩
theorem sBodyOk_7 (V:Nat→Int) (w:World) (k0:decide (0≤V 0∧V 0≤999999999)=true) (k1:shB (V 1) (V 2) (V 3)=true) (k2:inB 2560000 (V 4) (V 5)=true) (k3:inB 20000000 (V 6) (V 7)=true) (k4:decide (0≤V 8∧V 8≤1000)=true) (k5:decide (0≤V 9∧V 9≤256)=true) (k6:decide (0≤V 10∧V 10≤256)=true) (k7:decide (0≤V 11∧V 11≤8)=false):
 Calls Tryz.prog 36 #[bodyW V] w fun e w'=>e= .returned (.bool false)∧Below w.heap.size w w':=by
 have hset:=cset_map
 go_enter Tryz.func36,Tryz.ntmps36
 go_wp2_with (first
  |(go_at_call 25;refine(l1In_q _ _ _ _ _ (by with_reducible assumption)).mono ?_;rintro e w1 ⟨rfl,hb1⟩;have hz1:=hb1.size;(try simp only[zz] at hz1);have:=kfa hb1 w.heap.size)
  |(go_at_call 66;refine(sShapeOk_q _ _ _ _ _ (by with_reducible assumption)).mono ?_;rintro e w2 ⟨rfl,hb2⟩;have hz2:=hb2.size;(try simp only[zz] at hz2);have:=kfa hb2 w.heap.size)
  |(go_at_call 67;refine(l3Place_q _ _ _ _ (by with_reducible assumption)).mono ?_;rintro e w3 ⟨rfl,hb3⟩;have hz3:=hb3.size;(try simp only[zz] at hz3);have:=kfa hb3 w.heap.size)
  |(go_at_call 68;refine(l6Drive_q _ _ _ _ (by with_reducible assumption)).mono ?_;rintro e w4 ⟨rfl,hb4⟩;have hz4:=hb4.size;(try simp only[zz] at hz4);have:=kfa hb4 w.heap.size))
 go_ret
 exact⟨rfl,bel_a⟩
theorem sBodyOk_8 (V:Nat→Int) (w:World) (k0:decide (0≤V 0∧V 0≤999999999)=true) (k1:shB (V 1) (V 2) (V 3)=true) (k2:inB 2560000 (V 4) (V 5)=true) (k3:inB 20000000 (V 6) (V 7)=true) (k4:decide (0≤V 8∧V 8≤1000)=true) (k5:decide (0≤V 9∧V 9≤256)=true) (k6:decide (0≤V 10∧V 10≤256)=true) (k7:decide (0≤V 11∧V 11≤8)=true):
 Calls Tryz.prog 36 #[bodyW V] w fun e w'=>e= .returned (.bool (restB V))∧Below w.heap.size w w':=by
 have hset:=cset_map
 have k7':=k7
 simp only[decide_eq_true_eq] at k7'
 obtain⟨k70,k71⟩:=k7'
 unfold restB
 go_enter Tryz.func36,Tryz.ntmps36
 go_upto_region 3 with(first
  |(go_at_call 25;refine(l1In_q _ _ _ _ _ (by with_reducible assumption)).mono ?_;rintro e w1 ⟨rfl,hb1⟩;have hz1:=hb1.size;(try simp only[zz] at hz1);have:=kfa hb1 w.heap.size)
  |(go_at_call 66;refine(sShapeOk_q _ _ _ _ _ (by with_reducible assumption)).mono ?_;rintro e w2 ⟨rfl,hb2⟩;have hz2:=hb2.size;(try simp only[zz] at hz2);have:=kfa hb2 w.heap.size)
  |(go_at_call 67;refine(l3Place_q _ _ _ _ (by with_reducible assumption)).mono ?_;rintro e w3 ⟨rfl,hb3⟩;have hz3:=hb3.size;(try simp only[zz] at hz3);have:=kfa hb3 w.heap.size)
  |(go_at_call 68;refine(l6Drive_q _ _ _ _ (by with_reducible assumption)).mono ?_;rintro e w4 ⟨rfl,hb4⟩;have hz4:=hb4.size;(try simp only[zz] at hz4);have:=kfa hb4 w.heap.size))
 clear k0 k1 k2 k3 k4 k5 k6 k7
 by_cases f8:V 8=0<;>by_cases f11:V 11=0<;>by_cases f88:V 11<8<;>by_cases f6:V 6=0<;>by_cases f7:V 7=0
 all_goals(try(exfalso;omega))
 all_goals
  have f9:(V 11=8)=(¬ V 11<8):=propext (by omega)
  go_wp2_with fail
  all_goals
   go_ret
   exact⟨ret_bool (by simp[*]),bel_a⟩
theorem sBodyOk_q (V:Nat→Int) (b:Bool) (w:World) (e:bodyB V=b):
 Calls Tryz.prog 36 #[bodyW V] w fun e w'=>e= .returned (.bool b)∧Below w.heap.size w w':=by
 subst e
 unfold bodyB
 cases k0:decide (0≤V 0∧V 0≤999999999) with
 |false=>exact sBodyOk_0 V w k0
 | true=>
   cases k1:shB (V 1) (V 2) (V 3) with
   |false=>exact sBodyOk_1 V w k0 k1
   | true=>
     cases k2:inB 2560000 (V 4) (V 5) with
     |false=>exact sBodyOk_2 V w k0 k1 k2
     | true=>
       cases k3:inB 20000000 (V 6) (V 7) with
       |false=>exact sBodyOk_3 V w k0 k1 k2 k3
       | true=>
         cases k4:decide (0≤V 8∧V 8≤1000) with
         |false=>exact sBodyOk_4 V w k0 k1 k2 k3 k4
         | true=>
           cases k5:decide (0≤V 9∧V 9≤256) with
           |false=>exact sBodyOk_5 V w k0 k1 k2 k3 k4 k5
           | true=>
             cases k6:decide (0≤V 10∧V 10≤256) with
             |false=>exact sBodyOk_6 V w k0 k1 k2 k3 k4 k5 k6
             | true=>
               cases k7:decide (0≤V 11∧V 11≤8) with
               |false=>exact sBodyOk_7 V w k0 k1 k2 k3 k4 k5 k6 k7
               | true=>
                 simp only[Bool.true_and]
                 exact sBodyOk_8 V w k0 k1 k2 k3 k4 k5 k6 k7
theorem bodyB_bd {V:Nat→Int} (h:bodyB V=true):(0≤V 8∧V 8≤1000)∧(0≤V 11∧V 11≤8)∧(-2560000≤V 4∧V 4≤2560000)∧(-2560000≤V 5∧V 5≤2560000)∧(-20000000≤V 6∧V 6≤20000000)∧(-20000000≤V 7∧V 7≤20000000)∧(0≤V 9∧V 9≤256)∧(0≤V 10∧V 10≤256)∧shB (V 1) (V 2) (V 3)=true∧restB V=true:=by
 unfold bodyB at h
 simp only[Bool.and_eq_true,decide_eq_true_eq] at h
 obtain⟨a0,a1,a2,a3,a4,a5,a6,a7,a8⟩:=h
 obtain⟨p1,p2⟩:=inB_of a2
 obtain⟨q1,q2⟩:=inB_of a3
 exact⟨a4,a7,p1,p2,q1,q2,a5,a6,a1,a8⟩
def spX (V:Nat→Int):Int:=if V 8=0 then 0 else (V 6).tdiv (V 8)
def spY (V:Nat→Int):Int:=if V 8=0 then 0 else (V 7).tdiv (V 8)
end Go.Proofs.YtcalhcfinkhemaaGreatDoor
namespace Go.Proofs.YtcalhcfinkhemaaGreatDoor
open Go.RowKit
set_option linter.unusedVariables false
set_option linter.unusedSimpArgs false
theorem OwnL.fresh0 (w:World) (base t k:Nat) (U:Nat→Int) (s:Nat) (e:w.heap.size=s) (h:base≤w.heap.size):OwnL (w.alloc (.cells #[] t)) base t k (.slice (Option.some ⟨s,0,none⟩) 0 0) 0 U:=by
 subst e
 exact⟨by simp[numL],.inr ⟨w.heap.size,0, #[],rfl,h,Go.Deep.blk_alloc_new _ _,Nat.le_refl _,Nat.zero_le _,by simp,by simp[numL]⟩⟩
theorem OwnL.drewO {w:World} {base t k n:Nat} {v:Value} {U:Nat→Int} (h:OwnL w base t k v n U):OwnL w.drew base t k v n U:=World.ownsRow.drew h
theorem cat_0 (k:Nat) (X Y:Nat→Int):∀ q,cat (0*k) X Y q=Y q:=by intro q;simp[cat]
section
variable {P:Program} {ops:Array Oper} {o:Oper} {a:Act} {w:World} {Q:Exit→Act→World→Prop}
theorem wpList_app0 {rest:List Oper} (hgd:o.guard=none) (s x:Operand) (t:TypeId) (ho:o.op= .call {callee:= .builtin .append,args:= #[s,x],argTypes:= #[t,t]})
 (base e k bytes:Nat) (z:Value) (ht:P.underlying t=some (.slice e)) (hinfo:(P.info? e).map (fun i=>(i.zero,i.size,i.bytes))=some (some z,k,bytes)) (hzs:z.cells.size=k) (hk:0<k)
 (v:Value) (U:Nat→Int) (hs:a.eval s=v) (h:OwnL w base e k v 0 U) (ad:Option Addr) (m c:Nat) (X:Nat→Int) (hxx:a.eval x= .slice ad m c) (hx:Flat w ad (m*k) X)
 (h63:m≤maxLen) (hbytes:m*bytes≤140737488355328) (hbase:base≤w.heap.size)
 (hK:∀ a' c' w',OwnL w' base e k (.slice a' m c') m X→w.grownBy w' v.ownBlock→wpList P ops Q rest (a.put o.dst (.slice a' m c')) w'):wpList P ops Q (o::rest) a w:=
 wpList_app hgd s x t ho base e k bytes z ht hinfo hzs hk v 0 U hs h ad m c X hxx hx (by rw[Nat.zero_add];exact h63) (by rw[Nat.zero_add];exact hbytes) hbase fun a' c' w' h1 h2=>by
  rw[Nat.zero_add] at h1 ⊢
  exact hK a' c' w' (h1.congr fun q _=>cat_0 k _ _ q) h2
end
theorem l8Copy_any (a:Option Addr) (n c:Nat) (U:Nat→Int) (w:World) (h:Flat w a (n*12) U) (hn:n≤1048576):
 Calls Tryz.prog 35 #[.slice a n c] w fun e w'=>∃ a1 c1,e= .returned (.slice a1 n c1)∧OutL w w' 33 12 a1 n c1 U:=by
 have hset:=cset_map
 have hE:Below w.heap.size w (w.alloc (.cells #[] 33)):=(Below.refl _ _).alloc (Nat.le_refl _) _
 have ho:=OwnL.fresh0 w w.heap.size 33 12 (fun _=>0) _ rfl (Nat.le_refl _)
 go_enter Tryz.func35,Tryz.ntmps35
 go_wp2_with (refine wpList_app0 rfl _ _ _ rfl w.heap.size 33 12 96 zcBody Tryz.underlying23 infoItBody rfl (by decide) _ (fun _=>0) rfl ho _ n _ U rfl (h.below hE) (by unfold maxLen;omega) (by omega) (by simp) ?_;intro a1 c1 w1 ho1 hg1)
 go_ret
 exact⟨_,_,rfl,hE.grown hg1 (by simp) (fun b e=>(ho.lt b e).1),ho1⟩
def putRow (U:Nat→Int) (p:Nat) (V:Nat→Int):Nat→Int:=fun q=>if p*12≤q∧q<p*12+12 then V (q-p*12) else U q
theorem put12 {w4:World} {base n g c p:Nat} {U:Nat→Int} (h:OwnL w4 base 33 12 (.slice (some ⟨g,0,none⟩) n c) n U) (hp:p<n) (V:Nat→Int):
 OwnL ((((((((((((w4.setCell ⟨g,p*12,none⟩ (.int .i64 (V 0))).setCell ⟨g,p*12+1,none⟩ (.int .i64 (V 1))).setCell ⟨g,p*12+2,none⟩ (.int .i64 (V 2))).setCell ⟨g,p*12+3,none⟩ (.int .i64 (V 3))).setCell ⟨g,p*12+4,none⟩ (.int .i64 (V 4))).setCell ⟨g,p*12+5,none⟩ (.int .i64 (V 5))).setCell ⟨g,p*12+6,none⟩ (.int .i64 (V 6))).setCell ⟨g,p*12+7,none⟩ (.int .i64 (V 7))).setCell ⟨g,p*12+8,none⟩ (.int .i64 (V 8))).setCell ⟨g,p*12+9,none⟩ (.int .i64 (V 9))).setCell ⟨g,p*12+10,none⟩ (.int .i64 (V 10))).setCell ⟨g,p*12+11,none⟩ (.int .i64 (V 11))) base 33 12 (.slice (some ⟨g,0,none⟩) n c) n (putRow U p V):=by
 have q1:=h.setq (p*12) (by omega) (V 0)
 have q2:=q1.setq (p*12+1) (by omega) (V 1)
 have q3:=q2.setq (p*12+2) (by omega) (V 2)
 have q4:=q3.setq (p*12+3) (by omega) (V 3)
 have q5:=q4.setq (p*12+4) (by omega) (V 4)
 have q6:=q5.setq (p*12+5) (by omega) (V 5)
 have q7:=q6.setq (p*12+6) (by omega) (V 6)
 have q8:=q7.setq (p*12+7) (by omega) (V 7)
 have q9:=q8.setq (p*12+8) (by omega) (V 8)
 have q10:=q9.setq (p*12+9) (by omega) (V 9)
 have q11:=q10.setq (p*12+10) (by omega) (V 10)
 have q12:=q11.setq (p*12+11) (by omega) (V 11)
 refine q12.congr fun q _=> ?_
 unfold putRow
 by_cases e:p*12≤q∧q<p*12+12
 · rw[if_pos e]
   obtain⟨d,rfl⟩:∃ d,q=p*12+d:=⟨q-p*12,by omega⟩
   rw[Nat.add_sub_cancel_left]
   rcases(show d=0∨d=1∨d=2∨d=3∨d=4∨d=5∨d=6∨d=7∨d=8∨d=9∨d=10∨d=11 by omega) with rfl|rfl|rfl|rfl|rfl|rfl|rfl|rfl|rfl|rfl|rfl|rfl<;>simp
 · rw[if_neg e]
   repeat rw[if_neg (by omega)]
theorem putFr {w4:World} {g p:Nat} (V:Nat→Int):Fr (fun b=>b=g) w4 ((((((((((((w4.setCell ⟨g,p*12,none⟩ (.int .i64 (V 0))).setCell ⟨g,p*12+1,none⟩ (.int .i64 (V 1))).setCell ⟨g,p*12+2,none⟩ (.int .i64 (V 2))).setCell ⟨g,p*12+3,none⟩ (.int .i64 (V 3))).setCell ⟨g,p*12+4,none⟩ (.int .i64 (V 4))).setCell ⟨g,p*12+5,none⟩ (.int .i64 (V 5))).setCell ⟨g,p*12+6,none⟩ (.int .i64 (V 6))).setCell ⟨g,p*12+7,none⟩ (.int .i64 (V 7))).setCell ⟨g,p*12+8,none⟩ (.int .i64 (V 8))).setCell ⟨g,p*12+9,none⟩ (.int .i64 (V 9))).setCell ⟨g,p*12+10,none⟩ (.int .i64 (V 10))).setCell ⟨g,p*12+11,none⟩ (.int .i64 (V 11))):=
 (((((((((((((Fr.refl (fun b=>b=g) w4).trans (Fr.setCell (X:=fun b=>b=g) rfl _)).trans (Fr.setCell (X:=fun b=>b=g) rfl _)).trans (Fr.setCell (X:=fun b=>b=g) rfl _)).trans (Fr.setCell (X:=fun b=>b=g) rfl _)).trans (Fr.setCell (X:=fun b=>b=g) rfl _)).trans (Fr.setCell (X:=fun b=>b=g) rfl _)).trans (Fr.setCell (X:=fun b=>b=g) rfl _)).trans (Fr.setCell (X:=fun b=>b=g) rfl _)).trans (Fr.setCell (X:=fun b=>b=g) rfl _)).trans (Fr.setCell (X:=fun b=>b=g) rfl _)).trans (Fr.setCell (X:=fun b=>b=g) rfl _)).trans (Fr.setCell (X:=fun b=>b=g) rfl _))
theorem OutL.on {w w1 w2:World} {t k n c:Nat} {a:Option Addr} {R:Nat→Int} (h:OutL w w1 t k a n c R) (hb:Below w1.heap.size w1 w2):OutL w w2 t k a n c R:=⟨h.bel.trans (hb.mono h.bel.size),h.own.below hb⟩
theorem l6Sleeps_k (V:Nat→Int) (w:World) (b:Bool) (e:decide (8≤V 11)=b):
 Calls Tryz.prog 41 #[bodyW V] w fun e w'=>e= .returned (.bool b)∧Below w.heap.size w w':=by
 have hset:=cset_map
 subst e
 go_enter Tryz.func41,Tryz.ntmps41
 go_wp2_with fail
 go_ret
 exact⟨ret_bool (by simp),bel_a⟩
theorem l6Speed_any (V:Nat→Int) (w:World) (b6: -20000000≤V 6∧V 6≤20000000) (b7: -20000000≤V 7∧V 7≤20000000):
 Calls Tryz.prog 79 #[bodyW V] w fun e w'=>e= .returned (vv (spX V) (spY V))∧Below w.heap.size w w':=by
 have t6:=tdiv_bd (x:=V 6) (B:=20000000) (V 8) (by omega)
 have t7:=tdiv_bd (x:=V 7) (B:=20000000) (V 8) (by omega)
 have e6:IntKind.i64.wrap ((V 6).tdiv (V 8))=(V 6).tdiv (V 8):=i64w (by omega)
 have e7:IntKind.i64.wrap ((V 7).tdiv (V 8))=(V 7).tdiv (V 8):=i64w (by omega)
 have hset:=cset_map
 unfold spX spY
 by_cases m:V 8=0
 · rw[if_pos m,if_pos m]
   go_enter Tryz.func79,Tryz.ntmps79
   go_wp2_with fail
   exact bodyPost_ret (v:=vv 0 0) (by simp[results,Tryz.results79,go_sem, *]) rfl ⟨rfl,bel_a⟩
 · rw[if_neg m,if_neg m]
   go_enter Tryz.func79,Tryz.ntmps79
   go_upto_region 3 with fail
   refine wp_region_held_drew (S:=fun w'=>w'.cell? ⟨w.heap.size,0,none⟩=some (.int .i64 (V 0))∧w'.cell? ⟨w.heap.size,1,none⟩=some (.int .i64 (V 1))∧w'.cell? ⟨w.heap.size,2,none⟩=some (.int .i64 (V 2))∧w'.cell? ⟨w.heap.size,3,none⟩=some (.int .i64 (V 3))∧w'.cell? ⟨w.heap.size,4,none⟩=some (.int .i64 (V 4))∧w'.cell? ⟨w.heap.size,5,none⟩=some (.int .i64 (V 5))∧w'.cell? ⟨w.heap.size,6,none⟩=some (.int .i64 (V 6))∧w'.cell? ⟨w.heap.size,7,none⟩=some (.int .i64 (V 7))∧w'.cell? ⟨w.heap.size,8,none⟩=some (.int .i64 (V 8))∧w'.cell? ⟨w.heap.size,9,none⟩=some (.int .i64 (V 9))∧w'.cell? ⟨w.heap.size,10,none⟩=some (.int .i64 (V 10))∧w'.cell? ⟨w.heap.size,11,none⟩=some (.int .i64 (V 11))) (by kernel_rfl) ?_ (fun hHeld=> ?_)
   · (try dsimp only)
     (first|(go_simp;done)|(go_keep;done))
   refine tq 0 hHeld ?_
   refine tq 1 hHeld ?_
   refine tq 2 hHeld ?_
   refine tq 3 hHeld ?_
   refine tq 4 hHeld ?_
   refine tq 5 hHeld ?_
   refine tq 6 hHeld ?_
   refine tq 7 hHeld ?_
   refine tq 8 hHeld ?_
   refine tq 9 hHeld ?_
   refine tq 10 hHeld ?_
   refine tq 11 hHeld ?_
   refine tq 12 hHeld ?_
   (refine tc 13 fun K hK=> ?_;go_simp;refine tr hK (fun hHeld=> ?_);clear hK K)
   refine wpAnyH_done (by kernel_rfl) ?_ _
   go_wp2_with fail
   exact bodyPost_ret (v:=vv ((V 6).tdiv (V 8)) ((V 7).tdiv (V 8))) (by simp[results,Tryz.results79,go_sem, *]) rfl ⟨rfl,bel_a⟩
end Go.Proofs.YtcalhcfinkhemaaGreatDoor
namespace Go.Proofs.YtcalhcfinkhemaaGreatDoor
open Go.RowKit Go.Extern.Stop Go.Stop Go.Extern
set_option linter.unusedVariables false
set_option linter.unusedSimpArgs false
theorem rl_valPP (t:Addr) (w:World):(ReflectliteValue.unpack (.iface 101 (.pointer (some t)))).run Tryz.prog w= .ok (.agg #[.pointer (some ⟨1,101,none⟩),.pointer (some ⟨w.heap.size,0,none⟩),.int .u64 150]) (w.alloc (.cells #[.pointer (some t)] 101)):=by kernel_rfl
theorem rl_valP (e:Addr) (w:World):(ReflectliteValue.unpack (.iface 99 (.pointer (some e)))).run Tryz.prog w= .ok (.agg #[.pointer (some ⟨1,99,none⟩),.pointer (some ⟨w.heap.size,0,none⟩),.int .u64 150]) (w.alloc (.cells #[.pointer (some e)] 99)):=by kernel_rfl
theorem rl_type (a:Addr) (w:World):(ReflectliteValue.methodAny (ReflectliteValue.valueError "reflectlite.Value.Type" 0) (fun t _ _ _=>ReflectliteType.toType t) #[.agg #[.pointer (some ⟨1,101,none⟩),.pointer (some a),.int .u64 150]]).run Tryz.prog w= .ok (.iface 176 (.agg #[.pointer (some ⟨1,101,none⟩)])) w:=by kernel_rfl
theorem rl_mK (h:Value) (w:World):(Go.method 381 176 (.agg #[h]) "Kind").run Tryz.prog w= .ok ((217,h)) w:=by kernel_rfl
theorem rl_mE (h:Value) (w:World):(Go.method 381 176 (.agg #[h]) "Elem").run Tryz.prog w= .ok ((231,.agg #[h])) w:=by kernel_rfl
theorem rl_mI (h:Value) (w:World):(Go.method 381 176 (.agg #[h]) "Implements").run Tryz.prog w= .ok ((232,.agg #[h])) w:=by kernel_rfl
theorem rl_mA (h:Value) (w:World):(Go.method 381 176 (.agg #[h]) "AssignableTo").run Tryz.prog w= .ok ((229,.agg #[h])) w:=by kernel_rfl
theorem rl_kPP (w:World):((ReflectliteType.abiMethod fun t=>(fun a:Nat=>Value.int IntKind.u8 (a:Int))<$>Rtype.kind t) #[.pointer (some ⟨1,101,none⟩)]).run Tryz.prog w= .ok (.int .u8 22) w:=by kernel_rfl
theorem rl_kP (w:World):((ReflectliteType.abiMethod fun t=>(fun a:Nat=>Value.int IntKind.u8 (a:Int))<$>Rtype.kind t) #[.pointer (some ⟨1,99,none⟩)]).run Tryz.prog w= .ok (.int .u8 22) w:=by kernel_rfl
theorem rl_elem (w:World):(ReflectliteType.method ReflectliteType.elem #[.agg #[.pointer (some ⟨1,101,none⟩)]]).run Tryz.prog w= .ok (.iface 176 (.agg #[.pointer (some ⟨1,99,none⟩)])) w:=by kernel_rfl
theorem rl_impl (w:World):(ReflectliteType.relation "Implements" ReflectliteType.implements_ #[.agg #[.pointer (some ⟨1,99,none⟩)],.iface 176 (.agg #[.pointer (some ⟨1,64,none⟩)])]).run Tryz.prog w= .ok (.bool true) w:=by kernel_rfl
theorem rl_typeOf (v:Value) (w:World):(ReflectliteType.typeOf #[.iface 99 v]).run Tryz.prog w= .ok (.iface 176 (.agg #[.pointer (some ⟨1,99,none⟩)])) w:=by kernel_rfl
theorem rl_asg (w:World):(ReflectliteType.relation "AssignableTo" ReflectliteType.assignableTo #[.agg #[.pointer (some ⟨1,99,none⟩)],.iface 176 (.agg #[.pointer (some ⟨1,99,none⟩)])]).run Tryz.prog w= .ok (.bool true) w:=by kernel_rfl
theorem rl_m (z:Sem Value) (f:TypeId→Addr→Nat→Nat→Sem Value) (v:Value):ReflectliteValue.method z f #[v]=(do match←ReflectliteValue.parts v with|none=>z|some (t,a,fl)=>f t a fl (fl % 32)):=rfl
theorem rl_partsPP (a:Addr) (w:World):(ReflectliteValue.parts (.agg #[.pointer (some ⟨1,101,none⟩),.pointer (some a),.int .u64 150])).run Tryz.prog w= .ok (some (101,a,150)) w:=by kernel_rfl
theorem rl_partsP (a:Addr) (w:World):(ReflectliteValue.parts (.agg #[.pointer (some ⟨1,99,none⟩),.pointer (some a),.int .u64 150])).run Tryz.prog w= .ok (some (99,a,150)) w:=by kernel_rfl
theorem rl_partsA (a:Addr) (w:World):(ReflectliteValue.parts (.agg #[.pointer (some ⟨1,99,none⟩),.pointer (some a),.int .u64 406])).run Tryz.prog w= .ok (some (99,a,406)) w:=by kernel_rfl
theorem rl_eOf (w:World):(Rtype.elem? 101).run Tryz.prog w= .ok (some 99) w:=by kernel_rfl
theorem rl_mk (p:Addr) (w:World):(ReflectliteValue.mk 99 p ReflectliteValue.flagAddr).run Tryz.prog w= .ok (.agg #[.pointer (some ⟨1,99,none⟩),.pointer (some p),.int .u64 406]) w:=by kernel_rfl
theorem rl_dir (w:World):(Rtype.directlyAssignable 99 99).run Tryz.prog w= .ok (true) w:=by kernel_rfl
theorem rl_isNil (a p:Addr) (W:World) (ha:W.cell? a=some (.pointer (some p))):(ReflectliteValue.method (ReflectliteValue.valueError "reflectlite.Value.IsNil" 0) ReflectliteValue.isNil #[.agg #[.pointer (some ⟨1,101,none⟩),.pointer (some a),.int .u64 150]]).run Tryz.prog W= .ok (.bool false) W:=by
 rw[rl_m]
 simp only[Sem.run_bind,rl_partsPP,Result.andThen]
 simp[ReflectliteValue.isNil,loadVar,isAgg,underlying,Tryz.underlying101,ha,Result.andThen]
theorem rl_elemV (a p:Addr) (W:World) (ha:W.cell? a=some (.pointer (some p))):(ReflectliteValue.method (ReflectliteValue.valueError "reflectlite.Value.Elem" 0) ReflectliteValue.elem #[.agg #[.pointer (some ⟨1,101,none⟩),.pointer (some a),.int .u64 150]]).run Tryz.prog W= .ok (.agg #[.pointer (some ⟨1,99,none⟩),.pointer (some p),.int .u64 406]) W:=by
 rw[rl_m]
 simp only[Sem.run_bind,rl_partsPP,Result.andThen]
 simp[ReflectliteValue.elem,loadVar,isAgg,underlying,Tryz.underlying101,ha,Result.andThen,rl_eOf,rl_mk]
theorem rl_two {motive:Array Value→Sort _} (v x:Value) (f:∀ v x,motive #[v,x]) (g:∀ a,motive a):ReflectliteValue.set.match_3 motive #[v,x] f g=f v x:=rfl
theorem rl_set (ta b e:Addr) (old:Value) (W:World) (hb:W.cell? b=some (.pointer (some e))) (ht:W.cell? ta=some old) (hf:W.frozen? ta=false):
 (ReflectliteValue.set #[.agg #[.pointer (some ⟨1,99,none⟩),.pointer (some ta),.int .u64 406],.agg #[.pointer (some ⟨1,99,none⟩),.pointer (some b),.int .u64 150]]).run Tryz.prog W= .ok (.tuple #[]) (W.setCell ta (.pointer (some e))):=by
 delta ReflectliteValue.set
 rw[rl_two]
 simp only[Sem.run_bind,rl_partsA,rl_partsP,Result.andThen]
 simp[ReflectliteValue.flagAddr,loadVar,isAgg,underlying,Tryz.underlying99,hb,Result.andThen,rl_dir,storeVar,Value.cells,storeCells,Addr.add]
 rw[run_store Tryz.prog W ta _ _ (by rfl)]
 simp[ht,hf]
theorem as_refusal (e t:Addr) (old:Value) (w:World) (hg:w.cell? ⟨0,0,none⟩=some (.iface 176 (.agg #[.pointer (some ⟨1,64,none⟩)]))) (ht0:w.cell? t=some old) (hf0:w.frozen? t=false):
 Calls Tryz.prog 65 #[.iface 99 (.pointer (some e)),.iface 101 (.pointer (some t))] w fun ev w'=>ev= .returned (.bool true)∧w'=((((w.alloc (.cells #[.pointer (some t)] 101)).alloc (.cells #[.pointer (some ⟨1,101,none⟩),.pointer (some ⟨w.heap.size,0,none⟩),.int .u64 150] 144)).alloc (.cells #[.pointer (some ⟨1,101,none⟩),.pointer (some ⟨w.heap.size,0,none⟩),.int .u64 150] 144)).alloc (.cells #[.pointer (some e)] 99)).setCell t (.pointer (some e)):=by
 have h1:= @run_callFunc_extern Tryz.prog 97 _ (fun args=>ReflectliteValue.unpack (args.getD 0 (.tuple #[]))) Tryz.func97 (by kernel_rfl) (by kernel_rfl) (by kernel_rfl) (by kernel_rfl)
 have h2:= @run_callFunc_extern Tryz.prog 98 _ (ReflectliteValue.methodAny (ReflectliteValue.valueError "reflectlite.Value.Type" 0) (fun t _ _ _=>ReflectliteType.toType t)) Tryz.func98 (by kernel_rfl) (by kernel_rfl) (by kernel_rfl) (by kernel_rfl)
 have h3:= @run_callFunc_extern Tryz.prog 99 _ (ReflectliteValue.method (ReflectliteValue.valueError "reflectlite.Value.IsNil" 0) ReflectliteValue.isNil) Tryz.func99 (by kernel_rfl) (by kernel_rfl) (by kernel_rfl) (by kernel_rfl)
 have h4:= @run_callFunc_extern Tryz.prog 217 _ (ReflectliteType.abiMethod fun t=>do pure (.int .u8 (←Rtype.kind t))) Tryz.func217 (by kernel_rfl) (by kernel_rfl) (by kernel_rfl) (by kernel_rfl)
 have h5:= @run_callFunc_extern Tryz.prog 231 _ (ReflectliteType.method ReflectliteType.elem) Tryz.func231 (by kernel_rfl) (by kernel_rfl) (by kernel_rfl) (by kernel_rfl)
 have h6:= @run_callFunc_extern Tryz.prog 232 _ (ReflectliteType.relation "Implements" ReflectliteType.implements_) Tryz.func232 (by kernel_rfl) (by kernel_rfl) (by kernel_rfl) (by kernel_rfl)
 have h7:= @run_callFunc_extern Tryz.prog 125 _ (ReflectliteType.typeOf) Tryz.func125 (by kernel_rfl) (by kernel_rfl) (by kernel_rfl) (by kernel_rfl)
 have h8:= @run_callFunc_extern Tryz.prog 229 _ (ReflectliteType.relation "AssignableTo" ReflectliteType.assignableTo) Tryz.func229 (by kernel_rfl) (by kernel_rfl) (by kernel_rfl) (by kernel_rfl)
 have h9:= @run_callFunc_extern Tryz.prog 126 _ (ReflectliteValue.method (ReflectliteValue.valueError "reflectlite.Value.Elem" 0) ReflectliteValue.elem) Tryz.func126 (by kernel_rfl) (by kernel_rfl) (by kernel_rfl) (by kernel_rfl)
 have h10:= @run_callFunc_extern Tryz.prog 127 _ (ReflectliteValue.set) Tryz.func127 (by kernel_rfl) (by kernel_rfl) (by kernel_rfl) (by kernel_rfl)
 have k0:=rl_typeOf
 have k1:=rl_mA
 have k2:=rl_asg
 have k3:=rl_valP
 have k4:=rl_valPP
 have k5:=rl_type
 have k6:=rl_mK
 have k7:=rl_mE
 have k8:=rl_mI
 have k9:=rl_kPP
 have k10:=rl_kP
 have k11:=rl_elem
 have k12:=rl_impl
 have n8:=rl_isNil ⟨w.heap.size,0,none⟩ t ((w.alloc (.cells #[.pointer (some t)] 101)).alloc (.cells #[.pointer (some ⟨1,101,none⟩),.pointer (some ⟨w.heap.size,0,none⟩),.int .u64 150] 144)) (by simp)
 have hlt:0<w.heap.size:=by
  rcases Nat.eq_zero_or_pos w.heap.size with h0|h
  · simp[World.cell?,h0] at hg
  · exact h
 have hg2:((w.alloc (.cells #[.pointer (some t)] 101)).alloc (.cells #[.pointer (some ⟨1,101,none⟩),.pointer (some ⟨w.heap.size,0,none⟩),.int .u64 150] 144)).cell? ⟨0,0,none⟩=some (.iface 176 (.agg #[.pointer (some ⟨1,64,none⟩)])):=by
  rw[World.cell?_alloc_lt _ _ ⟨0,0,none⟩ (by simp),World.cell?_alloc_lt _ _ ⟨0,0,none⟩ hlt];exact hg
 have htl:t.block<w.heap.size:=by
  rcases Nat.lt_or_ge t.block w.heap.size with h|h
  · exact h
  · simp[World.cell?,Array.getElem?_eq_none h] at ht0
 have el:=rl_elemV ⟨w.heap.size,0,none⟩ t (((w.alloc (.cells #[.pointer (some t)] 101)).alloc (.cells #[.pointer (some ⟨1,101,none⟩),.pointer (some ⟨w.heap.size,0,none⟩),.int .u64 150] 144)).alloc (.cells #[.pointer (some ⟨1,101,none⟩),.pointer (some ⟨w.heap.size,0,none⟩),.int .u64 150] 144)) (by rw[World.cell?_alloc_lt _ _ ⟨w.heap.size,0,none⟩ (by simp;omega)];simp)
 have st:=rl_set t ⟨w.heap.size+1+1+1,0,none⟩ e old ((((w.alloc (.cells #[.pointer (some t)] 101)).alloc (.cells #[.pointer (some ⟨1,101,none⟩),.pointer (some ⟨w.heap.size,0,none⟩),.int .u64 150] 144)).alloc (.cells #[.pointer (some ⟨1,101,none⟩),.pointer (some ⟨w.heap.size,0,none⟩),.int .u64 150] 144)).alloc (.cells #[.pointer (some e)] 99))
  (by rw[World.cell?_alloc_at _ _ _ _ (by simp)];rfl)
  (by rw[World.cell?_alloc_lt _ _ t (by simp;omega),World.cell?_alloc_lt _ _ t (by simp;omega),World.cell?_alloc_lt _ _ t (by simp;omega),World.cell?_alloc_lt _ _ t htl];exact ht0)
  (by rw[World.frozen?_alloc_old _ _ t (by simp;omega),World.frozen?_alloc_old _ _ t (by simp;omega),World.frozen?_alloc_old _ _ t (by simp;omega),World.frozen?_alloc_old _ _ t (Nat.ne_of_lt htl)];exact hf0)
 go_enter Tryz.func65,Tryz.ntmps65
 go_wp2
 refine wp_loop_rounds 1 ?_
 rw[rounds_succ]
 go_wp2
 go_ret
 exact⟨rfl,rfl⟩
theorem as_nil (x:Value) (w:World):Calls Tryz.prog 65 #[.nilIface,x] w fun e w'=>e= .returned (.bool false)∧w'=w:=by
 go_enter Tryz.func65,Tryz.ntmps65
 go_wp2
 go_ret
 exact⟨rfl,rfl⟩
theorem refused_nil (w:World):Calls Tryz.prog 34 #[.nilIface] w fun e w'=>e= .returned (.bool false)∧Below w.heap.size w w':=by
 go_enter Tryz.func34,Tryz.ntmps34
 go_wp2_with (go_at_call 65;refine(as_nil _ _).mono ?_;rintro e w1 ⟨rfl,rfl⟩)
 go_ret
 exact⟨rfl,(Below.refl _ _).alloc (Nat.le_refl _) _⟩
theorem refused_yes (e:Addr) (w:World) (hg:w.cell? ⟨0,0,none⟩=some (.iface 176 (.agg #[.pointer (some ⟨1,64,none⟩)]))):Calls Tryz.prog 34 #[.iface 99 (.pointer (some e))] w fun e w'=>e= .returned (.bool true)∧Below w.heap.size w w':=by
 have hlt:0<w.heap.size:=by
  rcases Nat.eq_zero_or_pos w.heap.size with h0|h
  · simp[World.cell?,h0] at hg
  · exact h
 have hg1:(w.alloc (.cells #[.pointer none] 99)).cell? ⟨0,0,none⟩=some (.iface 176 (.agg #[.pointer (some ⟨1,64,none⟩)])):=by rw[World.cell?_alloc_lt _ _ ⟨0,0,none⟩ hlt];exact hg
 go_enter Tryz.func34,Tryz.ntmps34
 go_wp2_with (go_at_call 65;refine(as_refusal e ⟨w.heap.size,0,none⟩ (.pointer none) _ hg1 (by go_simp) (by go_simp)).mono ?_;rintro e w1 ⟨rfl,rfl⟩)
 go_ret
 exact⟨rfl,bel_a⟩
end Go.Proofs.YtcalhcfinkhemaaGreatDoor
