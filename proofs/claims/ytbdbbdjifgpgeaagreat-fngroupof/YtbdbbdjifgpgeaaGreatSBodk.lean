/- Texts of a proof. -/
import Derived.Test.YtbdbbdjifgpgeaaGreatB5
import Derived.Test.YtbdbbdjifgpgeaaGreatB3
import Derived.Test.YtbdbbdjifgpgeaaGreatB8
import Derived.Deep.RegionHeld3
import Derived.Deep.DeepCutAuto
set_option maxHeartbeats 16000000
set_option maxRecDepth 20000
namespace Go.Proofs.YtbdbbdjifgpgeaaGreat
open Go.RowKit
set_option linter.unusedVariables false
set_option linter.unusedSimpArgs false
abbrev bodyW (V:Nat→Int):Value:= .agg #[.int .i64 (V 0),.int .i64 (V 1),.int .i64 (V 2),.int .i64 (V 3),.int .i64 (V 4),.int .i64 (V 5),.int .i64 (V 6),.int .i64 (V 7),.int .i64 (V 8),.int .i64 (V 9),.int .i64 (V 10),.int .i64 (V 11)]
theorem l1In_q (n l h:Int) (b:Bool) (w:World) (e:decide (l≤n∧n≤h)=b):
 Calls Tryz.prog 37 #[.int .i64 n,.int .i64 l,.int .i64 h] w fun e w'=>e= .returned (.bool b)∧Below w.heap.size w w':=by
 subst e;exact(l1In_any n l h w).mono fun e w' ⟨a,b⟩=>⟨a,b▸Below.refl _ _⟩
theorem sShapeOk_q (k wd h:Int) (b:Bool) (w:World) (e:shB k wd h=b):
 Calls Tryz.prog 38 #[s3 k wd h] w fun e w'=>e= .returned (.bool b)∧Below w.heap.size w w':=by
 subst e;exact sShapeOk_any k wd h w
theorem l3Place_q (x y:Int) (b:Bool) (w:World) (e:inB 2560000 x y=b):
 Calls Tryz.prog 39 #[vv x y] w fun e w'=>e= .returned (.bool b)∧Below w.heap.size w w':=by
 subst e;exact l3Place_any x y w
theorem l6Drive_any (x y:Int) (w:World):
 Calls Tryz.prog 40 #[vv x y] w fun e w'=>e= .returned (.bool (inB 20000000 x y))∧Below w.heap.size w w':=by
 have hset:=cset_map
 go_enter Tryz.func40,Tryz.ntmps40
 go_wp2_with (go_at_call 37;refine(l1In_any _ _ _ _).mono ?_;rintro e w' ⟨rfl,rfl⟩)
 all_goals
  go_ret
  refine⟨ret_bool ?_,bel_a⟩
  unfold inB
  first|(simp[*];done)|(simp at*;omega)|(simp[*];omega)
theorem l6Drive_q (x y:Int) (b:Bool) (w:World) (e:inB 20000000 x y=b):
 Calls Tryz.prog 40 #[vv x y] w fun e w'=>e= .returned (.bool b)∧Below w.heap.size w w':=by
 subst e;exact l6Drive_any x y w
theorem sBodyOk_0 (V:Nat→Int) (w:World) (k0:decide (0≤V 0∧V 0≤999999999)=false):
 Calls Tryz.prog 21 #[bodyW V] w fun e w'=>e= .returned (.bool false)∧Below w.heap.size w w':=by
 have hset:=cset_map
 go_enter Tryz.func21,Tryz.ntmps21
 go_wp2_with (first
  |(go_at_call 37;refine(l1In_q _ _ _ _ _ (by with_reducible assumption)).mono ?_;rintro e w1 ⟨rfl,hb1⟩;have hz1:=hb1.size;(try simp only[zz] at hz1);have:=kfa hb1 w.heap.size)
  |(go_at_call 38;refine(sShapeOk_q _ _ _ _ _ (by with_reducible assumption)).mono ?_;rintro e w2 ⟨rfl,hb2⟩;have hz2:=hb2.size;(try simp only[zz] at hz2);have:=kfa hb2 w.heap.size)
  |(go_at_call 39;refine(l3Place_q _ _ _ _ (by with_reducible assumption)).mono ?_;rintro e w3 ⟨rfl,hb3⟩;have hz3:=hb3.size;(try simp only[zz] at hz3);have:=kfa hb3 w.heap.size)
  |(go_at_call 40;refine(l6Drive_q _ _ _ _ (by with_reducible assumption)).mono ?_;rintro e w4 ⟨rfl,hb4⟩;have hz4:=hb4.size;(try simp only[zz] at hz4);have:=kfa hb4 w.heap.size))
 go_ret
 exact⟨rfl,bel_a⟩
theorem sBodyOk_1 (V:Nat→Int) (w:World) (k0:decide (0≤V 0∧V 0≤999999999)=true) (k1:shB (V 1) (V 2) (V 3)=false):
 Calls Tryz.prog 21 #[bodyW V] w fun e w'=>e= .returned (.bool false)∧Below w.heap.size w w':=by
 have hset:=cset_map
 go_enter Tryz.func21,Tryz.ntmps21
 go_wp2_with (first
  |(go_at_call 37;refine(l1In_q _ _ _ _ _ (by with_reducible assumption)).mono ?_;rintro e w1 ⟨rfl,hb1⟩;have hz1:=hb1.size;(try simp only[zz] at hz1);have:=kfa hb1 w.heap.size)
  |(go_at_call 38;refine(sShapeOk_q _ _ _ _ _ (by with_reducible assumption)).mono ?_;rintro e w2 ⟨rfl,hb2⟩;have hz2:=hb2.size;(try simp only[zz] at hz2);have:=kfa hb2 w.heap.size)
  |(go_at_call 39;refine(l3Place_q _ _ _ _ (by with_reducible assumption)).mono ?_;rintro e w3 ⟨rfl,hb3⟩;have hz3:=hb3.size;(try simp only[zz] at hz3);have:=kfa hb3 w.heap.size)
  |(go_at_call 40;refine(l6Drive_q _ _ _ _ (by with_reducible assumption)).mono ?_;rintro e w4 ⟨rfl,hb4⟩;have hz4:=hb4.size;(try simp only[zz] at hz4);have:=kfa hb4 w.heap.size))
 go_ret
 exact⟨rfl,bel_a⟩
theorem sBodyOk_2 (V:Nat→Int) (w:World) (k0:decide (0≤V 0∧V 0≤999999999)=true) (k1:shB (V 1) (V 2) (V 3)=true) (k2:inB 2560000 (V 4) (V 5)=false):
 Calls Tryz.prog 21 #[bodyW V] w fun e w'=>e= .returned (.bool false)∧Below w.heap.size w w':=by
 have hset:=cset_map
 go_enter Tryz.func21,Tryz.ntmps21
 go_wp2_with (first
  |(go_at_call 37;refine(l1In_q _ _ _ _ _ (by with_reducible assumption)).mono ?_;rintro e w1 ⟨rfl,hb1⟩;have hz1:=hb1.size;(try simp only[zz] at hz1);have:=kfa hb1 w.heap.size)
  |(go_at_call 38;refine(sShapeOk_q _ _ _ _ _ (by with_reducible assumption)).mono ?_;rintro e w2 ⟨rfl,hb2⟩;have hz2:=hb2.size;(try simp only[zz] at hz2);have:=kfa hb2 w.heap.size)
  |(go_at_call 39;refine(l3Place_q _ _ _ _ (by with_reducible assumption)).mono ?_;rintro e w3 ⟨rfl,hb3⟩;have hz3:=hb3.size;(try simp only[zz] at hz3);have:=kfa hb3 w.heap.size)
  |(go_at_call 40;refine(l6Drive_q _ _ _ _ (by with_reducible assumption)).mono ?_;rintro e w4 ⟨rfl,hb4⟩;have hz4:=hb4.size;(try simp only[zz] at hz4);have:=kfa hb4 w.heap.size))
 go_ret
 exact⟨rfl,bel_a⟩
theorem sBodyOk_3 (V:Nat→Int) (w:World) (k0:decide (0≤V 0∧V 0≤999999999)=true) (k1:shB (V 1) (V 2) (V 3)=true) (k2:inB 2560000 (V 4) (V 5)=true) (k3:inB 20000000 (V 6) (V 7)=false):
 Calls Tryz.prog 21 #[bodyW V] w fun e w'=>e= .returned (.bool false)∧Below w.heap.size w w':=by
 have hset:=cset_map
 go_enter Tryz.func21,Tryz.ntmps21
 go_wp2_with (first
  |(go_at_call 37;refine(l1In_q _ _ _ _ _ (by with_reducible assumption)).mono ?_;rintro e w1 ⟨rfl,hb1⟩;have hz1:=hb1.size;(try simp only[zz] at hz1);have:=kfa hb1 w.heap.size)
  |(go_at_call 38;refine(sShapeOk_q _ _ _ _ _ (by with_reducible assumption)).mono ?_;rintro e w2 ⟨rfl,hb2⟩;have hz2:=hb2.size;(try simp only[zz] at hz2);have:=kfa hb2 w.heap.size)
  |(go_at_call 39;refine(l3Place_q _ _ _ _ (by with_reducible assumption)).mono ?_;rintro e w3 ⟨rfl,hb3⟩;have hz3:=hb3.size;(try simp only[zz] at hz3);have:=kfa hb3 w.heap.size)
  |(go_at_call 40;refine(l6Drive_q _ _ _ _ (by with_reducible assumption)).mono ?_;rintro e w4 ⟨rfl,hb4⟩;have hz4:=hb4.size;(try simp only[zz] at hz4);have:=kfa hb4 w.heap.size))
 go_ret
 exact⟨rfl,bel_a⟩
theorem sBodyOk_4 (V:Nat→Int) (w:World) (k0:decide (0≤V 0∧V 0≤999999999)=true) (k1:shB (V 1) (V 2) (V 3)=true) (k2:inB 2560000 (V 4) (V 5)=true) (k3:inB 20000000 (V 6) (V 7)=true) (k4:decide (0≤V 8∧V 8≤1000)=false):
 Calls Tryz.prog 21 #[bodyW V] w fun e w'=>e= .returned (.bool false)∧Below w.heap.size w w':=by
 have hset:=cset_map
 go_enter Tryz.func21,Tryz.ntmps21
 go_wp2_with (first
  |(go_at_call 37;refine(l1In_q _ _ _ _ _ (by with_reducible assumption)).mono ?_;rintro e w1 ⟨rfl,hb1⟩;have hz1:=hb1.size;(try simp only[zz] at hz1);have:=kfa hb1 w.heap.size)
  |(go_at_call 38;refine(sShapeOk_q _ _ _ _ _ (by with_reducible assumption)).mono ?_;rintro e w2 ⟨rfl,hb2⟩;have hz2:=hb2.size;(try simp only[zz] at hz2);have:=kfa hb2 w.heap.size)
  |(go_at_call 39;refine(l3Place_q _ _ _ _ (by with_reducible assumption)).mono ?_;rintro e w3 ⟨rfl,hb3⟩;have hz3:=hb3.size;(try simp only[zz] at hz3);have:=kfa hb3 w.heap.size)
  |(go_at_call 40;refine(l6Drive_q _ _ _ _ (by with_reducible assumption)).mono ?_;rintro e w4 ⟨rfl,hb4⟩;have hz4:=hb4.size;(try simp only[zz] at hz4);have:=kfa hb4 w.heap.size))
 go_ret
 exact⟨rfl,bel_a⟩
theorem sBodyOk_5 (V:Nat→Int) (w:World) (k0:decide (0≤V 0∧V 0≤999999999)=true) (k1:shB (V 1) (V 2) (V 3)=true) (k2:inB 2560000 (V 4) (V 5)=true) (k3:inB 20000000 (V 6) (V 7)=true) (k4:decide (0≤V 8∧V 8≤1000)=true) (k5:decide (0≤V 9∧V 9≤256)=false):
 Calls Tryz.prog 21 #[bodyW V] w fun e w'=>e= .returned (.bool false)∧Below w.heap.size w w':=by
 have hset:=cset_map
 go_enter Tryz.func21,Tryz.ntmps21
 go_wp2_with (first
  |(go_at_call 37;refine(l1In_q _ _ _ _ _ (by with_reducible assumption)).mono ?_;rintro e w1 ⟨rfl,hb1⟩;have hz1:=hb1.size;(try simp only[zz] at hz1);have:=kfa hb1 w.heap.size)
  |(go_at_call 38;refine(sShapeOk_q _ _ _ _ _ (by with_reducible assumption)).mono ?_;rintro e w2 ⟨rfl,hb2⟩;have hz2:=hb2.size;(try simp only[zz] at hz2);have:=kfa hb2 w.heap.size)
  |(go_at_call 39;refine(l3Place_q _ _ _ _ (by with_reducible assumption)).mono ?_;rintro e w3 ⟨rfl,hb3⟩;have hz3:=hb3.size;(try simp only[zz] at hz3);have:=kfa hb3 w.heap.size)
  |(go_at_call 40;refine(l6Drive_q _ _ _ _ (by with_reducible assumption)).mono ?_;rintro e w4 ⟨rfl,hb4⟩;have hz4:=hb4.size;(try simp only[zz] at hz4);have:=kfa hb4 w.heap.size))
 go_ret
 exact⟨rfl,bel_a⟩
theorem sBodyOk_6 (V:Nat→Int) (w:World) (k0:decide (0≤V 0∧V 0≤999999999)=true) (k1:shB (V 1) (V 2) (V 3)=true) (k2:inB 2560000 (V 4) (V 5)=true) (k3:inB 20000000 (V 6) (V 7)=true) (k4:decide (0≤V 8∧V 8≤1000)=true) (k5:decide (0≤V 9∧V 9≤256)=true) (k6:decide (0≤V 10∧V 10≤256)=false):
 Calls Tryz.prog 21 #[bodyW V] w fun e w'=>e= .returned (.bool false)∧Below w.heap.size w w':=by
 have hset:=cset_map
 go_enter Tryz.func21,Tryz.ntmps21
 go_wp2_with (first
  |(go_at_call 37;refine(l1In_q _ _ _ _ _ (by with_reducible assumption)).mono ?_;rintro e w1 ⟨rfl,hb1⟩;have hz1:=hb1.size;(try simp only[zz] at hz1);have:=kfa hb1 w.heap.size)
  |(go_at_call 38;refine(sShapeOk_q _ _ _ _ _ (by with_reducible assumption)).mono ?_;rintro e w2 ⟨rfl,hb2⟩;have hz2:=hb2.size;(try simp only[zz] at hz2);have:=kfa hb2 w.heap.size)
  |(go_at_call 39;refine(l3Place_q _ _ _ _ (by with_reducible assumption)).mono ?_;rintro e w3 ⟨rfl,hb3⟩;have hz3:=hb3.size;(try simp only[zz] at hz3);have:=kfa hb3 w.heap.size)
  |(go_at_call 40;refine(l6Drive_q _ _ _ _ (by with_reducible assumption)).mono ?_;rintro e w4 ⟨rfl,hb4⟩;have hz4:=hb4.size;(try simp only[zz] at hz4);have:=kfa hb4 w.heap.size))
 go_ret
 exact⟨rfl,bel_a⟩
theorem sBodyOk_7 (V:Nat→Int) (w:World) (k0:decide (0≤V 0∧V 0≤999999999)=true) (k1:shB (V 1) (V 2) (V 3)=true) (k2:inB 2560000 (V 4) (V 5)=true) (k3:inB 20000000 (V 6) (V 7)=true) (k4:decide (0≤V 8∧V 8≤1000)=true) (k5:decide (0≤V 9∧V 9≤256)=true) (k6:decide (0≤V 10∧V 10≤256)=true) (k7:decide (0≤V 11∧V 11≤8)=false):
 Calls Tryz.prog 21 #[bodyW V] w fun e w'=>e= .returned (.bool false)∧Below w.heap.size w w':=by
 have hset:=cset_map
 go_enter Tryz.func21,Tryz.ntmps21
 go_wp2_with (first
  |(go_at_call 37;refine(l1In_q _ _ _ _ _ (by with_reducible assumption)).mono ?_;rintro e w1 ⟨rfl,hb1⟩;have hz1:=hb1.size;(try simp only[zz] at hz1);have:=kfa hb1 w.heap.size)
  |(go_at_call 38;refine(sShapeOk_q _ _ _ _ _ (by with_reducible assumption)).mono ?_;rintro e w2 ⟨rfl,hb2⟩;have hz2:=hb2.size;(try simp only[zz] at hz2);have:=kfa hb2 w.heap.size)
  |(go_at_call 39;refine(l3Place_q _ _ _ _ (by with_reducible assumption)).mono ?_;rintro e w3 ⟨rfl,hb3⟩;have hz3:=hb3.size;(try simp only[zz] at hz3);have:=kfa hb3 w.heap.size)
  |(go_at_call 40;refine(l6Drive_q _ _ _ _ (by with_reducible assumption)).mono ?_;rintro e w4 ⟨rfl,hb4⟩;have hz4:=hb4.size;(try simp only[zz] at hz4);have:=kfa hb4 w.heap.size))
 go_ret
 exact⟨rfl,bel_a⟩
theorem sBodyOk_8 (V:Nat→Int) (w:World) (k0:decide (0≤V 0∧V 0≤999999999)=true) (k1:shB (V 1) (V 2) (V 3)=true) (k2:inB 2560000 (V 4) (V 5)=true) (k3:inB 20000000 (V 6) (V 7)=true) (k4:decide (0≤V 8∧V 8≤1000)=true) (k5:decide (0≤V 9∧V 9≤256)=true) (k6:decide (0≤V 10∧V 10≤256)=true) (k7:decide (0≤V 11∧V 11≤8)=true):
 Calls Tryz.prog 21 #[bodyW V] w fun e w'=>e= .returned (.bool (restB V))∧Below w.heap.size w w':=by
 have hset:=cset_map
 have k7':=k7
 simp only[decide_eq_true_eq] at k7'
 obtain⟨k70,k71⟩:=k7'
 unfold restB
 go_enter Tryz.func21,Tryz.ntmps21
 go_upto_region 3 with(first
  |(go_at_call 37;refine(l1In_q _ _ _ _ _ (by with_reducible assumption)).mono ?_;rintro e w1 ⟨rfl,hb1⟩;have hz1:=hb1.size;(try simp only[zz] at hz1);have:=kfa hb1 w.heap.size)
  |(go_at_call 38;refine(sShapeOk_q _ _ _ _ _ (by with_reducible assumption)).mono ?_;rintro e w2 ⟨rfl,hb2⟩;have hz2:=hb2.size;(try simp only[zz] at hz2);have:=kfa hb2 w.heap.size)
  |(go_at_call 39;refine(l3Place_q _ _ _ _ (by with_reducible assumption)).mono ?_;rintro e w3 ⟨rfl,hb3⟩;have hz3:=hb3.size;(try simp only[zz] at hz3);have:=kfa hb3 w.heap.size)
  |(go_at_call 40;refine(l6Drive_q _ _ _ _ (by with_reducible assumption)).mono ?_;rintro e w4 ⟨rfl,hb4⟩;have hz4:=hb4.size;(try simp only[zz] at hz4);have:=kfa hb4 w.heap.size))
 clear k0 k1 k2 k3 k4 k5 k6 k7
 by_cases f8:V 8=0<;>by_cases f11:V 11=0<;>by_cases f88:V 11<8<;>by_cases f6:V 6=0<;>by_cases f7:V 7=0
 all_goals(try(exfalso;omega))
 all_goals
  have f9:(V 11=8)=(¬ V 11<8):=propext (by omega)
  go_wp2_with fail
  all_goals
   go_ret
   exact⟨ret_bool (by simp[*]),bel_a⟩
theorem sBodyOk_q (V:Nat→Int) (b:Bool) (w:World) (e:bodyB V=b):
 Calls Tryz.prog 21 #[bodyW V] w fun e w'=>e= .returned (.bool b)∧Below w.heap.size w w':=by
 subst e
 unfold bodyB
 cases k0:decide (0≤V 0∧V 0≤999999999) with
 |false=>exact sBodyOk_0 V w k0
 | true=>
   cases k1:shB (V 1) (V 2) (V 3) with
   |false=>exact sBodyOk_1 V w k0 k1
   | true=>
     cases k2:inB 2560000 (V 4) (V 5) with
     |false=>exact sBodyOk_2 V w k0 k1 k2
     | true=>
       cases k3:inB 20000000 (V 6) (V 7) with
       |false=>exact sBodyOk_3 V w k0 k1 k2 k3
       | true=>
         cases k4:decide (0≤V 8∧V 8≤1000) with
         |false=>exact sBodyOk_4 V w k0 k1 k2 k3 k4
         | true=>
           cases k5:decide (0≤V 9∧V 9≤256) with
           |false=>exact sBodyOk_5 V w k0 k1 k2 k3 k4 k5
           | true=>
             cases k6:decide (0≤V 10∧V 10≤256) with
             |false=>exact sBodyOk_6 V w k0 k1 k2 k3 k4 k5 k6
             | true=>
               cases k7:decide (0≤V 11∧V 11≤8) with
               |false=>exact sBodyOk_7 V w k0 k1 k2 k3 k4 k5 k6 k7
               | true=>
                 simp only[Bool.true_and]
                 exact sBodyOk_8 V w k0 k1 k2 k3 k4 k5 k6 k7
theorem bodyB_bd {V:Nat→Int} (h:bodyB V=true):(0≤V 8∧V 8≤1000)∧(0≤V 11∧V 11≤8)∧(-2560000≤V 4∧V 4≤2560000)∧(-2560000≤V 5∧V 5≤2560000)∧(-20000000≤V 6∧V 6≤20000000)∧(-20000000≤V 7∧V 7≤20000000)∧(0≤V 9∧V 9≤256)∧(0≤V 10∧V 10≤256)∧shB (V 1) (V 2) (V 3)=true∧restB V=true:=by
 unfold bodyB at h
 simp only[Bool.and_eq_true,decide_eq_true_eq] at h
 obtain⟨a0,a1,a2,a3,a4,a5,a6,a7,a8⟩:=h
 obtain⟨p1,p2⟩:=inB_of a2
 obtain⟨q1,q2⟩:=inB_of a3
 exact⟨a4,a7,p1,p2,q1,q2,a5,a6,a1,a8⟩
def spX (V:Nat→Int):Int:=if V 8=0 then 0 else (V 6).tdiv (V 8)
def spY (V:Nat→Int):Int:=if V 8=0 then 0 else (V 7).tdiv (V 8)
end Go.Proofs.YtbdbbdjifgpgeaaGreat
