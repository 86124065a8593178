/- Texts of a proof. -/
import Derived.Test.YthajilkjfkppoaaGreatDoorB3
import Derived.Test.YthajilkjfkppoaaGreatDoorB2
import Derived.LoopNIn
import Derived.LoopIn
import Derived.OwnWalkIn
import Derived.RangeFuncBound
import Derived.Shelf.Abstract
import Derived.Deep.DeepCutAuto
import Derived.Test.YthajilkjfkppoaaGreatDoorB4
import Derived.Deep.QuietTactic
import Derived.BigQuiet
import Derived.Deep.RegionWith
import Derived.Deep.RegionHeld3
import Derived.Test.YthajilkjfkppoaaGreatDoorB5
import Derived.ProofKit
set_option maxHeartbeats 16000000
set_option maxRecDepth 20000
namespace Go.Proofs.YthajilkjfkppoaaGreatDoor
open Go.RowKit
set_option linter.unusedVariables false
theorem kfa {W w1:World} (hb:Below W.heap.size W w1) (b:Nat) (h:b<W.heap.size:=by((try simp only[World.size_drew,World.size_alloc,World.size_setCell]);omega)):
 (∀ o,w1.cell? ⟨b,o,none⟩=W.cell? ⟨b,o,none⟩)∧(∀ o,w1.frozen? ⟨b,o,none⟩=W.frozen? ⟨b,o,none⟩)∧b<w1.heap.size:=
 ⟨fun o=>hb.cell (p:=⟨b,o,none⟩) h,fun o=>hb.frozen (p:=⟨b,o,none⟩) h,Nat.lt_of_lt_of_le h hb.size⟩
end Go.Proofs.YthajilkjfkppoaaGreatDoor
namespace Go.Proofs.YthajilkjfkppoaaGreatDoor
open Go.RowKit Go.Shelf
set_option linter.unusedVariables false
set_option linter.unusedSimpArgs false
abbrev hdk (cb k:Nat):Value:= .agg #[.int .i64 (k:Int),.pointer (some ⟨cb,0,none⟩)]
theorem handle_any (cb k:Nat) (w:World):
 Calls Tryz.prog 54 #[.pointer (some ⟨cb,0,none⟩),.int .i64 (k:Int)] w fun e w'=>e= .returned (hdk cb k)∧Below w.heap.size w w':=by
 go_enter Tryz.func54,Tryz.ntmps54
 go_wp2
 exact bodyPost_ret (v:=hdk cb k) (by simp[results,Tryz.results54,go_sem, *]) rfl ⟨rfl,by repeat(first|with_reducible apply Below.refl|(with_reducible apply Below.setCell;rotate_left;focus (first|omega|(simp;done)|(simp;omega)))|(with_reducible apply Below.alloc;rotate_left;focus (first|omega|(simp;done)|(simp;omega))))⟩
theorem each_enters:∀ args w,(callFunc 29 args).run Tryz.prog w= .ok (.enter 29 args) w:=enters_of Tryz.func29 (by kernel_rfl) rfl
theorem each_it (cb nn cc:Nat) (ad:Option Addr) (w:World) (hcb:cb<w.heap.size) (hc:w.cell? ⟨cb,0,none⟩=some (.slice ad nn cc)) (hn:nn≤1048576):
 ItC Tryz.prog 29 #[.pointer (some ⟨cb,0,none⟩)] (fun k=> #[hdk cb k]) nn w:=by
 intro l J Jx W hbW hJb hJx hY h0
 have hc':W.cell? ⟨cb,0,none⟩=some (.slice ad nn cc):=(hbW.cell (p:=⟨cb,0,none⟩) hcb).trans hc
 refine callsIn_of_wp Tryz.func29 rfl trivial ?_ rfl
 simp only[Tryz.ntmps29,List.size_toArray,List.length_cons,List.length_nil,Nat.reduceAdd,Nat.reduceSub,Array.replicate_succ,Array.replicate_zero,List.push_toArray,List.append_toArray,List.nil_append,List.cons_append]
 gi_wp2
 gi_loopw [4,10] (fun _ i wr=>∃ k:Nat,k≤nn∧i= .int .i64 (k:Int)∧J k wr) (fun _ i _=>nn-(intOf i).toNat)
 case atStart=>exact⟨0,Nat.zero_le _,rfl,h0⟩
 case round=>
  obtain⟨k,hk,rfl,hJ⟩:=hrel
  by_cases hlt:k<nn
  · gi_wp2_with (refine⟨trivial,rfl,?_⟩;gi_at_call 54;refine(callsIn_wide.2 (handle_any cb k _)).mono ?_;rintro e w1 ⟨rfl,hb1⟩;have hJ1:=hJb _ _ _ hJ hb1;obtain⟨fn,tmps,assign,body,hy,hR⟩:=hY k w1 hJ1 hlt)
    refine⟨rfl,hR.mono ?_⟩
    rintro e w2 (⟨rfl,hJ2⟩|⟨rfl,hJx2⟩)
    · gi_wp2
      go_roundw
      case rel=>exact⟨k+1,by omega,by go_num,hJ2⟩
      case measure=>simp[intOf];omega
    · gi_wp2
      refine bodyPost_ret (results_none rfl _ _ _) rfl ?_
      exact⟨⟨_,rfl⟩,.inr hJx2⟩
  · gi_wp2
    go_end0
    obtain rfl:k=nn:=by omega
    exact⟨⟨_,rfl⟩,.inl hJ⟩
end Go.Proofs.YthajilkjfkppoaaGreatDoor
namespace Go.Proofs.YthajilkjfkppoaaGreatDoor
open Go.RowKit
set_option linter.unusedVariables false
set_option linter.unusedSimpArgs false
def mn (x y:Int):Int:=if y<x then y else x
def mx (x y:Int):Int:=if x<y then y else x
theorem spanMeets_any (a b c d r s t u:Int) (w:World):
 Calls Tryz.prog 165 #[b4 a b c d,b4 r s t u] w fun e w'=>e= .returned (.bool (leB a b t u&&leB r s c d))∧Below w.heap.size w w':=by
 have hset:=cset_map
 go_enter Tryz.func165,Tryz.ntmps165
 go_wp2_with (go_at_call 179;refine(noneGreater_any _ _ _ _ _).mono ?_;rintro e w1 ⟨rfl,hb1⟩;obtain⟨hc1,hf1⟩:=bcell hb1;have hl1:=blt hb1;have hz1:=hb1.size;(try simp only[zz] at hc1 hf1 hl1 hz1);(try have hq1x0:w.heap.size<w1.heap.size:=(by omega));(try have hq1x1:w.heap.size+1<w1.heap.size:=(by omega)))
 all_goals
  go_ret
  refine⟨ret_bool ?_,bel_a⟩
  first|(simp[*];done)|(simp at*;simp[*];done)|(simp at*;omega)
theorem spanHas_any (a b c d r s t u:Int) (w:World):
 Calls Tryz.prog 162 #[b4 a b c d,b4 r s t u] w fun e w'=>e= .returned (.bool (leB a b r s&&leB t u c d))∧Below w.heap.size w w':=by
 have hset:=cset_map
 go_enter Tryz.func162,Tryz.ntmps162
 go_wp2_with (go_at_call 179;refine(noneGreater_any _ _ _ _ _).mono ?_;rintro e w1 ⟨rfl,hb1⟩;obtain⟨hc1,hf1⟩:=bcell hb1;have hl1:=blt hb1;have hz1:=hb1.size;(try simp only[zz] at hc1 hf1 hl1 hz1);(try have hq1x0:w.heap.size<w1.heap.size:=(by omega));(try have hq1x1:w.heap.size+1<w1.heap.size:=(by omega)))
 all_goals
  go_ret
  refine⟨ret_bool ?_,bel_a⟩
  first|(simp[*];done)|(simp at*;simp[*];done)|(simp at*;omega)
theorem least_any (x y u v:Int) (w:World):
 Calls Tryz.prog 181 #[vv x y,vv u v] w fun e w'=>e= .returned (vv (mn x u) (mn y v))∧Below w.heap.size w w':=by
 have hset:=cset_map
 go_enter Tryz.func181,Tryz.ntmps181
 go_wp2
 all_goals
  refine bodyPost_ret (v:=vv (mn x u) (mn y v)) ?_ rfl ⟨rfl,bel_a⟩
  simp[results,Tryz.results181,go_sem, *]
  try(constructor<;>(unfold mn;split<;>omega))
theorem greatest_any (x y u v:Int) (w:World):
 Calls Tryz.prog 180 #[vv x y,vv u v] w fun e w'=>e= .returned (vv (mx x u) (mx y v))∧Below w.heap.size w w':=by
 have hset:=cset_map
 go_enter Tryz.func180,Tryz.ntmps180
 go_wp2
 all_goals
  refine bodyPost_ret (v:=vv (mx x u) (mx y v)) ?_ rfl ⟨rfl,bel_a⟩
  simp[results,Tryz.results180,go_sem, *]
  try(constructor<;>(unfold mx;split<;>omega))
def ptB (a b c d x y:Int):Bool:=decide ((a≤x∧x≤c)∧(b≤y∧y≤d))
theorem l3Meets_any (a b c d r s t u:Int) (w:World):
 Calls Tryz.prog 130 #[b4 a b c d,b4 r s t u] w fun e w'=>e= .returned (.bool (leB a b t u&&leB r s c d))∧Below w.heap.size w w':=by
 have hset:=cset_map
 go_enter Tryz.func130,Tryz.ntmps130
 go_wp2
 all_goals
  go_ret
  refine⟨ret_bool ?_,bel_a⟩
  unfold leB
  first|(simp[*];done)|(simp at*;omega)|(simp[*];omega)
theorem l3Point_any (a b c d x y:Int) (w:World):
 Calls Tryz.prog 131 #[b4 a b c d,vv x y] w fun e w'=>e= .returned (.bool (ptB a b c d x y))∧Below w.heap.size w w':=by
 have hset:=cset_map
 go_enter Tryz.func131,Tryz.ntmps131
 go_wp2_with (go_at_call 19;refine(l1In_any _ _ _ _).mono ?_;rintro e w' ⟨rfl,rfl⟩)
 all_goals
  go_ret
  refine⟨ret_bool ?_,bel_a⟩
  unfold ptB
  first|(simp[*];done)|(simp at*;omega)|(simp[*];omega)
theorem l2Square_any (x y:Int) (w:World) (hx: -1500000000≤x∧x≤1500000000) (hy: -1500000000≤y∧y≤1500000000):
 Calls Tryz.prog 127 #[vv x y] w fun e w'=>e= .returned (.int .i64 (x*x+y*y))∧Below w.heap.size w w':=by
 have p:=mul_bd (a:=x) (b:=x) (A:=1500000000) (B:=1500000000) hx hx
 have q:=mul_bd (a:=y) (b:=y) (A:=1500000000) (B:=1500000000) hy hy
 have hset:=cset_map
 go_enter Tryz.func127,Tryz.ntmps127
 go_wp2
 go_ret
 exact⟨rfl,bel_a⟩
theorem sVecLen_any (x y:Int) (w:World):
 Calls Tryz.prog 129 #[vv x y] w fun e w'=>e= .returned (.int .i64 (vl (fc x) (fc y)))∧Below w.heap.size w w':=by
 have hx:=fc_bd x
 have hy:=fc_bd y
 have hs:=sq_bd hx hy
 have hset:=cset_map
 go_enter Tryz.func129,Tryz.ntmps129
 go_wp2_with (first
  |(go_at_call 155;refine(l2Clamp_any _ _ _).mono ?_;rintro e w1 ⟨rfl,hb1⟩;obtain⟨hc1,hf1⟩:=bcell hb1;have hz1:=hb1.size;(try simp at hz1);have hq1x0a:w.heap.size<w1.heap.size:=(by omega))
  |(go_at_call 127;refine(l2Square_any _ _ _ (by omega) (by omega)).mono ?_;rintro e w2 ⟨rfl,hb2⟩;obtain⟨hc2,hf2⟩:=bcell hb2;have hz2:=hb2.size;(try simp at hz2);have hq2x0a:w.heap.size<w2.heap.size:=(by omega))
  |(go_at_call 157;refine(l1Root_any _ _ (by omega) (by omega)).mono ?_;rintro e w' ⟨rfl,rfl⟩)
  |(go_at_call 156;refine(sFixClamp_any _ _).mono ?_;rintro e w' ⟨rfl,rfl⟩))
 go_ret
 exact⟨rfl,bel_a⟩
theorem sVecUnit_any (x y:Int) (w:World):
 Calls Tryz.prog 128 #[vv x y] w fun e w'=>e= .returned (vv (ux (fc x) (fc y)) (uy (fc x) (fc y)))∧Below w.heap.size w w':=by
 have hx:=fc_bd x
 have hy:=fc_bd y
 have hl:=vl_bd (fc x) (fc y)
 have f1:=fc_fc x
 have f2:=fc_fc y
 by_cases h0:vl (fc x) (fc y)=0
 · have e1:ux (fc x) (fc y)=0:=if_pos h0
   have e2:uy (fc x) (fc y)=256:=if_pos h0
   have hset:=cset_map
   go_enter Tryz.func128,Tryz.ntmps128
   go_wp2_with (first
   |(go_at_call 155;refine(l2Clamp_any _ _ _).mono ?_;rintro e w1 ⟨rfl,hb1⟩;obtain⟨hc1,hf1⟩:=bcell hb1;have hz1:=hb1.size;(try simp at hz1);have hq1x0a:w.heap.size<w1.heap.size:=(by omega);have hq1x1a:w.heap.size+1<w1.heap.size:=(by omega))
   |(go_at_call 129;refine(sVecLen_any _ _ _).mono ?_;rintro e w6 ⟨rfl,hb6⟩;obtain⟨hc6,hf6⟩:=bcell hb6;have hz6:=hb6.size;(try simp at hz6);have hq6x0a:w.heap.size<w6.heap.size:=(by omega);have hq6x1a:w.heap.size+1<w6.heap.size:=(by omega)))
   exact bodyPost_ret (v:=vv 0 256) (by simp[results,Tryz.results128,go_sem, *]) rfl ⟨by rw[e1,e2],bel_a⟩
 · have t1:=w64 (n:=(fc x*256).tdiv (vl (fc x) (fc y))) (by have:=tdiv_bd (x:=fc x*256) (B:=256000000000) (vl (fc x) (fc y)) (by omega);omega)
   have t2:=w64 (n:=(fc y*256).tdiv (vl (fc x) (fc y))) (by have:=tdiv_bd (x:=fc y*256) (B:=256000000000) (vl (fc x) (fc y)) (by omega);omega)
   have s1:=i64w (n:=(fc x*256).tdiv (vl (fc x) (fc y))) (by have:=tdiv_bd (x:=fc x*256) (B:=256000000000) (vl (fc x) (fc y)) (by omega);omega)
   have s2:=i64w (n:=(fc y*256).tdiv (vl (fc x) (fc y))) (by have:=tdiv_bd (x:=fc y*256) (B:=256000000000) (vl (fc x) (fc y)) (by omega);omega)
   have E1:Hid (ux (fc x) (fc y)=(fc x*256).tdiv (vl (fc x) (fc y))):=if_neg h0
   have E2:Hid (uy (fc x) (fc y)=(fc y*256).tdiv (vl (fc x) (fc y))):=if_neg h0
   have hset:=cset_map
   go_enter Tryz.func128,Tryz.ntmps128
   go_wp2_with (first
   |(go_at_call 155;refine(l2Clamp_any _ _ _).mono ?_;rintro e w1 ⟨rfl,hb1⟩;obtain⟨hc1,hf1⟩:=bcell hb1;have hz1:=hb1.size;(try simp at hz1);have hq1x0a:w.heap.size<w1.heap.size:=(by omega);have hq1x1a:w.heap.size+1<w1.heap.size:=(by omega))
   |(go_at_call 129;refine(sVecLen_any _ _ _).mono ?_;rintro e w6 ⟨rfl,hb6⟩;obtain⟨hc6,hf6⟩:=bcell hb6;have hz6:=hb6.size;(try simp at hz6);have hq6x0a:w.heap.size<w6.heap.size:=(by omega);have hq6x1a:w.heap.size+1<w6.heap.size:=(by omega)))
   go_region
   all_goals
    go_wp2
    exact bodyPost_ret (v:=vv ((fc x*256).tdiv (vl (fc x) (fc y))) ((fc y*256).tdiv (vl (fc x) (fc y)))) (by simp[results,Tryz.results128,go_sem, *]) rfl ⟨by rw[E1.out,E2.out],bel_a⟩
end Go.Proofs.YthajilkjfkppoaaGreatDoor
namespace Go.Proofs.YthajilkjfkppoaaGreatDoor
open Go.RowKit
set_option linter.unusedVariables false
theorem kf2 {W w1:World} (hb:Below W.heap.size W w1) (b:Nat) (h:b+1<W.heap.size:=by((try simp only[zz]);omega)):
 ((∀ o,w1.cell? ⟨b,o,none⟩=W.cell? ⟨b,o,none⟩)∧(∀ o,w1.frozen? ⟨b,o,none⟩=W.frozen? ⟨b,o,none⟩)∧b<w1.heap.size)∧((∀ o,w1.cell? ⟨b+1,o,none⟩=W.cell? ⟨b+1,o,none⟩)∧(∀ o,w1.frozen? ⟨b+1,o,none⟩=W.frozen? ⟨b+1,o,none⟩)∧b+1<w1.heap.size):=
 ⟨kfa hb (b) (by omega),kfa hb (b+1) (by omega)⟩
theorem kf3 {W w1:World} (hb:Below W.heap.size W w1) (b:Nat) (h:b+1+1<W.heap.size:=by((try simp only[zz]);omega)):
 ((∀ o,w1.cell? ⟨b,o,none⟩=W.cell? ⟨b,o,none⟩)∧(∀ o,w1.frozen? ⟨b,o,none⟩=W.frozen? ⟨b,o,none⟩)∧b<w1.heap.size)∧((∀ o,w1.cell? ⟨b+1,o,none⟩=W.cell? ⟨b+1,o,none⟩)∧(∀ o,w1.frozen? ⟨b+1,o,none⟩=W.frozen? ⟨b+1,o,none⟩)∧b+1<w1.heap.size)∧((∀ o,w1.cell? ⟨b+1+1,o,none⟩=W.cell? ⟨b+1+1,o,none⟩)∧(∀ o,w1.frozen? ⟨b+1+1,o,none⟩=W.frozen? ⟨b+1+1,o,none⟩)∧b+1+1<w1.heap.size):=
 ⟨kfa hb (b) (by omega),kfa hb (b+1) (by omega),kfa hb (b+1+1) (by omega)⟩
theorem kf4 {W w1:World} (hb:Below W.heap.size W w1) (b:Nat) (h:b+1+1+1<W.heap.size:=by((try simp only[zz]);omega)):
 ((∀ o,w1.cell? ⟨b,o,none⟩=W.cell? ⟨b,o,none⟩)∧(∀ o,w1.frozen? ⟨b,o,none⟩=W.frozen? ⟨b,o,none⟩)∧b<w1.heap.size)∧((∀ o,w1.cell? ⟨b+1,o,none⟩=W.cell? ⟨b+1,o,none⟩)∧(∀ o,w1.frozen? ⟨b+1,o,none⟩=W.frozen? ⟨b+1,o,none⟩)∧b+1<w1.heap.size)∧((∀ o,w1.cell? ⟨b+1+1,o,none⟩=W.cell? ⟨b+1+1,o,none⟩)∧(∀ o,w1.frozen? ⟨b+1+1,o,none⟩=W.frozen? ⟨b+1+1,o,none⟩)∧b+1+1<w1.heap.size)∧((∀ o,w1.cell? ⟨b+1+1+1,o,none⟩=W.cell? ⟨b+1+1+1,o,none⟩)∧(∀ o,w1.frozen? ⟨b+1+1+1,o,none⟩=W.frozen? ⟨b+1+1+1,o,none⟩)∧b+1+1+1<w1.heap.size):=
 ⟨kfa hb (b) (by omega),kfa hb (b+1) (by omega),kfa hb (b+1+1) (by omega),kfa hb (b+1+1+1) (by omega)⟩
theorem kf5 {W w1:World} (hb:Below W.heap.size W w1) (b:Nat) (h:b+1+1+1+1<W.heap.size:=by((try simp only[zz]);omega)):
 ((∀ o,w1.cell? ⟨b,o,none⟩=W.cell? ⟨b,o,none⟩)∧(∀ o,w1.frozen? ⟨b,o,none⟩=W.frozen? ⟨b,o,none⟩)∧b<w1.heap.size)∧((∀ o,w1.cell? ⟨b+1,o,none⟩=W.cell? ⟨b+1,o,none⟩)∧(∀ o,w1.frozen? ⟨b+1,o,none⟩=W.frozen? ⟨b+1,o,none⟩)∧b+1<w1.heap.size)∧((∀ o,w1.cell? ⟨b+1+1,o,none⟩=W.cell? ⟨b+1+1,o,none⟩)∧(∀ o,w1.frozen? ⟨b+1+1,o,none⟩=W.frozen? ⟨b+1+1,o,none⟩)∧b+1+1<w1.heap.size)∧((∀ o,w1.cell? ⟨b+1+1+1,o,none⟩=W.cell? ⟨b+1+1+1,o,none⟩)∧(∀ o,w1.frozen? ⟨b+1+1+1,o,none⟩=W.frozen? ⟨b+1+1+1,o,none⟩)∧b+1+1+1<w1.heap.size)∧((∀ o,w1.cell? ⟨b+1+1+1+1,o,none⟩=W.cell? ⟨b+1+1+1+1,o,none⟩)∧(∀ o,w1.frozen? ⟨b+1+1+1+1,o,none⟩=W.frozen? ⟨b+1+1+1+1,o,none⟩)∧b+1+1+1+1<w1.heap.size):=
 ⟨kfa hb (b) (by omega),kfa hb (b+1) (by omega),kfa hb (b+1+1) (by omega),kfa hb (b+1+1+1) (by omega),kfa hb (b+1+1+1+1) (by omega)⟩
theorem kf6 {W w1:World} (hb:Below W.heap.size W w1) (b:Nat) (h:b+1+1+1+1+1<W.heap.size:=by((try simp only[zz]);omega)):
 ((∀ o,w1.cell? ⟨b,o,none⟩=W.cell? ⟨b,o,none⟩)∧(∀ o,w1.frozen? ⟨b,o,none⟩=W.frozen? ⟨b,o,none⟩)∧b<w1.heap.size)∧((∀ o,w1.cell? ⟨b+1,o,none⟩=W.cell? ⟨b+1,o,none⟩)∧(∀ o,w1.frozen? ⟨b+1,o,none⟩=W.frozen? ⟨b+1,o,none⟩)∧b+1<w1.heap.size)∧((∀ o,w1.cell? ⟨b+1+1,o,none⟩=W.cell? ⟨b+1+1,o,none⟩)∧(∀ o,w1.frozen? ⟨b+1+1,o,none⟩=W.frozen? ⟨b+1+1,o,none⟩)∧b+1+1<w1.heap.size)∧((∀ o,w1.cell? ⟨b+1+1+1,o,none⟩=W.cell? ⟨b+1+1+1,o,none⟩)∧(∀ o,w1.frozen? ⟨b+1+1+1,o,none⟩=W.frozen? ⟨b+1+1+1,o,none⟩)∧b+1+1+1<w1.heap.size)∧((∀ o,w1.cell? ⟨b+1+1+1+1,o,none⟩=W.cell? ⟨b+1+1+1+1,o,none⟩)∧(∀ o,w1.frozen? ⟨b+1+1+1+1,o,none⟩=W.frozen? ⟨b+1+1+1+1,o,none⟩)∧b+1+1+1+1<w1.heap.size)∧((∀ o,w1.cell? ⟨b+1+1+1+1+1,o,none⟩=W.cell? ⟨b+1+1+1+1+1,o,none⟩)∧(∀ o,w1.frozen? ⟨b+1+1+1+1+1,o,none⟩=W.frozen? ⟨b+1+1+1+1+1,o,none⟩)∧b+1+1+1+1+1<w1.heap.size):=
 ⟨kfa hb (b) (by omega),kfa hb (b+1) (by omega),kfa hb (b+1+1) (by omega),kfa hb (b+1+1+1) (by omega),kfa hb (b+1+1+1+1) (by omega),kfa hb (b+1+1+1+1+1) (by omega)⟩
end Go.Proofs.YthajilkjfkppoaaGreatDoor
namespace Go.Proofs.YthajilkjfkppoaaGreatDoor
open Go.RowKit
set_option linter.unusedVariables false
set_option linter.unusedSimpArgs false
def bb (o:Bool) (x:Int):Int:=if o=true then x else 0
def hitB (x y k:Int):Bool:=inB 256 x y&&decide (0≤k∧k≤102400)
theorem run_eq_vec (n d:Nat) (hn:n=d+1) (a b x y:Int) (w:World):(Op.equalIn (n+1) 33 (.agg #[.int .i64 a,.int .i64 b]) (.agg #[.int .i64 x,.int .i64 y])).run Tryz.prog w= .ok (a==x&&b==y) w:=by
 have hi:Tryz.prog.underlying 3=some (.int .i64):=by kernel_rfl
 have hs:Tryz.prog.stoodInHeld 33=false:=by kernel_rfl
 have hp:∀ w,(program).run Tryz.prog w= .ok Tryz.prog w:=fun w=>by rfl
 have p0:∀ (a b:Int) w,(part 3 #[.int .i64 a,.int .i64 b] 0).run Tryz.prog w= .ok (.int .i64 a) w:=fun a b w=>by kernel_rfl
 have p1:∀ (a b:Int) w,(part 3 #[.int .i64 a,.int .i64 b] 1).run Tryz.prog w= .ok (.int .i64 b) w:=fun a b w=>by kernel_rfl
 simp only[Op.equalIn,Sem.run_bind,run_underlying Tryz.underlying33,Result.andThen_ok,hp,hs,Bool.false_eq_true,if_false,Sem.run_pure]
 subst hn
 have h0:∀ w,(Op.equalIn (d+1) 3 (.int .i64 a) (.int .i64 x)).run Tryz.prog w= .ok (a==x) w:=fun w=>run_equalIn_int w d 3 .i64 .i64 a x hi
 have h1:∀ w,(Op.equalIn (d+1) 3 (.int .i64 b) (.int .i64 y)).run Tryz.prog w= .ok (b==y) w:=fun w=>run_equalIn_int w d 3 .i64 .i64 b y hi
 simp only[List.forIn_toArray,List.forIn_cons,List.forIn_nil,Sem.run_bind,p0,h0,Result.andThen_ok,Sem.run_ite,Sem.run_pure]
 cases hx:(a==x)<;>cases hy:(b==y)<;>simp[Sem.run_bind,p0,p1,h0,h1,Sem.run_ite,hx,hy]
theorem eq_vec0 (a b x y:Int) (w:World):(Op.equalIn 10000 33 (.agg #[.int .i64 a,.int .i64 b]) (.agg #[.int .i64 x,.int .i64 y])).run Tryz.prog w= .ok (a==x&&b==y) w:=run_eq_vec 9999 9998 rfl a b x y w
end Go.Proofs.YthajilkjfkppoaaGreatDoor
namespace Go.Proofs.YthajilkjfkppoaaGreatDoor
set_option maxRecDepth 100000
def ordL:{l:List Char//Tryz.prog.initOrder=String.ofList l}:=⟨_,rfl⟩
theorem ownT:ownKnob Tryz.prog.godebug=none:=by kernel_rfl
theorem laidOutT:laidOutB Tryz.prog=true:=by kernel_rfl
end Go.Proofs.YthajilkjfkppoaaGreatDoor
