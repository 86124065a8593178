/- Texts of a proof. -/
import Derived.Test.YtbdbbdjifgpgeaaGreatB5
import Derived.Test.YtbdbbdjifgpgeaaGreatB3
import Derived.Deep.QuietTactic
import Derived.BigQuiet
import Derived.Deep.RegionWith
import Derived.Deep.RegionHeld3
set_option maxHeartbeats 16000000
set_option maxRecDepth 20000
namespace Go.Proofs.YtbdbbdjifgpgeaaGreat
open Go.RowKit
set_option linter.unusedVariables false
set_option linter.unusedSimpArgs false
def mn (x y:Int):Int:=if y<x then y else x
def mx (x y:Int):Int:=if x<y then y else x
theorem spanMeets_any (a b c d r s t u:Int) (w:World):
 Calls Tryz.prog 129 #[b4 a b c d,b4 r s t u] w fun e w'=>e= .returned (.bool (leB a b t u&&leB r s c d))∧Below w.heap.size w w':=by
 have hset:=cset_map
 go_enter Tryz.func129,Tryz.ntmps129
 go_wp2_with (go_at_call 135;refine(noneGreater_any _ _ _ _ _).mono ?_;rintro e w1 ⟨rfl,hb1⟩;obtain⟨hc1,hf1⟩:=bcell hb1;have hl1:=blt hb1;have hz1:=hb1.size;(try simp only[zz] at hc1 hf1 hl1 hz1);(try have hq1x0:w.heap.size<w1.heap.size:=(by omega));(try have hq1x1:w.heap.size+1<w1.heap.size:=(by omega)))
 all_goals
  go_ret
  refine⟨ret_bool ?_,bel_a⟩
  first|(simp[*];done)|(simp at*;simp[*];done)|(simp at*;omega)
theorem spanHas_any (a b c d r s t u:Int) (w:World):
 Calls Tryz.prog 126 #[b4 a b c d,b4 r s t u] w fun e w'=>e= .returned (.bool (leB a b r s&&leB t u c d))∧Below w.heap.size w w':=by
 have hset:=cset_map
 go_enter Tryz.func126,Tryz.ntmps126
 go_wp2_with (go_at_call 135;refine(noneGreater_any _ _ _ _ _).mono ?_;rintro e w1 ⟨rfl,hb1⟩;obtain⟨hc1,hf1⟩:=bcell hb1;have hl1:=blt hb1;have hz1:=hb1.size;(try simp only[zz] at hc1 hf1 hl1 hz1);(try have hq1x0:w.heap.size<w1.heap.size:=(by omega));(try have hq1x1:w.heap.size+1<w1.heap.size:=(by omega)))
 all_goals
  go_ret
  refine⟨ret_bool ?_,bel_a⟩
  first|(simp[*];done)|(simp at*;simp[*];done)|(simp at*;omega)
theorem least_any (x y u v:Int) (w:World):
 Calls Tryz.prog 137 #[vv x y,vv u v] w fun e w'=>e= .returned (vv (mn x u) (mn y v))∧Below w.heap.size w w':=by
 have hset:=cset_map
 go_enter Tryz.func137,Tryz.ntmps137
 go_wp2
 all_goals
  refine bodyPost_ret (v:=vv (mn x u) (mn y v)) ?_ rfl ⟨rfl,bel_a⟩
  simp[results,Tryz.results137,go_sem, *]
  try(constructor<;>(unfold mn;split<;>omega))
theorem greatest_any (x y u v:Int) (w:World):
 Calls Tryz.prog 136 #[vv x y,vv u v] w fun e w'=>e= .returned (vv (mx x u) (mx y v))∧Below w.heap.size w w':=by
 have hset:=cset_map
 go_enter Tryz.func136,Tryz.ntmps136
 go_wp2
 all_goals
  refine bodyPost_ret (v:=vv (mx x u) (mx y v)) ?_ rfl ⟨rfl,bel_a⟩
  simp[results,Tryz.results136,go_sem, *]
  try(constructor<;>(unfold mx;split<;>omega))
theorem l2Square_any (x y:Int) (w:World) (hx: -1500000000≤x∧x≤1500000000) (hy: -1500000000≤y∧y≤1500000000):
 Calls Tryz.prog 87 #[vv x y] w fun e w'=>e= .returned (.int .i64 (x*x+y*y))∧Below w.heap.size w w':=by
 have p:=mul_bd (a:=x) (b:=x) (A:=1500000000) (B:=1500000000) hx hx
 have q:=mul_bd (a:=y) (b:=y) (A:=1500000000) (B:=1500000000) hy hy
 have hset:=cset_map
 go_enter Tryz.func87,Tryz.ntmps87
 go_wp2
 go_ret
 exact⟨rfl,bel_a⟩
theorem sVecLen_any (x y:Int) (w:World):
 Calls Tryz.prog 89 #[vv x y] w fun e w'=>e= .returned (.int .i64 (vl (fc x) (fc y)))∧Below w.heap.size w w':=by
 have hx:=fc_bd x
 have hy:=fc_bd y
 have hs:=sq_bd hx hy
 have hset:=cset_map
 go_enter Tryz.func89,Tryz.ntmps89
 go_wp2_with (first
  |(go_at_call 101;refine(l2Clamp_any _ _ _).mono ?_;rintro e w1 ⟨rfl,hb1⟩;obtain⟨hc1,hf1⟩:=bcell hb1;have hz1:=hb1.size;(try simp at hz1);have hq1x0a:w.heap.size<w1.heap.size:=(by omega))
  |(go_at_call 87;refine(l2Square_any _ _ _ (by omega) (by omega)).mono ?_;rintro e w2 ⟨rfl,hb2⟩;obtain⟨hc2,hf2⟩:=bcell hb2;have hz2:=hb2.size;(try simp at hz2);have hq2x0a:w.heap.size<w2.heap.size:=(by omega))
  |(go_at_call 103;refine(l1Root_any _ _ (by omega) (by omega)).mono ?_;rintro e w' ⟨rfl,rfl⟩)
  |(go_at_call 102;refine(sFixClamp_any _ _).mono ?_;rintro e w' ⟨rfl,rfl⟩))
 go_ret
 exact⟨rfl,bel_a⟩
theorem sVecUnit_any (x y:Int) (w:World):
 Calls Tryz.prog 88 #[vv x y] w fun e w'=>e= .returned (vv (ux (fc x) (fc y)) (uy (fc x) (fc y)))∧Below w.heap.size w w':=by
 have hx:=fc_bd x
 have hy:=fc_bd y
 have hl:=vl_bd (fc x) (fc y)
 have f1:=fc_fc x
 have f2:=fc_fc y
 by_cases h0:vl (fc x) (fc y)=0
 · have e1:ux (fc x) (fc y)=0:=if_pos h0
   have e2:uy (fc x) (fc y)=256:=if_pos h0
   have hset:=cset_map
   go_enter Tryz.func88,Tryz.ntmps88
   go_wp2_with (first
   |(go_at_call 101;refine(l2Clamp_any _ _ _).mono ?_;rintro e w1 ⟨rfl,hb1⟩;obtain⟨hc1,hf1⟩:=bcell hb1;have hz1:=hb1.size;(try simp at hz1);have hq1x0a:w.heap.size<w1.heap.size:=(by omega);have hq1x1a:w.heap.size+1<w1.heap.size:=(by omega))
   |(go_at_call 89;refine(sVecLen_any _ _ _).mono ?_;rintro e w6 ⟨rfl,hb6⟩;obtain⟨hc6,hf6⟩:=bcell hb6;have hz6:=hb6.size;(try simp at hz6);have hq6x0a:w.heap.size<w6.heap.size:=(by omega);have hq6x1a:w.heap.size+1<w6.heap.size:=(by omega)))
   exact bodyPost_ret (v:=vv 0 256) (by simp[results,Tryz.results88,go_sem, *]) rfl ⟨by rw[e1,e2],bel_a⟩
 · have t1:=w64 (n:=(fc x*256).tdiv (vl (fc x) (fc y))) (by have:=tdiv_bd (x:=fc x*256) (B:=256000000000) (vl (fc x) (fc y)) (by omega);omega)
   have t2:=w64 (n:=(fc y*256).tdiv (vl (fc x) (fc y))) (by have:=tdiv_bd (x:=fc y*256) (B:=256000000000) (vl (fc x) (fc y)) (by omega);omega)
   have s1:=i64w (n:=(fc x*256).tdiv (vl (fc x) (fc y))) (by have:=tdiv_bd (x:=fc x*256) (B:=256000000000) (vl (fc x) (fc y)) (by omega);omega)
   have s2:=i64w (n:=(fc y*256).tdiv (vl (fc x) (fc y))) (by have:=tdiv_bd (x:=fc y*256) (B:=256000000000) (vl (fc x) (fc y)) (by omega);omega)
   have E1:Hid (ux (fc x) (fc y)=(fc x*256).tdiv (vl (fc x) (fc y))):=if_neg h0
   have E2:Hid (uy (fc x) (fc y)=(fc y*256).tdiv (vl (fc x) (fc y))):=if_neg h0
   have hset:=cset_map
   go_enter Tryz.func88,Tryz.ntmps88
   go_wp2_with (first
   |(go_at_call 101;refine(l2Clamp_any _ _ _).mono ?_;rintro e w1 ⟨rfl,hb1⟩;obtain⟨hc1,hf1⟩:=bcell hb1;have hz1:=hb1.size;(try simp at hz1);have hq1x0a:w.heap.size<w1.heap.size:=(by omega);have hq1x1a:w.heap.size+1<w1.heap.size:=(by omega))
   |(go_at_call 89;refine(sVecLen_any _ _ _).mono ?_;rintro e w6 ⟨rfl,hb6⟩;obtain⟨hc6,hf6⟩:=bcell hb6;have hz6:=hb6.size;(try simp at hz6);have hq6x0a:w.heap.size<w6.heap.size:=(by omega);have hq6x1a:w.heap.size+1<w6.heap.size:=(by omega)))
   go_region
   all_goals
    go_wp2
    exact bodyPost_ret (v:=vv ((fc x*256).tdiv (vl (fc x) (fc y))) ((fc y*256).tdiv (vl (fc x) (fc y)))) (by simp[results,Tryz.results88,go_sem, *]) rfl ⟨by rw[E1.out,E2.out],bel_a⟩
end Go.Proofs.YtbdbbdjifgpgeaaGreat
namespace Go.Proofs.YtbdbbdjifgpgeaaGreat
open Go.RowKit
set_option linter.unusedVariables false
theorem kf2 {W w1:World} (hb:Below W.heap.size W w1) (b:Nat) (h:b+1<W.heap.size:=by((try simp only[zz]);omega)):
 ((∀ o,w1.cell? ⟨b,o,none⟩=W.cell? ⟨b,o,none⟩)∧(∀ o,w1.frozen? ⟨b,o,none⟩=W.frozen? ⟨b,o,none⟩)∧b<w1.heap.size)∧((∀ o,w1.cell? ⟨b+1,o,none⟩=W.cell? ⟨b+1,o,none⟩)∧(∀ o,w1.frozen? ⟨b+1,o,none⟩=W.frozen? ⟨b+1,o,none⟩)∧b+1<w1.heap.size):=
 ⟨kfa hb (b) (by omega),kfa hb (b+1) (by omega)⟩
theorem kf3 {W w1:World} (hb:Below W.heap.size W w1) (b:Nat) (h:b+1+1<W.heap.size:=by((try simp only[zz]);omega)):
 ((∀ o,w1.cell? ⟨b,o,none⟩=W.cell? ⟨b,o,none⟩)∧(∀ o,w1.frozen? ⟨b,o,none⟩=W.frozen? ⟨b,o,none⟩)∧b<w1.heap.size)∧((∀ o,w1.cell? ⟨b+1,o,none⟩=W.cell? ⟨b+1,o,none⟩)∧(∀ o,w1.frozen? ⟨b+1,o,none⟩=W.frozen? ⟨b+1,o,none⟩)∧b+1<w1.heap.size)∧((∀ o,w1.cell? ⟨b+1+1,o,none⟩=W.cell? ⟨b+1+1,o,none⟩)∧(∀ o,w1.frozen? ⟨b+1+1,o,none⟩=W.frozen? ⟨b+1+1,o,none⟩)∧b+1+1<w1.heap.size):=
 ⟨kfa hb (b) (by omega),kfa hb (b+1) (by omega),kfa hb (b+1+1) (by omega)⟩
theorem kf4 {W w1:World} (hb:Below W.heap.size W w1) (b:Nat) (h:b+1+1+1<W.heap.size:=by((try simp only[zz]);omega)):
 ((∀ o,w1.cell? ⟨b,o,none⟩=W.cell? ⟨b,o,none⟩)∧(∀ o,w1.frozen? ⟨b,o,none⟩=W.frozen? ⟨b,o,none⟩)∧b<w1.heap.size)∧((∀ o,w1.cell? ⟨b+1,o,none⟩=W.cell? ⟨b+1,o,none⟩)∧(∀ o,w1.frozen? ⟨b+1,o,none⟩=W.frozen? ⟨b+1,o,none⟩)∧b+1<w1.heap.size)∧((∀ o,w1.cell? ⟨b+1+1,o,none⟩=W.cell? ⟨b+1+1,o,none⟩)∧(∀ o,w1.frozen? ⟨b+1+1,o,none⟩=W.frozen? ⟨b+1+1,o,none⟩)∧b+1+1<w1.heap.size)∧((∀ o,w1.cell? ⟨b+1+1+1,o,none⟩=W.cell? ⟨b+1+1+1,o,none⟩)∧(∀ o,w1.frozen? ⟨b+1+1+1,o,none⟩=W.frozen? ⟨b+1+1+1,o,none⟩)∧b+1+1+1<w1.heap.size):=
 ⟨kfa hb (b) (by omega),kfa hb (b+1) (by omega),kfa hb (b+1+1) (by omega),kfa hb (b+1+1+1) (by omega)⟩
theorem kf5 {W w1:World} (hb:Below W.heap.size W w1) (b:Nat) (h:b+1+1+1+1<W.heap.size:=by((try simp only[zz]);omega)):
 ((∀ o,w1.cell? ⟨b,o,none⟩=W.cell? ⟨b,o,none⟩)∧(∀ o,w1.frozen? ⟨b,o,none⟩=W.frozen? ⟨b,o,none⟩)∧b<w1.heap.size)∧((∀ o,w1.cell? ⟨b+1,o,none⟩=W.cell? ⟨b+1,o,none⟩)∧(∀ o,w1.frozen? ⟨b+1,o,none⟩=W.frozen? ⟨b+1,o,none⟩)∧b+1<w1.heap.size)∧((∀ o,w1.cell? ⟨b+1+1,o,none⟩=W.cell? ⟨b+1+1,o,none⟩)∧(∀ o,w1.frozen? ⟨b+1+1,o,none⟩=W.frozen? ⟨b+1+1,o,none⟩)∧b+1+1<w1.heap.size)∧((∀ o,w1.cell? ⟨b+1+1+1,o,none⟩=W.cell? ⟨b+1+1+1,o,none⟩)∧(∀ o,w1.frozen? ⟨b+1+1+1,o,none⟩=W.frozen? ⟨b+1+1+1,o,none⟩)∧b+1+1+1<w1.heap.size)∧((∀ o,w1.cell? ⟨b+1+1+1+1,o,none⟩=W.cell? ⟨b+1+1+1+1,o,none⟩)∧(∀ o,w1.frozen? ⟨b+1+1+1+1,o,none⟩=W.frozen? ⟨b+1+1+1+1,o,none⟩)∧b+1+1+1+1<w1.heap.size):=
 ⟨kfa hb (b) (by omega),kfa hb (b+1) (by omega),kfa hb (b+1+1) (by omega),kfa hb (b+1+1+1) (by omega),kfa hb (b+1+1+1+1) (by omega)⟩
theorem kf6 {W w1:World} (hb:Below W.heap.size W w1) (b:Nat) (h:b+1+1+1+1+1<W.heap.size:=by((try simp only[zz]);omega)):
 ((∀ o,w1.cell? ⟨b,o,none⟩=W.cell? ⟨b,o,none⟩)∧(∀ o,w1.frozen? ⟨b,o,none⟩=W.frozen? ⟨b,o,none⟩)∧b<w1.heap.size)∧((∀ o,w1.cell? ⟨b+1,o,none⟩=W.cell? ⟨b+1,o,none⟩)∧(∀ o,w1.frozen? ⟨b+1,o,none⟩=W.frozen? ⟨b+1,o,none⟩)∧b+1<w1.heap.size)∧((∀ o,w1.cell? ⟨b+1+1,o,none⟩=W.cell? ⟨b+1+1,o,none⟩)∧(∀ o,w1.frozen? ⟨b+1+1,o,none⟩=W.frozen? ⟨b+1+1,o,none⟩)∧b+1+1<w1.heap.size)∧((∀ o,w1.cell? ⟨b+1+1+1,o,none⟩=W.cell? ⟨b+1+1+1,o,none⟩)∧(∀ o,w1.frozen? ⟨b+1+1+1,o,none⟩=W.frozen? ⟨b+1+1+1,o,none⟩)∧b+1+1+1<w1.heap.size)∧((∀ o,w1.cell? ⟨b+1+1+1+1,o,none⟩=W.cell? ⟨b+1+1+1+1,o,none⟩)∧(∀ o,w1.frozen? ⟨b+1+1+1+1,o,none⟩=W.frozen? ⟨b+1+1+1+1,o,none⟩)∧b+1+1+1+1<w1.heap.size)∧((∀ o,w1.cell? ⟨b+1+1+1+1+1,o,none⟩=W.cell? ⟨b+1+1+1+1+1,o,none⟩)∧(∀ o,w1.frozen? ⟨b+1+1+1+1+1,o,none⟩=W.frozen? ⟨b+1+1+1+1+1,o,none⟩)∧b+1+1+1+1+1<w1.heap.size):=
 ⟨kfa hb (b) (by omega),kfa hb (b+1) (by omega),kfa hb (b+1+1) (by omega),kfa hb (b+1+1+1) (by omega),kfa hb (b+1+1+1+1) (by omega),kfa hb (b+1+1+1+1+1) (by omega)⟩
end Go.Proofs.YtbdbbdjifgpgeaaGreat
namespace Go.Proofs.YtbdbbdjifgpgeaaGreat
open Go.RowKit
set_option linter.unusedVariables false
set_option linter.unusedSimpArgs false
def bb (o:Bool) (x:Int):Int:=if o=true then x else 0
end Go.Proofs.YtbdbbdjifgpgeaaGreat
namespace Go.Proofs.YtbdbbdjifgpgeaaGreat
open Go.RowKit
set_option linter.unusedVariables false
theorem kfy {m:Nat} {W w1:World} (hc:∀ b o,b<m→w1.cell? ⟨b,o,none⟩=W.cell? ⟨b,o,none⟩) (hf:∀ b o,b<m→w1.frozen? ⟨b,o,none⟩=W.frozen? ⟨b,o,none⟩) (hz:m≤w1.heap.size) (b:Nat) (h:b<m):
 (∀ o,w1.cell? ⟨b,o,none⟩=W.cell? ⟨b,o,none⟩)∧(∀ o,w1.frozen? ⟨b,o,none⟩=W.frozen? ⟨b,o,none⟩)∧b<w1.heap.size∧(b=w1.heap.size)=False∧(w1.heap.size=b)=False:=
 have q:=Nat.lt_of_lt_of_le h hz
 ⟨fun o=>hc b o h,fun o=>hf b o h,q,eq_false (Nat.ne_of_lt q),eq_false (Nat.ne_of_gt q)⟩
end Go.Proofs.YtbdbbdjifgpgeaaGreat
