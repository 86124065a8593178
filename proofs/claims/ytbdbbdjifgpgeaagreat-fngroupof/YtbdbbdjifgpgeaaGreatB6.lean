/- Texts of a proof. -/
import Derived.Test.YtbdbbdjifgpgeaaGreatB5
import Derived.Deep.RegionHeld3
import Derived.Test.YtbdbbdjifgpgeaaGreatB1
import Derived.Test.YtbdbbdjifgpgeaaGreatB3
import Derived.Test.YtbdbbdjifgpgeaaGreatRfG
import Derived.LoopNIn
import Derived.LoopIn
import Derived.OwnWalkIn
import Derived.RangeFuncBound
import Derived.Shelf.Abstract
import Derived.Deep.DeepCutAuto
import Derived.Deep.QuietTactic
import Derived.BigQuiet
import Derived.Deep.RegionWith
set_option maxHeartbeats 16000000
set_option maxRecDepth 20000
namespace Go.Proofs.YtbdbbdjifgpgeaaGreat
open Go.RowKit
set_option linter.unusedVariables false
set_option linter.unusedSimpArgs false
def Dn (x:Int):Prop:= -1099511627776≤x∧x≤1099511627776
theorem RB.size {w0 w:World} {rb p:Nat} (h:RB w0 w rb p):w0.heap.size≤w.heap.size:=by
 have:=(h.old (B:=0) (Nat.zero_le _) (Nat.zero_le _)).size
 exact this
def szB (n:Int):Bool:=decide (1≤n∧n≤25600)
theorem isSize_any (n:Int) (w:World):
 Calls Tryz.prog 99 #[.int .i64 n] w fun e w'=>e= .returned (.bool (szB n))∧w'=w:=by
 go_enter Tryz.func99,Tryz.ntmps99
 go_wp2
 all_goals
  go_ret
  refine⟨ret_bool ?_,rfl⟩
  unfold szB
  first|(simp;omega)|(simp;done)
def rdB (k wd h:Int):Bool:=decide (k=1∧(1≤wd∧wd≤25600)∧h=0)
def bxB (k wd h:Int):Bool:=decide (k=2∧(1≤wd∧wd≤25600)∧(1≤h∧h≤25600))
def shB (k wd h:Int):Bool:=rdB k wd h||bxB k wd h
abbrev s3 (k wd h:Int):Value:= .agg #[.int .i64 k,.int .i64 wd,.int .i64 h]
theorem figureOf_round (wd:Int) (w:World) (h1:1≤wd) (h2:wd≤25600):
 Calls Tryz.prog 83 #[s3 1 wd 0] w fun e w'=>e= .returned (.tuple #[.iface 138 (.agg #[.int .i64 wd]),.bool true])∧Below w.heap.size w w':=by
 have hs:szB wd=true:=by unfold szB;simp;omega
 go_enter Tryz.func83,Tryz.ntmps83
 go_wp2_with (go_at_call 99;refine(isSize_any _ _).mono ?_;rintro e w' ⟨rfl,rfl⟩)
 go_ret2
 exact⟨rfl,(Below.refl _ _).alloc (Nat.le_refl _) _⟩
theorem figureOf_box (wd h:Int) (w:World) (h1:1≤wd) (h2:wd≤25600) (h3:1≤h) (h4:h≤25600):
 Calls Tryz.prog 83 #[s3 2 wd h] w fun e w'=>e= .returned (.tuple #[.iface 140 (.agg #[.int .i64 wd,.int .i64 h]),.bool true])∧Below w.heap.size w w':=by
 have hs:szB wd=true:=by unfold szB;simp;omega
 have hs2:szB h=true:=by unfold szB;simp;omega
 go_enter Tryz.func83,Tryz.ntmps83
 go_wp2_with (go_at_call 99;refine(isSize_any _ _).mono ?_;rintro e w' ⟨rfl,rfl⟩)
 go_ret2
 exact⟨rfl,(Below.refl _ _).alloc (Nat.le_refl _) _⟩
theorem figureOf_none (k wd h:Int) (w:World) (hn:shB k wd h=false):
 Calls Tryz.prog 83 #[s3 k wd h] w fun e w'=>e= .returned (.tuple #[.nilIface,.bool false])∧Below w.heap.size w w':=by
 have HN:Hid (¬ ((k=1∧(1≤wd∧wd≤25600)∧h=0)∨(k=2∧(1≤wd∧wd≤25600)∧(1≤h∧h≤25600)))):=by
  unfold shB rdB bxB at hn
  simp only[Bool.or_eq_false_iff,decide_eq_false_iff_not] at hn
  rintro(h|h)
  · exact hn.1 h
  · exact hn.2 h
 clear hn
 have hsz:Hid (∀ n,szB n=true→1≤n∧n≤25600):=by intro n hn;unfold szB at hn;simpa using hn
 go_enter Tryz.func83,Tryz.ntmps83
 go_wp2_with (go_at_call 99;refine(isSize_any _ _).mono ?_;rintro e w' ⟨rfl,rfl⟩)
 all_goals
  first
   |(go_ret2;exact⟨rfl,(Below.refl _ _).alloc (Nat.le_refl _) _⟩)
   |(exfalso;subst k;exact HN.out (.inl ⟨rfl,hsz.out _ ‹_›,by simpa using ‹(h==0)=true›⟩))
   |(exfalso;subst k;exact HN.out (.inr ⟨rfl,hsz.out _ ‹szB wd=true›,hsz.out _ ‹szB h=true›⟩))
theorem shapeOk_any (k wd h:Int) (w:World):
 Calls Tryz.prog 50 #[s3 k wd h] w fun e w'=>e= .returned (.bool (shB k wd h))∧Below w.heap.size w w':=by
 by_cases hr:rdB k wd h=true
 · have e:shB k wd h=true:=by unfold shB;rw[hr];rfl
   have E:Hid (shB k wd h=true):=e
   clear e
   unfold rdB at hr
   obtain⟨rfl,⟨h1,h2⟩,rfl⟩:=of_decide_eq_true hr
   clear hr
   go_enter Tryz.func50,Tryz.ntmps50
   go_wp2_with (go_at_call 83;refine(figureOf_round _ _ h1 h2).mono ?_;rintro e w1 ⟨rfl,hb1⟩)
   go_ret
   exact⟨ret_bool E.out.symm,((Below.refl _ _).alloc (Nat.le_refl _) _).trans (hb1.mono (by simp))⟩
 · by_cases hb:bxB k wd h=true
   · have e:shB k wd h=true:=by unfold shB;rw[hb];simp
     have E:Hid (shB k wd h=true):=e
     clear e hr
     unfold bxB at hb
     obtain⟨rfl,⟨h1,h2⟩,h3,h4⟩:=of_decide_eq_true hb
     clear hb
     go_enter Tryz.func50,Tryz.ntmps50
     go_wp2_with (go_at_call 83;refine(figureOf_box _ _ _ h1 h2 h3 h4).mono ?_;rintro e w1 ⟨rfl,hb1⟩)
     go_ret
     exact⟨ret_bool E.out.symm,((Below.refl _ _).alloc (Nat.le_refl _) _).trans (hb1.mono (by simp))⟩
   · have e:shB k wd h=false:=by unfold shB;simp[hr,hb]
     have E:Hid (shB k wd h=false):=e
     clear e hr hb
     go_enter Tryz.func50,Tryz.ntmps50
     go_wp2_with (go_at_call 83;refine(figureOf_none _ _ _ _ E.out).mono ?_;rintro e w1 ⟨rfl,hb1⟩)
     go_ret
     exact⟨ret_bool E.out.symm,((Below.refl _ _).alloc (Nat.le_refl _) _).trans (hb1.mono (by simp))⟩
theorem sShapeOk_any (k wd h:Int) (w:World):
 Calls Tryz.prog 38 #[s3 k wd h] w fun e w'=>e= .returned (.bool (shB k wd h))∧Below w.heap.size w w':=by
 go_enter Tryz.func38,Tryz.ntmps38
 go_wp2_with (go_at_call 37;refine(l1In_any _ _ _ _).mono ?_;rintro e w' ⟨rfl,rfl⟩)
 all_goals
  go_ret
  refine⟨ret_bool ?_,(Below.refl _ _).alloc (Nat.le_refl _) _⟩
  unfold shB rdB bxB
  first|(simp[*];done)|(simp at*;subst k;simp[*];done)|(simp at*;subst k;simp[*];rfl)|(simp at*;subst k;simp;omega)|(simp at*;simp[*];done)
def Bn (x:Int):Prop:= -1100000000≤x∧x≤1100000000
def RS (w:World) (rb p:Nat):Prop:=∃ q,q≤p∧Rd w rb q
theorem RS.of {w0 w:World} {rb p:Nat} (h:RB w0 w rb p):RS w rb p:=by
 obtain⟨q,a,b,c⟩:=h;exact⟨q,a,b⟩
theorem RS.rb {w:World} {rb p:Nat} (h:RS w rb p):RB w w rb p:=by
 obtain⟨q,a,b⟩:=h;exact⟨q,a,b,But.refl _ _⟩
theorem RS.mono {w:World} {rb p p':Nat} (h:RS w rb p) (k:p≤p'):RS w rb p':=by
 obtain⟨q,a,b⟩:=h;exact⟨q,by omega,b⟩
theorem RS.up {w0 w:World} {rb p p':Nat} (h:RB w0 w rb p) (k:p≤p'):RS w rb p':=(RS.of h).mono k
theorem RB.but {w0 w:World} {rb p:Nat} (h:RB w0 w rb p):But rb w0 w:=by
 obtain⟨q,a,b,c⟩:=h;exact c
theorem RB.mk {w0 w:World} {rb p:Nat} (h:But rb w0 w) (k:RS w rb p):RB w0 w rb p:=by
 obtain⟨q,a,b⟩:=k;exact⟨q,a,b,h⟩
theorem But.setNew {rb:Nat} {a w:World} (h:But rb a w) {x:Addr} (hx:a.heap.size≤x.block) (u:Value):But rb a (w.setCell x u):=
 ⟨h.os,h.tape,h.output,by simpa [World.setCell] using h.size,fun k hk hn=>(Below.heap_setCell _ _ _ _ (by omega)).trans (h.block k hk hn)⟩
theorem But.drew {rb:Nat} {a w:World} (h:But rb a w):But rb a w.drew:=⟨h.os,h.tape,h.output,h.size,h.block⟩
theorem RS.lt {w:World} {rb p:Nat} (h:RS w rb p):rb<w.heap.size:=h.rb.lt
theorem RS.alloc {w:World} {rb p:Nat} (h:RS w rb p) (o:Obj):RS (w.alloc o) rb p:=RS.of (h.rb.alloc o)
theorem RS.setNew {w:World} {rb p:Nat} (h:RS w rb p) {a:Addr} (ha:rb<a.block) (v:Value):RS (w.setCell a v) rb p:=by
 obtain⟨q,k,b⟩:=h;exact⟨q,k,b.setNew ha v⟩
theorem RS.drewN {w:World} {rb p:Nat} (h:RS w rb p) (n:Nat):RS (w.drewN n) rb p:=h
theorem RS.drew {w:World} {rb p:Nat} (h:RS w rb p):RS w.drew rb p:=h
theorem RB.drewN {w0 w:World} {rb p:Nat} (h:RB w0 w rb p) (n:Nat):RB w0 (w.drewN n) rb p:=by
 obtain⟨q,a,b,c⟩:=h;exact⟨q,a,b,c.drewN n⟩
theorem RB.drew {w0 w:World} {rb p:Nat} (h:RB w0 w rb p):RB w0 w.drew rb p:=by
 obtain⟨q,a,b,c⟩:=h;exact⟨q,a,b,c.drewN 1⟩
theorem RB.trans {a b c:World} {rb p p':Nat} (h:RB a b rb p) (k:RB b c rb p'):RB a c rb p':=by
 obtain⟨q,_,_,x⟩:=h
 obtain⟨q',y,z,u⟩:=k
 exact⟨q',y,z,x.trans u⟩
theorem pick_s (rb p:Nat) (n:Int) (w:World) (hr:RS w rb p) (hp:p≤999000) (h0:1≤n) (h1:n≤4000000000):
 Calls Tryz.prog 13 #[.pointer (some ⟨rb,0,none⟩),.int .i64 n] w fun e w'=>∃ v:Int,e= .returned (.int .i64 v)∧0≤v∧v<n∧RB w w' rb (p+1):=
 pick_rb w rb p n w hr.rb hp h0 h1
theorem one_s (lo hi:Int) (rb p len cap:Nat) (cs:Array Value) (t:TypeId) (w:World) (hr:RS w rb p) (hp:p≤999000) (hcs:AllBd lo hi cs.toList) (hl:cs.size=len) (h0:1≤len) (h1:len≤100):
 Calls Tryz.prog 45 #[.pointer (some ⟨rb,0,none⟩),.slice (some ⟨w.heap.size,0,none⟩) len cap] (w.alloc (.cells cs t)) fun e w'=>∃ v:Int,e= .returned (.int .i64 v)∧lo≤v∧v≤hi∧RB w w' rb (p+1):=
 one_rb lo hi w rb p len cap cs t w hr.rb hp hcs hl h0 h1
theorem one_g (lo hi:Int) (rb p lb len cap:Nat) (xs:List Int) (w:World) (hr:RS w rb p) (hp:p≤999000) (hx:∀ x∈xs,lo≤x∧x≤hi) (hl:xs.length=len) (h0:1≤len) (h1:len≤100) (hb:lb≠rb) (hc:∀ i,i<len→w.cell? ⟨lb,i,none⟩=some (.int .i64 (xs.getD i 0))):
 Calls Tryz.prog 45 #[.pointer (some ⟨rb,0,none⟩),.slice (some ⟨lb,0,none⟩) len cap] w fun e w'=>∃ v:Int,e= .returned (.int .i64 v)∧lo≤v∧v≤hi∧RB w w' rb (p+1):=by
 obtain⟨q,hq,hd⟩:=hr
 refine(one_any rb q lb len cap xs w hd (by omega) hl h0 h1 hb hc).mono ?_
 rintro e w' ⟨v,rfl,hv,hr',hb'⟩
 obtain⟨v0,v1⟩:=hx v hv
 exact⟨v,rfl,v0,v1,q+1,by omega,hr',hb'⟩
def Bm (x:Int):Prop:= -10000≤x∧x≤10000
theorem Bm.mk {x:Int} (h: -10000≤x∧x≤10000):Bm x:=h
theorem Bm.bn {x:Int} (h:Bm x):Bn x:=by unfold Bm Bn at*;omega
theorem Bn.mk {x:Int} (h: -1100000000≤x∧x≤1100000000):Bn x:=h
theorem l11Place_s (rb p:Nat) (w:World) (hs0:RS w rb p) (hp:p≤997900):
 Calls Tryz.prog 71 #[.pointer (some ⟨rb,0,none⟩)] w fun e w'=>∃ x y:Int,e= .returned (vv x y)∧(Bm x∧Bm y)∧RB w w' rb (p+60):=by
 have hlt:=hs0.lt
 have hne:(w.heap.size=rb)=False:=eq_false (by omega)
 have hset:=cset_map
 go_enter Tryz.func71,Tryz.ntmps71
 go_wp2_with (first
  |(have _:=hr1;go_at_call 13;refine(pick_s rb (p+20) _ _ (by repeat(first|(with_reducible apply RS.setNew;rotate_left;(first|omega|(simp only[zz];omega)))|with_reducible apply RS.alloc|(with_reducible apply RS.up hr1;omega)|(with_reducible apply RS.mono hs0;omega)|with_reducible apply RS.drew|with_reducible apply RS.drewN)) (by omega) (by omega) (by omega)).mono ?_;rintro e w2 ⟨v2,rfl,va2,vb2,hr2⟩;obtain⟨hc2,hf2⟩:=RB.cells hr2;have hz2:=RB.size hr2;(try simp only[zz] at hc2 hf2 hz2);have hq2x0:w.heap.size<w2.heap.size:=(by omega);have ha2x0:(w2.heap.size=w.heap.size)=False:=eq_false (by omega);have hb2x0:(w.heap.size=w2.heap.size)=False:=eq_false (by omega);have he2x0:(w.heap.size=rb)=False:=eq_false (by omega);have hk2x0:=fun o=>hc2 (w.heap.size) o (by omega) (by omega);have hj2x0:=fun o=>hf2 (w.heap.size) o (by omega) (by omega))
  |(go_at_call 13;refine(pick_s rb (p+10) _ _ (by repeat(first|(with_reducible apply RS.setNew;rotate_left;(first|omega|(simp only[zz];omega)))|with_reducible apply RS.alloc|(with_reducible apply RS.mono hs0;omega)|with_reducible apply RS.drew|with_reducible apply RS.drewN)) (by omega) (by omega) (by omega)).mono ?_;rintro e w1 ⟨v1,rfl,va1,vb1,hr1⟩;obtain⟨hc1,hf1⟩:=RB.cells hr1;have hz1:=RB.size hr1;(try simp only[zz] at hc1 hf1 hz1);have hq1x0:w.heap.size<w1.heap.size:=(by omega);have ha1x0:(w1.heap.size=w.heap.size)=False:=eq_false (by omega);have hb1x0:(w.heap.size=w1.heap.size)=False:=eq_false (by omega);have he1x0:(w.heap.size=rb)=False:=eq_false (by omega);have hk1x0:=fun o=>hc1 (w.heap.size) o (by omega) (by omega);have hj1x0:=fun o=>hf1 (w.heap.size) o (by omega) (by omega)))
 exact bodyPost_ret (v:=vv (v1*8-1024) (v2*8-1024)) (by simp[results,Tryz.results71,go_sem, *]) rfl ⟨_,_,rfl,⟨Bm.mk ⟨by omega,by omega⟩,Bm.mk ⟨by omega,by omega⟩⟩,RB.mk (by repeat(first|(with_reducible apply But.setNew;rotate_left;(first|omega|(simp only[zz];omega)))|with_reducible apply But.alloc|with_reducible apply But.trans (k:=RB.but hr2)|with_reducible apply But.trans (k:=RB.but hr1)|with_reducible apply But.refl|with_reducible apply But.drewN|with_reducible apply But.drew)) (by repeat(first|(with_reducible apply RS.setNew;rotate_left;(first|omega|(simp only[zz];omega)))|with_reducible apply RS.alloc|(with_reducible apply RS.up hr2;omega)|(with_reducible apply RS.up hr1;omega)|(with_reducible apply RS.mono hs0;omega)|with_reducible apply RS.drew|with_reducible apply RS.drewN))⟩
theorem l11Shape_s (rb p:Nat) (w:World) (hs0:RS w rb p) (hp:p≤997900):
 Calls Tryz.prog 70 #[.pointer (some ⟨rb,0,none⟩)] w fun e w'=>∃ k g h:Int,e= .returned (s3 k g h)∧(Bn k∧Bn g∧Bn h)∧RB w w' rb (p+60):=by
 have hlt:=hs0.lt
 have hne:(w.heap.size=rb)=False:=eq_false (by omega)
 have hset:=cset_map
 go_enter Tryz.func70,Tryz.ntmps70
 go_wp2_with (first
  |(have _:=hr3;go_at_call 13;refine(pick_s rb (p+40) _ _ (by repeat(first|(with_reducible apply RS.setNew;rotate_left;(first|omega|(simp only[zz];omega)))|with_reducible apply RS.alloc|(with_reducible apply RS.up hr3;omega)|(with_reducible apply RS.mono hs0;omega)|with_reducible apply RS.drew|with_reducible apply RS.drewN)) (by omega) (by omega) (by omega)).mono ?_;rintro e w4 ⟨v4,rfl,va4,vb4,hr4⟩;obtain⟨hc4,hf4⟩:=RB.cells hr4;have hz4:=RB.size hr4;(try simp only[zz] at hc4 hf4 hz4);have hq4x0:w.heap.size<w4.heap.size:=(by omega);have ha4x0:(w4.heap.size=w.heap.size)=False:=eq_false (by omega);have hb4x0:(w.heap.size=w4.heap.size)=False:=eq_false (by omega);have he4x0:(w.heap.size=rb)=False:=eq_false (by omega);have hk4x0:=fun o=>hc4 (w.heap.size) o (by omega) (by omega);have hj4x0:=fun o=>hf4 (w.heap.size) o (by omega) (by omega))
  |(have _:=hr2;go_at_call 13;refine(pick_s rb (p+30) _ _ (by repeat(first|(with_reducible apply RS.setNew;rotate_left;(first|omega|(simp only[zz];omega)))|with_reducible apply RS.alloc|(with_reducible apply RS.up hr2;omega)|(with_reducible apply RS.mono hs0;omega)|with_reducible apply RS.drew|with_reducible apply RS.drewN)) (by omega) (by omega) (by omega)).mono ?_;rintro e w3 ⟨v3,rfl,va3,vb3,hr3⟩;obtain⟨hc3,hf3⟩:=RB.cells hr3;have hz3:=RB.size hr3;(try simp only[zz] at hc3 hf3 hz3);have hq3x0:w.heap.size<w3.heap.size:=(by omega);have ha3x0:(w3.heap.size=w.heap.size)=False:=eq_false (by omega);have hb3x0:(w.heap.size=w3.heap.size)=False:=eq_false (by omega);have he3x0:(w.heap.size=rb)=False:=eq_false (by omega);have hk3x0:=fun o=>hc3 (w.heap.size) o (by omega) (by omega);have hj3x0:=fun o=>hf3 (w.heap.size) o (by omega) (by omega))
  |(go_at_call 13;refine(pick_s rb (p+10) _ _ (by repeat(first|(with_reducible apply RS.setNew;rotate_left;(first|omega|(simp only[zz];omega)))|with_reducible apply RS.alloc|(with_reducible apply RS.mono hs0;omega)|with_reducible apply RS.drew|with_reducible apply RS.drewN)) (by omega) (by omega) (by omega)).mono ?_;rintro e w1 ⟨v1,rfl,va1,vb1,hr1⟩;obtain⟨hc1,hf1⟩:=RB.cells hr1;have hz1:=RB.size hr1;(try simp only[zz] at hc1 hf1 hz1);have hq1x0:w.heap.size<w1.heap.size:=(by omega);have ha1x0:(w1.heap.size=w.heap.size)=False:=eq_false (by omega);have hb1x0:(w.heap.size=w1.heap.size)=False:=eq_false (by omega);have he1x0:(w.heap.size=rb)=False:=eq_false (by omega);have hk1x0:=fun o=>hc1 (w.heap.size) o (by omega) (by omega);have hj1x0:=fun o=>hf1 (w.heap.size) o (by omega) (by omega))
  |(have _:=hr4;go_at_call 45;refine(one_s (1) 1000 rb (p+50) _ _ _ _ _ (by repeat(first|(with_reducible apply RS.setNew;rotate_left;(first|omega|(simp only[zz];omega)))|with_reducible apply RS.alloc|(with_reducible apply RS.up hr4;omega)|(with_reducible apply RS.mono hs0;omega)|with_reducible apply RS.drew|with_reducible apply RS.drewN)) (by omega) (by repeat(first|exact AllBd.nil|refine AllBd.cons (by omega) (by omega) ?_)) (by rfl) (by omega) (by omega)).mono ?_;rintro e w5 ⟨v5,rfl,va5,vb5,hr5⟩;obtain⟨hc5,hf5⟩:=RB.cells hr5;have hz5:=RB.size hr5;(try simp only[zz] at hc5 hf5 hz5);have hq5x0:w.heap.size<w5.heap.size:=(by omega);have ha5x0:(w5.heap.size=w.heap.size)=False:=eq_false (by omega);have hb5x0:(w.heap.size=w5.heap.size)=False:=eq_false (by omega);have he5x0:(w.heap.size=rb)=False:=eq_false (by omega);have hk5x0:=fun o=>hc5 (w.heap.size) o (by omega) (by omega);have hj5x0:=fun o=>hf5 (w.heap.size) o (by omega) (by omega))
  |(have _:=hr1;go_at_call 45;refine(one_s (1) 1000 rb (p+20) _ _ _ _ _ (by repeat(first|(with_reducible apply RS.setNew;rotate_left;(first|omega|(simp only[zz];omega)))|with_reducible apply RS.alloc|(with_reducible apply RS.up hr1;omega)|(with_reducible apply RS.mono hs0;omega)|with_reducible apply RS.drew|with_reducible apply RS.drewN)) (by omega) (by repeat(first|exact AllBd.nil|refine AllBd.cons (by omega) (by omega) ?_)) (by rfl) (by omega) (by omega)).mono ?_;rintro e w2 ⟨v2,rfl,va2,vb2,hr2⟩;obtain⟨hc2,hf2⟩:=RB.cells hr2;have hz2:=RB.size hr2;(try simp only[zz] at hc2 hf2 hz2);have hq2x0:w.heap.size<w2.heap.size:=(by omega);have ha2x0:(w2.heap.size=w.heap.size)=False:=eq_false (by omega);have hb2x0:(w.heap.size=w2.heap.size)=False:=eq_false (by omega);have he2x0:(w.heap.size=rb)=False:=eq_false (by omega);have hk2x0:=fun o=>hc2 (w.heap.size) o (by omega) (by omega);have hj2x0:=fun o=>hf2 (w.heap.size) o (by omega) (by omega)))
 · exact bodyPost_ret (v:=s3 1 v2 0) (by simp[results,Tryz.results70,go_sem, *]) rfl ⟨_,_,_,rfl,⟨Bn.mk ⟨by omega,by omega⟩,Bn.mk ⟨by omega,by omega⟩,Bn.mk ⟨by omega,by omega⟩⟩,RB.mk (by repeat(first|(with_reducible apply But.setNew;rotate_left;(first|omega|(simp only[zz];omega)))|with_reducible apply But.alloc|with_reducible apply But.trans (k:=RB.but hr3)|with_reducible apply But.trans (k:=RB.but hr2)|with_reducible apply But.trans (k:=RB.but hr1)|with_reducible apply But.refl|with_reducible apply But.drewN|with_reducible apply But.drew)) (by repeat(first|(with_reducible apply RS.setNew;rotate_left;(first|omega|(simp only[zz];omega)))|with_reducible apply RS.alloc|(with_reducible apply RS.up hr3;omega)|(with_reducible apply RS.up hr2;omega)|(with_reducible apply RS.up hr1;omega)|(with_reducible apply RS.mono hs0;omega)|with_reducible apply RS.drew|with_reducible apply RS.drewN))⟩
 · exact bodyPost_ret (v:=s3 2 v2 v5) (by simp[results,Tryz.results70,go_sem, *]) rfl ⟨_,_,_,rfl,⟨Bn.mk ⟨by omega,by omega⟩,Bn.mk ⟨by omega,by omega⟩,Bn.mk ⟨by omega,by omega⟩⟩,RB.mk (by repeat(first|(with_reducible apply But.setNew;rotate_left;(first|omega|(simp only[zz];omega)))|with_reducible apply But.alloc|with_reducible apply But.trans (k:=RB.but hr5)|with_reducible apply But.trans (k:=RB.but hr4)|with_reducible apply But.trans (k:=RB.but hr3)|with_reducible apply But.trans (k:=RB.but hr2)|with_reducible apply But.trans (k:=RB.but hr1)|with_reducible apply But.refl|with_reducible apply But.drewN|with_reducible apply But.drew)) (by repeat(first|(with_reducible apply RS.setNew;rotate_left;(first|omega|(simp only[zz];omega)))|with_reducible apply RS.alloc|(with_reducible apply RS.up hr5;omega)|(with_reducible apply RS.up hr4;omega)|(with_reducible apply RS.up hr3;omega)|(with_reducible apply RS.up hr2;omega)|(with_reducible apply RS.up hr1;omega)|(with_reducible apply RS.mono hs0;omega)|with_reducible apply RS.drew|with_reducible apply RS.drewN))⟩
end Go.Proofs.YtbdbbdjifgpgeaaGreat
namespace Go.Proofs.YtbdbbdjifgpgeaaGreat
open Go.RowKit Go.Shelf
set_option linter.unusedVariables false
set_option linter.unusedSimpArgs false
abbrev hdk (cb k:Nat):Value:= .agg #[.int .i64 (k:Int),.pointer (some ⟨cb,0,none⟩)]
theorem handle_any (cb k:Nat) (w:World):
 Calls Tryz.prog 48 #[.pointer (some ⟨cb,0,none⟩),.int .i64 (k:Int)] w fun e w'=>e= .returned (hdk cb k)∧Below w.heap.size w w':=by
 go_enter Tryz.func48,Tryz.ntmps48
 go_wp2
 exact bodyPost_ret (v:=hdk cb k) (by simp[results,Tryz.results48,go_sem, *]) rfl ⟨rfl,by repeat(first|with_reducible apply Below.refl|(with_reducible apply Below.setCell;rotate_left;focus (first|omega|(simp;done)|(simp;omega)))|(with_reducible apply Below.alloc;rotate_left;focus (first|omega|(simp;done)|(simp;omega))))⟩
theorem each_enters:∀ args w,(callFunc 26 args).run Tryz.prog w= .ok (.enter 26 args) w:=enters_of Tryz.func26 (by kernel_rfl) rfl
theorem each_it (cb nn cc:Nat) (ad:Option Addr) (w:World) (hcb:cb<w.heap.size) (hc:w.cell? ⟨cb,0,none⟩=some (.slice ad nn cc)) (hn:nn≤1048576):
 ItC Tryz.prog 26 #[.pointer (some ⟨cb,0,none⟩)] (fun k=> #[hdk cb k]) nn w:=by
 intro l J Jx W hbW hJb hJx hY h0
 have hc':W.cell? ⟨cb,0,none⟩=some (.slice ad nn cc):=(hbW.cell (p:=⟨cb,0,none⟩) hcb).trans hc
 refine callsIn_of_wp Tryz.func26 rfl trivial ?_ rfl
 simp only[Tryz.ntmps26,List.size_toArray,List.length_cons,List.length_nil,Nat.reduceAdd,Nat.reduceSub,Array.replicate_succ,Array.replicate_zero,List.push_toArray,List.append_toArray,List.nil_append,List.cons_append]
 gi_wp2
 gi_loopw [4,10] (fun _ i wr=>∃ k:Nat,k≤nn∧i= .int .i64 (k:Int)∧J k wr) (fun _ i _=>nn-(intOf i).toNat)
 case atStart=>exact⟨0,Nat.zero_le _,rfl,h0⟩
 case round=>
  obtain⟨k,hk,rfl,hJ⟩:=hrel
  by_cases hlt:k<nn
  · gi_wp2_with (refine⟨trivial,rfl,?_⟩;gi_at_call 48;refine(callsIn_wide.2 (handle_any cb k _)).mono ?_;rintro e w1 ⟨rfl,hb1⟩;have hJ1:=hJb _ _ _ hJ hb1;obtain⟨fn,tmps,assign,body,hy,hR⟩:=hY k w1 hJ1 hlt)
    refine⟨rfl,hR.mono ?_⟩
    rintro e w2 (⟨rfl,hJ2⟩|⟨rfl,hJx2⟩)
    · gi_wp2
      go_roundw
      case rel=>exact⟨k+1,by omega,by go_num,hJ2⟩
      case measure=>simp[intOf];omega
    · gi_wp2
      refine bodyPost_ret (results_none rfl _ _ _) rfl ?_
      exact⟨⟨_,rfl⟩,.inr hJx2⟩
  · gi_wp2
    go_end0
    obtain rfl:k=nn:=by omega
    exact⟨⟨_,rfl⟩,.inl hJ⟩
end Go.Proofs.YtbdbbdjifgpgeaaGreat
namespace Go.Proofs.YtbdbbdjifgpgeaaGreat
open Go.RowKit
set_option linter.unusedVariables false
set_option linter.unusedSimpArgs false
def ptB (a b c d x y:Int):Bool:=decide ((a≤x∧x≤c)∧(b≤y∧y≤d))
theorem l3Meets_any (a b c d r s t u:Int) (w:World):
 Calls Tryz.prog 90 #[b4 a b c d,b4 r s t u] w fun e w'=>e= .returned (.bool (leB a b t u&&leB r s c d))∧Below w.heap.size w w':=by
 have hset:=cset_map
 go_enter Tryz.func90,Tryz.ntmps90
 go_wp2
 all_goals
  go_ret
  refine⟨ret_bool ?_,bel_a⟩
  unfold leB
  first|(simp[*];done)|(simp at*;omega)|(simp[*];omega)
theorem l3Point_any (a b c d x y:Int) (w:World):
 Calls Tryz.prog 91 #[b4 a b c d,vv x y] w fun e w'=>e= .returned (.bool (ptB a b c d x y))∧Below w.heap.size w w':=by
 have hset:=cset_map
 go_enter Tryz.func91,Tryz.ntmps91
 go_wp2_with (go_at_call 37;refine(l1In_any _ _ _ _).mono ?_;rintro e w' ⟨rfl,rfl⟩)
 all_goals
  go_ret
  refine⟨ret_bool ?_,bel_a⟩
  unfold ptB
  first|(simp[*];done)|(simp at*;omega)|(simp[*];omega)
end Go.Proofs.YtbdbbdjifgpgeaaGreat
