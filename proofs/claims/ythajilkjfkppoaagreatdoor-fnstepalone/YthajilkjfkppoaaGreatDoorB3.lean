/- Texts of a proof. -/
import Derived.Test.YthajilkjfkppoaaGreatDoorRows
import Derived.Test.YthajilkjfkppoaaGreatDoorB1
import Derived.WalkKit
import Derived.WalkSpells
import Derived.WalkLawsBesides
import Derived.Deep.QuietTactic
import Derived.BigQuiet
import Derived.Deep.RegionWith
import Derived.Deep.RegionHeld3
set_option maxHeartbeats 16000000
set_option maxRecDepth 20000
namespace Go.Proofs.YthajilkjfkppoaaGreatDoor
open Go.RowKit
theorem held_any (n l:Int) (w:World) (h0:0≤l) (h1:l≤4000000000):
 Calls Tryz.prog 91 #[.int .i64 n,.int .i64 l] w fun e w'=>e= .returned (.int .i64 (clampZ l n))∧w'=w:=by
 go_enter Tryz.func91,Tryz.ntmps91
 go_wp2
 all_goals
  go_ret
  refine⟨ret_int ?_,rfl⟩
  unfold clampZ
  repeat' split
  all_goals(repeat' split at*)<;>omega
theorem sFixClamp_any (n:Int) (w:World):
 Calls Tryz.prog 156 #[.int .i64 n] w fun e w'=>e= .returned (.int .i64 (fc n))∧w'=w:=by
 go_enter Tryz.func156,Tryz.ntmps156
 go_wp2
 all_goals
  go_ret
  refine⟨ret_int ?_,rfl⟩
  unfold fc clampZ
  repeat' split
  all_goals omega
theorem times_any (n m:Int) (w:World) (hn: -1000000000≤n∧n≤1000000000) (hm: -1000000000≤m∧m≤1000000000):
 Calls Tryz.prog 194 #[.int .i64 n,.int .i64 m] w fun e w'=>e= .returned (.int .i64 (fc ((n*m).tdiv 256)))∧w'=w:=by
 have hp:=mul_bd hn hm
 obtain⟨p1,p2⟩:=hp
 go_enter Tryz.func194,Tryz.ntmps194
 go_wp2_with (go_at_call 91;refine(held_any _ _ _ (by decide) (by decide)).mono ?_;rintro e w' ⟨rfl,rfl⟩)
 go_ret
 exact⟨rfl,rfl⟩
end Go.Proofs.YthajilkjfkppoaaGreatDoor
namespace Go.Proofs.YthajilkjfkppoaaGreatDoor
open Go.RowKit
set_option linter.unusedVariables false
theorem lt_of_sq {a b:Int} (hb:0≤b) (h:a*a<b*b):a<b:=by
 rcases Int.lt_or_le a b with k|k
 · exact k
 · have:=sq_mono hb k;omega
theorem le_of_sq {a b:Int} (hb:0≤b) (h:a*a<(b+1)*(b+1)):a≤b:=by
 have:=lt_of_sq (show 0≤b+1 by omega) h;omega
theorem mid {l h:Int} (a:0≤l) (b:l+1<h):l<(l+h)/2∧(l+h)/2<h:=by omega
theorem l1Root_any (n:Int) (w:World) (h0:0≤n) (h1:n≤2000000000000000000):
 Calls Tryz.prog 157 #[.int .i64 n] w fun e w'=>e= .returned (.int .i64 (rootZ n))∧w'=w:=by
 go_enter Tryz.func157,Tryz.ntmps157
 go_wp2
 go_loop [4] (fun t=>∃ h:Int,1≤h∧h≤2828427126∧t= .int .i64 h) (fun t=>(2828427126-intOf t).toNat)
 case atStart=>exact⟨1,by omega,by omega,rfl⟩
 case round=>
  obtain⟨h,a1,a2,rfl⟩:=hrel
  have hb:=mul_bd (a:=h) (b:=h) (A:=2828427126) (B:=2828427126) (by omega) (by omega)
  obtain⟨hb1,hb2⟩:=hb
  by_cases hc:h*h≤n
  · have hle:h≤1414213563:=le_of_sq (by omega) (by omega)
    go_wp2
    go_round
    case rel=>exact⟨2*h,by omega,by omega,rfl⟩
    case measure=>simp[intOf];omega
  · go_wp2
    go_loop [3,4] (fun s t=>∃ l h:Int,0≤l∧l<h∧h≤2828427126∧l*l≤n∧n<h*h∧s= .int .i64 l∧t= .int .i64 h) (fun s t=>(intOf t-intOf s).toNat)
    case atStart=>exact⟨0,h,by omega,by omega,by omega,by omega,by omega,rfl,rfl⟩
    case round=>
     obtain⟨l,h,b0,b1,b2,b3,b4,rfl,rfl⟩:=hrel
     by_cases hd:1<h-l
     · have hm:=mid b0 (show l+1<h by omega)
       have hb:=mul_bd (a:=(l+h)/2) (b:=(l+h)/2) (A:=2828427126) (B:=2828427126) (by omega) (by omega)
       obtain⟨hb1,hb2⟩:=hb
       obtain⟨hm1,hm2⟩:=hm
       by_cases he:(l+h)/2*((l+h)/2)≤n
       · go_wp2
         go_round
         case rel=>exact⟨_,h,by omega,hm2,by omega,he,by omega,rfl,rfl⟩
         case measure=>simp[intOf];omega
       · go_wp2
         go_round
         case rel=>exact⟨l,_,by omega,hm1,by omega,b3,by omega,rfl,rfl⟩
         case measure=>simp[intOf];omega
     · have e:h=l+1:=by omega
       go_wp2
       go_ret
       exact⟨ret_int (rootZ_of ⟨b0,b3,by rw[←e];exact b4⟩).symm,rfl⟩
def cellInt (w:World) (a:Addr):Int:=match w.cell? a with|some v=>intOf v|none=>0
theorem cellInt_of {w:World} {a:Addr} {k:IntKind} {n:Int} (h:w.cell? a=some (.int k n)):cellInt w a=n:=by simp[cellInt,h,intOf]
theorem narrow_any (B:Nat) (n l h:Int) (w:World) (hl:w.cell? ⟨B+1,0,none⟩=some (.int .i64 l)) (hh:w.cell? ⟨B+2,0,none⟩=some (.int .i64 h)) (hn:w.cell? ⟨B,0,none⟩=some (.int .i64 n))
 (fl:w.frozen? ⟨B+1,0,none⟩=false) (fh:w.frozen? ⟨B+2,0,none⟩=false) (a0:0≤l) (a1:l+1<h) (a2:h≤2147483648):
 Calls Tryz.prog 195 #[.pointer (some ⟨B+1,0,none⟩),.pointer (some ⟨B+2,0,none⟩),.pointer (some ⟨B,0,none⟩)] w fun e w'=>∃ l' h':Int,
  e= .returned (.bool (decide (1<h'-l')))∧0≤l'∧l'<h'∧h'≤2147483648∧h'-l'<h-l∧(l'=l∨l'*l'≤n)∧(h'=h∨n<h'*h')∧
  w'.cell? ⟨B+1,0,none⟩=some (.int .i64 l')∧w'.cell? ⟨B+2,0,none⟩=some (.int .i64 h')∧w'.cell? ⟨B,0,none⟩=some (.int .i64 n)∧
  w'.frozen? ⟨B+1,0,none⟩=false∧w'.frozen? ⟨B+2,0,none⟩=false∧Below B w w':=by
 have hm:=mid a0 a1
 have hb:=mul_bd (a:=(l+h)/2) (b:=(l+h)/2) (A:=2147483648) (B:=2147483648) (by omega) (by omega)
 obtain⟨hb1,hb2⟩:=hb
 obtain⟨hm1,hm2⟩:=hm
 by_cases he:(l+h)/2*((l+h)/2)≤n
 · go_enter Tryz.func195,Tryz.ntmps195
   go_wp2
   go_ret
   exact⟨(l+h)/2,h,rfl,by omega,by omega,by omega,by omega,.inr he,.inl rfl,cset_same hl,by rw[cset_far (by simp)];exact hh,
    by rw[cset_far (by simp)];exact hn,by simpa using fl,by simpa using fh,(Below.refl _ _).setCell (by simp) _⟩
 · go_enter Tryz.func195,Tryz.ntmps195
   go_wp2
   go_ret
   exact⟨l,(l+h)/2,rfl,by omega,by omega,by omega,by omega,.inl rfl,.inr (by omega),by rw[cset_far (by simp)];exact hl,cset_same hh,
    by rw[cset_far (by simp)];exact hn,by simpa using fl,by simpa using fh,(Below.refl _ _).setCell (by simp) _⟩
theorem root_any (n:Int) (w:World) (h1:n≤2000000000000000000):
 Calls Tryz.prog 189 #[.int .i64 n] w fun e w'=>e= .returned (.int .i64 (rootZ n))∧Below w.heap.size w w':=by
 go_enter Tryz.func189,Tryz.ntmps189
 go_wp2
 go_loopw [] (fun wr=>∃ l h:Int,0≤l∧l+1<h∧h≤2147483648∧(l=0∨l*l≤n)∧n<h*h∧
  wr.cell? ⟨w.heap.size+1,0,none⟩=some (.int .i64 l)∧wr.cell? ⟨w.heap.size+2,0,none⟩=some (.int .i64 h)∧wr.cell? ⟨w.heap.size,0,none⟩=some (.int .i64 n)∧
  wr.frozen? ⟨w.heap.size+1,0,none⟩=false∧wr.frozen? ⟨w.heap.size+2,0,none⟩=false∧Below w.heap.size w wr)
  (fun wr=>(cellInt wr ⟨w.heap.size+2,0,none⟩-cellInt wr ⟨w.heap.size+1,0,none⟩).toNat)
 case atStart=>
  refine⟨0,2147483648,by omega,by omega,by omega,.inl rfl,by omega,?_,?_,?_,?_,?_,?_⟩
  iterate 5 go_simp
  exact(((Below.refl _ _).alloc (Nat.le_refl _) _).alloc (by simp) _).alloc (by simp;omega) _
 case round=>
  obtain⟨l,h,a0,a1,a2,a3,a4,c1,c2,c0,f1,f2,hbel⟩:=hrel
  go_wp2_with (go_at_call 195;refine(narrow_any _ _ _ _ _ c1 c2 c0 f1 f2 a0 a1 a2).mono ?_;rintro e w1 ⟨l',h',rfl,b0,b1,b2,b3,b4,b5,d1,d2,d0,g1,g2,hb1⟩)
  · go_roundw
    case rel=>exact⟨l',h',by omega,by omega,by omega,by rcases b4 with rfl|k;exact a3;exact .inr k,by rcases b5 with rfl|k;exact a4;exact k,d1,d2,d0,g1,g2,hbel.trans hb1⟩
    case measure=>simp only[cellInt_of c1,cellInt_of c2,cellInt_of d1,cellInt_of d2];omega
  · go_ret
    refine⟨ret_int ?_,hbel.trans hb1⟩
    have e:h'=l'+1:=by omega
    have q4:n<(l'+1)*(l'+1):=by rw[←e];rcases b5 with rfl|k;exact a4;exact k
    have q3:l'=0∨l'*l'≤n:=by rcases b4 with rfl|k;exact a3;exact .inr k
    rcases q3 with rfl|q3
    · by_cases hn:n<0
      · rw[rootZ_neg hn]
      · exact(rootZ_of ⟨by omega,by omega,q4⟩).symm
    · exact(rootZ_of ⟨b0,q3,q4⟩).symm
end Go.Proofs.YthajilkjfkppoaaGreatDoor
namespace Go.Proofs.YthajilkjfkppoaaGreatDoor
open Go.RowKit
set_option linter.unusedVariables false
theorem bcell {W w1:World} (hb:Below W.heap.size W w1):(∀ b o,b<W.heap.size→w1.cell? ⟨b,o,none⟩=W.cell? ⟨b,o,none⟩)∧(∀ b o,b<W.heap.size→w1.frozen? ⟨b,o,none⟩=W.frozen? ⟨b,o,none⟩):=
 ⟨fun b o h=>hb.cell (p:=⟨b,o,none⟩) h,fun b o h=>hb.frozen (p:=⟨b,o,none⟩) h⟩
theorem blt {W w1:World} (hb:Below W.heap.size W w1):∀ b,b<W.heap.size→b<w1.heap.size:=fun b h=>Nat.lt_of_lt_of_le h hb.size
theorem belowDrewN {B:Nat} {a w:World} (h:Below B a w) (n:Nat):Below B a (w.drewN n):=⟨h.os,h.tape,h.output,h.size,h.block⟩
theorem bel_a {B:Nat} {a w:World} (h:Below B a w:=by repeat(first|with_reducible apply Below.refl|(with_reducible apply Below.setCell;rotate_left;focus (first|omega|(simp;done)|(simp;omega)))|(with_reducible apply Below.alloc;rotate_left;focus (first|omega|(simp;done)|(simp;omega)))|with_reducible apply Below.drew|with_reducible apply belowDrewN|(with_reducible apply Below.trans;rotate_left;with_reducible apply Below.mono;with_reducible assumption;focus (first|omega|(simp;done)|(simp;omega))))):Below B a w:=h
theorem cset_map (w:World) (a:Addr) (v:Value):(w.setCell a v).cell? a=(w.cell? a).map fun _=>v:=by
 cases h:w.cell? a with
 |some u=>rw[cset_same h];rfl
 | none=>
   simp only[World.cell?,World.setCell,Array.getElem?_modify,if_true] at*
   cases hb:w.heap[a.block]? with
   |none=>simp
   | some o=>
     rw[hb] at h
     cases o with
     | cells c t fr=>
       by_cases hs:a.spot.isSome
       · simp[hs]
       · simp[hs] at h ⊢;omega
     |_=>simp
theorem i64w {n:Int} (h: -9223372036854775808≤n∧n≤9223372036854775807):IntKind.i64.wrap n=n:=by
 simp[IntKind.wrap,IntKind.bits,IntKind.signed];omega
def vdot (x y u v:Int):Int:=fc ((fc x*fc u+fc y*fc v).tdiv 256)
def vl (x y:Int):Int:=clampZ 1000000000 (rootZ (x*x+y*y))
def ux (x y:Int):Int:=if vl x y=0 then 0 else (x*256).tdiv (vl x y)
def uy (x y:Int):Int:=if vl x y=0 then 256 else (y*256).tdiv (vl x y)
theorem vl_bd (x y:Int):0≤vl x y∧vl x y≤1000000000:=by
 have h:=rootZ_nonneg (x*x+y*y)
 have k:=clampZ_bd (l:=1000000000) (rootZ (x*x+y*y)) (by decide)
 refine⟨?_,k.2⟩
 unfold vl clampZ;repeat' split
 all_goals omega
theorem sq_bd {x y:Int} (hx: -1000000000≤x∧x≤1000000000) (hy: -1000000000≤y∧y≤1000000000):0≤x*x+y*y∧x*x+y*y≤2000000000000000000:=by
 have p:=mul_bd hx hx
 have q:=mul_bd hy hy
 have p0:0≤x*x:=by rcases Int.le_total 0 x with h|h;exact Int.mul_nonneg h h;exact Int.mul_nonneg_of_nonpos_of_nonpos h h
 have q0:0≤y*y:=by rcases Int.le_total 0 y with h|h;exact Int.mul_nonneg h h;exact Int.mul_nonneg_of_nonpos_of_nonpos h h
 omega
abbrev vv (x y:Int):Value:= .agg #[.int .i64 x,.int .i64 y]
theorem wayOf_any (x y:Int) (w:World):
 Calls Tryz.prog 139 #[vv x y] w fun e w'=>e= .returned (vv x y)∧Below w.heap.size w w':=by
 have hset:=cset_map
 go_enter Tryz.func139,Tryz.ntmps139
 go_wp2
 exact bodyPost_ret (v:=vv x y) (by simp[results,Tryz.results139,go_sem]) rfl ⟨rfl,bel_a⟩
theorem vec_any (x y:Int) (w:World):
 Calls Tryz.prog 32 #[vv x y] w fun e w'=>e= .returned (vv x y)∧Below w.heap.size w w':=by
 have hset:=cset_map
 go_enter Tryz.func32,Tryz.ntmps32
 go_wp2
 exact bodyPost_ret (v:=vv x y) (by simp[results,Tryz.results32,go_sem]) rfl ⟨rfl,bel_a⟩
theorem plus_any (x y u v:Int) (w:World) (hx: -4000000000≤x∧x≤4000000000) (hy: -4000000000≤y∧y≤4000000000) (hu: -4000000000≤u∧u≤4000000000) (hv: -4000000000≤v∧v≤4000000000):
 Calls Tryz.prog 30 #[vv x y,vv u v] w fun e w'=>e= .returned (vv (x+u) (y+v))∧Below w.heap.size w w':=by
 have hset:=cset_map
 go_enter Tryz.func30,Tryz.ntmps30
 go_wp2
 exact bodyPost_ret (v:=vv (x+u) (y+v)) (by simp[results,Tryz.results30,go_sem]) rfl ⟨rfl,bel_a⟩
theorem less_any (x y u v:Int) (w:World) (hx: -4000000000≤x∧x≤4000000000) (hy: -4000000000≤y∧y≤4000000000) (hu: -4000000000≤u∧u≤4000000000) (hv: -4000000000≤v∧v≤4000000000):
 Calls Tryz.prog 149 #[vv x y,vv u v] w fun e w'=>e= .returned (vv (x-u) (y-v))∧Below w.heap.size w w':=by
 have hset:=cset_map
 go_enter Tryz.func149,Tryz.ntmps149
 go_wp2
 exact bodyPost_ret (v:=vv (x-u) (y-v)) (by simp[results,Tryz.results149,go_sem]) rfl ⟨rfl,bel_a⟩
theorem products_any (x y u v:Int) (w:World) (hx: -1500000000≤x∧x≤1500000000) (hy: -1500000000≤y∧y≤1500000000) (hu: -1500000000≤u∧u≤1500000000) (hv: -1500000000≤v∧v≤1500000000):
 Calls Tryz.prog 174 #[vv x y,vv u v] w fun e w'=>e= .returned (.int .i64 (x*u+y*v))∧Below w.heap.size w w':=by
 have p:=mul_bd (a:=x) (b:=u) (A:=1500000000) (B:=1500000000) hx hu
 have q:=mul_bd (a:=y) (b:=v) (A:=1500000000) (B:=1500000000) hy hv
 have hset:=cset_map
 go_enter Tryz.func174,Tryz.ntmps174
 go_wp2
 go_ret
 exact⟨rfl,bel_a⟩
theorem wayHeld_any (x y l:Int) (w:World) (h0:0≤l) (h1:l≤4000000000):
 Calls Tryz.prog 57 #[vv x y,.int .i64 l] w fun e w'=>e= .returned (vv (clampZ l x) (clampZ l y))∧Below w.heap.size w w':=by
 have hset:=cset_map
 go_enter Tryz.func57,Tryz.ntmps57
 go_wp2
 go_region_with (go_at_call 91;refine(held_any _ _ _ h0 h1).mono ?_;rintro e w' ⟨rfl,rfl⟩)
 all_goals
  go_wp2
  exact bodyPost_ret (v:=vv (clampZ l x) (clampZ l y)) (by simp[results,Tryz.results57,go_sem]) rfl ⟨rfl,bel_a⟩
def vokB (x y:Int):Bool:=decide (-1000000000≤x∧x≤1000000000∧ -1000000000≤y∧y≤1000000000)
def inB (l x y:Int):Bool:=decide (-l≤x∧x≤l∧ -l≤y∧y≤l)
theorem within_any (n l:Int) (w:World) (h0:0≤l) (h1:l≤4000000000):
 Calls Tryz.prog 112 #[.int .i64 n,.int .i64 l] w fun e w'=>e= .returned (.bool (decide (-l≤n∧n≤l)))∧w'=w:=by
 go_enter Tryz.func112,Tryz.ntmps112
 go_wp2
 all_goals
  go_ret
  refine⟨ret_bool ?_,rfl⟩
  first|(simp;omega)|(simp;done)
theorem within2_any (x y l:Int) (w:World) (h0:0≤l) (h1:l≤4000000000):
 Calls Tryz.prog 88 #[vv x y,.int .i64 l] w fun e w'=>e= .returned (.bool (inB l x y))∧Below w.heap.size w w':=by
 go_enter Tryz.func88,Tryz.ntmps88
 go_wp2_with (go_at_call 112;refine(within_any _ _ _ h0 h1).mono ?_;rintro e w' ⟨rfl,rfl⟩)
 all_goals
  go_ret
  refine⟨ret_bool ?_,bel_a⟩
  unfold inB
  first|(simp;omega)|(simp[*];done)|(simp at*;omega)
end Go.Proofs.YthajilkjfkppoaaGreatDoor
namespace Go.Proofs.YthajilkjfkppoaaGreatDoor
open Go.RowKit
set_option linter.unusedVariables false
section
variable {P:Program} {md:Region.Mode} {ops:Array Oper} {Q:Exit→Act→World→Prop} {S:World→Prop}
theorem tq (i:Nat) {o1 o2 o3 o4 o5 o6} {v:Value} {fuel:Nat} {listed:Array Bool} {a a':Act} {w:World} (hS:S w)
 (h:wpAnyH P md ops Q S fuel (listed.setIfInBounds i true) a' w)
 (hi:ops[i]? =some (Oper.mk o1 o2 o3 o4 o5 o6):=by rfl)
 (hc:(Region.noSelect ops&&(Region.free md ops listed i&&(Region.ready md ops listed).contains i))=true:=by kernel_rfl)
 (hQ:∀ c a w,Q (.panic c) (a.put (Oper.mk o1 o2 o3 o4 o5 o6).dst v) w→Q (.panic c) a w:=by exact fun _ _ _ h=>h)
 (hw:Region.wanted (Oper.mk o1 o2 o3 o4 o5 o6) (yielded ops a.tmps)=true:=by rfl)
 (hv:∀ w,S w→(execOp a.eval (Oper.mk o1 o2 o3 o4 o5 o6)).run P w= .ok (.value v) w:=by(intro w s;(try dsimp only at s);go_simp;(try with_reducible rfl)))
 (he:a.put (Oper.mk o1 o2 o3 o4 o5 o6).dst v=a':=by((try simp only[Act.put,List.setIfInBounds_toArray,List.set_cons_zero,List.set_cons_succ]);(try with_reducible rfl))):
 wpAnyH P md ops Q S (fuel+1) listed a w:=by
 subst he
 simp only[Bool.and_eq_true] at hc
 exact wpAnyH_take hi hc.1 hc.2.1 hc.2.2 hQ (.inl ⟨hw,hv⟩) hS h
theorem tn (i:Nat) {o1 o2 o3 o4 o5 o6} {fuel:Nat} {listed:Array Bool} {a a':Act} {w:World} (hS:S w)
 (h:wpAnyH P md ops Q S fuel (listed.setIfInBounds i true) a' w)
 (hi:ops[i]? =some (Oper.mk o1 o2 o3 o4 o5 o6):=by rfl)
 (hc:(Region.noSelect ops&&(Region.free md ops listed i&&(Region.ready md ops listed).contains i))=true:=by kernel_rfl)
 (hQ:∀ c a w,Q (.panic c) (a.put (Oper.mk o1 o2 o3 o4 o5 o6).dst undef) w→Q (.panic c) a w:=by exact fun _ _ _ h=>h)
 (hw:Region.wanted (Oper.mk o1 o2 o3 o4 o5 o6) (yielded ops a.tmps)=false:=by rfl)
 (he:a.put (Oper.mk o1 o2 o3 o4 o5 o6).dst undef=a':=by((try simp only[Act.put,List.setIfInBounds_toArray,List.set_cons_zero,List.set_cons_succ]);(try with_reducible rfl))):
 wpAnyH P md ops Q S (fuel+1) listed a w:=by
 subst he
 simp only[Bool.and_eq_true] at hc
 exact wpAnyH_take hi hc.1 hc.2.1 hc.2.2 hQ (.inr ⟨hw,rfl⟩) hS h
end
section
variable {P:Program} {md:Region.Mode} {ops:Array Oper} {Q:Exit→Act→World→Prop} {S:World→Prop}
theorem tc (i:Nat) {o1 o2 o3 o4 o5 o6} {fuel:Nat} {listed:Array Bool} {a:Act} {w:World}
 (h:∀ K':Act→World→Prop,Shut (∀ a w,S w→(S w→wpAnyH P md ops Q S fuel (listed.setIfInBounds i true) a w)→K' a w)→if Region.wanted (Oper.mk o1 o2 o3 o4 o5 o6) (yielded ops a.tmps)=true then Oper.wp P (Oper.mk o1 o2 o3 o4 o5 o6) a w K' Q else K' (a.put (Oper.mk o1 o2 o3 o4 o5 o6).dst undef) w)
 (hr:Region.ready md ops listed=[i]:=by kernel_rfl)
 (hi:ops[i]? =some (Oper.mk o1 o2 o3 o4 o5 o6):=by rfl):
 wpAnyH P md ops Q S (fuel+1) listed a w:=wpAnyH_ready hr (by simp) (AllReadyH.cons hi h AllReadyH.nil)
theorem tr {K:Act→World→Prop} {fuel:Nat} {listed:Array Bool} (hK:Shut (∀ a w,S w→(S w→wpAnyH P md ops Q S fuel listed a w)→K a w)) {a a':Act} {w:World}
 (h:S w→wpAnyH P md ops Q S fuel listed a' w)
 (hS:S w:=by((try dsimp only);(first|(go_simp;done)|(go_keep;done))))
 (he:a=a':=by((try simp only[Act.put,List.setIfInBounds_toArray,List.set_cons_zero,List.set_cons_succ]);(try with_reducible rfl))):K a w:=by
 subst he
 exact hK.out _ _ hS h
end
end Go.Proofs.YthajilkjfkppoaaGreatDoor
namespace Go.Proofs.YthajilkjfkppoaaGreatDoor
open Go.RowKit
set_option linter.unusedVariables false
set_option linter.unusedSimpArgs false
def stp (G:Nat→Nat):Option (Nat×Nat)→Nat→Nat
 |none=>G
 |some (A,B)=>fun j=>if j=A∨j=B then min (G A) (G B) else G j
def rnd (E:Nat→Option (Nat×Nat)) (G:Nat→Nat):Nat→Nat→Nat
 |0=>G
 |k+1=>stp (rnd E G k) (E k)
def rnds (E:Nat→Option (Nat×Nat)) (M:Nat):Nat→Nat→Nat
 |0=>fun j=>j
 |r+1=>rnd E (rnds E M r) M
def jn (L:Nat→Nat):Option (Nat×Nat)→Nat→Nat
 |none=>L
 |some (A,B)=>fun j=>if L j=max (L A) (L B) then min (L A) (L B) else L j
def lab (E:Nat→Option (Nat×Nat)):Nat→Nat→Nat
 |0=>fun j=>j
 |k+1=>jn (lab E k) (E k)
theorem lab_le (E:Nat→Option (Nat×Nat)):∀ k j,lab E k j≤j
 |0,j=>Nat.le_refl _
 | k+1,j=>by
   have ih:=lab_le E k
   rw[lab]
   cases h:E k with
   |none=>exact ih j
   | some p=>
     obtain⟨A,B⟩:=p
     show (if lab E k j=max (lab E k A) (lab E k B) then min (lab E k A) (lab E k B) else lab E k j)≤j
     have:=ih j
     split<;>omega
theorem lab_edge (E:Nat→Option (Nat×Nat)):∀ k i A B,i<k→E i=some (A,B)→lab E k A=lab E k B
 |0,i,_,_,h,_=>absurd h (Nat.not_lt_zero _)
 | k+1,i,A,B,h,e=>by
   rw[lab]
   cases hk:E k with
   | none=>
     by_cases hi:i=k
     · subst hi;rw[hk] at e;cases e
     · exact lab_edge E k i A B (by omega) e
   | some p=>
     obtain⟨C,D⟩:=p
     show (if lab E k A=max (lab E k C) (lab E k D) then min (lab E k C) (lab E k D) else lab E k A)=(if lab E k B=max (lab E k C) (lab E k D) then min (lab E k C) (lab E k D) else lab E k B)
     by_cases hi:i=k
     · subst hi
       rw[hk] at e
       simp only[Option.some.injEq,Prod.mk.injEq] at e
       obtain⟨rfl,rfl⟩:=e
       split<;>split<;>omega
     · rw[lab_edge E k i A B (by omega) e]
theorem lab_set (E:Nat→Option (Nat×Nat)) (X:Nat→Prop):∀ k,(∀ i A B,i<k→E i=some (A,B)→(X A↔X B))→∀ j,(X (lab E k j)↔X j)
 |0,_,j=>Iff.rfl
 | k+1,hX,j=>by
   have ih:=lab_set E X k (fun i A B h e=>hX i A B (by omega) e)
   rw[lab]
   cases hk:E k with
   |none=>exact ih j
   | some p=>
     obtain⟨A,B⟩:=p
     show X (if lab E k j=max (lab E k A) (lab E k B) then min (lab E k A) (lab E k B) else lab E k j)↔X j
     have hAB:=hX k A B (Nat.lt_succ_self _) hk
     have h1:=ih A
     have h2:=ih B
     have h3:=ih j
     by_cases e:lab E k j=max (lab E k A) (lab E k B)
     · rw[if_pos e]
       rcases Nat.le_total (lab E k A) (lab E k B) with q|q
       · rw[Nat.min_eq_left q]
         rw[Nat.max_eq_right q] at e
         rw[e] at h3
         exact h1.trans (hAB.trans (h2.symm.trans h3))
       · rw[Nat.min_eq_right q]
         rw[Nat.max_eq_left q] at e
         rw[e] at h3
         exact h2.trans (hAB.symm.trans (h1.symm.trans h3))
     · rw[if_neg e];exact h3
theorem lab_idem (E:Nat→Option (Nat×Nat)) (k j:Nat):lab E k (lab E k j)=lab E k j:=
 (lab_set E (fun x=>lab E k x=lab E k j) k (fun i A B h e=>by rw[lab_edge E k i A B h e]) j).2 rfl
theorem stp_le (G:Nat→Nat) (e:Option (Nat×Nat)) (j:Nat):stp G e j≤G j:=by
 cases e with
 |none=>exact Nat.le_refl _
 | some p=>
   obtain⟨A,B⟩:=p
   show (if j=A∨j=B then min (G A) (G B) else G j)≤G j
   by_cases h:j=A∨j=B
   · rw[if_pos h]
     rcases h with rfl|rfl
     · exact Nat.min_le_left _ _
     · exact Nat.min_le_right _ _
   · rw[if_neg h];exact Nat.le_refl _
theorem rnd_le (E:Nat→Option (Nat×Nat)) (G:Nat→Nat):∀ k j,rnd E G k j≤G j
 |0,_=>Nat.le_refl _
 |k+1,j=>Nat.le_trans (stp_le _ _ _) (rnd_le E G k j)
theorem rnd_mono (E:Nat→Option (Nat×Nat)) (G:Nat→Nat) (k:Nat):∀ m,k≤m→∀ j,rnd E G m j≤rnd E G k j
 | 0,h,j=>by
   obtain rfl:k=0:=by omega
   exact Nat.le_refl _
 | m+1,h,j=>by
   by_cases e:k=m+1
   · subst e;exact Nat.le_refl _
   · exact Nat.le_trans (stp_le _ _ _) (rnd_mono E G k m (by omega) j)
def Same (L G:Nat→Nat):Prop:=∀ j,L (G j)=L j
theorem stp_same {L G:Nat→Nat} {e:Option (Nat×Nat)} (h:Same L G) (he:∀ A B,e=some (A,B)→L A=L B):Same L (stp G e):=by
 intro j
 cases e with
 |none=>exact h j
 | some p=>
   obtain⟨A,B⟩:=p
   have q:=he A B rfl
   show L (if j=A∨j=B then min (G A) (G B) else G j)=L j
   by_cases hj:j=A∨j=B
   · rw[if_pos hj]
     have hm:L (min (G A) (G B))=L A:=by
      rcases Nat.le_total (G A) (G B) with z|z
      · rw[Nat.min_eq_left z];exact h A
      · rw[Nat.min_eq_right z];exact(h B).trans q.symm
     rw[hm]
     rcases hj with rfl|rfl
     · rfl
     · exact q
   · rw[if_neg hj];exact h j
theorem rnd_same {E:Nat→Option (Nat×Nat)} {L G:Nat→Nat} {M:Nat} (hE:∀ i A B,i<M→E i=some (A,B)→L A=L B) (h:Same L G):∀ k,k≤M→Same L (rnd E G k)
 |0,_=>h
 |k+1,hk=>stp_same (rnd_same hE h k (by omega)) (fun A B e=>hE k A B (by omega) e)
theorem rnds_same {E:Nat→Option (Nat×Nat)} {L:Nat→Nat} {M:Nat} (hE:∀ i A B,i<M→E i=some (A,B)→L A=L B):∀ r,Same L (rnds E M r)
 |0=>fun _=>rfl
 |r+1=>rnd_same hE (rnds_same hE r) M (Nat.le_refl _)
theorem rnds_le (E:Nat→Option (Nat×Nat)) (M:Nat):∀ r j,rnds E M r j≤j
 |0,_=>Nat.le_refl _
 |r+1,j=>Nat.le_trans (rnd_le E _ M j) (rnds_le E M r j)
def cntp (p:Nat→Bool):Nat→Nat
 |0=>0
 |n+1=>cntp p n+(if p n=true then 1 else 0)
theorem cntp_le (p:Nat→Bool):∀ n,cntp p n≤n
 |0=>Nat.le_refl _
 |n+1=>by have:=cntp_le p n;rw[cntp];split<;>omega
theorem cntp_mono {p q:Nat→Bool}:∀ n,(∀ v,v<n→p v=true→q v=true)→cntp p n≤cntp q n
 |0,_=>Nat.le_refl _
 | n+1,h=>by
   have a:=cntp_mono (p:=p) (q:=q) n (fun v hv=>h v (by omega))
   have b:=h n (by omega)
   rw[cntp,cntp]
   by_cases e:p n=true
   · rw[if_pos e,if_pos (b e)];omega
   · rw[if_neg e];omega
theorem cntp_lt {p q:Nat→Bool} {y:Nat}:∀ n,y<n→(∀ v,v<n→p v=true→q v=true)→p y=false→q y=true→cntp p n<cntp q n
 |0,h,_,_,_=>absurd h (Nat.not_lt_zero _)
 | n+1,h,hm,h1,h2=>by
   rw[cntp,cntp]
   by_cases e:y=n
   · subst e
     have a:=cntp_mono (p:=p) (q:=q) y (fun v hv=>hm v (by omega))
     rw[if_neg (by rw[h1];simp),if_pos h2];omega
   · have a:=cntp_lt n (by omega) (fun v hv=>hm v (by omega)) h1 h2
     have b:=hm n (by omega)
     by_cases z:p n=true
     · rw[if_pos z,if_pos (b z)];omega
     · rw[if_neg z];omega
theorem rnds_lab (E:Nat→Option (Nat×Nat)) (M n:Nat) (hE:∀ i A B,i<M→E i=some (A,B)→A<n∧B<n):∀ v,v<n→rnds E M n v=lab E M v:=by
 have hedge:=fun i A B (h:i<M) (e:E i=some (A,B))=>lab_edge E M i A B h e
 have hsame:=rnds_same (E:=E) (L:=lab E M) (M:=M) hedge
 have hge:∀ r j,lab E M j≤rnds E M r j:=fun r j=>by
  have a:=lab_le E M (rnds E M r j)
  rw[hsame r j] at a
  exact a
 have key:∀ r,(∀ v,v<n→rnds E M r v=lab E M v)∨r<cntp (fun v=>decide (rnds E M r v=lab E M v)) n:=by
  intro r
  induction r with
  | zero=>
    by_cases h0:n=0
    · left;intro v hv;omega
    · right
      have z:lab E M 0=0:=by have:=lab_le E M 0;omega
      have:=cntp_lt (p:=fun _=>false) (q:=fun v=>decide (rnds E M 0 v=lab E M v)) (y:=0) n (by omega) (fun _ _ h=>by cases h) rfl (by show decide (0=lab E M 0)=true;rw[z];rfl)
      omega
  | succ r ih=>
    have mono:∀ v,rnds E M r v=lab E M v→rnds E M (r+1) v=lab E M v:=fun v e=>by
     have a:=rnd_le E (rnds E M r) M v
     have b:=hge (r+1) v
     have c:rnds E M (r+1) v=rnd E (rnds E M r) M v:=rfl
     omega
    rcases ih with ih|ih
    · left;intro v hv;exact mono v (ih v hv)
    · by_cases all:∀ v,v<n→rnds E M (r+1) v=lab E M v
      · left;exact all
      · right
        -- an edge that parts what is there from what is not
        have cross:∃ y,y<n∧rnds E M r y≠lab E M y∧rnds E M (r+1) y=lab E M y:=by
         refine Classical.byContradiction fun hno=>all fun v hv=>mono v ?_
         have closed:∀ i A B,i<M→E i=some (A,B)→(rnds E M r A=lab E M A↔rnds E M r B=lab E M B):=by
          intro i A B hi e
          have hb:=hE i A B hi e
          have hl:=hedge i A B hi e
          have st:rnd E (rnds E M r) (i+1) A=min (rnd E (rnds E M r) i A) (rnd E (rnds E M r) i B)∧rnd E (rnds E M r) (i+1) B=min (rnd E (rnds E M r) i A) (rnd E (rnds E M r) i B):=by
           constructor
           · show stp _ (E i) A=_;rw[e];show (if A=A∨A=B then _ else _)=_;rw[if_pos (.inl rfl)]
           · show stp _ (E i) B=_;rw[e];show (if B=A∨B=B then _ else _)=_;rw[if_pos (.inr rfl)]
          have mA:=rnd_mono E (rnds E M r) (i+1) M (by omega) A
          have mB:=rnd_mono E (rnds E M r) (i+1) M (by omega) B
          have lA:=rnd_le E (rnds E M r) i A
          have lB:=rnd_le E (rnds E M r) i B
          have gA:=hge (r+1) A
          have gB:=hge (r+1) B
          have cA:rnds E M (r+1) A=rnd E (rnds E M r) M A:=rfl
          have cB:rnds E M (r+1) B=rnd E (rnds E M r) M B:=rfl
          rw[cA] at gA
          rw[cB] at gB
          have eA:=st.1
          have eB:=st.2
          constructor
          · intro h
            refine Classical.byContradiction fun hn=>hno ⟨B,hb.2,hn,?_⟩
            rw[cB]
            have:=Nat.min_le_left (rnd E (rnds E M r) i A) (rnd E (rnds E M r) i B)
            omega
          · intro h
            refine Classical.byContradiction fun hn=>hno ⟨A,hb.1,hn,?_⟩
            rw[cA]
            have:=Nat.min_le_right (rnd E (rnds E M r) i A) (rnd E (rnds E M r) i B)
            omega
         refine(lab_set E (fun x=>rnds E M r x=lab E M x) M closed v).1 ?_
         have a:=rnds_le E M r (lab E M v)
         have b:=hge r (lab E M v)
         rw[lab_idem] at b ⊢
         omega
        obtain⟨y,hy,h1,h2⟩:=cross
        have:=cntp_lt (p:=fun v=>decide (rnds E M r v=lab E M v)) (q:=fun v=>decide (rnds E M (r+1) v=lab E M v)) (y:=y) n hy (fun v _ h=>decide_eq_true (mono v (of_decide_eq_true h))) (decide_eq_false h1) (decide_eq_true h2)
        omega
 rcases key n with h|h
 · exact h
 · have:=cntp_le (fun v=>decide (rnds E M n v=lab E M v)) n
   omega
end Go.Proofs.YthajilkjfkppoaaGreatDoor
