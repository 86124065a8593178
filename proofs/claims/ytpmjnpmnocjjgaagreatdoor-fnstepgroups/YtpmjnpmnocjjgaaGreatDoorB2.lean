/- Texts of a proof. -/
import Derived.Test.YtpmjnpmnocjjgaaGreatDoorRows
import Derived.Test.YtpmjnpmnocjjgaaGreatDoorB1
import Derived.WalkKit
import Derived.WalkSpells
import Derived.WalkLawsBesides
import Derived.Deep.QuietTactic
import Derived.BigQuiet
import Derived.Deep.RegionWith
import Derived.Deep.RegionHeld3
import Derived.Deep.OwnRows
import Derived.Deep.AppendLies
import Derived.Deep.Upon
import Derived.Maps.AppendAt
set_option maxHeartbeats 16000000
set_option maxRecDepth 20000
namespace Go.Proofs.YtpmjnpmnocjjgaaGreatDoor
open Go.RowKit
theorem held_any (n l:Int) (w:World) (h0:0≤l) (h1:l≤4000000000):
 Calls Tryz.prog 151 #[.int .i64 n,.int .i64 l] w fun e w'=>e= .returned (.int .i64 (clampZ l n))∧w'=w:=by
 go_enter Tryz.func151,Tryz.ntmps151
 go_wp2
 all_goals
  go_ret
  refine⟨ret_int ?_,rfl⟩
  unfold clampZ
  repeat' split
  all_goals(repeat' split at*)<;>omega
theorem sFixClamp_any (n:Int) (w:World):
 Calls Tryz.prog 145 #[.int .i64 n] w fun e w'=>e= .returned (.int .i64 (fc n))∧w'=w:=by
 go_enter Tryz.func145,Tryz.ntmps145
 go_wp2
 all_goals
  go_ret
  refine⟨ret_int ?_,rfl⟩
  unfold fc clampZ
  repeat' split
  all_goals omega
theorem times_any (n m:Int) (w:World) (hn: -1000000000≤n∧n≤1000000000) (hm: -1000000000≤m∧m≤1000000000):
 Calls Tryz.prog 185 #[.int .i64 n,.int .i64 m] w fun e w'=>e= .returned (.int .i64 (fc ((n*m).tdiv 256)))∧w'=w:=by
 have hp:=mul_bd hn hm
 obtain⟨p1,p2⟩:=hp
 go_enter Tryz.func185,Tryz.ntmps185
 go_wp2_with (go_at_call 151;refine(held_any _ _ _ (by decide) (by decide)).mono ?_;rintro e w' ⟨rfl,rfl⟩)
 go_ret
 exact⟨rfl,rfl⟩
end Go.Proofs.YtpmjnpmnocjjgaaGreatDoor
namespace Go.Proofs.YtpmjnpmnocjjgaaGreatDoor
open Go.RowKit
set_option linter.unusedVariables false
theorem lt_of_sq {a b:Int} (hb:0≤b) (h:a*a<b*b):a<b:=by
 rcases Int.lt_or_le a b with k|k
 · exact k
 · have:=sq_mono hb k;omega
theorem le_of_sq {a b:Int} (hb:0≤b) (h:a*a<(b+1)*(b+1)):a≤b:=by
 have:=lt_of_sq (show 0≤b+1 by omega) h;omega
theorem mid {l h:Int} (a:0≤l) (b:l+1<h):l<(l+h)/2∧(l+h)/2<h:=by omega
theorem l1Root_any (n:Int) (w:World) (h0:0≤n) (h1:n≤2000000000000000000):
 Calls Tryz.prog 146 #[.int .i64 n] w fun e w'=>e= .returned (.int .i64 (rootZ n))∧w'=w:=by
 go_enter Tryz.func146,Tryz.ntmps146
 go_wp2
 go_loop [4] (fun t=>∃ h:Int,1≤h∧h≤2828427126∧t= .int .i64 h) (fun t=>(2828427126-intOf t).toNat)
 case atStart=>exact⟨1,by omega,by omega,rfl⟩
 case round=>
  obtain⟨h,a1,a2,rfl⟩:=hrel
  have hb:=mul_bd (a:=h) (b:=h) (A:=2828427126) (B:=2828427126) (by omega) (by omega)
  obtain⟨hb1,hb2⟩:=hb
  by_cases hc:h*h≤n
  · have hle:h≤1414213563:=le_of_sq (by omega) (by omega)
    go_wp2
    go_round
    case rel=>exact⟨2*h,by omega,by omega,rfl⟩
    case measure=>simp[intOf];omega
  · go_wp2
    go_loop [3,4] (fun s t=>∃ l h:Int,0≤l∧l<h∧h≤2828427126∧l*l≤n∧n<h*h∧s= .int .i64 l∧t= .int .i64 h) (fun s t=>(intOf t-intOf s).toNat)
    case atStart=>exact⟨0,h,by omega,by omega,by omega,by omega,by omega,rfl,rfl⟩
    case round=>
     obtain⟨l,h,b0,b1,b2,b3,b4,rfl,rfl⟩:=hrel
     by_cases hd:1<h-l
     · have hm:=mid b0 (show l+1<h by omega)
       have hb:=mul_bd (a:=(l+h)/2) (b:=(l+h)/2) (A:=2828427126) (B:=2828427126) (by omega) (by omega)
       obtain⟨hb1,hb2⟩:=hb
       obtain⟨hm1,hm2⟩:=hm
       by_cases he:(l+h)/2*((l+h)/2)≤n
       · go_wp2
         go_round
         case rel=>exact⟨_,h,by omega,hm2,by omega,he,by omega,rfl,rfl⟩
         case measure=>simp[intOf];omega
       · go_wp2
         go_round
         case rel=>exact⟨l,_,by omega,hm1,by omega,b3,by omega,rfl,rfl⟩
         case measure=>simp[intOf];omega
     · have e:h=l+1:=by omega
       go_wp2
       go_ret
       exact⟨ret_int (rootZ_of ⟨b0,b3,by rw[←e];exact b4⟩).symm,rfl⟩
def cellInt (w:World) (a:Addr):Int:=match w.cell? a with|some v=>intOf v|none=>0
theorem cellInt_of {w:World} {a:Addr} {k:IntKind} {n:Int} (h:w.cell? a=some (.int k n)):cellInt w a=n:=by simp[cellInt,h,intOf]
theorem narrow_any (B:Nat) (n l h:Int) (w:World) (hl:w.cell? ⟨B+1,0,none⟩=some (.int .i64 l)) (hh:w.cell? ⟨B+2,0,none⟩=some (.int .i64 h)) (hn:w.cell? ⟨B,0,none⟩=some (.int .i64 n))
 (fl:w.frozen? ⟨B+1,0,none⟩=false) (fh:w.frozen? ⟨B+2,0,none⟩=false) (a0:0≤l) (a1:l+1<h) (a2:h≤2147483648):
 Calls Tryz.prog 194 #[.pointer (some ⟨B+1,0,none⟩),.pointer (some ⟨B+2,0,none⟩),.pointer (some ⟨B,0,none⟩)] w fun e w'=>∃ l' h':Int,
  e= .returned (.bool (decide (1<h'-l')))∧0≤l'∧l'<h'∧h'≤2147483648∧h'-l'<h-l∧(l'=l∨l'*l'≤n)∧(h'=h∨n<h'*h')∧
  w'.cell? ⟨B+1,0,none⟩=some (.int .i64 l')∧w'.cell? ⟨B+2,0,none⟩=some (.int .i64 h')∧w'.cell? ⟨B,0,none⟩=some (.int .i64 n)∧
  w'.frozen? ⟨B+1,0,none⟩=false∧w'.frozen? ⟨B+2,0,none⟩=false∧Below B w w':=by
 have hm:=mid a0 a1
 have hb:=mul_bd (a:=(l+h)/2) (b:=(l+h)/2) (A:=2147483648) (B:=2147483648) (by omega) (by omega)
 obtain⟨hb1,hb2⟩:=hb
 obtain⟨hm1,hm2⟩:=hm
 by_cases he:(l+h)/2*((l+h)/2)≤n
 · go_enter Tryz.func194,Tryz.ntmps194
   go_wp2
   go_ret
   exact⟨(l+h)/2,h,rfl,by omega,by omega,by omega,by omega,.inr he,.inl rfl,cset_same hl,by rw[cset_far (by simp)];exact hh,
    by rw[cset_far (by simp)];exact hn,by simpa using fl,by simpa using fh,(Below.refl _ _).setCell (by simp) _⟩
 · go_enter Tryz.func194,Tryz.ntmps194
   go_wp2
   go_ret
   exact⟨l,(l+h)/2,rfl,by omega,by omega,by omega,by omega,.inl rfl,.inr (by omega),by rw[cset_far (by simp)];exact hl,cset_same hh,
    by rw[cset_far (by simp)];exact hn,by simpa using fl,by simpa using fh,(Below.refl _ _).setCell (by simp) _⟩
theorem root_any (n:Int) (w:World) (h1:n≤2000000000000000000):
 Calls Tryz.prog 193 #[.int .i64 n] w fun e w'=>e= .returned (.int .i64 (rootZ n))∧Below w.heap.size w w':=by
 go_enter Tryz.func193,Tryz.ntmps193
 go_wp2
 go_loopw [] (fun wr=>∃ l h:Int,0≤l∧l+1<h∧h≤2147483648∧(l=0∨l*l≤n)∧n<h*h∧
  wr.cell? ⟨w.heap.size+1,0,none⟩=some (.int .i64 l)∧wr.cell? ⟨w.heap.size+2,0,none⟩=some (.int .i64 h)∧wr.cell? ⟨w.heap.size,0,none⟩=some (.int .i64 n)∧
  wr.frozen? ⟨w.heap.size+1,0,none⟩=false∧wr.frozen? ⟨w.heap.size+2,0,none⟩=false∧Below w.heap.size w wr)
  (fun wr=>(cellInt wr ⟨w.heap.size+2,0,none⟩-cellInt wr ⟨w.heap.size+1,0,none⟩).toNat)
 case atStart=>
  refine⟨0,2147483648,by omega,by omega,by omega,.inl rfl,by omega,?_,?_,?_,?_,?_,?_⟩
  iterate 5 go_simp
  exact(((Below.refl _ _).alloc (Nat.le_refl _) _).alloc (by simp) _).alloc (by simp;omega) _
 case round=>
  obtain⟨l,h,a0,a1,a2,a3,a4,c1,c2,c0,f1,f2,hbel⟩:=hrel
  go_wp2_with (go_at_call 194;refine(narrow_any _ _ _ _ _ c1 c2 c0 f1 f2 a0 a1 a2).mono ?_;rintro e w1 ⟨l',h',rfl,b0,b1,b2,b3,b4,b5,d1,d2,d0,g1,g2,hb1⟩)
  · go_roundw
    case rel=>exact⟨l',h',by omega,by omega,by omega,by rcases b4 with rfl|k;exact a3;exact .inr k,by rcases b5 with rfl|k;exact a4;exact k,d1,d2,d0,g1,g2,hbel.trans hb1⟩
    case measure=>simp only[cellInt_of c1,cellInt_of c2,cellInt_of d1,cellInt_of d2];omega
  · go_ret
    refine⟨ret_int ?_,hbel.trans hb1⟩
    have e:h'=l'+1:=by omega
    have q4:n<(l'+1)*(l'+1):=by rw[←e];rcases b5 with rfl|k;exact a4;exact k
    have q3:l'=0∨l'*l'≤n:=by rcases b4 with rfl|k;exact a3;exact .inr k
    rcases q3 with rfl|q3
    · by_cases hn:n<0
      · rw[rootZ_neg hn]
      · exact(rootZ_of ⟨by omega,by omega,q4⟩).symm
    · exact(rootZ_of ⟨b0,q3,q4⟩).symm
end Go.Proofs.YtpmjnpmnocjjgaaGreatDoor
namespace Go.Proofs.YtpmjnpmnocjjgaaGreatDoor
open Go.RowKit
set_option linter.unusedVariables false
theorem bcell {W w1:World} (hb:Below W.heap.size W w1):(∀ b o,b<W.heap.size→w1.cell? ⟨b,o,none⟩=W.cell? ⟨b,o,none⟩)∧(∀ b o,b<W.heap.size→w1.frozen? ⟨b,o,none⟩=W.frozen? ⟨b,o,none⟩):=
 ⟨fun b o h=>hb.cell (p:=⟨b,o,none⟩) h,fun b o h=>hb.frozen (p:=⟨b,o,none⟩) h⟩
theorem blt {W w1:World} (hb:Below W.heap.size W w1):∀ b,b<W.heap.size→b<w1.heap.size:=fun b h=>Nat.lt_of_lt_of_le h hb.size
theorem belowDrewN {B:Nat} {a w:World} (h:Below B a w) (n:Nat):Below B a (w.drewN n):=⟨h.os,h.tape,h.output,h.size,h.block⟩
theorem bel_a {B:Nat} {a w:World} (h:Below B a w:=by repeat(first|with_reducible apply Below.refl|(with_reducible apply Below.setCell;rotate_left;focus (first|omega|(simp;done)|(simp;omega)))|(with_reducible apply Below.alloc;rotate_left;focus (first|omega|(simp;done)|(simp;omega)))|with_reducible apply Below.drew|with_reducible apply belowDrewN|(with_reducible apply Below.trans;rotate_left;with_reducible apply Below.mono;with_reducible assumption;focus (first|omega|(simp;done)|(simp;omega))))):Below B a w:=h
theorem cset_map (w:World) (a:Addr) (v:Value):(w.setCell a v).cell? a=(w.cell? a).map fun _=>v:=by
 cases h:w.cell? a with
 |some u=>rw[cset_same h];rfl
 | none=>
   simp only[World.cell?,World.setCell,Array.getElem?_modify,if_true] at*
   cases hb:w.heap[a.block]? with
   |none=>simp
   | some o=>
     rw[hb] at h
     cases o with
     | cells c t fr=>
       by_cases hs:a.spot.isSome
       · simp[hs]
       · simp[hs] at h ⊢;omega
     |_=>simp
theorem i64w {n:Int} (h: -9223372036854775808≤n∧n≤9223372036854775807):IntKind.i64.wrap n=n:=by
 simp[IntKind.wrap,IntKind.bits,IntKind.signed];omega
def vdot (x y u v:Int):Int:=fc ((fc x*fc u+fc y*fc v).tdiv 256)
def vl (x y:Int):Int:=clampZ 1000000000 (rootZ (x*x+y*y))
def ux (x y:Int):Int:=if vl x y=0 then 0 else (x*256).tdiv (vl x y)
def uy (x y:Int):Int:=if vl x y=0 then 256 else (y*256).tdiv (vl x y)
theorem vl_bd (x y:Int):0≤vl x y∧vl x y≤1000000000:=by
 have h:=rootZ_nonneg (x*x+y*y)
 have k:=clampZ_bd (l:=1000000000) (rootZ (x*x+y*y)) (by decide)
 refine⟨?_,k.2⟩
 unfold vl clampZ;repeat' split
 all_goals omega
theorem sq_bd {x y:Int} (hx: -1000000000≤x∧x≤1000000000) (hy: -1000000000≤y∧y≤1000000000):0≤x*x+y*y∧x*x+y*y≤2000000000000000000:=by
 have p:=mul_bd hx hx
 have q:=mul_bd hy hy
 have p0:0≤x*x:=by rcases Int.le_total 0 x with h|h;exact Int.mul_nonneg h h;exact Int.mul_nonneg_of_nonpos_of_nonpos h h
 have q0:0≤y*y:=by rcases Int.le_total 0 y with h|h;exact Int.mul_nonneg h h;exact Int.mul_nonneg_of_nonpos_of_nonpos h h
 omega
abbrev vv (x y:Int):Value:= .agg #[.int .i64 x,.int .i64 y]
theorem wayOf_any (x y:Int) (w:World):
 Calls Tryz.prog 160 #[vv x y] w fun e w'=>e= .returned (vv x y)∧Below w.heap.size w w':=by
 have hset:=cset_map
 go_enter Tryz.func160,Tryz.ntmps160
 go_wp2
 exact bodyPost_ret (v:=vv x y) (by simp[results,Tryz.results160,go_sem]) rfl ⟨rfl,bel_a⟩
theorem vec_any (x y:Int) (w:World):
 Calls Tryz.prog 86 #[vv x y] w fun e w'=>e= .returned (vv x y)∧Below w.heap.size w w':=by
 have hset:=cset_map
 go_enter Tryz.func86,Tryz.ntmps86
 go_wp2
 exact bodyPost_ret (v:=vv x y) (by simp[results,Tryz.results86,go_sem]) rfl ⟨rfl,bel_a⟩
theorem plus_any (x y u v:Int) (w:World) (hx: -4000000000≤x∧x≤4000000000) (hy: -4000000000≤y∧y≤4000000000) (hu: -4000000000≤u∧u≤4000000000) (hv: -4000000000≤v∧v≤4000000000):
 Calls Tryz.prog 155 #[vv x y,vv u v] w fun e w'=>e= .returned (vv (x+u) (y+v))∧Below w.heap.size w w':=by
 have hset:=cset_map
 go_enter Tryz.func155,Tryz.ntmps155
 go_wp2
 exact bodyPost_ret (v:=vv (x+u) (y+v)) (by simp[results,Tryz.results155,go_sem]) rfl ⟨rfl,bel_a⟩
theorem less_any (x y u v:Int) (w:World) (hx: -4000000000≤x∧x≤4000000000) (hy: -4000000000≤y∧y≤4000000000) (hu: -4000000000≤u∧u≤4000000000) (hv: -4000000000≤v∧v≤4000000000):
 Calls Tryz.prog 134 #[vv x y,vv u v] w fun e w'=>e= .returned (vv (x-u) (y-v))∧Below w.heap.size w w':=by
 have hset:=cset_map
 go_enter Tryz.func134,Tryz.ntmps134
 go_wp2
 exact bodyPost_ret (v:=vv (x-u) (y-v)) (by simp[results,Tryz.results134,go_sem]) rfl ⟨rfl,bel_a⟩
theorem products_any (x y u v:Int) (w:World) (hx: -1500000000≤x∧x≤1500000000) (hy: -1500000000≤y∧y≤1500000000) (hu: -1500000000≤u∧u≤1500000000) (hv: -1500000000≤v∧v≤1500000000):
 Calls Tryz.prog 186 #[vv x y,vv u v] w fun e w'=>e= .returned (.int .i64 (x*u+y*v))∧Below w.heap.size w w':=by
 have p:=mul_bd (a:=x) (b:=u) (A:=1500000000) (B:=1500000000) hx hu
 have q:=mul_bd (a:=y) (b:=v) (A:=1500000000) (B:=1500000000) hy hv
 have hset:=cset_map
 go_enter Tryz.func186,Tryz.ntmps186
 go_wp2
 go_ret
 exact⟨rfl,bel_a⟩
theorem wayHeld_any (x y l:Int) (w:World) (h0:0≤l) (h1:l≤4000000000):
 Calls Tryz.prog 136 #[vv x y,.int .i64 l] w fun e w'=>e= .returned (vv (clampZ l x) (clampZ l y))∧Below w.heap.size w w':=by
 have hset:=cset_map
 go_enter Tryz.func136,Tryz.ntmps136
 go_wp2
 go_region_with (go_at_call 151;refine(held_any _ _ _ h0 h1).mono ?_;rintro e w' ⟨rfl,rfl⟩)
 all_goals
  go_wp2
  exact bodyPost_ret (v:=vv (clampZ l x) (clampZ l y)) (by simp[results,Tryz.results136,go_sem]) rfl ⟨rfl,bel_a⟩
def vokB (x y:Int):Bool:=decide (-1000000000≤x∧x≤1000000000∧ -1000000000≤y∧y≤1000000000)
def inB (l x y:Int):Bool:=decide (-l≤x∧x≤l∧ -l≤y∧y≤l)
theorem within_any (n l:Int) (w:World) (h0:0≤l) (h1:l≤4000000000):
 Calls Tryz.prog 107 #[.int .i64 n,.int .i64 l] w fun e w'=>e= .returned (.bool (decide (-l≤n∧n≤l)))∧w'=w:=by
 go_enter Tryz.func107,Tryz.ntmps107
 go_wp2
 all_goals
  go_ret
  refine⟨ret_bool ?_,rfl⟩
  first|(simp;omega)|(simp;done)
theorem within2_any (x y l:Int) (w:World) (h0:0≤l) (h1:l≤4000000000):
 Calls Tryz.prog 75 #[vv x y,.int .i64 l] w fun e w'=>e= .returned (.bool (inB l x y))∧Below w.heap.size w w':=by
 go_enter Tryz.func75,Tryz.ntmps75
 go_wp2_with (go_at_call 107;refine(within_any _ _ _ h0 h1).mono ?_;rintro e w' ⟨rfl,rfl⟩)
 all_goals
  go_ret
  refine⟨ret_bool ?_,bel_a⟩
  unfold inB
  first|(simp;omega)|(simp[*];done)|(simp at*;omega)
end Go.Proofs.YtpmjnpmnocjjgaaGreatDoor
namespace Go.Proofs.YtpmjnpmnocjjgaaGreatDoor
open Go.RowKit
set_option linter.unusedVariables false
section
variable {P:Program} {md:Region.Mode} {ops:Array Oper} {Q:Exit→Act→World→Prop} {S:World→Prop}
theorem tq (i:Nat) {o1 o2 o3 o4 o5 o6} {v:Value} {fuel:Nat} {listed:Array Bool} {a a':Act} {w:World} (hS:S w)
 (h:wpAnyH P md ops Q S fuel (listed.setIfInBounds i true) a' w)
 (hi:ops[i]? =some (Oper.mk o1 o2 o3 o4 o5 o6):=by rfl)
 (hc:(Region.noSelect ops&&(Region.free md ops listed i&&(Region.ready md ops listed).contains i))=true:=by kernel_rfl)
 (hQ:∀ c a w,Q (.panic c) (a.put (Oper.mk o1 o2 o3 o4 o5 o6).dst v) w→Q (.panic c) a w:=by exact fun _ _ _ h=>h)
 (hw:Region.wanted (Oper.mk o1 o2 o3 o4 o5 o6) (yielded ops a.tmps)=true:=by rfl)
 (hv:∀ w,S w→(execOp a.eval (Oper.mk o1 o2 o3 o4 o5 o6)).run P w= .ok (.value v) w:=by(intro w s;(try dsimp only at s);go_simp;(try with_reducible rfl)))
 (he:a.put (Oper.mk o1 o2 o3 o4 o5 o6).dst v=a':=by((try simp only[Act.put,List.setIfInBounds_toArray,List.set_cons_zero,List.set_cons_succ]);(try with_reducible rfl))):
 wpAnyH P md ops Q S (fuel+1) listed a w:=by
 subst he
 simp only[Bool.and_eq_true] at hc
 exact wpAnyH_take hi hc.1 hc.2.1 hc.2.2 hQ (.inl ⟨hw,hv⟩) hS h
theorem tn (i:Nat) {o1 o2 o3 o4 o5 o6} {fuel:Nat} {listed:Array Bool} {a a':Act} {w:World} (hS:S w)
 (h:wpAnyH P md ops Q S fuel (listed.setIfInBounds i true) a' w)
 (hi:ops[i]? =some (Oper.mk o1 o2 o3 o4 o5 o6):=by rfl)
 (hc:(Region.noSelect ops&&(Region.free md ops listed i&&(Region.ready md ops listed).contains i))=true:=by kernel_rfl)
 (hQ:∀ c a w,Q (.panic c) (a.put (Oper.mk o1 o2 o3 o4 o5 o6).dst undef) w→Q (.panic c) a w:=by exact fun _ _ _ h=>h)
 (hw:Region.wanted (Oper.mk o1 o2 o3 o4 o5 o6) (yielded ops a.tmps)=false:=by rfl)
 (he:a.put (Oper.mk o1 o2 o3 o4 o5 o6).dst undef=a':=by((try simp only[Act.put,List.setIfInBounds_toArray,List.set_cons_zero,List.set_cons_succ]);(try with_reducible rfl))):
 wpAnyH P md ops Q S (fuel+1) listed a w:=by
 subst he
 simp only[Bool.and_eq_true] at hc
 exact wpAnyH_take hi hc.1 hc.2.1 hc.2.2 hQ (.inr ⟨hw,rfl⟩) hS h
end
section
variable {P:Program} {md:Region.Mode} {ops:Array Oper} {Q:Exit→Act→World→Prop} {S:World→Prop}
theorem tc (i:Nat) {o1 o2 o3 o4 o5 o6} {fuel:Nat} {listed:Array Bool} {a:Act} {w:World}
 (h:∀ K':Act→World→Prop,Shut (∀ a w,S w→(S w→wpAnyH P md ops Q S fuel (listed.setIfInBounds i true) a w)→K' a w)→if Region.wanted (Oper.mk o1 o2 o3 o4 o5 o6) (yielded ops a.tmps)=true then Oper.wp P (Oper.mk o1 o2 o3 o4 o5 o6) a w K' Q else K' (a.put (Oper.mk o1 o2 o3 o4 o5 o6).dst undef) w)
 (hr:Region.ready md ops listed=[i]:=by kernel_rfl)
 (hi:ops[i]? =some (Oper.mk o1 o2 o3 o4 o5 o6):=by rfl):
 wpAnyH P md ops Q S (fuel+1) listed a w:=wpAnyH_ready hr (by simp) (AllReadyH.cons hi h AllReadyH.nil)
theorem tr {K:Act→World→Prop} {fuel:Nat} {listed:Array Bool} (hK:Shut (∀ a w,S w→(S w→wpAnyH P md ops Q S fuel listed a w)→K a w)) {a a':Act} {w:World}
 (h:S w→wpAnyH P md ops Q S fuel listed a' w)
 (hS:S w:=by((try dsimp only);(first|(go_simp;done)|(go_keep;done))))
 (he:a=a':=by((try simp only[Act.put,List.setIfInBounds_toArray,List.set_cons_zero,List.set_cons_succ]);(try with_reducible rfl))):K a w:=by
 subst he
 exact hK.out _ _ hS h
end
end Go.Proofs.YtpmjnpmnocjjgaaGreatDoor
namespace Go.Proofs.YtpmjnpmnocjjgaaGreatDoor
open Go.RowKit
set_option linter.unusedVariables false
set_option linter.unusedSimpArgs false
def Flat (w:World) (a:Option Addr) (m:Nat) (U:Nat→Int):Prop:=
 0<m→∃ b o,a=some ⟨b,o,none⟩∧b<w.heap.size∧∀ q,q<m→w.cell? ⟨b,o+q,none⟩=some (.int .i64 (U q))
theorem Flat.below {w w':World} {a:Option Addr} {m:Nat} {U:Nat→Int} (h:Flat w a m U) (hb:Below w.heap.size w w'):Flat w' a m U:=by
 intro h0
 obtain⟨b,o,e,l,c⟩:=h h0
 exact⟨b,o,e,Nat.lt_of_lt_of_le l hb.size,fun q hq=>(hb.cell (p:=⟨b,o+q,none⟩) l).trans (c q hq)⟩
theorem Flat.nil {w:World} {a:Option Addr} {U:Nat→Int}:Flat w a 0 U:=fun h=>absurd h (Nat.lt_irrefl 0)
def Row (w:World) (b:Nat) (t:TypeId) (m:Nat) (U:Nat→Int):Prop:=w.rowIs b t m (fun q=> .int .i64 (U q))
theorem Row.flat {w:World} {b t m:Nat} {U:Nat→Int} (h:Row w b t m U):Flat w (some ⟨b,0,none⟩) m U:=by
 intro _
 exact⟨b,0,rfl,World.rowIs.lt h,fun q hq=>by rw[Nat.zero_add];exact World.rowIs.cell h hq⟩
theorem Row.cell {w:World} {b t m:Nat} {U:Nat→Int} (h:Row w b t m U) {q:Nat} (hq:q<m):w.cell? ⟨b,q,none⟩=some (.int .i64 (U q)):=World.rowIs.cell h hq
theorem Row.fro {w:World} {b t m:Nat} {U:Nat→Int} (h:Row w b t m U) (q:Nat):w.frozen? ⟨b,q,none⟩=false:=World.rowIs.frozen h q
theorem Row.lt {w:World} {b t m:Nat} {U:Nat→Int} (h:Row w b t m U):b<w.heap.size:=World.rowIs.lt h
theorem Row.congr {w:World} {b t m:Nat} {U V:Nat→Int} (h:Row w b t m U) (e:∀ q,q<m→U q=V q):Row w b t m V:=World.rowIs.congr h fun q hq=>by simp only[e q hq]
theorem Row.below {w w':World} {b t m:Nat} {U:Nat→Int} (h:Row w b t m U) (hb:Below w.heap.size w w'):Row w' b t m U:=World.rowIs.of_block h (hb.block _ h.lt)
theorem Row.set {w:World} {b t m:Nat} {U:Nat→Int} (h:Row w b t m U) (i:Nat) (v:Int):Row (w.setCell ⟨b,i,none⟩ (.int .i64 v)) b t m (fun q=>if q=i then v else U q):=
 World.rowIs.congr (World.rowIs.set h i (.int .i64 v)) fun q _=>by by_cases e:q=i<;>simp[e]
theorem Row.alloc {w:World} {b t m:Nat} {U:Nat→Int} (h:Row w b t m U) (o:Obj):Row (w.alloc o) b t m U:=World.rowIs.alloc h o
theorem Row.drew {w:World} {b t m:Nat} {U:Nat→Int} (h:Row w b t m U):Row w.drew b t m U:=h
theorem Row.made (w:World) (z:Array Value) (m:Nat) (t:TypeId) (hz:∀ q,q<z.size→z[q]? =some (.int .i64 0)) (h0:0<z.size):Row (w.alloc (.cells (madeCells z m) t)) w.heap.size t m (fun _=>0):=by
 refine⟨_,Go.Deep.blk_alloc_new _ _,size_madeCells _ _,fun i hi=> ?_⟩
 have hlt:i % z.size<z.size:=Nat.mod_lt _ h0
 have h:=hz _ hlt
 rw[Array.getElem?_eq_getElem hlt] at h
 simp only[Option.some.injEq] at h
 simp[madeCells,hi,hlt,h]
theorem make_rows {P:Program} (t e:TypeId) (z:Value) (k bytes:Nat) (ht:P.underlying t=some (.slice e)) (hinfo:(P.info? e).map (fun i=>(i.zero,i.size,i.bytes))=some (some z,k,bytes))
 (kl kc:IntKind) (n:Nat) (hbytes:bytes*n≤281474976710656) (h63:n≤9223372036854775807) (w:World):
 (Instr.makeSlice t (.int kl (n:Int)) (.int kc (n:Int))).run P w= .ok (.slice (some ⟨w.heap.size,0,none⟩) n n) (w.alloc (.cells (madeCells z.cells (n*k)) e)):=by
 obtain⟨i,hi,hzz⟩:=Option.map_eq_some_iff.1 hinfo
 simp only[Prod.mk.injEq] at hzz
 obtain⟨hz,hs,hb⟩:=hzz
 have hb':(i.bytes:Int)*(n:Int)≤281474976710656:=by
  have h:((i.bytes*n:Nat):Int)≤281474976710656:=by rw[hb];omega
  rwa [Int.natCast_mul] at h
 have hr:=run_make (P:=P) w t e i z ht hi hz kl kc n n (by omega) (Int.le_refl _) hb' (by omega)
 simp only[Int.toNat_natCast,hs] at hr
 exact hr
abbrev upto (p:Nat) (U:Nat→Int):Nat→Int:=fun q=>if q<p then U q else 0
theorem Row.next {w:World} {b t m p:Nat} {U:Nat→Int} (h:Row w b t m (upto p U)):Row (w.setCell ⟨b,p,none⟩ (.int .i64 (U p))) b t m (upto (p+1) U):=
 (h.set p (U p)).congr fun q _=>by
   by_cases e:q=p
   · subst e;simp[upto]
   · simp only[upto,if_neg e]
     by_cases l:q<p
     · rw[if_pos l,if_pos (by omega)]
     · rw[if_neg l,if_neg (by omega)]
theorem Row.zero {w:World} {b t m:Nat} {U:Nat→Int} (h:Row w b t m (fun _=>0)):Row w b t m (upto 0 U):=h.congr fun q hq=>by simp[upto]
end Go.Proofs.YtpmjnpmnocjjgaaGreatDoor
namespace Go.Proofs.YtpmjnpmnocjjgaaGreatDoor
open Go.RowKit
set_option linter.unusedVariables false
set_option linter.unusedSimpArgs false
def numL (m:Nat) (U:Nat→Int):List Value:=(List.range m).map fun q=>Value.int .i64 (U q)
theorem numL_len (m:Nat) (U:Nat→Int):(numL m U).length=m:=by simp[numL]
theorem numL_get {m:Nat} {U:Nat→Int} {q:Nat} (h:q<m):(numL m U)[q]? =some (.int .i64 (U q)):=by simp[numL,h]
def cat (p:Nat) (U X:Nat→Int):Nat→Int:=fun q=>if q<p then U q else X (q-p)
theorem numL_cat (p r:Nat) (U X:Nat→Int):numL p U++numL r X=numL (p+r) (cat p U X):=by
 apply List.ext_getElem?
 intro q
 by_cases h:q<p
 · rw[List.getElem?_append_left (by rw[numL_len];exact h),numL_get h,numL_get (by omega)];simp[cat,h]
 · rw[List.getElem?_append_right (by rw[numL_len];omega),numL_len]
   by_cases h2:q<p+r
   · rw[numL_get (by omega),numL_get h2];simp[cat,h]
   · rw[List.getElem?_eq_none (by rw[numL_len];omega),List.getElem?_eq_none (by rw[numL_len];omega)]
def OwnL (w:World) (base t k:Nat) (v:Value) (n:Nat) (U:Nat→Int):Prop:=w.ownsRow base t k v n (numL (n*k) U)
theorem OwnL.nil (w:World) (base t k:Nat) (U:Nat→Int):OwnL w base t k (.slice none 0 0) 0 U:=by
 unfold OwnL;rw[Nat.zero_mul];exact World.ownsRow_nil w base t k
theorem OwnL.flat {w:World} {base t k n:Nat} {a:Option Addr} {c:Nat} {U:Nat→Int} (h:OwnL w base t k (.slice a n c) n U):Flat w a (n*k) U:=by
 intro h0
 rcases h.2 with⟨hv,hn⟩|⟨g,cap,cur,hv,hb,hg,hle,hm,hs,ht⟩
 · subst hn;omega
 · simp only[Value.slice.injEq] at hv
   obtain⟨rfl,_,rfl⟩:=hv
   have hlt:g<w.heap.size:=(Array.getElem?_eq_some_iff.1 hg).1
   refine⟨g,0,rfl,hlt,fun q hq=> ?_⟩
   have:=World.ownsRow.cells h (g:=g) rfl q _ (numL_get hq)
   rw[Addr.add_lit] at this
   exact this
theorem OwnL.congr {w:World} {base t k n:Nat} {v:Value} {U V:Nat→Int} (h:OwnL w base t k v n U) (e:∀ q,q<n*k→U q=V q):OwnL w base t k v n V:=by
 unfold OwnL at*
 rw[show numL (n*k) V=numL (n*k) U from List.map_congr_left fun q hq=>by rw[e q (List.mem_range.1 hq)]]
 exact h
theorem OwnL.kept {w w':World} {base t k n:Nat} {v:Value} {U:Nat→Int} {row:Option Nat} (h:OwnL w base t k v n U) (hg:w.grownBy w' row) (hne:v.ownBlock=none∨v.ownBlock≠row):OwnL w' base t k v n U:=World.ownsRow.kept h hg hne
theorem below_grown {B:Nat} {w w':World} (h:Below B w w'):B=w.heap.size→w.grownBy w' none:=fun e=>⟨h.os,h.tape,h.output,h.size,fun k hk _=>h.block k (e▸hk)⟩
theorem OwnL.below {w w':World} {base t k n:Nat} {v:Value} {U:Nat→Int} (h:OwnL w base t k v n U) (hb:Below w.heap.size w w'):OwnL w' base t k v n U:=by
 have hg:=below_grown hb rfl
 cases e:v.ownBlock with
 |none=>exact World.ownsRow.kept h hg (.inl e)
 |some b=>exact World.ownsRow.kept h hg (.inr (by rw[e];simp))
theorem OwnL.lt {w:World} {base t k n:Nat} {v:Value} {U:Nat→Int} (h:OwnL w base t k v n U):∀ b,v.ownBlock=some b→base≤b∧b<w.heap.size:=World.ownsRow.lt h
theorem OwnL.is {w:World} {base t k n:Nat} {v:Value} {U:Nat→Int} (h:OwnL w base t k v n U):∃ a c,v= .slice a n c:=by
 rcases h.2 with⟨hv,hn⟩|⟨g,cap,cur,hv,_⟩
 · exact⟨none,0,by rw[hv,hn]⟩
 · exact⟨_,_,hv⟩
theorem OwnL.le {w:World} {base t k n:Nat} {a:Option Addr} {c:Nat} {U:Nat→Int} (h:OwnL w base t k (.slice a n c) n U):n≤c:=by
 rcases h.2 with⟨hv,hn⟩|⟨g,cap,cur,hv,_,_,hle,_⟩
 · simp only[Value.slice.injEq] at hv;omega
 · simp only[Value.slice.injEq] at hv;omega
theorem Row.own {w:World} {b t n k base:Nat} {U:Nat→Int} (h:Row w b t (n*k) U) (hb:base≤b) (hn:n≤maxLen):OwnL w base t k (.slice (some ⟨b,0,none⟩) n n) n U:=by
 obtain⟨c,hc,hs,hv⟩:=h
 refine⟨by rw[numL_len],.inr ⟨b,n,c,rfl,hb,hc,Nat.le_refl _,hn,hs,?_⟩⟩
 apply List.ext_getElem?
 intro q
 by_cases hq:q<n*k
 · rw[List.getElem?_take,if_pos hq,numL_get hq,←hv q hq];simp
 · rw[List.getElem?_eq_none (by simp;omega),List.getElem?_eq_none (by rw[numL_len];omega)]
theorem OwnL.base {w:World} {base t k n:Nat} {v:Value} {U:Nat→Int} {B:Nat} (h:OwnL w base t k v n U) (hB:B≤base):OwnL w B t k v n U:=by
 refine⟨h.1,?_⟩
 rcases h.2 with q|⟨g,cap,cur,hv,hb,rest⟩
 · exact .inl q
 · exact .inr ⟨g,cap,cur,hv,by omega,rest⟩
theorem run_app {P:Program} (base t ty e k bytes:Nat) (z:Value) (ht:P.underlying t=some (.slice e)) (hinfo:(P.info? e).map (fun i=>(i.zero,i.size,i.bytes))=some (some z,k,bytes)) (hzs:z.cells.size=k) (hk:0<k)
 (w:World) (v:Value) (n:Nat) (U:Nat→Int) (h:OwnL w base e k v n U) (a:Option Addr) (m c:Nat) (X:Nat→Int) (hx:Flat w a (m*k) X)
 (h63:n+m≤maxLen) (hbytes:(n+m)*bytes≤140737488355328) (hbase:base≤w.heap.size):
 ∃ a' c' w',(Builtin.append_ #[t,t] ty #[v,.slice a m c]).run P w= .ok (.slice a' (n+m) c') w'∧OwnL w' base e k (.slice a' (n+m) c') (n+m) (cat (n*k) U X)∧w.grownBy w' v.ownBlock:=by
 obtain⟨i,hi,hzz⟩:=Option.map_eq_some_iff.1 hinfo
 simp only[Prod.mk.injEq] at hzz
 obtain⟨hz,hs,hb⟩:=hzz
 by_cases h0:m=0
 · subst h0
   obtain⟨a0,c0,rfl⟩:=h.is
   have hle:=h.le
   have hnone:Src P i.size t (.slice a 0 c) 0 [] w:=by
    cases a with
    |none=>exact Src.ofNil w ht c
    |some ad=>exact Src.ofSlice w ht ad 0 c [] (by simp) (fun j u hu=>by simp at hu) (fun _ hu=>by cases hu)
   refine⟨a0,c0,w,run_append_nothing w t t ty e i ht hi a0 n c0 hle _ hnone,h.congr fun q hq=>by simp[cat,hq],?_⟩
   exact⟨rfl,rfl,rfl,Nat.le_refl _,fun _ _ _=>rfl⟩
 · obtain⟨b,o,rfl,hbl,hc⟩:=hx (Nat.mul_pos (by omega) hk)
   obtain⟨g,cap,w',hr,h2,h3,_⟩:=run_append_lies (P:=P) w t ty base e i z k bytes ht hi hz hs hb hzs hk v n (numL (n*k) U) h ⟨b,o,none⟩ m c (numL (m*k) X) (numL_len _ _)
    (fun j u hu=>by
      have hj:j<m*k:=by have:=(List.getElem?_eq_some_iff.1 hu).1;rwa [numL_len] at this
      rw[numL_get hj] at hu
      rw[Addr.add_lit,hc j hj];exact hu)
    (fun u hu=>by obtain⟨q,_,rfl⟩:=List.mem_map.1 hu;rfl) (by omega) h63 hbytes hbase _ rfl
   refine⟨_,_,w',hr,?_,h3⟩
   unfold OwnL
   rw[Nat.add_mul,←numL_cat]
   exact h2
section
variable {P:Program} {ops:Array Oper} {o:Oper} {a:Act} {Q:Exit→Act→World→Prop} {w:World}
theorem wp_app {K:Act→World→Prop} (s x:Operand) (t:TypeId) (ho:o.op= .call {callee:= .builtin .append,args:= #[s,x],argTypes:= #[t,t]})
 (base e k bytes:Nat) (z:Value) (ht:P.underlying t=some (.slice e)) (hinfo:(P.info? e).map (fun i=>(i.zero,i.size,i.bytes))=some (some z,k,bytes)) (hzs:z.cells.size=k) (hk:0<k)
 (v:Value) (n:Nat) (U:Nat→Int) (hs:a.eval s=v) (h:OwnL w base e k v n U) (ad:Option Addr) (m c:Nat) (X:Nat→Int) (hxx:a.eval x= .slice ad m c) (hx:Flat w ad (m*k) X)
 (h63:n+m≤maxLen) (hbytes:(n+m)*bytes≤140737488355328) (hbase:base≤w.heap.size)
 (hK:∀ a' c' w',OwnL w' base e k (.slice a' (n+m) c') (n+m) (cat (n*k) U X)→w.grownBy w' v.ownBlock→K (a.put o.dst (.slice a' (n+m) c')) w'):o.wp P a w K Q:=by
 obtain⟨a',c',w',hr,h2,h3⟩:=run_app (P:=P) base t o.type e k bytes z ht hinfo hzs hk w v n U h ad m c X hx h63 hbytes hbase
 unfold Oper.wp execOp
 simp only[ho,resolve,invoke,builtin,Sem.run_bind,Sem.run_pure,Result.andThen_ok,List.map_toArray,List.map_cons,List.map_nil,hs,hxx,hr]
 exact hK _ _ _ h2 h3
theorem wpList_app {rest:List Oper} (hgd:o.guard=none) (s x:Operand) (t:TypeId) (ho:o.op= .call {callee:= .builtin .append,args:= #[s,x],argTypes:= #[t,t]})
 (base e k bytes:Nat) (z:Value) (ht:P.underlying t=some (.slice e)) (hinfo:(P.info? e).map (fun i=>(i.zero,i.size,i.bytes))=some (some z,k,bytes)) (hzs:z.cells.size=k) (hk:0<k)
 (v:Value) (n:Nat) (U:Nat→Int) (hs:a.eval s=v) (h:OwnL w base e k v n U) (ad:Option Addr) (m c:Nat) (X:Nat→Int) (hxx:a.eval x= .slice ad m c) (hx:Flat w ad (m*k) X)
 (h63:n+m≤maxLen) (hbytes:(n+m)*bytes≤140737488355328) (hbase:base≤w.heap.size)
 (hK:∀ a' c' w',OwnL w' base e k (.slice a' (n+m) c') (n+m) (cat (n*k) U X)→w.grownBy w' v.ownBlock→wpList P ops Q rest (a.put o.dst (.slice a' (n+m) c')) w'):wpList P ops Q (o::rest) a w:=
 wpList_plain hgd fun _ hK'=>wp_app s x t ho base e k bytes z ht hinfo hzs hk v n U hs h ad m c X hxx hx h63 hbytes hbase fun a' c' w' h2 h3=>hK' _ _ (hK a' c' w' h2 h3)
end
end Go.Proofs.YtpmjnpmnocjjgaaGreatDoor
