/- Texts of a proof. -/
import Derived.Test.YtbdbbdjifgpgeaaGreatB6
import Derived.OrdersHeld
import Derived.Deep.RegionHeld3
import Derived.Test.YtbdbbdjifgpgeaaGreatCsAdd
import Derived.Deep.DeepCutAuto
import Derived.Test.YtbdbbdjifgpgeaaGreatB5
import Derived.Test.YtbdbbdjifgpgeaaGreatB7
import Derived.Deep.QuietTactic
import Derived.BigQuiet
import Derived.Deep.RegionWith
set_option maxHeartbeats 16000000
set_option maxRecDepth 20000
namespace Go.Proofs.YtbdbbdjifgpgeaaGreat
open Go.RowKit
set_option linter.unusedVariables false
set_option linter.unusedSimpArgs false
def Al (w0 w:World) (ab n:Nat) (V:Nat→Int):Prop:=w0.heap.size≤ab∧ab<w.heap.size∧(∀ i,i<n→w.cell? ⟨ab,i,none⟩=some (.int .i64 (V i)))∧∀ i,i<n→w.frozen? ⟨ab,i,none⟩=false
theorem Al.up {rb:Nat} {w0 w w':World} {ab n:Nat} {V:Nat→Int} (h:Al w0 w ab n V) (hrb:rb<w0.heap.size) (k:But rb w w'):Al w0 w' ab n V:=by
 obtain⟨h1,h2,h3,h4⟩:=h
 exact⟨h1,Nat.lt_of_lt_of_le h2 k.size,fun i hi=>(k.cell (p:=⟨ab,i,none⟩) h2 (by simp only[ne_eq];omega)).trans (h3 i hi),fun i hi=>(k.frozen (p:=⟨ab,i,none⟩) h2 (by simp only[ne_eq];omega)).trans (h4 i hi)⟩
theorem Al.set {w0 w:World} {ab n:Nat} {V:Nat→Int} (h:Al w0 w ab n V) (k:Nat) (hk:k<n) (v:Int):Al w0 (w.setCell ⟨ab,k,none⟩ (.int .i64 v)) ab n (fun j=>if j=k then v else V j):=by
 obtain⟨h1,h2,h3,h4⟩:=h
 refine⟨h1,by simpa [World.setCell] using h2,fun i hi=> ?_,fun i hi=> ?_⟩
 · by_cases e:i=k
   · subst e;rw[cset_map,h3 i hi];simp
   · rw[cset_other (by intro q;injection q with q1 q2;exact e q2.symm),h3 i hi];simp[e]
 · rw[World.frozen?_setCell];exact h4 i hi
theorem but_alloc (rb:Nat) (w:World) (o:Obj):But rb w (w.alloc o):=(But.refl rb w).alloc o
theorem Al.new {w0 w:World} {cs:Array Value} {t:TypeId} {n:Nat} {V:Nat→Int} (hsz:w0.heap.size≤w.heap.size) (hc:∀ i,i<n→cs[i]? =some (.int .i64 (V i))):Al w0 (w.alloc (.cells cs t)) w.heap.size n V:=
 ⟨hsz,by simp,fun i hi=>by rw[World.cell?_alloc_new];exact hc i hi,fun i hi=>by go_simp⟩
theorem Al.congr {w0 w:World} {ab n:Nat} {V U:Nat→Int} (h:Al w0 w ab n V) (k:∀ i,i<n→V i=U i):Al w0 w ab n U:=
 ⟨h.1,h.2.1,fun i hi=>by rw[h.2.2.1 i hi,k i hi],h.2.2.2⟩
end Go.Proofs.YtbdbbdjifgpgeaaGreat
namespace Go.Proofs.YtbdbbdjifgpgeaaGreat
open Go.RowKit
set_option linter.unusedVariables false
set_option linter.unusedSimpArgs false
section
variable {P:Program} {ops:Array Oper} {Q:Exit→Act→World→Prop} {md:Region.Mode}
end
def Li (w0 w:World) (lb len:Nat) (xs:List Int):Prop:=w0.heap.size≤lb∧lb<w.heap.size∧∀ i,i<len→w.cell? ⟨lb,i,none⟩=some (.int .i64 (xs.getD i 0))
theorem Li.up {rb:Nat} {w0 w w':World} {lb len:Nat} {xs:List Int} (h:Li w0 w lb len xs) (hrb:rb<w0.heap.size) (k:But rb w w'):Li w0 w' lb len xs:=by
 obtain⟨h1,h2,h3⟩:=h
 exact⟨h1,Nat.lt_of_lt_of_le h2 k.size,fun i hi=>(k.cell (p:=⟨lb,i,none⟩) h2 (by simp only[ne_eq];omega)).trans (h3 i hi)⟩
abbrev VI (lo hi:Int) (x:Value):Prop:=∃ n,x= .int .i64 n∧lo≤n∧n≤hi
abbrev VP (rb:Nat) (x:Value):Prop:=x= .pointer (some ⟨rb,0,none⟩)
abbrev VN (n:Int) (x:Value):Prop:=x= .int .i64 n
abbrev VV (lo hi:Int) (x:Value):Prop:=∃ a b,x=vv a b∧(lo≤a∧a≤hi)∧lo≤b∧b≤hi
abbrev VS (lo hi:Int) (x:Value):Prop:=∃ a b c,x=s3 a b c∧(lo≤a∧a≤hi)∧(lo≤b∧b≤hi)∧lo≤c∧c≤hi
def VL (w0 w:World) (c:Bool) (len:Nat) (xs:List Int) (x:Value):Prop:=∃ lb,x= .slice (some ⟨lb,0,none⟩) len len∧(c=false→Li w0 w lb len xs)
def VA (w0 w:World) (c:Bool) (n:Nat) (V:Nat→Int) (x:Value):Prop:=∃ ab,x= .pointer (some ⟨ab,0,none⟩)∧(c=false→Al w0 w ab n V)
theorem VL.up {rb:Nat} {w0 w w':World} {c:Bool} {len:Nat} {xs:List Int} {x:Value} (h:VL w0 w c len xs x) (hrb:rb<w0.heap.size) (k:But rb w w'):VL w0 w' c len xs x:=by
 obtain⟨lb,e,h⟩:=h;exact⟨lb,e,fun q=>(h q).up hrb k⟩
theorem VA.up {rb:Nat} {w0 w w':World} {c:Bool} {n:Nat} {V:Nat→Int} {x:Value} (h:VA w0 w c n V x) (hrb:rb<w0.heap.size) (k:But rb w w'):VA w0 w' c n V x:=by
 obtain⟨lb,e,h⟩:=h;exact⟨lb,e,fun q=>(h q).up hrb k⟩
theorem Li.new {w0 w:World} {cs:Array Value} {t:TypeId} {len:Nat} {xs:List Int} (hsz:w0.heap.size≤w.heap.size) (hc:∀ i,i<len→cs[i]? =some (.int .i64 (xs.getD i 0))):Li w0 (w.alloc (.cells cs t)) w.heap.size len xs:=
 ⟨hsz,by simp,fun i hi=>by rw[World.cell?_alloc_new];exact hc i hi⟩
end Go.Proofs.YtbdbbdjifgpgeaaGreat
namespace Go.Proofs.YtbdbbdjifgpgeaaGreat
open Go.RowKit
set_option linter.unusedVariables false
set_option linter.unusedSimpArgs false
def colOf (U:Nat→Int):Nat→Nat→Int:=fun i k=>U (k*12+i)
theorem snoc_col (U:Nat→Int) (n:Nat) {i k:Nat} (hk:k<n+1):snocC n (colOf U) (fun j=>U (n*12+j)) i k=colOf U i k:=by
 unfold snocC snoc colOf
 by_cases e:k=n
 · rw[if_pos e,e]
 · rw[if_neg e]
theorem rowsOf_any (a:Option Addr) (n c:Nat) (U:Nat→Int) (w:World) (h:Flat w a (n*12) U) (hn:n≤1048575):
 Calls Tryz.prog 25 #[.slice a n c] w fun e w'=>e= .returned (.pointer (some ⟨w.heap.size,0,none⟩))∧Below w.heap.size w w'∧∃ S,Cs w' w.heap.size n (colOf U) S:=by
 have hset:=cset_map
 go_enter Tryz.func25,Tryz.ntmps25
 go_wp2
 go_loopw [5,10] (fun _ i wr=>∃ k:Nat,k≤n∧i= .int .i64 (k:Int)∧Below w.heap.size w wr∧∃ S,Cs wr w.heap.size k (colOf U) S) (fun _ i _=>n-(intOf i).toNat)
 case atStart=>
  refine⟨0,Nat.zero_le _,rfl,(Below.refl _ _).alloc (Nat.le_refl _) _,fun _=> .slice none 0 0,fun i hi=> ?_,fun i hi=> ?_,fun i hi=>OwnL.nil _ _ _ _ _,(fun _ _ _ e=>by cases e),(fun _ _ _ _ _ _ e=>by cases e)⟩
  · rcases(show i=0∨i=1∨i=2∨i=3∨i=4∨i=5∨i=6∨i=7∨i=8∨i=9∨i=10∨i=11 by omega) with rfl|rfl|rfl|rfl|rfl|rfl|rfl|rfl|rfl|rfl|rfl|rfl<;>go_simp
  · go_simp
 case round=>
  obtain⟨k,hk,rfl,hB,S,hC⟩:=hrel
  by_cases hlt:k<n
  · obtain⟨b,o,rfl,hbl,hc⟩:=h (by omega)
    have hc':∀ q,q<n*12→wr.cell? ⟨b,o+q,none⟩=some (.int .i64 (U q)):=fun q hq=>(hB.cell (p:=⟨b,o+q,none⟩) hbl).trans (hc q hq)
    clear hc
    have c0:=hc' (k*12) (by omega)
    have c1:=hc' (k*12+1) (by omega)
    have c2:=hc' (k*12+2) (by omega)
    have c3:=hc' (k*12+3) (by omega)
    have c4:=hc' (k*12+4) (by omega)
    have c5:=hc' (k*12+5) (by omega)
    have c6:=hc' (k*12+6) (by omega)
    have c7:=hc' (k*12+7) (by omega)
    have c8:=hc' (k*12+8) (by omega)
    have c9:=hc' (k*12+9) (by omega)
    have c10:=hc' (k*12+10) (by omega)
    have c11:=hc' (k*12+11) (by omega)
    simp only[←Nat.add_assoc] at c0 c1 c2 c3 c4 c5 c6 c7 c8 c9 c10 c11
    clear hc'
    go_upto_region 5 with fail
    have hE:Below wr.heap.size wr (wr.alloc (Obj.cells #[.int .i64 (U (k*12)),.int .i64 (U (k*12+1)),.int .i64 (U (k*12+2)),.int .i64 (U (k*12+3)),.int .i64 (U (k*12+4)),.int .i64 (U (k*12+5)),.int .i64 (U (k*12+6)),.int .i64 (U (k*12+7)),.int .i64 (U (k*12+8)),.int .i64 (U (k*12+9)),.int .i64 (U (k*12+10)),.int .i64 (U (k*12+11))] 36)):=(Below.refl _ _).alloc (Nat.le_refl _) _
    have hB2:=hB.trans (hE.mono hB.size)
    have hC2:=hC.below hE
    have x0:(wr.alloc (Obj.cells #[.int .i64 (U (k*12)),.int .i64 (U (k*12+1)),.int .i64 (U (k*12+2)),.int .i64 (U (k*12+3)),.int .i64 (U (k*12+4)),.int .i64 (U (k*12+5)),.int .i64 (U (k*12+6)),.int .i64 (U (k*12+7)),.int .i64 (U (k*12+8)),.int .i64 (U (k*12+9)),.int .i64 (U (k*12+10)),.int .i64 (U (k*12+11))] 36)).cell? ⟨wr.heap.size,0,none⟩=some (.int .i64 (U (k*12))):=by go_simp
    have x1:(wr.alloc (Obj.cells #[.int .i64 (U (k*12)),.int .i64 (U (k*12+1)),.int .i64 (U (k*12+2)),.int .i64 (U (k*12+3)),.int .i64 (U (k*12+4)),.int .i64 (U (k*12+5)),.int .i64 (U (k*12+6)),.int .i64 (U (k*12+7)),.int .i64 (U (k*12+8)),.int .i64 (U (k*12+9)),.int .i64 (U (k*12+10)),.int .i64 (U (k*12+11))] 36)).cell? ⟨wr.heap.size,1,none⟩=some (.int .i64 (U (k*12+1))):=by go_simp
    have x2:(wr.alloc (Obj.cells #[.int .i64 (U (k*12)),.int .i64 (U (k*12+1)),.int .i64 (U (k*12+2)),.int .i64 (U (k*12+3)),.int .i64 (U (k*12+4)),.int .i64 (U (k*12+5)),.int .i64 (U (k*12+6)),.int .i64 (U (k*12+7)),.int .i64 (U (k*12+8)),.int .i64 (U (k*12+9)),.int .i64 (U (k*12+10)),.int .i64 (U (k*12+11))] 36)).cell? ⟨wr.heap.size,2,none⟩=some (.int .i64 (U (k*12+2))):=by go_simp
    have x3:(wr.alloc (Obj.cells #[.int .i64 (U (k*12)),.int .i64 (U (k*12+1)),.int .i64 (U (k*12+2)),.int .i64 (U (k*12+3)),.int .i64 (U (k*12+4)),.int .i64 (U (k*12+5)),.int .i64 (U (k*12+6)),.int .i64 (U (k*12+7)),.int .i64 (U (k*12+8)),.int .i64 (U (k*12+9)),.int .i64 (U (k*12+10)),.int .i64 (U (k*12+11))] 36)).cell? ⟨wr.heap.size,3,none⟩=some (.int .i64 (U (k*12+3))):=by go_simp
    have x4:(wr.alloc (Obj.cells #[.int .i64 (U (k*12)),.int .i64 (U (k*12+1)),.int .i64 (U (k*12+2)),.int .i64 (U (k*12+3)),.int .i64 (U (k*12+4)),.int .i64 (U (k*12+5)),.int .i64 (U (k*12+6)),.int .i64 (U (k*12+7)),.int .i64 (U (k*12+8)),.int .i64 (U (k*12+9)),.int .i64 (U (k*12+10)),.int .i64 (U (k*12+11))] 36)).cell? ⟨wr.heap.size,4,none⟩=some (.int .i64 (U (k*12+4))):=by go_simp
    have x5:(wr.alloc (Obj.cells #[.int .i64 (U (k*12)),.int .i64 (U (k*12+1)),.int .i64 (U (k*12+2)),.int .i64 (U (k*12+3)),.int .i64 (U (k*12+4)),.int .i64 (U (k*12+5)),.int .i64 (U (k*12+6)),.int .i64 (U (k*12+7)),.int .i64 (U (k*12+8)),.int .i64 (U (k*12+9)),.int .i64 (U (k*12+10)),.int .i64 (U (k*12+11))] 36)).cell? ⟨wr.heap.size,5,none⟩=some (.int .i64 (U (k*12+5))):=by go_simp
    have x6:(wr.alloc (Obj.cells #[.int .i64 (U (k*12)),.int .i64 (U (k*12+1)),.int .i64 (U (k*12+2)),.int .i64 (U (k*12+3)),.int .i64 (U (k*12+4)),.int .i64 (U (k*12+5)),.int .i64 (U (k*12+6)),.int .i64 (U (k*12+7)),.int .i64 (U (k*12+8)),.int .i64 (U (k*12+9)),.int .i64 (U (k*12+10)),.int .i64 (U (k*12+11))] 36)).cell? ⟨wr.heap.size,6,none⟩=some (.int .i64 (U (k*12+6))):=by go_simp
    have x7:(wr.alloc (Obj.cells #[.int .i64 (U (k*12)),.int .i64 (U (k*12+1)),.int .i64 (U (k*12+2)),.int .i64 (U (k*12+3)),.int .i64 (U (k*12+4)),.int .i64 (U (k*12+5)),.int .i64 (U (k*12+6)),.int .i64 (U (k*12+7)),.int .i64 (U (k*12+8)),.int .i64 (U (k*12+9)),.int .i64 (U (k*12+10)),.int .i64 (U (k*12+11))] 36)).cell? ⟨wr.heap.size,7,none⟩=some (.int .i64 (U (k*12+7))):=by go_simp
    have x8:(wr.alloc (Obj.cells #[.int .i64 (U (k*12)),.int .i64 (U (k*12+1)),.int .i64 (U (k*12+2)),.int .i64 (U (k*12+3)),.int .i64 (U (k*12+4)),.int .i64 (U (k*12+5)),.int .i64 (U (k*12+6)),.int .i64 (U (k*12+7)),.int .i64 (U (k*12+8)),.int .i64 (U (k*12+9)),.int .i64 (U (k*12+10)),.int .i64 (U (k*12+11))] 36)).cell? ⟨wr.heap.size,8,none⟩=some (.int .i64 (U (k*12+8))):=by go_simp
    have x9:(wr.alloc (Obj.cells #[.int .i64 (U (k*12)),.int .i64 (U (k*12+1)),.int .i64 (U (k*12+2)),.int .i64 (U (k*12+3)),.int .i64 (U (k*12+4)),.int .i64 (U (k*12+5)),.int .i64 (U (k*12+6)),.int .i64 (U (k*12+7)),.int .i64 (U (k*12+8)),.int .i64 (U (k*12+9)),.int .i64 (U (k*12+10)),.int .i64 (U (k*12+11))] 36)).cell? ⟨wr.heap.size,9,none⟩=some (.int .i64 (U (k*12+9))):=by go_simp
    have x10:(wr.alloc (Obj.cells #[.int .i64 (U (k*12)),.int .i64 (U (k*12+1)),.int .i64 (U (k*12+2)),.int .i64 (U (k*12+3)),.int .i64 (U (k*12+4)),.int .i64 (U (k*12+5)),.int .i64 (U (k*12+6)),.int .i64 (U (k*12+7)),.int .i64 (U (k*12+8)),.int .i64 (U (k*12+9)),.int .i64 (U (k*12+10)),.int .i64 (U (k*12+11))] 36)).cell? ⟨wr.heap.size,10,none⟩=some (.int .i64 (U (k*12+10))):=by go_simp
    have x11:(wr.alloc (Obj.cells #[.int .i64 (U (k*12)),.int .i64 (U (k*12+1)),.int .i64 (U (k*12+2)),.int .i64 (U (k*12+3)),.int .i64 (U (k*12+4)),.int .i64 (U (k*12+5)),.int .i64 (U (k*12+6)),.int .i64 (U (k*12+7)),.int .i64 (U (k*12+8)),.int .i64 (U (k*12+9)),.int .i64 (U (k*12+10)),.int .i64 (U (k*12+11))] 36)).cell? ⟨wr.heap.size,11,none⟩=some (.int .i64 (U (k*12+11))):=by go_simp
    generalize (wr.alloc (Obj.cells #[.int .i64 (U (k*12)),.int .i64 (U (k*12+1)),.int .i64 (U (k*12+2)),.int .i64 (U (k*12+3)),.int .i64 (U (k*12+4)),.int .i64 (U (k*12+5)),.int .i64 (U (k*12+6)),.int .i64 (U (k*12+7)),.int .i64 (U (k*12+8)),.int .i64 (U (k*12+9)),.int .i64 (U (k*12+10)),.int .i64 (U (k*12+11))] 36))=wx at hE hB2 hC2 x0 x1 x2 x3 x4 x5 x6 x7 x8 x9 x10 x11 ⊢
    clear c0 c1 c2 c3 c4 c5 c6 c7 c8 c9 c10 c11 hE hC hB
    go_wp2_with (go_at_call 32;refine(add_any w.heap.size k (colOf U) (fun j=>U (k*12+j)) S _ hC2 (by omega)).mono ?_;rintro e w1 ⟨rfl,S1,hC1,hF1⟩)
    go_roundw
    case rel=>exact⟨k+1,by omega,by go_num,hB2.trans (hF1.below hB2.size (fun x q=>q.elim (fun q=>Nat.le_of_eq q.symm) (fun q=>Nat.le_of_lt (hC2.xlt q).1))),S1,hC1.congr fun i q _ hq=>snoc_col U k hq⟩
    case measure=>simp[intOf];omega
  · go_wp2
    go_ret
    obtain rfl:k=n:=by omega
    exact⟨rfl,hB,S,hC⟩
theorem spanAround_any (x y u v:Int) (w:World) (hx: -4000000000≤x∧x≤4000000000) (hy: -4000000000≤y∧y≤4000000000) (hu: -4000000000≤u∧u≤4000000000) (hv: -4000000000≤v∧v≤4000000000):
 Calls Tryz.prog 134 #[vv x y,vv u v] w fun e w'=>e= .returned (b4 (x-u) (y-v) (x+u) (y+v))∧Below w.heap.size w w':=by
 have hset:=cset_map
 go_enter Tryz.func134,Tryz.ntmps134
 go_wp2
 go_region_held3 (fun w'=>w'.cell? ⟨w.heap.size,0,none⟩=some (.int .i64 x)∧w'.cell? ⟨w.heap.size,1,none⟩=some (.int .i64 y)∧w'.cell? ⟨w.heap.size+1,0,none⟩=some (.int .i64 u)∧w'.cell? ⟨w.heap.size+1,1,none⟩=some (.int .i64 v)) (first|(go_simp;done)|(go_keep;done)) (first
  |(go_at_call 140;refine(plus_any _ _ _ _ _ (by omega) (by omega) (by omega) (by omega)).mono ?_;rintro e w1 ⟨rfl,hb1⟩;obtain⟨hc1,hf1⟩:=bcell hb1;have hl1:=blt hb1;have hz1:=hb1.size;(try simp only[zz] at hc1 hf1 hl1 hz1);(try have hq1x0:w.heap.size<w1.heap.size:=(by omega));(try have hq1x1:w.heap.size+1<w1.heap.size:=(by omega));(try have hq1x2:w.heap.size+1+1<w1.heap.size:=(by omega)))
  |(go_at_call 122;refine(less_any _ _ _ _ _ (by omega) (by omega) (by omega) (by omega)).mono ?_;rintro e w1 ⟨rfl,hb1⟩;obtain⟨hc1,hf1⟩:=bcell hb1;have hl1:=blt hb1;have hz1:=hb1.size;(try simp only[zz] at hc1 hf1 hl1 hz1);(try have hq1x0:w.heap.size<w1.heap.size:=(by omega));(try have hq1x1:w.heap.size+1<w1.heap.size:=(by omega));(try have hq1x2:w.heap.size+1+1<w1.heap.size:=(by omega))))
 all_goals
  go_wp2
  exact bodyPost_ret (v:=b4 (x-u) (y-v) (x+u) (y+v)) (by simp[results,Tryz.results134,go_sem, *]) rfl ⟨rfl,bel_a⟩
theorem spanNear_any (a b c d x y:Int) (w:World):
 Calls Tryz.prog 128 #[b4 a b c d,vv x y] w fun e w'=>e= .returned (vv (mn (mx x a) c) (mn (mx y b) d))∧Below w.heap.size w w':=by
 have hset:=cset_map
 go_enter Tryz.func128,Tryz.ntmps128
 go_wp2
 go_region_held3 (fun w'=>w'.cell? ⟨w.heap.size,0,none⟩=some (.int .i64 a)∧w'.cell? ⟨w.heap.size,1,none⟩=some (.int .i64 b)∧w'.cell? ⟨w.heap.size,2,none⟩=some (.int .i64 c)∧w'.cell? ⟨w.heap.size,3,none⟩=some (.int .i64 d)∧w'.cell? ⟨w.heap.size+1,0,none⟩=some (.int .i64 x)∧w'.cell? ⟨w.heap.size+1,1,none⟩=some (.int .i64 y)) (first|(go_simp;done)|(go_keep;done)) (first
  |(go_at_call 137;refine(least_any _ _ _ _ _).mono ?_;rintro e w2 ⟨rfl,hb2⟩;obtain⟨hc2,hf2⟩:=bcell hb2;have hl2:=blt hb2;have hz2:=hb2.size;(try simp only[zz] at hc2 hf2 hl2 hz2);(try have hq2x0:w.heap.size<w2.heap.size:=(by omega));(try have hq2x1:w.heap.size+1<w2.heap.size:=(by omega));(try have hq2x2:w.heap.size+1+1<w2.heap.size:=(by omega)))
  |(go_at_call 136;refine(greatest_any _ _ _ _ _).mono ?_;rintro e w1 ⟨rfl,hb1⟩;obtain⟨hc1,hf1⟩:=bcell hb1;have hl1:=blt hb1;have hz1:=hb1.size;(try simp only[zz] at hc1 hf1 hl1 hz1);(try have hq1x0:w.heap.size<w1.heap.size:=(by omega));(try have hq1x1:w.heap.size+1<w1.heap.size:=(by omega));(try have hq1x2:w.heap.size+1+1<w1.heap.size:=(by omega))))
 all_goals
  go_wp2
  exact bodyPost_ret (v:=vv (mn (mx x a) c) (mn (mx y b) d)) (by simp[results,Tryz.results128,go_sem, *]) rfl ⟨rfl,bel_a⟩
end Go.Proofs.YtbdbbdjifgpgeaaGreat
