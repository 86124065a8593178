/- Texts of a proof. -/
import Derived.Test.YtcalhcfinkhemaaGreatDoorRows
import Derived.WalkKit
import Derived.WalkSpells
import Derived.WalkLawsBesides
import Derived.OrdersHeld
import Derived.Deep.OwnRows
import Derived.Deep.RegionHeld3
import Derived.Deep.QuietTactic
import Derived.BigQuiet
import Derived.Deep.RegionWith
set_option maxHeartbeats 16000000
set_option maxRecDepth 20000
namespace Go.Proofs.YtcalhcfinkhemaaGreatDoor
open Go.RowKit
set_option linter.unusedVariables false
theorem ret_int {k:IntKind} {a b:Int} (h:a=b):Ending.returned (.int k a)= .returned (.int k b):=by rw[h]
theorem ret_bool {a b:Bool} (h:a=b):Ending.returned (.bool a)= .returned (.bool b):=by rw[h]
theorem w64 {n:Int} (h: -9223372036854775808≤n∧n≤9223372036854775807):wrap64 n=n:=by unfold wrap64;omega
theorem cset_same {w:World} {a:Addr} {u v:Value} (h:w.cell? a=some u):(w.setCell a v).cell? a=some v:=World.cell?_setCell_same _ _ _ h
theorem cset_far {w:World} {p a:Addr} {v:Value} (h:a.block≠p.block):(w.setCell p v).cell? a=w.cell? a:=World.cell?_of_block (Below.heap_setCell _ _ _ _ h)
theorem cset_other {w:World} {p a:Addr} {v:Value} (h:p≠a):(w.setCell p v).cell? a=w.cell? a:=World.cell?_setCell_other _ _ _ _ h
theorem calloc_old {w:World} {a:Addr} {o:Obj} (h:a.block<w.heap.size):(w.alloc o).cell? a=w.cell? a:=World.cell?_of_block (Below.heap_alloc _ _ _ h)
theorem fset_far {w:World} {p a:Addr} {v:Value} (h:a.block≠p.block):(w.setCell p v).frozen? a=w.frozen? a:=World.frozen?_of_block (Below.heap_setCell _ _ _ _ h)
theorem cell_lt {w:World} {a:Addr} {v:Value} (h:w.cell? a=some v):a.block<w.heap.size:=by
 rcases Nat.lt_or_ge a.block w.heap.size with k|k
 · exact k
 · simp[World.cell?,Array.getElem?_eq_none k] at h
structure But (rb:Nat) (w w':World):Prop where
 os:w'.os=w.os
 tape:w'.tape=w.tape
 output:w'.output=w.output
 size:w.heap.size≤w'.heap.size
 block:∀ k,k<w.heap.size→k≠rb→w'.heap[k]? =w.heap[k]?
theorem But.refl (rb:Nat) (w:World):But rb w w:=⟨rfl,rfl,rfl,Nat.le_refl _,fun _ _ _=>rfl⟩
theorem But.trans {rb:Nat} {a b c:World} (h:But rb a b) (k:But rb b c):But rb a c:=
 ⟨k.os.trans h.os,k.tape.trans h.tape,k.output.trans h.output,Nat.le_trans h.size k.size,fun i hi hn=>(k.block i (Nat.lt_of_lt_of_le hi h.size) hn).trans (h.block i hi hn)⟩
theorem But.of_below {rb:Nat} {w w':World} (h:Below w.heap.size w w'):But rb w w':=⟨h.os,h.tape,h.output,h.size,fun k hk _=>h.block k hk⟩
theorem But.below {rb B:Nat} {w w':World} (h:But rb w w') (hB:B≤rb) (hB':B≤w.heap.size):Below B w w':=⟨h.os,h.tape,h.output,h.size,fun k hk=>h.block k (by omega) (by omega)⟩
theorem But.alloc {rb:Nat} {a w:World} (h:But rb a w) (o:Obj):But rb a (w.alloc o):=
 h.trans ⟨rfl,rfl,rfl,by simp,fun k hk _=>Below.heap_alloc _ _ _ hk⟩
theorem But.setCell {rb:Nat} {a w:World} (h:But rb a w) {p:Addr} (hp:p.block=rb) (u:Value):But rb a (w.setCell p u):=
 h.trans ⟨rfl,rfl,rfl,by simp[World.setCell],fun k _ hn=>Below.heap_setCell _ _ _ _ (by omega)⟩
theorem But.drewN {rb:Nat} {a w:World} (h:But rb a w) (n:Nat):But rb a (w.drewN n):=⟨h.os,h.tape,h.output,h.size,h.block⟩
theorem But.cell {rb:Nat} {w w':World} (h:But rb w w') {p:Addr} (hp:p.block<w.heap.size) (hn:p.block≠rb):w'.cell? p=w.cell? p:=World.cell?_of_block (w:=w) (h.block p.block hp hn)
theorem But.frozen {rb:Nat} {w w':World} (h:But rb w w') {p:Addr} (hp:p.block<w.heap.size) (hn:p.block≠rb):w'.frozen? p=w.frozen? p:=World.frozen?_of_block (w:=w) (h.block p.block hp hn)
theorem xor_nonneg {x y:Int} (h0:0≤x) (h1:x<4611686018427387904) (k0:0≤y) (k1:y<4611686018427387904):0≤bits .xor .i64 x y:=by
 obtain⟨a,rfl⟩:=Int.eq_ofNat_of_zero_le h0
 obtain⟨b,rfl⟩:=Int.eq_ofNat_of_zero_le k0
 have hx:a^^^b<2^62:=Nat.xor_lt_two_pow (by omega) (by omega)
 have e1:(BitVec.ofInt 64 (a:Int)).toNat=a:=by
  rw[BitVec.ofInt_natCast,BitVec.toNat_ofNat];exact Nat.mod_eq_of_lt (by omega)
 have e2:(BitVec.ofInt 64 (b:Int)).toNat=b:=by
  rw[BitVec.ofInt_natCast,BitVec.toNat_ofNat];exact Nat.mod_eq_of_lt (by omega)
 show 0≤IntKind.i64.wrap ((BitVec.ofInt 64 (a:Int)^^^BitVec.ofInt 64 (b:Int)).toNat:Int)
 rw[BitVec.toNat_xor,e1,e2]
 simp[IntKind.wrap,IntKind.bits,IntKind.signed]
 omega
section
variable {P:Program} {md:Region.Mode} {ops:Array Oper} {Q:Exit→Act→World→Prop} {S:World→Prop}
end
end Go.Proofs.YtcalhcfinkhemaaGreatDoor
namespace Go.Proofs.YtcalhcfinkhemaaGreatDoor
open Go.RowKit
set_option linter.unusedVariables false
set_option linter.unusedSimpArgs false
def Flat (w:World) (a:Option Addr) (m:Nat) (U:Nat→Int):Prop:=
 0<m→∃ b o,a=some ⟨b,o,none⟩∧b<w.heap.size∧∀ q,q<m→w.cell? ⟨b,o+q,none⟩=some (.int .i64 (U q))
theorem Flat.below {w w':World} {a:Option Addr} {m:Nat} {U:Nat→Int} (h:Flat w a m U) (hb:Below w.heap.size w w'):Flat w' a m U:=by
 intro h0
 obtain⟨b,o,e,l,c⟩:=h h0
 exact⟨b,o,e,Nat.lt_of_lt_of_le l hb.size,fun q hq=>(hb.cell (p:=⟨b,o+q,none⟩) l).trans (c q hq)⟩
theorem Flat.nil {w:World} {a:Option Addr} {U:Nat→Int}:Flat w a 0 U:=fun h=>absurd h (Nat.lt_irrefl 0)
def Row (w:World) (b:Nat) (t:TypeId) (m:Nat) (U:Nat→Int):Prop:=w.rowIs b t m (fun q=> .int .i64 (U q))
theorem Row.flat {w:World} {b t m:Nat} {U:Nat→Int} (h:Row w b t m U):Flat w (some ⟨b,0,none⟩) m U:=by
 intro _
 exact⟨b,0,rfl,World.rowIs.lt h,fun q hq=>by rw[Nat.zero_add];exact World.rowIs.cell h hq⟩
theorem Row.cell {w:World} {b t m:Nat} {U:Nat→Int} (h:Row w b t m U) {q:Nat} (hq:q<m):w.cell? ⟨b,q,none⟩=some (.int .i64 (U q)):=World.rowIs.cell h hq
theorem Row.fro {w:World} {b t m:Nat} {U:Nat→Int} (h:Row w b t m U) (q:Nat):w.frozen? ⟨b,q,none⟩=false:=World.rowIs.frozen h q
theorem Row.lt {w:World} {b t m:Nat} {U:Nat→Int} (h:Row w b t m U):b<w.heap.size:=World.rowIs.lt h
theorem Row.congr {w:World} {b t m:Nat} {U V:Nat→Int} (h:Row w b t m U) (e:∀ q,q<m→U q=V q):Row w b t m V:=World.rowIs.congr h fun q hq=>by simp only[e q hq]
theorem Row.below {w w':World} {b t m:Nat} {U:Nat→Int} (h:Row w b t m U) (hb:Below w.heap.size w w'):Row w' b t m U:=World.rowIs.of_block h (hb.block _ h.lt)
theorem Row.set {w:World} {b t m:Nat} {U:Nat→Int} (h:Row w b t m U) (i:Nat) (v:Int):Row (w.setCell ⟨b,i,none⟩ (.int .i64 v)) b t m (fun q=>if q=i then v else U q):=
 World.rowIs.congr (World.rowIs.set h i (.int .i64 v)) fun q _=>by by_cases e:q=i<;>simp[e]
theorem Row.setO {w:World} {b t m:Nat} {U:Nat→Int} (h:Row w b t m U) {a:Addr} (ha:b≠a.block) (v:Value):Row (w.setCell a v) b t m U:=World.rowIs.setOther h ha v
theorem Row.alloc {w:World} {b t m:Nat} {U:Nat→Int} (h:Row w b t m U) (o:Obj):Row (w.alloc o) b t m U:=World.rowIs.alloc h o
theorem Row.drew {w:World} {b t m:Nat} {U:Nat→Int} (h:Row w b t m U):Row w.drew b t m U:=h
theorem Row.made (w:World) (z:Array Value) (m:Nat) (t:TypeId) (hz:∀ q,q<z.size→z[q]? =some (.int .i64 0)) (h0:0<z.size):Row (w.alloc (.cells (madeCells z m) t)) w.heap.size t m (fun _=>0):=by
 refine⟨_,Go.Deep.blk_alloc_new _ _,size_madeCells _ _,fun i hi=> ?_⟩
 have hlt:i % z.size<z.size:=Nat.mod_lt _ h0
 have h:=hz _ hlt
 rw[Array.getElem?_eq_getElem hlt] at h
 simp only[Option.some.injEq] at h
 simp[madeCells,hi,hlt,h]
theorem make_rows {P:Program} (t e:TypeId) (z:Value) (k bytes:Nat) (ht:P.underlying t=some (.slice e)) (hinfo:(P.info? e).map (fun i=>(i.zero,i.size,i.bytes))=some (some z,k,bytes))
 (kl kc:IntKind) (n:Nat) (hbytes:bytes*n≤281474976710656) (h63:n≤9223372036854775807) (w:World):
 (Instr.makeSlice t (.int kl (n:Int)) (.int kc (n:Int))).run P w= .ok (.slice (some ⟨w.heap.size,0,none⟩) n n) (w.alloc (.cells (madeCells z.cells (n*k)) e)):=by
 obtain⟨i,hi,hzz⟩:=Option.map_eq_some_iff.1 hinfo
 simp only[Prod.mk.injEq] at hzz
 obtain⟨hz,hs,hb⟩:=hzz
 have hb':(i.bytes:Int)*(n:Int)≤281474976710656:=by
  have h:((i.bytes*n:Nat):Int)≤281474976710656:=by rw[hb];omega
  rwa [Int.natCast_mul] at h
 have hr:=run_make (P:=P) w t e i z ht hi hz kl kc n n (by omega) (Int.le_refl _) hb' (by omega)
 simp only[Int.toNat_natCast,hs] at hr
 exact hr
abbrev upto (p:Nat) (U:Nat→Int):Nat→Int:=fun q=>if q<p then U q else 0
theorem Row.next {w:World} {b t m p:Nat} {U:Nat→Int} (h:Row w b t m (upto p U)):Row (w.setCell ⟨b,p,none⟩ (.int .i64 (U p))) b t m (upto (p+1) U):=
 (h.set p (U p)).congr fun q _=>by
   by_cases e:q=p
   · subst e;simp[upto]
   · simp only[upto,if_neg e]
     by_cases l:q<p
     · rw[if_pos l,if_pos (by omega)]
     · rw[if_neg l,if_neg (by omega)]
theorem Row.zero {w:World} {b t m:Nat} {U:Nat→Int} (h:Row w b t m (fun _=>0)):Row w b t m (upto 0 U):=h.congr fun q hq=>by simp[upto]
end Go.Proofs.YtcalhcfinkhemaaGreatDoor
namespace Go.Proofs.YtcalhcfinkhemaaGreatDoor
open Go.RowKit
set_option linter.unusedVariables false
section
variable {P:Program} {md:Region.Mode} {ops:Array Oper} {Q:Exit→Act→World→Prop} {S:World→Prop}
theorem tq (i:Nat) {o1 o2 o3 o4 o5 o6} {v:Value} {fuel:Nat} {listed:Array Bool} {a a':Act} {w:World} (hS:S w)
 (h:wpAnyH P md ops Q S fuel (listed.setIfInBounds i true) a' w)
 (hi:ops[i]? =some (Oper.mk o1 o2 o3 o4 o5 o6):=by rfl)
 (hc:(Region.noSelect ops&&(Region.free md ops listed i&&(Region.ready md ops listed).contains i))=true:=by kernel_rfl)
 (hQ:∀ c a w,Q (.panic c) (a.put (Oper.mk o1 o2 o3 o4 o5 o6).dst v) w→Q (.panic c) a w:=by exact fun _ _ _ h=>h)
 (hw:Region.wanted (Oper.mk o1 o2 o3 o4 o5 o6) (yielded ops a.tmps)=true:=by rfl)
 (hv:∀ w,S w→(execOp a.eval (Oper.mk o1 o2 o3 o4 o5 o6)).run P w= .ok (.value v) w:=by(intro w s;(try dsimp only at s);go_simp;(try with_reducible rfl)))
 (he:a.put (Oper.mk o1 o2 o3 o4 o5 o6).dst v=a':=by((try simp only[Act.put,List.setIfInBounds_toArray,List.set_cons_zero,List.set_cons_succ]);(try with_reducible rfl))):
 wpAnyH P md ops Q S (fuel+1) listed a w:=by
 subst he
 simp only[Bool.and_eq_true] at hc
 exact wpAnyH_take hi hc.1 hc.2.1 hc.2.2 hQ (.inl ⟨hw,hv⟩) hS h
theorem tn (i:Nat) {o1 o2 o3 o4 o5 o6} {fuel:Nat} {listed:Array Bool} {a a':Act} {w:World} (hS:S w)
 (h:wpAnyH P md ops Q S fuel (listed.setIfInBounds i true) a' w)
 (hi:ops[i]? =some (Oper.mk o1 o2 o3 o4 o5 o6):=by rfl)
 (hc:(Region.noSelect ops&&(Region.free md ops listed i&&(Region.ready md ops listed).contains i))=true:=by kernel_rfl)
 (hQ:∀ c a w,Q (.panic c) (a.put (Oper.mk o1 o2 o3 o4 o5 o6).dst undef) w→Q (.panic c) a w:=by exact fun _ _ _ h=>h)
 (hw:Region.wanted (Oper.mk o1 o2 o3 o4 o5 o6) (yielded ops a.tmps)=false:=by rfl)
 (he:a.put (Oper.mk o1 o2 o3 o4 o5 o6).dst undef=a':=by((try simp only[Act.put,List.setIfInBounds_toArray,List.set_cons_zero,List.set_cons_succ]);(try with_reducible rfl))):
 wpAnyH P md ops Q S (fuel+1) listed a w:=by
 subst he
 simp only[Bool.and_eq_true] at hc
 exact wpAnyH_take hi hc.1 hc.2.1 hc.2.2 hQ (.inr ⟨hw,rfl⟩) hS h
end
section
variable {P:Program} {md:Region.Mode} {ops:Array Oper} {Q:Exit→Act→World→Prop} {S:World→Prop}
theorem tc (i:Nat) {o1 o2 o3 o4 o5 o6} {fuel:Nat} {listed:Array Bool} {a:Act} {w:World}
 (h:∀ K':Act→World→Prop,Shut (∀ a w,S w→(S w→wpAnyH P md ops Q S fuel (listed.setIfInBounds i true) a w)→K' a w)→if Region.wanted (Oper.mk o1 o2 o3 o4 o5 o6) (yielded ops a.tmps)=true then Oper.wp P (Oper.mk o1 o2 o3 o4 o5 o6) a w K' Q else K' (a.put (Oper.mk o1 o2 o3 o4 o5 o6).dst undef) w)
 (hr:Region.ready md ops listed=[i]:=by kernel_rfl)
 (hi:ops[i]? =some (Oper.mk o1 o2 o3 o4 o5 o6):=by rfl):
 wpAnyH P md ops Q S (fuel+1) listed a w:=wpAnyH_ready hr (by simp) (AllReadyH.cons hi h AllReadyH.nil)
theorem tr {K:Act→World→Prop} {fuel:Nat} {listed:Array Bool} (hK:Shut (∀ a w,S w→(S w→wpAnyH P md ops Q S fuel listed a w)→K a w)) {a a':Act} {w:World}
 (h:S w→wpAnyH P md ops Q S fuel listed a' w)
 (hS:S w:=by((try dsimp only);(first|(go_simp;done)|(go_keep;done))))
 (he:a=a':=by((try simp only[Act.put,List.setIfInBounds_toArray,List.set_cons_zero,List.set_cons_succ]);(try with_reducible rfl))):K a w:=by
 subst he
 exact hK.out _ _ hS h
end
end Go.Proofs.YtcalhcfinkhemaaGreatDoor
namespace Go.Proofs.YtcalhcfinkhemaaGreatDoor
theorem mul_bd {a b A B:Int} (ha: -A≤a∧a≤A) (hb: -B≤b∧b≤B): -(A*B)≤a*b∧a*b≤A*B:=by
 have h1:=Int.mul_nonneg (show 0≤A-a by omega) (show 0≤B+b by omega)
 have h2:=Int.mul_nonneg (show 0≤A+a by omega) (show 0≤B-b by omega)
 have h3:=Int.mul_nonneg (show 0≤A-a by omega) (show 0≤B-b by omega)
 have h4:=Int.mul_nonneg (show 0≤A+a by omega) (show 0≤B+b by omega)
 simp only[Int.mul_add,Int.add_mul,Int.sub_mul,Int.mul_sub] at h1 h2 h3 h4
 omega
def clampZ (l n:Int):Int:=if n< -l then-l else if l<n then l else n
theorem clampZ_bd {l:Int} (n:Int) (h:0≤l): -l≤clampZ l n∧clampZ l n≤l:=by
 unfold clampZ;split
 · omega
 · split<;>omega
theorem clampZ_id {l n:Int} (h1: -l≤n) (h2:n≤l):clampZ l n=n:=by
 unfold clampZ;rw[if_neg (by omega),if_neg (by omega)]
def FM:Int:=1000000000
def fc (n:Int):Int:=clampZ 1000000000 n
theorem fc_bd (n:Int): -1000000000≤fc n∧fc n≤1000000000:=clampZ_bd n (by decide)
theorem fc_id {n:Int} (h1: -1000000000≤n) (h2:n≤1000000000):fc n=n:=clampZ_id h1 h2
theorem fc_fc (n:Int):fc (fc n)=fc n:=fc_id (fc_bd n).1 (fc_bd n).2
def fmul (a b:Int):Int:=fc ((fc a*fc b).tdiv 256)
def fdiv (a b:Int):Int:=if fc b=0 then fc (fc a*1000000000) else fc ((fc a*256).tdiv (fc b))
def IsRoot (n r:Int):Prop:=0≤r∧r*r≤n∧n<(r+1)*(r+1)
theorem sq_mono {a b:Int} (h0:0≤a) (h:a≤b):a*a≤b*b:=Int.mul_le_mul h h h0 (by omega)
theorem IsRoot.uniq {n r s:Int} (h:IsRoot n r) (k:IsRoot n s):r=s:=by
 obtain⟨a0,a1,a2⟩:=h
 obtain⟨b0,b1,b2⟩:=k
 rcases Int.lt_trichotomy r s with h|h|h
 · have:=sq_mono (show 0≤r+1 by omega) (show r+1≤s by omega);omega
 · exact h
 · have:=sq_mono (show 0≤s+1 by omega) (show s+1≤r by omega);omega
def rootN:Nat→Nat
 |0=>0
 |n+1=>if (rootN n+1)*(rootN n+1)≤n+1 then rootN n+1 else rootN n
theorem rootN_is (n:Nat):rootN n*rootN n≤n∧n<(rootN n+1)*(rootN n+1):=by
 induction n with
 |zero=>simp[rootN]
 | succ n ih=>
   obtain⟨h1,h2⟩:=ih
   unfold rootN
   split
   · refine⟨by assumption,?_⟩
     simp only[Nat.mul_add,Nat.add_mul] at*
     omega
   · exact⟨by omega,by omega⟩
def rootZ (n:Int):Int:=if n<0 then 0 else (rootN n.toNat:Int)
theorem rootZ_neg {n:Int} (h:n<0):rootZ n=0:=by unfold rootZ;rw[if_pos h]
theorem rootZ_is {n:Int} (h:0≤n):IsRoot n (rootZ n):=by
 have e:rootZ n=(rootN n.toNat:Int):=by unfold rootZ;rw[if_neg (by omega)]
 obtain⟨h1,h2⟩:=rootN_is n.toNat
 have k1:((rootN n.toNat*rootN n.toNat:Nat):Int)≤(n.toNat:Int):=by exact_mod_cast h1
 have k2:(n.toNat:Int)<(((rootN n.toNat+1)*(rootN n.toNat+1):Nat):Int):=by exact_mod_cast h2
 rw[Int.natCast_mul] at k1 k2
 rw[Int.natCast_add,Int.toNat_of_nonneg h] at k2
 rw[Int.toNat_of_nonneg h] at k1
 rw[e]
 exact⟨Int.natCast_nonneg _,k1,k2⟩
theorem rootZ_of {n r:Int} (h:IsRoot n r):rootZ n=r:=by
 have h0:0≤n:=by obtain⟨a,b,_⟩:=h;have:=Int.mul_nonneg a a;omega
 exact IsRoot.uniq (rootZ_is h0) h
theorem rootZ_nonneg (n:Int):0≤rootZ n:=by
 by_cases h:n<0
 · rw[rootZ_neg h];omega
 · exact(rootZ_is (by omega)).1
theorem rootZ_le {n B:Int} (hB:0≤B) (h:n<(B+1)*(B+1)):rootZ n≤B:=by
 by_cases h0:n<0
 · rw[rootZ_neg h0];exact hB
 · obtain⟨a,b,c⟩:=rootZ_is (show 0≤n by omega)
   rcases Int.lt_or_le B (rootZ n) with k|k
   · have:=sq_mono (show 0≤B+1 by omega) (show B+1≤rootZ n by omega);omega
   · exact k
theorem tdiv_bd {x B:Int} (m:Int) (h: -B≤x∧x≤B): -B≤x.tdiv m∧x.tdiv m≤B:=by
 have:=Int.natAbs_tdiv_le_natAbs x m;omega
def absZ (n:Int):Int:=if n<0 then-n else n
def fsqrt (n:Int):Int:=rootZ (fc n*256)
end Go.Proofs.YtcalhcfinkhemaaGreatDoor
namespace Go.Proofs.YtcalhcfinkhemaaGreatDoor
open Go.RowKit
theorem held_any (n l:Int) (w:World) (h0:0≤l) (h1:l≤4000000000):
 Calls Tryz.prog 159 #[.int .i64 n,.int .i64 l] w fun e w'=>e= .returned (.int .i64 (clampZ l n))∧w'=w:=by
 go_enter Tryz.func159,Tryz.ntmps159
 go_wp2
 all_goals
  go_ret
  refine⟨ret_int ?_,rfl⟩
  unfold clampZ
  repeat' split
  all_goals(repeat' split at*)<;>omega
theorem sFixClamp_any (n:Int) (w:World):
 Calls Tryz.prog 154 #[.int .i64 n] w fun e w'=>e= .returned (.int .i64 (fc n))∧w'=w:=by
 go_enter Tryz.func154,Tryz.ntmps154
 go_wp2
 all_goals
  go_ret
  refine⟨ret_int ?_,rfl⟩
  unfold fc clampZ
  repeat' split
  all_goals omega
theorem times_any (n m:Int) (w:World) (hn: -1000000000≤n∧n≤1000000000) (hm: -1000000000≤m∧m≤1000000000):
 Calls Tryz.prog 193 #[.int .i64 n,.int .i64 m] w fun e w'=>e= .returned (.int .i64 (fc ((n*m).tdiv 256)))∧w'=w:=by
 have hp:=mul_bd hn hm
 obtain⟨p1,p2⟩:=hp
 go_enter Tryz.func193,Tryz.ntmps193
 go_wp2_with (go_at_call 159;refine(held_any _ _ _ (by decide) (by decide)).mono ?_;rintro e w' ⟨rfl,rfl⟩)
 go_ret
 exact⟨rfl,rfl⟩
end Go.Proofs.YtcalhcfinkhemaaGreatDoor
namespace Go.Proofs.YtcalhcfinkhemaaGreatDoor
open Go.RowKit
set_option linter.unusedVariables false
theorem lt_of_sq {a b:Int} (hb:0≤b) (h:a*a<b*b):a<b:=by
 rcases Int.lt_or_le a b with k|k
 · exact k
 · have:=sq_mono hb k;omega
theorem le_of_sq {a b:Int} (hb:0≤b) (h:a*a<(b+1)*(b+1)):a≤b:=by
 have:=lt_of_sq (show 0≤b+1 by omega) h;omega
theorem mid {l h:Int} (a:0≤l) (b:l+1<h):l<(l+h)/2∧(l+h)/2<h:=by omega
theorem l1Root_any (n:Int) (w:World) (h0:0≤n) (h1:n≤2000000000000000000):
 Calls Tryz.prog 155 #[.int .i64 n] w fun e w'=>e= .returned (.int .i64 (rootZ n))∧w'=w:=by
 go_enter Tryz.func155,Tryz.ntmps155
 go_wp2
 go_loop [4] (fun t=>∃ h:Int,1≤h∧h≤2828427126∧t= .int .i64 h) (fun t=>(2828427126-intOf t).toNat)
 case atStart=>exact⟨1,by omega,by omega,rfl⟩
 case round=>
  obtain⟨h,a1,a2,rfl⟩:=hrel
  have hb:=mul_bd (a:=h) (b:=h) (A:=2828427126) (B:=2828427126) (by omega) (by omega)
  obtain⟨hb1,hb2⟩:=hb
  by_cases hc:h*h≤n
  · have hle:h≤1414213563:=le_of_sq (by omega) (by omega)
    go_wp2
    go_round
    case rel=>exact⟨2*h,by omega,by omega,rfl⟩
    case measure=>simp[intOf];omega
  · go_wp2
    go_loop [3,4] (fun s t=>∃ l h:Int,0≤l∧l<h∧h≤2828427126∧l*l≤n∧n<h*h∧s= .int .i64 l∧t= .int .i64 h) (fun s t=>(intOf t-intOf s).toNat)
    case atStart=>exact⟨0,h,by omega,by omega,by omega,by omega,by omega,rfl,rfl⟩
    case round=>
     obtain⟨l,h,b0,b1,b2,b3,b4,rfl,rfl⟩:=hrel
     by_cases hd:1<h-l
     · have hm:=mid b0 (show l+1<h by omega)
       have hb:=mul_bd (a:=(l+h)/2) (b:=(l+h)/2) (A:=2828427126) (B:=2828427126) (by omega) (by omega)
       obtain⟨hb1,hb2⟩:=hb
       obtain⟨hm1,hm2⟩:=hm
       by_cases he:(l+h)/2*((l+h)/2)≤n
       · go_wp2
         go_round
         case rel=>exact⟨_,h,by omega,hm2,by omega,he,by omega,rfl,rfl⟩
         case measure=>simp[intOf];omega
       · go_wp2
         go_round
         case rel=>exact⟨l,_,by omega,hm1,by omega,b3,by omega,rfl,rfl⟩
         case measure=>simp[intOf];omega
     · have e:h=l+1:=by omega
       go_wp2
       go_ret
       exact⟨ret_int (rootZ_of ⟨b0,b3,by rw[←e];exact b4⟩).symm,rfl⟩
def cellInt (w:World) (a:Addr):Int:=match w.cell? a with|some v=>intOf v|none=>0
theorem cellInt_of {w:World} {a:Addr} {k:IntKind} {n:Int} (h:w.cell? a=some (.int k n)):cellInt w a=n:=by simp[cellInt,h,intOf]
theorem narrow_any (B:Nat) (n l h:Int) (w:World) (hl:w.cell? ⟨B+1,0,none⟩=some (.int .i64 l)) (hh:w.cell? ⟨B+2,0,none⟩=some (.int .i64 h)) (hn:w.cell? ⟨B,0,none⟩=some (.int .i64 n))
 (fl:w.frozen? ⟨B+1,0,none⟩=false) (fh:w.frozen? ⟨B+2,0,none⟩=false) (a0:0≤l) (a1:l+1<h) (a2:h≤2147483648):
 Calls Tryz.prog 202 #[.pointer (some ⟨B+1,0,none⟩),.pointer (some ⟨B+2,0,none⟩),.pointer (some ⟨B,0,none⟩)] w fun e w'=>∃ l' h':Int,
  e= .returned (.bool (decide (1<h'-l')))∧0≤l'∧l'<h'∧h'≤2147483648∧h'-l'<h-l∧(l'=l∨l'*l'≤n)∧(h'=h∨n<h'*h')∧
  w'.cell? ⟨B+1,0,none⟩=some (.int .i64 l')∧w'.cell? ⟨B+2,0,none⟩=some (.int .i64 h')∧w'.cell? ⟨B,0,none⟩=some (.int .i64 n)∧
  w'.frozen? ⟨B+1,0,none⟩=false∧w'.frozen? ⟨B+2,0,none⟩=false∧Below B w w':=by
 have hm:=mid a0 a1
 have hb:=mul_bd (a:=(l+h)/2) (b:=(l+h)/2) (A:=2147483648) (B:=2147483648) (by omega) (by omega)
 obtain⟨hb1,hb2⟩:=hb
 obtain⟨hm1,hm2⟩:=hm
 by_cases he:(l+h)/2*((l+h)/2)≤n
 · go_enter Tryz.func202,Tryz.ntmps202
   go_wp2
   go_ret
   exact⟨(l+h)/2,h,rfl,by omega,by omega,by omega,by omega,.inr he,.inl rfl,cset_same hl,by rw[cset_far (by simp)];exact hh,
    by rw[cset_far (by simp)];exact hn,by simpa using fl,by simpa using fh,(Below.refl _ _).setCell (by simp) _⟩
 · go_enter Tryz.func202,Tryz.ntmps202
   go_wp2
   go_ret
   exact⟨l,(l+h)/2,rfl,by omega,by omega,by omega,by omega,.inl rfl,.inr (by omega),by rw[cset_far (by simp)];exact hl,cset_same hh,
    by rw[cset_far (by simp)];exact hn,by simpa using fl,by simpa using fh,(Below.refl _ _).setCell (by simp) _⟩
theorem root_any (n:Int) (w:World) (h1:n≤2000000000000000000):
 Calls Tryz.prog 201 #[.int .i64 n] w fun e w'=>e= .returned (.int .i64 (rootZ n))∧Below w.heap.size w w':=by
 go_enter Tryz.func201,Tryz.ntmps201
 go_wp2
 go_loopw [] (fun wr=>∃ l h:Int,0≤l∧l+1<h∧h≤2147483648∧(l=0∨l*l≤n)∧n<h*h∧
  wr.cell? ⟨w.heap.size+1,0,none⟩=some (.int .i64 l)∧wr.cell? ⟨w.heap.size+2,0,none⟩=some (.int .i64 h)∧wr.cell? ⟨w.heap.size,0,none⟩=some (.int .i64 n)∧
  wr.frozen? ⟨w.heap.size+1,0,none⟩=false∧wr.frozen? ⟨w.heap.size+2,0,none⟩=false∧Below w.heap.size w wr)
  (fun wr=>(cellInt wr ⟨w.heap.size+2,0,none⟩-cellInt wr ⟨w.heap.size+1,0,none⟩).toNat)
 case atStart=>
  refine⟨0,2147483648,by omega,by omega,by omega,.inl rfl,by omega,?_,?_,?_,?_,?_,?_⟩
  iterate 5 go_simp
  exact(((Below.refl _ _).alloc (Nat.le_refl _) _).alloc (by simp) _).alloc (by simp;omega) _
 case round=>
  obtain⟨l,h,a0,a1,a2,a3,a4,c1,c2,c0,f1,f2,hbel⟩:=hrel
  go_wp2_with (go_at_call 202;refine(narrow_any _ _ _ _ _ c1 c2 c0 f1 f2 a0 a1 a2).mono ?_;rintro e w1 ⟨l',h',rfl,b0,b1,b2,b3,b4,b5,d1,d2,d0,g1,g2,hb1⟩)
  · go_roundw
    case rel=>exact⟨l',h',by omega,by omega,by omega,by rcases b4 with rfl|k;exact a3;exact .inr k,by rcases b5 with rfl|k;exact a4;exact k,d1,d2,d0,g1,g2,hbel.trans hb1⟩
    case measure=>simp only[cellInt_of c1,cellInt_of c2,cellInt_of d1,cellInt_of d2];omega
  · go_ret
    refine⟨ret_int ?_,hbel.trans hb1⟩
    have e:h'=l'+1:=by omega
    have q4:n<(l'+1)*(l'+1):=by rw[←e];rcases b5 with rfl|k;exact a4;exact k
    have q3:l'=0∨l'*l'≤n:=by rcases b4 with rfl|k;exact a3;exact .inr k
    rcases q3 with rfl|q3
    · by_cases hn:n<0
      · rw[rootZ_neg hn]
      · exact(rootZ_of ⟨by omega,by omega,q4⟩).symm
    · exact(rootZ_of ⟨b0,q3,q4⟩).symm
end Go.Proofs.YtcalhcfinkhemaaGreatDoor
namespace Go.Proofs.YtcalhcfinkhemaaGreatDoor
open Go.RowKit
set_option linter.unusedVariables false
theorem bcell {W w1:World} (hb:Below W.heap.size W w1):(∀ b o,b<W.heap.size→w1.cell? ⟨b,o,none⟩=W.cell? ⟨b,o,none⟩)∧(∀ b o,b<W.heap.size→w1.frozen? ⟨b,o,none⟩=W.frozen? ⟨b,o,none⟩):=
 ⟨fun b o h=>hb.cell (p:=⟨b,o,none⟩) h,fun b o h=>hb.frozen (p:=⟨b,o,none⟩) h⟩
theorem blt {W w1:World} (hb:Below W.heap.size W w1):∀ b,b<W.heap.size→b<w1.heap.size:=fun b h=>Nat.lt_of_lt_of_le h hb.size
theorem belowDrewN {B:Nat} {a w:World} (h:Below B a w) (n:Nat):Below B a (w.drewN n):=⟨h.os,h.tape,h.output,h.size,h.block⟩
theorem bel_a {B:Nat} {a w:World} (h:Below B a w:=by repeat(first|with_reducible apply Below.refl|(with_reducible apply Below.setCell;rotate_left;focus (first|omega|(simp;done)|(simp;omega)))|(with_reducible apply Below.alloc;rotate_left;focus (first|omega|(simp;done)|(simp;omega)))|with_reducible apply Below.drew|with_reducible apply belowDrewN|(with_reducible apply Below.trans;rotate_left;with_reducible apply Below.mono;with_reducible assumption;focus (first|omega|(simp;done)|(simp;omega))))):Below B a w:=h
theorem cset_map (w:World) (a:Addr) (v:Value):(w.setCell a v).cell? a=(w.cell? a).map fun _=>v:=by
 cases h:w.cell? a with
 |some u=>rw[cset_same h];rfl
 | none=>
   simp only[World.cell?,World.setCell,Array.getElem?_modify,if_true] at*
   cases hb:w.heap[a.block]? with
   |none=>simp
   | some o=>
     rw[hb] at h
     cases o with
     | cells c t fr=>
       by_cases hs:a.spot.isSome
       · simp[hs]
       · simp[hs] at h ⊢;omega
     |_=>simp
theorem i64w {n:Int} (h: -9223372036854775808≤n∧n≤9223372036854775807):IntKind.i64.wrap n=n:=by
 simp[IntKind.wrap,IntKind.bits,IntKind.signed];omega
def vdot (x y u v:Int):Int:=fc ((fc x*fc u+fc y*fc v).tdiv 256)
def vl (x y:Int):Int:=clampZ 1000000000 (rootZ (x*x+y*y))
def ux (x y:Int):Int:=if vl x y=0 then 0 else (x*256).tdiv (vl x y)
def uy (x y:Int):Int:=if vl x y=0 then 256 else (y*256).tdiv (vl x y)
theorem vl_bd (x y:Int):0≤vl x y∧vl x y≤1000000000:=by
 have h:=rootZ_nonneg (x*x+y*y)
 have k:=clampZ_bd (l:=1000000000) (rootZ (x*x+y*y)) (by decide)
 refine⟨?_,k.2⟩
 unfold vl clampZ;repeat' split
 all_goals omega
theorem sq_bd {x y:Int} (hx: -1000000000≤x∧x≤1000000000) (hy: -1000000000≤y∧y≤1000000000):0≤x*x+y*y∧x*x+y*y≤2000000000000000000:=by
 have p:=mul_bd hx hx
 have q:=mul_bd hy hy
 have p0:0≤x*x:=by rcases Int.le_total 0 x with h|h;exact Int.mul_nonneg h h;exact Int.mul_nonneg_of_nonpos_of_nonpos h h
 have q0:0≤y*y:=by rcases Int.le_total 0 y with h|h;exact Int.mul_nonneg h h;exact Int.mul_nonneg_of_nonpos_of_nonpos h h
 omega
abbrev vv (x y:Int):Value:= .agg #[.int .i64 x,.int .i64 y]
theorem wayOf_any (x y:Int) (w:World):
 Calls Tryz.prog 168 #[vv x y] w fun e w'=>e= .returned (vv x y)∧Below w.heap.size w w':=by
 have hset:=cset_map
 go_enter Tryz.func168,Tryz.ntmps168
 go_wp2
 exact bodyPost_ret (v:=vv x y) (by simp[results,Tryz.results168,go_sem]) rfl ⟨rfl,bel_a⟩
theorem vec_any (x y:Int) (w:World):
 Calls Tryz.prog 124 #[vv x y] w fun e w'=>e= .returned (vv x y)∧Below w.heap.size w w':=by
 have hset:=cset_map
 go_enter Tryz.func124,Tryz.ntmps124
 go_wp2
 exact bodyPost_ret (v:=vv x y) (by simp[results,Tryz.results124,go_sem]) rfl ⟨rfl,bel_a⟩
theorem plus_any (x y u v:Int) (w:World) (hx: -4000000000≤x∧x≤4000000000) (hy: -4000000000≤y∧y≤4000000000) (hu: -4000000000≤u∧u≤4000000000) (hv: -4000000000≤v∧v≤4000000000):
 Calls Tryz.prog 163 #[vv x y,vv u v] w fun e w'=>e= .returned (vv (x+u) (y+v))∧Below w.heap.size w w':=by
 have hset:=cset_map
 go_enter Tryz.func163,Tryz.ntmps163
 go_wp2
 exact bodyPost_ret (v:=vv (x+u) (y+v)) (by simp[results,Tryz.results163,go_sem]) rfl ⟨rfl,bel_a⟩
theorem less_any (x y u v:Int) (w:World) (hx: -4000000000≤x∧x≤4000000000) (hy: -4000000000≤y∧y≤4000000000) (hu: -4000000000≤u∧u≤4000000000) (hv: -4000000000≤v∧v≤4000000000):
 Calls Tryz.prog 143 #[vv x y,vv u v] w fun e w'=>e= .returned (vv (x-u) (y-v))∧Below w.heap.size w w':=by
 have hset:=cset_map
 go_enter Tryz.func143,Tryz.ntmps143
 go_wp2
 exact bodyPost_ret (v:=vv (x-u) (y-v)) (by simp[results,Tryz.results143,go_sem]) rfl ⟨rfl,bel_a⟩
theorem products_any (x y u v:Int) (w:World) (hx: -1500000000≤x∧x≤1500000000) (hy: -1500000000≤y∧y≤1500000000) (hu: -1500000000≤u∧u≤1500000000) (hv: -1500000000≤v∧v≤1500000000):
 Calls Tryz.prog 194 #[vv x y,vv u v] w fun e w'=>e= .returned (.int .i64 (x*u+y*v))∧Below w.heap.size w w':=by
 have p:=mul_bd (a:=x) (b:=u) (A:=1500000000) (B:=1500000000) hx hu
 have q:=mul_bd (a:=y) (b:=v) (A:=1500000000) (B:=1500000000) hy hv
 have hset:=cset_map
 go_enter Tryz.func194,Tryz.ntmps194
 go_wp2
 go_ret
 exact⟨rfl,bel_a⟩
theorem wayHeld_any (x y l:Int) (w:World) (h0:0≤l) (h1:l≤4000000000):
 Calls Tryz.prog 145 #[vv x y,.int .i64 l] w fun e w'=>e= .returned (vv (clampZ l x) (clampZ l y))∧Below w.heap.size w w':=by
 have hset:=cset_map
 go_enter Tryz.func145,Tryz.ntmps145
 go_wp2
 go_region_with (go_at_call 159;refine(held_any _ _ _ h0 h1).mono ?_;rintro e w' ⟨rfl,rfl⟩)
 all_goals
  go_wp2
  exact bodyPost_ret (v:=vv (clampZ l x) (clampZ l y)) (by simp[results,Tryz.results145,go_sem]) rfl ⟨rfl,bel_a⟩
def vokB (x y:Int):Bool:=decide (-1000000000≤x∧x≤1000000000∧ -1000000000≤y∧y≤1000000000)
def inB (l x y:Int):Bool:=decide (-l≤x∧x≤l∧ -l≤y∧y≤l)
theorem within_any (n l:Int) (w:World) (h0:0≤l) (h1:l≤4000000000):
 Calls Tryz.prog 115 #[.int .i64 n,.int .i64 l] w fun e w'=>e= .returned (.bool (decide (-l≤n∧n≤l)))∧w'=w:=by
 go_enter Tryz.func115,Tryz.ntmps115
 go_wp2
 all_goals
  go_ret
  refine⟨ret_bool ?_,rfl⟩
  first|(simp;omega)|(simp;done)
theorem within2_any (x y l:Int) (w:World) (h0:0≤l) (h1:l≤4000000000):
 Calls Tryz.prog 85 #[vv x y,.int .i64 l] w fun e w'=>e= .returned (.bool (inB l x y))∧Below w.heap.size w w':=by
 go_enter Tryz.func85,Tryz.ntmps85
 go_wp2_with (go_at_call 115;refine(within_any _ _ _ h0 h1).mono ?_;rintro e w' ⟨rfl,rfl⟩)
 all_goals
  go_ret
  refine⟨ret_bool ?_,bel_a⟩
  unfold inB
  first|(simp;omega)|(simp[*];done)|(simp at*;omega)
end Go.Proofs.YtcalhcfinkhemaaGreatDoor
