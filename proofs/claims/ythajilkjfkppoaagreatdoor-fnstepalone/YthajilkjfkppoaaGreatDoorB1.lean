/- Texts of a proof. -/
import Derived.Test.YthajilkjfkppoaaGreatDoorRows
import Derived.WalkKit
import Derived.WalkSpells
import Derived.WalkLawsBesides
import Derived.OrdersHeld
import Derived.Deep.OwnRows
import Derived.Deep.AppendLies
import Derived.Deep.Upon
import Derived.Maps.AppendAt
set_option maxHeartbeats 16000000
set_option maxRecDepth 20000
namespace Go.Proofs.YthajilkjfkppoaaGreatDoor
theorem mul_bd {a b A B:Int} (ha: -A≤a∧a≤A) (hb: -B≤b∧b≤B): -(A*B)≤a*b∧a*b≤A*B:=by
 have h1:=Int.mul_nonneg (show 0≤A-a by omega) (show 0≤B+b by omega)
 have h2:=Int.mul_nonneg (show 0≤A+a by omega) (show 0≤B-b by omega)
 have h3:=Int.mul_nonneg (show 0≤A-a by omega) (show 0≤B-b by omega)
 have h4:=Int.mul_nonneg (show 0≤A+a by omega) (show 0≤B+b by omega)
 simp only[Int.mul_add,Int.add_mul,Int.sub_mul,Int.mul_sub] at h1 h2 h3 h4
 omega
def clampZ (l n:Int):Int:=if n< -l then-l else if l<n then l else n
theorem clampZ_bd {l:Int} (n:Int) (h:0≤l): -l≤clampZ l n∧clampZ l n≤l:=by
 unfold clampZ;split
 · omega
 · split<;>omega
theorem clampZ_id {l n:Int} (h1: -l≤n) (h2:n≤l):clampZ l n=n:=by
 unfold clampZ;rw[if_neg (by omega),if_neg (by omega)]
def FM:Int:=1000000000
def fc (n:Int):Int:=clampZ 1000000000 n
theorem fc_bd (n:Int): -1000000000≤fc n∧fc n≤1000000000:=clampZ_bd n (by decide)
theorem fc_id {n:Int} (h1: -1000000000≤n) (h2:n≤1000000000):fc n=n:=clampZ_id h1 h2
theorem fc_fc (n:Int):fc (fc n)=fc n:=fc_id (fc_bd n).1 (fc_bd n).2
def fmul (a b:Int):Int:=fc ((fc a*fc b).tdiv 256)
def fdiv (a b:Int):Int:=if fc b=0 then fc (fc a*1000000000) else fc ((fc a*256).tdiv (fc b))
def IsRoot (n r:Int):Prop:=0≤r∧r*r≤n∧n<(r+1)*(r+1)
theorem sq_mono {a b:Int} (h0:0≤a) (h:a≤b):a*a≤b*b:=Int.mul_le_mul h h h0 (by omega)
theorem IsRoot.uniq {n r s:Int} (h:IsRoot n r) (k:IsRoot n s):r=s:=by
 obtain⟨a0,a1,a2⟩:=h
 obtain⟨b0,b1,b2⟩:=k
 rcases Int.lt_trichotomy r s with h|h|h
 · have:=sq_mono (show 0≤r+1 by omega) (show r+1≤s by omega);omega
 · exact h
 · have:=sq_mono (show 0≤s+1 by omega) (show s+1≤r by omega);omega
def rootN:Nat→Nat
 |0=>0
 |n+1=>if (rootN n+1)*(rootN n+1)≤n+1 then rootN n+1 else rootN n
theorem rootN_is (n:Nat):rootN n*rootN n≤n∧n<(rootN n+1)*(rootN n+1):=by
 induction n with
 |zero=>simp[rootN]
 | succ n ih=>
   obtain⟨h1,h2⟩:=ih
   unfold rootN
   split
   · refine⟨by assumption,?_⟩
     simp only[Nat.mul_add,Nat.add_mul] at*
     omega
   · exact⟨by omega,by omega⟩
def rootZ (n:Int):Int:=if n<0 then 0 else (rootN n.toNat:Int)
theorem rootZ_neg {n:Int} (h:n<0):rootZ n=0:=by unfold rootZ;rw[if_pos h]
theorem rootZ_is {n:Int} (h:0≤n):IsRoot n (rootZ n):=by
 have e:rootZ n=(rootN n.toNat:Int):=by unfold rootZ;rw[if_neg (by omega)]
 obtain⟨h1,h2⟩:=rootN_is n.toNat
 have k1:((rootN n.toNat*rootN n.toNat:Nat):Int)≤(n.toNat:Int):=by exact_mod_cast h1
 have k2:(n.toNat:Int)<(((rootN n.toNat+1)*(rootN n.toNat+1):Nat):Int):=by exact_mod_cast h2
 rw[Int.natCast_mul] at k1 k2
 rw[Int.natCast_add,Int.toNat_of_nonneg h] at k2
 rw[Int.toNat_of_nonneg h] at k1
 rw[e]
 exact⟨Int.natCast_nonneg _,k1,k2⟩
theorem rootZ_of {n r:Int} (h:IsRoot n r):rootZ n=r:=by
 have h0:0≤n:=by obtain⟨a,b,_⟩:=h;have:=Int.mul_nonneg a a;omega
 exact IsRoot.uniq (rootZ_is h0) h
theorem rootZ_nonneg (n:Int):0≤rootZ n:=by
 by_cases h:n<0
 · rw[rootZ_neg h];omega
 · exact(rootZ_is (by omega)).1
theorem rootZ_le {n B:Int} (hB:0≤B) (h:n<(B+1)*(B+1)):rootZ n≤B:=by
 by_cases h0:n<0
 · rw[rootZ_neg h0];exact hB
 · obtain⟨a,b,c⟩:=rootZ_is (show 0≤n by omega)
   rcases Int.lt_or_le B (rootZ n) with k|k
   · have:=sq_mono (show 0≤B+1 by omega) (show B+1≤rootZ n by omega);omega
   · exact k
theorem tdiv_bd {x B:Int} (m:Int) (h: -B≤x∧x≤B): -B≤x.tdiv m∧x.tdiv m≤B:=by
 have:=Int.natAbs_tdiv_le_natAbs x m;omega
def absZ (n:Int):Int:=if n<0 then-n else n
def fsqrt (n:Int):Int:=rootZ (fc n*256)
end Go.Proofs.YthajilkjfkppoaaGreatDoor
namespace Go.Proofs.YthajilkjfkppoaaGreatDoor
open Go.RowKit
set_option linter.unusedVariables false
theorem ret_int {k:IntKind} {a b:Int} (h:a=b):Ending.returned (.int k a)= .returned (.int k b):=by rw[h]
theorem ret_bool {a b:Bool} (h:a=b):Ending.returned (.bool a)= .returned (.bool b):=by rw[h]
theorem w64 {n:Int} (h: -9223372036854775808≤n∧n≤9223372036854775807):wrap64 n=n:=by unfold wrap64;omega
theorem cset_same {w:World} {a:Addr} {u v:Value} (h:w.cell? a=some u):(w.setCell a v).cell? a=some v:=World.cell?_setCell_same _ _ _ h
theorem cset_far {w:World} {p a:Addr} {v:Value} (h:a.block≠p.block):(w.setCell p v).cell? a=w.cell? a:=World.cell?_of_block (Below.heap_setCell _ _ _ _ h)
theorem cset_other {w:World} {p a:Addr} {v:Value} (h:p≠a):(w.setCell p v).cell? a=w.cell? a:=World.cell?_setCell_other _ _ _ _ h
theorem calloc_old {w:World} {a:Addr} {o:Obj} (h:a.block<w.heap.size):(w.alloc o).cell? a=w.cell? a:=World.cell?_of_block (Below.heap_alloc _ _ _ h)
theorem fset_far {w:World} {p a:Addr} {v:Value} (h:a.block≠p.block):(w.setCell p v).frozen? a=w.frozen? a:=World.frozen?_of_block (Below.heap_setCell _ _ _ _ h)
theorem cell_lt {w:World} {a:Addr} {v:Value} (h:w.cell? a=some v):a.block<w.heap.size:=by
 rcases Nat.lt_or_ge a.block w.heap.size with k|k
 · exact k
 · simp[World.cell?,Array.getElem?_eq_none k] at h
structure But (rb:Nat) (w w':World):Prop where
 os:w'.os=w.os
 tape:w'.tape=w.tape
 output:w'.output=w.output
 size:w.heap.size≤w'.heap.size
 block:∀ k,k<w.heap.size→k≠rb→w'.heap[k]? =w.heap[k]?
theorem But.refl (rb:Nat) (w:World):But rb w w:=⟨rfl,rfl,rfl,Nat.le_refl _,fun _ _ _=>rfl⟩
theorem But.trans {rb:Nat} {a b c:World} (h:But rb a b) (k:But rb b c):But rb a c:=
 ⟨k.os.trans h.os,k.tape.trans h.tape,k.output.trans h.output,Nat.le_trans h.size k.size,fun i hi hn=>(k.block i (Nat.lt_of_lt_of_le hi h.size) hn).trans (h.block i hi hn)⟩
theorem But.of_below {rb:Nat} {w w':World} (h:Below w.heap.size w w'):But rb w w':=⟨h.os,h.tape,h.output,h.size,fun k hk _=>h.block k hk⟩
theorem But.below {rb B:Nat} {w w':World} (h:But rb w w') (hB:B≤rb) (hB':B≤w.heap.size):Below B w w':=⟨h.os,h.tape,h.output,h.size,fun k hk=>h.block k (by omega) (by omega)⟩
theorem But.alloc {rb:Nat} {a w:World} (h:But rb a w) (o:Obj):But rb a (w.alloc o):=
 h.trans ⟨rfl,rfl,rfl,by simp,fun k hk _=>Below.heap_alloc _ _ _ hk⟩
theorem But.setCell {rb:Nat} {a w:World} (h:But rb a w) {p:Addr} (hp:p.block=rb) (u:Value):But rb a (w.setCell p u):=
 h.trans ⟨rfl,rfl,rfl,by simp[World.setCell],fun k _ hn=>Below.heap_setCell _ _ _ _ (by omega)⟩
theorem But.drewN {rb:Nat} {a w:World} (h:But rb a w) (n:Nat):But rb a (w.drewN n):=⟨h.os,h.tape,h.output,h.size,h.block⟩
theorem But.cell {rb:Nat} {w w':World} (h:But rb w w') {p:Addr} (hp:p.block<w.heap.size) (hn:p.block≠rb):w'.cell? p=w.cell? p:=World.cell?_of_block (w:=w) (h.block p.block hp hn)
theorem But.frozen {rb:Nat} {w w':World} (h:But rb w w') {p:Addr} (hp:p.block<w.heap.size) (hn:p.block≠rb):w'.frozen? p=w.frozen? p:=World.frozen?_of_block (w:=w) (h.block p.block hp hn)
theorem xor_nonneg {x y:Int} (h0:0≤x) (h1:x<4611686018427387904) (k0:0≤y) (k1:y<4611686018427387904):0≤bits .xor .i64 x y:=by
 obtain⟨a,rfl⟩:=Int.eq_ofNat_of_zero_le h0
 obtain⟨b,rfl⟩:=Int.eq_ofNat_of_zero_le k0
 have hx:a^^^b<2^62:=Nat.xor_lt_two_pow (by omega) (by omega)
 have e1:(BitVec.ofInt 64 (a:Int)).toNat=a:=by
  rw[BitVec.ofInt_natCast,BitVec.toNat_ofNat];exact Nat.mod_eq_of_lt (by omega)
 have e2:(BitVec.ofInt 64 (b:Int)).toNat=b:=by
  rw[BitVec.ofInt_natCast,BitVec.toNat_ofNat];exact Nat.mod_eq_of_lt (by omega)
 show 0≤IntKind.i64.wrap ((BitVec.ofInt 64 (a:Int)^^^BitVec.ofInt 64 (b:Int)).toNat:Int)
 rw[BitVec.toNat_xor,e1,e2]
 simp[IntKind.wrap,IntKind.bits,IntKind.signed]
 omega
section
variable {P:Program} {md:Region.Mode} {ops:Array Oper} {Q:Exit→Act→World→Prop} {S:World→Prop}
end
end Go.Proofs.YthajilkjfkppoaaGreatDoor
namespace Go.Proofs.YthajilkjfkppoaaGreatDoor
open Go.RowKit
set_option linter.unusedVariables false
set_option linter.unusedSimpArgs false
def Flat (w:World) (a:Option Addr) (m:Nat) (U:Nat→Int):Prop:=
 0<m→∃ b o,a=some ⟨b,o,none⟩∧b<w.heap.size∧∀ q,q<m→w.cell? ⟨b,o+q,none⟩=some (.int .i64 (U q))
theorem Flat.below {w w':World} {a:Option Addr} {m:Nat} {U:Nat→Int} (h:Flat w a m U) (hb:Below w.heap.size w w'):Flat w' a m U:=by
 intro h0
 obtain⟨b,o,e,l,c⟩:=h h0
 exact⟨b,o,e,Nat.lt_of_lt_of_le l hb.size,fun q hq=>(hb.cell (p:=⟨b,o+q,none⟩) l).trans (c q hq)⟩
theorem Flat.nil {w:World} {a:Option Addr} {U:Nat→Int}:Flat w a 0 U:=fun h=>absurd h (Nat.lt_irrefl 0)
def Row (w:World) (b:Nat) (t:TypeId) (m:Nat) (U:Nat→Int):Prop:=w.rowIs b t m (fun q=> .int .i64 (U q))
theorem Row.flat {w:World} {b t m:Nat} {U:Nat→Int} (h:Row w b t m U):Flat w (some ⟨b,0,none⟩) m U:=by
 intro _
 exact⟨b,0,rfl,World.rowIs.lt h,fun q hq=>by rw[Nat.zero_add];exact World.rowIs.cell h hq⟩
theorem Row.cell {w:World} {b t m:Nat} {U:Nat→Int} (h:Row w b t m U) {q:Nat} (hq:q<m):w.cell? ⟨b,q,none⟩=some (.int .i64 (U q)):=World.rowIs.cell h hq
theorem Row.fro {w:World} {b t m:Nat} {U:Nat→Int} (h:Row w b t m U) (q:Nat):w.frozen? ⟨b,q,none⟩=false:=World.rowIs.frozen h q
theorem Row.lt {w:World} {b t m:Nat} {U:Nat→Int} (h:Row w b t m U):b<w.heap.size:=World.rowIs.lt h
theorem Row.congr {w:World} {b t m:Nat} {U V:Nat→Int} (h:Row w b t m U) (e:∀ q,q<m→U q=V q):Row w b t m V:=World.rowIs.congr h fun q hq=>by simp only[e q hq]
theorem Row.below {w w':World} {b t m:Nat} {U:Nat→Int} (h:Row w b t m U) (hb:Below w.heap.size w w'):Row w' b t m U:=World.rowIs.of_block h (hb.block _ h.lt)
theorem Row.set {w:World} {b t m:Nat} {U:Nat→Int} (h:Row w b t m U) (i:Nat) (v:Int):Row (w.setCell ⟨b,i,none⟩ (.int .i64 v)) b t m (fun q=>if q=i then v else U q):=
 World.rowIs.congr (World.rowIs.set h i (.int .i64 v)) fun q _=>by by_cases e:q=i<;>simp[e]
theorem Row.setO {w:World} {b t m:Nat} {U:Nat→Int} (h:Row w b t m U) {a:Addr} (ha:b≠a.block) (v:Value):Row (w.setCell a v) b t m U:=World.rowIs.setOther h ha v
theorem Row.alloc {w:World} {b t m:Nat} {U:Nat→Int} (h:Row w b t m U) (o:Obj):Row (w.alloc o) b t m U:=World.rowIs.alloc h o
theorem Row.drew {w:World} {b t m:Nat} {U:Nat→Int} (h:Row w b t m U):Row w.drew b t m U:=h
theorem Row.made (w:World) (z:Array Value) (m:Nat) (t:TypeId) (hz:∀ q,q<z.size→z[q]? =some (.int .i64 0)) (h0:0<z.size):Row (w.alloc (.cells (madeCells z m) t)) w.heap.size t m (fun _=>0):=by
 refine⟨_,Go.Deep.blk_alloc_new _ _,size_madeCells _ _,fun i hi=> ?_⟩
 have hlt:i % z.size<z.size:=Nat.mod_lt _ h0
 have h:=hz _ hlt
 rw[Array.getElem?_eq_getElem hlt] at h
 simp only[Option.some.injEq] at h
 simp[madeCells,hi,hlt,h]
theorem make_rows {P:Program} (t e:TypeId) (z:Value) (k bytes:Nat) (ht:P.underlying t=some (.slice e)) (hinfo:(P.info? e).map (fun i=>(i.zero,i.size,i.bytes))=some (some z,k,bytes))
 (kl kc:IntKind) (n:Nat) (hbytes:bytes*n≤281474976710656) (h63:n≤9223372036854775807) (w:World):
 (Instr.makeSlice t (.int kl (n:Int)) (.int kc (n:Int))).run P w= .ok (.slice (some ⟨w.heap.size,0,none⟩) n n) (w.alloc (.cells (madeCells z.cells (n*k)) e)):=by
 obtain⟨i,hi,hzz⟩:=Option.map_eq_some_iff.1 hinfo
 simp only[Prod.mk.injEq] at hzz
 obtain⟨hz,hs,hb⟩:=hzz
 have hb':(i.bytes:Int)*(n:Int)≤281474976710656:=by
  have h:((i.bytes*n:Nat):Int)≤281474976710656:=by rw[hb];omega
  rwa [Int.natCast_mul] at h
 have hr:=run_make (P:=P) w t e i z ht hi hz kl kc n n (by omega) (Int.le_refl _) hb' (by omega)
 simp only[Int.toNat_natCast,hs] at hr
 exact hr
abbrev upto (p:Nat) (U:Nat→Int):Nat→Int:=fun q=>if q<p then U q else 0
theorem Row.next {w:World} {b t m p:Nat} {U:Nat→Int} (h:Row w b t m (upto p U)):Row (w.setCell ⟨b,p,none⟩ (.int .i64 (U p))) b t m (upto (p+1) U):=
 (h.set p (U p)).congr fun q _=>by
   by_cases e:q=p
   · subst e;simp[upto]
   · simp only[upto,if_neg e]
     by_cases l:q<p
     · rw[if_pos l,if_pos (by omega)]
     · rw[if_neg l,if_neg (by omega)]
theorem Row.zero {w:World} {b t m:Nat} {U:Nat→Int} (h:Row w b t m (fun _=>0)):Row w b t m (upto 0 U):=h.congr fun q hq=>by simp[upto]
end Go.Proofs.YthajilkjfkppoaaGreatDoor
namespace Go.Proofs.YthajilkjfkppoaaGreatDoor
open Go.RowKit
set_option linter.unusedVariables false
set_option linter.unusedSimpArgs false
def numL (m:Nat) (U:Nat→Int):List Value:=(List.range m).map fun q=>Value.int .i64 (U q)
theorem numL_len (m:Nat) (U:Nat→Int):(numL m U).length=m:=by simp[numL]
theorem numL_get {m:Nat} {U:Nat→Int} {q:Nat} (h:q<m):(numL m U)[q]? =some (.int .i64 (U q)):=by simp[numL,h]
def cat (p:Nat) (U X:Nat→Int):Nat→Int:=fun q=>if q<p then U q else X (q-p)
theorem numL_cat (p r:Nat) (U X:Nat→Int):numL p U++numL r X=numL (p+r) (cat p U X):=by
 apply List.ext_getElem?
 intro q
 by_cases h:q<p
 · rw[List.getElem?_append_left (by rw[numL_len];exact h),numL_get h,numL_get (by omega)];simp[cat,h]
 · rw[List.getElem?_append_right (by rw[numL_len];omega),numL_len]
   by_cases h2:q<p+r
   · rw[numL_get (by omega),numL_get h2];simp[cat,h]
   · rw[List.getElem?_eq_none (by rw[numL_len];omega),List.getElem?_eq_none (by rw[numL_len];omega)]
def OwnL (w:World) (base t k:Nat) (v:Value) (n:Nat) (U:Nat→Int):Prop:=w.ownsRow base t k v n (numL (n*k) U)
theorem OwnL.nil (w:World) (base t k:Nat) (U:Nat→Int):OwnL w base t k (.slice none 0 0) 0 U:=by
 unfold OwnL;rw[Nat.zero_mul];exact World.ownsRow_nil w base t k
theorem OwnL.flat {w:World} {base t k n:Nat} {a:Option Addr} {c:Nat} {U:Nat→Int} (h:OwnL w base t k (.slice a n c) n U):Flat w a (n*k) U:=by
 intro h0
 rcases h.2 with⟨hv,hn⟩|⟨g,cap,cur,hv,hb,hg,hle,hm,hs,ht⟩
 · subst hn;omega
 · simp only[Value.slice.injEq] at hv
   obtain⟨rfl,_,rfl⟩:=hv
   have hlt:g<w.heap.size:=(Array.getElem?_eq_some_iff.1 hg).1
   refine⟨g,0,rfl,hlt,fun q hq=> ?_⟩
   have:=World.ownsRow.cells h (g:=g) rfl q _ (numL_get hq)
   rw[Addr.add_lit] at this
   exact this
theorem OwnL.congr {w:World} {base t k n:Nat} {v:Value} {U V:Nat→Int} (h:OwnL w base t k v n U) (e:∀ q,q<n*k→U q=V q):OwnL w base t k v n V:=by
 unfold OwnL at*
 rw[show numL (n*k) V=numL (n*k) U from List.map_congr_left fun q hq=>by rw[e q (List.mem_range.1 hq)]]
 exact h
theorem OwnL.kept {w w':World} {base t k n:Nat} {v:Value} {U:Nat→Int} {row:Option Nat} (h:OwnL w base t k v n U) (hg:w.grownBy w' row) (hne:v.ownBlock=none∨v.ownBlock≠row):OwnL w' base t k v n U:=World.ownsRow.kept h hg hne
theorem below_grown {B:Nat} {w w':World} (h:Below B w w'):B=w.heap.size→w.grownBy w' none:=fun e=>⟨h.os,h.tape,h.output,h.size,fun k hk _=>h.block k (e▸hk)⟩
theorem OwnL.below {w w':World} {base t k n:Nat} {v:Value} {U:Nat→Int} (h:OwnL w base t k v n U) (hb:Below w.heap.size w w'):OwnL w' base t k v n U:=by
 have hg:=below_grown hb rfl
 cases e:v.ownBlock with
 |none=>exact World.ownsRow.kept h hg (.inl e)
 |some b=>exact World.ownsRow.kept h hg (.inr (by rw[e];simp))
theorem OwnL.lt {w:World} {base t k n:Nat} {v:Value} {U:Nat→Int} (h:OwnL w base t k v n U):∀ b,v.ownBlock=some b→base≤b∧b<w.heap.size:=World.ownsRow.lt h
theorem OwnL.is {w:World} {base t k n:Nat} {v:Value} {U:Nat→Int} (h:OwnL w base t k v n U):∃ a c,v= .slice a n c:=by
 rcases h.2 with⟨hv,hn⟩|⟨g,cap,cur,hv,_⟩
 · exact⟨none,0,by rw[hv,hn]⟩
 · exact⟨_,_,hv⟩
theorem OwnL.le {w:World} {base t k n:Nat} {a:Option Addr} {c:Nat} {U:Nat→Int} (h:OwnL w base t k (.slice a n c) n U):n≤c:=by
 rcases h.2 with⟨hv,hn⟩|⟨g,cap,cur,hv,_,_,hle,_⟩
 · simp only[Value.slice.injEq] at hv;omega
 · simp only[Value.slice.injEq] at hv;omega
theorem Row.own {w:World} {b t n k base:Nat} {U:Nat→Int} (h:Row w b t (n*k) U) (hb:base≤b) (hn:n≤maxLen):OwnL w base t k (.slice (some ⟨b,0,none⟩) n n) n U:=by
 obtain⟨c,hc,hs,hv⟩:=h
 refine⟨by rw[numL_len],.inr ⟨b,n,c,rfl,hb,hc,Nat.le_refl _,hn,hs,?_⟩⟩
 apply List.ext_getElem?
 intro q
 by_cases hq:q<n*k
 · rw[List.getElem?_take,if_pos hq,numL_get hq,←hv q hq];simp
 · rw[List.getElem?_eq_none (by simp;omega),List.getElem?_eq_none (by rw[numL_len];omega)]
theorem OwnL.base {w:World} {base t k n:Nat} {v:Value} {U:Nat→Int} {B:Nat} (h:OwnL w base t k v n U) (hB:B≤base):OwnL w B t k v n U:=by
 refine⟨h.1,?_⟩
 rcases h.2 with q|⟨g,cap,cur,hv,hb,rest⟩
 · exact .inl q
 · exact .inr ⟨g,cap,cur,hv,by omega,rest⟩
theorem run_app {P:Program} (base t ty e k bytes:Nat) (z:Value) (ht:P.underlying t=some (.slice e)) (hinfo:(P.info? e).map (fun i=>(i.zero,i.size,i.bytes))=some (some z,k,bytes)) (hzs:z.cells.size=k) (hk:0<k)
 (w:World) (v:Value) (n:Nat) (U:Nat→Int) (h:OwnL w base e k v n U) (a:Option Addr) (m c:Nat) (X:Nat→Int) (hx:Flat w a (m*k) X)
 (h63:n+m≤maxLen) (hbytes:(n+m)*bytes≤140737488355328) (hbase:base≤w.heap.size):
 ∃ a' c' w',(Builtin.append_ #[t,t] ty #[v,.slice a m c]).run P w= .ok (.slice a' (n+m) c') w'∧OwnL w' base e k (.slice a' (n+m) c') (n+m) (cat (n*k) U X)∧w.grownBy w' v.ownBlock:=by
 obtain⟨i,hi,hzz⟩:=Option.map_eq_some_iff.1 hinfo
 simp only[Prod.mk.injEq] at hzz
 obtain⟨hz,hs,hb⟩:=hzz
 by_cases h0:m=0
 · subst h0
   obtain⟨a0,c0,rfl⟩:=h.is
   have hle:=h.le
   have hnone:Src P i.size t (.slice a 0 c) 0 [] w:=by
    cases a with
    |none=>exact Src.ofNil w ht c
    |some ad=>exact Src.ofSlice w ht ad 0 c [] (by simp) (fun j u hu=>by simp at hu) (fun _ hu=>by cases hu)
   refine⟨a0,c0,w,run_append_nothing w t t ty e i ht hi a0 n c0 hle _ hnone,h.congr fun q hq=>by simp[cat,hq],?_⟩
   exact⟨rfl,rfl,rfl,Nat.le_refl _,fun _ _ _=>rfl⟩
 · obtain⟨b,o,rfl,hbl,hc⟩:=hx (Nat.mul_pos (by omega) hk)
   obtain⟨g,cap,w',hr,h2,h3,_⟩:=run_append_lies (P:=P) w t ty base e i z k bytes ht hi hz hs hb hzs hk v n (numL (n*k) U) h ⟨b,o,none⟩ m c (numL (m*k) X) (numL_len _ _)
    (fun j u hu=>by
      have hj:j<m*k:=by have:=(List.getElem?_eq_some_iff.1 hu).1;rwa [numL_len] at this
      rw[numL_get hj] at hu
      rw[Addr.add_lit,hc j hj];exact hu)
    (fun u hu=>by obtain⟨q,_,rfl⟩:=List.mem_map.1 hu;rfl) (by omega) h63 hbytes hbase _ rfl
   refine⟨_,_,w',hr,?_,h3⟩
   unfold OwnL
   rw[Nat.add_mul,←numL_cat]
   exact h2
section
variable {P:Program} {ops:Array Oper} {o:Oper} {a:Act} {Q:Exit→Act→World→Prop} {w:World}
theorem wp_app {K:Act→World→Prop} (s x:Operand) (t:TypeId) (ho:o.op= .call {callee:= .builtin .append,args:= #[s,x],argTypes:= #[t,t]})
 (base e k bytes:Nat) (z:Value) (ht:P.underlying t=some (.slice e)) (hinfo:(P.info? e).map (fun i=>(i.zero,i.size,i.bytes))=some (some z,k,bytes)) (hzs:z.cells.size=k) (hk:0<k)
 (v:Value) (n:Nat) (U:Nat→Int) (hs:a.eval s=v) (h:OwnL w base e k v n U) (ad:Option Addr) (m c:Nat) (X:Nat→Int) (hxx:a.eval x= .slice ad m c) (hx:Flat w ad (m*k) X)
 (h63:n+m≤maxLen) (hbytes:(n+m)*bytes≤140737488355328) (hbase:base≤w.heap.size)
 (hK:∀ a' c' w',OwnL w' base e k (.slice a' (n+m) c') (n+m) (cat (n*k) U X)→w.grownBy w' v.ownBlock→K (a.put o.dst (.slice a' (n+m) c')) w'):o.wp P a w K Q:=by
 obtain⟨a',c',w',hr,h2,h3⟩:=run_app (P:=P) base t o.type e k bytes z ht hinfo hzs hk w v n U h ad m c X hx h63 hbytes hbase
 unfold Oper.wp execOp
 simp only[ho,resolve,invoke,builtin,Sem.run_bind,Sem.run_pure,Result.andThen_ok,List.map_toArray,List.map_cons,List.map_nil,hs,hxx,hr]
 exact hK _ _ _ h2 h3
theorem wpList_app {rest:List Oper} (hgd:o.guard=none) (s x:Operand) (t:TypeId) (ho:o.op= .call {callee:= .builtin .append,args:= #[s,x],argTypes:= #[t,t]})
 (base e k bytes:Nat) (z:Value) (ht:P.underlying t=some (.slice e)) (hinfo:(P.info? e).map (fun i=>(i.zero,i.size,i.bytes))=some (some z,k,bytes)) (hzs:z.cells.size=k) (hk:0<k)
 (v:Value) (n:Nat) (U:Nat→Int) (hs:a.eval s=v) (h:OwnL w base e k v n U) (ad:Option Addr) (m c:Nat) (X:Nat→Int) (hxx:a.eval x= .slice ad m c) (hx:Flat w ad (m*k) X)
 (h63:n+m≤maxLen) (hbytes:(n+m)*bytes≤140737488355328) (hbase:base≤w.heap.size)
 (hK:∀ a' c' w',OwnL w' base e k (.slice a' (n+m) c') (n+m) (cat (n*k) U X)→w.grownBy w' v.ownBlock→wpList P ops Q rest (a.put o.dst (.slice a' (n+m) c')) w'):wpList P ops Q (o::rest) a w:=
 wpList_plain hgd fun _ hK'=>wp_app s x t ho base e k bytes z ht hinfo hzs hk v n U hs h ad m c X hxx hx h63 hbytes hbase fun a' c' w' h2 h3=>hK' _ _ (hK a' c' w' h2 h3)
end
end Go.Proofs.YthajilkjfkppoaaGreatDoor
