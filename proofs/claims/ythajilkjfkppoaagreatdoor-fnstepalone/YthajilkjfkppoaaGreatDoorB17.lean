/- Texts of a proof. -/
import Derived.Test.YthajilkjfkppoaaGreatDoorB13
import Derived.OrdersHeld
import Derived.Deep.RegionHeld3
import Derived.Deep.DeepCutAuto
import Derived.Deep.AppendLies
import Derived.Test.YthajilkjfkppoaaGreatDoorB16
import Derived.Test.YthajilkjfkppoaaGreatDoorB10
set_option maxHeartbeats 16000000
set_option maxRecDepth 20000
namespace Go.Proofs.YthajilkjfkppoaaGreatDoor
open Go.RowKit
set_option linter.unusedVariables false
set_option linter.unusedSimpArgs false
def Al (w0 w:World) (ab n:Nat) (V:Nat→Int):Prop:=w0.heap.size≤ab∧ab<w.heap.size∧(∀ i,i<n→w.cell? ⟨ab,i,none⟩=some (.int .i64 (V i)))∧∀ i,i<n→w.frozen? ⟨ab,i,none⟩=false
theorem Al.up {rb:Nat} {w0 w w':World} {ab n:Nat} {V:Nat→Int} (h:Al w0 w ab n V) (hrb:rb<w0.heap.size) (k:But rb w w'):Al w0 w' ab n V:=by
 obtain⟨h1,h2,h3,h4⟩:=h
 exact⟨h1,Nat.lt_of_lt_of_le h2 k.size,fun i hi=>(k.cell (p:=⟨ab,i,none⟩) h2 (by simp only[ne_eq];omega)).trans (h3 i hi),fun i hi=>(k.frozen (p:=⟨ab,i,none⟩) h2 (by simp only[ne_eq];omega)).trans (h4 i hi)⟩
theorem Al.set {w0 w:World} {ab n:Nat} {V:Nat→Int} (h:Al w0 w ab n V) (k:Nat) (hk:k<n) (v:Int):Al w0 (w.setCell ⟨ab,k,none⟩ (.int .i64 v)) ab n (fun j=>if j=k then v else V j):=by
 obtain⟨h1,h2,h3,h4⟩:=h
 refine⟨h1,by simpa [World.setCell] using h2,fun i hi=> ?_,fun i hi=> ?_⟩
 · by_cases e:i=k
   · subst e;rw[cset_map,h3 i hi];simp
   · rw[cset_other (by intro q;injection q with q1 q2;exact e q2.symm),h3 i hi];simp[e]
 · rw[World.frozen?_setCell];exact h4 i hi
theorem but_alloc (rb:Nat) (w:World) (o:Obj):But rb w (w.alloc o):=(But.refl rb w).alloc o
theorem Al.new {w0 w:World} {cs:Array Value} {t:TypeId} {n:Nat} {V:Nat→Int} (hsz:w0.heap.size≤w.heap.size) (hc:∀ i,i<n→cs[i]? =some (.int .i64 (V i))):Al w0 (w.alloc (.cells cs t)) w.heap.size n V:=
 ⟨hsz,by simp,fun i hi=>by rw[World.cell?_alloc_new];exact hc i hi,fun i hi=>by go_simp⟩
theorem Al.congr {w0 w:World} {ab n:Nat} {V U:Nat→Int} (h:Al w0 w ab n V) (k:∀ i,i<n→V i=U i):Al w0 w ab n U:=
 ⟨h.1,h.2.1,fun i hi=>by rw[h.2.2.1 i hi,k i hi],h.2.2.2⟩
end Go.Proofs.YthajilkjfkppoaaGreatDoor
namespace Go.Proofs.YthajilkjfkppoaaGreatDoor
open Go.RowKit
set_option linter.unusedVariables false
set_option linter.unusedSimpArgs false
section
variable {P:Program} {ops:Array Oper} {Q:Exit→Act→World→Prop} {md:Region.Mode}
end
def Li (w0 w:World) (lb len:Nat) (xs:List Int):Prop:=w0.heap.size≤lb∧lb<w.heap.size∧∀ i,i<len→w.cell? ⟨lb,i,none⟩=some (.int .i64 (xs.getD i 0))
theorem Li.up {rb:Nat} {w0 w w':World} {lb len:Nat} {xs:List Int} (h:Li w0 w lb len xs) (hrb:rb<w0.heap.size) (k:But rb w w'):Li w0 w' lb len xs:=by
 obtain⟨h1,h2,h3⟩:=h
 exact⟨h1,Nat.lt_of_lt_of_le h2 k.size,fun i hi=>(k.cell (p:=⟨lb,i,none⟩) h2 (by simp only[ne_eq];omega)).trans (h3 i hi)⟩
abbrev VI (lo hi:Int) (x:Value):Prop:=∃ n,x= .int .i64 n∧lo≤n∧n≤hi
abbrev VP (rb:Nat) (x:Value):Prop:=x= .pointer (some ⟨rb,0,none⟩)
abbrev VN (n:Int) (x:Value):Prop:=x= .int .i64 n
abbrev VV (lo hi:Int) (x:Value):Prop:=∃ a b,x=vv a b∧(lo≤a∧a≤hi)∧lo≤b∧b≤hi
abbrev VS (lo hi:Int) (x:Value):Prop:=∃ a b c,x=s3 a b c∧(lo≤a∧a≤hi)∧(lo≤b∧b≤hi)∧lo≤c∧c≤hi
def VL (w0 w:World) (c:Bool) (len:Nat) (xs:List Int) (x:Value):Prop:=∃ lb,x= .slice (some ⟨lb,0,none⟩) len len∧(c=false→Li w0 w lb len xs)
def VA (w0 w:World) (c:Bool) (n:Nat) (V:Nat→Int) (x:Value):Prop:=∃ ab,x= .pointer (some ⟨ab,0,none⟩)∧(c=false→Al w0 w ab n V)
theorem VL.up {rb:Nat} {w0 w w':World} {c:Bool} {len:Nat} {xs:List Int} {x:Value} (h:VL w0 w c len xs x) (hrb:rb<w0.heap.size) (k:But rb w w'):VL w0 w' c len xs x:=by
 obtain⟨lb,e,h⟩:=h;exact⟨lb,e,fun q=>(h q).up hrb k⟩
theorem VA.up {rb:Nat} {w0 w w':World} {c:Bool} {n:Nat} {V:Nat→Int} {x:Value} (h:VA w0 w c n V x) (hrb:rb<w0.heap.size) (k:But rb w w'):VA w0 w' c n V x:=by
 obtain⟨lb,e,h⟩:=h;exact⟨lb,e,fun q=>(h q).up hrb k⟩
theorem Li.new {w0 w:World} {cs:Array Value} {t:TypeId} {len:Nat} {xs:List Int} (hsz:w0.heap.size≤w.heap.size) (hc:∀ i,i<len→cs[i]? =some (.int .i64 (xs.getD i 0))):Li w0 (w.alloc (.cells cs t)) w.heap.size len xs:=
 ⟨hsz,by simp,fun i hi=>by rw[World.cell?_alloc_new];exact hc i hi⟩
end Go.Proofs.YthajilkjfkppoaaGreatDoor
namespace Go.Proofs.YthajilkjfkppoaaGreatDoor
open Go.RowKit
set_option linter.unusedVariables false
set_option linter.unusedSimpArgs false
theorem balloc (w:World) (o:Obj):Below w.heap.size w (w.alloc o):=(Below.refl _ _).alloc (Nat.le_refl _) o
theorem Al.bl {w0 w w':World} {ab n B:Nat} {V:Nat→Int} (h:Al w0 w ab n V) (k:Below B w w') (hB:ab<B):Al w0 w' ab n V:=by
 obtain⟨h1,h2,h3,h4⟩:=h
 exact⟨h1,Nat.lt_of_lt_of_le h2 k.size,fun i hi=>(k.cell (p:=⟨ab,i,none⟩) hB).trans (h3 i hi),fun i hi=>(k.frozen (p:=⟨ab,i,none⟩) hB).trans (h4 i hi)⟩
theorem Al.ne {rb:Nat} {w0 w w':World} {ab n:Nat} {V:Nat→Int} (h:Al w0 w ab n V) (hne:ab≠rb) (k:But rb w w'):Al w0 w' ab n V:=by
 obtain⟨h1,h2,h3,h4⟩:=h
 exact⟨h1,Nat.lt_of_lt_of_le h2 k.size,fun i hi=>(k.cell (p:=⟨ab,i,none⟩) h2 hne).trans (h3 i hi),fun i hi=>(k.frozen (p:=⟨ab,i,none⟩) h2 hne).trans (h4 i hi)⟩
theorem Al.off {w0 w:World} {ab n b k:Nat} {V:Nat→Int} (h:Al w0 w ab n V) (hb:ab≠b) (v:Value):Al w0 (w.setCell ⟨b,k,none⟩ v) ab n V:=by
 obtain⟨h1,h2,h3,h4⟩:=h
 refine⟨h1,by simpa [World.setCell] using h2,fun i hi=> ?_,fun i hi=> ?_⟩
 · rw[cset_far (by simp;omega)];exact h3 i hi
 · rw[World.frozen?_setCell];exact h4 i hi
abbrev Bls:=List (Nat×Nat×(Nat→Int))
structure AL (w w':World) (L:Bls):Prop where
 bel:Below w.heap.size w w'
 al:∀ x∈L,Al w w' x.1 x.2.1 x.2.2
theorem AL.nil (w:World):AL w w []:=⟨Below.refl _ _,fun x hx=>by cases hx⟩
theorem AL.new {w w':World} {L:Bls} (h:AL w w' L) (b n:Nat) (V:Nat→Int) {cs:Array Value} {t:TypeId} (hb:b=w'.heap.size) (hc:∀ i,i<n→cs[i]? =some (.int .i64 (V i))):
 AL w (w'.alloc (.cells cs t)) ((b,n,V)::L):=by
 subst hb
 refine⟨h.bel.alloc h.bel.size _,fun x hx=> ?_⟩
 rcases List.mem_cons.mp hx with rfl|hx
 · exact Al.new h.bel.size hc
 · exact(h.al x hx).bl (balloc _ _) (h.al x hx).2.1
theorem AL.call {w w' w1:World} {L:Bls} (h:AL w w' L) (k:Below w'.heap.size w' w1):AL w w1 L:=
 ⟨h.bel.trans (k.mono h.bel.size),fun x hx=>(h.al x hx).bl k (h.al x hx).2.1⟩
theorem AL.get {w w':World} {L:Bls} (h:AL w w' L) {x:Nat×Nat×(Nat→Int)} (hx:x∈L):Al w w' x.1 x.2.1 x.2.2:=h.al x hx
theorem AL.sub {w w':World} {L M:Bls} (h:AL w w' L) (k:∀ x∈M,x∈L):AL w w' M:=⟨h.bel,fun x hx=>h.al x (k x hx)⟩
theorem AL.lt {w w':World} {L:Bls} (h:AL w w' L) {x:Nat×Nat×(Nat→Int)} (hx:x∈L):x.1<w'.heap.size:=(h.al x hx).2.1
theorem AL.drew {w w':World} {L:Bls} (h:AL w w' L):AL w w'.drew L:=⟨h.bel.drew,h.al⟩
theorem AL.set {w w':World} {b n:Nat} {V:Nat→Int} {L:Bls} (h:AL w w' ((b,n,V)::L)) (hne:∀ x∈L,x.1≠b) (k:Nat) (hk:k<n) (v:Int):
 AL w (w'.setCell ⟨b,k,none⟩ (.int .i64 v)) ((b,n,fun j=>if j=k then v else V j)::L):=by
 have hb:=h.al _ (List.mem_cons_self ..)
 have hlo:=hb.1
 dsimp only at hlo
 refine⟨h.bel.setCell (by simpa using hlo) _,fun x hx=> ?_⟩
 rcases List.mem_cons.mp hx with rfl|hx
 · exact hb.set k hk v
 · exact(h.al x (List.mem_cons_of_mem _ hx)).off (hne x hx) _
structure DL (w w':World) (rb p:Nat) (L:Bls):Prop where
 rs:RS w' rb p
 bel:Below w.heap.size w w'
 lo:w.heap.size≤rb
 al:∀ x∈L,Al w w' x.1 x.2.1 x.2.2∧x.1≠rb
theorem AL.opened {w w0 w1:World} {L:Bls} (h:AL w w0 L) (k:Below w0.heap.size w0 w1) (r:RS w1 w0.heap.size 0):DL w w1 w0.heap.size 0 L:=
 ⟨r,h.bel.trans (k.mono h.bel.size),h.bel.size,fun x hx=>⟨(h.al x hx).bl k (h.al x hx).2.1,by have:=(h.al x hx).2.1;omega⟩⟩
theorem DL.call {w w' w1:World} {rb p p1:Nat} {L:Bls} (h:DL w w' rb p L) (k:RB w' w1 rb p1):DL w w1 rb p1 L:=
 ⟨RS.of k,h.bel.trans (k.but.below h.lo h.bel.size),h.lo,fun x hx=>⟨(h.al x hx).1.ne (h.al x hx).2 k.but,(h.al x hx).2⟩⟩
theorem DL.mono {w w':World} {rb p p1:Nat} {L:Bls} (h:DL w w' rb p L) (k:p≤p1):DL w w' rb p1 L:=⟨h.rs.mono k,h.bel,h.lo,h.al⟩
theorem DL.drew {w w':World} {rb p:Nat} {L:Bls} (h:DL w w' rb p L):DL w w'.drew rb p L:=⟨h.rs.drew,h.bel.drew,h.lo,h.al⟩
theorem DL.new {w w':World} {rb p:Nat} {L:Bls} (h:DL w w' rb p L) (n:Nat) (V:Nat→Int) {cs:Array Value} {t:TypeId} (hc:∀ i,i<n→cs[i]? =some (.int .i64 (V i))):
 DL w (w'.alloc (.cells cs t)) rb p ((w'.heap.size,n,V)::L):=by
 refine⟨h.rs.alloc _,h.bel.alloc h.bel.size _,h.lo,fun x hx=> ?_⟩
 rcases List.mem_cons.mp hx with rfl|hx
 · exact⟨Al.new h.bel.size hc,by have:=h.rs.lt;dsimp only;omega⟩
 · exact⟨(h.al x hx).1.bl (balloc _ _) (h.al x hx).1.2.1,(h.al x hx).2⟩
theorem DL.alloc {w w':World} {rb p:Nat} {L:Bls} (h:DL w w' rb p L) (o:Obj):DL w (w'.alloc o) rb p L:=
 ⟨h.rs.alloc _,h.bel.alloc h.bel.size _,h.lo,fun x hx=>⟨(h.al x hx).1.bl (balloc _ _) (h.al x hx).1.2.1,(h.al x hx).2⟩⟩
theorem DL.sub {w w':World} {rb p:Nat} {L M:Bls} (h:DL w w' rb p L) (k:∀ x∈M,x∈L):DL w w' rb p M:=⟨h.rs,h.bel,h.lo,fun x hx=>h.al x (k x hx)⟩
theorem DL.get {w w':World} {rb p:Nat} {L:Bls} (h:DL w w' rb p L) {x:Nat×Nat×(Nat→Int)} (hx:x∈L):Al w w' x.1 x.2.1 x.2.2:=(h.al x hx).1
theorem DL.lt {w w':World} {rb p:Nat} {L:Bls} (h:DL w w' rb p L) {x:Nat×Nat×(Nat→Int)} (hx:x∈L):x.1<w'.heap.size:=(h.al x hx).1.2.1
theorem DL.headc {w w':World} {rb p b n:Nat} {V U:Nat→Int} {L:Bls} (h:DL w w' rb p ((b,n,V)::L)) (k:∀ i,i<n→V i=U i):DL w w' rb p ((b,n,U)::L):=by
 refine⟨h.rs,h.bel,h.lo,fun x hx=> ?_⟩
 rcases List.mem_cons.mp hx with rfl|hx
 · have q:=h.al _ (List.mem_cons_self ..)
   exact⟨q.1.congr k,q.2⟩
 · exact h.al x (List.mem_cons_of_mem _ hx)
theorem DL.set {w w':World} {rb p b n:Nat} {V:Nat→Int} {L:Bls} (h:DL w w' rb p ((b,n,V)::L)) (hr:rb<b) (hne:∀ x∈L,x.1≠b) (k:Nat) (hk:k<n) (v:Int):
 DL w (w'.setCell ⟨b,k,none⟩ (.int .i64 v)) rb p ((b,n,fun j=>if j=k then v else V j)::L):=by
 have hb:=(h.al _ (List.mem_cons_self ..)).1
 have hlo:=hb.1
 dsimp only at hlo
 refine⟨h.rs.setNew (by simpa using hr) _,h.bel.setCell (by simpa using hlo) _,h.lo,fun x hx=> ?_⟩
 rcases List.mem_cons.mp hx with rfl|hx
 · exact⟨hb.set k hk v,by dsimp only;omega⟩
 · exact⟨(h.al x (List.mem_cons_of_mem _ hx)).1.off (hne x hx) _,(h.al x (List.mem_cons_of_mem _ hx)).2⟩
structure BL (w w':World) (rb p:Nat) (L:Bls):Prop where
 rs:RS w' rb p
 but:But rb w w'
 lo:rb<w.heap.size
 al:∀ x∈L,Al w w' x.1 x.2.1 x.2.2
theorem BL.start {w:World} {rb p:Nat} (h:RS w rb p):BL w w rb p []:=⟨h,But.refl _ _,h.lt,fun x hx=>by cases hx⟩
theorem BL.call {w w' w1:World} {rb p p1:Nat} {L:Bls} (h:BL w w' rb p L) (k:RB w' w1 rb p1):BL w w1 rb p1 L:=
 ⟨RS.of k,h.but.trans k.but,h.lo,fun x hx=>(h.al x hx).up h.lo k.but⟩
theorem BL.calb {w w' w1:World} {rb p:Nat} {L:Bls} (h:BL w w' rb p L) (k:Below w'.heap.size w' w1):BL w w1 rb p L:=by
 obtain⟨q,a,b⟩:=h.rs
 exact h.call (RB.mk (But.of_below k) ⟨q,a,b.below k⟩)
theorem BL.mono {w w':World} {rb p p1:Nat} {L:Bls} (h:BL w w' rb p L) (k:p≤p1):BL w w' rb p1 L:=⟨h.rs.mono k,h.but,h.lo,h.al⟩
theorem BL.drew {w w':World} {rb p:Nat} {L:Bls} (h:BL w w' rb p L):BL w w'.drew rb p L:=⟨h.rs.drew,h.but.drew,h.lo,h.al⟩
theorem BL.new {w w':World} {rb p:Nat} {L:Bls} (h:BL w w' rb p L) (b n:Nat) (V:Nat→Int) {cs:Array Value} {t:TypeId} (hb:b=w'.heap.size) (hc:∀ i,i<n→cs[i]? =some (.int .i64 (V i))):
 BL w (w'.alloc (.cells cs t)) rb p ((b,n,V)::L):=by
 subst hb
 refine⟨h.rs.alloc _,h.but.alloc _,h.lo,fun x hx=> ?_⟩
 rcases List.mem_cons.mp hx with rfl|hx
 · exact Al.new h.but.size hc
 · exact(h.al x hx).bl (balloc _ _) (h.al x hx).2.1
theorem BL.alloc {w w':World} {rb p:Nat} {L:Bls} (h:BL w w' rb p L) (o:Obj):BL w (w'.alloc o) rb p L:=
 ⟨h.rs.alloc _,h.but.alloc _,h.lo,fun x hx=>(h.al x hx).bl (balloc _ _) (h.al x hx).2.1⟩
theorem BL.sub {w w':World} {rb p:Nat} {L M:Bls} (h:BL w w' rb p L) (k:∀ x∈M,x∈L):BL w w' rb p M:=⟨h.rs,h.but,h.lo,fun x hx=>h.al x (k x hx)⟩
theorem BL.get {w w':World} {rb p:Nat} {L:Bls} (h:BL w w' rb p L) {x:Nat×Nat×(Nat→Int)} (hx:x∈L):Al w w' x.1 x.2.1 x.2.2:=h.al x hx
theorem BL.lt {w w':World} {rb p:Nat} {L:Bls} (h:BL w w' rb p L) {x:Nat×Nat×(Nat→Int)} (hx:x∈L):x.1<w'.heap.size:=(h.al x hx).2.1
theorem BL.set {w w':World} {rb p b n:Nat} {V:Nat→Int} {L:Bls} (h:BL w w' rb p ((b,n,V)::L)) (hne:∀ x∈L,x.1≠b) (k:Nat) (hk:k<n) (v:Int):
 BL w (w'.setCell ⟨b,k,none⟩ (.int .i64 v)) rb p ((b,n,fun j=>if j=k then v else V j)::L):=by
 have hb:=h.al _ (List.mem_cons_self ..)
 have hlo:=hb.1
 dsimp only at hlo
 have h0:=h.lo
 refine⟨h.rs.setNew (by dsimp only;omega) _,h.but.setNew (by simpa using hlo) _,h.lo,fun x hx=> ?_⟩
 rcases List.mem_cons.mp hx with rfl|hx
 · exact hb.set k hk v
 · exact(h.al x (List.mem_cons_of_mem _ hx)).off (hne x hx) _
theorem BL.headc {w w':World} {rb p b n:Nat} {V U:Nat→Int} {L:Bls} (h:BL w w' rb p ((b,n,V)::L)) (k:∀ i,i<n→V i=U i):BL w w' rb p ((b,n,U)::L):=by
 refine⟨h.rs,h.but,h.lo,fun x hx=> ?_⟩
 rcases List.mem_cons.mp hx with rfl|hx
 · exact(h.al _ (List.mem_cons_self ..)).congr k
 · exact h.al x (List.mem_cons_of_mem _ hx)
theorem BL.done {w w':World} {rb p:Nat} {L:Bls} (h:BL w w' rb p L):RB w w' rb p:=RB.mk h.but h.rs
def mv7 (cb:Nat) (C:Nat→Int) (q:Nat):List Value:=[.int .i64 (C (q*5+2)),.int .i64 (C (q*5+3)),.int .i64 (C (q*5+4)),.int .i64 (C (q*5)),.pointer (some ⟨cb,0,none⟩),.int .i64 (C (q*5+1)),.pointer (some ⟨cb,0,none⟩)]
def mvs (cb:Nat) (C:Nat→Int):Nat→List Value
 |0=>[]
 |m+1=>mvs cb C m++mv7 cb C m
theorem mvs_len (cb:Nat) (C:Nat→Int):∀ m,(mvs cb C m).length=m*7
 |0=>rfl
 |m+1=>by rw[mvs,List.length_append,mvs_len cb C m];show m*7+7=_;omega
theorem mvs_get (cb:Nat) (C:Nat→Int):∀ (m q i:Nat),q<m→i<7→(mvs cb C m)[q*7+i]? =(mv7 cb C q)[i]?
 |0,q,i,h,_=>absurd h (Nat.not_lt_zero _)
 | m+1,q,i,h,hi=>by
   rw[mvs]
   by_cases e:q=m
   · subst e
     rw[List.getElem?_append_right (by rw[mvs_len];omega),mvs_len,Nat.add_sub_cancel_left]
   · rw[List.getElem?_append_left (by rw[mvs_len];omega)]
     exact mvs_get cb C m q i (by omega) hi
def ML (w:World) (base cb:Nat) (v:Value) (C:Nat→Int) (m:Nat):Prop:=w.ownsRow base 231 7 v m (mvs cb C m)
theorem ML.nil (w:World) (base cb:Nat) (C:Nat→Int):ML w base cb (.slice none 0 0) C 0:=World.ownsRow_nil w base _ _
theorem ML.lt {w:World} {base cb m:Nat} {v:Value} {C:Nat→Int} (h:ML w base cb v C m):∀ b,v.ownBlock=some b→base≤b∧b<w.heap.size:=World.ownsRow.lt h
theorem ML.frame {X:Nat→Prop} {w w':World} {base cb m:Nat} {v:Value} {C:Nat→Int} (h:ML w base cb v C m) (hs:Fr X w w') (hX:∀ b,v.ownBlock=some b→¬ X b):ML w' base cb v C m:=by
 refine⟨h.1,?_⟩
 rcases h.2 with q|⟨g,cap,cur,hv,hb,hg,rest⟩
 · exact .inl q
 · exact .inr ⟨g,cap,cur,hv,hb,(hs.block _ (Array.getElem?_eq_some_iff.1 hg).1 (hX g (by rw[hv];rfl))).trans hg,rest⟩
theorem ML.below {w w':World} {base cb m:Nat} {v:Value} {C:Nat→Int} (h:ML w base cb v C m) (hb:Below w.heap.size w w'):ML w' base cb v C m:=h.frame (X:=fun _=>False) (Fr.of_below hb) (fun _ _ h=>h)
theorem ML.isCells {w:World} {base cb m:Nat} {v:Value} {C:Nat→Int} (h:ML w base cb v C m):∀ b o,v.ownBlock=some b→w.heap[b]? =some o→o.isCells=true:=by
 intro b o hb ho
 rcases h.2 with⟨hv,_⟩|⟨g,cap,cur,hv,_,hg,_⟩
 · subst hv;cases hb
 · subst hv
   simp only[Value.ownBlock,Option.some.injEq] at hb
   subst hb
   rw[hg] at ho;cases ho;rfl
theorem ML.is {w:World} {base cb m:Nat} {v:Value} {C:Nat→Int} (h:ML w base cb v C m):(m=0∧v= .slice none 0 0)∨∃ g c,v= .slice (some ⟨g,0,none⟩) m c:=by
 rcases h.2 with⟨hv,e⟩|⟨g,cap,cur,hv,_⟩
 · exact .inl ⟨e,hv⟩
 · exact .inr ⟨_,_,hv⟩
theorem ML.rg {w:World} {base cb m g c rb:Nat} {C:Nat→Int} (h:ML w base cb (.slice (some ⟨g,0,none⟩) m c) C m) (c0:w.cell? ⟨rb,0,none⟩=some (.slice (some ⟨g,0,none⟩) m c)) (c1:w.cell? ⟨rb,1,none⟩=some (.int .i64 0)) (f1:w.frozen? ⟨rb,1,none⟩=false) (ne:rb≠g):Rg w rb g m c cb C 0:=
 ⟨c0,c1,f1,fun q hq=>by
  have k:=fun i (hi:i<7)=>(World.ownsRow.cellAt h (q*7+i) (by omega)).trans (mvs_get cb C m q i hq hi)
  exact⟨k 0 (by omega),k 1 (by omega),k 2 (by omega),k 3 (by omega),k 4 (by omega),k 5 (by omega),k 6 (by omega)⟩,(h.lt g rfl).2,cell_lt (a:=⟨rb,0,none⟩) c0,ne⟩
abbrev zcMeet:Value:= .agg #[.int .i64 0,.int .i64 0,.int .i64 0,.int .i64 0,.pointer none,.int .i64 0,.pointer none]
theorem infoMeet:(Tryz.prog.info? 231).map (fun i=>(i.zero,i.size,i.bytes))=some (some zcMeet,7,56):=by kernel_rfl
theorem step_mapp {ops:Array Oper} {o:Oper} {a:Act} {K:Act→World→Prop} {Q:Exit→Act→World→Prop} {E:Prop} {w:World} (hgd:o.guard=none) (s x:Operand) (t:TypeId)
 (ho:o.op= .call {callee:= .builtin .append,args:= #[s,x],argTypes:= #[t,t]})
 (ht:Tryz.prog.underlying t=some (.slice 231))
 (base cb:Nat) (v:Value) (C:Nat→Int) (m:Nat) (hs:a.eval s=v) (h:ML w base cb v C m) (b:Nat) (hx:a.eval x= .slice (some ⟨b,0,none⟩) 1 1)
 (hn:∀ i,i<7→w.cell? ⟨b,i,none⟩=(mv7 cb C m)[i]?) (hm:m≤1000) (hbase:base≤w.heap.size)
 (hK:∀ g' c' w',ML w' base cb (.slice (some ⟨g',0,none⟩) (m+1) c') C (m+1)→w.grownBy w' v.ownBlock→K (a.put o.dst (.slice (some ⟨g',0,none⟩) (m+1) c')) w'):
 if Region.wanted o (yielded ops a.tmps)=true then Oper.wp Tryz.prog o a w K Q else E:=by
 obtain⟨i,hi,hzz⟩:=Option.map_eq_some_iff.1 infoMeet
 simp only[Prod.mk.injEq] at hzz
 obtain⟨hz,hsz,hb8⟩:=hzz
 refine step_append_lies w hgd s x t ho base 231 i zcMeet 7 56 ht hi hz hsz hb8 rfl (by decide) v m (mvs cb C m) hs h ⟨b,0,none⟩ 1 1 (mv7 cb C m) hx rfl ?_ ?_ (by decide) (by unfold maxLen;omega) (by omega) hbase _ rfl ?_
 · intro q u hu
   have hq:q<7:=by
    have:=(List.getElem?_eq_some_iff.1 hu).1
    exact this
   have hadd:(⟨b,0,none⟩:Addr).add q=⟨b,q,none⟩:=by unfold Addr.add;split<;>simp_all
   rw[hadd,hn q hq];exact hu
 · intro u hu;simp only[mv7,List.mem_cons,List.not_mem_nil,or_false] at hu;rcases hu with rfl|rfl|rfl|rfl|rfl|rfl|rfl<;>rfl
 · intro g' cap' w' r1 r2 r3 r4
   exact hK g' cap' w' r1 r2
def ctsB (n:Nat) (C:Nat→Int):Nat→Bool
 |0=>true
 |k+1=>ctsB n C k&&atB n (C (k*5)) (C (k*5+1)) (C (k*5+2)) (C (k*5+3)) (C (k*5+4))
structure Mo (w wr:World) (cb n rb k:Nat) (U C:Nat→Int) (S:Nat→Value) (v:Value):Prop where
 cs:Cs wr cb n (colOf U) S
 r0:wr.cell? ⟨rb,0,none⟩=some v
 r1:wr.cell? ⟨rb,1,none⟩=some (.int .i64 0)
 f0:wr.frozen? ⟨rb,0,none⟩=false
 f1:wr.frozen? ⟨rb,1,none⟩=false
 ml:ML wr (rb+1) cb v C k
 bel:Below w.heap.size w wr
 rl:rb<wr.heap.size
theorem Mo.on {w wr:World} {cb n rb k:Nat} {U C:Nat→Int} {S:Nat→Value} {v:Value} {w':World} (h:Mo w wr cb n rb k U C S v) (hb:Below wr.heap.size wr w'):Mo w w' cb n rb k U C S v:=
 ⟨h.cs.below hb,(hb.cell (p:=⟨rb,0,none⟩) h.rl).trans h.r0,(hb.cell (p:=⟨rb,1,none⟩) h.rl).trans h.r1,(hb.frozen (p:=⟨rb,0,none⟩) h.rl).trans h.f0,(hb.frozen (p:=⟨rb,1,none⟩) h.rl).trans h.f1,h.ml.below hb,h.bel.trans (hb.mono h.bel.size),Nat.lt_of_lt_of_le h.rl hb.size⟩
theorem Mo.push {w wr:World} {cb n rb k:Nat} {U C:Nat→Int} {S:Nat→Value} {v:Value} {W w7:World} {g c:Nat} (h:Mo w wr cb n rb k U C S v) (hb:Below wr.heap.size wr W) (hg:W.grownBy w7 v.ownBlock) (ho:ML w7 (rb+1) cb (.slice (some ⟨g,0,none⟩) (k+1) c) C (k+1)) (hwr:w.heap.size≤rb) (hcb:cb<rb) (hxr:∀ b,Xc S b→b<rb):
 (w7.cell? ⟨rb,0,none⟩=some v∧w7.frozen? ⟨rb,0,none⟩=false∧rb<w7.heap.size)∧Mo w (w7.setCell ⟨rb,0,none⟩ (.slice (some ⟨g,0,none⟩) (k+1) c)) cb n rb (k+1) U C S (.slice (some ⟨g,0,none⟩) (k+1) c):=by
 have h1:=h.on hb
 have hlt:=h1.ml.lt
 have hF:Fr (fun b=>v.ownBlock=some b) W w7:=Fr.grown hg (fun b e=>e) h1.ml.isCells
 have nr:¬ v.ownBlock=some rb:=fun e=>by have:=(hlt rb e).1;omega
 have n0:=(hF.cell (p:=⟨rb,0,none⟩) h1.rl nr).trans h1.r0
 have n1:=(hF.cell (p:=⟨rb,1,none⟩) h1.rl nr).trans h1.r1
 have m0:=(hF.frozen (p:=⟨rb,0,none⟩) h1.rl nr).trans h1.f0
 have m1:=(hF.frozen (p:=⟨rb,1,none⟩) h1.rl nr).trans h1.f1
 have l7:rb<w7.heap.size:=Nat.lt_of_lt_of_le h1.rl hF.size
 have c7:=h1.cs.frame hF (fun e=>by have:=(hlt cb e).1;omega) (fun b hx e=>by have:=(hlt b e).1;have:=hxr b hx;omega)
 have hS:Fr (fun b=>b=rb) w7 (w7.setCell ⟨rb,0,none⟩ (.slice (some ⟨g,0,none⟩) (k+1) c)):=Fr.setCell (X:=fun b=>b=rb) rfl _
 refine⟨⟨n0,m0,l7⟩,c7.frame hS (by show ¬ cb=rb;omega) (fun b hx e=>by have:=hxr b hx;omega),by go_simp,by go_simp,by go_simp,by go_simp,ho.frame hS (fun b e e2=>by have:=(ho.lt b e).1;omega),?_,by simpa using l7⟩
 exact(h1.bel.trans (hF.below (by have:=h1.bel.size;omega) (fun b e=>by have:=(hlt b e).1;omega))).trans (hS.below (by have:=hF.size;have:=h1.bel.size;omega) (fun b e=>by omega))
end Go.Proofs.YthajilkjfkppoaaGreatDoor
