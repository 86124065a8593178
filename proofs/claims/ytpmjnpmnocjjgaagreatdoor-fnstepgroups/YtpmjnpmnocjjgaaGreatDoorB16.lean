/- Texts of a proof. -/
import Derived.Test.YtpmjnpmnocjjgaaGreatDoorB11
import Derived.OrdersHeld
import Derived.Deep.RegionHeld3
import Derived.Deep.DeepCutAuto
import Derived.Test.YtpmjnpmnocjjgaaGreatDoorB5
import Derived.Test.YtpmjnpmnocjjgaaGreatDoorB10
import Derived.Test.YtpmjnpmnocjjgaaGreatDoorB8
import Derived.Test.YtpmjnpmnocjjgaaGreatDoorB3
import Derived.Test.YtpmjnpmnocjjgaaGreatDoorB15
import Derived.Test.YtpmjnpmnocjjgaaGreatDoorB12
import Derived.Test.YtpmjnpmnocjjgaaGreatDoorB2
set_option maxHeartbeats 16000000
set_option maxRecDepth 20000
namespace Go.Proofs.YtpmjnpmnocjjgaaGreatDoor
open Go.RowKit
set_option linter.unusedVariables false
set_option linter.unusedSimpArgs false
section
variable {P:Program} {ops:Array Oper} {Q:Exit→Act→World→Prop} {md:Region.Mode}
end
def Li (w0 w:World) (lb len:Nat) (xs:List Int):Prop:=w0.heap.size≤lb∧lb<w.heap.size∧∀ i,i<len→w.cell? ⟨lb,i,none⟩=some (.int .i64 (xs.getD i 0))
theorem Li.up {rb:Nat} {w0 w w':World} {lb len:Nat} {xs:List Int} (h:Li w0 w lb len xs) (hrb:rb<w0.heap.size) (k:But rb w w'):Li w0 w' lb len xs:=by
 obtain⟨h1,h2,h3⟩:=h
 exact⟨h1,Nat.lt_of_lt_of_le h2 k.size,fun i hi=>(k.cell (p:=⟨lb,i,none⟩) h2 (by simp only[ne_eq];omega)).trans (h3 i hi)⟩
abbrev VI (lo hi:Int) (x:Value):Prop:=∃ n,x= .int .i64 n∧lo≤n∧n≤hi
abbrev VP (rb:Nat) (x:Value):Prop:=x= .pointer (some ⟨rb,0,none⟩)
abbrev VN (n:Int) (x:Value):Prop:=x= .int .i64 n
abbrev VV (lo hi:Int) (x:Value):Prop:=∃ a b,x=vv a b∧(lo≤a∧a≤hi)∧lo≤b∧b≤hi
abbrev VS (lo hi:Int) (x:Value):Prop:=∃ a b c,x=s3 a b c∧(lo≤a∧a≤hi)∧(lo≤b∧b≤hi)∧lo≤c∧c≤hi
def VL (w0 w:World) (c:Bool) (len:Nat) (xs:List Int) (x:Value):Prop:=∃ lb,x= .slice (some ⟨lb,0,none⟩) len len∧(c=false→Li w0 w lb len xs)
def VA (w0 w:World) (c:Bool) (n:Nat) (V:Nat→Int) (x:Value):Prop:=∃ ab,x= .pointer (some ⟨ab,0,none⟩)∧(c=false→Al w0 w ab n V)
theorem VL.up {rb:Nat} {w0 w w':World} {c:Bool} {len:Nat} {xs:List Int} {x:Value} (h:VL w0 w c len xs x) (hrb:rb<w0.heap.size) (k:But rb w w'):VL w0 w' c len xs x:=by
 obtain⟨lb,e,h⟩:=h;exact⟨lb,e,fun q=>(h q).up hrb k⟩
theorem VA.up {rb:Nat} {w0 w w':World} {c:Bool} {n:Nat} {V:Nat→Int} {x:Value} (h:VA w0 w c n V x) (hrb:rb<w0.heap.size) (k:But rb w w'):VA w0 w' c n V x:=by
 obtain⟨lb,e,h⟩:=h;exact⟨lb,e,fun q=>(h q).up hrb k⟩
theorem Li.new {w0 w:World} {cs:Array Value} {t:TypeId} {len:Nat} {xs:List Int} (hsz:w0.heap.size≤w.heap.size) (hc:∀ i,i<len→cs[i]? =some (.int .i64 (xs.getD i 0))):Li w0 (w.alloc (.cells cs t)) w.heap.size len xs:=
 ⟨hsz,by simp,fun i hi=>by rw[World.cell?_alloc_new];exact hc i hi⟩
end Go.Proofs.YtpmjnpmnocjjgaaGreatDoor
namespace Go.Proofs.YtpmjnpmnocjjgaaGreatDoor
open Go.RowKit
set_option linter.unusedVariables false
set_option linter.unusedSimpArgs false
theorem balloc (w:World) (o:Obj):Below w.heap.size w (w.alloc o):=(Below.refl _ _).alloc (Nat.le_refl _) o
theorem Al.bl {w0 w w':World} {ab n B:Nat} {V:Nat→Int} (h:Al w0 w ab n V) (k:Below B w w') (hB:ab<B):Al w0 w' ab n V:=by
 obtain⟨h1,h2,h3,h4⟩:=h
 exact⟨h1,Nat.lt_of_lt_of_le h2 k.size,fun i hi=>(k.cell (p:=⟨ab,i,none⟩) hB).trans (h3 i hi),fun i hi=>(k.frozen (p:=⟨ab,i,none⟩) hB).trans (h4 i hi)⟩
theorem Al.ne {rb:Nat} {w0 w w':World} {ab n:Nat} {V:Nat→Int} (h:Al w0 w ab n V) (hne:ab≠rb) (k:But rb w w'):Al w0 w' ab n V:=by
 obtain⟨h1,h2,h3,h4⟩:=h
 exact⟨h1,Nat.lt_of_lt_of_le h2 k.size,fun i hi=>(k.cell (p:=⟨ab,i,none⟩) h2 hne).trans (h3 i hi),fun i hi=>(k.frozen (p:=⟨ab,i,none⟩) h2 hne).trans (h4 i hi)⟩
theorem Al.off {w0 w:World} {ab n b k:Nat} {V:Nat→Int} (h:Al w0 w ab n V) (hb:ab≠b) (v:Value):Al w0 (w.setCell ⟨b,k,none⟩ v) ab n V:=by
 obtain⟨h1,h2,h3,h4⟩:=h
 refine⟨h1,by simpa [World.setCell] using h2,fun i hi=> ?_,fun i hi=> ?_⟩
 · rw[cset_far (by simp;omega)];exact h3 i hi
 · rw[World.frozen?_setCell];exact h4 i hi
abbrev Bls:=List (Nat×Nat×(Nat→Int))
structure AL (w w':World) (L:Bls):Prop where
 bel:Below w.heap.size w w'
 al:∀ x∈L,Al w w' x.1 x.2.1 x.2.2
theorem AL.nil (w:World):AL w w []:=⟨Below.refl _ _,fun x hx=>by cases hx⟩
theorem AL.new {w w':World} {L:Bls} (h:AL w w' L) (b n:Nat) (V:Nat→Int) {cs:Array Value} {t:TypeId} (hb:b=w'.heap.size) (hc:∀ i,i<n→cs[i]? =some (.int .i64 (V i))):
 AL w (w'.alloc (.cells cs t)) ((b,n,V)::L):=by
 subst hb
 refine⟨h.bel.alloc h.bel.size _,fun x hx=> ?_⟩
 rcases List.mem_cons.mp hx with rfl|hx
 · exact Al.new h.bel.size hc
 · exact(h.al x hx).bl (balloc _ _) (h.al x hx).2.1
theorem AL.call {w w' w1:World} {L:Bls} (h:AL w w' L) (k:Below w'.heap.size w' w1):AL w w1 L:=
 ⟨h.bel.trans (k.mono h.bel.size),fun x hx=>(h.al x hx).bl k (h.al x hx).2.1⟩
theorem AL.get {w w':World} {L:Bls} (h:AL w w' L) {x:Nat×Nat×(Nat→Int)} (hx:x∈L):Al w w' x.1 x.2.1 x.2.2:=h.al x hx
theorem AL.sub {w w':World} {L M:Bls} (h:AL w w' L) (k:∀ x∈M,x∈L):AL w w' M:=⟨h.bel,fun x hx=>h.al x (k x hx)⟩
theorem AL.lt {w w':World} {L:Bls} (h:AL w w' L) {x:Nat×Nat×(Nat→Int)} (hx:x∈L):x.1<w'.heap.size:=(h.al x hx).2.1
theorem AL.drew {w w':World} {L:Bls} (h:AL w w' L):AL w w'.drew L:=⟨h.bel.drew,h.al⟩
theorem AL.set {w w':World} {b n:Nat} {V:Nat→Int} {L:Bls} (h:AL w w' ((b,n,V)::L)) (hne:∀ x∈L,x.1≠b) (k:Nat) (hk:k<n) (v:Int):
 AL w (w'.setCell ⟨b,k,none⟩ (.int .i64 v)) ((b,n,fun j=>if j=k then v else V j)::L):=by
 have hb:=h.al _ (List.mem_cons_self ..)
 have hlo:=hb.1
 dsimp only at hlo
 refine⟨h.bel.setCell (by simpa using hlo) _,fun x hx=> ?_⟩
 rcases List.mem_cons.mp hx with rfl|hx
 · exact hb.set k hk v
 · exact(h.al x (List.mem_cons_of_mem _ hx)).off (hne x hx) _
structure DL (w w':World) (rb p:Nat) (L:Bls):Prop where
 rs:RS w' rb p
 bel:Below w.heap.size w w'
 lo:w.heap.size≤rb
 al:∀ x∈L,Al w w' x.1 x.2.1 x.2.2∧x.1≠rb
theorem AL.opened {w w0 w1:World} {L:Bls} (h:AL w w0 L) (k:Below w0.heap.size w0 w1) (r:RS w1 w0.heap.size 0):DL w w1 w0.heap.size 0 L:=
 ⟨r,h.bel.trans (k.mono h.bel.size),h.bel.size,fun x hx=>⟨(h.al x hx).bl k (h.al x hx).2.1,by have:=(h.al x hx).2.1;omega⟩⟩
theorem DL.call {w w' w1:World} {rb p p1:Nat} {L:Bls} (h:DL w w' rb p L) (k:RB w' w1 rb p1):DL w w1 rb p1 L:=
 ⟨RS.of k,h.bel.trans (k.but.below h.lo h.bel.size),h.lo,fun x hx=>⟨(h.al x hx).1.ne (h.al x hx).2 k.but,(h.al x hx).2⟩⟩
theorem DL.mono {w w':World} {rb p p1:Nat} {L:Bls} (h:DL w w' rb p L) (k:p≤p1):DL w w' rb p1 L:=⟨h.rs.mono k,h.bel,h.lo,h.al⟩
theorem DL.drew {w w':World} {rb p:Nat} {L:Bls} (h:DL w w' rb p L):DL w w'.drew rb p L:=⟨h.rs.drew,h.bel.drew,h.lo,h.al⟩
theorem DL.new {w w':World} {rb p:Nat} {L:Bls} (h:DL w w' rb p L) (n:Nat) (V:Nat→Int) {cs:Array Value} {t:TypeId} (hc:∀ i,i<n→cs[i]? =some (.int .i64 (V i))):
 DL w (w'.alloc (.cells cs t)) rb p ((w'.heap.size,n,V)::L):=by
 refine⟨h.rs.alloc _,h.bel.alloc h.bel.size _,h.lo,fun x hx=> ?_⟩
 rcases List.mem_cons.mp hx with rfl|hx
 · exact⟨Al.new h.bel.size hc,by have:=h.rs.lt;dsimp only;omega⟩
 · exact⟨(h.al x hx).1.bl (balloc _ _) (h.al x hx).1.2.1,(h.al x hx).2⟩
theorem DL.alloc {w w':World} {rb p:Nat} {L:Bls} (h:DL w w' rb p L) (o:Obj):DL w (w'.alloc o) rb p L:=
 ⟨h.rs.alloc _,h.bel.alloc h.bel.size _,h.lo,fun x hx=>⟨(h.al x hx).1.bl (balloc _ _) (h.al x hx).1.2.1,(h.al x hx).2⟩⟩
theorem DL.sub {w w':World} {rb p:Nat} {L M:Bls} (h:DL w w' rb p L) (k:∀ x∈M,x∈L):DL w w' rb p M:=⟨h.rs,h.bel,h.lo,fun x hx=>h.al x (k x hx)⟩
theorem DL.get {w w':World} {rb p:Nat} {L:Bls} (h:DL w w' rb p L) {x:Nat×Nat×(Nat→Int)} (hx:x∈L):Al w w' x.1 x.2.1 x.2.2:=(h.al x hx).1
theorem DL.lt {w w':World} {rb p:Nat} {L:Bls} (h:DL w w' rb p L) {x:Nat×Nat×(Nat→Int)} (hx:x∈L):x.1<w'.heap.size:=(h.al x hx).1.2.1
theorem DL.headc {w w':World} {rb p b n:Nat} {V U:Nat→Int} {L:Bls} (h:DL w w' rb p ((b,n,V)::L)) (k:∀ i,i<n→V i=U i):DL w w' rb p ((b,n,U)::L):=by
 refine⟨h.rs,h.bel,h.lo,fun x hx=> ?_⟩
 rcases List.mem_cons.mp hx with rfl|hx
 · have q:=h.al _ (List.mem_cons_self ..)
   exact⟨q.1.congr k,q.2⟩
 · exact h.al x (List.mem_cons_of_mem _ hx)
theorem DL.set {w w':World} {rb p b n:Nat} {V:Nat→Int} {L:Bls} (h:DL w w' rb p ((b,n,V)::L)) (hr:rb<b) (hne:∀ x∈L,x.1≠b) (k:Nat) (hk:k<n) (v:Int):
 DL w (w'.setCell ⟨b,k,none⟩ (.int .i64 v)) rb p ((b,n,fun j=>if j=k then v else V j)::L):=by
 have hb:=(h.al _ (List.mem_cons_self ..)).1
 have hlo:=hb.1
 dsimp only at hlo
 refine⟨h.rs.setNew (by simpa using hr) _,h.bel.setCell (by simpa using hlo) _,h.lo,fun x hx=> ?_⟩
 rcases List.mem_cons.mp hx with rfl|hx
 · exact⟨hb.set k hk v,by dsimp only;omega⟩
 · exact⟨(h.al x (List.mem_cons_of_mem _ hx)).1.off (hne x hx) _,(h.al x (List.mem_cons_of_mem _ hx)).2⟩
structure BL (w w':World) (rb p:Nat) (L:Bls):Prop where
 rs:RS w' rb p
 but:But rb w w'
 lo:rb<w.heap.size
 al:∀ x∈L,Al w w' x.1 x.2.1 x.2.2
theorem BL.start {w:World} {rb p:Nat} (h:RS w rb p):BL w w rb p []:=⟨h,But.refl _ _,h.lt,fun x hx=>by cases hx⟩
theorem BL.call {w w' w1:World} {rb p p1:Nat} {L:Bls} (h:BL w w' rb p L) (k:RB w' w1 rb p1):BL w w1 rb p1 L:=
 ⟨RS.of k,h.but.trans k.but,h.lo,fun x hx=>(h.al x hx).up h.lo k.but⟩
theorem BL.calb {w w' w1:World} {rb p:Nat} {L:Bls} (h:BL w w' rb p L) (k:Below w'.heap.size w' w1):BL w w1 rb p L:=by
 obtain⟨q,a,b⟩:=h.rs
 exact h.call (RB.mk (But.of_below k) ⟨q,a,b.below k⟩)
theorem BL.mono {w w':World} {rb p p1:Nat} {L:Bls} (h:BL w w' rb p L) (k:p≤p1):BL w w' rb p1 L:=⟨h.rs.mono k,h.but,h.lo,h.al⟩
theorem BL.drew {w w':World} {rb p:Nat} {L:Bls} (h:BL w w' rb p L):BL w w'.drew rb p L:=⟨h.rs.drew,h.but.drew,h.lo,h.al⟩
theorem BL.new {w w':World} {rb p:Nat} {L:Bls} (h:BL w w' rb p L) (b n:Nat) (V:Nat→Int) {cs:Array Value} {t:TypeId} (hb:b=w'.heap.size) (hc:∀ i,i<n→cs[i]? =some (.int .i64 (V i))):
 BL w (w'.alloc (.cells cs t)) rb p ((b,n,V)::L):=by
 subst hb
 refine⟨h.rs.alloc _,h.but.alloc _,h.lo,fun x hx=> ?_⟩
 rcases List.mem_cons.mp hx with rfl|hx
 · exact Al.new h.but.size hc
 · exact(h.al x hx).bl (balloc _ _) (h.al x hx).2.1
theorem BL.alloc {w w':World} {rb p:Nat} {L:Bls} (h:BL w w' rb p L) (o:Obj):BL w (w'.alloc o) rb p L:=
 ⟨h.rs.alloc _,h.but.alloc _,h.lo,fun x hx=>(h.al x hx).bl (balloc _ _) (h.al x hx).2.1⟩
theorem BL.sub {w w':World} {rb p:Nat} {L M:Bls} (h:BL w w' rb p L) (k:∀ x∈M,x∈L):BL w w' rb p M:=⟨h.rs,h.but,h.lo,fun x hx=>h.al x (k x hx)⟩
theorem BL.get {w w':World} {rb p:Nat} {L:Bls} (h:BL w w' rb p L) {x:Nat×Nat×(Nat→Int)} (hx:x∈L):Al w w' x.1 x.2.1 x.2.2:=h.al x hx
theorem BL.lt {w w':World} {rb p:Nat} {L:Bls} (h:BL w w' rb p L) {x:Nat×Nat×(Nat→Int)} (hx:x∈L):x.1<w'.heap.size:=(h.al x hx).2.1
theorem BL.set {w w':World} {rb p b n:Nat} {V:Nat→Int} {L:Bls} (h:BL w w' rb p ((b,n,V)::L)) (hne:∀ x∈L,x.1≠b) (k:Nat) (hk:k<n) (v:Int):
 BL w (w'.setCell ⟨b,k,none⟩ (.int .i64 v)) rb p ((b,n,fun j=>if j=k then v else V j)::L):=by
 have hb:=h.al _ (List.mem_cons_self ..)
 have hlo:=hb.1
 dsimp only at hlo
 have h0:=h.lo
 refine⟨h.rs.setNew (by dsimp only;omega) _,h.but.setNew (by simpa using hlo) _,h.lo,fun x hx=> ?_⟩
 rcases List.mem_cons.mp hx with rfl|hx
 · exact hb.set k hk v
 · exact(h.al x (List.mem_cons_of_mem _ hx)).off (hne x hx) _
theorem BL.headc {w w':World} {rb p b n:Nat} {V U:Nat→Int} {L:Bls} (h:BL w w' rb p ((b,n,V)::L)) (k:∀ i,i<n→V i=U i):BL w w' rb p ((b,n,U)::L):=by
 refine⟨h.rs,h.but,h.lo,fun x hx=> ?_⟩
 rcases List.mem_cons.mp hx with rfl|hx
 · exact(h.al _ (List.mem_cons_self ..)).congr k
 · exact h.al x (List.mem_cons_of_mem _ hx)
theorem BL.done {w w':World} {rb p:Nat} {L:Bls} (h:BL w w' rb p L):RB w w' rb p:=RB.mk h.but h.rs
structure TB (w wx:World) (V:Nat→Int) (m:Nat):Prop where
 inn:∀ j,j<12→wx.cell? ⟨w.heap.size,j,none⟩=some (.int .i64 (V j))
 out:∀ j,j<12→wx.cell? ⟨w.heap.size+1+1,j,none⟩=some (.int .i64 (if j<m then V j else 0))
 res:∀ j,j<12→wx.cell? ⟨w.heap.size+1,j,none⟩=some (.int .i64 0)
 nfo:∀ j,j<12→wx.frozen? ⟨w.heap.size+1+1,j,none⟩=false
 nfr:∀ j,j<12→wx.frozen? ⟨w.heap.size+1,j,none⟩=false
 bel:Below w.heap.size w wx
 big:w.heap.size+1+1<wx.heap.size
theorem TB.below {w wx w1:World} {V:Nat→Int} {m:Nat} (h:TB w wx V m) (hb:Below wx.heap.size wx w1):TB w w1 V m:=by
 have big:=h.big
 exact⟨fun j hj=>(hb.cell (by simp;omega)).trans (h.inn j hj),fun j hj=>(hb.cell (by simp;omega)).trans (h.out j hj),fun j hj=>(hb.cell (by simp;omega)).trans (h.res j hj),fun j hj=>(hb.frozen (by simp;omega)).trans (h.nfo j hj),fun j hj=>(hb.frozen (by simp;omega)).trans (h.nfr j hj),h.bel.trans (hb.mono (by omega)),Nat.lt_of_lt_of_le big hb.size⟩
theorem TB.step {w w1:World} {V:Nat→Int} {m:Nat} (h:TB w w1 V m) (hm:m<12):TB w (w1.setCell ⟨w.heap.size+1+1,m,none⟩ (.int .i64 (V m))) V (m+1):=by
 have big:=h.big
 refine⟨fun j hj=> ?_,fun j hj=> ?_,fun j hj=> ?_,fun j hj=> ?_,fun j hj=> ?_,?_,?_⟩
 · rw[cset_far (by simp;omega)];exact h.inn j hj
 · by_cases e:j=m
   · subst e;rw[cset_same (h.out j hj),if_pos (by omega)]
   · rw[cset_other (by intro q;injection q with q1 q2;exact e q2.symm),h.out j hj]
     by_cases q:j<m
     · rw[if_pos q,if_pos (by omega)]
     · rw[if_neg q,if_neg (by omega)]
 · rw[cset_far (by simp)];exact h.res j hj
 · rw[World.frozen?_setCell];exact h.nfo j hj
 · rw[World.frozen?_setCell];exact h.nfr j hj
 · exact h.bel.setCell (by simp;omega) _
 · simpa using big
def tcT (k1 g1 h1 x y k2 g2 h2 u v:Int):(Int×Int×Int)×Bool:=
 if k1=1 then (if k2=1 then rdT (u-x) (v-y) (g1+g2) else tnT (mxT (u-g2) (v-h2) (u+g2) (v+h2) x y g1))
 else (if k2=1 then mxT (x-g1) (y-h1) (x+g1) (y+h1) u v g2 else bxT (x-g1) (y-h1) (x+g1) (y+h1) (u-g2) (v-h2) (u+g2) (v+h2))
def toT (k1 g1 h1 x y k2 g2 h2 u v:Int):(Int×Int×Int)×Bool:=if (shB k1 g1 h1&&(shB k2 g2 h2&&(inB 2560000 x y&&inB 2560000 u v)))=true then tcT k1 g1 h1 x y k2 g2 h2 u v else ((0,0,0),false)
theorem shB_kinds {k g h:Int} (e:shB k g h=true):(k=1∧h=0∧1≤g∧g≤25600)∨(k=2∧1≤g∧g≤25600∧1≤h∧h≤25600):=by
 unfold shB rdB bxB at e;simp only[Bool.or_eq_true,decide_eq_true_eq] at e;omega
def B2 (x:Int):Prop:= -2000000000≤x∧x≤2000000000
def HN (X Y D:Int):Prop:=B2 X∧B2 Y
theorem kSetAt {cb n k:Nat} {C:Nat→Nat→Int} {S:Nat→Value} {w:World} (h:Cs w cb n C S) (hk:k<n) (hn:n≤1048576) (x y:Int):
 Calls Tryz.prog 156 #[hdk cb k,vv x y] w fun e w'=>e= .returned (.tuple #[])∧Cs w' cb n (setC (setC C 4 k x) 5 k y) S∧Fr (Xc S) w w':=by
 have hset:=cset_map
 have l1:=h.lt
 have hkn:(k:Int)<(n:Int):=by omega
 obtain⟨g4,c4,e4,hc4,hv4,hf4,l4g,lc4⟩:=h.at (i:=4) (by omega) hk
 obtain⟨g5,c5,e5,hc5,hv5,hf5,l5g,lc5⟩:=h.at (i:=5) (by omega) hk
 have ne:g4≠g5:=fun q=>h.dis 4 5 (by omega) (by omega) (by omega) g4 (by rw[e4];rfl) (by rw[e5,q];rfl)
 go_enter Tryz.func156,Tryz.ntmps156
 go_upto_region 1 with fail
 refine wp_region_held_drew (S:=fun w'=>w'.cell? ⟨w.heap.size,0,none⟩=some (.int .i64 (k:Int))∧w'.cell? ⟨w.heap.size,1,none⟩=some (.pointer (some ⟨cb,0,none⟩))∧w'.cell? ⟨cb,4,none⟩=some (.slice (some ⟨g4,0,none⟩) n c4)∧w'.cell? ⟨cb,5,none⟩=some (.slice (some ⟨g5,0,none⟩) n c5)∧w'.cell? ⟨w.heap.size+1,0,none⟩=some (.int .i64 x)∧w'.cell? ⟨w.heap.size+1,1,none⟩=some (.int .i64 y)) (by kernel_rfl) ?_ (fun hHeld=> ?_)
 · (try dsimp only)
   (first|(go_simp;done)|(go_keep;done))
 refine tq 0 hHeld ?_
 refine tq 1 hHeld ?_
 refine tq 2 hHeld ?_
 refine tq 3 hHeld ?_
 refine tq 4 hHeld ?_
 refine tq 5 hHeld ?_
 refine tq 6 hHeld ?_
 refine tq 7 hHeld ?_
 refine tq 8 hHeld ?_
 refine tq 9 hHeld ?_
 refine tq 10 hHeld ?_
 refine tq 11 hHeld ?_
 refine tq 12 hHeld ?_
 refine tq 13 hHeld ?_
 refine tq 14 hHeld ?_
 refine tq 15 hHeld ?_
 refine tq 16 hHeld ?_
 refine tq 17 hHeld ?_
 refine tq 18 hHeld ?_
 (refine tc 19 fun K hK=> ?_;go_simp;refine tr hK (fun hHeld=> ?_);clear hK K)
 refine tq 20 hHeld ?_
 (refine tc 21 fun K hK=> ?_;go_simp;refine tr hK (fun hHeld=> ?_);clear hK K)
 refine wpAnyH_done (by kernel_rfl) ?_ _
 go_wp2_with fail
 go_end0
 have hE:Below ((w.setCell ⟨g4,k,none⟩ (.int .i64 x)).setCell ⟨g5,k,none⟩ (.int .i64 y)).heap.size ((w.setCell ⟨g4,k,none⟩ (.int .i64 x)).setCell ⟨g5,k,none⟩ (.int .i64 y)) ((((w.setCell ⟨g4,k,none⟩ (.int .i64 x)).setCell ⟨g5,k,none⟩ (.int .i64 y)).alloc (Obj.cells #[.int .i64 (k:Int),.pointer (some ⟨cb,0,none⟩)] 76)).alloc (Obj.cells #[.int .i64 x,.int .i64 y] 119)).drew:=bel_a
 exact⟨rfl,((h.set (i:=4) (by omega) hk e4 x).set (i:=5) (by omega) hk e5 y).below hE,(((Fr.refl (Xc S) w).trans (Fr.setCell (X:=Xc S) (p:=⟨g4,k,none⟩) ⟨4,by omega,by rw[e4];rfl⟩ (.int .i64 x))).trans (Fr.setCell (X:=Xc S) (p:=⟨g5,k,none⟩) ⟨5,by omega,by rw[e5];rfl⟩ (.int .i64 y))).trans (Fr.of_below hE)⟩
abbrev zeroBd:Value:= .agg #[.int .i64 0,.int .i64 0,.int .i64 0,.int .i64 0,.int .i64 0,.int .i64 0,.int .i64 0,.int .i64 0,.int .i64 0,.int .i64 0,.int .i64 0,.int .i64 0]
end Go.Proofs.YtpmjnpmnocjjgaaGreatDoor
