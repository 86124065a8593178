/- Texts of a proof. -/
import Derived.Test.YtbdbbdjifgpgeaaGreatB12
import Derived.Deep.RegionHeld3
import Derived.Deep.DeepCutAuto
import Derived.Test.YtbdbbdjifgpgeaaGreatS9m
set_option maxHeartbeats 16000000
set_option maxRecDepth 20000
namespace Go.Proofs.YtbdbbdjifgpgeaaGreat
open Go.RowKit
set_option linter.unusedVariables false
set_option linter.unusedSimpArgs false
theorem balloc (w:World) (o:Obj):Below w.heap.size w (w.alloc o):=(Below.refl _ _).alloc (Nat.le_refl _) o
theorem Al.bl {w0 w w':World} {ab n B:Nat} {V:Nat→Int} (h:Al w0 w ab n V) (k:Below B w w') (hB:ab<B):Al w0 w' ab n V:=by
 obtain⟨h1,h2,h3,h4⟩:=h
 exact⟨h1,Nat.lt_of_lt_of_le h2 k.size,fun i hi=>(k.cell (p:=⟨ab,i,none⟩) hB).trans (h3 i hi),fun i hi=>(k.frozen (p:=⟨ab,i,none⟩) hB).trans (h4 i hi)⟩
theorem Al.ne {rb:Nat} {w0 w w':World} {ab n:Nat} {V:Nat→Int} (h:Al w0 w ab n V) (hne:ab≠rb) (k:But rb w w'):Al w0 w' ab n V:=by
 obtain⟨h1,h2,h3,h4⟩:=h
 exact⟨h1,Nat.lt_of_lt_of_le h2 k.size,fun i hi=>(k.cell (p:=⟨ab,i,none⟩) h2 hne).trans (h3 i hi),fun i hi=>(k.frozen (p:=⟨ab,i,none⟩) h2 hne).trans (h4 i hi)⟩
theorem Al.off {w0 w:World} {ab n b k:Nat} {V:Nat→Int} (h:Al w0 w ab n V) (hb:ab≠b) (v:Value):Al w0 (w.setCell ⟨b,k,none⟩ v) ab n V:=by
 obtain⟨h1,h2,h3,h4⟩:=h
 refine⟨h1,by simpa [World.setCell] using h2,fun i hi=> ?_,fun i hi=> ?_⟩
 · rw[cset_far (by simp;omega)];exact h3 i hi
 · rw[World.frozen?_setCell];exact h4 i hi
abbrev Bls:=List (Nat×Nat×(Nat→Int))
structure AL (w w':World) (L:Bls):Prop where
 bel:Below w.heap.size w w'
 al:∀ x∈L,Al w w' x.1 x.2.1 x.2.2
theorem AL.nil (w:World):AL w w []:=⟨Below.refl _ _,fun x hx=>by cases hx⟩
theorem AL.new {w w':World} {L:Bls} (h:AL w w' L) (b n:Nat) (V:Nat→Int) {cs:Array Value} {t:TypeId} (hb:b=w'.heap.size) (hc:∀ i,i<n→cs[i]? =some (.int .i64 (V i))):
 AL w (w'.alloc (.cells cs t)) ((b,n,V)::L):=by
 subst hb
 refine⟨h.bel.alloc h.bel.size _,fun x hx=> ?_⟩
 rcases List.mem_cons.mp hx with rfl|hx
 · exact Al.new h.bel.size hc
 · exact(h.al x hx).bl (balloc _ _) (h.al x hx).2.1
theorem AL.call {w w' w1:World} {L:Bls} (h:AL w w' L) (k:Below w'.heap.size w' w1):AL w w1 L:=
 ⟨h.bel.trans (k.mono h.bel.size),fun x hx=>(h.al x hx).bl k (h.al x hx).2.1⟩
theorem AL.get {w w':World} {L:Bls} (h:AL w w' L) {x:Nat×Nat×(Nat→Int)} (hx:x∈L):Al w w' x.1 x.2.1 x.2.2:=h.al x hx
theorem AL.sub {w w':World} {L M:Bls} (h:AL w w' L) (k:∀ x∈M,x∈L):AL w w' M:=⟨h.bel,fun x hx=>h.al x (k x hx)⟩
theorem AL.lt {w w':World} {L:Bls} (h:AL w w' L) {x:Nat×Nat×(Nat→Int)} (hx:x∈L):x.1<w'.heap.size:=(h.al x hx).2.1
theorem AL.drew {w w':World} {L:Bls} (h:AL w w' L):AL w w'.drew L:=⟨h.bel.drew,h.al⟩
theorem AL.set {w w':World} {b n:Nat} {V:Nat→Int} {L:Bls} (h:AL w w' ((b,n,V)::L)) (hne:∀ x∈L,x.1≠b) (k:Nat) (hk:k<n) (v:Int):
 AL w (w'.setCell ⟨b,k,none⟩ (.int .i64 v)) ((b,n,fun j=>if j=k then v else V j)::L):=by
 have hb:=h.al _ (List.mem_cons_self ..)
 have hlo:=hb.1
 dsimp only at hlo
 refine⟨h.bel.setCell (by simpa using hlo) _,fun x hx=> ?_⟩
 rcases List.mem_cons.mp hx with rfl|hx
 · exact hb.set k hk v
 · exact(h.al x (List.mem_cons_of_mem _ hx)).off (hne x hx) _
structure DL (w w':World) (rb p:Nat) (L:Bls):Prop where
 rs:RS w' rb p
 bel:Below w.heap.size w w'
 lo:w.heap.size≤rb
 al:∀ x∈L,Al w w' x.1 x.2.1 x.2.2∧x.1≠rb
theorem AL.opened {w w0 w1:World} {L:Bls} (h:AL w w0 L) (k:Below w0.heap.size w0 w1) (r:RS w1 w0.heap.size 0):DL w w1 w0.heap.size 0 L:=
 ⟨r,h.bel.trans (k.mono h.bel.size),h.bel.size,fun x hx=>⟨(h.al x hx).bl k (h.al x hx).2.1,by have:=(h.al x hx).2.1;omega⟩⟩
theorem DL.call {w w' w1:World} {rb p p1:Nat} {L:Bls} (h:DL w w' rb p L) (k:RB w' w1 rb p1):DL w w1 rb p1 L:=
 ⟨RS.of k,h.bel.trans (k.but.below h.lo h.bel.size),h.lo,fun x hx=>⟨(h.al x hx).1.ne (h.al x hx).2 k.but,(h.al x hx).2⟩⟩
theorem DL.mono {w w':World} {rb p p1:Nat} {L:Bls} (h:DL w w' rb p L) (k:p≤p1):DL w w' rb p1 L:=⟨h.rs.mono k,h.bel,h.lo,h.al⟩
theorem DL.drew {w w':World} {rb p:Nat} {L:Bls} (h:DL w w' rb p L):DL w w'.drew rb p L:=⟨h.rs.drew,h.bel.drew,h.lo,h.al⟩
theorem DL.new {w w':World} {rb p:Nat} {L:Bls} (h:DL w w' rb p L) (n:Nat) (V:Nat→Int) {cs:Array Value} {t:TypeId} (hc:∀ i,i<n→cs[i]? =some (.int .i64 (V i))):
 DL w (w'.alloc (.cells cs t)) rb p ((w'.heap.size,n,V)::L):=by
 refine⟨h.rs.alloc _,h.bel.alloc h.bel.size _,h.lo,fun x hx=> ?_⟩
 rcases List.mem_cons.mp hx with rfl|hx
 · exact⟨Al.new h.bel.size hc,by have:=h.rs.lt;dsimp only;omega⟩
 · exact⟨(h.al x hx).1.bl (balloc _ _) (h.al x hx).1.2.1,(h.al x hx).2⟩
theorem DL.alloc {w w':World} {rb p:Nat} {L:Bls} (h:DL w w' rb p L) (o:Obj):DL w (w'.alloc o) rb p L:=
 ⟨h.rs.alloc _,h.bel.alloc h.bel.size _,h.lo,fun x hx=>⟨(h.al x hx).1.bl (balloc _ _) (h.al x hx).1.2.1,(h.al x hx).2⟩⟩
theorem DL.sub {w w':World} {rb p:Nat} {L M:Bls} (h:DL w w' rb p L) (k:∀ x∈M,x∈L):DL w w' rb p M:=⟨h.rs,h.bel,h.lo,fun x hx=>h.al x (k x hx)⟩
theorem DL.get {w w':World} {rb p:Nat} {L:Bls} (h:DL w w' rb p L) {x:Nat×Nat×(Nat→Int)} (hx:x∈L):Al w w' x.1 x.2.1 x.2.2:=(h.al x hx).1
theorem DL.lt {w w':World} {rb p:Nat} {L:Bls} (h:DL w w' rb p L) {x:Nat×Nat×(Nat→Int)} (hx:x∈L):x.1<w'.heap.size:=(h.al x hx).1.2.1
theorem DL.headc {w w':World} {rb p b n:Nat} {V U:Nat→Int} {L:Bls} (h:DL w w' rb p ((b,n,V)::L)) (k:∀ i,i<n→V i=U i):DL w w' rb p ((b,n,U)::L):=by
 refine⟨h.rs,h.bel,h.lo,fun x hx=> ?_⟩
 rcases List.mem_cons.mp hx with rfl|hx
 · have q:=h.al _ (List.mem_cons_self ..)
   exact⟨q.1.congr k,q.2⟩
 · exact h.al x (List.mem_cons_of_mem _ hx)
theorem DL.set {w w':World} {rb p b n:Nat} {V:Nat→Int} {L:Bls} (h:DL w w' rb p ((b,n,V)::L)) (hr:rb<b) (hne:∀ x∈L,x.1≠b) (k:Nat) (hk:k<n) (v:Int):
 DL w (w'.setCell ⟨b,k,none⟩ (.int .i64 v)) rb p ((b,n,fun j=>if j=k then v else V j)::L):=by
 have hb:=(h.al _ (List.mem_cons_self ..)).1
 have hlo:=hb.1
 dsimp only at hlo
 refine⟨h.rs.setNew (by simpa using hr) _,h.bel.setCell (by simpa using hlo) _,h.lo,fun x hx=> ?_⟩
 rcases List.mem_cons.mp hx with rfl|hx
 · exact⟨hb.set k hk v,by dsimp only;omega⟩
 · exact⟨(h.al x (List.mem_cons_of_mem _ hx)).1.off (hne x hx) _,(h.al x (List.mem_cons_of_mem _ hx)).2⟩
structure Hide (p:Prop):Prop where
 out:p
theorem tdiv_le {x B m:Int} (hm:0<m) (hB:0≤B) (h: -(B*m)≤x∧x≤B*m): -B≤x.tdiv m∧x.tdiv m≤B:=by
 by_cases h0:0≤x
 · rw[Int.tdiv_eq_ediv_of_nonneg h0]
   have q1:=Int.ediv_nonneg h0 (Int.le_of_lt hm)
   exact⟨by omega,Int.ediv_le_of_le_mul hm h.2⟩
 · have e:x.tdiv m= -((-x)/m):=by rw[←Int.tdiv_eq_ediv_of_nonneg (show 0≤ -x by omega),Int.neg_tdiv,Int.neg_neg]
   rw[e]
   have q1:=Int.ediv_nonneg (show 0≤ -x by omega) (Int.le_of_lt hm)
   have q2:=Int.ediv_le_of_le_mul hm (show-x≤B*m by omega)
   omega
def shareV (V W:Nat→Int) (n:Int):Int:=bif decide (V 8=0) then 0 else bif decide (W 8=0) then n else (n*W 8).tdiv (V 8+W 8)
theorem share_bd {V W:Nat→Int} {n:Int} (h0:0≤V 8) (h1:0≤W 8) (hn:0≤n):0≤shareV V W n∧shareV V W n≤n:=by
 unfold shareV
 by_cases m0:V 8=0
 · rw[decide_eq_true m0];exact⟨Int.le_refl _,hn⟩
 · rw[decide_eq_false m0]
   by_cases m1:W 8=0
   · rw[decide_eq_true m1];exact⟨hn,Int.le_refl _⟩
   · rw[decide_eq_false m1]
     show 0≤(n*W 8).tdiv (V 8+W 8)∧(n*W 8).tdiv (V 8+W 8)≤n
     have p0:0≤n*W 8:=Int.mul_nonneg hn h1
     rw[Int.tdiv_eq_ediv_of_nonneg p0]
     refine⟨Int.ediv_nonneg p0 (by omega),?_⟩
     refine Int.ediv_le_of_le_mul (by omega) ?_
     exact Int.mul_le_mul_of_nonneg_left (by omega) hn
theorem l8Share_q (V W:Nat→Int) (n x:Int) (w:World) (h0:0≤V 8∧V 8≤1000) (h1:0≤W 8∧W 8≤1000) (hn: -30000≤n∧n≤30000) (ex:shareV V W n=x):
 Calls Tryz.prog 107 #[bodyW V,bodyW W,.int .i64 n] w fun e w'=>e= .returned (.int .i64 x)∧Below w.heap.size w w':=by
 have hset:=cset_map
 have p:=mul_bd (a:=n) (b:=W 8) (A:=30000) (B:=1000) (by omega) (by omega)
 have q:=tdiv_bd (x:=n*W 8) (B:=30000000) (V 8+W 8) (by omega)
 have w1:IntKind.i64.wrap (n*W 8)=n*W 8:=i64w (by omega)
 have w2:IntKind.i64.wrap (V 8+W 8)=V 8+W 8:=i64w (by omega)
 have w3:IntKind.i64.wrap ((n*W 8).tdiv (V 8+W 8))=(n*W 8).tdiv (V 8+W 8):=i64w (by omega)
 by_cases m0:V 8=0
 · have ex':x=0:=by rw[←ex];unfold shareV;rw[decide_eq_true m0];rfl
   subst ex'
   have e1:(V 8==0)=true:=by simp[m0]
   have M0:Shut (V 8=0):=m0
   clear m0 ex
   go_enter Tryz.func107,Tryz.ntmps107
   go_wp2_with fail
   go_ret
   exact⟨rfl,bel_a⟩
 · have e1:(V 8==0)=false:=by simp[m0]
   by_cases m1:W 8=0
   · have ex':x=n:=by rw[←ex];unfold shareV;rw[decide_eq_false m0,decide_eq_true m1];rfl
     subst ex'
     have e2:(W 8==0)=true:=by simp[m1]
     have M1:Shut (W 8=0):=m1
     clear m1 ex w1 w2 w3 p q
     go_enter Tryz.func107,Tryz.ntmps107
     go_wp2_with fail
     go_ret
     exact⟨rfl,bel_a⟩
   · have ex':(n*W 8).tdiv (V 8+W 8)=x:=by rw[←ex];unfold shareV;rw[decide_eq_false m0,decide_eq_false m1];rfl
     have e2:(W 8==0)=false:=by simp[m1]
     have e3:¬ V 8+W 8=0:=by omega
     clear ex
     go_enter Tryz.func107,Tryz.ntmps107
     go_wp2_with fail
     go_ret
     exact⟨by first|rfl|(rw[←ex'])|simp[ex'],bel_a⟩
def apartU (U:Nat→Int) (A B:Nat) (X Y D:Int):Nat→Int:=
 bif decide (0<(D-64).tdiv 4) then
  (let U1:=bif decide (0<U (A*12+8)) then putRow U A (moveV (fun j=>U (A*12+j)) ((-X*shareV (fun j=>U (A*12+j)) (fun j=>U (B*12+j)) ((D-64).tdiv 4)).tdiv 256) ((-Y*shareV (fun j=>U (A*12+j)) (fun j=>U (B*12+j)) ((D-64).tdiv 4)).tdiv 256)) else U
   bif decide (0<U (B*12+8)) then putRow U1 B (moveV (fun j=>U (B*12+j)) ((X*shareV (fun j=>U (B*12+j)) (fun j=>U (A*12+j)) ((D-64).tdiv 4)).tdiv 256) ((Y*shareV (fun j=>U (B*12+j)) (fun j=>U (A*12+j)) ((D-64).tdiv 4)).tdiv 256)) else U1)
 else U
structure Ap8 (w wc:World) (A B:Nat) (X Y D:Int) (ba bb:Nat) (VA VB:Nat→Int):Prop where
 k0:wc.cell? ⟨w.heap.size,0,none⟩=some (.int .i64 (A:Int))
 k1:wc.cell? ⟨w.heap.size,1,none⟩=some (.int .i64 (B:Int))
 k2:wc.cell? ⟨w.heap.size,2,none⟩=some (.int .i64 X)
 k3:wc.cell? ⟨w.heap.size,3,none⟩=some (.int .i64 Y)
 k4:wc.cell? ⟨w.heap.size,4,none⟩=some (.int .i64 D)
 ca:∀ j,j<12→wc.cell? ⟨ba,j,none⟩=some (.int .i64 (VA j))
 cb:∀ j,j<12→wc.cell? ⟨bb,j,none⟩=some (.int .i64 (VB j))
 l0:w.heap.size<wc.heap.size
 la:ba<wc.heap.size
 lb:bb<wc.heap.size
 ga:w.heap.size<ba
 gb:w.heap.size<bb
theorem Ap8.on {w wc w':World} {A B:Nat} {X Y D:Int} {ba bb:Nat} {VA VB:Nat→Int} (h:Ap8 w wc A B X Y D ba bb VA VB) (hb:Below wc.heap.size wc w'):Ap8 w w' A B X Y D ba bb VA VB:=
 have k:=fun j=>hb.cell (p:=⟨w.heap.size,j,none⟩) h.l0
 ⟨(k 0).trans h.k0,(k 1).trans h.k1,(k 2).trans h.k2,(k 3).trans h.k3,(k 4).trans h.k4,fun j hj=>(hb.cell (p:=⟨ba,j,none⟩) h.la).trans (h.ca j hj),fun j hj=>(hb.cell (p:=⟨bb,j,none⟩) h.lb).trans (h.cb j hj),Nat.lt_of_lt_of_le h.l0 hb.size,Nat.lt_of_lt_of_le h.la hb.size,Nat.lt_of_lt_of_le h.lb hb.size,h.ga,h.gb⟩
theorem Ap8.fr {w wc w':World} {A B g:Nat} {X Y D:Int} {ba bb:Nat} {VA VB:Nat→Int} (h:Ap8 w wc A B X Y D ba bb VA VB) (hs:Fr (fun b=>b=g) wc w') (hg:g<w.heap.size):Ap8 w w' A B X Y D ba bb VA VB:=by
 have ga:=h.ga
 have gb:=h.gb
 have k:=fun j=>hs.cell (p:=⟨w.heap.size,j,none⟩) h.l0 (by simp;omega)
 exact⟨(k 0).trans h.k0,(k 1).trans h.k1,(k 2).trans h.k2,(k 3).trans h.k3,(k 4).trans h.k4,fun j hj=>(hs.cell (p:=⟨ba,j,none⟩) h.la (by simp;omega)).trans (h.ca j hj),fun j hj=>(hs.cell (p:=⟨bb,j,none⟩) h.lb (by simp;omega)).trans (h.cb j hj),Nat.lt_of_lt_of_le h.l0 hs.size,Nat.lt_of_lt_of_le h.la hs.size,Nat.lt_of_lt_of_le h.lb hs.size,h.ga,h.gb⟩
end Go.Proofs.YtbdbbdjifgpgeaaGreat
