/- Texts of a proof. -/
import Derived.Test.YthajilkjfkppoaaGreatDoorB19
import Derived.Deep.RegionHeld3
import Derived.Deep.DeepCutAuto
import Derived.Test.YthajilkjfkppoaaGreatDoorB9
import Derived.Test.YthajilkjfkppoaaGreatDoorB15
import Derived.Deep.AppendLies
import Derived.Laws.OwnMore
import Derived.Test.YthajilkjfkppoaaGreatDoorB16
set_option maxHeartbeats 16000000
set_option maxRecDepth 20000
namespace Go.Proofs.YthajilkjfkppoaaGreatDoor
open Go.RowKit
set_option linter.unusedVariables false
set_option linter.unusedSimpArgs false
structure Hide (p:Prop):Prop where
 out:p
theorem tdiv_le {x B m:Int} (hm:0<m) (hB:0≤B) (h: -(B*m)≤x∧x≤B*m): -B≤x.tdiv m∧x.tdiv m≤B:=by
 by_cases h0:0≤x
 · rw[Int.tdiv_eq_ediv_of_nonneg h0]
   have q1:=Int.ediv_nonneg h0 (Int.le_of_lt hm)
   exact⟨by omega,Int.ediv_le_of_le_mul hm h.2⟩
 · have e:x.tdiv m= -((-x)/m):=by rw[←Int.tdiv_eq_ediv_of_nonneg (show 0≤ -x by omega),Int.neg_tdiv,Int.neg_neg]
   rw[e]
   have q1:=Int.ediv_nonneg (show 0≤ -x by omega) (Int.le_of_lt hm)
   have q2:=Int.ediv_le_of_le_mul hm (show-x≤B*m by omega)
   omega
def shareV (V W:Nat→Int) (n:Int):Int:=bif decide (V 8=0) then 0 else bif decide (W 8=0) then n else (n*W 8).tdiv (V 8+W 8)
theorem share_bd {V W:Nat→Int} {n:Int} (h0:0≤V 8) (h1:0≤W 8) (hn:0≤n):0≤shareV V W n∧shareV V W n≤n:=by
 unfold shareV
 by_cases m0:V 8=0
 · rw[decide_eq_true m0];exact⟨Int.le_refl _,hn⟩
 · rw[decide_eq_false m0]
   by_cases m1:W 8=0
   · rw[decide_eq_true m1];exact⟨hn,Int.le_refl _⟩
   · rw[decide_eq_false m1]
     show 0≤(n*W 8).tdiv (V 8+W 8)∧(n*W 8).tdiv (V 8+W 8)≤n
     have p0:0≤n*W 8:=Int.mul_nonneg hn h1
     rw[Int.tdiv_eq_ediv_of_nonneg p0]
     refine⟨Int.ediv_nonneg p0 (by omega),?_⟩
     refine Int.ediv_le_of_le_mul (by omega) ?_
     exact Int.mul_le_mul_of_nonneg_left (by omega) hn
theorem l8Share_q (V W:Nat→Int) (n x:Int) (w:World) (h0:0≤V 8∧V 8≤1000) (h1:0≤W 8∧W 8≤1000) (hn: -30000≤n∧n≤30000) (ex:shareV V W n=x):
 Calls Tryz.prog 110 #[bodyW V,bodyW W,.int .i64 n] w fun e w'=>e= .returned (.int .i64 x)∧Below w.heap.size w w':=by
 have hset:=cset_map
 have p:=mul_bd (a:=n) (b:=W 8) (A:=30000) (B:=1000) (by omega) (by omega)
 have q:=tdiv_bd (x:=n*W 8) (B:=30000000) (V 8+W 8) (by omega)
 have w1:IntKind.i64.wrap (n*W 8)=n*W 8:=i64w (by omega)
 have w2:IntKind.i64.wrap (V 8+W 8)=V 8+W 8:=i64w (by omega)
 have w3:IntKind.i64.wrap ((n*W 8).tdiv (V 8+W 8))=(n*W 8).tdiv (V 8+W 8):=i64w (by omega)
 by_cases m0:V 8=0
 · have ex':x=0:=by rw[←ex];unfold shareV;rw[decide_eq_true m0];rfl
   subst ex'
   have e1:(V 8==0)=true:=by simp[m0]
   have M0:Shut (V 8=0):=m0
   clear m0 ex
   go_enter Tryz.func110,Tryz.ntmps110
   go_wp2_with fail
   go_ret
   exact⟨rfl,bel_a⟩
 · have e1:(V 8==0)=false:=by simp[m0]
   by_cases m1:W 8=0
   · have ex':x=n:=by rw[←ex];unfold shareV;rw[decide_eq_false m0,decide_eq_true m1];rfl
     subst ex'
     have e2:(W 8==0)=true:=by simp[m1]
     have M1:Shut (W 8=0):=m1
     clear m1 ex w1 w2 w3 p q
     go_enter Tryz.func110,Tryz.ntmps110
     go_wp2_with fail
     go_ret
     exact⟨rfl,bel_a⟩
   · have ex':(n*W 8).tdiv (V 8+W 8)=x:=by rw[←ex];unfold shareV;rw[decide_eq_false m0,decide_eq_false m1];rfl
     have e2:(W 8==0)=false:=by simp[m1]
     have e3:¬ V 8+W 8=0:=by omega
     clear ex
     go_enter Tryz.func110,Tryz.ntmps110
     go_wp2_with fail
     go_ret
     exact⟨by first|rfl|(rw[←ex'])|simp[ex'],bel_a⟩
def apartU (U:Nat→Int) (A B:Nat) (X Y D:Int):Nat→Int:=
 bif decide (0<(D-64).tdiv 4) then
  (let U1:=bif decide (0<U (A*12+8)) then putRow U A (moveV (fun j=>U (A*12+j)) ((-X*shareV (fun j=>U (A*12+j)) (fun j=>U (B*12+j)) ((D-64).tdiv 4)).tdiv 256) ((-Y*shareV (fun j=>U (A*12+j)) (fun j=>U (B*12+j)) ((D-64).tdiv 4)).tdiv 256)) else U
   bif decide (0<U (B*12+8)) then putRow U1 B (moveV (fun j=>U (B*12+j)) ((X*shareV (fun j=>U (B*12+j)) (fun j=>U (A*12+j)) ((D-64).tdiv 4)).tdiv 256) ((Y*shareV (fun j=>U (B*12+j)) (fun j=>U (A*12+j)) ((D-64).tdiv 4)).tdiv 256)) else U1)
 else U
structure Ap8 (w wc:World) (A B:Nat) (X Y D:Int) (ba bb:Nat) (VA VB:Nat→Int):Prop where
 k0:wc.cell? ⟨w.heap.size,0,none⟩=some (.int .i64 (A:Int))
 k1:wc.cell? ⟨w.heap.size,1,none⟩=some (.int .i64 (B:Int))
 k2:wc.cell? ⟨w.heap.size,2,none⟩=some (.int .i64 X)
 k3:wc.cell? ⟨w.heap.size,3,none⟩=some (.int .i64 Y)
 k4:wc.cell? ⟨w.heap.size,4,none⟩=some (.int .i64 D)
 ca:∀ j,j<12→wc.cell? ⟨ba,j,none⟩=some (.int .i64 (VA j))
 cb:∀ j,j<12→wc.cell? ⟨bb,j,none⟩=some (.int .i64 (VB j))
 l0:w.heap.size<wc.heap.size
 la:ba<wc.heap.size
 lb:bb<wc.heap.size
 ga:w.heap.size<ba
 gb:w.heap.size<bb
theorem Ap8.on {w wc w':World} {A B:Nat} {X Y D:Int} {ba bb:Nat} {VA VB:Nat→Int} (h:Ap8 w wc A B X Y D ba bb VA VB) (hb:Below wc.heap.size wc w'):Ap8 w w' A B X Y D ba bb VA VB:=
 have k:=fun j=>hb.cell (p:=⟨w.heap.size,j,none⟩) h.l0
 ⟨(k 0).trans h.k0,(k 1).trans h.k1,(k 2).trans h.k2,(k 3).trans h.k3,(k 4).trans h.k4,fun j hj=>(hb.cell (p:=⟨ba,j,none⟩) h.la).trans (h.ca j hj),fun j hj=>(hb.cell (p:=⟨bb,j,none⟩) h.lb).trans (h.cb j hj),Nat.lt_of_lt_of_le h.l0 hb.size,Nat.lt_of_lt_of_le h.la hb.size,Nat.lt_of_lt_of_le h.lb hb.size,h.ga,h.gb⟩
theorem Ap8.fr {w wc w':World} {A B g:Nat} {X Y D:Int} {ba bb:Nat} {VA VB:Nat→Int} (h:Ap8 w wc A B X Y D ba bb VA VB) (hs:Fr (fun b=>b=g) wc w') (hg:g<w.heap.size):Ap8 w w' A B X Y D ba bb VA VB:=by
 have ga:=h.ga
 have gb:=h.gb
 have k:=fun j=>hs.cell (p:=⟨w.heap.size,j,none⟩) h.l0 (by simp;omega)
 exact⟨(k 0).trans h.k0,(k 1).trans h.k1,(k 2).trans h.k2,(k 3).trans h.k3,(k 4).trans h.k4,fun j hj=>(hs.cell (p:=⟨ba,j,none⟩) h.la (by simp;omega)).trans (h.ca j hj),fun j hj=>(hs.cell (p:=⟨bb,j,none⟩) h.lb (by simp;omega)).trans (h.cb j hj),Nat.lt_of_lt_of_le h.l0 hs.size,Nat.lt_of_lt_of_le h.la hs.size,Nat.lt_of_lt_of_le h.lb hs.size,h.ga,h.gb⟩
structure LV (w wr:World) (t g cap n:Nat) (xs:List Value):Prop where
 bel:Below w.heap.size w wr
 len:xs.length=n
 own:wr.ownsRow w.heap.size t 1 (.slice (some ⟨g,0,none⟩) n cap) n xs
theorem LV.new {w wr:World} (t:Nat) (h:Below w.heap.size w wr) {s:Nat} (e:wr.heap.size=s):LV w (wr.alloc (.cells #[] t)) t s 0 0 []:=by
 subst e
 exact⟨h.alloc h.size _,rfl,⟨rfl,.inr ⟨wr.heap.size,0, #[],rfl,h.size,Go.Deep.blk_alloc_new _ _,Nat.le_refl _,Nat.zero_le _,by simp,by simp⟩⟩⟩
theorem LV.lt {w wr:World} {t g cap n:Nat} {xs:List Value} (h:LV w wr t g cap n xs):w.heap.size≤g∧g<wr.heap.size:=World.ownsRow.lt h.own g rfl
theorem LV.fro {w wr:World} {t g cap n:Nat} {xs:List Value} (h:LV w wr t g cap n xs) (j:Nat):wr.frozen? ⟨g,j,none⟩=false:=World.ownsRow.frozenAt h.own j
theorem LV.cell {w wr:World} {t g cap n:Nat} {xs:List Value} (h:LV w wr t g cap n xs) {j:Nat} {u:Value} (hu:xs[j]? =some u):wr.cell? ⟨g,j,none⟩=some u:=by
 have hj:j<n:=by rw[←h.len];exact(List.getElem?_eq_some_iff.1 hu).1
 rw[World.ownsRow.cellAt h.own j (by omega),hu]
theorem LV.on {w wr w':World} {t g cap n:Nat} {xs:List Value} (h:LV w wr t g cap n xs) (hb:Below wr.heap.size wr w'):LV w w' t g cap n xs:=
 ⟨h.bel.trans (hb.mono h.bel.size),h.len,World.ownsRow.kept h.own (below_grown hb rfl) (.inr (by simp[Value.ownBlock]))⟩
theorem LV.dr {w wr:World} {t g cap n:Nat} {xs:List Value} (h:LV w wr t g cap n xs):LV w wr.drew t g cap n xs:=h.on (Below.drew (Below.refl _ _))
theorem LV.set {w wr:World} {t g cap n:Nat} {xs:List Value} (h:LV w wr t g cap n xs) (j:Nat) (u:Value):LV w (wr.setCell ⟨g,j,none⟩ u) t g cap n (xs.set j u):=
 ⟨h.bel.setCell h.lt.1 _,by rw[List.length_set];exact h.len,(World.ownsRow.stored h.own j u).1⟩
theorem LV.ne {w wr:World} {t g cap n:Nat} {xs:List Value} (h:LV w wr t g cap n xs) {b:Nat} (hb:w.heap.size≤b) (hn:b≠g) (j:Nat) (u:Value):LV w (wr.setCell ⟨b,j,none⟩ u) t g cap n xs:=
 ⟨h.bel.setCell hb _,h.len,World.ownsRow.kept h.own (row:=some b) (by
  have hs:=Fr.setCell (X:=fun k=>k=b) (w:=wr) (p:=⟨b,j,none⟩) rfl u
  exact⟨hs.os,hs.tape,hs.output,hs.size,fun k hk hne=>hs.block k hk (fun e=>hne (by rw[e]))⟩) (.inr (by simp[Value.ownBlock];exact fun e=>hn e.symm))⟩
theorem LV.kept {w wr w':World} {t g cap n row:Nat} {xs:List Value} (h:LV w wr t g cap n xs) (hg:wr.grownBy w' (some row)) (hb:w.heap.size≤row) (hn:row≠g):LV w w' t g cap n xs:=
 ⟨h.bel.grown hg h.bel.size (fun b e=>by cases e;exact hb),h.len,World.ownsRow.kept h.own hg (.inr (by simp[Value.ownBlock];exact fun e=>hn e.symm))⟩
theorem wpList_push {P:Program} {ops:Array Oper} {rest:List Oper} {o:Oper} {a:Act} {Q:Exit→Act→World→Prop} {w wr wx:World} (hgd:o.guard=none) (s x:Operand) (t:TypeId)
 (ho:o.op= .call {callee:= .builtin .append,args:= #[s,x],argTypes:= #[t,t]})
 (e bytes:Nat) (z:Value) (ht:P.underlying t=some (.slice e)) (hinfo:(P.info? e).map (fun i=>(i.zero,i.size,i.bytes))=some (some z,1,bytes)) (hzs:z.cells.size=1) (hby:bytes≤8)
 (g cap n:Nat) (xs:List Value) (hs:a.eval s= .slice (some ⟨g,0,none⟩) n cap) (h:LV w wr e g cap n xs) (hb:Below wr.heap.size wr wx) (b:Nat) (hx:a.eval x= .slice (some ⟨b,0,none⟩) 1 1) (u:Value) (hu:wx.cell? ⟨b,0,none⟩=some u) (h1:u.oneCell'=true)
 (hn:n≤1048576) (hK:∀ g' cap' w',LV w w' e g' cap' (n+1) (xs++[u])→wx.grownBy w' (some g)→(g'=g∨g'=wx.heap.size)→wpList P ops Q rest (a.put o.dst (.slice (some ⟨g',0,none⟩) (n+1) cap')) w'):wpList P ops Q (o::rest) a wx:=by
 obtain⟨i,hi,hzz⟩:=Option.map_eq_some_iff.1 hinfo
 simp only[Prod.mk.injEq] at hzz
 obtain⟨hz,hsz,hb8⟩:=hzz
 have hw:=h.on hb
 refine wpList_append_lies wx hgd s x t ho w.heap.size e i z 1 bytes ht hi hz hsz hb8 hzs (by decide) (.slice (some ⟨g,0,none⟩) n cap) n xs hs hw.own ⟨b,0,none⟩ 1 1 [u] hx rfl ?_ ?_ (by decide) (by unfold maxLen;omega) ?_ hw.bel.size _ rfl ?_
 · intro j v hv
   cases j with
   |zero=>simp at hv;subst hv;exact hu
   |succ j=>simp at hv
 · intro v hv;simp at hv;rw[hv];exact h1
 · have:(n+1)*bytes≤(n+1)*8:=Nat.mul_le_mul_left _ hby
   omega
 · intro g' cap' w' r1 r2 r3 r4
   refine hK g' cap' w' ⟨hw.bel.grown r2 hw.bel.size (fun b e=>by cases e;exact hw.lt.1),by rw[List.length_append,hw.len];rfl,r1⟩ r2 ?_
   rcases r3 with r3|r3
   · simp[Value.ownBlock] at r3;exact .inl r3.symm
   · exact .inr r3
def IV (l:List Int):List Value:=l.map (Value.int .i64)
theorem IV_app (l:List Int) (x:Int):IV l++[.int .i64 x]=IV (l++[x]):=by unfold IV;rw[List.map_append];rfl
theorem IV_set (l:List Int) (j:Nat) (x:Int):(IV l).set j (.int .i64 x)=IV (l.set j x):=by unfold IV;rw[List.map_set]
theorem IV_len (l:List Int):(IV l).length=l.length:=by unfold IV;rw[List.length_map]
theorem IV_get {l:List Int} {j:Nat} (h:j<l.length):(IV l)[j]? =some (.int .i64 (ofL l j)):=by
 unfold IV ofL
 rw[List.getElem?_map,List.getElem?_eq_getElem h,List.getD_eq_getElem?_getD,List.getElem?_eq_getElem h]
 rfl
theorem LV.flat {w wr:World} {t g cap n:Nat} {l:List Int} (h:LV w wr t g cap n (IV l)):Flat wr (some ⟨g,0,none⟩) (n*1) (ofL l):=by
 intro h0
 refine⟨g,0,rfl,h.lt.2,fun j hj=> ?_⟩
 rw[Nat.zero_add]
 have hl:=h.len
 rw[IV_len] at hl
 exact h.cell (IV_get (by omega))
theorem LV.ic {w wr:World} {t g cap n:Nat} {l:List Int} (h:LV w wr t g cap n (IV l)) {j:Nat} (hj:j<n):wr.cell? ⟨g,j,none⟩=some (.int .i64 (ofL l j)):=by
 have hl:=h.len
 rw[IV_len] at hl
 exact h.cell (IV_get (by omega))
abbrev zcInt:Value:= .int .i64 0
theorem infoInt:(Tryz.prog.info? 3).map (fun i=>(i.zero,i.size,i.bytes))=some (some zcInt,1,8):=by kernel_rfl
def rowU (U:Nat→Int) (z:Int):Nat→Int:=fun j=>U (z.toNat*12+j)
def liveC (U C:Nat→Int) (k:Nat):Bool:=liveV (rowU U (C (k*5)))||liveV (rowU U (C (k*5+1)))
def liveL (U C:Nat→Int):Nat→List Int
 |0=>[]
 |k+1=>liveL U C k++(if liveC U C k=true then [C (k*5),C (k*5+1),C (k*5+2),C (k*5+3),C (k*5+4)] else [])
theorem liveL_yes {U C:Nat→Int} {k:Nat} (h:liveC U C k=true):liveL U C (k+1)=liveL U C k++[C (k*5),C (k*5+1),C (k*5+2),C (k*5+3),C (k*5+4)]:=by rw[liveL,if_pos h]
theorem liveL_no {U C:Nat→Int} {k:Nat} (h:liveC U C k=false):liveL U C (k+1)=liveL U C k:=by rw[liveL,if_neg (by rw[h];decide),List.append_nil]
theorem liveL_len (U C:Nat→Int):∀ k,(liveL U C k).length≤k*5
 |0=>by simp[liveL]
 | k+1=>by
   have:=liveL_len U C k
   cases h:liveC U C k with
   |true=>rw[liveL_yes h,List.length_append];simp;omega
   |false=>rw[liveL_no h];omega
abbrev zcCon:Value:= .agg #[.int .i64 0,.int .i64 0,.int .i64 0,.int .i64 0,.int .i64 0]
theorem infoCon:(Tryz.prog.info? 40).map (fun i=>(i.zero,i.size,i.bytes))=some (some zcCon,5,40):=by kernel_rfl
theorem flatC (w:World) (p q r s u:Int) (t:TypeId):Flat (w.alloc (Obj.cells #[.int .i64 p,.int .i64 q,.int .i64 r,.int .i64 s,.int .i64 u] t)) (some ⟨w.heap.size,0,none⟩) (1*5) (ofL [p,q,r,s,u]):=by
 intro _
 refine⟨w.heap.size,0,rfl,by simp,fun j hj=> ?_⟩
 rw[Nat.zero_add]
 rcases(show j=0∨j=1∨j=2∨j=3∨j=4 by omega) with rfl|rfl|rfl|rfl|rfl<;>(simp only[ofL];go_simp;(try rfl))
theorem l9Live_any (a:Option Addr) (n c:Nat) (U:Nat→Int) (ac:Option Addr) (m cc:Nat) (C:Nat→Int) (w:World) (h:Flat w a (n*12) U) (hn:n≤1048576) (hm:m≤1048576) (h2:Flat w ac (m*5) C) (hC:∀ k,k<m→(0≤C (k*5)∧C (k*5)<(n:Int))∧(0≤C (k*5+1)∧C (k*5+1)<(n:Int))):
 Calls Tryz.prog 42 #[.slice a n c,.slice ac m cc] w fun e w'=>∃ a1 m1 c1,e= .returned (.slice a1 m1 c1)∧(liveL U C m).length=m1*5∧OutL w w' 40 5 a1 m1 c1 (ofL (liveL U C m)):=by
 have hset:=cset_map
 go_enter Tryz.func42,Tryz.ntmps42
 go_wp2_with fail
 go_loopw [5,6,7,8] (fun s5 s6 _ _ wr=>∃ (k:Nat) (a1:Option Addr) (m1 c1:Nat),k≤m∧s6= .int .i64 (k:Int)∧s5= .slice a1 m1 c1∧LsV w wr 40 5 a1 m1 c1 (liveL U C k)) (fun _ s6 _ _ _=>m-(intOf s6).toNat)
 case atStart=>exact⟨0,_,_,_,Nat.zero_le _,rfl,rfl,LsV.new w _ _⟩
 case round=>
  obtain⟨k,a1,m1,c1,hk,rfl,rfl,hL⟩:=hrel
  by_cases hlt:k<m
  · have hkm:(k:Int)<(m:Int):=by omega
    obtain⟨⟨cA0,cA1⟩,⟨cB0,cB1⟩⟩:=hC k hlt
    obtain⟨b2,o2,e2,hbl2,hc2⟩:=(h2.below hL.bel) (by omega)
    have r0:=hc2 (k*5) (by omega)
    have r1:=hc2 (k*5+1) (by omega)
    have r2:=hc2 (k*5+2) (by omega)
    have r3:=hc2 (k*5+3) (by omega)
    have r4:=hc2 (k*5+4) (by omega)
    simp only[←Nat.add_assoc] at r0 r1 r2 r3 r4
    clear hc2
    subst e2
    obtain⟨LV,hLVe⟩:∃ b,liveC U C k=b:=⟨_,rfl⟩
    have hLV:Shut (liveC U C k=LV):=hLVe
    clear hLVe
    obtain⟨zA,hzAe⟩:∃ z,C (k*5)=z:=⟨_,rfl⟩
    obtain⟨zB,hzBe⟩:∃ z,C (k*5+1)=z:=⟨_,rfl⟩
    rw[hzAe] at r0 cA0 cA1
    rw[hzBe] at r1 cB0 cB1
    have hzA:Shut (C (k*5)=zA):=hzAe
    have hzB:Shut (C (k*5+1)=zB):=hzBe
    clear hzAe hzBe
    obtain⟨b,o,e1,hbl,hc⟩:=(h.below hL.bel) (by omega)
    have p0:=hc (zA.toNat*12) (by omega)
    have p1:=hc (zA.toNat*12+1) (by omega)
    have p2:=hc (zA.toNat*12+2) (by omega)
    have p3:=hc (zA.toNat*12+3) (by omega)
    have p4:=hc (zA.toNat*12+4) (by omega)
    have p5:=hc (zA.toNat*12+5) (by omega)
    have p6:=hc (zA.toNat*12+6) (by omega)
    have p7:=hc (zA.toNat*12+7) (by omega)
    have p8:=hc (zA.toNat*12+8) (by omega)
    have p9:=hc (zA.toNat*12+9) (by omega)
    have p10:=hc (zA.toNat*12+10) (by omega)
    have p11:=hc (zA.toNat*12+11) (by omega)
    have q0:=hc (zB.toNat*12) (by omega)
    have q1:=hc (zB.toNat*12+1) (by omega)
    have q2:=hc (zB.toNat*12+2) (by omega)
    have q3:=hc (zB.toNat*12+3) (by omega)
    have q4:=hc (zB.toNat*12+4) (by omega)
    have q5:=hc (zB.toNat*12+5) (by omega)
    have q6:=hc (zB.toNat*12+6) (by omega)
    have q7:=hc (zB.toNat*12+7) (by omega)
    have q8:=hc (zB.toNat*12+8) (by omega)
    have q9:=hc (zB.toNat*12+9) (by omega)
    have q10:=hc (zB.toNat*12+10) (by omega)
    have q11:=hc (zB.toNat*12+11) (by omega)
    simp only[←Nat.add_assoc] at p0 q0 p1 q1 p2 q2 p3 q3 p4 q4 p5 q5 p6 q6 p7 q7 p8 q8 p9 q9 p10 q10 p11 q11
    clear hc
    subst e1
    go_upto_region 7 with fail
    obtain⟨wa,hwa⟩:∃ x,(wr.alloc (Obj.cells #[.int .i64 (U (zA.toNat*12)),.int .i64 (U (zA.toNat*12+1)),.int .i64 (U (zA.toNat*12+2)),.int .i64 (U (zA.toNat*12+3)),.int .i64 (U (zA.toNat*12+4)),.int .i64 (U (zA.toNat*12+5)),.int .i64 (U (zA.toNat*12+6)),.int .i64 (U (zA.toNat*12+7)),.int .i64 (U (zA.toNat*12+8)),.int .i64 (U (zA.toNat*12+9)),.int .i64 (U (zA.toNat*12+10)),.int .i64 (U (zA.toNat*12+11))] 35))=x:=⟨_,rfl⟩
    obtain⟨wx,hwx⟩:∃ x,wa.alloc (Obj.cells #[.int .i64 (U (zB.toNat*12)),.int .i64 (U (zB.toNat*12+1)),.int .i64 (U (zB.toNat*12+2)),.int .i64 (U (zB.toNat*12+3)),.int .i64 (U (zB.toNat*12+4)),.int .i64 (U (zB.toNat*12+5)),.int .i64 (U (zB.toNat*12+6)),.int .i64 (U (zB.toNat*12+7)),.int .i64 (U (zB.toNat*12+8)),.int .i64 (U (zB.toNat*12+9)),.int .i64 (U (zB.toNat*12+10)),.int .i64 (U (zB.toNat*12+11))] 35)=x:=⟨_,rfl⟩
    have hE1:Below wr.heap.size wr wa:=by rw[←hwa];exact(Below.refl _ _).alloc (Nat.le_refl _) _
    have hE2:Below wa.heap.size wa wx:=by rw[←hwx];exact(Below.refl _ _).alloc (Nat.le_refl _) _
    have hL2:=(hL.below hE1).below hE2
    have x0A:wx.cell? ⟨wr.heap.size,0,none⟩=some (.int .i64 (U (zA.toNat*12))):=by subst hwx hwa;go_simp
    have x1A:wx.cell? ⟨wr.heap.size,1,none⟩=some (.int .i64 (U (zA.toNat*12+1))):=by subst hwx hwa;go_simp
    have x2A:wx.cell? ⟨wr.heap.size,2,none⟩=some (.int .i64 (U (zA.toNat*12+2))):=by subst hwx hwa;go_simp
    have x3A:wx.cell? ⟨wr.heap.size,3,none⟩=some (.int .i64 (U (zA.toNat*12+3))):=by subst hwx hwa;go_simp
    have x4A:wx.cell? ⟨wr.heap.size,4,none⟩=some (.int .i64 (U (zA.toNat*12+4))):=by subst hwx hwa;go_simp
    have x5A:wx.cell? ⟨wr.heap.size,5,none⟩=some (.int .i64 (U (zA.toNat*12+5))):=by subst hwx hwa;go_simp
    have x6A:wx.cell? ⟨wr.heap.size,6,none⟩=some (.int .i64 (U (zA.toNat*12+6))):=by subst hwx hwa;go_simp
    have x7A:wx.cell? ⟨wr.heap.size,7,none⟩=some (.int .i64 (U (zA.toNat*12+7))):=by subst hwx hwa;go_simp
    have x8A:wx.cell? ⟨wr.heap.size,8,none⟩=some (.int .i64 (U (zA.toNat*12+8))):=by subst hwx hwa;go_simp
    have x9A:wx.cell? ⟨wr.heap.size,9,none⟩=some (.int .i64 (U (zA.toNat*12+9))):=by subst hwx hwa;go_simp
    have x10A:wx.cell? ⟨wr.heap.size,10,none⟩=some (.int .i64 (U (zA.toNat*12+10))):=by subst hwx hwa;go_simp
    have x11A:wx.cell? ⟨wr.heap.size,11,none⟩=some (.int .i64 (U (zA.toNat*12+11))):=by subst hwx hwa;go_simp
    have x0B:wx.cell? ⟨wr.heap.size+1,0,none⟩=some (.int .i64 (U (zB.toNat*12))):=by subst hwx hwa;go_simp
    have x1B:wx.cell? ⟨wr.heap.size+1,1,none⟩=some (.int .i64 (U (zB.toNat*12+1))):=by subst hwx hwa;go_simp
    have x2B:wx.cell? ⟨wr.heap.size+1,2,none⟩=some (.int .i64 (U (zB.toNat*12+2))):=by subst hwx hwa;go_simp
    have x3B:wx.cell? ⟨wr.heap.size+1,3,none⟩=some (.int .i64 (U (zB.toNat*12+3))):=by subst hwx hwa;go_simp
    have x4B:wx.cell? ⟨wr.heap.size+1,4,none⟩=some (.int .i64 (U (zB.toNat*12+4))):=by subst hwx hwa;go_simp
    have x5B:wx.cell? ⟨wr.heap.size+1,5,none⟩=some (.int .i64 (U (zB.toNat*12+5))):=by subst hwx hwa;go_simp
    have x6B:wx.cell? ⟨wr.heap.size+1,6,none⟩=some (.int .i64 (U (zB.toNat*12+6))):=by subst hwx hwa;go_simp
    have x7B:wx.cell? ⟨wr.heap.size+1,7,none⟩=some (.int .i64 (U (zB.toNat*12+7))):=by subst hwx hwa;go_simp
    have x8B:wx.cell? ⟨wr.heap.size+1,8,none⟩=some (.int .i64 (U (zB.toNat*12+8))):=by subst hwx hwa;go_simp
    have x9B:wx.cell? ⟨wr.heap.size+1,9,none⟩=some (.int .i64 (U (zB.toNat*12+9))):=by subst hwx hwa;go_simp
    have x10B:wx.cell? ⟨wr.heap.size+1,10,none⟩=some (.int .i64 (U (zB.toNat*12+10))):=by subst hwx hwa;go_simp
    have x11B:wx.cell? ⟨wr.heap.size+1,11,none⟩=some (.int .i64 (U (zB.toNat*12+11))):=by subst hwx hwa;go_simp
    have hla:wr.heap.size<wx.heap.size:=by subst hwx hwa;simp;omega
    have hlb:wr.heap.size+1<wx.heap.size:=by subst hwx hwa;simp
    have hrk:∀ j,j<5→wx.cell? ⟨b2,o2+(k*5+j),none⟩=wr.cell? ⟨b2,o2+(k*5+j),none⟩:=fun j hj=>by subst hwx hwa;go_simp
    rw[hwa,hwx]
    clear hwx hwa
    generalize wr.heap.size+1=bb at hlb x0B x1B x2B x3B x4B x5B x6B x7B x8B x9B x10B x11B ⊢
    clear hL p0 q0 p1 q1 p2 q2 p3 q3 p4 q4 p5 q5 p6 q6 p7 q7 p8 q8 p9 q9 p10 q10 p11 q11 r0 r1 r2 r3 r4 hrk hE2
    generalize wr.heap.size=ba at hla hE1 x0A x1A x2A x3A x4A x5A x6A x7A x8A x9A x10A x11A ⊢
    clear hE1
    obtain⟨SA,hSA⟩:∃ b,decide (8≤(rowU U zA) 11)=b:=⟨_,rfl⟩
    obtain⟨SB,hSB⟩:∃ b,decide (8≤(rowU U zB) 11)=b:=⟨_,rfl⟩
    go_cut [49] (fun s wc=>s= .bool LV∧LsV w wc 40 5 a1 m1 c1 (liveL U C k))
    case first=>
     by_cases hmA:0<U (zA.toNat*12+8)
     · cases SA with
       | false=>
         have LA:Shut (liveV (rowU U zA)=true):=live_t (V:=rowU U zA) hmA hSA
         go_wp2_with (go_at_call 79;refine(l6Sleeps_k (rowU U zA) _ false hSA).mono ?_;rintro e w7 ⟨rfl,hb7⟩)
         go_meet
         exact⟨by rw[←hLV.out];unfold liveC;rw[hzA.out,hzB.out,LA.out];rfl,(hL2.below hb7)⟩
       | true=>
         have LA:Shut (liveV (rowU U zA)=false):=live_s hSA
         by_cases hmB:0<U (zB.toNat*12+8)
         · cases SB with
           | true=>
             have LB:Shut (liveV (rowU U zB)=false):=live_s hSB
             go_wp2_with (first
              |(have _:=hb7;go_at_call 79;refine(l6Sleeps_k (rowU U zB) _ true hSB).mono ?_;rintro e w8 ⟨rfl,hb8⟩)
              |(go_at_call 79;refine(l6Sleeps_k (rowU U zA) _ true hSA).mono ?_;rintro e w7 ⟨rfl,hb7⟩;obtain⟨hc7,hf7⟩:=bcell hb7;have y0:=(hc7 bb 0 hlb).trans x0B;have y1:=(hc7 bb 1 hlb).trans x1B;have y2:=(hc7 bb 2 hlb).trans x2B;have y3:=(hc7 bb 3 hlb).trans x3B;have y4:=(hc7 bb 4 hlb).trans x4B;have y5:=(hc7 bb 5 hlb).trans x5B;have y6:=(hc7 bb 6 hlb).trans x6B;have y7:=(hc7 bb 7 hlb).trans x7B;have y8:=(hc7 bb 8 hlb).trans x8B;have y9:=(hc7 bb 9 hlb).trans x9B;have y10:=(hc7 bb 10 hlb).trans x10B;have y11:=(hc7 bb 11 hlb).trans x11B;clear hc7 hf7))
             go_meet
             exact⟨by rw[←hLV.out];unfold liveC;rw[hzA.out,hzB.out,LA.out,LB.out];rfl,((hL2.below hb7).below hb8)⟩
           | false=>
             have LB:Shut (liveV (rowU U zB)=true):=live_t (V:=rowU U zB) hmB hSB
             go_wp2_with (first
              |(have _:=hb7;go_at_call 79;refine(l6Sleeps_k (rowU U zB) _ false hSB).mono ?_;rintro e w8 ⟨rfl,hb8⟩)
              |(go_at_call 79;refine(l6Sleeps_k (rowU U zA) _ true hSA).mono ?_;rintro e w7 ⟨rfl,hb7⟩;obtain⟨hc7,hf7⟩:=bcell hb7;have y0:=(hc7 bb 0 hlb).trans x0B;have y1:=(hc7 bb 1 hlb).trans x1B;have y2:=(hc7 bb 2 hlb).trans x2B;have y3:=(hc7 bb 3 hlb).trans x3B;have y4:=(hc7 bb 4 hlb).trans x4B;have y5:=(hc7 bb 5 hlb).trans x5B;have y6:=(hc7 bb 6 hlb).trans x6B;have y7:=(hc7 bb 7 hlb).trans x7B;have y8:=(hc7 bb 8 hlb).trans x8B;have y9:=(hc7 bb 9 hlb).trans x9B;have y10:=(hc7 bb 10 hlb).trans x10B;have y11:=(hc7 bb 11 hlb).trans x11B;clear hc7 hf7))
             go_meet
             exact⟨by rw[←hLV.out];unfold liveC;rw[hzA.out,hzB.out,LA.out,LB.out];rfl,((hL2.below hb7).below hb8)⟩
         · have LB:Shut (liveV (rowU U zB)=false):=live_m (V:=rowU U zB) hmB
           go_wp2_with (go_at_call 79;refine(l6Sleeps_k (rowU U zA) _ true hSA).mono ?_;rintro e w7 ⟨rfl,hb7⟩;obtain⟨hc7,hf7⟩:=bcell hb7;have y0:=(hc7 bb 0 hlb).trans x0B;have y1:=(hc7 bb 1 hlb).trans x1B;have y2:=(hc7 bb 2 hlb).trans x2B;have y3:=(hc7 bb 3 hlb).trans x3B;have y4:=(hc7 bb 4 hlb).trans x4B;have y5:=(hc7 bb 5 hlb).trans x5B;have y6:=(hc7 bb 6 hlb).trans x6B;have y7:=(hc7 bb 7 hlb).trans x7B;have y8:=(hc7 bb 8 hlb).trans x8B;have y9:=(hc7 bb 9 hlb).trans x9B;have y10:=(hc7 bb 10 hlb).trans x10B;have y11:=(hc7 bb 11 hlb).trans x11B;clear hc7 hf7)
           go_meet
           exact⟨by rw[←hLV.out];unfold liveC;rw[hzA.out,hzB.out,LA.out,LB.out];rfl,(hL2.below hb7)⟩
     · have LA:Shut (liveV (rowU U zA)=false):=live_m (V:=rowU U zA) hmA
       by_cases hmB:0<U (zB.toNat*12+8)
       · cases SB with
         | true=>
           have LB:Shut (liveV (rowU U zB)=false):=live_s hSB
           go_wp2_with (go_at_call 79;refine(l6Sleeps_k (rowU U zB) _ true hSB).mono ?_;rintro e w8 ⟨rfl,hb8⟩)
           go_meet
           exact⟨by rw[←hLV.out];unfold liveC;rw[hzA.out,hzB.out,LA.out,LB.out];rfl,(hL2.below hb8)⟩
         | false=>
           have LB:Shut (liveV (rowU U zB)=true):=live_t (V:=rowU U zB) hmB hSB
           go_wp2_with (go_at_call 79;refine(l6Sleeps_k (rowU U zB) _ false hSB).mono ?_;rintro e w8 ⟨rfl,hb8⟩)
           go_meet
           exact⟨by rw[←hLV.out];unfold liveC;rw[hzA.out,hzB.out,LA.out,LB.out];rfl,(hL2.below hb8)⟩
       · have LB:Shut (liveV (rowU U zB)=false):=live_m (V:=rowU U zB) hmB
         go_wp2_with fail
         go_meet
         exact⟨by rw[←hLV.out];unfold liveC;rw[hzA.out,hzB.out,LA.out,LB.out];rfl,hL2⟩
    case rest=>
    clear hL2 hla hlb hSA hSB x0A x0B x1A x1B x2A x2B x3A x3B x4A x4B x5A x5B x6A x6B x7A x7B x8A x8B x9A x9B x10A x10B x11A x11B
    obtain⟨rfl,hL⟩:=hcut
    cases LV with
    | false=>
      have HNO:Shut (liveL U C (k+1)=liveL U C k):=liveL_no hLV.out
      go_wp2_with fail
      go_roundw
      case rel=>exact⟨k+1,_,_,_,by omega,by go_num,rfl,by rw[HNO.out];exact hL⟩
      case measure=>simp[intOf];omega
    | true=>
      have HYE:Shut (liveL U C (k+1)=liveL U C k++[zA,zB,C (k*5+2),C (k*5+3),C (k*5+4)]):=by show _=_;rw[liveL_yes hLV.out,hzA.out,hzB.out]
      obtain⟨b2',o2',e2,hbl2',hc2⟩:=(h2.below hL.bel) (by omega)
      simp only[Option.some.injEq,Addr.mk.injEq,and_true] at e2
      obtain⟨rfl,rfl⟩:=e2
      have r0:=hc2 (k*5) (by omega)
      have r1:=hc2 (k*5+1) (by omega)
      have r2:=hc2 (k*5+2) (by omega)
      have r3:=hc2 (k*5+3) (by omega)
      have r4:=hc2 (k*5+4) (by omega)
      simp only[←Nat.add_assoc] at r0 r1 r2 r3 r4
      rw[hzA.out] at r0
      rw[hzB.out] at r1
      clear hc2
      have hle:=liveL_len U C k
      have hlen:=hL.len
      have hwz:=hL.bel.size
      go_wp2_with (refine wpList_app rfl _ _ _ rfl w.heap.size 40 5 40 zcCon Tryz.underlying28 infoCon rfl (by decide) (.slice a1 m1 c1) m1 (ofL (liveL U C k)) rfl (hL.below ((Below.refl _ _).alloc (Nat.le_refl _) _)).own _ 1 _ (ofL [zA,zB,C (k*5+2),C (k*5+3),C (k*5+4)]) rfl (flatC _ _ _ _ _ _ _) (by unfold maxLen;omega) (by omega) (by simp only[World.size_alloc];omega) ?_;intro a3 c3 w3 ho3 hg3)
      have hP:=(hL.below ((Below.refl _ _).alloc (Nat.le_refl _) _)).push (x:=[zA,zB,C (k*5+2),C (k*5+3),C (k*5+4)]) rfl hg3 ho3
      go_roundw
      case rel=>exact⟨k+1,_,_,_,by omega,by go_num,rfl,by rw[HYE.out];exact hP⟩
      case measure=>simp[intOf];omega
  · obtain rfl:k=m:=by omega
    go_wp2_with fail
    go_ret
    exact⟨_,_,_,rfl,hL.len,hL.out (Below.refl _ _)⟩
end Go.Proofs.YthajilkjfkppoaaGreatDoor
