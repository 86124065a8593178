/- Texts of a proof. -/
import Derived.Test.YtcalhcfinkhemaaGreatDoorB22
import Derived.Test.YtcalhcfinkhemaaGreatDoorB21
import Derived.Deep.AppendLies
import Derived.Laws.OwnMore
import Derived.Deep.RegionHeld3
import Derived.Deep.DeepCutAuto
import Derived.Test.YtcalhcfinkhemaaGreatDoorDrawBk
import Derived.Test.YtcalhcfinkhemaaGreatDoorB2
import Derived.Test.YtcalhcfinkhemaaGreatDoorB14
import Derived.Test.YtcalhcfinkhemaaGreatDoorB5
set_option maxHeartbeats 16000000
set_option maxRecDepth 20000
namespace Go.Proofs.YtcalhcfinkhemaaGreatDoor
open Go.RowKit
set_option linter.unusedVariables false
set_option linter.unusedSimpArgs false
structure LV (w wr:World) (t g cap n:Nat) (xs:List Value):Prop where
 bel:Below w.heap.size w wr
 len:xs.length=n
 own:wr.ownsRow w.heap.size t 1 (.slice (some ⟨g,0,none⟩) n cap) n xs
theorem LV.new {w wr:World} (t:Nat) (h:Below w.heap.size w wr) {s:Nat} (e:wr.heap.size=s):LV w (wr.alloc (.cells #[] t)) t s 0 0 []:=by
 subst e
 exact⟨h.alloc h.size _,rfl,⟨rfl,.inr ⟨wr.heap.size,0, #[],rfl,h.size,Go.Deep.blk_alloc_new _ _,Nat.le_refl _,Nat.zero_le _,by simp,by simp⟩⟩⟩
theorem LV.lt {w wr:World} {t g cap n:Nat} {xs:List Value} (h:LV w wr t g cap n xs):w.heap.size≤g∧g<wr.heap.size:=World.ownsRow.lt h.own g rfl
theorem LV.fro {w wr:World} {t g cap n:Nat} {xs:List Value} (h:LV w wr t g cap n xs) (j:Nat):wr.frozen? ⟨g,j,none⟩=false:=World.ownsRow.frozenAt h.own j
theorem LV.cell {w wr:World} {t g cap n:Nat} {xs:List Value} (h:LV w wr t g cap n xs) {j:Nat} {u:Value} (hu:xs[j]? =some u):wr.cell? ⟨g,j,none⟩=some u:=by
 have hj:j<n:=by rw[←h.len];exact(List.getElem?_eq_some_iff.1 hu).1
 rw[World.ownsRow.cellAt h.own j (by omega),hu]
theorem LV.on {w wr w':World} {t g cap n:Nat} {xs:List Value} (h:LV w wr t g cap n xs) (hb:Below wr.heap.size wr w'):LV w w' t g cap n xs:=
 ⟨h.bel.trans (hb.mono h.bel.size),h.len,World.ownsRow.kept h.own (below_grown hb rfl) (.inr (by simp[Value.ownBlock]))⟩
theorem LV.dr {w wr:World} {t g cap n:Nat} {xs:List Value} (h:LV w wr t g cap n xs):LV w wr.drew t g cap n xs:=h.on (Below.drew (Below.refl _ _))
theorem LV.set {w wr:World} {t g cap n:Nat} {xs:List Value} (h:LV w wr t g cap n xs) (j:Nat) (u:Value):LV w (wr.setCell ⟨g,j,none⟩ u) t g cap n (xs.set j u):=
 ⟨h.bel.setCell h.lt.1 _,by rw[List.length_set];exact h.len,(World.ownsRow.stored h.own j u).1⟩
theorem LV.ne {w wr:World} {t g cap n:Nat} {xs:List Value} (h:LV w wr t g cap n xs) {b:Nat} (hb:w.heap.size≤b) (hn:b≠g) (j:Nat) (u:Value):LV w (wr.setCell ⟨b,j,none⟩ u) t g cap n xs:=
 ⟨h.bel.setCell hb _,h.len,World.ownsRow.kept h.own (row:=some b) (by
  have hs:=Fr.setCell (X:=fun k=>k=b) (w:=wr) (p:=⟨b,j,none⟩) rfl u
  exact⟨hs.os,hs.tape,hs.output,hs.size,fun k hk hne=>hs.block k hk (fun e=>hne (by rw[e]))⟩) (.inr (by simp[Value.ownBlock];exact fun e=>hn e.symm))⟩
theorem LV.kept {w wr w':World} {t g cap n row:Nat} {xs:List Value} (h:LV w wr t g cap n xs) (hg:wr.grownBy w' (some row)) (hb:w.heap.size≤row) (hn:row≠g):LV w w' t g cap n xs:=
 ⟨h.bel.grown hg h.bel.size (fun b e=>by cases e;exact hb),h.len,World.ownsRow.kept h.own hg (.inr (by simp[Value.ownBlock];exact fun e=>hn e.symm))⟩
theorem wpList_push {P:Program} {ops:Array Oper} {rest:List Oper} {o:Oper} {a:Act} {Q:Exit→Act→World→Prop} {w wr wx:World} (hgd:o.guard=none) (s x:Operand) (t:TypeId)
 (ho:o.op= .call {callee:= .builtin .append,args:= #[s,x],argTypes:= #[t,t]})
 (e bytes:Nat) (z:Value) (ht:P.underlying t=some (.slice e)) (hinfo:(P.info? e).map (fun i=>(i.zero,i.size,i.bytes))=some (some z,1,bytes)) (hzs:z.cells.size=1) (hby:bytes≤8)
 (g cap n:Nat) (xs:List Value) (hs:a.eval s= .slice (some ⟨g,0,none⟩) n cap) (h:LV w wr e g cap n xs) (hb:Below wr.heap.size wr wx) (b:Nat) (hx:a.eval x= .slice (some ⟨b,0,none⟩) 1 1) (u:Value) (hu:wx.cell? ⟨b,0,none⟩=some u) (h1:u.oneCell'=true)
 (hn:n≤1048576) (hK:∀ g' cap' w',LV w w' e g' cap' (n+1) (xs++[u])→wx.grownBy w' (some g)→(g'=g∨g'=wx.heap.size)→wpList P ops Q rest (a.put o.dst (.slice (some ⟨g',0,none⟩) (n+1) cap')) w'):wpList P ops Q (o::rest) a wx:=by
 obtain⟨i,hi,hzz⟩:=Option.map_eq_some_iff.1 hinfo
 simp only[Prod.mk.injEq] at hzz
 obtain⟨hz,hsz,hb8⟩:=hzz
 have hw:=h.on hb
 refine wpList_append_lies wx hgd s x t ho w.heap.size e i z 1 bytes ht hi hz hsz hb8 hzs (by decide) (.slice (some ⟨g,0,none⟩) n cap) n xs hs hw.own ⟨b,0,none⟩ 1 1 [u] hx rfl ?_ ?_ (by decide) (by unfold maxLen;omega) ?_ hw.bel.size _ rfl ?_
 · intro j v hv
   cases j with
   |zero=>simp at hv;subst hv;exact hu
   |succ j=>simp at hv
 · intro v hv;simp at hv;rw[hv];exact h1
 · have:(n+1)*bytes≤(n+1)*8:=Nat.mul_le_mul_left _ hby
   omega
 · intro g' cap' w' r1 r2 r3 r4
   refine hK g' cap' w' ⟨hw.bel.grown r2 hw.bel.size (fun b e=>by cases e;exact hw.lt.1),by rw[List.length_append,hw.len];rfl,r1⟩ r2 ?_
   rcases r3 with r3|r3
   · simp[Value.ownBlock] at r3;exact .inl r3.symm
   · exact .inr r3
def IV (l:List Int):List Value:=l.map (Value.int .i64)
theorem IV_app (l:List Int) (x:Int):IV l++[.int .i64 x]=IV (l++[x]):=by unfold IV;rw[List.map_append];rfl
theorem IV_set (l:List Int) (j:Nat) (x:Int):(IV l).set j (.int .i64 x)=IV (l.set j x):=by unfold IV;rw[List.map_set]
theorem IV_len (l:List Int):(IV l).length=l.length:=by unfold IV;rw[List.length_map]
theorem IV_get {l:List Int} {j:Nat} (h:j<l.length):(IV l)[j]? =some (.int .i64 (ofL l j)):=by
 unfold IV ofL
 rw[List.getElem?_map,List.getElem?_eq_getElem h,List.getD_eq_getElem?_getD,List.getElem?_eq_getElem h]
 rfl
theorem LV.flat {w wr:World} {t g cap n:Nat} {l:List Int} (h:LV w wr t g cap n (IV l)):Flat wr (some ⟨g,0,none⟩) (n*1) (ofL l):=by
 intro h0
 refine⟨g,0,rfl,h.lt.2,fun j hj=> ?_⟩
 rw[Nat.zero_add]
 have hl:=h.len
 rw[IV_len] at hl
 exact h.cell (IV_get (by omega))
theorem LV.ic {w wr:World} {t g cap n:Nat} {l:List Int} (h:LV w wr t g cap n (IV l)) {j:Nat} (hj:j<n):wr.cell? ⟨g,j,none⟩=some (.int .i64 (ofL l j)):=by
 have hl:=h.len
 rw[IV_len] at hl
 exact h.cell (IV_get (by omega))
abbrev zcInt:Value:= .int .i64 0
theorem infoInt:(Tryz.prog.info? 3).map (fun i=>(i.zero,i.size,i.bytes))=some (some zcInt,1,8):=by kernel_rfl
def ApartDoes:Prop:=∀ (base g n c:Nat) (U:Nat→Int) (A B:Nat) (X Y D:Int) (w:World),OwnL w base 33 12 (.slice (some ⟨g,0,none⟩) n c) n U→n≤1048576→A<n→B<n→Bods n U→(-256≤X∧X≤256)→(-256≤Y∧Y≤256)→(0≤D∧D≤102400)→Calls Tryz.prog 77 #[.slice (some ⟨g,0,none⟩) n c,.agg #[.int .i64 (A:Int),.int .i64 (B:Int),.int .i64 X,.int .i64 Y,.int .i64 D]] w fun e w'=>e= .returned (.tuple #[])∧OwnL w' base 33 12 (.slice (some ⟨g,0,none⟩) n c) n (apartU U A B X Y D)∧Fr (fun b=>b=g) w w'
theorem l8Aparts_of (HA:ApartDoes) (a:Option Addr) (n c:Nat) (U:Nat→Int) (ac:Option Addr) (m cc:Nat) (C:Nat→Int) (w:World) (h:Flat w a (n*12) U) (hn:n≤1048576) (hm:m≤1048576) (h2:Flat w ac (m*5) C) (hbb:Bods n U) (hC:CtOk n m C):
 Calls Tryz.prog 51 #[.slice a n c,.slice ac m cc] w fun e w'=>∃ a1 c1,e= .returned (.slice a1 n c1)∧OutL w w' 33 12 a1 n c1 (apartN C U m):=by
 have hset:=cset_map
 go_enter Tryz.func51,Tryz.ntmps51
 go_upto_region 1 with fail
 go_cut [5] (fun s0 wc=>∃ a1 c1,s0= .slice a1 n c1∧OutL w wc 33 12 a1 n c1 U)
 case first=>
  go_wp2_with (go_at_call 35;refine(l8Copy_any a n c U _ h hn).mono ?_;rintro e w3 ⟨a1,c1,rfl,hO⟩)
  go_meet
  exact⟨_,_,rfl,hO⟩
 case rest=>
 obtain⟨a1,c1,rfl,hO⟩:=hcut
 go_upto_region 3 with fail
 go_loopw [6] (fun s wr=>∃ k:Nat,k≤m∧s= .int .i64 (k:Int)∧OutL w wr 33 12 a1 n c1 (apartN C U k)) (fun s _=>m-(intOf s).toNat)
 case atStart=>exact⟨0,Nat.zero_le _,rfl,hO⟩
 case round=>
  clear hO
  obtain⟨k,hk,rfl,hO⟩:=hrel
  by_cases hlt:k<m
  · have hkm:(k:Int)<(m:Int):=by omega
    have ca:=hC.a k hlt
    have cb:=hC.b k hlt
    have cx:=hC.x k hlt
    have cy:=hC.y k hlt
    have cd:=hC.d k hlt
    have hB:=(hbb.aparts hC k hk).1
    obtain⟨b2,o2,e2,hbl2,hc2⟩:=(h2.below hO.bel) (by omega)
    have r0:=hc2 (k*5) (by omega)
    have r1:=hc2 (k*5+1) (by omega)
    have r2:=hc2 (k*5+2) (by omega)
    have r3:=hc2 (k*5+3) (by omega)
    have r4:=hc2 (k*5+4) (by omega)
    simp only[←Nat.add_assoc] at r0 r1 r2 r3 r4
    clear hc2
    subst e2
    have HN:Shut (apartN C U (k+1)=apartU (apartN C U k) (C (k*5)).toNat (C (k*5+1)).toNat (C (k*5+2)) (C (k*5+3)) (C (k*5+4))):=by show _=_;rw[apartN]
    obtain⟨A,hA⟩:∃ A:Nat,C (k*5)=(A:Int):=⟨(C (k*5)).toNat,by omega⟩
    obtain⟨B,hBB⟩:∃ B:Nat,C (k*5+1)=(B:Int):=⟨(C (k*5+1)).toNat,by omega⟩
    rw[hA,hBB,Int.toNat_natCast,Int.toNat_natCast] at HN
    rw[hA] at ca r0
    rw[hBB] at cb r1
    clear hA hBB
    obtain⟨g,rfl,hg1,hg2⟩:=hO.own.loc (by omega)
    go_wp2_with (go_at_call 77;refine(HA w.heap.size g n c1 (apartN C U k) A B _ _ _ _ hO.own hn (by omega) (by omega) hB cx cy cd).mono ?_;rintro e w5 ⟨rfl,ho5,hf5⟩)
    have hB5:Below w.heap.size w w5:=hO.bel.trans (hf5.below (by have:=hO.bel.size;omega) (fun b e=>by omega))
    go_roundw
    case rel=>exact⟨k+1,by omega,by go_num,hB5,by rw[HN.out];exact ho5⟩
    case measure=>simp[intOf];omega
  · obtain rfl:k=m:=by omega
    go_wp2_with fail
    go_ret
    exact⟨_,_,rfl,hO⟩
theorem Rd.upto {w w':World} {rb p B:Nat} (h:Rd w rb p) (k:Below B w w') (hB:rb<B):Rd w' rb p:=by
 obtain⟨a,len,cap,c0,c1,f1,hle,hz⟩:=h
 refine⟨a,len,cap,by rw[k.cell hB];exact c0,by rw[k.cell hB];exact c1,by rw[k.frozen hB];exact f1,hle,?_⟩
 rcases hz with hz|⟨b,off,ha,hb,hz⟩
 · exact .inl hz
 · exact .inr ⟨b,off,ha,hb,fun i hi=>by obtain⟨z,h1,h2⟩:=hz i hi;exact⟨z,by rw[k.cell (p:=⟨b,off+i,none⟩) (by show b<B;omega)];exact h1,h2⟩⟩
theorem RS.upto {w w':World} {rb p B:Nat} (h:RS w rb p) (k:Below B w w') (hB:rb<B):RS w' rb p:=by
 obtain⟨q,a,b⟩:=h;exact⟨q,a,b.upto k hB⟩
theorem OwnL.but {w w':World} {rb base t k n:Nat} {v:Value} {U:Nat→Int} (h:OwnL w base t k v n U) (hb:But rb w w') (hr:rb<base):OwnL w' base t k v n U:=by
 have hg:w.grownBy w' (Option.some rb):=⟨hb.os,hb.tape,hb.output,hb.size,fun j hj hne=>hb.block j hj (fun e=>hne (by rw[e]))⟩
 cases e:v.ownBlock with
 |none=>exact World.ownsRow.kept h hg (.inl e)
 |some b=>exact World.ownsRow.kept h hg (.inr (by rw[e];intro q;have:=(h.lt b e).1;simp at q;omega))
structure Dg (w wr:World) (rb p:Nat) (v:Value) (n:Nat) (U:Nat→Int) (L:Bls):Prop where
 bl:BL w wr rb p L
 own:OwnL wr w.heap.size 33 12 v n U
 ne:∀ x∈L,v.ownBlock≠some x.1
theorem Dg.call {w wr w1:World} {rb p p1 n:Nat} {v:Value} {U:Nat→Int} {L:Bls} (h:Dg w wr rb p v n U L) (k:RB wr w1 rb p1):Dg w w1 rb p1 v n U L:=⟨h.bl.call k,h.own.but k.but h.bl.lo,h.ne⟩
theorem Dg.calb {w wr w1:World} {rb p n:Nat} {v:Value} {U:Nat→Int} {L:Bls} (h:Dg w wr rb p v n U L) (k:Below wr.heap.size wr w1):Dg w w1 rb p v n U L:=⟨h.bl.calb k,h.own.below k,h.ne⟩
theorem Dg.mono {w wr:World} {rb p p1 n:Nat} {v:Value} {U:Nat→Int} {L:Bls} (h:Dg w wr rb p v n U L) (k:p≤p1):Dg w wr rb p1 v n U L:=⟨h.bl.mono k,h.own,h.ne⟩
theorem Dg.drew {w wr:World} {rb p n:Nat} {v:Value} {U:Nat→Int} {L:Bls} (h:Dg w wr rb p v n U L):Dg w wr.drew rb p v n U L:=⟨h.bl.drew,h.own.drewO,h.ne⟩
theorem Dg.sub {w wr:World} {rb p n:Nat} {v:Value} {U:Nat→Int} {L M:Bls} (h:Dg w wr rb p v n U L) (k:∀ x∈M,x∈L):Dg w wr rb p v n U M:=⟨h.bl.sub k,h.own,fun x hx=>h.ne x (k x hx)⟩
theorem Dg.new {w wr:World} {rb p n:Nat} {v:Value} {U:Nat→Int} {L:Bls} (h:Dg w wr rb p v n U L) (b m:Nat) (V:Nat→Int) {cs:Array Value} {t:TypeId} (hb:b=wr.heap.size) (hc:∀ i,i<m→cs[i]? =some (.int .i64 (V i))):Dg w (wr.alloc (.cells cs t)) rb p v n U ((b,m,V)::L):=
 ⟨h.bl.new b m V hb hc,h.own.below (balloc _ _),fun x hx=>by
  rcases List.mem_cons.mp hx with rfl|hx
  · intro e;have:=(h.own.lt _ e).2;dsimp only at this;omega
  · exact h.ne x hx⟩
theorem Dg.set {w wr:World} {rb p n b m:Nat} {v:Value} {U V:Nat→Int} {L:Bls} (h:Dg w wr rb p v n U ((b,m,V)::L)) (hne:∀ x∈L,x.1≠b) (k:Nat) (hk:k<m) (z:Int):Dg w (wr.setCell ⟨b,k,none⟩ (.int .i64 z)) rb p v n U ((b,m,fun j=>if j=k then z else V j)::L):=
 ⟨h.bl.set hne k hk z,h.own.frame (Fr.setCell (X:=fun j=>j=b) rfl _) (fun j e x=>by subst x;exact h.ne (j,m,V) (List.mem_cons_self ..) e),fun x hx=>by
  rcases List.mem_cons.mp hx with rfl|hx
  · exact h.ne (b,m,V) (List.mem_cons_self ..)
  · exact h.ne x (List.mem_cons_of_mem _ hx)⟩
theorem Dg.headc {w wr:World} {rb p n b m:Nat} {v:Value} {U V V':Nat→Int} {L:Bls} (h:Dg w wr rb p v n U ((b,m,V)::L)) (k:∀ i,i<m→V i=V' i):Dg w wr rb p v n U ((b,m,V')::L):=
 ⟨h.bl.headc k,h.own,fun x hx=>by
  rcases List.mem_cons.mp hx with rfl|hx
  · exact h.ne (b,m,V) (List.mem_cons_self ..)
  · exact h.ne x (List.mem_cons_of_mem _ hx)⟩
theorem Dg.grown {w wr w':World} {rb p n n':Nat} {v v':Value} {U U':Nat→Int} {L:Bls} (h:Dg w wr rb p v n U L) (hg:wr.grownBy w' v.ownBlock) (ho:OwnL w' w.heap.size 33 12 v' n' U'):Dg w w' rb p v' n' U' []:=by
 have hsz:=h.bl.but.size
 have hB:Below w.heap.size wr w':=(Below.refl w.heap.size wr).grown hg hsz (fun b e=>(h.own.lt b e).1)
 exact⟨⟨h.bl.rs.upto hB h.bl.lo,⟨hB.os.trans h.bl.but.os,hB.tape.trans h.bl.but.tape,hB.output.trans h.bl.but.output,Nat.le_trans hsz hB.size,fun k hk hn=>(hB.block k hk).trans (h.bl.but.block k hk hn)⟩,h.bl.lo,fun x hx=>by cases hx⟩,ho,fun x hx=>by cases hx⟩
theorem Dg.start {w:World} {rb p:Nat} (h:RS w rb p) (U:Nat→Int):Dg w (w.alloc (.cells #[] 33)) rb p (.slice (some ⟨w.heap.size,0,none⟩) 0 0) 0 U []:=
 ⟨(BL.start h).alloc _,OwnL.fresh0 w w.heap.size 33 12 U _ rfl (Nat.le_refl _),fun x hx=>by cases hx⟩
theorem Bods.push {n:Nat} {U V:Nat→Int} (h:Bods n U) (hn:n<12) (hV:bodyB V=true) (hi:∀ k,k<n→U (k*12)<V 0):Bods (n+1) (cat (n*12) U V):=by
 have a1:∀ k j,k<n→j<12→cat (n*12) U V (k*12+j)=U (k*12+j):=fun k j hk hj=>by unfold cat;rw[if_pos (by omega)]
 have a2:∀ j,cat (n*12) U V (n*12+j)=V j:=fun j=>by unfold cat;rw[if_neg (by omega),Nat.add_sub_cancel_left]
 refine⟨hn,fun k hk=> ?_,fun k hk=> ?_⟩
 · by_cases e:k=n
   · subst e;rw[bodyB_cong (fun j _=>a2 j)];exact hV
   · rw[bodyB_cong (fun j hj=>a1 k j (by omega) hj)];exact h.ok k (by omega)
 · have b1:=a1 k 0 (by omega) (by omega)
   rw[Nat.add_zero] at b1
   rw[b1]
   by_cases e:k+1=n
   · have b2:=a2 0;rw[Nat.add_zero] at b2;rw[e,b2];exact hi k (by omega)
   · have b2:=a1 (k+1) 0 (by omega) (by omega);rw[Nat.add_zero] at b2;rw[b2];exact h.asc k (by omega)
theorem bod_at {V:Nat→Int} (h:bodyB V=true) {x y:Int} (hx: -2560000≤x∧x≤2560000) (hy: -2560000≤y∧y≤2560000):bodyB (setV (setV V 4 x) 5 y)=true:=by
 unfold bodyB at h ⊢
 have e:inB 2560000 x y=true:=by unfold inB;simp;omega
 have r:restB (setV (setV V 4 x) 5 y)=restB V:=rfl
 show (decide (0≤V 0∧V 0≤999999999)&&(shB (V 1) (V 2) (V 3)&&(inB 2560000 x y&&_)))=true
 simp only[Bool.and_eq_true] at h ⊢
 exact⟨h.1,h.2.1,e,h.2.2.2⟩
theorem l11AnyPlace_s (rb p:Nat) (w:World) (hs0:RS w rb p) (hp:p≤997000):
 Calls Tryz.prog 72 #[.pointer (some ⟨rb,0,none⟩)] w fun e w'=>∃ x y:Int,e= .returned (vv x y)∧(Bn x∧Bn y)∧RB w w' rb (p+600):=by
 have hlt:=hs0.lt
 have hne:(w.heap.size=rb)=False:=eq_false (by omega)
 have hset:=cset_map
 go_enter Tryz.func72,Tryz.ntmps72
 go_wp2_with (first
  |(have _:=hr1;go_at_call 37;refine(pick_s rb (p+200) _ _ (by repeat(first|(with_reducible apply RS.setNew;rotate_left;(first|omega|(simp only[zz];omega)))|with_reducible apply RS.alloc|(with_reducible apply RS.up hr1;omega)|(with_reducible apply RS.mono hs0;omega)|with_reducible apply RS.drew|with_reducible apply RS.drewN)) (by omega) (by omega) (by omega)).mono ?_;rintro e w2 ⟨v2,rfl,va2,vb2,hr2⟩;obtain⟨hc2,hf2⟩:=RB.cells hr2;have hz2:=RB.size hr2;(try simp only[zz] at hc2 hf2 hz2);have hq2x0:w.heap.size<w2.heap.size:=(by omega);have ha2x0:(w2.heap.size=w.heap.size)=False:=eq_false (by omega);have hb2x0:(w.heap.size=w2.heap.size)=False:=eq_false (by omega);have he2x0:(w.heap.size=rb)=False:=eq_false (by omega);have hk2x0:=fun o=>hc2 (w.heap.size) o (by omega) (by omega);have hj2x0:=fun o=>hf2 (w.heap.size) o (by omega) (by omega);have hq2x1:w1.heap.size<w2.heap.size:=(by omega);have ha2x1:(w2.heap.size=w1.heap.size)=False:=eq_false (by omega);have hb2x1:(w1.heap.size=w2.heap.size)=False:=eq_false (by omega);have he2x1:(w1.heap.size=rb)=False:=eq_false (by omega);have hk2x1:=fun o=>hc2 (w1.heap.size) o (by omega) (by omega);have hj2x1:=fun o=>hf2 (w1.heap.size) o (by omega) (by omega))
  |(have _:=hr2;go_at_call 24;refine(one_s (-2560001) 2560001 rb (p+300) _ _ _ _ _ (by repeat(first|(with_reducible apply RS.setNew;rotate_left;(first|omega|(simp only[zz];omega)))|with_reducible apply RS.alloc|(with_reducible apply RS.up hr2;omega)|(with_reducible apply RS.mono hs0;omega)|with_reducible apply RS.drew|with_reducible apply RS.drewN)) (by omega) (by repeat(first|exact AllBd.nil|refine AllBd.cons (by omega) (by omega) ?_)) (by rfl) (by omega) (by omega)).mono ?_;rintro e w3 ⟨v3,rfl,va3,vb3,hr3⟩;obtain⟨hc3,hf3⟩:=RB.cells hr3;have hz3:=RB.size hr3;(try simp only[zz] at hc3 hf3 hz3);have hq3x0:w.heap.size<w3.heap.size:=(by omega);have ha3x0:(w3.heap.size=w.heap.size)=False:=eq_false (by omega);have hb3x0:(w.heap.size=w3.heap.size)=False:=eq_false (by omega);have he3x0:(w.heap.size=rb)=False:=eq_false (by omega);have hk3x0:=fun o=>hc3 (w.heap.size) o (by omega) (by omega);have hj3x0:=fun o=>hf3 (w.heap.size) o (by omega) (by omega);have hq3x1:w1.heap.size<w3.heap.size:=(by omega);have ha3x1:(w3.heap.size=w1.heap.size)=False:=eq_false (by omega);have hb3x1:(w1.heap.size=w3.heap.size)=False:=eq_false (by omega);have he3x1:(w1.heap.size=rb)=False:=eq_false (by omega);have hk3x1:=fun o=>hc3 (w1.heap.size) o (by omega) (by omega);have hj3x1:=fun o=>hf3 (w1.heap.size) o (by omega) (by omega))
  |(go_at_call 102;refine(l11Place_s rb (p+100) _ (by repeat(first|(with_reducible apply RS.setNew;rotate_left;(first|omega|(simp only[zz];omega)))|with_reducible apply RS.alloc|(with_reducible apply RS.mono hs0;omega)|with_reducible apply RS.drew|with_reducible apply RS.drewN)) (by omega)).mono ?_;rintro e w1 ⟨x1,y1,rfl,hd1,hr1⟩;obtain⟨hc1,hf1⟩:=RB.cells hr1;have hz1:=RB.size hr1;(try simp only[zz] at hc1 hf1 hz1);have hq1x0:w.heap.size<w1.heap.size:=(by omega);have ha1x0:(w1.heap.size=w.heap.size)=False:=eq_false (by omega);have hb1x0:(w.heap.size=w1.heap.size)=False:=eq_false (by omega);have he1x0:(w.heap.size=rb)=False:=eq_false (by omega);have hk1x0:=fun o=>hc1 (w.heap.size) o (by omega) (by omega);have hj1x0:=fun o=>hf1 (w.heap.size) o (by omega) (by omega);obtain⟨⟨x1a,x1b⟩,⟨y1a,y1b⟩⟩:=hd1))
 · exact bodyPost_ret (v:=vv v3 y1) (by simp[results,Tryz.results72,go_sem, *]) rfl ⟨_,_,rfl,⟨Bn.mk ⟨by omega,by omega⟩,Bn.mk ⟨by omega,by omega⟩⟩,RB.mk (by repeat(first|(with_reducible apply But.setNew;rotate_left;(first|omega|(simp only[zz];omega)))|with_reducible apply But.alloc|with_reducible apply But.trans (k:=RB.but hr3)|with_reducible apply But.trans (k:=RB.but hr2)|with_reducible apply But.trans (k:=RB.but hr1)|with_reducible apply But.refl|with_reducible apply But.drewN|with_reducible apply But.drew)) (by repeat(first|(with_reducible apply RS.setNew;rotate_left;(first|omega|(simp only[zz];omega)))|with_reducible apply RS.alloc|(with_reducible apply RS.up hr3;omega)|(with_reducible apply RS.up hr2;omega)|(with_reducible apply RS.up hr1;omega)|(with_reducible apply RS.mono hs0;omega)|with_reducible apply RS.drew|with_reducible apply RS.drewN))⟩
 · exact bodyPost_ret (v:=vv x1 v3) (by simp[results,Tryz.results72,go_sem, *]) rfl ⟨_,_,rfl,⟨Bn.mk ⟨by omega,by omega⟩,Bn.mk ⟨by omega,by omega⟩⟩,RB.mk (by repeat(first|(with_reducible apply But.setNew;rotate_left;(first|omega|(simp only[zz];omega)))|with_reducible apply But.alloc|with_reducible apply But.trans (k:=RB.but hr3)|with_reducible apply But.trans (k:=RB.but hr2)|with_reducible apply But.trans (k:=RB.but hr1)|with_reducible apply But.refl|with_reducible apply But.drewN|with_reducible apply But.drew)) (by repeat(first|(with_reducible apply RS.setNew;rotate_left;(first|omega|(simp only[zz];omega)))|with_reducible apply RS.alloc|(with_reducible apply RS.up hr3;omega)|(with_reducible apply RS.up hr2;omega)|(with_reducible apply RS.up hr1;omega)|(with_reducible apply RS.mono hs0;omega)|with_reducible apply RS.drew|with_reducible apply RS.drewN))⟩
 · exact bodyPost_ret (v:=vv x1 y1) (by simp[results,Tryz.results72,go_sem, *]) rfl ⟨_,_,rfl,⟨Bn.mk ⟨by omega,by omega⟩,Bn.mk ⟨by omega,by omega⟩⟩,RB.mk (by repeat(first|(with_reducible apply But.setNew;rotate_left;(first|omega|(simp only[zz];omega)))|with_reducible apply But.alloc|with_reducible apply But.trans (k:=RB.but hr2)|with_reducible apply But.trans (k:=RB.but hr1)|with_reducible apply But.refl|with_reducible apply But.drewN|with_reducible apply But.drew)) (by repeat(first|(with_reducible apply RS.setNew;rotate_left;(first|omega|(simp only[zz];omega)))|with_reducible apply RS.alloc|(with_reducible apply RS.up hr2;omega)|(with_reducible apply RS.up hr1;omega)|(with_reducible apply RS.mono hs0;omega)|with_reducible apply RS.drew|with_reducible apply RS.drewN))⟩
def Blk (w:World) (b:Nat) (cs:Array Value) (t:TypeId):Prop:=w.heap[b]? =some (.cells cs t (0,0))
theorem Blk.lt {w:World} {b:Nat} {cs:Array Value} {t:TypeId} (h:Blk w b cs t):b<w.heap.size:=by
 rcases Nat.lt_or_ge b w.heap.size with q|q
 · exact q
 · unfold Blk at h;rw[Array.getElem?_eq_none q] at h;cases h
theorem Blk.cell {w:World} {b:Nat} {cs:Array Value} {t:TypeId} (h:Blk w b cs t) (i:Nat) {v:Value} (hv:cs[i]? =some v):w.cell? ⟨b,i,none⟩=some v:=by unfold Blk at h;simp[World.cell?,h,hv]
theorem Blk.f {w:World} {b:Nat} {cs:Array Value} {t:TypeId} (h:Blk w b cs t):∀ o,w.frozen? ⟨b,o,none⟩=false:=by unfold Blk at h;intro o;simp[World.frozen?,h]
theorem Blk.on {w w':World} {b:Nat} {cs:Array Value} {t:TypeId} (h:Blk w b cs t) (hb:Below w.heap.size w w'):Blk w' b cs t:=(hb.block b h.lt).trans h
theorem Blk.but {w w':World} {b rb:Nat} {cs:Array Value} {t:TypeId} (h:Blk w b cs t) (hb:But rb w w') (hn:b≠rb):Blk w' b cs t:=(hb.block b h.lt hn).trans h
theorem Blk.new (w:World) (cs:Array Value) (t:TypeId):Blk (w.alloc (.cells cs t)) w.heap.size cs t:=by show (w.heap.push _)[w.heap.size]? =_;simp
theorem Blk.al {w:World} {b:Nat} {cs:Array Value} {t:TypeId} (h:Blk w b cs t) (o:Obj):Blk (w.alloc o) b cs t:=h.on ((Below.refl _ _).alloc (Nat.le_refl _) o)
theorem Blk.dr {w:World} {b:Nat} {cs:Array Value} {t:TypeId} (h:Blk w b cs t):Blk w.drew b cs t:=h
theorem Blk.far {w:World} {b b' o:Nat} {cs:Array Value} {t:TypeId} (h:Blk w b cs t) (hn:b≠b') (v:Value):Blk (w.setCell ⟨b',o,none⟩ v) b cs t:=(Below.heap_setCell w ⟨b',o,none⟩ v b hn).trans h
theorem Blk.put {w:World} {b:Nat} {cs:Array Value} {t:TypeId} (h:Blk w b cs t) (i:Nat) (v:Value):Blk (w.setCell ⟨b,i,none⟩ v) b (cs.setIfInBounds i v) t:=by
 show (w.heap.modify b _)[b]? =_
 unfold Blk at h
 rw[Array.getElem?_modify,if_pos rfl,h]
 rfl
theorem Blk.ne {w:World} {b base t t' k n:Nat} {cs:Array Value} {v:Value} {U:Nat→Int} (h:Blk w b cs t') (ho:OwnL w base t k v n U) (ht:t≠t'):v.ownBlock≠some b:=by
 intro e
 rcases ho.2 with⟨hv,_⟩|⟨g',cap,cur,hv,hb,hg,_⟩
 · subst hv;simp[Value.ownBlock] at e
 · subst hv
   simp[Value.ownBlock] at e
   subst e
   unfold Blk at h
   rw[h] at hg
   simp only[Option.some.injEq,Obj.cells.injEq] at hg
   exact ht hg.2.1.symm
theorem OwnL.dr {w:World} {base t k n:Nat} {v:Value} {U:Nat→Int} (h:OwnL w base t k v n U):OwnL w.drew base t k v n U:=World.ownsRow.drew h
theorem OwnL.al {w:World} {base t k n:Nat} {v:Value} {U:Nat→Int} (h:OwnL w base t k v n U) (o:Obj):OwnL (w.alloc o) base t k v n U:=h.below ((Below.refl _ _).alloc (Nat.le_refl _) o)
theorem OwnL.btb {w w':World} {rb base t k n:Nat} {v:Value} {U:Nat→Int} (h:OwnL w base t k v n U) (hb:But rb w w') (hr:rb<base):OwnL w' base t k v n U:=by
 have hg:w.grownBy w' (Option.some rb):=⟨hb.os,hb.tape,hb.output,hb.size,fun j hj hne=>hb.block j hj (fun e=>hne (by rw[e]))⟩
 cases e:v.ownBlock with
 |none=>exact World.ownsRow.kept h hg (.inl e)
 |some b=>exact World.ownsRow.kept h hg (.inr (by rw[e];intro q;have:=(h.lt b e).1;simp at q;omega))
theorem RB.al {w0 w:World} {rb p:Nat} (h:RB w0 w rb p) (o:Obj):RB w0 (w.alloc o) rb p:=h.alloc o
theorem RB.rs {w0 w:World} {rb p:Nat} (h:RB w0 w rb p):RS w rb p:=RS.of h
end Go.Proofs.YtcalhcfinkhemaaGreatDoor
