/- Texts of a proof. -/
import Derived.Test.YtpmjnpmnocjjgaaGreatDoorDrawBk
import Derived.Deep.RegionHeld3
import Derived.Deep.DeepCutAuto
import Derived.Test.YtpmjnpmnocjjgaaGreatDoorB18
import Derived.Test.YtpmjnpmnocjjgaaGreatDoorB8
import Derived.Test.YtpmjnpmnocjjgaaGreatDoorB5
import Derived.Test.YtpmjnpmnocjjgaaGreatDoorB11
set_option maxHeartbeats 16000000
set_option maxRecDepth 20000
namespace Go.Proofs.YtpmjnpmnocjjgaaGreatDoor
open Go.RowKit
set_option linter.unusedVariables false
set_option linter.unusedSimpArgs false
theorem Rd.upto {w w':World} {rb p B:Nat} (h:Rd w rb p) (k:Below B w w') (hB:rb<B):Rd w' rb p:=by
 obtain⟨a,len,cap,c0,c1,f1,hle,hz⟩:=h
 refine⟨a,len,cap,by rw[k.cell hB];exact c0,by rw[k.cell hB];exact c1,by rw[k.frozen hB];exact f1,hle,?_⟩
 rcases hz with hz|⟨b,off,ha,hb,hz⟩
 · exact .inl hz
 · exact .inr ⟨b,off,ha,hb,fun i hi=>by obtain⟨z,h1,h2⟩:=hz i hi;exact⟨z,by rw[k.cell (p:=⟨b,off+i,none⟩) (by show b<B;omega)];exact h1,h2⟩⟩
theorem RS.upto {w w':World} {rb p B:Nat} (h:RS w rb p) (k:Below B w w') (hB:rb<B):RS w' rb p:=by
 obtain⟨q,a,b⟩:=h;exact⟨q,a,b.upto k hB⟩
theorem OwnL.but {w w':World} {rb base t k n:Nat} {v:Value} {U:Nat→Int} (h:OwnL w base t k v n U) (hb:But rb w w') (hr:rb<base):OwnL w' base t k v n U:=by
 have hg:w.grownBy w' (Option.some rb):=⟨hb.os,hb.tape,hb.output,hb.size,fun j hj hne=>hb.block j hj (fun e=>hne (by rw[e]))⟩
 cases e:v.ownBlock with
 |none=>exact World.ownsRow.kept h hg (.inl e)
 |some b=>exact World.ownsRow.kept h hg (.inr (by rw[e];intro q;have:=(h.lt b e).1;simp at q;omega))
structure Dg (w wr:World) (rb p:Nat) (v:Value) (n:Nat) (U:Nat→Int) (L:Bls):Prop where
 bl:BL w wr rb p L
 own:OwnL wr w.heap.size 35 12 v n U
 ne:∀ x∈L,v.ownBlock≠some x.1
theorem Dg.call {w wr w1:World} {rb p p1 n:Nat} {v:Value} {U:Nat→Int} {L:Bls} (h:Dg w wr rb p v n U L) (k:RB wr w1 rb p1):Dg w w1 rb p1 v n U L:=⟨h.bl.call k,h.own.but k.but h.bl.lo,h.ne⟩
theorem Dg.calb {w wr w1:World} {rb p n:Nat} {v:Value} {U:Nat→Int} {L:Bls} (h:Dg w wr rb p v n U L) (k:Below wr.heap.size wr w1):Dg w w1 rb p v n U L:=⟨h.bl.calb k,h.own.below k,h.ne⟩
theorem Dg.mono {w wr:World} {rb p p1 n:Nat} {v:Value} {U:Nat→Int} {L:Bls} (h:Dg w wr rb p v n U L) (k:p≤p1):Dg w wr rb p1 v n U L:=⟨h.bl.mono k,h.own,h.ne⟩
theorem Dg.drew {w wr:World} {rb p n:Nat} {v:Value} {U:Nat→Int} {L:Bls} (h:Dg w wr rb p v n U L):Dg w wr.drew rb p v n U L:=⟨h.bl.drew,h.own.drewO,h.ne⟩
theorem Dg.sub {w wr:World} {rb p n:Nat} {v:Value} {U:Nat→Int} {L M:Bls} (h:Dg w wr rb p v n U L) (k:∀ x∈M,x∈L):Dg w wr rb p v n U M:=⟨h.bl.sub k,h.own,fun x hx=>h.ne x (k x hx)⟩
theorem Dg.new {w wr:World} {rb p n:Nat} {v:Value} {U:Nat→Int} {L:Bls} (h:Dg w wr rb p v n U L) (b m:Nat) (V:Nat→Int) {cs:Array Value} {t:TypeId} (hb:b=wr.heap.size) (hc:∀ i,i<m→cs[i]? =some (.int .i64 (V i))):Dg w (wr.alloc (.cells cs t)) rb p v n U ((b,m,V)::L):=
 ⟨h.bl.new b m V hb hc,h.own.below (balloc _ _),fun x hx=>by
  rcases List.mem_cons.mp hx with rfl|hx
  · intro e;have:=(h.own.lt _ e).2;dsimp only at this;omega
  · exact h.ne x hx⟩
theorem Dg.set {w wr:World} {rb p n b m:Nat} {v:Value} {U V:Nat→Int} {L:Bls} (h:Dg w wr rb p v n U ((b,m,V)::L)) (hne:∀ x∈L,x.1≠b) (k:Nat) (hk:k<m) (z:Int):Dg w (wr.setCell ⟨b,k,none⟩ (.int .i64 z)) rb p v n U ((b,m,fun j=>if j=k then z else V j)::L):=
 ⟨h.bl.set hne k hk z,h.own.frame (Fr.setCell (X:=fun j=>j=b) rfl _) (fun j e x=>by subst x;exact h.ne (j,m,V) (List.mem_cons_self ..) e),fun x hx=>by
  rcases List.mem_cons.mp hx with rfl|hx
  · exact h.ne (b,m,V) (List.mem_cons_self ..)
  · exact h.ne x (List.mem_cons_of_mem _ hx)⟩
theorem Dg.headc {w wr:World} {rb p n b m:Nat} {v:Value} {U V V':Nat→Int} {L:Bls} (h:Dg w wr rb p v n U ((b,m,V)::L)) (k:∀ i,i<m→V i=V' i):Dg w wr rb p v n U ((b,m,V')::L):=
 ⟨h.bl.headc k,h.own,fun x hx=>by
  rcases List.mem_cons.mp hx with rfl|hx
  · exact h.ne (b,m,V) (List.mem_cons_self ..)
  · exact h.ne x (List.mem_cons_of_mem _ hx)⟩
theorem Dg.grown {w wr w':World} {rb p n n':Nat} {v v':Value} {U U':Nat→Int} {L:Bls} (h:Dg w wr rb p v n U L) (hg:wr.grownBy w' v.ownBlock) (ho:OwnL w' w.heap.size 35 12 v' n' U'):Dg w w' rb p v' n' U' []:=by
 have hsz:=h.bl.but.size
 have hB:Below w.heap.size wr w':=(Below.refl w.heap.size wr).grown hg hsz (fun b e=>(h.own.lt b e).1)
 exact⟨⟨h.bl.rs.upto hB h.bl.lo,⟨hB.os.trans h.bl.but.os,hB.tape.trans h.bl.but.tape,hB.output.trans h.bl.but.output,Nat.le_trans hsz hB.size,fun k hk hn=>(hB.block k hk).trans (h.bl.but.block k hk hn)⟩,h.bl.lo,fun x hx=>by cases hx⟩,ho,fun x hx=>by cases hx⟩
theorem Dg.start {w:World} {rb p:Nat} (h:RS w rb p) (U:Nat→Int):Dg w (w.alloc (.cells #[] 35)) rb p (.slice (some ⟨w.heap.size,0,none⟩) 0 0) 0 U []:=
 ⟨(BL.start h).alloc _,OwnL.fresh0 w w.heap.size 35 12 U _ rfl (Nat.le_refl _),fun x hx=>by cases hx⟩
theorem Bods.push {n:Nat} {U V:Nat→Int} (h:Bods n U) (hn:n<12) (hV:bodyB V=true) (hi:∀ k,k<n→U (k*12)<V 0):Bods (n+1) (cat (n*12) U V):=by
 have a1:∀ k j,k<n→j<12→cat (n*12) U V (k*12+j)=U (k*12+j):=fun k j hk hj=>by unfold cat;rw[if_pos (by omega)]
 have a2:∀ j,cat (n*12) U V (n*12+j)=V j:=fun j=>by unfold cat;rw[if_neg (by omega),Nat.add_sub_cancel_left]
 refine⟨hn,fun k hk=> ?_,fun k hk=> ?_⟩
 · by_cases e:k=n
   · subst e;rw[bodyB_cong (fun j _=>a2 j)];exact hV
   · rw[bodyB_cong (fun j hj=>a1 k j (by omega) hj)];exact h.ok k (by omega)
 · have b1:=a1 k 0 (by omega) (by omega)
   rw[Nat.add_zero] at b1
   rw[b1]
   by_cases e:k+1=n
   · have b2:=a2 0;rw[Nat.add_zero] at b2;rw[e,b2];exact hi k (by omega)
   · have b2:=a1 (k+1) 0 (by omega) (by omega);rw[Nat.add_zero] at b2;rw[b2];exact h.asc k (by omega)
theorem bod_at {V:Nat→Int} (h:bodyB V=true) {x y:Int} (hx: -2560000≤x∧x≤2560000) (hy: -2560000≤y∧y≤2560000):bodyB (setV (setV V 4 x) 5 y)=true:=by
 unfold bodyB at h ⊢
 have e:inB 2560000 x y=true:=by unfold inB;simp;omega
 have r:restB (setV (setV V 4 x) 5 y)=restB V:=rfl
 show (decide (0≤V 0∧V 0≤999999999)&&(shB (V 1) (V 2) (V 3)&&(inB 2560000 x y&&_)))=true
 simp only[Bool.and_eq_true] at h ⊢
 exact⟨h.1,h.2.1,e,h.2.2.2⟩
def rowU (U:Nat→Int) (z:Int):Nat→Int:=fun j=>U (z.toNat*12+j)
def liveC (U C:Nat→Int) (k:Nat):Bool:=liveV (rowU U (C (k*5)))||liveV (rowU U (C (k*5+1)))
def liveL (U C:Nat→Int):Nat→List Int
 |0=>[]
 |k+1=>liveL U C k++(if liveC U C k=true then [C (k*5),C (k*5+1),C (k*5+2),C (k*5+3),C (k*5+4)] else [])
theorem liveL_yes {U C:Nat→Int} {k:Nat} (h:liveC U C k=true):liveL U C (k+1)=liveL U C k++[C (k*5),C (k*5+1),C (k*5+2),C (k*5+3),C (k*5+4)]:=by rw[liveL,if_pos h]
theorem liveL_no {U C:Nat→Int} {k:Nat} (h:liveC U C k=false):liveL U C (k+1)=liveL U C k:=by rw[liveL,if_neg (by rw[h];decide),List.append_nil]
theorem liveL_len (U C:Nat→Int):∀ k,(liveL U C k).length≤k*5
 |0=>by simp[liveL]
 | k+1=>by
   have:=liveL_len U C k
   cases h:liveC U C k with
   |true=>rw[liveL_yes h,List.length_append];simp;omega
   |false=>rw[liveL_no h];omega
abbrev zcCon:Value:= .agg #[.int .i64 0,.int .i64 0,.int .i64 0,.int .i64 0,.int .i64 0]
theorem infoCon:(Tryz.prog.info? 108).map (fun i=>(i.zero,i.size,i.bytes))=some (some zcCon,5,40):=by kernel_rfl
theorem flatC (w:World) (p q r s u:Int) (t:TypeId):Flat (w.alloc (Obj.cells #[.int .i64 p,.int .i64 q,.int .i64 r,.int .i64 s,.int .i64 u] t)) (some ⟨w.heap.size,0,none⟩) (1*5) (ofL [p,q,r,s,u]):=by
 intro _
 refine⟨w.heap.size,0,rfl,by simp,fun j hj=> ?_⟩
 rw[Nat.zero_add]
 rcases(show j=0∨j=1∨j=2∨j=3∨j=4 by omega) with rfl|rfl|rfl|rfl|rfl<;>(simp only[ofL];go_simp;(try rfl))
theorem l9Live_any (a:Option Addr) (n c:Nat) (U:Nat→Int) (ac:Option Addr) (m cc:Nat) (C:Nat→Int) (w:World) (h:Flat w a (n*12) U) (hn:n≤1048576) (hm:m≤1048576) (h2:Flat w ac (m*5) C) (hC:∀ k,k<m→(0≤C (k*5)∧C (k*5)<(n:Int))∧(0≤C (k*5+1)∧C (k*5+1)<(n:Int))):
 Calls Tryz.prog 33 #[.slice a n c,.slice ac m cc] w fun e w'=>∃ a1 m1 c1,e= .returned (.slice a1 m1 c1)∧(liveL U C m).length=m1*5∧OutL w w' 108 5 a1 m1 c1 (ofL (liveL U C m)):=by
 have hset:=cset_map
 go_enter Tryz.func33,Tryz.ntmps33
 go_wp2_with fail
 go_loopw [5,6,7,8] (fun s5 s6 _ _ wr=>∃ (k:Nat) (a1:Option Addr) (m1 c1:Nat),k≤m∧s6= .int .i64 (k:Int)∧s5= .slice a1 m1 c1∧LsV w wr 108 5 a1 m1 c1 (liveL U C k)) (fun _ s6 _ _ _=>m-(intOf s6).toNat)
 case atStart=>exact⟨0,_,_,_,Nat.zero_le _,rfl,rfl,LsV.new w _ _⟩
 case round=>
  obtain⟨k,a1,m1,c1,hk,rfl,rfl,hL⟩:=hrel
  by_cases hlt:k<m
  · have hkm:(k:Int)<(m:Int):=by omega
    obtain⟨⟨cA0,cA1⟩,⟨cB0,cB1⟩⟩:=hC k hlt
    obtain⟨b2,o2,e2,hbl2,hc2⟩:=(h2.below hL.bel) (by omega)
    have r0:=hc2 (k*5) (by omega)
    have r1:=hc2 (k*5+1) (by omega)
    have r2:=hc2 (k*5+2) (by omega)
    have r3:=hc2 (k*5+3) (by omega)
    have r4:=hc2 (k*5+4) (by omega)
    simp only[←Nat.add_assoc] at r0 r1 r2 r3 r4
    clear hc2
    subst e2
    obtain⟨LV,hLVe⟩:∃ b,liveC U C k=b:=⟨_,rfl⟩
    have hLV:Shut (liveC U C k=LV):=hLVe
    clear hLVe
    obtain⟨zA,hzAe⟩:∃ z,C (k*5)=z:=⟨_,rfl⟩
    obtain⟨zB,hzBe⟩:∃ z,C (k*5+1)=z:=⟨_,rfl⟩
    rw[hzAe] at r0 cA0 cA1
    rw[hzBe] at r1 cB0 cB1
    have hzA:Shut (C (k*5)=zA):=hzAe
    have hzB:Shut (C (k*5+1)=zB):=hzBe
    clear hzAe hzBe
    obtain⟨b,o,e1,hbl,hc⟩:=(h.below hL.bel) (by omega)
    have p0:=hc (zA.toNat*12) (by omega)
    have p1:=hc (zA.toNat*12+1) (by omega)
    have p2:=hc (zA.toNat*12+2) (by omega)
    have p3:=hc (zA.toNat*12+3) (by omega)
    have p4:=hc (zA.toNat*12+4) (by omega)
    have p5:=hc (zA.toNat*12+5) (by omega)
    have p6:=hc (zA.toNat*12+6) (by omega)
    have p7:=hc (zA.toNat*12+7) (by omega)
    have p8:=hc (zA.toNat*12+8) (by omega)
    have p9:=hc (zA.toNat*12+9) (by omega)
    have p10:=hc (zA.toNat*12+10) (by omega)
    have p11:=hc (zA.toNat*12+11) (by omega)
    have q0:=hc (zB.toNat*12) (by omega)
    have q1:=hc (zB.toNat*12+1) (by omega)
    have q2:=hc (zB.toNat*12+2) (by omega)
    have q3:=hc (zB.toNat*12+3) (by omega)
    have q4:=hc (zB.toNat*12+4) (by omega)
    have q5:=hc (zB.toNat*12+5) (by omega)
    have q6:=hc (zB.toNat*12+6) (by omega)
    have q7:=hc (zB.toNat*12+7) (by omega)
    have q8:=hc (zB.toNat*12+8) (by omega)
    have q9:=hc (zB.toNat*12+9) (by omega)
    have q10:=hc (zB.toNat*12+10) (by omega)
    have q11:=hc (zB.toNat*12+11) (by omega)
    simp only[←Nat.add_assoc] at p0 q0 p1 q1 p2 q2 p3 q3 p4 q4 p5 q5 p6 q6 p7 q7 p8 q8 p9 q9 p10 q10 p11 q11
    clear hc
    subst e1
    go_upto_region 7 with fail
    obtain⟨wa,hwa⟩:∃ x,(wr.alloc (Obj.cells #[.int .i64 (U (zA.toNat*12)),.int .i64 (U (zA.toNat*12+1)),.int .i64 (U (zA.toNat*12+2)),.int .i64 (U (zA.toNat*12+3)),.int .i64 (U (zA.toNat*12+4)),.int .i64 (U (zA.toNat*12+5)),.int .i64 (U (zA.toNat*12+6)),.int .i64 (U (zA.toNat*12+7)),.int .i64 (U (zA.toNat*12+8)),.int .i64 (U (zA.toNat*12+9)),.int .i64 (U (zA.toNat*12+10)),.int .i64 (U (zA.toNat*12+11))] 35))=x:=⟨_,rfl⟩
    obtain⟨wx,hwx⟩:∃ x,wa.alloc (Obj.cells #[.int .i64 (U (zB.toNat*12)),.int .i64 (U (zB.toNat*12+1)),.int .i64 (U (zB.toNat*12+2)),.int .i64 (U (zB.toNat*12+3)),.int .i64 (U (zB.toNat*12+4)),.int .i64 (U (zB.toNat*12+5)),.int .i64 (U (zB.toNat*12+6)),.int .i64 (U (zB.toNat*12+7)),.int .i64 (U (zB.toNat*12+8)),.int .i64 (U (zB.toNat*12+9)),.int .i64 (U (zB.toNat*12+10)),.int .i64 (U (zB.toNat*12+11))] 35)=x:=⟨_,rfl⟩
    have hE1:Below wr.heap.size wr wa:=by rw[←hwa];exact(Below.refl _ _).alloc (Nat.le_refl _) _
    have hE2:Below wa.heap.size wa wx:=by rw[←hwx];exact(Below.refl _ _).alloc (Nat.le_refl _) _
    have hL2:=(hL.below hE1).below hE2
    have x0A:wx.cell? ⟨wr.heap.size,0,none⟩=some (.int .i64 (U (zA.toNat*12))):=by subst hwx hwa;go_simp
    have x1A:wx.cell? ⟨wr.heap.size,1,none⟩=some (.int .i64 (U (zA.toNat*12+1))):=by subst hwx hwa;go_simp
    have x2A:wx.cell? ⟨wr.heap.size,2,none⟩=some (.int .i64 (U (zA.toNat*12+2))):=by subst hwx hwa;go_simp
    have x3A:wx.cell? ⟨wr.heap.size,3,none⟩=some (.int .i64 (U (zA.toNat*12+3))):=by subst hwx hwa;go_simp
    have x4A:wx.cell? ⟨wr.heap.size,4,none⟩=some (.int .i64 (U (zA.toNat*12+4))):=by subst hwx hwa;go_simp
    have x5A:wx.cell? ⟨wr.heap.size,5,none⟩=some (.int .i64 (U (zA.toNat*12+5))):=by subst hwx hwa;go_simp
    have x6A:wx.cell? ⟨wr.heap.size,6,none⟩=some (.int .i64 (U (zA.toNat*12+6))):=by subst hwx hwa;go_simp
    have x7A:wx.cell? ⟨wr.heap.size,7,none⟩=some (.int .i64 (U (zA.toNat*12+7))):=by subst hwx hwa;go_simp
    have x8A:wx.cell? ⟨wr.heap.size,8,none⟩=some (.int .i64 (U (zA.toNat*12+8))):=by subst hwx hwa;go_simp
    have x9A:wx.cell? ⟨wr.heap.size,9,none⟩=some (.int .i64 (U (zA.toNat*12+9))):=by subst hwx hwa;go_simp
    have x10A:wx.cell? ⟨wr.heap.size,10,none⟩=some (.int .i64 (U (zA.toNat*12+10))):=by subst hwx hwa;go_simp
    have x11A:wx.cell? ⟨wr.heap.size,11,none⟩=some (.int .i64 (U (zA.toNat*12+11))):=by subst hwx hwa;go_simp
    have x0B:wx.cell? ⟨wr.heap.size+1,0,none⟩=some (.int .i64 (U (zB.toNat*12))):=by subst hwx hwa;go_simp
    have x1B:wx.cell? ⟨wr.heap.size+1,1,none⟩=some (.int .i64 (U (zB.toNat*12+1))):=by subst hwx hwa;go_simp
    have x2B:wx.cell? ⟨wr.heap.size+1,2,none⟩=some (.int .i64 (U (zB.toNat*12+2))):=by subst hwx hwa;go_simp
    have x3B:wx.cell? ⟨wr.heap.size+1,3,none⟩=some (.int .i64 (U (zB.toNat*12+3))):=by subst hwx hwa;go_simp
    have x4B:wx.cell? ⟨wr.heap.size+1,4,none⟩=some (.int .i64 (U (zB.toNat*12+4))):=by subst hwx hwa;go_simp
    have x5B:wx.cell? ⟨wr.heap.size+1,5,none⟩=some (.int .i64 (U (zB.toNat*12+5))):=by subst hwx hwa;go_simp
    have x6B:wx.cell? ⟨wr.heap.size+1,6,none⟩=some (.int .i64 (U (zB.toNat*12+6))):=by subst hwx hwa;go_simp
    have x7B:wx.cell? ⟨wr.heap.size+1,7,none⟩=some (.int .i64 (U (zB.toNat*12+7))):=by subst hwx hwa;go_simp
    have x8B:wx.cell? ⟨wr.heap.size+1,8,none⟩=some (.int .i64 (U (zB.toNat*12+8))):=by subst hwx hwa;go_simp
    have x9B:wx.cell? ⟨wr.heap.size+1,9,none⟩=some (.int .i64 (U (zB.toNat*12+9))):=by subst hwx hwa;go_simp
    have x10B:wx.cell? ⟨wr.heap.size+1,10,none⟩=some (.int .i64 (U (zB.toNat*12+10))):=by subst hwx hwa;go_simp
    have x11B:wx.cell? ⟨wr.heap.size+1,11,none⟩=some (.int .i64 (U (zB.toNat*12+11))):=by subst hwx hwa;go_simp
    have hla:wr.heap.size<wx.heap.size:=by subst hwx hwa;simp;omega
    have hlb:wr.heap.size+1<wx.heap.size:=by subst hwx hwa;simp
    have hrk:∀ j,j<5→wx.cell? ⟨b2,o2+(k*5+j),none⟩=wr.cell? ⟨b2,o2+(k*5+j),none⟩:=fun j hj=>by subst hwx hwa;go_simp
    rw[hwa,hwx]
    clear hwx hwa
    generalize wr.heap.size+1=bb at hlb x0B x1B x2B x3B x4B x5B x6B x7B x8B x9B x10B x11B ⊢
    clear hL p0 q0 p1 q1 p2 q2 p3 q3 p4 q4 p5 q5 p6 q6 p7 q7 p8 q8 p9 q9 p10 q10 p11 q11 r0 r1 r2 r3 r4 hrk hE2
    generalize wr.heap.size=ba at hla hE1 x0A x1A x2A x3A x4A x5A x6A x7A x8A x9A x10A x11A ⊢
    clear hE1
    obtain⟨SA,hSA⟩:∃ b,decide (8≤(rowU U zA) 11)=b:=⟨_,rfl⟩
    obtain⟨SB,hSB⟩:∃ b,decide (8≤(rowU U zB) 11)=b:=⟨_,rfl⟩
    go_cut [49] (fun s wc=>s= .bool LV∧LsV w wc 108 5 a1 m1 c1 (liveL U C k))
    case first=>
     by_cases hmA:0<U (zA.toNat*12+8)
     · cases SA with
       | false=>
         have LA:Shut (liveV (rowU U zA)=true):=live_t (V:=rowU U zA) hmA hSA
         go_wp2_with (go_at_call 64;refine(l6Sleeps_k (rowU U zA) _ false hSA).mono ?_;rintro e w7 ⟨rfl,hb7⟩)
         go_meet
         exact⟨by rw[←hLV.out];unfold liveC;rw[hzA.out,hzB.out,LA.out];rfl,(hL2.below hb7)⟩
       | true=>
         have LA:Shut (liveV (rowU U zA)=false):=live_s hSA
         by_cases hmB:0<U (zB.toNat*12+8)
         · cases SB with
           | true=>
             have LB:Shut (liveV (rowU U zB)=false):=live_s hSB
             go_wp2_with (first
              |(have _:=hb7;go_at_call 64;refine(l6Sleeps_k (rowU U zB) _ true hSB).mono ?_;rintro e w8 ⟨rfl,hb8⟩)
              |(go_at_call 64;refine(l6Sleeps_k (rowU U zA) _ true hSA).mono ?_;rintro e w7 ⟨rfl,hb7⟩;obtain⟨hc7,hf7⟩:=bcell hb7;have y0:=(hc7 bb 0 hlb).trans x0B;have y1:=(hc7 bb 1 hlb).trans x1B;have y2:=(hc7 bb 2 hlb).trans x2B;have y3:=(hc7 bb 3 hlb).trans x3B;have y4:=(hc7 bb 4 hlb).trans x4B;have y5:=(hc7 bb 5 hlb).trans x5B;have y6:=(hc7 bb 6 hlb).trans x6B;have y7:=(hc7 bb 7 hlb).trans x7B;have y8:=(hc7 bb 8 hlb).trans x8B;have y9:=(hc7 bb 9 hlb).trans x9B;have y10:=(hc7 bb 10 hlb).trans x10B;have y11:=(hc7 bb 11 hlb).trans x11B;clear hc7 hf7))
             go_meet
             exact⟨by rw[←hLV.out];unfold liveC;rw[hzA.out,hzB.out,LA.out,LB.out];rfl,((hL2.below hb7).below hb8)⟩
           | false=>
             have LB:Shut (liveV (rowU U zB)=true):=live_t (V:=rowU U zB) hmB hSB
             go_wp2_with (first
              |(have _:=hb7;go_at_call 64;refine(l6Sleeps_k (rowU U zB) _ false hSB).mono ?_;rintro e w8 ⟨rfl,hb8⟩)
              |(go_at_call 64;refine(l6Sleeps_k (rowU U zA) _ true hSA).mono ?_;rintro e w7 ⟨rfl,hb7⟩;obtain⟨hc7,hf7⟩:=bcell hb7;have y0:=(hc7 bb 0 hlb).trans x0B;have y1:=(hc7 bb 1 hlb).trans x1B;have y2:=(hc7 bb 2 hlb).trans x2B;have y3:=(hc7 bb 3 hlb).trans x3B;have y4:=(hc7 bb 4 hlb).trans x4B;have y5:=(hc7 bb 5 hlb).trans x5B;have y6:=(hc7 bb 6 hlb).trans x6B;have y7:=(hc7 bb 7 hlb).trans x7B;have y8:=(hc7 bb 8 hlb).trans x8B;have y9:=(hc7 bb 9 hlb).trans x9B;have y10:=(hc7 bb 10 hlb).trans x10B;have y11:=(hc7 bb 11 hlb).trans x11B;clear hc7 hf7))
             go_meet
             exact⟨by rw[←hLV.out];unfold liveC;rw[hzA.out,hzB.out,LA.out,LB.out];rfl,((hL2.below hb7).below hb8)⟩
         · have LB:Shut (liveV (rowU U zB)=false):=live_m (V:=rowU U zB) hmB
           go_wp2_with (go_at_call 64;refine(l6Sleeps_k (rowU U zA) _ true hSA).mono ?_;rintro e w7 ⟨rfl,hb7⟩;obtain⟨hc7,hf7⟩:=bcell hb7;have y0:=(hc7 bb 0 hlb).trans x0B;have y1:=(hc7 bb 1 hlb).trans x1B;have y2:=(hc7 bb 2 hlb).trans x2B;have y3:=(hc7 bb 3 hlb).trans x3B;have y4:=(hc7 bb 4 hlb).trans x4B;have y5:=(hc7 bb 5 hlb).trans x5B;have y6:=(hc7 bb 6 hlb).trans x6B;have y7:=(hc7 bb 7 hlb).trans x7B;have y8:=(hc7 bb 8 hlb).trans x8B;have y9:=(hc7 bb 9 hlb).trans x9B;have y10:=(hc7 bb 10 hlb).trans x10B;have y11:=(hc7 bb 11 hlb).trans x11B;clear hc7 hf7)
           go_meet
           exact⟨by rw[←hLV.out];unfold liveC;rw[hzA.out,hzB.out,LA.out,LB.out];rfl,(hL2.below hb7)⟩
     · have LA:Shut (liveV (rowU U zA)=false):=live_m (V:=rowU U zA) hmA
       by_cases hmB:0<U (zB.toNat*12+8)
       · cases SB with
         | true=>
           have LB:Shut (liveV (rowU U zB)=false):=live_s hSB
           go_wp2_with (go_at_call 64;refine(l6Sleeps_k (rowU U zB) _ true hSB).mono ?_;rintro e w8 ⟨rfl,hb8⟩)
           go_meet
           exact⟨by rw[←hLV.out];unfold liveC;rw[hzA.out,hzB.out,LA.out,LB.out];rfl,(hL2.below hb8)⟩
         | false=>
           have LB:Shut (liveV (rowU U zB)=true):=live_t (V:=rowU U zB) hmB hSB
           go_wp2_with (go_at_call 64;refine(l6Sleeps_k (rowU U zB) _ false hSB).mono ?_;rintro e w8 ⟨rfl,hb8⟩)
           go_meet
           exact⟨by rw[←hLV.out];unfold liveC;rw[hzA.out,hzB.out,LA.out,LB.out];rfl,(hL2.below hb8)⟩
       · have LB:Shut (liveV (rowU U zB)=false):=live_m (V:=rowU U zB) hmB
         go_wp2_with fail
         go_meet
         exact⟨by rw[←hLV.out];unfold liveC;rw[hzA.out,hzB.out,LA.out,LB.out];rfl,hL2⟩
    case rest=>
    clear hL2 hla hlb hSA hSB x0A x0B x1A x1B x2A x2B x3A x3B x4A x4B x5A x5B x6A x6B x7A x7B x8A x8B x9A x9B x10A x10B x11A x11B
    obtain⟨rfl,hL⟩:=hcut
    cases LV with
    | false=>
      have HNO:Shut (liveL U C (k+1)=liveL U C k):=liveL_no hLV.out
      go_wp2_with fail
      go_roundw
      case rel=>exact⟨k+1,_,_,_,by omega,by go_num,rfl,by rw[HNO.out];exact hL⟩
      case measure=>simp[intOf];omega
    | true=>
      have HYE:Shut (liveL U C (k+1)=liveL U C k++[zA,zB,C (k*5+2),C (k*5+3),C (k*5+4)]):=by show _=_;rw[liveL_yes hLV.out,hzA.out,hzB.out]
      obtain⟨b2',o2',e2,hbl2',hc2⟩:=(h2.below hL.bel) (by omega)
      simp only[Option.some.injEq,Addr.mk.injEq,and_true] at e2
      obtain⟨rfl,rfl⟩:=e2
      have r0:=hc2 (k*5) (by omega)
      have r1:=hc2 (k*5+1) (by omega)
      have r2:=hc2 (k*5+2) (by omega)
      have r3:=hc2 (k*5+3) (by omega)
      have r4:=hc2 (k*5+4) (by omega)
      simp only[←Nat.add_assoc] at r0 r1 r2 r3 r4
      rw[hzA.out] at r0
      rw[hzB.out] at r1
      clear hc2
      have hle:=liveL_len U C k
      have hlen:=hL.len
      have hwz:=hL.bel.size
      go_wp2_with (refine wpList_app rfl _ _ _ rfl w.heap.size 108 5 40 zcCon Tryz.underlying63 infoCon rfl (by decide) (.slice a1 m1 c1) m1 (ofL (liveL U C k)) rfl (hL.below ((Below.refl _ _).alloc (Nat.le_refl _) _)).own _ 1 _ (ofL [zA,zB,C (k*5+2),C (k*5+3),C (k*5+4)]) rfl (flatC _ _ _ _ _ _ _) (by unfold maxLen;omega) (by omega) (by simp only[World.size_alloc];omega) ?_;intro a3 c3 w3 ho3 hg3)
      have hP:=(hL.below ((Below.refl _ _).alloc (Nat.le_refl _) _)).push (x:=[zA,zB,C (k*5+2),C (k*5+3),C (k*5+4)]) rfl hg3 ho3
      go_roundw
      case rel=>exact⟨k+1,_,_,_,by omega,by go_num,rfl,by rw[HYE.out];exact hP⟩
      case measure=>simp[intOf];omega
  · obtain rfl:k=m:=by omega
    go_wp2_with fail
    go_ret
    exact⟨_,_,_,rfl,hL.len,hL.out (Below.refl _ _)⟩
theorem l11AnyPlace_s (rb p:Nat) (w:World) (hs0:RS w rb p) (hp:p≤997000):
 Calls Tryz.prog 53 #[.pointer (some ⟨rb,0,none⟩)] w fun e w'=>∃ x y:Int,e= .returned (vv x y)∧(Bn x∧Bn y)∧RB w w' rb (p+600):=by
 have hlt:=hs0.lt
 have hne:(w.heap.size=rb)=False:=eq_false (by omega)
 have hset:=cset_map
 go_enter Tryz.func53,Tryz.ntmps53
 go_wp2_with (first
  |(have _:=hr1;go_at_call 24;refine(pick_s rb (p+200) _ _ (by repeat(first|(with_reducible apply RS.setNew;rotate_left;(first|omega|(simp only[zz];omega)))|with_reducible apply RS.alloc|(with_reducible apply RS.up hr1;omega)|(with_reducible apply RS.mono hs0;omega)|with_reducible apply RS.drew|with_reducible apply RS.drewN)) (by omega) (by omega) (by omega)).mono ?_;rintro e w2 ⟨v2,rfl,va2,vb2,hr2⟩;obtain⟨hc2,hf2⟩:=RB.cells hr2;have hz2:=RB.size hr2;(try simp only[zz] at hc2 hf2 hz2);have hq2x0:w.heap.size<w2.heap.size:=(by omega);have ha2x0:(w2.heap.size=w.heap.size)=False:=eq_false (by omega);have hb2x0:(w.heap.size=w2.heap.size)=False:=eq_false (by omega);have he2x0:(w.heap.size=rb)=False:=eq_false (by omega);have hk2x0:=fun o=>hc2 (w.heap.size) o (by omega) (by omega);have hj2x0:=fun o=>hf2 (w.heap.size) o (by omega) (by omega);have hq2x1:w1.heap.size<w2.heap.size:=(by omega);have ha2x1:(w2.heap.size=w1.heap.size)=False:=eq_false (by omega);have hb2x1:(w1.heap.size=w2.heap.size)=False:=eq_false (by omega);have he2x1:(w1.heap.size=rb)=False:=eq_false (by omega);have hk2x1:=fun o=>hc2 (w1.heap.size) o (by omega) (by omega);have hj2x1:=fun o=>hf2 (w1.heap.size) o (by omega) (by omega))
  |(have _:=hr2;go_at_call 13;refine(one_s (-2560001) 2560001 rb (p+300) _ _ _ _ _ (by repeat(first|(with_reducible apply RS.setNew;rotate_left;(first|omega|(simp only[zz];omega)))|with_reducible apply RS.alloc|(with_reducible apply RS.up hr2;omega)|(with_reducible apply RS.mono hs0;omega)|with_reducible apply RS.drew|with_reducible apply RS.drewN)) (by omega) (by repeat(first|exact AllBd.nil|refine AllBd.cons (by omega) (by omega) ?_)) (by rfl) (by omega) (by omega)).mono ?_;rintro e w3 ⟨v3,rfl,va3,vb3,hr3⟩;obtain⟨hc3,hf3⟩:=RB.cells hr3;have hz3:=RB.size hr3;(try simp only[zz] at hc3 hf3 hz3);have hq3x0:w.heap.size<w3.heap.size:=(by omega);have ha3x0:(w3.heap.size=w.heap.size)=False:=eq_false (by omega);have hb3x0:(w.heap.size=w3.heap.size)=False:=eq_false (by omega);have he3x0:(w.heap.size=rb)=False:=eq_false (by omega);have hk3x0:=fun o=>hc3 (w.heap.size) o (by omega) (by omega);have hj3x0:=fun o=>hf3 (w.heap.size) o (by omega) (by omega);have hq3x1:w1.heap.size<w3.heap.size:=(by omega);have ha3x1:(w3.heap.size=w1.heap.size)=False:=eq_false (by omega);have hb3x1:(w1.heap.size=w3.heap.size)=False:=eq_false (by omega);have he3x1:(w1.heap.size=rb)=False:=eq_false (by omega);have hk3x1:=fun o=>hc3 (w1.heap.size) o (by omega) (by omega);have hj3x1:=fun o=>hf3 (w1.heap.size) o (by omega) (by omega))
  |(go_at_call 88;refine(l11Place_s rb (p+100) _ (by repeat(first|(with_reducible apply RS.setNew;rotate_left;(first|omega|(simp only[zz];omega)))|with_reducible apply RS.alloc|(with_reducible apply RS.mono hs0;omega)|with_reducible apply RS.drew|with_reducible apply RS.drewN)) (by omega)).mono ?_;rintro e w1 ⟨x1,y1,rfl,hd1,hr1⟩;obtain⟨hc1,hf1⟩:=RB.cells hr1;have hz1:=RB.size hr1;(try simp only[zz] at hc1 hf1 hz1);have hq1x0:w.heap.size<w1.heap.size:=(by omega);have ha1x0:(w1.heap.size=w.heap.size)=False:=eq_false (by omega);have hb1x0:(w.heap.size=w1.heap.size)=False:=eq_false (by omega);have he1x0:(w.heap.size=rb)=False:=eq_false (by omega);have hk1x0:=fun o=>hc1 (w.heap.size) o (by omega) (by omega);have hj1x0:=fun o=>hf1 (w.heap.size) o (by omega) (by omega);obtain⟨⟨x1a,x1b⟩,⟨y1a,y1b⟩⟩:=hd1))
 · exact bodyPost_ret (v:=vv v3 y1) (by simp[results,Tryz.results53,go_sem, *]) rfl ⟨_,_,rfl,⟨Bn.mk ⟨by omega,by omega⟩,Bn.mk ⟨by omega,by omega⟩⟩,RB.mk (by repeat(first|(with_reducible apply But.setNew;rotate_left;(first|omega|(simp only[zz];omega)))|with_reducible apply But.alloc|with_reducible apply But.trans (k:=RB.but hr3)|with_reducible apply But.trans (k:=RB.but hr2)|with_reducible apply But.trans (k:=RB.but hr1)|with_reducible apply But.refl|with_reducible apply But.drewN|with_reducible apply But.drew)) (by repeat(first|(with_reducible apply RS.setNew;rotate_left;(first|omega|(simp only[zz];omega)))|with_reducible apply RS.alloc|(with_reducible apply RS.up hr3;omega)|(with_reducible apply RS.up hr2;omega)|(with_reducible apply RS.up hr1;omega)|(with_reducible apply RS.mono hs0;omega)|with_reducible apply RS.drew|with_reducible apply RS.drewN))⟩
 · exact bodyPost_ret (v:=vv x1 v3) (by simp[results,Tryz.results53,go_sem, *]) rfl ⟨_,_,rfl,⟨Bn.mk ⟨by omega,by omega⟩,Bn.mk ⟨by omega,by omega⟩⟩,RB.mk (by repeat(first|(with_reducible apply But.setNew;rotate_left;(first|omega|(simp only[zz];omega)))|with_reducible apply But.alloc|with_reducible apply But.trans (k:=RB.but hr3)|with_reducible apply But.trans (k:=RB.but hr2)|with_reducible apply But.trans (k:=RB.but hr1)|with_reducible apply But.refl|with_reducible apply But.drewN|with_reducible apply But.drew)) (by repeat(first|(with_reducible apply RS.setNew;rotate_left;(first|omega|(simp only[zz];omega)))|with_reducible apply RS.alloc|(with_reducible apply RS.up hr3;omega)|(with_reducible apply RS.up hr2;omega)|(with_reducible apply RS.up hr1;omega)|(with_reducible apply RS.mono hs0;omega)|with_reducible apply RS.drew|with_reducible apply RS.drewN))⟩
 · exact bodyPost_ret (v:=vv x1 y1) (by simp[results,Tryz.results53,go_sem, *]) rfl ⟨_,_,rfl,⟨Bn.mk ⟨by omega,by omega⟩,Bn.mk ⟨by omega,by omega⟩⟩,RB.mk (by repeat(first|(with_reducible apply But.setNew;rotate_left;(first|omega|(simp only[zz];omega)))|with_reducible apply But.alloc|with_reducible apply But.trans (k:=RB.but hr2)|with_reducible apply But.trans (k:=RB.but hr1)|with_reducible apply But.refl|with_reducible apply But.drewN|with_reducible apply But.drew)) (by repeat(first|(with_reducible apply RS.setNew;rotate_left;(first|omega|(simp only[zz];omega)))|with_reducible apply RS.alloc|(with_reducible apply RS.up hr2;omega)|(with_reducible apply RS.up hr1;omega)|(with_reducible apply RS.mono hs0;omega)|with_reducible apply RS.drew|with_reducible apply RS.drewN))⟩
end Go.Proofs.YtpmjnpmnocjjgaaGreatDoor
