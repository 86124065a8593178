/- Texts of a proof. -/
import Derived.Test.YthajilkjfkppoaaGreatDoorDrawBk
import Derived.Deep.RegionHeld3
import Derived.Deep.DeepCutAuto
import Derived.Test.YthajilkjfkppoaaGreatDoorB16
import Derived.Test.YthajilkjfkppoaaGreatDoorB2
import Derived.Test.YthajilkjfkppoaaGreatDoorB13
set_option maxHeartbeats 16000000
set_option maxRecDepth 20000
namespace Go.Proofs.YthajilkjfkppoaaGreatDoor
open Go.RowKit
set_option linter.unusedVariables false
set_option linter.unusedSimpArgs false
theorem Rd.upto {w w':World} {rb p B:Nat} (h:Rd w rb p) (k:Below B w w') (hB:rb<B):Rd w' rb p:=by
 obtain⟨a,len,cap,c0,c1,f1,hle,hz⟩:=h
 refine⟨a,len,cap,by rw[k.cell hB];exact c0,by rw[k.cell hB];exact c1,by rw[k.frozen hB];exact f1,hle,?_⟩
 rcases hz with hz|⟨b,off,ha,hb,hz⟩
 · exact .inl hz
 · exact .inr ⟨b,off,ha,hb,fun i hi=>by obtain⟨z,h1,h2⟩:=hz i hi;exact⟨z,by rw[k.cell (p:=⟨b,off+i,none⟩) (by show b<B;omega)];exact h1,h2⟩⟩
theorem RS.upto {w w':World} {rb p B:Nat} (h:RS w rb p) (k:Below B w w') (hB:rb<B):RS w' rb p:=by
 obtain⟨q,a,b⟩:=h;exact⟨q,a,b.upto k hB⟩
theorem OwnL.but {w w':World} {rb base t k n:Nat} {v:Value} {U:Nat→Int} (h:OwnL w base t k v n U) (hb:But rb w w') (hr:rb<base):OwnL w' base t k v n U:=by
 have hg:w.grownBy w' (Option.some rb):=⟨hb.os,hb.tape,hb.output,hb.size,fun j hj hne=>hb.block j hj (fun e=>hne (by rw[e]))⟩
 cases e:v.ownBlock with
 |none=>exact World.ownsRow.kept h hg (.inl e)
 |some b=>exact World.ownsRow.kept h hg (.inr (by rw[e];intro q;have:=(h.lt b e).1;simp at q;omega))
structure Dg (w wr:World) (rb p:Nat) (v:Value) (n:Nat) (U:Nat→Int) (L:Bls):Prop where
 bl:BL w wr rb p L
 own:OwnL wr w.heap.size 35 12 v n U
 ne:∀ x∈L,v.ownBlock≠some x.1
theorem Dg.call {w wr w1:World} {rb p p1 n:Nat} {v:Value} {U:Nat→Int} {L:Bls} (h:Dg w wr rb p v n U L) (k:RB wr w1 rb p1):Dg w w1 rb p1 v n U L:=⟨h.bl.call k,h.own.but k.but h.bl.lo,h.ne⟩
theorem Dg.calb {w wr w1:World} {rb p n:Nat} {v:Value} {U:Nat→Int} {L:Bls} (h:Dg w wr rb p v n U L) (k:Below wr.heap.size wr w1):Dg w w1 rb p v n U L:=⟨h.bl.calb k,h.own.below k,h.ne⟩
theorem Dg.mono {w wr:World} {rb p p1 n:Nat} {v:Value} {U:Nat→Int} {L:Bls} (h:Dg w wr rb p v n U L) (k:p≤p1):Dg w wr rb p1 v n U L:=⟨h.bl.mono k,h.own,h.ne⟩
theorem Dg.drew {w wr:World} {rb p n:Nat} {v:Value} {U:Nat→Int} {L:Bls} (h:Dg w wr rb p v n U L):Dg w wr.drew rb p v n U L:=⟨h.bl.drew,h.own.drewO,h.ne⟩
theorem Dg.sub {w wr:World} {rb p n:Nat} {v:Value} {U:Nat→Int} {L M:Bls} (h:Dg w wr rb p v n U L) (k:∀ x∈M,x∈L):Dg w wr rb p v n U M:=⟨h.bl.sub k,h.own,fun x hx=>h.ne x (k x hx)⟩
theorem Dg.new {w wr:World} {rb p n:Nat} {v:Value} {U:Nat→Int} {L:Bls} (h:Dg w wr rb p v n U L) (b m:Nat) (V:Nat→Int) {cs:Array Value} {t:TypeId} (hb:b=wr.heap.size) (hc:∀ i,i<m→cs[i]? =some (.int .i64 (V i))):Dg w (wr.alloc (.cells cs t)) rb p v n U ((b,m,V)::L):=
 ⟨h.bl.new b m V hb hc,h.own.below (balloc _ _),fun x hx=>by
  rcases List.mem_cons.mp hx with rfl|hx
  · intro e;have:=(h.own.lt _ e).2;dsimp only at this;omega
  · exact h.ne x hx⟩
theorem Dg.set {w wr:World} {rb p n b m:Nat} {v:Value} {U V:Nat→Int} {L:Bls} (h:Dg w wr rb p v n U ((b,m,V)::L)) (hne:∀ x∈L,x.1≠b) (k:Nat) (hk:k<m) (z:Int):Dg w (wr.setCell ⟨b,k,none⟩ (.int .i64 z)) rb p v n U ((b,m,fun j=>if j=k then z else V j)::L):=
 ⟨h.bl.set hne k hk z,h.own.frame (Fr.setCell (X:=fun j=>j=b) rfl _) (fun j e x=>by subst x;exact h.ne (j,m,V) (List.mem_cons_self ..) e),fun x hx=>by
  rcases List.mem_cons.mp hx with rfl|hx
  · exact h.ne (b,m,V) (List.mem_cons_self ..)
  · exact h.ne x (List.mem_cons_of_mem _ hx)⟩
theorem Dg.headc {w wr:World} {rb p n b m:Nat} {v:Value} {U V V':Nat→Int} {L:Bls} (h:Dg w wr rb p v n U ((b,m,V)::L)) (k:∀ i,i<m→V i=V' i):Dg w wr rb p v n U ((b,m,V')::L):=
 ⟨h.bl.headc k,h.own,fun x hx=>by
  rcases List.mem_cons.mp hx with rfl|hx
  · exact h.ne (b,m,V) (List.mem_cons_self ..)
  · exact h.ne x (List.mem_cons_of_mem _ hx)⟩
theorem Dg.grown {w wr w':World} {rb p n n':Nat} {v v':Value} {U U':Nat→Int} {L:Bls} (h:Dg w wr rb p v n U L) (hg:wr.grownBy w' v.ownBlock) (ho:OwnL w' w.heap.size 35 12 v' n' U'):Dg w w' rb p v' n' U' []:=by
 have hsz:=h.bl.but.size
 have hB:Below w.heap.size wr w':=(Below.refl w.heap.size wr).grown hg hsz (fun b e=>(h.own.lt b e).1)
 exact⟨⟨h.bl.rs.upto hB h.bl.lo,⟨hB.os.trans h.bl.but.os,hB.tape.trans h.bl.but.tape,hB.output.trans h.bl.but.output,Nat.le_trans hsz hB.size,fun k hk hn=>(hB.block k hk).trans (h.bl.but.block k hk hn)⟩,h.bl.lo,fun x hx=>by cases hx⟩,ho,fun x hx=>by cases hx⟩
theorem Dg.start {w:World} {rb p:Nat} (h:RS w rb p) (U:Nat→Int):Dg w (w.alloc (.cells #[] 35)) rb p (.slice (some ⟨w.heap.size,0,none⟩) 0 0) 0 U []:=
 ⟨(BL.start h).alloc _,OwnL.fresh0 w w.heap.size 35 12 U _ rfl (Nat.le_refl _),fun x hx=>by cases hx⟩
theorem Bods.push {n:Nat} {U V:Nat→Int} (h:Bods n U) (hn:n<12) (hV:bodyB V=true) (hi:∀ k,k<n→U (k*12)<V 0):Bods (n+1) (cat (n*12) U V):=by
 have a1:∀ k j,k<n→j<12→cat (n*12) U V (k*12+j)=U (k*12+j):=fun k j hk hj=>by unfold cat;rw[if_pos (by omega)]
 have a2:∀ j,cat (n*12) U V (n*12+j)=V j:=fun j=>by unfold cat;rw[if_neg (by omega),Nat.add_sub_cancel_left]
 refine⟨hn,fun k hk=> ?_,fun k hk=> ?_⟩
 · by_cases e:k=n
   · subst e;rw[bodyB_cong (fun j _=>a2 j)];exact hV
   · rw[bodyB_cong (fun j hj=>a1 k j (by omega) hj)];exact h.ok k (by omega)
 · have b1:=a1 k 0 (by omega) (by omega)
   rw[Nat.add_zero] at b1
   rw[b1]
   by_cases e:k+1=n
   · have b2:=a2 0;rw[Nat.add_zero] at b2;rw[e,b2];exact hi k (by omega)
   · have b2:=a1 (k+1) 0 (by omega) (by omega);rw[Nat.add_zero] at b2;rw[b2];exact h.asc k (by omega)
theorem bod_at {V:Nat→Int} (h:bodyB V=true) {x y:Int} (hx: -2560000≤x∧x≤2560000) (hy: -2560000≤y∧y≤2560000):bodyB (setV (setV V 4 x) 5 y)=true:=by
 unfold bodyB at h ⊢
 have e:inB 2560000 x y=true:=by unfold inB;simp;omega
 have r:restB (setV (setV V 4 x) 5 y)=restB V:=rfl
 show (decide (0≤V 0∧V 0≤999999999)&&(shB (V 1) (V 2) (V 3)&&(inB 2560000 x y&&_)))=true
 simp only[Bool.and_eq_true] at h ⊢
 exact⟨h.1,h.2.1,e,h.2.2.2⟩
def FlatB (w:World) (a:Option Addr) (n:Nat) (A:Nat→Bool):Prop:=0<n→∃ b o,a=some ⟨b,o,none⟩∧b<w.heap.size∧∀ j,j<n→w.cell? ⟨b,o+j,none⟩=some (.bool (A j))
theorem FlatB.below {w w':World} {a:Option Addr} {n B:Nat} {A:Nat→Bool} (h:FlatB w a n A) (hb:Below w.heap.size w w'):FlatB w' a n A:=fun h0=>by
 obtain⟨b,o,e,l,c⟩:=h h0
 exact⟨b,o,e,Nat.lt_of_lt_of_le l hb.size,fun j hj=>(hb.cell (p:=⟨b,o+j,none⟩) l).trans (c j hj)⟩
def wakeV (b:Bool) (V:Nat→Int):Nat→Int:=bif b&&decide (8≤V 11) then setV V 11 0 else V
def awK (G:Nat→Int) (A:Nat→Bool) (k:Nat):Bool:=decide (0≤G k)&&A (G k).toNat
theorem l9Wake_any (a:Option Addr) (n c:Nat) (U:Nat→Int) (ag:Option Addr) (cg:Nat) (G:Nat→Int) (aa:Option Addr) (na ca:Nat) (A:Nat→Bool) (w:World) (h:Flat w a (n*12) U) (hn:n≤1048576) (hG2:Flat w ag (n*1) G) (hA3:FlatB w aa na A) (hGn:∀ k,k<n→G k<(na:Int)):
 Calls Tryz.prog 41 #[.slice a n c,.slice ag n cg,.slice aa na ca] w fun e w'=>∃ a1 c1,e= .returned (.slice a1 n c1)∧OutL w w' 35 12 a1 n c1 (mapR (fun i V=>wakeV (awK G A i) V) U n):=by
 have hset:=cset_map
 go_enter Tryz.func41,Tryz.ntmps41
 go_upto_region 1 with fail
 go_cut [7] (fun s0 wc=>∃ a1 c1,s0= .slice a1 n c1∧OutL w wc 35 12 a1 n c1 U)
 case first=>
  go_wp2_with (go_at_call 80;refine(l8Copy_any a n c U _ h hn).mono ?_;rintro e w3 ⟨a1,c1,rfl,hO⟩)
  go_meet
  exact⟨_,_,rfl,hO⟩
 case rest=>
 obtain⟨a1,c1,rfl,hO⟩:=hcut
 go_upto_region 3 with fail
 go_loopw [8] (fun s wr=>∃ k:Nat,k≤n∧s= .int .i64 (k:Int)∧OutL w wr 35 12 a1 n c1 (mapR (fun i V=>wakeV (awK G A i) V) U k)) (fun s _=>n-(intOf s).toNat)
 case atStart=>exact⟨0,Nat.zero_le _,rfl,by rw[mapR_0];exact hO⟩
 case round=>
  clear hO
  obtain⟨k,hk,rfl,hO⟩:=hrel
  by_cases hlt:k<n
  · have hkn:(k:Int)<(n:Int):=by omega
    obtain⟨g,rfl,hg1,hg2⟩:=hO.own.loc (by omega)
    have d0:wr.cell? ⟨g,k*12,none⟩=some (.int .i64 (U (k*12))):=by have q:=hO.own.cellq (q:=k*12+0) (by omega);rw[mapR_row] at q;exact q
    have d1:wr.cell? ⟨g,k*12+1,none⟩=some (.int .i64 (U (k*12+1))):=by have q:=hO.own.cellq (q:=k*12+1) (by omega);rw[mapR_row] at q;exact q
    have d2:wr.cell? ⟨g,k*12+2,none⟩=some (.int .i64 (U (k*12+2))):=by have q:=hO.own.cellq (q:=k*12+2) (by omega);rw[mapR_row] at q;exact q
    have d3:wr.cell? ⟨g,k*12+3,none⟩=some (.int .i64 (U (k*12+3))):=by have q:=hO.own.cellq (q:=k*12+3) (by omega);rw[mapR_row] at q;exact q
    have d4:wr.cell? ⟨g,k*12+4,none⟩=some (.int .i64 (U (k*12+4))):=by have q:=hO.own.cellq (q:=k*12+4) (by omega);rw[mapR_row] at q;exact q
    have d5:wr.cell? ⟨g,k*12+5,none⟩=some (.int .i64 (U (k*12+5))):=by have q:=hO.own.cellq (q:=k*12+5) (by omega);rw[mapR_row] at q;exact q
    have d6:wr.cell? ⟨g,k*12+6,none⟩=some (.int .i64 (U (k*12+6))):=by have q:=hO.own.cellq (q:=k*12+6) (by omega);rw[mapR_row] at q;exact q
    have d7:wr.cell? ⟨g,k*12+7,none⟩=some (.int .i64 (U (k*12+7))):=by have q:=hO.own.cellq (q:=k*12+7) (by omega);rw[mapR_row] at q;exact q
    have d8:wr.cell? ⟨g,k*12+8,none⟩=some (.int .i64 (U (k*12+8))):=by have q:=hO.own.cellq (q:=k*12+8) (by omega);rw[mapR_row] at q;exact q
    have d9:wr.cell? ⟨g,k*12+9,none⟩=some (.int .i64 (U (k*12+9))):=by have q:=hO.own.cellq (q:=k*12+9) (by omega);rw[mapR_row] at q;exact q
    have d10:wr.cell? ⟨g,k*12+10,none⟩=some (.int .i64 (U (k*12+10))):=by have q:=hO.own.cellq (q:=k*12+10) (by omega);rw[mapR_row] at q;exact q
    have d11:wr.cell? ⟨g,k*12+11,none⟩=some (.int .i64 (U (k*12+11))):=by have q:=hO.own.cellq (q:=k*12+11) (by omega);rw[mapR_row] at q;exact q
    have df:=hO.own.fro
    obtain⟨SL,hSL⟩:∃ b,decide (8≤(fun j=>U (k*12+j)) 11)=b:=⟨_,rfl⟩
    obtain⟨b2,o2,e2,hbl2,hc2⟩:=(hG2.below hO.bel) (by omega)
    have r2:=hc2 k (by omega)
    clear hc2
    have hGk:=hGn k hlt
    subst e2
    obtain⟨gk,hgk⟩:∃ z,G k=z:=⟨_,rfl⟩
    rw[hgk] at r2 hGk
    by_cases hg0:0≤gk
    · obtain⟨b3,o3,e3,hbl3,hc3⟩:=hA3 (by omega)
      have r3:=(hO.bel.cell (p:=⟨b3,o3+gk.toNat,none⟩) hbl3).trans (hc3 gk.toNat (by omega))
      clear hc3
      subst e3
      obtain⟨aw,haw⟩:∃ z,A gk.toNat=z:=⟨_,rfl⟩
      have hak:awK G A k=aw:=by unfold awK;rw[hgk,decide_eq_true hg0,Bool.true_and,haw]
      rw[haw] at r3
      have hgi:gk<(na:Int):=by omega
      clear hgk haw
      cases aw with
      | false=>
        have HNO:Shut (mapR (fun i V=>wakeV (awK G A i) V) U (k+1)=mapR (fun i V=>wakeV (awK G A i) V) U k):=mapR_same (fun j hj=>by show wakeV (awK G A k) (fun j=>U (k*12+j)) j=_;unfold wakeV;rw[hak];rfl)
        clear hak hSL
        go_wp2_with fail
        go_roundw
        case rel=>exact⟨k+1,by omega,by go_num,by rw[HNO.out];exact hO⟩
        case measure=>simp[intOf];omega
      | true=>
        cases SL with
        | false=>
          have HNO:Shut (mapR (fun i V=>wakeV (awK G A i) V) U (k+1)=mapR (fun i V=>wakeV (awK G A i) V) U k):=mapR_same (fun j hj=>by show wakeV (awK G A k) (fun j=>U (k*12+j)) j=_;unfold wakeV;rw[hak,hSL];rfl)
          clear hak
          go_wp2_with (go_at_call 79;refine(l6Sleeps_k (fun j=>U (k*12+j)) _ false hSL).mono ?_;rintro e w4 ⟨rfl,hb4⟩)
          go_roundw
          case rel=>exact⟨k+1,by omega,by go_num,by rw[HNO.out];exact hO.on hb4⟩
          case measure=>simp[intOf];omega
        | true=>
          have HS:Shut ((fun r=>if r=k*12+11 then 0 else mapR (fun i V=>wakeV (awK G A i) V) U k r)=mapR (fun i V=>wakeV (awK G A i) V) U (k+1)):=mapR_one (by omega) (fun i hi=>by
           show wakeV (awK G A k) (fun j=>U (k*12+j)) i=_
           unfold wakeV
           rw[hak,hSL]
           rfl)
          clear hak
          go_upto_region 6 with(go_at_call 79;refine(l6Sleeps_k (fun j=>U (k*12+j)) _ true hSL).mono ?_;rintro e w4 ⟨rfl,hb4⟩)
          have hO4:=hO.on hb4
          have uf:=hO4.own.fro
          have uc:=hO4.own.cellq (q:=k*12+11) (by omega)
          go_wp2_with fail
          have hq:=hO4.own.setq (k*12+11) (by omega) 0
          rw[HS.out] at hq
          have hB5:Below w.heap.size w (w4.setCell ⟨g,k*12+11,none⟩ (.int .i64 0)):=hO4.bel.setCell hg1 _
          go_roundw
          case rel=>exact⟨k+1,by omega,by go_num,hB5,hq⟩
          case measure=>simp[intOf];omega
    · have hak:awK G A k=false:=by unfold awK;rw[hgk,decide_eq_false hg0,Bool.false_and]
      have HNO:Shut (mapR (fun i V=>wakeV (awK G A i) V) U (k+1)=mapR (fun i V=>wakeV (awK G A i) V) U k):=mapR_same (fun j hj=>by show wakeV (awK G A k) (fun j=>U (k*12+j)) j=_;unfold wakeV;rw[hak];rfl)
      clear hak hSL hgk
      go_wp2_with fail
      go_roundw
      case rel=>exact⟨k+1,by omega,by go_num,by rw[HNO.out];exact hO⟩
      case measure=>simp[intOf];omega
  · obtain rfl:k=n:=by omega
    go_wp2_with fail
    go_ret
    exact⟨_,_,rfl,hO⟩
theorem l11AnyShape_s (rb p:Nat) (w:World) (hs0:RS w rb p) (hp:p≤997000):
 Calls Tryz.prog 69 #[.pointer (some ⟨rb,0,none⟩)] w fun e w'=>∃ k g h:Int,e= .returned (s3 k g h)∧(Bn k∧Bn g∧Bn h)∧RB w w' rb (p+600):=by
 have hlt:=hs0.lt
 have hne:(w.heap.size=rb)=False:=eq_false (by omega)
 have hset:=cset_map
 go_enter Tryz.func69,Tryz.ntmps69
 go_wp2_with (first
  |(have _:=hr1;go_at_call 34;refine(pick_s rb (p+200) _ _ (by repeat(first|(with_reducible apply RS.setNew;rotate_left;(first|omega|(simp only[zz];omega)))|with_reducible apply RS.alloc|(with_reducible apply RS.up hr1;omega)|(with_reducible apply RS.mono hs0;omega)|with_reducible apply RS.drew|with_reducible apply RS.drewN)) (by omega) (by omega) (by omega)).mono ?_;rintro e w2 ⟨v2,rfl,va2,vb2,hr2⟩;obtain⟨hc2,hf2⟩:=RB.cells hr2;have hz2:=RB.size hr2;(try simp only[zz] at hc2 hf2 hz2);have hq2x0:w.heap.size<w2.heap.size:=(by omega);have ha2x0:(w2.heap.size=w.heap.size)=False:=eq_false (by omega);have hb2x0:(w.heap.size=w2.heap.size)=False:=eq_false (by omega);have he2x0:(w.heap.size=rb)=False:=eq_false (by omega);have hk2x0:=fun o=>hc2 (w.heap.size) o (by omega) (by omega);have hj2x0:=fun o=>hf2 (w.heap.size) o (by omega) (by omega);have hq2x1:w1.heap.size<w2.heap.size:=(by omega);have ha2x1:(w2.heap.size=w1.heap.size)=False:=eq_false (by omega);have hb2x1:(w1.heap.size=w2.heap.size)=False:=eq_false (by omega);have he2x1:(w1.heap.size=rb)=False:=eq_false (by omega);have hk2x1:=fun o=>hc2 (w1.heap.size) o (by omega) (by omega);have hj2x1:=fun o=>hf2 (w1.heap.size) o (by omega) (by omega))
  |(have _:=hr2;go_at_call 17;refine(one_s (-1) 25601 rb (p+300) _ _ _ _ _ (by repeat(first|(with_reducible apply RS.setNew;rotate_left;(first|omega|(simp only[zz];omega)))|with_reducible apply RS.alloc|(with_reducible apply RS.up hr2;omega)|(with_reducible apply RS.mono hs0;omega)|with_reducible apply RS.drew|with_reducible apply RS.drewN)) (by omega) (by repeat(first|exact AllBd.nil|refine AllBd.cons (by omega) (by omega) ?_)) (by rfl) (by omega) (by omega)).mono ?_;rintro e w3 ⟨v3,rfl,va3,vb3,hr3⟩;obtain⟨hc3,hf3⟩:=RB.cells hr3;have hz3:=RB.size hr3;(try simp only[zz] at hc3 hf3 hz3);have hq3x0:w.heap.size<w3.heap.size:=(by omega);have ha3x0:(w3.heap.size=w.heap.size)=False:=eq_false (by omega);have hb3x0:(w.heap.size=w3.heap.size)=False:=eq_false (by omega);have he3x0:(w.heap.size=rb)=False:=eq_false (by omega);have hk3x0:=fun o=>hc3 (w.heap.size) o (by omega) (by omega);have hj3x0:=fun o=>hf3 (w.heap.size) o (by omega) (by omega);have hq3x1:w1.heap.size<w3.heap.size:=(by omega);have ha3x1:(w3.heap.size=w1.heap.size)=False:=eq_false (by omega);have hb3x1:(w1.heap.size=w3.heap.size)=False:=eq_false (by omega);have he3x1:(w1.heap.size=rb)=False:=eq_false (by omega);have hk3x1:=fun o=>hc3 (w1.heap.size) o (by omega) (by omega);have hj3x1:=fun o=>hf3 (w1.heap.size) o (by omega) (by omega))
  |(go_at_call 92;refine(l11Shape_s rb (p+100) _ (by repeat(first|(with_reducible apply RS.setNew;rotate_left;(first|omega|(simp only[zz];omega)))|with_reducible apply RS.alloc|(with_reducible apply RS.mono hs0;omega)|with_reducible apply RS.drew|with_reducible apply RS.drewN)) (by omega)).mono ?_;rintro e w1 ⟨k1,g1,h1,rfl,hd1,hr1⟩;obtain⟨hc1,hf1⟩:=RB.cells hr1;have hz1:=RB.size hr1;(try simp only[zz] at hc1 hf1 hz1);have hq1x0:w.heap.size<w1.heap.size:=(by omega);have ha1x0:(w1.heap.size=w.heap.size)=False:=eq_false (by omega);have hb1x0:(w.heap.size=w1.heap.size)=False:=eq_false (by omega);have he1x0:(w.heap.size=rb)=False:=eq_false (by omega);have hk1x0:=fun o=>hc1 (w.heap.size) o (by omega) (by omega);have hj1x0:=fun o=>hf1 (w.heap.size) o (by omega) (by omega);obtain⟨⟨k1a,k1b⟩,⟨g1a,g1b⟩,⟨h1a,h1b⟩⟩:=hd1))
 · exact bodyPost_ret (v:=s3 v3 g1 h1) (by simp[results,Tryz.results69,go_sem, *]) rfl ⟨_,_,_,rfl,⟨Bn.mk ⟨by omega,by omega⟩,Bn.mk ⟨by omega,by omega⟩,Bn.mk ⟨by omega,by omega⟩⟩,RB.mk (by repeat(first|(with_reducible apply But.setNew;rotate_left;(first|omega|(simp only[zz];omega)))|with_reducible apply But.alloc|with_reducible apply But.trans (k:=RB.but hr3)|with_reducible apply But.trans (k:=RB.but hr2)|with_reducible apply But.trans (k:=RB.but hr1)|with_reducible apply But.refl|with_reducible apply But.drewN|with_reducible apply But.drew)) (by repeat(first|(with_reducible apply RS.setNew;rotate_left;(first|omega|(simp only[zz];omega)))|with_reducible apply RS.alloc|(with_reducible apply RS.up hr3;omega)|(with_reducible apply RS.up hr2;omega)|(with_reducible apply RS.up hr1;omega)|(with_reducible apply RS.mono hs0;omega)|with_reducible apply RS.drew|with_reducible apply RS.drewN))⟩
 · exact bodyPost_ret (v:=s3 k1 v3 h1) (by simp[results,Tryz.results69,go_sem, *]) rfl ⟨_,_,_,rfl,⟨Bn.mk ⟨by omega,by omega⟩,Bn.mk ⟨by omega,by omega⟩,Bn.mk ⟨by omega,by omega⟩⟩,RB.mk (by repeat(first|(with_reducible apply But.setNew;rotate_left;(first|omega|(simp only[zz];omega)))|with_reducible apply But.alloc|with_reducible apply But.trans (k:=RB.but hr3)|with_reducible apply But.trans (k:=RB.but hr2)|with_reducible apply But.trans (k:=RB.but hr1)|with_reducible apply But.refl|with_reducible apply But.drewN|with_reducible apply But.drew)) (by repeat(first|(with_reducible apply RS.setNew;rotate_left;(first|omega|(simp only[zz];omega)))|with_reducible apply RS.alloc|(with_reducible apply RS.up hr3;omega)|(with_reducible apply RS.up hr2;omega)|(with_reducible apply RS.up hr1;omega)|(with_reducible apply RS.mono hs0;omega)|with_reducible apply RS.drew|with_reducible apply RS.drewN))⟩
 · exact bodyPost_ret (v:=s3 k1 g1 v3) (by simp[results,Tryz.results69,go_sem, *]) rfl ⟨_,_,_,rfl,⟨Bn.mk ⟨by omega,by omega⟩,Bn.mk ⟨by omega,by omega⟩,Bn.mk ⟨by omega,by omega⟩⟩,RB.mk (by repeat(first|(with_reducible apply But.setNew;rotate_left;(first|omega|(simp only[zz];omega)))|with_reducible apply But.alloc|with_reducible apply But.trans (k:=RB.but hr3)|with_reducible apply But.trans (k:=RB.but hr2)|with_reducible apply But.trans (k:=RB.but hr1)|with_reducible apply But.refl|with_reducible apply But.drewN|with_reducible apply But.drew)) (by repeat(first|(with_reducible apply RS.setNew;rotate_left;(first|omega|(simp only[zz];omega)))|with_reducible apply RS.alloc|(with_reducible apply RS.up hr3;omega)|(with_reducible apply RS.up hr2;omega)|(with_reducible apply RS.up hr1;omega)|(with_reducible apply RS.mono hs0;omega)|with_reducible apply RS.drew|with_reducible apply RS.drewN))⟩
 · exact bodyPost_ret (v:=s3 k1 g1 h1) (by simp[results,Tryz.results69,go_sem, *]) rfl ⟨_,_,_,rfl,⟨Bn.mk ⟨by omega,by omega⟩,Bn.mk ⟨by omega,by omega⟩,Bn.mk ⟨by omega,by omega⟩⟩,RB.mk (by repeat(first|(with_reducible apply But.setNew;rotate_left;(first|omega|(simp only[zz];omega)))|with_reducible apply But.alloc|with_reducible apply But.trans (k:=RB.but hr2)|with_reducible apply But.trans (k:=RB.but hr1)|with_reducible apply But.refl|with_reducible apply But.drewN|with_reducible apply But.drew)) (by repeat(first|(with_reducible apply RS.setNew;rotate_left;(first|omega|(simp only[zz];omega)))|with_reducible apply RS.alloc|(with_reducible apply RS.up hr2;omega)|(with_reducible apply RS.up hr1;omega)|(with_reducible apply RS.mono hs0;omega)|with_reducible apply RS.drew|with_reducible apply RS.drewN))⟩
theorem l11AnyPlace_s (rb p:Nat) (w:World) (hs0:RS w rb p) (hp:p≤997000):
 Calls Tryz.prog 70 #[.pointer (some ⟨rb,0,none⟩)] w fun e w'=>∃ x y:Int,e= .returned (vv x y)∧(Bn x∧Bn y)∧RB w w' rb (p+600):=by
 have hlt:=hs0.lt
 have hne:(w.heap.size=rb)=False:=eq_false (by omega)
 have hset:=cset_map
 go_enter Tryz.func70,Tryz.ntmps70
 go_wp2_with (first
  |(have _:=hr1;go_at_call 34;refine(pick_s rb (p+200) _ _ (by repeat(first|(with_reducible apply RS.setNew;rotate_left;(first|omega|(simp only[zz];omega)))|with_reducible apply RS.alloc|(with_reducible apply RS.up hr1;omega)|(with_reducible apply RS.mono hs0;omega)|with_reducible apply RS.drew|with_reducible apply RS.drewN)) (by omega) (by omega) (by omega)).mono ?_;rintro e w2 ⟨v2,rfl,va2,vb2,hr2⟩;obtain⟨hc2,hf2⟩:=RB.cells hr2;have hz2:=RB.size hr2;(try simp only[zz] at hc2 hf2 hz2);have hq2x0:w.heap.size<w2.heap.size:=(by omega);have ha2x0:(w2.heap.size=w.heap.size)=False:=eq_false (by omega);have hb2x0:(w.heap.size=w2.heap.size)=False:=eq_false (by omega);have he2x0:(w.heap.size=rb)=False:=eq_false (by omega);have hk2x0:=fun o=>hc2 (w.heap.size) o (by omega) (by omega);have hj2x0:=fun o=>hf2 (w.heap.size) o (by omega) (by omega);have hq2x1:w1.heap.size<w2.heap.size:=(by omega);have ha2x1:(w2.heap.size=w1.heap.size)=False:=eq_false (by omega);have hb2x1:(w1.heap.size=w2.heap.size)=False:=eq_false (by omega);have he2x1:(w1.heap.size=rb)=False:=eq_false (by omega);have hk2x1:=fun o=>hc2 (w1.heap.size) o (by omega) (by omega);have hj2x1:=fun o=>hf2 (w1.heap.size) o (by omega) (by omega))
  |(have _:=hr2;go_at_call 17;refine(one_s (-2560001) 2560001 rb (p+300) _ _ _ _ _ (by repeat(first|(with_reducible apply RS.setNew;rotate_left;(first|omega|(simp only[zz];omega)))|with_reducible apply RS.alloc|(with_reducible apply RS.up hr2;omega)|(with_reducible apply RS.mono hs0;omega)|with_reducible apply RS.drew|with_reducible apply RS.drewN)) (by omega) (by repeat(first|exact AllBd.nil|refine AllBd.cons (by omega) (by omega) ?_)) (by rfl) (by omega) (by omega)).mono ?_;rintro e w3 ⟨v3,rfl,va3,vb3,hr3⟩;obtain⟨hc3,hf3⟩:=RB.cells hr3;have hz3:=RB.size hr3;(try simp only[zz] at hc3 hf3 hz3);have hq3x0:w.heap.size<w3.heap.size:=(by omega);have ha3x0:(w3.heap.size=w.heap.size)=False:=eq_false (by omega);have hb3x0:(w.heap.size=w3.heap.size)=False:=eq_false (by omega);have he3x0:(w.heap.size=rb)=False:=eq_false (by omega);have hk3x0:=fun o=>hc3 (w.heap.size) o (by omega) (by omega);have hj3x0:=fun o=>hf3 (w.heap.size) o (by omega) (by omega);have hq3x1:w1.heap.size<w3.heap.size:=(by omega);have ha3x1:(w3.heap.size=w1.heap.size)=False:=eq_false (by omega);have hb3x1:(w1.heap.size=w3.heap.size)=False:=eq_false (by omega);have he3x1:(w1.heap.size=rb)=False:=eq_false (by omega);have hk3x1:=fun o=>hc3 (w1.heap.size) o (by omega) (by omega);have hj3x1:=fun o=>hf3 (w1.heap.size) o (by omega) (by omega))
  |(go_at_call 93;refine(l11Place_s rb (p+100) _ (by repeat(first|(with_reducible apply RS.setNew;rotate_left;(first|omega|(simp only[zz];omega)))|with_reducible apply RS.alloc|(with_reducible apply RS.mono hs0;omega)|with_reducible apply RS.drew|with_reducible apply RS.drewN)) (by omega)).mono ?_;rintro e w1 ⟨x1,y1,rfl,hd1,hr1⟩;obtain⟨hc1,hf1⟩:=RB.cells hr1;have hz1:=RB.size hr1;(try simp only[zz] at hc1 hf1 hz1);have hq1x0:w.heap.size<w1.heap.size:=(by omega);have ha1x0:(w1.heap.size=w.heap.size)=False:=eq_false (by omega);have hb1x0:(w.heap.size=w1.heap.size)=False:=eq_false (by omega);have he1x0:(w.heap.size=rb)=False:=eq_false (by omega);have hk1x0:=fun o=>hc1 (w.heap.size) o (by omega) (by omega);have hj1x0:=fun o=>hf1 (w.heap.size) o (by omega) (by omega);obtain⟨⟨x1a,x1b⟩,⟨y1a,y1b⟩⟩:=hd1))
 · exact bodyPost_ret (v:=vv v3 y1) (by simp[results,Tryz.results70,go_sem, *]) rfl ⟨_,_,rfl,⟨Bn.mk ⟨by omega,by omega⟩,Bn.mk ⟨by omega,by omega⟩⟩,RB.mk (by repeat(first|(with_reducible apply But.setNew;rotate_left;(first|omega|(simp only[zz];omega)))|with_reducible apply But.alloc|with_reducible apply But.trans (k:=RB.but hr3)|with_reducible apply But.trans (k:=RB.but hr2)|with_reducible apply But.trans (k:=RB.but hr1)|with_reducible apply But.refl|with_reducible apply But.drewN|with_reducible apply But.drew)) (by repeat(first|(with_reducible apply RS.setNew;rotate_left;(first|omega|(simp only[zz];omega)))|with_reducible apply RS.alloc|(with_reducible apply RS.up hr3;omega)|(with_reducible apply RS.up hr2;omega)|(with_reducible apply RS.up hr1;omega)|(with_reducible apply RS.mono hs0;omega)|with_reducible apply RS.drew|with_reducible apply RS.drewN))⟩
 · exact bodyPost_ret (v:=vv x1 v3) (by simp[results,Tryz.results70,go_sem, *]) rfl ⟨_,_,rfl,⟨Bn.mk ⟨by omega,by omega⟩,Bn.mk ⟨by omega,by omega⟩⟩,RB.mk (by repeat(first|(with_reducible apply But.setNew;rotate_left;(first|omega|(simp only[zz];omega)))|with_reducible apply But.alloc|with_reducible apply But.trans (k:=RB.but hr3)|with_reducible apply But.trans (k:=RB.but hr2)|with_reducible apply But.trans (k:=RB.but hr1)|with_reducible apply But.refl|with_reducible apply But.drewN|with_reducible apply But.drew)) (by repeat(first|(with_reducible apply RS.setNew;rotate_left;(first|omega|(simp only[zz];omega)))|with_reducible apply RS.alloc|(with_reducible apply RS.up hr3;omega)|(with_reducible apply RS.up hr2;omega)|(with_reducible apply RS.up hr1;omega)|(with_reducible apply RS.mono hs0;omega)|with_reducible apply RS.drew|with_reducible apply RS.drewN))⟩
 · exact bodyPost_ret (v:=vv x1 y1) (by simp[results,Tryz.results70,go_sem, *]) rfl ⟨_,_,rfl,⟨Bn.mk ⟨by omega,by omega⟩,Bn.mk ⟨by omega,by omega⟩⟩,RB.mk (by repeat(first|(with_reducible apply But.setNew;rotate_left;(first|omega|(simp only[zz];omega)))|with_reducible apply But.alloc|with_reducible apply But.trans (k:=RB.but hr2)|with_reducible apply But.trans (k:=RB.but hr1)|with_reducible apply But.refl|with_reducible apply But.drewN|with_reducible apply But.drew)) (by repeat(first|(with_reducible apply RS.setNew;rotate_left;(first|omega|(simp only[zz];omega)))|with_reducible apply RS.alloc|(with_reducible apply RS.up hr2;omega)|(with_reducible apply RS.up hr1;omega)|(with_reducible apply RS.mono hs0;omega)|with_reducible apply RS.drew|with_reducible apply RS.drewN))⟩
end Go.Proofs.YthajilkjfkppoaaGreatDoor
