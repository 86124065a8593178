/- Texts of a proof. -/
import Derived.Test.YthajilkjfkppoaaGreatDoorDrawGb
import Derived.Test.YthajilkjfkppoaaGreatDoorB34
import Derived.Deep.RegionHeld3
import Derived.Deep.DeepCutAuto
import Derived.Test.YthajilkjfkppoaaGreatDoorB13
import Derived.Test.YthajilkjfkppoaaGreatDoorB9
import Derived.Test.YthajilkjfkppoaaGreatDoorB25
import Derived.Test.YthajilkjfkppoaaGreatDoorB15
import Derived.Test.YthajilkjfkppoaaGreatDoorB3
set_option maxHeartbeats 16000000
set_option maxRecDepth 20000
namespace Go.Proofs.YthajilkjfkppoaaGreatDoor
open Go.RowKit
set_option linter.unusedVariables false
set_option linter.unusedSimpArgs false
def LN (n:Nat) (U:Nat→Int):Prop:=n≤13∧∀ k,k<n→BN (fun j=>U (k*12+j))
theorem LN.of {n:Nat} {U:Nat→Int} (h:Bods n U):LN n U:=⟨by have:=h.le;omega,fun k hk=>bn_of (h.ok k hk)⟩
theorem LN.put {n:Nat} {U V:Nat→Int} {j:Nat} (h:LN n U) (hV:BN V):LN n (putRow U j V):=by
 refine⟨h.1,fun k hk i hi=> ?_⟩
 unfold putRow
 by_cases e:j*12≤k*12+i∧k*12+i<j*12+12
 · have:j=k:=by omega
   subst this
   simp only[e,and_self,if_true,Nat.add_sub_cancel_left]
   exact hV i hi
 · simp only[e,if_false];exact h.2 k hk i hi
theorem LN.push {n:Nat} {U V:Nat→Int} (h:LN n U) (hn:n≤12) (hV:BN V):LN (n+1) (cat (n*12) U V):=by
 refine⟨by omega,fun k hk i hi=> ?_⟩
 unfold cat
 by_cases e:k=n
 · subst e
   simp only[show ¬ k*12+i<k*12 by omega,if_false,Nat.add_sub_cancel_left]
   exact hV i hi
 · simp only[show k*12+i<n*12 by omega,if_true]
   exact h.2 k (by omega) i hi
theorem Dg.row {w wr:World} {rb p n g c:Nat} {U:Nat→Int} (h:Dg w wr rb p (.slice (some ⟨g,0,none⟩) n c) n U []) {w':World} {U':Nat→Int} (hs:Fr (fun b=>b=g) wr w') (hq:OwnL w' w.heap.size 35 12 (.slice (some ⟨g,0,none⟩) n c) n U'):Dg w w' rb p (.slice (some ⟨g,0,none⟩) n c) n U' []:=by
 have hg:=(h.own.lt g rfl).1
 have hsz:=h.bl.but.size
 have hB:Below w.heap.size wr w':=hs.below hsz (fun k e=>by omega)
 exact⟨⟨h.bl.rs.upto hB h.bl.lo,⟨hB.os.trans h.bl.but.os,hB.tape.trans h.bl.but.tape,hB.output.trans h.bl.but.output,Nat.le_trans hsz hB.size,fun k hk hn=>(hB.block k hk).trans (h.bl.but.block k hk hn)⟩,h.bl.lo,fun x hx=>by cases hx⟩,hq,fun x hx=>by cases hx⟩
theorem l11AnyBodies_k (rb p:Nat) (w:World) (hs0:RS w rb p) (hp:p≤500000):
 Calls Tryz.prog 16 #[.pointer (some ⟨rb,0,none⟩)] w fun e w'=>∃ (a:Option Addr) (n c:Nat) (U:Nat→Int),e= .returned (.slice a n c)∧LN n U∧Dg w w' rb (p+40000) (.slice a n c) n U []:=by
 have hlt:=hs0.lt
 have hset:=cset_map
 go_enter Tryz.func16,Tryz.ntmps16
 go_upto_region 1 with fail
 go_cut [3] (fun s3 wc=>∃ (a:Option Addr) (n c:Nat) (U:Nat→Int),s3=(.slice a n c)∧Bods n U∧Dg w wc rb (p+30000) (.slice a n c) n U [])
 case first=>
  go_wp2_with (go_at_call 33;refine(l11Bodies_k rb p _ hs0 (by omega)).mono ?_;rintro e w1 ⟨a,n,c,U,rfl,hB,hD⟩)
  go_meet
  exact⟨a,n,c,U,rfl,hB,hD⟩
 case rest=>
 obtain⟨a,n,c,U,rfl,hB,hD⟩:=hcut
 have hn12:=hB.le
 have hL:=LN.of hB
 by_cases hn0:n=0
 · have e1:((n:Int)==0)=true:=by simp[hn0]
   clear hn0
   go_wp2_with fail
   go_ret
   first|exact⟨_,_,_,_,rfl,hL,hD.mono (by omega)⟩|exact⟨_,_,_,rfl,_,hL,hD.mono (by omega)⟩
 · have e1:((n:Int)==0)=false:=by simp[hn0]
   have hn1:(1:Int)≤(n:Int):=by omega
   have hn1':0<n:=by omega
   go_upto_region 4 with fail
   go_cut [4] (fun s4 wc=>∃ k:Nat,s4= .int .i64 (k:Int)∧k<n∧Dg w wc rb (p+30001) (.slice a n c) n U [])
   case first=>
    go_wp2_with (go_at_call 34;refine(pick_s rb (p+30000) _ _ (by exact hD.bl.rs) (by omega) (by omega) (by omega)).mono ?_;rintro e w2 ⟨v2,rfl,va2,vb2,hr2⟩)
    go_meet
    exact⟨v2.toNat,by rw[Int.toNat_of_nonneg va2],by omega,hD.call hr2⟩
   case rest=>
   clear hD
   obtain⟨k,rfl,hk,hD⟩:=hcut
   go_upto_region 5 with fail
   go_cut [16] (fun s16 wc=>∃ v:Int,s16= .int .i64 v∧Dg w wc rb (p+30002) (.slice a n c) n U [])
   case first=>
    go_wp2_with (go_at_call 34;refine(pick_s rb (p+30001) _ _ (by exact hD.bl.rs) (by omega) (by omega) (by omega)).mono ?_;rintro e w3 ⟨v3,rfl,va3,vb3,hr3⟩)
    go_meet
    exact⟨_,rfl,hD.call hr3⟩
   case rest=>
   clear hD
   obtain⟨v,rfl,hD⟩:=hcut
   obtain⟨g,rfl,hg1,hg2⟩:=hD.own.loc hn1'
   have hki:(k:Int)<(n:Int):=by omega
   by_cases e0:v=0
   · have e2:(v==0)=true:=by simp[e0]
     clear e0
     go_upto_region 10 with(go_at_call 35;refine(l11AnyBody_s rb (p+30002) _ (by exact hD.bl.rs) (by omega)).mono ?_;rintro e w4 ⟨V,rfl,hV,hr4⟩;have hD4:=hD.call hr4;have umf:=hD4.own.fro;(have um0:=hD4.own.cellq (q:=k*12) (by omega));(have um1:=hD4.own.cellq (q:=k*12+1) (by omega));(have um2:=hD4.own.cellq (q:=k*12+2) (by omega));(have um3:=hD4.own.cellq (q:=k*12+3) (by omega));(have um4:=hD4.own.cellq (q:=k*12+4) (by omega));(have um5:=hD4.own.cellq (q:=k*12+5) (by omega));(have um6:=hD4.own.cellq (q:=k*12+6) (by omega));(have um7:=hD4.own.cellq (q:=k*12+7) (by omega));(have um8:=hD4.own.cellq (q:=k*12+8) (by omega));(have um9:=hD4.own.cellq (q:=k*12+9) (by omega));(have um10:=hD4.own.cellq (q:=k*12+10) (by omega));(have um11:=hD4.own.cellq (q:=k*12+11) (by omega)))
     have hq:=put12 hD4.own hk V
     have hD5:=hD4.row (putFr (w4:=w4) (g:=g) (p:=k) V) hq
     clear umf um0 um1 um2 um3 um4 um5 um6 um7 um8 um9 um10 um11 hD hD4
     generalize ((((((((((((w4.setCell ⟨g,k*12,none⟩ (.int .i64 (V 0))).setCell ⟨g,k*12+1,none⟩ (.int .i64 (V 1))).setCell ⟨g,k*12+2,none⟩ (.int .i64 (V 2))).setCell ⟨g,k*12+3,none⟩ (.int .i64 (V 3))).setCell ⟨g,k*12+4,none⟩ (.int .i64 (V 4))).setCell ⟨g,k*12+5,none⟩ (.int .i64 (V 5))).setCell ⟨g,k*12+6,none⟩ (.int .i64 (V 6))).setCell ⟨g,k*12+7,none⟩ (.int .i64 (V 7))).setCell ⟨g,k*12+8,none⟩ (.int .i64 (V 8))).setCell ⟨g,k*12+9,none⟩ (.int .i64 (V 9))).setCell ⟨g,k*12+10,none⟩ (.int .i64 (V 10))).setCell ⟨g,k*12+11,none⟩ (.int .i64 (V 11)))=w9 at hD5 ⊢
     go_wp2_with fail
     go_ret
     first|exact⟨_,_,_,_,rfl,hL.put hV,hD5.mono (by omega)⟩|exact⟨_,_,_,rfl,_,hL.put hV,hD5.mono (by omega)⟩
   · have e2:(v==0)=false:=by simp[e0]
     by_cases e3:v=1
     · have e4:(v==1)=true:=by simp[e3]
       clear e0 e3
       have hV:BN (fun i=>U i):=fun j hj=>by have:=hL.2 0 hn1' j hj;simpa using this
       have u0:wc.cell? ⟨g,0,none⟩=some (.int .i64 (U 0)):=by have:=hD.own.cellq (q:=0) (by omega);exact this
       have u1:wc.cell? ⟨g,1,none⟩=some (.int .i64 (U 1)):=by have:=hD.own.cellq (q:=1) (by omega);exact this
       have u2:wc.cell? ⟨g,2,none⟩=some (.int .i64 (U 2)):=by have:=hD.own.cellq (q:=2) (by omega);exact this
       have u3:wc.cell? ⟨g,3,none⟩=some (.int .i64 (U 3)):=by have:=hD.own.cellq (q:=3) (by omega);exact this
       have u4:wc.cell? ⟨g,4,none⟩=some (.int .i64 (U 4)):=by have:=hD.own.cellq (q:=4) (by omega);exact this
       have u5:wc.cell? ⟨g,5,none⟩=some (.int .i64 (U 5)):=by have:=hD.own.cellq (q:=5) (by omega);exact this
       have u6:wc.cell? ⟨g,6,none⟩=some (.int .i64 (U 6)):=by have:=hD.own.cellq (q:=6) (by omega);exact this
       have u7:wc.cell? ⟨g,7,none⟩=some (.int .i64 (U 7)):=by have:=hD.own.cellq (q:=7) (by omega);exact this
       have u8:wc.cell? ⟨g,8,none⟩=some (.int .i64 (U 8)):=by have:=hD.own.cellq (q:=8) (by omega);exact this
       have u9:wc.cell? ⟨g,9,none⟩=some (.int .i64 (U 9)):=by have:=hD.own.cellq (q:=9) (by omega);exact this
       have u10:wc.cell? ⟨g,10,none⟩=some (.int .i64 (U 10)):=by have:=hD.own.cellq (q:=10) (by omega);exact this
       have u11:wc.cell? ⟨g,11,none⟩=some (.int .i64 (U 11)):=by have:=hD.own.cellq (q:=11) (by omega);exact this
       have hF:Flat (wc.alloc (Obj.cells #[.int .i64 (U 0),.int .i64 (U 1),.int .i64 (U 2),.int .i64 (U 3),.int .i64 (U 4),.int .i64 (U 5),.int .i64 (U 6),.int .i64 (U 7),.int .i64 (U 8),.int .i64 (U 9),.int .i64 (U 10),.int .i64 (U 11)] 35)) (some ⟨wc.heap.size,0,none⟩) (1*12) (fun i=>U i):=by
        intro _
        refine⟨wc.heap.size,0,rfl,by simp,fun i hi=> ?_⟩
        rw[Nat.zero_add]
        rcases(show i=0∨i=1∨i=2∨i=3∨i=4∨i=5∨i=6∨i=7∨i=8∨i=9∨i=10∨i=11 by omega) with rfl|rfl|rfl|rfl|rfl|rfl|rfl|rfl|rfl|rfl|rfl|rfl<;>go_simp
       have hE:Below wc.heap.size wc (wc.alloc (Obj.cells #[.int .i64 (U 0),.int .i64 (U 1),.int .i64 (U 2),.int .i64 (U 3),.int .i64 (U 4),.int .i64 (U 5),.int .i64 (U 6),.int .i64 (U 7),.int .i64 (U 8),.int .i64 (U 9),.int .i64 (U 10),.int .i64 (U 11)] 35)):=balloc _ _
       have hDE:=hD.calb hE
       have hsz5:=hDE.bl.but.size
       go_upto_region 10 with(refine wpList_app rfl _ _ _ rfl w.heap.size 35 12 96 zcBody Tryz.underlying23 infoItBody rfl (by decide) (.slice (some ⟨g,0,none⟩) n c) n U rfl hDE.own (some ⟨wc.heap.size,0,none⟩) 1 1 (fun i=>U i) rfl hF (by unfold maxLen;omega) (by omega) hsz5 ?_;intro a5 c5 w5 ho5 hg5)
       have hD5:=hDE.grown hg5 ho5
       go_wp2_with fail
       go_ret
       first|exact⟨_,_,_,_,rfl,hL.push hn12 hV,hD5.mono (by omega)⟩|exact⟨_,_,_,rfl,_,hL.push hn12 hV,hD5.mono (by omega)⟩
     · have e4:(v==1)=false:=by simp[e3]
       clear e0 e3
       go_wp2_with fail
       go_ret
       first|exact⟨_,_,_,_,rfl,hL,hD.mono (by omega)⟩|exact⟨_,_,_,rfl,_,hL,hD.mono (by omega)⟩
def Blk (w:World) (b:Nat) (cs:Array Value) (t:TypeId):Prop:=w.heap[b]? =some (.cells cs t (0,0))
theorem Blk.lt {w:World} {b:Nat} {cs:Array Value} {t:TypeId} (h:Blk w b cs t):b<w.heap.size:=by
 rcases Nat.lt_or_ge b w.heap.size with q|q
 · exact q
 · unfold Blk at h;rw[Array.getElem?_eq_none q] at h;cases h
theorem Blk.cell {w:World} {b:Nat} {cs:Array Value} {t:TypeId} (h:Blk w b cs t) (i:Nat) {v:Value} (hv:cs[i]? =some v):w.cell? ⟨b,i,none⟩=some v:=by unfold Blk at h;simp[World.cell?,h,hv]
theorem Blk.f {w:World} {b:Nat} {cs:Array Value} {t:TypeId} (h:Blk w b cs t):∀ o,w.frozen? ⟨b,o,none⟩=false:=by unfold Blk at h;intro o;simp[World.frozen?,h]
theorem Blk.on {w w':World} {b:Nat} {cs:Array Value} {t:TypeId} (h:Blk w b cs t) (hb:Below w.heap.size w w'):Blk w' b cs t:=(hb.block b h.lt).trans h
theorem Blk.but {w w':World} {b rb:Nat} {cs:Array Value} {t:TypeId} (h:Blk w b cs t) (hb:But rb w w') (hn:b≠rb):Blk w' b cs t:=(hb.block b h.lt hn).trans h
theorem Blk.new (w:World) (cs:Array Value) (t:TypeId):Blk (w.alloc (.cells cs t)) w.heap.size cs t:=by show (w.heap.push _)[w.heap.size]? =_;simp
theorem Blk.al {w:World} {b:Nat} {cs:Array Value} {t:TypeId} (h:Blk w b cs t) (o:Obj):Blk (w.alloc o) b cs t:=h.on ((Below.refl _ _).alloc (Nat.le_refl _) o)
theorem Blk.dr {w:World} {b:Nat} {cs:Array Value} {t:TypeId} (h:Blk w b cs t):Blk w.drew b cs t:=h
theorem Blk.far {w:World} {b b' o:Nat} {cs:Array Value} {t:TypeId} (h:Blk w b cs t) (hn:b≠b') (v:Value):Blk (w.setCell ⟨b',o,none⟩ v) b cs t:=(Below.heap_setCell w ⟨b',o,none⟩ v b hn).trans h
theorem Blk.put {w:World} {b:Nat} {cs:Array Value} {t:TypeId} (h:Blk w b cs t) (i:Nat) (v:Value):Blk (w.setCell ⟨b,i,none⟩ v) b (cs.setIfInBounds i v) t:=by
 show (w.heap.modify b _)[b]? =_
 unfold Blk at h
 rw[Array.getElem?_modify,if_pos rfl,h]
 rfl
theorem Blk.ne {w:World} {b base t t' k n:Nat} {cs:Array Value} {v:Value} {U:Nat→Int} (h:Blk w b cs t') (ho:OwnL w base t k v n U) (ht:t≠t'):v.ownBlock≠some b:=by
 intro e
 rcases ho.2 with⟨hv,_⟩|⟨g',cap,cur,hv,hb,hg,_⟩
 · subst hv;simp[Value.ownBlock] at e
 · subst hv
   simp[Value.ownBlock] at e
   subst e
   unfold Blk at h
   rw[h] at hg
   simp only[Option.some.injEq,Obj.cells.injEq] at hg
   exact ht hg.2.1.symm
theorem OwnL.dr {w:World} {base t k n:Nat} {v:Value} {U:Nat→Int} (h:OwnL w base t k v n U):OwnL w.drew base t k v n U:=World.ownsRow.drew h
theorem OwnL.al {w:World} {base t k n:Nat} {v:Value} {U:Nat→Int} (h:OwnL w base t k v n U) (o:Obj):OwnL (w.alloc o) base t k v n U:=h.below ((Below.refl _ _).alloc (Nat.le_refl _) o)
theorem OwnL.btb {w w':World} {rb base t k n:Nat} {v:Value} {U:Nat→Int} (h:OwnL w base t k v n U) (hb:But rb w w') (hr:rb<base):OwnL w' base t k v n U:=by
 have hg:w.grownBy w' (Option.some rb):=⟨hb.os,hb.tape,hb.output,hb.size,fun j hj hne=>hb.block j hj (fun e=>hne (by rw[e]))⟩
 cases e:v.ownBlock with
 |none=>exact World.ownsRow.kept h hg (.inl e)
 |some b=>exact World.ownsRow.kept h hg (.inr (by rw[e];intro q;have:=(h.lt b e).1;simp at q;omega))
theorem OwnL.stb {w:World} {base b o t k n:Nat} {v:Value} {U:Nat→Int} (h:OwnL w base t k v n U) (hn:v.ownBlock≠Option.some b) (x:Value):OwnL (w.setCell ⟨b,o,none⟩ x) base t k v n U:=
 h.kept (row:=Option.some b) ⟨rfl,rfl,rfl,by simp,fun j hj hne=>Below.heap_setCell _ _ _ _ (fun e=>hne (by rw[e]))⟩ (.inr hn)
theorem RB.al {w0 w:World} {rb p:Nat} (h:RB w0 w rb p) (o:Obj):RB w0 (w.alloc o) rb p:=h.alloc o
theorem RB.rs {w0 w:World} {rb p:Nat} (h:RB w0 w rb p):RS w rb p:=RS.of h
def DrStep (w:World) (e:Ending) (w':World):Prop:=∃ (al:Option Addr) (n c:Nat) (U:Nat→Int) (p:Int),e= .returned (.tuple #[.slice al n c,.int .i64 p])∧n≤13∧(-1≤p∧p≤2561)∧Below w.heap.size w w'∧OwnL w' w.heap.size 35 12 (.slice al n c) n U
theorem drStep_k (ac0:Option Addr) (len cap:Nat) (w:World) (hb:Bytes w ac0 len cap):
 Calls Tryz.prog 5 #[.slice ac0 len cap] w fun e w'=>DrStep w e w':=by
 have hset:=cset_map
 go_enter Tryz.func5,Tryz.ntmps5
 go_upto_region 1 with fail
 go_cut [4] (fun s wc=>∃ rb:Nat,s= .pointer (some ⟨rb,0,none⟩)∧w.heap.size≤rb∧RS wc rb 0∧Below w.heap.size w wc)
 case first=>
  go_wp2_with (go_at_call 15;refine(l1Open_rb _ _ _ _ hb).mono ?_;rintro e w1 ⟨rfl,hr1,hbel⟩)
  go_meet
  exact⟨_,rfl,Nat.le_refl _,hr1.rs,hbel⟩
 case rest=>
 obtain⟨rb,rfl,hlo,hS,hW⟩:=hcut
 have hlt:=hS.lt
 go_wp2_with (first
  |(have _:=hW2;go_at_call 17;refine(one_s (-1) 2561 rb (40000) _ _ _ _ _ (by exact hS2) (by omega) (by repeat(first|exact AllBd.nil|refine AllBd.cons (by omega) (by omega) ?_)) (by rfl) (by omega) (by omega)).mono ?_;rintro e w3 ⟨p,rfl,vp,up,hr3⟩;have hS3:=hr3.rs;have hO3:=hO2.btb hr3.but hB0;have hW3:=hW2.trans (hr3.old (by omega) hW2.size))
  |(go_at_call 16;refine(l11AnyBodies_k rb 0 _ (by exact hS) (by omega)).mono ?_;rintro e w2 ⟨al,n,c,U,rfl,hL,hD⟩;have hr2:=hD.bl.done;obtain⟨B0,hB0,hB1,hO2⟩:∃ B0,rb<B0∧w.heap.size≤B0∧OwnL w2 B0 35 12 (.slice al n c) n U:=⟨_,hlt,hW.size,hD.own⟩;have hS2:=hr2.rs.mono (p':=40000) (by omega);have hW2:=hW.trans (hr2.old (by omega) hW.size);clear hD))
 unfold DrStep
 go_ret2
 exact⟨al,n,c,U,p,rfl,hL.1,⟨vp,up⟩,hW3,hO3.base hB1⟩
def DrSteps (w:World) (e:Ending) (w':World):Prop:=∃ (al:Option Addr) (n c:Nat) (U:Nat→Int) (p s:Int),e= .returned (.tuple #[.slice al n c,.int .i64 p,.int .i64 s])∧n≤13∧(0≤p∧p≤32)∧(-1≤s∧s≤61)∧Below w.heap.size w w'∧OwnL w' w.heap.size 35 12 (.slice al n c) n U
def DrStill (w:World) (e:Ending) (w':World):Prop:=∃ (al:Option Addr) (n c:Nat) (U:Nat→Int),e= .returned (.slice al n c)∧n≤13∧Below w.heap.size w w'∧OwnL w' w.heap.size 35 12 (.slice al n c) n U
theorem pqBodies_same (a a':Option Addr) (N c c':Nat) (R:Nat→Int) (w:World) (h:Flat w a (N*12) R) (h':Flat w a' (N*12) R) (hN:N≤1000):
 Calls Tryz.prog 7 #[.slice a N c,.slice a' N c'] w fun e w'=>e= .returned (.bool true)∧Below w.heap.size w w':=by
 have hset:=cset_map
 have e0:((N:Int) !=(N:Int))=false:=by simp
 go_enter Tryz.func7,Tryz.ntmps7
 go_upto_region 4 with fail
 go_loopw [5] (fun s wr=>∃ k:Nat,k≤N∧s= .int .i64 (k:Int)∧Below w.heap.size w wr) (fun s _=>N-(intOf s).toNat)
 case atStart=>exact⟨0,Nat.zero_le _,rfl,Below.refl _ _⟩
 case round=>
  obtain⟨k,hk,rfl,hw⟩:=hrel
  by_cases hlt:k<N
  · have hkN:(k:Int)<(N:Int):=by omega
    obtain⟨b1,o1,e1,_,hc1⟩:=(h.below hw) (by omega)
    obtain⟨b2,o2,e2,_,hc2⟩:=(h'.below hw) (by omega)
    have r0:wr.cell? ⟨b1,o1+k*12,none⟩=some (.int .i64 (R (k*12))):=by have q:=hc1 (k*12+0) (by omega);rw[←Nat.add_assoc] at q;exact q
    have s0:wr.cell? ⟨b2,o2+k*12,none⟩=some (.int .i64 (R (k*12))):=by have q:=hc2 (k*12+0) (by omega);rw[←Nat.add_assoc] at q;exact q
    have r1:wr.cell? ⟨b1,o1+k*12+1,none⟩=some (.int .i64 (R (k*12+1))):=by have q:=hc1 (k*12+1) (by omega);rw[←Nat.add_assoc] at q;exact q
    have s1:wr.cell? ⟨b2,o2+k*12+1,none⟩=some (.int .i64 (R (k*12+1))):=by have q:=hc2 (k*12+1) (by omega);rw[←Nat.add_assoc] at q;exact q
    have r2:wr.cell? ⟨b1,o1+k*12+2,none⟩=some (.int .i64 (R (k*12+2))):=by have q:=hc1 (k*12+2) (by omega);rw[←Nat.add_assoc] at q;exact q
    have s2:wr.cell? ⟨b2,o2+k*12+2,none⟩=some (.int .i64 (R (k*12+2))):=by have q:=hc2 (k*12+2) (by omega);rw[←Nat.add_assoc] at q;exact q
    have r3:wr.cell? ⟨b1,o1+k*12+3,none⟩=some (.int .i64 (R (k*12+3))):=by have q:=hc1 (k*12+3) (by omega);rw[←Nat.add_assoc] at q;exact q
    have s3:wr.cell? ⟨b2,o2+k*12+3,none⟩=some (.int .i64 (R (k*12+3))):=by have q:=hc2 (k*12+3) (by omega);rw[←Nat.add_assoc] at q;exact q
    have r4:wr.cell? ⟨b1,o1+k*12+4,none⟩=some (.int .i64 (R (k*12+4))):=by have q:=hc1 (k*12+4) (by omega);rw[←Nat.add_assoc] at q;exact q
    have s4:wr.cell? ⟨b2,o2+k*12+4,none⟩=some (.int .i64 (R (k*12+4))):=by have q:=hc2 (k*12+4) (by omega);rw[←Nat.add_assoc] at q;exact q
    have r5:wr.cell? ⟨b1,o1+k*12+5,none⟩=some (.int .i64 (R (k*12+5))):=by have q:=hc1 (k*12+5) (by omega);rw[←Nat.add_assoc] at q;exact q
    have s5:wr.cell? ⟨b2,o2+k*12+5,none⟩=some (.int .i64 (R (k*12+5))):=by have q:=hc2 (k*12+5) (by omega);rw[←Nat.add_assoc] at q;exact q
    have r6:wr.cell? ⟨b1,o1+k*12+6,none⟩=some (.int .i64 (R (k*12+6))):=by have q:=hc1 (k*12+6) (by omega);rw[←Nat.add_assoc] at q;exact q
    have s6:wr.cell? ⟨b2,o2+k*12+6,none⟩=some (.int .i64 (R (k*12+6))):=by have q:=hc2 (k*12+6) (by omega);rw[←Nat.add_assoc] at q;exact q
    have r7:wr.cell? ⟨b1,o1+k*12+7,none⟩=some (.int .i64 (R (k*12+7))):=by have q:=hc1 (k*12+7) (by omega);rw[←Nat.add_assoc] at q;exact q
    have s7:wr.cell? ⟨b2,o2+k*12+7,none⟩=some (.int .i64 (R (k*12+7))):=by have q:=hc2 (k*12+7) (by omega);rw[←Nat.add_assoc] at q;exact q
    have r8:wr.cell? ⟨b1,o1+k*12+8,none⟩=some (.int .i64 (R (k*12+8))):=by have q:=hc1 (k*12+8) (by omega);rw[←Nat.add_assoc] at q;exact q
    have s8:wr.cell? ⟨b2,o2+k*12+8,none⟩=some (.int .i64 (R (k*12+8))):=by have q:=hc2 (k*12+8) (by omega);rw[←Nat.add_assoc] at q;exact q
    have r9:wr.cell? ⟨b1,o1+k*12+9,none⟩=some (.int .i64 (R (k*12+9))):=by have q:=hc1 (k*12+9) (by omega);rw[←Nat.add_assoc] at q;exact q
    have s9:wr.cell? ⟨b2,o2+k*12+9,none⟩=some (.int .i64 (R (k*12+9))):=by have q:=hc2 (k*12+9) (by omega);rw[←Nat.add_assoc] at q;exact q
    have r10:wr.cell? ⟨b1,o1+k*12+10,none⟩=some (.int .i64 (R (k*12+10))):=by have q:=hc1 (k*12+10) (by omega);rw[←Nat.add_assoc] at q;exact q
    have s10:wr.cell? ⟨b2,o2+k*12+10,none⟩=some (.int .i64 (R (k*12+10))):=by have q:=hc2 (k*12+10) (by omega);rw[←Nat.add_assoc] at q;exact q
    have r11:wr.cell? ⟨b1,o1+k*12+11,none⟩=some (.int .i64 (R (k*12+11))):=by have q:=hc1 (k*12+11) (by omega);rw[←Nat.add_assoc] at q;exact q
    have s11:wr.cell? ⟨b2,o2+k*12+11,none⟩=some (.int .i64 (R (k*12+11))):=by have q:=hc2 (k*12+11) (by omega);rw[←Nat.add_assoc] at q;exact q
    clear hc1 hc2
    subst e1 e2
    have hev:=eq_body0 (R (k*12)) (R (k*12+1)) (R (k*12+2)) (R (k*12+3)) (R (k*12+4)) (R (k*12+5)) (R (k*12+6)) (R (k*12+7)) (R (k*12+8)) (R (k*12+9)) (R (k*12+10)) (R (k*12+11))
    go_upto_region 6 with fail
    refine wp_region_held_drew (S:=fun w'=>w'.cell? ⟨b1,o1+k*12,none⟩=some (.int .i64 (R (k*12)))∧w'.cell? ⟨b1,o1+k*12+1,none⟩=some (.int .i64 (R (k*12+1)))∧w'.cell? ⟨b1,o1+k*12+2,none⟩=some (.int .i64 (R (k*12+2)))∧w'.cell? ⟨b1,o1+k*12+3,none⟩=some (.int .i64 (R (k*12+3)))∧w'.cell? ⟨b1,o1+k*12+4,none⟩=some (.int .i64 (R (k*12+4)))∧w'.cell? ⟨b1,o1+k*12+5,none⟩=some (.int .i64 (R (k*12+5)))∧w'.cell? ⟨b1,o1+k*12+6,none⟩=some (.int .i64 (R (k*12+6)))∧w'.cell? ⟨b1,o1+k*12+7,none⟩=some (.int .i64 (R (k*12+7)))∧w'.cell? ⟨b1,o1+k*12+8,none⟩=some (.int .i64 (R (k*12+8)))∧w'.cell? ⟨b1,o1+k*12+9,none⟩=some (.int .i64 (R (k*12+9)))∧w'.cell? ⟨b1,o1+k*12+10,none⟩=some (.int .i64 (R (k*12+10)))∧w'.cell? ⟨b1,o1+k*12+11,none⟩=some (.int .i64 (R (k*12+11)))∧w'.cell? ⟨b2,o2+k*12,none⟩=some (.int .i64 (R (k*12)))∧w'.cell? ⟨b2,o2+k*12+1,none⟩=some (.int .i64 (R (k*12+1)))∧w'.cell? ⟨b2,o2+k*12+2,none⟩=some (.int .i64 (R (k*12+2)))∧w'.cell? ⟨b2,o2+k*12+3,none⟩=some (.int .i64 (R (k*12+3)))∧w'.cell? ⟨b2,o2+k*12+4,none⟩=some (.int .i64 (R (k*12+4)))∧w'.cell? ⟨b2,o2+k*12+5,none⟩=some (.int .i64 (R (k*12+5)))∧w'.cell? ⟨b2,o2+k*12+6,none⟩=some (.int .i64 (R (k*12+6)))∧w'.cell? ⟨b2,o2+k*12+7,none⟩=some (.int .i64 (R (k*12+7)))∧w'.cell? ⟨b2,o2+k*12+8,none⟩=some (.int .i64 (R (k*12+8)))∧w'.cell? ⟨b2,o2+k*12+9,none⟩=some (.int .i64 (R (k*12+9)))∧w'.cell? ⟨b2,o2+k*12+10,none⟩=some (.int .i64 (R (k*12+10)))∧w'.cell? ⟨b2,o2+k*12+11,none⟩=some (.int .i64 (R (k*12+11)))) (by kernel_rfl) ?_ (fun hHeld=> ?_)
    · (try dsimp only)
      (first|(go_simp;done)|(go_keep;done))
    refine tq 0 hHeld ?_
    refine tq 1 hHeld ?_
    refine tq 2 hHeld ?_
    refine tq 3 hHeld ?_
    refine tq 4 hHeld ?_
    refine tq 5 hHeld ?_
    refine tq 6 hHeld ?_
    refine tq 7 hHeld ?_
    refine tq 8 hHeld ?_
    refine wpAnyH_done (by kernel_rfl) ?_ _
    go_wp2_with fail
    go_roundw
    case rel=>exact⟨k+1,by omega,by go_num,hw.drew⟩
    case measure=>simp[intOf];omega
  · obtain rfl:k=N:=by omega
    go_wp2_with fail
    go_ret
    exact⟨rfl,hw⟩
end Go.Proofs.YthajilkjfkppoaaGreatDoor
