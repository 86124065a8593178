/- Texts of a proof. -/
import Derived.Test.YtbdbbdjifgpgeaaGreatB20
import Derived.Test.YtbdbbdjifgpgeaaGreatB15
import Derived.Deep.RegionHeld3
import Derived.Deep.DeepCutAuto
set_option maxHeartbeats 16000000
set_option maxRecDepth 20000
namespace Go.Proofs.YtbdbbdjifgpgeaaGreat
open Go.RowKit
set_option linter.unusedVariables false
set_option linter.unusedSimpArgs false
def rowU (U:Nat→Int) (z:Int):Nat→Int:=fun j=>U (z.toNat*12+j)
def liveC (U C:Nat→Int) (k:Nat):Bool:=liveV (rowU U (C (k*5)))||liveV (rowU U (C (k*5+1)))
def liveL (U C:Nat→Int):Nat→List Int
 |0=>[]
 |k+1=>liveL U C k++(if liveC U C k=true then [C (k*5),C (k*5+1),C (k*5+2),C (k*5+3),C (k*5+4)] else [])
theorem liveL_yes {U C:Nat→Int} {k:Nat} (h:liveC U C k=true):liveL U C (k+1)=liveL U C k++[C (k*5),C (k*5+1),C (k*5+2),C (k*5+3),C (k*5+4)]:=by rw[liveL,if_pos h]
theorem liveL_no {U C:Nat→Int} {k:Nat} (h:liveC U C k=false):liveL U C (k+1)=liveL U C k:=by rw[liveL,if_neg (by rw[h];decide),List.append_nil]
theorem liveL_len (U C:Nat→Int):∀ k,(liveL U C k).length≤k*5
 |0=>by simp[liveL]
 | k+1=>by
   have:=liveL_len U C k
   cases h:liveC U C k with
   |true=>rw[liveL_yes h,List.length_append];simp;omega
   |false=>rw[liveL_no h];omega
abbrev zcCon:Value:= .agg #[.int .i64 0,.int .i64 0,.int .i64 0,.int .i64 0,.int .i64 0]
theorem infoCon:(Tryz.prog.info? 79).map (fun i=>(i.zero,i.size,i.bytes))=some (some zcCon,5,40):=by kernel_rfl
theorem flatC (w:World) (p q r s u:Int) (t:TypeId):Flat (w.alloc (Obj.cells #[.int .i64 p,.int .i64 q,.int .i64 r,.int .i64 s,.int .i64 u] t)) (some ⟨w.heap.size,0,none⟩) (1*5) (ofL [p,q,r,s,u]):=by
 intro _
 refine⟨w.heap.size,0,rfl,by simp,fun j hj=> ?_⟩
 rw[Nat.zero_add]
 rcases(show j=0∨j=1∨j=2∨j=3∨j=4 by omega) with rfl|rfl|rfl|rfl|rfl<;>(simp only[ofL];go_simp;(try rfl))
theorem l9Live_any (a:Option Addr) (n c:Nat) (U:Nat→Int) (ac:Option Addr) (m cc:Nat) (C:Nat→Int) (w:World) (h:Flat w a (n*12) U) (hn:n≤1048576) (hm:m≤1048576) (h2:Flat w ac (m*5) C) (hC:∀ k,k<m→(0≤C (k*5)∧C (k*5)<(n:Int))∧(0≤C (k*5+1)∧C (k*5+1)<(n:Int))):
 Calls Tryz.prog 76 #[.slice a n c,.slice ac m cc] w fun e w'=>∃ a1 m1 c1,e= .returned (.slice a1 m1 c1)∧(liveL U C m).length=m1*5∧OutL w w' 79 5 a1 m1 c1 (ofL (liveL U C m)):=by
 have hset:=cset_map
 go_enter Tryz.func76,Tryz.ntmps76
 go_wp2_with fail
 go_loopw [5,6,7,8] (fun s5 s6 _ _ wr=>∃ (k:Nat) (a1:Option Addr) (m1 c1:Nat),k≤m∧s6= .int .i64 (k:Int)∧s5= .slice a1 m1 c1∧LsV w wr 79 5 a1 m1 c1 (liveL U C k)) (fun _ s6 _ _ _=>m-(intOf s6).toNat)
 case atStart=>exact⟨0,_,_,_,Nat.zero_le _,rfl,rfl,LsV.new w _ _⟩
 case round=>
  obtain⟨k,a1,m1,c1,hk,rfl,rfl,hL⟩:=hrel
  by_cases hlt:k<m
  · have hkm:(k:Int)<(m:Int):=by omega
    obtain⟨⟨cA0,cA1⟩,⟨cB0,cB1⟩⟩:=hC k hlt
    obtain⟨b2,o2,e2,hbl2,hc2⟩:=(h2.below hL.bel) (by omega)
    have r0:=hc2 (k*5) (by omega)
    have r1:=hc2 (k*5+1) (by omega)
    have r2:=hc2 (k*5+2) (by omega)
    have r3:=hc2 (k*5+3) (by omega)
    have r4:=hc2 (k*5+4) (by omega)
    simp only[←Nat.add_assoc] at r0 r1 r2 r3 r4
    clear hc2
    subst e2
    obtain⟨LV,hLVe⟩:∃ b,liveC U C k=b:=⟨_,rfl⟩
    have hLV:Shut (liveC U C k=LV):=hLVe
    clear hLVe
    obtain⟨zA,hzAe⟩:∃ z,C (k*5)=z:=⟨_,rfl⟩
    obtain⟨zB,hzBe⟩:∃ z,C (k*5+1)=z:=⟨_,rfl⟩
    rw[hzAe] at r0 cA0 cA1
    rw[hzBe] at r1 cB0 cB1
    have hzA:Shut (C (k*5)=zA):=hzAe
    have hzB:Shut (C (k*5+1)=zB):=hzBe
    clear hzAe hzBe
    obtain⟨b,o,e1,hbl,hc⟩:=(h.below hL.bel) (by omega)
    have p0:=hc (zA.toNat*12) (by omega)
    have p1:=hc (zA.toNat*12+1) (by omega)
    have p2:=hc (zA.toNat*12+2) (by omega)
    have p3:=hc (zA.toNat*12+3) (by omega)
    have p4:=hc (zA.toNat*12+4) (by omega)
    have p5:=hc (zA.toNat*12+5) (by omega)
    have p6:=hc (zA.toNat*12+6) (by omega)
    have p7:=hc (zA.toNat*12+7) (by omega)
    have p8:=hc (zA.toNat*12+8) (by omega)
    have p9:=hc (zA.toNat*12+9) (by omega)
    have p10:=hc (zA.toNat*12+10) (by omega)
    have p11:=hc (zA.toNat*12+11) (by omega)
    have q0:=hc (zB.toNat*12) (by omega)
    have q1:=hc (zB.toNat*12+1) (by omega)
    have q2:=hc (zB.toNat*12+2) (by omega)
    have q3:=hc (zB.toNat*12+3) (by omega)
    have q4:=hc (zB.toNat*12+4) (by omega)
    have q5:=hc (zB.toNat*12+5) (by omega)
    have q6:=hc (zB.toNat*12+6) (by omega)
    have q7:=hc (zB.toNat*12+7) (by omega)
    have q8:=hc (zB.toNat*12+8) (by omega)
    have q9:=hc (zB.toNat*12+9) (by omega)
    have q10:=hc (zB.toNat*12+10) (by omega)
    have q11:=hc (zB.toNat*12+11) (by omega)
    simp only[←Nat.add_assoc] at p0 q0 p1 q1 p2 q2 p3 q3 p4 q4 p5 q5 p6 q6 p7 q7 p8 q8 p9 q9 p10 q10 p11 q11
    clear hc
    subst e1
    go_upto_region 7 with fail
    obtain⟨wa,hwa⟩:∃ x,(wr.alloc (Obj.cells #[.int .i64 (U (zA.toNat*12)),.int .i64 (U (zA.toNat*12+1)),.int .i64 (U (zA.toNat*12+2)),.int .i64 (U (zA.toNat*12+3)),.int .i64 (U (zA.toNat*12+4)),.int .i64 (U (zA.toNat*12+5)),.int .i64 (U (zA.toNat*12+6)),.int .i64 (U (zA.toNat*12+7)),.int .i64 (U (zA.toNat*12+8)),.int .i64 (U (zA.toNat*12+9)),.int .i64 (U (zA.toNat*12+10)),.int .i64 (U (zA.toNat*12+11))] 36))=x:=⟨_,rfl⟩
    obtain⟨wx,hwx⟩:∃ x,wa.alloc (Obj.cells #[.int .i64 (U (zB.toNat*12)),.int .i64 (U (zB.toNat*12+1)),.int .i64 (U (zB.toNat*12+2)),.int .i64 (U (zB.toNat*12+3)),.int .i64 (U (zB.toNat*12+4)),.int .i64 (U (zB.toNat*12+5)),.int .i64 (U (zB.toNat*12+6)),.int .i64 (U (zB.toNat*12+7)),.int .i64 (U (zB.toNat*12+8)),.int .i64 (U (zB.toNat*12+9)),.int .i64 (U (zB.toNat*12+10)),.int .i64 (U (zB.toNat*12+11))] 36)=x:=⟨_,rfl⟩
    have hE1:Below wr.heap.size wr wa:=by rw[←hwa];exact(Below.refl _ _).alloc (Nat.le_refl _) _
    have hE2:Below wa.heap.size wa wx:=by rw[←hwx];exact(Below.refl _ _).alloc (Nat.le_refl _) _
    have hL2:=(hL.below hE1).below hE2
    have x0A:wx.cell? ⟨wr.heap.size,0,none⟩=some (.int .i64 (U (zA.toNat*12))):=by subst hwx hwa;go_simp
    have x1A:wx.cell? ⟨wr.heap.size,1,none⟩=some (.int .i64 (U (zA.toNat*12+1))):=by subst hwx hwa;go_simp
    have x2A:wx.cell? ⟨wr.heap.size,2,none⟩=some (.int .i64 (U (zA.toNat*12+2))):=by subst hwx hwa;go_simp
    have x3A:wx.cell? ⟨wr.heap.size,3,none⟩=some (.int .i64 (U (zA.toNat*12+3))):=by subst hwx hwa;go_simp
    have x4A:wx.cell? ⟨wr.heap.size,4,none⟩=some (.int .i64 (U (zA.toNat*12+4))):=by subst hwx hwa;go_simp
    have x5A:wx.cell? ⟨wr.heap.size,5,none⟩=some (.int .i64 (U (zA.toNat*12+5))):=by subst hwx hwa;go_simp
    have x6A:wx.cell? ⟨wr.heap.size,6,none⟩=some (.int .i64 (U (zA.toNat*12+6))):=by subst hwx hwa;go_simp
    have x7A:wx.cell? ⟨wr.heap.size,7,none⟩=some (.int .i64 (U (zA.toNat*12+7))):=by subst hwx hwa;go_simp
    have x8A:wx.cell? ⟨wr.heap.size,8,none⟩=some (.int .i64 (U (zA.toNat*12+8))):=by subst hwx hwa;go_simp
    have x9A:wx.cell? ⟨wr.heap.size,9,none⟩=some (.int .i64 (U (zA.toNat*12+9))):=by subst hwx hwa;go_simp
    have x10A:wx.cell? ⟨wr.heap.size,10,none⟩=some (.int .i64 (U (zA.toNat*12+10))):=by subst hwx hwa;go_simp
    have x11A:wx.cell? ⟨wr.heap.size,11,none⟩=some (.int .i64 (U (zA.toNat*12+11))):=by subst hwx hwa;go_simp
    have x0B:wx.cell? ⟨wr.heap.size+1,0,none⟩=some (.int .i64 (U (zB.toNat*12))):=by subst hwx hwa;go_simp
    have x1B:wx.cell? ⟨wr.heap.size+1,1,none⟩=some (.int .i64 (U (zB.toNat*12+1))):=by subst hwx hwa;go_simp
    have x2B:wx.cell? ⟨wr.heap.size+1,2,none⟩=some (.int .i64 (U (zB.toNat*12+2))):=by subst hwx hwa;go_simp
    have x3B:wx.cell? ⟨wr.heap.size+1,3,none⟩=some (.int .i64 (U (zB.toNat*12+3))):=by subst hwx hwa;go_simp
    have x4B:wx.cell? ⟨wr.heap.size+1,4,none⟩=some (.int .i64 (U (zB.toNat*12+4))):=by subst hwx hwa;go_simp
    have x5B:wx.cell? ⟨wr.heap.size+1,5,none⟩=some (.int .i64 (U (zB.toNat*12+5))):=by subst hwx hwa;go_simp
    have x6B:wx.cell? ⟨wr.heap.size+1,6,none⟩=some (.int .i64 (U (zB.toNat*12+6))):=by subst hwx hwa;go_simp
    have x7B:wx.cell? ⟨wr.heap.size+1,7,none⟩=some (.int .i64 (U (zB.toNat*12+7))):=by subst hwx hwa;go_simp
    have x8B:wx.cell? ⟨wr.heap.size+1,8,none⟩=some (.int .i64 (U (zB.toNat*12+8))):=by subst hwx hwa;go_simp
    have x9B:wx.cell? ⟨wr.heap.size+1,9,none⟩=some (.int .i64 (U (zB.toNat*12+9))):=by subst hwx hwa;go_simp
    have x10B:wx.cell? ⟨wr.heap.size+1,10,none⟩=some (.int .i64 (U (zB.toNat*12+10))):=by subst hwx hwa;go_simp
    have x11B:wx.cell? ⟨wr.heap.size+1,11,none⟩=some (.int .i64 (U (zB.toNat*12+11))):=by subst hwx hwa;go_simp
    have hla:wr.heap.size<wx.heap.size:=by subst hwx hwa;simp;omega
    have hlb:wr.heap.size+1<wx.heap.size:=by subst hwx hwa;simp
    have hrk:∀ j,j<5→wx.cell? ⟨b2,o2+(k*5+j),none⟩=wr.cell? ⟨b2,o2+(k*5+j),none⟩:=fun j hj=>by subst hwx hwa;go_simp
    rw[hwa,hwx]
    clear hwx hwa
    generalize wr.heap.size+1=bb at hlb x0B x1B x2B x3B x4B x5B x6B x7B x8B x9B x10B x11B ⊢
    clear hL p0 q0 p1 q1 p2 q2 p3 q3 p4 q4 p5 q5 p6 q6 p7 q7 p8 q8 p9 q9 p10 q10 p11 q11 r0 r1 r2 r3 r4 hrk hE2
    generalize wr.heap.size=ba at hla hE1 x0A x1A x2A x3A x4A x5A x6A x7A x8A x9A x10A x11A ⊢
    clear hE1
    obtain⟨SA,hSA⟩:∃ b,decide (8≤(rowU U zA) 11)=b:=⟨_,rfl⟩
    obtain⟨SB,hSB⟩:∃ b,decide (8≤(rowU U zB) 11)=b:=⟨_,rfl⟩
    go_cut [49] (fun s wc=>s= .bool LV∧LsV w wc 79 5 a1 m1 c1 (liveL U C k))
    case first=>
     by_cases hmA:0<U (zA.toNat*12+8)
     · cases SA with
       | false=>
         have LA:Shut (liveV (rowU U zA)=true):=live_t (V:=rowU U zA) hmA hSA
         go_wp2_with (go_at_call 93;refine(l6Sleeps_k (rowU U zA) _ false hSA).mono ?_;rintro e w7 ⟨rfl,hb7⟩)
         go_meet
         exact⟨by rw[←hLV.out];unfold liveC;rw[hzA.out,hzB.out,LA.out];rfl,(hL2.below hb7)⟩
       | true=>
         have LA:Shut (liveV (rowU U zA)=false):=live_s hSA
         by_cases hmB:0<U (zB.toNat*12+8)
         · cases SB with
           | true=>
             have LB:Shut (liveV (rowU U zB)=false):=live_s hSB
             go_wp2_with (first
              |(have _:=hb7;go_at_call 93;refine(l6Sleeps_k (rowU U zB) _ true hSB).mono ?_;rintro e w8 ⟨rfl,hb8⟩)
              |(go_at_call 93;refine(l6Sleeps_k (rowU U zA) _ true hSA).mono ?_;rintro e w7 ⟨rfl,hb7⟩;obtain⟨hc7,hf7⟩:=bcell hb7;have y0:=(hc7 bb 0 hlb).trans x0B;have y1:=(hc7 bb 1 hlb).trans x1B;have y2:=(hc7 bb 2 hlb).trans x2B;have y3:=(hc7 bb 3 hlb).trans x3B;have y4:=(hc7 bb 4 hlb).trans x4B;have y5:=(hc7 bb 5 hlb).trans x5B;have y6:=(hc7 bb 6 hlb).trans x6B;have y7:=(hc7 bb 7 hlb).trans x7B;have y8:=(hc7 bb 8 hlb).trans x8B;have y9:=(hc7 bb 9 hlb).trans x9B;have y10:=(hc7 bb 10 hlb).trans x10B;have y11:=(hc7 bb 11 hlb).trans x11B;clear hc7 hf7))
             go_meet
             exact⟨by rw[←hLV.out];unfold liveC;rw[hzA.out,hzB.out,LA.out,LB.out];rfl,((hL2.below hb7).below hb8)⟩
           | false=>
             have LB:Shut (liveV (rowU U zB)=true):=live_t (V:=rowU U zB) hmB hSB
             go_wp2_with (first
              |(have _:=hb7;go_at_call 93;refine(l6Sleeps_k (rowU U zB) _ false hSB).mono ?_;rintro e w8 ⟨rfl,hb8⟩)
              |(go_at_call 93;refine(l6Sleeps_k (rowU U zA) _ true hSA).mono ?_;rintro e w7 ⟨rfl,hb7⟩;obtain⟨hc7,hf7⟩:=bcell hb7;have y0:=(hc7 bb 0 hlb).trans x0B;have y1:=(hc7 bb 1 hlb).trans x1B;have y2:=(hc7 bb 2 hlb).trans x2B;have y3:=(hc7 bb 3 hlb).trans x3B;have y4:=(hc7 bb 4 hlb).trans x4B;have y5:=(hc7 bb 5 hlb).trans x5B;have y6:=(hc7 bb 6 hlb).trans x6B;have y7:=(hc7 bb 7 hlb).trans x7B;have y8:=(hc7 bb 8 hlb).trans x8B;have y9:=(hc7 bb 9 hlb).trans x9B;have y10:=(hc7 bb 10 hlb).trans x10B;have y11:=(hc7 bb 11 hlb).trans x11B;clear hc7 hf7))
             go_meet
             exact⟨by rw[←hLV.out];unfold liveC;rw[hzA.out,hzB.out,LA.out,LB.out];rfl,((hL2.below hb7).below hb8)⟩
         · have LB:Shut (liveV (rowU U zB)=false):=live_m (V:=rowU U zB) hmB
           go_wp2_with (go_at_call 93;refine(l6Sleeps_k (rowU U zA) _ true hSA).mono ?_;rintro e w7 ⟨rfl,hb7⟩;obtain⟨hc7,hf7⟩:=bcell hb7;have y0:=(hc7 bb 0 hlb).trans x0B;have y1:=(hc7 bb 1 hlb).trans x1B;have y2:=(hc7 bb 2 hlb).trans x2B;have y3:=(hc7 bb 3 hlb).trans x3B;have y4:=(hc7 bb 4 hlb).trans x4B;have y5:=(hc7 bb 5 hlb).trans x5B;have y6:=(hc7 bb 6 hlb).trans x6B;have y7:=(hc7 bb 7 hlb).trans x7B;have y8:=(hc7 bb 8 hlb).trans x8B;have y9:=(hc7 bb 9 hlb).trans x9B;have y10:=(hc7 bb 10 hlb).trans x10B;have y11:=(hc7 bb 11 hlb).trans x11B;clear hc7 hf7)
           go_meet
           exact⟨by rw[←hLV.out];unfold liveC;rw[hzA.out,hzB.out,LA.out,LB.out];rfl,(hL2.below hb7)⟩
     · have LA:Shut (liveV (rowU U zA)=false):=live_m (V:=rowU U zA) hmA
       by_cases hmB:0<U (zB.toNat*12+8)
       · cases SB with
         | true=>
           have LB:Shut (liveV (rowU U zB)=false):=live_s hSB
           go_wp2_with (go_at_call 93;refine(l6Sleeps_k (rowU U zB) _ true hSB).mono ?_;rintro e w8 ⟨rfl,hb8⟩)
           go_meet
           exact⟨by rw[←hLV.out];unfold liveC;rw[hzA.out,hzB.out,LA.out,LB.out];rfl,(hL2.below hb8)⟩
         | false=>
           have LB:Shut (liveV (rowU U zB)=true):=live_t (V:=rowU U zB) hmB hSB
           go_wp2_with (go_at_call 93;refine(l6Sleeps_k (rowU U zB) _ false hSB).mono ?_;rintro e w8 ⟨rfl,hb8⟩)
           go_meet
           exact⟨by rw[←hLV.out];unfold liveC;rw[hzA.out,hzB.out,LA.out,LB.out];rfl,(hL2.below hb8)⟩
       · have LB:Shut (liveV (rowU U zB)=false):=live_m (V:=rowU U zB) hmB
         go_wp2_with fail
         go_meet
         exact⟨by rw[←hLV.out];unfold liveC;rw[hzA.out,hzB.out,LA.out,LB.out];rfl,hL2⟩
    case rest=>
    clear hL2 hla hlb hSA hSB x0A x0B x1A x1B x2A x2B x3A x3B x4A x4B x5A x5B x6A x6B x7A x7B x8A x8B x9A x9B x10A x10B x11A x11B
    obtain⟨rfl,hL⟩:=hcut
    cases LV with
    | false=>
      have HNO:Shut (liveL U C (k+1)=liveL U C k):=liveL_no hLV.out
      go_wp2_with fail
      go_roundw
      case rel=>exact⟨k+1,_,_,_,by omega,by go_num,rfl,by rw[HNO.out];exact hL⟩
      case measure=>simp[intOf];omega
    | true=>
      have HYE:Shut (liveL U C (k+1)=liveL U C k++[zA,zB,C (k*5+2),C (k*5+3),C (k*5+4)]):=by show _=_;rw[liveL_yes hLV.out,hzA.out,hzB.out]
      obtain⟨b2',o2',e2,hbl2',hc2⟩:=(h2.below hL.bel) (by omega)
      simp only[Option.some.injEq,Addr.mk.injEq,and_true] at e2
      obtain⟨rfl,rfl⟩:=e2
      have r0:=hc2 (k*5) (by omega)
      have r1:=hc2 (k*5+1) (by omega)
      have r2:=hc2 (k*5+2) (by omega)
      have r3:=hc2 (k*5+3) (by omega)
      have r4:=hc2 (k*5+4) (by omega)
      simp only[←Nat.add_assoc] at r0 r1 r2 r3 r4
      rw[hzA.out] at r0
      rw[hzB.out] at r1
      clear hc2
      have hle:=liveL_len U C k
      have hlen:=hL.len
      have hwz:=hL.bel.size
      go_wp2_with (refine wpList_app rfl _ _ _ rfl w.heap.size 79 5 40 zcCon Tryz.underlying52 infoCon rfl (by decide) (.slice a1 m1 c1) m1 (ofL (liveL U C k)) rfl (hL.below ((Below.refl _ _).alloc (Nat.le_refl _) _)).own _ 1 _ (ofL [zA,zB,C (k*5+2),C (k*5+3),C (k*5+4)]) rfl (flatC _ _ _ _ _ _ _) (by unfold maxLen;omega) (by omega) (by simp only[World.size_alloc];omega) ?_;intro a3 c3 w3 ho3 hg3)
      have hP:=(hL.below ((Below.refl _ _).alloc (Nat.le_refl _) _)).push (x:=[zA,zB,C (k*5+2),C (k*5+3),C (k*5+4)]) rfl hg3 ho3
      go_roundw
      case rel=>exact⟨k+1,_,_,_,by omega,by go_num,rfl,by rw[HYE.out];exact hP⟩
      case measure=>simp[intOf];omega
  · obtain rfl:k=m:=by omega
    go_wp2_with fail
    go_ret
    exact⟨_,_,_,rfl,hL.len,hL.out (Below.refl _ _)⟩
end Go.Proofs.YtbdbbdjifgpgeaaGreat
