/- Texts of a proof. -/
import Derived.Test.YtcalhcfinkhemaaGreatDoorB12
import Derived.Test.YtcalhcfinkhemaaGreatDoorB22
import Derived.Deep.RegionHeld3
import Derived.Deep.DeepCutAuto
import Derived.Test.YtcalhcfinkhemaaGreatDoorDrawBk
import Derived.Test.YtcalhcfinkhemaaGreatDoorB20
import Derived.Test.YtcalhcfinkhemaaGreatDoorB32
set_option maxHeartbeats 16000000
set_option maxRecDepth 20000
namespace Go.Proofs.YtcalhcfinkhemaaGreatDoor
open Go.RowKit
set_option linter.unusedVariables false
set_option linter.unusedSimpArgs false
def rowU (U:Nat→Int) (z:Int):Nat→Int:=fun j=>U (z.toNat*12+j)
def liveC (U C:Nat→Int) (k:Nat):Bool:=liveV (rowU U (C (k*5)))||liveV (rowU U (C (k*5+1)))
def liveL (U C:Nat→Int):Nat→List Int
 |0=>[]
 |k+1=>liveL U C k++(if liveC U C k=true then [C (k*5),C (k*5+1),C (k*5+2),C (k*5+3),C (k*5+4)] else [])
theorem liveL_yes {U C:Nat→Int} {k:Nat} (h:liveC U C k=true):liveL U C (k+1)=liveL U C k++[C (k*5),C (k*5+1),C (k*5+2),C (k*5+3),C (k*5+4)]:=by rw[liveL,if_pos h]
theorem liveL_no {U C:Nat→Int} {k:Nat} (h:liveC U C k=false):liveL U C (k+1)=liveL U C k:=by rw[liveL,if_neg (by rw[h];decide),List.append_nil]
theorem liveL_len (U C:Nat→Int):∀ k,(liveL U C k).length≤k*5
 |0=>by simp[liveL]
 | k+1=>by
   have:=liveL_len U C k
   cases h:liveC U C k with
   |true=>rw[liveL_yes h,List.length_append];simp;omega
   |false=>rw[liveL_no h];omega
abbrev zcCon:Value:= .agg #[.int .i64 0,.int .i64 0,.int .i64 0,.int .i64 0,.int .i64 0]
theorem infoCon:(Tryz.prog.info? 116).map (fun i=>(i.zero,i.size,i.bytes))=some (some zcCon,5,40):=by kernel_rfl
theorem flatC (w:World) (p q r s u:Int) (t:TypeId):Flat (w.alloc (Obj.cells #[.int .i64 p,.int .i64 q,.int .i64 r,.int .i64 s,.int .i64 u] t)) (some ⟨w.heap.size,0,none⟩) (1*5) (ofL [p,q,r,s,u]):=by
 intro _
 refine⟨w.heap.size,0,rfl,by simp,fun j hj=> ?_⟩
 rw[Nat.zero_add]
 rcases(show j=0∨j=1∨j=2∨j=3∨j=4 by omega) with rfl|rfl|rfl|rfl|rfl<;>(simp only[ofL];go_simp;(try rfl))
theorem l9Live_any (a:Option Addr) (n c:Nat) (U:Nat→Int) (ac:Option Addr) (m cc:Nat) (C:Nat→Int) (w:World) (h:Flat w a (n*12) U) (hn:n≤1048576) (hm:m≤1048576) (h2:Flat w ac (m*5) C) (hC:∀ k,k<m→(0≤C (k*5)∧C (k*5)<(n:Int))∧(0≤C (k*5+1)∧C (k*5+1)<(n:Int))):
 Calls Tryz.prog 48 #[.slice a n c,.slice ac m cc] w fun e w'=>∃ a1 m1 c1,e= .returned (.slice a1 m1 c1)∧(liveL U C m).length=m1*5∧OutL w w' 116 5 a1 m1 c1 (ofL (liveL U C m)):=by
 have hset:=cset_map
 go_enter Tryz.func48,Tryz.ntmps48
 go_wp2_with fail
 go_loopw [5,6,7,8] (fun s5 s6 _ _ wr=>∃ (k:Nat) (a1:Option Addr) (m1 c1:Nat),k≤m∧s6= .int .i64 (k:Int)∧s5= .slice a1 m1 c1∧LsV w wr 116 5 a1 m1 c1 (liveL U C k)) (fun _ s6 _ _ _=>m-(intOf s6).toNat)
 case atStart=>exact⟨0,_,_,_,Nat.zero_le _,rfl,rfl,LsV.new w _ _⟩
 case round=>
  obtain⟨k,a1,m1,c1,hk,rfl,rfl,hL⟩:=hrel
  by_cases hlt:k<m
  · have hkm:(k:Int)<(m:Int):=by omega
    obtain⟨⟨cA0,cA1⟩,⟨cB0,cB1⟩⟩:=hC k hlt
    obtain⟨b2,o2,e2,hbl2,hc2⟩:=(h2.below hL.bel) (by omega)
    have r0:=hc2 (k*5) (by omega)
    have r1:=hc2 (k*5+1) (by omega)
    have r2:=hc2 (k*5+2) (by omega)
    have r3:=hc2 (k*5+3) (by omega)
    have r4:=hc2 (k*5+4) (by omega)
    simp only[←Nat.add_assoc] at r0 r1 r2 r3 r4
    clear hc2
    subst e2
    obtain⟨LV,hLVe⟩:∃ b,liveC U C k=b:=⟨_,rfl⟩
    have hLV:Shut (liveC U C k=LV):=hLVe
    clear hLVe
    obtain⟨zA,hzAe⟩:∃ z,C (k*5)=z:=⟨_,rfl⟩
    obtain⟨zB,hzBe⟩:∃ z,C (k*5+1)=z:=⟨_,rfl⟩
    rw[hzAe] at r0 cA0 cA1
    rw[hzBe] at r1 cB0 cB1
    have hzA:Shut (C (k*5)=zA):=hzAe
    have hzB:Shut (C (k*5+1)=zB):=hzBe
    clear hzAe hzBe
    obtain⟨b,o,e1,hbl,hc⟩:=(h.below hL.bel) (by omega)
    have p0:=hc (zA.toNat*12) (by omega)
    have p1:=hc (zA.toNat*12+1) (by omega)
    have p2:=hc (zA.toNat*12+2) (by omega)
    have p3:=hc (zA.toNat*12+3) (by omega)
    have p4:=hc (zA.toNat*12+4) (by omega)
    have p5:=hc (zA.toNat*12+5) (by omega)
    have p6:=hc (zA.toNat*12+6) (by omega)
    have p7:=hc (zA.toNat*12+7) (by omega)
    have p8:=hc (zA.toNat*12+8) (by omega)
    have p9:=hc (zA.toNat*12+9) (by omega)
    have p10:=hc (zA.toNat*12+10) (by omega)
    have p11:=hc (zA.toNat*12+11) (by omega)
    have q0:=hc (zB.toNat*12) (by omega)
    have q1:=hc (zB.toNat*12+1) (by omega)
    have q2:=hc (zB.toNat*12+2) (by omega)
    have q3:=hc (zB.toNat*12+3) (by omega)
    have q4:=hc (zB.toNat*12+4) (by omega)
    have q5:=hc (zB.toNat*12+5) (by omega)
    have q6:=hc (zB.toNat*12+6) (by omega)
    have q7:=hc (zB.toNat*12+7) (by omega)
    have q8:=hc (zB.toNat*12+8) (by omega)
    have q9:=hc (zB.toNat*12+9) (by omega)
    have q10:=hc (zB.toNat*12+10) (by omega)
    have q11:=hc (zB.toNat*12+11) (by omega)
    simp only[←Nat.add_assoc] at p0 q0 p1 q1 p2 q2 p3 q3 p4 q4 p5 q5 p6 q6 p7 q7 p8 q8 p9 q9 p10 q10 p11 q11
    clear hc
    subst e1
    go_upto_region 7 with fail
    obtain⟨wa,hwa⟩:∃ x,(wr.alloc (Obj.cells #[.int .i64 (U (zA.toNat*12)),.int .i64 (U (zA.toNat*12+1)),.int .i64 (U (zA.toNat*12+2)),.int .i64 (U (zA.toNat*12+3)),.int .i64 (U (zA.toNat*12+4)),.int .i64 (U (zA.toNat*12+5)),.int .i64 (U (zA.toNat*12+6)),.int .i64 (U (zA.toNat*12+7)),.int .i64 (U (zA.toNat*12+8)),.int .i64 (U (zA.toNat*12+9)),.int .i64 (U (zA.toNat*12+10)),.int .i64 (U (zA.toNat*12+11))] 33))=x:=⟨_,rfl⟩
    obtain⟨wx,hwx⟩:∃ x,wa.alloc (Obj.cells #[.int .i64 (U (zB.toNat*12)),.int .i64 (U (zB.toNat*12+1)),.int .i64 (U (zB.toNat*12+2)),.int .i64 (U (zB.toNat*12+3)),.int .i64 (U (zB.toNat*12+4)),.int .i64 (U (zB.toNat*12+5)),.int .i64 (U (zB.toNat*12+6)),.int .i64 (U (zB.toNat*12+7)),.int .i64 (U (zB.toNat*12+8)),.int .i64 (U (zB.toNat*12+9)),.int .i64 (U (zB.toNat*12+10)),.int .i64 (U (zB.toNat*12+11))] 33)=x:=⟨_,rfl⟩
    have hE1:Below wr.heap.size wr wa:=by rw[←hwa];exact(Below.refl _ _).alloc (Nat.le_refl _) _
    have hE2:Below wa.heap.size wa wx:=by rw[←hwx];exact(Below.refl _ _).alloc (Nat.le_refl _) _
    have hL2:=(hL.below hE1).below hE2
    have x0A:wx.cell? ⟨wr.heap.size,0,none⟩=some (.int .i64 (U (zA.toNat*12))):=by subst hwx hwa;go_simp
    have x1A:wx.cell? ⟨wr.heap.size,1,none⟩=some (.int .i64 (U (zA.toNat*12+1))):=by subst hwx hwa;go_simp
    have x2A:wx.cell? ⟨wr.heap.size,2,none⟩=some (.int .i64 (U (zA.toNat*12+2))):=by subst hwx hwa;go_simp
    have x3A:wx.cell? ⟨wr.heap.size,3,none⟩=some (.int .i64 (U (zA.toNat*12+3))):=by subst hwx hwa;go_simp
    have x4A:wx.cell? ⟨wr.heap.size,4,none⟩=some (.int .i64 (U (zA.toNat*12+4))):=by subst hwx hwa;go_simp
    have x5A:wx.cell? ⟨wr.heap.size,5,none⟩=some (.int .i64 (U (zA.toNat*12+5))):=by subst hwx hwa;go_simp
    have x6A:wx.cell? ⟨wr.heap.size,6,none⟩=some (.int .i64 (U (zA.toNat*12+6))):=by subst hwx hwa;go_simp
    have x7A:wx.cell? ⟨wr.heap.size,7,none⟩=some (.int .i64 (U (zA.toNat*12+7))):=by subst hwx hwa;go_simp
    have x8A:wx.cell? ⟨wr.heap.size,8,none⟩=some (.int .i64 (U (zA.toNat*12+8))):=by subst hwx hwa;go_simp
    have x9A:wx.cell? ⟨wr.heap.size,9,none⟩=some (.int .i64 (U (zA.toNat*12+9))):=by subst hwx hwa;go_simp
    have x10A:wx.cell? ⟨wr.heap.size,10,none⟩=some (.int .i64 (U (zA.toNat*12+10))):=by subst hwx hwa;go_simp
    have x11A:wx.cell? ⟨wr.heap.size,11,none⟩=some (.int .i64 (U (zA.toNat*12+11))):=by subst hwx hwa;go_simp
    have x0B:wx.cell? ⟨wr.heap.size+1,0,none⟩=some (.int .i64 (U (zB.toNat*12))):=by subst hwx hwa;go_simp
    have x1B:wx.cell? ⟨wr.heap.size+1,1,none⟩=some (.int .i64 (U (zB.toNat*12+1))):=by subst hwx hwa;go_simp
    have x2B:wx.cell? ⟨wr.heap.size+1,2,none⟩=some (.int .i64 (U (zB.toNat*12+2))):=by subst hwx hwa;go_simp
    have x3B:wx.cell? ⟨wr.heap.size+1,3,none⟩=some (.int .i64 (U (zB.toNat*12+3))):=by subst hwx hwa;go_simp
    have x4B:wx.cell? ⟨wr.heap.size+1,4,none⟩=some (.int .i64 (U (zB.toNat*12+4))):=by subst hwx hwa;go_simp
    have x5B:wx.cell? ⟨wr.heap.size+1,5,none⟩=some (.int .i64 (U (zB.toNat*12+5))):=by subst hwx hwa;go_simp
    have x6B:wx.cell? ⟨wr.heap.size+1,6,none⟩=some (.int .i64 (U (zB.toNat*12+6))):=by subst hwx hwa;go_simp
    have x7B:wx.cell? ⟨wr.heap.size+1,7,none⟩=some (.int .i64 (U (zB.toNat*12+7))):=by subst hwx hwa;go_simp
    have x8B:wx.cell? ⟨wr.heap.size+1,8,none⟩=some (.int .i64 (U (zB.toNat*12+8))):=by subst hwx hwa;go_simp
    have x9B:wx.cell? ⟨wr.heap.size+1,9,none⟩=some (.int .i64 (U (zB.toNat*12+9))):=by subst hwx hwa;go_simp
    have x10B:wx.cell? ⟨wr.heap.size+1,10,none⟩=some (.int .i64 (U (zB.toNat*12+10))):=by subst hwx hwa;go_simp
    have x11B:wx.cell? ⟨wr.heap.size+1,11,none⟩=some (.int .i64 (U (zB.toNat*12+11))):=by subst hwx hwa;go_simp
    have hla:wr.heap.size<wx.heap.size:=by subst hwx hwa;simp;omega
    have hlb:wr.heap.size+1<wx.heap.size:=by subst hwx hwa;simp
    have hrk:∀ j,j<5→wx.cell? ⟨b2,o2+(k*5+j),none⟩=wr.cell? ⟨b2,o2+(k*5+j),none⟩:=fun j hj=>by subst hwx hwa;go_simp
    rw[hwa,hwx]
    clear hwx hwa
    generalize wr.heap.size+1=bb at hlb x0B x1B x2B x3B x4B x5B x6B x7B x8B x9B x10B x11B ⊢
    clear hL p0 q0 p1 q1 p2 q2 p3 q3 p4 q4 p5 q5 p6 q6 p7 q7 p8 q8 p9 q9 p10 q10 p11 q11 r0 r1 r2 r3 r4 hrk hE2
    generalize wr.heap.size=ba at hla hE1 x0A x1A x2A x3A x4A x5A x6A x7A x8A x9A x10A x11A ⊢
    clear hE1
    obtain⟨SA,hSA⟩:∃ b,decide (8≤(rowU U zA) 11)=b:=⟨_,rfl⟩
    obtain⟨SB,hSB⟩:∃ b,decide (8≤(rowU U zB) 11)=b:=⟨_,rfl⟩
    go_cut [49] (fun s wc=>s= .bool LV∧LsV w wc 116 5 a1 m1 c1 (liveL U C k))
    case first=>
     by_cases hmA:0<U (zA.toNat*12+8)
     · cases SA with
       | false=>
         have LA:Shut (liveV (rowU U zA)=true):=live_t (V:=rowU U zA) hmA hSA
         go_wp2_with (go_at_call 41;refine(l6Sleeps_k (rowU U zA) _ false hSA).mono ?_;rintro e w7 ⟨rfl,hb7⟩)
         go_meet
         exact⟨by rw[←hLV.out];unfold liveC;rw[hzA.out,hzB.out,LA.out];rfl,(hL2.below hb7)⟩
       | true=>
         have LA:Shut (liveV (rowU U zA)=false):=live_s hSA
         by_cases hmB:0<U (zB.toNat*12+8)
         · cases SB with
           | true=>
             have LB:Shut (liveV (rowU U zB)=false):=live_s hSB
             go_wp2_with (first
              |(have _:=hb7;go_at_call 41;refine(l6Sleeps_k (rowU U zB) _ true hSB).mono ?_;rintro e w8 ⟨rfl,hb8⟩)
              |(go_at_call 41;refine(l6Sleeps_k (rowU U zA) _ true hSA).mono ?_;rintro e w7 ⟨rfl,hb7⟩;obtain⟨hc7,hf7⟩:=bcell hb7;have y0:=(hc7 bb 0 hlb).trans x0B;have y1:=(hc7 bb 1 hlb).trans x1B;have y2:=(hc7 bb 2 hlb).trans x2B;have y3:=(hc7 bb 3 hlb).trans x3B;have y4:=(hc7 bb 4 hlb).trans x4B;have y5:=(hc7 bb 5 hlb).trans x5B;have y6:=(hc7 bb 6 hlb).trans x6B;have y7:=(hc7 bb 7 hlb).trans x7B;have y8:=(hc7 bb 8 hlb).trans x8B;have y9:=(hc7 bb 9 hlb).trans x9B;have y10:=(hc7 bb 10 hlb).trans x10B;have y11:=(hc7 bb 11 hlb).trans x11B;clear hc7 hf7))
             go_meet
             exact⟨by rw[←hLV.out];unfold liveC;rw[hzA.out,hzB.out,LA.out,LB.out];rfl,((hL2.below hb7).below hb8)⟩
           | false=>
             have LB:Shut (liveV (rowU U zB)=true):=live_t (V:=rowU U zB) hmB hSB
             go_wp2_with (first
              |(have _:=hb7;go_at_call 41;refine(l6Sleeps_k (rowU U zB) _ false hSB).mono ?_;rintro e w8 ⟨rfl,hb8⟩)
              |(go_at_call 41;refine(l6Sleeps_k (rowU U zA) _ true hSA).mono ?_;rintro e w7 ⟨rfl,hb7⟩;obtain⟨hc7,hf7⟩:=bcell hb7;have y0:=(hc7 bb 0 hlb).trans x0B;have y1:=(hc7 bb 1 hlb).trans x1B;have y2:=(hc7 bb 2 hlb).trans x2B;have y3:=(hc7 bb 3 hlb).trans x3B;have y4:=(hc7 bb 4 hlb).trans x4B;have y5:=(hc7 bb 5 hlb).trans x5B;have y6:=(hc7 bb 6 hlb).trans x6B;have y7:=(hc7 bb 7 hlb).trans x7B;have y8:=(hc7 bb 8 hlb).trans x8B;have y9:=(hc7 bb 9 hlb).trans x9B;have y10:=(hc7 bb 10 hlb).trans x10B;have y11:=(hc7 bb 11 hlb).trans x11B;clear hc7 hf7))
             go_meet
             exact⟨by rw[←hLV.out];unfold liveC;rw[hzA.out,hzB.out,LA.out,LB.out];rfl,((hL2.below hb7).below hb8)⟩
         · have LB:Shut (liveV (rowU U zB)=false):=live_m (V:=rowU U zB) hmB
           go_wp2_with (go_at_call 41;refine(l6Sleeps_k (rowU U zA) _ true hSA).mono ?_;rintro e w7 ⟨rfl,hb7⟩;obtain⟨hc7,hf7⟩:=bcell hb7;have y0:=(hc7 bb 0 hlb).trans x0B;have y1:=(hc7 bb 1 hlb).trans x1B;have y2:=(hc7 bb 2 hlb).trans x2B;have y3:=(hc7 bb 3 hlb).trans x3B;have y4:=(hc7 bb 4 hlb).trans x4B;have y5:=(hc7 bb 5 hlb).trans x5B;have y6:=(hc7 bb 6 hlb).trans x6B;have y7:=(hc7 bb 7 hlb).trans x7B;have y8:=(hc7 bb 8 hlb).trans x8B;have y9:=(hc7 bb 9 hlb).trans x9B;have y10:=(hc7 bb 10 hlb).trans x10B;have y11:=(hc7 bb 11 hlb).trans x11B;clear hc7 hf7)
           go_meet
           exact⟨by rw[←hLV.out];unfold liveC;rw[hzA.out,hzB.out,LA.out,LB.out];rfl,(hL2.below hb7)⟩
     · have LA:Shut (liveV (rowU U zA)=false):=live_m (V:=rowU U zA) hmA
       by_cases hmB:0<U (zB.toNat*12+8)
       · cases SB with
         | true=>
           have LB:Shut (liveV (rowU U zB)=false):=live_s hSB
           go_wp2_with (go_at_call 41;refine(l6Sleeps_k (rowU U zB) _ true hSB).mono ?_;rintro e w8 ⟨rfl,hb8⟩)
           go_meet
           exact⟨by rw[←hLV.out];unfold liveC;rw[hzA.out,hzB.out,LA.out,LB.out];rfl,(hL2.below hb8)⟩
         | false=>
           have LB:Shut (liveV (rowU U zB)=true):=live_t (V:=rowU U zB) hmB hSB
           go_wp2_with (go_at_call 41;refine(l6Sleeps_k (rowU U zB) _ false hSB).mono ?_;rintro e w8 ⟨rfl,hb8⟩)
           go_meet
           exact⟨by rw[←hLV.out];unfold liveC;rw[hzA.out,hzB.out,LA.out,LB.out];rfl,(hL2.below hb8)⟩
       · have LB:Shut (liveV (rowU U zB)=false):=live_m (V:=rowU U zB) hmB
         go_wp2_with fail
         go_meet
         exact⟨by rw[←hLV.out];unfold liveC;rw[hzA.out,hzB.out,LA.out,LB.out];rfl,hL2⟩
    case rest=>
    clear hL2 hla hlb hSA hSB x0A x0B x1A x1B x2A x2B x3A x3B x4A x4B x5A x5B x6A x6B x7A x7B x8A x8B x9A x9B x10A x10B x11A x11B
    obtain⟨rfl,hL⟩:=hcut
    cases LV with
    | false=>
      have HNO:Shut (liveL U C (k+1)=liveL U C k):=liveL_no hLV.out
      go_wp2_with fail
      go_roundw
      case rel=>exact⟨k+1,_,_,_,by omega,by go_num,rfl,by rw[HNO.out];exact hL⟩
      case measure=>simp[intOf];omega
    | true=>
      have HYE:Shut (liveL U C (k+1)=liveL U C k++[zA,zB,C (k*5+2),C (k*5+3),C (k*5+4)]):=by show _=_;rw[liveL_yes hLV.out,hzA.out,hzB.out]
      obtain⟨b2',o2',e2,hbl2',hc2⟩:=(h2.below hL.bel) (by omega)
      simp only[Option.some.injEq,Addr.mk.injEq,and_true] at e2
      obtain⟨rfl,rfl⟩:=e2
      have r0:=hc2 (k*5) (by omega)
      have r1:=hc2 (k*5+1) (by omega)
      have r2:=hc2 (k*5+2) (by omega)
      have r3:=hc2 (k*5+3) (by omega)
      have r4:=hc2 (k*5+4) (by omega)
      simp only[←Nat.add_assoc] at r0 r1 r2 r3 r4
      rw[hzA.out] at r0
      rw[hzB.out] at r1
      clear hc2
      have hle:=liveL_len U C k
      have hlen:=hL.len
      have hwz:=hL.bel.size
      go_wp2_with (refine wpList_app rfl _ _ _ rfl w.heap.size 116 5 40 zcCon Tryz.underlying76 infoCon rfl (by decide) (.slice a1 m1 c1) m1 (ofL (liveL U C k)) rfl (hL.below ((Below.refl _ _).alloc (Nat.le_refl _) _)).own _ 1 _ (ofL [zA,zB,C (k*5+2),C (k*5+3),C (k*5+4)]) rfl (flatC _ _ _ _ _ _ _) (by unfold maxLen;omega) (by omega) (by simp only[World.size_alloc];omega) ?_;intro a3 c3 w3 ho3 hg3)
      have hP:=(hL.below ((Below.refl _ _).alloc (Nat.le_refl _) _)).push (x:=[zA,zB,C (k*5+2),C (k*5+3),C (k*5+4)]) rfl hg3 ho3
      go_roundw
      case rel=>exact⟨k+1,_,_,_,by omega,by go_num,rfl,by rw[HYE.out];exact hP⟩
      case measure=>simp[intOf];omega
  · obtain rfl:k=m:=by omega
    go_wp2_with fail
    go_ret
    exact⟨_,_,_,rfl,hL.len,hL.out (Below.refl _ _)⟩
theorem Al.far {w0 w:World} {ab n b k:Nat} {V:Nat→Int} (h:Al w0 w ab n V) (hb:ab≠b) (v:Value):Al w0 (w.setCell ⟨b,k,none⟩ v) ab n V:=h.off hb v
def BN (V:Nat→Int):Prop:=∀ j,j<12→Bn (V j)
theorem BN.set {V:Nat→Int} (h:BN V) {k:Nat} {v:Int} (hv:Bn v):BN (fun j=>if j=k then v else V j):=by
 intro j hj
 by_cases e:j=k
 · simp only[e,if_true];exact hv
 · simp only[e,if_false];exact h j hj
theorem bn_of {V:Nat→Int} (h:bodyB V=true):BN V:=by
 obtain⟨a8,a11,a4,a5,a6,a7,a9,a10,sh,_⟩:=bodyB_bd h
 have a0:0≤V 0∧V 0≤999999999:=by unfold bodyB at h;rw[Bool.and_eq_true] at h;exact of_decide_eq_true h.1
 have s3:Bn (V 1)∧Bn (V 2)∧Bn (V 3):=by unfold shB rdB bxB at sh;rw[Bool.or_eq_true] at sh;simp only[decide_eq_true_eq] at sh;unfold Bn;rcases sh with q|q<;>omega
 intro j hj
 unfold Bn at*
 rcases(show j=0∨j=1∨j=2∨j=3∨j=4∨j=5∨j=6∨j=7∨j=8∨j=9∨j=10∨j=11 by omega) with rfl|rfl|rfl|rfl|rfl|rfl|rfl|rfl|rfl|rfl|rfl|rfl<;>omega
theorem l11Body_s (rb p:Nat) (id:Int) (w:World) (hs0:RS w rb p) (hp:p≤800000) (hid:0≤id∧id≤999999999):
 Calls Tryz.prog 69 #[.pointer (some ⟨rb,0,none⟩),.int .i64 id] w fun e w'=>∃ V:Nat→Int,e= .returned (bodyW V)∧(BN V∧True)∧RB w w' rb (p+1000):=
 (l11Body_k rb p id w hs0 hp hid).mono fun e w' ⟨V,a,b,c⟩=>⟨V,a,⟨bn_of b.1,trivial⟩,c⟩
structure DA (w w':World) (rb p ab:Nat) (V:Nat→Int):Prop where
 but:But rb w w'
 rs:RS w' rb p
 res:Al w w' w.heap.size 12 (fun _=>0)
 bod:Al w w' ab 12 V
 far:w.heap.size<ab
 bf:BN V
theorem DA.call {w w' w1:World} {rb p p1 ab:Nat} {V:Nat→Int} (h:DA w w' rb p ab V) (hrb:rb<w.heap.size) (k:RB w' w1 rb p1):DA w w1 rb p1 ab V:=
 ⟨h.but.trans k.but,RS.of k,h.res.up hrb k.but,h.bod.up hrb k.but,h.far,h.bf⟩
theorem DA.mono {w w':World} {rb p p1 ab:Nat} {V:Nat→Int} (h:DA w w' rb p ab V) (k:p≤p1):DA w w' rb p1 ab V:=
 ⟨h.but,h.rs.mono k,h.res,h.bod,h.far,h.bf⟩
theorem DA.set {w w':World} {rb p ab:Nat} {V:Nat→Int} (h:DA w w' rb p ab V) (hrb:rb<w.heap.size) (k:Nat) (hk:k<12) (v:Int) (hv:Bn v):
 DA w (w'.setCell ⟨ab,k,none⟩ (.int .i64 v)) rb p ab (fun j=>if j=k then v else V j):=by
 have hf:=h.far
 exact⟨h.but.setNew (by simp;omega) _,h.rs.setNew (by simp;omega) _,h.res.far (by omega) _,h.bod.set k hk v,h.far,h.bf.set hv⟩
theorem l11AnyBody_s (rb p:Nat) (w:World) (hs0:RS w rb p) (hp:p≤700000):
 Calls Tryz.prog 43 #[.pointer (some ⟨rb,0,none⟩)] w fun e w'=>∃ V:Nat→Int,e= .returned (bodyW V)∧BN V∧RB w w' rb (p+3000):=by
 have hlt:=hs0.lt
 have hne:(w.heap.size=rb)=False:=eq_false (by omega)
 have hset:=cset_map
 go_enter Tryz.func43,Tryz.ntmps43
 go_upto_region 1 with fail
 have r0:Al w (w.alloc (.cells #[.int .i64 0,.int .i64 0,.int .i64 0,.int .i64 0,.int .i64 0,.int .i64 0,.int .i64 0,.int .i64 0,.int .i64 0,.int .i64 0,.int .i64 0,.int .i64 0] 33)) w.heap.size 12 (fun _=>0):=Al.new (Nat.le_refl _) (by intro i hi;rcases(show i=0∨i=1∨i=2∨i=3∨i=4∨i=5∨i=6∨i=7∨i=8∨i=9∨i=10∨i=11 by omega) with rfl|rfl|rfl|rfl|rfl|rfl|rfl|rfl|rfl|rfl|rfl|rfl<;>rfl)
 have hs1:RS (w.alloc (.cells #[.int .i64 0,.int .i64 0,.int .i64 0,.int .i64 0,.int .i64 0,.int .i64 0,.int .i64 0,.int .i64 0,.int .i64 0,.int .i64 0,.int .i64 0,.int .i64 0] 33)) rb p:=hs0.alloc _
 have hb0:But rb w (w.alloc (.cells #[.int .i64 0,.int .i64 0,.int .i64 0,.int .i64 0,.int .i64 0,.int .i64 0,.int .i64 0,.int .i64 0,.int .i64 0,.int .i64 0,.int .i64 0,.int .i64 0] 33)):=but_alloc rb _ _
 generalize w.alloc (.cells #[.int .i64 0,.int .i64 0,.int .i64 0,.int .i64 0,.int .i64 0,.int .i64 0,.int .i64 0,.int .i64 0,.int .i64 0,.int .i64 0,.int .i64 0,.int .i64 0] 33)=w0 at*
 have hz0:=hb0.size
 go_cut [3] (fun s3 wc=>∃ (ab:Nat) (V:Nat→Int),s3= .pointer (some ⟨ab,0,none⟩)∧DA w wc rb (p+2000) ab V)
 case first=>
  go_wp2_with (first
  |(have _:=hr1;go_at_call 69;refine(l11Body_s rb (p+10) _ _ (by exact RS.up hr1 (by omega)) (by omega) ⟨by omega,by omega⟩).mono ?_;rintro e w2 ⟨V2,rfl,hd2,hr2⟩)
  |(go_at_call 37;refine(pick_s rb (p) _ _ (by exact hs1) (by omega) (by omega) (by omega)).mono ?_;rintro e w1 ⟨v1,rfl,va1,vb1,hr1⟩))
  go_meet
  have ht2:=(RB.but hr1).trans (RB.but hr2)
  have hz2:=(hb0.trans ht2).size
  have hz3:w0.heap.size≤w2.heap.size:=Nat.le_trans (RB.size hr1) (RB.size hr2)
  have hlo:=r0.2.1
  exact⟨_,V2,rfl,(hb0.trans ht2).alloc _,(RS.up hr2 (by omega)).alloc _,(r0.up hlt ht2).up hlt (but_alloc rb _ _),Al.new hz2 (by intro i hi;rcases(show i=0∨i=1∨i=2∨i=3∨i=4∨i=5∨i=6∨i=7∨i=8∨i=9∨i=10∨i=11 by omega) with rfl|rfl|rfl|rfl|rfl|rfl|rfl|rfl|rfl|rfl|rfl|rfl<;>rfl),by omega,hd2.1⟩
 case rest=>
 obtain⟨ab,V,rfl,hD⟩:=hcut
 clear hs1 hb0 r0 hz0 w0
 go_upto_region 2 with fail
 have hlo:=hD.far
 go_cut [9] (fun s9 wc=>∃ (v7:Int) (V:Nat→Int),s9= .int .i64 v7∧DA w wc rb (p+2100) ab V)
 case first=>
  go_wp2_with (go_at_call 37;refine(pick_s rb (p+2000) _ _ (by exact hD.rs) (by omega) (by omega) (by omega)).mono ?_;rintro e w7 ⟨v7,rfl,va7,vb7,hr7⟩)
  go_meet
  exact⟨_,_,rfl,(hD.call hlt hr7).mono (by omega)⟩
 case rest=>
 clear hD
 obtain⟨v7,V,rfl,hD⟩:=hcut
 have hD7:=hD.mono (p1:=p+3000) (by omega)
 have kc0:=(hD7.bod).2.2.1 0 (by omega)
 have kf0:=(hD7.bod).2.2.2 0 (by omega)
 have kc1:=(hD7.bod).2.2.1 1 (by omega)
 have kf1:=(hD7.bod).2.2.2 1 (by omega)
 have kc2:=(hD7.bod).2.2.1 2 (by omega)
 have kf2:=(hD7.bod).2.2.2 2 (by omega)
 have kc3:=(hD7.bod).2.2.1 3 (by omega)
 have kf3:=(hD7.bod).2.2.2 3 (by omega)
 have kc4:=(hD7.bod).2.2.1 4 (by omega)
 have kf4:=(hD7.bod).2.2.2 4 (by omega)
 have kc5:=(hD7.bod).2.2.1 5 (by omega)
 have kf5:=(hD7.bod).2.2.2 5 (by omega)
 have kc6:=(hD7.bod).2.2.1 6 (by omega)
 have kf6:=(hD7.bod).2.2.2 6 (by omega)
 have kc7:=(hD7.bod).2.2.1 7 (by omega)
 have kf7:=(hD7.bod).2.2.2 7 (by omega)
 have kc8:=(hD7.bod).2.2.1 8 (by omega)
 have kf8:=(hD7.bod).2.2.2 8 (by omega)
 have kc9:=(hD7.bod).2.2.1 9 (by omega)
 have kf9:=(hD7.bod).2.2.2 9 (by omega)
 have kc10:=(hD7.bod).2.2.1 10 (by omega)
 have kf10:=(hD7.bod).2.2.2 10 (by omega)
 have kc11:=(hD7.bod).2.2.1 11 (by omega)
 have kf11:=(hD7.bod).2.2.2 11 (by omega)
 go_upto_region 19 with(first
  |(go_at_call 24;refine(one_s (-20000001) 1000000001 rb (p+2100) _ _ _ _ _ (by exact hD.rs) (by omega) (by repeat(first|exact AllBd.nil|refine AllBd.cons (by omega) (by omega) ?_)) (by rfl) (by omega) (by omega)).mono ?_;rintro e w8 ⟨v8,rfl,va8,vb8,hr8⟩;have hD8:=(hD.call hlt hr8).mono (p1:=p+3000) (by omega);have mc0:=(hD8.bod).2.2.1 0 (by omega);have mf0:=(hD8.bod).2.2.2 0 (by omega);have mc1:=(hD8.bod).2.2.1 1 (by omega);have mf1:=(hD8.bod).2.2.2 1 (by omega);have mc2:=(hD8.bod).2.2.1 2 (by omega);have mf2:=(hD8.bod).2.2.2 2 (by omega);have mc3:=(hD8.bod).2.2.1 3 (by omega);have mf3:=(hD8.bod).2.2.2 3 (by omega);have mc4:=(hD8.bod).2.2.1 4 (by omega);have mf4:=(hD8.bod).2.2.2 4 (by omega);have mc5:=(hD8.bod).2.2.1 5 (by omega);have mf5:=(hD8.bod).2.2.2 5 (by omega);have mc6:=(hD8.bod).2.2.1 6 (by omega);have mf6:=(hD8.bod).2.2.2 6 (by omega);have mc7:=(hD8.bod).2.2.1 7 (by omega);have mf7:=(hD8.bod).2.2.2 7 (by omega);have mc8:=(hD8.bod).2.2.1 8 (by omega);have mf8:=(hD8.bod).2.2.2 8 (by omega);have mc9:=(hD8.bod).2.2.1 9 (by omega);have mf9:=(hD8.bod).2.2.2 9 (by omega);have mc10:=(hD8.bod).2.2.1 10 (by omega);have mf10:=(hD8.bod).2.2.2 10 (by omega);have mc11:=(hD8.bod).2.2.1 11 (by omega);have mf11:=(hD8.bod).2.2.2 11 (by omega))
  |(go_at_call 71;refine(l11AnyShape_s rb (p+2100) _ (by exact hD.rs) (by omega)).mono ?_;rintro e w8 ⟨k8,g8,h8,rfl,hd8,hr8⟩;have hD8:=(hD.call hlt hr8).mono (p1:=p+3000) (by omega);have mc0:=(hD8.bod).2.2.1 0 (by omega);have mf0:=(hD8.bod).2.2.2 0 (by omega);have mc1:=(hD8.bod).2.2.1 1 (by omega);have mf1:=(hD8.bod).2.2.2 1 (by omega);have mc2:=(hD8.bod).2.2.1 2 (by omega);have mf2:=(hD8.bod).2.2.2 2 (by omega);have mc3:=(hD8.bod).2.2.1 3 (by omega);have mf3:=(hD8.bod).2.2.2 3 (by omega);have mc4:=(hD8.bod).2.2.1 4 (by omega);have mf4:=(hD8.bod).2.2.2 4 (by omega);have mc5:=(hD8.bod).2.2.1 5 (by omega);have mf5:=(hD8.bod).2.2.2 5 (by omega);have mc6:=(hD8.bod).2.2.1 6 (by omega);have mf6:=(hD8.bod).2.2.2 6 (by omega);have mc7:=(hD8.bod).2.2.1 7 (by omega);have mf7:=(hD8.bod).2.2.2 7 (by omega);have mc8:=(hD8.bod).2.2.1 8 (by omega);have mf8:=(hD8.bod).2.2.2 8 (by omega);have mc9:=(hD8.bod).2.2.1 9 (by omega);have mf9:=(hD8.bod).2.2.2 9 (by omega);have mc10:=(hD8.bod).2.2.1 10 (by omega);have mf10:=(hD8.bod).2.2.2 10 (by omega);have mc11:=(hD8.bod).2.2.1 11 (by omega);have mf11:=(hD8.bod).2.2.2 11 (by omega))
  |(go_at_call 72;refine(l11AnyPlace_s rb (p+2100) _ (by exact hD.rs) (by omega)).mono ?_;rintro e w8 ⟨x8,y8,rfl,hd8,hr8⟩;have hD8:=(hD.call hlt hr8).mono (p1:=p+3000) (by omega);have mc0:=(hD8.bod).2.2.1 0 (by omega);have mf0:=(hD8.bod).2.2.2 0 (by omega);have mc1:=(hD8.bod).2.2.1 1 (by omega);have mf1:=(hD8.bod).2.2.2 1 (by omega);have mc2:=(hD8.bod).2.2.1 2 (by omega);have mf2:=(hD8.bod).2.2.2 2 (by omega);have mc3:=(hD8.bod).2.2.1 3 (by omega);have mf3:=(hD8.bod).2.2.2 3 (by omega);have mc4:=(hD8.bod).2.2.1 4 (by omega);have mf4:=(hD8.bod).2.2.2 4 (by omega);have mc5:=(hD8.bod).2.2.1 5 (by omega);have mf5:=(hD8.bod).2.2.2 5 (by omega);have mc6:=(hD8.bod).2.2.1 6 (by omega);have mf6:=(hD8.bod).2.2.2 6 (by omega);have mc7:=(hD8.bod).2.2.1 7 (by omega);have mf7:=(hD8.bod).2.2.2 7 (by omega);have mc8:=(hD8.bod).2.2.1 8 (by omega);have mf8:=(hD8.bod).2.2.2 8 (by omega);have mc9:=(hD8.bod).2.2.1 9 (by omega);have mf9:=(hD8.bod).2.2.2 9 (by omega);have mc10:=(hD8.bod).2.2.1 10 (by omega);have mf10:=(hD8.bod).2.2.2 10 (by omega);have mc11:=(hD8.bod).2.2.1 11 (by omega);have mf11:=(hD8.bod).2.2.2 11 (by omega)))
 clear kc0 kf0 kc1 kf1 kc2 kf2 kc3 kf3 kc4 kf4 kc5 kf5 kc6 kf6 kc7 kf7 kc8 kf8 kc9 kf9 kc10 kf10 kc11 kf11
 clear mc0 mf0 mc1 mf1 mc2 mf2 mc3 mf3 mc4 mf4 mc5 mf5 mc6 mf6 mc7 mf7 mc8 mf8 mc9 mf9 mc10 mf10 mc11 mf11
 have hE:=(hD8.set hlt 0 (by omega) v8 ⟨by omega,by omega⟩)
 generalize (w8.setCell ⟨ab,0,none⟩ (.int .i64 v8))=wx at hE ⊢
 obtain⟨Vx,hE⟩:∃ Vx,DA w wx rb (p+3000) ab Vx:=⟨_,hE⟩
 rotate_left
 clear kc0 kf0 kc1 kf1 kc2 kf2 kc3 kf3 kc4 kf4 kc5 kf5 kc6 kf6 kc7 kf7 kc8 kf8 kc9 kf9 kc10 kf10 kc11 kf11
 clear mc0 mf0 mc1 mf1 mc2 mf2 mc3 mf3 mc4 mf4 mc5 mf5 mc6 mf6 mc7 mf7 mc8 mf8 mc9 mf9 mc10 mf10 mc11 mf11
 have hE:=(((hD8.set hlt 1 (by omega) k8 hd8.1).set hlt 2 (by omega) g8 hd8.2.1).set hlt 3 (by omega) h8 hd8.2.2)
 generalize (((w8.setCell ⟨ab,1,none⟩ (.int .i64 k8)).setCell ⟨ab,2,none⟩ (.int .i64 g8)).setCell ⟨ab,3,none⟩ (.int .i64 h8))=wx at hE ⊢
 obtain⟨Vx,hE⟩:∃ Vx,DA w wx rb (p+3000) ab Vx:=⟨_,hE⟩
 rotate_left
 clear kc0 kf0 kc1 kf1 kc2 kf2 kc3 kf3 kc4 kf4 kc5 kf5 kc6 kf6 kc7 kf7 kc8 kf8 kc9 kf9 kc10 kf10 kc11 kf11
 clear mc0 mf0 mc1 mf1 mc2 mf2 mc3 mf3 mc4 mf4 mc5 mf5 mc6 mf6 mc7 mf7 mc8 mf8 mc9 mf9 mc10 mf10 mc11 mf11
 have hE:=((hD8.set hlt 4 (by omega) x8 hd8.1).set hlt 5 (by omega) y8 hd8.2)
 generalize ((w8.setCell ⟨ab,4,none⟩ (.int .i64 x8)).setCell ⟨ab,5,none⟩ (.int .i64 y8))=wx at hE ⊢
 obtain⟨Vx,hE⟩:∃ Vx,DA w wx rb (p+3000) ab Vx:=⟨_,hE⟩
 rotate_left
 clear kc0 kf0 kc1 kf1 kc2 kf2 kc3 kf3 kc4 kf4 kc5 kf5 kc6 kf6 kc7 kf7 kc8 kf8 kc9 kf9 kc10 kf10 kc11 kf11
 clear mc0 mf0 mc1 mf1 mc2 mf2 mc3 mf3 mc4 mf4 mc5 mf5 mc6 mf6 mc7 mf7 mc8 mf8 mc9 mf9 mc10 mf10 mc11 mf11
 have hE:=(hD8.set hlt 6 (by omega) v8 ⟨by omega,by omega⟩)
 generalize (w8.setCell ⟨ab,6,none⟩ (.int .i64 v8))=wx at hE ⊢
 obtain⟨Vx,hE⟩:∃ Vx,DA w wx rb (p+3000) ab Vx:=⟨_,hE⟩
 rotate_left
 clear kc0 kf0 kc1 kf1 kc2 kf2 kc3 kf3 kc4 kf4 kc5 kf5 kc6 kf6 kc7 kf7 kc8 kf8 kc9 kf9 kc10 kf10 kc11 kf11
 clear mc0 mf0 mc1 mf1 mc2 mf2 mc3 mf3 mc4 mf4 mc5 mf5 mc6 mf6 mc7 mf7 mc8 mf8 mc9 mf9 mc10 mf10 mc11 mf11
 have hE:=(hD8.set hlt 8 (by omega) v8 ⟨by omega,by omega⟩)
 generalize (w8.setCell ⟨ab,8,none⟩ (.int .i64 v8))=wx at hE ⊢
 obtain⟨Vx,hE⟩:∃ Vx,DA w wx rb (p+3000) ab Vx:=⟨_,hE⟩
 rotate_left
 clear kc0 kf0 kc1 kf1 kc2 kf2 kc3 kf3 kc4 kf4 kc5 kf5 kc6 kf6 kc7 kf7 kc8 kf8 kc9 kf9 kc10 kf10 kc11 kf11
 clear mc0 mf0 mc1 mf1 mc2 mf2 mc3 mf3 mc4 mf4 mc5 mf5 mc6 mf6 mc7 mf7 mc8 mf8 mc9 mf9 mc10 mf10 mc11 mf11
 have hE:=(hD8.set hlt 9 (by omega) v8 ⟨by omega,by omega⟩)
 generalize (w8.setCell ⟨ab,9,none⟩ (.int .i64 v8))=wx at hE ⊢
 obtain⟨Vx,hE⟩:∃ Vx,DA w wx rb (p+3000) ab Vx:=⟨_,hE⟩
 rotate_left
 clear kc0 kf0 kc1 kf1 kc2 kf2 kc3 kf3 kc4 kf4 kc5 kf5 kc6 kf6 kc7 kf7 kc8 kf8 kc9 kf9 kc10 kf10 kc11 kf11
 clear mc0 mf0 mc1 mf1 mc2 mf2 mc3 mf3 mc4 mf4 mc5 mf5 mc6 mf6 mc7 mf7 mc8 mf8 mc9 mf9 mc10 mf10 mc11 mf11
 have hE:=(hD8.set hlt 11 (by omega) v8 ⟨by omega,by omega⟩)
 generalize (w8.setCell ⟨ab,11,none⟩ (.int .i64 v8))=wx at hE ⊢
 obtain⟨Vx,hE⟩:∃ Vx,DA w wx rb (p+3000) ab Vx:=⟨_,hE⟩
 rotate_left
 clear kc0 kf0 kc1 kf1 kc2 kf2 kc3 kf3 kc4 kf4 kc5 kf5 kc6 kf6 kc7 kf7 kc8 kf8 kc9 kf9 kc10 kf10 kc11 kf11
 clear mc0 mf0 mc1 mf1 mc2 mf2 mc3 mf3 mc4 mf4 mc5 mf5 mc6 mf6 mc7 mf7 mc8 mf8 mc9 mf9 mc10 mf10 mc11 mf11
 have hE:=(hD8.set hlt 10 (by omega) v8 ⟨by omega,by omega⟩)
 generalize (w8.setCell ⟨ab,10,none⟩ (.int .i64 v8))=wx at hE ⊢
 obtain⟨Vx,hE⟩:∃ Vx,DA w wx rb (p+3000) ab Vx:=⟨_,hE⟩
 rotate_left
 clear kc0 kf0 kc1 kf1 kc2 kf2 kc3 kf3 kc4 kf4 kc5 kf5 kc6 kf6 kc7 kf7 kc8 kf8 kc9 kf9 kc10 kf10 kc11 kf11
 have hE:=hD7
 obtain⟨Vx,hE⟩:∃ Vx,DA w wc rb (p+3000) ab Vx:=⟨_,hE⟩
 rotate_left
 all_goals
  have h0:=hE
  have ec0:=(hE.bod).2.2.1 0 (by omega)
  have ef0:=(hE.bod).2.2.2 0 (by omega)
  have ec1:=(hE.bod).2.2.1 1 (by omega)
  have ef1:=(hE.bod).2.2.2 1 (by omega)
  have ec2:=(hE.bod).2.2.1 2 (by omega)
  have ef2:=(hE.bod).2.2.2 2 (by omega)
  have ec3:=(hE.bod).2.2.1 3 (by omega)
  have ef3:=(hE.bod).2.2.2 3 (by omega)
  have ec4:=(hE.bod).2.2.1 4 (by omega)
  have ef4:=(hE.bod).2.2.2 4 (by omega)
  have ec5:=(hE.bod).2.2.1 5 (by omega)
  have ef5:=(hE.bod).2.2.2 5 (by omega)
  have ec6:=(hE.bod).2.2.1 6 (by omega)
  have ef6:=(hE.bod).2.2.2 6 (by omega)
  have ec7:=(hE.bod).2.2.1 7 (by omega)
  have ef7:=(hE.bod).2.2.2 7 (by omega)
  have ec8:=(hE.bod).2.2.1 8 (by omega)
  have ef8:=(hE.bod).2.2.2 8 (by omega)
  have ec9:=(hE.bod).2.2.1 9 (by omega)
  have ef9:=(hE.bod).2.2.2 9 (by omega)
  have ec10:=(hE.bod).2.2.1 10 (by omega)
  have ef10:=(hE.bod).2.2.2 10 (by omega)
  have ec11:=(hE.bod).2.2.1 11 (by omega)
  have ef11:=(hE.bod).2.2.2 11 (by omega)
  have rc0:=(hE.res).2.2.1 0 (by omega)
  have rf0:=(hE.res).2.2.2 0 (by omega)
  have rc1:=(hE.res).2.2.1 1 (by omega)
  have rf1:=(hE.res).2.2.2 1 (by omega)
  have rc2:=(hE.res).2.2.1 2 (by omega)
  have rf2:=(hE.res).2.2.2 2 (by omega)
  have rc3:=(hE.res).2.2.1 3 (by omega)
  have rf3:=(hE.res).2.2.2 3 (by omega)
  have rc4:=(hE.res).2.2.1 4 (by omega)
  have rf4:=(hE.res).2.2.2 4 (by omega)
  have rc5:=(hE.res).2.2.1 5 (by omega)
  have rf5:=(hE.res).2.2.2 5 (by omega)
  have rc6:=(hE.res).2.2.1 6 (by omega)
  have rf6:=(hE.res).2.2.2 6 (by omega)
  have rc7:=(hE.res).2.2.1 7 (by omega)
  have rf7:=(hE.res).2.2.2 7 (by omega)
  have rc8:=(hE.res).2.2.1 8 (by omega)
  have rf8:=(hE.res).2.2.2 8 (by omega)
  have rc9:=(hE.res).2.2.1 9 (by omega)
  have rf9:=(hE.res).2.2.2 9 (by omega)
  have rc10:=(hE.res).2.2.1 10 (by omega)
  have rf10:=(hE.res).2.2.2 10 (by omega)
  have rc11:=(hE.res).2.2.1 11 (by omega)
  have rf11:=(hE.res).2.2.2 11 (by omega)
  go_wp2_with fail
  exact bodyPost_ret (v:=bodyW Vx) (by simp[results,Tryz.results43,go_sem, *]) rfl ⟨Vx,rfl,hE.bf,RB.mk ((((((((((((hE.but.setNew (by simp) _).setNew (by simp) _).setNew (by simp) _).setNew (by simp) _).setNew (by simp) _).setNew (by simp) _).setNew (by simp) _).setNew (by simp) _).setNew (by simp) _).setNew (by simp) _).setNew (by simp) _).setNew (by simp) _) (((((((((((((hE.rs.mono (by omega)).setNew (by simp;omega) _).setNew (by simp;omega) _).setNew (by simp;omega) _).setNew (by simp;omega) _).setNew (by simp;omega) _).setNew (by simp;omega) _).setNew (by simp;omega) _).setNew (by simp;omega) _).setNew (by simp;omega) _).setNew (by simp;omega) _).setNew (by simp;omega) _).setNew (by simp;omega) _)⟩
end Go.Proofs.YtcalhcfinkhemaaGreatDoor
