/- Texts of a proof. -/
import Derived.Test.YtpmjnpmnocjjgaaGreatDoorB45
import Derived.Test.YtpmjnpmnocjjgaaGreatDoorB17
import Derived.Test.YtpmjnpmnocjjgaaGreatDoorB41
import Derived.Deep.RegionHeld3
import Derived.Deep.DeepCutAuto
import Derived.Test.YtpmjnpmnocjjgaaGreatDoorCon
import Derived.Test.YtpmjnpmnocjjgaaGreatDoorB21
import Derived.Test.YtpmjnpmnocjjgaaGreatDoorB16
import Derived.Test.YtpmjnpmnocjjgaaGreatDoorB8
import Derived.Test.YtpmjnpmnocjjgaaGreatDoorB26
import Derived.Test.YtpmjnpmnocjjgaaGreatDoorB5
import Derived.Test.YtpmjnpmnocjjgaaGreatDoorB24
import Derived.Test.YtpmjnpmnocjjgaaGreatDoorB29
set_option maxHeartbeats 16000000
set_option maxRecDepth 20000
namespace Go.Proofs.YtpmjnpmnocjjgaaGreatDoor
open Go.RowKit
set_option linter.unusedVariables false
set_option linter.unusedSimpArgs false
theorem goPush {w:World} {rb g m c cb n:Nat} {C U:Nat→Int} {S:Nat→Value} (bo:Bool) (hR0:Rg w rb g m c cb C 0) (hC0:Cs w cb n (colOf U) S) (hm:m≤1048576) (hn:n≤1048576) (hbb:Bods n U) (ct:CtOk n m C) (hrb:¬ Xc S rb) (hg:¬ Xc S g) (hcb:¬ cb=rb):
 Calls Tryz.prog 153 #[.pointer (some ⟨rb,0,none⟩),(.func (.func 154) #[.agg #[.bool bo]] #[])] w fun e w'=>e= .returned (.tuple #[])∧Rg w' rb g m c cb C 0∧Cs w' cb n (colOf (rndN C bo U m)) S∧Fr (fun b=>Xc S b∨b=rb) w w':=by
 have hset:=cset_map
 have hxr:∀ b,Xc S b→¬ b=rb:=fun b hb e=>hrb (e▸hb)
 have c0:=hR0.c0
 go_enter Tryz.func153,Tryz.ntmps153
 go_upto_region 1 with fail
 go_loopw [9] (fun s wr=>∃ k:Nat,k≤m∧s= .int .i64 (k:Int)∧Rg wr rb g m c cb C (k % m)∧Cs wr cb n (colOf (rndN C bo U k)) S∧Fr (fun b=>Xc S b∨b=rb) w wr) (fun s _=>m-(intOf s).toNat)
 case atStart=>exact⟨0,Nat.zero_le _,rfl,by rw[Nat.zero_mod];exact hR0,hC0,Fr.refl _ _⟩
 case round=>
  clear hR0 hC0 c0
  obtain⟨k,hk,rfl,hR,hC,hF⟩:=hrel
  by_cases hlt:k<m
  · have hkm:(k:Int)<(m:Int):=by omega
    rw[Nat.mod_eq_of_lt hlt] at hR
    have ca:=ct.a k hlt
    have cb_:=ct.b k hlt
    have cn:=ct.ne k hlt
    have cx:=ct.x k hlt
    have cy:=ct.y k hlt
    have cd:=ct.d k hlt
    have hB:=(hbb.rnd ct bo k hk).1
    have HN:Shut (rndN C bo U (k+1)=oneU (rndN C bo U k) (C (k*5)).toNat (C (k*5+1)).toNat (C (k*5+2)) (C (k*5+3)) bo):=by show _=_;rw[rndN]
    obtain⟨A,hA⟩:∃ A:Nat,C (k*5)=(A:Int):=⟨(C (k*5)).toNat,by omega⟩
    obtain⟨B,hBB⟩:∃ B:Nat,C (k*5+1)=(B:Int):=⟨(C (k*5+1)).toNat,by omega⟩
    rw[hA,hBB,Int.toNat_natCast,Int.toNat_natCast] at HN
    rw[hA] at ca cn
    rw[hBB] at cb_ cn
    go_wp2_with (first
     |(have _:=hF4;go_at_call 154;refine(mPush _ _ _ bo (hC.frame hF4 hcb hxr) hn (by omega) (by omega) (by omega) (hB.row (by omega)) (hB.row (by omega)) cx cy).mono ?_;rintro e w5 ⟨rfl,hC5,hF5⟩)
     |(go_at_call 166;refine(take_q (j:=k) hR hlt hm _ _ _ _ _ rfl rfl rfl hA hBB).mono ?_;rintro e w4 ⟨rfl,hR4,hF4⟩))
    have hF9:Fr (fun b=>Xc S b∨b=rb) w w5:=(hF.trans (hF4.mono fun _ _ e=> .inr e)).trans (hF5.mono fun _ _ e=> .inl e)
    have hR9:=hR4.fr hF5 hrb hg
    go_roundw
    case rel=>exact⟨k+1,by omega,by go_num,hR9,by rw[HN.out];exact hC5,hF9⟩
    case measure=>simp[intOf];omega
  · obtain rfl:k=m:=by omega
    rw[Nat.mod_self] at hR
    go_wp2_with fail
    go_end0
    exact⟨rfl,hR,hC,hF⟩
theorem goPush0 {w:World} {rb c:Nat} (bo:Bool) (c0:w.cell? ⟨rb,0,none⟩=some (.slice none 0 c)):
 Calls Tryz.prog 153 #[.pointer (some ⟨rb,0,none⟩),(.func (.func 154) #[.agg #[.bool bo]] #[])] w fun e w'=>e= .returned (.tuple #[])∧w'=w:=by
 go_enter Tryz.func153,Tryz.ntmps153
 go_upto_region 1 with fail
 refine wp_loop_rounds 1 ?_
 rw[rounds_succ]
 go_wp2_with fail
 go_end0
 exact⟨rfl,rfl⟩
theorem pushAll_0 {w:World} {rb c:Nat} (c0:w.cell? ⟨rb,0,none⟩=some (.slice none 0 c)):
 Calls Tryz.prog 138 #[.pointer (some ⟨rb,0,none⟩)] w fun e w'=>e= .returned (.tuple #[])∧w'=w:=by
 go_enter Tryz.func138,Tryz.ntmps138
 go_wp2
 go_loopw [3] (fun s wr=>∃ r:Nat,r≤4∧s= .int .i64 (r:Int)∧wr=w) (fun s _=>4-(intOf s).toNat)
 case atStart=>exact⟨0,by omega,rfl,rfl⟩
 case round=>
  obtain⟨r,hr,rfl,rfl⟩:=hrel
  by_cases hlt:r<4
  · have h1:(r:Int)<4:=by omega
    go_wp2_with (go_at_call 153;refine(goPush0 _ c0).mono ?_;rintro e w1 ⟨rfl,rfl⟩)
    go_roundw
    case rel=>exact⟨r+1,by omega,by go_num,by first|rfl|trivial⟩
    case measure=>simp[intOf];omega
  · have h1:¬ (r:Int)<4:=by omega
    go_wp2
    go_end0
    exact⟨rfl,rfl⟩
abbrev conW (V:Nat→Int):Value:= .agg #[.int .i64 (V 0),.int .i64 (V 1),.int .i64 (V 2),.int .i64 (V 3),.int .i64 (V 4)]
def conR (n:Nat) (U:Nat→Int):List Int:=bif bodsB n U then conL (colOf U) n else []
theorem OutL.nil {w:World} {t k:Nat} {R:Nat→Int}:OutL w w t k none 0 0 R:=⟨Below.refl _ _,OwnL.nil _ _ _ _ _⟩
def bcB (n m:Nat) (U Ct:Nat→Int):Bool:=bodsB n U&&decide (m≤144)&&ctsB n Ct m
theorem pushAll_r {w:World} {rb g m c cb n:Nat} {C U:Nat→Int} {S:Nat→Value} (hR0:Rg w rb g m c cb C 0) (hC0:Cs w cb n (colOf U) S) (hm:m≤1048576) (hn:n≤1048576) (hbb:Bods n U) (ct:CtOk n m C) (hrb:¬ Xc S rb) (hg:¬ Xc S g) (hcb:¬ cb=rb):
 Calls Tryz.prog 138 #[.pointer (some ⟨rb,0,none⟩)] w fun e w'=>e= .returned (.tuple #[])∧Rg w' rb g m c cb C 0∧Cs w' cb n (colOf (allN C U m 4)) S∧Fr (fun b=>Xc S b∨b=rb) w w':=by
 go_enter Tryz.func138,Tryz.ntmps138
 go_wp2
 go_loopw [3] (fun s wr=>∃ r:Nat,r≤4∧s= .int .i64 (r:Int)∧Rg wr rb g m c cb C 0∧Cs wr cb n (colOf (allN C U m r)) S∧Fr (fun b=>Xc S b∨b=rb) w wr) (fun s _=>4-(intOf s).toNat)
 case atStart=>exact⟨0,by omega,rfl,hR0,hC0,Fr.refl _ _⟩
 case round=>
  clear hR0 hC0
  obtain⟨r,hr,rfl,hR,hC,hF⟩:=hrel
  have hB:=(hbb.all ct r).1
  by_cases hlt:r<4
  · have h1:(r:Int)<4:=by omega
    have HN:Shut (allN C U m (r+1)=rndN C (((r:Nat):Int)==0) (allN C U m r) m):=by show _=_;rw[allN]
    go_wp2_with (go_at_call 153;refine(goPush _ hR hC hm hn hB ct hrb hg hcb).mono ?_;rintro e w1 ⟨rfl,hR1,hC1,hF1⟩)
    go_roundw
    case rel=>exact⟨r+1,by omega,by go_num,hR1,by rw[HN.out];exact hC1,hF.trans hF1⟩
    case measure=>simp[intOf];omega
  · have h1:¬ (r:Int)<4:=by omega
    obtain rfl:r=4:=by omega
    go_wp2
    go_end0
    exact⟨rfl,hR,hC,hF⟩
def Rv (w:World) (rb m cb:Nat) (C:Nat→Int):Prop:=(m=0∧∃ c,w.cell? ⟨rb,0,none⟩=some (.slice none 0 c))∨∃ g c,Rg w rb g m c cb C 0∧rb<g
theorem Rv.fr {X:Nat→Prop} {w w':World} {rb m cb:Nat} {C:Nat→Int} (h:Rv w rb m cb C) (hF:Fr X w w') (hX:∀ b,rb≤b→¬ X b):Rv w' rb m cb C:=by
 rcases h with⟨h1,c,h2⟩|⟨g,c,h1,h2⟩
 · exact .inl ⟨h1,c,(hF.cell (p:=⟨rb,0,none⟩) (cell_lt (a:=⟨rb,0,none⟩) h2) (hX _ (Nat.le_refl _))).trans h2⟩
 · exact .inr ⟨g,c,h1.fr hF (hX _ (Nat.le_refl _)) (hX _ (by omega)),h2⟩
theorem Rv.of_ml {w:World} {rb m cb:Nat} {C:Nat→Int} {v:Value} (h:ML w (rb+1) cb v C m) (c0:w.cell? ⟨rb,0,none⟩=some v) (c1:w.cell? ⟨rb,1,none⟩=some (.int .i64 0)) (f1:w.frozen? ⟨rb,1,none⟩=false):Rv w rb m cb C:=by
 rcases h.is with⟨rfl,rfl⟩|⟨g,c,rfl⟩
 · exact .inl ⟨rfl,0,c0⟩
 · have hg:=(h.lt g rfl).1
   exact .inr ⟨g,c,h.rg c0 c1 f1 (by omega),by omega⟩
theorem pushAll_v {w:World} {rb m cb n:Nat} {C U:Nat→Int} {S:Nat→Value} (h:Rv w rb m cb C) (hC:Cs w cb n (colOf U) S) (hm:m≤1048576) (hn:n≤1048576) (hbb:Bods n U) (ct:CtOk n m C) (hcb:cb<rb) (hxr:∀ b,Xc S b→b<rb):
 Calls Tryz.prog 138 #[.pointer (some ⟨rb,0,none⟩)] w fun e w'=>e= .returned (.tuple #[])∧Rv w' rb m cb C∧Cs w' cb n (colOf (allN C U m 4)) S∧Fr (fun b=>Xc S b∨b=rb) w w':=by
 rcases h with⟨rfl,c,h2⟩|⟨g,c,h1,h2⟩
 · refine(pushAll_0 h2).mono ?_
   rintro e w' ⟨rfl,rfl⟩
   have e4:allN C U 0 4=U:=rfl
   exact⟨rfl,.inl ⟨rfl,c,h2⟩,by rw[e4];exact hC,Fr.refl _ _⟩
 · refine(pushAll_r h1 hC hm hn hbb ct (fun x=>by have:=hxr _ x;omega) (fun x=>by have:=hxr _ x;omega) (by omega)).mono ?_
   rintro e w' ⟨rfl,hR,h3,h4⟩
   exact⟨rfl,.inr ⟨g,c,hR,h2⟩,h3,h4⟩
theorem moveApart_v {w:World} {rb m cb n:Nat} {C U:Nat→Int} {S:Nat→Value} (h:Rv w rb m cb C) (hC:Cs w cb n (colOf U) S) (hm:m≤1048576) (hn:n≤1048576) (hbb:Bods n U) (ct:CtOk n m C) (hcb:cb<rb) (hxr:∀ b,Xc S b→b<rb):
 Calls Tryz.prog 141 #[.pointer (some ⟨rb,0,none⟩)] w fun e w'=>e= .returned (.tuple #[])∧Cs w' cb n (colOf (apartN C U m)) S∧Fr (fun b=>Xc S b∨b=rb) w w':=by
 rcases h with⟨rfl,c,h2⟩|⟨g,c,h1,h2⟩
 · refine(moveApart_0 h2).mono ?_
   rintro e w' ⟨rfl,rfl⟩
   exact⟨rfl,hC,Fr.refl _ _⟩
 · exact moveApart_q h1 hC hm hn hbb ct (fun x=>by have:=hxr _ x;omega) (fun x=>by have:=hxr _ x;omega) (by omega)
theorem at_ok {n m:Nat} {C:Nat→Int} (h:CtOk n m C) {k:Nat} (hk:k<m):atB n (C (k*5)) (C (k*5+1)) (C (k*5+2)) (C (k*5+3)) (C (k*5+4))=true:=by
 unfold atB hitB inB
 have h1:=h.x k hk
 have h2:=h.y k hk
 rw[decide_eq_true ⟨h1.1,h1.2,h2.1,h2.2⟩,decide_eq_true (h.d k hk),decide_eq_true (h.a k hk),decide_eq_true (h.b k hk),decide_eq_false (h.ne k hk)]
 rfl
theorem liveL_pre {U C:Nat→Int} {i:Nat}:∀ {m:Nat},i≤m→∃ r,liveL U C m=liveL U C i++r
 |0,h=>⟨[],by obtain rfl:i=0:=(by omega);simp⟩
 | m+1,h=>by
   by_cases e:i=m+1
   · subst e;exact⟨[],by simp⟩
   · obtain⟨r,hr⟩:=liveL_pre (U:=U) (C:=C) (m:=m) (i:=i) (by omega)
     refine⟨r++(if liveC U C m=true then [C (m*5),C (m*5+1),C (m*5+2),C (m*5+3),C (m*5+4)] else []),?_⟩
     rw[liveL,hr,List.append_assoc]
theorem liveL_at {U C:Nat→Int} {i m k:Nat} (hi:i<m) (hv:liveC U C i=true) (hl:(liveL U C i).length=k*5):∀ j,j<5→ofL (liveL U C m) (k*5+j)=C (i*5+j):=fun j hj=>by
 obtain⟨r,hr⟩:=liveL_pre (U:=U) (C:=C) (m:=m) (i:=i+1) (by omega)
 rw[hr,liveL_yes hv,List.append_assoc,ofL_r (by omega),hl,Nat.add_sub_cancel_left,ofL_l (by simpa using hj)]
 rcases(show j=0∨j=1∨j=2∨j=3∨j=4 by omega) with rfl|rfl|rfl|rfl|rfl<;>rfl
theorem pushing_any (mb cb n M:Nat) (aM:Option Addr) (cc:Nat) (U Ct:Nat→Int) (S:Nat→Value) (w:World) (hC:Cs w cb n (colOf U) S) (hm0:w.cell? ⟨mb,0,none⟩=some (.pointer (some ⟨cb,0,none⟩))) (hm2:w.cell? ⟨mb,2,none⟩=some (.slice aM M cc)) (hFt:Flat w aM (M*5) Ct) (ct:CtOk n M Ct) (hM:M≤144) (hn:n≤12) (hbb:Bods n U) (m:Nat) (hm:(liveL U Ct M).length=m*5):
 Calls Tryz.prog 137 #[.pointer (some ⟨mb,0,none⟩)] w fun e w'=>∃ rb,e= .returned (.pointer (some ⟨rb,0,none⟩))∧w.heap.size≤rb∧Rv w' rb m cb (ofL (liveL U Ct M))∧Below w.heap.size w w':=by
 have hset:=cset_map
 have hml:mb<w.heap.size:=cell_lt (a:=⟨mb,0,none⟩) hm0
 have hcw:=hC.lt
 have hE1:Below w.heap.size w (w.alloc (Obj.cells #[.slice none 0 0,.int .i64 0] 219)):=(Below.refl _ _).alloc (Nat.le_refl _) _
 have hMo:Mo w (w.alloc (Obj.cells #[.slice none 0 0,.int .i64 0] 219)) cb n w.heap.size 0 U (ofL (liveL U Ct M)) S (.slice none 0 0):=⟨hC.below hE1,by go_simp,by go_simp,by go_simp,by go_simp,ML.nil _ _ _ _,hE1,by simp⟩
 have hxr:∀ b,Xc S b→b<w.heap.size:=fun b e=>(hC.xlt e).2
 obtain⟨rb,hrb⟩:∃ x,w.heap.size=x:=⟨_,rfl⟩
 obtain⟨Cl,hCl⟩:∃ x,ofL (liveL U Ct M)=x:=⟨_,rfl⟩
 have hcr:cb<rb:=by omega
 have hm2A:∀ A,Below w.heap.size w A→A.cell? ⟨mb,2,none⟩=some (.slice aM M cc):=fun A h=>keepL h hm2
 rw[hCl] at hMo ⊢
 go_enter Tryz.func137,Tryz.ntmps137
 have y2:=hm2A _ hE1
 go_upto_region 3 with fail
 generalize (w.alloc (Obj.cells #[.slice none 0 0,.int .i64 0] 219))=w1 at hMo hE1 y2 ⊢
 rw[hrb] at hMo hxr
 have hge:w.heap.size≤rb:=by omega
 clear hrb
 go_loopw [15,5,6,7] (fun s _ _ _ wr=>∃ (i mi:Nat) (v:Value),i≤M∧s= .int .i64 (i:Int)∧Mo w wr cb n rb mi U Cl S v∧(liveL U Ct i).length=mi*5) (fun s _ _ _ _=>M-(intOf s).toNat)
 case atStart=>exact⟨0,0,.slice none 0 0,Nat.zero_le _,rfl,hMo,rfl⟩
 case round=>
  clear hMo hE1 y2
  obtain⟨i,mi,v,hi,rfl,hMi,hli⟩:=hrel
  by_cases hlt:i<M
  · have hiM:(i:Int)<(M:Int):=by omega
    obtain⟨b2,o2,rfl,hbl2,hc2⟩:=(hFt.below hMi.bel) (by omega)
    obtain⟨A,hAe,hAn⟩:∃ A:Nat,Ct (i*5)=(A:Int)∧A<n:=⟨(Ct (i*5)).toNat,by have:=ct.a i hlt;omega,by have:=ct.a i hlt;omega⟩
    obtain⟨B,hBe,hBn⟩:∃ A:Nat,Ct (i*5+1)=(A:Int)∧A<n:=⟨(Ct (i*5+1)).toNat,by have:=ct.b i hlt;omega,by have:=ct.b i hlt;omega⟩
    obtain⟨X,hXe⟩:∃ X,Ct (i*5+2)=X:=⟨_,rfl⟩
    obtain⟨Y,hYe⟩:∃ Y,Ct (i*5+3)=Y:=⟨_,rfl⟩
    obtain⟨D,hDe⟩:∃ D,Ct (i*5+4)=D:=⟨_,rfl⟩
    have kt:=at_ok ct hlt
    rw[hAe,hBe,hXe,hYe,hDe] at kt
    have r0:=hc2 (i*5) (by omega)
    have r1:=hc2 (i*5+1) (by omega)
    have r2:=hc2 (i*5+2) (by omega)
    have r3:=hc2 (i*5+3) (by omega)
    have r4:=hc2 (i*5+4) (by omega)
    simp only[←Nat.add_assoc] at r0 r1 r2 r3 r4
    rw[hAe] at r0
    rw[hBe] at r1
    rw[hXe] at r2
    rw[hYe] at r3
    rw[hDe] at r4
    clear hc2
    obtain⟨la,hla⟩:∃ b,liveV (fun j=>U (A*12+j))=b:=⟨_,rfl⟩
    obtain⟨lb,hlb⟩:∃ b,liveV (fun j=>U (B*12+j))=b:=⟨_,rfl⟩
    have hla2:(!decide (colOf U 8 A=0)&& !decide (colOf U 11 A=8))=la:=(lv_eq (V:=fun j=>U (A*12+j)) (BOk.of (hbb.ok A hAn))).trans hla
    have hlb2:(!decide (colOf U 8 B=0)&& !decide (colOf U 11 B=8))=lb:=(lv_eq (V:=fun j=>U (B*12+j)) (BOk.of (hbb.ok B hBn))).trans hlb
    have hlv:liveC U Ct i=(la||lb):=by
     unfold liveC rowU
     rw[hAe,hBe,Int.toNat_natCast,Int.toNat_natCast,hla,hlb]
    have hA5:liveC U Ct i=true→∀ j,j<5→Cl (mi*5+j)=Ct (i*5+j):=fun h=>hCl▸liveL_at hlt h hli
    have hmi:mi≤144:=by have:=liveL_len U Ct i;omega
    go_upto_region 5 with fail
    have hE4:Below wr.heap.size wr (wr.alloc (Obj.cells #[.int .i64 (A:Int),.int .i64 (B:Int),.int .i64 X,.int .i64 Y,.int .i64 D] 108)):=(Below.refl _ _).alloc (Nat.le_refl _) _
    have k0:(wr.alloc (Obj.cells #[.int .i64 (A:Int),.int .i64 (B:Int),.int .i64 X,.int .i64 Y,.int .i64 D] 108)).cell? ⟨wr.heap.size,0,none⟩=some (.int .i64 (A:Int)):=by go_simp
    have k1:(wr.alloc (Obj.cells #[.int .i64 (A:Int),.int .i64 (B:Int),.int .i64 X,.int .i64 Y,.int .i64 D] 108)).cell? ⟨wr.heap.size,1,none⟩=some (.int .i64 (B:Int)):=by go_simp
    have k2:(wr.alloc (Obj.cells #[.int .i64 (A:Int),.int .i64 (B:Int),.int .i64 X,.int .i64 Y,.int .i64 D] 108)).cell? ⟨wr.heap.size,2,none⟩=some (.int .i64 X):=by go_simp
    have k3:(wr.alloc (Obj.cells #[.int .i64 (A:Int),.int .i64 (B:Int),.int .i64 X,.int .i64 Y,.int .i64 D] 108)).cell? ⟨wr.heap.size,3,none⟩=some (.int .i64 Y):=by go_simp
    have k4:(wr.alloc (Obj.cells #[.int .i64 (A:Int),.int .i64 (B:Int),.int .i64 X,.int .i64 Y,.int .i64 D] 108)).cell? ⟨wr.heap.size,4,none⟩=some (.int .i64 D):=by go_simp
    generalize (wr.alloc (Obj.cells #[.int .i64 (A:Int),.int .i64 (B:Int),.int .i64 X,.int .i64 Y,.int .i64 D] 108))=w4 at hE4 k0 k1 k2 k3 k4 ⊢
    have hM4:=hMi.on hE4
    have hmb4:w4.cell? ⟨mb,0,none⟩=some (.pointer (some ⟨cb,0,none⟩)):=keepL hM4.bel hm0
    clear hMi r0 r1 r2 r3 r4 hE4
    generalize wr.heap.size=kb at k0 k1 k2 k3 k4 ⊢
    have FF:∀ w',Below w4.heap.size w4 w'→w'.cell? ⟨mb,0,none⟩=some (.pointer (some ⟨cb,0,none⟩))∧w'.cell? ⟨kb,0,none⟩=some (.int .i64 (A:Int))∧w'.cell? ⟨kb,1,none⟩=some (.int .i64 (B:Int))∧w'.cell? ⟨kb,2,none⟩=some (.int .i64 X)∧w'.cell? ⟨kb,3,none⟩=some (.int .i64 Y)∧w'.cell? ⟨kb,4,none⟩=some (.int .i64 D):=fun w' s=>⟨keepL s hmb4,keepL s k0,keepL s k1,keepL s k2,keepL s k3,keepL s k4⟩
    go_cut [6,7] (fun s6 s7 wc=>∃ tb,s6= .pointer (some ⟨tb,0,none⟩)∧s7= .bool true∧Below w4.heap.size w4 wc∧wc.cell? ⟨tb,0,none⟩=some (.int .i64 X)∧wc.cell? ⟨tb,1,none⟩=some (.int .i64 Y)∧wc.cell? ⟨tb,2,none⟩=some (.int .i64 D)∧wc.cell? ⟨tb,3,none⟩=some (.int .i64 (A:Int))∧wc.cell? ⟨tb,4,none⟩=some (.pointer (some ⟨cb,0,none⟩))∧wc.cell? ⟨tb,5,none⟩=some (.int .i64 (B:Int))∧wc.cell? ⟨tb,6,none⟩=some (.pointer (some ⟨cb,0,none⟩)))
    case first=>
     refine wp_region_held_drew (S:=fun w'=>Below w4.heap.size w4 w') (by kernel_rfl) ((Below.refl _ _).drew) (fun hHeld=> ?_)
     refine tq 0 hHeld ?_
     refine tq 1 hHeld ?_
     refine tq 2 hHeld ?_
     refine tq 3 hHeld ?_ (hv:=by(intro w' s;obtain⟨q0,q1,q2,q3,q4,q5⟩:=FF w' s;go_simp;(try with_reducible rfl)))
     refine tq 4 hHeld ?_ (hv:=by(intro w' s;obtain⟨q0,q1,q2,q3,q4,q5⟩:=FF w' s;go_simp;(try with_reducible rfl)))
     refine wpAnyH_ready (rs:=[5,9]) (by kernel_rfl) (by simp) ?_
     refine AllReadyH.cons rfl (fun K hK=> ?_) (AllReadyH.cons rfl (fun K hK=> ?_) AllReadyH.nil)
     · (go_simp;(go_at_call 152;refine(meetingAt_yes (hM4.cs.below hHeld) (by omega) _ _ _ _ _ kt).mono ?_;rintro e w8 ⟨rfl,hb8⟩);obtain⟨hc8,hf8⟩:=bcell hb8;have hz8:=hb8.size;(try simp only[zz] at hc8 hf8 hz8);(try have ha8:w4.heap.size<w8.heap.size:=by omega);(try go_wp2_with fail);refine tr hK (fun hHeld=> ?_) (hHeld.trans (hb8.mono hHeld.size));clear hK K)
       refine tq 6 hHeld ?_
       refine tq 7 hHeld ?_
       refine tq 8 hHeld ?_
       refine tc 9 fun K hK=> ?_
       (go_simp;refine tr hK (fun hHeld=> ?_) (by first|exact bel_a|exact hHeld.alloc hHeld.size _|exact(hHeld.alloc hHeld.size _).drew);clear hK K)
       refine tc 10 fun K hK=> ?_
       (go_simp;refine tr hK (fun hHeld=> ?_) (by exact bel_a);clear hK K)
       refine tq 11 hHeld ?_
       refine wpAnyH_done (by kernel_rfl) ?_ _
       go_wp2_with fail
       go_meet
       exact⟨_,rfl,rfl,bel_a,by go_simp,by go_simp,by go_simp,by go_simp,by go_simp,by go_simp,by go_simp⟩
     · (go_simp;refine tr hK (fun hHeld=> ?_) (by first|exact bel_a|exact hHeld.alloc hHeld.size _|exact(hHeld.alloc hHeld.size _).drew);clear hK K)
       refine tc 5 fun K hK=> ?_
       (go_simp;(go_at_call 152;refine(meetingAt_yes (hM4.cs.below hHeld) (by omega) _ _ _ _ _ kt).mono ?_;rintro e w8 ⟨rfl,hb8⟩);obtain⟨hc8,hf8⟩:=bcell hb8;have hz8:=hb8.size;(try simp only[zz] at hc8 hf8 hz8);(try have ha8:w4.heap.size<w8.heap.size:=by omega);(try go_wp2_with fail);refine tr hK (fun hHeld=> ?_) (hHeld.trans (hb8.mono hHeld.size));clear hK K)
       refine tq 6 hHeld ?_
       refine tq 7 hHeld ?_
       refine tq 8 hHeld ?_
       refine tc 10 fun K hK=> ?_
       (go_simp;refine tr hK (fun hHeld=> ?_) (by exact bel_a);clear hK K)
       refine tq 11 hHeld ?_
       refine wpAnyH_done (by kernel_rfl) ?_ _
       go_wp2_with fail
       go_meet
       exact⟨_,rfl,rfl,bel_a,by go_simp,by go_simp,by go_simp,by go_simp,by go_simp,by go_simp,by go_simp⟩
    case rest=>
    obtain⟨tb,rfl,rfl,hB5,t0,t1,t2,t3,t4,t5,t6⟩:=hcut
    have hM5:=hM4.on hB5
    clear hM4 FF k0 k1 k2 k3 k4 hmb4 hB5
    go_upto_region 6 with fail
    go_cut [38] (fun s wd=>s= .bool (la||lb)∧Below wc.heap.size wc wd)
    case first=>
     cases la with
     | true=>
       go_wp2_with (go_at_call 150;refine(kLv1 (hM5.cs.hat hAn (by omega)) true hla2).mono ?_;rintro e w5 ⟨rfl,hb5⟩)
       go_meet
       exact⟨rfl,hb5⟩
     | false=>
       go_wp2_with (first
        |(have _:=hb5;go_at_call 150;refine(kLv1 ((hM5.cs.below hb5).hat hBn (by omega)) lb hlb2).mono ?_;rintro e w6 ⟨rfl,hb6⟩)
        |(go_at_call 150;refine(kLv1 (hM5.cs.hat hAn (by omega)) false hla2).mono ?_;rintro e w5 ⟨rfl,hb5⟩;have s5:=keepL hb5 t5;have s6:=keepL hb5 t6))
       go_meet
       exact⟨rfl,hb5.trans (hb6.mono hb5.size)⟩
    case rest=>
    obtain⟨rfl,hB6⟩:=hcut
    have hM6:=hM5.on hB6
    replace t0:=keepL hB6 t0
    replace t1:=keepL hB6 t1
    replace t2:=keepL hB6 t2
    replace t3:=keepL hB6 t3
    replace t4:=keepL hB6 t4
    replace t5:=keepL hB6 t5
    replace t6:=keepL hB6 t6
    clear hM5 hB6
    obtain⟨w6,rfl⟩:∃ x,x=wc:=⟨_,rfl⟩
    cases hab:(la||lb) with
    | true=>
      rw[hab] at hlv
      have h5:=hA5 hlv
      have hA:Cl (mi*5)=(A:Int):=(h5 0 (by omega)).trans hAe
      have hB:Cl (mi*5+1)=(B:Int):=(h5 1 (by omega)).trans hBe
      have hX:Cl (mi*5+2)=X:=(h5 2 (by omega)).trans hXe
      have hY:Cl (mi*5+3)=Y:=(h5 3 (by omega)).trans hYe
      have hD:Cl (mi*5+4)=D:=(h5 4 (by omega)).trans hDe
      have x0:=hM6.r0
      have hnl:Shut ((liveL U Ct (i+1)).length=(mi+1)*5):=by
       unfold Shut
       rw[liveL_yes hlv,List.length_append,hli];simp;omega
      clear hA5 h5 hla hlb hla2 hlb2 kt hlv
      go_upto_region 7 with fail
      refine wp_region_held_drew (S:=fun w'=>True) (by kernel_rfl) ?_ (fun hHeld=> ?_)
      · trivial
      refine tq 0 hHeld ?_
      refine tq 1 hHeld ?_
      refine tq 2 hHeld ?_
      refine tq 3 hHeld ?_
      refine wpAnyH_ready (rs:=[4,5]) (by kernel_rfl) (by simp) ?_
      refine AllReadyH.cons rfl (fun K hK=> ?_) (AllReadyH.cons rfl (fun K hK=> ?_) AllReadyH.nil)
      · (go_simp
         refine tr hK (fun hHeld=> ?_) trivial
         clear hK K)
        refine tc 5 fun K hK=> ?_
        (go_simp
         refine tr hK (fun hHeld=> ?_) trivial
         clear hK K)
        refine tc 6 fun K hK=> ?_
        (go_simp
         have hE7:Below w6.heap.size w6 (w6.alloc (Obj.cells #[.int .i64 X,.int .i64 Y,.int .i64 D,.int .i64 (A:Int),.pointer (some ⟨cb,0,none⟩),.int .i64 (B:Int),.pointer (some ⟨cb,0,none⟩)] 221)).drew:=Below.drew ((Below.refl _ _).alloc (Nat.le_refl _) _)
         have e7:∀ q,q<7→(w6.alloc (Obj.cells #[.int .i64 X,.int .i64 Y,.int .i64 D,.int .i64 (A:Int),.pointer (some ⟨cb,0,none⟩),.int .i64 (B:Int),.pointer (some ⟨cb,0,none⟩)] 221)).drew.cell? ⟨w6.heap.size,q,none⟩=(mv7 cb Cl mi)[q]? :=by
          intro q hq
          rcases(show q=0∨q=1∨q=2∨q=3∨q=4∨q=5∨q=6 by omega) with rfl|rfl|rfl|rfl|rfl|rfl|rfl<;>(unfold mv7;rw[hX,hY,hD,hA,hB];go_simp)
         have hM7:=hM6.on hE7
         generalize (w6.alloc (Obj.cells #[.int .i64 X,.int .i64 Y,.int .i64 D,.int .i64 (A:Int),.pointer (some ⟨cb,0,none⟩),.int .i64 (B:Int),.pointer (some ⟨cb,0,none⟩)] 221)).drew=w7 at hE7 e7 hM7 ⊢
         have x7:=hM7.r0
         refine tr hK (fun hHeld=> ?_) trivial
         clear hK K)
        refine tc 7 fun K hK=> ?_
        (refine step_mapp (by rfl) _ _ _ (by rfl) Tryz.underlying217 (rb+1) cb v Cl mi (by rfl) hM7.ml w6.heap.size (by rfl) e7 (by omega) (by have:=hM7.rl;omega) ?_
         intro g7 c7 w8 ho7 hg7
         obtain⟨⟨n0,nf,l7⟩,hM8⟩:=hM6.push hE7 hg7 ho7 (by omega) hcr hxr
         refine tr hK (fun hHeld=> ?_) trivial
         clear hK K)
        refine tq 8 hHeld ?_
        refine tq 9 hHeld ?_
        refine tc 10 fun K hK=> ?_
        (go_simp
         refine tr hK (fun hHeld=> ?_) trivial
         clear hK K)
        refine wpAnyH_done (by kernel_rfl) ?_ _
        go_wp2_with fail
        go_roundw
        case rel=>exact⟨i+1,mi+1,_,by omega,by go_num,hM8,hnl.out⟩
        case measure=>simp[intOf];omega
      · (go_simp
         refine tr hK (fun hHeld=> ?_) trivial
         clear hK K)
        refine wpAnyH_ready (rs:=[4,6]) (by kernel_rfl) (by simp) ?_
        refine AllReadyH.cons rfl (fun K hK=> ?_) (AllReadyH.cons rfl (fun K hK=> ?_) AllReadyH.nil)
        · (go_simp
           refine tr hK (fun hHeld=> ?_) trivial
           clear hK K)
          refine tc 6 fun K hK=> ?_
          (go_simp
           have hE7:Below w6.heap.size w6 (w6.alloc (Obj.cells #[.int .i64 X,.int .i64 Y,.int .i64 D,.int .i64 (A:Int),.pointer (some ⟨cb,0,none⟩),.int .i64 (B:Int),.pointer (some ⟨cb,0,none⟩)] 221)).drew:=Below.drew ((Below.refl _ _).alloc (Nat.le_refl _) _)
           have e7:∀ q,q<7→(w6.alloc (Obj.cells #[.int .i64 X,.int .i64 Y,.int .i64 D,.int .i64 (A:Int),.pointer (some ⟨cb,0,none⟩),.int .i64 (B:Int),.pointer (some ⟨cb,0,none⟩)] 221)).drew.cell? ⟨w6.heap.size,q,none⟩=(mv7 cb Cl mi)[q]? :=by
            intro q hq
            rcases(show q=0∨q=1∨q=2∨q=3∨q=4∨q=5∨q=6 by omega) with rfl|rfl|rfl|rfl|rfl|rfl|rfl<;>(unfold mv7;rw[hX,hY,hD,hA,hB];go_simp)
           have hM7:=hM6.on hE7
           generalize (w6.alloc (Obj.cells #[.int .i64 X,.int .i64 Y,.int .i64 D,.int .i64 (A:Int),.pointer (some ⟨cb,0,none⟩),.int .i64 (B:Int),.pointer (some ⟨cb,0,none⟩)] 221)).drew=w7 at hE7 e7 hM7 ⊢
           have x7:=hM7.r0
           refine tr hK (fun hHeld=> ?_) trivial
           clear hK K)
          refine tc 7 fun K hK=> ?_
          (refine step_mapp (by rfl) _ _ _ (by rfl) Tryz.underlying217 (rb+1) cb v Cl mi (by rfl) hM7.ml w6.heap.size (by rfl) e7 (by omega) (by have:=hM7.rl;omega) ?_
           intro g7 c7 w8 ho7 hg7
           obtain⟨⟨n0,nf,l7⟩,hM8⟩:=hM6.push hE7 hg7 ho7 (by omega) hcr hxr
           refine tr hK (fun hHeld=> ?_) trivial
           clear hK K)
          refine tq 8 hHeld ?_
          refine tq 9 hHeld ?_
          refine tc 10 fun K hK=> ?_
          (go_simp
           refine tr hK (fun hHeld=> ?_) trivial
           clear hK K)
          refine wpAnyH_done (by kernel_rfl) ?_ _
          go_wp2_with fail
          go_roundw
          case rel=>exact⟨i+1,mi+1,_,by omega,by go_num,hM8,hnl.out⟩
          case measure=>simp[intOf];omega
        · (go_simp
           have hE7:Below w6.heap.size w6 (w6.alloc (Obj.cells #[.int .i64 X,.int .i64 Y,.int .i64 D,.int .i64 (A:Int),.pointer (some ⟨cb,0,none⟩),.int .i64 (B:Int),.pointer (some ⟨cb,0,none⟩)] 221)).drew:=Below.drew ((Below.refl _ _).alloc (Nat.le_refl _) _)
           have e7:∀ q,q<7→(w6.alloc (Obj.cells #[.int .i64 X,.int .i64 Y,.int .i64 D,.int .i64 (A:Int),.pointer (some ⟨cb,0,none⟩),.int .i64 (B:Int),.pointer (some ⟨cb,0,none⟩)] 221)).drew.cell? ⟨w6.heap.size,q,none⟩=(mv7 cb Cl mi)[q]? :=by
            intro q hq
            rcases(show q=0∨q=1∨q=2∨q=3∨q=4∨q=5∨q=6 by omega) with rfl|rfl|rfl|rfl|rfl|rfl|rfl<;>(unfold mv7;rw[hX,hY,hD,hA,hB];go_simp)
           have hM7:=hM6.on hE7
           generalize (w6.alloc (Obj.cells #[.int .i64 X,.int .i64 Y,.int .i64 D,.int .i64 (A:Int),.pointer (some ⟨cb,0,none⟩),.int .i64 (B:Int),.pointer (some ⟨cb,0,none⟩)] 221)).drew=w7 at hE7 e7 hM7 ⊢
           have x7:=hM7.r0
           refine tr hK (fun hHeld=> ?_) trivial
           clear hK K)
          refine tc 4 fun K hK=> ?_
          (go_simp
           refine tr hK (fun hHeld=> ?_) trivial
           clear hK K)
          refine tc 7 fun K hK=> ?_
          (refine step_mapp (by rfl) _ _ _ (by rfl) Tryz.underlying217 (rb+1) cb v Cl mi (by rfl) hM7.ml w6.heap.size (by rfl) e7 (by omega) (by have:=hM7.rl;omega) ?_
           intro g7 c7 w8 ho7 hg7
           obtain⟨⟨n0,nf,l7⟩,hM8⟩:=hM6.push hE7 hg7 ho7 (by omega) hcr hxr
           refine tr hK (fun hHeld=> ?_) trivial
           clear hK K)
          refine tq 8 hHeld ?_
          refine tq 9 hHeld ?_
          refine tc 10 fun K hK=> ?_
          (go_simp
           refine tr hK (fun hHeld=> ?_) trivial
           clear hK K)
          refine wpAnyH_done (by kernel_rfl) ?_ _
          go_wp2_with fail
          go_roundw
          case rel=>exact⟨i+1,mi+1,_,by omega,by go_num,hM8,hnl.out⟩
          case measure=>simp[intOf];omega
    | false=>
      rw[hab] at hlv
      have hnl:Shut ((liveL U Ct (i+1)).length=mi*5):=by
       unfold Shut
       rw[liveL_no hlv,hli]
      clear hA5 hla hlb hla2 hlb2 kt hlv
      go_wp2_with fail
      go_roundw
      case rel=>exact⟨i+1,mi,v,by omega,by go_num,hM6,hnl.out⟩
      case measure=>simp[intOf];omega
  · obtain rfl:i=M:=by omega
    obtain rfl:mi=m:=by omega
    go_wp2
    go_ret
    exact⟨rb,rfl,by omega,Rv.of_ml hMi.ml hMi.r0 hMi.r1 hMi.f1,hMi.bel⟩
theorem IV_num {l:List Int} {n:Nat} (h:l.length=n):IV l=numL (n*1) (ofL l):=by
 apply List.ext_getElem?
 intro j
 by_cases e:j<n
 · rw[IV_get (by omega),numL_get (by omega)]
 · rw[List.getElem?_eq_none (by rw[IV_len];omega),List.getElem?_eq_none (by rw[numL_len];omega)]
theorem LV.out {w wr:World} {t g cap n:Nat} {l:List Int} (h:LV w wr t g cap n (IV l)):OutL w wr t 1 (some ⟨g,0,none⟩) n cap (ofL l):=by
 refine⟨h.bel,?_⟩
 have hl:=h.len
 rw[IV_len] at hl
 have ho:=h.own
 rw[IV_num hl] at ho
 exact ho
def conN (n:Nat) (U:Nat→Int):Nat:=(conL (colOf U) n).length/5
theorem conN_eq {n:Nat} (U:Nat→Int) (hn:n≤12):(conL (colOf U) n).length=conN n U*5∧conN n U≤144:=by
 obtain⟨m,h1,h2⟩:=conOut_len (colOf U) n n
 have e:(conL (colOf U) n).length=m*5:=h1
 have:=Nat.mul_le_mul hn hn
 unfold conN
 rw[e]
 omega
def grpU (n:Nat) (U:Nat→Int):List Int:=grpL U (ofL (conL (colOf U) n)) (conN n U) n
def grpO (n:Nat) (U:Nat→Int):List Int:=bif bodsB n U then grpU n U else []
theorem bods_n {n:Nat} {U:Nat→Int} (h:bodsB n U=true):n≤12:=by unfold bodsB at h;rw[Bool.and_eq_true,decide_eq_true_eq] at h;exact h.1
theorem grpU_eq {n:Nat} {U:Nat→Int} (h12:n≤12):∀ j,j<n→ofL (grpU n U) j=gnum (fxU U) (lab (edg U (ofL (conL (colOf U) n))) (conN n U)) j:=grpL_eq (con_ct (colOf U) (conN_eq U h12).1)
end Go.Proofs.YtpmjnpmnocjjgaaGreatDoor
