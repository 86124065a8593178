/- Texts of a proof. -/
import Derived.Test.YthajilkjfkppoaaGreatDoorB2
import Derived.Test.YthajilkjfkppoaaGreatDoorB42
import Derived.Test.YthajilkjfkppoaaGreatDoorB45
import Derived.Test.YthajilkjfkppoaaGreatDoorB20
import Derived.Test.YthajilkjfkppoaaGreatDoorB32
import Derived.Deep.RegionHeld3
import Derived.Deep.DeepCutAuto
set_option maxHeartbeats 16000000
set_option maxRecDepth 20000
namespace Go.Proofs.YthajilkjfkppoaaGreatDoor
open Go.RowKit
set_option linter.unusedVariables false
set_option linter.unusedSimpArgs false
theorem at_ok {n m:Nat} {C:Nat→Int} (h:CtOk n m C) {k:Nat} (hk:k<m):atB n (C (k*5)) (C (k*5+1)) (C (k*5+2)) (C (k*5+3)) (C (k*5+4))=true:=by
 unfold atB hitB inB
 have h1:=h.x k hk
 have h2:=h.y k hk
 rw[decide_eq_true ⟨h1.1,h1.2,h2.1,h2.2⟩,decide_eq_true (h.d k hk),decide_eq_true (h.a k hk),decide_eq_true (h.b k hk),decide_eq_false (h.ne k hk)]
 rfl
theorem liveL_pre {U C:Nat→Int} {i:Nat}:∀ {m:Nat},i≤m→∃ r,liveL U C m=liveL U C i++r
 |0,h=>⟨[],by obtain rfl:i=0:=(by omega);simp⟩
 | m+1,h=>by
   by_cases e:i=m+1
   · subst e;exact⟨[],by simp⟩
   · obtain⟨r,hr⟩:=liveL_pre (U:=U) (C:=C) (m:=m) (i:=i) (by omega)
     refine⟨r++(if liveC U C m=true then [C (m*5),C (m*5+1),C (m*5+2),C (m*5+3),C (m*5+4)] else []),?_⟩
     rw[liveL,hr,List.append_assoc]
theorem liveL_at {U C:Nat→Int} {i m k:Nat} (hi:i<m) (hv:liveC U C i=true) (hl:(liveL U C i).length=k*5):∀ j,j<5→ofL (liveL U C m) (k*5+j)=C (i*5+j):=fun j hj=>by
 obtain⟨r,hr⟩:=liveL_pre (U:=U) (C:=C) (m:=m) (i:=i+1) (by omega)
 rw[hr,liveL_yes hv,List.append_assoc,ofL_r (by omega),hl,Nat.add_sub_cancel_left,ofL_l (by simpa using hj)]
 rcases(show j=0∨j=1∨j=2∨j=3∨j=4 by omega) with rfl|rfl|rfl|rfl|rfl<;>rfl
theorem pushing_any (mb cb n M:Nat) (aM:Option Addr) (cc:Nat) (U Ct:Nat→Int) (S:Nat→Value) (w:World) (hC:Cs w cb n (colOf U) S) (hm0:w.cell? ⟨mb,0,none⟩=some (.pointer (some ⟨cb,0,none⟩))) (hm2:w.cell? ⟨mb,2,none⟩=some (.slice aM M cc)) (hFt:Flat w aM (M*5) Ct) (ct:CtOk n M Ct) (hM:M≤144) (hn:n≤12) (hbb:Bods n U) (m:Nat) (hm:(liveL U Ct M).length=m*5):
 Calls Tryz.prog 150 #[.pointer (some ⟨mb,0,none⟩)] w fun e w'=>∃ rb,e= .returned (.pointer (some ⟨rb,0,none⟩))∧w.heap.size≤rb∧Rv w' rb m cb (ofL (liveL U Ct M))∧Below w.heap.size w w':=by
 have hset:=cset_map
 have hml:mb<w.heap.size:=cell_lt (a:=⟨mb,0,none⟩) hm0
 have hcw:=hC.lt
 have hE1:Below w.heap.size w (w.alloc (Obj.cells #[.slice none 0 0,.int .i64 0] 229)):=(Below.refl _ _).alloc (Nat.le_refl _) _
 have hMo:Mo w (w.alloc (Obj.cells #[.slice none 0 0,.int .i64 0] 229)) cb n w.heap.size 0 U (ofL (liveL U Ct M)) S (.slice none 0 0):=⟨hC.below hE1,by go_simp,by go_simp,by go_simp,by go_simp,ML.nil _ _ _ _,hE1,by simp⟩
 have hxr:∀ b,Xc S b→b<w.heap.size:=fun b e=>(hC.xlt e).2
 obtain⟨rb,hrb⟩:∃ x,w.heap.size=x:=⟨_,rfl⟩
 obtain⟨Cl,hCl⟩:∃ x,ofL (liveL U Ct M)=x:=⟨_,rfl⟩
 have hcr:cb<rb:=by omega
 have hm2A:∀ A,Below w.heap.size w A→A.cell? ⟨mb,2,none⟩=some (.slice aM M cc):=fun A h=>keepL h hm2
 rw[hCl] at hMo ⊢
 go_enter Tryz.func150,Tryz.ntmps150
 have y2:=hm2A _ hE1
 go_upto_region 3 with fail
 generalize (w.alloc (Obj.cells #[.slice none 0 0,.int .i64 0] 229))=w1 at hMo hE1 y2 ⊢
 rw[hrb] at hMo hxr
 have hge:w.heap.size≤rb:=by omega
 clear hrb
 go_loopw [15,5,6,7] (fun s _ _ _ wr=>∃ (i mi:Nat) (v:Value),i≤M∧s= .int .i64 (i:Int)∧Mo w wr cb n rb mi U Cl S v∧(liveL U Ct i).length=mi*5) (fun s _ _ _ _=>M-(intOf s).toNat)
 case atStart=>exact⟨0,0,.slice none 0 0,Nat.zero_le _,rfl,hMo,rfl⟩
 case round=>
  clear hMo hE1 y2
  obtain⟨i,mi,v,hi,rfl,hMi,hli⟩:=hrel
  by_cases hlt:i<M
  · have hiM:(i:Int)<(M:Int):=by omega
    obtain⟨b2,o2,rfl,hbl2,hc2⟩:=(hFt.below hMi.bel) (by omega)
    obtain⟨A,hAe,hAn⟩:∃ A:Nat,Ct (i*5)=(A:Int)∧A<n:=⟨(Ct (i*5)).toNat,by have:=ct.a i hlt;omega,by have:=ct.a i hlt;omega⟩
    obtain⟨B,hBe,hBn⟩:∃ A:Nat,Ct (i*5+1)=(A:Int)∧A<n:=⟨(Ct (i*5+1)).toNat,by have:=ct.b i hlt;omega,by have:=ct.b i hlt;omega⟩
    obtain⟨X,hXe⟩:∃ X,Ct (i*5+2)=X:=⟨_,rfl⟩
    obtain⟨Y,hYe⟩:∃ Y,Ct (i*5+3)=Y:=⟨_,rfl⟩
    obtain⟨D,hDe⟩:∃ D,Ct (i*5+4)=D:=⟨_,rfl⟩
    have kt:=at_ok ct hlt
    rw[hAe,hBe,hXe,hYe,hDe] at kt
    have r0:=hc2 (i*5) (by omega)
    have r1:=hc2 (i*5+1) (by omega)
    have r2:=hc2 (i*5+2) (by omega)
    have r3:=hc2 (i*5+3) (by omega)
    have r4:=hc2 (i*5+4) (by omega)
    simp only[←Nat.add_assoc] at r0 r1 r2 r3 r4
    rw[hAe] at r0
    rw[hBe] at r1
    rw[hXe] at r2
    rw[hYe] at r3
    rw[hDe] at r4
    clear hc2
    obtain⟨la,hla⟩:∃ b,liveV (fun j=>U (A*12+j))=b:=⟨_,rfl⟩
    obtain⟨lb,hlb⟩:∃ b,liveV (fun j=>U (B*12+j))=b:=⟨_,rfl⟩
    have hla2:(!decide (colOf U 8 A=0)&& !decide (colOf U 11 A=8))=la:=(lv_eq (V:=fun j=>U (A*12+j)) (BOk.of (hbb.ok A hAn))).trans hla
    have hlb2:(!decide (colOf U 8 B=0)&& !decide (colOf U 11 B=8))=lb:=(lv_eq (V:=fun j=>U (B*12+j)) (BOk.of (hbb.ok B hBn))).trans hlb
    have hlv:liveC U Ct i=(la||lb):=by
     unfold liveC rowU
     rw[hAe,hBe,Int.toNat_natCast,Int.toNat_natCast,hla,hlb]
    have hA5:liveC U Ct i=true→∀ j,j<5→Cl (mi*5+j)=Ct (i*5+j):=fun h=>hCl▸liveL_at hlt h hli
    have hmi:mi≤144:=by have:=liveL_len U Ct i;omega
    go_upto_region 5 with fail
    have hE4:Below wr.heap.size wr (wr.alloc (Obj.cells #[.int .i64 (A:Int),.int .i64 (B:Int),.int .i64 X,.int .i64 Y,.int .i64 D] 40)):=(Below.refl _ _).alloc (Nat.le_refl _) _
    have k0:(wr.alloc (Obj.cells #[.int .i64 (A:Int),.int .i64 (B:Int),.int .i64 X,.int .i64 Y,.int .i64 D] 40)).cell? ⟨wr.heap.size,0,none⟩=some (.int .i64 (A:Int)):=by go_simp
    have k1:(wr.alloc (Obj.cells #[.int .i64 (A:Int),.int .i64 (B:Int),.int .i64 X,.int .i64 Y,.int .i64 D] 40)).cell? ⟨wr.heap.size,1,none⟩=some (.int .i64 (B:Int)):=by go_simp
    have k2:(wr.alloc (Obj.cells #[.int .i64 (A:Int),.int .i64 (B:Int),.int .i64 X,.int .i64 Y,.int .i64 D] 40)).cell? ⟨wr.heap.size,2,none⟩=some (.int .i64 X):=by go_simp
    have k3:(wr.alloc (Obj.cells #[.int .i64 (A:Int),.int .i64 (B:Int),.int .i64 X,.int .i64 Y,.int .i64 D] 40)).cell? ⟨wr.heap.size,3,none⟩=some (.int .i64 Y):=by go_simp
    have k4:(wr.alloc (Obj.cells #[.int .i64 (A:Int),.int .i64 (B:Int),.int .i64 X,.int .i64 Y,.int .i64 D] 40)).cell? ⟨wr.heap.size,4,none⟩=some (.int .i64 D):=by go_simp
    generalize (wr.alloc (Obj.cells #[.int .i64 (A:Int),.int .i64 (B:Int),.int .i64 X,.int .i64 Y,.int .i64 D] 40))=w4 at hE4 k0 k1 k2 k3 k4 ⊢
    have hM4:=hMi.on hE4
    have hmb4:w4.cell? ⟨mb,0,none⟩=some (.pointer (some ⟨cb,0,none⟩)):=keepL hM4.bel hm0
    clear hMi r0 r1 r2 r3 r4 hE4
    generalize wr.heap.size=kb at k0 k1 k2 k3 k4 ⊢
    have FF:∀ w',Below w4.heap.size w4 w'→w'.cell? ⟨mb,0,none⟩=some (.pointer (some ⟨cb,0,none⟩))∧w'.cell? ⟨kb,0,none⟩=some (.int .i64 (A:Int))∧w'.cell? ⟨kb,1,none⟩=some (.int .i64 (B:Int))∧w'.cell? ⟨kb,2,none⟩=some (.int .i64 X)∧w'.cell? ⟨kb,3,none⟩=some (.int .i64 Y)∧w'.cell? ⟨kb,4,none⟩=some (.int .i64 D):=fun w' s=>⟨keepL s hmb4,keepL s k0,keepL s k1,keepL s k2,keepL s k3,keepL s k4⟩
    go_cut [6,7] (fun s6 s7 wc=>∃ tb,s6= .pointer (some ⟨tb,0,none⟩)∧s7= .bool true∧Below w4.heap.size w4 wc∧wc.cell? ⟨tb,0,none⟩=some (.int .i64 X)∧wc.cell? ⟨tb,1,none⟩=some (.int .i64 Y)∧wc.cell? ⟨tb,2,none⟩=some (.int .i64 D)∧wc.cell? ⟨tb,3,none⟩=some (.int .i64 (A:Int))∧wc.cell? ⟨tb,4,none⟩=some (.pointer (some ⟨cb,0,none⟩))∧wc.cell? ⟨tb,5,none⟩=some (.int .i64 (B:Int))∧wc.cell? ⟨tb,6,none⟩=some (.pointer (some ⟨cb,0,none⟩)))
    case first=>
     refine wp_region_held_drew (S:=fun w'=>Below w4.heap.size w4 w') (by kernel_rfl) ((Below.refl _ _).drew) (fun hHeld=> ?_)
     refine tq 0 hHeld ?_
     refine tq 1 hHeld ?_
     refine tq 2 hHeld ?_
     refine tq 3 hHeld ?_ (hv:=by(intro w' s;obtain⟨q0,q1,q2,q3,q4,q5⟩:=FF w' s;go_simp;(try with_reducible rfl)))
     refine tq 4 hHeld ?_ (hv:=by(intro w' s;obtain⟨q0,q1,q2,q3,q4,q5⟩:=FF w' s;go_simp;(try with_reducible rfl)))
     refine wpAnyH_ready (rs:=[5,9]) (by kernel_rfl) (by simp) ?_
     refine AllReadyH.cons rfl (fun K hK=> ?_) (AllReadyH.cons rfl (fun K hK=> ?_) AllReadyH.nil)
     · (go_simp;(go_at_call 169;refine(meetingAt_yes (hM4.cs.below hHeld) (by omega) _ _ _ _ _ kt).mono ?_;rintro e w8 ⟨rfl,hb8⟩);obtain⟨hc8,hf8⟩:=bcell hb8;have hz8:=hb8.size;(try simp only[zz] at hc8 hf8 hz8);(try have ha8:w4.heap.size<w8.heap.size:=by omega);(try go_wp2_with fail);refine tr hK (fun hHeld=> ?_) (hHeld.trans (hb8.mono hHeld.size));clear hK K)
       refine tq 6 hHeld ?_
       refine tq 7 hHeld ?_
       refine tq 8 hHeld ?_
       refine tc 9 fun K hK=> ?_
       (go_simp;refine tr hK (fun hHeld=> ?_) (by first|exact bel_a|exact hHeld.alloc hHeld.size _|exact(hHeld.alloc hHeld.size _).drew);clear hK K)
       refine tc 10 fun K hK=> ?_
       (go_simp;refine tr hK (fun hHeld=> ?_) (by exact bel_a);clear hK K)
       refine tq 11 hHeld ?_
       refine wpAnyH_done (by kernel_rfl) ?_ _
       go_wp2_with fail
       go_meet
       exact⟨_,rfl,rfl,bel_a,by go_simp,by go_simp,by go_simp,by go_simp,by go_simp,by go_simp,by go_simp⟩
     · (go_simp;refine tr hK (fun hHeld=> ?_) (by first|exact bel_a|exact hHeld.alloc hHeld.size _|exact(hHeld.alloc hHeld.size _).drew);clear hK K)
       refine tc 5 fun K hK=> ?_
       (go_simp;(go_at_call 169;refine(meetingAt_yes (hM4.cs.below hHeld) (by omega) _ _ _ _ _ kt).mono ?_;rintro e w8 ⟨rfl,hb8⟩);obtain⟨hc8,hf8⟩:=bcell hb8;have hz8:=hb8.size;(try simp only[zz] at hc8 hf8 hz8);(try have ha8:w4.heap.size<w8.heap.size:=by omega);(try go_wp2_with fail);refine tr hK (fun hHeld=> ?_) (hHeld.trans (hb8.mono hHeld.size));clear hK K)
       refine tq 6 hHeld ?_
       refine tq 7 hHeld ?_
       refine tq 8 hHeld ?_
       refine tc 10 fun K hK=> ?_
       (go_simp;refine tr hK (fun hHeld=> ?_) (by exact bel_a);clear hK K)
       refine tq 11 hHeld ?_
       refine wpAnyH_done (by kernel_rfl) ?_ _
       go_wp2_with fail
       go_meet
       exact⟨_,rfl,rfl,bel_a,by go_simp,by go_simp,by go_simp,by go_simp,by go_simp,by go_simp,by go_simp⟩
    case rest=>
    obtain⟨tb,rfl,rfl,hB5,t0,t1,t2,t3,t4,t5,t6⟩:=hcut
    have hM5:=hM4.on hB5
    clear hM4 FF k0 k1 k2 k3 k4 hmb4 hB5
    go_upto_region 6 with fail
    go_cut [38] (fun s wd=>s= .bool (la||lb)∧Below wc.heap.size wc wd)
    case first=>
     cases la with
     | true=>
       go_wp2_with (go_at_call 168;refine(kLv1 (hM5.cs.hat hAn (by omega)) true hla2).mono ?_;rintro e w5 ⟨rfl,hb5⟩)
       go_meet
       exact⟨rfl,hb5⟩
     | false=>
       go_wp2_with (first
        |(have _:=hb5;go_at_call 168;refine(kLv1 ((hM5.cs.below hb5).hat hBn (by omega)) lb hlb2).mono ?_;rintro e w6 ⟨rfl,hb6⟩)
        |(go_at_call 168;refine(kLv1 (hM5.cs.hat hAn (by omega)) false hla2).mono ?_;rintro e w5 ⟨rfl,hb5⟩;have s5:=keepL hb5 t5;have s6:=keepL hb5 t6))
       go_meet
       exact⟨rfl,hb5.trans (hb6.mono hb5.size)⟩
    case rest=>
    obtain⟨rfl,hB6⟩:=hcut
    have hM6:=hM5.on hB6
    replace t0:=keepL hB6 t0
    replace t1:=keepL hB6 t1
    replace t2:=keepL hB6 t2
    replace t3:=keepL hB6 t3
    replace t4:=keepL hB6 t4
    replace t5:=keepL hB6 t5
    replace t6:=keepL hB6 t6
    clear hM5 hB6
    obtain⟨w6,rfl⟩:∃ x,x=wc:=⟨_,rfl⟩
    cases hab:(la||lb) with
    | true=>
      rw[hab] at hlv
      have h5:=hA5 hlv
      have hA:Cl (mi*5)=(A:Int):=(h5 0 (by omega)).trans hAe
      have hB:Cl (mi*5+1)=(B:Int):=(h5 1 (by omega)).trans hBe
      have hX:Cl (mi*5+2)=X:=(h5 2 (by omega)).trans hXe
      have hY:Cl (mi*5+3)=Y:=(h5 3 (by omega)).trans hYe
      have hD:Cl (mi*5+4)=D:=(h5 4 (by omega)).trans hDe
      have x0:=hM6.r0
      have hnl:Shut ((liveL U Ct (i+1)).length=(mi+1)*5):=by
       unfold Shut
       rw[liveL_yes hlv,List.length_append,hli];simp;omega
      clear hA5 h5 hla hlb hla2 hlb2 kt hlv
      go_upto_region 7 with fail
      refine wp_region_held_drew (S:=fun w'=>True) (by kernel_rfl) ?_ (fun hHeld=> ?_)
      · trivial
      refine tq 0 hHeld ?_
      refine tq 1 hHeld ?_
      refine tq 2 hHeld ?_
      refine tq 3 hHeld ?_
      refine wpAnyH_ready (rs:=[4,5]) (by kernel_rfl) (by simp) ?_
      refine AllReadyH.cons rfl (fun K hK=> ?_) (AllReadyH.cons rfl (fun K hK=> ?_) AllReadyH.nil)
      · (go_simp
         refine tr hK (fun hHeld=> ?_) trivial
         clear hK K)
        refine tc 5 fun K hK=> ?_
        (go_simp
         refine tr hK (fun hHeld=> ?_) trivial
         clear hK K)
        refine tc 6 fun K hK=> ?_
        (go_simp
         have hE7:Below w6.heap.size w6 (w6.alloc (Obj.cells #[.int .i64 X,.int .i64 Y,.int .i64 D,.int .i64 (A:Int),.pointer (some ⟨cb,0,none⟩),.int .i64 (B:Int),.pointer (some ⟨cb,0,none⟩)] 231)).drew:=Below.drew ((Below.refl _ _).alloc (Nat.le_refl _) _)
         have e7:∀ q,q<7→(w6.alloc (Obj.cells #[.int .i64 X,.int .i64 Y,.int .i64 D,.int .i64 (A:Int),.pointer (some ⟨cb,0,none⟩),.int .i64 (B:Int),.pointer (some ⟨cb,0,none⟩)] 231)).drew.cell? ⟨w6.heap.size,q,none⟩=(mv7 cb Cl mi)[q]? :=by
          intro q hq
          rcases(show q=0∨q=1∨q=2∨q=3∨q=4∨q=5∨q=6 by omega) with rfl|rfl|rfl|rfl|rfl|rfl|rfl<;>(unfold mv7;rw[hX,hY,hD,hA,hB];go_simp)
         have hM7:=hM6.on hE7
         generalize (w6.alloc (Obj.cells #[.int .i64 X,.int .i64 Y,.int .i64 D,.int .i64 (A:Int),.pointer (some ⟨cb,0,none⟩),.int .i64 (B:Int),.pointer (some ⟨cb,0,none⟩)] 231)).drew=w7 at hE7 e7 hM7 ⊢
         have x7:=hM7.r0
         refine tr hK (fun hHeld=> ?_) trivial
         clear hK K)
        refine tc 7 fun K hK=> ?_
        (refine step_mapp (by rfl) _ _ _ (by rfl) Tryz.underlying227 (rb+1) cb v Cl mi (by rfl) hM7.ml w6.heap.size (by rfl) e7 (by omega) (by have:=hM7.rl;omega) ?_
         intro g7 c7 w8 ho7 hg7
         obtain⟨⟨n0,nf,l7⟩,hM8⟩:=hM6.push hE7 hg7 ho7 (by omega) hcr hxr
         refine tr hK (fun hHeld=> ?_) trivial
         clear hK K)
        refine tq 8 hHeld ?_
        refine tq 9 hHeld ?_
        refine tc 10 fun K hK=> ?_
        (go_simp
         refine tr hK (fun hHeld=> ?_) trivial
         clear hK K)
        refine wpAnyH_done (by kernel_rfl) ?_ _
        go_wp2_with fail
        go_roundw
        case rel=>exact⟨i+1,mi+1,_,by omega,by go_num,hM8,hnl.out⟩
        case measure=>simp[intOf];omega
      · (go_simp
         refine tr hK (fun hHeld=> ?_) trivial
         clear hK K)
        refine wpAnyH_ready (rs:=[4,6]) (by kernel_rfl) (by simp) ?_
        refine AllReadyH.cons rfl (fun K hK=> ?_) (AllReadyH.cons rfl (fun K hK=> ?_) AllReadyH.nil)
        · (go_simp
           refine tr hK (fun hHeld=> ?_) trivial
           clear hK K)
          refine tc 6 fun K hK=> ?_
          (go_simp
           have hE7:Below w6.heap.size w6 (w6.alloc (Obj.cells #[.int .i64 X,.int .i64 Y,.int .i64 D,.int .i64 (A:Int),.pointer (some ⟨cb,0,none⟩),.int .i64 (B:Int),.pointer (some ⟨cb,0,none⟩)] 231)).drew:=Below.drew ((Below.refl _ _).alloc (Nat.le_refl _) _)
           have e7:∀ q,q<7→(w6.alloc (Obj.cells #[.int .i64 X,.int .i64 Y,.int .i64 D,.int .i64 (A:Int),.pointer (some ⟨cb,0,none⟩),.int .i64 (B:Int),.pointer (some ⟨cb,0,none⟩)] 231)).drew.cell? ⟨w6.heap.size,q,none⟩=(mv7 cb Cl mi)[q]? :=by
            intro q hq
            rcases(show q=0∨q=1∨q=2∨q=3∨q=4∨q=5∨q=6 by omega) with rfl|rfl|rfl|rfl|rfl|rfl|rfl<;>(unfold mv7;rw[hX,hY,hD,hA,hB];go_simp)
           have hM7:=hM6.on hE7
           generalize (w6.alloc (Obj.cells #[.int .i64 X,.int .i64 Y,.int .i64 D,.int .i64 (A:Int),.pointer (some ⟨cb,0,none⟩),.int .i64 (B:Int),.pointer (some ⟨cb,0,none⟩)] 231)).drew=w7 at hE7 e7 hM7 ⊢
           have x7:=hM7.r0
           refine tr hK (fun hHeld=> ?_) trivial
           clear hK K)
          refine tc 7 fun K hK=> ?_
          (refine step_mapp (by rfl) _ _ _ (by rfl) Tryz.underlying227 (rb+1) cb v Cl mi (by rfl) hM7.ml w6.heap.size (by rfl) e7 (by omega) (by have:=hM7.rl;omega) ?_
           intro g7 c7 w8 ho7 hg7
           obtain⟨⟨n0,nf,l7⟩,hM8⟩:=hM6.push hE7 hg7 ho7 (by omega) hcr hxr
           refine tr hK (fun hHeld=> ?_) trivial
           clear hK K)
          refine tq 8 hHeld ?_
          refine tq 9 hHeld ?_
          refine tc 10 fun K hK=> ?_
          (go_simp
           refine tr hK (fun hHeld=> ?_) trivial
           clear hK K)
          refine wpAnyH_done (by kernel_rfl) ?_ _
          go_wp2_with fail
          go_roundw
          case rel=>exact⟨i+1,mi+1,_,by omega,by go_num,hM8,hnl.out⟩
          case measure=>simp[intOf];omega
        · (go_simp
           have hE7:Below w6.heap.size w6 (w6.alloc (Obj.cells #[.int .i64 X,.int .i64 Y,.int .i64 D,.int .i64 (A:Int),.pointer (some ⟨cb,0,none⟩),.int .i64 (B:Int),.pointer (some ⟨cb,0,none⟩)] 231)).drew:=Below.drew ((Below.refl _ _).alloc (Nat.le_refl _) _)
           have e7:∀ q,q<7→(w6.alloc (Obj.cells #[.int .i64 X,.int .i64 Y,.int .i64 D,.int .i64 (A:Int),.pointer (some ⟨cb,0,none⟩),.int .i64 (B:Int),.pointer (some ⟨cb,0,none⟩)] 231)).drew.cell? ⟨w6.heap.size,q,none⟩=(mv7 cb Cl mi)[q]? :=by
            intro q hq
            rcases(show q=0∨q=1∨q=2∨q=3∨q=4∨q=5∨q=6 by omega) with rfl|rfl|rfl|rfl|rfl|rfl|rfl<;>(unfold mv7;rw[hX,hY,hD,hA,hB];go_simp)
           have hM7:=hM6.on hE7
           generalize (w6.alloc (Obj.cells #[.int .i64 X,.int .i64 Y,.int .i64 D,.int .i64 (A:Int),.pointer (some ⟨cb,0,none⟩),.int .i64 (B:Int),.pointer (some ⟨cb,0,none⟩)] 231)).drew=w7 at hE7 e7 hM7 ⊢
           have x7:=hM7.r0
           refine tr hK (fun hHeld=> ?_) trivial
           clear hK K)
          refine tc 4 fun K hK=> ?_
          (go_simp
           refine tr hK (fun hHeld=> ?_) trivial
           clear hK K)
          refine tc 7 fun K hK=> ?_
          (refine step_mapp (by rfl) _ _ _ (by rfl) Tryz.underlying227 (rb+1) cb v Cl mi (by rfl) hM7.ml w6.heap.size (by rfl) e7 (by omega) (by have:=hM7.rl;omega) ?_
           intro g7 c7 w8 ho7 hg7
           obtain⟨⟨n0,nf,l7⟩,hM8⟩:=hM6.push hE7 hg7 ho7 (by omega) hcr hxr
           refine tr hK (fun hHeld=> ?_) trivial
           clear hK K)
          refine tq 8 hHeld ?_
          refine tq 9 hHeld ?_
          refine tc 10 fun K hK=> ?_
          (go_simp
           refine tr hK (fun hHeld=> ?_) trivial
           clear hK K)
          refine wpAnyH_done (by kernel_rfl) ?_ _
          go_wp2_with fail
          go_roundw
          case rel=>exact⟨i+1,mi+1,_,by omega,by go_num,hM8,hnl.out⟩
          case measure=>simp[intOf];omega
    | false=>
      rw[hab] at hlv
      have hnl:Shut ((liveL U Ct (i+1)).length=mi*5):=by
       unfold Shut
       rw[liveL_no hlv,hli]
      clear hA5 hla hlb hla2 hlb2 kt hlv
      go_wp2_with fail
      go_roundw
      case rel=>exact⟨i+1,mi,v,by omega,by go_num,hM6,hnl.out⟩
      case measure=>simp[intOf];omega
  · obtain rfl:i=M:=by omega
    obtain rfl:mi=m:=by omega
    go_wp2
    go_ret
    exact⟨rb,rfl,by omega,Rv.of_ml hMi.ml hMi.r0 hMi.r1 hMi.f1,hMi.bel⟩
theorem push_any (mb cb n M:Nat) (aM:Option Addr) (cc:Nat) (U Ct:Nat→Int) (S:Nat→Value) (w:World) (hC:Cs w cb n (colOf U) S) (hm0:w.cell? ⟨mb,0,none⟩=some (.pointer (some ⟨cb,0,none⟩))) (hm2:w.cell? ⟨mb,2,none⟩=some (.slice aM M cc)) (p4:Value) (hm4:w.cell? ⟨mb,4,none⟩=some p4) (hf4:w.frozen? ⟨mb,4,none⟩=false) (hmx:¬ Xc S mb) (hmc:¬ cb=mb) (hFt:Flat w aM (M*5) Ct) (ct:CtOk n M Ct) (hM:M≤144) (hn:n≤12) (hbb:Bods n U) (m:Nat) (hm:(liveL U Ct M).length=m*5) (ctl:CtOk n m (ofL (liveL U Ct M))):
 Calls Tryz.prog 120 #[.pointer (some ⟨mb,0,none⟩)] w fun e w'=>e= .returned (.tuple #[])∧∃ rb,w.heap.size≤rb∧Rv w' rb m cb (ofL (liveL U Ct M))∧w'.cell? ⟨mb,4,none⟩=some (.pointer (some ⟨rb,0,none⟩))∧Cs w' cb n (colOf (allN (ofL (liveL U Ct M)) U m 4)) S∧Fr (fun b=>Xc S b∨b=mb) w w'∧(∀ o x,o≠4→w.cell? ⟨mb,o,none⟩=some x→w'.cell? ⟨mb,o,none⟩=some x):=by
 have hset:=cset_map
 have hml:mb<w.heap.size:=cell_lt (a:=⟨mb,0,none⟩) hm0
 have hcw:=hC.lt
 have hxl:∀ b,Xc S b→b<w.heap.size:=fun b e=>(hC.xlt e).2
 have hml5:m≤1048576:=by have:=liveL_len U Ct M;omega
 go_enter Tryz.func120,Tryz.ntmps120
 go_upto_region 1 with(go_at_call 150;refine(pushing_any mb cb n M aM cc U Ct S _ hC hm0 hm2 hFt ct hM hn hbb m hm).mono ?_;rintro e w1 ⟨rb,rfl,hrb,hR1,hb1⟩;have s4:=keepL hb1 hm4;have g4:=(hb1.frozen (p:=⟨mb,4,none⟩) hml).trans hf4;have hl1:mb<w1.heap.size:=Nat.lt_of_lt_of_le hml hb1.size)
 have hF1:Fr (fun b=>b=mb) w1 (w1.setCell ⟨mb,4,none⟩ (.pointer (some ⟨rb,0,none⟩))):=Fr.setCell (X:=fun b=>b=mb) (p:=⟨mb,4,none⟩) rfl _
 have x4:(w1.setCell ⟨mb,4,none⟩ (.pointer (some ⟨rb,0,none⟩))).cell? ⟨mb,4,none⟩=some (.pointer (some ⟨rb,0,none⟩)):=by rw[cset_map,s4];rfl
 have hoth:∀ o x,o≠4→w.cell? ⟨mb,o,none⟩=some x→(w1.setCell ⟨mb,4,none⟩ (.pointer (some ⟨rb,0,none⟩))).cell? ⟨mb,o,none⟩=some x:=fun o x ho hx=>by
  rw[World.cell?_setCell_other _ (h:=by intro e;cases e;exact ho rfl)]
  exact keepL hb1 hx
 have hC2:=(hC.below hb1).frame hF1 hmc (fun b e q=>hmx (q▸e))
 have hR2:=hR1.fr hF1 (fun b e q=>by have q:b=mb:=q;omega)
 generalize (w1.setCell ⟨mb,4,none⟩ (.pointer (some ⟨rb,0,none⟩)))=w2 at hF1 x4 hC2 hR2 hoth ⊢
 go_wp2_with (go_at_call 151;refine(pushAll_v hR2 hC2 hml5 (by omega) hbb ctl (by omega) (fun b e=>by have:=hxl b e;omega)).mono ?_;rintro e w3 ⟨rfl,hR3,hC3,hF3⟩)
 go_end0
 refine⟨rfl,rb,hrb,hR3,(hF3.cell (p:=⟨mb,4,none⟩) (cell_lt (a:=⟨mb,4,none⟩) x4) (fun e=>e.elim hmx (fun e=>by have e:mb=rb:=e;omega))).trans x4,hC3,?_,fun o x ho hx=>(hF3.cell (p:=⟨mb,o,none⟩) (cell_lt (a:=⟨mb,4,none⟩) x4) (fun e=>e.elim hmx (fun e=>by have e:mb=rb:=e;omega))).trans (hoth o x ho hx)⟩
 have h1:Fr (fun b=>Xc S b∨b=mb) w w2:=(Fr.of_below hb1).trans' hF1 (fun i _ e=> .inr e)
 exact h1.trans' hF3 (fun i hi e=>e.elim .inl (fun e=>by omega))
end Go.Proofs.YthajilkjfkppoaaGreatDoor
