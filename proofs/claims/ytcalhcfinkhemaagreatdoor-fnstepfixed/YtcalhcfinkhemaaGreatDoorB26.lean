/- Texts of a proof. -/
import Derived.Test.YtcalhcfinkhemaaGreatDoorB5
import Derived.Test.YtcalhcfinkhemaaGreatDoorB4
import Derived.Test.YtcalhcfinkhemaaGreatDoorB1
import Derived.Test.YtcalhcfinkhemaaGreatDoorB25
import Derived.Deep.RegionHeld3
import Derived.Deep.DeepCutAuto
import Derived.Test.YtcalhcfinkhemaaGreatDoorB14
import Derived.Test.YtcalhcfinkhemaaGreatDoorB7
import Derived.Laws.EntriesVeiled
import Derived.Test.YtcalhcfinkhemaaGreatDoorB15
import Derived.Test.YtcalhcfinkhemaaGreatDoorB8
import Derived.Test.YtcalhcfinkhemaaGreatDoorB2
set_option maxHeartbeats 16000000
set_option maxRecDepth 20000
namespace Go.Proofs.YtcalhcfinkhemaaGreatDoor
open Go.RowKit
set_option linter.unusedVariables false
set_option linter.unusedSimpArgs false
theorem boxTouchesRound_q (x y g1 h1 u v g2 h2 X Y D:Int) (K:Bool) (w:World) (lg1:1≤g1∧g1≤25600) (lh1:1≤h1∧h1≤25600) (lg2:1≤g2∧g2≤25600) (px: -2560000≤x∧x≤2560000) (py: -2560000≤y∧y≤2560000) (pu: -2560000≤u∧u≤2560000) (pv: -2560000≤v∧v≤2560000) (e:mxT (x-g1) (y-h1) (x+g1) (y+h1) u v g2=((X,Y,D),K)):
 Calls Tryz.prog 171 #[b4 x y g1 h1,b4 u v g2 h2] w fun e w'=>e= .returned (.tuple #[s3 X Y D,.bool K])∧Below w.heap.size w w':=by
 have hset:=cset_map
 have eQ:ptB (x-g1) (y-h1) (x+g1) (y+h1) u v=(leB (x-g1) (y-h1) u v&&leB u v (x+g1) (y+h1)):=by
  unfold ptB leB
  by_cases q:(x-g1≤u∧u≤x+g1)∧(y-h1≤v∧v≤y+h1)
  · rw[decide_eq_true q,decide_eq_true (by omega),decide_eq_true (by omega)];rfl
  · rw[decide_eq_false q]
    by_cases z:x-g1≤u∧y-h1≤v
    · rw[decide_eq_true z,decide_eq_false (by omega)];rfl
    · rw[decide_eq_false z];rfl
 unfold mxT at e
 rw[eQ] at e
 clear eQ
 cases eH:(leB (x-g1) (y-h1) u v&&leB u v (x+g1) (y+h1)) with
 | true=>
   rw[if_pos eH] at e
   have hb:=bsT_bd (s0:=x+g1-u) (s1:=u-(x-g1)) (s2:=y+h1-v) (s3:=v-(y-h1)) (B:=6000000) (by omega) (by omega) (by omega) (by omega)
   obtain⟨⟨P,Q,E⟩,eD⟩:∃ z,bsT (x+g1-u) (u-(x-g1)) (y+h1-v) (v-(y-h1))=z:=⟨_,rfl⟩
   rw[eD] at e hb
   dsimp only at hb
   simp only[Prod.mk.injEq] at e
   obtain⟨⟨eX,eY,eZ⟩,eK⟩:=e
   subst eX
   subst eY
   subst eZ
   subst eK
   have w1:=i64w (n:=E+g2) (by have:=hb.1;have:=hb.2.1;omega)
   clear hb
   go_enter Tryz.func171,Tryz.ntmps171
   go_upto_region 2 with fail
   refine wp_region_held_drew (S:=fun w'=>w'.cell? ⟨w.heap.size,0,none⟩=some (.int .i64 x)∧w'.cell? ⟨w.heap.size,1,none⟩=some (.int .i64 y)∧w'.cell? ⟨w.heap.size,2,none⟩=some (.int .i64 g1)∧w'.cell? ⟨w.heap.size,3,none⟩=some (.int .i64 h1)∧w'.cell? ⟨w.heap.size+1,0,none⟩=some (.int .i64 u)∧w'.cell? ⟨w.heap.size+1,1,none⟩=some (.int .i64 v)∧w'.cell? ⟨w.heap.size+1,2,none⟩=some (.int .i64 g2)∧w'.cell? ⟨w.heap.size+1,3,none⟩=some (.int .i64 h2)∧w'.cell? ⟨w.heap.size+1+1+1,0,none⟩=some (.int .i64 u)∧w'.cell? ⟨w.heap.size+1+1+1,1,none⟩=some (.int .i64 v)∧w'.cell? ⟨w.heap.size+1+1+1,2,none⟩=some (.int .i64 u)∧w'.cell? ⟨w.heap.size+1+1+1,3,none⟩=some (.int .i64 v)) (by kernel_rfl) ?_ (fun hHeld=> ?_)
   · (try dsimp only)
     (first|(go_simp;done)|(go_keep;done))
   refine tq 0 hHeld ?_
   refine tq 2 hHeld ?_
   (refine tc 1 fun K hK=> ?_;go_simp;(go_at_call 184;refine(placedBounds_q _ _ _ _ _ (by omega) (by omega) (by omega) (by omega)).mono ?_;rintro e w1 ⟨rfl,hb1⟩;have hz1:=hb1.size;(try simp only[zz] at hz1);have:=kf4 hb1 w.heap.size);(try go_wp2_with fail);refine tr hK (fun hHeld=> ?_);clear hK K)
   (refine tc 3 fun K hK=> ?_;go_simp;(go_at_call 185;refine(shas_z _ _ _ _ _ _ _ _ _ _ eH).mono ?_;rintro e w2 ⟨rfl,hb2⟩;have hz2:=hb2.size;(try simp only[zz] at hz2);have:=kf4 hb2 w.heap.size);(try go_wp2_with fail);refine tr hK (fun hHeld=> ?_);clear hK K)
   refine wpAnyH_done (by kernel_rfl) ?_ _
   go_upto_region 3 with fail
   go_cut [7] (fun s7 wc=>∃ db:Nat,s7= .pointer (some ⟨db,0,none⟩)∧(wc.cell? ⟨w.heap.size+1,0,none⟩=some (.int .i64 u)∧wc.cell? ⟨w.heap.size+1,1,none⟩=some (.int .i64 v)∧wc.cell? ⟨w.heap.size+1,2,none⟩=some (.int .i64 g2)∧wc.cell? ⟨w.heap.size+1,3,none⟩=some (.int .i64 h2)∧wc.cell? ⟨w.heap.size+1+1,0,none⟩=some (.int .i64 0)∧wc.cell? ⟨w.heap.size+1+1,1,none⟩=some (.int .i64 0)∧wc.cell? ⟨w.heap.size+1+1,2,none⟩=some (.int .i64 0)∧wc.cell? ⟨db,0,none⟩=some (.int .i64 P)∧wc.cell? ⟨db,1,none⟩=some (.int .i64 Q)∧wc.cell? ⟨db,2,none⟩=some (.int .i64 E))∧(wc.frozen? ⟨w.heap.size+1+1,0,none⟩=false∧wc.frozen? ⟨w.heap.size+1+1,1,none⟩=false∧wc.frozen? ⟨w.heap.size+1+1,2,none⟩=false∧wc.frozen? ⟨db,0,none⟩=false∧wc.frozen? ⟨db,1,none⟩=false∧wc.frozen? ⟨db,2,none⟩=false)∧(w.heap.size+1+1<db∧db<wc.heap.size)∧Below w.heap.size w wc)
   case first=>
    refine wp_region_held_drew (S:=fun w'=>w'.cell? ⟨w.heap.size,0,none⟩=some (.int .i64 x)∧w'.cell? ⟨w.heap.size,1,none⟩=some (.int .i64 y)∧w'.cell? ⟨w.heap.size,2,none⟩=some (.int .i64 g1)∧w'.cell? ⟨w.heap.size,3,none⟩=some (.int .i64 h1)∧w'.cell? ⟨w.heap.size+1,0,none⟩=some (.int .i64 u)∧w'.cell? ⟨w.heap.size+1,1,none⟩=some (.int .i64 v)∧w'.cell? ⟨w.heap.size+1,2,none⟩=some (.int .i64 g2)∧w'.cell? ⟨w.heap.size+1,3,none⟩=some (.int .i64 h2)∧w'.cell? ⟨w.heap.size+1+1+1,0,none⟩=some (.int .i64 u)∧w'.cell? ⟨w.heap.size+1+1+1,1,none⟩=some (.int .i64 v)∧w'.cell? ⟨w.heap.size+1+1+1,2,none⟩=some (.int .i64 u)∧w'.cell? ⟨w.heap.size+1+1+1,3,none⟩=some (.int .i64 v)) (by kernel_rfl) ?_ (fun hHeld=> ?_)
    · (try dsimp only)
      (first|(go_simp;done)|(go_keep;done))
    refine tq 0 hHeld ?_
    refine tq 2 hHeld ?_
    repeat' first
     |(replace hK:=hK;go_simp;(first|((go_at_call 184;refine(placedBounds_q _ _ _ _ _ (by omega) (by omega) (by omega) (by omega)).mono ?_;rintro e w3 ⟨rfl,hb3⟩;obtain⟨hc3,hf3⟩:=bcell hb3;have hz3:=hb3.size;(try simp only[zz] at hc3 hf3 hz3);have:=kf4 hb3 w.heap.size;(try have q:=kfy hc3 hf3 hz3 (w.heap.size+1+1+1+1) (by omega);obtain⟨hk3y0,hj3y0,hq3y0,hr3y0,ht3y0⟩:=q);(try have q:=kfy hc3 hf3 hz3 (w2.heap.size) (by omega);obtain⟨hk3y1,hj3y1,hq3y1,hr3y1,ht3y1⟩:=q);clear hc3 hf3);(try go_wp2_with fail))|((go_at_call 186;refine(spanDent_q _ _ _ _ _ _ _ _ P Q E _ (by omega) (by omega) (by omega) (by omega) (by omega) (by omega) (by omega) (by omega) eD).mono ?_;rintro e w4 ⟨rfl,hb4⟩;obtain⟨hc4,hf4⟩:=bcell hb4;have hz4:=hb4.size;(try simp only[zz] at hc4 hf4 hz4);have:=kf4 hb4 w.heap.size;(try have q:=kfy hc4 hf4 hz4 (w.heap.size+1+1+1+1) (by omega);obtain⟨hk4y0,hj4y0,hq4y0,hr4y0,ht4y0⟩:=q);(try have q:=kfy hc4 hf4 hz4 (w2.heap.size) (by omega);obtain⟨hk4y1,hj4y1,hq4y1,hr4y1,ht4y1⟩:=q);(try have q:=kfy hc4 hf4 hz4 (w3.heap.size) (by omega);obtain⟨hk4y2,hj4y2,hq4y2,hr4y2,ht4y2⟩:=q);clear hc4 hf4);(try go_wp2_with fail))|skip);refine tr hK (fun hHeld=> ?_);clear hK K)
     |refine tc 1 (hr:=by decide+kernel) fun K hK=> ?_
     |refine tc 3 (hr:=by decide+kernel) fun K hK=> ?_
     |refine tc 4 (hr:=by decide+kernel) fun K hK=> ?_
     |refine tc 5 (hr:=by decide+kernel) fun K hK=> ?_
     |(refine wpAnyH_ready (rs:=[1,4]) (by decide+kernel) (by simp) ?_;refine AllReadyH.cons rfl (fun K hK=> ?_) (AllReadyH.cons rfl (fun K hK=> ?_) AllReadyH.nil))
     |(refine wpAnyH_ready (rs:=[3,4]) (by decide+kernel) (by simp) ?_;refine AllReadyH.cons rfl (fun K hK=> ?_) (AllReadyH.cons rfl (fun K hK=> ?_) AllReadyH.nil))
     | (refine wpAnyH_done (by decide+kernel) ?_ _
        go_wp2_with fail
        go_meet
        exact⟨_,rfl,⟨(by go_simp),(by go_simp),(by go_simp),(by go_simp),(by go_simp),(by go_simp),(by go_simp),(by go_simp),(by go_simp),(by go_simp)⟩,⟨(by go_simp),(by go_simp),(by go_simp),(by go_simp),(by go_simp),(by go_simp)⟩,⟨(by first|omega|(simp;omega)),(by first|omega|(simp;omega)|simp)⟩,bel_a⟩)
   case rest=>
   obtain⟨db,rfl,⟨r0,r1,r2,r3,r4,r5,r6,r7,r8,r9⟩,⟨f0,f1,f2,f3,f4,f5⟩,⟨l1,l2⟩,hbw⟩:=hcut
   have n1:(w.heap.size+1=db)=False:=eq_false (by omega)
   have n2:(db=w.heap.size+1)=False:=eq_false (by omega)
   have n3:(w.heap.size+1+1=db)=False:=eq_false (by omega)
   have n4:(db=w.heap.size+1+1)=False:=eq_false (by omega)
   have l3:w.heap.size+1<wc.heap.size:=by omega
   have l4:w.heap.size+1+1<wc.heap.size:=by omega
   go_upto_region 4 with fail
   refine wp_region_held_drew (S:=fun w'=>w'.cell? ⟨w.heap.size+1,0,none⟩=some (.int .i64 u)∧w'.cell? ⟨w.heap.size+1,1,none⟩=some (.int .i64 v)∧w'.cell? ⟨w.heap.size+1,2,none⟩=some (.int .i64 g2)∧w'.cell? ⟨w.heap.size+1,3,none⟩=some (.int .i64 h2)) (by kernel_rfl) ?_ (fun hHeld=> ?_)
   · (try dsimp only)
     (first|(go_simp;done)|(go_keep;done))
   refine tq 0 hHeld ?_
   refine tq 2 hHeld ?_
   repeat' first
    |(replace hK:=hK;go_simp;(first|((go_at_call 182;refine(placedWide_q _ _ _ _ _).mono ?_;rintro e w5 ⟨rfl,hb5⟩;have hz5:=hb5.size;(try simp only[zz] at hz5);have:=kf2 hb5 (w.heap.size+1);have:=kfa hb5 db);(try go_wp2_with fail))|skip);refine tr hK (fun hHeld=> ?_);clear hK K)
    |refine tc 1 (hr:=by decide+kernel) fun K hK=> ?_
    |refine tc 3 (hr:=by decide+kernel) fun K hK=> ?_
    |refine tc 6 (hr:=by decide+kernel) fun K hK=> ?_
    |refine tq 4 hHeld ?_ (hc:=by decide+kernel)
    |refine tq 5 hHeld ?_ (hc:=by decide+kernel)
    |(refine wpAnyH_ready (rs:=[1,3]) (by decide+kernel) (by simp) ?_;refine AllReadyH.cons rfl (fun K hK=> ?_) (AllReadyH.cons rfl (fun K hK=> ?_) AllReadyH.nil))
    | (refine wpAnyH_done (by decide+kernel) ?_ _
       go_wp2_with fail
       exact bodyPost_ret (v:= .tuple #[s3 P Q (E+g2),.bool true]) (by simp[results,Tryz.results171,go_sem, *]) rfl ⟨rfl,bel_a⟩)
 | false=>
   rw[if_neg (by simp[eH])] at e
   have n1:=near_in (a:=x-g1) (c:=x+g1) (x:=u) (B:=3000000) (by omega) (by omega) (by omega)
   have n2:=near_in (a:=y-h1) (c:=y+h1) (x:=v) (B:=3000000) (by omega) (by omega) (by omega)
   obtain⟨nx,eN1⟩:∃ z,mn (mx u (x-g1)) (x+g1)=z:=⟨_,rfl⟩
   obtain⟨ny,eN2⟩:∃ z,mn (mx v (y-h1)) (y+h1)=z:=⟨_,rfl⟩
   rw[eN1] at e n1
   rw[eN2] at e n2
   go_enter Tryz.func171,Tryz.ntmps171
   go_upto_region 2 with fail
   refine wp_region_held_drew (S:=fun w'=>w'.cell? ⟨w.heap.size,0,none⟩=some (.int .i64 x)∧w'.cell? ⟨w.heap.size,1,none⟩=some (.int .i64 y)∧w'.cell? ⟨w.heap.size,2,none⟩=some (.int .i64 g1)∧w'.cell? ⟨w.heap.size,3,none⟩=some (.int .i64 h1)∧w'.cell? ⟨w.heap.size+1,0,none⟩=some (.int .i64 u)∧w'.cell? ⟨w.heap.size+1,1,none⟩=some (.int .i64 v)∧w'.cell? ⟨w.heap.size+1,2,none⟩=some (.int .i64 g2)∧w'.cell? ⟨w.heap.size+1,3,none⟩=some (.int .i64 h2)∧w'.cell? ⟨w.heap.size+1+1+1,0,none⟩=some (.int .i64 u)∧w'.cell? ⟨w.heap.size+1+1+1,1,none⟩=some (.int .i64 v)∧w'.cell? ⟨w.heap.size+1+1+1,2,none⟩=some (.int .i64 u)∧w'.cell? ⟨w.heap.size+1+1+1,3,none⟩=some (.int .i64 v)) (by kernel_rfl) ?_ (fun hHeld=> ?_)
   · (try dsimp only)
     (first|(go_simp;done)|(go_keep;done))
   refine tq 0 hHeld ?_
   refine tq 2 hHeld ?_
   (refine tc 1 fun K hK=> ?_;go_simp;(go_at_call 184;refine(placedBounds_q _ _ _ _ _ (by omega) (by omega) (by omega) (by omega)).mono ?_;rintro e w1 ⟨rfl,hb1⟩;have hz1:=hb1.size;(try simp only[zz] at hz1);have:=kf4 hb1 w.heap.size);(try go_wp2_with fail);refine tr hK (fun hHeld=> ?_);clear hK K)
   (refine tc 3 fun K hK=> ?_;go_simp;(go_at_call 185;refine(shas_z _ _ _ _ _ _ _ _ _ _ eH).mono ?_;rintro e w2 ⟨rfl,hb2⟩;have hz2:=hb2.size;(try simp only[zz] at hz2);have:=kf4 hb2 w.heap.size);(try go_wp2_with fail);refine tr hK (fun hHeld=> ?_);clear hK K)
   refine wpAnyH_done (by kernel_rfl) ?_ _
   go_upto_region 6 with fail
   refine wp_region_held_drew (S:=fun w'=>w'.cell? ⟨w.heap.size,0,none⟩=some (.int .i64 x)∧w'.cell? ⟨w.heap.size,1,none⟩=some (.int .i64 y)∧w'.cell? ⟨w.heap.size,2,none⟩=some (.int .i64 g1)∧w'.cell? ⟨w.heap.size,3,none⟩=some (.int .i64 h1)∧w'.cell? ⟨w.heap.size+1,0,none⟩=some (.int .i64 u)∧w'.cell? ⟨w.heap.size+1,1,none⟩=some (.int .i64 v)∧w'.cell? ⟨w.heap.size+1,2,none⟩=some (.int .i64 g2)∧w'.cell? ⟨w.heap.size+1,3,none⟩=some (.int .i64 h2)∧w'.cell? ⟨w.heap.size+1+1+1,0,none⟩=some (.int .i64 u)∧w'.cell? ⟨w.heap.size+1+1+1,1,none⟩=some (.int .i64 v)∧w'.cell? ⟨w.heap.size+1+1+1,2,none⟩=some (.int .i64 u)∧w'.cell? ⟨w.heap.size+1+1+1,3,none⟩=some (.int .i64 v)) (by kernel_rfl) ?_ (fun hHeld=> ?_)
   · (try dsimp only)
     (first|(go_simp;done)|(go_keep;done))
   refine tq 0 hHeld ?_
   refine tq 1 hHeld ?_
   refine tq 2 hHeld ?_
   refine tq 4 hHeld ?_
   refine tq 5 hHeld ?_
   refine tq 8 hHeld ?_
   (refine tc 3 fun K hK=> ?_;go_simp;(go_at_call 184;refine(placedBounds_q _ _ _ _ _ (by omega) (by omega) (by omega) (by omega)).mono ?_;rintro e w3 ⟨rfl,hb3⟩;have hz3:=hb3.size;(try simp only[zz] at hz3);have:=kf4 hb3 w.heap.size);(try go_wp2_with fail);refine tr hK (fun hHeld=> ?_);clear hK K)
   (refine tc 6 fun K hK=> ?_;go_simp;(go_at_call 187;refine(snear_z _ _ _ _ _ _ _ _ _ eN1 eN2).mono ?_;rintro e w4 ⟨rfl,hb4⟩;have hz4:=hb4.size;(try simp only[zz] at hz4);have:=kf4 hb4 w.heap.size);(try go_wp2_with fail);refine tr hK (fun hHeld=> ?_);clear hK K)
   (refine tc 7 fun K hK=> ?_;go_simp;(go_at_call 143;refine(less_any _ _ _ _ _ (by omega) (by omega) (by omega) (by omega)).mono ?_;rintro e w5 ⟨rfl,hb5⟩;have hz5:=hb5.size;(try simp only[zz] at hz5);have:=kf4 hb5 w.heap.size);(try go_wp2_with fail);refine tr hK (fun hHeld=> ?_);clear hK K)
   (refine tc 9 fun K hK=> ?_;go_simp;(go_at_call 182;refine(placedWide_q _ _ _ _ _).mono ?_;rintro e w6 ⟨rfl,hb6⟩;have hz6:=hb6.size;(try simp only[zz] at hz6);have:=kf4 hb6 w.heap.size);(try go_wp2_with fail);refine tr hK (fun hHeld=> ?_);clear hK K)
   (refine tc 10 fun K hK=> ?_;go_simp;(go_at_call 181;refine(roundDent_q _ _ _ X Y D _ _ (by omega) (by omega) (by omega) e).mono ?_;rintro e w7 ⟨rfl,hb7⟩;have hz7:=hb7.size;(try simp only[zz] at hz7);have:=kf4 hb7 w.heap.size);(try go_wp2_with fail);refine tr hK (fun hHeld=> ?_);clear hK K)
   refine tq 11 hHeld ?_
   refine tq 12 hHeld ?_
   (refine tc 13 fun K hK=> ?_;go_simp;refine tr hK (fun hHeld=> ?_);clear hK K)
   refine tq 14 hHeld ?_
   refine wpAnyH_done (by kernel_rfl) ?_ _
   go_wp2_with fail
   exact bodyPost_ret (v:= .tuple #[s3 X Y D,.bool K]) (by simp[results,Tryz.results171,go_sem, *]) rfl ⟨rfl,bel_a⟩
theorem mxT_no {a b c d x y g P Q E:Int} (e:mxT a b c d x y g=((P,Q,E),false)):P=0∧Q=0∧E=0:=by
 unfold mxT at e
 split at e
 · simp only[Prod.mk.injEq] at e;exact absurd e.2 (by decide)
 · unfold rdT at e
   split at e
   · simp only[Prod.mk.injEq] at e;exact absurd e.2 (by decide)
   · simp only[Prod.mk.injEq] at e;omega
theorem roundTouchesBox_q (x y g1 h1 u v g2 h2 X Y D:Int) (K:Bool) (w:World) (lg1:1≤g1∧g1≤25600) (lg2:1≤g2∧g2≤25600) (lh2:1≤h2∧h2≤25600) (px: -2560000≤x∧x≤2560000) (py: -2560000≤y∧y≤2560000) (pu: -2560000≤u∧u≤2560000) (pv: -2560000≤v∧v≤2560000) (e:tnT (mxT (u-g2) (v-h2) (u+g2) (v+h2) x y g1)=((X,Y,D),K)):
 Calls Tryz.prog 170 #[b4 x y g1 h1,b4 u v g2 h2] w fun e w'=>e= .returned (.tuple #[s3 X Y D,.bool K])∧Below w.heap.size w w':=by
 have hset:=cset_map
 obtain⟨⟨⟨P,Q,E⟩,Z⟩,eM⟩:∃ z,mxT (u-g2) (v-h2) (u+g2) (v+h2) x y g1=z:=⟨_,rfl⟩
 obtain⟨hP,hQ⟩:=mxT_bd (by omega) (by omega) (by omega) (by omega) (by omega) (by omega) eM
 rw[eM] at e
 unfold tnT at e
 cases Z with
 | true=>
   simp only[if_true,Prod.mk.injEq] at e
   obtain⟨⟨eX,eY,eD⟩,eK⟩:=e
   subst eX
   subst eY
   subst eD
   subst eK
   go_enter Tryz.func170,Tryz.ntmps170
   go_wp2_with (first
   |(go_at_call 183;refine(dentTurned_q _ _ _ _ (by omega) (by omega)).mono ?_;rintro e w2 ⟨rfl,hb2⟩;have hz2:=hb2.size;(try simp only[zz] at hz2);have:=kf3 hb2 w.heap.size)
   |(go_at_call 171;refine(boxTouchesRound_q _ _ _ _ _ _ _ _ P Q E true _ (by omega) (by omega) (by omega) (by omega) (by omega) (by omega) (by omega) eM).mono ?_;rintro e w1 ⟨rfl,hb1⟩;have hz1:=hb1.size;(try simp only[zz] at hz1);have:=kf3 hb1 w.heap.size))
   exact bodyPost_ret (v:= .tuple #[s3 (-P) (-Q) E,.bool true]) (by simp[results,Tryz.results170,go_sem, *]) rfl ⟨rfl,bel_a⟩
 | false=>
   rw[if_neg (by simp)] at e
   simp only[Prod.mk.injEq] at e
   obtain⟨⟨eX,eY,eD⟩,eK⟩:=e
   subst eX
   subst eY
   subst eD
   subst eK
   obtain⟨z1,z2,z3⟩:=mxT_no eM
   subst z1
   subst z2
   subst z3
   go_enter Tryz.func170,Tryz.ntmps170
   go_wp2_with (first
   |(go_at_call 183;refine(dentTurned_q _ _ _ _ (by omega) (by omega)).mono ?_;rintro e w2 ⟨rfl,hb2⟩;have hz2:=hb2.size;(try simp only[zz] at hz2);have:=kf3 hb2 w.heap.size)
   |(go_at_call 171;refine(boxTouchesRound_q _ _ _ _ _ _ _ _ 0 0 0 false _ (by omega) (by omega) (by omega) (by omega) (by omega) (by omega) (by omega) eM).mono ?_;rintro e w1 ⟨rfl,hb1⟩;have hz1:=hb1.size;(try simp only[zz] at hz1);have:=kf3 hb1 w.heap.size))
   exact bodyPost_ret (v:= .tuple #[s3 0 0 0,.bool false]) (by simp[results,Tryz.results170,go_sem, *]) rfl ⟨rfl,bel_a⟩
theorem isPlace_z (x y:Int) (b:Bool) (w:World) (e:inB 2560000 x y=b):Calls Tryz.prog 167 #[vv x y] w fun e w'=>e= .returned (.bool b)∧Below w.heap.size w w':=by
 subst e;exact isPlace_any x y w
theorem placedOf_r (g x y:Int) (w:World) (lg:1≤g∧g≤25600) (p1:inB 2560000 x y=true):
 Calls Tryz.prog 156 #[s3 1 g 0,vv x y] w fun e w'=>e= .returned (.tuple #[b4 x y g g,.bool true])∧Below w.heap.size w w':=by
 have hset:=cset_map
 go_enter Tryz.func156,Tryz.ntmps156
 go_wp2_with (first
  |(go_at_call 114;refine(figureOf_round _ _ (by omega) (by omega)).mono ?_;rintro e w1 ⟨rfl,hb1⟩;have hz1:=hb1.size;(try simp only[zz] at hz1);have:=kf3 hb1 w.heap.size)
  |(go_at_call 167;refine(isPlace_z x y _ _ p1).mono ?_;rintro e w2 ⟨rfl,hb2⟩;have hz2:=hb2.size;(try simp only[zz] at hz2);have:=kf3 hb2 w.heap.size)
  |(go_at_call 168;refine(wayOf_any _ _ _).mono ?_;rintro e w3 ⟨rfl,hb3⟩;have hz3:=hb3.size;(try simp only[zz] at hz3);have:=kf3 hb3 w.heap.size)
  |(go_at_call 239;refine(reach_r _ _).mono ?_;rintro e w4 ⟨rfl,hb4⟩;have hz4:=hb4.size;(try simp only[zz] at hz4);have:=kf3 hb4 w.heap.size))
 exact bodyPost_ret (v:= .tuple #[b4 x y g g,.bool true]) (by simp[results,Tryz.results156,go_sem, *]) rfl ⟨rfl,bel_a⟩
theorem placedOf_b (g h x y:Int) (w:World) (lg:1≤g∧g≤25600) (lh:1≤h∧h≤25600) (p1:inB 2560000 x y=true):
 Calls Tryz.prog 156 #[s3 2 g h,vv x y] w fun e w'=>e= .returned (.tuple #[b4 x y g h,.bool true])∧Below w.heap.size w w':=by
 have hset:=cset_map
 go_enter Tryz.func156,Tryz.ntmps156
 go_wp2_with (first
  |(go_at_call 114;refine(figureOf_box _ _ _ (by omega) (by omega) (by omega) (by omega)).mono ?_;rintro e w1 ⟨rfl,hb1⟩;have hz1:=hb1.size;(try simp only[zz] at hz1);have:=kf3 hb1 w.heap.size)
  |(go_at_call 167;refine(isPlace_z x y _ _ p1).mono ?_;rintro e w2 ⟨rfl,hb2⟩;have hz2:=hb2.size;(try simp only[zz] at hz2);have:=kf3 hb2 w.heap.size)
  |(go_at_call 168;refine(wayOf_any _ _ _).mono ?_;rintro e w3 ⟨rfl,hb3⟩;have hz3:=hb3.size;(try simp only[zz] at hz3);have:=kf3 hb3 w.heap.size)
  |(go_at_call 240;refine(reach_b _ _ _).mono ?_;rintro e w4 ⟨rfl,hb4⟩;have hz4:=hb4.size;(try simp only[zz] at hz4);have:=kf3 hb4 w.heap.size))
 exact bodyPost_ret (v:= .tuple #[b4 x y g h,.bool true]) (by simp[results,Tryz.results156,go_sem, *]) rfl ⟨rfl,bel_a⟩
theorem placedOf_n (k g h x y:Int) (w:World) (sh:shB k g h=false):
 Calls Tryz.prog 156 #[s3 k g h,vv x y] w fun e w'=>e= .returned (.tuple #[b4 0 0 0 0,.bool false])∧Below w.heap.size w w':=by
 have hset:=cset_map
 go_enter Tryz.func156,Tryz.ntmps156
 go_wp2_with (go_at_call 114;refine(figureOf_none k g h _ sh).mono ?_;rintro e w1 ⟨rfl,hb1⟩;have hz1:=hb1.size;(try simp only[zz] at hz1);have:=kf3 hb1 w.heap.size)
 exact bodyPost_ret (v:= .tuple #[b4 0 0 0 0,.bool false]) (by simp[results,Tryz.results156,go_sem, *]) rfl ⟨rfl,bel_a⟩
theorem placedOf_p (k g h x y:Int) (w:World) (sh:shB k g h=true) (p1:inB 2560000 x y=false):
 Calls Tryz.prog 156 #[s3 k g h,vv x y] w fun e w'=>e= .returned (.tuple #[b4 0 0 0 0,.bool false])∧Below w.heap.size w w':=by
 have hset:=cset_map
 rcases shB_kinds sh with⟨rfl,rfl,a0,a1⟩|⟨rfl,a0,a1,a2,a3⟩
 · go_enter Tryz.func156,Tryz.ntmps156
   go_wp2_with (first
   |(go_at_call 114;refine(figureOf_round _ _ (by omega) (by omega)).mono ?_;rintro e w1 ⟨rfl,hb1⟩;have hz1:=hb1.size;(try simp only[zz] at hz1);have:=kf3 hb1 w.heap.size)
   |(go_at_call 167;refine(isPlace_z x y _ _ p1).mono ?_;rintro e w2 ⟨rfl,hb2⟩;have hz2:=hb2.size;(try simp only[zz] at hz2);have:=kf3 hb2 w.heap.size))
   exact bodyPost_ret (v:= .tuple #[b4 0 0 0 0,.bool false]) (by simp[results,Tryz.results156,go_sem, *]) rfl ⟨rfl,bel_a⟩
 · go_enter Tryz.func156,Tryz.ntmps156
   go_wp2_with (first
   |(go_at_call 114;refine(figureOf_box _ _ _ (by omega) (by omega) (by omega) (by omega)).mono ?_;rintro e w1 ⟨rfl,hb1⟩;have hz1:=hb1.size;(try simp only[zz] at hz1);have:=kf3 hb1 w.heap.size)
   |(go_at_call 167;refine(isPlace_z x y _ _ p1).mono ?_;rintro e w2 ⟨rfl,hb2⟩;have hz2:=hb2.size;(try simp only[zz] at hz2);have:=kf3 hb2 w.heap.size))
   exact bodyPost_ret (v:= .tuple #[b4 0 0 0 0,.bool false]) (by simp[results,Tryz.results156,go_sem, *]) rfl ⟨rfl,bel_a⟩
theorem toucherOf_rr (w:World):Calls Tryz.prog 157 #[.int .i64 1,.int .i64 1] w fun e w'=>e= .returned (.func (.func 169) #[] #[])∧Below w.heap.size w w':=by
 have hset:=cset_map
 go_enter Tryz.func157,Tryz.ntmps157
 go_wp2_with fail
 go_ret
 exact⟨rfl,bel_a⟩
theorem toucherOf_rb (w:World):Calls Tryz.prog 157 #[.int .i64 1,.int .i64 2] w fun e w'=>e= .returned (.func (.func 170) #[] #[])∧Below w.heap.size w w':=by
 have hset:=cset_map
 go_enter Tryz.func157,Tryz.ntmps157
 go_wp2_with fail
 go_ret
 exact⟨rfl,bel_a⟩
theorem toucherOf_br (w:World):Calls Tryz.prog 157 #[.int .i64 2,.int .i64 1] w fun e w'=>e= .returned (.func (.func 171) #[] #[])∧Below w.heap.size w w':=by
 have hset:=cset_map
 go_enter Tryz.func157,Tryz.ntmps157
 go_wp2_with fail
 go_ret
 exact⟨rfl,bel_a⟩
theorem toucherOf_bb (w:World):Calls Tryz.prog 157 #[.int .i64 2,.int .i64 2] w fun e w'=>e= .returned (.func (.func 172) #[] #[])∧Below w.heap.size w w':=by
 have hset:=cset_map
 go_enter Tryz.func157,Tryz.ntmps157
 go_wp2_with fail
 go_ret
 exact⟨rfl,bel_a⟩
def plZ (k g h x y:Int):Bool:=shB k g h&&inB 2560000 x y
theorem placedOf_any (k g h x y:Int) (w:World):Calls Tryz.prog 156 #[s3 k g h,vv x y] w fun e w'=>∃ A B C D:Int,e= .returned (.tuple #[b4 A B C D,.bool (plZ k g h x y)])∧Below w.heap.size w w':=by
 unfold plZ
 cases sh:shB k g h with
 |false=>exact(placedOf_n k g h x y w sh).mono fun e w' ⟨h1,h2⟩=>⟨0,0,0,0,h1,h2⟩
 | true=>
   cases p1:inB 2560000 x y with
   |false=>exact(placedOf_p k g h x y w sh p1).mono fun e w' ⟨h1,h2⟩=>⟨0,0,0,0,h1,h2⟩
   | true=>
     rcases shB_kinds sh with⟨rfl,rfl,a0,a1⟩|⟨rfl,a0,a1,a2,a3⟩
     · exact(placedOf_r g x y w ⟨a0,a1⟩ p1).mono fun e w' ⟨h1,h2⟩=>⟨_,_,_,_,h1,h2⟩
     · exact(placedOf_b g h x y w ⟨a0,a1⟩ ⟨a2,a3⟩ p1).mono fun e w' ⟨h1,h2⟩=>⟨_,_,_,_,h1,h2⟩
theorem touch_g (F:Nat) (k1 g1 h1 q1 k2 g2 h2 q2 x y u v X Y D:Int) (J:Bool) (w:World)
 (c1:∀ w,Calls Tryz.prog 156 #[s3 k1 g1 h1,vv x y] w fun e w'=>e= .returned (.tuple #[b4 x y g1 q1,.bool true])∧Below w.heap.size w w')
 (c2:∀ w,Calls Tryz.prog 156 #[s3 k2 g2 h2,vv u v] w fun e w'=>e= .returned (.tuple #[b4 u v g2 q2,.bool true])∧Below w.heap.size w w')
 (c3:∀ w,Calls Tryz.prog 157 #[.int .i64 k1,.int .i64 k2] w fun e w'=>e= .returned (.func (.func F) #[] #[])∧Below w.heap.size w w')
 (hF:F=169∨F=170∨F=171∨F=172)
 (c4:∀ w,Calls Tryz.prog F #[b4 x y g1 q1,b4 u v g2 q2] w fun e w'=>e= .returned (.tuple #[s3 X Y D,.bool J])∧Below w.heap.size w w'):
 Calls Tryz.prog 139 #[s3 k1 g1 h1,vv x y,s3 k2 g2 h2,vv u v] w fun e w'=>e= .returned (.tuple #[s3 X Y D,.bool J])∧Below w.heap.size w w':=by
 have hset:=cset_map
 rcases hF with rfl|rfl|rfl|rfl
 all_goals
  go_enter Tryz.func139,Tryz.ntmps139
  go_upto_region 5 with(first
   |(have _:=hb1;go_at_call 156;refine(c2 _).mono ?_;rintro e w2 ⟨rfl,hb2⟩;have hz2:=hb2.size;(try simp only[zz] at hz2);have:=kf5 hb2 w.heap.size;have:=kfa hb2 w1.heap.size)
   |(go_at_call 156;refine(c1 _).mono ?_;rintro e w1 ⟨rfl,hb1⟩;have hz1:=hb1.size;(try simp only[zz] at hz1);have:=kf5 hb1 w.heap.size))
  refine wp_region_held_drew (S:=fun w'=>w'.cell? ⟨w.heap.size,0,none⟩=some (.int .i64 k1)∧w'.cell? ⟨w.heap.size+1+1,0,none⟩=some (.int .i64 k2)∧w'.cell? ⟨w1.heap.size,0,none⟩=some (.int .i64 x)∧w'.cell? ⟨w1.heap.size,1,none⟩=some (.int .i64 y)∧w'.cell? ⟨w1.heap.size,2,none⟩=some (.int .i64 g1)∧w'.cell? ⟨w1.heap.size,3,none⟩=some (.int .i64 q1)∧w'.cell? ⟨w2.heap.size,0,none⟩=some (.int .i64 u)∧w'.cell? ⟨w2.heap.size,1,none⟩=some (.int .i64 v)∧w'.cell? ⟨w2.heap.size,2,none⟩=some (.int .i64 g2)∧w'.cell? ⟨w2.heap.size,3,none⟩=some (.int .i64 q2)) (by kernel_rfl) ?_ (fun hHeld=> ?_)
  · (try dsimp only)
    (first|(go_simp;done)|(go_keep;done))
  refine tq 0 hHeld ?_
  refine tq 1 hHeld ?_
  refine tq 2 hHeld ?_
  refine tq 3 hHeld ?_
  refine tq 5 hHeld ?_
  refine tq 6 hHeld ?_
  refine wpAnyH_ready (rs:=[4,11]) (by kernel_rfl) (by simp) ?_
  refine AllReadyH.cons rfl (fun K hK=> ?_) (AllReadyH.cons rfl (fun K hK=> ?_) AllReadyH.nil)
  rotate_left
  (go_simp;refine tr hK (fun hHeld=> ?_);clear hK K;refine tc 4 fun K hK=> ?_)
  rotate_left
  all_goals
   (go_simp;(go_at_call 157;refine(c3 _).mono ?_;rintro e w3 ⟨rfl,hb3⟩;obtain⟨hc3,hf3⟩:=bcell hb3;have hz3:=hb3.size;(try simp only[zz] at hc3 hf3 hz3);have:=kf5 hb3 w.heap.size;have:=kfa hb3 w1.heap.size;have:=kfa hb3 w2.heap.size;(try have q:=kfy hc3 hf3 hz3 (w2.heap.size+1) (by omega);obtain⟨hk3y0,hj3y0,hq3y0,hr3y0,ht3y0⟩:=q);clear hc3 hf3);(try go_wp2_with fail);refine tr hK (fun hHeld=> ?_);clear hK K)
  rotate_left
  refine tc 7 fun K hK=> ?_
  rotate_left
  refine wpAnyH_ready (rs:=[7,11]) (by kernel_rfl) (by simp) ?_
  refine AllReadyH.cons rfl (fun K hK=> ?_) (AllReadyH.cons rfl (fun K hK=> ?_) AllReadyH.nil)
  rotate_left
  (go_simp;refine tr hK (fun hHeld=> ?_);clear hK K;refine tc 7 fun K hK=> ?_)
  all_goals
   (go_simp;(refine(c4 _).mono ?_;rintro e w4 ⟨rfl,hb4⟩;obtain⟨hc4,hf4⟩:=bcell hb4;have hz4:=hb4.size;(try simp only[zz] at hc4 hf4 hz4);have:=kf5 hb4 w.heap.size;have:=kfa hb4 w1.heap.size;have:=kfa hb4 w2.heap.size;(try have q:=kfy hc4 hf4 hz4 (w2.heap.size+1) (by omega);obtain⟨hk4y0,hj4y0,hq4y0,hr4y0,ht4y0⟩:=q);(try have q:=kfy hc4 hf4 hz4 (w3.heap.size) (by omega);obtain⟨hk4y1,hj4y1,hq4y1,hr4y1,ht4y1⟩:=q);clear hc4 hf4);(try go_wp2_with fail);refine tr hK (fun hHeld=> ?_);clear hK K)
   refine tq 8 hHeld ?_
   refine tq 9 hHeld ?_
   refine tq 10 hHeld ?_
  rotate_left
  rotate_left
  (refine tc 11 fun K hK=> ?_;go_simp;refine tr hK (fun hHeld=> ?_);clear hK K)
  all_goals
   (refine tc 12 fun K hK=> ?_;go_simp;refine tr hK (fun hHeld=> ?_);clear hK K)
   refine tq 13 hHeld ?_
   refine wpAnyH_done (by kernel_rfl) ?_ _
   go_wp2_with (go_at_call 158;refine(dentHit_q _ _ _ _).mono ?_;rintro e w5 ⟨rfl,hb5⟩;obtain⟨hc5,hf5⟩:=bcell hb5;have hz5:=hb5.size;(try simp only[zz] at hc5 hf5 hz5);have:=kf5 hb5 w.heap.size;(try have q:=kfy hc5 hf5 hz5 (w2.heap.size+1) (by omega);obtain⟨hk5y0,hj5y0,hq5y0,hr5y0,ht5y0⟩:=q);(try have q:=kfy hc5 hf5 hz5 (w3.heap.size) (by omega);obtain⟨hk5y1,hj5y1,hq5y1,hr5y1,ht5y1⟩:=q);(try have q:=kfy hc5 hf5 hz5 (w4.heap.size) (by omega);obtain⟨hk5y2,hj5y2,hq5y2,hr5y2,ht5y2⟩:=q);clear hc5 hf5)
   exact bodyPost_ret (v:= .tuple #[s3 X Y D,.bool J]) (by simp[results,Tryz.results139,go_sem, *]) rfl ⟨rfl,bel_a⟩
theorem placedOf_z (k g h x y:Int) (b:Bool) (w:World) (e:plZ k g h x y=b):Calls Tryz.prog 156 #[s3 k g h,vv x y] w fun e w'=>∃ A B C D:Int,e= .returned (.tuple #[b4 A B C D,.bool b])∧Below w.heap.size w w':=by
 subst e;exact placedOf_any k g h x y w
theorem touch_z (k1 g1 h1 x y k2 g2 h2 u v:Int) (w:World) (hz:(plZ k1 g1 h1 x y&&plZ k2 g2 h2 u v)=false):
 Calls Tryz.prog 139 #[s3 k1 g1 h1,vv x y,s3 k2 g2 h2,vv u v] w fun e w'=>e= .returned (.tuple #[s3 0 0 0,.bool false])∧Below w.heap.size w w':=by
 have hset:=cset_map
 cases a1:plZ k1 g1 h1 x y with
 | false=>
   cases a2:plZ k2 g2 h2 u v with
   | false=>
     clear hz
     go_enter Tryz.func139,Tryz.ntmps139
     go_wp2_with (first
      |(have _:=hb1;go_at_call 156;refine(placedOf_z k2 g2 h2 u v _ _ a2).mono ?_;rintro e w2 ⟨A2,B2,C2,D2,rfl,hb2⟩;have hz2:=hb2.size;(try simp only[zz] at hz2);have:=kf5 hb2 w.heap.size;have:=kfa hb2 w1.heap.size)
      |(go_at_call 156;refine(placedOf_z k1 g1 h1 x y _ _ a1).mono ?_;rintro e w1 ⟨A1,B1,C1,D1,rfl,hb1⟩;have hz1:=hb1.size;(try simp only[zz] at hz1);have:=kf5 hb1 w.heap.size))
     exact bodyPost_ret (v:= .tuple #[s3 0 0 0,.bool false]) (by simp[results,Tryz.results139,go_sem, *]) rfl ⟨rfl,bel_a⟩
   | true=>
     clear hz
     go_enter Tryz.func139,Tryz.ntmps139
     go_wp2_with (first
      |(have _:=hb1;go_at_call 156;refine(placedOf_z k2 g2 h2 u v _ _ a2).mono ?_;rintro e w2 ⟨A2,B2,C2,D2,rfl,hb2⟩;have hz2:=hb2.size;(try simp only[zz] at hz2);have:=kf5 hb2 w.heap.size;have:=kfa hb2 w1.heap.size)
      |(go_at_call 156;refine(placedOf_z k1 g1 h1 x y _ _ a1).mono ?_;rintro e w1 ⟨A1,B1,C1,D1,rfl,hb1⟩;have hz1:=hb1.size;(try simp only[zz] at hz1);have:=kf5 hb1 w.heap.size))
     exact bodyPost_ret (v:= .tuple #[s3 0 0 0,.bool false]) (by simp[results,Tryz.results139,go_sem, *]) rfl ⟨rfl,bel_a⟩
 | true=>
   cases a2:plZ k2 g2 h2 u v with
   | false=>
     clear hz
     go_enter Tryz.func139,Tryz.ntmps139
     go_wp2_with (first
      |(have _:=hb1;go_at_call 156;refine(placedOf_z k2 g2 h2 u v _ _ a2).mono ?_;rintro e w2 ⟨A2,B2,C2,D2,rfl,hb2⟩;have hz2:=hb2.size;(try simp only[zz] at hz2);have:=kf5 hb2 w.heap.size;have:=kfa hb2 w1.heap.size)
      |(go_at_call 156;refine(placedOf_z k1 g1 h1 x y _ _ a1).mono ?_;rintro e w1 ⟨A1,B1,C1,D1,rfl,hb1⟩;have hz1:=hb1.size;(try simp only[zz] at hz1);have:=kf5 hb1 w.heap.size))
     exact bodyPost_ret (v:= .tuple #[s3 0 0 0,.bool false]) (by simp[results,Tryz.results139,go_sem, *]) rfl ⟨rfl,bel_a⟩
   |true=>rw[a1,a2] at hz;cases hz
theorem touch_q (k1 g1 h1 x y k2 g2 h2 u v X Y D:Int) (J:Bool) (w:World) (e:toT k1 g1 h1 x y k2 g2 h2 u v=((X,Y,D),J)):
 Calls Tryz.prog 139 #[s3 k1 g1 h1,vv x y,s3 k2 g2 h2,vv u v] w fun e w'=>e= .returned (.tuple #[s3 X Y D,.bool J])∧Below w.heap.size w w':=by
 cases hz:(plZ k1 g1 h1 x y&&plZ k2 g2 h2 u v) with
 | false=>
   have e2:toT k1 g1 h1 x y k2 g2 h2 u v=((0,0,0),false):=by
    unfold toT;rw[if_neg ?_]
    intro h
    unfold plZ at hz
    simp only[Bool.and_eq_true] at h
    rw[h.1,h.2.1,h.2.2.1,h.2.2.2] at hz
    cases hz
   rw[e2] at e
   simp only[Prod.mk.injEq] at e
   obtain⟨⟨eX,eY,eD⟩,eK⟩:=e
   subst eX
   subst eY
   subst eD
   subst eK
   exact touch_z k1 g1 h1 x y k2 g2 h2 u v w hz
 | true=>
   unfold plZ at hz
   simp only[Bool.and_eq_true] at hz
   obtain⟨⟨s1,p1⟩,s2,p2⟩:=hz
   obtain⟨⟨x0,x1⟩,y0,y1⟩:=inB_of p1
   obtain⟨⟨u0,u1⟩,v0,v1⟩:=inB_of p2
   have e3:tcT k1 g1 h1 x y k2 g2 h2 u v=((X,Y,D),J):=by rw[←e];unfold toT;rw[if_pos (by simp[*])]
   clear e
   rcases shB_kinds s1 with⟨rfl,rfl,a0,a1⟩|⟨rfl,a0,a1,a2,a3⟩
   · rcases shB_kinds s2 with⟨rfl,rfl,b0,b1⟩|⟨rfl,b0,b1,b2,b3⟩
     · exact touch_g _ 1 g1 0 g1 1 g2 0 g2 x y u v X Y D J w (fun w=>placedOf_r g1 x y w (by omega) p1) (fun w=>placedOf_r g2 u v w (by omega) p2) (fun w=>toucherOf_rr w) (.inl rfl) (fun w=>roundsTouch_q x y g1 g1 u v g2 g2 X Y D J w (by omega) (by omega) (by omega) (by omega) (by omega) (by omega) e3)
     · exact touch_g _ 1 g1 0 g1 2 g2 h2 h2 x y u v X Y D J w (fun w=>placedOf_r g1 x y w (by omega) p1) (fun w=>placedOf_b g2 h2 u v w (by omega) (by omega) p2) (fun w=>toucherOf_rb w) (.inr (.inl rfl)) (fun w=>roundTouchesBox_q x y g1 g1 u v g2 h2 X Y D J w (by omega) (by omega) (by omega) (by omega) (by omega) (by omega) (by omega) e3)
   · rcases shB_kinds s2 with⟨rfl,rfl,b0,b1⟩|⟨rfl,b0,b1,b2,b3⟩
     · exact touch_g _ 2 g1 h1 h1 1 g2 0 g2 x y u v X Y D J w (fun w=>placedOf_b g1 h1 x y w (by omega) (by omega) p1) (fun w=>placedOf_r g2 u v w (by omega) p2) (fun w=>toucherOf_br w) (.inr (.inr (.inl rfl))) (fun w=>boxTouchesRound_q x y g1 h1 u v g2 g2 X Y D J w (by omega) (by omega) (by omega) (by omega) (by omega) (by omega) (by omega) e3)
     · exact touch_g _ 2 g1 h1 h1 2 g2 h2 h2 x y u v X Y D J w (fun w=>placedOf_b g1 h1 x y w (by omega) (by omega) p1) (fun w=>placedOf_b g2 h2 u v w (by omega) (by omega) p2) (fun w=>toucherOf_bb w) (.inr (.inr (.inr rfl))) (fun w=>boxesTouch_q x y g1 h1 u v g2 h2 X Y D J w (by omega) (by omega) (by omega) (by omega) (by omega) (by omega) (by omega) (by omega) e3)
theorem place_any (k:Int) (w:World):
 Calls Tryz.prog 117 #[.int .i64 k] w fun e w'=>e= .returned (.int .i64 k)∧Below w.heap.size w w':=by
 go_enter Tryz.func117,Tryz.ntmps117
 go_wp2
 go_ret
 exact⟨rfl,bel_a⟩
theorem kTouch {cb n k cb' n' k':Nat} {V V':Nat→Int} {G G':Nat→Nat} {w:World} (h:HAt w cb n k V G) (h':HAt w cb' n' k' V' G') (X Y D:Int) (J:Bool) (e:toT (V 1) (V 2) (V 3) (V 4) (V 5) (V' 1) (V' 2) (V' 3) (V' 4) (V' 5)=((X,Y,D),J)):
 Calls Tryz.prog 116 #[hdk cb k,hdk cb' k'] w fun e w'=>e= .returned (.tuple #[s3 X Y D,.bool J])∧Below w.heap.size w w':=by
 have hset:=cset_map
 go_enter Tryz.func116,Tryz.ntmps116
 go_upto_region 1 with fail
 refine wp_region_held_drew (S:=fun w'=>w'.cell? ⟨w.heap.size,0,none⟩=some (.int .i64 (k:Int))∧w'.cell? ⟨w.heap.size,1,none⟩=some (.pointer (some ⟨cb,0,none⟩))∧w'.cell? ⟨w.heap.size+1,0,none⟩=some (.int .i64 (k':Int))∧w'.cell? ⟨w.heap.size+1,1,none⟩=some (.pointer (some ⟨cb',0,none⟩))) (by kernel_rfl) ?_ (fun hHeld=> ?_)
 · (try dsimp only)
   (first|(go_simp;done)|(go_keep;done))
 refine tq 0 hHeld ?_
 refine tq 2 hHeld ?_
 refine tq 5 hHeld ?_
 refine tq 7 hHeld ?_
 (refine tc 1 fun K hK=> ?_;go_simp;(go_at_call 83;refine(kShape (HAt.below h (bel_a))).mono ?_;rintro e w1 ⟨rfl,hb1⟩;have hz1:=hb1.size;(try simp only[zz] at hz1);have:=kf3 hb1 w.heap.size);(try go_wp2_with fail);refine tr hK (fun hHeld=> ?_);clear hK K)
 (refine tc 3 fun K hK=> ?_;go_simp;(go_at_call 84;refine(kAt (HAt.below h (bel_a))).mono ?_;rintro e w2 ⟨rfl,hb2⟩;have hz2:=hb2.size;(try simp only[zz] at hz2);have:=kf3 hb2 w.heap.size);(try go_wp2_with fail);refine tr hK (fun hHeld=> ?_);clear hK K)
 (refine tc 4 fun K hK=> ?_;go_simp;(go_at_call 124;refine(vec_any _ _ _).mono ?_;rintro e w3 ⟨rfl,hb3⟩;have hz3:=hb3.size;(try simp only[zz] at hz3);have:=kf3 hb3 w.heap.size);(try go_wp2_with fail);refine tr hK (fun hHeld=> ?_);clear hK K)
 (refine tc 6 fun K hK=> ?_;go_simp;(go_at_call 83;refine(kShape (HAt.below h' (bel_a))).mono ?_;rintro e w4 ⟨rfl,hb4⟩;have hz4:=hb4.size;(try simp only[zz] at hz4);have:=kf3 hb4 w.heap.size);(try go_wp2_with fail);refine tr hK (fun hHeld=> ?_);clear hK K)
 (refine tc 8 fun K hK=> ?_;go_simp;(go_at_call 84;refine(kAt (HAt.below h' (bel_a))).mono ?_;rintro e w5 ⟨rfl,hb5⟩;have hz5:=hb5.size;(try simp only[zz] at hz5);have:=kf3 hb5 w.heap.size);(try go_wp2_with fail);refine tr hK (fun hHeld=> ?_);clear hK K)
 (refine tc 9 fun K hK=> ?_;go_simp;(go_at_call 124;refine(vec_any _ _ _).mono ?_;rintro e w6 ⟨rfl,hb6⟩;have hz6:=hb6.size;(try simp only[zz] at hz6);have:=kf3 hb6 w.heap.size);(try go_wp2_with fail);refine tr hK (fun hHeld=> ?_);clear hK K)
 (refine tc 10 fun K hK=> ?_;go_simp;(go_at_call 139;refine(touch_q _ _ _ _ _ _ _ _ _ _ X Y D J _ (by with_reducible assumption)).mono ?_;rintro e w7 ⟨rfl,hb7⟩;have hz7:=hb7.size;(try simp only[zz] at hz7);have:=kf3 hb7 w.heap.size);(try go_wp2_with fail);refine tr hK (fun hHeld=> ?_);clear hK K)
 refine tq 11 hHeld ?_
 refine tq 12 hHeld ?_
 (refine tc 13 fun K hK=> ?_;go_simp;refine tr hK (fun hHeld=> ?_);clear hK K)
 refine tq 14 hHeld ?_
 refine wpAnyH_done (by kernel_rfl) ?_ _
 go_wp2_with fail
 exact bodyPost_ret (v:= .tuple #[s3 X Y D,.bool J]) (by simp[results,Tryz.results116,go_sem, *]) rfl ⟨rfl,bel_a⟩
end Go.Proofs.YtcalhcfinkhemaaGreatDoor
