/- Texts of a proof. -/
import Derived.Test.YthajilkjfkppoaaGreatDoorB6
import Derived.Test.YthajilkjfkppoaaGreatDoorB9
import Derived.Test.YthajilkjfkppoaaGreatDoorB3
import Derived.Test.YthajilkjfkppoaaGreatDoorB37
import Derived.Deep.RegionHeld3
import Derived.Deep.DeepCutAuto
import Derived.Test.YthajilkjfkppoaaGreatDoorB12
import Derived.Test.YthajilkjfkppoaaGreatDoorB4
import Derived.Test.YthajilkjfkppoaaGreatDoorB7
import Derived.Laws.EntriesVeiled
set_option maxHeartbeats 16000000
set_option maxRecDepth 20000
namespace Go.Proofs.YthajilkjfkppoaaGreatDoor
open Go.RowKit
set_option linter.unusedVariables false
set_option linter.unusedSimpArgs false
theorem boxTouchesRound_q (x y g1 h1 u v g2 h2 X Y D:Int) (K:Bool) (w:World) (lg1:1≤g1∧g1≤25600) (lh1:1≤h1∧h1≤25600) (lg2:1≤g2∧g2≤25600) (px: -2560000≤x∧x≤2560000) (py: -2560000≤y∧y≤2560000) (pu: -2560000≤u∧u≤2560000) (pv: -2560000≤v∧v≤2560000) (e:mxT (x-g1) (y-h1) (x+g1) (y+h1) u v g2=((X,Y,D),K)):
 Calls Tryz.prog 142 #[b4 x y g1 h1,b4 u v g2 h2] w fun e w'=>e= .returned (.tuple #[s3 X Y D,.bool K])∧Below w.heap.size w w':=by
 have hset:=cset_map
 have eQ:ptB (x-g1) (y-h1) (x+g1) (y+h1) u v=(leB (x-g1) (y-h1) u v&&leB u v (x+g1) (y+h1)):=by
  unfold ptB leB
  by_cases q:(x-g1≤u∧u≤x+g1)∧(y-h1≤v∧v≤y+h1)
  · rw[decide_eq_true q,decide_eq_true (by omega),decide_eq_true (by omega)];rfl
  · rw[decide_eq_false q]
    by_cases z:x-g1≤u∧y-h1≤v
    · rw[decide_eq_true z,decide_eq_false (by omega)];rfl
    · rw[decide_eq_false z];rfl
 unfold mxT at e
 rw[eQ] at e
 clear eQ
 cases eH:(leB (x-g1) (y-h1) u v&&leB u v (x+g1) (y+h1)) with
 | true=>
   rw[if_pos eH] at e
   have hb:=bsT_bd (s0:=x+g1-u) (s1:=u-(x-g1)) (s2:=y+h1-v) (s3:=v-(y-h1)) (B:=6000000) (by omega) (by omega) (by omega) (by omega)
   obtain⟨⟨P,Q,E⟩,eD⟩:∃ z,bsT (x+g1-u) (u-(x-g1)) (y+h1-v) (v-(y-h1))=z:=⟨_,rfl⟩
   rw[eD] at e hb
   dsimp only at hb
   simp only[Prod.mk.injEq] at e
   obtain⟨⟨eX,eY,eZ⟩,eK⟩:=e
   subst eX
   subst eY
   subst eZ
   subst eK
   have w1:=i64w (n:=E+g2) (by have:=hb.1;have:=hb.2.1;omega)
   clear hb
   go_enter Tryz.func142,Tryz.ntmps142
   go_upto_region 2 with fail
   refine wp_region_held_drew (S:=fun w'=>w'.cell? ⟨w.heap.size,0,none⟩=some (.int .i64 x)∧w'.cell? ⟨w.heap.size,1,none⟩=some (.int .i64 y)∧w'.cell? ⟨w.heap.size,2,none⟩=some (.int .i64 g1)∧w'.cell? ⟨w.heap.size,3,none⟩=some (.int .i64 h1)∧w'.cell? ⟨w.heap.size+1,0,none⟩=some (.int .i64 u)∧w'.cell? ⟨w.heap.size+1,1,none⟩=some (.int .i64 v)∧w'.cell? ⟨w.heap.size+1,2,none⟩=some (.int .i64 g2)∧w'.cell? ⟨w.heap.size+1,3,none⟩=some (.int .i64 h2)∧w'.cell? ⟨w.heap.size+1+1+1,0,none⟩=some (.int .i64 u)∧w'.cell? ⟨w.heap.size+1+1+1,1,none⟩=some (.int .i64 v)∧w'.cell? ⟨w.heap.size+1+1+1,2,none⟩=some (.int .i64 u)∧w'.cell? ⟨w.heap.size+1+1+1,3,none⟩=some (.int .i64 v)) (by kernel_rfl) ?_ (fun hHeld=> ?_)
   · (try dsimp only)
     (first|(go_simp;done)|(go_keep;done))
   refine tq 0 hHeld ?_
   refine tq 2 hHeld ?_
   (refine tc 1 fun K hK=> ?_;go_simp;(go_at_call 161;refine(placedBounds_q _ _ _ _ _ (by omega) (by omega) (by omega) (by omega)).mono ?_;rintro e w1 ⟨rfl,hb1⟩;have hz1:=hb1.size;(try simp only[zz] at hz1);have:=kf4 hb1 w.heap.size);(try go_wp2_with fail);refine tr hK (fun hHeld=> ?_);clear hK K)
   (refine tc 3 fun K hK=> ?_;go_simp;(go_at_call 162;refine(shas_z _ _ _ _ _ _ _ _ _ _ eH).mono ?_;rintro e w2 ⟨rfl,hb2⟩;have hz2:=hb2.size;(try simp only[zz] at hz2);have:=kf4 hb2 w.heap.size);(try go_wp2_with fail);refine tr hK (fun hHeld=> ?_);clear hK K)
   refine wpAnyH_done (by kernel_rfl) ?_ _
   go_upto_region 3 with fail
   go_cut [7] (fun s7 wc=>∃ db:Nat,s7= .pointer (some ⟨db,0,none⟩)∧(wc.cell? ⟨w.heap.size+1,0,none⟩=some (.int .i64 u)∧wc.cell? ⟨w.heap.size+1,1,none⟩=some (.int .i64 v)∧wc.cell? ⟨w.heap.size+1,2,none⟩=some (.int .i64 g2)∧wc.cell? ⟨w.heap.size+1,3,none⟩=some (.int .i64 h2)∧wc.cell? ⟨w.heap.size+1+1,0,none⟩=some (.int .i64 0)∧wc.cell? ⟨w.heap.size+1+1,1,none⟩=some (.int .i64 0)∧wc.cell? ⟨w.heap.size+1+1,2,none⟩=some (.int .i64 0)∧wc.cell? ⟨db,0,none⟩=some (.int .i64 P)∧wc.cell? ⟨db,1,none⟩=some (.int .i64 Q)∧wc.cell? ⟨db,2,none⟩=some (.int .i64 E))∧(wc.frozen? ⟨w.heap.size+1+1,0,none⟩=false∧wc.frozen? ⟨w.heap.size+1+1,1,none⟩=false∧wc.frozen? ⟨w.heap.size+1+1,2,none⟩=false∧wc.frozen? ⟨db,0,none⟩=false∧wc.frozen? ⟨db,1,none⟩=false∧wc.frozen? ⟨db,2,none⟩=false)∧(w.heap.size+1+1<db∧db<wc.heap.size)∧Below w.heap.size w wc)
   case first=>
    refine wp_region_held_drew (S:=fun w'=>w'.cell? ⟨w.heap.size,0,none⟩=some (.int .i64 x)∧w'.cell? ⟨w.heap.size,1,none⟩=some (.int .i64 y)∧w'.cell? ⟨w.heap.size,2,none⟩=some (.int .i64 g1)∧w'.cell? ⟨w.heap.size,3,none⟩=some (.int .i64 h1)∧w'.cell? ⟨w.heap.size+1,0,none⟩=some (.int .i64 u)∧w'.cell? ⟨w.heap.size+1,1,none⟩=some (.int .i64 v)∧w'.cell? ⟨w.heap.size+1,2,none⟩=some (.int .i64 g2)∧w'.cell? ⟨w.heap.size+1,3,none⟩=some (.int .i64 h2)∧w'.cell? ⟨w.heap.size+1+1+1,0,none⟩=some (.int .i64 u)∧w'.cell? ⟨w.heap.size+1+1+1,1,none⟩=some (.int .i64 v)∧w'.cell? ⟨w.heap.size+1+1+1,2,none⟩=some (.int .i64 u)∧w'.cell? ⟨w.heap.size+1+1+1,3,none⟩=some (.int .i64 v)) (by kernel_rfl) ?_ (fun hHeld=> ?_)
    · (try dsimp only)
      (first|(go_simp;done)|(go_keep;done))
    refine tq 0 hHeld ?_
    refine tq 2 hHeld ?_
    repeat' first
     |(replace hK:=hK;go_simp;(first|((go_at_call 161;refine(placedBounds_q _ _ _ _ _ (by omega) (by omega) (by omega) (by omega)).mono ?_;rintro e w3 ⟨rfl,hb3⟩;obtain⟨hc3,hf3⟩:=bcell hb3;have hz3:=hb3.size;(try simp only[zz] at hc3 hf3 hz3);have:=kf4 hb3 w.heap.size;(try have q:=kfy hc3 hf3 hz3 (w.heap.size+1+1+1+1) (by omega);obtain⟨hk3y0,hj3y0,hq3y0,hr3y0,ht3y0⟩:=q);(try have q:=kfy hc3 hf3 hz3 (w2.heap.size) (by omega);obtain⟨hk3y1,hj3y1,hq3y1,hr3y1,ht3y1⟩:=q);clear hc3 hf3);(try go_wp2_with fail))|((go_at_call 163;refine(spanDent_q _ _ _ _ _ _ _ _ P Q E _ (by omega) (by omega) (by omega) (by omega) (by omega) (by omega) (by omega) (by omega) eD).mono ?_;rintro e w4 ⟨rfl,hb4⟩;obtain⟨hc4,hf4⟩:=bcell hb4;have hz4:=hb4.size;(try simp only[zz] at hc4 hf4 hz4);have:=kf4 hb4 w.heap.size;(try have q:=kfy hc4 hf4 hz4 (w.heap.size+1+1+1+1) (by omega);obtain⟨hk4y0,hj4y0,hq4y0,hr4y0,ht4y0⟩:=q);(try have q:=kfy hc4 hf4 hz4 (w2.heap.size) (by omega);obtain⟨hk4y1,hj4y1,hq4y1,hr4y1,ht4y1⟩:=q);(try have q:=kfy hc4 hf4 hz4 (w3.heap.size) (by omega);obtain⟨hk4y2,hj4y2,hq4y2,hr4y2,ht4y2⟩:=q);clear hc4 hf4);(try go_wp2_with fail))|skip);refine tr hK (fun hHeld=> ?_);clear hK K)
     |refine tc 1 (hr:=by decide+kernel) fun K hK=> ?_
     |refine tc 3 (hr:=by decide+kernel) fun K hK=> ?_
     |refine tc 4 (hr:=by decide+kernel) fun K hK=> ?_
     |refine tc 5 (hr:=by decide+kernel) fun K hK=> ?_
     |(refine wpAnyH_ready (rs:=[1,4]) (by decide+kernel) (by simp) ?_;refine AllReadyH.cons rfl (fun K hK=> ?_) (AllReadyH.cons rfl (fun K hK=> ?_) AllReadyH.nil))
     |(refine wpAnyH_ready (rs:=[3,4]) (by decide+kernel) (by simp) ?_;refine AllReadyH.cons rfl (fun K hK=> ?_) (AllReadyH.cons rfl (fun K hK=> ?_) AllReadyH.nil))
     | (refine wpAnyH_done (by decide+kernel) ?_ _
        go_wp2_with fail
        go_meet
        exact⟨_,rfl,⟨(by go_simp),(by go_simp),(by go_simp),(by go_simp),(by go_simp),(by go_simp),(by go_simp),(by go_simp),(by go_simp),(by go_simp)⟩,⟨(by go_simp),(by go_simp),(by go_simp),(by go_simp),(by go_simp),(by go_simp)⟩,⟨(by first|omega|(simp;omega)),(by first|omega|(simp;omega)|simp)⟩,bel_a⟩)
   case rest=>
   obtain⟨db,rfl,⟨r0,r1,r2,r3,r4,r5,r6,r7,r8,r9⟩,⟨f0,f1,f2,f3,f4,f5⟩,⟨l1,l2⟩,hbw⟩:=hcut
   have n1:(w.heap.size+1=db)=False:=eq_false (by omega)
   have n2:(db=w.heap.size+1)=False:=eq_false (by omega)
   have n3:(w.heap.size+1+1=db)=False:=eq_false (by omega)
   have n4:(db=w.heap.size+1+1)=False:=eq_false (by omega)
   have l3:w.heap.size+1<wc.heap.size:=by omega
   have l4:w.heap.size+1+1<wc.heap.size:=by omega
   go_upto_region 4 with fail
   refine wp_region_held_drew (S:=fun w'=>w'.cell? ⟨w.heap.size+1,0,none⟩=some (.int .i64 u)∧w'.cell? ⟨w.heap.size+1,1,none⟩=some (.int .i64 v)∧w'.cell? ⟨w.heap.size+1,2,none⟩=some (.int .i64 g2)∧w'.cell? ⟨w.heap.size+1,3,none⟩=some (.int .i64 h2)) (by kernel_rfl) ?_ (fun hHeld=> ?_)
   · (try dsimp only)
     (first|(go_simp;done)|(go_keep;done))
   refine tq 0 hHeld ?_
   refine tq 2 hHeld ?_
   repeat' first
    |(replace hK:=hK;go_simp;(first|((go_at_call 159;refine(placedWide_q _ _ _ _ _).mono ?_;rintro e w5 ⟨rfl,hb5⟩;have hz5:=hb5.size;(try simp only[zz] at hz5);have:=kf2 hb5 (w.heap.size+1);have:=kfa hb5 db);(try go_wp2_with fail))|skip);refine tr hK (fun hHeld=> ?_);clear hK K)
    |refine tc 1 (hr:=by decide+kernel) fun K hK=> ?_
    |refine tc 3 (hr:=by decide+kernel) fun K hK=> ?_
    |refine tc 6 (hr:=by decide+kernel) fun K hK=> ?_
    |refine tq 4 hHeld ?_ (hc:=by decide+kernel)
    |refine tq 5 hHeld ?_ (hc:=by decide+kernel)
    |(refine wpAnyH_ready (rs:=[1,3]) (by decide+kernel) (by simp) ?_;refine AllReadyH.cons rfl (fun K hK=> ?_) (AllReadyH.cons rfl (fun K hK=> ?_) AllReadyH.nil))
    | (refine wpAnyH_done (by decide+kernel) ?_ _
       go_wp2_with fail
       exact bodyPost_ret (v:= .tuple #[s3 P Q (E+g2),.bool true]) (by simp[results,Tryz.results142,go_sem, *]) rfl ⟨rfl,bel_a⟩)
 | false=>
   rw[if_neg (by simp[eH])] at e
   have n1:=near_in (a:=x-g1) (c:=x+g1) (x:=u) (B:=3000000) (by omega) (by omega) (by omega)
   have n2:=near_in (a:=y-h1) (c:=y+h1) (x:=v) (B:=3000000) (by omega) (by omega) (by omega)
   obtain⟨nx,eN1⟩:∃ z,mn (mx u (x-g1)) (x+g1)=z:=⟨_,rfl⟩
   obtain⟨ny,eN2⟩:∃ z,mn (mx v (y-h1)) (y+h1)=z:=⟨_,rfl⟩
   rw[eN1] at e n1
   rw[eN2] at e n2
   go_enter Tryz.func142,Tryz.ntmps142
   go_upto_region 2 with fail
   refine wp_region_held_drew (S:=fun w'=>w'.cell? ⟨w.heap.size,0,none⟩=some (.int .i64 x)∧w'.cell? ⟨w.heap.size,1,none⟩=some (.int .i64 y)∧w'.cell? ⟨w.heap.size,2,none⟩=some (.int .i64 g1)∧w'.cell? ⟨w.heap.size,3,none⟩=some (.int .i64 h1)∧w'.cell? ⟨w.heap.size+1,0,none⟩=some (.int .i64 u)∧w'.cell? ⟨w.heap.size+1,1,none⟩=some (.int .i64 v)∧w'.cell? ⟨w.heap.size+1,2,none⟩=some (.int .i64 g2)∧w'.cell? ⟨w.heap.size+1,3,none⟩=some (.int .i64 h2)∧w'.cell? ⟨w.heap.size+1+1+1,0,none⟩=some (.int .i64 u)∧w'.cell? ⟨w.heap.size+1+1+1,1,none⟩=some (.int .i64 v)∧w'.cell? ⟨w.heap.size+1+1+1,2,none⟩=some (.int .i64 u)∧w'.cell? ⟨w.heap.size+1+1+1,3,none⟩=some (.int .i64 v)) (by kernel_rfl) ?_ (fun hHeld=> ?_)
   · (try dsimp only)
     (first|(go_simp;done)|(go_keep;done))
   refine tq 0 hHeld ?_
   refine tq 2 hHeld ?_
   (refine tc 1 fun K hK=> ?_;go_simp;(go_at_call 161;refine(placedBounds_q _ _ _ _ _ (by omega) (by omega) (by omega) (by omega)).mono ?_;rintro e w1 ⟨rfl,hb1⟩;have hz1:=hb1.size;(try simp only[zz] at hz1);have:=kf4 hb1 w.heap.size);(try go_wp2_with fail);refine tr hK (fun hHeld=> ?_);clear hK K)
   (refine tc 3 fun K hK=> ?_;go_simp;(go_at_call 162;refine(shas_z _ _ _ _ _ _ _ _ _ _ eH).mono ?_;rintro e w2 ⟨rfl,hb2⟩;have hz2:=hb2.size;(try simp only[zz] at hz2);have:=kf4 hb2 w.heap.size);(try go_wp2_with fail);refine tr hK (fun hHeld=> ?_);clear hK K)
   refine wpAnyH_done (by kernel_rfl) ?_ _
   go_upto_region 6 with fail
   refine wp_region_held_drew (S:=fun w'=>w'.cell? ⟨w.heap.size,0,none⟩=some (.int .i64 x)∧w'.cell? ⟨w.heap.size,1,none⟩=some (.int .i64 y)∧w'.cell? ⟨w.heap.size,2,none⟩=some (.int .i64 g1)∧w'.cell? ⟨w.heap.size,3,none⟩=some (.int .i64 h1)∧w'.cell? ⟨w.heap.size+1,0,none⟩=some (.int .i64 u)∧w'.cell? ⟨w.heap.size+1,1,none⟩=some (.int .i64 v)∧w'.cell? ⟨w.heap.size+1,2,none⟩=some (.int .i64 g2)∧w'.cell? ⟨w.heap.size+1,3,none⟩=some (.int .i64 h2)∧w'.cell? ⟨w.heap.size+1+1+1,0,none⟩=some (.int .i64 u)∧w'.cell? ⟨w.heap.size+1+1+1,1,none⟩=some (.int .i64 v)∧w'.cell? ⟨w.heap.size+1+1+1,2,none⟩=some (.int .i64 u)∧w'.cell? ⟨w.heap.size+1+1+1,3,none⟩=some (.int .i64 v)) (by kernel_rfl) ?_ (fun hHeld=> ?_)
   · (try dsimp only)
     (first|(go_simp;done)|(go_keep;done))
   refine tq 0 hHeld ?_
   refine tq 1 hHeld ?_
   refine tq 2 hHeld ?_
   refine tq 4 hHeld ?_
   refine tq 5 hHeld ?_
   refine tq 8 hHeld ?_
   (refine tc 3 fun K hK=> ?_;go_simp;(go_at_call 161;refine(placedBounds_q _ _ _ _ _ (by omega) (by omega) (by omega) (by omega)).mono ?_;rintro e w3 ⟨rfl,hb3⟩;have hz3:=hb3.size;(try simp only[zz] at hz3);have:=kf4 hb3 w.heap.size);(try go_wp2_with fail);refine tr hK (fun hHeld=> ?_);clear hK K)
   (refine tc 6 fun K hK=> ?_;go_simp;(go_at_call 164;refine(snear_z _ _ _ _ _ _ _ _ _ eN1 eN2).mono ?_;rintro e w4 ⟨rfl,hb4⟩;have hz4:=hb4.size;(try simp only[zz] at hz4);have:=kf4 hb4 w.heap.size);(try go_wp2_with fail);refine tr hK (fun hHeld=> ?_);clear hK K)
   (refine tc 7 fun K hK=> ?_;go_simp;(go_at_call 149;refine(less_any _ _ _ _ _ (by omega) (by omega) (by omega) (by omega)).mono ?_;rintro e w5 ⟨rfl,hb5⟩;have hz5:=hb5.size;(try simp only[zz] at hz5);have:=kf4 hb5 w.heap.size);(try go_wp2_with fail);refine tr hK (fun hHeld=> ?_);clear hK K)
   (refine tc 9 fun K hK=> ?_;go_simp;(go_at_call 159;refine(placedWide_q _ _ _ _ _).mono ?_;rintro e w6 ⟨rfl,hb6⟩;have hz6:=hb6.size;(try simp only[zz] at hz6);have:=kf4 hb6 w.heap.size);(try go_wp2_with fail);refine tr hK (fun hHeld=> ?_);clear hK K)
   (refine tc 10 fun K hK=> ?_;go_simp;(go_at_call 158;refine(roundDent_q _ _ _ X Y D _ _ (by omega) (by omega) (by omega) e).mono ?_;rintro e w7 ⟨rfl,hb7⟩;have hz7:=hb7.size;(try simp only[zz] at hz7);have:=kf4 hb7 w.heap.size);(try go_wp2_with fail);refine tr hK (fun hHeld=> ?_);clear hK K)
   refine tq 11 hHeld ?_
   refine tq 12 hHeld ?_
   (refine tc 13 fun K hK=> ?_;go_simp;refine tr hK (fun hHeld=> ?_);clear hK K)
   refine tq 14 hHeld ?_
   refine wpAnyH_done (by kernel_rfl) ?_ _
   go_wp2_with fail
   exact bodyPost_ret (v:= .tuple #[s3 X Y D,.bool K]) (by simp[results,Tryz.results142,go_sem, *]) rfl ⟨rfl,bel_a⟩
theorem mxT_no {a b c d x y g P Q E:Int} (e:mxT a b c d x y g=((P,Q,E),false)):P=0∧Q=0∧E=0:=by
 unfold mxT at e
 split at e
 · simp only[Prod.mk.injEq] at e;exact absurd e.2 (by decide)
 · unfold rdT at e
   split at e
   · simp only[Prod.mk.injEq] at e;exact absurd e.2 (by decide)
   · simp only[Prod.mk.injEq] at e;omega
theorem roundTouchesBox_q (x y g1 h1 u v g2 h2 X Y D:Int) (K:Bool) (w:World) (lg1:1≤g1∧g1≤25600) (lg2:1≤g2∧g2≤25600) (lh2:1≤h2∧h2≤25600) (px: -2560000≤x∧x≤2560000) (py: -2560000≤y∧y≤2560000) (pu: -2560000≤u∧u≤2560000) (pv: -2560000≤v∧v≤2560000) (e:tnT (mxT (u-g2) (v-h2) (u+g2) (v+h2) x y g1)=((X,Y,D),K)):
 Calls Tryz.prog 141 #[b4 x y g1 h1,b4 u v g2 h2] w fun e w'=>e= .returned (.tuple #[s3 X Y D,.bool K])∧Below w.heap.size w w':=by
 have hset:=cset_map
 obtain⟨⟨⟨P,Q,E⟩,Z⟩,eM⟩:∃ z,mxT (u-g2) (v-h2) (u+g2) (v+h2) x y g1=z:=⟨_,rfl⟩
 obtain⟨hP,hQ⟩:=mxT_bd (by omega) (by omega) (by omega) (by omega) (by omega) (by omega) eM
 rw[eM] at e
 unfold tnT at e
 cases Z with
 | true=>
   simp only[if_true,Prod.mk.injEq] at e
   obtain⟨⟨eX,eY,eD⟩,eK⟩:=e
   subst eX
   subst eY
   subst eD
   subst eK
   go_enter Tryz.func141,Tryz.ntmps141
   go_wp2_with (first
   |(go_at_call 160;refine(dentTurned_q _ _ _ _ (by omega) (by omega)).mono ?_;rintro e w2 ⟨rfl,hb2⟩;have hz2:=hb2.size;(try simp only[zz] at hz2);have:=kf3 hb2 w.heap.size)
   |(go_at_call 142;refine(boxTouchesRound_q _ _ _ _ _ _ _ _ P Q E true _ (by omega) (by omega) (by omega) (by omega) (by omega) (by omega) (by omega) eM).mono ?_;rintro e w1 ⟨rfl,hb1⟩;have hz1:=hb1.size;(try simp only[zz] at hz1);have:=kf3 hb1 w.heap.size))
   exact bodyPost_ret (v:= .tuple #[s3 (-P) (-Q) E,.bool true]) (by simp[results,Tryz.results141,go_sem, *]) rfl ⟨rfl,bel_a⟩
 | false=>
   rw[if_neg (by simp)] at e
   simp only[Prod.mk.injEq] at e
   obtain⟨⟨eX,eY,eD⟩,eK⟩:=e
   subst eX
   subst eY
   subst eD
   subst eK
   obtain⟨z1,z2,z3⟩:=mxT_no eM
   subst z1
   subst z2
   subst z3
   go_enter Tryz.func141,Tryz.ntmps141
   go_wp2_with (first
   |(go_at_call 160;refine(dentTurned_q _ _ _ _ (by omega) (by omega)).mono ?_;rintro e w2 ⟨rfl,hb2⟩;have hz2:=hb2.size;(try simp only[zz] at hz2);have:=kf3 hb2 w.heap.size)
   |(go_at_call 142;refine(boxTouchesRound_q _ _ _ _ _ _ _ _ 0 0 0 false _ (by omega) (by omega) (by omega) (by omega) (by omega) (by omega) (by omega) eM).mono ?_;rintro e w1 ⟨rfl,hb1⟩;have hz1:=hb1.size;(try simp only[zz] at hz1);have:=kf3 hb1 w.heap.size))
   exact bodyPost_ret (v:= .tuple #[s3 0 0 0,.bool false]) (by simp[results,Tryz.results141,go_sem, *]) rfl ⟨rfl,bel_a⟩
theorem isPlace_z (x y:Int) (b:Bool) (w:World) (e:inB 2560000 x y=b):Calls Tryz.prog 138 #[vv x y] w fun e w'=>e= .returned (.bool b)∧Below w.heap.size w w':=by
 subst e;exact isPlace_any x y w
theorem placedOf_r (g x y:Int) (w:World) (lg:1≤g∧g≤25600) (p1:inB 2560000 x y=true):
 Calls Tryz.prog 113 #[s3 1 g 0,vv x y] w fun e w'=>e= .returned (.tuple #[b4 x y g g,.bool true])∧Below w.heap.size w w':=by
 have hset:=cset_map
 go_enter Tryz.func113,Tryz.ntmps113
 go_wp2_with (first
  |(go_at_call 111;refine(figureOf_round _ _ (by omega) (by omega)).mono ?_;rintro e w1 ⟨rfl,hb1⟩;have hz1:=hb1.size;(try simp only[zz] at hz1);have:=kf3 hb1 w.heap.size)
  |(go_at_call 138;refine(isPlace_z x y _ _ p1).mono ?_;rintro e w2 ⟨rfl,hb2⟩;have hz2:=hb2.size;(try simp only[zz] at hz2);have:=kf3 hb2 w.heap.size)
  |(go_at_call 139;refine(wayOf_any _ _ _).mono ?_;rintro e w3 ⟨rfl,hb3⟩;have hz3:=hb3.size;(try simp only[zz] at hz3);have:=kf3 hb3 w.heap.size)
  |(go_at_call 232;refine(reach_r _ _).mono ?_;rintro e w4 ⟨rfl,hb4⟩;have hz4:=hb4.size;(try simp only[zz] at hz4);have:=kf3 hb4 w.heap.size))
 exact bodyPost_ret (v:= .tuple #[b4 x y g g,.bool true]) (by simp[results,Tryz.results113,go_sem, *]) rfl ⟨rfl,bel_a⟩
theorem placedOf_b (g h x y:Int) (w:World) (lg:1≤g∧g≤25600) (lh:1≤h∧h≤25600) (p1:inB 2560000 x y=true):
 Calls Tryz.prog 113 #[s3 2 g h,vv x y] w fun e w'=>e= .returned (.tuple #[b4 x y g h,.bool true])∧Below w.heap.size w w':=by
 have hset:=cset_map
 go_enter Tryz.func113,Tryz.ntmps113
 go_wp2_with (first
  |(go_at_call 111;refine(figureOf_box _ _ _ (by omega) (by omega) (by omega) (by omega)).mono ?_;rintro e w1 ⟨rfl,hb1⟩;have hz1:=hb1.size;(try simp only[zz] at hz1);have:=kf3 hb1 w.heap.size)
  |(go_at_call 138;refine(isPlace_z x y _ _ p1).mono ?_;rintro e w2 ⟨rfl,hb2⟩;have hz2:=hb2.size;(try simp only[zz] at hz2);have:=kf3 hb2 w.heap.size)
  |(go_at_call 139;refine(wayOf_any _ _ _).mono ?_;rintro e w3 ⟨rfl,hb3⟩;have hz3:=hb3.size;(try simp only[zz] at hz3);have:=kf3 hb3 w.heap.size)
  |(go_at_call 233;refine(reach_b _ _ _).mono ?_;rintro e w4 ⟨rfl,hb4⟩;have hz4:=hb4.size;(try simp only[zz] at hz4);have:=kf3 hb4 w.heap.size))
 exact bodyPost_ret (v:= .tuple #[b4 x y g h,.bool true]) (by simp[results,Tryz.results113,go_sem, *]) rfl ⟨rfl,bel_a⟩
theorem placedOf_n (k g h x y:Int) (w:World) (sh:shB k g h=false):
 Calls Tryz.prog 113 #[s3 k g h,vv x y] w fun e w'=>e= .returned (.tuple #[b4 0 0 0 0,.bool false])∧Below w.heap.size w w':=by
 have hset:=cset_map
 go_enter Tryz.func113,Tryz.ntmps113
 go_wp2_with (go_at_call 111;refine(figureOf_none k g h _ sh).mono ?_;rintro e w1 ⟨rfl,hb1⟩;have hz1:=hb1.size;(try simp only[zz] at hz1);have:=kf3 hb1 w.heap.size)
 exact bodyPost_ret (v:= .tuple #[b4 0 0 0 0,.bool false]) (by simp[results,Tryz.results113,go_sem, *]) rfl ⟨rfl,bel_a⟩
theorem placedOf_p (k g h x y:Int) (w:World) (sh:shB k g h=true) (p1:inB 2560000 x y=false):
 Calls Tryz.prog 113 #[s3 k g h,vv x y] w fun e w'=>e= .returned (.tuple #[b4 0 0 0 0,.bool false])∧Below w.heap.size w w':=by
 have hset:=cset_map
 rcases shB_kinds sh with⟨rfl,rfl,a0,a1⟩|⟨rfl,a0,a1,a2,a3⟩
 · go_enter Tryz.func113,Tryz.ntmps113
   go_wp2_with (first
   |(go_at_call 111;refine(figureOf_round _ _ (by omega) (by omega)).mono ?_;rintro e w1 ⟨rfl,hb1⟩;have hz1:=hb1.size;(try simp only[zz] at hz1);have:=kf3 hb1 w.heap.size)
   |(go_at_call 138;refine(isPlace_z x y _ _ p1).mono ?_;rintro e w2 ⟨rfl,hb2⟩;have hz2:=hb2.size;(try simp only[zz] at hz2);have:=kf3 hb2 w.heap.size))
   exact bodyPost_ret (v:= .tuple #[b4 0 0 0 0,.bool false]) (by simp[results,Tryz.results113,go_sem, *]) rfl ⟨rfl,bel_a⟩
 · go_enter Tryz.func113,Tryz.ntmps113
   go_wp2_with (first
   |(go_at_call 111;refine(figureOf_box _ _ _ (by omega) (by omega) (by omega) (by omega)).mono ?_;rintro e w1 ⟨rfl,hb1⟩;have hz1:=hb1.size;(try simp only[zz] at hz1);have:=kf3 hb1 w.heap.size)
   |(go_at_call 138;refine(isPlace_z x y _ _ p1).mono ?_;rintro e w2 ⟨rfl,hb2⟩;have hz2:=hb2.size;(try simp only[zz] at hz2);have:=kf3 hb2 w.heap.size))
   exact bodyPost_ret (v:= .tuple #[b4 0 0 0 0,.bool false]) (by simp[results,Tryz.results113,go_sem, *]) rfl ⟨rfl,bel_a⟩
theorem toucherOf_rr (w:World):Calls Tryz.prog 114 #[.int .i64 1,.int .i64 1] w fun e w'=>e= .returned (.func (.func 140) #[] #[])∧Below w.heap.size w w':=by
 have hset:=cset_map
 go_enter Tryz.func114,Tryz.ntmps114
 go_wp2_with fail
 go_ret
 exact⟨rfl,bel_a⟩
theorem toucherOf_rb (w:World):Calls Tryz.prog 114 #[.int .i64 1,.int .i64 2] w fun e w'=>e= .returned (.func (.func 141) #[] #[])∧Below w.heap.size w w':=by
 have hset:=cset_map
 go_enter Tryz.func114,Tryz.ntmps114
 go_wp2_with fail
 go_ret
 exact⟨rfl,bel_a⟩
theorem toucherOf_br (w:World):Calls Tryz.prog 114 #[.int .i64 2,.int .i64 1] w fun e w'=>e= .returned (.func (.func 142) #[] #[])∧Below w.heap.size w w':=by
 have hset:=cset_map
 go_enter Tryz.func114,Tryz.ntmps114
 go_wp2_with fail
 go_ret
 exact⟨rfl,bel_a⟩
theorem toucherOf_bb (w:World):Calls Tryz.prog 114 #[.int .i64 2,.int .i64 2] w fun e w'=>e= .returned (.func (.func 143) #[] #[])∧Below w.heap.size w w':=by
 have hset:=cset_map
 go_enter Tryz.func114,Tryz.ntmps114
 go_wp2_with fail
 go_ret
 exact⟨rfl,bel_a⟩
end Go.Proofs.YthajilkjfkppoaaGreatDoor
