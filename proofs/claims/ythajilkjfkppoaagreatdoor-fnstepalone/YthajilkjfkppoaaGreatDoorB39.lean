/- Texts of a proof. -/
import Derived.Test.YthajilkjfkppoaaGreatDoorB6
import Derived.Test.YthajilkjfkppoaaGreatDoorB9
import Derived.Test.YthajilkjfkppoaaGreatDoorB3
import Derived.Test.YthajilkjfkppoaaGreatDoorB38
import Derived.Laws.EntriesVeiled
import Derived.Deep.RegionHeld3
import Derived.Deep.DeepCutAuto
import Derived.Test.YthajilkjfkppoaaGreatDoorB13
import Derived.Test.YthajilkjfkppoaaGreatDoorB7
import Derived.Test.YthajilkjfkppoaaGreatDoorB10
import Derived.Test.YthajilkjfkppoaaGreatDoorB5
import Derived.Test.YthajilkjfkppoaaGreatDoorB2
import Derived.Sort.CutIn
import Derived.LoopNIn
import Derived.LoopIn
import Derived.OwnWalkIn
set_option maxHeartbeats 16000000
set_option maxRecDepth 20000
namespace Go.Proofs.YthajilkjfkppoaaGreatDoor
open Go.RowKit
set_option linter.unusedVariables false
set_option linter.unusedSimpArgs false
def plZ (k g h x y:Int):Bool:=shB k g h&&inB 2560000 x y
theorem placedOf_any (k g h x y:Int) (w:World):Calls Tryz.prog 113 #[s3 k g h,vv x y] w fun e w'=>∃ A B C D:Int,e= .returned (.tuple #[b4 A B C D,.bool (plZ k g h x y)])∧Below w.heap.size w w':=by
 unfold plZ
 cases sh:shB k g h with
 |false=>exact(placedOf_n k g h x y w sh).mono fun e w' ⟨h1,h2⟩=>⟨0,0,0,0,h1,h2⟩
 | true=>
   cases p1:inB 2560000 x y with
   |false=>exact(placedOf_p k g h x y w sh p1).mono fun e w' ⟨h1,h2⟩=>⟨0,0,0,0,h1,h2⟩
   | true=>
     rcases shB_kinds sh with⟨rfl,rfl,a0,a1⟩|⟨rfl,a0,a1,a2,a3⟩
     · exact(placedOf_r g x y w ⟨a0,a1⟩ p1).mono fun e w' ⟨h1,h2⟩=>⟨_,_,_,_,h1,h2⟩
     · exact(placedOf_b g h x y w ⟨a0,a1⟩ ⟨a2,a3⟩ p1).mono fun e w' ⟨h1,h2⟩=>⟨_,_,_,_,h1,h2⟩
theorem touch_g (F:Nat) (k1 g1 h1 q1 k2 g2 h2 q2 x y u v X Y D:Int) (J:Bool) (w:World)
 (c1:∀ w,Calls Tryz.prog 113 #[s3 k1 g1 h1,vv x y] w fun e w'=>e= .returned (.tuple #[b4 x y g1 q1,.bool true])∧Below w.heap.size w w')
 (c2:∀ w,Calls Tryz.prog 113 #[s3 k2 g2 h2,vv u v] w fun e w'=>e= .returned (.tuple #[b4 u v g2 q2,.bool true])∧Below w.heap.size w w')
 (c3:∀ w,Calls Tryz.prog 114 #[.int .i64 k1,.int .i64 k2] w fun e w'=>e= .returned (.func (.func F) #[] #[])∧Below w.heap.size w w')
 (hF:F=140∨F=141∨F=142∨F=143)
 (c4:∀ w,Calls Tryz.prog F #[b4 x y g1 q1,b4 u v g2 q2] w fun e w'=>e= .returned (.tuple #[s3 X Y D,.bool J])∧Below w.heap.size w w'):
 Calls Tryz.prog 90 #[s3 k1 g1 h1,vv x y,s3 k2 g2 h2,vv u v] w fun e w'=>e= .returned (.tuple #[s3 X Y D,.bool J])∧Below w.heap.size w w':=by
 have hset:=cset_map
 rcases hF with rfl|rfl|rfl|rfl
 all_goals
  go_enter Tryz.func90,Tryz.ntmps90
  go_upto_region 5 with(first
   |(have _:=hb1;go_at_call 113;refine(c2 _).mono ?_;rintro e w2 ⟨rfl,hb2⟩;have hz2:=hb2.size;(try simp only[zz] at hz2);have:=kf5 hb2 w.heap.size;have:=kfa hb2 w1.heap.size)
   |(go_at_call 113;refine(c1 _).mono ?_;rintro e w1 ⟨rfl,hb1⟩;have hz1:=hb1.size;(try simp only[zz] at hz1);have:=kf5 hb1 w.heap.size))
  refine wp_region_held_drew (S:=fun w'=>w'.cell? ⟨w.heap.size,0,none⟩=some (.int .i64 k1)∧w'.cell? ⟨w.heap.size+1+1,0,none⟩=some (.int .i64 k2)∧w'.cell? ⟨w1.heap.size,0,none⟩=some (.int .i64 x)∧w'.cell? ⟨w1.heap.size,1,none⟩=some (.int .i64 y)∧w'.cell? ⟨w1.heap.size,2,none⟩=some (.int .i64 g1)∧w'.cell? ⟨w1.heap.size,3,none⟩=some (.int .i64 q1)∧w'.cell? ⟨w2.heap.size,0,none⟩=some (.int .i64 u)∧w'.cell? ⟨w2.heap.size,1,none⟩=some (.int .i64 v)∧w'.cell? ⟨w2.heap.size,2,none⟩=some (.int .i64 g2)∧w'.cell? ⟨w2.heap.size,3,none⟩=some (.int .i64 q2)) (by kernel_rfl) ?_ (fun hHeld=> ?_)
  · (try dsimp only)
    (first|(go_simp;done)|(go_keep;done))
  refine tq 0 hHeld ?_
  refine tq 1 hHeld ?_
  refine tq 2 hHeld ?_
  refine tq 3 hHeld ?_
  refine tq 5 hHeld ?_
  refine tq 6 hHeld ?_
  refine wpAnyH_ready (rs:=[4,11]) (by kernel_rfl) (by simp) ?_
  refine AllReadyH.cons rfl (fun K hK=> ?_) (AllReadyH.cons rfl (fun K hK=> ?_) AllReadyH.nil)
  rotate_left
  (go_simp;refine tr hK (fun hHeld=> ?_);clear hK K;refine tc 4 fun K hK=> ?_)
  rotate_left
  all_goals
   (go_simp;(go_at_call 114;refine(c3 _).mono ?_;rintro e w3 ⟨rfl,hb3⟩;obtain⟨hc3,hf3⟩:=bcell hb3;have hz3:=hb3.size;(try simp only[zz] at hc3 hf3 hz3);have:=kf5 hb3 w.heap.size;have:=kfa hb3 w1.heap.size;have:=kfa hb3 w2.heap.size;(try have q:=kfy hc3 hf3 hz3 (w2.heap.size+1) (by omega);obtain⟨hk3y0,hj3y0,hq3y0,hr3y0,ht3y0⟩:=q);clear hc3 hf3);(try go_wp2_with fail);refine tr hK (fun hHeld=> ?_);clear hK K)
  rotate_left
  refine tc 7 fun K hK=> ?_
  rotate_left
  refine wpAnyH_ready (rs:=[7,11]) (by kernel_rfl) (by simp) ?_
  refine AllReadyH.cons rfl (fun K hK=> ?_) (AllReadyH.cons rfl (fun K hK=> ?_) AllReadyH.nil)
  rotate_left
  (go_simp;refine tr hK (fun hHeld=> ?_);clear hK K;refine tc 7 fun K hK=> ?_)
  all_goals
   (go_simp;(refine(c4 _).mono ?_;rintro e w4 ⟨rfl,hb4⟩;obtain⟨hc4,hf4⟩:=bcell hb4;have hz4:=hb4.size;(try simp only[zz] at hc4 hf4 hz4);have:=kf5 hb4 w.heap.size;have:=kfa hb4 w1.heap.size;have:=kfa hb4 w2.heap.size;(try have q:=kfy hc4 hf4 hz4 (w2.heap.size+1) (by omega);obtain⟨hk4y0,hj4y0,hq4y0,hr4y0,ht4y0⟩:=q);(try have q:=kfy hc4 hf4 hz4 (w3.heap.size) (by omega);obtain⟨hk4y1,hj4y1,hq4y1,hr4y1,ht4y1⟩:=q);clear hc4 hf4);(try go_wp2_with fail);refine tr hK (fun hHeld=> ?_);clear hK K)
   refine tq 8 hHeld ?_
   refine tq 9 hHeld ?_
   refine tq 10 hHeld ?_
  rotate_left
  rotate_left
  (refine tc 11 fun K hK=> ?_;go_simp;refine tr hK (fun hHeld=> ?_);clear hK K)
  all_goals
   (refine tc 12 fun K hK=> ?_;go_simp;refine tr hK (fun hHeld=> ?_);clear hK K)
   refine tq 13 hHeld ?_
   refine wpAnyH_done (by kernel_rfl) ?_ _
   go_wp2_with (go_at_call 115;refine(dentHit_q _ _ _ _).mono ?_;rintro e w5 ⟨rfl,hb5⟩;obtain⟨hc5,hf5⟩:=bcell hb5;have hz5:=hb5.size;(try simp only[zz] at hc5 hf5 hz5);have:=kf5 hb5 w.heap.size;(try have q:=kfy hc5 hf5 hz5 (w2.heap.size+1) (by omega);obtain⟨hk5y0,hj5y0,hq5y0,hr5y0,ht5y0⟩:=q);(try have q:=kfy hc5 hf5 hz5 (w3.heap.size) (by omega);obtain⟨hk5y1,hj5y1,hq5y1,hr5y1,ht5y1⟩:=q);(try have q:=kfy hc5 hf5 hz5 (w4.heap.size) (by omega);obtain⟨hk5y2,hj5y2,hq5y2,hr5y2,ht5y2⟩:=q);clear hc5 hf5)
   exact bodyPost_ret (v:= .tuple #[s3 X Y D,.bool J]) (by simp[results,Tryz.results90,go_sem, *]) rfl ⟨rfl,bel_a⟩
theorem placedOf_z (k g h x y:Int) (b:Bool) (w:World) (e:plZ k g h x y=b):Calls Tryz.prog 113 #[s3 k g h,vv x y] w fun e w'=>∃ A B C D:Int,e= .returned (.tuple #[b4 A B C D,.bool b])∧Below w.heap.size w w':=by
 subst e;exact placedOf_any k g h x y w
theorem touch_z (k1 g1 h1 x y k2 g2 h2 u v:Int) (w:World) (hz:(plZ k1 g1 h1 x y&&plZ k2 g2 h2 u v)=false):
 Calls Tryz.prog 90 #[s3 k1 g1 h1,vv x y,s3 k2 g2 h2,vv u v] w fun e w'=>e= .returned (.tuple #[s3 0 0 0,.bool false])∧Below w.heap.size w w':=by
 have hset:=cset_map
 cases a1:plZ k1 g1 h1 x y with
 | false=>
   cases a2:plZ k2 g2 h2 u v with
   | false=>
     clear hz
     go_enter Tryz.func90,Tryz.ntmps90
     go_wp2_with (first
      |(have _:=hb1;go_at_call 113;refine(placedOf_z k2 g2 h2 u v _ _ a2).mono ?_;rintro e w2 ⟨A2,B2,C2,D2,rfl,hb2⟩;have hz2:=hb2.size;(try simp only[zz] at hz2);have:=kf5 hb2 w.heap.size;have:=kfa hb2 w1.heap.size)
      |(go_at_call 113;refine(placedOf_z k1 g1 h1 x y _ _ a1).mono ?_;rintro e w1 ⟨A1,B1,C1,D1,rfl,hb1⟩;have hz1:=hb1.size;(try simp only[zz] at hz1);have:=kf5 hb1 w.heap.size))
     exact bodyPost_ret (v:= .tuple #[s3 0 0 0,.bool false]) (by simp[results,Tryz.results90,go_sem, *]) rfl ⟨rfl,bel_a⟩
   | true=>
     clear hz
     go_enter Tryz.func90,Tryz.ntmps90
     go_wp2_with (first
      |(have _:=hb1;go_at_call 113;refine(placedOf_z k2 g2 h2 u v _ _ a2).mono ?_;rintro e w2 ⟨A2,B2,C2,D2,rfl,hb2⟩;have hz2:=hb2.size;(try simp only[zz] at hz2);have:=kf5 hb2 w.heap.size;have:=kfa hb2 w1.heap.size)
      |(go_at_call 113;refine(placedOf_z k1 g1 h1 x y _ _ a1).mono ?_;rintro e w1 ⟨A1,B1,C1,D1,rfl,hb1⟩;have hz1:=hb1.size;(try simp only[zz] at hz1);have:=kf5 hb1 w.heap.size))
     exact bodyPost_ret (v:= .tuple #[s3 0 0 0,.bool false]) (by simp[results,Tryz.results90,go_sem, *]) rfl ⟨rfl,bel_a⟩
 | true=>
   cases a2:plZ k2 g2 h2 u v with
   | false=>
     clear hz
     go_enter Tryz.func90,Tryz.ntmps90
     go_wp2_with (first
      |(have _:=hb1;go_at_call 113;refine(placedOf_z k2 g2 h2 u v _ _ a2).mono ?_;rintro e w2 ⟨A2,B2,C2,D2,rfl,hb2⟩;have hz2:=hb2.size;(try simp only[zz] at hz2);have:=kf5 hb2 w.heap.size;have:=kfa hb2 w1.heap.size)
      |(go_at_call 113;refine(placedOf_z k1 g1 h1 x y _ _ a1).mono ?_;rintro e w1 ⟨A1,B1,C1,D1,rfl,hb1⟩;have hz1:=hb1.size;(try simp only[zz] at hz1);have:=kf5 hb1 w.heap.size))
     exact bodyPost_ret (v:= .tuple #[s3 0 0 0,.bool false]) (by simp[results,Tryz.results90,go_sem, *]) rfl ⟨rfl,bel_a⟩
   |true=>rw[a1,a2] at hz;cases hz
theorem touch_q (k1 g1 h1 x y k2 g2 h2 u v X Y D:Int) (J:Bool) (w:World) (e:toT k1 g1 h1 x y k2 g2 h2 u v=((X,Y,D),J)):
 Calls Tryz.prog 90 #[s3 k1 g1 h1,vv x y,s3 k2 g2 h2,vv u v] w fun e w'=>e= .returned (.tuple #[s3 X Y D,.bool J])∧Below w.heap.size w w':=by
 cases hz:(plZ k1 g1 h1 x y&&plZ k2 g2 h2 u v) with
 | false=>
   have e2:toT k1 g1 h1 x y k2 g2 h2 u v=((0,0,0),false):=by
    unfold toT;rw[if_neg ?_]
    intro h
    unfold plZ at hz
    simp only[Bool.and_eq_true] at h
    rw[h.1,h.2.1,h.2.2.1,h.2.2.2] at hz
    cases hz
   rw[e2] at e
   simp only[Prod.mk.injEq] at e
   obtain⟨⟨eX,eY,eD⟩,eK⟩:=e
   subst eX
   subst eY
   subst eD
   subst eK
   exact touch_z k1 g1 h1 x y k2 g2 h2 u v w hz
 | true=>
   unfold plZ at hz
   simp only[Bool.and_eq_true] at hz
   obtain⟨⟨s1,p1⟩,s2,p2⟩:=hz
   obtain⟨⟨x0,x1⟩,y0,y1⟩:=inB_of p1
   obtain⟨⟨u0,u1⟩,v0,v1⟩:=inB_of p2
   have e3:tcT k1 g1 h1 x y k2 g2 h2 u v=((X,Y,D),J):=by rw[←e];unfold toT;rw[if_pos (by simp[*])]
   clear e
   rcases shB_kinds s1 with⟨rfl,rfl,a0,a1⟩|⟨rfl,a0,a1,a2,a3⟩
   · rcases shB_kinds s2 with⟨rfl,rfl,b0,b1⟩|⟨rfl,b0,b1,b2,b3⟩
     · exact touch_g _ 1 g1 0 g1 1 g2 0 g2 x y u v X Y D J w (fun w=>placedOf_r g1 x y w (by omega) p1) (fun w=>placedOf_r g2 u v w (by omega) p2) (fun w=>toucherOf_rr w) (.inl rfl) (fun w=>roundsTouch_q x y g1 g1 u v g2 g2 X Y D J w (by omega) (by omega) (by omega) (by omega) (by omega) (by omega) e3)
     · exact touch_g _ 1 g1 0 g1 2 g2 h2 h2 x y u v X Y D J w (fun w=>placedOf_r g1 x y w (by omega) p1) (fun w=>placedOf_b g2 h2 u v w (by omega) (by omega) p2) (fun w=>toucherOf_rb w) (.inr (.inl rfl)) (fun w=>roundTouchesBox_q x y g1 g1 u v g2 h2 X Y D J w (by omega) (by omega) (by omega) (by omega) (by omega) (by omega) (by omega) e3)
   · rcases shB_kinds s2 with⟨rfl,rfl,b0,b1⟩|⟨rfl,b0,b1,b2,b3⟩
     · exact touch_g _ 2 g1 h1 h1 1 g2 0 g2 x y u v X Y D J w (fun w=>placedOf_b g1 h1 x y w (by omega) (by omega) p1) (fun w=>placedOf_r g2 u v w (by omega) p2) (fun w=>toucherOf_br w) (.inr (.inr (.inl rfl))) (fun w=>boxTouchesRound_q x y g1 h1 u v g2 g2 X Y D J w (by omega) (by omega) (by omega) (by omega) (by omega) (by omega) (by omega) e3)
     · exact touch_g _ 2 g1 h1 h1 2 g2 h2 h2 x y u v X Y D J w (fun w=>placedOf_b g1 h1 x y w (by omega) (by omega) p1) (fun w=>placedOf_b g2 h2 u v w (by omega) (by omega) p2) (fun w=>toucherOf_bb w) (.inr (.inr (.inr rfl))) (fun w=>boxesTouch_q x y g1 h1 u v g2 h2 X Y D J w (by omega) (by omega) (by omega) (by omega) (by omega) (by omega) (by omega) (by omega) e3)
theorem place_any (k:Int) (w:World):
 Calls Tryz.prog 53 #[.int .i64 k] w fun e w'=>e= .returned (.int .i64 k)∧Below w.heap.size w w':=by
 go_enter Tryz.func53,Tryz.ntmps53
 go_wp2
 go_ret
 exact⟨rfl,bel_a⟩
theorem kTouch {cb n k cb' n' k':Nat} {V V':Nat→Int} {G G':Nat→Nat} {w:World} (h:HAt w cb n k V G) (h':HAt w cb' n' k' V' G') (X Y D:Int) (J:Bool) (e:toT (V 1) (V 2) (V 3) (V 4) (V 5) (V' 1) (V' 2) (V' 3) (V' 4) (V' 5)=((X,Y,D),J)):
 Calls Tryz.prog 52 #[hdk cb k,hdk cb' k'] w fun e w'=>e= .returned (.tuple #[s3 X Y D,.bool J])∧Below w.heap.size w w':=by
 have hset:=cset_map
 go_enter Tryz.func52,Tryz.ntmps52
 go_upto_region 1 with fail
 refine wp_region_held_drew (S:=fun w'=>w'.cell? ⟨w.heap.size,0,none⟩=some (.int .i64 (k:Int))∧w'.cell? ⟨w.heap.size,1,none⟩=some (.pointer (some ⟨cb,0,none⟩))∧w'.cell? ⟨w.heap.size+1,0,none⟩=some (.int .i64 (k':Int))∧w'.cell? ⟨w.heap.size+1,1,none⟩=some (.pointer (some ⟨cb',0,none⟩))) (by kernel_rfl) ?_ (fun hHeld=> ?_)
 · (try dsimp only)
   (first|(go_simp;done)|(go_keep;done))
 refine tq 0 hHeld ?_
 refine tq 2 hHeld ?_
 refine tq 5 hHeld ?_
 refine tq 7 hHeld ?_
 (refine tc 1 fun K hK=> ?_;go_simp;(go_at_call 61;refine(kShape (HAt.below h (bel_a))).mono ?_;rintro e w1 ⟨rfl,hb1⟩;have hz1:=hb1.size;(try simp only[zz] at hz1);have:=kf3 hb1 w.heap.size);(try go_wp2_with fail);refine tr hK (fun hHeld=> ?_);clear hK K)
 (refine tc 3 fun K hK=> ?_;go_simp;(go_at_call 56;refine(kAt (HAt.below h (bel_a))).mono ?_;rintro e w2 ⟨rfl,hb2⟩;have hz2:=hb2.size;(try simp only[zz] at hz2);have:=kf3 hb2 w.heap.size);(try go_wp2_with fail);refine tr hK (fun hHeld=> ?_);clear hK K)
 (refine tc 4 fun K hK=> ?_;go_simp;(go_at_call 32;refine(vec_any _ _ _).mono ?_;rintro e w3 ⟨rfl,hb3⟩;have hz3:=hb3.size;(try simp only[zz] at hz3);have:=kf3 hb3 w.heap.size);(try go_wp2_with fail);refine tr hK (fun hHeld=> ?_);clear hK K)
 (refine tc 6 fun K hK=> ?_;go_simp;(go_at_call 61;refine(kShape (HAt.below h' (bel_a))).mono ?_;rintro e w4 ⟨rfl,hb4⟩;have hz4:=hb4.size;(try simp only[zz] at hz4);have:=kf3 hb4 w.heap.size);(try go_wp2_with fail);refine tr hK (fun hHeld=> ?_);clear hK K)
 (refine tc 8 fun K hK=> ?_;go_simp;(go_at_call 56;refine(kAt (HAt.below h' (bel_a))).mono ?_;rintro e w5 ⟨rfl,hb5⟩;have hz5:=hb5.size;(try simp only[zz] at hz5);have:=kf3 hb5 w.heap.size);(try go_wp2_with fail);refine tr hK (fun hHeld=> ?_);clear hK K)
 (refine tc 9 fun K hK=> ?_;go_simp;(go_at_call 32;refine(vec_any _ _ _).mono ?_;rintro e w6 ⟨rfl,hb6⟩;have hz6:=hb6.size;(try simp only[zz] at hz6);have:=kf3 hb6 w.heap.size);(try go_wp2_with fail);refine tr hK (fun hHeld=> ?_);clear hK K)
 (refine tc 10 fun K hK=> ?_;go_simp;(go_at_call 90;refine(touch_q _ _ _ _ _ _ _ _ _ _ X Y D J _ (by with_reducible assumption)).mono ?_;rintro e w7 ⟨rfl,hb7⟩;have hz7:=hb7.size;(try simp only[zz] at hz7);have:=kf3 hb7 w.heap.size);(try go_wp2_with fail);refine tr hK (fun hHeld=> ?_);clear hK K)
 refine tq 11 hHeld ?_
 refine tq 12 hHeld ?_
 (refine tc 13 fun K hK=> ?_;go_simp;refine tr hK (fun hHeld=> ?_);clear hK K)
 refine tq 14 hHeld ?_
 refine wpAnyH_done (by kernel_rfl) ?_ _
 go_wp2_with fail
 exact bodyPost_ret (v:= .tuple #[s3 X Y D,.bool J]) (by simp[results,Tryz.results52,go_sem, *]) rfl ⟨rfl,bel_a⟩
theorem cells5 (w:World) (p q r s u:Int) (t:TypeId):∀ j,j<5→(w.alloc (Obj.cells #[.int .i64 p,.int .i64 q,.int .i64 r,.int .i64 s,.int .i64 u] t)).cell? ⟨w.heap.size,j,none⟩=some (.int .i64 (ofL [p,q,r,s,u] j)):=by
 intro j hj
 rcases(show j=0∨j=1∨j=2∨j=3∨j=4 by omega) with rfl|rfl|rfl|rfl|rfl<;>(simp only[ofL];go_simp;(try rfl))
theorem kFixed_q {cb n k:Nat} {V:Nat→Int} {G:Nat→Nat} {w:World} (h:HAt w cb n k V G) {b:Bool} (e:decide (V 8=0)=b):
 Calls Tryz.prog 51 #[hdk cb k] w fun e w'=>e= .returned (.bool b)∧Below w.heap.size w w':=by subst e;exact kFixed h
theorem contacts_any (cb n:Nat) (C:Nat→Nat→Int) (S:Nat→Value) (w:World) (hC:Cs w cb n C S) (hn:n≤12):
 Calls Tryz.prog 22 #[.pointer (some ⟨cb,0,none⟩)] w fun e w'=>∃ a m c,e= .returned (.slice a m c)∧(conL C n).length=m*5∧OutL w w' 40 5 a m c (ofL (conL C n)):=by
 have hset:=cset_map
 have hcl0:=hC.lt
 refine calls_of_wp_marks Tryz.func22 rfl ?_
 simp only[Tryz.ntmps22,List.size_toArray,List.length_cons,List.length_nil,Nat.reduceAdd,Nat.reduceSub,Array.replicate_succ,Array.replicate_zero,List.push_toArray,List.append_toArray,List.nil_append,List.cons_append]
 go_wp2
 have hE:Below w.heap.size w ((w.alloc (Obj.cells #[(.pointer (some ⟨cb,0,none⟩))] 53)).alloc (Obj.cells #[.slice none 0 0] 28)):=((Below.refl _ _).alloc (Nat.le_refl _) _).alloc (by simp) _
 have hC2:=hC.below hE
 have r1:((w.alloc (Obj.cells #[(.pointer (some ⟨cb,0,none⟩))] 53)).alloc (Obj.cells #[.slice none 0 0] 28)).cell? ⟨w.heap.size,0,none⟩=some (.pointer (some ⟨cb,0,none⟩)):=by go_simp
 have hA:LsAt ((w.alloc (Obj.cells #[(.pointer (some ⟨cb,0,none⟩))] 53)).alloc (Obj.cells #[.slice none 0 0] 28)) ((w.alloc (Obj.cells #[(.pointer (some ⟨cb,0,none⟩))] 53)).alloc (Obj.cells #[.slice none 0 0] 28)) (w.heap.size+1) 40 5 none 0 0 []:=LsAt.start (by go_simp) (by go_simp)
 have hz2:((w.alloc (Obj.cells #[(.pointer (some ⟨cb,0,none⟩))] 53)).alloc (Obj.cells #[.slice none 0 0] 28)).heap.size=w.heap.size+1+1:=by simp
 generalize ((w.alloc (Obj.cells #[(.pointer (some ⟨cb,0,none⟩))] 53)).alloc (Obj.cells #[.slice none 0 0] 28))=w2 at hE hC2 r1 hA hz2 ⊢
 have hXl:∀ b,Xc S b→b<w.heap.size:=fun b hb=>(hC.xlt hb).2
 have hlb0:w.heap.size<w.heap.size+1:=by omega
 have hlb:w.heap.size+1<w2.heap.size:=by omega
 generalize w.heap.size+1=lb at hA hlb0 hlb ⊢
 have hcl:=hC2.lt
 obtain⟨ad,cc,hS0⟩:=(hC2.own 0 (by omega)).is
 have hd0:=hC2.hd 0 (by omega)
 rw[hS0] at hd0
 refine wp_range_out (gf:=29) (bound:= #[(.pointer (some ⟨cb,0,none⟩))]) rfl each_enters (each_it cb n _ _ w2 hcl hd0 (by omega)) (fun _=>rfl) (fun i W=>∃ a m c,LsAt w2 W lb 40 5 a m c (conOut C n i)) (fun _ _=>False) ?_ (fun _ _ _ h _=>h) ⟨_,_,_,hA⟩ ?round ?done (fun _ _ _ _ h _=>h.elim)
 · rintro i A B ⟨a,m,c,h1⟩ hs
   exact⟨a,m,c,h1.sm hs (Nat.le_refl _)⟩
 case round=>
  rintro l0 i W hl0 ⟨a,m,c,hL⟩ hi
  simp only[List.zip_toArray,List.zip_cons_cons,List.zip_nil_left,List.foldl_toArray,List.foldl_cons,List.foldl_nil,List.setIfInBounds_toArray,List.set_cons_succ,List.set_cons_zero]
  refine wpIn_region_plain (by rintro⟨_,_,h⟩;exact h) (by kernel_rfl) ?_
  go_wp2
  refine⟨(KeepsOthers.alloc _ _).from _,fun W2 hS hr=> ?_⟩
  obtain⟨rr,hrr⟩:=hr
  have hzW:=hL.fr.size
  have hL2:LsAt w2 W2 lb 40 5 a m c (conOut C n i):=(hL.below ((Below.refl _ _).alloc (Nat.le_refl _) _)).sm hS (Nat.le_refl _)
  have v0:W2.cell? ⟨W.heap.size,0,none⟩=some (.int .i64 (i:Int)):=hS.cell (by go_simp)
  have v1:W2.cell? ⟨W.heap.size,1,none⟩=some (.pointer (some ⟨cb,0,none⟩)):=hS.cell (by go_simp)
  have hz3:W.heap.size<W2.heap.size:=by have:=hS.size;simp at this;omega
  have hob0:∀ b,(Value.slice a m c).ownBlock=some b→b≠W.heap.size:=fun b e=>by have:=(hL.own.lt b e).2;omega
  generalize W.heap.size=ba at v0 v1 hz3 hzW hob0 ⊢
  clear hS hL
  have r1':W2.cell? ⟨w.heap.size,0,none⟩=some (.pointer (some ⟨cb,0,none⟩)):=(hL2.fr.cell (p:=⟨w.heap.size,0,none⟩) (by simp;omega) (by simp;omega)).trans r1
  have hCW:=hC2.frame hL2.fr (by omega) (fun b hb=>by have:=hXl b hb;omega)
  have hdW:=hCW.hd 0 (by omega)
  rw[hS0] at hdW
  refine wpIn_block ?_
  refine wpIn_seq_k fun K0 hK0=> ?_
  refine wpIn_region_plain (by rintro⟨_,_,h⟩;exact h) (by kernel_rfl) ?_
  go_wp2
  refine wpIn_block ?_
  refine wpIn_range_in hrr (gf:=29) (bound:= #[(.pointer (some ⟨cb,0,none⟩))]) rfl each_enters (each_it cb n _ _ W2 hCW.lt hdW (by omega)) (fun _=>rfl)
   (fun k X=>(∃ a m c,LsAt w2 X lb 40 5 a m c (conOut C n i++conIn C i k)∧∀ b,(Value.slice a m c).ownBlock=some b→b≠ba)∧X.cell? ⟨ba,0,none⟩=some (.int .i64 (i:Int))∧X.cell? ⟨ba,1,none⟩=some (.pointer (some ⟨cb,0,none⟩))∧KeepsFrom w2.heap.size W2 X∧W2.heap.size≤X.heap.size)
   (fun _ _=>False) ?_ (fun _ _ _ h _=>h) ?_ ?round2 ?done2 (fun _ _ h=>h.elim)
  · rintro k A B ⟨⟨a,m,c,h1,h1'⟩,h2,h3,h4,h5⟩ hs
    exact⟨⟨a,m,c,h1.sm hs hL2.fr.size,h1'⟩,hs.cell h2,hs.cell h3,h4.sm hs (Nat.le_refl _),Nat.le_trans h5 hs.size⟩
  · exact⟨⟨a,m,c,by rw[conIn,List.append_nil];exact hL2,hob0⟩,v0,v1,KeepsFrom.refl _ _,Nat.le_refl _⟩
  case done2=>
   rintro X ⟨⟨a,m,c,h1,h1'⟩,h2,h3,h4,h5⟩
   exact⟨h4,a,m,c,h1⟩
  case round2=>
   rintro l1 k X hl1 ⟨⟨a,m,c,hL3,hoba⟩,x0,x1,hKF,hXz⟩ hk
   simp only[List.zip_toArray,List.zip_cons_cons,List.zip_nil_left,List.foldl_toArray,List.foldl_cons,List.foldl_nil,List.setIfInBounds_toArray,List.set_cons_succ,List.set_cons_zero]
   refine wpIn_region_plain (by rintro⟨_,_,h⟩;exact h) (by kernel_rfl) ?_
   go_wp2
   refine⟨(KeepsOthers.alloc _ _).from _,fun X2 hS2 hr2=> ?_⟩
   clear hr2
   have hE2:Below X.heap.size X (X.alloc (Obj.cells #[.int .i64 (k:Int),.pointer (some ⟨cb,0,none⟩)] 59)):=(Below.refl _ _).alloc (Nat.le_refl _) _
   have hLX:LsAt w2 X2 lb 40 5 a m c (conOut C n i++conIn C i k):=(hL3.below hE2).sm hS2 hL2.fr.size
   have hKX:KeepsFrom w2.heap.size W2 X2:=(hKF.trans ((KeepsOthers.alloc _ _).from _)).sm hS2 (Nat.le_refl _)
   have a0:X2.cell? ⟨ba,0,none⟩=some (.int .i64 (i:Int)):=hS2.cell ((hE2.cell (p:=⟨ba,0,none⟩) (by simp;omega)).trans x0)
   have a1:X2.cell? ⟨ba,1,none⟩=some (.pointer (some ⟨cb,0,none⟩)):=hS2.cell ((hE2.cell (p:=⟨ba,1,none⟩) (by simp;omega)).trans x1)
   have b0:X2.cell? ⟨X.heap.size,0,none⟩=some (.int .i64 (k:Int)):=hS2.cell (by go_simp)
   have b1:X2.cell? ⟨X.heap.size,1,none⟩=some (.pointer (some ⟨cb,0,none⟩)):=hS2.cell (by go_simp)
   have hzX:X.heap.size<X2.heap.size:=by have:=hS2.size;simp at this;omega
   have hown:∀ b,(Value.slice a m c).ownBlock=some b→b<X.heap.size:=fun b hb=>(hL3.own.lt b hb).2
   obtain⟨mm,hm1,hm2⟩:=conOut_len C n i
   obtain⟨mk,hm3,hm4⟩:=conIn_len C i k
   have hm5:=hL3.len
   rw[List.length_append,hm1,hm3] at hm5
   have hm6:i*n≤12*12:=Nat.mul_le_mul (by omega) hn
   clear hS2 hE2 hL3 x0 x1
   generalize X.heap.size=bb at b0 b1 hzX hown hXz ⊢
   have hCX:=hC2.frame hLX.fr (by omega) (fun b hb=>by have:=hXl b hb;omega)
   have stay:∀ Y,Below X2.heap.size X2 Y→conOne C i k=[]→KeepsFrom W2.heap.size X2 Y∧(∃ a m c,LsAt w2 Y lb 40 5 a m c (conOut C n i++conIn C i (k+1))∧∀ b,(Value.slice a m c).ownBlock=some b→b≠ba)∧Y.cell? ⟨ba,0,none⟩=some (.int .i64 (i:Int))∧Y.cell? ⟨ba,1,none⟩=some (.pointer (some ⟨cb,0,none⟩))∧KeepsFrom w2.heap.size W2 Y∧W2.heap.size≤Y.heap.size:=fun Y hb hno=>
    ⟨KeepsFrom.of_below hb,⟨a,m,c,by rw[conIn,hno,List.append_nil];exact hLX.below hb,hoba⟩,(hb.cell (p:=⟨ba,0,none⟩) (by simp;omega)).trans a0,(hb.cell (p:=⟨ba,1,none⟩) (by simp;omega)).trans a1,hKX.trans (KeepsFrom.of_below hb),by have:=hb.size;omega⟩
   have fin:∀ (Y:World) (a':Option Addr) (m' c':Nat) {x:List Int},LsAt w2 Y lb 40 5 a' m' c' ((conOut C n i++conIn C i k)++x)→(∀ b,(Value.slice a' m' c').ownBlock=some b→b≠ba)→Fr (fun b=>b=lb∨(Value.slice a m c).ownBlock=some b) X2 Y→conOne C i k=x→KeepsFrom W2.heap.size X2 Y∧(∃ a m c,LsAt w2 Y lb 40 5 a m c (conOut C n i++conIn C i (k+1))∧∀ b,(Value.slice a m c).ownBlock=some b→b≠ba)∧Y.cell? ⟨ba,0,none⟩=some (.int .i64 (i:Int))∧Y.cell? ⟨ba,1,none⟩=some (.pointer (some ⟨cb,0,none⟩))∧KeepsFrom w2.heap.size W2 Y∧W2.heap.size≤Y.heap.size:=fun Y a' m' c' x hP hnb hF hx=>
    have hn:¬ (ba=lb∨(Value.slice a m c).ownBlock=some ba):=fun q=>q.elim (fun q=>by omega) (fun q=>hoba ba q rfl)
    ⟨hF.keeps _,⟨a',m',c',by rw[conIn,hx,←List.append_assoc];exact hP,hnb⟩,(hF.cell (p:=⟨ba,0,none⟩) (by simp;omega) hn).trans a0,(hF.cell (p:=⟨ba,1,none⟩) (by simp;omega) hn).trans a1,hKX.trans (hF.keeps _),by have:=hF.size;omega⟩
   refine wpIn_block ?_
   refine wpIn_seq_k fun K1 hK1=> ?_
   gi_cut [] from 999 (fun wc=>Below X2.heap.size X2 wc∧i<k∧¬ (C 8 i=0∧C 8 k=0))
   case first=>
    rename_i J9 K9 hJ9 hK9
    refine wpIn_seq_k fun K2 hK2=> ?_
    have meet:∀ a Y,J9 a Y→K9 a Y:=fun a Y h=>hK9 a Y (Met.intro h)
    by_cases hik:i<k
    · have hd1:decide (k≤i)=false:=decide_eq_false (by omega)
      cases hfi:decide (C 8 i=0) with
      | false=>
        have hnf:¬ (C 8 i=0∧C 8 k=0):=fun q=>by rw[decide_eq_true q.1] at hfi;cases hfi
        refine wpIn_region_plain (by rintro⟨_,_,h⟩;exact h) (by kernel_rfl) ?_
        go_wp2_with (go_at_call 51;refine(kFixed_q (Cs.hat hCX hi (by omega)) hfi).mono ?_;rintro e w11 ⟨rfl,hb11⟩;have hz11:=hb11.size;(try simp only[zz] at hz11);have:=kfa hb11 ba;have:=kfa hb11 bb;have:=kfa hb11 lb)
        refine wpIn_cond_false rfl ?_
        refine wpIn_skip ?_
        refine meet _ _ (hJ9 _ _ ?_)
        (repeat apply Exists.intro)
        exact⟨⟨hb11,hik,hnf⟩,rfl⟩
      | true=>
        cases hfk:decide (C 8 k=0) with
        | true=>
          refine wpIn_region_plain (by rintro⟨_,_,h⟩;exact h) (by kernel_rfl) ?_
          go_wp2_with (first|(have _:=hz11;(go_at_call 51;refine(kFixed_q (Cs.hat hCX1 hk (by omega)) hfk).mono ?_;rintro e w12 ⟨rfl,hb12⟩;have hz12:=hb12.size;(try simp only[zz] at hz12);have:=kfa hb12 ba;have:=kfa hb12 bb;have:=kfa hb12 lb))|(go_at_call 51;refine(kFixed_q (Cs.hat hCX hi (by omega)) hfi).mono ?_;rintro e w11 ⟨rfl,hb11⟩;have hz11:=hb11.size;(try simp only[zz] at hz11);have hCX1:=hCX.below hb11;have:=kfa hb11 ba;have:=kfa hb11 bb;have:=kfa hb11 lb))
          refine wpIn_cond_true rfl ?_
          refine wpIn_exit ?_
          exact stay _ (hb11.trans (hb12.mono hb11.size)) (conOne_no (by unfold conB;rw[hfi,hfk];simp))
        | false=>
          refine wpIn_region_plain (by rintro⟨_,_,h⟩;exact h) (by kernel_rfl) ?_
          go_wp2_with (first|(have _:=hz11;(go_at_call 51;refine(kFixed_q (Cs.hat hCX1 hk (by omega)) hfk).mono ?_;rintro e w12 ⟨rfl,hb12⟩;have hz12:=hb12.size;(try simp only[zz] at hz12);have:=kfa hb12 ba;have:=kfa hb12 bb;have:=kfa hb12 lb))|(go_at_call 51;refine(kFixed_q (Cs.hat hCX hi (by omega)) hfi).mono ?_;rintro e w11 ⟨rfl,hb11⟩;have hz11:=hb11.size;(try simp only[zz] at hz11);have hCX1:=hCX.below hb11;have:=kfa hb11 ba;have:=kfa hb11 bb;have:=kfa hb11 lb))
          refine wpIn_cond_false rfl ?_
          refine wpIn_skip ?_
          have hnf:¬ (C 8 i=0∧C 8 k=0):=fun q=>by rw[decide_eq_true q.2] at hfk;cases hfk
          refine meet _ _ (hJ9 _ _ ?_)
          (repeat apply Exists.intro)
          exact⟨⟨hb11.trans (hb12.mono hb11.size),hik,hnf⟩,rfl⟩
    · have hd1:decide (k≤i)=true:=decide_eq_true (by omega)
      refine wpIn_region_plain (by rintro⟨_,_,h⟩;exact h) (by kernel_rfl) ?_
      go_wp2
      refine wpIn_cond_true rfl ?_
      refine wpIn_exit ?_
      exact stay X2 (Below.refl _ _) (conOne_no (conB_ge (by omega)))
   case rest=>
   obtain⟨hbq,hik,hnf⟩:=hcut
   have hz11:=hbq.size
   have a0c:=(hbq.cell (p:=⟨ba,0,none⟩) (by simp;omega)).trans a0
   have a1c:=(hbq.cell (p:=⟨ba,1,none⟩) (by simp;omega)).trans a1
   have b0c:=(hbq.cell (p:=⟨bb,0,none⟩) hzX).trans b0
   have b1c:=(hbq.cell (p:=⟨bb,1,none⟩) hzX).trans b1
   refine hK1 _ _ ?_
   refine wpIn_seq_k fun K3 hK3=> ?_
   obtain⟨TX,TY,TD,TJ,hT⟩:∃ TX TY TD TJ,tcH C i k=((TX,TY,TD),TJ):=⟨_,_,_,_,rfl⟩
   refine wpIn_region_plain (by rintro⟨_,_,h⟩;exact h) (by kernel_rfl) ?_
   go_wp2_with (go_at_call 52;refine(kTouch (Cs.hat (hCX.below hbq) hi (by omega)) (Cs.hat (hCX.below hbq) hk (by omega)) TX TY TD TJ hT).mono ?_;rintro e w13 ⟨rfl,hb13⟩;have hz13:=hb13.size;(try simp only[zz] at hz13);have:=kfa hb13 ba;have:=kfa hb13 bb;have:=kfa hb13 lb)
   have hbZ0:Below X2.heap.size X2 w13:=hbq.trans (hb13.mono hbq.size)
   have hbZ:Below X2.heap.size X2 (w13.alloc (Obj.cells #[.int .i64 TX,.int .i64 TY,.int .i64 TD] 38)):=hbZ0.alloc hbZ0.size _
   have hLZ:=hLX.below hbZ
   have z0:(w13.alloc (Obj.cells #[.int .i64 TX,.int .i64 TY,.int .i64 TD] 38)).cell? ⟨ba,0,none⟩=some (.int .i64 (i:Int)):=(hbZ.cell (p:=⟨ba,0,none⟩) (by simp;omega)).trans a0
   have z1:(w13.alloc (Obj.cells #[.int .i64 TX,.int .i64 TY,.int .i64 TD] 38)).cell? ⟨bb,0,none⟩=some (.int .i64 (k:Int)):=(hbZ.cell (p:=⟨bb,0,none⟩) hzX).trans b0
   have z2:(w13.alloc (Obj.cells #[.int .i64 TX,.int .i64 TY,.int .i64 TD] 38)).cell? ⟨w13.heap.size,0,none⟩=some (.int .i64 TX):=by go_simp
   have z3:(w13.alloc (Obj.cells #[.int .i64 TX,.int .i64 TY,.int .i64 TD] 38)).cell? ⟨w13.heap.size,1,none⟩=some (.int .i64 TY):=by go_simp
   have z4:(w13.alloc (Obj.cells #[.int .i64 TX,.int .i64 TY,.int .i64 TD] 38)).cell? ⟨w13.heap.size,2,none⟩=some (.int .i64 TD):=by go_simp
   have hzb:w13.heap.size<(w13.alloc (Obj.cells #[.int .i64 TX,.int .i64 TY,.int .i64 TD] 38)).heap.size:=by simp
   have hzb3:=hbZ0.size
   generalize (w13.alloc (Obj.cells #[.int .i64 TX,.int .i64 TY,.int .i64 TD] 38))=Z at hbZ hLZ z0 z1 z2 z3 z4 hzb ⊢
   generalize w13.heap.size=bh at z2 z3 z4 hzb hzb3 ⊢
   have n1:lb≠ba:=by omega
   have n2:lb≠bb:=by omega
   have n3:lb≠bh:=by omega
   have zb:=hLZ.box
   have zf:=hLZ.nf
   refine wpIn_seq_k fun K4 hK4=> ?_
   refine wpIn_region_plain (by rintro⟨_,_,h⟩;exact h) (by kernel_rfl) ?_
   go_wp2
   cases TJ with
   | false=>
     refine wpIn_cond_false rfl ?_
     refine wpIn_skip ?_
     exact stay Z hbZ (conOne_no (by unfold conB;rw[hT];simp))
   | true=>
     have hyes:Shut (conOne C i k=[(i:Int),(k:Int),TX,TY,TD]):=conOne_yes (conB_yes hik hnf hT) hT
     refine wpIn_cond_true rfl ?_
     refine wpIn_region_held_drew (S:=fun w'=>w'.cell? ⟨ba,0,none⟩=some (.int .i64 (i:Int))∧w'.cell? ⟨bb,0,none⟩=some (.int .i64 (k:Int))∧w'.cell? ⟨bh,0,none⟩=some (.int .i64 TX)∧w'.cell? ⟨bh,1,none⟩=some (.int .i64 TY)∧w'.cell? ⟨bh,2,none⟩=some (.int .i64 TD)) (by kernel_rfl) (by rintro⟨_,_,h⟩;exact h) (by kernel_rfl) ?_ (fun hHeld=> ?_)
     · (try dsimp only)
       (first|(go_simp;done)|(go_keep;done))
     refine tq 1 hHeld ?_
     refine tq 2 hHeld ?_
     refine tq 4 hHeld ?_
     refine tq 5 hHeld ?_
     refine tq 7 hHeld ?_
     refine wpAnyH_ready (rs:=[0,3]) (by kernel_rfl) (by simp) ?_
     refine AllReadyH.cons rfl (fun K hK=> ?_) (AllReadyH.cons rfl (fun K hK=> ?_) AllReadyH.nil)
     · (go_simp;refine tr hK (fun hHeld=> ?_);clear hK K)
       refine tc 3 fun K hK=> ?_
       (go_simp;(go_at_call 53;refine(place_any _ _).mono ?_;rintro e w14 ⟨rfl,hb14⟩;have hz14:=hb14.size;(try simp only[zz] at hz14);have:=kfa hb14 ba;have:=kfa hb14 bb;have:=kfa hb14 bh;have:=kfa hb14 lb);(try go_wp2_with fail);refine tr hK (fun hHeld=> ?_);clear hK K)
       refine tc 6 fun K hK=> ?_
       (go_simp;(go_at_call 53;refine(place_any _ _).mono ?_;rintro e w15 ⟨rfl,hb15⟩;have hz15:=hb15.size;(try simp only[zz] at hz15);have:=kfa hb15 ba;have:=kfa hb15 bb;have:=kfa hb15 bh;have:=kfa hb15 lb);(try go_wp2_with fail);refine tr hK (fun hHeld=> ?_);clear hK K)
       refine tq 8 hHeld ?_
       refine tc 9 fun K hK=> ?_
       (go_simp;refine tr hK (fun hHeld=> ?_);clear hK K)
       refine tc 10 fun K hK=> ?_
       have hbZ5:Below Z.heap.size Z w15:=hb14.ofDr.trans (hb15.mono hb14.size)
       have hbZ6:Below Z.heap.size Z (w15.alloc (Obj.cells #[.int .i64 (i:Int),.int .i64 (k:Int),.int .i64 TX,.int .i64 TY,.int .i64 TD] 40)):=hbZ5.alloc hbZ5.size _
       have hL6:=hLZ.below hbZ6
       have hz6:=hbZ5.size
       refine step_appk (by rfl) _ _ _ (by rfl) w2.heap.size 40 5 40 (.agg #[.int .i64 0,.int .i64 0,.int .i64 0,.int .i64 0,.int .i64 0]) Tryz.underlying28 (by kernel_rfl) (by rfl) (by omega) (.slice a m c) m (ofL (conOut C n i++conIn C i k)) (by rfl) hL6.own w15.heap.size _ (ofL [(i:Int),(k:Int),TX,TY,TD]) (by rfl) (cells5 w15 _ _ _ _ _ _) (by unfold maxLen;omega) (by omega) (by simp only[World.size_alloc];omega) (w15.heap.size+1) (by simp) ?_
       intro g6 c6 w6 ho6 hg6 hor6 hlt6
       have hP:=hL6.push hlb (x:=[(i:Int),(k:Int),TX,TY,TD]) rfl hg6 ho6
       have hKP:=(Fr.of_below hbZ6).trans (hL6.keeps (a':=some ⟨g6,0,none⟩) (m':=m+1) (c':=c6) hlb hg6)
       have hnb:g6≠ba:=by
        rcases hor6 with q|q
        · exact hoba g6 q
        · omega
       have oz:∀ b,(Value.slice a m c).ownBlock=some b→b<bb∧b≠ba∧lb<b:=fun b e=>⟨hown b e,hoba b e,by have:=(hL6.own.lt b e).1;omega⟩
       have x6a:w6.cell? ⟨ba,0,none⟩=some (.int .i64 (i:Int)):=(hg6.cell_far ⟨ba,0,none⟩ (by simp;omega) (fun e=>(oz ba e.symm).2.1 rfl)).trans (by go_simp)
       have x6b:w6.cell? ⟨bb,0,none⟩=some (.int .i64 (k:Int)):=(hg6.cell_far ⟨bb,0,none⟩ (by simp;omega) (fun e=>by have:=(oz bb e.symm).1;omega)).trans (by go_simp)
       have x6c:w6.cell? ⟨bh,0,none⟩=some (.int .i64 TX):=(hg6.cell_far ⟨bh,0,none⟩ (by simp;omega) (fun e=>by have:=(oz bh e.symm).1;omega)).trans (by go_simp)
       have x6d:w6.cell? ⟨bh,1,none⟩=some (.int .i64 TY):=(hg6.cell_far ⟨bh,1,none⟩ (by simp;omega) (fun e=>by have:=(oz bh e.symm).1;omega)).trans (by go_simp)
       have x6e:w6.cell? ⟨bh,2,none⟩=some (.int .i64 TD):=(hg6.cell_far ⟨bh,2,none⟩ (by simp;omega) (fun e=>by have:=(oz bh e.symm).1;omega)).trans (by go_simp)
       have x6f:w6.cell? ⟨lb,0,none⟩=some (.slice a m c):=(hg6.cell_far ⟨lb,0,none⟩ (by simp;omega) (fun e=>by have:=(oz lb e.symm).2.2;omega)).trans hL6.box
       have x6g:w6.frozen? ⟨lb,0,none⟩=false:=(hg6.frozen_far ⟨lb,0,none⟩ (by simp;omega) (fun e=>by have:=(oz lb e.symm).2.2;omega)).trans hL6.nf
       refine tr hK (fun hHeld=> ?_) ⟨x6a,x6b,x6c,x6d,x6e⟩
       clear hK K
       refine tc 11 fun K hK=> ?_
       (go_simp;refine tr hK (fun hHeld=> ?_);clear hK K)
       refine wpAnyH_done (by kernel_rfl) ?_ _
       exact fin _ _ _ _ hP (fun b e=>by simp only[Value.ownBlock,Option.some.injEq] at e;subst e;exact hnb) ((Fr.of_below hbZ).trans hKP) hyes.out
     · (go_simp;(go_at_call 53;refine(place_any _ _).mono ?_;rintro e w14 ⟨rfl,hb14⟩;have hz14:=hb14.size;(try simp only[zz] at hz14);have:=kfa hb14 ba;have:=kfa hb14 bb;have:=kfa hb14 bh;have:=kfa hb14 lb);(try go_wp2_with fail);refine tr hK (fun hHeld=> ?_);clear hK K)
       refine wpAnyH_ready (rs:=[0,6]) (by kernel_rfl) (by simp) ?_
       refine AllReadyH.cons rfl (fun K hK=> ?_) (AllReadyH.cons rfl (fun K hK=> ?_) AllReadyH.nil)
       · (go_simp;refine tr hK (fun hHeld=> ?_);clear hK K)
         refine tc 6 fun K hK=> ?_
         (go_simp;(go_at_call 53;refine(place_any _ _).mono ?_;rintro e w15 ⟨rfl,hb15⟩;have hz15:=hb15.size;(try simp only[zz] at hz15);have:=kfa hb15 ba;have:=kfa hb15 bb;have:=kfa hb15 bh;have:=kfa hb15 lb);(try go_wp2_with fail);refine tr hK (fun hHeld=> ?_);clear hK K)
         refine tq 8 hHeld ?_
         refine tc 9 fun K hK=> ?_
         (go_simp;refine tr hK (fun hHeld=> ?_);clear hK K)
         refine tc 10 fun K hK=> ?_
         have hbZ5:Below Z.heap.size Z w15:=hb14.ofDr.trans (hb15.mono hb14.size)
         have hbZ6:Below Z.heap.size Z (w15.alloc (Obj.cells #[.int .i64 (i:Int),.int .i64 (k:Int),.int .i64 TX,.int .i64 TY,.int .i64 TD] 40)):=hbZ5.alloc hbZ5.size _
         have hL6:=hLZ.below hbZ6
         have hz6:=hbZ5.size
         refine step_appk (by rfl) _ _ _ (by rfl) w2.heap.size 40 5 40 (.agg #[.int .i64 0,.int .i64 0,.int .i64 0,.int .i64 0,.int .i64 0]) Tryz.underlying28 (by kernel_rfl) (by rfl) (by omega) (.slice a m c) m (ofL (conOut C n i++conIn C i k)) (by rfl) hL6.own w15.heap.size _ (ofL [(i:Int),(k:Int),TX,TY,TD]) (by rfl) (cells5 w15 _ _ _ _ _ _) (by unfold maxLen;omega) (by omega) (by simp only[World.size_alloc];omega) (w15.heap.size+1) (by simp) ?_
         intro g6 c6 w6 ho6 hg6 hor6 hlt6
         have hP:=hL6.push hlb (x:=[(i:Int),(k:Int),TX,TY,TD]) rfl hg6 ho6
         have hKP:=(Fr.of_below hbZ6).trans (hL6.keeps (a':=some ⟨g6,0,none⟩) (m':=m+1) (c':=c6) hlb hg6)
         have hnb:g6≠ba:=by
          rcases hor6 with q|q
          · exact hoba g6 q
          · omega
         have oz:∀ b,(Value.slice a m c).ownBlock=some b→b<bb∧b≠ba∧lb<b:=fun b e=>⟨hown b e,hoba b e,by have:=(hL6.own.lt b e).1;omega⟩
         have x6a:w6.cell? ⟨ba,0,none⟩=some (.int .i64 (i:Int)):=(hg6.cell_far ⟨ba,0,none⟩ (by simp;omega) (fun e=>(oz ba e.symm).2.1 rfl)).trans (by go_simp)
         have x6b:w6.cell? ⟨bb,0,none⟩=some (.int .i64 (k:Int)):=(hg6.cell_far ⟨bb,0,none⟩ (by simp;omega) (fun e=>by have:=(oz bb e.symm).1;omega)).trans (by go_simp)
         have x6c:w6.cell? ⟨bh,0,none⟩=some (.int .i64 TX):=(hg6.cell_far ⟨bh,0,none⟩ (by simp;omega) (fun e=>by have:=(oz bh e.symm).1;omega)).trans (by go_simp)
         have x6d:w6.cell? ⟨bh,1,none⟩=some (.int .i64 TY):=(hg6.cell_far ⟨bh,1,none⟩ (by simp;omega) (fun e=>by have:=(oz bh e.symm).1;omega)).trans (by go_simp)
         have x6e:w6.cell? ⟨bh,2,none⟩=some (.int .i64 TD):=(hg6.cell_far ⟨bh,2,none⟩ (by simp;omega) (fun e=>by have:=(oz bh e.symm).1;omega)).trans (by go_simp)
         have x6f:w6.cell? ⟨lb,0,none⟩=some (.slice a m c):=(hg6.cell_far ⟨lb,0,none⟩ (by simp;omega) (fun e=>by have:=(oz lb e.symm).2.2;omega)).trans hL6.box
         have x6g:w6.frozen? ⟨lb,0,none⟩=false:=(hg6.frozen_far ⟨lb,0,none⟩ (by simp;omega) (fun e=>by have:=(oz lb e.symm).2.2;omega)).trans hL6.nf
         refine tr hK (fun hHeld=> ?_) ⟨x6a,x6b,x6c,x6d,x6e⟩
         clear hK K
         refine tc 11 fun K hK=> ?_
         (go_simp;refine tr hK (fun hHeld=> ?_);clear hK K)
         refine wpAnyH_done (by kernel_rfl) ?_ _
         exact fin _ _ _ _ hP (fun b e=>by simp only[Value.ownBlock,Option.some.injEq] at e;subst e;exact hnb) ((Fr.of_below hbZ).trans hKP) hyes.out
       · (go_simp;(go_at_call 53;refine(place_any _ _).mono ?_;rintro e w15 ⟨rfl,hb15⟩;have hz15:=hb15.size;(try simp only[zz] at hz15);have:=kfa hb15 ba;have:=kfa hb15 bb;have:=kfa hb15 bh;have:=kfa hb15 lb);(try go_wp2_with fail);refine tr hK (fun hHeld=> ?_);clear hK K)
         refine tq 8 hHeld ?_
         refine wpAnyH_ready (rs:=[0,9]) (by kernel_rfl) (by simp) ?_
         refine AllReadyH.cons rfl (fun K hK=> ?_) (AllReadyH.cons rfl (fun K hK=> ?_) AllReadyH.nil)
         · (go_simp;refine tr hK (fun hHeld=> ?_);clear hK K)
           refine tc 9 fun K hK=> ?_
           (go_simp;refine tr hK (fun hHeld=> ?_);clear hK K)
           refine tc 10 fun K hK=> ?_
           have hbZ5:Below Z.heap.size Z w15:=hb14.ofDr.trans (hb15.mono hb14.size)
           have hbZ6:Below Z.heap.size Z (w15.alloc (Obj.cells #[.int .i64 (i:Int),.int .i64 (k:Int),.int .i64 TX,.int .i64 TY,.int .i64 TD] 40)):=hbZ5.alloc hbZ5.size _
           have hL6:=hLZ.below hbZ6
           have hz6:=hbZ5.size
           refine step_appk (by rfl) _ _ _ (by rfl) w2.heap.size 40 5 40 (.agg #[.int .i64 0,.int .i64 0,.int .i64 0,.int .i64 0,.int .i64 0]) Tryz.underlying28 (by kernel_rfl) (by rfl) (by omega) (.slice a m c) m (ofL (conOut C n i++conIn C i k)) (by rfl) hL6.own w15.heap.size _ (ofL [(i:Int),(k:Int),TX,TY,TD]) (by rfl) (cells5 w15 _ _ _ _ _ _) (by unfold maxLen;omega) (by omega) (by simp only[World.size_alloc];omega) (w15.heap.size+1) (by simp) ?_
           intro g6 c6 w6 ho6 hg6 hor6 hlt6
           have hP:=hL6.push hlb (x:=[(i:Int),(k:Int),TX,TY,TD]) rfl hg6 ho6
           have hKP:=(Fr.of_below hbZ6).trans (hL6.keeps (a':=some ⟨g6,0,none⟩) (m':=m+1) (c':=c6) hlb hg6)
           have hnb:g6≠ba:=by
            rcases hor6 with q|q
            · exact hoba g6 q
            · omega
           have oz:∀ b,(Value.slice a m c).ownBlock=some b→b<bb∧b≠ba∧lb<b:=fun b e=>⟨hown b e,hoba b e,by have:=(hL6.own.lt b e).1;omega⟩
           have x6a:w6.cell? ⟨ba,0,none⟩=some (.int .i64 (i:Int)):=(hg6.cell_far ⟨ba,0,none⟩ (by simp;omega) (fun e=>(oz ba e.symm).2.1 rfl)).trans (by go_simp)
           have x6b:w6.cell? ⟨bb,0,none⟩=some (.int .i64 (k:Int)):=(hg6.cell_far ⟨bb,0,none⟩ (by simp;omega) (fun e=>by have:=(oz bb e.symm).1;omega)).trans (by go_simp)
           have x6c:w6.cell? ⟨bh,0,none⟩=some (.int .i64 TX):=(hg6.cell_far ⟨bh,0,none⟩ (by simp;omega) (fun e=>by have:=(oz bh e.symm).1;omega)).trans (by go_simp)
           have x6d:w6.cell? ⟨bh,1,none⟩=some (.int .i64 TY):=(hg6.cell_far ⟨bh,1,none⟩ (by simp;omega) (fun e=>by have:=(oz bh e.symm).1;omega)).trans (by go_simp)
           have x6e:w6.cell? ⟨bh,2,none⟩=some (.int .i64 TD):=(hg6.cell_far ⟨bh,2,none⟩ (by simp;omega) (fun e=>by have:=(oz bh e.symm).1;omega)).trans (by go_simp)
           have x6f:w6.cell? ⟨lb,0,none⟩=some (.slice a m c):=(hg6.cell_far ⟨lb,0,none⟩ (by simp;omega) (fun e=>by have:=(oz lb e.symm).2.2;omega)).trans hL6.box
           have x6g:w6.frozen? ⟨lb,0,none⟩=false:=(hg6.frozen_far ⟨lb,0,none⟩ (by simp;omega) (fun e=>by have:=(oz lb e.symm).2.2;omega)).trans hL6.nf
           refine tr hK (fun hHeld=> ?_) ⟨x6a,x6b,x6c,x6d,x6e⟩
           clear hK K
           refine tc 11 fun K hK=> ?_
           (go_simp;refine tr hK (fun hHeld=> ?_);clear hK K)
           refine wpAnyH_done (by kernel_rfl) ?_ _
           exact fin _ _ _ _ hP (fun b e=>by simp only[Value.ownBlock,Option.some.injEq] at e;subst e;exact hnb) ((Fr.of_below hbZ).trans hKP) hyes.out
         · (go_simp;refine tr hK (fun hHeld=> ?_);clear hK K)
           refine tc 0 fun K hK=> ?_
           (go_simp;refine tr hK (fun hHeld=> ?_);clear hK K)
           refine tc 10 fun K hK=> ?_
           have hbZ5:Below Z.heap.size Z w15:=hb14.ofDr.trans (hb15.mono hb14.size)
           have hbZ6:Below Z.heap.size Z (w15.alloc (Obj.cells #[.int .i64 (i:Int),.int .i64 (k:Int),.int .i64 TX,.int .i64 TY,.int .i64 TD] 40)):=hbZ5.alloc hbZ5.size _
           have hL6:=hLZ.below hbZ6
           have hz6:=hbZ5.size
           refine step_appk (by rfl) _ _ _ (by rfl) w2.heap.size 40 5 40 (.agg #[.int .i64 0,.int .i64 0,.int .i64 0,.int .i64 0,.int .i64 0]) Tryz.underlying28 (by kernel_rfl) (by rfl) (by omega) (.slice a m c) m (ofL (conOut C n i++conIn C i k)) (by rfl) hL6.own w15.heap.size _ (ofL [(i:Int),(k:Int),TX,TY,TD]) (by rfl) (cells5 w15 _ _ _ _ _ _) (by unfold maxLen;omega) (by omega) (by simp only[World.size_alloc];omega) (w15.heap.size+1) (by simp) ?_
           intro g6 c6 w6 ho6 hg6 hor6 hlt6
           have hP:=hL6.push hlb (x:=[(i:Int),(k:Int),TX,TY,TD]) rfl hg6 ho6
           have hKP:=(Fr.of_below hbZ6).trans (hL6.keeps (a':=some ⟨g6,0,none⟩) (m':=m+1) (c':=c6) hlb hg6)
           have hnb:g6≠ba:=by
            rcases hor6 with q|q
            · exact hoba g6 q
            · omega
           have oz:∀ b,(Value.slice a m c).ownBlock=some b→b<bb∧b≠ba∧lb<b:=fun b e=>⟨hown b e,hoba b e,by have:=(hL6.own.lt b e).1;omega⟩
           have x6a:w6.cell? ⟨ba,0,none⟩=some (.int .i64 (i:Int)):=(hg6.cell_far ⟨ba,0,none⟩ (by simp;omega) (fun e=>(oz ba e.symm).2.1 rfl)).trans (by go_simp)
           have x6b:w6.cell? ⟨bb,0,none⟩=some (.int .i64 (k:Int)):=(hg6.cell_far ⟨bb,0,none⟩ (by simp;omega) (fun e=>by have:=(oz bb e.symm).1;omega)).trans (by go_simp)
           have x6c:w6.cell? ⟨bh,0,none⟩=some (.int .i64 TX):=(hg6.cell_far ⟨bh,0,none⟩ (by simp;omega) (fun e=>by have:=(oz bh e.symm).1;omega)).trans (by go_simp)
           have x6d:w6.cell? ⟨bh,1,none⟩=some (.int .i64 TY):=(hg6.cell_far ⟨bh,1,none⟩ (by simp;omega) (fun e=>by have:=(oz bh e.symm).1;omega)).trans (by go_simp)
           have x6e:w6.cell? ⟨bh,2,none⟩=some (.int .i64 TD):=(hg6.cell_far ⟨bh,2,none⟩ (by simp;omega) (fun e=>by have:=(oz bh e.symm).1;omega)).trans (by go_simp)
           have x6f:w6.cell? ⟨lb,0,none⟩=some (.slice a m c):=(hg6.cell_far ⟨lb,0,none⟩ (by simp;omega) (fun e=>by have:=(oz lb e.symm).2.2;omega)).trans hL6.box
           have x6g:w6.frozen? ⟨lb,0,none⟩=false:=(hg6.frozen_far ⟨lb,0,none⟩ (by simp;omega) (fun e=>by have:=(oz lb e.symm).2.2;omega)).trans hL6.nf
           refine tr hK (fun hHeld=> ?_) ⟨x6a,x6b,x6c,x6d,x6e⟩
           clear hK K
           refine tc 11 fun K hK=> ?_
           (go_simp;refine tr hK (fun hHeld=> ?_);clear hK K)
           refine wpAnyH_done (by kernel_rfl) ?_ _
           exact fin _ _ _ _ hP (fun b e=>by simp only[Value.ownBlock,Option.some.injEq] at e;subst e;exact hnb) ((Fr.of_below hbZ).trans hKP) hyes.out
 case done=>
  rintro D W hD ⟨a,m,c,hL⟩ hK
  have hbx:=hL.box
  have hzW:=hL.fr.size
  go_wp2
  refine marks_ret (B:=w2.heap.size) hD rfl hK fun W' hS=>⟨.slice a m c,?_,a,m,c,rfl,hL.len,?_,?_⟩
  · simp[results,Tryz.results22,go_sem, *]
  · exact(hE.trans (hL.fr.below (by omega) (fun b e=>by omega))).trans (hS.below.mono (by omega))
  · exact(hL.own.sm hS).base (by omega)
end Go.Proofs.YthajilkjfkppoaaGreatDoor
