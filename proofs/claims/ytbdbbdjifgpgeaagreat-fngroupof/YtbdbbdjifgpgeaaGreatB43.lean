/- Texts of a proof. -/
import Derived.Test.YtbdbbdjifgpgeaaGreatB7
import Derived.Test.YtbdbbdjifgpgeaaGreatB3
import Derived.Test.YtbdbbdjifgpgeaaGreatB2
import Derived.Test.YtbdbbdjifgpgeaaGreatB42
import Derived.Laws.EntriesVeiled
import Derived.Deep.RegionHeld3
import Derived.Deep.DeepCutAuto
import Derived.Test.YtbdbbdjifgpgeaaGreatB21
import Derived.Test.YtbdbbdjifgpgeaaGreatB8
import Derived.Test.YtbdbbdjifgpgeaaGreatCsOf
import Derived.Test.YtbdbbdjifgpgeaaGreatB5
set_option maxHeartbeats 16000000
set_option maxRecDepth 20000
namespace Go.Proofs.YtbdbbdjifgpgeaaGreat
open Go.RowKit
set_option linter.unusedVariables false
set_option linter.unusedSimpArgs false
def plZ (k g h x y:Int):Bool:=shB k g h&&inB 2560000 x y
theorem placedOf_any (k g h x y:Int) (w:World):Calls Tryz.prog 108 #[s3 k g h,vv x y] w fun e w'=>∃ A B C D:Int,e= .returned (.tuple #[b4 A B C D,.bool (plZ k g h x y)])∧Below w.heap.size w w':=by
 unfold plZ
 cases sh:shB k g h with
 |false=>exact(placedOf_n k g h x y w sh).mono fun e w' ⟨h1,h2⟩=>⟨0,0,0,0,h1,h2⟩
 | true=>
   cases p1:inB 2560000 x y with
   |false=>exact(placedOf_p k g h x y w sh p1).mono fun e w' ⟨h1,h2⟩=>⟨0,0,0,0,h1,h2⟩
   | true=>
     rcases shB_kinds sh with⟨rfl,rfl,a0,a1⟩|⟨rfl,a0,a1,a2,a3⟩
     · exact(placedOf_r g x y w ⟨a0,a1⟩ p1).mono fun e w' ⟨h1,h2⟩=>⟨_,_,_,_,h1,h2⟩
     · exact(placedOf_b g h x y w ⟨a0,a1⟩ ⟨a2,a3⟩ p1).mono fun e w' ⟨h1,h2⟩=>⟨_,_,_,_,h1,h2⟩
theorem touch_g (F:Nat) (k1 g1 h1 q1 k2 g2 h2 q2 x y u v X Y D:Int) (J:Bool) (w:World)
 (c1:∀ w,Calls Tryz.prog 108 #[s3 k1 g1 h1,vv x y] w fun e w'=>e= .returned (.tuple #[b4 x y g1 q1,.bool true])∧Below w.heap.size w w')
 (c2:∀ w,Calls Tryz.prog 108 #[s3 k2 g2 h2,vv u v] w fun e w'=>e= .returned (.tuple #[b4 u v g2 q2,.bool true])∧Below w.heap.size w w')
 (c3:∀ w,Calls Tryz.prog 109 #[.int .i64 k1,.int .i64 k2] w fun e w'=>e= .returned (.func (.func F) #[] #[])∧Below w.heap.size w w')
 (hF:F=117∨F=118∨F=119∨F=120)
 (c4:∀ w,Calls Tryz.prog F #[b4 x y g1 q1,b4 u v g2 q2] w fun e w'=>e= .returned (.tuple #[s3 X Y D,.bool J])∧Below w.heap.size w w'):
 Calls Tryz.prog 100 #[s3 k1 g1 h1,vv x y,s3 k2 g2 h2,vv u v] w fun e w'=>e= .returned (.tuple #[s3 X Y D,.bool J])∧Below w.heap.size w w':=by
 have hset:=cset_map
 rcases hF with rfl|rfl|rfl|rfl
 all_goals
  go_enter Tryz.func100,Tryz.ntmps100
  go_upto_region 5 with(first
   |(have _:=hb1;go_at_call 108;refine(c2 _).mono ?_;rintro e w2 ⟨rfl,hb2⟩;have hz2:=hb2.size;(try simp only[zz] at hz2);have:=kf5 hb2 w.heap.size;have:=kfa hb2 w1.heap.size)
   |(go_at_call 108;refine(c1 _).mono ?_;rintro e w1 ⟨rfl,hb1⟩;have hz1:=hb1.size;(try simp only[zz] at hz1);have:=kf5 hb1 w.heap.size))
  refine wp_region_held_drew (S:=fun w'=>w'.cell? ⟨w.heap.size,0,none⟩=some (.int .i64 k1)∧w'.cell? ⟨w.heap.size+1+1,0,none⟩=some (.int .i64 k2)∧w'.cell? ⟨w1.heap.size,0,none⟩=some (.int .i64 x)∧w'.cell? ⟨w1.heap.size,1,none⟩=some (.int .i64 y)∧w'.cell? ⟨w1.heap.size,2,none⟩=some (.int .i64 g1)∧w'.cell? ⟨w1.heap.size,3,none⟩=some (.int .i64 q1)∧w'.cell? ⟨w2.heap.size,0,none⟩=some (.int .i64 u)∧w'.cell? ⟨w2.heap.size,1,none⟩=some (.int .i64 v)∧w'.cell? ⟨w2.heap.size,2,none⟩=some (.int .i64 g2)∧w'.cell? ⟨w2.heap.size,3,none⟩=some (.int .i64 q2)) (by kernel_rfl) ?_ (fun hHeld=> ?_)
  · (try dsimp only)
    (first|(go_simp;done)|(go_keep;done))
  refine tq 0 hHeld ?_
  refine tq 1 hHeld ?_
  refine tq 2 hHeld ?_
  refine tq 3 hHeld ?_
  refine tq 5 hHeld ?_
  refine tq 6 hHeld ?_
  refine wpAnyH_ready (rs:=[4,11]) (by kernel_rfl) (by simp) ?_
  refine AllReadyH.cons rfl (fun K hK=> ?_) (AllReadyH.cons rfl (fun K hK=> ?_) AllReadyH.nil)
  rotate_left
  (go_simp;refine tr hK (fun hHeld=> ?_);clear hK K;refine tc 4 fun K hK=> ?_)
  rotate_left
  all_goals
   (go_simp;(go_at_call 109;refine(c3 _).mono ?_;rintro e w3 ⟨rfl,hb3⟩;obtain⟨hc3,hf3⟩:=bcell hb3;have hz3:=hb3.size;(try simp only[zz] at hc3 hf3 hz3);have:=kf5 hb3 w.heap.size;have:=kfa hb3 w1.heap.size;have:=kfa hb3 w2.heap.size;(try have q:=kfy hc3 hf3 hz3 (w2.heap.size+1) (by omega);obtain⟨hk3y0,hj3y0,hq3y0,hr3y0,ht3y0⟩:=q);clear hc3 hf3);(try go_wp2_with fail);refine tr hK (fun hHeld=> ?_);clear hK K)
  rotate_left
  refine tc 7 fun K hK=> ?_
  rotate_left
  refine wpAnyH_ready (rs:=[7,11]) (by kernel_rfl) (by simp) ?_
  refine AllReadyH.cons rfl (fun K hK=> ?_) (AllReadyH.cons rfl (fun K hK=> ?_) AllReadyH.nil)
  rotate_left
  (go_simp;refine tr hK (fun hHeld=> ?_);clear hK K;refine tc 7 fun K hK=> ?_)
  all_goals
   (go_simp;(refine(c4 _).mono ?_;rintro e w4 ⟨rfl,hb4⟩;obtain⟨hc4,hf4⟩:=bcell hb4;have hz4:=hb4.size;(try simp only[zz] at hc4 hf4 hz4);have:=kf5 hb4 w.heap.size;have:=kfa hb4 w1.heap.size;have:=kfa hb4 w2.heap.size;(try have q:=kfy hc4 hf4 hz4 (w2.heap.size+1) (by omega);obtain⟨hk4y0,hj4y0,hq4y0,hr4y0,ht4y0⟩:=q);(try have q:=kfy hc4 hf4 hz4 (w3.heap.size) (by omega);obtain⟨hk4y1,hj4y1,hq4y1,hr4y1,ht4y1⟩:=q);clear hc4 hf4);(try go_wp2_with fail);refine tr hK (fun hHeld=> ?_);clear hK K)
   refine tq 8 hHeld ?_
   refine tq 9 hHeld ?_
   refine tq 10 hHeld ?_
  rotate_left
  rotate_left
  (refine tc 11 fun K hK=> ?_;go_simp;refine tr hK (fun hHeld=> ?_);clear hK K)
  all_goals
   (refine tc 12 fun K hK=> ?_;go_simp;refine tr hK (fun hHeld=> ?_);clear hK K)
   refine tq 13 hHeld ?_
   refine wpAnyH_done (by kernel_rfl) ?_ _
   go_wp2_with (go_at_call 110;refine(dentHit_q _ _ _ _).mono ?_;rintro e w5 ⟨rfl,hb5⟩;obtain⟨hc5,hf5⟩:=bcell hb5;have hz5:=hb5.size;(try simp only[zz] at hc5 hf5 hz5);have:=kf5 hb5 w.heap.size;(try have q:=kfy hc5 hf5 hz5 (w2.heap.size+1) (by omega);obtain⟨hk5y0,hj5y0,hq5y0,hr5y0,ht5y0⟩:=q);(try have q:=kfy hc5 hf5 hz5 (w3.heap.size) (by omega);obtain⟨hk5y1,hj5y1,hq5y1,hr5y1,ht5y1⟩:=q);(try have q:=kfy hc5 hf5 hz5 (w4.heap.size) (by omega);obtain⟨hk5y2,hj5y2,hq5y2,hr5y2,ht5y2⟩:=q);clear hc5 hf5)
   exact bodyPost_ret (v:= .tuple #[s3 X Y D,.bool J]) (by simp[results,Tryz.results100,go_sem, *]) rfl ⟨rfl,bel_a⟩
theorem placedOf_z (k g h x y:Int) (b:Bool) (w:World) (e:plZ k g h x y=b):Calls Tryz.prog 108 #[s3 k g h,vv x y] w fun e w'=>∃ A B C D:Int,e= .returned (.tuple #[b4 A B C D,.bool b])∧Below w.heap.size w w':=by
 subst e;exact placedOf_any k g h x y w
theorem touch_z (k1 g1 h1 x y k2 g2 h2 u v:Int) (w:World) (hz:(plZ k1 g1 h1 x y&&plZ k2 g2 h2 u v)=false):
 Calls Tryz.prog 100 #[s3 k1 g1 h1,vv x y,s3 k2 g2 h2,vv u v] w fun e w'=>e= .returned (.tuple #[s3 0 0 0,.bool false])∧Below w.heap.size w w':=by
 have hset:=cset_map
 cases a1:plZ k1 g1 h1 x y with
 | false=>
   cases a2:plZ k2 g2 h2 u v with
   | false=>
     clear hz
     go_enter Tryz.func100,Tryz.ntmps100
     go_wp2_with (first
      |(have _:=hb1;go_at_call 108;refine(placedOf_z k2 g2 h2 u v _ _ a2).mono ?_;rintro e w2 ⟨A2,B2,C2,D2,rfl,hb2⟩;have hz2:=hb2.size;(try simp only[zz] at hz2);have:=kf5 hb2 w.heap.size;have:=kfa hb2 w1.heap.size)
      |(go_at_call 108;refine(placedOf_z k1 g1 h1 x y _ _ a1).mono ?_;rintro e w1 ⟨A1,B1,C1,D1,rfl,hb1⟩;have hz1:=hb1.size;(try simp only[zz] at hz1);have:=kf5 hb1 w.heap.size))
     exact bodyPost_ret (v:= .tuple #[s3 0 0 0,.bool false]) (by simp[results,Tryz.results100,go_sem, *]) rfl ⟨rfl,bel_a⟩
   | true=>
     clear hz
     go_enter Tryz.func100,Tryz.ntmps100
     go_wp2_with (first
      |(have _:=hb1;go_at_call 108;refine(placedOf_z k2 g2 h2 u v _ _ a2).mono ?_;rintro e w2 ⟨A2,B2,C2,D2,rfl,hb2⟩;have hz2:=hb2.size;(try simp only[zz] at hz2);have:=kf5 hb2 w.heap.size;have:=kfa hb2 w1.heap.size)
      |(go_at_call 108;refine(placedOf_z k1 g1 h1 x y _ _ a1).mono ?_;rintro e w1 ⟨A1,B1,C1,D1,rfl,hb1⟩;have hz1:=hb1.size;(try simp only[zz] at hz1);have:=kf5 hb1 w.heap.size))
     exact bodyPost_ret (v:= .tuple #[s3 0 0 0,.bool false]) (by simp[results,Tryz.results100,go_sem, *]) rfl ⟨rfl,bel_a⟩
 | true=>
   cases a2:plZ k2 g2 h2 u v with
   | false=>
     clear hz
     go_enter Tryz.func100,Tryz.ntmps100
     go_wp2_with (first
      |(have _:=hb1;go_at_call 108;refine(placedOf_z k2 g2 h2 u v _ _ a2).mono ?_;rintro e w2 ⟨A2,B2,C2,D2,rfl,hb2⟩;have hz2:=hb2.size;(try simp only[zz] at hz2);have:=kf5 hb2 w.heap.size;have:=kfa hb2 w1.heap.size)
      |(go_at_call 108;refine(placedOf_z k1 g1 h1 x y _ _ a1).mono ?_;rintro e w1 ⟨A1,B1,C1,D1,rfl,hb1⟩;have hz1:=hb1.size;(try simp only[zz] at hz1);have:=kf5 hb1 w.heap.size))
     exact bodyPost_ret (v:= .tuple #[s3 0 0 0,.bool false]) (by simp[results,Tryz.results100,go_sem, *]) rfl ⟨rfl,bel_a⟩
   |true=>rw[a1,a2] at hz;cases hz
theorem touch_q (k1 g1 h1 x y k2 g2 h2 u v X Y D:Int) (J:Bool) (w:World) (e:toT k1 g1 h1 x y k2 g2 h2 u v=((X,Y,D),J)):
 Calls Tryz.prog 100 #[s3 k1 g1 h1,vv x y,s3 k2 g2 h2,vv u v] w fun e w'=>e= .returned (.tuple #[s3 X Y D,.bool J])∧Below w.heap.size w w':=by
 cases hz:(plZ k1 g1 h1 x y&&plZ k2 g2 h2 u v) with
 | false=>
   have e2:toT k1 g1 h1 x y k2 g2 h2 u v=((0,0,0),false):=by
    unfold toT;rw[if_neg ?_]
    intro h
    unfold plZ at hz
    simp only[Bool.and_eq_true] at h
    rw[h.1,h.2.1,h.2.2.1,h.2.2.2] at hz
    cases hz
   rw[e2] at e
   simp only[Prod.mk.injEq] at e
   obtain⟨⟨eX,eY,eD⟩,eK⟩:=e
   subst eX
   subst eY
   subst eD
   subst eK
   exact touch_z k1 g1 h1 x y k2 g2 h2 u v w hz
 | true=>
   unfold plZ at hz
   simp only[Bool.and_eq_true] at hz
   obtain⟨⟨s1,p1⟩,s2,p2⟩:=hz
   obtain⟨⟨x0,x1⟩,y0,y1⟩:=inB_of p1
   obtain⟨⟨u0,u1⟩,v0,v1⟩:=inB_of p2
   have e3:tcT k1 g1 h1 x y k2 g2 h2 u v=((X,Y,D),J):=by rw[←e];unfold toT;rw[if_pos (by simp[*])]
   clear e
   rcases shB_kinds s1 with⟨rfl,rfl,a0,a1⟩|⟨rfl,a0,a1,a2,a3⟩
   · rcases shB_kinds s2 with⟨rfl,rfl,b0,b1⟩|⟨rfl,b0,b1,b2,b3⟩
     · exact touch_g _ 1 g1 0 g1 1 g2 0 g2 x y u v X Y D J w (fun w=>placedOf_r g1 x y w (by omega) p1) (fun w=>placedOf_r g2 u v w (by omega) p2) (fun w=>toucherOf_rr w) (.inl rfl) (fun w=>roundsTouch_q x y g1 g1 u v g2 g2 X Y D J w (by omega) (by omega) (by omega) (by omega) (by omega) (by omega) e3)
     · exact touch_g _ 1 g1 0 g1 2 g2 h2 h2 x y u v X Y D J w (fun w=>placedOf_r g1 x y w (by omega) p1) (fun w=>placedOf_b g2 h2 u v w (by omega) (by omega) p2) (fun w=>toucherOf_rb w) (.inr (.inl rfl)) (fun w=>roundTouchesBox_q x y g1 g1 u v g2 h2 X Y D J w (by omega) (by omega) (by omega) (by omega) (by omega) (by omega) (by omega) e3)
   · rcases shB_kinds s2 with⟨rfl,rfl,b0,b1⟩|⟨rfl,b0,b1,b2,b3⟩
     · exact touch_g _ 2 g1 h1 h1 1 g2 0 g2 x y u v X Y D J w (fun w=>placedOf_b g1 h1 x y w (by omega) (by omega) p1) (fun w=>placedOf_r g2 u v w (by omega) p2) (fun w=>toucherOf_br w) (.inr (.inr (.inl rfl))) (fun w=>boxTouchesRound_q x y g1 h1 u v g2 g2 X Y D J w (by omega) (by omega) (by omega) (by omega) (by omega) (by omega) (by omega) e3)
     · exact touch_g _ 2 g1 h1 h1 2 g2 h2 h2 x y u v X Y D J w (fun w=>placedOf_b g1 h1 x y w (by omega) (by omega) p1) (fun w=>placedOf_b g2 h2 u v w (by omega) (by omega) p2) (fun w=>toucherOf_bb w) (.inr (.inr (.inr rfl))) (fun w=>boxesTouch_q x y g1 h1 u v g2 h2 X Y D J w (by omega) (by omega) (by omega) (by omega) (by omega) (by omega) (by omega) (by omega) e3)
theorem place_any (k:Int) (w:World):
 Calls Tryz.prog 86 #[.int .i64 k] w fun e w'=>e= .returned (.int .i64 k)∧Below w.heap.size w w':=by
 go_enter Tryz.func86,Tryz.ntmps86
 go_wp2
 go_ret
 exact⟨rfl,bel_a⟩
theorem kTouch {cb n k cb' n' k':Nat} {V V':Nat→Int} {G G':Nat→Nat} {w:World} (h:HAt w cb n k V G) (h':HAt w cb' n' k' V' G') (X Y D:Int) (J:Bool) (e:toT (V 1) (V 2) (V 3) (V 4) (V 5) (V' 1) (V' 2) (V' 3) (V' 4) (V' 5)=((X,Y,D),J)):
 Calls Tryz.prog 85 #[hdk cb k,hdk cb' k'] w fun e w'=>e= .returned (.tuple #[s3 X Y D,.bool J])∧Below w.heap.size w w':=by
 have hset:=cset_map
 go_enter Tryz.func85,Tryz.ntmps85
 go_upto_region 1 with fail
 refine wp_region_held_drew (S:=fun w'=>w'.cell? ⟨w.heap.size,0,none⟩=some (.int .i64 (k:Int))∧w'.cell? ⟨w.heap.size,1,none⟩=some (.pointer (some ⟨cb,0,none⟩))∧w'.cell? ⟨w.heap.size+1,0,none⟩=some (.int .i64 (k':Int))∧w'.cell? ⟨w.heap.size+1,1,none⟩=some (.pointer (some ⟨cb',0,none⟩))) (by kernel_rfl) ?_ (fun hHeld=> ?_)
 · (try dsimp only)
   (first|(go_simp;done)|(go_keep;done))
 refine tq 0 hHeld ?_
 refine tq 2 hHeld ?_
 refine tq 5 hHeld ?_
 refine tq 7 hHeld ?_
 (refine tc 1 fun K hK=> ?_;go_simp;(go_at_call 51;refine(kShape (HAt.below h (bel_a))).mono ?_;rintro e w1 ⟨rfl,hb1⟩;have hz1:=hb1.size;(try simp only[zz] at hz1);have:=kf3 hb1 w.heap.size);(try go_wp2_with fail);refine tr hK (fun hHeld=> ?_);clear hK K)
 (refine tc 3 fun K hK=> ?_;go_simp;(go_at_call 52;refine(kAt (HAt.below h (bel_a))).mono ?_;rintro e w2 ⟨rfl,hb2⟩;have hz2:=hb2.size;(try simp only[zz] at hz2);have:=kf3 hb2 w.heap.size);(try go_wp2_with fail);refine tr hK (fun hHeld=> ?_);clear hK K)
 (refine tc 4 fun K hK=> ?_;go_simp;(go_at_call 64;refine(vec_any _ _ _).mono ?_;rintro e w3 ⟨rfl,hb3⟩;have hz3:=hb3.size;(try simp only[zz] at hz3);have:=kf3 hb3 w.heap.size);(try go_wp2_with fail);refine tr hK (fun hHeld=> ?_);clear hK K)
 (refine tc 6 fun K hK=> ?_;go_simp;(go_at_call 51;refine(kShape (HAt.below h' (bel_a))).mono ?_;rintro e w4 ⟨rfl,hb4⟩;have hz4:=hb4.size;(try simp only[zz] at hz4);have:=kf3 hb4 w.heap.size);(try go_wp2_with fail);refine tr hK (fun hHeld=> ?_);clear hK K)
 (refine tc 8 fun K hK=> ?_;go_simp;(go_at_call 52;refine(kAt (HAt.below h' (bel_a))).mono ?_;rintro e w5 ⟨rfl,hb5⟩;have hz5:=hb5.size;(try simp only[zz] at hz5);have:=kf3 hb5 w.heap.size);(try go_wp2_with fail);refine tr hK (fun hHeld=> ?_);clear hK K)
 (refine tc 9 fun K hK=> ?_;go_simp;(go_at_call 64;refine(vec_any _ _ _).mono ?_;rintro e w6 ⟨rfl,hb6⟩;have hz6:=hb6.size;(try simp only[zz] at hz6);have:=kf3 hb6 w.heap.size);(try go_wp2_with fail);refine tr hK (fun hHeld=> ?_);clear hK K)
 (refine tc 10 fun K hK=> ?_;go_simp;(go_at_call 100;refine(touch_q _ _ _ _ _ _ _ _ _ _ X Y D J _ (by with_reducible assumption)).mono ?_;rintro e w7 ⟨rfl,hb7⟩;have hz7:=hb7.size;(try simp only[zz] at hz7);have:=kf3 hb7 w.heap.size);(try go_wp2_with fail);refine tr hK (fun hHeld=> ?_);clear hK K)
 refine tq 11 hHeld ?_
 refine tq 12 hHeld ?_
 (refine tc 13 fun K hK=> ?_;go_simp;refine tr hK (fun hHeld=> ?_);clear hK K)
 refine tq 14 hHeld ?_
 refine wpAnyH_done (by kernel_rfl) ?_ _
 go_wp2_with fail
 exact bodyPost_ret (v:= .tuple #[s3 X Y D,.bool J]) (by simp[results,Tryz.results85,go_sem, *]) rfl ⟨rfl,bel_a⟩
end Go.Proofs.YtbdbbdjifgpgeaaGreat
