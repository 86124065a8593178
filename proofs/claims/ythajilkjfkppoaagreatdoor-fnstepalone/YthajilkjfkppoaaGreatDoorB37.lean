/- Texts of a proof. -/
import Derived.Test.YthajilkjfkppoaaGreatDoorB11
import Derived.Handy
import Derived.Deep.RegionHeld3
import Derived.Deep.DeepCutAuto
import Derived.Test.YthajilkjfkppoaaGreatDoorB6
import Derived.Test.YthajilkjfkppoaaGreatDoorB3
import Derived.Test.YthajilkjfkppoaaGreatDoorB15
set_option maxHeartbeats 16000000
set_option maxRecDepth 20000
namespace Go.Proofs.YthajilkjfkppoaaGreatDoor
open Go.RowKit
set_option linter.unusedVariables false
set_option linter.unusedSimpArgs false
theorem ix4_0 (v0 v1 v2 v3 v4 v5 v6 v7 v8 v9 v10 v11:Int) (w:World):Sem.run Tryz.prog (Instr.index 242 (.agg #[.int .i64 v0,.int .i64 v1,.int .i64 v2,.int .i64 v3,.int .i64 v4,.int .i64 v5,.int .i64 v6,.int .i64 v7,.int .i64 v8,.int .i64 v9,.int .i64 v10,.int .i64 v11]) (.int .i64 0)) w=Result.ok (s3 v0 v1 v2) w:=by
 unfold Instr.index asIntOf
 go_simp
theorem ix4_1 (v0 v1 v2 v3 v4 v5 v6 v7 v8 v9 v10 v11:Int) (w:World):Sem.run Tryz.prog (Instr.index 242 (.agg #[.int .i64 v0,.int .i64 v1,.int .i64 v2,.int .i64 v3,.int .i64 v4,.int .i64 v5,.int .i64 v6,.int .i64 v7,.int .i64 v8,.int .i64 v9,.int .i64 v10,.int .i64 v11]) (.int .i64 1)) w=Result.ok (s3 v3 v4 v5) w:=by
 unfold Instr.index asIntOf
 go_simp
theorem ix4_2 (v0 v1 v2 v3 v4 v5 v6 v7 v8 v9 v10 v11:Int) (w:World):Sem.run Tryz.prog (Instr.index 242 (.agg #[.int .i64 v0,.int .i64 v1,.int .i64 v2,.int .i64 v3,.int .i64 v4,.int .i64 v5,.int .i64 v6,.int .i64 v7,.int .i64 v8,.int .i64 v9,.int .i64 v10,.int .i64 v11]) (.int .i64 2)) w=Result.ok (s3 v6 v7 v8) w:=by
 unfold Instr.index asIntOf
 go_simp
theorem ix4_3 (v0 v1 v2 v3 v4 v5 v6 v7 v8 v9 v10 v11:Int) (w:World):Sem.run Tryz.prog (Instr.index 242 (.agg #[.int .i64 v0,.int .i64 v1,.int .i64 v2,.int .i64 v3,.int .i64 v4,.int .i64 v5,.int .i64 v6,.int .i64 v7,.int .i64 v8,.int .i64 v9,.int .i64 v10,.int .i64 v11]) (.int .i64 3)) w=Result.ok (s3 v9 v10 v11) w:=by
 unfold Instr.index asIntOf
 go_simp
theorem spanDent_q (a b c d r s t u X Y D:Int) (w:World) (qa: -3000000≤a∧a≤3000000) (qb: -3000000≤b∧b≤3000000) (qc: -3000000≤c∧c≤3000000) (qd: -3000000≤d∧d≤3000000) (qr: -3000000≤r∧r≤3000000) (qs: -3000000≤s∧s≤3000000) (qt: -3000000≤t∧t≤3000000) (qu: -3000000≤u∧u≤3000000) (e:bsT (c-r) (t-a) (d-s) (u-b)=(X,Y,D)):
 Calls Tryz.prog 163 #[b4 a b c d,b4 r s t u] w fun e w'=>e= .returned (s3 X Y D)∧Below w.heap.size w w':=by
 have hset:=cset_map
 have hi0:=ix4_0
 have hi1:=ix4_1
 have hi2:=ix4_2
 have hi3:=ix4_3
 obtain⟨s0,es0⟩:∃ z,c-r=z:=⟨_,rfl⟩
 have ws0:=i64w (n:=c-r) (by omega)
 rw[es0] at e ws0
 obtain⟨s1,es1⟩:∃ z,t-a=z:=⟨_,rfl⟩
 have ws1:=i64w (n:=t-a) (by omega)
 rw[es1] at e ws1
 obtain⟨s2,es2⟩:∃ z,d-s=z:=⟨_,rfl⟩
 have ws2:=i64w (n:=d-s) (by omega)
 rw[es2] at e ws2
 obtain⟨s3',es3'⟩:∃ z,u-b=z:=⟨_,rfl⟩
 have ws3':=i64w (n:=u-b) (by omega)
 rw[es3'] at e ws3'
 unfold bsT at e
 cases d1:decide (s1<s0) with
 | true=>
   simp only[if_pos (of_decide_eq_true d1)] at e
   cases d2:decide (s2<s1) with
   | true=>
     simp only[if_pos (of_decide_eq_true d2)] at e
     cases d3:decide (s3'<s2) with
     | true=>
       simp only[if_pos (of_decide_eq_true d3)] at e
       simp only[Prod.mk.injEq] at e
       obtain⟨eX,eY,eD⟩:=e
       subst eX
       subst eY
       subst eD
       go_enter Tryz.func163,Tryz.ntmps163
       go_wp2_with fail
       refine wp_loop_rounds 5 ?_
       rw[rounds_succ]
       go_wp2_with fail
       rw[rounds_succ]
       go_wp2_with fail
       rw[rounds_succ]
       go_wp2_with fail
       rw[rounds_succ]
       go_wp2_with fail
       rw[rounds_succ]
       go_wp2_with fail
       exact bodyPost_ret (v:=s3 0 (-256) s3') (by simp[results,Tryz.results163,go_sem, *]) rfl ⟨rfl,bel_a⟩
     | false=>
       simp only[if_neg (of_decide_eq_false d3)] at e
       simp only[Prod.mk.injEq] at e
       obtain⟨eX,eY,eD⟩:=e
       subst eX
       subst eY
       subst eD
       go_enter Tryz.func163,Tryz.ntmps163
       go_wp2_with fail
       refine wp_loop_rounds 5 ?_
       rw[rounds_succ]
       go_wp2_with fail
       rw[rounds_succ]
       go_wp2_with fail
       rw[rounds_succ]
       go_wp2_with fail
       rw[rounds_succ]
       go_wp2_with fail
       rw[rounds_succ]
       go_wp2_with fail
       exact bodyPost_ret (v:=s3 0 256 s2) (by simp[results,Tryz.results163,go_sem, *]) rfl ⟨rfl,bel_a⟩
   | false=>
     simp only[if_neg (of_decide_eq_false d2)] at e
     cases d3:decide (s3'<s1) with
     | true=>
       simp only[if_pos (of_decide_eq_true d3)] at e
       simp only[Prod.mk.injEq] at e
       obtain⟨eX,eY,eD⟩:=e
       subst eX
       subst eY
       subst eD
       go_enter Tryz.func163,Tryz.ntmps163
       go_wp2_with fail
       refine wp_loop_rounds 5 ?_
       rw[rounds_succ]
       go_wp2_with fail
       rw[rounds_succ]
       go_wp2_with fail
       rw[rounds_succ]
       go_wp2_with fail
       rw[rounds_succ]
       go_wp2_with fail
       rw[rounds_succ]
       go_wp2_with fail
       exact bodyPost_ret (v:=s3 0 (-256) s3') (by simp[results,Tryz.results163,go_sem, *]) rfl ⟨rfl,bel_a⟩
     | false=>
       simp only[if_neg (of_decide_eq_false d3)] at e
       simp only[Prod.mk.injEq] at e
       obtain⟨eX,eY,eD⟩:=e
       subst eX
       subst eY
       subst eD
       go_enter Tryz.func163,Tryz.ntmps163
       go_wp2_with fail
       refine wp_loop_rounds 5 ?_
       rw[rounds_succ]
       go_wp2_with fail
       rw[rounds_succ]
       go_wp2_with fail
       rw[rounds_succ]
       go_wp2_with fail
       rw[rounds_succ]
       go_wp2_with fail
       rw[rounds_succ]
       go_wp2_with fail
       exact bodyPost_ret (v:=s3 (-256) 0 s1) (by simp[results,Tryz.results163,go_sem, *]) rfl ⟨rfl,bel_a⟩
 | false=>
   simp only[if_neg (of_decide_eq_false d1)] at e
   cases d2:decide (s2<s0) with
   | true=>
     simp only[if_pos (of_decide_eq_true d2)] at e
     cases d3:decide (s3'<s2) with
     | true=>
       simp only[if_pos (of_decide_eq_true d3)] at e
       simp only[Prod.mk.injEq] at e
       obtain⟨eX,eY,eD⟩:=e
       subst eX
       subst eY
       subst eD
       go_enter Tryz.func163,Tryz.ntmps163
       go_wp2_with fail
       refine wp_loop_rounds 5 ?_
       rw[rounds_succ]
       go_wp2_with fail
       rw[rounds_succ]
       go_wp2_with fail
       rw[rounds_succ]
       go_wp2_with fail
       rw[rounds_succ]
       go_wp2_with fail
       rw[rounds_succ]
       go_wp2_with fail
       exact bodyPost_ret (v:=s3 0 (-256) s3') (by simp[results,Tryz.results163,go_sem, *]) rfl ⟨rfl,bel_a⟩
     | false=>
       simp only[if_neg (of_decide_eq_false d3)] at e
       simp only[Prod.mk.injEq] at e
       obtain⟨eX,eY,eD⟩:=e
       subst eX
       subst eY
       subst eD
       go_enter Tryz.func163,Tryz.ntmps163
       go_wp2_with fail
       refine wp_loop_rounds 5 ?_
       rw[rounds_succ]
       go_wp2_with fail
       rw[rounds_succ]
       go_wp2_with fail
       rw[rounds_succ]
       go_wp2_with fail
       rw[rounds_succ]
       go_wp2_with fail
       rw[rounds_succ]
       go_wp2_with fail
       exact bodyPost_ret (v:=s3 0 256 s2) (by simp[results,Tryz.results163,go_sem, *]) rfl ⟨rfl,bel_a⟩
   | false=>
     simp only[if_neg (of_decide_eq_false d2)] at e
     cases d3:decide (s3'<s0) with
     | true=>
       simp only[if_pos (of_decide_eq_true d3)] at e
       simp only[Prod.mk.injEq] at e
       obtain⟨eX,eY,eD⟩:=e
       subst eX
       subst eY
       subst eD
       go_enter Tryz.func163,Tryz.ntmps163
       go_wp2_with fail
       refine wp_loop_rounds 5 ?_
       rw[rounds_succ]
       go_wp2_with fail
       rw[rounds_succ]
       go_wp2_with fail
       rw[rounds_succ]
       go_wp2_with fail
       rw[rounds_succ]
       go_wp2_with fail
       rw[rounds_succ]
       go_wp2_with fail
       exact bodyPost_ret (v:=s3 0 (-256) s3') (by simp[results,Tryz.results163,go_sem, *]) rfl ⟨rfl,bel_a⟩
     | false=>
       simp only[if_neg (of_decide_eq_false d3)] at e
       simp only[Prod.mk.injEq] at e
       obtain⟨eX,eY,eD⟩:=e
       subst eX
       subst eY
       subst eD
       go_enter Tryz.func163,Tryz.ntmps163
       go_wp2_with fail
       refine wp_loop_rounds 5 ?_
       rw[rounds_succ]
       go_wp2_with fail
       rw[rounds_succ]
       go_wp2_with fail
       rw[rounds_succ]
       go_wp2_with fail
       rw[rounds_succ]
       go_wp2_with fail
       rw[rounds_succ]
       go_wp2_with fail
       exact bodyPost_ret (v:=s3 256 0 s0) (by simp[results,Tryz.results163,go_sem, *]) rfl ⟨rfl,bel_a⟩
theorem roundsTouch_q (x y g1 h1 u v g2 h2 X Y D:Int) (K:Bool) (w:World) (lg1:1≤g1∧g1≤25600) (lg2:1≤g2∧g2≤25600) (px: -2560000≤x∧x≤2560000) (py: -2560000≤y∧y≤2560000) (pu: -2560000≤u∧u≤2560000) (pv: -2560000≤v∧v≤2560000) (e:rdT (u-x) (v-y) (g1+g2)=((X,Y,D),K)):
 Calls Tryz.prog 140 #[b4 x y g1 h1,b4 u v g2 h2] w fun e w'=>e= .returned (.tuple #[s3 X Y D,.bool K])∧Below w.heap.size w w':=by
 have hset:=cset_map
 have w1:=i64w (n:=g1+g2) (by omega)
 go_enter Tryz.func140,Tryz.ntmps140
 go_upto_region 1 with fail
 refine wp_region_held_drew (S:=fun w'=>w'.cell? ⟨w.heap.size,0,none⟩=some (.int .i64 x)∧w'.cell? ⟨w.heap.size,1,none⟩=some (.int .i64 y)∧w'.cell? ⟨w.heap.size,2,none⟩=some (.int .i64 g1)∧w'.cell? ⟨w.heap.size,3,none⟩=some (.int .i64 h1)∧w'.cell? ⟨w.heap.size+1,0,none⟩=some (.int .i64 u)∧w'.cell? ⟨w.heap.size+1,1,none⟩=some (.int .i64 v)∧w'.cell? ⟨w.heap.size+1,2,none⟩=some (.int .i64 g2)∧w'.cell? ⟨w.heap.size+1,3,none⟩=some (.int .i64 h2)) (by kernel_rfl) ?_ (fun hHeld=> ?_)
 · (try dsimp only)
   (first|(go_simp;done)|(go_keep;done))
 refine tq 0 hHeld ?_
 refine tq 1 hHeld ?_
 refine tq 2 hHeld ?_
 refine tq 3 hHeld ?_
 refine tq 5 hHeld ?_
 refine tq 7 hHeld ?_
 (refine tc 4 fun K hK=> ?_;go_simp;(go_at_call 149;refine(less_any _ _ _ _ _ (by omega) (by omega) (by omega) (by omega)).mono ?_;rintro e w1 ⟨rfl,hb1⟩;have hz1:=hb1.size;(try simp only[zz] at hz1);have:=kf3 hb1 w.heap.size);(try go_wp2_with fail);refine tr hK (fun hHeld=> ?_);clear hK K)
 (refine tc 6 fun K hK=> ?_;go_simp;(go_at_call 159;refine(placedWide_q _ _ _ _ _).mono ?_;rintro e w2 ⟨rfl,hb2⟩;have hz2:=hb2.size;(try simp only[zz] at hz2);have:=kf3 hb2 w.heap.size);(try go_wp2_with fail);refine tr hK (fun hHeld=> ?_);clear hK K)
 (refine tc 8 fun K hK=> ?_;go_simp;(go_at_call 159;refine(placedWide_q _ _ _ _ _).mono ?_;rintro e w3 ⟨rfl,hb3⟩;have hz3:=hb3.size;(try simp only[zz] at hz3);have:=kf3 hb3 w.heap.size);(try go_wp2_with fail);refine tr hK (fun hHeld=> ?_);clear hK K)
 refine tq 9 hHeld ?_
 (refine tc 10 fun K hK=> ?_;go_simp;(go_at_call 158;refine(roundDent_q _ _ _ X Y D _ _ (by omega) (by omega) (by omega) e).mono ?_;rintro e w4 ⟨rfl,hb4⟩;have hz4:=hb4.size;(try simp only[zz] at hz4);have:=kf3 hb4 w.heap.size);(try go_wp2_with fail);refine tr hK (fun hHeld=> ?_);clear hK K)
 refine tq 11 hHeld ?_
 refine tq 12 hHeld ?_
 (refine tc 13 fun K hK=> ?_;go_simp;refine tr hK (fun hHeld=> ?_);clear hK K)
 refine tq 14 hHeld ?_
 refine wpAnyH_done (by kernel_rfl) ?_ _
 go_wp2_with fail
 exact bodyPost_ret (v:= .tuple #[s3 X Y D,.bool K]) (by simp[results,Tryz.results140,go_sem, *]) rfl ⟨rfl,bel_a⟩
theorem smeet_z (a b c d r s t u:Int) (z:Bool) (w:World) (e:(leB a b t u&&leB r s c d)=z):
 Calls Tryz.prog 165 #[b4 a b c d,b4 r s t u] w fun e w'=>e= .returned (.bool z)∧Below w.heap.size w w':=by
 subst e;exact spanMeets_any a b c d r s t u w
theorem shas_z (a b c d r s t u:Int) (z:Bool) (w:World) (e:(leB a b r s&&leB t u c d)=z):
 Calls Tryz.prog 162 #[b4 a b c d,b4 r s t u] w fun e w'=>e= .returned (.bool z)∧Below w.heap.size w w':=by
 subst e;exact spanHas_any a b c d r s t u w
theorem snear_z (a b c d x y X Y:Int) (w:World) (e1:mn (mx x a) c=X) (e2:mn (mx y b) d=Y):
 Calls Tryz.prog 164 #[b4 a b c d,vv x y] w fun e w'=>e= .returned (vv X Y)∧Below w.heap.size w w':=by
 subst e1;subst e2;exact spanNear_any a b c d x y w
theorem boxesTouch_q (x y g1 h1 u v g2 h2 X Y D:Int) (K:Bool) (w:World) (lg1:1≤g1∧g1≤25600) (lh1:1≤h1∧h1≤25600) (lg2:1≤g2∧g2≤25600) (lh2:1≤h2∧h2≤25600) (px: -2560000≤x∧x≤2560000) (py: -2560000≤y∧y≤2560000) (pu: -2560000≤u∧u≤2560000) (pv: -2560000≤v∧v≤2560000) (e:bxT (x-g1) (y-h1) (x+g1) (y+h1) (u-g2) (v-h2) (u+g2) (v+h2)=((X,Y,D),K)):
 Calls Tryz.prog 143 #[b4 x y g1 h1,b4 u v g2 h2] w fun e w'=>e= .returned (.tuple #[s3 X Y D,.bool K])∧Below w.heap.size w w':=by
 have hset:=cset_map
 unfold bxT at e
 cases eM:(leB (x-g1) (y-h1) (u+g2) (v+h2)&&leB (u-g2) (v-h2) (x+g1) (y+h1)) with
 | false=>
   rw[if_neg (by simp[eM])] at e
   simp only[Prod.mk.injEq] at e
   obtain⟨⟨eX,eY,eD⟩,eK⟩:=e
   subst eX
   subst eY
   subst eD
   subst eK
   go_enter Tryz.func143,Tryz.ntmps143
   go_upto_region 1 with fail
   refine wp_region_held_drew (S:=fun w'=>w'.cell? ⟨w.heap.size,0,none⟩=some (.int .i64 x)∧w'.cell? ⟨w.heap.size,1,none⟩=some (.int .i64 y)∧w'.cell? ⟨w.heap.size,2,none⟩=some (.int .i64 g1)∧w'.cell? ⟨w.heap.size,3,none⟩=some (.int .i64 h1)∧w'.cell? ⟨w.heap.size+1,0,none⟩=some (.int .i64 u)∧w'.cell? ⟨w.heap.size+1,1,none⟩=some (.int .i64 v)∧w'.cell? ⟨w.heap.size+1,2,none⟩=some (.int .i64 g2)∧w'.cell? ⟨w.heap.size+1,3,none⟩=some (.int .i64 h2)) (by kernel_rfl) ?_ (fun hHeld=> ?_)
   · (try dsimp only)
     (first|(go_simp;done)|(go_keep;done))
   refine tq 0 hHeld ?_
   refine tq 2 hHeld ?_
   (refine tc 1 fun K hK=> ?_;go_simp;(go_at_call 161;refine(placedBounds_q _ _ _ _ _ (by omega) (by omega) (by omega) (by omega)).mono ?_;rintro e w1 ⟨rfl,hb1⟩;have hz1:=hb1.size;(try simp only[zz] at hz1);have:=kf3 hb1 w.heap.size);(try go_wp2_with fail);refine tr hK (fun hHeld=> ?_);clear hK K)
   (refine tc 3 fun K hK=> ?_;go_simp;(go_at_call 161;refine(placedBounds_q _ _ _ _ _ (by omega) (by omega) (by omega) (by omega)).mono ?_;rintro e w2 ⟨rfl,hb2⟩;have hz2:=hb2.size;(try simp only[zz] at hz2);have:=kf3 hb2 w.heap.size);(try go_wp2_with fail);refine tr hK (fun hHeld=> ?_);clear hK K)
   (refine tc 4 fun K hK=> ?_;go_simp;(go_at_call 165;refine(smeet_z _ _ _ _ _ _ _ _ _ _ eM).mono ?_;rintro e w3 ⟨rfl,hb3⟩;have hz3:=hb3.size;(try simp only[zz] at hz3);have:=kf3 hb3 w.heap.size);(try go_wp2_with fail);refine tr hK (fun hHeld=> ?_);clear hK K)
   refine tq 5 hHeld ?_
   refine wpAnyH_done (by kernel_rfl) ?_ _
   go_wp2_with fail
   exact bodyPost_ret (v:= .tuple #[s3 0 0 0,.bool false]) (by simp[results,Tryz.results143,go_sem, *]) rfl ⟨rfl,bel_a⟩
 | true=>
   rw[if_pos eM] at e
   obtain⟨⟨P,Q,E⟩,eD⟩:∃ z,bsT (x+g1-(u-g2)) (u+g2-(x-g1)) (y+h1-(v-h2)) (v+h2-(y-h1))=z:=⟨_,rfl⟩
   rw[eD] at e
   simp only[Prod.mk.injEq] at e
   obtain⟨⟨eX,eY,eZ⟩,eK⟩:=e
   subst eX
   subst eY
   subst eZ
   subst eK
   go_enter Tryz.func143,Tryz.ntmps143
   go_upto_region 1 with fail
   refine wp_region_held_drew (S:=fun w'=>w'.cell? ⟨w.heap.size,0,none⟩=some (.int .i64 x)∧w'.cell? ⟨w.heap.size,1,none⟩=some (.int .i64 y)∧w'.cell? ⟨w.heap.size,2,none⟩=some (.int .i64 g1)∧w'.cell? ⟨w.heap.size,3,none⟩=some (.int .i64 h1)∧w'.cell? ⟨w.heap.size+1,0,none⟩=some (.int .i64 u)∧w'.cell? ⟨w.heap.size+1,1,none⟩=some (.int .i64 v)∧w'.cell? ⟨w.heap.size+1,2,none⟩=some (.int .i64 g2)∧w'.cell? ⟨w.heap.size+1,3,none⟩=some (.int .i64 h2)) (by kernel_rfl) ?_ (fun hHeld=> ?_)
   · (try dsimp only)
     (first|(go_simp;done)|(go_keep;done))
   refine tq 0 hHeld ?_
   refine tq 2 hHeld ?_
   (refine tc 1 fun K hK=> ?_;go_simp;(go_at_call 161;refine(placedBounds_q _ _ _ _ _ (by omega) (by omega) (by omega) (by omega)).mono ?_;rintro e w1 ⟨rfl,hb1⟩;have hz1:=hb1.size;(try simp only[zz] at hz1);have:=kf3 hb1 w.heap.size);(try go_wp2_with fail);refine tr hK (fun hHeld=> ?_);clear hK K)
   (refine tc 3 fun K hK=> ?_;go_simp;(go_at_call 161;refine(placedBounds_q _ _ _ _ _ (by omega) (by omega) (by omega) (by omega)).mono ?_;rintro e w2 ⟨rfl,hb2⟩;have hz2:=hb2.size;(try simp only[zz] at hz2);have:=kf3 hb2 w.heap.size);(try go_wp2_with fail);refine tr hK (fun hHeld=> ?_);clear hK K)
   (refine tc 4 fun K hK=> ?_;go_simp;(go_at_call 165;refine(smeet_z _ _ _ _ _ _ _ _ _ _ eM).mono ?_;rintro e w3 ⟨rfl,hb3⟩;have hz3:=hb3.size;(try simp only[zz] at hz3);have:=kf3 hb3 w.heap.size);(try go_wp2_with fail);refine tr hK (fun hHeld=> ?_);clear hK K)
   refine tq 5 hHeld ?_
   refine wpAnyH_done (by kernel_rfl) ?_ _
   go_upto_region 3 with fail
   refine wp_region_held_drew (S:=fun w'=>w'.cell? ⟨w.heap.size,0,none⟩=some (.int .i64 x)∧w'.cell? ⟨w.heap.size,1,none⟩=some (.int .i64 y)∧w'.cell? ⟨w.heap.size,2,none⟩=some (.int .i64 g1)∧w'.cell? ⟨w.heap.size,3,none⟩=some (.int .i64 h1)∧w'.cell? ⟨w.heap.size+1,0,none⟩=some (.int .i64 u)∧w'.cell? ⟨w.heap.size+1,1,none⟩=some (.int .i64 v)∧w'.cell? ⟨w.heap.size+1,2,none⟩=some (.int .i64 g2)∧w'.cell? ⟨w.heap.size+1,3,none⟩=some (.int .i64 h2)) (by kernel_rfl) ?_ (fun hHeld=> ?_)
   · (try dsimp only)
     (first|(go_simp;done)|(go_keep;done))
   refine tq 0 hHeld ?_
   refine tq 2 hHeld ?_
   (refine tc 1 fun K hK=> ?_;go_simp;(go_at_call 161;refine(placedBounds_q _ _ _ _ _ (by omega) (by omega) (by omega) (by omega)).mono ?_;rintro e w4 ⟨rfl,hb4⟩;have hz4:=hb4.size;(try simp only[zz] at hz4);have:=kf3 hb4 w.heap.size);(try go_wp2_with fail);refine tr hK (fun hHeld=> ?_);clear hK K)
   (refine tc 3 fun K hK=> ?_;go_simp;(go_at_call 161;refine(placedBounds_q _ _ _ _ _ (by omega) (by omega) (by omega) (by omega)).mono ?_;rintro e w5 ⟨rfl,hb5⟩;have hz5:=hb5.size;(try simp only[zz] at hz5);have:=kf3 hb5 w.heap.size);(try go_wp2_with fail);refine tr hK (fun hHeld=> ?_);clear hK K)
   (refine tc 4 fun K hK=> ?_;go_simp;(go_at_call 163;refine(spanDent_q _ _ _ _ _ _ _ _ P Q E _ (by omega) (by omega) (by omega) (by omega) (by omega) (by omega) (by omega) (by omega) eD).mono ?_;rintro e w6 ⟨rfl,hb6⟩;have hz6:=hb6.size;(try simp only[zz] at hz6);have:=kf3 hb6 w.heap.size);(try go_wp2_with fail);refine tr hK (fun hHeld=> ?_);clear hK K)
   (refine tc 5 fun K hK=> ?_;go_simp;refine tr hK (fun hHeld=> ?_);clear hK K)
   refine tq 6 hHeld ?_
   refine wpAnyH_done (by kernel_rfl) ?_ _
   go_wp2_with fail
   exact bodyPost_ret (v:= .tuple #[s3 P Q E,.bool true]) (by simp[results,Tryz.results143,go_sem, *]) rfl ⟨rfl,bel_a⟩
end Go.Proofs.YthajilkjfkppoaaGreatDoor
