/- Texts of a proof. -/
import Derived.Test.YthajilkjfkppoaaGreatDoorB5
import Derived.Test.YthajilkjfkppoaaGreatDoorB9
import Derived.Test.YthajilkjfkppoaaGreatDoorB7
import Derived.Test.YthajilkjfkppoaaGreatDoorB3
import Derived.Deep.RegionHeld3
import Derived.Deep.DeepCutAuto
import Derived.Test.YthajilkjfkppoaaGreatDoorB6
import Derived.Test.YthajilkjfkppoaaGreatDoorB10
set_option maxHeartbeats 16000000
set_option maxRecDepth 20000
namespace Go.Proofs.YthajilkjfkppoaaGreatDoor
open Go.RowKit
set_option linter.unusedVariables false
set_option linter.unusedSimpArgs false
theorem OwnL.fresh0 (w:World) (base t k:Nat) (U:Nat→Int) (s:Nat) (e:w.heap.size=s) (h:base≤w.heap.size):OwnL (w.alloc (.cells #[] t)) base t k (.slice (Option.some ⟨s,0,none⟩) 0 0) 0 U:=by
 subst e
 exact⟨by simp[numL],.inr ⟨w.heap.size,0, #[],rfl,h,Go.Deep.blk_alloc_new _ _,Nat.le_refl _,Nat.zero_le _,by simp,by simp[numL]⟩⟩
theorem OwnL.drewO {w:World} {base t k n:Nat} {v:Value} {U:Nat→Int} (h:OwnL w base t k v n U):OwnL w.drew base t k v n U:=World.ownsRow.drew h
theorem cat_0 (k:Nat) (X Y:Nat→Int):∀ q,cat (0*k) X Y q=Y q:=by intro q;simp[cat]
section
variable {P:Program} {ops:Array Oper} {o:Oper} {a:Act} {w:World} {Q:Exit→Act→World→Prop}
theorem wpList_app0 {rest:List Oper} (hgd:o.guard=none) (s x:Operand) (t:TypeId) (ho:o.op= .call {callee:= .builtin .append,args:= #[s,x],argTypes:= #[t,t]})
 (base e k bytes:Nat) (z:Value) (ht:P.underlying t=some (.slice e)) (hinfo:(P.info? e).map (fun i=>(i.zero,i.size,i.bytes))=some (some z,k,bytes)) (hzs:z.cells.size=k) (hk:0<k)
 (v:Value) (U:Nat→Int) (hs:a.eval s=v) (h:OwnL w base e k v 0 U) (ad:Option Addr) (m c:Nat) (X:Nat→Int) (hxx:a.eval x= .slice ad m c) (hx:Flat w ad (m*k) X)
 (h63:m≤maxLen) (hbytes:m*bytes≤140737488355328) (hbase:base≤w.heap.size)
 (hK:∀ a' c' w',OwnL w' base e k (.slice a' m c') m X→w.grownBy w' v.ownBlock→wpList P ops Q rest (a.put o.dst (.slice a' m c')) w'):wpList P ops Q (o::rest) a w:=
 wpList_app hgd s x t ho base e k bytes z ht hinfo hzs hk v 0 U hs h ad m c X hxx hx (by rw[Nat.zero_add];exact h63) (by rw[Nat.zero_add];exact hbytes) hbase fun a' c' w' h1 h2=>by
  rw[Nat.zero_add] at h1 ⊢
  exact hK a' c' w' (h1.congr fun q _=>cat_0 k _ _ q) h2
end
theorem l8Copy_any (a:Option Addr) (n c:Nat) (U:Nat→Int) (w:World) (h:Flat w a (n*12) U) (hn:n≤1048576):
 Calls Tryz.prog 80 #[.slice a n c] w fun e w'=>∃ a1 c1,e= .returned (.slice a1 n c1)∧OutL w w' 35 12 a1 n c1 U:=by
 have hset:=cset_map
 have hE:Below w.heap.size w (w.alloc (.cells #[] 35)):=(Below.refl _ _).alloc (Nat.le_refl _) _
 have ho:=OwnL.fresh0 w w.heap.size 35 12 (fun _=>0) _ rfl (Nat.le_refl _)
 go_enter Tryz.func80,Tryz.ntmps80
 go_wp2_with (refine wpList_app0 rfl _ _ _ rfl w.heap.size 35 12 96 zcBody Tryz.underlying23 infoItBody rfl (by decide) _ (fun _=>0) rfl ho _ n _ U rfl (h.below hE) (by unfold maxLen;omega) (by omega) (by simp) ?_;intro a1 c1 w1 ho1 hg1)
 go_ret
 exact⟨_,_,rfl,hE.grown hg1 (by simp) (fun b e=>(ho.lt b e).1),ho1⟩
def putRow (U:Nat→Int) (p:Nat) (V:Nat→Int):Nat→Int:=fun q=>if p*12≤q∧q<p*12+12 then V (q-p*12) else U q
theorem put12 {w4:World} {base n g c p:Nat} {U:Nat→Int} (h:OwnL w4 base 35 12 (.slice (some ⟨g,0,none⟩) n c) n U) (hp:p<n) (V:Nat→Int):
 OwnL ((((((((((((w4.setCell ⟨g,p*12,none⟩ (.int .i64 (V 0))).setCell ⟨g,p*12+1,none⟩ (.int .i64 (V 1))).setCell ⟨g,p*12+2,none⟩ (.int .i64 (V 2))).setCell ⟨g,p*12+3,none⟩ (.int .i64 (V 3))).setCell ⟨g,p*12+4,none⟩ (.int .i64 (V 4))).setCell ⟨g,p*12+5,none⟩ (.int .i64 (V 5))).setCell ⟨g,p*12+6,none⟩ (.int .i64 (V 6))).setCell ⟨g,p*12+7,none⟩ (.int .i64 (V 7))).setCell ⟨g,p*12+8,none⟩ (.int .i64 (V 8))).setCell ⟨g,p*12+9,none⟩ (.int .i64 (V 9))).setCell ⟨g,p*12+10,none⟩ (.int .i64 (V 10))).setCell ⟨g,p*12+11,none⟩ (.int .i64 (V 11))) base 35 12 (.slice (some ⟨g,0,none⟩) n c) n (putRow U p V):=by
 have q1:=h.setq (p*12) (by omega) (V 0)
 have q2:=q1.setq (p*12+1) (by omega) (V 1)
 have q3:=q2.setq (p*12+2) (by omega) (V 2)
 have q4:=q3.setq (p*12+3) (by omega) (V 3)
 have q5:=q4.setq (p*12+4) (by omega) (V 4)
 have q6:=q5.setq (p*12+5) (by omega) (V 5)
 have q7:=q6.setq (p*12+6) (by omega) (V 6)
 have q8:=q7.setq (p*12+7) (by omega) (V 7)
 have q9:=q8.setq (p*12+8) (by omega) (V 8)
 have q10:=q9.setq (p*12+9) (by omega) (V 9)
 have q11:=q10.setq (p*12+10) (by omega) (V 10)
 have q12:=q11.setq (p*12+11) (by omega) (V 11)
 refine q12.congr fun q _=> ?_
 unfold putRow
 by_cases e:p*12≤q∧q<p*12+12
 · rw[if_pos e]
   obtain⟨d,rfl⟩:∃ d,q=p*12+d:=⟨q-p*12,by omega⟩
   rw[Nat.add_sub_cancel_left]
   rcases(show d=0∨d=1∨d=2∨d=3∨d=4∨d=5∨d=6∨d=7∨d=8∨d=9∨d=10∨d=11 by omega) with rfl|rfl|rfl|rfl|rfl|rfl|rfl|rfl|rfl|rfl|rfl|rfl<;>simp
 · rw[if_neg e]
   repeat rw[if_neg (by omega)]
theorem putFr {w4:World} {g p:Nat} (V:Nat→Int):Fr (fun b=>b=g) w4 ((((((((((((w4.setCell ⟨g,p*12,none⟩ (.int .i64 (V 0))).setCell ⟨g,p*12+1,none⟩ (.int .i64 (V 1))).setCell ⟨g,p*12+2,none⟩ (.int .i64 (V 2))).setCell ⟨g,p*12+3,none⟩ (.int .i64 (V 3))).setCell ⟨g,p*12+4,none⟩ (.int .i64 (V 4))).setCell ⟨g,p*12+5,none⟩ (.int .i64 (V 5))).setCell ⟨g,p*12+6,none⟩ (.int .i64 (V 6))).setCell ⟨g,p*12+7,none⟩ (.int .i64 (V 7))).setCell ⟨g,p*12+8,none⟩ (.int .i64 (V 8))).setCell ⟨g,p*12+9,none⟩ (.int .i64 (V 9))).setCell ⟨g,p*12+10,none⟩ (.int .i64 (V 10))).setCell ⟨g,p*12+11,none⟩ (.int .i64 (V 11))):=
 (((((((((((((Fr.refl (fun b=>b=g) w4).trans (Fr.setCell (X:=fun b=>b=g) rfl _)).trans (Fr.setCell (X:=fun b=>b=g) rfl _)).trans (Fr.setCell (X:=fun b=>b=g) rfl _)).trans (Fr.setCell (X:=fun b=>b=g) rfl _)).trans (Fr.setCell (X:=fun b=>b=g) rfl _)).trans (Fr.setCell (X:=fun b=>b=g) rfl _)).trans (Fr.setCell (X:=fun b=>b=g) rfl _)).trans (Fr.setCell (X:=fun b=>b=g) rfl _)).trans (Fr.setCell (X:=fun b=>b=g) rfl _)).trans (Fr.setCell (X:=fun b=>b=g) rfl _)).trans (Fr.setCell (X:=fun b=>b=g) rfl _)).trans (Fr.setCell (X:=fun b=>b=g) rfl _))
theorem OutL.on {w w1 w2:World} {t k n c:Nat} {a:Option Addr} {R:Nat→Int} (h:OutL w w1 t k a n c R) (hb:Below w1.heap.size w1 w2):OutL w w2 t k a n c R:=⟨h.bel.trans (hb.mono h.bel.size),h.own.below hb⟩
theorem l6Sleeps_k (V:Nat→Int) (w:World) (b:Bool) (e:decide (8≤V 11)=b):
 Calls Tryz.prog 79 #[bodyW V] w fun e w'=>e= .returned (.bool b)∧Below w.heap.size w w':=by
 have hset:=cset_map
 subst e
 go_enter Tryz.func79,Tryz.ntmps79
 go_wp2_with fail
 go_ret
 exact⟨ret_bool (by simp),bel_a⟩
theorem l6Speed_any (V:Nat→Int) (w:World) (b6: -20000000≤V 6∧V 6≤20000000) (b7: -20000000≤V 7∧V 7≤20000000):
 Calls Tryz.prog 84 #[bodyW V] w fun e w'=>e= .returned (vv (spX V) (spY V))∧Below w.heap.size w w':=by
 have t6:=tdiv_bd (x:=V 6) (B:=20000000) (V 8) (by omega)
 have t7:=tdiv_bd (x:=V 7) (B:=20000000) (V 8) (by omega)
 have e6:IntKind.i64.wrap ((V 6).tdiv (V 8))=(V 6).tdiv (V 8):=i64w (by omega)
 have e7:IntKind.i64.wrap ((V 7).tdiv (V 8))=(V 7).tdiv (V 8):=i64w (by omega)
 have hset:=cset_map
 unfold spX spY
 by_cases m:V 8=0
 · rw[if_pos m,if_pos m]
   go_enter Tryz.func84,Tryz.ntmps84
   go_wp2_with fail
   exact bodyPost_ret (v:=vv 0 0) (by simp[results,Tryz.results84,go_sem, *]) rfl ⟨rfl,bel_a⟩
 · rw[if_neg m,if_neg m]
   go_enter Tryz.func84,Tryz.ntmps84
   go_upto_region 3 with fail
   refine wp_region_held_drew (S:=fun w'=>w'.cell? ⟨w.heap.size,0,none⟩=some (.int .i64 (V 0))∧w'.cell? ⟨w.heap.size,1,none⟩=some (.int .i64 (V 1))∧w'.cell? ⟨w.heap.size,2,none⟩=some (.int .i64 (V 2))∧w'.cell? ⟨w.heap.size,3,none⟩=some (.int .i64 (V 3))∧w'.cell? ⟨w.heap.size,4,none⟩=some (.int .i64 (V 4))∧w'.cell? ⟨w.heap.size,5,none⟩=some (.int .i64 (V 5))∧w'.cell? ⟨w.heap.size,6,none⟩=some (.int .i64 (V 6))∧w'.cell? ⟨w.heap.size,7,none⟩=some (.int .i64 (V 7))∧w'.cell? ⟨w.heap.size,8,none⟩=some (.int .i64 (V 8))∧w'.cell? ⟨w.heap.size,9,none⟩=some (.int .i64 (V 9))∧w'.cell? ⟨w.heap.size,10,none⟩=some (.int .i64 (V 10))∧w'.cell? ⟨w.heap.size,11,none⟩=some (.int .i64 (V 11))) (by kernel_rfl) ?_ (fun hHeld=> ?_)
   · (try dsimp only)
     (first|(go_simp;done)|(go_keep;done))
   refine tq 0 hHeld ?_
   refine tq 1 hHeld ?_
   refine tq 2 hHeld ?_
   refine tq 3 hHeld ?_
   refine tq 4 hHeld ?_
   refine tq 5 hHeld ?_
   refine tq 6 hHeld ?_
   refine tq 7 hHeld ?_
   refine tq 8 hHeld ?_
   refine tq 9 hHeld ?_
   refine tq 10 hHeld ?_
   refine tq 11 hHeld ?_
   refine tq 12 hHeld ?_
   (refine tc 13 fun K hK=> ?_;go_simp;refine tr hK (fun hHeld=> ?_);clear hK K)
   refine wpAnyH_done (by kernel_rfl) ?_ _
   go_wp2_with fail
   exact bodyPost_ret (v:=vv ((V 6).tdiv (V 8)) ((V 7).tdiv (V 8))) (by simp[results,Tryz.results84,go_sem, *]) rfl ⟨rfl,bel_a⟩
end Go.Proofs.YthajilkjfkppoaaGreatDoor
namespace Go.Proofs.YthajilkjfkppoaaGreatDoor
open Go.RowKit
set_option linter.unusedVariables false
set_option linter.unusedSimpArgs false
theorem ux_bd2 {x y:Int} (hx: -6000000≤x∧x≤6000000): -1600000000≤ux x y∧ux x y≤1600000000:=by
 unfold ux;split
 · omega
 · have:=tdiv_bd (x:=x*256) (B:=1600000000) (vl x y) (by omega);exact this
theorem uy_bd2 {x y:Int} (hy: -6000000≤y∧y≤6000000): -1600000000≤uy x y∧uy x y≤1600000000:=by
 unfold uy;split
 · omega
 · have:=tdiv_bd (x:=y*256) (B:=1600000000) (vl x y) (by omega);exact this
theorem mxT_bd {a b c d x y g X Y D:Int} {K:Bool} (qa: -3000000≤a∧a≤3000000) (qb: -3000000≤b∧b≤3000000) (qc: -3000000≤c∧c≤3000000) (qd: -3000000≤d∧d≤3000000) (qx: -3000000≤x∧x≤3000000) (qy: -3000000≤y∧y≤3000000) (e:mxT a b c d x y g=((X,Y,D),K)):
 (-1600000000≤X∧X≤1600000000)∧(-1600000000≤Y∧Y≤1600000000):=by
 unfold mxT at e
 split at e
 · have hb:=bsT_bd (s0:=c-x) (s1:=x-a) (s2:=d-y) (s3:=y-b) (B:=6000000) (by omega) (by omega) (by omega) (by omega)
   simp only[Prod.mk.injEq] at e
   obtain⟨⟨eX,eY,eD⟩,eK⟩:=e
   omega
 · have n1:=near_in (a:=a) (c:=c) (x:=x) (B:=3000000) (by omega) (by omega) (by omega)
   have n2:=near_in (a:=b) (c:=d) (x:=y) (B:=3000000) (by omega) (by omega) (by omega)
   unfold rdT at e
   split at e
   · simp only[Prod.mk.injEq] at e
     obtain⟨⟨eX,eY,eD⟩,eK⟩:=e
     have h1:=ux_bd2 (x:=x-mn (mx x a) c) (y:=y-mn (mx y b) d) (by omega)
     have h2:=uy_bd2 (x:=x-mn (mx x a) c) (y:=y-mn (mx y b) d) (by omega)
     omega
   · simp only[Prod.mk.injEq] at e
     obtain⟨⟨eX,eY,eD⟩,eK⟩:=e
     omega
def tnT (m:(Int×Int×Int)×Bool):(Int×Int×Int)×Bool:=if m.2=true then ((-m.1.1,-m.1.2.1,m.1.2.2),true) else ((0,0,0),false)
theorem sT_rr (g1 g2 x y u v X Y D:Int) (K:Bool) (w:World) (lg1:1≤g1∧g1≤25600) (lg2:1≤g2∧g2≤25600) (px: -2560000≤x∧x≤2560000) (py: -2560000≤y∧y≤2560000) (pu: -2560000≤u∧u≤2560000) (pv: -2560000≤v∧v≤2560000) (e:rdT (u-x) (v-y) (g1+g2)=((X,Y,D),K)):
 Calls Tryz.prog 76 #[s3 1 g1 0,vv x y,s3 1 g2 0,vv u v] w fun e w'=>e= .returned (.tuple #[s3 X Y D,.bool K])∧Below w.heap.size w w':=by
 have hset:=cset_map
 have w1:=i64w (n:=g1+g2) (by omega)
 go_enter Tryz.func76,Tryz.ntmps76
 go_wp2_with (go_at_call 102;refine(l5Rounds_q _ _ _ _ _ X Y D _ _ (by omega) (by omega) (by omega) (by omega) (by omega) e).mono ?_;rintro e w1 ⟨rfl,hb1⟩;have hz1:=hb1.size;(try simp only[zz] at hz1);have:=kf5 hb1 w.heap.size)
 exact bodyPost_ret (v:= .tuple #[s3 X Y D,.bool K]) (by simp[results,Tryz.results76,go_sem, *]) rfl ⟨rfl,bel_a⟩
theorem sT_bb (g1 h1 g2 h2 x y u v X Y D:Int) (K:Bool) (w:World) (lg1:1≤g1∧g1≤25600) (lh1:1≤h1∧h1≤25600) (lg2:1≤g2∧g2≤25600) (lh2:1≤h2∧h2≤25600) (px: -2560000≤x∧x≤2560000) (py: -2560000≤y∧y≤2560000) (pu: -2560000≤u∧u≤2560000) (pv: -2560000≤v∧v≤2560000) (e:bxT (x-g1) (y-h1) (x+g1) (y+h1) (u-g2) (v-h2) (u+g2) (v+h2)=((X,Y,D),K)):
 Calls Tryz.prog 76 #[s3 2 g1 h1,vv x y,s3 2 g2 h2,vv u v] w fun e w'=>e= .returned (.tuple #[s3 X Y D,.bool K])∧Below w.heap.size w w':=by
 have hset:=cset_map
 go_enter Tryz.func76,Tryz.ntmps76
 go_upto_region 4 with fail
 refine wp_region_held_drew (S:=fun w'=>w'.cell? ⟨w.heap.size,0,none⟩=some (.int .i64 2)∧w'.cell? ⟨w.heap.size,1,none⟩=some (.int .i64 g1)∧w'.cell? ⟨w.heap.size,2,none⟩=some (.int .i64 h1)∧w'.cell? ⟨w.heap.size+1,0,none⟩=some (.int .i64 x)∧w'.cell? ⟨w.heap.size+1,1,none⟩=some (.int .i64 y)∧w'.cell? ⟨w.heap.size+1+1,0,none⟩=some (.int .i64 2)∧w'.cell? ⟨w.heap.size+1+1,1,none⟩=some (.int .i64 g2)∧w'.cell? ⟨w.heap.size+1+1,2,none⟩=some (.int .i64 h2)∧w'.cell? ⟨w.heap.size+1+1+1,0,none⟩=some (.int .i64 u)∧w'.cell? ⟨w.heap.size+1+1+1,1,none⟩=some (.int .i64 v)) (by kernel_rfl) ?_ (fun hHeld=> ?_)
 · (try dsimp only)
   (first|(go_simp;done)|(go_keep;done))
 refine tq 0 hHeld ?_
 refine tq 1 hHeld ?_
 refine tq 3 hHeld ?_
 refine tq 4 hHeld ?_
 (refine tc 2 fun K hK=> ?_;go_simp;(go_at_call 104;refine(l3Bounds_b _ _ _ _ _ (by omega) (by omega) (by omega) (by omega) (by omega) (by omega)).mono ?_;rintro e w1 ⟨rfl,hb1⟩;have hz1:=hb1.size;(try simp only[zz] at hz1);have:=kf5 hb1 w.heap.size);(try go_wp2_with fail);refine tr hK (fun hHeld=> ?_);clear hK K)
 (refine tc 5 fun K hK=> ?_;go_simp;(go_at_call 104;refine(l3Bounds_b _ _ _ _ _ (by omega) (by omega) (by omega) (by omega) (by omega) (by omega)).mono ?_;rintro e w2 ⟨rfl,hb2⟩;have hz2:=hb2.size;(try simp only[zz] at hz2);have:=kf5 hb2 w.heap.size);(try go_wp2_with fail);refine tr hK (fun hHeld=> ?_);clear hK K)
 (refine tc 6 fun K hK=> ?_;go_simp;(go_at_call 103;refine(l5Boxes_q _ _ _ _ _ _ _ _ X Y D _ _ (by omega) (by omega) (by omega) (by omega) (by omega) (by omega) (by omega) (by omega) e).mono ?_;rintro e w3 ⟨rfl,hb3⟩;have hz3:=hb3.size;(try simp only[zz] at hz3);have:=kf5 hb3 w.heap.size);(try go_wp2_with fail);refine tr hK (fun hHeld=> ?_);clear hK K)
 refine tq 7 hHeld ?_
 refine tq 8 hHeld ?_
 (refine tc 9 fun K hK=> ?_;go_simp;refine tr hK (fun hHeld=> ?_);clear hK K)
 refine tq 10 hHeld ?_
 refine wpAnyH_done (by kernel_rfl) ?_ _
 go_wp2_with fail
 exact bodyPost_ret (v:= .tuple #[s3 X Y D,.bool K]) (by simp[results,Tryz.results76,go_sem, *]) rfl ⟨rfl,bel_a⟩
theorem sT_br (g1 h1 g2 x y u v X Y D:Int) (K:Bool) (w:World) (lg1:1≤g1∧g1≤25600) (lh1:1≤h1∧h1≤25600) (lg2:1≤g2∧g2≤25600) (px: -2560000≤x∧x≤2560000) (py: -2560000≤y∧y≤2560000) (pu: -2560000≤u∧u≤2560000) (pv: -2560000≤v∧v≤2560000) (e:mxT (x-g1) (y-h1) (x+g1) (y+h1) u v g2=((X,Y,D),K)):
 Calls Tryz.prog 76 #[s3 2 g1 h1,vv x y,s3 1 g2 0,vv u v] w fun e w'=>e= .returned (.tuple #[s3 X Y D,.bool K])∧Below w.heap.size w w':=by
 have hset:=cset_map
 go_enter Tryz.func76,Tryz.ntmps76
 go_upto_region 6 with fail
 refine wp_region_held_drew (S:=fun w'=>w'.cell? ⟨w.heap.size,0,none⟩=some (.int .i64 2)∧w'.cell? ⟨w.heap.size,1,none⟩=some (.int .i64 g1)∧w'.cell? ⟨w.heap.size,2,none⟩=some (.int .i64 h1)∧w'.cell? ⟨w.heap.size+1,0,none⟩=some (.int .i64 x)∧w'.cell? ⟨w.heap.size+1,1,none⟩=some (.int .i64 y)∧w'.cell? ⟨w.heap.size+1+1,0,none⟩=some (.int .i64 1)∧w'.cell? ⟨w.heap.size+1+1,1,none⟩=some (.int .i64 g2)∧w'.cell? ⟨w.heap.size+1+1,2,none⟩=some (.int .i64 0)∧w'.cell? ⟨w.heap.size+1+1+1,0,none⟩=some (.int .i64 u)∧w'.cell? ⟨w.heap.size+1+1+1,1,none⟩=some (.int .i64 v)) (by kernel_rfl) ?_ (fun hHeld=> ?_)
 · (try dsimp only)
   (first|(go_simp;done)|(go_keep;done))
 refine tq 0 hHeld ?_
 refine tq 1 hHeld ?_
 refine tq 3 hHeld ?_
 refine tq 4 hHeld ?_
 refine tq 5 hHeld ?_
 (refine tc 2 fun K hK=> ?_;go_simp;(go_at_call 104;refine(l3Bounds_b _ _ _ _ _ (by omega) (by omega) (by omega) (by omega) (by omega) (by omega)).mono ?_;rintro e w1 ⟨rfl,hb1⟩;have hz1:=hb1.size;(try simp only[zz] at hz1);have:=kf5 hb1 w.heap.size);(try go_wp2_with fail);refine tr hK (fun hHeld=> ?_);clear hK K)
 (refine tc 6 fun K hK=> ?_;go_simp;(go_at_call 105;refine(l5Mixed_q _ _ _ _ _ _ _ X Y D _ _ (by omega) (by omega) (by omega) (by omega) (by omega) (by omega) (by omega) e).mono ?_;rintro e w2 ⟨rfl,hb2⟩;have hz2:=hb2.size;(try simp only[zz] at hz2);have:=kf5 hb2 w.heap.size);(try go_wp2_with fail);refine tr hK (fun hHeld=> ?_);clear hK K)
 refine tq 7 hHeld ?_
 refine tq 8 hHeld ?_
 (refine tc 9 fun K hK=> ?_;go_simp;refine tr hK (fun hHeld=> ?_);clear hK K)
 refine tq 10 hHeld ?_
 refine wpAnyH_done (by kernel_rfl) ?_ _
 go_wp2_with fail
 exact bodyPost_ret (v:= .tuple #[s3 X Y D,.bool K]) (by simp[results,Tryz.results76,go_sem, *]) rfl ⟨rfl,bel_a⟩
theorem sT_rb (g1 g2 h2 x y u v X Y D:Int) (K:Bool) (w:World) (lg1:1≤g1∧g1≤25600) (lg2:1≤g2∧g2≤25600) (lh2:1≤h2∧h2≤25600) (px: -2560000≤x∧x≤2560000) (py: -2560000≤y∧y≤2560000) (pu: -2560000≤u∧u≤2560000) (pv: -2560000≤v∧v≤2560000) (e:tnT (mxT (u-g2) (v-h2) (u+g2) (v+h2) x y g1)=((X,Y,D),K)):
 Calls Tryz.prog 76 #[s3 1 g1 0,vv x y,s3 2 g2 h2,vv u v] w fun e w'=>e= .returned (.tuple #[s3 X Y D,.bool K])∧Below w.heap.size w w':=by
 have hset:=cset_map
 obtain⟨⟨⟨P,Q,E⟩,Z⟩,eM⟩:∃ z,mxT (u-g2) (v-h2) (u+g2) (v+h2) x y g1=z:=⟨_,rfl⟩
 obtain⟨hP,hQ⟩:=mxT_bd (by omega) (by omega) (by omega) (by omega) (by omega) (by omega) eM
 rw[eM] at e
 unfold tnT at e
 cases Z with
 | true=>
   simp only[if_true,Prod.mk.injEq] at e
   obtain⟨⟨eX,eY,eD⟩,eK⟩:=e
   subst eX
   subst eY
   subst eD
   subst eK
   go_enter Tryz.func76,Tryz.ntmps76
   go_upto_region 7 with fail
   refine wp_region_held_drew (S:=fun w'=>w'.cell? ⟨w.heap.size,0,none⟩=some (.int .i64 1)∧w'.cell? ⟨w.heap.size,1,none⟩=some (.int .i64 g1)∧w'.cell? ⟨w.heap.size,2,none⟩=some (.int .i64 0)∧w'.cell? ⟨w.heap.size+1,0,none⟩=some (.int .i64 x)∧w'.cell? ⟨w.heap.size+1,1,none⟩=some (.int .i64 y)∧w'.cell? ⟨w.heap.size+1+1,0,none⟩=some (.int .i64 2)∧w'.cell? ⟨w.heap.size+1+1,1,none⟩=some (.int .i64 g2)∧w'.cell? ⟨w.heap.size+1+1,2,none⟩=some (.int .i64 h2)∧w'.cell? ⟨w.heap.size+1+1+1,0,none⟩=some (.int .i64 u)∧w'.cell? ⟨w.heap.size+1+1+1,1,none⟩=some (.int .i64 v)) (by kernel_rfl) ?_ (fun hHeld=> ?_)
   · (try dsimp only)
     (first|(go_simp;done)|(go_keep;done))
   refine tq 0 hHeld ?_
   refine tq 1 hHeld ?_
   refine tq 3 hHeld ?_
   refine tq 4 hHeld ?_
   refine tq 5 hHeld ?_
   repeat' first
    |(replace hK:=hK;go_simp;(first|((go_at_call 104;refine(l3Bounds_b _ _ _ _ _ (by omega) (by omega) (by omega) (by omega) (by omega) (by omega)).mono ?_;rintro e w1 ⟨rfl,hb1⟩;obtain⟨hc1,hf1⟩:=bcell hb1;have hz1:=hb1.size;(try simp only[zz] at hc1 hf1 hz1);have:=kf5 hb1 w.heap.size;(try have q:=kfy hc1 hf1 hz1 (w.heap.size+1+1+1+1+1) (by omega);obtain⟨hk1y0,hj1y0,hq1y0,hr1y0,ht1y0⟩:=q);clear hc1 hf1);(try go_wp2_with fail))|((go_at_call 105;refine(l5Mixed_q _ _ _ _ _ _ _ P Q E true _ (by omega) (by omega) (by omega) (by omega) (by omega) (by omega) (by omega) eM).mono ?_;rintro e w2 ⟨rfl,hb2⟩;obtain⟨hc2,hf2⟩:=bcell hb2;have hz2:=hb2.size;(try simp only[zz] at hc2 hf2 hz2);have:=kf5 hb2 w.heap.size;(try have q:=kfy hc2 hf2 hz2 (w.heap.size+1+1+1+1+1) (by omega);obtain⟨hk2y0,hj2y0,hq2y0,hr2y0,ht2y0⟩:=q);(try have q:=kfy hc2 hf2 hz2 (w1.heap.size) (by omega);obtain⟨hk2y1,hj2y1,hq2y1,hr2y1,ht2y1⟩:=q);clear hc2 hf2);(try go_wp2_with fail))|skip);refine tr hK (fun hHeld=> ?_);clear hK K)
    |refine tc 2 (hr:=by decide+kernel) fun K hK=> ?_
    |refine tc 6 (hr:=by decide+kernel) fun K hK=> ?_
    |refine tc 10 (hr:=by decide+kernel) fun K hK=> ?_
    |refine tc 11 (hr:=by decide+kernel) fun K hK=> ?_
    |refine tq 7 hHeld ?_ (hc:=by decide+kernel)
    |refine tq 8 hHeld ?_ (hc:=by decide+kernel)
    |refine tq 9 hHeld ?_ (hc:=by decide+kernel)
    |refine tq 12 hHeld ?_ (hc:=by decide+kernel)
    |(refine wpAnyH_ready (rs:=[2,10]) (by decide+kernel) (by simp) ?_;refine AllReadyH.cons rfl (fun K hK=> ?_) (AllReadyH.cons rfl (fun K hK=> ?_) AllReadyH.nil))
    |(refine wpAnyH_ready (rs:=[6,10]) (by decide+kernel) (by simp) ?_;refine AllReadyH.cons rfl (fun K hK=> ?_) (AllReadyH.cons rfl (fun K hK=> ?_) AllReadyH.nil))
    | (refine wpAnyH_done (by decide+kernel) ?_ _
       go_wp2_with (go_at_call 106;refine(l5Turn_q _ _ _ _ (by omega) (by omega)).mono ?_;rintro e w5 ⟨rfl,hb5⟩;have hz5:=hb5.size;(try simp only[zz] at hz5);have:=kf5 hb5 w.heap.size)
       exact bodyPost_ret (v:= .tuple #[s3 (-P) (-Q) E,.bool true]) (by simp[results,Tryz.results76,go_sem, *]) rfl ⟨rfl,bel_a⟩)
 | false=>
   rw[if_neg (by simp)] at e
   simp only[Prod.mk.injEq] at e
   obtain⟨⟨eX,eY,eD⟩,eK⟩:=e
   subst eX
   subst eY
   subst eD
   subst eK
   go_enter Tryz.func76,Tryz.ntmps76
   go_upto_region 7 with fail
   refine wp_region_held_drew (S:=fun w'=>w'.cell? ⟨w.heap.size,0,none⟩=some (.int .i64 1)∧w'.cell? ⟨w.heap.size,1,none⟩=some (.int .i64 g1)∧w'.cell? ⟨w.heap.size,2,none⟩=some (.int .i64 0)∧w'.cell? ⟨w.heap.size+1,0,none⟩=some (.int .i64 x)∧w'.cell? ⟨w.heap.size+1,1,none⟩=some (.int .i64 y)∧w'.cell? ⟨w.heap.size+1+1,0,none⟩=some (.int .i64 2)∧w'.cell? ⟨w.heap.size+1+1,1,none⟩=some (.int .i64 g2)∧w'.cell? ⟨w.heap.size+1+1,2,none⟩=some (.int .i64 h2)∧w'.cell? ⟨w.heap.size+1+1+1,0,none⟩=some (.int .i64 u)∧w'.cell? ⟨w.heap.size+1+1+1,1,none⟩=some (.int .i64 v)) (by kernel_rfl) ?_ (fun hHeld=> ?_)
   · (try dsimp only)
     (first|(go_simp;done)|(go_keep;done))
   refine tq 0 hHeld ?_
   refine tq 1 hHeld ?_
   refine tq 3 hHeld ?_
   refine tq 4 hHeld ?_
   refine tq 5 hHeld ?_
   repeat' first
    |(replace hK:=hK;go_simp;(first|((go_at_call 104;refine(l3Bounds_b _ _ _ _ _ (by omega) (by omega) (by omega) (by omega) (by omega) (by omega)).mono ?_;rintro e w1 ⟨rfl,hb1⟩;obtain⟨hc1,hf1⟩:=bcell hb1;have hz1:=hb1.size;(try simp only[zz] at hc1 hf1 hz1);have:=kf5 hb1 w.heap.size;(try have q:=kfy hc1 hf1 hz1 (w.heap.size+1+1+1+1+1) (by omega);obtain⟨hk1y0,hj1y0,hq1y0,hr1y0,ht1y0⟩:=q);clear hc1 hf1);(try go_wp2_with fail))|((go_at_call 105;refine(l5Mixed_q _ _ _ _ _ _ _ P Q E false _ (by omega) (by omega) (by omega) (by omega) (by omega) (by omega) (by omega) eM).mono ?_;rintro e w2 ⟨rfl,hb2⟩;obtain⟨hc2,hf2⟩:=bcell hb2;have hz2:=hb2.size;(try simp only[zz] at hc2 hf2 hz2);have:=kf5 hb2 w.heap.size;(try have q:=kfy hc2 hf2 hz2 (w.heap.size+1+1+1+1+1) (by omega);obtain⟨hk2y0,hj2y0,hq2y0,hr2y0,ht2y0⟩:=q);(try have q:=kfy hc2 hf2 hz2 (w1.heap.size) (by omega);obtain⟨hk2y1,hj2y1,hq2y1,hr2y1,ht2y1⟩:=q);clear hc2 hf2);(try go_wp2_with fail))|skip);refine tr hK (fun hHeld=> ?_);clear hK K)
    |refine tc 2 (hr:=by decide+kernel) fun K hK=> ?_
    |refine tc 6 (hr:=by decide+kernel) fun K hK=> ?_
    |refine tc 10 (hr:=by decide+kernel) fun K hK=> ?_
    |refine tc 11 (hr:=by decide+kernel) fun K hK=> ?_
    |refine tq 7 hHeld ?_ (hc:=by decide+kernel)
    |refine tq 8 hHeld ?_ (hc:=by decide+kernel)
    |refine tq 9 hHeld ?_ (hc:=by decide+kernel)
    |refine tq 12 hHeld ?_ (hc:=by decide+kernel)
    |(refine wpAnyH_ready (rs:=[2,10]) (by decide+kernel) (by simp) ?_;refine AllReadyH.cons rfl (fun K hK=> ?_) (AllReadyH.cons rfl (fun K hK=> ?_) AllReadyH.nil))
    |(refine wpAnyH_ready (rs:=[6,10]) (by decide+kernel) (by simp) ?_;refine AllReadyH.cons rfl (fun K hK=> ?_) (AllReadyH.cons rfl (fun K hK=> ?_) AllReadyH.nil))
    | (refine wpAnyH_done (by decide+kernel) ?_ _
       go_wp2_with fail
       exact bodyPost_ret (v:= .tuple #[s3 0 0 0,.bool false]) (by simp[results,Tryz.results76,go_sem, *]) rfl ⟨rfl,bel_a⟩)
theorem unit_z (x y X Y:Int) (w:World) (hx: -1000000000≤x∧x≤1000000000) (hy: -1000000000≤y∧y≤1000000000) (e1:ux x y=X) (e2:uy x y=Y):
 Calls Tryz.prog 175 #[vv x y] w fun e w'=>e= .returned (vv X Y)∧Below w.heap.size w w':=by
 subst e1;subst e2;exact unit_any x y w hx hy
theorem length_z (x y L:Int) (w:World) (hx: -1000000000≤x∧x≤1000000000) (hy: -1000000000≤y∧y≤1000000000) (e:vl x y=L):
 Calls Tryz.prog 176 #[vv x y] w fun e w'=>e= .returned (.int .i64 L)∧Below w.heap.size w w':=by
 subst e;exact length_any x y w hx hy
theorem roundDent_q (dx dy g X Y D:Int) (K:Bool) (w:World) (qx: -6000000≤dx∧dx≤6000000) (qy: -6000000≤dy∧dy≤6000000) (g0:0≤g∧g≤100000) (e:rdT dx dy g=((X,Y,D),K)):
 Calls Tryz.prog 158 #[vv dx dy,.int .i64 g] w fun e w'=>e= .returned (.tuple #[s3 X Y D,.bool K])∧Below w.heap.size w w':=by
 have hset:=cset_map
 have m3:=mul_bd (a:=g) (b:=g) (A:=100000) (B:=100000) (by omega) (by omega)
 have w3:=i64w (n:=g*g) (by omega)
 unfold rdT at e
 cases dd:decide (g*g<dx*dx+dy*dy) with
 | true=>
   have hn:=of_decide_eq_true dd
   rw[if_neg (by omega)] at e
   simp only[Prod.mk.injEq] at e
   obtain⟨⟨eX,eY,eD⟩,eK⟩:=e
   subst eX
   subst eY
   subst eD
   subst eK
   clear hn m3
   go_enter Tryz.func158,Tryz.ntmps158
   go_wp2_with (go_at_call 174;refine(products_any _ _ _ _ _ (by omega) (by omega) (by omega) (by omega)).mono ?_;rintro e w1 ⟨rfl,hb1⟩;have hz1:=hb1.size;(try simp only[zz] at hz1);have:=kf2 hb1 w.heap.size)
   exact bodyPost_ret (v:= .tuple #[s3 0 0 0,.bool false]) (by simp[results,Tryz.results158,go_sem, *]) rfl ⟨rfl,bel_a⟩
 | false=>
   have hn:=of_decide_eq_false dd
   rw[if_pos (by omega)] at e
   obtain⟨L,eL⟩:∃ z,vl dx dy=z:=⟨_,rfl⟩
   have lb:=vl_bd dx dy
   rw[eL] at lb e
   simp only[Prod.mk.injEq] at e
   obtain⟨⟨eX,eY,eD⟩,eK⟩:=e
   subst eD
   subst eK
   have w4:=i64w (n:=g-L) (by omega)
   clear hn m3
   go_enter Tryz.func158,Tryz.ntmps158
   go_upto_region 3 with(go_at_call 174;refine(products_any _ _ _ _ _ (by omega) (by omega) (by omega) (by omega)).mono ?_;rintro e w1 ⟨rfl,hb1⟩;have hz1:=hb1.size;(try simp only[zz] at hz1);have:=kf2 hb1 w.heap.size)
   refine wp_region_held_drew (S:=fun w'=>w'.cell? ⟨w.heap.size,0,none⟩=some (.int .i64 dx)∧w'.cell? ⟨w.heap.size,1,none⟩=some (.int .i64 dy)) (by kernel_rfl) ?_ (fun hHeld=> ?_)
   · (try dsimp only)
     (first|(go_simp;done)|(go_keep;done))
   refine tq 0 hHeld ?_
   refine tq 2 hHeld ?_
   refine tq 3 hHeld ?_
   (refine tc 1 fun K hK=> ?_;go_simp;(go_at_call 175;refine(unit_z _ _ _ _ _ (by omega) (by omega) eX eY).mono ?_;rintro e w2 ⟨rfl,hb2⟩;have hz2:=hb2.size;(try simp only[zz] at hz2);have:=kf2 hb2 w.heap.size);(try go_wp2_with fail);refine tr hK (fun hHeld=> ?_);clear hK K)
   (refine tc 4 fun K hK=> ?_;go_simp;(go_at_call 176;refine(length_z _ _ _ _ (by omega) (by omega) eL).mono ?_;rintro e w3 ⟨rfl,hb3⟩;have hz3:=hb3.size;(try simp only[zz] at hz3);have:=kf2 hb3 w.heap.size);(try go_wp2_with fail);refine tr hK (fun hHeld=> ?_);clear hK K)
   refine tq 5 hHeld ?_
   refine tq 6 hHeld ?_
   (refine tc 7 fun K hK=> ?_;go_simp;refine tr hK (fun hHeld=> ?_);clear hK K)
   refine tq 8 hHeld ?_
   refine wpAnyH_done (by kernel_rfl) ?_ _
   go_wp2_with fail
   exact bodyPost_ret (v:= .tuple #[s3 X Y (g-L),.bool true]) (by simp[results,Tryz.results158,go_sem, *]) rfl ⟨rfl,bel_a⟩
theorem placedBounds_q (x y g h:Int) (w:World) (qx: -3000000≤x∧x≤3000000) (qy: -3000000≤y∧y≤3000000) (qg: -3000000≤g∧g≤3000000) (qh: -3000000≤h∧h≤3000000):
 Calls Tryz.prog 161 #[b4 x y g h] w fun e w'=>e= .returned (b4 (x-g) (y-h) (x+g) (y+h))∧Below w.heap.size w w':=by
 have hset:=cset_map
 go_enter Tryz.func161,Tryz.ntmps161
 go_wp2_with (go_at_call 178;refine(spanAround_any _ _ _ _ _ (by omega) (by omega) (by omega) (by omega)).mono ?_;rintro e w1 ⟨rfl,hb1⟩;have hz1:=hb1.size;(try simp only[zz] at hz1);have:=kf2 hb1 w.heap.size)
 exact bodyPost_ret (v:=b4 (x-g) (y-h) (x+g) (y+h)) (by simp[results,Tryz.results161,go_sem, *]) rfl ⟨rfl,bel_a⟩
theorem placedWide_q (x y g h:Int) (w:World):
 Calls Tryz.prog 159 #[b4 x y g h] w fun e w'=>e= .returned (.int .i64 g)∧Below w.heap.size w w':=by
 have hset:=cset_map
 go_enter Tryz.func159,Tryz.ntmps159
 go_wp2_with fail
 go_ret
 exact⟨rfl,bel_a⟩
theorem dentHit_q (X Y D:Int) (w:World):
 Calls Tryz.prog 115 #[s3 X Y D] w fun e w'=>e= .returned (s3 X Y D)∧Below w.heap.size w w':=by
 have hset:=cset_map
 go_enter Tryz.func115,Tryz.ntmps115
 go_upto_region 1 with fail
 refine wp_region_held_drew (S:=fun w'=>w'.cell? ⟨w.heap.size,0,none⟩=some (.int .i64 X)∧w'.cell? ⟨w.heap.size,1,none⟩=some (.int .i64 Y)∧w'.cell? ⟨w.heap.size,2,none⟩=some (.int .i64 D)) (by kernel_rfl) ?_ (fun hHeld=> ?_)
 · (try dsimp only)
   (first|(go_simp;done)|(go_keep;done))
 refine tq 0 hHeld ?_
 refine tq 1 hHeld ?_
 refine tq 3 hHeld ?_
 refine tq 4 hHeld ?_
 (refine tc 2 fun K hK=> ?_;go_simp;(go_at_call 32;refine(vec_any _ _ _).mono ?_;rintro e w1 ⟨rfl,hb1⟩;have hz1:=hb1.size;(try simp only[zz] at hz1);have:=kf2 hb1 w.heap.size);(try go_wp2_with fail);refine tr hK (fun hHeld=> ?_);clear hK K)
 refine tq 5 hHeld ?_
 (refine tc 6 fun K hK=> ?_;go_simp;refine tr hK (fun hHeld=> ?_);clear hK K)
 refine wpAnyH_done (by kernel_rfl) ?_ _
 go_wp2_with fail
 exact bodyPost_ret (v:=s3 X Y D) (by simp[results,Tryz.results115,go_sem, *]) rfl ⟨rfl,bel_a⟩
theorem opp_z (x y:Int) (w:World) (hx: -2000000000≤x∧x≤2000000000) (hy: -2000000000≤y∧y≤2000000000):
 Calls Tryz.prog 177 #[vv x y] w fun e w'=>e= .returned (vv (-x) (-y))∧Below w.heap.size w w':=by
 have hset:=cset_map
 have w1:=i64w (n:= -x) (by omega)
 have w2:=i64w (n:= -y) (by omega)
 go_enter Tryz.func177,Tryz.ntmps177
 go_wp2_with fail
 exact bodyPost_ret (v:=vv (-x) (-y)) (by simp[results,Tryz.results177,go_sem, *]) rfl ⟨rfl,bel_a⟩
theorem dentTurned_q (X Y D:Int) (w:World) (hx: -2000000000≤X∧X≤2000000000) (hy: -2000000000≤Y∧Y≤2000000000):
 Calls Tryz.prog 160 #[s3 X Y D] w fun e w'=>e= .returned (s3 (-X) (-Y) D)∧Below w.heap.size w w':=by
 have hset:=cset_map
 go_enter Tryz.func160,Tryz.ntmps160
 go_upto_region 1 with fail
 refine wp_region_held_drew (S:=fun w'=>w'.cell? ⟨w.heap.size,0,none⟩=some (.int .i64 X)∧w'.cell? ⟨w.heap.size,1,none⟩=some (.int .i64 Y)∧w'.cell? ⟨w.heap.size,2,none⟩=some (.int .i64 D)) (by kernel_rfl) ?_ (fun hHeld=> ?_)
 · (try dsimp only)
   (first|(go_simp;done)|(go_keep;done))
 refine tq 0 hHeld ?_
 refine tq 1 hHeld ?_
 refine tq 3 hHeld ?_
 refine tq 4 hHeld ?_
 (refine tc 2 fun K hK=> ?_;go_simp;(go_at_call 177;refine(opp_z _ _ _ (by omega) (by omega)).mono ?_;rintro e w1 ⟨rfl,hb1⟩;have hz1:=hb1.size;(try simp only[zz] at hz1);have:=kf2 hb1 w.heap.size);(try go_wp2_with fail);refine tr hK (fun hHeld=> ?_);clear hK K)
 refine tq 5 hHeld ?_
 (refine tc 6 fun K hK=> ?_;go_simp;refine tr hK (fun hHeld=> ?_);clear hK K)
 refine wpAnyH_done (by kernel_rfl) ?_ _
 go_wp2_with fail
 exact bodyPost_ret (v:=s3 (-X) (-Y) D) (by simp[results,Tryz.results160,go_sem, *]) rfl ⟨rfl,bel_a⟩
end Go.Proofs.YthajilkjfkppoaaGreatDoor
