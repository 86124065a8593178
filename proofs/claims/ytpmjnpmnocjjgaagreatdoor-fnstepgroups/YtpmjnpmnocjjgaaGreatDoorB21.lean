/- Texts of a proof. -/
import Derived.Test.YtpmjnpmnocjjgaaGreatDoorB19
import Derived.Deep.RegionHeld3
import Derived.Deep.DeepCutAuto
import Derived.Test.YtpmjnpmnocjjgaaGreatDoorB5
import Derived.Test.YtpmjnpmnocjjgaaGreatDoorB17
import Derived.Test.YtpmjnpmnocjjgaaGreatDoorB13
import Derived.Test.YtpmjnpmnocjjgaaGreatDoorB2
import Derived.Test.YtpmjnpmnocjjgaaGreatDoorB8
import Derived.Deep.AppendLies
set_option maxHeartbeats 16000000
set_option maxRecDepth 20000
namespace Go.Proofs.YtpmjnpmnocjjgaaGreatDoor
open Go.RowKit
set_option linter.unusedVariables false
set_option linter.unusedSimpArgs false
structure Hide (p:Prop):Prop where
 out:p
theorem tdiv_le {x B m:Int} (hm:0<m) (hB:0≤B) (h: -(B*m)≤x∧x≤B*m): -B≤x.tdiv m∧x.tdiv m≤B:=by
 by_cases h0:0≤x
 · rw[Int.tdiv_eq_ediv_of_nonneg h0]
   have q1:=Int.ediv_nonneg h0 (Int.le_of_lt hm)
   exact⟨by omega,Int.ediv_le_of_le_mul hm h.2⟩
 · have e:x.tdiv m= -((-x)/m):=by rw[←Int.tdiv_eq_ediv_of_nonneg (show 0≤ -x by omega),Int.neg_tdiv,Int.neg_neg]
   rw[e]
   have q1:=Int.ediv_nonneg (show 0≤ -x by omega) (Int.le_of_lt hm)
   have q2:=Int.ediv_le_of_le_mul hm (show-x≤B*m by omega)
   omega
def shareV (V W:Nat→Int) (n:Int):Int:=bif decide (V 8=0) then 0 else bif decide (W 8=0) then n else (n*W 8).tdiv (V 8+W 8)
theorem share_bd {V W:Nat→Int} {n:Int} (h0:0≤V 8) (h1:0≤W 8) (hn:0≤n):0≤shareV V W n∧shareV V W n≤n:=by
 unfold shareV
 by_cases m0:V 8=0
 · rw[decide_eq_true m0];exact⟨Int.le_refl _,hn⟩
 · rw[decide_eq_false m0]
   by_cases m1:W 8=0
   · rw[decide_eq_true m1];exact⟨hn,Int.le_refl _⟩
   · rw[decide_eq_false m1]
     show 0≤(n*W 8).tdiv (V 8+W 8)∧(n*W 8).tdiv (V 8+W 8)≤n
     have p0:0≤n*W 8:=Int.mul_nonneg hn h1
     rw[Int.tdiv_eq_ediv_of_nonneg p0]
     refine⟨Int.ediv_nonneg p0 (by omega),?_⟩
     refine Int.ediv_le_of_le_mul (by omega) ?_
     exact Int.mul_le_mul_of_nonneg_left (by omega) hn
theorem l8Share_q (V W:Nat→Int) (n x:Int) (w:World) (h0:0≤V 8∧V 8≤1000) (h1:0≤W 8∧W 8≤1000) (hn: -30000≤n∧n≤30000) (ex:shareV V W n=x):
 Calls Tryz.prog 105 #[bodyW V,bodyW W,.int .i64 n] w fun e w'=>e= .returned (.int .i64 x)∧Below w.heap.size w w':=by
 have hset:=cset_map
 have p:=mul_bd (a:=n) (b:=W 8) (A:=30000) (B:=1000) (by omega) (by omega)
 have q:=tdiv_bd (x:=n*W 8) (B:=30000000) (V 8+W 8) (by omega)
 have w1:IntKind.i64.wrap (n*W 8)=n*W 8:=i64w (by omega)
 have w2:IntKind.i64.wrap (V 8+W 8)=V 8+W 8:=i64w (by omega)
 have w3:IntKind.i64.wrap ((n*W 8).tdiv (V 8+W 8))=(n*W 8).tdiv (V 8+W 8):=i64w (by omega)
 by_cases m0:V 8=0
 · have ex':x=0:=by rw[←ex];unfold shareV;rw[decide_eq_true m0];rfl
   subst ex'
   have e1:(V 8==0)=true:=by simp[m0]
   have M0:Shut (V 8=0):=m0
   clear m0 ex
   go_enter Tryz.func105,Tryz.ntmps105
   go_wp2_with fail
   go_ret
   exact⟨rfl,bel_a⟩
 · have e1:(V 8==0)=false:=by simp[m0]
   by_cases m1:W 8=0
   · have ex':x=n:=by rw[←ex];unfold shareV;rw[decide_eq_false m0,decide_eq_true m1];rfl
     subst ex'
     have e2:(W 8==0)=true:=by simp[m1]
     have M1:Shut (W 8=0):=m1
     clear m1 ex w1 w2 w3 p q
     go_enter Tryz.func105,Tryz.ntmps105
     go_wp2_with fail
     go_ret
     exact⟨rfl,bel_a⟩
   · have ex':(n*W 8).tdiv (V 8+W 8)=x:=by rw[←ex];unfold shareV;rw[decide_eq_false m0,decide_eq_false m1];rfl
     have e2:(W 8==0)=false:=by simp[m1]
     have e3:¬ V 8+W 8=0:=by omega
     clear ex
     go_enter Tryz.func105,Tryz.ntmps105
     go_wp2_with fail
     go_ret
     exact⟨by first|rfl|(rw[←ex'])|simp[ex'],bel_a⟩
def apartU (U:Nat→Int) (A B:Nat) (X Y D:Int):Nat→Int:=
 bif decide (0<(D-64).tdiv 4) then
  (let U1:=bif decide (0<U (A*12+8)) then putRow U A (moveV (fun j=>U (A*12+j)) ((-X*shareV (fun j=>U (A*12+j)) (fun j=>U (B*12+j)) ((D-64).tdiv 4)).tdiv 256) ((-Y*shareV (fun j=>U (A*12+j)) (fun j=>U (B*12+j)) ((D-64).tdiv 4)).tdiv 256)) else U
   bif decide (0<U (B*12+8)) then putRow U1 B (moveV (fun j=>U (B*12+j)) ((X*shareV (fun j=>U (B*12+j)) (fun j=>U (A*12+j)) ((D-64).tdiv 4)).tdiv 256) ((Y*shareV (fun j=>U (B*12+j)) (fun j=>U (A*12+j)) ((D-64).tdiv 4)).tdiv 256)) else U1)
 else U
structure Ap8 (w wc:World) (A B:Nat) (X Y D:Int) (ba bb:Nat) (VA VB:Nat→Int):Prop where
 k0:wc.cell? ⟨w.heap.size,0,none⟩=some (.int .i64 (A:Int))
 k1:wc.cell? ⟨w.heap.size,1,none⟩=some (.int .i64 (B:Int))
 k2:wc.cell? ⟨w.heap.size,2,none⟩=some (.int .i64 X)
 k3:wc.cell? ⟨w.heap.size,3,none⟩=some (.int .i64 Y)
 k4:wc.cell? ⟨w.heap.size,4,none⟩=some (.int .i64 D)
 ca:∀ j,j<12→wc.cell? ⟨ba,j,none⟩=some (.int .i64 (VA j))
 cb:∀ j,j<12→wc.cell? ⟨bb,j,none⟩=some (.int .i64 (VB j))
 l0:w.heap.size<wc.heap.size
 la:ba<wc.heap.size
 lb:bb<wc.heap.size
 ga:w.heap.size<ba
 gb:w.heap.size<bb
theorem Ap8.on {w wc w':World} {A B:Nat} {X Y D:Int} {ba bb:Nat} {VA VB:Nat→Int} (h:Ap8 w wc A B X Y D ba bb VA VB) (hb:Below wc.heap.size wc w'):Ap8 w w' A B X Y D ba bb VA VB:=
 have k:=fun j=>hb.cell (p:=⟨w.heap.size,j,none⟩) h.l0
 ⟨(k 0).trans h.k0,(k 1).trans h.k1,(k 2).trans h.k2,(k 3).trans h.k3,(k 4).trans h.k4,fun j hj=>(hb.cell (p:=⟨ba,j,none⟩) h.la).trans (h.ca j hj),fun j hj=>(hb.cell (p:=⟨bb,j,none⟩) h.lb).trans (h.cb j hj),Nat.lt_of_lt_of_le h.l0 hb.size,Nat.lt_of_lt_of_le h.la hb.size,Nat.lt_of_lt_of_le h.lb hb.size,h.ga,h.gb⟩
theorem Ap8.fr {w wc w':World} {A B g:Nat} {X Y D:Int} {ba bb:Nat} {VA VB:Nat→Int} (h:Ap8 w wc A B X Y D ba bb VA VB) (hs:Fr (fun b=>b=g) wc w') (hg:g<w.heap.size):Ap8 w w' A B X Y D ba bb VA VB:=by
 have ga:=h.ga
 have gb:=h.gb
 have k:=fun j=>hs.cell (p:=⟨w.heap.size,j,none⟩) h.l0 (by simp;omega)
 exact⟨(k 0).trans h.k0,(k 1).trans h.k1,(k 2).trans h.k2,(k 3).trans h.k3,(k 4).trans h.k4,fun j hj=>(hs.cell (p:=⟨ba,j,none⟩) h.la (by simp;omega)).trans (h.ca j hj),fun j hj=>(hs.cell (p:=⟨bb,j,none⟩) h.lb (by simp;omega)).trans (h.cb j hj),Nat.lt_of_lt_of_le h.l0 hs.size,Nat.lt_of_lt_of_le h.la hs.size,Nat.lt_of_lt_of_le h.lb hs.size,h.ga,h.gb⟩
theorem l5Touch_q (k1 g1 h1 x y k2 g2 h2 u v X Y D:Int) (K:Bool) (w:World) (s1:shB k1 g1 h1=true) (s2:shB k2 g2 h2=true) (p1:inB 2560000 x y=true) (p2:inB 2560000 u v=true) (e:toT k1 g1 h1 x y k2 g2 h2 u v=((X,Y,D),K)):
 Calls Tryz.prog 61 #[s3 k1 g1 h1,vv x y,s3 k2 g2 h2,vv u v] w fun e w'=>e= .returned (.tuple #[s3 X Y D,.bool K])∧Below w.heap.size w w':=by
 have e2:toT k1 g1 h1 x y k2 g2 h2 u v=tcT k1 g1 h1 x y k2 g2 h2 u v:=by unfold toT;rw[if_pos (by simp[*])]
 rw[e2] at e
 obtain⟨px,py⟩:=inB_of p1
 obtain⟨pu,pv⟩:=inB_of p2
 rcases shB_kinds s1 with⟨rfl,rfl,a1,a2⟩|⟨rfl,a1,a2,a3,a4⟩<;>rcases shB_kinds s2 with⟨rfl,rfl,b1,b2⟩|⟨rfl,b1,b2,b3,b4⟩
 · exact sT_rr g1 g2 x y u v X Y D K w ⟨a1,a2⟩ ⟨b1,b2⟩ px py pu pv (by simpa [tcT] using e)
 · exact sT_rb g1 g2 h2 x y u v X Y D K w ⟨a1,a2⟩ ⟨b1,b2⟩ ⟨b3,b4⟩ px py pu pv (by simpa [tcT] using e)
 · exact sT_br g1 h1 g2 x y u v X Y D K w ⟨a1,a2⟩ ⟨a3,a4⟩ ⟨b1,b2⟩ px py pu pv (by simpa [tcT] using e)
 · exact sT_bb g1 h1 g2 h2 x y u v X Y D K w ⟨a1,a2⟩ ⟨a3,a4⟩ ⟨b1,b2⟩ ⟨b3,b4⟩ px py pu pv (by simpa [tcT] using e)
theorem bods_sh {U:Nat→Int} {n k:Nat} (h:bodsB n U=true) (l:k<n):shB (U (k*12+1)) (U (k*12+2)) (U (k*12+3))=true∧inB 2560000 (U (k*12+4)) (U (k*12+5))=true:=by
 unfold bodsB at h
 rw[Bool.and_eq_true] at h
 have h2:bodyB (fun j=>U (k*12+j))=true:=by
  have key:∀ m,allBB U m=true→k<m→stepBB U k=true:=by
   intro m
   induction m with
   |zero=>intro _ l;omega
   | succ m ih=>
     intro hm l
     unfold allBB at hm
     rw[Bool.and_eq_true] at hm
     by_cases e:k=m
     · subst e;exact hm.2
     · exact ih hm.1 (by omega)
  have:=key n h.2 l
  unfold stepBB at this
  rw[Bool.and_eq_true] at this
  exact this.1
 unfold bodyB at h2
 simp only[Bool.and_eq_true] at h2
 exact⟨h2.2.1,h2.2.2.1⟩
theorem flat5 (w:World) (p q r s u:Int) (t:TypeId):Flat (w.alloc (Obj.cells #[.int .i64 p,.int .i64 q,.int .i64 r,.int .i64 s,.int .i64 u] t)) (some ⟨w.heap.size,0,none⟩) (1*5) (ofL [p,q,r,s,u]):=by
 intro _
 refine⟨w.heap.size,0,rfl,by simp,fun j hj=> ?_⟩
 rw[Nat.zero_add]
 rcases(show j=0∨j=1∨j=2∨j=3∨j=4 by omega) with rfl|rfl|rfl|rfl|rfl<;>(simp only[ofL];go_simp;(try rfl))
theorem l7Contacts_any (a:Option Addr) (n c:Nat) (U:Nat→Int) (w:World) (h:Flat w a (n*12) U) (hok:bodsB n U=true) (hn:n≤12):
 Calls Tryz.prog 29 #[.slice a n c] w fun e w'=>∃ a' m c',e= .returned (.slice a' m c')∧(conL (colOf U) n).length=m*5∧OutL w w' 108 5 a' m c' (ofL (conL (colOf U) n)):=by
 have hset:=cset_map
 go_enter Tryz.func29,Tryz.ntmps29
 go_wp2
 go_loopw [3,4,5,6,7] (fun s3 s4 _ _ _ wr=>∃ i a' m c',i≤n∧s4= .int .i64 (i:Int)∧s3= .slice a' m c'∧LsV w wr 108 5 a' m c' (conOut (colOf U) n i)) (fun _ s4 _ _ _ _=>n-(intOf s4).toNat)
 case atStart=>exact⟨0,_,_,_,Nat.zero_le _,rfl,rfl,LsV.new w _ _⟩
 case round=>
  obtain⟨i,a',m,c',hi,rfl,rfl,hL⟩:=hrel
  by_cases hlt:i<n
  · have hin:(i:Int)<(n:Int):=by omega
    obtain⟨b,o,rfl,hbl,hc⟩:=h (by omega)
    obtain⟨si,qi⟩:=bods_sh hok hlt
    obtain⟨mm,hm1,hm2⟩:=conOut_len (colOf U) n i
    have hm6:i*n≤12*12:=Nat.mul_le_mul (by omega) hn
    go_wp2
    go_loopw [3,5,6,7] (fun s3 s5 _ _ wr=>∃ k a' m c',i<k∧k≤n∧s5= .int .i64 (k:Int)∧s3= .slice a' m c'∧LsV w wr 108 5 a' m c' (conOut (colOf U) n i++conIn (colOf U) i k)) (fun _ s5 _ _ _=>n-(intOf s5).toNat)
    case atStart=>exact⟨i+1,_,_,_,by omega,by omega,by go_num,rfl,by rw[conIn_ge i (i+1) (Nat.le_refl _),List.append_nil];exact hL⟩
    case round=>
     clear hL
     obtain⟨k,a2,m2,c2,hik,hk,rfl,rfl,hL⟩:=hrel
     by_cases hlk:k<n
     · have hkn:(k:Int)<(n:Int):=by omega
       obtain⟨sk,qk⟩:=bods_sh hok hlk
       obtain⟨mk,hm3,hm4⟩:=conIn_len (colOf U) i k
       have hm5:=hL.len
       rw[List.length_append,hm1,hm3] at hm5
       have hc':∀ q,q<n*12→wr.cell? ⟨b,o+q,none⟩=some (.int .i64 (U q)):=fun q hq=>(hL.bel.cell (p:=⟨b,o+q,none⟩) hbl).trans (hc q hq)
       have hzr:=hL.bel.size
       have ci1:=hc' (i*12+1) (by omega)
       have ck1:=hc' (k*12+1) (by omega)
       have ci2:=hc' (i*12+2) (by omega)
       have ck2:=hc' (k*12+2) (by omega)
       have ci3:=hc' (i*12+3) (by omega)
       have ck3:=hc' (k*12+3) (by omega)
       have ci4:=hc' (i*12+4) (by omega)
       have ck4:=hc' (k*12+4) (by omega)
       have ci5:=hc' (i*12+5) (by omega)
       have ck5:=hc' (k*12+5) (by omega)
       have ci8:=hc' (i*12+8) (by omega)
       have ck8:=hc' (k*12+8) (by omega)
       simp only[←Nat.add_assoc] at ci1 ck1 ci2 ck2 ci3 ck3 ci4 ck4 ci5 ck5 ci8 ck8
       clear hc'
       by_cases hfx:U (i*12+8)=0∧U (k*12+8)=0
       · obtain⟨f1,f2⟩:=hfx
         have hno:Shut (conOne (colOf U) i k=[]):=conOne_no (by unfold conB colOf;rw[f1,f2];simp)
         rw[f1] at ci8
         rw[f2] at ck8
         go_wp2
         go_roundw
         case rel=>exact⟨k+1,_,_,_,by omega,by omega,by go_num,rfl,by rw[conIn,hno.out,List.append_nil];exact hL⟩
         case measure=>simp[intOf];omega
       · obtain⟨TX,TY,TD,TJ,hT⟩:∃ TX TY TD TJ,tcH (colOf U) i k=((TX,TY,TD),TJ):=⟨_,_,_,_,rfl⟩
         have hfx':Shut (¬ (U (i*12+8)=0∧U (k*12+8)=0)):=hfx
         have key:∀ (g:Prop),(U (i*12+8)≠0→g)→(U (i*12+8)=0→U (k*12+8)≠0→g)→g:=fun g h1 h2=>by
          by_cases e:U (i*12+8)=0
          · exact h2 e (fun e2=>hfx ⟨e,e2⟩)
          · exact h1 e
         clear hfx
         go_upto_region 8 with fail
         go_cut [36] (fun s wc=>s= .bool false∧wr=wc)
         case first=>
          refine key _ (fun e=> ?_) (fun e1 e2=> ?_)
          · have e':decide (U (i*12+8)=0)=false:=decide_eq_false e
            have e3:(U (i*12+8)==0)=false:=by simp[e]
            go_wp2
            go_meet
            exact⟨by first|rfl|simp[e3],rfl⟩
          · have e':decide (U (k*12+8)=0)=false:=decide_eq_false e2
            have e3:(U (k*12+8)==0)=false:=by simp[e2]
            rw[e1] at ci8
            go_wp2
            go_meet
            exact⟨by first|rfl|simp[e3],rfl⟩
         case rest=>
         obtain⟨rfl,rfl⟩:=hcut
         clear key ci8 ck8
         go_upto_region 9 with fail
         go_cut [6,7] (fun s6 s7 wd=>∃ bh,s6= .pointer (some ⟨bh,0,none⟩)∧s7= .bool TJ∧wd.cell? ⟨bh,0,none⟩=some (.int .i64 TX)∧wd.cell? ⟨bh,1,none⟩=some (.int .i64 TY)∧wd.cell? ⟨bh,2,none⟩=some (.int .i64 TD)∧bh<wd.heap.size∧wr.heap.size≤bh∧Below wr.heap.size wr wd)
         case first=>
          refine wp_region_held_drew (S:=fun w'=>w'.cell? ⟨b,o+i*12+1,none⟩=some (.int .i64 (U (i*12+1)))∧w'.cell? ⟨b,o+i*12+2,none⟩=some (.int .i64 (U (i*12+2)))∧w'.cell? ⟨b,o+i*12+3,none⟩=some (.int .i64 (U (i*12+3)))∧w'.cell? ⟨b,o+i*12+4,none⟩=some (.int .i64 (U (i*12+4)))∧w'.cell? ⟨b,o+i*12+5,none⟩=some (.int .i64 (U (i*12+5)))∧w'.cell? ⟨b,o+k*12+1,none⟩=some (.int .i64 (U (k*12+1)))∧w'.cell? ⟨b,o+k*12+2,none⟩=some (.int .i64 (U (k*12+2)))∧w'.cell? ⟨b,o+k*12+3,none⟩=some (.int .i64 (U (k*12+3)))∧w'.cell? ⟨b,o+k*12+4,none⟩=some (.int .i64 (U (k*12+4)))∧w'.cell? ⟨b,o+k*12+5,none⟩=some (.int .i64 (U (k*12+5)))) (by kernel_rfl) ?_ (fun hHeld=> ?_)
          · (try dsimp only)
            (first|(go_simp;done)|(go_keep;done))
          refine tq 0 hHeld ?_
          refine tq 1 hHeld ?_
          refine tq 2 hHeld ?_
          refine tq 3 hHeld ?_
          refine tq 4 hHeld ?_
          refine tq 5 hHeld ?_
          refine tq 6 hHeld ?_
          refine tq 7 hHeld ?_
          refine tq 8 hHeld ?_
          refine tq 9 hHeld ?_
          refine tq 10 hHeld ?_
          refine tq 11 hHeld ?_
          refine tq 12 hHeld ?_
          refine tq 13 hHeld ?_
          refine tq 14 hHeld ?_
          refine tq 15 hHeld ?_
          refine tq 16 hHeld ?_
          refine tq 17 hHeld ?_
          refine tq 18 hHeld ?_
          refine tq 19 hHeld ?_
          refine wpAnyH_ready (rs:=[20,24]) (by kernel_rfl) (by simp) ?_
          refine AllReadyH.cons rfl (fun K hK=> ?_) (AllReadyH.cons rfl (fun K hK=> ?_) AllReadyH.nil)
          · (go_simp;(go_at_call 61;refine(l5Touch_q _ _ _ _ _ _ _ _ _ _ TX TY TD TJ _ si sk qi qk hT).mono ?_;rintro e w3 ⟨rfl,hb3⟩;have hz3:=hb3.size;(try simp only[zz] at hz3);have:=kfa hb3 b;have hk3z:=fun o=>hb3.cell (p:=⟨wr.heap.size,o,none⟩);have hj3z:=fun o=>hb3.frozen (p:=⟨wr.heap.size,o,none⟩);(try simp only[World.size_drew,World.size_alloc] at hk3z hj3z));(try go_wp2_with fail);refine tr hK (fun hHeld=> ?_);clear hK K)
            refine tq 21 hHeld ?_
            refine tq 22 hHeld ?_
            refine tq 23 hHeld ?_
            refine tc 24 fun K hK=> ?_
            (go_simp;refine tr hK (fun hHeld=> ?_);clear hK K)
            refine tc 25 fun K hK=> ?_
            (go_simp;refine tr hK (fun hHeld=> ?_);clear hK K)
            refine tq 26 hHeld ?_
            refine wpAnyH_done (by kernel_rfl) ?_ _
            go_wp2_with fail
            go_meet
            exact⟨_,rfl,rfl,by go_simp,by go_simp,by go_simp,by first|(simp;omega)|simp|omega,by first|(simp;omega)|simp|omega,bel_a⟩
          · (go_simp;refine tr hK (fun hHeld=> ?_);clear hK K)
            refine tc 20 fun K hK=> ?_
            (go_simp;(go_at_call 61;refine(l5Touch_q _ _ _ _ _ _ _ _ _ _ TX TY TD TJ _ si sk qi qk hT).mono ?_;rintro e w3 ⟨rfl,hb3⟩;have hz3:=hb3.size;(try simp only[zz] at hz3);have:=kfa hb3 b;have hk3z:=fun o=>hb3.cell (p:=⟨wr.heap.size,o,none⟩);have hj3z:=fun o=>hb3.frozen (p:=⟨wr.heap.size,o,none⟩);(try simp only[World.size_drew,World.size_alloc] at hk3z hj3z));(try go_wp2_with fail);refine tr hK (fun hHeld=> ?_);clear hK K)
            refine tq 21 hHeld ?_
            refine tq 22 hHeld ?_
            refine tq 23 hHeld ?_
            refine tc 25 fun K hK=> ?_
            (go_simp;refine tr hK (fun hHeld=> ?_);clear hK K)
            refine tq 26 hHeld ?_
            refine wpAnyH_done (by kernel_rfl) ?_ _
            go_wp2_with fail
            go_meet
            exact⟨_,rfl,rfl,by go_simp,by go_simp,by go_simp,by first|(simp;omega)|simp|omega,by first|(simp;omega)|simp|omega,bel_a⟩
         case rest=>
         obtain⟨bh,rfl,rfl,t0,t1,t2,hbh,hbh0,hbd⟩:=hcut
         have hLd:=hL.below hbd
         cases TJ with
         | false=>
           have hno:Shut (conOne (colOf U) i k=[]):=conOne_no (by unfold conB;rw[hT];simp)
           go_wp2
           go_roundw
           case rel=>exact⟨k+1,_,_,_,by omega,by omega,by go_num,rfl,by rw[conIn,hno.out,List.append_nil];exact hLd⟩
           case measure=>simp[intOf];omega
         | true=>
           have hyes:Shut (conOne (colOf U) i k=[(i:Int),(k:Int),TX,TY,TD]):=conOne_yes (conB_yes hik hfx'.out hT) hT
           go_wp2_with (refine wpList_app rfl _ _ _ rfl w.heap.size 108 5 40 (.agg #[.int .i64 0,.int .i64 0,.int .i64 0,.int .i64 0,.int .i64 0]) Tryz.underlying63 (by kernel_rfl) (by rfl) (by omega) (.slice a2 m2 c2) m2 (ofL (conOut (colOf U) n i++conIn (colOf U) i k)) rfl (hLd.below ((Below.refl _ _).alloc (Nat.le_refl _) _)).own _ 1 _ (ofL [(i:Int),(k:Int),TX,TY,TD]) rfl (flat5 _ _ _ _ _ _ _) (by unfold maxLen;omega) (by omega) (by simp only[World.size_alloc];have:=hLd.bel.size;omega) ?_;intro a1 c1 w1 ho1 hg1)
           have hP:=(hLd.below ((Below.refl _ _).alloc (Nat.le_refl _) _)).push (x:=[(i:Int),(k:Int),TX,TY,TD]) rfl hg1 ho1
           go_roundw
           case rel=>exact⟨k+1,_,_,_,by omega,by omega,by go_num,rfl,by rw[conIn,hyes.out,←List.append_assoc];exact hP⟩
           case measure=>simp[intOf];omega
     · obtain rfl:k=n:=by omega
       go_wp2
       go_roundw
       case rel=>exact⟨i+1,_,_,_,by omega,by go_num,rfl,hL⟩
       case measure=>simp[intOf];omega
  · obtain rfl:i=n:=by omega
    go_wp2
    go_ret
    exact⟨_,_,_,rfl,hL.len,hL.bel,hL.own⟩
def mv7 (cb:Nat) (C:Nat→Int) (q:Nat):List Value:=[.int .i64 (C (q*5+2)),.int .i64 (C (q*5+3)),.int .i64 (C (q*5+4)),.int .i64 (C (q*5)),.pointer (some ⟨cb,0,none⟩),.int .i64 (C (q*5+1)),.pointer (some ⟨cb,0,none⟩)]
def mvs (cb:Nat) (C:Nat→Int):Nat→List Value
 |0=>[]
 |m+1=>mvs cb C m++mv7 cb C m
theorem mvs_len (cb:Nat) (C:Nat→Int):∀ m,(mvs cb C m).length=m*7
 |0=>rfl
 |m+1=>by rw[mvs,List.length_append,mvs_len cb C m];show m*7+7=_;omega
theorem mvs_get (cb:Nat) (C:Nat→Int):∀ (m q i:Nat),q<m→i<7→(mvs cb C m)[q*7+i]? =(mv7 cb C q)[i]?
 |0,q,i,h,_=>absurd h (Nat.not_lt_zero _)
 | m+1,q,i,h,hi=>by
   rw[mvs]
   by_cases e:q=m
   · subst e
     rw[List.getElem?_append_right (by rw[mvs_len];omega),mvs_len,Nat.add_sub_cancel_left]
   · rw[List.getElem?_append_left (by rw[mvs_len];omega)]
     exact mvs_get cb C m q i (by omega) hi
def ML (w:World) (base cb:Nat) (v:Value) (C:Nat→Int) (m:Nat):Prop:=w.ownsRow base 221 7 v m (mvs cb C m)
theorem ML.nil (w:World) (base cb:Nat) (C:Nat→Int):ML w base cb (.slice none 0 0) C 0:=World.ownsRow_nil w base _ _
theorem ML.lt {w:World} {base cb m:Nat} {v:Value} {C:Nat→Int} (h:ML w base cb v C m):∀ b,v.ownBlock=some b→base≤b∧b<w.heap.size:=World.ownsRow.lt h
theorem ML.frame {X:Nat→Prop} {w w':World} {base cb m:Nat} {v:Value} {C:Nat→Int} (h:ML w base cb v C m) (hs:Fr X w w') (hX:∀ b,v.ownBlock=some b→¬ X b):ML w' base cb v C m:=by
 refine⟨h.1,?_⟩
 rcases h.2 with q|⟨g,cap,cur,hv,hb,hg,rest⟩
 · exact .inl q
 · exact .inr ⟨g,cap,cur,hv,hb,(hs.block _ (Array.getElem?_eq_some_iff.1 hg).1 (hX g (by rw[hv];rfl))).trans hg,rest⟩
theorem ML.below {w w':World} {base cb m:Nat} {v:Value} {C:Nat→Int} (h:ML w base cb v C m) (hb:Below w.heap.size w w'):ML w' base cb v C m:=h.frame (X:=fun _=>False) (Fr.of_below hb) (fun _ _ h=>h)
theorem ML.isCells {w:World} {base cb m:Nat} {v:Value} {C:Nat→Int} (h:ML w base cb v C m):∀ b o,v.ownBlock=some b→w.heap[b]? =some o→o.isCells=true:=by
 intro b o hb ho
 rcases h.2 with⟨hv,_⟩|⟨g,cap,cur,hv,_,hg,_⟩
 · subst hv;cases hb
 · subst hv
   simp only[Value.ownBlock,Option.some.injEq] at hb
   subst hb
   rw[hg] at ho;cases ho;rfl
theorem ML.is {w:World} {base cb m:Nat} {v:Value} {C:Nat→Int} (h:ML w base cb v C m):(m=0∧v= .slice none 0 0)∨∃ g c,v= .slice (some ⟨g,0,none⟩) m c:=by
 rcases h.2 with⟨hv,e⟩|⟨g,cap,cur,hv,_⟩
 · exact .inl ⟨e,hv⟩
 · exact .inr ⟨_,_,hv⟩
theorem ML.rg {w:World} {base cb m g c rb:Nat} {C:Nat→Int} (h:ML w base cb (.slice (some ⟨g,0,none⟩) m c) C m) (c0:w.cell? ⟨rb,0,none⟩=some (.slice (some ⟨g,0,none⟩) m c)) (c1:w.cell? ⟨rb,1,none⟩=some (.int .i64 0)) (f1:w.frozen? ⟨rb,1,none⟩=false) (ne:rb≠g):Rg w rb g m c cb C 0:=
 ⟨c0,c1,f1,fun q hq=>by
  have k:=fun i (hi:i<7)=>(World.ownsRow.cellAt h (q*7+i) (by omega)).trans (mvs_get cb C m q i hq hi)
  exact⟨k 0 (by omega),k 1 (by omega),k 2 (by omega),k 3 (by omega),k 4 (by omega),k 5 (by omega),k 6 (by omega)⟩,(h.lt g rfl).2,cell_lt (a:=⟨rb,0,none⟩) c0,ne⟩
abbrev zcMeet:Value:= .agg #[.int .i64 0,.int .i64 0,.int .i64 0,.int .i64 0,.pointer none,.int .i64 0,.pointer none]
theorem infoMeet:(Tryz.prog.info? 221).map (fun i=>(i.zero,i.size,i.bytes))=some (some zcMeet,7,56):=by kernel_rfl
theorem step_mapp {ops:Array Oper} {o:Oper} {a:Act} {K:Act→World→Prop} {Q:Exit→Act→World→Prop} {E:Prop} {w:World} (hgd:o.guard=none) (s x:Operand) (t:TypeId)
 (ho:o.op= .call {callee:= .builtin .append,args:= #[s,x],argTypes:= #[t,t]})
 (ht:Tryz.prog.underlying t=some (.slice 221))
 (base cb:Nat) (v:Value) (C:Nat→Int) (m:Nat) (hs:a.eval s=v) (h:ML w base cb v C m) (b:Nat) (hx:a.eval x= .slice (some ⟨b,0,none⟩) 1 1)
 (hn:∀ i,i<7→w.cell? ⟨b,i,none⟩=(mv7 cb C m)[i]?) (hm:m≤1000) (hbase:base≤w.heap.size)
 (hK:∀ g' c' w',ML w' base cb (.slice (some ⟨g',0,none⟩) (m+1) c') C (m+1)→w.grownBy w' v.ownBlock→K (a.put o.dst (.slice (some ⟨g',0,none⟩) (m+1) c')) w'):
 if Region.wanted o (yielded ops a.tmps)=true then Oper.wp Tryz.prog o a w K Q else E:=by
 obtain⟨i,hi,hzz⟩:=Option.map_eq_some_iff.1 infoMeet
 simp only[Prod.mk.injEq] at hzz
 obtain⟨hz,hsz,hb8⟩:=hzz
 refine step_append_lies w hgd s x t ho base 221 i zcMeet 7 56 ht hi hz hsz hb8 rfl (by decide) v m (mvs cb C m) hs h ⟨b,0,none⟩ 1 1 (mv7 cb C m) hx rfl ?_ ?_ (by decide) (by unfold maxLen;omega) (by omega) hbase _ rfl ?_
 · intro q u hu
   have hq:q<7:=by
    have:=(List.getElem?_eq_some_iff.1 hu).1
    exact this
   have hadd:(⟨b,0,none⟩:Addr).add q=⟨b,q,none⟩:=by unfold Addr.add;split<;>simp_all
   rw[hadd,hn q hq];exact hu
 · intro u hu;simp only[mv7,List.mem_cons,List.not_mem_nil,or_false] at hu;rcases hu with rfl|rfl|rfl|rfl|rfl|rfl|rfl<;>rfl
 · intro g' cap' w' r1 r2 r3 r4
   exact hK g' cap' w' r1 r2
end Go.Proofs.YtpmjnpmnocjjgaaGreatDoor
