/- Texts of a proof. -/
import Derived.Test.YthajilkjfkppoaaGreatDoorB21
import Derived.Test.YthajilkjfkppoaaGreatDoorSPdk
import Derived.Test.YthajilkjfkppoaaGreatDoorB22
import Derived.Deep.RegionHeld3
import Derived.Deep.DeepCutAuto
import Derived.Test.YthajilkjfkppoaaGreatDoorB2
import Derived.Test.YthajilkjfkppoaaGreatDoorB6
import Derived.Test.YthajilkjfkppoaaGreatDoorB13
import Derived.Test.YthajilkjfkppoaaGreatDoorB12
import Derived.Test.YthajilkjfkppoaaGreatDoorB3
import Derived.Test.YthajilkjfkppoaaGreatDoorB9
set_option maxHeartbeats 16000000
set_option maxRecDepth 20000
namespace Go.Proofs.YthajilkjfkppoaaGreatDoor
open Go.RowKit
set_option linter.unusedVariables false
set_option linter.unusedSimpArgs false
theorem LV.up {w0 w wr:World} {t g cap n:Nat} {xs:List Value} (h:LV w wr t g cap n xs) (hb:Below w0.heap.size w0 w):LV w0 wr t g cap n xs:=
 ⟨hb.trans (h.bel.mono hb.size),h.len,⟨h.own.1,by
  rcases h.own.2 with q|⟨g',cap',cur,hv,hb',rest⟩
  · exact .inl q
  · exact .inr ⟨g',cap',cur,hv,Nat.le_trans hb.size hb',rest⟩⟩⟩
def joinG (l:List Int) (A B:Nat):List Int:=(l.set A (if ofL l B<ofL l A then ofL l B else ofL l A)).set B (if ofL l B<ofL l A then ofL l B else ofL l A)
def joinL (U C:Nat→Int) (l:List Int) (k:Nat):List Int:=
 bif decide (U ((C (k*5)).toNat*12+8)=0)||decide (U ((C (k*5+1)).toNat*12+8)=0) then l else joinG l (C (k*5)).toNat (C (k*5+1)).toNat
def grpI (U C:Nat→Int) (l:List Int):Nat→List Int
 |0=>l
 |k+1=>joinL U C (grpI U C l k) k
def grpR (U C:Nat→Int) (m:Nat) (l:List Int):Nat→List Int
 |0=>l
 |r+1=>grpI U C (grpR U C m l r) m
def rng:Nat→List Int
 |0=>[]
 |i+1=>rng i++[(i:Int)]
theorem joinG_len (l:List Int) (A B:Nat):(joinG l A B).length=l.length:=by unfold joinG;rw[List.length_set,List.length_set]
theorem joinL_len (U C:Nat→Int) (l:List Int) (k:Nat):(joinL U C l k).length=l.length:=by
 unfold joinL
 generalize (decide (U ((C (k*5)).toNat*12+8)=0)||decide (U ((C (k*5+1)).toNat*12+8)=0))=b
 cases b
 · exact joinG_len _ _ _
 · rfl
theorem grpI_len (U C:Nat→Int) (l:List Int):∀ k,(grpI U C l k).length=l.length
 |0=>rfl
 |k+1=>by rw[grpI,joinL_len,grpI_len U C l k]
theorem grpR_len (U C:Nat→Int) (m:Nat) (l:List Int):∀ r,(grpR U C m l r).length=l.length
 |0=>rfl
 |r+1=>by rw[grpR,grpI_len,grpR_len U C m l r]
theorem rng_len:∀ n,(rng n).length=n
 |0=>rfl
 |n+1=>by rw[rng,List.length_append,rng_len n];rfl
def grpL (U C:Nat→Int) (m n:Nat):List Int:=(numS U (ofL (grpR U C m (rng n) n)) n).1
theorem l7Groups_any (a:Option Addr) (n c:Nat) (U:Nat→Int) (ac:Option Addr) (m cc:Nat) (C:Nat→Int) (w:World) (h:Flat w a (n*12) U) (hn:n≤1000) (hm:m≤1048576) (h2:Flat w ac (m*5) C) (hC:CtOk n m C):
 Calls Tryz.prog 39 #[.slice a n c,.slice ac m cc] w fun e w'=>∃ g1 c1,e= .returned (.slice (some ⟨g1,0,none⟩) n c1)∧LV w w' 3 g1 c1 n (IV (grpL U C m n)):=by
 have hset:=cset_map
 have L1:=LV.new (w:=w) 3 (Below.refl _ w) rfl
 go_enter Tryz.func39,Tryz.ntmps39
 go_upto_region 3 with fail
 go_loopw [5,6] (fun s5 s6 wr=>∃ (i g1 c1:Nat),i≤n∧s6= .int .i64 (i:Int)∧s5= .slice (some ⟨g1,0,none⟩) i c1∧LV w wr 3 g1 c1 i (IV (rng i))) (fun _ s6 _=>n-(intOf s6).toNat)
 case atStart=>exact⟨0,_,_,Nat.zero_le _,rfl,rfl,L1⟩
 case round=>
  clear L1
  obtain⟨i,g1,c1,hi,rfl,rfl,H1⟩:=hrel
  by_cases hlt:i<n
  · have hin:(i:Int)<(n:Int):=by omega
    have hE:Below wr.heap.size wr (wr.alloc (Obj.cells #[.int .i64 (i:Int)] 3)):=(Below.refl _ _).alloc (Nat.le_refl _) _
    have hcE:(wr.alloc (Obj.cells #[.int .i64 (i:Int)] 3)).cell? ⟨wr.heap.size,0,none⟩=some (.int .i64 (i:Int)):=by go_simp
    have HR:Shut (rng (i+1)=rng i++[(i:Int)]):=by show _=_;rw[rng]
    go_wp2_with (refine wpList_push rfl _ _ _ rfl 3 8 zcInt Tryz.underlying50 infoInt rfl (by decide) g1 c1 i (IV (rng i)) rfl H1 hE wr.heap.size rfl (.int .i64 (i:Int)) hcE rfl (by omega) ?_;intro g5 c5 w5 hp5 hg5 hl5)
    go_roundw
    case rel=>exact⟨i+1,g5,c5,by omega,by go_num,rfl,by rw[HR.out,←IV_app];exact hp5⟩
    case measure=>simp[intOf];omega
  · obtain rfl:n=i:=by omega
    go_upto_region 7 with fail
    go_loopw [7,8,9,10] (fun s7 _ _ _ wr=>∃ r:Nat,r≤n∧s7= .int .i64 (r:Int)∧LV w wr 3 g1 c1 n (IV (grpR U C m (rng n) r))) (fun s7 _ _ _ _=>n-(intOf s7).toNat)
    case atStart=>exact⟨0,Nat.zero_le _,rfl,H1⟩
    case round=>
     clear H1
     obtain⟨r,hr,rfl,H1⟩:=hrel
     by_cases hlr:r<n
     · have hri:(r:Int)<(n:Int):=by omega
       have HG:Shut (grpR U C m (rng n) (r+1)=grpI U C (grpR U C m (rng n) r) m):=by show _=_;rw[grpR]
       have hl0:(grpR U C m (rng n) r).length=n:=by rw[grpR_len,rng_len]
       generalize grpR U C m (rng n) r=l0 at H1 HG hl0
       go_upto_region 10 with fail
       go_loopw [8,9,10] (fun s8 _ _ wq=>∃ k:Nat,k≤m∧s8= .int .i64 (k:Int)∧LV w wq 3 g1 c1 n (IV (grpI U C l0 k))) (fun s8 _ _ _=>m-(intOf s8).toNat)
       case atStart=>exact⟨0,Nat.zero_le _,rfl,H1⟩
       case round=>
        clear H1
        obtain⟨k,hk,rfl,H1⟩:=hrel
        by_cases hlt:k<m
        · have hkm:(k:Int)<(m:Int):=by omega
          have ca:=hC.a k hlt
          have cb:=hC.b k hlt
          have cn:=hC.ne k hlt
          obtain⟨b1,o1,e1,hbl1,hc1⟩:=(h2.below H1.bel) (by omega)
          have r0:=hc1 (k*5) (by omega)
          have r1:=hc1 (k*5+1) (by omega)
          have r2:=hc1 (k*5+2) (by omega)
          have r3:=hc1 (k*5+3) (by omega)
          have r4:=hc1 (k*5+4) (by omega)
          simp only[←Nat.add_assoc] at r0 r1 r2 r3 r4
          clear hc1
          subst e1
          have HJ:Shut (grpI U C l0 (k+1)=joinL U C (grpI U C l0 k) k):=by show _=_;rw[grpI]
          have hll:(grpI U C l0 k).length=n:=by rw[grpI_len];exact hl0
          obtain⟨l,hl⟩:∃ l,grpI U C l0 k=l:=⟨_,rfl⟩
          rw[hl] at HJ H1 hll
          clear hl
          unfold joinL at HJ
          obtain⟨A,hA⟩:∃ A:Nat,C (k*5)=(A:Int):=⟨(C (k*5)).toNat,by omega⟩
          obtain⟨B,hBB⟩:∃ B:Nat,C (k*5+1)=(B:Int):=⟨(C (k*5+1)).toNat,by omega⟩
          rw[hA,hBB,Int.toNat_natCast,Int.toNat_natCast] at HJ
          rw[hA] at ca r0 cn
          rw[hBB] at cb r1 cn
          clear hA hBB
          have hAB:¬ A=B:=fun e=>cn (by rw[e])
          have hBA:¬ B=A:=fun e=>cn (by rw[e])
          clear cn
          have hAn:A<n:=by omega
          have hBn:B<n:=by omega
          have hAi:(A:Int)<(n:Int):=ca.2
          have hBi:(B:Int)<(n:Int):=cb.2
          obtain⟨b0,o0,e0,hbl0,hc0⟩:=(h.below H1.bel) (by omega)
          have rA:=hc0 (A*12+8) (by omega)
          have rB:=hc0 (B*12+8) (by omega)
          simp only[←Nat.add_assoc] at rA rB
          clear hc0
          subst e0
          have hE:Below wr.heap.size wr (wr.alloc (Obj.cells #[.int .i64 (A:Int),.int .i64 (B:Int),.int .i64 (C (k*5+2)),.int .i64 (C (k*5+3)),.int .i64 (C (k*5+4))] 40)):=(Below.refl _ _).alloc (Nat.le_refl _) _
          have HE:=H1.on hE
          by_cases mA:U (A*12+8)=0
          · have em:(U (A*12+8)==0)=true:=by simp[mA]
            rw[decide_eq_true mA] at HJ
            clear mA
            have HJ':Shut (grpI U C l0 (k+1)=l):=HJ.out
            go_wp2_with fail
            go_roundw
            case rel=>exact⟨k+1,by omega,by go_num,by rw[HJ'.out];exact HE⟩
            case measure=>simp[intOf];omega
          · have em:(U (A*12+8)==0)=false:=by simp[mA]
            by_cases mB:U (B*12+8)=0
            · have em2:(U (B*12+8)==0)=true:=by simp[mB]
              rw[decide_eq_false mA,decide_eq_true mB] at HJ
              clear mA mB
              have HJ':Shut (grpI U C l0 (k+1)=l):=HJ.out
              go_wp2_with fail
              go_roundw
              case rel=>exact⟨k+1,by omega,by go_num,by rw[HJ'.out];exact HE⟩
              case measure=>simp[intOf];omega
            · have em2:(U (B*12+8)==0)=false:=by simp[mB]
              rw[decide_eq_false mA,decide_eq_false mB] at HJ
              clear mA mB
              have HJ':Shut (grpI U C l0 (k+1)=joinG l A B):=HJ.out
              unfold joinG at HJ'
              obtain⟨gm,hgm⟩:∃ x,(if ofL l B<ofL l A then ofL l B else ofL l A)=x:=⟨_,rfl⟩
              rw[hgm] at HJ'
              go_upto_region 14 with fail
              have x0:(wr.alloc (Obj.cells #[.int .i64 (A:Int),.int .i64 (B:Int),.int .i64 (C (k*5+2)),.int .i64 (C (k*5+3)),.int .i64 (C (k*5+4))] 40)).cell? ⟨wr.heap.size,0,none⟩=some (.int .i64 (A:Int)):=by go_simp
              have x1:(wr.alloc (Obj.cells #[.int .i64 (A:Int),.int .i64 (B:Int),.int .i64 (C (k*5+2)),.int .i64 (C (k*5+3)),.int .i64 (C (k*5+4))] 40)).cell? ⟨wr.heap.size,1,none⟩=some (.int .i64 (B:Int)):=by go_simp
              have hgp:=H1.lt
              generalize (wr.alloc (Obj.cells #[.int .i64 (A:Int),.int .i64 (B:Int),.int .i64 (C (k*5+2)),.int .i64 (C (k*5+3)),.int .i64 (C (k*5+4))] 40))=wx at hE HE x0 x1 ⊢
              have hbz:=hE.size
              generalize wr.heap.size=bp at x0 x1 hgp ⊢
              have yA:=HE.ic hAn
              have yB:=HE.ic hBn
              have yf:=HE.fro
              have hne:¬ bp=g1:=by omega
              have hne':¬ g1=bp:=by omega
              clear r0 r1 r2 r3 r4 rA rB em em2 hE H1
              refine wp_region_held_drew (S:=fun w'=>w'.cell? ⟨bp,0,none⟩=some (.int .i64 (A:Int))∧w'.cell? ⟨bp,1,none⟩=some (.int .i64 (B:Int))∧w'.cell? ⟨g1,A,none⟩=some (.int .i64 (ofL l A))∧w'.cell? ⟨g1,B,none⟩=some (.int .i64 (ofL l B))) (by kernel_rfl) ?_ (fun hHeld=> ?_)
              · (try dsimp only)
                (first|(go_simp;done)|(go_keep;done))
              refine tq 0 hHeld ?_
              refine tq 1 hHeld ?_
              refine tq 2 hHeld ?_
              refine tq 3 hHeld ?_
              refine tq 4 hHeld ?_
              refine tq 5 hHeld ?_
              refine tq 6 hHeld ?_
              refine tq 7 hHeld ?_
              refine tq 8 hHeld ?_
              refine tq 9 hHeld ?_
              refine tc 10 fun K hK=> ?_
              (go_simp
               (go_at_call 77;refine(l3Less_q (ofL l A) (ofL l B) gm _ hgm).mono ?_;rintro e w5 ⟨rfl,hw5⟩;subst hw5)
               (try go_wp2_with fail)
               refine tr hK (fun hHeld=> ?_)
               clear hK K)
              refine tq 11 hHeld ?_
              refine wpAnyH_done (by kernel_rfl) ?_ _
              go_wp2_with fail
              have q1:=(HE.dr.set A (.int .i64 gm)).set B (.int .i64 gm)
              rw[IV_set,IV_set,←HJ'.out] at q1
              go_roundw
              case rel=>exact⟨k+1,by omega,by go_num,q1⟩
              case measure=>simp[intOf];omega
        · obtain rfl:k=m:=by omega
          go_wp2_with fail
          go_roundw
          case rel=>exact⟨r+1,by omega,by go_num,by rw[HG.out];exact H1⟩
          case measure=>simp[intOf];omega
     · obtain rfl:r=n:=by omega
       go_wp2_with (go_at_call 78;refine(l7Number_any a r c U (some ⟨g1,0,none⟩) c1 (ofL (grpR U C m (rng r) r)) _ (h.below H1.bel) hn H1.flat).mono ?_;rintro e w5 ⟨g5,c5,rfl,hp5⟩)
       go_ret
       exact⟨_,_,rfl,hp5.up H1.bel⟩
theorem l5Touch_q (k1 g1 h1 x y k2 g2 h2 u v X Y D:Int) (K:Bool) (w:World) (s1:shB k1 g1 h1=true) (s2:shB k2 g2 h2=true) (p1:inB 2560000 x y=true) (p2:inB 2560000 u v=true) (e:toT k1 g1 h1 x y k2 g2 h2 u v=((X,Y,D),K)):
 Calls Tryz.prog 76 #[s3 k1 g1 h1,vv x y,s3 k2 g2 h2,vv u v] w fun e w'=>e= .returned (.tuple #[s3 X Y D,.bool K])∧Below w.heap.size w w':=by
 have e2:toT k1 g1 h1 x y k2 g2 h2 u v=tcT k1 g1 h1 x y k2 g2 h2 u v:=by unfold toT;rw[if_pos (by simp[*])]
 rw[e2] at e
 obtain⟨px,py⟩:=inB_of p1
 obtain⟨pu,pv⟩:=inB_of p2
 rcases shB_kinds s1 with⟨rfl,rfl,a1,a2⟩|⟨rfl,a1,a2,a3,a4⟩<;>rcases shB_kinds s2 with⟨rfl,rfl,b1,b2⟩|⟨rfl,b1,b2,b3,b4⟩
 · exact sT_rr g1 g2 x y u v X Y D K w ⟨a1,a2⟩ ⟨b1,b2⟩ px py pu pv (by simpa [tcT] using e)
 · exact sT_rb g1 g2 h2 x y u v X Y D K w ⟨a1,a2⟩ ⟨b1,b2⟩ ⟨b3,b4⟩ px py pu pv (by simpa [tcT] using e)
 · exact sT_br g1 h1 g2 x y u v X Y D K w ⟨a1,a2⟩ ⟨a3,a4⟩ ⟨b1,b2⟩ px py pu pv (by simpa [tcT] using e)
 · exact sT_bb g1 h1 g2 h2 x y u v X Y D K w ⟨a1,a2⟩ ⟨a3,a4⟩ ⟨b1,b2⟩ ⟨b3,b4⟩ px py pu pv (by simpa [tcT] using e)
theorem bods_sh {U:Nat→Int} {n k:Nat} (h:bodsB n U=true) (l:k<n):shB (U (k*12+1)) (U (k*12+2)) (U (k*12+3))=true∧inB 2560000 (U (k*12+4)) (U (k*12+5))=true:=by
 unfold bodsB at h
 rw[Bool.and_eq_true] at h
 have h2:bodyB (fun j=>U (k*12+j))=true:=by
  have key:∀ m,allBB U m=true→k<m→stepBB U k=true:=by
   intro m
   induction m with
   |zero=>intro _ l;omega
   | succ m ih=>
     intro hm l
     unfold allBB at hm
     rw[Bool.and_eq_true] at hm
     by_cases e:k=m
     · subst e;exact hm.2
     · exact ih hm.1 (by omega)
  have:=key n h.2 l
  unfold stepBB at this
  rw[Bool.and_eq_true] at this
  exact this.1
 unfold bodyB at h2
 simp only[Bool.and_eq_true] at h2
 exact⟨h2.2.1,h2.2.2.1⟩
theorem flat5 (w:World) (p q r s u:Int) (t:TypeId):Flat (w.alloc (Obj.cells #[.int .i64 p,.int .i64 q,.int .i64 r,.int .i64 s,.int .i64 u] t)) (some ⟨w.heap.size,0,none⟩) (1*5) (ofL [p,q,r,s,u]):=by
 intro _
 refine⟨w.heap.size,0,rfl,by simp,fun j hj=> ?_⟩
 rw[Nat.zero_add]
 rcases(show j=0∨j=1∨j=2∨j=3∨j=4 by omega) with rfl|rfl|rfl|rfl|rfl<;>(simp only[ofL];go_simp;(try rfl))
theorem l7Contacts_any (a:Option Addr) (n c:Nat) (U:Nat→Int) (w:World) (h:Flat w a (n*12) U) (hok:bodsB n U=true) (hn:n≤12):
 Calls Tryz.prog 38 #[.slice a n c] w fun e w'=>∃ a' m c',e= .returned (.slice a' m c')∧(conL (colOf U) n).length=m*5∧OutL w w' 40 5 a' m c' (ofL (conL (colOf U) n)):=by
 have hset:=cset_map
 go_enter Tryz.func38,Tryz.ntmps38
 go_wp2
 go_loopw [3,4,5,6,7] (fun s3 s4 _ _ _ wr=>∃ i a' m c',i≤n∧s4= .int .i64 (i:Int)∧s3= .slice a' m c'∧LsV w wr 40 5 a' m c' (conOut (colOf U) n i)) (fun _ s4 _ _ _ _=>n-(intOf s4).toNat)
 case atStart=>exact⟨0,_,_,_,Nat.zero_le _,rfl,rfl,LsV.new w _ _⟩
 case round=>
  obtain⟨i,a',m,c',hi,rfl,rfl,hL⟩:=hrel
  by_cases hlt:i<n
  · have hin:(i:Int)<(n:Int):=by omega
    obtain⟨b,o,rfl,hbl,hc⟩:=h (by omega)
    obtain⟨si,qi⟩:=bods_sh hok hlt
    obtain⟨mm,hm1,hm2⟩:=conOut_len (colOf U) n i
    have hm6:i*n≤12*12:=Nat.mul_le_mul (by omega) hn
    go_wp2
    go_loopw [3,5,6,7] (fun s3 s5 _ _ wr=>∃ k a' m c',i<k∧k≤n∧s5= .int .i64 (k:Int)∧s3= .slice a' m c'∧LsV w wr 40 5 a' m c' (conOut (colOf U) n i++conIn (colOf U) i k)) (fun _ s5 _ _ _=>n-(intOf s5).toNat)
    case atStart=>exact⟨i+1,_,_,_,by omega,by omega,by go_num,rfl,by rw[conIn_ge i (i+1) (Nat.le_refl _),List.append_nil];exact hL⟩
    case round=>
     clear hL
     obtain⟨k,a2,m2,c2,hik,hk,rfl,rfl,hL⟩:=hrel
     by_cases hlk:k<n
     · have hkn:(k:Int)<(n:Int):=by omega
       obtain⟨sk,qk⟩:=bods_sh hok hlk
       obtain⟨mk,hm3,hm4⟩:=conIn_len (colOf U) i k
       have hm5:=hL.len
       rw[List.length_append,hm1,hm3] at hm5
       have hc':∀ q,q<n*12→wr.cell? ⟨b,o+q,none⟩=some (.int .i64 (U q)):=fun q hq=>(hL.bel.cell (p:=⟨b,o+q,none⟩) hbl).trans (hc q hq)
       have hzr:=hL.bel.size
       have ci1:=hc' (i*12+1) (by omega)
       have ck1:=hc' (k*12+1) (by omega)
       have ci2:=hc' (i*12+2) (by omega)
       have ck2:=hc' (k*12+2) (by omega)
       have ci3:=hc' (i*12+3) (by omega)
       have ck3:=hc' (k*12+3) (by omega)
       have ci4:=hc' (i*12+4) (by omega)
       have ck4:=hc' (k*12+4) (by omega)
       have ci5:=hc' (i*12+5) (by omega)
       have ck5:=hc' (k*12+5) (by omega)
       have ci8:=hc' (i*12+8) (by omega)
       have ck8:=hc' (k*12+8) (by omega)
       simp only[←Nat.add_assoc] at ci1 ck1 ci2 ck2 ci3 ck3 ci4 ck4 ci5 ck5 ci8 ck8
       clear hc'
       by_cases hfx:U (i*12+8)=0∧U (k*12+8)=0
       · obtain⟨f1,f2⟩:=hfx
         have hno:Shut (conOne (colOf U) i k=[]):=conOne_no (by unfold conB colOf;rw[f1,f2];simp)
         rw[f1] at ci8
         rw[f2] at ck8
         go_wp2
         go_roundw
         case rel=>exact⟨k+1,_,_,_,by omega,by omega,by go_num,rfl,by rw[conIn,hno.out,List.append_nil];exact hL⟩
         case measure=>simp[intOf];omega
       · obtain⟨TX,TY,TD,TJ,hT⟩:∃ TX TY TD TJ,tcH (colOf U) i k=((TX,TY,TD),TJ):=⟨_,_,_,_,rfl⟩
         have hfx':Shut (¬ (U (i*12+8)=0∧U (k*12+8)=0)):=hfx
         have key:∀ (g:Prop),(U (i*12+8)≠0→g)→(U (i*12+8)=0→U (k*12+8)≠0→g)→g:=fun g h1 h2=>by
          by_cases e:U (i*12+8)=0
          · exact h2 e (fun e2=>hfx ⟨e,e2⟩)
          · exact h1 e
         clear hfx
         go_upto_region 8 with fail
         go_cut [36] (fun s wc=>s= .bool false∧wr=wc)
         case first=>
          refine key _ (fun e=> ?_) (fun e1 e2=> ?_)
          · have e':decide (U (i*12+8)=0)=false:=decide_eq_false e
            have e3:(U (i*12+8)==0)=false:=by simp[e]
            go_wp2
            go_meet
            exact⟨by first|rfl|simp[e3],rfl⟩
          · have e':decide (U (k*12+8)=0)=false:=decide_eq_false e2
            have e3:(U (k*12+8)==0)=false:=by simp[e2]
            rw[e1] at ci8
            go_wp2
            go_meet
            exact⟨by first|rfl|simp[e3],rfl⟩
         case rest=>
         obtain⟨rfl,rfl⟩:=hcut
         clear key ci8 ck8
         go_upto_region 9 with fail
         go_cut [6,7] (fun s6 s7 wd=>∃ bh,s6= .pointer (some ⟨bh,0,none⟩)∧s7= .bool TJ∧wd.cell? ⟨bh,0,none⟩=some (.int .i64 TX)∧wd.cell? ⟨bh,1,none⟩=some (.int .i64 TY)∧wd.cell? ⟨bh,2,none⟩=some (.int .i64 TD)∧bh<wd.heap.size∧wr.heap.size≤bh∧Below wr.heap.size wr wd)
         case first=>
          refine wp_region_held_drew (S:=fun w'=>w'.cell? ⟨b,o+i*12+1,none⟩=some (.int .i64 (U (i*12+1)))∧w'.cell? ⟨b,o+i*12+2,none⟩=some (.int .i64 (U (i*12+2)))∧w'.cell? ⟨b,o+i*12+3,none⟩=some (.int .i64 (U (i*12+3)))∧w'.cell? ⟨b,o+i*12+4,none⟩=some (.int .i64 (U (i*12+4)))∧w'.cell? ⟨b,o+i*12+5,none⟩=some (.int .i64 (U (i*12+5)))∧w'.cell? ⟨b,o+k*12+1,none⟩=some (.int .i64 (U (k*12+1)))∧w'.cell? ⟨b,o+k*12+2,none⟩=some (.int .i64 (U (k*12+2)))∧w'.cell? ⟨b,o+k*12+3,none⟩=some (.int .i64 (U (k*12+3)))∧w'.cell? ⟨b,o+k*12+4,none⟩=some (.int .i64 (U (k*12+4)))∧w'.cell? ⟨b,o+k*12+5,none⟩=some (.int .i64 (U (k*12+5)))) (by kernel_rfl) ?_ (fun hHeld=> ?_)
          · (try dsimp only)
            (first|(go_simp;done)|(go_keep;done))
          refine tq 0 hHeld ?_
          refine tq 1 hHeld ?_
          refine tq 2 hHeld ?_
          refine tq 3 hHeld ?_
          refine tq 4 hHeld ?_
          refine tq 5 hHeld ?_
          refine tq 6 hHeld ?_
          refine tq 7 hHeld ?_
          refine tq 8 hHeld ?_
          refine tq 9 hHeld ?_
          refine tq 10 hHeld ?_
          refine tq 11 hHeld ?_
          refine tq 12 hHeld ?_
          refine tq 13 hHeld ?_
          refine tq 14 hHeld ?_
          refine tq 15 hHeld ?_
          refine tq 16 hHeld ?_
          refine tq 17 hHeld ?_
          refine tq 18 hHeld ?_
          refine tq 19 hHeld ?_
          refine wpAnyH_ready (rs:=[20,24]) (by kernel_rfl) (by simp) ?_
          refine AllReadyH.cons rfl (fun K hK=> ?_) (AllReadyH.cons rfl (fun K hK=> ?_) AllReadyH.nil)
          · (go_simp;(go_at_call 76;refine(l5Touch_q _ _ _ _ _ _ _ _ _ _ TX TY TD TJ _ si sk qi qk hT).mono ?_;rintro e w3 ⟨rfl,hb3⟩;have hz3:=hb3.size;(try simp only[zz] at hz3);have:=kfa hb3 b;have hk3z:=fun o=>hb3.cell (p:=⟨wr.heap.size,o,none⟩);have hj3z:=fun o=>hb3.frozen (p:=⟨wr.heap.size,o,none⟩);(try simp only[World.size_drew,World.size_alloc] at hk3z hj3z));(try go_wp2_with fail);refine tr hK (fun hHeld=> ?_);clear hK K)
            refine tq 21 hHeld ?_
            refine tq 22 hHeld ?_
            refine tq 23 hHeld ?_
            refine tc 24 fun K hK=> ?_
            (go_simp;refine tr hK (fun hHeld=> ?_);clear hK K)
            refine tc 25 fun K hK=> ?_
            (go_simp;refine tr hK (fun hHeld=> ?_);clear hK K)
            refine tq 26 hHeld ?_
            refine wpAnyH_done (by kernel_rfl) ?_ _
            go_wp2_with fail
            go_meet
            exact⟨_,rfl,rfl,by go_simp,by go_simp,by go_simp,by first|(simp;omega)|simp|omega,by first|(simp;omega)|simp|omega,bel_a⟩
          · (go_simp;refine tr hK (fun hHeld=> ?_);clear hK K)
            refine tc 20 fun K hK=> ?_
            (go_simp;(go_at_call 76;refine(l5Touch_q _ _ _ _ _ _ _ _ _ _ TX TY TD TJ _ si sk qi qk hT).mono ?_;rintro e w3 ⟨rfl,hb3⟩;have hz3:=hb3.size;(try simp only[zz] at hz3);have:=kfa hb3 b;have hk3z:=fun o=>hb3.cell (p:=⟨wr.heap.size,o,none⟩);have hj3z:=fun o=>hb3.frozen (p:=⟨wr.heap.size,o,none⟩);(try simp only[World.size_drew,World.size_alloc] at hk3z hj3z));(try go_wp2_with fail);refine tr hK (fun hHeld=> ?_);clear hK K)
            refine tq 21 hHeld ?_
            refine tq 22 hHeld ?_
            refine tq 23 hHeld ?_
            refine tc 25 fun K hK=> ?_
            (go_simp;refine tr hK (fun hHeld=> ?_);clear hK K)
            refine tq 26 hHeld ?_
            refine wpAnyH_done (by kernel_rfl) ?_ _
            go_wp2_with fail
            go_meet
            exact⟨_,rfl,rfl,by go_simp,by go_simp,by go_simp,by first|(simp;omega)|simp|omega,by first|(simp;omega)|simp|omega,bel_a⟩
         case rest=>
         obtain⟨bh,rfl,rfl,t0,t1,t2,hbh,hbh0,hbd⟩:=hcut
         have hLd:=hL.below hbd
         cases TJ with
         | false=>
           have hno:Shut (conOne (colOf U) i k=[]):=conOne_no (by unfold conB;rw[hT];simp)
           go_wp2
           go_roundw
           case rel=>exact⟨k+1,_,_,_,by omega,by omega,by go_num,rfl,by rw[conIn,hno.out,List.append_nil];exact hLd⟩
           case measure=>simp[intOf];omega
         | true=>
           have hyes:Shut (conOne (colOf U) i k=[(i:Int),(k:Int),TX,TY,TD]):=conOne_yes (conB_yes hik hfx'.out hT) hT
           go_wp2_with (refine wpList_app rfl _ _ _ rfl w.heap.size 40 5 40 (.agg #[.int .i64 0,.int .i64 0,.int .i64 0,.int .i64 0,.int .i64 0]) Tryz.underlying28 (by kernel_rfl) (by rfl) (by omega) (.slice a2 m2 c2) m2 (ofL (conOut (colOf U) n i++conIn (colOf U) i k)) rfl (hLd.below ((Below.refl _ _).alloc (Nat.le_refl _) _)).own _ 1 _ (ofL [(i:Int),(k:Int),TX,TY,TD]) rfl (flat5 _ _ _ _ _ _ _) (by unfold maxLen;omega) (by omega) (by simp only[World.size_alloc];have:=hLd.bel.size;omega) ?_;intro a1 c1 w1 ho1 hg1)
           have hP:=(hLd.below ((Below.refl _ _).alloc (Nat.le_refl _) _)).push (x:=[(i:Int),(k:Int),TX,TY,TD]) rfl hg1 ho1
           go_roundw
           case rel=>exact⟨k+1,_,_,_,by omega,by omega,by go_num,rfl,by rw[conIn,hyes.out,←List.append_assoc];exact hP⟩
           case measure=>simp[intOf];omega
     · obtain rfl:k=n:=by omega
       go_wp2
       go_roundw
       case rel=>exact⟨i+1,_,_,_,by omega,by go_num,rfl,hL⟩
       case measure=>simp[intOf];omega
  · obtain rfl:i=n:=by omega
    go_wp2
    go_ret
    exact⟨_,_,_,rfl,hL.len,hL.bel,hL.own⟩
end Go.Proofs.YthajilkjfkppoaaGreatDoor
