/- Texts of a proof. -/
import Derived.Test.YtpmjnpmnocjjgaaGreatDoorB25
import Derived.Test.YtpmjnpmnocjjgaaGreatDoorB27
import Derived.Test.YtpmjnpmnocjjgaaGreatDoorB22
import Derived.Deep.RegionHeld3
import Derived.Deep.DeepCutAuto
import Derived.Test.YtpmjnpmnocjjgaaGreatDoorB26
import Derived.Test.YtpmjnpmnocjjgaaGreatDoorB24
import Derived.Test.YtpmjnpmnocjjgaaGreatDoorB28
import Derived.Test.YtpmjnpmnocjjgaaGreatDoorB12
import Derived.Test.YtpmjnpmnocjjgaaGreatDoorB11
set_option maxHeartbeats 16000000
set_option maxRecDepth 20000
namespace Go.Proofs.YtpmjnpmnocjjgaaGreatDoor
open Go.RowKit
set_option linter.unusedVariables false
set_option linter.unusedSimpArgs false
theorem LV.up {w0 w wr:World} {t g cap n:Nat} {xs:List Value} (h:LV w wr t g cap n xs) (hb:Below w0.heap.size w0 w):LV w0 wr t g cap n xs:=
 ⟨hb.trans (h.bel.mono hb.size),h.len,⟨h.own.1,by
  rcases h.own.2 with q|⟨g',cap',cur,hv,hb',rest⟩
  · exact .inl q
  · exact .inr ⟨g',cap',cur,hv,Nat.le_trans hb.size hb',rest⟩⟩⟩
def joinG (l:List Int) (A B:Nat):List Int:=(l.set A (if ofL l B<ofL l A then ofL l B else ofL l A)).set B (if ofL l B<ofL l A then ofL l B else ofL l A)
def joinL (U C:Nat→Int) (l:List Int) (k:Nat):List Int:=
 bif decide (U ((C (k*5)).toNat*12+8)=0)||decide (U ((C (k*5+1)).toNat*12+8)=0) then l else joinG l (C (k*5)).toNat (C (k*5+1)).toNat
def grpI (U C:Nat→Int) (l:List Int):Nat→List Int
 |0=>l
 |k+1=>joinL U C (grpI U C l k) k
def grpR (U C:Nat→Int) (m:Nat) (l:List Int):Nat→List Int
 |0=>l
 |r+1=>grpI U C (grpR U C m l r) m
def rng:Nat→List Int
 |0=>[]
 |i+1=>rng i++[(i:Int)]
theorem joinG_len (l:List Int) (A B:Nat):(joinG l A B).length=l.length:=by unfold joinG;rw[List.length_set,List.length_set]
theorem joinL_len (U C:Nat→Int) (l:List Int) (k:Nat):(joinL U C l k).length=l.length:=by
 unfold joinL
 generalize (decide (U ((C (k*5)).toNat*12+8)=0)||decide (U ((C (k*5+1)).toNat*12+8)=0))=b
 cases b
 · exact joinG_len _ _ _
 · rfl
theorem grpI_len (U C:Nat→Int) (l:List Int):∀ k,(grpI U C l k).length=l.length
 |0=>rfl
 |k+1=>by rw[grpI,joinL_len,grpI_len U C l k]
theorem grpR_len (U C:Nat→Int) (m:Nat) (l:List Int):∀ r,(grpR U C m l r).length=l.length
 |0=>rfl
 |r+1=>by rw[grpR,grpI_len,grpR_len U C m l r]
theorem rng_len:∀ n,(rng n).length=n
 |0=>rfl
 |n+1=>by rw[rng,List.length_append,rng_len n];rfl
def grpL (U C:Nat→Int) (m n:Nat):List Int:=(numS U (ofL (grpR U C m (rng n) n)) n).1
theorem l7Groups_any (a:Option Addr) (n c:Nat) (U:Nat→Int) (ac:Option Addr) (m cc:Nat) (C:Nat→Int) (w:World) (h:Flat w a (n*12) U) (hn:n≤1000) (hm:m≤1048576) (h2:Flat w ac (m*5) C) (hC:CtOk n m C):
 Calls Tryz.prog 30 #[.slice a n c,.slice ac m cc] w fun e w'=>∃ g1 c1,e= .returned (.slice (some ⟨g1,0,none⟩) n c1)∧LV w w' 3 g1 c1 n (IV (grpL U C m n)):=by
 have hset:=cset_map
 have L1:=LV.new (w:=w) 3 (Below.refl _ w) rfl
 go_enter Tryz.func30,Tryz.ntmps30
 go_upto_region 3 with fail
 go_loopw [5,6] (fun s5 s6 wr=>∃ (i g1 c1:Nat),i≤n∧s6= .int .i64 (i:Int)∧s5= .slice (some ⟨g1,0,none⟩) i c1∧LV w wr 3 g1 c1 i (IV (rng i))) (fun _ s6 _=>n-(intOf s6).toNat)
 case atStart=>exact⟨0,_,_,Nat.zero_le _,rfl,rfl,L1⟩
 case round=>
  clear L1
  obtain⟨i,g1,c1,hi,rfl,rfl,H1⟩:=hrel
  by_cases hlt:i<n
  · have hin:(i:Int)<(n:Int):=by omega
    have hE:Below wr.heap.size wr (wr.alloc (Obj.cells #[.int .i64 (i:Int)] 3)):=(Below.refl _ _).alloc (Nat.le_refl _) _
    have hcE:(wr.alloc (Obj.cells #[.int .i64 (i:Int)] 3)).cell? ⟨wr.heap.size,0,none⟩=some (.int .i64 (i:Int)):=by go_simp
    have HR:Shut (rng (i+1)=rng i++[(i:Int)]):=by show _=_;rw[rng]
    go_wp2_with (refine wpList_push rfl _ _ _ rfl 3 8 zcInt Tryz.underlying42 infoInt rfl (by decide) g1 c1 i (IV (rng i)) rfl H1 hE wr.heap.size rfl (.int .i64 (i:Int)) hcE rfl (by omega) ?_;intro g5 c5 w5 hp5 hg5 hl5)
    go_roundw
    case rel=>exact⟨i+1,g5,c5,by omega,by go_num,rfl,by rw[HR.out,←IV_app];exact hp5⟩
    case measure=>simp[intOf];omega
  · obtain rfl:n=i:=by omega
    go_upto_region 7 with fail
    go_loopw [7,8,9,10] (fun s7 _ _ _ wr=>∃ r:Nat,r≤n∧s7= .int .i64 (r:Int)∧LV w wr 3 g1 c1 n (IV (grpR U C m (rng n) r))) (fun s7 _ _ _ _=>n-(intOf s7).toNat)
    case atStart=>exact⟨0,Nat.zero_le _,rfl,H1⟩
    case round=>
     clear H1
     obtain⟨r,hr,rfl,H1⟩:=hrel
     by_cases hlr:r<n
     · have hri:(r:Int)<(n:Int):=by omega
       have HG:Shut (grpR U C m (rng n) (r+1)=grpI U C (grpR U C m (rng n) r) m):=by show _=_;rw[grpR]
       have hl0:(grpR U C m (rng n) r).length=n:=by rw[grpR_len,rng_len]
       generalize grpR U C m (rng n) r=l0 at H1 HG hl0
       go_upto_region 10 with fail
       go_loopw [8,9,10] (fun s8 _ _ wq=>∃ k:Nat,k≤m∧s8= .int .i64 (k:Int)∧LV w wq 3 g1 c1 n (IV (grpI U C l0 k))) (fun s8 _ _ _=>m-(intOf s8).toNat)
       case atStart=>exact⟨0,Nat.zero_le _,rfl,H1⟩
       case round=>
        clear H1
        obtain⟨k,hk,rfl,H1⟩:=hrel
        by_cases hlt:k<m
        · have hkm:(k:Int)<(m:Int):=by omega
          have ca:=hC.a k hlt
          have cb:=hC.b k hlt
          have cn:=hC.ne k hlt
          obtain⟨b1,o1,e1,hbl1,hc1⟩:=(h2.below H1.bel) (by omega)
          have r0:=hc1 (k*5) (by omega)
          have r1:=hc1 (k*5+1) (by omega)
          have r2:=hc1 (k*5+2) (by omega)
          have r3:=hc1 (k*5+3) (by omega)
          have r4:=hc1 (k*5+4) (by omega)
          simp only[←Nat.add_assoc] at r0 r1 r2 r3 r4
          clear hc1
          subst e1
          have HJ:Shut (grpI U C l0 (k+1)=joinL U C (grpI U C l0 k) k):=by show _=_;rw[grpI]
          have hll:(grpI U C l0 k).length=n:=by rw[grpI_len];exact hl0
          obtain⟨l,hl⟩:∃ l,grpI U C l0 k=l:=⟨_,rfl⟩
          rw[hl] at HJ H1 hll
          clear hl
          unfold joinL at HJ
          obtain⟨A,hA⟩:∃ A:Nat,C (k*5)=(A:Int):=⟨(C (k*5)).toNat,by omega⟩
          obtain⟨B,hBB⟩:∃ B:Nat,C (k*5+1)=(B:Int):=⟨(C (k*5+1)).toNat,by omega⟩
          rw[hA,hBB,Int.toNat_natCast,Int.toNat_natCast] at HJ
          rw[hA] at ca r0 cn
          rw[hBB] at cb r1 cn
          clear hA hBB
          have hAB:¬ A=B:=fun e=>cn (by rw[e])
          have hBA:¬ B=A:=fun e=>cn (by rw[e])
          clear cn
          have hAn:A<n:=by omega
          have hBn:B<n:=by omega
          have hAi:(A:Int)<(n:Int):=ca.2
          have hBi:(B:Int)<(n:Int):=cb.2
          obtain⟨b0,o0,e0,hbl0,hc0⟩:=(h.below H1.bel) (by omega)
          have rA:=hc0 (A*12+8) (by omega)
          have rB:=hc0 (B*12+8) (by omega)
          simp only[←Nat.add_assoc] at rA rB
          clear hc0
          subst e0
          have hE:Below wr.heap.size wr (wr.alloc (Obj.cells #[.int .i64 (A:Int),.int .i64 (B:Int),.int .i64 (C (k*5+2)),.int .i64 (C (k*5+3)),.int .i64 (C (k*5+4))] 108)):=(Below.refl _ _).alloc (Nat.le_refl _) _
          have HE:=H1.on hE
          by_cases mA:U (A*12+8)=0
          · have em:(U (A*12+8)==0)=true:=by simp[mA]
            rw[decide_eq_true mA] at HJ
            clear mA
            have HJ':Shut (grpI U C l0 (k+1)=l):=HJ.out
            go_wp2_with fail
            go_roundw
            case rel=>exact⟨k+1,by omega,by go_num,by rw[HJ'.out];exact HE⟩
            case measure=>simp[intOf];omega
          · have em:(U (A*12+8)==0)=false:=by simp[mA]
            by_cases mB:U (B*12+8)=0
            · have em2:(U (B*12+8)==0)=true:=by simp[mB]
              rw[decide_eq_false mA,decide_eq_true mB] at HJ
              clear mA mB
              have HJ':Shut (grpI U C l0 (k+1)=l):=HJ.out
              go_wp2_with fail
              go_roundw
              case rel=>exact⟨k+1,by omega,by go_num,by rw[HJ'.out];exact HE⟩
              case measure=>simp[intOf];omega
            · have em2:(U (B*12+8)==0)=false:=by simp[mB]
              rw[decide_eq_false mA,decide_eq_false mB] at HJ
              clear mA mB
              have HJ':Shut (grpI U C l0 (k+1)=joinG l A B):=HJ.out
              unfold joinG at HJ'
              obtain⟨gm,hgm⟩:∃ x,(if ofL l B<ofL l A then ofL l B else ofL l A)=x:=⟨_,rfl⟩
              rw[hgm] at HJ'
              go_upto_region 14 with fail
              have x0:(wr.alloc (Obj.cells #[.int .i64 (A:Int),.int .i64 (B:Int),.int .i64 (C (k*5+2)),.int .i64 (C (k*5+3)),.int .i64 (C (k*5+4))] 108)).cell? ⟨wr.heap.size,0,none⟩=some (.int .i64 (A:Int)):=by go_simp
              have x1:(wr.alloc (Obj.cells #[.int .i64 (A:Int),.int .i64 (B:Int),.int .i64 (C (k*5+2)),.int .i64 (C (k*5+3)),.int .i64 (C (k*5+4))] 108)).cell? ⟨wr.heap.size,1,none⟩=some (.int .i64 (B:Int)):=by go_simp
              have hgp:=H1.lt
              generalize (wr.alloc (Obj.cells #[.int .i64 (A:Int),.int .i64 (B:Int),.int .i64 (C (k*5+2)),.int .i64 (C (k*5+3)),.int .i64 (C (k*5+4))] 108))=wx at hE HE x0 x1 ⊢
              have hbz:=hE.size
              generalize wr.heap.size=bp at x0 x1 hgp ⊢
              have yA:=HE.ic hAn
              have yB:=HE.ic hBn
              have yf:=HE.fro
              have hne:¬ bp=g1:=by omega
              have hne':¬ g1=bp:=by omega
              clear r0 r1 r2 r3 r4 rA rB em em2 hE H1
              refine wp_region_held_drew (S:=fun w'=>w'.cell? ⟨bp,0,none⟩=some (.int .i64 (A:Int))∧w'.cell? ⟨bp,1,none⟩=some (.int .i64 (B:Int))∧w'.cell? ⟨g1,A,none⟩=some (.int .i64 (ofL l A))∧w'.cell? ⟨g1,B,none⟩=some (.int .i64 (ofL l B))) (by kernel_rfl) ?_ (fun hHeld=> ?_)
              · (try dsimp only)
                (first|(go_simp;done)|(go_keep;done))
              refine tq 0 hHeld ?_
              refine tq 1 hHeld ?_
              refine tq 2 hHeld ?_
              refine tq 3 hHeld ?_
              refine tq 4 hHeld ?_
              refine tq 5 hHeld ?_
              refine tq 6 hHeld ?_
              refine tq 7 hHeld ?_
              refine tq 8 hHeld ?_
              refine tq 9 hHeld ?_
              refine tc 10 fun K hK=> ?_
              (go_simp
               (go_at_call 62;refine(l3Less_q (ofL l A) (ofL l B) gm _ hgm).mono ?_;rintro e w5 ⟨rfl,hw5⟩;subst hw5)
               (try go_wp2_with fail)
               refine tr hK (fun hHeld=> ?_)
               clear hK K)
              refine tq 11 hHeld ?_
              refine wpAnyH_done (by kernel_rfl) ?_ _
              go_wp2_with fail
              have q1:=(HE.dr.set A (.int .i64 gm)).set B (.int .i64 gm)
              rw[IV_set,IV_set,←HJ'.out] at q1
              go_roundw
              case rel=>exact⟨k+1,by omega,by go_num,q1⟩
              case measure=>simp[intOf];omega
        · obtain rfl:k=m:=by omega
          go_wp2_with fail
          go_roundw
          case rel=>exact⟨r+1,by omega,by go_num,by rw[HG.out];exact H1⟩
          case measure=>simp[intOf];omega
     · obtain rfl:r=n:=by omega
       go_wp2_with (go_at_call 63;refine(l7Number_any a r c U (some ⟨g1,0,none⟩) c1 (ofL (grpR U C m (rng r) r)) _ (h.below H1.bel) hn H1.flat).mono ?_;rintro e w5 ⟨g5,c5,rfl,hp5⟩)
       go_ret
       exact⟨_,_,rfl,hp5.up H1.bel⟩
def BV (l:List Bool):List Value:=l.map Value.bool
theorem BV_app (l:List Bool) (x:Bool):BV l++[.bool x]=BV (l++[x]):=by unfold BV;rw[List.map_append];rfl
theorem BV_set (l:List Bool) (j:Nat) (x:Bool):(BV l).set j (.bool x)=BV (l.set j x):=by unfold BV;rw[List.map_set]
theorem BV_len (l:List Bool):(BV l).length=l.length:=by unfold BV;rw[List.length_map]
theorem BV_get {l:List Bool} {j:Nat} (h:j<l.length):(BV l)[j]? =some (.bool (l.getD j false)):=by
 unfold BV
 rw[List.getElem?_map,List.getElem?_eq_getElem h,List.getD_eq_getElem?_getD,List.getElem?_eq_getElem h]
 rfl
theorem LV.bc {w wr:World} {t g cap n:Nat} {l:List Bool} (h:LV w wr t g cap n (BV l)) {j:Nat} (hj:j<n):wr.cell? ⟨g,j,none⟩=some (.bool (l.getD j false)):=by
 have hl:=h.len
 rw[BV_len] at hl
 exact h.cell (BV_get (by omega))
theorem LV.flatB {w wr:World} {t g cap n:Nat} {l:List Bool} (h:LV w wr t g cap n (BV l)):FlatB wr (some ⟨g,0,none⟩) n (fun j=>l.getD j false):=by
 intro h0
 exact⟨g,0,rfl,h.lt.2,fun j hj=>by rw[Nat.zero_add];exact h.bc hj⟩
abbrev zcBool:Value:= .bool false
theorem infoBool:(Tryz.prog.info? 4).map (fun i=>(i.zero,i.size,i.bytes))=some (some zcBool,1,1):=by kernel_rfl
def awP (l:List Bool) (g:Int) (s:Bool):List Bool:=
 let l1:=bif decide (g=(l.length:Int)) then l++[false] else l
 bif decide (0≤g) then l1.set g.toNat (l1.getD g.toNat false||s) else l1
def awL (U G:Nat→Int):Nat→List Bool
 |0=>[]
 |i+1=>awP (awL U G i) (G i) (!decide (8≤U (i*12+11)))
theorem awP_m (l:List Bool) (g:Int) (s:Bool) (h:g<0):awP l g s=l:=by
 unfold awP
 rw[decide_eq_false (by omega:¬ g=(l.length:Int)),decide_eq_false (by omega:¬ 0≤g)]
 rfl
theorem awP_n (l:List Bool) (s:Bool):awP l (l.length:Int) s=(l++[false]).set l.length s:=by
 unfold awP
 rw[decide_eq_true rfl,decide_eq_true (by omega:(0:Int)≤(l.length:Int))]
 simp
theorem awP_o (l:List Bool) (q:Nat) (s:Bool) (h:q<l.length):awP l (q:Int) s=l.set q (l.getD q false||s):=by
 unfold awP
 rw[decide_eq_false (by omega:¬ (q:Int)=(l.length:Int)),decide_eq_true (by omega:(0:Int)≤(q:Int))]
 simp
theorem awP_len (l:List Bool) (g:Int) (s:Bool):l.length≤(awP l g s).length∧(awP l g s).length≤l.length+1:=by
 unfold awP
 cases decide (g=(l.length:Int))<;>cases decide (0≤g)<;>simp
theorem awL_len (U G:Nat→Int):∀ i,(awL U G i).length≤i
 |0=>Nat.le_refl _
 | i+1=>by
   have:=awL_len U G i
   have:=(awP_len (awL U G i) (G i) (!decide (8≤U (i*12+11)))).2
   rw[awL];omega
theorem row12 {w:World} {b o n i:Nat} {U:Nat→Int} (h:∀ q,q<n→w.cell? ⟨b,o+q,none⟩=some (.int .i64 (U q))) (hi:i*12+11<n):w.cell? ⟨b,o+i*12,none⟩=some (.int .i64 (U (i*12)))∧w.cell? ⟨b,o+i*12+1,none⟩=some (.int .i64 (U (i*12+1)))∧w.cell? ⟨b,o+i*12+2,none⟩=some (.int .i64 (U (i*12+2)))∧w.cell? ⟨b,o+i*12+3,none⟩=some (.int .i64 (U (i*12+3)))∧w.cell? ⟨b,o+i*12+4,none⟩=some (.int .i64 (U (i*12+4)))∧w.cell? ⟨b,o+i*12+5,none⟩=some (.int .i64 (U (i*12+5)))∧w.cell? ⟨b,o+i*12+6,none⟩=some (.int .i64 (U (i*12+6)))∧w.cell? ⟨b,o+i*12+7,none⟩=some (.int .i64 (U (i*12+7)))∧w.cell? ⟨b,o+i*12+8,none⟩=some (.int .i64 (U (i*12+8)))∧w.cell? ⟨b,o+i*12+9,none⟩=some (.int .i64 (U (i*12+9)))∧w.cell? ⟨b,o+i*12+10,none⟩=some (.int .i64 (U (i*12+10)))∧w.cell? ⟨b,o+i*12+11,none⟩=some (.int .i64 (U (i*12+11))):=by
 have g:=fun j (hj:j<12)=>h (i*12+j) (by omega)
 simp only[←Nat.add_assoc] at g
 exact⟨g 0 (by decide),g 1 (by decide),g 2 (by decide),g 3 (by decide),g 4 (by decide),g 5 (by decide),g 6 (by decide),g 7 (by decide),g 8 (by decide),g 9 (by decide),g 10 (by decide),g 11 (by decide)⟩
theorem l7Awake_any (a:Option Addr) (n c:Nat) (U:Nat→Int) (ag:Option Addr) (cg:Nat) (G:Nat→Int) (w:World) (h:Flat w a (n*12) U) (hn:n≤1000) (hG2:Flat w ag (n*1) G) (hGb:∀ i,i<n→ -1≤G i∧G i≤((awL U G i).length:Int)):
 Calls Tryz.prog 31 #[.slice a n c,.slice ag n cg] w fun e w'=>∃ g1 c1 na,e= .returned (.slice (some ⟨g1,0,none⟩) na c1)∧na=(awL U G n).length∧LV w w' 4 g1 c1 na (BV (awL U G n)):=by
 have hset:=cset_map
 have L1:=LV.new (w:=w) 4 (Below.refl _ w) rfl
 go_enter Tryz.func31,Tryz.ntmps31
 go_upto_region 3 with fail
 go_loopw [5,6] (fun s5 s6 wr=>∃ (i g1 c1 na:Nat),i≤n∧s6= .int .i64 (i:Int)∧s5= .slice (some ⟨g1,0,none⟩) na c1∧na=(awL U G i).length∧LV w wr 4 g1 c1 na (BV (awL U G i))) (fun _ s6 _=>n-(intOf s6).toNat)
 case atStart=>exact⟨0,_,_,_,Nat.zero_le _,rfl,rfl,rfl,L1⟩
 case round=>
  clear L1
  obtain⟨i,g1,c1,na,hi,rfl,rfl,hna,H1⟩:=hrel
  by_cases hlt:i<n
  · have hin:(i:Int)<(n:Int):=by omega
    have gb:=hGb i hlt
    have hal:=awL_len U G i
    obtain⟨SL,hSL⟩:∃ b,decide (8≤(fun j=>U (i*12+j)) 11)=b:=⟨_,rfl⟩
    have HAW:Shut (awL U G (i+1)=awP (awL U G i) (G i) (!SL)):=by show _=_;rw[awL,←hSL]
    generalize awL U G i=l at H1 HAW gb hna hal
    have hl:l.length=na:=hna.symm
    rw[hl] at gb hal
    clear hna
    obtain⟨b0,o0,e0,hbl0,hc0⟩:=(h.below H1.bel) (by omega)
    obtain⟨b2,o2,e2,hbl2,hc2⟩:=(hG2.below H1.bel) (by omega)
    have rG:=hc2 i (by omega)
    subst e0 e2
    obtain⟨r0,r1,r2,r3,r4,r5,r6,r7,r8,r9,r10,r11⟩:=row12 (i:=i) hc0 (by omega)
    have hll:=H1.lt
    have yf:=H1.fro
    clear hc0 hc2
    by_cases hgm:G i<0
    · have hq:G i= -1:=by omega
      have HA:Shut (awL U G (i+1)=l):=by show _=_;rw[HAW.out];exact awP_m l _ _ hgm
      rw[hq] at rG
      have e1:((-1:Int)==(na:Int))=false:=by first|(simp;done)|(simp;omega)
      clear gb hgm
      go_wp2_with fail
      go_roundw
      case rel=>exact⟨i+1,g1,c1,na,by omega,by go_num,rfl,by rw[HA.out];exact hl.symm,by rw[HA.out];exact H1⟩
      case measure=>simp[intOf];omega
    · obtain⟨q,hq⟩:∃ q:Nat,G i=(q:Int):=⟨(G i).toNat,by omega⟩
      rw[hq] at rG gb
      have hq0:(0:Int)≤(q:Int):=by omega
      by_cases hqn:q<na
      · have hqi:(q:Int)<(na:Int):=by omega
        have e1:((q:Int)==(na:Int))=false:=by first|(simp;done)|(simp;omega)
        cases hold:l.getD q false with
        | true=>
          have yo:wr.cell? ⟨g1,q,none⟩=some (.bool true):=by have:=H1.bc hqn;rw[hold] at this;exact this
          have HA:Shut (awL U G (i+1)=l.set q true):=by show _=_;rw[HAW.out,hq,awP_o l q _ (by omega),hold];rfl
          clear HAW
          go_upto_region 8 with fail
          refine wp_region_held_drew (S:=fun w'=>w'.cell? ⟨b2,o2+i,none⟩=some (.int .i64 (q:Int))∧w'.cell? ⟨b0,o0+i*12,none⟩=some (.int .i64 (U (i*12)))∧w'.cell? ⟨b0,o0+i*12+1,none⟩=some (.int .i64 (U (i*12+1)))∧w'.cell? ⟨b0,o0+i*12+2,none⟩=some (.int .i64 (U (i*12+2)))∧w'.cell? ⟨b0,o0+i*12+3,none⟩=some (.int .i64 (U (i*12+3)))∧w'.cell? ⟨b0,o0+i*12+4,none⟩=some (.int .i64 (U (i*12+4)))∧w'.cell? ⟨b0,o0+i*12+5,none⟩=some (.int .i64 (U (i*12+5)))∧w'.cell? ⟨b0,o0+i*12+6,none⟩=some (.int .i64 (U (i*12+6)))∧w'.cell? ⟨b0,o0+i*12+7,none⟩=some (.int .i64 (U (i*12+7)))∧w'.cell? ⟨b0,o0+i*12+8,none⟩=some (.int .i64 (U (i*12+8)))∧w'.cell? ⟨b0,o0+i*12+9,none⟩=some (.int .i64 (U (i*12+9)))∧w'.cell? ⟨b0,o0+i*12+10,none⟩=some (.int .i64 (U (i*12+10)))∧w'.cell? ⟨b0,o0+i*12+11,none⟩=some (.int .i64 (U (i*12+11)))) (by kernel_rfl) ?_ (fun hHeld=> ?_)
          · (try dsimp only)
            (first|(go_simp;done)|(go_keep;done))
          refine tq 0 hHeld ?_
          refine tq 1 hHeld ?_
          refine tq 2 hHeld ?_
          refine tq 3 hHeld ?_
          refine tq 4 hHeld ?_
          refine tq 5 hHeld ?_
          refine tq 6 hHeld ?_
          refine tq 7 hHeld ?_
          refine tq 8 hHeld ?_
          refine tq 9 hHeld ?_
          refine tq 10 hHeld ?_
          refine tc 11 fun K hK=> ?_
          (go_simp
           refine tr hK (fun hHeld=> ?_)
           clear hK K)
          refine tq 12 hHeld ?_
          refine tn 13 hHeld ?_
          refine tn 14 hHeld ?_
          refine tn 15 hHeld ?_
          refine tn 16 hHeld ?_
          refine tn 17 hHeld ?_
          refine tn 18 hHeld ?_
          refine tq 19 hHeld ?_
          refine tq 20 hHeld ?_
          refine tc 21 fun K hK=> ?_
          (go_simp
           have H2:=H1.set q (.bool true)
           rw[BV_set] at H2
           have H2:=H2.dr
           have hh:=h.below H2.bel
           have hg:=hG2.below H2.bel
           clear rG r0 r1 r2 r3 r4 r5 r6 r7 r8 r9 r10 r11 yo yf H1
           generalize (wr.setCell ⟨g1,q,none⟩ (.bool true)).drew=w7 at H2 hh hg ⊢
           obtain⟨b0',o0',e0',_,hc0⟩:=hh (by omega)
           cases e0'
           obtain⟨b2',o2',e2',_,hc2⟩:=hg (by omega)
           cases e2'
           have rG:=hc2 i (by omega)
           rw[hq] at rG
           obtain⟨r0,r1,r2,r3,r4,r5,r6,r7,r8,r9,r10,r11⟩:=row12 (i:=i) hc0 (by omega)
           clear hc0 hc2
           refine tr hK (fun hHeld=> ?_)
           clear hK K)
          refine wpAnyH_done (by kernel_rfl) ?_ _
          go_wp2_with fail
          go_roundw
          case rel=>exact⟨i+1,g1,c1,na,by omega,by go_num,rfl,by rw[HA.out];rw[List.length_set];exact hl.symm,by rw[HA.out];exact H2⟩
          case measure=>simp[intOf];omega
        | false=>
          have yo:wr.cell? ⟨g1,q,none⟩=some (.bool false):=by have:=H1.bc hqn;rw[hold] at this;exact this
          have HA:Shut (awL U G (i+1)=l.set q (!SL)):=by show _=_;rw[HAW.out,hq,awP_o l q _ (by omega),hold];rfl
          clear HAW
          go_upto_region 8 with fail
          refine wp_region_held_drew (S:=fun w'=>w'.cell? ⟨b2,o2+i,none⟩=some (.int .i64 (q:Int))∧w'.cell? ⟨b0,o0+i*12,none⟩=some (.int .i64 (U (i*12)))∧w'.cell? ⟨b0,o0+i*12+1,none⟩=some (.int .i64 (U (i*12+1)))∧w'.cell? ⟨b0,o0+i*12+2,none⟩=some (.int .i64 (U (i*12+2)))∧w'.cell? ⟨b0,o0+i*12+3,none⟩=some (.int .i64 (U (i*12+3)))∧w'.cell? ⟨b0,o0+i*12+4,none⟩=some (.int .i64 (U (i*12+4)))∧w'.cell? ⟨b0,o0+i*12+5,none⟩=some (.int .i64 (U (i*12+5)))∧w'.cell? ⟨b0,o0+i*12+6,none⟩=some (.int .i64 (U (i*12+6)))∧w'.cell? ⟨b0,o0+i*12+7,none⟩=some (.int .i64 (U (i*12+7)))∧w'.cell? ⟨b0,o0+i*12+8,none⟩=some (.int .i64 (U (i*12+8)))∧w'.cell? ⟨b0,o0+i*12+9,none⟩=some (.int .i64 (U (i*12+9)))∧w'.cell? ⟨b0,o0+i*12+10,none⟩=some (.int .i64 (U (i*12+10)))∧w'.cell? ⟨b0,o0+i*12+11,none⟩=some (.int .i64 (U (i*12+11)))) (by kernel_rfl) ?_ (fun hHeld=> ?_)
          · (try dsimp only)
            (first|(go_simp;done)|(go_keep;done))
          refine tq 0 hHeld ?_
          refine tq 1 hHeld ?_
          refine tq 2 hHeld ?_
          refine tq 3 hHeld ?_
          refine tq 4 hHeld ?_
          refine tq 5 hHeld ?_
          refine tq 6 hHeld ?_
          refine tq 7 hHeld ?_
          refine tq 8 hHeld ?_
          refine tq 9 hHeld ?_
          refine tq 10 hHeld ?_
          refine tc 11 fun K hK=> ?_
          (go_simp
           refine tr hK (fun hHeld=> ?_)
           clear hK K)
          refine tq 12 hHeld ?_
          refine tq 13 hHeld ?_
          refine tq 14 hHeld ?_
          refine tq 15 hHeld ?_
          refine tq 16 hHeld ?_
          refine tc 17 fun K hK=> ?_
          (go_simp
           (go_at_call 64;refine(l6Sleeps_k (fun j=>U (i*12+j)) _ SL hSL).mono ?_;rintro e w5 ⟨rfl,hb5⟩)
           have hb5:=hb5.ofDr
           have H2:=H1.on hb5
           have hh:=h.below H2.bel
           have hg:=hG2.below H2.bel
           clear rG r0 r1 r2 r3 r4 r5 r6 r7 r8 r9 r10 r11 yo yf
           obtain⟨b0',o0',e0',_,hc0⟩:=hh (by omega)
           cases e0'
           obtain⟨b2',o2',e2',_,hc2⟩:=hg (by omega)
           cases e2'
           have rG:=hc2 i (by omega)
           rw[hq] at rG
           obtain⟨r0,r1,r2,r3,r4,r5,r6,r7,r8,r9,r10,r11⟩:=row12 (i:=i) hc0 (by omega)
           clear hc0 hc2
           have yf:=H2.fro
           have yo:=H2.bc hqn
           clear H1
           have H1:=H2
           clear H2
           (try go_wp2_with fail)
           refine tr hK (fun hHeld=> ?_)
           clear hK K)
          refine tq 18 hHeld ?_
          refine tq 19 hHeld ?_
          refine tq 20 hHeld ?_
          refine tc 21 fun K hK=> ?_
          (go_simp
           have H2:=H1.set q (.bool (!SL))
           rw[BV_set] at H2
           have hh:=h.below H2.bel
           have hg:=hG2.below H2.bel
           clear rG r0 r1 r2 r3 r4 r5 r6 r7 r8 r9 r10 r11 yo yf H1
           generalize (w5.setCell ⟨g1,q,none⟩ (.bool (!SL)))=w7 at H2 hh hg ⊢
           obtain⟨b0',o0',e0',_,hc0⟩:=hh (by omega)
           cases e0'
           obtain⟨b2',o2',e2',_,hc2⟩:=hg (by omega)
           cases e2'
           have rG:=hc2 i (by omega)
           rw[hq] at rG
           obtain⟨r0,r1,r2,r3,r4,r5,r6,r7,r8,r9,r10,r11⟩:=row12 (i:=i) hc0 (by omega)
           clear hc0 hc2
           refine tr hK (fun hHeld=> ?_)
           clear hK K)
          refine wpAnyH_done (by kernel_rfl) ?_ _
          go_wp2_with fail
          go_roundw
          case rel=>exact⟨i+1,g1,c1,na,by omega,by go_num,rfl,by rw[HA.out];rw[List.length_set];exact hl.symm,by rw[HA.out];exact H2⟩
          case measure=>simp[intOf];omega
      · obtain rfl:q=na:=by omega
        clear hqn
        have HA:Shut (awL U G (i+1)=(l++[false]).set q (!SL)):=by show _=_;rw[HAW.out,hq,←hl];exact awP_n l _
        clear HAW
        have hE:Below wr.heap.size wr (wr.alloc (Obj.cells #[.bool false] 4)):=(Below.refl _ _).alloc (Nat.le_refl _) _
        have hcE:(wr.alloc (Obj.cells #[.bool false] 4)).cell? ⟨wr.heap.size,0,none⟩=some (.bool false):=by go_simp
        go_upto_region 7 with(refine wpList_push rfl _ _ _ rfl 4 1 zcBool Tryz.underlying28 infoBool rfl (by decide) g1 c1 q (BV l) rfl H1 hE wr.heap.size rfl (.bool false) hcE rfl (by omega) ?_;intro g6 c6 w6 hp6 hg6 hl6)
        clear hE hcE hg6 hl6 yf rG r0 r1 r2 r3 r4 r5 r6 r7 r8 r9 r10 r11 H1
        have H1:=hp6
        rw[BV_app] at H1
        clear hp6
        have hh:=h.below H1.bel
        have hg:=hG2.below H1.bel
        obtain⟨b0',o0',e0',_,hc0⟩:=hh (by omega)
        cases e0'
        obtain⟨b2',o2',e2',_,hc2⟩:=hg (by omega)
        cases e2'
        have rG:=hc2 i (by omega)
        rw[hq] at rG
        obtain⟨r0,r1,r2,r3,r4,r5,r6,r7,r8,r9,r10,r11⟩:=row12 (i:=i) hc0 (by omega)
        clear hc0 hc2 hh hg
        have yf:=H1.fro
        have hqn:q<q+1:=Nat.lt_succ_self _
        have hqi:(q:Int)<((q+1:Nat):Int):=by omega
        have hqj:(q:Int)<(q:Int)+1:=by omega
        have yo:w6.cell? ⟨g6,q,none⟩=some (.bool false):=by
         have:=H1.bc hqn
         rw[List.getD_eq_getElem?_getD,List.getElem?_append_right (by omega),hl,Nat.sub_self] at this
         exact this
        go_upto_region 8 with fail
        refine wp_region_held_drew (S:=fun w'=>w'.cell? ⟨b2,o2+i,none⟩=some (.int .i64 (q:Int))∧w'.cell? ⟨b0,o0+i*12,none⟩=some (.int .i64 (U (i*12)))∧w'.cell? ⟨b0,o0+i*12+1,none⟩=some (.int .i64 (U (i*12+1)))∧w'.cell? ⟨b0,o0+i*12+2,none⟩=some (.int .i64 (U (i*12+2)))∧w'.cell? ⟨b0,o0+i*12+3,none⟩=some (.int .i64 (U (i*12+3)))∧w'.cell? ⟨b0,o0+i*12+4,none⟩=some (.int .i64 (U (i*12+4)))∧w'.cell? ⟨b0,o0+i*12+5,none⟩=some (.int .i64 (U (i*12+5)))∧w'.cell? ⟨b0,o0+i*12+6,none⟩=some (.int .i64 (U (i*12+6)))∧w'.cell? ⟨b0,o0+i*12+7,none⟩=some (.int .i64 (U (i*12+7)))∧w'.cell? ⟨b0,o0+i*12+8,none⟩=some (.int .i64 (U (i*12+8)))∧w'.cell? ⟨b0,o0+i*12+9,none⟩=some (.int .i64 (U (i*12+9)))∧w'.cell? ⟨b0,o0+i*12+10,none⟩=some (.int .i64 (U (i*12+10)))∧w'.cell? ⟨b0,o0+i*12+11,none⟩=some (.int .i64 (U (i*12+11)))) (by kernel_rfl) ?_ (fun hHeld=> ?_)
        · (try dsimp only)
          (first|(go_simp;done)|(go_keep;done))
        refine tq 0 hHeld ?_
        refine tq 1 hHeld ?_
        refine tq 2 hHeld ?_
        refine tq 3 hHeld ?_
        refine tq 4 hHeld ?_
        refine tq 5 hHeld ?_
        refine tq 6 hHeld ?_
        refine tq 7 hHeld ?_
        refine tq 8 hHeld ?_
        refine tq 9 hHeld ?_
        refine tq 10 hHeld ?_
        refine tc 11 fun K hK=> ?_
        (go_simp
         refine tr hK (fun hHeld=> ?_)
         clear hK K)
        refine tq 12 hHeld ?_
        refine tq 13 hHeld ?_
        refine tq 14 hHeld ?_
        refine tq 15 hHeld ?_
        refine tq 16 hHeld ?_
        refine tc 17 fun K hK=> ?_
        (go_simp
         (go_at_call 64;refine(l6Sleeps_k (fun j=>U (i*12+j)) _ SL hSL).mono ?_;rintro e w5 ⟨rfl,hb5⟩)
         have hb5:=hb5.ofDr
         have H2:=H1.on hb5
         have hh:=h.below H2.bel
         have hg:=hG2.below H2.bel
         clear rG r0 r1 r2 r3 r4 r5 r6 r7 r8 r9 r10 r11 yo yf
         obtain⟨b0',o0',e0',_,hc0⟩:=hh (by omega)
         cases e0'
         obtain⟨b2',o2',e2',_,hc2⟩:=hg (by omega)
         cases e2'
         have rG:=hc2 i (by omega)
         rw[hq] at rG
         obtain⟨r0,r1,r2,r3,r4,r5,r6,r7,r8,r9,r10,r11⟩:=row12 (i:=i) hc0 (by omega)
         clear hc0 hc2
         have yf:=H2.fro
         have yo:=H2.bc hqn
         clear H1
         have H1:=H2
         clear H2
         (try go_wp2_with fail)
         refine tr hK (fun hHeld=> ?_)
         clear hK K)
        refine tq 18 hHeld ?_
        refine tq 19 hHeld ?_
        refine tq 20 hHeld ?_
        refine tc 21 fun K hK=> ?_
        (go_simp
         have H2:=H1.set q (.bool (!SL))
         rw[BV_set] at H2
         have hh:=h.below H2.bel
         have hg:=hG2.below H2.bel
         clear rG r0 r1 r2 r3 r4 r5 r6 r7 r8 r9 r10 r11 yo yf H1
         generalize (w5.setCell ⟨g6,q,none⟩ (.bool (!SL)))=w7 at H2 hh hg ⊢
         obtain⟨b0',o0',e0',_,hc0⟩:=hh (by omega)
         cases e0'
         obtain⟨b2',o2',e2',_,hc2⟩:=hg (by omega)
         cases e2'
         have rG:=hc2 i (by omega)
         rw[hq] at rG
         obtain⟨r0,r1,r2,r3,r4,r5,r6,r7,r8,r9,r10,r11⟩:=row12 (i:=i) hc0 (by omega)
         clear hc0 hc2
         refine tr hK (fun hHeld=> ?_)
         clear hK K)
        refine wpAnyH_done (by kernel_rfl) ?_ _
        go_wp2_with fail
        go_roundw
        case rel=>exact⟨i+1,g6,c6,(q+1),by omega,by go_num,rfl,by rw[HA.out];rw[List.length_set,List.length_append,hl];rfl,by rw[HA.out];exact H2⟩
        case measure=>simp[intOf];omega
  · obtain rfl:i=n:=by omega
    go_wp2_with fail
    go_ret
    exact⟨_,_,_,rfl,hna,H1⟩
def valN (U G:Nat→Int) (i:Nat):Int:=
 bif decide (U (i*12+8)=0) then-1 else bif decide (atOf (numS U G i).2 (G i) (numS U G i).2.length<0) then ((numS U G i).2.length:Int) else atOf (numS U G i).2 (G i) (numS U G i).2.length
theorem numS_1 (U G:Nat→Int) (i:Nat):(numS U G (i+1)).1=(numS U G i).1++[valN U G i]:=by
 unfold valN
 by_cases h:U (i*12+8)=0
 · rw[numS_z h,decide_eq_true h];rfl
 · rw[decide_eq_false h]
   by_cases k:atOf (numS U G i).2 (G i) (numS U G i).2.length<0
   · rw[numS_n h k,decide_eq_true k];rfl
   · rw[numS_o h k,decide_eq_false k];rfl
theorem ofL_num (U G:Nat→Int):∀ n i,i<n→ofL (numS U G n).1 i=valN U G i
 |0,i,h=>by omega
 | n+1,i,h=>by
   rw[numS_1]
   have hl:=(numS_len U G n).1
   by_cases e:i=n
   · subst e;rw[ofL_r (by omega),hl,Nat.sub_self];rfl
   · rw[ofL_l (by omega)];exact ofL_num U G n i (by omega)
theorem val_cases (U G:Nat→Int) (i:Nat):
 (valN U G i= -1∧(numS U G (i+1)).2.length=(numS U G i).2.length)∨(U (i*12+8)≠0∧valN U G i=((numS U G i).2.length:Int)∧(numS U G (i+1)).2.length=(numS U G i).2.length+1)∨(U (i*12+8)≠0∧0≤valN U G i∧valN U G i<((numS U G i).2.length:Int)∧(numS U G (i+1)).2.length=(numS U G i).2.length):=by
 unfold valN
 by_cases h:U (i*12+8)=0
 · rw[numS_z h,decide_eq_true h];exact .inl ⟨rfl,rfl⟩
 · rw[decide_eq_false h]
   by_cases k:atOf (numS U G i).2 (G i) (numS U G i).2.length<0
   · rw[numS_n h k,decide_eq_true k];exact .inr (.inl ⟨h,rfl,by rw[List.length_append];rfl⟩)
   · rw[numS_o h k,decide_eq_false k]
     refine .inr (.inr ⟨h,?_,?_,rfl⟩)
     · show 0≤atOf _ _ _;omega
     · show atOf (numS U G i).2 (G i) (numS U G i).2.length<_
       rcases atOf_bd (numS U G i).2 (G i) (numS U G i).2.length with q|q<;>omega
theorem awP_g (l:List Bool) (g:Int) (s:Bool):(awP l g s).length=if g=(l.length:Int) then l.length+1 else l.length:=by
 unfold awP
 by_cases e:g=(l.length:Int)
 · rw[if_pos e,decide_eq_true e]
   cases decide (0≤g)<;>simp
 · rw[if_neg e,decide_eq_false e]
   cases decide (0≤g)<;>simp
theorem aw_len (U Gr G:Nat→Int) (n:Nat) (hG:∀ i,i<n→G i=valN U Gr i):∀ i,i≤n→(awL U G i).length=(numS U Gr i).2.length
 |0,_=>rfl
 | i+1,h=>by
   have ih:=aw_len U Gr G n hG i (by omega)
   rw[awL,awP_g,ih,hG i (by omega)]
   rcases val_cases U Gr i with⟨a,b⟩|⟨_,a,b⟩|⟨_,a,b,c⟩
   · rw[if_neg (by omega),b]
   · rw[if_pos (by omega),b]
   · rw[if_neg (by omega),c]
theorem num2_mono (U Gr:Nat→Int):∀ j i,i≤j→(numS U Gr i).2.length≤(numS U Gr j).2.length
 | 0,i,h=>by
   obtain rfl:i=0:=by omega
   exact Nat.le_refl _
 | j+1,i,h=>by
   by_cases e:i=j+1
   · rw[e];exact Nat.le_refl _
   · have:=num2_mono U Gr j i (by omega)
     rcases val_cases U Gr j with⟨a,b⟩|⟨_,a,b⟩|⟨_,a,b,c⟩<;>omega
theorem grp_bd (U Gr G:Nat→Int) (n:Nat) (hG:∀ i,i<n→G i=valN U Gr i):∀ i,i<n→(-1≤G i∧G i≤((awL U G i).length:Int))∧G i<((awL U G n).length:Int)∧(0≤G i→U (i*12+8)≠0):=by
 intro i hi
 have h1:=aw_len U Gr G n hG i (by omega)
 have h2:=aw_len U Gr G n hG n (Nat.le_refl _)
 have h3:=num2_mono U Gr n (i+1) (by omega)
 have h4:=num2_mono U Gr (i+1) i (by omega)
 rw[h1,h2,hG i hi]
 rcases val_cases U Gr i with⟨a,b⟩|⟨m,a,b⟩|⟨m,a,b,c⟩
 · exact⟨by omega,by omega,fun q=>by omega⟩
 · exact⟨by omega,by omega,fun _=>m⟩
 · exact⟨by omega,by omega,fun _=>m⟩
theorem live_ok {U C:Nat→Int} {n m:Nat} (h:∀ k,k<m→CtP n (C (k*5)) (C (k*5+1)) (C (k*5+2)) (C (k*5+3)) (C (k*5+4))):∀ k,k≤m→Fives (CtP n) (liveL U C k)
 |0,_=>Fives.nil _
 | k+1,hk=>by
   have ih:=live_ok (U:=U) h k (by omega)
   cases e:liveC U C k with
   |true=>rw[liveL_yes e];exact ih.app (Fives.one (h k (by omega)))
   |false=>rw[liveL_no e];exact ih
theorem con_P (C:Nat→Nat→Int) {n m:Nat} (e:(conL C n).length=m*5):∀ k,k<m→CtP n (ofL (conL C n) (k*5)) (ofL (conL C n) (k*5+1)) (ofL (conL C n) (k*5+2)) (ofL (conL C n) (k*5+3)) (ofL (conL C n) (k*5+4)):=by
 obtain⟨m',e',p⟩:=conOut_ok C n (n:=n)
 obtain rfl:m'=m:=by unfold conL at e;omega
 exact p
theorem wake_ok {V:Nat→Int} (b:Bool) (h:BOk V):BOk (wakeV b V):=by
 unfold wakeV
 cases hl:(b&&decide (8≤V 11)) with
 |false=>exact h
 | true=>
   simp only[Bool.and_eq_true,decide_eq_true_eq] at hl
   obtain⟨a0,a1,a2,a3,a4,a5,a6,a7,a8,a9,b0,b1⟩:=h
   have m8:V 8≠0:=fun e=>by have:=b0 e;omega
   show BOk (setV V 11 0)
   have e:∀ j,j≠11→setV V 11 0 j=V j:=fun j hj=>setV_ne hj
   have eb:setV V 11 0 11=0:=setV_eq
   generalize setV V 11 0=W at e eb
   have w0:=e 0 (by decide)
   have w1:=e 1 (by decide)
   have w2:=e 2 (by decide)
   have w3:=e 3 (by decide)
   have w4:=e 4 (by decide)
   have w5:=e 5 (by decide)
   have w6:=e 6 (by decide)
   have w7:=e 7 (by decide)
   have w8:=e 8 (by decide)
   have w9:=e 9 (by decide)
   have wa:=e 10 (by decide)
   exact⟨by rw[w0];exact a0,by rw[w1,w2,w3];exact a1,by rw[w4];exact a2,by rw[w5];exact a3,by rw[w6];exact a4,by rw[w7];exact a5,by rw[w8];exact a6,by rw[w9];exact a7,by rw[wa];exact a8,by rw[eb];omega,by rw[eb];exact fun _=>rfl,.inl ⟨by rw[w8];exact m8,by rw[eb];decide⟩⟩
theorem sl_ok {V:Nat→Int} (h:BOk V) (m8:V 8≠0):BOk (slV V):=by
 obtain⟨a0,a1,a2,a3,a4,a5,a6,a7,a8,a9,b0,b1⟩:=h
 have e:∀ j,j≠7→j≠6→j≠11→slV V j=V j:=fun j h1 h2 h3=>by unfold slV;rw[if_neg h1,if_neg h2,if_neg h3]
 have e7:slV V 7=0:=rfl
 have e6:slV V 6=0:=rfl
 have eb:slV V 11=8:=rfl
 generalize slV V=W at e e7 e6 eb
 have w0:=e 0 (by decide) (by decide) (by decide)
 have w1:=e 1 (by decide) (by decide) (by decide)
 have w2:=e 2 (by decide) (by decide) (by decide)
 have w3:=e 3 (by decide) (by decide) (by decide)
 have w4:=e 4 (by decide) (by decide) (by decide)
 have w5:=e 5 (by decide) (by decide) (by decide)
 have w8:=e 8 (by decide) (by decide) (by decide)
 have w9:=e 9 (by decide) (by decide) (by decide)
 have wa:=e 10 (by decide) (by decide) (by decide)
 exact⟨by rw[w0];exact a0,by rw[w1,w2,w3];exact a1,by rw[w4];exact a2,by rw[w5];exact a3,by rw[e6];omega,by rw[e7];omega,by rw[w8];exact a6,by rw[w9];exact a7,by rw[wa];exact a8,by rw[eb];omega,by rw[w8];exact fun q=>absurd q m8,.inr ⟨e6,e7⟩⟩
theorem Bods.wake {n:Nat} {U G:Nat→Int} {A:Nat→Bool} (h:Bods n U):Bods n (mapR (fun i V=>wakeV (awK G A i) V) U n):=
 h.map (fun k hk=>(wake_ok _ (h.row hk)).to) (fun k hk=>by show wakeV _ (fun j=>U (k*12+j)) 0=_;unfold wakeV;cases (awK G A k&&decide (8≤(fun j=>U (k*12+j)) 11))<;>rfl)
theorem slF_8 (G:Nat→Int) (g i:Nat) (V:Nat→Int):slF G g i V 8=V 8:=by unfold slF;cases decide (G i=(g:Int))<;>rfl
theorem Bods.sleepS {n:Nat} {U G:Nat→Int} {A:Nat→Bool} (h:Bods n U) (hG:∀ k,k<n→0≤G k→U (k*12+8)≠0) (g:Nat):Bods n (sleepS G A n g U)∧∀ k,k<n→sleepS G A n g U (k*12+8)=U (k*12+8):=by
 unfold Go.Proofs.YtpmjnpmnocjjgaaGreatDoor.sleepS
 cases (A g&&allQ G U g n) with
 |false=>exact⟨h,fun k hk=>rfl⟩
 | true=>
   refine⟨h.map (fun k hk=> ?_) (fun k hk=> ?_),fun k hk=>(mapR_in hk (by omega)).trans (slF_8 G g k _)⟩
   · unfold slF
     by_cases e:G k=(g:Int)
     · rw[decide_eq_true e];exact(sl_ok (h.row hk) (hG k hk (by omega))).to
     · rw[decide_eq_false e];exact h.ok k hk
   · unfold slF;cases decide (G k=(g:Int))<;>rfl
theorem Bods.sleep {n:Nat} {U G:Nat→Int} {A:Nat→Bool} (h:Bods n U) (hG:∀ k,k<n→0≤G k→U (k*12+8)≠0):∀ g,Bods n (sleepN G A n U g)∧∀ k,k<n→sleepN G A n U g (k*12+8)=U (k*12+8)
 |0=>⟨h,fun k hk=>rfl⟩
 | g+1=>by
   obtain⟨h1,h2⟩:=Bods.sleep h hG g
   obtain⟨q1,q2⟩:=Bods.sleepS (A:=A) h1 (fun k hk h0=>by rw[h2 k hk];exact hG k hk h0) g
   exact⟨q1,fun k hk=>(q2 k hk).trans (h2 k hk)⟩
def ApartDoes:Prop:=∀ (base g n c:Nat) (U:Nat→Int) (A B:Nat) (X Y D:Int) (w:World),OwnL w base 35 12 (.slice (some ⟨g,0,none⟩) n c) n U→n≤1048576→A<n→B<n→Bods n U→(-256≤X∧X≤256)→(-256≤Y∧Y≤256)→(0≤D∧D≤102400)→Calls Tryz.prog 67 #[.slice (some ⟨g,0,none⟩) n c,.agg #[.int .i64 (A:Int),.int .i64 (B:Int),.int .i64 X,.int .i64 Y,.int .i64 D]] w fun e w'=>e= .returned (.tuple #[])∧OwnL w' base 35 12 (.slice (some ⟨g,0,none⟩) n c) n (apartU U A B X Y D)∧Fr (fun b=>b=g) w w'
theorem l8Aparts_of (HA:ApartDoes) (a:Option Addr) (n c:Nat) (U:Nat→Int) (ac:Option Addr) (m cc:Nat) (C:Nat→Int) (w:World) (h:Flat w a (n*12) U) (hn:n≤1048576) (hm:m≤1048576) (h2:Flat w ac (m*5) C) (hbb:Bods n U) (hC:CtOk n m C):
 Calls Tryz.prog 36 #[.slice a n c,.slice ac m cc] w fun e w'=>∃ a1 c1,e= .returned (.slice a1 n c1)∧OutL w w' 35 12 a1 n c1 (apartN C U m):=by
 have hset:=cset_map
 go_enter Tryz.func36,Tryz.ntmps36
 go_upto_region 1 with fail
 go_cut [5] (fun s0 wc=>∃ a1 c1,s0= .slice a1 n c1∧OutL w wc 35 12 a1 n c1 U)
 case first=>
  go_wp2_with (go_at_call 65;refine(l8Copy_any a n c U _ h hn).mono ?_;rintro e w3 ⟨a1,c1,rfl,hO⟩)
  go_meet
  exact⟨_,_,rfl,hO⟩
 case rest=>
 obtain⟨a1,c1,rfl,hO⟩:=hcut
 go_upto_region 3 with fail
 go_loopw [6] (fun s wr=>∃ k:Nat,k≤m∧s= .int .i64 (k:Int)∧OutL w wr 35 12 a1 n c1 (apartN C U k)) (fun s _=>m-(intOf s).toNat)
 case atStart=>exact⟨0,Nat.zero_le _,rfl,hO⟩
 case round=>
  clear hO
  obtain⟨k,hk,rfl,hO⟩:=hrel
  by_cases hlt:k<m
  · have hkm:(k:Int)<(m:Int):=by omega
    have ca:=hC.a k hlt
    have cb:=hC.b k hlt
    have cx:=hC.x k hlt
    have cy:=hC.y k hlt
    have cd:=hC.d k hlt
    have hB:=(hbb.aparts hC k hk).1
    obtain⟨b2,o2,e2,hbl2,hc2⟩:=(h2.below hO.bel) (by omega)
    have r0:=hc2 (k*5) (by omega)
    have r1:=hc2 (k*5+1) (by omega)
    have r2:=hc2 (k*5+2) (by omega)
    have r3:=hc2 (k*5+3) (by omega)
    have r4:=hc2 (k*5+4) (by omega)
    simp only[←Nat.add_assoc] at r0 r1 r2 r3 r4
    clear hc2
    subst e2
    have HN:Shut (apartN C U (k+1)=apartU (apartN C U k) (C (k*5)).toNat (C (k*5+1)).toNat (C (k*5+2)) (C (k*5+3)) (C (k*5+4))):=by show _=_;rw[apartN]
    obtain⟨A,hA⟩:∃ A:Nat,C (k*5)=(A:Int):=⟨(C (k*5)).toNat,by omega⟩
    obtain⟨B,hBB⟩:∃ B:Nat,C (k*5+1)=(B:Int):=⟨(C (k*5+1)).toNat,by omega⟩
    rw[hA,hBB,Int.toNat_natCast,Int.toNat_natCast] at HN
    rw[hA] at ca r0
    rw[hBB] at cb r1
    clear hA hBB
    obtain⟨g,rfl,hg1,hg2⟩:=hO.own.loc (by omega)
    go_wp2_with (go_at_call 67;refine(HA w.heap.size g n c1 (apartN C U k) A B _ _ _ _ hO.own hn (by omega) (by omega) hB cx cy cd).mono ?_;rintro e w5 ⟨rfl,ho5,hf5⟩)
    have hB5:Below w.heap.size w w5:=hO.bel.trans (hf5.below (by have:=hO.bel.size;omega) (fun b e=>by omega))
    go_roundw
    case rel=>exact⟨k+1,by omega,by go_num,hB5,by rw[HN.out];exact ho5⟩
    case measure=>simp[intOf];omega
  · obtain rfl:k=m:=by omega
    go_wp2_with fail
    go_ret
    exact⟨_,_,rfl,hO⟩
theorem col_put {U V:Nat→Int} {k i j:Nat} (hi:i<12):colOf (putRow U k V) i j=if j=k then V i else colOf U i j:=by
 unfold colOf putRow
 by_cases e:j=k
 · subst e;rw[if_pos (by omega),if_pos rfl,Nat.add_sub_cancel_left]
 · rw[if_neg (by omega),if_neg e]
theorem putRow_self (U:Nat→Int) (k:Nat):putRow U k (fun j=>U (k*12+j))=U:=by
 funext q
 unfold putRow
 by_cases e:k*12≤q∧q<k*12+12
 · rw[if_pos e];exact congrArg U (by omega)
 · rw[if_neg e]
theorem shareV_congr {V W V' W':Nat→Int} (m:Int) (h1:V 8=V' 8) (h2:W 8=W' 8):shareV V W m=shareV V' W' m:=by unfold shareV;rw[h1,h2]
theorem moveV_zero {V:Nat→Int} (a4: -2560000≤V 4∧V 4≤2560000) (a5: -2560000≤V 5∧V 5≤2560000):moveV V 0 0=V:=by
 have e4:clampZ 2560000 (V 4+0)=V 4:=by unfold clampZ;(repeat' split);all_goals omega
 have e5:clampZ 2560000 (V 5+0)=V 5:=by unfold clampZ;(repeat' split);all_goals omega
 unfold moveV mvX mvY
 rw[e4,e5,if_pos (by omega),if_pos (by omega)]
 funext j
 unfold setV
 repeat' split
 all_goals(first|rfl|(subst_vars;rfl))
theorem row_else {U V:Nat→Int} {k l:Nat} (h:l≠k):∀ j,j<12→putRow U k V (l*12+j)=U (l*12+j):=fun j hj=>putRow_else h hj
theorem row_is {U V:Nat→Int} {k:Nat}:∀ j,j<12→putRow U k V (k*12+j)=V j:=fun j hj=>by unfold putRow;rw[if_pos (by omega),Nat.add_sub_cancel_left]
theorem putRow_congr {U V W:Nat→Int} {k:Nat} (h:∀ j,j<12→V j=W j):putRow U k V=putRow U k W:=by
 funext q
 unfold putRow
 by_cases e:k*12≤q∧q<k*12+12
 · rw[if_pos e,if_pos e];exact h _ (by omega)
 · rw[if_neg e,if_neg e]
theorem moveV_congr {V W:Nat→Int} (p q:Int) (h:∀ j,j<12→V j=W j):∀ j,j<12→moveV V p q j=moveV W p q j:=fun j hj=>by
 unfold moveV mvX mvY setV
 rw[h 4 (by omega),h 5 (by omega),h 6 (by omega),h 7 (by omega),h j hj]
theorem apart_two {U:Nat→Int} {A B:Nat} {x y d p q r s:Int} (hAB:A≠B) (hA:BOk (fun j=>U (A*12+j))) (hB:BOk (fun j=>U (B*12+j))) (hm:0<(d-64).tdiv 4)
 (ep:(-x*shareV (fun j=>U (A*12+j)) (fun j=>U (B*12+j)) ((d-64).tdiv 4)).tdiv 256=p) (eq:(-y*shareV (fun j=>U (A*12+j)) (fun j=>U (B*12+j)) ((d-64).tdiv 4)).tdiv 256=q)
 (er:(x*shareV (fun j=>U (B*12+j)) (fun j=>U (A*12+j)) ((d-64).tdiv 4)).tdiv 256=r) (es:(y*shareV (fun j=>U (B*12+j)) (fun j=>U (A*12+j)) ((d-64).tdiv 4)).tdiv 256=s):
 putRow (putRow U A (moveV (fun j=>U (A*12+j)) p q)) B (moveV (fun j=>putRow U A (moveV (fun j=>U (A*12+j)) p q) (B*12+j)) r s)=apartU U A B x y d:=by
 have e1:putRow U A (moveV (fun j=>U (A*12+j)) p q)=bif decide (0<U (A*12+8)) then putRow U A (moveV (fun j=>U (A*12+j)) p q) else U:=by
  by_cases z:0<U (A*12+8)
  · rw[decide_eq_true z,cond_true]
  · rw[decide_eq_false z,cond_false]
    have z8:U (A*12+8)=0:=by have:=hA.m8;omega
    have s0:shareV (fun j=>U (A*12+j)) (fun j=>U (B*12+j)) ((d-64).tdiv 4)=0:=by unfold shareV;rw[show decide (U (A*12+8)=0)=true from decide_eq_true z8];rfl
    rw[s0,Int.mul_zero] at ep eq
    have p0:p=0:=ep.symm
    have q0:q=0:=eq.symm
    rw[p0,q0,moveV_zero hA.a4 hA.a5,putRow_self]
 have e2:∀ U1:Nat→Int,(∀ j,j<12→U1 (B*12+j)=U (B*12+j))→putRow U1 B (moveV (fun j=>U1 (B*12+j)) r s)=bif decide (0<U (B*12+8)) then putRow U1 B (moveV (fun j=>U (B*12+j)) r s) else U1:=by
  intro U1 h1
  by_cases z:0<U (B*12+8)
  · rw[decide_eq_true z,cond_true]
    exact putRow_congr (moveV_congr r s h1)
  · rw[decide_eq_false z,cond_false]
    have z8:U (B*12+8)=0:=by have:=hB.m8;omega
    have s0:shareV (fun j=>U (B*12+j)) (fun j=>U (A*12+j)) ((d-64).tdiv 4)=0:=by unfold shareV;rw[show decide (U (B*12+8)=0)=true from decide_eq_true z8];rfl
    rw[s0,Int.mul_zero] at er es
    have r0:r=0:=er.symm
    have s0:s=0:=es.symm
    have a4:=hB.a4
    have a5:=hB.a5
    rw[r0,s0,moveV_zero (V:=fun j=>U1 (B*12+j)) (by rw[h1 4 (by omega)];exact a4) (by rw[h1 5 (by omega)];exact a5),putRow_self]
 rw[e2 _ (row_else (fun e=>hAB e.symm)),e1]
 unfold apartU
 rw[decide_eq_true hm,ep,eq,er,es]
 rfl
end Go.Proofs.YtpmjnpmnocjjgaaGreatDoor
