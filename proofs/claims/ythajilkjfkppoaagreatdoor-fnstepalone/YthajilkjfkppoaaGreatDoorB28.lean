/- Texts of a proof. -/
import Derived.Test.YthajilkjfkppoaaGreatDoorB27
import Derived.Test.YthajilkjfkppoaaGreatDoorB24
import Derived.Deep.RegionHeld3
import Derived.Deep.DeepCutAuto
import Derived.Test.YthajilkjfkppoaaGreatDoorB22
set_option maxHeartbeats 16000000
set_option maxRecDepth 20000
namespace Go.Proofs.YthajilkjfkppoaaGreatDoor
open Go.RowKit
set_option linter.unusedVariables false
set_option linter.unusedSimpArgs false
def BV (l:List Bool):List Value:=l.map Value.bool
theorem BV_app (l:List Bool) (x:Bool):BV l++[.bool x]=BV (l++[x]):=by unfold BV;rw[List.map_append];rfl
theorem BV_set (l:List Bool) (j:Nat) (x:Bool):(BV l).set j (.bool x)=BV (l.set j x):=by unfold BV;rw[List.map_set]
theorem BV_len (l:List Bool):(BV l).length=l.length:=by unfold BV;rw[List.length_map]
theorem BV_get {l:List Bool} {j:Nat} (h:j<l.length):(BV l)[j]? =some (.bool (l.getD j false)):=by
 unfold BV
 rw[List.getElem?_map,List.getElem?_eq_getElem h,List.getD_eq_getElem?_getD,List.getElem?_eq_getElem h]
 rfl
theorem LV.bc {w wr:World} {t g cap n:Nat} {l:List Bool} (h:LV w wr t g cap n (BV l)) {j:Nat} (hj:j<n):wr.cell? ⟨g,j,none⟩=some (.bool (l.getD j false)):=by
 have hl:=h.len
 rw[BV_len] at hl
 exact h.cell (BV_get (by omega))
theorem LV.flatB {w wr:World} {t g cap n:Nat} {l:List Bool} (h:LV w wr t g cap n (BV l)):FlatB wr (some ⟨g,0,none⟩) n (fun j=>l.getD j false):=by
 intro h0
 exact⟨g,0,rfl,h.lt.2,fun j hj=>by rw[Nat.zero_add];exact h.bc hj⟩
abbrev zcBool:Value:= .bool false
theorem infoBool:(Tryz.prog.info? 4).map (fun i=>(i.zero,i.size,i.bytes))=some (some zcBool,1,1):=by kernel_rfl
def awP (l:List Bool) (g:Int) (s:Bool):List Bool:=
 let l1:=bif decide (g=(l.length:Int)) then l++[false] else l
 bif decide (0≤g) then l1.set g.toNat (l1.getD g.toNat false||s) else l1
def awL (U G:Nat→Int):Nat→List Bool
 |0=>[]
 |i+1=>awP (awL U G i) (G i) (!decide (8≤U (i*12+11)))
theorem awP_m (l:List Bool) (g:Int) (s:Bool) (h:g<0):awP l g s=l:=by
 unfold awP
 rw[decide_eq_false (by omega:¬ g=(l.length:Int)),decide_eq_false (by omega:¬ 0≤g)]
 rfl
theorem awP_n (l:List Bool) (s:Bool):awP l (l.length:Int) s=(l++[false]).set l.length s:=by
 unfold awP
 rw[decide_eq_true rfl,decide_eq_true (by omega:(0:Int)≤(l.length:Int))]
 simp
theorem awP_o (l:List Bool) (q:Nat) (s:Bool) (h:q<l.length):awP l (q:Int) s=l.set q (l.getD q false||s):=by
 unfold awP
 rw[decide_eq_false (by omega:¬ (q:Int)=(l.length:Int)),decide_eq_true (by omega:(0:Int)≤(q:Int))]
 simp
theorem awP_len (l:List Bool) (g:Int) (s:Bool):l.length≤(awP l g s).length∧(awP l g s).length≤l.length+1:=by
 unfold awP
 cases decide (g=(l.length:Int))<;>cases decide (0≤g)<;>simp
theorem awL_len (U G:Nat→Int):∀ i,(awL U G i).length≤i
 |0=>Nat.le_refl _
 | i+1=>by
   have:=awL_len U G i
   have:=(awP_len (awL U G i) (G i) (!decide (8≤U (i*12+11)))).2
   rw[awL];omega
theorem row12 {w:World} {b o n i:Nat} {U:Nat→Int} (h:∀ q,q<n→w.cell? ⟨b,o+q,none⟩=some (.int .i64 (U q))) (hi:i*12+11<n):w.cell? ⟨b,o+i*12,none⟩=some (.int .i64 (U (i*12)))∧w.cell? ⟨b,o+i*12+1,none⟩=some (.int .i64 (U (i*12+1)))∧w.cell? ⟨b,o+i*12+2,none⟩=some (.int .i64 (U (i*12+2)))∧w.cell? ⟨b,o+i*12+3,none⟩=some (.int .i64 (U (i*12+3)))∧w.cell? ⟨b,o+i*12+4,none⟩=some (.int .i64 (U (i*12+4)))∧w.cell? ⟨b,o+i*12+5,none⟩=some (.int .i64 (U (i*12+5)))∧w.cell? ⟨b,o+i*12+6,none⟩=some (.int .i64 (U (i*12+6)))∧w.cell? ⟨b,o+i*12+7,none⟩=some (.int .i64 (U (i*12+7)))∧w.cell? ⟨b,o+i*12+8,none⟩=some (.int .i64 (U (i*12+8)))∧w.cell? ⟨b,o+i*12+9,none⟩=some (.int .i64 (U (i*12+9)))∧w.cell? ⟨b,o+i*12+10,none⟩=some (.int .i64 (U (i*12+10)))∧w.cell? ⟨b,o+i*12+11,none⟩=some (.int .i64 (U (i*12+11))):=by
 have g:=fun j (hj:j<12)=>h (i*12+j) (by omega)
 simp only[←Nat.add_assoc] at g
 exact⟨g 0 (by decide),g 1 (by decide),g 2 (by decide),g 3 (by decide),g 4 (by decide),g 5 (by decide),g 6 (by decide),g 7 (by decide),g 8 (by decide),g 9 (by decide),g 10 (by decide),g 11 (by decide)⟩
theorem l7Awake_any (a:Option Addr) (n c:Nat) (U:Nat→Int) (ag:Option Addr) (cg:Nat) (G:Nat→Int) (w:World) (h:Flat w a (n*12) U) (hn:n≤1000) (hG2:Flat w ag (n*1) G) (hGb:∀ i,i<n→ -1≤G i∧G i≤((awL U G i).length:Int)):
 Calls Tryz.prog 40 #[.slice a n c,.slice ag n cg] w fun e w'=>∃ g1 c1 na,e= .returned (.slice (some ⟨g1,0,none⟩) na c1)∧na=(awL U G n).length∧LV w w' 4 g1 c1 na (BV (awL U G n)):=by
 have hset:=cset_map
 have L1:=LV.new (w:=w) 4 (Below.refl _ w) rfl
 go_enter Tryz.func40,Tryz.ntmps40
 go_upto_region 3 with fail
 go_loopw [5,6] (fun s5 s6 wr=>∃ (i g1 c1 na:Nat),i≤n∧s6= .int .i64 (i:Int)∧s5= .slice (some ⟨g1,0,none⟩) na c1∧na=(awL U G i).length∧LV w wr 4 g1 c1 na (BV (awL U G i))) (fun _ s6 _=>n-(intOf s6).toNat)
 case atStart=>exact⟨0,_,_,_,Nat.zero_le _,rfl,rfl,rfl,L1⟩
 case round=>
  clear L1
  obtain⟨i,g1,c1,na,hi,rfl,rfl,hna,H1⟩:=hrel
  by_cases hlt:i<n
  · have hin:(i:Int)<(n:Int):=by omega
    have gb:=hGb i hlt
    have hal:=awL_len U G i
    obtain⟨SL,hSL⟩:∃ b,decide (8≤(fun j=>U (i*12+j)) 11)=b:=⟨_,rfl⟩
    have HAW:Shut (awL U G (i+1)=awP (awL U G i) (G i) (!SL)):=by show _=_;rw[awL,←hSL]
    generalize awL U G i=l at H1 HAW gb hna hal
    have hl:l.length=na:=hna.symm
    rw[hl] at gb hal
    clear hna
    obtain⟨b0,o0,e0,hbl0,hc0⟩:=(h.below H1.bel) (by omega)
    obtain⟨b2,o2,e2,hbl2,hc2⟩:=(hG2.below H1.bel) (by omega)
    have rG:=hc2 i (by omega)
    subst e0 e2
    obtain⟨r0,r1,r2,r3,r4,r5,r6,r7,r8,r9,r10,r11⟩:=row12 (i:=i) hc0 (by omega)
    have hll:=H1.lt
    have yf:=H1.fro
    clear hc0 hc2
    by_cases hgm:G i<0
    · have hq:G i= -1:=by omega
      have HA:Shut (awL U G (i+1)=l):=by show _=_;rw[HAW.out];exact awP_m l _ _ hgm
      rw[hq] at rG
      have e1:((-1:Int)==(na:Int))=false:=by first|(simp;done)|(simp;omega)
      clear gb hgm
      go_wp2_with fail
      go_roundw
      case rel=>exact⟨i+1,g1,c1,na,by omega,by go_num,rfl,by rw[HA.out];exact hl.symm,by rw[HA.out];exact H1⟩
      case measure=>simp[intOf];omega
    · obtain⟨q,hq⟩:∃ q:Nat,G i=(q:Int):=⟨(G i).toNat,by omega⟩
      rw[hq] at rG gb
      have hq0:(0:Int)≤(q:Int):=by omega
      by_cases hqn:q<na
      · have hqi:(q:Int)<(na:Int):=by omega
        have e1:((q:Int)==(na:Int))=false:=by first|(simp;done)|(simp;omega)
        cases hold:l.getD q false with
        | true=>
          have yo:wr.cell? ⟨g1,q,none⟩=some (.bool true):=by have:=H1.bc hqn;rw[hold] at this;exact this
          have HA:Shut (awL U G (i+1)=l.set q true):=by show _=_;rw[HAW.out,hq,awP_o l q _ (by omega),hold];rfl
          clear HAW
          go_upto_region 8 with fail
          refine wp_region_held_drew (S:=fun w'=>w'.cell? ⟨b2,o2+i,none⟩=some (.int .i64 (q:Int))∧w'.cell? ⟨b0,o0+i*12,none⟩=some (.int .i64 (U (i*12)))∧w'.cell? ⟨b0,o0+i*12+1,none⟩=some (.int .i64 (U (i*12+1)))∧w'.cell? ⟨b0,o0+i*12+2,none⟩=some (.int .i64 (U (i*12+2)))∧w'.cell? ⟨b0,o0+i*12+3,none⟩=some (.int .i64 (U (i*12+3)))∧w'.cell? ⟨b0,o0+i*12+4,none⟩=some (.int .i64 (U (i*12+4)))∧w'.cell? ⟨b0,o0+i*12+5,none⟩=some (.int .i64 (U (i*12+5)))∧w'.cell? ⟨b0,o0+i*12+6,none⟩=some (.int .i64 (U (i*12+6)))∧w'.cell? ⟨b0,o0+i*12+7,none⟩=some (.int .i64 (U (i*12+7)))∧w'.cell? ⟨b0,o0+i*12+8,none⟩=some (.int .i64 (U (i*12+8)))∧w'.cell? ⟨b0,o0+i*12+9,none⟩=some (.int .i64 (U (i*12+9)))∧w'.cell? ⟨b0,o0+i*12+10,none⟩=some (.int .i64 (U (i*12+10)))∧w'.cell? ⟨b0,o0+i*12+11,none⟩=some (.int .i64 (U (i*12+11)))) (by kernel_rfl) ?_ (fun hHeld=> ?_)
          · (try dsimp only)
            (first|(go_simp;done)|(go_keep;done))
          refine tq 0 hHeld ?_
          refine tq 1 hHeld ?_
          refine tq 2 hHeld ?_
          refine tq 3 hHeld ?_
          refine tq 4 hHeld ?_
          refine tq 5 hHeld ?_
          refine tq 6 hHeld ?_
          refine tq 7 hHeld ?_
          refine tq 8 hHeld ?_
          refine tq 9 hHeld ?_
          refine tq 10 hHeld ?_
          refine tc 11 fun K hK=> ?_
          (go_simp
           refine tr hK (fun hHeld=> ?_)
           clear hK K)
          refine tq 12 hHeld ?_
          refine tn 13 hHeld ?_
          refine tn 14 hHeld ?_
          refine tn 15 hHeld ?_
          refine tn 16 hHeld ?_
          refine tn 17 hHeld ?_
          refine tn 18 hHeld ?_
          refine tq 19 hHeld ?_
          refine tq 20 hHeld ?_
          refine tc 21 fun K hK=> ?_
          (go_simp
           have H2:=H1.set q (.bool true)
           rw[BV_set] at H2
           have H2:=H2.dr
           have hh:=h.below H2.bel
           have hg:=hG2.below H2.bel
           clear rG r0 r1 r2 r3 r4 r5 r6 r7 r8 r9 r10 r11 yo yf H1
           generalize (wr.setCell ⟨g1,q,none⟩ (.bool true)).drew=w7 at H2 hh hg ⊢
           obtain⟨b0',o0',e0',_,hc0⟩:=hh (by omega)
           cases e0'
           obtain⟨b2',o2',e2',_,hc2⟩:=hg (by omega)
           cases e2'
           have rG:=hc2 i (by omega)
           rw[hq] at rG
           obtain⟨r0,r1,r2,r3,r4,r5,r6,r7,r8,r9,r10,r11⟩:=row12 (i:=i) hc0 (by omega)
           clear hc0 hc2
           refine tr hK (fun hHeld=> ?_)
           clear hK K)
          refine wpAnyH_done (by kernel_rfl) ?_ _
          go_wp2_with fail
          go_roundw
          case rel=>exact⟨i+1,g1,c1,na,by omega,by go_num,rfl,by rw[HA.out];rw[List.length_set];exact hl.symm,by rw[HA.out];exact H2⟩
          case measure=>simp[intOf];omega
        | false=>
          have yo:wr.cell? ⟨g1,q,none⟩=some (.bool false):=by have:=H1.bc hqn;rw[hold] at this;exact this
          have HA:Shut (awL U G (i+1)=l.set q (!SL)):=by show _=_;rw[HAW.out,hq,awP_o l q _ (by omega),hold];rfl
          clear HAW
          go_upto_region 8 with fail
          refine wp_region_held_drew (S:=fun w'=>w'.cell? ⟨b2,o2+i,none⟩=some (.int .i64 (q:Int))∧w'.cell? ⟨b0,o0+i*12,none⟩=some (.int .i64 (U (i*12)))∧w'.cell? ⟨b0,o0+i*12+1,none⟩=some (.int .i64 (U (i*12+1)))∧w'.cell? ⟨b0,o0+i*12+2,none⟩=some (.int .i64 (U (i*12+2)))∧w'.cell? ⟨b0,o0+i*12+3,none⟩=some (.int .i64 (U (i*12+3)))∧w'.cell? ⟨b0,o0+i*12+4,none⟩=some (.int .i64 (U (i*12+4)))∧w'.cell? ⟨b0,o0+i*12+5,none⟩=some (.int .i64 (U (i*12+5)))∧w'.cell? ⟨b0,o0+i*12+6,none⟩=some (.int .i64 (U (i*12+6)))∧w'.cell? ⟨b0,o0+i*12+7,none⟩=some (.int .i64 (U (i*12+7)))∧w'.cell? ⟨b0,o0+i*12+8,none⟩=some (.int .i64 (U (i*12+8)))∧w'.cell? ⟨b0,o0+i*12+9,none⟩=some (.int .i64 (U (i*12+9)))∧w'.cell? ⟨b0,o0+i*12+10,none⟩=some (.int .i64 (U (i*12+10)))∧w'.cell? ⟨b0,o0+i*12+11,none⟩=some (.int .i64 (U (i*12+11)))) (by kernel_rfl) ?_ (fun hHeld=> ?_)
          · (try dsimp only)
            (first|(go_simp;done)|(go_keep;done))
          refine tq 0 hHeld ?_
          refine tq 1 hHeld ?_
          refine tq 2 hHeld ?_
          refine tq 3 hHeld ?_
          refine tq 4 hHeld ?_
          refine tq 5 hHeld ?_
          refine tq 6 hHeld ?_
          refine tq 7 hHeld ?_
          refine tq 8 hHeld ?_
          refine tq 9 hHeld ?_
          refine tq 10 hHeld ?_
          refine tc 11 fun K hK=> ?_
          (go_simp
           refine tr hK (fun hHeld=> ?_)
           clear hK K)
          refine tq 12 hHeld ?_
          refine tq 13 hHeld ?_
          refine tq 14 hHeld ?_
          refine tq 15 hHeld ?_
          refine tq 16 hHeld ?_
          refine tc 17 fun K hK=> ?_
          (go_simp
           (go_at_call 79;refine(l6Sleeps_k (fun j=>U (i*12+j)) _ SL hSL).mono ?_;rintro e w5 ⟨rfl,hb5⟩)
           have hb5:=hb5.ofDr
           have H2:=H1.on hb5
           have hh:=h.below H2.bel
           have hg:=hG2.below H2.bel
           clear rG r0 r1 r2 r3 r4 r5 r6 r7 r8 r9 r10 r11 yo yf
           obtain⟨b0',o0',e0',_,hc0⟩:=hh (by omega)
           cases e0'
           obtain⟨b2',o2',e2',_,hc2⟩:=hg (by omega)
           cases e2'
           have rG:=hc2 i (by omega)
           rw[hq] at rG
           obtain⟨r0,r1,r2,r3,r4,r5,r6,r7,r8,r9,r10,r11⟩:=row12 (i:=i) hc0 (by omega)
           clear hc0 hc2
           have yf:=H2.fro
           have yo:=H2.bc hqn
           clear H1
           have H1:=H2
           clear H2
           (try go_wp2_with fail)
           refine tr hK (fun hHeld=> ?_)
           clear hK K)
          refine tq 18 hHeld ?_
          refine tq 19 hHeld ?_
          refine tq 20 hHeld ?_
          refine tc 21 fun K hK=> ?_
          (go_simp
           have H2:=H1.set q (.bool (!SL))
           rw[BV_set] at H2
           have hh:=h.below H2.bel
           have hg:=hG2.below H2.bel
           clear rG r0 r1 r2 r3 r4 r5 r6 r7 r8 r9 r10 r11 yo yf H1
           generalize (w5.setCell ⟨g1,q,none⟩ (.bool (!SL)))=w7 at H2 hh hg ⊢
           obtain⟨b0',o0',e0',_,hc0⟩:=hh (by omega)
           cases e0'
           obtain⟨b2',o2',e2',_,hc2⟩:=hg (by omega)
           cases e2'
           have rG:=hc2 i (by omega)
           rw[hq] at rG
           obtain⟨r0,r1,r2,r3,r4,r5,r6,r7,r8,r9,r10,r11⟩:=row12 (i:=i) hc0 (by omega)
           clear hc0 hc2
           refine tr hK (fun hHeld=> ?_)
           clear hK K)
          refine wpAnyH_done (by kernel_rfl) ?_ _
          go_wp2_with fail
          go_roundw
          case rel=>exact⟨i+1,g1,c1,na,by omega,by go_num,rfl,by rw[HA.out];rw[List.length_set];exact hl.symm,by rw[HA.out];exact H2⟩
          case measure=>simp[intOf];omega
      · obtain rfl:q=na:=by omega
        clear hqn
        have HA:Shut (awL U G (i+1)=(l++[false]).set q (!SL)):=by show _=_;rw[HAW.out,hq,←hl];exact awP_n l _
        clear HAW
        have hE:Below wr.heap.size wr (wr.alloc (Obj.cells #[.bool false] 4)):=(Below.refl _ _).alloc (Nat.le_refl _) _
        have hcE:(wr.alloc (Obj.cells #[.bool false] 4)).cell? ⟨wr.heap.size,0,none⟩=some (.bool false):=by go_simp
        go_upto_region 7 with(refine wpList_push rfl _ _ _ rfl 4 1 zcBool Tryz.underlying81 infoBool rfl (by decide) g1 c1 q (BV l) rfl H1 hE wr.heap.size rfl (.bool false) hcE rfl (by omega) ?_;intro g6 c6 w6 hp6 hg6 hl6)
        clear hE hcE hg6 hl6 yf rG r0 r1 r2 r3 r4 r5 r6 r7 r8 r9 r10 r11 H1
        have H1:=hp6
        rw[BV_app] at H1
        clear hp6
        have hh:=h.below H1.bel
        have hg:=hG2.below H1.bel
        obtain⟨b0',o0',e0',_,hc0⟩:=hh (by omega)
        cases e0'
        obtain⟨b2',o2',e2',_,hc2⟩:=hg (by omega)
        cases e2'
        have rG:=hc2 i (by omega)
        rw[hq] at rG
        obtain⟨r0,r1,r2,r3,r4,r5,r6,r7,r8,r9,r10,r11⟩:=row12 (i:=i) hc0 (by omega)
        clear hc0 hc2 hh hg
        have yf:=H1.fro
        have hqn:q<q+1:=Nat.lt_succ_self _
        have hqi:(q:Int)<((q+1:Nat):Int):=by omega
        have hqj:(q:Int)<(q:Int)+1:=by omega
        have yo:w6.cell? ⟨g6,q,none⟩=some (.bool false):=by
         have:=H1.bc hqn
         rw[List.getD_eq_getElem?_getD,List.getElem?_append_right (by omega),hl,Nat.sub_self] at this
         exact this
        go_upto_region 8 with fail
        refine wp_region_held_drew (S:=fun w'=>w'.cell? ⟨b2,o2+i,none⟩=some (.int .i64 (q:Int))∧w'.cell? ⟨b0,o0+i*12,none⟩=some (.int .i64 (U (i*12)))∧w'.cell? ⟨b0,o0+i*12+1,none⟩=some (.int .i64 (U (i*12+1)))∧w'.cell? ⟨b0,o0+i*12+2,none⟩=some (.int .i64 (U (i*12+2)))∧w'.cell? ⟨b0,o0+i*12+3,none⟩=some (.int .i64 (U (i*12+3)))∧w'.cell? ⟨b0,o0+i*12+4,none⟩=some (.int .i64 (U (i*12+4)))∧w'.cell? ⟨b0,o0+i*12+5,none⟩=some (.int .i64 (U (i*12+5)))∧w'.cell? ⟨b0,o0+i*12+6,none⟩=some (.int .i64 (U (i*12+6)))∧w'.cell? ⟨b0,o0+i*12+7,none⟩=some (.int .i64 (U (i*12+7)))∧w'.cell? ⟨b0,o0+i*12+8,none⟩=some (.int .i64 (U (i*12+8)))∧w'.cell? ⟨b0,o0+i*12+9,none⟩=some (.int .i64 (U (i*12+9)))∧w'.cell? ⟨b0,o0+i*12+10,none⟩=some (.int .i64 (U (i*12+10)))∧w'.cell? ⟨b0,o0+i*12+11,none⟩=some (.int .i64 (U (i*12+11)))) (by kernel_rfl) ?_ (fun hHeld=> ?_)
        · (try dsimp only)
          (first|(go_simp;done)|(go_keep;done))
        refine tq 0 hHeld ?_
        refine tq 1 hHeld ?_
        refine tq 2 hHeld ?_
        refine tq 3 hHeld ?_
        refine tq 4 hHeld ?_
        refine tq 5 hHeld ?_
        refine tq 6 hHeld ?_
        refine tq 7 hHeld ?_
        refine tq 8 hHeld ?_
        refine tq 9 hHeld ?_
        refine tq 10 hHeld ?_
        refine tc 11 fun K hK=> ?_
        (go_simp
         refine tr hK (fun hHeld=> ?_)
         clear hK K)
        refine tq 12 hHeld ?_
        refine tq 13 hHeld ?_
        refine tq 14 hHeld ?_
        refine tq 15 hHeld ?_
        refine tq 16 hHeld ?_
        refine tc 17 fun K hK=> ?_
        (go_simp
         (go_at_call 79;refine(l6Sleeps_k (fun j=>U (i*12+j)) _ SL hSL).mono ?_;rintro e w5 ⟨rfl,hb5⟩)
         have hb5:=hb5.ofDr
         have H2:=H1.on hb5
         have hh:=h.below H2.bel
         have hg:=hG2.below H2.bel
         clear rG r0 r1 r2 r3 r4 r5 r6 r7 r8 r9 r10 r11 yo yf
         obtain⟨b0',o0',e0',_,hc0⟩:=hh (by omega)
         cases e0'
         obtain⟨b2',o2',e2',_,hc2⟩:=hg (by omega)
         cases e2'
         have rG:=hc2 i (by omega)
         rw[hq] at rG
         obtain⟨r0,r1,r2,r3,r4,r5,r6,r7,r8,r9,r10,r11⟩:=row12 (i:=i) hc0 (by omega)
         clear hc0 hc2
         have yf:=H2.fro
         have yo:=H2.bc hqn
         clear H1
         have H1:=H2
         clear H2
         (try go_wp2_with fail)
         refine tr hK (fun hHeld=> ?_)
         clear hK K)
        refine tq 18 hHeld ?_
        refine tq 19 hHeld ?_
        refine tq 20 hHeld ?_
        refine tc 21 fun K hK=> ?_
        (go_simp
         have H2:=H1.set q (.bool (!SL))
         rw[BV_set] at H2
         have hh:=h.below H2.bel
         have hg:=hG2.below H2.bel
         clear rG r0 r1 r2 r3 r4 r5 r6 r7 r8 r9 r10 r11 yo yf H1
         generalize (w5.setCell ⟨g6,q,none⟩ (.bool (!SL)))=w7 at H2 hh hg ⊢
         obtain⟨b0',o0',e0',_,hc0⟩:=hh (by omega)
         cases e0'
         obtain⟨b2',o2',e2',_,hc2⟩:=hg (by omega)
         cases e2'
         have rG:=hc2 i (by omega)
         rw[hq] at rG
         obtain⟨r0,r1,r2,r3,r4,r5,r6,r7,r8,r9,r10,r11⟩:=row12 (i:=i) hc0 (by omega)
         clear hc0 hc2
         refine tr hK (fun hHeld=> ?_)
         clear hK K)
        refine wpAnyH_done (by kernel_rfl) ?_ _
        go_wp2_with fail
        go_roundw
        case rel=>exact⟨i+1,g6,c6,(q+1),by omega,by go_num,rfl,by rw[HA.out];rw[List.length_set,List.length_append,hl];rfl,by rw[HA.out];exact H2⟩
        case measure=>simp[intOf];omega
  · obtain rfl:i=n:=by omega
    go_wp2_with fail
    go_ret
    exact⟨_,_,_,rfl,hna,H1⟩
def allQ (G U:Nat→Int) (g:Nat):Nat→Bool
 |0=>true
 |i+1=>allQ G U g i&&(!decide (G i=(g:Int))||decide (7≤U (i*12+11)))
def slV (V:Nat→Int):Nat→Int:=fun i=>if i=7 then 0 else if i=6 then 0 else if i=11 then 8 else V i
def slF (G:Nat→Int) (g:Nat):Nat→(Nat→Int)→Nat→Int:=fun i V=>bif decide (G i=(g:Int)) then slV V else V
def sleepS (G:Nat→Int) (A:Nat→Bool) (n g:Nat) (U:Nat→Int):Nat→Int:=bif A g&&allQ G U g n then mapR (slF G g) U n else U
def sleepN (G:Nat→Int) (A:Nat→Bool) (n:Nat) (U:Nat→Int):Nat→Nat→Int
 |0=>U
 |g+1=>sleepS G A n g (sleepN G A n U g)
theorem mapR_sl {f:Nat→(Nat→Int)→Nat→Int} {U:Nat→Int} {k:Nat} (h:f k (fun j=>U (k*12+j))=slV (fun j=>U (k*12+j))):(fun r=>if r=k*12+7 then 0 else if r=k*12+6 then 0 else if r=k*12+11 then 8 else mapR f U k r)=mapR f U (k+1):=by
 rw[←mapR_set,h]
 funext q
 unfold putRow slV
 by_cases e:k*12≤q∧q<k*12+12
 · rw[if_pos e]
   obtain⟨d,rfl⟩:∃ d,q=k*12+d:=⟨q-k*12,by omega⟩
   rw[Nat.add_sub_cancel_left,mapR_row]
   by_cases e1:d=7
   · rw[if_pos (by omega),if_pos e1]
   · rw[if_neg (by omega),if_neg e1]
     by_cases e2:d=6
     · rw[if_pos (by omega),if_pos e2]
     · rw[if_neg (by omega),if_neg e2]
       by_cases e3:d=11
       · rw[if_pos (by omega),if_pos e3]
       · rw[if_neg (by omega),if_neg e3]
 · rw[if_neg e,if_neg (by omega),if_neg (by omega),if_neg (by omega)]
def slU (b:Bool) (G:Nat→Int) (g:Nat) (U:Nat→Int) (i:Nat):Nat→Int:=bif b then mapR (slF G g) U i else U
theorem l9Sleep_any (a:Option Addr) (n c:Nat) (U:Nat→Int) (ag:Option Addr) (cg:Nat) (G:Nat→Int) (aa:Option Addr) (na ca:Nat) (A:Nat→Bool) (w:World) (h:Flat w a (n*12) U) (hn:n≤1048576) (hna:na≤1048576) (hG2:Flat w ag (n*1) G) (hA3:FlatB w aa na A):
 Calls Tryz.prog 47 #[.slice a n c,.slice ag n cg,.slice aa na ca] w fun e w'=>∃ a1 c1,e= .returned (.slice a1 n c1)∧OutL w w' 35 12 a1 n c1 (sleepN G A n U na):=by
 have hset:=cset_map
 go_enter Tryz.func47,Tryz.ntmps47
 go_upto_region 1 with fail
 go_cut [7] (fun s0 wc=>∃ a1 c1,s0= .slice a1 n c1∧OutL w wc 35 12 a1 n c1 U)
 case first=>
  go_wp2_with (go_at_call 80;refine(l8Copy_any a n c U _ h hn).mono ?_;rintro e w3 ⟨a1,c1,rfl,hO⟩)
  go_meet
  exact⟨_,_,rfl,hO⟩
 case rest=>
 obtain⟨a1,c1,rfl,hO⟩:=hcut
 go_upto_region 3 with fail
 go_loopw [8,9,10,11] (fun s _ _ _ wr=>∃ g:Nat,g≤na∧s= .int .i64 (g:Int)∧OutL w wr 35 12 a1 n c1 (sleepN G A n U g)) (fun s _ _ _ _=>na-(intOf s).toNat)
 case atStart=>exact⟨0,Nat.zero_le _,rfl,hO⟩
 case round=>
  clear hO
  obtain⟨g,hg,rfl,hO⟩:=hrel
  by_cases hlt:g<na
  · have hgn:(g:Int)<(na:Int):=by omega
    obtain⟨b3,o3,e3,hbl3,hc3⟩:=hA3 (by omega)
    have r3:=(hO.bel.cell (p:=⟨b3,o3+g,none⟩) hbl3).trans (hc3 g hlt)
    clear hc3
    subst e3
    obtain⟨aw,haw⟩:∃ z,A g=z:=⟨_,rfl⟩
    rw[haw] at r3
    obtain⟨X,hX⟩:∃ X,sleepN G A n U g=X:=⟨_,rfl⟩
    have HN:Shut (sleepN G A n U (g+1)=sleepS G A n g X):=by show _=_;rw[sleepN,hX]
    rw[hX] at hO
    clear hX
    cases aw with
    | false=>
      have HNO:Shut (sleepN G A n U (g+1)=X):=by show _=_;rw[HN.out];unfold sleepS;rw[haw];rfl
      clear haw
      go_wp2_with fail
      go_roundw
      case rel=>exact⟨g+1,by omega,by go_num,by rw[HNO.out];exact hO⟩
      case measure=>simp[intOf];omega
    | true=>
      have HYE:Shut (sleepN G A n U (g+1)=slU (allQ G X g n) G g X n):=by show _=_;rw[HN.out];unfold sleepS slU;rw[haw];rfl
      clear haw HN
      go_upto_region 8 with fail
      go_loopw [9,10] (fun s9 s10 wq=>∃ i:Nat,i≤n∧s10= .int .i64 (i:Int)∧s9= .bool (allQ G X g i)∧wq=wr) (fun _ s10 _=>n-(intOf s10).toNat)
      case atStart=>exact⟨0,Nat.zero_le _,rfl,rfl,rfl⟩
      case round=>
       obtain⟨i,hi,rfl,rfl,rfl⟩:=hrel
       by_cases hil:i<n
       · have hin:(i:Int)<(n:Int):=by omega
         obtain⟨b2,o2,e2,hbl2,hc2⟩:=(hG2.below hO.bel) (by omega)
         have r2:=hc2 i (by omega)
         clear hc2
         subst e2
         obtain⟨gb,rfl,hg1,hg2⟩:=hO.own.loc (by omega)
         have u11:=hO.own.cellq (q:=i*12+11) (by omega)
         obtain⟨AL,hAL⟩:∃ b,allQ G X g i=b:=⟨_,rfl⟩
         have HQ:Shut (allQ G X g (i+1)=(AL&&(!decide (G i=(g:Int))||decide (7≤X (i*12+11))))):=by show _=_;rw[allQ,hAL]
         rw[hAL]
         clear hAL
         cases AL with
         | false=>
           go_wp2_with fail
           go_roundw
           case rel=>exact⟨i+1,by omega,by go_num,congrArg Value.bool (by rw[HQ.out];rfl),by trivial⟩
           case measure=>simp[intOf];omega
         | true=>
           by_cases e:G i=(g:Int)
           · have e4:(G i !=(g:Int))=false:=by simp[e]
             have e5:(G i==(g:Int))=true:=by simp[e]
             have E:Shut (G i=(g:Int)):=e
             clear e
             by_cases q7:7≤X (i*12+11)
             · go_wp2_with fail
               go_roundw
               case rel=>exact⟨i+1,by omega,by go_num,congrArg Value.bool (by rw[HQ.out,decide_eq_true E.out,decide_eq_true q7];rfl),by trivial⟩
               case measure=>simp[intOf];omega
             · go_wp2_with fail
               go_roundw
               case rel=>exact⟨i+1,by omega,by go_num,congrArg Value.bool (by rw[HQ.out,decide_eq_true E.out,decide_eq_false q7];rfl),by trivial⟩
               case measure=>simp[intOf];omega
           · have e4:(G i !=(g:Int))=true:=by simp[e]
             have e5:(G i==(g:Int))=false:=by simp[e]
             go_wp2_with fail
             go_roundw
             case rel=>exact⟨i+1,by omega,by go_num,congrArg Value.bool (by rw[HQ.out,decide_eq_false e];rfl),by trivial⟩
             case measure=>simp[intOf];omega
       · obtain rfl:i=n:=by omega
         obtain⟨AL,hAL⟩:∃ b,allQ G X g i=b:=⟨_,rfl⟩
         rw[hAL] at HYE
         rw[hAL]
         clear hAL
         go_upto_region 12 with fail
         go_loopw [11] (fun s wq=>∃ k:Nat,k≤i∧s= .int .i64 (k:Int)∧OutL w wq 35 12 a1 i c1 (slU AL G g X k)) (fun s _=>i-(intOf s).toNat)
         case atStart=>exact⟨0,Nat.zero_le _,rfl,by unfold slU;cases AL;exact hO;rw[mapR_0];exact hO⟩
         case round=>
          clear hO
          obtain⟨k,hk,rfl,hO⟩:=hrel
          by_cases hkl:k<i
          · have hkn:(k:Int)<(i:Int):=by omega
            cases AL with
            | false=>
              go_wp2_with fail
              go_roundw
              case rel=>exact⟨k+1,by omega,by go_num,hO⟩
              case measure=>simp[intOf];omega
            | true=>
              obtain⟨b2,o2,e2,hbl2,hc2⟩:=(hG2.below hO.bel) (by omega)
              have r2:=hc2 k (by omega)
              clear hc2
              subst e2
              by_cases e:G k=(g:Int)
              · have e5:(G k==(g:Int))=true:=by simp[e]
                have e6:(G k=(g:Int))=True:=eq_true e
                have HS:Shut ((fun r=>if r=k*12+7 then 0 else if r=k*12+6 then 0 else if r=k*12+11 then 8 else mapR (slF G g) X k r)=mapR (slF G g) X (k+1)):=mapR_sl (by unfold slF;rw[decide_eq_true e];rfl)
                clear e
                obtain⟨gb,rfl,hg1,hg2⟩:=hO.own.loc (by omega)
                have hO':OutL w wr 35 12 (some ⟨gb,0,none⟩) i c1 (mapR (slF G g) X k):=hO
                have uf:=hO'.own.fro
                have u6:=hO'.own.cellq (q:=k*12+6) (by omega)
                have u7:=hO'.own.cellq (q:=k*12+7) (by omega)
                have u11:=hO'.own.cellq (q:=k*12+11) (by omega)
                go_wp2_with fail
                have q1:=((hO'.own.setq (k*12+11) (by omega) 8).setq (k*12+6) (by omega) 0).setq (k*12+7) (by omega) 0
                rw[HS.out] at q1
                have qB:Below w.heap.size w (((wr.setCell ⟨gb,k*12+11,none⟩ (.int .i64 8)).setCell ⟨gb,k*12+6,none⟩ (.int .i64 0)).setCell ⟨gb,k*12+7,none⟩ (.int .i64 0)):=((hO'.bel.setCell hg1 _).setCell hg1 _).setCell hg1 _
                go_roundw
                case rel=>exact⟨k+1,by omega,by go_num,qB,q1⟩
                case measure=>simp[intOf];omega
              · have e5:(G k==(g:Int))=false:=by simp[e]
                have HNO:Shut (mapR (slF G g) X (k+1)=mapR (slF G g) X k):=mapR_same (fun j hj=>by unfold slF;rw[decide_eq_false e];rfl)
                go_wp2_with fail
                go_roundw
                case rel=>exact⟨k+1,by omega,by go_num,by show OutL _ _ _ _ _ _ _ (mapR (slF G g) X (k+1));rw[HNO.out];exact hO⟩
                case measure=>simp[intOf];omega
          · obtain rfl:k=i:=by omega
            go_wp2_with fail
            go_roundw
            case rel=>exact⟨g+1,by omega,by go_num,by rw[HYE.out];exact hO⟩
            case measure=>simp[intOf];omega
  · obtain rfl:g=na:=by omega
    go_wp2_with fail
    go_ret
    exact⟨_,_,rfl,hO⟩
theorem wake_ok {V:Nat→Int} (b:Bool) (h:BOk V):BOk (wakeV b V):=by
 unfold wakeV
 cases hl:(b&&decide (8≤V 11)) with
 |false=>exact h
 | true=>
   simp only[Bool.and_eq_true,decide_eq_true_eq] at hl
   obtain⟨a0,a1,a2,a3,a4,a5,a6,a7,a8,a9,b0,b1⟩:=h
   have m8:V 8≠0:=fun e=>by have:=b0 e;omega
   show BOk (setV V 11 0)
   have e:∀ j,j≠11→setV V 11 0 j=V j:=fun j hj=>setV_ne hj
   have eb:setV V 11 0 11=0:=setV_eq
   generalize setV V 11 0=W at e eb
   have w0:=e 0 (by decide)
   have w1:=e 1 (by decide)
   have w2:=e 2 (by decide)
   have w3:=e 3 (by decide)
   have w4:=e 4 (by decide)
   have w5:=e 5 (by decide)
   have w6:=e 6 (by decide)
   have w7:=e 7 (by decide)
   have w8:=e 8 (by decide)
   have w9:=e 9 (by decide)
   have wa:=e 10 (by decide)
   exact⟨by rw[w0];exact a0,by rw[w1,w2,w3];exact a1,by rw[w4];exact a2,by rw[w5];exact a3,by rw[w6];exact a4,by rw[w7];exact a5,by rw[w8];exact a6,by rw[w9];exact a7,by rw[wa];exact a8,by rw[eb];omega,by rw[eb];exact fun _=>rfl,.inl ⟨by rw[w8];exact m8,by rw[eb];decide⟩⟩
theorem sl_ok {V:Nat→Int} (h:BOk V) (m8:V 8≠0):BOk (slV V):=by
 obtain⟨a0,a1,a2,a3,a4,a5,a6,a7,a8,a9,b0,b1⟩:=h
 have e:∀ j,j≠7→j≠6→j≠11→slV V j=V j:=fun j h1 h2 h3=>by unfold slV;rw[if_neg h1,if_neg h2,if_neg h3]
 have e7:slV V 7=0:=rfl
 have e6:slV V 6=0:=rfl
 have eb:slV V 11=8:=rfl
 generalize slV V=W at e e7 e6 eb
 have w0:=e 0 (by decide) (by decide) (by decide)
 have w1:=e 1 (by decide) (by decide) (by decide)
 have w2:=e 2 (by decide) (by decide) (by decide)
 have w3:=e 3 (by decide) (by decide) (by decide)
 have w4:=e 4 (by decide) (by decide) (by decide)
 have w5:=e 5 (by decide) (by decide) (by decide)
 have w8:=e 8 (by decide) (by decide) (by decide)
 have w9:=e 9 (by decide) (by decide) (by decide)
 have wa:=e 10 (by decide) (by decide) (by decide)
 exact⟨by rw[w0];exact a0,by rw[w1,w2,w3];exact a1,by rw[w4];exact a2,by rw[w5];exact a3,by rw[e6];omega,by rw[e7];omega,by rw[w8];exact a6,by rw[w9];exact a7,by rw[wa];exact a8,by rw[eb];omega,by rw[w8];exact fun q=>absurd q m8,.inr ⟨e6,e7⟩⟩
theorem Bods.wake {n:Nat} {U G:Nat→Int} {A:Nat→Bool} (h:Bods n U):Bods n (mapR (fun i V=>wakeV (awK G A i) V) U n):=
 h.map (fun k hk=>(wake_ok _ (h.row hk)).to) (fun k hk=>by show wakeV _ (fun j=>U (k*12+j)) 0=_;unfold wakeV;cases (awK G A k&&decide (8≤(fun j=>U (k*12+j)) 11))<;>rfl)
theorem slF_8 (G:Nat→Int) (g i:Nat) (V:Nat→Int):slF G g i V 8=V 8:=by unfold slF;cases decide (G i=(g:Int))<;>rfl
theorem Bods.sleepS {n:Nat} {U G:Nat→Int} {A:Nat→Bool} (h:Bods n U) (hG:∀ k,k<n→0≤G k→U (k*12+8)≠0) (g:Nat):Bods n (sleepS G A n g U)∧∀ k,k<n→sleepS G A n g U (k*12+8)=U (k*12+8):=by
 unfold Go.Proofs.YthajilkjfkppoaaGreatDoor.sleepS
 cases (A g&&allQ G U g n) with
 |false=>exact⟨h,fun k hk=>rfl⟩
 | true=>
   refine⟨h.map (fun k hk=> ?_) (fun k hk=> ?_),fun k hk=>(mapR_in hk (by omega)).trans (slF_8 G g k _)⟩
   · unfold slF
     by_cases e:G k=(g:Int)
     · rw[decide_eq_true e];exact(sl_ok (h.row hk) (hG k hk (by omega))).to
     · rw[decide_eq_false e];exact h.ok k hk
   · unfold slF;cases decide (G k=(g:Int))<;>rfl
theorem Bods.sleep {n:Nat} {U G:Nat→Int} {A:Nat→Bool} (h:Bods n U) (hG:∀ k,k<n→0≤G k→U (k*12+8)≠0):∀ g,Bods n (sleepN G A n U g)∧∀ k,k<n→sleepN G A n U g (k*12+8)=U (k*12+8)
 |0=>⟨h,fun k hk=>rfl⟩
 | g+1=>by
   obtain⟨h1,h2⟩:=Bods.sleep h hG g
   obtain⟨q1,q2⟩:=Bods.sleepS (A:=A) h1 (fun k hk h0=>by rw[h2 k hk];exact hG k hk h0) g
   exact⟨q1,fun k hk=>(q2 k hk).trans (h2 k hk)⟩
def ApartDoes:Prop:=∀ (base g n c:Nat) (U:Nat→Int) (A B:Nat) (X Y D:Int) (w:World),OwnL w base 35 12 (.slice (some ⟨g,0,none⟩) n c) n U→n≤1048576→A<n→B<n→Bods n U→(-256≤X∧X≤256)→(-256≤Y∧Y≤256)→(0≤D∧D≤102400)→Calls Tryz.prog 82 #[.slice (some ⟨g,0,none⟩) n c,.agg #[.int .i64 (A:Int),.int .i64 (B:Int),.int .i64 X,.int .i64 Y,.int .i64 D]] w fun e w'=>e= .returned (.tuple #[])∧OwnL w' base 35 12 (.slice (some ⟨g,0,none⟩) n c) n (apartU U A B X Y D)∧Fr (fun b=>b=g) w w'
theorem l8Aparts_of (HA:ApartDoes) (a:Option Addr) (n c:Nat) (U:Nat→Int) (ac:Option Addr) (m cc:Nat) (C:Nat→Int) (w:World) (h:Flat w a (n*12) U) (hn:n≤1048576) (hm:m≤1048576) (h2:Flat w ac (m*5) C) (hbb:Bods n U) (hC:CtOk n m C):
 Calls Tryz.prog 45 #[.slice a n c,.slice ac m cc] w fun e w'=>∃ a1 c1,e= .returned (.slice a1 n c1)∧OutL w w' 35 12 a1 n c1 (apartN C U m):=by
 have hset:=cset_map
 go_enter Tryz.func45,Tryz.ntmps45
 go_upto_region 1 with fail
 go_cut [5] (fun s0 wc=>∃ a1 c1,s0= .slice a1 n c1∧OutL w wc 35 12 a1 n c1 U)
 case first=>
  go_wp2_with (go_at_call 80;refine(l8Copy_any a n c U _ h hn).mono ?_;rintro e w3 ⟨a1,c1,rfl,hO⟩)
  go_meet
  exact⟨_,_,rfl,hO⟩
 case rest=>
 obtain⟨a1,c1,rfl,hO⟩:=hcut
 go_upto_region 3 with fail
 go_loopw [6] (fun s wr=>∃ k:Nat,k≤m∧s= .int .i64 (k:Int)∧OutL w wr 35 12 a1 n c1 (apartN C U k)) (fun s _=>m-(intOf s).toNat)
 case atStart=>exact⟨0,Nat.zero_le _,rfl,hO⟩
 case round=>
  clear hO
  obtain⟨k,hk,rfl,hO⟩:=hrel
  by_cases hlt:k<m
  · have hkm:(k:Int)<(m:Int):=by omega
    have ca:=hC.a k hlt
    have cb:=hC.b k hlt
    have cx:=hC.x k hlt
    have cy:=hC.y k hlt
    have cd:=hC.d k hlt
    have hB:=(hbb.aparts hC k hk).1
    obtain⟨b2,o2,e2,hbl2,hc2⟩:=(h2.below hO.bel) (by omega)
    have r0:=hc2 (k*5) (by omega)
    have r1:=hc2 (k*5+1) (by omega)
    have r2:=hc2 (k*5+2) (by omega)
    have r3:=hc2 (k*5+3) (by omega)
    have r4:=hc2 (k*5+4) (by omega)
    simp only[←Nat.add_assoc] at r0 r1 r2 r3 r4
    clear hc2
    subst e2
    have HN:Shut (apartN C U (k+1)=apartU (apartN C U k) (C (k*5)).toNat (C (k*5+1)).toNat (C (k*5+2)) (C (k*5+3)) (C (k*5+4))):=by show _=_;rw[apartN]
    obtain⟨A,hA⟩:∃ A:Nat,C (k*5)=(A:Int):=⟨(C (k*5)).toNat,by omega⟩
    obtain⟨B,hBB⟩:∃ B:Nat,C (k*5+1)=(B:Int):=⟨(C (k*5+1)).toNat,by omega⟩
    rw[hA,hBB,Int.toNat_natCast,Int.toNat_natCast] at HN
    rw[hA] at ca r0
    rw[hBB] at cb r1
    clear hA hBB
    obtain⟨g,rfl,hg1,hg2⟩:=hO.own.loc (by omega)
    go_wp2_with (go_at_call 82;refine(HA w.heap.size g n c1 (apartN C U k) A B _ _ _ _ hO.own hn (by omega) (by omega) hB cx cy cd).mono ?_;rintro e w5 ⟨rfl,ho5,hf5⟩)
    have hB5:Below w.heap.size w w5:=hO.bel.trans (hf5.below (by have:=hO.bel.size;omega) (fun b e=>by omega))
    go_roundw
    case rel=>exact⟨k+1,by omega,by go_num,hB5,by rw[HN.out];exact ho5⟩
    case measure=>simp[intOf];omega
  · obtain rfl:k=m:=by omega
    go_wp2_with fail
    go_ret
    exact⟨_,_,rfl,hO⟩
end Go.Proofs.YthajilkjfkppoaaGreatDoor
