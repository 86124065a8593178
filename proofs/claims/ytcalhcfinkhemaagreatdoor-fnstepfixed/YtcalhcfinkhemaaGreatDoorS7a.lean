/- Texts of a proof. -/
import Derived.Test.YtcalhcfinkhemaaGreatDoorB33
import Derived.Test.YtcalhcfinkhemaaGreatDoorB19
import Derived.Deep.RegionHeld3
import Derived.Deep.DeepCutAuto
set_option maxHeartbeats 16000000
set_option maxRecDepth 20000
namespace Go.Proofs.YtcalhcfinkhemaaGreatDoor
open Go.RowKit
set_option linter.unusedVariables false
set_option linter.unusedSimpArgs false
def BV (l:List Bool):List Value:=l.map Value.bool
theorem BV_app (l:List Bool) (x:Bool):BV l++[.bool x]=BV (l++[x]):=by unfold BV;rw[List.map_append];rfl
theorem BV_set (l:List Bool) (j:Nat) (x:Bool):(BV l).set j (.bool x)=BV (l.set j x):=by unfold BV;rw[List.map_set]
theorem BV_len (l:List Bool):(BV l).length=l.length:=by unfold BV;rw[List.length_map]
theorem BV_get {l:List Bool} {j:Nat} (h:j<l.length):(BV l)[j]? =some (.bool (l.getD j false)):=by
 unfold BV
 rw[List.getElem?_map,List.getElem?_eq_getElem h,List.getD_eq_getElem?_getD,List.getElem?_eq_getElem h]
 rfl
theorem LV.bc {w wr:World} {t g cap n:Nat} {l:List Bool} (h:LV w wr t g cap n (BV l)) {j:Nat} (hj:j<n):wr.cell? ⟨g,j,none⟩=some (.bool (l.getD j false)):=by
 have hl:=h.len
 rw[BV_len] at hl
 exact h.cell (BV_get (by omega))
theorem LV.flatB {w wr:World} {t g cap n:Nat} {l:List Bool} (h:LV w wr t g cap n (BV l)):FlatB wr (some ⟨g,0,none⟩) n (fun j=>l.getD j false):=by
 intro h0
 exact⟨g,0,rfl,h.lt.2,fun j hj=>by rw[Nat.zero_add];exact h.bc hj⟩
abbrev zcBool:Value:= .bool false
theorem infoBool:(Tryz.prog.info? 4).map (fun i=>(i.zero,i.size,i.bytes))=some (some zcBool,1,1):=by kernel_rfl
def awP (l:List Bool) (g:Int) (s:Bool):List Bool:=
 let l1:=bif decide (g=(l.length:Int)) then l++[false] else l
 bif decide (0≤g) then l1.set g.toNat (l1.getD g.toNat false||s) else l1
def awL (U G:Nat→Int):Nat→List Bool
 |0=>[]
 |i+1=>awP (awL U G i) (G i) (!decide (8≤U (i*12+11)))
theorem awP_m (l:List Bool) (g:Int) (s:Bool) (h:g<0):awP l g s=l:=by
 unfold awP
 rw[decide_eq_false (by omega:¬ g=(l.length:Int)),decide_eq_false (by omega:¬ 0≤g)]
 rfl
theorem awP_n (l:List Bool) (s:Bool):awP l (l.length:Int) s=(l++[false]).set l.length s:=by
 unfold awP
 rw[decide_eq_true rfl,decide_eq_true (by omega:(0:Int)≤(l.length:Int))]
 simp
theorem awP_o (l:List Bool) (q:Nat) (s:Bool) (h:q<l.length):awP l (q:Int) s=l.set q (l.getD q false||s):=by
 unfold awP
 rw[decide_eq_false (by omega:¬ (q:Int)=(l.length:Int)),decide_eq_true (by omega:(0:Int)≤(q:Int))]
 simp
theorem awP_len (l:List Bool) (g:Int) (s:Bool):l.length≤(awP l g s).length∧(awP l g s).length≤l.length+1:=by
 unfold awP
 cases decide (g=(l.length:Int))<;>cases decide (0≤g)<;>simp
theorem awL_len (U G:Nat→Int):∀ i,(awL U G i).length≤i
 |0=>Nat.le_refl _
 | i+1=>by
   have:=awL_len U G i
   have:=(awP_len (awL U G i) (G i) (!decide (8≤U (i*12+11)))).2
   rw[awL];omega
theorem row12 {w:World} {b o n i:Nat} {U:Nat→Int} (h:∀ q,q<n→w.cell? ⟨b,o+q,none⟩=some (.int .i64 (U q))) (hi:i*12+11<n):w.cell? ⟨b,o+i*12,none⟩=some (.int .i64 (U (i*12)))∧w.cell? ⟨b,o+i*12+1,none⟩=some (.int .i64 (U (i*12+1)))∧w.cell? ⟨b,o+i*12+2,none⟩=some (.int .i64 (U (i*12+2)))∧w.cell? ⟨b,o+i*12+3,none⟩=some (.int .i64 (U (i*12+3)))∧w.cell? ⟨b,o+i*12+4,none⟩=some (.int .i64 (U (i*12+4)))∧w.cell? ⟨b,o+i*12+5,none⟩=some (.int .i64 (U (i*12+5)))∧w.cell? ⟨b,o+i*12+6,none⟩=some (.int .i64 (U (i*12+6)))∧w.cell? ⟨b,o+i*12+7,none⟩=some (.int .i64 (U (i*12+7)))∧w.cell? ⟨b,o+i*12+8,none⟩=some (.int .i64 (U (i*12+8)))∧w.cell? ⟨b,o+i*12+9,none⟩=some (.int .i64 (U (i*12+9)))∧w.cell? ⟨b,o+i*12+10,none⟩=some (.int .i64 (U (i*12+10)))∧w.cell? ⟨b,o+i*12+11,none⟩=some (.int .i64 (U (i*12+11))):=by
 have g:=fun j (hj:j<12)=>h (i*12+j) (by omega)
 simp only[←Nat.add_assoc] at g
 exact⟨g 0 (by decide),g 1 (by decide),g 2 (by decide),g 3 (by decide),g 4 (by decide),g 5 (by decide),g 6 (by decide),g 7 (by decide),g 8 (by decide),g 9 (by decide),g 10 (by decide),g 11 (by decide)⟩
theorem l7Awake_any (a:Option Addr) (n c:Nat) (U:Nat→Int) (ag:Option Addr) (cg:Nat) (G:Nat→Int) (w:World) (h:Flat w a (n*12) U) (hn:n≤1000) (hG2:Flat w ag (n*1) G) (hGb:∀ i,i<n→ -1≤G i∧G i≤((awL U G i).length:Int)):
 Calls Tryz.prog 46 #[.slice a n c,.slice ag n cg] w fun e w'=>∃ g1 c1 na,e= .returned (.slice (some ⟨g1,0,none⟩) na c1)∧na=(awL U G n).length∧LV w w' 4 g1 c1 na (BV (awL U G n)):=by
 have hset:=cset_map
 have L1:=LV.new (w:=w) 4 (Below.refl _ w) rfl
 go_enter Tryz.func46,Tryz.ntmps46
 go_upto_region 3 with fail
 go_loopw [5,6] (fun s5 s6 wr=>∃ (i g1 c1 na:Nat),i≤n∧s6= .int .i64 (i:Int)∧s5= .slice (some ⟨g1,0,none⟩) na c1∧na=(awL U G i).length∧LV w wr 4 g1 c1 na (BV (awL U G i))) (fun _ s6 _=>n-(intOf s6).toNat)
 case atStart=>exact⟨0,_,_,_,Nat.zero_le _,rfl,rfl,rfl,L1⟩
 case round=>
  clear L1
  obtain⟨i,g1,c1,na,hi,rfl,rfl,hna,H1⟩:=hrel
  by_cases hlt:i<n
  · have hin:(i:Int)<(n:Int):=by omega
    have gb:=hGb i hlt
    have hal:=awL_len U G i
    obtain⟨SL,hSL⟩:∃ b,decide (8≤(fun j=>U (i*12+j)) 11)=b:=⟨_,rfl⟩
    have HAW:Shut (awL U G (i+1)=awP (awL U G i) (G i) (!SL)):=by show _=_;rw[awL,←hSL]
    generalize awL U G i=l at H1 HAW gb hna hal
    have hl:l.length=na:=hna.symm
    rw[hl] at gb hal
    clear hna
    obtain⟨b0,o0,e0,hbl0,hc0⟩:=(h.below H1.bel) (by omega)
    obtain⟨b2,o2,e2,hbl2,hc2⟩:=(hG2.below H1.bel) (by omega)
    have rG:=hc2 i (by omega)
    subst e0 e2
    obtain⟨r0,r1,r2,r3,r4,r5,r6,r7,r8,r9,r10,r11⟩:=row12 (i:=i) hc0 (by omega)
    have hll:=H1.lt
    have yf:=H1.fro
    clear hc0 hc2
    by_cases hgm:G i<0
    · have hq:G i= -1:=by omega
      have HA:Shut (awL U G (i+1)=l):=by show _=_;rw[HAW.out];exact awP_m l _ _ hgm
      rw[hq] at rG
      have e1:((-1:Int)==(na:Int))=false:=by first|(simp;done)|(simp;omega)
      clear gb hgm
      go_wp2_with fail
      go_roundw
      case rel=>exact⟨i+1,g1,c1,na,by omega,by go_num,rfl,by rw[HA.out];exact hl.symm,by rw[HA.out];exact H1⟩
      case measure=>simp[intOf];omega
    · obtain⟨q,hq⟩:∃ q:Nat,G i=(q:Int):=⟨(G i).toNat,by omega⟩
      rw[hq] at rG gb
      have hq0:(0:Int)≤(q:Int):=by omega
      by_cases hqn:q<na
      · have hqi:(q:Int)<(na:Int):=by omega
        have e1:((q:Int)==(na:Int))=false:=by first|(simp;done)|(simp;omega)
        cases hold:l.getD q false with
        | true=>
          have yo:wr.cell? ⟨g1,q,none⟩=some (.bool true):=by have:=H1.bc hqn;rw[hold] at this;exact this
          have HA:Shut (awL U G (i+1)=l.set q true):=by show _=_;rw[HAW.out,hq,awP_o l q _ (by omega),hold];rfl
          clear HAW
          go_upto_region 8 with fail
          refine wp_region_held_drew (S:=fun w'=>w'.cell? ⟨b2,o2+i,none⟩=some (.int .i64 (q:Int))∧w'.cell? ⟨b0,o0+i*12,none⟩=some (.int .i64 (U (i*12)))∧w'.cell? ⟨b0,o0+i*12+1,none⟩=some (.int .i64 (U (i*12+1)))∧w'.cell? ⟨b0,o0+i*12+2,none⟩=some (.int .i64 (U (i*12+2)))∧w'.cell? ⟨b0,o0+i*12+3,none⟩=some (.int .i64 (U (i*12+3)))∧w'.cell? ⟨b0,o0+i*12+4,none⟩=some (.int .i64 (U (i*12+4)))∧w'.cell? ⟨b0,o0+i*12+5,none⟩=some (.int .i64 (U (i*12+5)))∧w'.cell? ⟨b0,o0+i*12+6,none⟩=some (.int .i64 (U (i*12+6)))∧w'.cell? ⟨b0,o0+i*12+7,none⟩=some (.int .i64 (U (i*12+7)))∧w'.cell? ⟨b0,o0+i*12+8,none⟩=some (.int .i64 (U (i*12+8)))∧w'.cell? ⟨b0,o0+i*12+9,none⟩=some (.int .i64 (U (i*12+9)))∧w'.cell? ⟨b0,o0+i*12+10,none⟩=some (.int .i64 (U (i*12+10)))∧w'.cell? ⟨b0,o0+i*12+11,none⟩=some (.int .i64 (U (i*12+11)))) (by kernel_rfl) ?_ (fun hHeld=> ?_)
          · (try dsimp only)
            (first|(go_simp;done)|(go_keep;done))
          refine tq 0 hHeld ?_
          refine tq 1 hHeld ?_
          refine tq 2 hHeld ?_
          refine tq 3 hHeld ?_
          refine tq 4 hHeld ?_
          refine tq 5 hHeld ?_
          refine tq 6 hHeld ?_
          refine tq 7 hHeld ?_
          refine tq 8 hHeld ?_
          refine tq 9 hHeld ?_
          refine tq 10 hHeld ?_
          refine tc 11 fun K hK=> ?_
          (go_simp
           refine tr hK (fun hHeld=> ?_)
           clear hK K)
          refine tq 12 hHeld ?_
          refine tn 13 hHeld ?_
          refine tn 14 hHeld ?_
          refine tn 15 hHeld ?_
          refine tn 16 hHeld ?_
          refine tn 17 hHeld ?_
          refine tn 18 hHeld ?_
          refine tq 19 hHeld ?_
          refine tq 20 hHeld ?_
          refine tc 21 fun K hK=> ?_
          (go_simp
           have H2:=H1.set q (.bool true)
           rw[BV_set] at H2
           have H2:=H2.dr
           have hh:=h.below H2.bel
           have hg:=hG2.below H2.bel
           clear rG r0 r1 r2 r3 r4 r5 r6 r7 r8 r9 r10 r11 yo yf H1
           generalize (wr.setCell ⟨g1,q,none⟩ (.bool true)).drew=w7 at H2 hh hg ⊢
           obtain⟨b0',o0',e0',_,hc0⟩:=hh (by omega)
           cases e0'
           obtain⟨b2',o2',e2',_,hc2⟩:=hg (by omega)
           cases e2'
           have rG:=hc2 i (by omega)
           rw[hq] at rG
           obtain⟨r0,r1,r2,r3,r4,r5,r6,r7,r8,r9,r10,r11⟩:=row12 (i:=i) hc0 (by omega)
           clear hc0 hc2
           refine tr hK (fun hHeld=> ?_)
           clear hK K)
          refine wpAnyH_done (by kernel_rfl) ?_ _
          go_wp2_with fail
          go_roundw
          case rel=>exact⟨i+1,g1,c1,na,by omega,by go_num,rfl,by rw[HA.out];rw[List.length_set];exact hl.symm,by rw[HA.out];exact H2⟩
          case measure=>simp[intOf];omega
        | false=>
          have yo:wr.cell? ⟨g1,q,none⟩=some (.bool false):=by have:=H1.bc hqn;rw[hold] at this;exact this
          have HA:Shut (awL U G (i+1)=l.set q (!SL)):=by show _=_;rw[HAW.out,hq,awP_o l q _ (by omega),hold];rfl
          clear HAW
          go_upto_region 8 with fail
          refine wp_region_held_drew (S:=fun w'=>w'.cell? ⟨b2,o2+i,none⟩=some (.int .i64 (q:Int))∧w'.cell? ⟨b0,o0+i*12,none⟩=some (.int .i64 (U (i*12)))∧w'.cell? ⟨b0,o0+i*12+1,none⟩=some (.int .i64 (U (i*12+1)))∧w'.cell? ⟨b0,o0+i*12+2,none⟩=some (.int .i64 (U (i*12+2)))∧w'.cell? ⟨b0,o0+i*12+3,none⟩=some (.int .i64 (U (i*12+3)))∧w'.cell? ⟨b0,o0+i*12+4,none⟩=some (.int .i64 (U (i*12+4)))∧w'.cell? ⟨b0,o0+i*12+5,none⟩=some (.int .i64 (U (i*12+5)))∧w'.cell? ⟨b0,o0+i*12+6,none⟩=some (.int .i64 (U (i*12+6)))∧w'.cell? ⟨b0,o0+i*12+7,none⟩=some (.int .i64 (U (i*12+7)))∧w'.cell? ⟨b0,o0+i*12+8,none⟩=some (.int .i64 (U (i*12+8)))∧w'.cell? ⟨b0,o0+i*12+9,none⟩=some (.int .i64 (U (i*12+9)))∧w'.cell? ⟨b0,o0+i*12+10,none⟩=some (.int .i64 (U (i*12+10)))∧w'.cell? ⟨b0,o0+i*12+11,none⟩=some (.int .i64 (U (i*12+11)))) (by kernel_rfl) ?_ (fun hHeld=> ?_)
          · (try dsimp only)
            (first|(go_simp;done)|(go_keep;done))
          refine tq 0 hHeld ?_
          refine tq 1 hHeld ?_
          refine tq 2 hHeld ?_
          refine tq 3 hHeld ?_
          refine tq 4 hHeld ?_
          refine tq 5 hHeld ?_
          refine tq 6 hHeld ?_
          refine tq 7 hHeld ?_
          refine tq 8 hHeld ?_
          refine tq 9 hHeld ?_
          refine tq 10 hHeld ?_
          refine tc 11 fun K hK=> ?_
          (go_simp
           refine tr hK (fun hHeld=> ?_)
           clear hK K)
          refine tq 12 hHeld ?_
          refine tq 13 hHeld ?_
          refine tq 14 hHeld ?_
          refine tq 15 hHeld ?_
          refine tq 16 hHeld ?_
          refine tc 17 fun K hK=> ?_
          (go_simp
           (go_at_call 41;refine(l6Sleeps_k (fun j=>U (i*12+j)) _ SL hSL).mono ?_;rintro e w5 ⟨rfl,hb5⟩)
           have hb5:=hb5.ofDr
           have H2:=H1.on hb5
           have hh:=h.below H2.bel
           have hg:=hG2.below H2.bel
           clear rG r0 r1 r2 r3 r4 r5 r6 r7 r8 r9 r10 r11 yo yf
           obtain⟨b0',o0',e0',_,hc0⟩:=hh (by omega)
           cases e0'
           obtain⟨b2',o2',e2',_,hc2⟩:=hg (by omega)
           cases e2'
           have rG:=hc2 i (by omega)
           rw[hq] at rG
           obtain⟨r0,r1,r2,r3,r4,r5,r6,r7,r8,r9,r10,r11⟩:=row12 (i:=i) hc0 (by omega)
           clear hc0 hc2
           have yf:=H2.fro
           have yo:=H2.bc hqn
           clear H1
           have H1:=H2
           clear H2
           (try go_wp2_with fail)
           refine tr hK (fun hHeld=> ?_)
           clear hK K)
          refine tq 18 hHeld ?_
          refine tq 19 hHeld ?_
          refine tq 20 hHeld ?_
          refine tc 21 fun K hK=> ?_
          (go_simp
           have H2:=H1.set q (.bool (!SL))
           rw[BV_set] at H2
           have hh:=h.below H2.bel
           have hg:=hG2.below H2.bel
           clear rG r0 r1 r2 r3 r4 r5 r6 r7 r8 r9 r10 r11 yo yf H1
           generalize (w5.setCell ⟨g1,q,none⟩ (.bool (!SL)))=w7 at H2 hh hg ⊢
           obtain⟨b0',o0',e0',_,hc0⟩:=hh (by omega)
           cases e0'
           obtain⟨b2',o2',e2',_,hc2⟩:=hg (by omega)
           cases e2'
           have rG:=hc2 i (by omega)
           rw[hq] at rG
           obtain⟨r0,r1,r2,r3,r4,r5,r6,r7,r8,r9,r10,r11⟩:=row12 (i:=i) hc0 (by omega)
           clear hc0 hc2
           refine tr hK (fun hHeld=> ?_)
           clear hK K)
          refine wpAnyH_done (by kernel_rfl) ?_ _
          go_wp2_with fail
          go_roundw
          case rel=>exact⟨i+1,g1,c1,na,by omega,by go_num,rfl,by rw[HA.out];rw[List.length_set];exact hl.symm,by rw[HA.out];exact H2⟩
          case measure=>simp[intOf];omega
      · obtain rfl:q=na:=by omega
        clear hqn
        have HA:Shut (awL U G (i+1)=(l++[false]).set q (!SL)):=by show _=_;rw[HAW.out,hq,←hl];exact awP_n l _
        clear HAW
        have hE:Below wr.heap.size wr (wr.alloc (Obj.cells #[.bool false] 4)):=(Below.refl _ _).alloc (Nat.le_refl _) _
        have hcE:(wr.alloc (Obj.cells #[.bool false] 4)).cell? ⟨wr.heap.size,0,none⟩=some (.bool false):=by go_simp
        go_upto_region 7 with(refine wpList_push rfl _ _ _ rfl 4 1 zcBool Tryz.underlying37 infoBool rfl (by decide) g1 c1 q (BV l) rfl H1 hE wr.heap.size rfl (.bool false) hcE rfl (by omega) ?_;intro g6 c6 w6 hp6 hg6 hl6)
        clear hE hcE hg6 hl6 yf rG r0 r1 r2 r3 r4 r5 r6 r7 r8 r9 r10 r11 H1
        have H1:=hp6
        rw[BV_app] at H1
        clear hp6
        have hh:=h.below H1.bel
        have hg:=hG2.below H1.bel
        obtain⟨b0',o0',e0',_,hc0⟩:=hh (by omega)
        cases e0'
        obtain⟨b2',o2',e2',_,hc2⟩:=hg (by omega)
        cases e2'
        have rG:=hc2 i (by omega)
        rw[hq] at rG
        obtain⟨r0,r1,r2,r3,r4,r5,r6,r7,r8,r9,r10,r11⟩:=row12 (i:=i) hc0 (by omega)
        clear hc0 hc2 hh hg
        have yf:=H1.fro
        have hqn:q<q+1:=Nat.lt_succ_self _
        have hqi:(q:Int)<((q+1:Nat):Int):=by omega
        have hqj:(q:Int)<(q:Int)+1:=by omega
        have yo:w6.cell? ⟨g6,q,none⟩=some (.bool false):=by
         have:=H1.bc hqn
         rw[List.getD_eq_getElem?_getD,List.getElem?_append_right (by omega),hl,Nat.sub_self] at this
         exact this
        go_upto_region 8 with fail
        refine wp_region_held_drew (S:=fun w'=>w'.cell? ⟨b2,o2+i,none⟩=some (.int .i64 (q:Int))∧w'.cell? ⟨b0,o0+i*12,none⟩=some (.int .i64 (U (i*12)))∧w'.cell? ⟨b0,o0+i*12+1,none⟩=some (.int .i64 (U (i*12+1)))∧w'.cell? ⟨b0,o0+i*12+2,none⟩=some (.int .i64 (U (i*12+2)))∧w'.cell? ⟨b0,o0+i*12+3,none⟩=some (.int .i64 (U (i*12+3)))∧w'.cell? ⟨b0,o0+i*12+4,none⟩=some (.int .i64 (U (i*12+4)))∧w'.cell? ⟨b0,o0+i*12+5,none⟩=some (.int .i64 (U (i*12+5)))∧w'.cell? ⟨b0,o0+i*12+6,none⟩=some (.int .i64 (U (i*12+6)))∧w'.cell? ⟨b0,o0+i*12+7,none⟩=some (.int .i64 (U (i*12+7)))∧w'.cell? ⟨b0,o0+i*12+8,none⟩=some (.int .i64 (U (i*12+8)))∧w'.cell? ⟨b0,o0+i*12+9,none⟩=some (.int .i64 (U (i*12+9)))∧w'.cell? ⟨b0,o0+i*12+10,none⟩=some (.int .i64 (U (i*12+10)))∧w'.cell? ⟨b0,o0+i*12+11,none⟩=some (.int .i64 (U (i*12+11)))) (by kernel_rfl) ?_ (fun hHeld=> ?_)
        · (try dsimp only)
          (first|(go_simp;done)|(go_keep;done))
        refine tq 0 hHeld ?_
        refine tq 1 hHeld ?_
        refine tq 2 hHeld ?_
        refine tq 3 hHeld ?_
        refine tq 4 hHeld ?_
        refine tq 5 hHeld ?_
        refine tq 6 hHeld ?_
        refine tq 7 hHeld ?_
        refine tq 8 hHeld ?_
        refine tq 9 hHeld ?_
        refine tq 10 hHeld ?_
        refine tc 11 fun K hK=> ?_
        (go_simp
         refine tr hK (fun hHeld=> ?_)
         clear hK K)
        refine tq 12 hHeld ?_
        refine tq 13 hHeld ?_
        refine tq 14 hHeld ?_
        refine tq 15 hHeld ?_
        refine tq 16 hHeld ?_
        refine tc 17 fun K hK=> ?_
        (go_simp
         (go_at_call 41;refine(l6Sleeps_k (fun j=>U (i*12+j)) _ SL hSL).mono ?_;rintro e w5 ⟨rfl,hb5⟩)
         have hb5:=hb5.ofDr
         have H2:=H1.on hb5
         have hh:=h.below H2.bel
         have hg:=hG2.below H2.bel
         clear rG r0 r1 r2 r3 r4 r5 r6 r7 r8 r9 r10 r11 yo yf
         obtain⟨b0',o0',e0',_,hc0⟩:=hh (by omega)
         cases e0'
         obtain⟨b2',o2',e2',_,hc2⟩:=hg (by omega)
         cases e2'
         have rG:=hc2 i (by omega)
         rw[hq] at rG
         obtain⟨r0,r1,r2,r3,r4,r5,r6,r7,r8,r9,r10,r11⟩:=row12 (i:=i) hc0 (by omega)
         clear hc0 hc2
         have yf:=H2.fro
         have yo:=H2.bc hqn
         clear H1
         have H1:=H2
         clear H2
         (try go_wp2_with fail)
         refine tr hK (fun hHeld=> ?_)
         clear hK K)
        refine tq 18 hHeld ?_
        refine tq 19 hHeld ?_
        refine tq 20 hHeld ?_
        refine tc 21 fun K hK=> ?_
        (go_simp
         have H2:=H1.set q (.bool (!SL))
         rw[BV_set] at H2
         have hh:=h.below H2.bel
         have hg:=hG2.below H2.bel
         clear rG r0 r1 r2 r3 r4 r5 r6 r7 r8 r9 r10 r11 yo yf H1
         generalize (w5.setCell ⟨g6,q,none⟩ (.bool (!SL)))=w7 at H2 hh hg ⊢
         obtain⟨b0',o0',e0',_,hc0⟩:=hh (by omega)
         cases e0'
         obtain⟨b2',o2',e2',_,hc2⟩:=hg (by omega)
         cases e2'
         have rG:=hc2 i (by omega)
         rw[hq] at rG
         obtain⟨r0,r1,r2,r3,r4,r5,r6,r7,r8,r9,r10,r11⟩:=row12 (i:=i) hc0 (by omega)
         clear hc0 hc2
         refine tr hK (fun hHeld=> ?_)
         clear hK K)
        refine wpAnyH_done (by kernel_rfl) ?_ _
        go_wp2_with fail
        go_roundw
        case rel=>exact⟨i+1,g6,c6,(q+1),by omega,by go_num,rfl,by rw[HA.out];rw[List.length_set,List.length_append,hl];rfl,by rw[HA.out];exact H2⟩
        case measure=>simp[intOf];omega
  · obtain rfl:i=n:=by omega
    go_wp2_with fail
    go_ret
    exact⟨_,_,_,rfl,hna,H1⟩
end Go.Proofs.YtcalhcfinkhemaaGreatDoor
