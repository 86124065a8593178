/- Texts of a proof. -/
import Derived.Test.YtbdbbdjifgpgeaaGreatB49
import Derived.Test.YtbdbbdjifgpgeaaGreatB50
import Derived.Deep.RegionHeld3
import Derived.Deep.DeepCutAuto
set_option maxHeartbeats 16000000
set_option maxRecDepth 20000
namespace Go.Proofs.YtbdbbdjifgpgeaaGreat
open Go.RowKit
set_option linter.unusedVariables false
set_option linter.unusedSimpArgs false
theorem wpList_appG {P:Program} {ops:Array Oper} {o:Oper} {a:Act} {w:World} {Q:Exit→Act→World→Prop} {rest:List Oper} (hgd:o.guard=none) (s x:Operand) (t:TypeId)
 (ho:o.op= .call {callee:= .builtin .append,args:= #[s,x],argTypes:= #[t,t]})
 (base e k bytes:Nat) (z:Value) (ht:P.underlying t=some (.slice e)) (hinfo:(P.info? e).map (fun i=>(i.zero,i.size,i.bytes))=some (some z,k,bytes)) (hzs:z.cells.size=k) (hk:0<k)
 (v:Value) (n:Nat) (U:Nat→Int) (hs:a.eval s=v) (h:OwnL w base e k v n U) (B c:Nat) (X:Nat→Int) (hx:a.eval x= .slice (some ⟨B,0,none⟩) 1 c) (hv:∀ q,q<k→w.cell? ⟨B,q,none⟩=some (.int .i64 (X q)))
 (h63:n+1≤maxLen) (hbytes:(n+1)*bytes≤140737488355328) (hbase:base≤w.heap.size) (H:Nat) (hH:w.heap.size=H)
 (hK:∀ g cap w',OwnL w' base e k (.slice (some ⟨g,0,none⟩) (n+1) cap) (n+1) (cat (n*k) U X)→w.grownBy w' v.ownBlock→(v.ownBlock=some g∨g=H)→g<w'.heap.size→wpList P ops Q rest (a.put o.dst (.slice (some ⟨g,0,none⟩) (n+1) cap)) w'):wpList P ops Q (o::rest) a w:=
 wpList_plain hgd fun K hK'=>by
  have q:=step_appk (ops:=ops) (K:=K) (Q:=Q) (E:=True) hgd s x t ho base e k bytes z ht hinfo hzs hk v n U hs h B c X hx hv h63 hbytes hbase H hH (fun g cap w' h1 h2 h3 h4=>hK' _ _ (hK g cap w' h1 h2 h3 h4))
  rwa [if_pos (by simp[Region.wanted,hgd])] at q
theorem rwL_congr {C C':Nat→Nat→Int}:∀ m,(∀ i j,j<m→C i j=C' i j)→rwL C m=rwL C' m
 |0,_=>rfl
 |m+1,h=>by rw[rwL,rwL,rwL_congr m (fun i j hj=>h i j (by omega)),h 0 m (by omega),h 1 m (by omega),h 2 m (by omega),h 3 m (by omega),h 4 m (by omega),h 5 m (by omega),h 6 m (by omega),h 7 m (by omega),h 8 m (by omega),h 9 m (by omega),h 10 m (by omega),h 11 m (by omega)]
def rsL (U:Nat→Int) (s:List Nat):List Int:=rwL (selC (colOf U) s) s.length
theorem rsL_snoc (U:Nat→Int) (s:List Nat) (i:Nat):rsL U (s++[i])=rsL U s++[U (i*12),U (i*12+1),U (i*12+2),U (i*12+3),U (i*12+4),U (i*12+5),U (i*12+6),U (i*12+7),U (i*12+8),U (i*12+9),U (i*12+10),U (i*12+11)]:=by
 unfold rsL
 rw[show (s++[i]).length=s.length+1 by simp,rwL]
 congr 1
 · exact rwL_congr _ fun c j hj=>by
    unfold selC
    rw[List.getD_eq_getElem?_getD,List.getD_eq_getElem?_getD,List.getElem?_append_left hj]
 · simp[selC,colOf]
theorem rsL_len (U:Nat→Int) (s:List Nat):(rsL U s).length=s.length*12:=rwL_len _ _
def gofS (n:Nat) (U:Nat→Int) (q:Int):List Nat:=bif bodsB n U&&decide (0≤q) then selL (gofP (fxU U) (lab (edg U (ofL (conL (colOf U) n))) (conN n U)) q) n else []
theorem gofS_y {n:Nat} {U:Nat→Int} {q:Int} (h:bodsB n U=true) (hq:0≤q):gofS n U q=selL (gofP (fxU U) (lab (edg U (ofL (conL (colOf U) n))) (conN n U)) q) n:=by unfold gofS;rw[h,decide_eq_true hq];rfl
theorem gofS_n {n:Nat} {U:Nat→Int} {q:Int} (h:bodsB n U=false∨q<0):gofS n U q=[]:=by
 unfold gofS
 rcases h with h|h
 · rw[h];rfl
 · rw[decide_eq_false (by omega:¬ 0≤q),Bool.and_false];rfl
theorem gofS_len (n:Nat) (U:Nat→Int) (q:Int):(gofS n U q).length≤12:=by
 by_cases h:bodsB n U=true∧0≤q
 · rw[gofS_y h.1 h.2]
   exact Nat.le_trans (selL_le _ _) (bods_n h.1)
 · rw[gofS_n]
   · exact Nat.zero_le _
   · cases e:bodsB n U with
     |false=>exact .inl rfl
     |true=>exact .inr (by rw[e] at h;simp at h;omega)
theorem groupOfI_q (a:Option Addr) (n c:Nat) (U:Nat→Int) (q:Int) (N:Nat) (w:World) (h:Flat w a (n*12) U) (hn:n≤1048576) (hN:(gofS n U q).length=N):
 Calls Tryz.prog 5 #[.slice a n c,.int .i64 q] w fun e w'=>∃ a' c',e= .returned (.slice a' N c')∧OutL w w' 36 12 a' N c' (ofL (rsL U (gofS n U q))):=by
 have hset:=cset_map
 by_cases hh:bodsB n U=true∧0≤q
 · obtain⟨hok,hq⟩:=hh
   have h12:=bods_n hok
   obtain⟨hM,hMk⟩:=conN_eq U h12
   subst hN
   refine(groupOf_any a n c U q _ w h hok h12 hM (by omega) hq (gofS n U q) (gofS_y hok hq).symm).mono ?_
   rintro e w' ⟨a',c',rfl,hO⟩
   exact⟨a',c',rfl,hO.bel,hO.own.congr fun z hz=>(rwL_at _ _ z hz).symm⟩
 · have hno:bodsB n U=false∨q<0:=by
    cases e:bodsB n U with
    |false=>exact .inl rfl
    |true=>exact .inr (by rw[e] at hh;simp at hh;omega)
   rw[gofS_n hno] at hN ⊢
   obtain rfl:0=N:=hN
   have hE:Below w.heap.size w (w.alloc (Obj.cells #[.int .i64 q] 3)):=(Below.refl _ _).alloc (Nat.le_refl _) _
   have g0:(w.alloc (Obj.cells #[.int .i64 q] 3)).cell? ⟨w.heap.size,0,none⟩=some (.int .i64 q):=by go_simp
   have hfl:=h.below hE
   refine calls_of_wp_marks Tryz.func5 rfl ?_
   simp only[Tryz.ntmps5,List.size_toArray,List.length_cons,List.length_nil,Nat.reduceAdd,Nat.reduceSub,Array.replicate_succ,Array.replicate_zero,List.push_toArray,List.append_toArray,List.nil_append,List.cons_append]
   cases hok:bodsB n U with
   | false=>
     go_wp2_with (go_at_call 15;refine(columnsOf_no a n c U _ hfl hn hok).mono ?_;rintro e w1 ⟨rfl,hb1⟩)
     refine marks_ret0 (v:= .slice none 0 0) rfl ?_ ⟨none,0,rfl,hE.trans (hb1.mono (by simp)),OwnL.nil _ _ _ _ _⟩
     simp[results,Tryz.results5,go_sem, *]
   | true=>
     have hq:q<0:=by rcases hno with z|z;(· rw[hok] at z;cases z);exact z
     go_wp2_with (go_at_call 15;refine(columnsOf_ok a n c U _ hfl hn hok).mono ?_;rintro e w1 ⟨cb,S,rfl,hcb,hC,hb1⟩;have g1:=(hb1.cell (p:=⟨w.heap.size,0,none⟩) (by simp)).trans g0)
     refine marks_ret0 (v:= .slice none 0 0) rfl ?_ ⟨none,0,rfl,hE.trans (hb1.mono (by simp)),OwnL.nil _ _ _ _ _⟩
     simp[results,Tryz.results5,go_sem, *]
theorem groupOfS_q (a:Option Addr) (n c:Nat) (U:Nat→Int) (q:Int) (N:Nat) (w:World) (h:Flat w a (n*12) U) (hn:n≤1048576) (hN:(gofS n U q).length=N):
 Calls Tryz.prog 7 #[.slice a n c,.int .i64 q] w fun e w'=>∃ a' c',e= .returned (.slice a' N c')∧OutL w w' 36 12 a' N c' (ofL (rsL U (gofS n U q))):=by
 have hset:=cset_map
 have hE0:LsV w (w.alloc (.cells #[] 36)) 36 12 (some ⟨w.heap.size,0,none⟩) 0 0 []:=LsV.new w _ _
 have hf0:=h.below hE0.bel
 cases hok:bodsB n U with
 | false=>
   rw[gofS_n (.inl hok)] at hN ⊢
   obtain rfl:0=N:=hN
   go_enter Tryz.func7,Tryz.ntmps7
   go_wp2_with (go_at_call 8;refine(sBodiesOk_q a n c U false _ hf0 hn hok).mono ?_;rintro e w1 ⟨rfl,hb1⟩)
   go_ret
   exact⟨_,_,rfl,(hE0.below hb1).bel,(hE0.below hb1).own⟩
 | true=>
   by_cases hq:q<0
   · rw[gofS_n (.inr hq)] at hN ⊢
     obtain rfl:0=N:=hN
     go_enter Tryz.func7,Tryz.ntmps7
     go_wp2_with (go_at_call 8;refine(sBodiesOk_q a n c U true _ hf0 hn hok).mono ?_;rintro e w1 ⟨rfl,hb1⟩)
     go_ret
     exact⟨_,_,rfl,(hE0.below hb1).bel,(hE0.below hb1).own⟩
   · have h12:=bods_n hok
     obtain⟨hM,hMk⟩:=conN_eq U h12
     have hCt:=con_ct (colOf U) hM
     have hG0:=grpU_eq (U:=U) h12
     rw[gofS_y hok (by omega)] at hN ⊢
     have hT0:=lab_tops U (ofL (conL (colOf U) n)) (conN n U)
     generalize lab (edg U (ofL (conL (colOf U) n))) (conN n U)=L at hN hG0 hT0 ⊢
     unfold grpU at hG0
     obtain⟨P,hP⟩:∃ P,gofP (fxU U) L q=P:=⟨_,rfl⟩
     rw[hP] at hN ⊢
     have hPi:Shut (∀ i,i<n→P i=(decide (ofL (grpL U (ofL (conL (colOf U) n)) (conN n U) n) i=q)||decide (ofL (grpL U (ofL (conL (colOf U) n)) (conN n U) n) i<0))):=fun i hi=>by
      rw[hG0 i hi,←hP]
      unfold gofP gnum
      cases hx:fxU U i with
      |true=>simp
      | false=>
        rw[if_neg (by simp)]
        rw[decide_eq_false (by omega:¬ ((cntp (fstB (fxU U) L) (L i):Nat):Int)<0)]
        simp
     clear hG0 hT0 hP
     generalize hZ:grpL U (ofL (conL (colOf U) n)) (conN n U) n=Z at hPi
     generalize conN n U=M at hM hMk hCt hZ
     go_enter Tryz.func7,Tryz.ntmps7
     go_upto_region 6 with(first
      |(go_at_call 8;refine(sBodiesOk_q a n c U true _ hf0 hn hok).mono ?_;rintro e w1 ⟨rfl,hb1⟩)
      |(go_at_call 20;refine(l7Contacts_any a n c U _ (hf0.below hb1) hok h12).mono ?_;rintro e w2 ⟨a2,m2,c2,rfl,hl2,hO2⟩;obtain rfl:m2=M:=(by omega))
      |(go_at_call 19;refine(l7Groups_any a n c U a2 m2 c2 _ _ ((hf0.below hb1).below hO2.bel) (by omega) (by omega) hO2.own.flat hCt).mono ?_;rintro e w3 ⟨g3,c3,rfl,hO3⟩;rw[hZ] at hO3))
     have hL3:=((hE0.below hb1).below hO2.bel).below hO3.bel
     have hF3:=((hf0.below hb1).below hO2.bel).below hO3.bel
     have hG3:=hO3.flat
     have hgl:w.heap.size+1≤g3∧g3<w3.heap.size:=by have z:=hO3.lt;have z1:=hb1.size;have z2:=hO2.bel.size;simp only[World.size_alloc] at z1;omega
     clear hO3 hO2 hb1 hE0 hf0
     have hg3:w.heap.size+1≤g3∧g3<w3.heap.size:=hgl
     clear hgl
     go_loopw [5,7] (fun s5 s7 wr=>∃ (i:Nat) (a':Option Addr) (m c':Nat),i≤n∧s7= .int .i64 (i:Int)∧s5= .slice a' m c'∧LsV w wr 36 12 a' m c' (rsL U (selL P i))∧Flat wr a (n*12) U∧Flat wr (some ⟨g3,0,none⟩) (n*1) (ofL Z)∧(∀ b,(Value.slice a' m c').ownBlock=some b→b≠g3)∧g3<wr.heap.size) (fun _ s7 _=>n-(intOf s7).toNat)
     case atStart=>exact⟨0,_,_,_,Nat.zero_le _,rfl,rfl,hL3,hF3,hG3,fun b e=>by simp only[Value.ownBlock,Option.some.injEq] at e;omega,hg3.2⟩
     case round=>
      clear hL3 hF3 hG3
      obtain⟨i,a',m,c',hi,rfl,rfl,hL,hF,hG,hne,hg4⟩:=hrel
      by_cases hlt:i<n
      · have hin:(i:Int)<(n:Int):=by omega
        have hm12:m≤12:=by have z:=hL.len;rw[rsL_len] at z;have:=selL_le P i;omega
        obtain⟨b3,o3,e3,_,hc3⟩:=hG (by omega)
        cases e3
        have r0:=hc3 i (by omega)
        rw[Nat.zero_add] at r0
        clear hc3
        have hpi0:=hPi.out i hlt
        generalize ofL Z i=x at r0 hpi0
        have skp:(x==q)=false→¬ x<0→P i=false:=fun z1 z2=>by rw[hpi0,decide_eq_false (beq_eq_false_iff_ne.1 z1),decide_eq_false z2];rfl
        obtain⟨b0,o0,e0,hb0l,hc0⟩:=hF (by omega)
        have i0:wr.cell? ⟨b0,o0+i*12,none⟩=some (.int .i64 (U (i*12))):=by have z:=hc0 (i*12+0) (by omega);simpa [Nat.add_assoc] using z
        have i1:wr.cell? ⟨b0,o0+i*12+1,none⟩=some (.int .i64 (U (i*12+1))):=by have z:=hc0 (i*12+1) (by omega);simpa [Nat.add_assoc] using z
        have i2:wr.cell? ⟨b0,o0+i*12+2,none⟩=some (.int .i64 (U (i*12+2))):=by have z:=hc0 (i*12+2) (by omega);simpa [Nat.add_assoc] using z
        have i3:wr.cell? ⟨b0,o0+i*12+3,none⟩=some (.int .i64 (U (i*12+3))):=by have z:=hc0 (i*12+3) (by omega);simpa [Nat.add_assoc] using z
        have i4:wr.cell? ⟨b0,o0+i*12+4,none⟩=some (.int .i64 (U (i*12+4))):=by have z:=hc0 (i*12+4) (by omega);simpa [Nat.add_assoc] using z
        have i5:wr.cell? ⟨b0,o0+i*12+5,none⟩=some (.int .i64 (U (i*12+5))):=by have z:=hc0 (i*12+5) (by omega);simpa [Nat.add_assoc] using z
        have i6:wr.cell? ⟨b0,o0+i*12+6,none⟩=some (.int .i64 (U (i*12+6))):=by have z:=hc0 (i*12+6) (by omega);simpa [Nat.add_assoc] using z
        have i7:wr.cell? ⟨b0,o0+i*12+7,none⟩=some (.int .i64 (U (i*12+7))):=by have z:=hc0 (i*12+7) (by omega);simpa [Nat.add_assoc] using z
        have i8:wr.cell? ⟨b0,o0+i*12+8,none⟩=some (.int .i64 (U (i*12+8))):=by have z:=hc0 (i*12+8) (by omega);simpa [Nat.add_assoc] using z
        have i9:wr.cell? ⟨b0,o0+i*12+9,none⟩=some (.int .i64 (U (i*12+9))):=by have z:=hc0 (i*12+9) (by omega);simpa [Nat.add_assoc] using z
        have i10:wr.cell? ⟨b0,o0+i*12+10,none⟩=some (.int .i64 (U (i*12+10))):=by have z:=hc0 (i*12+10) (by omega);simpa [Nat.add_assoc] using z
        have i11:wr.cell? ⟨b0,o0+i*12+11,none⟩=some (.int .i64 (U (i*12+11))):=by have z:=hc0 (i*12+11) (by omega);simpa [Nat.add_assoc] using z
        clear hc0
        subst e0
        by_cases hx:x=q
        · have he1:(x==q)=true:=beq_iff_eq.2 hx
          have hpi:P i=true:=by rw[hpi0,decide_eq_true hx];rfl
          clear hpi0 skp hx
          have hE7:Below wr.heap.size wr (wr.alloc (Obj.cells #[.int .i64 (U (i*12)),.int .i64 (U (i*12+1)),.int .i64 (U (i*12+2)),.int .i64 (U (i*12+3)),.int .i64 (U (i*12+4)),.int .i64 (U (i*12+5)),.int .i64 (U (i*12+6)),.int .i64 (U (i*12+7)),.int .i64 (U (i*12+8)),.int .i64 (U (i*12+9)),.int .i64 (U (i*12+10)),.int .i64 (U (i*12+11))] 36)):=(Below.refl _ _).alloc (Nat.le_refl _) _
          have hL7:=hL.below hE7
          have q12:∀ j,j<12→(wr.alloc (Obj.cells #[.int .i64 (U (i*12)),.int .i64 (U (i*12+1)),.int .i64 (U (i*12+2)),.int .i64 (U (i*12+3)),.int .i64 (U (i*12+4)),.int .i64 (U (i*12+5)),.int .i64 (U (i*12+6)),.int .i64 (U (i*12+7)),.int .i64 (U (i*12+8)),.int .i64 (U (i*12+9)),.int .i64 (U (i*12+10)),.int .i64 (U (i*12+11))] 36)).cell? ⟨wr.heap.size,j,none⟩=some (.int .i64 (ofL [U (i*12),U (i*12+1),U (i*12+2),U (i*12+3),U (i*12+4),U (i*12+5),U (i*12+6),U (i*12+7),U (i*12+8),U (i*12+9),U (i*12+10),U (i*12+11)] j)):=cells12 wr (fun j=>U (i*12+j)) 36
          have hz7:(wr.alloc (Obj.cells #[.int .i64 (U (i*12)),.int .i64 (U (i*12+1)),.int .i64 (U (i*12+2)),.int .i64 (U (i*12+3)),.int .i64 (U (i*12+4)),.int .i64 (U (i*12+5)),.int .i64 (U (i*12+6)),.int .i64 (U (i*12+7)),.int .i64 (U (i*12+8)),.int .i64 (U (i*12+9)),.int .i64 (U (i*12+10)),.int .i64 (U (i*12+11))] 36)).heap.size=wr.heap.size+1:=by simp
          have hG7:=hG.below hE7
          go_wp2_with (refine wpList_appG rfl _ _ _ rfl w.heap.size 36 12 96 zcBody Tryz.underlying23 infoItBody rfl (by decide) (.slice a' m c') m (ofL (rsL U (selL P i))) rfl hL7.own wr.heap.size _ (ofL [U (i*12),U (i*12+1),U (i*12+2),U (i*12+3),U (i*12+4),U (i*12+5),U (i*12+6),U (i*12+7),U (i*12+8),U (i*12+9),U (i*12+10),U (i*12+11)]) rfl q12 (by unfold maxLen;omega) (by omega) (by have:=hL7.bel.size;omega) _ rfl ?_;intro g7 c7 w7 ho7 hg7 hor7 hlt7)
          have hP7:=hL7.push (x:=[U (i*12),U (i*12+1),U (i*12+2),U (i*12+3),U (i*12+4),U (i*12+5),U (i*12+6),U (i*12+7),U (i*12+8),U (i*12+9),U (i*12+10),U (i*12+11)]) rfl hg7 ho7
          have hG8:Flat w7 (some ⟨g3,0,none⟩) (n*1) (ofL Z):=fun h0=>by
           obtain⟨b,o,e,hb,hc⟩:=hG7 h0
           cases e
           exact⟨g3,0,rfl,Nat.lt_of_lt_of_le hb hg7.size,fun j hj=>(hg7.cell_far ⟨g3,0+j,none⟩ hb (fun e=>hne _ e.symm rfl)).trans (hc j hj)⟩
          go_roundw
          case rel=>exact⟨i+1,_,_,_,by omega,by go_num,rfl,by rw[selL,if_pos hpi,rsL_snoc];exact hP7,h.below hP7.bel,hG8,fun b e=>by simp only[Value.ownBlock,Option.some.injEq] at e;subst e;exact hor7.elim (fun z=>hne _ z) (fun z=>by omega),by have:=hg7.size;omega⟩
          case measure=>simp[intOf];omega
        · have he1:(x==q)=false:=beq_eq_false_iff_ne.2 hx
          by_cases h2:x<0
          · have hpi:P i=true:=by rw[hpi0,decide_eq_true h2,Bool.or_true]
            clear hpi0 skp hx
            have hE7:Below wr.heap.size wr (wr.alloc (Obj.cells #[.int .i64 (U (i*12)),.int .i64 (U (i*12+1)),.int .i64 (U (i*12+2)),.int .i64 (U (i*12+3)),.int .i64 (U (i*12+4)),.int .i64 (U (i*12+5)),.int .i64 (U (i*12+6)),.int .i64 (U (i*12+7)),.int .i64 (U (i*12+8)),.int .i64 (U (i*12+9)),.int .i64 (U (i*12+10)),.int .i64 (U (i*12+11))] 36)):=(Below.refl _ _).alloc (Nat.le_refl _) _
            have hL7:=hL.below hE7
            have q12:∀ j,j<12→(wr.alloc (Obj.cells #[.int .i64 (U (i*12)),.int .i64 (U (i*12+1)),.int .i64 (U (i*12+2)),.int .i64 (U (i*12+3)),.int .i64 (U (i*12+4)),.int .i64 (U (i*12+5)),.int .i64 (U (i*12+6)),.int .i64 (U (i*12+7)),.int .i64 (U (i*12+8)),.int .i64 (U (i*12+9)),.int .i64 (U (i*12+10)),.int .i64 (U (i*12+11))] 36)).cell? ⟨wr.heap.size,j,none⟩=some (.int .i64 (ofL [U (i*12),U (i*12+1),U (i*12+2),U (i*12+3),U (i*12+4),U (i*12+5),U (i*12+6),U (i*12+7),U (i*12+8),U (i*12+9),U (i*12+10),U (i*12+11)] j)):=cells12 wr (fun j=>U (i*12+j)) 36
            have hz7:(wr.alloc (Obj.cells #[.int .i64 (U (i*12)),.int .i64 (U (i*12+1)),.int .i64 (U (i*12+2)),.int .i64 (U (i*12+3)),.int .i64 (U (i*12+4)),.int .i64 (U (i*12+5)),.int .i64 (U (i*12+6)),.int .i64 (U (i*12+7)),.int .i64 (U (i*12+8)),.int .i64 (U (i*12+9)),.int .i64 (U (i*12+10)),.int .i64 (U (i*12+11))] 36)).heap.size=wr.heap.size+1:=by simp
            have hG7:=hG.below hE7
            go_wp2_with (refine wpList_appG rfl _ _ _ rfl w.heap.size 36 12 96 zcBody Tryz.underlying23 infoItBody rfl (by decide) (.slice a' m c') m (ofL (rsL U (selL P i))) rfl hL7.own wr.heap.size _ (ofL [U (i*12),U (i*12+1),U (i*12+2),U (i*12+3),U (i*12+4),U (i*12+5),U (i*12+6),U (i*12+7),U (i*12+8),U (i*12+9),U (i*12+10),U (i*12+11)]) rfl q12 (by unfold maxLen;omega) (by omega) (by have:=hL7.bel.size;omega) _ rfl ?_;intro g7 c7 w7 ho7 hg7 hor7 hlt7)
            have hP7:=hL7.push (x:=[U (i*12),U (i*12+1),U (i*12+2),U (i*12+3),U (i*12+4),U (i*12+5),U (i*12+6),U (i*12+7),U (i*12+8),U (i*12+9),U (i*12+10),U (i*12+11)]) rfl hg7 ho7
            have hG8:Flat w7 (some ⟨g3,0,none⟩) (n*1) (ofL Z):=fun h0=>by
             obtain⟨b,o,e,hb,hc⟩:=hG7 h0
             cases e
             exact⟨g3,0,rfl,Nat.lt_of_lt_of_le hb hg7.size,fun j hj=>(hg7.cell_far ⟨g3,0+j,none⟩ hb (fun e=>hne _ e.symm rfl)).trans (hc j hj)⟩
            go_roundw
            case rel=>exact⟨i+1,_,_,_,by omega,by go_num,rfl,by rw[selL,if_pos hpi,rsL_snoc];exact hP7,h.below hP7.bel,hG8,fun b e=>by simp only[Value.ownBlock,Option.some.injEq] at e;subst e;exact hor7.elim (fun z=>hne _ z) (fun z=>by omega),by have:=hg7.size;omega⟩
            case measure=>simp[intOf];omega
          · have hpn:=skp he1 h2
            clear hpi0 skp hx
            go_wp2_with fail
            go_roundw
            case rel=>exact⟨i+1,_,_,_,by omega,by go_num,rfl,by rw[selL,hpn];simp;exact hL,hF,hG,hne,hg4⟩
            case measure=>simp[intOf];omega
      · obtain rfl:n=i:=by omega
        go_wp2_with fail
        go_ret
        have hmN:m=N:=by have z:=hL.len;rw[rsL_len] at z;omega
        subst hmN
        exact⟨_,_,rfl,hL.bel,hL.own⟩
end Go.Proofs.YtbdbbdjifgpgeaaGreat
