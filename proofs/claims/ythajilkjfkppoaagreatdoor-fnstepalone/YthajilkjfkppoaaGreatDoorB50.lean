/- Texts of a proof. -/
import Derived.Test.YthajilkjfkppoaaGreatDoorB49
import Derived.Test.YthajilkjfkppoaaGreatDoorB32
import Derived.Test.YthajilkjfkppoaaGreatDoorB34
import Derived.Test.YthajilkjfkppoaaGreatDoorB4
import Derived.Deep.RegionHeld3
import Derived.Deep.DeepCutAuto
import Derived.LoopNIn
import Derived.LoopIn
import Derived.Test.YthajilkjfkppoaaGreatDoorB9
import Derived.Test.YthajilkjfkppoaaGreatDoorB42
import Derived.Test.YthajilkjfkppoaaGreatDoorB41
import Derived.Test.YthajilkjfkppoaaGreatDoorB2
import Derived.Test.YthajilkjfkppoaaGreatDoorB36
import Derived.Test.YthajilkjfkppoaaGreatDoorB30
import Derived.Test.YthajilkjfkppoaaGreatDoorB14
import Derived.Test.YthajilkjfkppoaaGreatDoorB35
set_option maxHeartbeats 16000000
set_option maxRecDepth 20000
namespace Go.Proofs.YthajilkjfkppoaaGreatDoor
open Go.RowKit
set_option linter.unusedVariables false
set_option linter.unusedSimpArgs false
def stsU (n:Nat) (U:Nat→Int) (g:Int):Nat→Nat→Int
 |0=>U
 |k+1=>stepU n (stsU n U g k) g
theorem Bods.sts {n:Nat} {U:Nat→Int} (h:Bods n U) (g:Int):∀ k,Bods n (stsU n U g k)
 |0=>h
 |k+1=>(((Bods.sts h g k).steps g).2.2.2.2.2.2).1
def okP (p:Int):Bool:=decide (0≤p∧p≤2560)
def okS (s:Int):Bool:=decide (0≤s∧s≤60)
def okSts (n:Nat) (U:Nat→Int) (p s:Int):Bool:=bodsB n U&&(okP p&&okS s)
theorem countOf_t (x l:Int) (what:Value) (w:World) (h:decide (0≤x∧x≤l)=true):
 Calls Tryz.prog 72 #[.int .i64 x,.int .i64 l,what] w fun e w'=>e= .returned (.tuple #[.int .i64 x,Value.nilIface])∧Below w.heap.size w w':=by
 have hset:=cset_map
 go_enter Tryz.func72,Tryz.ntmps72
 go_wp2_with (go_at_call 86;refine(upTo_q x l true _ h).mono ?_;rintro e w1 ⟨rfl,hb1⟩)
 exact bodyPost_ret (v:= .tuple #[.int .i64 x,Value.nilIface]) (by simp[results,Tryz.results72,go_sem]) rfl ⟨rfl,hb1⟩
theorem countOf_f (x l:Int) (what:ByteArray) (w:World) (h:decide (0≤x∧x≤l)=false):
 Calls Tryz.prog 72 #[.int .i64 x,.int .i64 l,.string what] w fun e w'=>∃ q:Addr,e= .returned (.tuple #[.int .i64 0,.iface 112 (.pointer (some q))])∧Below w.heap.size w w':=by
 have hset:=cset_map
 go_enter Tryz.func72,Tryz.ntmps72
 go_wp2_with (go_at_call 86;refine(upTo_q x l false _ h).mono ?_;rintro e w1 ⟨rfl,hb1⟩)
 exact bodyPost_ret (v:= .tuple #[.int .i64 0,.iface 112 (.pointer (some ⟨w1.heap.size,0,none⟩))]) (by simp[results,Tryz.results72,go_sem]) rfl ⟨_,rfl,hb1.alloc hb1.size _⟩
theorem stepped_f (a:Option Addr) (n c:Nat) (U:Nat→Int) (p s:Int) (w:World) (h:Flat w a (n*12) U) (hn:n≤1048576) (hk:okSts n U p s=false):
 Calls Tryz.prog 36 #[.slice a n c,.int .i64 p,.int .i64 s] w fun e w'=>∃ q:Addr,e= .returned (.tuple #[.slice none 0 0,.iface 112 (.pointer (some q))])∧Below w.heap.size w w':=by
 have hset:=cset_map
 cases kb:bodsB n U with
 | false=>
   go_enter Tryz.func36,Tryz.ntmps36
   go_wp2_with (go_at_call 71;refine(bodiesOf_f a n c U _ h hn kb).mono ?_;rintro e w1 ⟨x,rfl,hb1⟩)
   exact bodyPost_ret (v:= .tuple #[.slice none 0 0,.iface 112 (.pointer (some x))]) (by simp[results,Tryz.results36,go_sem]) rfl ⟨_,rfl,hb1⟩
 | true=>
   cases kp0:okP p with
   | false=>
     have kp:decide (0≤p∧p≤2560)=false:=kp0
     go_enter Tryz.func36,Tryz.ntmps36
     go_wp2_with (first
      |(have _:=hb1;go_at_call 72;refine(countOf_f p 2560 _ _ kp).mono ?_;rintro e w2 ⟨x,rfl,hb2⟩)
      |(go_at_call 71;refine(bodiesOf_t a n c U _ h hn kb).mono ?_;rintro e w1 ⟨cb,S,rfl,hcb,hC,hb1⟩))
     exact bodyPost_ret (v:= .tuple #[.slice none 0 0,.iface 112 (.pointer (some x))]) (by simp[results,Tryz.results36,go_sem]) rfl ⟨_,rfl,hb1.trans (hb2.mono hb1.size)⟩
   | true=>
     have kp:decide (0≤p∧p≤2560)=true:=kp0
     have ks:decide (0≤s∧s≤60)=false:=by
      unfold okSts at hk
      rw[kb,kp0] at hk
      exact hk
     go_enter Tryz.func36,Tryz.ntmps36
     go_wp2_with (first
      |(have _:=hb2;go_at_call 72;refine(countOf_f s 60 _ _ ks).mono ?_;rintro e w3 ⟨x,rfl,hb3⟩)
      |(have _:=hb1;go_at_call 72;refine(countOf_t p 2560 _ _ kp).mono ?_;rintro e w2 ⟨rfl,hb2⟩)
      |(go_at_call 71;refine(bodiesOf_t a n c U _ h hn kb).mono ?_;rintro e w1 ⟨cb,S,rfl,hcb,hC,hb1⟩))
     have hb12:=hb1.trans (hb2.mono hb1.size)
     exact bodyPost_ret (v:= .tuple #[.slice none 0 0,.iface 112 (.pointer (some x))]) (by simp[results,Tryz.results36,go_sem]) rfl ⟨_,rfl,hb12.trans (hb3.mono hb12.size)⟩
theorem stepped_t (a:Option Addr) (n c:Nat) (U:Nat→Int) (p s:Int) (w:World) (h:Flat w a (n*12) U) (hn:n≤1048576) (hk:okSts n U p s=true):
 Calls Tryz.prog 36 #[.slice a n c,.int .i64 p,.int .i64 s] w fun e w'=>∃ a' c',e= .returned (.tuple #[.slice a' n c',Value.nilIface])∧OutL w w' 35 12 a' n c' (stsU n U p s.toNat):=by
 have hset:=cset_map
 unfold okSts okP okS at hk
 rw[Bool.and_eq_true,Bool.and_eq_true] at hk
 obtain⟨kb,kp,ks⟩:=hk
 have hp:=of_decide_eq_true kp
 have hs:=of_decide_eq_true ks
 have hbb:=Bods.of kb
 have hn12:=hbb.le
 obtain⟨K,hK⟩:∃ K:Nat,s=(K:Int):=⟨s.toNat,by omega⟩
 subst hK
 rw[Int.toNat_natCast]
 go_enter Tryz.func36,Tryz.ntmps36
 go_upto_region 11 with(first
  |(have _:=hb2;go_at_call 72;refine(countOf_t (K:Int) 60 _ _ ks).mono ?_;rintro e w3 ⟨rfl,hb3⟩)
  |(have _:=hb1;go_at_call 72;refine(countOf_t p 2560 _ _ kp).mono ?_;rintro e w2 ⟨rfl,hb2⟩)
  |(go_at_call 71;refine(bodiesOf_t a n c U _ h hn kb).mono ?_;rintro e w1 ⟨cb,S,rfl,hcb,hC,hb1⟩))
 have hxl:∀ b,Xc S b→cb<b:=fun b e=>(hC.xlt e).1
 have hC3:=(hC.below hb2).below hb3
 have hb13:Below w.heap.size w w3:=(hb1.trans (hb2.mono hb1.size)).trans (hb3.mono (hb1.trans (hb2.mono hb1.size)).size)
 clear hC hb1 hb2 hb3
 go_loopw [37] (fun s wr=>∃ k:Nat,k≤K∧s= .int .i64 (k:Int)∧Cs wr cb n (colOf (stsU n U p k)) S∧Below w.heap.size w wr) (fun s _=>K-(intOf s).toNat)
 case atStart=>exact⟨0,Nat.zero_le _,rfl,hC3,hb13⟩
 case round=>
  obtain⟨k,hk,rfl,hCk,hbk⟩:=hrel
  by_cases hlt:k<K
  · have hkK:(k:Int)<(K:Int):=by omega
    have hsz:=hbk.size
    go_wp2_with (go_at_call 73;refine(step_any cb n p _ S _ hCk (hbb.sts p k) hp).mono ?_;rintro e w5 ⟨rfl,hC5,hF5⟩)
    go_roundw
    case rel=>exact⟨k+1,by omega,by go_num,hC5,hbk.trans (hF5.below hsz (fun b e=>by have:=hxl b e;omega))⟩
    case measure=>simp[intOf];omega
  · obtain rfl:k=K:=by omega
    go_wp2_with (go_at_call 74;refine(list_any cb n _ S _ hCk hn12).mono ?_;rintro e w6 ⟨a6,c6,rfl,hO6⟩)
    refine bodyPost_ret (v:= .tuple #[.slice a6 n c6,Value.nilIface]) (by simp[results,Tryz.results36,go_sem]) rfl ⟨a6,c6,rfl,hbk.trans (hO6.bel.mono hbk.size),(hO6.own.base hbk.size).congr fun q hq=> ?_⟩
    unfold colOf
    rw[show q/12*12+q % 12=q by omega]
theorem steps_i (a:Option Addr) (n c:Nat) (U:Nat→Int) (p s:Int) (w:World) (h:Flat w a (n*12) U) (hn:n≤1048576) (hg:w.cell? ⟨0,0,none⟩=some (.iface 178 (.agg #[.pointer (some ⟨1,76,none⟩)]))) (N:Nat) (hN:(bif okSts n U p s then n else 0)=N):
 Calls Tryz.prog 18 #[.slice a n c,.int .i64 p,.int .i64 s] w fun e w'=>∃ a1 c1,e= .returned (.slice a1 N c1)∧OutL w w' 35 12 a1 N c1 (stsU n U p s.toNat):=by
 have hset:=cset_map
 have hlt:0<w.heap.size:=cell_lt (a:=⟨0,0,none⟩) hg
 cases hok:okSts n U p s with
 | false=>
   rw[hok,cond_false] at hN
   subst hN
   go_enter Tryz.func18,Tryz.ntmps18
   go_wp2_with (first
    |(have _:=hb1;go_at_call 37;refine(refused_yes x _ ((hb1.cell (p:=⟨0,0,none⟩) hlt).trans hg)).mono ?_;rintro e w2 ⟨rfl,hb2⟩)
    |(go_at_call 36;refine(stepped_f a n c U p s _ h hn hok).mono ?_;rintro e w1 ⟨x,rfl,hb1⟩))
   go_ret
   exact⟨none,0,rfl,hb1.trans (hb2.mono hb1.size),OwnL.nil _ _ _ _ _⟩
 | true=>
   rw[hok,cond_true] at hN
   subst hN
   go_enter Tryz.func18,Tryz.ntmps18
   go_wp2_with (first
    |(have _:=hO1;go_at_call 37;refine(refused_nil _).mono ?_;rintro e w2 ⟨rfl,hb2⟩)
    |(go_at_call 36;refine(stepped_t a n c U p s _ h hn hok).mono ?_;rintro e w1 ⟨a1,c1,rfl,hO1⟩))
   go_ret
   exact⟨a1,c1,rfl,hO1.bel.trans (hb2.mono hO1.bel.size),hO1.own.below hb2⟩
theorem step_ok1 (n:Nat) (U:Nat→Int) (p:Int):okSts n U p 1=(bodsB n U&&okP p):=by unfold okSts okS;rw[decide_eq_true (by omega),Bool.and_true]
theorem step_i (a:Option Addr) (n c:Nat) (U:Nat→Int) (p:Int) (w:World) (h:Flat w a (n*12) U) (hn:n≤1048576) (hg:w.cell? ⟨0,0,none⟩=some (.iface 178 (.agg #[.pointer (some ⟨1,76,none⟩)]))) (N:Nat) (hN:(bif (bodsB n U&&okP p) then n else 0)=N):
 Calls Tryz.prog 6 #[.slice a n c,.int .i64 p] w fun e w'=>∃ a1 c1,e= .returned (.slice a1 N c1)∧OutL w w' 35 12 a1 N c1 (stepU n U p):=by
 have hset:=cset_map
 go_enter Tryz.func6,Tryz.ntmps6
 go_wp2_with (go_at_call 18;refine(steps_i a n c U p 1 _ h hn hg N (by rw[step_ok1];exact hN)).mono ?_;rintro e w1 ⟨a1,c1,rfl,hO1⟩)
 go_ret
 exact⟨a1,c1,rfl,hO1⟩
theorem step_s (a:Option Addr) (n c:Nat) (U:Nat→Int) (p:Int) (w:World) (h:Flat w a (n*12) U) (hn:n≤1048576) (N:Nat) (hN:(bif (bodsB n U&&okP p) then n else 0)=N):
 Calls Tryz.prog 8 #[.slice a n c,.int .i64 p] w fun e w'=>∃ a1 c1,e= .returned (.slice a1 N c1)∧OutL w w' 35 12 a1 N c1 (stepU n U p):=by
 have hset:=cset_map
 cases kb:bodsB n U with
 | false=>
   rw[kb,Bool.false_and,cond_false] at hN
   subst hN
   go_enter Tryz.func8,Tryz.ntmps8
   go_wp2_with (go_at_call 12;refine(sBodiesOk_q a n c U false _ h hn kb).mono ?_;rintro e w1 ⟨rfl,hb1⟩)
   go_ret
   exact⟨_,_,rfl,hb1.trans (((Below.refl _ _).alloc (Nat.le_refl _) _).mono hb1.size),((LsV.new w1 35 12).own.base hb1.size).congr (fun q hq=>by omega)⟩
 | true=>
   cases kp0:okP p with
   | false=>
     have kp:decide (0≤p∧p≤2560)=false:=kp0
     rw[kb,kp0,Bool.true_and,cond_false] at hN
     subst hN
     go_enter Tryz.func8,Tryz.ntmps8
     go_wp2_with (first|(have _:=hb1;go_at_call 19;refine(l1In_q p 0 2560 false _ kp).mono ?_;rintro e w2 ⟨rfl,hb2⟩)|(go_at_call 12;refine(sBodiesOk_q a n c U true _ h hn kb).mono ?_;rintro e w1 ⟨rfl,hb1⟩))
     have hb12:=hb1.trans (hb2.mono hb1.size)
     go_ret
     exact⟨_,_,rfl,hb12.trans (((Below.refl _ _).alloc (Nat.le_refl _) _).mono hb12.size),((LsV.new w2 35 12).own.base hb12.size).congr (fun q hq=>by omega)⟩
   | true=>
     have kp:decide (0≤p∧p≤2560)=true:=kp0
     rw[kb,kp0,Bool.true_and,cond_true] at hN
     subst hN
     go_enter Tryz.func8,Tryz.ntmps8
     go_wp2_with (first
      |(have _:=hb2;go_at_call 20;refine(l9Step_any a n c U p _ (h.below hb12) (Bods.of kb) (of_decide_eq_true kp)).mono ?_;rintro e w3 ⟨a3,c3,rfl,hO3⟩)
      |(have _:=hb1;go_at_call 19;refine(l1In_q p 0 2560 true _ kp).mono ?_;rintro e w2 ⟨rfl,hb2⟩;have hb12:=hb1.trans (hb2.mono hb1.size))
      |(go_at_call 12;refine(sBodiesOk_q a n c U true _ h hn kb).mono ?_;rintro e w1 ⟨rfl,hb1⟩))
     go_ret
     exact⟨_,_,rfl,hb12.trans (hO3.bel.mono hb12.size),hO3.own.base hb12.size⟩
def Fxd (j:Nat):Prop:=j≠4∧j≠5∧j≠6∧j≠7∧j≠11
theorem setV_else {V:Nat→Int} {k j:Nat} {a:Int} (h:j≠k):setV V k a j=V j:=by unfold setV;rw[if_neg h]
theorem quietV_keep (r:Int) (V:Nat→Int) {j:Nat} (h:j≠11∨(V 8=0∨8≤V 11)):quietV r V j=V j:=by
 unfold quietV
 cases hc:(decide (V 8=0)||decide (8≤V 11)) with
 |true=>rfl
 | false=>
   rcases h with h|h
   · exact setV_else h
   · simp only[Bool.or_eq_false_iff,decide_eq_false_iff_not] at hc;omega
theorem sleepS_keep {G:Nat→Int} {A:Nat→Bool} {n g i j:Nat} {U:Nat→Int} (hi:i<n) (hj:j<12) (h:(j≠6∧j≠7∧j≠11)∨G i≠(g:Int)∨A g=false):sleepS G A n g U (i*12+j)=U (i*12+j):=by
 unfold sleepS
 cases hc:(A g&&allQ G U g n) with
 |false=>rfl
 | true=>
   simp only[cond_true]
   rw[mapR_in hi hj]
   unfold slF
   cases hd:decide (G i=(g:Int)) with
   |false=>rfl
   | true=>
     rcases h with⟨h6,h7,h11⟩|h|h
     · simp only[cond_true]
       unfold slV
       rw[if_neg h7,if_neg h6,if_neg h11]
     · exact absurd (of_decide_eq_true hd) h
     · rw[h] at hc;cases hc
theorem sleepN_keep {G:Nat→Int} {A:Nat→Bool} {n i j:Nat} {U:Nat→Int} (hi:i<n) (hj:j<12):∀ N,((j≠6∧j≠7∧j≠11)∨∀ g:Nat,g<N→G i≠(g:Int)∨A g=false)→sleepN G A n U N (i*12+j)=U (i*12+j)
 |0,_=>rfl
 | g+1,h=>by
   rw[sleepN,sleepS_keep hi hj (h.imp id (fun q=>q g (by omega))),sleepN_keep hi hj g (h.imp id (fun q g' hg'=>q g' (by omega)))]
theorem stepU_eq (n:Nat) (U:Nat→Int) (g:Int):stepU n U g=sleepN (gpG n U) (awA n U) n (mapR (fun i V=>quietV (wokeU n U (i*12+11)) V) (goneU n U g) n) (awN n U):=rfl
theorem woke_at {n:Nat} {U:Nat→Int} {i j:Nat} (hi:i<n) (hj:j<12):wokeU n U (i*12+j)=wakeV (awK (gpG n U) (awA n U) i) (fun j=>U (i*12+j)) j:=by unfold wokeU;exact mapR_in hi hj
def Rests (n:Nat) (U:Nat→Int) (i:Nat):Prop:=U (i*12+8)=0∨(0≤gpG n U i∧awA n U (gpG n U i).toNat=false)
theorem live_P {P:Int→Int→Int→Int→Int→Prop} {U C:Nat→Int} {m:Nat} (h:∀ k,k<m→liveC U C k=true→P (C (k*5)) (C (k*5+1)) (C (k*5+2)) (C (k*5+3)) (C (k*5+4))):∀ k,k≤m→Fives P (liveL U C k)
 |0,_=>Fives.nil _
 | k+1,hk=>by
   have ih:=live_P h k (by omega)
   cases e:liveC U C k with
   |true=>rw[liveL_yes e];exact ih.app (Fives.one (h k (by omega) e))
   |false=>rw[liveL_no e];exact ih
theorem live_at {P:Int→Int→Int→Int→Int→Prop} {n:Nat} {U:Nat→Int} (h:∀ k,k<ctM n U→liveC (wokeU n U) (ctC n U) k=true→P (ctC n U (k*5)) (ctC n U (k*5+1)) (ctC n U (k*5+2)) (ctC n U (k*5+3)) (ctC n U (k*5+4))):
 ∀ k,k<lvM n U→P (lvC n U (k*5)) (lvC n U (k*5+1)) (lvC n U (k*5+2)) (lvC n U (k*5+3)) (lvC n U (k*5+4)):=by
 obtain⟨m,e,q⟩:=live_P h (ctM n U) (Nat.le_refl _)
 have hm:lvM n U=m:=by unfold lvM;omega
 rw[hm]
 exact q
theorem live_far {n:Nat} {U:Nat→Int} {i:Nat} (h:∀ k,k<ctM n U→(i=(ctC n U (k*5)).toNat∨i=(ctC n U (k*5+1)).toNat)→liveC (wokeU n U) (ctC n U) k=false):Far (lvC n U) (lvM n U) i:=by
 have q:=live_at (P:=fun a b _ _ _=>i≠a.toNat∧i≠b.toNat) (n:=n) (U:=U) fun k hk hl=>⟨fun e=>(by rw[h k hk (.inl e)] at hl;cases hl),fun e=>(by rw[h k hk (.inr e)] at hl;cases hl)⟩
 exact fun k hk=>q k hk
theorem sleepN_or {G:Nat→Int} {A:Nat→Bool} {n i:Nat} {U:Nat→Int} (hi:i<n):∀ N,(∀ j,j<12→sleepN G A n U N (i*12+j)=U (i*12+j))∨sleepN G A n U N (i*12+11)=8
 |0=> .inl fun _ _=>rfl
 | g+1=>by
   have h:(∀ j,j<12→sleepN G A n U (g+1) (i*12+j)=sleepN G A n U g (i*12+j))∨sleepN G A n U (g+1) (i*12+11)=8:=by
    by_cases e:G i=(g:Int)
    · rw[sleepN]
      unfold sleepS
      cases (A g&&allQ G (sleepN G A n U g) g n) with
      |false=>exact .inl fun _ _=>rfl
      | true=>
        refine .inr ?_
        simp only[cond_true]
        rw[mapR_in hi (by decide)]
        unfold slF
        rw[decide_eq_true e]
        rfl
    · exact .inl fun j hj=>by rw[sleepN];exact sleepS_keep hi hj (.inr (.inl e))
   rcases h with h|h
   · rcases sleepN_or (G:=G) (A:=A) (U:=U) hi g with q|q
     · exact .inl fun j hj=>(h j hj).trans (q j hj)
     · exact .inr ((h 11 (by decide)).trans q)
   · exact .inr h
theorem wakeV_same (b:Bool) {V:Nat→Int} (h:¬ 8≤V 11):wakeV b V=V:=by
 unfold wakeV
 rw[decide_eq_false h,Bool.and_false]
 rfl
def dropV (g:Int) (V:Nat→Int):Nat→Int:=setV V 7 (V 7-g*V 8)
theorem live_of {V:Nat→Int} (h8:0<V 8) (h11:¬ 8≤V 11):liveV V=true:=by unfold liveV;rw[decide_eq_true h8,decide_eq_false h11];rfl
theorem moveV_cong {V X:Nat→Int} (h:∀ j,j<12→V j=X j) {j:Nat} (hj:j<12):moveV V (spX V) (spY V) j=moveV X (spX X) (spY X) j:=by
 unfold moveV mvX mvY spX spY setV
 simp only[h 4 (by decide),h 5 (by decide),h 6 (by decide),h 7 (by decide),h 8 (by decide),h j hj]
theorem step_alone {n:Nat} {U:Nat→Int} {g:Int} {i:Nat} (hB:Bods n U) (hi:i<n) (hm:U (i*12+8)≠0) (hq:¬ 8≤U (i*12+11)) (h0:0≤g) (hlo: -20000000≤U (i*12+7)-g*U (i*12+8))
 (hF:∀ k,k<ctM n U→i≠(ctC n U (k*5)).toNat∧i≠(ctC n U (k*5+1)).toNat) (V:Nat→Int) (hV:∀ j,j<12→V j=dropV g (fun j=>U (i*12+j)) j):
 (stepU n U g (i*12+4)=moveV V (spX V) (spY V) 4∧stepU n U g (i*12+5)=moveV V (spX V) (spY V) 5)∧(stepU n U g (i*12+11)≠8→stepU n U g (i*12+6)=moveV V (spX V) (spY V) 6∧stepU n U g (i*12+7)=moveV V (spX V) (spY V) 7):=by
 have hok:=hB.ok i hi
 obtain⟨_,_,_,_,⟨u0,u1⟩,⟨v0,v1⟩,_⟩:=bodyB_bd hok
 have hm0:0≤U (i*12+8):=by
  unfold bodyB at hok
  simp only[Bool.and_eq_true,decide_eq_true_eq] at hok
  omega
 have hgm:0≤g*U (i*12+8):=Int.mul_nonneg h0 hm0
 have hv1:U (i*12+7)≤20000000:=v1
 have hFar:=live_far (n:=n) (U:=U) (i:=i) fun k hk e=>by have:=hF k hk;omega
 have w1:∀ j,j<12→wokeU n U (i*12+j)=U (i*12+j):=fun j hj=>by
  rw[woke_at hi hj,wakeV_same _ (V:=fun j=>U (i*12+j)) hq]
 have w2:∀ j,j<12→mapR (fun _ V=>pullV g V) (wokeU n U) n (i*12+j)=V j:=fun j hj=>by
  have l:liveV (fun j=>wokeU n U (i*12+j))=true:=live_of (V:=fun j=>wokeU n U (i*12+j)) (by show 0<wokeU n U (i*12+8);rw[w1 8 (by decide)];omega) (by show ¬ 8≤wokeU n U (i*12+11);rw[w1 11 (by decide)];exact hq)
  rw[mapR_in hi hj,hV j hj]
  unfold pullV dropV
  rw[l]
  simp only[cond_true]
  unfold setV
  dsimp only
  rw[w1 7 (by decide),w1 8 (by decide),w1 j hj,clampZ_id hlo (by omega)]
 have w3:∀ j,j<12→pushU n U g (i*12+j)=V j:=fun j hj=>(all_far hFar hj 4).trans (w2 j hj)
 have w4:∀ j,j<12→mapR (fun _ V=>goV V) (pushU n U g) n (i*12+j)=moveV V (spX V) (spY V) j:=fun j hj=>by
  have V8:V 8=U (i*12+8):=hV 8 (by decide)
  have V11:V 11=U (i*12+11):=hV 11 (by decide)
  have l:liveV (fun j=>pushU n U g (i*12+j))=true:=live_of (V:=fun j=>pushU n U g (i*12+j)) (by show 0<pushU n U g (i*12+8);rw[w3 8 (by decide),V8];omega) (by show ¬ 8≤pushU n U g (i*12+11);rw[w3 11 (by decide),V11];exact hq)
  rw[mapR_in hi hj]
  unfold goV
  rw[l]
  simp only[cond_true]
  exact moveV_cong w3 hj
 have w5:∀ j,j<12→goneU n U g (i*12+j)=moveV V (spX V) (spY V) j:=fun j hj=>(aparts_far hFar hj _ (Nat.le_refl _)).trans (w4 j hj)
 have w6:∀ j,j<12→j≠11→mapR (fun i V=>quietV (wokeU n U (i*12+11)) V) (goneU n U g) n (i*12+j)=moveV V (spX V) (spY V) j:=fun j hj h11=>by
  rw[mapR_in hi hj]
  exact(quietV_keep _ _ (.inl h11)).trans (w5 j hj)
 rw[stepU_eq]
 refine⟨⟨?_,?_⟩,fun h8=> ?_⟩
 · rw[sleepN_keep hi (by decide) _ (.inl (by decide)),w6 4 (by decide) (by decide)]
 · rw[sleepN_keep hi (by decide) _ (.inl (by decide)),w6 5 (by decide) (by decide)]
 · rcases sleepN_or (G:=gpG n U) (A:=awA n U) (U:=mapR (fun i V=>quietV (wokeU n U (i*12+11)) V) (goneU n U g) n) hi (awN n U) with q|q
   · exact⟨(q 6 (by decide)).trans (w6 6 (by decide) (by decide)),(q 7 (by decide)).trans (w6 7 (by decide) (by decide))⟩
   · exact absurd q h8
theorem drop_bod {g:Int} {V:Nat→Int} (h:bodyB V=true) (hm:V 8≠0) (hq:V 11≠8) (lo: -20000000≤V 7-g*V 8) (h0:0≤g*V 8):bodyB (dropV g V)=true:=by
 unfold bodyB at h ⊢
 have hin:inB 20000000 (V 6) (V 7-g*V 8)=true:=by
  simp only[Bool.and_eq_true] at h
  have q:=inB_of h.2.2.2.1
  unfold inB
  rw[decide_eq_true_eq]
  omega
 have hr:restB (dropV g V)=true:=by
  unfold restB
  rw[decide_eq_true_eq]
  show (V 8=0→V 11=0)∧((V 8≠0∧V 11≠8)∨_)
  exact⟨fun e=>absurd e hm,.inl ⟨hm,hq⟩⟩
 show (decide (0≤V 0∧V 0≤999999999)&&(shB (V 1) (V 2) (V 3)&&(inB 2560000 (V 4) (V 5)&&(inB 20000000 (V 6) (V 7-g*V 8)&&(decide (0≤V 8∧V 8≤1000)&&(decide (0≤V 9∧V 9≤256)&&(decide (0≤V 10∧V 10≤256)&&(decide (0≤V 11∧V 11≤8)&&restB (dropV g V)))))))))=true
 rw[hin,hr]
 simp only[Bool.and_eq_true] at h ⊢
 exact⟨h.1,h.2.1,h.2.2.1,trivial,h.2.2.2.2.1,h.2.2.2.2.2.1,h.2.2.2.2.2.2.1,h.2.2.2.2.2.2.2.1,trivial⟩
theorem bodyMove_k (V:Nat→Int) (w:World) (eb:bodyB V=true):
 Calls Tryz.prog 11 #[bodyW V] w fun e w'=>e= .returned (bodyW (moveV V (spX V) (spY V)))∧Below w.heap.size w w':=by
 have hset:=cset_map
 obtain⟨⟨m0,m1⟩,⟨n0,n1⟩,⟨x0,x1⟩,⟨y0,y1⟩,⟨u0,u1⟩,⟨v0,v1⟩,_⟩:=bodyB_bd eb
 obtain⟨sx,sy⟩:=sp_bd (V:=V) (by omega) (by omega)
 go_enter Tryz.func11,Tryz.ntmps11
 go_upto_region 4 with(go_at_call 23;refine(handleOf_k V _ true eb).mono ?_;rintro e w1 ⟨cb,S,rfl,hcb,hC1,hb1⟩;(try simp only[zz] at hcb);have hz1:=hb1.size;(try simp only[zz] at hz1);have:=kfa hb1 (w.heap.size+1))
 have hx:∀ b,b<cb∨w1.heap.size≤b→¬ Xc S b:=fun b hb x=>by have:=hC1.xlt x;omega
 refine wp_region_held_drew (S:=fun w'=>w'.cell? ⟨w1.heap.size,0,none⟩=some (.int .i64 0)∧w'.cell? ⟨w1.heap.size,1,none⟩=some (.pointer (some ⟨cb,0,none⟩))) (by kernel_rfl) ?_ (fun hHeld=> ?_)
 · (try dsimp only)
   (first|(go_simp;done)|(go_keep;done))
 refine tq 0 hHeld ?_
 refine tq 1 hHeld ?_
 (refine tc 2 fun K hK=> ?_;go_simp;(go_at_call 26;refine(kSpeed (Cs.hat (hC1.below (bel_a)) (k:=0) (by omega) (by omega)) (by omega) (by omega)).mono ?_;rintro e w3 ⟨rfl,hb3⟩;have hz3:=hb3.size;(try simp only[zz] at hz3);have:=kfa hb3 (w.heap.size+1);have:=kfa hb3 w1.heap.size);(try go_wp2_with fail);refine tr hK (fun hHeld=> ?_);clear hK K)
 (refine tc 3 fun K hK=> ?_;go_simp;(go_at_call 25;refine(kMove_c (k:=0) (C:=fun i _=>V i) (hC1.below (bel_a)) (by omega) (by omega) (spX V) (spY V) _ _ _ _ V (fun _=>rfl) (by omega) (by omega) sx sy rfl rfl rfl rfl).mono ?_;rintro e w4 ⟨rfl,hr4,hF4⟩;have hz4:=hF4.size;(try simp only[zz] at hz4);have hk4x0:=fun o=>hF4.cell (p:=⟨w.heap.size+1,o,none⟩) (by first|omega|(simp;done)|(simp;omega)) (hx _ (by first|omega|(simp;done)|(simp;omega)));have hj4x0:=fun o=>hF4.frozen (p:=⟨w.heap.size+1,o,none⟩) (by first|omega|(simp;done)|(simp;omega)) (hx _ (by first|omega|(simp;done)|(simp;omega)));have hq4x0:w.heap.size+1<w4.heap.size:=(by omega);have hk4x2:=fun o=>hF4.cell (p:=⟨w1.heap.size,o,none⟩) (by first|omega|(simp;done)|(simp;omega)) (hx _ (by first|omega|(simp;done)|(simp;omega)));have hj4x2:=fun o=>hF4.frozen (p:=⟨w1.heap.size,o,none⟩) (by first|omega|(simp;done)|(simp;omega)) (hx _ (by first|omega|(simp;done)|(simp;omega)));have hq4x2:w1.heap.size<w4.heap.size:=(by omega));(try go_wp2_with fail);refine tr hK (fun hHeld=> ?_);clear hK K)
 refine wpAnyH_done (by kernel_rfl) ?_ _
 have hb4:Below w.heap.size w w4:=Below.trans (b:=w3) (bel_a) (hF4.below (by omega) (fun k x=>by have:=hC1.xlt x;omega))
 obtain⟨X,hX⟩:∃ X,X=moveV V (spX V) (spY V):=⟨_,rfl⟩
 have hh:=hr4.hat (k:=0) (by omega) (by omega)
 rw[show (fun i=>setC (setC (setC (setC (fun i _=>V i) 4 0 (clampZ 2560000 (V 4+spX V))) 5 0 (clampZ 2560000 (V 5+spY V))) 6 0 (if clampZ 2560000 (V 4+spX V)=V 4+spX V then V 6 else 0)) 7 0 (if clampZ 2560000 (V 5+spY V)=V 5+spY V then V 7 else 0) i 0)=X from by
  rw[hX]
  funext i
  unfold setC moveV mvX mvY setV
  simp only[and_true]] at hh
 have hXS:Shut (X=moveV V (spX V) (spY V)):=hX
 clear hX
 go_wp2_with (go_at_call 27;refine(kBody hh).mono ?_;rintro e w5 ⟨rfl,hb5⟩;have hz5:=hb5.size;(try simp only[zz] at hz5);have:=kfa hb5 (w.heap.size+1))
 exact bodyPost_ret (v:=bodyW X) (by simp[results,Tryz.results11,go_sem, *]) rfl ⟨by rw[hXS.out],bel_a⟩
theorem step_sr {n:Nat} {U R:Nat→Int} {p:Int} (hR:R=stepU n U p) (a:Option Addr) (c N:Nat) (w:World) (h:Flat w a (n*12) U) (hn:n≤1048576) (hN:(bif (bodsB n U&&okP p) then n else 0)=N):
 Calls Tryz.prog 8 #[.slice a n c,.int .i64 p] w fun e w'=>∃ a1 c1,e= .returned (.slice a1 N c1)∧OutL w w' 35 12 a1 N c1 R:=by subst hR;exact step_s a n c U p w h hn N hN
theorem step_ir {n:Nat} {U R:Nat→Int} {p:Int} (hR:R=stepU n U p) (a:Option Addr) (c N:Nat) (w:World) (h:Flat w a (n*12) U) (hn:n≤1048576) (hg:w.cell? ⟨0,0,none⟩=some (.iface 178 (.agg #[.pointer (some ⟨1,76,none⟩)]))) (hN:(bif (bodsB n U&&okP p) then n else 0)=N):
 Calls Tryz.prog 6 #[.slice a n c,.int .i64 p] w fun e w'=>∃ a1 c1,e= .returned (.slice a1 N c1)∧OutL w w' 35 12 a1 N c1 R:=by subst hR;exact step_i a n c U p w h hn hg N hN
theorem bodySleeps_k (V:Nat→Int) (w:World) (eb:bodyB V=true) (b:Bool) (hb:decide (V 11=8)=b):
 Calls Tryz.prog 10 #[bodyW V] w fun e w'=>e= .returned (.bool b)∧Below w.heap.size w w':=by
 have hset:=cset_map
 subst hb
 go_enter Tryz.func10,Tryz.ntmps10
 go_wp2_with (first
  |(have _:=hC1;go_at_call 24;refine(kSleeps (Cs.hat (hC1.below (bel_a)) (k:=0) (by omega) (by omega))).mono ?_;rintro e w2 ⟨rfl,hb2⟩)
  |(go_at_call 23;refine(handleOf_k V _ true eb).mono ?_;rintro e w1 ⟨cb,S,rfl,hcb,hC1,hb1⟩))
 go_ret
 refine⟨rfl,?_⟩
 have k1:=((Below.refl w.heap.size w).alloc (Nat.le_refl _) _).trans (hb1.mono (by simp))
 have k2:Below w.heap.size w (w1.alloc (Obj.cells #[.int .i64 0,.pointer (some ⟨cb,0,none⟩)] 59)):=k1.alloc k1.size _
 exact k2.trans (hb2.mono k2.size)
structure La (w wz:World) (al:Option Addr) (n:Nat) (U:Nat→Int) (aa aw:Option Addr) (N:Nat) (R:Nat→Bool) (ag:Option Addr) (m:Nat) (G:Nat→Int):Prop where
 fl:Flat wz al (n*12) U
 fa:FlatB wz aa N R
 fw:FlatB wz aw N R
 fg:Flat wz ag (m*1) G
 bel:Below w.heap.size w wz
theorem La.on {w wz w':World} {al aa aw ag:Option Addr} {n N m:Nat} {U G:Nat→Int} {R:Nat→Bool} (h:La w wz al n U aa aw N R ag m G) (hb:Below wz.heap.size wz w'):La w w' al n U aa aw N R ag m G:=⟨h.fl.below hb,h.fa.below (B:=0) hb,h.fw.below (B:=0) hb,h.fg.below hb,h.bel.trans (hb.mono h.bel.size)⟩
theorem La.dr {w wz:World} {al aa aw ag:Option Addr} {n N m:Nat} {U G:Nat→Int} {R:Nat→Bool} (h:La w wz al n U aa aw N R ag m G):La w wz.drew al n U aa aw N R ag m G:=h.on (Below.drew (Below.refl _ _))
end Go.Proofs.YthajilkjfkppoaaGreatDoor
