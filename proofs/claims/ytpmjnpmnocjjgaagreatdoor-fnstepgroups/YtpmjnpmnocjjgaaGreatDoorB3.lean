/- Texts of a proof. -/
import Derived.Test.YtpmjnpmnocjjgaaGreatDoorB1
import Derived.Test.YtpmjnpmnocjjgaaGreatDoorB2
import Derived.Deep.QuietTactic
import Derived.BigQuiet
import Derived.Deep.RegionWith
import Derived.Deep.RegionHeld3
import Derived.Test.YtpmjnpmnocjjgaaGreatDoorRows
import Derived.WalkKit
import Derived.JoinedOf
set_option maxHeartbeats 16000000
set_option maxRecDepth 20000
namespace Go.Proofs.YtpmjnpmnocjjgaaGreatDoor
open Go.RowKit
set_option linter.unusedVariables false
end Go.Proofs.YtpmjnpmnocjjgaaGreatDoor
namespace Go.Proofs.YtpmjnpmnocjjgaaGreatDoor
open Go.RowKit
set_option linter.unusedVariables false
set_option linter.unusedSimpArgs false
theorem l2Clamp_any (x y:Int) (w:World):
 Calls Tryz.prog 144 #[vv x y] w fun e w'=>e= .returned (vv (fc x) (fc y))∧Below w.heap.size w w':=by
 have hset:=cset_map
 go_enter Tryz.func144,Tryz.ntmps144
 go_wp2
 go_region_with (go_at_call 145;refine(sFixClamp_any _ _).mono ?_;rintro e w' ⟨rfl,rfl⟩)
 all_goals
  go_wp2
  exact bodyPost_ret (v:=vv (fc x) (fc y)) (by simp[results,Tryz.results144,go_sem, *]) rfl ⟨rfl,bel_a⟩
theorem l1In_any (n l h:Int) (w:World):
 Calls Tryz.prog 16 #[.int .i64 n,.int .i64 l,.int .i64 h] w fun e w'=>e= .returned (.bool (decide (l≤n∧n≤h)))∧w'=w:=by
 go_enter Tryz.func16,Tryz.ntmps16
 go_wp2
 all_goals
  go_ret
  refine⟨ret_bool ?_,rfl⟩
  first|(simp;omega)|(simp;done)
theorem sVecSub_any (x y u v:Int) (w:World):
 Calls Tryz.prog 128 #[vv x y,vv u v] w fun e w'=>e= .returned (vv (fc (fc x-fc u)) (fc (fc y-fc v)))∧Below w.heap.size w w':=by
 have hx:=fc_bd x
 have hy:=fc_bd y
 have hu:=fc_bd u
 have hv:=fc_bd v
 have hset:=cset_map
 go_enter Tryz.func128,Tryz.ntmps128
 go_wp2_with (go_at_call 144;refine(l2Clamp_any _ _ _).mono ?_;rintro e w1 ⟨rfl,hb1⟩;obtain⟨hc1,hf1⟩:=bcell hb1;have hz1:=hb1.size;(try simp at hz1);have hq1x0a:w.heap.size<w1.heap.size:=(by omega);have hq1x1a:w.heap.size+1<w1.heap.size:=(by omega);have hq1x2a:w.heap.size+1+1<w1.heap.size:=(by omega);have hq1x2b:w.heap.size+2<w1.heap.size:=(by omega))
 exact bodyPost_ret (v:=vv (fc (fc x-fc u)) (fc (fc y-fc v))) (by simp[results,Tryz.results128,go_sem, *]) rfl ⟨rfl,bel_a⟩
theorem sVecDot_any (x y u v:Int) (w:World):
 Calls Tryz.prog 127 #[vv x y,vv u v] w fun e w'=>e= .returned (.int .i64 (vdot x y u v))∧Below w.heap.size w w':=by
 have hx:=fc_bd x
 have hy:=fc_bd y
 have hu:=fc_bd u
 have hv:=fc_bd v
 have p:=mul_bd hx hu
 have q:=mul_bd hy hv
 have hset:=cset_map
 go_enter Tryz.func127,Tryz.ntmps127
 go_wp2_with (first
  |(go_at_call 144;refine(l2Clamp_any _ _ _).mono ?_;rintro e w1 ⟨rfl,hb1⟩;obtain⟨hc1,hf1⟩:=bcell hb1;have hz1:=hb1.size;(try simp at hz1);have hq1x0a:w.heap.size<w1.heap.size:=(by omega);have hq1x1a:w.heap.size+1<w1.heap.size:=(by omega))
  |(go_at_call 145;refine(sFixClamp_any _ _).mono ?_;rintro e w' ⟨rfl,rfl⟩))
 go_ret
 exact⟨rfl,bel_a⟩
def szB (n:Int):Bool:=decide (1≤n∧n≤25600)
theorem isSize_any (n:Int) (w:World):
 Calls Tryz.prog 129 #[.int .i64 n] w fun e w'=>e= .returned (.bool (szB n))∧w'=w:=by
 go_enter Tryz.func129,Tryz.ntmps129
 go_wp2
 all_goals
  go_ret
  refine⟨ret_bool ?_,rfl⟩
  unfold szB
  first|(simp;omega)|(simp;done)
def rdB (k wd h:Int):Bool:=decide (k=1∧(1≤wd∧wd≤25600)∧h=0)
def bxB (k wd h:Int):Bool:=decide (k=2∧(1≤wd∧wd≤25600)∧(1≤h∧h≤25600))
def shB (k wd h:Int):Bool:=rdB k wd h||bxB k wd h
abbrev s3 (k wd h:Int):Value:= .agg #[.int .i64 k,.int .i64 wd,.int .i64 h]
theorem figureOf_round (wd:Int) (w:World) (h1:1≤wd) (h2:wd≤25600):
 Calls Tryz.prog 106 #[s3 1 wd 0] w fun e w'=>e= .returned (.tuple #[.iface 195 (.agg #[.int .i64 wd]),.bool true])∧Below w.heap.size w w':=by
 have hs:szB wd=true:=by unfold szB;simp;omega
 go_enter Tryz.func106,Tryz.ntmps106
 go_wp2_with (go_at_call 129;refine(isSize_any _ _).mono ?_;rintro e w' ⟨rfl,rfl⟩)
 go_ret2
 exact⟨rfl,(Below.refl _ _).alloc (Nat.le_refl _) _⟩
theorem figureOf_box (wd h:Int) (w:World) (h1:1≤wd) (h2:wd≤25600) (h3:1≤h) (h4:h≤25600):
 Calls Tryz.prog 106 #[s3 2 wd h] w fun e w'=>e= .returned (.tuple #[.iface 197 (.agg #[.int .i64 wd,.int .i64 h]),.bool true])∧Below w.heap.size w w':=by
 have hs:szB wd=true:=by unfold szB;simp;omega
 have hs2:szB h=true:=by unfold szB;simp;omega
 go_enter Tryz.func106,Tryz.ntmps106
 go_wp2_with (go_at_call 129;refine(isSize_any _ _).mono ?_;rintro e w' ⟨rfl,rfl⟩)
 go_ret2
 exact⟨rfl,(Below.refl _ _).alloc (Nat.le_refl _) _⟩
theorem figureOf_none (k wd h:Int) (w:World) (hn:shB k wd h=false):
 Calls Tryz.prog 106 #[s3 k wd h] w fun e w'=>e= .returned (.tuple #[.nilIface,.bool false])∧Below w.heap.size w w':=by
 have HN:Hid (¬ ((k=1∧(1≤wd∧wd≤25600)∧h=0)∨(k=2∧(1≤wd∧wd≤25600)∧(1≤h∧h≤25600)))):=by
  unfold shB rdB bxB at hn
  simp only[Bool.or_eq_false_iff,decide_eq_false_iff_not] at hn
  rintro(h|h)
  · exact hn.1 h
  · exact hn.2 h
 clear hn
 have hsz:Hid (∀ n,szB n=true→1≤n∧n≤25600):=by intro n hn;unfold szB at hn;simpa using hn
 go_enter Tryz.func106,Tryz.ntmps106
 go_wp2_with (go_at_call 129;refine(isSize_any _ _).mono ?_;rintro e w' ⟨rfl,rfl⟩)
 all_goals
  first
   |(go_ret2;exact⟨rfl,(Below.refl _ _).alloc (Nat.le_refl _) _⟩)
   |(exfalso;subst k;exact HN.out (.inl ⟨rfl,hsz.out _ ‹_›,by simpa using ‹(h==0)=true›⟩))
   |(exfalso;subst k;exact HN.out (.inr ⟨rfl,hsz.out _ ‹szB wd=true›,hsz.out _ ‹szB h=true›⟩))
theorem shapeOk_any (k wd h:Int) (w:World):
 Calls Tryz.prog 72 #[s3 k wd h] w fun e w'=>e= .returned (.bool (shB k wd h))∧Below w.heap.size w w':=by
 by_cases hr:rdB k wd h=true
 · have e:shB k wd h=true:=by unfold shB;rw[hr];rfl
   have E:Hid (shB k wd h=true):=e
   clear e
   unfold rdB at hr
   obtain⟨rfl,⟨h1,h2⟩,rfl⟩:=of_decide_eq_true hr
   clear hr
   go_enter Tryz.func72,Tryz.ntmps72
   go_wp2_with (go_at_call 106;refine(figureOf_round _ _ h1 h2).mono ?_;rintro e w1 ⟨rfl,hb1⟩)
   go_ret
   exact⟨ret_bool E.out.symm,((Below.refl _ _).alloc (Nat.le_refl _) _).trans (hb1.mono (by simp))⟩
 · by_cases hb:bxB k wd h=true
   · have e:shB k wd h=true:=by unfold shB;rw[hb];simp
     have E:Hid (shB k wd h=true):=e
     clear e hr
     unfold bxB at hb
     obtain⟨rfl,⟨h1,h2⟩,h3,h4⟩:=of_decide_eq_true hb
     clear hb
     go_enter Tryz.func72,Tryz.ntmps72
     go_wp2_with (go_at_call 106;refine(figureOf_box _ _ _ h1 h2 h3 h4).mono ?_;rintro e w1 ⟨rfl,hb1⟩)
     go_ret
     exact⟨ret_bool E.out.symm,((Below.refl _ _).alloc (Nat.le_refl _) _).trans (hb1.mono (by simp))⟩
   · have e:shB k wd h=false:=by unfold shB;simp[hr,hb]
     have E:Hid (shB k wd h=false):=e
     clear e hr hb
     go_enter Tryz.func72,Tryz.ntmps72
     go_wp2_with (go_at_call 106;refine(figureOf_none _ _ _ _ E.out).mono ?_;rintro e w1 ⟨rfl,hb1⟩)
     go_ret
     exact⟨ret_bool E.out.symm,((Below.refl _ _).alloc (Nat.le_refl _) _).trans (hb1.mono (by simp))⟩
theorem sShapeOk_any (k wd h:Int) (w:World):
 Calls Tryz.prog 58 #[s3 k wd h] w fun e w'=>e= .returned (.bool (shB k wd h))∧Below w.heap.size w w':=by
 go_enter Tryz.func58,Tryz.ntmps58
 go_wp2_with (go_at_call 16;refine(l1In_any _ _ _ _).mono ?_;rintro e w' ⟨rfl,rfl⟩)
 all_goals
  go_ret
  refine⟨ret_bool ?_,(Below.refl _ _).alloc (Nat.le_refl _) _⟩
  unfold shB rdB bxB
  first|(simp[*];done)|(simp at*;subst k;simp[*];done)|(simp at*;subst k;simp[*];rfl)|(simp at*;subst k;simp;omega)|(simp at*;simp[*];done)
abbrev b4 (a b c d:Int):Value:= .agg #[.int .i64 a,.int .i64 b,.int .i64 c,.int .i64 d]
def leB (x y u v:Int):Bool:=decide (x≤u∧y≤v)
def bokB (a b c d:Int):Bool:=vokB a b&&(vokB c d&&leB a b c d)
theorem noneGreater_any (x y u v:Int) (w:World):
 Calls Tryz.prog 190 #[vv x y,vv u v] w fun e w'=>e= .returned (.bool (leB x y u v))∧Below w.heap.size w w':=by
 have hset:=cset_map
 go_enter Tryz.func190,Tryz.ntmps190
 go_wp2
 all_goals
  go_ret
  refine⟨ret_bool ?_,bel_a⟩
  unfold leB
  first|(simp;done)|(simp;omega)|(simp at*;omega)
theorem run_eq_vec (n d:Nat) (hn:n=d+1) (a b x y:Int) (w:World):(Op.equalIn (n+1) 33 (.agg #[.int .i64 a,.int .i64 b]) (.agg #[.int .i64 x,.int .i64 y])).run Tryz.prog w= .ok (a==x&&b==y) w:=by
 have hi:Tryz.prog.underlying 3=some (.int .i64):=by kernel_rfl
 have hs:Tryz.prog.stoodInHeld 33=false:=by kernel_rfl
 have hp:∀ w,(program).run Tryz.prog w= .ok Tryz.prog w:=fun w=>by rfl
 have p0:∀ (a b:Int) w,(part 3 #[.int .i64 a,.int .i64 b] 0).run Tryz.prog w= .ok (.int .i64 a) w:=fun a b w=>by kernel_rfl
 have p1:∀ (a b:Int) w,(part 3 #[.int .i64 a,.int .i64 b] 1).run Tryz.prog w= .ok (.int .i64 b) w:=fun a b w=>by kernel_rfl
 simp only[Op.equalIn,Sem.run_bind,run_underlying Tryz.underlying33,Result.andThen_ok,hp,hs,Bool.false_eq_true,if_false,Sem.run_pure]
 subst hn
 have h0:∀ w,(Op.equalIn (d+1) 3 (.int .i64 a) (.int .i64 x)).run Tryz.prog w= .ok (a==x) w:=fun w=>run_equalIn_int w d 3 .i64 .i64 a x hi
 have h1:∀ w,(Op.equalIn (d+1) 3 (.int .i64 b) (.int .i64 y)).run Tryz.prog w= .ok (b==y) w:=fun w=>run_equalIn_int w d 3 .i64 .i64 b y hi
 simp only[List.forIn_toArray,List.forIn_cons,List.forIn_nil,Sem.run_bind,p0,h0,Result.andThen_ok,Sem.run_ite,Sem.run_pure]
 cases hx:(a==x)<;>cases hy:(b==y)<;>simp[Sem.run_bind,p0,p1,h0,h1,Sem.run_ite,hx,hy]
theorem eq_vec0 (a b x y:Int) (w:World):(Op.equalIn 10000 33 (.agg #[.int .i64 a,.int .i64 b]) (.agg #[.int .i64 x,.int .i64 y])).run Tryz.prog w= .ok (a==x&&b==y) w:=run_eq_vec 9999 9998 rfl a b x y w
def stp (G:Nat→Nat):Option (Nat×Nat)→Nat→Nat
 |none=>G
 |some (A,B)=>fun j=>if j=A∨j=B then min (G A) (G B) else G j
def rnd (E:Nat→Option (Nat×Nat)) (G:Nat→Nat):Nat→Nat→Nat
 |0=>G
 |k+1=>stp (rnd E G k) (E k)
def rnds (E:Nat→Option (Nat×Nat)) (M:Nat):Nat→Nat→Nat
 |0=>fun j=>j
 |r+1=>rnd E (rnds E M r) M
def jn (L:Nat→Nat):Option (Nat×Nat)→Nat→Nat
 |none=>L
 |some (A,B)=>fun j=>if L j=max (L A) (L B) then min (L A) (L B) else L j
def lab (E:Nat→Option (Nat×Nat)):Nat→Nat→Nat
 |0=>fun j=>j
 |k+1=>jn (lab E k) (E k)
theorem lab_le (E:Nat→Option (Nat×Nat)):∀ k j,lab E k j≤j
 |0,j=>Nat.le_refl _
 | k+1,j=>by
   have ih:=lab_le E k
   rw[lab]
   cases h:E k with
   |none=>exact ih j
   | some p=>
     obtain⟨A,B⟩:=p
     show (if lab E k j=max (lab E k A) (lab E k B) then min (lab E k A) (lab E k B) else lab E k j)≤j
     have:=ih j
     split<;>omega
theorem lab_edge (E:Nat→Option (Nat×Nat)):∀ k i A B,i<k→E i=some (A,B)→lab E k A=lab E k B
 |0,i,_,_,h,_=>absurd h (Nat.not_lt_zero _)
 | k+1,i,A,B,h,e=>by
   rw[lab]
   cases hk:E k with
   | none=>
     by_cases hi:i=k
     · subst hi;rw[hk] at e;cases e
     · exact lab_edge E k i A B (by omega) e
   | some p=>
     obtain⟨C,D⟩:=p
     show (if lab E k A=max (lab E k C) (lab E k D) then min (lab E k C) (lab E k D) else lab E k A)=(if lab E k B=max (lab E k C) (lab E k D) then min (lab E k C) (lab E k D) else lab E k B)
     by_cases hi:i=k
     · subst hi
       rw[hk] at e
       simp only[Option.some.injEq,Prod.mk.injEq] at e
       obtain⟨rfl,rfl⟩:=e
       split<;>split<;>omega
     · rw[lab_edge E k i A B (by omega) e]
theorem lab_set (E:Nat→Option (Nat×Nat)) (X:Nat→Prop):∀ k,(∀ i A B,i<k→E i=some (A,B)→(X A↔X B))→∀ j,(X (lab E k j)↔X j)
 |0,_,j=>Iff.rfl
 | k+1,hX,j=>by
   have ih:=lab_set E X k (fun i A B h e=>hX i A B (by omega) e)
   rw[lab]
   cases hk:E k with
   |none=>exact ih j
   | some p=>
     obtain⟨A,B⟩:=p
     show X (if lab E k j=max (lab E k A) (lab E k B) then min (lab E k A) (lab E k B) else lab E k j)↔X j
     have hAB:=hX k A B (Nat.lt_succ_self _) hk
     have h1:=ih A
     have h2:=ih B
     have h3:=ih j
     by_cases e:lab E k j=max (lab E k A) (lab E k B)
     · rw[if_pos e]
       rcases Nat.le_total (lab E k A) (lab E k B) with q|q
       · rw[Nat.min_eq_left q]
         rw[Nat.max_eq_right q] at e
         rw[e] at h3
         exact h1.trans (hAB.trans (h2.symm.trans h3))
       · rw[Nat.min_eq_right q]
         rw[Nat.max_eq_left q] at e
         rw[e] at h3
         exact h2.trans (hAB.symm.trans (h1.symm.trans h3))
     · rw[if_neg e];exact h3
theorem lab_idem (E:Nat→Option (Nat×Nat)) (k j:Nat):lab E k (lab E k j)=lab E k j:=
 (lab_set E (fun x=>lab E k x=lab E k j) k (fun i A B h e=>by rw[lab_edge E k i A B h e]) j).2 rfl
theorem stp_le (G:Nat→Nat) (e:Option (Nat×Nat)) (j:Nat):stp G e j≤G j:=by
 cases e with
 |none=>exact Nat.le_refl _
 | some p=>
   obtain⟨A,B⟩:=p
   show (if j=A∨j=B then min (G A) (G B) else G j)≤G j
   by_cases h:j=A∨j=B
   · rw[if_pos h]
     rcases h with rfl|rfl
     · exact Nat.min_le_left _ _
     · exact Nat.min_le_right _ _
   · rw[if_neg h];exact Nat.le_refl _
theorem rnd_le (E:Nat→Option (Nat×Nat)) (G:Nat→Nat):∀ k j,rnd E G k j≤G j
 |0,_=>Nat.le_refl _
 |k+1,j=>Nat.le_trans (stp_le _ _ _) (rnd_le E G k j)
theorem rnd_mono (E:Nat→Option (Nat×Nat)) (G:Nat→Nat) (k:Nat):∀ m,k≤m→∀ j,rnd E G m j≤rnd E G k j
 | 0,h,j=>by
   obtain rfl:k=0:=by omega
   exact Nat.le_refl _
 | m+1,h,j=>by
   by_cases e:k=m+1
   · subst e;exact Nat.le_refl _
   · exact Nat.le_trans (stp_le _ _ _) (rnd_mono E G k m (by omega) j)
def Same (L G:Nat→Nat):Prop:=∀ j,L (G j)=L j
theorem stp_same {L G:Nat→Nat} {e:Option (Nat×Nat)} (h:Same L G) (he:∀ A B,e=some (A,B)→L A=L B):Same L (stp G e):=by
 intro j
 cases e with
 |none=>exact h j
 | some p=>
   obtain⟨A,B⟩:=p
   have q:=he A B rfl
   show L (if j=A∨j=B then min (G A) (G B) else G j)=L j
   by_cases hj:j=A∨j=B
   · rw[if_pos hj]
     have hm:L (min (G A) (G B))=L A:=by
      rcases Nat.le_total (G A) (G B) with z|z
      · rw[Nat.min_eq_left z];exact h A
      · rw[Nat.min_eq_right z];exact(h B).trans q.symm
     rw[hm]
     rcases hj with rfl|rfl
     · rfl
     · exact q
   · rw[if_neg hj];exact h j
theorem rnd_same {E:Nat→Option (Nat×Nat)} {L G:Nat→Nat} {M:Nat} (hE:∀ i A B,i<M→E i=some (A,B)→L A=L B) (h:Same L G):∀ k,k≤M→Same L (rnd E G k)
 |0,_=>h
 |k+1,hk=>stp_same (rnd_same hE h k (by omega)) (fun A B e=>hE k A B (by omega) e)
theorem rnds_same {E:Nat→Option (Nat×Nat)} {L:Nat→Nat} {M:Nat} (hE:∀ i A B,i<M→E i=some (A,B)→L A=L B):∀ r,Same L (rnds E M r)
 |0=>fun _=>rfl
 |r+1=>rnd_same hE (rnds_same hE r) M (Nat.le_refl _)
theorem rnds_le (E:Nat→Option (Nat×Nat)) (M:Nat):∀ r j,rnds E M r j≤j
 |0,_=>Nat.le_refl _
 |r+1,j=>Nat.le_trans (rnd_le E _ M j) (rnds_le E M r j)
def cntp (p:Nat→Bool):Nat→Nat
 |0=>0
 |n+1=>cntp p n+(if p n=true then 1 else 0)
theorem cntp_le (p:Nat→Bool):∀ n,cntp p n≤n
 |0=>Nat.le_refl _
 |n+1=>by have:=cntp_le p n;rw[cntp];split<;>omega
theorem cntp_mono {p q:Nat→Bool}:∀ n,(∀ v,v<n→p v=true→q v=true)→cntp p n≤cntp q n
 |0,_=>Nat.le_refl _
 | n+1,h=>by
   have a:=cntp_mono (p:=p) (q:=q) n (fun v hv=>h v (by omega))
   have b:=h n (by omega)
   rw[cntp,cntp]
   by_cases e:p n=true
   · rw[if_pos e,if_pos (b e)];omega
   · rw[if_neg e];omega
theorem cntp_lt {p q:Nat→Bool} {y:Nat}:∀ n,y<n→(∀ v,v<n→p v=true→q v=true)→p y=false→q y=true→cntp p n<cntp q n
 |0,h,_,_,_=>absurd h (Nat.not_lt_zero _)
 | n+1,h,hm,h1,h2=>by
   rw[cntp,cntp]
   by_cases e:y=n
   · subst e
     have a:=cntp_mono (p:=p) (q:=q) y (fun v hv=>hm v (by omega))
     rw[if_neg (by rw[h1];simp),if_pos h2];omega
   · have a:=cntp_lt n (by omega) (fun v hv=>hm v (by omega)) h1 h2
     have b:=hm n (by omega)
     by_cases z:p n=true
     · rw[if_pos z,if_pos (b z)];omega
     · rw[if_neg z];omega
theorem rnds_lab (E:Nat→Option (Nat×Nat)) (M n:Nat) (hE:∀ i A B,i<M→E i=some (A,B)→A<n∧B<n):∀ v,v<n→rnds E M n v=lab E M v:=by
 have hedge:=fun i A B (h:i<M) (e:E i=some (A,B))=>lab_edge E M i A B h e
 have hsame:=rnds_same (E:=E) (L:=lab E M) (M:=M) hedge
 have hge:∀ r j,lab E M j≤rnds E M r j:=fun r j=>by
  have a:=lab_le E M (rnds E M r j)
  rw[hsame r j] at a
  exact a
 have key:∀ r,(∀ v,v<n→rnds E M r v=lab E M v)∨r<cntp (fun v=>decide (rnds E M r v=lab E M v)) n:=by
  intro r
  induction r with
  | zero=>
    by_cases h0:n=0
    · left;intro v hv;omega
    · right
      have z:lab E M 0=0:=by have:=lab_le E M 0;omega
      have:=cntp_lt (p:=fun _=>false) (q:=fun v=>decide (rnds E M 0 v=lab E M v)) (y:=0) n (by omega) (fun _ _ h=>by cases h) rfl (by show decide (0=lab E M 0)=true;rw[z];rfl)
      omega
  | succ r ih=>
    have mono:∀ v,rnds E M r v=lab E M v→rnds E M (r+1) v=lab E M v:=fun v e=>by
     have a:=rnd_le E (rnds E M r) M v
     have b:=hge (r+1) v
     have c:rnds E M (r+1) v=rnd E (rnds E M r) M v:=rfl
     omega
    rcases ih with ih|ih
    · left;intro v hv;exact mono v (ih v hv)
    · by_cases all:∀ v,v<n→rnds E M (r+1) v=lab E M v
      · left;exact all
      · right
        -- an edge that parts what is there from what is not
        have cross:∃ y,y<n∧rnds E M r y≠lab E M y∧rnds E M (r+1) y=lab E M y:=by
         refine Classical.byContradiction fun hno=>all fun v hv=>mono v ?_
         have closed:∀ i A B,i<M→E i=some (A,B)→(rnds E M r A=lab E M A↔rnds E M r B=lab E M B):=by
          intro i A B hi e
          have hb:=hE i A B hi e
          have hl:=hedge i A B hi e
          have st:rnd E (rnds E M r) (i+1) A=min (rnd E (rnds E M r) i A) (rnd E (rnds E M r) i B)∧rnd E (rnds E M r) (i+1) B=min (rnd E (rnds E M r) i A) (rnd E (rnds E M r) i B):=by
           constructor
           · show stp _ (E i) A=_;rw[e];show (if A=A∨A=B then _ else _)=_;rw[if_pos (.inl rfl)]
           · show stp _ (E i) B=_;rw[e];show (if B=A∨B=B then _ else _)=_;rw[if_pos (.inr rfl)]
          have mA:=rnd_mono E (rnds E M r) (i+1) M (by omega) A
          have mB:=rnd_mono E (rnds E M r) (i+1) M (by omega) B
          have lA:=rnd_le E (rnds E M r) i A
          have lB:=rnd_le E (rnds E M r) i B
          have gA:=hge (r+1) A
          have gB:=hge (r+1) B
          have cA:rnds E M (r+1) A=rnd E (rnds E M r) M A:=rfl
          have cB:rnds E M (r+1) B=rnd E (rnds E M r) M B:=rfl
          rw[cA] at gA
          rw[cB] at gB
          have eA:=st.1
          have eB:=st.2
          constructor
          · intro h
            refine Classical.byContradiction fun hn=>hno ⟨B,hb.2,hn,?_⟩
            rw[cB]
            have:=Nat.min_le_left (rnd E (rnds E M r) i A) (rnd E (rnds E M r) i B)
            omega
          · intro h
            refine Classical.byContradiction fun hn=>hno ⟨A,hb.1,hn,?_⟩
            rw[cA]
            have:=Nat.min_le_right (rnd E (rnds E M r) i A) (rnd E (rnds E M r) i B)
            omega
         refine(lab_set E (fun x=>rnds E M r x=lab E M x) M closed v).1 ?_
         have a:=rnds_le E M r (lab E M v)
         have b:=hge r (lab E M v)
         rw[lab_idem] at b ⊢
         omega
        obtain⟨y,hy,h1,h2⟩:=cross
        have:=cntp_lt (p:=fun v=>decide (rnds E M r v=lab E M v)) (q:=fun v=>decide (rnds E M (r+1) v=lab E M v)) (y:=y) n hy (fun v _ h=>decide_eq_true (mono v (of_decide_eq_true h))) (decide_eq_false h1) (decide_eq_true h2)
        omega
 rcases key n with h|h
 · exact h
 · have:=cntp_le (fun v=>decide (rnds E M n v=lab E M v)) n
   omega
theorem run_eq_shape (n d:Nat) (hn:n=d+1) (a b c:Int) (w:World):(Op.equalIn (n+1) 31 (.agg #[.int .i64 a,.int .i64 b,.int .i64 c]) (.agg #[.int .i64 a,.int .i64 b,.int .i64 c])).run Tryz.prog w= .ok true w:=by
 have hi:Tryz.prog.underlying 3=some (.int .i64):=by kernel_rfl
 have hs:Tryz.prog.stoodInHeld 31=false:=by kernel_rfl
 have hp:∀ w,(program).run Tryz.prog w= .ok Tryz.prog w:=fun w=>by rfl
 have p0:∀ (a b c:Int) w,(part 3 #[.int .i64 a,.int .i64 b,.int .i64 c] 0).run Tryz.prog w= .ok (.int .i64 a) w:=fun a b c w=>by kernel_rfl
 have p1:∀ (a b c:Int) w,(part 3 #[.int .i64 a,.int .i64 b,.int .i64 c] 1).run Tryz.prog w= .ok (.int .i64 b) w:=fun a b c w=>by kernel_rfl
 have p2:∀ (a b c:Int) w,(part 3 #[.int .i64 a,.int .i64 b,.int .i64 c] 2).run Tryz.prog w= .ok (.int .i64 c) w:=fun a b c w=>by kernel_rfl
 simp only[Op.equalIn,Sem.run_bind,run_underlying Tryz.underlying31,Result.andThen_ok,hp,hs,Bool.false_eq_true,if_false,Sem.run_pure]
 subst hn
 have h0:∀ w,(Op.equalIn (d+1) 3 (.int .i64 a) (.int .i64 a)).run Tryz.prog w= .ok true w:=fun w=>by rw[run_equalIn_int w (d+0) 3 .i64 .i64 a a hi];simp
 have h1:∀ w,(Op.equalIn (d+1) 3 (.int .i64 b) (.int .i64 b)).run Tryz.prog w= .ok true w:=fun w=>by rw[run_equalIn_int w (d+0) 3 .i64 .i64 b b hi];simp
 have h2:∀ w,(Op.equalIn (d+1) 3 (.int .i64 c) (.int .i64 c)).run Tryz.prog w= .ok true w:=fun w=>by rw[run_equalIn_int w (d+0) 3 .i64 .i64 c c hi];simp
 simp only[List.forIn_toArray,List.forIn_cons,List.forIn_nil,Sem.run_bind,p0,h0,Result.andThen_ok,Sem.run_ite,Sem.run_pure]
 simp[Sem.run_bind,p0,h0,p1,h1,p2,h2,Sem.run_ite]
theorem run_eq_body (n d:Nat) (hn:n=d+3) (x0 x1 x2 x3 x4 x5 x6 x7 x8 x9 x10 x11:Int) (w:World):(Op.equalIn (n+1) 35 (.agg #[.int .i64 x0,.int .i64 x1,.int .i64 x2,.int .i64 x3,.int .i64 x4,.int .i64 x5,.int .i64 x6,.int .i64 x7,.int .i64 x8,.int .i64 x9,.int .i64 x10,.int .i64 x11]) (.agg #[.int .i64 x0,.int .i64 x1,.int .i64 x2,.int .i64 x3,.int .i64 x4,.int .i64 x5,.int .i64 x6,.int .i64 x7,.int .i64 x8,.int .i64 x9,.int .i64 x10,.int .i64 x11])).run Tryz.prog w= .ok true w:=by
 have hi:Tryz.prog.underlying 3=some (.int .i64):=by kernel_rfl
 have hs:Tryz.prog.stoodInHeld 35=false:=by kernel_rfl
 have hp:∀ w,(program).run Tryz.prog w= .ok Tryz.prog w:=fun w=>by rfl
 have p0:∀ (x0 x1 x2 x3 x4 x5 x6 x7 x8 x9 x10 x11:Int) w,(part 3 #[.int .i64 x0,.int .i64 x1,.int .i64 x2,.int .i64 x3,.int .i64 x4,.int .i64 x5,.int .i64 x6,.int .i64 x7,.int .i64 x8,.int .i64 x9,.int .i64 x10,.int .i64 x11] 0).run Tryz.prog w= .ok (.int .i64 x0) w:=fun x0 x1 x2 x3 x4 x5 x6 x7 x8 x9 x10 x11 w=>by kernel_rfl
 have p1:∀ (x0 x1 x2 x3 x4 x5 x6 x7 x8 x9 x10 x11:Int) w,(part 31 #[.int .i64 x0,.int .i64 x1,.int .i64 x2,.int .i64 x3,.int .i64 x4,.int .i64 x5,.int .i64 x6,.int .i64 x7,.int .i64 x8,.int .i64 x9,.int .i64 x10,.int .i64 x11] 1).run Tryz.prog w= .ok (.agg #[.int .i64 x1,.int .i64 x2,.int .i64 x3]) w:=fun x0 x1 x2 x3 x4 x5 x6 x7 x8 x9 x10 x11 w=>by kernel_rfl
 have p2:∀ (x0 x1 x2 x3 x4 x5 x6 x7 x8 x9 x10 x11:Int) w,(part 33 #[.int .i64 x0,.int .i64 x1,.int .i64 x2,.int .i64 x3,.int .i64 x4,.int .i64 x5,.int .i64 x6,.int .i64 x7,.int .i64 x8,.int .i64 x9,.int .i64 x10,.int .i64 x11] 4).run Tryz.prog w= .ok (.agg #[.int .i64 x4,.int .i64 x5]) w:=fun x0 x1 x2 x3 x4 x5 x6 x7 x8 x9 x10 x11 w=>by kernel_rfl
 have p3:∀ (x0 x1 x2 x3 x4 x5 x6 x7 x8 x9 x10 x11:Int) w,(part 33 #[.int .i64 x0,.int .i64 x1,.int .i64 x2,.int .i64 x3,.int .i64 x4,.int .i64 x5,.int .i64 x6,.int .i64 x7,.int .i64 x8,.int .i64 x9,.int .i64 x10,.int .i64 x11] 6).run Tryz.prog w= .ok (.agg #[.int .i64 x6,.int .i64 x7]) w:=fun x0 x1 x2 x3 x4 x5 x6 x7 x8 x9 x10 x11 w=>by kernel_rfl
 have p4:∀ (x0 x1 x2 x3 x4 x5 x6 x7 x8 x9 x10 x11:Int) w,(part 3 #[.int .i64 x0,.int .i64 x1,.int .i64 x2,.int .i64 x3,.int .i64 x4,.int .i64 x5,.int .i64 x6,.int .i64 x7,.int .i64 x8,.int .i64 x9,.int .i64 x10,.int .i64 x11] 8).run Tryz.prog w= .ok (.int .i64 x8) w:=fun x0 x1 x2 x3 x4 x5 x6 x7 x8 x9 x10 x11 w=>by kernel_rfl
 have p5:∀ (x0 x1 x2 x3 x4 x5 x6 x7 x8 x9 x10 x11:Int) w,(part 3 #[.int .i64 x0,.int .i64 x1,.int .i64 x2,.int .i64 x3,.int .i64 x4,.int .i64 x5,.int .i64 x6,.int .i64 x7,.int .i64 x8,.int .i64 x9,.int .i64 x10,.int .i64 x11] 9).run Tryz.prog w= .ok (.int .i64 x9) w:=fun x0 x1 x2 x3 x4 x5 x6 x7 x8 x9 x10 x11 w=>by kernel_rfl
 have p6:∀ (x0 x1 x2 x3 x4 x5 x6 x7 x8 x9 x10 x11:Int) w,(part 3 #[.int .i64 x0,.int .i64 x1,.int .i64 x2,.int .i64 x3,.int .i64 x4,.int .i64 x5,.int .i64 x6,.int .i64 x7,.int .i64 x8,.int .i64 x9,.int .i64 x10,.int .i64 x11] 10).run Tryz.prog w= .ok (.int .i64 x10) w:=fun x0 x1 x2 x3 x4 x5 x6 x7 x8 x9 x10 x11 w=>by kernel_rfl
 have p7:∀ (x0 x1 x2 x3 x4 x5 x6 x7 x8 x9 x10 x11:Int) w,(part 3 #[.int .i64 x0,.int .i64 x1,.int .i64 x2,.int .i64 x3,.int .i64 x4,.int .i64 x5,.int .i64 x6,.int .i64 x7,.int .i64 x8,.int .i64 x9,.int .i64 x10,.int .i64 x11] 11).run Tryz.prog w= .ok (.int .i64 x11) w:=fun x0 x1 x2 x3 x4 x5 x6 x7 x8 x9 x10 x11 w=>by kernel_rfl
 simp only[Op.equalIn,Sem.run_bind,run_underlying Tryz.underlying35,Result.andThen_ok,hp,hs,Bool.false_eq_true,if_false,Sem.run_pure]
 subst hn
 have h0:∀ w,(Op.equalIn (d+3) 3 (.int .i64 x0) (.int .i64 x0)).run Tryz.prog w= .ok true w:=fun w=>by rw[run_equalIn_int w (d+2) 3 .i64 .i64 x0 x0 hi];simp
 have h1:∀ w,(Op.equalIn (d+3) 31 (.agg #[.int .i64 x1,.int .i64 x2,.int .i64 x3]) (.agg #[.int .i64 x1,.int .i64 x2,.int .i64 x3])).run Tryz.prog w= .ok true w:=fun w=>run_eq_shape (d+2) (d+1) rfl x1 x2 x3 w
 have h2:∀ w,(Op.equalIn (d+3) 33 (.agg #[.int .i64 x4,.int .i64 x5]) (.agg #[.int .i64 x4,.int .i64 x5])).run Tryz.prog w= .ok true w:=fun w=>by rw[run_eq_vec (d+2) (d+1) rfl];simp
 have h3:∀ w,(Op.equalIn (d+3) 33 (.agg #[.int .i64 x6,.int .i64 x7]) (.agg #[.int .i64 x6,.int .i64 x7])).run Tryz.prog w= .ok true w:=fun w=>by rw[run_eq_vec (d+2) (d+1) rfl];simp
 have h4:∀ w,(Op.equalIn (d+3) 3 (.int .i64 x8) (.int .i64 x8)).run Tryz.prog w= .ok true w:=fun w=>by rw[run_equalIn_int w (d+2) 3 .i64 .i64 x8 x8 hi];simp
 have h5:∀ w,(Op.equalIn (d+3) 3 (.int .i64 x9) (.int .i64 x9)).run Tryz.prog w= .ok true w:=fun w=>by rw[run_equalIn_int w (d+2) 3 .i64 .i64 x9 x9 hi];simp
 have h6:∀ w,(Op.equalIn (d+3) 3 (.int .i64 x10) (.int .i64 x10)).run Tryz.prog w= .ok true w:=fun w=>by rw[run_equalIn_int w (d+2) 3 .i64 .i64 x10 x10 hi];simp
 have h7:∀ w,(Op.equalIn (d+3) 3 (.int .i64 x11) (.int .i64 x11)).run Tryz.prog w= .ok true w:=fun w=>by rw[run_equalIn_int w (d+2) 3 .i64 .i64 x11 x11 hi];simp
 simp only[List.forIn_toArray,List.forIn_cons,List.forIn_nil,Sem.run_bind,p0,h0,Result.andThen_ok,Sem.run_ite,Sem.run_pure]
 simp[Sem.run_bind,p0,h0,p1,h1,p2,h2,p3,h3,p4,h4,p5,h5,p6,h6,p7,h7,Sem.run_ite]
theorem eq_body0 (x0 x1 x2 x3 x4 x5 x6 x7 x8 x9 x10 x11:Int) (w:World):(Op.equalIn 10000 35 (.agg #[.int .i64 x0,.int .i64 x1,.int .i64 x2,.int .i64 x3,.int .i64 x4,.int .i64 x5,.int .i64 x6,.int .i64 x7,.int .i64 x8,.int .i64 x9,.int .i64 x10,.int .i64 x11]) (.agg #[.int .i64 x0,.int .i64 x1,.int .i64 x2,.int .i64 x3,.int .i64 x4,.int .i64 x5,.int .i64 x6,.int .i64 x7,.int .i64 x8,.int .i64 x9,.int .i64 x10,.int .i64 x11])).run Tryz.prog w= .ok true w:=run_eq_body 9999 9996 rfl x0 x1 x2 x3 x4 x5 x6 x7 x8 x9 x10 x11 w
end Go.Proofs.YtpmjnpmnocjjgaaGreatDoor
namespace Go.Proofs.YtpmjnpmnocjjgaaGreatDoor
end Go.Proofs.YtpmjnpmnocjjgaaGreatDoor
