/- Texts of a proof. -/
import Derived.Test.YtbdbbdjifgpgeaaGreatB1
import Derived.Deep.QuietTactic
import Derived.BigQuiet
import Derived.Deep.RegionWith
import Derived.Test.YtbdbbdjifgpgeaaGreatB2
import Derived.Deep.RegionHeld3
import Derived.Test.YtbdbbdjifgpgeaaGreatRows
import Derived.WalkKit
import Derived.JoinedOf
import Derived.ProofKit
set_option maxHeartbeats 16000000
set_option maxRecDepth 20000
namespace Go.Proofs.YtbdbbdjifgpgeaaGreat
open Go.RowKit
set_option linter.unusedVariables false
set_option linter.unusedSimpArgs false
theorem l2Clamp_any (x y:Int) (w:World):
 Calls Tryz.prog 101 #[vv x y] w fun e w'=>e= .returned (vv (fc x) (fc y))∧Below w.heap.size w w':=by
 have hset:=cset_map
 go_enter Tryz.func101,Tryz.ntmps101
 go_wp2
 go_region_with (go_at_call 102;refine(sFixClamp_any _ _).mono ?_;rintro e w' ⟨rfl,rfl⟩)
 all_goals
  go_wp2
  exact bodyPost_ret (v:=vv (fc x) (fc y)) (by simp[results,Tryz.results101,go_sem, *]) rfl ⟨rfl,bel_a⟩
theorem l1In_any (n l h:Int) (w:World):
 Calls Tryz.prog 37 #[.int .i64 n,.int .i64 l,.int .i64 h] w fun e w'=>e= .returned (.bool (decide (l≤n∧n≤h)))∧w'=w:=by
 go_enter Tryz.func37,Tryz.ntmps37
 go_wp2
 all_goals
  go_ret
  refine⟨ret_bool ?_,rfl⟩
  first|(simp;omega)|(simp;done)
theorem sVecSub_any (x y u v:Int) (w:World):
 Calls Tryz.prog 114 #[vv x y,vv u v] w fun e w'=>e= .returned (vv (fc (fc x-fc u)) (fc (fc y-fc v)))∧Below w.heap.size w w':=by
 have hx:=fc_bd x
 have hy:=fc_bd y
 have hu:=fc_bd u
 have hv:=fc_bd v
 have hset:=cset_map
 go_enter Tryz.func114,Tryz.ntmps114
 go_wp2_with (go_at_call 101;refine(l2Clamp_any _ _ _).mono ?_;rintro e w1 ⟨rfl,hb1⟩;obtain⟨hc1,hf1⟩:=bcell hb1;have hz1:=hb1.size;(try simp at hz1);have hq1x0a:w.heap.size<w1.heap.size:=(by omega);have hq1x1a:w.heap.size+1<w1.heap.size:=(by omega);have hq1x2a:w.heap.size+1+1<w1.heap.size:=(by omega);have hq1x2b:w.heap.size+2<w1.heap.size:=(by omega))
 exact bodyPost_ret (v:=vv (fc (fc x-fc u)) (fc (fc y-fc v))) (by simp[results,Tryz.results114,go_sem, *]) rfl ⟨rfl,bel_a⟩
theorem sVecDot_any (x y u v:Int) (w:World):
 Calls Tryz.prog 113 #[vv x y,vv u v] w fun e w'=>e= .returned (.int .i64 (vdot x y u v))∧Below w.heap.size w w':=by
 have hx:=fc_bd x
 have hy:=fc_bd y
 have hu:=fc_bd u
 have hv:=fc_bd v
 have p:=mul_bd hx hu
 have q:=mul_bd hy hv
 have hset:=cset_map
 go_enter Tryz.func113,Tryz.ntmps113
 go_wp2_with (first
  |(go_at_call 101;refine(l2Clamp_any _ _ _).mono ?_;rintro e w1 ⟨rfl,hb1⟩;obtain⟨hc1,hf1⟩:=bcell hb1;have hz1:=hb1.size;(try simp at hz1);have hq1x0a:w.heap.size<w1.heap.size:=(by omega);have hq1x1a:w.heap.size+1<w1.heap.size:=(by omega))
  |(go_at_call 102;refine(sFixClamp_any _ _).mono ?_;rintro e w' ⟨rfl,rfl⟩))
 go_ret
 exact⟨rfl,bel_a⟩
abbrev b4 (a b c d:Int):Value:= .agg #[.int .i64 a,.int .i64 b,.int .i64 c,.int .i64 d]
def leB (x y u v:Int):Bool:=decide (x≤u∧y≤v)
def bokB (a b c d:Int):Bool:=vokB a b&&(vokB c d&&leB a b c d)
theorem noneGreater_any (x y u v:Int) (w:World):
 Calls Tryz.prog 135 #[vv x y,vv u v] w fun e w'=>e= .returned (.bool (leB x y u v))∧Below w.heap.size w w':=by
 have hset:=cset_map
 go_enter Tryz.func135,Tryz.ntmps135
 go_wp2
 all_goals
  go_ret
  refine⟨ret_bool ?_,bel_a⟩
  unfold leB
  first|(simp;done)|(simp;omega)|(simp at*;omega)
end Go.Proofs.YtbdbbdjifgpgeaaGreat
namespace Go.Proofs.YtbdbbdjifgpgeaaGreat
open Go.RowKit
set_option linter.unusedVariables false
theorem kfa {W w1:World} (hb:Below W.heap.size W w1) (b:Nat) (h:b<W.heap.size:=by((try simp only[World.size_drew,World.size_alloc,World.size_setCell]);omega)):
 (∀ o,w1.cell? ⟨b,o,none⟩=W.cell? ⟨b,o,none⟩)∧(∀ o,w1.frozen? ⟨b,o,none⟩=W.frozen? ⟨b,o,none⟩)∧b<w1.heap.size:=
 ⟨fun o=>hb.cell (p:=⟨b,o,none⟩) h,fun o=>hb.frozen (p:=⟨b,o,none⟩) h,Nat.lt_of_lt_of_le h hb.size⟩
end Go.Proofs.YtbdbbdjifgpgeaaGreat
namespace Go.Proofs.YtbdbbdjifgpgeaaGreat
open Go.RowKit
set_option linter.unusedVariables false
set_option linter.unusedSimpArgs false
theorem length_any (x y:Int) (w:World) (hx: -1000000000≤x∧x≤1000000000) (hy: -1000000000≤y∧y≤1000000000):
 Calls Tryz.prog 132 #[vv x y] w fun e w'=>e= .returned (.int .i64 (vl x y))∧Below w.heap.size w w':=by
 have hs:=sq_bd hx hy
 have hset:=cset_map
 go_enter Tryz.func132,Tryz.ntmps132
 go_wp2_with (first
  |(go_at_call 130;refine(products_any _ _ _ _ _ (by omega) (by omega) (by omega) (by omega)).mono ?_;rintro e w2 ⟨rfl,hb2⟩;obtain⟨hc2,hf2⟩:=bcell hb2;have hz2:=hb2.size;(try simp at hz2);have hq2x0a:w.heap.size<w2.heap.size:=(by omega))
  |(go_at_call 138;refine(root_any _ _ (by omega)).mono ?_;rintro e w5 ⟨rfl,hb5⟩;obtain⟨hc5,hf5⟩:=bcell hb5;have hz5:=hb5.size;(try simp at hz5);have hq5x0a:w.heap.size<w5.heap.size:=(by omega))
  |(go_at_call 139;refine(held_any _ _ _ (by omega) (by omega)).mono ?_;rintro e w' ⟨rfl,rfl⟩))
 go_ret
 exact⟨rfl,bel_a⟩
theorem unit_any (x y:Int) (w:World) (hx: -1000000000≤x∧x≤1000000000) (hy: -1000000000≤y∧y≤1000000000):
 Calls Tryz.prog 131 #[vv x y] w fun e w'=>e= .returned (vv (ux x y) (uy x y))∧Below w.heap.size w w':=by
 have hl:=vl_bd x y
 by_cases h0:vl x y=0
 · have e1:ux x y=0:=if_pos h0
   have e2:uy x y=256:=if_pos h0
   have hset:=cset_map
   go_enter Tryz.func131,Tryz.ntmps131
   go_wp2_with (go_at_call 132;refine(length_any _ _ _ (by omega) (by omega)).mono ?_;rintro e w6 ⟨rfl,hb6⟩;obtain⟨hc6,hf6⟩:=bcell hb6;have hz6:=hb6.size;(try simp at hz6);have hq6x0a:w.heap.size<w6.heap.size:=(by omega);have hq6x1a:w.heap.size+1<w6.heap.size:=(by omega))
   exact bodyPost_ret (v:=vv 0 256) (by simp[results,Tryz.results131,go_sem, *]) rfl ⟨by rw[e1,e2],bel_a⟩
 · have e1:ux x y=(x*256).tdiv (vl x y):=if_neg h0
   have e2:uy x y=(y*256).tdiv (vl x y):=if_neg h0
   have t1:=w64 (n:=(x*256).tdiv (vl x y)) (by have:=tdiv_bd (x:=x*256) (B:=256000000000) (vl x y) (by omega);omega)
   have t2:=w64 (n:=(y*256).tdiv (vl x y)) (by have:=tdiv_bd (x:=y*256) (B:=256000000000) (vl x y) (by omega);omega)
   have s1:=i64w (n:=(x*256).tdiv (vl x y)) (by have:=tdiv_bd (x:=x*256) (B:=256000000000) (vl x y) (by omega);omega)
   have s2:=i64w (n:=(y*256).tdiv (vl x y)) (by have:=tdiv_bd (x:=y*256) (B:=256000000000) (vl x y) (by omega);omega)
   have E1:Hid (ux x y=(x*256).tdiv (vl x y)):=e1
   have E2:Hid (uy x y=(y*256).tdiv (vl x y)):=e2
   clear e1 e2
   have hset:=cset_map
   go_enter Tryz.func131,Tryz.ntmps131
   go_wp2_with (go_at_call 132;refine(length_any _ _ _ (by omega) (by omega)).mono ?_;rintro e w6 ⟨rfl,hb6⟩;obtain⟨hc6,hf6⟩:=bcell hb6;have hz6:=hb6.size;(try simp at hz6);have hq6x0a:w.heap.size<w6.heap.size:=(by omega);have hq6x1a:w.heap.size+1<w6.heap.size:=(by omega))
   go_region
   all_goals
    go_wp2
    exact bodyPost_ret (v:=vv ((x*256).tdiv (vl x y)) ((y*256).tdiv (vl x y))) (by simp[results,Tryz.results131,go_sem, *]) rfl ⟨by rw[E1.out,E2.out],bel_a⟩
def stp (G:Nat→Nat):Option (Nat×Nat)→Nat→Nat
 |none=>G
 |some (A,B)=>fun j=>if j=A∨j=B then min (G A) (G B) else G j
def rnd (E:Nat→Option (Nat×Nat)) (G:Nat→Nat):Nat→Nat→Nat
 |0=>G
 |k+1=>stp (rnd E G k) (E k)
def rnds (E:Nat→Option (Nat×Nat)) (M:Nat):Nat→Nat→Nat
 |0=>fun j=>j
 |r+1=>rnd E (rnds E M r) M
def jn (L:Nat→Nat):Option (Nat×Nat)→Nat→Nat
 |none=>L
 |some (A,B)=>fun j=>if L j=max (L A) (L B) then min (L A) (L B) else L j
def lab (E:Nat→Option (Nat×Nat)):Nat→Nat→Nat
 |0=>fun j=>j
 |k+1=>jn (lab E k) (E k)
theorem lab_le (E:Nat→Option (Nat×Nat)):∀ k j,lab E k j≤j
 |0,j=>Nat.le_refl _
 | k+1,j=>by
   have ih:=lab_le E k
   rw[lab]
   cases h:E k with
   |none=>exact ih j
   | some p=>
     obtain⟨A,B⟩:=p
     show (if lab E k j=max (lab E k A) (lab E k B) then min (lab E k A) (lab E k B) else lab E k j)≤j
     have:=ih j
     split<;>omega
theorem lab_edge (E:Nat→Option (Nat×Nat)):∀ k i A B,i<k→E i=some (A,B)→lab E k A=lab E k B
 |0,i,_,_,h,_=>absurd h (Nat.not_lt_zero _)
 | k+1,i,A,B,h,e=>by
   rw[lab]
   cases hk:E k with
   | none=>
     by_cases hi:i=k
     · subst hi;rw[hk] at e;cases e
     · exact lab_edge E k i A B (by omega) e
   | some p=>
     obtain⟨C,D⟩:=p
     show (if lab E k A=max (lab E k C) (lab E k D) then min (lab E k C) (lab E k D) else lab E k A)=(if lab E k B=max (lab E k C) (lab E k D) then min (lab E k C) (lab E k D) else lab E k B)
     by_cases hi:i=k
     · subst hi
       rw[hk] at e
       simp only[Option.some.injEq,Prod.mk.injEq] at e
       obtain⟨rfl,rfl⟩:=e
       split<;>split<;>omega
     · rw[lab_edge E k i A B (by omega) e]
theorem lab_set (E:Nat→Option (Nat×Nat)) (X:Nat→Prop):∀ k,(∀ i A B,i<k→E i=some (A,B)→(X A↔X B))→∀ j,(X (lab E k j)↔X j)
 |0,_,j=>Iff.rfl
 | k+1,hX,j=>by
   have ih:=lab_set E X k (fun i A B h e=>hX i A B (by omega) e)
   rw[lab]
   cases hk:E k with
   |none=>exact ih j
   | some p=>
     obtain⟨A,B⟩:=p
     show X (if lab E k j=max (lab E k A) (lab E k B) then min (lab E k A) (lab E k B) else lab E k j)↔X j
     have hAB:=hX k A B (Nat.lt_succ_self _) hk
     have h1:=ih A
     have h2:=ih B
     have h3:=ih j
     by_cases e:lab E k j=max (lab E k A) (lab E k B)
     · rw[if_pos e]
       rcases Nat.le_total (lab E k A) (lab E k B) with q|q
       · rw[Nat.min_eq_left q]
         rw[Nat.max_eq_right q] at e
         rw[e] at h3
         exact h1.trans (hAB.trans (h2.symm.trans h3))
       · rw[Nat.min_eq_right q]
         rw[Nat.max_eq_left q] at e
         rw[e] at h3
         exact h2.trans (hAB.symm.trans (h1.symm.trans h3))
     · rw[if_neg e];exact h3
theorem lab_idem (E:Nat→Option (Nat×Nat)) (k j:Nat):lab E k (lab E k j)=lab E k j:=
 (lab_set E (fun x=>lab E k x=lab E k j) k (fun i A B h e=>by rw[lab_edge E k i A B h e]) j).2 rfl
theorem stp_le (G:Nat→Nat) (e:Option (Nat×Nat)) (j:Nat):stp G e j≤G j:=by
 cases e with
 |none=>exact Nat.le_refl _
 | some p=>
   obtain⟨A,B⟩:=p
   show (if j=A∨j=B then min (G A) (G B) else G j)≤G j
   by_cases h:j=A∨j=B
   · rw[if_pos h]
     rcases h with rfl|rfl
     · exact Nat.min_le_left _ _
     · exact Nat.min_le_right _ _
   · rw[if_neg h];exact Nat.le_refl _
theorem rnd_le (E:Nat→Option (Nat×Nat)) (G:Nat→Nat):∀ k j,rnd E G k j≤G j
 |0,_=>Nat.le_refl _
 |k+1,j=>Nat.le_trans (stp_le _ _ _) (rnd_le E G k j)
theorem rnd_mono (E:Nat→Option (Nat×Nat)) (G:Nat→Nat) (k:Nat):∀ m,k≤m→∀ j,rnd E G m j≤rnd E G k j
 | 0,h,j=>by
   obtain rfl:k=0:=by omega
   exact Nat.le_refl _
 | m+1,h,j=>by
   by_cases e:k=m+1
   · subst e;exact Nat.le_refl _
   · exact Nat.le_trans (stp_le _ _ _) (rnd_mono E G k m (by omega) j)
def Same (L G:Nat→Nat):Prop:=∀ j,L (G j)=L j
theorem stp_same {L G:Nat→Nat} {e:Option (Nat×Nat)} (h:Same L G) (he:∀ A B,e=some (A,B)→L A=L B):Same L (stp G e):=by
 intro j
 cases e with
 |none=>exact h j
 | some p=>
   obtain⟨A,B⟩:=p
   have q:=he A B rfl
   show L (if j=A∨j=B then min (G A) (G B) else G j)=L j
   by_cases hj:j=A∨j=B
   · rw[if_pos hj]
     have hm:L (min (G A) (G B))=L A:=by
      rcases Nat.le_total (G A) (G B) with z|z
      · rw[Nat.min_eq_left z];exact h A
      · rw[Nat.min_eq_right z];exact(h B).trans q.symm
     rw[hm]
     rcases hj with rfl|rfl
     · rfl
     · exact q
   · rw[if_neg hj];exact h j
theorem rnd_same {E:Nat→Option (Nat×Nat)} {L G:Nat→Nat} {M:Nat} (hE:∀ i A B,i<M→E i=some (A,B)→L A=L B) (h:Same L G):∀ k,k≤M→Same L (rnd E G k)
 |0,_=>h
 |k+1,hk=>stp_same (rnd_same hE h k (by omega)) (fun A B e=>hE k A B (by omega) e)
theorem rnds_same {E:Nat→Option (Nat×Nat)} {L:Nat→Nat} {M:Nat} (hE:∀ i A B,i<M→E i=some (A,B)→L A=L B):∀ r,Same L (rnds E M r)
 |0=>fun _=>rfl
 |r+1=>rnd_same hE (rnds_same hE r) M (Nat.le_refl _)
theorem rnds_le (E:Nat→Option (Nat×Nat)) (M:Nat):∀ r j,rnds E M r j≤j
 |0,_=>Nat.le_refl _
 |r+1,j=>Nat.le_trans (rnd_le E _ M j) (rnds_le E M r j)
def cntp (p:Nat→Bool):Nat→Nat
 |0=>0
 |n+1=>cntp p n+(if p n=true then 1 else 0)
theorem cntp_le (p:Nat→Bool):∀ n,cntp p n≤n
 |0=>Nat.le_refl _
 |n+1=>by have:=cntp_le p n;rw[cntp];split<;>omega
theorem cntp_mono {p q:Nat→Bool}:∀ n,(∀ v,v<n→p v=true→q v=true)→cntp p n≤cntp q n
 |0,_=>Nat.le_refl _
 | n+1,h=>by
   have a:=cntp_mono (p:=p) (q:=q) n (fun v hv=>h v (by omega))
   have b:=h n (by omega)
   rw[cntp,cntp]
   by_cases e:p n=true
   · rw[if_pos e,if_pos (b e)];omega
   · rw[if_neg e];omega
theorem cntp_lt {p q:Nat→Bool} {y:Nat}:∀ n,y<n→(∀ v,v<n→p v=true→q v=true)→p y=false→q y=true→cntp p n<cntp q n
 |0,h,_,_,_=>absurd h (Nat.not_lt_zero _)
 | n+1,h,hm,h1,h2=>by
   rw[cntp,cntp]
   by_cases e:y=n
   · subst e
     have a:=cntp_mono (p:=p) (q:=q) y (fun v hv=>hm v (by omega))
     rw[if_neg (by rw[h1];simp),if_pos h2];omega
   · have a:=cntp_lt n (by omega) (fun v hv=>hm v (by omega)) h1 h2
     have b:=hm n (by omega)
     by_cases z:p n=true
     · rw[if_pos z,if_pos (b z)];omega
     · rw[if_neg z];omega
theorem rnds_lab (E:Nat→Option (Nat×Nat)) (M n:Nat) (hE:∀ i A B,i<M→E i=some (A,B)→A<n∧B<n):∀ v,v<n→rnds E M n v=lab E M v:=by
 have hedge:=fun i A B (h:i<M) (e:E i=some (A,B))=>lab_edge E M i A B h e
 have hsame:=rnds_same (E:=E) (L:=lab E M) (M:=M) hedge
 have hge:∀ r j,lab E M j≤rnds E M r j:=fun r j=>by
  have a:=lab_le E M (rnds E M r j)
  rw[hsame r j] at a
  exact a
 have key:∀ r,(∀ v,v<n→rnds E M r v=lab E M v)∨r<cntp (fun v=>decide (rnds E M r v=lab E M v)) n:=by
  intro r
  induction r with
  | zero=>
    by_cases h0:n=0
    · left;intro v hv;omega
    · right
      have z:lab E M 0=0:=by have:=lab_le E M 0;omega
      have:=cntp_lt (p:=fun _=>false) (q:=fun v=>decide (rnds E M 0 v=lab E M v)) (y:=0) n (by omega) (fun _ _ h=>by cases h) rfl (by show decide (0=lab E M 0)=true;rw[z];rfl)
      omega
  | succ r ih=>
    have mono:∀ v,rnds E M r v=lab E M v→rnds E M (r+1) v=lab E M v:=fun v e=>by
     have a:=rnd_le E (rnds E M r) M v
     have b:=hge (r+1) v
     have c:rnds E M (r+1) v=rnd E (rnds E M r) M v:=rfl
     omega
    rcases ih with ih|ih
    · left;intro v hv;exact mono v (ih v hv)
    · by_cases all:∀ v,v<n→rnds E M (r+1) v=lab E M v
      · left;exact all
      · right
        -- an edge that parts what is there from what is not
        have cross:∃ y,y<n∧rnds E M r y≠lab E M y∧rnds E M (r+1) y=lab E M y:=by
         refine Classical.byContradiction fun hno=>all fun v hv=>mono v ?_
         have closed:∀ i A B,i<M→E i=some (A,B)→(rnds E M r A=lab E M A↔rnds E M r B=lab E M B):=by
          intro i A B hi e
          have hb:=hE i A B hi e
          have hl:=hedge i A B hi e
          have st:rnd E (rnds E M r) (i+1) A=min (rnd E (rnds E M r) i A) (rnd E (rnds E M r) i B)∧rnd E (rnds E M r) (i+1) B=min (rnd E (rnds E M r) i A) (rnd E (rnds E M r) i B):=by
           constructor
           · show stp _ (E i) A=_;rw[e];show (if A=A∨A=B then _ else _)=_;rw[if_pos (.inl rfl)]
           · show stp _ (E i) B=_;rw[e];show (if B=A∨B=B then _ else _)=_;rw[if_pos (.inr rfl)]
          have mA:=rnd_mono E (rnds E M r) (i+1) M (by omega) A
          have mB:=rnd_mono E (rnds E M r) (i+1) M (by omega) B
          have lA:=rnd_le E (rnds E M r) i A
          have lB:=rnd_le E (rnds E M r) i B
          have gA:=hge (r+1) A
          have gB:=hge (r+1) B
          have cA:rnds E M (r+1) A=rnd E (rnds E M r) M A:=rfl
          have cB:rnds E M (r+1) B=rnd E (rnds E M r) M B:=rfl
          rw[cA] at gA
          rw[cB] at gB
          have eA:=st.1
          have eB:=st.2
          constructor
          · intro h
            refine Classical.byContradiction fun hn=>hno ⟨B,hb.2,hn,?_⟩
            rw[cB]
            have:=Nat.min_le_left (rnd E (rnds E M r) i A) (rnd E (rnds E M r) i B)
            omega
          · intro h
            refine Classical.byContradiction fun hn=>hno ⟨A,hb.1,hn,?_⟩
            rw[cA]
            have:=Nat.min_le_right (rnd E (rnds E M r) i A) (rnd E (rnds E M r) i B)
            omega
         refine(lab_set E (fun x=>rnds E M r x=lab E M x) M closed v).1 ?_
         have a:=rnds_le E M r (lab E M v)
         have b:=hge r (lab E M v)
         rw[lab_idem] at b ⊢
         omega
        obtain⟨y,hy,h1,h2⟩:=cross
        have:=cntp_lt (p:=fun v=>decide (rnds E M r v=lab E M v)) (q:=fun v=>decide (rnds E M (r+1) v=lab E M v)) (y:=y) n hy (fun v _ h=>decide_eq_true (mono v (of_decide_eq_true h))) (decide_eq_false h1) (decide_eq_true h2)
        omega
 rcases key n with h|h
 · exact h
 · have:=cntp_le (fun v=>decide (rnds E M n v=lab E M v)) n
   omega
end Go.Proofs.YtbdbbdjifgpgeaaGreat
namespace Go.Proofs.YtbdbbdjifgpgeaaGreat
theorem head_cut {l:List (List Char)} {c:List Char} (h:(l.head? ==some c)=true):∃ rest,l=c::rest:=by
 cases l with
 |nil=>simp at h
 |cons a r=>simp at h;exact⟨r,by rw[h]⟩
theorem strip_cut (rest:List (List Char)):stripLifts liftWords ("cut".toList::rest)=([], "cut".toList::rest):=by kernel_rfl
theorem make_of {P:Program} {l:List Char} (h0:P.initOrder.toList=l) (h1:((behindMainWord (wordsSigns l)).head? ==some "cut".toList)=true):P.make=some .cut:=by
 obtain⟨rest,hr⟩:=head_cut h1
 unfold Program.make
 rw[h0,hr]
 rfl
theorem headLifts_of {P:Program} {l:List Char} (h0:P.initOrder.toList=l) (h1:((behindMainWord (wordsSigns l)).head? ==some "cut".toList)=true):P.headLifts=[]:=by
 obtain⟨rest,hr⟩:=head_cut h1
 unfold Program.headLifts
 rw[h0,hr,strip_cut]
 rfl
theorem liftsFinal_of {P:Program} {l:List Char} (h0:P.initOrder.toList=l) (h1:((behindMainWord (wordsSigns l)).head? ==some "cut".toList)=true):P.liftsFinal=false:=by
 have hh:=headLifts_of h0 h1
 obtain⟨rest,hr⟩:=head_cut h1
 unfold Program.liftsFinal
 rw[h0,hr,hh]
 rfl
theorem mayEnter_of {P:Program} {l:List Char} (h0:P.initOrder.toList=l) (h1:((behindMainWord (wordsSigns l)).head? ==some "cut".toList)=true) (h2:P.laysLater=false) (h3:P.bearsReflect=false) (h4:P.doorFits []=true):P.mayEnter=true:=by
 obtain⟨rest,hr⟩:=head_cut h1
 unfold Program.mayEnter
 rw[h0,hr]
 simp only[strip_cut,h2,h3,h4]
 simp
end Go.Proofs.YtbdbbdjifgpgeaaGreat
namespace Go.Proofs.YtbdbbdjifgpgeaaGreat
set_option maxRecDepth 100000
def ordL:{l:List Char//Tryz.prog.initOrder=String.ofList l}:=⟨_,rfl⟩
theorem ordT:Tryz.prog.initOrder.toList=ordL.1:=(congrArg String.toList ordL.2).trans String.toList_ofList
theorem headE:((behindMainWord (wordsSigns ordL.1)).head? ==some "cut".toList)=true:=by kernel_rfl
theorem makeT:Tryz.prog.make=some .cut:=make_of ordT headE
theorem liftsFinalT:Tryz.prog.liftsFinal=false:=liftsFinal_of ordT headE
theorem laysLaterT:Tryz.prog.laysLater=false:=by kernel_rfl
theorem bearsReflectT:Tryz.prog.bearsReflect=false:=by kernel_rfl
theorem doorFitsT:Tryz.prog.doorFits []=true:=by kernel_rfl
theorem mayEnterT:Tryz.prog.mayEnter=true:=mayEnter_of ordT headE laysLaterT bearsReflectT doorFitsT
theorem ownT:ownKnob Tryz.prog.godebug=none:=by kernel_rfl
theorem laidOutT:laidOutB Tryz.prog=true:=by kernel_rfl
theorem mapsRowedT:mapsRowed Tryz.prog=true:=by kernel_rfl
theorem stopsHeardT:Tryz.prog.stopsHeard=true:=by kernel_rfl
theorem plainKeysT:Tryz.prog.plainKeys=true:=by kernel_rfl
end Go.Proofs.YtbdbbdjifgpgeaaGreat
