/- Texts of a proof. -/
import Derived.Test.YthajilkjfkppoaaGreatDoorB19
import Derived.Test.YthajilkjfkppoaaGreatDoorB20
import Derived.Test.YthajilkjfkppoaaGreatDoorB13
set_option maxHeartbeats 16000000
set_option maxRecDepth 20000
namespace Go.Proofs.YthajilkjfkppoaaGreatDoor
open Go.RowKit
set_option linter.unusedVariables false
set_option linter.unusedSimpArgs false
structure BOk (V:Nat→Int):Prop where
 i0:0≤V 0∧V 0≤999999999
 sh:shB (V 1) (V 2) (V 3)=true
 a4: -2560000≤V 4∧V 4≤2560000
 a5: -2560000≤V 5∧V 5≤2560000
 d6: -20000000≤V 6∧V 6≤20000000
 d7: -20000000≤V 7∧V 7≤20000000
 m8:0≤V 8∧V 8≤1000
 b9:0≤V 9∧V 9≤256
 r10:0≤V 10∧V 10≤256
 q11:0≤V 11∧V 11≤8
 fx:V 8=0→V 11=0
 rs:(V 8≠0∧V 11≠8)∨(V 6=0∧V 7=0)
theorem BOk.of {V:Nat→Int} (h:bodyB V=true):BOk V:=by
 unfold bodyB restB inB at h
 simp only[Bool.and_eq_true,decide_eq_true_eq] at h
 obtain⟨a0,a1,a2,a3,a4,a5,a6,a7,a8,a9⟩:=h
 exact⟨a0,a1,by omega,by omega,by omega,by omega,a4,a5,a6,a7,a8,a9⟩
theorem BOk.to {V:Nat→Int} (h:BOk V):bodyB V=true:=by
 obtain⟨a0,a1,a2,a3,a4,a5,a6,a7,a8,a9,b0,b1⟩:=h
 unfold bodyB restB inB
 simp only[Bool.and_eq_true,decide_eq_true_eq]
 exact⟨a0,a1,by omega,by omega,a6,a7,a8,a9,b0,b1⟩
theorem clampZ_in (l n:Int) (h:0≤l): -l≤clampZ l n∧clampZ l n≤l:=by unfold clampZ;repeat(first|omega|split)
theorem setV_ne {V:Nat→Int} {k j:Nat} {a:Int} (h:j≠k):setV V k a j=V j:=by unfold setV;rw[if_neg h]
theorem setV_eq {V:Nat→Int} {k:Nat} {a:Int}:setV V k a k=a:=by unfold setV;rw[if_pos rfl]
theorem pull_ok {V:Nat→Int} (g:Int) (h:BOk V):BOk (pullV g V):=by
 unfold pullV
 cases hl:liveV V with
 |false=>exact h
 | true=>
   unfold liveV at hl
   simp only[Bool.and_eq_true,decide_eq_true_eq,Bool.not_eq_true',decide_eq_false_iff_not] at hl
   have c:=clampZ_in 20000000 (V 7-g*V 8) (by omega)
   generalize clampZ 20000000 (V 7-g*V 8)=y at c
   show BOk (setV V 7 y)
   obtain⟨a0,a1,a2,a3,a4,a5,a6,a7,a8,a9,b0,b1⟩:=h
   constructor<;>simp only[setV,reduceIte]<;>(first|assumption|omega|(simp;assumption)|(simp;omega))
theorem setV4 (V:Nat→Int) (x y u v:Int):(∀ j,j≠4→j≠5→j≠6→j≠7→setV (setV (setV (setV V 4 x) 5 y) 6 u) 7 v j=V j)∧setV (setV (setV (setV V 4 x) 5 y) 6 u) 7 v 4=x∧setV (setV (setV (setV V 4 x) 5 y) 6 u) 7 v 5=y∧setV (setV (setV (setV V 4 x) 5 y) 6 u) 7 v 6=u∧setV (setV (setV (setV V 4 x) 5 y) 6 u) 7 v 7=v:=by
 refine⟨fun j h4 h5 h6 h7=> ?_,?_,?_,?_,setV_eq⟩
 · rw[setV_ne h7,setV_ne h6,setV_ne h5,setV_ne h4]
 · rw[setV_ne (by decide),setV_ne (by decide),setV_ne (by decide),setV_eq]
 · rw[setV_ne (by decide),setV_ne (by decide),setV_eq]
 · rw[setV_ne (by decide),setV_eq]
theorem setV3 (V:Nat→Int) (x y u:Int):(∀ j,j≠6→j≠7→j≠11→setV (setV (setV V 6 x) 7 y) 11 u j=V j)∧setV (setV (setV V 6 x) 7 y) 11 u 6=x∧setV (setV (setV V 6 x) 7 y) 11 u 7=y∧setV (setV (setV V 6 x) 7 y) 11 u 11=u:=by
 refine⟨fun j h6 h7 h11=> ?_,?_,?_,setV_eq⟩
 · rw[setV_ne h11,setV_ne h7,setV_ne h6]
 · rw[setV_ne (by decide),setV_ne (by decide),setV_eq]
 · rw[setV_ne (by decide),setV_eq]
theorem move_ok {V:Nat→Int} (p q:Int) (h:BOk V) (hm:V 8≠0):BOk (moveV V p q):=by
 have c1:=clampZ_in 2560000 (V 4+p) (by omega)
 have c2:=clampZ_in 2560000 (V 5+q) (by omega)
 unfold moveV mvX mvY
 generalize clampZ 2560000 (V 4+p)=x at c1
 generalize clampZ 2560000 (V 5+q)=y at c2
 obtain⟨a0,a1,a2,a3,a4,a5,a6,a7,a8,a9,b0,b1⟩:=h
 obtain⟨u,hu⟩:∃ u,(if x=V 4+p then V 6 else 0)=u:=⟨_,rfl⟩
 obtain⟨v,hv⟩:∃ v,(if y=V 5+q then V 7 else 0)=v:=⟨_,rfl⟩
 rw[hu,hv]
 have bu:(-20000000≤u∧u≤20000000)∧(V 6=0→u=0):=by rw[←hu];split<;>constructor<;>(try intro)<;>omega
 have bv:(-20000000≤v∧v≤20000000)∧(V 7=0→v=0):=by rw[←hv];split<;>constructor<;>(try intro)<;>omega
 obtain⟨e,e4,e5,e6,e7⟩:=setV4 V x y u v
 generalize setV (setV (setV (setV V 4 x) 5 y) 6 u) 7 v=W at e e4 e5 e6 e7
 have w0:=e 0 (by decide) (by decide) (by decide) (by decide)
 have w1:=e 1 (by decide) (by decide) (by decide) (by decide)
 have w2:=e 2 (by decide) (by decide) (by decide) (by decide)
 have w3:=e 3 (by decide) (by decide) (by decide) (by decide)
 have w8:=e 8 (by decide) (by decide) (by decide) (by decide)
 have w9:=e 9 (by decide) (by decide) (by decide) (by decide)
 have wa:=e 10 (by decide) (by decide) (by decide) (by decide)
 have wb:=e 11 (by decide) (by decide) (by decide) (by decide)
 exact⟨by rw[w0];exact a0,by rw[w1,w2,w3];exact a1,by rw[e4];exact c1,by rw[e5];exact c2,by rw[e6];exact bu.1,by rw[e7];exact bv.1,by rw[w8];exact a6,by rw[w9];exact a7,by rw[wa];exact a8,by rw[wb];exact a9,by rw[w8,wb];exact b0,by rw[w8,wb,e6,e7];rcases b1 with q|q;exact .inl q;exact .inr ⟨bu.2 q.1,bv.2 q.2⟩⟩
theorem go_ok {V:Nat→Int} (h:BOk V):BOk (goV V):=by
 unfold goV
 cases hl:liveV V with
 |false=>exact h
 | true=>
   unfold liveV at hl
   simp only[Bool.and_eq_true,decide_eq_true_eq,Bool.not_eq_true',decide_eq_false_iff_not] at hl
   exact move_ok _ _ h (by omega)
theorem quiet_ok {V:Nat→Int} (r:Int) (h:BOk V) (hr:0≤r∧r≤8):BOk (quietV r V):=by
 unfold quietV
 cases hl:(decide (V 8=0)||decide (8≤V 11)) with
 |true=>exact h
 | false=>
   simp only[Bool.or_eq_false_iff,decide_eq_false_iff_not] at hl
   obtain⟨z,hz⟩:∃ z,(bif decide (-8≤spX V∧spX V≤8)&&decide (-8≤spY V∧spY V≤8) then mn (r+1) 7 else 0)=z:=⟨_,rfl⟩
   rw[hz]
   have bz:0≤z∧z≤7:=by
    rw[←hz]
    cases (decide (-8≤spX V∧spX V≤8)&&decide (-8≤spY V∧spY V≤8))
    · exact⟨by show (0:Int)≤0;omega,by show (0:Int)≤7;omega⟩
    · show 0≤mn (r+1) 7∧mn (r+1) 7≤7
      unfold mn
      split<;>omega
   show BOk (setV V 11 z)
   obtain⟨a0,a1,a2,a3,a4,a5,a6,a7,a8,a9,b0,b1⟩:=h
   constructor<;>simp only[setV,reduceIte]<;>(first|assumption|omega|(simp;assumption)|(simp;omega))
theorem push_ok {V:Nat→Int} (p q:Int) (h:BOk V):BOk (pushV V p q):=by
 unfold pushV
 by_cases m:V 8=0
 · rw[if_pos m];exact h
 · rw[if_neg m]
   have c1:=clampZ_in 20000000 (V 6+p) (by omega)
   have c2:=clampZ_in 20000000 (V 7+q) (by omega)
   generalize clampZ 20000000 (V 6+p)=x at c1
   generalize clampZ 20000000 (V 7+q)=y at c2
   obtain⟨a0,a1,a2,a3,a4,a5,a6,a7,a8,a9,b0,b1⟩:=h
   obtain⟨e,e6,e7,eb⟩:=setV3 V x y 0
   generalize setV (setV (setV V 6 x) 7 y) 11 0=W at e e6 e7 eb
   have w0:=e 0 (by decide) (by decide) (by decide)
   have w1:=e 1 (by decide) (by decide) (by decide)
   have w2:=e 2 (by decide) (by decide) (by decide)
   have w3:=e 3 (by decide) (by decide) (by decide)
   have w4:=e 4 (by decide) (by decide) (by decide)
   have w5:=e 5 (by decide) (by decide) (by decide)
   have w8:=e 8 (by decide) (by decide) (by decide)
   have w9:=e 9 (by decide) (by decide) (by decide)
   have wa:=e 10 (by decide) (by decide) (by decide)
   exact⟨by rw[w0];exact a0,by rw[w1,w2,w3];exact a1,by rw[w4];exact a2,by rw[w5];exact a3,by rw[e6];exact c1,by rw[e7];exact c2,by rw[w8];exact a6,by rw[w9];exact a7,by rw[wa];exact a8,by rw[eb];omega,by rw[eb];exact fun _=>rfl,.inl ⟨by rw[w8];exact m,by rw[eb];decide⟩⟩
theorem Bods.put {n:Nat} {U:Nat→Int} {k:Nat} {V:Nat→Int} (h:Bods n U) (hk:k<n) (hV:BOk V) (h0:V 0=U (k*12)):Bods n (putRow U k V):=by
 have at_:∀ i j,i≠k→j<12→putRow U k V (i*12+j)=U (i*12+j):=fun i j hi hj=>by unfold putRow;rw[if_neg (by omega)]
 have at0:∀ i,putRow U k V (i*12)=U (i*12):=fun i=>by
  by_cases e:i=k
  · subst e;unfold putRow;rw[if_pos (by omega),Nat.sub_self];exact h0
  · have:=at_ i 0 e (by omega);simpa using this
 refine⟨h.le,fun i hi=> ?_,fun i hi=> ?_⟩
 · by_cases e:i=k
   · subst e
     rw[bodyB_cong (W:=V) (fun j hj=>by unfold putRow;rw[if_pos (by omega),Nat.add_sub_cancel_left])]
     exact hV.to
   · rw[bodyB_cong (W:=fun j=>U (i*12+j)) (fun j hj=>at_ i j e hj)]
     exact h.ok i hi
 · rw[at0,at0];exact h.asc i hi
theorem Bods.row {n:Nat} {U:Nat→Int} (h:Bods n U) {k:Nat} (hk:k<n):BOk (fun j=>U (k*12+j)):=BOk.of (h.ok k hk)
theorem Bods.pull {n:Nat} {U:Nat→Int} (h:Bods n U) (g:Int):Bods n (mapR (fun _ V=>pullV g V) U n):=
 h.map (fun k hk=>(pull_ok g (h.row hk)).to) (fun k hk=>by show pullV g (fun j=>U (k*12+j)) 0=_;unfold pullV;cases liveV (fun j=>U (k*12+j))<;>rfl)
theorem Bods.go {n:Nat} {U:Nat→Int} (h:Bods n U):Bods n (mapR (fun _ V=>goV V) U n):=
 h.map (fun k hk=>(go_ok (h.row hk)).to) (fun k hk=>by show goV (fun j=>U (k*12+j)) 0=_;unfold goV;cases liveV (fun j=>U (k*12+j))<;>rfl)
theorem Bods.quiet {n:Nat} {U U2:Nat→Int} (h:Bods n U) (h2:Bods n U2):Bods n (mapR (fun i V=>quietV (U2 (i*12+11)) V) U n):=
 h.map (fun k hk=>(quiet_ok _ (h.row hk) (h2.row hk).q11).to) (fun k hk=>by show quietV _ (fun j=>U (k*12+j)) 0=_;unfold quietV;cases (decide ((fun j=>U (k*12+j)) 8=0)||decide (8≤(fun j=>U (k*12+j)) 11))<;>rfl)
theorem moveV_0 (V:Nat→Int) (p q:Int):moveV V p q 0=V 0:=rfl
theorem moveV_8 (V:Nat→Int) (p q:Int):moveV V p q 8=V 8:=rfl
theorem putRow_8 {U V:Nat→Int} {k i:Nat} (h:V 8=U (k*12+8)):putRow U k V (i*12+8)=U (i*12+8):=by
 unfold putRow
 by_cases e:i=k
 · subst e;rw[if_pos (by omega),Nat.add_sub_cancel_left];exact h
 · rw[if_neg (by omega)]
theorem putRow_else {U V:Nat→Int} {k i j:Nat} (e:i≠k) (hj:j<12):putRow U k V (i*12+j)=U (i*12+j):=by unfold putRow;rw[if_neg (by omega)]
theorem Bods.apart {n:Nat} {U:Nat→Int} (h:Bods n U) {A B:Nat} (hA:A<n) (hB:B<n) (hAB:A≠B) (X Y D:Int):Bods n (apartU U A B X Y D)∧∀ i,apartU U A B X Y D (i*12+8)=U (i*12+8):=by
 unfold apartU
 cases decide (0<(D-64).tdiv 4) with
 |false=>exact⟨h,fun i=>rfl⟩
 | true=>
   simp only[cond_true]
   generalize (-X*shareV (fun j=>U (A*12+j)) (fun j=>U (B*12+j)) ((D-64).tdiv 4)).tdiv 256=p
   generalize (-Y*shareV (fun j=>U (A*12+j)) (fun j=>U (B*12+j)) ((D-64).tdiv 4)).tdiv 256=q
   generalize (X*shareV (fun j=>U (B*12+j)) (fun j=>U (A*12+j)) ((D-64).tdiv 4)).tdiv 256=r
   generalize (Y*shareV (fun j=>U (B*12+j)) (fun j=>U (A*12+j)) ((D-64).tdiv 4)).tdiv 256=s
   have key:∀ U1:Nat→Int,Bods n U1→(∀ i,U1 (i*12+8)=U (i*12+8))→(U1 (B*12)=U (B*12))→Bods n (bif decide (0<U (B*12+8)) then putRow U1 B (moveV (fun j=>U (B*12+j)) r s) else U1)∧∀ i,(bif decide (0<U (B*12+8)) then putRow U1 B (moveV (fun j=>U (B*12+j)) r s) else U1) (i*12+8)=U (i*12+8):=by
    intro U1 h1 h8 h0
    by_cases m:0<U (B*12+8)
    · rw[decide_eq_true m]
      exact⟨h1.put hB (move_ok r s (h.row hB) (by show U (B*12+8)≠0;omega)) (by rw[moveV_0,h0];rfl),fun i=>(putRow_8 (by rw[moveV_8,h8])).trans (h8 i)⟩
    · rw[decide_eq_false m];exact⟨h1,h8⟩
   by_cases m:0<U (A*12+8)
   · rw[decide_eq_true m]
     refine key _ (h.put hA (move_ok p q (h.row hA) (by show U (A*12+8)≠0;omega)) (by rw[moveV_0];rfl)) (fun i=>putRow_8 (by rw[moveV_8])) ?_
     have:=putRow_else (U:=U) (V:=moveV (fun j=>U (A*12+j)) p q) (k:=A) (i:=B) (j:=0) (fun e=>hAB e.symm) (by omega)
     simpa using this
   · rw[decide_eq_false m];exact key U h (fun i=>rfl) rfl
def apartN (C U:Nat→Int):Nat→Nat→Int
 |0=>U
 |k+1=>apartU (apartN C U k) (C (k*5)).toNat (C (k*5+1)).toNat (C (k*5+2)) (C (k*5+3)) (C (k*5+4))
structure CtOk (n m:Nat) (C:Nat→Int):Prop where
 a:∀ k,k<m→0≤C (k*5)∧C (k*5)<(n:Int)
 b:∀ k,k<m→0≤C (k*5+1)∧C (k*5+1)<(n:Int)
 ne:∀ k,k<m→C (k*5)≠C (k*5+1)
 x:∀ k,k<m→ -256≤C (k*5+2)∧C (k*5+2)≤256
 y:∀ k,k<m→ -256≤C (k*5+3)∧C (k*5+3)≤256
 d:∀ k,k<m→0≤C (k*5+4)∧C (k*5+4)≤102400
theorem Bods.aparts {n m:Nat} {U C:Nat→Int} (h:Bods n U) (hC:CtOk n m C):∀ k,k≤m→Bods n (apartN C U k)∧∀ i,apartN C U k (i*12+8)=U (i*12+8)
 |0,_=>⟨h,fun i=>rfl⟩
 | k+1,hk=>by
   obtain⟨h1,h2⟩:=Bods.aparts h hC k (by omega)
   have ha:=hC.a k (by omega)
   have hb:=hC.b k (by omega)
   have hn:=hC.ne k (by omega)
   obtain⟨q1,q2⟩:=h1.apart (A:=(C (k*5)).toNat) (B:=(C (k*5+1)).toNat) (by omega) (by omega) (by omega) (C (k*5+2)) (C (k*5+3)) (C (k*5+4))
   exact⟨q1,fun i=>(q2 i).trans (h2 i)⟩
theorem sqn (a:Int):0≤a*a:=by
 rcases Int.le_total 0 a with h|h
 · exact Int.mul_nonneg h h
 · have:=Int.mul_nonneg (show 0≤ -a by omega) (show 0≤ -a by omega);rwa [Int.neg_mul_neg] at this
theorem abs_le_of_sq {a b:Int} (hb:0≤b) (h:a*a<(b+1)*(b+1)): -b≤a∧a≤b:=by
 have k:∀ x:Int,x*x<(b+1)*(b+1)→x≤b:=fun x hx=>by
  by_cases l:b<x
  · have:=Int.mul_le_mul (show b+1≤x by omega) (show b+1≤x by omega) (by omega) (by omega)
    omega
  · omega
 have k1:=k a h
 have k2:=k (-a) (by rw[Int.neg_mul_neg];exact h)
 omega
theorem vl_ge {x y:Int} (hx: -10000000≤x∧x≤10000000) (hy: -10000000≤y∧y≤10000000):0≤vl x y∧(-vl x y≤x∧x≤vl x y)∧(-vl x y≤y∧y≤vl x y):=by
 have h0:0≤x*x+y*y:=by have:=sqn x;have:=sqn y;omega
 have b1:=mul_bd (a:=x) (b:=x) (A:=10000000) (B:=10000000) (by omega) (by omega)
 have b2:=mul_bd (a:=y) (b:=y) (A:=10000000) (B:=10000000) (by omega) (by omega)
 obtain⟨a,b,c⟩:=rootZ_is h0
 have hle:=rootZ_le (n:=x*x+y*y) (B:=99999999) (by omega) (by omega)
 have e:vl x y=rootZ (x*x+y*y):=by unfold vl clampZ;repeat' split<;>omega
 rw[e]
 have:=sqn x
 have:=sqn y
 exact⟨a,abs_le_of_sq a (by omega),abs_le_of_sq a (by omega)⟩
theorem unit_bd {x y:Int} (hx: -10000000≤x∧x≤10000000) (hy: -10000000≤y∧y≤10000000):(-256≤ux x y∧ux x y≤256)∧(-256≤uy x y∧uy x y≤256):=by
 obtain⟨h0,hX,hY⟩:=vl_ge hx hy
 unfold ux uy
 by_cases z:vl x y=0
 · rw[if_pos z,if_pos z];omega
 · rw[if_neg z,if_neg z]
   exact⟨tdiv_le (by omega) (by omega) (by omega),tdiv_le (by omega) (by omega) (by omega)⟩
def HitOk (X Y D:Int):Prop:=(-256≤X∧X≤256)∧(-256≤Y∧Y≤256)∧(0≤D∧D≤102400)
theorem rd_ok {dx dy g X Y D:Int} (hx: -10000000≤dx∧dx≤10000000) (hy: -10000000≤dy∧dy≤10000000) (hg:0≤g∧g≤51200) (e:rdT dx dy g=((X,Y,D),true)):HitOk X Y D∧D≤g:=by
 unfold rdT at e
 split at e
 · rename_i h
   simp only[Prod.mk.injEq,and_true] at e
   obtain⟨rfl,rfl,rfl⟩:=e
   obtain⟨u1,u2⟩:=unit_bd hx hy
   obtain⟨v0,_,_⟩:=vl_ge hx hy
   have b1:=mul_bd (a:=dx) (b:=dx) (A:=10000000) (B:=10000000) (by omega) (by omega)
   have b2:=mul_bd (a:=dy) (b:=dy) (A:=10000000) (B:=10000000) (by omega) (by omega)
   have h0:0≤dx*dx+dy*dy:=by have:=sqn dx;have:=sqn dy;omega
   obtain⟨a,b,c⟩:=rootZ_is h0
   have hle:=rootZ_le (n:=dx*dx+dy*dy) (B:=99999999) (by omega) (by omega)
   have e:vl dx dy=rootZ (dx*dx+dy*dy):=by unfold vl clampZ;repeat' split<;>omega
   have hv:vl dx dy≤g:=by
    rw[e]
    have hs:rootZ (dx*dx+dy*dy)*rootZ (dx*dx+dy*dy)<(g+1)*(g+1):=by
     have:(g+1)*(g+1)=g*g+(2*g+1):=by simp only[Int.add_mul,Int.mul_add,Int.one_mul,Int.mul_one];omega
     omega
    exact(abs_le_of_sq hg.1 hs).2
   exact⟨⟨u1,u2,by omega,by omega⟩,by omega⟩
 · simp at e
theorem bs_ok {s0 s1 s2 s3:Int} (h0:0≤s0) (h1:0≤s1) (h2:0≤s2) (h3:0≤s3) (hs:s0+s1≤102400):
 (-256≤(bsT s0 s1 s2 s3).1∧(bsT s0 s1 s2 s3).1≤256)∧(-256≤(bsT s0 s1 s2 s3).2.1∧(bsT s0 s1 s2 s3).2.1≤256)∧(0≤(bsT s0 s1 s2 s3).2.2∧2*(bsT s0 s1 s2 s3).2.2≤s0+s1):=by
 unfold bsT
 by_cases a:s1<s0<;>simp only[a,if_true,if_false]
 · by_cases b:s2<s1<;>simp only[b,if_true,if_false]
   · by_cases c:s3<s2<;>simp only[c,if_true,if_false]<;>omega
   · by_cases c:s3<s1<;>simp only[c,if_true,if_false]<;>omega
 · by_cases b:s2<s0<;>simp only[b,if_true,if_false]
   · by_cases c:s3<s2<;>simp only[c,if_true,if_false]<;>omega
   · by_cases c:s3<s0<;>simp only[c,if_true,if_false]<;>omega
theorem mx_ok {a b c d x y g X Y D:Int} (ha: -2600000≤a∧a≤c∧c≤2600000∧c-a≤51200) (hb: -2600000≤b∧b≤d∧d≤2600000) (hx: -2560000≤x∧x≤2560000) (hy: -2560000≤y∧y≤2560000) (hg:0≤g∧g≤25600) (e:mxT a b c d x y g=((X,Y,D),true)):HitOk X Y D:=by
 unfold mxT at e
 split at e
 · rename_i h
   unfold ptB at h
   simp only[decide_eq_true_eq] at h
   have f:=bs_ok (s0:=c-x) (s1:=x-a) (s2:=d-y) (s3:=y-b) (by omega) (by omega) (by omega) (by omega) (by omega)
   simp only[Prod.mk.injEq,and_true] at e
   obtain⟨rfl,rfl,rfl⟩:=e
   exact⟨f.1,f.2.1,by omega,by omega⟩
 · have n1:mn (mx x a) c≤c∧a≤mn (mx x a) c:=by unfold mn mx;repeat' split<;>omega
   have n2:mn (mx y b) d≤d∧b≤mn (mx y b) d:=by unfold mn mx;repeat' split<;>omega
   exact(rd_ok (by omega) (by omega) (by omega) e).1
theorem tn_ok {m:(Int×Int×Int)×Bool} {X Y D:Int} (hm:∀ x y d,m=((x,y,d),true)→HitOk x y d) (e:tnT m=((X,Y,D),true)):HitOk X Y D:=by
 obtain⟨⟨x,y,d⟩,k⟩:=m
 unfold tnT at e
 dsimp only at e
 split at e
 · rename_i hk
   subst hk
   simp only[Prod.mk.injEq,and_true] at e
   obtain⟨rfl,rfl,rfl⟩:=e
   obtain⟨h1,h2,h3⟩:=hm x y d rfl
   exact⟨by omega,by omega,h3⟩
 · simp at e
theorem bx_ok {a b c d r s t u X Y D:Int} (h1:c-a≤51200) (h2:t-r≤51200) (e:bxT a b c d r s t u=((X,Y,D),true)):HitOk X Y D:=by
 unfold bxT at e
 split at e
 · rename_i h
   rw[Bool.and_eq_true] at h
   obtain⟨l1,l2⟩:=h
   unfold leB at l1 l2
   simp only[decide_eq_true_eq] at l1 l2
   have f:=bs_ok (s0:=c-r) (s1:=t-a) (s2:=d-s) (s3:=u-b) (by omega) (by omega) (by omega) (by omega) (by omega)
   simp only[Prod.mk.injEq,and_true] at e
   rw[e] at f
   exact⟨f.1,f.2.1,by have:=f.2.2;dsimp only at this;omega,by have:=f.2.2;dsimp only at this;omega⟩
 · simp at e
theorem toT_ok {k g h x y m c d u v X Y D:Int} (e:toT k g h x y m c d u v=((X,Y,D),true)):HitOk X Y D:=by
 unfold toT at e
 split at e
 · rename_i hz
   simp only[Bool.and_eq_true] at hz
   obtain⟨s1,s2,p1,p2⟩:=hz
   obtain⟨⟨x0,x1⟩,y0,y1⟩:=inB_of p1
   obtain⟨⟨u0,u1⟩,v0,v1⟩:=inB_of p2
   rcases shB_kinds s1 with⟨rfl,rfl,a0,a1⟩|⟨rfl,a0,a1,a2,a3⟩
   · rcases shB_kinds s2 with⟨rfl,rfl,b0,b1⟩|⟨rfl,b0,b1,b2,b3⟩
     · have q1:tcT 1 g 0 x y 1 c 0 u v=rdT (u-x) (v-y) (g+c):=by unfold tcT;simp
       rw[q1] at e
       exact(rd_ok (by omega) (by omega) (by omega) e).1
     · have q1:tcT 1 g 0 x y 2 c d u v=tnT (mxT (u-c) (v-d) (u+c) (v+d) x y g):=by unfold tcT;simp
       rw[q1] at e
       exact tn_ok (fun x' y' d' e0=>mx_ok (by omega) (by omega) (by omega) (by omega) (by omega) e0) e
   · rcases shB_kinds s2 with⟨rfl,rfl,b0,b1⟩|⟨rfl,b0,b1,b2,b3⟩
     · have q1:tcT 2 g h x y 1 c 0 u v=mxT (x-g) (y-h) (x+g) (y+h) u v c:=by unfold tcT;simp
       rw[q1] at e
       exact mx_ok (by omega) (by omega) (by omega) (by omega) (by omega) e
     · have q1:tcT 2 g h x y 2 c d u v=bxT (x-g) (y-h) (x+g) (y+h) (u-c) (v-d) (u+c) (v+d):=by unfold tcT;simp
       rw[q1] at e
       exact bx_ok (by omega) (by omega) e
 · simp at e
def Fives (P:Int→Int→Int→Int→Int→Prop) (l:List Int):Prop:=∃ m,l.length=m*5∧∀ k,k<m→P (ofL l (k*5)) (ofL l (k*5+1)) (ofL l (k*5+2)) (ofL l (k*5+3)) (ofL l (k*5+4))
theorem ofL_l {l r:List Int} {q:Nat} (h:q<l.length):ofL (l++r) q=ofL l q:=by
 unfold ofL;rw[List.getD_eq_getElem?_getD,List.getD_eq_getElem?_getD,List.getElem?_append_left h]
theorem ofL_r {l r:List Int} {q:Nat} (h:l.length≤q):ofL (l++r) q=ofL r (q-l.length):=by
 unfold ofL;rw[List.getD_eq_getElem?_getD,List.getD_eq_getElem?_getD,List.getElem?_append_right h]
theorem Fives.nil (P:Int→Int→Int→Int→Int→Prop):Fives P []:=⟨0,rfl,fun k h=>by omega⟩
theorem Fives.one {P:Int→Int→Int→Int→Int→Prop} {a b x y d:Int} (h:P a b x y d):Fives P [a,b,x,y,d]:=by
 refine⟨1,rfl,fun k hk=> ?_⟩
 obtain rfl:k=0:=by omega
 exact h
theorem Fives.app {P:Int→Int→Int→Int→Int→Prop} {l r:List Int} (h1:Fives P l) (h2:Fives P r):Fives P (l++r):=by
 obtain⟨m,e1,p1⟩:=h1
 obtain⟨m',e2,p2⟩:=h2
 refine⟨m+m',by rw[List.length_append,e1,e2];omega,fun k hk=> ?_⟩
 by_cases c:k<m
 · rw[ofL_l (by omega),ofL_l (by omega),ofL_l (by omega),ofL_l (by omega),ofL_l (by omega)]
   exact p1 k c
 · rw[ofL_r (by omega),ofL_r (by omega),ofL_r (by omega),ofL_r (by omega),ofL_r (by omega),e1,show k*5-m*5=(k-m)*5 by omega,show k*5+1-m*5=(k-m)*5+1 by omega,show k*5+2-m*5=(k-m)*5+2 by omega,show k*5+3-m*5=(k-m)*5+3 by omega,show k*5+4-m*5=(k-m)*5+4 by omega]
   exact p2 (k-m) (by omega)
def CtP (n:Nat) (a b x y d:Int):Prop:=0≤a∧a<b∧b<(n:Int)∧HitOk x y d
theorem conOne_ok (C:Nat→Nat→Int) {n i k:Nat} (hk:k<n):Fives (CtP n) (conOne C i k):=by
 unfold conOne
 split
 · rename_i h
   unfold conB at h
   simp only[Bool.and_eq_true,decide_eq_true_eq] at h
   have e:toT (C 1 i) (C 2 i) (C 3 i) (C 4 i) (C 5 i) (C 1 k) (C 2 k) (C 3 k) (C 4 k) (C 5 k)=(((tcH C i k).1.1,(tcH C i k).1.2.1,(tcH C i k).1.2.2),true):=by
    show tcH C i k=_
    rw[←h.2.2]
   exact Fives.one ⟨by omega,by omega,by omega,toT_ok e⟩
 · exact Fives.nil _
theorem conIn_ok (C:Nat→Nat→Int) {n i:Nat}:∀ k,k≤n→Fives (CtP n) (conIn C i k)
 |0,_=>Fives.nil _
 |k+1,h=>(conIn_ok C k (by omega)).app (conOne_ok C (by omega))
theorem conOut_ok (C:Nat→Nat→Int) {n:Nat}:∀ i,Fives (CtP n) (conOut C n i)
 |0=>Fives.nil _
 |i+1=>(conOut_ok C i).app (conIn_ok C n (Nat.le_refl _))
theorem Fives.ct {n m:Nat} {l:List Int} (h:Fives (CtP n) l) (e:l.length=m*5):CtOk n m (ofL l):=by
 obtain⟨m',e',p⟩:=h
 obtain rfl:m'=m:=by omega
 exact⟨fun k hk=>⟨(p k hk).1,by have:=(p k hk).2;omega⟩,fun k hk=>⟨by have:=p k hk;unfold CtP at this;omega,(p k hk).2.2.1⟩,fun k hk=>by have:=(p k hk).2.1;omega,fun k hk=>(p k hk).2.2.2.1,fun k hk=>(p k hk).2.2.2.2.1,fun k hk=>(p k hk).2.2.2.2.2⟩
theorem con_ct (C:Nat→Nat→Int) {n m:Nat} (e:(conL C n).length=m*5):CtOk n m (ofL (conL C n)):=(conOut_ok C n).ct e
end Go.Proofs.YthajilkjfkppoaaGreatDoor
