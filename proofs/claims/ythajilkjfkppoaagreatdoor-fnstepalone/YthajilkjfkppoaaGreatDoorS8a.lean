/- Texts of a proof. -/
import Derived.Test.YthajilkjfkppoaaGreatDoorB20
import Derived.Deep.RegionHeld3
import Derived.Deep.DeepCutAuto
set_option maxHeartbeats 16000000
set_option maxRecDepth 20000
namespace Go.Proofs.YthajilkjfkppoaaGreatDoor
open Go.RowKit
set_option linter.unusedVariables false
set_option linter.unusedSimpArgs false
theorem all12 {P:Nat→Prop} (h:∀ j,j<12→P j):P 0∧P 1∧P 2∧P 3∧P 4∧P 5∧P 6∧P 7∧P 8∧P 9∧P 10∧P 11:=
 ⟨h 0 (by decide),h 1 (by decide),h 2 (by decide),h 3 (by decide),h 4 (by decide),h 5 (by decide),h 6 (by decide),h 7 (by decide),h 8 (by decide),h 9 (by decide),h 10 (by decide),h 11 (by decide)⟩
theorem l8Apart_any (base g n c:Nat) (U:Nat→Int) (A B:Nat) (X Y D:Int) (w:World) (ho0:OwnL w base 35 12 (.slice (some ⟨g,0,none⟩) n c) n U) (hn:n≤1048576) (hA:A<n) (hB:B<n) (hbb:Bods n U) (hX: -256≤X∧X≤256) (hY: -256≤Y∧Y≤256) (hD:0≤D∧D≤102400):
 Calls Tryz.prog 82 #[.slice (some ⟨g,0,none⟩) n c,.agg #[.int .i64 (A:Int),.int .i64 (B:Int),.int .i64 X,.int .i64 Y,.int .i64 D]] w fun e w'=>e= .returned (.tuple #[])∧OwnL w' base 35 12 (.slice (some ⟨g,0,none⟩) n c) n (apartU U A B X Y D)∧Fr (fun b=>b=g) w w':=by
 have hset:=cset_map
 have hgl:g<w.heap.size:=(ho0.lt g rfl).2
 have hAi:(A:Int)<(n:Int):=by omega
 have hBi:(B:Int)<(n:Int):=by omega
 obtain⟨mA,_,b4A,b5A,_,_,_⟩:=bodyB_bd (hbb.ok A hA)
 obtain⟨mB,_,b4B,b5B,_,_,_⟩:=bodyB_bd (hbb.ok B hB)
 obtain⟨nn,hnn⟩:∃ nn,(D-64).tdiv 4=nn:=⟨_,rfl⟩
 have hnb:=tdiv_bd (x:=D-64) (B:=102400) 4 (by omega)
 have hnr:=tdiv_le (x:=D-64) (B:=30000) (m:=4) (by omega) (by omega) (by omega)
 rw[hnn] at hnr
 have w1:IntKind.i64.wrap (D-64)=D-64:=i64w (by omega)
 have w2:IntKind.i64.wrap ((D-64).tdiv 4)=nn:=by rw[hnn];exact i64w (by omega)
 have w3:IntKind.i64.wrap nn=nn:=i64w (by omega)
 have hE:Below w.heap.size w (w.alloc (Obj.cells #[.int .i64 (A:Int),.int .i64 (B:Int),.int .i64 X,.int .i64 Y,.int .i64 D] 40)):=(Below.refl _ _).alloc (Nat.le_refl _) _
 obtain⟨R,hR⟩:∃ R,apartU U A B X Y D=R:=⟨_,rfl⟩
 rw[hR]
 unfold apartU at hR
 rw[hnn] at hR
 by_cases h0:0<nn
 · rw[decide_eq_true h0] at hR
   simp only[cond_true] at hR
   have hsA:=share_bd (V:=(fun j=>U (A*12+j))) (W:=(fun j=>U (B*12+j))) (n:=nn) mA.1 mB.1 (by omega)
   have hsB:=share_bd (V:=(fun j=>U (B*12+j))) (W:=(fun j=>U (A*12+j))) (n:=nn) mB.1 mA.1 (by omega)
   obtain⟨xA,hxA⟩:∃ x,shareV (fun j=>U (A*12+j)) (fun j=>U (B*12+j)) nn=x:=⟨_,rfl⟩
   obtain⟨xB,hxB⟩:∃ x,shareV (fun j=>U (B*12+j)) (fun j=>U (A*12+j)) nn=x:=⟨_,rfl⟩
   rw[hxA] at hsA
   rw[hxB] at hsB
   rw[hxA,hxB] at hR
   have nX:IntKind.i64.wrap (-X)= -X:=i64w (by omega)
   have nY:IntKind.i64.wrap (-Y)= -Y:=i64w (by omega)
   have pAp:=mul_bd (a:=X) (b:=xA) (A:=256) (B:=30000) (by omega) (by omega)
   obtain⟨pAm,pAk⟩:∃ z,X*xA=z:=⟨_,rfl⟩
   rw[pAk] at pAp
   have pAn:=tdiv_le (x:=pAm) (B:=30000) (m:=256) (by omega) (by omega) (by omega)
   obtain⟨pA,pAe⟩:∃ z,pAm.tdiv 256=z:=⟨_,rfl⟩
   rw[pAe] at pAn
   have pAw:IntKind.i64.wrap pAm=pAm:=i64w (by omega)
   have pAv:IntKind.i64.wrap pA=pA:=i64w (by omega)
   have pAf:(-pAm).tdiv 256= -pA:=by rw[Int.neg_tdiv,pAe]
   have pAx:IntKind.i64.wrap (-pAm)= -pAm:=i64w (by omega)
   have pAy:IntKind.i64.wrap (-pA)= -pA:=i64w (by omega)
   have pAz:IntKind.i64.wrap (-X*xA)= -pAm:=by rw[Int.neg_mul,pAk];exact pAx
   rw[show (-X*xA).tdiv 256= -pA by rw[Int.neg_mul,pAk,pAf]] at hR
   have qAp:=mul_bd (a:=Y) (b:=xA) (A:=256) (B:=30000) (by omega) (by omega)
   obtain⟨qAm,qAk⟩:∃ z,Y*xA=z:=⟨_,rfl⟩
   rw[qAk] at qAp
   have qAn:=tdiv_le (x:=qAm) (B:=30000) (m:=256) (by omega) (by omega) (by omega)
   obtain⟨qA,qAe⟩:∃ z,qAm.tdiv 256=z:=⟨_,rfl⟩
   rw[qAe] at qAn
   have qAw:IntKind.i64.wrap qAm=qAm:=i64w (by omega)
   have qAv:IntKind.i64.wrap qA=qA:=i64w (by omega)
   have qAf:(-qAm).tdiv 256= -qA:=by rw[Int.neg_tdiv,qAe]
   have qAx:IntKind.i64.wrap (-qAm)= -qAm:=i64w (by omega)
   have qAy:IntKind.i64.wrap (-qA)= -qA:=i64w (by omega)
   have qAz:IntKind.i64.wrap (-Y*xA)= -qAm:=by rw[Int.neg_mul,qAk];exact qAx
   rw[show (-Y*xA).tdiv 256= -qA by rw[Int.neg_mul,qAk,qAf]] at hR
   have pBp:=mul_bd (a:=X) (b:=xB) (A:=256) (B:=30000) (by omega) (by omega)
   obtain⟨pBm,pBk⟩:∃ z,X*xB=z:=⟨_,rfl⟩
   rw[pBk] at pBp
   have pBn:=tdiv_le (x:=pBm) (B:=30000) (m:=256) (by omega) (by omega) (by omega)
   obtain⟨pB,pBe⟩:∃ z,pBm.tdiv 256=z:=⟨_,rfl⟩
   rw[pBe] at pBn
   have pBw:IntKind.i64.wrap pBm=pBm:=i64w (by omega)
   have pBv:IntKind.i64.wrap pB=pB:=i64w (by omega)
   rw[pBk,pBe] at hR
   have qBp:=mul_bd (a:=Y) (b:=xB) (A:=256) (B:=30000) (by omega) (by omega)
   obtain⟨qBm,qBk⟩:∃ z,Y*xB=z:=⟨_,rfl⟩
   rw[qBk] at qBp
   have qBn:=tdiv_le (x:=qBm) (B:=30000) (m:=256) (by omega) (by omega) (by omega)
   obtain⟨qB,qBe⟩:∃ z,qBm.tdiv 256=z:=⟨_,rfl⟩
   rw[qBe] at qBn
   have qBw:IntKind.i64.wrap qBm=qBm:=i64w (by omega)
   have qBv:IntKind.i64.wrap qB=qB:=i64w (by omega)
   rw[qBk,qBe] at hR
   have h1:¬ nn≤0:=by omega
   obtain⟨MA,hMA⟩:∃ b,decide (0<U (A*12+8))=b:=⟨_,rfl⟩
   obtain⟨MB,hMB⟩:∃ b,decide (0<U (B*12+8))=b:=⟨_,rfl⟩
   rw[hMA,hMB] at hR
   have iA:∀ j,j<12→A*12+j<n*12:=fun j hj=>by omega
   have iB:∀ j,j<12→B*12+j<n*12:=fun j hj=>by omega
   have rpA: -20000000≤ -pA∧ -pA≤20000000:=by omega
   have rqA: -20000000≤ -qA∧ -qA≤20000000:=by omega
   have rpB: -20000000≤pB∧pB≤20000000:=by omega
   have rqB: -20000000≤qB∧qB≤20000000:=by omega
   clear pAn qAn pBn qBn pAp qAp pBp qBp hsA hsB hnb
   have a0:=ho0.cellq (q:=A*12) (iA 0 (by decide))
   have a1:=ho0.cellq (q:=A*12+1) (iA 1 (by decide))
   have a2:=ho0.cellq (q:=A*12+2) (iA 2 (by decide))
   have a3:=ho0.cellq (q:=A*12+3) (iA 3 (by decide))
   have a4:=ho0.cellq (q:=A*12+4) (iA 4 (by decide))
   have a5:=ho0.cellq (q:=A*12+5) (iA 5 (by decide))
   have a6:=ho0.cellq (q:=A*12+6) (iA 6 (by decide))
   have a7:=ho0.cellq (q:=A*12+7) (iA 7 (by decide))
   have a8:=ho0.cellq (q:=A*12+8) (iA 8 (by decide))
   have a9:=ho0.cellq (q:=A*12+9) (iA 9 (by decide))
   have a10:=ho0.cellq (q:=A*12+10) (iA 10 (by decide))
   have a11:=ho0.cellq (q:=A*12+11) (iA 11 (by decide))
   have b0:=ho0.cellq (q:=B*12) (iB 0 (by decide))
   have b1:=ho0.cellq (q:=B*12+1) (iB 1 (by decide))
   have b2:=ho0.cellq (q:=B*12+2) (iB 2 (by decide))
   have b3:=ho0.cellq (q:=B*12+3) (iB 3 (by decide))
   have b4:=ho0.cellq (q:=B*12+4) (iB 4 (by decide))
   have b5:=ho0.cellq (q:=B*12+5) (iB 5 (by decide))
   have b6:=ho0.cellq (q:=B*12+6) (iB 6 (by decide))
   have b7:=ho0.cellq (q:=B*12+7) (iB 7 (by decide))
   have b8:=ho0.cellq (q:=B*12+8) (iB 8 (by decide))
   have b9:=ho0.cellq (q:=B*12+9) (iB 9 (by decide))
   have b10:=ho0.cellq (q:=B*12+10) (iB 10 (by decide))
   have b11:=ho0.cellq (q:=B*12+11) (iB 11 (by decide))
   go_enter Tryz.func82,Tryz.ntmps82
   go_upto_region 5 with fail
   have hE2:Below (w.alloc (Obj.cells #[.int .i64 (A:Int),.int .i64 (B:Int),.int .i64 X,.int .i64 Y,.int .i64 D] 40)).heap.size (w.alloc (Obj.cells #[.int .i64 (A:Int),.int .i64 (B:Int),.int .i64 X,.int .i64 Y,.int .i64 D] 40)) ((w.alloc (Obj.cells #[.int .i64 (A:Int),.int .i64 (B:Int),.int .i64 X,.int .i64 Y,.int .i64 D] 40)).alloc (Obj.cells #[.int .i64 (U (A*12)),.int .i64 (U (A*12+1)),.int .i64 (U (A*12+2)),.int .i64 (U (A*12+3)),.int .i64 (U (A*12+4)),.int .i64 (U (A*12+5)),.int .i64 (U (A*12+6)),.int .i64 (U (A*12+7)),.int .i64 (U (A*12+8)),.int .i64 (U (A*12+9)),.int .i64 (U (A*12+10)),.int .i64 (U (A*12+11))] 35)):=(Below.refl _ _).alloc (Nat.le_refl _) _
   have hE3:Below ((w.alloc (Obj.cells #[.int .i64 (A:Int),.int .i64 (B:Int),.int .i64 X,.int .i64 Y,.int .i64 D] 40)).alloc (Obj.cells #[.int .i64 (U (A*12)),.int .i64 (U (A*12+1)),.int .i64 (U (A*12+2)),.int .i64 (U (A*12+3)),.int .i64 (U (A*12+4)),.int .i64 (U (A*12+5)),.int .i64 (U (A*12+6)),.int .i64 (U (A*12+7)),.int .i64 (U (A*12+8)),.int .i64 (U (A*12+9)),.int .i64 (U (A*12+10)),.int .i64 (U (A*12+11))] 35)).heap.size ((w.alloc (Obj.cells #[.int .i64 (A:Int),.int .i64 (B:Int),.int .i64 X,.int .i64 Y,.int .i64 D] 40)).alloc (Obj.cells #[.int .i64 (U (A*12)),.int .i64 (U (A*12+1)),.int .i64 (U (A*12+2)),.int .i64 (U (A*12+3)),.int .i64 (U (A*12+4)),.int .i64 (U (A*12+5)),.int .i64 (U (A*12+6)),.int .i64 (U (A*12+7)),.int .i64 (U (A*12+8)),.int .i64 (U (A*12+9)),.int .i64 (U (A*12+10)),.int .i64 (U (A*12+11))] 35)) (((w.alloc (Obj.cells #[.int .i64 (A:Int),.int .i64 (B:Int),.int .i64 X,.int .i64 Y,.int .i64 D] 40)).alloc (Obj.cells #[.int .i64 (U (A*12)),.int .i64 (U (A*12+1)),.int .i64 (U (A*12+2)),.int .i64 (U (A*12+3)),.int .i64 (U (A*12+4)),.int .i64 (U (A*12+5)),.int .i64 (U (A*12+6)),.int .i64 (U (A*12+7)),.int .i64 (U (A*12+8)),.int .i64 (U (A*12+9)),.int .i64 (U (A*12+10)),.int .i64 (U (A*12+11))] 35)).alloc (Obj.cells #[.int .i64 (U (B*12)),.int .i64 (U (B*12+1)),.int .i64 (U (B*12+2)),.int .i64 (U (B*12+3)),.int .i64 (U (B*12+4)),.int .i64 (U (B*12+5)),.int .i64 (U (B*12+6)),.int .i64 (U (B*12+7)),.int .i64 (U (B*12+8)),.int .i64 (U (B*12+9)),.int .i64 (U (B*12+10)),.int .i64 (U (B*12+11))] 35)):=(Below.refl _ _).alloc (Nat.le_refl _) _
   have hET:Below w.heap.size w (((w.alloc (Obj.cells #[.int .i64 (A:Int),.int .i64 (B:Int),.int .i64 X,.int .i64 Y,.int .i64 D] 40)).alloc (Obj.cells #[.int .i64 (U (A*12)),.int .i64 (U (A*12+1)),.int .i64 (U (A*12+2)),.int .i64 (U (A*12+3)),.int .i64 (U (A*12+4)),.int .i64 (U (A*12+5)),.int .i64 (U (A*12+6)),.int .i64 (U (A*12+7)),.int .i64 (U (A*12+8)),.int .i64 (U (A*12+9)),.int .i64 (U (A*12+10)),.int .i64 (U (A*12+11))] 35)).alloc (Obj.cells #[.int .i64 (U (B*12)),.int .i64 (U (B*12+1)),.int .i64 (U (B*12+2)),.int .i64 (U (B*12+3)),.int .i64 (U (B*12+4)),.int .i64 (U (B*12+5)),.int .i64 (U (B*12+6)),.int .i64 (U (B*12+7)),.int .i64 (U (B*12+8)),.int .i64 (U (B*12+9)),.int .i64 (U (B*12+10)),.int .i64 (U (B*12+11))] 35)):=hE.trans ((hE2.trans (hE3.mono hE2.size)).mono hE.size)
   have hP:Ap8 w (((w.alloc (Obj.cells #[.int .i64 (A:Int),.int .i64 (B:Int),.int .i64 X,.int .i64 Y,.int .i64 D] 40)).alloc (Obj.cells #[.int .i64 (U (A*12)),.int .i64 (U (A*12+1)),.int .i64 (U (A*12+2)),.int .i64 (U (A*12+3)),.int .i64 (U (A*12+4)),.int .i64 (U (A*12+5)),.int .i64 (U (A*12+6)),.int .i64 (U (A*12+7)),.int .i64 (U (A*12+8)),.int .i64 (U (A*12+9)),.int .i64 (U (A*12+10)),.int .i64 (U (A*12+11))] 35)).alloc (Obj.cells #[.int .i64 (U (B*12)),.int .i64 (U (B*12+1)),.int .i64 (U (B*12+2)),.int .i64 (U (B*12+3)),.int .i64 (U (B*12+4)),.int .i64 (U (B*12+5)),.int .i64 (U (B*12+6)),.int .i64 (U (B*12+7)),.int .i64 (U (B*12+8)),.int .i64 (U (B*12+9)),.int .i64 (U (B*12+10)),.int .i64 (U (B*12+11))] 35)) A B X Y D (w.heap.size+1) (w.heap.size+1+1) (fun j=>U (A*12+j)) (fun j=>U (B*12+j)):=
    ⟨by go_simp,by go_simp,by go_simp,by go_simp,by go_simp,fun j hj=>by rcases(show j=0∨j=1∨j=2∨j=3∨j=4∨j=5∨j=6∨j=7∨j=8∨j=9∨j=10∨j=11 by omega) with rfl|rfl|rfl|rfl|rfl|rfl|rfl|rfl|rfl|rfl|rfl|rfl<;>go_simp,fun j hj=>by rcases(show j=0∨j=1∨j=2∨j=3∨j=4∨j=5∨j=6∨j=7∨j=8∨j=9∨j=10∨j=11 by omega) with rfl|rfl|rfl|rfl|rfl|rfl|rfl|rfl|rfl|rfl|rfl|rfl<;>go_simp,by first|(simp;done)|(simp;omega),by first|(simp;done)|(simp;omega),by first|(simp;done)|(simp;omega),by omega,by omega⟩
   have ho:=ho0.below hET
   have hF:Fr (fun b=>b=g) w (((w.alloc (Obj.cells #[.int .i64 (A:Int),.int .i64 (B:Int),.int .i64 X,.int .i64 Y,.int .i64 D] 40)).alloc (Obj.cells #[.int .i64 (U (A*12)),.int .i64 (U (A*12+1)),.int .i64 (U (A*12+2)),.int .i64 (U (A*12+3)),.int .i64 (U (A*12+4)),.int .i64 (U (A*12+5)),.int .i64 (U (A*12+6)),.int .i64 (U (A*12+7)),.int .i64 (U (A*12+8)),.int .i64 (U (A*12+9)),.int .i64 (U (A*12+10)),.int .i64 (U (A*12+11))] 35)).alloc (Obj.cells #[.int .i64 (U (B*12)),.int .i64 (U (B*12+1)),.int .i64 (U (B*12+2)),.int .i64 (U (B*12+3)),.int .i64 (U (B*12+4)),.int .i64 (U (B*12+5)),.int .i64 (U (B*12+6)),.int .i64 (U (B*12+7)),.int .i64 (U (B*12+8)),.int .i64 (U (B*12+9)),.int .i64 (U (B*12+10)),.int .i64 (U (B*12+11))] 35)):=Fr.of_below hET
   generalize (((w.alloc (Obj.cells #[.int .i64 (A:Int),.int .i64 (B:Int),.int .i64 X,.int .i64 Y,.int .i64 D] 40)).alloc (Obj.cells #[.int .i64 (U (A*12)),.int .i64 (U (A*12+1)),.int .i64 (U (A*12+2)),.int .i64 (U (A*12+3)),.int .i64 (U (A*12+4)),.int .i64 (U (A*12+5)),.int .i64 (U (A*12+6)),.int .i64 (U (A*12+7)),.int .i64 (U (A*12+8)),.int .i64 (U (A*12+9)),.int .i64 (U (A*12+10)),.int .i64 (U (A*12+11))] 35)).alloc (Obj.cells #[.int .i64 (U (B*12)),.int .i64 (U (B*12+1)),.int .i64 (U (B*12+2)),.int .i64 (U (B*12+3)),.int .i64 (U (B*12+4)),.int .i64 (U (B*12+5)),.int .i64 (U (B*12+6)),.int .i64 (U (B*12+7)),.int .i64 (U (B*12+8)),.int .i64 (U (B*12+9)),.int .i64 (U (B*12+10)),.int .i64 (U (B*12+11))] 35))=wx at hET hP ho hF ⊢
   clear hE hE2 hE3 a0 b0 a1 b1 a2 b2 a3 b3 a4 b4 a5 b5 a6 b6 a7 b7 a8 b8 a9 b9 a10 b10 a11 b11 hET
   generalize w.heap.size+1+1=bb at hP ⊢
   generalize w.heap.size+1=ba at hP ⊢
   have hMA:decide (0<(fun j=>U (A*12+j)) 8)=MA:=hMA
   have mA:0≤(fun j=>U (A*12+j)) 8∧(fun j=>U (A*12+j)) 8≤1000:=mA
   have mB:0≤(fun j=>U (B*12+j)) 8∧(fun j=>U (B*12+j)) 8≤1000:=mB
   have b4A: -2560000≤(fun j=>U (A*12+j)) 4∧(fun j=>U (A*12+j)) 4≤2560000:=b4A
   have b5A: -2560000≤(fun j=>U (A*12+j)) 5∧(fun j=>U (A*12+j)) 5≤2560000:=b5A
   have b4B: -2560000≤(fun j=>U (B*12+j)) 4∧(fun j=>U (B*12+j)) 4≤2560000:=b4B
   have b5B: -2560000≤(fun j=>U (B*12+j)) 5∧(fun j=>U (B*12+j)) 5≤2560000:=b5B
   have hMB:decide (0<(fun j=>U (B*12+j)) 8)=MB:=hMB
   generalize (fun j=>U (A*12+j))=VA at hP hR hMA mA b4A b5A hxA hxB ⊢
   generalize (fun j=>U (B*12+j))=VB at hP hR hMB mB b4B b5B hxA hxB ⊢
   have wk:=fun (wc:World) (k:Ap8 w wc A B X Y D ba bb VA VB)=>k.k4
   have k0:=hP.k0
   have k1:=hP.k1
   have k2:=hP.k2
   have k3:=hP.k3
   have k4:=hP.k4
   obtain⟨y0,y1,y2,y3,y4,y5,y6,y7,y8,y9,y10,y11⟩:=all12 hP.ca
   obtain⟨z0,z1,z2,z3,z4,z5,z6,z7,z8,z9,z10,z11⟩:=all12 hP.cb
   go_cut [7] (fun s7 wc=>s7= .int .i64 xA∧Ap8 w wc A B X Y D ba bb VA VB∧OwnL wc base 35 12 (.slice (some ⟨g,0,none⟩) n c) n U∧Fr (fun b=>b=g) w wc)
   case first=>
    go_wp2_with (go_at_call 110;refine(l8Share_q VA VB nn xA _ mA mB hnr hxA).mono ?_;rintro e w5 ⟨rfl,hb5⟩)
    go_meet
    exact⟨rfl,hP.on hb5,ho.below hb5,hF.trans (Fr.of_below hb5)⟩
   case rest=>
   clear y0 z0 y1 z1 y2 z2 y3 z3 y4 z4 y5 z5 y6 z6 y7 z7 y8 z8 y9 z9 y10 z10 y11 z11 k0 k1 k2 k3 k4 hP ho hF
   obtain⟨rfl,hP,ho,hF⟩:=hcut
   obtain⟨y0,y1,y2,y3,y4,y5,y6,y7,y8,y9,y10,y11⟩:=all12 hP.ca
   obtain⟨z0,z1,z2,z3,z4,z5,z6,z7,z8,z9,z10,z11⟩:=all12 hP.cb
   go_upto_region 6 with fail
   go_cut [8] (fun s8 wc=>s8= .int .i64 xB∧Ap8 w wc A B X Y D ba bb VA VB∧OwnL wc base 35 12 (.slice (some ⟨g,0,none⟩) n c) n U∧Fr (fun b=>b=g) w wc)
   case first=>
    go_wp2_with (go_at_call 110;refine(l8Share_q VB VA nn xB _ mB mA hnr hxB).mono ?_;rintro e w5 ⟨rfl,hb5⟩)
    go_meet
    exact⟨rfl,hP.on hb5,ho.below hb5,hF.trans (Fr.of_below hb5)⟩
   case rest=>
   clear y0 z0 y1 z1 y2 z2 y3 z3 y4 z4 y5 z5 y6 z6 y7 z7 y8 z8 y9 z9 y10 z10 y11 z11 hP ho hF wk
   obtain⟨rfl,hP,ho,hF⟩:=hcut
   obtain⟨U1,hUA⟩:∃ U1,(bif MA then putRow U A (moveV VA (-pA) (-qA)) else U)=U1:=⟨_,rfl⟩
   rw[hUA] at hR
   rename_i hKK
   refine hKK _ _ ?_
   refine wp_seq_k (fun K8 hK8=> ?_)
   go_cut [] (fun wc=>Ap8 w wc A B X Y D ba bb VA VB∧OwnL wc base 35 12 (.slice (some ⟨g,0,none⟩) n c) n U1∧Fr (fun b=>b=g) w wc)
   case first=>
    have k0:=hP.k0
    have k1:=hP.k1
    have k2:=hP.k2
    have k3:=hP.k3
    have k4:=hP.k4
    obtain⟨x0,x1,x2,x3,x4,x5,x6,x7,x8,x9,x10,x11⟩:=all12 hP.ca
    cases MA with
    | true=>
      simp only[cond_true] at hUA
      have gg:=of_decide_eq_true hMA
      obtain⟨M,hM⟩:∃ M,moveV VA (-pA) (-qA)=M:=⟨_,rfl⟩
      rw[hM] at hUA
      subst hUA
      go_upto_region 8 with fail
      refine wp_region_held_drew (S:=fun w'=>w'.cell? ⟨w.heap.size,0,none⟩=some (.int .i64 (A:Int))∧w'.cell? ⟨w.heap.size,1,none⟩=some (.int .i64 (B:Int))∧w'.cell? ⟨w.heap.size,2,none⟩=some (.int .i64 X)∧w'.cell? ⟨w.heap.size,3,none⟩=some (.int .i64 Y)∧w'.cell? ⟨w.heap.size,4,none⟩=some (.int .i64 D)∧w'.cell? ⟨ba,0,none⟩=some (.int .i64 (VA 0))∧w'.cell? ⟨ba,1,none⟩=some (.int .i64 (VA 1))∧w'.cell? ⟨ba,2,none⟩=some (.int .i64 (VA 2))∧w'.cell? ⟨ba,3,none⟩=some (.int .i64 (VA 3))∧w'.cell? ⟨ba,4,none⟩=some (.int .i64 (VA 4))∧w'.cell? ⟨ba,5,none⟩=some (.int .i64 (VA 5))∧w'.cell? ⟨ba,6,none⟩=some (.int .i64 (VA 6))∧w'.cell? ⟨ba,7,none⟩=some (.int .i64 (VA 7))∧w'.cell? ⟨ba,8,none⟩=some (.int .i64 (VA 8))∧w'.cell? ⟨ba,9,none⟩=some (.int .i64 (VA 9))∧w'.cell? ⟨ba,10,none⟩=some (.int .i64 (VA 10))∧w'.cell? ⟨ba,11,none⟩=some (.int .i64 (VA 11))) (by kernel_rfl) ?_ (fun hHeld=> ?_)
      · (try dsimp only)
        (first|(go_simp;done)|(go_keep;done))
      refine tq 0 hHeld ?_
      refine tq 1 hHeld ?_
      refine tq 2 hHeld ?_
      refine tq 3 hHeld ?_
      refine tq 4 hHeld ?_
      refine tq 5 hHeld ?_
      refine tq 6 hHeld ?_
      refine tq 7 hHeld ?_
      refine tq 8 hHeld ?_
      refine tq 9 hHeld ?_
      refine tq 10 hHeld ?_
      refine tq 11 hHeld ?_
      refine tq 12 hHeld ?_
      refine tq 13 hHeld ?_
      refine tq 14 hHeld ?_
      refine tq 15 hHeld ?_
      refine tq 16 hHeld ?_
      refine tq 17 hHeld ?_
      refine tq 18 hHeld ?_
      refine tq 19 hHeld ?_
      refine tq 20 hHeld ?_
      refine tc 21 fun K hK=> ?_
      (go_simp;(go_at_call 83;refine(l6Move_any VA (-pA) (-qA) _ b4A b5A rpA rqA).mono ?_;rintro e wm ⟨rfl,hbm⟩;(try rw[hM]);have hPm:=hP.on hbm.ofDr;have hom:=ho.below hbm.ofDr;have hFm:=hF.trans (Fr.of_below hbm.ofDr);clear k0 k1 k2 k3 k4 x0 x1 x2 x3 x4 x5 x6 x7 x8 x9 x10 x11 hP ho hF hbm;have k0:=hPm.k0;have k1:=hPm.k1;have k2:=hPm.k2;have k3:=hPm.k3;have k4:=hPm.k4;obtain⟨x0,x1,x2,x3,x4,x5,x6,x7,x8,x9,x10,x11⟩:=all12 hPm.ca;have umf:=hom.fro;(have um0:=hom.cellq (q:=A*12) (iA 0 (by decide)));(have um1:=hom.cellq (q:=A*12+1) (iA 1 (by decide)));(have um2:=hom.cellq (q:=A*12+2) (iA 2 (by decide)));(have um3:=hom.cellq (q:=A*12+3) (iA 3 (by decide)));(have um4:=hom.cellq (q:=A*12+4) (iA 4 (by decide)));(have um5:=hom.cellq (q:=A*12+5) (iA 5 (by decide)));(have um6:=hom.cellq (q:=A*12+6) (iA 6 (by decide)));(have um7:=hom.cellq (q:=A*12+7) (iA 7 (by decide)));(have um8:=hom.cellq (q:=A*12+8) (iA 8 (by decide)));(have um9:=hom.cellq (q:=A*12+9) (iA 9 (by decide)));(have um10:=hom.cellq (q:=A*12+10) (iA 10 (by decide)));(have um11:=hom.cellq (q:=A*12+11) (iA 11 (by decide))));(try go_wp2_with fail);refine tr hK (fun hHeld=> ?_);clear hK K)
      refine tq 22 hHeld ?_
      refine tc 23 fun K hK=> ?_
      (go_simp
       have hq:=put12 hom hA M
       have hfq:=putFr (w4:=wm) (g:=g) (p:=A) M
       have hP2:=hPm.fr hfq hgl
       have hF2:=hFm.trans hfq
       clear k0 k1 k2 k3 k4 x0 x1 x2 x3 x4 x5 x6 x7 x8 x9 x10 x11 hPm hom hFm hfq umf um0 um1 um2 um3 um4 um5 um6 um7 um8 um9 um10 um11
       generalize ((((((((((((wm.setCell ⟨g,A*12,none⟩ (.int .i64 (M 0))).setCell ⟨g,A*12+1,none⟩ (.int .i64 (M 1))).setCell ⟨g,A*12+2,none⟩ (.int .i64 (M 2))).setCell ⟨g,A*12+3,none⟩ (.int .i64 (M 3))).setCell ⟨g,A*12+4,none⟩ (.int .i64 (M 4))).setCell ⟨g,A*12+5,none⟩ (.int .i64 (M 5))).setCell ⟨g,A*12+6,none⟩ (.int .i64 (M 6))).setCell ⟨g,A*12+7,none⟩ (.int .i64 (M 7))).setCell ⟨g,A*12+8,none⟩ (.int .i64 (M 8))).setCell ⟨g,A*12+9,none⟩ (.int .i64 (M 9))).setCell ⟨g,A*12+10,none⟩ (.int .i64 (M 10))).setCell ⟨g,A*12+11,none⟩ (.int .i64 (M 11)))=wy at hq hP2 hF2 ⊢
       have k0:=hP2.k0;have k1:=hP2.k1;have k2:=hP2.k2;have k3:=hP2.k3;have k4:=hP2.k4;obtain⟨x0,x1,x2,x3,x4,x5,x6,x7,x8,x9,x10,x11⟩:=all12 hP2.ca
       refine tr hK (fun hHeld=> ?_)
       clear hK K)
      refine wpAnyH_done (by kernel_rfl) ?_ _
      go_wp2_with fail
      go_meet
      exact⟨hP2,hq,hF2⟩
    | false=>
      simp only[cond_false] at hUA
      subst hUA
      have gg:=of_decide_eq_false hMA
      go_wp2_with fail
      go_meet
      exact⟨hP,ho,hF⟩
   case rest=>
   clear hP ho hF hUA
   obtain⟨hP,ho,hF⟩:=hcut
   refine hK8 _ _ ?_
   have hUB:=hR
   clear hR
   have k0:=hP.k0
   have k1:=hP.k1
   have k2:=hP.k2
   have k3:=hP.k3
   have k4:=hP.k4
   obtain⟨x0,x1,x2,x3,x4,x5,x6,x7,x8,x9,x10,x11⟩:=all12 hP.cb
   cases MB with
   | true=>
     simp only[cond_true] at hUB
     have gg:=of_decide_eq_true hMB
     obtain⟨M,hM⟩:∃ M,moveV VB pB qB=M:=⟨_,rfl⟩
     rw[hM] at hUB
     subst hUB
     go_upto_region 10 with fail
     refine wp_region_held_drew (S:=fun w'=>w'.cell? ⟨w.heap.size,0,none⟩=some (.int .i64 (A:Int))∧w'.cell? ⟨w.heap.size,1,none⟩=some (.int .i64 (B:Int))∧w'.cell? ⟨w.heap.size,2,none⟩=some (.int .i64 X)∧w'.cell? ⟨w.heap.size,3,none⟩=some (.int .i64 Y)∧w'.cell? ⟨w.heap.size,4,none⟩=some (.int .i64 D)∧w'.cell? ⟨bb,0,none⟩=some (.int .i64 (VB 0))∧w'.cell? ⟨bb,1,none⟩=some (.int .i64 (VB 1))∧w'.cell? ⟨bb,2,none⟩=some (.int .i64 (VB 2))∧w'.cell? ⟨bb,3,none⟩=some (.int .i64 (VB 3))∧w'.cell? ⟨bb,4,none⟩=some (.int .i64 (VB 4))∧w'.cell? ⟨bb,5,none⟩=some (.int .i64 (VB 5))∧w'.cell? ⟨bb,6,none⟩=some (.int .i64 (VB 6))∧w'.cell? ⟨bb,7,none⟩=some (.int .i64 (VB 7))∧w'.cell? ⟨bb,8,none⟩=some (.int .i64 (VB 8))∧w'.cell? ⟨bb,9,none⟩=some (.int .i64 (VB 9))∧w'.cell? ⟨bb,10,none⟩=some (.int .i64 (VB 10))∧w'.cell? ⟨bb,11,none⟩=some (.int .i64 (VB 11))) (by kernel_rfl) ?_ (fun hHeld=> ?_)
     · (try dsimp only)
       (first|(go_simp;done)|(go_keep;done))
     refine tq 0 hHeld ?_
     refine tq 1 hHeld ?_
     refine tq 2 hHeld ?_
     refine tq 3 hHeld ?_
     refine tq 4 hHeld ?_
     refine tq 5 hHeld ?_
     refine tq 6 hHeld ?_
     refine tq 7 hHeld ?_
     refine tq 8 hHeld ?_
     refine tq 9 hHeld ?_
     refine tq 10 hHeld ?_
     refine tq 11 hHeld ?_
     refine tq 12 hHeld ?_
     refine tq 13 hHeld ?_
     refine tq 14 hHeld ?_
     refine tq 15 hHeld ?_
     refine tq 16 hHeld ?_
     refine tq 17 hHeld ?_
     refine tq 18 hHeld ?_
     refine tc 19 fun K hK=> ?_
     (go_simp;(go_at_call 83;refine(l6Move_any VB pB qB _ b4B b5B rpB rqB).mono ?_;rintro e wm ⟨rfl,hbm⟩;(try rw[hM]);have hPm:=hP.on hbm.ofDr;have hom:=ho.below hbm.ofDr;have hFm:=hF.trans (Fr.of_below hbm.ofDr);clear k0 k1 k2 k3 k4 x0 x1 x2 x3 x4 x5 x6 x7 x8 x9 x10 x11 hP ho hF hbm;have k0:=hPm.k0;have k1:=hPm.k1;have k2:=hPm.k2;have k3:=hPm.k3;have k4:=hPm.k4;obtain⟨x0,x1,x2,x3,x4,x5,x6,x7,x8,x9,x10,x11⟩:=all12 hPm.cb;have umf:=hom.fro;(have um0:=hom.cellq (q:=B*12) (iB 0 (by decide)));(have um1:=hom.cellq (q:=B*12+1) (iB 1 (by decide)));(have um2:=hom.cellq (q:=B*12+2) (iB 2 (by decide)));(have um3:=hom.cellq (q:=B*12+3) (iB 3 (by decide)));(have um4:=hom.cellq (q:=B*12+4) (iB 4 (by decide)));(have um5:=hom.cellq (q:=B*12+5) (iB 5 (by decide)));(have um6:=hom.cellq (q:=B*12+6) (iB 6 (by decide)));(have um7:=hom.cellq (q:=B*12+7) (iB 7 (by decide)));(have um8:=hom.cellq (q:=B*12+8) (iB 8 (by decide)));(have um9:=hom.cellq (q:=B*12+9) (iB 9 (by decide)));(have um10:=hom.cellq (q:=B*12+10) (iB 10 (by decide)));(have um11:=hom.cellq (q:=B*12+11) (iB 11 (by decide))));(try go_wp2_with fail);refine tr hK (fun hHeld=> ?_);clear hK K)
     refine tq 20 hHeld ?_
     refine tc 21 fun K hK=> ?_
     (go_simp
      have hq:=put12 hom hB M
      have hfq:=putFr (w4:=wm) (g:=g) (p:=B) M
      have hP2:=hPm.fr hfq hgl
      have hF2:=hFm.trans hfq
      clear k0 k1 k2 k3 k4 x0 x1 x2 x3 x4 x5 x6 x7 x8 x9 x10 x11 hPm hom hFm hfq umf um0 um1 um2 um3 um4 um5 um6 um7 um8 um9 um10 um11
      generalize ((((((((((((wm.setCell ⟨g,B*12,none⟩ (.int .i64 (M 0))).setCell ⟨g,B*12+1,none⟩ (.int .i64 (M 1))).setCell ⟨g,B*12+2,none⟩ (.int .i64 (M 2))).setCell ⟨g,B*12+3,none⟩ (.int .i64 (M 3))).setCell ⟨g,B*12+4,none⟩ (.int .i64 (M 4))).setCell ⟨g,B*12+5,none⟩ (.int .i64 (M 5))).setCell ⟨g,B*12+6,none⟩ (.int .i64 (M 6))).setCell ⟨g,B*12+7,none⟩ (.int .i64 (M 7))).setCell ⟨g,B*12+8,none⟩ (.int .i64 (M 8))).setCell ⟨g,B*12+9,none⟩ (.int .i64 (M 9))).setCell ⟨g,B*12+10,none⟩ (.int .i64 (M 10))).setCell ⟨g,B*12+11,none⟩ (.int .i64 (M 11)))=wy at hq hP2 hF2 ⊢
      have k0:=hP2.k0;have k1:=hP2.k1;have k2:=hP2.k2;have k3:=hP2.k3;have k4:=hP2.k4;obtain⟨x0,x1,x2,x3,x4,x5,x6,x7,x8,x9,x10,x11⟩:=all12 hP2.cb
      refine tr hK (fun hHeld=> ?_)
      clear hK K)
     refine wpAnyH_done (by kernel_rfl) ?_ _
     go_wp2_with fail
     go_end0
     exact⟨rfl,hq,hF2⟩
   | false=>
     simp only[cond_false] at hUB
     subst hUB
     have gg:=of_decide_eq_false hMB
     go_wp2_with fail
     go_end0
     exact⟨rfl,ho,hF⟩
 · rw[decide_eq_false h0] at hR
   simp only[cond_false] at hR
   subst hR
   have h1:nn≤0:=by omega
   go_enter Tryz.func82,Tryz.ntmps82
   go_wp2_with fail
   refine bodyPost_ret (results_none rfl _ _ _) rfl ?_
   exact⟨rfl,ho0.below hE,Fr.of_below hE⟩
end Go.Proofs.YthajilkjfkppoaaGreatDoor
