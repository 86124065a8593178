/- Texts of a proof. -/
import Derived.Test.YtpmjnpmnocjjgaaGreatDoorB27
import Derived.Test.YtpmjnpmnocjjgaaGreatDoorB22
import Derived.Deep.RegionHeld3
import Derived.Deep.DeepCutAuto
import Derived.Test.YtpmjnpmnocjjgaaGreatDoorB6
import Derived.Test.YtpmjnpmnocjjgaaGreatDoorB5
import Derived.Test.YtpmjnpmnocjjgaaGreatDoorB2
import Derived.Test.YtpmjnpmnocjjgaaGreatDoorB11
import Derived.Test.YtpmjnpmnocjjgaaGreatDoorB14
set_option maxHeartbeats 16000000
set_option maxRecDepth 20000
namespace Go.Proofs.YtpmjnpmnocjjgaaGreatDoor
open Go.RowKit
set_option linter.unusedVariables false
set_option linter.unusedSimpArgs false
def oneU (U:Nat→Int) (A B:Nat) (X Y:Int) (bo:Bool):Nat→Int:=
 bif (puX (fun j=>U (A*12+j)) (fun j=>U (B*12+j)) X Y bo==0&&puY (fun j=>U (A*12+j)) (fun j=>U (B*12+j)) X Y bo==0)|| !fitsB (fun j=>U (A*12+j)) (fun j=>U (B*12+j)) (puX (fun j=>U (A*12+j)) (fun j=>U (B*12+j)) X Y bo) (puY (fun j=>U (A*12+j)) (fun j=>U (B*12+j)) X Y bo) then U
 else putRow (putRow U A (pushV (fun j=>U (A*12+j)) (-puX (fun j=>U (A*12+j)) (fun j=>U (B*12+j)) X Y bo) (-puY (fun j=>U (A*12+j)) (fun j=>U (B*12+j)) X Y bo))) B (pushV (fun j=>U (B*12+j)) (puX (fun j=>U (A*12+j)) (fun j=>U (B*12+j)) X Y bo) (puY (fun j=>U (A*12+j)) (fun j=>U (B*12+j)) X Y bo))
theorem puX_bd (V1 V2:Nat→Int) (x y:Int) (bo:Bool): -20000000≤puX V1 V2 x y bo∧puX V1 V2 x y bo≤20000000:=by
 unfold puX
 split
 · omega
 · exact clampZ_bd _ (by omega)
theorem puY_bd (V1 V2:Nat→Int) (x y:Int) (bo:Bool): -20000000≤puY V1 V2 x y bo∧puY V1 V2 x y bo≤20000000:=by
 unfold puY
 split
 · omega
 · exact clampZ_bd _ (by omega)
structure O8 (w wc:World) (base g n c A B:Nat) (X Y D:Int) (U:Nat→Int):Prop where
 hC:Nb wc w.heap.size 5 (fun j=>[(A:Int),(B:Int),X,Y,D].getD j 0)
 own:OwnL wc base 35 12 (.slice (some ⟨g,0,none⟩) n c) n U
 fr:Fr (fun b=>b=g) w wc
theorem O8.on {w wc w':World} {base g n c A B:Nat} {X Y D:Int} {U:Nat→Int} (h:O8 w wc base g n c A B X Y D U) (hb:Below wc.heap.size wc w'):O8 w w' base g n c A B X Y D U:=
 ⟨h.hC.on hb,h.own.below hb,h.fr.trans (Fr.of_below hb)⟩
theorem O8.set {w wc w':World} {base g n c A B pb:Nat} {X Y D:Int} {U:Nat→Int} (h:O8 w wc base g n c A B X Y D U) (hs:Fr (fun b=>b=pb) wc w') (h1:w.heap.size<pb) (h2:g<pb):O8 w w' base g n c A B X Y D U:=
 ⟨h.hC.fr hs (by omega),h.own.frame hs (fun b e x=>by simp[Value.ownBlock] at e;omega),h.fr.trans' hs (fun i hi e=>by omega)⟩
theorem O8.put {w wc w':World} {base g n c A B:Nat} {X Y D:Int} {U U':Nat→Int} (h:O8 w wc base g n c A B X Y D U) (hs:Fr (fun b=>b=g) wc w') (h1:g<w.heap.size) (hq:OwnL w' base 35 12 (.slice (some ⟨g,0,none⟩) n c) n U'):O8 w w' base g n c A B X Y D U':=
 ⟨h.hC.fr hs (by omega),hq,h.fr.trans hs⟩
theorem O8.ks {w wc:World} {base g n c A B:Nat} {X Y D:Int} {U:Nat→Int} (h:O8 w wc base g n c A B X Y D U):
 wc.cell? ⟨w.heap.size,0,none⟩=some (.int .i64 (A:Int))∧wc.cell? ⟨w.heap.size,1,none⟩=some (.int .i64 (B:Int))∧wc.cell? ⟨w.heap.size,2,none⟩=some (.int .i64 X)∧wc.cell? ⟨w.heap.size,3,none⟩=some (.int .i64 Y)∧wc.cell? ⟨w.heap.size,4,none⟩=some (.int .i64 D):=
 ⟨h.hC.c 0 (by decide),h.hC.c 1 (by decide),h.hC.c 2 (by decide),h.hC.c 3 (by decide),h.hC.c 4 (by decide)⟩
theorem own12 {w:World} {base g n c A:Nat} {U V:Nat→Int} (h:OwnL w base 35 12 (.slice (some ⟨g,0,none⟩) n c) n U) (i:∀ j,j<12→A*12+j<n*12) (hV:∀ j,j<12→U (A*12+j)=V j):
 w.cell? ⟨g,A*12,none⟩=some (.int .i64 (V 0))∧w.cell? ⟨g,A*12+1,none⟩=some (.int .i64 (V 1))∧w.cell? ⟨g,A*12+2,none⟩=some (.int .i64 (V 2))∧w.cell? ⟨g,A*12+3,none⟩=some (.int .i64 (V 3))∧w.cell? ⟨g,A*12+4,none⟩=some (.int .i64 (V 4))∧w.cell? ⟨g,A*12+5,none⟩=some (.int .i64 (V 5))∧w.cell? ⟨g,A*12+6,none⟩=some (.int .i64 (V 6))∧w.cell? ⟨g,A*12+7,none⟩=some (.int .i64 (V 7))∧w.cell? ⟨g,A*12+8,none⟩=some (.int .i64 (V 8))∧w.cell? ⟨g,A*12+9,none⟩=some (.int .i64 (V 9))∧w.cell? ⟨g,A*12+10,none⟩=some (.int .i64 (V 10))∧w.cell? ⟨g,A*12+11,none⟩=some (.int .i64 (V 11)):=
 have q:∀ j,j<12→w.cell? ⟨g,A*12+j,none⟩=some (.int .i64 (V j)):=fun j hj=>(h.cellq (q:=A*12+j) (i j hj)).trans (congrArg (fun z=>some (Value.int .i64 z)) (hV j hj))
 ⟨q 0 (by decide),q 1 (by decide),q 2 (by decide),q 3 (by decide),q 4 (by decide),q 5 (by decide),q 6 (by decide),q 7 (by decide),q 8 (by decide),q 9 (by decide),q 10 (by decide),q 11 (by decide)⟩
theorem l8One_any (base g n c:Nat) (U:Nat→Int) (A B:Nat) (X Y D:Int) (bo:Bool) (w:World) (ho0:OwnL w base 35 12 (.slice (some ⟨g,0,none⟩) n c) n U) (hn:n≤1048576) (hA:A<n) (hB:B<n) (hAB:A≠B) (hbb:Bods n U) (hX: -256≤X∧X≤256) (hY: -256≤Y∧Y≤256):
 Calls Tryz.prog 66 #[.slice (some ⟨g,0,none⟩) n c,.agg #[.int .i64 (A:Int),.int .i64 (B:Int),.int .i64 X,.int .i64 Y,.int .i64 D],.bool bo] w fun e w'=>e= .returned (.tuple #[])∧OwnL w' base 35 12 (.slice (some ⟨g,0,none⟩) n c) n (oneU U A B X Y bo)∧Fr (fun b=>b=g) w w':=by
 have hset:=cset_map
 have hgl:g<w.heap.size:=(ho0.lt g rfl).2
 have hAi:(A:Int)<(n:Int):=by omega
 have hBi:(B:Int)<(n:Int):=by omega
 have iA:∀ j,j<12→A*12+j<n*12:=fun j hj=>by omega
 have iB:∀ j,j<12→B*12+j<n*12:=fun j hj=>by omega
 obtain⟨mA,_,_,_,b6A,b7A,b9A,b10A,_⟩:=bodyB_bd (hbb.ok A hA)
 have mA:0≤(fun j=>U (A*12+j)) 8∧(fun j=>U (A*12+j)) 8≤1000:=mA
 have b6A: -20000000≤(fun j=>U (A*12+j)) 6∧(fun j=>U (A*12+j)) 6≤20000000:=b6A
 have b7A: -20000000≤(fun j=>U (A*12+j)) 7∧(fun j=>U (A*12+j)) 7≤20000000:=b7A
 have b9A:0≤(fun j=>U (A*12+j)) 9∧(fun j=>U (A*12+j)) 9≤256:=b9A
 have b10A:0≤(fun j=>U (A*12+j)) 10∧(fun j=>U (A*12+j)) 10≤256:=b10A
 have hVA:∀ j,U (A*12+j)=(fun j=>U (A*12+j)) j:=fun j=>rfl
 obtain⟨mB,_,_,_,b6B,b7B,b9B,b10B,_⟩:=bodyB_bd (hbb.ok B hB)
 have mB:0≤(fun j=>U (B*12+j)) 8∧(fun j=>U (B*12+j)) 8≤1000:=mB
 have b6B: -20000000≤(fun j=>U (B*12+j)) 6∧(fun j=>U (B*12+j)) 6≤20000000:=b6B
 have b7B: -20000000≤(fun j=>U (B*12+j)) 7∧(fun j=>U (B*12+j)) 7≤20000000:=b7B
 have b9B:0≤(fun j=>U (B*12+j)) 9∧(fun j=>U (B*12+j)) 9≤256:=b9B
 have b10B:0≤(fun j=>U (B*12+j)) 10∧(fun j=>U (B*12+j)) 10≤256:=b10B
 have hVB:∀ j,U (B*12+j)=(fun j=>U (B*12+j)) j:=fun j=>rfl
 have hE:Below w.heap.size w (w.alloc (Obj.cells #[.int .i64 (A:Int),.int .i64 (B:Int),.int .i64 X,.int .i64 Y,.int .i64 D] 108)):=(Below.refl _ _).alloc (Nat.le_refl _) _
 obtain⟨R,hR⟩:∃ R,oneU U A B X Y bo=R:=⟨_,rfl⟩
 rw[hR]
 unfold oneU at hR
 have bp:=puX_bd (fun j=>U (A*12+j)) (fun j=>U (B*12+j)) X Y bo
 have bq:=puY_bd (fun j=>U (A*12+j)) (fun j=>U (B*12+j)) X Y bo
 obtain⟨p,hp⟩:∃ p,puX (fun j=>U (A*12+j)) (fun j=>U (B*12+j)) X Y bo=p:=⟨_,rfl⟩
 obtain⟨q,hq⟩:∃ q,puY (fun j=>U (A*12+j)) (fun j=>U (B*12+j)) X Y bo=q:=⟨_,rfl⟩
 rw[hp] at bp hR
 rw[hq] at bq hR
 generalize (fun j=>U (A*12+j))=VA at hR hVA mA b6A b7A b9A b10A hp hq
 generalize (fun j=>U (B*12+j))=VB at hR hVB mB b6B b7B b9B b10B hp hq
 have hbpn: -20000000≤ -p∧ -p≤20000000:=by omega
 have hbqn: -20000000≤ -q∧ -q≤20000000:=by omega
 have wp1:IntKind.i64.wrap (-p)= -p:=i64w (by omega)
 have wq1:IntKind.i64.wrap (-q)= -q:=i64w (by omega)
 obtain⟨EZ,hEZ⟩:∃ b,(p==0&&q==0)=b:=⟨_,rfl⟩
 rw[hEZ] at hR
 go_enter Tryz.func66,Tryz.ntmps66
 go_upto_region 1 with fail
 have hO:O8 w (w.alloc (Obj.cells #[.int .i64 (A:Int),.int .i64 (B:Int),.int .i64 X,.int .i64 Y,.int .i64 D] 108)) base g n c A B X Y D U:=⟨⟨fun j hj=>by rcases(show j=0∨j=1∨j=2∨j=3∨j=4 by omega) with rfl|rfl|rfl|rfl|rfl<;>go_simp,fun o=>by go_simp,by simp⟩,ho0.below hE,Fr.of_below hE⟩
 generalize (w.alloc (Obj.cells #[.int .i64 (A:Int),.int .i64 (B:Int),.int .i64 X,.int .i64 Y,.int .i64 D] 108))=w0 at hO ⊢
 clear hE
 obtain⟨k0,k1,k2,k3,k4⟩:=hO.ks
 obtain⟨a0,a1,a2,a3,a4,a5,a6,a7,a8,a9,a10,a11⟩:=own12 hO.own iA (fun j _=>hVA j)
 obtain⟨b0,b1,b2,b3,b4,b5,b6,b7,b8,b9,b10,b11⟩:=own12 hO.own iB (fun j _=>hVB j)
 go_cut [6] (fun s6 wc=>∃ pb,s6= .pointer (some ⟨pb,0,none⟩)∧O8 w wc base g n c A B X Y D U∧Nb wc pb 2 (fun j=>[p,q].getD j 0)∧w.heap.size<pb∧g<pb)
 case first=>
  refine wp_region_held_drew (S:=fun w'=>w'.cell? ⟨w.heap.size,0,none⟩=some (.int .i64 (A:Int))∧w'.cell? ⟨w.heap.size,1,none⟩=some (.int .i64 (B:Int))∧w'.cell? ⟨w.heap.size,2,none⟩=some (.int .i64 X)∧w'.cell? ⟨w.heap.size,3,none⟩=some (.int .i64 Y)∧w'.cell? ⟨w.heap.size,4,none⟩=some (.int .i64 D)∧w'.cell? ⟨g,A*12,none⟩=some (.int .i64 (VA 0))∧w'.cell? ⟨g,A*12+1,none⟩=some (.int .i64 (VA 1))∧w'.cell? ⟨g,A*12+2,none⟩=some (.int .i64 (VA 2))∧w'.cell? ⟨g,A*12+3,none⟩=some (.int .i64 (VA 3))∧w'.cell? ⟨g,A*12+4,none⟩=some (.int .i64 (VA 4))∧w'.cell? ⟨g,A*12+5,none⟩=some (.int .i64 (VA 5))∧w'.cell? ⟨g,A*12+6,none⟩=some (.int .i64 (VA 6))∧w'.cell? ⟨g,A*12+7,none⟩=some (.int .i64 (VA 7))∧w'.cell? ⟨g,A*12+8,none⟩=some (.int .i64 (VA 8))∧w'.cell? ⟨g,A*12+9,none⟩=some (.int .i64 (VA 9))∧w'.cell? ⟨g,A*12+10,none⟩=some (.int .i64 (VA 10))∧w'.cell? ⟨g,A*12+11,none⟩=some (.int .i64 (VA 11))∧w'.cell? ⟨g,B*12,none⟩=some (.int .i64 (VB 0))∧w'.cell? ⟨g,B*12+1,none⟩=some (.int .i64 (VB 1))∧w'.cell? ⟨g,B*12+2,none⟩=some (.int .i64 (VB 2))∧w'.cell? ⟨g,B*12+3,none⟩=some (.int .i64 (VB 3))∧w'.cell? ⟨g,B*12+4,none⟩=some (.int .i64 (VB 4))∧w'.cell? ⟨g,B*12+5,none⟩=some (.int .i64 (VB 5))∧w'.cell? ⟨g,B*12+6,none⟩=some (.int .i64 (VB 6))∧w'.cell? ⟨g,B*12+7,none⟩=some (.int .i64 (VB 7))∧w'.cell? ⟨g,B*12+8,none⟩=some (.int .i64 (VB 8))∧w'.cell? ⟨g,B*12+9,none⟩=some (.int .i64 (VB 9))∧w'.cell? ⟨g,B*12+10,none⟩=some (.int .i64 (VB 10))∧w'.cell? ⟨g,B*12+11,none⟩=some (.int .i64 (VB 11))) (by kernel_rfl) ?_ (fun hHeld=> ?_)
  · (try dsimp only)
    (first|(go_simp;done)|(go_keep;done))
  refine tq 0 hHeld ?_
  refine tq 1 hHeld ?_
  refine tq 2 hHeld ?_
  refine tq 3 hHeld ?_
  refine tq 4 hHeld ?_
  refine tq 5 hHeld ?_
  refine tq 6 hHeld ?_
  refine tq 7 hHeld ?_
  refine tq 8 hHeld ?_
  refine tq 9 hHeld ?_
  refine tq 10 hHeld ?_
  refine tq 11 hHeld ?_
  refine tq 12 hHeld ?_
  refine wpAnyH_ready (rs:=[13,14]) (by kernel_rfl) (by simp) ?_
  refine AllReadyH.cons rfl (fun K hK=> ?_) (AllReadyH.cons rfl (fun K hK=> ?_) AllReadyH.nil)
  · (go_simp
     (go_at_call 102;refine(l8Push_any VA VB X Y D bo _ mA mB b6A b7A b6B b7B hX hY b9A b9B b10A b10B).mono ?_;rintro e w5 ⟨rfl,hb5⟩;(try rw[hp,hq]))
     have hb5:=hb5.ofDr
     have hO2:=hO.on hb5
     clear k0 k1 k2 k3 k4 a0 a1 a2 a3 a4 a5 a6 a7 a8 a9 a10 a11 b0 b1 b2 b3 b4 b5 b6 b7 b8 b9 b10 b11
     clear hO
     have hO:=hO2
     clear hO2
     obtain⟨k0,k1,k2,k3,k4⟩:=hO.ks
     obtain⟨a0,a1,a2,a3,a4,a5,a6,a7,a8,a9,a10,a11⟩:=own12 hO.own iA (fun j _=>hVA j)
     obtain⟨b0,b1,b2,b3,b4,b5,b6,b7,b8,b9,b10,b11⟩:=own12 hO.own iB (fun j _=>hVB j)
     (try go_wp2_with fail)
     refine tr hK (fun hHeld=> ?_)
     clear hK K)
    refine tc 14 fun K hK=> ?_
    (go_simp
     have hE:Below w5.heap.size w5 (w5.alloc (Obj.cells #[.int .i64 0,.int .i64 0] 33)):=(Below.refl _ _).alloc (Nat.le_refl _) _
     have hO2:=hO.on hE
     have hV:Nb (w5.alloc (Obj.cells #[.int .i64 0,.int .i64 0] 33)) w5.heap.size 2 (fun _=>0):=⟨fun j hj=>by rcases(show j=0∨j=1 by omega) with rfl|rfl<;>go_simp,fun o=>by go_simp,by simp⟩
     have hp1:w.heap.size<w5.heap.size:=hO.hC.l
     have hp2:g<w5.heap.size:=Nat.lt_of_lt_of_le hgl (Nat.le_of_lt hp1)
     clear hE
     clear k0 k1 k2 k3 k4 a0 a1 a2 a3 a4 a5 a6 a7 a8 a9 a10 a11 b0 b1 b2 b3 b4 b5 b6 b7 b8 b9 b10 b11
     clear hO
     have hO:=hO2
     clear hO2
     generalize (w5.alloc (Obj.cells #[.int .i64 0,.int .i64 0] 33))=w6 at hO hV ⊢
     generalize w5.heap.size=pb at hV hp1 hp2 ⊢
     obtain⟨k0,k1,k2,k3,k4⟩:=hO.ks
     obtain⟨a0,a1,a2,a3,a4,a5,a6,a7,a8,a9,a10,a11⟩:=own12 hO.own iA (fun j _=>hVA j)
     obtain⟨b0,b1,b2,b3,b4,b5,b6,b7,b8,b9,b10,b11⟩:=own12 hO.own iB (fun j _=>hVB j)
     (have v0:w6.cell? ⟨pb,0,none⟩=some (.int .i64 0):=hV.c 0 (by decide))
     (have v1:w6.cell? ⟨pb,1,none⟩=some (.int .i64 0):=hV.c 1 (by decide))
     have vf:=hV.f
     refine tr hK (fun hHeld=> ?_)
     clear hK K)
    refine tc 15 fun K hK=> ?_
    (go_simp
     have hs:Fr (fun b=>b=pb) w6 ((w6.setCell ⟨pb,0,none⟩ (.int .i64 p)).setCell ⟨pb,1,none⟩ (.int .i64 q)):=(Fr.setCell (X:=fun b=>b=pb) rfl _).trans (Fr.setCell (X:=fun b=>b=pb) rfl _)
     have hV2:Nb ((w6.setCell ⟨pb,0,none⟩ (.int .i64 p)).setCell ⟨pb,1,none⟩ (.int .i64 q)) pb 2 (fun j=>[p,q].getD j 0):=((hV.set 0 (by decide) p).set 1 (by decide) q).congr (fun j hj=>by rcases(show j=0∨j=1 by omega) with rfl|rfl<;>rfl)
     have hO2:=hO.set hs hp1 hp2
     clear k0 k1 k2 k3 k4 a0 a1 a2 a3 a4 a5 a6 a7 a8 a9 a10 a11 b0 b1 b2 b3 b4 b5 b6 b7 b8 b9 b10 b11
     clear hs hV v0 v1 vf
     have hV:=hV2
     clear hV2
     clear hO
     have hO:=hO2
     clear hO2
     generalize ((w6.setCell ⟨pb,0,none⟩ (.int .i64 p)).setCell ⟨pb,1,none⟩ (.int .i64 q))=w7 at hO hV ⊢
     obtain⟨k0,k1,k2,k3,k4⟩:=hO.ks
     obtain⟨a0,a1,a2,a3,a4,a5,a6,a7,a8,a9,a10,a11⟩:=own12 hO.own iA (fun j _=>hVA j)
     obtain⟨b0,b1,b2,b3,b4,b5,b6,b7,b8,b9,b10,b11⟩:=own12 hO.own iB (fun j _=>hVB j)
     refine tr hK (fun hHeld=> ?_)
     clear hK K)
    refine wpAnyH_done (by kernel_rfl) ?_ _
    go_wp2_with fail
    go_meet
    exact⟨pb,rfl,hO,hV,hp1,hp2⟩
  · (go_simp
     have hE:Below w0.heap.size w0 (w0.alloc (Obj.cells #[.int .i64 0,.int .i64 0] 33)).drew:=Below.drew ((Below.refl _ _).alloc (Nat.le_refl _) _)
     have hO2:=hO.on hE
     have hV:Nb (w0.alloc (Obj.cells #[.int .i64 0,.int .i64 0] 33)).drew w0.heap.size 2 (fun _=>0):=⟨fun j hj=>by rcases(show j=0∨j=1 by omega) with rfl|rfl<;>go_simp,fun o=>by go_simp,by simp⟩
     have hp1:w.heap.size<w0.heap.size:=hO.hC.l
     have hp2:g<w0.heap.size:=Nat.lt_of_lt_of_le hgl (Nat.le_of_lt hp1)
     clear hE
     clear k0 k1 k2 k3 k4 a0 a1 a2 a3 a4 a5 a6 a7 a8 a9 a10 a11 b0 b1 b2 b3 b4 b5 b6 b7 b8 b9 b10 b11
     clear hO
     have hO:=hO2
     clear hO2
     generalize (w0.alloc (Obj.cells #[.int .i64 0,.int .i64 0] 33)).drew=w6 at hO hV ⊢
     generalize w0.heap.size=pb at hV hp1 hp2 ⊢
     obtain⟨k0,k1,k2,k3,k4⟩:=hO.ks
     obtain⟨a0,a1,a2,a3,a4,a5,a6,a7,a8,a9,a10,a11⟩:=own12 hO.own iA (fun j _=>hVA j)
     obtain⟨b0,b1,b2,b3,b4,b5,b6,b7,b8,b9,b10,b11⟩:=own12 hO.own iB (fun j _=>hVB j)
     (have v0:w6.cell? ⟨pb,0,none⟩=some (.int .i64 0):=hV.c 0 (by decide))
     (have v1:w6.cell? ⟨pb,1,none⟩=some (.int .i64 0):=hV.c 1 (by decide))
     have vf:=hV.f
     refine tr hK (fun hHeld=> ?_)
     clear hK K)
    refine tc 13 fun K hK=> ?_
    (go_simp
     (go_at_call 102;refine(l8Push_any VA VB X Y D bo _ mA mB b6A b7A b6B b7B hX hY b9A b9B b10A b10B).mono ?_;rintro e w5 ⟨rfl,hb5⟩;(try rw[hp,hq]))
     have hO2:=hO.on hb5
     have hV2:=hV.on hb5
     clear hV v0 v1 vf
     have hV:=hV2
     clear hV2
     clear k0 k1 k2 k3 k4 a0 a1 a2 a3 a4 a5 a6 a7 a8 a9 a10 a11 b0 b1 b2 b3 b4 b5 b6 b7 b8 b9 b10 b11
     clear hO
     have hO:=hO2
     clear hO2
     obtain⟨k0,k1,k2,k3,k4⟩:=hO.ks
     obtain⟨a0,a1,a2,a3,a4,a5,a6,a7,a8,a9,a10,a11⟩:=own12 hO.own iA (fun j _=>hVA j)
     obtain⟨b0,b1,b2,b3,b4,b5,b6,b7,b8,b9,b10,b11⟩:=own12 hO.own iB (fun j _=>hVB j)
     (have v0:w5.cell? ⟨pb,0,none⟩=some (.int .i64 0):=hV.c 0 (by decide))
     (have v1:w5.cell? ⟨pb,1,none⟩=some (.int .i64 0):=hV.c 1 (by decide))
     have vf:=hV.f
     (try go_wp2_with fail)
     refine tr hK (fun hHeld=> ?_)
     clear hK K)
    refine tc 15 fun K hK=> ?_
    (go_simp
     have hs:Fr (fun b=>b=pb) w5 ((w5.setCell ⟨pb,0,none⟩ (.int .i64 p)).setCell ⟨pb,1,none⟩ (.int .i64 q)):=(Fr.setCell (X:=fun b=>b=pb) rfl _).trans (Fr.setCell (X:=fun b=>b=pb) rfl _)
     have hV2:Nb ((w5.setCell ⟨pb,0,none⟩ (.int .i64 p)).setCell ⟨pb,1,none⟩ (.int .i64 q)) pb 2 (fun j=>[p,q].getD j 0):=((hV.set 0 (by decide) p).set 1 (by decide) q).congr (fun j hj=>by rcases(show j=0∨j=1 by omega) with rfl|rfl<;>rfl)
     have hO2:=hO.set hs hp1 hp2
     clear k0 k1 k2 k3 k4 a0 a1 a2 a3 a4 a5 a6 a7 a8 a9 a10 a11 b0 b1 b2 b3 b4 b5 b6 b7 b8 b9 b10 b11
     clear hs hV v0 v1 vf
     have hV:=hV2
     clear hV2
     clear hO
     have hO:=hO2
     clear hO2
     generalize ((w5.setCell ⟨pb,0,none⟩ (.int .i64 p)).setCell ⟨pb,1,none⟩ (.int .i64 q))=w7 at hO hV ⊢
     obtain⟨k0,k1,k2,k3,k4⟩:=hO.ks
     obtain⟨a0,a1,a2,a3,a4,a5,a6,a7,a8,a9,a10,a11⟩:=own12 hO.own iA (fun j _=>hVA j)
     obtain⟨b0,b1,b2,b3,b4,b5,b6,b7,b8,b9,b10,b11⟩:=own12 hO.own iB (fun j _=>hVB j)
     refine tr hK (fun hHeld=> ?_)
     clear hK K)
    refine wpAnyH_done (by kernel_rfl) ?_ _
    go_wp2_with fail
    go_meet
    exact⟨pb,rfl,hO,hV,hp1,hp2⟩
 case rest=>
 clear k0 k1 k2 k3 k4 a0 a1 a2 a3 a4 a5 a6 a7 a8 a9 a10 a11 b0 b1 b2 b3 b4 b5 b6 b7 b8 b9 b10 b11
 clear hO
 obtain⟨pb,rfl,hO,hV,hp1,hp2⟩:=hcut
 obtain⟨k0,k1,k2,k3,k4⟩:=hO.ks
 obtain⟨a0,a1,a2,a3,a4,a5,a6,a7,a8,a9,a10,a11⟩:=own12 hO.own iA (fun j _=>hVA j)
 obtain⟨b0,b1,b2,b3,b4,b5,b6,b7,b8,b9,b10,b11⟩:=own12 hO.own iB (fun j _=>hVB j)
 (have v0:wc.cell? ⟨pb,0,none⟩=some (.int .i64 p):=hV.c 0 (by decide))
 (have v1:wc.cell? ⟨pb,1,none⟩=some (.int .i64 q):=hV.c 1 (by decide))
 have vf:=hV.f
 have hev:∀ w,(Op.equalIn 10000 33 (.agg #[.int .i64 p,.int .i64 q]) (.agg #[.int .i64 0,.int .i64 0])).run Tryz.prog w= .ok EZ w:=fun w=>by rw[eq_vec0,hEZ]
 clear hEZ
 cases EZ with
 | true=>
   simp only[Bool.true_or,cond_true] at hR
   subst hR
   go_upto_region 2 with fail
   refine wp_region_held_drew (S:=fun w'=>w'.cell? ⟨w.heap.size,0,none⟩=some (.int .i64 (A:Int))∧w'.cell? ⟨w.heap.size,1,none⟩=some (.int .i64 (B:Int))∧w'.cell? ⟨w.heap.size,2,none⟩=some (.int .i64 X)∧w'.cell? ⟨w.heap.size,3,none⟩=some (.int .i64 Y)∧w'.cell? ⟨w.heap.size,4,none⟩=some (.int .i64 D)∧w'.cell? ⟨g,A*12,none⟩=some (.int .i64 (VA 0))∧w'.cell? ⟨g,A*12+1,none⟩=some (.int .i64 (VA 1))∧w'.cell? ⟨g,A*12+2,none⟩=some (.int .i64 (VA 2))∧w'.cell? ⟨g,A*12+3,none⟩=some (.int .i64 (VA 3))∧w'.cell? ⟨g,A*12+4,none⟩=some (.int .i64 (VA 4))∧w'.cell? ⟨g,A*12+5,none⟩=some (.int .i64 (VA 5))∧w'.cell? ⟨g,A*12+6,none⟩=some (.int .i64 (VA 6))∧w'.cell? ⟨g,A*12+7,none⟩=some (.int .i64 (VA 7))∧w'.cell? ⟨g,A*12+8,none⟩=some (.int .i64 (VA 8))∧w'.cell? ⟨g,A*12+9,none⟩=some (.int .i64 (VA 9))∧w'.cell? ⟨g,A*12+10,none⟩=some (.int .i64 (VA 10))∧w'.cell? ⟨g,A*12+11,none⟩=some (.int .i64 (VA 11))∧w'.cell? ⟨g,B*12,none⟩=some (.int .i64 (VB 0))∧w'.cell? ⟨g,B*12+1,none⟩=some (.int .i64 (VB 1))∧w'.cell? ⟨g,B*12+2,none⟩=some (.int .i64 (VB 2))∧w'.cell? ⟨g,B*12+3,none⟩=some (.int .i64 (VB 3))∧w'.cell? ⟨g,B*12+4,none⟩=some (.int .i64 (VB 4))∧w'.cell? ⟨g,B*12+5,none⟩=some (.int .i64 (VB 5))∧w'.cell? ⟨g,B*12+6,none⟩=some (.int .i64 (VB 6))∧w'.cell? ⟨g,B*12+7,none⟩=some (.int .i64 (VB 7))∧w'.cell? ⟨g,B*12+8,none⟩=some (.int .i64 (VB 8))∧w'.cell? ⟨g,B*12+9,none⟩=some (.int .i64 (VB 9))∧w'.cell? ⟨g,B*12+10,none⟩=some (.int .i64 (VB 10))∧w'.cell? ⟨g,B*12+11,none⟩=some (.int .i64 (VB 11))∧w'.cell? ⟨pb,0,none⟩=some (.int .i64 p)∧w'.cell? ⟨pb,1,none⟩=some (.int .i64 q)) (by kernel_rfl) ?_ (fun hHeld=> ?_)
   · (try dsimp only)
     (first|(go_simp;done)|(go_keep;done))
   refine tq 0 hHeld ?_
   refine tq 1 hHeld ?_
   refine tq 2 hHeld ?_
   refine tq 3 hHeld ?_
   refine tn 4 hHeld ?_
   refine tn 5 hHeld ?_
   refine tn 6 hHeld ?_
   refine tn 7 hHeld ?_
   refine tn 8 hHeld ?_
   refine tn 9 hHeld ?_
   refine tn 10 hHeld ?_
   refine tn 11 hHeld ?_
   refine tn 12 hHeld ?_
   refine tn 13 hHeld ?_
   refine tn 14 hHeld ?_
   refine tn 15 hHeld ?_
   refine tn 16 hHeld ?_
   refine tq 17 hHeld ?_
   refine wpAnyH_done (by kernel_rfl) ?_ _
   go_wp2_with fail
   refine bodyPost_ret (results_none rfl _ _ _) rfl ?_
   exact⟨rfl,hO.own.drewO,hO.fr.drew⟩
 | false=>
   obtain⟨fb,hfb⟩:∃ b,fitsB VA VB p q=b:=⟨_,rfl⟩
   rw[hfb] at hR
   go_upto_region 2 with fail
   go_cut [38] (fun s38 wc=>s38= .bool (!fb)∧O8 w wc base g n c A B X Y D U∧Nb wc pb 2 (fun j=>[p,q].getD j 0))
   case first=>
    refine wp_region_held_drew (S:=fun w'=>w'.cell? ⟨w.heap.size,0,none⟩=some (.int .i64 (A:Int))∧w'.cell? ⟨w.heap.size,1,none⟩=some (.int .i64 (B:Int))∧w'.cell? ⟨w.heap.size,2,none⟩=some (.int .i64 X)∧w'.cell? ⟨w.heap.size,3,none⟩=some (.int .i64 Y)∧w'.cell? ⟨w.heap.size,4,none⟩=some (.int .i64 D)∧w'.cell? ⟨g,A*12,none⟩=some (.int .i64 (VA 0))∧w'.cell? ⟨g,A*12+1,none⟩=some (.int .i64 (VA 1))∧w'.cell? ⟨g,A*12+2,none⟩=some (.int .i64 (VA 2))∧w'.cell? ⟨g,A*12+3,none⟩=some (.int .i64 (VA 3))∧w'.cell? ⟨g,A*12+4,none⟩=some (.int .i64 (VA 4))∧w'.cell? ⟨g,A*12+5,none⟩=some (.int .i64 (VA 5))∧w'.cell? ⟨g,A*12+6,none⟩=some (.int .i64 (VA 6))∧w'.cell? ⟨g,A*12+7,none⟩=some (.int .i64 (VA 7))∧w'.cell? ⟨g,A*12+8,none⟩=some (.int .i64 (VA 8))∧w'.cell? ⟨g,A*12+9,none⟩=some (.int .i64 (VA 9))∧w'.cell? ⟨g,A*12+10,none⟩=some (.int .i64 (VA 10))∧w'.cell? ⟨g,A*12+11,none⟩=some (.int .i64 (VA 11))∧w'.cell? ⟨g,B*12,none⟩=some (.int .i64 (VB 0))∧w'.cell? ⟨g,B*12+1,none⟩=some (.int .i64 (VB 1))∧w'.cell? ⟨g,B*12+2,none⟩=some (.int .i64 (VB 2))∧w'.cell? ⟨g,B*12+3,none⟩=some (.int .i64 (VB 3))∧w'.cell? ⟨g,B*12+4,none⟩=some (.int .i64 (VB 4))∧w'.cell? ⟨g,B*12+5,none⟩=some (.int .i64 (VB 5))∧w'.cell? ⟨g,B*12+6,none⟩=some (.int .i64 (VB 6))∧w'.cell? ⟨g,B*12+7,none⟩=some (.int .i64 (VB 7))∧w'.cell? ⟨g,B*12+8,none⟩=some (.int .i64 (VB 8))∧w'.cell? ⟨g,B*12+9,none⟩=some (.int .i64 (VB 9))∧w'.cell? ⟨g,B*12+10,none⟩=some (.int .i64 (VB 10))∧w'.cell? ⟨g,B*12+11,none⟩=some (.int .i64 (VB 11))∧w'.cell? ⟨pb,0,none⟩=some (.int .i64 p)∧w'.cell? ⟨pb,1,none⟩=some (.int .i64 q)) (by kernel_rfl) ?_ (fun hHeld=> ?_)
    · (try dsimp only)
      (first|(go_simp;done)|(go_keep;done))
    refine tq 0 hHeld ?_
    refine tq 1 hHeld ?_
    refine tq 2 hHeld ?_
    refine tq 3 hHeld ?_
    refine tq 4 hHeld ?_
    refine tq 5 hHeld ?_
    refine tq 6 hHeld ?_
    refine tq 7 hHeld ?_
    refine tq 8 hHeld ?_
    refine tq 9 hHeld ?_
    refine tq 10 hHeld ?_
    refine tq 11 hHeld ?_
    refine tq 12 hHeld ?_
    refine tq 13 hHeld ?_
    refine tq 14 hHeld ?_
    refine tc 15 fun K hK=> ?_
    (go_simp
     (go_at_call 103;refine(l8Fits_q VA VB p q fb _ b6A b7A b6B b7B bp bq hfb).mono ?_;rintro e w5 ⟨rfl,hb5⟩)
     have hb5:=hb5.ofDr
     have hO2:=hO.on hb5
     have hV2:=hV.on hb5
     clear k0 k1 k2 k3 k4 a0 a1 a2 a3 a4 a5 a6 a7 a8 a9 a10 a11 b0 b1 b2 b3 b4 b5 b6 b7 b8 b9 b10 b11
     clear hV v0 v1 vf
     have hV:=hV2
     clear hV2
     clear hO
     have hO:=hO2
     clear hO2
     obtain⟨k0,k1,k2,k3,k4⟩:=hO.ks
     obtain⟨a0,a1,a2,a3,a4,a5,a6,a7,a8,a9,a10,a11⟩:=own12 hO.own iA (fun j _=>hVA j)
     obtain⟨b0,b1,b2,b3,b4,b5,b6,b7,b8,b9,b10,b11⟩:=own12 hO.own iB (fun j _=>hVB j)
     (have v0:w5.cell? ⟨pb,0,none⟩=some (.int .i64 p):=hV.c 0 (by decide))
     (have v1:w5.cell? ⟨pb,1,none⟩=some (.int .i64 q):=hV.c 1 (by decide))
     have vf:=hV.f
     (try go_wp2_with fail)
     refine tr hK (fun hHeld=> ?_)
     clear hK K)
    refine tq 16 hHeld ?_
    refine tq 17 hHeld ?_
    refine wpAnyH_done (by kernel_rfl) ?_ _
    go_wp2_with fail
    go_meet
    exact⟨rfl,hO,hV⟩
   case rest=>
   clear k0 k1 k2 k3 k4 a0 a1 a2 a3 a4 a5 a6 a7 a8 a9 a10 a11 b0 b1 b2 b3 b4 b5 b6 b7 b8 b9 b10 b11
   clear hO hV v0 v1 vf hev
   obtain⟨rfl,hO,hV⟩:=hcut
   cases fb with
   | false=>
     simp only[Bool.false_or,Bool.not_false,cond_true] at hR
     subst hR
     go_wp2_with fail
     refine bodyPost_ret (results_none rfl _ _ _) rfl ?_
     exact⟨rfl,hO.own,hO.fr⟩
   | true=>
     simp only[Bool.false_or,Bool.not_true,cond_false] at hR
     obtain⟨k0,k1,k2,k3,k4⟩:=hO.ks
     obtain⟨a0,a1,a2,a3,a4,a5,a6,a7,a8,a9,a10,a11⟩:=own12 hO.own iA (fun j _=>hVA j)
     (have v0:wc.cell? ⟨pb,0,none⟩=some (.int .i64 p):=hV.c 0 (by decide))
     (have v1:wc.cell? ⟨pb,1,none⟩=some (.int .i64 q):=hV.c 1 (by decide))
     have vf:=hV.f
     obtain⟨MA,hM⟩:∃ M,pushV VA (-p) (-q)=M:=⟨_,rfl⟩
     rw[hM] at hR
     go_upto_region 3 with fail
     refine wp_region_held_drew (S:=fun w'=>w'.cell? ⟨w.heap.size,0,none⟩=some (.int .i64 (A:Int))∧w'.cell? ⟨w.heap.size,1,none⟩=some (.int .i64 (B:Int))∧w'.cell? ⟨w.heap.size,2,none⟩=some (.int .i64 X)∧w'.cell? ⟨w.heap.size,3,none⟩=some (.int .i64 Y)∧w'.cell? ⟨w.heap.size,4,none⟩=some (.int .i64 D)∧w'.cell? ⟨pb,0,none⟩=some (.int .i64 p)∧w'.cell? ⟨pb,1,none⟩=some (.int .i64 q)) (by kernel_rfl) ?_ (fun hHeld=> ?_)
     · (try dsimp only)
       (first|(go_simp;done)|(go_keep;done))
     refine tq 0 hHeld ?_
     refine tq 1 hHeld ?_
     refine tq 2 hHeld ?_
     refine tq 3 hHeld ?_
     refine tq 4 hHeld ?_
     refine tq 5 hHeld ?_
     refine tq 6 hHeld ?_
     refine tq 8 hHeld ?_
     refine tq 9 hHeld ?_
     refine tq 10 hHeld ?_
     refine tq 11 hHeld ?_
     refine tq 12 hHeld ?_
     refine tq 13 hHeld ?_
     refine tq 14 hHeld ?_
     refine tc 7 fun K hK=> ?_
     (go_simp
      refine tr hK (fun hHeld=> ?_)
      clear hK K)
     refine tc 15 fun K hK=> ?_
     (go_simp
      (go_at_call 104;refine(l6Push_any VA (-p) (-q) _ b6A b7A hbpn hbqn).mono ?_;rintro e wm ⟨rfl,hbm⟩;(try rw[hM]))
      have hbm:=hbm.ofDr
      have hO2:=hO.on hbm
      have hV2:=hV.on hbm
      clear k0 k1 k2 k3 k4 a0 a1 a2 a3 a4 a5 a6 a7 a8 a9 a10 a11
      clear hV v0 v1 vf
      have hV:=hV2
      clear hV2
      clear hO
      have hO:=hO2
      clear hO2
      obtain⟨k0,k1,k2,k3,k4⟩:=hO.ks
      obtain⟨a0,a1,a2,a3,a4,a5,a6,a7,a8,a9,a10,a11⟩:=own12 hO.own iA (fun j _=>hVA j)
      (have v0:wm.cell? ⟨pb,0,none⟩=some (.int .i64 p):=hV.c 0 (by decide))
      (have v1:wm.cell? ⟨pb,1,none⟩=some (.int .i64 q):=hV.c 1 (by decide))
      have vf:=hV.f
      have umf:=hO.own.fro
      (try go_wp2_with fail)
      refine tr hK (fun hHeld=> ?_)
      clear hK K)
     refine tq 16 hHeld ?_
     refine tc 17 fun K hK=> ?_
     (go_simp
      have hq:=put12 hO.own hA MA
      have hfq:=putFr (w4:=wm) (g:=g) (p:=A) MA
      have hO2:=hO.put hfq hgl hq
      have hV2:=hV.fr hfq (by omega)
      clear k0 k1 k2 k3 k4 a0 a1 a2 a3 a4 a5 a6 a7 a8 a9 a10 a11 umf hfq hq
      clear hV v0 v1 vf
      have hV:=hV2
      clear hV2
      clear hO
      have hO:=hO2
      clear hO2
      generalize ((((((((((((wm.setCell ⟨g,A*12,none⟩ (.int .i64 (MA 0))).setCell ⟨g,A*12+1,none⟩ (.int .i64 (MA 1))).setCell ⟨g,A*12+2,none⟩ (.int .i64 (MA 2))).setCell ⟨g,A*12+3,none⟩ (.int .i64 (MA 3))).setCell ⟨g,A*12+4,none⟩ (.int .i64 (MA 4))).setCell ⟨g,A*12+5,none⟩ (.int .i64 (MA 5))).setCell ⟨g,A*12+6,none⟩ (.int .i64 (MA 6))).setCell ⟨g,A*12+7,none⟩ (.int .i64 (MA 7))).setCell ⟨g,A*12+8,none⟩ (.int .i64 (MA 8))).setCell ⟨g,A*12+9,none⟩ (.int .i64 (MA 9))).setCell ⟨g,A*12+10,none⟩ (.int .i64 (MA 10))).setCell ⟨g,A*12+11,none⟩ (.int .i64 (MA 11)))=w8 at hO hV ⊢
      obtain⟨k0,k1,k2,k3,k4⟩:=hO.ks
      (have v0:w8.cell? ⟨pb,0,none⟩=some (.int .i64 p):=hV.c 0 (by decide))
      (have v1:w8.cell? ⟨pb,1,none⟩=some (.int .i64 q):=hV.c 1 (by decide))
      have vf:=hV.f
      refine tr hK (fun hHeld=> ?_)
      clear hK K)
     refine wpAnyH_done (by kernel_rfl) ?_ _
     have hVB':∀ j,j<12→putRow U A MA (B*12+j)=VB j:=fun j hj=>(putRow_else (fun e=>hAB e.symm) hj).trans (hVB j)
     clear hM
     obtain⟨b0,b1,b2,b3,b4,b5,b6,b7,b8,b9,b10,b11⟩:=own12 hO.own iB hVB'
     obtain⟨MB,hM⟩:∃ M,pushV VB p q=M:=⟨_,rfl⟩
     rw[hM] at hR
     go_upto_region 4 with fail
     refine wp_region_held_drew (S:=fun w'=>w'.cell? ⟨w.heap.size,0,none⟩=some (.int .i64 (A:Int))∧w'.cell? ⟨w.heap.size,1,none⟩=some (.int .i64 (B:Int))∧w'.cell? ⟨w.heap.size,2,none⟩=some (.int .i64 X)∧w'.cell? ⟨w.heap.size,3,none⟩=some (.int .i64 Y)∧w'.cell? ⟨w.heap.size,4,none⟩=some (.int .i64 D)∧w'.cell? ⟨pb,0,none⟩=some (.int .i64 p)∧w'.cell? ⟨pb,1,none⟩=some (.int .i64 q)) (by kernel_rfl) ?_ (fun hHeld=> ?_)
     · (try dsimp only)
       (first|(go_simp;done)|(go_keep;done))
     refine tq 0 hHeld ?_
     refine tq 1 hHeld ?_
     refine tq 2 hHeld ?_
     refine tq 3 hHeld ?_
     refine tq 4 hHeld ?_
     refine tq 5 hHeld ?_
     refine tq 6 hHeld ?_
     refine tq 8 hHeld ?_
     refine tc 7 fun K hK=> ?_
     (go_simp
      refine tr hK (fun hHeld=> ?_)
      clear hK K)
     refine tc 9 fun K hK=> ?_
     (go_simp
      (go_at_call 104;refine(l6Push_any VB p q _ b6B b7B bp bq).mono ?_;rintro e wm ⟨rfl,hbm⟩;(try rw[hM]))
      have hbm:=hbm.ofDr
      have hO2:=hO.on hbm
      have hV2:=hV.on hbm
      clear k0 k1 k2 k3 k4 b0 b1 b2 b3 b4 b5 b6 b7 b8 b9 b10 b11
      clear hV v0 v1 vf
      have hV:=hV2
      clear hV2
      clear hO
      have hO:=hO2
      clear hO2
      obtain⟨k0,k1,k2,k3,k4⟩:=hO.ks
      obtain⟨b0,b1,b2,b3,b4,b5,b6,b7,b8,b9,b10,b11⟩:=own12 hO.own iB hVB'
      (have v0:wm.cell? ⟨pb,0,none⟩=some (.int .i64 p):=hV.c 0 (by decide))
      (have v1:wm.cell? ⟨pb,1,none⟩=some (.int .i64 q):=hV.c 1 (by decide))
      have vf:=hV.f
      have umf:=hO.own.fro
      (try go_wp2_with fail)
      refine tr hK (fun hHeld=> ?_)
      clear hK K)
     refine tq 10 hHeld ?_
     refine tc 11 fun K hK=> ?_
     (go_simp
      have hq:=put12 hO.own hB MB
      have hfq:=putFr (w4:=wm) (g:=g) (p:=B) MB
      have hO2:=hO.put hfq hgl hq
      have hV2:=hV.fr hfq (by omega)
      clear k0 k1 k2 k3 k4 b0 b1 b2 b3 b4 b5 b6 b7 b8 b9 b10 b11 umf hfq hq
      clear hV v0 v1 vf
      have hV:=hV2
      clear hV2
      clear hO
      have hO:=hO2
      clear hO2
      generalize ((((((((((((wm.setCell ⟨g,B*12,none⟩ (.int .i64 (MB 0))).setCell ⟨g,B*12+1,none⟩ (.int .i64 (MB 1))).setCell ⟨g,B*12+2,none⟩ (.int .i64 (MB 2))).setCell ⟨g,B*12+3,none⟩ (.int .i64 (MB 3))).setCell ⟨g,B*12+4,none⟩ (.int .i64 (MB 4))).setCell ⟨g,B*12+5,none⟩ (.int .i64 (MB 5))).setCell ⟨g,B*12+6,none⟩ (.int .i64 (MB 6))).setCell ⟨g,B*12+7,none⟩ (.int .i64 (MB 7))).setCell ⟨g,B*12+8,none⟩ (.int .i64 (MB 8))).setCell ⟨g,B*12+9,none⟩ (.int .i64 (MB 9))).setCell ⟨g,B*12+10,none⟩ (.int .i64 (MB 10))).setCell ⟨g,B*12+11,none⟩ (.int .i64 (MB 11)))=w9 at hO hV ⊢
      obtain⟨k0,k1,k2,k3,k4⟩:=hO.ks
      (have v0:w9.cell? ⟨pb,0,none⟩=some (.int .i64 p):=hV.c 0 (by decide))
      (have v1:w9.cell? ⟨pb,1,none⟩=some (.int .i64 q):=hV.c 1 (by decide))
      have vf:=hV.f
      refine tr hK (fun hHeld=> ?_)
      clear hK K)
     refine wpAnyH_done (by kernel_rfl) ?_ _
     go_wp2_with fail
     go_end0
     exact⟨rfl,by rw[←hR];exact hO.own,hO.fr⟩
theorem pushV_0 (V:Nat→Int) (p q:Int):pushV V p q 0=V 0:=by unfold pushV;split<;>rfl
theorem pushV_8 (V:Nat→Int) (p q:Int):pushV V p q 8=V 8:=by unfold pushV;split<;>rfl
theorem Bods.one {n:Nat} {U:Nat→Int} (h:Bods n U) {A B:Nat} (hA:A<n) (hB:B<n) (hAB:A≠B) (X Y:Int) (bo:Bool):Bods n (oneU U A B X Y bo)∧∀ i,oneU U A B X Y bo (i*12+8)=U (i*12+8):=by
 unfold oneU
 generalize puX (fun j=>U (A*12+j)) (fun j=>U (B*12+j)) X Y bo=p
 generalize puY (fun j=>U (A*12+j)) (fun j=>U (B*12+j)) X Y bo=q
 generalize ((p==0&&q==0)|| !fitsB (fun j=>U (A*12+j)) (fun j=>U (B*12+j)) p q)=z
 cases z with
 |true=>exact⟨h,fun i=>rfl⟩
 | false=>
   simp only[cond_false]
   have hb0:putRow U A (pushV (fun j=>U (A*12+j)) (-p) (-q)) (B*12)=U (B*12):=by
    have:=putRow_else (U:=U) (V:=pushV (fun j=>U (A*12+j)) (-p) (-q)) (k:=A) (i:=B) (j:=0) (fun e=>hAB e.symm) (by omega)
    simpa using this
   have h8:∀ i,putRow U A (pushV (fun j=>U (A*12+j)) (-p) (-q)) (i*12+8)=U (i*12+8):=fun i=>putRow_8 (by rw[pushV_8])
   exact⟨(h.put hA (push_ok (-p) (-q) (h.row hA)) (by rw[pushV_0];rfl)).put hB (push_ok p q (h.row hB)) (by rw[pushV_0,hb0];rfl),fun i=>(putRow_8 (by rw[pushV_8,h8])).trans (h8 i)⟩
def rndN (C:Nat→Int) (bo:Bool) (U:Nat→Int):Nat→Nat→Int
 |0=>U
 |k+1=>oneU (rndN C bo U k) (C (k*5)).toNat (C (k*5+1)).toNat (C (k*5+2)) (C (k*5+3)) bo
def allN (C U:Nat→Int) (m:Nat):Nat→Nat→Int
 |0=>U
 |r+1=>rndN C (((r:Nat):Int)==0) (allN C U m r) m
theorem Bods.rnd {n m:Nat} {U C:Nat→Int} (h:Bods n U) (hC:CtOk n m C) (bo:Bool):∀ k,k≤m→Bods n (rndN C bo U k)∧∀ i,rndN C bo U k (i*12+8)=U (i*12+8)
 |0,_=>⟨h,fun i=>rfl⟩
 | k+1,hk=>by
   obtain⟨h1,h2⟩:=Bods.rnd h hC bo k (by omega)
   have ha:=hC.a k (by omega)
   have hb:=hC.b k (by omega)
   have hn:=hC.ne k (by omega)
   obtain⟨q1,q2⟩:=h1.one (A:=(C (k*5)).toNat) (B:=(C (k*5+1)).toNat) (by omega) (by omega) (by omega) (C (k*5+2)) (C (k*5+3)) bo
   exact⟨q1,fun i=>(q2 i).trans (h2 i)⟩
theorem Bods.all {n m:Nat} {U C:Nat→Int} (h:Bods n U) (hC:CtOk n m C):∀ r,Bods n (allN C U m r)∧∀ i,allN C U m r (i*12+8)=U (i*12+8)
 |0=>⟨h,fun i=>rfl⟩
 | r+1=>by
   obtain⟨h1,h2⟩:=Bods.all h hC r
   obtain⟨q1,q2⟩:=h1.rnd hC (((r:Nat):Int)==0) m (Nat.le_refl _)
   exact⟨q1,fun i=>(q2 i).trans (h2 i)⟩
theorem l8All_any (a:Option Addr) (n c:Nat) (U:Nat→Int) (ac:Option Addr) (m cc:Nat) (C:Nat→Int) (w:World) (h:Flat w a (n*12) U) (hn:n≤1048576) (hm:m≤1048576) (h2:Flat w ac (m*5) C) (hbb:Bods n U) (hC:CtOk n m C):
 Calls Tryz.prog 34 #[.slice a n c,.slice ac m cc] w fun e w'=>∃ a1 c1,e= .returned (.slice a1 n c1)∧OutL w w' 35 12 a1 n c1 (allN C U m 4):=by
 have hset:=cset_map
 go_enter Tryz.func34,Tryz.ntmps34
 go_upto_region 1 with fail
 go_cut [5] (fun s0 wc=>∃ a1 c1,s0= .slice a1 n c1∧OutL w wc 35 12 a1 n c1 U)
 case first=>
  go_wp2_with (go_at_call 65;refine(l8Copy_any a n c U _ h hn).mono ?_;rintro e w3 ⟨a1,c1,rfl,hO⟩)
  go_meet
  exact⟨_,_,rfl,hO⟩
 case rest=>
 obtain⟨a1,c1,rfl,hO⟩:=hcut
 go_upto_region 3 with fail
 go_loopw [6,7] (fun s _ wr=>∃ r:Nat,r≤4∧s= .int .i64 (r:Int)∧OutL w wr 35 12 a1 n c1 (allN C U m r)) (fun s _ _=>4-(intOf s).toNat)
 case atStart=>exact⟨0,Nat.zero_le _,rfl,hO⟩
 case round=>
  clear hO
  obtain⟨r,hr,rfl,hO⟩:=hrel
  by_cases hlr:r<4
  · have hr4:(r:Int)<4:=by omega
    have hB0:=(hbb.all hC r).1
    have HAL:Shut (allN C U m (r+1)=rndN C (((r:Nat):Int)==0) (allN C U m r) m):=by show _=_;rw[allN]
    obtain⟨bo,hbo⟩:∃ b,((r:Int)==0)=b:=⟨_,rfl⟩
    rw[hbo] at HAL
    generalize allN C U m r=X at hO hB0 HAL
    go_upto_region 6 with fail
    go_loopw [7] (fun s wq=>∃ k:Nat,k≤m∧s= .int .i64 (k:Int)∧OutL w wq 35 12 a1 n c1 (rndN C bo X k)) (fun s _=>m-(intOf s).toNat)
    case atStart=>exact⟨0,Nat.zero_le _,rfl,hO⟩
    case round=>
     clear hO
     obtain⟨k,hk,rfl,hO⟩:=hrel
     by_cases hlt:k<m
     · have hkm:(k:Int)<(m:Int):=by omega
       have ca:=hC.a k hlt
       have cb:=hC.b k hlt
       have cx:=hC.x k hlt
       have cy:=hC.y k hlt
       have cn:=hC.ne k hlt
       have hB:=(hB0.rnd hC bo k hk).1
       obtain⟨b2,o2,e2,hbl2,hc2⟩:=(h2.below hO.bel) (by omega)
       have r0:=hc2 (k*5) (by omega)
       have r1:=hc2 (k*5+1) (by omega)
       have r2:=hc2 (k*5+2) (by omega)
       have r3:=hc2 (k*5+3) (by omega)
       have r4:=hc2 (k*5+4) (by omega)
       simp only[←Nat.add_assoc] at r0 r1 r2 r3 r4
       clear hc2
       subst e2
       have HN:Shut (rndN C bo X (k+1)=oneU (rndN C bo X k) (C (k*5)).toNat (C (k*5+1)).toNat (C (k*5+2)) (C (k*5+3)) bo):=by show _=_;rw[rndN]
       obtain⟨A,hA⟩:∃ A:Nat,C (k*5)=(A:Int):=⟨(C (k*5)).toNat,by omega⟩
       obtain⟨B,hBB⟩:∃ B:Nat,C (k*5+1)=(B:Int):=⟨(C (k*5+1)).toNat,by omega⟩
       rw[hA,hBB,Int.toNat_natCast,Int.toNat_natCast] at HN
       rw[hA] at ca r0 cn
       rw[hBB] at cb r1 cn
       clear hA hBB
       have hAB:A≠B:=fun e=>cn (by rw[e])
       clear cn
       obtain⟨g,rfl,hg1,hg2⟩:=hO.own.loc (by omega)
       go_wp2_with (go_at_call 66;refine(l8One_any w.heap.size g n c1 (rndN C bo X k) A B _ _ _ bo _ hO.own hn (by omega) (by omega) hAB hB cx cy).mono ?_;rintro e w5 ⟨rfl,ho5,hf5⟩)
       have hB5:Below w.heap.size w w5:=hO.bel.trans (hf5.below (by have:=hO.bel.size;omega) (fun b e=>by omega))
       go_roundw
       case rel=>exact⟨k+1,by omega,by go_num,hB5,by rw[HN.out];exact ho5⟩
       case measure=>simp[intOf];omega
     · obtain rfl:k=m:=by omega
       go_wp2_with fail
       go_roundw
       case rel=>exact⟨r+1,by omega,by go_num,by rw[HAL.out];exact hO⟩
       case measure=>simp[intOf];omega
  · obtain rfl:r=4:=by omega
    go_wp2_with fail
    go_ret
    exact⟨_,_,rfl,hO⟩
theorem kSpeed {cb n k:Nat} {V:Nat→Int} {G:Nat→Nat} {w:World} (h:HAt w cb n k V G) (b6: -20000000≤V 6∧V 6≤20000000) (b7: -20000000≤V 7∧V 7≤20000000):
 Calls Tryz.prog 140 #[hdk cb k] w fun e w'=>e= .returned (vv (spX V) (spY V))∧Below w.heap.size w w':=by
 have t6:=tdiv_bd (x:=V 6) (B:=20000000) (V 8) (by omega)
 have t7:=tdiv_bd (x:=V 7) (B:=20000000) (V 8) (by omega)
 have e6:IntKind.i64.wrap ((V 6).tdiv (V 8))=(V 6).tdiv (V 8):=i64w (by omega)
 have e7:IntKind.i64.wrap ((V 7).tdiv (V 8))=(V 7).tdiv (V 8):=i64w (by omega)
 have hset:=cset_map
 have l1:=h.cbl
 unfold spX spY
 by_cases m:V 8=0
 · rw[if_pos m,if_pos m]
   go_enter Tryz.func140,Tryz.ntmps140
   go_wp2_with (go_at_call 44;refine(kFixed (h.below (by exact bel_a))).mono ?_;rintro e w1 ⟨rfl,hb1⟩;have hz1:=hb1.size;(try simp only[zz] at hz1);have:=kf2 hb1 w.heap.size)
   exact bodyPost_ret (v:=vv 0 0) (by simp[results,Tryz.results140,go_sem, *]) rfl ⟨rfl,bel_a⟩
 · rw[if_neg m,if_neg m]
   go_enter Tryz.func140,Tryz.ntmps140
   go_upto_region 4 with(first
    |(go_at_call 76;refine(kDrive (h.below (by exact bel_a))).mono ?_;rintro e w2 ⟨rfl,hb2⟩;have hz2:=hb2.size;(try simp only[zz] at hz2);have:=kf2 hb2 w.heap.size)
    |(go_at_call 44;refine(kFixed (h.below (by exact bel_a))).mono ?_;rintro e w1 ⟨rfl,hb1⟩;have hz1:=hb1.size;(try simp only[zz] at hz1);have:=kf2 hb1 w.heap.size))
   refine wp_region_held_drew (S:=fun w'=>w'.cell? ⟨w.heap.size,0,none⟩=some (.int .i64 (k:Int))∧w'.cell? ⟨w.heap.size,1,none⟩=some (.pointer (some ⟨cb,0,none⟩))∧w'.cell? ⟨w2.heap.size,0,none⟩=some (.int .i64 (V 6))∧w'.cell? ⟨w2.heap.size,1,none⟩=some (.int .i64 (V 7))) (by kernel_rfl) ?_ (fun hHeld=> ?_)
   · (try dsimp only)
     (first|(go_simp;done)|(go_keep;done))
   refine tq 0 hHeld ?_
   refine tq 1 hHeld ?_
   refine tq 2 hHeld ?_
   refine tq 5 hHeld ?_
   refine tq 6 hHeld ?_
   refine tq 7 hHeld ?_
   (refine tc 3 fun K hK=> ?_;go_simp;(go_at_call 77;refine(kMass (h.below (by exact bel_a))).mono ?_;rintro e w3 ⟨rfl,hb3⟩;have hz3:=hb3.size;(try simp only[zz] at hz3);have:=kf2 hb3 w.heap.size;have:=kfa hb3 w2.heap.size);(try go_wp2_with fail);refine tr hK (fun hHeld=> ?_);clear hK K)
   refine tq 4 hHeld ?_
   (refine tc 8 fun K hK=> ?_;go_simp;(go_at_call 77;refine(kMass (h.below (by exact bel_a))).mono ?_;rintro e w4 ⟨rfl,hb4⟩;have hz4:=hb4.size;(try simp only[zz] at hz4);have:=kf2 hb4 w.heap.size;have:=kfa hb4 w2.heap.size);(try go_wp2_with fail);refine tr hK (fun hHeld=> ?_);clear hK K)
   refine tq 9 hHeld ?_
   refine tq 10 hHeld ?_
   (refine tc 11 fun K hK=> ?_;go_simp;refine tr hK (fun hHeld=> ?_);clear hK K)
   refine wpAnyH_done (by kernel_rfl) ?_ _
   go_wp2_with fail
   exact bodyPost_ret (v:=vv ((V 6).tdiv (V 8)) ((V 7).tdiv (V 8))) (by simp[results,Tryz.results140,go_sem, *]) rfl ⟨rfl,bel_a⟩
theorem kNearing (V1 V2:Nat→Int) (x y k:Int) (cb nn i j:Nat) (G1 G2:Nat→Nat) (w:World) (h1:HAt w cb nn i V1 G1) (h2:HAt w cb nn j V2 G2) (b6: -20000000≤V1 6∧V1 6≤20000000) (b7: -20000000≤V1 7∧V1 7≤20000000) (d6: -20000000≤V2 6∧V2 6≤20000000) (d7: -20000000≤V2 7∧V2 7≤20000000):
 Calls Tryz.prog 183 #[(.agg #[.int .i64 x,.int .i64 y,.int .i64 k,.int .i64 (i:Int),.pointer (some ⟨cb,0,none⟩),.int .i64 (j:Int),.pointer (some ⟨cb,0,none⟩)])] w fun e w'=>e= .returned (vv (spX V1-spX V2) (spY V1-spY V2))∧Below w.heap.size w w':=by
 have hset:=cset_map
 have sx1:=spX_bd V1 b6
 have sy1:=spY_bd V1 b7
 have sx2:=spX_bd V2 d6
 have sy2:=spY_bd V2 d7
 have l1:=h1.cbl
 have l2:=h2.cbl
 go_enter Tryz.func183,Tryz.ntmps183
 go_upto_region 1 with fail
 refine wp_region_held_drew (S:=fun w'=>w'.cell? ⟨w.heap.size,0,none⟩=some (.int .i64 x)∧w'.cell? ⟨w.heap.size,1,none⟩=some (.int .i64 y)∧w'.cell? ⟨w.heap.size,2,none⟩=some (.int .i64 k)∧w'.cell? ⟨w.heap.size,3,none⟩=some (.int .i64 (i:Int))∧w'.cell? ⟨w.heap.size,4,none⟩=some (.pointer (some ⟨cb,0,none⟩))∧w'.cell? ⟨w.heap.size,5,none⟩=some (.int .i64 (j:Int))∧w'.cell? ⟨w.heap.size,6,none⟩=some (.pointer (some ⟨cb,0,none⟩))) (by kernel_rfl) ?_ (fun hHeld=> ?_)
 · (try dsimp only)
   (first|(go_simp;done)|(go_keep;done))
 refine tq 0 hHeld ?_
 refine tq 1 hHeld ?_
 refine tq 3 hHeld ?_
 refine tq 4 hHeld ?_
 (refine tc 2 fun K hK=> ?_;go_simp;(go_at_call 140;refine(kSpeed (h1.below (by exact bel_a)) (by omega) (by omega)).mono ?_;rintro e w1 ⟨rfl,hb1⟩;have hz1:=hb1.size;(try simp only[zz] at hz1);have:=kf2 hb1 w.heap.size);(try go_wp2_with fail);refine tr hK (fun hHeld=> ?_);clear hK K)
 (refine tc 5 fun K hK=> ?_;go_simp;(go_at_call 140;refine(kSpeed (h2.below (by exact bel_a)) (by omega) (by omega)).mono ?_;rintro e w2 ⟨rfl,hb2⟩;have hz2:=hb2.size;(try simp only[zz] at hz2);have:=kf2 hb2 w.heap.size);(try go_wp2_with fail);refine tr hK (fun hHeld=> ?_);clear hK K)
 (refine tc 6 fun K hK=> ?_;go_simp;(go_at_call 134;refine(less_any _ _ _ _ _ (by omega) (by omega) (by omega) (by omega)).mono ?_;rintro e w3 ⟨rfl,hb3⟩;have hz3:=hb3.size;(try simp only[zz] at hz3);have:=kf2 hb3 w.heap.size);(try go_wp2_with fail);refine tr hK (fun hHeld=> ?_);clear hK K)
 (refine tc 7 fun K hK=> ?_;go_simp;refine tr hK (fun hHeld=> ?_);clear hK K)
 refine wpAnyH_done (by kernel_rfl) ?_ _
 go_wp2_with fail
 exact bodyPost_ret (v:=vv (spX V1-spX V2) (spY V1-spY V2)) (by simp[results,Tryz.results183,go_sem, *]) rfl ⟨rfl,bel_a⟩
theorem kClosing (V1 V2:Nat→Int) (x y k:Int) (cb nn i j:Nat) (G1 G2:Nat→Nat) (w:World) (h1:HAt w cb nn i V1 G1) (h2:HAt w cb nn j V2 G2) (b6: -20000000≤V1 6∧V1 6≤20000000) (b7: -20000000≤V1 7∧V1 7≤20000000) (d6: -20000000≤V2 6∧V2 6≤20000000) (d7: -20000000≤V2 7∧V2 7≤20000000) (bx: -256≤x∧x≤256) (bY: -256≤y∧y≤256):
 Calls Tryz.prog 181 #[(.agg #[.int .i64 x,.int .i64 y,.int .i64 k,.int .i64 (i:Int),.pointer (some ⟨cb,0,none⟩),.int .i64 (j:Int),.pointer (some ⟨cb,0,none⟩)])] w fun e w'=>e= .returned (.int .i64 (closeV V1 V2 x y))∧Below w.heap.size w w':=by
 have hset:=cset_map
 have sx1:=spX_bd V1 b6
 have sy1:=spY_bd V1 b7
 have sx2:=spX_bd V2 d6
 have sy2:=spY_bd V2 d7
 have l1:=h1.cbl
 have l2:=h2.cbl
 go_enter Tryz.func181,Tryz.ntmps181
 go_upto_region 1 with fail
 refine wp_region_held_drew (S:=fun w'=>w'.cell? ⟨w.heap.size,0,none⟩=some (.int .i64 x)∧w'.cell? ⟨w.heap.size,1,none⟩=some (.int .i64 y)∧w'.cell? ⟨w.heap.size,2,none⟩=some (.int .i64 k)∧w'.cell? ⟨w.heap.size,3,none⟩=some (.int .i64 (i:Int))∧w'.cell? ⟨w.heap.size,4,none⟩=some (.pointer (some ⟨cb,0,none⟩))∧w'.cell? ⟨w.heap.size,5,none⟩=some (.int .i64 (j:Int))∧w'.cell? ⟨w.heap.size,6,none⟩=some (.pointer (some ⟨cb,0,none⟩))) (by kernel_rfl) ?_ (fun hHeld=> ?_)
 · (try dsimp only)
   (first|(go_simp;done)|(go_keep;done))
 refine tq 0 hHeld ?_
 refine tq 2 hHeld ?_
 refine tq 3 hHeld ?_
 refine tq 4 hHeld ?_
 (refine tc 1 fun K hK=> ?_;go_simp;(go_at_call 183;refine(kNearing V1 V2 x y k cb nn i j G1 G2 _ (h1.below (by exact bel_a)) (h2.below (by exact bel_a)) (by omega) (by omega) (by omega) (by omega)).mono ?_;rintro e w1 ⟨rfl,hb1⟩;have hz1:=hb1.size;(try simp only[zz] at hz1);have:=kfa hb1 w.heap.size);(try go_wp2_with fail);refine tr hK (fun hHeld=> ?_);clear hK K)
 (refine tc 5 fun K hK=> ?_;go_simp;(go_at_call 184;refine(dot_any _ _ _ _ _ (by omega) (by omega) (by omega) (by omega)).mono ?_;rintro e w2 ⟨rfl,hb2⟩;have hz2:=hb2.size;(try simp only[zz] at hz2);have:=kfa hb2 w.heap.size);(try go_wp2_with fail);refine tr hK (fun hHeld=> ?_);clear hK K)
 refine tq 6 hHeld ?_
 refine wpAnyH_done (by kernel_rfl) ?_ _
 go_wp2_with fail
 go_ret
 exact⟨rfl,bel_a⟩
theorem kTogether (V1 V2:Nat→Int) (x y k:Int) (cb nn i j:Nat) (G1 G2:Nat→Nat) (n P:Int) (w:World) (h1:HAt w cb nn i V1 G1) (h2:HAt w cb nn j V2 G2) (a0:0≤V1 8∧V1 8≤1000) (a1:0≤V2 8∧V2 8≤1000) (bn: -1000000000≤n∧n≤1000000000) (eP:togV V1 V2 n=P):
 Calls Tryz.prog 182 #[(.agg #[.int .i64 x,.int .i64 y,.int .i64 k,.int .i64 (i:Int),.pointer (some ⟨cb,0,none⟩),.int .i64 (j:Int),.pointer (some ⟨cb,0,none⟩)]),.int .i64 n] w fun e w'=>e= .returned (.int .i64 P)∧Below w.heap.size w w':=by
 have hset:=cset_map
 subst eP
 have p1:=mul_bd (a:=n) (b:=V1 8+V2 8) (A:=1000000000) (B:=2000) (by omega) (by omega)
 have p2:=mul_bd (a:=n) (b:=V1 8) (A:=1000000000) (B:=1000) (by omega) (by omega)
 have p3:=mul_bd (a:=n*V1 8) (b:=V2 8) (A:=1000000000000) (B:=1000) (by omega) (by omega)
 have p4:=mul_bd (a:=n) (b:=V2 8) (A:=1000000000) (B:=1000) (by omega) (by omega)
 have p5:=tdiv_bd (x:=n*V1 8*V2 8) (B:=1000000000000000) (V1 8+V2 8) (by omega)
 have l1:=h1.cbl
 have l2:=h2.cbl
 unfold togV
 go_enter Tryz.func182,Tryz.ntmps182
 go_upto_region 1 with fail
 refine wp_region_held_drew (S:=fun w'=>w'.cell? ⟨w.heap.size,0,none⟩=some (.int .i64 x)∧w'.cell? ⟨w.heap.size,1,none⟩=some (.int .i64 y)∧w'.cell? ⟨w.heap.size,2,none⟩=some (.int .i64 k)∧w'.cell? ⟨w.heap.size,3,none⟩=some (.int .i64 (i:Int))∧w'.cell? ⟨w.heap.size,4,none⟩=some (.pointer (some ⟨cb,0,none⟩))∧w'.cell? ⟨w.heap.size,5,none⟩=some (.int .i64 (j:Int))∧w'.cell? ⟨w.heap.size,6,none⟩=some (.pointer (some ⟨cb,0,none⟩))) (by kernel_rfl) ?_ (fun hHeld=> ?_)
 · (try dsimp only)
   (first|(go_simp;done)|(go_keep;done))
 refine tq 0 hHeld ?_
 refine tq 1 hHeld ?_
 refine tq 3 hHeld ?_
 refine tq 4 hHeld ?_
 (refine tc 2 fun K hK=> ?_;go_simp;(go_at_call 77;refine(kMass (h1.below (by exact bel_a))).mono ?_;rintro e w1 ⟨rfl,hb1⟩;have hz1:=hb1.size;(try simp only[zz] at hz1);have:=kfa hb1 w.heap.size);(try go_wp2_with fail);refine tr hK (fun hHeld=> ?_);clear hK K)
 (refine tc 5 fun K hK=> ?_;go_simp;(go_at_call 77;refine(kMass (h2.below (by exact bel_a))).mono ?_;rintro e w2 ⟨rfl,hb2⟩;have hz2:=hb2.size;(try simp only[zz] at hz2);have:=kfa hb2 w.heap.size);(try go_wp2_with fail);refine tr hK (fun hHeld=> ?_);clear hK K)
 refine tq 6 hHeld ?_
 refine tq 7 hHeld ?_
 refine wpAnyH_done (by kernel_rfl) ?_ _
 by_cases z1:V1 8=0
 · go_wp2_with fail
   go_ret
   exact⟨ret_int (by first|rfl|(rw[if_pos (Or.inl z1)];simp[z1];done)),bel_a⟩
 · by_cases z2:V2 8=0
   · go_wp2_with fail
     go_ret
     exact⟨ret_int (by first|rfl|(rw[if_pos (Or.inr z2)];simp[z2];done)),bel_a⟩
   · have z3:(V1 8+V2 8=0)=False:=eq_false (by omega)
     have z1f:(V1 8==0)=false:=by simp[z1]
     have z2f:(V2 8==0)=false:=by simp[z2]
     go_wp2_with fail
     all_goals
      go_ret
      exact⟨ret_int (by first|rfl|(exfalso;simp_all;done)|(exfalso;simp at*;omega)),bel_a⟩
end Go.Proofs.YtpmjnpmnocjjgaaGreatDoor
