/- Texts of a proof. -/
import Derived.Test.YtbdbbdjifgpgeaaGreatB30
import Derived.Test.YtbdbbdjifgpgeaaGreatB25
import Derived.Deep.RegionHeld3
import Derived.Deep.DeepCutAuto
set_option maxHeartbeats 16000000
set_option maxRecDepth 20000
namespace Go.Proofs.YtbdbbdjifgpgeaaGreat
open Go.RowKit
set_option linter.unusedVariables false
set_option linter.unusedSimpArgs false
def oneU (U:Nat→Int) (A B:Nat) (X Y:Int) (bo:Bool):Nat→Int:=
 bif (puX (fun j=>U (A*12+j)) (fun j=>U (B*12+j)) X Y bo==0&&puY (fun j=>U (A*12+j)) (fun j=>U (B*12+j)) X Y bo==0)|| !fitsB (fun j=>U (A*12+j)) (fun j=>U (B*12+j)) (puX (fun j=>U (A*12+j)) (fun j=>U (B*12+j)) X Y bo) (puY (fun j=>U (A*12+j)) (fun j=>U (B*12+j)) X Y bo) then U
 else putRow (putRow U A (pushV (fun j=>U (A*12+j)) (-puX (fun j=>U (A*12+j)) (fun j=>U (B*12+j)) X Y bo) (-puY (fun j=>U (A*12+j)) (fun j=>U (B*12+j)) X Y bo))) B (pushV (fun j=>U (B*12+j)) (puX (fun j=>U (A*12+j)) (fun j=>U (B*12+j)) X Y bo) (puY (fun j=>U (A*12+j)) (fun j=>U (B*12+j)) X Y bo))
theorem puX_bd (V1 V2:Nat→Int) (x y:Int) (bo:Bool): -20000000≤puX V1 V2 x y bo∧puX V1 V2 x y bo≤20000000:=by
 unfold puX
 split
 · omega
 · exact clampZ_bd _ (by omega)
theorem puY_bd (V1 V2:Nat→Int) (x y:Int) (bo:Bool): -20000000≤puY V1 V2 x y bo∧puY V1 V2 x y bo≤20000000:=by
 unfold puY
 split
 · omega
 · exact clampZ_bd _ (by omega)
structure O8 (w wc:World) (base g n c A B:Nat) (X Y D:Int) (U:Nat→Int):Prop where
 hC:Nb wc w.heap.size 5 (fun j=>[(A:Int),(B:Int),X,Y,D].getD j 0)
 own:OwnL wc base 36 12 (.slice (some ⟨g,0,none⟩) n c) n U
 fr:Fr (fun b=>b=g) w wc
theorem O8.on {w wc w':World} {base g n c A B:Nat} {X Y D:Int} {U:Nat→Int} (h:O8 w wc base g n c A B X Y D U) (hb:Below wc.heap.size wc w'):O8 w w' base g n c A B X Y D U:=
 ⟨h.hC.on hb,h.own.below hb,h.fr.trans (Fr.of_below hb)⟩
theorem O8.set {w wc w':World} {base g n c A B pb:Nat} {X Y D:Int} {U:Nat→Int} (h:O8 w wc base g n c A B X Y D U) (hs:Fr (fun b=>b=pb) wc w') (h1:w.heap.size<pb) (h2:g<pb):O8 w w' base g n c A B X Y D U:=
 ⟨h.hC.fr hs (by omega),h.own.frame hs (fun b e x=>by simp[Value.ownBlock] at e;omega),h.fr.trans' hs (fun i hi e=>by omega)⟩
theorem O8.put {w wc w':World} {base g n c A B:Nat} {X Y D:Int} {U U':Nat→Int} (h:O8 w wc base g n c A B X Y D U) (hs:Fr (fun b=>b=g) wc w') (h1:g<w.heap.size) (hq:OwnL w' base 36 12 (.slice (some ⟨g,0,none⟩) n c) n U'):O8 w w' base g n c A B X Y D U':=
 ⟨h.hC.fr hs (by omega),hq,h.fr.trans hs⟩
theorem O8.ks {w wc:World} {base g n c A B:Nat} {X Y D:Int} {U:Nat→Int} (h:O8 w wc base g n c A B X Y D U):
 wc.cell? ⟨w.heap.size,0,none⟩=some (.int .i64 (A:Int))∧wc.cell? ⟨w.heap.size,1,none⟩=some (.int .i64 (B:Int))∧wc.cell? ⟨w.heap.size,2,none⟩=some (.int .i64 X)∧wc.cell? ⟨w.heap.size,3,none⟩=some (.int .i64 Y)∧wc.cell? ⟨w.heap.size,4,none⟩=some (.int .i64 D):=
 ⟨h.hC.c 0 (by decide),h.hC.c 1 (by decide),h.hC.c 2 (by decide),h.hC.c 3 (by decide),h.hC.c 4 (by decide)⟩
theorem own12 {w:World} {base g n c A:Nat} {U V:Nat→Int} (h:OwnL w base 36 12 (.slice (some ⟨g,0,none⟩) n c) n U) (i:∀ j,j<12→A*12+j<n*12) (hV:∀ j,j<12→U (A*12+j)=V j):
 w.cell? ⟨g,A*12,none⟩=some (.int .i64 (V 0))∧w.cell? ⟨g,A*12+1,none⟩=some (.int .i64 (V 1))∧w.cell? ⟨g,A*12+2,none⟩=some (.int .i64 (V 2))∧w.cell? ⟨g,A*12+3,none⟩=some (.int .i64 (V 3))∧w.cell? ⟨g,A*12+4,none⟩=some (.int .i64 (V 4))∧w.cell? ⟨g,A*12+5,none⟩=some (.int .i64 (V 5))∧w.cell? ⟨g,A*12+6,none⟩=some (.int .i64 (V 6))∧w.cell? ⟨g,A*12+7,none⟩=some (.int .i64 (V 7))∧w.cell? ⟨g,A*12+8,none⟩=some (.int .i64 (V 8))∧w.cell? ⟨g,A*12+9,none⟩=some (.int .i64 (V 9))∧w.cell? ⟨g,A*12+10,none⟩=some (.int .i64 (V 10))∧w.cell? ⟨g,A*12+11,none⟩=some (.int .i64 (V 11)):=
 have q:∀ j,j<12→w.cell? ⟨g,A*12+j,none⟩=some (.int .i64 (V j)):=fun j hj=>(h.cellq (q:=A*12+j) (i j hj)).trans (congrArg (fun z=>some (Value.int .i64 z)) (hV j hj))
 ⟨q 0 (by decide),q 1 (by decide),q 2 (by decide),q 3 (by decide),q 4 (by decide),q 5 (by decide),q 6 (by decide),q 7 (by decide),q 8 (by decide),q 9 (by decide),q 10 (by decide),q 11 (by decide)⟩
theorem l8One_any (base g n c:Nat) (U:Nat→Int) (A B:Nat) (X Y D:Int) (bo:Bool) (w:World) (ho0:OwnL w base 36 12 (.slice (some ⟨g,0,none⟩) n c) n U) (hn:n≤1048576) (hA:A<n) (hB:B<n) (hAB:A≠B) (hbb:Bods n U) (hX: -256≤X∧X≤256) (hY: -256≤Y∧Y≤256):
 Calls Tryz.prog 95 #[.slice (some ⟨g,0,none⟩) n c,.agg #[.int .i64 (A:Int),.int .i64 (B:Int),.int .i64 X,.int .i64 Y,.int .i64 D],.bool bo] w fun e w'=>e= .returned (.tuple #[])∧OwnL w' base 36 12 (.slice (some ⟨g,0,none⟩) n c) n (oneU U A B X Y bo)∧Fr (fun b=>b=g) w w':=by
 have hset:=cset_map
 have hgl:g<w.heap.size:=(ho0.lt g rfl).2
 have hAi:(A:Int)<(n:Int):=by omega
 have hBi:(B:Int)<(n:Int):=by omega
 have iA:∀ j,j<12→A*12+j<n*12:=fun j hj=>by omega
 have iB:∀ j,j<12→B*12+j<n*12:=fun j hj=>by omega
 obtain⟨mA,_,_,_,b6A,b7A,b9A,b10A,_⟩:=bodyB_bd (hbb.ok A hA)
 have mA:0≤(fun j=>U (A*12+j)) 8∧(fun j=>U (A*12+j)) 8≤1000:=mA
 have b6A: -20000000≤(fun j=>U (A*12+j)) 6∧(fun j=>U (A*12+j)) 6≤20000000:=b6A
 have b7A: -20000000≤(fun j=>U (A*12+j)) 7∧(fun j=>U (A*12+j)) 7≤20000000:=b7A
 have b9A:0≤(fun j=>U (A*12+j)) 9∧(fun j=>U (A*12+j)) 9≤256:=b9A
 have b10A:0≤(fun j=>U (A*12+j)) 10∧(fun j=>U (A*12+j)) 10≤256:=b10A
 have hVA:∀ j,U (A*12+j)=(fun j=>U (A*12+j)) j:=fun j=>rfl
 obtain⟨mB,_,_,_,b6B,b7B,b9B,b10B,_⟩:=bodyB_bd (hbb.ok B hB)
 have mB:0≤(fun j=>U (B*12+j)) 8∧(fun j=>U (B*12+j)) 8≤1000:=mB
 have b6B: -20000000≤(fun j=>U (B*12+j)) 6∧(fun j=>U (B*12+j)) 6≤20000000:=b6B
 have b7B: -20000000≤(fun j=>U (B*12+j)) 7∧(fun j=>U (B*12+j)) 7≤20000000:=b7B
 have b9B:0≤(fun j=>U (B*12+j)) 9∧(fun j=>U (B*12+j)) 9≤256:=b9B
 have b10B:0≤(fun j=>U (B*12+j)) 10∧(fun j=>U (B*12+j)) 10≤256:=b10B
 have hVB:∀ j,U (B*12+j)=(fun j=>U (B*12+j)) j:=fun j=>rfl
 have hE:Below w.heap.size w (w.alloc (Obj.cells #[.int .i64 (A:Int),.int .i64 (B:Int),.int .i64 X,.int .i64 Y,.int .i64 D] 79)):=(Below.refl _ _).alloc (Nat.le_refl _) _
 obtain⟨R,hR⟩:∃ R,oneU U A B X Y bo=R:=⟨_,rfl⟩
 rw[hR]
 unfold oneU at hR
 have bp:=puX_bd (fun j=>U (A*12+j)) (fun j=>U (B*12+j)) X Y bo
 have bq:=puY_bd (fun j=>U (A*12+j)) (fun j=>U (B*12+j)) X Y bo
 obtain⟨p,hp⟩:∃ p,puX (fun j=>U (A*12+j)) (fun j=>U (B*12+j)) X Y bo=p:=⟨_,rfl⟩
 obtain⟨q,hq⟩:∃ q,puY (fun j=>U (A*12+j)) (fun j=>U (B*12+j)) X Y bo=q:=⟨_,rfl⟩
 rw[hp] at bp hR
 rw[hq] at bq hR
 generalize (fun j=>U (A*12+j))=VA at hR hVA mA b6A b7A b9A b10A hp hq
 generalize (fun j=>U (B*12+j))=VB at hR hVB mB b6B b7B b9B b10B hp hq
 have hbpn: -20000000≤ -p∧ -p≤20000000:=by omega
 have hbqn: -20000000≤ -q∧ -q≤20000000:=by omega
 have wp1:IntKind.i64.wrap (-p)= -p:=i64w (by omega)
 have wq1:IntKind.i64.wrap (-q)= -q:=i64w (by omega)
 obtain⟨EZ,hEZ⟩:∃ b,(p==0&&q==0)=b:=⟨_,rfl⟩
 rw[hEZ] at hR
 go_enter Tryz.func95,Tryz.ntmps95
 go_upto_region 1 with fail
 have hO:O8 w (w.alloc (Obj.cells #[.int .i64 (A:Int),.int .i64 (B:Int),.int .i64 X,.int .i64 Y,.int .i64 D] 79)) base g n c A B X Y D U:=⟨⟨fun j hj=>by rcases(show j=0∨j=1∨j=2∨j=3∨j=4 by omega) with rfl|rfl|rfl|rfl|rfl<;>go_simp,fun o=>by go_simp,by simp⟩,ho0.below hE,Fr.of_below hE⟩
 generalize (w.alloc (Obj.cells #[.int .i64 (A:Int),.int .i64 (B:Int),.int .i64 X,.int .i64 Y,.int .i64 D] 79))=w0 at hO ⊢
 clear hE
 obtain⟨k0,k1,k2,k3,k4⟩:=hO.ks
 obtain⟨a0,a1,a2,a3,a4,a5,a6,a7,a8,a9,a10,a11⟩:=own12 hO.own iA (fun j _=>hVA j)
 obtain⟨b0,b1,b2,b3,b4,b5,b6,b7,b8,b9,b10,b11⟩:=own12 hO.own iB (fun j _=>hVB j)
 go_cut [6] (fun s6 wc=>∃ pb,s6= .pointer (some ⟨pb,0,none⟩)∧O8 w wc base g n c A B X Y D U∧Nb wc pb 2 (fun j=>[p,q].getD j 0)∧w.heap.size<pb∧g<pb)
 case first=>
  refine wp_region_held_drew (S:=fun w'=>w'.cell? ⟨w.heap.size,0,none⟩=some (.int .i64 (A:Int))∧w'.cell? ⟨w.heap.size,1,none⟩=some (.int .i64 (B:Int))∧w'.cell? ⟨w.heap.size,2,none⟩=some (.int .i64 X)∧w'.cell? ⟨w.heap.size,3,none⟩=some (.int .i64 Y)∧w'.cell? ⟨w.heap.size,4,none⟩=some (.int .i64 D)∧w'.cell? ⟨g,A*12,none⟩=some (.int .i64 (VA 0))∧w'.cell? ⟨g,A*12+1,none⟩=some (.int .i64 (VA 1))∧w'.cell? ⟨g,A*12+2,none⟩=some (.int .i64 (VA 2))∧w'.cell? ⟨g,A*12+3,none⟩=some (.int .i64 (VA 3))∧w'.cell? ⟨g,A*12+4,none⟩=some (.int .i64 (VA 4))∧w'.cell? ⟨g,A*12+5,none⟩=some (.int .i64 (VA 5))∧w'.cell? ⟨g,A*12+6,none⟩=some (.int .i64 (VA 6))∧w'.cell? ⟨g,A*12+7,none⟩=some (.int .i64 (VA 7))∧w'.cell? ⟨g,A*12+8,none⟩=some (.int .i64 (VA 8))∧w'.cell? ⟨g,A*12+9,none⟩=some (.int .i64 (VA 9))∧w'.cell? ⟨g,A*12+10,none⟩=some (.int .i64 (VA 10))∧w'.cell? ⟨g,A*12+11,none⟩=some (.int .i64 (VA 11))∧w'.cell? ⟨g,B*12,none⟩=some (.int .i64 (VB 0))∧w'.cell? ⟨g,B*12+1,none⟩=some (.int .i64 (VB 1))∧w'.cell? ⟨g,B*12+2,none⟩=some (.int .i64 (VB 2))∧w'.cell? ⟨g,B*12+3,none⟩=some (.int .i64 (VB 3))∧w'.cell? ⟨g,B*12+4,none⟩=some (.int .i64 (VB 4))∧w'.cell? ⟨g,B*12+5,none⟩=some (.int .i64 (VB 5))∧w'.cell? ⟨g,B*12+6,none⟩=some (.int .i64 (VB 6))∧w'.cell? ⟨g,B*12+7,none⟩=some (.int .i64 (VB 7))∧w'.cell? ⟨g,B*12+8,none⟩=some (.int .i64 (VB 8))∧w'.cell? ⟨g,B*12+9,none⟩=some (.int .i64 (VB 9))∧w'.cell? ⟨g,B*12+10,none⟩=some (.int .i64 (VB 10))∧w'.cell? ⟨g,B*12+11,none⟩=some (.int .i64 (VB 11))) (by kernel_rfl) ?_ (fun hHeld=> ?_)
  · (try dsimp only)
    (first|(go_simp;done)|(go_keep;done))
  refine tq 0 hHeld ?_
  refine tq 1 hHeld ?_
  refine tq 2 hHeld ?_
  refine tq 3 hHeld ?_
  refine tq 4 hHeld ?_
  refine tq 5 hHeld ?_
  refine tq 6 hHeld ?_
  refine tq 7 hHeld ?_
  refine tq 8 hHeld ?_
  refine tq 9 hHeld ?_
  refine tq 10 hHeld ?_
  refine tq 11 hHeld ?_
  refine tq 12 hHeld ?_
  refine wpAnyH_ready (rs:=[13,14]) (by kernel_rfl) (by simp) ?_
  refine AllReadyH.cons rfl (fun K hK=> ?_) (AllReadyH.cons rfl (fun K hK=> ?_) AllReadyH.nil)
  · (go_simp
     (go_at_call 104;refine(l8Push_any VA VB X Y D bo _ mA mB b6A b7A b6B b7B hX hY b9A b9B b10A b10B).mono ?_;rintro e w5 ⟨rfl,hb5⟩;(try rw[hp,hq]))
     have hb5:=hb5.ofDr
     have hO2:=hO.on hb5
     clear k0 k1 k2 k3 k4 a0 a1 a2 a3 a4 a5 a6 a7 a8 a9 a10 a11 b0 b1 b2 b3 b4 b5 b6 b7 b8 b9 b10 b11
     clear hO
     have hO:=hO2
     clear hO2
     obtain⟨k0,k1,k2,k3,k4⟩:=hO.ks
     obtain⟨a0,a1,a2,a3,a4,a5,a6,a7,a8,a9,a10,a11⟩:=own12 hO.own iA (fun j _=>hVA j)
     obtain⟨b0,b1,b2,b3,b4,b5,b6,b7,b8,b9,b10,b11⟩:=own12 hO.own iB (fun j _=>hVB j)
     (try go_wp2_with fail)
     refine tr hK (fun hHeld=> ?_)
     clear hK K)
    refine tc 14 fun K hK=> ?_
    (go_simp
     have hE:Below w5.heap.size w5 (w5.alloc (Obj.cells #[.int .i64 0,.int .i64 0] 34)):=(Below.refl _ _).alloc (Nat.le_refl _) _
     have hO2:=hO.on hE
     have hV:Nb (w5.alloc (Obj.cells #[.int .i64 0,.int .i64 0] 34)) w5.heap.size 2 (fun _=>0):=⟨fun j hj=>by rcases(show j=0∨j=1 by omega) with rfl|rfl<;>go_simp,fun o=>by go_simp,by simp⟩
     have hp1:w.heap.size<w5.heap.size:=hO.hC.l
     have hp2:g<w5.heap.size:=Nat.lt_of_lt_of_le hgl (Nat.le_of_lt hp1)
     clear hE
     clear k0 k1 k2 k3 k4 a0 a1 a2 a3 a4 a5 a6 a7 a8 a9 a10 a11 b0 b1 b2 b3 b4 b5 b6 b7 b8 b9 b10 b11
     clear hO
     have hO:=hO2
     clear hO2
     generalize (w5.alloc (Obj.cells #[.int .i64 0,.int .i64 0] 34))=w6 at hO hV ⊢
     generalize w5.heap.size=pb at hV hp1 hp2 ⊢
     obtain⟨k0,k1,k2,k3,k4⟩:=hO.ks
     obtain⟨a0,a1,a2,a3,a4,a5,a6,a7,a8,a9,a10,a11⟩:=own12 hO.own iA (fun j _=>hVA j)
     obtain⟨b0,b1,b2,b3,b4,b5,b6,b7,b8,b9,b10,b11⟩:=own12 hO.own iB (fun j _=>hVB j)
     (have v0:w6.cell? ⟨pb,0,none⟩=some (.int .i64 0):=hV.c 0 (by decide))
     (have v1:w6.cell? ⟨pb,1,none⟩=some (.int .i64 0):=hV.c 1 (by decide))
     have vf:=hV.f
     refine tr hK (fun hHeld=> ?_)
     clear hK K)
    refine tc 15 fun K hK=> ?_
    (go_simp
     have hs:Fr (fun b=>b=pb) w6 ((w6.setCell ⟨pb,0,none⟩ (.int .i64 p)).setCell ⟨pb,1,none⟩ (.int .i64 q)):=(Fr.setCell (X:=fun b=>b=pb) rfl _).trans (Fr.setCell (X:=fun b=>b=pb) rfl _)
     have hV2:Nb ((w6.setCell ⟨pb,0,none⟩ (.int .i64 p)).setCell ⟨pb,1,none⟩ (.int .i64 q)) pb 2 (fun j=>[p,q].getD j 0):=((hV.set 0 (by decide) p).set 1 (by decide) q).congr (fun j hj=>by rcases(show j=0∨j=1 by omega) with rfl|rfl<;>rfl)
     have hO2:=hO.set hs hp1 hp2
     clear k0 k1 k2 k3 k4 a0 a1 a2 a3 a4 a5 a6 a7 a8 a9 a10 a11 b0 b1 b2 b3 b4 b5 b6 b7 b8 b9 b10 b11
     clear hs hV v0 v1 vf
     have hV:=hV2
     clear hV2
     clear hO
     have hO:=hO2
     clear hO2
     generalize ((w6.setCell ⟨pb,0,none⟩ (.int .i64 p)).setCell ⟨pb,1,none⟩ (.int .i64 q))=w7 at hO hV ⊢
     obtain⟨k0,k1,k2,k3,k4⟩:=hO.ks
     obtain⟨a0,a1,a2,a3,a4,a5,a6,a7,a8,a9,a10,a11⟩:=own12 hO.own iA (fun j _=>hVA j)
     obtain⟨b0,b1,b2,b3,b4,b5,b6,b7,b8,b9,b10,b11⟩:=own12 hO.own iB (fun j _=>hVB j)
     refine tr hK (fun hHeld=> ?_)
     clear hK K)
    refine wpAnyH_done (by kernel_rfl) ?_ _
    go_wp2_with fail
    go_meet
    exact⟨pb,rfl,hO,hV,hp1,hp2⟩
  · (go_simp
     have hE:Below w0.heap.size w0 (w0.alloc (Obj.cells #[.int .i64 0,.int .i64 0] 34)).drew:=Below.drew ((Below.refl _ _).alloc (Nat.le_refl _) _)
     have hO2:=hO.on hE
     have hV:Nb (w0.alloc (Obj.cells #[.int .i64 0,.int .i64 0] 34)).drew w0.heap.size 2 (fun _=>0):=⟨fun j hj=>by rcases(show j=0∨j=1 by omega) with rfl|rfl<;>go_simp,fun o=>by go_simp,by simp⟩
     have hp1:w.heap.size<w0.heap.size:=hO.hC.l
     have hp2:g<w0.heap.size:=Nat.lt_of_lt_of_le hgl (Nat.le_of_lt hp1)
     clear hE
     clear k0 k1 k2 k3 k4 a0 a1 a2 a3 a4 a5 a6 a7 a8 a9 a10 a11 b0 b1 b2 b3 b4 b5 b6 b7 b8 b9 b10 b11
     clear hO
     have hO:=hO2
     clear hO2
     generalize (w0.alloc (Obj.cells #[.int .i64 0,.int .i64 0] 34)).drew=w6 at hO hV ⊢
     generalize w0.heap.size=pb at hV hp1 hp2 ⊢
     obtain⟨k0,k1,k2,k3,k4⟩:=hO.ks
     obtain⟨a0,a1,a2,a3,a4,a5,a6,a7,a8,a9,a10,a11⟩:=own12 hO.own iA (fun j _=>hVA j)
     obtain⟨b0,b1,b2,b3,b4,b5,b6,b7,b8,b9,b10,b11⟩:=own12 hO.own iB (fun j _=>hVB j)
     (have v0:w6.cell? ⟨pb,0,none⟩=some (.int .i64 0):=hV.c 0 (by decide))
     (have v1:w6.cell? ⟨pb,1,none⟩=some (.int .i64 0):=hV.c 1 (by decide))
     have vf:=hV.f
     refine tr hK (fun hHeld=> ?_)
     clear hK K)
    refine tc 13 fun K hK=> ?_
    (go_simp
     (go_at_call 104;refine(l8Push_any VA VB X Y D bo _ mA mB b6A b7A b6B b7B hX hY b9A b9B b10A b10B).mono ?_;rintro e w5 ⟨rfl,hb5⟩;(try rw[hp,hq]))
     have hO2:=hO.on hb5
     have hV2:=hV.on hb5
     clear hV v0 v1 vf
     have hV:=hV2
     clear hV2
     clear k0 k1 k2 k3 k4 a0 a1 a2 a3 a4 a5 a6 a7 a8 a9 a10 a11 b0 b1 b2 b3 b4 b5 b6 b7 b8 b9 b10 b11
     clear hO
     have hO:=hO2
     clear hO2
     obtain⟨k0,k1,k2,k3,k4⟩:=hO.ks
     obtain⟨a0,a1,a2,a3,a4,a5,a6,a7,a8,a9,a10,a11⟩:=own12 hO.own iA (fun j _=>hVA j)
     obtain⟨b0,b1,b2,b3,b4,b5,b6,b7,b8,b9,b10,b11⟩:=own12 hO.own iB (fun j _=>hVB j)
     (have v0:w5.cell? ⟨pb,0,none⟩=some (.int .i64 0):=hV.c 0 (by decide))
     (have v1:w5.cell? ⟨pb,1,none⟩=some (.int .i64 0):=hV.c 1 (by decide))
     have vf:=hV.f
     (try go_wp2_with fail)
     refine tr hK (fun hHeld=> ?_)
     clear hK K)
    refine tc 15 fun K hK=> ?_
    (go_simp
     have hs:Fr (fun b=>b=pb) w5 ((w5.setCell ⟨pb,0,none⟩ (.int .i64 p)).setCell ⟨pb,1,none⟩ (.int .i64 q)):=(Fr.setCell (X:=fun b=>b=pb) rfl _).trans (Fr.setCell (X:=fun b=>b=pb) rfl _)
     have hV2:Nb ((w5.setCell ⟨pb,0,none⟩ (.int .i64 p)).setCell ⟨pb,1,none⟩ (.int .i64 q)) pb 2 (fun j=>[p,q].getD j 0):=((hV.set 0 (by decide) p).set 1 (by decide) q).congr (fun j hj=>by rcases(show j=0∨j=1 by omega) with rfl|rfl<;>rfl)
     have hO2:=hO.set hs hp1 hp2
     clear k0 k1 k2 k3 k4 a0 a1 a2 a3 a4 a5 a6 a7 a8 a9 a10 a11 b0 b1 b2 b3 b4 b5 b6 b7 b8 b9 b10 b11
     clear hs hV v0 v1 vf
     have hV:=hV2
     clear hV2
     clear hO
     have hO:=hO2
     clear hO2
     generalize ((w5.setCell ⟨pb,0,none⟩ (.int .i64 p)).setCell ⟨pb,1,none⟩ (.int .i64 q))=w7 at hO hV ⊢
     obtain⟨k0,k1,k2,k3,k4⟩:=hO.ks
     obtain⟨a0,a1,a2,a3,a4,a5,a6,a7,a8,a9,a10,a11⟩:=own12 hO.own iA (fun j _=>hVA j)
     obtain⟨b0,b1,b2,b3,b4,b5,b6,b7,b8,b9,b10,b11⟩:=own12 hO.own iB (fun j _=>hVB j)
     refine tr hK (fun hHeld=> ?_)
     clear hK K)
    refine wpAnyH_done (by kernel_rfl) ?_ _
    go_wp2_with fail
    go_meet
    exact⟨pb,rfl,hO,hV,hp1,hp2⟩
 case rest=>
 clear k0 k1 k2 k3 k4 a0 a1 a2 a3 a4 a5 a6 a7 a8 a9 a10 a11 b0 b1 b2 b3 b4 b5 b6 b7 b8 b9 b10 b11
 clear hO
 obtain⟨pb,rfl,hO,hV,hp1,hp2⟩:=hcut
 obtain⟨k0,k1,k2,k3,k4⟩:=hO.ks
 obtain⟨a0,a1,a2,a3,a4,a5,a6,a7,a8,a9,a10,a11⟩:=own12 hO.own iA (fun j _=>hVA j)
 obtain⟨b0,b1,b2,b3,b4,b5,b6,b7,b8,b9,b10,b11⟩:=own12 hO.own iB (fun j _=>hVB j)
 (have v0:wc.cell? ⟨pb,0,none⟩=some (.int .i64 p):=hV.c 0 (by decide))
 (have v1:wc.cell? ⟨pb,1,none⟩=some (.int .i64 q):=hV.c 1 (by decide))
 have vf:=hV.f
 have hev:∀ w,(Op.equalIn 10000 34 (.agg #[.int .i64 p,.int .i64 q]) (.agg #[.int .i64 0,.int .i64 0])).run Tryz.prog w= .ok EZ w:=fun w=>by rw[eq_vec0,hEZ]
 clear hEZ
 cases EZ with
 | true=>
   simp only[Bool.true_or,cond_true] at hR
   subst hR
   go_upto_region 2 with fail
   refine wp_region_held_drew (S:=fun w'=>w'.cell? ⟨w.heap.size,0,none⟩=some (.int .i64 (A:Int))∧w'.cell? ⟨w.heap.size,1,none⟩=some (.int .i64 (B:Int))∧w'.cell? ⟨w.heap.size,2,none⟩=some (.int .i64 X)∧w'.cell? ⟨w.heap.size,3,none⟩=some (.int .i64 Y)∧w'.cell? ⟨w.heap.size,4,none⟩=some (.int .i64 D)∧w'.cell? ⟨g,A*12,none⟩=some (.int .i64 (VA 0))∧w'.cell? ⟨g,A*12+1,none⟩=some (.int .i64 (VA 1))∧w'.cell? ⟨g,A*12+2,none⟩=some (.int .i64 (VA 2))∧w'.cell? ⟨g,A*12+3,none⟩=some (.int .i64 (VA 3))∧w'.cell? ⟨g,A*12+4,none⟩=some (.int .i64 (VA 4))∧w'.cell? ⟨g,A*12+5,none⟩=some (.int .i64 (VA 5))∧w'.cell? ⟨g,A*12+6,none⟩=some (.int .i64 (VA 6))∧w'.cell? ⟨g,A*12+7,none⟩=some (.int .i64 (VA 7))∧w'.cell? ⟨g,A*12+8,none⟩=some (.int .i64 (VA 8))∧w'.cell? ⟨g,A*12+9,none⟩=some (.int .i64 (VA 9))∧w'.cell? ⟨g,A*12+10,none⟩=some (.int .i64 (VA 10))∧w'.cell? ⟨g,A*12+11,none⟩=some (.int .i64 (VA 11))∧w'.cell? ⟨g,B*12,none⟩=some (.int .i64 (VB 0))∧w'.cell? ⟨g,B*12+1,none⟩=some (.int .i64 (VB 1))∧w'.cell? ⟨g,B*12+2,none⟩=some (.int .i64 (VB 2))∧w'.cell? ⟨g,B*12+3,none⟩=some (.int .i64 (VB 3))∧w'.cell? ⟨g,B*12+4,none⟩=some (.int .i64 (VB 4))∧w'.cell? ⟨g,B*12+5,none⟩=some (.int .i64 (VB 5))∧w'.cell? ⟨g,B*12+6,none⟩=some (.int .i64 (VB 6))∧w'.cell? ⟨g,B*12+7,none⟩=some (.int .i64 (VB 7))∧w'.cell? ⟨g,B*12+8,none⟩=some (.int .i64 (VB 8))∧w'.cell? ⟨g,B*12+9,none⟩=some (.int .i64 (VB 9))∧w'.cell? ⟨g,B*12+10,none⟩=some (.int .i64 (VB 10))∧w'.cell? ⟨g,B*12+11,none⟩=some (.int .i64 (VB 11))∧w'.cell? ⟨pb,0,none⟩=some (.int .i64 p)∧w'.cell? ⟨pb,1,none⟩=some (.int .i64 q)) (by kernel_rfl) ?_ (fun hHeld=> ?_)
   · (try dsimp only)
     (first|(go_simp;done)|(go_keep;done))
   refine tq 0 hHeld ?_
   refine tq 1 hHeld ?_
   refine tq 2 hHeld ?_
   refine tq 3 hHeld ?_
   refine tn 4 hHeld ?_
   refine tn 5 hHeld ?_
   refine tn 6 hHeld ?_
   refine tn 7 hHeld ?_
   refine tn 8 hHeld ?_
   refine tn 9 hHeld ?_
   refine tn 10 hHeld ?_
   refine tn 11 hHeld ?_
   refine tn 12 hHeld ?_
   refine tn 13 hHeld ?_
   refine tn 14 hHeld ?_
   refine tn 15 hHeld ?_
   refine tn 16 hHeld ?_
   refine tq 17 hHeld ?_
   refine wpAnyH_done (by kernel_rfl) ?_ _
   go_wp2_with fail
   refine bodyPost_ret (results_none rfl _ _ _) rfl ?_
   exact⟨rfl,hO.own.drewO,hO.fr.drew⟩
 | false=>
   obtain⟨fb,hfb⟩:∃ b,fitsB VA VB p q=b:=⟨_,rfl⟩
   rw[hfb] at hR
   go_upto_region 2 with fail
   go_cut [38] (fun s38 wc=>s38= .bool (!fb)∧O8 w wc base g n c A B X Y D U∧Nb wc pb 2 (fun j=>[p,q].getD j 0))
   case first=>
    refine wp_region_held_drew (S:=fun w'=>w'.cell? ⟨w.heap.size,0,none⟩=some (.int .i64 (A:Int))∧w'.cell? ⟨w.heap.size,1,none⟩=some (.int .i64 (B:Int))∧w'.cell? ⟨w.heap.size,2,none⟩=some (.int .i64 X)∧w'.cell? ⟨w.heap.size,3,none⟩=some (.int .i64 Y)∧w'.cell? ⟨w.heap.size,4,none⟩=some (.int .i64 D)∧w'.cell? ⟨g,A*12,none⟩=some (.int .i64 (VA 0))∧w'.cell? ⟨g,A*12+1,none⟩=some (.int .i64 (VA 1))∧w'.cell? ⟨g,A*12+2,none⟩=some (.int .i64 (VA 2))∧w'.cell? ⟨g,A*12+3,none⟩=some (.int .i64 (VA 3))∧w'.cell? ⟨g,A*12+4,none⟩=some (.int .i64 (VA 4))∧w'.cell? ⟨g,A*12+5,none⟩=some (.int .i64 (VA 5))∧w'.cell? ⟨g,A*12+6,none⟩=some (.int .i64 (VA 6))∧w'.cell? ⟨g,A*12+7,none⟩=some (.int .i64 (VA 7))∧w'.cell? ⟨g,A*12+8,none⟩=some (.int .i64 (VA 8))∧w'.cell? ⟨g,A*12+9,none⟩=some (.int .i64 (VA 9))∧w'.cell? ⟨g,A*12+10,none⟩=some (.int .i64 (VA 10))∧w'.cell? ⟨g,A*12+11,none⟩=some (.int .i64 (VA 11))∧w'.cell? ⟨g,B*12,none⟩=some (.int .i64 (VB 0))∧w'.cell? ⟨g,B*12+1,none⟩=some (.int .i64 (VB 1))∧w'.cell? ⟨g,B*12+2,none⟩=some (.int .i64 (VB 2))∧w'.cell? ⟨g,B*12+3,none⟩=some (.int .i64 (VB 3))∧w'.cell? ⟨g,B*12+4,none⟩=some (.int .i64 (VB 4))∧w'.cell? ⟨g,B*12+5,none⟩=some (.int .i64 (VB 5))∧w'.cell? ⟨g,B*12+6,none⟩=some (.int .i64 (VB 6))∧w'.cell? ⟨g,B*12+7,none⟩=some (.int .i64 (VB 7))∧w'.cell? ⟨g,B*12+8,none⟩=some (.int .i64 (VB 8))∧w'.cell? ⟨g,B*12+9,none⟩=some (.int .i64 (VB 9))∧w'.cell? ⟨g,B*12+10,none⟩=some (.int .i64 (VB 10))∧w'.cell? ⟨g,B*12+11,none⟩=some (.int .i64 (VB 11))∧w'.cell? ⟨pb,0,none⟩=some (.int .i64 p)∧w'.cell? ⟨pb,1,none⟩=some (.int .i64 q)) (by kernel_rfl) ?_ (fun hHeld=> ?_)
    · (try dsimp only)
      (first|(go_simp;done)|(go_keep;done))
    refine tq 0 hHeld ?_
    refine tq 1 hHeld ?_
    refine tq 2 hHeld ?_
    refine tq 3 hHeld ?_
    refine tq 4 hHeld ?_
    refine tq 5 hHeld ?_
    refine tq 6 hHeld ?_
    refine tq 7 hHeld ?_
    refine tq 8 hHeld ?_
    refine tq 9 hHeld ?_
    refine tq 10 hHeld ?_
    refine tq 11 hHeld ?_
    refine tq 12 hHeld ?_
    refine tq 13 hHeld ?_
    refine tq 14 hHeld ?_
    refine tc 15 fun K hK=> ?_
    (go_simp
     (go_at_call 105;refine(l8Fits_q VA VB p q fb _ b6A b7A b6B b7B bp bq hfb).mono ?_;rintro e w5 ⟨rfl,hb5⟩)
     have hb5:=hb5.ofDr
     have hO2:=hO.on hb5
     have hV2:=hV.on hb5
     clear k0 k1 k2 k3 k4 a0 a1 a2 a3 a4 a5 a6 a7 a8 a9 a10 a11 b0 b1 b2 b3 b4 b5 b6 b7 b8 b9 b10 b11
     clear hV v0 v1 vf
     have hV:=hV2
     clear hV2
     clear hO
     have hO:=hO2
     clear hO2
     obtain⟨k0,k1,k2,k3,k4⟩:=hO.ks
     obtain⟨a0,a1,a2,a3,a4,a5,a6,a7,a8,a9,a10,a11⟩:=own12 hO.own iA (fun j _=>hVA j)
     obtain⟨b0,b1,b2,b3,b4,b5,b6,b7,b8,b9,b10,b11⟩:=own12 hO.own iB (fun j _=>hVB j)
     (have v0:w5.cell? ⟨pb,0,none⟩=some (.int .i64 p):=hV.c 0 (by decide))
     (have v1:w5.cell? ⟨pb,1,none⟩=some (.int .i64 q):=hV.c 1 (by decide))
     have vf:=hV.f
     (try go_wp2_with fail)
     refine tr hK (fun hHeld=> ?_)
     clear hK K)
    refine tq 16 hHeld ?_
    refine tq 17 hHeld ?_
    refine wpAnyH_done (by kernel_rfl) ?_ _
    go_wp2_with fail
    go_meet
    exact⟨rfl,hO,hV⟩
   case rest=>
   clear k0 k1 k2 k3 k4 a0 a1 a2 a3 a4 a5 a6 a7 a8 a9 a10 a11 b0 b1 b2 b3 b4 b5 b6 b7 b8 b9 b10 b11
   clear hO hV v0 v1 vf hev
   obtain⟨rfl,hO,hV⟩:=hcut
   cases fb with
   | false=>
     simp only[Bool.false_or,Bool.not_false,cond_true] at hR
     subst hR
     go_wp2_with fail
     refine bodyPost_ret (results_none rfl _ _ _) rfl ?_
     exact⟨rfl,hO.own,hO.fr⟩
   | true=>
     simp only[Bool.false_or,Bool.not_true,cond_false] at hR
     obtain⟨k0,k1,k2,k3,k4⟩:=hO.ks
     obtain⟨a0,a1,a2,a3,a4,a5,a6,a7,a8,a9,a10,a11⟩:=own12 hO.own iA (fun j _=>hVA j)
     (have v0:wc.cell? ⟨pb,0,none⟩=some (.int .i64 p):=hV.c 0 (by decide))
     (have v1:wc.cell? ⟨pb,1,none⟩=some (.int .i64 q):=hV.c 1 (by decide))
     have vf:=hV.f
     obtain⟨MA,hM⟩:∃ M,pushV VA (-p) (-q)=M:=⟨_,rfl⟩
     rw[hM] at hR
     go_upto_region 3 with fail
     refine wp_region_held_drew (S:=fun w'=>w'.cell? ⟨w.heap.size,0,none⟩=some (.int .i64 (A:Int))∧w'.cell? ⟨w.heap.size,1,none⟩=some (.int .i64 (B:Int))∧w'.cell? ⟨w.heap.size,2,none⟩=some (.int .i64 X)∧w'.cell? ⟨w.heap.size,3,none⟩=some (.int .i64 Y)∧w'.cell? ⟨w.heap.size,4,none⟩=some (.int .i64 D)∧w'.cell? ⟨pb,0,none⟩=some (.int .i64 p)∧w'.cell? ⟨pb,1,none⟩=some (.int .i64 q)) (by kernel_rfl) ?_ (fun hHeld=> ?_)
     · (try dsimp only)
       (first|(go_simp;done)|(go_keep;done))
     refine tq 0 hHeld ?_
     refine tq 1 hHeld ?_
     refine tq 2 hHeld ?_
     refine tq 3 hHeld ?_
     refine tq 4 hHeld ?_
     refine tq 5 hHeld ?_
     refine tq 6 hHeld ?_
     refine tq 8 hHeld ?_
     refine tq 9 hHeld ?_
     refine tq 10 hHeld ?_
     refine tq 11 hHeld ?_
     refine tq 12 hHeld ?_
     refine tq 13 hHeld ?_
     refine tq 14 hHeld ?_
     refine tc 7 fun K hK=> ?_
     (go_simp
      refine tr hK (fun hHeld=> ?_)
      clear hK K)
     refine tc 15 fun K hK=> ?_
     (go_simp
      (go_at_call 106;refine(l6Push_any VA (-p) (-q) _ b6A b7A hbpn hbqn).mono ?_;rintro e wm ⟨rfl,hbm⟩;(try rw[hM]))
      have hbm:=hbm.ofDr
      have hO2:=hO.on hbm
      have hV2:=hV.on hbm
      clear k0 k1 k2 k3 k4 a0 a1 a2 a3 a4 a5 a6 a7 a8 a9 a10 a11
      clear hV v0 v1 vf
      have hV:=hV2
      clear hV2
      clear hO
      have hO:=hO2
      clear hO2
      obtain⟨k0,k1,k2,k3,k4⟩:=hO.ks
      obtain⟨a0,a1,a2,a3,a4,a5,a6,a7,a8,a9,a10,a11⟩:=own12 hO.own iA (fun j _=>hVA j)
      (have v0:wm.cell? ⟨pb,0,none⟩=some (.int .i64 p):=hV.c 0 (by decide))
      (have v1:wm.cell? ⟨pb,1,none⟩=some (.int .i64 q):=hV.c 1 (by decide))
      have vf:=hV.f
      have umf:=hO.own.fro
      (try go_wp2_with fail)
      refine tr hK (fun hHeld=> ?_)
      clear hK K)
     refine tq 16 hHeld ?_
     refine tc 17 fun K hK=> ?_
     (go_simp
      have hq:=put12 hO.own hA MA
      have hfq:=putFr (w4:=wm) (g:=g) (p:=A) MA
      have hO2:=hO.put hfq hgl hq
      have hV2:=hV.fr hfq (by omega)
      clear k0 k1 k2 k3 k4 a0 a1 a2 a3 a4 a5 a6 a7 a8 a9 a10 a11 umf hfq hq
      clear hV v0 v1 vf
      have hV:=hV2
      clear hV2
      clear hO
      have hO:=hO2
      clear hO2
      generalize ((((((((((((wm.setCell ⟨g,A*12,none⟩ (.int .i64 (MA 0))).setCell ⟨g,A*12+1,none⟩ (.int .i64 (MA 1))).setCell ⟨g,A*12+2,none⟩ (.int .i64 (MA 2))).setCell ⟨g,A*12+3,none⟩ (.int .i64 (MA 3))).setCell ⟨g,A*12+4,none⟩ (.int .i64 (MA 4))).setCell ⟨g,A*12+5,none⟩ (.int .i64 (MA 5))).setCell ⟨g,A*12+6,none⟩ (.int .i64 (MA 6))).setCell ⟨g,A*12+7,none⟩ (.int .i64 (MA 7))).setCell ⟨g,A*12+8,none⟩ (.int .i64 (MA 8))).setCell ⟨g,A*12+9,none⟩ (.int .i64 (MA 9))).setCell ⟨g,A*12+10,none⟩ (.int .i64 (MA 10))).setCell ⟨g,A*12+11,none⟩ (.int .i64 (MA 11)))=w8 at hO hV ⊢
      obtain⟨k0,k1,k2,k3,k4⟩:=hO.ks
      (have v0:w8.cell? ⟨pb,0,none⟩=some (.int .i64 p):=hV.c 0 (by decide))
      (have v1:w8.cell? ⟨pb,1,none⟩=some (.int .i64 q):=hV.c 1 (by decide))
      have vf:=hV.f
      refine tr hK (fun hHeld=> ?_)
      clear hK K)
     refine wpAnyH_done (by kernel_rfl) ?_ _
     have hVB':∀ j,j<12→putRow U A MA (B*12+j)=VB j:=fun j hj=>(putRow_else (fun e=>hAB e.symm) hj).trans (hVB j)
     clear hM
     obtain⟨b0,b1,b2,b3,b4,b5,b6,b7,b8,b9,b10,b11⟩:=own12 hO.own iB hVB'
     obtain⟨MB,hM⟩:∃ M,pushV VB p q=M:=⟨_,rfl⟩
     rw[hM] at hR
     go_upto_region 4 with fail
     refine wp_region_held_drew (S:=fun w'=>w'.cell? ⟨w.heap.size,0,none⟩=some (.int .i64 (A:Int))∧w'.cell? ⟨w.heap.size,1,none⟩=some (.int .i64 (B:Int))∧w'.cell? ⟨w.heap.size,2,none⟩=some (.int .i64 X)∧w'.cell? ⟨w.heap.size,3,none⟩=some (.int .i64 Y)∧w'.cell? ⟨w.heap.size,4,none⟩=some (.int .i64 D)∧w'.cell? ⟨pb,0,none⟩=some (.int .i64 p)∧w'.cell? ⟨pb,1,none⟩=some (.int .i64 q)) (by kernel_rfl) ?_ (fun hHeld=> ?_)
     · (try dsimp only)
       (first|(go_simp;done)|(go_keep;done))
     refine tq 0 hHeld ?_
     refine tq 1 hHeld ?_
     refine tq 2 hHeld ?_
     refine tq 3 hHeld ?_
     refine tq 4 hHeld ?_
     refine tq 5 hHeld ?_
     refine tq 6 hHeld ?_
     refine tq 8 hHeld ?_
     refine tc 7 fun K hK=> ?_
     (go_simp
      refine tr hK (fun hHeld=> ?_)
      clear hK K)
     refine tc 9 fun K hK=> ?_
     (go_simp
      (go_at_call 106;refine(l6Push_any VB p q _ b6B b7B bp bq).mono ?_;rintro e wm ⟨rfl,hbm⟩;(try rw[hM]))
      have hbm:=hbm.ofDr
      have hO2:=hO.on hbm
      have hV2:=hV.on hbm
      clear k0 k1 k2 k3 k4 b0 b1 b2 b3 b4 b5 b6 b7 b8 b9 b10 b11
      clear hV v0 v1 vf
      have hV:=hV2
      clear hV2
      clear hO
      have hO:=hO2
      clear hO2
      obtain⟨k0,k1,k2,k3,k4⟩:=hO.ks
      obtain⟨b0,b1,b2,b3,b4,b5,b6,b7,b8,b9,b10,b11⟩:=own12 hO.own iB hVB'
      (have v0:wm.cell? ⟨pb,0,none⟩=some (.int .i64 p):=hV.c 0 (by decide))
      (have v1:wm.cell? ⟨pb,1,none⟩=some (.int .i64 q):=hV.c 1 (by decide))
      have vf:=hV.f
      have umf:=hO.own.fro
      (try go_wp2_with fail)
      refine tr hK (fun hHeld=> ?_)
      clear hK K)
     refine tq 10 hHeld ?_
     refine tc 11 fun K hK=> ?_
     (go_simp
      have hq:=put12 hO.own hB MB
      have hfq:=putFr (w4:=wm) (g:=g) (p:=B) MB
      have hO2:=hO.put hfq hgl hq
      have hV2:=hV.fr hfq (by omega)
      clear k0 k1 k2 k3 k4 b0 b1 b2 b3 b4 b5 b6 b7 b8 b9 b10 b11 umf hfq hq
      clear hV v0 v1 vf
      have hV:=hV2
      clear hV2
      clear hO
      have hO:=hO2
      clear hO2
      generalize ((((((((((((wm.setCell ⟨g,B*12,none⟩ (.int .i64 (MB 0))).setCell ⟨g,B*12+1,none⟩ (.int .i64 (MB 1))).setCell ⟨g,B*12+2,none⟩ (.int .i64 (MB 2))).setCell ⟨g,B*12+3,none⟩ (.int .i64 (MB 3))).setCell ⟨g,B*12+4,none⟩ (.int .i64 (MB 4))).setCell ⟨g,B*12+5,none⟩ (.int .i64 (MB 5))).setCell ⟨g,B*12+6,none⟩ (.int .i64 (MB 6))).setCell ⟨g,B*12+7,none⟩ (.int .i64 (MB 7))).setCell ⟨g,B*12+8,none⟩ (.int .i64 (MB 8))).setCell ⟨g,B*12+9,none⟩ (.int .i64 (MB 9))).setCell ⟨g,B*12+10,none⟩ (.int .i64 (MB 10))).setCell ⟨g,B*12+11,none⟩ (.int .i64 (MB 11)))=w9 at hO hV ⊢
      obtain⟨k0,k1,k2,k3,k4⟩:=hO.ks
      (have v0:w9.cell? ⟨pb,0,none⟩=some (.int .i64 p):=hV.c 0 (by decide))
      (have v1:w9.cell? ⟨pb,1,none⟩=some (.int .i64 q):=hV.c 1 (by decide))
      have vf:=hV.f
      refine tr hK (fun hHeld=> ?_)
      clear hK K)
     refine wpAnyH_done (by kernel_rfl) ?_ _
     go_wp2_with fail
     go_end0
     exact⟨rfl,by rw[←hR];exact hO.own,hO.fr⟩
end Go.Proofs.YtbdbbdjifgpgeaaGreat
