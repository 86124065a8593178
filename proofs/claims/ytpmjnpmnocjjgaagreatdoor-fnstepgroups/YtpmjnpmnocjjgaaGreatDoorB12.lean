/- Texts of a proof. -/
import Derived.Test.YtpmjnpmnocjjgaaGreatDoorB7
import Derived.Deep.RegionHeld3
import Derived.Deep.DeepCutAuto
import Derived.Test.YtpmjnpmnocjjgaaGreatDoorB9
import Derived.Test.YtpmjnpmnocjjgaaGreatDoorB2
set_option maxHeartbeats 16000000
set_option maxRecDepth 20000
namespace Go.Proofs.YtpmjnpmnocjjgaaGreatDoor
open Go.RowKit
set_option linter.unusedVariables false
set_option linter.unusedSimpArgs false
def colOf (U:Nat→Int):Nat→Nat→Int:=fun i k=>U (k*12+i)
theorem snoc_col (U:Nat→Int) (n:Nat) {i k:Nat} (hk:k<n+1):snocC n (colOf U) (fun j=>U (n*12+j)) i k=colOf U i k:=by
 unfold snocC snoc colOf
 by_cases e:k=n
 · rw[if_pos e,e]
 · rw[if_neg e]
theorem rowsOf_any (a:Option Addr) (n c:Nat) (U:Nat→Int) (w:World) (h:Flat w a (n*12) U) (hn:n≤1048575):
 Calls Tryz.prog 40 #[.slice a n c] w fun e w'=>e= .returned (.pointer (some ⟨w.heap.size,0,none⟩))∧Below w.heap.size w w'∧∃ S,Cs w' w.heap.size n (colOf U) S:=by
 have hset:=cset_map
 go_enter Tryz.func40,Tryz.ntmps40
 go_wp2
 go_loopw [5,10] (fun _ i wr=>∃ k:Nat,k≤n∧i= .int .i64 (k:Int)∧Below w.heap.size w wr∧∃ S,Cs wr w.heap.size k (colOf U) S) (fun _ i _=>n-(intOf i).toNat)
 case atStart=>
  refine⟨0,Nat.zero_le _,rfl,(Below.refl _ _).alloc (Nat.le_refl _) _,fun _=> .slice none 0 0,fun i hi=> ?_,fun i hi=> ?_,fun i hi=>OwnL.nil _ _ _ _ _,(fun _ _ _ e=>by cases e),(fun _ _ _ _ _ _ e=>by cases e)⟩
  · rcases(show i=0∨i=1∨i=2∨i=3∨i=4∨i=5∨i=6∨i=7∨i=8∨i=9∨i=10∨i=11 by omega) with rfl|rfl|rfl|rfl|rfl|rfl|rfl|rfl|rfl|rfl|rfl|rfl<;>go_simp
  · go_simp
 case round=>
  obtain⟨k,hk,rfl,hB,S,hC⟩:=hrel
  by_cases hlt:k<n
  · obtain⟨b,o,rfl,hbl,hc⟩:=h (by omega)
    have hc':∀ q,q<n*12→wr.cell? ⟨b,o+q,none⟩=some (.int .i64 (U q)):=fun q hq=>(hB.cell (p:=⟨b,o+q,none⟩) hbl).trans (hc q hq)
    clear hc
    have c0:=hc' (k*12) (by omega)
    have c1:=hc' (k*12+1) (by omega)
    have c2:=hc' (k*12+2) (by omega)
    have c3:=hc' (k*12+3) (by omega)
    have c4:=hc' (k*12+4) (by omega)
    have c5:=hc' (k*12+5) (by omega)
    have c6:=hc' (k*12+6) (by omega)
    have c7:=hc' (k*12+7) (by omega)
    have c8:=hc' (k*12+8) (by omega)
    have c9:=hc' (k*12+9) (by omega)
    have c10:=hc' (k*12+10) (by omega)
    have c11:=hc' (k*12+11) (by omega)
    simp only[←Nat.add_assoc] at c0 c1 c2 c3 c4 c5 c6 c7 c8 c9 c10 c11
    clear hc'
    go_upto_region 5 with fail
    have hE:Below wr.heap.size wr (wr.alloc (Obj.cells #[.int .i64 (U (k*12)),.int .i64 (U (k*12+1)),.int .i64 (U (k*12+2)),.int .i64 (U (k*12+3)),.int .i64 (U (k*12+4)),.int .i64 (U (k*12+5)),.int .i64 (U (k*12+6)),.int .i64 (U (k*12+7)),.int .i64 (U (k*12+8)),.int .i64 (U (k*12+9)),.int .i64 (U (k*12+10)),.int .i64 (U (k*12+11))] 35)):=(Below.refl _ _).alloc (Nat.le_refl _) _
    have hB2:=hB.trans (hE.mono hB.size)
    have hC2:=hC.below hE
    have x0:(wr.alloc (Obj.cells #[.int .i64 (U (k*12)),.int .i64 (U (k*12+1)),.int .i64 (U (k*12+2)),.int .i64 (U (k*12+3)),.int .i64 (U (k*12+4)),.int .i64 (U (k*12+5)),.int .i64 (U (k*12+6)),.int .i64 (U (k*12+7)),.int .i64 (U (k*12+8)),.int .i64 (U (k*12+9)),.int .i64 (U (k*12+10)),.int .i64 (U (k*12+11))] 35)).cell? ⟨wr.heap.size,0,none⟩=some (.int .i64 (U (k*12))):=by go_simp
    have x1:(wr.alloc (Obj.cells #[.int .i64 (U (k*12)),.int .i64 (U (k*12+1)),.int .i64 (U (k*12+2)),.int .i64 (U (k*12+3)),.int .i64 (U (k*12+4)),.int .i64 (U (k*12+5)),.int .i64 (U (k*12+6)),.int .i64 (U (k*12+7)),.int .i64 (U (k*12+8)),.int .i64 (U (k*12+9)),.int .i64 (U (k*12+10)),.int .i64 (U (k*12+11))] 35)).cell? ⟨wr.heap.size,1,none⟩=some (.int .i64 (U (k*12+1))):=by go_simp
    have x2:(wr.alloc (Obj.cells #[.int .i64 (U (k*12)),.int .i64 (U (k*12+1)),.int .i64 (U (k*12+2)),.int .i64 (U (k*12+3)),.int .i64 (U (k*12+4)),.int .i64 (U (k*12+5)),.int .i64 (U (k*12+6)),.int .i64 (U (k*12+7)),.int .i64 (U (k*12+8)),.int .i64 (U (k*12+9)),.int .i64 (U (k*12+10)),.int .i64 (U (k*12+11))] 35)).cell? ⟨wr.heap.size,2,none⟩=some (.int .i64 (U (k*12+2))):=by go_simp
    have x3:(wr.alloc (Obj.cells #[.int .i64 (U (k*12)),.int .i64 (U (k*12+1)),.int .i64 (U (k*12+2)),.int .i64 (U (k*12+3)),.int .i64 (U (k*12+4)),.int .i64 (U (k*12+5)),.int .i64 (U (k*12+6)),.int .i64 (U (k*12+7)),.int .i64 (U (k*12+8)),.int .i64 (U (k*12+9)),.int .i64 (U (k*12+10)),.int .i64 (U (k*12+11))] 35)).cell? ⟨wr.heap.size,3,none⟩=some (.int .i64 (U (k*12+3))):=by go_simp
    have x4:(wr.alloc (Obj.cells #[.int .i64 (U (k*12)),.int .i64 (U (k*12+1)),.int .i64 (U (k*12+2)),.int .i64 (U (k*12+3)),.int .i64 (U (k*12+4)),.int .i64 (U (k*12+5)),.int .i64 (U (k*12+6)),.int .i64 (U (k*12+7)),.int .i64 (U (k*12+8)),.int .i64 (U (k*12+9)),.int .i64 (U (k*12+10)),.int .i64 (U (k*12+11))] 35)).cell? ⟨wr.heap.size,4,none⟩=some (.int .i64 (U (k*12+4))):=by go_simp
    have x5:(wr.alloc (Obj.cells #[.int .i64 (U (k*12)),.int .i64 (U (k*12+1)),.int .i64 (U (k*12+2)),.int .i64 (U (k*12+3)),.int .i64 (U (k*12+4)),.int .i64 (U (k*12+5)),.int .i64 (U (k*12+6)),.int .i64 (U (k*12+7)),.int .i64 (U (k*12+8)),.int .i64 (U (k*12+9)),.int .i64 (U (k*12+10)),.int .i64 (U (k*12+11))] 35)).cell? ⟨wr.heap.size,5,none⟩=some (.int .i64 (U (k*12+5))):=by go_simp
    have x6:(wr.alloc (Obj.cells #[.int .i64 (U (k*12)),.int .i64 (U (k*12+1)),.int .i64 (U (k*12+2)),.int .i64 (U (k*12+3)),.int .i64 (U (k*12+4)),.int .i64 (U (k*12+5)),.int .i64 (U (k*12+6)),.int .i64 (U (k*12+7)),.int .i64 (U (k*12+8)),.int .i64 (U (k*12+9)),.int .i64 (U (k*12+10)),.int .i64 (U (k*12+11))] 35)).cell? ⟨wr.heap.size,6,none⟩=some (.int .i64 (U (k*12+6))):=by go_simp
    have x7:(wr.alloc (Obj.cells #[.int .i64 (U (k*12)),.int .i64 (U (k*12+1)),.int .i64 (U (k*12+2)),.int .i64 (U (k*12+3)),.int .i64 (U (k*12+4)),.int .i64 (U (k*12+5)),.int .i64 (U (k*12+6)),.int .i64 (U (k*12+7)),.int .i64 (U (k*12+8)),.int .i64 (U (k*12+9)),.int .i64 (U (k*12+10)),.int .i64 (U (k*12+11))] 35)).cell? ⟨wr.heap.size,7,none⟩=some (.int .i64 (U (k*12+7))):=by go_simp
    have x8:(wr.alloc (Obj.cells #[.int .i64 (U (k*12)),.int .i64 (U (k*12+1)),.int .i64 (U (k*12+2)),.int .i64 (U (k*12+3)),.int .i64 (U (k*12+4)),.int .i64 (U (k*12+5)),.int .i64 (U (k*12+6)),.int .i64 (U (k*12+7)),.int .i64 (U (k*12+8)),.int .i64 (U (k*12+9)),.int .i64 (U (k*12+10)),.int .i64 (U (k*12+11))] 35)).cell? ⟨wr.heap.size,8,none⟩=some (.int .i64 (U (k*12+8))):=by go_simp
    have x9:(wr.alloc (Obj.cells #[.int .i64 (U (k*12)),.int .i64 (U (k*12+1)),.int .i64 (U (k*12+2)),.int .i64 (U (k*12+3)),.int .i64 (U (k*12+4)),.int .i64 (U (k*12+5)),.int .i64 (U (k*12+6)),.int .i64 (U (k*12+7)),.int .i64 (U (k*12+8)),.int .i64 (U (k*12+9)),.int .i64 (U (k*12+10)),.int .i64 (U (k*12+11))] 35)).cell? ⟨wr.heap.size,9,none⟩=some (.int .i64 (U (k*12+9))):=by go_simp
    have x10:(wr.alloc (Obj.cells #[.int .i64 (U (k*12)),.int .i64 (U (k*12+1)),.int .i64 (U (k*12+2)),.int .i64 (U (k*12+3)),.int .i64 (U (k*12+4)),.int .i64 (U (k*12+5)),.int .i64 (U (k*12+6)),.int .i64 (U (k*12+7)),.int .i64 (U (k*12+8)),.int .i64 (U (k*12+9)),.int .i64 (U (k*12+10)),.int .i64 (U (k*12+11))] 35)).cell? ⟨wr.heap.size,10,none⟩=some (.int .i64 (U (k*12+10))):=by go_simp
    have x11:(wr.alloc (Obj.cells #[.int .i64 (U (k*12)),.int .i64 (U (k*12+1)),.int .i64 (U (k*12+2)),.int .i64 (U (k*12+3)),.int .i64 (U (k*12+4)),.int .i64 (U (k*12+5)),.int .i64 (U (k*12+6)),.int .i64 (U (k*12+7)),.int .i64 (U (k*12+8)),.int .i64 (U (k*12+9)),.int .i64 (U (k*12+10)),.int .i64 (U (k*12+11))] 35)).cell? ⟨wr.heap.size,11,none⟩=some (.int .i64 (U (k*12+11))):=by go_simp
    generalize (wr.alloc (Obj.cells #[.int .i64 (U (k*12)),.int .i64 (U (k*12+1)),.int .i64 (U (k*12+2)),.int .i64 (U (k*12+3)),.int .i64 (U (k*12+4)),.int .i64 (U (k*12+5)),.int .i64 (U (k*12+6)),.int .i64 (U (k*12+7)),.int .i64 (U (k*12+8)),.int .i64 (U (k*12+9)),.int .i64 (U (k*12+10)),.int .i64 (U (k*12+11))] 35))=wx at hE hB2 hC2 x0 x1 x2 x3 x4 x5 x6 x7 x8 x9 x10 x11 ⊢
    clear c0 c1 c2 c3 c4 c5 c6 c7 c8 c9 c10 c11 hE hC hB
    go_wp2_with (go_at_call 48;refine(add_any w.heap.size k (colOf U) (fun j=>U (k*12+j)) S _ hC2 (by omega)).mono ?_;rintro e w1 ⟨rfl,S1,hC1,hF1⟩)
    go_roundw
    case rel=>exact⟨k+1,by omega,by go_num,hB2.trans (hF1.below hB2.size (fun x q=>q.elim (fun q=>Nat.le_of_eq q.symm) (fun q=>Nat.le_of_lt (hC2.xlt q).1))),S1,hC1.congr fun i q _ hq=>snoc_col U k hq⟩
    case measure=>simp[intOf];omega
  · go_wp2
    go_ret
    obtain rfl:k=n:=by omega
    exact⟨rfl,hB,S,hC⟩
theorem kSetQuiet {cb n k:Nat} {C:Nat→Nat→Int} {S:Nat→Value} {w:World} (h:Cs w cb n C S) (hk:k<n) (hn:n≤1048576) (y:Int):
 Calls Tryz.prog 131 #[hdk cb k,.int .i64 y] w fun e w'=>e= .returned (.tuple #[])∧Cs w' cb n (setC C 11 k y) S∧Fr (Xc S) w w':=by
 have hset:=cset_map
 have l1:=h.lt
 have hkn:(k:Int)<(n:Int):=by omega
 obtain⟨g11,c11,e11,hc11,hv11,hf11,l11g,lc11⟩:=h.at (i:=11) (by omega) hk
 go_enter Tryz.func131,Tryz.ntmps131
 go_upto_region 1 with fail
 refine wp_region_held_drew (S:=fun w'=>w'.cell? ⟨w.heap.size,0,none⟩=some (.int .i64 (k:Int))∧w'.cell? ⟨w.heap.size,1,none⟩=some (.pointer (some ⟨cb,0,none⟩))∧w'.cell? ⟨cb,11,none⟩=some (.slice (some ⟨g11,0,none⟩) n c11)) (by kernel_rfl) ?_ (fun hHeld=> ?_)
 · (try dsimp only)
   (first|(go_simp;done)|(go_keep;done))
 refine tq 0 hHeld ?_
 refine tq 1 hHeld ?_
 refine tq 2 hHeld ?_
 refine tq 3 hHeld ?_
 refine tq 4 hHeld ?_
 refine tq 5 hHeld ?_
 refine tq 6 hHeld ?_
 refine tq 7 hHeld ?_
 refine tq 8 hHeld ?_
 (refine tc 9 fun K hK=> ?_;go_simp;refine tr hK (fun hHeld=> ?_);clear hK K)
 refine wpAnyH_done (by kernel_rfl) ?_ _
 go_wp2_with fail
 go_end0
 have hE:Below (w.setCell ⟨g11,k,none⟩ (.int .i64 y)).heap.size (w.setCell ⟨g11,k,none⟩ (.int .i64 y)) ((w.setCell ⟨g11,k,none⟩ (.int .i64 y)).alloc (Obj.cells #[.int .i64 (k:Int),.pointer (some ⟨cb,0,none⟩)] 76)).drew:=bel_a
 exact⟨rfl,(h.set (i:=11) (by omega) hk e11 y).below hE,((Fr.refl (Xc S) w).trans (Fr.setCell (X:=Xc S) (p:=⟨g11,k,none⟩) ⟨11,by omega,by rw[e11];rfl⟩ (.int .i64 y))).trans (Fr.of_below hE)⟩
theorem kSetDrive {cb n k:Nat} {C:Nat→Nat→Int} {S:Nat→Value} {w:World} (h:Cs w cb n C S) (hk:k<n) (hn:n≤1048576) (x y:Int):
 Calls Tryz.prog 135 #[hdk cb k,vv x y] w fun e w'=>e= .returned (.tuple #[])∧Cs w' cb n (setC (setC C 6 k x) 7 k y) S∧Fr (Xc S) w w':=by
 have hset:=cset_map
 have l1:=h.lt
 have hkn:(k:Int)<(n:Int):=by omega
 obtain⟨g6,c6,e6,hc6,hv6,hf6,l6g,lc6⟩:=h.at (i:=6) (by omega) hk
 obtain⟨g7,c7,e7,hc7,hv7,hf7,l7g,lc7⟩:=h.at (i:=7) (by omega) hk
 have ne:g6≠g7:=fun q=>h.dis 6 7 (by omega) (by omega) (by omega) g6 (by rw[e6];rfl) (by rw[e7,q];rfl)
 go_enter Tryz.func135,Tryz.ntmps135
 go_upto_region 1 with fail
 refine wp_region_held_drew (S:=fun w'=>w'.cell? ⟨w.heap.size,0,none⟩=some (.int .i64 (k:Int))∧w'.cell? ⟨w.heap.size,1,none⟩=some (.pointer (some ⟨cb,0,none⟩))∧w'.cell? ⟨cb,6,none⟩=some (.slice (some ⟨g6,0,none⟩) n c6)∧w'.cell? ⟨cb,7,none⟩=some (.slice (some ⟨g7,0,none⟩) n c7)∧w'.cell? ⟨w.heap.size+1,0,none⟩=some (.int .i64 x)∧w'.cell? ⟨w.heap.size+1,1,none⟩=some (.int .i64 y)) (by kernel_rfl) ?_ (fun hHeld=> ?_)
 · (try dsimp only)
   (first|(go_simp;done)|(go_keep;done))
 refine tq 0 hHeld ?_
 refine tq 1 hHeld ?_
 refine tq 2 hHeld ?_
 refine tq 3 hHeld ?_
 refine tq 4 hHeld ?_
 refine tq 5 hHeld ?_
 refine tq 6 hHeld ?_
 refine tq 7 hHeld ?_
 refine tq 8 hHeld ?_
 refine tq 9 hHeld ?_
 refine tq 10 hHeld ?_
 refine tq 11 hHeld ?_
 refine tq 12 hHeld ?_
 refine tq 13 hHeld ?_
 refine tq 14 hHeld ?_
 refine tq 15 hHeld ?_
 refine tq 16 hHeld ?_
 refine tq 17 hHeld ?_
 refine tq 18 hHeld ?_
 (refine tc 19 fun K hK=> ?_;go_simp;refine tr hK (fun hHeld=> ?_);clear hK K)
 refine tq 20 hHeld ?_
 (refine tc 21 fun K hK=> ?_;go_simp;refine tr hK (fun hHeld=> ?_);clear hK K)
 refine wpAnyH_done (by kernel_rfl) ?_ _
 go_wp2_with fail
 go_end0
 have hE:Below ((w.setCell ⟨g6,k,none⟩ (.int .i64 x)).setCell ⟨g7,k,none⟩ (.int .i64 y)).heap.size ((w.setCell ⟨g6,k,none⟩ (.int .i64 x)).setCell ⟨g7,k,none⟩ (.int .i64 y)) ((((w.setCell ⟨g6,k,none⟩ (.int .i64 x)).setCell ⟨g7,k,none⟩ (.int .i64 y)).alloc (Obj.cells #[.int .i64 (k:Int),.pointer (some ⟨cb,0,none⟩)] 76)).alloc (Obj.cells #[.int .i64 x,.int .i64 y] 119)).drew:=bel_a
 exact⟨rfl,((h.set (i:=6) (by omega) hk e6 x).set (i:=7) (by omega) hk e7 y).below hE,(((Fr.refl (Xc S) w).trans (Fr.setCell (X:=Xc S) (p:=⟨g6,k,none⟩) ⟨6,by omega,by rw[e6];rfl⟩ (.int .i64 x))).trans (Fr.setCell (X:=Xc S) (p:=⟨g7,k,none⟩) ⟨7,by omega,by rw[e7];rfl⟩ (.int .i64 y))).trans (Fr.of_below hE)⟩
end Go.Proofs.YtpmjnpmnocjjgaaGreatDoor
namespace Go.Proofs.YtpmjnpmnocjjgaaGreatDoor
open Go.RowKit
set_option linter.unusedVariables false
def lvK (U:Nat→Int) (k:Nat):Bool:= !decide (U (k*12+8)=0)&& !decide (U (k*12+11)=8)
def ItV (P:Program) (gf:Nat) (bound:Array Value) (encs:Nat→Array Value) (Col:(Nat→Int)→World→Prop) (nn:Nat) (w:World):Prop:=
 ∀ (l:Nat) (J:Nat→(Nat→Int)→World→Prop) (U0:Nat→Int) (W:World),Below w.heap.size w W→
   (∀ k U A A',J k U A→Sm W.heap.size A A'→J k U A')→(∀ k U A,J k U A→Col U A)→
   (∀ k U A,J k U A→k<nn→lvK U k=false→J (k+1) U A)→
   (∀ k U A,J k U A→k<nn→lvK U k=true→YieldAt Fence.wide 0 P l (encs k) A fun e A'=>e= .returned (.bool true)∧(∃ U',J (k+1) U' A')∧Kcs W.heap.size (fun _=>True) A A')→
   J 0 U0 W→CallsIn Fence.wide 0 P gf (bound++ #[.func (.yield l) #[] #[]]) W fun e A=>(∃ v,e= .returned v)∧∃ U,J nn U A
theorem wp_range_outV {P:Program} {g:Operand} {ps:Array Tmp} {assign body:Code} {Q:Exit→Act→World→Prop} {a:Act} {w:World} {gf:Nat} {bound:Array Value}
 (hg:a.eval g= .func (.func gf) bound #[]) (eg:∀ args w,(callFunc gf args).run P w= .ok (.enter gf args) w)
 {encs:Nat→Array Value} {Col:(Nat→Int)→World→Prop} {nn:Nat} (hit:ItV P gf bound encs Col nn w) (hps:∀ k,(encs k).size=ps.size)
 (I:Nat→(Nat→Int)→World→Prop) (hI:∀ k U A B,I k U A→Sm w.heap.size A B→I k U B) (hcol:∀ k U A,I k U A→Col U A) (U0:Nat→Int) (h0:I 0 U0 w)
 (hskip:∀ k U A,I k U A→k<nn→lvK U k=false→I (k+1) U A)
 (hround:∀ l k U W,w.heap.size≤l→l<w.heap.size+2→w.heap.size+2≤W.heap.size→I k U W→k<nn→lvK U k=true→
   assign.wpIn (Fence.wide.inRound l) 0 P (Exit.then (fun a₁ W₁=>KeepsFrom w.heap.size W W₁∧∀ W₂,Sm w.heap.size W₁ W₂→(∀ (B':Nat) (H':Nat→Prop),l<B'→Kcs B' H' W₁ W₂)→(∃ r,W₂.heap[l]? =some (.loop r))→
    body.wpIn (Fence.wide.inRound l) 0 P (rdPost w.heap.size (fun W'=>(∃ U',I (k+1) U' W')∧Kcs (w.heap.size+2) (fun _=>True) W W') (fun _ _=>False) W₂) a₁ W₂) (fun _ _ _=>False))
   {tmps:=(ps.zip (encs k)).foldl (fun t (p,v)=>t.setIfInBounds p v) a.tmps,defers:=[]} W)
 (hdone:∀ (D:Nat) (U:Nat→Int) (W:World),w.heap.size≤D→I nn U W→W.heap[D]? =some (.deferred (some []))→Q .normal {a with defers:={target:= .collected D,args:= #[]}::a.defers} W):
 (Code.rangeFunc g ps assign body).wp P Q a w:=by
 refine wpIn_wide.1 (wpIn_rangeFunc (n:=0) ?_)
 intro fn _
 obtain⟨rec,hrec⟩:∃ rec:LoopState→Option Code→Loop,rec=fun st pe=>{state:=st,pending:=pe,fn,tmps:=a.tmps,params:=ps,assign,body,defers:=w.heap.size}:=⟨_,rfl⟩
 obtain⟨W1,hW1⟩:∃ W1,(w.alloc (.deferred (some []))).alloc (.loop (rec .ready none))=W1:=⟨_,rfl⟩
 have hb1:Below w.heap.size w W1:=by rw[←hW1];exact((Below.refl _ w).alloc (Nat.le_refl _) _).alloc (by simp) _
 have hz1:W1.heap.size=w.heap.size+2:=by rw[←hW1];simp
 have hL1:W1.heap[w.heap.size+1]? =some (.loop (rec .ready none)):=by
  rw[←hW1];have:=World.alloc_heap_new (w.alloc (.deferred (some []))) (.loop (rec .ready none));rwa [World.size_alloc] at this
 have hK1:W1.heap[w.heap.size]? =some (.deferred (some [])):=by
  rw[←hW1];exact(Below.heap_alloc _ _ _ (by simp)).trans (World.alloc_heap_new w _)
 refine⟨w.heap.size+1,[{target:= .collected w.heap.size,args:= #[]}],W1,{target:= .fn (.func gf) #[],args:=bound++ #[.func (.yield (w.heap.size+1)) #[] #[]]},W1,gf,
  bound++ #[.func (.yield (w.heap.size+1)) #[] #[]],W1,?_,?_,fun _ _=>trivial,?_,(fun e=>by cases e),?_⟩
 · rw[←hW1,hrec];exact run_enterLoop_outer _ _ _ _ _
 · simp only[resolve,hg]
   simp[go_sem]
 · simp[invoke,go_sem,eg]
 · refine(hit (w.heap.size+1)
    (fun k U W=>I k U W∧W.heap[w.heap.size+1]? =some (.loop (rec .ready none))∧W.heap[w.heap.size]? =some (.deferred (some []))∧w.heap.size+2≤W.heap.size)
    U0 W1 hb1 ?_ ?_ ?_ ?_ ⟨hI _ _ _ _ h0 (Sm.of_below hb1 (Nat.le_refl _)),hL1,hK1,by omega⟩).mono ?_
   · rintro k U A B ⟨h1,h2,h3,h4⟩ hb
     rw[hz1] at hb
     exact⟨hI _ _ _ _ h1 ⟨hb.below.mono (by omega),hb.cells⟩,(hb.below.block _ (by omega)).trans h2,(hb.below.block _ (by omega)).trans h3,Nat.le_trans h4 hb.size⟩
   · rintro k U A ⟨h1,_⟩
     exact hcol _ _ _ h1
   · rintro k U A ⟨h1,h2,h3,h4⟩ hk hl
     exact⟨hskip _ _ _ h1 hk hl,h2,h3,h4⟩
   · rintro k U W ⟨h1,h2,h3,h4⟩ hk hlv
     rw[hz1]
     refine(yield_roundS (P:=P) (ps:=ps) (assign:=assign) (body:=body) (a:=a) (B:=w.heap.size) (l:=w.heap.size+1) (dl:=w.heap.size) (fn:=fn) (args:=encs k) (hps k)
      (I':=fun W'=>(∃ U',I (k+1) U' W')∧Kcs (w.heap.size+2) (fun _=>True) W W')
      (fun A r o h hl=>⟨h.1.imp fun U' h=>hI _ _ _ _ h (Sm.putObj _ hl rfl (by omega)),h.2.trans (Kcs.putObj _ (by omega))⟩)
      (Hh:=fun W=>W.heap[w.heap.size]? =some (.deferred (some []))∧w.heap.size+2≤W.heap.size) (fun A B h hk=>⟨hk.same _ _ (Nat.le_refl _) h.1 rfl,Nat.le_trans h.2 hk.size⟩) (fun A o h=>⟨(World.putObj_heap_other (by omega)).trans h.1,by simpa [World.putObj] using h.2⟩) hrec (by omega) h2 ⟨h3,h4⟩
      (hround _ k U W (by omega) (by omega) h4 h1 hk hlv)).mono ?_
     rintro e W' ⟨e1,⟨⟨U',h1⟩,hc⟩,h2,h3,h4⟩
     exact⟨e1,⟨U',h1,h2,h3,h4⟩,hc⟩
   · rintro e W2 ⟨⟨v,rfl⟩,U,hi,hl,hk,_⟩
     exact⟨none,_,by have:=run_endLoop (P:=P) hl (by rw[hrec];simp);rw[hrec] at this;exact this,hdone _ U _ (Nat.le_refl _) (hI _ _ _ _ hi (Sm.putObj _ hl rfl (by omega))) ((World.putObj_heap_other (by omega)).trans hk)⟩
end Go.Proofs.YtpmjnpmnocjjgaaGreatDoor
