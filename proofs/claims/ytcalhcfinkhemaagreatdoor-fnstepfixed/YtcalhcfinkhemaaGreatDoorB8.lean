/- Texts of a proof. -/
import Derived.Test.YtcalhcfinkhemaaGreatDoorB6
import Derived.Deep.RegionHeld3
import Derived.Deep.DeepCutAuto
import Derived.Test.YtcalhcfinkhemaaGreatDoorB2
import Derived.Test.YtcalhcfinkhemaaGreatDoorB4
import Derived.Test.YtcalhcfinkhemaaGreatDoorB7
import Derived.LoopNIn
import Derived.LoopIn
import Derived.OwnWalkIn
set_option maxHeartbeats 16000000
set_option maxRecDepth 20000
namespace Go.Proofs.YtcalhcfinkhemaaGreatDoor
open Go.RowKit
set_option linter.unusedVariables false
set_option linter.unusedSimpArgs false
def colOf (U:Nat→Int):Nat→Nat→Int:=fun i k=>U (k*12+i)
theorem snoc_col (U:Nat→Int) (n:Nat) {i k:Nat} (hk:k<n+1):snocC n (colOf U) (fun j=>U (n*12+j)) i k=colOf U i k:=by
 unfold snocC snoc colOf
 by_cases e:k=n
 · rw[if_pos e,e]
 · rw[if_neg e]
theorem rowsOf_any (a:Option Addr) (n c:Nat) (U:Nat→Int) (w:World) (h:Flat w a (n*12) U) (hn:n≤1048575):
 Calls Tryz.prog 55 #[.slice a n c] w fun e w'=>e= .returned (.pointer (some ⟨w.heap.size,0,none⟩))∧Below w.heap.size w w'∧∃ S,Cs w' w.heap.size n (colOf U) S:=by
 have hset:=cset_map
 go_enter Tryz.func55,Tryz.ntmps55
 go_wp2
 go_loopw [5,10] (fun _ i wr=>∃ k:Nat,k≤n∧i= .int .i64 (k:Int)∧Below w.heap.size w wr∧∃ S,Cs wr w.heap.size k (colOf U) S) (fun _ i _=>n-(intOf i).toNat)
 case atStart=>
  refine⟨0,Nat.zero_le _,rfl,(Below.refl _ _).alloc (Nat.le_refl _) _,fun _=> .slice none 0 0,fun i hi=> ?_,fun i hi=> ?_,fun i hi=>OwnL.nil _ _ _ _ _,(fun _ _ _ e=>by cases e),(fun _ _ _ _ _ _ e=>by cases e)⟩
  · rcases(show i=0∨i=1∨i=2∨i=3∨i=4∨i=5∨i=6∨i=7∨i=8∨i=9∨i=10∨i=11 by omega) with rfl|rfl|rfl|rfl|rfl|rfl|rfl|rfl|rfl|rfl|rfl|rfl<;>go_simp
  · go_simp
 case round=>
  obtain⟨k,hk,rfl,hB,S,hC⟩:=hrel
  by_cases hlt:k<n
  · obtain⟨b,o,rfl,hbl,hc⟩:=h (by omega)
    have hc':∀ q,q<n*12→wr.cell? ⟨b,o+q,none⟩=some (.int .i64 (U q)):=fun q hq=>(hB.cell (p:=⟨b,o+q,none⟩) hbl).trans (hc q hq)
    clear hc
    have c0:=hc' (k*12) (by omega)
    have c1:=hc' (k*12+1) (by omega)
    have c2:=hc' (k*12+2) (by omega)
    have c3:=hc' (k*12+3) (by omega)
    have c4:=hc' (k*12+4) (by omega)
    have c5:=hc' (k*12+5) (by omega)
    have c6:=hc' (k*12+6) (by omega)
    have c7:=hc' (k*12+7) (by omega)
    have c8:=hc' (k*12+8) (by omega)
    have c9:=hc' (k*12+9) (by omega)
    have c10:=hc' (k*12+10) (by omega)
    have c11:=hc' (k*12+11) (by omega)
    simp only[←Nat.add_assoc] at c0 c1 c2 c3 c4 c5 c6 c7 c8 c9 c10 c11
    clear hc'
    go_upto_region 5 with fail
    have hE:Below wr.heap.size wr (wr.alloc (Obj.cells #[.int .i64 (U (k*12)),.int .i64 (U (k*12+1)),.int .i64 (U (k*12+2)),.int .i64 (U (k*12+3)),.int .i64 (U (k*12+4)),.int .i64 (U (k*12+5)),.int .i64 (U (k*12+6)),.int .i64 (U (k*12+7)),.int .i64 (U (k*12+8)),.int .i64 (U (k*12+9)),.int .i64 (U (k*12+10)),.int .i64 (U (k*12+11))] 33)):=(Below.refl _ _).alloc (Nat.le_refl _) _
    have hB2:=hB.trans (hE.mono hB.size)
    have hC2:=hC.below hE
    have x0:(wr.alloc (Obj.cells #[.int .i64 (U (k*12)),.int .i64 (U (k*12+1)),.int .i64 (U (k*12+2)),.int .i64 (U (k*12+3)),.int .i64 (U (k*12+4)),.int .i64 (U (k*12+5)),.int .i64 (U (k*12+6)),.int .i64 (U (k*12+7)),.int .i64 (U (k*12+8)),.int .i64 (U (k*12+9)),.int .i64 (U (k*12+10)),.int .i64 (U (k*12+11))] 33)).cell? ⟨wr.heap.size,0,none⟩=some (.int .i64 (U (k*12))):=by go_simp
    have x1:(wr.alloc (Obj.cells #[.int .i64 (U (k*12)),.int .i64 (U (k*12+1)),.int .i64 (U (k*12+2)),.int .i64 (U (k*12+3)),.int .i64 (U (k*12+4)),.int .i64 (U (k*12+5)),.int .i64 (U (k*12+6)),.int .i64 (U (k*12+7)),.int .i64 (U (k*12+8)),.int .i64 (U (k*12+9)),.int .i64 (U (k*12+10)),.int .i64 (U (k*12+11))] 33)).cell? ⟨wr.heap.size,1,none⟩=some (.int .i64 (U (k*12+1))):=by go_simp
    have x2:(wr.alloc (Obj.cells #[.int .i64 (U (k*12)),.int .i64 (U (k*12+1)),.int .i64 (U (k*12+2)),.int .i64 (U (k*12+3)),.int .i64 (U (k*12+4)),.int .i64 (U (k*12+5)),.int .i64 (U (k*12+6)),.int .i64 (U (k*12+7)),.int .i64 (U (k*12+8)),.int .i64 (U (k*12+9)),.int .i64 (U (k*12+10)),.int .i64 (U (k*12+11))] 33)).cell? ⟨wr.heap.size,2,none⟩=some (.int .i64 (U (k*12+2))):=by go_simp
    have x3:(wr.alloc (Obj.cells #[.int .i64 (U (k*12)),.int .i64 (U (k*12+1)),.int .i64 (U (k*12+2)),.int .i64 (U (k*12+3)),.int .i64 (U (k*12+4)),.int .i64 (U (k*12+5)),.int .i64 (U (k*12+6)),.int .i64 (U (k*12+7)),.int .i64 (U (k*12+8)),.int .i64 (U (k*12+9)),.int .i64 (U (k*12+10)),.int .i64 (U (k*12+11))] 33)).cell? ⟨wr.heap.size,3,none⟩=some (.int .i64 (U (k*12+3))):=by go_simp
    have x4:(wr.alloc (Obj.cells #[.int .i64 (U (k*12)),.int .i64 (U (k*12+1)),.int .i64 (U (k*12+2)),.int .i64 (U (k*12+3)),.int .i64 (U (k*12+4)),.int .i64 (U (k*12+5)),.int .i64 (U (k*12+6)),.int .i64 (U (k*12+7)),.int .i64 (U (k*12+8)),.int .i64 (U (k*12+9)),.int .i64 (U (k*12+10)),.int .i64 (U (k*12+11))] 33)).cell? ⟨wr.heap.size,4,none⟩=some (.int .i64 (U (k*12+4))):=by go_simp
    have x5:(wr.alloc (Obj.cells #[.int .i64 (U (k*12)),.int .i64 (U (k*12+1)),.int .i64 (U (k*12+2)),.int .i64 (U (k*12+3)),.int .i64 (U (k*12+4)),.int .i64 (U (k*12+5)),.int .i64 (U (k*12+6)),.int .i64 (U (k*12+7)),.int .i64 (U (k*12+8)),.int .i64 (U (k*12+9)),.int .i64 (U (k*12+10)),.int .i64 (U (k*12+11))] 33)).cell? ⟨wr.heap.size,5,none⟩=some (.int .i64 (U (k*12+5))):=by go_simp
    have x6:(wr.alloc (Obj.cells #[.int .i64 (U (k*12)),.int .i64 (U (k*12+1)),.int .i64 (U (k*12+2)),.int .i64 (U (k*12+3)),.int .i64 (U (k*12+4)),.int .i64 (U (k*12+5)),.int .i64 (U (k*12+6)),.int .i64 (U (k*12+7)),.int .i64 (U (k*12+8)),.int .i64 (U (k*12+9)),.int .i64 (U (k*12+10)),.int .i64 (U (k*12+11))] 33)).cell? ⟨wr.heap.size,6,none⟩=some (.int .i64 (U (k*12+6))):=by go_simp
    have x7:(wr.alloc (Obj.cells #[.int .i64 (U (k*12)),.int .i64 (U (k*12+1)),.int .i64 (U (k*12+2)),.int .i64 (U (k*12+3)),.int .i64 (U (k*12+4)),.int .i64 (U (k*12+5)),.int .i64 (U (k*12+6)),.int .i64 (U (k*12+7)),.int .i64 (U (k*12+8)),.int .i64 (U (k*12+9)),.int .i64 (U (k*12+10)),.int .i64 (U (k*12+11))] 33)).cell? ⟨wr.heap.size,7,none⟩=some (.int .i64 (U (k*12+7))):=by go_simp
    have x8:(wr.alloc (Obj.cells #[.int .i64 (U (k*12)),.int .i64 (U (k*12+1)),.int .i64 (U (k*12+2)),.int .i64 (U (k*12+3)),.int .i64 (U (k*12+4)),.int .i64 (U (k*12+5)),.int .i64 (U (k*12+6)),.int .i64 (U (k*12+7)),.int .i64 (U (k*12+8)),.int .i64 (U (k*12+9)),.int .i64 (U (k*12+10)),.int .i64 (U (k*12+11))] 33)).cell? ⟨wr.heap.size,8,none⟩=some (.int .i64 (U (k*12+8))):=by go_simp
    have x9:(wr.alloc (Obj.cells #[.int .i64 (U (k*12)),.int .i64 (U (k*12+1)),.int .i64 (U (k*12+2)),.int .i64 (U (k*12+3)),.int .i64 (U (k*12+4)),.int .i64 (U (k*12+5)),.int .i64 (U (k*12+6)),.int .i64 (U (k*12+7)),.int .i64 (U (k*12+8)),.int .i64 (U (k*12+9)),.int .i64 (U (k*12+10)),.int .i64 (U (k*12+11))] 33)).cell? ⟨wr.heap.size,9,none⟩=some (.int .i64 (U (k*12+9))):=by go_simp
    have x10:(wr.alloc (Obj.cells #[.int .i64 (U (k*12)),.int .i64 (U (k*12+1)),.int .i64 (U (k*12+2)),.int .i64 (U (k*12+3)),.int .i64 (U (k*12+4)),.int .i64 (U (k*12+5)),.int .i64 (U (k*12+6)),.int .i64 (U (k*12+7)),.int .i64 (U (k*12+8)),.int .i64 (U (k*12+9)),.int .i64 (U (k*12+10)),.int .i64 (U (k*12+11))] 33)).cell? ⟨wr.heap.size,10,none⟩=some (.int .i64 (U (k*12+10))):=by go_simp
    have x11:(wr.alloc (Obj.cells #[.int .i64 (U (k*12)),.int .i64 (U (k*12+1)),.int .i64 (U (k*12+2)),.int .i64 (U (k*12+3)),.int .i64 (U (k*12+4)),.int .i64 (U (k*12+5)),.int .i64 (U (k*12+6)),.int .i64 (U (k*12+7)),.int .i64 (U (k*12+8)),.int .i64 (U (k*12+9)),.int .i64 (U (k*12+10)),.int .i64 (U (k*12+11))] 33)).cell? ⟨wr.heap.size,11,none⟩=some (.int .i64 (U (k*12+11))):=by go_simp
    generalize (wr.alloc (Obj.cells #[.int .i64 (U (k*12)),.int .i64 (U (k*12+1)),.int .i64 (U (k*12+2)),.int .i64 (U (k*12+3)),.int .i64 (U (k*12+4)),.int .i64 (U (k*12+5)),.int .i64 (U (k*12+6)),.int .i64 (U (k*12+7)),.int .i64 (U (k*12+8)),.int .i64 (U (k*12+9)),.int .i64 (U (k*12+10)),.int .i64 (U (k*12+11))] 33))=wx at hE hB2 hC2 x0 x1 x2 x3 x4 x5 x6 x7 x8 x9 x10 x11 ⊢
    clear c0 c1 c2 c3 c4 c5 c6 c7 c8 c9 c10 c11 hE hC hB
    go_wp2_with (go_at_call 80;refine(add_any w.heap.size k (colOf U) (fun j=>U (k*12+j)) S _ hC2 (by omega)).mono ?_;rintro e w1 ⟨rfl,S1,hC1,hF1⟩)
    go_roundw
    case rel=>exact⟨k+1,by omega,by go_num,hB2.trans (hF1.below hB2.size (fun x q=>q.elim (fun q=>Nat.le_of_eq q.symm) (fun q=>Nat.le_of_lt (hC2.xlt q).1))),S1,hC1.congr fun i q _ hq=>snoc_col U k hq⟩
    case measure=>simp[intOf];omega
  · go_wp2
    go_ret
    obtain rfl:k=n:=by omega
    exact⟨rfl,hB,S,hC⟩
theorem kOk_any {cb n k:Nat} {V:Nat→Int} {G:Nat→Nat} {w:World} (h:HAt w cb n k V G):
 Calls Tryz.prog 56 #[hdk cb k] w fun e w'=>e= .returned (.bool (bodyB V))∧Below w.heap.size w w':=by
 unfold bodyB
 generalize k0:decide (0≤V 0∧V 0≤999999999)=b0
 generalize k1:shB (V 1) (V 2) (V 3)=b1
 generalize k2:inB 2560000 (V 4) (V 5)=b2
 generalize k3:inB 20000000 (V 6) (V 7)=b3
 generalize k4:decide (0≤V 8∧V 8≤1000)=b4
 generalize k5:decide (0≤V 9∧V 9≤256)=b5
 generalize k6:decide (0≤V 10∧V 10≤256)=b6
 generalize k7:decide (0≤V 11∧V 11≤8)=b7
 generalize k8:restB V=b8
 have hset:=cset_map
 have l1:=h.cbl
 have hkn:=h.kn
 have hnl:=h.nl
 obtain⟨c0,hc0,hv0,_,l0g,lc0⟩:=h.col 0 (by omega)
 generalize hG0:G 0=g0 at hc0 hv0 l0g lc0
 clear hG0
 go_enter Tryz.func56,Tryz.ntmps56
 go_upto_region 1 with fail
 refine wp_region_held_drew (S:=fun w'=>w'.cell? ⟨w.heap.size,0,none⟩=some (.int .i64 (k:Int))∧w'.cell? ⟨w.heap.size,1,none⟩=some (.pointer (some ⟨cb,0,none⟩))∧w'.cell? ⟨cb,0,none⟩=some (.slice (some ⟨g0,0,none⟩) n c0)∧w'.cell? ⟨g0,k,none⟩=some (.int .i64 (V 0))) (by kernel_rfl) ?_ (fun hHeld=> ?_)
 · (try dsimp only)
   (first|(go_simp;done)|(go_keep;done))
 refine tq 0 hHeld ?_
 refine tq 1 hHeld ?_
 refine tq 2 hHeld ?_
 refine tq 3 hHeld ?_
 refine tq 4 hHeld ?_
 refine tq 5 hHeld ?_
 refine tq 6 hHeld ?_
 refine tq 7 hHeld ?_
 refine tq 8 hHeld ?_
 (refine tc 9 fun K hK=> ?_;go_simp;(go_at_call 81;refine(upTo_q _ _ _ _ (by with_reducible assumption)).mono ?_;rintro e w1 ⟨rfl,hb1⟩;have hz1:=hb1.size;(try simp only[zz] at hz1);have:=kfa hb1 w.heap.size;have:=kfa hb1 cb;have:=kfa hb1 g0);(try go_wp2_with fail);refine tr hK (fun hHeld=> ?_);clear hK K)
 refine tq 10 hHeld ?_
 all_goals first|refine tn 11 hHeld ?_|(cases b0<;>first|refine tn 11 hHeld ?_|refine tq 11 hHeld ?_)
 all_goals first|refine tn 12 hHeld ?_|(refine tc 12 fun K hK=> ?_;go_simp;(go_at_call 83;refine(kShape (HAt.below h (bel_a))).mono ?_;rintro e w2 ⟨rfl,hb2⟩;have hz2:=hb2.size;(try simp only[zz] at hz2);have:=kfa hb2 w.heap.size;have:=kfa hb2 cb;have:=kfa hb2 g0);(try go_wp2_with fail);refine tr hK (fun hHeld=> ?_);clear hK K)
 all_goals first|refine tn 13 hHeld ?_|(refine tc 13 fun K hK=> ?_;go_simp;(go_at_call 82;refine(shapeOk_q _ _ _ _ _ (by with_reducible assumption)).mono ?_;rintro e w3 ⟨rfl,hb3⟩;have hz3:=hb3.size;(try simp only[zz] at hz3);have:=kfa hb3 w.heap.size;have:=kfa hb3 cb;have:=kfa hb3 g0);(try go_wp2_with fail);refine tr hK (fun hHeld=> ?_);clear hK K)
 all_goals refine tq 14 hHeld ?_
 all_goals refine tq 15 hHeld ?_
 all_goals first|refine tn 16 hHeld ?_|(cases b1<;>first|refine tn 16 hHeld ?_|refine tq 16 hHeld ?_)
 all_goals first|refine tn 17 hHeld ?_|(refine tc 17 fun K hK=> ?_;go_simp;(go_at_call 84;refine(kAt (HAt.below h (bel_a))).mono ?_;rintro e w4 ⟨rfl,hb4⟩;have hz4:=hb4.size;(try simp only[zz] at hz4);have:=kfa hb4 w.heap.size;have:=kfa hb4 cb;have:=kfa hb4 g0);(try go_wp2_with fail);refine tr hK (fun hHeld=> ?_);clear hK K)
 all_goals first|refine tn 18 hHeld ?_|(refine tc 18 fun K hK=> ?_;go_simp;(go_at_call 85;refine(within2_q _ _ _ _ _ (by omega) (by omega) (by with_reducible assumption)).mono ?_;rintro e w5 ⟨rfl,hb5⟩;have hz5:=hb5.size;(try simp only[zz] at hz5);have:=kfa hb5 w.heap.size;have:=kfa hb5 cb;have:=kfa hb5 g0);(try go_wp2_with fail);refine tr hK (fun hHeld=> ?_);clear hK K)
 all_goals refine tq 19 hHeld ?_
 all_goals refine tq 20 hHeld ?_
 all_goals first|refine tn 21 hHeld ?_|(cases b2<;>first|refine tn 21 hHeld ?_|refine tq 21 hHeld ?_)
 all_goals first|refine tn 22 hHeld ?_|(refine tc 22 fun K hK=> ?_;go_simp;(go_at_call 86;refine(kDrive (HAt.below h (bel_a))).mono ?_;rintro e w6 ⟨rfl,hb6⟩;have hz6:=hb6.size;(try simp only[zz] at hz6);have:=kfa hb6 w.heap.size;have:=kfa hb6 cb;have:=kfa hb6 g0);(try go_wp2_with fail);refine tr hK (fun hHeld=> ?_);clear hK K)
 all_goals first|refine tn 23 hHeld ?_|(refine tc 23 fun K hK=> ?_;go_simp;(go_at_call 85;refine(within2_q _ _ _ _ _ (by omega) (by omega) (by with_reducible assumption)).mono ?_;rintro e w7 ⟨rfl,hb7⟩;have hz7:=hb7.size;(try simp only[zz] at hz7);have:=kfa hb7 w.heap.size;have:=kfa hb7 cb;have:=kfa hb7 g0);(try go_wp2_with fail);refine tr hK (fun hHeld=> ?_);clear hK K)
 all_goals refine tq 24 hHeld ?_
 all_goals refine tq 25 hHeld ?_
 all_goals first|refine tn 26 hHeld ?_|(cases b3<;>first|refine tn 26 hHeld ?_|refine tq 26 hHeld ?_)
 all_goals first|refine tn 27 hHeld ?_|(refine tc 27 fun K hK=> ?_;go_simp;(go_at_call 87;refine(kMass (HAt.below h (bel_a))).mono ?_;rintro e w8 ⟨rfl,hb8⟩;have hz8:=hb8.size;(try simp only[zz] at hz8);have:=kfa hb8 w.heap.size;have:=kfa hb8 cb;have:=kfa hb8 g0);(try go_wp2_with fail);refine tr hK (fun hHeld=> ?_);clear hK K)
 all_goals first|refine tn 28 hHeld ?_|(refine tc 28 fun K hK=> ?_;go_simp;(go_at_call 81;refine(upTo_q _ _ _ _ (by with_reducible assumption)).mono ?_;rintro e w9 ⟨rfl,hb9⟩;have hz9:=hb9.size;(try simp only[zz] at hz9);have:=kfa hb9 w.heap.size;have:=kfa hb9 cb;have:=kfa hb9 g0);(try go_wp2_with fail);refine tr hK (fun hHeld=> ?_);clear hK K)
 all_goals refine tq 29 hHeld ?_
 all_goals refine tq 30 hHeld ?_
 all_goals first|refine tn 31 hHeld ?_|(cases b4<;>first|refine tn 31 hHeld ?_|refine tq 31 hHeld ?_)
 all_goals first|refine tn 32 hHeld ?_|(refine tc 32 fun K hK=> ?_;go_simp;(go_at_call 88;refine(kBounce (HAt.below h (bel_a))).mono ?_;rintro e w10 ⟨rfl,hb10⟩;have hz10:=hb10.size;(try simp only[zz] at hz10);have:=kfa hb10 w.heap.size;have:=kfa hb10 cb;have:=kfa hb10 g0);(try go_wp2_with fail);refine tr hK (fun hHeld=> ?_);clear hK K)
 all_goals first|refine tn 33 hHeld ?_|(refine tc 33 fun K hK=> ?_;go_simp;(go_at_call 81;refine(upTo_q _ _ _ _ (by with_reducible assumption)).mono ?_;rintro e w11 ⟨rfl,hb11⟩;have hz11:=hb11.size;(try simp only[zz] at hz11);have:=kfa hb11 w.heap.size;have:=kfa hb11 cb;have:=kfa hb11 g0);(try go_wp2_with fail);refine tr hK (fun hHeld=> ?_);clear hK K)
 all_goals refine tq 34 hHeld ?_
 all_goals refine tq 35 hHeld ?_
 all_goals first|refine tn 36 hHeld ?_|(cases b5<;>first|refine tn 36 hHeld ?_|refine tq 36 hHeld ?_)
 all_goals first|refine tn 37 hHeld ?_|(refine tc 37 fun K hK=> ?_;go_simp;(go_at_call 89;refine(kRub (HAt.below h (bel_a))).mono ?_;rintro e w12 ⟨rfl,hb12⟩;have hz12:=hb12.size;(try simp only[zz] at hz12);have:=kfa hb12 w.heap.size;have:=kfa hb12 cb;have:=kfa hb12 g0);(try go_wp2_with fail);refine tr hK (fun hHeld=> ?_);clear hK K)
 all_goals first|refine tn 38 hHeld ?_|(refine tc 38 fun K hK=> ?_;go_simp;(go_at_call 81;refine(upTo_q _ _ _ _ (by with_reducible assumption)).mono ?_;rintro e w13 ⟨rfl,hb13⟩;have hz13:=hb13.size;(try simp only[zz] at hz13);have:=kfa hb13 w.heap.size;have:=kfa hb13 cb;have:=kfa hb13 g0);(try go_wp2_with fail);refine tr hK (fun hHeld=> ?_);clear hK K)
 all_goals refine tq 39 hHeld ?_
 all_goals refine tq 40 hHeld ?_
 all_goals first|refine tn 41 hHeld ?_|(cases b6<;>first|refine tn 41 hHeld ?_|refine tq 41 hHeld ?_)
 all_goals first|refine tn 42 hHeld ?_|(refine tc 42 fun K hK=> ?_;go_simp;(go_at_call 61;refine(kQuiet (HAt.below h (bel_a))).mono ?_;rintro e w14 ⟨rfl,hb14⟩;have hz14:=hb14.size;(try simp only[zz] at hz14);have:=kfa hb14 w.heap.size;have:=kfa hb14 cb;have:=kfa hb14 g0);(try go_wp2_with fail);refine tr hK (fun hHeld=> ?_);clear hK K)
 all_goals first|refine tn 43 hHeld ?_|(refine tc 43 fun K hK=> ?_;go_simp;(go_at_call 81;refine(upTo_q _ _ _ _ (by with_reducible assumption)).mono ?_;rintro e w15 ⟨rfl,hb15⟩;have hz15:=hb15.size;(try simp only[zz] at hz15);have:=kfa hb15 w.heap.size;have:=kfa hb15 cb;have:=kfa hb15 g0);(try go_wp2_with fail);refine tr hK (fun hHeld=> ?_);clear hK K)
 all_goals refine tq 44 hHeld ?_
 all_goals refine tq 45 hHeld ?_
 all_goals first|refine tn 46 hHeld ?_|(cases b7<;>first|refine tn 46 hHeld ?_|refine tq 46 hHeld ?_)
 all_goals first|refine tn 47 hHeld ?_|(refine tc 47 fun K hK=> ?_;go_simp;(go_at_call 90;refine(kRestOk (HAt.below h (bel_a)) _ (by with_reducible assumption)).mono ?_;rintro e w16 ⟨rfl,hb16⟩;have hz16:=hb16.size;(try simp only[zz] at hz16);have:=kfa hb16 w.heap.size;have:=kfa hb16 cb;have:=kfa hb16 g0);(try go_wp2_with fail);refine tr hK (fun hHeld=> ?_);clear hK K)
 all_goals refine tq 48 hHeld ?_
 all_goals refine tq 49 hHeld ?_
 all_goals
  refine wpAnyH_done (by kernel_rfl) ?_ _
  go_wp2_with fail
  go_ret
  exact⟨rfl,bel_a⟩
theorem kOk_q {cb n k:Nat} {V:Nat→Int} {G:Nat→Nat} {w:World} (h:HAt w cb n k V G) (b:Bool) (e:bodyB V=b):
 Calls Tryz.prog 56 #[hdk cb k] w fun e w'=>e= .returned (.bool b)∧Below w.heap.size w w':=by
 subst e;exact kOk_any h
def stepBB (U:Nat→Int) (k:Nat):Bool:=bodyB (fun j=>U (k*12+j))&&(decide (k=0)||decide (U ((k-1)*12)<U (k*12)))
def allBB (U:Nat→Int):Nat→Bool
 |0=>true
 |k+1=>allBB U k&&stepBB U k
theorem allBB_no {U:Nat→Int} {k:Nat} (h:stepBB U k=false):∀ n,k<n→allBB U n=false
 |0,l=>absurd l (Nat.not_lt_zero _)
 | n+1,l=>by
   unfold allBB
   rcases Nat.lt_succ_iff_lt_or_eq.1 l with l|rfl
   · rw[allBB_no h n l];rfl
   · rw[h,Bool.and_false]
def bodsB (n:Nat) (U:Nat→Int):Bool:=decide (n≤12)&&allBB U n
def CsPost (n:Nat) (U:Nat→Int) (w:World) (e:Ending) (w':World):Prop:=
 Below w.heap.size w w'∧((bodsB n U=true∧∃ cb S,e= .returned (.tuple #[.pointer (some ⟨cb,0,none⟩),.bool true])∧w.heap.size≤cb∧Cs w' cb n (colOf U) S)∨
  (bodsB n U=false∧e= .returned (.tuple #[.pointer none,.bool false])))
theorem columnsOf_any (a:Option Addr) (n c:Nat) (U:Nat→Int) (w:World) (h:Flat w a (n*12) U) (hn:n≤1048576):
 Calls Tryz.prog 27 #[.slice a n c] w (CsPost n U w):=by
 have hset:=cset_map
 by_cases h12:n≤12
 · have h12':¬ (12:Int)<(n:Int):=by omega
   refine calls_of_wp_marks Tryz.func27 rfl ?_
   simp only[Tryz.ntmps27,List.size_toArray,List.length_cons,List.length_nil,Nat.reduceAdd,Nat.reduceSub,Array.replicate_succ,Array.replicate_zero,List.push_toArray,List.append_toArray,List.nil_append,List.cons_append]
   go_wp2_with (go_at_call 55;refine(rowsOf_any a n c U _ (h.below (bel_a)) (by omega)).mono ?_;rintro e w1 ⟨rfl,hb1,S,hC⟩)
   have hz1:=hb1.size
   simp only[World.size_alloc] at hz1
   have hB:Below w.heap.size w (w1.alloc (Obj.cells #[.pointer (some ⟨w.heap.size+1+1,0,none⟩)] 50)):=((bel_a:Below w.heap.size w w1)).alloc (by omega) _
   have hw1:Below w1.heap.size w1 (w1.alloc (Obj.cells #[.pointer (some ⟨w.heap.size+1+1,0,none⟩)] 50)):=(Below.refl _ _).alloc (Nat.le_refl _) _
   have hC2:=hC.below hw1
   simp only[World.size_alloc] at hC2
   have r2:(w1.alloc (Obj.cells #[.pointer (some ⟨w.heap.size+1+1,0,none⟩)] 50)).cell? ⟨w.heap.size,0,none⟩=some (.pointer none):=(hw1.cell (p:=⟨w.heap.size,0,none⟩) (by simp;omega)).trans ((hb1.cell (p:=⟨w.heap.size,0,none⟩) (by simp;omega)).trans (by go_simp))
   have r3:(w1.alloc (Obj.cells #[.pointer (some ⟨w.heap.size+1+1,0,none⟩)] 50)).cell? ⟨w.heap.size+1,0,none⟩=some (.bool false):=(hw1.cell (p:=⟨w.heap.size+1,0,none⟩) (by simp;omega)).trans ((hb1.cell (p:=⟨w.heap.size+1,0,none⟩) (by simp)).trans (by go_simp))
   have f2:(w1.alloc (Obj.cells #[.pointer (some ⟨w.heap.size+1+1,0,none⟩)] 50)).frozen? ⟨w.heap.size,0,none⟩=false:=(hw1.frozen (p:=⟨w.heap.size,0,none⟩) (by simp;omega)).trans ((hb1.frozen (p:=⟨w.heap.size,0,none⟩) (by simp;omega)).trans (by go_simp))
   have f3:(w1.alloc (Obj.cells #[.pointer (some ⟨w.heap.size+1+1,0,none⟩)] 50)).frozen? ⟨w.heap.size+1,0,none⟩=false:=(hw1.frozen (p:=⟨w.heap.size+1,0,none⟩) (by simp;omega)).trans ((hb1.frozen (p:=⟨w.heap.size+1,0,none⟩) (by simp)).trans (by go_simp))
   have r4:(w1.alloc (Obj.cells #[.pointer (some ⟨w.heap.size+1+1,0,none⟩)] 50)).cell? ⟨w1.heap.size,0,none⟩=some (.pointer (some ⟨w.heap.size+1+1,0,none⟩)):=by go_simp
   have hz2:w1.heap.size<(w1.alloc (Obj.cells #[.pointer (some ⟨w.heap.size+1+1,0,none⟩)] 50)).heap.size:=by simp
   generalize (w1.alloc (Obj.cells #[.pointer (some ⟨w.heap.size+1+1,0,none⟩)] 50))=w2 at hB hC2 r2 r3 f2 f3 r4 hz2 ⊢
   clear hw1 hC hb1
   have hcl:=hC2.lt
   have hcb0:w.heap.size+1<w.heap.size+1+1:=by omega
   generalize w.heap.size+1+1=cb at hC2 r4 hcl hcb0 ⊢
   generalize hbv:w1.heap.size=bv at hz1 hz2 r4 ⊢
   clear hbv
   obtain⟨ad,cc,hS0⟩:=(hC2.own 0 (by omega)).is
   have hd0:=hC2.hd 0 (by omega)
   rw[hS0] at hd0
   refine wp_range_out (gf:=39) (bound:= #[.pointer (some ⟨cb,0,none⟩)]) rfl each_enters (each_it cb n _ _ w2 hcl hd0 hn) (fun _=>rfl) (fun k W=>Below w2.heap.size w2 W∧allBB U k=true)
    (fun c W=>c= .ret∧Below w.heap.size w W∧W.cell? ⟨w.heap.size,0,none⟩=some (.pointer none)∧W.cell? ⟨w.heap.size+1,0,none⟩=some (.bool false)∧bodsB n U=false) ?_ ?_ ⟨Below.refl _ _,rfl⟩ ?round ?done ?stop
   · rintro k A B ⟨h1,h2⟩ hs
     exact⟨h1.trans hs.below,h2⟩
   · rintro c A B ⟨h1,h2,h3,h4,h5⟩ hs
     exact⟨h1,h2.trans (hs.below.mono hB.size),hs.cell h3,hs.cell h4,h5⟩
   case round=>
    rintro l k W hl ⟨hbW,hall⟩ hk
    simp only[List.zip_toArray,List.zip_cons_cons,List.zip_nil_left,List.foldl_toArray,List.foldl_cons,List.foldl_nil,List.setIfInBounds_toArray,List.set_cons_succ,List.set_cons_zero]
    refine wpIn_region_plain (by rintro⟨_,_,h⟩;exact h) (by kernel_rfl) ?_
    go_wp2
    refine⟨(KeepsOthers.alloc _ _).from _,fun W2 hS hr=> ?_⟩
    have hbX:Below w2.heap.size w2 (W.alloc (Obj.cells #[.int .i64 (k:Int),.pointer (some ⟨cb,0,none⟩)] 59)):=hbW.alloc hbW.size _
    have hb2:=hbX.trans hS.below
    have hzW:=hbW.size
    have v0:W2.cell? ⟨W.heap.size,0,none⟩=some (.int .i64 (k:Int)):=hS.cell (by go_simp)
    have v1:W2.cell? ⟨W.heap.size,1,none⟩=some (.pointer (some ⟨cb,0,none⟩)):=hS.cell (by go_simp)
    have r4':W2.cell? ⟨bv,0,none⟩=some (.pointer (some ⟨cb,0,none⟩)):=(hb2.cell (p:=⟨bv,0,none⟩) hz2).trans r4
    have hC3:=hC2.below hb2
    have hz3:W.heap.size<W2.heap.size:=by have:=hS.size;simp at this;omega
    clear hS hbX hr
    have hh:=hC3.hat hk (by omega)
    obtain⟨g0,c0,e0,hd3,hv3,_,hg3,hcg⟩:=hC3.at (i:=0) (k:=k) (by omega) hk
    refine wpIn_block ?_
    refine wpIn_seq_k fun K hK=> ?_
    cases hi:bodyB (fun i=>colOf U i k) with
    | false=>
      have hno:Shut (stepBB U k=false):=by show stepBB U k=false;rw[stepBB,show (fun j=>U (k*12+j))=(fun i=>colOf U i k) from rfl,hi];rfl
      refine wpIn_region_held_drew (S:=fun w'=>w'.cell? ⟨W.heap.size,0,none⟩=some (.int .i64 (k:Int))∧w'.cell? ⟨W.heap.size,1,none⟩=some (.pointer (some ⟨cb,0,none⟩))∧w'.cell? ⟨bv,0,none⟩=some (.pointer (some ⟨cb,0,none⟩))∧w'.cell? ⟨cb,0,none⟩=some (.slice (some ⟨g0,0,none⟩) n c0)∧w'.cell? ⟨g0,k,none⟩=some (.int .i64 (colOf U 0 k))) (by kernel_rfl) (by rintro⟨_,_,h⟩;exact h) (by kernel_rfl) ?_ (fun hHeld=> ?_)
      · (try dsimp only)
        (first|(go_simp;done)|(go_keep;done))
      refine tq 0 hHeld ?_
      (refine tc 1 fun K hK=> ?_;go_simp;(go_at_call 56;refine(kOk_q (HAt.below hh (Below.drew (Below.refl _ _))) _ hi).mono ?_;rintro e w5 ⟨rfl,hb5⟩;obtain⟨hc5,hf5⟩:=bcell hb5;have hz5:=hb5.size;(try simp only[zz] at hc5 hf5 hz5);have hk1:=fun o=>hc5 W.heap.size o (by omega);have hk2:=fun o=>hc5 bv o (by omega);have hk3:=fun o=>hc5 cb o (by omega);have hk4:=fun o=>hc5 g0 o (by omega);clear hc5 hf5);(try go_wp2_with fail);refine tr hK (fun hHeld=> ?_);clear hK K)
      refine tq 2 hHeld ?_
      refine tq 3 hHeld ?_
      refine tn 4 hHeld ?_
      refine tn 5 hHeld ?_
      refine tn 6 hHeld ?_
      refine tn 7 hHeld ?_
      refine tn 8 hHeld ?_
      refine tn 9 hHeld ?_
      refine tn 10 hHeld ?_
      refine tn 11 hHeld ?_
      refine tn 12 hHeld ?_
      refine tn 13 hHeld ?_
      refine tn 14 hHeld ?_
      refine tn 15 hHeld ?_
      refine tn 16 hHeld ?_
      refine tn 17 hHeld ?_
      refine tn 18 hHeld ?_
      refine tn 19 hHeld ?_
      refine tn 20 hHeld ?_
      refine tn 21 hHeld ?_
      refine tn 22 hHeld ?_
      refine tn 23 hHeld ?_
      refine tn 24 hHeld ?_
      refine tn 25 hHeld ?_
      refine tn 26 hHeld ?_
      refine tq 27 hHeld ?_
      refine wpAnyH_done (by kernel_rfl) ?_ _
      refine hK _ _ ?_
      refine wpIn_cond_true rfl ?_
      refine wpIn_seq_k fun K2 hK2=> ?_
      refine wpIn_region_plain (by rintro⟨_,_,h⟩;exact h) (by kernel_rfl) ?_
      have hb25:=hb2.trans (hb5.ofDr.mono hb2.size)
      have hBB:Below w.heap.size w w5:=hB.trans (hb25.mono hB.size)
      have q2:w5.cell? ⟨w.heap.size,0,none⟩=some (.pointer none):=(hb25.cell (p:=⟨w.heap.size,0,none⟩) (by simp;omega)).trans r2
      have q3:w5.cell? ⟨w.heap.size+1,0,none⟩=some (.bool false):=(hb25.cell (p:=⟨w.heap.size+1,0,none⟩) (by simp;omega)).trans r3
      have p2:w5.frozen? ⟨w.heap.size,0,none⟩=false:=(hb25.frozen (p:=⟨w.heap.size,0,none⟩) (by simp;omega)).trans f2
      have p3:w5.frozen? ⟨w.heap.size+1,0,none⟩=false:=(hb25.frozen (p:=⟨w.heap.size+1,0,none⟩) (by simp;omega)).trans f3
      go_wp2
      refine wpIn_ret ?_
      exact⟨(KeepsFrom.of_below hb5.ofDr).trans (((KeepsOthers.setCell _ _ _).trans (KeepsOthers.setCell _ _ _)).from _),rfl,(hBB.setCell (by simp) _).setCell (by simp) _,by go_simp,by go_simp,by rw[bodsB,allBB_no hno.out n hk,Bool.and_false]⟩
    | true=>
      by_cases hk0:0<k
      · have hd0':decide (0<k)=true:=decide_eq_true hk0
        obtain⟨j,hj⟩:∃ j,j+1=k:=⟨k-1,by omega⟩
        have hj':(k:Int)-1=(j:Int):=by omega
        have hjn:j<n:=by omega
        have hwj:IntKind.i64.wrap (j:Int)=(j:Int):=i64w (by omega)
        obtain⟨g0',c0',e0',_,p3,_⟩:=hC3.at (i:=0) (k:=j) (by omega) hjn
        rw[e0] at e0'
        simp only[Value.slice.injEq,Option.some.injEq,Addr.mk.injEq] at e0'
        obtain⟨⟨rfl,_⟩,_,rfl⟩:=e0'
        have HJ:Shut (j+1=k):=hj
        clear hj
        by_cases hge:colOf U 0 j<colOf U 0 k
        · have hdg:decide (colOf U 0 k≤colOf U 0 j)=false:=decide_eq_false (by omega)
          have hyes:Shut (stepBB U k=true):=by show stepBB U k=true;rw[stepBB,show (fun j=>U (k*12+j))=(fun i=>colOf U i k) from rfl,hi,show k-1=j from by have:=HJ.out;omega];simp only[Bool.true_and];rw[show U (j*12)=colOf U 0 j from rfl,show U (k*12)=colOf U 0 k from rfl];simp[hge]
          refine wpIn_region_held_drew (S:=fun w'=>w'.cell? ⟨W.heap.size,0,none⟩=some (.int .i64 (k:Int))∧w'.cell? ⟨W.heap.size,1,none⟩=some (.pointer (some ⟨cb,0,none⟩))∧w'.cell? ⟨bv,0,none⟩=some (.pointer (some ⟨cb,0,none⟩))∧w'.cell? ⟨cb,0,none⟩=some (.slice (some ⟨g0,0,none⟩) n c0)∧w'.cell? ⟨g0,k,none⟩=some (.int .i64 (colOf U 0 k))∧w'.cell? ⟨g0,j,none⟩=some (.int .i64 (colOf U 0 j))) (by kernel_rfl) (by rintro⟨_,_,h⟩;exact h) (by kernel_rfl) ?_ (fun hHeld=> ?_)
          · (try dsimp only)
            (first|(go_simp;done)|(go_keep;done))
          refine tq 0 hHeld ?_
          (refine tc 1 fun K hK=> ?_;go_simp;(go_at_call 56;refine(kOk_q (HAt.below hh (Below.drew (Below.refl _ _))) _ hi).mono ?_;rintro e w5 ⟨rfl,hb5⟩;obtain⟨hc5,hf5⟩:=bcell hb5;have hz5:=hb5.size;(try simp only[zz] at hc5 hf5 hz5);have hk1:=fun o=>hc5 W.heap.size o (by omega);have hk2:=fun o=>hc5 bv o (by omega);have hk3:=fun o=>hc5 cb o (by omega);have hk4:=fun o=>hc5 g0 o (by omega);clear hc5 hf5);(try go_wp2_with fail);refine tr hK (fun hHeld=> ?_);clear hK K)
          refine tq 2 hHeld ?_
          refine tq 3 hHeld ?_
          refine tq 4 hHeld ?_
          refine tq 5 hHeld ?_
          refine tq 6 hHeld ?_
          refine tq 7 hHeld ?_
          refine tq 8 hHeld ?_
          refine tq 9 hHeld ?_
          refine tq 10 hHeld ?_
          refine tq 11 hHeld ?_
          refine tq 12 hHeld ?_
          refine tq 13 hHeld ?_
          refine tq 14 hHeld ?_
          refine tq 15 hHeld ?_
          refine tq 16 hHeld ?_
          refine tq 17 hHeld ?_
          refine tq 18 hHeld ?_
          refine tq 19 hHeld ?_
          refine tq 20 hHeld ?_
          refine tq 21 hHeld ?_
          refine tq 22 hHeld ?_
          refine tq 23 hHeld ?_
          refine tq 24 hHeld ?_
          refine tq 25 hHeld ?_
          refine tq 26 hHeld ?_
          refine tq 27 hHeld ?_
          refine wpAnyH_done (by kernel_rfl) ?_ _
          refine hK _ _ ?_
          refine wpIn_cond_false rfl ?_
          refine wpIn_skip ?_
          exact⟨KeepsFrom.of_below hb5.ofDr,hb2.trans (hb5.ofDr.mono hb2.size),by rw[allBB,hall,hyes.out];rfl⟩
        · have hdg:decide (colOf U 0 k≤colOf U 0 j)=true:=decide_eq_true (by omega)
          have hno:Shut (stepBB U k=false):=by show stepBB U k=false;rw[stepBB,show k-1=j from by have:=HJ.out;omega];have:=HJ.out;rw[show U (j*12)=colOf U 0 j from rfl,show U (k*12)=colOf U 0 k from rfl];simp[hge];omega
          refine wpIn_region_held_drew (S:=fun w'=>w'.cell? ⟨W.heap.size,0,none⟩=some (.int .i64 (k:Int))∧w'.cell? ⟨W.heap.size,1,none⟩=some (.pointer (some ⟨cb,0,none⟩))∧w'.cell? ⟨bv,0,none⟩=some (.pointer (some ⟨cb,0,none⟩))∧w'.cell? ⟨cb,0,none⟩=some (.slice (some ⟨g0,0,none⟩) n c0)∧w'.cell? ⟨g0,k,none⟩=some (.int .i64 (colOf U 0 k))∧w'.cell? ⟨g0,j,none⟩=some (.int .i64 (colOf U 0 j))) (by kernel_rfl) (by rintro⟨_,_,h⟩;exact h) (by kernel_rfl) ?_ (fun hHeld=> ?_)
          · (try dsimp only)
            (first|(go_simp;done)|(go_keep;done))
          refine tq 0 hHeld ?_
          (refine tc 1 fun K hK=> ?_;go_simp;(go_at_call 56;refine(kOk_q (HAt.below hh (Below.drew (Below.refl _ _))) _ hi).mono ?_;rintro e w5 ⟨rfl,hb5⟩;obtain⟨hc5,hf5⟩:=bcell hb5;have hz5:=hb5.size;(try simp only[zz] at hc5 hf5 hz5);have hk1:=fun o=>hc5 W.heap.size o (by omega);have hk2:=fun o=>hc5 bv o (by omega);have hk3:=fun o=>hc5 cb o (by omega);have hk4:=fun o=>hc5 g0 o (by omega);clear hc5 hf5);(try go_wp2_with fail);refine tr hK (fun hHeld=> ?_);clear hK K)
          refine tq 2 hHeld ?_
          refine tq 3 hHeld ?_
          refine tq 4 hHeld ?_
          refine tq 5 hHeld ?_
          refine tq 6 hHeld ?_
          refine tq 7 hHeld ?_
          refine tq 8 hHeld ?_
          refine tq 9 hHeld ?_
          refine tq 10 hHeld ?_
          refine tq 11 hHeld ?_
          refine tq 12 hHeld ?_
          refine tq 13 hHeld ?_
          refine tq 14 hHeld ?_
          refine tq 15 hHeld ?_
          refine tq 16 hHeld ?_
          refine tq 17 hHeld ?_
          refine tq 18 hHeld ?_
          refine tq 19 hHeld ?_
          refine tq 20 hHeld ?_
          refine tq 21 hHeld ?_
          refine tq 22 hHeld ?_
          refine tq 23 hHeld ?_
          refine tq 24 hHeld ?_
          refine tq 25 hHeld ?_
          refine tq 26 hHeld ?_
          refine tq 27 hHeld ?_
          refine wpAnyH_done (by kernel_rfl) ?_ _
          refine hK _ _ ?_
          refine wpIn_cond_true rfl ?_
          refine wpIn_seq_k fun K2 hK2=> ?_
          refine wpIn_region_plain (by rintro⟨_,_,h⟩;exact h) (by kernel_rfl) ?_
          have hb25:=hb2.trans (hb5.ofDr.mono hb2.size)
          have hBB:Below w.heap.size w w5:=hB.trans (hb25.mono hB.size)
          have q2:w5.cell? ⟨w.heap.size,0,none⟩=some (.pointer none):=(hb25.cell (p:=⟨w.heap.size,0,none⟩) (by simp;omega)).trans r2
          have q3:w5.cell? ⟨w.heap.size+1,0,none⟩=some (.bool false):=(hb25.cell (p:=⟨w.heap.size+1,0,none⟩) (by simp;omega)).trans r3
          have p2:w5.frozen? ⟨w.heap.size,0,none⟩=false:=(hb25.frozen (p:=⟨w.heap.size,0,none⟩) (by simp;omega)).trans f2
          have p3:w5.frozen? ⟨w.heap.size+1,0,none⟩=false:=(hb25.frozen (p:=⟨w.heap.size+1,0,none⟩) (by simp;omega)).trans f3
          go_wp2
          refine wpIn_ret ?_
          exact⟨(KeepsFrom.of_below hb5.ofDr).trans (((KeepsOthers.setCell _ _ _).trans (KeepsOthers.setCell _ _ _)).from _),rfl,(hBB.setCell (by simp) _).setCell (by simp) _,by go_simp,by go_simp,by rw[bodsB,allBB_no hno.out n hk,Bool.and_false]⟩
      · have hd0':decide (0<k)=false:=decide_eq_false hk0
        have HK:Shut (k=0):=(by omega:k=0)
        clear hk0
        have hyes:Shut (stepBB U k=true):=by show stepBB U k=true;rw[stepBB,show (fun j=>U (k*12+j))=(fun i=>colOf U i k) from rfl,hi,HK.out];rfl
        refine wpIn_region_held_drew (S:=fun w'=>w'.cell? ⟨W.heap.size,0,none⟩=some (.int .i64 (k:Int))∧w'.cell? ⟨W.heap.size,1,none⟩=some (.pointer (some ⟨cb,0,none⟩))∧w'.cell? ⟨bv,0,none⟩=some (.pointer (some ⟨cb,0,none⟩))∧w'.cell? ⟨cb,0,none⟩=some (.slice (some ⟨g0,0,none⟩) n c0)∧w'.cell? ⟨g0,k,none⟩=some (.int .i64 (colOf U 0 k))) (by kernel_rfl) (by rintro⟨_,_,h⟩;exact h) (by kernel_rfl) ?_ (fun hHeld=> ?_)
        · (try dsimp only)
          (first|(go_simp;done)|(go_keep;done))
        refine tq 0 hHeld ?_
        (refine tc 1 fun K hK=> ?_;go_simp;(go_at_call 56;refine(kOk_q (HAt.below hh (Below.drew (Below.refl _ _))) _ hi).mono ?_;rintro e w5 ⟨rfl,hb5⟩;obtain⟨hc5,hf5⟩:=bcell hb5;have hz5:=hb5.size;(try simp only[zz] at hc5 hf5 hz5);have hk1:=fun o=>hc5 W.heap.size o (by omega);have hk2:=fun o=>hc5 bv o (by omega);have hk3:=fun o=>hc5 cb o (by omega);have hk4:=fun o=>hc5 g0 o (by omega);clear hc5 hf5);(try go_wp2_with fail);refine tr hK (fun hHeld=> ?_);clear hK K)
        refine tq 2 hHeld ?_
        refine tq 3 hHeld ?_
        refine tq 4 hHeld ?_
        refine tq 5 hHeld ?_
        refine tq 6 hHeld ?_
        refine tq 7 hHeld ?_
        refine tn 8 hHeld ?_
        refine tn 9 hHeld ?_
        refine tn 10 hHeld ?_
        refine tn 11 hHeld ?_
        refine tn 12 hHeld ?_
        refine tn 13 hHeld ?_
        refine tn 14 hHeld ?_
        refine tn 15 hHeld ?_
        refine tn 16 hHeld ?_
        refine tn 17 hHeld ?_
        refine tn 18 hHeld ?_
        refine tn 19 hHeld ?_
        refine tn 20 hHeld ?_
        refine tn 21 hHeld ?_
        refine tn 22 hHeld ?_
        refine tn 23 hHeld ?_
        refine tn 24 hHeld ?_
        refine tn 25 hHeld ?_
        refine tq 26 hHeld ?_
        refine tq 27 hHeld ?_
        refine wpAnyH_done (by kernel_rfl) ?_ _
        refine hK _ _ ?_
        refine wpIn_cond_false rfl ?_
        refine wpIn_skip ?_
        exact⟨KeepsFrom.of_below hb5.ofDr,hb2.trans (hb5.ofDr.mono hb2.size),by rw[allBB,hall,hyes.out];rfl⟩
   case done=>
    rintro D W hD ⟨hbW,hall⟩ hK
    have q2:=(hbW.cell (p:=⟨w.heap.size,0,none⟩) (by simp;omega)).trans r2
    have q3:=(hbW.cell (p:=⟨w.heap.size+1,0,none⟩) (by simp;omega)).trans r3
    have q4:=(hbW.cell (p:=⟨bv,0,none⟩) hz2).trans r4
    have p2:=(hbW.frozen (p:=⟨w.heap.size,0,none⟩) (by simp;omega)).trans f2
    have p3:=(hbW.frozen (p:=⟨w.heap.size+1,0,none⟩) (by simp;omega)).trans f3
    have hC4:=hC2.below hbW
    have hBW:Below w.heap.size w W:=hB.trans (hbW.mono hB.size)
    have hzW:=hbW.size
    go_wp2
    have hF:Fr (fun b=>b=w.heap.size∨b=w.heap.size+1) W ((W.setCell ⟨w.heap.size,0,none⟩ (.pointer (some ⟨cb,0,none⟩))).setCell ⟨w.heap.size+1,0,none⟩ (.bool true)):=(Fr.setCell (.inl rfl) _).trans (Fr.setCell (.inr rfl) _)
    refine marks_ret (B:=w2.heap.size) hD rfl (hF.kind _ _ hK rfl) fun W' hS=>⟨.tuple #[.pointer (some ⟨cb,0,none⟩),.bool true],?_,?_,.inl ⟨?_,cb,S,rfl,?_,?_⟩⟩
    · have x2:W'.cell? ⟨w.heap.size,0,none⟩=some (.pointer (some ⟨cb,0,none⟩)):=hS.cell (by go_simp)
      have x3:W'.cell? ⟨w.heap.size+1,0,none⟩=some (.bool true):=hS.cell (by go_simp)
      simp[results,Tryz.results27,go_sem, *]
    · exact((hBW.setCell (by simp) _).setCell (by simp) _).trans (hS.below.mono (by omega))
    · rw[bodsB,hall,decide_eq_true h12];rfl
    · omega
    · exact(hC4.frame hF (by omega) (fun b hb=>by have:=(hC2.xlt hb).1;omega)).sm hS
   case stop=>
    rintro D c W hD ⟨rfl,hbW,q2,q3,hno⟩ hK
    go_wp2
    refine marks_ret (B:=w2.heap.size) hD rfl hK fun W' hS=>⟨.tuple #[.pointer none,.bool false],?_,hbW.trans (hS.below.mono (by omega)),.inr ⟨hno,rfl⟩⟩
    have x2:=hS.cell q2
    have x3:=hS.cell q3
    simp[results,Tryz.results27,go_sem, *]
 · have h12':(12:Int)<(n:Int):=by omega
   refine calls_of_wp_marks Tryz.func27 rfl ?_
   simp only[Tryz.ntmps27,List.size_toArray,List.length_cons,List.length_nil,Nat.reduceAdd,Nat.reduceSub,Array.replicate_succ,Array.replicate_zero,List.push_toArray,List.append_toArray,List.nil_append,List.cons_append]
   go_wp2
   refine marks_ret0 (v:= .tuple #[.pointer none,.bool false]) rfl (by simp[results,Tryz.results27,go_sem, *]) ⟨bel_a,.inr ⟨by rw[bodsB,decide_eq_false h12];rfl,rfl⟩⟩
end Go.Proofs.YtcalhcfinkhemaaGreatDoor
