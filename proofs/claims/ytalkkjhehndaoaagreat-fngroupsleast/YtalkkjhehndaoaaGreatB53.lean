/- Texts of a proof. -/
import Derived.Test.YtalkkjhehndaoaaGreatB50
import Derived.Test.YtalkkjhehndaoaaGreatDrawB3k
import Derived.Deep.RegionHeld3
import Derived.Deep.DeepCutAuto
import Derived.Test.YtalkkjhehndaoaaGreatRows
import Derived.WalkKit
import Derived.JoinedOf
import Derived.ProofKit
set_option maxHeartbeats 16000000
set_option maxRecDepth 20000
namespace Go.Proofs.YtalkkjhehndaoaaGreat
open Go.RowKit
set_option linter.unusedVariables false
set_option linter.unusedSimpArgs false
def LN (n : Nat) (U : Nat → Int) : Prop := n ≤ 13 ∧ ∀ k, k < n → BN (fun j => U (k * 12 + j))
theorem LN.of {n : Nat} {U : Nat → Int} (h : Bods n U) : LN n U := ⟨by have := h.le; omega, fun k hk => bn_of (h.ok k hk)⟩
theorem LN.put {n : Nat} {U V : Nat → Int} {j : Nat} (h : LN n U) (hV : BN V) : LN n (putRow U j V) := by
 refine ⟨h.1, fun k hk i hi => ?_⟩
 unfold putRow
 by_cases e : j * 12 ≤ k * 12 + i ∧ k * 12 + i < j * 12 + 12
 · have : j = k := by omega
   subst this
   simp only [e, and_self, if_true, Nat.add_sub_cancel_left]
   exact hV i hi
 · simp only [e, if_false]; exact h.2 k hk i hi
theorem LN.push {n : Nat} {U V : Nat → Int} (h : LN n U) (hn : n ≤ 12) (hV : BN V) : LN (n + 1) (cat (n * 12) U V) := by
 refine ⟨by omega, fun k hk i hi => ?_⟩
 unfold cat
 by_cases e : k = n
 · subst e
   simp only [show ¬ k * 12 + i < k * 12 by omega, if_false, Nat.add_sub_cancel_left]
   exact hV i hi
 · simp only [show k * 12 + i < n * 12 by omega, if_true]
   exact h.2 k (by omega) i hi
theorem Dg.row {w wr : World} {rb p n g c : Nat} {U : Nat → Int} (h : Dg w wr rb p (.slice (some ⟨g, 0, none⟩) n c) n U []) {w' : World} {U' : Nat → Int} (hs : Fr (fun b => b = g) wr w') (hq : OwnL w' w.heap.size 34 12 (.slice (some ⟨g, 0, none⟩) n c) n U') : Dg w w' rb p (.slice (some ⟨g, 0, none⟩) n c) n U' [] := by
 have hg := (h.own.lt g rfl).1
 have hsz := h.bl.but.size
 have hB : Below w.heap.size wr w' := hs.below hsz (fun k e => by omega)
 exact ⟨⟨h.bl.rs.upto hB h.bl.lo, ⟨hB.os.trans h.bl.but.os, hB.tape.trans h.bl.but.tape, hB.output.trans h.bl.but.output, Nat.le_trans hsz hB.size, fun k hk hn => (hB.block k hk).trans (h.bl.but.block k hk hn)⟩, h.bl.lo, fun x hx => by cases hx⟩, hq, fun x hx => by cases hx⟩
theorem l11AnyBodies_k (rb p : Nat) (w : World) (hs0 : RS w rb p) (hp : p ≤ 500000) :
 Calls Tryz.prog 16 #[.pointer (some ⟨rb, 0, none⟩)] w fun e w' => ∃ (a : Option Addr) (n c : Nat) (U : Nat → Int), e = .returned (.slice a n c) ∧ LN n U ∧ Dg w w' rb (p + 40000) (.slice a n c) n U [] := by
 have hlt := hs0.lt
 have hset := cset_map
 go_enter Tryz.func16, Tryz.ntmps16
 go_upto_region 1 with fail
 go_cut [3] (fun s3 wc => ∃ (a : Option Addr) (n c : Nat) (U : Nat → Int), s3 = (.slice a n c) ∧ Bods n U ∧ Dg w wc rb (p + 30000) (.slice a n c) n U [])
 case first =>
  go_wp2_with (go_at_call 29; refine (l11Bodies_k rb p _ hs0 (by omega)).mono ?_; rintro e w1 ⟨a, n, c, U, rfl, hB, hD⟩)
  go_meet
  exact ⟨a, n, c, U, rfl, hB, hD⟩
 case rest =>
 obtain ⟨a, n, c, U, rfl, hB, hD⟩ := hcut
 have hn12 := hB.le
 have hL := LN.of hB
 by_cases hn0 : n = 0
 · have e1 : ((n : Int) == 0) = true := by simp [hn0]
   clear hn0
   go_wp2_with fail
   go_ret
   first | exact ⟨_, _, _, _, rfl, hL, hD.mono (by omega)⟩ | exact ⟨_, _, _, rfl, _, hL, hD.mono (by omega)⟩
 · have e1 : ((n : Int) == 0) = false := by simp [hn0]
   have hn1 : (1 : Int) ≤ (n : Int) := by omega
   have hn1' : 0 < n := by omega
   go_upto_region 4 with fail
   go_cut [4] (fun s4 wc => ∃ k : Nat, s4 = .int .i64 (k : Int) ∧ k < n ∧ Dg w wc rb (p + 30001) (.slice a n c) n U [])
   case first =>
    go_wp2_with (go_at_call 30; refine (pick_s rb (p + 30000) _ _ (by exact hD.bl.rs) (by omega) (by omega) (by omega)).mono ?_; rintro e w2 ⟨v2, rfl, va2, vb2, hr2⟩)
    go_meet
    exact ⟨v2.toNat, by rw [Int.toNat_of_nonneg va2], by omega, hD.call hr2⟩
   case rest =>
   clear hD
   obtain ⟨k, rfl, hk, hD⟩ := hcut
   go_upto_region 5 with fail
   go_cut [16] (fun s16 wc => ∃ v : Int, s16 = .int .i64 v ∧ Dg w wc rb (p + 30002) (.slice a n c) n U [])
   case first =>
    go_wp2_with (go_at_call 30; refine (pick_s rb (p + 30001) _ _ (by exact hD.bl.rs) (by omega) (by omega) (by omega)).mono ?_; rintro e w3 ⟨v3, rfl, va3, vb3, hr3⟩)
    go_meet
    exact ⟨_, rfl, hD.call hr3⟩
   case rest =>
   clear hD
   obtain ⟨v, rfl, hD⟩ := hcut
   obtain ⟨g, rfl, hg1, hg2⟩ := hD.own.loc hn1'
   have hki : (k : Int) < (n : Int) := by omega
   by_cases e0 : v = 0
   · have e2 : (v == 0) = true := by simp [e0]
     clear e0
     go_upto_region 10 with (go_at_call 31; refine (l11AnyBody_s rb (p + 30002) _ (by exact hD.bl.rs) (by omega)).mono ?_; rintro e w4 ⟨V, rfl, hV, hr4⟩; have hD4 := hD.call hr4; have umf := hD4.own.fro; (have um0 := hD4.own.cellq (q := k * 12) (by omega)); (have um1 := hD4.own.cellq (q := k * 12 + 1) (by omega)); (have um2 := hD4.own.cellq (q := k * 12 + 2) (by omega)); (have um3 := hD4.own.cellq (q := k * 12 + 3) (by omega)); (have um4 := hD4.own.cellq (q := k * 12 + 4) (by omega)); (have um5 := hD4.own.cellq (q := k * 12 + 5) (by omega)); (have um6 := hD4.own.cellq (q := k * 12 + 6) (by omega)); (have um7 := hD4.own.cellq (q := k * 12 + 7) (by omega)); (have um8 := hD4.own.cellq (q := k * 12 + 8) (by omega)); (have um9 := hD4.own.cellq (q := k * 12 + 9) (by omega)); (have um10 := hD4.own.cellq (q := k * 12 + 10) (by omega)); (have um11 := hD4.own.cellq (q := k * 12 + 11) (by omega)))
     have hq := put12 hD4.own hk V
     have hD5 := hD4.row (putFr (w4 := w4) (g := g) (p := k) V) hq
     clear umf um0 um1 um2 um3 um4 um5 um6 um7 um8 um9 um10 um11 hD hD4
     generalize ((((((((((((w4.setCell ⟨g, k * 12, none⟩ (.int .i64 (V 0))).setCell ⟨g, k * 12 + 1, none⟩ (.int .i64 (V 1))).setCell ⟨g, k * 12 + 2, none⟩ (.int .i64 (V 2))).setCell ⟨g, k * 12 + 3, none⟩ (.int .i64 (V 3))).setCell ⟨g, k * 12 + 4, none⟩ (.int .i64 (V 4))).setCell ⟨g, k * 12 + 5, none⟩ (.int .i64 (V 5))).setCell ⟨g, k * 12 + 6, none⟩ (.int .i64 (V 6))).setCell ⟨g, k * 12 + 7, none⟩ (.int .i64 (V 7))).setCell ⟨g, k * 12 + 8, none⟩ (.int .i64 (V 8))).setCell ⟨g, k * 12 + 9, none⟩ (.int .i64 (V 9))).setCell ⟨g, k * 12 + 10, none⟩ (.int .i64 (V 10))).setCell ⟨g, k * 12 + 11, none⟩ (.int .i64 (V 11))) = w9 at hD5 ⊢
     go_wp2_with fail
     go_ret
     first | exact ⟨_, _, _, _, rfl, hL.put hV, hD5.mono (by omega)⟩ | exact ⟨_, _, _, rfl, _, hL.put hV, hD5.mono (by omega)⟩
   · have e2 : (v == 0) = false := by simp [e0]
     by_cases e3 : v = 1
     · have e4 : (v == 1) = true := by simp [e3]
       clear e0 e3
       have hV : BN (fun i => U i) := fun j hj => by have := hL.2 0 hn1' j hj; simpa using this
       have u0 : wc.cell? ⟨g, 0, none⟩ = some (.int .i64 (U 0)) := by have := hD.own.cellq (q := 0) (by omega); exact this
       have u1 : wc.cell? ⟨g, 1, none⟩ = some (.int .i64 (U 1)) := by have := hD.own.cellq (q := 1) (by omega); exact this
       have u2 : wc.cell? ⟨g, 2, none⟩ = some (.int .i64 (U 2)) := by have := hD.own.cellq (q := 2) (by omega); exact this
       have u3 : wc.cell? ⟨g, 3, none⟩ = some (.int .i64 (U 3)) := by have := hD.own.cellq (q := 3) (by omega); exact this
       have u4 : wc.cell? ⟨g, 4, none⟩ = some (.int .i64 (U 4)) := by have := hD.own.cellq (q := 4) (by omega); exact this
       have u5 : wc.cell? ⟨g, 5, none⟩ = some (.int .i64 (U 5)) := by have := hD.own.cellq (q := 5) (by omega); exact this
       have u6 : wc.cell? ⟨g, 6, none⟩ = some (.int .i64 (U 6)) := by have := hD.own.cellq (q := 6) (by omega); exact this
       have u7 : wc.cell? ⟨g, 7, none⟩ = some (.int .i64 (U 7)) := by have := hD.own.cellq (q := 7) (by omega); exact this
       have u8 : wc.cell? ⟨g, 8, none⟩ = some (.int .i64 (U 8)) := by have := hD.own.cellq (q := 8) (by omega); exact this
       have u9 : wc.cell? ⟨g, 9, none⟩ = some (.int .i64 (U 9)) := by have := hD.own.cellq (q := 9) (by omega); exact this
       have u10 : wc.cell? ⟨g, 10, none⟩ = some (.int .i64 (U 10)) := by have := hD.own.cellq (q := 10) (by omega); exact this
       have u11 : wc.cell? ⟨g, 11, none⟩ = some (.int .i64 (U 11)) := by have := hD.own.cellq (q := 11) (by omega); exact this
       have hF : Flat (wc.alloc (Obj.cells #[.int .i64 (U 0), .int .i64 (U 1), .int .i64 (U 2), .int .i64 (U 3), .int .i64 (U 4), .int .i64 (U 5), .int .i64 (U 6), .int .i64 (U 7), .int .i64 (U 8), .int .i64 (U 9), .int .i64 (U 10), .int .i64 (U 11)] 34)) (some ⟨wc.heap.size, 0, none⟩) (1 * 12) (fun i => U i) := by
        intro _
        refine ⟨wc.heap.size, 0, rfl, by simp, fun i hi => ?_⟩
        rw [Nat.zero_add]
        rcases (show i = 0 ∨ i = 1 ∨ i = 2 ∨ i = 3 ∨ i = 4 ∨ i = 5 ∨ i = 6 ∨ i = 7 ∨ i = 8 ∨ i = 9 ∨ i = 10 ∨ i = 11 by omega) with rfl | rfl | rfl | rfl | rfl | rfl | rfl | rfl | rfl | rfl | rfl | rfl <;> go_simp
       have hE : Below wc.heap.size wc (wc.alloc (Obj.cells #[.int .i64 (U 0), .int .i64 (U 1), .int .i64 (U 2), .int .i64 (U 3), .int .i64 (U 4), .int .i64 (U 5), .int .i64 (U 6), .int .i64 (U 7), .int .i64 (U 8), .int .i64 (U 9), .int .i64 (U 10), .int .i64 (U 11)] 34)) := balloc _ _
       have hDE := hD.calb hE
       have hsz5 := hDE.bl.but.size
       go_upto_region 10 with (refine wpList_app rfl _ _ _ rfl w.heap.size 34 12 96 zcBody Tryz.underlying23 infoItBody rfl (by decide) (.slice (some ⟨g, 0, none⟩) n c) n U rfl hDE.own (some ⟨wc.heap.size, 0, none⟩) 1 1 (fun i => U i) rfl hF (by unfold maxLen; omega) (by omega) hsz5 ?_; intro a5 c5 w5 ho5 hg5)
       have hD5 := hDE.grown hg5 ho5
       go_wp2_with fail
       go_ret
       first | exact ⟨_, _, _, _, rfl, hL.push hn12 hV, hD5.mono (by omega)⟩ | exact ⟨_, _, _, rfl, _, hL.push hn12 hV, hD5.mono (by omega)⟩
     · have e4 : (v == 1) = false := by simp [e3]
       clear e0 e3
       go_wp2_with fail
       go_ret
       first | exact ⟨_, _, _, _, rfl, hL, hD.mono (by omega)⟩ | exact ⟨_, _, _, rfl, _, hL, hD.mono (by omega)⟩
end Go.Proofs.YtalkkjhehndaoaaGreat
namespace Go.Proofs.YtalkkjhehndaoaaGreat
theorem head_cut {l : List (List Char)} {c : List Char} (h : (l.head? == some c) = true) : ∃ rest, l = c :: rest := by
 cases l with
 | nil => simp at h
 | cons a r => simp at h; exact ⟨r, by rw [h]⟩
theorem strip_cut (rest : List (List Char)) : stripLifts liftWords ("cut".toList :: rest) = ([], "cut".toList :: rest) := by kernel_rfl
theorem make_of {P : Program} {l : List Char} (h0 : P.initOrder.toList = l) (h1 : ((behindMainWord (wordsSigns l)).head? == some "cut".toList) = true) : P.make = some .cut := by
 obtain ⟨rest, hr⟩ := head_cut h1
 unfold Program.make
 rw [h0, hr]
 rfl
theorem headLifts_of {P : Program} {l : List Char} (h0 : P.initOrder.toList = l) (h1 : ((behindMainWord (wordsSigns l)).head? == some "cut".toList) = true) : P.headLifts = [] := by
 obtain ⟨rest, hr⟩ := head_cut h1
 unfold Program.headLifts
 rw [h0, hr, strip_cut]
 rfl
theorem liftsFinal_of {P : Program} {l : List Char} (h0 : P.initOrder.toList = l) (h1 : ((behindMainWord (wordsSigns l)).head? == some "cut".toList) = true) : P.liftsFinal = false := by
 have hh := headLifts_of h0 h1
 obtain ⟨rest, hr⟩ := head_cut h1
 unfold Program.liftsFinal
 rw [h0, hr, hh]
 rfl
theorem mayEnter_of {P : Program} {l : List Char} (h0 : P.initOrder.toList = l) (h1 : ((behindMainWord (wordsSigns l)).head? == some "cut".toList) = true) (h2 : P.laysLater = false) (h3 : P.bearsReflect = false) (h4 : P.doorFits [] = true) : P.mayEnter = true := by
 obtain ⟨rest, hr⟩ := head_cut h1
 unfold Program.mayEnter
 rw [h0, hr]
 simp only [strip_cut, h2, h3, h4]
 simp
end Go.Proofs.YtalkkjhehndaoaaGreat
namespace Go.Proofs.YtalkkjhehndaoaaGreat
set_option maxRecDepth 100000
def ordL : { l : List Char // Tryz.prog.initOrder = String.ofList l } := ⟨_, rfl⟩
theorem ordT : Tryz.prog.initOrder.toList = ordL.1 := (congrArg String.toList ordL.2).trans String.toList_ofList
theorem headE : ((behindMainWord (wordsSigns ordL.1)).head? == some "cut".toList) = true := by kernel_rfl
theorem makeT : Tryz.prog.make = some .cut := make_of ordT headE
theorem liftsFinalT : Tryz.prog.liftsFinal = false := liftsFinal_of ordT headE
theorem laysLaterT : Tryz.prog.laysLater = false := by kernel_rfl
theorem bearsReflectT : Tryz.prog.bearsReflect = false := by kernel_rfl
theorem doorFitsT : Tryz.prog.doorFits [] = true := by kernel_rfl
theorem mayEnterT : Tryz.prog.mayEnter = true := mayEnter_of ordT headE laysLaterT bearsReflectT doorFitsT
theorem ownT : ownKnob Tryz.prog.godebug = none := by kernel_rfl
theorem laidOutT : laidOutB Tryz.prog = true := by kernel_rfl
theorem mapsRowedT : mapsRowed Tryz.prog = true := by kernel_rfl
theorem stopsHeardT : Tryz.prog.stopsHeard = true := by kernel_rfl
theorem plainKeysT : Tryz.prog.plainKeys = true := by kernel_rfl
end Go.Proofs.YtalkkjhehndaoaaGreat
