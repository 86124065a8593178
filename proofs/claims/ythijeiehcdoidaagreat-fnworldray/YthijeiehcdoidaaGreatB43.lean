/- Texts of a proof. -/
import Derived.Test.YthijeiehcdoidaaGreatDrawGb
import Derived.Test.YthijeiehcdoidaaGreatDrawB3k
import Derived.Deep.RegionHeld3
import Derived.Deep.DeepCutAuto
import Derived.Test.YthijeiehcdoidaaGreatB25
import Derived.Test.YthijeiehcdoidaaGreatB23
set_option maxHeartbeats 16000000
set_option maxRecDepth 20000
namespace Go.Proofs.YthijeiehcdoidaaGreat
open Go.RowKit
set_option linter.unusedVariables false
set_option linter.unusedSimpArgs false
def LN (n : Nat) (U : Nat → Int) : Prop := n ≤ 13 ∧ ∀ k, k < n → BN (fun j => U (k * 12 + j))
theorem LN.of {n : Nat} {U : Nat → Int} (h : Bods n U) : LN n U := ⟨by have := h.le; omega, fun k hk => bn_of (h.ok k hk)⟩
theorem LN.put {n : Nat} {U V : Nat → Int} {j : Nat} (h : LN n U) (hV : BN V) : LN n (putRow U j V) := by
 refine ⟨h.1, fun k hk i hi => ?_⟩
 unfold putRow
 by_cases e : j * 12 ≤ k * 12 + i ∧ k * 12 + i < j * 12 + 12
 · have : j = k := by omega
   subst this
   simp only [e, and_self, if_true, Nat.add_sub_cancel_left]
   exact hV i hi
 · simp only [e, if_false]; exact h.2 k hk i hi
theorem LN.push {n : Nat} {U V : Nat → Int} (h : LN n U) (hn : n ≤ 12) (hV : BN V) : LN (n + 1) (cat (n * 12) U V) := by
 refine ⟨by omega, fun k hk i hi => ?_⟩
 unfold cat
 by_cases e : k = n
 · subst e
   simp only [show ¬ k * 12 + i < k * 12 by omega, if_false, Nat.add_sub_cancel_left]
   exact hV i hi
 · simp only [show k * 12 + i < n * 12 by omega, if_true]
   exact h.2 k (by omega) i hi
theorem Dg.row {w wr : World} {rb p n g c : Nat} {U : Nat → Int} (h : Dg w wr rb p (.slice (some ⟨g, 0, none⟩) n c) n U []) {w' : World} {U' : Nat → Int} (hs : Fr (fun b => b = g) wr w') (hq : OwnL w' w.heap.size 41 12 (.slice (some ⟨g, 0, none⟩) n c) n U') : Dg w w' rb p (.slice (some ⟨g, 0, none⟩) n c) n U' [] := by
 have hg := (h.own.lt g rfl).1
 have hsz := h.bl.but.size
 have hB : Below w.heap.size wr w' := hs.below hsz (fun k e => by omega)
 exact ⟨⟨h.bl.rs.upto hB h.bl.lo, ⟨hB.os.trans h.bl.but.os, hB.tape.trans h.bl.but.tape, hB.output.trans h.bl.but.output, Nat.le_trans hsz hB.size, fun k hk hn => (hB.block k hk).trans (h.bl.but.block k hk hn)⟩, h.bl.lo, fun x hx => by cases hx⟩, hq, fun x hx => by cases hx⟩
theorem l11AnyBodies_k (rb p : Nat) (w : World) (hs0 : RS w rb p) (hp : p ≤ 500000) :
 Calls Tryz.prog 49 #[.pointer (some ⟨rb, 0, none⟩)] w fun e w' => ∃ (a : Option Addr) (n c : Nat) (U : Nat → Int), e = .returned (.slice a n c) ∧ LN n U ∧ Dg w w' rb (p + 40000) (.slice a n c) n U [] := by
 have hlt := hs0.lt
 have hset := cset_map
 go_enter Tryz.func49, Tryz.ntmps49
 go_upto_region 1 with fail
 go_cut [3] (fun s3 wc => ∃ (a : Option Addr) (n c : Nat) (U : Nat → Int), s3 = (.slice a n c) ∧ Bods n U ∧ Dg w wc rb (p + 30000) (.slice a n c) n U [])
 case first =>
  go_wp2_with (go_at_call 82; refine (l11Bodies_k rb p _ hs0 (by omega)).mono ?_; rintro e w1 ⟨a, n, c, U, rfl, hB, hD⟩)
  go_meet
  exact ⟨a, n, c, U, rfl, hB, hD⟩
 case rest =>
 obtain ⟨a, n, c, U, rfl, hB, hD⟩ := hcut
 have hn12 := hB.le
 have hL := LN.of hB
 by_cases hn0 : n = 0
 · have e1 : ((n : Int) == 0) = true := by simp [hn0]
   clear hn0
   go_wp2_with fail
   go_ret
   first | exact ⟨_, _, _, _, rfl, hL, hD.mono (by omega)⟩ | exact ⟨_, _, _, rfl, _, hL, hD.mono (by omega)⟩
 · have e1 : ((n : Int) == 0) = false := by simp [hn0]
   have hn1 : (1 : Int) ≤ (n : Int) := by omega
   have hn1' : 0 < n := by omega
   go_upto_region 4 with fail
   go_cut [4] (fun s4 wc => ∃ k : Nat, s4 = .int .i64 (k : Int) ∧ k < n ∧ Dg w wc rb (p + 30001) (.slice a n c) n U [])
   case first =>
    go_wp2_with (go_at_call 19; refine (pick_s rb (p + 30000) _ _ (by exact hD.bl.rs) (by omega) (by omega) (by omega)).mono ?_; rintro e w2 ⟨v2, rfl, va2, vb2, hr2⟩)
    go_meet
    exact ⟨v2.toNat, by rw [Int.toNat_of_nonneg va2], by omega, hD.call hr2⟩
   case rest =>
   clear hD
   obtain ⟨k, rfl, hk, hD⟩ := hcut
   go_upto_region 5 with fail
   go_cut [16] (fun s16 wc => ∃ v : Int, s16 = .int .i64 v ∧ Dg w wc rb (p + 30002) (.slice a n c) n U [])
   case first =>
    go_wp2_with (go_at_call 19; refine (pick_s rb (p + 30001) _ _ (by exact hD.bl.rs) (by omega) (by omega) (by omega)).mono ?_; rintro e w3 ⟨v3, rfl, va3, vb3, hr3⟩)
    go_meet
    exact ⟨_, rfl, hD.call hr3⟩
   case rest =>
   clear hD
   obtain ⟨v, rfl, hD⟩ := hcut
   obtain ⟨g, rfl, hg1, hg2⟩ := hD.own.loc hn1'
   have hki : (k : Int) < (n : Int) := by omega
   by_cases e0 : v = 0
   · have e2 : (v == 0) = true := by simp [e0]
     clear e0
     go_upto_region 10 with (go_at_call 31; refine (l11AnyBody_s rb (p + 30002) _ (by exact hD.bl.rs) (by omega)).mono ?_; rintro e w4 ⟨V, rfl, hV, hr4⟩; have hD4 := hD.call hr4; have umf := hD4.own.fro; (have um0 := hD4.own.cellq (q := k * 12) (by omega)); (have um1 := hD4.own.cellq (q := k * 12 + 1) (by omega)); (have um2 := hD4.own.cellq (q := k * 12 + 2) (by omega)); (have um3 := hD4.own.cellq (q := k * 12 + 3) (by omega)); (have um4 := hD4.own.cellq (q := k * 12 + 4) (by omega)); (have um5 := hD4.own.cellq (q := k * 12 + 5) (by omega)); (have um6 := hD4.own.cellq (q := k * 12 + 6) (by omega)); (have um7 := hD4.own.cellq (q := k * 12 + 7) (by omega)); (have um8 := hD4.own.cellq (q := k * 12 + 8) (by omega)); (have um9 := hD4.own.cellq (q := k * 12 + 9) (by omega)); (have um10 := hD4.own.cellq (q := k * 12 + 10) (by omega)); (have um11 := hD4.own.cellq (q := k * 12 + 11) (by omega)))
     have hq := put12 hD4.own hk V
     have hD5 := hD4.row (putFr (w4 := w4) (g := g) (p := k) V) hq
     clear umf um0 um1 um2 um3 um4 um5 um6 um7 um8 um9 um10 um11 hD hD4
     generalize ((((((((((((w4.setCell ⟨g, k * 12, none⟩ (.int .i64 (V 0))).setCell ⟨g, k * 12 + 1, none⟩ (.int .i64 (V 1))).setCell ⟨g, k * 12 + 2, none⟩ (.int .i64 (V 2))).setCell ⟨g, k * 12 + 3, none⟩ (.int .i64 (V 3))).setCell ⟨g, k * 12 + 4, none⟩ (.int .i64 (V 4))).setCell ⟨g, k * 12 + 5, none⟩ (.int .i64 (V 5))).setCell ⟨g, k * 12 + 6, none⟩ (.int .i64 (V 6))).setCell ⟨g, k * 12 + 7, none⟩ (.int .i64 (V 7))).setCell ⟨g, k * 12 + 8, none⟩ (.int .i64 (V 8))).setCell ⟨g, k * 12 + 9, none⟩ (.int .i64 (V 9))).setCell ⟨g, k * 12 + 10, none⟩ (.int .i64 (V 10))).setCell ⟨g, k * 12 + 11, none⟩ (.int .i64 (V 11))) = w9 at hD5 ⊢
     go_wp2_with fail
     go_ret
     first | exact ⟨_, _, _, _, rfl, hL.put hV, hD5.mono (by omega)⟩ | exact ⟨_, _, _, rfl, _, hL.put hV, hD5.mono (by omega)⟩
   · have e2 : (v == 0) = false := by simp [e0]
     by_cases e3 : v = 1
     · have e4 : (v == 1) = true := by simp [e3]
       clear e0 e3
       have hV : BN (fun i => U i) := fun j hj => by have := hL.2 0 hn1' j hj; simpa using this
       have u0 : wc.cell? ⟨g, 0, none⟩ = some (.int .i64 (U 0)) := by have := hD.own.cellq (q := 0) (by omega); exact this
       have u1 : wc.cell? ⟨g, 1, none⟩ = some (.int .i64 (U 1)) := by have := hD.own.cellq (q := 1) (by omega); exact this
       have u2 : wc.cell? ⟨g, 2, none⟩ = some (.int .i64 (U 2)) := by have := hD.own.cellq (q := 2) (by omega); exact this
       have u3 : wc.cell? ⟨g, 3, none⟩ = some (.int .i64 (U 3)) := by have := hD.own.cellq (q := 3) (by omega); exact this
       have u4 : wc.cell? ⟨g, 4, none⟩ = some (.int .i64 (U 4)) := by have := hD.own.cellq (q := 4) (by omega); exact this
       have u5 : wc.cell? ⟨g, 5, none⟩ = some (.int .i64 (U 5)) := by have := hD.own.cellq (q := 5) (by omega); exact this
       have u6 : wc.cell? ⟨g, 6, none⟩ = some (.int .i64 (U 6)) := by have := hD.own.cellq (q := 6) (by omega); exact this
       have u7 : wc.cell? ⟨g, 7, none⟩ = some (.int .i64 (U 7)) := by have := hD.own.cellq (q := 7) (by omega); exact this
       have u8 : wc.cell? ⟨g, 8, none⟩ = some (.int .i64 (U 8)) := by have := hD.own.cellq (q := 8) (by omega); exact this
       have u9 : wc.cell? ⟨g, 9, none⟩ = some (.int .i64 (U 9)) := by have := hD.own.cellq (q := 9) (by omega); exact this
       have u10 : wc.cell? ⟨g, 10, none⟩ = some (.int .i64 (U 10)) := by have := hD.own.cellq (q := 10) (by omega); exact this
       have u11 : wc.cell? ⟨g, 11, none⟩ = some (.int .i64 (U 11)) := by have := hD.own.cellq (q := 11) (by omega); exact this
       have hF : Flat (wc.alloc (Obj.cells #[.int .i64 (U 0), .int .i64 (U 1), .int .i64 (U 2), .int .i64 (U 3), .int .i64 (U 4), .int .i64 (U 5), .int .i64 (U 6), .int .i64 (U 7), .int .i64 (U 8), .int .i64 (U 9), .int .i64 (U 10), .int .i64 (U 11)] 41)) (some ⟨wc.heap.size, 0, none⟩) (1 * 12) (fun i => U i) := by
        intro _
        refine ⟨wc.heap.size, 0, rfl, by simp, fun i hi => ?_⟩
        rw [Nat.zero_add]
        rcases (show i = 0 ∨ i = 1 ∨ i = 2 ∨ i = 3 ∨ i = 4 ∨ i = 5 ∨ i = 6 ∨ i = 7 ∨ i = 8 ∨ i = 9 ∨ i = 10 ∨ i = 11 by omega) with rfl | rfl | rfl | rfl | rfl | rfl | rfl | rfl | rfl | rfl | rfl | rfl <;> go_simp
       have hE : Below wc.heap.size wc (wc.alloc (Obj.cells #[.int .i64 (U 0), .int .i64 (U 1), .int .i64 (U 2), .int .i64 (U 3), .int .i64 (U 4), .int .i64 (U 5), .int .i64 (U 6), .int .i64 (U 7), .int .i64 (U 8), .int .i64 (U 9), .int .i64 (U 10), .int .i64 (U 11)] 41)) := balloc _ _
       have hDE := hD.calb hE
       have hsz5 := hDE.bl.but.size
       go_upto_region 10 with (refine wpList_app rfl _ _ _ rfl w.heap.size 41 12 96 zcBody Tryz.underlying23 infoItBody rfl (by decide) (.slice (some ⟨g, 0, none⟩) n c) n U rfl hDE.own (some ⟨wc.heap.size, 0, none⟩) 1 1 (fun i => U i) rfl hF (by unfold maxLen; omega) (by omega) hsz5 ?_; intro a5 c5 w5 ho5 hg5)
       have hD5 := hDE.grown hg5 ho5
       go_wp2_with fail
       go_ret
       first | exact ⟨_, _, _, _, rfl, hL.push hn12 hV, hD5.mono (by omega)⟩ | exact ⟨_, _, _, rfl, _, hL.push hn12 hV, hD5.mono (by omega)⟩
     · have e4 : (v == 1) = false := by simp [e3]
       clear e0 e3
       go_wp2_with fail
       go_ret
       first | exact ⟨_, _, _, _, rfl, hL, hD.mono (by omega)⟩ | exact ⟨_, _, _, rfl, _, hL, hD.mono (by omega)⟩
theorem Al.farR {w0 w : World} {ab n b k : Nat} {V : Nat → Int} (h : Al w0 w ab n V) (hb : ab ≠ b) (v : Value) : Al w0 (w.setCell ⟨b, k, none⟩ v) ab n V := by
 obtain ⟨h1, h2, h3, h4⟩ := h
 refine ⟨h1, by simpa [World.setCell] using h2, fun i hi => ?_, fun i hi => ?_⟩
 · rw [cset_far (by simp; omega)]; exact h3 i hi
 · rw [World.frozen?_setCell]; exact h4 i hi
def RN (V : Nat → Int) : Prop := (∀ j, j < 4 → Bn (V j)) ∧ (-2560000 ≤ V 2 ∧ V 2 ≤ 2560000) ∧ (-2560000 ≤ V 3 ∧ V 3 ≤ 2560000)
theorem RN.set {V : Nat → Int} (h : RN V) {k : Nat} {v : Int} (hv : -2560000 ≤ v ∧ v ≤ 2560000) : RN (fun j => if j = k then v else V j) := by
 obtain ⟨h1, h2, h3⟩ := h
 refine ⟨fun j hj => ?_, ?_, ?_⟩
 · by_cases e : j = k
   · simp only [e, if_true]; exact ⟨by omega, by omega⟩
   · simp only [e, if_false]; exact h1 j hj
 · by_cases e : 2 = k
   · simp only [e, if_true]; exact hv
   · simp only [e, if_false]; exact h2
 · by_cases e : 3 = k
   · simp only [e, if_true]; exact hv
   · simp only [e, if_false]; exact h3
theorem RN.four {a b c d : Int} (ha : Bn a) (hb : Bn b) (hc : -2560000 ≤ c ∧ c ≤ 2560000) (hd : -2560000 ≤ d ∧ d ≤ 2560000) : RN (fun j => [a, b, c, d].getD j 0) := by
 refine ⟨fun j hj => ?_, hc, hd⟩
 rcases (show j = 0 ∨ j = 1 ∨ j = 2 ∨ j = 3 by omega) with rfl | rfl | rfl | rfl
 · exact ha
 · exact hb
 · exact (show Bn c from ⟨by omega, by omega⟩)
 · exact (show Bn d from ⟨by omega, by omega⟩)
structure DR (w w' : World) (rb p ab : Nat) (V : Nat → Int) : Prop where
 but : But rb w w'
 rs : RS w' rb p
 res : Al w w' w.heap.size 4 (fun _ => 0)
 bod : Al w w' ab 4 V
 far : w.heap.size < ab
 bf : RN V
theorem DR.call {w w' w1 : World} {rb p p1 ab : Nat} {V : Nat → Int} (h : DR w w' rb p ab V) (hrb : rb < w.heap.size) (k : RB w' w1 rb p1) : DR w w1 rb p1 ab V :=
 ⟨h.but.trans k.but, RS.of k, h.res.up hrb k.but, h.bod.up hrb k.but, h.far, h.bf⟩
theorem DR.mono {w w' : World} {rb p p1 ab : Nat} {V : Nat → Int} (h : DR w w' rb p ab V) (k : p ≤ p1) : DR w w' rb p1 ab V :=
 ⟨h.but, h.rs.mono k, h.res, h.bod, h.far, h.bf⟩
theorem DR.set {w w' : World} {rb p ab : Nat} {V : Nat → Int} (h : DR w w' rb p ab V) (hrb : rb < w.heap.size) (k : Nat) (hk : k < 4) (v : Int) (hv : -2560000 ≤ v ∧ v ≤ 2560000) :
 DR w (w'.setCell ⟨ab, k, none⟩ (.int .i64 v)) rb p ab (fun j => if j = k then v else V j) := by
 have hf := h.far
 exact ⟨h.but.setNew (by simp; omega) _, h.rs.setNew (by simp; omega) _, h.res.farR (by omega) _, h.bod.set k hk v, h.far, h.bf.set hv⟩
theorem l11Ray_s (rb p : Nat) (w : World) (hs0 : RS w rb p) (hp : p ≤ 900000) :
 Calls Tryz.prog 18 #[.pointer (some ⟨rb, 0, none⟩)] w fun e w' => ∃ V : Nat → Int, e = .returned (b4 (V 0) (V 1) (V 2) (V 3)) ∧ RN V ∧ RB w w' rb (p + 2000) := by
 have hlt := hs0.lt
 have hne : (w.heap.size = rb) = False := eq_false (by omega)
 have hset := cset_map
 go_enter Tryz.func18, Tryz.ntmps18
 go_upto_region 1 with fail
 have r0 : Al w (w.alloc (.cells #[.int .i64 0, .int .i64 0, .int .i64 0, .int .i64 0] 30)) w.heap.size 4 (fun _ => 0) := Al.new (Nat.le_refl _) (by intro i hi; rcases (show i = 0 ∨ i = 1 ∨ i = 2 ∨ i = 3 by omega) with rfl | rfl | rfl | rfl <;> rfl)
 have hs1 : RS (w.alloc (.cells #[.int .i64 0, .int .i64 0, .int .i64 0, .int .i64 0] 30)) rb p := hs0.alloc _
 have hb0 : But rb w (w.alloc (.cells #[.int .i64 0, .int .i64 0, .int .i64 0, .int .i64 0] 30)) := but_alloc rb _ _
 generalize w.alloc (.cells #[.int .i64 0, .int .i64 0, .int .i64 0, .int .i64 0] 30) = w0 at *
 have hz0 := hb0.size
 go_cut [3] (fun s3 wc => ∃ (ab : Nat) (V : Nat → Int), s3 = .pointer (some ⟨ab, 0, none⟩) ∧ DR w wc rb (p + 1200) ab V)
 case first =>
  go_wp2_with (first
  | (have _ := hr4; go_at_call 48; refine (one_s (0) 16 rb (p + 1000) _ _ _ _ _ (by exact RS.up hr4 (by omega)) (by omega) (by repeat (first | exact AllBd.nil | refine AllBd.cons (by omega) (by omega) ?_)) (by rfl) (by omega) (by omega)).mono ?_; rintro e w5 ⟨v5, rfl, va5, vb5, hr5⟩; have hm5 := mul_bd (a := v4) (b := v5) (A := 256) (B := 16) (by omega) (by omega); have hw5 := i64w (n := v4 * v5) (by omega); have hx5 := i64w (n := v4 * v5 - 1000) (by omega))
  | (have _ := hr3; go_at_call 19; refine (pick_s rb (p + 900) _ _ (by exact RS.up hr3 (by omega)) (by omega) (by omega) (by omega)).mono ?_; rintro e w4 ⟨v4, rfl, va4, vb4, hr4⟩)
  | (have _ := hr2; go_at_call 48; refine (one_s (0) 16 rb (p + 800) _ _ _ _ _ (by exact RS.up hr2 (by omega)) (by omega) (by repeat (first | exact AllBd.nil | refine AllBd.cons (by omega) (by omega) ?_)) (by rfl) (by omega) (by omega)).mono ?_; rintro e w3 ⟨v3, rfl, va3, vb3, hr3⟩; have hm3 := mul_bd (a := v2) (b := v3) (A := 256) (B := 16) (by omega) (by omega); have hw3 := i64w (n := v2 * v3) (by omega); have hx3 := i64w (n := v2 * v3 - 1000) (by omega))
  | (have _ := hr1; go_at_call 19; refine (pick_s rb (p + 700) _ _ (by exact RS.up hr1 (by omega)) (by omega) (by omega) (by omega)).mono ?_; rintro e w2 ⟨v2, rfl, va2, vb2, hr2⟩)
  | (go_at_call 50; refine (l11AnyPlace_s rb p _ (by exact hs1) (by omega)).mono ?_; rintro e w1 ⟨x1, y1, rfl, hd1, hr1⟩))
  go_meet
  have ht5 := (RB.but hr1).trans ((RB.but hr2).trans ((RB.but hr3).trans ((RB.but hr4).trans (RB.but hr5))))
  have hz5 := (hb0.trans ht5).size
  have hz3 := ht5.size
  have hlo := r0.2.1
  exact ⟨_, fun j => [x1, y1, v2 * v3 - 1000, v4 * v5 - 1000].getD j 0, rfl, (hb0.trans ht5).alloc _, (RS.up hr5 (by omega)).alloc _, (r0.up hlt ht5).up hlt (but_alloc rb _ _), Al.new hz5 (by intro i hi; rcases (show i = 0 ∨ i = 1 ∨ i = 2 ∨ i = 3 by omega) with rfl | rfl | rfl | rfl <;> rfl), by omega, RN.four hd1.1 hd1.2 ⟨by omega, by omega⟩ ⟨by omega, by omega⟩⟩
 case rest =>
 obtain ⟨ab, V, rfl, hD⟩ := hcut
 clear hs1 hb0 r0 hz0 w0
 go_upto_region 2 with fail
 have hlo := hD.far
 go_cut [23] (fun s23 wc => ∃ (v7 : Int), s23 = .int .i64 v7 ∧ DR w wc rb (p + 1300) ab V)
 case first =>
  go_wp2_with (go_at_call 19; refine (pick_s rb (p + 1200) _ _ (by exact hD.rs) (by omega) (by omega) (by omega)).mono ?_; rintro e w7 ⟨v7, rfl, va7, vb7, hr7⟩)
  go_meet
  exact ⟨_, rfl, (hD.call hlt hr7).mono (by omega)⟩
 case rest =>
 clear hD
 obtain ⟨v7, rfl, hD⟩ := hcut
 have hD7 := hD.mono (p1 := p + 2000) (by omega)
 have kc0 := (hD7.bod).2.2.1 0 (by omega)
 have kf0 := (hD7.bod).2.2.2 0 (by omega)
 have kc1 := (hD7.bod).2.2.1 1 (by omega)
 have kf1 := (hD7.bod).2.2.2 1 (by omega)
 have kc2 := (hD7.bod).2.2.1 2 (by omega)
 have kf2 := (hD7.bod).2.2.2 2 (by omega)
 have kc3 := (hD7.bod).2.2.1 3 (by omega)
 have kf3 := (hD7.bod).2.2.2 3 (by omega)
 go_upto_region 9 with (go_at_call 48; refine (one_s (-3000) 2000 rb (p + 1300) _ _ _ _ _ (by exact hD.rs) (by omega) (by repeat (first | exact AllBd.nil | refine AllBd.cons (by omega) (by omega) ?_)) (by rfl) (by omega) (by omega)).mono ?_; rintro e w8 ⟨v8, rfl, va8, vb8, hr8⟩; have hD8 := (hD.call hlt hr8).mono (p1 := p + 2000) (by omega); have mc0 := (hD8.bod).2.2.1 0 (by omega); have mf0 := (hD8.bod).2.2.2 0 (by omega); have mc1 := (hD8.bod).2.2.1 1 (by omega); have mf1 := (hD8.bod).2.2.2 1 (by omega); have mc2 := (hD8.bod).2.2.1 2 (by omega); have mf2 := (hD8.bod).2.2.2 2 (by omega); have mc3 := (hD8.bod).2.2.1 3 (by omega); have mf3 := (hD8.bod).2.2.2 3 (by omega))
 focus
  clear kc0 kf0 kc1 kf1 kc2 kf2 kc3 kf3
  have hE := ((hD7.set hlt 2 (by omega) 0 ⟨by omega, by omega⟩).set hlt 3 (by omega) 0 ⟨by omega, by omega⟩)
  generalize ((wc.setCell ⟨ab, 2, none⟩ (.int .i64 0)).setCell ⟨ab, 3, none⟩ (.int .i64 0)) = wx at hE ⊢
  obtain ⟨Vx, hE⟩ : ∃ Vx, DR w wx rb (p + 2000) ab Vx := ⟨_, hE⟩
 rotate_left
 focus
  clear kc0 kf0 kc1 kf1 kc2 kf2 kc3 kf3
  clear mc0 mf0 mc1 mf1 mc2 mf2 mc3 mf3
  have hE := ((hD8.set hlt 2 (by omega) v8 ⟨by omega, by omega⟩).set hlt 3 (by omega) 0 ⟨by omega, by omega⟩)
  generalize ((w8.setCell ⟨ab, 2, none⟩ (.int .i64 v8)).setCell ⟨ab, 3, none⟩ (.int .i64 0)) = wx at hE ⊢
  obtain ⟨Vx, hE⟩ : ∃ Vx, DR w wx rb (p + 2000) ab Vx := ⟨_, hE⟩
 rotate_left
 focus
  clear kc0 kf0 kc1 kf1 kc2 kf2 kc3 kf3
  clear mc0 mf0 mc1 mf1 mc2 mf2 mc3 mf3
  have hE := ((hD8.set hlt 2 (by omega) 0 ⟨by omega, by omega⟩).set hlt 3 (by omega) v8 ⟨by omega, by omega⟩)
  generalize ((w8.setCell ⟨ab, 2, none⟩ (.int .i64 0)).setCell ⟨ab, 3, none⟩ (.int .i64 v8)) = wx at hE ⊢
  obtain ⟨Vx, hE⟩ : ∃ Vx, DR w wx rb (p + 2000) ab Vx := ⟨_, hE⟩
 rotate_left
 focus
  clear kc0 kf0 kc1 kf1 kc2 kf2 kc3 kf3
  have hE := hD7
  obtain ⟨Vx, hE⟩ : ∃ Vx, DR w wc rb (p + 2000) ab Vx := ⟨_, hE⟩
 all_goals
  have h0 := hE
  have ec0 := (hE.bod).2.2.1 0 (by omega)
  have ef0 := (hE.bod).2.2.2 0 (by omega)
  have ec1 := (hE.bod).2.2.1 1 (by omega)
  have ef1 := (hE.bod).2.2.2 1 (by omega)
  have ec2 := (hE.bod).2.2.1 2 (by omega)
  have ef2 := (hE.bod).2.2.2 2 (by omega)
  have ec3 := (hE.bod).2.2.1 3 (by omega)
  have ef3 := (hE.bod).2.2.2 3 (by omega)
  have rc0 := (hE.res).2.2.1 0 (by omega)
  have rf0 := (hE.res).2.2.2 0 (by omega)
  have rc1 := (hE.res).2.2.1 1 (by omega)
  have rf1 := (hE.res).2.2.2 1 (by omega)
  have rc2 := (hE.res).2.2.1 2 (by omega)
  have rf2 := (hE.res).2.2.2 2 (by omega)
  have rc3 := (hE.res).2.2.1 3 (by omega)
  have rf3 := (hE.res).2.2.2 3 (by omega)
  go_wp2_with fail
  exact bodyPost_ret (v := b4 (Vx 0) (Vx 1) (Vx 2) (Vx 3)) (by simp [results, Tryz.results18, go_sem, *]) rfl ⟨Vx, rfl, hE.bf, RB.mk ((((hE.but.setNew (by simp) _).setNew (by simp) _).setNew (by simp) _).setNew (by simp) _) (((((hE.rs.mono (by omega)).setNew (by simp; omega) _).setNew (by simp; omega) _).setNew (by simp; omega) _).setNew (by simp; omega) _)⟩
end Go.Proofs.YthijeiehcdoidaaGreat
