/- Texts of a proof. -/
import Derived.Test.YthijeiehcdoidaaGreatDrawGb
import Derived.Test.YthijeiehcdoidaaGreatDrawB3k
import Derived.Deep.RegionHeld3
import Derived.Deep.DeepCutAuto
import Derived.Test.YthijeiehcdoidaaGreatB4
import Derived.Test.YthijeiehcdoidaaGreatB2
import Derived.Test.YthijeiehcdoidaaGreatB17
set_option maxHeartbeats 16000000
set_option maxRecDepth 20000
namespace Go.Proofs.YthijeiehcdoidaaGreat
open Go.RowKit
set_option linter.unusedVariables false
set_option linter.unusedSimpArgs false
def LN (n : Nat) (U : Nat → Int) : Prop := n ≤ 13 ∧ ∀ k, k < n → BN (fun j => U (k * 12 + j))
theorem LN.of {n : Nat} {U : Nat → Int} (h : Bods n U) : LN n U := ⟨by have := h.le; omega, fun k hk => bn_of (h.ok k hk)⟩
theorem LN.put {n : Nat} {U V : Nat → Int} {j : Nat} (h : LN n U) (hV : BN V) : LN n (putRow U j V) := by
 refine ⟨h.1, fun k hk i hi => ?_⟩
 unfold putRow
 by_cases e : j * 12 ≤ k * 12 + i ∧ k * 12 + i < j * 12 + 12
 · have : j = k := by omega
   subst this
   simp only [e, and_self, if_true, Nat.add_sub_cancel_left]
   exact hV i hi
 · simp only [e, if_false]; exact h.2 k hk i hi
theorem LN.push {n : Nat} {U V : Nat → Int} (h : LN n U) (hn : n ≤ 12) (hV : BN V) : LN (n + 1) (cat (n * 12) U V) := by
 refine ⟨by omega, fun k hk i hi => ?_⟩
 unfold cat
 by_cases e : k = n
 · subst e
   simp only [show ¬ k * 12 + i < k * 12 by omega, if_false, Nat.add_sub_cancel_left]
   exact hV i hi
 · simp only [show k * 12 + i < n * 12 by omega, if_true]
   exact h.2 k (by omega) i hi
theorem Dg.row {w wr : World} {rb p n g c : Nat} {U : Nat → Int} (h : Dg w wr rb p (.slice (some ⟨g, 0, none⟩) n c) n U []) {w' : World} {U' : Nat → Int} (hs : Fr (fun b => b = g) wr w') (hq : OwnL w' w.heap.size 41 12 (.slice (some ⟨g, 0, none⟩) n c) n U') : Dg w w' rb p (.slice (some ⟨g, 0, none⟩) n c) n U' [] := by
 have hg := (h.own.lt g rfl).1
 have hsz := h.bl.but.size
 have hB : Below w.heap.size wr w' := hs.below hsz (fun k e => by omega)
 exact ⟨⟨h.bl.rs.upto hB h.bl.lo, ⟨hB.os.trans h.bl.but.os, hB.tape.trans h.bl.but.tape, hB.output.trans h.bl.but.output, Nat.le_trans hsz hB.size, fun k hk hn => (hB.block k hk).trans (h.bl.but.block k hk hn)⟩, h.bl.lo, fun x hx => by cases hx⟩, hq, fun x hx => by cases hx⟩
theorem l11AnyBodies_k (rb p : Nat) (w : World) (hs0 : RS w rb p) (hp : p ≤ 500000) :
 Calls Tryz.prog 49 #[.pointer (some ⟨rb, 0, none⟩)] w fun e w' => ∃ (a : Option Addr) (n c : Nat) (U : Nat → Int), e = .returned (.slice a n c) ∧ LN n U ∧ Dg w w' rb (p + 40000) (.slice a n c) n U [] := by
 have hlt := hs0.lt
 have hset := cset_map
 go_enter Tryz.func49, Tryz.ntmps49
 go_upto_region 1 with fail
 go_cut [3] (fun s3 wc => ∃ (a : Option Addr) (n c : Nat) (U : Nat → Int), s3 = (.slice a n c) ∧ Bods n U ∧ Dg w wc rb (p + 30000) (.slice a n c) n U [])
 case first =>
  go_wp2_with (go_at_call 82; refine (l11Bodies_k rb p _ hs0 (by omega)).mono ?_; rintro e w1 ⟨a, n, c, U, rfl, hB, hD⟩)
  go_meet
  exact ⟨a, n, c, U, rfl, hB, hD⟩
 case rest =>
 obtain ⟨a, n, c, U, rfl, hB, hD⟩ := hcut
 have hn12 := hB.le
 have hL := LN.of hB
 by_cases hn0 : n = 0
 · have e1 : ((n : Int) == 0) = true := by simp [hn0]
   clear hn0
   go_wp2_with fail
   go_ret
   first | exact ⟨_, _, _, _, rfl, hL, hD.mono (by omega)⟩ | exact ⟨_, _, _, rfl, _, hL, hD.mono (by omega)⟩
 · have e1 : ((n : Int) == 0) = false := by simp [hn0]
   have hn1 : (1 : Int) ≤ (n : Int) := by omega
   have hn1' : 0 < n := by omega
   go_upto_region 4 with fail
   go_cut [4] (fun s4 wc => ∃ k : Nat, s4 = .int .i64 (k : Int) ∧ k < n ∧ Dg w wc rb (p + 30001) (.slice a n c) n U [])
   case first =>
    go_wp2_with (go_at_call 19; refine (pick_s rb (p + 30000) _ _ (by exact hD.bl.rs) (by omega) (by omega) (by omega)).mono ?_; rintro e w2 ⟨v2, rfl, va2, vb2, hr2⟩)
    go_meet
    exact ⟨v2.toNat, by rw [Int.toNat_of_nonneg va2], by omega, hD.call hr2⟩
   case rest =>
   clear hD
   obtain ⟨k, rfl, hk, hD⟩ := hcut
   go_upto_region 5 with fail
   go_cut [16] (fun s16 wc => ∃ v : Int, s16 = .int .i64 v ∧ Dg w wc rb (p + 30002) (.slice a n c) n U [])
   case first =>
    go_wp2_with (go_at_call 19; refine (pick_s rb (p + 30001) _ _ (by exact hD.bl.rs) (by omega) (by omega) (by omega)).mono ?_; rintro e w3 ⟨v3, rfl, va3, vb3, hr3⟩)
    go_meet
    exact ⟨_, rfl, hD.call hr3⟩
   case rest =>
   clear hD
   obtain ⟨v, rfl, hD⟩ := hcut
   obtain ⟨g, rfl, hg1, hg2⟩ := hD.own.loc hn1'
   have hki : (k : Int) < (n : Int) := by omega
   by_cases e0 : v = 0
   · have e2 : (v == 0) = true := by simp [e0]
     clear e0
     go_upto_region 10 with (go_at_call 31; refine (l11AnyBody_s rb (p + 30002) _ (by exact hD.bl.rs) (by omega)).mono ?_; rintro e w4 ⟨V, rfl, hV, hr4⟩; have hD4 := hD.call hr4; have umf := hD4.own.fro; (have um0 := hD4.own.cellq (q := k * 12) (by omega)); (have um1 := hD4.own.cellq (q := k * 12 + 1) (by omega)); (have um2 := hD4.own.cellq (q := k * 12 + 2) (by omega)); (have um3 := hD4.own.cellq (q := k * 12 + 3) (by omega)); (have um4 := hD4.own.cellq (q := k * 12 + 4) (by omega)); (have um5 := hD4.own.cellq (q := k * 12 + 5) (by omega)); (have um6 := hD4.own.cellq (q := k * 12 + 6) (by omega)); (have um7 := hD4.own.cellq (q := k * 12 + 7) (by omega)); (have um8 := hD4.own.cellq (q := k * 12 + 8) (by omega)); (have um9 := hD4.own.cellq (q := k * 12 + 9) (by omega)); (have um10 := hD4.own.cellq (q := k * 12 + 10) (by omega)); (have um11 := hD4.own.cellq (q := k * 12 + 11) (by omega)))
     have hq := put12 hD4.own hk V
     have hD5 := hD4.row (putFr (w4 := w4) (g := g) (p := k) V) hq
     clear umf um0 um1 um2 um3 um4 um5 um6 um7 um8 um9 um10 um11 hD hD4
     generalize ((((((((((((w4.setCell ⟨g, k * 12, none⟩ (.int .i64 (V 0))).setCell ⟨g, k * 12 + 1, none⟩ (.int .i64 (V 1))).setCell ⟨g, k * 12 + 2, none⟩ (.int .i64 (V 2))).setCell ⟨g, k * 12 + 3, none⟩ (.int .i64 (V 3))).setCell ⟨g, k * 12 + 4, none⟩ (.int .i64 (V 4))).setCell ⟨g, k * 12 + 5, none⟩ (.int .i64 (V 5))).setCell ⟨g, k * 12 + 6, none⟩ (.int .i64 (V 6))).setCell ⟨g, k * 12 + 7, none⟩ (.int .i64 (V 7))).setCell ⟨g, k * 12 + 8, none⟩ (.int .i64 (V 8))).setCell ⟨g, k * 12 + 9, none⟩ (.int .i64 (V 9))).setCell ⟨g, k * 12 + 10, none⟩ (.int .i64 (V 10))).setCell ⟨g, k * 12 + 11, none⟩ (.int .i64 (V 11))) = w9 at hD5 ⊢
     go_wp2_with fail
     go_ret
     first | exact ⟨_, _, _, _, rfl, hL.put hV, hD5.mono (by omega)⟩ | exact ⟨_, _, _, rfl, _, hL.put hV, hD5.mono (by omega)⟩
   · have e2 : (v == 0) = false := by simp [e0]
     by_cases e3 : v = 1
     · have e4 : (v == 1) = true := by simp [e3]
       clear e0 e3
       have hV : BN (fun i => U i) := fun j hj => by have := hL.2 0 hn1' j hj; simpa using this
       have u0 : wc.cell? ⟨g, 0, none⟩ = some (.int .i64 (U 0)) := by have := hD.own.cellq (q := 0) (by omega); exact this
       have u1 : wc.cell? ⟨g, 1, none⟩ = some (.int .i64 (U 1)) := by have := hD.own.cellq (q := 1) (by omega); exact this
       have u2 : wc.cell? ⟨g, 2, none⟩ = some (.int .i64 (U 2)) := by have := hD.own.cellq (q := 2) (by omega); exact this
       have u3 : wc.cell? ⟨g, 3, none⟩ = some (.int .i64 (U 3)) := by have := hD.own.cellq (q := 3) (by omega); exact this
       have u4 : wc.cell? ⟨g, 4, none⟩ = some (.int .i64 (U 4)) := by have := hD.own.cellq (q := 4) (by omega); exact this
       have u5 : wc.cell? ⟨g, 5, none⟩ = some (.int .i64 (U 5)) := by have := hD.own.cellq (q := 5) (by omega); exact this
       have u6 : wc.cell? ⟨g, 6, none⟩ = some (.int .i64 (U 6)) := by have := hD.own.cellq (q := 6) (by omega); exact this
       have u7 : wc.cell? ⟨g, 7, none⟩ = some (.int .i64 (U 7)) := by have := hD.own.cellq (q := 7) (by omega); exact this
       have u8 : wc.cell? ⟨g, 8, none⟩ = some (.int .i64 (U 8)) := by have := hD.own.cellq (q := 8) (by omega); exact this
       have u9 : wc.cell? ⟨g, 9, none⟩ = some (.int .i64 (U 9)) := by have := hD.own.cellq (q := 9) (by omega); exact this
       have u10 : wc.cell? ⟨g, 10, none⟩ = some (.int .i64 (U 10)) := by have := hD.own.cellq (q := 10) (by omega); exact this
       have u11 : wc.cell? ⟨g, 11, none⟩ = some (.int .i64 (U 11)) := by have := hD.own.cellq (q := 11) (by omega); exact this
       have hF : Flat (wc.alloc (Obj.cells #[.int .i64 (U 0), .int .i64 (U 1), .int .i64 (U 2), .int .i64 (U 3), .int .i64 (U 4), .int .i64 (U 5), .int .i64 (U 6), .int .i64 (U 7), .int .i64 (U 8), .int .i64 (U 9), .int .i64 (U 10), .int .i64 (U 11)] 41)) (some ⟨wc.heap.size, 0, none⟩) (1 * 12) (fun i => U i) := by
        intro _
        refine ⟨wc.heap.size, 0, rfl, by simp, fun i hi => ?_⟩
        rw [Nat.zero_add]
        rcases (show i = 0 ∨ i = 1 ∨ i = 2 ∨ i = 3 ∨ i = 4 ∨ i = 5 ∨ i = 6 ∨ i = 7 ∨ i = 8 ∨ i = 9 ∨ i = 10 ∨ i = 11 by omega) with rfl | rfl | rfl | rfl | rfl | rfl | rfl | rfl | rfl | rfl | rfl | rfl <;> go_simp
       have hE : Below wc.heap.size wc (wc.alloc (Obj.cells #[.int .i64 (U 0), .int .i64 (U 1), .int .i64 (U 2), .int .i64 (U 3), .int .i64 (U 4), .int .i64 (U 5), .int .i64 (U 6), .int .i64 (U 7), .int .i64 (U 8), .int .i64 (U 9), .int .i64 (U 10), .int .i64 (U 11)] 41)) := balloc _ _
       have hDE := hD.calb hE
       have hsz5 := hDE.bl.but.size
       go_upto_region 10 with (refine wpList_app rfl _ _ _ rfl w.heap.size 41 12 96 zcBody Tryz.underlying23 infoItBody rfl (by decide) (.slice (some ⟨g, 0, none⟩) n c) n U rfl hDE.own (some ⟨wc.heap.size, 0, none⟩) 1 1 (fun i => U i) rfl hF (by unfold maxLen; omega) (by omega) hsz5 ?_; intro a5 c5 w5 ho5 hg5)
       have hD5 := hDE.grown hg5 ho5
       go_wp2_with fail
       go_ret
       first | exact ⟨_, _, _, _, rfl, hL.push hn12 hV, hD5.mono (by omega)⟩ | exact ⟨_, _, _, rfl, _, hL.push hn12 hV, hD5.mono (by omega)⟩
     · have e4 : (v == 1) = false := by simp [e3]
       clear e0 e3
       go_wp2_with fail
       go_ret
       first | exact ⟨_, _, _, _, rfl, hL, hD.mono (by omega)⟩ | exact ⟨_, _, _, rfl, _, hL, hD.mono (by omega)⟩
theorem pqBodies_same (a a' : Option Addr) (N c c' : Nat) (R : Nat → Int) (w : World) (h : Flat w a (N * 12) R) (h' : Flat w a' (N * 12) R) (hN : N ≤ 1000) :
 Calls Tryz.prog 38 #[.slice a N c, .slice a' N c'] w fun e w' => e = .returned (.bool true) ∧ Below w.heap.size w w' := by
 have hset := cset_map
 have e0 : ((N : Int) != (N : Int)) = false := by simp
 go_enter Tryz.func38, Tryz.ntmps38
 go_upto_region 4 with fail
 go_loopw [5] (fun s wr => ∃ k : Nat, k ≤ N ∧ s = .int .i64 (k : Int) ∧ Below w.heap.size w wr) (fun s _ => N - (intOf s).toNat)
 case atStart => exact ⟨0, Nat.zero_le _, rfl, Below.refl _ _⟩
 case round =>
  obtain ⟨k, hk, rfl, hw⟩ := hrel
  by_cases hlt : k < N
  · have hkN : (k : Int) < (N : Int) := by omega
    obtain ⟨b1, o1, e1, _, hc1⟩ := (h.below hw) (by omega)
    obtain ⟨b2, o2, e2, _, hc2⟩ := (h'.below hw) (by omega)
    have r0 : wr.cell? ⟨b1, o1 + k * 12, none⟩ = some (.int .i64 (R (k * 12))) := by have q := hc1 (k * 12 + 0) (by omega); simpa [Nat.add_assoc] using q
    have s0 : wr.cell? ⟨b2, o2 + k * 12, none⟩ = some (.int .i64 (R (k * 12))) := by have q := hc2 (k * 12 + 0) (by omega); simpa [Nat.add_assoc] using q
    have r1 : wr.cell? ⟨b1, o1 + k * 12 + 1, none⟩ = some (.int .i64 (R (k * 12 + 1))) := by have q := hc1 (k * 12 + 1) (by omega); simpa [Nat.add_assoc] using q
    have s1 : wr.cell? ⟨b2, o2 + k * 12 + 1, none⟩ = some (.int .i64 (R (k * 12 + 1))) := by have q := hc2 (k * 12 + 1) (by omega); simpa [Nat.add_assoc] using q
    have r2 : wr.cell? ⟨b1, o1 + k * 12 + 2, none⟩ = some (.int .i64 (R (k * 12 + 2))) := by have q := hc1 (k * 12 + 2) (by omega); simpa [Nat.add_assoc] using q
    have s2 : wr.cell? ⟨b2, o2 + k * 12 + 2, none⟩ = some (.int .i64 (R (k * 12 + 2))) := by have q := hc2 (k * 12 + 2) (by omega); simpa [Nat.add_assoc] using q
    have r3 : wr.cell? ⟨b1, o1 + k * 12 + 3, none⟩ = some (.int .i64 (R (k * 12 + 3))) := by have q := hc1 (k * 12 + 3) (by omega); simpa [Nat.add_assoc] using q
    have s3 : wr.cell? ⟨b2, o2 + k * 12 + 3, none⟩ = some (.int .i64 (R (k * 12 + 3))) := by have q := hc2 (k * 12 + 3) (by omega); simpa [Nat.add_assoc] using q
    have r4 : wr.cell? ⟨b1, o1 + k * 12 + 4, none⟩ = some (.int .i64 (R (k * 12 + 4))) := by have q := hc1 (k * 12 + 4) (by omega); simpa [Nat.add_assoc] using q
    have s4 : wr.cell? ⟨b2, o2 + k * 12 + 4, none⟩ = some (.int .i64 (R (k * 12 + 4))) := by have q := hc2 (k * 12 + 4) (by omega); simpa [Nat.add_assoc] using q
    have r5 : wr.cell? ⟨b1, o1 + k * 12 + 5, none⟩ = some (.int .i64 (R (k * 12 + 5))) := by have q := hc1 (k * 12 + 5) (by omega); simpa [Nat.add_assoc] using q
    have s5 : wr.cell? ⟨b2, o2 + k * 12 + 5, none⟩ = some (.int .i64 (R (k * 12 + 5))) := by have q := hc2 (k * 12 + 5) (by omega); simpa [Nat.add_assoc] using q
    have r6 : wr.cell? ⟨b1, o1 + k * 12 + 6, none⟩ = some (.int .i64 (R (k * 12 + 6))) := by have q := hc1 (k * 12 + 6) (by omega); simpa [Nat.add_assoc] using q
    have s6 : wr.cell? ⟨b2, o2 + k * 12 + 6, none⟩ = some (.int .i64 (R (k * 12 + 6))) := by have q := hc2 (k * 12 + 6) (by omega); simpa [Nat.add_assoc] using q
    have r7 : wr.cell? ⟨b1, o1 + k * 12 + 7, none⟩ = some (.int .i64 (R (k * 12 + 7))) := by have q := hc1 (k * 12 + 7) (by omega); simpa [Nat.add_assoc] using q
    have s7 : wr.cell? ⟨b2, o2 + k * 12 + 7, none⟩ = some (.int .i64 (R (k * 12 + 7))) := by have q := hc2 (k * 12 + 7) (by omega); simpa [Nat.add_assoc] using q
    have r8 : wr.cell? ⟨b1, o1 + k * 12 + 8, none⟩ = some (.int .i64 (R (k * 12 + 8))) := by have q := hc1 (k * 12 + 8) (by omega); simpa [Nat.add_assoc] using q
    have s8 : wr.cell? ⟨b2, o2 + k * 12 + 8, none⟩ = some (.int .i64 (R (k * 12 + 8))) := by have q := hc2 (k * 12 + 8) (by omega); simpa [Nat.add_assoc] using q
    have r9 : wr.cell? ⟨b1, o1 + k * 12 + 9, none⟩ = some (.int .i64 (R (k * 12 + 9))) := by have q := hc1 (k * 12 + 9) (by omega); simpa [Nat.add_assoc] using q
    have s9 : wr.cell? ⟨b2, o2 + k * 12 + 9, none⟩ = some (.int .i64 (R (k * 12 + 9))) := by have q := hc2 (k * 12 + 9) (by omega); simpa [Nat.add_assoc] using q
    have r10 : wr.cell? ⟨b1, o1 + k * 12 + 10, none⟩ = some (.int .i64 (R (k * 12 + 10))) := by have q := hc1 (k * 12 + 10) (by omega); simpa [Nat.add_assoc] using q
    have s10 : wr.cell? ⟨b2, o2 + k * 12 + 10, none⟩ = some (.int .i64 (R (k * 12 + 10))) := by have q := hc2 (k * 12 + 10) (by omega); simpa [Nat.add_assoc] using q
    have r11 : wr.cell? ⟨b1, o1 + k * 12 + 11, none⟩ = some (.int .i64 (R (k * 12 + 11))) := by have q := hc1 (k * 12 + 11) (by omega); simpa [Nat.add_assoc] using q
    have s11 : wr.cell? ⟨b2, o2 + k * 12 + 11, none⟩ = some (.int .i64 (R (k * 12 + 11))) := by have q := hc2 (k * 12 + 11) (by omega); simpa [Nat.add_assoc] using q
    clear hc1 hc2
    subst e1 e2
    have hev := eq_body0 (R (k * 12)) (R (k * 12 + 1)) (R (k * 12 + 2)) (R (k * 12 + 3)) (R (k * 12 + 4)) (R (k * 12 + 5)) (R (k * 12 + 6)) (R (k * 12 + 7)) (R (k * 12 + 8)) (R (k * 12 + 9)) (R (k * 12 + 10)) (R (k * 12 + 11))
    go_upto_region 6 with fail
    refine wp_region_held_drew (S := fun w' => w'.cell? ⟨b1, o1 + k * 12, none⟩ = some (.int .i64 (R (k * 12))) ∧ w'.cell? ⟨b1, o1 + k * 12 + 1, none⟩ = some (.int .i64 (R (k * 12 + 1))) ∧ w'.cell? ⟨b1, o1 + k * 12 + 2, none⟩ = some (.int .i64 (R (k * 12 + 2))) ∧ w'.cell? ⟨b1, o1 + k * 12 + 3, none⟩ = some (.int .i64 (R (k * 12 + 3))) ∧ w'.cell? ⟨b1, o1 + k * 12 + 4, none⟩ = some (.int .i64 (R (k * 12 + 4))) ∧ w'.cell? ⟨b1, o1 + k * 12 + 5, none⟩ = some (.int .i64 (R (k * 12 + 5))) ∧ w'.cell? ⟨b1, o1 + k * 12 + 6, none⟩ = some (.int .i64 (R (k * 12 + 6))) ∧ w'.cell? ⟨b1, o1 + k * 12 + 7, none⟩ = some (.int .i64 (R (k * 12 + 7))) ∧ w'.cell? ⟨b1, o1 + k * 12 + 8, none⟩ = some (.int .i64 (R (k * 12 + 8))) ∧ w'.cell? ⟨b1, o1 + k * 12 + 9, none⟩ = some (.int .i64 (R (k * 12 + 9))) ∧ w'.cell? ⟨b1, o1 + k * 12 + 10, none⟩ = some (.int .i64 (R (k * 12 + 10))) ∧ w'.cell? ⟨b1, o1 + k * 12 + 11, none⟩ = some (.int .i64 (R (k * 12 + 11))) ∧ w'.cell? ⟨b2, o2 + k * 12, none⟩ = some (.int .i64 (R (k * 12))) ∧ w'.cell? ⟨b2, o2 + k * 12 + 1, none⟩ = some (.int .i64 (R (k * 12 + 1))) ∧ w'.cell? ⟨b2, o2 + k * 12 + 2, none⟩ = some (.int .i64 (R (k * 12 + 2))) ∧ w'.cell? ⟨b2, o2 + k * 12 + 3, none⟩ = some (.int .i64 (R (k * 12 + 3))) ∧ w'.cell? ⟨b2, o2 + k * 12 + 4, none⟩ = some (.int .i64 (R (k * 12 + 4))) ∧ w'.cell? ⟨b2, o2 + k * 12 + 5, none⟩ = some (.int .i64 (R (k * 12 + 5))) ∧ w'.cell? ⟨b2, o2 + k * 12 + 6, none⟩ = some (.int .i64 (R (k * 12 + 6))) ∧ w'.cell? ⟨b2, o2 + k * 12 + 7, none⟩ = some (.int .i64 (R (k * 12 + 7))) ∧ w'.cell? ⟨b2, o2 + k * 12 + 8, none⟩ = some (.int .i64 (R (k * 12 + 8))) ∧ w'.cell? ⟨b2, o2 + k * 12 + 9, none⟩ = some (.int .i64 (R (k * 12 + 9))) ∧ w'.cell? ⟨b2, o2 + k * 12 + 10, none⟩ = some (.int .i64 (R (k * 12 + 10))) ∧ w'.cell? ⟨b2, o2 + k * 12 + 11, none⟩ = some (.int .i64 (R (k * 12 + 11)))) (by kernel_rfl) ?_ (fun hHeld => ?_)
    · (try dsimp only)
      (first | (go_simp; done) | (go_keep; done))
    refine tq 0 hHeld ?_
    refine tq 1 hHeld ?_
    refine tq 2 hHeld ?_
    refine tq 3 hHeld ?_
    refine tq 4 hHeld ?_
    refine tq 5 hHeld ?_
    refine tq 6 hHeld ?_
    refine tq 7 hHeld ?_
    refine tq 8 hHeld ?_
    refine wpAnyH_done (by kernel_rfl) ?_ _
    go_wp2_with fail
    go_roundw
    case rel => exact ⟨k + 1, by omega, by go_num, hw.drew⟩
    case measure => simp [intOf]; omega
  · obtain rfl : k = N := by omega
    go_wp2_with fail
    go_ret
    exact ⟨rfl, hw⟩
theorem pqPairs_same (a a' : Option Addr) (N c c' : Nat) (R : Nat → Int) (w : World) (h : Flat w a (N * 2) R) (h' : Flat w a' (N * 2) R) (hN : N ≤ 1000) :
 Calls Tryz.prog 39 #[.slice a N c, .slice a' N c'] w fun e w' => e = .returned (.bool true) ∧ Below w.heap.size w w' := by
 have hset := cset_map
 have e0 : ((N : Int) != (N : Int)) = false := by simp
 go_enter Tryz.func39, Tryz.ntmps39
 go_upto_region 4 with fail
 go_loopw [5] (fun s wr => ∃ k : Nat, k ≤ N ∧ s = .int .i64 (k : Int) ∧ Below w.heap.size w wr) (fun s _ => N - (intOf s).toNat)
 case atStart => exact ⟨0, Nat.zero_le _, rfl, Below.refl _ _⟩
 case round =>
  obtain ⟨k, hk, rfl, hw⟩ := hrel
  by_cases hlt : k < N
  · have hkN : (k : Int) < (N : Int) := by omega
    obtain ⟨b1, o1, e1, _, hc1⟩ := (h.below hw) (by omega)
    obtain ⟨b2, o2, e2, _, hc2⟩ := (h'.below hw) (by omega)
    have r0 : wr.cell? ⟨b1, o1 + k * 2, none⟩ = some (.int .i64 (R (k * 2))) := by have q := hc1 (k * 2 + 0) (by omega); simpa [Nat.add_assoc] using q
    have s0 : wr.cell? ⟨b2, o2 + k * 2, none⟩ = some (.int .i64 (R (k * 2))) := by have q := hc2 (k * 2 + 0) (by omega); simpa [Nat.add_assoc] using q
    have r1 : wr.cell? ⟨b1, o1 + k * 2 + 1, none⟩ = some (.int .i64 (R (k * 2 + 1))) := by have q := hc1 (k * 2 + 1) (by omega); simpa [Nat.add_assoc] using q
    have s1 : wr.cell? ⟨b2, o2 + k * 2 + 1, none⟩ = some (.int .i64 (R (k * 2 + 1))) := by have q := hc2 (k * 2 + 1) (by omega); simpa [Nat.add_assoc] using q
    clear hc1 hc2
    subst e1 e2
    have hev : ∀ w, (Op.equalIn 10000 58 (.agg #[.int .i64 (R (k * 2)), .int .i64 (R (k * 2 + 1))]) (.agg #[.int .i64 (R (k * 2)), .int .i64 (R (k * 2 + 1))])).run Tryz.prog w = .ok true w := fun w => by rw [eq_pair0]; simp
    go_upto_region 6 with fail
    refine wp_region_held_drew (S := fun w' => w'.cell? ⟨b1, o1 + k * 2, none⟩ = some (.int .i64 (R (k * 2))) ∧ w'.cell? ⟨b1, o1 + k * 2 + 1, none⟩ = some (.int .i64 (R (k * 2 + 1))) ∧ w'.cell? ⟨b2, o2 + k * 2, none⟩ = some (.int .i64 (R (k * 2))) ∧ w'.cell? ⟨b2, o2 + k * 2 + 1, none⟩ = some (.int .i64 (R (k * 2 + 1)))) (by kernel_rfl) ?_ (fun hHeld => ?_)
    · (try dsimp only)
      (first | (go_simp; done) | (go_keep; done))
    refine tq 0 hHeld ?_
    refine tq 1 hHeld ?_
    refine tq 2 hHeld ?_
    refine tq 3 hHeld ?_
    refine tq 4 hHeld ?_
    refine tq 5 hHeld ?_
    refine tq 6 hHeld ?_
    refine tq 7 hHeld ?_
    refine tq 8 hHeld ?_
    refine wpAnyH_done (by kernel_rfl) ?_ _
    go_wp2_with fail
    go_roundw
    case rel => exact ⟨k + 1, by omega, by go_num, hw.drew⟩
    case measure => simp [intOf]; omega
  · obtain rfl : k = N := by omega
    go_wp2_with fail
    go_ret
    exact ⟨rfl, hw⟩
theorem pqWorld_same (T P : Int) (a b : Option Addr) (n c d : Nat) (U : Nat → Int) (a' b' : Option Addr) (m c' d' : Nat) (Q : Nat → Int) (w : World) (h : Flat w a (n * 12) U) (k : Flat w b (n * 12) U) (h' : Flat w a' (m * 2) Q) (k' : Flat w b' (m * 2) Q) (hn : n ≤ 1000) (hm : m ≤ 1000) :
 Calls Tryz.prog 13 #[worldW T P a n c a' m c', worldW T P b n d b' m d'] w fun e w' => e = .returned (.bool true) ∧ Below w.heap.size w w' := by
 have hset := cset_map
 have e0 : (T == T) = true := by simp
 have e1 : (P == P) = true := by simp
 have hE : Below w.heap.size w ((w.alloc (Obj.cells #[.int .i64 T, .int .i64 P, .slice a n c, .slice a' m c'] 26)).alloc (Obj.cells #[.int .i64 T, .int .i64 P, .slice b n d, .slice b' m d'] 26)) := ((Below.refl _ _).alloc (Nat.le_refl _) _).alloc (by simp) _
 have h1 := h.below hE
 have k1 := k.below hE
 have h1' := h'.below hE
 have k1' := k'.below hE
 go_enter Tryz.func13, Tryz.ntmps13
 go_wp2_with (first
  | (have _ := hb1; go_at_call 39; refine (pqPairs_same a' b' m c' d' Q _ (h1'.below hb1) (k1'.below hb1) hm).mono ?_; rintro e w2 ⟨rfl, hb2⟩)
  | (go_at_call 38; refine (pqBodies_same a b n c d U _ h1 k1 hn).mono ?_; rintro e w1 ⟨rfl, hb1⟩; have y0 := hb1.cell (p := ⟨w.heap.size, 3, none⟩) (by simp; omega); have y1 := hb1.cell (p := ⟨w.heap.size + 1, 3, none⟩) (by simp)))
 go_ret
 exact ⟨rfl, hE.trans ((hb1.mono hE.size).trans (hb2.mono (Nat.le_trans hE.size hb1.size)))⟩
end Go.Proofs.YthijeiehcdoidaaGreat
