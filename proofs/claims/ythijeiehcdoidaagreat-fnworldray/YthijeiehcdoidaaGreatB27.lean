/- Texts of a proof. -/
import Derived.Test.YthijeiehcdoidaaGreatB26
import Derived.Test.YthijeiehcdoidaaGreatB17
import Derived.Deep.RegionHeld3
import Derived.Deep.DeepCutAuto
import Derived.Test.YthijeiehcdoidaaGreatB6
import Derived.Test.YthijeiehcdoidaaGreatB25
import Derived.Test.YthijeiehcdoidaaGreatB13
set_option maxHeartbeats 16000000
set_option maxRecDepth 20000
namespace Go.Proofs.YthijeiehcdoidaaGreat
open Go.RowKit
set_option linter.unusedVariables false
set_option linter.unusedSimpArgs false
def prL (U C : Nat → Int) : Nat → List Int
 | 0 => []
 | k + 1 => prL U C k ++ [U ((C (k * 5)).toNat * 12), U ((C (k * 5 + 1)).toNat * 12)]
theorem flat2 (w : World) (p q : Int) (t : TypeId) : Flat (w.alloc (Obj.cells #[.int .i64 p, .int .i64 q] t)) (some ⟨w.heap.size, 0, none⟩) (1 * 2) (ofL [p, q]) := by
 intro _
 refine ⟨w.heap.size, 0, rfl, by simp, fun j hj => ?_⟩
 rw [Nat.zero_add]
 rcases (show j = 0 ∨ j = 1 by omega) with rfl | rfl <;> (simp only [ofL]; go_simp; (try rfl))
theorem OwnL.keptT {w w' : World} {b1 b2 t1 t2 k1 k2 n1 n2 : Nat} {v1 v2 : Value} {U1 U2 : Nat → Int} (h1 : OwnL w b1 t1 k1 v1 n1 U1) (h2 : OwnL w b2 t2 k2 v2 n2 U2) (ht : t1 ≠ t2) (hg : w.grownBy w' v2.ownBlock) : OwnL w' b1 t1 k1 v1 n1 U1 := by
 refine h1.kept hg ?_
 rcases h1.2 with ⟨q, _⟩ | ⟨g, c, cur, hv, _, hb, _⟩
 · left; rw [q]; rfl
 · right
   intro e
   rw [hv] at e
   rcases h2.2 with ⟨q2, _⟩ | ⟨g2, c2, cur2, hv2, _, hb2, _⟩
   · rw [q2] at e; simp [Value.ownBlock] at e
   · rw [hv2] at e
     simp [Value.ownBlock] at e
     subst e
     rw [hb] at hb2
     simp at hb2
     exact ht hb2.2
theorem balloc' (w : World) (o : Obj) : Below w.heap.size w (w.alloc o) := (Below.refl _ _).alloc (Nat.le_refl _) o
theorem l9Pairs_any (a : Option Addr) (n c : Nat) (U : Nat → Int) (w : World) (h : Flat w a (n * 12) U) (hbb : Bods n U) :
 Calls Tryz.prog 111 #[.slice a n c] w fun e w' => ∃ a1 m c1, e = .returned (.slice a1 m c1) ∧ (m ≤ 144 ∧ (conL (colOf U) n).length = m * 5) ∧ OutL w w' 58 2 a1 m c1 (ofL (prL U (ofL (conL (colOf U) n)) m)) := by
 have hset := cset_map
 have hn12 := hbb.le
 obtain ⟨M, hM0, hM1⟩ := conOut_len (colOf U) n n
 have hM : (conL (colOf U) n).length = M * 5 := hM0
 have hM144 : M ≤ 144 := Nat.le_trans hM1 (Nat.mul_le_mul hn12 hn12)
 clear hM0 hM1
 have hC := con_ct (colOf U) hM
 obtain ⟨C, hCe⟩ : ∃ C, ofL (conL (colOf U) n) = C := ⟨_, rfl⟩
 rw [hCe] at hC ⊢
 have V0 := LsV.new w 58 2
 have h1 := h.below V0.bel
 go_enter Tryz.func111, Tryz.ntmps111
 go_upto_region 2 with fail
 go_cut [4] (fun s4 wc => ∃ a2 c2, s4 = .slice a2 M c2 ∧ OwnL wc w.heap.size 195 5 (.slice a2 M c2) M C ∧ LsV w wc 58 2 (some ⟨w.heap.size, 0, none⟩) 0 0 [])
 case first =>
  go_wp2_with (go_at_call 139; refine (l7Contacts_any a n c U _ h1 hbb.to hn12).mono ?_; rintro e w2 ⟨a2, m2, c2, rfl, hl2, hO2⟩)
  obtain rfl : m2 = M := by omega
  rw [hCe] at hO2
  go_meet
  exact ⟨_, _, rfl, hO2.own.base V0.bel.size, V0.below hO2.bel⟩
 case rest =>
 clear V0 h1
 obtain ⟨a2, c2, rfl, f2w, V0⟩ := hcut
 go_upto_region 4 with fail
 go_loopw [3, 5] (fun s3 s5 wr => ∃ (k : Nat) (a1 : Option Addr) (c1 : Nat), k ≤ M ∧ s5 = .int .i64 (k : Int) ∧ s3 = .slice a1 k c1 ∧ OwnL wr w.heap.size 195 5 (.slice a2 M c2) M C ∧ LsV w wr 58 2 a1 k c1 (prL U C k)) (fun _ s5 _ => M - (intOf s5).toNat)
 case atStart => exact ⟨0, _, _, Nat.zero_le _, rfl, rfl, f2w, V0⟩
 case round =>
  clear V0 f2w
  obtain ⟨k, a1, c1, hk, rfl, rfl, f2, hV⟩ := hrel
  by_cases hlt : k < M
  · have hkm : (k : Int) < (M : Int) := by omega
    have ca := hC.a k hlt
    have cb := hC.b k hlt
    have HP : Shut (prL U C (k + 1) = prL U C k ++ [U ((C (k * 5)).toNat * 12), U ((C (k * 5 + 1)).toNat * 12)]) := by show _ = _; rw [prL]
    obtain ⟨A, hA0⟩ : ∃ A : Nat, C (k * 5) = (A : Int) := ⟨(C (k * 5)).toNat, by omega⟩
    obtain ⟨B, hB0⟩ : ∃ B : Nat, C (k * 5 + 1) = (B : Int) := ⟨(C (k * 5 + 1)).toNat, by omega⟩
    rw [hA0, hB0, Int.toNat_natCast, Int.toNat_natCast] at HP
    rw [hA0] at ca
    rw [hB0] at cb
    have hA : Shut (C (k * 5) = (A : Int)) := hA0
    have hBB : Shut (C (k * 5 + 1) = (B : Int)) := hB0
    clear hA0 hB0
    have hAn : A < n := by omega
    have hBn : B < n := by omega
    have hAi : (A : Int) < (n : Int) := ca.2
    have hBi : (B : Int) < (n : Int) := cb.2
    obtain ⟨b0, o0, e0, _, hc0⟩ := (h.below hV.bel) (by omega)
    obtain ⟨b1, o1, e1, _, hc1⟩ := f2.flat (by omega)
    have r0 : wr.cell? ⟨b1, o1 + k * 5, none⟩ = some (.int .i64 (A : Int)) := by have q := hc1 (k * 5) (by omega); rw [hA.out] at q; simpa [Nat.add_assoc] using q
    have r1 : wr.cell? ⟨b1, o1 + k * 5 + 1, none⟩ = some (.int .i64 (B : Int)) := by have q := hc1 (k * 5 + 1) (by omega); rw [hBB.out] at q; simpa [Nat.add_assoc] using q
    have rA : wr.cell? ⟨b0, o0 + A * 12, none⟩ = some (.int .i64 (U (A * 12))) := by have q := hc0 (A * 12) (by omega); simpa [Nat.add_assoc] using q
    have rB : wr.cell? ⟨b0, o0 + B * 12, none⟩ = some (.int .i64 (U (B * 12))) := by have q := hc0 (B * 12) (by omega); simpa [Nat.add_assoc] using q
    clear hc0 hc1
    subst e0 e1
    go_upto_region 6 with fail
    refine wp_region_held_drew (S := fun w' => w'.cell? ⟨b1, o1 + k * 5, none⟩ = some (.int .i64 (A : Int)) ∧ w'.cell? ⟨b1, o1 + k * 5 + 1, none⟩ = some (.int .i64 (B : Int)) ∧ w'.cell? ⟨b0, o0 + A * 12, none⟩ = some (.int .i64 (U (A * 12))) ∧ w'.cell? ⟨b0, o0 + B * 12, none⟩ = some (.int .i64 (U (B * 12)))) (by kernel_rfl) ?_ (fun hHeld => ?_)
    · (try dsimp only)
      (first | (go_simp; done) | (go_keep; done))
    refine tq 0 hHeld ?_
    refine tq 1 hHeld ?_
    refine tq 2 hHeld ?_
    refine tq 3 hHeld ?_
    refine tq 4 hHeld ?_
    refine tq 5 hHeld ?_
    refine tq 6 hHeld ?_
    refine tq 7 hHeld ?_
    refine tq 8 hHeld ?_
    refine tq 9 hHeld ?_
    refine tq 10 hHeld ?_
    refine tq 11 hHeld ?_
    refine tq 12 hHeld ?_
    refine tq 13 hHeld ?_
    refine tq 14 hHeld ?_
    refine tq 15 hHeld ?_
    refine tq 16 hHeld ?_
    refine tq 17 hHeld ?_
    refine tq 18 hHeld ?_
    refine tq 19 hHeld ?_
    refine tc 20 fun K hK => ?_
    (go_simp
     have hE : Below wr.heap.size wr (wr.alloc (Obj.cells #[.int .i64 (U (A * 12)), .int .i64 (U (B * 12))] 58)).drew := Below.drew (balloc' wr _)
     have hVE := hV.below hE
     have f2E := f2.below hE
     have hF : Flat (wr.alloc (Obj.cells #[.int .i64 (U (A * 12)), .int .i64 (U (B * 12))] 58)).drew (some ⟨wr.heap.size, 0, none⟩) (1 * 2) (ofL [U (A * 12), U (B * 12)]) := flat2 wr _ _ _
     clear r0 r1 rA rB hV f2
     have hV := hVE
     have f2 := f2E
     clear hVE hE f2E
     generalize (wr.alloc (Obj.cells #[.int .i64 (U (A * 12)), .int .i64 (U (B * 12))] 58)).drew = w6 at hV hF f2 ⊢
     generalize wr.heap.size = eb at hF ⊢
     obtain ⟨b0', o0', e0', _, hc0⟩ := (h.below hV.bel) (by omega)
     cases e0'
     obtain ⟨b1', o1', e1', _, hc1⟩ := f2.flat (by omega)
     cases e1'
     have r0 : w6.cell? ⟨b1, o1 + k * 5, none⟩ = some (.int .i64 (A : Int)) := by have q := hc1 (k * 5) (by omega); rw [hA.out] at q; simpa [Nat.add_assoc] using q
     have r1 : w6.cell? ⟨b1, o1 + k * 5 + 1, none⟩ = some (.int .i64 (B : Int)) := by have q := hc1 (k * 5 + 1) (by omega); rw [hBB.out] at q; simpa [Nat.add_assoc] using q
     have rA : w6.cell? ⟨b0, o0 + A * 12, none⟩ = some (.int .i64 (U (A * 12))) := by have q := hc0 (A * 12) (by omega); simpa [Nat.add_assoc] using q
     have rB : w6.cell? ⟨b0, o0 + B * 12, none⟩ = some (.int .i64 (U (B * 12))) := by have q := hc0 (B * 12) (by omega); simpa [Nat.add_assoc] using q
     clear hc0 hc1
     refine tr hK (fun hHeld => ?_)
     clear hK K)
    refine tc 21 fun K hK => ?_
    (refine step_app rfl _ _ _ rfl w.heap.size 58 2 16 zcPair Tryz.underlying24 infoItPair rfl (by decide) (.slice a1 k c1) k (ofL (prL U C k)) rfl hV.own (some ⟨eb, 0, none⟩) 1 1 (ofL [U (A * 12), U (B * 12)]) rfl hF (by unfold maxLen; omega) (by omega) hV.bel.size ?_
     intro a7 c7 w7 ho7 hg7
     have hV7 := hV.push (x := [U (A * 12), U (B * 12)]) rfl hg7 ho7
     have f27 := f2.keptT hV.own (by decide) hg7
     clear r0 r1 rA rB hV hF f2
     have hV := hV7
     have f2 := f27
     clear hV7 ho7 hg7 f27
     obtain ⟨b0', o0', e0', _, hc0⟩ := (h.below hV.bel) (by omega)
     cases e0'
     obtain ⟨b1', o1', e1', _, hc1⟩ := f2.flat (by omega)
     cases e1'
     have r0 : w7.cell? ⟨b1, o1 + k * 5, none⟩ = some (.int .i64 (A : Int)) := by have q := hc1 (k * 5) (by omega); rw [hA.out] at q; simpa [Nat.add_assoc] using q
     have r1 : w7.cell? ⟨b1, o1 + k * 5 + 1, none⟩ = some (.int .i64 (B : Int)) := by have q := hc1 (k * 5 + 1) (by omega); rw [hBB.out] at q; simpa [Nat.add_assoc] using q
     have rA : w7.cell? ⟨b0, o0 + A * 12, none⟩ = some (.int .i64 (U (A * 12))) := by have q := hc0 (A * 12) (by omega); simpa [Nat.add_assoc] using q
     have rB : w7.cell? ⟨b0, o0 + B * 12, none⟩ = some (.int .i64 (U (B * 12))) := by have q := hc0 (B * 12) (by omega); simpa [Nat.add_assoc] using q
     clear hc0 hc1
     refine tr hK (fun hHeld => ?_)
     clear hK K)
    refine tq 22 hHeld ?_
    refine wpAnyH_done (by kernel_rfl) ?_ _
    go_wp2_with fail
    go_roundw
    case rel => exact ⟨k + 1, _, _, by omega, by go_num, rfl, f2, by rw [HP.out]; exact hV⟩
    case measure => simp [intOf]; omega
  · obtain rfl : k = M := by omega
    go_wp2_with fail
    go_ret
    exact ⟨_, _, _, rfl, ⟨hM144, hM⟩, hV.bel, hV.own⟩
theorem l10Copy_any (T P : Int) (a : Option Addr) (n c : Nat) (U : Nat → Int) (a' : Option Addr) (m c' : Nat) (Q : Nat → Int) (w : World) (h : Flat w a (n * 12) U) (h' : Flat w a' (m * 2) Q) (hn : n ≤ 1048576) (hm : m ≤ 1048576) :
 Calls Tryz.prog 37 #[worldW T P a n c a' m c'] w fun e w' => ∃ a1 c1 a2 c2, e = .returned (worldW T P a1 n c1 a2 m c2) ∧ OutW w w' a1 n c1 U a2 m c2 Q := by
 have hset := cset_map
 go_enter Tryz.func37, Tryz.ntmps37
 go_upto_region 1 with fail
 refine wp_region_held_drew (S := fun w' => w'.cell? ⟨w.heap.size, 0, none⟩ = some (.int .i64 T) ∧ w'.cell? ⟨w.heap.size, 1, none⟩ = some (.int .i64 P) ∧ w'.cell? ⟨w.heap.size, 2, none⟩ = some (.slice a n c) ∧ w'.cell? ⟨w.heap.size, 3, none⟩ = some (.slice a' m c')) (by kernel_rfl) ?_ (fun hHeld => ?_)
 · (try dsimp only)
   (first | (go_simp; done) | (go_keep; done))
 refine tq 0 hHeld ?_
 refine tq 1 hHeld ?_
 refine tq 2 hHeld ?_
 refine tq 3 hHeld ?_
 refine tq 4 hHeld ?_
 refine tq 5 hHeld ?_
 refine tq 8 hHeld ?_
 refine tq 9 hHeld ?_
 refine wpAnyH_ready (rs := [6, 7]) (by kernel_rfl) (by simp) ?_
 refine AllReadyH.cons rfl (fun K hK => ?_) (AllReadyH.cons rfl (fun K hK => ?_) AllReadyH.nil)
 focus
  (go_simp; (go_at_call 72; refine (l8Copy_any a n c U _ (h.below (bel_a)) hn).mono ?_; rintro e w1 ⟨a1, c1, rfl, hO1⟩; have hb1 := hO1.bel; obtain ⟨hc1, hf1⟩ := bcell hb1; have hz1 := hb1.size; (try simp only [zz] at hc1 hf1 hz1); have hk1x0 := fun o => hc1 (w.heap.size) o (by omega); have hk1x1 := fun o => hc1 (w.heap.size + 1) o (by omega); have hj1x1 := fun o => hf1 (w.heap.size + 1) o (by omega); have hq1x1 : w.heap.size + 1 < w1.heap.size := (by omega)); (try go_wp2_with fail); refine tr hK (fun hHeld => ?_); clear hK K)
  refine tc 7 fun K hK => ?_
  (go_simp; refine tr hK (fun hHeld => ?_); clear hK K)
  refine tc 10 fun K hK => ?_
  have hp : OwnL (w1.alloc (.cells #[] 58)) (w.heap.size + 1 + 1) 58 2 (.slice (some ⟨w1.heap.size, 0, none⟩) 0 0) 0 (fun _ => 0) := OwnL.fresh0 _ _ _ _ _ _ rfl (by omega)
  have hE2 : Below w.heap.size w (w1.alloc (.cells #[] 58)) := bel_a
  have ho1x : OwnL (w1.alloc (.cells #[] 58)) (w.heap.size + 1 + 1) 41 12 (.slice a1 n c1) n U := (hO1.own.below (bel_a)).base (by first | omega | (simp; done) | (simp; omega))
  refine step_app0 (by rfl) _ _ _ (by rfl) (w.heap.size + 1 + 1) 58 2 16 zcPair Tryz.underlying24 infoItPair (by rfl) (by decide) _ (fun _ => 0) (by rfl) hp _ m _ Q (by rfl) (h'.below hE2) (by unfold maxLen; omega) (by omega) (by first | omega | (simp; done) | (simp; omega)) ?_
  intro a2 c2 w2 ho2 hg2
  have hz2 := hg2.size
  (try simp only [World.size_alloc] at hz2)
  have hb2 : Below w.heap.size w w2 := hE2.grown hg2 (by first | omega | (simp; omega)) (fun b e => by have := (hp.lt b e).1; omega)
  have ho1z : OwnL w2 (w.heap.size + 1 + 1) 41 12 (.slice a1 n c1) n U := ho1x.kept hg2 (.inr (fun e => by have := hO1.own.lt (w1.heap.size) e; simp at this; try omega))
  have f2 : ∀ b o, b < w.heap.size + 1 + 1 → w2.cell? ⟨b, o, none⟩ = World.cell? (w1.alloc (.cells #[] 58)) ⟨b, o, none⟩ := fun b o hb => hg2.cell_far ⟨b, o, none⟩ (by first | omega | (simp; done) | (simp; omega)) (fun e => by simp [Value.ownBlock] at e; try omega)
  have g2 : ∀ o, w2.frozen? ⟨w.heap.size + 1, o, none⟩ = World.frozen? (w1.alloc (.cells #[] 58)) ⟨w.heap.size + 1, o, none⟩ := fun o => hg2.frozen_far ⟨w.heap.size + 1, o, none⟩ (by first | omega | (simp; done) | (simp; omega)) (fun e => by simp [Value.ownBlock] at e; try omega)
 rotate_left
 focus
  (go_simp; refine tr hK (fun hHeld => ?_); clear hK K)
  refine tc 6 fun K hK => ?_
  (go_simp; (go_at_call 72; refine (l8Copy_any a n c U _ (h.below (bel_a)) hn).mono ?_; rintro e w1 ⟨a1, c1, rfl, hO1⟩; have hb1 := hO1.bel; obtain ⟨hc1, hf1⟩ := bcell hb1; have hz1 := hb1.size; (try simp only [zz] at hc1 hf1 hz1); have hk1x0 := fun o => hc1 (w.heap.size) o (by omega); have hk1x1 := fun o => hc1 (w.heap.size + 1) o (by omega); have hj1x1 := fun o => hf1 (w.heap.size + 1) o (by omega); have hq1x1 : w.heap.size + 1 < w1.heap.size := (by omega)); (try go_wp2_with fail); refine tr hK (fun hHeld => ?_); clear hK K)
  refine tc 10 fun K hK => ?_
  have hp : OwnL w1 (w.heap.size + 1 + 1) 58 2 (.slice (some ⟨w.heap.size + 1 + 1, 0, none⟩) 0 0) 0 (fun _ => 0) := (OwnL.fresh0 _ _ _ _ _ _ (by simp) (by first | omega | (simp; done) | (simp; omega))).drewO.below hb1
  have hE2 : Below w.heap.size w w1 := bel_a
  have ho1x : OwnL w1 (w.heap.size + 1 + 1) 41 12 (.slice a1 n c1) n U := (hO1.own.below (bel_a)).base (by first | omega | (simp; done) | (simp; omega))
  refine step_app0 (by rfl) _ _ _ (by rfl) (w.heap.size + 1 + 1) 58 2 16 zcPair Tryz.underlying24 infoItPair (by rfl) (by decide) _ (fun _ => 0) (by rfl) hp _ m _ Q (by rfl) (h'.below hE2) (by unfold maxLen; omega) (by omega) (by first | omega | (simp; done) | (simp; omega)) ?_
  intro a2 c2 w2 ho2 hg2
  have hz2 := hg2.size
  (try simp only [World.size_alloc] at hz2)
  have hb2 : Below w.heap.size w w2 := hE2.grown hg2 (by first | omega | (simp; omega)) (fun b e => by have := (hp.lt b e).1; omega)
  have ho1z : OwnL w2 (w.heap.size + 1 + 1) 41 12 (.slice a1 n c1) n U := ho1x.kept hg2 (.inr (fun e => by have := hO1.own.lt (w.heap.size + 1 + 1) e; simp at this; try omega))
  have f2 : ∀ b o, b < w.heap.size + 1 + 1 → w2.cell? ⟨b, o, none⟩ = World.cell? w1 ⟨b, o, none⟩ := fun b o hb => hg2.cell_far ⟨b, o, none⟩ (by first | omega | (simp; done) | (simp; omega)) (fun e => by simp [Value.ownBlock] at e; try omega)
  have g2 : ∀ o, w2.frozen? ⟨w.heap.size + 1, o, none⟩ = World.frozen? w1 ⟨w.heap.size + 1, o, none⟩ := fun o => hg2.frozen_far ⟨w.heap.size + 1, o, none⟩ (by first | omega | (simp; done) | (simp; omega)) (fun e => by simp [Value.ownBlock] at e; try omega)
 all_goals
  have hq2 : w.heap.size + 1 < w2.heap.size := by omega
  have s0 : w2.cell? ⟨w.heap.size, 0, none⟩ = some (.int .i64 T) := (f2 _ _ (by omega)).trans (by go_simp)
  have s1 : w2.cell? ⟨w.heap.size, 1, none⟩ = some (.int .i64 P) := (f2 _ _ (by omega)).trans (by go_simp)
  have s2 : w2.cell? ⟨w.heap.size, 2, none⟩ = some (.slice a n c) := (f2 _ _ (by omega)).trans (by go_simp)
  have s3 : w2.cell? ⟨w.heap.size, 3, none⟩ = some (.slice a' m c') := (f2 _ _ (by omega)).trans (by go_simp)
  have u0 : w2.cell? ⟨w.heap.size + 1, 0, none⟩ = some (.int .i64 0) := (f2 _ _ (by omega)).trans (by go_simp)
  have u1 : w2.cell? ⟨w.heap.size + 1, 1, none⟩ = some (.int .i64 0) := (f2 _ _ (by omega)).trans (by go_simp)
  have u2 : w2.cell? ⟨w.heap.size + 1, 2, none⟩ = some (.slice none 0 0) := (f2 _ _ (by omega)).trans (by go_simp)
  have u3 : w2.cell? ⟨w.heap.size + 1, 3, none⟩ = some (.slice none 0 0) := (f2 _ _ (by omega)).trans (by go_simp)
  have v0 : w2.frozen? ⟨w.heap.size + 1, 0, none⟩ = false := (g2 _).trans (by go_simp)
  have v1 : w2.frozen? ⟨w.heap.size + 1, 1, none⟩ = false := (g2 _).trans (by go_simp)
  have v2 : w2.frozen? ⟨w.heap.size + 1, 2, none⟩ = false := (g2 _).trans (by go_simp)
  have v3 : w2.frozen? ⟨w.heap.size + 1, 3, none⟩ = false := (g2 _).trans (by go_simp)
  clear f2 g2
  refine tr hK (fun hHeld => ?_) ⟨s0, s1, s2, s3⟩
  clear hK K
  refine tq 11 hHeld ?_
  refine tc 12 fun K hK => ?_
  (go_simp; refine tr hK (fun hHeld => ?_); clear hK K)
  refine wpAnyH_done (by kernel_rfl) ?_ _
  go_wp2_with fail
  exact bodyPost_ret (v := worldW T P a1 n c1 a2 m c2) (by simp [results, Tryz.results37, go_sem, *]) rfl ⟨_, _, _, _, rfl, bel_a, ((((ho1z.setO (by first | omega | (simp; done) | (simp; omega)) _).setO (by first | omega | (simp; done) | (simp; omega)) _).setO (by first | omega | (simp; done) | (simp; omega)) _).setO (by first | omega | (simp; done) | (simp; omega)) _).base (by first | omega | (simp; done) | (simp; omega)), ((((ho2.setO (by first | omega | (simp; done) | (simp; omega)) _).setO (by first | omega | (simp; done) | (simp; omega)) _).setO (by first | omega | (simp; done) | (simp; omega)) _).setO (by first | omega | (simp; done) | (simp; omega)) _).base (by first | omega | (simp; done) | (simp; omega)), ho1z.neT ho2 (by decide)⟩
end Go.Proofs.YthijeiehcdoidaaGreat
