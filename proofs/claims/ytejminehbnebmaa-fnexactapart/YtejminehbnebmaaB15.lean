/- What a body takes of a way apart, by the program. A contract of spans. How two round shapes touch, by the program; what it is made of. Two bodies of columns, moved apart, by the program. All meetings of a ring, moved apart. -/
import Derived.Test.YtejminehbnebmaaKMv
import Derived.Test.YtejminehbnebmaaB13
import Derived.Deep.RegionHeld3
import Derived.Deep.DeepCutAuto
import Derived.Test.YtejminehbnebmaaB3
import Derived.Deep.QuietTactic
import Derived.BigQuiet
import Derived.Deep.RegionWith
import Derived.Test.YtejminehbnebmaaB4
namespace Go.Proofs.Ytejminehbnebmaa
open Go.RowKit
set_option linter.unusedVariables false
set_option linter.unusedSimpArgs false

set_option maxRecDepth 20000 in
set_option maxHeartbeats 8000000 in
theorem kShare {cb n k l : Nat} {V1 V2 : Nat → Int} {G : Nat → Nat} {w : World} (h1 : HAt w cb n k V1 G) (h2 : HAt w cb n l V2 G) (m x : Int) (a0 : 0 ≤ V1 8 ∧ V1 8 ≤ 1000) (a1 : 0 ≤ V2 8 ∧ V2 8 ≤ 1000) (hm : -30000 ≤ m ∧ m ≤ 30000) (ex : shareV V1 V2 m = x) :
    Calls Try.prog 55 #[hdk cb k, .int .i64 m, hdk cb l] w fun e w' => e = .returned (.int .i64 x) ∧ Below w.heap.size w w' := by
  have hset := cset_map
  have l1 := h1.cbl
  subst ex
  unfold shareV
  have p2 := mul_bd (a := m) (b := V2 8) (A := 30000) (B := 1000) (by omega) (by omega)
  have p5 := tdiv_bd (x := m * V2 8) (B := 30000000) (V1 8 + V2 8) (by omega)
  by_cases z1 : V1 8 = 0
  · have d1 : decide (V1 8 = 0) = true := decide_eq_true z1
    rw [d1, cond_true]
    go_enter Try.func55, Try.ntmps55
    go_wp2_with (go_at_call 76; refine (kFixed (h1.below (bel_a))).mono ?_; rintro e w1 ⟨rfl, hb1⟩; obtain ⟨hc1, hf1⟩ := bcell hb1; have hz1 := hb1.size; (try simp only [World.size_drew, World.size_alloc, World.size_setCell] at hc1 hf1 hz1); have hk1x0 := fun o => hc1 (w.heap.size) o (by omega); have hj1x0 := fun o => hf1 (w.heap.size) o (by omega); have hq1x0 : w.heap.size < w1.heap.size := (by omega); have hk1x1 := fun o => hc1 (w.heap.size + 1) o (by omega); have hj1x1 := fun o => hf1 (w.heap.size + 1) o (by omega); have hq1x1 : w.heap.size + 1 < w1.heap.size := (by omega); clear hc1 hf1)
    exact bodyPost_ret (v := .int .i64 0) (by simp [results, Try.results55, go_sem, *]) rfl ⟨rfl, bel_a⟩
  · have d1 : decide (V1 8 = 0) = false := decide_eq_false z1
    rw [d1, cond_false]
    by_cases z2 : V2 8 = 0
    · have d2 : decide (V2 8 = 0) = true := decide_eq_true z2
      rw [d2, cond_true]
      go_enter Try.func55, Try.ntmps55
      go_wp2_with (first
    | (have _ := hb1; go_at_call 76; refine (kFixed (h2.below (bel_a))).mono ?_; rintro e w2 ⟨rfl, hb2⟩; obtain ⟨hc2, hf2⟩ := bcell hb2; have hz2 := hb2.size; (try simp only [World.size_drew, World.size_alloc, World.size_setCell] at hc2 hf2 hz2); have hk2x0 := fun o => hc2 (w.heap.size) o (by omega); have hj2x0 := fun o => hf2 (w.heap.size) o (by omega); have hq2x0 : w.heap.size < w2.heap.size := (by omega); have hk2x1 := fun o => hc2 (w.heap.size + 1) o (by omega); have hj2x1 := fun o => hf2 (w.heap.size + 1) o (by omega); have hq2x1 : w.heap.size + 1 < w2.heap.size := (by omega); clear hc2 hf2)
    | (go_at_call 76; refine (kFixed (h1.below (bel_a))).mono ?_; rintro e w1 ⟨rfl, hb1⟩; obtain ⟨hc1, hf1⟩ := bcell hb1; have hz1 := hb1.size; (try simp only [World.size_drew, World.size_alloc, World.size_setCell] at hc1 hf1 hz1); have hk1x0 := fun o => hc1 (w.heap.size) o (by omega); have hj1x0 := fun o => hf1 (w.heap.size) o (by omega); have hq1x0 : w.heap.size < w1.heap.size := (by omega); have hk1x1 := fun o => hc1 (w.heap.size + 1) o (by omega); have hj1x1 := fun o => hf1 (w.heap.size + 1) o (by omega); have hq1x1 : w.heap.size + 1 < w1.heap.size := (by omega); clear hc1 hf1))
      exact bodyPost_ret (v := .int .i64 m) (by simp [results, Try.results55, go_sem, *]) rfl ⟨rfl, bel_a⟩
    · have d2 : decide (V2 8 = 0) = false := decide_eq_false z2
      rw [d2, cond_false]
      have z3 : (V1 8 + V2 8 = 0) = False := eq_false (by omega)
      have z4 : ¬ V1 8 + V2 8 = 0 := by omega
      have w1_ : IntKind.i64.wrap (m * V2 8) = m * V2 8 := i64w (by omega)
      have w2_ : IntKind.i64.wrap (V1 8 + V2 8) = V1 8 + V2 8 := i64w (by omega)
      have w3_ : IntKind.i64.wrap ((m * V2 8).tdiv (V1 8 + V2 8)) = (m * V2 8).tdiv (V1 8 + V2 8) := i64w (by omega)
      go_enter Try.func55, Try.ntmps55
      go_upto_region 5 with (first
    | (have _ := hb1; go_at_call 76; refine (kFixed (h2.below (bel_a))).mono ?_; rintro e w2 ⟨rfl, hb2⟩; obtain ⟨hc2, hf2⟩ := bcell hb2; have hz2 := hb2.size; (try simp only [World.size_drew, World.size_alloc, World.size_setCell] at hc2 hf2 hz2); have hk2x0 := fun o => hc2 (w.heap.size) o (by omega); have hj2x0 := fun o => hf2 (w.heap.size) o (by omega); have hq2x0 : w.heap.size < w2.heap.size := (by omega); have hk2x1 := fun o => hc2 (w.heap.size + 1) o (by omega); have hj2x1 := fun o => hf2 (w.heap.size + 1) o (by omega); have hq2x1 : w.heap.size + 1 < w2.heap.size := (by omega); clear hc2 hf2)
    | (go_at_call 76; refine (kFixed (h1.below (bel_a))).mono ?_; rintro e w1 ⟨rfl, hb1⟩; obtain ⟨hc1, hf1⟩ := bcell hb1; have hz1 := hb1.size; (try simp only [World.size_drew, World.size_alloc, World.size_setCell] at hc1 hf1 hz1); have hk1x0 := fun o => hc1 (w.heap.size) o (by omega); have hj1x0 := fun o => hf1 (w.heap.size) o (by omega); have hq1x0 : w.heap.size < w1.heap.size := (by omega); have hk1x1 := fun o => hc1 (w.heap.size + 1) o (by omega); have hj1x1 := fun o => hf1 (w.heap.size + 1) o (by omega); have hq1x1 : w.heap.size + 1 < w1.heap.size := (by omega); clear hc1 hf1))
      refine wp_region_held_drew (S := fun w' => w'.cell? ⟨w.heap.size, 0, none⟩ = some (.int .i64 (k : Int)) ∧ w'.cell? ⟨w.heap.size, 1, none⟩ = some (.pointer (some ⟨cb, 0, none⟩)) ∧ w'.cell? ⟨w.heap.size + 1, 0, none⟩ = some (.int .i64 (l : Int)) ∧ w'.cell? ⟨w.heap.size + 1, 1, none⟩ = some (.pointer (some ⟨cb, 0, none⟩))) (by kernel_rfl) ?_ (fun hHeld => ?_)
      · (try dsimp only)
        (first | (go_simp; done) | (go_keep; done))
      refine tq 0 hHeld ?_
      refine tq 1 hHeld ?_
      refine tq 4 hHeld ?_
      refine tq 6 hHeld ?_
      (refine tc 2 fun K hK => ?_; go_simp; (go_at_call 60; refine (kMass (h2.below (bel_a))).mono ?_; rintro e w3 ⟨rfl, hb3⟩; obtain ⟨hc3, hf3⟩ := bcell hb3; have hz3 := hb3.size; (try simp only [World.size_drew, World.size_alloc, World.size_setCell] at hc3 hf3 hz3); have hk3x0 := fun o => hc3 (w.heap.size) o (by omega); have hj3x0 := fun o => hf3 (w.heap.size) o (by omega); have hq3x0 : w.heap.size < w3.heap.size := (by omega); have hk3x1 := fun o => hc3 (w.heap.size + 1) o (by omega); have hj3x1 := fun o => hf3 (w.heap.size + 1) o (by omega); have hq3x1 : w.heap.size + 1 < w3.heap.size := (by omega); clear hc3 hf3); (try go_wp2_with fail); refine tr hK (fun hHeld => ?_); clear hK K)
      refine tq 3 hHeld ?_
      (refine tc 5 fun K hK => ?_; go_simp; (go_at_call 60; refine (kMass (h1.below (bel_a))).mono ?_; rintro e w4 ⟨rfl, hb4⟩; obtain ⟨hc4, hf4⟩ := bcell hb4; have hz4 := hb4.size; (try simp only [World.size_drew, World.size_alloc, World.size_setCell] at hc4 hf4 hz4); have hk4x0 := fun o => hc4 (w.heap.size) o (by omega); have hj4x0 := fun o => hf4 (w.heap.size) o (by omega); have hq4x0 : w.heap.size < w4.heap.size := (by omega); have hk4x1 := fun o => hc4 (w.heap.size + 1) o (by omega); have hj4x1 := fun o => hf4 (w.heap.size + 1) o (by omega); have hq4x1 : w.heap.size + 1 < w4.heap.size := (by omega); clear hc4 hf4); (try go_wp2_with fail); refine tr hK (fun hHeld => ?_); clear hK K)
      (refine tc 7 fun K hK => ?_; go_simp; (go_at_call 60; refine (kMass (h2.below (bel_a))).mono ?_; rintro e w5 ⟨rfl, hb5⟩; obtain ⟨hc5, hf5⟩ := bcell hb5; have hz5 := hb5.size; (try simp only [World.size_drew, World.size_alloc, World.size_setCell] at hc5 hf5 hz5); have hk5x0 := fun o => hc5 (w.heap.size) o (by omega); have hj5x0 := fun o => hf5 (w.heap.size) o (by omega); have hq5x0 : w.heap.size < w5.heap.size := (by omega); have hk5x1 := fun o => hc5 (w.heap.size + 1) o (by omega); have hj5x1 := fun o => hf5 (w.heap.size + 1) o (by omega); have hq5x1 : w.heap.size + 1 < w5.heap.size := (by omega); clear hc5 hf5); (try go_wp2_with fail); refine tr hK (fun hHeld => ?_); clear hK K)
      refine tq 8 hHeld ?_
      refine tq 9 hHeld ?_
      refine tq 10 hHeld ?_
      refine wpAnyH_done (by kernel_rfl) ?_ _
      go_wp2_with fail
      exact bodyPost_ret (v := .int .i64 ((m * V2 8).tdiv (V1 8 + V2 8))) (by simp [results, Try.results55, go_sem, *]) rfl ⟨rfl, bel_a⟩
end Go.Proofs.Ytejminehbnebmaa
namespace Go.Proofs.Ytejminehbnebmaa
open Go.RowKit
set_option linter.unusedVariables false
set_option linter.unusedSimpArgs false

end Go.Proofs.Ytejminehbnebmaa
namespace Go.Proofs.Ytejminehbnebmaa
open Go.RowKit
set_option linter.unusedVariables false
set_option linter.unusedSimpArgs false

set_option maxHeartbeats 4000000 in
theorem opp_z (x y : Int) (w : World) (hx : -2000000000 ≤ x ∧ x ≤ 2000000000) (hy : -2000000000 ≤ y ∧ y ≤ 2000000000) :
    Calls Try.prog 53 #[vv x y] w fun e w' => e = .returned (vv (-x) (-y)) ∧ Below w.heap.size w w' := by
  have hset := cset_map
  have w1 := i64w (n := -x) (by omega)
  have w2 := i64w (n := -y) (by omega)
  go_enter Try.func53, Try.ntmps53
  go_wp2_with fail
  exact bodyPost_ret (v := vv (-x) (-y)) (by simp [results, Try.results53, go_sem, *]) rfl ⟨rfl, bel_a⟩
end Go.Proofs.Ytejminehbnebmaa
namespace Go.Proofs.Ytejminehbnebmaa
open Go.RowKit
set_option linter.unusedVariables false
set_option linter.unusedSimpArgs false

theorem wayTimes_z (x y n p q : Int) (w : World) (hx : -1000000000 ≤ x ∧ x ≤ 1000000000) (hy : -1000000000 ≤ y ∧ y ≤ 1000000000) (hn : -1000000000 ≤ n ∧ n ≤ 1000000000) (ep : fc ((x * n).tdiv 256) = p) (eq : fc ((y * n).tdiv 256) = q) :
    Calls Try.prog 54 #[vv x y, .int .i64 n] w fun e w' => e = .returned (vv p q) ∧ Below w.heap.size w w' := by
  subst ep eq; exact wayTimes_any x y n w hx hy hn
theorem kMoveU {cb n k : Nat} {U : Nat → Int} {S : Nat → Value} {w : World} (h : Cs w cb n (colOf U) S) (hk : k < n) (hn : n ≤ 1048576) (a4 : -2560000 ≤ U (k * 12 + 4) ∧ U (k * 12 + 4) ≤ 2560000) (a5 : -2560000 ≤ U (k * 12 + 5) ∧ U (k * 12 + 5) ≤ 2560000) (p q : Int) (bp : -20000000 ≤ p ∧ p ≤ 20000000) (bq : -20000000 ≤ q ∧ q ≤ 20000000) :
    Calls Try.prog 52 #[hdk cb k, vv p q] w fun e w' => e = .returned (.tuple #[]) ∧ Cs w' cb n (colOf (putRow U k (moveV (fun j => U (k * 12 + j)) p q))) S ∧ Fr (Xc S) w w' := by
  refine (kMove_c h hk hn p q _ _ _ _ (fun j => U (k * 12 + j)) (fun i => rfl) a4 a5 bp bq rfl rfl rfl rfl).mono ?_
  rintro e w1 ⟨rfl, hC, hF⟩
  refine ⟨rfl, hC.congr fun i j hi hj => ?_, hF⟩
  rw [col_put hi]
  unfold setC moveV mvX mvY setV
  by_cases e : j = k
  · subst e
    simp only [and_true, if_true]
    repeat' split
    all_goals rfl
  · simp only [e, and_false, if_false]
theorem td_sh {x m : Int} (hx : -256 ≤ x ∧ x ≤ 256) (hm : 0 ≤ m ∧ m ≤ 30000) : -30000 ≤ (x * m).tdiv 256 ∧ (x * m).tdiv 256 ≤ 30000 ∧ fc ((x * m).tdiv 256) = (x * m).tdiv 256 := by
  have p := mul_bd (a := x) (b := m) (A := 256) (B := 30000) hx (by omega)
  have t := tdiv_le (x := x * m) (B := 30000) (m := 256) (by omega) (by omega) (by omega)
  exact ⟨t.1, t.2, fc_id (by omega) (by omega)⟩
set_option maxRecDepth 20000 in
set_option maxHeartbeats 8000000 in
theorem mApart {cb n A B : Nat} {U : Nat → Int} {S : Nat → Value} {w : World} (x y d : Int) (h : Cs w cb n (colOf U) S) (hn : n ≤ 1048576) (hAn : A < n) (hBn : B < n) (hAB : A ≠ B) (oA : BOk (fun j => U (A * 12 + j))) (oB : BOk (fun j => U (B * 12 + j))) (hX : -256 ≤ x ∧ x ≤ 256) (hY : -256 ≤ y ∧ y ≤ 256) (hD : 0 ≤ d ∧ d ≤ 102400) :
    Calls Try.prog 36 #[(.agg #[.int .i64 x, .int .i64 y, .int .i64 d, .int .i64 (A : Int), .pointer (some ⟨cb, 0, none⟩), .int .i64 (B : Int), .pointer (some ⟨cb, 0, none⟩)])] w fun e w' => e = .returned (.tuple #[]) ∧ Cs w' cb n (colOf (apartU U A B x y d)) S ∧ Fr (Xc S) w w' := by
  have hset := cset_map
  have hx : ∀ b, w.heap.size ≤ b → ¬ Xc S b := fun b hb x => by have := (h.xlt x).2; omega
  obtain ⟨m, em⟩ : ∃ m, (d - 64).tdiv 4 = m := ⟨_, rfl⟩
  have bm : -30000 ≤ m ∧ m ≤ 30000 := by rw [← em]; exact tdiv_le (by omega) (by omega) (by omega)
  have w1_ : IntKind.i64.wrap (d - 64) = d - 64 := i64w (by omega)
  have w2_ : IntKind.i64.wrap ((d - 64).tdiv 4) = m := by rw [em]; exact i64w (by omega)
  have w3_ : IntKind.i64.wrap m = m := i64w (by omega)
  by_cases hm : 0 < m
  · have hmn : ¬ (m ≤ 0) := by omega
    obtain ⟨sa, esa⟩ : ∃ s, shareV (fun j => U (A * 12 + j)) (fun j => U (B * 12 + j)) m = s := ⟨_, rfl⟩
    obtain ⟨sb, esb⟩ : ∃ s, shareV (fun j => U (B * 12 + j)) (fun j => U (A * 12 + j)) m = s := ⟨_, rfl⟩
    have ba := share_bd (V := (fun j => U (A * 12 + j))) (W := (fun j => U (B * 12 + j))) (n := m) oA.m8.1 oB.m8.1 (by omega)
    have bb := share_bd (V := (fun j => U (B * 12 + j))) (W := (fun j => U (A * 12 + j))) (n := m) oB.m8.1 oA.m8.1 (by omega)
    rw [esa] at ba
    rw [esb] at bb
    obtain ⟨p, ep⟩ : ∃ p, (-x * sa).tdiv 256 = p := ⟨_, rfl⟩
    obtain ⟨q, eq⟩ : ∃ q, (-y * sa).tdiv 256 = q := ⟨_, rfl⟩
    obtain ⟨r, er⟩ : ∃ r, (x * sb).tdiv 256 = r := ⟨_, rfl⟩
    obtain ⟨s, es⟩ : ∃ s, (y * sb).tdiv 256 = s := ⟨_, rfl⟩
    obtain ⟨tp1, tp2, fp⟩ := td_sh (x := -x) (m := sa) (by omega) (by omega)
    obtain ⟨tq1, tq2, fq⟩ := td_sh (x := -y) (m := sa) (by omega) (by omega)
    obtain ⟨tr1, tr2, fr⟩ := td_sh (x := x) (m := sb) (by omega) (by omega)
    obtain ⟨ts1, ts2, fs⟩ := td_sh (x := y) (m := sb) (by omega) (by omega)
    rw [ep] at tp1 tp2
    replace fp := fp.trans ep
    rw [eq] at tq1 tq2
    replace fq := fq.trans eq
    rw [er] at tr1 tr2
    replace fr := fr.trans er
    rw [es] at ts1 ts2
    replace fs := fs.trans es
    have ht := apart_two (U := U) (A := A) (B := B) (x := x) (y := y) (d := d) (p := p) (q := q) (r := r) (s := s) hAB oA oB (by rw [em]; exact hm) (by rw [em, esa]; exact ep) (by rw [em, esa]; exact eq) (by rw [em, esb]; exact er) (by rw [em, esb]; exact es)
    have mA := oA.m8
    have mB := oB.m8
    have hA0 : HAt w cb n A (fun j => U (A * 12 + j)) (gOf S) := h.hat hAn hn
    have hB0 : HAt w cb n B (fun j => U (B * 12 + j)) (gOf S) := h.hat hBn hn
    have l1 := hA0.cbl
    clear ep eq er es
    obtain ⟨U1, eU1⟩ : ∃ U1, putRow U A (moveV (fun j => U (A * 12 + j)) p q) = U1 := ⟨_, rfl⟩
    rw [eU1] at ht
    rw [← ht]
    clear ht
    have r8A : U1 (A * 12 + 8) = U (A * 12 + 8) := by rw [← eU1, row_is 8 (by omega)]; rfl
    have r8B : U1 (B * 12 + 8) = U (B * 12 + 8) := by rw [← eU1, row_else (fun e => hAB e.symm) 8 (by omega)]
    have oB1 : (-2560000 ≤ U1 (B * 12 + 4) ∧ U1 (B * 12 + 4) ≤ 2560000) ∧ (-2560000 ≤ U1 (B * 12 + 5) ∧ U1 (B * 12 + 5) ≤ 2560000) := by rw [← eU1, row_else (fun e => hAB e.symm) 4 (by omega), row_else (fun e => hAB e.symm) 5 (by omega)]; exact ⟨oB.a4, oB.a5⟩
    have esb1 : shareV (fun j => U1 (B * 12 + j)) (fun j => U1 (A * 12 + j)) m = sb := (shareV_congr m r8B r8A).trans esb
    have mA1 : 0 ≤ U1 (A * 12 + 8) ∧ U1 (A * 12 + 8) ≤ 1000 := by rw [r8A]; exact mA
    have mB1 : 0 ≤ U1 (B * 12 + 8) ∧ U1 (B * 12 + 8) ≤ 1000 := by rw [r8B]; exact mB
    go_enter Try.func36, Try.ntmps36
    go_upto_region 3 with fail
    go_cut [] (fun wc => Cs wc cb n (colOf U1) S ∧ Fr (Xc S) w wc ∧ wc.cell? ⟨w.heap.size, 0, none⟩ = some (.int .i64 x) ∧ wc.cell? ⟨w.heap.size, 1, none⟩ = some (.int .i64 y) ∧ wc.cell? ⟨w.heap.size, 2, none⟩ = some (.int .i64 d) ∧ wc.cell? ⟨w.heap.size, 3, none⟩ = some (.int .i64 (A : Int)) ∧ wc.cell? ⟨w.heap.size, 4, none⟩ = some (.pointer (some ⟨cb, 0, none⟩)) ∧ wc.cell? ⟨w.heap.size, 5, none⟩ = some (.int .i64 (B : Int)) ∧ wc.cell? ⟨w.heap.size, 6, none⟩ = some (.pointer (some ⟨cb, 0, none⟩)) ∧ w.heap.size < wc.heap.size)
    case first =>
      clear esb1 mA1 mB1 r8A r8B oB1
      refine wp_region_held_drew (S := fun w' => w'.cell? ⟨w.heap.size, 0, none⟩ = some (.int .i64 x) ∧ w'.cell? ⟨w.heap.size, 1, none⟩ = some (.int .i64 y) ∧ w'.cell? ⟨w.heap.size, 2, none⟩ = some (.int .i64 d) ∧ w'.cell? ⟨w.heap.size, 3, none⟩ = some (.int .i64 (A : Int)) ∧ w'.cell? ⟨w.heap.size, 4, none⟩ = some (.pointer (some ⟨cb, 0, none⟩)) ∧ w'.cell? ⟨w.heap.size, 5, none⟩ = some (.int .i64 (B : Int)) ∧ w'.cell? ⟨w.heap.size, 6, none⟩ = some (.pointer (some ⟨cb, 0, none⟩))) (by kernel_rfl) ?_ (fun hHeld => ?_)
      · (try dsimp only)
        (first | (go_simp; done) | (go_keep; done))
      refine tq 0 hHeld ?_
      refine tq 1 hHeld ?_
      refine tq 2 hHeld ?_
      refine tq 3 hHeld ?_
      refine tq 4 hHeld ?_
      refine tq 6 hHeld ?_
      refine tq 7 hHeld ?_
      refine tq 8 hHeld ?_
      refine tq 9 hHeld ?_
      refine tq 10 hHeld ?_
      (refine tc 5 fun K hK => ?_; go_simp; (go_at_call 53; refine (opp_z _ _ _ (by omega) (by omega)).mono ?_; rintro e w1 ⟨rfl, hb1⟩; obtain ⟨hc1, hf1⟩ := bcell hb1; have hz1 := hb1.size; (try simp only [World.size_drew, World.size_alloc, World.size_setCell] at hc1 hf1 hz1); have hk1x0 := fun o => hc1 (w.heap.size) o (by omega); have hj1x0 := fun o => hf1 (w.heap.size) o (by omega); have hq1x0 : w.heap.size < w1.heap.size := (by omega); clear hc1 hf1); (try go_wp2_with fail); refine tr hK (fun hHeld => ?_); clear hK K)
      (refine tc 11 fun K hK => ?_; go_simp; (go_at_call 55; refine (kShare (hA0.below (bel_a)) (hB0.below (bel_a)) _ _ (by omega) (by omega) (by omega) (by with_reducible assumption)).mono ?_; rintro e w2 ⟨rfl, hb2⟩; obtain ⟨hc2, hf2⟩ := bcell hb2; have hz2 := hb2.size; (try simp only [World.size_drew, World.size_alloc, World.size_setCell] at hc2 hf2 hz2); have hk2x0 := fun o => hc2 (w.heap.size) o (by omega); have hj2x0 := fun o => hf2 (w.heap.size) o (by omega); have hq2x0 : w.heap.size < w2.heap.size := (by omega); clear hc2 hf2); (try go_wp2_with fail); refine tr hK (fun hHeld => ?_); clear hK K)
      (refine tc 12 fun K hK => ?_; go_simp; (go_at_call 54; refine (wayTimes_z _ _ _ _ _ _ (by omega) (by omega) (by omega) (by with_reducible assumption) (by with_reducible assumption)).mono ?_; rintro e w3 ⟨rfl, hb3⟩; obtain ⟨hc3, hf3⟩ := bcell hb3; have hz3 := hb3.size; (try simp only [World.size_drew, World.size_alloc, World.size_setCell] at hc3 hf3 hz3); have hk3x0 := fun o => hc3 (w.heap.size) o (by omega); have hj3x0 := fun o => hf3 (w.heap.size) o (by omega); have hq3x0 : w.heap.size < w3.heap.size := (by omega); clear hc3 hf3); (try go_wp2_with fail); refine tr hK (fun hHeld => ?_); clear hK K)
      (refine tc 13 fun K hK => ?_; go_simp; (go_at_call 52; refine (kMoveU (h.below (bel_a)) hAn hn oA.a4 oA.a5 _ _ (by omega) (by omega)).mono ?_; rintro e w4 ⟨rfl, hr4, hF4⟩; have hk4 := fun o => hF4.cell (p := ⟨w.heap.size, o, none⟩) (by first | omega | (simp; done) | (simp; omega)) (hx _ (Nat.le_refl _)); have hz4 := hF4.size; (try simp only [World.size_drew, World.size_alloc, World.size_setCell] at hz4)); (try go_wp2_with fail); refine tr hK (fun hHeld => ?_); clear hK K)
      refine wpAnyH_done (by kernel_rfl) ?_ _
      go_wp2_with fail
      go_meet
      exact ⟨(by rw [← eU1]; exact hr4), (Fr.of_below (bel_a)).trans hF4, (by go_simp), (by go_simp), (by go_simp), (by go_simp), (by go_simp), (by go_simp), (by go_simp), (by first | omega | (simp; done) | (simp; omega))⟩
    case rest =>
    obtain ⟨hC, hF, k0, k1, k2, k3, k4, k5, k6, hl⟩ := hcut
    have hA1 : HAt wc cb n A (fun j => U1 (A * 12 + j)) (gOf S) := hC.hat hAn hn
    have hB1 : HAt wc cb n B (fun j => U1 (B * 12 + j)) (gOf S) := hC.hat hBn hn
    have hx1 : ∀ b, wc.heap.size ≤ b → ¬ Xc S b := fun b hb x => by have := (hC.xlt x).2; omega
    have l2 := hA1.cbl
    clear eU1
    go_upto_region 4 with fail
    refine wp_region_held_drew (S := fun w' => w'.cell? ⟨w.heap.size, 0, none⟩ = some (.int .i64 x) ∧ w'.cell? ⟨w.heap.size, 1, none⟩ = some (.int .i64 y) ∧ w'.cell? ⟨w.heap.size, 2, none⟩ = some (.int .i64 d) ∧ w'.cell? ⟨w.heap.size, 3, none⟩ = some (.int .i64 (A : Int)) ∧ w'.cell? ⟨w.heap.size, 4, none⟩ = some (.pointer (some ⟨cb, 0, none⟩)) ∧ w'.cell? ⟨w.heap.size, 5, none⟩ = some (.int .i64 (B : Int)) ∧ w'.cell? ⟨w.heap.size, 6, none⟩ = some (.pointer (some ⟨cb, 0, none⟩))) (by kernel_rfl) ?_ (fun hHeld => ?_)
    · (try dsimp only)
      (first | (go_simp; done) | (go_keep; done))
    refine tq 0 hHeld ?_
    refine tq 1 hHeld ?_
    refine tq 2 hHeld ?_
    refine tq 3 hHeld ?_
    refine tq 4 hHeld ?_
    refine tq 5 hHeld ?_
    refine tq 6 hHeld ?_
    refine tq 7 hHeld ?_
    refine tq 8 hHeld ?_
    refine tq 9 hHeld ?_
    (refine tc 10 fun K hK => ?_; go_simp; (go_at_call 55; refine (kShare (hB1.below (bel_a)) (hA1.below (bel_a)) _ _ (by omega) (by omega) (by omega) (by with_reducible assumption)).mono ?_; rintro e w12 ⟨rfl, hb12⟩; obtain ⟨hc12, hf12⟩ := bcell hb12; have hz12 := hb12.size; (try simp only [World.size_drew, World.size_alloc, World.size_setCell] at hc12 hf12 hz12); have hk12x0 := fun o => hc12 (w.heap.size) o (by omega); have hj12x0 := fun o => hf12 (w.heap.size) o (by omega); have hq12x0 : w.heap.size < w12.heap.size := (by omega); clear hc12 hf12); (try go_wp2_with fail); refine tr hK (fun hHeld => ?_); clear hK K)
    (refine tc 11 fun K hK => ?_; go_simp; (go_at_call 54; refine (wayTimes_z _ _ _ _ _ _ (by omega) (by omega) (by omega) (by with_reducible assumption) (by with_reducible assumption)).mono ?_; rintro e w13 ⟨rfl, hb13⟩; obtain ⟨hc13, hf13⟩ := bcell hb13; have hz13 := hb13.size; (try simp only [World.size_drew, World.size_alloc, World.size_setCell] at hc13 hf13 hz13); have hk13x0 := fun o => hc13 (w.heap.size) o (by omega); have hj13x0 := fun o => hf13 (w.heap.size) o (by omega); have hq13x0 : w.heap.size < w13.heap.size := (by omega); clear hc13 hf13); (try go_wp2_with fail); refine tr hK (fun hHeld => ?_); clear hK K)
    (refine tc 12 fun K hK => ?_; go_simp; (go_at_call 52; refine (kMoveU (hC.below (bel_a)) hBn hn oB1.1 oB1.2 _ _ (by omega) (by omega)).mono ?_; rintro e w14 ⟨rfl, hr14, hF14⟩; have hk14 := fun o => hF14.cell (p := ⟨w.heap.size, o, none⟩) (by first | omega | (simp; done) | (simp; omega)) (hx _ (Nat.le_refl _))); (try go_wp2_with fail); refine tr hK (fun hHeld => ?_); clear hK K)
    refine wpAnyH_done (by kernel_rfl) ?_ _
    go_wp2_with fail
    go_end0
    exact ⟨rfl, hr14, (hF.trans (Fr.of_below (bel_a))).trans hF14⟩
  · have hmn : m ≤ 0 := by omega
    have e0 : apartU U A B x y d = U := by unfold apartU; rw [em, decide_eq_false hm]; rfl
    rw [e0]
    go_enter Try.func36, Try.ntmps36
    go_wp2_with fail
    refine bodyPost_ret (results_none rfl _ _ _) rfl ?_
    exact ⟨rfl, h.below (bel_a), Fr.of_below (bel_a)⟩
end Go.Proofs.Ytejminehbnebmaa
namespace Go.Proofs.Ytejminehbnebmaa
open Go.RowKit
set_option linter.unusedVariables false
set_option linter.unusedSimpArgs false

set_option maxRecDepth 20000 in
set_option maxHeartbeats 8000000 in
theorem goApart {w : World} {rb g m c cb n : Nat} {C U : Nat → Int} {S : Nat → Value} (hR0 : Rg w rb g m c cb C 0) (hC0 : Cs w cb n (colOf U) S) (hm : m ≤ 1048576) (hn : n ≤ 1048576) (hbb : Bods n U) (ct : CtOk n m C) (hrb : ¬ Xc S rb) (hg : ¬ Xc S g) (hcb : ¬ cb = rb) :
    Calls Try.prog 35 #[.pointer (some ⟨rb, 0, none⟩), (.func (.func 36) #[] #[])] w fun e w' => e = .returned (.tuple #[]) ∧ Cs w' cb n (colOf (apartN C U m)) S ∧ Fr (fun b => Xc S b ∨ b = rb) w w' := by
  have hset := cset_map
  have hxr : ∀ b, Xc S b → ¬ b = rb := fun b hb e => hrb (e ▸ hb)
  have c0 := hR0.c0
  go_enter Try.func35, Try.ntmps35
  go_upto_region 1 with fail
  go_loopw [9] (fun s wr => ∃ k : Nat, k ≤ m ∧ s = .int .i64 (k : Int) ∧ Rg wr rb g m c cb C (k % m) ∧ Cs wr cb n (colOf (apartN C U k)) S ∧ Fr (fun b => Xc S b ∨ b = rb) w wr) (fun s _ => m - (intOf s).toNat)
  case atStart => exact ⟨0, Nat.zero_le _, rfl, by rw [Nat.zero_mod]; exact hR0, hC0, Fr.refl _ _⟩
  case round =>
    clear hR0 hC0 c0
    obtain ⟨k, hk, rfl, hR, hC, hF⟩ := hrel
    by_cases hlt : k < m
    · have hkm : (k : Int) < (m : Int) := by omega
      rw [Nat.mod_eq_of_lt hlt] at hR
      have ca := ct.a k hlt
      have cb_ := ct.b k hlt
      have cn := ct.ne k hlt
      have cx := ct.x k hlt
      have cy := ct.y k hlt
      have cd := ct.d k hlt
      have hB := (hbb.aparts ct k hk).1
      have HN : Shut (apartN C U (k + 1) = apartU (apartN C U k) (C (k * 5)).toNat (C (k * 5 + 1)).toNat (C (k * 5 + 2)) (C (k * 5 + 3)) (C (k * 5 + 4))) := by show _ = _; rw [apartN]
      obtain ⟨A, hA⟩ : ∃ A : Nat, C (k * 5) = (A : Int) := ⟨(C (k * 5)).toNat, by omega⟩
      obtain ⟨B, hBB⟩ : ∃ B : Nat, C (k * 5 + 1) = (B : Int) := ⟨(C (k * 5 + 1)).toNat, by omega⟩
      rw [hA, hBB, Int.toNat_natCast, Int.toNat_natCast] at HN
      rw [hA] at ca cn
      rw [hBB] at cb_ cn
      go_wp2_with (first
    | (go_at_call 36; refine (mApart _ _ _ (hC.frame hF4 hcb hxr) hn (by omega) (by omega) (by omega) (hB.row (by omega)) (hB.row (by omega)) cx cy cd).mono ?_; rintro e w5 ⟨rfl, hC5, hF5⟩)
    | (go_at_call 51; refine (take_q (j := k) hR hlt hm _ _ _ _ _ rfl rfl rfl hA hBB).mono ?_; rintro e w4 ⟨rfl, hR4, hF4⟩))
      have hF9 : Fr (fun b => Xc S b ∨ b = rb) w w5 := (hF.trans (hF4.mono fun _ _ e => .inr e)).trans (hF5.mono fun _ _ e => .inl e)
      have hR9 := hR4.fr hF5 hrb hg
      go_roundw
      case rel => exact ⟨k + 1, by omega, by go_num, hR9, by rw [HN.out]; exact hC5, hF9⟩
      case measure => simp [intOf]; omega
    · obtain rfl : k = m := by omega
      go_wp2_with fail
      go_end0
      exact ⟨rfl, hC, hF⟩
set_option maxHeartbeats 4000000 in
theorem goApart0 {w : World} {rb c : Nat} (c0 : w.cell? ⟨rb, 0, none⟩ = some (.slice none 0 c)) :
    Calls Try.prog 35 #[.pointer (some ⟨rb, 0, none⟩), (.func (.func 36) #[] #[])] w fun e w' => e = .returned (.tuple #[]) ∧ w' = w := by
  go_enter Try.func35, Try.ntmps35
  go_upto_region 1 with fail
  refine wp_loop_rounds 1 ?_
  rw [rounds_succ]
  go_wp2_with fail
  go_end0
  exact ⟨rfl, rfl⟩
theorem moveApart_q {w : World} {rb g m c cb n : Nat} {C U : Nat → Int} {S : Nat → Value} (hR0 : Rg w rb g m c cb C 0) (hC0 : Cs w cb n (colOf U) S) (hm : m ≤ 1048576) (hn : n ≤ 1048576) (hbb : Bods n U) (ct : CtOk n m C) (hrb : ¬ Xc S rb) (hg : ¬ Xc S g) (hcb : ¬ cb = rb) :
    Calls Try.prog 21 #[.pointer (some ⟨rb, 0, none⟩)] w fun e w' => e = .returned (.tuple #[]) ∧ Cs w' cb n (colOf (apartN C U m)) S ∧ Fr (fun b => Xc S b ∨ b = rb) w w' := by
  go_enter Try.func21, Try.ntmps21
  go_wp2_with (go_at_call 35; refine (goApart hR0 hC0 hm hn hbb ct hrb hg hcb).mono ?_; rintro e w1 ⟨rfl, h1, h2⟩)
  go_end0
  exact ⟨rfl, h1, h2⟩
theorem moveApart_0 {w : World} {rb c : Nat} (c0 : w.cell? ⟨rb, 0, none⟩ = some (.slice none 0 c)) :
    Calls Try.prog 21 #[.pointer (some ⟨rb, 0, none⟩)] w fun e w' => e = .returned (.tuple #[]) ∧ w' = w := by
  go_enter Try.func21, Try.ntmps21
  go_wp2_with (go_at_call 35; refine (goApart0 c0).mono ?_; rintro e w1 ⟨rfl, rfl⟩)
  go_end0
  exact ⟨rfl, rfl⟩
end Go.Proofs.Ytejminehbnebmaa
