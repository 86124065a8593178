/- Texts of a proof. -/
import Derived.Test.YthijeiehcdoidaaGreatB3
import Derived.Test.YthijeiehcdoidaaGreatWdI
import Derived.Test.YthijeiehcdoidaaGreatB13
import Derived.Deep.RegionHeld3
import Derived.Deep.DeepCutAuto
set_option maxHeartbeats 16000000
set_option maxRecDepth 20000
namespace Go.Proofs.YthijeiehcdoidaaGreat
open Go.RowKit
set_option linter.unusedVariables false
set_option linter.unusedSimpArgs false
theorem l10At_q (a : Option Addr) (n c : Nat) (U : Nat → Int) (id : Int) (p : Nat) (w : World) (h : Flat w a (n * 12) U) (hn : n ≤ 1048576) (hp : idP U n id p) (bb : Bool) (eb : decide (p < n ∧ U (p * 12) = id) = bb) :
 Calls Tryz.prog 24 #[.slice a n c, .int .i64 id] w fun e w' => e = .returned (.tuple #[.int .i64 (p : Int), .bool bb]) ∧ Below w.heap.size w w' := by
 have hset := cset_map
 go_enter Tryz.func24, Tryz.ntmps24
 go_wp2
 go_loopw [6] (fun i wr => ∃ k : Nat, k ≤ p ∧ i = .int .i64 (k : Int) ∧ wr = w) (fun i _ => n - (intOf i).toNat)
 case atStart => exact ⟨0, Nat.zero_le _, rfl, rfl⟩
 case round =>
  obtain ⟨k, hk, rfl, rfl⟩ := hrel
  have hpn := hp.le
  by_cases hlt : k < p
  · have hkn : (k : Int) < (n : Int) := by omega
    have hkk : k < n := by omega
    have hl := hp.lo k hlt
    obtain ⟨b, o, rfl, hbl, hc⟩ := h (by omega)
    have c0 := hc (k * 12) (by omega)
    clear hc
    go_wp2
    go_roundw
    case rel => exact ⟨k + 1, by omega, by go_num, by first | rfl | trivial⟩
    case measure => simp [intOf]; omega
  · obtain rfl : k = p := by omega
    by_cases hkn : k < n
    · have hkn' : (k : Int) < (n : Int) := by omega
      have hge : ¬ U (k * 12) < id := by have := hp.hi hkn; omega
      obtain ⟨b, o, rfl, hbl, hc⟩ := h (by omega)
      have c0 := hc (k * 12) (by omega)
      clear hc
      have hb : (U (k * 12) == id) = bb := by rw [← eb]; by_cases q : U (k * 12) = id <;> simp [q, hkn]
      have EB : Shut (decide (k < n ∧ U (k * 12) = id) = bb) := eb
      clear eb
      go_upto_region 4 with fail
      refine wp_region_held_drew (S := fun w' => w'.cell? ⟨b, o + k * 12, none⟩ = some (.int .i64 (U (k * 12)))) (by kernel_rfl) ?_ (fun hHeld => ?_)
      · (try dsimp only)
        (first | (go_simp; done) | (go_keep; done))
      refine tq 0 hHeld ?_
      refine tq 1 hHeld ?_
      refine tq 2 hHeld ?_
      refine tq 3 hHeld ?_
      refine tq 4 hHeld ?_
      refine tq 5 hHeld ?_
      refine tq 6 hHeld ?_
      refine tq 7 hHeld ?_
      refine tq 8 hHeld ?_
      refine tq 9 hHeld ?_
      refine tq 10 hHeld ?_
      refine tq 11 hHeld ?_
      refine tq 12 hHeld ?_
      refine tq 13 hHeld ?_
      refine tq 14 hHeld ?_
      refine tq 15 hHeld ?_
      refine wpAnyH_done (by kernel_rfl) ?_ _
      go_wp2_with fail
      exact bodyPost_ret (v := .tuple #[.int .i64 (k : Int), .bool bb]) (by simp [results, Tryz.results24, go_sem, *]) rfl ⟨rfl, bel_a⟩
    · have hkn' : ¬ (k : Int) < (n : Int) := by omega
      obtain rfl : bb = false := by rw [← eb]; exact decide_eq_false (fun q => hkn q.1)
      clear eb
      go_upto_region 4 with fail
      refine wp_region_held_drew (S := fun w' => True) (by kernel_rfl) ?_ (fun hHeld => ?_)
      · (try dsimp only)
        (try trivial)
      refine tq 0 hHeld ?_
      refine tq 1 hHeld ?_
      refine tq 2 hHeld ?_
      refine tq 3 hHeld ?_
      refine tq 4 hHeld ?_
      refine tq 5 hHeld ?_
      refine tn 6 hHeld ?_
      refine tn 7 hHeld ?_
      refine tn 8 hHeld ?_
      refine tn 9 hHeld ?_
      refine tn 10 hHeld ?_
      refine tn 11 hHeld ?_
      refine tn 12 hHeld ?_
      refine tq 13 hHeld ?_
      refine tq 14 hHeld ?_
      refine tq 15 hHeld ?_
      refine wpAnyH_done (by kernel_rfl) ?_ _
      go_wp2_with fail
      exact bodyPost_ret (v := .tuple #[.int .i64 (k : Int), .bool false]) (by simp [results, Tryz.results24, go_sem, *]) rfl ⟨rfl, bel_a⟩
theorem ahead_q (p q r s : Int) (w : World) (b : Bool) (eb : aheadB p q r s = b) :
 Calls Tryz.prog 25 #[.agg #[.int .i64 p, .int .i64 q], .agg #[.int .i64 r, .int .i64 s]] w fun e w' => e = .returned (.bool b) ∧ Below w.heap.size w w' := by
 subst eb
 have hset := cset_map
 unfold aheadB
 by_cases h1 : p < r
 · have e0 : decide (p < r ∨ p = r ∧ q < s) = true := decide_eq_true (.inl h1)
   rw [e0]
   go_enter Tryz.func25, Tryz.ntmps25
   go_wp2
   go_ret
   exact ⟨rfl, bel_a⟩
 · by_cases h2 : p = r
   · have h2' : (p == r) = true := by simp [h2]
     by_cases h3 : q < s
     · have e0 : decide (p < r ∨ p = r ∧ q < s) = true := decide_eq_true (.inr ⟨h2, h3⟩)
       rw [e0]
       subst h2
       go_enter Tryz.func25, Tryz.ntmps25
       go_wp2
       go_ret
       exact ⟨rfl, bel_a⟩
     · have e0 : decide (p < r ∨ p = r ∧ q < s) = false := decide_eq_false (by omega)
       rw [e0]
       subst h2
       go_enter Tryz.func25, Tryz.ntmps25
       go_wp2
       go_ret
       exact ⟨rfl, bel_a⟩
   · have e0 : decide (p < r ∨ p = r ∧ q < s) = false := decide_eq_false (by omega)
     have h2' : (p == r) = false := by simp [h2]
     rw [e0]
     go_enter Tryz.func25, Tryz.ntmps25
     go_wp2
     go_ret
     exact ⟨rfl, bel_a⟩
theorem sWorldOk_q (T P : Int) (a : Option Addr) (n c : Nat) (U : Nat → Int) (a' : Option Addr) (m c' : Nat) (Q : Nat → Int) (w : World) (h : Flat w a (n * 12) U) (h' : Flat w a' (m * 2) Q) (hn : n ≤ 1048576) (hm : m ≤ 1048576) (bb : Bool) (ebb : worldB T P n U m Q = bb) :
 Calls Tryz.prog 8 #[worldW T P a n c a' m c'] w fun e w' => e = .returned (.bool bb) ∧ Below w.heap.size w w' := by
 subst ebb
 have hset := cset_map
 unfold worldB
 cases k1 : decide (0 ≤ T ∧ T ≤ 100000) with
 | false =>
  go_enter Tryz.func8, Tryz.ntmps8
  go_wp2_with (go_at_call 22; refine (l1In_q _ _ _ _ _ k1).mono ?_; rintro e w1 ⟨rfl, hb1⟩; obtain ⟨hc1, hf1⟩ := bcell hb1; have hz1 := hb1.size; (try simp only [zz] at hc1 hf1 hz1); have hk1x0 := fun o => hc1 (w.heap.size) o (by omega); have hj1x0 := fun o => hf1 (w.heap.size) o (by omega); have hq1x0 : w.heap.size < w1.heap.size := (by omega); clear hc1 hf1)
  go_ret
  exact ⟨rfl, bel_a⟩
 | true =>
  cases k2 : decide (0 ≤ P ∧ P ≤ 2560) with
  | false =>
   go_enter Tryz.func8, Tryz.ntmps8
   go_wp2_with (first
    | (have _ := hz1; (go_at_call 22; refine (l1In_q _ _ _ _ _ k2).mono ?_; rintro e w2 ⟨rfl, hb2⟩; obtain ⟨hc2, hf2⟩ := bcell hb2; have hz2 := hb2.size; (try simp only [zz] at hc2 hf2 hz2); have hk2x0 := fun o => hc2 (w.heap.size) o (by omega); have hj2x0 := fun o => hf2 (w.heap.size) o (by omega); have hq2x0 : w.heap.size < w2.heap.size := (by omega); clear hc2 hf2))
    | (go_at_call 22; refine (l1In_q _ _ _ _ _ k1).mono ?_; rintro e w1 ⟨rfl, hb1⟩; obtain ⟨hc1, hf1⟩ := bcell hb1; have hz1 := hb1.size; (try simp only [zz] at hc1 hf1 hz1); have hk1x0 := fun o => hc1 (w.heap.size) o (by omega); have hj1x0 := fun o => hf1 (w.heap.size) o (by omega); have hq1x0 : w.heap.size < w1.heap.size := (by omega); clear hc1 hf1))
   go_ret
   exact ⟨rfl, bel_a⟩
  | true =>
   cases k3 : bodsB n U with
   | false =>
    go_enter Tryz.func8, Tryz.ntmps8
    go_wp2_with (first
     | (have _ := hz1; (go_at_call 22; refine (l1In_q _ _ _ _ _ k2).mono ?_; rintro e w2 ⟨rfl, hb2⟩; obtain ⟨hc2, hf2⟩ := bcell hb2; have hz2 := hb2.size; (try simp only [zz] at hc2 hf2 hz2); have hk2x0 := fun o => hc2 (w.heap.size) o (by omega); have hj2x0 := fun o => hf2 (w.heap.size) o (by omega); have hq2x0 : w.heap.size < w2.heap.size := (by omega); clear hc2 hf2))
     | (go_at_call 22; refine (l1In_q _ _ _ _ _ k1).mono ?_; rintro e w1 ⟨rfl, hb1⟩; obtain ⟨hc1, hf1⟩ := bcell hb1; have hz1 := hb1.size; (try simp only [zz] at hc1 hf1 hz1); have hk1x0 := fun o => hc1 (w.heap.size) o (by omega); have hj1x0 := fun o => hf1 (w.heap.size) o (by omega); have hq1x0 : w.heap.size < w1.heap.size := (by omega); clear hc1 hf1)
     | (go_at_call 23; refine (sBodiesOk_q a n c U _ _ (h.below (bel_a)) hn k3).mono ?_; rintro e w3 ⟨rfl, hb3⟩; obtain ⟨hc3, hf3⟩ := bcell hb3; have hz3 := hb3.size; (try simp only [zz] at hc3 hf3 hz3); have hk3x0 := fun o => hc3 (w.heap.size) o (by omega); have hj3x0 := fun o => hf3 (w.heap.size) o (by omega); have hq3x0 : w.heap.size < w3.heap.size := (by omega); clear hc3 hf3))
    go_ret
    exact ⟨rfl, bel_a⟩
   | true =>
    simp only [Bool.true_and]
    have ha := bodsB_asc k3
    go_enter Tryz.func8, Tryz.ntmps8
    go_wp2_with (first
     | (have _ := hz1; (go_at_call 22; refine (l1In_q _ _ _ _ _ k2).mono ?_; rintro e w2 ⟨rfl, hb2⟩; obtain ⟨hc2, hf2⟩ := bcell hb2; have hz2 := hb2.size; (try simp only [zz] at hc2 hf2 hz2); have hk2x0 := fun o => hc2 (w.heap.size) o (by omega); have hj2x0 := fun o => hf2 (w.heap.size) o (by omega); have hq2x0 : w.heap.size < w2.heap.size := (by omega); clear hc2 hf2))
     | (go_at_call 22; refine (l1In_q _ _ _ _ _ k1).mono ?_; rintro e w1 ⟨rfl, hb1⟩; obtain ⟨hc1, hf1⟩ := bcell hb1; have hz1 := hb1.size; (try simp only [zz] at hc1 hf1 hz1); have hk1x0 := fun o => hc1 (w.heap.size) o (by omega); have hj1x0 := fun o => hf1 (w.heap.size) o (by omega); have hq1x0 : w.heap.size < w1.heap.size := (by omega); clear hc1 hf1)
     | (go_at_call 23; refine (sBodiesOk_q a n c U _ _ (h.below (bel_a)) hn k3).mono ?_; rintro e w3 ⟨rfl, hb3⟩; obtain ⟨hc3, hf3⟩ := bcell hb3; have hz3 := hb3.size; (try simp only [zz] at hc3 hf3 hz3); have hk3x0 := fun o => hc3 (w.heap.size) o (by omega); have hj3x0 := fun o => hf3 (w.heap.size) o (by omega); have hq3x0 : w.heap.size < w3.heap.size := (by omega); clear hc3 hf3))
    have hB3 : WdR w T P a n c a' m c' w3 := ⟨bel_a, by omega, by go_simp, by go_simp, by go_simp, by go_simp⟩
    clear hb1 hb2 hb3 hk1x0 hk2x0 hk3x0 hj1x0 hj2x0 hj3x0
    go_loopw [3, 4, 5, 6, 7, 8] (fun i _ _ _ _ _ wr => ∃ k : Nat, k ≤ m ∧ i = .int .i64 (k : Int) ∧ WdR w T P a n c a' m c' wr ∧ allPB U n Q k = true) (fun i _ _ _ _ _ _ => m - (intOf i).toNat)
    case atStart => exact ⟨0, Nat.zero_le _, rfl, hB3, rfl⟩
    case round =>
     obtain ⟨i, hi, rfl, hB, hall0⟩ := hrel
     have hall : Shut (allPB U n Q i = true) := hall0
     clear hall0 hB3
     have hbig := hB.big
     have z2 := hB.c2
     have z3 := hB.c3
     by_cases hlt : i < m
     · obtain ⟨b, o, rfl, hbl, hc⟩ := (h'.below hB.bel) (by omega)
       have hbl0 : b < w.heap.size := by obtain ⟨b', o', e, l, _⟩ := h' (by omega); simp only [Option.some.injEq, Addr.mk.injEq] at e; omega
       have x0 := hc (i * 2) (by omega)
       have x1 := hc (i * 2 + 1) (by omega)
       simp only [← Nat.add_assoc] at x0 x1
       obtain ⟨pA, hpA⟩ := idP_ex U (Q (i * 2)) n
       obtain ⟨pB, hpB⟩ := idP_ex U (Q (i * 2 + 1)) n
       have eA' := hasF_at ha hpA
       have eB' := hasF_at ha hpB
       generalize eA : hasF U n (Q (i * 2)) = vA at eA'
       generalize eB : hasF U n (Q (i * 2 + 1)) = vB at eB'
       go_upto_region 7 with fail
       have hE : Below wr.heap.size wr (wr.alloc (Obj.cells #[.int .i64 (Q (i * 2)), .int .i64 (Q (i * 2 + 1))] 58)) := (Below.refl _ _).alloc (Nat.le_refl _) _
       have hB2 := hB.on hE
       have y0 : (wr.alloc (Obj.cells #[.int .i64 (Q (i * 2)), .int .i64 (Q (i * 2 + 1))] 58)).cell? ⟨wr.heap.size, 0, none⟩ = some (.int .i64 (Q (i * 2))) := by go_simp
       have y1 : (wr.alloc (Obj.cells #[.int .i64 (Q (i * 2)), .int .i64 (Q (i * 2 + 1))] 58)).cell? ⟨wr.heap.size, 1, none⟩ = some (.int .i64 (Q (i * 2 + 1))) := by go_simp
       have hz : wr.heap.size < (wr.alloc (Obj.cells #[.int .i64 (Q (i * 2)), .int .i64 (Q (i * 2 + 1))] 58)).heap.size := by simp
       generalize (wr.alloc (Obj.cells #[.int .i64 (Q (i * 2)), .int .i64 (Q (i * 2 + 1))] 58)) = wx at hE hB2 y0 y1 hz ⊢
       clear x0 x1 z2 z3
       have hbb := hE.size
       generalize wr.heap.size = bp at y0 y1 hz hbig hbb ⊢
       have z2 := hB2.c2
       have z3 := hB2.c3
       have hbo : Shut (vA = decide (pA < n ∧ U (pA * 12) = Q (i * 2)) ∧ vB = decide (pB < n ∧ U (pB * 12) = Q (i * 2 + 1))) := ⟨eA', eB'⟩
       clear eA' eB'
       go_cut [6] (fun s wc => s = .bool vA ∧ WdR w T P a n c (some ⟨b, o, none⟩) m c' wc ∧ wc.cell? ⟨bp, 0, none⟩ = some (.int .i64 (Q (i * 2))) ∧ wc.cell? ⟨bp, 1, none⟩ = some (.int .i64 (Q (i * 2 + 1))) ∧ bp < wc.heap.size)
       case first =>
        go_wp2_with (go_at_call 24; refine (l10At_q a n c U _ pA _ (h.below hB2.bel) hn hpA vA hbo.out.1.symm).mono ?_; rintro e w4 ⟨rfl, hb4⟩; obtain ⟨hc4, hf4⟩ := bcell hb4; have hz4 := hb4.size; (try simp only [zz] at hc4 hf4 hz4); have hk4x0 := fun o => hc4 (bp) o (by omega); have hj4x0 := fun o => hf4 (bp) o (by omega); have hq4x0 : bp < w4.heap.size := (by omega); clear hc4 hf4)
        go_meet
        exact ⟨rfl, hB2.on hb4, by go_simp, by go_simp, by omega⟩
       case rest =>
       clear hB2 y0 y1 hz z2 z3
       obtain ⟨rfl, hB2, y0, y1, hz⟩ := hcut
       have z2 := hB2.c2
       have z3 := hB2.c3
       go_upto_region 8 with fail
       go_cut [8] (fun s wd => s = .bool vB ∧ WdR w T P a n c (some ⟨b, o, none⟩) m c' wd ∧ wd.cell? ⟨bp, 0, none⟩ = some (.int .i64 (Q (i * 2))) ∧ wd.cell? ⟨bp, 1, none⟩ = some (.int .i64 (Q (i * 2 + 1))) ∧ bp < wd.heap.size)
       case first =>
        go_wp2_with (go_at_call 24; refine (l10At_q a n c U _ pB _ (h.below hB2.bel) hn hpB vB hbo.out.2.symm).mono ?_; rintro e w4 ⟨rfl, hb4⟩; obtain ⟨hc4, hf4⟩ := bcell hb4; have hz4 := hb4.size; (try simp only [zz] at hc4 hf4 hz4); have hk4x0 := fun o => hc4 (bp) o (by omega); have hj4x0 := fun o => hf4 (bp) o (by omega); have hq4x0 : bp < w4.heap.size := (by omega); clear hc4 hf4)
        go_meet
        exact ⟨rfl, hB2.on hb4, by go_simp, by go_simp, by omega⟩
       case rest =>
       clear hB2 y0 y1 hz z2 z3
       obtain ⟨rfl, hBc, y0, y1, hz⟩ := hcut
       have z3 := hBc.c3
       have hbel := hBc.bel
       have hbgc := hBc.big
       clear hbo
       go_upto_region 9 with fail
       cases vA with
       | false =>
        have hno : Shut (stepPB U n Q i = false) := (by unfold stepPB; rw [eA]; simp : stepPB U n Q i = false)
        refine wp_region_held_drew (S := fun w' => w'.cell? ⟨w.heap.size, 3, none⟩ = some (.slice (some ⟨b, o, none⟩) m c') ∧ w'.cell? ⟨bp, 0, none⟩ = some (.int .i64 (Q (i * 2))) ∧ w'.cell? ⟨bp, 1, none⟩ = some (.int .i64 (Q (i * 2 + 1)))) (by kernel_rfl) ?_ (fun hHeld => ?_)
        · (try dsimp only)
          (first | (go_simp; done) | (go_keep; done))
        refine tq 0 hHeld ?_
        refine tq 1 hHeld ?_
        refine tq 2 hHeld ?_
        refine tn 3 hHeld ?_
        refine tn 4 hHeld ?_
        refine tq 5 hHeld ?_
        refine tq 6 hHeld ?_
        refine tn 7 hHeld ?_
        refine tn 8 hHeld ?_
        refine tn 9 hHeld ?_
        refine tn 10 hHeld ?_
        refine tn 11 hHeld ?_
        refine tq 12 hHeld ?_
        refine tq 13 hHeld ?_
        refine tn 14 hHeld ?_
        refine tn 15 hHeld ?_
        refine tn 16 hHeld ?_
        refine tn 17 hHeld ?_
        refine tn 18 hHeld ?_
        refine tn 19 hHeld ?_
        refine tn 20 hHeld ?_
        refine tn 21 hHeld ?_
        refine tn 22 hHeld ?_
        refine tn 23 hHeld ?_
        refine tn 24 hHeld ?_
        refine tn 25 hHeld ?_
        refine tn 26 hHeld ?_
        refine tq 27 hHeld ?_
        refine wpAnyH_done (by kernel_rfl) ?_ _
        go_wp2_with fail
        go_ret
        exact ⟨by rw [allPB_no hno.out m hlt]; rfl, hBc.bel.trans ((Below.drew (Below.refl _ _)).mono (Nat.le_of_lt hBc.big))⟩
       | true =>
        cases vB with
        | false =>
         have hno : Shut (stepPB U n Q i = false) := (by unfold stepPB; rw [eB]; simp : stepPB U n Q i = false)
         refine wp_region_held_drew (S := fun w' => w'.cell? ⟨w.heap.size, 3, none⟩ = some (.slice (some ⟨b, o, none⟩) m c') ∧ w'.cell? ⟨bp, 0, none⟩ = some (.int .i64 (Q (i * 2))) ∧ w'.cell? ⟨bp, 1, none⟩ = some (.int .i64 (Q (i * 2 + 1)))) (by kernel_rfl) ?_ (fun hHeld => ?_)
         · (try dsimp only)
           (first | (go_simp; done) | (go_keep; done))
         refine tq 0 hHeld ?_
         refine tq 1 hHeld ?_
         refine tq 2 hHeld ?_
         refine tq 3 hHeld ?_
         refine tq 4 hHeld ?_
         refine tq 5 hHeld ?_
         refine tq 6 hHeld ?_
         refine tn 7 hHeld ?_
         refine tn 8 hHeld ?_
         refine tn 9 hHeld ?_
         refine tn 10 hHeld ?_
         refine tn 11 hHeld ?_
         refine tq 12 hHeld ?_
         refine tq 13 hHeld ?_
         refine tn 14 hHeld ?_
         refine tn 15 hHeld ?_
         refine tn 16 hHeld ?_
         refine tn 17 hHeld ?_
         refine tn 18 hHeld ?_
         refine tn 19 hHeld ?_
         refine tn 20 hHeld ?_
         refine tn 21 hHeld ?_
         refine tn 22 hHeld ?_
         refine tn 23 hHeld ?_
         refine tn 24 hHeld ?_
         refine tn 25 hHeld ?_
         refine tn 26 hHeld ?_
         refine tq 27 hHeld ?_
         refine wpAnyH_done (by kernel_rfl) ?_ _
         go_wp2_with fail
         go_ret
         exact ⟨by rw [allPB_no hno.out m hlt]; rfl, hBc.bel.trans ((Below.drew (Below.refl _ _)).mono (Nat.le_of_lt hBc.big))⟩
        | true =>
         by_cases hAB : Q (i * 2) < Q (i * 2 + 1)
         · have hd1 : decide (Q (i * 2 + 1) ≤ Q (i * 2)) = false := decide_eq_false (by omega)
           by_cases hk0 : 0 < i
           · have hd0 : decide (0 < i) = true := decide_eq_true hk0
             obtain ⟨j, hj⟩ : ∃ j, j + 1 = i := ⟨i - 1, by omega⟩
             have hj' : (i : Int) - 1 = (j : Int) := by omega
             have hjn : j < m := by omega
             have hwj : IntKind.i64.wrap (j : Int) = (j : Int) := i64w (by omega)
             obtain ⟨b2, o2, e2, _, hc2⟩ := (h'.below hBc.bel) (by omega)
             simp only [Option.some.injEq, Addr.mk.injEq, and_true] at e2
             obtain ⟨rfl, rfl⟩ := e2
             have p0 := hc2 (j * 2) (by omega)
             have p1 := hc2 (j * 2 + 1) (by omega)
             simp only [← Nat.add_assoc] at p1
             clear hc2
             have HJ : Shut (j + 1 = i) := hj
             clear hj
             cases eC : aheadB (Q (j * 2)) (Q (j * 2 + 1)) (Q (i * 2)) (Q (i * 2 + 1)) with
             | false =>
              have hno : Shut (stepPB U n Q i = false) := (by unfold stepPB; rw [show i - 1 = j from by have := HJ.out; omega, eC, decide_eq_false (by omega : ¬ i = 0)]; simp : stepPB U n Q i = false)
              refine wp_region_held_drew (S := fun w' => w'.cell? ⟨w.heap.size, 3, none⟩ = some (.slice (some ⟨b, o, none⟩) m c') ∧ w'.cell? ⟨bp, 0, none⟩ = some (.int .i64 (Q (i * 2))) ∧ w'.cell? ⟨bp, 1, none⟩ = some (.int .i64 (Q (i * 2 + 1))) ∧ w'.cell? ⟨b, o + j * 2, none⟩ = some (.int .i64 (Q (j * 2))) ∧ w'.cell? ⟨b, o + j * 2 + 1, none⟩ = some (.int .i64 (Q (j * 2 + 1)))) (by kernel_rfl) ?_ (fun hHeld => ?_)
              · (try dsimp only)
                (first | (go_simp; done) | (go_keep; done))
              refine tq 0 hHeld ?_
              refine tq 1 hHeld ?_
              refine tq 2 hHeld ?_
              refine tq 3 hHeld ?_
              refine tq 4 hHeld ?_
              refine tq 5 hHeld ?_
              refine tq 6 hHeld ?_
              refine tq 7 hHeld ?_
              refine tq 8 hHeld ?_
              refine tq 9 hHeld ?_
              refine tq 10 hHeld ?_
              refine tq 11 hHeld ?_
              refine tq 12 hHeld ?_
              refine tq 13 hHeld ?_
              refine tq 14 hHeld ?_
              refine tq 15 hHeld ?_
              refine tq 16 hHeld ?_
              refine tq 17 hHeld ?_
              refine tq 18 hHeld ?_
              refine tq 19 hHeld ?_
              refine tq 20 hHeld ?_
              refine tq 21 hHeld ?_
              refine tq 22 hHeld ?_
              refine tq 23 hHeld ?_
              (refine tc 24 fun K hK => ?_; go_simp; (go_at_call 25; refine (ahead_q _ _ _ _ _ _ eC).mono ?_; rintro e w6 ⟨rfl, hb6⟩; obtain ⟨hc6, hf6⟩ := bcell hb6; have hz6 := hb6.size; (try simp only [zz] at hc6 hf6 hz6); have hk6x0 := fun o => hc6 (w.heap.size) o (by omega); have hj6x0 := fun o => hf6 (w.heap.size) o (by omega); have hq6x0 : w.heap.size < w6.heap.size := (by omega); have hk6x1 := fun o => hc6 (bp) o (by omega); have hj6x1 := fun o => hf6 (bp) o (by omega); have hq6x1 : bp < w6.heap.size := (by omega); have hk6x2 := fun o => hc6 (b) o (by omega); have hj6x2 := fun o => hf6 (b) o (by omega); have hq6x2 : b < w6.heap.size := (by omega); clear hc6 hf6); (try go_wp2_with fail); refine tr hK (fun hHeld => ?_); clear hK K)
              refine tq 25 hHeld ?_
              refine tq 26 hHeld ?_
              refine tq 27 hHeld ?_
              refine wpAnyH_done (by kernel_rfl) ?_ _
              go_wp2_with fail
              go_ret
              exact ⟨by rw [allPB_no hno.out m hlt]; rfl, hBc.bel.trans ((hb6.ofDr).mono (Nat.le_of_lt hBc.big))⟩
             | true =>
              have hyes : Shut (stepPB U n Q i = true) := (by unfold stepPB; rw [show i - 1 = j from by have := HJ.out; omega, eC, eA, eB, decide_eq_true hAB]; simp : stepPB U n Q i = true)
              refine wp_region_held_drew (S := fun w' => w'.cell? ⟨w.heap.size, 3, none⟩ = some (.slice (some ⟨b, o, none⟩) m c') ∧ w'.cell? ⟨bp, 0, none⟩ = some (.int .i64 (Q (i * 2))) ∧ w'.cell? ⟨bp, 1, none⟩ = some (.int .i64 (Q (i * 2 + 1))) ∧ w'.cell? ⟨b, o + j * 2, none⟩ = some (.int .i64 (Q (j * 2))) ∧ w'.cell? ⟨b, o + j * 2 + 1, none⟩ = some (.int .i64 (Q (j * 2 + 1)))) (by kernel_rfl) ?_ (fun hHeld => ?_)
              · (try dsimp only)
                (first | (go_simp; done) | (go_keep; done))
              refine tq 0 hHeld ?_
              refine tq 1 hHeld ?_
              refine tq 2 hHeld ?_
              refine tq 3 hHeld ?_
              refine tq 4 hHeld ?_
              refine tq 5 hHeld ?_
              refine tq 6 hHeld ?_
              refine tq 7 hHeld ?_
              refine tq 8 hHeld ?_
              refine tq 9 hHeld ?_
              refine tq 10 hHeld ?_
              refine tq 11 hHeld ?_
              refine tq 12 hHeld ?_
              refine tq 13 hHeld ?_
              refine tq 14 hHeld ?_
              refine tq 15 hHeld ?_
              refine tq 16 hHeld ?_
              refine tq 17 hHeld ?_
              refine tq 18 hHeld ?_
              refine tq 19 hHeld ?_
              refine tq 20 hHeld ?_
              refine tq 21 hHeld ?_
              refine tq 22 hHeld ?_
              refine tq 23 hHeld ?_
              (refine tc 24 fun K hK => ?_; go_simp; (go_at_call 25; refine (ahead_q _ _ _ _ _ _ eC).mono ?_; rintro e w6 ⟨rfl, hb6⟩; obtain ⟨hc6, hf6⟩ := bcell hb6; have hz6 := hb6.size; (try simp only [zz] at hc6 hf6 hz6); have hk6x0 := fun o => hc6 (w.heap.size) o (by omega); have hj6x0 := fun o => hf6 (w.heap.size) o (by omega); have hq6x0 : w.heap.size < w6.heap.size := (by omega); have hk6x1 := fun o => hc6 (bp) o (by omega); have hj6x1 := fun o => hf6 (bp) o (by omega); have hq6x1 : bp < w6.heap.size := (by omega); have hk6x2 := fun o => hc6 (b) o (by omega); have hj6x2 := fun o => hf6 (b) o (by omega); have hq6x2 : b < w6.heap.size := (by omega); clear hc6 hf6); (try go_wp2_with fail); refine tr hK (fun hHeld => ?_); clear hK K)
              refine tq 25 hHeld ?_
              refine tq 26 hHeld ?_
              refine tq 27 hHeld ?_
              refine wpAnyH_done (by kernel_rfl) ?_ _
              go_wp2_with fail
              go_roundw
              case rel => exact ⟨i + 1, by omega, by go_num, hBc.on (hb6.ofDr), by rw [allPB, hall.out, hyes.out]; rfl⟩
              case measure => simp [intOf]; omega
           · have hd0 : decide (0 < i) = false := decide_eq_false hk0
             have HK : Shut (i = 0) := (by omega : i = 0)
             clear hk0
             have hyes : Shut (stepPB U n Q i = true) := (by unfold stepPB; rw [eA, eB, decide_eq_true hAB, decide_eq_true HK.out]; rfl : stepPB U n Q i = true)
             refine wp_region_held_drew (S := fun w' => w'.cell? ⟨w.heap.size, 3, none⟩ = some (.slice (some ⟨b, o, none⟩) m c') ∧ w'.cell? ⟨bp, 0, none⟩ = some (.int .i64 (Q (i * 2))) ∧ w'.cell? ⟨bp, 1, none⟩ = some (.int .i64 (Q (i * 2 + 1)))) (by kernel_rfl) ?_ (fun hHeld => ?_)
             · (try dsimp only)
               (first | (go_simp; done) | (go_keep; done))
             refine tq 0 hHeld ?_
             refine tq 1 hHeld ?_
             refine tq 2 hHeld ?_
             refine tq 3 hHeld ?_
             refine tq 4 hHeld ?_
             refine tq 5 hHeld ?_
             refine tq 6 hHeld ?_
             refine tq 7 hHeld ?_
             refine tq 8 hHeld ?_
             refine tq 9 hHeld ?_
             refine tq 10 hHeld ?_
             refine tq 11 hHeld ?_
             refine tq 12 hHeld ?_
             refine tq 13 hHeld ?_
             refine tq 14 hHeld ?_
             refine tq 15 hHeld ?_
             refine tq 16 hHeld ?_
             refine tn 17 hHeld ?_
             refine tn 18 hHeld ?_
             refine tn 19 hHeld ?_
             refine tn 20 hHeld ?_
             refine tn 21 hHeld ?_
             refine tn 22 hHeld ?_
             refine tn 23 hHeld ?_
             refine tn 24 hHeld ?_
             refine tn 25 hHeld ?_
             refine tq 26 hHeld ?_
             refine tq 27 hHeld ?_
             refine wpAnyH_done (by kernel_rfl) ?_ _
             go_wp2_with fail
             go_roundw
             case rel => exact ⟨i + 1, by omega, by go_num, hBc.on (Below.drew (Below.refl _ _)), by rw [allPB, hall.out, hyes.out]; rfl⟩
             case measure => simp [intOf]; omega
         · have hd1 : decide (Q (i * 2 + 1) ≤ Q (i * 2)) = true := decide_eq_true (by omega)
           have hno : Shut (stepPB U n Q i = false) := (by unfold stepPB; rw [decide_eq_false hAB]; rfl : stepPB U n Q i = false)
           refine wp_region_held_drew (S := fun w' => w'.cell? ⟨w.heap.size, 3, none⟩ = some (.slice (some ⟨b, o, none⟩) m c') ∧ w'.cell? ⟨bp, 0, none⟩ = some (.int .i64 (Q (i * 2))) ∧ w'.cell? ⟨bp, 1, none⟩ = some (.int .i64 (Q (i * 2 + 1)))) (by kernel_rfl) ?_ (fun hHeld => ?_)
           · (try dsimp only)
             (first | (go_simp; done) | (go_keep; done))
           refine tq 0 hHeld ?_
           refine tq 1 hHeld ?_
           refine tq 2 hHeld ?_
           refine tq 3 hHeld ?_
           refine tq 4 hHeld ?_
           refine tq 5 hHeld ?_
           refine tq 6 hHeld ?_
           refine tq 7 hHeld ?_
           refine tq 8 hHeld ?_
           refine tq 9 hHeld ?_
           refine tq 10 hHeld ?_
           refine tq 11 hHeld ?_
           refine tq 12 hHeld ?_
           refine tq 13 hHeld ?_
           refine tn 14 hHeld ?_
           refine tn 15 hHeld ?_
           refine tn 16 hHeld ?_
           refine tn 17 hHeld ?_
           refine tn 18 hHeld ?_
           refine tn 19 hHeld ?_
           refine tn 20 hHeld ?_
           refine tn 21 hHeld ?_
           refine tn 22 hHeld ?_
           refine tn 23 hHeld ?_
           refine tn 24 hHeld ?_
           refine tn 25 hHeld ?_
           refine tn 26 hHeld ?_
           refine tq 27 hHeld ?_
           refine wpAnyH_done (by kernel_rfl) ?_ _
           go_wp2_with fail
           go_ret
           exact ⟨by rw [allPB_no hno.out m hlt]; rfl, hBc.bel.trans ((Below.drew (Below.refl _ _)).mono (Nat.le_of_lt hBc.big))⟩
     · obtain rfl : i = m := by omega
       go_wp2
       go_ret
       exact ⟨by rw [hall.out]; rfl, hB.bel⟩
end Go.Proofs.YthijeiehcdoidaaGreat
