/- Whether a world is ok, by the specification. Lists put together in new memory: slices.Concat. A world in new memory, by the program. A world in new memory, by the specification. -/
import Derived.Test.YthekeeagjokpeaaWdI
import Derived.Test.YthekeeagjokpeaaB6
import Derived.Deep.RegionHeld3
import Derived.Deep.DeepCutAuto
import Derived.Test.YthekeeagjokpeaaB1
import Derived.Lib.AppendZeros
namespace Go.Proofs.Ythekeeagjokpeaa
open Go.RowKit
set_option linter.unusedVariables false
set_option linter.unusedSimpArgs false

set_option maxRecDepth 20000 in
set_option maxHeartbeats 4000000 in
theorem l10At_q (a : Option Addr) (n c : Nat) (U : Nat → Int) (id : Int) (p : Nat) (w : World) (h : Flat w a (n * 12) U) (hn : n ≤ 1048576) (hp : idP U n id p) (bb : Bool) (eb : decide (p < n ∧ U (p * 12) = id) = bb) :
    Calls Try.prog 19 #[.slice a n c, .int .i64 id] w fun e w' => e = .returned (.tuple #[.int .i64 (p : Int), .bool bb]) ∧ Below w.heap.size w w' := by
  have hset := cset_map
  go_enter Try.func19, Try.ntmps19
  go_wp2
  go_loopw [6] (fun i wr => ∃ k : Nat, k ≤ p ∧ i = .int .i64 (k : Int) ∧ wr = w) (fun i _ => n - (intOf i).toNat)
  case atStart => exact ⟨0, Nat.zero_le _, rfl, rfl⟩
  case round =>
    obtain ⟨k, hk, rfl, rfl⟩ := hrel
    have hpn := hp.le
    by_cases hlt : k < p
    · have hkn : (k : Int) < (n : Int) := by omega
      have hkk : k < n := by omega
      have hl := hp.lo k hlt
      obtain ⟨b, o, rfl, hbl, hc⟩ := h (by omega)
      have c0 := hc (k * 12) (by omega)
      clear hc
      go_wp2
      go_roundw
      case rel => exact ⟨k + 1, by omega, by go_num, by first | rfl | trivial⟩
      case measure => simp [intOf]; omega
    · obtain rfl : k = p := by omega
      by_cases hkn : k < n
      · have hkn' : (k : Int) < (n : Int) := by omega
        have hge : ¬ U (k * 12) < id := by have := hp.hi hkn; omega
        obtain ⟨b, o, rfl, hbl, hc⟩ := h (by omega)
        have c0 := hc (k * 12) (by omega)
        clear hc
        have hb : (U (k * 12) == id) = bb := by rw [← eb]; by_cases q : U (k * 12) = id <;> simp [q, hkn]
        have EB : Shut (decide (k < n ∧ U (k * 12) = id) = bb) := eb
        clear eb
        go_upto_region 4 with fail
        refine wp_region_held_drew (S := fun w' => w'.cell? ⟨b, o + k * 12, none⟩ = some (.int .i64 (U (k * 12)))) (by kernel_rfl) ?_ (fun hHeld => ?_)
        · (try dsimp only)
          (first | (go_simp; done) | (go_keep; done))
        refine tq 0 hHeld ?_
        refine tq 1 hHeld ?_
        refine tq 2 hHeld ?_
        refine tq 3 hHeld ?_
        refine tq 4 hHeld ?_
        refine tq 5 hHeld ?_
        refine tq 6 hHeld ?_
        refine tq 7 hHeld ?_
        refine tq 8 hHeld ?_
        refine tq 9 hHeld ?_
        refine tq 10 hHeld ?_
        refine tq 11 hHeld ?_
        refine tq 12 hHeld ?_
        refine tq 13 hHeld ?_
        refine tq 14 hHeld ?_
        refine tq 15 hHeld ?_
        refine wpAnyH_done (by kernel_rfl) ?_ _
        go_wp2_with fail
        exact bodyPost_ret (v := .tuple #[.int .i64 (k : Int), .bool bb]) (by simp [results, Try.results19, go_sem, *]) rfl ⟨rfl, by repeat (first | with_reducible apply Below.refl | (with_reducible apply Below.setCell; rotate_left; focus (first | omega | (simp; done) | (simp; omega))) | (with_reducible apply Below.alloc; rotate_left; focus (first | omega | (simp; done) | (simp; omega))) | with_reducible apply Below.drew | with_reducible apply belowDrewN | (with_reducible apply Below.trans; rotate_left; with_reducible apply Below.mono; with_reducible assumption; focus (first | omega | (simp; done) | (simp; omega))))⟩
      · have hkn' : ¬ (k : Int) < (n : Int) := by omega
        obtain rfl : bb = false := by rw [← eb]; exact decide_eq_false (fun q => hkn q.1)
        clear eb
        go_upto_region 4 with fail
        refine wp_region_held_drew (S := fun w' => True) (by kernel_rfl) ?_ (fun hHeld => ?_)
        · (try dsimp only)
          (try trivial)
        refine tq 0 hHeld ?_
        refine tq 1 hHeld ?_
        refine tq 2 hHeld ?_
        refine tq 3 hHeld ?_
        refine tq 4 hHeld ?_
        refine tq 5 hHeld ?_
        refine tn 6 hHeld ?_
        refine tn 7 hHeld ?_
        refine tn 8 hHeld ?_
        refine tn 9 hHeld ?_
        refine tn 10 hHeld ?_
        refine tn 11 hHeld ?_
        refine tn 12 hHeld ?_
        refine tq 13 hHeld ?_
        refine tq 14 hHeld ?_
        refine tq 15 hHeld ?_
        refine wpAnyH_done (by kernel_rfl) ?_ _
        go_wp2_with fail
        exact bodyPost_ret (v := .tuple #[.int .i64 (k : Int), .bool false]) (by simp [results, Try.results19, go_sem, *]) rfl ⟨rfl, by repeat (first | with_reducible apply Below.refl | (with_reducible apply Below.setCell; rotate_left; focus (first | omega | (simp; done) | (simp; omega))) | (with_reducible apply Below.alloc; rotate_left; focus (first | omega | (simp; done) | (simp; omega))) | with_reducible apply Below.drew | with_reducible apply belowDrewN | (with_reducible apply Below.trans; rotate_left; with_reducible apply Below.mono; with_reducible assumption; focus (first | omega | (simp; done) | (simp; omega))))⟩
set_option maxHeartbeats 2000000 in
theorem ahead_q (p q r s : Int) (w : World) (b : Bool) (eb : aheadB p q r s = b) :
    Calls Try.prog 42 #[.agg #[.int .i64 p, .int .i64 q], .agg #[.int .i64 r, .int .i64 s]] w fun e w' => e = .returned (.bool b) ∧ Below w.heap.size w w' := by
  subst eb
  have hset := cset_map
  unfold aheadB
  by_cases h1 : p < r
  · have e0 : decide (p < r ∨ p = r ∧ q < s) = true := decide_eq_true (.inl h1)
    rw [e0]
    go_enter Try.func42, Try.ntmps42
    go_wp2
    go_ret
    exact ⟨rfl, by repeat (first | with_reducible apply Below.refl | (with_reducible apply Below.setCell; rotate_left; focus (first | omega | (simp; done) | (simp; omega))) | (with_reducible apply Below.alloc; rotate_left; focus (first | omega | (simp; done) | (simp; omega))) | with_reducible apply Below.drew | with_reducible apply belowDrewN | (with_reducible apply Below.trans; rotate_left; with_reducible apply Below.mono; with_reducible assumption; focus (first | omega | (simp; done) | (simp; omega))))⟩
  · by_cases h2 : p = r
    · have h2' : (p == r) = true := by simp [h2]
      by_cases h3 : q < s
      · have e0 : decide (p < r ∨ p = r ∧ q < s) = true := decide_eq_true (.inr ⟨h2, h3⟩)
        rw [e0]
        subst h2
        go_enter Try.func42, Try.ntmps42
        go_wp2
        go_ret
        exact ⟨rfl, by repeat (first | with_reducible apply Below.refl | (with_reducible apply Below.setCell; rotate_left; focus (first | omega | (simp; done) | (simp; omega))) | (with_reducible apply Below.alloc; rotate_left; focus (first | omega | (simp; done) | (simp; omega))) | with_reducible apply Below.drew | with_reducible apply belowDrewN | (with_reducible apply Below.trans; rotate_left; with_reducible apply Below.mono; with_reducible assumption; focus (first | omega | (simp; done) | (simp; omega))))⟩
      · have e0 : decide (p < r ∨ p = r ∧ q < s) = false := decide_eq_false (by omega)
        rw [e0]
        subst h2
        go_enter Try.func42, Try.ntmps42
        go_wp2
        go_ret
        exact ⟨rfl, by repeat (first | with_reducible apply Below.refl | (with_reducible apply Below.setCell; rotate_left; focus (first | omega | (simp; done) | (simp; omega))) | (with_reducible apply Below.alloc; rotate_left; focus (first | omega | (simp; done) | (simp; omega))) | with_reducible apply Below.drew | with_reducible apply belowDrewN | (with_reducible apply Below.trans; rotate_left; with_reducible apply Below.mono; with_reducible assumption; focus (first | omega | (simp; done) | (simp; omega))))⟩
    · have e0 : decide (p < r ∨ p = r ∧ q < s) = false := decide_eq_false (by omega)
      have h2' : (p == r) = false := by simp [h2]
      rw [e0]
      go_enter Try.func42, Try.ntmps42
      go_wp2
      go_ret
      exact ⟨rfl, by repeat (first | with_reducible apply Below.refl | (with_reducible apply Below.setCell; rotate_left; focus (first | omega | (simp; done) | (simp; omega))) | (with_reducible apply Below.alloc; rotate_left; focus (first | omega | (simp; done) | (simp; omega))) | with_reducible apply Below.drew | with_reducible apply belowDrewN | (with_reducible apply Below.trans; rotate_left; with_reducible apply Below.mono; with_reducible assumption; focus (first | omega | (simp; done) | (simp; omega))))⟩


set_option maxRecDepth 20000 in
set_option maxHeartbeats 8000000 in
theorem sWorldOk_q (T P : Int) (a : Option Addr) (n c : Nat) (U : Nat → Int) (a' : Option Addr) (m c' : Nat) (Q : Nat → Int) (w : World) (h : Flat w a (n * 12) U) (h' : Flat w a' (m * 2) Q) (hn : n ≤ 1048576) (hm : m ≤ 1048576) (bb : Bool) (ebb : worldB T P n U m Q = bb) :
    Calls Try.prog 18 #[worldW T P a n c a' m c'] w fun e w' => e = .returned (.bool bb) ∧ Below w.heap.size w w' := by
  subst ebb
  have hset := cset_map
  unfold worldB
  cases k1 : decide (0 ≤ T ∧ T ≤ 100000) with
  | false =>
    go_enter Try.func18, Try.ntmps18
    go_wp2_with (go_at_call 40; refine (l1In_q _ _ _ _ _ k1).mono ?_; rintro e w1 ⟨rfl, hb1⟩; obtain ⟨hc1, hf1⟩ := bcell hb1; have hz1 := hb1.size; (try simp only [World.size_drew, World.size_alloc, World.size_setCell] at hc1 hf1 hz1); have hk1x0 := fun o => hc1 (w.heap.size) o (by omega); have hj1x0 := fun o => hf1 (w.heap.size) o (by omega); have hq1x0 : w.heap.size < w1.heap.size := (by omega); clear hc1 hf1)
    go_ret
    exact ⟨rfl, by repeat (first | with_reducible apply Below.refl | (with_reducible apply Below.setCell; rotate_left; focus (first | omega | (simp; done) | (simp; omega))) | (with_reducible apply Below.alloc; rotate_left; focus (first | omega | (simp; done) | (simp; omega))) | with_reducible apply Below.drew | with_reducible apply belowDrewN | (with_reducible apply Below.trans; rotate_left; with_reducible apply Below.mono; with_reducible assumption; focus (first | omega | (simp; done) | (simp; omega))))⟩
  | true =>
    cases k2 : decide (0 ≤ P ∧ P ≤ 2560) with
    | false =>
      go_enter Try.func18, Try.ntmps18
      go_wp2_with (first
        | (have _ := hz1; (go_at_call 40; refine (l1In_q _ _ _ _ _ k2).mono ?_; rintro e w2 ⟨rfl, hb2⟩; obtain ⟨hc2, hf2⟩ := bcell hb2; have hz2 := hb2.size; (try simp only [World.size_drew, World.size_alloc, World.size_setCell] at hc2 hf2 hz2); have hk2x0 := fun o => hc2 (w.heap.size) o (by omega); have hj2x0 := fun o => hf2 (w.heap.size) o (by omega); have hq2x0 : w.heap.size < w2.heap.size := (by omega); clear hc2 hf2))
        | (go_at_call 40; refine (l1In_q _ _ _ _ _ k1).mono ?_; rintro e w1 ⟨rfl, hb1⟩; obtain ⟨hc1, hf1⟩ := bcell hb1; have hz1 := hb1.size; (try simp only [World.size_drew, World.size_alloc, World.size_setCell] at hc1 hf1 hz1); have hk1x0 := fun o => hc1 (w.heap.size) o (by omega); have hj1x0 := fun o => hf1 (w.heap.size) o (by omega); have hq1x0 : w.heap.size < w1.heap.size := (by omega); clear hc1 hf1))
      go_ret
      exact ⟨rfl, by repeat (first | with_reducible apply Below.refl | (with_reducible apply Below.setCell; rotate_left; focus (first | omega | (simp; done) | (simp; omega))) | (with_reducible apply Below.alloc; rotate_left; focus (first | omega | (simp; done) | (simp; omega))) | with_reducible apply Below.drew | with_reducible apply belowDrewN | (with_reducible apply Below.trans; rotate_left; with_reducible apply Below.mono; with_reducible assumption; focus (first | omega | (simp; done) | (simp; omega))))⟩
    | true =>
      cases k3 : bodsB n U with
      | false =>
        go_enter Try.func18, Try.ntmps18
        go_wp2_with (first
          | (have _ := hz1; (go_at_call 40; refine (l1In_q _ _ _ _ _ k2).mono ?_; rintro e w2 ⟨rfl, hb2⟩; obtain ⟨hc2, hf2⟩ := bcell hb2; have hz2 := hb2.size; (try simp only [World.size_drew, World.size_alloc, World.size_setCell] at hc2 hf2 hz2); have hk2x0 := fun o => hc2 (w.heap.size) o (by omega); have hj2x0 := fun o => hf2 (w.heap.size) o (by omega); have hq2x0 : w.heap.size < w2.heap.size := (by omega); clear hc2 hf2))
          | (go_at_call 40; refine (l1In_q _ _ _ _ _ k1).mono ?_; rintro e w1 ⟨rfl, hb1⟩; obtain ⟨hc1, hf1⟩ := bcell hb1; have hz1 := hb1.size; (try simp only [World.size_drew, World.size_alloc, World.size_setCell] at hc1 hf1 hz1); have hk1x0 := fun o => hc1 (w.heap.size) o (by omega); have hj1x0 := fun o => hf1 (w.heap.size) o (by omega); have hq1x0 : w.heap.size < w1.heap.size := (by omega); clear hc1 hf1)
          | (go_at_call 41; refine (sBodiesOk_q a n c U _ _ (h.below (by repeat (first | with_reducible apply Below.refl | (with_reducible apply Below.setCell; rotate_left; focus (first | omega | (simp; done) | (simp; omega))) | (with_reducible apply Below.alloc; rotate_left; focus (first | omega | (simp; done) | (simp; omega))) | with_reducible apply Below.drew | with_reducible apply belowDrewN | (with_reducible apply Below.trans; rotate_left; with_reducible apply Below.mono; with_reducible assumption; focus (first | omega | (simp; done) | (simp; omega)))))) hn k3).mono ?_; rintro e w3 ⟨rfl, hb3⟩; obtain ⟨hc3, hf3⟩ := bcell hb3; have hz3 := hb3.size; (try simp only [World.size_drew, World.size_alloc, World.size_setCell] at hc3 hf3 hz3); have hk3x0 := fun o => hc3 (w.heap.size) o (by omega); have hj3x0 := fun o => hf3 (w.heap.size) o (by omega); have hq3x0 : w.heap.size < w3.heap.size := (by omega); clear hc3 hf3))
        go_ret
        exact ⟨rfl, by repeat (first | with_reducible apply Below.refl | (with_reducible apply Below.setCell; rotate_left; focus (first | omega | (simp; done) | (simp; omega))) | (with_reducible apply Below.alloc; rotate_left; focus (first | omega | (simp; done) | (simp; omega))) | with_reducible apply Below.drew | with_reducible apply belowDrewN | (with_reducible apply Below.trans; rotate_left; with_reducible apply Below.mono; with_reducible assumption; focus (first | omega | (simp; done) | (simp; omega))))⟩
      | true =>
        simp only [Bool.true_and]
        have ha := bodsB_asc k3
        go_enter Try.func18, Try.ntmps18
        go_wp2_with (first
          | (have _ := hz1; (go_at_call 40; refine (l1In_q _ _ _ _ _ k2).mono ?_; rintro e w2 ⟨rfl, hb2⟩; obtain ⟨hc2, hf2⟩ := bcell hb2; have hz2 := hb2.size; (try simp only [World.size_drew, World.size_alloc, World.size_setCell] at hc2 hf2 hz2); have hk2x0 := fun o => hc2 (w.heap.size) o (by omega); have hj2x0 := fun o => hf2 (w.heap.size) o (by omega); have hq2x0 : w.heap.size < w2.heap.size := (by omega); clear hc2 hf2))
          | (go_at_call 40; refine (l1In_q _ _ _ _ _ k1).mono ?_; rintro e w1 ⟨rfl, hb1⟩; obtain ⟨hc1, hf1⟩ := bcell hb1; have hz1 := hb1.size; (try simp only [World.size_drew, World.size_alloc, World.size_setCell] at hc1 hf1 hz1); have hk1x0 := fun o => hc1 (w.heap.size) o (by omega); have hj1x0 := fun o => hf1 (w.heap.size) o (by omega); have hq1x0 : w.heap.size < w1.heap.size := (by omega); clear hc1 hf1)
          | (go_at_call 41; refine (sBodiesOk_q a n c U _ _ (h.below (by repeat (first | with_reducible apply Below.refl | (with_reducible apply Below.setCell; rotate_left; focus (first | omega | (simp; done) | (simp; omega))) | (with_reducible apply Below.alloc; rotate_left; focus (first | omega | (simp; done) | (simp; omega))) | with_reducible apply Below.drew | with_reducible apply belowDrewN | (with_reducible apply Below.trans; rotate_left; with_reducible apply Below.mono; with_reducible assumption; focus (first | omega | (simp; done) | (simp; omega)))))) hn k3).mono ?_; rintro e w3 ⟨rfl, hb3⟩; obtain ⟨hc3, hf3⟩ := bcell hb3; have hz3 := hb3.size; (try simp only [World.size_drew, World.size_alloc, World.size_setCell] at hc3 hf3 hz3); have hk3x0 := fun o => hc3 (w.heap.size) o (by omega); have hj3x0 := fun o => hf3 (w.heap.size) o (by omega); have hq3x0 : w.heap.size < w3.heap.size := (by omega); clear hc3 hf3))
        have hB3 : WdR w T P a n c a' m c' w3 := ⟨by repeat (first | with_reducible apply Below.refl | (with_reducible apply Below.setCell; rotate_left; focus (first | omega | (simp; done) | (simp; omega))) | (with_reducible apply Below.alloc; rotate_left; focus (first | omega | (simp; done) | (simp; omega))) | with_reducible apply Below.drew | with_reducible apply belowDrewN | (with_reducible apply Below.trans; rotate_left; with_reducible apply Below.mono; with_reducible assumption; focus (first | omega | (simp; done) | (simp; omega)))), by omega, by go_simp, by go_simp, by go_simp, by go_simp⟩
        clear hb1 hb2 hb3 hk1x0 hk2x0 hk3x0 hj1x0 hj2x0 hj3x0
        go_loopw [3, 4, 5, 6, 7, 8] (fun i _ _ _ _ _ wr => ∃ k : Nat, k ≤ m ∧ i = .int .i64 (k : Int) ∧ WdR w T P a n c a' m c' wr ∧ allPB U n Q k = true) (fun i _ _ _ _ _ _ => m - (intOf i).toNat)
        case atStart => exact ⟨0, Nat.zero_le _, rfl, hB3, rfl⟩
        case round =>
          obtain ⟨i, hi, rfl, hB, hall0⟩ := hrel
          have hall : Shut (allPB U n Q i = true) := hall0
          clear hall0 hB3
          have hbig := hB.big
          have z2 := hB.c2
          have z3 := hB.c3
          by_cases hlt : i < m
          · obtain ⟨b, o, rfl, hbl, hc⟩ := (h'.below hB.bel) (by omega)
            have hbl0 : b < w.heap.size := by obtain ⟨b', o', e, l, _⟩ := h' (by omega); simp only [Option.some.injEq, Addr.mk.injEq] at e; omega
            have x0 := hc (i * 2) (by omega)
            have x1 := hc (i * 2 + 1) (by omega)
            simp only [← Nat.add_assoc] at x0 x1
            obtain ⟨pA, hpA⟩ := idP_ex U (Q (i * 2)) n
            obtain ⟨pB, hpB⟩ := idP_ex U (Q (i * 2 + 1)) n
            have eA' := hasF_at ha hpA
            have eB' := hasF_at ha hpB
            generalize eA : hasF U n (Q (i * 2)) = vA at eA'
            generalize eB : hasF U n (Q (i * 2 + 1)) = vB at eB'
            go_upto_region 7 with fail
            have hE : Below wr.heap.size wr (wr.alloc (Obj.cells #[.int .i64 (Q (i * 2)), .int .i64 (Q (i * 2 + 1))] 73)) := (Below.refl _ _).alloc (Nat.le_refl _) _
            have hB2 := hB.on hE
            have y0 : (wr.alloc (Obj.cells #[.int .i64 (Q (i * 2)), .int .i64 (Q (i * 2 + 1))] 73)).cell? ⟨wr.heap.size, 0, none⟩ = some (.int .i64 (Q (i * 2))) := by go_simp
            have y1 : (wr.alloc (Obj.cells #[.int .i64 (Q (i * 2)), .int .i64 (Q (i * 2 + 1))] 73)).cell? ⟨wr.heap.size, 1, none⟩ = some (.int .i64 (Q (i * 2 + 1))) := by go_simp
            have hz : wr.heap.size < (wr.alloc (Obj.cells #[.int .i64 (Q (i * 2)), .int .i64 (Q (i * 2 + 1))] 73)).heap.size := by simp
            generalize (wr.alloc (Obj.cells #[.int .i64 (Q (i * 2)), .int .i64 (Q (i * 2 + 1))] 73)) = wx at hE hB2 y0 y1 hz ⊢
            clear x0 x1 z2 z3
            have hbb := hE.size
            generalize wr.heap.size = bp at y0 y1 hz hbig hbb ⊢
            have z2 := hB2.c2
            have z3 := hB2.c3
            have hbo : Shut (vA = decide (pA < n ∧ U (pA * 12) = Q (i * 2)) ∧ vB = decide (pB < n ∧ U (pB * 12) = Q (i * 2 + 1))) := ⟨eA', eB'⟩
            clear eA' eB'
            go_cut [6] (fun s wc => s = .bool vA ∧ WdR w T P a n c (some ⟨b, o, none⟩) m c' wc ∧ wc.cell? ⟨bp, 0, none⟩ = some (.int .i64 (Q (i * 2))) ∧ wc.cell? ⟨bp, 1, none⟩ = some (.int .i64 (Q (i * 2 + 1))) ∧ bp < wc.heap.size)
            case first =>
              go_wp2_with (go_at_call 19; refine (l10At_q a n c U _ pA _ (h.below hB2.bel) hn hpA vA hbo.out.1.symm).mono ?_; rintro e w4 ⟨rfl, hb4⟩; obtain ⟨hc4, hf4⟩ := bcell hb4; have hz4 := hb4.size; (try simp only [World.size_drew, World.size_alloc, World.size_setCell] at hc4 hf4 hz4); have hk4x0 := fun o => hc4 (bp) o (by omega); have hj4x0 := fun o => hf4 (bp) o (by omega); have hq4x0 : bp < w4.heap.size := (by omega); clear hc4 hf4)
              go_meet
              exact ⟨rfl, hB2.on hb4, by go_simp, by go_simp, by omega⟩
            case rest =>
            clear hB2 y0 y1 hz z2 z3
            obtain ⟨rfl, hB2, y0, y1, hz⟩ := hcut
            have z2 := hB2.c2
            have z3 := hB2.c3
            go_upto_region 8 with fail
            go_cut [8] (fun s wd => s = .bool vB ∧ WdR w T P a n c (some ⟨b, o, none⟩) m c' wd ∧ wd.cell? ⟨bp, 0, none⟩ = some (.int .i64 (Q (i * 2))) ∧ wd.cell? ⟨bp, 1, none⟩ = some (.int .i64 (Q (i * 2 + 1))) ∧ bp < wd.heap.size)
            case first =>
              go_wp2_with (go_at_call 19; refine (l10At_q a n c U _ pB _ (h.below hB2.bel) hn hpB vB hbo.out.2.symm).mono ?_; rintro e w4 ⟨rfl, hb4⟩; obtain ⟨hc4, hf4⟩ := bcell hb4; have hz4 := hb4.size; (try simp only [World.size_drew, World.size_alloc, World.size_setCell] at hc4 hf4 hz4); have hk4x0 := fun o => hc4 (bp) o (by omega); have hj4x0 := fun o => hf4 (bp) o (by omega); have hq4x0 : bp < w4.heap.size := (by omega); clear hc4 hf4)
              go_meet
              exact ⟨rfl, hB2.on hb4, by go_simp, by go_simp, by omega⟩
            case rest =>
            clear hB2 y0 y1 hz z2 z3
            obtain ⟨rfl, hBc, y0, y1, hz⟩ := hcut
            have z3 := hBc.c3
            have hbel := hBc.bel
            have hbgc := hBc.big
            clear hbo
            go_upto_region 9 with fail
            cases vA with
            | false =>
              have hno : Shut (stepPB U n Q i = false) := (by unfold stepPB; rw [eA]; simp : stepPB U n Q i = false)
              refine wp_region_held_drew (S := fun w' => w'.cell? ⟨w.heap.size, 3, none⟩ = some (.slice (some ⟨b, o, none⟩) m c') ∧ w'.cell? ⟨bp, 0, none⟩ = some (.int .i64 (Q (i * 2))) ∧ w'.cell? ⟨bp, 1, none⟩ = some (.int .i64 (Q (i * 2 + 1)))) (by kernel_rfl) ?_ (fun hHeld => ?_)
              · (try dsimp only)
                (first | (go_simp; done) | (go_keep; done))
              refine tq 0 hHeld ?_
              refine tq 1 hHeld ?_
              refine tq 2 hHeld ?_
              refine tn 3 hHeld ?_
              refine tn 4 hHeld ?_
              refine tq 5 hHeld ?_
              refine tq 6 hHeld ?_
              refine tn 7 hHeld ?_
              refine tn 8 hHeld ?_
              refine tn 9 hHeld ?_
              refine tn 10 hHeld ?_
              refine tn 11 hHeld ?_
              refine tq 12 hHeld ?_
              refine tq 13 hHeld ?_
              refine tn 14 hHeld ?_
              refine tn 15 hHeld ?_
              refine tn 16 hHeld ?_
              refine tn 17 hHeld ?_
              refine tn 18 hHeld ?_
              refine tn 19 hHeld ?_
              refine tn 20 hHeld ?_
              refine tn 21 hHeld ?_
              refine tn 22 hHeld ?_
              refine tn 23 hHeld ?_
              refine tn 24 hHeld ?_
              refine tn 25 hHeld ?_
              refine tn 26 hHeld ?_
              refine tq 27 hHeld ?_
              refine wpAnyH_done (by kernel_rfl) ?_ _
              go_wp2_with fail
              go_ret
              exact ⟨by rw [allPB_no hno.out m hlt]; rfl, hBc.bel.trans ((Below.drew (Below.refl _ _)).mono (Nat.le_of_lt hBc.big))⟩
            | true =>
              cases vB with
              | false =>
                have hno : Shut (stepPB U n Q i = false) := (by unfold stepPB; rw [eB]; simp : stepPB U n Q i = false)
                refine wp_region_held_drew (S := fun w' => w'.cell? ⟨w.heap.size, 3, none⟩ = some (.slice (some ⟨b, o, none⟩) m c') ∧ w'.cell? ⟨bp, 0, none⟩ = some (.int .i64 (Q (i * 2))) ∧ w'.cell? ⟨bp, 1, none⟩ = some (.int .i64 (Q (i * 2 + 1)))) (by kernel_rfl) ?_ (fun hHeld => ?_)
                · (try dsimp only)
                  (first | (go_simp; done) | (go_keep; done))
                refine tq 0 hHeld ?_
                refine tq 1 hHeld ?_
                refine tq 2 hHeld ?_
                refine tq 3 hHeld ?_
                refine tq 4 hHeld ?_
                refine tq 5 hHeld ?_
                refine tq 6 hHeld ?_
                refine tn 7 hHeld ?_
                refine tn 8 hHeld ?_
                refine tn 9 hHeld ?_
                refine tn 10 hHeld ?_
                refine tn 11 hHeld ?_
                refine tq 12 hHeld ?_
                refine tq 13 hHeld ?_
                refine tn 14 hHeld ?_
                refine tn 15 hHeld ?_
                refine tn 16 hHeld ?_
                refine tn 17 hHeld ?_
                refine tn 18 hHeld ?_
                refine tn 19 hHeld ?_
                refine tn 20 hHeld ?_
                refine tn 21 hHeld ?_
                refine tn 22 hHeld ?_
                refine tn 23 hHeld ?_
                refine tn 24 hHeld ?_
                refine tn 25 hHeld ?_
                refine tn 26 hHeld ?_
                refine tq 27 hHeld ?_
                refine wpAnyH_done (by kernel_rfl) ?_ _
                go_wp2_with fail
                go_ret
                exact ⟨by rw [allPB_no hno.out m hlt]; rfl, hBc.bel.trans ((Below.drew (Below.refl _ _)).mono (Nat.le_of_lt hBc.big))⟩
              | true =>
                by_cases hAB : Q (i * 2) < Q (i * 2 + 1)
                · have hd1 : decide (Q (i * 2 + 1) ≤ Q (i * 2)) = false := decide_eq_false (by omega)
                  by_cases hk0 : 0 < i
                  · have hd0 : decide (0 < i) = true := decide_eq_true hk0
                    obtain ⟨j, hj⟩ : ∃ j, j + 1 = i := ⟨i - 1, by omega⟩
                    have hj' : (i : Int) - 1 = (j : Int) := by omega
                    have hjn : j < m := by omega
                    have hwj : IntKind.i64.wrap (j : Int) = (j : Int) := i64w (by omega)
                    obtain ⟨b2, o2, e2, _, hc2⟩ := (h'.below hBc.bel) (by omega)
                    simp only [Option.some.injEq, Addr.mk.injEq, and_true] at e2
                    obtain ⟨rfl, rfl⟩ := e2
                    have p0 := hc2 (j * 2) (by omega)
                    have p1 := hc2 (j * 2 + 1) (by omega)
                    simp only [← Nat.add_assoc] at p1
                    clear hc2
                    have HJ : Shut (j + 1 = i) := hj
                    clear hj
                    cases eC : aheadB (Q (j * 2)) (Q (j * 2 + 1)) (Q (i * 2)) (Q (i * 2 + 1)) with
                    | false =>
                      have hno : Shut (stepPB U n Q i = false) := (by unfold stepPB; rw [show i - 1 = j from by have := HJ.out; omega, eC, decide_eq_false (by omega : ¬ i = 0)]; simp : stepPB U n Q i = false)
                      refine wp_region_held_drew (S := fun w' => w'.cell? ⟨w.heap.size, 3, none⟩ = some (.slice (some ⟨b, o, none⟩) m c') ∧ w'.cell? ⟨bp, 0, none⟩ = some (.int .i64 (Q (i * 2))) ∧ w'.cell? ⟨bp, 1, none⟩ = some (.int .i64 (Q (i * 2 + 1))) ∧ w'.cell? ⟨b, o + j * 2, none⟩ = some (.int .i64 (Q (j * 2))) ∧ w'.cell? ⟨b, o + j * 2 + 1, none⟩ = some (.int .i64 (Q (j * 2 + 1)))) (by kernel_rfl) ?_ (fun hHeld => ?_)
                      · (try dsimp only)
                        (first | (go_simp; done) | (go_keep; done))
                      refine tq 0 hHeld ?_
                      refine tq 1 hHeld ?_
                      refine tq 2 hHeld ?_
                      refine tq 3 hHeld ?_
                      refine tq 4 hHeld ?_
                      refine tq 5 hHeld ?_
                      refine tq 6 hHeld ?_
                      refine tq 7 hHeld ?_
                      refine tq 8 hHeld ?_
                      refine tq 9 hHeld ?_
                      refine tq 10 hHeld ?_
                      refine tq 11 hHeld ?_
                      refine tq 12 hHeld ?_
                      refine tq 13 hHeld ?_
                      refine tq 14 hHeld ?_
                      refine tq 15 hHeld ?_
                      refine tq 16 hHeld ?_
                      refine tq 17 hHeld ?_
                      refine tq 18 hHeld ?_
                      refine tq 19 hHeld ?_
                      refine tq 20 hHeld ?_
                      refine tq 21 hHeld ?_
                      refine tq 22 hHeld ?_
                      refine tq 23 hHeld ?_
                      (refine tc 24 fun K hK => ?_; go_simp; (go_at_call 42; refine (ahead_q _ _ _ _ _ _ eC).mono ?_; rintro e w6 ⟨rfl, hb6⟩; obtain ⟨hc6, hf6⟩ := bcell hb6; have hz6 := hb6.size; (try simp only [World.size_drew, World.size_alloc, World.size_setCell] at hc6 hf6 hz6); have hk6x0 := fun o => hc6 (w.heap.size) o (by omega); have hj6x0 := fun o => hf6 (w.heap.size) o (by omega); have hq6x0 : w.heap.size < w6.heap.size := (by omega); have hk6x1 := fun o => hc6 (bp) o (by omega); have hj6x1 := fun o => hf6 (bp) o (by omega); have hq6x1 : bp < w6.heap.size := (by omega); have hk6x2 := fun o => hc6 (b) o (by omega); have hj6x2 := fun o => hf6 (b) o (by omega); have hq6x2 : b < w6.heap.size := (by omega); clear hc6 hf6); (try go_wp2_with fail); refine tr hK (fun hHeld => ?_); clear hK K)
                      refine tq 25 hHeld ?_
                      refine tq 26 hHeld ?_
                      refine tq 27 hHeld ?_
                      refine wpAnyH_done (by kernel_rfl) ?_ _
                      go_wp2_with fail
                      go_ret
                      exact ⟨by rw [allPB_no hno.out m hlt]; rfl, hBc.bel.trans ((hb6.ofDr).mono (Nat.le_of_lt hBc.big))⟩
                    | true =>
                      have hyes : Shut (stepPB U n Q i = true) := (by unfold stepPB; rw [show i - 1 = j from by have := HJ.out; omega, eC, eA, eB, decide_eq_true hAB]; simp : stepPB U n Q i = true)
                      refine wp_region_held_drew (S := fun w' => w'.cell? ⟨w.heap.size, 3, none⟩ = some (.slice (some ⟨b, o, none⟩) m c') ∧ w'.cell? ⟨bp, 0, none⟩ = some (.int .i64 (Q (i * 2))) ∧ w'.cell? ⟨bp, 1, none⟩ = some (.int .i64 (Q (i * 2 + 1))) ∧ w'.cell? ⟨b, o + j * 2, none⟩ = some (.int .i64 (Q (j * 2))) ∧ w'.cell? ⟨b, o + j * 2 + 1, none⟩ = some (.int .i64 (Q (j * 2 + 1)))) (by kernel_rfl) ?_ (fun hHeld => ?_)
                      · (try dsimp only)
                        (first | (go_simp; done) | (go_keep; done))
                      refine tq 0 hHeld ?_
                      refine tq 1 hHeld ?_
                      refine tq 2 hHeld ?_
                      refine tq 3 hHeld ?_
                      refine tq 4 hHeld ?_
                      refine tq 5 hHeld ?_
                      refine tq 6 hHeld ?_
                      refine tq 7 hHeld ?_
                      refine tq 8 hHeld ?_
                      refine tq 9 hHeld ?_
                      refine tq 10 hHeld ?_
                      refine tq 11 hHeld ?_
                      refine tq 12 hHeld ?_
                      refine tq 13 hHeld ?_
                      refine tq 14 hHeld ?_
                      refine tq 15 hHeld ?_
                      refine tq 16 hHeld ?_
                      refine tq 17 hHeld ?_
                      refine tq 18 hHeld ?_
                      refine tq 19 hHeld ?_
                      refine tq 20 hHeld ?_
                      refine tq 21 hHeld ?_
                      refine tq 22 hHeld ?_
                      refine tq 23 hHeld ?_
                      (refine tc 24 fun K hK => ?_; go_simp; (go_at_call 42; refine (ahead_q _ _ _ _ _ _ eC).mono ?_; rintro e w6 ⟨rfl, hb6⟩; obtain ⟨hc6, hf6⟩ := bcell hb6; have hz6 := hb6.size; (try simp only [World.size_drew, World.size_alloc, World.size_setCell] at hc6 hf6 hz6); have hk6x0 := fun o => hc6 (w.heap.size) o (by omega); have hj6x0 := fun o => hf6 (w.heap.size) o (by omega); have hq6x0 : w.heap.size < w6.heap.size := (by omega); have hk6x1 := fun o => hc6 (bp) o (by omega); have hj6x1 := fun o => hf6 (bp) o (by omega); have hq6x1 : bp < w6.heap.size := (by omega); have hk6x2 := fun o => hc6 (b) o (by omega); have hj6x2 := fun o => hf6 (b) o (by omega); have hq6x2 : b < w6.heap.size := (by omega); clear hc6 hf6); (try go_wp2_with fail); refine tr hK (fun hHeld => ?_); clear hK K)
                      refine tq 25 hHeld ?_
                      refine tq 26 hHeld ?_
                      refine tq 27 hHeld ?_
                      refine wpAnyH_done (by kernel_rfl) ?_ _
                      go_wp2_with fail
                      go_roundw
                      case rel => exact ⟨i + 1, by omega, by go_num, hBc.on (hb6.ofDr), by rw [allPB, hall.out, hyes.out]; rfl⟩
                      case measure => simp [intOf]; omega
                  · have hd0 : decide (0 < i) = false := decide_eq_false hk0
                    have HK : Shut (i = 0) := (by omega : i = 0)
                    clear hk0
                    have hyes : Shut (stepPB U n Q i = true) := (by unfold stepPB; rw [eA, eB, decide_eq_true hAB, decide_eq_true HK.out]; rfl : stepPB U n Q i = true)
                    refine wp_region_held_drew (S := fun w' => w'.cell? ⟨w.heap.size, 3, none⟩ = some (.slice (some ⟨b, o, none⟩) m c') ∧ w'.cell? ⟨bp, 0, none⟩ = some (.int .i64 (Q (i * 2))) ∧ w'.cell? ⟨bp, 1, none⟩ = some (.int .i64 (Q (i * 2 + 1)))) (by kernel_rfl) ?_ (fun hHeld => ?_)
                    · (try dsimp only)
                      (first | (go_simp; done) | (go_keep; done))
                    refine tq 0 hHeld ?_
                    refine tq 1 hHeld ?_
                    refine tq 2 hHeld ?_
                    refine tq 3 hHeld ?_
                    refine tq 4 hHeld ?_
                    refine tq 5 hHeld ?_
                    refine tq 6 hHeld ?_
                    refine tq 7 hHeld ?_
                    refine tq 8 hHeld ?_
                    refine tq 9 hHeld ?_
                    refine tq 10 hHeld ?_
                    refine tq 11 hHeld ?_
                    refine tq 12 hHeld ?_
                    refine tq 13 hHeld ?_
                    refine tq 14 hHeld ?_
                    refine tq 15 hHeld ?_
                    refine tq 16 hHeld ?_
                    refine tn 17 hHeld ?_
                    refine tn 18 hHeld ?_
                    refine tn 19 hHeld ?_
                    refine tn 20 hHeld ?_
                    refine tn 21 hHeld ?_
                    refine tn 22 hHeld ?_
                    refine tn 23 hHeld ?_
                    refine tn 24 hHeld ?_
                    refine tn 25 hHeld ?_
                    refine tq 26 hHeld ?_
                    refine tq 27 hHeld ?_
                    refine wpAnyH_done (by kernel_rfl) ?_ _
                    go_wp2_with fail
                    go_roundw
                    case rel => exact ⟨i + 1, by omega, by go_num, hBc.on (Below.drew (Below.refl _ _)), by rw [allPB, hall.out, hyes.out]; rfl⟩
                    case measure => simp [intOf]; omega
                · have hd1 : decide (Q (i * 2 + 1) ≤ Q (i * 2)) = true := decide_eq_true (by omega)
                  have hno : Shut (stepPB U n Q i = false) := (by unfold stepPB; rw [decide_eq_false hAB]; rfl : stepPB U n Q i = false)
                  refine wp_region_held_drew (S := fun w' => w'.cell? ⟨w.heap.size, 3, none⟩ = some (.slice (some ⟨b, o, none⟩) m c') ∧ w'.cell? ⟨bp, 0, none⟩ = some (.int .i64 (Q (i * 2))) ∧ w'.cell? ⟨bp, 1, none⟩ = some (.int .i64 (Q (i * 2 + 1)))) (by kernel_rfl) ?_ (fun hHeld => ?_)
                  · (try dsimp only)
                    (first | (go_simp; done) | (go_keep; done))
                  refine tq 0 hHeld ?_
                  refine tq 1 hHeld ?_
                  refine tq 2 hHeld ?_
                  refine tq 3 hHeld ?_
                  refine tq 4 hHeld ?_
                  refine tq 5 hHeld ?_
                  refine tq 6 hHeld ?_
                  refine tq 7 hHeld ?_
                  refine tq 8 hHeld ?_
                  refine tq 9 hHeld ?_
                  refine tq 10 hHeld ?_
                  refine tq 11 hHeld ?_
                  refine tq 12 hHeld ?_
                  refine tq 13 hHeld ?_
                  refine tn 14 hHeld ?_
                  refine tn 15 hHeld ?_
                  refine tn 16 hHeld ?_
                  refine tn 17 hHeld ?_
                  refine tn 18 hHeld ?_
                  refine tn 19 hHeld ?_
                  refine tn 20 hHeld ?_
                  refine tn 21 hHeld ?_
                  refine tn 22 hHeld ?_
                  refine tn 23 hHeld ?_
                  refine tn 24 hHeld ?_
                  refine tn 25 hHeld ?_
                  refine tn 26 hHeld ?_
                  refine tq 27 hHeld ?_
                  refine wpAnyH_done (by kernel_rfl) ?_ _
                  go_wp2_with fail
                  go_ret
                  exact ⟨by rw [allPB_no hno.out m hlt]; rfl, hBc.bel.trans ((Below.drew (Below.refl _ _)).mono (Nat.le_of_lt hBc.big))⟩
          · obtain rfl : i = m := by omega
            go_wp2
            go_ret
            exact ⟨by rw [hall.out]; rfl, hB.bel⟩
end Go.Proofs.Ythekeeagjokpeaa
namespace Go.Proofs.Ythekeeagjokpeaa
open Go.RowKit
set_option linter.unusedVariables false
set_option linter.unusedSimpArgs false
def lenS (L : Nat → Nat) : Nat → Nat
  | 0 => 0
  | k + 1 => lenS L k + L k
theorem lenS_mono (L : Nat → Nat) : ∀ (k r : Nat), k ≤ r → lenS L k ≤ lenS L r
  | k, 0, h => by rw [Nat.le_zero.1 h]; exact Nat.le_refl _
  | k, r + 1, h => by
    rcases Nat.lt_or_eq_of_le h with h | h
    · exact Nat.le_trans (lenS_mono L k r (by omega)) (show lenS L r ≤ lenS L r + L r by omega)
    · rw [h]; exact Nat.le_refl _
abbrev zcBody : Value := .agg #[.int .i64 0, .int .i64 0, .int .i64 0, .int .i64 0, .int .i64 0, .int .i64 0, .int .i64 0, .int .i64 0, .int .i64 0, .int .i64 0, .int .i64 0, .int .i64 0]
theorem infoItBody : (Try.prog.info? 43).map (fun i => (i.zero, i.size, i.bytes)) = some (some zcBody, 12, 96) := by kernel_rfl
set_option maxRecDepth 20000 in
theorem growBody (n : Nat) (w : World) (hn : n ≤ 2097152) (U : Nat → Int) :
    Calls Try.prog 68 #[.slice none 0 0, .int .i64 (n : Int)] w fun e w' => ∃ a c, e = .returned (.slice a 0 c) ∧ OwnL w' w.heap.size 43 12 (.slice a 0 c) 0 U ∧ Below w.heap.size w w' := by
  by_cases h0 : n = 0
  · subst h0
    go_enter Try.func68, Try.ntmps68
    go_wp2
    go_ret
    exact ⟨none, 0, rfl, OwnL.nil _ _ _ _ _, Below.refl _ _⟩
  · have hp : (0 : Int) < (n : Int) := by omega
    have hnn : ¬ ((n : Int) < 0) := by omega
    obtain ⟨i, hi, hzz⟩ := Option.map_eq_some_iff.1 infoItBody
    simp only [Prod.mk.injEq] at hzz
    obtain ⟨hz, hs, hb⟩ := hzz
    have hr := Go.Lib.run_append_nil_zeros (P := Try.prog) w 33 3 33 43 i zcBody .i64 .i64 Try.underlying33 Try.underlying3 hi hz n (by omega) (by rw [hs]; decide) (by omega) (by rw [hb]; omega)
    have hcap := grownCap_ge w n 0 43
    have hmax := grownCap_le_maxLen w n 0 43 (by unfold maxLen; omega)
    have hM : (Builtin.zeroCells zcBody.cells n ++ Builtin.zeroCells zcBody.cells (grownCap w n 0 43 - n)).size = grownCap w n 0 43 * 12 := by
      rw [Array.size_append, size_zeroCells, size_zeroCells, ← Nat.add_mul, Nat.add_sub_cancel' hcap]; rfl
    generalize grownCap w n 0 43 = cp at hr hcap hmax hM
    generalize Builtin.zeroCells zcBody.cells n ++ Builtin.zeroCells zcBody.cells (cp - n) = M at hr hM
    have hcp : 0 ≤ (cp : Int) := by omega
    go_enter Try.func68, Try.ntmps68
    go_wp2_with (refine Go.Lib.wpList_append_run _ rfl _ _ _ _ rfl _ _ rfl rfl _ _ hr ?_)
    go_ret
    refine ⟨_, _, rfl, ?_, (Below.refl _ _).drew.alloc (by simp) _⟩
    refine ⟨by simp [numL], .inr ⟨w.heap.size, cp, M, rfl, Nat.le_refl _, ?_, Nat.zero_le _, hmax, hM, by simp [numL]⟩⟩
    exact Go.Deep.blk_alloc_new w.drew (.cells M 43)
def catSBody (L : Nat → Nat) (X : Nat → Nat → Int) : Nat → Nat → Int
  | 0 => fun _ => 0
  | k + 1 => cat (lenS L k * 12) (catSBody L X k) (X k)
set_option maxRecDepth 20000 in
set_option maxHeartbeats 4000000 in
theorem concatBody (b0 r c0 : Nat) (A : Nat → Option Addr) (L C : Nat → Nat) (X : Nat → Nat → Int) (w : World) (hb0 : b0 < w.heap.size) (hr : r ≤ 3)
    (hc : ∀ j, j < r → w.cell? ⟨b0, j, none⟩ = some (.slice (A j) (L j) (C j))) (hF : ∀ j, j < r → Flat w (A j) (L j * 12) (X j)) (hL : lenS L r ≤ 2097152) :
    Calls Try.prog 50 #[.slice (some ⟨b0, 0, none⟩) r c0] w fun e w' => ∃ a c, e = .returned (.slice a (lenS L r) c) ∧ OwnL w' w.heap.size 43 12 (.slice a (lenS L r) c) (lenS L r) (catSBody L X r) ∧ Below w.heap.size w w' := by
  go_enter Try.func50, Try.ntmps50
  go_wp2
  go_loop [3, 11] (fun s i => ∃ k : Nat, k ≤ r ∧ i = .int .i64 (k : Int) ∧ s = .int .i64 (lenS L k : Int)) (fun _ i => r - (intOf i).toNat)
  case atStart => exact ⟨0, Nat.zero_le _, rfl, rfl⟩
  case round =>
    obtain ⟨k, hk, rfl, rfl⟩ := hrel
    by_cases hlt : k < r
    · have hkr : (k : Int) < (r : Int) := by omega
      have c1 := hc k hlt
      have hm := lenS_mono L (k + 1) r (by omega)
      have hs : lenS L (k + 1) = lenS L k + L k := rfl
      have hnn : ¬ ((lenS L k : Int) + (L k : Int) < 0) := by omega
      go_wp2
      go_round
      case rel => exact ⟨k + 1, by omega, by go_num, by rw [hs]; go_num⟩
      case measure => simp [intOf]; omega
    · obtain rfl : k = r := by omega
      go_wp2_with (go_at_call 68; refine (growBody _ _ (by omega) (fun _ => 0)).mono ?_; rintro e w1 ⟨a1, c1, rfl, ho1, hb1⟩)
      go_loopw [6, 27] (fun s i wr => ∃ (j : Nat) (a c : _) , j ≤ k ∧ i = .int .i64 (j : Int) ∧ s = .slice a (lenS L j) c ∧ OwnL wr w.heap.size 43 12 (.slice a (lenS L j) c) (lenS L j) (catSBody L X j) ∧ Below w.heap.size w wr) (fun _ i _ => k - (intOf i).toNat)
      case atStart => exact ⟨0, a1, c1, Nat.zero_le _, rfl, rfl, ho1, hb1⟩
      case round =>
        obtain ⟨j, a, c, hj, rfl, rfl, ho, hB⟩ := hrel
        have hsz := hB.size
        by_cases hlt2 : j < k
        · have hkr : (j : Int) < (k : Int) := by omega
          have c2 : wr.cell? ⟨b0, j, none⟩ = some (.slice (A j) (L j) (C j)) := (hB.cell (p := ⟨b0, j, none⟩) hb0).trans (hc j hlt2)
          have hm := lenS_mono L (j + 1) k (by omega)
          have hs : lenS L (j + 1) = lenS L j + L j := rfl
          have hFj : Flat wr (A j) (L j * 12) (X j) := (hF j hlt2).below hB
          have HS : Shut (lenS L (j + 1) = lenS L j + L j) := hs
          clear hs
          go_wp2_with (refine wpList_app rfl _ _ _ rfl w.heap.size 43 12 96 zcBody Try.underlying33 infoItBody rfl (by decide) _ _ _ rfl ho _ _ _ _ rfl hFj (by unfold maxLen; have := HS.out; omega) (by have := HS.out; omega) hsz ?_; intro a2 c2 w2 ho2 hg2)
          go_roundw
          case rel => exact ⟨j + 1, a2, c2, by omega, by go_num, by rw [HS.out], by have := HS.out; rw [this]; exact ho2, hB.grown hg2 hsz (fun b hb => (ho.lt b hb).1)⟩
          case measure => simp [intOf]; omega
        · obtain rfl : j = k := by omega
          go_wp2
          go_ret
          exact ⟨a, c, rfl, ho, hB⟩
theorem cat0Body (X Y : Nat → Int) : ∀ q, cat (0 * 12) X Y q = Y q := by intro q; simp [cat]
theorem concat1Body (b0 c0 : Nat) (a : Option Addr) (n c : Nat) (U : Nat → Int) (w : World) (hb0 : b0 < w.heap.size) (hc : w.cell? ⟨b0, 0, none⟩ = some (.slice a n c)) (hF : Flat w a (n * 12) U) (hn : n ≤ 2097152) :
    Calls Try.prog 50 #[.slice (some ⟨b0, 0, none⟩) 1 c0] w fun e w' => ∃ a' c', e = .returned (.slice a' n c') ∧ OwnL w' w.heap.size 43 12 (.slice a' n c') n U ∧ Below w.heap.size w w' := by
  have e : lenS (fun _ => n) 1 = n := by simp [lenS]
  have q := concatBody b0 1 c0 (fun _ => a) (fun _ => n) (fun _ => c) (fun _ => U) w hb0 (by omega) (fun j hj => by obtain rfl : j = 0 := (by omega); exact hc) (fun j _ => hF) (by omega)
  rw [e] at q
  refine q.mono ?_
  rintro e w' ⟨a', c', h1, h2, h3⟩
  exact ⟨a', c', h1, h2.congr fun q _ => by simp only [catSBody, lenS]; exact cat0Body _ _ q, h3⟩
theorem concat2Body (b0 c0 : Nat) (a1 a2 : Option Addr) (n1 n2 c1 c2 : Nat) (U1 U2 : Nat → Int) (w : World) (hb0 : b0 < w.heap.size) (hc1 : w.cell? ⟨b0, 0, none⟩ = some (.slice a1 n1 c1)) (hc2 : w.cell? ⟨b0, 1, none⟩ = some (.slice a2 n2 c2)) (hF1 : Flat w a1 (n1 * 12) U1) (hF2 : Flat w a2 (n2 * 12) U2) (hn : n1 + n2 ≤ 2097152) :
    Calls Try.prog 50 #[.slice (some ⟨b0, 0, none⟩) 2 c0] w fun e w' => ∃ a' c', e = .returned (.slice a' (n1 + n2) c') ∧ OwnL w' w.heap.size 43 12 (.slice a' (n1 + n2) c') (n1 + n2) (cat (n1 * 12) U1 U2) ∧ Below w.heap.size w w' := by
  have e : lenS (fun j => if j = 0 then n1 else n2) 2 = n1 + n2 := by simp [lenS]
  have q := concatBody b0 2 c0 (fun j => if j = 0 then a1 else a2) (fun j => if j = 0 then n1 else n2) (fun j => if j = 0 then c1 else c2) (fun j => if j = 0 then U1 else U2) w hb0 (by omega)
    (fun j hj => by rcases (show j = 0 ∨ j = 1 by omega) with rfl | rfl; exact hc1; exact hc2) (fun j hj => by rcases (show j = 0 ∨ j = 1 by omega) with rfl | rfl; exact hF1; exact hF2) (by omega)
  rw [e] at q
  refine q.mono ?_
  rintro e w' ⟨a', c', h1, h2, h3⟩
  exact ⟨a', c', h1, h2.congr fun q _ => by simp [catSBody, lenS, cat], h3⟩
abbrev zcPair : Value := .agg #[.int .i64 0, .int .i64 0]
theorem infoItPair : (Try.prog.info? 73).map (fun i => (i.zero, i.size, i.bytes)) = some (some zcPair, 2, 16) := by kernel_rfl
set_option maxRecDepth 20000 in
theorem growPair (n : Nat) (w : World) (hn : n ≤ 2097152) (U : Nat → Int) :
    Calls Try.prog 69 #[.slice none 0 0, .int .i64 (n : Int)] w fun e w' => ∃ a c, e = .returned (.slice a 0 c) ∧ OwnL w' w.heap.size 73 2 (.slice a 0 c) 0 U ∧ Below w.heap.size w w' := by
  by_cases h0 : n = 0
  · subst h0
    go_enter Try.func69, Try.ntmps69
    go_wp2
    go_ret
    exact ⟨none, 0, rfl, OwnL.nil _ _ _ _ _, Below.refl _ _⟩
  · have hp : (0 : Int) < (n : Int) := by omega
    have hnn : ¬ ((n : Int) < 0) := by omega
    obtain ⟨i, hi, hzz⟩ := Option.map_eq_some_iff.1 infoItPair
    simp only [Prod.mk.injEq] at hzz
    obtain ⟨hz, hs, hb⟩ := hzz
    have hr := Go.Lib.run_append_nil_zeros (P := Try.prog) w 34 3 34 73 i zcPair .i64 .i64 Try.underlying34 Try.underlying3 hi hz n (by omega) (by rw [hs]; decide) (by omega) (by rw [hb]; omega)
    have hcap := grownCap_ge w n 0 73
    have hmax := grownCap_le_maxLen w n 0 73 (by unfold maxLen; omega)
    have hM : (Builtin.zeroCells zcPair.cells n ++ Builtin.zeroCells zcPair.cells (grownCap w n 0 73 - n)).size = grownCap w n 0 73 * 2 := by
      rw [Array.size_append, size_zeroCells, size_zeroCells, ← Nat.add_mul, Nat.add_sub_cancel' hcap]; rfl
    generalize grownCap w n 0 73 = cp at hr hcap hmax hM
    generalize Builtin.zeroCells zcPair.cells n ++ Builtin.zeroCells zcPair.cells (cp - n) = M at hr hM
    have hcp : 0 ≤ (cp : Int) := by omega
    go_enter Try.func69, Try.ntmps69
    go_wp2_with (refine Go.Lib.wpList_append_run _ rfl _ _ _ _ rfl _ _ rfl rfl _ _ hr ?_)
    go_ret
    refine ⟨_, _, rfl, ?_, (Below.refl _ _).drew.alloc (by simp) _⟩
    refine ⟨by simp [numL], .inr ⟨w.heap.size, cp, M, rfl, Nat.le_refl _, ?_, Nat.zero_le _, hmax, hM, by simp [numL]⟩⟩
    exact Go.Deep.blk_alloc_new w.drew (.cells M 73)
def catSPair (L : Nat → Nat) (X : Nat → Nat → Int) : Nat → Nat → Int
  | 0 => fun _ => 0
  | k + 1 => cat (lenS L k * 2) (catSPair L X k) (X k)
set_option maxRecDepth 20000 in
set_option maxHeartbeats 4000000 in
theorem concatPair (b0 r c0 : Nat) (A : Nat → Option Addr) (L C : Nat → Nat) (X : Nat → Nat → Int) (w : World) (hb0 : b0 < w.heap.size) (hr : r ≤ 3)
    (hc : ∀ j, j < r → w.cell? ⟨b0, j, none⟩ = some (.slice (A j) (L j) (C j))) (hF : ∀ j, j < r → Flat w (A j) (L j * 2) (X j)) (hL : lenS L r ≤ 2097152) :
    Calls Try.prog 51 #[.slice (some ⟨b0, 0, none⟩) r c0] w fun e w' => ∃ a c, e = .returned (.slice a (lenS L r) c) ∧ OwnL w' w.heap.size 73 2 (.slice a (lenS L r) c) (lenS L r) (catSPair L X r) ∧ Below w.heap.size w w' := by
  go_enter Try.func51, Try.ntmps51
  go_wp2
  go_loop [3, 11] (fun s i => ∃ k : Nat, k ≤ r ∧ i = .int .i64 (k : Int) ∧ s = .int .i64 (lenS L k : Int)) (fun _ i => r - (intOf i).toNat)
  case atStart => exact ⟨0, Nat.zero_le _, rfl, rfl⟩
  case round =>
    obtain ⟨k, hk, rfl, rfl⟩ := hrel
    by_cases hlt : k < r
    · have hkr : (k : Int) < (r : Int) := by omega
      have c1 := hc k hlt
      have hm := lenS_mono L (k + 1) r (by omega)
      have hs : lenS L (k + 1) = lenS L k + L k := rfl
      have hnn : ¬ ((lenS L k : Int) + (L k : Int) < 0) := by omega
      go_wp2
      go_round
      case rel => exact ⟨k + 1, by omega, by go_num, by rw [hs]; go_num⟩
      case measure => simp [intOf]; omega
    · obtain rfl : k = r := by omega
      go_wp2_with (go_at_call 69; refine (growPair _ _ (by omega) (fun _ => 0)).mono ?_; rintro e w1 ⟨a1, c1, rfl, ho1, hb1⟩)
      go_loopw [6, 27] (fun s i wr => ∃ (j : Nat) (a c : _) , j ≤ k ∧ i = .int .i64 (j : Int) ∧ s = .slice a (lenS L j) c ∧ OwnL wr w.heap.size 73 2 (.slice a (lenS L j) c) (lenS L j) (catSPair L X j) ∧ Below w.heap.size w wr) (fun _ i _ => k - (intOf i).toNat)
      case atStart => exact ⟨0, a1, c1, Nat.zero_le _, rfl, rfl, ho1, hb1⟩
      case round =>
        obtain ⟨j, a, c, hj, rfl, rfl, ho, hB⟩ := hrel
        have hsz := hB.size
        by_cases hlt2 : j < k
        · have hkr : (j : Int) < (k : Int) := by omega
          have c2 : wr.cell? ⟨b0, j, none⟩ = some (.slice (A j) (L j) (C j)) := (hB.cell (p := ⟨b0, j, none⟩) hb0).trans (hc j hlt2)
          have hm := lenS_mono L (j + 1) k (by omega)
          have hs : lenS L (j + 1) = lenS L j + L j := rfl
          have hFj : Flat wr (A j) (L j * 2) (X j) := (hF j hlt2).below hB
          have HS : Shut (lenS L (j + 1) = lenS L j + L j) := hs
          clear hs
          go_wp2_with (refine wpList_app rfl _ _ _ rfl w.heap.size 73 2 16 zcPair Try.underlying34 infoItPair rfl (by decide) _ _ _ rfl ho _ _ _ _ rfl hFj (by unfold maxLen; have := HS.out; omega) (by have := HS.out; omega) hsz ?_; intro a2 c2 w2 ho2 hg2)
          go_roundw
          case rel => exact ⟨j + 1, a2, c2, by omega, by go_num, by rw [HS.out], by have := HS.out; rw [this]; exact ho2, hB.grown hg2 hsz (fun b hb => (ho.lt b hb).1)⟩
          case measure => simp [intOf]; omega
        · obtain rfl : j = k := by omega
          go_wp2
          go_ret
          exact ⟨a, c, rfl, ho, hB⟩
theorem cat0Pair (X Y : Nat → Int) : ∀ q, cat (0 * 2) X Y q = Y q := by intro q; simp [cat]
theorem concat1Pair (b0 c0 : Nat) (a : Option Addr) (n c : Nat) (U : Nat → Int) (w : World) (hb0 : b0 < w.heap.size) (hc : w.cell? ⟨b0, 0, none⟩ = some (.slice a n c)) (hF : Flat w a (n * 2) U) (hn : n ≤ 2097152) :
    Calls Try.prog 51 #[.slice (some ⟨b0, 0, none⟩) 1 c0] w fun e w' => ∃ a' c', e = .returned (.slice a' n c') ∧ OwnL w' w.heap.size 73 2 (.slice a' n c') n U ∧ Below w.heap.size w w' := by
  have e : lenS (fun _ => n) 1 = n := by simp [lenS]
  have q := concatPair b0 1 c0 (fun _ => a) (fun _ => n) (fun _ => c) (fun _ => U) w hb0 (by omega) (fun j hj => by obtain rfl : j = 0 := (by omega); exact hc) (fun j _ => hF) (by omega)
  rw [e] at q
  refine q.mono ?_
  rintro e w' ⟨a', c', h1, h2, h3⟩
  exact ⟨a', c', h1, h2.congr fun q _ => by simp only [catSPair, lenS]; exact cat0Pair _ _ q, h3⟩
theorem concat2Pair (b0 c0 : Nat) (a1 a2 : Option Addr) (n1 n2 c1 c2 : Nat) (U1 U2 : Nat → Int) (w : World) (hb0 : b0 < w.heap.size) (hc1 : w.cell? ⟨b0, 0, none⟩ = some (.slice a1 n1 c1)) (hc2 : w.cell? ⟨b0, 1, none⟩ = some (.slice a2 n2 c2)) (hF1 : Flat w a1 (n1 * 2) U1) (hF2 : Flat w a2 (n2 * 2) U2) (hn : n1 + n2 ≤ 2097152) :
    Calls Try.prog 51 #[.slice (some ⟨b0, 0, none⟩) 2 c0] w fun e w' => ∃ a' c', e = .returned (.slice a' (n1 + n2) c') ∧ OwnL w' w.heap.size 73 2 (.slice a' (n1 + n2) c') (n1 + n2) (cat (n1 * 2) U1 U2) ∧ Below w.heap.size w w' := by
  have e : lenS (fun j => if j = 0 then n1 else n2) 2 = n1 + n2 := by simp [lenS]
  have q := concatPair b0 2 c0 (fun j => if j = 0 then a1 else a2) (fun j => if j = 0 then n1 else n2) (fun j => if j = 0 then c1 else c2) (fun j => if j = 0 then U1 else U2) w hb0 (by omega)
    (fun j hj => by rcases (show j = 0 ∨ j = 1 by omega) with rfl | rfl; exact hc1; exact hc2) (fun j hj => by rcases (show j = 0 ∨ j = 1 by omega) with rfl | rfl; exact hF1; exact hF2) (by omega)
  rw [e] at q
  refine q.mono ?_
  rintro e w' ⟨a', c', h1, h2, h3⟩
  exact ⟨a', c', h1, h2.congr fun q _ => by simp [catSPair, lenS, cat], h3⟩
end Go.Proofs.Ythekeeagjokpeaa
namespace Go.Proofs.Ythekeeagjokpeaa
open Go.RowKit
set_option linter.unusedVariables false
set_option linter.unusedSimpArgs false

theorem OwnL.setO {w : World} {base t k n b o : Nat} {v : Value} {U : Nat → Int} (h : OwnL w base t k v n U) (hb : b < base) (x : Value) : OwnL (w.setCell ⟨b, o, none⟩ x) base t k v n U :=
  h.frame (X := fun y => y = b) (Fr.setCell (X := fun y => y = b) rfl _) (fun y hy e => by have := (h.lt y hy).1; omega)
/-- what a function hands out that makes a world -/
structure OutW (w w' : World) (a : Option Addr) (n c : Nat) (U : Nat → Int) (a' : Option Addr) (m c' : Nat) (Q : Nat → Int) : Prop where
  bel : Below w.heap.size w w'
  ob : OwnL w' w.heap.size 43 12 (.slice a n c) n U
  op : OwnL w' w.heap.size 73 2 (.slice a' m c') m Q
  ne : ∀ b, (Value.slice a n c).ownBlock = some b → (Value.slice a' m c').ownBlock ≠ some b
theorem OutW.under {w0 w w' : World} {a a' : Option Addr} {n c m c' : Nat} {U Q : Nat → Int} (h : OutW w w' a n c U a' m c' Q) (hb : Below w0.heap.size w0 w) : OutW w0 w' a n c U a' m c' Q := ⟨hb.trans (h.bel.mono hb.size), h.ob.base hb.size, h.op.base hb.size, h.ne⟩
theorem OutW.on {w w' w2 : World} {a a' : Option Addr} {n c m c' : Nat} {U Q : Nat → Int} (h : OutW w w' a n c U a' m c' Q) (hb : Below w'.heap.size w' w2) : OutW w w2 a n c U a' m c' Q := ⟨h.bel.trans (hb.mono h.bel.size), h.ob.below hb, h.op.below hb, h.ne⟩

set_option maxRecDepth 20000 in
set_option maxHeartbeats 8000000 in
theorem copied_any (T P : Int) (a : Option Addr) (n c : Nat) (U : Nat → Int) (a' : Option Addr) (m c' : Nat) (Q : Nat → Int) (w : World) (h : Flat w a (n * 12) U) (h' : Flat w a' (m * 2) Q) (hn : n ≤ 1048576) (hm : m ≤ 1048576) :
    Calls Try.prog 26 #[worldW T P a n c a' m c'] w fun e w' => ∃ a1 c1 a2 c2, e = .returned (worldW T P a1 n c1 a2 m c2) ∧ OutW w w' a1 n c1 U a2 m c2 Q := by
  have hset := cset_map
  go_enter Try.func26, Try.ntmps26
  go_upto_region 1 with fail
  refine wp_region_held_drew (S := fun w' => w'.cell? ⟨w.heap.size, 0, none⟩ = some (.int .i64 T) ∧ w'.cell? ⟨w.heap.size, 1, none⟩ = some (.int .i64 P) ∧ w'.cell? ⟨w.heap.size, 2, none⟩ = some (.slice a n c) ∧ w'.cell? ⟨w.heap.size, 3, none⟩ = some (.slice a' m c')) (by kernel_rfl) ?_ (fun hHeld => ?_)
  · (try dsimp only)
    (first | (go_simp; done) | (go_keep; done))
  refine tq 0 hHeld ?_
  refine tq 1 hHeld ?_
  refine tq 2 hHeld ?_
  refine tq 3 hHeld ?_
  refine tq 4 hHeld ?_
  refine tq 5 hHeld ?_
  refine tq 8 hHeld ?_
  refine tq 9 hHeld ?_
  refine wpAnyH_ready (rs := [6, 10]) (by kernel_rfl) (by simp) ?_
  refine AllReadyH.cons rfl (fun K hK => ?_) (AllReadyH.cons rfl (fun K hK => ?_) AllReadyH.nil)
  · (go_simp; refine tr hK (fun hHeld => ?_); clear hK K)
    refine wpAnyH_ready (rs := [7, 10]) (by kernel_rfl) (by simp) ?_
    refine AllReadyH.cons rfl (fun K hK => ?_) (AllReadyH.cons rfl (fun K hK => ?_) AllReadyH.nil)
    · (go_simp; (go_at_call 50; refine (concat1Body _ _ a n c U _ (by first | omega | (simp; done) | (simp; omega)) (by go_simp) (h.below (by repeat (first | with_reducible apply Below.refl | (with_reducible apply Below.setCell; rotate_left; focus (first | omega | (simp; done) | (simp; omega))) | (with_reducible apply Below.alloc; rotate_left; focus (first | omega | (simp; done) | (simp; omega))) | with_reducible apply Below.drew | with_reducible apply belowDrewN | (with_reducible apply Below.trans; rotate_left; with_reducible apply Below.mono; with_reducible assumption; focus (first | omega | (simp; done) | (simp; omega)))))) (by omega)).mono ?_; rintro e w1 ⟨a1, c1, rfl, ho1, hb1⟩; obtain ⟨hc1, hf1⟩ := bcell hb1; have hz1 := hb1.size; (try simp only [World.size_drew, World.size_alloc, World.size_setCell] at hc1 hf1 hz1); have hk1x0 := fun o => hc1 (w.heap.size) o (by omega); have hk1x1 := fun o => hc1 (w.heap.size + 1) o (by omega); have hj1x1 := fun o => hf1 (w.heap.size + 1) o (by omega); have hq1x1 : w.heap.size + 1 < w1.heap.size := (by omega)); (try go_wp2_with fail); refine tr hK (fun hHeld => ?_); clear hK K)
      refine tc 10 fun K hK => ?_
      (go_simp; refine tr hK (fun hHeld => ?_); clear hK K)
      refine tc 11 fun K hK => ?_
      (go_simp; (go_at_call 51; refine (concat1Pair _ _ a' m c' Q _ (by first | omega | (simp; done) | (simp; omega)) (by go_simp) (h'.below (by repeat (first | with_reducible apply Below.refl | (with_reducible apply Below.setCell; rotate_left; focus (first | omega | (simp; done) | (simp; omega))) | (with_reducible apply Below.alloc; rotate_left; focus (first | omega | (simp; done) | (simp; omega))) | with_reducible apply Below.drew | with_reducible apply belowDrewN | (with_reducible apply Below.trans; rotate_left; with_reducible apply Below.mono; with_reducible assumption; focus (first | omega | (simp; done) | (simp; omega)))))) (by omega)).mono ?_; rintro e w2 ⟨a2, c2, rfl, ho2, hb2⟩; obtain ⟨hc2, hf2⟩ := bcell hb2; have hz2 := hb2.size; (try simp only [World.size_drew, World.size_alloc, World.size_setCell] at hc2 hf2 hz2); have hk2x0 := fun o => hc2 (w.heap.size) o (by omega); have hk2x1 := fun o => hc2 (w.heap.size + 1) o (by omega); have hj2x1 := fun o => hf2 (w.heap.size + 1) o (by omega); have hq2x1 : w.heap.size + 1 < w2.heap.size := (by omega)); (try go_wp2_with fail); refine tr hK (fun hHeld => ?_); clear hK K)
      refine tq 12 hHeld ?_
      refine tc 13 fun K hK => ?_
      (go_simp; refine tr hK (fun hHeld => ?_); clear hK K)
      refine wpAnyH_done (by kernel_rfl) ?_ _
      go_wp2_with fail
      have k1 := ho1.lt
      have k2 := ho2.lt
      exact bodyPost_ret (v := worldW T P a1 n c1 a2 m c2) (by simp [results, Try.results26, go_sem, *]) rfl ⟨_, _, _, _, rfl, by repeat (first | with_reducible apply Below.refl | (with_reducible apply Below.setCell; rotate_left; focus (first | omega | (simp; done) | (simp; omega))) | (with_reducible apply Below.alloc; rotate_left; focus (first | omega | (simp; done) | (simp; omega))) | with_reducible apply Below.drew | with_reducible apply belowDrewN | (with_reducible apply Below.trans; rotate_left; with_reducible apply Below.mono; with_reducible assumption; focus (first | omega | (simp; done) | (simp; omega)))), (((((ho1.below (w' := w2) (by repeat (first | with_reducible apply Below.refl | (with_reducible apply Below.setCell; rotate_left; focus (first | omega | (simp; done) | (simp; omega))) | (with_reducible apply Below.alloc; rotate_left; focus (first | omega | (simp; done) | (simp; omega))) | with_reducible apply Below.drew | with_reducible apply belowDrewN | (with_reducible apply Below.trans; rotate_left; with_reducible apply Below.mono; with_reducible assumption; focus (first | omega | (simp; done) | (simp; omega)))))).setO (by first | omega | (simp; done) | (simp; omega)) _).setO (by first | omega | (simp; done) | (simp; omega)) _).setO (by first | omega | (simp; done) | (simp; omega)) _).setO (by first | omega | (simp; done) | (simp; omega)) _).base (by first | omega | (simp; done) | (simp; omega)), ((((ho2.setO (by first | omega | (simp; done) | (simp; omega)) _).setO (by first | omega | (simp; done) | (simp; omega)) _).setO (by first | omega | (simp; done) | (simp; omega)) _).setO (by first | omega | (simp; done) | (simp; omega)) _).base (by first | omega | (simp; done) | (simp; omega)), fun b e1 e2 => by have q1 := (k1 b e1).2; have q2 := (k2 b e2).1; (try simp at q2); omega⟩
    · (go_simp; refine tr hK (fun hHeld => ?_); clear hK K)
      refine tc 7 fun K hK => ?_
      (go_simp; (go_at_call 50; refine (concat1Body _ _ a n c U _ (by first | omega | (simp; done) | (simp; omega)) (by go_simp) (h.below (by repeat (first | with_reducible apply Below.refl | (with_reducible apply Below.setCell; rotate_left; focus (first | omega | (simp; done) | (simp; omega))) | (with_reducible apply Below.alloc; rotate_left; focus (first | omega | (simp; done) | (simp; omega))) | with_reducible apply Below.drew | with_reducible apply belowDrewN | (with_reducible apply Below.trans; rotate_left; with_reducible apply Below.mono; with_reducible assumption; focus (first | omega | (simp; done) | (simp; omega)))))) (by omega)).mono ?_; rintro e w1 ⟨a1, c1, rfl, ho1, hb1⟩; obtain ⟨hc1, hf1⟩ := bcell hb1; have hz1 := hb1.size; (try simp only [World.size_drew, World.size_alloc, World.size_setCell] at hc1 hf1 hz1); have hk1x0 := fun o => hc1 (w.heap.size) o (by omega); have hk1x1 := fun o => hc1 (w.heap.size + 1) o (by omega); have hj1x1 := fun o => hf1 (w.heap.size + 1) o (by omega); have hq1x1 : w.heap.size + 1 < w1.heap.size := (by omega)); (try go_wp2_with fail); refine tr hK (fun hHeld => ?_); clear hK K)
      refine tc 11 fun K hK => ?_
      (go_simp; (go_at_call 51; refine (concat1Pair _ _ a' m c' Q _ (by first | omega | (simp; done) | (simp; omega)) (by go_simp) (h'.below (by repeat (first | with_reducible apply Below.refl | (with_reducible apply Below.setCell; rotate_left; focus (first | omega | (simp; done) | (simp; omega))) | (with_reducible apply Below.alloc; rotate_left; focus (first | omega | (simp; done) | (simp; omega))) | with_reducible apply Below.drew | with_reducible apply belowDrewN | (with_reducible apply Below.trans; rotate_left; with_reducible apply Below.mono; with_reducible assumption; focus (first | omega | (simp; done) | (simp; omega)))))) (by omega)).mono ?_; rintro e w2 ⟨a2, c2, rfl, ho2, hb2⟩; obtain ⟨hc2, hf2⟩ := bcell hb2; have hz2 := hb2.size; (try simp only [World.size_drew, World.size_alloc, World.size_setCell] at hc2 hf2 hz2); have hk2x0 := fun o => hc2 (w.heap.size) o (by omega); have hk2x1 := fun o => hc2 (w.heap.size + 1) o (by omega); have hj2x1 := fun o => hf2 (w.heap.size + 1) o (by omega); have hq2x1 : w.heap.size + 1 < w2.heap.size := (by omega)); (try go_wp2_with fail); refine tr hK (fun hHeld => ?_); clear hK K)
      refine tq 12 hHeld ?_
      refine tc 13 fun K hK => ?_
      (go_simp; refine tr hK (fun hHeld => ?_); clear hK K)
      refine wpAnyH_done (by kernel_rfl) ?_ _
      go_wp2_with fail
      have k1 := ho1.lt
      have k2 := ho2.lt
      exact bodyPost_ret (v := worldW T P a1 n c1 a2 m c2) (by simp [results, Try.results26, go_sem, *]) rfl ⟨_, _, _, _, rfl, by repeat (first | with_reducible apply Below.refl | (with_reducible apply Below.setCell; rotate_left; focus (first | omega | (simp; done) | (simp; omega))) | (with_reducible apply Below.alloc; rotate_left; focus (first | omega | (simp; done) | (simp; omega))) | with_reducible apply Below.drew | with_reducible apply belowDrewN | (with_reducible apply Below.trans; rotate_left; with_reducible apply Below.mono; with_reducible assumption; focus (first | omega | (simp; done) | (simp; omega)))), (((((ho1.below (w' := w2) (by repeat (first | with_reducible apply Below.refl | (with_reducible apply Below.setCell; rotate_left; focus (first | omega | (simp; done) | (simp; omega))) | (with_reducible apply Below.alloc; rotate_left; focus (first | omega | (simp; done) | (simp; omega))) | with_reducible apply Below.drew | with_reducible apply belowDrewN | (with_reducible apply Below.trans; rotate_left; with_reducible apply Below.mono; with_reducible assumption; focus (first | omega | (simp; done) | (simp; omega)))))).setO (by first | omega | (simp; done) | (simp; omega)) _).setO (by first | omega | (simp; done) | (simp; omega)) _).setO (by first | omega | (simp; done) | (simp; omega)) _).setO (by first | omega | (simp; done) | (simp; omega)) _).base (by first | omega | (simp; done) | (simp; omega)), ((((ho2.setO (by first | omega | (simp; done) | (simp; omega)) _).setO (by first | omega | (simp; done) | (simp; omega)) _).setO (by first | omega | (simp; done) | (simp; omega)) _).setO (by first | omega | (simp; done) | (simp; omega)) _).base (by first | omega | (simp; done) | (simp; omega)), fun b e1 e2 => by have q1 := (k1 b e1).2; have q2 := (k2 b e2).1; (try simp at q2); omega⟩
  · (go_simp; refine tr hK (fun hHeld => ?_); clear hK K)
    refine tc 6 fun K hK => ?_
    (go_simp; refine tr hK (fun hHeld => ?_); clear hK K)
    refine tc 7 fun K hK => ?_
    (go_simp; (go_at_call 50; refine (concat1Body _ _ a n c U _ (by first | omega | (simp; done) | (simp; omega)) (by go_simp) (h.below (by repeat (first | with_reducible apply Below.refl | (with_reducible apply Below.setCell; rotate_left; focus (first | omega | (simp; done) | (simp; omega))) | (with_reducible apply Below.alloc; rotate_left; focus (first | omega | (simp; done) | (simp; omega))) | with_reducible apply Below.drew | with_reducible apply belowDrewN | (with_reducible apply Below.trans; rotate_left; with_reducible apply Below.mono; with_reducible assumption; focus (first | omega | (simp; done) | (simp; omega)))))) (by omega)).mono ?_; rintro e w1 ⟨a1, c1, rfl, ho1, hb1⟩; obtain ⟨hc1, hf1⟩ := bcell hb1; have hz1 := hb1.size; (try simp only [World.size_drew, World.size_alloc, World.size_setCell] at hc1 hf1 hz1); have hk1x0 := fun o => hc1 (w.heap.size) o (by omega); have hk1x1 := fun o => hc1 (w.heap.size + 1) o (by omega); have hj1x1 := fun o => hf1 (w.heap.size + 1) o (by omega); have hq1x1 : w.heap.size + 1 < w1.heap.size := (by omega)); (try go_wp2_with fail); refine tr hK (fun hHeld => ?_); clear hK K)
    refine tc 11 fun K hK => ?_
    (go_simp; (go_at_call 51; refine (concat1Pair _ _ a' m c' Q _ (by first | omega | (simp; done) | (simp; omega)) (by go_simp) (h'.below (by repeat (first | with_reducible apply Below.refl | (with_reducible apply Below.setCell; rotate_left; focus (first | omega | (simp; done) | (simp; omega))) | (with_reducible apply Below.alloc; rotate_left; focus (first | omega | (simp; done) | (simp; omega))) | with_reducible apply Below.drew | with_reducible apply belowDrewN | (with_reducible apply Below.trans; rotate_left; with_reducible apply Below.mono; with_reducible assumption; focus (first | omega | (simp; done) | (simp; omega)))))) (by omega)).mono ?_; rintro e w2 ⟨a2, c2, rfl, ho2, hb2⟩; obtain ⟨hc2, hf2⟩ := bcell hb2; have hz2 := hb2.size; (try simp only [World.size_drew, World.size_alloc, World.size_setCell] at hc2 hf2 hz2); have hk2x0 := fun o => hc2 (w.heap.size) o (by omega); have hk2x1 := fun o => hc2 (w.heap.size + 1) o (by omega); have hj2x1 := fun o => hf2 (w.heap.size + 1) o (by omega); have hq2x1 : w.heap.size + 1 < w2.heap.size := (by omega)); (try go_wp2_with fail); refine tr hK (fun hHeld => ?_); clear hK K)
    refine tq 12 hHeld ?_
    refine tc 13 fun K hK => ?_
    (go_simp; refine tr hK (fun hHeld => ?_); clear hK K)
    refine wpAnyH_done (by kernel_rfl) ?_ _
    go_wp2_with fail
    have k1 := ho1.lt
    have k2 := ho2.lt
    exact bodyPost_ret (v := worldW T P a1 n c1 a2 m c2) (by simp [results, Try.results26, go_sem, *]) rfl ⟨_, _, _, _, rfl, by repeat (first | with_reducible apply Below.refl | (with_reducible apply Below.setCell; rotate_left; focus (first | omega | (simp; done) | (simp; omega))) | (with_reducible apply Below.alloc; rotate_left; focus (first | omega | (simp; done) | (simp; omega))) | with_reducible apply Below.drew | with_reducible apply belowDrewN | (with_reducible apply Below.trans; rotate_left; with_reducible apply Below.mono; with_reducible assumption; focus (first | omega | (simp; done) | (simp; omega)))), (((((ho1.below (w' := w2) (by repeat (first | with_reducible apply Below.refl | (with_reducible apply Below.setCell; rotate_left; focus (first | omega | (simp; done) | (simp; omega))) | (with_reducible apply Below.alloc; rotate_left; focus (first | omega | (simp; done) | (simp; omega))) | with_reducible apply Below.drew | with_reducible apply belowDrewN | (with_reducible apply Below.trans; rotate_left; with_reducible apply Below.mono; with_reducible assumption; focus (first | omega | (simp; done) | (simp; omega)))))).setO (by first | omega | (simp; done) | (simp; omega)) _).setO (by first | omega | (simp; done) | (simp; omega)) _).setO (by first | omega | (simp; done) | (simp; omega)) _).setO (by first | omega | (simp; done) | (simp; omega)) _).base (by first | omega | (simp; done) | (simp; omega)), ((((ho2.setO (by first | omega | (simp; done) | (simp; omega)) _).setO (by first | omega | (simp; done) | (simp; omega)) _).setO (by first | omega | (simp; done) | (simp; omega)) _).setO (by first | omega | (simp; done) | (simp; omega)) _).base (by first | omega | (simp; done) | (simp; omega)), fun b e1 e2 => by have q1 := (k1 b e1).2; have q2 := (k2 b e2).1; (try simp at q2); omega⟩
theorem OwnL.neT {w : World} {b1 b2 t1 t2 k1 k2 n1 n2 : Nat} {v1 v2 : Value} {U1 U2 : Nat → Int} (h1 : OwnL w b1 t1 k1 v1 n1 U1) (h2 : OwnL w b2 t2 k2 v2 n2 U2) (ht : t1 ≠ t2) : ∀ b, v1.ownBlock = Option.some b → v2.ownBlock ≠ Option.some b := by
  intro b e1 e2
  rcases h1.2 with ⟨hv, _⟩ | ⟨g, cap, cur, hv, hb, hg, _⟩
  · subst hv; simp [Value.ownBlock] at e1
  · rcases h2.2 with ⟨hv', _⟩ | ⟨g', cap', cur', hv', hb', hg', _⟩
    · subst hv'; simp [Value.ownBlock] at e2
    · subst hv hv'
      simp [Value.ownBlock] at e1 e2
      subst e1 e2
      rw [hg] at hg'
      simp only [Option.some.injEq, Obj.cells.injEq] at hg'
      exact ht hg'.2.1
end Go.Proofs.Ythekeeagjokpeaa
namespace Go.Proofs.Ythekeeagjokpeaa
open Go.RowKit
set_option linter.unusedVariables false
set_option linter.unusedSimpArgs false

theorem OwnL.fresh0 (w : World) (base t k : Nat) (U : Nat → Int) (s : Nat) (e : w.heap.size = s) (h : base ≤ w.heap.size) : OwnL (w.alloc (.cells #[] t)) base t k (.slice (Option.some ⟨s, 0, none⟩) 0 0) 0 U := by
  subst e
  exact ⟨by simp [numL], .inr ⟨w.heap.size, 0, #[], rfl, h, Go.Deep.blk_alloc_new _ _, Nat.le_refl _, Nat.zero_le _, by simp, by simp [numL]⟩⟩
theorem OwnL.drewO {w : World} {base t k n : Nat} {v : Value} {U : Nat → Int} (h : OwnL w base t k v n U) : OwnL w.drew base t k v n U := World.ownsRow.drew h
theorem cat_0 (k : Nat) (X Y : Nat → Int) : ∀ q, cat (0 * k) X Y q = Y q := by intro q; simp [cat]
section
variable {P : Program} {ops : Array Oper} {o : Oper} {a : Act} {w : World} {Q : Exit → Act → World → Prop}
theorem wpList_app0 {rest : List Oper} (hgd : o.guard = none) (s x : Operand) (t : TypeId) (ho : o.op = .call { callee := .builtin .append, args := #[s, x], argTypes := #[t, t] })
    (base e k bytes : Nat) (z : Value) (ht : P.underlying t = some (.slice e)) (hinfo : (P.info? e).map (fun i => (i.zero, i.size, i.bytes)) = some (some z, k, bytes)) (hzs : z.cells.size = k) (hk : 0 < k)
    (v : Value) (U : Nat → Int) (hs : a.eval s = v) (h : OwnL w base e k v 0 U) (ad : Option Addr) (m c : Nat) (X : Nat → Int) (hxx : a.eval x = .slice ad m c) (hx : Flat w ad (m * k) X)
    (h63 : m ≤ maxLen) (hbytes : m * bytes ≤ 140737488355328) (hbase : base ≤ w.heap.size)
    (hK : ∀ a' c' w', OwnL w' base e k (.slice a' m c') m X → w.grownBy w' v.ownBlock → wpList P ops Q rest (a.put o.dst (.slice a' m c')) w') : wpList P ops Q (o :: rest) a w :=
  wpList_app hgd s x t ho base e k bytes z ht hinfo hzs hk v 0 U hs h ad m c X hxx hx (by rw [Nat.zero_add]; exact h63) (by rw [Nat.zero_add]; exact hbytes) hbase fun a' c' w' h1 h2 => by
    rw [Nat.zero_add] at h1 ⊢
    exact hK a' c' w' (h1.congr fun q _ => cat_0 k _ _ q) h2
theorem step_app0 {K : Act → World → Prop} {E : Prop} (hgd : o.guard = none) (s x : Operand) (t : TypeId) (ho : o.op = .call { callee := .builtin .append, args := #[s, x], argTypes := #[t, t] })
    (base e k bytes : Nat) (z : Value) (ht : P.underlying t = some (.slice e)) (hinfo : (P.info? e).map (fun i => (i.zero, i.size, i.bytes)) = some (some z, k, bytes)) (hzs : z.cells.size = k) (hk : 0 < k)
    (v : Value) (U : Nat → Int) (hs : a.eval s = v) (h : OwnL w base e k v 0 U) (ad : Option Addr) (m c : Nat) (X : Nat → Int) (hxx : a.eval x = .slice ad m c) (hx : Flat w ad (m * k) X)
    (h63 : m ≤ maxLen) (hbytes : m * bytes ≤ 140737488355328) (hbase : base ≤ w.heap.size)
    (hK : ∀ a' c' w', OwnL w' base e k (.slice a' m c') m X → w.grownBy w' v.ownBlock → K (a.put o.dst (.slice a' m c')) w') :
    if Region.wanted o (yielded ops a.tmps) = true then Oper.wp P o a w K Q else E :=
  step_app hgd s x t ho base e k bytes z ht hinfo hzs hk v 0 U hs h ad m c X hxx hx (by rw [Nat.zero_add]; exact h63) (by rw [Nat.zero_add]; exact hbytes) hbase fun a' c' w' h1 h2 => by
    rw [Nat.zero_add] at h1 ⊢
    exact hK a' c' w' (h1.congr fun q _ => cat_0 k _ _ q) h2
end
set_option maxRecDepth 20000 in
set_option maxHeartbeats 4000000 in
theorem l8Copy_any (a : Option Addr) (n c : Nat) (U : Nat → Int) (w : World) (h : Flat w a (n * 12) U) (hn : n ≤ 1048576) :
    Calls Try.prog 45 #[.slice a n c] w fun e w' => ∃ a1 c1, e = .returned (.slice a1 n c1) ∧ OutL w w' 43 12 a1 n c1 U := by
  have hset := cset_map
  have hE : Below w.heap.size w (w.alloc (.cells #[] 43)) := (Below.refl _ _).alloc (Nat.le_refl _) _
  have ho := OwnL.fresh0 w w.heap.size 43 12 (fun _ => 0) _ rfl (Nat.le_refl _)
  go_enter Try.func45, Try.ntmps45
  go_wp2_with (refine wpList_app0 rfl _ _ _ rfl w.heap.size 43 12 96 zcBody Try.underlying33 infoItBody rfl (by decide) _ (fun _ => 0) rfl ho _ n _ U rfl (h.below hE) (by unfold maxLen; omega) (by omega) (by simp) ?_; intro a1 c1 w1 ho1 hg1)
  go_ret
  exact ⟨_, _, rfl, hE.grown hg1 (by simp) (fun b e => (ho.lt b e).1), ho1⟩

set_option maxRecDepth 20000 in
set_option maxHeartbeats 8000000 in
theorem l10Copy_any (T P : Int) (a : Option Addr) (n c : Nat) (U : Nat → Int) (a' : Option Addr) (m c' : Nat) (Q : Nat → Int) (w : World) (h : Flat w a (n * 12) U) (h' : Flat w a' (m * 2) Q) (hn : n ≤ 1048576) (hm : m ≤ 1048576) :
    Calls Try.prog 21 #[worldW T P a n c a' m c'] w fun e w' => ∃ a1 c1 a2 c2, e = .returned (worldW T P a1 n c1 a2 m c2) ∧ OutW w w' a1 n c1 U a2 m c2 Q := by
  have hset := cset_map
  go_enter Try.func21, Try.ntmps21
  go_upto_region 1 with fail
  refine wp_region_held_drew (S := fun w' => w'.cell? ⟨w.heap.size, 0, none⟩ = some (.int .i64 T) ∧ w'.cell? ⟨w.heap.size, 1, none⟩ = some (.int .i64 P) ∧ w'.cell? ⟨w.heap.size, 2, none⟩ = some (.slice a n c) ∧ w'.cell? ⟨w.heap.size, 3, none⟩ = some (.slice a' m c')) (by kernel_rfl) ?_ (fun hHeld => ?_)
  · (try dsimp only)
    (first | (go_simp; done) | (go_keep; done))
  refine tq 0 hHeld ?_
  refine tq 1 hHeld ?_
  refine tq 2 hHeld ?_
  refine tq 3 hHeld ?_
  refine tq 4 hHeld ?_
  refine tq 5 hHeld ?_
  refine tq 8 hHeld ?_
  refine tq 9 hHeld ?_
  refine wpAnyH_ready (rs := [6, 7]) (by kernel_rfl) (by simp) ?_
  refine AllReadyH.cons rfl (fun K hK => ?_) (AllReadyH.cons rfl (fun K hK => ?_) AllReadyH.nil)
  · (go_simp; (go_at_call 45; refine (l8Copy_any a n c U _ (h.below (by repeat (first | with_reducible apply Below.refl | (with_reducible apply Below.setCell; rotate_left; focus (first | omega | (simp; done) | (simp; omega))) | (with_reducible apply Below.alloc; rotate_left; focus (first | omega | (simp; done) | (simp; omega))) | with_reducible apply Below.drew | with_reducible apply belowDrewN | (with_reducible apply Below.trans; rotate_left; with_reducible apply Below.mono; with_reducible assumption; focus (first | omega | (simp; done) | (simp; omega)))))) hn).mono ?_; rintro e w1 ⟨a1, c1, rfl, hO1⟩; have hb1 := hO1.bel; obtain ⟨hc1, hf1⟩ := bcell hb1; have hz1 := hb1.size; (try simp only [World.size_drew, World.size_alloc, World.size_setCell] at hc1 hf1 hz1); have hk1x0 := fun o => hc1 (w.heap.size) o (by omega); have hk1x1 := fun o => hc1 (w.heap.size + 1) o (by omega); have hj1x1 := fun o => hf1 (w.heap.size + 1) o (by omega); have hq1x1 : w.heap.size + 1 < w1.heap.size := (by omega)); (try go_wp2_with fail); refine tr hK (fun hHeld => ?_); clear hK K)
    refine tc 7 fun K hK => ?_
    (go_simp; refine tr hK (fun hHeld => ?_); clear hK K)
    refine tc 10 fun K hK => ?_
    have hp : OwnL (w1.alloc (.cells #[] 73)) (w.heap.size + 1 + 1) 73 2 (.slice (some ⟨w1.heap.size, 0, none⟩) 0 0) 0 (fun _ => 0) := OwnL.fresh0 _ _ _ _ _ _ rfl (by omega)
    have hE2 : Below w.heap.size w (w1.alloc (.cells #[] 73)) := by repeat (first | with_reducible apply Below.refl | (with_reducible apply Below.setCell; rotate_left; focus (first | omega | (simp; done) | (simp; omega))) | (with_reducible apply Below.alloc; rotate_left; focus (first | omega | (simp; done) | (simp; omega))) | with_reducible apply Below.drew | with_reducible apply belowDrewN | (with_reducible apply Below.trans; rotate_left; with_reducible apply Below.mono; with_reducible assumption; focus (first | omega | (simp; done) | (simp; omega))))
    have ho1x : OwnL (w1.alloc (.cells #[] 73)) (w.heap.size + 1 + 1) 43 12 (.slice a1 n c1) n U := (hO1.own.below (by repeat (first | with_reducible apply Below.refl | (with_reducible apply Below.setCell; rotate_left; focus (first | omega | (simp; done) | (simp; omega))) | (with_reducible apply Below.alloc; rotate_left; focus (first | omega | (simp; done) | (simp; omega))) | with_reducible apply Below.drew | with_reducible apply belowDrewN | (with_reducible apply Below.trans; rotate_left; with_reducible apply Below.mono; with_reducible assumption; focus (first | omega | (simp; done) | (simp; omega)))))).base (by first | omega | (simp; done) | (simp; omega))
    refine step_app0 (by rfl) _ _ _ (by rfl) (w.heap.size + 1 + 1) 73 2 16 zcPair Try.underlying34 infoItPair (by rfl) (by decide) _ (fun _ => 0) (by rfl) hp _ m _ Q (by rfl) (h'.below hE2) (by unfold maxLen; omega) (by omega) (by first | omega | (simp; done) | (simp; omega)) ?_
    intro a2 c2 w2 ho2 hg2
    have hz2 := hg2.size
    (try simp only [World.size_alloc] at hz2)
    have hb2 : Below w.heap.size w w2 := hE2.grown hg2 (by first | omega | (simp; omega)) (fun b e => by have := (hp.lt b e).1; omega)
    have ho1z : OwnL w2 (w.heap.size + 1 + 1) 43 12 (.slice a1 n c1) n U := ho1x.kept hg2 (.inr (fun e => by have := hO1.own.lt (w1.heap.size) e; simp at this; try omega))
    have f2 : ∀ b o, b < w.heap.size + 1 + 1 → w2.cell? ⟨b, o, none⟩ = World.cell? (w1.alloc (.cells #[] 73)) ⟨b, o, none⟩ := fun b o hb => hg2.cell_far ⟨b, o, none⟩ (by first | omega | (simp; done) | (simp; omega)) (fun e => by simp [Value.ownBlock] at e; try omega)
    have g2 : ∀ o, w2.frozen? ⟨w.heap.size + 1, o, none⟩ = World.frozen? (w1.alloc (.cells #[] 73)) ⟨w.heap.size + 1, o, none⟩ := fun o => hg2.frozen_far ⟨w.heap.size + 1, o, none⟩ (by first | omega | (simp; done) | (simp; omega)) (fun e => by simp [Value.ownBlock] at e; try omega)
    have hq2 : w.heap.size + 1 < w2.heap.size := by omega
    have s0 : w2.cell? ⟨w.heap.size, 0, none⟩ = some (.int .i64 T) := (f2 _ _ (by omega)).trans (by go_simp)
    have s1 : w2.cell? ⟨w.heap.size, 1, none⟩ = some (.int .i64 P) := (f2 _ _ (by omega)).trans (by go_simp)
    have s2 : w2.cell? ⟨w.heap.size, 2, none⟩ = some (.slice a n c) := (f2 _ _ (by omega)).trans (by go_simp)
    have s3 : w2.cell? ⟨w.heap.size, 3, none⟩ = some (.slice a' m c') := (f2 _ _ (by omega)).trans (by go_simp)
    have u0 : w2.cell? ⟨w.heap.size + 1, 0, none⟩ = some (.int .i64 0) := (f2 _ _ (by omega)).trans (by go_simp)
    have u1 : w2.cell? ⟨w.heap.size + 1, 1, none⟩ = some (.int .i64 0) := (f2 _ _ (by omega)).trans (by go_simp)
    have u2 : w2.cell? ⟨w.heap.size + 1, 2, none⟩ = some (.slice none 0 0) := (f2 _ _ (by omega)).trans (by go_simp)
    have u3 : w2.cell? ⟨w.heap.size + 1, 3, none⟩ = some (.slice none 0 0) := (f2 _ _ (by omega)).trans (by go_simp)
    have v0 : w2.frozen? ⟨w.heap.size + 1, 0, none⟩ = false := (g2 _).trans (by go_simp)
    have v1 : w2.frozen? ⟨w.heap.size + 1, 1, none⟩ = false := (g2 _).trans (by go_simp)
    have v2 : w2.frozen? ⟨w.heap.size + 1, 2, none⟩ = false := (g2 _).trans (by go_simp)
    have v3 : w2.frozen? ⟨w.heap.size + 1, 3, none⟩ = false := (g2 _).trans (by go_simp)
    clear f2 g2
    refine tr hK (fun hHeld => ?_) ⟨s0, s1, s2, s3⟩
    clear hK K
    refine tq 11 hHeld ?_
    refine tc 12 fun K hK => ?_
    (go_simp; refine tr hK (fun hHeld => ?_); clear hK K)
    refine wpAnyH_done (by kernel_rfl) ?_ _
    go_wp2_with fail
    exact bodyPost_ret (v := worldW T P a1 n c1 a2 m c2) (by simp [results, Try.results21, go_sem, *]) rfl ⟨_, _, _, _, rfl, by repeat (first | with_reducible apply Below.refl | (with_reducible apply Below.setCell; rotate_left; focus (first | omega | (simp; done) | (simp; omega))) | (with_reducible apply Below.alloc; rotate_left; focus (first | omega | (simp; done) | (simp; omega))) | with_reducible apply Below.drew | with_reducible apply belowDrewN | (with_reducible apply Below.trans; rotate_left; with_reducible apply Below.mono; with_reducible assumption; focus (first | omega | (simp; done) | (simp; omega)))), ((((ho1z.setO (by first | omega | (simp; done) | (simp; omega)) _).setO (by first | omega | (simp; done) | (simp; omega)) _).setO (by first | omega | (simp; done) | (simp; omega)) _).setO (by first | omega | (simp; done) | (simp; omega)) _).base (by first | omega | (simp; done) | (simp; omega)), ((((ho2.setO (by first | omega | (simp; done) | (simp; omega)) _).setO (by first | omega | (simp; done) | (simp; omega)) _).setO (by first | omega | (simp; done) | (simp; omega)) _).setO (by first | omega | (simp; done) | (simp; omega)) _).base (by first | omega | (simp; done) | (simp; omega)), ho1z.neT ho2 (by decide)⟩
  · (go_simp; refine tr hK (fun hHeld => ?_); clear hK K)
    refine tc 6 fun K hK => ?_
    (go_simp; (go_at_call 45; refine (l8Copy_any a n c U _ (h.below (by repeat (first | with_reducible apply Below.refl | (with_reducible apply Below.setCell; rotate_left; focus (first | omega | (simp; done) | (simp; omega))) | (with_reducible apply Below.alloc; rotate_left; focus (first | omega | (simp; done) | (simp; omega))) | with_reducible apply Below.drew | with_reducible apply belowDrewN | (with_reducible apply Below.trans; rotate_left; with_reducible apply Below.mono; with_reducible assumption; focus (first | omega | (simp; done) | (simp; omega)))))) hn).mono ?_; rintro e w1 ⟨a1, c1, rfl, hO1⟩; have hb1 := hO1.bel; obtain ⟨hc1, hf1⟩ := bcell hb1; have hz1 := hb1.size; (try simp only [World.size_drew, World.size_alloc, World.size_setCell] at hc1 hf1 hz1); have hk1x0 := fun o => hc1 (w.heap.size) o (by omega); have hk1x1 := fun o => hc1 (w.heap.size + 1) o (by omega); have hj1x1 := fun o => hf1 (w.heap.size + 1) o (by omega); have hq1x1 : w.heap.size + 1 < w1.heap.size := (by omega)); (try go_wp2_with fail); refine tr hK (fun hHeld => ?_); clear hK K)
    refine tc 10 fun K hK => ?_
    have hp : OwnL w1 (w.heap.size + 1 + 1) 73 2 (.slice (some ⟨w.heap.size + 1 + 1, 0, none⟩) 0 0) 0 (fun _ => 0) := (OwnL.fresh0 _ _ _ _ _ _ (by simp) (by first | omega | (simp; done) | (simp; omega))).drewO.below hb1
    have hE2 : Below w.heap.size w w1 := by repeat (first | with_reducible apply Below.refl | (with_reducible apply Below.setCell; rotate_left; focus (first | omega | (simp; done) | (simp; omega))) | (with_reducible apply Below.alloc; rotate_left; focus (first | omega | (simp; done) | (simp; omega))) | with_reducible apply Below.drew | with_reducible apply belowDrewN | (with_reducible apply Below.trans; rotate_left; with_reducible apply Below.mono; with_reducible assumption; focus (first | omega | (simp; done) | (simp; omega))))
    have ho1x : OwnL w1 (w.heap.size + 1 + 1) 43 12 (.slice a1 n c1) n U := (hO1.own.below (by repeat (first | with_reducible apply Below.refl | (with_reducible apply Below.setCell; rotate_left; focus (first | omega | (simp; done) | (simp; omega))) | (with_reducible apply Below.alloc; rotate_left; focus (first | omega | (simp; done) | (simp; omega))) | with_reducible apply Below.drew | with_reducible apply belowDrewN | (with_reducible apply Below.trans; rotate_left; with_reducible apply Below.mono; with_reducible assumption; focus (first | omega | (simp; done) | (simp; omega)))))).base (by first | omega | (simp; done) | (simp; omega))
    refine step_app0 (by rfl) _ _ _ (by rfl) (w.heap.size + 1 + 1) 73 2 16 zcPair Try.underlying34 infoItPair (by rfl) (by decide) _ (fun _ => 0) (by rfl) hp _ m _ Q (by rfl) (h'.below hE2) (by unfold maxLen; omega) (by omega) (by first | omega | (simp; done) | (simp; omega)) ?_
    intro a2 c2 w2 ho2 hg2
    have hz2 := hg2.size
    (try simp only [World.size_alloc] at hz2)
    have hb2 : Below w.heap.size w w2 := hE2.grown hg2 (by first | omega | (simp; omega)) (fun b e => by have := (hp.lt b e).1; omega)
    have ho1z : OwnL w2 (w.heap.size + 1 + 1) 43 12 (.slice a1 n c1) n U := ho1x.kept hg2 (.inr (fun e => by have := hO1.own.lt (w.heap.size + 1 + 1) e; simp at this; try omega))
    have f2 : ∀ b o, b < w.heap.size + 1 + 1 → w2.cell? ⟨b, o, none⟩ = World.cell? w1 ⟨b, o, none⟩ := fun b o hb => hg2.cell_far ⟨b, o, none⟩ (by first | omega | (simp; done) | (simp; omega)) (fun e => by simp [Value.ownBlock] at e; try omega)
    have g2 : ∀ o, w2.frozen? ⟨w.heap.size + 1, o, none⟩ = World.frozen? w1 ⟨w.heap.size + 1, o, none⟩ := fun o => hg2.frozen_far ⟨w.heap.size + 1, o, none⟩ (by first | omega | (simp; done) | (simp; omega)) (fun e => by simp [Value.ownBlock] at e; try omega)
    have hq2 : w.heap.size + 1 < w2.heap.size := by omega
    have s0 : w2.cell? ⟨w.heap.size, 0, none⟩ = some (.int .i64 T) := (f2 _ _ (by omega)).trans (by go_simp)
    have s1 : w2.cell? ⟨w.heap.size, 1, none⟩ = some (.int .i64 P) := (f2 _ _ (by omega)).trans (by go_simp)
    have s2 : w2.cell? ⟨w.heap.size, 2, none⟩ = some (.slice a n c) := (f2 _ _ (by omega)).trans (by go_simp)
    have s3 : w2.cell? ⟨w.heap.size, 3, none⟩ = some (.slice a' m c') := (f2 _ _ (by omega)).trans (by go_simp)
    have u0 : w2.cell? ⟨w.heap.size + 1, 0, none⟩ = some (.int .i64 0) := (f2 _ _ (by omega)).trans (by go_simp)
    have u1 : w2.cell? ⟨w.heap.size + 1, 1, none⟩ = some (.int .i64 0) := (f2 _ _ (by omega)).trans (by go_simp)
    have u2 : w2.cell? ⟨w.heap.size + 1, 2, none⟩ = some (.slice none 0 0) := (f2 _ _ (by omega)).trans (by go_simp)
    have u3 : w2.cell? ⟨w.heap.size + 1, 3, none⟩ = some (.slice none 0 0) := (f2 _ _ (by omega)).trans (by go_simp)
    have v0 : w2.frozen? ⟨w.heap.size + 1, 0, none⟩ = false := (g2 _).trans (by go_simp)
    have v1 : w2.frozen? ⟨w.heap.size + 1, 1, none⟩ = false := (g2 _).trans (by go_simp)
    have v2 : w2.frozen? ⟨w.heap.size + 1, 2, none⟩ = false := (g2 _).trans (by go_simp)
    have v3 : w2.frozen? ⟨w.heap.size + 1, 3, none⟩ = false := (g2 _).trans (by go_simp)
    clear f2 g2
    refine tr hK (fun hHeld => ?_) ⟨s0, s1, s2, s3⟩
    clear hK K
    refine tq 11 hHeld ?_
    refine tc 12 fun K hK => ?_
    (go_simp; refine tr hK (fun hHeld => ?_); clear hK K)
    refine wpAnyH_done (by kernel_rfl) ?_ _
    go_wp2_with fail
    exact bodyPost_ret (v := worldW T P a1 n c1 a2 m c2) (by simp [results, Try.results21, go_sem, *]) rfl ⟨_, _, _, _, rfl, by repeat (first | with_reducible apply Below.refl | (with_reducible apply Below.setCell; rotate_left; focus (first | omega | (simp; done) | (simp; omega))) | (with_reducible apply Below.alloc; rotate_left; focus (first | omega | (simp; done) | (simp; omega))) | with_reducible apply Below.drew | with_reducible apply belowDrewN | (with_reducible apply Below.trans; rotate_left; with_reducible apply Below.mono; with_reducible assumption; focus (first | omega | (simp; done) | (simp; omega)))), ((((ho1z.setO (by first | omega | (simp; done) | (simp; omega)) _).setO (by first | omega | (simp; done) | (simp; omega)) _).setO (by first | omega | (simp; done) | (simp; omega)) _).setO (by first | omega | (simp; done) | (simp; omega)) _).base (by first | omega | (simp; done) | (simp; omega)), ((((ho2.setO (by first | omega | (simp; done) | (simp; omega)) _).setO (by first | omega | (simp; done) | (simp; omega)) _).setO (by first | omega | (simp; done) | (simp; omega)) _).setO (by first | omega | (simp; done) | (simp; omega)) _).base (by first | omega | (simp; done) | (simp; omega)), ho1z.neT ho2 (by decide)⟩
end Go.Proofs.Ythekeeagjokpeaa
