/- Whether a world is ok, by the specification. The exact law of WorldOk, walked. Marks on a world; lists of numbers. A list that a function makes. The contract of ShapeHas. A contract of spans. -/
import Derived.Test.YtgcobcmpkbcfoaaWdI
import Derived.Test.YtgcobcmpkbcfoaaB7
import Derived.Deep.RegionHeld3
import Derived.Deep.DeepCutAuto
import Derived.Test.YtgcobcmpkbcfoaaB3
import Derived.Deep.QuietTactic
import Derived.BigQuiet
import Derived.Deep.RegionWith
namespace Go.Proofs.Ytgcobcmpkbcfoaa
open Go.RowKit
set_option linter.unusedVariables false
set_option linter.unusedSimpArgs false

set_option maxRecDepth 20000 in
set_option maxHeartbeats 4000000 in
theorem l10At_q (a : Option Addr) (n c : Nat) (U : Nat → Int) (id : Int) (p : Nat) (w : World) (h : Flat w a (n * 12) U) (hn : n ≤ 1048576) (hp : idP U n id p) (bb : Bool) (eb : decide (p < n ∧ U (p * 12) = id) = bb) :
    Calls Try.prog 29 #[.slice a n c, .int .i64 id] w fun e w' => e = .returned (.tuple #[.int .i64 (p : Int), .bool bb]) ∧ Below w.heap.size w w' := by
  have hset := cset_map
  go_enter Try.func29, Try.ntmps29
  go_wp2
  go_loopw [6] (fun i wr => ∃ k : Nat, k ≤ p ∧ i = .int .i64 (k : Int) ∧ wr = w) (fun i _ => n - (intOf i).toNat)
  case atStart => exact ⟨0, Nat.zero_le _, rfl, rfl⟩
  case round =>
    obtain ⟨k, hk, rfl, rfl⟩ := hrel
    have hpn := hp.le
    by_cases hlt : k < p
    · have hkn : (k : Int) < (n : Int) := by omega
      have hkk : k < n := by omega
      have hl := hp.lo k hlt
      obtain ⟨b, o, rfl, hbl, hc⟩ := h (by omega)
      have c0 := hc (k * 12) (by omega)
      clear hc
      go_wp2
      go_roundw
      case rel => exact ⟨k + 1, by omega, by go_num, by first | rfl | trivial⟩
      case measure => simp [intOf]; omega
    · obtain rfl : k = p := by omega
      by_cases hkn : k < n
      · have hkn' : (k : Int) < (n : Int) := by omega
        have hge : ¬ U (k * 12) < id := by have := hp.hi hkn; omega
        obtain ⟨b, o, rfl, hbl, hc⟩ := h (by omega)
        have c0 := hc (k * 12) (by omega)
        clear hc
        have hb : (U (k * 12) == id) = bb := by rw [← eb]; by_cases q : U (k * 12) = id <;> simp [q, hkn]
        have EB : Shut (decide (k < n ∧ U (k * 12) = id) = bb) := eb
        clear eb
        go_upto_region 4 with fail
        refine wp_region_held_drew (S := fun w' => w'.cell? ⟨b, o + k * 12, none⟩ = some (.int .i64 (U (k * 12)))) (by kernel_rfl) ?_ (fun hHeld => ?_)
        · (try dsimp only)
          (first | (go_simp; done) | (go_keep; done))
        refine tq 0 hHeld ?_
        refine tq 1 hHeld ?_
        refine tq 2 hHeld ?_
        refine tq 3 hHeld ?_
        refine tq 4 hHeld ?_
        refine tq 5 hHeld ?_
        refine tq 6 hHeld ?_
        refine tq 7 hHeld ?_
        refine tq 8 hHeld ?_
        refine tq 9 hHeld ?_
        refine tq 10 hHeld ?_
        refine tq 11 hHeld ?_
        refine tq 12 hHeld ?_
        refine tq 13 hHeld ?_
        refine tq 14 hHeld ?_
        refine tq 15 hHeld ?_
        refine wpAnyH_done (by kernel_rfl) ?_ _
        go_wp2_with fail
        exact bodyPost_ret (v := .tuple #[.int .i64 (k : Int), .bool bb]) (by simp [results, Try.results29, go_sem, *]) rfl ⟨rfl, by repeat (first | with_reducible apply Below.refl | (with_reducible apply Below.setCell; rotate_left; focus (first | omega | (simp; done) | (simp; omega))) | (with_reducible apply Below.alloc; rotate_left; focus (first | omega | (simp; done) | (simp; omega))) | with_reducible apply Below.drew | with_reducible apply belowDrewN | (with_reducible apply Below.trans; rotate_left; with_reducible apply Below.mono; with_reducible assumption; focus (first | omega | (simp; done) | (simp; omega))))⟩
      · have hkn' : ¬ (k : Int) < (n : Int) := by omega
        obtain rfl : bb = false := by rw [← eb]; exact decide_eq_false (fun q => hkn q.1)
        clear eb
        go_upto_region 4 with fail
        refine wp_region_held_drew (S := fun w' => True) (by kernel_rfl) ?_ (fun hHeld => ?_)
        · (try dsimp only)
          (try trivial)
        refine tq 0 hHeld ?_
        refine tq 1 hHeld ?_
        refine tq 2 hHeld ?_
        refine tq 3 hHeld ?_
        refine tq 4 hHeld ?_
        refine tq 5 hHeld ?_
        refine tn 6 hHeld ?_
        refine tn 7 hHeld ?_
        refine tn 8 hHeld ?_
        refine tn 9 hHeld ?_
        refine tn 10 hHeld ?_
        refine tn 11 hHeld ?_
        refine tn 12 hHeld ?_
        refine tq 13 hHeld ?_
        refine tq 14 hHeld ?_
        refine tq 15 hHeld ?_
        refine wpAnyH_done (by kernel_rfl) ?_ _
        go_wp2_with fail
        exact bodyPost_ret (v := .tuple #[.int .i64 (k : Int), .bool false]) (by simp [results, Try.results29, go_sem, *]) rfl ⟨rfl, by repeat (first | with_reducible apply Below.refl | (with_reducible apply Below.setCell; rotate_left; focus (first | omega | (simp; done) | (simp; omega))) | (with_reducible apply Below.alloc; rotate_left; focus (first | omega | (simp; done) | (simp; omega))) | with_reducible apply Below.drew | with_reducible apply belowDrewN | (with_reducible apply Below.trans; rotate_left; with_reducible apply Below.mono; with_reducible assumption; focus (first | omega | (simp; done) | (simp; omega))))⟩
set_option maxHeartbeats 2000000 in
theorem ahead_q (p q r s : Int) (w : World) (b : Bool) (eb : aheadB p q r s = b) :
    Calls Try.prog 30 #[.agg #[.int .i64 p, .int .i64 q], .agg #[.int .i64 r, .int .i64 s]] w fun e w' => e = .returned (.bool b) ∧ Below w.heap.size w w' := by
  subst eb
  have hset := cset_map
  unfold aheadB
  by_cases h1 : p < r
  · have e0 : decide (p < r ∨ p = r ∧ q < s) = true := decide_eq_true (.inl h1)
    rw [e0]
    go_enter Try.func30, Try.ntmps30
    go_wp2
    go_ret
    exact ⟨rfl, by repeat (first | with_reducible apply Below.refl | (with_reducible apply Below.setCell; rotate_left; focus (first | omega | (simp; done) | (simp; omega))) | (with_reducible apply Below.alloc; rotate_left; focus (first | omega | (simp; done) | (simp; omega))) | with_reducible apply Below.drew | with_reducible apply belowDrewN | (with_reducible apply Below.trans; rotate_left; with_reducible apply Below.mono; with_reducible assumption; focus (first | omega | (simp; done) | (simp; omega))))⟩
  · by_cases h2 : p = r
    · have h2' : (p == r) = true := by simp [h2]
      by_cases h3 : q < s
      · have e0 : decide (p < r ∨ p = r ∧ q < s) = true := decide_eq_true (.inr ⟨h2, h3⟩)
        rw [e0]
        subst h2
        go_enter Try.func30, Try.ntmps30
        go_wp2
        go_ret
        exact ⟨rfl, by repeat (first | with_reducible apply Below.refl | (with_reducible apply Below.setCell; rotate_left; focus (first | omega | (simp; done) | (simp; omega))) | (with_reducible apply Below.alloc; rotate_left; focus (first | omega | (simp; done) | (simp; omega))) | with_reducible apply Below.drew | with_reducible apply belowDrewN | (with_reducible apply Below.trans; rotate_left; with_reducible apply Below.mono; with_reducible assumption; focus (first | omega | (simp; done) | (simp; omega))))⟩
      · have e0 : decide (p < r ∨ p = r ∧ q < s) = false := decide_eq_false (by omega)
        rw [e0]
        subst h2
        go_enter Try.func30, Try.ntmps30
        go_wp2
        go_ret
        exact ⟨rfl, by repeat (first | with_reducible apply Below.refl | (with_reducible apply Below.setCell; rotate_left; focus (first | omega | (simp; done) | (simp; omega))) | (with_reducible apply Below.alloc; rotate_left; focus (first | omega | (simp; done) | (simp; omega))) | with_reducible apply Below.drew | with_reducible apply belowDrewN | (with_reducible apply Below.trans; rotate_left; with_reducible apply Below.mono; with_reducible assumption; focus (first | omega | (simp; done) | (simp; omega))))⟩
    · have e0 : decide (p < r ∨ p = r ∧ q < s) = false := decide_eq_false (by omega)
      have h2' : (p == r) = false := by simp [h2]
      rw [e0]
      go_enter Try.func30, Try.ntmps30
      go_wp2
      go_ret
      exact ⟨rfl, by repeat (first | with_reducible apply Below.refl | (with_reducible apply Below.setCell; rotate_left; focus (first | omega | (simp; done) | (simp; omega))) | (with_reducible apply Below.alloc; rotate_left; focus (first | omega | (simp; done) | (simp; omega))) | with_reducible apply Below.drew | with_reducible apply belowDrewN | (with_reducible apply Below.trans; rotate_left; with_reducible apply Below.mono; with_reducible assumption; focus (first | omega | (simp; done) | (simp; omega))))⟩


set_option maxRecDepth 20000 in
set_option maxHeartbeats 8000000 in
theorem sWorldOk_q (T P : Int) (a : Option Addr) (n c : Nat) (U : Nat → Int) (a' : Option Addr) (m c' : Nat) (Q : Nat → Int) (w : World) (h : Flat w a (n * 12) U) (h' : Flat w a' (m * 2) Q) (hn : n ≤ 1048576) (hm : m ≤ 1048576) (bb : Bool) (ebb : worldB T P n U m Q = bb) :
    Calls Try.prog 8 #[worldW T P a n c a' m c'] w fun e w' => e = .returned (.bool bb) ∧ Below w.heap.size w w' := by
  subst ebb
  have hset := cset_map
  unfold worldB
  cases k1 : decide (0 ≤ T ∧ T ≤ 100000) with
  | false =>
    go_enter Try.func8, Try.ntmps8
    go_wp2_with (go_at_call 27; refine (l1In_q _ _ _ _ _ k1).mono ?_; rintro e w1 ⟨rfl, hb1⟩; obtain ⟨hc1, hf1⟩ := bcell hb1; have hz1 := hb1.size; (try simp only [World.size_drew, World.size_alloc, World.size_setCell] at hc1 hf1 hz1); have hk1x0 := fun o => hc1 (w.heap.size) o (by omega); have hj1x0 := fun o => hf1 (w.heap.size) o (by omega); have hq1x0 : w.heap.size < w1.heap.size := (by omega); clear hc1 hf1)
    go_ret
    exact ⟨rfl, by repeat (first | with_reducible apply Below.refl | (with_reducible apply Below.setCell; rotate_left; focus (first | omega | (simp; done) | (simp; omega))) | (with_reducible apply Below.alloc; rotate_left; focus (first | omega | (simp; done) | (simp; omega))) | with_reducible apply Below.drew | with_reducible apply belowDrewN | (with_reducible apply Below.trans; rotate_left; with_reducible apply Below.mono; with_reducible assumption; focus (first | omega | (simp; done) | (simp; omega))))⟩
  | true =>
    cases k2 : decide (0 ≤ P ∧ P ≤ 2560) with
    | false =>
      go_enter Try.func8, Try.ntmps8
      go_wp2_with (first
        | (have _ := hz1; (go_at_call 27; refine (l1In_q _ _ _ _ _ k2).mono ?_; rintro e w2 ⟨rfl, hb2⟩; obtain ⟨hc2, hf2⟩ := bcell hb2; have hz2 := hb2.size; (try simp only [World.size_drew, World.size_alloc, World.size_setCell] at hc2 hf2 hz2); have hk2x0 := fun o => hc2 (w.heap.size) o (by omega); have hj2x0 := fun o => hf2 (w.heap.size) o (by omega); have hq2x0 : w.heap.size < w2.heap.size := (by omega); clear hc2 hf2))
        | (go_at_call 27; refine (l1In_q _ _ _ _ _ k1).mono ?_; rintro e w1 ⟨rfl, hb1⟩; obtain ⟨hc1, hf1⟩ := bcell hb1; have hz1 := hb1.size; (try simp only [World.size_drew, World.size_alloc, World.size_setCell] at hc1 hf1 hz1); have hk1x0 := fun o => hc1 (w.heap.size) o (by omega); have hj1x0 := fun o => hf1 (w.heap.size) o (by omega); have hq1x0 : w.heap.size < w1.heap.size := (by omega); clear hc1 hf1))
      go_ret
      exact ⟨rfl, by repeat (first | with_reducible apply Below.refl | (with_reducible apply Below.setCell; rotate_left; focus (first | omega | (simp; done) | (simp; omega))) | (with_reducible apply Below.alloc; rotate_left; focus (first | omega | (simp; done) | (simp; omega))) | with_reducible apply Below.drew | with_reducible apply belowDrewN | (with_reducible apply Below.trans; rotate_left; with_reducible apply Below.mono; with_reducible assumption; focus (first | omega | (simp; done) | (simp; omega))))⟩
    | true =>
      cases k3 : bodsB n U with
      | false =>
        go_enter Try.func8, Try.ntmps8
        go_wp2_with (first
          | (have _ := hz1; (go_at_call 27; refine (l1In_q _ _ _ _ _ k2).mono ?_; rintro e w2 ⟨rfl, hb2⟩; obtain ⟨hc2, hf2⟩ := bcell hb2; have hz2 := hb2.size; (try simp only [World.size_drew, World.size_alloc, World.size_setCell] at hc2 hf2 hz2); have hk2x0 := fun o => hc2 (w.heap.size) o (by omega); have hj2x0 := fun o => hf2 (w.heap.size) o (by omega); have hq2x0 : w.heap.size < w2.heap.size := (by omega); clear hc2 hf2))
          | (go_at_call 27; refine (l1In_q _ _ _ _ _ k1).mono ?_; rintro e w1 ⟨rfl, hb1⟩; obtain ⟨hc1, hf1⟩ := bcell hb1; have hz1 := hb1.size; (try simp only [World.size_drew, World.size_alloc, World.size_setCell] at hc1 hf1 hz1); have hk1x0 := fun o => hc1 (w.heap.size) o (by omega); have hj1x0 := fun o => hf1 (w.heap.size) o (by omega); have hq1x0 : w.heap.size < w1.heap.size := (by omega); clear hc1 hf1)
          | (go_at_call 28; refine (sBodiesOk_q a n c U _ _ (h.below (by repeat (first | with_reducible apply Below.refl | (with_reducible apply Below.setCell; rotate_left; focus (first | omega | (simp; done) | (simp; omega))) | (with_reducible apply Below.alloc; rotate_left; focus (first | omega | (simp; done) | (simp; omega))) | with_reducible apply Below.drew | with_reducible apply belowDrewN | (with_reducible apply Below.trans; rotate_left; with_reducible apply Below.mono; with_reducible assumption; focus (first | omega | (simp; done) | (simp; omega)))))) hn k3).mono ?_; rintro e w3 ⟨rfl, hb3⟩; obtain ⟨hc3, hf3⟩ := bcell hb3; have hz3 := hb3.size; (try simp only [World.size_drew, World.size_alloc, World.size_setCell] at hc3 hf3 hz3); have hk3x0 := fun o => hc3 (w.heap.size) o (by omega); have hj3x0 := fun o => hf3 (w.heap.size) o (by omega); have hq3x0 : w.heap.size < w3.heap.size := (by omega); clear hc3 hf3))
        go_ret
        exact ⟨rfl, by repeat (first | with_reducible apply Below.refl | (with_reducible apply Below.setCell; rotate_left; focus (first | omega | (simp; done) | (simp; omega))) | (with_reducible apply Below.alloc; rotate_left; focus (first | omega | (simp; done) | (simp; omega))) | with_reducible apply Below.drew | with_reducible apply belowDrewN | (with_reducible apply Below.trans; rotate_left; with_reducible apply Below.mono; with_reducible assumption; focus (first | omega | (simp; done) | (simp; omega))))⟩
      | true =>
        simp only [Bool.true_and]
        have ha := bodsB_asc k3
        go_enter Try.func8, Try.ntmps8
        go_wp2_with (first
          | (have _ := hz1; (go_at_call 27; refine (l1In_q _ _ _ _ _ k2).mono ?_; rintro e w2 ⟨rfl, hb2⟩; obtain ⟨hc2, hf2⟩ := bcell hb2; have hz2 := hb2.size; (try simp only [World.size_drew, World.size_alloc, World.size_setCell] at hc2 hf2 hz2); have hk2x0 := fun o => hc2 (w.heap.size) o (by omega); have hj2x0 := fun o => hf2 (w.heap.size) o (by omega); have hq2x0 : w.heap.size < w2.heap.size := (by omega); clear hc2 hf2))
          | (go_at_call 27; refine (l1In_q _ _ _ _ _ k1).mono ?_; rintro e w1 ⟨rfl, hb1⟩; obtain ⟨hc1, hf1⟩ := bcell hb1; have hz1 := hb1.size; (try simp only [World.size_drew, World.size_alloc, World.size_setCell] at hc1 hf1 hz1); have hk1x0 := fun o => hc1 (w.heap.size) o (by omega); have hj1x0 := fun o => hf1 (w.heap.size) o (by omega); have hq1x0 : w.heap.size < w1.heap.size := (by omega); clear hc1 hf1)
          | (go_at_call 28; refine (sBodiesOk_q a n c U _ _ (h.below (by repeat (first | with_reducible apply Below.refl | (with_reducible apply Below.setCell; rotate_left; focus (first | omega | (simp; done) | (simp; omega))) | (with_reducible apply Below.alloc; rotate_left; focus (first | omega | (simp; done) | (simp; omega))) | with_reducible apply Below.drew | with_reducible apply belowDrewN | (with_reducible apply Below.trans; rotate_left; with_reducible apply Below.mono; with_reducible assumption; focus (first | omega | (simp; done) | (simp; omega)))))) hn k3).mono ?_; rintro e w3 ⟨rfl, hb3⟩; obtain ⟨hc3, hf3⟩ := bcell hb3; have hz3 := hb3.size; (try simp only [World.size_drew, World.size_alloc, World.size_setCell] at hc3 hf3 hz3); have hk3x0 := fun o => hc3 (w.heap.size) o (by omega); have hj3x0 := fun o => hf3 (w.heap.size) o (by omega); have hq3x0 : w.heap.size < w3.heap.size := (by omega); clear hc3 hf3))
        have hB3 : WdR w T P a n c a' m c' w3 := ⟨by repeat (first | with_reducible apply Below.refl | (with_reducible apply Below.setCell; rotate_left; focus (first | omega | (simp; done) | (simp; omega))) | (with_reducible apply Below.alloc; rotate_left; focus (first | omega | (simp; done) | (simp; omega))) | with_reducible apply Below.drew | with_reducible apply belowDrewN | (with_reducible apply Below.trans; rotate_left; with_reducible apply Below.mono; with_reducible assumption; focus (first | omega | (simp; done) | (simp; omega)))), by omega, by go_simp, by go_simp, by go_simp, by go_simp⟩
        clear hb1 hb2 hb3 hk1x0 hk2x0 hk3x0 hj1x0 hj2x0 hj3x0
        go_loopw [3, 4, 5, 6, 7, 8] (fun i _ _ _ _ _ wr => ∃ k : Nat, k ≤ m ∧ i = .int .i64 (k : Int) ∧ WdR w T P a n c a' m c' wr ∧ allPB U n Q k = true) (fun i _ _ _ _ _ _ => m - (intOf i).toNat)
        case atStart => exact ⟨0, Nat.zero_le _, rfl, hB3, rfl⟩
        case round =>
          obtain ⟨i, hi, rfl, hB, hall0⟩ := hrel
          have hall : Shut (allPB U n Q i = true) := hall0
          clear hall0 hB3
          have hbig := hB.big
          have z2 := hB.c2
          have z3 := hB.c3
          by_cases hlt : i < m
          · obtain ⟨b, o, rfl, hbl, hc⟩ := (h'.below hB.bel) (by omega)
            have hbl0 : b < w.heap.size := by obtain ⟨b', o', e, l, _⟩ := h' (by omega); simp only [Option.some.injEq, Addr.mk.injEq] at e; omega
            have x0 := hc (i * 2) (by omega)
            have x1 := hc (i * 2 + 1) (by omega)
            simp only [← Nat.add_assoc] at x0 x1
            obtain ⟨pA, hpA⟩ := idP_ex U (Q (i * 2)) n
            obtain ⟨pB, hpB⟩ := idP_ex U (Q (i * 2 + 1)) n
            have eA' := hasF_at ha hpA
            have eB' := hasF_at ha hpB
            generalize eA : hasF U n (Q (i * 2)) = vA at eA'
            generalize eB : hasF U n (Q (i * 2 + 1)) = vB at eB'
            go_upto_region 7 with fail
            have hE : Below wr.heap.size wr (wr.alloc (Obj.cells #[.int .i64 (Q (i * 2)), .int .i64 (Q (i * 2 + 1))] 65)) := (Below.refl _ _).alloc (Nat.le_refl _) _
            have hB2 := hB.on hE
            have y0 : (wr.alloc (Obj.cells #[.int .i64 (Q (i * 2)), .int .i64 (Q (i * 2 + 1))] 65)).cell? ⟨wr.heap.size, 0, none⟩ = some (.int .i64 (Q (i * 2))) := by go_simp
            have y1 : (wr.alloc (Obj.cells #[.int .i64 (Q (i * 2)), .int .i64 (Q (i * 2 + 1))] 65)).cell? ⟨wr.heap.size, 1, none⟩ = some (.int .i64 (Q (i * 2 + 1))) := by go_simp
            have hz : wr.heap.size < (wr.alloc (Obj.cells #[.int .i64 (Q (i * 2)), .int .i64 (Q (i * 2 + 1))] 65)).heap.size := by simp
            generalize (wr.alloc (Obj.cells #[.int .i64 (Q (i * 2)), .int .i64 (Q (i * 2 + 1))] 65)) = wx at hE hB2 y0 y1 hz ⊢
            clear x0 x1 z2 z3
            have hbb := hE.size
            generalize wr.heap.size = bp at y0 y1 hz hbig hbb ⊢
            have z2 := hB2.c2
            have z3 := hB2.c3
            have hbo : Shut (vA = decide (pA < n ∧ U (pA * 12) = Q (i * 2)) ∧ vB = decide (pB < n ∧ U (pB * 12) = Q (i * 2 + 1))) := ⟨eA', eB'⟩
            clear eA' eB'
            go_cut [6] (fun s wc => s = .bool vA ∧ WdR w T P a n c (some ⟨b, o, none⟩) m c' wc ∧ wc.cell? ⟨bp, 0, none⟩ = some (.int .i64 (Q (i * 2))) ∧ wc.cell? ⟨bp, 1, none⟩ = some (.int .i64 (Q (i * 2 + 1))) ∧ bp < wc.heap.size)
            case first =>
              go_wp2_with (go_at_call 29; refine (l10At_q a n c U _ pA _ (h.below hB2.bel) hn hpA vA hbo.out.1.symm).mono ?_; rintro e w4 ⟨rfl, hb4⟩; obtain ⟨hc4, hf4⟩ := bcell hb4; have hz4 := hb4.size; (try simp only [World.size_drew, World.size_alloc, World.size_setCell] at hc4 hf4 hz4); have hk4x0 := fun o => hc4 (bp) o (by omega); have hj4x0 := fun o => hf4 (bp) o (by omega); have hq4x0 : bp < w4.heap.size := (by omega); clear hc4 hf4)
              go_meet
              exact ⟨rfl, hB2.on hb4, by go_simp, by go_simp, by omega⟩
            case rest =>
            clear hB2 y0 y1 hz z2 z3
            obtain ⟨rfl, hB2, y0, y1, hz⟩ := hcut
            have z2 := hB2.c2
            have z3 := hB2.c3
            go_upto_region 8 with fail
            go_cut [8] (fun s wd => s = .bool vB ∧ WdR w T P a n c (some ⟨b, o, none⟩) m c' wd ∧ wd.cell? ⟨bp, 0, none⟩ = some (.int .i64 (Q (i * 2))) ∧ wd.cell? ⟨bp, 1, none⟩ = some (.int .i64 (Q (i * 2 + 1))) ∧ bp < wd.heap.size)
            case first =>
              go_wp2_with (go_at_call 29; refine (l10At_q a n c U _ pB _ (h.below hB2.bel) hn hpB vB hbo.out.2.symm).mono ?_; rintro e w4 ⟨rfl, hb4⟩; obtain ⟨hc4, hf4⟩ := bcell hb4; have hz4 := hb4.size; (try simp only [World.size_drew, World.size_alloc, World.size_setCell] at hc4 hf4 hz4); have hk4x0 := fun o => hc4 (bp) o (by omega); have hj4x0 := fun o => hf4 (bp) o (by omega); have hq4x0 : bp < w4.heap.size := (by omega); clear hc4 hf4)
              go_meet
              exact ⟨rfl, hB2.on hb4, by go_simp, by go_simp, by omega⟩
            case rest =>
            clear hB2 y0 y1 hz z2 z3
            obtain ⟨rfl, hBc, y0, y1, hz⟩ := hcut
            have z3 := hBc.c3
            have hbel := hBc.bel
            have hbgc := hBc.big
            clear hbo
            go_upto_region 9 with fail
            cases vA with
            | false =>
              have hno : Shut (stepPB U n Q i = false) := (by unfold stepPB; rw [eA]; simp : stepPB U n Q i = false)
              refine wp_region_held_drew (S := fun w' => w'.cell? ⟨w.heap.size, 3, none⟩ = some (.slice (some ⟨b, o, none⟩) m c') ∧ w'.cell? ⟨bp, 0, none⟩ = some (.int .i64 (Q (i * 2))) ∧ w'.cell? ⟨bp, 1, none⟩ = some (.int .i64 (Q (i * 2 + 1)))) (by kernel_rfl) ?_ (fun hHeld => ?_)
              · (try dsimp only)
                (first | (go_simp; done) | (go_keep; done))
              refine tq 0 hHeld ?_
              refine tq 1 hHeld ?_
              refine tq 2 hHeld ?_
              refine tn 3 hHeld ?_
              refine tn 4 hHeld ?_
              refine tq 5 hHeld ?_
              refine tq 6 hHeld ?_
              refine tn 7 hHeld ?_
              refine tn 8 hHeld ?_
              refine tn 9 hHeld ?_
              refine tn 10 hHeld ?_
              refine tn 11 hHeld ?_
              refine tq 12 hHeld ?_
              refine tq 13 hHeld ?_
              refine tn 14 hHeld ?_
              refine tn 15 hHeld ?_
              refine tn 16 hHeld ?_
              refine tn 17 hHeld ?_
              refine tn 18 hHeld ?_
              refine tn 19 hHeld ?_
              refine tn 20 hHeld ?_
              refine tn 21 hHeld ?_
              refine tn 22 hHeld ?_
              refine tn 23 hHeld ?_
              refine tn 24 hHeld ?_
              refine tn 25 hHeld ?_
              refine tn 26 hHeld ?_
              refine tq 27 hHeld ?_
              refine wpAnyH_done (by kernel_rfl) ?_ _
              go_wp2_with fail
              go_ret
              exact ⟨by rw [allPB_no hno.out m hlt]; rfl, hBc.bel.trans ((Below.drew (Below.refl _ _)).mono (Nat.le_of_lt hBc.big))⟩
            | true =>
              cases vB with
              | false =>
                have hno : Shut (stepPB U n Q i = false) := (by unfold stepPB; rw [eB]; simp : stepPB U n Q i = false)
                refine wp_region_held_drew (S := fun w' => w'.cell? ⟨w.heap.size, 3, none⟩ = some (.slice (some ⟨b, o, none⟩) m c') ∧ w'.cell? ⟨bp, 0, none⟩ = some (.int .i64 (Q (i * 2))) ∧ w'.cell? ⟨bp, 1, none⟩ = some (.int .i64 (Q (i * 2 + 1)))) (by kernel_rfl) ?_ (fun hHeld => ?_)
                · (try dsimp only)
                  (first | (go_simp; done) | (go_keep; done))
                refine tq 0 hHeld ?_
                refine tq 1 hHeld ?_
                refine tq 2 hHeld ?_
                refine tq 3 hHeld ?_
                refine tq 4 hHeld ?_
                refine tq 5 hHeld ?_
                refine tq 6 hHeld ?_
                refine tn 7 hHeld ?_
                refine tn 8 hHeld ?_
                refine tn 9 hHeld ?_
                refine tn 10 hHeld ?_
                refine tn 11 hHeld ?_
                refine tq 12 hHeld ?_
                refine tq 13 hHeld ?_
                refine tn 14 hHeld ?_
                refine tn 15 hHeld ?_
                refine tn 16 hHeld ?_
                refine tn 17 hHeld ?_
                refine tn 18 hHeld ?_
                refine tn 19 hHeld ?_
                refine tn 20 hHeld ?_
                refine tn 21 hHeld ?_
                refine tn 22 hHeld ?_
                refine tn 23 hHeld ?_
                refine tn 24 hHeld ?_
                refine tn 25 hHeld ?_
                refine tn 26 hHeld ?_
                refine tq 27 hHeld ?_
                refine wpAnyH_done (by kernel_rfl) ?_ _
                go_wp2_with fail
                go_ret
                exact ⟨by rw [allPB_no hno.out m hlt]; rfl, hBc.bel.trans ((Below.drew (Below.refl _ _)).mono (Nat.le_of_lt hBc.big))⟩
              | true =>
                by_cases hAB : Q (i * 2) < Q (i * 2 + 1)
                · have hd1 : decide (Q (i * 2 + 1) ≤ Q (i * 2)) = false := decide_eq_false (by omega)
                  by_cases hk0 : 0 < i
                  · have hd0 : decide (0 < i) = true := decide_eq_true hk0
                    obtain ⟨j, hj⟩ : ∃ j, j + 1 = i := ⟨i - 1, by omega⟩
                    have hj' : (i : Int) - 1 = (j : Int) := by omega
                    have hjn : j < m := by omega
                    have hwj : IntKind.i64.wrap (j : Int) = (j : Int) := i64w (by omega)
                    obtain ⟨b2, o2, e2, _, hc2⟩ := (h'.below hBc.bel) (by omega)
                    simp only [Option.some.injEq, Addr.mk.injEq, and_true] at e2
                    obtain ⟨rfl, rfl⟩ := e2
                    have p0 := hc2 (j * 2) (by omega)
                    have p1 := hc2 (j * 2 + 1) (by omega)
                    simp only [← Nat.add_assoc] at p1
                    clear hc2
                    have HJ : Shut (j + 1 = i) := hj
                    clear hj
                    cases eC : aheadB (Q (j * 2)) (Q (j * 2 + 1)) (Q (i * 2)) (Q (i * 2 + 1)) with
                    | false =>
                      have hno : Shut (stepPB U n Q i = false) := (by unfold stepPB; rw [show i - 1 = j from by have := HJ.out; omega, eC, decide_eq_false (by omega : ¬ i = 0)]; simp : stepPB U n Q i = false)
                      refine wp_region_held_drew (S := fun w' => w'.cell? ⟨w.heap.size, 3, none⟩ = some (.slice (some ⟨b, o, none⟩) m c') ∧ w'.cell? ⟨bp, 0, none⟩ = some (.int .i64 (Q (i * 2))) ∧ w'.cell? ⟨bp, 1, none⟩ = some (.int .i64 (Q (i * 2 + 1))) ∧ w'.cell? ⟨b, o + j * 2, none⟩ = some (.int .i64 (Q (j * 2))) ∧ w'.cell? ⟨b, o + j * 2 + 1, none⟩ = some (.int .i64 (Q (j * 2 + 1)))) (by kernel_rfl) ?_ (fun hHeld => ?_)
                      · (try dsimp only)
                        (first | (go_simp; done) | (go_keep; done))
                      refine tq 0 hHeld ?_
                      refine tq 1 hHeld ?_
                      refine tq 2 hHeld ?_
                      refine tq 3 hHeld ?_
                      refine tq 4 hHeld ?_
                      refine tq 5 hHeld ?_
                      refine tq 6 hHeld ?_
                      refine tq 7 hHeld ?_
                      refine tq 8 hHeld ?_
                      refine tq 9 hHeld ?_
                      refine tq 10 hHeld ?_
                      refine tq 11 hHeld ?_
                      refine tq 12 hHeld ?_
                      refine tq 13 hHeld ?_
                      refine tq 14 hHeld ?_
                      refine tq 15 hHeld ?_
                      refine tq 16 hHeld ?_
                      refine tq 17 hHeld ?_
                      refine tq 18 hHeld ?_
                      refine tq 19 hHeld ?_
                      refine tq 20 hHeld ?_
                      refine tq 21 hHeld ?_
                      refine tq 22 hHeld ?_
                      refine tq 23 hHeld ?_
                      (refine tc 24 fun K hK => ?_; go_simp; (go_at_call 30; refine (ahead_q _ _ _ _ _ _ eC).mono ?_; rintro e w6 ⟨rfl, hb6⟩; obtain ⟨hc6, hf6⟩ := bcell hb6; have hz6 := hb6.size; (try simp only [World.size_drew, World.size_alloc, World.size_setCell] at hc6 hf6 hz6); have hk6x0 := fun o => hc6 (w.heap.size) o (by omega); have hj6x0 := fun o => hf6 (w.heap.size) o (by omega); have hq6x0 : w.heap.size < w6.heap.size := (by omega); have hk6x1 := fun o => hc6 (bp) o (by omega); have hj6x1 := fun o => hf6 (bp) o (by omega); have hq6x1 : bp < w6.heap.size := (by omega); have hk6x2 := fun o => hc6 (b) o (by omega); have hj6x2 := fun o => hf6 (b) o (by omega); have hq6x2 : b < w6.heap.size := (by omega); clear hc6 hf6); (try go_wp2_with fail); refine tr hK (fun hHeld => ?_); clear hK K)
                      refine tq 25 hHeld ?_
                      refine tq 26 hHeld ?_
                      refine tq 27 hHeld ?_
                      refine wpAnyH_done (by kernel_rfl) ?_ _
                      go_wp2_with fail
                      go_ret
                      exact ⟨by rw [allPB_no hno.out m hlt]; rfl, hBc.bel.trans ((hb6.ofDr).mono (Nat.le_of_lt hBc.big))⟩
                    | true =>
                      have hyes : Shut (stepPB U n Q i = true) := (by unfold stepPB; rw [show i - 1 = j from by have := HJ.out; omega, eC, eA, eB, decide_eq_true hAB]; simp : stepPB U n Q i = true)
                      refine wp_region_held_drew (S := fun w' => w'.cell? ⟨w.heap.size, 3, none⟩ = some (.slice (some ⟨b, o, none⟩) m c') ∧ w'.cell? ⟨bp, 0, none⟩ = some (.int .i64 (Q (i * 2))) ∧ w'.cell? ⟨bp, 1, none⟩ = some (.int .i64 (Q (i * 2 + 1))) ∧ w'.cell? ⟨b, o + j * 2, none⟩ = some (.int .i64 (Q (j * 2))) ∧ w'.cell? ⟨b, o + j * 2 + 1, none⟩ = some (.int .i64 (Q (j * 2 + 1)))) (by kernel_rfl) ?_ (fun hHeld => ?_)
                      · (try dsimp only)
                        (first | (go_simp; done) | (go_keep; done))
                      refine tq 0 hHeld ?_
                      refine tq 1 hHeld ?_
                      refine tq 2 hHeld ?_
                      refine tq 3 hHeld ?_
                      refine tq 4 hHeld ?_
                      refine tq 5 hHeld ?_
                      refine tq 6 hHeld ?_
                      refine tq 7 hHeld ?_
                      refine tq 8 hHeld ?_
                      refine tq 9 hHeld ?_
                      refine tq 10 hHeld ?_
                      refine tq 11 hHeld ?_
                      refine tq 12 hHeld ?_
                      refine tq 13 hHeld ?_
                      refine tq 14 hHeld ?_
                      refine tq 15 hHeld ?_
                      refine tq 16 hHeld ?_
                      refine tq 17 hHeld ?_
                      refine tq 18 hHeld ?_
                      refine tq 19 hHeld ?_
                      refine tq 20 hHeld ?_
                      refine tq 21 hHeld ?_
                      refine tq 22 hHeld ?_
                      refine tq 23 hHeld ?_
                      (refine tc 24 fun K hK => ?_; go_simp; (go_at_call 30; refine (ahead_q _ _ _ _ _ _ eC).mono ?_; rintro e w6 ⟨rfl, hb6⟩; obtain ⟨hc6, hf6⟩ := bcell hb6; have hz6 := hb6.size; (try simp only [World.size_drew, World.size_alloc, World.size_setCell] at hc6 hf6 hz6); have hk6x0 := fun o => hc6 (w.heap.size) o (by omega); have hj6x0 := fun o => hf6 (w.heap.size) o (by omega); have hq6x0 : w.heap.size < w6.heap.size := (by omega); have hk6x1 := fun o => hc6 (bp) o (by omega); have hj6x1 := fun o => hf6 (bp) o (by omega); have hq6x1 : bp < w6.heap.size := (by omega); have hk6x2 := fun o => hc6 (b) o (by omega); have hj6x2 := fun o => hf6 (b) o (by omega); have hq6x2 : b < w6.heap.size := (by omega); clear hc6 hf6); (try go_wp2_with fail); refine tr hK (fun hHeld => ?_); clear hK K)
                      refine tq 25 hHeld ?_
                      refine tq 26 hHeld ?_
                      refine tq 27 hHeld ?_
                      refine wpAnyH_done (by kernel_rfl) ?_ _
                      go_wp2_with fail
                      go_roundw
                      case rel => exact ⟨i + 1, by omega, by go_num, hBc.on (hb6.ofDr), by rw [allPB, hall.out, hyes.out]; rfl⟩
                      case measure => simp [intOf]; omega
                  · have hd0 : decide (0 < i) = false := decide_eq_false hk0
                    have HK : Shut (i = 0) := (by omega : i = 0)
                    clear hk0
                    have hyes : Shut (stepPB U n Q i = true) := (by unfold stepPB; rw [eA, eB, decide_eq_true hAB, decide_eq_true HK.out]; rfl : stepPB U n Q i = true)
                    refine wp_region_held_drew (S := fun w' => w'.cell? ⟨w.heap.size, 3, none⟩ = some (.slice (some ⟨b, o, none⟩) m c') ∧ w'.cell? ⟨bp, 0, none⟩ = some (.int .i64 (Q (i * 2))) ∧ w'.cell? ⟨bp, 1, none⟩ = some (.int .i64 (Q (i * 2 + 1)))) (by kernel_rfl) ?_ (fun hHeld => ?_)
                    · (try dsimp only)
                      (first | (go_simp; done) | (go_keep; done))
                    refine tq 0 hHeld ?_
                    refine tq 1 hHeld ?_
                    refine tq 2 hHeld ?_
                    refine tq 3 hHeld ?_
                    refine tq 4 hHeld ?_
                    refine tq 5 hHeld ?_
                    refine tq 6 hHeld ?_
                    refine tq 7 hHeld ?_
                    refine tq 8 hHeld ?_
                    refine tq 9 hHeld ?_
                    refine tq 10 hHeld ?_
                    refine tq 11 hHeld ?_
                    refine tq 12 hHeld ?_
                    refine tq 13 hHeld ?_
                    refine tq 14 hHeld ?_
                    refine tq 15 hHeld ?_
                    refine tq 16 hHeld ?_
                    refine tn 17 hHeld ?_
                    refine tn 18 hHeld ?_
                    refine tn 19 hHeld ?_
                    refine tn 20 hHeld ?_
                    refine tn 21 hHeld ?_
                    refine tn 22 hHeld ?_
                    refine tn 23 hHeld ?_
                    refine tn 24 hHeld ?_
                    refine tn 25 hHeld ?_
                    refine tq 26 hHeld ?_
                    refine tq 27 hHeld ?_
                    refine wpAnyH_done (by kernel_rfl) ?_ _
                    go_wp2_with fail
                    go_roundw
                    case rel => exact ⟨i + 1, by omega, by go_num, hBc.on (Below.drew (Below.refl _ _)), by rw [allPB, hall.out, hyes.out]; rfl⟩
                    case measure => simp [intOf]; omega
                · have hd1 : decide (Q (i * 2 + 1) ≤ Q (i * 2)) = true := decide_eq_true (by omega)
                  have hno : Shut (stepPB U n Q i = false) := (by unfold stepPB; rw [decide_eq_false hAB]; rfl : stepPB U n Q i = false)
                  refine wp_region_held_drew (S := fun w' => w'.cell? ⟨w.heap.size, 3, none⟩ = some (.slice (some ⟨b, o, none⟩) m c') ∧ w'.cell? ⟨bp, 0, none⟩ = some (.int .i64 (Q (i * 2))) ∧ w'.cell? ⟨bp, 1, none⟩ = some (.int .i64 (Q (i * 2 + 1)))) (by kernel_rfl) ?_ (fun hHeld => ?_)
                  · (try dsimp only)
                    (first | (go_simp; done) | (go_keep; done))
                  refine tq 0 hHeld ?_
                  refine tq 1 hHeld ?_
                  refine tq 2 hHeld ?_
                  refine tq 3 hHeld ?_
                  refine tq 4 hHeld ?_
                  refine tq 5 hHeld ?_
                  refine tq 6 hHeld ?_
                  refine tq 7 hHeld ?_
                  refine tq 8 hHeld ?_
                  refine tq 9 hHeld ?_
                  refine tq 10 hHeld ?_
                  refine tq 11 hHeld ?_
                  refine tq 12 hHeld ?_
                  refine tq 13 hHeld ?_
                  refine tn 14 hHeld ?_
                  refine tn 15 hHeld ?_
                  refine tn 16 hHeld ?_
                  refine tn 17 hHeld ?_
                  refine tn 18 hHeld ?_
                  refine tn 19 hHeld ?_
                  refine tn 20 hHeld ?_
                  refine tn 21 hHeld ?_
                  refine tn 22 hHeld ?_
                  refine tn 23 hHeld ?_
                  refine tn 24 hHeld ?_
                  refine tn 25 hHeld ?_
                  refine tn 26 hHeld ?_
                  refine tq 27 hHeld ?_
                  refine wpAnyH_done (by kernel_rfl) ?_ _
                  go_wp2_with fail
                  go_ret
                  exact ⟨by rw [allPB_no hno.out m hlt]; rfl, hBc.bel.trans ((Below.drew (Below.refl _ _)).mono (Nat.le_of_lt hBc.big))⟩
          · obtain rfl : i = m := by omega
            go_wp2
            go_ret
            exact ⟨by rw [hall.out]; rfl, hB.bel⟩
end Go.Proofs.Ytgcobcmpkbcfoaa
namespace Go.Proofs.Ytgcobcmpkbcfoaa
open Go.RowKit
set_option linter.unusedVariables false
set_option linter.unusedSimpArgs false

/-- a world of the program's own, in a variable at bx -/
structure Xw (wc : World) (bx : Nat) (T P : Int) (n m b d : Nat) (U Q : Nat → Int) : Prop where
  c0 : wc.cell? ⟨bx, 0, none⟩ = some (.int .i64 T)
  c1 : wc.cell? ⟨bx, 1, none⟩ = some (.int .i64 P)
  c2 : wc.cell? ⟨bx, 2, none⟩ = some (.slice (some ⟨b, 0, none⟩) n n)
  c3 : wc.cell? ⟨bx, 3, none⟩ = some (.slice (some ⟨d, 0, none⟩) m m)
  lt : bx < wc.heap.size
  hr : Row wc b 81 (n * 12) U
  hq : Row wc d 65 (m * 2) Q
theorem Xw.on {wc w' : World} {bx n m b d : Nat} {T P : Int} {U Q : Nat → Int} (h : Xw wc bx T P n m b d U Q) (hb : Below wc.heap.size wc w') : Xw w' bx T P n m b d U Q :=
  ⟨(hb.cell (p := ⟨bx, 0, none⟩) h.lt).trans h.c0, (hb.cell (p := ⟨bx, 1, none⟩) h.lt).trans h.c1, (hb.cell (p := ⟨bx, 2, none⟩) h.lt).trans h.c2, (hb.cell (p := ⟨bx, 3, none⟩) h.lt).trans h.c3, Nat.lt_of_lt_of_le h.lt hb.size, h.hr.below hb, h.hq.below hb⟩
set_option maxRecDepth 20000 in
set_option maxHeartbeats 8000000 in
theorem fnExactWorldOk_walk (T P : Int) (a : Option Addr) (n c : Nat) (U : Nat → Int) (a' : Option Addr) (m c' : Nat) (Q : Nat → Int) (w : World) (h : Flat w a (n * 12) U) (h' : Flat w a' (m * 2) Q) (hn : (n : Int) ≤ 9223372036854775807) (hm : (m : Int) ≤ 9223372036854775807) :
    Calls Try.prog 3 #[worldW T P a n c a' m c'] w fun e w' => e = .returned (.bool true) ∧ Below w.heap.size w w' := by
  have hset := cset_map
  by_cases h20 : n + m ≤ 1048576
  · go_enter Try.func3, Try.ntmps3
    go_upto_region 2 with fail
    go_cut [3] (fun s wc => ∃ z : Int, s = .int .i64 z ∧ 0 ≤ z ∧ WdR w T P a n c a' m c' wc)
    case first =>
      go_wp2_with (go_at_call 7; refine (szWorld_any T P a n c a' m c' _ hn hm).mono ?_; rintro e w1 ⟨⟨z, rfl, hz1, hz2, hz3⟩, hb1⟩)
      go_meet
      exact ⟨z, rfl, hz1.2 h20, WdR.on ⟨(Below.refl _ _).alloc (Nat.le_refl _) _, by simp, by go_simp, by go_simp, by go_simp, by go_simp⟩ hb1⟩
    case rest =>
    obtain ⟨z, rfl, hz, hB⟩ := hcut
    have hz' : ¬ z < 0 := by omega
    have z0 := hB.c0
    have z1 := hB.c1
    have z2 := hB.c2
    have z3 := hB.c3
    have hbig := hB.big
    generalize hv : worldB T P n U m Q = v
    go_upto_region 5 with fail
    go_cut [4] (fun s wc => s = .bool v ∧ WdR w T P a n c a' m c' wc)
    case first =>
      go_wp2_with (first
        | (go_at_call 9; refine (toWorld_any T P a n c U a' m c' Q _ (h.below hB.bel) (h'.below hB.bel) (by omega) (by omega)).mono ?_; rintro e w2 ⟨b2, d2, s2, rfl, hl2, hl2a, hl2b, hl2c, hr2, hq2, hb2⟩)
        | (go_at_call 8; refine (sWorldOk_q T P _ n _ U _ m _ Q _ hr2.flat hq2.flat (by omega) (by omega) v hv).mono ?_; rintro e w3 ⟨rfl, hb3⟩))
      go_meet
      exact ⟨rfl, (hB.on hb2).on hb3⟩
    case rest =>
    clear hB z0 z1 z2 z3 hbig
    obtain ⟨rfl, hB⟩ := hcut
    have z0 := hB.c0
    have z1 := hB.c1
    have z2 := hB.c2
    have z3 := hB.c3
    have hbig := hB.big
    go_upto_region 6 with fail
    go_cut [5] (fun s wc => ∃ bx b d, s = .pointer (some ⟨bx, 0, none⟩) ∧ WdR w T P a n c a' m c' wc ∧ Xw wc bx T P n m b d U Q)
    case first =>
      go_wp2_with (go_at_call 9; refine (toWorld_any T P a n c U a' m c' Q _ (h.below hB.bel) (h'.below hB.bel) (by omega) (by omega)).mono ?_; rintro e w2 ⟨b2, d2, s2, rfl, hl2, hl2a, hl2b, hl2c, hr2, hq2, hb2⟩)
      go_meet
      have hE : Below w2.heap.size w2 (w2.alloc (.cells #[.int .i64 T, .int .i64 P, .slice (some ⟨b2, 0, none⟩) n n, .slice (some ⟨d2, 0, none⟩) m m] 31)) := (Below.refl _ _).alloc (Nat.le_refl _) _
      exact ⟨_, b2, d2, rfl, (hB.on hb2).on hE, by go_simp, by go_simp, by go_simp, by go_simp, by simp, hr2.below hE, hq2.below hE⟩
    case rest =>
    clear hB z0 z1 z2 z3 hbig
    obtain ⟨bx, b, d, rfl, hB, hX⟩ := hcut
    have z0 := hB.c0
    have z1 := hB.c1
    have z2 := hB.c2
    have z3 := hB.c3
    have hbig := hB.big
    have x0 := hX.c0
    have x1 := hX.c1
    have x2 := hX.c2
    have x3 := hX.c3
    have hxl := hX.lt
    go_upto_region 7 with fail
    go_cut [6] (fun s wc => s = .bool v ∧ WdR w T P a n c a' m c' wc ∧ Xw wc bx T P n m b d U Q)
    case first =>
      go_wp2_with (go_at_call 10; refine (worldOk_q T P _ n _ U _ m _ Q _ hX.hr.flat hX.hq.flat (by omega) (by omega) v hv).mono ?_; rintro e w3 ⟨rfl, hb3⟩)
      go_meet
      exact ⟨rfl, hB.on hb3, hX.on hb3⟩
    case rest =>
    clear hB z0 z1 z2 z3 hbig hX x0 x1 x2 x3 hxl
    obtain ⟨rfl, hB, hX⟩ := hcut
    have z0 := hB.c0
    have z1 := hB.c1
    have z2 := hB.c2
    have z3 := hB.c3
    have hbig := hB.big
    have x0 := hX.c0
    have x1 := hX.c1
    have x2 := hX.c2
    have x3 := hX.c3
    have hxl := hX.lt
    clear hv
    go_upto_region 8 with fail
    go_cut [21] (fun s wc => s = .bool false ∧ WdR w T P a n c a' m c' wc ∧ Xw wc bx T P n m b d U Q)
    case first =>
      cases v <;> (go_wp2; go_meet; exact ⟨rfl, hB, hX⟩)
    case rest =>
    clear hB z0 z1 z2 z3 hbig hX x0 x1 x2 x3 hxl
    obtain ⟨rfl, hB, hX⟩ := hcut
    have z0 := hB.c0
    have z1 := hB.c1
    have z2 := hB.c2
    have z3 := hB.c3
    have hbig := hB.big
    have x0 := hX.c0
    have x1 := hX.c1
    have x2 := hX.c2
    have x3 := hX.c3
    have hxl := hX.lt
    go_upto_region 10 with fail
    refine wp_region_held_drew (S := fun w' => w'.cell? ⟨w.heap.size, 0, none⟩ = some (.int .i64 T) ∧ w'.cell? ⟨w.heap.size, 1, none⟩ = some (.int .i64 P) ∧ w'.cell? ⟨w.heap.size, 2, none⟩ = some (.slice a n c) ∧ w'.cell? ⟨w.heap.size, 3, none⟩ = some (.slice a' m c') ∧ w'.cell? ⟨bx, 0, none⟩ = some (.int .i64 T) ∧ w'.cell? ⟨bx, 1, none⟩ = some (.int .i64 P) ∧ w'.cell? ⟨bx, 2, none⟩ = some (.slice (some ⟨b, 0, none⟩) n n) ∧ w'.cell? ⟨bx, 3, none⟩ = some (.slice (some ⟨d, 0, none⟩) m m)) (by kernel_rfl) ?_ (fun hHeld => ?_)
    · (try dsimp only)
      (first | (go_simp; done) | (go_keep; done))
    refine tq 0 hHeld ?_
    refine tq 1 hHeld ?_
    (refine tc 2 fun K hK => ?_; go_simp; (go_at_call 9; refine (toWorld_any T P a n c U a' m c' Q _ (h.below hB.bel.drew) (h'.below hB.bel.drew) (by omega) (by omega)).mono ?_; rintro e w6 ⟨b6, d6, s6, rfl, hl6, hl6a, hl6b, hl6c, hr6, hq6, hb6⟩; have hB6 := hB.on hb6.ofDr; have hX6 := hX.on hb6.ofDr; have q0 := hB6.c0; have q1 := hB6.c1; have q2 := hB6.c2; have q3 := hB6.c3; have r0 := hX6.c0; have r1 := hX6.c1; have r2 := hX6.c2; have r3 := hX6.c3); (try go_wp2_with fail); refine tr hK (fun hHeld => ?_); clear hK K)
    (refine tc 3 fun K hK => ?_; go_simp; (go_at_call 11; refine (eqWorld_same T P _ _ n _ _ U _ _ m _ _ Q _ hX6.hr.flat hr6.flat hX6.hq.flat hq6.flat (by omega) (by omega)).mono ?_; rintro e w7 ⟨rfl, hb7⟩; have hB7 := hB6.on hb7; have hX7 := hX6.on hb7; have t0 := hB7.c0; have t1 := hB7.c1; have t2 := hB7.c2; have t3 := hB7.c3; have u0' := hX7.c0; have u1' := hX7.c1; have u2' := hX7.c2; have u3' := hX7.c3); (try go_wp2_with fail); refine tr hK (fun hHeld => ?_); clear hK K)
    refine tq 4 hHeld ?_
    refine wpAnyH_done (by kernel_rfl) ?_ _
    go_wp2_with fail
    go_ret
    exact ⟨rfl, hB7.bel⟩
  · go_enter Try.func3, Try.ntmps3
    go_upto_region 2 with fail
    go_cut [3] (fun s wc => ∃ z : Int, s = .int .i64 z ∧ z < 0 ∧ Below w.heap.size w wc)
    case first =>
      go_wp2_with (go_at_call 7; refine (szWorld_any T P a n c a' m c' _ hn hm).mono ?_; rintro e w1 ⟨⟨z, rfl, hz1, hz2, hz3⟩, hb1⟩)
      go_meet
      exact ⟨z, rfl, by omega, by repeat (first | with_reducible apply Below.refl | (with_reducible apply Below.setCell; rotate_left; focus (first | omega | (simp; done) | (simp; omega))) | (with_reducible apply Below.alloc; rotate_left; focus (first | omega | (simp; done) | (simp; omega))) | with_reducible apply Below.drew | with_reducible apply belowDrewN | (with_reducible apply Below.trans; rotate_left; with_reducible apply Below.mono; with_reducible assumption; focus (first | omega | (simp; done) | (simp; omega))))⟩
    case rest =>
    obtain ⟨z, rfl, hz, hB⟩ := hcut
    go_wp2
    go_ret
    exact ⟨rfl, hB⟩
end Go.Proofs.Ytgcobcmpkbcfoaa
namespace Go.Proofs.Ytgcobcmpkbcfoaa
open Go.RowKit
set_option linter.unusedVariables false
set_option linter.unusedSimpArgs false

/-- marked up to p, the first mark is s -/
abbrev mixS (s : Int) (p : Nat) (U : Nat → Int) : Nat → Int := fun q => if q < p then s + (q : Int) else U q
theorem OwnL.markS {w : World} {base t k n g c p : Nat} {s : Int} {U : Nat → Int} (h : OwnL w base t k (.slice (Option.some ⟨g, 0, none⟩) n c) n (mixS s p U)) (hp : p < n * k) {x : Int} (hx : x = s + (p : Int)) : OwnL (w.setCell ⟨g, p, none⟩ (.int .i64 x)) base t k (.slice (Option.some ⟨g, 0, none⟩) n c) n (mixS s (p + 1) U) :=
  (h.setq p hp x).congr fun q _ => by
    subst hx
    by_cases e : q = p
    · subst e; simp [mixS]
    · simp only [mixS, if_neg e]
      by_cases l : q < p
      · rw [if_pos l, if_pos (by omega)]
      · rw [if_neg l, if_neg (by omega)]
theorem markBody12s {sf : Int} {w wr : World} {base g n c j : Nat} {U : Nat → Int} (hlt : j < n) (ho : OwnL wr base 81 12 (.slice (some ⟨g, 0, none⟩) n c) n (mixS sf (j * 12) U)) (hg : w.grownBy wr (Value.slice (some ⟨g, 0, none⟩) n c).ownBlock) :
    OwnL ((((((((((((wr.setCell ⟨g, j * 12, none⟩ (.int .i64 (sf + (j : Int) * 12))).setCell ⟨g, j * 12 + 1, none⟩ (.int .i64 (sf + (j : Int) * 12 + 1))).setCell ⟨g, j * 12 + 2, none⟩ (.int .i64 (sf + (j : Int) * 12 + 1 + 1))).setCell ⟨g, j * 12 + 3, none⟩ (.int .i64 (sf + (j : Int) * 12 + 1 + 1 + 1))).setCell ⟨g, j * 12 + 4, none⟩ (.int .i64 (sf + (j : Int) * 12 + 1 + 1 + 1 + 1))).setCell ⟨g, j * 12 + 5, none⟩ (.int .i64 (sf + (j : Int) * 12 + 1 + 1 + 1 + 1 + 1))).setCell ⟨g, j * 12 + 6, none⟩ (.int .i64 (sf + (j : Int) * 12 + 1 + 1 + 1 + 1 + 1 + 1))).setCell ⟨g, j * 12 + 7, none⟩ (.int .i64 (sf + (j : Int) * 12 + 1 + 1 + 1 + 1 + 1 + 1 + 1))).setCell ⟨g, j * 12 + 8, none⟩ (.int .i64 (sf + (j : Int) * 12 + 1 + 1 + 1 + 1 + 1 + 1 + 1 + 1))).setCell ⟨g, j * 12 + 9, none⟩ (.int .i64 (sf + (j : Int) * 12 + 1 + 1 + 1 + 1 + 1 + 1 + 1 + 1 + 1))).setCell ⟨g, j * 12 + 10, none⟩ (.int .i64 (sf + (j : Int) * 12 + 1 + 1 + 1 + 1 + 1 + 1 + 1 + 1 + 1 + 1))).setCell ⟨g, j * 12 + 11, none⟩ (.int .i64 (sf + (j : Int) * 12 + 1 + 1 + 1 + 1 + 1 + 1 + 1 + 1 + 1 + 1 + 1))) base 81 12 (.slice (some ⟨g, 0, none⟩) n c) n (mixS sf ((j + 1) * 12) U) ∧
    w.grownBy ((((((((((((wr.setCell ⟨g, j * 12, none⟩ (.int .i64 (sf + (j : Int) * 12))).setCell ⟨g, j * 12 + 1, none⟩ (.int .i64 (sf + (j : Int) * 12 + 1))).setCell ⟨g, j * 12 + 2, none⟩ (.int .i64 (sf + (j : Int) * 12 + 1 + 1))).setCell ⟨g, j * 12 + 3, none⟩ (.int .i64 (sf + (j : Int) * 12 + 1 + 1 + 1))).setCell ⟨g, j * 12 + 4, none⟩ (.int .i64 (sf + (j : Int) * 12 + 1 + 1 + 1 + 1))).setCell ⟨g, j * 12 + 5, none⟩ (.int .i64 (sf + (j : Int) * 12 + 1 + 1 + 1 + 1 + 1))).setCell ⟨g, j * 12 + 6, none⟩ (.int .i64 (sf + (j : Int) * 12 + 1 + 1 + 1 + 1 + 1 + 1))).setCell ⟨g, j * 12 + 7, none⟩ (.int .i64 (sf + (j : Int) * 12 + 1 + 1 + 1 + 1 + 1 + 1 + 1))).setCell ⟨g, j * 12 + 8, none⟩ (.int .i64 (sf + (j : Int) * 12 + 1 + 1 + 1 + 1 + 1 + 1 + 1 + 1))).setCell ⟨g, j * 12 + 9, none⟩ (.int .i64 (sf + (j : Int) * 12 + 1 + 1 + 1 + 1 + 1 + 1 + 1 + 1 + 1))).setCell ⟨g, j * 12 + 10, none⟩ (.int .i64 (sf + (j : Int) * 12 + 1 + 1 + 1 + 1 + 1 + 1 + 1 + 1 + 1 + 1))).setCell ⟨g, j * 12 + 11, none⟩ (.int .i64 (sf + (j : Int) * 12 + 1 + 1 + 1 + 1 + 1 + 1 + 1 + 1 + 1 + 1 + 1))) (Value.slice (some ⟨g, 0, none⟩) n c).ownBlock := by
  have q1 := ho.markS (by omega) (x := sf + (j : Int) * 12) (by omega)
  have q2 := q1.markS (by omega) (x := sf + (j : Int) * 12 + 1) (by omega)
  have q3 := q2.markS (by omega) (x := sf + (j : Int) * 12 + 1 + 1) (by omega)
  have q4 := q3.markS (by omega) (x := sf + (j : Int) * 12 + 1 + 1 + 1) (by omega)
  have q5 := q4.markS (by omega) (x := sf + (j : Int) * 12 + 1 + 1 + 1 + 1) (by omega)
  have q6 := q5.markS (by omega) (x := sf + (j : Int) * 12 + 1 + 1 + 1 + 1 + 1) (by omega)
  have q7 := q6.markS (by omega) (x := sf + (j : Int) * 12 + 1 + 1 + 1 + 1 + 1 + 1) (by omega)
  have q8 := q7.markS (by omega) (x := sf + (j : Int) * 12 + 1 + 1 + 1 + 1 + 1 + 1 + 1) (by omega)
  have q9 := q8.markS (by omega) (x := sf + (j : Int) * 12 + 1 + 1 + 1 + 1 + 1 + 1 + 1 + 1) (by omega)
  have q10 := q9.markS (by omega) (x := sf + (j : Int) * 12 + 1 + 1 + 1 + 1 + 1 + 1 + 1 + 1 + 1) (by omega)
  have q11 := q10.markS (by omega) (x := sf + (j : Int) * 12 + 1 + 1 + 1 + 1 + 1 + 1 + 1 + 1 + 1 + 1) (by omega)
  have q12 := q11.markS (by omega) (x := sf + (j : Int) * 12 + 1 + 1 + 1 + 1 + 1 + 1 + 1 + 1 + 1 + 1 + 1) (by omega)
  refine ⟨?_, ?_⟩
  · exact q12.congr fun q _ => by rw [show j * 12 + 1 + 1 + 1 + 1 + 1 + 1 + 1 + 1 + 1 + 1 + 1 + 1 = ((j + 1) * 12) from by omega]
  · have h0 : w.grownBy wr (some g) := hg
    exact (grown_trans (grown_trans (grown_trans (grown_trans (grown_trans (grown_trans (grown_trans (grown_trans (grown_trans (grown_trans (grown_trans (grown_trans h0 (grown_setG _ _ _ _)) (grown_setG _ _ _ _)) (grown_setG _ _ _ _)) (grown_setG _ _ _ _)) (grown_setG _ _ _ _)) (grown_setG _ _ _ _)) (grown_setG _ _ _ _)) (grown_setG _ _ _ _)) (grown_setG _ _ _ _)) (grown_setG _ _ _ _)) (grown_setG _ _ _ _)) (grown_setG _ _ _ _))
set_option maxRecDepth 20000 in
set_option maxHeartbeats 2000000 in
theorem markBodyS_from (sf : Int) (hs0 : 0 ≤ sf) (hs1 : sf ≤ 1099511627776) (base : Nat) (a : Option Addr) (n c : Nat) (U : Nat → Int) (w : World) (h : OwnL w base 81 12 (.slice a n c) n U) (hn : n ≤ 2097152) :
    Calls Try.prog 43 #[.slice a n c, .int .i64 sf] w fun e w' => e = .returned (.int .i64 (sf + (n : Int) * 12)) ∧ OwnL w' base 81 12 (.slice a n c) n (fun q => sf + (q : Int)) ∧ w.grownBy w' (Value.slice a n c).ownBlock := by
  have hset := cset_map
  go_enter Try.func43, Try.ntmps43
  go_wp2
  go_loopw [1, 5] (fun s i wr => ∃ j : Nat, j ≤ n ∧ i = .int .i64 (j : Int) ∧ s = .int .i64 (sf + (j : Int) * 12) ∧ OwnL wr base 81 12 (.slice a n c) n (mixS sf (j * 12) U) ∧ w.grownBy wr (Value.slice a n c).ownBlock) (fun _ i _ => n - (intOf i).toNat)
  case atStart => exact ⟨0, Nat.zero_le _, rfl, congrArg (Value.int .i64) (by omega), h.congr (fun q _ => by simp [mixS]), grown_refl _ _⟩
  case round =>
    obtain ⟨j, hj, rfl, rfl, ho, hg⟩ := hrel
    by_cases hlt : j < n
    · have hjn : (j : Int) < (n : Int) := by omega
      obtain ⟨g, rfl, hgb, hgl⟩ := ho.loc (by omega)
      have c0 := ho.cellq (q := j * 12) (by omega)
      have c1 := ho.cellq (q := j * 12 + 1) (by omega)
      have c2 := ho.cellq (q := j * 12 + 2) (by omega)
      have c3 := ho.cellq (q := j * 12 + 3) (by omega)
      have c4 := ho.cellq (q := j * 12 + 4) (by omega)
      have c5 := ho.cellq (q := j * 12 + 5) (by omega)
      have c6 := ho.cellq (q := j * 12 + 6) (by omega)
      have c7 := ho.cellq (q := j * 12 + 7) (by omega)
      have c8 := ho.cellq (q := j * 12 + 8) (by omega)
      have c9 := ho.cellq (q := j * 12 + 9) (by omega)
      have c10 := ho.cellq (q := j * 12 + 10) (by omega)
      have c11 := ho.cellq (q := j * 12 + 11) (by omega)
      have f0 := ho.fro
      go_wp2
      go_roundw
      case rel =>
        obtain ⟨r1, r2⟩ := markBody12s hlt ho hg
        exact ⟨j + 1, by omega, by go_num, congrArg (Value.int .i64) (by omega), r1, r2⟩
      case measure => simp [intOf]; omega
    · obtain rfl : j = n := by omega
      go_wp2
      go_ret
      exact ⟨rfl, ho.congr (fun q hq => by simp only [mixS]; rw [if_pos (by omega)]), hg⟩
theorem markPair2s {sf : Int} {w wr : World} {base g n c j : Nat} {U : Nat → Int} (hlt : j < n) (ho : OwnL wr base 65 2 (.slice (some ⟨g, 0, none⟩) n c) n (mixS sf (j * 2) U)) (hg : w.grownBy wr (Value.slice (some ⟨g, 0, none⟩) n c).ownBlock) :
    OwnL ((wr.setCell ⟨g, j * 2, none⟩ (.int .i64 (sf + (j : Int) * 2))).setCell ⟨g, j * 2 + 1, none⟩ (.int .i64 (sf + (j : Int) * 2 + 1))) base 65 2 (.slice (some ⟨g, 0, none⟩) n c) n (mixS sf ((j + 1) * 2) U) ∧
    w.grownBy ((wr.setCell ⟨g, j * 2, none⟩ (.int .i64 (sf + (j : Int) * 2))).setCell ⟨g, j * 2 + 1, none⟩ (.int .i64 (sf + (j : Int) * 2 + 1))) (Value.slice (some ⟨g, 0, none⟩) n c).ownBlock := by
  have q1 := ho.markS (by omega) (x := sf + (j : Int) * 2) (by omega)
  have q2 := q1.markS (by omega) (x := sf + (j : Int) * 2 + 1) (by omega)
  refine ⟨?_, ?_⟩
  · exact q2.congr fun q _ => by rw [show j * 2 + 1 + 1 = ((j + 1) * 2) from by omega]
  · have h0 : w.grownBy wr (some g) := hg
    exact (grown_trans (grown_trans h0 (grown_setG _ _ _ _)) (grown_setG _ _ _ _))
set_option maxRecDepth 20000 in
set_option maxHeartbeats 2000000 in
theorem markPairS_from (sf : Int) (hs0 : 0 ≤ sf) (hs1 : sf ≤ 1099511627776) (base : Nat) (a : Option Addr) (n c : Nat) (U : Nat → Int) (w : World) (h : OwnL w base 65 2 (.slice a n c) n U) (hn : n ≤ 2097152) :
    Calls Try.prog 44 #[.slice a n c, .int .i64 sf] w fun e w' => e = .returned (.int .i64 (sf + (n : Int) * 2)) ∧ OwnL w' base 65 2 (.slice a n c) n (fun q => sf + (q : Int)) ∧ w.grownBy w' (Value.slice a n c).ownBlock := by
  have hset := cset_map
  go_enter Try.func44, Try.ntmps44
  go_wp2
  go_loopw [1, 5] (fun s i wr => ∃ j : Nat, j ≤ n ∧ i = .int .i64 (j : Int) ∧ s = .int .i64 (sf + (j : Int) * 2) ∧ OwnL wr base 65 2 (.slice a n c) n (mixS sf (j * 2) U) ∧ w.grownBy wr (Value.slice a n c).ownBlock) (fun _ i _ => n - (intOf i).toNat)
  case atStart => exact ⟨0, Nat.zero_le _, rfl, congrArg (Value.int .i64) (by omega), h.congr (fun q _ => by simp [mixS]), grown_refl _ _⟩
  case round =>
    obtain ⟨j, hj, rfl, rfl, ho, hg⟩ := hrel
    by_cases hlt : j < n
    · have hjn : (j : Int) < (n : Int) := by omega
      obtain ⟨g, rfl, hgb, hgl⟩ := ho.loc (by omega)
      have c0 := ho.cellq (q := j * 2) (by omega)
      have c1 := ho.cellq (q := j * 2 + 1) (by omega)
      have f0 := ho.fro
      go_wp2
      go_roundw
      case rel =>
        obtain ⟨r1, r2⟩ := markPair2s hlt ho hg
        exact ⟨j + 1, by omega, by go_num, congrArg (Value.int .i64) (by omega), r1, r2⟩
      case measure => simp [intOf]; omega
    · obtain rfl : j = n := by omega
      go_wp2
      go_ret
      exact ⟨rfl, ho.congr (fun q hq => by simp only [mixS]; rw [if_pos (by omega)]), hg⟩

set_option maxRecDepth 20000 in
set_option maxHeartbeats 2000000 in
theorem markWorld_any (T P : Int) (b n : Nat) (U : Nat → Int) (d m : Nat) (Q : Nat → Int) (w : World) (hr : Row w b 81 (n * 12) U) (hq : Row w d 65 (m * 2) Q) (hn : n ≤ 1048576) (hm : m ≤ 1048576) (hne : b ≠ d) :
    Calls Try.prog 16 #[worldW T P (some ⟨b, 0, none⟩) n n (some ⟨d, 0, none⟩) m m, .int .i64 1] w fun e w' => e = .returned (.int .i64 (1 + (n : Int) * 12 + (m : Int) * 2)) ∧ Fr (fun x => x = b ∨ x = d) w w' := by
  have hset := cset_map
  have o1 := hr.own (base := 0) (Nat.zero_le _) (by unfold maxLen; omega)
  have o2 := hq.own (base := 0) (Nat.zero_le _) (by unfold maxLen; omega)
  have hE : Below w.heap.size w (w.alloc (Obj.cells #[.int .i64 T, .int .i64 P, .slice (some ⟨b, 0, none⟩) n n, .slice (some ⟨d, 0, none⟩) m m] 31)) := (Below.refl _ _).alloc (Nat.le_refl _) _
  have hbl := hr.lt
  have hdl := hq.lt
  go_enter Try.func16, Try.ntmps16
  go_wp2_with (first
    | (go_at_call 43; refine (markBodyS_from 1 (by omega) (by omega) 0 _ n _ U _ (o1.below hE) (by omega)).mono ?_; rintro e w1 ⟨rfl, ho1, hg1⟩; have hF1 := Fr.grown (X := fun x => x = b ∨ x = d) hg1 (fun x hx => by simp [Value.ownBlock] at hx; exact .inl hx.symm) (o1.below hE).isCells; have k3 : w1.cell? ⟨w.heap.size, 3, none⟩ = some (.slice (some ⟨d, 0, none⟩) m m) := (hF1.cell (p := ⟨w.heap.size, 3, none⟩) (by simp) (by simp; omega)).trans (by go_simp); have k2 : w1.cell? ⟨w.heap.size, 2, none⟩ = some (.slice (some ⟨b, 0, none⟩) n n) := (hF1.cell (p := ⟨w.heap.size, 2, none⟩) (by simp) (by simp; omega)).trans (by go_simp))
    | (go_at_call 44; refine (markPairS_from _ (by omega) (by omega) 0 _ m _ Q _ ((o2.below hE).kept hg1 (.inr (by simp [Value.ownBlock]; omega))) (by omega)).mono ?_; rintro e w2 ⟨rfl, ho2, hg2⟩))
  go_ret
  exact ⟨rfl, ((Fr.of_below hE).trans hF1).trans (Fr.grown hg2 (fun x hx => by simp [Value.ownBlock] at hx; exact .inr hx.symm) ((o2.below hE).kept hg1 (.inr (by simp [Value.ownBlock]; omega))).isCells)⟩
theorem markInt1 {w wr : World} {base g n c j : Nat} {U : Nat → Int} (hlt : j < n) (ho : OwnL wr base 3 1 (.slice (some ⟨g, 0, none⟩) n c) n (mixU (j) U)) (hg : w.grownBy wr (Value.slice (some ⟨g, 0, none⟩) n c).ownBlock) :
    OwnL (wr.setCell ⟨g, j, none⟩ (.int .i64 (1 + (j : Int)))) base 3 1 (.slice (some ⟨g, 0, none⟩) n c) n (mixU (j + 1) U) ∧
    w.grownBy (wr.setCell ⟨g, j, none⟩ (.int .i64 (1 + (j : Int)))) (Value.slice (some ⟨g, 0, none⟩) n c).ownBlock := by
  have q1 := ho.mark (by omega) (x := 1 + (j : Int)) (by omega)
  refine ⟨?_, ?_⟩
  · exact q1.congr fun q _ => by rw [show j + 1 = (j + 1) from by omega]
  · have h0 : w.grownBy wr (some g) := hg
    exact (grown_trans h0 (grown_setG _ _ _ _))
set_option maxRecDepth 20000 in
set_option maxHeartbeats 2000000 in
theorem markIntS_any (base : Nat) (a : Option Addr) (n c : Nat) (U : Nat → Int) (w : World) (h : OwnL w base 3 1 (.slice a n c) n U) (hn : n ≤ 2097152) :
    Calls Try.prog 17 #[.slice a n c, .int .i64 1] w fun e w' => e = .returned (.int .i64 (1 + (n : Int))) ∧ OwnL w' base 3 1 (.slice a n c) n (fun q => 1 + (q : Int)) ∧ w.grownBy w' (Value.slice a n c).ownBlock := by
  have hset := cset_map
  go_enter Try.func17, Try.ntmps17
  go_wp2
  go_loopw [1, 5] (fun s i wr => ∃ j : Nat, j ≤ n ∧ i = .int .i64 (j : Int) ∧ s = .int .i64 (1 + (j : Int)) ∧ OwnL wr base 3 1 (.slice a n c) n (mixU (j) U) ∧ w.grownBy wr (Value.slice a n c).ownBlock) (fun _ i _ => n - (intOf i).toNat)
  case atStart => exact ⟨0, Nat.zero_le _, rfl, rfl, h.congr (fun q _ => by simp [mixU]), grown_refl _ _⟩
  case round =>
    obtain ⟨j, hj, rfl, rfl, ho, hg⟩ := hrel
    by_cases hlt : j < n
    · have hjn : (j : Int) < (n : Int) := by omega
      obtain ⟨g, rfl, hgb, hgl⟩ := ho.loc (by omega)
      have c0 := ho.cellq (q := j) (by omega)
      have f0 := ho.fro
      go_wp2
      go_roundw
      case rel =>
        obtain ⟨r1, r2⟩ := markInt1 hlt ho hg
        exact ⟨j + 1, by omega, by go_num, congrArg (Value.int .i64) (by omega), r1, r2⟩
      case measure => simp [intOf]; omega
    · obtain rfl : j = n := by omega
      go_wp2
      go_ret
      exact ⟨rfl, ho.congr (fun q hq => by simp only [mixU]; rw [if_pos (by omega)]), hg⟩
set_option maxRecDepth 20000 in
set_option maxHeartbeats 2000000 in
theorem heldIntS_any (a : Option Addr) (n c : Nat) (w : World) (h : Flat w a (n * 1) (fun q => 1 + (q : Int))) (hn : n ≤ 2097152) :
    Calls Try.prog 18 #[.slice a n c, .int .i64 1] w fun e w' => e = .returned (.int .i64 (1 + (n : Int))) ∧ w' = w := by
  go_enter Try.func18, Try.ntmps18
  go_wp2
  go_loop [1, 5] (fun s i => ∃ j : Nat, j ≤ n ∧ i = .int .i64 (j : Int) ∧ s = .int .i64 (1 + (j : Int))) (fun _ i => n - (intOf i).toNat)
  case atStart => exact ⟨0, Nat.zero_le _, rfl, rfl⟩
  case round =>
    obtain ⟨j, hj, rfl, rfl⟩ := hrel
    by_cases hlt : j < n
    · have hjn : (j : Int) < (n : Int) := by omega
      obtain ⟨b, o, rfl, hbl, hc⟩ := h (by omega)
      have c0 : w.cell? ⟨b, o + j, none⟩ = some (.int .i64 (1 + (j : Int))) := (hc (j) (by omega)).trans (congrArg (fun z => some (Value.int .i64 z)) (show (1 : Int) + ((j : Nat) : Int) = 1 + (j : Int) by omega))
      clear hc h
      go_wp2
      go_round
      case rel => exact ⟨j + 1, by omega, by go_num, congrArg (Value.int .i64) (by omega)⟩
      case measure => simp [intOf]; omega
    · obtain rfl : j = n := by omega
      go_wp2
      go_ret
      exact ⟨rfl, rfl⟩
set_option maxRecDepth 20000 in
set_option maxHeartbeats 2000000 in
theorem eqIntS_same (a a' : Option Addr) (n c c' : Nat) (U : Nat → Int) (w : World) (h : Flat w a (n * 1) U) (h' : Flat w a' (n * 1) U) (hn : n ≤ 1048576) :
    Calls Try.prog 15 #[.slice a n c, .slice a' n c'] w fun e w' => e = .returned (.bool true) ∧ Below w.heap.size w w' := by
  have hset := cset_map
  go_enter Try.func15, Try.ntmps15
  go_wp2
  go_loopw [5] (fun i wr => ∃ k : Nat, k ≤ n ∧ i = .int .i64 (k : Int) ∧ Below w.heap.size w wr) (fun i _ => n - (intOf i).toNat)
  case atStart => exact ⟨0, Nat.zero_le _, rfl, Below.refl _ _⟩
  case round =>
    obtain ⟨k, hk, rfl, hB⟩ := hrel
    by_cases hlt : k < n
    · have hkn : (k : Int) < (n : Int) := by omega
      obtain ⟨b, o, rfl, hbl, hc⟩ := (h.below hB) (by omega)
      obtain ⟨b', o', rfl, hbl', hc'⟩ := (h'.below hB) (by omega)
      have c0 := hc (k) (by omega)
      have d0 := hc' (k) (by omega)
      (try simp only [← Nat.add_assoc, Nat.add_zero] at c0 d0)
      clear hc hc' h h'
      go_upto_region 6 with fail
      refine wp_region_held_drew (S := fun w' => w'.cell? ⟨b, o + k, none⟩ = some (.int .i64 (U (k))) ∧ w'.cell? ⟨b', o' + k, none⟩ = some (.int .i64 (U (k)))) (by kernel_rfl) ?_ (fun hHeld => ?_)
      · (try dsimp only)
        (first | (go_simp; done) | (go_keep; done))
      refine tq 0 hHeld ?_
      refine tq 1 hHeld ?_
      refine tq 2 hHeld ?_
      refine tq 3 hHeld ?_
      refine tq 4 hHeld ?_
      refine tq 5 hHeld ?_
      refine tq 6 hHeld ?_
      refine tq 7 hHeld ?_
      refine tq 8 hHeld ?_
      refine wpAnyH_done (by kernel_rfl) ?_ _
      go_wp2_with fail
      go_roundw
      case rel => exact ⟨k + 1, by omega, by go_num, hB.drew⟩
      case measure => simp [intOf]; omega
    · go_wp2
      go_ret
      exact ⟨rfl, hB⟩
theorem Lv.fr {X : Nat → Prop} {w w' : World} {lo hi t k : Nat} {a : Option Addr} {n c : Nat} {U : Nat → Int} (h : Lv w lo hi t k a n c U) (hs : Fr X w w') (hX : ∀ b, X b → b < lo ∨ hi ≤ b) : Lv w' lo hi t k a n c U :=
  ⟨h.own.frame hs (fun b e x => by have := (h.own.lt b e).1; have := h.top b e; rcases hX b x with q | q <;> omega), h.top, Nat.le_trans h.le hs.size⟩
end Go.Proofs.Ytgcobcmpkbcfoaa
namespace Go.Proofs.Ytgcobcmpkbcfoaa
open Go.RowKit
set_option linter.unusedVariables false
set_option linter.unusedSimpArgs false
/-- a list that a function makes, in its own memory -/
structure LsV (w wr : World) (t k : Nat) (a : Option Addr) (m c : Nat) (l : List Int) : Prop where
  bel : Below w.heap.size w wr
  len : l.length = m * k
  own : OwnL wr w.heap.size t k (.slice a m c) m (ofL l)
theorem LsV.below {w wr w' : World} {t k m c : Nat} {a : Option Addr} {l : List Int} (h : LsV w wr t k a m c l) (hb : Below wr.heap.size wr w') : LsV w w' t k a m c l := ⟨h.bel.trans (hb.mono h.bel.size), h.len, h.own.below hb⟩
theorem LsV.push {w wr w1 : World} {t k m c c' : Nat} {a a' : Option Addr} {l x : List Int} (h : LsV w wr t k a m c l) (hx : x.length = k) (hg : wr.grownBy w1 (Value.slice a m c).ownBlock) (ho : OwnL w1 w.heap.size t k (.slice a' (m + 1) c') (m + 1) (cat (m * k) (ofL l) (ofL x))) : LsV w w1 t k a' (m + 1) c' (l ++ x) :=
  ⟨h.bel.grown hg h.bel.size (fun b e => (h.own.lt b e).1), by rw [List.length_append, h.len, hx, Nat.succ_mul], by rw [← cat_ofL, h.len]; exact ho⟩
theorem LsV.new (w : World) (t k : Nat) : LsV w (w.alloc (.cells #[] t)) t k (some ⟨w.heap.size, 0, none⟩) 0 0 [] :=
  ⟨(Below.refl _ _).alloc (Nat.le_refl _) _, by simp, ⟨by simp [numL], .inr ⟨w.heap.size, 0, #[], rfl, Nat.le_refl _, Go.Deep.blk_alloc_new _ _, Nat.le_refl _, Nat.zero_le _, by simp, by simp [numL]⟩⟩⟩
theorem LsV.newAt (w : World) (t k s : Nat) (e : w.heap.size = s) : LsV w (w.alloc (.cells #[] t)) t k (some ⟨s, 0, none⟩) 0 0 [] := by subst e; exact LsV.new w t k
theorem LsV.nil (w : World) (t k : Nat) : LsV w w t k none 0 0 [] := ⟨Below.refl _ _, by simp, OwnL.nil _ _ _ _ _⟩
theorem LsV.out {w0 w wr : World} {t k m c : Nat} {a : Option Addr} {l : List Int} (h : LsV w wr t k a m c l) (hb : Below w0.heap.size w0 w) : OutL w0 wr t k a m c (ofL l) := ⟨hb.trans (h.bel.mono hb.size), h.own.base hb.size⟩
theorem flat1 (w : World) (p : Int) (t : TypeId) : Flat (w.alloc (Obj.cells #[.int .i64 p] t)) (some ⟨w.heap.size, 0, none⟩) (1 * 1) (ofL [p]) := by
  intro _
  refine ⟨w.heap.size, 0, rfl, by simp, fun j hj => ?_⟩
  rw [Nat.zero_add]
  obtain rfl : j = 0 := by omega
  simp only [ofL]; go_simp; (try rfl)
end Go.Proofs.Ytgcobcmpkbcfoaa
namespace Go.Proofs.Ytgcobcmpkbcfoaa
open Go.RowKit
set_option linter.unusedVariables false
set_option linter.unusedSimpArgs false

/-- whether a shape at a place has a point -/
def hasV (k g h x y u v : Int) : Bool := if k = 2 then ptB (x - g) (y - h) (x + g) (y + h) u v else decide ((u - x) * (u - x) + (v - y) * (v - y) ≤ g * g)
def shV (k g h x y u v : Int) : Bool := shB k g h && (inB 2560000 x y && (inB 2560000 u v && hasV k g h x y u v))
theorem hasV_b (g h x y u v : Int) : decide ((-g ≤ u - x ∧ u - x ≤ g) ∧ (-h ≤ v - y ∧ v - y ≤ h)) = hasV 2 g h x y u v := by
  unfold hasV ptB; rw [if_pos rfl]; rw [Bool.eq_iff_iff]; simp only [decide_eq_true_eq]; omega
theorem hasV_r (g x y u v : Int) : decide ((u - x) * (u - x) + (v - y) * (v - y) ≤ g * g) = hasV 1 g 0 x y u v := rfl

set_option maxHeartbeats 2000000 in
theorem shHas_n (k g h x y u v : Int) (w : World) (hs : shB k g h = false) :
    Calls Try.prog 42 #[s3 k g h, vv x y, vv u v] w fun e w' => e = .returned (.bool false) ∧ Below w.heap.size w w' := by
  have hset := cset_map
  go_enter Try.func42, Try.ntmps42
  go_wp2_with (first
    | (go_at_call 64; refine (figureOf_none _ _ _ _ (by assumption)).mono ?_; rintro e w1 ⟨rfl, hb1⟩; obtain ⟨hc1, hf1⟩ := bcell hb1; have hl1 := blt hb1; have hz1 := hb1.size; (try simp only [World.size_drew, World.size_alloc, World.size_setCell] at hc1 hf1 hl1 hz1); (try have hq1x0 : w.heap.size < w1.heap.size := (by omega)); (try have hq1x1 : w.heap.size + 1 < w1.heap.size := (by omega)); (try have hq1x2 : w.heap.size + 1 + 1 < w1.heap.size := (by omega))))
  all_goals
    go_ret
    exact ⟨ret_bool (by simp [*]), by repeat (first | with_reducible apply Below.refl | (with_reducible apply Below.setCell; rotate_left; focus (first | omega | (simp; done) | (simp; omega))) | (with_reducible apply Below.alloc; rotate_left; focus (first | omega | (simp; done) | (simp; omega))) | with_reducible apply Below.drew | with_reducible apply belowDrewN | (with_reducible apply Below.trans; rotate_left; with_reducible apply Below.mono; with_reducible assumption; focus (first | omega | (simp; done) | (simp; omega))))⟩

set_option maxHeartbeats 2000000 in
theorem shHas_r1 (g x y u v : Int) (w : World) (h1 : 1 ≤ g) (h2 : g ≤ 25600) (h0 : inB 2560000 x y = false) :
    Calls Try.prog 42 #[s3 1 g 0, vv x y, vv u v] w fun e w' => e = .returned (.bool false) ∧ Below w.heap.size w w' := by
  have hset := cset_map
  go_enter Try.func42, Try.ntmps42
  go_wp2_with (first
    | (go_at_call 64; refine (figureOf_round _ _ (by assumption) (by assumption)).mono ?_; rintro e w1 ⟨rfl, hb1⟩; obtain ⟨hc1, hf1⟩ := bcell hb1; have hl1 := blt hb1; have hz1 := hb1.size; (try simp only [World.size_drew, World.size_alloc, World.size_setCell] at hc1 hf1 hl1 hz1); (try have hq1x0 : w.heap.size < w1.heap.size := (by omega)); (try have hq1x1 : w.heap.size + 1 < w1.heap.size := (by omega)); (try have hq1x2 : w.heap.size + 1 + 1 < w1.heap.size := (by omega)))
    | (go_at_call 65; refine (isPlace_n _ _ _ (by assumption)).mono ?_; rintro e w2 ⟨rfl, hb2⟩; obtain ⟨hc2, hf2⟩ := bcell hb2; have hl2 := blt hb2; have hz2 := hb2.size; (try simp only [World.size_drew, World.size_alloc, World.size_setCell] at hc2 hf2 hl2 hz2); (try have hq2x0 : w.heap.size < w2.heap.size := (by omega)); (try have hq2x1 : w.heap.size + 1 < w2.heap.size := (by omega)); (try have hq2x2 : w.heap.size + 1 + 1 < w2.heap.size := (by omega)); (try have hq2x3 : w.heap.size + 1 + 1 + 1 < w2.heap.size := (by omega))))
  all_goals
    go_ret
    exact ⟨ret_bool (by simp [*]), by repeat (first | with_reducible apply Below.refl | (with_reducible apply Below.setCell; rotate_left; focus (first | omega | (simp; done) | (simp; omega))) | (with_reducible apply Below.alloc; rotate_left; focus (first | omega | (simp; done) | (simp; omega))) | with_reducible apply Below.drew | with_reducible apply belowDrewN | (with_reducible apply Below.trans; rotate_left; with_reducible apply Below.mono; with_reducible assumption; focus (first | omega | (simp; done) | (simp; omega))))⟩

set_option maxHeartbeats 2000000 in
theorem shHas_r2 (g x y u v : Int) (w : World) (h1 : 1 ≤ g) (h2 : g ≤ 25600) (h0 : inB 2560000 x y = true) (h9 : inB 2560000 u v = false) :
    Calls Try.prog 42 #[s3 1 g 0, vv x y, vv u v] w fun e w' => e = .returned (.bool false) ∧ Below w.heap.size w w' := by
  have hset := cset_map
  go_enter Try.func42, Try.ntmps42
  go_wp2_with (first
    | (go_at_call 64; refine (figureOf_round _ _ (by assumption) (by assumption)).mono ?_; rintro e w1 ⟨rfl, hb1⟩; obtain ⟨hc1, hf1⟩ := bcell hb1; have hl1 := blt hb1; have hz1 := hb1.size; (try simp only [World.size_drew, World.size_alloc, World.size_setCell] at hc1 hf1 hl1 hz1); (try have hq1x0 : w.heap.size < w1.heap.size := (by omega)); (try have hq1x1 : w.heap.size + 1 < w1.heap.size := (by omega)); (try have hq1x2 : w.heap.size + 1 + 1 < w1.heap.size := (by omega)))
    | (go_at_call 65; refine (isPlace_t _ _ _ (by assumption)).mono ?_; rintro e w2 ⟨rfl, hb2⟩; obtain ⟨hc2, hf2⟩ := bcell hb2; have hl2 := blt hb2; have hz2 := hb2.size; (try simp only [World.size_drew, World.size_alloc, World.size_setCell] at hc2 hf2 hl2 hz2); (try have hq2x0 : w.heap.size < w2.heap.size := (by omega)); (try have hq2x1 : w.heap.size + 1 < w2.heap.size := (by omega)); (try have hq2x2 : w.heap.size + 1 + 1 < w2.heap.size := (by omega)); (try have hq2x3 : w.heap.size + 1 + 1 + 1 < w2.heap.size := (by omega)))
    | (go_at_call 65; refine (isPlace_n _ _ _ (by assumption)).mono ?_; rintro e w2 ⟨rfl, hb2⟩; obtain ⟨hc2, hf2⟩ := bcell hb2; have hl2 := blt hb2; have hz2 := hb2.size; (try simp only [World.size_drew, World.size_alloc, World.size_setCell] at hc2 hf2 hl2 hz2); (try have hq2x0 : w.heap.size < w2.heap.size := (by omega)); (try have hq2x1 : w.heap.size + 1 < w2.heap.size := (by omega)); (try have hq2x2 : w.heap.size + 1 + 1 < w2.heap.size := (by omega)); (try have hq2x3 : w.heap.size + 1 + 1 + 1 < w2.heap.size := (by omega))))
  all_goals
    go_ret
    exact ⟨ret_bool (by simp [*]), by repeat (first | with_reducible apply Below.refl | (with_reducible apply Below.setCell; rotate_left; focus (first | omega | (simp; done) | (simp; omega))) | (with_reducible apply Below.alloc; rotate_left; focus (first | omega | (simp; done) | (simp; omega))) | with_reducible apply Below.drew | with_reducible apply belowDrewN | (with_reducible apply Below.trans; rotate_left; with_reducible apply Below.mono; with_reducible assumption; focus (first | omega | (simp; done) | (simp; omega))))⟩

set_option maxRecDepth 20000 in
set_option maxHeartbeats 4000000 in
theorem shHas_rt (g x y u v : Int) (w : World) (h1 : 1 ≤ g) (h2 : g ≤ 25600) (h0 : inB 2560000 x y = true) (h9 : inB 2560000 u v = true) :
    Calls Try.prog 42 #[s3 1 g 0, vv x y, vv u v] w fun e w' => e = .returned (.bool (hasV 1 g 0 x y u v)) ∧ Below w.heap.size w w' := by
  rw [← hasV_r]
  have hp := inB_of h0
  have hp9 := inB_of h9
  have hset := cset_map
  go_enter Try.func42, Try.ntmps42
  go_wp2_with (first
    | (go_at_call 64; refine (figureOf_round _ _ (by assumption) (by assumption)).mono ?_; rintro e w1 ⟨rfl, hb1⟩; obtain ⟨hc1, hf1⟩ := bcell hb1; have hl1 := blt hb1; have hz1 := hb1.size; (try simp only [World.size_drew, World.size_alloc, World.size_setCell] at hc1 hf1 hl1 hz1); (try have hq1x0 : w.heap.size < w1.heap.size := (by omega)); (try have hq1x1 : w.heap.size + 1 < w1.heap.size := (by omega)); (try have hq1x2 : w.heap.size + 1 + 1 < w1.heap.size := (by omega)))
    | (go_at_call 65; refine (isPlace_t _ _ _ (by assumption)).mono ?_; rintro e w2 ⟨rfl, hb2⟩; obtain ⟨hc2, hf2⟩ := bcell hb2; have hl2 := blt hb2; have hz2 := hb2.size; (try simp only [World.size_drew, World.size_alloc, World.size_setCell] at hc2 hf2 hl2 hz2); (try have hq2x0 : w.heap.size < w2.heap.size := (by omega)); (try have hq2x1 : w.heap.size + 1 < w2.heap.size := (by omega)); (try have hq2x2 : w.heap.size + 1 + 1 < w2.heap.size := (by omega)); (try have hq2x3 : w.heap.size + 1 + 1 + 1 < w2.heap.size := (by omega))))
  go_region_held3 (fun w' => w'.cell? ⟨w.heap.size + 1, 0, none⟩ = some (.int .i64 x) ∧ w'.cell? ⟨w.heap.size + 1, 1, none⟩ = some (.int .i64 y) ∧ w'.cell? ⟨w.heap.size + 1 + 1, 0, none⟩ = some (.int .i64 u) ∧ w'.cell? ⟨w.heap.size + 1 + 1, 1, none⟩ = some (.int .i64 v)) (first | (go_simp; done) | (go_keep; done)) (first
    | (go_at_call 67; refine (wayOf_any _ _ _).mono ?_; rintro e w3 ⟨rfl, hb3⟩; obtain ⟨hc3, hf3⟩ := bcell hb3; have hl3 := blt hb3; have hz3 := hb3.size; (try simp only [World.size_drew, World.size_alloc, World.size_setCell] at hc3 hf3 hl3 hz3); (try have hq3x0 : w.heap.size < w3.heap.size := (by omega)); (try have hq3x1 : w.heap.size + 1 < w3.heap.size := (by omega)); (try have hq3x2 : w.heap.size + 1 + 1 < w3.heap.size := (by omega)); (try have hq3x3 : w.heap.size + 1 + 1 + 1 < w3.heap.size := (by omega)))
    | (go_at_call 68; refine (less_any _ _ _ _ _ (by omega) (by omega) (by omega) (by omega)).mono ?_; rintro e w5 ⟨rfl, hb5⟩; obtain ⟨hc5, hf5⟩ := bcell hb5; have hl5 := blt hb5; have hz5 := hb5.size; (try simp only [World.size_drew, World.size_alloc, World.size_setCell] at hc5 hf5 hl5 hz5); (try have hq5x0 : w.heap.size < w5.heap.size := (by omega)); (try have hq5x1 : w.heap.size + 1 < w5.heap.size := (by omega)); (try have hq5x2 : w.heap.size + 1 + 1 < w5.heap.size := (by omega)); (try have hq5x3 : w.heap.size + 1 + 1 + 1 < w5.heap.size := (by omega)))
    | (go_at_call 66; refine (figureHas_r _ _ _ _ (by omega) (by omega) (by omega) (by omega)).mono ?_; rintro e w6 ⟨rfl, hb6⟩; obtain ⟨hc6, hf6⟩ := bcell hb6; have hl6 := blt hb6; have hz6 := hb6.size; (try simp only [World.size_drew, World.size_alloc, World.size_setCell] at hc6 hf6 hl6 hz6); (try have hq6x0 : w.heap.size < w6.heap.size := (by omega)); (try have hq6x1 : w.heap.size + 1 < w6.heap.size := (by omega)); (try have hq6x2 : w.heap.size + 1 + 1 < w6.heap.size := (by omega)); (try have hq6x3 : w.heap.size + 1 + 1 + 1 < w6.heap.size := (by omega))))
  all_goals
    go_wp2
  all_goals
    go_ret
    refine ⟨ret_bool ?_, by repeat (first | with_reducible apply Below.refl | (with_reducible apply Below.setCell; rotate_left; focus (first | omega | (simp; done) | (simp; omega))) | (with_reducible apply Below.alloc; rotate_left; focus (first | omega | (simp; done) | (simp; omega))) | with_reducible apply Below.drew | with_reducible apply belowDrewN | (with_reducible apply Below.trans; rotate_left; with_reducible apply Below.mono; with_reducible assumption; focus (first | omega | (simp; done) | (simp; omega))))⟩
    first | rfl | (simp [*]; done)

set_option maxHeartbeats 2000000 in
theorem shHas_b1 (g h x y u v : Int) (w : World) (h1 : 1 ≤ g) (h2 : g ≤ 25600) (h3 : 1 ≤ h) (h4 : h ≤ 25600) (h0 : inB 2560000 x y = false) :
    Calls Try.prog 42 #[s3 2 g h, vv x y, vv u v] w fun e w' => e = .returned (.bool false) ∧ Below w.heap.size w w' := by
  have hset := cset_map
  go_enter Try.func42, Try.ntmps42
  go_wp2_with (first
    | (go_at_call 64; refine (figureOf_box _ _ _ (by assumption) (by assumption) (by assumption) (by assumption)).mono ?_; rintro e w1 ⟨rfl, hb1⟩; obtain ⟨hc1, hf1⟩ := bcell hb1; have hl1 := blt hb1; have hz1 := hb1.size; (try simp only [World.size_drew, World.size_alloc, World.size_setCell] at hc1 hf1 hl1 hz1); (try have hq1x0 : w.heap.size < w1.heap.size := (by omega)); (try have hq1x1 : w.heap.size + 1 < w1.heap.size := (by omega)); (try have hq1x2 : w.heap.size + 1 + 1 < w1.heap.size := (by omega)))
    | (go_at_call 65; refine (isPlace_n _ _ _ (by assumption)).mono ?_; rintro e w2 ⟨rfl, hb2⟩; obtain ⟨hc2, hf2⟩ := bcell hb2; have hl2 := blt hb2; have hz2 := hb2.size; (try simp only [World.size_drew, World.size_alloc, World.size_setCell] at hc2 hf2 hl2 hz2); (try have hq2x0 : w.heap.size < w2.heap.size := (by omega)); (try have hq2x1 : w.heap.size + 1 < w2.heap.size := (by omega)); (try have hq2x2 : w.heap.size + 1 + 1 < w2.heap.size := (by omega)); (try have hq2x3 : w.heap.size + 1 + 1 + 1 < w2.heap.size := (by omega))))
  all_goals
    go_ret
    exact ⟨ret_bool (by simp [*]), by repeat (first | with_reducible apply Below.refl | (with_reducible apply Below.setCell; rotate_left; focus (first | omega | (simp; done) | (simp; omega))) | (with_reducible apply Below.alloc; rotate_left; focus (first | omega | (simp; done) | (simp; omega))) | with_reducible apply Below.drew | with_reducible apply belowDrewN | (with_reducible apply Below.trans; rotate_left; with_reducible apply Below.mono; with_reducible assumption; focus (first | omega | (simp; done) | (simp; omega))))⟩

set_option maxHeartbeats 2000000 in
theorem shHas_b2 (g h x y u v : Int) (w : World) (h1 : 1 ≤ g) (h2 : g ≤ 25600) (h3 : 1 ≤ h) (h4 : h ≤ 25600) (h0 : inB 2560000 x y = true) (h9 : inB 2560000 u v = false) :
    Calls Try.prog 42 #[s3 2 g h, vv x y, vv u v] w fun e w' => e = .returned (.bool false) ∧ Below w.heap.size w w' := by
  have hset := cset_map
  go_enter Try.func42, Try.ntmps42
  go_wp2_with (first
    | (go_at_call 64; refine (figureOf_box _ _ _ (by assumption) (by assumption) (by assumption) (by assumption)).mono ?_; rintro e w1 ⟨rfl, hb1⟩; obtain ⟨hc1, hf1⟩ := bcell hb1; have hl1 := blt hb1; have hz1 := hb1.size; (try simp only [World.size_drew, World.size_alloc, World.size_setCell] at hc1 hf1 hl1 hz1); (try have hq1x0 : w.heap.size < w1.heap.size := (by omega)); (try have hq1x1 : w.heap.size + 1 < w1.heap.size := (by omega)); (try have hq1x2 : w.heap.size + 1 + 1 < w1.heap.size := (by omega)))
    | (go_at_call 65; refine (isPlace_t _ _ _ (by assumption)).mono ?_; rintro e w2 ⟨rfl, hb2⟩; obtain ⟨hc2, hf2⟩ := bcell hb2; have hl2 := blt hb2; have hz2 := hb2.size; (try simp only [World.size_drew, World.size_alloc, World.size_setCell] at hc2 hf2 hl2 hz2); (try have hq2x0 : w.heap.size < w2.heap.size := (by omega)); (try have hq2x1 : w.heap.size + 1 < w2.heap.size := (by omega)); (try have hq2x2 : w.heap.size + 1 + 1 < w2.heap.size := (by omega)); (try have hq2x3 : w.heap.size + 1 + 1 + 1 < w2.heap.size := (by omega)))
    | (go_at_call 65; refine (isPlace_n _ _ _ (by assumption)).mono ?_; rintro e w2 ⟨rfl, hb2⟩; obtain ⟨hc2, hf2⟩ := bcell hb2; have hl2 := blt hb2; have hz2 := hb2.size; (try simp only [World.size_drew, World.size_alloc, World.size_setCell] at hc2 hf2 hl2 hz2); (try have hq2x0 : w.heap.size < w2.heap.size := (by omega)); (try have hq2x1 : w.heap.size + 1 < w2.heap.size := (by omega)); (try have hq2x2 : w.heap.size + 1 + 1 < w2.heap.size := (by omega)); (try have hq2x3 : w.heap.size + 1 + 1 + 1 < w2.heap.size := (by omega))))
  all_goals
    go_ret
    exact ⟨ret_bool (by simp [*]), by repeat (first | with_reducible apply Below.refl | (with_reducible apply Below.setCell; rotate_left; focus (first | omega | (simp; done) | (simp; omega))) | (with_reducible apply Below.alloc; rotate_left; focus (first | omega | (simp; done) | (simp; omega))) | with_reducible apply Below.drew | with_reducible apply belowDrewN | (with_reducible apply Below.trans; rotate_left; with_reducible apply Below.mono; with_reducible assumption; focus (first | omega | (simp; done) | (simp; omega))))⟩

set_option maxRecDepth 20000 in
set_option maxHeartbeats 4000000 in
theorem shHas_bt (g h x y u v : Int) (w : World) (h1 : 1 ≤ g) (h2 : g ≤ 25600) (h3 : 1 ≤ h) (h4 : h ≤ 25600) (h0 : inB 2560000 x y = true) (h9 : inB 2560000 u v = true) :
    Calls Try.prog 42 #[s3 2 g h, vv x y, vv u v] w fun e w' => e = .returned (.bool (hasV 2 g h x y u v)) ∧ Below w.heap.size w w' := by
  rw [← hasV_b]
  have hp := inB_of h0
  have hp9 := inB_of h9
  have hset := cset_map
  go_enter Try.func42, Try.ntmps42
  go_wp2_with (first
    | (go_at_call 64; refine (figureOf_box _ _ _ (by assumption) (by assumption) (by assumption) (by assumption)).mono ?_; rintro e w1 ⟨rfl, hb1⟩; obtain ⟨hc1, hf1⟩ := bcell hb1; have hl1 := blt hb1; have hz1 := hb1.size; (try simp only [World.size_drew, World.size_alloc, World.size_setCell] at hc1 hf1 hl1 hz1); (try have hq1x0 : w.heap.size < w1.heap.size := (by omega)); (try have hq1x1 : w.heap.size + 1 < w1.heap.size := (by omega)); (try have hq1x2 : w.heap.size + 1 + 1 < w1.heap.size := (by omega)))
    | (go_at_call 65; refine (isPlace_t _ _ _ (by assumption)).mono ?_; rintro e w2 ⟨rfl, hb2⟩; obtain ⟨hc2, hf2⟩ := bcell hb2; have hl2 := blt hb2; have hz2 := hb2.size; (try simp only [World.size_drew, World.size_alloc, World.size_setCell] at hc2 hf2 hl2 hz2); (try have hq2x0 : w.heap.size < w2.heap.size := (by omega)); (try have hq2x1 : w.heap.size + 1 < w2.heap.size := (by omega)); (try have hq2x2 : w.heap.size + 1 + 1 < w2.heap.size := (by omega)); (try have hq2x3 : w.heap.size + 1 + 1 + 1 < w2.heap.size := (by omega))))
  go_region_held3 (fun w' => w'.cell? ⟨w.heap.size + 1, 0, none⟩ = some (.int .i64 x) ∧ w'.cell? ⟨w.heap.size + 1, 1, none⟩ = some (.int .i64 y) ∧ w'.cell? ⟨w.heap.size + 1 + 1, 0, none⟩ = some (.int .i64 u) ∧ w'.cell? ⟨w.heap.size + 1 + 1, 1, none⟩ = some (.int .i64 v)) (first | (go_simp; done) | (go_keep; done)) (first
    | (go_at_call 67; refine (wayOf_any _ _ _).mono ?_; rintro e w3 ⟨rfl, hb3⟩; obtain ⟨hc3, hf3⟩ := bcell hb3; have hl3 := blt hb3; have hz3 := hb3.size; (try simp only [World.size_drew, World.size_alloc, World.size_setCell] at hc3 hf3 hl3 hz3); (try have hq3x0 : w.heap.size < w3.heap.size := (by omega)); (try have hq3x1 : w.heap.size + 1 < w3.heap.size := (by omega)); (try have hq3x2 : w.heap.size + 1 + 1 < w3.heap.size := (by omega)); (try have hq3x3 : w.heap.size + 1 + 1 + 1 < w3.heap.size := (by omega)))
    | (go_at_call 68; refine (less_any _ _ _ _ _ (by omega) (by omega) (by omega) (by omega)).mono ?_; rintro e w5 ⟨rfl, hb5⟩; obtain ⟨hc5, hf5⟩ := bcell hb5; have hl5 := blt hb5; have hz5 := hb5.size; (try simp only [World.size_drew, World.size_alloc, World.size_setCell] at hc5 hf5 hl5 hz5); (try have hq5x0 : w.heap.size < w5.heap.size := (by omega)); (try have hq5x1 : w.heap.size + 1 < w5.heap.size := (by omega)); (try have hq5x2 : w.heap.size + 1 + 1 < w5.heap.size := (by omega)); (try have hq5x3 : w.heap.size + 1 + 1 + 1 < w5.heap.size := (by omega)))
    | (go_at_call 66; refine (figureHas_b _ _ _ _ _ (by omega) (by omega) (by omega) (by omega)).mono ?_; rintro e w6 ⟨rfl, hb6⟩; obtain ⟨hc6, hf6⟩ := bcell hb6; have hl6 := blt hb6; have hz6 := hb6.size; (try simp only [World.size_drew, World.size_alloc, World.size_setCell] at hc6 hf6 hl6 hz6); (try have hq6x0 : w.heap.size < w6.heap.size := (by omega)); (try have hq6x1 : w.heap.size + 1 < w6.heap.size := (by omega)); (try have hq6x2 : w.heap.size + 1 + 1 < w6.heap.size := (by omega)); (try have hq6x3 : w.heap.size + 1 + 1 + 1 < w6.heap.size := (by omega))))
  all_goals
    go_wp2
  all_goals
    go_ret
    refine ⟨ret_bool ?_, by repeat (first | with_reducible apply Below.refl | (with_reducible apply Below.setCell; rotate_left; focus (first | omega | (simp; done) | (simp; omega))) | (with_reducible apply Below.alloc; rotate_left; focus (first | omega | (simp; done) | (simp; omega))) | with_reducible apply Below.drew | with_reducible apply belowDrewN | (with_reducible apply Below.trans; rotate_left; with_reducible apply Below.mono; with_reducible assumption; focus (first | omega | (simp; done) | (simp; omega))))⟩
    first | rfl | (simp [*]; done)

theorem shapeHas_any (k g h x y u v : Int) (w : World) :
    Calls Try.prog 42 #[s3 k g h, vv x y, vv u v] w fun e w' => e = .returned (.bool (shV k g h x y u v)) ∧ Below w.heap.size w w' := by
  unfold shV
  cases hs : shB k g h with
  | false => simp only [Bool.false_and]; exact shHas_n k g h x y u v w hs
  | true =>
    have hq := hs
    unfold shB at hq
    simp only [Bool.or_eq_true] at hq
    rcases hq with hq | hq
    · unfold rdB at hq; obtain ⟨rfl, ⟨h1, h2⟩, rfl⟩ := of_decide_eq_true hq
      cases h0 : inB 2560000 x y with
      | false => exact shHas_r1 g x y u v w h1 h2 h0
      | true =>
        cases h9 : inB 2560000 u v with
        | false => exact shHas_r2 g x y u v w h1 h2 h0 h9
        | true => exact shHas_rt g x y u v w h1 h2 h0 h9
    · unfold bxB at hq; obtain ⟨rfl, ⟨h1, h2⟩, h3, h4⟩ := of_decide_eq_true hq
      cases h0 : inB 2560000 x y with
      | false => exact shHas_b1 g h x y u v w h1 h2 h3 h4 h0
      | true =>
        cases h9 : inB 2560000 u v with
        | false => exact shHas_b2 g h x y u v w h1 h2 h3 h4 h0 h9
        | true => exact shHas_bt g h x y u v w h1 h2 h3 h4 h0 h9

end Go.Proofs.Ytgcobcmpkbcfoaa
namespace Go.Proofs.Ytgcobcmpkbcfoaa
open Go.RowKit
set_option linter.unusedVariables false
set_option linter.unusedSimpArgs false

set_option maxHeartbeats 8000000 in
theorem spanAround_any (x y u v : Int) (w : World) (hx : -4000000000 ≤ x ∧ x ≤ 4000000000) (hy : -4000000000 ≤ y ∧ y ≤ 4000000000) (hu : -4000000000 ≤ u ∧ u ≤ 4000000000) (hv : -4000000000 ≤ v ∧ v ≤ 4000000000) :
    Calls Try.prog 73 #[vv x y, vv u v] w fun e w' => e = .returned (b4 (x - u) (y - v) (x + u) (y + v)) ∧ Below w.heap.size w w' := by
  have hset := cset_map
  go_enter Try.func73, Try.ntmps73
  go_wp2
  go_region_held3 (fun w' => w'.cell? ⟨w.heap.size, 0, none⟩ = some (.int .i64 x) ∧ w'.cell? ⟨w.heap.size, 1, none⟩ = some (.int .i64 y) ∧ w'.cell? ⟨w.heap.size + 1, 0, none⟩ = some (.int .i64 u) ∧ w'.cell? ⟨w.heap.size + 1, 1, none⟩ = some (.int .i64 v)) (first | (go_simp; done) | (go_keep; done)) (first
    | (go_at_call 94; refine (plus_any _ _ _ _ _ (by omega) (by omega) (by omega) (by omega)).mono ?_; rintro e w1 ⟨rfl, hb1⟩; obtain ⟨hc1, hf1⟩ := bcell hb1; have hl1 := blt hb1; have hz1 := hb1.size; (try simp only [World.size_drew, World.size_alloc, World.size_setCell] at hc1 hf1 hl1 hz1); (try have hq1x0 : w.heap.size < w1.heap.size := (by omega)); (try have hq1x1 : w.heap.size + 1 < w1.heap.size := (by omega)); (try have hq1x2 : w.heap.size + 1 + 1 < w1.heap.size := (by omega)))
    | (go_at_call 68; refine (less_any _ _ _ _ _ (by omega) (by omega) (by omega) (by omega)).mono ?_; rintro e w1 ⟨rfl, hb1⟩; obtain ⟨hc1, hf1⟩ := bcell hb1; have hl1 := blt hb1; have hz1 := hb1.size; (try simp only [World.size_drew, World.size_alloc, World.size_setCell] at hc1 hf1 hl1 hz1); (try have hq1x0 : w.heap.size < w1.heap.size := (by omega)); (try have hq1x1 : w.heap.size + 1 < w1.heap.size := (by omega)); (try have hq1x2 : w.heap.size + 1 + 1 < w1.heap.size := (by omega))))
  all_goals
    go_wp2
    exact bodyPost_ret (v := b4 (x - u) (y - v) (x + u) (y + v)) (by simp [results, Try.results73, go_sem, *]) rfl ⟨rfl, by repeat (first | with_reducible apply Below.refl | (with_reducible apply Below.setCell; rotate_left; focus (first | omega | (simp; done) | (simp; omega))) | (with_reducible apply Below.alloc; rotate_left; focus (first | omega | (simp; done) | (simp; omega))) | with_reducible apply Below.drew | with_reducible apply belowDrewN | (with_reducible apply Below.trans; rotate_left; with_reducible apply Below.mono; with_reducible assumption; focus (first | omega | (simp; done) | (simp; omega))))⟩

end Go.Proofs.Ytgcobcmpkbcfoaa
