/- Whether a world is ok, by the specification. The exact law of WorldOk, walked. The contracts of quotients cut downwards and upwards, and of rays. -/
import Derived.Test.YtgcobcmpkbcfoaaWdI
import Derived.Test.YtgcobcmpkbcfoaaB7
import Derived.Deep.RegionHeld3
import Derived.Deep.DeepCutAuto
import Derived.Test.YtgcobcmpkbcfoaaB3
namespace Go.Proofs.Ytgcobcmpkbcfoaa
open Go.RowKit
set_option linter.unusedVariables false
set_option linter.unusedSimpArgs false

set_option maxRecDepth 20000 in
set_option maxHeartbeats 4000000 in
theorem l10At_q (a : Option Addr) (n c : Nat) (U : Nat → Int) (id : Int) (p : Nat) (w : World) (h : Flat w a (n * 12) U) (hn : n ≤ 1048576) (hp : idP U n id p) (bb : Bool) (eb : decide (p < n ∧ U (p * 12) = id) = bb) :
    Calls Try.prog 29 #[.slice a n c, .int .i64 id] w fun e w' => e = .returned (.tuple #[.int .i64 (p : Int), .bool bb]) ∧ Below w.heap.size w w' := by
  have hset := cset_map
  go_enter Try.func29, Try.ntmps29
  go_wp2
  go_loopw [6] (fun i wr => ∃ k : Nat, k ≤ p ∧ i = .int .i64 (k : Int) ∧ wr = w) (fun i _ => n - (intOf i).toNat)
  case atStart => exact ⟨0, Nat.zero_le _, rfl, rfl⟩
  case round =>
    obtain ⟨k, hk, rfl, rfl⟩ := hrel
    have hpn := hp.le
    by_cases hlt : k < p
    · have hkn : (k : Int) < (n : Int) := by omega
      have hkk : k < n := by omega
      have hl := hp.lo k hlt
      obtain ⟨b, o, rfl, hbl, hc⟩ := h (by omega)
      have c0 := hc (k * 12) (by omega)
      clear hc
      go_wp2
      go_roundw
      case rel => exact ⟨k + 1, by omega, by go_num, by first | rfl | trivial⟩
      case measure => simp [intOf]; omega
    · obtain rfl : k = p := by omega
      by_cases hkn : k < n
      · have hkn' : (k : Int) < (n : Int) := by omega
        have hge : ¬ U (k * 12) < id := by have := hp.hi hkn; omega
        obtain ⟨b, o, rfl, hbl, hc⟩ := h (by omega)
        have c0 := hc (k * 12) (by omega)
        clear hc
        have hb : (U (k * 12) == id) = bb := by rw [← eb]; by_cases q : U (k * 12) = id <;> simp [q, hkn]
        have EB : Shut (decide (k < n ∧ U (k * 12) = id) = bb) := eb
        clear eb
        go_upto_region 4 with fail
        refine wp_region_held_drew (S := fun w' => w'.cell? ⟨b, o + k * 12, none⟩ = some (.int .i64 (U (k * 12)))) (by kernel_rfl) ?_ (fun hHeld => ?_)
        · (try dsimp only)
          (first | (go_simp; done) | (go_keep; done))
        refine tq 0 hHeld ?_
        refine tq 1 hHeld ?_
        refine tq 2 hHeld ?_
        refine tq 3 hHeld ?_
        refine tq 4 hHeld ?_
        refine tq 5 hHeld ?_
        refine tq 6 hHeld ?_
        refine tq 7 hHeld ?_
        refine tq 8 hHeld ?_
        refine tq 9 hHeld ?_
        refine tq 10 hHeld ?_
        refine tq 11 hHeld ?_
        refine tq 12 hHeld ?_
        refine tq 13 hHeld ?_
        refine tq 14 hHeld ?_
        refine tq 15 hHeld ?_
        refine wpAnyH_done (by kernel_rfl) ?_ _
        go_wp2_with fail
        exact bodyPost_ret (v := .tuple #[.int .i64 (k : Int), .bool bb]) (by simp [results, Try.results29, go_sem, *]) rfl ⟨rfl, by repeat (first | with_reducible apply Below.refl | (with_reducible apply Below.setCell; rotate_left; focus (first | omega | (simp; done) | (simp; omega))) | (with_reducible apply Below.alloc; rotate_left; focus (first | omega | (simp; done) | (simp; omega))) | with_reducible apply Below.drew | with_reducible apply belowDrewN | (with_reducible apply Below.trans; rotate_left; with_reducible apply Below.mono; with_reducible assumption; focus (first | omega | (simp; done) | (simp; omega))))⟩
      · have hkn' : ¬ (k : Int) < (n : Int) := by omega
        obtain rfl : bb = false := by rw [← eb]; exact decide_eq_false (fun q => hkn q.1)
        clear eb
        go_upto_region 4 with fail
        refine wp_region_held_drew (S := fun w' => True) (by kernel_rfl) ?_ (fun hHeld => ?_)
        · (try dsimp only)
          (try trivial)
        refine tq 0 hHeld ?_
        refine tq 1 hHeld ?_
        refine tq 2 hHeld ?_
        refine tq 3 hHeld ?_
        refine tq 4 hHeld ?_
        refine tq 5 hHeld ?_
        refine tn 6 hHeld ?_
        refine tn 7 hHeld ?_
        refine tn 8 hHeld ?_
        refine tn 9 hHeld ?_
        refine tn 10 hHeld ?_
        refine tn 11 hHeld ?_
        refine tn 12 hHeld ?_
        refine tq 13 hHeld ?_
        refine tq 14 hHeld ?_
        refine tq 15 hHeld ?_
        refine wpAnyH_done (by kernel_rfl) ?_ _
        go_wp2_with fail
        exact bodyPost_ret (v := .tuple #[.int .i64 (k : Int), .bool false]) (by simp [results, Try.results29, go_sem, *]) rfl ⟨rfl, by repeat (first | with_reducible apply Below.refl | (with_reducible apply Below.setCell; rotate_left; focus (first | omega | (simp; done) | (simp; omega))) | (with_reducible apply Below.alloc; rotate_left; focus (first | omega | (simp; done) | (simp; omega))) | with_reducible apply Below.drew | with_reducible apply belowDrewN | (with_reducible apply Below.trans; rotate_left; with_reducible apply Below.mono; with_reducible assumption; focus (first | omega | (simp; done) | (simp; omega))))⟩
set_option maxHeartbeats 2000000 in
theorem ahead_q (p q r s : Int) (w : World) (b : Bool) (eb : aheadB p q r s = b) :
    Calls Try.prog 30 #[.agg #[.int .i64 p, .int .i64 q], .agg #[.int .i64 r, .int .i64 s]] w fun e w' => e = .returned (.bool b) ∧ Below w.heap.size w w' := by
  subst eb
  have hset := cset_map
  unfold aheadB
  by_cases h1 : p < r
  · have e0 : decide (p < r ∨ p = r ∧ q < s) = true := decide_eq_true (.inl h1)
    rw [e0]
    go_enter Try.func30, Try.ntmps30
    go_wp2
    go_ret
    exact ⟨rfl, by repeat (first | with_reducible apply Below.refl | (with_reducible apply Below.setCell; rotate_left; focus (first | omega | (simp; done) | (simp; omega))) | (with_reducible apply Below.alloc; rotate_left; focus (first | omega | (simp; done) | (simp; omega))) | with_reducible apply Below.drew | with_reducible apply belowDrewN | (with_reducible apply Below.trans; rotate_left; with_reducible apply Below.mono; with_reducible assumption; focus (first | omega | (simp; done) | (simp; omega))))⟩
  · by_cases h2 : p = r
    · have h2' : (p == r) = true := by simp [h2]
      by_cases h3 : q < s
      · have e0 : decide (p < r ∨ p = r ∧ q < s) = true := decide_eq_true (.inr ⟨h2, h3⟩)
        rw [e0]
        subst h2
        go_enter Try.func30, Try.ntmps30
        go_wp2
        go_ret
        exact ⟨rfl, by repeat (first | with_reducible apply Below.refl | (with_reducible apply Below.setCell; rotate_left; focus (first | omega | (simp; done) | (simp; omega))) | (with_reducible apply Below.alloc; rotate_left; focus (first | omega | (simp; done) | (simp; omega))) | with_reducible apply Below.drew | with_reducible apply belowDrewN | (with_reducible apply Below.trans; rotate_left; with_reducible apply Below.mono; with_reducible assumption; focus (first | omega | (simp; done) | (simp; omega))))⟩
      · have e0 : decide (p < r ∨ p = r ∧ q < s) = false := decide_eq_false (by omega)
        rw [e0]
        subst h2
        go_enter Try.func30, Try.ntmps30
        go_wp2
        go_ret
        exact ⟨rfl, by repeat (first | with_reducible apply Below.refl | (with_reducible apply Below.setCell; rotate_left; focus (first | omega | (simp; done) | (simp; omega))) | (with_reducible apply Below.alloc; rotate_left; focus (first | omega | (simp; done) | (simp; omega))) | with_reducible apply Below.drew | with_reducible apply belowDrewN | (with_reducible apply Below.trans; rotate_left; with_reducible apply Below.mono; with_reducible assumption; focus (first | omega | (simp; done) | (simp; omega))))⟩
    · have e0 : decide (p < r ∨ p = r ∧ q < s) = false := decide_eq_false (by omega)
      have h2' : (p == r) = false := by simp [h2]
      rw [e0]
      go_enter Try.func30, Try.ntmps30
      go_wp2
      go_ret
      exact ⟨rfl, by repeat (first | with_reducible apply Below.refl | (with_reducible apply Below.setCell; rotate_left; focus (first | omega | (simp; done) | (simp; omega))) | (with_reducible apply Below.alloc; rotate_left; focus (first | omega | (simp; done) | (simp; omega))) | with_reducible apply Below.drew | with_reducible apply belowDrewN | (with_reducible apply Below.trans; rotate_left; with_reducible apply Below.mono; with_reducible assumption; focus (first | omega | (simp; done) | (simp; omega))))⟩


set_option maxRecDepth 20000 in
set_option maxHeartbeats 8000000 in
theorem sWorldOk_q (T P : Int) (a : Option Addr) (n c : Nat) (U : Nat → Int) (a' : Option Addr) (m c' : Nat) (Q : Nat → Int) (w : World) (h : Flat w a (n * 12) U) (h' : Flat w a' (m * 2) Q) (hn : n ≤ 1048576) (hm : m ≤ 1048576) (bb : Bool) (ebb : worldB T P n U m Q = bb) :
    Calls Try.prog 8 #[worldW T P a n c a' m c'] w fun e w' => e = .returned (.bool bb) ∧ Below w.heap.size w w' := by
  subst ebb
  have hset := cset_map
  unfold worldB
  cases k1 : decide (0 ≤ T ∧ T ≤ 100000) with
  | false =>
    go_enter Try.func8, Try.ntmps8
    go_wp2_with (go_at_call 27; refine (l1In_q _ _ _ _ _ k1).mono ?_; rintro e w1 ⟨rfl, hb1⟩; obtain ⟨hc1, hf1⟩ := bcell hb1; have hz1 := hb1.size; (try simp only [World.size_drew, World.size_alloc, World.size_setCell] at hc1 hf1 hz1); have hk1x0 := fun o => hc1 (w.heap.size) o (by omega); have hj1x0 := fun o => hf1 (w.heap.size) o (by omega); have hq1x0 : w.heap.size < w1.heap.size := (by omega); clear hc1 hf1)
    go_ret
    exact ⟨rfl, by repeat (first | with_reducible apply Below.refl | (with_reducible apply Below.setCell; rotate_left; focus (first | omega | (simp; done) | (simp; omega))) | (with_reducible apply Below.alloc; rotate_left; focus (first | omega | (simp; done) | (simp; omega))) | with_reducible apply Below.drew | with_reducible apply belowDrewN | (with_reducible apply Below.trans; rotate_left; with_reducible apply Below.mono; with_reducible assumption; focus (first | omega | (simp; done) | (simp; omega))))⟩
  | true =>
    cases k2 : decide (0 ≤ P ∧ P ≤ 2560) with
    | false =>
      go_enter Try.func8, Try.ntmps8
      go_wp2_with (first
        | (have _ := hz1; (go_at_call 27; refine (l1In_q _ _ _ _ _ k2).mono ?_; rintro e w2 ⟨rfl, hb2⟩; obtain ⟨hc2, hf2⟩ := bcell hb2; have hz2 := hb2.size; (try simp only [World.size_drew, World.size_alloc, World.size_setCell] at hc2 hf2 hz2); have hk2x0 := fun o => hc2 (w.heap.size) o (by omega); have hj2x0 := fun o => hf2 (w.heap.size) o (by omega); have hq2x0 : w.heap.size < w2.heap.size := (by omega); clear hc2 hf2))
        | (go_at_call 27; refine (l1In_q _ _ _ _ _ k1).mono ?_; rintro e w1 ⟨rfl, hb1⟩; obtain ⟨hc1, hf1⟩ := bcell hb1; have hz1 := hb1.size; (try simp only [World.size_drew, World.size_alloc, World.size_setCell] at hc1 hf1 hz1); have hk1x0 := fun o => hc1 (w.heap.size) o (by omega); have hj1x0 := fun o => hf1 (w.heap.size) o (by omega); have hq1x0 : w.heap.size < w1.heap.size := (by omega); clear hc1 hf1))
      go_ret
      exact ⟨rfl, by repeat (first | with_reducible apply Below.refl | (with_reducible apply Below.setCell; rotate_left; focus (first | omega | (simp; done) | (simp; omega))) | (with_reducible apply Below.alloc; rotate_left; focus (first | omega | (simp; done) | (simp; omega))) | with_reducible apply Below.drew | with_reducible apply belowDrewN | (with_reducible apply Below.trans; rotate_left; with_reducible apply Below.mono; with_reducible assumption; focus (first | omega | (simp; done) | (simp; omega))))⟩
    | true =>
      cases k3 : bodsB n U with
      | false =>
        go_enter Try.func8, Try.ntmps8
        go_wp2_with (first
          | (have _ := hz1; (go_at_call 27; refine (l1In_q _ _ _ _ _ k2).mono ?_; rintro e w2 ⟨rfl, hb2⟩; obtain ⟨hc2, hf2⟩ := bcell hb2; have hz2 := hb2.size; (try simp only [World.size_drew, World.size_alloc, World.size_setCell] at hc2 hf2 hz2); have hk2x0 := fun o => hc2 (w.heap.size) o (by omega); have hj2x0 := fun o => hf2 (w.heap.size) o (by omega); have hq2x0 : w.heap.size < w2.heap.size := (by omega); clear hc2 hf2))
          | (go_at_call 27; refine (l1In_q _ _ _ _ _ k1).mono ?_; rintro e w1 ⟨rfl, hb1⟩; obtain ⟨hc1, hf1⟩ := bcell hb1; have hz1 := hb1.size; (try simp only [World.size_drew, World.size_alloc, World.size_setCell] at hc1 hf1 hz1); have hk1x0 := fun o => hc1 (w.heap.size) o (by omega); have hj1x0 := fun o => hf1 (w.heap.size) o (by omega); have hq1x0 : w.heap.size < w1.heap.size := (by omega); clear hc1 hf1)
          | (go_at_call 28; refine (sBodiesOk_q a n c U _ _ (h.below (by repeat (first | with_reducible apply Below.refl | (with_reducible apply Below.setCell; rotate_left; focus (first | omega | (simp; done) | (simp; omega))) | (with_reducible apply Below.alloc; rotate_left; focus (first | omega | (simp; done) | (simp; omega))) | with_reducible apply Below.drew | with_reducible apply belowDrewN | (with_reducible apply Below.trans; rotate_left; with_reducible apply Below.mono; with_reducible assumption; focus (first | omega | (simp; done) | (simp; omega)))))) hn k3).mono ?_; rintro e w3 ⟨rfl, hb3⟩; obtain ⟨hc3, hf3⟩ := bcell hb3; have hz3 := hb3.size; (try simp only [World.size_drew, World.size_alloc, World.size_setCell] at hc3 hf3 hz3); have hk3x0 := fun o => hc3 (w.heap.size) o (by omega); have hj3x0 := fun o => hf3 (w.heap.size) o (by omega); have hq3x0 : w.heap.size < w3.heap.size := (by omega); clear hc3 hf3))
        go_ret
        exact ⟨rfl, by repeat (first | with_reducible apply Below.refl | (with_reducible apply Below.setCell; rotate_left; focus (first | omega | (simp; done) | (simp; omega))) | (with_reducible apply Below.alloc; rotate_left; focus (first | omega | (simp; done) | (simp; omega))) | with_reducible apply Below.drew | with_reducible apply belowDrewN | (with_reducible apply Below.trans; rotate_left; with_reducible apply Below.mono; with_reducible assumption; focus (first | omega | (simp; done) | (simp; omega))))⟩
      | true =>
        simp only [Bool.true_and]
        have ha := bodsB_asc k3
        go_enter Try.func8, Try.ntmps8
        go_wp2_with (first
          | (have _ := hz1; (go_at_call 27; refine (l1In_q _ _ _ _ _ k2).mono ?_; rintro e w2 ⟨rfl, hb2⟩; obtain ⟨hc2, hf2⟩ := bcell hb2; have hz2 := hb2.size; (try simp only [World.size_drew, World.size_alloc, World.size_setCell] at hc2 hf2 hz2); have hk2x0 := fun o => hc2 (w.heap.size) o (by omega); have hj2x0 := fun o => hf2 (w.heap.size) o (by omega); have hq2x0 : w.heap.size < w2.heap.size := (by omega); clear hc2 hf2))
          | (go_at_call 27; refine (l1In_q _ _ _ _ _ k1).mono ?_; rintro e w1 ⟨rfl, hb1⟩; obtain ⟨hc1, hf1⟩ := bcell hb1; have hz1 := hb1.size; (try simp only [World.size_drew, World.size_alloc, World.size_setCell] at hc1 hf1 hz1); have hk1x0 := fun o => hc1 (w.heap.size) o (by omega); have hj1x0 := fun o => hf1 (w.heap.size) o (by omega); have hq1x0 : w.heap.size < w1.heap.size := (by omega); clear hc1 hf1)
          | (go_at_call 28; refine (sBodiesOk_q a n c U _ _ (h.below (by repeat (first | with_reducible apply Below.refl | (with_reducible apply Below.setCell; rotate_left; focus (first | omega | (simp; done) | (simp; omega))) | (with_reducible apply Below.alloc; rotate_left; focus (first | omega | (simp; done) | (simp; omega))) | with_reducible apply Below.drew | with_reducible apply belowDrewN | (with_reducible apply Below.trans; rotate_left; with_reducible apply Below.mono; with_reducible assumption; focus (first | omega | (simp; done) | (simp; omega)))))) hn k3).mono ?_; rintro e w3 ⟨rfl, hb3⟩; obtain ⟨hc3, hf3⟩ := bcell hb3; have hz3 := hb3.size; (try simp only [World.size_drew, World.size_alloc, World.size_setCell] at hc3 hf3 hz3); have hk3x0 := fun o => hc3 (w.heap.size) o (by omega); have hj3x0 := fun o => hf3 (w.heap.size) o (by omega); have hq3x0 : w.heap.size < w3.heap.size := (by omega); clear hc3 hf3))
        have hB3 : WdR w T P a n c a' m c' w3 := ⟨by repeat (first | with_reducible apply Below.refl | (with_reducible apply Below.setCell; rotate_left; focus (first | omega | (simp; done) | (simp; omega))) | (with_reducible apply Below.alloc; rotate_left; focus (first | omega | (simp; done) | (simp; omega))) | with_reducible apply Below.drew | with_reducible apply belowDrewN | (with_reducible apply Below.trans; rotate_left; with_reducible apply Below.mono; with_reducible assumption; focus (first | omega | (simp; done) | (simp; omega)))), by omega, by go_simp, by go_simp, by go_simp, by go_simp⟩
        clear hb1 hb2 hb3 hk1x0 hk2x0 hk3x0 hj1x0 hj2x0 hj3x0
        go_loopw [3, 4, 5, 6, 7, 8] (fun i _ _ _ _ _ wr => ∃ k : Nat, k ≤ m ∧ i = .int .i64 (k : Int) ∧ WdR w T P a n c a' m c' wr ∧ allPB U n Q k = true) (fun i _ _ _ _ _ _ => m - (intOf i).toNat)
        case atStart => exact ⟨0, Nat.zero_le _, rfl, hB3, rfl⟩
        case round =>
          obtain ⟨i, hi, rfl, hB, hall0⟩ := hrel
          have hall : Shut (allPB U n Q i = true) := hall0
          clear hall0 hB3
          have hbig := hB.big
          have z2 := hB.c2
          have z3 := hB.c3
          by_cases hlt : i < m
          · obtain ⟨b, o, rfl, hbl, hc⟩ := (h'.below hB.bel) (by omega)
            have hbl0 : b < w.heap.size := by obtain ⟨b', o', e, l, _⟩ := h' (by omega); simp only [Option.some.injEq, Addr.mk.injEq] at e; omega
            have x0 := hc (i * 2) (by omega)
            have x1 := hc (i * 2 + 1) (by omega)
            simp only [← Nat.add_assoc] at x0 x1
            obtain ⟨pA, hpA⟩ := idP_ex U (Q (i * 2)) n
            obtain ⟨pB, hpB⟩ := idP_ex U (Q (i * 2 + 1)) n
            have eA' := hasF_at ha hpA
            have eB' := hasF_at ha hpB
            generalize eA : hasF U n (Q (i * 2)) = vA at eA'
            generalize eB : hasF U n (Q (i * 2 + 1)) = vB at eB'
            go_upto_region 7 with fail
            have hE : Below wr.heap.size wr (wr.alloc (Obj.cells #[.int .i64 (Q (i * 2)), .int .i64 (Q (i * 2 + 1))] 65)) := (Below.refl _ _).alloc (Nat.le_refl _) _
            have hB2 := hB.on hE
            have y0 : (wr.alloc (Obj.cells #[.int .i64 (Q (i * 2)), .int .i64 (Q (i * 2 + 1))] 65)).cell? ⟨wr.heap.size, 0, none⟩ = some (.int .i64 (Q (i * 2))) := by go_simp
            have y1 : (wr.alloc (Obj.cells #[.int .i64 (Q (i * 2)), .int .i64 (Q (i * 2 + 1))] 65)).cell? ⟨wr.heap.size, 1, none⟩ = some (.int .i64 (Q (i * 2 + 1))) := by go_simp
            have hz : wr.heap.size < (wr.alloc (Obj.cells #[.int .i64 (Q (i * 2)), .int .i64 (Q (i * 2 + 1))] 65)).heap.size := by simp
            generalize (wr.alloc (Obj.cells #[.int .i64 (Q (i * 2)), .int .i64 (Q (i * 2 + 1))] 65)) = wx at hE hB2 y0 y1 hz ⊢
            clear x0 x1 z2 z3
            have hbb := hE.size
            generalize wr.heap.size = bp at y0 y1 hz hbig hbb ⊢
            have z2 := hB2.c2
            have z3 := hB2.c3
            have hbo : Shut (vA = decide (pA < n ∧ U (pA * 12) = Q (i * 2)) ∧ vB = decide (pB < n ∧ U (pB * 12) = Q (i * 2 + 1))) := ⟨eA', eB'⟩
            clear eA' eB'
            go_cut [6] (fun s wc => s = .bool vA ∧ WdR w T P a n c (some ⟨b, o, none⟩) m c' wc ∧ wc.cell? ⟨bp, 0, none⟩ = some (.int .i64 (Q (i * 2))) ∧ wc.cell? ⟨bp, 1, none⟩ = some (.int .i64 (Q (i * 2 + 1))) ∧ bp < wc.heap.size)
            case first =>
              go_wp2_with (go_at_call 29; refine (l10At_q a n c U _ pA _ (h.below hB2.bel) hn hpA vA hbo.out.1.symm).mono ?_; rintro e w4 ⟨rfl, hb4⟩; obtain ⟨hc4, hf4⟩ := bcell hb4; have hz4 := hb4.size; (try simp only [World.size_drew, World.size_alloc, World.size_setCell] at hc4 hf4 hz4); have hk4x0 := fun o => hc4 (bp) o (by omega); have hj4x0 := fun o => hf4 (bp) o (by omega); have hq4x0 : bp < w4.heap.size := (by omega); clear hc4 hf4)
              go_meet
              exact ⟨rfl, hB2.on hb4, by go_simp, by go_simp, by omega⟩
            case rest =>
            clear hB2 y0 y1 hz z2 z3
            obtain ⟨rfl, hB2, y0, y1, hz⟩ := hcut
            have z2 := hB2.c2
            have z3 := hB2.c3
            go_upto_region 8 with fail
            go_cut [8] (fun s wd => s = .bool vB ∧ WdR w T P a n c (some ⟨b, o, none⟩) m c' wd ∧ wd.cell? ⟨bp, 0, none⟩ = some (.int .i64 (Q (i * 2))) ∧ wd.cell? ⟨bp, 1, none⟩ = some (.int .i64 (Q (i * 2 + 1))) ∧ bp < wd.heap.size)
            case first =>
              go_wp2_with (go_at_call 29; refine (l10At_q a n c U _ pB _ (h.below hB2.bel) hn hpB vB hbo.out.2.symm).mono ?_; rintro e w4 ⟨rfl, hb4⟩; obtain ⟨hc4, hf4⟩ := bcell hb4; have hz4 := hb4.size; (try simp only [World.size_drew, World.size_alloc, World.size_setCell] at hc4 hf4 hz4); have hk4x0 := fun o => hc4 (bp) o (by omega); have hj4x0 := fun o => hf4 (bp) o (by omega); have hq4x0 : bp < w4.heap.size := (by omega); clear hc4 hf4)
              go_meet
              exact ⟨rfl, hB2.on hb4, by go_simp, by go_simp, by omega⟩
            case rest =>
            clear hB2 y0 y1 hz z2 z3
            obtain ⟨rfl, hBc, y0, y1, hz⟩ := hcut
            have z3 := hBc.c3
            have hbel := hBc.bel
            have hbgc := hBc.big
            clear hbo
            go_upto_region 9 with fail
            cases vA with
            | false =>
              have hno : Shut (stepPB U n Q i = false) := (by unfold stepPB; rw [eA]; simp : stepPB U n Q i = false)
              refine wp_region_held_drew (S := fun w' => w'.cell? ⟨w.heap.size, 3, none⟩ = some (.slice (some ⟨b, o, none⟩) m c') ∧ w'.cell? ⟨bp, 0, none⟩ = some (.int .i64 (Q (i * 2))) ∧ w'.cell? ⟨bp, 1, none⟩ = some (.int .i64 (Q (i * 2 + 1)))) (by kernel_rfl) ?_ (fun hHeld => ?_)
              · (try dsimp only)
                (first | (go_simp; done) | (go_keep; done))
              refine tq 0 hHeld ?_
              refine tq 1 hHeld ?_
              refine tq 2 hHeld ?_
              refine tn 3 hHeld ?_
              refine tn 4 hHeld ?_
              refine tq 5 hHeld ?_
              refine tq 6 hHeld ?_
              refine tn 7 hHeld ?_
              refine tn 8 hHeld ?_
              refine tn 9 hHeld ?_
              refine tn 10 hHeld ?_
              refine tn 11 hHeld ?_
              refine tq 12 hHeld ?_
              refine tq 13 hHeld ?_
              refine tn 14 hHeld ?_
              refine tn 15 hHeld ?_
              refine tn 16 hHeld ?_
              refine tn 17 hHeld ?_
              refine tn 18 hHeld ?_
              refine tn 19 hHeld ?_
              refine tn 20 hHeld ?_
              refine tn 21 hHeld ?_
              refine tn 22 hHeld ?_
              refine tn 23 hHeld ?_
              refine tn 24 hHeld ?_
              refine tn 25 hHeld ?_
              refine tn 26 hHeld ?_
              refine tq 27 hHeld ?_
              refine wpAnyH_done (by kernel_rfl) ?_ _
              go_wp2_with fail
              go_ret
              exact ⟨by rw [allPB_no hno.out m hlt]; rfl, hBc.bel.trans ((Below.drew (Below.refl _ _)).mono (Nat.le_of_lt hBc.big))⟩
            | true =>
              cases vB with
              | false =>
                have hno : Shut (stepPB U n Q i = false) := (by unfold stepPB; rw [eB]; simp : stepPB U n Q i = false)
                refine wp_region_held_drew (S := fun w' => w'.cell? ⟨w.heap.size, 3, none⟩ = some (.slice (some ⟨b, o, none⟩) m c') ∧ w'.cell? ⟨bp, 0, none⟩ = some (.int .i64 (Q (i * 2))) ∧ w'.cell? ⟨bp, 1, none⟩ = some (.int .i64 (Q (i * 2 + 1)))) (by kernel_rfl) ?_ (fun hHeld => ?_)
                · (try dsimp only)
                  (first | (go_simp; done) | (go_keep; done))
                refine tq 0 hHeld ?_
                refine tq 1 hHeld ?_
                refine tq 2 hHeld ?_
                refine tq 3 hHeld ?_
                refine tq 4 hHeld ?_
                refine tq 5 hHeld ?_
                refine tq 6 hHeld ?_
                refine tn 7 hHeld ?_
                refine tn 8 hHeld ?_
                refine tn 9 hHeld ?_
                refine tn 10 hHeld ?_
                refine tn 11 hHeld ?_
                refine tq 12 hHeld ?_
                refine tq 13 hHeld ?_
                refine tn 14 hHeld ?_
                refine tn 15 hHeld ?_
                refine tn 16 hHeld ?_
                refine tn 17 hHeld ?_
                refine tn 18 hHeld ?_
                refine tn 19 hHeld ?_
                refine tn 20 hHeld ?_
                refine tn 21 hHeld ?_
                refine tn 22 hHeld ?_
                refine tn 23 hHeld ?_
                refine tn 24 hHeld ?_
                refine tn 25 hHeld ?_
                refine tn 26 hHeld ?_
                refine tq 27 hHeld ?_
                refine wpAnyH_done (by kernel_rfl) ?_ _
                go_wp2_with fail
                go_ret
                exact ⟨by rw [allPB_no hno.out m hlt]; rfl, hBc.bel.trans ((Below.drew (Below.refl _ _)).mono (Nat.le_of_lt hBc.big))⟩
              | true =>
                by_cases hAB : Q (i * 2) < Q (i * 2 + 1)
                · have hd1 : decide (Q (i * 2 + 1) ≤ Q (i * 2)) = false := decide_eq_false (by omega)
                  by_cases hk0 : 0 < i
                  · have hd0 : decide (0 < i) = true := decide_eq_true hk0
                    obtain ⟨j, hj⟩ : ∃ j, j + 1 = i := ⟨i - 1, by omega⟩
                    have hj' : (i : Int) - 1 = (j : Int) := by omega
                    have hjn : j < m := by omega
                    have hwj : IntKind.i64.wrap (j : Int) = (j : Int) := i64w (by omega)
                    obtain ⟨b2, o2, e2, _, hc2⟩ := (h'.below hBc.bel) (by omega)
                    simp only [Option.some.injEq, Addr.mk.injEq, and_true] at e2
                    obtain ⟨rfl, rfl⟩ := e2
                    have p0 := hc2 (j * 2) (by omega)
                    have p1 := hc2 (j * 2 + 1) (by omega)
                    simp only [← Nat.add_assoc] at p1
                    clear hc2
                    have HJ : Shut (j + 1 = i) := hj
                    clear hj
                    cases eC : aheadB (Q (j * 2)) (Q (j * 2 + 1)) (Q (i * 2)) (Q (i * 2 + 1)) with
                    | false =>
                      have hno : Shut (stepPB U n Q i = false) := (by unfold stepPB; rw [show i - 1 = j from by have := HJ.out; omega, eC, decide_eq_false (by omega : ¬ i = 0)]; simp : stepPB U n Q i = false)
                      refine wp_region_held_drew (S := fun w' => w'.cell? ⟨w.heap.size, 3, none⟩ = some (.slice (some ⟨b, o, none⟩) m c') ∧ w'.cell? ⟨bp, 0, none⟩ = some (.int .i64 (Q (i * 2))) ∧ w'.cell? ⟨bp, 1, none⟩ = some (.int .i64 (Q (i * 2 + 1))) ∧ w'.cell? ⟨b, o + j * 2, none⟩ = some (.int .i64 (Q (j * 2))) ∧ w'.cell? ⟨b, o + j * 2 + 1, none⟩ = some (.int .i64 (Q (j * 2 + 1)))) (by kernel_rfl) ?_ (fun hHeld => ?_)
                      · (try dsimp only)
                        (first | (go_simp; done) | (go_keep; done))
                      refine tq 0 hHeld ?_
                      refine tq 1 hHeld ?_
                      refine tq 2 hHeld ?_
                      refine tq 3 hHeld ?_
                      refine tq 4 hHeld ?_
                      refine tq 5 hHeld ?_
                      refine tq 6 hHeld ?_
                      refine tq 7 hHeld ?_
                      refine tq 8 hHeld ?_
                      refine tq 9 hHeld ?_
                      refine tq 10 hHeld ?_
                      refine tq 11 hHeld ?_
                      refine tq 12 hHeld ?_
                      refine tq 13 hHeld ?_
                      refine tq 14 hHeld ?_
                      refine tq 15 hHeld ?_
                      refine tq 16 hHeld ?_
                      refine tq 17 hHeld ?_
                      refine tq 18 hHeld ?_
                      refine tq 19 hHeld ?_
                      refine tq 20 hHeld ?_
                      refine tq 21 hHeld ?_
                      refine tq 22 hHeld ?_
                      refine tq 23 hHeld ?_
                      (refine tc 24 fun K hK => ?_; go_simp; (go_at_call 30; refine (ahead_q _ _ _ _ _ _ eC).mono ?_; rintro e w6 ⟨rfl, hb6⟩; obtain ⟨hc6, hf6⟩ := bcell hb6; have hz6 := hb6.size; (try simp only [World.size_drew, World.size_alloc, World.size_setCell] at hc6 hf6 hz6); have hk6x0 := fun o => hc6 (w.heap.size) o (by omega); have hj6x0 := fun o => hf6 (w.heap.size) o (by omega); have hq6x0 : w.heap.size < w6.heap.size := (by omega); have hk6x1 := fun o => hc6 (bp) o (by omega); have hj6x1 := fun o => hf6 (bp) o (by omega); have hq6x1 : bp < w6.heap.size := (by omega); have hk6x2 := fun o => hc6 (b) o (by omega); have hj6x2 := fun o => hf6 (b) o (by omega); have hq6x2 : b < w6.heap.size := (by omega); clear hc6 hf6); (try go_wp2_with fail); refine tr hK (fun hHeld => ?_); clear hK K)
                      refine tq 25 hHeld ?_
                      refine tq 26 hHeld ?_
                      refine tq 27 hHeld ?_
                      refine wpAnyH_done (by kernel_rfl) ?_ _
                      go_wp2_with fail
                      go_ret
                      exact ⟨by rw [allPB_no hno.out m hlt]; rfl, hBc.bel.trans ((hb6.ofDr).mono (Nat.le_of_lt hBc.big))⟩
                    | true =>
                      have hyes : Shut (stepPB U n Q i = true) := (by unfold stepPB; rw [show i - 1 = j from by have := HJ.out; omega, eC, eA, eB, decide_eq_true hAB]; simp : stepPB U n Q i = true)
                      refine wp_region_held_drew (S := fun w' => w'.cell? ⟨w.heap.size, 3, none⟩ = some (.slice (some ⟨b, o, none⟩) m c') ∧ w'.cell? ⟨bp, 0, none⟩ = some (.int .i64 (Q (i * 2))) ∧ w'.cell? ⟨bp, 1, none⟩ = some (.int .i64 (Q (i * 2 + 1))) ∧ w'.cell? ⟨b, o + j * 2, none⟩ = some (.int .i64 (Q (j * 2))) ∧ w'.cell? ⟨b, o + j * 2 + 1, none⟩ = some (.int .i64 (Q (j * 2 + 1)))) (by kernel_rfl) ?_ (fun hHeld => ?_)
                      · (try dsimp only)
                        (first | (go_simp; done) | (go_keep; done))
                      refine tq 0 hHeld ?_
                      refine tq 1 hHeld ?_
                      refine tq 2 hHeld ?_
                      refine tq 3 hHeld ?_
                      refine tq 4 hHeld ?_
                      refine tq 5 hHeld ?_
                      refine tq 6 hHeld ?_
                      refine tq 7 hHeld ?_
                      refine tq 8 hHeld ?_
                      refine tq 9 hHeld ?_
                      refine tq 10 hHeld ?_
                      refine tq 11 hHeld ?_
                      refine tq 12 hHeld ?_
                      refine tq 13 hHeld ?_
                      refine tq 14 hHeld ?_
                      refine tq 15 hHeld ?_
                      refine tq 16 hHeld ?_
                      refine tq 17 hHeld ?_
                      refine tq 18 hHeld ?_
                      refine tq 19 hHeld ?_
                      refine tq 20 hHeld ?_
                      refine tq 21 hHeld ?_
                      refine tq 22 hHeld ?_
                      refine tq 23 hHeld ?_
                      (refine tc 24 fun K hK => ?_; go_simp; (go_at_call 30; refine (ahead_q _ _ _ _ _ _ eC).mono ?_; rintro e w6 ⟨rfl, hb6⟩; obtain ⟨hc6, hf6⟩ := bcell hb6; have hz6 := hb6.size; (try simp only [World.size_drew, World.size_alloc, World.size_setCell] at hc6 hf6 hz6); have hk6x0 := fun o => hc6 (w.heap.size) o (by omega); have hj6x0 := fun o => hf6 (w.heap.size) o (by omega); have hq6x0 : w.heap.size < w6.heap.size := (by omega); have hk6x1 := fun o => hc6 (bp) o (by omega); have hj6x1 := fun o => hf6 (bp) o (by omega); have hq6x1 : bp < w6.heap.size := (by omega); have hk6x2 := fun o => hc6 (b) o (by omega); have hj6x2 := fun o => hf6 (b) o (by omega); have hq6x2 : b < w6.heap.size := (by omega); clear hc6 hf6); (try go_wp2_with fail); refine tr hK (fun hHeld => ?_); clear hK K)
                      refine tq 25 hHeld ?_
                      refine tq 26 hHeld ?_
                      refine tq 27 hHeld ?_
                      refine wpAnyH_done (by kernel_rfl) ?_ _
                      go_wp2_with fail
                      go_roundw
                      case rel => exact ⟨i + 1, by omega, by go_num, hBc.on (hb6.ofDr), by rw [allPB, hall.out, hyes.out]; rfl⟩
                      case measure => simp [intOf]; omega
                  · have hd0 : decide (0 < i) = false := decide_eq_false hk0
                    have HK : Shut (i = 0) := (by omega : i = 0)
                    clear hk0
                    have hyes : Shut (stepPB U n Q i = true) := (by unfold stepPB; rw [eA, eB, decide_eq_true hAB, decide_eq_true HK.out]; rfl : stepPB U n Q i = true)
                    refine wp_region_held_drew (S := fun w' => w'.cell? ⟨w.heap.size, 3, none⟩ = some (.slice (some ⟨b, o, none⟩) m c') ∧ w'.cell? ⟨bp, 0, none⟩ = some (.int .i64 (Q (i * 2))) ∧ w'.cell? ⟨bp, 1, none⟩ = some (.int .i64 (Q (i * 2 + 1)))) (by kernel_rfl) ?_ (fun hHeld => ?_)
                    · (try dsimp only)
                      (first | (go_simp; done) | (go_keep; done))
                    refine tq 0 hHeld ?_
                    refine tq 1 hHeld ?_
                    refine tq 2 hHeld ?_
                    refine tq 3 hHeld ?_
                    refine tq 4 hHeld ?_
                    refine tq 5 hHeld ?_
                    refine tq 6 hHeld ?_
                    refine tq 7 hHeld ?_
                    refine tq 8 hHeld ?_
                    refine tq 9 hHeld ?_
                    refine tq 10 hHeld ?_
                    refine tq 11 hHeld ?_
                    refine tq 12 hHeld ?_
                    refine tq 13 hHeld ?_
                    refine tq 14 hHeld ?_
                    refine tq 15 hHeld ?_
                    refine tq 16 hHeld ?_
                    refine tn 17 hHeld ?_
                    refine tn 18 hHeld ?_
                    refine tn 19 hHeld ?_
                    refine tn 20 hHeld ?_
                    refine tn 21 hHeld ?_
                    refine tn 22 hHeld ?_
                    refine tn 23 hHeld ?_
                    refine tn 24 hHeld ?_
                    refine tn 25 hHeld ?_
                    refine tq 26 hHeld ?_
                    refine tq 27 hHeld ?_
                    refine wpAnyH_done (by kernel_rfl) ?_ _
                    go_wp2_with fail
                    go_roundw
                    case rel => exact ⟨i + 1, by omega, by go_num, hBc.on (Below.drew (Below.refl _ _)), by rw [allPB, hall.out, hyes.out]; rfl⟩
                    case measure => simp [intOf]; omega
                · have hd1 : decide (Q (i * 2 + 1) ≤ Q (i * 2)) = true := decide_eq_true (by omega)
                  have hno : Shut (stepPB U n Q i = false) := (by unfold stepPB; rw [decide_eq_false hAB]; rfl : stepPB U n Q i = false)
                  refine wp_region_held_drew (S := fun w' => w'.cell? ⟨w.heap.size, 3, none⟩ = some (.slice (some ⟨b, o, none⟩) m c') ∧ w'.cell? ⟨bp, 0, none⟩ = some (.int .i64 (Q (i * 2))) ∧ w'.cell? ⟨bp, 1, none⟩ = some (.int .i64 (Q (i * 2 + 1)))) (by kernel_rfl) ?_ (fun hHeld => ?_)
                  · (try dsimp only)
                    (first | (go_simp; done) | (go_keep; done))
                  refine tq 0 hHeld ?_
                  refine tq 1 hHeld ?_
                  refine tq 2 hHeld ?_
                  refine tq 3 hHeld ?_
                  refine tq 4 hHeld ?_
                  refine tq 5 hHeld ?_
                  refine tq 6 hHeld ?_
                  refine tq 7 hHeld ?_
                  refine tq 8 hHeld ?_
                  refine tq 9 hHeld ?_
                  refine tq 10 hHeld ?_
                  refine tq 11 hHeld ?_
                  refine tq 12 hHeld ?_
                  refine tq 13 hHeld ?_
                  refine tn 14 hHeld ?_
                  refine tn 15 hHeld ?_
                  refine tn 16 hHeld ?_
                  refine tn 17 hHeld ?_
                  refine tn 18 hHeld ?_
                  refine tn 19 hHeld ?_
                  refine tn 20 hHeld ?_
                  refine tn 21 hHeld ?_
                  refine tn 22 hHeld ?_
                  refine tn 23 hHeld ?_
                  refine tn 24 hHeld ?_
                  refine tn 25 hHeld ?_
                  refine tn 26 hHeld ?_
                  refine tq 27 hHeld ?_
                  refine wpAnyH_done (by kernel_rfl) ?_ _
                  go_wp2_with fail
                  go_ret
                  exact ⟨by rw [allPB_no hno.out m hlt]; rfl, hBc.bel.trans ((Below.drew (Below.refl _ _)).mono (Nat.le_of_lt hBc.big))⟩
          · obtain rfl : i = m := by omega
            go_wp2
            go_ret
            exact ⟨by rw [hall.out]; rfl, hB.bel⟩
end Go.Proofs.Ytgcobcmpkbcfoaa
namespace Go.Proofs.Ytgcobcmpkbcfoaa
open Go.RowKit
set_option linter.unusedVariables false
set_option linter.unusedSimpArgs false

/-- a world of the program's own, in a variable at bx -/
structure Xw (wc : World) (bx : Nat) (T P : Int) (n m b d : Nat) (U Q : Nat → Int) : Prop where
  c0 : wc.cell? ⟨bx, 0, none⟩ = some (.int .i64 T)
  c1 : wc.cell? ⟨bx, 1, none⟩ = some (.int .i64 P)
  c2 : wc.cell? ⟨bx, 2, none⟩ = some (.slice (some ⟨b, 0, none⟩) n n)
  c3 : wc.cell? ⟨bx, 3, none⟩ = some (.slice (some ⟨d, 0, none⟩) m m)
  lt : bx < wc.heap.size
  hr : Row wc b 81 (n * 12) U
  hq : Row wc d 65 (m * 2) Q
theorem Xw.on {wc w' : World} {bx n m b d : Nat} {T P : Int} {U Q : Nat → Int} (h : Xw wc bx T P n m b d U Q) (hb : Below wc.heap.size wc w') : Xw w' bx T P n m b d U Q :=
  ⟨(hb.cell (p := ⟨bx, 0, none⟩) h.lt).trans h.c0, (hb.cell (p := ⟨bx, 1, none⟩) h.lt).trans h.c1, (hb.cell (p := ⟨bx, 2, none⟩) h.lt).trans h.c2, (hb.cell (p := ⟨bx, 3, none⟩) h.lt).trans h.c3, Nat.lt_of_lt_of_le h.lt hb.size, h.hr.below hb, h.hq.below hb⟩
set_option maxRecDepth 20000 in
set_option maxHeartbeats 8000000 in
theorem fnExactWorldOk_walk (T P : Int) (a : Option Addr) (n c : Nat) (U : Nat → Int) (a' : Option Addr) (m c' : Nat) (Q : Nat → Int) (w : World) (h : Flat w a (n * 12) U) (h' : Flat w a' (m * 2) Q) (hn : (n : Int) ≤ 9223372036854775807) (hm : (m : Int) ≤ 9223372036854775807) :
    Calls Try.prog 3 #[worldW T P a n c a' m c'] w fun e w' => e = .returned (.bool true) ∧ Below w.heap.size w w' := by
  have hset := cset_map
  by_cases h20 : n + m ≤ 1048576
  · go_enter Try.func3, Try.ntmps3
    go_upto_region 2 with fail
    go_cut [3] (fun s wc => ∃ z : Int, s = .int .i64 z ∧ 0 ≤ z ∧ WdR w T P a n c a' m c' wc)
    case first =>
      go_wp2_with (go_at_call 7; refine (szWorld_any T P a n c a' m c' _ hn hm).mono ?_; rintro e w1 ⟨⟨z, rfl, hz1, hz2, hz3⟩, hb1⟩)
      go_meet
      exact ⟨z, rfl, hz1.2 h20, WdR.on ⟨(Below.refl _ _).alloc (Nat.le_refl _) _, by simp, by go_simp, by go_simp, by go_simp, by go_simp⟩ hb1⟩
    case rest =>
    obtain ⟨z, rfl, hz, hB⟩ := hcut
    have hz' : ¬ z < 0 := by omega
    have z0 := hB.c0
    have z1 := hB.c1
    have z2 := hB.c2
    have z3 := hB.c3
    have hbig := hB.big
    generalize hv : worldB T P n U m Q = v
    go_upto_region 5 with fail
    go_cut [4] (fun s wc => s = .bool v ∧ WdR w T P a n c a' m c' wc)
    case first =>
      go_wp2_with (first
        | (go_at_call 9; refine (toWorld_any T P a n c U a' m c' Q _ (h.below hB.bel) (h'.below hB.bel) (by omega) (by omega)).mono ?_; rintro e w2 ⟨b2, d2, s2, rfl, hl2, hl2a, hl2b, hl2c, hr2, hq2, hb2⟩)
        | (go_at_call 8; refine (sWorldOk_q T P _ n _ U _ m _ Q _ hr2.flat hq2.flat (by omega) (by omega) v hv).mono ?_; rintro e w3 ⟨rfl, hb3⟩))
      go_meet
      exact ⟨rfl, (hB.on hb2).on hb3⟩
    case rest =>
    clear hB z0 z1 z2 z3 hbig
    obtain ⟨rfl, hB⟩ := hcut
    have z0 := hB.c0
    have z1 := hB.c1
    have z2 := hB.c2
    have z3 := hB.c3
    have hbig := hB.big
    go_upto_region 6 with fail
    go_cut [5] (fun s wc => ∃ bx b d, s = .pointer (some ⟨bx, 0, none⟩) ∧ WdR w T P a n c a' m c' wc ∧ Xw wc bx T P n m b d U Q)
    case first =>
      go_wp2_with (go_at_call 9; refine (toWorld_any T P a n c U a' m c' Q _ (h.below hB.bel) (h'.below hB.bel) (by omega) (by omega)).mono ?_; rintro e w2 ⟨b2, d2, s2, rfl, hl2, hl2a, hl2b, hl2c, hr2, hq2, hb2⟩)
      go_meet
      have hE : Below w2.heap.size w2 (w2.alloc (.cells #[.int .i64 T, .int .i64 P, .slice (some ⟨b2, 0, none⟩) n n, .slice (some ⟨d2, 0, none⟩) m m] 31)) := (Below.refl _ _).alloc (Nat.le_refl _) _
      exact ⟨_, b2, d2, rfl, (hB.on hb2).on hE, by go_simp, by go_simp, by go_simp, by go_simp, by simp, hr2.below hE, hq2.below hE⟩
    case rest =>
    clear hB z0 z1 z2 z3 hbig
    obtain ⟨bx, b, d, rfl, hB, hX⟩ := hcut
    have z0 := hB.c0
    have z1 := hB.c1
    have z2 := hB.c2
    have z3 := hB.c3
    have hbig := hB.big
    have x0 := hX.c0
    have x1 := hX.c1
    have x2 := hX.c2
    have x3 := hX.c3
    have hxl := hX.lt
    go_upto_region 7 with fail
    go_cut [6] (fun s wc => s = .bool v ∧ WdR w T P a n c a' m c' wc ∧ Xw wc bx T P n m b d U Q)
    case first =>
      go_wp2_with (go_at_call 10; refine (worldOk_q T P _ n _ U _ m _ Q _ hX.hr.flat hX.hq.flat (by omega) (by omega) v hv).mono ?_; rintro e w3 ⟨rfl, hb3⟩)
      go_meet
      exact ⟨rfl, hB.on hb3, hX.on hb3⟩
    case rest =>
    clear hB z0 z1 z2 z3 hbig hX x0 x1 x2 x3 hxl
    obtain ⟨rfl, hB, hX⟩ := hcut
    have z0 := hB.c0
    have z1 := hB.c1
    have z2 := hB.c2
    have z3 := hB.c3
    have hbig := hB.big
    have x0 := hX.c0
    have x1 := hX.c1
    have x2 := hX.c2
    have x3 := hX.c3
    have hxl := hX.lt
    clear hv
    go_upto_region 8 with fail
    go_cut [21] (fun s wc => s = .bool false ∧ WdR w T P a n c a' m c' wc ∧ Xw wc bx T P n m b d U Q)
    case first =>
      cases v <;> (go_wp2; go_meet; exact ⟨rfl, hB, hX⟩)
    case rest =>
    clear hB z0 z1 z2 z3 hbig hX x0 x1 x2 x3 hxl
    obtain ⟨rfl, hB, hX⟩ := hcut
    have z0 := hB.c0
    have z1 := hB.c1
    have z2 := hB.c2
    have z3 := hB.c3
    have hbig := hB.big
    have x0 := hX.c0
    have x1 := hX.c1
    have x2 := hX.c2
    have x3 := hX.c3
    have hxl := hX.lt
    go_upto_region 10 with fail
    refine wp_region_held_drew (S := fun w' => w'.cell? ⟨w.heap.size, 0, none⟩ = some (.int .i64 T) ∧ w'.cell? ⟨w.heap.size, 1, none⟩ = some (.int .i64 P) ∧ w'.cell? ⟨w.heap.size, 2, none⟩ = some (.slice a n c) ∧ w'.cell? ⟨w.heap.size, 3, none⟩ = some (.slice a' m c') ∧ w'.cell? ⟨bx, 0, none⟩ = some (.int .i64 T) ∧ w'.cell? ⟨bx, 1, none⟩ = some (.int .i64 P) ∧ w'.cell? ⟨bx, 2, none⟩ = some (.slice (some ⟨b, 0, none⟩) n n) ∧ w'.cell? ⟨bx, 3, none⟩ = some (.slice (some ⟨d, 0, none⟩) m m)) (by kernel_rfl) ?_ (fun hHeld => ?_)
    · (try dsimp only)
      (first | (go_simp; done) | (go_keep; done))
    refine tq 0 hHeld ?_
    refine tq 1 hHeld ?_
    (refine tc 2 fun K hK => ?_; go_simp; (go_at_call 9; refine (toWorld_any T P a n c U a' m c' Q _ (h.below hB.bel.drew) (h'.below hB.bel.drew) (by omega) (by omega)).mono ?_; rintro e w6 ⟨b6, d6, s6, rfl, hl6, hl6a, hl6b, hl6c, hr6, hq6, hb6⟩; have hB6 := hB.on hb6.ofDr; have hX6 := hX.on hb6.ofDr; have q0 := hB6.c0; have q1 := hB6.c1; have q2 := hB6.c2; have q3 := hB6.c3; have r0 := hX6.c0; have r1 := hX6.c1; have r2 := hX6.c2; have r3 := hX6.c3); (try go_wp2_with fail); refine tr hK (fun hHeld => ?_); clear hK K)
    (refine tc 3 fun K hK => ?_; go_simp; (go_at_call 11; refine (eqWorld_same T P _ _ n _ _ U _ _ m _ _ Q _ hX6.hr.flat hr6.flat hX6.hq.flat hq6.flat (by omega) (by omega)).mono ?_; rintro e w7 ⟨rfl, hb7⟩; have hB7 := hB6.on hb7; have hX7 := hX6.on hb7; have t0 := hB7.c0; have t1 := hB7.c1; have t2 := hB7.c2; have t3 := hB7.c3; have u0' := hX7.c0; have u1' := hX7.c1; have u2' := hX7.c2; have u3' := hX7.c3); (try go_wp2_with fail); refine tr hK (fun hHeld => ?_); clear hK K)
    refine tq 4 hHeld ?_
    refine wpAnyH_done (by kernel_rfl) ?_ _
    go_wp2_with fail
    go_ret
    exact ⟨rfl, hB7.bel⟩
  · go_enter Try.func3, Try.ntmps3
    go_upto_region 2 with fail
    go_cut [3] (fun s wc => ∃ z : Int, s = .int .i64 z ∧ z < 0 ∧ Below w.heap.size w wc)
    case first =>
      go_wp2_with (go_at_call 7; refine (szWorld_any T P a n c a' m c' _ hn hm).mono ?_; rintro e w1 ⟨⟨z, rfl, hz1, hz2, hz3⟩, hb1⟩)
      go_meet
      exact ⟨z, rfl, by omega, by repeat (first | with_reducible apply Below.refl | (with_reducible apply Below.setCell; rotate_left; focus (first | omega | (simp; done) | (simp; omega))) | (with_reducible apply Below.alloc; rotate_left; focus (first | omega | (simp; done) | (simp; omega))) | with_reducible apply Below.drew | with_reducible apply belowDrewN | (with_reducible apply Below.trans; rotate_left; with_reducible apply Below.mono; with_reducible assumption; focus (first | omega | (simp; done) | (simp; omega))))⟩
    case rest =>
    obtain ⟨z, rfl, hz, hB⟩ := hcut
    go_wp2
    go_ret
    exact ⟨rfl, hB⟩
end Go.Proofs.Ytgcobcmpkbcfoaa
namespace Go.Proofs.Ytgcobcmpkbcfoaa
open Go.RowKit
set_option linter.unusedVariables false
set_option linter.unusedSimpArgs false

/-- a quotient, cut downwards -/
def downZ (n m : Int) : Int := if n.tdiv m * m ≠ n ∧ decide (n < 0) ≠ decide (m < 0) then n.tdiv m - 1 else n.tdiv m

theorem downZ_bd {n m B : Int} (h : -B ≤ n ∧ n ≤ B) : -B - 1 ≤ downZ n m ∧ downZ n m ≤ B := by
  have := tdiv_bd m h
  unfold downZ
  split <;> omega

set_option maxHeartbeats 1000000 in
theorem downOver_any (n m : Int) (w : World) (hn : -4000000000000 ≤ n ∧ n ≤ 4000000000000) (hm : -1000000000 ≤ m ∧ m ≤ 1000000000) (h0 : m ≠ 0) :
    Calls Try.prog 123 #[.int .i64 n, .int .i64 m] w fun e w' => e = .returned (.int .i64 (downZ n m)) ∧ w' = w := by
  have hq := tdiv_bd (x := n) (B := 4000000000000) m hn
  have hz : (m == 0) = false := by simp; exact h0
  have hk : n.tdiv m * m = n - n.tmod m := by have := Int.tdiv_mul_add_tmod n m; omega
  have hr : -4000000000000 ≤ n.tmod m ∧ n.tmod m ≤ 4000000000000 := by
    have q := tmod_abs n h0
    unfold absZ at q
    split at q <;> split at q <;> omega
  have hw1 := w64 (n := n.tdiv m) (by omega)
  have hw2 := w64 (n := n.tdiv m * m) (by omega)
  have hw3 := w64 (n := n.tdiv m - 1) (by omega)
  have hv1 := i64w (n := n.tdiv m) (by omega)
  have hv2 := i64w (n := n.tdiv m * m) (by omega)
  have hv3 := i64w (n := n.tdiv m - 1) (by omega)
  clear hk hr
  by_cases c1 : n.tdiv m * m = n
  · have e : downZ n m = n.tdiv m := by unfold downZ; rw [if_neg (fun q => q.1 c1)]
    rw [e]
    go_enter Try.func123, Try.ntmps123
    go_wp2
    all_goals
      go_ret
      exact ⟨rfl, rfl⟩
  · have d1 : (n.tdiv m * m == n) = false := by simp; exact c1
    by_cases c2 : n < 0
    · have d2 : decide (n < 0) = true := decide_eq_true c2
      by_cases c3 : m < 0
      · have d3 : decide (m < 0) = true := decide_eq_true c3
        have e : downZ n m = n.tdiv m := by unfold downZ; rw [if_neg (fun q => q.2 (by rw [d2, d3]))]
        rw [e]
        go_enter Try.func123, Try.ntmps123
        go_wp2
        all_goals
          go_ret
          exact ⟨rfl, rfl⟩
      · have d3 : decide (m < 0) = false := decide_eq_false c3
        have e : downZ n m = n.tdiv m - 1 := by unfold downZ; rw [if_pos ⟨c1, by rw [d2, d3]; decide⟩]
        rw [e]
        go_enter Try.func123, Try.ntmps123
        go_wp2
        all_goals
          go_ret
          exact ⟨rfl, rfl⟩
    · have d2 : decide (n < 0) = false := decide_eq_false c2
      by_cases c3 : m < 0
      · have d3 : decide (m < 0) = true := decide_eq_true c3
        have e : downZ n m = n.tdiv m - 1 := by unfold downZ; rw [if_pos ⟨c1, by rw [d2, d3]; decide⟩]
        rw [e]
        go_enter Try.func123, Try.ntmps123
        go_wp2
        all_goals
          go_ret
          exact ⟨rfl, rfl⟩
      · have d3 : decide (m < 0) = false := decide_eq_false c3
        have e : downZ n m = n.tdiv m := by unfold downZ; rw [if_neg (fun q => q.2 (by rw [d2, d3]))]
        rw [e]
        go_enter Try.func123, Try.ntmps123
        go_wp2
        all_goals
          go_ret
          exact ⟨rfl, rfl⟩

set_option maxHeartbeats 1000000 in
theorem upOver_any (n m : Int) (w : World) (hn : -3000000000000 ≤ n ∧ n ≤ 3000000000000) (hm : -1000000000 ≤ m ∧ m ≤ 1000000000) (h0 : m ≠ 0) :
    Calls Try.prog 124 #[.int .i64 n, .int .i64 m] w fun e w' => e = .returned (.int .i64 (-downZ (-n) m)) ∧ w' = w := by
  have hb := downZ_bd (n := -n) (m := m) (B := 3000000000000) (by omega)
  go_enter Try.func124, Try.ntmps124
  go_wp2_with (go_at_call 123; refine (downOver_any _ _ _ (by omega) (by omega) h0).mono ?_; rintro e w' ⟨rfl, rfl⟩)
  go_ret
  exact ⟨rfl, rfl⟩
end Go.Proofs.Ytgcobcmpkbcfoaa
