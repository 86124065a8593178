/- Whether a world is ok, by the specification. The exact law of WorldOk, walked. Lemmas on whatever program: from the head of its cut's word to the closed facts. Closed facts of the loaded program, each a theorem of its own. Slices of things that are numbers alone, as they come in. Lists of bodies, as they come in. Worlds, as they come in. -/
import Derived.Test.YtgcobcmpkbcfoaaWdI
import Derived.Test.YtgcobcmpkbcfoaaB7
import Derived.Deep.RegionHeld3
import Derived.Deep.DeepCutAuto
import Derived.Test.YtgcobcmpkbcfoaaRows
import Derived.WalkKit
import Derived.JoinedOf
import Derived.ProofKit
import Derived.Test.YtgcobcmpkbcfoaaB1
import Derived.Deep.Slices
import Derived.ChangeSame
import Derived.ChangeArms
namespace Go.Proofs.Ytgcobcmpkbcfoaa
open Go.RowKit
set_option linter.unusedVariables false
set_option linter.unusedSimpArgs false

set_option maxRecDepth 20000 in
set_option maxHeartbeats 4000000 in
theorem l10At_q (a : Option Addr) (n c : Nat) (U : Nat → Int) (id : Int) (p : Nat) (w : World) (h : Flat w a (n * 12) U) (hn : n ≤ 1048576) (hp : idP U n id p) (bb : Bool) (eb : decide (p < n ∧ U (p * 12) = id) = bb) :
    Calls Try.prog 29 #[.slice a n c, .int .i64 id] w fun e w' => e = .returned (.tuple #[.int .i64 (p : Int), .bool bb]) ∧ Below w.heap.size w w' := by
  have hset := cset_map
  go_enter Try.func29, Try.ntmps29
  go_wp2
  go_loopw [6] (fun i wr => ∃ k : Nat, k ≤ p ∧ i = .int .i64 (k : Int) ∧ wr = w) (fun i _ => n - (intOf i).toNat)
  case atStart => exact ⟨0, Nat.zero_le _, rfl, rfl⟩
  case round =>
    obtain ⟨k, hk, rfl, rfl⟩ := hrel
    have hpn := hp.le
    by_cases hlt : k < p
    · have hkn : (k : Int) < (n : Int) := by omega
      have hkk : k < n := by omega
      have hl := hp.lo k hlt
      obtain ⟨b, o, rfl, hbl, hc⟩ := h (by omega)
      have c0 := hc (k * 12) (by omega)
      clear hc
      go_wp2
      go_roundw
      case rel => exact ⟨k + 1, by omega, by go_num, by first | rfl | trivial⟩
      case measure => simp [intOf]; omega
    · obtain rfl : k = p := by omega
      by_cases hkn : k < n
      · have hkn' : (k : Int) < (n : Int) := by omega
        have hge : ¬ U (k * 12) < id := by have := hp.hi hkn; omega
        obtain ⟨b, o, rfl, hbl, hc⟩ := h (by omega)
        have c0 := hc (k * 12) (by omega)
        clear hc
        have hb : (U (k * 12) == id) = bb := by rw [← eb]; by_cases q : U (k * 12) = id <;> simp [q, hkn]
        have EB : Shut (decide (k < n ∧ U (k * 12) = id) = bb) := eb
        clear eb
        go_upto_region 4 with fail
        refine wp_region_held_drew (S := fun w' => w'.cell? ⟨b, o + k * 12, none⟩ = some (.int .i64 (U (k * 12)))) (by kernel_rfl) ?_ (fun hHeld => ?_)
        · (try dsimp only)
          (first | (go_simp; done) | (go_keep; done))
        refine tq 0 hHeld ?_
        refine tq 1 hHeld ?_
        refine tq 2 hHeld ?_
        refine tq 3 hHeld ?_
        refine tq 4 hHeld ?_
        refine tq 5 hHeld ?_
        refine tq 6 hHeld ?_
        refine tq 7 hHeld ?_
        refine tq 8 hHeld ?_
        refine tq 9 hHeld ?_
        refine tq 10 hHeld ?_
        refine tq 11 hHeld ?_
        refine tq 12 hHeld ?_
        refine tq 13 hHeld ?_
        refine tq 14 hHeld ?_
        refine tq 15 hHeld ?_
        refine wpAnyH_done (by kernel_rfl) ?_ _
        go_wp2_with fail
        exact bodyPost_ret (v := .tuple #[.int .i64 (k : Int), .bool bb]) (by simp [results, Try.results29, go_sem, *]) rfl ⟨rfl, by repeat (first | with_reducible apply Below.refl | (with_reducible apply Below.setCell; rotate_left; focus (first | omega | (simp; done) | (simp; omega))) | (with_reducible apply Below.alloc; rotate_left; focus (first | omega | (simp; done) | (simp; omega))) | with_reducible apply Below.drew | with_reducible apply belowDrewN | (with_reducible apply Below.trans; rotate_left; with_reducible apply Below.mono; with_reducible assumption; focus (first | omega | (simp; done) | (simp; omega))))⟩
      · have hkn' : ¬ (k : Int) < (n : Int) := by omega
        obtain rfl : bb = false := by rw [← eb]; exact decide_eq_false (fun q => hkn q.1)
        clear eb
        go_upto_region 4 with fail
        refine wp_region_held_drew (S := fun w' => True) (by kernel_rfl) ?_ (fun hHeld => ?_)
        · (try dsimp only)
          (try trivial)
        refine tq 0 hHeld ?_
        refine tq 1 hHeld ?_
        refine tq 2 hHeld ?_
        refine tq 3 hHeld ?_
        refine tq 4 hHeld ?_
        refine tq 5 hHeld ?_
        refine tn 6 hHeld ?_
        refine tn 7 hHeld ?_
        refine tn 8 hHeld ?_
        refine tn 9 hHeld ?_
        refine tn 10 hHeld ?_
        refine tn 11 hHeld ?_
        refine tn 12 hHeld ?_
        refine tq 13 hHeld ?_
        refine tq 14 hHeld ?_
        refine tq 15 hHeld ?_
        refine wpAnyH_done (by kernel_rfl) ?_ _
        go_wp2_with fail
        exact bodyPost_ret (v := .tuple #[.int .i64 (k : Int), .bool false]) (by simp [results, Try.results29, go_sem, *]) rfl ⟨rfl, by repeat (first | with_reducible apply Below.refl | (with_reducible apply Below.setCell; rotate_left; focus (first | omega | (simp; done) | (simp; omega))) | (with_reducible apply Below.alloc; rotate_left; focus (first | omega | (simp; done) | (simp; omega))) | with_reducible apply Below.drew | with_reducible apply belowDrewN | (with_reducible apply Below.trans; rotate_left; with_reducible apply Below.mono; with_reducible assumption; focus (first | omega | (simp; done) | (simp; omega))))⟩
set_option maxHeartbeats 2000000 in
theorem ahead_q (p q r s : Int) (w : World) (b : Bool) (eb : aheadB p q r s = b) :
    Calls Try.prog 30 #[.agg #[.int .i64 p, .int .i64 q], .agg #[.int .i64 r, .int .i64 s]] w fun e w' => e = .returned (.bool b) ∧ Below w.heap.size w w' := by
  subst eb
  have hset := cset_map
  unfold aheadB
  by_cases h1 : p < r
  · have e0 : decide (p < r ∨ p = r ∧ q < s) = true := decide_eq_true (.inl h1)
    rw [e0]
    go_enter Try.func30, Try.ntmps30
    go_wp2
    go_ret
    exact ⟨rfl, by repeat (first | with_reducible apply Below.refl | (with_reducible apply Below.setCell; rotate_left; focus (first | omega | (simp; done) | (simp; omega))) | (with_reducible apply Below.alloc; rotate_left; focus (first | omega | (simp; done) | (simp; omega))) | with_reducible apply Below.drew | with_reducible apply belowDrewN | (with_reducible apply Below.trans; rotate_left; with_reducible apply Below.mono; with_reducible assumption; focus (first | omega | (simp; done) | (simp; omega))))⟩
  · by_cases h2 : p = r
    · have h2' : (p == r) = true := by simp [h2]
      by_cases h3 : q < s
      · have e0 : decide (p < r ∨ p = r ∧ q < s) = true := decide_eq_true (.inr ⟨h2, h3⟩)
        rw [e0]
        subst h2
        go_enter Try.func30, Try.ntmps30
        go_wp2
        go_ret
        exact ⟨rfl, by repeat (first | with_reducible apply Below.refl | (with_reducible apply Below.setCell; rotate_left; focus (first | omega | (simp; done) | (simp; omega))) | (with_reducible apply Below.alloc; rotate_left; focus (first | omega | (simp; done) | (simp; omega))) | with_reducible apply Below.drew | with_reducible apply belowDrewN | (with_reducible apply Below.trans; rotate_left; with_reducible apply Below.mono; with_reducible assumption; focus (first | omega | (simp; done) | (simp; omega))))⟩
      · have e0 : decide (p < r ∨ p = r ∧ q < s) = false := decide_eq_false (by omega)
        rw [e0]
        subst h2
        go_enter Try.func30, Try.ntmps30
        go_wp2
        go_ret
        exact ⟨rfl, by repeat (first | with_reducible apply Below.refl | (with_reducible apply Below.setCell; rotate_left; focus (first | omega | (simp; done) | (simp; omega))) | (with_reducible apply Below.alloc; rotate_left; focus (first | omega | (simp; done) | (simp; omega))) | with_reducible apply Below.drew | with_reducible apply belowDrewN | (with_reducible apply Below.trans; rotate_left; with_reducible apply Below.mono; with_reducible assumption; focus (first | omega | (simp; done) | (simp; omega))))⟩
    · have e0 : decide (p < r ∨ p = r ∧ q < s) = false := decide_eq_false (by omega)
      have h2' : (p == r) = false := by simp [h2]
      rw [e0]
      go_enter Try.func30, Try.ntmps30
      go_wp2
      go_ret
      exact ⟨rfl, by repeat (first | with_reducible apply Below.refl | (with_reducible apply Below.setCell; rotate_left; focus (first | omega | (simp; done) | (simp; omega))) | (with_reducible apply Below.alloc; rotate_left; focus (first | omega | (simp; done) | (simp; omega))) | with_reducible apply Below.drew | with_reducible apply belowDrewN | (with_reducible apply Below.trans; rotate_left; with_reducible apply Below.mono; with_reducible assumption; focus (first | omega | (simp; done) | (simp; omega))))⟩


set_option maxRecDepth 20000 in
set_option maxHeartbeats 8000000 in
theorem sWorldOk_q (T P : Int) (a : Option Addr) (n c : Nat) (U : Nat → Int) (a' : Option Addr) (m c' : Nat) (Q : Nat → Int) (w : World) (h : Flat w a (n * 12) U) (h' : Flat w a' (m * 2) Q) (hn : n ≤ 1048576) (hm : m ≤ 1048576) (bb : Bool) (ebb : worldB T P n U m Q = bb) :
    Calls Try.prog 8 #[worldW T P a n c a' m c'] w fun e w' => e = .returned (.bool bb) ∧ Below w.heap.size w w' := by
  subst ebb
  have hset := cset_map
  unfold worldB
  cases k1 : decide (0 ≤ T ∧ T ≤ 100000) with
  | false =>
    go_enter Try.func8, Try.ntmps8
    go_wp2_with (go_at_call 27; refine (l1In_q _ _ _ _ _ k1).mono ?_; rintro e w1 ⟨rfl, hb1⟩; obtain ⟨hc1, hf1⟩ := bcell hb1; have hz1 := hb1.size; (try simp only [World.size_drew, World.size_alloc, World.size_setCell] at hc1 hf1 hz1); have hk1x0 := fun o => hc1 (w.heap.size) o (by omega); have hj1x0 := fun o => hf1 (w.heap.size) o (by omega); have hq1x0 : w.heap.size < w1.heap.size := (by omega); clear hc1 hf1)
    go_ret
    exact ⟨rfl, by repeat (first | with_reducible apply Below.refl | (with_reducible apply Below.setCell; rotate_left; focus (first | omega | (simp; done) | (simp; omega))) | (with_reducible apply Below.alloc; rotate_left; focus (first | omega | (simp; done) | (simp; omega))) | with_reducible apply Below.drew | with_reducible apply belowDrewN | (with_reducible apply Below.trans; rotate_left; with_reducible apply Below.mono; with_reducible assumption; focus (first | omega | (simp; done) | (simp; omega))))⟩
  | true =>
    cases k2 : decide (0 ≤ P ∧ P ≤ 2560) with
    | false =>
      go_enter Try.func8, Try.ntmps8
      go_wp2_with (first
        | (have _ := hz1; (go_at_call 27; refine (l1In_q _ _ _ _ _ k2).mono ?_; rintro e w2 ⟨rfl, hb2⟩; obtain ⟨hc2, hf2⟩ := bcell hb2; have hz2 := hb2.size; (try simp only [World.size_drew, World.size_alloc, World.size_setCell] at hc2 hf2 hz2); have hk2x0 := fun o => hc2 (w.heap.size) o (by omega); have hj2x0 := fun o => hf2 (w.heap.size) o (by omega); have hq2x0 : w.heap.size < w2.heap.size := (by omega); clear hc2 hf2))
        | (go_at_call 27; refine (l1In_q _ _ _ _ _ k1).mono ?_; rintro e w1 ⟨rfl, hb1⟩; obtain ⟨hc1, hf1⟩ := bcell hb1; have hz1 := hb1.size; (try simp only [World.size_drew, World.size_alloc, World.size_setCell] at hc1 hf1 hz1); have hk1x0 := fun o => hc1 (w.heap.size) o (by omega); have hj1x0 := fun o => hf1 (w.heap.size) o (by omega); have hq1x0 : w.heap.size < w1.heap.size := (by omega); clear hc1 hf1))
      go_ret
      exact ⟨rfl, by repeat (first | with_reducible apply Below.refl | (with_reducible apply Below.setCell; rotate_left; focus (first | omega | (simp; done) | (simp; omega))) | (with_reducible apply Below.alloc; rotate_left; focus (first | omega | (simp; done) | (simp; omega))) | with_reducible apply Below.drew | with_reducible apply belowDrewN | (with_reducible apply Below.trans; rotate_left; with_reducible apply Below.mono; with_reducible assumption; focus (first | omega | (simp; done) | (simp; omega))))⟩
    | true =>
      cases k3 : bodsB n U with
      | false =>
        go_enter Try.func8, Try.ntmps8
        go_wp2_with (first
          | (have _ := hz1; (go_at_call 27; refine (l1In_q _ _ _ _ _ k2).mono ?_; rintro e w2 ⟨rfl, hb2⟩; obtain ⟨hc2, hf2⟩ := bcell hb2; have hz2 := hb2.size; (try simp only [World.size_drew, World.size_alloc, World.size_setCell] at hc2 hf2 hz2); have hk2x0 := fun o => hc2 (w.heap.size) o (by omega); have hj2x0 := fun o => hf2 (w.heap.size) o (by omega); have hq2x0 : w.heap.size < w2.heap.size := (by omega); clear hc2 hf2))
          | (go_at_call 27; refine (l1In_q _ _ _ _ _ k1).mono ?_; rintro e w1 ⟨rfl, hb1⟩; obtain ⟨hc1, hf1⟩ := bcell hb1; have hz1 := hb1.size; (try simp only [World.size_drew, World.size_alloc, World.size_setCell] at hc1 hf1 hz1); have hk1x0 := fun o => hc1 (w.heap.size) o (by omega); have hj1x0 := fun o => hf1 (w.heap.size) o (by omega); have hq1x0 : w.heap.size < w1.heap.size := (by omega); clear hc1 hf1)
          | (go_at_call 28; refine (sBodiesOk_q a n c U _ _ (h.below (by repeat (first | with_reducible apply Below.refl | (with_reducible apply Below.setCell; rotate_left; focus (first | omega | (simp; done) | (simp; omega))) | (with_reducible apply Below.alloc; rotate_left; focus (first | omega | (simp; done) | (simp; omega))) | with_reducible apply Below.drew | with_reducible apply belowDrewN | (with_reducible apply Below.trans; rotate_left; with_reducible apply Below.mono; with_reducible assumption; focus (first | omega | (simp; done) | (simp; omega)))))) hn k3).mono ?_; rintro e w3 ⟨rfl, hb3⟩; obtain ⟨hc3, hf3⟩ := bcell hb3; have hz3 := hb3.size; (try simp only [World.size_drew, World.size_alloc, World.size_setCell] at hc3 hf3 hz3); have hk3x0 := fun o => hc3 (w.heap.size) o (by omega); have hj3x0 := fun o => hf3 (w.heap.size) o (by omega); have hq3x0 : w.heap.size < w3.heap.size := (by omega); clear hc3 hf3))
        go_ret
        exact ⟨rfl, by repeat (first | with_reducible apply Below.refl | (with_reducible apply Below.setCell; rotate_left; focus (first | omega | (simp; done) | (simp; omega))) | (with_reducible apply Below.alloc; rotate_left; focus (first | omega | (simp; done) | (simp; omega))) | with_reducible apply Below.drew | with_reducible apply belowDrewN | (with_reducible apply Below.trans; rotate_left; with_reducible apply Below.mono; with_reducible assumption; focus (first | omega | (simp; done) | (simp; omega))))⟩
      | true =>
        simp only [Bool.true_and]
        have ha := bodsB_asc k3
        go_enter Try.func8, Try.ntmps8
        go_wp2_with (first
          | (have _ := hz1; (go_at_call 27; refine (l1In_q _ _ _ _ _ k2).mono ?_; rintro e w2 ⟨rfl, hb2⟩; obtain ⟨hc2, hf2⟩ := bcell hb2; have hz2 := hb2.size; (try simp only [World.size_drew, World.size_alloc, World.size_setCell] at hc2 hf2 hz2); have hk2x0 := fun o => hc2 (w.heap.size) o (by omega); have hj2x0 := fun o => hf2 (w.heap.size) o (by omega); have hq2x0 : w.heap.size < w2.heap.size := (by omega); clear hc2 hf2))
          | (go_at_call 27; refine (l1In_q _ _ _ _ _ k1).mono ?_; rintro e w1 ⟨rfl, hb1⟩; obtain ⟨hc1, hf1⟩ := bcell hb1; have hz1 := hb1.size; (try simp only [World.size_drew, World.size_alloc, World.size_setCell] at hc1 hf1 hz1); have hk1x0 := fun o => hc1 (w.heap.size) o (by omega); have hj1x0 := fun o => hf1 (w.heap.size) o (by omega); have hq1x0 : w.heap.size < w1.heap.size := (by omega); clear hc1 hf1)
          | (go_at_call 28; refine (sBodiesOk_q a n c U _ _ (h.below (by repeat (first | with_reducible apply Below.refl | (with_reducible apply Below.setCell; rotate_left; focus (first | omega | (simp; done) | (simp; omega))) | (with_reducible apply Below.alloc; rotate_left; focus (first | omega | (simp; done) | (simp; omega))) | with_reducible apply Below.drew | with_reducible apply belowDrewN | (with_reducible apply Below.trans; rotate_left; with_reducible apply Below.mono; with_reducible assumption; focus (first | omega | (simp; done) | (simp; omega)))))) hn k3).mono ?_; rintro e w3 ⟨rfl, hb3⟩; obtain ⟨hc3, hf3⟩ := bcell hb3; have hz3 := hb3.size; (try simp only [World.size_drew, World.size_alloc, World.size_setCell] at hc3 hf3 hz3); have hk3x0 := fun o => hc3 (w.heap.size) o (by omega); have hj3x0 := fun o => hf3 (w.heap.size) o (by omega); have hq3x0 : w.heap.size < w3.heap.size := (by omega); clear hc3 hf3))
        have hB3 : WdR w T P a n c a' m c' w3 := ⟨by repeat (first | with_reducible apply Below.refl | (with_reducible apply Below.setCell; rotate_left; focus (first | omega | (simp; done) | (simp; omega))) | (with_reducible apply Below.alloc; rotate_left; focus (first | omega | (simp; done) | (simp; omega))) | with_reducible apply Below.drew | with_reducible apply belowDrewN | (with_reducible apply Below.trans; rotate_left; with_reducible apply Below.mono; with_reducible assumption; focus (first | omega | (simp; done) | (simp; omega)))), by omega, by go_simp, by go_simp, by go_simp, by go_simp⟩
        clear hb1 hb2 hb3 hk1x0 hk2x0 hk3x0 hj1x0 hj2x0 hj3x0
        go_loopw [3, 4, 5, 6, 7, 8] (fun i _ _ _ _ _ wr => ∃ k : Nat, k ≤ m ∧ i = .int .i64 (k : Int) ∧ WdR w T P a n c a' m c' wr ∧ allPB U n Q k = true) (fun i _ _ _ _ _ _ => m - (intOf i).toNat)
        case atStart => exact ⟨0, Nat.zero_le _, rfl, hB3, rfl⟩
        case round =>
          obtain ⟨i, hi, rfl, hB, hall0⟩ := hrel
          have hall : Shut (allPB U n Q i = true) := hall0
          clear hall0 hB3
          have hbig := hB.big
          have z2 := hB.c2
          have z3 := hB.c3
          by_cases hlt : i < m
          · obtain ⟨b, o, rfl, hbl, hc⟩ := (h'.below hB.bel) (by omega)
            have hbl0 : b < w.heap.size := by obtain ⟨b', o', e, l, _⟩ := h' (by omega); simp only [Option.some.injEq, Addr.mk.injEq] at e; omega
            have x0 := hc (i * 2) (by omega)
            have x1 := hc (i * 2 + 1) (by omega)
            simp only [← Nat.add_assoc] at x0 x1
            obtain ⟨pA, hpA⟩ := idP_ex U (Q (i * 2)) n
            obtain ⟨pB, hpB⟩ := idP_ex U (Q (i * 2 + 1)) n
            have eA' := hasF_at ha hpA
            have eB' := hasF_at ha hpB
            generalize eA : hasF U n (Q (i * 2)) = vA at eA'
            generalize eB : hasF U n (Q (i * 2 + 1)) = vB at eB'
            go_upto_region 7 with fail
            have hE : Below wr.heap.size wr (wr.alloc (Obj.cells #[.int .i64 (Q (i * 2)), .int .i64 (Q (i * 2 + 1))] 65)) := (Below.refl _ _).alloc (Nat.le_refl _) _
            have hB2 := hB.on hE
            have y0 : (wr.alloc (Obj.cells #[.int .i64 (Q (i * 2)), .int .i64 (Q (i * 2 + 1))] 65)).cell? ⟨wr.heap.size, 0, none⟩ = some (.int .i64 (Q (i * 2))) := by go_simp
            have y1 : (wr.alloc (Obj.cells #[.int .i64 (Q (i * 2)), .int .i64 (Q (i * 2 + 1))] 65)).cell? ⟨wr.heap.size, 1, none⟩ = some (.int .i64 (Q (i * 2 + 1))) := by go_simp
            have hz : wr.heap.size < (wr.alloc (Obj.cells #[.int .i64 (Q (i * 2)), .int .i64 (Q (i * 2 + 1))] 65)).heap.size := by simp
            generalize (wr.alloc (Obj.cells #[.int .i64 (Q (i * 2)), .int .i64 (Q (i * 2 + 1))] 65)) = wx at hE hB2 y0 y1 hz ⊢
            clear x0 x1 z2 z3
            have hbb := hE.size
            generalize wr.heap.size = bp at y0 y1 hz hbig hbb ⊢
            have z2 := hB2.c2
            have z3 := hB2.c3
            have hbo : Shut (vA = decide (pA < n ∧ U (pA * 12) = Q (i * 2)) ∧ vB = decide (pB < n ∧ U (pB * 12) = Q (i * 2 + 1))) := ⟨eA', eB'⟩
            clear eA' eB'
            go_cut [6] (fun s wc => s = .bool vA ∧ WdR w T P a n c (some ⟨b, o, none⟩) m c' wc ∧ wc.cell? ⟨bp, 0, none⟩ = some (.int .i64 (Q (i * 2))) ∧ wc.cell? ⟨bp, 1, none⟩ = some (.int .i64 (Q (i * 2 + 1))) ∧ bp < wc.heap.size)
            case first =>
              go_wp2_with (go_at_call 29; refine (l10At_q a n c U _ pA _ (h.below hB2.bel) hn hpA vA hbo.out.1.symm).mono ?_; rintro e w4 ⟨rfl, hb4⟩; obtain ⟨hc4, hf4⟩ := bcell hb4; have hz4 := hb4.size; (try simp only [World.size_drew, World.size_alloc, World.size_setCell] at hc4 hf4 hz4); have hk4x0 := fun o => hc4 (bp) o (by omega); have hj4x0 := fun o => hf4 (bp) o (by omega); have hq4x0 : bp < w4.heap.size := (by omega); clear hc4 hf4)
              go_meet
              exact ⟨rfl, hB2.on hb4, by go_simp, by go_simp, by omega⟩
            case rest =>
            clear hB2 y0 y1 hz z2 z3
            obtain ⟨rfl, hB2, y0, y1, hz⟩ := hcut
            have z2 := hB2.c2
            have z3 := hB2.c3
            go_upto_region 8 with fail
            go_cut [8] (fun s wd => s = .bool vB ∧ WdR w T P a n c (some ⟨b, o, none⟩) m c' wd ∧ wd.cell? ⟨bp, 0, none⟩ = some (.int .i64 (Q (i * 2))) ∧ wd.cell? ⟨bp, 1, none⟩ = some (.int .i64 (Q (i * 2 + 1))) ∧ bp < wd.heap.size)
            case first =>
              go_wp2_with (go_at_call 29; refine (l10At_q a n c U _ pB _ (h.below hB2.bel) hn hpB vB hbo.out.2.symm).mono ?_; rintro e w4 ⟨rfl, hb4⟩; obtain ⟨hc4, hf4⟩ := bcell hb4; have hz4 := hb4.size; (try simp only [World.size_drew, World.size_alloc, World.size_setCell] at hc4 hf4 hz4); have hk4x0 := fun o => hc4 (bp) o (by omega); have hj4x0 := fun o => hf4 (bp) o (by omega); have hq4x0 : bp < w4.heap.size := (by omega); clear hc4 hf4)
              go_meet
              exact ⟨rfl, hB2.on hb4, by go_simp, by go_simp, by omega⟩
            case rest =>
            clear hB2 y0 y1 hz z2 z3
            obtain ⟨rfl, hBc, y0, y1, hz⟩ := hcut
            have z3 := hBc.c3
            have hbel := hBc.bel
            have hbgc := hBc.big
            clear hbo
            go_upto_region 9 with fail
            cases vA with
            | false =>
              have hno : Shut (stepPB U n Q i = false) := (by unfold stepPB; rw [eA]; simp : stepPB U n Q i = false)
              refine wp_region_held_drew (S := fun w' => w'.cell? ⟨w.heap.size, 3, none⟩ = some (.slice (some ⟨b, o, none⟩) m c') ∧ w'.cell? ⟨bp, 0, none⟩ = some (.int .i64 (Q (i * 2))) ∧ w'.cell? ⟨bp, 1, none⟩ = some (.int .i64 (Q (i * 2 + 1)))) (by kernel_rfl) ?_ (fun hHeld => ?_)
              · (try dsimp only)
                (first | (go_simp; done) | (go_keep; done))
              refine tq 0 hHeld ?_
              refine tq 1 hHeld ?_
              refine tq 2 hHeld ?_
              refine tn 3 hHeld ?_
              refine tn 4 hHeld ?_
              refine tq 5 hHeld ?_
              refine tq 6 hHeld ?_
              refine tn 7 hHeld ?_
              refine tn 8 hHeld ?_
              refine tn 9 hHeld ?_
              refine tn 10 hHeld ?_
              refine tn 11 hHeld ?_
              refine tq 12 hHeld ?_
              refine tq 13 hHeld ?_
              refine tn 14 hHeld ?_
              refine tn 15 hHeld ?_
              refine tn 16 hHeld ?_
              refine tn 17 hHeld ?_
              refine tn 18 hHeld ?_
              refine tn 19 hHeld ?_
              refine tn 20 hHeld ?_
              refine tn 21 hHeld ?_
              refine tn 22 hHeld ?_
              refine tn 23 hHeld ?_
              refine tn 24 hHeld ?_
              refine tn 25 hHeld ?_
              refine tn 26 hHeld ?_
              refine tq 27 hHeld ?_
              refine wpAnyH_done (by kernel_rfl) ?_ _
              go_wp2_with fail
              go_ret
              exact ⟨by rw [allPB_no hno.out m hlt]; rfl, hBc.bel.trans ((Below.drew (Below.refl _ _)).mono (Nat.le_of_lt hBc.big))⟩
            | true =>
              cases vB with
              | false =>
                have hno : Shut (stepPB U n Q i = false) := (by unfold stepPB; rw [eB]; simp : stepPB U n Q i = false)
                refine wp_region_held_drew (S := fun w' => w'.cell? ⟨w.heap.size, 3, none⟩ = some (.slice (some ⟨b, o, none⟩) m c') ∧ w'.cell? ⟨bp, 0, none⟩ = some (.int .i64 (Q (i * 2))) ∧ w'.cell? ⟨bp, 1, none⟩ = some (.int .i64 (Q (i * 2 + 1)))) (by kernel_rfl) ?_ (fun hHeld => ?_)
                · (try dsimp only)
                  (first | (go_simp; done) | (go_keep; done))
                refine tq 0 hHeld ?_
                refine tq 1 hHeld ?_
                refine tq 2 hHeld ?_
                refine tq 3 hHeld ?_
                refine tq 4 hHeld ?_
                refine tq 5 hHeld ?_
                refine tq 6 hHeld ?_
                refine tn 7 hHeld ?_
                refine tn 8 hHeld ?_
                refine tn 9 hHeld ?_
                refine tn 10 hHeld ?_
                refine tn 11 hHeld ?_
                refine tq 12 hHeld ?_
                refine tq 13 hHeld ?_
                refine tn 14 hHeld ?_
                refine tn 15 hHeld ?_
                refine tn 16 hHeld ?_
                refine tn 17 hHeld ?_
                refine tn 18 hHeld ?_
                refine tn 19 hHeld ?_
                refine tn 20 hHeld ?_
                refine tn 21 hHeld ?_
                refine tn 22 hHeld ?_
                refine tn 23 hHeld ?_
                refine tn 24 hHeld ?_
                refine tn 25 hHeld ?_
                refine tn 26 hHeld ?_
                refine tq 27 hHeld ?_
                refine wpAnyH_done (by kernel_rfl) ?_ _
                go_wp2_with fail
                go_ret
                exact ⟨by rw [allPB_no hno.out m hlt]; rfl, hBc.bel.trans ((Below.drew (Below.refl _ _)).mono (Nat.le_of_lt hBc.big))⟩
              | true =>
                by_cases hAB : Q (i * 2) < Q (i * 2 + 1)
                · have hd1 : decide (Q (i * 2 + 1) ≤ Q (i * 2)) = false := decide_eq_false (by omega)
                  by_cases hk0 : 0 < i
                  · have hd0 : decide (0 < i) = true := decide_eq_true hk0
                    obtain ⟨j, hj⟩ : ∃ j, j + 1 = i := ⟨i - 1, by omega⟩
                    have hj' : (i : Int) - 1 = (j : Int) := by omega
                    have hjn : j < m := by omega
                    have hwj : IntKind.i64.wrap (j : Int) = (j : Int) := i64w (by omega)
                    obtain ⟨b2, o2, e2, _, hc2⟩ := (h'.below hBc.bel) (by omega)
                    simp only [Option.some.injEq, Addr.mk.injEq, and_true] at e2
                    obtain ⟨rfl, rfl⟩ := e2
                    have p0 := hc2 (j * 2) (by omega)
                    have p1 := hc2 (j * 2 + 1) (by omega)
                    simp only [← Nat.add_assoc] at p1
                    clear hc2
                    have HJ : Shut (j + 1 = i) := hj
                    clear hj
                    cases eC : aheadB (Q (j * 2)) (Q (j * 2 + 1)) (Q (i * 2)) (Q (i * 2 + 1)) with
                    | false =>
                      have hno : Shut (stepPB U n Q i = false) := (by unfold stepPB; rw [show i - 1 = j from by have := HJ.out; omega, eC, decide_eq_false (by omega : ¬ i = 0)]; simp : stepPB U n Q i = false)
                      refine wp_region_held_drew (S := fun w' => w'.cell? ⟨w.heap.size, 3, none⟩ = some (.slice (some ⟨b, o, none⟩) m c') ∧ w'.cell? ⟨bp, 0, none⟩ = some (.int .i64 (Q (i * 2))) ∧ w'.cell? ⟨bp, 1, none⟩ = some (.int .i64 (Q (i * 2 + 1))) ∧ w'.cell? ⟨b, o + j * 2, none⟩ = some (.int .i64 (Q (j * 2))) ∧ w'.cell? ⟨b, o + j * 2 + 1, none⟩ = some (.int .i64 (Q (j * 2 + 1)))) (by kernel_rfl) ?_ (fun hHeld => ?_)
                      · (try dsimp only)
                        (first | (go_simp; done) | (go_keep; done))
                      refine tq 0 hHeld ?_
                      refine tq 1 hHeld ?_
                      refine tq 2 hHeld ?_
                      refine tq 3 hHeld ?_
                      refine tq 4 hHeld ?_
                      refine tq 5 hHeld ?_
                      refine tq 6 hHeld ?_
                      refine tq 7 hHeld ?_
                      refine tq 8 hHeld ?_
                      refine tq 9 hHeld ?_
                      refine tq 10 hHeld ?_
                      refine tq 11 hHeld ?_
                      refine tq 12 hHeld ?_
                      refine tq 13 hHeld ?_
                      refine tq 14 hHeld ?_
                      refine tq 15 hHeld ?_
                      refine tq 16 hHeld ?_
                      refine tq 17 hHeld ?_
                      refine tq 18 hHeld ?_
                      refine tq 19 hHeld ?_
                      refine tq 20 hHeld ?_
                      refine tq 21 hHeld ?_
                      refine tq 22 hHeld ?_
                      refine tq 23 hHeld ?_
                      (refine tc 24 fun K hK => ?_; go_simp; (go_at_call 30; refine (ahead_q _ _ _ _ _ _ eC).mono ?_; rintro e w6 ⟨rfl, hb6⟩; obtain ⟨hc6, hf6⟩ := bcell hb6; have hz6 := hb6.size; (try simp only [World.size_drew, World.size_alloc, World.size_setCell] at hc6 hf6 hz6); have hk6x0 := fun o => hc6 (w.heap.size) o (by omega); have hj6x0 := fun o => hf6 (w.heap.size) o (by omega); have hq6x0 : w.heap.size < w6.heap.size := (by omega); have hk6x1 := fun o => hc6 (bp) o (by omega); have hj6x1 := fun o => hf6 (bp) o (by omega); have hq6x1 : bp < w6.heap.size := (by omega); have hk6x2 := fun o => hc6 (b) o (by omega); have hj6x2 := fun o => hf6 (b) o (by omega); have hq6x2 : b < w6.heap.size := (by omega); clear hc6 hf6); (try go_wp2_with fail); refine tr hK (fun hHeld => ?_); clear hK K)
                      refine tq 25 hHeld ?_
                      refine tq 26 hHeld ?_
                      refine tq 27 hHeld ?_
                      refine wpAnyH_done (by kernel_rfl) ?_ _
                      go_wp2_with fail
                      go_ret
                      exact ⟨by rw [allPB_no hno.out m hlt]; rfl, hBc.bel.trans ((hb6.ofDr).mono (Nat.le_of_lt hBc.big))⟩
                    | true =>
                      have hyes : Shut (stepPB U n Q i = true) := (by unfold stepPB; rw [show i - 1 = j from by have := HJ.out; omega, eC, eA, eB, decide_eq_true hAB]; simp : stepPB U n Q i = true)
                      refine wp_region_held_drew (S := fun w' => w'.cell? ⟨w.heap.size, 3, none⟩ = some (.slice (some ⟨b, o, none⟩) m c') ∧ w'.cell? ⟨bp, 0, none⟩ = some (.int .i64 (Q (i * 2))) ∧ w'.cell? ⟨bp, 1, none⟩ = some (.int .i64 (Q (i * 2 + 1))) ∧ w'.cell? ⟨b, o + j * 2, none⟩ = some (.int .i64 (Q (j * 2))) ∧ w'.cell? ⟨b, o + j * 2 + 1, none⟩ = some (.int .i64 (Q (j * 2 + 1)))) (by kernel_rfl) ?_ (fun hHeld => ?_)
                      · (try dsimp only)
                        (first | (go_simp; done) | (go_keep; done))
                      refine tq 0 hHeld ?_
                      refine tq 1 hHeld ?_
                      refine tq 2 hHeld ?_
                      refine tq 3 hHeld ?_
                      refine tq 4 hHeld ?_
                      refine tq 5 hHeld ?_
                      refine tq 6 hHeld ?_
                      refine tq 7 hHeld ?_
                      refine tq 8 hHeld ?_
                      refine tq 9 hHeld ?_
                      refine tq 10 hHeld ?_
                      refine tq 11 hHeld ?_
                      refine tq 12 hHeld ?_
                      refine tq 13 hHeld ?_
                      refine tq 14 hHeld ?_
                      refine tq 15 hHeld ?_
                      refine tq 16 hHeld ?_
                      refine tq 17 hHeld ?_
                      refine tq 18 hHeld ?_
                      refine tq 19 hHeld ?_
                      refine tq 20 hHeld ?_
                      refine tq 21 hHeld ?_
                      refine tq 22 hHeld ?_
                      refine tq 23 hHeld ?_
                      (refine tc 24 fun K hK => ?_; go_simp; (go_at_call 30; refine (ahead_q _ _ _ _ _ _ eC).mono ?_; rintro e w6 ⟨rfl, hb6⟩; obtain ⟨hc6, hf6⟩ := bcell hb6; have hz6 := hb6.size; (try simp only [World.size_drew, World.size_alloc, World.size_setCell] at hc6 hf6 hz6); have hk6x0 := fun o => hc6 (w.heap.size) o (by omega); have hj6x0 := fun o => hf6 (w.heap.size) o (by omega); have hq6x0 : w.heap.size < w6.heap.size := (by omega); have hk6x1 := fun o => hc6 (bp) o (by omega); have hj6x1 := fun o => hf6 (bp) o (by omega); have hq6x1 : bp < w6.heap.size := (by omega); have hk6x2 := fun o => hc6 (b) o (by omega); have hj6x2 := fun o => hf6 (b) o (by omega); have hq6x2 : b < w6.heap.size := (by omega); clear hc6 hf6); (try go_wp2_with fail); refine tr hK (fun hHeld => ?_); clear hK K)
                      refine tq 25 hHeld ?_
                      refine tq 26 hHeld ?_
                      refine tq 27 hHeld ?_
                      refine wpAnyH_done (by kernel_rfl) ?_ _
                      go_wp2_with fail
                      go_roundw
                      case rel => exact ⟨i + 1, by omega, by go_num, hBc.on (hb6.ofDr), by rw [allPB, hall.out, hyes.out]; rfl⟩
                      case measure => simp [intOf]; omega
                  · have hd0 : decide (0 < i) = false := decide_eq_false hk0
                    have HK : Shut (i = 0) := (by omega : i = 0)
                    clear hk0
                    have hyes : Shut (stepPB U n Q i = true) := (by unfold stepPB; rw [eA, eB, decide_eq_true hAB, decide_eq_true HK.out]; rfl : stepPB U n Q i = true)
                    refine wp_region_held_drew (S := fun w' => w'.cell? ⟨w.heap.size, 3, none⟩ = some (.slice (some ⟨b, o, none⟩) m c') ∧ w'.cell? ⟨bp, 0, none⟩ = some (.int .i64 (Q (i * 2))) ∧ w'.cell? ⟨bp, 1, none⟩ = some (.int .i64 (Q (i * 2 + 1)))) (by kernel_rfl) ?_ (fun hHeld => ?_)
                    · (try dsimp only)
                      (first | (go_simp; done) | (go_keep; done))
                    refine tq 0 hHeld ?_
                    refine tq 1 hHeld ?_
                    refine tq 2 hHeld ?_
                    refine tq 3 hHeld ?_
                    refine tq 4 hHeld ?_
                    refine tq 5 hHeld ?_
                    refine tq 6 hHeld ?_
                    refine tq 7 hHeld ?_
                    refine tq 8 hHeld ?_
                    refine tq 9 hHeld ?_
                    refine tq 10 hHeld ?_
                    refine tq 11 hHeld ?_
                    refine tq 12 hHeld ?_
                    refine tq 13 hHeld ?_
                    refine tq 14 hHeld ?_
                    refine tq 15 hHeld ?_
                    refine tq 16 hHeld ?_
                    refine tn 17 hHeld ?_
                    refine tn 18 hHeld ?_
                    refine tn 19 hHeld ?_
                    refine tn 20 hHeld ?_
                    refine tn 21 hHeld ?_
                    refine tn 22 hHeld ?_
                    refine tn 23 hHeld ?_
                    refine tn 24 hHeld ?_
                    refine tn 25 hHeld ?_
                    refine tq 26 hHeld ?_
                    refine tq 27 hHeld ?_
                    refine wpAnyH_done (by kernel_rfl) ?_ _
                    go_wp2_with fail
                    go_roundw
                    case rel => exact ⟨i + 1, by omega, by go_num, hBc.on (Below.drew (Below.refl _ _)), by rw [allPB, hall.out, hyes.out]; rfl⟩
                    case measure => simp [intOf]; omega
                · have hd1 : decide (Q (i * 2 + 1) ≤ Q (i * 2)) = true := decide_eq_true (by omega)
                  have hno : Shut (stepPB U n Q i = false) := (by unfold stepPB; rw [decide_eq_false hAB]; rfl : stepPB U n Q i = false)
                  refine wp_region_held_drew (S := fun w' => w'.cell? ⟨w.heap.size, 3, none⟩ = some (.slice (some ⟨b, o, none⟩) m c') ∧ w'.cell? ⟨bp, 0, none⟩ = some (.int .i64 (Q (i * 2))) ∧ w'.cell? ⟨bp, 1, none⟩ = some (.int .i64 (Q (i * 2 + 1)))) (by kernel_rfl) ?_ (fun hHeld => ?_)
                  · (try dsimp only)
                    (first | (go_simp; done) | (go_keep; done))
                  refine tq 0 hHeld ?_
                  refine tq 1 hHeld ?_
                  refine tq 2 hHeld ?_
                  refine tq 3 hHeld ?_
                  refine tq 4 hHeld ?_
                  refine tq 5 hHeld ?_
                  refine tq 6 hHeld ?_
                  refine tq 7 hHeld ?_
                  refine tq 8 hHeld ?_
                  refine tq 9 hHeld ?_
                  refine tq 10 hHeld ?_
                  refine tq 11 hHeld ?_
                  refine tq 12 hHeld ?_
                  refine tq 13 hHeld ?_
                  refine tn 14 hHeld ?_
                  refine tn 15 hHeld ?_
                  refine tn 16 hHeld ?_
                  refine tn 17 hHeld ?_
                  refine tn 18 hHeld ?_
                  refine tn 19 hHeld ?_
                  refine tn 20 hHeld ?_
                  refine tn 21 hHeld ?_
                  refine tn 22 hHeld ?_
                  refine tn 23 hHeld ?_
                  refine tn 24 hHeld ?_
                  refine tn 25 hHeld ?_
                  refine tn 26 hHeld ?_
                  refine tq 27 hHeld ?_
                  refine wpAnyH_done (by kernel_rfl) ?_ _
                  go_wp2_with fail
                  go_ret
                  exact ⟨by rw [allPB_no hno.out m hlt]; rfl, hBc.bel.trans ((Below.drew (Below.refl _ _)).mono (Nat.le_of_lt hBc.big))⟩
          · obtain rfl : i = m := by omega
            go_wp2
            go_ret
            exact ⟨by rw [hall.out]; rfl, hB.bel⟩
end Go.Proofs.Ytgcobcmpkbcfoaa
namespace Go.Proofs.Ytgcobcmpkbcfoaa
open Go.RowKit
set_option linter.unusedVariables false
set_option linter.unusedSimpArgs false

/-- a world of the program's own, in a variable at bx -/
structure Xw (wc : World) (bx : Nat) (T P : Int) (n m b d : Nat) (U Q : Nat → Int) : Prop where
  c0 : wc.cell? ⟨bx, 0, none⟩ = some (.int .i64 T)
  c1 : wc.cell? ⟨bx, 1, none⟩ = some (.int .i64 P)
  c2 : wc.cell? ⟨bx, 2, none⟩ = some (.slice (some ⟨b, 0, none⟩) n n)
  c3 : wc.cell? ⟨bx, 3, none⟩ = some (.slice (some ⟨d, 0, none⟩) m m)
  lt : bx < wc.heap.size
  hr : Row wc b 81 (n * 12) U
  hq : Row wc d 65 (m * 2) Q
theorem Xw.on {wc w' : World} {bx n m b d : Nat} {T P : Int} {U Q : Nat → Int} (h : Xw wc bx T P n m b d U Q) (hb : Below wc.heap.size wc w') : Xw w' bx T P n m b d U Q :=
  ⟨(hb.cell (p := ⟨bx, 0, none⟩) h.lt).trans h.c0, (hb.cell (p := ⟨bx, 1, none⟩) h.lt).trans h.c1, (hb.cell (p := ⟨bx, 2, none⟩) h.lt).trans h.c2, (hb.cell (p := ⟨bx, 3, none⟩) h.lt).trans h.c3, Nat.lt_of_lt_of_le h.lt hb.size, h.hr.below hb, h.hq.below hb⟩
set_option maxRecDepth 20000 in
set_option maxHeartbeats 8000000 in
theorem fnExactWorldOk_walk (T P : Int) (a : Option Addr) (n c : Nat) (U : Nat → Int) (a' : Option Addr) (m c' : Nat) (Q : Nat → Int) (w : World) (h : Flat w a (n * 12) U) (h' : Flat w a' (m * 2) Q) (hn : (n : Int) ≤ 9223372036854775807) (hm : (m : Int) ≤ 9223372036854775807) :
    Calls Try.prog 3 #[worldW T P a n c a' m c'] w fun e w' => e = .returned (.bool true) ∧ Below w.heap.size w w' := by
  have hset := cset_map
  by_cases h20 : n + m ≤ 1048576
  · go_enter Try.func3, Try.ntmps3
    go_upto_region 2 with fail
    go_cut [3] (fun s wc => ∃ z : Int, s = .int .i64 z ∧ 0 ≤ z ∧ WdR w T P a n c a' m c' wc)
    case first =>
      go_wp2_with (go_at_call 7; refine (szWorld_any T P a n c a' m c' _ hn hm).mono ?_; rintro e w1 ⟨⟨z, rfl, hz1, hz2, hz3⟩, hb1⟩)
      go_meet
      exact ⟨z, rfl, hz1.2 h20, WdR.on ⟨(Below.refl _ _).alloc (Nat.le_refl _) _, by simp, by go_simp, by go_simp, by go_simp, by go_simp⟩ hb1⟩
    case rest =>
    obtain ⟨z, rfl, hz, hB⟩ := hcut
    have hz' : ¬ z < 0 := by omega
    have z0 := hB.c0
    have z1 := hB.c1
    have z2 := hB.c2
    have z3 := hB.c3
    have hbig := hB.big
    generalize hv : worldB T P n U m Q = v
    go_upto_region 5 with fail
    go_cut [4] (fun s wc => s = .bool v ∧ WdR w T P a n c a' m c' wc)
    case first =>
      go_wp2_with (first
        | (go_at_call 9; refine (toWorld_any T P a n c U a' m c' Q _ (h.below hB.bel) (h'.below hB.bel) (by omega) (by omega)).mono ?_; rintro e w2 ⟨b2, d2, s2, rfl, hl2, hl2a, hl2b, hl2c, hr2, hq2, hb2⟩)
        | (go_at_call 8; refine (sWorldOk_q T P _ n _ U _ m _ Q _ hr2.flat hq2.flat (by omega) (by omega) v hv).mono ?_; rintro e w3 ⟨rfl, hb3⟩))
      go_meet
      exact ⟨rfl, (hB.on hb2).on hb3⟩
    case rest =>
    clear hB z0 z1 z2 z3 hbig
    obtain ⟨rfl, hB⟩ := hcut
    have z0 := hB.c0
    have z1 := hB.c1
    have z2 := hB.c2
    have z3 := hB.c3
    have hbig := hB.big
    go_upto_region 6 with fail
    go_cut [5] (fun s wc => ∃ bx b d, s = .pointer (some ⟨bx, 0, none⟩) ∧ WdR w T P a n c a' m c' wc ∧ Xw wc bx T P n m b d U Q)
    case first =>
      go_wp2_with (go_at_call 9; refine (toWorld_any T P a n c U a' m c' Q _ (h.below hB.bel) (h'.below hB.bel) (by omega) (by omega)).mono ?_; rintro e w2 ⟨b2, d2, s2, rfl, hl2, hl2a, hl2b, hl2c, hr2, hq2, hb2⟩)
      go_meet
      have hE : Below w2.heap.size w2 (w2.alloc (.cells #[.int .i64 T, .int .i64 P, .slice (some ⟨b2, 0, none⟩) n n, .slice (some ⟨d2, 0, none⟩) m m] 31)) := (Below.refl _ _).alloc (Nat.le_refl _) _
      exact ⟨_, b2, d2, rfl, (hB.on hb2).on hE, by go_simp, by go_simp, by go_simp, by go_simp, by simp, hr2.below hE, hq2.below hE⟩
    case rest =>
    clear hB z0 z1 z2 z3 hbig
    obtain ⟨bx, b, d, rfl, hB, hX⟩ := hcut
    have z0 := hB.c0
    have z1 := hB.c1
    have z2 := hB.c2
    have z3 := hB.c3
    have hbig := hB.big
    have x0 := hX.c0
    have x1 := hX.c1
    have x2 := hX.c2
    have x3 := hX.c3
    have hxl := hX.lt
    go_upto_region 7 with fail
    go_cut [6] (fun s wc => s = .bool v ∧ WdR w T P a n c a' m c' wc ∧ Xw wc bx T P n m b d U Q)
    case first =>
      go_wp2_with (go_at_call 10; refine (worldOk_q T P _ n _ U _ m _ Q _ hX.hr.flat hX.hq.flat (by omega) (by omega) v hv).mono ?_; rintro e w3 ⟨rfl, hb3⟩)
      go_meet
      exact ⟨rfl, hB.on hb3, hX.on hb3⟩
    case rest =>
    clear hB z0 z1 z2 z3 hbig hX x0 x1 x2 x3 hxl
    obtain ⟨rfl, hB, hX⟩ := hcut
    have z0 := hB.c0
    have z1 := hB.c1
    have z2 := hB.c2
    have z3 := hB.c3
    have hbig := hB.big
    have x0 := hX.c0
    have x1 := hX.c1
    have x2 := hX.c2
    have x3 := hX.c3
    have hxl := hX.lt
    clear hv
    go_upto_region 8 with fail
    go_cut [21] (fun s wc => s = .bool false ∧ WdR w T P a n c a' m c' wc ∧ Xw wc bx T P n m b d U Q)
    case first =>
      cases v <;> (go_wp2; go_meet; exact ⟨rfl, hB, hX⟩)
    case rest =>
    clear hB z0 z1 z2 z3 hbig hX x0 x1 x2 x3 hxl
    obtain ⟨rfl, hB, hX⟩ := hcut
    have z0 := hB.c0
    have z1 := hB.c1
    have z2 := hB.c2
    have z3 := hB.c3
    have hbig := hB.big
    have x0 := hX.c0
    have x1 := hX.c1
    have x2 := hX.c2
    have x3 := hX.c3
    have hxl := hX.lt
    go_upto_region 10 with fail
    refine wp_region_held_drew (S := fun w' => w'.cell? ⟨w.heap.size, 0, none⟩ = some (.int .i64 T) ∧ w'.cell? ⟨w.heap.size, 1, none⟩ = some (.int .i64 P) ∧ w'.cell? ⟨w.heap.size, 2, none⟩ = some (.slice a n c) ∧ w'.cell? ⟨w.heap.size, 3, none⟩ = some (.slice a' m c') ∧ w'.cell? ⟨bx, 0, none⟩ = some (.int .i64 T) ∧ w'.cell? ⟨bx, 1, none⟩ = some (.int .i64 P) ∧ w'.cell? ⟨bx, 2, none⟩ = some (.slice (some ⟨b, 0, none⟩) n n) ∧ w'.cell? ⟨bx, 3, none⟩ = some (.slice (some ⟨d, 0, none⟩) m m)) (by kernel_rfl) ?_ (fun hHeld => ?_)
    · (try dsimp only)
      (first | (go_simp; done) | (go_keep; done))
    refine tq 0 hHeld ?_
    refine tq 1 hHeld ?_
    (refine tc 2 fun K hK => ?_; go_simp; (go_at_call 9; refine (toWorld_any T P a n c U a' m c' Q _ (h.below hB.bel.drew) (h'.below hB.bel.drew) (by omega) (by omega)).mono ?_; rintro e w6 ⟨b6, d6, s6, rfl, hl6, hl6a, hl6b, hl6c, hr6, hq6, hb6⟩; have hB6 := hB.on hb6.ofDr; have hX6 := hX.on hb6.ofDr; have q0 := hB6.c0; have q1 := hB6.c1; have q2 := hB6.c2; have q3 := hB6.c3; have r0 := hX6.c0; have r1 := hX6.c1; have r2 := hX6.c2; have r3 := hX6.c3); (try go_wp2_with fail); refine tr hK (fun hHeld => ?_); clear hK K)
    (refine tc 3 fun K hK => ?_; go_simp; (go_at_call 11; refine (eqWorld_same T P _ _ n _ _ U _ _ m _ _ Q _ hX6.hr.flat hr6.flat hX6.hq.flat hq6.flat (by omega) (by omega)).mono ?_; rintro e w7 ⟨rfl, hb7⟩; have hB7 := hB6.on hb7; have hX7 := hX6.on hb7; have t0 := hB7.c0; have t1 := hB7.c1; have t2 := hB7.c2; have t3 := hB7.c3; have u0' := hX7.c0; have u1' := hX7.c1; have u2' := hX7.c2; have u3' := hX7.c3); (try go_wp2_with fail); refine tr hK (fun hHeld => ?_); clear hK K)
    refine tq 4 hHeld ?_
    refine wpAnyH_done (by kernel_rfl) ?_ _
    go_wp2_with fail
    go_ret
    exact ⟨rfl, hB7.bel⟩
  · go_enter Try.func3, Try.ntmps3
    go_upto_region 2 with fail
    go_cut [3] (fun s wc => ∃ z : Int, s = .int .i64 z ∧ z < 0 ∧ Below w.heap.size w wc)
    case first =>
      go_wp2_with (go_at_call 7; refine (szWorld_any T P a n c a' m c' _ hn hm).mono ?_; rintro e w1 ⟨⟨z, rfl, hz1, hz2, hz3⟩, hb1⟩)
      go_meet
      exact ⟨z, rfl, by omega, by repeat (first | with_reducible apply Below.refl | (with_reducible apply Below.setCell; rotate_left; focus (first | omega | (simp; done) | (simp; omega))) | (with_reducible apply Below.alloc; rotate_left; focus (first | omega | (simp; done) | (simp; omega))) | with_reducible apply Below.drew | with_reducible apply belowDrewN | (with_reducible apply Below.trans; rotate_left; with_reducible apply Below.mono; with_reducible assumption; focus (first | omega | (simp; done) | (simp; omega))))⟩
    case rest =>
    obtain ⟨z, rfl, hz, hB⟩ := hcut
    go_wp2
    go_ret
    exact ⟨rfl, hB⟩
end Go.Proofs.Ytgcobcmpkbcfoaa
namespace Go.Proofs.Ytgcobcmpkbcfoaa
theorem head_cut {l : List (List Char)} {c : List Char} (h : (l.head? == some c) = true) : ∃ rest, l = c :: rest := by
  cases l with
  | nil => simp at h
  | cons a r => simp at h; exact ⟨r, by rw [h]⟩
theorem strip_cut (rest : List (List Char)) : stripLifts liftWords ("cut".toList :: rest) = ([], "cut".toList :: rest) := by kernel_rfl
theorem make_of {P : Program} {l : List Char} (h0 : P.initOrder.toList = l) (h1 : ((behindMainWord (wordsSigns l)).head? == some "cut".toList) = true) : P.make = some .cut := by
  obtain ⟨rest, hr⟩ := head_cut h1
  unfold Program.make
  rw [h0, hr]
  rfl
theorem headLifts_of {P : Program} {l : List Char} (h0 : P.initOrder.toList = l) (h1 : ((behindMainWord (wordsSigns l)).head? == some "cut".toList) = true) : P.headLifts = [] := by
  obtain ⟨rest, hr⟩ := head_cut h1
  unfold Program.headLifts
  rw [h0, hr, strip_cut]
  rfl
theorem liftsFinal_of {P : Program} {l : List Char} (h0 : P.initOrder.toList = l) (h1 : ((behindMainWord (wordsSigns l)).head? == some "cut".toList) = true) : P.liftsFinal = false := by
  have hh := headLifts_of h0 h1
  obtain ⟨rest, hr⟩ := head_cut h1
  unfold Program.liftsFinal
  rw [h0, hr, hh]
  rfl
theorem mayEnter_of {P : Program} {l : List Char} (h0 : P.initOrder.toList = l) (h1 : ((behindMainWord (wordsSigns l)).head? == some "cut".toList) = true) (h2 : P.laysLater = false) (h3 : P.bearsReflect = false) (h4 : P.doorFits [] = true) : P.mayEnter = true := by
  obtain ⟨rest, hr⟩ := head_cut h1
  unfold Program.mayEnter
  rw [h0, hr]
  simp only [strip_cut, h2, h3, h4]
  simp
end Go.Proofs.Ytgcobcmpkbcfoaa
namespace Go.Proofs.Ytgcobcmpkbcfoaa
set_option maxRecDepth 100000
def ordL : { l : List Char // Try.prog.initOrder = String.ofList l } := ⟨_, rfl⟩
theorem ordT : Try.prog.initOrder.toList = ordL.1 := (congrArg String.toList ordL.2).trans String.toList_ofList
theorem headE : ((behindMainWord (wordsSigns ordL.1)).head? == some "cut".toList) = true := by kernel_rfl
theorem makeT : Try.prog.make = some .cut := make_of ordT headE
theorem liftsFinalT : Try.prog.liftsFinal = false := liftsFinal_of ordT headE
theorem laysLaterT : Try.prog.laysLater = false := by kernel_rfl
theorem bearsReflectT : Try.prog.bearsReflect = false := by kernel_rfl
theorem doorFitsT : Try.prog.doorFits [] = true := by kernel_rfl
theorem mayEnterT : Try.prog.mayEnter = true := mayEnter_of ordT headE laysLaterT bearsReflectT doorFitsT
theorem ownT : ownKnob Try.prog.godebug = none := by kernel_rfl
theorem laidOutT : laidOutB Try.prog = true := by kernel_rfl
theorem mapsRowedT : mapsRowed Try.prog = true := by kernel_rfl
theorem stopsHeardT : Try.prog.stopsHeard = true := by kernel_rfl
theorem plainKeysT : Try.prog.plainKeys = true := by kernel_rfl
end Go.Proofs.Ytgcobcmpkbcfoaa
namespace Go.Proofs.Ytgcobcmpkbcfoaa
open Go.RowKit Go.ChangeShapes Go.WideShapes Go.Deep
set_option linter.unusedVariables false
set_option linter.unusedSimpArgs false
/-- what is read at the type is k numbers -/
def IntsOf (P : Program) (e : TypeId) (k : Nat) : Prop :=
  ∀ (H : Type) (enc : TypeId × Value → H) (w : World) (base : Nat) (spare : Nat → Bool) (held : Bool) (fuel : Nat) (cs : List Value) (x : DataW H × List MemPlace),
    DataW.trod enc P w base spare held fuel e cs = some x → cs.length = k ∧ ∀ j, j < k → ∃ v : Int, cs[j]? = some (.int .i64 v) ∧ (Lit.int .i64 v).wf = true
theorem IntsOf.int {P : Program} {e : TypeId} (h : P.underlying e = some (.int .i64)) : IntsOf P e 1 := by
  intro H enc w base spare held fuel cs x hx
  obtain ⟨v, h1, _, h3⟩ := DataW.trod_int h hx
  subst h1
  refine ⟨rfl, fun j hj => ?_⟩
  obtain rfl : j = 0 := by omega
  exact ⟨v, rfl, h3⟩
theorem IntsOf.struct {P : Program} {t : TypeId} {k : Nat} {fs : Array Field} (cs_ : List Nat) (ht : P.underlying t = some (.struct fs)) (hk : P.cellsOf t = k)
    (hf : ∀ (i : Nat) (f : Field) (c : Nat), fs[i]? = some f → cs_[i]? = some c → P.cellsOf f.type = c ∧ IntsOf P f.type c)
    (cover : (List.range k).all (fun j => (List.range fs.size).any fun i => match fs[i]?, cs_[i]? with | some f, some c => decide (f.offset ≤ j ∧ j < f.offset + c) | _, _ => false) = true) : IntsOf P t k := by
  intro H enc w base spare held fuel cs x hx
  obtain ⟨xs, n, _, _, hl, hlen, hg⟩ := DataW.trod_struct ht hx
  rw [hk] at hl
  refine ⟨hl, fun j hj => ?_⟩
  rw [List.all_eq_true] at cover
  have c1 := cover j (List.mem_range.2 hj)
  rw [List.any_eq_true] at c1
  obtain ⟨i, hi, hm⟩ := c1
  have hi' := List.mem_range.1 hi
  cases hfi : fs[i]? with
  | none => simp [hfi] at hm
  | some f =>
    cases hci : cs_[i]? with
    | none => simp [hfi, hci] at hm
    | some c =>
      simp only [hfi, hci, decide_eq_true_eq] at hm
      obtain ⟨hc, hI⟩ := hf i f c hfi hci
      have g := hg i f hfi
      rw [hc] at g
      have hxi : i < xs.length := by rw [hlen]; exact hi'
      rw [List.getElem?_eq_getElem hxi] at g
      obtain ⟨_, q⟩ := hI H enc w base spare held _ _ _ g
      obtain ⟨v, hv, hw⟩ := q (j - f.offset) (by omega)
      refine ⟨v, ?_, hw⟩
      rw [List.getElem?_take, if_pos (by omega), List.getElem?_drop, show f.offset + (j - f.offset) = j by omega] at hv
      exact hv
theorem open_flat {P : Program} {t e : TypeId} {k : Nat} (hk0 : 0 < k) (ht : P.underlying t = some (.slice e)) (hk : P.cellsOf e = k) (hE : IntsOf P e k)
    {H : Type} {enc : TypeId × Value → H} {w : World} {base : Nat} {spare : Nat → Bool} {held : Bool} {fuel : Nat} {v : Value} {x : DataW H × List MemPlace}
    (h : DataW.trod enc P w base spare held fuel t [v] = some x) :
    ∃ (a : Option Addr) (n c : Nat) (U : Nat → Int), v = .slice a n c ∧ (n : Int) ≤ 9223372036854775807 ∧ Flat w a (n * k) U ∧ ∀ q, q < n * k → (Lit.int .i64 (U q)).wf = true := by
  rcases open_slice ht h with ⟨hc, _⟩ | ⟨a, len, cap, m, fu, D, Pl, hc, hb, hl, hm, hmm, _, hall⟩
  · simp only [List.cons.injEq, and_true] at hc
    subst hc
    exact ⟨none, 0, 0, fun _ => 0, rfl, by omega, by rw [Nat.zero_mul]; exact Flat.nil, fun q hq => by omega⟩
  · simp only [List.cons.injEq, and_true] at hc
    subst hc
    have hlm : len ≤ m := by rw [hmm]; split <;> omega
    have one : ∀ q, q < len * k → ∃ z : Int, w.cell? (a.add q) = some (.int .i64 z) ∧ (Lit.int .i64 z).wf = true := by
      intro q hq
      have hi : q / k < len := Nat.div_lt_of_lt_mul (by rw [Nat.mul_comm]; exact hq)
      obtain ⟨cs', h1, h2⟩ := hall (q / k) (by omega)
      obtain ⟨_, hlen, hcell⟩ := World.cells?_some h1
      obtain ⟨_, hv⟩ := hE H enc w base spare held _ _ _ h2
      obtain ⟨z, hz, hw⟩ := hv (q % k) (Nat.mod_lt _ hk0)
      have := hcell (q % k) (by rw [hk]; exact Nat.mod_lt _ hk0)
      rw [hz, hk, add_add, Nat.mul_comm, Nat.div_add_mod] at this
      exact ⟨z, this, hw⟩
    obtain ⟨U, hU⟩ := choose_lt one
    refine ⟨some a, len, cap, U, rfl, by unfold maxLen at hm; omega, ?_, fun q hq => (hU q hq).2⟩
    intro h0
    obtain ⟨b, o, spot⟩ := a
    have g0 := (hU 0 h0).1
    have hspot : spot = none := by simpa [Addr.add] using World.cell?_spot g0
    subst hspot
    have hbl := World.block_lt_of_cell? w _ g0
    simp only [Addr.add, if_true] at hbl
    refine ⟨b, o, rfl, hbl, fun q hq => ?_⟩
    have := (hU q hq).1
    by_cases hq0 : q = 0
    · subst hq0; simpa [Addr.add] using this
    · simpa [Addr.add, hq0] using this
end Go.Proofs.Ytgcobcmpkbcfoaa
namespace Go.Proofs.Ytgcobcmpkbcfoaa
open Go.RowKit Go.ChangeShapes Go.WideShapes Go.Deep
set_option linter.unusedVariables false
set_option linter.unusedSimpArgs false
theorem cellsI : Try.prog.cellsOf 3 = 1 := by kernel_rfl
theorem cellsV : Try.prog.cellsOf 36 = 2 := by kernel_rfl
theorem cellsSh : Try.prog.cellsOf 92 = 3 := by kernel_rfl
theorem cellsBd : Try.prog.cellsOf 94 = 12 := by kernel_rfl
theorem cellsSlB : Try.prog.cellsOf 22 = 1 := by kernel_rfl
theorem intsI : IntsOf Try.prog 3 1 := IntsOf.int Try.underlying3
theorem intsV : IntsOf Try.prog 36 2 := IntsOf.struct [1, 1] Try.underlying36 (by kernel_rfl) (fun i f c h1 h2 => match i, h1, h2 with
  | 0, h1, h2 => by cases h1; cases h2; exact ⟨cellsI, intsI⟩
  | 1, h1, h2 => by cases h1; cases h2; exact ⟨cellsI, intsI⟩
  | _ + 2, h1, h2 => by simp at h2) (by decide)
theorem intsSh : IntsOf Try.prog 92 3 := IntsOf.struct [1, 1, 1] Try.underlying92 (by kernel_rfl) (fun i f c h1 h2 => match i, h1, h2 with
  | 0, h1, h2 => by cases h1; cases h2; exact ⟨cellsI, intsI⟩
  | 1, h1, h2 => by cases h1; cases h2; exact ⟨cellsI, intsI⟩
  | 2, h1, h2 => by cases h1; cases h2; exact ⟨cellsI, intsI⟩
  | _ + 3, h1, h2 => by simp at h2) (by decide)
theorem intsBd : IntsOf Try.prog 94 12 := IntsOf.struct [1, 3, 2, 2, 1, 1, 1, 1] Try.underlying94 (by kernel_rfl) (fun i f c h1 h2 => match i, h1, h2 with
  | 0, h1, h2 => by cases h1; cases h2; exact ⟨cellsI, intsI⟩
  | 1, h1, h2 => by cases h1; cases h2; exact ⟨cellsSh, intsSh⟩
  | 2, h1, h2 => by cases h1; cases h2; exact ⟨cellsV, intsV⟩
  | 3, h1, h2 => by cases h1; cases h2; exact ⟨cellsV, intsV⟩
  | 4, h1, h2 => by cases h1; cases h2; exact ⟨cellsI, intsI⟩
  | 5, h1, h2 => by cases h1; cases h2; exact ⟨cellsI, intsI⟩
  | 6, h1, h2 => by cases h1; cases h2; exact ⟨cellsI, intsI⟩
  | 7, h1, h2 => by cases h1; cases h2; exact ⟨cellsI, intsI⟩
  | _ + 8, h1, h2 => by simp at h2) (by decide)
set_option maxRecDepth 100000 in
theorem open_bodies {H : Type} {enc : TypeId × Value → H} {W : World} {base b0 : Nat} {spare : Nat → Bool} {held : Bool} {v : Value} {d : DataW H} {p : List MemPlace}
    (hv : Value.okWide Try.prog W .any b0 22 v) (h : DataW.Trod enc Try.prog W base spare held 22 v d p) :
    ∃ (a : Option Addr) (n c : Nat) (U : Nat → Int), v = .slice a n c ∧ (n : Int) ≤ 9223372036854775807 ∧ Flat W a (n * 12) U ∧ ∀ q, q < n * 12 → (Lit.int .i64 (U q)).wf = true := by
  obtain ⟨a0, len, cap, rfl⟩ := okWide_slice Try.underlying22 hv
  obtain ⟨fuel, hf⟩ := h
  exact open_flat (by decide) Try.underlying22 cellsBd intsBd hf
end Go.Proofs.Ytgcobcmpkbcfoaa
namespace Go.Proofs.Ytgcobcmpkbcfoaa
open Go.RowKit Go.ChangeShapes Go.WideShapes Go.Deep
set_option linter.unusedVariables false
set_option linter.unusedSimpArgs false
theorem cellsPr : Try.prog.cellsOf 96 = 2 := by kernel_rfl
theorem cellsSlP : Try.prog.cellsOf 23 = 1 := by kernel_rfl
theorem cellsWd : Try.prog.cellsOf 25 = 4 := by kernel_rfl
theorem intsPr : IntsOf Try.prog 96 2 := IntsOf.struct [1, 1] Try.underlying96 (by kernel_rfl) (fun i f c h1 h2 => match i, h1, h2 with
  | 0, h1, h2 => by cases h1; cases h2; exact ⟨cellsI, intsI⟩
  | 1, h1, h2 => by cases h1; cases h2; exact ⟨cellsI, intsI⟩
  | _ + 2, h1, h2 => by simp at h2) (by decide)
theorem array4 {α : Type} {cs : Array α} (h : cs.size = 4) : ∃ c0 c1 c2 c3, cs = #[c0, c1, c2, c3] := by
  obtain ⟨l⟩ := cs
  match l, h with
  | [c0, c1, c2, c3], _ => exact ⟨c0, c1, c2, c3, rfl⟩
set_option maxRecDepth 100000 in
theorem open_world {H : Type} {enc : TypeId × Value → H} {W : World} {base b0 : Nat} {spare : Nat → Bool} {held : Bool} {v : Value} {d : DataW H} {p : List MemPlace}
    (hv : Value.okWide Try.prog W .any b0 25 v) (h : DataW.Trod enc Try.prog W base spare held 25 v d p) :
    ∃ (T P : Int) (a : Option Addr) (n c : Nat) (U : Nat → Int) (a' : Option Addr) (m c' : Nat) (Q : Nat → Int), v = .agg #[.int .i64 T, .int .i64 P, .slice a n c, .slice a' m c'] ∧ (n : Int) ≤ 9223372036854775807 ∧ (m : Int) ≤ 9223372036854775807 ∧ Flat W a (n * 12) U ∧ Flat W a' (m * 2) Q := by
  obtain ⟨cs, rfl, hsz⟩ := okWide_struct Try.underlying25 hv
  obtain ⟨c0, c1, c2, c3, rfl⟩ := array4 (hsz.trans cellsWd)
  obtain ⟨fuel, hf0⟩ := h
  obtain ⟨xs, n, _, hx, hl, hlen, hf⟩ := DataW.trod_struct Try.underlying25 hf0
  match xs, hlen with
  | [y0, y1, y2, y3], _ =>
    have k0 : DataW.trod enc Try.prog W base spare held n 3 [c0] = some y0 := by simpa [Value.cells, cellsI] using hf 0 _ rfl
    have k1 : DataW.trod enc Try.prog W base spare held n 3 [c1] = some y1 := by simpa [Value.cells, cellsI] using hf 1 _ rfl
    have k2 : DataW.trod enc Try.prog W base spare held n 22 [c2] = some y2 := by simpa [Value.cells, cellsSlB] using hf 2 _ rfl
    have k3 : DataW.trod enc Try.prog W base spare held n 23 [c3] = some y3 := by simpa [Value.cells, cellsSlP] using hf 3 _ rfl
    obtain ⟨T, e0, _, w0⟩ := DataW.trod_int Try.underlying3 k0
    obtain ⟨P, e1, _, w1⟩ := DataW.trod_int Try.underlying3 k1
    obtain ⟨a, n1, c, U, rfl, hn, hF, _⟩ := open_flat (by decide) Try.underlying22 cellsBd intsBd k2
    obtain ⟨a', m, c', Q, rfl, hm, hF', _⟩ := open_flat (by decide) Try.underlying23 cellsPr intsPr k3
    simp only [List.cons.injEq, and_true] at e0 e1
    subst e0 e1
    exact ⟨T, P, a, n1, c, U, a', m, c', Q, rfl, hn, hm, hF, hF'⟩
end Go.Proofs.Ytgcobcmpkbcfoaa
