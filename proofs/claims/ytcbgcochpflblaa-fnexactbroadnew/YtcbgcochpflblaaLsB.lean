/- Lists of boxes with their numbers: held against each other; the exact law of BroadOk. -/
import Derived.Test.YtcbgcochpflblaaBrOk
import Derived.Test.YtcbgcochpflblaaB14
import Derived.Deep.RegionHeld3
import Derived.Deep.DeepCutAuto
namespace Go.Proofs.Ytcbgcochpflblaa
open Go.RowKit
set_option linter.unusedVariables false
set_option linter.unusedSimpArgs false

theorem eqBoxL_same (a b c d : Int) (w : World) :
    Calls Try.prog 48 #[b4 a b c d, b4 a b c d] w fun e w' => e = .returned (.bool true) ∧ Below w.heap.size w w' := by
  have hset := cset_map
  go_enter Try.func48, Try.ntmps48
  go_wp2_with (go_at_call 62; refine (eqVec_same _ _ _).mono ?_; rintro e w1 ⟨rfl, hb1⟩; obtain ⟨hc1, hf1⟩ := bcell hb1; have hz1 := hb1.size; (try simp only [World.size_drew, World.size_alloc, World.size_setCell] at hc1 hf1 hz1); (try have hq1x0 : w.heap.size < w1.heap.size := (by omega)); (try have hq1x1 : w.heap.size + 1 < w1.heap.size := (by omega)))
  go_ret
  exact ⟨rfl, bel_a⟩
theorem eqItem_same (V : Nat → Int) (w : World) :
    Calls Try.prog 36 #[itemW V, itemW V] w fun e w' => e = .returned (.bool true) ∧ Below w.heap.size w w' := by
  have hset := cset_map
  go_enter Try.func36, Try.ntmps36
  go_wp2_with (go_at_call 48; refine (eqBoxL_same _ _ _ _ _).mono ?_; rintro e w1 ⟨rfl, hb1⟩; obtain ⟨hc1, hf1⟩ := bcell hb1; have hz1 := hb1.size; (try simp only [World.size_drew, World.size_alloc, World.size_setCell] at hc1 hf1 hz1))
  go_ret
  exact ⟨rfl, bel_a⟩
set_option maxRecDepth 20000 in
set_option maxHeartbeats 2000000 in
theorem eqItemS_same (a a' : Option Addr) (n c c' : Nat) (U : Nat → Int) (w : World) (h : Flat w a (n * 5) U) (h' : Flat w a' (n * 5) U) (hn : n ≤ 1048576) :
    Calls Try.prog 24 #[.slice a n c, .slice a' n c'] w fun e w' => e = .returned (.bool true) ∧ Below w.heap.size w w' := by
  go_enter Try.func24, Try.ntmps24
  go_wp2
  go_loopw [5] (fun i wr => ∃ k : Nat, k ≤ n ∧ i = .int .i64 (k : Int) ∧ Below w.heap.size w wr) (fun i _ => n - (intOf i).toNat)
  case atStart => exact ⟨0, Nat.zero_le _, rfl, Below.refl _ _⟩
  case round =>
    obtain ⟨k, hk, rfl, hB⟩ := hrel
    by_cases hlt : k < n
    · have hkn : (k : Int) < (n : Int) := by omega
      obtain ⟨b, o, rfl, hbl, hc⟩ := (h.below hB) (by omega)
      obtain ⟨b', o', rfl, hbl', hc'⟩ := (h'.below hB) (by omega)
      have c0 := hc (k * 5 + 0) (by omega)
      have d0 := hc' (k * 5 + 0) (by omega)
      have c1 := hc (k * 5 + 1) (by omega)
      have d1 := hc' (k * 5 + 1) (by omega)
      have c2 := hc (k * 5 + 2) (by omega)
      have d2 := hc' (k * 5 + 2) (by omega)
      have c3 := hc (k * 5 + 3) (by omega)
      have d3 := hc' (k * 5 + 3) (by omega)
      have c4 := hc (k * 5 + 4) (by omega)
      have d4 := hc' (k * 5 + 4) (by omega)
      simp only [← Nat.add_assoc, Nat.add_zero] at c0 c1 c2 c3 c4 d0 d1 d2 d3 d4
      clear hc hc' h h'
      go_upto_region 6 with fail
      refine wp_region_held_drew (S := fun w' => w'.cell? ⟨b, o + k * 5, none⟩ = some (.int .i64 (U (k * 5))) ∧ w'.cell? ⟨b, o + k * 5 + 1, none⟩ = some (.int .i64 (U (k * 5 + 1))) ∧ w'.cell? ⟨b, o + k * 5 + 2, none⟩ = some (.int .i64 (U (k * 5 + 2))) ∧ w'.cell? ⟨b, o + k * 5 + 3, none⟩ = some (.int .i64 (U (k * 5 + 3))) ∧ w'.cell? ⟨b, o + k * 5 + 4, none⟩ = some (.int .i64 (U (k * 5 + 4))) ∧ w'.cell? ⟨b', o' + k * 5, none⟩ = some (.int .i64 (U (k * 5))) ∧ w'.cell? ⟨b', o' + k * 5 + 1, none⟩ = some (.int .i64 (U (k * 5 + 1))) ∧ w'.cell? ⟨b', o' + k * 5 + 2, none⟩ = some (.int .i64 (U (k * 5 + 2))) ∧ w'.cell? ⟨b', o' + k * 5 + 3, none⟩ = some (.int .i64 (U (k * 5 + 3))) ∧ w'.cell? ⟨b', o' + k * 5 + 4, none⟩ = some (.int .i64 (U (k * 5 + 4)))) (by kernel_rfl) ?_ (fun hHeld => ?_)
      · (try dsimp only)
        (first | (go_simp; done) | (go_keep; done))
      refine tq 0 hHeld ?_
      refine tq 1 hHeld ?_
      refine tq 2 hHeld ?_
      refine tq 3 hHeld ?_
      refine tq 4 hHeld ?_
      refine tq 5 hHeld ?_
      refine tq 6 hHeld ?_
      refine tq 7 hHeld ?_
      (refine tc 8 fun K hK => ?_; go_simp; (go_at_call 36; refine (eqItem_same (fun j => U (k * 5 + j)) _).mono ?_; rintro e w1 ⟨rfl, hb1⟩; obtain ⟨hc1, hf1⟩ := bcell hb1; have hz1 := hb1.size; (try simp only [World.size_drew, World.size_alloc, World.size_setCell] at hc1 hf1 hz1); have hk1 := fun o => hc1 b o (by omega); have hk2 := fun o => hc1 b' o (by omega); clear hc1 hf1); (try go_wp2_with fail); refine tr hK (fun hHeld => ?_); clear hK K)
      refine tq 9 hHeld ?_
      refine wpAnyH_done (by kernel_rfl) ?_ _
      go_wp2_with fail
      go_roundw
      case rel => exact ⟨k + 1, by omega, by go_num, hB.trans (hb1.ofDrew.mono hB.size)⟩
      case measure => simp [intOf]; omega
    · go_wp2
      go_ret
      exact ⟨rfl, hB⟩
theorem toBroad_any (a : Option Addr) (n c : Nat) (U : Nat → Int) (w : World) (h : Flat w a (n * 5) U) (hn : n ≤ 1048576) :
    Calls Try.prog 7 #[.agg #[.slice a n c]] w fun e w' => ∃ b, e = .returned (.agg #[.slice (some ⟨b, 0, none⟩) n n]) ∧ w.heap.size ≤ b ∧ Row w' b 59 (n * 5) U ∧ Below w.heap.size w w' := by
  have hset := cset_map
  have h3 := h.below (((((Below.refl _ _).alloc (Nat.le_refl _) (.cells #[.slice a n c] 24)).alloc (by simp only [World.size_alloc]; omega) (.cells #[.slice none 0 0] 30))).alloc (by simp only [World.size_alloc]; omega) (.cells #[.slice none 0 0] 30))
  go_enter Try.func7, Try.ntmps7
  go_wp2_with (go_at_call 19; refine (toItemS_any _ _ _ U _ h3 hn).mono ?_; rintro e w1 ⟨b, rfl, hb, hr, hb1⟩; have hb0 := hb; obtain ⟨hc1, hf1⟩ := bcell hb1; have hz1 := hb1.size; (try simp only [World.size_drew, World.size_alloc, World.size_setCell] at hb0 hc1 hf1 hz1); have hrl := hr.lt; have hq0 : w.heap.size < w1.heap.size := (by omega); have hq1 : w.heap.size + 1 < w1.heap.size := (by omega); have hq2 : w.heap.size + 1 + 1 < w1.heap.size := (by omega))
  refine bodyPost_ret (v := .agg #[.slice (some ⟨b, 0, none⟩) n n]) (by simp [results, Try.results7, go_sem, *]) rfl ⟨b, rfl, by omega, ?_, bel_a⟩
  exact (hr.setO (by simp; omega) _).setO (by simp; omega) _
theorem eqBroad_same (a a' : Option Addr) (n c c' : Nat) (U : Nat → Int) (w : World) (h : Flat w a (n * 5) U) (h' : Flat w a' (n * 5) U) (hn : n ≤ 1048576) :
    Calls Try.prog 10 #[.agg #[.slice a n c], .agg #[.slice a' n c']] w fun e w' => e = .returned (.bool true) ∧ Below w.heap.size w w' := by
  have hset := cset_map
  have hE := (((Below.refl _ w).alloc (Nat.le_refl _) (.cells #[.slice a n c] 30)).alloc (by simp) (.cells #[.slice a' n c'] 30))
  have h3 := h.below hE
  have h4 := h'.below hE
  clear hE
  go_enter Try.func10, Try.ntmps10
  go_wp2_with (go_at_call 24; refine (eqItemS_same _ _ _ _ _ U _ h3 h4 hn).mono ?_; rintro e w1 ⟨rfl, hb1⟩; obtain ⟨hc1, hf1⟩ := bcell hb1; have hz1 := hb1.size; (try simp only [World.size_drew, World.size_alloc, World.size_setCell] at hc1 hf1 hz1))
  go_ret
  exact ⟨rfl, bel_a⟩
theorem szItemS_any (a : Option Addr) (n c : Nat) (w : World) (hn : (n : Int) ≤ 9223372036854775807) :
    Calls Try.prog 16 #[.slice a n c, .int .i64 1048576] w fun e w' => e = .returned (.int .i64 (if n ≤ 1048576 then 1048576 - (n : Int) else -1)) ∧ w' = w := by
  by_cases h : n ≤ 1048576
  · have h1 : ¬ (1048576 - (n : Int) < 0) := by omega
    go_enter Try.func16, Try.ntmps16
    go_wp2
    go_ret
    exact ⟨by first | rfl | (rw [if_pos h]; rfl) | simp [h], rfl⟩
  · have h1 : (1048576 - (n : Int) < 0) := by omega
    go_enter Try.func16, Try.ntmps16
    go_wp2
    go_ret
    exact ⟨by first | rfl | (rw [if_neg h]; rfl) | simp [h], rfl⟩
theorem szBroad_any (a : Option Addr) (n c : Nat) (w : World) (hn : (n : Int) ≤ 9223372036854775807) :
    Calls Try.prog 5 #[.agg #[.slice a n c], .int .i64 1048576] w fun e w' => e = .returned (.int .i64 (if n ≤ 1048576 then 1048576 - (n : Int) else -1)) ∧ Below w.heap.size w w' := by
  have hset := cset_map
  by_cases h : n ≤ 1048576
  · have h1 : ¬ (1048576 - (n : Int) < 0) := by omega
    go_enter Try.func5, Try.ntmps5
    go_wp2_with (go_at_call 16; refine (szItemS_any _ _ _ _ hn).mono ?_; rw [if_pos h]; rintro e w1 ⟨rfl, rfl⟩)
    go_ret
    exact ⟨by first | rfl | (rw [if_pos h]; rfl) | simp [h], bel_a⟩
  · have h1 : (1048576 - (n : Int) < 0) := by omega
    go_enter Try.func5, Try.ntmps5
    go_wp2_with (go_at_call 16; refine (szItemS_any _ _ _ _ hn).mono ?_; rw [if_neg h]; rintro e w1 ⟨rfl, rfl⟩)
    go_ret
    exact ⟨by first | rfl | (rw [if_neg h]; rfl) | simp [h], bel_a⟩
end Go.Proofs.Ytcbgcochpflblaa
