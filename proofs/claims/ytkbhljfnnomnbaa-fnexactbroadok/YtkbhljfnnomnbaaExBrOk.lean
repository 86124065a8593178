/- The walk of the exact law of BroadOk. -/
import Derived.Test.YtkbhljfnnomnbaaLsB
import Derived.Deep.RegionHeld3
import Derived.Deep.DeepCutAuto
namespace Go.Proofs.Ytkbhljfnnomnbaa
open Go.RowKit
set_option linter.unusedVariables false
set_option linter.unusedSimpArgs false
set_option maxRecDepth 20000 in
set_option maxHeartbeats 4000000 in
theorem fnExactBroadOk_walk (a : Option Addr) (n c : Nat) (U : Nat → Int) (w : World) (h : Flat w a (n * 5) U) (hn : (n : Int) ≤ 9223372036854775807) :
    Calls Try.prog 3 #[.agg #[.slice a n c]] w fun e w' => e = .returned (.bool true) ∧ Below w.heap.size w w' := by
  have hset := cset_map
  by_cases h20 : n ≤ 1048576
  · have h1 : ¬ (1048576 - (n : Int) < 0) := by omega
    go_enter Try.func3, Try.ntmps3
    go_upto_region 2 with fail
    go_cut [3] (fun s3 wc => s3 = .int .i64 (1048576 - (n : Int)) ∧ BrR w a n c U wc)
    case first =>
      go_wp2_with (go_at_call 4; refine (szBroad_any _ _ _ _ hn).mono ?_; rw [if_pos h20]; rintro e w1 ⟨rfl, hb1⟩)
      go_meet
      exact ⟨rfl, BrR.on ⟨(Below.refl _ _).alloc (Nat.le_refl _) _, by simp, by go_simp⟩ hb1⟩
    case rest =>
    obtain ⟨rfl, hB⟩ := hcut
    have hbox := hB.box
    go_upto_region 5 with fail
    go_cut [4] (fun s4 wc => s4 = .bool (broadB n U) ∧ BrR w a n c U wc)
    case first =>
      go_wp2_with (first
        | (go_at_call 6; refine (toBroad_any _ _ _ U _ (h.below hB.bel) h20).mono ?_; rintro e w2 ⟨b2, rfl, hl2, hr2, hb2⟩; have hB2 := hB.on hb2)
        | (go_at_call 5; refine (sBroadOk_any _ _ _ U _ hr2.flat h20).mono ?_; rintro e w3 ⟨rfl, hb3⟩; have hB3 := hB2.on hb3))
      go_meet
      exact ⟨rfl, hB3⟩
    case rest =>
    clear hB hbox
    obtain ⟨rfl, hB⟩ := hcut
    have hbox := hB.box
    go_upto_region 6 with fail
    go_cut [5] (fun s5 wc => ∃ bx b, s5 = .pointer (some ⟨bx, 0, none⟩) ∧ wc.cell? ⟨bx, 0, none⟩ = some (.slice (some ⟨b, 0, none⟩) n n) ∧ bx < wc.heap.size ∧ Row wc b 40 (n * 5) U ∧ BrR w a n c U wc)
    case first =>
      go_wp2_with (go_at_call 6; refine (toBroad_any _ _ _ U _ (h.below hB.bel) h20).mono ?_; rintro e w2 ⟨b2, rfl, hl2, hr2, hb2⟩; have hB2 := hB.on hb2)
      go_meet
      exact ⟨_, b2, rfl, by go_simp, by simp, hr2.alloc _, hB2.on ((Below.refl _ _).alloc (Nat.le_refl _) _)⟩
    case rest =>
    clear hB hbox
    obtain ⟨bx, b, rfl, hx, hbx, hR, hB⟩ := hcut
    have hbox := hB.box
    go_upto_region 7 with fail
    go_cut [6] (fun s6 wc => s6 = .bool (broadB n U) ∧ wc.cell? ⟨bx, 0, none⟩ = some (.slice (some ⟨b, 0, none⟩) n n) ∧ bx < wc.heap.size ∧ Row wc b 40 (n * 5) U ∧ BrR w a n c U wc)
    case first =>
      go_wp2_with (go_at_call 7; refine (broadOk_any _ _ _ U _ hR.flat h20).mono ?_; rintro e w3 ⟨rfl, hb3⟩; have hB3 := hB.on hb3)
      go_meet
      exact ⟨rfl, (hb3.cell (p := ⟨bx, 0, none⟩) hbx).trans hx, Nat.lt_of_lt_of_le hbx hb3.size, hR.below hb3, hB3⟩
    case rest =>
    clear hB hbox hx hbx hR
    obtain ⟨rfl, hx, hbx, hR, hB⟩ := hcut
    have hbox := hB.box
    have hbig := hB.big
    go_upto_region 10 with fail
    refine wp_region_held_drew (S := fun w' => w'.cell? ⟨w.heap.size, 0, none⟩ = some (.slice a n c) ∧ w'.cell? ⟨bx, 0, none⟩ = some (.slice (some ⟨b, 0, none⟩) n n)) (by kernel_rfl) ?_ (fun hHeld => ?_)
    · (try dsimp only)
      (first | (go_simp; done) | (go_keep; done))
    refine tq 0 hHeld ?_
    refine tq 1 hHeld ?_
    (refine tc 2 fun K hK => ?_; go_simp; (go_at_call 6; refine (toBroad_any _ _ _ U _ (h.below (hB.bel.drew)) h20).mono ?_; rintro e w6 ⟨b6, rfl, hl6, hr6, hb6⟩; have hB6 := hB.on hb6.ofDrew; have hR6 := hR.below hb6.ofDrew; obtain ⟨hc6, hf6⟩ := bcell hb6; have hz6 := hb6.size; (try simp only [World.size_drew] at hc6 hf6 hz6); have hk1 := fun o => hc6 w.heap.size o (by omega); have hk2 := fun o => hc6 bx o (by omega); clear hc6 hf6); (try go_wp2_with fail); refine tr hK (fun hHeld => ?_); clear hK K)
    (refine tc 3 fun K hK => ?_; go_simp; (go_at_call 8; refine (eqBroad_same _ _ _ _ _ U _ hR6.flat hr6.flat h20).mono ?_; rintro e w7 ⟨rfl, hb7⟩; have hB7 := hB6.on hb7; obtain ⟨hc7, hf7⟩ := bcell hb7; have hz7 := hb7.size; (try simp only [World.size_drew] at hc7 hf7 hz7); have hk3 := fun o => hc7 w.heap.size o (by omega); have hk4 := fun o => hc7 bx o (by omega); clear hc7 hf7); (try go_wp2_with fail); refine tr hK (fun hHeld => ?_); clear hK K)
    refine tq 4 hHeld ?_
    refine wpAnyH_done (by kernel_rfl) ?_ _
    go_wp2_with fail
    go_ret
    exact ⟨rfl, hB7.bel⟩
  · have h1 : (1048576 - (n : Int) < 0) := by omega
    go_enter Try.func3, Try.ntmps3
    go_wp2_with (go_at_call 4; refine (szBroad_any _ _ _ _ hn).mono ?_; rw [if_neg h20]; rintro e w1 ⟨rfl, hb1⟩)
    go_ret
    exact ⟨rfl, by repeat (first | with_reducible apply Below.refl | (with_reducible apply Below.setCell; rotate_left; focus (first | omega | (simp; done) | (simp; omega))) | (with_reducible apply Below.alloc; rotate_left; focus (first | omega | (simp; done) | (simp; omega))) | with_reducible apply Below.drew | with_reducible apply belowDrewN | (with_reducible apply Below.trans; rotate_left; with_reducible apply Below.mono; with_reducible assumption; focus (first | omega | (simp; done) | (simp; omega))))⟩
end Go.Proofs.Ytkbhljfnnomnbaa
