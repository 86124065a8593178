/- The walk of the exact law of GroupAwake. -/
import Derived.Test.YtlbpmmjckoaleaaGreatB14
import Derived.Test.YtlbpmmjckoaleaaGreatB13
import Derived.Deep.RegionHeld3
import Derived.Deep.DeepCutAuto
namespace Go.Proofs.YtlbpmmjckoaleaaGreat
open Go.RowKit
set_option linter.unusedVariables false
set_option linter.unusedSimpArgs false
set_option maxRecDepth 20000 in
set_option maxHeartbeats 8000000 in
theorem fnExactGroupAwake_walk (a : Option Addr) (n c : Nat) (U : Nat → Int)  (w : World) (h : Flat w a (n * 12) U) (hn : (n : Int) ≤ 9223372036854775807) :
    Calls Tryz.prog 4 #[.slice a n c] w fun e w' => e = .returned (.bool true) ∧ Below w.heap.size w w' := by
  have hset := cset_map
  by_cases h20 : n ≤ 1048576
  · have h1 : ¬ (1048576 - (n : Int) < 0) := by omega
    obtain ⟨N, hN5⟩ : ∃ N, (awO n U).length = N := ⟨_, rfl⟩
    have hN12 := awO_len n U
    have hN20 : N ≤ 1048576 := by omega
    obtain ⟨R, hR⟩ : ∃ R : Nat → Bool, R = fun j => (awO n U).getD j false := ⟨_, rfl⟩
    go_enter Tryz.func4, Tryz.ntmps4
    go_upto_region 5 with (go_at_call 6; refine (szBodyS_any _ _ _ _ hn).mono ?_; rw [if_pos h20]; rintro e w0 ⟨rfl, rfl⟩)
    go_cut [4] (fun s wc => ∃ aw cw lw hw, s = .slice aw N cw ∧ w0.heap.size ≤ lw ∧ lw ≤ hw ∧ Below w0.heap.size w0 wc ∧ LvB wc lw hw aw N cw R)
    case first =>
      go_wp2_with (first
        | (go_at_call 8; refine (toBodyS_any _ _ _ U _ h h20).mono ?_; rintro e w2 ⟨b2, rfl, hl2, hr2, hb2⟩)
        | (go_at_call 15; refine (awakeS_r hR _ _ N _ hr2.flat h20 hN5).mono ?_; rintro e w3 ⟨a3, c3, rfl, hO3⟩))
      go_meet
      exact ⟨_, _, _, _, rfl, hb2.size, hO3.bel.size, hb2.trans (hO3.bel.mono hb2.size), hO3.lv⟩
    case rest =>
    obtain ⟨aw, cw, lw, hw, rfl, g1, g2, hB, hW⟩ := hcut
    go_upto_region 6 with fail
    go_cut [5] (fun s wc => ∃ ax cx lx hx, s = .slice ax n cx ∧ n ≤ cx ∧ hw ≤ lx ∧ lx ≤ hx ∧ Below w0.heap.size w0 wc ∧ LvB wc lw hw aw N cw R ∧ Lv wc lx hx 48 12 ax n cx U)
    case first =>
      go_wp2_with (go_at_call 8; refine (toBodyS_any _ _ _ U _ (h.below hB) h20).mono ?_; rintro e w2 ⟨b2, rfl, hl2, hr2, hb2⟩)
      go_meet
      exact ⟨_, _, _, _, rfl, Nat.le_refl _, hW.le, hb2.size, hB.trans (hb2.mono hB.size), hW.on hb2, Lv.row hr2 hl2 h20⟩
    case rest =>
    clear hB hW
    obtain ⟨ax, cx, lx, hx, rfl, hcx, g3, g4, hB, hW, hX⟩ := hcut
    go_upto_region 7 with fail
    go_cut [6] (fun s wc => ∃ ag cg lg hg, s = .slice ag N cg ∧ hx ≤ lg ∧ lg ≤ hg ∧ Below w0.heap.size w0 wc ∧ LvB wc lw hw aw N cw R ∧ Lv wc lx hx 48 12 ax n cx U ∧ LvB wc lg hg ag N cg R)
    case first =>
      go_wp2_with (go_at_call 16; refine (awakeI_r hR _ _ N _ hX.flat h20 hN5).mono ?_; rintro e w3 ⟨a3, c3, rfl, hO3⟩)
      go_meet
      exact ⟨_, _, _, _, rfl, hX.le, hO3.bel.size, hB.trans (hO3.bel.mono hB.size), hW.on hO3.bel, hX.on hO3.bel, hO3.lv⟩
    case rest =>
    clear hB hW hX
    obtain ⟨ag, cg, lg, hg, rfl, g5, g6, hB, hW, hX, hG⟩ := hcut
    go_upto_region 8 with fail
    go_cut [26] (fun s wc => s = .bool false ∧ Below w0.heap.size w0 wc ∧ LvB wc lw hw aw N cw R ∧ Lv wc lx hx 48 12 ax n cx U ∧ LvB wc lg hg ag N cg R)
    case first =>
      go_wp2_with (go_at_call 17; refine (eqBoolS_same _ _ _ _ _ R _ hG.flat hW.flat hN20).mono ?_; rintro e w8 ⟨rfl, hb8⟩)
      go_meet
      exact ⟨rfl, hB.trans (hb8.mono hB.size), hW.on hb8, hX.on hb8, hG.on hb8⟩
    case rest =>
    clear hB hW hX hG
    obtain ⟨rfl, hB, hW, hX, hG⟩ := hcut
    go_upto_region 10 with fail
    go_cut [31] (fun s wc => s = .bool false ∧ Below w0.heap.size w0 wc ∧ LvB wc lw hw aw N cw R ∧ Lv wc lx hx 48 12 ax n cx U ∧ LvB wc lg hg ag N cg R)
    case first =>
      go_wp2_with (first
        | (go_at_call 8; refine (toBodyS_any _ _ _ U _ (h.below hB) h20).mono ?_; rintro e w6 ⟨b6, rfl, hl6, hr6, hb6⟩)
        | (go_at_call 11; refine (eqBodyS_same _ _ _ _ _ U _ (hX.on hb6).flat hr6.flat h20).mono ?_; rintro e w7 ⟨rfl, hb7⟩))
      go_meet
      have hb67 := hb6.trans (hb7.mono hb6.size)
      exact ⟨rfl, hB.trans (hb67.mono hB.size), hW.on hb67, hX.on hb67, hG.on hb67⟩
    case rest =>
    clear hB hW hX hG
    obtain ⟨rfl, hB, hW, hX, hG⟩ := hcut
    go_upto_region 13 with fail
    go_cut [7] (fun s wc => s = .int .i64 (1 + (n : Int) * 12) ∧ Below w0.heap.size w0 wc ∧ LvB wc lw hw aw N cw R ∧ Lv wc lx hx 48 12 ax n cx (fun q => 1 + (q : Int)) ∧ LvB wc lg hg ag N cg R)
    case first =>
      go_wp2_with (go_at_call 12; refine (markBodyS_any lx _ _ _ U _ hX.own (by omega)).mono ?_; rintro e w2 ⟨rfl, ho2, hg2⟩)
      go_meet
      exact ⟨rfl, hX.below hB hB.size hg2 (by omega), hW.gr hX hg2 (.inl (by omega)), hX.me hg2 ho2, hG.gr hX hg2 (.inr (by omega))⟩
    case rest =>
    clear hB hW hX hG
    obtain ⟨rfl, hB, hW, hX, hG⟩ := hcut
    have hk0 : ¬ ((1 + (n : Int) * 12) < 0) := by omega
    go_upto_region 14 with fail
    go_cut [42] (fun s wc => s = .bool false ∧ Below w0.heap.size w0 wc ∧ LvB wc lw hw aw N cw R ∧ Lv wc lx hx 48 12 ax n cx (fun q => 1 + (q : Int)) ∧ LvB wc lg hg ag N cg R)
    case first =>
      go_wp2_with (go_at_call 17; refine (eqBoolS_same _ _ _ _ _ R _ hG.flat hW.flat hN20).mono ?_; rintro e w9 ⟨rfl, hb9⟩)
      go_meet
      exact ⟨rfl, hB.trans (hb9.mono hB.size), hW.on hb9, hX.on hb9, hG.on hb9⟩
    case rest =>
    clear hB hW hX hG
    obtain ⟨rfl, hB, hW, hX, hG⟩ := hcut
    go_upto_region 17 with fail
    go_cut [8] (fun s wc => s = .int .i64 (1 + (N : Int)) ∧ Below w0.heap.size w0 wc ∧ LvB wc lw hw aw N cw R ∧ Lv wc lx hx 48 12 ax n cx (fun q => 1 + (q : Int)) ∧ LvB wc lg hg ag N cg mkB)
    case first =>
      go_wp2_with (go_at_call 18; refine (markBoolS_any lg _ _ _ R _ hG.own (by omega)).mono ?_; rintro e w2 ⟨rfl, ho2, hg2⟩)
      go_meet
      exact ⟨rfl, hG.below hB hB.size hg2 (by omega), hW.grB hG hg2 (.inl (by omega)), hX.grB hG hg2 (.inl (by omega)), hG.me hg2 ho2⟩
    case rest =>
    clear hB hW hX hG
    obtain ⟨rfl, hB, hW, hX, hG⟩ := hcut
    have hk1 : ¬ ((1 + (N : Int)) < 0) := by omega
    go_upto_region 19 with fail
    go_cut [9] (fun s wc => s = .int .i64 (1 + (N : Int)) ∧ Below w0.heap.size w0 wc ∧ LvB wc lw hw aw N cw R ∧ Lv wc lx hx 48 12 ax n cx (fun q => 1 + (q : Int)) ∧ LvB wc lg hg ag N cg mkB)
    case first =>
      go_wp2_with (go_at_call 19; refine (heldBoolS_any _ _ _ _ hG.flat (by omega)).mono ?_; rintro e w2 ⟨rfl, rfl⟩)
      go_meet
      exact ⟨rfl, hB, hW, hX, hG⟩
    case rest =>
    clear hB hW hX hG
    obtain ⟨rfl, hB, hW, hX, hG⟩ := hcut
    go_upto_region 24 with fail
    go_cut [10] (fun s wc => ∃ ah ch lh hh, s = .slice ah N ch ∧ Below w0.heap.size w0 wc ∧ LvB wc lw hw aw N cw R ∧ Lv wc lx hx 48 12 ax n cx (fun q => 1 + (q : Int)) ∧ LvB wc lg hg ag N cg mkB ∧ LvB wc lh hh ah N ch R)
    case first =>
      go_wp2_with (first
        | (go_at_call 8; refine (toBodyS_any _ _ _ U _ (h.below hB) h20).mono ?_; rintro e w2 ⟨b2, rfl, hl2, hr2, hb2⟩)
        | (go_at_call 16; refine (awakeI_r hR _ _ N _ hr2.flat h20 hN5).mono ?_; rintro e w3 ⟨a3, c3, rfl, hO3⟩))
      go_meet
      have hb23 := hb2.trans (hO3.bel.mono hb2.size)
      exact ⟨_, _, _, _, rfl, hB.trans (hb23.mono hB.size), hW.on hb23, hX.on hb23, hG.on hb23, hO3.lv⟩
    case rest =>
    clear hB hW hX hG
    obtain ⟨ah, ch, lh, hh, rfl, hB, hW, hX, hG, hH⟩ := hcut
    go_upto_region 25 with fail
    go_cut [60] (fun s wc => s = .bool false ∧ Below w0.heap.size w0 wc ∧ LvB wc lg hg ag N cg mkB)
    case first =>
      go_wp2_with (go_at_call 17; refine (eqBoolS_same _ _ _ _ _ R _ hH.flat hW.flat hN20).mono ?_; rintro e w9 ⟨rfl, hb9⟩)
      go_meet
      exact ⟨rfl, hB.trans (hb9.mono hB.size), hG.on hb9⟩
    case rest =>
    clear hB hW hX hG hH
    obtain ⟨rfl, hB, hG⟩ := hcut
    go_upto_region 28 with fail
    go_wp2_with (go_at_call 19; refine (heldBoolS_any _ _ _ _ hG.flat (by omega)).mono ?_; rintro e w2 ⟨rfl, rfl⟩)
    go_ret
    exact ⟨rfl, hB⟩
  · have h1 : (1048576 - (n : Int) < 0) := by omega
    go_enter Tryz.func4, Tryz.ntmps4
    go_wp2_with (go_at_call 6; refine (szBodyS_any _ _ _ _ hn).mono ?_; rw [if_neg h20]; rintro e w0 ⟨rfl, rfl⟩)
    go_ret
    exact ⟨rfl, Below.refl _ _⟩
end Go.Proofs.YtlbpmmjckoaleaaGreat
