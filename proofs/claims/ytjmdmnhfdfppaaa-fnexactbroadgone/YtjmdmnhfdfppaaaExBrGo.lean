/- The walk of the exact law of BroadGone. -/
import Derived.Test.YtjmdmnhfdfppaaaBrLk
import Derived.Test.YtjmdmnhfdfppaaaBrGo
import Derived.Test.YtjmdmnhfdfppaaaTq
import Derived.Deep.RegionHeld3
import Derived.Deep.DeepCutAuto
namespace Go.Proofs.Ytjmdmnhfdfppaaa
open Go.RowKit
set_option linter.unusedVariables false
set_option linter.unusedSimpArgs false
set_option maxRecDepth 20000 in
set_option maxHeartbeats 8000000 in
theorem fnExactBroadGone_walk (a : Option Addr) (n c : Nat) (U : Nat → Int) (id : Int) (w : World) (h : Flat w a (n * 5) U) (hn : (n : Int) ≤ 9223372036854775807) :
    Calls Try.prog 4 #[.agg #[.slice a n c], .int .i64 id] w fun e w' => e = .returned (.bool true) ∧ Below w.heap.size w w' := by
  have hset := cset_map
  by_cases h20 : n ≤ 1048576
  · have h1 : ¬ (1048576 - (n : Int) < 0) := by omega
    obtain ⟨k, hk⟩ := isAt_ex n U id
    obtain ⟨N, R, B, hGo, hNn⟩ := goIs_ex n U id k
    have hN20 : N ≤ 1048576 := by omega
    go_enter Try.func4, Try.ntmps4
    go_upto_region 2 with fail
    go_cut [5] (fun s3 wc => s3 = .int .i64 (1048576 - (n : Int)) ∧ BrR w a n c U wc)
    case first =>
      go_wp2_with (go_at_call 5; refine (szBroad_any _ _ _ _ hn).mono ?_; rw [if_pos h20]; rintro e w1 ⟨rfl, hb1⟩)
      go_meet
      exact ⟨rfl, BrR.on ⟨(Below.refl _ _).alloc (Nat.le_refl _) _, by simp, by go_simp⟩ hb1⟩
    case rest =>
    obtain ⟨rfl, hB⟩ := hcut
    have hbox := hB.box
    have hbig := hB.big
    go_upto_region 5 with fail
    go_cut [6, 7] (fun s t wc => ∃ lw bw aw cw, s = .pointer (some ⟨bw, 0, none⟩) ∧ t = .bool B ∧ w.heap.size < lw ∧ lw ≤ bw ∧ BrR w a n c U wc ∧ Lk wc lw bw aw N cw R)
    case first =>
      go_wp2_with (first
        | (go_at_call 7; refine (toBroad_any _ _ _ U _ (h.below hB.bel) h20).mono ?_; rintro e w2 ⟨b2, rfl, hl2, hr2, hb2⟩; have hB2 := hB.on hb2)
        | (go_at_call 13; refine (sGone_any _ _ _ U _ k _ hr2.flat (Nat.le_refl _) h20 hk N R B hGo).mono ?_; rintro e w3 ⟨a3, c3, rfl, hO3⟩; have hB3 := hB2.on hO3.bel))
      go_meet
      exact ⟨_, _, _, _, rfl, rfl, hB2.big, hO3.bel.size, hB3.on ((Below.refl _ _).alloc (Nat.le_refl _) _), Lk.of hO3 _⟩
    case rest =>
    clear hB hbox hbig
    obtain ⟨lw, bw, aw, cw, rfl, rfl, g1, g2, hB, hw⟩ := hcut
    have hbox := hB.box
    have hbig := hB.big
    go_upto_region 6 with fail
    go_cut [8] (fun s wc => ∃ lx bx ax cx, s = .pointer (some ⟨bx, 0, none⟩) ∧ bw < lx ∧ lx ≤ bx ∧ n ≤ cx ∧ BrR w a n c U wc ∧ Lk wc lw bw aw N cw R ∧ Lk wc lx bx ax n cx U)
    case first =>
      go_wp2_with (go_at_call 7; refine (toBroad_any _ _ _ U _ (h.below hB.bel) h20).mono ?_; rintro e w2 ⟨b2, rfl, hl2, hr2, hb2⟩; have hB2 := hB.on hb2)
      go_meet
      have hE : Below w2.heap.size w2 (w2.alloc (.cells #[.slice (some ⟨b2, 0, none⟩) n n] 34)) := (Below.refl _ _).alloc (Nat.le_refl _) _
      exact ⟨_, _, _, _, rfl, hw.lt, hb2.size, Nat.le_refl _, (hB2.on hE), (hw.on hb2).on hE, Lk.row hr2 hl2 h20 _⟩
    case rest =>
    clear hB hbox hbig
    clear hw
    obtain ⟨lx, bx, ax, cx, rfl, g3, g4, hcx, hB, hw, hx⟩ := hcut
    have hbox := hB.box
    have hbig := hB.big
    have hxb := hx.box
    go_upto_region 7 with fail
    go_cut [9, 10] (fun s t wc => ∃ lg bg ag cg, s = .pointer (some ⟨bg, 0, none⟩) ∧ t = .bool B ∧ bx < lg ∧ lg ≤ bg ∧ BrR w a n c U wc ∧ Lk wc lw bw aw N cw R ∧ Lk wc lx bx ax n cx U ∧ Lk wc lg bg ag N cg R)
    case first =>
      go_wp2_with (go_at_call 14; refine (gone_any _ _ _ U _ k _ hx.flat hcx h20 hk N R B hGo).mono ?_; rintro e w3 ⟨a3, c3, rfl, hO3⟩; have hB3 := hB.on hO3.bel)
      go_meet
      have hE : Below w3.heap.size w3 (w3.alloc (.cells #[.slice a3 N c3] 34)) := (Below.refl _ _).alloc (Nat.le_refl _) _
      exact ⟨_, _, _, _, rfl, rfl, hx.lt, hO3.bel.size, hB3.on hE, (hw.on hO3.bel).on hE, (hx.on hO3.bel).on hE, Lk.of hO3 _⟩
    case rest =>
    clear hB hbox hbig
    clear hw hx hxb
    obtain ⟨lg, bg, ag, cg, rfl, rfl, g5, g6, hB, hw, hx, hg⟩ := hcut
    have hbox := hB.box
    have hbig := hB.big
    have hwb := hw.box
    have hxb := hx.box
    have hgb := hg.box
    go_upto_region 8 with fail
    go_cut [44] (fun s0 wc => s0 = .bool false ∧ BrR w a n c U wc ∧ Lk wc lw bw aw N cw R ∧ Lk wc lx bx ax n cx U ∧ Lk wc lg bg ag N cg R)
    case first =>
      go_wp2_with (go_at_call 10; refine (eqBroad_same _ _ _ _ _ R _ hg.flat hw.flat hN20).mono ?_; rintro e w8 ⟨rfl, hb8⟩)
      go_meet
      exact ⟨rfl, hB.on hb8, hw.on hb8, hx.on hb8, hg.on hb8⟩
    case rest =>
    clear hB hbox hbig
    clear hw hx hg hwb hxb hgb
    obtain ⟨rfl, hB, hw, hx, hg⟩ := hcut
    have hbox := hB.box
    have hbig := hB.big
    have hwb := hw.box
    have hxb := hx.box
    have hgb := hg.box
    go_upto_region 10 with fail
    go_cut [49] (fun s0 wc => s0 = .bool false ∧ BrR w a n c U wc ∧ Lk wc lw bw aw N cw R ∧ Lk wc lx bx ax n cx U ∧ Lk wc lg bg ag N cg R)
    case first =>
      refine wp_region_held_drew (S := fun w' => w'.cell? ⟨w.heap.size, 0, none⟩ = some (.slice a n c) ∧ w'.cell? ⟨bx, 0, none⟩ = some (.slice ax n cx)) (by kernel_rfl) ?_ (fun hHeld => ?_)
      · (try dsimp only)
        (first | (go_simp; done) | (go_keep; done))
      refine tq 0 hHeld ?_
      refine tq 1 hHeld ?_
      (refine tc 2 fun K hK => ?_; go_simp; (go_at_call 7; refine (toBroad_any _ _ _ U _ (h.below hB.bel.drew) h20).mono ?_; rintro e w6 ⟨b6, rfl, hl6, hr6, hb6⟩; have hB6 := hB.on hb6.ofDrew; have hw6 := hw.on hb6.ofDrew; have hx6 := hx.on hb6.ofDrew; have hg6 := hg.on hb6.ofDrew; have k1 := hB6.box; have k2 := hx6.box); (try go_wp2_with fail); refine tr hK (fun hHeld => ?_); clear hK K)
      (refine tc 3 fun K hK => ?_; go_simp; (go_at_call 10; refine (eqBroad_same _ _ _ _ _ U _ hx6.flat hr6.flat h20).mono ?_; rintro e w7 ⟨rfl, hb7⟩; have hB7 := hB6.on hb7; have hw7 := hw6.on hb7; have hx7 := hx6.on hb7; have hg7 := hg6.on hb7; have k3 := hB7.box; have k4 := hx7.box); (try go_wp2_with fail); refine tr hK (fun hHeld => ?_); clear hK K)
      refine tq 4 hHeld ?_
      refine wpAnyH_done (by kernel_rfl) ?_ _
      go_wp2_with fail
      go_meet
      exact ⟨rfl, hB7, hw7, hx7, hg7⟩
    case rest =>
    clear hB hbox hbig
    clear hw hx hg hwb hxb hgb
    obtain ⟨rfl, hB, hw, hx, hg⟩ := hcut
    have hbox := hB.box
    have hbig := hB.big
    have hwb := hw.box
    have hxb := hx.box
    have hgb := hg.box
    go_upto_region 13 with fail
    go_cut [11] (fun s0 wc => s0 = .int .i64 (1 + (n : Int) * 5) ∧ BrR w a n c U wc ∧ Lk wc lw bw aw N cw R ∧ Lk wc lx bx ax n cx (fun q => 1 + (q : Int)) ∧ Lk wc lg bg ag N cg R)
    case first =>
      go_wp2_with (go_at_call 11; refine (markBroad_any lx _ _ _ U _ hx.own (by omega)).mono ?_; rintro e w2 ⟨rfl, ho2, hg2⟩)
      go_meet
      exact ⟨rfl, hB.gr hx hg2 (by omega), hw.gr hx hg2 (.inl (by omega)) g2, hx.me hg2 ho2, hg.gr hx hg2 (.inr (by omega)) g6⟩
    case rest =>
    clear hB hbox hbig
    clear hw hx hg hwb hxb hgb
    obtain ⟨rfl, hB, hw, hx, hg⟩ := hcut
    have hbox := hB.box
    have hbig := hB.big
    have hwb := hw.box
    have hxb := hx.box
    have hgb := hg.box
    have hk0 : ¬ (1 + (n : Int) * 5 < 0) := by omega
    go_upto_region 14 with fail
    go_cut [65] (fun s0 wc => s0 = .bool false ∧ BrR w a n c U wc ∧ Lk wc lw bw aw N cw R ∧ Lk wc lx bx ax n cx (fun q => 1 + (q : Int)) ∧ Lk wc lg bg ag N cg R)
    case first =>
      go_wp2_with (go_at_call 10; refine (eqBroad_same _ _ _ _ _ R _ hg.flat hw.flat hN20).mono ?_; rintro e w9 ⟨rfl, hb9⟩)
      go_meet
      exact ⟨rfl, hB.on hb9, hw.on hb9, hx.on hb9, hg.on hb9⟩
    case rest =>
    clear hB hbox hbig
    clear hw hx hg hwb hxb hgb
    obtain ⟨rfl, hB, hw, hx, hg⟩ := hcut
    have hbox := hB.box
    have hbig := hB.big
    have hwb := hw.box
    have hxb := hx.box
    have hgb := hg.box
    go_upto_region 17 with fail
    go_cut [12] (fun s0 wc => s0 = .int .i64 (1 + (N : Int) * 5) ∧ BrR w a n c U wc ∧ Lk wc lw bw aw N cw R ∧ Lk wc lx bx ax n cx (fun q => 1 + (q : Int)) ∧ Lk wc lg bg ag N cg (fun q => 1 + (q : Int)))
    case first =>
      go_wp2_with (go_at_call 11; refine (markBroad_any lg _ _ _ R _ hg.own (by omega)).mono ?_; rintro e w2 ⟨rfl, ho2, hg2⟩)
      go_meet
      exact ⟨rfl, hB.gr hg hg2 (by omega), hw.gr hg hg2 (.inl (by omega)) g2, hx.gr hg hg2 (.inl (by omega)) g4, hg.me hg2 ho2⟩
    case rest =>
    clear hB hbox hbig
    clear hw hx hg hwb hxb hgb
    obtain ⟨rfl, hB, hw, hx, hg⟩ := hcut
    have hbox := hB.box
    have hbig := hB.big
    have hwb := hw.box
    have hxb := hx.box
    have hgb := hg.box
    have hk1 : ¬ (1 + (N : Int) * 5 < 0) := by omega
    go_upto_region 19 with fail
    go_cut [13] (fun s0 wc => s0 = .int .i64 (1 + (N : Int) * 5) ∧ BrR w a n c U wc ∧ Lk wc lw bw aw N cw R ∧ Lk wc lx bx ax n cx (fun q => 1 + (q : Int)) ∧ Lk wc lg bg ag N cg (fun q => 1 + (q : Int)))
    case first =>
      go_wp2_with (go_at_call 12; refine (heldBroad_any _ _ _ _ hg.flat (by omega)).mono ?_; rintro e w2 ⟨rfl, hb2⟩)
      go_meet
      exact ⟨rfl, hB.on hb2, hw.on hb2, hx.on hb2, hg.on hb2⟩
    case rest =>
    clear hB hbox hbig
    clear hw hx hg hwb hxb hgb
    obtain ⟨rfl, hB, hw, hx, hg⟩ := hcut
    have hbox := hB.box
    have hbig := hB.big
    have hwb := hw.box
    have hxb := hx.box
    have hgb := hg.box
    go_upto_region 24 with fail
    go_cut [14, 15] (fun s t wc => ∃ lh bh ah ch, s = .pointer (some ⟨bh, 0, none⟩) ∧ t = .bool B ∧ BrR w a n c U wc ∧ Lk wc lw bw aw N cw R ∧ Lk wc lx bx ax n cx (fun q => 1 + (q : Int)) ∧ Lk wc lg bg ag N cg (fun q => 1 + (q : Int)) ∧ Lk wc lh bh ah N ch R)
    case first =>
      go_wp2_with (first
        | (go_at_call 7; refine (toBroad_any _ _ _ U _ (h.below hB.bel) h20).mono ?_; rintro e w2 ⟨b2, rfl, hl2, hr2, hb2⟩; have hB2 := hB.on hb2; have hw2 := hw.on hb2; have hx2 := hx.on hb2; have hg2 := hg.on hb2)
        | (go_at_call 14; refine (gone_any _ _ _ U _ k _ hr2.flat (Nat.le_refl _) h20 hk N R B hGo).mono ?_; rintro e w3 ⟨a3, c3, rfl, hO3⟩; have hB3 := hB2.on hO3.bel))
      go_meet
      have hE : Below w3.heap.size w3 (w3.alloc (.cells #[.slice a3 N c3] 34)) := (Below.refl _ _).alloc (Nat.le_refl _) _
      exact ⟨_, _, _, _, rfl, rfl, hB3.on hE, (hw2.on hO3.bel).on hE, (hx2.on hO3.bel).on hE, (hg2.on hO3.bel).on hE, Lk.of hO3 _⟩
    case rest =>
    clear hB hbox hbig
    clear hw hx hg hwb hxb hgb
    obtain ⟨lh, bh, ah, ch, rfl, rfl, hB, hw, hx, hg, hh⟩ := hcut
    have hbox := hB.box
    have hbig := hB.big
    have hwb := hw.box
    have hxb := hx.box
    have hgb := hg.box
    have hhb := hh.box
    go_upto_region 25 with fail
    go_cut [92] (fun s0 wc => s0 = .bool false ∧ BrR w a n c U wc ∧ Lk wc lw bw aw N cw R ∧ Lk wc lx bx ax n cx (fun q => 1 + (q : Int)) ∧ Lk wc lg bg ag N cg (fun q => 1 + (q : Int)))
    case first =>
      go_wp2_with (go_at_call 10; refine (eqBroad_same _ _ _ _ _ R _ hh.flat hw.flat hN20).mono ?_; rintro e w9 ⟨rfl, hb9⟩)
      go_meet
      exact ⟨rfl, hB.on hb9, hw.on hb9, hx.on hb9, hg.on hb9⟩
    case rest =>
    clear hB hbox hbig
    clear hw hx hg hh hwb hxb hgb hhb
    obtain ⟨rfl, hB, hw, hx, hg⟩ := hcut
    have hbox := hB.box
    have hbig := hB.big
    have hwb := hw.box
    have hxb := hx.box
    have hgb := hg.box
    go_upto_region 28 with fail
    go_wp2_with (go_at_call 12; refine (heldBroad_any _ _ _ _ hg.flat (by omega)).mono ?_; rintro e w2 ⟨rfl, hb2⟩)
    go_ret
    exact ⟨rfl, (hB.on hb2).bel⟩
  · have h1 : (1048576 - (n : Int) < 0) := by omega
    go_enter Try.func4, Try.ntmps4
    go_wp2_with (go_at_call 5; refine (szBroad_any _ _ _ _ hn).mono ?_; rw [if_neg h20]; rintro e w1 ⟨rfl, hb1⟩)
    go_ret
    exact ⟨rfl, by repeat (first | with_reducible apply Below.refl | (with_reducible apply Below.setCell; rotate_left; focus (first | omega | (simp; done) | (simp; omega))) | (with_reducible apply Below.alloc; rotate_left; focus (first | omega | (simp; done) | (simp; omega))) | with_reducible apply Below.drew | with_reducible apply belowDrewN | (with_reducible apply Below.trans; rotate_left; with_reducible apply Below.mono; with_reducible assumption; focus (first | omega | (simp; done) | (simp; omega))))⟩
end Go.Proofs.Ytjmdmnhfdfppaaa
