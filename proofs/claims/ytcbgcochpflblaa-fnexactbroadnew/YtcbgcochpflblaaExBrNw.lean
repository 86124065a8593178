/- The walk of the exact law of BroadNew. -/
import Derived.Test.YtcbgcochpflblaaBrNb
import Derived.Test.YtcbgcochpflblaaB38
import Derived.Deep.RegionHeld3
import Derived.Deep.DeepCutAuto
namespace Go.Proofs.Ytcbgcochpflblaa
open Go.RowKit
set_option linter.unusedVariables false
set_option linter.unusedSimpArgs false
/-- two that came in -/
structure AB2 (w wr : World) (ai : Option Addr) (na ca : Nat) (bi : Option Addr) (n ci : Nat) : Prop where
  bel : Below w.heap.size w wr
  big : w.heap.size + 1 < wr.heap.size
  box : wr.cell? ⟨w.heap.size, 0, none⟩ = some (.slice ai na ca)
  bax : wr.cell? ⟨w.heap.size + 1, 0, none⟩ = some (.slice bi n ci)
section
variable {w wr w' : World} {ai bi : Option Addr} {na ca n ci : Nat}
theorem AB2.new (w : World) (ai : Option Addr) (na ca : Nat) (bi : Option Addr) (n ci : Nat) (t : TypeId) : AB2 w ((w.alloc (.cells #[.slice ai na ca] t)).alloc (.cells #[.slice bi n ci] t)) ai na ca bi n ci :=
  ⟨((Below.refl _ _).alloc (Nat.le_refl _) _).alloc (by simp) _, by simp, by go_simp, by go_simp⟩
theorem AB2.on (h : AB2 w wr ai na ca bi n ci) (hb : Below wr.heap.size wr w') : AB2 w w' ai na ca bi n ci :=
  ⟨h.bel.trans (hb.mono (by have := h.big; omega)), Nat.lt_of_lt_of_le h.big hb.size, keepc hb h.box, keepc hb h.bax⟩
theorem AB2.gr {row : Option Nat} (h : AB2 w wr ai na ca bi n ci) (hg : wr.grownBy w' row) (hr : ∀ k, row = some k → w.heap.size + 1 < k) : AB2 w w' ai na ca bi n ci := by
  have hbg := h.big
  have hb : Below (w.heap.size + 2) wr w' := (Below.refl _ _).grown hg (by omega) (fun k e => by have := hr k e; omega)
  exact ⟨h.bel.trans (hb.mono (by omega)), Nat.lt_of_lt_of_le h.big hb.size, (hb.cell (p := ⟨w.heap.size, 0, none⟩) (by show w.heap.size < _; omega)).trans h.box, (hb.cell (p := ⟨w.heap.size + 1, 0, none⟩) (by show w.heap.size + 1 < _; omega)).trans h.bax⟩
end
set_option maxRecDepth 20000 in
set_option maxHeartbeats 8000000 in
theorem fnExactBroadNew_walk (ai : Option Addr) (na ca : Nat) (Ua : Nat → Int) (bi : Option Addr) (n ci : Nat) (U : Nat → Int) (w : World) (ha : Flat w ai (na * 5) Ua) (hna : (na : Int) ≤ 9223372036854775807) (h : Flat w bi (n * 5) U) (hn : (n : Int) ≤ 9223372036854775807) :
    Calls Try.prog 4 #[.agg #[.slice ai na ca], .agg #[.slice bi n ci]] w fun e w' => e = .returned (.bool true) ∧ Below w.heap.size w w' := by
  have hset := cset_map
  by_cases h19 : na ≤ 1048576
  · have h1 : ¬ (1048576 - (na : Int) < 0) := by omega
    by_cases h21 : (n : Int) ≤ 1048576 - (na : Int)
    · have h2 : ¬ (1048576 - (na : Int) - (n : Int) < 0) := by omega
      have h20 : n ≤ 1048576 := by omega
      obtain ⟨N, hN⟩ : ∃ N, nwN na Ua n U = N := ⟨_, rfl⟩
      have hN20 : N ≤ 1048576 := by have := nwN_le na Ua n U; omega
      obtain ⟨R, hR⟩ : ∃ R, R = ofL (nwT na Ua n U) := ⟨_, rfl⟩
      go_enter Try.func4, Try.ntmps4
      go_upto_region 2 with fail
      go_cut [5] (fun s wc => s = .int .i64 (1048576 - (na : Int)) ∧ AB2 w wc ai na ca bi n ci)
      case first =>
        have hA0 := AB2.new w ai na ca bi n ci 24
        go_wp2_with (go_at_call 5; refine (szBroad_any _ _ _ _ hna).mono ?_; rw [if_pos h19]; rintro e w1 ⟨rfl, hb1⟩)
        go_meet
        exact ⟨rfl, hA0.on hb1⟩
      case rest =>
      obtain ⟨rfl, hA⟩ := hcut
      have hbx := hA.bax
      have hbig := hA.big
      go_upto_region 5 with fail
      go_cut [5] (fun s wc => s = .int .i64 (1048576 - (na : Int) - (n : Int)) ∧ AB2 w wc ai na ca bi n ci)
      case first =>
        go_wp2_with (go_at_call 5; refine (szBroad_l (1048576 - (na : Int)) (by omega) _ _ _ _ hn).mono ?_; rw [if_pos h21]; rintro e w1 ⟨rfl, hb1⟩)
        go_meet
        exact ⟨rfl, hA.on hb1⟩
      case rest =>
      clear hA hbx hbig
      obtain ⟨rfl, hA⟩ := hcut
      have hbig := hA.big
      have FF : ∀ w', Below wc.heap.size wc w' → w'.cell? ⟨w.heap.size, 0, none⟩ = some (.slice ai na ca) ∧ w'.cell? ⟨w.heap.size + 1, 0, none⟩ = some (.slice bi n ci) := fun w' s => ⟨keepc s hA.box, keepc s hA.bax⟩
      go_upto_region 8 with fail
      go_cut [6] (fun s wc => ∃ aw cw lw hw, s = .slice aw N cw ∧ w.heap.size + 1 < lw ∧ lw ≤ hw ∧ AB2 w wc ai na ca bi n ci ∧ Lv wc lw hw 48 2 aw N cw R)
      case first =>
        refine wp_region_held_drew (S := fun w' => Below wc.heap.size wc w') (by kernel_rfl) ((Below.refl _ _).drew) (fun hHeld => ?_)
        refine tq 0 hHeld ?_ (hv := by (intro w' s; obtain ⟨q1, q2⟩ := FF w' s; go_simp; (try with_reducible rfl)))
        refine tq 2 hHeld ?_ (hv := by (intro w' s; obtain ⟨q1, q2⟩ := FF w' s; go_simp; (try with_reducible rfl)))
        refine tc 1 fun K hK => ?_
        (go_simp; (go_at_call 7; refine (toBroad_any _ _ _ Ua _ (ha.below (hA.bel.trans ((hHeld).mono (by omega)))) h19).mono ?_; rintro e w6 ⟨b6, rfl, hl6, hr6, hb6⟩); (try go_wp2_with fail); refine tr hK (fun hHeld => ?_) (hHeld.trans (hb6.mono hHeld.size)); clear hK K)
        refine tc 3 fun K hK => ?_
        (go_simp; (go_at_call 7; refine (toBroad_any _ _ _ U _ (h.below (hA.bel.trans ((hHeld).mono (by omega)))) h20).mono ?_; rintro e w7 ⟨b7, rfl, hl7, hr7, hb7⟩); have hf6 := hr6.flat.below hb7; (try go_wp2_with fail); refine tr hK (fun hHeld => ?_) (hHeld.trans (hb7.mono hHeld.size)); clear hK K)
        refine tc 4 fun K hK => ?_
        (go_simp; have hz7 := hHeld.size; (go_at_call 14; refine (new_s _ na _ Ua _ n _ U N R _ hf6 hr7.flat h19 h20 hN hR).mono ?_; rintro e w8 ⟨a8, c8, rfl, hO8⟩; have hb8 := hO8.bel); (try go_wp2_with fail); refine tr hK (fun hHeld => ?_) (hHeld.trans (hb8.mono hHeld.size)); clear hK K)
        refine tq 5 hHeld ?_
        refine wpAnyH_done (by kernel_rfl) ?_ _
        go_wp2_with fail
        go_meet
        exact ⟨_, _, _, _, rfl, by (first | omega | (simp at hz7 ⊢; omega)), hO8.bel.size, hA.on hHeld, hO8.lv⟩
      case rest =>
      clear hA hbig FF
      obtain ⟨aw, cw, lw, hw, rfl, g1, g2, hA, hW⟩ := hcut
      have hbx := hA.box
      have hbig := hA.big
      go_upto_region 9 with fail
      go_cut [7] (fun s wc => ∃ ax cx lx bx, s = .pointer (some ⟨bx, 0, none⟩) ∧ hw ≤ lx ∧ lx ≤ bx ∧ AB2 w wc ai na ca bi n ci ∧ Lv wc lw hw 48 2 aw N cw R ∧ Lk wc lx bx ax na cx Ua)
      case first =>
        go_wp2_with (go_at_call 7; refine (toBroad_any _ _ _ Ua _ (ha.below hA.bel) h19).mono ?_; rintro e w2 ⟨b2, rfl, hl2, hr2, hb2⟩)
        go_meet
        have hE : Below w2.heap.size w2 (w2.alloc (.cells #[.slice (some ⟨b2, 0, none⟩) na na] 30)) := (Below.refl _ _).alloc (Nat.le_refl _) _
        exact ⟨_, _, _, _, rfl, hW.le, hb2.size, (hA.on hb2).on hE, (hW.on hb2).on hE, Lk.row hr2 hl2 h19 _⟩
      case rest =>
      clear hA hW hbx hbig
      obtain ⟨ax, cx, lx, bx, rfl, g3, g4, hA, hW, hX⟩ := hcut
      have hbx := hA.bax
      have hbig := hA.big
      go_upto_region 10 with fail
      go_cut [8] (fun s wc => ∃ ay cy ly bv, s = .pointer (some ⟨bv, 0, none⟩) ∧ bx < ly ∧ ly ≤ bv ∧ AB2 w wc ai na ca bi n ci ∧ Lv wc lw hw 48 2 aw N cw R ∧ Lk wc lx bx ax na cx Ua ∧ Lk wc ly bv ay n cy U)
      case first =>
        go_wp2_with (go_at_call 7; refine (toBroad_any _ _ _ U _ (h.below hA.bel) h20).mono ?_; rintro e w2 ⟨b2, rfl, hl2, hr2, hb2⟩)
        go_meet
        have hE : Below w2.heap.size w2 (w2.alloc (.cells #[.slice (some ⟨b2, 0, none⟩) n n] 30)) := (Below.refl _ _).alloc (Nat.le_refl _) _
        exact ⟨_, _, _, _, rfl, hX.lt, hb2.size, (hA.on hb2).on hE, (hW.on hb2).on hE, (hX.on hb2).on hE, Lk.row hr2 hl2 h20 _⟩
      case rest =>
      clear hA hW hX hbx hbig
      obtain ⟨ay, cy, ly, bv, rfl, g5, g6, hA, hW, hX, hY⟩ := hcut
      have hxb := hX.box
      have hyb := hY.box
      go_upto_region 11 with fail
      go_cut [9] (fun s wc => ∃ ag cg lg hg, s = .slice ag N cg ∧ bv < lg ∧ lg ≤ hg ∧ AB2 w wc ai na ca bi n ci ∧ Lv wc lw hw 48 2 aw N cw R ∧ Lk wc lx bx ax na cx Ua ∧ Lk wc ly bv ay n cy U ∧ Lv wc lg hg 48 2 ag N cg R)
      case first =>
        go_wp2_with (go_at_call 15; refine (new_i _ na _ Ua _ n _ U N R _ hX.flat hY.flat h19 h20 hN hR).mono ?_; rintro e w8 ⟨a8, c8, rfl, hO8⟩; have hb8 := hO8.bel)
        go_meet
        exact ⟨_, _, _, _, rfl, hY.lt, hO8.bel.size, hA.on hb8, hW.on hb8, hX.on hb8, hY.on hb8, hO8.lv⟩
      case rest =>
      clear hA hW hX hY hxb hyb
      obtain ⟨ag, cg, lg, hg, rfl, g7, g8, hA, hW, hX, hY, hG⟩ := hcut
      go_upto_region 12 with fail
      go_cut [39] (fun s wc => s = .bool false ∧ AB2 w wc ai na ca bi n ci ∧ Lv wc lw hw 48 2 aw N cw R ∧ Lk wc lx bx ax na cx Ua ∧ Lk wc ly bv ay n cy U ∧ Lv wc lg hg 48 2 ag N cg R)
      case first =>
        go_wp2_with (go_at_call 9; refine (eqPairS_same _ _ _ _ _ R _ hG.flat hW.flat hN20).mono ?_; rintro e w8 ⟨rfl, hb8⟩)
        go_meet
        exact ⟨rfl, hA.on hb8, hW.on hb8, hX.on hb8, hY.on hb8, hG.on hb8⟩
      case rest =>
      clear hA hW hX hY hG
      obtain ⟨rfl, hA, hW, hX, hY, hG⟩ := hcut
      have hbig := hA.big
      have FF : ∀ w', Below wc.heap.size wc w' → w'.cell? ⟨w.heap.size, 0, none⟩ = some (.slice ai na ca) ∧ w'.cell? ⟨bx, 0, none⟩ = some (.slice ax na cx) := fun w' s => ⟨keepc s hA.box, keepc s hX.box⟩
      go_upto_region 14 with fail
      go_cut [44] (fun s wc => s = .bool false ∧ AB2 w wc ai na ca bi n ci ∧ Lv wc lw hw 48 2 aw N cw R ∧ Lk wc lx bx ax na cx Ua ∧ Lk wc ly bv ay n cy U ∧ Lv wc lg hg 48 2 ag N cg R)
      case first =>
        refine wp_region_held_drew (S := fun w' => Below wc.heap.size wc w') (by kernel_rfl) ((Below.refl _ _).drew) (fun hHeld => ?_)
        refine tq 0 hHeld ?_ (hv := by (intro w' s; obtain ⟨q1, q2⟩ := FF w' s; go_simp; (try with_reducible rfl)))
        refine tq 1 hHeld ?_ (hv := by (intro w' s; obtain ⟨q1, q2⟩ := FF w' s; go_simp; (try with_reducible rfl)))
        refine tc 2 fun K hK => ?_
        (go_simp; (go_at_call 7; refine (toBroad_any _ _ _ Ua _ (ha.below (hA.bel.trans ((hHeld).mono (by omega)))) h19).mono ?_; rintro e w6 ⟨b6, rfl, hl6, hr6, hb6⟩); (try go_wp2_with fail); refine tr hK (fun hHeld => ?_) (hHeld.trans (hb6.mono hHeld.size)); clear hK K)
        refine tc 3 fun K hK => ?_
        (go_simp; (go_at_call 10; refine (eqBroad_same _ _ _ _ _ Ua _ (hX.flat.below hHeld) hr6.flat h19).mono ?_; rintro e w8 ⟨rfl, hb8⟩); (try go_wp2_with fail); refine tr hK (fun hHeld => ?_) (hHeld.trans (hb8.mono hHeld.size)); clear hK K)
        refine tq 4 hHeld ?_
        refine wpAnyH_done (by kernel_rfl) ?_ _
        go_wp2_with fail
        go_meet
        exact ⟨rfl, hA.on hHeld, hW.on hHeld, hX.on hHeld, hY.on hHeld, hG.on hHeld⟩
      case rest =>
      clear FF hA hW hX hY hG hbig
      obtain ⟨rfl, hA, hW, hX, hY, hG⟩ := hcut
      have hbig := hA.big
      have FF : ∀ w', Below wc.heap.size wc w' → w'.cell? ⟨w.heap.size + 1, 0, none⟩ = some (.slice bi n ci) ∧ w'.cell? ⟨bv, 0, none⟩ = some (.slice ay n cy) := fun w' s => ⟨keepc s hA.bax, keepc s hY.box⟩
      go_upto_region 16 with fail
      go_cut [49] (fun s wc => s = .bool false ∧ AB2 w wc ai na ca bi n ci ∧ Lv wc lw hw 48 2 aw N cw R ∧ Lk wc lx bx ax na cx Ua ∧ Lk wc ly bv ay n cy U ∧ Lv wc lg hg 48 2 ag N cg R)
      case first =>
        refine wp_region_held_drew (S := fun w' => Below wc.heap.size wc w') (by kernel_rfl) ((Below.refl _ _).drew) (fun hHeld => ?_)
        refine tq 0 hHeld ?_ (hv := by (intro w' s; obtain ⟨q1, q2⟩ := FF w' s; go_simp; (try with_reducible rfl)))
        refine tq 1 hHeld ?_ (hv := by (intro w' s; obtain ⟨q1, q2⟩ := FF w' s; go_simp; (try with_reducible rfl)))
        refine tc 2 fun K hK => ?_
        (go_simp; (go_at_call 7; refine (toBroad_any _ _ _ U _ (h.below (hA.bel.trans ((hHeld).mono (by omega)))) h20).mono ?_; rintro e w6 ⟨b6, rfl, hl6, hr6, hb6⟩); (try go_wp2_with fail); refine tr hK (fun hHeld => ?_) (hHeld.trans (hb6.mono hHeld.size)); clear hK K)
        refine tc 3 fun K hK => ?_
        (go_simp; (go_at_call 10; refine (eqBroad_same _ _ _ _ _ U _ (hY.flat.below hHeld) hr6.flat h20).mono ?_; rintro e w8 ⟨rfl, hb8⟩); (try go_wp2_with fail); refine tr hK (fun hHeld => ?_) (hHeld.trans (hb8.mono hHeld.size)); clear hK K)
        refine tq 4 hHeld ?_
        refine wpAnyH_done (by kernel_rfl) ?_ _
        go_wp2_with fail
        go_meet
        exact ⟨rfl, hA.on hHeld, hW.on hHeld, hX.on hHeld, hY.on hHeld, hG.on hHeld⟩
      case rest =>
      clear FF hA hW hX hY hG hbig
      obtain ⟨rfl, hA, hW, hX, hY, hG⟩ := hcut
      have hxb := hX.box
      go_upto_region 19 with fail
      go_cut [10] (fun s wc => s = .int .i64 (1 + (na : Int) * 5) ∧ AB2 w wc ai na ca bi n ci ∧ Lv wc lw hw 48 2 aw N cw R ∧ Lk wc ly bv ay n cy U ∧ Lv wc lg hg 48 2 ag N cg R)
      case first =>
        go_wp2_with (go_at_call 11; refine (markBroad_any lx _ _ _ Ua _ hX.own (by omega)).mono ?_; rintro e w2 ⟨rfl, ho2, hg2⟩)
        go_meet
        exact ⟨rfl, hA.gr hg2 (fun k e => by have := (hX.own.lt k e).1; omega), hW.gr hX.lv hg2 (.inl (by omega)), hY.gr hX hg2 (.inr (by omega)) (by omega), hG.gr hX.lv hg2 (.inr (by omega))⟩
      case rest =>
      clear hA hW hX hY hG hxb
      obtain ⟨rfl, hA, hW, hY, hG⟩ := hcut
      have hyb := hY.box
      go_upto_region 20 with fail
      go_cut [10] (fun s wc => s = .int .i64 (1 + (na : Int) * 5 + (n : Int) * 5) ∧ AB2 w wc ai na ca bi n ci ∧ Lv wc lw hw 48 2 aw N cw R ∧ Lv wc lg hg 48 2 ag N cg R)
      case first =>
        go_wp2_with (go_at_call 11; refine (markBroad_s (1 + (na : Int) * 5) (by omega) ly _ _ _ U _ hY.own (by omega)).mono ?_; rintro e w2 ⟨rfl, ho2, hg2⟩)
        go_meet
        exact ⟨rfl, hA.gr hg2 (fun k e => by have := (hY.own.lt k e).1; omega), hW.gr hY.lv hg2 (.inl (by omega)), hG.gr hY.lv hg2 (.inr (by omega))⟩
      case rest =>
      clear hA hW hY hG hyb
      obtain ⟨rfl, hA, hW, hG⟩ := hcut
      have hk0 : ¬ (1 + (na : Int) * 5 + (n : Int) * 5 < 0) := by omega
      go_upto_region 21 with fail
      go_cut [63] (fun s wc => s = .bool false ∧ AB2 w wc ai na ca bi n ci ∧ Lv wc lw hw 48 2 aw N cw R ∧ Lv wc lg hg 48 2 ag N cg R)
      case first =>
        go_wp2_with (go_at_call 9; refine (eqPairS_same _ _ _ _ _ R _ hG.flat hW.flat hN20).mono ?_; rintro e w8 ⟨rfl, hb8⟩)
        go_meet
        exact ⟨rfl, hA.on hb8, hW.on hb8, hG.on hb8⟩
      case rest =>
      clear hA hW hG
      obtain ⟨rfl, hA, hW, hG⟩ := hcut
      go_upto_region 24 with fail
      go_cut [11] (fun s wc => s = .int .i64 (1 + (N : Int) * 2) ∧ AB2 w wc ai na ca bi n ci ∧ Lv wc lw hw 48 2 aw N cw R ∧ Lv wc lg hg 48 2 ag N cg (fun q => 1 + (q : Int)))
      case first =>
        go_wp2_with (go_at_call 12; refine (markPairS_any lg _ _ _ R _ hG.own (by omega)).mono ?_; rintro e w2 ⟨rfl, ho2, hg2⟩)
        go_meet
        exact ⟨rfl, hA.gr hg2 (fun k e => by have := (hG.own.lt k e).1; omega), hW.gr hG hg2 (.inl (by omega)), hG.me hg2 ho2⟩
      case rest =>
      clear hA hW hG
      obtain ⟨rfl, hA, hW, hG⟩ := hcut
      have hk1 : ¬ (1 + (N : Int) * 2 < 0) := by omega
      have hk2 : ((1 + (N : Int) * 2) != (1 + (N : Int) * 2)) = false := by simp
      go_upto_region 26 with fail
      go_cut [12] (fun s wc => s = .int .i64 (1 + (N : Int) * 2) ∧ AB2 w wc ai na ca bi n ci ∧ Lv wc lw hw 48 2 aw N cw R ∧ Lv wc lg hg 48 2 ag N cg (fun q => 1 + (q : Int)))
      case first =>
        go_wp2_with (go_at_call 13; refine (heldPairS_any _ _ _ _ hG.flat (by omega)).mono ?_; rintro e w2 ⟨rfl, rfl⟩)
        go_meet
        exact ⟨rfl, hA, hW, hG⟩
      case rest =>
      clear hA hW hG
      obtain ⟨rfl, hA, hW, hG⟩ := hcut
      have hbig := hA.big
      have FF : ∀ w', Below wc.heap.size wc w' → w'.cell? ⟨w.heap.size, 0, none⟩ = some (.slice ai na ca) ∧ w'.cell? ⟨w.heap.size + 1, 0, none⟩ = some (.slice bi n ci) := fun w' s => ⟨keepc s hA.box, keepc s hA.bax⟩
      go_upto_region 31 with fail
      go_cut [13] (fun s wc => ∃ ah ch lh hh, s = .slice ah N ch ∧ AB2 w wc ai na ca bi n ci ∧ Lv wc lw hw 48 2 aw N cw R ∧ Lv wc lg hg 48 2 ag N cg (fun q => 1 + (q : Int)) ∧ Lv wc lh hh 48 2 ah N ch R)
      case first =>
        refine wp_region_held_drew (S := fun w' => Below wc.heap.size wc w') (by kernel_rfl) ((Below.refl _ _).drew) (fun hHeld => ?_)
        refine tq 0 hHeld ?_ (hv := by (intro w' s; obtain ⟨q1, q2⟩ := FF w' s; go_simp; (try with_reducible rfl)))
        refine tq 2 hHeld ?_ (hv := by (intro w' s; obtain ⟨q1, q2⟩ := FF w' s; go_simp; (try with_reducible rfl)))
        refine tc 1 fun K hK => ?_
        (go_simp; (go_at_call 7; refine (toBroad_any _ _ _ Ua _ (ha.below (hA.bel.trans ((hHeld).mono (by omega)))) h19).mono ?_; rintro e w6 ⟨b6, rfl, hl6, hr6, hb6⟩); (try go_wp2_with fail); refine tr hK (fun hHeld => ?_) (hHeld.trans (hb6.mono hHeld.size)); clear hK K)
        refine tc 3 fun K hK => ?_
        (go_simp; (go_at_call 7; refine (toBroad_any _ _ _ U _ (h.below (hA.bel.trans ((hHeld).mono (by omega)))) h20).mono ?_; rintro e w7 ⟨b7, rfl, hl7, hr7, hb7⟩); have hf6 := hr6.flat.below hb7; (try go_wp2_with fail); refine tr hK (fun hHeld => ?_) (hHeld.trans (hb7.mono hHeld.size)); clear hK K)
        refine tc 4 fun K hK => ?_
        (go_simp; have hz7 := hHeld.size; (go_at_call 15; refine (new_i _ na _ Ua _ n _ U N R _ hf6 hr7.flat h19 h20 hN hR).mono ?_; rintro e w8 ⟨a8, c8, rfl, hO8⟩; have hb8 := hO8.bel); (try go_wp2_with fail); refine tr hK (fun hHeld => ?_) (hHeld.trans (hb8.mono hHeld.size)); clear hK K)
        refine tq 5 hHeld ?_
        refine wpAnyH_done (by kernel_rfl) ?_ _
        go_wp2_with fail
        go_meet
        exact ⟨_, _, _, _, rfl, hA.on hHeld, hW.on hHeld, hG.on hHeld, hO8.lv⟩
      case rest =>
      clear hbig FF hA hW hG
      obtain ⟨ah, ch, lh, hh, rfl, hA, hW, hG, hH⟩ := hcut
      go_upto_region 32 with fail
      go_cut [83] (fun s wc => s = .bool false ∧ AB2 w wc ai na ca bi n ci ∧ Lv wc lg hg 48 2 ag N cg (fun q => 1 + (q : Int)))
      case first =>
        go_wp2_with (go_at_call 9; refine (eqPairS_same _ _ _ _ _ R _ hH.flat hW.flat hN20).mono ?_; rintro e w8 ⟨rfl, hb8⟩)
        go_meet
        exact ⟨rfl, hA.on hb8, hG.on hb8⟩
      case rest =>
      clear hA hW hG hH
      obtain ⟨rfl, hA, hG⟩ := hcut
      go_upto_region 35 with fail
      go_wp2_with (go_at_call 13; refine (heldPairS_any _ _ _ _ hG.flat (by omega)).mono ?_; rintro e w2 ⟨rfl, rfl⟩)
      go_ret
      exact ⟨rfl, hA.bel⟩
    · have h2 : ((-1 : Int) < 0) := by omega
      go_enter Try.func4, Try.ntmps4
      go_upto_region 2 with fail
      go_cut [5] (fun s wc => s = .int .i64 (1048576 - (na : Int)) ∧ AB2 w wc ai na ca bi n ci)
      case first =>
        have hA0 := AB2.new w ai na ca bi n ci 24
        go_wp2_with (go_at_call 5; refine (szBroad_any _ _ _ _ hna).mono ?_; rw [if_pos h19]; rintro e w1 ⟨rfl, hb1⟩)
        go_meet
        exact ⟨rfl, hA0.on hb1⟩
      case rest =>
      obtain ⟨rfl, hA⟩ := hcut
      have hbx := hA.bax
      have hbig := hA.big
      go_upto_region 5 with fail
      go_cut [5] (fun s wc => s = .int .i64 (-1) ∧ AB2 w wc ai na ca bi n ci)
      case first =>
        go_wp2_with (go_at_call 5; refine (szBroad_l (1048576 - (na : Int)) (by omega) _ _ _ _ hn).mono ?_; rw [if_neg h21]; rintro e w1 ⟨rfl, hb1⟩)
        go_meet
        exact ⟨rfl, hA.on hb1⟩
      case rest =>
      clear hA hbx hbig h1 h21 h19 h2
      obtain ⟨rfl, hA⟩ := hcut
      go_wp2_with fail
      go_ret
      exact ⟨rfl, hA.bel⟩
  · have h1 : (1048576 - (na : Int) < 0) := by omega
    go_enter Try.func4, Try.ntmps4
    go_wp2_with (go_at_call 5; refine (szBroad_any _ _ _ _ hna).mono ?_; rw [if_neg h19]; rintro e w1 ⟨rfl, hb1⟩)
    go_ret
    exact ⟨rfl, (AB2.new w ai na ca bi n ci 24).bel.trans (hb1.mono (by simp; omega))⟩
end Go.Proofs.Ytcbgcochpflblaa
