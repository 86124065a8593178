/- The walk of the exact law of BroadPut. -/
import Derived.Test.YtjmdmnhfdfppaaaBrLq
import Derived.Test.YtjmdmnhfdfppaaaBrPu
import Derived.Test.YtjmdmnhfdfppaaaTq
import Derived.Deep.RegionHeld3
import Derived.Deep.DeepCutAuto
namespace Go.Proofs.Ytjmdmnhfdfppaaa
open Go.RowKit
set_option linter.unusedVariables false
set_option linter.unusedSimpArgs false
set_option maxRecDepth 20000 in
set_option maxHeartbeats 8000000 in
theorem fnExactBroadPut_walk (a : Option Addr) (n c : Nat) (U X : Nat → Int) (w : World) (h : Flat w a (n * 5) U) (hn : (n : Int) ≤ 9223372036854775807) :
    Calls Try.prog 3 #[.agg #[.slice a n c], itemW X] w fun e w' => e = .returned (.bool true) ∧ Below w.heap.size w w' := by
  have hset := cset_map
  by_cases h20 : n ≤ 1048576
  · have h1 : ¬ (1048576 - (n : Int) < 0) := by omega
    obtain ⟨k, hk⟩ := isAt_ex n U (X 0)
    obtain ⟨N, R, B, hPu, hNn, hN20⟩ := putIs_ex n U X k
    go_enter Try.func3, Try.ntmps3
    go_upto_region 2 with fail
    go_cut [5] (fun s3 wc => s3 = .int .i64 (1048576 - (n : Int)) ∧ BrR w a n c U wc ∧ ItR w X wc)
    case first =>
      have hE1 : BrR w a n c U ((w.alloc (.cells #[.slice a n c] 24)).alloc (.cells #[.int .i64 (X 0), .int .i64 (X 1), .int .i64 (X 2), .int .i64 (X 3), .int .i64 (X 4)] 30)) := ⟨((Below.refl _ _).alloc (Nat.le_refl _) _).alloc (by simp) _, by simp; omega, by go_simp⟩
      have hE2 : ItR w X ((w.alloc (.cells #[.slice a n c] 24)).alloc (.cells #[.int .i64 (X 0), .int .i64 (X 1), .int .i64 (X 2), .int .i64 (X 3), .int .i64 (X 4)] 30)) := ⟨by simp, by go_simp, by go_simp, by go_simp, by go_simp, by go_simp⟩
      go_wp2_with (go_at_call 5; refine (szBroad_any _ _ _ _ hn).mono ?_; rw [if_pos h20]; rintro e w1 ⟨rfl, hb1⟩)
      go_meet
      exact ⟨rfl, hE1.on hb1, hE2.on hb1⟩
    case rest =>
    obtain ⟨rfl, hB, hI⟩ := hcut
    have hbox := hB.box
    have hbig := hB.big
    have hbi2 := hI.big
    have hx0 := hI.x0
    have hx1 := hI.x1
    have hx2 := hI.x2
    have hx3 := hI.x3
    have hx4 := hI.x4
    go_upto_region 5 with fail
    go_cut [6, 7] (fun s t wc => ∃ lw hiw bw aw cw, s = .pointer (some ⟨bw, 0, none⟩) ∧ t = .bool B ∧ w.heap.size + 1 < lw ∧ lw ≤ hiw ∧ BrR w a n c U wc ∧ ItR w X wc ∧ Lq wc lw hiw bw aw N cw R)
    case first =>
      have hTw : Below wc.heap.size wc wc.drew := (Below.refl _ _).drew
      refine wp_region_held_drew (S := fun w' => w'.cell? ⟨w.heap.size, 0, none⟩ = some (.slice a n c) ∧ w'.cell? ⟨w.heap.size + 1, 0, none⟩ = some (.int .i64 (X 0)) ∧ w'.cell? ⟨w.heap.size + 1, 1, none⟩ = some (.int .i64 (X 1)) ∧ w'.cell? ⟨w.heap.size + 1, 2, none⟩ = some (.int .i64 (X 2)) ∧ w'.cell? ⟨w.heap.size + 1, 3, none⟩ = some (.int .i64 (X 3)) ∧ w'.cell? ⟨w.heap.size + 1, 4, none⟩ = some (.int .i64 (X 4))) (by kernel_rfl) ?_ (fun hHeld => ?_)
      · (try dsimp only)
        (first | (go_simp; done) | (go_keep; done))
      refine tq 0 hHeld ?_
      refine tq 2 hHeld ?_
      refine wpAnyH_ready (rs := [1, 8]) (by kernel_rfl) (by simp) ?_
      refine AllReadyH.cons (o := ⟨_, _, _, _, _, _⟩) rfl (fun K hK => ?_) (AllReadyH.cons (o := ⟨_, _, _, _, _, _⟩) rfl (fun K hK => ?_) AllReadyH.nil)
      · (go_simp; (go_at_call 7; refine (toBroad_any _ _ _ U _ (h.below (hB.bel.trans (hTw.mono hB.bel.size))) h20).mono ?_; rintro e v1 ⟨b2, rfl, hl2, hr2, hb1⟩; (have hT1 := hTw.trans (hb1.mono hTw.size)); (have hB1 := hB.on hT1); (have hI1 := hI.on hT1); (have hbo1 := hB1.box); (have hy01 := hI1.x0); (have hy11 := hI1.x1); (have hy21 := hI1.x2); (have hy31 := hI1.x3); (have hy41 := hI1.x4)); (try go_wp2_with fail); refine tr hK (fun hHeld => ?_); clear hK K)
        refine wpAnyH_ready (rs := [3, 8]) (by kernel_rfl) (by simp) ?_
        refine AllReadyH.cons (o := ⟨_, _, _, _, _, _⟩) rfl (fun K hK => ?_) (AllReadyH.cons (o := ⟨_, _, _, _, _, _⟩) rfl (fun K hK => ?_) AllReadyH.nil)
        · (go_simp; (go_at_call 8; refine (toItem_any X _).mono ?_; rintro e v2 ⟨rfl, hb2⟩; (have hT2 := hT1.trans (hb2.mono hT1.size)); (have hR2 := hr2.below hb2); (have hB2 := hB.on hT2); (have hI2 := hI.on hT2); (have hbo2 := hB2.box); (have hy02 := hI2.x0); (have hy12 := hI2.x1); (have hy22 := hI2.x2); (have hy32 := hI2.x3); (have hy42 := hI2.x4)); (try go_wp2_with fail); refine tr hK (fun hHeld => ?_); clear hK K)
          refine wpAnyH_ready (rs := [4, 8]) (by kernel_rfl) (by simp) ?_
          refine AllReadyH.cons (o := ⟨_, _, _, _, _, _⟩) rfl (fun K hK => ?_) (AllReadyH.cons (o := ⟨_, _, _, _, _, _⟩) rfl (fun K hK => ?_) AllReadyH.nil)
          · (go_simp; (go_at_call 6; refine (sPut_any _ _ _ U X k _ hR2.flat (Nat.le_refl _) h20 hk ⟨b2, 0, rfl⟩ N R B hPu).mono ?_; rintro e v3 ⟨a3, c3, rfl, hOu⟩; have hb3 := hOu.bel; (have hT3 := hT2.trans (hb3.mono hT2.size)); (have hO3 := hOu.own.base hT2.size); (have hB3 := hB.on hT3); (have hI3 := hI.on hT3); (have hbo3 := hB3.box); (have hy03 := hI3.x0); (have hy13 := hI3.x1); (have hy23 := hI3.x2); (have hy33 := hI3.x3); (have hy43 := hI3.x4)); (try go_wp2_with fail); refine tr hK (fun hHeld => ?_); clear hK K)
            refine tq 5 hHeld ?_
            refine tq 6 hHeld ?_
            refine tq 7 hHeld ?_
            refine tc 8 fun K hK => ?_
            have hT4 : Below wc.heap.size wc (v3.alloc (.cells #[.slice none 0 0] 34)) := hT3.alloc hT3.size _
            have hB4 := hB.on hT4
            have hI4 := hI.on hT4
            have hbo4 := hB4.box
            have hy04 := hI4.x0
            have hy14 := hI4.x1
            have hy24 := hI4.x2
            have hy34 := hI4.x3
            have hy44 := hI4.x4
            have hv4 : (v3.alloc (.cells #[.slice none 0 0] 34)).cell? ⟨v3.heap.size, 0, none⟩ = some (.slice none 0 0) := by go_simp
            have hvf4 : (v3.alloc (.cells #[.slice none 0 0] 34)).frozen? ⟨v3.heap.size, 0, none⟩ = false := by go_simp
            have hvl4 : v3.heap.size < (v3.alloc (.cells #[.slice none 0 0] 34)).heap.size := by simp
            have hvm4 : wc.heap.size ≤ v3.heap.size := hT3.size
            have hO4 := hO3.below ((Below.refl _ _).alloc (Nat.le_refl _) (.cells #[.slice none 0 0] 34))
            have hN4 : ∀ b, (Value.slice a3 N c3).ownBlock = some b → b ≠ v3.heap.size := fun b e => by have := (hO3.lt b e).2; omega
            (go_simp; generalize (v3.alloc (.cells #[.slice none 0 0] 34)) = y4 at hT4 hB4 hI4 hbo4 hy04 hy14 hy24 hy34 hy44 hv4 hvf4 hvl4 hO4 ⊢; refine tr hK (fun hHeld => ?_); clear hK K)
            (refine tc 9 fun K hK => ?_; go_simp; refine tr hK (fun hHeld => ?_); clear hK K)
            refine tq 10 hHeld ?_
            refine wpAnyH_done (by kernel_rfl) ?_ _
            go_wp2_with fail
            go_meet
            have hTot : Below wc.heap.size wc (y4.setCell ⟨v3.heap.size, 0, none⟩ (.slice a3 N c3)) := hT4.setCell hvm4 _
            exact ⟨_, _, _, _, _, rfl, rfl, hbi2, hT4.size, hB.on hTot, hI.on hTot, (Lq.new hO4 hv4 hvm4 hvl4 hN4)⟩
          · have hT5 : Below wc.heap.size wc (v2.alloc (.cells #[.slice none 0 0] 34)) := hT2.alloc hT2.size _
            have hB5 := hB.on hT5
            have hI5 := hI.on hT5
            have hbo5 := hB5.box
            have hy05 := hI5.x0
            have hy15 := hI5.x1
            have hy25 := hI5.x2
            have hy35 := hI5.x3
            have hy45 := hI5.x4
            have hv5 : (v2.alloc (.cells #[.slice none 0 0] 34)).cell? ⟨v2.heap.size, 0, none⟩ = some (.slice none 0 0) := by go_simp
            have hvf5 : (v2.alloc (.cells #[.slice none 0 0] 34)).frozen? ⟨v2.heap.size, 0, none⟩ = false := by go_simp
            have hvl5 : v2.heap.size < (v2.alloc (.cells #[.slice none 0 0] 34)).heap.size := by simp
            have hvm5 : wc.heap.size ≤ v2.heap.size := hT2.size
            have hR5 := hR2.below ((Below.refl _ _).alloc (Nat.le_refl _) (.cells #[.slice none 0 0] 34))
            (go_simp; generalize (v2.alloc (.cells #[.slice none 0 0] 34)) = y5 at hT5 hB5 hI5 hbo5 hy05 hy15 hy25 hy35 hy45 hv5 hvf5 hvl5 hR5 ⊢; refine tr hK (fun hHeld => ?_); clear hK K)
            refine tc 4 fun K hK => ?_
            (go_simp; (go_at_call 6; refine (sPut_any _ _ _ U X k _ hR5.flat (Nat.le_refl _) h20 hk ⟨b2, 0, rfl⟩ N R B hPu).mono ?_; rintro e v6 ⟨a3, c3, rfl, hOu⟩; have hb6 := hOu.bel; (have hT6 := hT5.trans (hb6.mono hT5.size)); (have hO6 := hOu.own.base hT5.size); (have hN6 : ∀ b, (Value.slice a3 N c3).ownBlock = some b → b ≠ v2.heap.size := fun b e => by have := (hOu.own.lt b e).1; omega); (have hv6 := (hb6.cell (p := ⟨v2.heap.size, 0, none⟩) hvl5).trans hv5); (have hvf6 := (hb6.frozen (p := ⟨v2.heap.size, 0, none⟩) hvl5).trans hvf5); (have hvl6 := Nat.lt_of_lt_of_le hvl5 hb6.size); (have hvm6 := hvm5); (have hB6 := hB.on hT6); (have hI6 := hI.on hT6); (have hbo6 := hB6.box); (have hy06 := hI6.x0); (have hy16 := hI6.x1); (have hy26 := hI6.x2); (have hy36 := hI6.x3); (have hy46 := hI6.x4)); (try go_wp2_with fail); refine tr hK (fun hHeld => ?_); clear hK K)
            refine tq 5 hHeld ?_
            refine tq 6 hHeld ?_
            refine tq 7 hHeld ?_
            (refine tc 9 fun K hK => ?_; go_simp; refine tr hK (fun hHeld => ?_); clear hK K)
            refine tq 10 hHeld ?_
            refine wpAnyH_done (by kernel_rfl) ?_ _
            go_wp2_with fail
            go_meet
            have hTot : Below wc.heap.size wc (v6.setCell ⟨v2.heap.size, 0, none⟩ (.slice a3 N c3)) := hT6.setCell hvm6 _
            exact ⟨_, _, _, _, _, rfl, rfl, hbi2, hT6.size, hB.on hTot, hI.on hTot, (Lq.new hO6 hv6 hvm6 hvl6 hN6)⟩
        · have hT7 : Below wc.heap.size wc (v1.alloc (.cells #[.slice none 0 0] 34)) := hT1.alloc hT1.size _
          have hB7 := hB.on hT7
          have hI7 := hI.on hT7
          have hbo7 := hB7.box
          have hy07 := hI7.x0
          have hy17 := hI7.x1
          have hy27 := hI7.x2
          have hy37 := hI7.x3
          have hy47 := hI7.x4
          have hv7 : (v1.alloc (.cells #[.slice none 0 0] 34)).cell? ⟨v1.heap.size, 0, none⟩ = some (.slice none 0 0) := by go_simp
          have hvf7 : (v1.alloc (.cells #[.slice none 0 0] 34)).frozen? ⟨v1.heap.size, 0, none⟩ = false := by go_simp
          have hvl7 : v1.heap.size < (v1.alloc (.cells #[.slice none 0 0] 34)).heap.size := by simp
          have hvm7 : wc.heap.size ≤ v1.heap.size := hT1.size
          have hR7 := hr2.below ((Below.refl _ _).alloc (Nat.le_refl _) (.cells #[.slice none 0 0] 34))
          (go_simp; generalize (v1.alloc (.cells #[.slice none 0 0] 34)) = y7 at hT7 hB7 hI7 hbo7 hy07 hy17 hy27 hy37 hy47 hv7 hvf7 hvl7 hR7 ⊢; refine tr hK (fun hHeld => ?_); clear hK K)
          refine tc 3 fun K hK => ?_
          (go_simp; (go_at_call 8; refine (toItem_any X _).mono ?_; rintro e v8 ⟨rfl, hb8⟩; (have hT8 := hT7.trans (hb8.mono hT7.size)); (have hR8 := hR7.below hb8); (have hv8 := (hb8.cell (p := ⟨v1.heap.size, 0, none⟩) hvl7).trans hv7); (have hvf8 := (hb8.frozen (p := ⟨v1.heap.size, 0, none⟩) hvl7).trans hvf7); (have hvl8 := Nat.lt_of_lt_of_le hvl7 hb8.size); (have hvm8 := hvm7); (have hB8 := hB.on hT8); (have hI8 := hI.on hT8); (have hbo8 := hB8.box); (have hy08 := hI8.x0); (have hy18 := hI8.x1); (have hy28 := hI8.x2); (have hy38 := hI8.x3); (have hy48 := hI8.x4)); (try go_wp2_with fail); refine tr hK (fun hHeld => ?_); clear hK K)
          refine tc 4 fun K hK => ?_
          (go_simp; (go_at_call 6; refine (sPut_any _ _ _ U X k _ hR8.flat (Nat.le_refl _) h20 hk ⟨b2, 0, rfl⟩ N R B hPu).mono ?_; rintro e v9 ⟨a3, c3, rfl, hOu⟩; have hb9 := hOu.bel; (have hT9 := hT8.trans (hb9.mono hT8.size)); (have hO9 := hOu.own.base hT8.size); (have hN9 : ∀ b, (Value.slice a3 N c3).ownBlock = some b → b ≠ v1.heap.size := fun b e => by have := (hOu.own.lt b e).1; omega); (have hv9 := (hb9.cell (p := ⟨v1.heap.size, 0, none⟩) hvl8).trans hv8); (have hvf9 := (hb9.frozen (p := ⟨v1.heap.size, 0, none⟩) hvl8).trans hvf8); (have hvl9 := Nat.lt_of_lt_of_le hvl8 hb9.size); (have hvm9 := hvm8); (have hB9 := hB.on hT9); (have hI9 := hI.on hT9); (have hbo9 := hB9.box); (have hy09 := hI9.x0); (have hy19 := hI9.x1); (have hy29 := hI9.x2); (have hy39 := hI9.x3); (have hy49 := hI9.x4)); (try go_wp2_with fail); refine tr hK (fun hHeld => ?_); clear hK K)
          refine tq 5 hHeld ?_
          refine tq 6 hHeld ?_
          refine tq 7 hHeld ?_
          (refine tc 9 fun K hK => ?_; go_simp; refine tr hK (fun hHeld => ?_); clear hK K)
          refine tq 10 hHeld ?_
          refine wpAnyH_done (by kernel_rfl) ?_ _
          go_wp2_with fail
          go_meet
          have hTot : Below wc.heap.size wc (v9.setCell ⟨v1.heap.size, 0, none⟩ (.slice a3 N c3)) := hT9.setCell hvm9 _
          exact ⟨_, _, _, _, _, rfl, rfl, hbi2, hT9.size, hB.on hTot, hI.on hTot, (Lq.new hO9 hv9 hvm9 hvl9 hN9)⟩
      · have hT10 : Below wc.heap.size wc (wc.alloc (.cells #[.slice none 0 0] 34)).drew := ((Below.refl _ _).alloc (Nat.le_refl _) _).drew
        have hB10 := hB.on hT10
        have hI10 := hI.on hT10
        have hbo10 := hB10.box
        have hy010 := hI10.x0
        have hy110 := hI10.x1
        have hy210 := hI10.x2
        have hy310 := hI10.x3
        have hy410 := hI10.x4
        have hv10 : (wc.alloc (.cells #[.slice none 0 0] 34)).drew.cell? ⟨wc.heap.size, 0, none⟩ = some (.slice none 0 0) := by go_simp
        have hvf10 : (wc.alloc (.cells #[.slice none 0 0] 34)).drew.frozen? ⟨wc.heap.size, 0, none⟩ = false := by go_simp
        have hvl10 : wc.heap.size < (wc.alloc (.cells #[.slice none 0 0] 34)).drew.heap.size := by simp
        have hvm10 : wc.heap.size ≤ wc.heap.size := Nat.le_refl _
        (go_simp; generalize (wc.alloc (.cells #[.slice none 0 0] 34)).drew = y10 at hT10 hB10 hI10 hbo10 hy010 hy110 hy210 hy310 hy410 hv10 hvf10 hvl10 ⊢; refine tr hK (fun hHeld => ?_); clear hK K)
        refine tc 1 fun K hK => ?_
        (go_simp; (go_at_call 7; refine (toBroad_any _ _ _ U _ (h.below (hB.bel.trans (hT10.mono hB.bel.size))) h20).mono ?_; rintro e v11 ⟨b2, rfl, hl2, hr2, hb11⟩; (have hT11 := hT10.trans (hb11.mono hT10.size)); (have hv11 := (hb11.cell (p := ⟨wc.heap.size, 0, none⟩) hvl10).trans hv10); (have hvf11 := (hb11.frozen (p := ⟨wc.heap.size, 0, none⟩) hvl10).trans hvf10); (have hvl11 := Nat.lt_of_lt_of_le hvl10 hb11.size); (have hvm11 := hvm10); (have hB11 := hB.on hT11); (have hI11 := hI.on hT11); (have hbo11 := hB11.box); (have hy011 := hI11.x0); (have hy111 := hI11.x1); (have hy211 := hI11.x2); (have hy311 := hI11.x3); (have hy411 := hI11.x4)); (try go_wp2_with fail); refine tr hK (fun hHeld => ?_); clear hK K)
        refine tc 3 fun K hK => ?_
        (go_simp; (go_at_call 8; refine (toItem_any X _).mono ?_; rintro e v12 ⟨rfl, hb12⟩; (have hT12 := hT11.trans (hb12.mono hT11.size)); (have hR12 := hr2.below hb12); (have hv12 := (hb12.cell (p := ⟨wc.heap.size, 0, none⟩) hvl11).trans hv11); (have hvf12 := (hb12.frozen (p := ⟨wc.heap.size, 0, none⟩) hvl11).trans hvf11); (have hvl12 := Nat.lt_of_lt_of_le hvl11 hb12.size); (have hvm12 := hvm11); (have hB12 := hB.on hT12); (have hI12 := hI.on hT12); (have hbo12 := hB12.box); (have hy012 := hI12.x0); (have hy112 := hI12.x1); (have hy212 := hI12.x2); (have hy312 := hI12.x3); (have hy412 := hI12.x4)); (try go_wp2_with fail); refine tr hK (fun hHeld => ?_); clear hK K)
        refine tc 4 fun K hK => ?_
        (go_simp; (go_at_call 6; refine (sPut_any _ _ _ U X k _ hR12.flat (Nat.le_refl _) h20 hk ⟨b2, 0, rfl⟩ N R B hPu).mono ?_; rintro e v13 ⟨a3, c3, rfl, hOu⟩; have hb13 := hOu.bel; (have hT13 := hT12.trans (hb13.mono hT12.size)); (have hO13 := hOu.own.base hT12.size); (have hN13 : ∀ b, (Value.slice a3 N c3).ownBlock = some b → b ≠ wc.heap.size := fun b e => by have := (hOu.own.lt b e).1; omega); (have hv13 := (hb13.cell (p := ⟨wc.heap.size, 0, none⟩) hvl12).trans hv12); (have hvf13 := (hb13.frozen (p := ⟨wc.heap.size, 0, none⟩) hvl12).trans hvf12); (have hvl13 := Nat.lt_of_lt_of_le hvl12 hb13.size); (have hvm13 := hvm12); (have hB13 := hB.on hT13); (have hI13 := hI.on hT13); (have hbo13 := hB13.box); (have hy013 := hI13.x0); (have hy113 := hI13.x1); (have hy213 := hI13.x2); (have hy313 := hI13.x3); (have hy413 := hI13.x4)); (try go_wp2_with fail); refine tr hK (fun hHeld => ?_); clear hK K)
        refine tq 5 hHeld ?_
        refine tq 6 hHeld ?_
        refine tq 7 hHeld ?_
        (refine tc 9 fun K hK => ?_; go_simp; refine tr hK (fun hHeld => ?_); clear hK K)
        refine tq 10 hHeld ?_
        refine wpAnyH_done (by kernel_rfl) ?_ _
        go_wp2_with fail
        go_meet
        have hTot : Below wc.heap.size wc (v13.setCell ⟨wc.heap.size, 0, none⟩ (.slice a3 N c3)) := hT13.setCell hvm13 _
        exact ⟨_, _, _, _, _, rfl, rfl, hbi2, hT13.size, hB.on hTot, hI.on hTot, (Lq.new hO13 hv13 hvm13 hvl13 hN13)⟩
    case rest =>
    clear hB hI hbox hbig hbi2 hx0 hx1 hx2 hx3 hx4
    obtain ⟨lw, hiw, bw, aw, cw, rfl, rfl, g1, g2, hB, hI, hw⟩ := hcut
    have hbox := hB.box
    have hbig := hB.big
    have hbi2 := hI.big
    have hx0 := hI.x0
    have hx1 := hI.x1
    have hx2 := hI.x2
    have hx3 := hI.x3
    have hx4 := hI.x4
    have hwb := hw.box
    go_upto_region 6 with fail
    go_cut [8] (fun s wc => ∃ lx hix bx xb cx, s = .pointer (some ⟨bx, 0, none⟩) ∧ hiw ≤ lx ∧ lx ≤ hix ∧ n ≤ cx ∧ BrR w a n c U wc ∧ ItR w X wc ∧ Lq wc lw hiw bw aw N cw R ∧ Lq wc lx hix bx (some ⟨xb, 0, none⟩) n cx U)
    case first =>
      go_wp2_with (go_at_call 7; refine (toBroad_any _ _ _ U _ (h.below hB.bel) h20).mono ?_; rintro e w2 ⟨b2, rfl, hl2, hr2, hb2⟩)
      go_meet
      have hE : Below w2.heap.size w2 (w2.alloc (.cells #[.slice (some ⟨b2, 0, none⟩) n n] 34)) := (Below.refl _ _).alloc (Nat.le_refl _) _
      have hr3 := hr2.below hE
      exact ⟨wc.heap.size, w2.heap.size + 1, w2.heap.size, b2, n, rfl, hw.lt, by have := hb2.size; omega, Nat.le_refl _, (hB.on hb2).on hE, (hI.on hb2).on hE, (hw.on hb2).on hE, ⟨hr3.own hl2 (by unfold maxLen; omega), fun b e => by simp [Value.ownBlock] at e; subst e; exact ⟨Nat.lt_succ_of_lt hr2.lt, fun z => by have := hr2.lt; omega⟩, by go_simp, hb2.size, by omega, by simp⟩⟩
    case rest =>
    clear hB hI hbox hbig hbi2 hx0 hx1 hx2 hx3 hx4
    clear hw hwb
    obtain ⟨lx, hix, bx, xb, cx, rfl, g3, g4, hcx, hB, hI, hw, hx⟩ := hcut
    have hbox := hB.box
    have hbig := hB.big
    have hbi2 := hI.big
    have hx0 := hI.x0
    have hx1 := hI.x1
    have hx2 := hI.x2
    have hx3 := hI.x3
    have hx4 := hI.x4
    have hxb := hx.box
    go_upto_region 7 with fail
    go_cut [9, 10] (fun s t wc => ∃ lg hig bg ag cg, s = .pointer (some ⟨bg, 0, none⟩) ∧ t = .bool B ∧ hix ≤ lg ∧ lg ≤ hig ∧ BrR w a n c U wc ∧ ItR w X wc ∧ Lq wc lw hiw bw aw N cw R ∧ Lq wc lx hix bx (some ⟨xb, 0, none⟩) n cx U ∧ Lq wc lg hig bg ag N cg R)
    case first =>
      have hTw : Below wc.heap.size wc wc.drew := (Below.refl _ _).drew
      refine wp_region_held_drew (S := fun w' => w'.cell? ⟨w.heap.size, 0, none⟩ = some (.slice a n c) ∧ w'.cell? ⟨w.heap.size + 1, 0, none⟩ = some (.int .i64 (X 0)) ∧ w'.cell? ⟨w.heap.size + 1, 1, none⟩ = some (.int .i64 (X 1)) ∧ w'.cell? ⟨w.heap.size + 1, 2, none⟩ = some (.int .i64 (X 2)) ∧ w'.cell? ⟨w.heap.size + 1, 3, none⟩ = some (.int .i64 (X 3)) ∧ w'.cell? ⟨w.heap.size + 1, 4, none⟩ = some (.int .i64 (X 4)) ∧ w'.cell? ⟨bx, 0, none⟩ = some (.slice (some ⟨xb, 0, none⟩) n cx)) (by kernel_rfl) ?_ (fun hHeld => ?_)
      · (try dsimp only)
        (first | (go_simp; done) | (go_keep; done))
      refine tq 0 hHeld ?_
      refine tq 1 hHeld ?_
      refine wpAnyH_ready (rs := [2, 7]) (by kernel_rfl) (by simp) ?_
      refine AllReadyH.cons (o := ⟨_, _, _, _, _, _⟩) rfl (fun K hK => ?_) (AllReadyH.cons (o := ⟨_, _, _, _, _, _⟩) rfl (fun K hK => ?_) AllReadyH.nil)
      · (go_simp; (go_at_call 8; refine (toItem_any X _).mono ?_; rintro e v1 ⟨rfl, hb1⟩; (have hT1 := hTw.trans (hb1.mono hTw.size)); (have hB1 := hB.on hT1); (have hI1 := hI.on hT1); (have hbo1 := hB1.box); (have hy01 := hI1.x0); (have hy11 := hI1.x1); (have hy21 := hI1.x2); (have hy31 := hI1.x3); (have hy41 := hI1.x4); (have hzz1 := (hx.on hT1).box)); (try go_wp2_with fail); refine tr hK (fun hHeld => ?_); clear hK K)
        refine wpAnyH_ready (rs := [3, 7]) (by kernel_rfl) (by simp) ?_
        refine AllReadyH.cons (o := ⟨_, _, _, _, _, _⟩) rfl (fun K hK => ?_) (AllReadyH.cons (o := ⟨_, _, _, _, _, _⟩) rfl (fun K hK => ?_) AllReadyH.nil)
        · (go_simp; (go_at_call 9; refine (put_any _ _ _ U X k _ (hx.on hT1).flat hcx h20 hk ⟨xb, 0, rfl⟩ N R B hPu).mono ?_; rintro e v2 ⟨a3, c3, rfl, hOu⟩; have hb2 := hOu.bel; (have hT2 := hT1.trans (hb2.mono hT1.size)); (have hO2 := hOu.own.base hT1.size); (have hB2 := hB.on hT2); (have hI2 := hI.on hT2); (have hbo2 := hB2.box); (have hy02 := hI2.x0); (have hy12 := hI2.x1); (have hy22 := hI2.x2); (have hy32 := hI2.x3); (have hy42 := hI2.x4); (have hzz2 := (hx.on hT2).box)); (try go_wp2_with fail); refine tr hK (fun hHeld => ?_); clear hK K)
          refine tq 4 hHeld ?_
          refine tq 5 hHeld ?_
          refine tq 6 hHeld ?_
          refine tc 7 fun K hK => ?_
          have hT3 : Below wc.heap.size wc (v2.alloc (.cells #[.slice none 0 0] 34)) := hT2.alloc hT2.size _
          have hB3 := hB.on hT3
          have hI3 := hI.on hT3
          have hbo3 := hB3.box
          have hy03 := hI3.x0
          have hy13 := hI3.x1
          have hy23 := hI3.x2
          have hy33 := hI3.x3
          have hy43 := hI3.x4
          have hzz3 := (hx.on hT3).box
          have hv3 : (v2.alloc (.cells #[.slice none 0 0] 34)).cell? ⟨v2.heap.size, 0, none⟩ = some (.slice none 0 0) := by go_simp
          have hvf3 : (v2.alloc (.cells #[.slice none 0 0] 34)).frozen? ⟨v2.heap.size, 0, none⟩ = false := by go_simp
          have hvl3 : v2.heap.size < (v2.alloc (.cells #[.slice none 0 0] 34)).heap.size := by simp
          have hvm3 : wc.heap.size ≤ v2.heap.size := hT2.size
          have hne3 : (v2.heap.size = bx) = False := eq_false (by have := hx.bxh; have := hx.lt; omega)
          have hnf3 : (bx = v2.heap.size) = False := eq_false (by have := hx.bxh; have := hx.lt; omega)
          have hO3 := hO2.below ((Below.refl _ _).alloc (Nat.le_refl _) (.cells #[.slice none 0 0] 34))
          have hN3 : ∀ b, (Value.slice a3 N c3).ownBlock = some b → b ≠ v2.heap.size := fun b e => by have := (hO2.lt b e).2; omega
          (go_simp; generalize (v2.alloc (.cells #[.slice none 0 0] 34)) = y3 at hT3 hB3 hI3 hbo3 hy03 hy13 hy23 hy33 hy43 hv3 hvf3 hvl3 hzz3 hO3 ⊢; refine tr hK (fun hHeld => ?_); clear hK K)
          (refine tc 8 fun K hK => ?_; go_simp; refine tr hK (fun hHeld => ?_); clear hK K)
          refine tq 9 hHeld ?_
          refine wpAnyH_done (by kernel_rfl) ?_ _
          go_wp2_with fail
          go_meet
          have hTot : Below wc.heap.size wc (y3.setCell ⟨v2.heap.size, 0, none⟩ (.slice a3 N c3)) := hT3.setCell hvm3 _
          exact ⟨_, _, _, _, _, rfl, rfl, hx.lt, hT3.size, hB.on hTot, hI.on hTot, hw.on hTot, hx.on hTot, (Lq.new hO3 hv3 hvm3 hvl3 hN3)⟩
        · have hT4 : Below wc.heap.size wc (v1.alloc (.cells #[.slice none 0 0] 34)) := hT1.alloc hT1.size _
          have hB4 := hB.on hT4
          have hI4 := hI.on hT4
          have hbo4 := hB4.box
          have hy04 := hI4.x0
          have hy14 := hI4.x1
          have hy24 := hI4.x2
          have hy34 := hI4.x3
          have hy44 := hI4.x4
          have hzz4 := (hx.on hT4).box
          have hv4 : (v1.alloc (.cells #[.slice none 0 0] 34)).cell? ⟨v1.heap.size, 0, none⟩ = some (.slice none 0 0) := by go_simp
          have hvf4 : (v1.alloc (.cells #[.slice none 0 0] 34)).frozen? ⟨v1.heap.size, 0, none⟩ = false := by go_simp
          have hvl4 : v1.heap.size < (v1.alloc (.cells #[.slice none 0 0] 34)).heap.size := by simp
          have hvm4 : wc.heap.size ≤ v1.heap.size := hT1.size
          have hne4 : (v1.heap.size = bx) = False := eq_false (by have := hx.bxh; have := hx.lt; omega)
          have hnf4 : (bx = v1.heap.size) = False := eq_false (by have := hx.bxh; have := hx.lt; omega)
          (go_simp; generalize (v1.alloc (.cells #[.slice none 0 0] 34)) = y4 at hT4 hB4 hI4 hbo4 hy04 hy14 hy24 hy34 hy44 hv4 hvf4 hvl4 hzz4 ⊢; refine tr hK (fun hHeld => ?_); clear hK K)
          refine tc 3 fun K hK => ?_
          (go_simp; (go_at_call 9; refine (put_any _ _ _ U X k _ (hx.on hT4).flat hcx h20 hk ⟨xb, 0, rfl⟩ N R B hPu).mono ?_; rintro e v5 ⟨a3, c3, rfl, hOu⟩; have hb5 := hOu.bel; (have hT5 := hT4.trans (hb5.mono hT4.size)); (have hO5 := hOu.own.base hT4.size); (have hN5 : ∀ b, (Value.slice a3 N c3).ownBlock = some b → b ≠ v1.heap.size := fun b e => by have := (hOu.own.lt b e).1; omega); (have hv5 := (hb5.cell (p := ⟨v1.heap.size, 0, none⟩) hvl4).trans hv4); (have hvf5 := (hb5.frozen (p := ⟨v1.heap.size, 0, none⟩) hvl4).trans hvf4); (have hvl5 := Nat.lt_of_lt_of_le hvl4 hb5.size); (have hvm5 := hvm4); (have hB5 := hB.on hT5); (have hI5 := hI.on hT5); (have hbo5 := hB5.box); (have hy05 := hI5.x0); (have hy15 := hI5.x1); (have hy25 := hI5.x2); (have hy35 := hI5.x3); (have hy45 := hI5.x4); (have hzz5 := (hx.on hT5).box)); (try go_wp2_with fail); refine tr hK (fun hHeld => ?_); clear hK K)
          refine tq 4 hHeld ?_
          refine tq 5 hHeld ?_
          refine tq 6 hHeld ?_
          (refine tc 8 fun K hK => ?_; go_simp; refine tr hK (fun hHeld => ?_); clear hK K)
          refine tq 9 hHeld ?_
          refine wpAnyH_done (by kernel_rfl) ?_ _
          go_wp2_with fail
          go_meet
          have hTot : Below wc.heap.size wc (v5.setCell ⟨v1.heap.size, 0, none⟩ (.slice a3 N c3)) := hT5.setCell hvm5 _
          exact ⟨_, _, _, _, _, rfl, rfl, hx.lt, hT5.size, hB.on hTot, hI.on hTot, hw.on hTot, hx.on hTot, (Lq.new hO5 hv5 hvm5 hvl5 hN5)⟩
      · have hT6 : Below wc.heap.size wc (wc.alloc (.cells #[.slice none 0 0] 34)).drew := ((Below.refl _ _).alloc (Nat.le_refl _) _).drew
        have hB6 := hB.on hT6
        have hI6 := hI.on hT6
        have hbo6 := hB6.box
        have hy06 := hI6.x0
        have hy16 := hI6.x1
        have hy26 := hI6.x2
        have hy36 := hI6.x3
        have hy46 := hI6.x4
        have hzz6 := (hx.on hT6).box
        have hv6 : (wc.alloc (.cells #[.slice none 0 0] 34)).drew.cell? ⟨wc.heap.size, 0, none⟩ = some (.slice none 0 0) := by go_simp
        have hvf6 : (wc.alloc (.cells #[.slice none 0 0] 34)).drew.frozen? ⟨wc.heap.size, 0, none⟩ = false := by go_simp
        have hvl6 : wc.heap.size < (wc.alloc (.cells #[.slice none 0 0] 34)).drew.heap.size := by simp
        have hvm6 : wc.heap.size ≤ wc.heap.size := Nat.le_refl _
        have hne6 : (wc.heap.size = bx) = False := eq_false (by have := hx.bxh; have := hx.lt; omega)
        have hnf6 : (bx = wc.heap.size) = False := eq_false (by have := hx.bxh; have := hx.lt; omega)
        (go_simp; generalize (wc.alloc (.cells #[.slice none 0 0] 34)).drew = y6 at hT6 hB6 hI6 hbo6 hy06 hy16 hy26 hy36 hy46 hv6 hvf6 hvl6 hzz6 ⊢; refine tr hK (fun hHeld => ?_); clear hK K)
        refine tc 2 fun K hK => ?_
        (go_simp; (go_at_call 8; refine (toItem_any X _).mono ?_; rintro e v7 ⟨rfl, hb7⟩; (have hT7 := hT6.trans (hb7.mono hT6.size)); (have hv7 := (hb7.cell (p := ⟨wc.heap.size, 0, none⟩) hvl6).trans hv6); (have hvf7 := (hb7.frozen (p := ⟨wc.heap.size, 0, none⟩) hvl6).trans hvf6); (have hvl7 := Nat.lt_of_lt_of_le hvl6 hb7.size); (have hvm7 := hvm6); (have hB7 := hB.on hT7); (have hI7 := hI.on hT7); (have hbo7 := hB7.box); (have hy07 := hI7.x0); (have hy17 := hI7.x1); (have hy27 := hI7.x2); (have hy37 := hI7.x3); (have hy47 := hI7.x4); (have hzz7 := (hx.on hT7).box)); (try go_wp2_with fail); refine tr hK (fun hHeld => ?_); clear hK K)
        refine tc 3 fun K hK => ?_
        (go_simp; (go_at_call 9; refine (put_any _ _ _ U X k _ (hx.on hT7).flat hcx h20 hk ⟨xb, 0, rfl⟩ N R B hPu).mono ?_; rintro e v8 ⟨a3, c3, rfl, hOu⟩; have hb8 := hOu.bel; (have hT8 := hT7.trans (hb8.mono hT7.size)); (have hO8 := hOu.own.base hT7.size); (have hN8 : ∀ b, (Value.slice a3 N c3).ownBlock = some b → b ≠ wc.heap.size := fun b e => by have := (hOu.own.lt b e).1; omega); (have hv8 := (hb8.cell (p := ⟨wc.heap.size, 0, none⟩) hvl7).trans hv7); (have hvf8 := (hb8.frozen (p := ⟨wc.heap.size, 0, none⟩) hvl7).trans hvf7); (have hvl8 := Nat.lt_of_lt_of_le hvl7 hb8.size); (have hvm8 := hvm7); (have hB8 := hB.on hT8); (have hI8 := hI.on hT8); (have hbo8 := hB8.box); (have hy08 := hI8.x0); (have hy18 := hI8.x1); (have hy28 := hI8.x2); (have hy38 := hI8.x3); (have hy48 := hI8.x4); (have hzz8 := (hx.on hT8).box)); (try go_wp2_with fail); refine tr hK (fun hHeld => ?_); clear hK K)
        refine tq 4 hHeld ?_
        refine tq 5 hHeld ?_
        refine tq 6 hHeld ?_
        (refine tc 8 fun K hK => ?_; go_simp; refine tr hK (fun hHeld => ?_); clear hK K)
        refine tq 9 hHeld ?_
        refine wpAnyH_done (by kernel_rfl) ?_ _
        go_wp2_with fail
        go_meet
        have hTot : Below wc.heap.size wc (v8.setCell ⟨wc.heap.size, 0, none⟩ (.slice a3 N c3)) := hT8.setCell hvm8 _
        exact ⟨_, _, _, _, _, rfl, rfl, hx.lt, hT8.size, hB.on hTot, hI.on hTot, hw.on hTot, hx.on hTot, (Lq.new hO8 hv8 hvm8 hvl8 hN8)⟩
    case rest =>
    clear hB hI hbox hbig hbi2 hx0 hx1 hx2 hx3 hx4
    clear hw hx hxb
    obtain ⟨lg, hig, bg, ag, cg, rfl, rfl, g5, g6, hB, hI, hw, hx, hg⟩ := hcut
    have hbox := hB.box
    have hbig := hB.big
    have hbi2 := hI.big
    have hx0 := hI.x0
    have hx1 := hI.x1
    have hx2 := hI.x2
    have hx3 := hI.x3
    have hx4 := hI.x4
    have hwb := hw.box
    have hxb := hx.box
    have hgb := hg.box
    go_upto_region 8 with fail
    go_cut [46] (fun s0 wc => s0 = .bool false ∧ BrR w a n c U wc ∧ ItR w X wc ∧ Lq wc lw hiw bw aw N cw R ∧ Lq wc lx hix bx (some ⟨xb, 0, none⟩) n cx U ∧ Lq wc lg hig bg ag N cg R)
    case first =>
      go_wp2_with (go_at_call 10; refine (eqBroad_same _ _ _ _ _ R _ hg.flat hw.flat hN20).mono ?_; rintro e w8 ⟨rfl, hb8⟩)
      go_meet
      exact ⟨rfl, hB.on hb8, hI.on hb8, hw.on hb8, hx.on hb8, hg.on hb8⟩
    case rest =>
    clear hB hI hbox hbig hbi2 hx0 hx1 hx2 hx3 hx4
    clear hw hx hg hwb hxb hgb
    obtain ⟨rfl, hB, hI, hw, hx, hg⟩ := hcut
    have hbox := hB.box
    have hbig := hB.big
    have hbi2 := hI.big
    have hx0 := hI.x0
    have hx1 := hI.x1
    have hx2 := hI.x2
    have hx3 := hI.x3
    have hx4 := hI.x4
    have hwb := hw.box
    have hxb := hx.box
    have hgb := hg.box
    go_upto_region 10 with fail
    go_cut [51] (fun s0 wc => s0 = .bool false ∧ BrR w a n c U wc ∧ ItR w X wc ∧ Lq wc lw hiw bw aw N cw R ∧ Lq wc lx hix bx (some ⟨xb, 0, none⟩) n cx U ∧ Lq wc lg hig bg ag N cg R)
    case first =>
      refine wp_region_held_drew (S := fun w' => w'.cell? ⟨w.heap.size, 0, none⟩ = some (.slice a n c) ∧ w'.cell? ⟨bx, 0, none⟩ = some (.slice (some ⟨xb, 0, none⟩) n cx)) (by kernel_rfl) ?_ (fun hHeld => ?_)
      · (try dsimp only)
        (first | (go_simp; done) | (go_keep; done))
      refine tq 0 hHeld ?_
      refine tq 1 hHeld ?_
      (refine tc 2 fun K hK => ?_; go_simp; (go_at_call 7; refine (toBroad_any _ _ _ U _ (h.below hB.bel.drew) h20).mono ?_; rintro e w6 ⟨b6, rfl, hl6, hr6, hb6⟩; have hB6 := hB.on hb6.ofDrew; have hx6 := hx.on hb6.ofDrew; have k1 := hB6.box; have k2 := hx6.box); (try go_wp2_with fail); refine tr hK (fun hHeld => ?_); clear hK K)
      (refine tc 3 fun K hK => ?_; go_simp; (go_at_call 10; refine (eqBroad_same _ _ _ _ _ U _ hx6.flat hr6.flat h20).mono ?_; rintro e w7 ⟨rfl, hb7⟩; have hb8 : Below wc.heap.size wc w7 := hb6.ofDrew.trans (hb7.mono hb6.size); have k3 := (hB6.on hb7).box; have k4 := (hx6.on hb7).box); (try go_wp2_with fail); refine tr hK (fun hHeld => ?_); clear hK K)
      refine tq 4 hHeld ?_
      refine wpAnyH_done (by kernel_rfl) ?_ _
      go_wp2_with fail
      go_meet
      exact ⟨rfl, hB.on hb8, hI.on hb8, hw.on hb8, hx.on hb8, hg.on hb8⟩
    case rest =>
    clear hB hI hbox hbig hbi2 hx0 hx1 hx2 hx3 hx4
    clear hw hx hg hwb hxb hgb
    obtain ⟨rfl, hB, hI, hw, hx, hg⟩ := hcut
    have hbox := hB.box
    have hbig := hB.big
    have hbi2 := hI.big
    have hx0 := hI.x0
    have hx1 := hI.x1
    have hx2 := hI.x2
    have hx3 := hI.x3
    have hx4 := hI.x4
    have hwb := hw.box
    have hxb := hx.box
    have hgb := hg.box
    go_upto_region 13 with fail
    go_cut [11] (fun s0 wc => s0 = .int .i64 (1 + (n : Int) * 5) ∧ BrR w a n c U wc ∧ ItR w X wc ∧ Lq wc lw hiw bw aw N cw R ∧ Lq wc lx hix bx (some ⟨xb, 0, none⟩) n cx (fun q => 1 + (q : Int)) ∧ Lq wc lg hig bg ag N cg R)
    case first =>
      go_wp2_with (go_at_call 11; refine (markBroad_any lx _ _ _ U _ hx.own (by omega)).mono ?_; rintro e w2 ⟨rfl, ho2, hg2⟩)
      go_meet
      exact ⟨rfl, hB.gq hx hg2 (by omega), hI.gr hx hg2 (by omega), hw.gr hx hg2 (.inl (by omega)), hx.me hg2 ho2, hg.gr hx hg2 (.inr (by omega))⟩
    case rest =>
    clear hB hI hbox hbig hbi2 hx0 hx1 hx2 hx3 hx4
    clear hw hx hg hwb hxb hgb
    obtain ⟨rfl, hB, hI, hw, hx, hg⟩ := hcut
    have hbox := hB.box
    have hbig := hB.big
    have hbi2 := hI.big
    have hx0 := hI.x0
    have hx1 := hI.x1
    have hx2 := hI.x2
    have hx3 := hI.x3
    have hx4 := hI.x4
    have hwb := hw.box
    have hxb := hx.box
    have hgb := hg.box
    have hk0 : ¬ (1 + (n : Int) * 5 < 0) := by omega
    go_upto_region 14 with fail
    go_cut [67] (fun s0 wc => s0 = .bool false ∧ BrR w a n c U wc ∧ ItR w X wc ∧ Lq wc lw hiw bw aw N cw R ∧ Lq wc lx hix bx (some ⟨xb, 0, none⟩) n cx (fun q => 1 + (q : Int)) ∧ Lq wc lg hig bg ag N cg R)
    case first =>
      go_wp2_with (go_at_call 10; refine (eqBroad_same _ _ _ _ _ R _ hg.flat hw.flat hN20).mono ?_; rintro e w9 ⟨rfl, hb9⟩)
      go_meet
      exact ⟨rfl, hB.on hb9, hI.on hb9, hw.on hb9, hx.on hb9, hg.on hb9⟩
    case rest =>
    clear hB hI hbox hbig hbi2 hx0 hx1 hx2 hx3 hx4
    clear hw hx hg hwb hxb hgb
    obtain ⟨rfl, hB, hI, hw, hx, hg⟩ := hcut
    have hbox := hB.box
    have hbig := hB.big
    have hbi2 := hI.big
    have hx0 := hI.x0
    have hx1 := hI.x1
    have hx2 := hI.x2
    have hx3 := hI.x3
    have hx4 := hI.x4
    have hwb := hw.box
    have hxb := hx.box
    have hgb := hg.box
    go_upto_region 17 with fail
    go_cut [12] (fun s0 wc => s0 = .int .i64 (1 + (N : Int) * 5) ∧ BrR w a n c U wc ∧ ItR w X wc ∧ Lq wc lw hiw bw aw N cw R ∧ Lq wc lx hix bx (some ⟨xb, 0, none⟩) n cx (fun q => 1 + (q : Int)) ∧ Lq wc lg hig bg ag N cg (fun q => 1 + (q : Int)))
    case first =>
      go_wp2_with (go_at_call 11; refine (markBroad_any lg _ _ _ R _ hg.own (by omega)).mono ?_; rintro e w2 ⟨rfl, ho2, hg2⟩)
      go_meet
      exact ⟨rfl, hB.gq hg hg2 (by omega), hI.gr hg hg2 (by omega), hw.gr hg hg2 (.inl (by omega)), hx.gr hg hg2 (.inl (by omega)), hg.me hg2 ho2⟩
    case rest =>
    clear hB hI hbox hbig hbi2 hx0 hx1 hx2 hx3 hx4
    clear hw hx hg hwb hxb hgb
    obtain ⟨rfl, hB, hI, hw, hx, hg⟩ := hcut
    have hbox := hB.box
    have hbig := hB.big
    have hbi2 := hI.big
    have hx0 := hI.x0
    have hx1 := hI.x1
    have hx2 := hI.x2
    have hx3 := hI.x3
    have hx4 := hI.x4
    have hwb := hw.box
    have hxb := hx.box
    have hgb := hg.box
    have hk1 : ¬ (1 + (N : Int) * 5 < 0) := by omega
    go_upto_region 19 with fail
    go_cut [13] (fun s0 wc => s0 = .int .i64 (1 + (N : Int) * 5) ∧ BrR w a n c U wc ∧ ItR w X wc ∧ Lq wc lw hiw bw aw N cw R ∧ Lq wc lx hix bx (some ⟨xb, 0, none⟩) n cx (fun q => 1 + (q : Int)) ∧ Lq wc lg hig bg ag N cg (fun q => 1 + (q : Int)))
    case first =>
      go_wp2_with (go_at_call 12; refine (heldBroad_any _ _ _ _ hg.flat (by omega)).mono ?_; rintro e w2 ⟨rfl, hb2⟩)
      go_meet
      exact ⟨rfl, hB.on hb2, hI.on hb2, hw.on hb2, hx.on hb2, hg.on hb2⟩
    case rest =>
    clear hB hI hbox hbig hbi2 hx0 hx1 hx2 hx3 hx4
    clear hw hx hg hwb hxb hgb
    obtain ⟨rfl, hB, hI, hw, hx, hg⟩ := hcut
    have hbox := hB.box
    have hbig := hB.big
    have hbi2 := hI.big
    have hx0 := hI.x0
    have hx1 := hI.x1
    have hx2 := hI.x2
    have hx3 := hI.x3
    have hx4 := hI.x4
    have hwb := hw.box
    have hxb := hx.box
    have hgb := hg.box
    go_upto_region 24 with fail
    go_cut [14, 15] (fun s t wc => ∃ lh hih bh ah ch, s = .pointer (some ⟨bh, 0, none⟩) ∧ t = .bool B ∧ BrR w a n c U wc ∧ ItR w X wc ∧ Lq wc lw hiw bw aw N cw R ∧ Lq wc lx hix bx (some ⟨xb, 0, none⟩) n cx (fun q => 1 + (q : Int)) ∧ Lq wc lg hig bg ag N cg (fun q => 1 + (q : Int)) ∧ Lq wc lh hih bh ah N ch R)
    case first =>
      have hTw : Below wc.heap.size wc wc.drew := (Below.refl _ _).drew
      refine wp_region_held_drew (S := fun w' => w'.cell? ⟨w.heap.size, 0, none⟩ = some (.slice a n c) ∧ w'.cell? ⟨w.heap.size + 1, 0, none⟩ = some (.int .i64 (X 0)) ∧ w'.cell? ⟨w.heap.size + 1, 1, none⟩ = some (.int .i64 (X 1)) ∧ w'.cell? ⟨w.heap.size + 1, 2, none⟩ = some (.int .i64 (X 2)) ∧ w'.cell? ⟨w.heap.size + 1, 3, none⟩ = some (.int .i64 (X 3)) ∧ w'.cell? ⟨w.heap.size + 1, 4, none⟩ = some (.int .i64 (X 4))) (by kernel_rfl) ?_ (fun hHeld => ?_)
      · (try dsimp only)
        (first | (go_simp; done) | (go_keep; done))
      refine tq 0 hHeld ?_
      refine tq 2 hHeld ?_
      refine wpAnyH_ready (rs := [1, 8]) (by kernel_rfl) (by simp) ?_
      refine AllReadyH.cons (o := ⟨_, _, _, _, _, _⟩) rfl (fun K hK => ?_) (AllReadyH.cons (o := ⟨_, _, _, _, _, _⟩) rfl (fun K hK => ?_) AllReadyH.nil)
      · (go_simp; (go_at_call 7; refine (toBroad_any _ _ _ U _ (h.below (hB.bel.trans (hTw.mono hB.bel.size))) h20).mono ?_; rintro e v1 ⟨b2, rfl, hl2, hr2, hb1⟩; (have hT1 := hTw.trans (hb1.mono hTw.size)); (have hB1 := hB.on hT1); (have hI1 := hI.on hT1); (have hbo1 := hB1.box); (have hy01 := hI1.x0); (have hy11 := hI1.x1); (have hy21 := hI1.x2); (have hy31 := hI1.x3); (have hy41 := hI1.x4)); (try go_wp2_with fail); refine tr hK (fun hHeld => ?_); clear hK K)
        refine wpAnyH_ready (rs := [3, 8]) (by kernel_rfl) (by simp) ?_
        refine AllReadyH.cons (o := ⟨_, _, _, _, _, _⟩) rfl (fun K hK => ?_) (AllReadyH.cons (o := ⟨_, _, _, _, _, _⟩) rfl (fun K hK => ?_) AllReadyH.nil)
        · (go_simp; (go_at_call 8; refine (toItem_any X _).mono ?_; rintro e v2 ⟨rfl, hb2⟩; (have hT2 := hT1.trans (hb2.mono hT1.size)); (have hR2 := hr2.below hb2); (have hB2 := hB.on hT2); (have hI2 := hI.on hT2); (have hbo2 := hB2.box); (have hy02 := hI2.x0); (have hy12 := hI2.x1); (have hy22 := hI2.x2); (have hy32 := hI2.x3); (have hy42 := hI2.x4)); (try go_wp2_with fail); refine tr hK (fun hHeld => ?_); clear hK K)
          refine wpAnyH_ready (rs := [4, 8]) (by kernel_rfl) (by simp) ?_
          refine AllReadyH.cons (o := ⟨_, _, _, _, _, _⟩) rfl (fun K hK => ?_) (AllReadyH.cons (o := ⟨_, _, _, _, _, _⟩) rfl (fun K hK => ?_) AllReadyH.nil)
          · (go_simp; (go_at_call 9; refine (put_any _ _ _ U X k _ hR2.flat (Nat.le_refl _) h20 hk ⟨b2, 0, rfl⟩ N R B hPu).mono ?_; rintro e v3 ⟨a3, c3, rfl, hOu⟩; have hb3 := hOu.bel; (have hT3 := hT2.trans (hb3.mono hT2.size)); (have hO3 := hOu.own.base hT2.size); (have hB3 := hB.on hT3); (have hI3 := hI.on hT3); (have hbo3 := hB3.box); (have hy03 := hI3.x0); (have hy13 := hI3.x1); (have hy23 := hI3.x2); (have hy33 := hI3.x3); (have hy43 := hI3.x4)); (try go_wp2_with fail); refine tr hK (fun hHeld => ?_); clear hK K)
            refine tq 5 hHeld ?_
            refine tq 6 hHeld ?_
            refine tq 7 hHeld ?_
            refine tc 8 fun K hK => ?_
            have hT4 : Below wc.heap.size wc (v3.alloc (.cells #[.slice none 0 0] 34)) := hT3.alloc hT3.size _
            have hB4 := hB.on hT4
            have hI4 := hI.on hT4
            have hbo4 := hB4.box
            have hy04 := hI4.x0
            have hy14 := hI4.x1
            have hy24 := hI4.x2
            have hy34 := hI4.x3
            have hy44 := hI4.x4
            have hv4 : (v3.alloc (.cells #[.slice none 0 0] 34)).cell? ⟨v3.heap.size, 0, none⟩ = some (.slice none 0 0) := by go_simp
            have hvf4 : (v3.alloc (.cells #[.slice none 0 0] 34)).frozen? ⟨v3.heap.size, 0, none⟩ = false := by go_simp
            have hvl4 : v3.heap.size < (v3.alloc (.cells #[.slice none 0 0] 34)).heap.size := by simp
            have hvm4 : wc.heap.size ≤ v3.heap.size := hT3.size
            have hO4 := hO3.below ((Below.refl _ _).alloc (Nat.le_refl _) (.cells #[.slice none 0 0] 34))
            have hN4 : ∀ b, (Value.slice a3 N c3).ownBlock = some b → b ≠ v3.heap.size := fun b e => by have := (hO3.lt b e).2; omega
            (go_simp; generalize (v3.alloc (.cells #[.slice none 0 0] 34)) = y4 at hT4 hB4 hI4 hbo4 hy04 hy14 hy24 hy34 hy44 hv4 hvf4 hvl4 hO4 ⊢; refine tr hK (fun hHeld => ?_); clear hK K)
            (refine tc 9 fun K hK => ?_; go_simp; refine tr hK (fun hHeld => ?_); clear hK K)
            refine tq 10 hHeld ?_
            refine wpAnyH_done (by kernel_rfl) ?_ _
            go_wp2_with fail
            go_meet
            have hTot : Below wc.heap.size wc (y4.setCell ⟨v3.heap.size, 0, none⟩ (.slice a3 N c3)) := hT4.setCell hvm4 _
            exact ⟨_, _, _, _, _, rfl, rfl, hB.on hTot, hI.on hTot, hw.on hTot, hx.on hTot, hg.on hTot, (Lq.new hO4 hv4 hvm4 hvl4 hN4)⟩
          · have hT5 : Below wc.heap.size wc (v2.alloc (.cells #[.slice none 0 0] 34)) := hT2.alloc hT2.size _
            have hB5 := hB.on hT5
            have hI5 := hI.on hT5
            have hbo5 := hB5.box
            have hy05 := hI5.x0
            have hy15 := hI5.x1
            have hy25 := hI5.x2
            have hy35 := hI5.x3
            have hy45 := hI5.x4
            have hv5 : (v2.alloc (.cells #[.slice none 0 0] 34)).cell? ⟨v2.heap.size, 0, none⟩ = some (.slice none 0 0) := by go_simp
            have hvf5 : (v2.alloc (.cells #[.slice none 0 0] 34)).frozen? ⟨v2.heap.size, 0, none⟩ = false := by go_simp
            have hvl5 : v2.heap.size < (v2.alloc (.cells #[.slice none 0 0] 34)).heap.size := by simp
            have hvm5 : wc.heap.size ≤ v2.heap.size := hT2.size
            have hR5 := hR2.below ((Below.refl _ _).alloc (Nat.le_refl _) (.cells #[.slice none 0 0] 34))
            (go_simp; generalize (v2.alloc (.cells #[.slice none 0 0] 34)) = y5 at hT5 hB5 hI5 hbo5 hy05 hy15 hy25 hy35 hy45 hv5 hvf5 hvl5 hR5 ⊢; refine tr hK (fun hHeld => ?_); clear hK K)
            refine tc 4 fun K hK => ?_
            (go_simp; (go_at_call 9; refine (put_any _ _ _ U X k _ hR5.flat (Nat.le_refl _) h20 hk ⟨b2, 0, rfl⟩ N R B hPu).mono ?_; rintro e v6 ⟨a3, c3, rfl, hOu⟩; have hb6 := hOu.bel; (have hT6 := hT5.trans (hb6.mono hT5.size)); (have hO6 := hOu.own.base hT5.size); (have hN6 : ∀ b, (Value.slice a3 N c3).ownBlock = some b → b ≠ v2.heap.size := fun b e => by have := (hOu.own.lt b e).1; omega); (have hv6 := (hb6.cell (p := ⟨v2.heap.size, 0, none⟩) hvl5).trans hv5); (have hvf6 := (hb6.frozen (p := ⟨v2.heap.size, 0, none⟩) hvl5).trans hvf5); (have hvl6 := Nat.lt_of_lt_of_le hvl5 hb6.size); (have hvm6 := hvm5); (have hB6 := hB.on hT6); (have hI6 := hI.on hT6); (have hbo6 := hB6.box); (have hy06 := hI6.x0); (have hy16 := hI6.x1); (have hy26 := hI6.x2); (have hy36 := hI6.x3); (have hy46 := hI6.x4)); (try go_wp2_with fail); refine tr hK (fun hHeld => ?_); clear hK K)
            refine tq 5 hHeld ?_
            refine tq 6 hHeld ?_
            refine tq 7 hHeld ?_
            (refine tc 9 fun K hK => ?_; go_simp; refine tr hK (fun hHeld => ?_); clear hK K)
            refine tq 10 hHeld ?_
            refine wpAnyH_done (by kernel_rfl) ?_ _
            go_wp2_with fail
            go_meet
            have hTot : Below wc.heap.size wc (v6.setCell ⟨v2.heap.size, 0, none⟩ (.slice a3 N c3)) := hT6.setCell hvm6 _
            exact ⟨_, _, _, _, _, rfl, rfl, hB.on hTot, hI.on hTot, hw.on hTot, hx.on hTot, hg.on hTot, (Lq.new hO6 hv6 hvm6 hvl6 hN6)⟩
        · have hT7 : Below wc.heap.size wc (v1.alloc (.cells #[.slice none 0 0] 34)) := hT1.alloc hT1.size _
          have hB7 := hB.on hT7
          have hI7 := hI.on hT7
          have hbo7 := hB7.box
          have hy07 := hI7.x0
          have hy17 := hI7.x1
          have hy27 := hI7.x2
          have hy37 := hI7.x3
          have hy47 := hI7.x4
          have hv7 : (v1.alloc (.cells #[.slice none 0 0] 34)).cell? ⟨v1.heap.size, 0, none⟩ = some (.slice none 0 0) := by go_simp
          have hvf7 : (v1.alloc (.cells #[.slice none 0 0] 34)).frozen? ⟨v1.heap.size, 0, none⟩ = false := by go_simp
          have hvl7 : v1.heap.size < (v1.alloc (.cells #[.slice none 0 0] 34)).heap.size := by simp
          have hvm7 : wc.heap.size ≤ v1.heap.size := hT1.size
          have hR7 := hr2.below ((Below.refl _ _).alloc (Nat.le_refl _) (.cells #[.slice none 0 0] 34))
          (go_simp; generalize (v1.alloc (.cells #[.slice none 0 0] 34)) = y7 at hT7 hB7 hI7 hbo7 hy07 hy17 hy27 hy37 hy47 hv7 hvf7 hvl7 hR7 ⊢; refine tr hK (fun hHeld => ?_); clear hK K)
          refine tc 3 fun K hK => ?_
          (go_simp; (go_at_call 8; refine (toItem_any X _).mono ?_; rintro e v8 ⟨rfl, hb8⟩; (have hT8 := hT7.trans (hb8.mono hT7.size)); (have hR8 := hR7.below hb8); (have hv8 := (hb8.cell (p := ⟨v1.heap.size, 0, none⟩) hvl7).trans hv7); (have hvf8 := (hb8.frozen (p := ⟨v1.heap.size, 0, none⟩) hvl7).trans hvf7); (have hvl8 := Nat.lt_of_lt_of_le hvl7 hb8.size); (have hvm8 := hvm7); (have hB8 := hB.on hT8); (have hI8 := hI.on hT8); (have hbo8 := hB8.box); (have hy08 := hI8.x0); (have hy18 := hI8.x1); (have hy28 := hI8.x2); (have hy38 := hI8.x3); (have hy48 := hI8.x4)); (try go_wp2_with fail); refine tr hK (fun hHeld => ?_); clear hK K)
          refine tc 4 fun K hK => ?_
          (go_simp; (go_at_call 9; refine (put_any _ _ _ U X k _ hR8.flat (Nat.le_refl _) h20 hk ⟨b2, 0, rfl⟩ N R B hPu).mono ?_; rintro e v9 ⟨a3, c3, rfl, hOu⟩; have hb9 := hOu.bel; (have hT9 := hT8.trans (hb9.mono hT8.size)); (have hO9 := hOu.own.base hT8.size); (have hN9 : ∀ b, (Value.slice a3 N c3).ownBlock = some b → b ≠ v1.heap.size := fun b e => by have := (hOu.own.lt b e).1; omega); (have hv9 := (hb9.cell (p := ⟨v1.heap.size, 0, none⟩) hvl8).trans hv8); (have hvf9 := (hb9.frozen (p := ⟨v1.heap.size, 0, none⟩) hvl8).trans hvf8); (have hvl9 := Nat.lt_of_lt_of_le hvl8 hb9.size); (have hvm9 := hvm8); (have hB9 := hB.on hT9); (have hI9 := hI.on hT9); (have hbo9 := hB9.box); (have hy09 := hI9.x0); (have hy19 := hI9.x1); (have hy29 := hI9.x2); (have hy39 := hI9.x3); (have hy49 := hI9.x4)); (try go_wp2_with fail); refine tr hK (fun hHeld => ?_); clear hK K)
          refine tq 5 hHeld ?_
          refine tq 6 hHeld ?_
          refine tq 7 hHeld ?_
          (refine tc 9 fun K hK => ?_; go_simp; refine tr hK (fun hHeld => ?_); clear hK K)
          refine tq 10 hHeld ?_
          refine wpAnyH_done (by kernel_rfl) ?_ _
          go_wp2_with fail
          go_meet
          have hTot : Below wc.heap.size wc (v9.setCell ⟨v1.heap.size, 0, none⟩ (.slice a3 N c3)) := hT9.setCell hvm9 _
          exact ⟨_, _, _, _, _, rfl, rfl, hB.on hTot, hI.on hTot, hw.on hTot, hx.on hTot, hg.on hTot, (Lq.new hO9 hv9 hvm9 hvl9 hN9)⟩
      · have hT10 : Below wc.heap.size wc (wc.alloc (.cells #[.slice none 0 0] 34)).drew := ((Below.refl _ _).alloc (Nat.le_refl _) _).drew
        have hB10 := hB.on hT10
        have hI10 := hI.on hT10
        have hbo10 := hB10.box
        have hy010 := hI10.x0
        have hy110 := hI10.x1
        have hy210 := hI10.x2
        have hy310 := hI10.x3
        have hy410 := hI10.x4
        have hv10 : (wc.alloc (.cells #[.slice none 0 0] 34)).drew.cell? ⟨wc.heap.size, 0, none⟩ = some (.slice none 0 0) := by go_simp
        have hvf10 : (wc.alloc (.cells #[.slice none 0 0] 34)).drew.frozen? ⟨wc.heap.size, 0, none⟩ = false := by go_simp
        have hvl10 : wc.heap.size < (wc.alloc (.cells #[.slice none 0 0] 34)).drew.heap.size := by simp
        have hvm10 : wc.heap.size ≤ wc.heap.size := Nat.le_refl _
        (go_simp; generalize (wc.alloc (.cells #[.slice none 0 0] 34)).drew = y10 at hT10 hB10 hI10 hbo10 hy010 hy110 hy210 hy310 hy410 hv10 hvf10 hvl10 ⊢; refine tr hK (fun hHeld => ?_); clear hK K)
        refine tc 1 fun K hK => ?_
        (go_simp; (go_at_call 7; refine (toBroad_any _ _ _ U _ (h.below (hB.bel.trans (hT10.mono hB.bel.size))) h20).mono ?_; rintro e v11 ⟨b2, rfl, hl2, hr2, hb11⟩; (have hT11 := hT10.trans (hb11.mono hT10.size)); (have hv11 := (hb11.cell (p := ⟨wc.heap.size, 0, none⟩) hvl10).trans hv10); (have hvf11 := (hb11.frozen (p := ⟨wc.heap.size, 0, none⟩) hvl10).trans hvf10); (have hvl11 := Nat.lt_of_lt_of_le hvl10 hb11.size); (have hvm11 := hvm10); (have hB11 := hB.on hT11); (have hI11 := hI.on hT11); (have hbo11 := hB11.box); (have hy011 := hI11.x0); (have hy111 := hI11.x1); (have hy211 := hI11.x2); (have hy311 := hI11.x3); (have hy411 := hI11.x4)); (try go_wp2_with fail); refine tr hK (fun hHeld => ?_); clear hK K)
        refine tc 3 fun K hK => ?_
        (go_simp; (go_at_call 8; refine (toItem_any X _).mono ?_; rintro e v12 ⟨rfl, hb12⟩; (have hT12 := hT11.trans (hb12.mono hT11.size)); (have hR12 := hr2.below hb12); (have hv12 := (hb12.cell (p := ⟨wc.heap.size, 0, none⟩) hvl11).trans hv11); (have hvf12 := (hb12.frozen (p := ⟨wc.heap.size, 0, none⟩) hvl11).trans hvf11); (have hvl12 := Nat.lt_of_lt_of_le hvl11 hb12.size); (have hvm12 := hvm11); (have hB12 := hB.on hT12); (have hI12 := hI.on hT12); (have hbo12 := hB12.box); (have hy012 := hI12.x0); (have hy112 := hI12.x1); (have hy212 := hI12.x2); (have hy312 := hI12.x3); (have hy412 := hI12.x4)); (try go_wp2_with fail); refine tr hK (fun hHeld => ?_); clear hK K)
        refine tc 4 fun K hK => ?_
        (go_simp; (go_at_call 9; refine (put_any _ _ _ U X k _ hR12.flat (Nat.le_refl _) h20 hk ⟨b2, 0, rfl⟩ N R B hPu).mono ?_; rintro e v13 ⟨a3, c3, rfl, hOu⟩; have hb13 := hOu.bel; (have hT13 := hT12.trans (hb13.mono hT12.size)); (have hO13 := hOu.own.base hT12.size); (have hN13 : ∀ b, (Value.slice a3 N c3).ownBlock = some b → b ≠ wc.heap.size := fun b e => by have := (hOu.own.lt b e).1; omega); (have hv13 := (hb13.cell (p := ⟨wc.heap.size, 0, none⟩) hvl12).trans hv12); (have hvf13 := (hb13.frozen (p := ⟨wc.heap.size, 0, none⟩) hvl12).trans hvf12); (have hvl13 := Nat.lt_of_lt_of_le hvl12 hb13.size); (have hvm13 := hvm12); (have hB13 := hB.on hT13); (have hI13 := hI.on hT13); (have hbo13 := hB13.box); (have hy013 := hI13.x0); (have hy113 := hI13.x1); (have hy213 := hI13.x2); (have hy313 := hI13.x3); (have hy413 := hI13.x4)); (try go_wp2_with fail); refine tr hK (fun hHeld => ?_); clear hK K)
        refine tq 5 hHeld ?_
        refine tq 6 hHeld ?_
        refine tq 7 hHeld ?_
        (refine tc 9 fun K hK => ?_; go_simp; refine tr hK (fun hHeld => ?_); clear hK K)
        refine tq 10 hHeld ?_
        refine wpAnyH_done (by kernel_rfl) ?_ _
        go_wp2_with fail
        go_meet
        have hTot : Below wc.heap.size wc (v13.setCell ⟨wc.heap.size, 0, none⟩ (.slice a3 N c3)) := hT13.setCell hvm13 _
        exact ⟨_, _, _, _, _, rfl, rfl, hB.on hTot, hI.on hTot, hw.on hTot, hx.on hTot, hg.on hTot, (Lq.new hO13 hv13 hvm13 hvl13 hN13)⟩
    case rest =>
    clear hB hI hbox hbig hbi2 hx0 hx1 hx2 hx3 hx4
    clear hw hx hg hwb hxb hgb
    obtain ⟨lh, hih, bh, ah, ch, rfl, rfl, hB, hI, hw, hx, hg, hh⟩ := hcut
    have hbox := hB.box
    have hbig := hB.big
    have hbi2 := hI.big
    have hx0 := hI.x0
    have hx1 := hI.x1
    have hx2 := hI.x2
    have hx3 := hI.x3
    have hx4 := hI.x4
    have hwb := hw.box
    have hxb := hx.box
    have hgb := hg.box
    have hhb := hh.box
    go_upto_region 25 with fail
    go_cut [95] (fun s0 wc => s0 = .bool false ∧ BrR w a n c U wc ∧ ItR w X wc ∧ Lq wc lw hiw bw aw N cw R ∧ Lq wc lx hix bx (some ⟨xb, 0, none⟩) n cx (fun q => 1 + (q : Int)) ∧ Lq wc lg hig bg ag N cg (fun q => 1 + (q : Int)))
    case first =>
      go_wp2_with (go_at_call 10; refine (eqBroad_same _ _ _ _ _ R _ hh.flat hw.flat hN20).mono ?_; rintro e w9 ⟨rfl, hb9⟩)
      go_meet
      exact ⟨rfl, hB.on hb9, hI.on hb9, hw.on hb9, hx.on hb9, hg.on hb9⟩
    case rest =>
    clear hB hI hbox hbig hbi2 hx0 hx1 hx2 hx3 hx4
    clear hw hx hg hwb hxb hgb
    clear hh hhb
    obtain ⟨rfl, hB, hI, hw, hx, hg⟩ := hcut
    have hbox := hB.box
    have hbig := hB.big
    have hbi2 := hI.big
    have hx0 := hI.x0
    have hx1 := hI.x1
    have hx2 := hI.x2
    have hx3 := hI.x3
    have hx4 := hI.x4
    have hwb := hw.box
    have hxb := hx.box
    have hgb := hg.box
    go_upto_region 28 with fail
    go_wp2_with (go_at_call 12; refine (heldBroad_any _ _ _ _ hg.flat (by omega)).mono ?_; rintro e w2 ⟨rfl, hb2⟩)
    go_ret
    exact ⟨rfl, (hB.on hb2).bel⟩
  · have h1 : (1048576 - (n : Int) < 0) := by omega
    go_enter Try.func3, Try.ntmps3
    go_wp2_with (go_at_call 5; refine (szBroad_any _ _ _ _ hn).mono ?_; rw [if_neg h20]; rintro e w1 ⟨rfl, hb1⟩)
    go_ret
    exact ⟨rfl, by repeat (first | with_reducible apply Below.refl | (with_reducible apply Below.setCell; rotate_left; focus (first | omega | (simp; done) | (simp; omega))) | (with_reducible apply Below.alloc; rotate_left; focus (first | omega | (simp; done) | (simp; omega))) | with_reducible apply Below.drew | with_reducible apply belowDrewN | (with_reducible apply Below.trans; rotate_left; with_reducible apply Below.mono; with_reducible assumption; focus (first | omega | (simp; done) | (simp; omega))))⟩
end Go.Proofs.Ytjmdmnhfdfppaaa
