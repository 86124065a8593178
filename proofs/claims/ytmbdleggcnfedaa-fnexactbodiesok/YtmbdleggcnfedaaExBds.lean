/- The exact laws of BodiesOk and Drives, walked. -/
import Derived.Test.YtmbdleggcnfedaaBdOkI
import Derived.Test.YtmbdleggcnfedaaSDrv
import Derived.Test.YtmbdleggcnfedaaLsBd
import Derived.Test.YtmbdleggcnfedaaExVec0
import Derived.Deep.RegionHeld3
import Derived.Deep.DeepCutAuto
namespace Go.Proofs.Ytmbdleggcnfedaa
open Go.RowKit
set_option linter.unusedVariables false
set_option linter.unusedSimpArgs false

set_option maxRecDepth 20000 in
set_option maxHeartbeats 4000000 in
theorem fnExactBodiesOk_walk (a : Option Addr) (n c : Nat) (U : Nat → Int) (w : World) (h : Flat w a (n * 12) U) (hn : (n : Int) ≤ 9223372036854775807) :
    Calls Try.prog 3 #[.slice a n c] w fun e w' => e = .returned (.bool true) ∧ Below w.heap.size w w' := by
  have hset := cset_map
  by_cases h20 : n ≤ 1048576
  · have h1 : ¬ (1048576 - (n : Int) < 0) := by omega
    go_enter Try.func3, Try.ntmps3
    go_upto_region 5 with (go_at_call 5; refine (szBodyS_any _ _ _ _ hn).mono ?_; rw [if_pos h20]; rintro e w0 ⟨rfl, rfl⟩)
    go_cut [4] (fun s4 wc => s4 = .bool (bodsB n U) ∧ Below w0.heap.size w0 wc)
    case first =>
      go_wp2_with (first
        | (go_at_call 7; refine (toBodyS_any _ _ _ U _ h h20).mono ?_; rintro e w2 ⟨b2, rfl, hl2, hr2, hb2⟩)
        | (go_at_call 6; refine (sBodiesOk_any _ _ _ U _ hr2.flat h20).mono ?_; rintro e w3 ⟨rfl, hb3⟩))
      go_meet
      exact ⟨rfl, hb2.trans (hb3.mono hb2.size)⟩
    case rest =>
    obtain ⟨rfl, hB⟩ := hcut
    go_upto_region 6 with fail
    go_cut [5] (fun s5 wd => ∃ b, s5 = .slice (some ⟨b, 0, none⟩) n n ∧ Row wd b 37 (n * 12) U ∧ Below w0.heap.size w0 wd)
    case first =>
      go_wp2_with (go_at_call 7; refine (toBodyS_any _ _ _ U _ (h.below hB) h20).mono ?_; rintro e w2 ⟨b2, rfl, hl2, hr2, hb2⟩)
      go_meet
      exact ⟨b2, rfl, hr2, hB.trans (hb2.mono hB.size)⟩
    case rest =>
    clear hB
    obtain ⟨b, rfl, hr, hB⟩ := hcut
    generalize hv : bodsB n U = v
    go_wp2_with (first
      | (go_at_call 8; refine (bodiesOk_q _ _ _ U v _ hr.flat h20 hv).mono ?_; rintro e w3 ⟨rfl, hb3⟩; have hr3 := hr.below hb3; have hB3 := hB.trans (hb3.mono hB.size))
      | (go_at_call 7; refine (toBodyS_any _ _ _ U _ (h.below hB3) h20).mono ?_; rintro e w4 ⟨b4, rfl, hl4, hr4, hb4⟩; have hr34 := hr3.below hb4; have hB4 := hB3.trans (hb4.mono hB3.size))
      | (go_at_call 9; refine (eqBodyS_same _ _ _ _ _ U _ hr34.flat hr4.flat h20).mono ?_; rintro e w5 ⟨rfl, hb5⟩))
    all_goals (try cases v)
    all_goals (first | (go_ret; exact ⟨rfl, hB4.trans (hb5.mono hB4.size)⟩) | skip)
  · have h1 : (1048576 - (n : Int) < 0) := by omega
    go_enter Try.func3, Try.ntmps3
    go_wp2_with (go_at_call 5; refine (szBodyS_any _ _ _ _ hn).mono ?_; rw [if_neg h20]; rintro e w0 ⟨rfl, rfl⟩)
    go_ret
    exact ⟨rfl, Below.refl _ _⟩

set_option maxRecDepth 20000 in
set_option maxHeartbeats 4000000 in
theorem fnExactDrives_walk (a : Option Addr) (n c : Nat) (U : Nat → Int) (w : World) (h : Flat w a (n * 12) U) (hn : (n : Int) ≤ 9223372036854775807) :
    Calls Try.prog 4 #[.slice a n c] w fun e w' => e = .returned (.bool true) ∧ Below w.heap.size w w' := by
  have hset := cset_map
  by_cases h20 : n ≤ 1048576
  · have h1 : ¬ (1048576 - (n : Int) < 0) := by omega
    go_enter Try.func4, Try.ntmps4
    go_upto_region 5 with (go_at_call 5; refine (szBodyS_any _ _ _ _ hn).mono ?_; rw [if_pos h20]; rintro e w0 ⟨rfl, rfl⟩)
    generalize hx : drX n U = x
    generalize hy : drY n U = y
    go_cut [4] (fun s4 wc => ∃ bx, s4 = .pointer (some ⟨bx, 0, none⟩) ∧ wc.cell? ⟨bx, 0, none⟩ = some (.int .i64 x) ∧ wc.cell? ⟨bx, 1, none⟩ = some (.int .i64 y) ∧ bx < wc.heap.size ∧ Below w0.heap.size w0 wc)
    case first =>
      go_wp2_with (first
        | (go_at_call 7; refine (toBodyS_any _ _ _ U _ h h20).mono ?_; rintro e w2 ⟨b2, rfl, hl2, hr2, hb2⟩)
        | (go_at_call 10; refine (sDrives_q _ _ _ U x y _ hr2.flat h20 hx hy).mono ?_; rintro e w3 ⟨rfl, hb3⟩))
      go_meet
      have hb03 : Below w0.heap.size w0 w3 := hb2.trans (hb3.mono hb2.size)
      exact ⟨_, rfl, by go_simp, by go_simp, by simp, hb03.alloc hb03.size _⟩
    case rest =>
    obtain ⟨bx, rfl, x0, x1, hxl, hB⟩ := hcut
    go_upto_region 6 with fail
    go_cut [5] (fun s5 wd => ∃ b, s5 = .slice (some ⟨b, 0, none⟩) n n ∧ Row wd b 37 (n * 12) U ∧ wd.cell? ⟨bx, 0, none⟩ = some (.int .i64 x) ∧ wd.cell? ⟨bx, 1, none⟩ = some (.int .i64 y) ∧ bx < wd.heap.size ∧ Below w0.heap.size w0 wd)
    case first =>
      go_wp2_with (go_at_call 7; refine (toBodyS_any _ _ _ U _ (h.below hB) h20).mono ?_; rintro e w2 ⟨b2, rfl, hl2, hr2, hb2⟩)
      go_meet
      exact ⟨b2, rfl, hr2, (hb2.cell (p := ⟨bx, 0, none⟩) hxl).trans x0, (hb2.cell (p := ⟨bx, 1, none⟩) hxl).trans x1, Nat.lt_of_lt_of_le hxl hb2.size, hB.trans (hb2.mono hB.size)⟩
    case rest =>
    clear hB x0 x1 hxl
    obtain ⟨b, rfl, hr, x0, x1, hxl, hB⟩ := hcut
    go_upto_region 7 with fail
    go_cut [6] (fun s6 we => ∃ by_, s6 = .pointer (some ⟨by_, 0, none⟩) ∧ we.cell? ⟨by_, 0, none⟩ = some (.int .i64 x) ∧ we.cell? ⟨by_, 1, none⟩ = some (.int .i64 y) ∧ we.cell? ⟨bx, 0, none⟩ = some (.int .i64 x) ∧ we.cell? ⟨bx, 1, none⟩ = some (.int .i64 y) ∧ Row we b 37 (n * 12) U ∧ Below w0.heap.size w0 we)
    case first =>
      go_wp2_with (go_at_call 11; refine (drives_q _ _ _ U x y _ hr.flat h20 hx hy).mono ?_; rintro e w3 ⟨rfl, hb3⟩; have hr3 := hr.below hb3; have x03 := (hb3.cell (p := ⟨bx, 0, none⟩) hxl).trans x0; have x13 := (hb3.cell (p := ⟨bx, 1, none⟩) hxl).trans x1; have hxl3 := Nat.lt_of_lt_of_le hxl hb3.size; have hB3 := hB.trans (hb3.mono hB.size))
      go_meet
      exact ⟨_, rfl, by go_simp, by go_simp, by go_simp, by go_simp, hr3.alloc _, hB3.alloc hB3.size _⟩
    case rest =>
    clear hB x0 x1 hxl hr
    obtain ⟨by_, rfl, y0, y1, x0, x1, hr, hB⟩ := hcut
    go_wp2_with (first
      | (go_at_call 12; refine (eqVec_same _ _ _).mono ?_; rintro e w3 ⟨rfl, hb3⟩; have hr3 := hr.below hb3; have hB3 := hB.trans (hb3.mono hB.size))
      | (go_at_call 7; refine (toBodyS_any _ _ _ U _ (h.below hB3) h20).mono ?_; rintro e w4 ⟨b4, rfl, hl4, hr4, hb4⟩; have hr34 := hr3.below hb4; have hB4 := hB3.trans (hb4.mono hB3.size))
      | (go_at_call 9; refine (eqBodyS_same _ _ _ _ _ U _ hr34.flat hr4.flat h20).mono ?_; rintro e w5 ⟨rfl, hb5⟩))
    go_ret
    exact ⟨rfl, hB4.trans (hb5.mono hB4.size)⟩
  · have h1 : (1048576 - (n : Int) < 0) := by omega
    go_enter Try.func4, Try.ntmps4
    go_wp2_with (go_at_call 5; refine (szBodyS_any _ _ _ _ hn).mono ?_; rw [if_neg h20]; rintro e w0 ⟨rfl, rfl⟩)
    go_ret
    exact ⟨rfl, Below.refl _ _⟩
end Go.Proofs.Ytmbdleggcnfedaa
