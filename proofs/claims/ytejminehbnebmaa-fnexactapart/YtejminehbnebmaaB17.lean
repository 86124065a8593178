/- Lists of bodies: turned into the program's own, held against each other, how great. Contacts: marked, held; Contacts of both sides. All that is too deep in another one moved apart, by the program. -/
import Derived.Test.YtejminehbnebmaaB12
import Derived.Test.YtejminehbnebmaaB1
import Derived.Test.YtejminehbnebmaaB2
import Derived.Test.YtejminehbnebmaaB3
import Derived.Deep.RegionHeld3
import Derived.Deep.DeepCutAuto
import Derived.Test.YtejminehbnebmaaB16
import Derived.Test.YtejminehbnebmaaB10
import Derived.Test.YtejminehbnebmaaB15
namespace Go.Proofs.Ytejminehbnebmaa
open Go.RowKit
set_option linter.unusedVariables false
set_option linter.unusedSimpArgs false

abbrev zeroBd : Value := .agg #[.int .i64 0, .int .i64 0, .int .i64 0, .int .i64 0, .int .i64 0, .int .i64 0, .int .i64 0, .int .i64 0, .int .i64 0, .int .i64 0, .int .i64 0, .int .i64 0]
theorem makeBodies (n : Nat) (hn : n ≤ 1048576) (w : World) : (Instr.makeSlice 26 (.int .i64 (n : Int)) (.int .i64 (n : Int))).run Try.prog w = .ok (.slice (some ⟨w.heap.size, 0, none⟩) n n) (w.alloc (.cells (madeCells zeroBd.cells (n * 12)) 43)) :=
  make_rows _ _ zeroBd 12 96 Try.underlying26 (by kernel_rfl) _ _ n (by omega) (by omega) w
set_option maxRecDepth 20000 in
set_option maxHeartbeats 2000000 in
theorem toBodyS_any (a : Option Addr) (n c : Nat) (U : Nat → Int) (w : World) (h : Flat w a (n * 12) U) (hn : n ≤ 1048576) :
    Calls Try.prog 7 #[.slice a n c] w fun e w' => ∃ b, e = .returned (.slice (some ⟨b, 0, none⟩) n n) ∧ w.heap.size ≤ b ∧ Row w' b 43 (n * 12) U ∧ Below w.heap.size w w' := by
  have hmk := makeBodies n hn
  go_enter Try.func7, Try.ntmps7
  go_wp2
  clear hmk
  go_loopw [4] (fun i wr => ∃ k : Nat, k ≤ n ∧ i = .int .i64 (k : Int) ∧ Row wr w.heap.size 43 (n * 12) (upto (k * 12) U) ∧ Below w.heap.size w wr) (fun i _ => n - (intOf i).toNat)
  case atStart => exact ⟨0, Nat.zero_le _, rfl, (Row.madek w _ 12 _ _ rfl (by decide) U).cut (by omega), (Below.refl _ _).alloc (Nat.le_refl _) _⟩
  case round =>
    obtain ⟨k, hk, rfl, hr, hbel⟩ := hrel
    have hrl := hr.lt
    by_cases hlt : k < n
    · obtain ⟨b, o, rfl, hbl, hc⟩ := (h.below hbel) (by omega)
      have c0 := hc (k * 12) (by omega)
      have c1 := hc (k * 12 + 1) (by omega)
      have c2 := hc (k * 12 + 2) (by omega)
      have c3 := hc (k * 12 + 3) (by omega)
      have c4 := hc (k * 12 + 4) (by omega)
      have c5 := hc (k * 12 + 5) (by omega)
      have c6 := hc (k * 12 + 6) (by omega)
      have c7 := hc (k * 12 + 7) (by omega)
      have c8 := hc (k * 12 + 8) (by omega)
      have c9 := hc (k * 12 + 9) (by omega)
      have c10 := hc (k * 12 + 10) (by omega)
      have c11 := hc (k * 12 + 11) (by omega)
      simp only [← Nat.add_assoc] at c0 c1 c2 c3 c4 c5 c6 c7 c8 c9 c10 c11
      clear hc h
      go_wp2_with (go_at_call 18; refine (toBody_any (fun j => U (k * 12 + j)) _).mono ?_; rintro e w1 ⟨rfl, hb1⟩; have hr1 := hr.below hb1; have f1 := hr1.fro; (have e0 := hr1.cell (q := k * 12) (by omega)); (have e1 := hr1.cell (q := k * 12 + 1) (by omega)); (have e2 := hr1.cell (q := k * 12 + 2) (by omega)); (have e3 := hr1.cell (q := k * 12 + 3) (by omega)); (have e4 := hr1.cell (q := k * 12 + 4) (by omega)); (have e5 := hr1.cell (q := k * 12 + 5) (by omega)); (have e6 := hr1.cell (q := k * 12 + 6) (by omega)); (have e7 := hr1.cell (q := k * 12 + 7) (by omega)); (have e8 := hr1.cell (q := k * 12 + 8) (by omega)); (have e9 := hr1.cell (q := k * 12 + 9) (by omega)); (have e10 := hr1.cell (q := k * 12 + 10) (by omega)); (have e11 := hr1.cell (q := k * 12 + 11) (by omega)))
      go_roundw
      case rel => exact ⟨k + 1, by omega, by go_num, (((((((((((((hr1).next).next).next).next).next).next).next).next).next).next).next).next).cut (by omega), bel_a⟩
      case measure => simp [intOf]; omega
    · go_wp2
      go_ret
      exact ⟨_, rfl, Nat.le_refl _, hr.full (by omega), hbel⟩
theorem eqShapeL_same (a b c : Int) (w : World) :
    Calls Try.prog 39 #[s3 a b c, s3 a b c] w fun e w' => e = .returned (.bool true) ∧ Below w.heap.size w w' := by
  have hset := cset_map
  go_enter Try.func39, Try.ntmps39
  go_wp2
  go_ret
  exact ⟨rfl, bel_a⟩
set_option maxRecDepth 20000 in
set_option maxHeartbeats 2000000 in
theorem eqBody_same (V : Nat → Int) (w : World) :
    Calls Try.prog 23 #[bodyW V, bodyW V] w fun e w' => e = .returned (.bool true) ∧ Below w.heap.size w w' := by
  have hset := cset_map
  go_enter Try.func23, Try.ntmps23
  go_wp2_with (first
    | (go_at_call 39; refine (eqShapeL_same _ _ _ _).mono ?_; rintro e w1 ⟨rfl, hb1⟩; obtain ⟨hc1, hf1⟩ := bcell hb1; have hz1 := hb1.size; (try simp only [World.size_drew, World.size_alloc, World.size_setCell] at hc1 hf1 hz1); (try have hq1x0 : w.heap.size < w1.heap.size := (by omega)); (try have hq1x1 : w.heap.size + 1 < w1.heap.size := (by omega)); have hk1 := fun o => hc1 w.heap.size o (by omega); have hk2 := fun o => hc1 (w.heap.size + 1) o (by omega); clear hc1 hf1)
    | (have _ := hq2x0; (go_at_call 40; refine (eqVec_same _ _ _).mono ?_; rintro e w3 ⟨rfl, hb3⟩; obtain ⟨hc3, hf3⟩ := bcell hb3; have hz3 := hb3.size; (try simp only [World.size_drew, World.size_alloc, World.size_setCell] at hc3 hf3 hz3); have hk5 := fun o => hc3 w.heap.size o (by omega); have hk6 := fun o => hc3 (w.heap.size + 1) o (by omega); clear hc3 hf3))
    | (go_at_call 40; refine (eqVec_same _ _ _).mono ?_; rintro e w2 ⟨rfl, hb2⟩; obtain ⟨hc2, hf2⟩ := bcell hb2; have hz2 := hb2.size; (try simp only [World.size_drew, World.size_alloc, World.size_setCell] at hc2 hf2 hz2); have hq2x0 : w.heap.size < w2.heap.size := (by omega); have hq2x1 : w.heap.size + 1 < w2.heap.size := (by omega); have hk3 := fun o => hc2 w.heap.size o (by omega); have hk4 := fun o => hc2 (w.heap.size + 1) o (by omega); clear hc2 hf2))
  go_ret
  exact ⟨rfl, bel_a⟩
set_option maxRecDepth 20000 in
set_option maxHeartbeats 2000000 in
theorem eqBodyS_same (a a' : Option Addr) (n c c' : Nat) (U : Nat → Int) (w : World) (h : Flat w a (n * 12) U) (h' : Flat w a' (n * 12) U) (hn : n ≤ 1048576) :
    Calls Try.prog 10 #[.slice a n c, .slice a' n c'] w fun e w' => e = .returned (.bool true) ∧ Below w.heap.size w w' := by
  go_enter Try.func10, Try.ntmps10
  go_wp2
  go_loopw [5] (fun i wr => ∃ k : Nat, k ≤ n ∧ i = .int .i64 (k : Int) ∧ Below w.heap.size w wr) (fun i _ => n - (intOf i).toNat)
  case atStart => exact ⟨0, Nat.zero_le _, rfl, Below.refl _ _⟩
  case round =>
    obtain ⟨k, hk, rfl, hB⟩ := hrel
    by_cases hlt : k < n
    · have hkn : (k : Int) < (n : Int) := by omega
      obtain ⟨b, o, rfl, hbl, hc⟩ := (h.below hB) (by omega)
      obtain ⟨b', o', rfl, hbl', hc'⟩ := (h'.below hB) (by omega)
      have c0 := hc (k * 12 + 0) (by omega)
      have d0 := hc' (k * 12 + 0) (by omega)
      have c1 := hc (k * 12 + 1) (by omega)
      have d1 := hc' (k * 12 + 1) (by omega)
      have c2 := hc (k * 12 + 2) (by omega)
      have d2 := hc' (k * 12 + 2) (by omega)
      have c3 := hc (k * 12 + 3) (by omega)
      have d3 := hc' (k * 12 + 3) (by omega)
      have c4 := hc (k * 12 + 4) (by omega)
      have d4 := hc' (k * 12 + 4) (by omega)
      have c5 := hc (k * 12 + 5) (by omega)
      have d5 := hc' (k * 12 + 5) (by omega)
      have c6 := hc (k * 12 + 6) (by omega)
      have d6 := hc' (k * 12 + 6) (by omega)
      have c7 := hc (k * 12 + 7) (by omega)
      have d7 := hc' (k * 12 + 7) (by omega)
      have c8 := hc (k * 12 + 8) (by omega)
      have d8 := hc' (k * 12 + 8) (by omega)
      have c9 := hc (k * 12 + 9) (by omega)
      have d9 := hc' (k * 12 + 9) (by omega)
      have c10 := hc (k * 12 + 10) (by omega)
      have d10 := hc' (k * 12 + 10) (by omega)
      have c11 := hc (k * 12 + 11) (by omega)
      have d11 := hc' (k * 12 + 11) (by omega)
      simp only [← Nat.add_assoc, Nat.add_zero] at c0 d0 c1 d1 c2 d2 c3 d3 c4 d4 c5 d5 c6 d6 c7 d7 c8 d8 c9 d9 c10 d10 c11 d11
      clear hc hc' h h'
      go_upto_region 6 with fail
      refine wp_region_held_drew (S := fun w' => w'.cell? ⟨b, o + k * 12, none⟩ = some (.int .i64 (U (k * 12))) ∧ w'.cell? ⟨b, o + k * 12 + 1, none⟩ = some (.int .i64 (U (k * 12 + 1))) ∧ w'.cell? ⟨b, o + k * 12 + 2, none⟩ = some (.int .i64 (U (k * 12 + 2))) ∧ w'.cell? ⟨b, o + k * 12 + 3, none⟩ = some (.int .i64 (U (k * 12 + 3))) ∧ w'.cell? ⟨b, o + k * 12 + 4, none⟩ = some (.int .i64 (U (k * 12 + 4))) ∧ w'.cell? ⟨b, o + k * 12 + 5, none⟩ = some (.int .i64 (U (k * 12 + 5))) ∧ w'.cell? ⟨b, o + k * 12 + 6, none⟩ = some (.int .i64 (U (k * 12 + 6))) ∧ w'.cell? ⟨b, o + k * 12 + 7, none⟩ = some (.int .i64 (U (k * 12 + 7))) ∧ w'.cell? ⟨b, o + k * 12 + 8, none⟩ = some (.int .i64 (U (k * 12 + 8))) ∧ w'.cell? ⟨b, o + k * 12 + 9, none⟩ = some (.int .i64 (U (k * 12 + 9))) ∧ w'.cell? ⟨b, o + k * 12 + 10, none⟩ = some (.int .i64 (U (k * 12 + 10))) ∧ w'.cell? ⟨b, o + k * 12 + 11, none⟩ = some (.int .i64 (U (k * 12 + 11))) ∧ w'.cell? ⟨b', o' + k * 12, none⟩ = some (.int .i64 (U (k * 12))) ∧ w'.cell? ⟨b', o' + k * 12 + 1, none⟩ = some (.int .i64 (U (k * 12 + 1))) ∧ w'.cell? ⟨b', o' + k * 12 + 2, none⟩ = some (.int .i64 (U (k * 12 + 2))) ∧ w'.cell? ⟨b', o' + k * 12 + 3, none⟩ = some (.int .i64 (U (k * 12 + 3))) ∧ w'.cell? ⟨b', o' + k * 12 + 4, none⟩ = some (.int .i64 (U (k * 12 + 4))) ∧ w'.cell? ⟨b', o' + k * 12 + 5, none⟩ = some (.int .i64 (U (k * 12 + 5))) ∧ w'.cell? ⟨b', o' + k * 12 + 6, none⟩ = some (.int .i64 (U (k * 12 + 6))) ∧ w'.cell? ⟨b', o' + k * 12 + 7, none⟩ = some (.int .i64 (U (k * 12 + 7))) ∧ w'.cell? ⟨b', o' + k * 12 + 8, none⟩ = some (.int .i64 (U (k * 12 + 8))) ∧ w'.cell? ⟨b', o' + k * 12 + 9, none⟩ = some (.int .i64 (U (k * 12 + 9))) ∧ w'.cell? ⟨b', o' + k * 12 + 10, none⟩ = some (.int .i64 (U (k * 12 + 10))) ∧ w'.cell? ⟨b', o' + k * 12 + 11, none⟩ = some (.int .i64 (U (k * 12 + 11)))) (by kernel_rfl) ?_ (fun hHeld => ?_)
      · (try dsimp only)
        (first | (go_simp; done) | (go_keep; done))
      refine tq 0 hHeld ?_
      refine tq 1 hHeld ?_
      refine tq 2 hHeld ?_
      refine tq 3 hHeld ?_
      refine tq 4 hHeld ?_
      refine tq 5 hHeld ?_
      refine tq 6 hHeld ?_
      refine tq 7 hHeld ?_
      (refine tc 8 fun K hK => ?_; go_simp; (go_at_call 23; refine (eqBody_same (fun j => U (k * 12 + j)) _).mono ?_; rintro e w1 ⟨rfl, hb1⟩; obtain ⟨hc1, hf1⟩ := bcell hb1; have hz1 := hb1.size; (try simp only [World.size_drew, World.size_alloc, World.size_setCell] at hc1 hf1 hz1); have hk1 := fun o => hc1 b o (by omega); have hk2 := fun o => hc1 b' o (by omega); clear hc1 hf1); (try go_wp2_with fail); refine tr hK (fun hHeld => ?_); clear hK K)
      refine tq 9 hHeld ?_
      refine wpAnyH_done (by kernel_rfl) ?_ _
      go_wp2_with fail
      go_roundw
      case rel => exact ⟨k + 1, by omega, by go_num, hB.trans (hb1.ofDr.mono hB.size)⟩
      case measure => simp [intOf]; omega
    · go_wp2
      go_ret
      exact ⟨rfl, hB⟩
theorem szBodyS_any (a : Option Addr) (n c : Nat) (w : World) (hn : (n : Int) ≤ 9223372036854775807) :
    Calls Try.prog 4 #[.slice a n c, .int .i64 1048576] w fun e w' => e = .returned (.int .i64 (if n ≤ 1048576 then 1048576 - (n : Int) else -1)) ∧ w' = w := by
  by_cases h : n ≤ 1048576
  · have h1 : ¬ (1048576 - (n : Int) < 0) := by omega
    have h2 : IntKind.i64.wrap (1048576 - (n : Int)) = 1048576 - (n : Int) := i64w (by omega)
    go_enter Try.func4, Try.ntmps4
    go_wp2
    go_ret
    exact ⟨by first | rfl | (rw [if_pos h]; rfl) | simp [h], rfl⟩
  · have h1 : (1048576 - (n : Int) < 0) := by omega
    have h2 : IntKind.i64.wrap (1048576 - (n : Int)) = 1048576 - (n : Int) := i64w (by omega)
    go_enter Try.func4, Try.ntmps4
    go_wp2
    go_ret
    exact ⟨by first | rfl | (rw [if_neg h]; rfl) | simp [h], rfl⟩
end Go.Proofs.Ytejminehbnebmaa
namespace Go.Proofs.Ytejminehbnebmaa
open Go.RowKit
set_option linter.unusedVariables false
set_option linter.unusedSimpArgs false
theorem markBody12 {w wr : World} {base g n c j : Nat} {U : Nat → Int} (hlt : j < n) (ho : OwnL wr base 43 12 (.slice (some ⟨g, 0, none⟩) n c) n (mixU (j * 12) U)) (hg : w.grownBy wr (Value.slice (some ⟨g, 0, none⟩) n c).ownBlock) :
    OwnL ((((((((((((wr.setCell ⟨g, j * 12, none⟩ (.int .i64 (1 + (j : Int) * 12))).setCell ⟨g, j * 12 + 1, none⟩ (.int .i64 (1 + (j : Int) * 12 + 1))).setCell ⟨g, j * 12 + 2, none⟩ (.int .i64 (1 + (j : Int) * 12 + 1 + 1))).setCell ⟨g, j * 12 + 3, none⟩ (.int .i64 (1 + (j : Int) * 12 + 1 + 1 + 1))).setCell ⟨g, j * 12 + 4, none⟩ (.int .i64 (1 + (j : Int) * 12 + 1 + 1 + 1 + 1))).setCell ⟨g, j * 12 + 5, none⟩ (.int .i64 (1 + (j : Int) * 12 + 1 + 1 + 1 + 1 + 1))).setCell ⟨g, j * 12 + 6, none⟩ (.int .i64 (1 + (j : Int) * 12 + 1 + 1 + 1 + 1 + 1 + 1))).setCell ⟨g, j * 12 + 7, none⟩ (.int .i64 (1 + (j : Int) * 12 + 1 + 1 + 1 + 1 + 1 + 1 + 1))).setCell ⟨g, j * 12 + 8, none⟩ (.int .i64 (1 + (j : Int) * 12 + 1 + 1 + 1 + 1 + 1 + 1 + 1 + 1))).setCell ⟨g, j * 12 + 9, none⟩ (.int .i64 (1 + (j : Int) * 12 + 1 + 1 + 1 + 1 + 1 + 1 + 1 + 1 + 1))).setCell ⟨g, j * 12 + 10, none⟩ (.int .i64 (1 + (j : Int) * 12 + 1 + 1 + 1 + 1 + 1 + 1 + 1 + 1 + 1 + 1))).setCell ⟨g, j * 12 + 11, none⟩ (.int .i64 (1 + (j : Int) * 12 + 1 + 1 + 1 + 1 + 1 + 1 + 1 + 1 + 1 + 1 + 1))) base 43 12 (.slice (some ⟨g, 0, none⟩) n c) n (mixU ((j + 1) * 12) U) ∧
    w.grownBy ((((((((((((wr.setCell ⟨g, j * 12, none⟩ (.int .i64 (1 + (j : Int) * 12))).setCell ⟨g, j * 12 + 1, none⟩ (.int .i64 (1 + (j : Int) * 12 + 1))).setCell ⟨g, j * 12 + 2, none⟩ (.int .i64 (1 + (j : Int) * 12 + 1 + 1))).setCell ⟨g, j * 12 + 3, none⟩ (.int .i64 (1 + (j : Int) * 12 + 1 + 1 + 1))).setCell ⟨g, j * 12 + 4, none⟩ (.int .i64 (1 + (j : Int) * 12 + 1 + 1 + 1 + 1))).setCell ⟨g, j * 12 + 5, none⟩ (.int .i64 (1 + (j : Int) * 12 + 1 + 1 + 1 + 1 + 1))).setCell ⟨g, j * 12 + 6, none⟩ (.int .i64 (1 + (j : Int) * 12 + 1 + 1 + 1 + 1 + 1 + 1))).setCell ⟨g, j * 12 + 7, none⟩ (.int .i64 (1 + (j : Int) * 12 + 1 + 1 + 1 + 1 + 1 + 1 + 1))).setCell ⟨g, j * 12 + 8, none⟩ (.int .i64 (1 + (j : Int) * 12 + 1 + 1 + 1 + 1 + 1 + 1 + 1 + 1))).setCell ⟨g, j * 12 + 9, none⟩ (.int .i64 (1 + (j : Int) * 12 + 1 + 1 + 1 + 1 + 1 + 1 + 1 + 1 + 1))).setCell ⟨g, j * 12 + 10, none⟩ (.int .i64 (1 + (j : Int) * 12 + 1 + 1 + 1 + 1 + 1 + 1 + 1 + 1 + 1 + 1))).setCell ⟨g, j * 12 + 11, none⟩ (.int .i64 (1 + (j : Int) * 12 + 1 + 1 + 1 + 1 + 1 + 1 + 1 + 1 + 1 + 1 + 1))) (Value.slice (some ⟨g, 0, none⟩) n c).ownBlock := by
  have q1 := ho.mark (by omega) (x := 1 + (j : Int) * 12) (by omega)
  have q2 := q1.mark (by omega) (x := 1 + (j : Int) * 12 + 1) (by omega)
  have q3 := q2.mark (by omega) (x := 1 + (j : Int) * 12 + 1 + 1) (by omega)
  have q4 := q3.mark (by omega) (x := 1 + (j : Int) * 12 + 1 + 1 + 1) (by omega)
  have q5 := q4.mark (by omega) (x := 1 + (j : Int) * 12 + 1 + 1 + 1 + 1) (by omega)
  have q6 := q5.mark (by omega) (x := 1 + (j : Int) * 12 + 1 + 1 + 1 + 1 + 1) (by omega)
  have q7 := q6.mark (by omega) (x := 1 + (j : Int) * 12 + 1 + 1 + 1 + 1 + 1 + 1) (by omega)
  have q8 := q7.mark (by omega) (x := 1 + (j : Int) * 12 + 1 + 1 + 1 + 1 + 1 + 1 + 1) (by omega)
  have q9 := q8.mark (by omega) (x := 1 + (j : Int) * 12 + 1 + 1 + 1 + 1 + 1 + 1 + 1 + 1) (by omega)
  have q10 := q9.mark (by omega) (x := 1 + (j : Int) * 12 + 1 + 1 + 1 + 1 + 1 + 1 + 1 + 1 + 1) (by omega)
  have q11 := q10.mark (by omega) (x := 1 + (j : Int) * 12 + 1 + 1 + 1 + 1 + 1 + 1 + 1 + 1 + 1 + 1) (by omega)
  have q12 := q11.mark (by omega) (x := 1 + (j : Int) * 12 + 1 + 1 + 1 + 1 + 1 + 1 + 1 + 1 + 1 + 1 + 1) (by omega)
  refine ⟨?_, ?_⟩
  · exact q12.congr fun q _ => by rw [show j * 12 + 1 + 1 + 1 + 1 + 1 + 1 + 1 + 1 + 1 + 1 + 1 + 1 = ((j + 1) * 12) from by omega]
  · have h0 : w.grownBy wr (some g) := hg
    exact (grown_trans (grown_trans (grown_trans (grown_trans (grown_trans (grown_trans (grown_trans (grown_trans (grown_trans (grown_trans (grown_trans (grown_trans h0 (grown_setG _ _ _ _)) (grown_setG _ _ _ _)) (grown_setG _ _ _ _)) (grown_setG _ _ _ _)) (grown_setG _ _ _ _)) (grown_setG _ _ _ _)) (grown_setG _ _ _ _)) (grown_setG _ _ _ _)) (grown_setG _ _ _ _)) (grown_setG _ _ _ _)) (grown_setG _ _ _ _)) (grown_setG _ _ _ _))
set_option maxRecDepth 20000 in
set_option maxHeartbeats 2000000 in
theorem markBodyS_any (base : Nat) (a : Option Addr) (n c : Nat) (U : Nat → Int) (w : World) (h : OwnL w base 43 12 (.slice a n c) n U) (hn : n ≤ 2097152) :
    Calls Try.prog 12 #[.slice a n c, .int .i64 1] w fun e w' => e = .returned (.int .i64 (1 + (n : Int) * 12)) ∧ OwnL w' base 43 12 (.slice a n c) n (fun q => 1 + (q : Int)) ∧ w.grownBy w' (Value.slice a n c).ownBlock := by
  have hset := cset_map
  go_enter Try.func12, Try.ntmps12
  go_wp2
  go_loopw [1, 5] (fun s i wr => ∃ j : Nat, j ≤ n ∧ i = .int .i64 (j : Int) ∧ s = .int .i64 (1 + (j : Int) * 12) ∧ OwnL wr base 43 12 (.slice a n c) n (mixU (j * 12) U) ∧ w.grownBy wr (Value.slice a n c).ownBlock) (fun _ i _ => n - (intOf i).toNat)
  case atStart => exact ⟨0, Nat.zero_le _, rfl, rfl, h.congr (fun q _ => by simp [mixU]), grown_refl _ _⟩
  case round =>
    obtain ⟨j, hj, rfl, rfl, ho, hg⟩ := hrel
    by_cases hlt : j < n
    · have hjn : (j : Int) < (n : Int) := by omega
      obtain ⟨g, rfl, hgb, hgl⟩ := ho.loc (by omega)
      have c0 := ho.cellq (q := j * 12) (by omega)
      have c1 := ho.cellq (q := j * 12 + 1) (by omega)
      have c2 := ho.cellq (q := j * 12 + 2) (by omega)
      have c3 := ho.cellq (q := j * 12 + 3) (by omega)
      have c4 := ho.cellq (q := j * 12 + 4) (by omega)
      have c5 := ho.cellq (q := j * 12 + 5) (by omega)
      have c6 := ho.cellq (q := j * 12 + 6) (by omega)
      have c7 := ho.cellq (q := j * 12 + 7) (by omega)
      have c8 := ho.cellq (q := j * 12 + 8) (by omega)
      have c9 := ho.cellq (q := j * 12 + 9) (by omega)
      have c10 := ho.cellq (q := j * 12 + 10) (by omega)
      have c11 := ho.cellq (q := j * 12 + 11) (by omega)
      have f0 := ho.fro
      go_wp2
      go_roundw
      case rel =>
        obtain ⟨r1, r2⟩ := markBody12 hlt ho hg
        exact ⟨j + 1, by omega, by go_num, congrArg (Value.int .i64) (by omega), r1, r2⟩
      case measure => simp [intOf]; omega
    · obtain rfl : j = n := by omega
      go_wp2
      go_ret
      exact ⟨rfl, ho.congr (fun q hq => by simp only [mixU]; rw [if_pos (by omega)]), hg⟩
theorem markContact5 {w wr : World} {base g n c j : Nat} {U : Nat → Int} (hlt : j < n) (ho : OwnL wr base 52 5 (.slice (some ⟨g, 0, none⟩) n c) n (mixU (j * 5) U)) (hg : w.grownBy wr (Value.slice (some ⟨g, 0, none⟩) n c).ownBlock) :
    OwnL (((((wr.setCell ⟨g, j * 5, none⟩ (.int .i64 (1 + (j : Int) * 5))).setCell ⟨g, j * 5 + 1, none⟩ (.int .i64 (1 + (j : Int) * 5 + 1))).setCell ⟨g, j * 5 + 2, none⟩ (.int .i64 (1 + (j : Int) * 5 + 1 + 1))).setCell ⟨g, j * 5 + 3, none⟩ (.int .i64 (1 + (j : Int) * 5 + 1 + 1 + 1))).setCell ⟨g, j * 5 + 4, none⟩ (.int .i64 (1 + (j : Int) * 5 + 1 + 1 + 1 + 1))) base 52 5 (.slice (some ⟨g, 0, none⟩) n c) n (mixU ((j + 1) * 5) U) ∧
    w.grownBy (((((wr.setCell ⟨g, j * 5, none⟩ (.int .i64 (1 + (j : Int) * 5))).setCell ⟨g, j * 5 + 1, none⟩ (.int .i64 (1 + (j : Int) * 5 + 1))).setCell ⟨g, j * 5 + 2, none⟩ (.int .i64 (1 + (j : Int) * 5 + 1 + 1))).setCell ⟨g, j * 5 + 3, none⟩ (.int .i64 (1 + (j : Int) * 5 + 1 + 1 + 1))).setCell ⟨g, j * 5 + 4, none⟩ (.int .i64 (1 + (j : Int) * 5 + 1 + 1 + 1 + 1))) (Value.slice (some ⟨g, 0, none⟩) n c).ownBlock := by
  have q1 := ho.mark (by omega) (x := 1 + (j : Int) * 5) (by omega)
  have q2 := q1.mark (by omega) (x := 1 + (j : Int) * 5 + 1) (by omega)
  have q3 := q2.mark (by omega) (x := 1 + (j : Int) * 5 + 1 + 1) (by omega)
  have q4 := q3.mark (by omega) (x := 1 + (j : Int) * 5 + 1 + 1 + 1) (by omega)
  have q5 := q4.mark (by omega) (x := 1 + (j : Int) * 5 + 1 + 1 + 1 + 1) (by omega)
  refine ⟨?_, ?_⟩
  · exact q5.congr fun q _ => by rw [show j * 5 + 1 + 1 + 1 + 1 + 1 = ((j + 1) * 5) from by omega]
  · have h0 : w.grownBy wr (some g) := hg
    exact (grown_trans (grown_trans (grown_trans (grown_trans (grown_trans h0 (grown_setG _ _ _ _)) (grown_setG _ _ _ _)) (grown_setG _ _ _ _)) (grown_setG _ _ _ _)) (grown_setG _ _ _ _))
set_option maxRecDepth 20000 in
set_option maxHeartbeats 2000000 in
theorem markContactS_any (base : Nat) (a : Option Addr) (n c : Nat) (U : Nat → Int) (w : World) (h : OwnL w base 52 5 (.slice a n c) n U) (hn : n ≤ 2097152) :
    Calls Try.prog 13 #[.slice a n c, .int .i64 1] w fun e w' => e = .returned (.int .i64 (1 + (n : Int) * 5)) ∧ OwnL w' base 52 5 (.slice a n c) n (fun q => 1 + (q : Int)) ∧ w.grownBy w' (Value.slice a n c).ownBlock := by
  have hset := cset_map
  go_enter Try.func13, Try.ntmps13
  go_wp2
  go_loopw [1, 5] (fun s i wr => ∃ j : Nat, j ≤ n ∧ i = .int .i64 (j : Int) ∧ s = .int .i64 (1 + (j : Int) * 5) ∧ OwnL wr base 52 5 (.slice a n c) n (mixU (j * 5) U) ∧ w.grownBy wr (Value.slice a n c).ownBlock) (fun _ i _ => n - (intOf i).toNat)
  case atStart => exact ⟨0, Nat.zero_le _, rfl, rfl, h.congr (fun q _ => by simp [mixU]), grown_refl _ _⟩
  case round =>
    obtain ⟨j, hj, rfl, rfl, ho, hg⟩ := hrel
    by_cases hlt : j < n
    · have hjn : (j : Int) < (n : Int) := by omega
      obtain ⟨g, rfl, hgb, hgl⟩ := ho.loc (by omega)
      have c0 := ho.cellq (q := j * 5) (by omega)
      have c1 := ho.cellq (q := j * 5 + 1) (by omega)
      have c2 := ho.cellq (q := j * 5 + 2) (by omega)
      have c3 := ho.cellq (q := j * 5 + 3) (by omega)
      have c4 := ho.cellq (q := j * 5 + 4) (by omega)
      have f0 := ho.fro
      go_wp2
      go_roundw
      case rel =>
        obtain ⟨r1, r2⟩ := markContact5 hlt ho hg
        exact ⟨j + 1, by omega, by go_num, congrArg (Value.int .i64) (by omega), r1, r2⟩
      case measure => simp [intOf]; omega
    · obtain rfl : j = n := by omega
      go_wp2
      go_ret
      exact ⟨rfl, ho.congr (fun q hq => by simp only [mixU]; rw [if_pos (by omega)]), hg⟩
set_option maxHeartbeats 4000000 in
theorem eqHitL_same (x y k : Int) (w : World) :
    Calls Try.prog 41 #[s3 x y k, s3 x y k] w fun e w' => e = .returned (.bool true) ∧ Below w.heap.size w w' := by
  have hset := cset_map
  go_enter Try.func41, Try.ntmps41
  go_wp2_with (go_at_call 40; refine (eqVec_same _ _ _).mono ?_; rintro e w1 ⟨rfl, hb1⟩; obtain ⟨hc1, hf1⟩ := bcell hb1; have hz1 := hb1.size; (try simp only [World.size_drew, World.size_alloc, World.size_setCell] at hc1 hf1 hz1); have hk1x0 := fun o => hc1 w.heap.size o (by omega); have hk1x1 := fun o => hc1 (w.heap.size + 1) o (by omega); clear hc1 hf1)
  go_ret
  exact ⟨rfl, bel_a⟩
abbrev conW (V : Nat → Int) : Value := .agg #[.int .i64 (V 0), .int .i64 (V 1), .int .i64 (V 2), .int .i64 (V 3), .int .i64 (V 4)]
set_option maxHeartbeats 4000000 in
theorem eqContact_same (V : Nat → Int) (w : World) :
    Calls Try.prog 24 #[conW V, conW V] w fun e w' => e = .returned (.bool true) ∧ Below w.heap.size w w' := by
  have hset := cset_map
  go_enter Try.func24, Try.ntmps24
  go_wp2_with (go_at_call 41; refine (eqHitL_same _ _ _ _).mono ?_; rintro e w1 ⟨rfl, hb1⟩; obtain ⟨hc1, hf1⟩ := bcell hb1; have hz1 := hb1.size; (try simp only [World.size_drew, World.size_alloc, World.size_setCell] at hc1 hf1 hz1); clear hc1 hf1)
  go_ret
  exact ⟨rfl, bel_a⟩
set_option maxRecDepth 20000 in
set_option maxHeartbeats 2000000 in
theorem eqContactS_same (a a' : Option Addr) (n c c' : Nat) (U : Nat → Int) (w : World) (h : Flat w a (n * 5) U) (h' : Flat w a' (n * 5) U) (hn : n ≤ 1048576) :
    Calls Try.prog 11 #[.slice a n c, .slice a' n c'] w fun e w' => e = .returned (.bool true) ∧ Below w.heap.size w w' := by
  have hset := cset_map
  go_enter Try.func11, Try.ntmps11
  go_wp2
  go_loopw [5] (fun i wr => ∃ k : Nat, k ≤ n ∧ i = .int .i64 (k : Int) ∧ Below w.heap.size w wr) (fun i _ => n - (intOf i).toNat)
  case atStart => exact ⟨0, Nat.zero_le _, rfl, Below.refl _ _⟩
  case round =>
    obtain ⟨k, hk, rfl, hB⟩ := hrel
    by_cases hlt : k < n
    · have hkn : (k : Int) < (n : Int) := by omega
      obtain ⟨b, o, rfl, hbl, hc⟩ := (h.below hB) (by omega)
      obtain ⟨b', o', rfl, hbl', hc'⟩ := (h'.below hB) (by omega)
      have c0 := hc (k * 5) (by omega)
      have d0 := hc' (k * 5) (by omega)
      have c1 := hc (k * 5 + 1) (by omega)
      have d1 := hc' (k * 5 + 1) (by omega)
      have c2 := hc (k * 5 + 2) (by omega)
      have d2 := hc' (k * 5 + 2) (by omega)
      have c3 := hc (k * 5 + 3) (by omega)
      have d3 := hc' (k * 5 + 3) (by omega)
      have c4 := hc (k * 5 + 4) (by omega)
      have d4 := hc' (k * 5 + 4) (by omega)
      simp only [← Nat.add_assoc, Nat.add_zero] at c0 d0 c1 d1 c2 d2 c3 d3 c4 d4
      clear hc hc' h h'
      go_upto_region 6 with fail
      refine wp_region_held_drew (S := fun w' => w'.cell? ⟨b, o + k * 5, none⟩ = some (.int .i64 (U (k * 5))) ∧ w'.cell? ⟨b, o + k * 5 + 1, none⟩ = some (.int .i64 (U (k * 5 + 1))) ∧ w'.cell? ⟨b, o + k * 5 + 2, none⟩ = some (.int .i64 (U (k * 5 + 2))) ∧ w'.cell? ⟨b, o + k * 5 + 3, none⟩ = some (.int .i64 (U (k * 5 + 3))) ∧ w'.cell? ⟨b, o + k * 5 + 4, none⟩ = some (.int .i64 (U (k * 5 + 4))) ∧ w'.cell? ⟨b', o' + k * 5, none⟩ = some (.int .i64 (U (k * 5))) ∧ w'.cell? ⟨b', o' + k * 5 + 1, none⟩ = some (.int .i64 (U (k * 5 + 1))) ∧ w'.cell? ⟨b', o' + k * 5 + 2, none⟩ = some (.int .i64 (U (k * 5 + 2))) ∧ w'.cell? ⟨b', o' + k * 5 + 3, none⟩ = some (.int .i64 (U (k * 5 + 3))) ∧ w'.cell? ⟨b', o' + k * 5 + 4, none⟩ = some (.int .i64 (U (k * 5 + 4)))) (by kernel_rfl) ?_ (fun hHeld => ?_)
      · (try dsimp only)
        (first | (go_simp; done) | (go_keep; done))
      refine tq 0 hHeld ?_
      refine tq 1 hHeld ?_
      refine tq 2 hHeld ?_
      refine tq 3 hHeld ?_
      refine tq 4 hHeld ?_
      refine tq 5 hHeld ?_
      refine tq 6 hHeld ?_
      refine tq 7 hHeld ?_
      (refine tc 8 fun K hK => ?_; go_simp; (go_at_call 24; refine (eqContact_same (fun j => U (k * 5 + j)) _).mono ?_; rintro e w1 ⟨rfl, hb1⟩; obtain ⟨hc1, hf1⟩ := bcell hb1; have hz1 := hb1.size; (try simp only [World.size_drew, World.size_alloc, World.size_setCell] at hc1 hf1 hz1); have hk1 := fun o => hc1 b o (by omega); have hk2 := fun o => hc1 b' o (by omega); clear hc1 hf1); (try go_wp2_with fail); refine tr hK (fun hHeld => ?_); clear hK K)
      refine tq 9 hHeld ?_
      refine wpAnyH_done (by kernel_rfl) ?_ _
      go_wp2_with fail
      go_roundw
      case rel => exact ⟨k + 1, by omega, by go_num, hB.trans (hb1.ofDr.mono hB.size)⟩
      case measure => simp [intOf]; omega
    · go_wp2
      go_ret
      exact ⟨rfl, hB⟩
/-- the contacts of a list, if it is ok -/
def conR (n : Nat) (U : Nat → Int) : List Int := bif bodsB n U then conL (colOf U) n else []
theorem conR_len (n : Nat) (U : Nat → Int) : ∃ m, (conR n U).length = m * 5 ∧ m ≤ 144 := by
  unfold conR
  cases h : bodsB n U with
  | false => exact ⟨0, rfl, by omega⟩
  | true =>
    obtain ⟨m, h1, h2⟩ := conOut_len (colOf U) n n
    refine ⟨m, h1, Nat.le_trans h2 ?_⟩
    have h12 : n ≤ 12 := by unfold bodsB at h; rw [Bool.and_eq_true, decide_eq_true_eq] at h; exact h.1
    have := Nat.mul_le_mul h12 h12
    omega
theorem OutL.nil {w : World} {t k : Nat} {R : Nat → Int} : OutL w w t k none 0 0 R := ⟨Below.refl _ _, OwnL.nil _ _ _ _ _⟩
end Go.Proofs.Ytejminehbnebmaa
namespace Go.Proofs.Ytejminehbnebmaa
open Go.RowKit
set_option linter.unusedVariables false
set_option linter.unusedSimpArgs false

/-- bodies and contacts that are ok -/
def bcB (n m : Nat) (U Ct : Nat → Int) : Bool := bodsB n U && decide (m ≤ 144) && ctsB n Ct m
theorem ctOk {n m : Nat} {C : Nat → Int} (h : ctsB n C m = true) : CtOk n m C := by
  have k := ctsB_le h
  have q : ∀ j, j < m → (0 ≤ C (j * 5) ∧ C (j * 5) < (n : Int)) ∧ (0 ≤ C (j * 5 + 1) ∧ C (j * 5 + 1) < (n : Int)) ∧ C (j * 5) ≠ C (j * 5 + 1) ∧ (-256 ≤ C (j * 5 + 2) ∧ C (j * 5 + 2) ≤ 256) ∧ (-256 ≤ C (j * 5 + 3) ∧ C (j * 5 + 3) ≤ 256) ∧ (0 ≤ C (j * 5 + 4) ∧ C (j * 5 + 4) ≤ 102400) := fun j hj => by
    have e := k j hj
    unfold atB hitB inB at e
    simp only [Bool.and_eq_true, decide_eq_true_eq, Bool.not_eq_true', decide_eq_false_iff_not] at e
    obtain ⟨⟨e1, e2⟩, e3, e4, e5⟩ := e
    exact ⟨e3, e4, e5, ⟨e1.1, e1.2.1⟩, ⟨e1.2.2.1, e1.2.2.2⟩, e2⟩
  exact ⟨fun j hj => (q j hj).1, fun j hj => (q j hj).2.1, fun j hj => (q j hj).2.2.1, fun j hj => (q j hj).2.2.2.1, fun j hj => (q j hj).2.2.2.2.1, fun j hj => (q j hj).2.2.2.2.2⟩
theorem meetingsOf_t (a : Option Addr) (n c : Nat) (U : Nat → Int) (ac : Option Addr) (m cc : Nat) (Ct : Nat → Int) (w : World) (h : Flat w a (n * 12) U) (hn : n ≤ 1048576) (h2 : Flat w ac (m * 5) Ct) (hm : m ≤ 1048576) (hk : bcB n m U Ct = true) :
    Calls Try.prog 20 #[.slice a n c, .slice ac m cc] w fun e w' => ∃ cb rb S v, e = .returned (.tuple #[.pointer (some ⟨cb, 0, none⟩), .pointer (some ⟨rb, 0, none⟩), .bool true]) ∧ w.heap.size ≤ cb ∧ cb < rb ∧ (∀ b, Xc S b → b < rb) ∧ Mo w w' cb n rb m U Ct S v :=
  (meetingsOf_any a n c U ac m cc Ct w h hn h2 hm).mono fun e w' ⟨h1, q⟩ => by
    rcases q with ⟨_, cb, rb, S, v, r⟩ | ⟨z, _⟩
    · exact ⟨cb, rb, S, v, r⟩
    · rw [bcB] at hk; rw [hk] at z; cases z
theorem meetingsOf_f (a : Option Addr) (n c : Nat) (U : Nat → Int) (ac : Option Addr) (m cc : Nat) (Ct : Nat → Int) (w : World) (h : Flat w a (n * 12) U) (hn : n ≤ 1048576) (h2 : Flat w ac (m * 5) Ct) (hm : m ≤ 1048576) (hk : bcB n m U Ct = false) :
    Calls Try.prog 20 #[.slice a n c, .slice ac m cc] w fun e w' => e = .returned (.tuple #[.pointer none, .pointer none, .bool false]) ∧ Below w.heap.size w w' :=
  (meetingsOf_any a n c U ac m cc Ct w h hn h2 hm).mono fun e w' ⟨h1, q⟩ => by
    rcases q with ⟨z, _⟩ | ⟨_, r⟩
    · rw [bcB] at hk; rw [hk] at z; cases z
    · exact ⟨r, h1⟩
theorem moveApart_m {w wr : World} {cb n rb m : Nat} {U C : Nat → Int} {S : Nat → Value} {v : Value} (h : Mo w wr cb n rb m U C S v) (hcb : cb < rb) (hxr : ∀ b, Xc S b → b < rb) (hm : m ≤ 1048576) (hn : n ≤ 1048576) (hbb : Bods n U) (ct : CtOk n m C) :
    Calls Try.prog 21 #[.pointer (some ⟨rb, 0, none⟩)] wr fun e w' => e = .returned (.tuple #[]) ∧ Cs w' cb n (colOf (apartN C U m)) S ∧ Fr (fun b => Xc S b ∨ b = rb) wr w' := by
  rcases h.ml.is with ⟨rfl, rfl⟩ | ⟨g, c, rfl⟩
  · refine (moveApart_0 h.r0).mono ?_
    rintro e w' ⟨rfl, rfl⟩
    exact ⟨rfl, h.cs, Fr.refl _ _⟩
  · have hg := (h.ml.lt g rfl).1
    exact moveApart_q (h.ml.rg h.r0 h.r1 h.f1 (by omega)) h.cs hm hn hbb ct (fun x => by have := hxr _ x; omega) (fun x => by have := hxr _ x; omega) (by omega)

set_option maxHeartbeats 4000000 in
theorem apart_i (a : Option Addr) (n c : Nat) (U : Nat → Int) (ac : Option Addr) (m cc : Nat) (Ct : Nat → Int) (w : World) (h : Flat w a (n * 12) U) (hn : n ≤ 1048576) (h2 : Flat w ac (m * 5) Ct) (hm : m ≤ 1048576) (N : Nat) (hN : (bif bcB n m U Ct then n else 0) = N) :
    Calls Try.prog 9 #[.slice a n c, .slice ac m cc] w fun e w' => ∃ a1 c1, e = .returned (.slice a1 N c1) ∧ OutL w w' 43 12 a1 N c1 (apartN Ct U m) := by
  have hset := cset_map
  cases hk : bcB n m U Ct with
  | false =>
    rw [hk, cond_false] at hN
    subst hN
    go_enter Try.func9, Try.ntmps9
    go_wp2_with (go_at_call 20; refine (meetingsOf_f a n c U ac m cc Ct _ h hn h2 hm hk).mono ?_; rintro e w1 ⟨rfl, hb1⟩)
    go_ret
    exact ⟨none, 0, rfl, hb1, OwnL.nil _ _ _ _ _⟩
  | true =>
    rw [hk, cond_true] at hN
    subst hN
    have hk2 := hk
    unfold bcB at hk2
    simp only [Bool.and_eq_true] at hk2
    have hbb := Bods.of hk2.1.1
    have hct := ctOk hk2.2
    clear hk2
    go_enter Try.func9, Try.ntmps9
    go_wp2_with (first
    | (go_at_call 22; refine (list_any cb n _ S _ hC2 hbb.le).mono ?_; rintro e w3 ⟨a3, c3, rfl, hO3⟩)
    | (go_at_call 21; refine (moveApart_m hM hcr hxr hm hn hbb hct).mono ?_; rintro e w2 ⟨rfl, hC2, hF2⟩)
    | (go_at_call 20; refine (meetingsOf_t a n c U ac m cc Ct _ h hn h2 hm hk).mono ?_; rintro e w1 ⟨cb, rb, S, v, rfl, hcb, hcr, hxr, hM⟩))
    go_ret
    have hbw := hM.bel
    have hB2 : Below w.heap.size w w2 := hbw.trans (hF2.below hbw.size (fun b x => by rcases x with x | x; (have := (hM.cs.xlt x).1; omega); omega))
    refine ⟨a3, c3, rfl, hB2.trans (hO3.bel.mono hB2.size), (hO3.own.base hB2.size).congr fun q hq => ?_⟩
    show apartN Ct U m (q / 12 * 12 + q % 12) = _
    rw [Nat.div_add_mod' q 12]
end Go.Proofs.Ytejminehbnebmaa
