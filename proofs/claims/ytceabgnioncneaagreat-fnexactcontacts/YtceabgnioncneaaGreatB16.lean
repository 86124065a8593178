/- Lists of bodies: turned into the program's own, held against each other, how great. Contacts: marked, held; Contacts of both sides. The walk of the exact law of Contacts. Lemmas on whatever program: from the head of its cut's word to the closed facts. Closed facts of the loaded program, each a theorem of its own. Slices of things that are numbers alone, as they come in. Lists of bodies, as they come in. -/
import Derived.Test.YtceabgnioncneaaGreatB15
import Derived.Test.YtceabgnioncneaaGreatB1
import Derived.Test.YtceabgnioncneaaGreatB10
import Derived.Deep.RegionHeld3
import Derived.Deep.DeepCutAuto
import Derived.Test.YtceabgnioncneaaGreatCon
import Derived.Test.YtceabgnioncneaaGreatB2
import Derived.Test.YtceabgnioncneaaGreatRows
import Derived.WalkKit
import Derived.JoinedOf
import Derived.ProofKit
import Derived.Deep.Slices
import Derived.ChangeSame
import Derived.ChangeArms
namespace Go.Proofs.YtceabgnioncneaaGreat
open Go.RowKit
set_option linter.unusedVariables false
set_option linter.unusedSimpArgs false

abbrev zeroBd : Value := .agg #[.int .i64 0, .int .i64 0, .int .i64 0, .int .i64 0, .int .i64 0, .int .i64 0, .int .i64 0, .int .i64 0, .int .i64 0, .int .i64 0, .int .i64 0, .int .i64 0]
theorem makeBodies (n : Nat) (hn : n ≤ 1048576) (w : World) : (Instr.makeSlice 26 (.int .i64 (n : Int)) (.int .i64 (n : Int))).run Tryz.prog w = .ok (.slice (some ⟨w.heap.size, 0, none⟩) n n) (w.alloc (.cells (madeCells zeroBd.cells (n * 12)) 49)) :=
  make_rows _ _ zeroBd 12 96 Tryz.underlying26 (by kernel_rfl) _ _ n (by omega) (by omega) w
set_option maxRecDepth 20000 in
set_option maxHeartbeats 2000000 in
theorem toBodyS_any (a : Option Addr) (n c : Nat) (U : Nat → Int) (w : World) (h : Flat w a (n * 12) U) (hn : n ≤ 1048576) :
    Calls Tryz.prog 9 #[.slice a n c] w fun e w' => ∃ b, e = .returned (.slice (some ⟨b, 0, none⟩) n n) ∧ w.heap.size ≤ b ∧ Row w' b 49 (n * 12) U ∧ Below w.heap.size w w' := by
  have hmk := makeBodies n hn
  go_enter Tryz.func9, Tryz.ntmps9
  go_wp2
  clear hmk
  go_loopw [4] (fun i wr => ∃ k : Nat, k ≤ n ∧ i = .int .i64 (k : Int) ∧ Row wr w.heap.size 49 (n * 12) (upto (k * 12) U) ∧ Below w.heap.size w wr) (fun i _ => n - (intOf i).toNat)
  case atStart => exact ⟨0, Nat.zero_le _, rfl, (Row.madek w _ 12 _ _ rfl (by decide) U).cut (by omega), (Below.refl _ _).alloc (Nat.le_refl _) _⟩
  case round =>
    obtain ⟨k, hk, rfl, hr, hbel⟩ := hrel
    have hrl := hr.lt
    by_cases hlt : k < n
    · obtain ⟨b, o, rfl, hbl, hc⟩ := (h.below hbel) (by omega)
      have c0 := hc (k * 12) (by omega)
      have c1 := hc (k * 12 + 1) (by omega)
      have c2 := hc (k * 12 + 2) (by omega)
      have c3 := hc (k * 12 + 3) (by omega)
      have c4 := hc (k * 12 + 4) (by omega)
      have c5 := hc (k * 12 + 5) (by omega)
      have c6 := hc (k * 12 + 6) (by omega)
      have c7 := hc (k * 12 + 7) (by omega)
      have c8 := hc (k * 12 + 8) (by omega)
      have c9 := hc (k * 12 + 9) (by omega)
      have c10 := hc (k * 12 + 10) (by omega)
      have c11 := hc (k * 12 + 11) (by omega)
      simp only [← Nat.add_assoc] at c0 c1 c2 c3 c4 c5 c6 c7 c8 c9 c10 c11
      clear hc h
      go_wp2_with (go_at_call 31; refine (toBody_any (fun j => U (k * 12 + j)) _).mono ?_; rintro e w1 ⟨rfl, hb1⟩; have hr1 := hr.below hb1; have f1 := hr1.fro; (have e0 := hr1.cell (q := k * 12) (by omega)); (have e1 := hr1.cell (q := k * 12 + 1) (by omega)); (have e2 := hr1.cell (q := k * 12 + 2) (by omega)); (have e3 := hr1.cell (q := k * 12 + 3) (by omega)); (have e4 := hr1.cell (q := k * 12 + 4) (by omega)); (have e5 := hr1.cell (q := k * 12 + 5) (by omega)); (have e6 := hr1.cell (q := k * 12 + 6) (by omega)); (have e7 := hr1.cell (q := k * 12 + 7) (by omega)); (have e8 := hr1.cell (q := k * 12 + 8) (by omega)); (have e9 := hr1.cell (q := k * 12 + 9) (by omega)); (have e10 := hr1.cell (q := k * 12 + 10) (by omega)); (have e11 := hr1.cell (q := k * 12 + 11) (by omega)))
      go_roundw
      case rel => exact ⟨k + 1, by omega, by go_num, (((((((((((((hr1).next).next).next).next).next).next).next).next).next).next).next).next).cut (by omega), by repeat (first | with_reducible apply Below.refl | (with_reducible apply Below.setCell; rotate_left; focus (first | omega | (simp; done) | (simp; omega))) | (with_reducible apply Below.alloc; rotate_left; focus (first | omega | (simp; done) | (simp; omega))) | with_reducible apply Below.drew | with_reducible apply belowDrewN | (with_reducible apply Below.trans; rotate_left; with_reducible apply Below.mono; with_reducible assumption; focus (first | omega | (simp; done) | (simp; omega))))⟩
      case measure => simp [intOf]; omega
    · go_wp2
      go_ret
      exact ⟨_, rfl, Nat.le_refl _, hr.full (by omega), hbel⟩
theorem eqShapeL_same (a b c : Int) (w : World) :
    Calls Tryz.prog 54 #[s3 a b c, s3 a b c] w fun e w' => e = .returned (.bool true) ∧ Below w.heap.size w w' := by
  have hset := cset_map
  go_enter Tryz.func54, Tryz.ntmps54
  go_wp2
  go_ret
  exact ⟨rfl, by repeat (first | with_reducible apply Below.refl | (with_reducible apply Below.setCell; rotate_left; focus (first | omega | (simp; done) | (simp; omega))) | (with_reducible apply Below.alloc; rotate_left; focus (first | omega | (simp; done) | (simp; omega))) | with_reducible apply Below.drew | with_reducible apply belowDrewN | (with_reducible apply Below.trans; rotate_left; with_reducible apply Below.mono; with_reducible assumption; focus (first | omega | (simp; done) | (simp; omega))))⟩
set_option maxRecDepth 20000 in
set_option maxHeartbeats 2000000 in
theorem eqBody_same (V : Nat → Int) (w : World) :
    Calls Tryz.prog 35 #[bodyW V, bodyW V] w fun e w' => e = .returned (.bool true) ∧ Below w.heap.size w w' := by
  have hset := cset_map
  go_enter Tryz.func35, Tryz.ntmps35
  go_wp2_with (first
    | (go_at_call 54; refine (eqShapeL_same _ _ _ _).mono ?_; rintro e w1 ⟨rfl, hb1⟩; obtain ⟨hc1, hf1⟩ := bcell hb1; have hz1 := hb1.size; (try simp only [World.size_drew, World.size_alloc, World.size_setCell] at hc1 hf1 hz1); (try have hq1x0 : w.heap.size < w1.heap.size := (by omega)); (try have hq1x1 : w.heap.size + 1 < w1.heap.size := (by omega)); have hk1 := fun o => hc1 w.heap.size o (by omega); have hk2 := fun o => hc1 (w.heap.size + 1) o (by omega); clear hc1 hf1)
    | (have _ := hq2x0; (go_at_call 55; refine (eqVec_same _ _ _).mono ?_; rintro e w3 ⟨rfl, hb3⟩; obtain ⟨hc3, hf3⟩ := bcell hb3; have hz3 := hb3.size; (try simp only [World.size_drew, World.size_alloc, World.size_setCell] at hc3 hf3 hz3); have hk5 := fun o => hc3 w.heap.size o (by omega); have hk6 := fun o => hc3 (w.heap.size + 1) o (by omega); clear hc3 hf3))
    | (go_at_call 55; refine (eqVec_same _ _ _).mono ?_; rintro e w2 ⟨rfl, hb2⟩; obtain ⟨hc2, hf2⟩ := bcell hb2; have hz2 := hb2.size; (try simp only [World.size_drew, World.size_alloc, World.size_setCell] at hc2 hf2 hz2); have hq2x0 : w.heap.size < w2.heap.size := (by omega); have hq2x1 : w.heap.size + 1 < w2.heap.size := (by omega); have hk3 := fun o => hc2 w.heap.size o (by omega); have hk4 := fun o => hc2 (w.heap.size + 1) o (by omega); clear hc2 hf2))
  go_ret
  exact ⟨rfl, by repeat (first | with_reducible apply Below.refl | (with_reducible apply Below.setCell; rotate_left; focus (first | omega | (simp; done) | (simp; omega))) | (with_reducible apply Below.alloc; rotate_left; focus (first | omega | (simp; done) | (simp; omega))) | with_reducible apply Below.drew | with_reducible apply belowDrewN | (with_reducible apply Below.trans; rotate_left; with_reducible apply Below.mono; with_reducible assumption; focus (first | omega | (simp; done) | (simp; omega))))⟩
set_option maxRecDepth 20000 in
set_option maxHeartbeats 2000000 in
theorem eqBodyS_same (a a' : Option Addr) (n c c' : Nat) (U : Nat → Int) (w : World) (h : Flat w a (n * 12) U) (h' : Flat w a' (n * 12) U) (hn : n ≤ 1048576) :
    Calls Tryz.prog 12 #[.slice a n c, .slice a' n c'] w fun e w' => e = .returned (.bool true) ∧ Below w.heap.size w w' := by
  go_enter Tryz.func12, Tryz.ntmps12
  go_wp2
  go_loopw [5] (fun i wr => ∃ k : Nat, k ≤ n ∧ i = .int .i64 (k : Int) ∧ Below w.heap.size w wr) (fun i _ => n - (intOf i).toNat)
  case atStart => exact ⟨0, Nat.zero_le _, rfl, Below.refl _ _⟩
  case round =>
    obtain ⟨k, hk, rfl, hB⟩ := hrel
    by_cases hlt : k < n
    · have hkn : (k : Int) < (n : Int) := by omega
      obtain ⟨b, o, rfl, hbl, hc⟩ := (h.below hB) (by omega)
      obtain ⟨b', o', rfl, hbl', hc'⟩ := (h'.below hB) (by omega)
      have c0 := hc (k * 12 + 0) (by omega)
      have d0 := hc' (k * 12 + 0) (by omega)
      have c1 := hc (k * 12 + 1) (by omega)
      have d1 := hc' (k * 12 + 1) (by omega)
      have c2 := hc (k * 12 + 2) (by omega)
      have d2 := hc' (k * 12 + 2) (by omega)
      have c3 := hc (k * 12 + 3) (by omega)
      have d3 := hc' (k * 12 + 3) (by omega)
      have c4 := hc (k * 12 + 4) (by omega)
      have d4 := hc' (k * 12 + 4) (by omega)
      have c5 := hc (k * 12 + 5) (by omega)
      have d5 := hc' (k * 12 + 5) (by omega)
      have c6 := hc (k * 12 + 6) (by omega)
      have d6 := hc' (k * 12 + 6) (by omega)
      have c7 := hc (k * 12 + 7) (by omega)
      have d7 := hc' (k * 12 + 7) (by omega)
      have c8 := hc (k * 12 + 8) (by omega)
      have d8 := hc' (k * 12 + 8) (by omega)
      have c9 := hc (k * 12 + 9) (by omega)
      have d9 := hc' (k * 12 + 9) (by omega)
      have c10 := hc (k * 12 + 10) (by omega)
      have d10 := hc' (k * 12 + 10) (by omega)
      have c11 := hc (k * 12 + 11) (by omega)
      have d11 := hc' (k * 12 + 11) (by omega)
      simp only [← Nat.add_assoc, Nat.add_zero] at c0 d0 c1 d1 c2 d2 c3 d3 c4 d4 c5 d5 c6 d6 c7 d7 c8 d8 c9 d9 c10 d10 c11 d11
      clear hc hc' h h'
      go_upto_region 6 with fail
      refine wp_region_held_drew (S := fun w' => w'.cell? ⟨b, o + k * 12, none⟩ = some (.int .i64 (U (k * 12))) ∧ w'.cell? ⟨b, o + k * 12 + 1, none⟩ = some (.int .i64 (U (k * 12 + 1))) ∧ w'.cell? ⟨b, o + k * 12 + 2, none⟩ = some (.int .i64 (U (k * 12 + 2))) ∧ w'.cell? ⟨b, o + k * 12 + 3, none⟩ = some (.int .i64 (U (k * 12 + 3))) ∧ w'.cell? ⟨b, o + k * 12 + 4, none⟩ = some (.int .i64 (U (k * 12 + 4))) ∧ w'.cell? ⟨b, o + k * 12 + 5, none⟩ = some (.int .i64 (U (k * 12 + 5))) ∧ w'.cell? ⟨b, o + k * 12 + 6, none⟩ = some (.int .i64 (U (k * 12 + 6))) ∧ w'.cell? ⟨b, o + k * 12 + 7, none⟩ = some (.int .i64 (U (k * 12 + 7))) ∧ w'.cell? ⟨b, o + k * 12 + 8, none⟩ = some (.int .i64 (U (k * 12 + 8))) ∧ w'.cell? ⟨b, o + k * 12 + 9, none⟩ = some (.int .i64 (U (k * 12 + 9))) ∧ w'.cell? ⟨b, o + k * 12 + 10, none⟩ = some (.int .i64 (U (k * 12 + 10))) ∧ w'.cell? ⟨b, o + k * 12 + 11, none⟩ = some (.int .i64 (U (k * 12 + 11))) ∧ w'.cell? ⟨b', o' + k * 12, none⟩ = some (.int .i64 (U (k * 12))) ∧ w'.cell? ⟨b', o' + k * 12 + 1, none⟩ = some (.int .i64 (U (k * 12 + 1))) ∧ w'.cell? ⟨b', o' + k * 12 + 2, none⟩ = some (.int .i64 (U (k * 12 + 2))) ∧ w'.cell? ⟨b', o' + k * 12 + 3, none⟩ = some (.int .i64 (U (k * 12 + 3))) ∧ w'.cell? ⟨b', o' + k * 12 + 4, none⟩ = some (.int .i64 (U (k * 12 + 4))) ∧ w'.cell? ⟨b', o' + k * 12 + 5, none⟩ = some (.int .i64 (U (k * 12 + 5))) ∧ w'.cell? ⟨b', o' + k * 12 + 6, none⟩ = some (.int .i64 (U (k * 12 + 6))) ∧ w'.cell? ⟨b', o' + k * 12 + 7, none⟩ = some (.int .i64 (U (k * 12 + 7))) ∧ w'.cell? ⟨b', o' + k * 12 + 8, none⟩ = some (.int .i64 (U (k * 12 + 8))) ∧ w'.cell? ⟨b', o' + k * 12 + 9, none⟩ = some (.int .i64 (U (k * 12 + 9))) ∧ w'.cell? ⟨b', o' + k * 12 + 10, none⟩ = some (.int .i64 (U (k * 12 + 10))) ∧ w'.cell? ⟨b', o' + k * 12 + 11, none⟩ = some (.int .i64 (U (k * 12 + 11)))) (by kernel_rfl) ?_ (fun hHeld => ?_)
      · (try dsimp only)
        (first | (go_simp; done) | (go_keep; done))
      refine tq 0 hHeld ?_
      refine tq 1 hHeld ?_
      refine tq 2 hHeld ?_
      refine tq 3 hHeld ?_
      refine tq 4 hHeld ?_
      refine tq 5 hHeld ?_
      refine tq 6 hHeld ?_
      refine tq 7 hHeld ?_
      (refine tc 8 fun K hK => ?_; go_simp; (go_at_call 35; refine (eqBody_same (fun j => U (k * 12 + j)) _).mono ?_; rintro e w1 ⟨rfl, hb1⟩; obtain ⟨hc1, hf1⟩ := bcell hb1; have hz1 := hb1.size; (try simp only [World.size_drew, World.size_alloc, World.size_setCell] at hc1 hf1 hz1); have hk1 := fun o => hc1 b o (by omega); have hk2 := fun o => hc1 b' o (by omega); clear hc1 hf1); (try go_wp2_with fail); refine tr hK (fun hHeld => ?_); clear hK K)
      refine tq 9 hHeld ?_
      refine wpAnyH_done (by kernel_rfl) ?_ _
      go_wp2_with fail
      go_roundw
      case rel => exact ⟨k + 1, by omega, by go_num, hB.trans (hb1.ofDr.mono hB.size)⟩
      case measure => simp [intOf]; omega
    · go_wp2
      go_ret
      exact ⟨rfl, hB⟩
theorem szBodyS_any (a : Option Addr) (n c : Nat) (w : World) (hn : (n : Int) ≤ 9223372036854775807) :
    Calls Tryz.prog 7 #[.slice a n c, .int .i64 1048576] w fun e w' => e = .returned (.int .i64 (if n ≤ 1048576 then 1048576 - (n : Int) else -1)) ∧ w' = w := by
  by_cases h : n ≤ 1048576
  · have h1 : ¬ (1048576 - (n : Int) < 0) := by omega
    have h2 : IntKind.i64.wrap (1048576 - (n : Int)) = 1048576 - (n : Int) := i64w (by omega)
    go_enter Tryz.func7, Tryz.ntmps7
    go_wp2
    go_ret
    exact ⟨by first | rfl | (rw [if_pos h]; rfl) | simp [h], rfl⟩
  · have h1 : (1048576 - (n : Int) < 0) := by omega
    have h2 : IntKind.i64.wrap (1048576 - (n : Int)) = 1048576 - (n : Int) := i64w (by omega)
    go_enter Tryz.func7, Tryz.ntmps7
    go_wp2
    go_ret
    exact ⟨by first | rfl | (rw [if_neg h]; rfl) | simp [h], rfl⟩
end Go.Proofs.YtceabgnioncneaaGreat
namespace Go.Proofs.YtceabgnioncneaaGreat
open Go.RowKit
set_option linter.unusedVariables false
set_option linter.unusedSimpArgs false
theorem markBody12 {w wr : World} {base g n c j : Nat} {U : Nat → Int} (hlt : j < n) (ho : OwnL wr base 49 12 (.slice (some ⟨g, 0, none⟩) n c) n (mixU (j * 12) U)) (hg : w.grownBy wr (Value.slice (some ⟨g, 0, none⟩) n c).ownBlock) :
    OwnL ((((((((((((wr.setCell ⟨g, j * 12, none⟩ (.int .i64 (1 + (j : Int) * 12))).setCell ⟨g, j * 12 + 1, none⟩ (.int .i64 (1 + (j : Int) * 12 + 1))).setCell ⟨g, j * 12 + 2, none⟩ (.int .i64 (1 + (j : Int) * 12 + 1 + 1))).setCell ⟨g, j * 12 + 3, none⟩ (.int .i64 (1 + (j : Int) * 12 + 1 + 1 + 1))).setCell ⟨g, j * 12 + 4, none⟩ (.int .i64 (1 + (j : Int) * 12 + 1 + 1 + 1 + 1))).setCell ⟨g, j * 12 + 5, none⟩ (.int .i64 (1 + (j : Int) * 12 + 1 + 1 + 1 + 1 + 1))).setCell ⟨g, j * 12 + 6, none⟩ (.int .i64 (1 + (j : Int) * 12 + 1 + 1 + 1 + 1 + 1 + 1))).setCell ⟨g, j * 12 + 7, none⟩ (.int .i64 (1 + (j : Int) * 12 + 1 + 1 + 1 + 1 + 1 + 1 + 1))).setCell ⟨g, j * 12 + 8, none⟩ (.int .i64 (1 + (j : Int) * 12 + 1 + 1 + 1 + 1 + 1 + 1 + 1 + 1))).setCell ⟨g, j * 12 + 9, none⟩ (.int .i64 (1 + (j : Int) * 12 + 1 + 1 + 1 + 1 + 1 + 1 + 1 + 1 + 1))).setCell ⟨g, j * 12 + 10, none⟩ (.int .i64 (1 + (j : Int) * 12 + 1 + 1 + 1 + 1 + 1 + 1 + 1 + 1 + 1 + 1))).setCell ⟨g, j * 12 + 11, none⟩ (.int .i64 (1 + (j : Int) * 12 + 1 + 1 + 1 + 1 + 1 + 1 + 1 + 1 + 1 + 1 + 1))) base 49 12 (.slice (some ⟨g, 0, none⟩) n c) n (mixU ((j + 1) * 12) U) ∧
    w.grownBy ((((((((((((wr.setCell ⟨g, j * 12, none⟩ (.int .i64 (1 + (j : Int) * 12))).setCell ⟨g, j * 12 + 1, none⟩ (.int .i64 (1 + (j : Int) * 12 + 1))).setCell ⟨g, j * 12 + 2, none⟩ (.int .i64 (1 + (j : Int) * 12 + 1 + 1))).setCell ⟨g, j * 12 + 3, none⟩ (.int .i64 (1 + (j : Int) * 12 + 1 + 1 + 1))).setCell ⟨g, j * 12 + 4, none⟩ (.int .i64 (1 + (j : Int) * 12 + 1 + 1 + 1 + 1))).setCell ⟨g, j * 12 + 5, none⟩ (.int .i64 (1 + (j : Int) * 12 + 1 + 1 + 1 + 1 + 1))).setCell ⟨g, j * 12 + 6, none⟩ (.int .i64 (1 + (j : Int) * 12 + 1 + 1 + 1 + 1 + 1 + 1))).setCell ⟨g, j * 12 + 7, none⟩ (.int .i64 (1 + (j : Int) * 12 + 1 + 1 + 1 + 1 + 1 + 1 + 1))).setCell ⟨g, j * 12 + 8, none⟩ (.int .i64 (1 + (j : Int) * 12 + 1 + 1 + 1 + 1 + 1 + 1 + 1 + 1))).setCell ⟨g, j * 12 + 9, none⟩ (.int .i64 (1 + (j : Int) * 12 + 1 + 1 + 1 + 1 + 1 + 1 + 1 + 1 + 1))).setCell ⟨g, j * 12 + 10, none⟩ (.int .i64 (1 + (j : Int) * 12 + 1 + 1 + 1 + 1 + 1 + 1 + 1 + 1 + 1 + 1))).setCell ⟨g, j * 12 + 11, none⟩ (.int .i64 (1 + (j : Int) * 12 + 1 + 1 + 1 + 1 + 1 + 1 + 1 + 1 + 1 + 1 + 1))) (Value.slice (some ⟨g, 0, none⟩) n c).ownBlock := by
  have q1 := ho.mark (by omega) (x := 1 + (j : Int) * 12) (by omega)
  have q2 := q1.mark (by omega) (x := 1 + (j : Int) * 12 + 1) (by omega)
  have q3 := q2.mark (by omega) (x := 1 + (j : Int) * 12 + 1 + 1) (by omega)
  have q4 := q3.mark (by omega) (x := 1 + (j : Int) * 12 + 1 + 1 + 1) (by omega)
  have q5 := q4.mark (by omega) (x := 1 + (j : Int) * 12 + 1 + 1 + 1 + 1) (by omega)
  have q6 := q5.mark (by omega) (x := 1 + (j : Int) * 12 + 1 + 1 + 1 + 1 + 1) (by omega)
  have q7 := q6.mark (by omega) (x := 1 + (j : Int) * 12 + 1 + 1 + 1 + 1 + 1 + 1) (by omega)
  have q8 := q7.mark (by omega) (x := 1 + (j : Int) * 12 + 1 + 1 + 1 + 1 + 1 + 1 + 1) (by omega)
  have q9 := q8.mark (by omega) (x := 1 + (j : Int) * 12 + 1 + 1 + 1 + 1 + 1 + 1 + 1 + 1) (by omega)
  have q10 := q9.mark (by omega) (x := 1 + (j : Int) * 12 + 1 + 1 + 1 + 1 + 1 + 1 + 1 + 1 + 1) (by omega)
  have q11 := q10.mark (by omega) (x := 1 + (j : Int) * 12 + 1 + 1 + 1 + 1 + 1 + 1 + 1 + 1 + 1 + 1) (by omega)
  have q12 := q11.mark (by omega) (x := 1 + (j : Int) * 12 + 1 + 1 + 1 + 1 + 1 + 1 + 1 + 1 + 1 + 1 + 1) (by omega)
  refine ⟨?_, ?_⟩
  · exact q12.congr fun q _ => by rw [show j * 12 + 1 + 1 + 1 + 1 + 1 + 1 + 1 + 1 + 1 + 1 + 1 + 1 = ((j + 1) * 12) from by omega]
  · have h0 : w.grownBy wr (some g) := hg
    exact (grown_trans (grown_trans (grown_trans (grown_trans (grown_trans (grown_trans (grown_trans (grown_trans (grown_trans (grown_trans (grown_trans (grown_trans h0 (grown_setG _ _ _ _)) (grown_setG _ _ _ _)) (grown_setG _ _ _ _)) (grown_setG _ _ _ _)) (grown_setG _ _ _ _)) (grown_setG _ _ _ _)) (grown_setG _ _ _ _)) (grown_setG _ _ _ _)) (grown_setG _ _ _ _)) (grown_setG _ _ _ _)) (grown_setG _ _ _ _)) (grown_setG _ _ _ _))
set_option maxRecDepth 20000 in
set_option maxHeartbeats 2000000 in
theorem markBodyS_any (base : Nat) (a : Option Addr) (n c : Nat) (U : Nat → Int) (w : World) (h : OwnL w base 49 12 (.slice a n c) n U) (hn : n ≤ 2097152) :
    Calls Tryz.prog 13 #[.slice a n c, .int .i64 1] w fun e w' => e = .returned (.int .i64 (1 + (n : Int) * 12)) ∧ OwnL w' base 49 12 (.slice a n c) n (fun q => 1 + (q : Int)) ∧ w.grownBy w' (Value.slice a n c).ownBlock := by
  have hset := cset_map
  go_enter Tryz.func13, Tryz.ntmps13
  go_wp2
  go_loopw [1, 5] (fun s i wr => ∃ j : Nat, j ≤ n ∧ i = .int .i64 (j : Int) ∧ s = .int .i64 (1 + (j : Int) * 12) ∧ OwnL wr base 49 12 (.slice a n c) n (mixU (j * 12) U) ∧ w.grownBy wr (Value.slice a n c).ownBlock) (fun _ i _ => n - (intOf i).toNat)
  case atStart => exact ⟨0, Nat.zero_le _, rfl, rfl, h.congr (fun q _ => by simp [mixU]), grown_refl _ _⟩
  case round =>
    obtain ⟨j, hj, rfl, rfl, ho, hg⟩ := hrel
    by_cases hlt : j < n
    · have hjn : (j : Int) < (n : Int) := by omega
      obtain ⟨g, rfl, hgb, hgl⟩ := ho.loc (by omega)
      have c0 := ho.cellq (q := j * 12) (by omega)
      have c1 := ho.cellq (q := j * 12 + 1) (by omega)
      have c2 := ho.cellq (q := j * 12 + 2) (by omega)
      have c3 := ho.cellq (q := j * 12 + 3) (by omega)
      have c4 := ho.cellq (q := j * 12 + 4) (by omega)
      have c5 := ho.cellq (q := j * 12 + 5) (by omega)
      have c6 := ho.cellq (q := j * 12 + 6) (by omega)
      have c7 := ho.cellq (q := j * 12 + 7) (by omega)
      have c8 := ho.cellq (q := j * 12 + 8) (by omega)
      have c9 := ho.cellq (q := j * 12 + 9) (by omega)
      have c10 := ho.cellq (q := j * 12 + 10) (by omega)
      have c11 := ho.cellq (q := j * 12 + 11) (by omega)
      have f0 := ho.fro
      go_wp2
      go_roundw
      case rel =>
        obtain ⟨r1, r2⟩ := markBody12 hlt ho hg
        exact ⟨j + 1, by omega, by go_num, congrArg (Value.int .i64) (by omega), r1, r2⟩
      case measure => simp [intOf]; omega
    · obtain rfl : j = n := by omega
      go_wp2
      go_ret
      exact ⟨rfl, ho.congr (fun q hq => by simp only [mixU]; rw [if_pos (by omega)]), hg⟩
theorem markContact5 {w wr : World} {base g n c j : Nat} {U : Nat → Int} (hlt : j < n) (ho : OwnL wr base 63 5 (.slice (some ⟨g, 0, none⟩) n c) n (mixU (j * 5) U)) (hg : w.grownBy wr (Value.slice (some ⟨g, 0, none⟩) n c).ownBlock) :
    OwnL (((((wr.setCell ⟨g, j * 5, none⟩ (.int .i64 (1 + (j : Int) * 5))).setCell ⟨g, j * 5 + 1, none⟩ (.int .i64 (1 + (j : Int) * 5 + 1))).setCell ⟨g, j * 5 + 2, none⟩ (.int .i64 (1 + (j : Int) * 5 + 1 + 1))).setCell ⟨g, j * 5 + 3, none⟩ (.int .i64 (1 + (j : Int) * 5 + 1 + 1 + 1))).setCell ⟨g, j * 5 + 4, none⟩ (.int .i64 (1 + (j : Int) * 5 + 1 + 1 + 1 + 1))) base 63 5 (.slice (some ⟨g, 0, none⟩) n c) n (mixU ((j + 1) * 5) U) ∧
    w.grownBy (((((wr.setCell ⟨g, j * 5, none⟩ (.int .i64 (1 + (j : Int) * 5))).setCell ⟨g, j * 5 + 1, none⟩ (.int .i64 (1 + (j : Int) * 5 + 1))).setCell ⟨g, j * 5 + 2, none⟩ (.int .i64 (1 + (j : Int) * 5 + 1 + 1))).setCell ⟨g, j * 5 + 3, none⟩ (.int .i64 (1 + (j : Int) * 5 + 1 + 1 + 1))).setCell ⟨g, j * 5 + 4, none⟩ (.int .i64 (1 + (j : Int) * 5 + 1 + 1 + 1 + 1))) (Value.slice (some ⟨g, 0, none⟩) n c).ownBlock := by
  have q1 := ho.mark (by omega) (x := 1 + (j : Int) * 5) (by omega)
  have q2 := q1.mark (by omega) (x := 1 + (j : Int) * 5 + 1) (by omega)
  have q3 := q2.mark (by omega) (x := 1 + (j : Int) * 5 + 1 + 1) (by omega)
  have q4 := q3.mark (by omega) (x := 1 + (j : Int) * 5 + 1 + 1 + 1) (by omega)
  have q5 := q4.mark (by omega) (x := 1 + (j : Int) * 5 + 1 + 1 + 1 + 1) (by omega)
  refine ⟨?_, ?_⟩
  · exact q5.congr fun q _ => by rw [show j * 5 + 1 + 1 + 1 + 1 + 1 = ((j + 1) * 5) from by omega]
  · have h0 : w.grownBy wr (some g) := hg
    exact (grown_trans (grown_trans (grown_trans (grown_trans (grown_trans h0 (grown_setG _ _ _ _)) (grown_setG _ _ _ _)) (grown_setG _ _ _ _)) (grown_setG _ _ _ _)) (grown_setG _ _ _ _))
set_option maxRecDepth 20000 in
set_option maxHeartbeats 2000000 in
theorem markContactS_any (base : Nat) (a : Option Addr) (n c : Nat) (U : Nat → Int) (w : World) (h : OwnL w base 63 5 (.slice a n c) n U) (hn : n ≤ 2097152) :
    Calls Tryz.prog 14 #[.slice a n c, .int .i64 1] w fun e w' => e = .returned (.int .i64 (1 + (n : Int) * 5)) ∧ OwnL w' base 63 5 (.slice a n c) n (fun q => 1 + (q : Int)) ∧ w.grownBy w' (Value.slice a n c).ownBlock := by
  have hset := cset_map
  go_enter Tryz.func14, Tryz.ntmps14
  go_wp2
  go_loopw [1, 5] (fun s i wr => ∃ j : Nat, j ≤ n ∧ i = .int .i64 (j : Int) ∧ s = .int .i64 (1 + (j : Int) * 5) ∧ OwnL wr base 63 5 (.slice a n c) n (mixU (j * 5) U) ∧ w.grownBy wr (Value.slice a n c).ownBlock) (fun _ i _ => n - (intOf i).toNat)
  case atStart => exact ⟨0, Nat.zero_le _, rfl, rfl, h.congr (fun q _ => by simp [mixU]), grown_refl _ _⟩
  case round =>
    obtain ⟨j, hj, rfl, rfl, ho, hg⟩ := hrel
    by_cases hlt : j < n
    · have hjn : (j : Int) < (n : Int) := by omega
      obtain ⟨g, rfl, hgb, hgl⟩ := ho.loc (by omega)
      have c0 := ho.cellq (q := j * 5) (by omega)
      have c1 := ho.cellq (q := j * 5 + 1) (by omega)
      have c2 := ho.cellq (q := j * 5 + 2) (by omega)
      have c3 := ho.cellq (q := j * 5 + 3) (by omega)
      have c4 := ho.cellq (q := j * 5 + 4) (by omega)
      have f0 := ho.fro
      go_wp2
      go_roundw
      case rel =>
        obtain ⟨r1, r2⟩ := markContact5 hlt ho hg
        exact ⟨j + 1, by omega, by go_num, congrArg (Value.int .i64) (by omega), r1, r2⟩
      case measure => simp [intOf]; omega
    · obtain rfl : j = n := by omega
      go_wp2
      go_ret
      exact ⟨rfl, ho.congr (fun q hq => by simp only [mixU]; rw [if_pos (by omega)]), hg⟩
set_option maxRecDepth 20000 in
set_option maxHeartbeats 2000000 in
theorem heldContactS_any (a : Option Addr) (n c : Nat) (w : World) (h : Flat w a (n * 5) (fun q => 1 + (q : Int))) (hn : n ≤ 2097152) :
    Calls Tryz.prog 15 #[.slice a n c, .int .i64 1] w fun e w' => e = .returned (.int .i64 (1 + (n : Int) * 5)) ∧ w' = w := by
  go_enter Tryz.func15, Tryz.ntmps15
  go_wp2
  go_loop [1, 5] (fun s i => ∃ j : Nat, j ≤ n ∧ i = .int .i64 (j : Int) ∧ s = .int .i64 (1 + (j : Int) * 5)) (fun _ i => n - (intOf i).toNat)
  case atStart => exact ⟨0, Nat.zero_le _, rfl, rfl⟩
  case round =>
    obtain ⟨j, hj, rfl, rfl⟩ := hrel
    by_cases hlt : j < n
    · have hjn : (j : Int) < (n : Int) := by omega
      obtain ⟨b, o, rfl, hbl, hc⟩ := h (by omega)
      have c0 : w.cell? ⟨b, o + j * 5, none⟩ = some (.int .i64 (1 + (j : Int) * 5)) := (hc (j * 5) (by omega)).trans (congrArg (fun z => some (Value.int .i64 z)) (show (1 : Int) + ((j * 5 : Nat) : Int) = 1 + (j : Int) * 5 by omega))
      have c1 : w.cell? ⟨b, o + j * 5 + 1, none⟩ = some (.int .i64 (1 + (j : Int) * 5 + 1)) := (hc (j * 5 + 1) (by omega)).trans (congrArg (fun z => some (Value.int .i64 z)) (show (1 : Int) + ((j * 5 + 1 : Nat) : Int) = 1 + (j : Int) * 5 + 1 by omega))
      have c2 : w.cell? ⟨b, o + j * 5 + 2, none⟩ = some (.int .i64 (1 + (j : Int) * 5 + 1 + 1)) := (hc (j * 5 + 2) (by omega)).trans (congrArg (fun z => some (Value.int .i64 z)) (show (1 : Int) + ((j * 5 + 2 : Nat) : Int) = 1 + (j : Int) * 5 + 1 + 1 by omega))
      have c3 : w.cell? ⟨b, o + j * 5 + 3, none⟩ = some (.int .i64 (1 + (j : Int) * 5 + 1 + 1 + 1)) := (hc (j * 5 + 3) (by omega)).trans (congrArg (fun z => some (Value.int .i64 z)) (show (1 : Int) + ((j * 5 + 3 : Nat) : Int) = 1 + (j : Int) * 5 + 1 + 1 + 1 by omega))
      have c4 : w.cell? ⟨b, o + j * 5 + 4, none⟩ = some (.int .i64 (1 + (j : Int) * 5 + 1 + 1 + 1 + 1)) := (hc (j * 5 + 4) (by omega)).trans (congrArg (fun z => some (Value.int .i64 z)) (show (1 : Int) + ((j * 5 + 4 : Nat) : Int) = 1 + (j : Int) * 5 + 1 + 1 + 1 + 1 by omega))
      clear hc h
      go_wp2
      go_round
      case rel => exact ⟨j + 1, by omega, by go_num, congrArg (Value.int .i64) (by omega)⟩
      case measure => simp [intOf]; omega
    · obtain rfl : j = n := by omega
      go_wp2
      go_ret
      exact ⟨rfl, rfl⟩
set_option maxHeartbeats 4000000 in
theorem eqHitL_same (x y k : Int) (w : World) :
    Calls Tryz.prog 53 #[s3 x y k, s3 x y k] w fun e w' => e = .returned (.bool true) ∧ Below w.heap.size w w' := by
  have hset := cset_map
  go_enter Tryz.func53, Tryz.ntmps53
  go_wp2_with (go_at_call 55; refine (eqVec_same _ _ _).mono ?_; rintro e w1 ⟨rfl, hb1⟩; obtain ⟨hc1, hf1⟩ := bcell hb1; have hz1 := hb1.size; (try simp only [World.size_drew, World.size_alloc, World.size_setCell] at hc1 hf1 hz1); have hk1x0 := fun o => hc1 w.heap.size o (by omega); have hk1x1 := fun o => hc1 (w.heap.size + 1) o (by omega); clear hc1 hf1)
  go_ret
  exact ⟨rfl, by repeat (first | with_reducible apply Below.refl | (with_reducible apply Below.setCell; rotate_left; focus (first | omega | (simp; done) | (simp; omega))) | (with_reducible apply Below.alloc; rotate_left; focus (first | omega | (simp; done) | (simp; omega))) | with_reducible apply Below.drew | with_reducible apply belowDrewN | (with_reducible apply Below.trans; rotate_left; with_reducible apply Below.mono; with_reducible assumption; focus (first | omega | (simp; done) | (simp; omega))))⟩
abbrev conW (V : Nat → Int) : Value := .agg #[.int .i64 (V 0), .int .i64 (V 1), .int .i64 (V 2), .int .i64 (V 3), .int .i64 (V 4)]
set_option maxHeartbeats 4000000 in
theorem eqContact_same (V : Nat → Int) (w : World) :
    Calls Tryz.prog 34 #[conW V, conW V] w fun e w' => e = .returned (.bool true) ∧ Below w.heap.size w w' := by
  have hset := cset_map
  go_enter Tryz.func34, Tryz.ntmps34
  go_wp2_with (go_at_call 53; refine (eqHitL_same _ _ _ _).mono ?_; rintro e w1 ⟨rfl, hb1⟩; obtain ⟨hc1, hf1⟩ := bcell hb1; have hz1 := hb1.size; (try simp only [World.size_drew, World.size_alloc, World.size_setCell] at hc1 hf1 hz1); clear hc1 hf1)
  go_ret
  exact ⟨rfl, by repeat (first | with_reducible apply Below.refl | (with_reducible apply Below.setCell; rotate_left; focus (first | omega | (simp; done) | (simp; omega))) | (with_reducible apply Below.alloc; rotate_left; focus (first | omega | (simp; done) | (simp; omega))) | with_reducible apply Below.drew | with_reducible apply belowDrewN | (with_reducible apply Below.trans; rotate_left; with_reducible apply Below.mono; with_reducible assumption; focus (first | omega | (simp; done) | (simp; omega))))⟩
set_option maxRecDepth 20000 in
set_option maxHeartbeats 2000000 in
theorem eqContactS_same (a a' : Option Addr) (n c c' : Nat) (U : Nat → Int) (w : World) (h : Flat w a (n * 5) U) (h' : Flat w a' (n * 5) U) (hn : n ≤ 1048576) :
    Calls Tryz.prog 11 #[.slice a n c, .slice a' n c'] w fun e w' => e = .returned (.bool true) ∧ Below w.heap.size w w' := by
  have hset := cset_map
  go_enter Tryz.func11, Tryz.ntmps11
  go_wp2
  go_loopw [5] (fun i wr => ∃ k : Nat, k ≤ n ∧ i = .int .i64 (k : Int) ∧ Below w.heap.size w wr) (fun i _ => n - (intOf i).toNat)
  case atStart => exact ⟨0, Nat.zero_le _, rfl, Below.refl _ _⟩
  case round =>
    obtain ⟨k, hk, rfl, hB⟩ := hrel
    by_cases hlt : k < n
    · have hkn : (k : Int) < (n : Int) := by omega
      obtain ⟨b, o, rfl, hbl, hc⟩ := (h.below hB) (by omega)
      obtain ⟨b', o', rfl, hbl', hc'⟩ := (h'.below hB) (by omega)
      have c0 := hc (k * 5) (by omega)
      have d0 := hc' (k * 5) (by omega)
      have c1 := hc (k * 5 + 1) (by omega)
      have d1 := hc' (k * 5 + 1) (by omega)
      have c2 := hc (k * 5 + 2) (by omega)
      have d2 := hc' (k * 5 + 2) (by omega)
      have c3 := hc (k * 5 + 3) (by omega)
      have d3 := hc' (k * 5 + 3) (by omega)
      have c4 := hc (k * 5 + 4) (by omega)
      have d4 := hc' (k * 5 + 4) (by omega)
      simp only [← Nat.add_assoc, Nat.add_zero] at c0 d0 c1 d1 c2 d2 c3 d3 c4 d4
      clear hc hc' h h'
      go_upto_region 6 with fail
      refine wp_region_held_drew (S := fun w' => w'.cell? ⟨b, o + k * 5, none⟩ = some (.int .i64 (U (k * 5))) ∧ w'.cell? ⟨b, o + k * 5 + 1, none⟩ = some (.int .i64 (U (k * 5 + 1))) ∧ w'.cell? ⟨b, o + k * 5 + 2, none⟩ = some (.int .i64 (U (k * 5 + 2))) ∧ w'.cell? ⟨b, o + k * 5 + 3, none⟩ = some (.int .i64 (U (k * 5 + 3))) ∧ w'.cell? ⟨b, o + k * 5 + 4, none⟩ = some (.int .i64 (U (k * 5 + 4))) ∧ w'.cell? ⟨b', o' + k * 5, none⟩ = some (.int .i64 (U (k * 5))) ∧ w'.cell? ⟨b', o' + k * 5 + 1, none⟩ = some (.int .i64 (U (k * 5 + 1))) ∧ w'.cell? ⟨b', o' + k * 5 + 2, none⟩ = some (.int .i64 (U (k * 5 + 2))) ∧ w'.cell? ⟨b', o' + k * 5 + 3, none⟩ = some (.int .i64 (U (k * 5 + 3))) ∧ w'.cell? ⟨b', o' + k * 5 + 4, none⟩ = some (.int .i64 (U (k * 5 + 4)))) (by kernel_rfl) ?_ (fun hHeld => ?_)
      · (try dsimp only)
        (first | (go_simp; done) | (go_keep; done))
      refine tq 0 hHeld ?_
      refine tq 1 hHeld ?_
      refine tq 2 hHeld ?_
      refine tq 3 hHeld ?_
      refine tq 4 hHeld ?_
      refine tq 5 hHeld ?_
      refine tq 6 hHeld ?_
      refine tq 7 hHeld ?_
      (refine tc 8 fun K hK => ?_; go_simp; (go_at_call 34; refine (eqContact_same (fun j => U (k * 5 + j)) _).mono ?_; rintro e w1 ⟨rfl, hb1⟩; obtain ⟨hc1, hf1⟩ := bcell hb1; have hz1 := hb1.size; (try simp only [World.size_drew, World.size_alloc, World.size_setCell] at hc1 hf1 hz1); have hk1 := fun o => hc1 b o (by omega); have hk2 := fun o => hc1 b' o (by omega); clear hc1 hf1); (try go_wp2_with fail); refine tr hK (fun hHeld => ?_); clear hK K)
      refine tq 9 hHeld ?_
      refine wpAnyH_done (by kernel_rfl) ?_ _
      go_wp2_with fail
      go_roundw
      case rel => exact ⟨k + 1, by omega, by go_num, hB.trans (hb1.ofDr.mono hB.size)⟩
      case measure => simp [intOf]; omega
    · go_wp2
      go_ret
      exact ⟨rfl, hB⟩
/-- the contacts of a list, if it is ok -/
def conR (n : Nat) (U : Nat → Int) : List Int := bif bodsB n U then conL (colOf U) n else []
theorem conR_len (n : Nat) (U : Nat → Int) : ∃ m, (conR n U).length = m * 5 ∧ m ≤ 144 := by
  unfold conR
  cases h : bodsB n U with
  | false => exact ⟨0, rfl, by omega⟩
  | true =>
    obtain ⟨m, h1, h2⟩ := conOut_len (colOf U) n n
    refine ⟨m, h1, Nat.le_trans h2 ?_⟩
    have h12 : n ≤ 12 := by unfold bodsB at h; rw [Bool.and_eq_true, decide_eq_true_eq] at h; exact h.1
    have := Nat.mul_le_mul h12 h12
    omega
theorem OutL.nil {w : World} {t k : Nat} {R : Nat → Int} : OutL w w t k none 0 0 R := ⟨Below.refl _ _, OwnL.nil _ _ _ _ _⟩
set_option maxRecDepth 20000 in
set_option maxHeartbeats 4000000 in
theorem contactsI_q (a : Option Addr) (n c : Nat) (U : Nat → Int) (N : Nat) (w : World) (h : Flat w a (n * 12) U) (hn : n ≤ 1048576) (hN : (conR n U).length = N * 5) :
    Calls Tryz.prog 10 #[.slice a n c] w fun e w' => ∃ a' c', e = .returned (.slice a' N c') ∧ OutL w w' 63 5 a' N c' (ofL (conR n U)) := by
  have hset := cset_map
  cases hok : bodsB n U with
  | true =>
    have e0 : conR n U = conL (colOf U) n := by unfold conR; rw [hok]; rfl
    rw [e0] at hN ⊢
    clear e0
    have h12 : n ≤ 12 := by unfold bodsB at hok; rw [Bool.and_eq_true, decide_eq_true_eq] at hok; exact hok.1
    go_enter Tryz.func10, Tryz.ntmps10
    go_wp2_with (first
      | (go_at_call 32; refine (columnsOf_ok a n c U _ h hn hok).mono ?_; rintro e w1 ⟨cb, S, rfl, hcb, hC, hb1⟩)
      | (go_at_call 33; refine (contacts_any cb n (colOf U) S _ hC h12).mono ?_; rintro e w2 ⟨a2, m2, c2, rfl, hl2, hO2⟩))
    go_ret
    obtain rfl : m2 = N := by omega
    exact ⟨a2, c2, rfl, hb1.trans (hO2.bel.mono hb1.size), hO2.own.base hb1.size⟩
  | false =>
    have e0 : conR n U = [] := by unfold conR; rw [hok]; rfl
    rw [e0] at hN ⊢
    clear e0
    rw [List.length_nil] at hN
    obtain rfl : N = 0 := by omega
    clear hN
    go_enter Tryz.func10, Tryz.ntmps10
    go_wp2_with (go_at_call 32; refine (columnsOf_no a n c U _ h hn hok).mono ?_; rintro e w1 ⟨rfl, hb1⟩)
    go_ret
    exact ⟨none, 0, rfl, hb1, OwnL.nil _ _ _ _ _⟩
set_option maxRecDepth 20000 in
set_option maxHeartbeats 4000000 in
theorem contactsS_q (a : Option Addr) (n c : Nat) (U : Nat → Int) (N : Nat) (w : World) (h : Flat w a (n * 12) U) (hn : n ≤ 1048576) (hN : (conR n U).length = N * 5) :
    Calls Tryz.prog 8 #[.slice a n c] w fun e w' => ∃ a' c', e = .returned (.slice a' N c') ∧ OutL w w' 63 5 a' N c' (ofL (conR n U)) := by
  have hset := cset_map
  cases hok : bodsB n U with
  | true =>
    have e0 : conR n U = conL (colOf U) n := by unfold conR; rw [hok]; rfl
    rw [e0] at hN ⊢
    clear e0
    have h12 : n ≤ 12 := by unfold bodsB at hok; rw [Bool.and_eq_true, decide_eq_true_eq] at hok; exact hok.1
    go_enter Tryz.func8, Tryz.ntmps8
    go_wp2_with (first
      | (go_at_call 29; refine (sBodiesOk_q a n c U true _ h hn hok).mono ?_; rintro e w1 ⟨rfl, hb1⟩)
      | (go_at_call 30; refine (l7Contacts_any a n c U _ (h.below hb1) hok h12).mono ?_; rintro e w2 ⟨a2, m2, c2, rfl, hl2, hO2⟩))
    go_ret
    obtain rfl : m2 = N := by omega
    exact ⟨a2, c2, rfl, hb1.trans (hO2.bel.mono hb1.size), hO2.own.base hb1.size⟩
  | false =>
    have e0 : conR n U = [] := by unfold conR; rw [hok]; rfl
    rw [e0] at hN ⊢
    clear e0
    rw [List.length_nil] at hN
    obtain rfl : N = 0 := by omega
    clear hN
    go_enter Tryz.func8, Tryz.ntmps8
    go_wp2_with (go_at_call 29; refine (sBodiesOk_q a n c U false _ h hn hok).mono ?_; rintro e w1 ⟨rfl, hb1⟩)
    go_ret
    exact ⟨_, _, rfl, hb1.alloc hb1.size _, ((LsV.new w1 _ _).own.base hb1.size)⟩
theorem contactsI_r {n : Nat} {U R : Nat → Int} (hR : R = ofL (conR n U)) (a : Option Addr) (c N : Nat) (w : World) (h : Flat w a (n * 12) U) (hn : n ≤ 1048576) (hN : (conR n U).length = N * 5) :
    Calls Tryz.prog 10 #[.slice a n c] w fun e w' => ∃ a' c', e = .returned (.slice a' N c') ∧ OutL w w' 63 5 a' N c' R := by subst hR; exact contactsI_q a n c U N w h hn hN
theorem contactsS_r {n : Nat} {U R : Nat → Int} (hR : R = ofL (conR n U)) (a : Option Addr) (c N : Nat) (w : World) (h : Flat w a (n * 12) U) (hn : n ≤ 1048576) (hN : (conR n U).length = N * 5) :
    Calls Tryz.prog 8 #[.slice a n c] w fun e w' => ∃ a' c', e = .returned (.slice a' N c') ∧ OutL w w' 63 5 a' N c' R := by subst hR; exact contactsS_q a n c U N w h hn hN
end Go.Proofs.YtceabgnioncneaaGreat
namespace Go.Proofs.YtceabgnioncneaaGreat
open Go.RowKit
set_option linter.unusedVariables false
set_option linter.unusedSimpArgs false
set_option maxRecDepth 20000 in
set_option maxHeartbeats 8000000 in
theorem fnExactContacts_walk (a : Option Addr) (n c : Nat) (U : Nat → Int)  (w : World) (h : Flat w a (n * 12) U) (hn : (n : Int) ≤ 9223372036854775807) :
    Calls Tryz.prog 3 #[.slice a n c] w fun e w' => e = .returned (.bool true) ∧ Below w.heap.size w w' := by
  have hset := cset_map
  by_cases h20 : n ≤ 1048576
  · have h1 : ¬ (1048576 - (n : Int) < 0) := by omega
    obtain ⟨N, hN5, hN144⟩ := conR_len n U
    have hN20 : N ≤ 1048576 := by omega
    obtain ⟨R, hR⟩ : ∃ R, R = ofL (conR n U) := ⟨_, rfl⟩
    go_enter Tryz.func3, Tryz.ntmps3
    go_upto_region 5 with (go_at_call 7; refine (szBodyS_any _ _ _ _ hn).mono ?_; rw [if_pos h20]; rintro e w0 ⟨rfl, rfl⟩)
    go_cut [4] (fun s wc => ∃ aw cw lw hw, s = .slice aw N cw ∧ w0.heap.size ≤ lw ∧ lw ≤ hw ∧ Below w0.heap.size w0 wc ∧ Lv wc lw hw 63 5 aw N cw R)
    case first =>
      go_wp2_with (first
        | (go_at_call 9; refine (toBodyS_any _ _ _ U _ h h20).mono ?_; rintro e w2 ⟨b2, rfl, hl2, hr2, hb2⟩)
        | (go_at_call 8; refine (contactsS_r hR _ _ N _ hr2.flat h20 hN5).mono ?_; rintro e w3 ⟨a3, c3, rfl, hO3⟩))
      go_meet
      exact ⟨_, _, _, _, rfl, hb2.size, hO3.bel.size, hb2.trans (hO3.bel.mono hb2.size), hO3.lv⟩
    case rest =>
    obtain ⟨aw, cw, lw, hw, rfl, g1, g2, hB, hW⟩ := hcut
    go_upto_region 6 with fail
    go_cut [5] (fun s wc => ∃ ax cx lx hx, s = .slice ax n cx ∧ n ≤ cx ∧ hw ≤ lx ∧ lx ≤ hx ∧ Below w0.heap.size w0 wc ∧ Lv wc lw hw 63 5 aw N cw R ∧ Lv wc lx hx 49 12 ax n cx U)
    case first =>
      go_wp2_with (go_at_call 9; refine (toBodyS_any _ _ _ U _ (h.below hB) h20).mono ?_; rintro e w2 ⟨b2, rfl, hl2, hr2, hb2⟩)
      go_meet
      exact ⟨_, _, _, _, rfl, Nat.le_refl _, hW.le, hb2.size, hB.trans (hb2.mono hB.size), hW.on hb2, Lv.row hr2 hl2 h20⟩
    case rest =>
    clear hB hW
    obtain ⟨ax, cx, lx, hx, rfl, hcx, g3, g4, hB, hW, hX⟩ := hcut
    go_upto_region 7 with fail
    go_cut [6] (fun s wc => ∃ ag cg lg hg, s = .slice ag N cg ∧ hx ≤ lg ∧ lg ≤ hg ∧ Below w0.heap.size w0 wc ∧ Lv wc lw hw 63 5 aw N cw R ∧ Lv wc lx hx 49 12 ax n cx U ∧ Lv wc lg hg 63 5 ag N cg R)
    case first =>
      go_wp2_with (go_at_call 10; refine (contactsI_r hR _ _ N _ hX.flat h20 hN5).mono ?_; rintro e w3 ⟨a3, c3, rfl, hO3⟩)
      go_meet
      exact ⟨_, _, _, _, rfl, hX.le, hO3.bel.size, hB.trans (hO3.bel.mono hB.size), hW.on hO3.bel, hX.on hO3.bel, hO3.lv⟩
    case rest =>
    clear hB hW hX
    obtain ⟨ag, cg, lg, hg, rfl, g5, g6, hB, hW, hX, hG⟩ := hcut
    go_upto_region 8 with fail
    go_cut [26] (fun s wc => s = .bool false ∧ Below w0.heap.size w0 wc ∧ Lv wc lw hw 63 5 aw N cw R ∧ Lv wc lx hx 49 12 ax n cx U ∧ Lv wc lg hg 63 5 ag N cg R)
    case first =>
      go_wp2_with (go_at_call 11; refine (eqContactS_same _ _ _ _ _ R _ hG.flat hW.flat hN20).mono ?_; rintro e w8 ⟨rfl, hb8⟩)
      go_meet
      exact ⟨rfl, hB.trans (hb8.mono hB.size), hW.on hb8, hX.on hb8, hG.on hb8⟩
    case rest =>
    clear hB hW hX hG
    obtain ⟨rfl, hB, hW, hX, hG⟩ := hcut
    go_upto_region 10 with fail
    go_cut [31] (fun s wc => s = .bool false ∧ Below w0.heap.size w0 wc ∧ Lv wc lw hw 63 5 aw N cw R ∧ Lv wc lx hx 49 12 ax n cx U ∧ Lv wc lg hg 63 5 ag N cg R)
    case first =>
      go_wp2_with (first
        | (go_at_call 9; refine (toBodyS_any _ _ _ U _ (h.below hB) h20).mono ?_; rintro e w6 ⟨b6, rfl, hl6, hr6, hb6⟩)
        | (go_at_call 12; refine (eqBodyS_same _ _ _ _ _ U _ (hX.on hb6).flat hr6.flat h20).mono ?_; rintro e w7 ⟨rfl, hb7⟩))
      go_meet
      have hb67 := hb6.trans (hb7.mono hb6.size)
      exact ⟨rfl, hB.trans (hb67.mono hB.size), hW.on hb67, hX.on hb67, hG.on hb67⟩
    case rest =>
    clear hB hW hX hG
    obtain ⟨rfl, hB, hW, hX, hG⟩ := hcut
    go_upto_region 13 with fail
    go_cut [7] (fun s wc => s = .int .i64 (1 + (n : Int) * 12) ∧ Below w0.heap.size w0 wc ∧ Lv wc lw hw 63 5 aw N cw R ∧ Lv wc lx hx 49 12 ax n cx (fun q => 1 + (q : Int)) ∧ Lv wc lg hg 63 5 ag N cg R)
    case first =>
      go_wp2_with (go_at_call 13; refine (markBodyS_any lx _ _ _ U _ hX.own (by omega)).mono ?_; rintro e w2 ⟨rfl, ho2, hg2⟩)
      go_meet
      exact ⟨rfl, hX.below hB hB.size hg2 (by omega), hW.gr hX hg2 (.inl (by omega)), hX.me hg2 ho2, hG.gr hX hg2 (.inr (by omega))⟩
    case rest =>
    clear hB hW hX hG
    obtain ⟨rfl, hB, hW, hX, hG⟩ := hcut
    have hk0 : ¬ ((1 + (n : Int) * 12) < 0) := by omega
    go_upto_region 14 with fail
    go_cut [42] (fun s wc => s = .bool false ∧ Below w0.heap.size w0 wc ∧ Lv wc lw hw 63 5 aw N cw R ∧ Lv wc lx hx 49 12 ax n cx (fun q => 1 + (q : Int)) ∧ Lv wc lg hg 63 5 ag N cg R)
    case first =>
      go_wp2_with (go_at_call 11; refine (eqContactS_same _ _ _ _ _ R _ hG.flat hW.flat hN20).mono ?_; rintro e w9 ⟨rfl, hb9⟩)
      go_meet
      exact ⟨rfl, hB.trans (hb9.mono hB.size), hW.on hb9, hX.on hb9, hG.on hb9⟩
    case rest =>
    clear hB hW hX hG
    obtain ⟨rfl, hB, hW, hX, hG⟩ := hcut
    go_upto_region 17 with fail
    go_cut [8] (fun s wc => s = .int .i64 (1 + (N : Int) * 5) ∧ Below w0.heap.size w0 wc ∧ Lv wc lw hw 63 5 aw N cw R ∧ Lv wc lx hx 49 12 ax n cx (fun q => 1 + (q : Int)) ∧ Lv wc lg hg 63 5 ag N cg (fun q => 1 + (q : Int)))
    case first =>
      go_wp2_with (go_at_call 14; refine (markContactS_any lg _ _ _ R _ hG.own (by omega)).mono ?_; rintro e w2 ⟨rfl, ho2, hg2⟩)
      go_meet
      exact ⟨rfl, hG.below hB hB.size hg2 (by omega), hW.gr hG hg2 (.inl (by omega)), hX.gr hG hg2 (.inl (by omega)), hG.me hg2 ho2⟩
    case rest =>
    clear hB hW hX hG
    obtain ⟨rfl, hB, hW, hX, hG⟩ := hcut
    have hk1 : ¬ ((1 + (N : Int) * 5) < 0) := by omega
    go_upto_region 19 with fail
    go_cut [9] (fun s wc => s = .int .i64 (1 + (N : Int) * 5) ∧ Below w0.heap.size w0 wc ∧ Lv wc lw hw 63 5 aw N cw R ∧ Lv wc lx hx 49 12 ax n cx (fun q => 1 + (q : Int)) ∧ Lv wc lg hg 63 5 ag N cg (fun q => 1 + (q : Int)))
    case first =>
      go_wp2_with (go_at_call 15; refine (heldContactS_any _ _ _ _ hG.flat (by omega)).mono ?_; rintro e w2 ⟨rfl, rfl⟩)
      go_meet
      exact ⟨rfl, hB, hW, hX, hG⟩
    case rest =>
    clear hB hW hX hG
    obtain ⟨rfl, hB, hW, hX, hG⟩ := hcut
    go_upto_region 24 with fail
    go_cut [10] (fun s wc => ∃ ah ch lh hh, s = .slice ah N ch ∧ Below w0.heap.size w0 wc ∧ Lv wc lw hw 63 5 aw N cw R ∧ Lv wc lx hx 49 12 ax n cx (fun q => 1 + (q : Int)) ∧ Lv wc lg hg 63 5 ag N cg (fun q => 1 + (q : Int)) ∧ Lv wc lh hh 63 5 ah N ch R)
    case first =>
      go_wp2_with (first
        | (go_at_call 9; refine (toBodyS_any _ _ _ U _ (h.below hB) h20).mono ?_; rintro e w2 ⟨b2, rfl, hl2, hr2, hb2⟩)
        | (go_at_call 10; refine (contactsI_r hR _ _ N _ hr2.flat h20 hN5).mono ?_; rintro e w3 ⟨a3, c3, rfl, hO3⟩))
      go_meet
      have hb23 := hb2.trans (hO3.bel.mono hb2.size)
      exact ⟨_, _, _, _, rfl, hB.trans (hb23.mono hB.size), hW.on hb23, hX.on hb23, hG.on hb23, hO3.lv⟩
    case rest =>
    clear hB hW hX hG
    obtain ⟨ah, ch, lh, hh, rfl, hB, hW, hX, hG, hH⟩ := hcut
    go_upto_region 25 with fail
    go_cut [60] (fun s wc => s = .bool false ∧ Below w0.heap.size w0 wc ∧ Lv wc lg hg 63 5 ag N cg (fun q => 1 + (q : Int)))
    case first =>
      go_wp2_with (go_at_call 11; refine (eqContactS_same _ _ _ _ _ R _ hH.flat hW.flat hN20).mono ?_; rintro e w9 ⟨rfl, hb9⟩)
      go_meet
      exact ⟨rfl, hB.trans (hb9.mono hB.size), hG.on hb9⟩
    case rest =>
    clear hB hW hX hG hH
    obtain ⟨rfl, hB, hG⟩ := hcut
    go_upto_region 28 with fail
    go_wp2_with (go_at_call 15; refine (heldContactS_any _ _ _ _ hG.flat (by omega)).mono ?_; rintro e w2 ⟨rfl, rfl⟩)
    go_ret
    exact ⟨rfl, hB⟩
  · have h1 : (1048576 - (n : Int) < 0) := by omega
    go_enter Tryz.func3, Tryz.ntmps3
    go_wp2_with (go_at_call 7; refine (szBodyS_any _ _ _ _ hn).mono ?_; rw [if_neg h20]; rintro e w0 ⟨rfl, rfl⟩)
    go_ret
    exact ⟨rfl, Below.refl _ _⟩
end Go.Proofs.YtceabgnioncneaaGreat
namespace Go.Proofs.YtceabgnioncneaaGreat
theorem head_cut {l : List (List Char)} {c : List Char} (h : (l.head? == some c) = true) : ∃ rest, l = c :: rest := by
  cases l with
  | nil => simp at h
  | cons a r => simp at h; exact ⟨r, by rw [h]⟩
theorem strip_cut (rest : List (List Char)) : stripLifts liftWords ("cut".toList :: rest) = ([], "cut".toList :: rest) := by kernel_rfl
theorem make_of {P : Program} {l : List Char} (h0 : P.initOrder.toList = l) (h1 : ((behindMainWord (wordsSigns l)).head? == some "cut".toList) = true) : P.make = some .cut := by
  obtain ⟨rest, hr⟩ := head_cut h1
  unfold Program.make
  rw [h0, hr]
  rfl
theorem headLifts_of {P : Program} {l : List Char} (h0 : P.initOrder.toList = l) (h1 : ((behindMainWord (wordsSigns l)).head? == some "cut".toList) = true) : P.headLifts = [] := by
  obtain ⟨rest, hr⟩ := head_cut h1
  unfold Program.headLifts
  rw [h0, hr, strip_cut]
  rfl
theorem liftsFinal_of {P : Program} {l : List Char} (h0 : P.initOrder.toList = l) (h1 : ((behindMainWord (wordsSigns l)).head? == some "cut".toList) = true) : P.liftsFinal = false := by
  have hh := headLifts_of h0 h1
  obtain ⟨rest, hr⟩ := head_cut h1
  unfold Program.liftsFinal
  rw [h0, hr, hh]
  rfl
theorem mayEnter_of {P : Program} {l : List Char} (h0 : P.initOrder.toList = l) (h1 : ((behindMainWord (wordsSigns l)).head? == some "cut".toList) = true) (h2 : P.laysLater = false) (h3 : P.bearsReflect = false) (h4 : P.doorFits [] = true) : P.mayEnter = true := by
  obtain ⟨rest, hr⟩ := head_cut h1
  unfold Program.mayEnter
  rw [h0, hr]
  simp only [strip_cut, h2, h3, h4]
  simp
end Go.Proofs.YtceabgnioncneaaGreat
namespace Go.Proofs.YtceabgnioncneaaGreat
set_option maxRecDepth 100000
def ordL : { l : List Char // Tryz.prog.initOrder = String.ofList l } := ⟨_, rfl⟩
theorem ordT : Tryz.prog.initOrder.toList = ordL.1 := (congrArg String.toList ordL.2).trans String.toList_ofList
theorem headE : ((behindMainWord (wordsSigns ordL.1)).head? == some "cut".toList) = true := by kernel_rfl
theorem makeT : Tryz.prog.make = some .cut := make_of ordT headE
theorem liftsFinalT : Tryz.prog.liftsFinal = false := liftsFinal_of ordT headE
theorem laysLaterT : Tryz.prog.laysLater = false := by kernel_rfl
theorem bearsReflectT : Tryz.prog.bearsReflect = false := by kernel_rfl
theorem doorFitsT : Tryz.prog.doorFits [] = true := by kernel_rfl
theorem mayEnterT : Tryz.prog.mayEnter = true := mayEnter_of ordT headE laysLaterT bearsReflectT doorFitsT
theorem ownT : ownKnob Tryz.prog.godebug = none := by kernel_rfl
theorem laidOutT : laidOutB Tryz.prog = true := by kernel_rfl
theorem mapsRowedT : mapsRowed Tryz.prog = true := by kernel_rfl
theorem stopsHeardT : Tryz.prog.stopsHeard = true := by kernel_rfl
theorem plainKeysT : Tryz.prog.plainKeys = true := by kernel_rfl
end Go.Proofs.YtceabgnioncneaaGreat
namespace Go.Proofs.YtceabgnioncneaaGreat
open Go.RowKit Go.ChangeShapes Go.WideShapes Go.Deep
set_option linter.unusedVariables false
set_option linter.unusedSimpArgs false
/-- what is read at the type is k numbers -/
def IntsOf (P : Program) (e : TypeId) (k : Nat) : Prop :=
  ∀ (H : Type) (enc : TypeId × Value → H) (w : World) (base : Nat) (spare : Nat → Bool) (held : Bool) (fuel : Nat) (cs : List Value) (x : DataW H × List MemPlace),
    DataW.trod enc P w base spare held fuel e cs = some x → cs.length = k ∧ ∀ j, j < k → ∃ v : Int, cs[j]? = some (.int .i64 v) ∧ (Lit.int .i64 v).wf = true
theorem IntsOf.int {P : Program} {e : TypeId} (h : P.underlying e = some (.int .i64)) : IntsOf P e 1 := by
  intro H enc w base spare held fuel cs x hx
  obtain ⟨v, h1, _, h3⟩ := DataW.trod_int h hx
  subst h1
  refine ⟨rfl, fun j hj => ?_⟩
  obtain rfl : j = 0 := by omega
  exact ⟨v, rfl, h3⟩
theorem IntsOf.struct {P : Program} {t : TypeId} {k : Nat} {fs : Array Field} (cs_ : List Nat) (ht : P.underlying t = some (.struct fs)) (hk : P.cellsOf t = k)
    (hf : ∀ (i : Nat) (f : Field) (c : Nat), fs[i]? = some f → cs_[i]? = some c → P.cellsOf f.type = c ∧ IntsOf P f.type c)
    (cover : (List.range k).all (fun j => (List.range fs.size).any fun i => match fs[i]?, cs_[i]? with | some f, some c => decide (f.offset ≤ j ∧ j < f.offset + c) | _, _ => false) = true) : IntsOf P t k := by
  intro H enc w base spare held fuel cs x hx
  obtain ⟨xs, n, _, _, hl, hlen, hg⟩ := DataW.trod_struct ht hx
  rw [hk] at hl
  refine ⟨hl, fun j hj => ?_⟩
  rw [List.all_eq_true] at cover
  have c1 := cover j (List.mem_range.2 hj)
  rw [List.any_eq_true] at c1
  obtain ⟨i, hi, hm⟩ := c1
  have hi' := List.mem_range.1 hi
  cases hfi : fs[i]? with
  | none => simp [hfi] at hm
  | some f =>
    cases hci : cs_[i]? with
    | none => simp [hfi, hci] at hm
    | some c =>
      simp only [hfi, hci, decide_eq_true_eq] at hm
      obtain ⟨hc, hI⟩ := hf i f c hfi hci
      have g := hg i f hfi
      rw [hc] at g
      have hxi : i < xs.length := by rw [hlen]; exact hi'
      rw [List.getElem?_eq_getElem hxi] at g
      obtain ⟨_, q⟩ := hI H enc w base spare held _ _ _ g
      obtain ⟨v, hv, hw⟩ := q (j - f.offset) (by omega)
      refine ⟨v, ?_, hw⟩
      rw [List.getElem?_take, if_pos (by omega), List.getElem?_drop, show f.offset + (j - f.offset) = j by omega] at hv
      exact hv
theorem open_flat {P : Program} {t e : TypeId} {k : Nat} (hk0 : 0 < k) (ht : P.underlying t = some (.slice e)) (hk : P.cellsOf e = k) (hE : IntsOf P e k)
    {H : Type} {enc : TypeId × Value → H} {w : World} {base : Nat} {spare : Nat → Bool} {held : Bool} {fuel : Nat} {v : Value} {x : DataW H × List MemPlace}
    (h : DataW.trod enc P w base spare held fuel t [v] = some x) :
    ∃ (a : Option Addr) (n c : Nat) (U : Nat → Int), v = .slice a n c ∧ (n : Int) ≤ 9223372036854775807 ∧ Flat w a (n * k) U ∧ ∀ q, q < n * k → (Lit.int .i64 (U q)).wf = true := by
  rcases open_slice ht h with ⟨hc, _⟩ | ⟨a, len, cap, m, fu, D, Pl, hc, hb, hl, hm, hmm, _, hall⟩
  · simp only [List.cons.injEq, and_true] at hc
    subst hc
    exact ⟨none, 0, 0, fun _ => 0, rfl, by omega, by rw [Nat.zero_mul]; exact Flat.nil, fun q hq => by omega⟩
  · simp only [List.cons.injEq, and_true] at hc
    subst hc
    have hlm : len ≤ m := by rw [hmm]; split <;> omega
    have one : ∀ q, q < len * k → ∃ z : Int, w.cell? (a.add q) = some (.int .i64 z) ∧ (Lit.int .i64 z).wf = true := by
      intro q hq
      have hi : q / k < len := Nat.div_lt_of_lt_mul (by rw [Nat.mul_comm]; exact hq)
      obtain ⟨cs', h1, h2⟩ := hall (q / k) (by omega)
      obtain ⟨_, hlen, hcell⟩ := World.cells?_some h1
      obtain ⟨_, hv⟩ := hE H enc w base spare held _ _ _ h2
      obtain ⟨z, hz, hw⟩ := hv (q % k) (Nat.mod_lt _ hk0)
      have := hcell (q % k) (by rw [hk]; exact Nat.mod_lt _ hk0)
      rw [hz, hk, add_add, Nat.mul_comm, Nat.div_add_mod] at this
      exact ⟨z, this, hw⟩
    obtain ⟨U, hU⟩ := choose_lt one
    refine ⟨some a, len, cap, U, rfl, by unfold maxLen at hm; omega, ?_, fun q hq => (hU q hq).2⟩
    intro h0
    obtain ⟨b, o, spot⟩ := a
    have g0 := (hU 0 h0).1
    have hspot : spot = none := by simpa [Addr.add] using World.cell?_spot g0
    subst hspot
    have hbl := World.block_lt_of_cell? w _ g0
    simp only [Addr.add, if_true] at hbl
    refine ⟨b, o, rfl, hbl, fun q hq => ?_⟩
    have := (hU q hq).1
    by_cases hq0 : q = 0
    · subst hq0; simpa [Addr.add] using this
    · simpa [Addr.add, hq0] using this
end Go.Proofs.YtceabgnioncneaaGreat
namespace Go.Proofs.YtceabgnioncneaaGreat
open Go.RowKit Go.ChangeShapes Go.WideShapes Go.Deep
set_option linter.unusedVariables false
set_option linter.unusedSimpArgs false
theorem cellsI : Tryz.prog.cellsOf 3 = 1 := by kernel_rfl
theorem cellsV : Tryz.prog.cellsOf 52 = 2 := by kernel_rfl
theorem cellsSh : Tryz.prog.cellsOf 51 = 3 := by kernel_rfl
theorem cellsBd : Tryz.prog.cellsOf 54 = 12 := by kernel_rfl
theorem cellsSlB : Tryz.prog.cellsOf 22 = 1 := by kernel_rfl
theorem intsI : IntsOf Tryz.prog 3 1 := IntsOf.int Tryz.underlying3
theorem intsV : IntsOf Tryz.prog 52 2 := IntsOf.struct [1, 1] Tryz.underlying52 (by kernel_rfl) (fun i f c h1 h2 => match i, h1, h2 with
  | 0, h1, h2 => by cases h1; cases h2; exact ⟨cellsI, intsI⟩
  | 1, h1, h2 => by cases h1; cases h2; exact ⟨cellsI, intsI⟩
  | _ + 2, h1, h2 => by simp at h2) (by decide)
theorem intsSh : IntsOf Tryz.prog 51 3 := IntsOf.struct [1, 1, 1] Tryz.underlying51 (by kernel_rfl) (fun i f c h1 h2 => match i, h1, h2 with
  | 0, h1, h2 => by cases h1; cases h2; exact ⟨cellsI, intsI⟩
  | 1, h1, h2 => by cases h1; cases h2; exact ⟨cellsI, intsI⟩
  | 2, h1, h2 => by cases h1; cases h2; exact ⟨cellsI, intsI⟩
  | _ + 3, h1, h2 => by simp at h2) (by decide)
theorem intsBd : IntsOf Tryz.prog 54 12 := IntsOf.struct [1, 3, 2, 2, 1, 1, 1, 1] Tryz.underlying54 (by kernel_rfl) (fun i f c h1 h2 => match i, h1, h2 with
  | 0, h1, h2 => by cases h1; cases h2; exact ⟨cellsI, intsI⟩
  | 1, h1, h2 => by cases h1; cases h2; exact ⟨cellsSh, intsSh⟩
  | 2, h1, h2 => by cases h1; cases h2; exact ⟨cellsV, intsV⟩
  | 3, h1, h2 => by cases h1; cases h2; exact ⟨cellsV, intsV⟩
  | 4, h1, h2 => by cases h1; cases h2; exact ⟨cellsI, intsI⟩
  | 5, h1, h2 => by cases h1; cases h2; exact ⟨cellsI, intsI⟩
  | 6, h1, h2 => by cases h1; cases h2; exact ⟨cellsI, intsI⟩
  | 7, h1, h2 => by cases h1; cases h2; exact ⟨cellsI, intsI⟩
  | _ + 8, h1, h2 => by simp at h2) (by decide)
set_option maxRecDepth 100000 in
theorem open_bodies {H : Type} {enc : TypeId × Value → H} {W : World} {base b0 : Nat} {spare : Nat → Bool} {held : Bool} {v : Value} {d : DataW H} {p : List MemPlace}
    (hv : Value.okWide Tryz.prog W .any b0 22 v) (h : DataW.Trod enc Tryz.prog W base spare held 22 v d p) :
    ∃ (a : Option Addr) (n c : Nat) (U : Nat → Int), v = .slice a n c ∧ (n : Int) ≤ 9223372036854775807 ∧ Flat W a (n * 12) U ∧ ∀ q, q < n * 12 → (Lit.int .i64 (U q)).wf = true := by
  obtain ⟨a0, len, cap, rfl⟩ := okWide_slice Tryz.underlying22 hv
  obtain ⟨fuel, hf⟩ := h
  exact open_flat (by decide) Tryz.underlying22 cellsBd intsBd hf
end Go.Proofs.YtceabgnioncneaaGreat
