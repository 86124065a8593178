/- Contacts: turned into the program's own, marked from any number on, how great; bodies held. The walk of the exact law of PushAll. Lemmas on whatever program: from the head of its cut's word to the closed facts. Closed facts of the loaded program, each a theorem of its own. Slices of things that are numbers alone, as they come in. Lists of bodies, as they come in. Lists of contacts, as they come in. -/
import Derived.Test.YtejminehbnebmaaGreatB15
import Derived.Deep.RegionHeld3
import Derived.Deep.DeepCutAuto
import Derived.Test.YtejminehbnebmaaGreatB19
import Derived.Test.YtejminehbnebmaaGreatB21
import Derived.Test.YtejminehbnebmaaGreatRows
import Derived.WalkKit
import Derived.JoinedOf
import Derived.ProofKit
import Derived.Test.YtejminehbnebmaaGreatB1
import Derived.Deep.Slices
import Derived.ChangeSame
import Derived.ChangeArms
namespace Go.Proofs.YtejminehbnebmaaGreat
open Go.RowKit
set_option linter.unusedVariables false
set_option linter.unusedSimpArgs false
set_option maxRecDepth 20000 in
set_option maxHeartbeats 2000000 in
theorem heldBodyS_any (a : Option Addr) (n c : Nat) (w : World) (h : Flat w a (n * 12) (fun q => 1 + (q : Int))) (hn : n ≤ 2097152) :
    Calls Tryz.prog 14 #[.slice a n c, .int .i64 1] w fun e w' => e = .returned (.int .i64 (1 + (n : Int) * 12)) ∧ w' = w := by
  go_enter Tryz.func14, Tryz.ntmps14
  go_wp2
  go_loop [1, 5] (fun s i => ∃ j : Nat, j ≤ n ∧ i = .int .i64 (j : Int) ∧ s = .int .i64 (1 + (j : Int) * 12)) (fun _ i => n - (intOf i).toNat)
  case atStart => exact ⟨0, Nat.zero_le _, rfl, rfl⟩
  case round =>
    obtain ⟨j, hj, rfl, rfl⟩ := hrel
    by_cases hlt : j < n
    · have hjn : (j : Int) < (n : Int) := by omega
      obtain ⟨b, o, rfl, hbl, hc⟩ := h (by omega)
      have c0 : w.cell? ⟨b, o + j * 12, none⟩ = some (.int .i64 (1 + (j : Int) * 12)) := (hc (j * 12) (by omega)).trans (congrArg (fun z => some (Value.int .i64 z)) (show (1 : Int) + ((j * 12 : Nat) : Int) = 1 + (j : Int) * 12 by omega))
      have c1 : w.cell? ⟨b, o + j * 12 + 1, none⟩ = some (.int .i64 (1 + (j : Int) * 12 + 1)) := (hc (j * 12 + 1) (by omega)).trans (congrArg (fun z => some (Value.int .i64 z)) (show (1 : Int) + ((j * 12 + 1 : Nat) : Int) = 1 + (j : Int) * 12 + 1 by omega))
      have c2 : w.cell? ⟨b, o + j * 12 + 2, none⟩ = some (.int .i64 (1 + (j : Int) * 12 + 1 + 1)) := (hc (j * 12 + 2) (by omega)).trans (congrArg (fun z => some (Value.int .i64 z)) (show (1 : Int) + ((j * 12 + 2 : Nat) : Int) = 1 + (j : Int) * 12 + 1 + 1 by omega))
      have c3 : w.cell? ⟨b, o + j * 12 + 3, none⟩ = some (.int .i64 (1 + (j : Int) * 12 + 1 + 1 + 1)) := (hc (j * 12 + 3) (by omega)).trans (congrArg (fun z => some (Value.int .i64 z)) (show (1 : Int) + ((j * 12 + 3 : Nat) : Int) = 1 + (j : Int) * 12 + 1 + 1 + 1 by omega))
      have c4 : w.cell? ⟨b, o + j * 12 + 4, none⟩ = some (.int .i64 (1 + (j : Int) * 12 + 1 + 1 + 1 + 1)) := (hc (j * 12 + 4) (by omega)).trans (congrArg (fun z => some (Value.int .i64 z)) (show (1 : Int) + ((j * 12 + 4 : Nat) : Int) = 1 + (j : Int) * 12 + 1 + 1 + 1 + 1 by omega))
      have c5 : w.cell? ⟨b, o + j * 12 + 5, none⟩ = some (.int .i64 (1 + (j : Int) * 12 + 1 + 1 + 1 + 1 + 1)) := (hc (j * 12 + 5) (by omega)).trans (congrArg (fun z => some (Value.int .i64 z)) (show (1 : Int) + ((j * 12 + 5 : Nat) : Int) = 1 + (j : Int) * 12 + 1 + 1 + 1 + 1 + 1 by omega))
      have c6 : w.cell? ⟨b, o + j * 12 + 6, none⟩ = some (.int .i64 (1 + (j : Int) * 12 + 1 + 1 + 1 + 1 + 1 + 1)) := (hc (j * 12 + 6) (by omega)).trans (congrArg (fun z => some (Value.int .i64 z)) (show (1 : Int) + ((j * 12 + 6 : Nat) : Int) = 1 + (j : Int) * 12 + 1 + 1 + 1 + 1 + 1 + 1 by omega))
      have c7 : w.cell? ⟨b, o + j * 12 + 7, none⟩ = some (.int .i64 (1 + (j : Int) * 12 + 1 + 1 + 1 + 1 + 1 + 1 + 1)) := (hc (j * 12 + 7) (by omega)).trans (congrArg (fun z => some (Value.int .i64 z)) (show (1 : Int) + ((j * 12 + 7 : Nat) : Int) = 1 + (j : Int) * 12 + 1 + 1 + 1 + 1 + 1 + 1 + 1 by omega))
      have c8 : w.cell? ⟨b, o + j * 12 + 8, none⟩ = some (.int .i64 (1 + (j : Int) * 12 + 1 + 1 + 1 + 1 + 1 + 1 + 1 + 1)) := (hc (j * 12 + 8) (by omega)).trans (congrArg (fun z => some (Value.int .i64 z)) (show (1 : Int) + ((j * 12 + 8 : Nat) : Int) = 1 + (j : Int) * 12 + 1 + 1 + 1 + 1 + 1 + 1 + 1 + 1 by omega))
      have c9 : w.cell? ⟨b, o + j * 12 + 9, none⟩ = some (.int .i64 (1 + (j : Int) * 12 + 1 + 1 + 1 + 1 + 1 + 1 + 1 + 1 + 1)) := (hc (j * 12 + 9) (by omega)).trans (congrArg (fun z => some (Value.int .i64 z)) (show (1 : Int) + ((j * 12 + 9 : Nat) : Int) = 1 + (j : Int) * 12 + 1 + 1 + 1 + 1 + 1 + 1 + 1 + 1 + 1 by omega))
      have c10 : w.cell? ⟨b, o + j * 12 + 10, none⟩ = some (.int .i64 (1 + (j : Int) * 12 + 1 + 1 + 1 + 1 + 1 + 1 + 1 + 1 + 1 + 1)) := (hc (j * 12 + 10) (by omega)).trans (congrArg (fun z => some (Value.int .i64 z)) (show (1 : Int) + ((j * 12 + 10 : Nat) : Int) = 1 + (j : Int) * 12 + 1 + 1 + 1 + 1 + 1 + 1 + 1 + 1 + 1 + 1 by omega))
      have c11 : w.cell? ⟨b, o + j * 12 + 11, none⟩ = some (.int .i64 (1 + (j : Int) * 12 + 1 + 1 + 1 + 1 + 1 + 1 + 1 + 1 + 1 + 1 + 1)) := (hc (j * 12 + 11) (by omega)).trans (congrArg (fun z => some (Value.int .i64 z)) (show (1 : Int) + ((j * 12 + 11 : Nat) : Int) = 1 + (j : Int) * 12 + 1 + 1 + 1 + 1 + 1 + 1 + 1 + 1 + 1 + 1 + 1 by omega))
      clear hc h
      go_wp2
      go_round
      case rel => exact ⟨j + 1, by omega, by go_num, congrArg (Value.int .i64) (by omega)⟩
      case measure => simp [intOf]; omega
    · obtain rfl : j = n := by omega
      go_wp2
      go_ret
      exact ⟨rfl, rfl⟩
set_option maxHeartbeats 4000000 in
theorem toHit_any (x y k : Int) (w : World) :
    Calls Tryz.prog 32 #[s3 x y k] w fun e w' => e = .returned (s3 x y k) ∧ Below w.heap.size w w' := by
  have hset := cset_map
  go_enter Tryz.func32, Tryz.ntmps32
  go_wp2_with (go_at_call 31; refine (toVec_any _ _ _).mono ?_; rintro e w1 ⟨rfl, hb1⟩; obtain ⟨hc1, hf1⟩ := bcell hb1; have hz1 := hb1.size; (try simp only [World.size_drew, World.size_alloc, World.size_setCell] at hc1 hf1 hz1); have hk1x0 := fun o => hc1 (w.heap.size) o (by omega); have hj1x0 := fun o => hf1 (w.heap.size) o (by omega); have hq1x0 : w.heap.size < w1.heap.size := (by omega); have hk1x1 := fun o => hc1 (w.heap.size + 1) o (by omega); have hj1x1 := fun o => hf1 (w.heap.size + 1) o (by omega); have hq1x1 : w.heap.size + 1 < w1.heap.size := (by omega); have hk1x2 := fun o => hc1 (w.heap.size + 1 + 1) o (by omega); have hj1x2 := fun o => hf1 (w.heap.size + 1 + 1) o (by omega); have hq1x2 : w.heap.size + 1 + 1 < w1.heap.size := (by omega); clear hc1 hf1)
  exact bodyPost_ret (v := s3 x y k) (by simp [results, Tryz.results32, go_sem, *]) rfl ⟨rfl, bel_a⟩
set_option maxHeartbeats 4000000 in
theorem toContact_any (V : Nat → Int) (w : World) :
    Calls Tryz.prog 19 #[conW V] w fun e w' => e = .returned (conW V) ∧ Below w.heap.size w w' := by
  have hset := cset_map
  go_enter Tryz.func19, Tryz.ntmps19
  go_wp2_with (go_at_call 32; refine (toHit_any _ _ _ _).mono ?_; rintro e w1 ⟨rfl, hb1⟩; obtain ⟨hc1, hf1⟩ := bcell hb1; have hz1 := hb1.size; (try simp only [World.size_drew, World.size_alloc, World.size_setCell] at hc1 hf1 hz1); have hk1x0 := fun o => hc1 (w.heap.size) o (by omega); have hj1x0 := fun o => hf1 (w.heap.size) o (by omega); have hq1x0 : w.heap.size < w1.heap.size := (by omega); have hk1x1 := fun o => hc1 (w.heap.size + 1) o (by omega); have hj1x1 := fun o => hf1 (w.heap.size + 1) o (by omega); have hq1x1 : w.heap.size + 1 < w1.heap.size := (by omega); have hk1x2 := fun o => hc1 (w.heap.size + 1 + 1) o (by omega); have hj1x2 := fun o => hf1 (w.heap.size + 1 + 1) o (by omega); have hq1x2 : w.heap.size + 1 + 1 < w1.heap.size := (by omega); clear hc1 hf1)
  exact bodyPost_ret (v := conW V) (by simp [results, Tryz.results19, go_sem, *]) rfl ⟨rfl, bel_a⟩
abbrev zeroCt : Value := .agg #[.int .i64 0, .int .i64 0, .int .i64 0, .int .i64 0, .int .i64 0]
theorem makeContacts (n : Nat) (hn : n ≤ 1048576) (w : World) : (Instr.makeSlice 29 (.int .i64 (n : Int)) (.int .i64 (n : Int))).run Tryz.prog w = .ok (.slice (some ⟨w.heap.size, 0, none⟩) n n) (w.alloc (.cells (madeCells zeroCt.cells (n * 5)) 52)) :=
  make_rows _ _ zeroCt 5 40 Tryz.underlying29 (by kernel_rfl) _ _ n (by omega) (by omega) w
set_option maxRecDepth 20000 in
set_option maxHeartbeats 2000000 in
theorem toContactS_any (a : Option Addr) (n c : Nat) (U : Nat → Int) (w : World) (h : Flat w a (n * 5) U) (hn : n ≤ 1048576) :
    Calls Tryz.prog 8 #[.slice a n c] w fun e w' => ∃ b, e = .returned (.slice (some ⟨b, 0, none⟩) n n) ∧ w.heap.size ≤ b ∧ Row w' b 52 (n * 5) U ∧ Below w.heap.size w w' := by
  have hmk := makeContacts n hn
  go_enter Tryz.func8, Tryz.ntmps8
  go_wp2
  clear hmk
  go_loopw [4] (fun i wr => ∃ k : Nat, k ≤ n ∧ i = .int .i64 (k : Int) ∧ Row wr w.heap.size 52 (n * 5) (upto (k * 5) U) ∧ Below w.heap.size w wr) (fun i _ => n - (intOf i).toNat)
  case atStart => exact ⟨0, Nat.zero_le _, rfl, (Row.madek w _ 5 _ _ rfl (by decide) U).cut (by omega), (Below.refl _ _).alloc (Nat.le_refl _) _⟩
  case round =>
    obtain ⟨k, hk, rfl, hr, hbel⟩ := hrel
    have hrl := hr.lt
    by_cases hlt : k < n
    · obtain ⟨b, o, rfl, hbl, hc⟩ := (h.below hbel) (by omega)
      have c0 := hc (k * 5) (by omega)
      have c1 := hc (k * 5 + 1) (by omega)
      have c2 := hc (k * 5 + 2) (by omega)
      have c3 := hc (k * 5 + 3) (by omega)
      have c4 := hc (k * 5 + 4) (by omega)
      simp only [← Nat.add_assoc] at c0 c1 c2 c3 c4
      clear hc h
      go_wp2_with (go_at_call 19; refine (toContact_any (fun j => U (k * 5 + j)) _).mono ?_; rintro e w1 ⟨rfl, hb1⟩; have hr1 := hr.below hb1; have f1 := hr1.fro; (have e0 := hr1.cell (q := k * 5) (by omega)); (have e1 := hr1.cell (q := k * 5 + 1) (by omega)); (have e2 := hr1.cell (q := k * 5 + 2) (by omega)); (have e3 := hr1.cell (q := k * 5 + 3) (by omega)); (have e4 := hr1.cell (q := k * 5 + 4) (by omega)))
      go_roundw
      case rel => exact ⟨k + 1, by omega, by go_num, ((((((hr1).next).next).next).next).next).cut (by omega), bel_a⟩
      case measure => simp [intOf]; omega
    · go_wp2
      go_ret
      exact ⟨_, rfl, Nat.le_refl _, hr.full (by omega), hbel⟩
theorem szContactS_any (a : Option Addr) (n c : Nat) (L : Int) (w : World) (hn : (n : Int) ≤ 9223372036854775807) (hL : 0 ≤ L ∧ L ≤ 1048576) :
    Calls Tryz.prog 5 #[.slice a n c, .int .i64 L] w fun e w' => e = .returned (.int .i64 (if (n : Int) ≤ L then L - (n : Int) else -1)) ∧ w' = w := by
  have h2 : IntKind.i64.wrap (L - (n : Int)) = L - (n : Int) := i64w (by omega)
  by_cases h : (n : Int) ≤ L
  · have h1 : ¬ (L - (n : Int) < 0) := by omega
    go_enter Tryz.func5, Tryz.ntmps5
    go_wp2
    go_ret
    exact ⟨by first | rfl | (rw [if_pos h]; rfl) | simp [h], rfl⟩
  · have h1 : (L - (n : Int) < 0) := by omega
    go_enter Tryz.func5, Tryz.ntmps5
    go_wp2
    go_ret
    exact ⟨by first | rfl | (rw [if_neg h]; rfl) | simp [h], rfl⟩
theorem szContactS_no (a : Option Addr) (n c : Nat) (L : Int) (w : World) (hn : (n : Int) ≤ 9223372036854775807) (hL : 0 ≤ L ∧ L ≤ 1048576) (h : ¬ (n : Int) ≤ L) :
    Calls Tryz.prog 5 #[.slice a n c, .int .i64 L] w fun e w' => e = .returned (.int .i64 (-1)) ∧ w' = w := by
  have z := szContactS_any a n c L w hn hL
  rw [if_neg h] at z
  exact z
theorem markContactF5 {w wr : World} {base g n c j : Nat} {U : Nat → Int} {k0 : Int} (hlt : j < n) (ho : OwnL wr base 52 5 (.slice (some ⟨g, 0, none⟩) n c) n U) (hg : w.grownBy wr (Value.slice (some ⟨g, 0, none⟩) n c).ownBlock) :
    ∃ U', OwnL (((((wr.setCell ⟨g, j * 5, none⟩ (.int .i64 (k0 + (j : Int) * 5))).setCell ⟨g, j * 5 + 1, none⟩ (.int .i64 (k0 + (j : Int) * 5 + 1))).setCell ⟨g, j * 5 + 2, none⟩ (.int .i64 (k0 + (j : Int) * 5 + 1 + 1))).setCell ⟨g, j * 5 + 3, none⟩ (.int .i64 (k0 + (j : Int) * 5 + 1 + 1 + 1))).setCell ⟨g, j * 5 + 4, none⟩ (.int .i64 (k0 + (j : Int) * 5 + 1 + 1 + 1 + 1))) base 52 5 (.slice (some ⟨g, 0, none⟩) n c) n U' ∧ w.grownBy (((((wr.setCell ⟨g, j * 5, none⟩ (.int .i64 (k0 + (j : Int) * 5))).setCell ⟨g, j * 5 + 1, none⟩ (.int .i64 (k0 + (j : Int) * 5 + 1))).setCell ⟨g, j * 5 + 2, none⟩ (.int .i64 (k0 + (j : Int) * 5 + 1 + 1))).setCell ⟨g, j * 5 + 3, none⟩ (.int .i64 (k0 + (j : Int) * 5 + 1 + 1 + 1))).setCell ⟨g, j * 5 + 4, none⟩ (.int .i64 (k0 + (j : Int) * 5 + 1 + 1 + 1 + 1))) (Value.slice (some ⟨g, 0, none⟩) n c).ownBlock := by
  have q0 := ho
  have q1 := q0.setq (j * 5) (by omega) (k0 + (j : Int) * 5)
  have q2 := q1.setq (j * 5 + 1) (by omega) (k0 + (j : Int) * 5 + 1)
  have q3 := q2.setq (j * 5 + 2) (by omega) (k0 + (j : Int) * 5 + 1 + 1)
  have q4 := q3.setq (j * 5 + 3) (by omega) (k0 + (j : Int) * 5 + 1 + 1 + 1)
  have q5 := q4.setq (j * 5 + 4) (by omega) (k0 + (j : Int) * 5 + 1 + 1 + 1 + 1)
  have h0 : w.grownBy wr (some g) := hg
  exact ⟨_, q5, (grown_trans (grown_trans (grown_trans (grown_trans (grown_trans h0 (grown_setG _ _ _ _)) (grown_setG _ _ _ _)) (grown_setG _ _ _ _)) (grown_setG _ _ _ _)) (grown_setG _ _ _ _))⟩
set_option maxRecDepth 20000 in
set_option maxHeartbeats 2000000 in
theorem markContactS_from (k0 : Int) (hk : 0 ≤ k0 ∧ k0 ≤ 100000000) (base : Nat) (a : Option Addr) (n c : Nat) (U : Nat → Int) (w : World) (h : OwnL w base 52 5 (.slice a n c) n U) (hn : n ≤ 2097152) :
    Calls Tryz.prog 13 #[.slice a n c, .int .i64 k0] w fun e w' => e = .returned (.int .i64 (k0 + (n : Int) * 5)) ∧ (∃ U', OwnL w' base 52 5 (.slice a n c) n U') ∧ w.grownBy w' (Value.slice a n c).ownBlock := by
  have hset := cset_map
  go_enter Tryz.func13, Tryz.ntmps13
  go_wp2
  go_loopw [1, 5] (fun s i wr => ∃ (j : Nat) (V : Nat → Int), j ≤ n ∧ i = .int .i64 (j : Int) ∧ s = .int .i64 (k0 + (j : Int) * 5) ∧ OwnL wr base 52 5 (.slice a n c) n V ∧ w.grownBy wr (Value.slice a n c).ownBlock) (fun _ i _ => n - (intOf i).toNat)
  case atStart => exact ⟨0, U, Nat.zero_le _, rfl, congrArg (Value.int .i64) (by omega), h, grown_refl _ _⟩
  case round =>
    obtain ⟨j, V, hj, rfl, rfl, ho, hg⟩ := hrel
    by_cases hlt : j < n
    · have hjn : (j : Int) < (n : Int) := by omega
      obtain ⟨g, rfl, hgb, hgl⟩ := ho.loc (by omega)
      have c0 := ho.cellq (q := j * 5) (by omega)
      have c1 := ho.cellq (q := j * 5 + 1) (by omega)
      have c2 := ho.cellq (q := j * 5 + 2) (by omega)
      have c3 := ho.cellq (q := j * 5 + 3) (by omega)
      have c4 := ho.cellq (q := j * 5 + 4) (by omega)
      have f0 := ho.fro
      go_wp2
      go_roundw
      case rel =>
        obtain ⟨V', r1, r2⟩ := markContactF5 (k0 := k0) hlt ho hg
        exact ⟨j + 1, V', by omega, by go_num, congrArg (Value.int .i64) (by omega), r1, r2⟩
      case measure => simp [intOf]; omega
    · obtain rfl : j = n := by omega
      go_wp2
      go_ret
      exact ⟨rfl, ⟨_, ho⟩, hg⟩
end Go.Proofs.YtejminehbnebmaaGreat
namespace Go.Proofs.YtejminehbnebmaaGreat
open Go.RowKit
set_option linter.unusedVariables false
set_option linter.unusedSimpArgs false
theorem pushAll_ir {n m : Nat} {U Ct R : Nat → Int} (hR : R = allN Ct U m 4) (a : Option Addr) (c : Nat) (ac : Option Addr) (cc : Nat) (w : World) (h : Flat w a (n * 12) U) (hn : n ≤ 1048576) (h2 : Flat w ac (m * 5) Ct) (hm : m ≤ 1048576) (N : Nat) (hN : (bif bcB n m U Ct then n else 0) = N) :
    Calls Tryz.prog 9 #[.slice a n c, .slice ac m cc] w fun e w' => ∃ a1 c1, e = .returned (.slice a1 N c1) ∧ OutL w w' 43 12 a1 N c1 R := by subst hR; exact pushAll_i a n c U ac m cc Ct w h hn h2 hm N hN
theorem pushAll_sr {n m : Nat} {U Ct R : Nat → Int} (hR : R = allN Ct U m 4) (a : Option Addr) (c : Nat) (ac : Option Addr) (cc : Nat) (w : World) (h : Flat w a (n * 12) U) (hn : n ≤ 1048576) (h2 : Flat w ac (m * 5) Ct) (hm : m ≤ 1048576) (N : Nat) (hN : (bif bcB n m U Ct then n else 0) = N) :
    Calls Tryz.prog 6 #[.slice a n c, .slice ac m cc] w fun e w' => ∃ a1 c1, e = .returned (.slice a1 N c1) ∧ OutL w w' 43 12 a1 N c1 R := by subst hR; exact pushAll_s a n c U ac m cc Ct w h hn h2 hm N hN
set_option maxRecDepth 20000 in
set_option maxHeartbeats 8000000 in
theorem fnExactPushAll_walk (a : Option Addr) (n c : Nat) (U : Nat → Int) (ac : Option Addr) (m cc : Nat) (Ct : Nat → Int) (w : World) (h : Flat w a (n * 12) U) (hn : (n : Int) ≤ 9223372036854775807) (h2 : Flat w ac (m * 5) Ct) (hm : (m : Int) ≤ 9223372036854775807) :
    Calls Tryz.prog 3 #[.slice a n c, .slice ac m cc] w fun e w' => e = .returned (.bool true) ∧ Below w.heap.size w w' := by
  have hset := cset_map
  by_cases h20 : n ≤ 1048576
  · have h1 : ¬ (1048576 - (n : Int) < 0) := by omega
    by_cases h22 : (m : Int) ≤ 1048576 - (n : Int)
    · have h3 : ¬ (1048576 - (n : Int) - (m : Int) < 0) := by omega
      have h21 : m ≤ 1048576 := by omega
      obtain ⟨N, hN5⟩ : ∃ N, (bif bcB n m U Ct then n else 0) = N := ⟨_, rfl⟩
      have hN20 : N ≤ 1048576 := by rw [← hN5]; cases bcB n m U Ct <;> simp <;> omega
      obtain ⟨R, hR⟩ : ∃ R, R = allN Ct U m 4 := ⟨_, rfl⟩
      go_enter Tryz.func3, Tryz.ntmps3
      go_upto_region 8 with (first
        | (go_at_call 4; refine (szBodyS_any _ _ _ _ hn).mono ?_; rw [if_pos h20]; rintro e w0 ⟨rfl, rfl⟩)
        | (go_at_call 5; refine (szContactS_any _ _ _ _ _ hm (by omega)).mono ?_; rw [if_pos h22]; rintro e w9 ⟨rfl, rfl⟩))
      go_cut [6] (fun s wc => ∃ aw cw lw hw, s = .slice aw N cw ∧ w9.heap.size ≤ lw ∧ lw ≤ hw ∧ Below w9.heap.size w9 wc ∧ Lv wc lw hw 43 12 aw N cw R)
      case first =>
        go_wp2_with (first
          | (go_at_call 7; refine (toBodyS_any _ _ _ U _ h h20).mono ?_; rintro e w2 ⟨b2, rfl, hl2, hr2, hb2⟩)
          | (go_at_call 8; refine (toContactS_any _ _ _ Ct _ (h2.below hb2) h21).mono ?_; rintro e w3 ⟨b3, rfl, hl3, hr3, hb3⟩)
          | (go_at_call 6; refine (pushAll_sr hR _ _ _ _ _ (hr2.flat.below hb3) h20 hr3.flat h21 N hN5).mono ?_; rintro e w4 ⟨a4, c4, rfl, hO4⟩))
        go_meet
        have hb23 := hb2.trans (hb3.mono hb2.size)
        exact ⟨_, _, _, _, rfl, hb23.size, hO4.bel.size, hb23.trans (hO4.bel.mono hb23.size), hO4.lv⟩
      case rest =>
      obtain ⟨aw, cw, lw, hw, rfl, g1, g2, hB, hW⟩ := hcut
      go_upto_region 9 with fail
      go_cut [7] (fun s wc => ∃ ax cx lx hx, s = .slice ax n cx ∧ n ≤ cx ∧ hw ≤ lx ∧ lx ≤ hx ∧ Below w9.heap.size w9 wc ∧ Lv wc lw hw 43 12 aw N cw R ∧ Lv wc lx hx 43 12 ax n cx U)
      case first =>
        go_wp2_with (go_at_call 7; refine (toBodyS_any _ _ _ U _ (h.below hB) h20).mono ?_; rintro e w2 ⟨b2, rfl, hl2, hr2, hb2⟩)
        go_meet
        exact ⟨_, _, _, _, rfl, Nat.le_refl _, hW.le, hb2.size, hB.trans (hb2.mono hB.size), hW.on hb2, Lv.row hr2 hl2 h20⟩
      case rest =>
      clear hB hW
      obtain ⟨ax, cx, lx, hx, rfl, hcx, g3, g4, hB, hW, hX⟩ := hcut
      go_upto_region 10 with fail
      go_cut [8] (fun s wc => ∃ ay cy ly hy, s = .slice ay m cy ∧ m ≤ cy ∧ hx ≤ ly ∧ ly ≤ hy ∧ Below w9.heap.size w9 wc ∧ Lv wc lw hw 43 12 aw N cw R ∧ Lv wc lx hx 43 12 ax n cx U ∧ Lv wc ly hy 52 5 ay m cy Ct)
      case first =>
        go_wp2_with (go_at_call 8; refine (toContactS_any _ _ _ Ct _ (h2.below hB) h21).mono ?_; rintro e w2 ⟨b2, rfl, hl2, hr2, hb2⟩)
        go_meet
        exact ⟨_, _, _, _, rfl, Nat.le_refl _, hX.le, hb2.size, hB.trans (hb2.mono hB.size), hW.on hb2, hX.on hb2, Lv.row hr2 hl2 h21⟩
      case rest =>
      clear hB hW hX
      obtain ⟨ay, cy, ly, hy, rfl, hcy, g5, g6, hB, hW, hX, hY⟩ := hcut
      go_upto_region 11 with fail
      go_cut [9] (fun s wc => ∃ ag cg lg hg, s = .slice ag N cg ∧ hy ≤ lg ∧ lg ≤ hg ∧ Below w9.heap.size w9 wc ∧ Lv wc lw hw 43 12 aw N cw R ∧ Lv wc lx hx 43 12 ax n cx U ∧ Lv wc ly hy 52 5 ay m cy Ct ∧ Lv wc lg hg 43 12 ag N cg R)
      case first =>
        go_wp2_with (go_at_call 9; refine (pushAll_ir hR _ _ _ _ _ hX.flat h20 hY.flat h21 N hN5).mono ?_; rintro e w4 ⟨a4, c4, rfl, hO4⟩)
        go_meet
        exact ⟨_, _, _, _, rfl, hY.le, hO4.bel.size, hB.trans (hO4.bel.mono hB.size), hW.on hO4.bel, hX.on hO4.bel, hY.on hO4.bel, hO4.lv⟩
      case rest =>
      clear hB hW hX hY
      obtain ⟨ag, cg, lg, hg, rfl, g7, g8, hB, hW, hX, hY, hG⟩ := hcut
      go_upto_region 12 with fail
      go_cut [39] (fun s wc => s = .bool false ∧ Below w9.heap.size w9 wc ∧ Lv wc lw hw 43 12 aw N cw R ∧ Lv wc lx hx 43 12 ax n cx U ∧ Lv wc lg hg 43 12 ag N cg R ∧ Lv wc ly hy 52 5 ay m cy Ct)
      case first =>
        go_wp2_with (go_at_call 10; refine (eqBodyS_same _ _ _ _ _ R _ hG.flat hW.flat hN20).mono ?_; rintro e w8 ⟨rfl, hb8⟩)
        go_meet
        exact ⟨rfl, hB.trans (hb8.mono hB.size), hW.on hb8, hX.on hb8, hG.on hb8, hY.on hb8⟩
      case rest =>
      clear hB hW hX hG hY
      obtain ⟨rfl, hB, hW, hX, hG, hY⟩ := hcut
      go_upto_region 14 with fail
      go_cut [44] (fun s wc => s = .bool false ∧ Below w9.heap.size w9 wc ∧ Lv wc lw hw 43 12 aw N cw R ∧ Lv wc lx hx 43 12 ax n cx U ∧ Lv wc lg hg 43 12 ag N cg R ∧ Lv wc ly hy 52 5 ay m cy Ct)
      case first =>
        go_wp2_with (first
          | (go_at_call 7; refine (toBodyS_any _ _ _ U _ (h.below hB) h20).mono ?_; rintro e w6 ⟨b6, rfl, hl6, hr6, hb6⟩)
          | (go_at_call 10; refine (eqBodyS_same _ _ _ _ _ U _ (hX.on hb6).flat hr6.flat h20).mono ?_; rintro e w7 ⟨rfl, hb7⟩))
        go_meet
        have hb67 := hb6.trans (hb7.mono hb6.size)
        exact ⟨rfl, hB.trans (hb67.mono hB.size), hW.on hb67, hX.on hb67, hG.on hb67, hY.on hb67⟩
      case rest =>
      clear hB hW hX hG hY
      obtain ⟨rfl, hB, hW, hX, hG, hY⟩ := hcut
      go_upto_region 16 with fail
      go_cut [49] (fun s wc => s = .bool false ∧ Below w9.heap.size w9 wc ∧ Lv wc lw hw 43 12 aw N cw R ∧ Lv wc lx hx 43 12 ax n cx U ∧ Lv wc lg hg 43 12 ag N cg R ∧ Lv wc ly hy 52 5 ay m cy Ct)
      case first =>
        go_wp2_with (first
          | (go_at_call 8; refine (toContactS_any _ _ _ Ct _ (h2.below hB) h21).mono ?_; rintro e w6 ⟨b6, rfl, hl6, hr6, hb6⟩)
          | (go_at_call 11; refine (eqContactS_same _ _ _ _ _ Ct _ (hY.on hb6).flat hr6.flat h21).mono ?_; rintro e w7 ⟨rfl, hb7⟩))
        go_meet
        have hb67 := hb6.trans (hb7.mono hb6.size)
        exact ⟨rfl, hB.trans (hb67.mono hB.size), hW.on hb67, hX.on hb67, hG.on hb67, hY.on hb67⟩
      case rest =>
      clear hB hW hX hG hY
      obtain ⟨rfl, hB, hW, hX, hG, hY⟩ := hcut
      go_upto_region 19 with fail
      go_cut [10] (fun s wc => s = .int .i64 (1 + (n : Int) * 12) ∧ Below w9.heap.size w9 wc ∧ Lv wc lw hw 43 12 aw N cw R ∧ Lv wc lx hx 43 12 ax n cx (fun q => 1 + (q : Int)) ∧ Lv wc lg hg 43 12 ag N cg R ∧ Lv wc ly hy 52 5 ay m cy Ct)
      case first =>
        go_wp2_with (go_at_call 12; refine (markBodyS_any lx _ _ _ U _ hX.own (by omega)).mono ?_; rintro e w2 ⟨rfl, ho2, hg2⟩)
        go_meet
        exact ⟨rfl, hX.below hB hB.size hg2 (by omega), hW.gr hX hg2 (.inl (by omega)), hX.me hg2 ho2, hG.gr hX hg2 (.inr (by omega)), hY.gr hX hg2 (.inr (by omega))⟩
      case rest =>
      clear hB hW hX hG hY
      obtain ⟨rfl, hB, hW, hX, hG, hY⟩ := hcut
      go_upto_region 20 with fail
      go_cut [10] (fun s wc => s = .int .i64 (1 + (n : Int) * 12 + (m : Int) * 5) ∧ Below w9.heap.size w9 wc ∧ Lv wc lw hw 43 12 aw N cw R ∧ Lv wc lx hx 43 12 ax n cx (fun q => 1 + (q : Int)) ∧ Lv wc lg hg 43 12 ag N cg R ∧ ∃ Cm, Lv wc ly hy 52 5 ay m cy Cm)
      case first =>
        go_wp2_with (go_at_call 13; refine (markContactS_from _ (by omega) ly _ _ _ Ct _ hY.own (by omega)).mono ?_; rintro e w2 ⟨rfl, ⟨Cm, ho2⟩, hg2⟩)
        go_meet
        exact ⟨rfl, hY.below hB hB.size hg2 (by omega), hW.gr hY hg2 (.inl (by omega)), hX.gr hY hg2 (.inl (by omega)), hG.gr hY hg2 (.inr (by omega)), ⟨Cm, hY.me hg2 ho2⟩⟩
      case rest =>
      clear hB hW hX hG hY
      obtain ⟨rfl, hB, hW, hX, hG, ⟨Cm, hY⟩⟩ := hcut
      have hk0 : ¬ ((1 + (n : Int) * 12 + (m : Int) * 5) < 0) := by omega
      go_upto_region 21 with fail
      go_cut [63] (fun s wc => s = .bool false ∧ Below w9.heap.size w9 wc ∧ Lv wc lw hw 43 12 aw N cw R ∧ Lv wc lx hx 43 12 ax n cx (fun q => 1 + (q : Int)) ∧ Lv wc lg hg 43 12 ag N cg R ∧ ∃ Cm, Lv wc ly hy 52 5 ay m cy Cm)
      case first =>
        go_wp2_with (go_at_call 10; refine (eqBodyS_same _ _ _ _ _ R _ hG.flat hW.flat hN20).mono ?_; rintro e w9 ⟨rfl, hb9⟩)
        go_meet
        exact ⟨rfl, hB.trans (hb9.mono hB.size), hW.on hb9, hX.on hb9, hG.on hb9, ⟨_, hY.on hb9⟩⟩
      case rest =>
      clear hB hW hX hG hY
      obtain ⟨rfl, hB, hW, hX, hG, ⟨Cm, hY⟩⟩ := hcut
      go_upto_region 24 with fail
      go_cut [11] (fun s wc => s = .int .i64 (1 + (N : Int) * 12) ∧ Below w9.heap.size w9 wc ∧ Lv wc lw hw 43 12 aw N cw R ∧ Lv wc lx hx 43 12 ax n cx (fun q => 1 + (q : Int)) ∧ Lv wc lg hg 43 12 ag N cg (fun q => 1 + (q : Int)) ∧ ∃ Cm, Lv wc ly hy 52 5 ay m cy Cm)
      case first =>
        go_wp2_with (go_at_call 12; refine (markBodyS_any lg _ _ _ R _ hG.own (by omega)).mono ?_; rintro e w2 ⟨rfl, ho2, hg2⟩)
        go_meet
        exact ⟨rfl, hG.below hB hB.size hg2 (by omega), hW.gr hG hg2 (.inl (by omega)), hX.gr hG hg2 (.inl (by omega)), hG.me hg2 ho2, ⟨_, hY.gr hG hg2 (.inl (by omega))⟩⟩
      case rest =>
      clear hB hW hX hG hY
      obtain ⟨rfl, hB, hW, hX, hG, ⟨Cm, hY⟩⟩ := hcut
      have hk1 : ¬ ((1 + (N : Int) * 12) < 0) := by omega
      go_upto_region 26 with fail
      go_cut [12] (fun s wc => s = .int .i64 (1 + (N : Int) * 12) ∧ Below w9.heap.size w9 wc ∧ Lv wc lw hw 43 12 aw N cw R ∧ Lv wc lx hx 43 12 ax n cx (fun q => 1 + (q : Int)) ∧ Lv wc lg hg 43 12 ag N cg (fun q => 1 + (q : Int)) ∧ ∃ Cm, Lv wc ly hy 52 5 ay m cy Cm)
      case first =>
        go_wp2_with (go_at_call 14; refine (heldBodyS_any _ _ _ _ hG.flat (by omega)).mono ?_; rintro e w2 ⟨rfl, rfl⟩)
        go_meet
        exact ⟨rfl, hB, hW, hX, hG, ⟨_, hY⟩⟩
      case rest =>
      clear hB hW hX hG hY
      obtain ⟨rfl, hB, hW, hX, hG, ⟨Cm, hY⟩⟩ := hcut
      go_upto_region 31 with fail
      go_cut [13] (fun s wc => ∃ ah ch lh hh, s = .slice ah N ch ∧ Below w9.heap.size w9 wc ∧ Lv wc lw hw 43 12 aw N cw R ∧ Lv wc lg hg 43 12 ag N cg (fun q => 1 + (q : Int)) ∧ Lv wc lh hh 43 12 ah N ch R)
      case first =>
        go_wp2_with (first
          | (go_at_call 7; refine (toBodyS_any _ _ _ U _ (h.below hB) h20).mono ?_; rintro e w2 ⟨b2, rfl, hl2, hr2, hb2⟩)
          | (go_at_call 8; refine (toContactS_any _ _ _ Ct _ ((h2.below hB).below hb2) h21).mono ?_; rintro e w3 ⟨b3, rfl, hl3, hr3, hb3⟩)
          | (go_at_call 9; refine (pushAll_ir hR _ _ _ _ _ (hr2.flat.below hb3) h20 hr3.flat h21 N hN5).mono ?_; rintro e w4 ⟨a4, c4, rfl, hO4⟩))
        go_meet
        have hb23 := hb2.trans (hb3.mono hb2.size)
        have hb24 := hb23.trans (hO4.bel.mono hb23.size)
        exact ⟨_, _, _, _, rfl, hB.trans (hb24.mono hB.size), hW.on hb24, hG.on hb24, hO4.lv⟩
      case rest =>
      clear hB hW hX hG hY
      obtain ⟨ah, ch, lh, hh, rfl, hB, hW, hG, hH⟩ := hcut
      go_upto_region 32 with fail
      go_cut [83] (fun s wc => s = .bool false ∧ Below w9.heap.size w9 wc ∧ Lv wc lg hg 43 12 ag N cg (fun q => 1 + (q : Int)))
      case first =>
        go_wp2_with (go_at_call 10; refine (eqBodyS_same _ _ _ _ _ R _ hH.flat hW.flat hN20).mono ?_; rintro e w9 ⟨rfl, hb9⟩)
        go_meet
        exact ⟨rfl, hB.trans (hb9.mono hB.size), hG.on hb9⟩
      case rest =>
      clear hB hW hG hH
      obtain ⟨rfl, hB, hG⟩ := hcut
      go_upto_region 35 with fail
      go_wp2_with (go_at_call 14; refine (heldBodyS_any _ _ _ _ hG.flat (by omega)).mono ?_; rintro e w2 ⟨rfl, rfl⟩)
      go_ret
      exact ⟨rfl, hB⟩
    · go_enter Tryz.func3, Tryz.ntmps3
      go_wp2_with (first
        | (go_at_call 4; refine (szBodyS_any _ _ _ _ hn).mono ?_; rw [if_pos h20]; rintro e w0 ⟨rfl, rfl⟩)
        | (go_at_call 5; refine (szContactS_no _ _ _ _ _ hm (by omega) (by omega)).mono ?_; rintro e w9 ⟨rfl, rfl⟩))
      go_ret
      exact ⟨rfl, Below.refl _ _⟩
  · have h1 : (1048576 - (n : Int) < 0) := by omega
    go_enter Tryz.func3, Tryz.ntmps3
    go_wp2_with (go_at_call 4; refine (szBodyS_any _ _ _ _ hn).mono ?_; rw [if_neg h20]; rintro e w0 ⟨rfl, rfl⟩)
    go_ret
    exact ⟨rfl, Below.refl _ _⟩
end Go.Proofs.YtejminehbnebmaaGreat
namespace Go.Proofs.YtejminehbnebmaaGreat
theorem head_cut {l : List (List Char)} {c : List Char} (h : (l.head? == some c) = true) : ∃ rest, l = c :: rest := by
  cases l with
  | nil => simp at h
  | cons a r => simp at h; exact ⟨r, by rw [h]⟩
theorem strip_cut (rest : List (List Char)) : stripLifts liftWords ("cut".toList :: rest) = ([], "cut".toList :: rest) := by kernel_rfl
theorem make_of {P : Program} {l : List Char} (h0 : P.initOrder.toList = l) (h1 : ((behindMainWord (wordsSigns l)).head? == some "cut".toList) = true) : P.make = some .cut := by
  obtain ⟨rest, hr⟩ := head_cut h1
  unfold Program.make
  rw [h0, hr]
  rfl
theorem headLifts_of {P : Program} {l : List Char} (h0 : P.initOrder.toList = l) (h1 : ((behindMainWord (wordsSigns l)).head? == some "cut".toList) = true) : P.headLifts = [] := by
  obtain ⟨rest, hr⟩ := head_cut h1
  unfold Program.headLifts
  rw [h0, hr, strip_cut]
  rfl
theorem liftsFinal_of {P : Program} {l : List Char} (h0 : P.initOrder.toList = l) (h1 : ((behindMainWord (wordsSigns l)).head? == some "cut".toList) = true) : P.liftsFinal = false := by
  have hh := headLifts_of h0 h1
  obtain ⟨rest, hr⟩ := head_cut h1
  unfold Program.liftsFinal
  rw [h0, hr, hh]
  rfl
theorem mayEnter_of {P : Program} {l : List Char} (h0 : P.initOrder.toList = l) (h1 : ((behindMainWord (wordsSigns l)).head? == some "cut".toList) = true) (h2 : P.laysLater = false) (h3 : P.bearsReflect = false) (h4 : P.doorFits [] = true) : P.mayEnter = true := by
  obtain ⟨rest, hr⟩ := head_cut h1
  unfold Program.mayEnter
  rw [h0, hr]
  simp only [strip_cut, h2, h3, h4]
  simp
end Go.Proofs.YtejminehbnebmaaGreat
namespace Go.Proofs.YtejminehbnebmaaGreat
set_option maxRecDepth 100000
def ordL : { l : List Char // Tryz.prog.initOrder = String.ofList l } := ⟨_, rfl⟩
theorem ordT : Tryz.prog.initOrder.toList = ordL.1 := (congrArg String.toList ordL.2).trans String.toList_ofList
theorem headE : ((behindMainWord (wordsSigns ordL.1)).head? == some "cut".toList) = true := by kernel_rfl
theorem makeT : Tryz.prog.make = some .cut := make_of ordT headE
theorem liftsFinalT : Tryz.prog.liftsFinal = false := liftsFinal_of ordT headE
theorem laysLaterT : Tryz.prog.laysLater = false := by kernel_rfl
theorem bearsReflectT : Tryz.prog.bearsReflect = false := by kernel_rfl
theorem doorFitsT : Tryz.prog.doorFits [] = true := by kernel_rfl
theorem mayEnterT : Tryz.prog.mayEnter = true := mayEnter_of ordT headE laysLaterT bearsReflectT doorFitsT
theorem ownT : ownKnob Tryz.prog.godebug = none := by kernel_rfl
theorem laidOutT : laidOutB Tryz.prog = true := by kernel_rfl
theorem mapsRowedT : mapsRowed Tryz.prog = true := by kernel_rfl
theorem stopsHeardT : Tryz.prog.stopsHeard = true := by kernel_rfl
theorem plainKeysT : Tryz.prog.plainKeys = true := by kernel_rfl
end Go.Proofs.YtejminehbnebmaaGreat
namespace Go.Proofs.YtejminehbnebmaaGreat
open Go.RowKit Go.ChangeShapes Go.WideShapes Go.Deep
set_option linter.unusedVariables false
set_option linter.unusedSimpArgs false
/-- what is read at the type is k numbers -/
def IntsOf (P : Program) (e : TypeId) (k : Nat) : Prop :=
  ∀ (H : Type) (enc : TypeId × Value → H) (w : World) (base : Nat) (spare : Nat → Bool) (held : Bool) (fuel : Nat) (cs : List Value) (x : DataW H × List MemPlace),
    DataW.trod enc P w base spare held fuel e cs = some x → cs.length = k ∧ ∀ j, j < k → ∃ v : Int, cs[j]? = some (.int .i64 v) ∧ (Lit.int .i64 v).wf = true
theorem IntsOf.int {P : Program} {e : TypeId} (h : P.underlying e = some (.int .i64)) : IntsOf P e 1 := by
  intro H enc w base spare held fuel cs x hx
  obtain ⟨v, h1, _, h3⟩ := DataW.trod_int h hx
  subst h1
  refine ⟨rfl, fun j hj => ?_⟩
  obtain rfl : j = 0 := by omega
  exact ⟨v, rfl, h3⟩
theorem IntsOf.struct {P : Program} {t : TypeId} {k : Nat} {fs : Array Field} (cs_ : List Nat) (ht : P.underlying t = some (.struct fs)) (hk : P.cellsOf t = k)
    (hf : ∀ (i : Nat) (f : Field) (c : Nat), fs[i]? = some f → cs_[i]? = some c → P.cellsOf f.type = c ∧ IntsOf P f.type c)
    (cover : (List.range k).all (fun j => (List.range fs.size).any fun i => match fs[i]?, cs_[i]? with | some f, some c => decide (f.offset ≤ j ∧ j < f.offset + c) | _, _ => false) = true) : IntsOf P t k := by
  intro H enc w base spare held fuel cs x hx
  obtain ⟨xs, n, _, _, hl, hlen, hg⟩ := DataW.trod_struct ht hx
  rw [hk] at hl
  refine ⟨hl, fun j hj => ?_⟩
  rw [List.all_eq_true] at cover
  have c1 := cover j (List.mem_range.2 hj)
  rw [List.any_eq_true] at c1
  obtain ⟨i, hi, hm⟩ := c1
  have hi' := List.mem_range.1 hi
  cases hfi : fs[i]? with
  | none => simp [hfi] at hm
  | some f =>
    cases hci : cs_[i]? with
    | none => simp [hfi, hci] at hm
    | some c =>
      simp only [hfi, hci, decide_eq_true_eq] at hm
      obtain ⟨hc, hI⟩ := hf i f c hfi hci
      have g := hg i f hfi
      rw [hc] at g
      have hxi : i < xs.length := by rw [hlen]; exact hi'
      rw [List.getElem?_eq_getElem hxi] at g
      obtain ⟨_, q⟩ := hI H enc w base spare held _ _ _ g
      obtain ⟨v, hv, hw⟩ := q (j - f.offset) (by omega)
      refine ⟨v, ?_, hw⟩
      rw [List.getElem?_take, if_pos (by omega), List.getElem?_drop, show f.offset + (j - f.offset) = j by omega] at hv
      exact hv
theorem open_flat {P : Program} {t e : TypeId} {k : Nat} (hk0 : 0 < k) (ht : P.underlying t = some (.slice e)) (hk : P.cellsOf e = k) (hE : IntsOf P e k)
    {H : Type} {enc : TypeId × Value → H} {w : World} {base : Nat} {spare : Nat → Bool} {held : Bool} {fuel : Nat} {v : Value} {x : DataW H × List MemPlace}
    (h : DataW.trod enc P w base spare held fuel t [v] = some x) :
    ∃ (a : Option Addr) (n c : Nat) (U : Nat → Int), v = .slice a n c ∧ (n : Int) ≤ 9223372036854775807 ∧ Flat w a (n * k) U ∧ ∀ q, q < n * k → (Lit.int .i64 (U q)).wf = true := by
  rcases open_slice ht h with ⟨hc, _⟩ | ⟨a, len, cap, m, fu, D, Pl, hc, hb, hl, hm, hmm, _, hall⟩
  · simp only [List.cons.injEq, and_true] at hc
    subst hc
    exact ⟨none, 0, 0, fun _ => 0, rfl, by omega, by rw [Nat.zero_mul]; exact Flat.nil, fun q hq => by omega⟩
  · simp only [List.cons.injEq, and_true] at hc
    subst hc
    have hlm : len ≤ m := by rw [hmm]; split <;> omega
    have one : ∀ q, q < len * k → ∃ z : Int, w.cell? (a.add q) = some (.int .i64 z) ∧ (Lit.int .i64 z).wf = true := by
      intro q hq
      have hi : q / k < len := Nat.div_lt_of_lt_mul (by rw [Nat.mul_comm]; exact hq)
      obtain ⟨cs', h1, h2⟩ := hall (q / k) (by omega)
      obtain ⟨_, hlen, hcell⟩ := World.cells?_some h1
      obtain ⟨_, hv⟩ := hE H enc w base spare held _ _ _ h2
      obtain ⟨z, hz, hw⟩ := hv (q % k) (Nat.mod_lt _ hk0)
      have := hcell (q % k) (by rw [hk]; exact Nat.mod_lt _ hk0)
      rw [hz, hk, add_add, Nat.mul_comm, Nat.div_add_mod] at this
      exact ⟨z, this, hw⟩
    obtain ⟨U, hU⟩ := choose_lt one
    refine ⟨some a, len, cap, U, rfl, by unfold maxLen at hm; omega, ?_, fun q hq => (hU q hq).2⟩
    intro h0
    obtain ⟨b, o, spot⟩ := a
    have g0 := (hU 0 h0).1
    have hspot : spot = none := by simpa [Addr.add] using World.cell?_spot g0
    subst hspot
    have hbl := World.block_lt_of_cell? w _ g0
    simp only [Addr.add, if_true] at hbl
    refine ⟨b, o, rfl, hbl, fun q hq => ?_⟩
    have := (hU q hq).1
    by_cases hq0 : q = 0
    · subst hq0; simpa [Addr.add] using this
    · simpa [Addr.add, hq0] using this
end Go.Proofs.YtejminehbnebmaaGreat
namespace Go.Proofs.YtejminehbnebmaaGreat
open Go.RowKit Go.ChangeShapes Go.WideShapes Go.Deep
set_option linter.unusedVariables false
set_option linter.unusedSimpArgs false
theorem cellsI : Tryz.prog.cellsOf 3 = 1 := by kernel_rfl
theorem cellsV : Tryz.prog.cellsOf 46 = 2 := by kernel_rfl
theorem cellsSh : Tryz.prog.cellsOf 45 = 3 := by kernel_rfl
theorem cellsBd : Tryz.prog.cellsOf 48 = 12 := by kernel_rfl
theorem cellsSlB : Tryz.prog.cellsOf 22 = 1 := by kernel_rfl
theorem intsI : IntsOf Tryz.prog 3 1 := IntsOf.int Tryz.underlying3
theorem intsV : IntsOf Tryz.prog 46 2 := IntsOf.struct [1, 1] Tryz.underlying46 (by kernel_rfl) (fun i f c h1 h2 => match i, h1, h2 with
  | 0, h1, h2 => by cases h1; cases h2; exact ⟨cellsI, intsI⟩
  | 1, h1, h2 => by cases h1; cases h2; exact ⟨cellsI, intsI⟩
  | _ + 2, h1, h2 => by simp at h2) (by decide)
theorem intsSh : IntsOf Tryz.prog 45 3 := IntsOf.struct [1, 1, 1] Tryz.underlying45 (by kernel_rfl) (fun i f c h1 h2 => match i, h1, h2 with
  | 0, h1, h2 => by cases h1; cases h2; exact ⟨cellsI, intsI⟩
  | 1, h1, h2 => by cases h1; cases h2; exact ⟨cellsI, intsI⟩
  | 2, h1, h2 => by cases h1; cases h2; exact ⟨cellsI, intsI⟩
  | _ + 3, h1, h2 => by simp at h2) (by decide)
theorem intsBd : IntsOf Tryz.prog 48 12 := IntsOf.struct [1, 3, 2, 2, 1, 1, 1, 1] Tryz.underlying48 (by kernel_rfl) (fun i f c h1 h2 => match i, h1, h2 with
  | 0, h1, h2 => by cases h1; cases h2; exact ⟨cellsI, intsI⟩
  | 1, h1, h2 => by cases h1; cases h2; exact ⟨cellsSh, intsSh⟩
  | 2, h1, h2 => by cases h1; cases h2; exact ⟨cellsV, intsV⟩
  | 3, h1, h2 => by cases h1; cases h2; exact ⟨cellsV, intsV⟩
  | 4, h1, h2 => by cases h1; cases h2; exact ⟨cellsI, intsI⟩
  | 5, h1, h2 => by cases h1; cases h2; exact ⟨cellsI, intsI⟩
  | 6, h1, h2 => by cases h1; cases h2; exact ⟨cellsI, intsI⟩
  | 7, h1, h2 => by cases h1; cases h2; exact ⟨cellsI, intsI⟩
  | _ + 8, h1, h2 => by simp at h2) (by decide)
set_option maxRecDepth 100000 in
theorem open_bodies {H : Type} {enc : TypeId × Value → H} {W : World} {base b0 : Nat} {spare : Nat → Bool} {held : Bool} {v : Value} {d : DataW H} {p : List MemPlace}
    (hv : Value.okWide Tryz.prog W .any b0 22 v) (h : DataW.Trod enc Tryz.prog W base spare held 22 v d p) :
    ∃ (a : Option Addr) (n c : Nat) (U : Nat → Int), v = .slice a n c ∧ (n : Int) ≤ 9223372036854775807 ∧ Flat W a (n * 12) U ∧ ∀ q, q < n * 12 → (Lit.int .i64 (U q)).wf = true := by
  obtain ⟨a0, len, cap, rfl⟩ := okWide_slice Tryz.underlying22 hv
  obtain ⟨fuel, hf⟩ := h
  exact open_flat (by decide) Tryz.underlying22 cellsBd intsBd hf
end Go.Proofs.YtejminehbnebmaaGreat
namespace Go.Proofs.YtejminehbnebmaaGreat
open Go.RowKit Go.ChangeShapes Go.WideShapes Go.Deep
set_option linter.unusedVariables false
set_option linter.unusedSimpArgs false
theorem cellsHt : Tryz.prog.cellsOf 55 = 3 := by kernel_rfl
theorem cellsCt : Tryz.prog.cellsOf 57 = 5 := by kernel_rfl
theorem intsHt : IntsOf Tryz.prog 55 3 := IntsOf.struct [2, 1] Tryz.underlying55 (by kernel_rfl) (fun i f c h1 h2 => match i, h1, h2 with
  | 0, h1, h2 => by cases h1; cases h2; exact ⟨cellsV, intsV⟩
  | 1, h1, h2 => by cases h1; cases h2; exact ⟨cellsI, intsI⟩
  | _ + 2, h1, h2 => by simp at h2) (by decide)
theorem intsCt : IntsOf Tryz.prog 57 5 := IntsOf.struct [1, 1, 3] Tryz.underlying57 (by kernel_rfl) (fun i f c h1 h2 => match i, h1, h2 with
  | 0, h1, h2 => by cases h1; cases h2; exact ⟨cellsI, intsI⟩
  | 1, h1, h2 => by cases h1; cases h2; exact ⟨cellsI, intsI⟩
  | 2, h1, h2 => by cases h1; cases h2; exact ⟨cellsHt, intsHt⟩
  | _ + 3, h1, h2 => by simp at h2) (by decide)
set_option maxRecDepth 100000 in
theorem open_contacts {H : Type} {enc : TypeId × Value → H} {W : World} {base b0 : Nat} {spare : Nat → Bool} {held : Bool} {v : Value} {d : DataW H} {p : List MemPlace}
    (hv : Value.okWide Tryz.prog W .any b0 23 v) (h : DataW.Trod enc Tryz.prog W base spare held 23 v d p) :
    ∃ (a : Option Addr) (n c : Nat) (U : Nat → Int), v = .slice a n c ∧ (n : Int) ≤ 9223372036854775807 ∧ Flat W a (n * 5) U ∧ ∀ q, q < n * 5 → (Lit.int .i64 (U q)).wf = true := by
  obtain ⟨a0, len, cap, rfl⟩ := okWide_slice Tryz.underlying23 hv
  obtain ⟨fuel, hf⟩ := h
  exact open_flat (by decide) Tryz.underlying23 cellsCt intsCt hf
end Go.Proofs.YtejminehbnebmaaGreat
