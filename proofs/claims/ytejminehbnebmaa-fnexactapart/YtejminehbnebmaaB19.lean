/- Contacts that are ok, by the specification; all that is too deep moved apart. All that is too deep in another one moved apart, by the specification. Contacts: turned into the program's own, marked from any number on, how great; bodies held. The walk of the exact law of Apart. Lemmas on whatever program: from the head of its cut's word to the closed facts. Closed facts of the loaded program, each a theorem of its own. -/
import Derived.Test.YtejminehbnebmaaB17
import Derived.Test.YtejminehbnebmaaB3
import Derived.Test.YtejminehbnebmaaB16
import Derived.Test.YtejminehbnebmaaB18
import Derived.Deep.RegionHeld3
import Derived.Deep.DeepCutAuto
import Derived.Test.YtejminehbnebmaaRows
import Derived.WalkKit
import Derived.JoinedOf
import Derived.ProofKit
namespace Go.Proofs.Ytejminehbnebmaa
open Go.RowKit
set_option linter.unusedVariables false
set_option linter.unusedSimpArgs false

set_option maxHeartbeats 4000000 in
theorem l8HitOk_any (x y k : Int) (w : World) :
    Calls Try.prog 27 #[s3 x y k] w fun e w' => e = .returned (.bool (hitB x y k)) ∧ Below w.heap.size w w' := by
  have hset := cset_map
  go_enter Try.func27, Try.ntmps27
  go_wp2_with (go_at_call 26; refine (l1In_any _ _ _ _).mono ?_; rintro e w' ⟨rfl, rfl⟩)
  all_goals
    go_ret
    refine ⟨ret_bool ?_, bel_a⟩
    unfold hitB inB
    first | (simp [*]; done) | (simp at *; omega) | (simp [*]; omega)
theorem l8HitOk_q (x y k : Int) (b : Bool) (w : World) (e : hitB x y k = b) : Calls Try.prog 27 #[s3 x y k] w fun e w' => e = .returned (.bool b) ∧ Below w.heap.size w w' := by
  subst e; exact l8HitOk_any x y k w
set_option maxRecDepth 20000 in
set_option maxHeartbeats 8000000 in
theorem l8Contacts_any (a : Option Addr) (n c : Nat) (ac : Option Addr) (m cc : Nat) (Ct : Nat → Int) (w : World) (hn : n ≤ 1048576) (h2 : Flat w ac (m * 5) Ct) (hm : m ≤ 1048576) :
    Calls Try.prog 16 #[.slice a n c, .slice ac m cc] w fun e w' => e = .returned (.bool (decide (m ≤ 144) && ctsB n Ct m)) ∧ Below w.heap.size w w' := by
  have hset := cset_map
  have wn : IntKind.i64.wrap ((n : Int) - 1) = (n : Int) - 1 := i64w (by omega)
  go_enter Try.func16, Try.ntmps16
  go_upto_region 2 with fail
  go_loopw [5] (fun s wr => ∃ k : Nat, k ≤ m ∧ s = .int .i64 (k : Int) ∧ Below w.heap.size w wr ∧ ctsB n Ct k = true) (fun s _ => m - (intOf s).toNat)
  case atStart => exact ⟨0, Nat.zero_le _, rfl, bel_a, rfl⟩
  case round =>
    obtain ⟨k, hk, rfl, hB, hok⟩ := hrel
    by_cases hlt : k < m
    · have hkm : (k : Int) < (m : Int) := by omega
      have hBs := hB.size
      obtain ⟨b2, o2, e2, hbl2, hc2⟩ := (h2.below hB) (by omega)
      obtain ⟨A, hA⟩ : ∃ A, Ct (k * 5) = A := ⟨_, rfl⟩
      obtain ⟨B, hBB⟩ : ∃ B, Ct (k * 5 + 1) = B := ⟨_, rfl⟩
      obtain ⟨X, hX⟩ : ∃ X, Ct (k * 5 + 2) = X := ⟨_, rfl⟩
      obtain ⟨Y, hY⟩ : ∃ Y, Ct (k * 5 + 3) = Y := ⟨_, rfl⟩
      obtain ⟨D, hD⟩ : ∃ D, Ct (k * 5 + 4) = D := ⟨_, rfl⟩
      have r0 := hc2 (k * 5) (by omega)
      have r1 := hc2 (k * 5 + 1) (by omega)
      have r2 := hc2 (k * 5 + 2) (by omega)
      have r3 := hc2 (k * 5 + 3) (by omega)
      have r4 := hc2 (k * 5 + 4) (by omega)
      simp only [← Nat.add_assoc] at r0 r1 r2 r3 r4
      rw [hA] at r0
      rw [hBB] at r1
      rw [hX] at r2
      rw [hY] at r3
      rw [hD] at r4
      clear hc2
      subst e2
      have eat : atB n (Ct (k * 5)) (Ct (k * 5 + 1)) (Ct (k * 5 + 2)) (Ct (k * 5 + 3)) (Ct (k * 5 + 4)) = atB n A B X Y D := by rw [hA, hBB, hX, hY, hD]
      have hcs : ctsB n Ct (k + 1) = atB n A B X Y D := by rw [ctsB, hok, eat]; rfl
      have hno : atB n A B X Y D = false → (decide (m ≤ 144) && ctsB n Ct m) = false := fun q => by rw [ctsB_no (k := k) (by rw [eat]; exact q) hlt, Bool.and_false]
      clear eat hA hBB hX hY hD
      by_cases k1 : 0 ≤ A ∧ A ≤ (n : Int) - 1
      · have d1 : decide (0 ≤ A ∧ A ≤ (n : Int) - 1) = true := decide_eq_true k1
        by_cases k2 : 0 ≤ B ∧ B ≤ (n : Int) - 1
        · have d2 : decide (0 ≤ B ∧ B ≤ (n : Int) - 1) = true := decide_eq_true k2
          by_cases k3 : A = B
          · have d3 : (A == B) = true := by simp [k3]
            have d4 : decide (A = B) = true := decide_eq_true k3
            have hq := hno (by unfold atB; rw [d4]; simp)
            clear hno hcs k1 k2 k3
            go_wp2_with (go_at_call 26; refine (l1In_any _ _ _ _).mono ?_; rintro e w' ⟨rfl, rfl⟩)
            go_ret
            exact ⟨ret_bool hq.symm, hB.trans (Below.mono ((Below.refl _ _).alloc (Nat.le_refl _) _) hBs)⟩
          · have d3 : (A == B) = false := by simp [k3]
            have d4 : decide (A = B) = false := decide_eq_false k3
            cases kh : hitB X Y D with
            | false =>
              have hq := hno (by unfold atB; rw [kh]; rfl)
              clear hno hcs k1 k2 k3
              go_wp2_with (first
    | (go_at_call 27; refine (l8HitOk_q _ _ _ _ _ kh).mono ?_; rintro e w3 ⟨rfl, hb3⟩)
    | (go_at_call 26; refine (l1In_any _ _ _ _).mono ?_; rintro e w' ⟨rfl, rfl⟩))
              go_ret
              exact ⟨ret_bool hq.symm, hB.trans (Below.mono (((Below.refl _ _).alloc (Nat.le_refl _) _).trans (hb3.mono (by simp))) hBs)⟩
            | true =>
              have hat : atB n A B X Y D = true := by unfold atB; rw [kh, d4, decide_eq_true (show 0 ≤ A ∧ A < (n : Int) by omega), decide_eq_true (show 0 ≤ B ∧ B < (n : Int) by omega)]; rfl
              clear hno k1 k2 k3
              go_wp2_with (first
    | (go_at_call 27; refine (l8HitOk_q _ _ _ _ _ kh).mono ?_; rintro e w3 ⟨rfl, hb3⟩)
    | (go_at_call 26; refine (l1In_any _ _ _ _).mono ?_; rintro e w' ⟨rfl, rfl⟩))
              go_roundw
              case rel => exact ⟨k + 1, by omega, by go_num, hB.trans (Below.mono (((Below.refl _ _).alloc (Nat.le_refl _) _).trans (hb3.mono (by simp))) hBs), hcs.trans hat⟩
              case measure => simp [intOf]; omega
        · have d2 : decide (0 ≤ B ∧ B ≤ (n : Int) - 1) = false := decide_eq_false k2
          have hq := hno (by unfold atB; rw [decide_eq_false (show ¬ (0 ≤ B ∧ B < (n : Int)) by omega)]; simp)
          clear hno hcs k1 k2
          go_wp2_with (go_at_call 26; refine (l1In_any _ _ _ _).mono ?_; rintro e w' ⟨rfl, rfl⟩)
          go_ret
          exact ⟨ret_bool hq.symm, hB.trans (Below.mono ((Below.refl _ _).alloc (Nat.le_refl _) _) hBs)⟩
      · have d1 : decide (0 ≤ A ∧ A ≤ (n : Int) - 1) = false := decide_eq_false k1
        have hq := hno (by unfold atB; rw [decide_eq_false (show ¬ (0 ≤ A ∧ A < (n : Int)) by omega)]; simp)
        clear hno hcs k1
        go_wp2_with (go_at_call 26; refine (l1In_any _ _ _ _).mono ?_; rintro e w' ⟨rfl, rfl⟩)
        go_ret
        exact ⟨ret_bool hq.symm, hB.trans (Below.mono ((Below.refl _ _).alloc (Nat.le_refl _) _) hBs)⟩
    · obtain rfl : k = m := by omega
      by_cases k9 : k ≤ 144
      · have d9 : decide (k ≤ 144) = true := decide_eq_true k9
        have d8 : decide ((k : Int) ≤ 144) = true := decide_eq_true (by omega)
        go_wp2_with fail
        go_ret
        exact ⟨ret_bool (by rw [hok]; simp [*]), bel_a⟩
      · have d9 : decide (k ≤ 144) = false := decide_eq_false k9
        have d8 : decide ((k : Int) ≤ 144) = false := decide_eq_false (by omega)
        go_wp2_with fail
        go_ret
        exact ⟨ret_bool (by rw [hok]; simp [*]), bel_a⟩
end Go.Proofs.Ytejminehbnebmaa
namespace Go.Proofs.Ytejminehbnebmaa
open Go.RowKit
set_option linter.unusedVariables false
set_option linter.unusedSimpArgs false

theorem l8Contacts_q (a : Option Addr) (n c : Nat) (ac : Option Addr) (m cc : Nat) (Ct : Nat → Int) (b : Bool) (w : World) (hn : n ≤ 1048576) (h2 : Flat w ac (m * 5) Ct) (hm : m ≤ 1048576) (e : (decide (m ≤ 144) && ctsB n Ct m) = b) :
    Calls Try.prog 16 #[.slice a n c, .slice ac m cc] w fun e w' => e = .returned (.bool b) ∧ Below w.heap.size w w' := by
  subst e; exact l8Contacts_any a n c ac m cc Ct w hn h2 hm
set_option maxHeartbeats 4000000 in
theorem apart_s (a : Option Addr) (n c : Nat) (U : Nat → Int) (ac : Option Addr) (m cc : Nat) (Ct : Nat → Int) (w : World) (h : Flat w a (n * 12) U) (hn : n ≤ 1048576) (h2 : Flat w ac (m * 5) Ct) (hm : m ≤ 1048576) (N : Nat) (hN : (bif bcB n m U Ct then n else 0) = N) :
    Calls Try.prog 6 #[.slice a n c, .slice ac m cc] w fun e w' => ∃ a1 c1, e = .returned (.slice a1 N c1) ∧ OutL w w' 43 12 a1 N c1 (apartN Ct U m) := by
  have hset := cset_map
  cases kb : bodsB n U with
  | false =>
    have hk : bcB n m U Ct = false := by unfold bcB; rw [kb]; rfl
    rw [hk, cond_false] at hN
    subst hN
    go_enter Try.func6, Try.ntmps6
    go_wp2_with (go_at_call 15; refine (sBodiesOk_q a n c U false _ h hn kb).mono ?_; rintro e w1 ⟨rfl, hb1⟩)
    go_ret
    exact ⟨_, _, rfl, hb1.trans (((Below.refl _ _).alloc (Nat.le_refl _) _).mono hb1.size), ((LsV.new _ _ _).own.base hb1.size).congr (fun q hq => by omega)⟩
  | true =>
    cases kc : (decide (m ≤ 144) && ctsB n Ct m) with
    | false =>
      have hk : bcB n m U Ct = false := by unfold bcB; rw [kb, Bool.true_and]; exact kc
      rw [hk, cond_false] at hN
      subst hN
      go_enter Try.func6, Try.ntmps6
      go_wp2_with (first | (go_at_call 16; refine (l8Contacts_q a n c ac m cc Ct _ _ hn (h2.below hb1) hm kc).mono ?_; rintro e w2 ⟨rfl, hb2⟩) | (go_at_call 15; refine (sBodiesOk_q a n c U true _ h hn kb).mono ?_; rintro e w1 ⟨rfl, hb1⟩))
      have hb1 := hb1.trans (hb2.mono hb1.size)
      go_ret
      exact ⟨_, _, rfl, hb1.trans (((Below.refl _ _).alloc (Nat.le_refl _) _).mono hb1.size), ((LsV.new _ _ _).own.base hb1.size).congr (fun q hq => by omega)⟩
    | true =>
      have hk : bcB n m U Ct = true := by unfold bcB; rw [kb, Bool.true_and]; exact kc
      rw [hk, cond_true] at hN
      subst hN
      have hbb := Bods.of kb
      have hct : CtOk n m Ct := ctOk (by rw [Bool.and_eq_true] at kc; exact kc.2)
      go_enter Try.func6, Try.ntmps6
      go_wp2_with (first | (go_at_call 17; refine (l8Aparts_of (fun base g n c U A B X Y D w ho hn hA hB hbb hX hY hD => l8Apart_any base g n c U A B X Y D w ho hn hA hB hbb hX hY hD) a n c U ac m cc Ct _ (h.below hb12) hn hm (h2.below hb12) hbb hct).mono ?_; rintro e w3 ⟨a1, c1, rfl, hO⟩) | (go_at_call 16; refine (l8Contacts_q a n c ac m cc Ct _ _ hn (h2.below hb1) hm kc).mono ?_; rintro e w2 ⟨rfl, hb2⟩; have hb12 := hb1.trans (hb2.mono hb1.size)) | (go_at_call 15; refine (sBodiesOk_q a n c U true _ h hn kb).mono ?_; rintro e w1 ⟨rfl, hb1⟩))
      go_ret
      exact ⟨a1, c1, rfl, hb12.trans (hO.bel.mono hb12.size), hO.own.base hb12.size⟩
end Go.Proofs.Ytejminehbnebmaa
namespace Go.Proofs.Ytejminehbnebmaa
open Go.RowKit
set_option linter.unusedVariables false
set_option linter.unusedSimpArgs false
set_option maxRecDepth 20000 in
set_option maxHeartbeats 2000000 in
theorem heldBodyS_any (a : Option Addr) (n c : Nat) (w : World) (h : Flat w a (n * 12) (fun q => 1 + (q : Int))) (hn : n ≤ 2097152) :
    Calls Try.prog 14 #[.slice a n c, .int .i64 1] w fun e w' => e = .returned (.int .i64 (1 + (n : Int) * 12)) ∧ w' = w := by
  go_enter Try.func14, Try.ntmps14
  go_wp2
  go_loop [1, 5] (fun s i => ∃ j : Nat, j ≤ n ∧ i = .int .i64 (j : Int) ∧ s = .int .i64 (1 + (j : Int) * 12)) (fun _ i => n - (intOf i).toNat)
  case atStart => exact ⟨0, Nat.zero_le _, rfl, rfl⟩
  case round =>
    obtain ⟨j, hj, rfl, rfl⟩ := hrel
    by_cases hlt : j < n
    · have hjn : (j : Int) < (n : Int) := by omega
      obtain ⟨b, o, rfl, hbl, hc⟩ := h (by omega)
      have c0 : w.cell? ⟨b, o + j * 12, none⟩ = some (.int .i64 (1 + (j : Int) * 12)) := (hc (j * 12) (by omega)).trans (congrArg (fun z => some (Value.int .i64 z)) (show (1 : Int) + ((j * 12 : Nat) : Int) = 1 + (j : Int) * 12 by omega))
      have c1 : w.cell? ⟨b, o + j * 12 + 1, none⟩ = some (.int .i64 (1 + (j : Int) * 12 + 1)) := (hc (j * 12 + 1) (by omega)).trans (congrArg (fun z => some (Value.int .i64 z)) (show (1 : Int) + ((j * 12 + 1 : Nat) : Int) = 1 + (j : Int) * 12 + 1 by omega))
      have c2 : w.cell? ⟨b, o + j * 12 + 2, none⟩ = some (.int .i64 (1 + (j : Int) * 12 + 1 + 1)) := (hc (j * 12 + 2) (by omega)).trans (congrArg (fun z => some (Value.int .i64 z)) (show (1 : Int) + ((j * 12 + 2 : Nat) : Int) = 1 + (j : Int) * 12 + 1 + 1 by omega))
      have c3 : w.cell? ⟨b, o + j * 12 + 3, none⟩ = some (.int .i64 (1 + (j : Int) * 12 + 1 + 1 + 1)) := (hc (j * 12 + 3) (by omega)).trans (congrArg (fun z => some (Value.int .i64 z)) (show (1 : Int) + ((j * 12 + 3 : Nat) : Int) = 1 + (j : Int) * 12 + 1 + 1 + 1 by omega))
      have c4 : w.cell? ⟨b, o + j * 12 + 4, none⟩ = some (.int .i64 (1 + (j : Int) * 12 + 1 + 1 + 1 + 1)) := (hc (j * 12 + 4) (by omega)).trans (congrArg (fun z => some (Value.int .i64 z)) (show (1 : Int) + ((j * 12 + 4 : Nat) : Int) = 1 + (j : Int) * 12 + 1 + 1 + 1 + 1 by omega))
      have c5 : w.cell? ⟨b, o + j * 12 + 5, none⟩ = some (.int .i64 (1 + (j : Int) * 12 + 1 + 1 + 1 + 1 + 1)) := (hc (j * 12 + 5) (by omega)).trans (congrArg (fun z => some (Value.int .i64 z)) (show (1 : Int) + ((j * 12 + 5 : Nat) : Int) = 1 + (j : Int) * 12 + 1 + 1 + 1 + 1 + 1 by omega))
      have c6 : w.cell? ⟨b, o + j * 12 + 6, none⟩ = some (.int .i64 (1 + (j : Int) * 12 + 1 + 1 + 1 + 1 + 1 + 1)) := (hc (j * 12 + 6) (by omega)).trans (congrArg (fun z => some (Value.int .i64 z)) (show (1 : Int) + ((j * 12 + 6 : Nat) : Int) = 1 + (j : Int) * 12 + 1 + 1 + 1 + 1 + 1 + 1 by omega))
      have c7 : w.cell? ⟨b, o + j * 12 + 7, none⟩ = some (.int .i64 (1 + (j : Int) * 12 + 1 + 1 + 1 + 1 + 1 + 1 + 1)) := (hc (j * 12 + 7) (by omega)).trans (congrArg (fun z => some (Value.int .i64 z)) (show (1 : Int) + ((j * 12 + 7 : Nat) : Int) = 1 + (j : Int) * 12 + 1 + 1 + 1 + 1 + 1 + 1 + 1 by omega))
      have c8 : w.cell? ⟨b, o + j * 12 + 8, none⟩ = some (.int .i64 (1 + (j : Int) * 12 + 1 + 1 + 1 + 1 + 1 + 1 + 1 + 1)) := (hc (j * 12 + 8) (by omega)).trans (congrArg (fun z => some (Value.int .i64 z)) (show (1 : Int) + ((j * 12 + 8 : Nat) : Int) = 1 + (j : Int) * 12 + 1 + 1 + 1 + 1 + 1 + 1 + 1 + 1 by omega))
      have c9 : w.cell? ⟨b, o + j * 12 + 9, none⟩ = some (.int .i64 (1 + (j : Int) * 12 + 1 + 1 + 1 + 1 + 1 + 1 + 1 + 1 + 1)) := (hc (j * 12 + 9) (by omega)).trans (congrArg (fun z => some (Value.int .i64 z)) (show (1 : Int) + ((j * 12 + 9 : Nat) : Int) = 1 + (j : Int) * 12 + 1 + 1 + 1 + 1 + 1 + 1 + 1 + 1 + 1 by omega))
      have c10 : w.cell? ⟨b, o + j * 12 + 10, none⟩ = some (.int .i64 (1 + (j : Int) * 12 + 1 + 1 + 1 + 1 + 1 + 1 + 1 + 1 + 1 + 1)) := (hc (j * 12 + 10) (by omega)).trans (congrArg (fun z => some (Value.int .i64 z)) (show (1 : Int) + ((j * 12 + 10 : Nat) : Int) = 1 + (j : Int) * 12 + 1 + 1 + 1 + 1 + 1 + 1 + 1 + 1 + 1 + 1 by omega))
      have c11 : w.cell? ⟨b, o + j * 12 + 11, none⟩ = some (.int .i64 (1 + (j : Int) * 12 + 1 + 1 + 1 + 1 + 1 + 1 + 1 + 1 + 1 + 1 + 1)) := (hc (j * 12 + 11) (by omega)).trans (congrArg (fun z => some (Value.int .i64 z)) (show (1 : Int) + ((j * 12 + 11 : Nat) : Int) = 1 + (j : Int) * 12 + 1 + 1 + 1 + 1 + 1 + 1 + 1 + 1 + 1 + 1 + 1 by omega))
      clear hc h
      go_wp2
      go_round
      case rel => exact ⟨j + 1, by omega, by go_num, congrArg (Value.int .i64) (by omega)⟩
      case measure => simp [intOf]; omega
    · obtain rfl : j = n := by omega
      go_wp2
      go_ret
      exact ⟨rfl, rfl⟩
set_option maxHeartbeats 4000000 in
theorem toHit_any (x y k : Int) (w : World) :
    Calls Try.prog 32 #[s3 x y k] w fun e w' => e = .returned (s3 x y k) ∧ Below w.heap.size w w' := by
  have hset := cset_map
  go_enter Try.func32, Try.ntmps32
  go_wp2_with (go_at_call 31; refine (toVec_any _ _ _).mono ?_; rintro e w1 ⟨rfl, hb1⟩; obtain ⟨hc1, hf1⟩ := bcell hb1; have hz1 := hb1.size; (try simp only [World.size_drew, World.size_alloc, World.size_setCell] at hc1 hf1 hz1); have hk1x0 := fun o => hc1 (w.heap.size) o (by omega); have hj1x0 := fun o => hf1 (w.heap.size) o (by omega); have hq1x0 : w.heap.size < w1.heap.size := (by omega); have hk1x1 := fun o => hc1 (w.heap.size + 1) o (by omega); have hj1x1 := fun o => hf1 (w.heap.size + 1) o (by omega); have hq1x1 : w.heap.size + 1 < w1.heap.size := (by omega); have hk1x2 := fun o => hc1 (w.heap.size + 1 + 1) o (by omega); have hj1x2 := fun o => hf1 (w.heap.size + 1 + 1) o (by omega); have hq1x2 : w.heap.size + 1 + 1 < w1.heap.size := (by omega); clear hc1 hf1)
  exact bodyPost_ret (v := s3 x y k) (by simp [results, Try.results32, go_sem, *]) rfl ⟨rfl, bel_a⟩
set_option maxHeartbeats 4000000 in
theorem toContact_any (V : Nat → Int) (w : World) :
    Calls Try.prog 19 #[conW V] w fun e w' => e = .returned (conW V) ∧ Below w.heap.size w w' := by
  have hset := cset_map
  go_enter Try.func19, Try.ntmps19
  go_wp2_with (go_at_call 32; refine (toHit_any _ _ _ _).mono ?_; rintro e w1 ⟨rfl, hb1⟩; obtain ⟨hc1, hf1⟩ := bcell hb1; have hz1 := hb1.size; (try simp only [World.size_drew, World.size_alloc, World.size_setCell] at hc1 hf1 hz1); have hk1x0 := fun o => hc1 (w.heap.size) o (by omega); have hj1x0 := fun o => hf1 (w.heap.size) o (by omega); have hq1x0 : w.heap.size < w1.heap.size := (by omega); have hk1x1 := fun o => hc1 (w.heap.size + 1) o (by omega); have hj1x1 := fun o => hf1 (w.heap.size + 1) o (by omega); have hq1x1 : w.heap.size + 1 < w1.heap.size := (by omega); have hk1x2 := fun o => hc1 (w.heap.size + 1 + 1) o (by omega); have hj1x2 := fun o => hf1 (w.heap.size + 1 + 1) o (by omega); have hq1x2 : w.heap.size + 1 + 1 < w1.heap.size := (by omega); clear hc1 hf1)
  exact bodyPost_ret (v := conW V) (by simp [results, Try.results19, go_sem, *]) rfl ⟨rfl, bel_a⟩
abbrev zeroCt : Value := .agg #[.int .i64 0, .int .i64 0, .int .i64 0, .int .i64 0, .int .i64 0]
theorem makeContacts (n : Nat) (hn : n ≤ 1048576) (w : World) : (Instr.makeSlice 29 (.int .i64 (n : Int)) (.int .i64 (n : Int))).run Try.prog w = .ok (.slice (some ⟨w.heap.size, 0, none⟩) n n) (w.alloc (.cells (madeCells zeroCt.cells (n * 5)) 52)) :=
  make_rows _ _ zeroCt 5 40 Try.underlying29 (by kernel_rfl) _ _ n (by omega) (by omega) w
set_option maxRecDepth 20000 in
set_option maxHeartbeats 2000000 in
theorem toContactS_any (a : Option Addr) (n c : Nat) (U : Nat → Int) (w : World) (h : Flat w a (n * 5) U) (hn : n ≤ 1048576) :
    Calls Try.prog 8 #[.slice a n c] w fun e w' => ∃ b, e = .returned (.slice (some ⟨b, 0, none⟩) n n) ∧ w.heap.size ≤ b ∧ Row w' b 52 (n * 5) U ∧ Below w.heap.size w w' := by
  have hmk := makeContacts n hn
  go_enter Try.func8, Try.ntmps8
  go_wp2
  clear hmk
  go_loopw [4] (fun i wr => ∃ k : Nat, k ≤ n ∧ i = .int .i64 (k : Int) ∧ Row wr w.heap.size 52 (n * 5) (upto (k * 5) U) ∧ Below w.heap.size w wr) (fun i _ => n - (intOf i).toNat)
  case atStart => exact ⟨0, Nat.zero_le _, rfl, (Row.madek w _ 5 _ _ rfl (by decide) U).cut (by omega), (Below.refl _ _).alloc (Nat.le_refl _) _⟩
  case round =>
    obtain ⟨k, hk, rfl, hr, hbel⟩ := hrel
    have hrl := hr.lt
    by_cases hlt : k < n
    · obtain ⟨b, o, rfl, hbl, hc⟩ := (h.below hbel) (by omega)
      have c0 := hc (k * 5) (by omega)
      have c1 := hc (k * 5 + 1) (by omega)
      have c2 := hc (k * 5 + 2) (by omega)
      have c3 := hc (k * 5 + 3) (by omega)
      have c4 := hc (k * 5 + 4) (by omega)
      simp only [← Nat.add_assoc] at c0 c1 c2 c3 c4
      clear hc h
      go_wp2_with (go_at_call 19; refine (toContact_any (fun j => U (k * 5 + j)) _).mono ?_; rintro e w1 ⟨rfl, hb1⟩; have hr1 := hr.below hb1; have f1 := hr1.fro; (have e0 := hr1.cell (q := k * 5) (by omega)); (have e1 := hr1.cell (q := k * 5 + 1) (by omega)); (have e2 := hr1.cell (q := k * 5 + 2) (by omega)); (have e3 := hr1.cell (q := k * 5 + 3) (by omega)); (have e4 := hr1.cell (q := k * 5 + 4) (by omega)))
      go_roundw
      case rel => exact ⟨k + 1, by omega, by go_num, ((((((hr1).next).next).next).next).next).cut (by omega), bel_a⟩
      case measure => simp [intOf]; omega
    · go_wp2
      go_ret
      exact ⟨_, rfl, Nat.le_refl _, hr.full (by omega), hbel⟩
theorem szContactS_any (a : Option Addr) (n c : Nat) (L : Int) (w : World) (hn : (n : Int) ≤ 9223372036854775807) (hL : 0 ≤ L ∧ L ≤ 1048576) :
    Calls Try.prog 5 #[.slice a n c, .int .i64 L] w fun e w' => e = .returned (.int .i64 (if (n : Int) ≤ L then L - (n : Int) else -1)) ∧ w' = w := by
  have h2 : IntKind.i64.wrap (L - (n : Int)) = L - (n : Int) := i64w (by omega)
  by_cases h : (n : Int) ≤ L
  · have h1 : ¬ (L - (n : Int) < 0) := by omega
    go_enter Try.func5, Try.ntmps5
    go_wp2
    go_ret
    exact ⟨by first | rfl | (rw [if_pos h]; rfl) | simp [h], rfl⟩
  · have h1 : (L - (n : Int) < 0) := by omega
    go_enter Try.func5, Try.ntmps5
    go_wp2
    go_ret
    exact ⟨by first | rfl | (rw [if_neg h]; rfl) | simp [h], rfl⟩
theorem szContactS_no (a : Option Addr) (n c : Nat) (L : Int) (w : World) (hn : (n : Int) ≤ 9223372036854775807) (hL : 0 ≤ L ∧ L ≤ 1048576) (h : ¬ (n : Int) ≤ L) :
    Calls Try.prog 5 #[.slice a n c, .int .i64 L] w fun e w' => e = .returned (.int .i64 (-1)) ∧ w' = w := by
  have z := szContactS_any a n c L w hn hL
  rw [if_neg h] at z
  exact z
theorem markContactF5 {w wr : World} {base g n c j : Nat} {U : Nat → Int} {k0 : Int} (hlt : j < n) (ho : OwnL wr base 52 5 (.slice (some ⟨g, 0, none⟩) n c) n U) (hg : w.grownBy wr (Value.slice (some ⟨g, 0, none⟩) n c).ownBlock) :
    ∃ U', OwnL (((((wr.setCell ⟨g, j * 5, none⟩ (.int .i64 (k0 + (j : Int) * 5))).setCell ⟨g, j * 5 + 1, none⟩ (.int .i64 (k0 + (j : Int) * 5 + 1))).setCell ⟨g, j * 5 + 2, none⟩ (.int .i64 (k0 + (j : Int) * 5 + 1 + 1))).setCell ⟨g, j * 5 + 3, none⟩ (.int .i64 (k0 + (j : Int) * 5 + 1 + 1 + 1))).setCell ⟨g, j * 5 + 4, none⟩ (.int .i64 (k0 + (j : Int) * 5 + 1 + 1 + 1 + 1))) base 52 5 (.slice (some ⟨g, 0, none⟩) n c) n U' ∧ w.grownBy (((((wr.setCell ⟨g, j * 5, none⟩ (.int .i64 (k0 + (j : Int) * 5))).setCell ⟨g, j * 5 + 1, none⟩ (.int .i64 (k0 + (j : Int) * 5 + 1))).setCell ⟨g, j * 5 + 2, none⟩ (.int .i64 (k0 + (j : Int) * 5 + 1 + 1))).setCell ⟨g, j * 5 + 3, none⟩ (.int .i64 (k0 + (j : Int) * 5 + 1 + 1 + 1))).setCell ⟨g, j * 5 + 4, none⟩ (.int .i64 (k0 + (j : Int) * 5 + 1 + 1 + 1 + 1))) (Value.slice (some ⟨g, 0, none⟩) n c).ownBlock := by
  have q0 := ho
  have q1 := q0.setq (j * 5) (by omega) (k0 + (j : Int) * 5)
  have q2 := q1.setq (j * 5 + 1) (by omega) (k0 + (j : Int) * 5 + 1)
  have q3 := q2.setq (j * 5 + 2) (by omega) (k0 + (j : Int) * 5 + 1 + 1)
  have q4 := q3.setq (j * 5 + 3) (by omega) (k0 + (j : Int) * 5 + 1 + 1 + 1)
  have q5 := q4.setq (j * 5 + 4) (by omega) (k0 + (j : Int) * 5 + 1 + 1 + 1 + 1)
  have h0 : w.grownBy wr (some g) := hg
  exact ⟨_, q5, (grown_trans (grown_trans (grown_trans (grown_trans (grown_trans h0 (grown_setG _ _ _ _)) (grown_setG _ _ _ _)) (grown_setG _ _ _ _)) (grown_setG _ _ _ _)) (grown_setG _ _ _ _))⟩
set_option maxRecDepth 20000 in
set_option maxHeartbeats 2000000 in
theorem markContactS_from (k0 : Int) (hk : 0 ≤ k0 ∧ k0 ≤ 100000000) (base : Nat) (a : Option Addr) (n c : Nat) (U : Nat → Int) (w : World) (h : OwnL w base 52 5 (.slice a n c) n U) (hn : n ≤ 2097152) :
    Calls Try.prog 13 #[.slice a n c, .int .i64 k0] w fun e w' => e = .returned (.int .i64 (k0 + (n : Int) * 5)) ∧ (∃ U', OwnL w' base 52 5 (.slice a n c) n U') ∧ w.grownBy w' (Value.slice a n c).ownBlock := by
  have hset := cset_map
  go_enter Try.func13, Try.ntmps13
  go_wp2
  go_loopw [1, 5] (fun s i wr => ∃ (j : Nat) (V : Nat → Int), j ≤ n ∧ i = .int .i64 (j : Int) ∧ s = .int .i64 (k0 + (j : Int) * 5) ∧ OwnL wr base 52 5 (.slice a n c) n V ∧ w.grownBy wr (Value.slice a n c).ownBlock) (fun _ i _ => n - (intOf i).toNat)
  case atStart => exact ⟨0, U, Nat.zero_le _, rfl, congrArg (Value.int .i64) (by omega), h, grown_refl _ _⟩
  case round =>
    obtain ⟨j, V, hj, rfl, rfl, ho, hg⟩ := hrel
    by_cases hlt : j < n
    · have hjn : (j : Int) < (n : Int) := by omega
      obtain ⟨g, rfl, hgb, hgl⟩ := ho.loc (by omega)
      have c0 := ho.cellq (q := j * 5) (by omega)
      have c1 := ho.cellq (q := j * 5 + 1) (by omega)
      have c2 := ho.cellq (q := j * 5 + 2) (by omega)
      have c3 := ho.cellq (q := j * 5 + 3) (by omega)
      have c4 := ho.cellq (q := j * 5 + 4) (by omega)
      have f0 := ho.fro
      go_wp2
      go_roundw
      case rel =>
        obtain ⟨V', r1, r2⟩ := markContactF5 (k0 := k0) hlt ho hg
        exact ⟨j + 1, V', by omega, by go_num, congrArg (Value.int .i64) (by omega), r1, r2⟩
      case measure => simp [intOf]; omega
    · obtain rfl : j = n := by omega
      go_wp2
      go_ret
      exact ⟨rfl, ⟨_, ho⟩, hg⟩
end Go.Proofs.Ytejminehbnebmaa
namespace Go.Proofs.Ytejminehbnebmaa
open Go.RowKit
set_option linter.unusedVariables false
set_option linter.unusedSimpArgs false
theorem apart_ir {n m : Nat} {U Ct R : Nat → Int} (hR : R = apartN Ct U m) (a : Option Addr) (c : Nat) (ac : Option Addr) (cc : Nat) (w : World) (h : Flat w a (n * 12) U) (hn : n ≤ 1048576) (h2 : Flat w ac (m * 5) Ct) (hm : m ≤ 1048576) (N : Nat) (hN : (bif bcB n m U Ct then n else 0) = N) :
    Calls Try.prog 9 #[.slice a n c, .slice ac m cc] w fun e w' => ∃ a1 c1, e = .returned (.slice a1 N c1) ∧ OutL w w' 43 12 a1 N c1 R := by subst hR; exact apart_i a n c U ac m cc Ct w h hn h2 hm N hN
theorem apart_sr {n m : Nat} {U Ct R : Nat → Int} (hR : R = apartN Ct U m) (a : Option Addr) (c : Nat) (ac : Option Addr) (cc : Nat) (w : World) (h : Flat w a (n * 12) U) (hn : n ≤ 1048576) (h2 : Flat w ac (m * 5) Ct) (hm : m ≤ 1048576) (N : Nat) (hN : (bif bcB n m U Ct then n else 0) = N) :
    Calls Try.prog 6 #[.slice a n c, .slice ac m cc] w fun e w' => ∃ a1 c1, e = .returned (.slice a1 N c1) ∧ OutL w w' 43 12 a1 N c1 R := by subst hR; exact apart_s a n c U ac m cc Ct w h hn h2 hm N hN
set_option maxRecDepth 20000 in
set_option maxHeartbeats 8000000 in
theorem fnExactApart_walk (a : Option Addr) (n c : Nat) (U : Nat → Int) (ac : Option Addr) (m cc : Nat) (Ct : Nat → Int) (w : World) (h : Flat w a (n * 12) U) (hn : (n : Int) ≤ 9223372036854775807) (h2 : Flat w ac (m * 5) Ct) (hm : (m : Int) ≤ 9223372036854775807) :
    Calls Try.prog 3 #[.slice a n c, .slice ac m cc] w fun e w' => e = .returned (.bool true) ∧ Below w.heap.size w w' := by
  have hset := cset_map
  by_cases h20 : n ≤ 1048576
  · have h1 : ¬ (1048576 - (n : Int) < 0) := by omega
    by_cases h22 : (m : Int) ≤ 1048576 - (n : Int)
    · have h3 : ¬ (1048576 - (n : Int) - (m : Int) < 0) := by omega
      have h21 : m ≤ 1048576 := by omega
      obtain ⟨N, hN5⟩ : ∃ N, (bif bcB n m U Ct then n else 0) = N := ⟨_, rfl⟩
      have hN20 : N ≤ 1048576 := by rw [← hN5]; cases bcB n m U Ct <;> simp <;> omega
      obtain ⟨R, hR⟩ : ∃ R, R = apartN Ct U m := ⟨_, rfl⟩
      go_enter Try.func3, Try.ntmps3
      go_upto_region 8 with (first
        | (go_at_call 4; refine (szBodyS_any _ _ _ _ hn).mono ?_; rw [if_pos h20]; rintro e w0 ⟨rfl, rfl⟩)
        | (go_at_call 5; refine (szContactS_any _ _ _ _ _ hm (by omega)).mono ?_; rw [if_pos h22]; rintro e w9 ⟨rfl, rfl⟩))
      go_cut [6] (fun s wc => ∃ aw cw lw hw, s = .slice aw N cw ∧ w9.heap.size ≤ lw ∧ lw ≤ hw ∧ Below w9.heap.size w9 wc ∧ Lv wc lw hw 43 12 aw N cw R)
      case first =>
        go_wp2_with (first
          | (go_at_call 7; refine (toBodyS_any _ _ _ U _ h h20).mono ?_; rintro e w2 ⟨b2, rfl, hl2, hr2, hb2⟩)
          | (go_at_call 8; refine (toContactS_any _ _ _ Ct _ (h2.below hb2) h21).mono ?_; rintro e w3 ⟨b3, rfl, hl3, hr3, hb3⟩)
          | (go_at_call 6; refine (apart_sr hR _ _ _ _ _ (hr2.flat.below hb3) h20 hr3.flat h21 N hN5).mono ?_; rintro e w4 ⟨a4, c4, rfl, hO4⟩))
        go_meet
        have hb23 := hb2.trans (hb3.mono hb2.size)
        exact ⟨_, _, _, _, rfl, hb23.size, hO4.bel.size, hb23.trans (hO4.bel.mono hb23.size), hO4.lv⟩
      case rest =>
      obtain ⟨aw, cw, lw, hw, rfl, g1, g2, hB, hW⟩ := hcut
      go_upto_region 9 with fail
      go_cut [7] (fun s wc => ∃ ax cx lx hx, s = .slice ax n cx ∧ n ≤ cx ∧ hw ≤ lx ∧ lx ≤ hx ∧ Below w9.heap.size w9 wc ∧ Lv wc lw hw 43 12 aw N cw R ∧ Lv wc lx hx 43 12 ax n cx U)
      case first =>
        go_wp2_with (go_at_call 7; refine (toBodyS_any _ _ _ U _ (h.below hB) h20).mono ?_; rintro e w2 ⟨b2, rfl, hl2, hr2, hb2⟩)
        go_meet
        exact ⟨_, _, _, _, rfl, Nat.le_refl _, hW.le, hb2.size, hB.trans (hb2.mono hB.size), hW.on hb2, Lv.row hr2 hl2 h20⟩
      case rest =>
      clear hB hW
      obtain ⟨ax, cx, lx, hx, rfl, hcx, g3, g4, hB, hW, hX⟩ := hcut
      go_upto_region 10 with fail
      go_cut [8] (fun s wc => ∃ ay cy ly hy, s = .slice ay m cy ∧ m ≤ cy ∧ hx ≤ ly ∧ ly ≤ hy ∧ Below w9.heap.size w9 wc ∧ Lv wc lw hw 43 12 aw N cw R ∧ Lv wc lx hx 43 12 ax n cx U ∧ Lv wc ly hy 52 5 ay m cy Ct)
      case first =>
        go_wp2_with (go_at_call 8; refine (toContactS_any _ _ _ Ct _ (h2.below hB) h21).mono ?_; rintro e w2 ⟨b2, rfl, hl2, hr2, hb2⟩)
        go_meet
        exact ⟨_, _, _, _, rfl, Nat.le_refl _, hX.le, hb2.size, hB.trans (hb2.mono hB.size), hW.on hb2, hX.on hb2, Lv.row hr2 hl2 h21⟩
      case rest =>
      clear hB hW hX
      obtain ⟨ay, cy, ly, hy, rfl, hcy, g5, g6, hB, hW, hX, hY⟩ := hcut
      go_upto_region 11 with fail
      go_cut [9] (fun s wc => ∃ ag cg lg hg, s = .slice ag N cg ∧ hy ≤ lg ∧ lg ≤ hg ∧ Below w9.heap.size w9 wc ∧ Lv wc lw hw 43 12 aw N cw R ∧ Lv wc lx hx 43 12 ax n cx U ∧ Lv wc ly hy 52 5 ay m cy Ct ∧ Lv wc lg hg 43 12 ag N cg R)
      case first =>
        go_wp2_with (go_at_call 9; refine (apart_ir hR _ _ _ _ _ hX.flat h20 hY.flat h21 N hN5).mono ?_; rintro e w4 ⟨a4, c4, rfl, hO4⟩)
        go_meet
        exact ⟨_, _, _, _, rfl, hY.le, hO4.bel.size, hB.trans (hO4.bel.mono hB.size), hW.on hO4.bel, hX.on hO4.bel, hY.on hO4.bel, hO4.lv⟩
      case rest =>
      clear hB hW hX hY
      obtain ⟨ag, cg, lg, hg, rfl, g7, g8, hB, hW, hX, hY, hG⟩ := hcut
      go_upto_region 12 with fail
      go_cut [39] (fun s wc => s = .bool false ∧ Below w9.heap.size w9 wc ∧ Lv wc lw hw 43 12 aw N cw R ∧ Lv wc lx hx 43 12 ax n cx U ∧ Lv wc lg hg 43 12 ag N cg R ∧ Lv wc ly hy 52 5 ay m cy Ct)
      case first =>
        go_wp2_with (go_at_call 10; refine (eqBodyS_same _ _ _ _ _ R _ hG.flat hW.flat hN20).mono ?_; rintro e w8 ⟨rfl, hb8⟩)
        go_meet
        exact ⟨rfl, hB.trans (hb8.mono hB.size), hW.on hb8, hX.on hb8, hG.on hb8, hY.on hb8⟩
      case rest =>
      clear hB hW hX hG hY
      obtain ⟨rfl, hB, hW, hX, hG, hY⟩ := hcut
      go_upto_region 14 with fail
      go_cut [44] (fun s wc => s = .bool false ∧ Below w9.heap.size w9 wc ∧ Lv wc lw hw 43 12 aw N cw R ∧ Lv wc lx hx 43 12 ax n cx U ∧ Lv wc lg hg 43 12 ag N cg R ∧ Lv wc ly hy 52 5 ay m cy Ct)
      case first =>
        go_wp2_with (first
          | (go_at_call 7; refine (toBodyS_any _ _ _ U _ (h.below hB) h20).mono ?_; rintro e w6 ⟨b6, rfl, hl6, hr6, hb6⟩)
          | (go_at_call 10; refine (eqBodyS_same _ _ _ _ _ U _ (hX.on hb6).flat hr6.flat h20).mono ?_; rintro e w7 ⟨rfl, hb7⟩))
        go_meet
        have hb67 := hb6.trans (hb7.mono hb6.size)
        exact ⟨rfl, hB.trans (hb67.mono hB.size), hW.on hb67, hX.on hb67, hG.on hb67, hY.on hb67⟩
      case rest =>
      clear hB hW hX hG hY
      obtain ⟨rfl, hB, hW, hX, hG, hY⟩ := hcut
      go_upto_region 16 with fail
      go_cut [49] (fun s wc => s = .bool false ∧ Below w9.heap.size w9 wc ∧ Lv wc lw hw 43 12 aw N cw R ∧ Lv wc lx hx 43 12 ax n cx U ∧ Lv wc lg hg 43 12 ag N cg R ∧ Lv wc ly hy 52 5 ay m cy Ct)
      case first =>
        go_wp2_with (first
          | (go_at_call 8; refine (toContactS_any _ _ _ Ct _ (h2.below hB) h21).mono ?_; rintro e w6 ⟨b6, rfl, hl6, hr6, hb6⟩)
          | (go_at_call 11; refine (eqContactS_same _ _ _ _ _ Ct _ (hY.on hb6).flat hr6.flat h21).mono ?_; rintro e w7 ⟨rfl, hb7⟩))
        go_meet
        have hb67 := hb6.trans (hb7.mono hb6.size)
        exact ⟨rfl, hB.trans (hb67.mono hB.size), hW.on hb67, hX.on hb67, hG.on hb67, hY.on hb67⟩
      case rest =>
      clear hB hW hX hG hY
      obtain ⟨rfl, hB, hW, hX, hG, hY⟩ := hcut
      go_upto_region 19 with fail
      go_cut [10] (fun s wc => s = .int .i64 (1 + (n : Int) * 12) ∧ Below w9.heap.size w9 wc ∧ Lv wc lw hw 43 12 aw N cw R ∧ Lv wc lx hx 43 12 ax n cx (fun q => 1 + (q : Int)) ∧ Lv wc lg hg 43 12 ag N cg R ∧ Lv wc ly hy 52 5 ay m cy Ct)
      case first =>
        go_wp2_with (go_at_call 12; refine (markBodyS_any lx _ _ _ U _ hX.own (by omega)).mono ?_; rintro e w2 ⟨rfl, ho2, hg2⟩)
        go_meet
        exact ⟨rfl, hX.below hB hB.size hg2 (by omega), hW.gr hX hg2 (.inl (by omega)), hX.me hg2 ho2, hG.gr hX hg2 (.inr (by omega)), hY.gr hX hg2 (.inr (by omega))⟩
      case rest =>
      clear hB hW hX hG hY
      obtain ⟨rfl, hB, hW, hX, hG, hY⟩ := hcut
      go_upto_region 20 with fail
      go_cut [10] (fun s wc => s = .int .i64 (1 + (n : Int) * 12 + (m : Int) * 5) ∧ Below w9.heap.size w9 wc ∧ Lv wc lw hw 43 12 aw N cw R ∧ Lv wc lx hx 43 12 ax n cx (fun q => 1 + (q : Int)) ∧ Lv wc lg hg 43 12 ag N cg R ∧ ∃ Cm, Lv wc ly hy 52 5 ay m cy Cm)
      case first =>
        go_wp2_with (go_at_call 13; refine (markContactS_from _ (by omega) ly _ _ _ Ct _ hY.own (by omega)).mono ?_; rintro e w2 ⟨rfl, ⟨Cm, ho2⟩, hg2⟩)
        go_meet
        exact ⟨rfl, hY.below hB hB.size hg2 (by omega), hW.gr hY hg2 (.inl (by omega)), hX.gr hY hg2 (.inl (by omega)), hG.gr hY hg2 (.inr (by omega)), ⟨Cm, hY.me hg2 ho2⟩⟩
      case rest =>
      clear hB hW hX hG hY
      obtain ⟨rfl, hB, hW, hX, hG, ⟨Cm, hY⟩⟩ := hcut
      have hk0 : ¬ ((1 + (n : Int) * 12 + (m : Int) * 5) < 0) := by omega
      go_upto_region 21 with fail
      go_cut [63] (fun s wc => s = .bool false ∧ Below w9.heap.size w9 wc ∧ Lv wc lw hw 43 12 aw N cw R ∧ Lv wc lx hx 43 12 ax n cx (fun q => 1 + (q : Int)) ∧ Lv wc lg hg 43 12 ag N cg R ∧ ∃ Cm, Lv wc ly hy 52 5 ay m cy Cm)
      case first =>
        go_wp2_with (go_at_call 10; refine (eqBodyS_same _ _ _ _ _ R _ hG.flat hW.flat hN20).mono ?_; rintro e w9 ⟨rfl, hb9⟩)
        go_meet
        exact ⟨rfl, hB.trans (hb9.mono hB.size), hW.on hb9, hX.on hb9, hG.on hb9, ⟨_, hY.on hb9⟩⟩
      case rest =>
      clear hB hW hX hG hY
      obtain ⟨rfl, hB, hW, hX, hG, ⟨Cm, hY⟩⟩ := hcut
      go_upto_region 24 with fail
      go_cut [11] (fun s wc => s = .int .i64 (1 + (N : Int) * 12) ∧ Below w9.heap.size w9 wc ∧ Lv wc lw hw 43 12 aw N cw R ∧ Lv wc lx hx 43 12 ax n cx (fun q => 1 + (q : Int)) ∧ Lv wc lg hg 43 12 ag N cg (fun q => 1 + (q : Int)) ∧ ∃ Cm, Lv wc ly hy 52 5 ay m cy Cm)
      case first =>
        go_wp2_with (go_at_call 12; refine (markBodyS_any lg _ _ _ R _ hG.own (by omega)).mono ?_; rintro e w2 ⟨rfl, ho2, hg2⟩)
        go_meet
        exact ⟨rfl, hG.below hB hB.size hg2 (by omega), hW.gr hG hg2 (.inl (by omega)), hX.gr hG hg2 (.inl (by omega)), hG.me hg2 ho2, ⟨_, hY.gr hG hg2 (.inl (by omega))⟩⟩
      case rest =>
      clear hB hW hX hG hY
      obtain ⟨rfl, hB, hW, hX, hG, ⟨Cm, hY⟩⟩ := hcut
      have hk1 : ¬ ((1 + (N : Int) * 12) < 0) := by omega
      go_upto_region 26 with fail
      go_cut [12] (fun s wc => s = .int .i64 (1 + (N : Int) * 12) ∧ Below w9.heap.size w9 wc ∧ Lv wc lw hw 43 12 aw N cw R ∧ Lv wc lx hx 43 12 ax n cx (fun q => 1 + (q : Int)) ∧ Lv wc lg hg 43 12 ag N cg (fun q => 1 + (q : Int)) ∧ ∃ Cm, Lv wc ly hy 52 5 ay m cy Cm)
      case first =>
        go_wp2_with (go_at_call 14; refine (heldBodyS_any _ _ _ _ hG.flat (by omega)).mono ?_; rintro e w2 ⟨rfl, rfl⟩)
        go_meet
        exact ⟨rfl, hB, hW, hX, hG, ⟨_, hY⟩⟩
      case rest =>
      clear hB hW hX hG hY
      obtain ⟨rfl, hB, hW, hX, hG, ⟨Cm, hY⟩⟩ := hcut
      go_upto_region 31 with fail
      go_cut [13] (fun s wc => ∃ ah ch lh hh, s = .slice ah N ch ∧ Below w9.heap.size w9 wc ∧ Lv wc lw hw 43 12 aw N cw R ∧ Lv wc lg hg 43 12 ag N cg (fun q => 1 + (q : Int)) ∧ Lv wc lh hh 43 12 ah N ch R)
      case first =>
        go_wp2_with (first
          | (go_at_call 7; refine (toBodyS_any _ _ _ U _ (h.below hB) h20).mono ?_; rintro e w2 ⟨b2, rfl, hl2, hr2, hb2⟩)
          | (go_at_call 8; refine (toContactS_any _ _ _ Ct _ ((h2.below hB).below hb2) h21).mono ?_; rintro e w3 ⟨b3, rfl, hl3, hr3, hb3⟩)
          | (go_at_call 9; refine (apart_ir hR _ _ _ _ _ (hr2.flat.below hb3) h20 hr3.flat h21 N hN5).mono ?_; rintro e w4 ⟨a4, c4, rfl, hO4⟩))
        go_meet
        have hb23 := hb2.trans (hb3.mono hb2.size)
        have hb24 := hb23.trans (hO4.bel.mono hb23.size)
        exact ⟨_, _, _, _, rfl, hB.trans (hb24.mono hB.size), hW.on hb24, hG.on hb24, hO4.lv⟩
      case rest =>
      clear hB hW hX hG hY
      obtain ⟨ah, ch, lh, hh, rfl, hB, hW, hG, hH⟩ := hcut
      go_upto_region 32 with fail
      go_cut [83] (fun s wc => s = .bool false ∧ Below w9.heap.size w9 wc ∧ Lv wc lg hg 43 12 ag N cg (fun q => 1 + (q : Int)))
      case first =>
        go_wp2_with (go_at_call 10; refine (eqBodyS_same _ _ _ _ _ R _ hH.flat hW.flat hN20).mono ?_; rintro e w9 ⟨rfl, hb9⟩)
        go_meet
        exact ⟨rfl, hB.trans (hb9.mono hB.size), hG.on hb9⟩
      case rest =>
      clear hB hW hG hH
      obtain ⟨rfl, hB, hG⟩ := hcut
      go_upto_region 35 with fail
      go_wp2_with (go_at_call 14; refine (heldBodyS_any _ _ _ _ hG.flat (by omega)).mono ?_; rintro e w2 ⟨rfl, rfl⟩)
      go_ret
      exact ⟨rfl, hB⟩
    · go_enter Try.func3, Try.ntmps3
      go_wp2_with (first
        | (go_at_call 4; refine (szBodyS_any _ _ _ _ hn).mono ?_; rw [if_pos h20]; rintro e w0 ⟨rfl, rfl⟩)
        | (go_at_call 5; refine (szContactS_no _ _ _ _ _ hm (by omega) (by omega)).mono ?_; rintro e w9 ⟨rfl, rfl⟩))
      go_ret
      exact ⟨rfl, Below.refl _ _⟩
  · have h1 : (1048576 - (n : Int) < 0) := by omega
    go_enter Try.func3, Try.ntmps3
    go_wp2_with (go_at_call 4; refine (szBodyS_any _ _ _ _ hn).mono ?_; rw [if_neg h20]; rintro e w0 ⟨rfl, rfl⟩)
    go_ret
    exact ⟨rfl, Below.refl _ _⟩
end Go.Proofs.Ytejminehbnebmaa
namespace Go.Proofs.Ytejminehbnebmaa
theorem head_cut {l : List (List Char)} {c : List Char} (h : (l.head? == some c) = true) : ∃ rest, l = c :: rest := by
  cases l with
  | nil => simp at h
  | cons a r => simp at h; exact ⟨r, by rw [h]⟩
theorem strip_cut (rest : List (List Char)) : stripLifts liftWords ("cut".toList :: rest) = ([], "cut".toList :: rest) := by kernel_rfl
theorem make_of {P : Program} {l : List Char} (h0 : P.initOrder.toList = l) (h1 : ((behindMainWord (wordsSigns l)).head? == some "cut".toList) = true) : P.make = some .cut := by
  obtain ⟨rest, hr⟩ := head_cut h1
  unfold Program.make
  rw [h0, hr]
  rfl
theorem headLifts_of {P : Program} {l : List Char} (h0 : P.initOrder.toList = l) (h1 : ((behindMainWord (wordsSigns l)).head? == some "cut".toList) = true) : P.headLifts = [] := by
  obtain ⟨rest, hr⟩ := head_cut h1
  unfold Program.headLifts
  rw [h0, hr, strip_cut]
  rfl
theorem liftsFinal_of {P : Program} {l : List Char} (h0 : P.initOrder.toList = l) (h1 : ((behindMainWord (wordsSigns l)).head? == some "cut".toList) = true) : P.liftsFinal = false := by
  have hh := headLifts_of h0 h1
  obtain ⟨rest, hr⟩ := head_cut h1
  unfold Program.liftsFinal
  rw [h0, hr, hh]
  rfl
theorem mayEnter_of {P : Program} {l : List Char} (h0 : P.initOrder.toList = l) (h1 : ((behindMainWord (wordsSigns l)).head? == some "cut".toList) = true) (h2 : P.laysLater = false) (h3 : P.bearsReflect = false) (h4 : P.doorFits [] = true) : P.mayEnter = true := by
  obtain ⟨rest, hr⟩ := head_cut h1
  unfold Program.mayEnter
  rw [h0, hr]
  simp only [strip_cut, h2, h3, h4]
  simp
end Go.Proofs.Ytejminehbnebmaa
namespace Go.Proofs.Ytejminehbnebmaa
set_option maxRecDepth 100000
def ordL : { l : List Char // Try.prog.initOrder = String.ofList l } := ⟨_, rfl⟩
theorem ordT : Try.prog.initOrder.toList = ordL.1 := (congrArg String.toList ordL.2).trans String.toList_ofList
theorem headE : ((behindMainWord (wordsSigns ordL.1)).head? == some "cut".toList) = true := by kernel_rfl
theorem makeT : Try.prog.make = some .cut := make_of ordT headE
theorem liftsFinalT : Try.prog.liftsFinal = false := liftsFinal_of ordT headE
theorem laysLaterT : Try.prog.laysLater = false := by kernel_rfl
theorem bearsReflectT : Try.prog.bearsReflect = false := by kernel_rfl
theorem doorFitsT : Try.prog.doorFits [] = true := by kernel_rfl
theorem mayEnterT : Try.prog.mayEnter = true := mayEnter_of ordT headE laysLaterT bearsReflectT doorFitsT
theorem ownT : ownKnob Try.prog.godebug = none := by kernel_rfl
theorem laidOutT : laidOutB Try.prog = true := by kernel_rfl
theorem mapsRowedT : mapsRowed Try.prog = true := by kernel_rfl
theorem stopsHeardT : Try.prog.stopsHeard = true := by kernel_rfl
theorem plainKeysT : Try.prog.plainKeys = true := by kernel_rfl
end Go.Proofs.Ytejminehbnebmaa
