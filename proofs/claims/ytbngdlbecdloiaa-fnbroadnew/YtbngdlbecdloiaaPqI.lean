/- Lists of boxes, of numbers, of pairs: held against each other in a law. -/
import Derived.Test.YtbngdlbecdloiaaB7
import Derived.Test.YtbngdlbecdloiaaB25
import Derived.Test.YtbngdlbecdloiaaB10
import Derived.Test.YtbngdlbecdloiaaB13
import Derived.Deep.RegionHeld3
import Derived.Deep.DeepCutAuto
set_option maxHeartbeats 16000000
set_option maxRecDepth 20000
namespace Go.Proofs.Ytbngdlbecdloiaa
open Go.RowKit
set_option linter.unusedVariables false
set_option linter.unusedSimpArgs false
set_option maxRecDepth 20000 in
set_option maxHeartbeats 8000000 in
theorem pqPairs_eq (a a' : Option Addr) (N c c' : Nat) (R : Nat → Int) (w : World) (h : Flat w a (N * 2) R) (h' : Flat w a' (N * 2) R) (hN : N ≤ 1000) :
    Calls Try.prog 21 #[.slice a N c, .slice a' N c'] w fun e w' => e = .returned (.bool true) ∧ Below w.heap.size w w' := by
  have hset := cset_map
  have e0 : ((N : Int) != (N : Int)) = false := by simp
  go_enter Try.func21, Try.ntmps21
  go_upto_region 4 with fail
  go_loopw [5] (fun s wr => ∃ k : Nat, k ≤ N ∧ s = .int .i64 (k : Int) ∧ Below w.heap.size w wr) (fun s _ => N - (intOf s).toNat)
  case atStart => exact ⟨0, Nat.zero_le _, rfl, Below.refl _ _⟩
  case round =>
    obtain ⟨k, hk, rfl, hw⟩ := hrel
    by_cases hlt : k < N
    · have hkN : (k : Int) < (N : Int) := by omega
      obtain ⟨b1, o1, e1, _, hc1⟩ := (h.below hw) (by omega)
      obtain ⟨b2, o2, e2, _, hc2⟩ := (h'.below hw) (by omega)
      have r0 : wr.cell? ⟨b1, o1 + k * 2, none⟩ = some (.int .i64 (R (k * 2))) := by have q := hc1 (k * 2 + 0) (by omega); rw [← Nat.add_assoc] at q; exact q
      have s0 : wr.cell? ⟨b2, o2 + k * 2, none⟩ = some (.int .i64 (R (k * 2))) := by have q := hc2 (k * 2 + 0) (by omega); rw [← Nat.add_assoc] at q; exact q
      have r1 : wr.cell? ⟨b1, o1 + k * 2 + 1, none⟩ = some (.int .i64 (R (k * 2 + 1))) := by have q := hc1 (k * 2 + 1) (by omega); rw [← Nat.add_assoc] at q; exact q
      have s1 : wr.cell? ⟨b2, o2 + k * 2 + 1, none⟩ = some (.int .i64 (R (k * 2 + 1))) := by have q := hc2 (k * 2 + 1) (by omega); rw [← Nat.add_assoc] at q; exact q
      clear hc1 hc2
      subst e1 e2
      have hev : ∀ w, (Op.equalIn 10000 48 (.agg #[.int .i64 (R (k * 2)), .int .i64 (R (k * 2 + 1))]) (.agg #[.int .i64 (R (k * 2)), .int .i64 (R (k * 2 + 1))])).run Try.prog w = .ok true w := fun w => by rw [eq_pair0]; simp
      go_upto_region 6 with fail
      refine wp_region_held_drew (S := fun w' => w'.cell? ⟨b1, o1 + k * 2, none⟩ = some (.int .i64 (R (k * 2))) ∧ w'.cell? ⟨b1, o1 + k * 2 + 1, none⟩ = some (.int .i64 (R (k * 2 + 1))) ∧ w'.cell? ⟨b2, o2 + k * 2, none⟩ = some (.int .i64 (R (k * 2))) ∧ w'.cell? ⟨b2, o2 + k * 2 + 1, none⟩ = some (.int .i64 (R (k * 2 + 1)))) (by kernel_rfl) ?_ (fun hHeld => ?_)
      · (try dsimp only)
        (first | (go_simp; done) | (go_keep; done))
      refine tq 0 hHeld ?_
      refine tq 1 hHeld ?_
      refine tq 2 hHeld ?_
      refine tq 3 hHeld ?_
      refine tq 4 hHeld ?_
      refine tq 5 hHeld ?_
      refine tq 6 hHeld ?_
      refine tq 7 hHeld ?_
      refine tq 8 hHeld ?_
      refine wpAnyH_done (by kernel_rfl) ?_ _
      go_wp2_with fail
      go_roundw
      case rel => exact ⟨k + 1, by omega, by go_num, hw.drew⟩
      case measure => simp [intOf]; omega
    · obtain rfl : k = N := by omega
      go_wp2_with fail
      go_ret
      exact ⟨rfl, hw⟩
set_option maxRecDepth 20000 in
set_option maxHeartbeats 8000000 in
theorem pqInts_eq (a a' : Option Addr) (N c c' : Nat) (R : Nat → Int) (w : World) (h : Flat w a (N * 1) R) (h' : Flat w a' (N * 1) R) (hN : N ≤ 1000) :
    Calls Try.prog 26 #[.slice a N c, .slice a' N c'] w fun e w' => e = .returned (.bool true) ∧ Below w.heap.size w w' := by
  have hset := cset_map
  have e0 : ((N : Int) != (N : Int)) = false := by simp
  go_enter Try.func26, Try.ntmps26
  go_upto_region 4 with fail
  go_loopw [5] (fun s wr => ∃ k : Nat, k ≤ N ∧ s = .int .i64 (k : Int) ∧ Below w.heap.size w wr) (fun s _ => N - (intOf s).toNat)
  case atStart => exact ⟨0, Nat.zero_le _, rfl, Below.refl _ _⟩
  case round =>
    obtain ⟨k, hk, rfl, hw⟩ := hrel
    by_cases hlt : k < N
    · have hkN : (k : Int) < (N : Int) := by omega
      obtain ⟨b1, o1, e1, _, hc1⟩ := (h.below hw) (by omega)
      obtain ⟨b2, o2, e2, _, hc2⟩ := (h'.below hw) (by omega)
      have r0 := hc1 k (by omega)
      have s0 := hc2 k (by omega)
      clear hc1 hc2
      subst e1 e2
      have hev : (R k != R k) = false := by simp
      go_upto_region 6 with fail
      refine wp_region_held_drew (S := fun w' => w'.cell? ⟨b1, o1 + k, none⟩ = some (.int .i64 (R k)) ∧ w'.cell? ⟨b2, o2 + k, none⟩ = some (.int .i64 (R k))) (by kernel_rfl) ?_ (fun hHeld => ?_)
      · (try dsimp only)
        (first | (go_simp; done) | (go_keep; done))
      refine tq 0 hHeld ?_
      refine tq 1 hHeld ?_
      refine tq 2 hHeld ?_
      refine tq 3 hHeld ?_
      refine tq 4 hHeld ?_
      refine tq 5 hHeld ?_
      refine tq 6 hHeld ?_
      refine tq 7 hHeld ?_
      refine tq 8 hHeld ?_
      refine wpAnyH_done (by kernel_rfl) ?_ _
      go_wp2_with fail
      go_roundw
      case rel => exact ⟨k + 1, by omega, by go_num, hw.drew⟩
      case measure => simp [intOf]; omega
    · obtain rfl : k = N := by omega
      go_wp2_with fail
      go_ret
      exact ⟨rfl, hw⟩
set_option maxRecDepth 20000 in
set_option maxHeartbeats 8000000 in
theorem pqHas_eq (a : Option Addr) (N c : Nat) (R : Nat → Int) (v : Int) (B : Bool) (w : World) (h : Flat w a (N * 1) R) (hN : N ≤ 1000) (hB : B = true ↔ ∃ q, q < N ∧ R q = v) :
    Calls Try.prog 16 #[.slice a N c, .int .i64 v] w fun e w' => e = .returned (.bool B) ∧ Below w.heap.size w w' := by
  have hset := cset_map
  go_enter Try.func16, Try.ntmps16
  go_upto_region 2 with fail
  go_loopw [5] (fun s wr => ∃ k : Nat, k ≤ N ∧ s = .int .i64 (k : Int) ∧ (∀ q, q < k → R q ≠ v) ∧ Below w.heap.size w wr) (fun s _ => N - (intOf s).toNat)
  case atStart => exact ⟨0, Nat.zero_le _, rfl, fun q hq => by omega, Below.refl _ _⟩
  case round =>
    obtain ⟨k, hk, rfl, hno, hw⟩ := hrel
    have HB : Shut (B = true ↔ ∃ q, q < N ∧ R q = v) := hB
    have HNO : Shut (∀ q, q < k → R q ≠ v) := hno
    clear hB hno
    by_cases hlt : k < N
    · have hkN : (k : Int) < (N : Int) := by omega
      obtain ⟨b1, o1, e1, _, hc1⟩ := (h.below hw) (by omega)
      have r0 := hc1 k (by omega)
      clear hc1
      subst e1
      by_cases hv : R k = v
      · have hev : (R k == v) = true := by simp [hv]
        have hBt : B = true := HB.out.2 ⟨k, hlt, hv⟩
        clear hv
        subst hBt
        go_wp2_with fail
        go_ret
        exact ⟨rfl, hw⟩
      · have hev : (R k == v) = false := by simp [hv]
        have HN2 : Shut (∀ q, q < k + 1 → R q ≠ v) := fun q hq => by
          by_cases e : q = k
          · subst e; exact hv
          · exact HNO.out q (by omega)
        clear hv HNO
        go_wp2_with fail
        go_roundw
        case rel => exact ⟨k + 1, by omega, by go_num, HN2.out, hw⟩
        case measure => simp [intOf]; omega
    · obtain rfl : k = N := by omega
      have hBf : B = false := by
        cases B with
        | false => rfl
        | true => obtain ⟨q, hq, e⟩ := HB.out.1 rfl; exact absurd e (HNO.out q hq)
      subst hBf
      go_wp2_with fail
      go_ret
      exact ⟨rfl, hw⟩
set_option maxRecDepth 20000 in
set_option maxHeartbeats 8000000 in
theorem pqBroad_eq (a a' : Option Addr) (N c c' : Nat) (R : Nat → Int) (w : World) (h : Flat w a (N * 5) R) (h' : Flat w a' (N * 5) R) (hN : N ≤ 1000) :
    Calls Try.prog 12 #[.agg #[.slice a N c], .agg #[.slice a' N c']] w fun e w' => e = .returned (.bool true) ∧ Below w.heap.size w w' := by
  have hset := cset_map
  have e0 : ((N : Int) != (N : Int)) = false := by simp
  have hE : Below w.heap.size w ((w.alloc (.cells #[.slice a N c] 25)).alloc (.cells #[.slice a' N c'] 25)) := ((Below.refl _ _).alloc (Nat.le_refl _) _).alloc (by simp) _
  have x0 : ((w.alloc (.cells #[.slice a N c] 25)).alloc (.cells #[.slice a' N c'] 25)).cell? ⟨w.heap.size, 0, none⟩ = some (.slice a N c) := by go_simp
  have x1 : ((w.alloc (.cells #[.slice a N c] 25)).alloc (.cells #[.slice a' N c'] 25)).cell? ⟨w.heap.size + 1, 0, none⟩ = some (.slice a' N c') := by go_simp
  have hz : w.heap.size + 1 < ((w.alloc (.cells #[.slice a N c] 25)).alloc (.cells #[.slice a' N c'] 25)).heap.size := by simp
  go_enter Try.func12, Try.ntmps12
  go_upto_region 4 with fail
  generalize ((w.alloc (.cells #[.slice a N c] 25)).alloc (.cells #[.slice a' N c'] 25)) = w0 at hE x0 x1 hz ⊢
  go_loopw [5] (fun s wr => ∃ k : Nat, k ≤ N ∧ s = .int .i64 (k : Int) ∧ Below w.heap.size w wr ∧ Below w0.heap.size w0 wr) (fun s _ => N - (intOf s).toNat)
  case atStart => exact ⟨0, Nat.zero_le _, rfl, hE, Below.refl _ _⟩
  case round =>
    obtain ⟨k, hk, rfl, hw, hw0⟩ := hrel
    have y0 := (hw0.cell (p := ⟨w.heap.size, 0, none⟩) (by show w.heap.size < _; omega)).trans x0
    have y1 := (hw0.cell (p := ⟨w.heap.size + 1, 0, none⟩) hz).trans x1
    by_cases hlt : k < N
    · have hkN : (k : Int) < (N : Int) := by omega
      obtain ⟨b1, o1, e1, _, hc1⟩ := (h.below hw) (by omega)
      obtain ⟨b2, o2, e2, _, hc2⟩ := (h'.below hw) (by omega)
      have r0 : wr.cell? ⟨b1, o1 + k * 5, none⟩ = some (.int .i64 (R (k * 5))) := by have q := hc1 (k * 5 + 0) (by omega); rw [← Nat.add_assoc] at q; exact q
      have s0 : wr.cell? ⟨b2, o2 + k * 5, none⟩ = some (.int .i64 (R (k * 5))) := by have q := hc2 (k * 5 + 0) (by omega); rw [← Nat.add_assoc] at q; exact q
      have r1 : wr.cell? ⟨b1, o1 + k * 5 + 1, none⟩ = some (.int .i64 (R (k * 5 + 1))) := by have q := hc1 (k * 5 + 1) (by omega); rw [← Nat.add_assoc] at q; exact q
      have s1 : wr.cell? ⟨b2, o2 + k * 5 + 1, none⟩ = some (.int .i64 (R (k * 5 + 1))) := by have q := hc2 (k * 5 + 1) (by omega); rw [← Nat.add_assoc] at q; exact q
      have r2 : wr.cell? ⟨b1, o1 + k * 5 + 2, none⟩ = some (.int .i64 (R (k * 5 + 2))) := by have q := hc1 (k * 5 + 2) (by omega); rw [← Nat.add_assoc] at q; exact q
      have s2 : wr.cell? ⟨b2, o2 + k * 5 + 2, none⟩ = some (.int .i64 (R (k * 5 + 2))) := by have q := hc2 (k * 5 + 2) (by omega); rw [← Nat.add_assoc] at q; exact q
      have r3 : wr.cell? ⟨b1, o1 + k * 5 + 3, none⟩ = some (.int .i64 (R (k * 5 + 3))) := by have q := hc1 (k * 5 + 3) (by omega); rw [← Nat.add_assoc] at q; exact q
      have s3 : wr.cell? ⟨b2, o2 + k * 5 + 3, none⟩ = some (.int .i64 (R (k * 5 + 3))) := by have q := hc2 (k * 5 + 3) (by omega); rw [← Nat.add_assoc] at q; exact q
      have r4 : wr.cell? ⟨b1, o1 + k * 5 + 4, none⟩ = some (.int .i64 (R (k * 5 + 4))) := by have q := hc1 (k * 5 + 4) (by omega); rw [← Nat.add_assoc] at q; exact q
      have s4 : wr.cell? ⟨b2, o2 + k * 5 + 4, none⟩ = some (.int .i64 (R (k * 5 + 4))) := by have q := hc2 (k * 5 + 4) (by omega); rw [← Nat.add_assoc] at q; exact q
      clear hc1 hc2
      subst e1 e2
      have hev := eq_item0 (R (k * 5)) (R (k * 5 + 1)) (R (k * 5 + 2)) (R (k * 5 + 3)) (R (k * 5 + 4))
      go_upto_region 6 with fail
      refine wp_region_held_drew (S := fun w' => w'.cell? ⟨w.heap.size, 0, none⟩ = some (.slice (some ⟨b1, o1, none⟩) N c) ∧ w'.cell? ⟨w.heap.size + 1, 0, none⟩ = some (.slice (some ⟨b2, o2, none⟩) N c') ∧ w'.cell? ⟨b1, o1 + k * 5, none⟩ = some (.int .i64 (R (k * 5))) ∧ w'.cell? ⟨b1, o1 + k * 5 + 1, none⟩ = some (.int .i64 (R (k * 5 + 1))) ∧ w'.cell? ⟨b1, o1 + k * 5 + 2, none⟩ = some (.int .i64 (R (k * 5 + 2))) ∧ w'.cell? ⟨b1, o1 + k * 5 + 3, none⟩ = some (.int .i64 (R (k * 5 + 3))) ∧ w'.cell? ⟨b1, o1 + k * 5 + 4, none⟩ = some (.int .i64 (R (k * 5 + 4))) ∧ w'.cell? ⟨b2, o2 + k * 5, none⟩ = some (.int .i64 (R (k * 5))) ∧ w'.cell? ⟨b2, o2 + k * 5 + 1, none⟩ = some (.int .i64 (R (k * 5 + 1))) ∧ w'.cell? ⟨b2, o2 + k * 5 + 2, none⟩ = some (.int .i64 (R (k * 5 + 2))) ∧ w'.cell? ⟨b2, o2 + k * 5 + 3, none⟩ = some (.int .i64 (R (k * 5 + 3))) ∧ w'.cell? ⟨b2, o2 + k * 5 + 4, none⟩ = some (.int .i64 (R (k * 5 + 4)))) (by kernel_rfl) ?_ (fun hHeld => ?_)
      · (try dsimp only)
        (first | (go_simp; done) | (go_keep; done))
      refine tq 0 hHeld ?_
      refine tq 1 hHeld ?_
      refine tq 2 hHeld ?_
      refine tq 3 hHeld ?_
      refine tq 4 hHeld ?_
      refine tq 5 hHeld ?_
      refine tq 6 hHeld ?_
      refine tq 7 hHeld ?_
      refine tq 8 hHeld ?_
      refine tq 9 hHeld ?_
      refine tq 10 hHeld ?_
      refine wpAnyH_done (by kernel_rfl) ?_ _
      go_wp2_with fail
      go_roundw
      case rel => exact ⟨k + 1, by omega, by go_num, hw.drew, hw0.drew⟩
      case measure => simp [intOf]; omega
    · obtain rfl : k = N := by omega
      go_wp2_with fail
      go_ret
      exact ⟨rfl, hw⟩
end Go.Proofs.Ytbngdlbecdloiaa
