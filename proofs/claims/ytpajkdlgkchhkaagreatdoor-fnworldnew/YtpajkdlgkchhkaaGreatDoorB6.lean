/- Lists and worlds that hold the same. The reader of drawn bytes: its invariant and the contracts of its methods. The contracts of the draws of numbers. The contracts of the draws of ways. The contracts of the draws of two ways. The contracts of the draws of places and shapes. A step of a world without bodies; the walk of the law of promise 54. The walk of the law of promise 54. Lemmas on whatever program: from the head of its cut's word to the closed facts. Closed facts of the loaded program, each a theorem of its own. -/
import Derived.Test.YtpajkdlgkchhkaaGreatDoorB5
import Derived.Deep.RegionHeld3
import Derived.Deep.DeepCutAuto
import Derived.Test.YtpajkdlgkchhkaaGreatDoorB1
import Derived.Deep.QuietTactic
import Derived.BigQuiet
import Derived.OpenShut
import Derived.Test.YtpajkdlgkchhkaaGreatDoorB2
import Derived.Test.YtpajkdlgkchhkaaGreatDoorB4
import Derived.Test.YtpajkdlgkchhkaaGreatDoorRows
import Derived.WalkKit
import Derived.JoinedOf
import Derived.ProofKit
namespace Go.Proofs.YtpajkdlgkchhkaaGreatDoor
open Go.RowKit
set_option linter.unusedVariables false
set_option linter.unusedSimpArgs false
set_option maxRecDepth 20000 in
set_option maxHeartbeats 8000000 in
theorem pqBodies_same (a a' : Option Addr) (N c c' : Nat) (R : Nat → Int) (w : World) (h : Flat w a (N * 12) R) (h' : Flat w a' (N * 12) R) (hN : N ≤ 1000) :
    Calls Tryz.prog 19 #[.slice a N c, .slice a' N c'] w fun e w' => e = .returned (.bool true) ∧ Below w.heap.size w w' := by
  have hset := cset_map
  have e0 : ((N : Int) != (N : Int)) = false := by simp
  go_enter Tryz.func19, Tryz.ntmps19
  go_upto_region 4 with fail
  go_loopw [5] (fun s wr => ∃ k : Nat, k ≤ N ∧ s = .int .i64 (k : Int) ∧ Below w.heap.size w wr) (fun s _ => N - (intOf s).toNat)
  case atStart => exact ⟨0, Nat.zero_le _, rfl, Below.refl _ _⟩
  case round =>
    obtain ⟨k, hk, rfl, hw⟩ := hrel
    by_cases hlt : k < N
    · have hkN : (k : Int) < (N : Int) := by omega
      obtain ⟨b1, o1, e1, _, hc1⟩ := (h.below hw) (by omega)
      obtain ⟨b2, o2, e2, _, hc2⟩ := (h'.below hw) (by omega)
      have r0 : wr.cell? ⟨b1, o1 + k * 12, none⟩ = some (.int .i64 (R (k * 12))) := by have q := hc1 (k * 12 + 0) (by omega); simpa [Nat.add_assoc] using q
      have s0 : wr.cell? ⟨b2, o2 + k * 12, none⟩ = some (.int .i64 (R (k * 12))) := by have q := hc2 (k * 12 + 0) (by omega); simpa [Nat.add_assoc] using q
      have r1 : wr.cell? ⟨b1, o1 + k * 12 + 1, none⟩ = some (.int .i64 (R (k * 12 + 1))) := by have q := hc1 (k * 12 + 1) (by omega); simpa [Nat.add_assoc] using q
      have s1 : wr.cell? ⟨b2, o2 + k * 12 + 1, none⟩ = some (.int .i64 (R (k * 12 + 1))) := by have q := hc2 (k * 12 + 1) (by omega); simpa [Nat.add_assoc] using q
      have r2 : wr.cell? ⟨b1, o1 + k * 12 + 2, none⟩ = some (.int .i64 (R (k * 12 + 2))) := by have q := hc1 (k * 12 + 2) (by omega); simpa [Nat.add_assoc] using q
      have s2 : wr.cell? ⟨b2, o2 + k * 12 + 2, none⟩ = some (.int .i64 (R (k * 12 + 2))) := by have q := hc2 (k * 12 + 2) (by omega); simpa [Nat.add_assoc] using q
      have r3 : wr.cell? ⟨b1, o1 + k * 12 + 3, none⟩ = some (.int .i64 (R (k * 12 + 3))) := by have q := hc1 (k * 12 + 3) (by omega); simpa [Nat.add_assoc] using q
      have s3 : wr.cell? ⟨b2, o2 + k * 12 + 3, none⟩ = some (.int .i64 (R (k * 12 + 3))) := by have q := hc2 (k * 12 + 3) (by omega); simpa [Nat.add_assoc] using q
      have r4 : wr.cell? ⟨b1, o1 + k * 12 + 4, none⟩ = some (.int .i64 (R (k * 12 + 4))) := by have q := hc1 (k * 12 + 4) (by omega); simpa [Nat.add_assoc] using q
      have s4 : wr.cell? ⟨b2, o2 + k * 12 + 4, none⟩ = some (.int .i64 (R (k * 12 + 4))) := by have q := hc2 (k * 12 + 4) (by omega); simpa [Nat.add_assoc] using q
      have r5 : wr.cell? ⟨b1, o1 + k * 12 + 5, none⟩ = some (.int .i64 (R (k * 12 + 5))) := by have q := hc1 (k * 12 + 5) (by omega); simpa [Nat.add_assoc] using q
      have s5 : wr.cell? ⟨b2, o2 + k * 12 + 5, none⟩ = some (.int .i64 (R (k * 12 + 5))) := by have q := hc2 (k * 12 + 5) (by omega); simpa [Nat.add_assoc] using q
      have r6 : wr.cell? ⟨b1, o1 + k * 12 + 6, none⟩ = some (.int .i64 (R (k * 12 + 6))) := by have q := hc1 (k * 12 + 6) (by omega); simpa [Nat.add_assoc] using q
      have s6 : wr.cell? ⟨b2, o2 + k * 12 + 6, none⟩ = some (.int .i64 (R (k * 12 + 6))) := by have q := hc2 (k * 12 + 6) (by omega); simpa [Nat.add_assoc] using q
      have r7 : wr.cell? ⟨b1, o1 + k * 12 + 7, none⟩ = some (.int .i64 (R (k * 12 + 7))) := by have q := hc1 (k * 12 + 7) (by omega); simpa [Nat.add_assoc] using q
      have s7 : wr.cell? ⟨b2, o2 + k * 12 + 7, none⟩ = some (.int .i64 (R (k * 12 + 7))) := by have q := hc2 (k * 12 + 7) (by omega); simpa [Nat.add_assoc] using q
      have r8 : wr.cell? ⟨b1, o1 + k * 12 + 8, none⟩ = some (.int .i64 (R (k * 12 + 8))) := by have q := hc1 (k * 12 + 8) (by omega); simpa [Nat.add_assoc] using q
      have s8 : wr.cell? ⟨b2, o2 + k * 12 + 8, none⟩ = some (.int .i64 (R (k * 12 + 8))) := by have q := hc2 (k * 12 + 8) (by omega); simpa [Nat.add_assoc] using q
      have r9 : wr.cell? ⟨b1, o1 + k * 12 + 9, none⟩ = some (.int .i64 (R (k * 12 + 9))) := by have q := hc1 (k * 12 + 9) (by omega); simpa [Nat.add_assoc] using q
      have s9 : wr.cell? ⟨b2, o2 + k * 12 + 9, none⟩ = some (.int .i64 (R (k * 12 + 9))) := by have q := hc2 (k * 12 + 9) (by omega); simpa [Nat.add_assoc] using q
      have r10 : wr.cell? ⟨b1, o1 + k * 12 + 10, none⟩ = some (.int .i64 (R (k * 12 + 10))) := by have q := hc1 (k * 12 + 10) (by omega); simpa [Nat.add_assoc] using q
      have s10 : wr.cell? ⟨b2, o2 + k * 12 + 10, none⟩ = some (.int .i64 (R (k * 12 + 10))) := by have q := hc2 (k * 12 + 10) (by omega); simpa [Nat.add_assoc] using q
      have r11 : wr.cell? ⟨b1, o1 + k * 12 + 11, none⟩ = some (.int .i64 (R (k * 12 + 11))) := by have q := hc1 (k * 12 + 11) (by omega); simpa [Nat.add_assoc] using q
      have s11 : wr.cell? ⟨b2, o2 + k * 12 + 11, none⟩ = some (.int .i64 (R (k * 12 + 11))) := by have q := hc2 (k * 12 + 11) (by omega); simpa [Nat.add_assoc] using q
      clear hc1 hc2
      subst e1 e2
      have hev := eq_body0 (R (k * 12)) (R (k * 12 + 1)) (R (k * 12 + 2)) (R (k * 12 + 3)) (R (k * 12 + 4)) (R (k * 12 + 5)) (R (k * 12 + 6)) (R (k * 12 + 7)) (R (k * 12 + 8)) (R (k * 12 + 9)) (R (k * 12 + 10)) (R (k * 12 + 11))
      go_upto_region 6 with fail
      refine wp_region_held_drew (S := fun w' => w'.cell? ⟨b1, o1 + k * 12, none⟩ = some (.int .i64 (R (k * 12))) ∧ w'.cell? ⟨b1, o1 + k * 12 + 1, none⟩ = some (.int .i64 (R (k * 12 + 1))) ∧ w'.cell? ⟨b1, o1 + k * 12 + 2, none⟩ = some (.int .i64 (R (k * 12 + 2))) ∧ w'.cell? ⟨b1, o1 + k * 12 + 3, none⟩ = some (.int .i64 (R (k * 12 + 3))) ∧ w'.cell? ⟨b1, o1 + k * 12 + 4, none⟩ = some (.int .i64 (R (k * 12 + 4))) ∧ w'.cell? ⟨b1, o1 + k * 12 + 5, none⟩ = some (.int .i64 (R (k * 12 + 5))) ∧ w'.cell? ⟨b1, o1 + k * 12 + 6, none⟩ = some (.int .i64 (R (k * 12 + 6))) ∧ w'.cell? ⟨b1, o1 + k * 12 + 7, none⟩ = some (.int .i64 (R (k * 12 + 7))) ∧ w'.cell? ⟨b1, o1 + k * 12 + 8, none⟩ = some (.int .i64 (R (k * 12 + 8))) ∧ w'.cell? ⟨b1, o1 + k * 12 + 9, none⟩ = some (.int .i64 (R (k * 12 + 9))) ∧ w'.cell? ⟨b1, o1 + k * 12 + 10, none⟩ = some (.int .i64 (R (k * 12 + 10))) ∧ w'.cell? ⟨b1, o1 + k * 12 + 11, none⟩ = some (.int .i64 (R (k * 12 + 11))) ∧ w'.cell? ⟨b2, o2 + k * 12, none⟩ = some (.int .i64 (R (k * 12))) ∧ w'.cell? ⟨b2, o2 + k * 12 + 1, none⟩ = some (.int .i64 (R (k * 12 + 1))) ∧ w'.cell? ⟨b2, o2 + k * 12 + 2, none⟩ = some (.int .i64 (R (k * 12 + 2))) ∧ w'.cell? ⟨b2, o2 + k * 12 + 3, none⟩ = some (.int .i64 (R (k * 12 + 3))) ∧ w'.cell? ⟨b2, o2 + k * 12 + 4, none⟩ = some (.int .i64 (R (k * 12 + 4))) ∧ w'.cell? ⟨b2, o2 + k * 12 + 5, none⟩ = some (.int .i64 (R (k * 12 + 5))) ∧ w'.cell? ⟨b2, o2 + k * 12 + 6, none⟩ = some (.int .i64 (R (k * 12 + 6))) ∧ w'.cell? ⟨b2, o2 + k * 12 + 7, none⟩ = some (.int .i64 (R (k * 12 + 7))) ∧ w'.cell? ⟨b2, o2 + k * 12 + 8, none⟩ = some (.int .i64 (R (k * 12 + 8))) ∧ w'.cell? ⟨b2, o2 + k * 12 + 9, none⟩ = some (.int .i64 (R (k * 12 + 9))) ∧ w'.cell? ⟨b2, o2 + k * 12 + 10, none⟩ = some (.int .i64 (R (k * 12 + 10))) ∧ w'.cell? ⟨b2, o2 + k * 12 + 11, none⟩ = some (.int .i64 (R (k * 12 + 11)))) (by kernel_rfl) ?_ (fun hHeld => ?_)
      · (try dsimp only)
        (first | (go_simp; done) | (go_keep; done))
      refine tq 0 hHeld ?_
      refine tq 1 hHeld ?_
      refine tq 2 hHeld ?_
      refine tq 3 hHeld ?_
      refine tq 4 hHeld ?_
      refine tq 5 hHeld ?_
      refine tq 6 hHeld ?_
      refine tq 7 hHeld ?_
      refine tq 8 hHeld ?_
      refine wpAnyH_done (by kernel_rfl) ?_ _
      go_wp2_with fail
      go_roundw
      case rel => exact ⟨k + 1, by omega, by go_num, hw.drew⟩
      case measure => simp [intOf]; omega
    · obtain rfl : k = N := by omega
      go_wp2_with fail
      go_ret
      exact ⟨rfl, hw⟩
set_option maxRecDepth 20000 in
set_option maxHeartbeats 8000000 in
theorem pqPairs_same (a a' : Option Addr) (N c c' : Nat) (R : Nat → Int) (w : World) (h : Flat w a (N * 2) R) (h' : Flat w a' (N * 2) R) (hN : N ≤ 1000) :
    Calls Tryz.prog 20 #[.slice a N c, .slice a' N c'] w fun e w' => e = .returned (.bool true) ∧ Below w.heap.size w w' := by
  have hset := cset_map
  have e0 : ((N : Int) != (N : Int)) = false := by simp
  go_enter Tryz.func20, Tryz.ntmps20
  go_upto_region 4 with fail
  go_loopw [5] (fun s wr => ∃ k : Nat, k ≤ N ∧ s = .int .i64 (k : Int) ∧ Below w.heap.size w wr) (fun s _ => N - (intOf s).toNat)
  case atStart => exact ⟨0, Nat.zero_le _, rfl, Below.refl _ _⟩
  case round =>
    obtain ⟨k, hk, rfl, hw⟩ := hrel
    by_cases hlt : k < N
    · have hkN : (k : Int) < (N : Int) := by omega
      obtain ⟨b1, o1, e1, _, hc1⟩ := (h.below hw) (by omega)
      obtain ⟨b2, o2, e2, _, hc2⟩ := (h'.below hw) (by omega)
      have r0 : wr.cell? ⟨b1, o1 + k * 2, none⟩ = some (.int .i64 (R (k * 2))) := by have q := hc1 (k * 2 + 0) (by omega); simpa [Nat.add_assoc] using q
      have s0 : wr.cell? ⟨b2, o2 + k * 2, none⟩ = some (.int .i64 (R (k * 2))) := by have q := hc2 (k * 2 + 0) (by omega); simpa [Nat.add_assoc] using q
      have r1 : wr.cell? ⟨b1, o1 + k * 2 + 1, none⟩ = some (.int .i64 (R (k * 2 + 1))) := by have q := hc1 (k * 2 + 1) (by omega); simpa [Nat.add_assoc] using q
      have s1 : wr.cell? ⟨b2, o2 + k * 2 + 1, none⟩ = some (.int .i64 (R (k * 2 + 1))) := by have q := hc2 (k * 2 + 1) (by omega); simpa [Nat.add_assoc] using q
      clear hc1 hc2
      subst e1 e2
      have hev : ∀ w, (Op.equalIn 10000 65 (.agg #[.int .i64 (R (k * 2)), .int .i64 (R (k * 2 + 1))]) (.agg #[.int .i64 (R (k * 2)), .int .i64 (R (k * 2 + 1))])).run Tryz.prog w = .ok true w := fun w => by rw [eq_pair0]; simp
      go_upto_region 6 with fail
      refine wp_region_held_drew (S := fun w' => w'.cell? ⟨b1, o1 + k * 2, none⟩ = some (.int .i64 (R (k * 2))) ∧ w'.cell? ⟨b1, o1 + k * 2 + 1, none⟩ = some (.int .i64 (R (k * 2 + 1))) ∧ w'.cell? ⟨b2, o2 + k * 2, none⟩ = some (.int .i64 (R (k * 2))) ∧ w'.cell? ⟨b2, o2 + k * 2 + 1, none⟩ = some (.int .i64 (R (k * 2 + 1)))) (by kernel_rfl) ?_ (fun hHeld => ?_)
      · (try dsimp only)
        (first | (go_simp; done) | (go_keep; done))
      refine tq 0 hHeld ?_
      refine tq 1 hHeld ?_
      refine tq 2 hHeld ?_
      refine tq 3 hHeld ?_
      refine tq 4 hHeld ?_
      refine tq 5 hHeld ?_
      refine tq 6 hHeld ?_
      refine tq 7 hHeld ?_
      refine tq 8 hHeld ?_
      refine wpAnyH_done (by kernel_rfl) ?_ _
      go_wp2_with fail
      go_roundw
      case rel => exact ⟨k + 1, by omega, by go_num, hw.drew⟩
      case measure => simp [intOf]; omega
    · obtain rfl : k = N := by omega
      go_wp2_with fail
      go_ret
      exact ⟨rfl, hw⟩
set_option maxRecDepth 20000 in
set_option maxHeartbeats 8000000 in
theorem pqWorld_same (T P : Int) (a b : Option Addr) (n c d : Nat) (U : Nat → Int) (a' b' : Option Addr) (m c' d' : Nat) (Q : Nat → Int) (w : World) (h : Flat w a (n * 12) U) (k : Flat w b (n * 12) U) (h' : Flat w a' (m * 2) Q) (k' : Flat w b' (m * 2) Q) (hn : n ≤ 1000) (hm : m ≤ 1000) :
    Calls Tryz.prog 7 #[worldW T P a n c a' m c', worldW T P b n d b' m d'] w fun e w' => e = .returned (.bool true) ∧ Below w.heap.size w w' := by
  have hset := cset_map
  have e0 : (T == T) = true := by simp
  have e1 : (P == P) = true := by simp
  have hE : Below w.heap.size w ((w.alloc (Obj.cells #[.int .i64 T, .int .i64 P, .slice a n c, .slice a' m c'] 27)).alloc (Obj.cells #[.int .i64 T, .int .i64 P, .slice b n d, .slice b' m d'] 27)) := ((Below.refl _ _).alloc (Nat.le_refl _) _).alloc (by simp) _
  have h1 := h.below hE
  have k1 := k.below hE
  have h1' := h'.below hE
  have k1' := k'.below hE
  go_enter Tryz.func7, Tryz.ntmps7
  go_wp2_with (first
    | (have _ := hb1; go_at_call 20; refine (pqPairs_same a' b' m c' d' Q _ (h1'.below hb1) (k1'.below hb1) hm).mono ?_; rintro e w2 ⟨rfl, hb2⟩)
    | (go_at_call 19; refine (pqBodies_same a b n c d U _ h1 k1 hn).mono ?_; rintro e w1 ⟨rfl, hb1⟩; have y0 := hb1.cell (p := ⟨w.heap.size, 3, none⟩) (by simp; omega); have y1 := hb1.cell (p := ⟨w.heap.size + 1, 3, none⟩) (by simp)))
  go_ret
  exact ⟨rfl, hE.trans ((hb1.mono hE.size).trans (hb2.mono (Nat.le_trans hE.size hb1.size)))⟩
end Go.Proofs.YtpajkdlgkchhkaaGreatDoor
namespace Go.Proofs.YtpajkdlgkchhkaaGreatDoor
open Go.RowKit
set_option linter.unusedVariables false

/-- The reader at block rb: a slice of at most 2000 bytes that lie elsewhere, and its place p. -/
def Rd (w : World) (rb p : Nat) : Prop := ∃ (a : Option Addr) (len cap : Nat), w.cell? ⟨rb, 0, none⟩ = some (.slice a len cap) ∧ w.cell? ⟨rb, 1, none⟩ = some (.int .i64 (p : Int)) ∧ w.frozen? ⟨rb, 1, none⟩ = false ∧ len ≤ 2000 ∧
  (len = 0 ∨ ∃ b off, a = some ⟨b, off, none⟩ ∧ b < rb ∧ ∀ i, i < len → ∃ z : Int, w.cell? ⟨b, off + i, none⟩ = some (.int .u8 z) ∧ 0 ≤ z ∧ z ≤ 255)

theorem Rd.lt {w : World} {rb p : Nat} (h : Rd w rb p) : rb < w.heap.size := by
  obtain ⟨a, len, cap, c0, _⟩ := h; exact cell_lt c0
theorem Rd.below {w w' : World} {rb p : Nat} (h : Rd w rb p) (k : Below w.heap.size w w') : Rd w' rb p := by
  have hl := h.lt
  obtain ⟨a, len, cap, c0, c1, f1, hle, hz⟩ := h
  refine ⟨a, len, cap, by rw [k.cell hl]; exact c0, by rw [k.cell hl]; exact c1, by rw [k.frozen hl]; exact f1, hle, ?_⟩
  rcases hz with hz | ⟨b, off, ha, hb, hz⟩
  · exact .inl hz
  · refine .inr ⟨b, off, ha, hb, fun i hi => ?_⟩
    obtain ⟨z, hz, r⟩ := hz i hi
    exact ⟨z, by rw [k.cell (cell_lt hz)]; exact hz, r⟩
theorem Rd.step {w : World} {rb p : Nat} (h : Rd w rb p) (m : Nat) (q : Nat) : Rd ((w.setCell ⟨rb, 1, none⟩ (.int .i64 (q : Int))).drewN m) rb q := by
  obtain ⟨a, len, cap, c0, c1, f1, hle, hz⟩ := h
  refine ⟨a, len, cap, ?_, ?_, ?_, hle, ?_⟩
  · rw [World.cell?_drewN, cset_other (by simp)]; exact c0
  · rw [World.cell?_drewN, cset_same c1]
  · simpa using f1
  rcases hz with hz | ⟨b, off, ha, hb, hz⟩
  · exact .inl hz
  · refine .inr ⟨b, off, ha, hb, fun i hi => ?_⟩
    obtain ⟨z, hz, r⟩ := hz i hi
    exact ⟨z, by rw [World.cell?_drewN, cset_far (Nat.ne_of_lt hb)]; exact hz, r⟩

set_option maxHeartbeats 1000000 in
theorem pick_any (rb p : Nat) (n : Int) (w : World) (hr : Rd w rb p) (hp : p ≤ 1000000) (h0 : 1 ≤ n) (h1 : n ≤ 4000000000) :
    Calls Tryz.prog 24 #[.pointer (some ⟨rb, 0, none⟩), .int .i64 n] w fun e w' => ∃ v : Int, e = .returned (.int .i64 v) ∧ 0 ≤ v ∧ v < n ∧ Rd w' rb (p + 1) ∧ But rb w w' := by
  have hr' := hr
  obtain ⟨a, len, cap, c0, c1, f1, hle, hz⟩ := hr
  have e0 : (w.setCell ⟨rb, 1, none⟩ (.int .i64 ((p : Int) + 1))).cell? ⟨rb, 0, none⟩ = some (.slice a len cap) := by rw [cset_other (by simp)]; exact c0
  have e1 : (w.setCell ⟨rb, 1, none⟩ (.int .i64 ((p : Int) + 1))).cell? ⟨rb, 1, none⟩ = some (.int .i64 ((p : Int) + 1)) := cset_same c1
  have fin : ∀ m, Rd ((w.setCell ⟨rb, 1, none⟩ (.int .i64 ((p : Int) + 1))).drewN m) rb (p + 1) ∧ But rb w ((w.setCell ⟨rb, 1, none⟩ (.int .i64 ((p : Int) + 1))).drewN m) :=
    fun m => ⟨hr'.step m (p + 1), ((But.refl rb w).setCell rfl _).drewN m⟩
  have FIN : Hid (∀ m, Rd ((w.setCell ⟨rb, 1, none⟩ (.int .i64 ((p : Int) + 1))).drewN m) rb (p + 1) ∧ But rb w ((w.setCell ⟨rb, 1, none⟩ (.int .i64 ((p : Int) + 1))).drewN m)) := fin
  clear fin hr'
  rcases Nat.eq_zero_or_pos len with hl | hl
  · subst hl
    clear hz
    have hd : decide (n < 1) = false := by simp; omega
    go_enter Tryz.func24, Tryz.ntmps24
    go_wp2
    go_ret
    exact ⟨0, rfl, by omega, by omega, FIN.out 0⟩
  · obtain ⟨b, off, rfl, hb, hz⟩ : ∃ b off, a = some ⟨b, off, none⟩ ∧ b < rb ∧ ∀ i, i < len → ∃ z : Int, w.cell? ⟨b, off + i, none⟩ = some (.int .u8 z) ∧ 0 ≤ z ∧ z ≤ 255 := by
      rcases hz with hz | hz
      · omega
      · exact hz
    have hd : decide (n < 1) = false := by simp; omega
    have hln : ((len : Int) == 0) = false := by simp; omega
    by_cases hk : p < len
    · obtain ⟨z, hc, z0, z1⟩ := hz p hk
      clear hz
      have e2 : (w.setCell ⟨rb, 1, none⟩ (.int .i64 ((p : Int) + 1))).cell? ⟨b, off + p, none⟩ = some (.int .u8 z) := by rw [cset_far (Nat.ne_of_lt hb)]; exact hc
      go_enter Tryz.func24, Tryz.ntmps24
      go_wp2
      go_ret
      exact ⟨_, rfl, Int.emod_nonneg _ (by omega), Int.emod_lt_of_pos _ (by omega), FIN.out 0⟩
    · obtain ⟨i, hi, hil⟩ : ∃ i : Nat, (p : Int) % (len : Int) = (i : Int) ∧ i < len := ⟨p % len, by omega, Nat.mod_lt _ hl⟩
      obtain ⟨j, hj, hjl⟩ : ∃ j : Nat, ((p : Int) * 7 + 3) % (len : Int) = (j : Int) ∧ j < len := ⟨(p * 7 + 3) % len, by rw [show (p : Int) * 7 + 3 = ((p * 7 + 3 : Nat) : Int) by omega]; rfl, Nat.mod_lt _ hl⟩
      obtain ⟨d, hd', hdl⟩ : ∃ d : Nat, (p : Int) / (len : Int) = (d : Int) ∧ d ≤ p := ⟨p / len, by omega, Nat.div_le_self _ _⟩
      obtain ⟨z, hc, z0, z1⟩ := hz i hil
      obtain ⟨y, hcy, y0, y1⟩ := hz j hjl
      clear hz
      have e2 : (w.setCell ⟨rb, 1, none⟩ (.int .i64 ((p : Int) + 1))).cell? ⟨b, off + i, none⟩ = some (.int .u8 z) := by rw [cset_far (Nat.ne_of_lt hb)]; exact hc
      have e3 : (w.setCell ⟨rb, 1, none⟩ (.int .i64 ((p : Int) + 1))).cell? ⟨b, off + j, none⟩ = some (.int .u8 y) := by rw [cset_far (Nat.ne_of_lt hb)]; exact hcy
      go_enter Tryz.func24, Tryz.ntmps24
      go_wp2
      go_quiet (fail)
      go_wp2
      go_ret
      exact ⟨_, rfl, Int.tmod_nonneg _ (xor_nonneg (by omega) (by omega) (by omega) (by omega)), Int.tmod_lt_of_pos _ (by omega), FIN.out _⟩

theorem Rd.of_but {w w' : World} {rb p : Nat} (h : Rd w rb p) (k : But rb w w') (c0 : w'.cell? ⟨rb, 0, none⟩ = w.cell? ⟨rb, 0, none⟩) (c1 : w'.cell? ⟨rb, 1, none⟩ = w.cell? ⟨rb, 1, none⟩) (f1 : w'.frozen? ⟨rb, 1, none⟩ = w.frozen? ⟨rb, 1, none⟩) : Rd w' rb p := by
  obtain ⟨a, len, cap, e0, e1, g1, hle, hz⟩ := h
  refine ⟨a, len, cap, c0.trans e0, c1.trans e1, f1.trans g1, hle, ?_⟩
  rcases hz with hz | ⟨b, off, ha, hb, hz⟩
  · exact .inl hz
  · refine .inr ⟨b, off, ha, hb, fun i hi => ?_⟩
    obtain ⟨z, hz, r⟩ := hz i hi
    exact ⟨z, by rw [k.cell (cell_lt hz) (Nat.ne_of_lt hb)]; exact hz, r⟩
theorem Rd.alloc {w : World} {rb p : Nat} (h : Rd w rb p) (o : Obj) : Rd (w.alloc o) rb p := h.below ((Below.refl _ _).alloc (Nat.le_refl _) o)

/-- 'list[r.pick(len(list))]' of a list of integers that lies in a block of its own. -/
theorem one_any (rb p lb len cap : Nat) (xs : List Int) (w : World) (hr : Rd w rb p) (hp : p ≤ 1000000) (hl : xs.length = len) (h0 : 1 ≤ len) (h1 : len ≤ 100) (hb : lb ≠ rb) (hc : ∀ i, i < len → w.cell? ⟨lb, i, none⟩ = some (.int .i64 (xs.getD i 0))) :
    Calls Tryz.prog 11 #[.pointer (some ⟨rb, 0, none⟩), .slice (some ⟨lb, 0, none⟩) len cap] w fun e w' => ∃ v : Int, e = .returned (.int .i64 v) ∧ v ∈ xs ∧ Rd w' rb (p + 1) ∧ But rb w w' := by
  go_enter Tryz.func11, Tryz.ntmps11
  go_wp2_with (go_at_call 24; refine (pick_any rb p _ _ hr hp (by omega) (by omega)).mono ?_; rintro e w1 ⟨v, rfl, v0, v1, hr1, hbut⟩; obtain ⟨j, rfl⟩ := Int.eq_ofNat_of_zero_le v0; have hcj := (hbut.cell (p := ⟨lb, j, none⟩) (cell_lt (hc j (by omega))) hb).trans (hc j (by omega)))
  go_ret
  exact ⟨_, rfl, by rw [List.getElem?_eq_getElem (show j < xs.length by omega)]; simp, hr1, hbut⟩

/-- Each cell of a list is an integer between two bounds. -/
def AllBd (lo hi : Int) : List Value → Prop
  | [] => True
  | c :: r => (∃ z : Int, c = .int .i64 z ∧ lo ≤ z ∧ z ≤ hi) ∧ AllBd lo hi r
theorem AllBd.get {lo hi : Int} : ∀ {l : List Value}, AllBd lo hi l → ∀ i, i < l.length → ∃ z : Int, l[i]? = some (.int .i64 z) ∧ lo ≤ z ∧ z ≤ hi
  | c :: r, h, 0, _ => by obtain ⟨z, rfl, h1, h2⟩ := h.1; exact ⟨z, rfl, h1, h2⟩
  | c :: r, h, i + 1, hi' => by simpa using AllBd.get h.2 i (by simpa using hi')
theorem AllBd.cons {lo hi z : Int} {r : List Value} (h1 : lo ≤ z) (h2 : z ≤ hi) (h : AllBd lo hi r) : AllBd lo hi (.int .i64 z :: r) := ⟨⟨z, rfl, h1, h2⟩, h⟩
theorem AllBd.nil {lo hi : Int} : AllBd lo hi [] := trivial

/-- 'r.one(..)' of a list that was just made: one of its numbers. -/
theorem one_bd (lo hi : Int) (rb p len cap : Nat) (cs : Array Value) (t : TypeId) (w : World) (hr : Rd w rb p) (hp : p ≤ 1000000) (hcs : AllBd lo hi cs.toList) (hl : cs.size = len) (h0 : 1 ≤ len) (h1 : len ≤ 100) :
    Calls Tryz.prog 11 #[.pointer (some ⟨rb, 0, none⟩), .slice (some ⟨w.heap.size, 0, none⟩) len cap] (w.alloc (.cells cs t)) fun e w' => ∃ v : Int, e = .returned (.int .i64 v) ∧ lo ≤ v ∧ v ≤ hi ∧ Rd w' rb (p + 1) ∧ But rb w w' := by
  have hlt := hr.lt
  have hx : ∀ i, i < len → ∃ z : Int, cs[i]? = some (.int .i64 z) ∧ lo ≤ z ∧ z ≤ hi := fun i hi => by
    have := hcs.get i (by simpa [hl] using hi); simpa using this
  have hcell : ∀ i : Nat, (w.alloc (.cells cs t)).cell? ⟨w.heap.size, i, none⟩ = cs[i]? := fun i => World.cell?_alloc_mark w cs t (0, 0) i
  refine (one_any rb p w.heap.size len cap (cs.toList.map intOf) _ (hr.alloc _) hp (by simpa using hl) h0 h1 (by omega) ?_).mono ?_
  · intro i hi
    obtain ⟨z, hz, _⟩ := hx i hi
    rw [hcell, hz]
    simp [hz, intOf]
  · rintro e w' ⟨v, rfl, hv, hr', hb'⟩
    refine ⟨v, rfl, ?_, ?_, hr', ((But.refl rb w).alloc _).trans hb'⟩
    all_goals
      obtain ⟨c, hc, rfl⟩ := List.mem_map.1 hv
      obtain ⟨i, hi, rfl⟩ := List.getElem_of_mem hc
      obtain ⟨z, hz, a, b⟩ := hcs.get i hi
      rw [List.getElem?_eq_getElem hi] at hz
      injection hz with hz
      rw [hz]; assumption

/-- What is opened: the reader of the bytes, in a new block. -/
theorem l1Open_any (a : Option Addr) (len cap : Nat) (w : World) (hcap : len ≤ cap)
    (hz : len = 0 ∨ ∃ b off, a = some ⟨b, off, none⟩ ∧ ∀ i, i < len → ∃ z : Int, w.cell? ⟨b, off + i, none⟩ = some (.int .u8 z) ∧ 0 ≤ z ∧ z ≤ 255) :
    Calls Tryz.prog 10 #[.slice a len cap] w fun e w' => e = .returned (.pointer (some ⟨w.heap.size, 0, none⟩)) ∧ Rd w' w.heap.size 0 ∧ Below w.heap.size w w' := by
  have fin : ∀ (len' cap' : Nat), len' ≤ len → len' ≤ 2000 → Rd (w.alloc (.cells #[.slice a len' cap', .int .i64 0] 54)) w.heap.size 0 := by
    intro len' cap' hl h2
    refine ⟨a, len', cap', ?_, ?_, ?_, h2, ?_⟩
    · go_simp
    · go_simp
    · go_simp
    rcases hz with hz | ⟨b, off, ha, hz⟩
    · exact .inl (by omega)
    · rcases Nat.eq_zero_or_pos len' with h | h
      · exact .inl h
      · obtain ⟨z, hc, _⟩ := hz 0 (by omega)
        have hlt := cell_lt hc
        refine .inr ⟨b, off, ha, hlt, fun i hi => ?_⟩
        obtain ⟨z, hz, r⟩ := hz i (by omega)
        exact ⟨z, by rw [calloc_old (cell_lt hz)]; exact hz, r⟩
  have FIN := fin
  clear fin
  by_cases h : 2000 < len
  · go_enter Tryz.func10, Tryz.ntmps10
    go_wp2
    go_ret
    exact ⟨rfl, FIN _ _ (by omega) (by omega), (Below.refl _ _).alloc (Nat.le_refl _) _⟩
  · go_enter Tryz.func10, Tryz.ntmps10
    go_wp2
    go_ret
    exact ⟨rfl, FIN _ _ (by omega) (by omega), (Below.refl _ _).alloc (Nat.le_refl _) _⟩


/-- The reader stands at p at most, and since the world w0 nothing but its block has turned. -/
def RB (w0 w : World) (rb p : Nat) : Prop := ∃ q, q ≤ p ∧ Rd w rb q ∧ But rb w0 w
theorem RB.mono {w0 w : World} {rb p p' : Nat} (h : RB w0 w rb p) (k : p ≤ p') : RB w0 w rb p' := by
  obtain ⟨q, a, b⟩ := h; exact ⟨q, by omega, b⟩
theorem RB.start {w : World} {rb p : Nat} (h : Rd w rb p) : RB w w rb p := ⟨p, Nat.le_refl _, h, But.refl _ _⟩
theorem RB.alloc {w0 w : World} {rb p : Nat} (h : RB w0 w rb p) (o : Obj) : RB w0 (w.alloc o) rb p := by
  obtain ⟨q, a, b, c⟩ := h; exact ⟨q, a, b.alloc o, c.alloc o⟩
theorem RB.below {w0 w w' : World} {rb p : Nat} (h : RB w0 w rb p) (k : Below w.heap.size w w') : RB w0 w' rb p := by
  obtain ⟨q, a, b, c⟩ := h; exact ⟨q, a, b.below k, c.trans (But.of_below k)⟩
theorem RB.lt {w0 w : World} {rb p : Nat} (h : RB w0 w rb p) : rb < w.heap.size := by
  obtain ⟨q, a, b, c⟩ := h; exact b.lt
theorem RB.old {w0 w : World} {rb p : Nat} (h : RB w0 w rb p) {B : Nat} (hB : B ≤ rb) (hB' : B ≤ w0.heap.size) : Below B w0 w := by
  obtain ⟨q, a, b, c⟩ := h; exact c.below hB hB'

theorem pick_rb (w0 : World) (rb p : Nat) (n : Int) (w : World) (hr : RB w0 w rb p) (hp : p ≤ 999000) (h0 : 1 ≤ n) (h1 : n ≤ 4000000000) :
    Calls Tryz.prog 24 #[.pointer (some ⟨rb, 0, none⟩), .int .i64 n] w fun e w' => ∃ v : Int, e = .returned (.int .i64 v) ∧ 0 ≤ v ∧ v < n ∧ RB w0 w' rb (p + 1) := by
  obtain ⟨q, a, b, c⟩ := hr
  refine (pick_any rb q n w b (by omega) h0 h1).mono ?_
  rintro e w' ⟨v, rfl, v0, v1, hr', hb'⟩
  exact ⟨v, rfl, v0, v1, q + 1, by omega, hr', c.trans hb'⟩
theorem one_rb (lo hi : Int) (w0 : World) (rb p len cap : Nat) (cs : Array Value) (t : TypeId) (w : World) (hr : RB w0 w rb p) (hp : p ≤ 999000) (hcs : AllBd lo hi cs.toList) (hl : cs.size = len) (h0 : 1 ≤ len) (h1 : len ≤ 100) :
    Calls Tryz.prog 11 #[.pointer (some ⟨rb, 0, none⟩), .slice (some ⟨w.heap.size, 0, none⟩) len cap] (w.alloc (.cells cs t)) fun e w' => ∃ v : Int, e = .returned (.int .i64 v) ∧ lo ≤ v ∧ v ≤ hi ∧ RB w0 w' rb (p + 1) := by
  obtain ⟨q, a, b, c⟩ := hr
  refine (one_bd lo hi rb q len cap cs t w b (by omega) hcs hl h0 h1).mono ?_
  rintro e w' ⟨v, rfl, v0, v1, hr', hb'⟩
  exact ⟨v, rfl, v0, v1, q + 1, by omega, hr', c.trans hb'⟩

/-- A slice of bytes that came in: within its room; empty, or its bytes lie there. -/
def Bytes (w : World) (a : Option Addr) (len cap : Nat) : Prop :=
  len ≤ cap ∧ (len = 0 ∨ ∃ b off, a = some ⟨b, off, none⟩ ∧ ∀ i, i < len → ∃ z : Int, w.cell? ⟨b, off + i, none⟩ = some (.int .u8 z) ∧ 0 ≤ z ∧ z ≤ 255)
theorem Bytes.below {w w' : World} {a : Option Addr} {len cap : Nat} (h : Bytes w a len cap) (k : Below w.heap.size w w') : Bytes w' a len cap := by
  refine ⟨h.1, ?_⟩
  rcases h.2 with h | ⟨b, off, ha, hz⟩
  · exact .inl h
  · refine .inr ⟨b, off, ha, fun i hi => ?_⟩
    obtain ⟨z, hz, r⟩ := hz i hi
    exact ⟨z, by rw [k.cell (cell_lt hz)]; exact hz, r⟩
theorem Bytes.nil (w : World) : Bytes w none 0 0 := ⟨Nat.le_refl _, .inl rfl⟩
theorem Bytes.of {w : World} {x : Addr} {len cap : Nat} {zs : List Int} (hl : len ≤ cap) (hz : zs.length = cap) (hcell : ∀ i, i < zs.length → w.cell? (x.add i) = some (.int .u8 (zs.getD i 0))) (hwz : ∀ n ∈ zs, (Lit.int .u8 n).wf = true) : Bytes w (some x) len cap := by
  refine ⟨hl, ?_⟩
  rcases Nat.eq_zero_or_pos len with h | h
  · exact .inl h
  · obtain ⟨b, off, spot⟩ := x
    have hc := hcell 0 (by omega)
    have hspot : spot = none := by simpa [Addr.add] using World.cell?_spot hc
    subst hspot
    refine .inr ⟨b, off, rfl, fun i hi => ⟨zs[i]?.getD 0, ?_, (range_u8 hwz i).1, (range_u8 hwz i).2⟩⟩
    have h := hcell i (by omega)
    by_cases h0 : i = 0
    · subst h0; simpa [Addr.add] using h
    · simpa [Addr.add, h0] using h

theorem l1Open_rb (a : Option Addr) (len cap : Nat) (w : World) (hb : Bytes w a len cap) :
    Calls Tryz.prog 10 #[.slice a len cap] w fun e w' => e = .returned (.pointer (some ⟨w.heap.size, 0, none⟩)) ∧ RB w' w' w.heap.size 0 ∧ Below w.heap.size w w' :=
  (l1Open_any a len cap w hb.1 hb.2).mono fun _ _ ⟨h1, h2, h3⟩ => ⟨h1, RB.start h2, h3⟩
theorem RB.done {w w0 w' : World} {p : Nat} (k : Below w.heap.size w w0) (h : RB w0 w' w.heap.size p) : Below w.heap.size w w' :=
  k.trans (h.old (Nat.le_refl _) k.size)

/-- A store into a block that was made behind the reader's, and behind the world w0. -/
theorem Rd.setNew {w : World} {rb p : Nat} (h : Rd w rb p) {a : Addr} (ha : rb < a.block) (v : Value) : Rd (w.setCell a v) rb p := by
  obtain ⟨s, len, cap, c0, c1, f1, hle, hz⟩ := h
  refine ⟨s, len, cap, ?_, ?_, ?_, hle, ?_⟩
  · rw [cset_far (Nat.ne_of_lt ha)]; exact c0
  · rw [cset_far (Nat.ne_of_lt ha)]; exact c1
  · rw [fset_far (Nat.ne_of_lt ha)]; exact f1
  rcases hz with hz | ⟨b, off, e, hb, hz⟩
  · exact .inl hz
  · refine .inr ⟨b, off, e, hb, fun i hi => ?_⟩
    obtain ⟨z, hz, r⟩ := hz i hi
    exact ⟨z, by rw [cset_far (by show b ≠ a.block; omega)]; exact hz, r⟩
theorem RB.setNew {w0 w : World} {rb p : Nat} (h : RB w0 w rb p) {a : Addr} (ha : rb < a.block) (h0 : w0.heap.size ≤ a.block) (v : Value) : RB w0 (w.setCell a v) rb p := by
  obtain ⟨q, k, b, c⟩ := h
  exact ⟨q, k, b.setNew ha v, ⟨c.os, c.tape, c.output, by simpa [World.setCell] using c.size, fun k hk hn => (Below.heap_setCell _ _ _ _ (by omega)).trans (c.block k hk hn)⟩⟩
theorem RB.cells {w0 w : World} {rb p : Nat} (h : RB w0 w rb p) : (∀ b o, b < w0.heap.size → b ≠ rb → w.cell? ⟨b, o, none⟩ = w0.cell? ⟨b, o, none⟩) ∧ (∀ b o, b < w0.heap.size → b ≠ rb → w.frozen? ⟨b, o, none⟩ = w0.frozen? ⟨b, o, none⟩) := by
  obtain ⟨q, k, b, c⟩ := h
  exact ⟨fun b o hb hn => c.cell (p := ⟨b, o, none⟩) hb hn, fun b o hb hn => c.frozen (p := ⟨b, o, none⟩) hb hn⟩
/-- What was reckoned from the world behind a new block on, told from the elder world on. -/
theorem RB.join {w0 w w' : World} {o : Obj} {rb p p' : Nat} (h : RB w0 w rb p) (k : RB (w.alloc o) w' rb p') : RB w0 w' rb p' := by
  obtain ⟨q, a, b, c⟩ := h
  obtain ⟨q', a', b', c'⟩ := k
  exact ⟨q', a', b', (c.alloc o).trans c'⟩
theorem RB.fresh {w0 w : World} {rb p : Nat} (h : RB w0 w rb p) (o : Obj) : RB (w.alloc o) (w.alloc o) rb p := by
  obtain ⟨q, a, b, c⟩ := h; exact ⟨q, a, b.alloc o, But.refl _ _⟩
end Go.Proofs.YtpajkdlgkchhkaaGreatDoor
namespace Go.Proofs.YtpajkdlgkchhkaaGreatDoor
open Go.RowKit
set_option linter.unusedVariables false

end Go.Proofs.YtpajkdlgkchhkaaGreatDoor
namespace Go.Proofs.YtpajkdlgkchhkaaGreatDoor
open Go.RowKit
set_option linter.unusedVariables false
set_option linter.unusedSimpArgs false

end Go.Proofs.YtpajkdlgkchhkaaGreatDoor
namespace Go.Proofs.YtpajkdlgkchhkaaGreatDoor
open Go.RowKit
set_option linter.unusedVariables false
set_option linter.unusedSimpArgs false

/-- a number that was drawn -/
def Dn (x : Int) : Prop := -1099511627776 ≤ x ∧ x ≤ 1099511627776

theorem RB.size {w0 w : World} {rb p : Nat} (h : RB w0 w rb p) : w0.heap.size ≤ w.heap.size := by
  have := (h.old (B := 0) (Nat.zero_le _) (Nat.zero_le _)).size
  exact this

theorem bcellB {B : Nat} {a b : World} (hb : Below B a b) : (∀ x o, x < B → b.cell? ⟨x, o, none⟩ = a.cell? ⟨x, o, none⟩) ∧ (∀ x o, x < B → b.frozen? ⟨x, o, none⟩ = a.frozen? ⟨x, o, none⟩) :=
  ⟨fun x o h => hb.cell (p := ⟨x, o, none⟩) h, fun x o h => hb.frozen (p := ⟨x, o, none⟩) h⟩

end Go.Proofs.YtpajkdlgkchhkaaGreatDoor
namespace Go.Proofs.YtpajkdlgkchhkaaGreatDoor
open Go.RowKit
set_option linter.unusedVariables false
set_option linter.unusedSimpArgs false

/-- a number of a place, a box or a shape that was drawn -/
def Bn (x : Int) : Prop := -1100000000 ≤ x ∧ x ≤ 1100000000

/-- the reader at block rb, its place at most p -/
def RS (w : World) (rb p : Nat) : Prop := ∃ q, q ≤ p ∧ Rd w rb q
theorem RS.of {w0 w : World} {rb p : Nat} (h : RB w0 w rb p) : RS w rb p := by
  obtain ⟨q, a, b, c⟩ := h; exact ⟨q, a, b⟩
theorem RS.rb {w : World} {rb p : Nat} (h : RS w rb p) : RB w w rb p := by
  obtain ⟨q, a, b⟩ := h; exact ⟨q, a, b, But.refl _ _⟩
theorem RS.mono {w : World} {rb p p' : Nat} (h : RS w rb p) (k : p ≤ p') : RS w rb p' := by
  obtain ⟨q, a, b⟩ := h; exact ⟨q, by omega, b⟩
theorem RS.up {w0 w : World} {rb p p' : Nat} (h : RB w0 w rb p) (k : p ≤ p') : RS w rb p' := (RS.of h).mono k
theorem RB.but {w0 w : World} {rb p : Nat} (h : RB w0 w rb p) : But rb w0 w := by
  obtain ⟨q, a, b, c⟩ := h; exact c
theorem RB.mk {w0 w : World} {rb p : Nat} (h : But rb w0 w) (k : RS w rb p) : RB w0 w rb p := by
  obtain ⟨q, a, b⟩ := k; exact ⟨q, a, b, h⟩
theorem But.setNew {rb : Nat} {a w : World} (h : But rb a w) {x : Addr} (hx : a.heap.size ≤ x.block) (u : Value) : But rb a (w.setCell x u) :=
  ⟨h.os, h.tape, h.output, by simpa [World.setCell] using h.size, fun k hk hn => (Below.heap_setCell _ _ _ _ (by omega)).trans (h.block k hk hn)⟩
theorem But.drew {rb : Nat} {a w : World} (h : But rb a w) : But rb a w.drew := ⟨h.os, h.tape, h.output, h.size, h.block⟩
theorem RS.lt {w : World} {rb p : Nat} (h : RS w rb p) : rb < w.heap.size := h.rb.lt
theorem RS.alloc {w : World} {rb p : Nat} (h : RS w rb p) (o : Obj) : RS (w.alloc o) rb p := RS.of (h.rb.alloc o)
theorem RS.setNew {w : World} {rb p : Nat} (h : RS w rb p) {a : Addr} (ha : rb < a.block) (v : Value) : RS (w.setCell a v) rb p := by
  obtain ⟨q, k, b⟩ := h; exact ⟨q, k, b.setNew ha v⟩
theorem RS.drewN {w : World} {rb p : Nat} (h : RS w rb p) (n : Nat) : RS (w.drewN n) rb p := h
theorem RS.drew {w : World} {rb p : Nat} (h : RS w rb p) : RS w.drew rb p := h
theorem RB.drewN {w0 w : World} {rb p : Nat} (h : RB w0 w rb p) (n : Nat) : RB w0 (w.drewN n) rb p := by
  obtain ⟨q, a, b, c⟩ := h; exact ⟨q, a, b, c.drewN n⟩
theorem RB.drew {w0 w : World} {rb p : Nat} (h : RB w0 w rb p) : RB w0 w.drew rb p := by
  obtain ⟨q, a, b, c⟩ := h; exact ⟨q, a, b, c.drewN 1⟩
theorem RB.trans {a b c : World} {rb p p' : Nat} (h : RB a b rb p) (k : RB b c rb p') : RB a c rb p' := by
  obtain ⟨q, _, _, x⟩ := h
  obtain ⟨q', y, z, u⟩ := k
  exact ⟨q', y, z, x.trans u⟩
theorem pick_s (rb p : Nat) (n : Int) (w : World) (hr : RS w rb p) (hp : p ≤ 999000) (h0 : 1 ≤ n) (h1 : n ≤ 4000000000) :
    Calls Tryz.prog 24 #[.pointer (some ⟨rb, 0, none⟩), .int .i64 n] w fun e w' => ∃ v : Int, e = .returned (.int .i64 v) ∧ 0 ≤ v ∧ v < n ∧ RB w w' rb (p + 1) :=
  pick_rb w rb p n w hr.rb hp h0 h1
theorem one_s (lo hi : Int) (rb p len cap : Nat) (cs : Array Value) (t : TypeId) (w : World) (hr : RS w rb p) (hp : p ≤ 999000) (hcs : AllBd lo hi cs.toList) (hl : cs.size = len) (h0 : 1 ≤ len) (h1 : len ≤ 100) :
    Calls Tryz.prog 11 #[.pointer (some ⟨rb, 0, none⟩), .slice (some ⟨w.heap.size, 0, none⟩) len cap] (w.alloc (.cells cs t)) fun e w' => ∃ v : Int, e = .returned (.int .i64 v) ∧ lo ≤ v ∧ v ≤ hi ∧ RB w w' rb (p + 1) :=
  one_rb lo hi w rb p len cap cs t w hr.rb hp hcs hl h0 h1
theorem one_g (lo hi : Int) (rb p lb len cap : Nat) (xs : List Int) (w : World) (hr : RS w rb p) (hp : p ≤ 999000) (hx : ∀ x ∈ xs, lo ≤ x ∧ x ≤ hi) (hl : xs.length = len) (h0 : 1 ≤ len) (h1 : len ≤ 100) (hb : lb ≠ rb) (hc : ∀ i, i < len → w.cell? ⟨lb, i, none⟩ = some (.int .i64 (xs.getD i 0))) :
    Calls Tryz.prog 11 #[.pointer (some ⟨rb, 0, none⟩), .slice (some ⟨lb, 0, none⟩) len cap] w fun e w' => ∃ v : Int, e = .returned (.int .i64 v) ∧ lo ≤ v ∧ v ≤ hi ∧ RB w w' rb (p + 1) := by
  obtain ⟨q, hq, hd⟩ := hr
  refine (one_any rb q lb len cap xs w hd (by omega) hl h0 h1 hb hc).mono ?_
  rintro e w' ⟨v, rfl, hv, hr', hb'⟩
  obtain ⟨v0, v1⟩ := hx v hv
  exact ⟨v, rfl, v0, v1, q + 1, by omega, hr', hb'⟩
/-- a number of a place that was drawn -/
def Bm (x : Int) : Prop := -10000 ≤ x ∧ x ≤ 10000
theorem Bm.mk {x : Int} (h : -10000 ≤ x ∧ x ≤ 10000) : Bm x := h
theorem Bm.bn {x : Int} (h : Bm x) : Bn x := by unfold Bm Bn at *; omega
theorem Bn.mk {x : Int} (h : -1100000000 ≤ x ∧ x ≤ 1100000000) : Bn x := h

end Go.Proofs.YtpajkdlgkchhkaaGreatDoor
namespace Go.Proofs.YtpajkdlgkchhkaaGreatDoor
open Go.RowKit
set_option linter.unusedVariables false
set_option linter.unusedSimpArgs false
/-- the four values of a world's block -/
structure Vb (w : World) (b : Nat) (v0 v1 v2 v3 : Value) : Prop where
  c0 : w.cell? ⟨b, 0, none⟩ = some v0
  c1 : w.cell? ⟨b, 1, none⟩ = some v1
  c2 : w.cell? ⟨b, 2, none⟩ = some v2
  c3 : w.cell? ⟨b, 3, none⟩ = some v3
  f : ∀ o, w.frozen? ⟨b, o, none⟩ = false
  l : b < w.heap.size
theorem Vb.on {w w' : World} {b : Nat} {v0 v1 v2 v3 : Value} (h : Vb w b v0 v1 v2 v3) (hb : Below w.heap.size w w') : Vb w' b v0 v1 v2 v3 :=
  have k := fun o => hb.cell (p := ⟨b, o, none⟩) h.l
  ⟨(k 0).trans h.c0, (k 1).trans h.c1, (k 2).trans h.c2, (k 3).trans h.c3, fun o => (hb.frozen (p := ⟨b, o, none⟩) h.l).trans (h.f o), Nat.lt_of_lt_of_le h.l hb.size⟩
theorem setBlk {w : World} {b i : Nat} {cs : Array Value} {t : TypeId} {fr : Nat × Nat} (h : w.heap[b]? = some (.cells cs t fr)) (v : Value) : (w.setCell ⟨b, i, none⟩ v).heap[b]? = some (.cells (cs.setIfInBounds i v) t fr) := by
  show (w.heap.modify b _)[b]? = _
  rw [Array.getElem?_modify, if_pos rfl, h]
  rfl
/-- a variable that is a world, with its block's type -/
def Wb (w : World) (b : Nat) (v0 v1 v2 v3 : Value) : Prop := w.heap[b]? = some (.cells #[v0, v1, v2, v3] 27 (0, 0))
theorem Wb.lt {w : World} {b : Nat} {v0 v1 v2 v3 : Value} (h : Wb w b v0 v1 v2 v3) : b < w.heap.size := by
  rcases Nat.lt_or_ge b w.heap.size with q | q
  · exact q
  · unfold Wb at h; rw [Array.getElem?_eq_none q] at h; cases h
theorem Wb.vb {w : World} {b : Nat} {v0 v1 v2 v3 : Value} (h : Wb w b v0 v1 v2 v3) : Vb w b v0 v1 v2 v3 := by
  have hl := h.lt
  unfold Wb at h
  exact ⟨by simp [World.cell?, h], by simp [World.cell?, h], by simp [World.cell?, h], by simp [World.cell?, h], fun o => by simp [World.frozen?, h], hl⟩
theorem Wb.but {w w' : World} {b rb : Nat} {v0 v1 v2 v3 : Value} (h : Wb w b v0 v1 v2 v3) (hb : But rb w w') (hn : b ≠ rb) : Wb w' b v0 v1 v2 v3 := (hb.block b h.lt hn).trans h
theorem Wb.on {w w' : World} {b : Nat} {v0 v1 v2 v3 : Value} (h : Wb w b v0 v1 v2 v3) (hb : Below w.heap.size w w') : Wb w' b v0 v1 v2 v3 := (hb.block b h.lt).trans h
theorem Wb.new (w : World) (v0 v1 v2 v3 : Value) : Wb (w.alloc (.cells #[v0, v1, v2, v3] 27)) w.heap.size v0 v1 v2 v3 := by show (w.heap.push _)[w.heap.size]? = _; simp
theorem Wb.far {w : World} {b b' o : Nat} {v0 v1 v2 v3 : Value} (h : Wb w b v0 v1 v2 v3) (hn : b ≠ b') (v : Value) : Wb (w.setCell ⟨b', o, none⟩ v) b v0 v1 v2 v3 := (Below.heap_setCell w ⟨b', o, none⟩ v b hn).trans h
theorem Wb.set0 {w : World} {b : Nat} {v0 v1 v2 v3 : Value} (h : Wb w b v0 v1 v2 v3) (v : Value) : Wb (w.setCell ⟨b, 0, none⟩ v) b v v1 v2 v3 := setBlk h v
theorem Wb.set1 {w : World} {b : Nat} {v0 v1 v2 v3 : Value} (h : Wb w b v0 v1 v2 v3) (v : Value) : Wb (w.setCell ⟨b, 1, none⟩ v) b v0 v v2 v3 := setBlk h v
theorem Wb.set2 {w : World} {b : Nat} {v0 v1 v2 v3 : Value} (h : Wb w b v0 v1 v2 v3) (v : Value) : Wb (w.setCell ⟨b, 2, none⟩ v) b v0 v1 v v3 := setBlk h v
theorem Wb.set3 {w : World} {b : Nat} {v0 v1 v2 v3 : Value} (h : Wb w b v0 v1 v2 v3) (v : Value) : Wb (w.setCell ⟨b, 3, none⟩ v) b v0 v1 v2 v := setBlk h v
/-- what is kept while a world without bodies is stepped -/
structure Ps (w wr : World) (P : Int) : Prop where
  bel : Below w.heap.size w wr
  p : Wb wr w.heap.size (.int .i64 0) (.int .i64 P) (.slice none 0 0) (.slice none 0 0)
  r : Wb wr (w.heap.size + 1) (.int .i64 0) (.int .i64 0) (.slice none 0 0) (.slice none 0 0)
theorem Ps.on {w wr w' : World} {P : Int} (h : Ps w wr P) (k : Below wr.heap.size wr w') : Ps w w' P := ⟨h.bel.trans (k.mono h.bel.size), h.p.on k, h.r.on k⟩
theorem Ps.far {w wr : World} {P : Int} {b o : Nat} (h : Ps w wr P) (hb : w.heap.size + 1 < b) (v : Value) : Ps w (wr.setCell ⟨b, o, none⟩ v) P := ⟨h.bel.setCell (show w.heap.size ≤ b by omega) _, h.p.far (by omega) _, h.r.far (by omega) _⟩
set_option maxRecDepth 20000 in
set_option maxHeartbeats 8000000 in
theorem worldStep0 (P : Int) (w : World) (hP : 0 ≤ P ∧ P ≤ 2560) :
    Calls Tryz.prog 6 #[worldW 0 P none 0 0 none 0 0] w fun e w' => e = .returned (.tuple #[worldW 1 P none 0 0 none 0 0, .slice none 0 0]) ∧ Below w.heap.size w w' := by
  have hset := cset_map
  have hok : worldB 0 P 0 (fun _ => 0) 0 (fun _ => 0) = true := by unfold worldB; rw [decide_eq_true hP]; rfl
  have hF : ∀ W, Flat W none (0 * 12) (fun _ => 0) := fun W h => by omega
  have hF2 : ∀ W, Flat W none (0 * 2) (fun _ => 0) := fun W h => by omega
  have hS : Ps w ((w.alloc (Obj.cells #[.int .i64 0, .int .i64 P, .slice none 0 0, .slice none 0 0] 27)).alloc (Obj.cells #[.int .i64 0, .int .i64 0, .slice none 0 0, .slice none 0 0] 27)) P := ⟨((Below.refl _ _).alloc (Nat.le_refl _) _).alloc (by simp) _, (Wb.new w _ _ _ _).on ((Below.refl _ _).alloc (Nat.le_refl _) _), by have q := Wb.new (w.alloc (Obj.cells #[.int .i64 0, .int .i64 P, .slice none 0 0, .slice none 0 0] 27)) (.int .i64 0) (.int .i64 0) (.slice none 0 0) (.slice none 0 0); rw [show (w.alloc (Obj.cells #[.int .i64 0, .int .i64 P, .slice none 0 0, .slice none 0 0] 27)).heap.size = w.heap.size + 1 by simp] at q; exact q⟩
  go_enter Tryz.func6, Tryz.ntmps6
  go_upto_region 1 with fail
  generalize ((w.alloc (Obj.cells #[.int .i64 0, .int .i64 P, .slice none 0 0, .slice none 0 0] 27)).alloc (Obj.cells #[.int .i64 0, .int .i64 0, .slice none 0 0, .slice none 0 0] 27)) = w0 at hS ⊢
  have p0 := hS.p.vb.c0
  have p1 := hS.p.vb.c1
  have p2 := hS.p.vb.c2
  have p3 := hS.p.vb.c3
  have pf := hS.p.vb.f
  have r0 := hS.r.vb.c0
  have r1 := hS.r.vb.c1
  have r2 := hS.r.vb.c2
  have r3 := hS.r.vb.c3
  have rf := hS.r.vb.f
  go_cut [8] (fun s8 wc => s8 = .bool false ∧ Ps w wc P)
  case first =>
    go_wp2_with (go_at_call 9; refine (worldOk_q 0 P none 0 0 (fun _ => 0) none 0 0 (fun _ => 0) _ (hF _) (hF2 _) (by omega) (by omega) true hok).mono ?_; rintro e w1 ⟨rfl, hb1⟩)
    go_meet
    exact ⟨rfl, hS.on hb1⟩
  case rest =>
  clear p0 p1 p2 p3 pf r0 r1 r2 r3 rf hS
  obtain ⟨rfl, hS⟩ := hcut
  have p0 := hS.p.vb.c0
  have p1 := hS.p.vb.c1
  have p2 := hS.p.vb.c2
  have p3 := hS.p.vb.c3
  have pf := hS.p.vb.f
  have r0 := hS.r.vb.c0
  have r1 := hS.r.vb.c1
  have r2 := hS.r.vb.c2
  have r3 := hS.r.vb.c3
  have rf := hS.r.vb.f
  go_upto_region 5 with fail
  go_cut [4] (fun s4 wc => ∃ cb : Nat, s4 = .pointer (some ⟨cb, 0, none⟩) ∧ E0 wc cb ∧ Ps w wc P)
  case first =>
    go_wp2_with (go_at_call 14; refine (rowsOf_any none 0 0 (fun _ => 0) _ (hF _) (by omega)).mono ?_; rintro e w1 ⟨rfl, hb1, S, hCs⟩)
    go_meet
    exact ⟨_, rfl, E0.of hCs, hS.on hb1⟩
  case rest =>
  clear p0 p1 p2 p3 pf r0 r1 r2 r3 rf hS
  obtain ⟨cb, rfl, hC, hS⟩ := hcut
  have p0 := hS.p.vb.c0
  have p1 := hS.p.vb.c1
  have p2 := hS.p.vb.c2
  have p3 := hS.p.vb.c3
  have pf := hS.p.vb.f
  have r0 := hS.r.vb.c0
  have r1 := hS.r.vb.c1
  have r2 := hS.r.vb.c2
  have r3 := hS.r.vb.c3
  have rf := hS.r.vb.f
  go_upto_region 6 with fail
  go_cut [] (fun wc => E0 wc cb ∧ Ps w wc P)
  case first =>
    go_wp2_with (go_at_call 15; refine (stepByGroups0 cb P _ hC).mono ?_; rintro e w1 ⟨⟨v1, rfl⟩, hb1⟩)
    go_meet
    exact ⟨hC.on hb1, hS.on hb1⟩
  case rest =>
  clear p0 p1 p2 p3 pf r0 r1 r2 r3 rf hS hC
  obtain ⟨hC, hS⟩ := hcut
  have p0 := hS.p.vb.c0
  have p1 := hS.p.vb.c1
  have p2 := hS.p.vb.c2
  have p3 := hS.p.vb.c3
  have pf := hS.p.vb.f
  have r0 := hS.r.vb.c0
  have r1 := hS.r.vb.c1
  have r2 := hS.r.vb.c2
  have r3 := hS.r.vb.c3
  have rf := hS.r.vb.f
  have hw1 : IntKind.i64.wrap 1 = 1 := i64w (by omega)
  go_upto_region 7 with fail
  go_cut [5] (fun s5 wc => ∃ ob : Nat, s5 = .pointer (some ⟨ob, 0, none⟩) ∧ w.heap.size + 1 < ob ∧ Wb wc ob (.int .i64 1) (.int .i64 P) (.slice none 0 0) (.slice none 0 0) ∧ Ps w wc P)
  case first =>
    refine wp_region_held_drew (S := fun w' => w'.cell? ⟨w.heap.size, 0, none⟩ = some (.int .i64 0) ∧ w'.cell? ⟨w.heap.size, 1, none⟩ = some (.int .i64 P)) (by kernel_rfl) ?_ (fun hHeld => ?_)
    · (try dsimp only)
      (first | (go_simp; done) | (go_keep; done))
    refine tq 0 hHeld ?_
    refine tq 1 hHeld ?_
    refine tq 2 hHeld ?_
    refine tq 3 hHeld ?_
    refine tq 4 hHeld ?_
    refine tq 5 hHeld ?_
    refine wpAnyH_ready (rs := [6, 8]) (by kernel_rfl) (by simp) ?_
    refine AllReadyH.cons rfl (fun K hK => ?_) (AllReadyH.cons rfl (fun K hK => ?_) AllReadyH.nil)
    · (go_simp
       replace hS := hS.on (Below.drew (Below.refl _ _))
       replace hC := hC.on (Below.drew (Below.refl _ _))
       (go_at_call 16; refine (list0 cb _ hC).mono ?_; rintro e w5 ⟨rfl, hb5⟩)
       clear p0 p1 p2 p3 pf r0 r1 r2 r3 rf
       replace hS := hS.on hb5
       
       clear hb5 hC
       have p0 := hS.p.vb.c0
       have p1 := hS.p.vb.c1
       have p2 := hS.p.vb.c2
       have p3 := hS.p.vb.c3
       have pf := hS.p.vb.f
       have r0 := hS.r.vb.c0
       have r1 := hS.r.vb.c1
       have r2 := hS.r.vb.c2
       have r3 := hS.r.vb.c3
       have rf := hS.r.vb.f
       (try go_wp2_with fail)
       refine tr hK (fun hHeld => ?_)
       clear hK K)
      refine tq 7 hHeld ?_
      refine tc 8 fun K hK => ?_
      (go_simp
       have hE : Below w5.heap.size w5 (w5.alloc (Obj.cells #[.int .i64 0, .int .i64 0, .slice none 0 0, .slice none 0 0] 27)) := (Below.refl _ _).alloc (Nat.le_refl _) _
       have hO : Wb (w5.alloc (Obj.cells #[.int .i64 0, .int .i64 0, .slice none 0 0, .slice none 0 0] 27)) w5.heap.size (.int .i64 0) (.int .i64 0) (.slice none 0 0) (.slice none 0 0) := Wb.new w5 _ _ _ _
       have hob : w.heap.size + 1 < w5.heap.size := hS.r.lt
       clear p0 p1 p2 p3 pf r0 r1 r2 r3 rf
       replace hS := hS.on hE
       
       clear hE
       generalize (w5.alloc (Obj.cells #[.int .i64 0, .int .i64 0, .slice none 0 0, .slice none 0 0] 27)) = w6 at hS hO  ⊢
       generalize w5.heap.size = ob at hO hob ⊢
       have p0 := hS.p.vb.c0
       have p1 := hS.p.vb.c1
       have p2 := hS.p.vb.c2
       have p3 := hS.p.vb.c3
       have pf := hS.p.vb.f
       have r0 := hS.r.vb.c0
       have r1 := hS.r.vb.c1
       have r2 := hS.r.vb.c2
       have r3 := hS.r.vb.c3
       have rf := hS.r.vb.f
       have o0 := hO.vb.c0
       have o1 := hO.vb.c1
       have o2 := hO.vb.c2
       have o3 := hO.vb.c3
       have of := hO.vb.f
       refine tr hK (fun hHeld => ?_)
       clear hK K)
      refine tc 9 fun K hK => ?_
      (go_simp
       have hO2 : Wb ((((w6.setCell ⟨ob, 0, none⟩ (.int .i64 1)).setCell ⟨ob, 1, none⟩ (.int .i64 P)).setCell ⟨ob, 2, none⟩ (.slice none 0 0)).setCell ⟨ob, 3, none⟩ (.slice none 0 0)) ob (.int .i64 1) (.int .i64 P) (.slice none 0 0) (.slice none 0 0) := (((hO.set0 _).set1 _).set2 _).set3 _
       have hS2 : Ps w ((((w6.setCell ⟨ob, 0, none⟩ (.int .i64 1)).setCell ⟨ob, 1, none⟩ (.int .i64 P)).setCell ⟨ob, 2, none⟩ (.slice none 0 0)).setCell ⟨ob, 3, none⟩ (.slice none 0 0)) P := (((hS.far hob _).far hob _).far hob _).far hob _
       clear p0 p1 p2 p3 pf r0 r1 r2 r3 rf hS hO o0 o1 o2 o3 of
       generalize ((((w6.setCell ⟨ob, 0, none⟩ (.int .i64 1)).setCell ⟨ob, 1, none⟩ (.int .i64 P)).setCell ⟨ob, 2, none⟩ (.slice none 0 0)).setCell ⟨ob, 3, none⟩ (.slice none 0 0)) = w7 at hS2 hO2 ⊢
       have p0 := hS2.p.vb.c0
       have p1 := hS2.p.vb.c1
       have p2 := hS2.p.vb.c2
       have p3 := hS2.p.vb.c3
       have pf := hS2.p.vb.f
       have r0 := hS2.r.vb.c0
       have r1 := hS2.r.vb.c1
       have r2 := hS2.r.vb.c2
       have r3 := hS2.r.vb.c3
       have rf := hS2.r.vb.f
       refine tr hK (fun hHeld => ?_)
       clear hK K)
      refine wpAnyH_done (by kernel_rfl) ?_ _
      go_wp2_with fail
      go_meet
      exact ⟨ob, rfl, hob, hO2, hS2⟩
    · (go_simp
       have hE : Below wc.heap.size wc (wc.alloc (Obj.cells #[.int .i64 0, .int .i64 0, .slice none 0 0, .slice none 0 0] 27)).drew := Below.drew ((Below.refl _ _).alloc (Nat.le_refl _) _)
       have hO : Wb (wc.alloc (Obj.cells #[.int .i64 0, .int .i64 0, .slice none 0 0, .slice none 0 0] 27)).drew wc.heap.size (.int .i64 0) (.int .i64 0) (.slice none 0 0) (.slice none 0 0) := (Wb.new wc _ _ _ _).on (Below.drew (Below.refl _ _))
       have hob : w.heap.size + 1 < wc.heap.size := hS.r.lt
       clear p0 p1 p2 p3 pf r0 r1 r2 r3 rf
       replace hS := hS.on hE
       replace hC := hC.on hE
       clear hE
       generalize (wc.alloc (Obj.cells #[.int .i64 0, .int .i64 0, .slice none 0 0, .slice none 0 0] 27)).drew = w6 at hS hO hC ⊢
       generalize wc.heap.size = ob at hO hob ⊢
       have p0 := hS.p.vb.c0
       have p1 := hS.p.vb.c1
       have p2 := hS.p.vb.c2
       have p3 := hS.p.vb.c3
       have pf := hS.p.vb.f
       have r0 := hS.r.vb.c0
       have r1 := hS.r.vb.c1
       have r2 := hS.r.vb.c2
       have r3 := hS.r.vb.c3
       have rf := hS.r.vb.f
       have o0 := hO.vb.c0
       have o1 := hO.vb.c1
       have o2 := hO.vb.c2
       have o3 := hO.vb.c3
       have of := hO.vb.f
       refine tr hK (fun hHeld => ?_)
       clear hK K)
      refine tc 6 fun K hK => ?_
      (go_simp
       (go_at_call 16; refine (list0 cb _ hC).mono ?_; rintro e w5 ⟨rfl, hb5⟩)
       clear p0 p1 p2 p3 pf r0 r1 r2 r3 rf
       replace hS := hS.on hb5
       replace hO := hO.on hb5
       clear o0 o1 o2 o3 of
       have o0 := hO.vb.c0
       have o1 := hO.vb.c1
       have o2 := hO.vb.c2
       have o3 := hO.vb.c3
       have of := hO.vb.f
       clear hb5 hC
       have p0 := hS.p.vb.c0
       have p1 := hS.p.vb.c1
       have p2 := hS.p.vb.c2
       have p3 := hS.p.vb.c3
       have pf := hS.p.vb.f
       have r0 := hS.r.vb.c0
       have r1 := hS.r.vb.c1
       have r2 := hS.r.vb.c2
       have r3 := hS.r.vb.c3
       have rf := hS.r.vb.f
       (try go_wp2_with fail)
       refine tr hK (fun hHeld => ?_)
       clear hK K)
      refine tq 7 hHeld ?_
      refine tc 9 fun K hK => ?_
      (go_simp
       have hO2 : Wb ((((w5.setCell ⟨ob, 0, none⟩ (.int .i64 1)).setCell ⟨ob, 1, none⟩ (.int .i64 P)).setCell ⟨ob, 2, none⟩ (.slice none 0 0)).setCell ⟨ob, 3, none⟩ (.slice none 0 0)) ob (.int .i64 1) (.int .i64 P) (.slice none 0 0) (.slice none 0 0) := (((hO.set0 _).set1 _).set2 _).set3 _
       have hS2 : Ps w ((((w5.setCell ⟨ob, 0, none⟩ (.int .i64 1)).setCell ⟨ob, 1, none⟩ (.int .i64 P)).setCell ⟨ob, 2, none⟩ (.slice none 0 0)).setCell ⟨ob, 3, none⟩ (.slice none 0 0)) P := (((hS.far hob _).far hob _).far hob _).far hob _
       clear p0 p1 p2 p3 pf r0 r1 r2 r3 rf hS hO o0 o1 o2 o3 of
       generalize ((((w5.setCell ⟨ob, 0, none⟩ (.int .i64 1)).setCell ⟨ob, 1, none⟩ (.int .i64 P)).setCell ⟨ob, 2, none⟩ (.slice none 0 0)).setCell ⟨ob, 3, none⟩ (.slice none 0 0)) = w7 at hS2 hO2 ⊢
       have p0 := hS2.p.vb.c0
       have p1 := hS2.p.vb.c1
       have p2 := hS2.p.vb.c2
       have p3 := hS2.p.vb.c3
       have pf := hS2.p.vb.f
       have r0 := hS2.r.vb.c0
       have r1 := hS2.r.vb.c1
       have r2 := hS2.r.vb.c2
       have r3 := hS2.r.vb.c3
       have rf := hS2.r.vb.f
       refine tr hK (fun hHeld => ?_)
       clear hK K)
      refine wpAnyH_done (by kernel_rfl) ?_ _
      go_wp2_with fail
      go_meet
      exact ⟨ob, rfl, hob, hO2, hS2⟩
  case rest =>
  clear p0 p1 p2 p3 pf r0 r1 r2 r3 rf hS hC
  obtain ⟨ob, rfl, hob, hO, hS⟩ := hcut
  have o0 := hO.vb.c0
  have o1 := hO.vb.c1
  have o2 := hO.vb.c2
  have o3 := hO.vb.c3
  have of := hO.vb.f
  go_upto_region 8 with fail
  go_cut [] (fun wc => Wb wc ob (.int .i64 1) (.int .i64 P) (.slice none 0 0) (.slice none 0 0) ∧ Ps w wc P)
  case first =>
    go_wp2_with (go_at_call 17; refine (stepPairs0 none 0 _).mono ?_; rintro e w1 ⟨rfl, hb1⟩; clear o0 o1 o2 o3 of; have hO1 := hO.on hb1; have o0 := hO1.vb.c0; have o1 := hO1.vb.c1; have o2 := hO1.vb.c2; have o3 := hO1.vb.c3; have of := hO1.vb.f)
    go_meet
    exact ⟨hO1.set3 _, (hS.on hb1).far hob _⟩
  case rest =>
  clear o0 o1 o2 o3 of hO hS
  obtain ⟨hO, hS⟩ := hcut
  have p0 := hS.p.vb.c0
  have p1 := hS.p.vb.c1
  have p2 := hS.p.vb.c2
  have p3 := hS.p.vb.c3
  have pf := hS.p.vb.f
  have r0 := hS.r.vb.c0
  have r1 := hS.r.vb.c1
  have r2 := hS.r.vb.c2
  have r3 := hS.r.vb.c3
  have rf := hS.r.vb.f
  have o0 := hO.vb.c0
  have o1 := hO.vb.c1
  have o2 := hO.vb.c2
  have o3 := hO.vb.c3
  have of := hO.vb.f
  have hn1 : ¬ ob = w.heap.size + 1 := by omega
  have hn2 : ¬ w.heap.size + 1 = ob := by omega
  go_upto_region 9 with fail
  refine wp_region_held_drew (S := fun w' => w'.cell? ⟨ob, 0, none⟩ = some (.int .i64 1) ∧ w'.cell? ⟨ob, 1, none⟩ = some (.int .i64 P) ∧ w'.cell? ⟨ob, 2, none⟩ = some (.slice none 0 0) ∧ w'.cell? ⟨ob, 3, none⟩ = some (.slice none 0 0) ∧ w'.cell? ⟨w.heap.size, 3, none⟩ = some (.slice none 0 0)) (by kernel_rfl) ?_ (fun hHeld => ?_)
  · (try dsimp only)
    (first | (go_simp; done) | (go_keep; done))
  refine tq 0 hHeld ?_
  refine tq 1 hHeld ?_
  refine tq 2 hHeld ?_
  refine tq 3 hHeld ?_
  refine tq 4 hHeld ?_
  refine tc 5 fun K hK => ?_
  (go_simp
   replace hS := hS.on (Below.drew (Below.refl _ _))
   replace hO := hO.on (Below.drew (Below.refl _ _))
   (go_at_call 18; refine (eventsOf0 none none 0 0 _).mono ?_; rintro e w8 ⟨rfl, hb8⟩)
   clear p0 p1 p2 p3 pf r0 r1 r2 r3 rf o0 o1 o2 o3 of
   replace hO := hO.on hb8
   replace hS := hS.on hb8
   clear hb8
   have p0 := hS.p.vb.c0
   have p1 := hS.p.vb.c1
   have p2 := hS.p.vb.c2
   have p3 := hS.p.vb.c3
   have pf := hS.p.vb.f
   have r0 := hS.r.vb.c0
   have r1 := hS.r.vb.c1
   have r2 := hS.r.vb.c2
   have r3 := hS.r.vb.c3
   have rf := hS.r.vb.f
   have o0 := hO.vb.c0
   have o1 := hO.vb.c1
   have o2 := hO.vb.c2
   have o3 := hO.vb.c3
   have of := hO.vb.f
   (try go_wp2_with fail)
   refine tr hK (fun hHeld => ?_)
   clear hK K)
  refine tc 6 fun K hK => ?_
  (go_simp
   have hQ : Wb ((((w8.setCell ⟨w.heap.size + 1, 0, none⟩ (.int .i64 1)).setCell ⟨w.heap.size + 1, 1, none⟩ (.int .i64 P)).setCell ⟨w.heap.size + 1, 2, none⟩ (.slice none 0 0)).setCell ⟨w.heap.size + 1, 3, none⟩ (.slice none 0 0)) (w.heap.size + 1) (.int .i64 1) (.int .i64 P) (.slice none 0 0) (.slice none 0 0) := (((hS.r.set0 _).set1 _).set2 _).set3 _
   have hO2 : Wb ((((w8.setCell ⟨w.heap.size + 1, 0, none⟩ (.int .i64 1)).setCell ⟨w.heap.size + 1, 1, none⟩ (.int .i64 P)).setCell ⟨w.heap.size + 1, 2, none⟩ (.slice none 0 0)).setCell ⟨w.heap.size + 1, 3, none⟩ (.slice none 0 0)) ob (.int .i64 1) (.int .i64 P) (.slice none 0 0) (.slice none 0 0) := (((hO.far (by omega) _).far (by omega) _).far (by omega) _).far (by omega) _
   have hP2 : Wb ((((w8.setCell ⟨w.heap.size + 1, 0, none⟩ (.int .i64 1)).setCell ⟨w.heap.size + 1, 1, none⟩ (.int .i64 P)).setCell ⟨w.heap.size + 1, 2, none⟩ (.slice none 0 0)).setCell ⟨w.heap.size + 1, 3, none⟩ (.slice none 0 0)) w.heap.size (.int .i64 0) (.int .i64 P) (.slice none 0 0) (.slice none 0 0) := (((hS.p.far (by omega) _).far (by omega) _).far (by omega) _).far (by omega) _
   have hB : Below w.heap.size w (((((w8.setCell ⟨w.heap.size + 1, 0, none⟩ (.int .i64 1)).setCell ⟨w.heap.size + 1, 1, none⟩ (.int .i64 P)).setCell ⟨w.heap.size + 1, 2, none⟩ (.slice none 0 0)).setCell ⟨w.heap.size + 1, 3, none⟩ (.slice none 0 0))) := ((((hS.bel.setCell (p := ⟨w.heap.size + 1, 0, none⟩) (Nat.le_succ _) _).setCell (p := ⟨w.heap.size + 1, 1, none⟩) (Nat.le_succ _) _).setCell (p := ⟨w.heap.size + 1, 2, none⟩) (Nat.le_succ _) _).setCell (p := ⟨w.heap.size + 1, 3, none⟩) (Nat.le_succ _) _)
   clear p0 p1 p2 p3 pf r0 r1 r2 r3 rf hS hO o0 o1 o2 o3 of
   generalize ((((w8.setCell ⟨w.heap.size + 1, 0, none⟩ (.int .i64 1)).setCell ⟨w.heap.size + 1, 1, none⟩ (.int .i64 P)).setCell ⟨w.heap.size + 1, 2, none⟩ (.slice none 0 0)).setCell ⟨w.heap.size + 1, 3, none⟩ (.slice none 0 0)) = w9 at hQ hO2 hP2 hB ⊢
   have hO := hO2
   have hp3 := hP2.vb.c3
   have hpl := hP2.lt
   clear hO2 hP2
   have p0 := True.intro
   have p1 := p0
   have p2 := p0
   have p3 := hp3
   have pf := p0
   have r0 := hQ.vb.c0
   have r1 := hQ.vb.c1
   have r2 := hQ.vb.c2
   have r3 := hQ.vb.c3
   have rf := hQ.vb.f
   have o0 := hO.vb.c0
   have o1 := hO.vb.c1
   have o2 := hO.vb.c2
   have o3 := hO.vb.c3
   have of := hO.vb.f
   refine tr hK (fun hHeld => ?_)
   clear hK K)
  refine tq 7 hHeld ?_
  refine wpAnyH_done (by kernel_rfl) ?_ _
  go_wp2_with fail
  exact bodyPost_ret (v := .tuple #[worldW 1 P none 0 0 none 0 0, .slice none 0 0]) (by simp [results, Tryz.results6, go_sem, r0, r1, r2, r3]) rfl ⟨rfl, hB⟩
end Go.Proofs.YtpajkdlgkchhkaaGreatDoor
namespace Go.Proofs.YtpajkdlgkchhkaaGreatDoor
open Go.RowKit
set_option linter.unusedVariables false
set_option linter.unusedSimpArgs false
set_option maxRecDepth 20000 in
set_option maxHeartbeats 8000000 in
theorem drawWorldNew_any (a : Option Addr) (len cap : Nat) (w : World) (hb : Bytes w a len cap) :
    Calls Tryz.prog 4 #[.slice a len cap] w fun e w' => ∃ n : Int, e = .returned (.int .i64 n) ∧ (-1 ≤ n ∧ n ≤ 2561) ∧ Below w.heap.size w w' := by
  have hset := cset_map
  go_enter Tryz.func4, Tryz.ntmps4
  go_wp2_with (first
    | (have _ := hr1; go_at_call 11; refine (one_s (-1) 2561 w.heap.size 0 _ _ _ _ _ (by exact RS.of hr1) (by omega) (by repeat (first | exact AllBd.nil | refine AllBd.cons (by omega) (by omega) ?_)) (by rfl) (by omega) (by omega)).mono ?_; rintro e w2 ⟨v2, rfl, va2, vb2, hr2⟩)
    | (go_at_call 10; refine (l1Open_rb _ _ _ _ hb).mono ?_; rintro e w1 ⟨rfl, hr1, hbel⟩))
  go_ret
  exact ⟨_, rfl, ⟨va2, vb2⟩, RB.done hbel (RB.mk ((RB.but hr1).trans (RB.but hr2)) (RS.of hr2))⟩
set_option maxRecDepth 20000 in
set_option maxHeartbeats 8000000 in
theorem fnWorldNew_walk (ac : Option Addr) (len cap : Nat) (w : World) (hb : Bytes w ac len cap) :
    Calls Tryz.prog 3 #[.slice ac len cap] w fun e w' => e = .returned (.bool true) ∧ Below w.heap.size w w' := by
  have hset := cset_map
  by_cases hlen : 1048576 < len
  · have hl : (1048576 : Int) < (len : Int) := by omega
    go_enter Tryz.func3, Tryz.ntmps3
    go_wp2_with fail
    go_ret
    exact ⟨rfl, Below.refl _ _⟩
  have hl : ¬ (1048576 : Int) < (len : Int) := by omega
  go_enter Tryz.func3, Tryz.ntmps3
  go_upto_region 3 with fail
  go_cut [3] (fun s3 wc => ∃ n : Int, s3 = .int .i64 n ∧ (-1 ≤ n ∧ n ≤ 2561) ∧ Below w.heap.size w wc)
  case first =>
    go_wp2_with (go_at_call 4; refine (drawWorldNew_any _ _ _ _ hb).mono ?_; rintro e w1 ⟨n, rfl, hn, hb1⟩)
    go_meet
    exact ⟨n, rfl, hn, hb1⟩
  case rest =>
  obtain ⟨n, rfl, ⟨hn0, hn1⟩, bel⟩ := hcut
  obtain ⟨m, hm⟩ : ∃ m, pl n = m := ⟨_, rfl⟩
  have hmP : 0 ≤ m ∧ m ≤ 2560 := by rw [← hm]; unfold pl; split <;> omega
  have hmn : (0 ≤ n ∧ n ≤ 2560) → m = n := fun h => by rw [← hm]; unfold pl; rw [if_pos h]
  have hok : worldB 0 m 0 (fun _ => 0) 0 (fun _ => 0) = true := by unfold worldB; rw [decide_eq_true hmP]; rfl
  have hF : ∀ W, Flat W none (0 * 12) (fun _ => 0) := fun W h => by omega
  have hF2 : ∀ W, Flat W none (0 * 2) (fun _ => 0) := fun W h => by omega
  go_upto_region 4 with fail
  go_cut [4] (fun s4 wc => ∃ b4 : Nat, s4 = .pointer (some ⟨b4, 0, none⟩) ∧ Wb wc b4 (.int .i64 0) (.int .i64 m) (.slice none 0 0) (.slice none 0 0) ∧ Below w.heap.size w wc)
  case first =>
    go_wp2_with (go_at_call 5; refine (worldNew_any n m _ hm).mono ?_; rintro e w1 ⟨rfl, hb1⟩)
    go_meet
    have hE : Below w1.heap.size w1 (w1.alloc (.cells #[.int .i64 0, .int .i64 m, .slice none 0 0, .slice none 0 0] 27)) := (Below.refl _ _).alloc (Nat.le_refl _) _
    exact ⟨_, rfl, Wb.new _ _ _ _ _, (bel.trans (hb1.mono bel.size)).trans (hE.mono (Nat.le_trans bel.size hb1.size))⟩
  case rest =>
  clear bel
  obtain ⟨b4, rfl, hX, bel⟩ := hcut
  have x0 := hX.vb.c0
  have x1 := hX.vb.c1
  have x2 := hX.vb.c2
  have x3 := hX.vb.c3
  go_upto_region 5 with fail
  go_cut [5, 6] (fun s5 s6 wc => ∃ b5 : Nat, s5 = .pointer (some ⟨b5, 0, none⟩) ∧ s6 = .slice none 0 0 ∧ Wb wc b5 (.int .i64 1) (.int .i64 m) (.slice none 0 0) (.slice none 0 0) ∧ Wb wc b4 (.int .i64 0) (.int .i64 m) (.slice none 0 0) (.slice none 0 0) ∧ Below w.heap.size w wc)
  case first =>
    go_wp2_with (go_at_call 6; refine (worldStep0 m _ hmP).mono ?_; rintro e w1 ⟨rfl, hb1⟩)
    go_meet
    have hE : Below w1.heap.size w1 (w1.alloc (.cells #[.int .i64 1, .int .i64 m, .slice none 0 0, .slice none 0 0] 27)) := (Below.refl _ _).alloc (Nat.le_refl _) _
    exact ⟨_, rfl, rfl, Wb.new _ _ _ _ _, (hX.on hb1).on hE, (bel.trans (hb1.mono bel.size)).trans (hE.mono (Nat.le_trans bel.size hb1.size))⟩
  case rest =>
  clear bel hX x0 x1 x2 x3
  obtain ⟨b5, rfl, rfl, hY, hX, bel⟩ := hcut
  have x0 := hX.vb.c0
  have x1 := hX.vb.c1
  have x2 := hX.vb.c2
  have x3 := hX.vb.c3
  have y0 := hY.vb.c0
  have y1 := hY.vb.c1
  have y2 := hY.vb.c2
  have y3 := hY.vb.c3
  go_upto_region 6 with fail
  rcases (show n < 0 ∨ 2560 < n ∨ (0 ≤ n ∧ n ≤ 2560) by omega) with h | h | h
  · clear hmn
    refine wp_region_held_drew (S := fun w' => w'.cell? ⟨b4, 0, none⟩ = some (.int .i64 0) ∧ w'.cell? ⟨b4, 1, none⟩ = some (.int .i64 m) ∧ w'.cell? ⟨b4, 2, none⟩ = some (.slice none 0 0) ∧ w'.cell? ⟨b4, 3, none⟩ = some (.slice none 0 0) ∧ w'.cell? ⟨b5, 0, none⟩ = some (.int .i64 1) ∧ w'.cell? ⟨b5, 1, none⟩ = some (.int .i64 m) ∧ w'.cell? ⟨b5, 2, none⟩ = some (.slice none 0 0) ∧ w'.cell? ⟨b5, 3, none⟩ = some (.slice none 0 0)) (by kernel_rfl) ?_ (fun hHeld => ?_)
    · (try dsimp only)
      (first | (go_simp; done) | (go_keep; done))
    refine tq 0 hHeld ?_
    refine tq 1 hHeld ?_
    refine tc 2 fun K hK => ?_
    (go_simp
     replace bel := bel.drew
     replace hX := hX.on (Below.drew (Below.refl _ _))
     replace hY := hY.on (Below.drew (Below.refl _ _))
     (go_at_call 8; refine (sWorldNew_any n m _ hm).mono ?_; rintro e w6 ⟨rfl, hb⟩)
     clear x0 x1 x2 x3 y0 y1 y2 y3
     replace bel := bel.trans (hb.mono bel.size)
     replace hX := hX.on hb
     replace hY := hY.on hb
     clear hb
     have x0 := hX.vb.c0
     have x1 := hX.vb.c1
     have x2 := hX.vb.c2
     have x3 := hX.vb.c3
     have y0 := hY.vb.c0
     have y1 := hY.vb.c1
     have y2 := hY.vb.c2
     have y3 := hY.vb.c3
     (try go_wp2_with fail)
     refine tr hK (fun hHeld => ?_)
     clear hK K)
    refine tc 3 fun K hK => ?_
    (go_simp
     (go_at_call 7; refine (pqWorld_same 0 m none none 0 0 0 (fun _ => 0) none none 0 0 0 (fun _ => 0) _ (hF _) (hF _) (hF2 _) (hF2 _) (by omega) (by omega)).mono ?_; rintro e w7 ⟨rfl, hb⟩)
     clear x0 x1 x2 x3 y0 y1 y2 y3
     replace bel := bel.trans (hb.mono bel.size)
     replace hX := hX.on hb
     replace hY := hY.on hb
     clear hb
     have x0 := hX.vb.c0
     have x1 := hX.vb.c1
     have x2 := hX.vb.c2
     have x3 := hX.vb.c3
     have y0 := hY.vb.c0
     have y1 := hY.vb.c1
     have y2 := hY.vb.c2
     have y3 := hY.vb.c3
     (try go_wp2_with fail)
     refine tr hK (fun hHeld => ?_)
     clear hK K)
    refine tq 4 hHeld ?_
    refine tq 5 hHeld ?_
    refine tc 6 fun K hK => ?_
    (go_simp
     (go_at_call 9; refine (worldOk_q 0 m none 0 0 (fun _ => 0) none 0 0 (fun _ => 0) _ (hF _) (hF2 _) (by omega) (by omega) true hok).mono ?_; rintro e w8 ⟨rfl, hb⟩)
     clear x0 x1 x2 x3 y0 y1 y2 y3
     replace bel := bel.trans (hb.mono bel.size)
     replace hX := hX.on hb
     replace hY := hY.on hb
     clear hb
     have x0 := hX.vb.c0
     have x1 := hX.vb.c1
     have x2 := hX.vb.c2
     have x3 := hX.vb.c3
     have y0 := hY.vb.c0
     have y1 := hY.vb.c1
     have y2 := hY.vb.c2
     have y3 := hY.vb.c3
     (try go_wp2_with fail)
     refine tr hK (fun hHeld => ?_)
     clear hK K)
    refine tq 7 hHeld ?_
    refine tq 8 hHeld ?_
    refine tq 9 hHeld ?_
    refine tq 10 hHeld ?_
    refine tq 11 hHeld ?_
    refine tq 12 hHeld ?_
    refine tq 13 hHeld ?_
    refine tq 14 hHeld ?_
    refine tq 15 hHeld ?_
    refine tq 16 hHeld ?_
    refine tq 17 hHeld ?_
    refine tq 18 hHeld ?_
    refine tq 19 hHeld ?_
    refine tq 20 hHeld ?_
    refine tq 21 hHeld ?_
    refine tq 22 hHeld ?_
    refine tq 23 hHeld ?_
    refine tq 24 hHeld ?_
    refine tq 25 hHeld ?_
    refine tq 26 hHeld ?_
    refine tq 27 hHeld ?_
    refine tq 28 hHeld ?_
    refine tq 29 hHeld ?_
    refine tq 30 hHeld ?_
    refine tq 31 hHeld ?_
    refine tq 32 hHeld ?_
    refine tq 33 hHeld ?_
    refine tn 34 hHeld ?_
    refine tn 35 hHeld ?_
    refine tq 36 hHeld ?_
    refine tq 37 hHeld ?_
    refine tn 38 hHeld ?_
    refine tn 39 hHeld ?_
    refine tn 40 hHeld ?_
    refine tn 41 hHeld ?_
    refine tq 42 hHeld ?_
    refine tq 43 hHeld ?_
    refine tq 44 hHeld ?_
    refine wpAnyH_done (by kernel_rfl) ?_ _
    go_wp2_with fail
    go_ret
    exact ⟨rfl, bel⟩
  · have h0 : ¬ n < 0 := by omega
    have h0' : 0 ≤ n := by omega
    have hd0 : decide (n < 0) = false := decide_eq_false h0
    clear hmn
    refine wp_region_held_drew (S := fun w' => w'.cell? ⟨b4, 0, none⟩ = some (.int .i64 0) ∧ w'.cell? ⟨b4, 1, none⟩ = some (.int .i64 m) ∧ w'.cell? ⟨b4, 2, none⟩ = some (.slice none 0 0) ∧ w'.cell? ⟨b4, 3, none⟩ = some (.slice none 0 0) ∧ w'.cell? ⟨b5, 0, none⟩ = some (.int .i64 1) ∧ w'.cell? ⟨b5, 1, none⟩ = some (.int .i64 m) ∧ w'.cell? ⟨b5, 2, none⟩ = some (.slice none 0 0) ∧ w'.cell? ⟨b5, 3, none⟩ = some (.slice none 0 0)) (by kernel_rfl) ?_ (fun hHeld => ?_)
    · (try dsimp only)
      (first | (go_simp; done) | (go_keep; done))
    refine tq 0 hHeld ?_
    refine tq 1 hHeld ?_
    refine tc 2 fun K hK => ?_
    (go_simp
     replace bel := bel.drew
     replace hX := hX.on (Below.drew (Below.refl _ _))
     replace hY := hY.on (Below.drew (Below.refl _ _))
     (go_at_call 8; refine (sWorldNew_any n m _ hm).mono ?_; rintro e w6 ⟨rfl, hb⟩)
     clear x0 x1 x2 x3 y0 y1 y2 y3
     replace bel := bel.trans (hb.mono bel.size)
     replace hX := hX.on hb
     replace hY := hY.on hb
     clear hb
     have x0 := hX.vb.c0
     have x1 := hX.vb.c1
     have x2 := hX.vb.c2
     have x3 := hX.vb.c3
     have y0 := hY.vb.c0
     have y1 := hY.vb.c1
     have y2 := hY.vb.c2
     have y3 := hY.vb.c3
     (try go_wp2_with fail)
     refine tr hK (fun hHeld => ?_)
     clear hK K)
    refine tc 3 fun K hK => ?_
    (go_simp
     (go_at_call 7; refine (pqWorld_same 0 m none none 0 0 0 (fun _ => 0) none none 0 0 0 (fun _ => 0) _ (hF _) (hF _) (hF2 _) (hF2 _) (by omega) (by omega)).mono ?_; rintro e w7 ⟨rfl, hb⟩)
     clear x0 x1 x2 x3 y0 y1 y2 y3
     replace bel := bel.trans (hb.mono bel.size)
     replace hX := hX.on hb
     replace hY := hY.on hb
     clear hb
     have x0 := hX.vb.c0
     have x1 := hX.vb.c1
     have x2 := hX.vb.c2
     have x3 := hX.vb.c3
     have y0 := hY.vb.c0
     have y1 := hY.vb.c1
     have y2 := hY.vb.c2
     have y3 := hY.vb.c3
     (try go_wp2_with fail)
     refine tr hK (fun hHeld => ?_)
     clear hK K)
    refine tq 4 hHeld ?_
    refine tq 5 hHeld ?_
    refine tc 6 fun K hK => ?_
    (go_simp
     (go_at_call 9; refine (worldOk_q 0 m none 0 0 (fun _ => 0) none 0 0 (fun _ => 0) _ (hF _) (hF2 _) (by omega) (by omega) true hok).mono ?_; rintro e w8 ⟨rfl, hb⟩)
     clear x0 x1 x2 x3 y0 y1 y2 y3
     replace bel := bel.trans (hb.mono bel.size)
     replace hX := hX.on hb
     replace hY := hY.on hb
     clear hb
     have x0 := hX.vb.c0
     have x1 := hX.vb.c1
     have x2 := hX.vb.c2
     have x3 := hX.vb.c3
     have y0 := hY.vb.c0
     have y1 := hY.vb.c1
     have y2 := hY.vb.c2
     have y3 := hY.vb.c3
     (try go_wp2_with fail)
     refine tr hK (fun hHeld => ?_)
     clear hK K)
    refine tq 7 hHeld ?_
    refine tq 8 hHeld ?_
    refine tq 9 hHeld ?_
    refine tq 10 hHeld ?_
    refine tq 11 hHeld ?_
    refine tq 12 hHeld ?_
    refine tq 13 hHeld ?_
    refine tq 14 hHeld ?_
    refine tq 15 hHeld ?_
    refine tq 16 hHeld ?_
    refine tq 17 hHeld ?_
    refine tq 18 hHeld ?_
    refine tq 19 hHeld ?_
    refine tq 20 hHeld ?_
    refine tq 21 hHeld ?_
    refine tq 22 hHeld ?_
    refine tq 23 hHeld ?_
    refine tq 24 hHeld ?_
    refine tq 25 hHeld ?_
    refine tq 26 hHeld ?_
    refine tq 27 hHeld ?_
    refine tq 28 hHeld ?_
    refine tq 29 hHeld ?_
    refine tq 30 hHeld ?_
    refine tq 31 hHeld ?_
    refine tq 32 hHeld ?_
    refine tq 33 hHeld ?_
    refine tq 34 hHeld ?_
    refine tq 35 hHeld ?_
    refine tq 36 hHeld ?_
    refine tq 37 hHeld ?_
    refine tn 38 hHeld ?_
    refine tn 39 hHeld ?_
    refine tn 40 hHeld ?_
    refine tn 41 hHeld ?_
    refine tq 42 hHeld ?_
    refine tq 43 hHeld ?_
    refine tq 44 hHeld ?_
    refine wpAnyH_done (by kernel_rfl) ?_ _
    go_wp2_with fail
    go_ret
    exact ⟨rfl, bel⟩
  · have h0 : ¬ n < 0 := by omega
    have h1 : ¬ 2560 < n := by omega
    obtain rfl : m = n := hmn h
    have hee : (m == m) = true := by simp
    have h0' : 0 ≤ m := h.1
    have h1' : m ≤ 2560 := h.2
    have hd0 : decide (m < 0) = false := decide_eq_false h0
    have hd1 : decide (2560 < m) = false := decide_eq_false h1
    clear hmn h
    refine wp_region_held_drew (S := fun w' => w'.cell? ⟨b4, 0, none⟩ = some (.int .i64 0) ∧ w'.cell? ⟨b4, 1, none⟩ = some (.int .i64 m) ∧ w'.cell? ⟨b4, 2, none⟩ = some (.slice none 0 0) ∧ w'.cell? ⟨b4, 3, none⟩ = some (.slice none 0 0) ∧ w'.cell? ⟨b5, 0, none⟩ = some (.int .i64 1) ∧ w'.cell? ⟨b5, 1, none⟩ = some (.int .i64 m) ∧ w'.cell? ⟨b5, 2, none⟩ = some (.slice none 0 0) ∧ w'.cell? ⟨b5, 3, none⟩ = some (.slice none 0 0)) (by kernel_rfl) ?_ (fun hHeld => ?_)
    · (try dsimp only)
      (first | (go_simp; done) | (go_keep; done))
    refine tq 0 hHeld ?_
    refine tq 1 hHeld ?_
    refine tc 2 fun K hK => ?_
    (go_simp
     replace bel := bel.drew
     replace hX := hX.on (Below.drew (Below.refl _ _))
     replace hY := hY.on (Below.drew (Below.refl _ _))
     (go_at_call 8; refine (sWorldNew_any m m _ hm).mono ?_; rintro e w6 ⟨rfl, hb⟩)
     clear x0 x1 x2 x3 y0 y1 y2 y3
     replace bel := bel.trans (hb.mono bel.size)
     replace hX := hX.on hb
     replace hY := hY.on hb
     clear hb
     have x0 := hX.vb.c0
     have x1 := hX.vb.c1
     have x2 := hX.vb.c2
     have x3 := hX.vb.c3
     have y0 := hY.vb.c0
     have y1 := hY.vb.c1
     have y2 := hY.vb.c2
     have y3 := hY.vb.c3
     (try go_wp2_with fail)
     refine tr hK (fun hHeld => ?_)
     clear hK K)
    refine tc 3 fun K hK => ?_
    (go_simp
     (go_at_call 7; refine (pqWorld_same 0 m none none 0 0 0 (fun _ => 0) none none 0 0 0 (fun _ => 0) _ (hF _) (hF _) (hF2 _) (hF2 _) (by omega) (by omega)).mono ?_; rintro e w7 ⟨rfl, hb⟩)
     clear x0 x1 x2 x3 y0 y1 y2 y3
     replace bel := bel.trans (hb.mono bel.size)
     replace hX := hX.on hb
     replace hY := hY.on hb
     clear hb
     have x0 := hX.vb.c0
     have x1 := hX.vb.c1
     have x2 := hX.vb.c2
     have x3 := hX.vb.c3
     have y0 := hY.vb.c0
     have y1 := hY.vb.c1
     have y2 := hY.vb.c2
     have y3 := hY.vb.c3
     (try go_wp2_with fail)
     refine tr hK (fun hHeld => ?_)
     clear hK K)
    refine tq 4 hHeld ?_
    refine tq 5 hHeld ?_
    refine tc 6 fun K hK => ?_
    (go_simp
     (go_at_call 9; refine (worldOk_q 0 m none 0 0 (fun _ => 0) none 0 0 (fun _ => 0) _ (hF _) (hF2 _) (by omega) (by omega) true hok).mono ?_; rintro e w8 ⟨rfl, hb⟩)
     clear x0 x1 x2 x3 y0 y1 y2 y3
     replace bel := bel.trans (hb.mono bel.size)
     replace hX := hX.on hb
     replace hY := hY.on hb
     clear hb
     have x0 := hX.vb.c0
     have x1 := hX.vb.c1
     have x2 := hX.vb.c2
     have x3 := hX.vb.c3
     have y0 := hY.vb.c0
     have y1 := hY.vb.c1
     have y2 := hY.vb.c2
     have y3 := hY.vb.c3
     (try go_wp2_with fail)
     refine tr hK (fun hHeld => ?_)
     clear hK K)
    refine tq 7 hHeld ?_
    refine tq 8 hHeld ?_
    refine tq 9 hHeld ?_
    refine tq 10 hHeld ?_
    refine tq 11 hHeld ?_
    refine tq 12 hHeld ?_
    refine tq 13 hHeld ?_
    refine tq 14 hHeld ?_
    refine tq 15 hHeld ?_
    refine tq 16 hHeld ?_
    refine tq 17 hHeld ?_
    refine tq 18 hHeld ?_
    refine tq 19 hHeld ?_
    refine tq 20 hHeld ?_
    refine tq 21 hHeld ?_
    refine tq 22 hHeld ?_
    refine tq 23 hHeld ?_
    refine tq 24 hHeld ?_
    refine tq 25 hHeld ?_
    refine tq 26 hHeld ?_
    refine tq 27 hHeld ?_
    refine tq 28 hHeld ?_
    refine tq 29 hHeld ?_
    refine tq 30 hHeld ?_
    refine tq 31 hHeld ?_
    refine tq 32 hHeld ?_
    refine tq 33 hHeld ?_
    refine tq 34 hHeld ?_
    refine tq 35 hHeld ?_
    refine tq 36 hHeld ?_
    refine tq 37 hHeld ?_
    refine tq 38 hHeld ?_
    refine tq 39 hHeld ?_
    refine tq 40 hHeld ?_
    refine tq 41 hHeld ?_
    refine tq 42 hHeld ?_
    refine tq 43 hHeld ?_
    refine tq 44 hHeld ?_
    refine wpAnyH_done (by kernel_rfl) ?_ _
    go_wp2_with fail
    go_ret
    exact ⟨rfl, bel⟩
end Go.Proofs.YtpajkdlgkchhkaaGreatDoor
namespace Go.Proofs.YtpajkdlgkchhkaaGreatDoor
theorem head_cut {l : List (List Char)} {c : List Char} (h : (l.head? == some c) = true) : ∃ rest, l = c :: rest := by
  cases l with
  | nil => simp at h
  | cons a r => simp at h; exact ⟨r, by rw [h]⟩
theorem strip_cut (rest : List (List Char)) : stripLifts liftWords ("cut".toList :: rest) = ([], "cut".toList :: rest) := by kernel_rfl
theorem make_of {P : Program} {l : List Char} (h0 : P.initOrder.toList = l) (h1 : ((behindMainWord (wordsSigns l)).head? == some "cut".toList) = true) : P.make = some .cut := by
  obtain ⟨rest, hr⟩ := head_cut h1
  unfold Program.make
  rw [h0, hr]
  rfl
theorem headLifts_of {P : Program} {l : List Char} (h0 : P.initOrder.toList = l) (h1 : ((behindMainWord (wordsSigns l)).head? == some "cut".toList) = true) : P.headLifts = [] := by
  obtain ⟨rest, hr⟩ := head_cut h1
  unfold Program.headLifts
  rw [h0, hr, strip_cut]
  rfl
theorem liftsFinal_of {P : Program} {l : List Char} (h0 : P.initOrder.toList = l) (h1 : ((behindMainWord (wordsSigns l)).head? == some "cut".toList) = true) : P.liftsFinal = false := by
  have hh := headLifts_of h0 h1
  obtain ⟨rest, hr⟩ := head_cut h1
  unfold Program.liftsFinal
  rw [h0, hr, hh]
  rfl
theorem mayEnter_of {P : Program} {l : List Char} (h0 : P.initOrder.toList = l) (h1 : ((behindMainWord (wordsSigns l)).head? == some "cut".toList) = true) (h2 : P.laysLater = false) (h3 : P.bearsReflect = false) (h4 : P.doorFits [] = true) : P.mayEnter = true := by
  obtain ⟨rest, hr⟩ := head_cut h1
  unfold Program.mayEnter
  rw [h0, hr]
  simp only [strip_cut, h2, h3, h4]
  simp
end Go.Proofs.YtpajkdlgkchhkaaGreatDoor
namespace Go.Proofs.YtpajkdlgkchhkaaGreatDoor
set_option maxRecDepth 100000
def ordL : { l : List Char // Tryz.prog.initOrder = String.ofList l } := ⟨_, rfl⟩
theorem ordT : Tryz.prog.initOrder.toList = ordL.1 := (congrArg String.toList ordL.2).trans String.toList_ofList
theorem headE : ((behindMainWord (wordsSigns ordL.1)).head? == some "cut".toList) = true := by kernel_rfl
theorem makeT : Tryz.prog.make = some .cut := make_of ordT headE
theorem liftsFinalT : Tryz.prog.liftsFinal = false := liftsFinal_of ordT headE
theorem laysLaterT : Tryz.prog.laysLater = false := by kernel_rfl
theorem bearsReflectT : Tryz.prog.bearsReflect = false := by kernel_rfl
theorem doorFitsT : Tryz.prog.doorFits [] = true := by kernel_rfl
theorem mayEnterT : Tryz.prog.mayEnter = true := mayEnter_of ordT headE laysLaterT bearsReflectT doorFitsT
theorem ownT : ownKnob Tryz.prog.godebug = none := by kernel_rfl
theorem laidOutT : laidOutB Tryz.prog = true := by kernel_rfl
theorem mapsRowedT : mapsRowed Tryz.prog = true := by kernel_rfl
theorem stopsHeardT : Tryz.prog.stopsHeard = true := by kernel_rfl
theorem plainKeysT : Tryz.prog.plainKeys = true := by kernel_rfl
end Go.Proofs.YtpajkdlgkchhkaaGreatDoor
