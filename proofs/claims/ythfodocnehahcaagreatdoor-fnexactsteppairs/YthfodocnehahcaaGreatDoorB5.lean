/- Whether bodies are ok: both sides. BodiesOk, by the program. The contracts of VecMul, VecDot and VecLen. The contract of VecUnit. The contract of VecAdd. The contract of VecSub. The walks of the exact laws of chapter 2. A body that came in, turned into the program's own. Lists of bodies: turned into the program's own, held against each other, how great. Lists put together in new memory: slices.Concat. Lists in memory of their own, beside others; marks. Lists of bodies, row by row: copies, one row replaced; speeds and sleep by the specification. Lists of bodies changed row by row: plain mathematics. Whether all is still: both sides, and the exact law. What may not be is 0. The contracts of the specification's BoxBoth and BoxNear. The contract of the specification's BoxNear. -/
import Derived.Test.YthfodocnehahcaaGreatDoorB4
import Derived.Deep.RegionHeld3
import Derived.Deep.DeepCutAuto
import Derived.Test.YthfodocnehahcaaGreatDoorB1
import Derived.Deep.QuietTactic
import Derived.BigQuiet
import Derived.Deep.RegionWith
import Derived.Test.YthfodocnehahcaaGreatDoorB2
import Derived.Lib.AppendZeros
namespace Go.Proofs.YthfodocnehahcaaGreatDoor
open Go.RowKit
set_option linter.unusedVariables false
set_option linter.unusedSimpArgs false

set_option maxRecDepth 20000 in
set_option maxHeartbeats 4000000 in
theorem sBodiesOk_any (a : Option Addr) (n c : Nat) (U : Nat → Int) (w : World) (h : Flat w a (n * 12) U) (hn : n ≤ 1048576) :
    Calls Tryz.prog 13 #[.slice a n c] w fun e w' => e = .returned (.bool (bodsB n U)) ∧ Below w.heap.size w w' := by
  have hset := cset_map
  go_enter Tryz.func13, Tryz.ntmps13
  go_wp2
  go_loopw [3] (fun i wr => ∃ k : Nat, k ≤ n ∧ i = .int .i64 (k : Int) ∧ Below w.heap.size w wr ∧ allBB U k = true) (fun i _ => n - (intOf i).toNat)
  case atStart => exact ⟨0, Nat.zero_le _, rfl, Below.refl _ _, rfl⟩
  case round =>
      obtain ⟨k, hk, rfl, hB, hall0⟩ := hrel
      have hall : Shut (allBB U k = true) := hall0
      clear hall0
      by_cases hlt : k < n
      · have hkn : (k : Int) < (n : Int) := by omega
        obtain ⟨b, o, rfl, hbl, hc⟩ := (h.below hB) (by omega)
        have c0 := hc (k * 12) (by omega)
        have c1 := hc (k * 12 + 1) (by omega)
        have c2 := hc (k * 12 + 2) (by omega)
        have c3 := hc (k * 12 + 3) (by omega)
        have c4 := hc (k * 12 + 4) (by omega)
        have c5 := hc (k * 12 + 5) (by omega)
        have c6 := hc (k * 12 + 6) (by omega)
        have c7 := hc (k * 12 + 7) (by omega)
        have c8 := hc (k * 12 + 8) (by omega)
        have c9 := hc (k * 12 + 9) (by omega)
        have c10 := hc (k * 12 + 10) (by omega)
        have c11 := hc (k * 12 + 11) (by omega)
        simp only [← Nat.add_assoc] at c0 c1 c2 c3 c4 c5 c6 c7 c8 c9 c10 c11
        go_upto_region 4 with fail
        cases hi : bodyB (fun j => U (k * 12 + j)) with
        | false =>
          have hno : Shut (stepBB U k = false) := by show stepBB U k = false; rw [stepBB, hi]; rfl
          clear hc
          refine wp_region_held_drew (S := fun w' => w'.cell? ⟨b, o + k * 12, none⟩ = some (.int .i64 (U (k * 12))) ∧ w'.cell? ⟨b, o + k * 12 + 1, none⟩ = some (.int .i64 (U (k * 12 + 1))) ∧ w'.cell? ⟨b, o + k * 12 + 2, none⟩ = some (.int .i64 (U (k * 12 + 2))) ∧ w'.cell? ⟨b, o + k * 12 + 3, none⟩ = some (.int .i64 (U (k * 12 + 3))) ∧ w'.cell? ⟨b, o + k * 12 + 4, none⟩ = some (.int .i64 (U (k * 12 + 4))) ∧ w'.cell? ⟨b, o + k * 12 + 5, none⟩ = some (.int .i64 (U (k * 12 + 5))) ∧ w'.cell? ⟨b, o + k * 12 + 6, none⟩ = some (.int .i64 (U (k * 12 + 6))) ∧ w'.cell? ⟨b, o + k * 12 + 7, none⟩ = some (.int .i64 (U (k * 12 + 7))) ∧ w'.cell? ⟨b, o + k * 12 + 8, none⟩ = some (.int .i64 (U (k * 12 + 8))) ∧ w'.cell? ⟨b, o + k * 12 + 9, none⟩ = some (.int .i64 (U (k * 12 + 9))) ∧ w'.cell? ⟨b, o + k * 12 + 10, none⟩ = some (.int .i64 (U (k * 12 + 10))) ∧ w'.cell? ⟨b, o + k * 12 + 11, none⟩ = some (.int .i64 (U (k * 12 + 11)))) (by kernel_rfl) ?_ (fun hHeld => ?_)
          · (try dsimp only)
            (first | (go_simp; done) | (go_keep; done))
          refine tq 0 hHeld ?_
          refine tq 1 hHeld ?_
          refine tq 2 hHeld ?_
          refine tq 3 hHeld ?_
          (refine tc 4 fun K hK => ?_; go_simp; (go_at_call 21; refine (sBodyOk_q (fun j => U (k * 12 + j)) _ _ (by exact hi)).mono ?_; rintro e w2 ⟨rfl, hb2⟩; obtain ⟨hc2, hf2⟩ := bcell hb2; have hz2 := hb2.size; (try simp only [World.size_drew, World.size_alloc, World.size_setCell] at hc2 hf2 hz2); have hk3 := fun o => hc2 b o (by omega); clear hc2 hf2); (try go_wp2_with fail); refine tr hK (fun hHeld => ?_); clear hK K)
          refine tq 5 hHeld ?_
          refine tq 6 hHeld ?_
          refine tn 7 hHeld ?_
          refine tn 8 hHeld ?_
          refine tn 9 hHeld ?_
          refine tn 10 hHeld ?_
          refine tn 11 hHeld ?_
          refine tn 12 hHeld ?_
          refine tn 13 hHeld ?_
          refine tn 14 hHeld ?_
          refine tn 15 hHeld ?_
          refine tn 16 hHeld ?_
          refine tn 17 hHeld ?_
          refine tn 18 hHeld ?_
          refine tn 19 hHeld ?_
          refine tn 20 hHeld ?_
          refine tn 21 hHeld ?_
          refine tn 22 hHeld ?_
          refine tq 23 hHeld ?_
          refine wpAnyH_done (by kernel_rfl) ?_ _
          go_wp2_with fail
          go_ret
          exact ⟨by rw [bodsB, allBB_no hno.out n hlt, Bool.and_false]; rfl, hB.trans (hb2.ofDr.mono hB.size)⟩
        | true =>
          by_cases hk0 : 0 < k
          · have hd0 : decide (0 < k) = true := decide_eq_true hk0
            obtain ⟨j, hj⟩ : ∃ j, j + 1 = k := ⟨k - 1, by omega⟩
            have hj' : (k : Int) - 1 = (j : Int) := by omega
            have hjn : j < n := by omega
            have hwj : IntKind.i64.wrap (j : Int) = (j : Int) := i64w (by omega)
            have HJ : Shut (j + 1 = k) := hj
            clear hj
            have p0 := hc (j * 12) (by omega)
            clear hc
            by_cases hge : U (j * 12) < U (k * 12)
            · have hdg : decide (U (k * 12) ≤ U (j * 12)) = false := decide_eq_false (by omega)
              have hyes : Shut (stepBB U k = true) := by show stepBB U k = true; rw [stepBB, hi, show k - 1 = j from by have := HJ.out; omega]; simp [hge]
              refine wp_region_held_drew (S := fun w' => w'.cell? ⟨b, o + k * 12, none⟩ = some (.int .i64 (U (k * 12))) ∧ w'.cell? ⟨b, o + k * 12 + 1, none⟩ = some (.int .i64 (U (k * 12 + 1))) ∧ w'.cell? ⟨b, o + k * 12 + 2, none⟩ = some (.int .i64 (U (k * 12 + 2))) ∧ w'.cell? ⟨b, o + k * 12 + 3, none⟩ = some (.int .i64 (U (k * 12 + 3))) ∧ w'.cell? ⟨b, o + k * 12 + 4, none⟩ = some (.int .i64 (U (k * 12 + 4))) ∧ w'.cell? ⟨b, o + k * 12 + 5, none⟩ = some (.int .i64 (U (k * 12 + 5))) ∧ w'.cell? ⟨b, o + k * 12 + 6, none⟩ = some (.int .i64 (U (k * 12 + 6))) ∧ w'.cell? ⟨b, o + k * 12 + 7, none⟩ = some (.int .i64 (U (k * 12 + 7))) ∧ w'.cell? ⟨b, o + k * 12 + 8, none⟩ = some (.int .i64 (U (k * 12 + 8))) ∧ w'.cell? ⟨b, o + k * 12 + 9, none⟩ = some (.int .i64 (U (k * 12 + 9))) ∧ w'.cell? ⟨b, o + k * 12 + 10, none⟩ = some (.int .i64 (U (k * 12 + 10))) ∧ w'.cell? ⟨b, o + k * 12 + 11, none⟩ = some (.int .i64 (U (k * 12 + 11))) ∧ w'.cell? ⟨b, o + j * 12, none⟩ = some (.int .i64 (U (j * 12)))) (by kernel_rfl) ?_ (fun hHeld => ?_)
              · (try dsimp only)
                (first | (go_simp; done) | (go_keep; done))
              refine tq 0 hHeld ?_
              refine tq 1 hHeld ?_
              refine tq 2 hHeld ?_
              refine tq 3 hHeld ?_
              (refine tc 4 fun K hK => ?_; go_simp; (go_at_call 21; refine (sBodyOk_q (fun j => U (k * 12 + j)) _ _ (by exact hi)).mono ?_; rintro e w2 ⟨rfl, hb2⟩; obtain ⟨hc2, hf2⟩ := bcell hb2; have hz2 := hb2.size; (try simp only [World.size_drew, World.size_alloc, World.size_setCell] at hc2 hf2 hz2); have hk3 := fun o => hc2 b o (by omega); clear hc2 hf2); (try go_wp2_with fail); refine tr hK (fun hHeld => ?_); clear hK K)
              refine tq 5 hHeld ?_
              refine tq 6 hHeld ?_
              refine tq 7 hHeld ?_
              refine tq 8 hHeld ?_
              refine tq 9 hHeld ?_
              refine tq 10 hHeld ?_
              refine tq 11 hHeld ?_
              refine tq 12 hHeld ?_
              refine tq 13 hHeld ?_
              refine tq 14 hHeld ?_
              refine tq 15 hHeld ?_
              refine tq 16 hHeld ?_
              refine tq 17 hHeld ?_
              refine tq 18 hHeld ?_
              refine tq 19 hHeld ?_
              refine tq 20 hHeld ?_
              refine tq 21 hHeld ?_
              refine tq 22 hHeld ?_
              refine tq 23 hHeld ?_
              refine wpAnyH_done (by kernel_rfl) ?_ _
              go_wp2_with fail
              go_roundw
              case rel => exact ⟨k + 1, by omega, by go_num, hB.trans (hb2.ofDr.mono hB.size), by rw [allBB, hall.out, hyes.out]; rfl⟩
              case measure => simp [intOf]; omega
            · have hdg : decide (U (k * 12) ≤ U (j * 12)) = true := decide_eq_true (by omega)
              have hno : Shut (stepBB U k = false) := by show stepBB U k = false; rw [stepBB, show k - 1 = j from by have := HJ.out; omega]; have := HJ.out; simp [hge]; omega
              refine wp_region_held_drew (S := fun w' => w'.cell? ⟨b, o + k * 12, none⟩ = some (.int .i64 (U (k * 12))) ∧ w'.cell? ⟨b, o + k * 12 + 1, none⟩ = some (.int .i64 (U (k * 12 + 1))) ∧ w'.cell? ⟨b, o + k * 12 + 2, none⟩ = some (.int .i64 (U (k * 12 + 2))) ∧ w'.cell? ⟨b, o + k * 12 + 3, none⟩ = some (.int .i64 (U (k * 12 + 3))) ∧ w'.cell? ⟨b, o + k * 12 + 4, none⟩ = some (.int .i64 (U (k * 12 + 4))) ∧ w'.cell? ⟨b, o + k * 12 + 5, none⟩ = some (.int .i64 (U (k * 12 + 5))) ∧ w'.cell? ⟨b, o + k * 12 + 6, none⟩ = some (.int .i64 (U (k * 12 + 6))) ∧ w'.cell? ⟨b, o + k * 12 + 7, none⟩ = some (.int .i64 (U (k * 12 + 7))) ∧ w'.cell? ⟨b, o + k * 12 + 8, none⟩ = some (.int .i64 (U (k * 12 + 8))) ∧ w'.cell? ⟨b, o + k * 12 + 9, none⟩ = some (.int .i64 (U (k * 12 + 9))) ∧ w'.cell? ⟨b, o + k * 12 + 10, none⟩ = some (.int .i64 (U (k * 12 + 10))) ∧ w'.cell? ⟨b, o + k * 12 + 11, none⟩ = some (.int .i64 (U (k * 12 + 11))) ∧ w'.cell? ⟨b, o + j * 12, none⟩ = some (.int .i64 (U (j * 12)))) (by kernel_rfl) ?_ (fun hHeld => ?_)
              · (try dsimp only)
                (first | (go_simp; done) | (go_keep; done))
              refine tq 0 hHeld ?_
              refine tq 1 hHeld ?_
              refine tq 2 hHeld ?_
              refine tq 3 hHeld ?_
              (refine tc 4 fun K hK => ?_; go_simp; (go_at_call 21; refine (sBodyOk_q (fun j => U (k * 12 + j)) _ _ (by exact hi)).mono ?_; rintro e w2 ⟨rfl, hb2⟩; obtain ⟨hc2, hf2⟩ := bcell hb2; have hz2 := hb2.size; (try simp only [World.size_drew, World.size_alloc, World.size_setCell] at hc2 hf2 hz2); have hk3 := fun o => hc2 b o (by omega); clear hc2 hf2); (try go_wp2_with fail); refine tr hK (fun hHeld => ?_); clear hK K)
              refine tq 5 hHeld ?_
              refine tq 6 hHeld ?_
              refine tq 7 hHeld ?_
              refine tq 8 hHeld ?_
              refine tq 9 hHeld ?_
              refine tq 10 hHeld ?_
              refine tq 11 hHeld ?_
              refine tq 12 hHeld ?_
              refine tq 13 hHeld ?_
              refine tq 14 hHeld ?_
              refine tq 15 hHeld ?_
              refine tq 16 hHeld ?_
              refine tq 17 hHeld ?_
              refine tq 18 hHeld ?_
              refine tq 19 hHeld ?_
              refine tq 20 hHeld ?_
              refine tq 21 hHeld ?_
              refine tq 22 hHeld ?_
              refine tq 23 hHeld ?_
              refine wpAnyH_done (by kernel_rfl) ?_ _
              go_wp2_with fail
              go_ret
              exact ⟨by rw [bodsB, allBB_no hno.out n hlt, Bool.and_false]; rfl, hB.trans (hb2.ofDr.mono hB.size)⟩
          · have hd0 : decide (0 < k) = false := decide_eq_false hk0
            have HK : Shut (k = 0) := (by omega : k = 0)
            clear hk0 hc
            have hyes : Shut (stepBB U k = true) := by show stepBB U k = true; rw [stepBB, hi, HK.out]; rfl
            refine wp_region_held_drew (S := fun w' => w'.cell? ⟨b, o + k * 12, none⟩ = some (.int .i64 (U (k * 12))) ∧ w'.cell? ⟨b, o + k * 12 + 1, none⟩ = some (.int .i64 (U (k * 12 + 1))) ∧ w'.cell? ⟨b, o + k * 12 + 2, none⟩ = some (.int .i64 (U (k * 12 + 2))) ∧ w'.cell? ⟨b, o + k * 12 + 3, none⟩ = some (.int .i64 (U (k * 12 + 3))) ∧ w'.cell? ⟨b, o + k * 12 + 4, none⟩ = some (.int .i64 (U (k * 12 + 4))) ∧ w'.cell? ⟨b, o + k * 12 + 5, none⟩ = some (.int .i64 (U (k * 12 + 5))) ∧ w'.cell? ⟨b, o + k * 12 + 6, none⟩ = some (.int .i64 (U (k * 12 + 6))) ∧ w'.cell? ⟨b, o + k * 12 + 7, none⟩ = some (.int .i64 (U (k * 12 + 7))) ∧ w'.cell? ⟨b, o + k * 12 + 8, none⟩ = some (.int .i64 (U (k * 12 + 8))) ∧ w'.cell? ⟨b, o + k * 12 + 9, none⟩ = some (.int .i64 (U (k * 12 + 9))) ∧ w'.cell? ⟨b, o + k * 12 + 10, none⟩ = some (.int .i64 (U (k * 12 + 10))) ∧ w'.cell? ⟨b, o + k * 12 + 11, none⟩ = some (.int .i64 (U (k * 12 + 11)))) (by kernel_rfl) ?_ (fun hHeld => ?_)
            · (try dsimp only)
              (first | (go_simp; done) | (go_keep; done))
            refine tq 0 hHeld ?_
            refine tq 1 hHeld ?_
            refine tq 2 hHeld ?_
            refine tq 3 hHeld ?_
            (refine tc 4 fun K hK => ?_; go_simp; (go_at_call 21; refine (sBodyOk_q (fun j => U (k * 12 + j)) _ _ (by exact hi)).mono ?_; rintro e w2 ⟨rfl, hb2⟩; obtain ⟨hc2, hf2⟩ := bcell hb2; have hz2 := hb2.size; (try simp only [World.size_drew, World.size_alloc, World.size_setCell] at hc2 hf2 hz2); have hk3 := fun o => hc2 b o (by omega); clear hc2 hf2); (try go_wp2_with fail); refine tr hK (fun hHeld => ?_); clear hK K)
            refine tq 5 hHeld ?_
            refine tq 6 hHeld ?_
            refine tq 7 hHeld ?_
            refine tq 8 hHeld ?_
            refine tq 9 hHeld ?_
            refine tn 10 hHeld ?_
            refine tn 11 hHeld ?_
            refine tn 12 hHeld ?_
            refine tn 13 hHeld ?_
            refine tn 14 hHeld ?_
            refine tn 15 hHeld ?_
            refine tn 16 hHeld ?_
            refine tn 17 hHeld ?_
            refine tn 18 hHeld ?_
            refine tn 19 hHeld ?_
            refine tn 20 hHeld ?_
            refine tn 21 hHeld ?_
            refine tq 22 hHeld ?_
            refine tq 23 hHeld ?_
            refine wpAnyH_done (by kernel_rfl) ?_ _
            go_wp2_with fail
            go_roundw
            case rel => exact ⟨k + 1, by omega, by go_num, hB.trans (hb2.ofDr.mono hB.size), by rw [allBB, hall.out, hyes.out]; rfl⟩
            case measure => simp [intOf]; omega
      · obtain rfl : k = n := by omega
        by_cases h12 : k ≤ 12
        · have h12' : (k : Int) ≤ 12 := by omega
          go_wp2
          go_ret
          exact ⟨by rw [bodsB, hall.out, decide_eq_true h12]; rfl, hB⟩
        · have h12' : ¬ (k : Int) ≤ 12 := by omega
          go_wp2
          go_ret
          exact ⟨by rw [bodsB, decide_eq_false h12]; rfl, hB⟩
theorem sBodiesOk_q (a : Option Addr) (n c : Nat) (U : Nat → Int) (b : Bool) (w : World) (h : Flat w a (n * 12) U) (hn : n ≤ 1048576) (e : bodsB n U = b) :
    Calls Tryz.prog 13 #[.slice a n c] w fun e w' => e = .returned (.bool b) ∧ Below w.heap.size w w' := by subst e; exact sBodiesOk_any a n c U w h hn
theorem columnsOf_ok (a : Option Addr) (n c : Nat) (U : Nat → Int) (w : World) (h : Flat w a (n * 12) U) (hn : n ≤ 1048576) (e : bodsB n U = true) :
    Calls Tryz.prog 25 #[.slice a n c] w fun e w' => ∃ cb S, e = .returned (.tuple #[.pointer (some ⟨cb, 0, none⟩), .bool true]) ∧ w.heap.size ≤ cb ∧ Cs w' cb n (colOf U) S ∧ Below w.heap.size w w' :=
  (columnsOf_any a n c U w h hn).mono fun e' w' q => by
    obtain ⟨q1, (⟨_, cb, S, q2, q3, q4⟩ | ⟨q2, _⟩)⟩ := q
    · exact ⟨cb, S, q2, q3, q4, q1⟩
    · rw [e] at q2; cases q2
theorem columnsOf_no (a : Option Addr) (n c : Nat) (U : Nat → Int) (w : World) (h : Flat w a (n * 12) U) (hn : n ≤ 1048576) (e : bodsB n U = false) :
    Calls Tryz.prog 25 #[.slice a n c] w fun e w' => e = .returned (.tuple #[.pointer none, .bool false]) ∧ Below w.heap.size w w' :=
  (columnsOf_any a n c U w h hn).mono fun e' w' q => by
    obtain ⟨q1, (⟨q2, _⟩ | ⟨_, q2⟩)⟩ := q
    · rw [e] at q2; cases q2
    · exact ⟨q2, q1⟩
end Go.Proofs.YthfodocnehahcaaGreatDoor
namespace Go.Proofs.YthfodocnehahcaaGreatDoor
open Go.RowKit
set_option linter.unusedVariables false
set_option linter.unusedSimpArgs false

end Go.Proofs.YthfodocnehahcaaGreatDoor
namespace Go.Proofs.YthfodocnehahcaaGreatDoor
open Go.RowKit
set_option linter.unusedVariables false
set_option linter.unusedSimpArgs false

set_option maxHeartbeats 1000000 in
theorem length_any (x y : Int) (w : World) (hx : -1000000000 ≤ x ∧ x ≤ 1000000000) (hy : -1000000000 ≤ y ∧ y ≤ 1000000000) :
    Calls Tryz.prog 102 #[vv x y] w fun e w' => e = .returned (.int .i64 (vl x y)) ∧ Below w.heap.size w w' := by
  have hs := sq_bd hx hy
  have hset := cset_map
  go_enter Tryz.func102, Tryz.ntmps102
  go_wp2_with (first
    | (go_at_call 100; refine (products_any _ _ _ _ _ (by omega) (by omega) (by omega) (by omega)).mono ?_; rintro e w2 ⟨rfl, hb2⟩; obtain ⟨hc2, hf2⟩ := bcell hb2; have hz2 := hb2.size; (try simp at hz2); have hq2x0a : w.heap.size < w2.heap.size := (by omega))
    | (go_at_call 108; refine (root_any _ _ (by omega)).mono ?_; rintro e w5 ⟨rfl, hb5⟩; obtain ⟨hc5, hf5⟩ := bcell hb5; have hz5 := hb5.size; (try simp at hz5); have hq5x0a : w.heap.size < w5.heap.size := (by omega))
    | (go_at_call 109; refine (held_any _ _ _ (by omega) (by omega)).mono ?_; rintro e w' ⟨rfl, rfl⟩))
  go_ret
  exact ⟨rfl, bel_a⟩

end Go.Proofs.YthfodocnehahcaaGreatDoor
namespace Go.Proofs.YthfodocnehahcaaGreatDoor
open Go.RowKit
set_option linter.unusedVariables false
set_option linter.unusedSimpArgs false

set_option maxHeartbeats 2000000 in
theorem unit_any (x y : Int) (w : World) (hx : -1000000000 ≤ x ∧ x ≤ 1000000000) (hy : -1000000000 ≤ y ∧ y ≤ 1000000000) :
    Calls Tryz.prog 101 #[vv x y] w fun e w' => e = .returned (vv (ux x y) (uy x y)) ∧ Below w.heap.size w w' := by
  have hl := vl_bd x y
  by_cases h0 : vl x y = 0
  · have e1 : ux x y = 0 := if_pos h0
    have e2 : uy x y = 256 := if_pos h0
    have hset := cset_map
    go_enter Tryz.func101, Tryz.ntmps101
    go_wp2_with (go_at_call 102; refine (length_any _ _ _ (by omega) (by omega)).mono ?_; rintro e w6 ⟨rfl, hb6⟩; obtain ⟨hc6, hf6⟩ := bcell hb6; have hz6 := hb6.size; (try simp at hz6); have hq6x0a : w.heap.size < w6.heap.size := (by omega); have hq6x1a : w.heap.size + 1 < w6.heap.size := (by omega))
    exact bodyPost_ret (v := vv 0 256) (by simp [results, Tryz.results101, go_sem, *]) rfl ⟨by rw [e1, e2], bel_a⟩
  · have e1 : ux x y = (x * 256).tdiv (vl x y) := if_neg h0
    have e2 : uy x y = (y * 256).tdiv (vl x y) := if_neg h0
    have t1 := w64 (n := (x * 256).tdiv (vl x y)) (by have := tdiv_bd (x := x * 256) (B := 256000000000) (vl x y) (by omega); omega)
    have t2 := w64 (n := (y * 256).tdiv (vl x y)) (by have := tdiv_bd (x := y * 256) (B := 256000000000) (vl x y) (by omega); omega)
    have s1 := i64w (n := (x * 256).tdiv (vl x y)) (by have := tdiv_bd (x := x * 256) (B := 256000000000) (vl x y) (by omega); omega)
    have s2 := i64w (n := (y * 256).tdiv (vl x y)) (by have := tdiv_bd (x := y * 256) (B := 256000000000) (vl x y) (by omega); omega)
    have E1 : Hid (ux x y = (x * 256).tdiv (vl x y)) := e1
    have E2 : Hid (uy x y = (y * 256).tdiv (vl x y)) := e2
    clear e1 e2
    have hset := cset_map
    go_enter Tryz.func101, Tryz.ntmps101
    go_wp2_with (go_at_call 102; refine (length_any _ _ _ (by omega) (by omega)).mono ?_; rintro e w6 ⟨rfl, hb6⟩; obtain ⟨hc6, hf6⟩ := bcell hb6; have hz6 := hb6.size; (try simp at hz6); have hq6x0a : w.heap.size < w6.heap.size := (by omega); have hq6x1a : w.heap.size + 1 < w6.heap.size := (by omega))
    go_region
    all_goals
      go_wp2
      exact bodyPost_ret (v := vv ((x * 256).tdiv (vl x y)) ((y * 256).tdiv (vl x y))) (by simp [results, Tryz.results101, go_sem, *]) rfl ⟨by rw [E1.out, E2.out], bel_a⟩

end Go.Proofs.YthfodocnehahcaaGreatDoor
namespace Go.Proofs.YthfodocnehahcaaGreatDoor
open Go.RowKit
set_option linter.unusedVariables false
set_option linter.unusedSimpArgs false

end Go.Proofs.YthfodocnehahcaaGreatDoor
namespace Go.Proofs.YthfodocnehahcaaGreatDoor
open Go.RowKit
set_option linter.unusedVariables false
set_option linter.unusedSimpArgs false

end Go.Proofs.YthfodocnehahcaaGreatDoor
namespace Go.Proofs.YthfodocnehahcaaGreatDoor
open Go.RowKit
set_option linter.unusedVariables false
set_option linter.unusedSimpArgs false

theorem toVec_any (x y : Int) (w : World) :
    Calls Tryz.prog 24 #[vv x y] w fun e w' => e = .returned (vv x y) ∧ Below w.heap.size w w' := by
  have hset := cset_map
  go_enter Tryz.func24, Tryz.ntmps24
  go_wp2
  exact bodyPost_ret (v := vv x y) (by simp [results, Tryz.results24, go_sem, *]) rfl ⟨rfl, bel_a⟩

theorem eqVec_same (x y : Int) (w : World) :
    Calls Tryz.prog 32 #[vv x y, vv x y] w fun e w' => e = .returned (.bool true) ∧ Below w.heap.size w w' := by
  have hset := cset_map
  go_enter Tryz.func32, Tryz.ntmps32
  go_wp2
  go_ret
  exact ⟨rfl, bel_a⟩

end Go.Proofs.YthfodocnehahcaaGreatDoor
namespace Go.Proofs.YthfodocnehahcaaGreatDoor
open Go.RowKit
set_option linter.unusedVariables false
set_option linter.unusedSimpArgs false

structure TB (w wx : World) (V : Nat → Int) (m : Nat) : Prop where
  inn : ∀ j, j < 12 → wx.cell? ⟨w.heap.size, j, none⟩ = some (.int .i64 (V j))
  out : ∀ j, j < 12 → wx.cell? ⟨w.heap.size + 1 + 1, j, none⟩ = some (.int .i64 (if j < m then V j else 0))
  res : ∀ j, j < 12 → wx.cell? ⟨w.heap.size + 1, j, none⟩ = some (.int .i64 0)
  nfo : ∀ j, j < 12 → wx.frozen? ⟨w.heap.size + 1 + 1, j, none⟩ = false
  nfr : ∀ j, j < 12 → wx.frozen? ⟨w.heap.size + 1, j, none⟩ = false
  bel : Below w.heap.size w wx
  big : w.heap.size + 1 + 1 < wx.heap.size
theorem TB.below {w wx w1 : World} {V : Nat → Int} {m : Nat} (h : TB w wx V m) (hb : Below wx.heap.size wx w1) : TB w w1 V m := by
  have big := h.big
  exact ⟨fun j hj => (hb.cell (by simp; omega)).trans (h.inn j hj), fun j hj => (hb.cell (by simp; omega)).trans (h.out j hj), fun j hj => (hb.cell (by simp; omega)).trans (h.res j hj), fun j hj => (hb.frozen (by simp; omega)).trans (h.nfo j hj), fun j hj => (hb.frozen (by simp; omega)).trans (h.nfr j hj), h.bel.trans (hb.mono (by omega)), Nat.lt_of_lt_of_le big hb.size⟩
theorem TB.step {w w1 : World} {V : Nat → Int} {m : Nat} (h : TB w w1 V m) (hm : m < 12) : TB w (w1.setCell ⟨w.heap.size + 1 + 1, m, none⟩ (.int .i64 (V m))) V (m + 1) := by
  have big := h.big
  refine ⟨fun j hj => ?_, fun j hj => ?_, fun j hj => ?_, fun j hj => ?_, fun j hj => ?_, ?_, ?_⟩
  · rw [cset_far (by simp; omega)]; exact h.inn j hj
  · by_cases e : j = m
    · subst e; rw [cset_same (h.out j hj), if_pos (by omega)]
    · rw [cset_other (by intro q; injection q with q1 q2; exact e q2.symm), h.out j hj]
      by_cases q : j < m
      · rw [if_pos q, if_pos (by omega)]
      · rw [if_neg q, if_neg (by omega)]
  · rw [cset_far (by simp)]; exact h.res j hj
  · rw [World.frozen?_setCell]; exact h.nfo j hj
  · rw [World.frozen?_setCell]; exact h.nfr j hj
  · exact h.bel.setCell (by simp; omega) _
  · simpa using big
set_option maxRecDepth 20000 in
set_option maxHeartbeats 8000000 in
theorem toBody_any (V : Nat → Int) (w : World) :
    Calls Tryz.prog 15 #[bodyW V] w fun e w' => e = .returned (bodyW V) ∧ Below w.heap.size w w' := by
  have hset := cset_map
  go_enter Tryz.func15, Tryz.ntmps15
  go_upto_region 2 with fail
  have h0 : TB w (((w.alloc (.cells #[.int .i64 (V 0), .int .i64 (V 1), .int .i64 (V 2), .int .i64 (V 3), .int .i64 (V 4), .int .i64 (V 5), .int .i64 (V 6), .int .i64 (V 7), .int .i64 (V 8), .int .i64 (V 9), .int .i64 (V 10), .int .i64 (V 11)] 44)).alloc (.cells #[.int .i64 0, .int .i64 0, .int .i64 0, .int .i64 0, .int .i64 0, .int .i64 0, .int .i64 0, .int .i64 0, .int .i64 0, .int .i64 0, .int .i64 0, .int .i64 0] 39)).alloc (.cells #[.int .i64 0, .int .i64 0, .int .i64 0, .int .i64 0, .int .i64 0, .int .i64 0, .int .i64 0, .int .i64 0, .int .i64 0, .int .i64 0, .int .i64 0, .int .i64 0] 39)) V 0 := ⟨(by intro i hi; rcases (show i = 0 ∨ i = 1 ∨ i = 2 ∨ i = 3 ∨ i = 4 ∨ i = 5 ∨ i = 6 ∨ i = 7 ∨ i = 8 ∨ i = 9 ∨ i = 10 ∨ i = 11 by omega) with rfl | rfl | rfl | rfl | rfl | rfl | rfl | rfl | rfl | rfl | rfl | rfl <;> (first | (go_simp; done) | (simp; done))), (by intro i hi; rcases (show i = 0 ∨ i = 1 ∨ i = 2 ∨ i = 3 ∨ i = 4 ∨ i = 5 ∨ i = 6 ∨ i = 7 ∨ i = 8 ∨ i = 9 ∨ i = 10 ∨ i = 11 by omega) with rfl | rfl | rfl | rfl | rfl | rfl | rfl | rfl | rfl | rfl | rfl | rfl <;> (first | (go_simp; done) | (simp; done))), (by intro i hi; rcases (show i = 0 ∨ i = 1 ∨ i = 2 ∨ i = 3 ∨ i = 4 ∨ i = 5 ∨ i = 6 ∨ i = 7 ∨ i = 8 ∨ i = 9 ∨ i = 10 ∨ i = 11 by omega) with rfl | rfl | rfl | rfl | rfl | rfl | rfl | rfl | rfl | rfl | rfl | rfl <;> (first | (go_simp; done) | (simp; done))), (by intro i hi; rcases (show i = 0 ∨ i = 1 ∨ i = 2 ∨ i = 3 ∨ i = 4 ∨ i = 5 ∨ i = 6 ∨ i = 7 ∨ i = 8 ∨ i = 9 ∨ i = 10 ∨ i = 11 by omega) with rfl | rfl | rfl | rfl | rfl | rfl | rfl | rfl | rfl | rfl | rfl | rfl <;> (first | (go_simp; done) | (simp; done))), (by intro i hi; rcases (show i = 0 ∨ i = 1 ∨ i = 2 ∨ i = 3 ∨ i = 4 ∨ i = 5 ∨ i = 6 ∨ i = 7 ∨ i = 8 ∨ i = 9 ∨ i = 10 ∨ i = 11 by omega) with rfl | rfl | rfl | rfl | rfl | rfl | rfl | rfl | rfl | rfl | rfl | rfl <;> (first | (go_simp; done) | (simp; done))), bel_a, by simp⟩
  generalize (((w.alloc (.cells #[.int .i64 (V 0), .int .i64 (V 1), .int .i64 (V 2), .int .i64 (V 3), .int .i64 (V 4), .int .i64 (V 5), .int .i64 (V 6), .int .i64 (V 7), .int .i64 (V 8), .int .i64 (V 9), .int .i64 (V 10), .int .i64 (V 11)] 44)).alloc (.cells #[.int .i64 0, .int .i64 0, .int .i64 0, .int .i64 0, .int .i64 0, .int .i64 0, .int .i64 0, .int .i64 0, .int .i64 0, .int .i64 0, .int .i64 0, .int .i64 0] 39)).alloc (.cells #[.int .i64 0, .int .i64 0, .int .i64 0, .int .i64 0, .int .i64 0, .int .i64 0, .int .i64 0, .int .i64 0, .int .i64 0, .int .i64 0, .int .i64 0, .int .i64 0] 39)) = wx0 at h0 ⊢
  have i0 := h0.inn 0 (by omega)
  have o0 := h0.out 0 (by omega)
  have f0 := h0.nfo 0 (by omega)
  have z0 := h0.big
  go_cut [] (fun wc => TB w wc V 1)
  case first =>
    go_wp2_with fail
    go_meet
    exact (h0.step (by omega))
  case rest =>
  have h1 := hcut
  clear hcut z0 h0 i0 o0 f0
  go_upto_region 3 with fail
  have i1 := h1.inn 1 (by omega)
  have o1 := h1.out 1 (by omega)
  have f1 := h1.nfo 1 (by omega)
  have i2 := h1.inn 2 (by omega)
  have o2 := h1.out 2 (by omega)
  have f2 := h1.nfo 2 (by omega)
  have i3 := h1.inn 3 (by omega)
  have o3 := h1.out 3 (by omega)
  have f3 := h1.nfo 3 (by omega)
  have z0 := h1.big
  go_cut [] (fun wc => TB w wc V 4)
  case first =>
    go_wp2_with (go_at_call 23; refine (toShape_any _ _ _ _).mono ?_; rintro e w1 ⟨rfl, hb1⟩; obtain ⟨hc1, hf1⟩ := bcell hb1; have hz1 := hb1.size; (try simp only [World.size_drew, World.size_alloc, World.size_setCell] at hc1 hf1 hz1); have hk1x0 := fun o => hc1 (w.heap.size) o (by omega); have hj1x0 := fun o => hf1 (w.heap.size) o (by omega); have hq1x0 : w.heap.size < w1.heap.size := (by omega); have hk1x1 := fun o => hc1 (w.heap.size + 1 + 1) o (by omega); have hj1x1 := fun o => hf1 (w.heap.size + 1 + 1) o (by omega); have hq1x1 : w.heap.size + 1 + 1 < w1.heap.size := (by omega); clear hc1 hf1)
    go_meet
    exact ((((TB.below h1 hb1).step (by omega)).step (by omega)).step (by omega))
  case rest =>
  have h2 := hcut
  clear hcut z0 h1 i1 o1 f1 i2 o2 f2 i3 o3 f3
  go_upto_region 4 with fail
  have i4 := h2.inn 4 (by omega)
  have o4 := h2.out 4 (by omega)
  have f4 := h2.nfo 4 (by omega)
  have i5 := h2.inn 5 (by omega)
  have o5 := h2.out 5 (by omega)
  have f5 := h2.nfo 5 (by omega)
  have z0 := h2.big
  go_cut [] (fun wc => TB w wc V 6)
  case first =>
    go_wp2_with (go_at_call 24; refine (toVec_any _ _ _).mono ?_; rintro e w1 ⟨rfl, hb1⟩; obtain ⟨hc1, hf1⟩ := bcell hb1; have hz1 := hb1.size; (try simp only [World.size_drew, World.size_alloc, World.size_setCell] at hc1 hf1 hz1); have hk1x0 := fun o => hc1 (w.heap.size) o (by omega); have hj1x0 := fun o => hf1 (w.heap.size) o (by omega); have hq1x0 : w.heap.size < w1.heap.size := (by omega); have hk1x1 := fun o => hc1 (w.heap.size + 1 + 1) o (by omega); have hj1x1 := fun o => hf1 (w.heap.size + 1 + 1) o (by omega); have hq1x1 : w.heap.size + 1 + 1 < w1.heap.size := (by omega); clear hc1 hf1)
    go_meet
    exact (((TB.below h2 hb1).step (by omega)).step (by omega))
  case rest =>
  have h3 := hcut
  clear hcut z0 h2 i4 o4 f4 i5 o5 f5
  go_upto_region 5 with fail
  have i6 := h3.inn 6 (by omega)
  have o6 := h3.out 6 (by omega)
  have f6 := h3.nfo 6 (by omega)
  have i7 := h3.inn 7 (by omega)
  have o7 := h3.out 7 (by omega)
  have f7 := h3.nfo 7 (by omega)
  have z0 := h3.big
  go_cut [] (fun wc => TB w wc V 8)
  case first =>
    go_wp2_with (go_at_call 24; refine (toVec_any _ _ _).mono ?_; rintro e w1 ⟨rfl, hb1⟩; obtain ⟨hc1, hf1⟩ := bcell hb1; have hz1 := hb1.size; (try simp only [World.size_drew, World.size_alloc, World.size_setCell] at hc1 hf1 hz1); have hk1x0 := fun o => hc1 (w.heap.size) o (by omega); have hj1x0 := fun o => hf1 (w.heap.size) o (by omega); have hq1x0 : w.heap.size < w1.heap.size := (by omega); have hk1x1 := fun o => hc1 (w.heap.size + 1 + 1) o (by omega); have hj1x1 := fun o => hf1 (w.heap.size + 1 + 1) o (by omega); have hq1x1 : w.heap.size + 1 + 1 < w1.heap.size := (by omega); clear hc1 hf1)
    go_meet
    exact (((TB.below h3 hb1).step (by omega)).step (by omega))
  case rest =>
  have h4 := hcut
  clear hcut z0 h3 i6 o6 f6 i7 o7 f7
  go_upto_region 6 with fail
  have i8 := h4.inn 8 (by omega)
  have o8 := h4.out 8 (by omega)
  have f8 := h4.nfo 8 (by omega)
  have z0 := h4.big
  go_cut [] (fun wc => TB w wc V 9)
  case first =>
    go_wp2_with fail
    go_meet
    exact (h4.step (by omega))
  case rest =>
  have h5 := hcut
  clear hcut z0 h4 i8 o8 f8
  go_upto_region 7 with fail
  have i9 := h5.inn 9 (by omega)
  have o9 := h5.out 9 (by omega)
  have f9 := h5.nfo 9 (by omega)
  have z0 := h5.big
  go_cut [] (fun wc => TB w wc V 10)
  case first =>
    go_wp2_with fail
    go_meet
    exact (h5.step (by omega))
  case rest =>
  have h6 := hcut
  clear hcut z0 h5 i9 o9 f9
  go_upto_region 8 with fail
  have i10 := h6.inn 10 (by omega)
  have o10 := h6.out 10 (by omega)
  have f10 := h6.nfo 10 (by omega)
  have z0 := h6.big
  go_cut [] (fun wc => TB w wc V 11)
  case first =>
    go_wp2_with fail
    go_meet
    exact (h6.step (by omega))
  case rest =>
  have h7 := hcut
  clear hcut z0 h6 i10 o10 f10
  go_upto_region 9 with fail
  have i11 := h7.inn 11 (by omega)
  have o11 := h7.out 11 (by omega)
  have f11 := h7.nfo 11 (by omega)
  have z0 := h7.big
  go_cut [] (fun wc => TB w wc V 12)
  case first =>
    go_wp2_with fail
    go_meet
    exact (h7.step (by omega))
  case rest =>
  have h8 := hcut
  clear hcut z0 h7 i11 o11 f11
  go_upto_region 10 with fail
  have o0 : wc.cell? ⟨w.heap.size + 1 + 1, 0, none⟩ = some (.int .i64 (V 0)) := h8.out 0 (by omega)
  have r0 := h8.res 0 (by omega)
  have f0 := h8.nfr 0 (by omega)
  have o1 : wc.cell? ⟨w.heap.size + 1 + 1, 1, none⟩ = some (.int .i64 (V 1)) := h8.out 1 (by omega)
  have r1 := h8.res 1 (by omega)
  have f1 := h8.nfr 1 (by omega)
  have o2 : wc.cell? ⟨w.heap.size + 1 + 1, 2, none⟩ = some (.int .i64 (V 2)) := h8.out 2 (by omega)
  have r2 := h8.res 2 (by omega)
  have f2 := h8.nfr 2 (by omega)
  have o3 : wc.cell? ⟨w.heap.size + 1 + 1, 3, none⟩ = some (.int .i64 (V 3)) := h8.out 3 (by omega)
  have r3 := h8.res 3 (by omega)
  have f3 := h8.nfr 3 (by omega)
  have o4 : wc.cell? ⟨w.heap.size + 1 + 1, 4, none⟩ = some (.int .i64 (V 4)) := h8.out 4 (by omega)
  have r4 := h8.res 4 (by omega)
  have f4 := h8.nfr 4 (by omega)
  have o5 : wc.cell? ⟨w.heap.size + 1 + 1, 5, none⟩ = some (.int .i64 (V 5)) := h8.out 5 (by omega)
  have r5 := h8.res 5 (by omega)
  have f5 := h8.nfr 5 (by omega)
  have o6 : wc.cell? ⟨w.heap.size + 1 + 1, 6, none⟩ = some (.int .i64 (V 6)) := h8.out 6 (by omega)
  have r6 := h8.res 6 (by omega)
  have f6 := h8.nfr 6 (by omega)
  have o7 : wc.cell? ⟨w.heap.size + 1 + 1, 7, none⟩ = some (.int .i64 (V 7)) := h8.out 7 (by omega)
  have r7 := h8.res 7 (by omega)
  have f7 := h8.nfr 7 (by omega)
  have o8 : wc.cell? ⟨w.heap.size + 1 + 1, 8, none⟩ = some (.int .i64 (V 8)) := h8.out 8 (by omega)
  have r8 := h8.res 8 (by omega)
  have f8 := h8.nfr 8 (by omega)
  have o9 : wc.cell? ⟨w.heap.size + 1 + 1, 9, none⟩ = some (.int .i64 (V 9)) := h8.out 9 (by omega)
  have r9 := h8.res 9 (by omega)
  have f9 := h8.nfr 9 (by omega)
  have o10 : wc.cell? ⟨w.heap.size + 1 + 1, 10, none⟩ = some (.int .i64 (V 10)) := h8.out 10 (by omega)
  have r10 := h8.res 10 (by omega)
  have f10 := h8.nfr 10 (by omega)
  have o11 : wc.cell? ⟨w.heap.size + 1 + 1, 11, none⟩ = some (.int .i64 (V 11)) := h8.out 11 (by omega)
  have r11 := h8.res 11 (by omega)
  have f11 := h8.nfr 11 (by omega)
  have z0 := h8.big
  have hbel := h8.bel
  clear h8
  go_wp2_with fail
  exact bodyPost_ret (v := bodyW V) (by simp [results, Tryz.results15, go_sem, *]) rfl ⟨rfl, bel_a⟩
end Go.Proofs.YthfodocnehahcaaGreatDoor
namespace Go.Proofs.YthfodocnehahcaaGreatDoor
open Go.RowKit
set_option linter.unusedVariables false
set_option linter.unusedSimpArgs false

abbrev zeroBd : Value := .agg #[.int .i64 0, .int .i64 0, .int .i64 0, .int .i64 0, .int .i64 0, .int .i64 0, .int .i64 0, .int .i64 0, .int .i64 0, .int .i64 0, .int .i64 0, .int .i64 0]
theorem makeBodies (n : Nat) (hn : n ≤ 1048576) (w : World) : (Instr.makeSlice 26 (.int .i64 (n : Int)) (.int .i64 (n : Int))).run Tryz.prog w = .ok (.slice (some ⟨w.heap.size, 0, none⟩) n n) (w.alloc (.cells (madeCells zeroBd.cells (n * 12)) 39)) :=
  make_rows _ _ zeroBd 12 96 Tryz.underlying26 (by kernel_rfl) _ _ n (by omega) (by omega) w
set_option maxRecDepth 20000 in
set_option maxHeartbeats 2000000 in
theorem toBodyS_any (a : Option Addr) (n c : Nat) (U : Nat → Int) (w : World) (h : Flat w a (n * 12) U) (hn : n ≤ 1048576) :
    Calls Tryz.prog 6 #[.slice a n c] w fun e w' => ∃ b, e = .returned (.slice (some ⟨b, 0, none⟩) n n) ∧ w.heap.size ≤ b ∧ Row w' b 39 (n * 12) U ∧ Below w.heap.size w w' := by
  have hmk := makeBodies n hn
  go_enter Tryz.func6, Tryz.ntmps6
  go_wp2
  clear hmk
  go_loopw [4] (fun i wr => ∃ k : Nat, k ≤ n ∧ i = .int .i64 (k : Int) ∧ Row wr w.heap.size 39 (n * 12) (upto (k * 12) U) ∧ Below w.heap.size w wr) (fun i _ => n - (intOf i).toNat)
  case atStart => exact ⟨0, Nat.zero_le _, rfl, (Row.madek w _ 12 _ _ rfl (by decide) U).cut (by omega), (Below.refl _ _).alloc (Nat.le_refl _) _⟩
  case round =>
    obtain ⟨k, hk, rfl, hr, hbel⟩ := hrel
    have hrl := hr.lt
    by_cases hlt : k < n
    · obtain ⟨b, o, rfl, hbl, hc⟩ := (h.below hbel) (by omega)
      have c0 := hc (k * 12) (by omega)
      have c1 := hc (k * 12 + 1) (by omega)
      have c2 := hc (k * 12 + 2) (by omega)
      have c3 := hc (k * 12 + 3) (by omega)
      have c4 := hc (k * 12 + 4) (by omega)
      have c5 := hc (k * 12 + 5) (by omega)
      have c6 := hc (k * 12 + 6) (by omega)
      have c7 := hc (k * 12 + 7) (by omega)
      have c8 := hc (k * 12 + 8) (by omega)
      have c9 := hc (k * 12 + 9) (by omega)
      have c10 := hc (k * 12 + 10) (by omega)
      have c11 := hc (k * 12 + 11) (by omega)
      simp only [← Nat.add_assoc] at c0 c1 c2 c3 c4 c5 c6 c7 c8 c9 c10 c11
      clear hc h
      go_wp2_with (go_at_call 15; refine (toBody_any (fun j => U (k * 12 + j)) _).mono ?_; rintro e w1 ⟨rfl, hb1⟩; have hr1 := hr.below hb1; have f1 := hr1.fro; (have e0 := hr1.cell (q := k * 12) (by omega)); (have e1 := hr1.cell (q := k * 12 + 1) (by omega)); (have e2 := hr1.cell (q := k * 12 + 2) (by omega)); (have e3 := hr1.cell (q := k * 12 + 3) (by omega)); (have e4 := hr1.cell (q := k * 12 + 4) (by omega)); (have e5 := hr1.cell (q := k * 12 + 5) (by omega)); (have e6 := hr1.cell (q := k * 12 + 6) (by omega)); (have e7 := hr1.cell (q := k * 12 + 7) (by omega)); (have e8 := hr1.cell (q := k * 12 + 8) (by omega)); (have e9 := hr1.cell (q := k * 12 + 9) (by omega)); (have e10 := hr1.cell (q := k * 12 + 10) (by omega)); (have e11 := hr1.cell (q := k * 12 + 11) (by omega)))
      go_roundw
      case rel => exact ⟨k + 1, by omega, by go_num, (((((((((((((hr1).next).next).next).next).next).next).next).next).next).next).next).next).cut (by omega), bel_a⟩
      case measure => simp [intOf]; omega
    · go_wp2
      go_ret
      exact ⟨_, rfl, Nat.le_refl _, hr.full (by omega), hbel⟩
theorem eqShapeL_same (a b c : Int) (w : World) :
    Calls Tryz.prog 31 #[s3 a b c, s3 a b c] w fun e w' => e = .returned (.bool true) ∧ Below w.heap.size w w' := by
  have hset := cset_map
  go_enter Tryz.func31, Tryz.ntmps31
  go_wp2
  go_ret
  exact ⟨rfl, bel_a⟩
set_option maxRecDepth 20000 in
set_option maxHeartbeats 2000000 in
theorem eqBody_same (V : Nat → Int) (w : World) :
    Calls Tryz.prog 20 #[bodyW V, bodyW V] w fun e w' => e = .returned (.bool true) ∧ Below w.heap.size w w' := by
  have hset := cset_map
  go_enter Tryz.func20, Tryz.ntmps20
  go_wp2_with (first
    | (go_at_call 31; refine (eqShapeL_same _ _ _ _).mono ?_; rintro e w1 ⟨rfl, hb1⟩; obtain ⟨hc1, hf1⟩ := bcell hb1; have hz1 := hb1.size; (try simp only [World.size_drew, World.size_alloc, World.size_setCell] at hc1 hf1 hz1); (try have hq1x0 : w.heap.size < w1.heap.size := (by omega)); (try have hq1x1 : w.heap.size + 1 < w1.heap.size := (by omega)); have hk1 := fun o => hc1 w.heap.size o (by omega); have hk2 := fun o => hc1 (w.heap.size + 1) o (by omega); clear hc1 hf1)
    | (have _ := hq2x0; (go_at_call 32; refine (eqVec_same _ _ _).mono ?_; rintro e w3 ⟨rfl, hb3⟩; obtain ⟨hc3, hf3⟩ := bcell hb3; have hz3 := hb3.size; (try simp only [World.size_drew, World.size_alloc, World.size_setCell] at hc3 hf3 hz3); have hk5 := fun o => hc3 w.heap.size o (by omega); have hk6 := fun o => hc3 (w.heap.size + 1) o (by omega); clear hc3 hf3))
    | (go_at_call 32; refine (eqVec_same _ _ _).mono ?_; rintro e w2 ⟨rfl, hb2⟩; obtain ⟨hc2, hf2⟩ := bcell hb2; have hz2 := hb2.size; (try simp only [World.size_drew, World.size_alloc, World.size_setCell] at hc2 hf2 hz2); have hq2x0 : w.heap.size < w2.heap.size := (by omega); have hq2x1 : w.heap.size + 1 < w2.heap.size := (by omega); have hk3 := fun o => hc2 w.heap.size o (by omega); have hk4 := fun o => hc2 (w.heap.size + 1) o (by omega); clear hc2 hf2))
  go_ret
  exact ⟨rfl, bel_a⟩
set_option maxRecDepth 20000 in
set_option maxHeartbeats 2000000 in
theorem eqBodyS_same (a a' : Option Addr) (n c c' : Nat) (U : Nat → Int) (w : World) (h : Flat w a (n * 12) U) (h' : Flat w a' (n * 12) U) (hn : n ≤ 1048576) :
    Calls Tryz.prog 9 #[.slice a n c, .slice a' n c'] w fun e w' => e = .returned (.bool true) ∧ Below w.heap.size w w' := by
  go_enter Tryz.func9, Tryz.ntmps9
  go_wp2
  go_loopw [5] (fun i wr => ∃ k : Nat, k ≤ n ∧ i = .int .i64 (k : Int) ∧ Below w.heap.size w wr) (fun i _ => n - (intOf i).toNat)
  case atStart => exact ⟨0, Nat.zero_le _, rfl, Below.refl _ _⟩
  case round =>
    obtain ⟨k, hk, rfl, hB⟩ := hrel
    by_cases hlt : k < n
    · have hkn : (k : Int) < (n : Int) := by omega
      obtain ⟨b, o, rfl, hbl, hc⟩ := (h.below hB) (by omega)
      obtain ⟨b', o', rfl, hbl', hc'⟩ := (h'.below hB) (by omega)
      have c0 := hc (k * 12 + 0) (by omega)
      have d0 := hc' (k * 12 + 0) (by omega)
      have c1 := hc (k * 12 + 1) (by omega)
      have d1 := hc' (k * 12 + 1) (by omega)
      have c2 := hc (k * 12 + 2) (by omega)
      have d2 := hc' (k * 12 + 2) (by omega)
      have c3 := hc (k * 12 + 3) (by omega)
      have d3 := hc' (k * 12 + 3) (by omega)
      have c4 := hc (k * 12 + 4) (by omega)
      have d4 := hc' (k * 12 + 4) (by omega)
      have c5 := hc (k * 12 + 5) (by omega)
      have d5 := hc' (k * 12 + 5) (by omega)
      have c6 := hc (k * 12 + 6) (by omega)
      have d6 := hc' (k * 12 + 6) (by omega)
      have c7 := hc (k * 12 + 7) (by omega)
      have d7 := hc' (k * 12 + 7) (by omega)
      have c8 := hc (k * 12 + 8) (by omega)
      have d8 := hc' (k * 12 + 8) (by omega)
      have c9 := hc (k * 12 + 9) (by omega)
      have d9 := hc' (k * 12 + 9) (by omega)
      have c10 := hc (k * 12 + 10) (by omega)
      have d10 := hc' (k * 12 + 10) (by omega)
      have c11 := hc (k * 12 + 11) (by omega)
      have d11 := hc' (k * 12 + 11) (by omega)
      simp only [← Nat.add_assoc, Nat.add_zero] at c0 d0 c1 d1 c2 d2 c3 d3 c4 d4 c5 d5 c6 d6 c7 d7 c8 d8 c9 d9 c10 d10 c11 d11
      clear hc hc' h h'
      go_upto_region 6 with fail
      refine wp_region_held_drew (S := fun w' => w'.cell? ⟨b, o + k * 12, none⟩ = some (.int .i64 (U (k * 12))) ∧ w'.cell? ⟨b, o + k * 12 + 1, none⟩ = some (.int .i64 (U (k * 12 + 1))) ∧ w'.cell? ⟨b, o + k * 12 + 2, none⟩ = some (.int .i64 (U (k * 12 + 2))) ∧ w'.cell? ⟨b, o + k * 12 + 3, none⟩ = some (.int .i64 (U (k * 12 + 3))) ∧ w'.cell? ⟨b, o + k * 12 + 4, none⟩ = some (.int .i64 (U (k * 12 + 4))) ∧ w'.cell? ⟨b, o + k * 12 + 5, none⟩ = some (.int .i64 (U (k * 12 + 5))) ∧ w'.cell? ⟨b, o + k * 12 + 6, none⟩ = some (.int .i64 (U (k * 12 + 6))) ∧ w'.cell? ⟨b, o + k * 12 + 7, none⟩ = some (.int .i64 (U (k * 12 + 7))) ∧ w'.cell? ⟨b, o + k * 12 + 8, none⟩ = some (.int .i64 (U (k * 12 + 8))) ∧ w'.cell? ⟨b, o + k * 12 + 9, none⟩ = some (.int .i64 (U (k * 12 + 9))) ∧ w'.cell? ⟨b, o + k * 12 + 10, none⟩ = some (.int .i64 (U (k * 12 + 10))) ∧ w'.cell? ⟨b, o + k * 12 + 11, none⟩ = some (.int .i64 (U (k * 12 + 11))) ∧ w'.cell? ⟨b', o' + k * 12, none⟩ = some (.int .i64 (U (k * 12))) ∧ w'.cell? ⟨b', o' + k * 12 + 1, none⟩ = some (.int .i64 (U (k * 12 + 1))) ∧ w'.cell? ⟨b', o' + k * 12 + 2, none⟩ = some (.int .i64 (U (k * 12 + 2))) ∧ w'.cell? ⟨b', o' + k * 12 + 3, none⟩ = some (.int .i64 (U (k * 12 + 3))) ∧ w'.cell? ⟨b', o' + k * 12 + 4, none⟩ = some (.int .i64 (U (k * 12 + 4))) ∧ w'.cell? ⟨b', o' + k * 12 + 5, none⟩ = some (.int .i64 (U (k * 12 + 5))) ∧ w'.cell? ⟨b', o' + k * 12 + 6, none⟩ = some (.int .i64 (U (k * 12 + 6))) ∧ w'.cell? ⟨b', o' + k * 12 + 7, none⟩ = some (.int .i64 (U (k * 12 + 7))) ∧ w'.cell? ⟨b', o' + k * 12 + 8, none⟩ = some (.int .i64 (U (k * 12 + 8))) ∧ w'.cell? ⟨b', o' + k * 12 + 9, none⟩ = some (.int .i64 (U (k * 12 + 9))) ∧ w'.cell? ⟨b', o' + k * 12 + 10, none⟩ = some (.int .i64 (U (k * 12 + 10))) ∧ w'.cell? ⟨b', o' + k * 12 + 11, none⟩ = some (.int .i64 (U (k * 12 + 11)))) (by kernel_rfl) ?_ (fun hHeld => ?_)
      · (try dsimp only)
        (first | (go_simp; done) | (go_keep; done))
      refine tq 0 hHeld ?_
      refine tq 1 hHeld ?_
      refine tq 2 hHeld ?_
      refine tq 3 hHeld ?_
      refine tq 4 hHeld ?_
      refine tq 5 hHeld ?_
      refine tq 6 hHeld ?_
      refine tq 7 hHeld ?_
      (refine tc 8 fun K hK => ?_; go_simp; (go_at_call 20; refine (eqBody_same (fun j => U (k * 12 + j)) _).mono ?_; rintro e w1 ⟨rfl, hb1⟩; obtain ⟨hc1, hf1⟩ := bcell hb1; have hz1 := hb1.size; (try simp only [World.size_drew, World.size_alloc, World.size_setCell] at hc1 hf1 hz1); have hk1 := fun o => hc1 b o (by omega); have hk2 := fun o => hc1 b' o (by omega); clear hc1 hf1); (try go_wp2_with fail); refine tr hK (fun hHeld => ?_); clear hK K)
      refine tq 9 hHeld ?_
      refine wpAnyH_done (by kernel_rfl) ?_ _
      go_wp2_with fail
      go_roundw
      case rel => exact ⟨k + 1, by omega, by go_num, hB.trans (hb1.ofDr.mono hB.size)⟩
      case measure => simp [intOf]; omega
    · go_wp2
      go_ret
      exact ⟨rfl, hB⟩
theorem szBodyS_any (a : Option Addr) (n c : Nat) (w : World) (hn : (n : Int) ≤ 9223372036854775807) :
    Calls Tryz.prog 4 #[.slice a n c, .int .i64 1048576] w fun e w' => e = .returned (.int .i64 (if n ≤ 1048576 then 1048576 - (n : Int) else -1)) ∧ w' = w := by
  by_cases h : n ≤ 1048576
  · have h1 : ¬ (1048576 - (n : Int) < 0) := by omega
    have h2 : IntKind.i64.wrap (1048576 - (n : Int)) = 1048576 - (n : Int) := i64w (by omega)
    go_enter Tryz.func4, Tryz.ntmps4
    go_wp2
    go_ret
    exact ⟨by first | rfl | (rw [if_pos h]; rfl) | simp [h], rfl⟩
  · have h1 : (1048576 - (n : Int) < 0) := by omega
    have h2 : IntKind.i64.wrap (1048576 - (n : Int)) = 1048576 - (n : Int) := i64w (by omega)
    go_enter Tryz.func4, Tryz.ntmps4
    go_wp2
    go_ret
    exact ⟨by first | rfl | (rw [if_neg h]; rfl) | simp [h], rfl⟩
end Go.Proofs.YthfodocnehahcaaGreatDoor
namespace Go.Proofs.YthfodocnehahcaaGreatDoor
open Go.RowKit
set_option linter.unusedVariables false
set_option linter.unusedSimpArgs false
def lenS (L : Nat → Nat) : Nat → Nat
  | 0 => 0
  | k + 1 => lenS L k + L k
theorem lenS_mono (L : Nat → Nat) : ∀ (k r : Nat), k ≤ r → lenS L k ≤ lenS L r
  | k, 0, h => by rw [Nat.le_zero.1 h]; exact Nat.le_refl _
  | k, r + 1, h => by
    rcases Nat.lt_or_eq_of_le h with h | h
    · exact Nat.le_trans (lenS_mono L k r (by omega)) (show lenS L r ≤ lenS L r + L r by omega)
    · rw [h]; exact Nat.le_refl _
abbrev zcBody : Value := .agg #[.int .i64 0, .int .i64 0, .int .i64 0, .int .i64 0, .int .i64 0, .int .i64 0, .int .i64 0, .int .i64 0, .int .i64 0, .int .i64 0, .int .i64 0, .int .i64 0]
theorem infoItBody : (Tryz.prog.info? 39).map (fun i => (i.zero, i.size, i.bytes)) = some (some zcBody, 12, 96) := by kernel_rfl
def catSBody (L : Nat → Nat) (X : Nat → Nat → Int) : Nat → Nat → Int
  | 0 => fun _ => 0
  | k + 1 => cat (lenS L k * 12) (catSBody L X k) (X k)
theorem cat0Body (X Y : Nat → Int) : ∀ q, cat (0 * 12) X Y q = Y q := by intro q; simp [cat]
abbrev zcPair : Value := .agg #[.int .i64 0, .int .i64 0]
theorem infoItPair : (Tryz.prog.info? 62).map (fun i => (i.zero, i.size, i.bytes)) = some (some zcPair, 2, 16) := by kernel_rfl
def catSPair (L : Nat → Nat) (X : Nat → Nat → Int) : Nat → Nat → Int
  | 0 => fun _ => 0
  | k + 1 => cat (lenS L k * 2) (catSPair L X k) (X k)
theorem cat0Pair (X Y : Nat → Int) : ∀ q, cat (0 * 2) X Y q = Y q := by intro q; simp [cat]
end Go.Proofs.YthfodocnehahcaaGreatDoor
namespace Go.Proofs.YthfodocnehahcaaGreatDoor
open Go.RowKit
set_option linter.unusedVariables false
set_option linter.unusedSimpArgs false
theorem grown_setG (w : World) (g q : Nat) (v : Value) : w.grownBy (w.setCell ⟨g, q, none⟩ v) (some g) := ⟨rfl, rfl, rfl, by simp, fun k hk hn => Below.heap_setCell _ _ _ _ (fun e => hn (by rw [e]))⟩
theorem grown_trans {w w' w'' : World} {r : Option Nat} (h : w.grownBy w' r) (k : w'.grownBy w'' r) : w.grownBy w'' r := ⟨k.os.trans h.os, k.tape.trans h.tape, k.output.trans h.output, Nat.le_trans h.size k.size, fun i hi hn => (k.block i (Nat.lt_of_lt_of_le hi h.size) hn).trans (h.block i hi hn)⟩
theorem grown_refl (w : World) (r : Option Nat) : w.grownBy w r := ⟨rfl, rfl, rfl, Nat.le_refl _, fun _ _ _ => rfl⟩
theorem OwnL.setq {w : World} {base t k n g c : Nat} {U : Nat → Int} (h : OwnL w base t k (.slice (Option.some ⟨g, 0, none⟩) n c) n U) (q : Nat) (hq : q < n * k) (x : Int) : OwnL (w.setCell ⟨g, q, none⟩ (.int .i64 x)) base t k (.slice (Option.some ⟨g, 0, none⟩) n c) n (fun r => if r = q then x else U r) := by
  have h1 := (World.ownsRow.stored h q (.int .i64 x)).1
  unfold OwnL
  rw [show numL (n * k) (fun r => if r = q then x else U r) = (numL (n * k) U).set q (.int .i64 x) from ?_]
  · exact h1
  · apply List.ext_getElem?
    intro r
    rw [List.getElem?_set, numL_len]
    by_cases hr : r < n * k
    · rw [numL_get hr]
      by_cases e : q = r
      · subst e; simp; omega
      · rw [if_neg e, numL_get hr]; simp [Ne.symm e]
    · rw [List.getElem?_eq_none (by rw [numL_len]; omega)]
      by_cases e : q = r
      · omega
      · rw [if_neg e, List.getElem?_eq_none (by rw [numL_len]; omega)]
theorem OwnL.loc {w : World} {base t k n c : Nat} {a : Option Addr} {U : Nat → Int} (h : OwnL w base t k (.slice a n c) n U) (h0 : 0 < n) : ∃ g, a = Option.some ⟨g, 0, none⟩ ∧ base ≤ g ∧ g < w.heap.size := by
  rcases h.2 with ⟨hv, hn⟩ | ⟨g, cap, cur, hv, hb, hg, _⟩
  · omega
  · simp only [Value.slice.injEq, true_and] at hv
    exact ⟨g, hv.1, hb, (Array.getElem?_eq_some_iff.1 hg).1⟩
theorem OwnL.cellq {w : World} {base t k n g c : Nat} {U : Nat → Int} (h : OwnL w base t k (.slice (Option.some ⟨g, 0, none⟩) n c) n U) {q : Nat} (hq : q < n * k) : w.cell? ⟨g, q, none⟩ = Option.some (.int .i64 (U q)) := by
  rw [World.ownsRow.cellAt h q hq, numL_get hq]
/-- marked up to p -/
abbrev mixU (p : Nat) (U : Nat → Int) : Nat → Int := fun q => if q < p then 1 + (q : Int) else U q
theorem OwnL.mark {w : World} {base t k n g c p : Nat} {U : Nat → Int} (h : OwnL w base t k (.slice (Option.some ⟨g, 0, none⟩) n c) n (mixU p U)) (hp : p < n * k) {x : Int} (hx : x = 1 + (p : Int)) : OwnL (w.setCell ⟨g, p, none⟩ (.int .i64 x)) base t k (.slice (Option.some ⟨g, 0, none⟩) n c) n (mixU (p + 1) U) :=
  (h.setq p hp x).congr fun q _ => by
    subst hx
    by_cases e : q = p
    · subst e; simp [mixU]
    · simp only [mixU, if_neg e]
      by_cases l : q < p
      · rw [if_pos l, if_pos (by omega)]
      · rw [if_neg l, if_neg (by omega)]
/-- a list whose block lies from lo on and below hi -/
structure Lv (w : World) (lo hi t k : Nat) (a : Option Addr) (n c : Nat) (U : Nat → Int) : Prop where
  own : OwnL w lo t k (.slice a n c) n U
  top : ∀ b, (Value.slice a n c).ownBlock = some b → b < hi
  le : hi ≤ w.heap.size
theorem Lv.on {w w' : World} {lo hi t k : Nat} {a : Option Addr} {n c : Nat} {U : Nat → Int} (h : Lv w lo hi t k a n c U) (hb : Below w.heap.size w w') : Lv w' lo hi t k a n c U := ⟨h.own.below hb, h.top, Nat.le_trans h.le hb.size⟩
theorem Lv.flat {w : World} {lo hi t k : Nat} {a : Option Addr} {n c : Nat} {U : Nat → Int} (h : Lv w lo hi t k a n c U) : Flat w a (n * k) U := h.own.flat
/-- another list is marked -/
theorem Lv.gr {w w' : World} {lo hi t k lo' hi' t' k' n' c' : Nat} {a' : Option Addr} {a : Option Addr} {n c : Nat} {U U' : Nat → Int} (h : Lv w lo hi t k a n c U) (h' : Lv w lo' hi' t' k' a' n' c' U') (hg : w.grownBy w' (Value.slice a' n' c').ownBlock) (hs : hi ≤ lo' ∨ hi' ≤ lo) : Lv w' lo hi t k a n c U := by
  refine ⟨?_, h.top, Nat.le_trans h.le hg.size⟩
  cases e : (Value.slice a n c).ownBlock with
  | none => exact h.own.kept hg (.inl e)
  | some b => exact h.own.kept hg (.inr (fun q => by
      have k1 := (h'.own.lt b (q ▸ e)).1
      have k1' := h'.top b (q ▸ e)
      have k2 := (h.own.lt b e).1
      have k3 := h.top b e
      omega))
/-- itself is marked -/
theorem Lv.me {w w' : World} {lo hi t k : Nat} {a : Option Addr} {n c : Nat} {U U' : Nat → Int} (h : Lv w lo hi t k a n c U) (hg : w.grownBy w' (Value.slice a n c).ownBlock) (ho : OwnL w' lo t k (.slice a n c) n U') : Lv w' lo hi t k a n c U' := ⟨ho, h.top, Nat.le_trans h.le hg.size⟩
/-- what lies below the first list -/
theorem Lv.below {w0 w w' : World} {lo hi t k B : Nat} {a : Option Addr} {n c : Nat} {U : Nat → Int} (h : Lv w lo hi t k a n c U) (hB : Below B w0 w) (hBw : B ≤ w.heap.size) (hg : w.grownBy w' (Value.slice a n c).ownBlock) (hl : B ≤ lo) : Below B w0 w' :=
  hB.grown hg hBw (fun b e => by have := (h.own.lt b e).1; omega)
theorem Lv.row {w w' : World} {b n t k : Nat} {U : Nat → Int} (h : Row w' b t (n * k) U) (hb : w.heap.size ≤ b) (hn : n ≤ 1048576) : Lv w' w.heap.size w'.heap.size t k (some ⟨b, 0, none⟩) n n U :=
  ⟨h.own hb (by unfold maxLen; omega), fun x e => by simp [Value.ownBlock] at e; subst e; exact h.lt, Nat.le_refl _⟩
/-- what a function hands out that makes a list -/
structure OutL (w w' : World) (t k : Nat) (a : Option Addr) (n c : Nat) (R : Nat → Int) : Prop where
  bel : Below w.heap.size w w'
  own : OwnL w' w.heap.size t k (.slice a n c) n R
theorem OutL.lv {w w' : World} {t k : Nat} {a : Option Addr} {n c : Nat} {R : Nat → Int} (h : OutL w w' t k a n c R) : Lv w' w.heap.size w'.heap.size t k a n c R := ⟨h.own, fun b e => (h.own.lt b e).2, Nat.le_refl _⟩
/-- a list's numbers -/
def ofL (l : List Int) : Nat → Int := fun q => l.getD q 0
theorem ofL_app (l x : List Int) (q : Nat) (h : q < l.length) : ofL (l ++ x) q = ofL l q := by
  unfold ofL
  rw [List.getD_eq_getElem?_getD, List.getD_eq_getElem?_getD, List.getElem?_append_left h]
theorem ofL_app' (l x : List Int) (q : Nat) (h : l.length ≤ q) : ofL (l ++ x) q = ofL x (q - l.length) := by
  unfold ofL
  rw [List.getD_eq_getElem?_getD, List.getD_eq_getElem?_getD, List.getElem?_append_right h]
theorem cat_ofL (l x : List Int) : cat l.length (ofL l) (ofL x) = ofL (l ++ x) := by
  funext q
  unfold cat
  by_cases h : q < l.length
  · rw [if_pos h, ofL_app l x q h]
  · rw [if_neg h, ofL_app' l x q (by omega)]
/-- APPEND of one thing of k numbers: where the list lies then -/
theorem step_appk {P : Program} {w : World} {ops : Array Oper} {o : Oper} {a : Act} {K : Act → World → Prop} {Q : Exit → Act → World → Prop} {E : Prop} (hgd : o.guard = none) (s x : Operand) (t : TypeId)
    (ho : o.op = .call { callee := .builtin .append, args := #[s, x], argTypes := #[t, t] })
    (base e k bytes : Nat) (z : Value) (ht : P.underlying t = some (.slice e)) (hinfo : (P.info? e).map (fun i => (i.zero, i.size, i.bytes)) = some (some z, k, bytes)) (hzs : z.cells.size = k) (hk : 0 < k)
    (v : Value) (n : Nat) (U : Nat → Int) (hs : a.eval s = v) (h : OwnL w base e k v n U) (B c : Nat) (X : Nat → Int) (hx : a.eval x = .slice (some ⟨B, 0, none⟩) 1 c) (hv : ∀ q, q < k → w.cell? ⟨B, q, none⟩ = some (.int .i64 (X q)))
    (h63 : n + 1 ≤ maxLen) (hbytes : (n + 1) * bytes ≤ 140737488355328) (hbase : base ≤ w.heap.size) (H : Nat) (hH : w.heap.size = H)
    (hK : ∀ g cap w', OwnL w' base e k (.slice (some ⟨g, 0, none⟩) (n + 1) cap) (n + 1) (cat (n * k) U X) → w.grownBy w' v.ownBlock → (v.ownBlock = some g ∨ g = H) → g < w'.heap.size → K (a.put o.dst (.slice (some ⟨g, 0, none⟩) (n + 1) cap)) w') :
    if Region.wanted o (yielded ops a.tmps) = true then Oper.wp P o a w K Q else E := by
  obtain ⟨i, hi, hzz⟩ := Option.map_eq_some_iff.1 hinfo
  simp only [Prod.mk.injEq] at hzz
  obtain ⟨hz, hsz, hby⟩ := hzz
  refine step_append_lies w hgd s x t ho base e i z k bytes ht hi hz hsz hby hzs hk v n (numL (n * k) U) hs h ⟨B, 0, none⟩ 1 c (numL (1 * k) X) hx (numL_len _ _) ?_ (fun u hu => by obtain ⟨q, _, rfl⟩ := List.mem_map.1 hu; rfl) (by omega) h63 hbytes hbase H hH ?_
  · intro j u hu
    have hj : j < 1 * k := by have := (List.getElem?_eq_some_iff.1 hu).1; rwa [numL_len] at this
    rw [numL_get hj] at hu
    rw [Addr.add_lit, Nat.zero_add, hv j (by omega)]
    exact hu
  · intro g cap w' h2 h3 h4 h5
    refine hK g cap w' ?_ h3 h4 h5
    unfold OwnL
    rw [Nat.add_mul, ← numL_cat]
    exact h2
end Go.Proofs.YthfodocnehahcaaGreatDoor
namespace Go.Proofs.YthfodocnehahcaaGreatDoor
open Go.RowKit
set_option linter.unusedVariables false
set_option linter.unusedSimpArgs false
theorem OwnL.fresh0 (w : World) (base t k : Nat) (U : Nat → Int) (s : Nat) (e : w.heap.size = s) (h : base ≤ w.heap.size) : OwnL (w.alloc (.cells #[] t)) base t k (.slice (Option.some ⟨s, 0, none⟩) 0 0) 0 U := by
  subst e
  exact ⟨by simp [numL], .inr ⟨w.heap.size, 0, #[], rfl, h, Go.Deep.blk_alloc_new _ _, Nat.le_refl _, Nat.zero_le _, by simp, by simp [numL]⟩⟩
theorem OwnL.drewO {w : World} {base t k n : Nat} {v : Value} {U : Nat → Int} (h : OwnL w base t k v n U) : OwnL w.drew base t k v n U := World.ownsRow.drew h
theorem cat_0 (k : Nat) (X Y : Nat → Int) : ∀ q, cat (0 * k) X Y q = Y q := by intro q; simp [cat]
section
variable {P : Program} {ops : Array Oper} {o : Oper} {a : Act} {w : World} {Q : Exit → Act → World → Prop}
theorem wpList_app0 {rest : List Oper} (hgd : o.guard = none) (s x : Operand) (t : TypeId) (ho : o.op = .call { callee := .builtin .append, args := #[s, x], argTypes := #[t, t] })
    (base e k bytes : Nat) (z : Value) (ht : P.underlying t = some (.slice e)) (hinfo : (P.info? e).map (fun i => (i.zero, i.size, i.bytes)) = some (some z, k, bytes)) (hzs : z.cells.size = k) (hk : 0 < k)
    (v : Value) (U : Nat → Int) (hs : a.eval s = v) (h : OwnL w base e k v 0 U) (ad : Option Addr) (m c : Nat) (X : Nat → Int) (hxx : a.eval x = .slice ad m c) (hx : Flat w ad (m * k) X)
    (h63 : m ≤ maxLen) (hbytes : m * bytes ≤ 140737488355328) (hbase : base ≤ w.heap.size)
    (hK : ∀ a' c' w', OwnL w' base e k (.slice a' m c') m X → w.grownBy w' v.ownBlock → wpList P ops Q rest (a.put o.dst (.slice a' m c')) w') : wpList P ops Q (o :: rest) a w :=
  wpList_app hgd s x t ho base e k bytes z ht hinfo hzs hk v 0 U hs h ad m c X hxx hx (by rw [Nat.zero_add]; exact h63) (by rw [Nat.zero_add]; exact hbytes) hbase fun a' c' w' h1 h2 => by
    rw [Nat.zero_add] at h1 ⊢
    exact hK a' c' w' (h1.congr fun q _ => cat_0 k _ _ q) h2
theorem step_app0 {K : Act → World → Prop} {E : Prop} (hgd : o.guard = none) (s x : Operand) (t : TypeId) (ho : o.op = .call { callee := .builtin .append, args := #[s, x], argTypes := #[t, t] })
    (base e k bytes : Nat) (z : Value) (ht : P.underlying t = some (.slice e)) (hinfo : (P.info? e).map (fun i => (i.zero, i.size, i.bytes)) = some (some z, k, bytes)) (hzs : z.cells.size = k) (hk : 0 < k)
    (v : Value) (U : Nat → Int) (hs : a.eval s = v) (h : OwnL w base e k v 0 U) (ad : Option Addr) (m c : Nat) (X : Nat → Int) (hxx : a.eval x = .slice ad m c) (hx : Flat w ad (m * k) X)
    (h63 : m ≤ maxLen) (hbytes : m * bytes ≤ 140737488355328) (hbase : base ≤ w.heap.size)
    (hK : ∀ a' c' w', OwnL w' base e k (.slice a' m c') m X → w.grownBy w' v.ownBlock → K (a.put o.dst (.slice a' m c')) w') :
    if Region.wanted o (yielded ops a.tmps) = true then Oper.wp P o a w K Q else E :=
  step_app hgd s x t ho base e k bytes z ht hinfo hzs hk v 0 U hs h ad m c X hxx hx (by rw [Nat.zero_add]; exact h63) (by rw [Nat.zero_add]; exact hbytes) hbase fun a' c' w' h1 h2 => by
    rw [Nat.zero_add] at h1 ⊢
    exact hK a' c' w' (h1.congr fun q _ => cat_0 k _ _ q) h2
end
/-- a list of which one thing was replaced -/
def putRow (U : Nat → Int) (p : Nat) (V : Nat → Int) : Nat → Int := fun q => if p * 12 ≤ q ∧ q < p * 12 + 12 then V (q - p * 12) else U q
theorem put12 {w4 : World} {base n g c p : Nat} {U : Nat → Int} (h : OwnL w4 base 39 12 (.slice (some ⟨g, 0, none⟩) n c) n U) (hp : p < n) (V : Nat → Int) :
    OwnL ((((((((((((w4.setCell ⟨g, p * 12, none⟩ (.int .i64 (V 0))).setCell ⟨g, p * 12 + 1, none⟩ (.int .i64 (V 1))).setCell ⟨g, p * 12 + 2, none⟩ (.int .i64 (V 2))).setCell ⟨g, p * 12 + 3, none⟩ (.int .i64 (V 3))).setCell ⟨g, p * 12 + 4, none⟩ (.int .i64 (V 4))).setCell ⟨g, p * 12 + 5, none⟩ (.int .i64 (V 5))).setCell ⟨g, p * 12 + 6, none⟩ (.int .i64 (V 6))).setCell ⟨g, p * 12 + 7, none⟩ (.int .i64 (V 7))).setCell ⟨g, p * 12 + 8, none⟩ (.int .i64 (V 8))).setCell ⟨g, p * 12 + 9, none⟩ (.int .i64 (V 9))).setCell ⟨g, p * 12 + 10, none⟩ (.int .i64 (V 10))).setCell ⟨g, p * 12 + 11, none⟩ (.int .i64 (V 11))) base 39 12 (.slice (some ⟨g, 0, none⟩) n c) n (putRow U p V) := by
  have q1 := h.setq (p * 12) (by omega) (V 0)
  have q2 := q1.setq (p * 12 + 1) (by omega) (V 1)
  have q3 := q2.setq (p * 12 + 2) (by omega) (V 2)
  have q4 := q3.setq (p * 12 + 3) (by omega) (V 3)
  have q5 := q4.setq (p * 12 + 4) (by omega) (V 4)
  have q6 := q5.setq (p * 12 + 5) (by omega) (V 5)
  have q7 := q6.setq (p * 12 + 6) (by omega) (V 6)
  have q8 := q7.setq (p * 12 + 7) (by omega) (V 7)
  have q9 := q8.setq (p * 12 + 8) (by omega) (V 8)
  have q10 := q9.setq (p * 12 + 9) (by omega) (V 9)
  have q11 := q10.setq (p * 12 + 10) (by omega) (V 10)
  have q12 := q11.setq (p * 12 + 11) (by omega) (V 11)
  refine q12.congr fun q _ => ?_
  unfold putRow
  by_cases e : p * 12 ≤ q ∧ q < p * 12 + 12
  · rw [if_pos e]
    obtain ⟨d, rfl⟩ : ∃ d, q = p * 12 + d := ⟨q - p * 12, by omega⟩
    rw [Nat.add_sub_cancel_left]
    rcases (show d = 0 ∨ d = 1 ∨ d = 2 ∨ d = 3 ∨ d = 4 ∨ d = 5 ∨ d = 6 ∨ d = 7 ∨ d = 8 ∨ d = 9 ∨ d = 10 ∨ d = 11 by omega) with rfl | rfl | rfl | rfl | rfl | rfl | rfl | rfl | rfl | rfl | rfl | rfl <;> simp
  · rw [if_neg e]
    repeat rw [if_neg (by omega)]
theorem putFr {w4 : World} {g p : Nat} (V : Nat → Int) : Fr (fun b => b = g) w4 ((((((((((((w4.setCell ⟨g, p * 12, none⟩ (.int .i64 (V 0))).setCell ⟨g, p * 12 + 1, none⟩ (.int .i64 (V 1))).setCell ⟨g, p * 12 + 2, none⟩ (.int .i64 (V 2))).setCell ⟨g, p * 12 + 3, none⟩ (.int .i64 (V 3))).setCell ⟨g, p * 12 + 4, none⟩ (.int .i64 (V 4))).setCell ⟨g, p * 12 + 5, none⟩ (.int .i64 (V 5))).setCell ⟨g, p * 12 + 6, none⟩ (.int .i64 (V 6))).setCell ⟨g, p * 12 + 7, none⟩ (.int .i64 (V 7))).setCell ⟨g, p * 12 + 8, none⟩ (.int .i64 (V 8))).setCell ⟨g, p * 12 + 9, none⟩ (.int .i64 (V 9))).setCell ⟨g, p * 12 + 10, none⟩ (.int .i64 (V 10))).setCell ⟨g, p * 12 + 11, none⟩ (.int .i64 (V 11))) :=
  (((((((((((((Fr.refl (fun b => b = g) w4).trans (Fr.setCell (X := fun b => b = g) rfl _)).trans (Fr.setCell (X := fun b => b = g) rfl _)).trans (Fr.setCell (X := fun b => b = g) rfl _)).trans (Fr.setCell (X := fun b => b = g) rfl _)).trans (Fr.setCell (X := fun b => b = g) rfl _)).trans (Fr.setCell (X := fun b => b = g) rfl _)).trans (Fr.setCell (X := fun b => b = g) rfl _)).trans (Fr.setCell (X := fun b => b = g) rfl _)).trans (Fr.setCell (X := fun b => b = g) rfl _)).trans (Fr.setCell (X := fun b => b = g) rfl _)).trans (Fr.setCell (X := fun b => b = g) rfl _)).trans (Fr.setCell (X := fun b => b = g) rfl _))
theorem OutL.on {w w1 w2 : World} {t k n c : Nat} {a : Option Addr} {R : Nat → Int} (h : OutL w w1 t k a n c R) (hb : Below w1.heap.size w1 w2) : OutL w w2 t k a n c R := ⟨h.bel.trans (hb.mono h.bel.size), h.own.below hb⟩
end Go.Proofs.YthfodocnehahcaaGreatDoor
namespace Go.Proofs.YthfodocnehahcaaGreatDoor
open Go.RowKit
set_option linter.unusedVariables false
set_option linter.unusedSimpArgs false
/-- the first k rows changed -/
def mapR (f : Nat → (Nat → Int) → Nat → Int) (U : Nat → Int) (k : Nat) : Nat → Int := fun q => if q < k * 12 then f (q / 12) (fun j => U (q / 12 * 12 + j)) (q % 12) else U q
theorem mapR_0 (f : Nat → (Nat → Int) → Nat → Int) (U : Nat → Int) : mapR f U 0 = U := by funext q; unfold mapR; rw [if_neg (by omega)]
theorem mapR_row (f : Nat → (Nat → Int) → Nat → Int) (U : Nat → Int) (k j : Nat) : mapR f U k (k * 12 + j) = U (k * 12 + j) := by unfold mapR; rw [if_neg (by omega)]
theorem mapR_in {f : Nat → (Nat → Int) → Nat → Int} {U : Nat → Int} {k n j : Nat} (h : k < n) (hj : j < 12) : mapR f U n (k * 12 + j) = f k (fun j => U (k * 12 + j)) j := by
  unfold mapR
  rw [if_pos (by omega), show (k * 12 + j) / 12 = k by omega, show (k * 12 + j) % 12 = j by omega]
theorem mapR_set (f : Nat → (Nat → Int) → Nat → Int) (U : Nat → Int) (k : Nat) : putRow (mapR f U k) k (f k (fun j => U (k * 12 + j))) = mapR f U (k + 1) := by
  funext q
  unfold putRow
  by_cases h : k * 12 ≤ q ∧ q < k * 12 + 12
  · rw [if_pos h]
    obtain ⟨d, rfl⟩ : ∃ d, q = k * 12 + d := ⟨q - k * 12, by omega⟩
    rw [mapR_in (by omega) (by omega), Nat.add_sub_cancel_left]
  · rw [if_neg h]
    unfold mapR
    by_cases l : q < k * 12
    · rw [if_pos l, if_pos (by omega)]
    · rw [if_neg l, if_neg (by omega)]
theorem mapR_same {f : Nat → (Nat → Int) → Nat → Int} {U : Nat → Int} {k : Nat} (h : ∀ j, j < 12 → f k (fun j => U (k * 12 + j)) j = U (k * 12 + j)) : mapR f U (k + 1) = mapR f U k := by
  rw [← mapR_set]
  funext q
  unfold putRow
  by_cases e : k * 12 ≤ q ∧ q < k * 12 + 12
  · rw [if_pos e]
    obtain ⟨d, rfl⟩ : ∃ d, q = k * 12 + d := ⟨q - k * 12, by omega⟩
    rw [Nat.add_sub_cancel_left, h d (by omega), mapR_row]
  · rw [if_neg e]
theorem mapR_one {f : Nat → (Nat → Int) → Nat → Int} {U : Nat → Int} {k j : Nat} {x : Int} (hj : j < 12) (h : ∀ i, i < 12 → f k (fun j => U (k * 12 + j)) i = if i = j then x else U (k * 12 + i)) : (fun r => if r = k * 12 + j then x else mapR f U k r) = mapR f U (k + 1) := by
  rw [← mapR_set]
  funext q
  unfold putRow
  by_cases e : k * 12 ≤ q ∧ q < k * 12 + 12
  · rw [if_pos e]
    obtain ⟨d, rfl⟩ : ∃ d, q = k * 12 + d := ⟨q - k * 12, by omega⟩
    rw [Nat.add_sub_cancel_left, h d (by omega), mapR_row]
    by_cases e2 : d = j
    · rw [if_pos e2, if_pos (by omega)]
    · rw [if_neg e2, if_neg (by omega)]
  · rw [if_neg e, if_neg (by omega)]
theorem bodyB_cong {V W : Nat → Int} (h : ∀ j, j < 12 → V j = W j) : bodyB V = bodyB W := by
  unfold bodyB restB
  simp only [h 0 (by omega), h 1 (by omega), h 2 (by omega), h 3 (by omega), h 4 (by omega), h 5 (by omega), h 6 (by omega), h 7 (by omega), h 8 (by omega), h 9 (by omega), h 10 (by omega), h 11 (by omega)]
/-- bodies that are ok, said row by row -/
structure Bods (n : Nat) (U : Nat → Int) : Prop where
  le : n ≤ 12
  ok : ∀ k, k < n → bodyB (fun j => U (k * 12 + j)) = true
  asc : ∀ k, k + 1 < n → U (k * 12) < U ((k + 1) * 12)
theorem Bods.of {n : Nat} {U : Nat → Int} (h : bodsB n U = true) : Bods n U := by
  unfold bodsB at h
  rw [Bool.and_eq_true] at h
  have key : ∀ m, allBB U m = true → ∀ k, k < m → stepBB U k = true := by
    intro m
    induction m with
    | zero => intro _ k l; omega
    | succ m ih =>
      intro hm k l
      unfold allBB at hm
      rw [Bool.and_eq_true] at hm
      by_cases e : k = m
      · subst e; exact hm.2
      · exact ih hm.1 k (by omega)
  refine ⟨of_decide_eq_true h.1, fun k hk => ?_, fun k hk => ?_⟩
  · have := key n h.2 k hk
    unfold stepBB at this
    rw [Bool.and_eq_true] at this
    exact this.1
  · have := key n h.2 (k + 1) hk
    unfold stepBB at this
    simp at this
    exact this.2
theorem Bods.to {n : Nat} {U : Nat → Int} (h : Bods n U) : bodsB n U = true := by
  have key : ∀ m, m ≤ n → allBB U m = true := by
    intro m
    induction m with
    | zero => intro _; rfl
    | succ m ih =>
      intro hm
      unfold allBB
      rw [ih (by omega), Bool.true_and]
      unfold stepBB
      rw [h.ok m (by omega), Bool.true_and]
      by_cases e : m = 0
      · simp [e]
      · obtain ⟨k, rfl⟩ : ∃ k, m = k + 1 := ⟨m - 1, by omega⟩
        have := h.asc k (by omega)
        simp
        exact this
  unfold bodsB
  rw [key n (Nat.le_refl _), decide_eq_true h.le]
  rfl
/-- rows changed, each still a body, its number kept -/
theorem Bods.map {n : Nat} {U : Nat → Int} {f : Nat → (Nat → Int) → Nat → Int} (h : Bods n U) (hf : ∀ k, k < n → bodyB (f k (fun j => U (k * 12 + j))) = true) (h0 : ∀ k, k < n → f k (fun j => U (k * 12 + j)) 0 = U (k * 12)) : Bods n (mapR f U n) := by
  refine ⟨h.le, fun k hk => ?_, fun k hk => ?_⟩
  · rw [bodyB_cong (W := f k (fun j => U (k * 12 + j))) (fun j hj => mapR_in hk hj)]; exact hf k hk
  · have e1 := mapR_in (f := f) (U := U) (k := k) (n := n) (j := 0) (by omega) (by omega)
    have e2 := mapR_in (f := f) (U := U) (k := k + 1) (n := n) (j := 0) hk (by omega)
    rw [Nat.add_zero] at e1 e2
    rw [e1, e2, h0 k (by omega), h0 (k + 1) hk]
    exact h.asc k hk
end Go.Proofs.YthfodocnehahcaaGreatDoor
namespace Go.Proofs.YthfodocnehahcaaGreatDoor
open Go.RowKit
set_option linter.unusedVariables false
set_option linter.unusedSimpArgs false
/-- a body that can move and is awake -/
def lsB (U : Nat → Int) (k : Nat) : Bool := decide (0 < U (k * 12 + 8)) && !decide (8 ≤ U (k * 12 + 11))
def noLs (U : Nat → Int) : Nat → Bool
  | 0 => true
  | k + 1 => noLs U k && !lsB U k
theorem noLs_no {U : Nat → Int} {k : Nat} (h : lsB U k = true) : ∀ n, k < n → noLs U n = false
  | 0, l => absurd l (Nat.not_lt_zero _)
  | n + 1, l => by
    rw [noLs]
    by_cases e : k = n
    · subst e; rw [h]; simp
    · rw [noLs_no h n (by omega)]; rfl
def stB (n : Nat) (U : Nat → Int) : Bool := noLs U n && bodsB n U
theorem ls_ok {U : Nat → Int} {n k : Nat} (h : Bods n U) (hk : k < n) : (0 ≤ U (k * 12 + 8)) ∧ (0 ≤ U (k * 12 + 11) ∧ U (k * 12 + 11) ≤ 8) := by
  have q := h.ok k hk
  unfold bodyB restB at q
  simp only [Bool.and_eq_true, decide_eq_true_eq] at q
  omega
set_option maxRecDepth 20000 in
set_option maxHeartbeats 8000000 in
theorem bodiesOf_t (a : Option Addr) (n c : Nat) (U : Nat → Int) (w : World) (h : Flat w a (n * 12) U) (hn : n ≤ 1048576) (hB : bodsB n U = true) :
    Calls Tryz.prog 16 #[.slice a n c] w fun e w' => ∃ cb S, e = .returned (.tuple #[.pointer (some ⟨cb, 0, none⟩), Value.nilIface]) ∧ w.heap.size ≤ cb ∧ Cs w' cb n (colOf U) S ∧ Below w.heap.size w w' := by
  have hset := cset_map
  go_enter Tryz.func16, Tryz.ntmps16
  go_wp2_with (go_at_call 25; refine (columnsOf_any a n c U _ h hn).mono ?_; rintro e w1 ⟨hb1, (⟨_, cb, S, rfl, hcb, hCs⟩ | ⟨hF, rfl⟩)⟩)
  all_goals (try (exfalso; rw [hB] at hF; cases hF))
  exact bodyPost_ret (v := .tuple #[.pointer (some ⟨cb, 0, none⟩), Value.nilIface]) (by simp [results, Tryz.results16, go_sem]) rfl ⟨cb, S, rfl, hcb, hCs, hb1⟩
set_option maxRecDepth 20000 in
set_option maxHeartbeats 8000000 in
theorem bodiesOf_f (a : Option Addr) (n c : Nat) (U : Nat → Int) (w : World) (h : Flat w a (n * 12) U) (hn : n ≤ 1048576) (hB : bodsB n U = false) :
    Calls Tryz.prog 16 #[.slice a n c] w fun e w' => ∃ x : Addr, e = .returned (.tuple #[.pointer none, .iface 71 (.pointer (some x))]) ∧ Below w.heap.size w w' := by
  have hset := cset_map
  go_enter Tryz.func16, Tryz.ntmps16
  go_wp2_with (go_at_call 25; refine (columnsOf_any a n c U _ h hn).mono ?_; rintro e w1 ⟨hb1, (⟨hT, cb, S, rfl, hcb, hCs⟩ | ⟨_, rfl⟩)⟩)
  all_goals (try (exfalso; rw [hB] at hT; cases hT))
  exact bodyPost_ret (v := .tuple #[.pointer none, .iface 71 (.pointer (some ⟨w1.heap.size, 0, none⟩))]) (by simp [results, Tryz.results16, go_sem]) rfl ⟨_, rfl, hb1.alloc hb1.size _⟩
end Go.Proofs.YthfodocnehahcaaGreatDoor
namespace Go.Proofs.YthfodocnehahcaaGreatDoor
open Go.RowKit
set_option linter.unusedVariables false
set_option linter.unusedSimpArgs false

/-- a number, or 0 where it may not be -/
def bb (o : Bool) (x : Int) : Int := if o = true then x else 0
theorem bb_t (x : Int) : bb true x = x := rfl
theorem bb_f (x : Int) : bb false x = 0 := rfl

end Go.Proofs.YthfodocnehahcaaGreatDoor
namespace Go.Proofs.YthfodocnehahcaaGreatDoor
open Go.RowKit
set_option linter.unusedVariables false
set_option linter.unusedSimpArgs false

theorem l3Less_any (x y : Int) (w : World) :
    Calls Tryz.prog 88 #[.int .i64 x, .int .i64 y] w fun e w' => e = .returned (.int .i64 (mn x y)) ∧ w' = w := by
  go_enter Tryz.func88, Tryz.ntmps88
  go_wp2
  all_goals
    go_ret
    refine ⟨?_, rfl⟩
    unfold mn
    split <;> first | rfl | (exfalso; omega) | (have hxy : x = y := (by omega); subst hxy; rfl) | (exfalso; simp at *; omega)

theorem l3More_any (x y : Int) (w : World) :
    Calls Tryz.prog 89 #[.int .i64 x, .int .i64 y] w fun e w' => e = .returned (.int .i64 (mx x y)) ∧ w' = w := by
  go_enter Tryz.func89, Tryz.ntmps89
  go_wp2
  all_goals
    go_ret
    refine ⟨?_, rfl⟩
    unfold mx
    split <;> first | rfl | (exfalso; omega) | (have hxy : x = y := (by omega); subst hxy; rfl) | (exfalso; simp at *; omega)

end Go.Proofs.YthfodocnehahcaaGreatDoor
namespace Go.Proofs.YthfodocnehahcaaGreatDoor
open Go.RowKit
set_option linter.unusedVariables false
set_option linter.unusedSimpArgs false

set_option maxHeartbeats 4000000 in
theorem l3Near_any (a b c d x y : Int) (w : World) :
    Calls Tryz.prog 75 #[b4 a b c d, vv x y] w fun e w' => e = .returned (vv (mn (mx x a) c) (mn (mx y b) d)) ∧ Below w.heap.size w w' := by
  have hset := cset_map
  go_enter Tryz.func75, Tryz.ntmps75
  go_wp2
  go_region_held3 (fun w' => w'.cell? ⟨w.heap.size, 0, none⟩ = some (.int .i64 a) ∧ w'.cell? ⟨w.heap.size, 1, none⟩ = some (.int .i64 b) ∧ w'.cell? ⟨w.heap.size, 2, none⟩ = some (.int .i64 c) ∧ w'.cell? ⟨w.heap.size, 3, none⟩ = some (.int .i64 d) ∧ w'.cell? ⟨w.heap.size + 1, 0, none⟩ = some (.int .i64 x) ∧ w'.cell? ⟨w.heap.size + 1, 1, none⟩ = some (.int .i64 y)) (first | (go_simp; done) | (go_keep; done)) (first
    | (go_at_call 88; refine (l3Less_any _ _ _).mono ?_; rintro e w' ⟨rfl, rfl⟩)
    | (go_at_call 89; refine (l3More_any _ _ _).mono ?_; rintro e w' ⟨rfl, rfl⟩))
  all_goals
    go_wp2
    exact bodyPost_ret (v := vv (mn (mx x a) c) (mn (mx y b) d)) (by simp [results, Tryz.results75, go_sem, *]) rfl ⟨rfl, bel_a⟩

end Go.Proofs.YthfodocnehahcaaGreatDoor
