/- Whether bodies are ok: both sides. All contacts, by the specification. Lists put together in new memory: slices.Concat. Lists of bodies, row by row: copies, one row replaced; speeds and sleep by the specification. Lists of bodies changed row by row: plain mathematics. A body of columns that is changed: its drive, its place, for how long it was quiet. A body of columns, handed out; one that is pushed. One body that was given, by its handle. -/
import Derived.Test.YtneacpfdmocifaaGreatB5
import Derived.Deep.RegionHeld3
import Derived.Deep.DeepCutAuto
import Derived.Test.YtneacpfdmocifaaGreatB3
import Derived.Test.YtneacpfdmocifaaGreatB1
import Derived.Lib.AppendZeros
import Derived.Test.YtneacpfdmocifaaGreatB4
import Derived.Test.YtneacpfdmocifaaGreatB2
namespace Go.Proofs.YtneacpfdmocifaaGreat
open Go.RowKit
set_option linter.unusedVariables false
set_option linter.unusedSimpArgs false

set_option maxRecDepth 20000 in
set_option maxHeartbeats 4000000 in
theorem sBodiesOk_any (a : Option Addr) (n c : Nat) (U : Nat → Int) (w : World) (h : Flat w a (n * 12) U) (hn : n ≤ 1048576) :
    Calls Tryz.prog 27 #[.slice a n c] w fun e w' => e = .returned (.bool (bodsB n U)) ∧ Below w.heap.size w w' := by
  have hset := cset_map
  go_enter Tryz.func27, Tryz.ntmps27
  go_wp2
  go_loopw [3] (fun i wr => ∃ k : Nat, k ≤ n ∧ i = .int .i64 (k : Int) ∧ Below w.heap.size w wr ∧ allBB U k = true) (fun i _ => n - (intOf i).toNat)
  case atStart => exact ⟨0, Nat.zero_le _, rfl, Below.refl _ _, rfl⟩
  case round =>
      obtain ⟨k, hk, rfl, hB, hall0⟩ := hrel
      have hall : Shut (allBB U k = true) := hall0
      clear hall0
      by_cases hlt : k < n
      · have hkn : (k : Int) < (n : Int) := by omega
        obtain ⟨b, o, rfl, hbl, hc⟩ := (h.below hB) (by omega)
        have c0 := hc (k * 12) (by omega)
        have c1 := hc (k * 12 + 1) (by omega)
        have c2 := hc (k * 12 + 2) (by omega)
        have c3 := hc (k * 12 + 3) (by omega)
        have c4 := hc (k * 12 + 4) (by omega)
        have c5 := hc (k * 12 + 5) (by omega)
        have c6 := hc (k * 12 + 6) (by omega)
        have c7 := hc (k * 12 + 7) (by omega)
        have c8 := hc (k * 12 + 8) (by omega)
        have c9 := hc (k * 12 + 9) (by omega)
        have c10 := hc (k * 12 + 10) (by omega)
        have c11 := hc (k * 12 + 11) (by omega)
        simp only [← Nat.add_assoc] at c0 c1 c2 c3 c4 c5 c6 c7 c8 c9 c10 c11
        go_upto_region 4 with fail
        cases hi : bodyB (fun j => U (k * 12 + j)) with
        | false =>
          have hno : Shut (stepBB U k = false) := by show stepBB U k = false; rw [stepBB, hi]; rfl
          clear hc
          refine wp_region_held_drew (S := fun w' => w'.cell? ⟨b, o + k * 12, none⟩ = some (.int .i64 (U (k * 12))) ∧ w'.cell? ⟨b, o + k * 12 + 1, none⟩ = some (.int .i64 (U (k * 12 + 1))) ∧ w'.cell? ⟨b, o + k * 12 + 2, none⟩ = some (.int .i64 (U (k * 12 + 2))) ∧ w'.cell? ⟨b, o + k * 12 + 3, none⟩ = some (.int .i64 (U (k * 12 + 3))) ∧ w'.cell? ⟨b, o + k * 12 + 4, none⟩ = some (.int .i64 (U (k * 12 + 4))) ∧ w'.cell? ⟨b, o + k * 12 + 5, none⟩ = some (.int .i64 (U (k * 12 + 5))) ∧ w'.cell? ⟨b, o + k * 12 + 6, none⟩ = some (.int .i64 (U (k * 12 + 6))) ∧ w'.cell? ⟨b, o + k * 12 + 7, none⟩ = some (.int .i64 (U (k * 12 + 7))) ∧ w'.cell? ⟨b, o + k * 12 + 8, none⟩ = some (.int .i64 (U (k * 12 + 8))) ∧ w'.cell? ⟨b, o + k * 12 + 9, none⟩ = some (.int .i64 (U (k * 12 + 9))) ∧ w'.cell? ⟨b, o + k * 12 + 10, none⟩ = some (.int .i64 (U (k * 12 + 10))) ∧ w'.cell? ⟨b, o + k * 12 + 11, none⟩ = some (.int .i64 (U (k * 12 + 11)))) (by kernel_rfl) ?_ (fun hHeld => ?_)
          · (try dsimp only)
            (first | (go_simp; done) | (go_keep; done))
          refine tq 0 hHeld ?_
          refine tq 1 hHeld ?_
          refine tq 2 hHeld ?_
          refine tq 3 hHeld ?_
          (refine tc 4 fun K hK => ?_; go_simp; (go_at_call 46; refine (sBodyOk_q (fun j => U (k * 12 + j)) _ _ (by exact hi)).mono ?_; rintro e w2 ⟨rfl, hb2⟩; obtain ⟨hc2, hf2⟩ := bcell hb2; have hz2 := hb2.size; (try simp only [World.size_drew, World.size_alloc, World.size_setCell] at hc2 hf2 hz2); have hk3 := fun o => hc2 b o (by omega); clear hc2 hf2); (try go_wp2_with fail); refine tr hK (fun hHeld => ?_); clear hK K)
          refine tq 5 hHeld ?_
          refine tq 6 hHeld ?_
          refine tn 7 hHeld ?_
          refine tn 8 hHeld ?_
          refine tn 9 hHeld ?_
          refine tn 10 hHeld ?_
          refine tn 11 hHeld ?_
          refine tn 12 hHeld ?_
          refine tn 13 hHeld ?_
          refine tn 14 hHeld ?_
          refine tn 15 hHeld ?_
          refine tn 16 hHeld ?_
          refine tn 17 hHeld ?_
          refine tn 18 hHeld ?_
          refine tn 19 hHeld ?_
          refine tn 20 hHeld ?_
          refine tn 21 hHeld ?_
          refine tn 22 hHeld ?_
          refine tq 23 hHeld ?_
          refine wpAnyH_done (by kernel_rfl) ?_ _
          go_wp2_with fail
          go_ret
          exact ⟨by rw [bodsB, allBB_no hno.out n hlt, Bool.and_false]; rfl, hB.trans (hb2.ofDr.mono hB.size)⟩
        | true =>
          by_cases hk0 : 0 < k
          · have hd0 : decide (0 < k) = true := decide_eq_true hk0
            obtain ⟨j, hj⟩ : ∃ j, j + 1 = k := ⟨k - 1, by omega⟩
            have hj' : (k : Int) - 1 = (j : Int) := by omega
            have hjn : j < n := by omega
            have hwj : IntKind.i64.wrap (j : Int) = (j : Int) := i64w (by omega)
            have HJ : Shut (j + 1 = k) := hj
            clear hj
            have p0 := hc (j * 12) (by omega)
            clear hc
            by_cases hge : U (j * 12) < U (k * 12)
            · have hdg : decide (U (k * 12) ≤ U (j * 12)) = false := decide_eq_false (by omega)
              have hyes : Shut (stepBB U k = true) := by show stepBB U k = true; rw [stepBB, hi, show k - 1 = j from by have := HJ.out; omega]; simp [hge]
              refine wp_region_held_drew (S := fun w' => w'.cell? ⟨b, o + k * 12, none⟩ = some (.int .i64 (U (k * 12))) ∧ w'.cell? ⟨b, o + k * 12 + 1, none⟩ = some (.int .i64 (U (k * 12 + 1))) ∧ w'.cell? ⟨b, o + k * 12 + 2, none⟩ = some (.int .i64 (U (k * 12 + 2))) ∧ w'.cell? ⟨b, o + k * 12 + 3, none⟩ = some (.int .i64 (U (k * 12 + 3))) ∧ w'.cell? ⟨b, o + k * 12 + 4, none⟩ = some (.int .i64 (U (k * 12 + 4))) ∧ w'.cell? ⟨b, o + k * 12 + 5, none⟩ = some (.int .i64 (U (k * 12 + 5))) ∧ w'.cell? ⟨b, o + k * 12 + 6, none⟩ = some (.int .i64 (U (k * 12 + 6))) ∧ w'.cell? ⟨b, o + k * 12 + 7, none⟩ = some (.int .i64 (U (k * 12 + 7))) ∧ w'.cell? ⟨b, o + k * 12 + 8, none⟩ = some (.int .i64 (U (k * 12 + 8))) ∧ w'.cell? ⟨b, o + k * 12 + 9, none⟩ = some (.int .i64 (U (k * 12 + 9))) ∧ w'.cell? ⟨b, o + k * 12 + 10, none⟩ = some (.int .i64 (U (k * 12 + 10))) ∧ w'.cell? ⟨b, o + k * 12 + 11, none⟩ = some (.int .i64 (U (k * 12 + 11))) ∧ w'.cell? ⟨b, o + j * 12, none⟩ = some (.int .i64 (U (j * 12)))) (by kernel_rfl) ?_ (fun hHeld => ?_)
              · (try dsimp only)
                (first | (go_simp; done) | (go_keep; done))
              refine tq 0 hHeld ?_
              refine tq 1 hHeld ?_
              refine tq 2 hHeld ?_
              refine tq 3 hHeld ?_
              (refine tc 4 fun K hK => ?_; go_simp; (go_at_call 46; refine (sBodyOk_q (fun j => U (k * 12 + j)) _ _ (by exact hi)).mono ?_; rintro e w2 ⟨rfl, hb2⟩; obtain ⟨hc2, hf2⟩ := bcell hb2; have hz2 := hb2.size; (try simp only [World.size_drew, World.size_alloc, World.size_setCell] at hc2 hf2 hz2); have hk3 := fun o => hc2 b o (by omega); clear hc2 hf2); (try go_wp2_with fail); refine tr hK (fun hHeld => ?_); clear hK K)
              refine tq 5 hHeld ?_
              refine tq 6 hHeld ?_
              refine tq 7 hHeld ?_
              refine tq 8 hHeld ?_
              refine tq 9 hHeld ?_
              refine tq 10 hHeld ?_
              refine tq 11 hHeld ?_
              refine tq 12 hHeld ?_
              refine tq 13 hHeld ?_
              refine tq 14 hHeld ?_
              refine tq 15 hHeld ?_
              refine tq 16 hHeld ?_
              refine tq 17 hHeld ?_
              refine tq 18 hHeld ?_
              refine tq 19 hHeld ?_
              refine tq 20 hHeld ?_
              refine tq 21 hHeld ?_
              refine tq 22 hHeld ?_
              refine tq 23 hHeld ?_
              refine wpAnyH_done (by kernel_rfl) ?_ _
              go_wp2_with fail
              go_roundw
              case rel => exact ⟨k + 1, by omega, by go_num, hB.trans (hb2.ofDr.mono hB.size), by rw [allBB, hall.out, hyes.out]; rfl⟩
              case measure => simp [intOf]; omega
            · have hdg : decide (U (k * 12) ≤ U (j * 12)) = true := decide_eq_true (by omega)
              have hno : Shut (stepBB U k = false) := by show stepBB U k = false; rw [stepBB, show k - 1 = j from by have := HJ.out; omega]; have := HJ.out; simp [hge]; omega
              refine wp_region_held_drew (S := fun w' => w'.cell? ⟨b, o + k * 12, none⟩ = some (.int .i64 (U (k * 12))) ∧ w'.cell? ⟨b, o + k * 12 + 1, none⟩ = some (.int .i64 (U (k * 12 + 1))) ∧ w'.cell? ⟨b, o + k * 12 + 2, none⟩ = some (.int .i64 (U (k * 12 + 2))) ∧ w'.cell? ⟨b, o + k * 12 + 3, none⟩ = some (.int .i64 (U (k * 12 + 3))) ∧ w'.cell? ⟨b, o + k * 12 + 4, none⟩ = some (.int .i64 (U (k * 12 + 4))) ∧ w'.cell? ⟨b, o + k * 12 + 5, none⟩ = some (.int .i64 (U (k * 12 + 5))) ∧ w'.cell? ⟨b, o + k * 12 + 6, none⟩ = some (.int .i64 (U (k * 12 + 6))) ∧ w'.cell? ⟨b, o + k * 12 + 7, none⟩ = some (.int .i64 (U (k * 12 + 7))) ∧ w'.cell? ⟨b, o + k * 12 + 8, none⟩ = some (.int .i64 (U (k * 12 + 8))) ∧ w'.cell? ⟨b, o + k * 12 + 9, none⟩ = some (.int .i64 (U (k * 12 + 9))) ∧ w'.cell? ⟨b, o + k * 12 + 10, none⟩ = some (.int .i64 (U (k * 12 + 10))) ∧ w'.cell? ⟨b, o + k * 12 + 11, none⟩ = some (.int .i64 (U (k * 12 + 11))) ∧ w'.cell? ⟨b, o + j * 12, none⟩ = some (.int .i64 (U (j * 12)))) (by kernel_rfl) ?_ (fun hHeld => ?_)
              · (try dsimp only)
                (first | (go_simp; done) | (go_keep; done))
              refine tq 0 hHeld ?_
              refine tq 1 hHeld ?_
              refine tq 2 hHeld ?_
              refine tq 3 hHeld ?_
              (refine tc 4 fun K hK => ?_; go_simp; (go_at_call 46; refine (sBodyOk_q (fun j => U (k * 12 + j)) _ _ (by exact hi)).mono ?_; rintro e w2 ⟨rfl, hb2⟩; obtain ⟨hc2, hf2⟩ := bcell hb2; have hz2 := hb2.size; (try simp only [World.size_drew, World.size_alloc, World.size_setCell] at hc2 hf2 hz2); have hk3 := fun o => hc2 b o (by omega); clear hc2 hf2); (try go_wp2_with fail); refine tr hK (fun hHeld => ?_); clear hK K)
              refine tq 5 hHeld ?_
              refine tq 6 hHeld ?_
              refine tq 7 hHeld ?_
              refine tq 8 hHeld ?_
              refine tq 9 hHeld ?_
              refine tq 10 hHeld ?_
              refine tq 11 hHeld ?_
              refine tq 12 hHeld ?_
              refine tq 13 hHeld ?_
              refine tq 14 hHeld ?_
              refine tq 15 hHeld ?_
              refine tq 16 hHeld ?_
              refine tq 17 hHeld ?_
              refine tq 18 hHeld ?_
              refine tq 19 hHeld ?_
              refine tq 20 hHeld ?_
              refine tq 21 hHeld ?_
              refine tq 22 hHeld ?_
              refine tq 23 hHeld ?_
              refine wpAnyH_done (by kernel_rfl) ?_ _
              go_wp2_with fail
              go_ret
              exact ⟨by rw [bodsB, allBB_no hno.out n hlt, Bool.and_false]; rfl, hB.trans (hb2.ofDr.mono hB.size)⟩
          · have hd0 : decide (0 < k) = false := decide_eq_false hk0
            have HK : Shut (k = 0) := (by omega : k = 0)
            clear hk0 hc
            have hyes : Shut (stepBB U k = true) := by show stepBB U k = true; rw [stepBB, hi, HK.out]; rfl
            refine wp_region_held_drew (S := fun w' => w'.cell? ⟨b, o + k * 12, none⟩ = some (.int .i64 (U (k * 12))) ∧ w'.cell? ⟨b, o + k * 12 + 1, none⟩ = some (.int .i64 (U (k * 12 + 1))) ∧ w'.cell? ⟨b, o + k * 12 + 2, none⟩ = some (.int .i64 (U (k * 12 + 2))) ∧ w'.cell? ⟨b, o + k * 12 + 3, none⟩ = some (.int .i64 (U (k * 12 + 3))) ∧ w'.cell? ⟨b, o + k * 12 + 4, none⟩ = some (.int .i64 (U (k * 12 + 4))) ∧ w'.cell? ⟨b, o + k * 12 + 5, none⟩ = some (.int .i64 (U (k * 12 + 5))) ∧ w'.cell? ⟨b, o + k * 12 + 6, none⟩ = some (.int .i64 (U (k * 12 + 6))) ∧ w'.cell? ⟨b, o + k * 12 + 7, none⟩ = some (.int .i64 (U (k * 12 + 7))) ∧ w'.cell? ⟨b, o + k * 12 + 8, none⟩ = some (.int .i64 (U (k * 12 + 8))) ∧ w'.cell? ⟨b, o + k * 12 + 9, none⟩ = some (.int .i64 (U (k * 12 + 9))) ∧ w'.cell? ⟨b, o + k * 12 + 10, none⟩ = some (.int .i64 (U (k * 12 + 10))) ∧ w'.cell? ⟨b, o + k * 12 + 11, none⟩ = some (.int .i64 (U (k * 12 + 11)))) (by kernel_rfl) ?_ (fun hHeld => ?_)
            · (try dsimp only)
              (first | (go_simp; done) | (go_keep; done))
            refine tq 0 hHeld ?_
            refine tq 1 hHeld ?_
            refine tq 2 hHeld ?_
            refine tq 3 hHeld ?_
            (refine tc 4 fun K hK => ?_; go_simp; (go_at_call 46; refine (sBodyOk_q (fun j => U (k * 12 + j)) _ _ (by exact hi)).mono ?_; rintro e w2 ⟨rfl, hb2⟩; obtain ⟨hc2, hf2⟩ := bcell hb2; have hz2 := hb2.size; (try simp only [World.size_drew, World.size_alloc, World.size_setCell] at hc2 hf2 hz2); have hk3 := fun o => hc2 b o (by omega); clear hc2 hf2); (try go_wp2_with fail); refine tr hK (fun hHeld => ?_); clear hK K)
            refine tq 5 hHeld ?_
            refine tq 6 hHeld ?_
            refine tq 7 hHeld ?_
            refine tq 8 hHeld ?_
            refine tq 9 hHeld ?_
            refine tn 10 hHeld ?_
            refine tn 11 hHeld ?_
            refine tn 12 hHeld ?_
            refine tn 13 hHeld ?_
            refine tn 14 hHeld ?_
            refine tn 15 hHeld ?_
            refine tn 16 hHeld ?_
            refine tn 17 hHeld ?_
            refine tn 18 hHeld ?_
            refine tn 19 hHeld ?_
            refine tn 20 hHeld ?_
            refine tn 21 hHeld ?_
            refine tq 22 hHeld ?_
            refine tq 23 hHeld ?_
            refine wpAnyH_done (by kernel_rfl) ?_ _
            go_wp2_with fail
            go_roundw
            case rel => exact ⟨k + 1, by omega, by go_num, hB.trans (hb2.ofDr.mono hB.size), by rw [allBB, hall.out, hyes.out]; rfl⟩
            case measure => simp [intOf]; omega
      · obtain rfl : k = n := by omega
        by_cases h12 : k ≤ 12
        · have h12' : (k : Int) ≤ 12 := by omega
          go_wp2
          go_ret
          exact ⟨by rw [bodsB, hall.out, decide_eq_true h12]; rfl, hB⟩
        · have h12' : ¬ (k : Int) ≤ 12 := by omega
          go_wp2
          go_ret
          exact ⟨by rw [bodsB, decide_eq_false h12]; rfl, hB⟩
theorem sBodiesOk_q (a : Option Addr) (n c : Nat) (U : Nat → Int) (b : Bool) (w : World) (h : Flat w a (n * 12) U) (hn : n ≤ 1048576) (e : bodsB n U = b) :
    Calls Tryz.prog 27 #[.slice a n c] w fun e w' => e = .returned (.bool b) ∧ Below w.heap.size w w' := by subst e; exact sBodiesOk_any a n c U w h hn
theorem columnsOf_ok (a : Option Addr) (n c : Nat) (U : Nat → Int) (w : World) (h : Flat w a (n * 12) U) (hn : n ≤ 1048576) (e : bodsB n U = true) :
    Calls Tryz.prog 63 #[.slice a n c] w fun e w' => ∃ cb S, e = .returned (.tuple #[.pointer (some ⟨cb, 0, none⟩), .bool true]) ∧ w.heap.size ≤ cb ∧ Cs w' cb n (colOf U) S ∧ Below w.heap.size w w' :=
  (columnsOf_any a n c U w h hn).mono fun e' w' q => by
    obtain ⟨q1, (⟨_, cb, S, q2, q3, q4⟩ | ⟨q2, _⟩)⟩ := q
    · exact ⟨cb, S, q2, q3, q4, q1⟩
    · rw [e] at q2; cases q2
theorem columnsOf_no (a : Option Addr) (n c : Nat) (U : Nat → Int) (w : World) (h : Flat w a (n * 12) U) (hn : n ≤ 1048576) (e : bodsB n U = false) :
    Calls Tryz.prog 63 #[.slice a n c] w fun e w' => e = .returned (.tuple #[.pointer none, .bool false]) ∧ Below w.heap.size w w' :=
  (columnsOf_any a n c U w h hn).mono fun e' w' q => by
    obtain ⟨q1, (⟨q2, _⟩ | ⟨_, q2⟩)⟩ := q
    · rw [e] at q2; cases q2
    · exact ⟨q2, q1⟩
end Go.Proofs.YtneacpfdmocifaaGreat
namespace Go.Proofs.YtneacpfdmocifaaGreat
open Go.RowKit
set_option linter.unusedVariables false
set_option linter.unusedSimpArgs false

theorem l5Touch_q (k1 g1 h1 x y k2 g2 h2 u v X Y D : Int) (K : Bool) (w : World) (s1 : shB k1 g1 h1 = true) (s2 : shB k2 g2 h2 = true) (p1 : inB 2560000 x y = true) (p2 : inB 2560000 u v = true) (e : toT k1 g1 h1 x y k2 g2 h2 u v = ((X, Y, D), K)) :
    Calls Tryz.prog 106 #[s3 k1 g1 h1, vv x y, s3 k2 g2 h2, vv u v] w fun e w' => e = .returned (.tuple #[s3 X Y D, .bool K]) ∧ Below w.heap.size w w' := by
  have e2 : toT k1 g1 h1 x y k2 g2 h2 u v = tcT k1 g1 h1 x y k2 g2 h2 u v := by unfold toT; rw [if_pos (by simp [*])]
  rw [e2] at e
  obtain ⟨px, py⟩ := inB_of p1
  obtain ⟨pu, pv⟩ := inB_of p2
  rcases shB_kinds s1 with ⟨rfl, rfl, a1, a2⟩ | ⟨rfl, a1, a2, a3, a4⟩ <;> rcases shB_kinds s2 with ⟨rfl, rfl, b1, b2⟩ | ⟨rfl, b1, b2, b3, b4⟩
  · exact sT_rr g1 g2 x y u v X Y D K w ⟨a1, a2⟩ ⟨b1, b2⟩ px py pu pv (by simpa [tcT] using e)
  · exact sT_rb g1 g2 h2 x y u v X Y D K w ⟨a1, a2⟩ ⟨b1, b2⟩ ⟨b3, b4⟩ px py pu pv (by simpa [tcT] using e)
  · exact sT_br g1 h1 g2 x y u v X Y D K w ⟨a1, a2⟩ ⟨a3, a4⟩ ⟨b1, b2⟩ px py pu pv (by simpa [tcT] using e)
  · exact sT_bb g1 h1 g2 h2 x y u v X Y D K w ⟨a1, a2⟩ ⟨a3, a4⟩ ⟨b1, b2⟩ ⟨b3, b4⟩ px py pu pv (by simpa [tcT] using e)
theorem bods_sh {U : Nat → Int} {n k : Nat} (h : bodsB n U = true) (l : k < n) : shB (U (k * 12 + 1)) (U (k * 12 + 2)) (U (k * 12 + 3)) = true ∧ inB 2560000 (U (k * 12 + 4)) (U (k * 12 + 5)) = true := by
  unfold bodsB at h
  rw [Bool.and_eq_true] at h
  have h2 : bodyB (fun j => U (k * 12 + j)) = true := by
    have key : ∀ m, allBB U m = true → k < m → stepBB U k = true := by
      intro m
      induction m with
      | zero => intro _ l; omega
      | succ m ih =>
        intro hm l
        unfold allBB at hm
        rw [Bool.and_eq_true] at hm
        by_cases e : k = m
        · subst e; exact hm.2
        · exact ih hm.1 (by omega)
    have := key n h.2 l
    unfold stepBB at this
    rw [Bool.and_eq_true] at this
    exact this.1
  unfold bodyB at h2
  simp only [Bool.and_eq_true] at h2
  exact ⟨h2.2.1, h2.2.2.1⟩
theorem flat5 (w : World) (p q r s u : Int) (t : TypeId) : Flat (w.alloc (Obj.cells #[.int .i64 p, .int .i64 q, .int .i64 r, .int .i64 s, .int .i64 u] t)) (some ⟨w.heap.size, 0, none⟩) (1 * 5) (ofL [p, q, r, s, u]) := by
  intro _
  refine ⟨w.heap.size, 0, rfl, by simp, fun j hj => ?_⟩
  rw [Nat.zero_add]
  rcases (show j = 0 ∨ j = 1 ∨ j = 2 ∨ j = 3 ∨ j = 4 by omega) with rfl | rfl | rfl | rfl | rfl <;> (simp only [ofL]; go_simp; (try rfl))

set_option maxRecDepth 20000 in
set_option maxHeartbeats 8000000 in
theorem l7Contacts_any (a : Option Addr) (n c : Nat) (U : Nat → Int) (w : World) (h : Flat w a (n * 12) U) (hok : bodsB n U = true) (hn : n ≤ 12) :
    Calls Tryz.prog 93 #[.slice a n c] w fun e w' => ∃ a' m c', e = .returned (.slice a' m c') ∧ (conL (colOf U) n).length = m * 5 ∧ OutL w w' 138 5 a' m c' (ofL (conL (colOf U) n)) := by
  have hset := cset_map
  go_enter Tryz.func93, Tryz.ntmps93
  go_wp2
  go_loopw [3, 4, 5, 6, 7] (fun s3 s4 _ _ _ wr => ∃ i a' m c', i ≤ n ∧ s4 = .int .i64 (i : Int) ∧ s3 = .slice a' m c' ∧ LsV w wr 138 5 a' m c' (conOut (colOf U) n i)) (fun _ s4 _ _ _ _ => n - (intOf s4).toNat)
  case atStart => exact ⟨0, _, _, _, Nat.zero_le _, rfl, rfl, LsV.new w _ _⟩
  case round =>
    obtain ⟨i, a', m, c', hi, rfl, rfl, hL⟩ := hrel
    by_cases hlt : i < n
    · have hin : (i : Int) < (n : Int) := by omega
      obtain ⟨b, o, rfl, hbl, hc⟩ := h (by omega)
      obtain ⟨si, qi⟩ := bods_sh hok hlt
      obtain ⟨mm, hm1, hm2⟩ := conOut_len (colOf U) n i
      have hm6 : i * n ≤ 12 * 12 := Nat.mul_le_mul (by omega) hn
      go_wp2
      go_loopw [3, 5, 6, 7] (fun s3 s5 _ _ wr => ∃ k a' m c', i < k ∧ k ≤ n ∧ s5 = .int .i64 (k : Int) ∧ s3 = .slice a' m c' ∧ LsV w wr 138 5 a' m c' (conOut (colOf U) n i ++ conIn (colOf U) i k)) (fun _ s5 _ _ _ => n - (intOf s5).toNat)
      case atStart => exact ⟨i + 1, _, _, _, by omega, by omega, by go_num, rfl, by rw [conIn_ge i (i + 1) (Nat.le_refl _), List.append_nil]; exact hL⟩
      case round =>
        clear hL
        obtain ⟨k, a2, m2, c2, hik, hk, rfl, rfl, hL⟩ := hrel
        by_cases hlk : k < n
        · have hkn : (k : Int) < (n : Int) := by omega
          obtain ⟨sk, qk⟩ := bods_sh hok hlk
          obtain ⟨mk, hm3, hm4⟩ := conIn_len (colOf U) i k
          have hm5 := hL.len
          rw [List.length_append, hm1, hm3] at hm5
          have hc' : ∀ q, q < n * 12 → wr.cell? ⟨b, o + q, none⟩ = some (.int .i64 (U q)) := fun q hq => (hL.bel.cell (p := ⟨b, o + q, none⟩) hbl).trans (hc q hq)
          have hzr := hL.bel.size
          have ci1 := hc' (i * 12 + 1) (by omega)
          have ck1 := hc' (k * 12 + 1) (by omega)
          have ci2 := hc' (i * 12 + 2) (by omega)
          have ck2 := hc' (k * 12 + 2) (by omega)
          have ci3 := hc' (i * 12 + 3) (by omega)
          have ck3 := hc' (k * 12 + 3) (by omega)
          have ci4 := hc' (i * 12 + 4) (by omega)
          have ck4 := hc' (k * 12 + 4) (by omega)
          have ci5 := hc' (i * 12 + 5) (by omega)
          have ck5 := hc' (k * 12 + 5) (by omega)
          have ci8 := hc' (i * 12 + 8) (by omega)
          have ck8 := hc' (k * 12 + 8) (by omega)
          simp only [← Nat.add_assoc] at ci1 ck1 ci2 ck2 ci3 ck3 ci4 ck4 ci5 ck5 ci8 ck8
          clear hc'
          by_cases hfx : U (i * 12 + 8) = 0 ∧ U (k * 12 + 8) = 0
          · obtain ⟨f1, f2⟩ := hfx
            have hno : Shut (conOne (colOf U) i k = []) := conOne_no (by unfold conB colOf; rw [f1, f2]; simp)
            rw [f1] at ci8
            rw [f2] at ck8
            go_wp2
            go_roundw
            case rel => exact ⟨k + 1, _, _, _, by omega, by omega, by go_num, rfl, by rw [conIn, hno.out, List.append_nil]; exact hL⟩
            case measure => simp [intOf]; omega
          · obtain ⟨TX, TY, TD, TJ, hT⟩ : ∃ TX TY TD TJ, tcH (colOf U) i k = ((TX, TY, TD), TJ) := ⟨_, _, _, _, rfl⟩
            have hfx' : Shut (¬ (U (i * 12 + 8) = 0 ∧ U (k * 12 + 8) = 0)) := hfx
            have key : ∀ (g : Prop), (U (i * 12 + 8) ≠ 0 → g) → (U (i * 12 + 8) = 0 → U (k * 12 + 8) ≠ 0 → g) → g := fun g h1 h2 => by
              by_cases e : U (i * 12 + 8) = 0
              · exact h2 e (fun e2 => hfx ⟨e, e2⟩)
              · exact h1 e
            clear hfx
            go_upto_region 8 with fail
            go_cut [36] (fun s wc => s = .bool false ∧ wr = wc)
            case first =>
              refine key _ (fun e => ?_) (fun e1 e2 => ?_)
              · have e' : decide (U (i * 12 + 8) = 0) = false := decide_eq_false e
                have e3 : (U (i * 12 + 8) == 0) = false := by simp [e]
                go_wp2
                go_meet
                exact ⟨by first | rfl | simp [e3], rfl⟩
              · have e' : decide (U (k * 12 + 8) = 0) = false := decide_eq_false e2
                have e3 : (U (k * 12 + 8) == 0) = false := by simp [e2]
                rw [e1] at ci8
                go_wp2
                go_meet
                exact ⟨by first | rfl | simp [e3], rfl⟩
            case rest =>
            obtain ⟨rfl, rfl⟩ := hcut
            clear key ci8 ck8
            go_upto_region 9 with fail
            go_cut [6, 7] (fun s6 s7 wd => ∃ bh, s6 = .pointer (some ⟨bh, 0, none⟩) ∧ s7 = .bool TJ ∧ wd.cell? ⟨bh, 0, none⟩ = some (.int .i64 TX) ∧ wd.cell? ⟨bh, 1, none⟩ = some (.int .i64 TY) ∧ wd.cell? ⟨bh, 2, none⟩ = some (.int .i64 TD) ∧ bh < wd.heap.size ∧ wr.heap.size ≤ bh ∧ Below wr.heap.size wr wd)
            case first =>
              refine wp_region_held_drew (S := fun w' => w'.cell? ⟨b, o + i * 12 + 1, none⟩ = some (.int .i64 (U (i * 12 + 1))) ∧ w'.cell? ⟨b, o + i * 12 + 2, none⟩ = some (.int .i64 (U (i * 12 + 2))) ∧ w'.cell? ⟨b, o + i * 12 + 3, none⟩ = some (.int .i64 (U (i * 12 + 3))) ∧ w'.cell? ⟨b, o + i * 12 + 4, none⟩ = some (.int .i64 (U (i * 12 + 4))) ∧ w'.cell? ⟨b, o + i * 12 + 5, none⟩ = some (.int .i64 (U (i * 12 + 5))) ∧ w'.cell? ⟨b, o + k * 12 + 1, none⟩ = some (.int .i64 (U (k * 12 + 1))) ∧ w'.cell? ⟨b, o + k * 12 + 2, none⟩ = some (.int .i64 (U (k * 12 + 2))) ∧ w'.cell? ⟨b, o + k * 12 + 3, none⟩ = some (.int .i64 (U (k * 12 + 3))) ∧ w'.cell? ⟨b, o + k * 12 + 4, none⟩ = some (.int .i64 (U (k * 12 + 4))) ∧ w'.cell? ⟨b, o + k * 12 + 5, none⟩ = some (.int .i64 (U (k * 12 + 5)))) (by kernel_rfl) ?_ (fun hHeld => ?_)
              · (try dsimp only)
                (first | (go_simp; done) | (go_keep; done))
              refine tq 0 hHeld ?_
              refine tq 1 hHeld ?_
              refine tq 2 hHeld ?_
              refine tq 3 hHeld ?_
              refine tq 4 hHeld ?_
              refine tq 5 hHeld ?_
              refine tq 6 hHeld ?_
              refine tq 7 hHeld ?_
              refine tq 8 hHeld ?_
              refine tq 9 hHeld ?_
              refine tq 10 hHeld ?_
              refine tq 11 hHeld ?_
              refine tq 12 hHeld ?_
              refine tq 13 hHeld ?_
              refine tq 14 hHeld ?_
              refine tq 15 hHeld ?_
              refine tq 16 hHeld ?_
              refine tq 17 hHeld ?_
              refine tq 18 hHeld ?_
              refine tq 19 hHeld ?_
              refine wpAnyH_ready (rs := [20, 24]) (by kernel_rfl) (by simp) ?_
              refine AllReadyH.cons rfl (fun K hK => ?_) (AllReadyH.cons rfl (fun K hK => ?_) AllReadyH.nil)
              · (go_simp; (go_at_call 106; refine (l5Touch_q _ _ _ _ _ _ _ _ _ _ TX TY TD TJ _ si sk qi qk hT).mono ?_; rintro e w3 ⟨rfl, hb3⟩; obtain ⟨hc3, hf3⟩ := bcell hb3; have hz3 := hb3.size; (try simp only [World.size_drew, World.size_alloc, World.size_setCell] at hc3 hf3 hz3); have hk3x0 := fun o => hc3 (b) o (by omega); have hj3x0 := fun o => hf3 (b) o (by omega); have hq3x0 : b < w3.heap.size := (by omega); clear hc3 hf3; have hk3z := fun o => hb3.cell (p := ⟨wr.heap.size, o, none⟩); have hj3z := fun o => hb3.frozen (p := ⟨wr.heap.size, o, none⟩); (try simp only [World.size_drew, World.size_alloc] at hk3z hj3z)); (try go_wp2_with fail); refine tr hK (fun hHeld => ?_); clear hK K)
                refine tq 21 hHeld ?_
                refine tq 22 hHeld ?_
                refine tq 23 hHeld ?_
                refine tc 24 fun K hK => ?_
                (go_simp; refine tr hK (fun hHeld => ?_); clear hK K)
                refine tc 25 fun K hK => ?_
                (go_simp; refine tr hK (fun hHeld => ?_); clear hK K)
                refine tq 26 hHeld ?_
                refine wpAnyH_done (by kernel_rfl) ?_ _
                go_wp2_with fail
                go_meet
                exact ⟨_, rfl, rfl, by go_simp, by go_simp, by go_simp, by first | (simp; omega) | simp | omega, by first | (simp; omega) | simp | omega, bel_a⟩
              · (go_simp; refine tr hK (fun hHeld => ?_); clear hK K)
                refine tc 20 fun K hK => ?_
                (go_simp; (go_at_call 106; refine (l5Touch_q _ _ _ _ _ _ _ _ _ _ TX TY TD TJ _ si sk qi qk hT).mono ?_; rintro e w3 ⟨rfl, hb3⟩; obtain ⟨hc3, hf3⟩ := bcell hb3; have hz3 := hb3.size; (try simp only [World.size_drew, World.size_alloc, World.size_setCell] at hc3 hf3 hz3); have hk3x0 := fun o => hc3 (b) o (by omega); have hj3x0 := fun o => hf3 (b) o (by omega); have hq3x0 : b < w3.heap.size := (by omega); clear hc3 hf3; have hk3z := fun o => hb3.cell (p := ⟨wr.heap.size, o, none⟩); have hj3z := fun o => hb3.frozen (p := ⟨wr.heap.size, o, none⟩); (try simp only [World.size_drew, World.size_alloc] at hk3z hj3z)); (try go_wp2_with fail); refine tr hK (fun hHeld => ?_); clear hK K)
                refine tq 21 hHeld ?_
                refine tq 22 hHeld ?_
                refine tq 23 hHeld ?_
                refine tc 25 fun K hK => ?_
                (go_simp; refine tr hK (fun hHeld => ?_); clear hK K)
                refine tq 26 hHeld ?_
                refine wpAnyH_done (by kernel_rfl) ?_ _
                go_wp2_with fail
                go_meet
                exact ⟨_, rfl, rfl, by go_simp, by go_simp, by go_simp, by first | (simp; omega) | simp | omega, by first | (simp; omega) | simp | omega, bel_a⟩
            case rest =>
            obtain ⟨bh, rfl, rfl, t0, t1, t2, hbh, hbh0, hbd⟩ := hcut
            have hLd := hL.below hbd
            cases TJ with
            | false =>
              have hno : Shut (conOne (colOf U) i k = []) := conOne_no (by unfold conB; rw [hT]; simp)
              go_wp2
              go_roundw
              case rel => exact ⟨k + 1, _, _, _, by omega, by omega, by go_num, rfl, by rw [conIn, hno.out, List.append_nil]; exact hLd⟩
              case measure => simp [intOf]; omega
            | true =>
              have hyes : Shut (conOne (colOf U) i k = [(i : Int), (k : Int), TX, TY, TD]) := conOne_yes (conB_yes hik hfx'.out hT) hT
              go_wp2_with (refine wpList_app rfl _ _ _ rfl w.heap.size 138 5 40 (.agg #[.int .i64 0, .int .i64 0, .int .i64 0, .int .i64 0, .int .i64 0]) Tryz.underlying126 (by kernel_rfl) (by rfl) (by omega) (.slice a2 m2 c2) m2 (ofL (conOut (colOf U) n i ++ conIn (colOf U) i k)) rfl (hLd.below ((Below.refl _ _).alloc (Nat.le_refl _) _)).own _ 1 _ (ofL [(i : Int), (k : Int), TX, TY, TD]) rfl (flat5 _ _ _ _ _ _ _) (by unfold maxLen; omega) (by omega) (by simp only [World.size_alloc]; have := hLd.bel.size; omega) ?_; intro a1 c1 w1 ho1 hg1)
              have hP := (hLd.below ((Below.refl _ _).alloc (Nat.le_refl _) _)).push (x := [(i : Int), (k : Int), TX, TY, TD]) rfl hg1 ho1
              go_roundw
              case rel => exact ⟨k + 1, _, _, _, by omega, by omega, by go_num, rfl, by rw [conIn, hyes.out, ← List.append_assoc]; exact hP⟩
              case measure => simp [intOf]; omega
        · obtain rfl : k = n := by omega
          go_wp2
          go_roundw
          case rel => exact ⟨i + 1, _, _, _, by omega, by go_num, rfl, hL⟩
          case measure => simp [intOf]; omega
    · obtain rfl : i = n := by omega
      go_wp2
      go_ret
      exact ⟨_, _, _, rfl, hL.len, hL.bel, hL.own⟩
end Go.Proofs.YtneacpfdmocifaaGreat
namespace Go.Proofs.YtneacpfdmocifaaGreat
open Go.RowKit
set_option linter.unusedVariables false
set_option linter.unusedSimpArgs false
def lenS (L : Nat → Nat) : Nat → Nat
  | 0 => 0
  | k + 1 => lenS L k + L k
theorem lenS_mono (L : Nat → Nat) : ∀ (k r : Nat), k ≤ r → lenS L k ≤ lenS L r
  | k, 0, h => by rw [Nat.le_zero.1 h]; exact Nat.le_refl _
  | k, r + 1, h => by
    rcases Nat.lt_or_eq_of_le h with h | h
    · exact Nat.le_trans (lenS_mono L k r (by omega)) (show lenS L r ≤ lenS L r + L r by omega)
    · rw [h]; exact Nat.le_refl _
abbrev zcBody : Value := .agg #[.int .i64 0, .int .i64 0, .int .i64 0, .int .i64 0, .int .i64 0, .int .i64 0, .int .i64 0, .int .i64 0, .int .i64 0, .int .i64 0, .int .i64 0, .int .i64 0]
theorem infoItBody : (Tryz.prog.info? 38).map (fun i => (i.zero, i.size, i.bytes)) = some (some zcBody, 12, 96) := by kernel_rfl
set_option maxRecDepth 20000 in
theorem growBody (n : Nat) (w : World) (hn : n ≤ 2097152) (U : Nat → Int) :
    Calls Tryz.prog 70 #[.slice none 0 0, .int .i64 (n : Int)] w fun e w' => ∃ a c, e = .returned (.slice a 0 c) ∧ OwnL w' w.heap.size 38 12 (.slice a 0 c) 0 U ∧ Below w.heap.size w w' := by
  by_cases h0 : n = 0
  · subst h0
    go_enter Tryz.func70, Tryz.ntmps70
    go_wp2
    go_ret
    exact ⟨none, 0, rfl, OwnL.nil _ _ _ _ _, Below.refl _ _⟩
  · have hp : (0 : Int) < (n : Int) := by omega
    have hnn : ¬ ((n : Int) < 0) := by omega
    obtain ⟨i, hi, hzz⟩ := Option.map_eq_some_iff.1 infoItBody
    simp only [Prod.mk.injEq] at hzz
    obtain ⟨hz, hs, hb⟩ := hzz
    have hr := Go.Lib.run_append_nil_zeros (P := Tryz.prog) w 23 3 23 38 i zcBody .i64 .i64 Tryz.underlying23 Tryz.underlying3 hi hz n (by omega) (by rw [hs]; decide) (by omega) (by rw [hb]; omega)
    have hcap := grownCap_ge w n 0 38
    have hmax := grownCap_le_maxLen w n 0 38 (by unfold maxLen; omega)
    have hM : (Builtin.zeroCells zcBody.cells n ++ Builtin.zeroCells zcBody.cells (grownCap w n 0 38 - n)).size = grownCap w n 0 38 * 12 := by
      rw [Array.size_append, size_zeroCells, size_zeroCells, ← Nat.add_mul, Nat.add_sub_cancel' hcap]; rfl
    generalize grownCap w n 0 38 = cp at hr hcap hmax hM
    generalize Builtin.zeroCells zcBody.cells n ++ Builtin.zeroCells zcBody.cells (cp - n) = M at hr hM
    have hcp : 0 ≤ (cp : Int) := by omega
    go_enter Tryz.func70, Tryz.ntmps70
    go_wp2_with (refine Go.Lib.wpList_append_run _ rfl _ _ _ _ rfl _ _ rfl rfl _ _ hr ?_)
    go_ret
    refine ⟨_, _, rfl, ?_, (Below.refl _ _).drew.alloc (by simp) _⟩
    refine ⟨by simp [numL], .inr ⟨w.heap.size, cp, M, rfl, Nat.le_refl _, ?_, Nat.zero_le _, hmax, hM, by simp [numL]⟩⟩
    exact Go.Deep.blk_alloc_new w.drew (.cells M 38)
def catSBody (L : Nat → Nat) (X : Nat → Nat → Int) : Nat → Nat → Int
  | 0 => fun _ => 0
  | k + 1 => cat (lenS L k * 12) (catSBody L X k) (X k)
set_option maxRecDepth 20000 in
set_option maxHeartbeats 4000000 in
theorem concatBody (b0 r c0 : Nat) (A : Nat → Option Addr) (L C : Nat → Nat) (X : Nat → Nat → Int) (w : World) (hb0 : b0 < w.heap.size) (hr : r ≤ 3)
    (hc : ∀ j, j < r → w.cell? ⟨b0, j, none⟩ = some (.slice (A j) (L j) (C j))) (hF : ∀ j, j < r → Flat w (A j) (L j * 12) (X j)) (hL : lenS L r ≤ 2097152) :
    Calls Tryz.prog 38 #[.slice (some ⟨b0, 0, none⟩) r c0] w fun e w' => ∃ a c, e = .returned (.slice a (lenS L r) c) ∧ OwnL w' w.heap.size 38 12 (.slice a (lenS L r) c) (lenS L r) (catSBody L X r) ∧ Below w.heap.size w w' := by
  go_enter Tryz.func38, Tryz.ntmps38
  go_wp2
  go_loop [3, 11] (fun s i => ∃ k : Nat, k ≤ r ∧ i = .int .i64 (k : Int) ∧ s = .int .i64 (lenS L k : Int)) (fun _ i => r - (intOf i).toNat)
  case atStart => exact ⟨0, Nat.zero_le _, rfl, rfl⟩
  case round =>
    obtain ⟨k, hk, rfl, rfl⟩ := hrel
    by_cases hlt : k < r
    · have hkr : (k : Int) < (r : Int) := by omega
      have c1 := hc k hlt
      have hm := lenS_mono L (k + 1) r (by omega)
      have hs : lenS L (k + 1) = lenS L k + L k := rfl
      have hnn : ¬ ((lenS L k : Int) + (L k : Int) < 0) := by omega
      go_wp2
      go_round
      case rel => exact ⟨k + 1, by omega, by go_num, by rw [hs]; go_num⟩
      case measure => simp [intOf]; omega
    · obtain rfl : k = r := by omega
      go_wp2_with (go_at_call 70; refine (growBody _ _ (by omega) (fun _ => 0)).mono ?_; rintro e w1 ⟨a1, c1, rfl, ho1, hb1⟩)
      go_loopw [6, 27] (fun s i wr => ∃ (j : Nat) (a c : _) , j ≤ k ∧ i = .int .i64 (j : Int) ∧ s = .slice a (lenS L j) c ∧ OwnL wr w.heap.size 38 12 (.slice a (lenS L j) c) (lenS L j) (catSBody L X j) ∧ Below w.heap.size w wr) (fun _ i _ => k - (intOf i).toNat)
      case atStart => exact ⟨0, a1, c1, Nat.zero_le _, rfl, rfl, ho1, hb1⟩
      case round =>
        obtain ⟨j, a, c, hj, rfl, rfl, ho, hB⟩ := hrel
        have hsz := hB.size
        by_cases hlt2 : j < k
        · have hkr : (j : Int) < (k : Int) := by omega
          have c2 : wr.cell? ⟨b0, j, none⟩ = some (.slice (A j) (L j) (C j)) := (hB.cell (p := ⟨b0, j, none⟩) hb0).trans (hc j hlt2)
          have hm := lenS_mono L (j + 1) k (by omega)
          have hs : lenS L (j + 1) = lenS L j + L j := rfl
          have hFj : Flat wr (A j) (L j * 12) (X j) := (hF j hlt2).below hB
          have HS : Shut (lenS L (j + 1) = lenS L j + L j) := hs
          clear hs
          go_wp2_with (refine wpList_app rfl _ _ _ rfl w.heap.size 38 12 96 zcBody Tryz.underlying23 infoItBody rfl (by decide) _ _ _ rfl ho _ _ _ _ rfl hFj (by unfold maxLen; have := HS.out; omega) (by have := HS.out; omega) hsz ?_; intro a2 c2 w2 ho2 hg2)
          go_roundw
          case rel => exact ⟨j + 1, a2, c2, by omega, by go_num, by rw [HS.out], by have := HS.out; rw [this]; exact ho2, hB.grown hg2 hsz (fun b hb => (ho.lt b hb).1)⟩
          case measure => simp [intOf]; omega
        · obtain rfl : j = k := by omega
          go_wp2
          go_ret
          exact ⟨a, c, rfl, ho, hB⟩
theorem cat0Body (X Y : Nat → Int) : ∀ q, cat (0 * 12) X Y q = Y q := by intro q; simp [cat]
theorem concat1Body (b0 c0 : Nat) (a : Option Addr) (n c : Nat) (U : Nat → Int) (w : World) (hb0 : b0 < w.heap.size) (hc : w.cell? ⟨b0, 0, none⟩ = some (.slice a n c)) (hF : Flat w a (n * 12) U) (hn : n ≤ 2097152) :
    Calls Tryz.prog 38 #[.slice (some ⟨b0, 0, none⟩) 1 c0] w fun e w' => ∃ a' c', e = .returned (.slice a' n c') ∧ OwnL w' w.heap.size 38 12 (.slice a' n c') n U ∧ Below w.heap.size w w' := by
  have e : lenS (fun _ => n) 1 = n := by simp [lenS]
  have q := concatBody b0 1 c0 (fun _ => a) (fun _ => n) (fun _ => c) (fun _ => U) w hb0 (by omega) (fun j hj => by obtain rfl : j = 0 := (by omega); exact hc) (fun j _ => hF) (by omega)
  rw [e] at q
  refine q.mono ?_
  rintro e w' ⟨a', c', h1, h2, h3⟩
  exact ⟨a', c', h1, h2.congr fun q _ => by simp only [catSBody, lenS]; exact cat0Body _ _ q, h3⟩
abbrev zcPair : Value := .agg #[.int .i64 0, .int .i64 0]
theorem infoItPair : (Tryz.prog.info? 60).map (fun i => (i.zero, i.size, i.bytes)) = some (some zcPair, 2, 16) := by kernel_rfl
set_option maxRecDepth 20000 in
theorem growPair (n : Nat) (w : World) (hn : n ≤ 2097152) (U : Nat → Int) :
    Calls Tryz.prog 71 #[.slice none 0 0, .int .i64 (n : Int)] w fun e w' => ∃ a c, e = .returned (.slice a 0 c) ∧ OwnL w' w.heap.size 60 2 (.slice a 0 c) 0 U ∧ Below w.heap.size w w' := by
  by_cases h0 : n = 0
  · subst h0
    go_enter Tryz.func71, Tryz.ntmps71
    go_wp2
    go_ret
    exact ⟨none, 0, rfl, OwnL.nil _ _ _ _ _, Below.refl _ _⟩
  · have hp : (0 : Int) < (n : Int) := by omega
    have hnn : ¬ ((n : Int) < 0) := by omega
    obtain ⟨i, hi, hzz⟩ := Option.map_eq_some_iff.1 infoItPair
    simp only [Prod.mk.injEq] at hzz
    obtain ⟨hz, hs, hb⟩ := hzz
    have hr := Go.Lib.run_append_nil_zeros (P := Tryz.prog) w 24 3 24 60 i zcPair .i64 .i64 Tryz.underlying24 Tryz.underlying3 hi hz n (by omega) (by rw [hs]; decide) (by omega) (by rw [hb]; omega)
    have hcap := grownCap_ge w n 0 60
    have hmax := grownCap_le_maxLen w n 0 60 (by unfold maxLen; omega)
    have hM : (Builtin.zeroCells zcPair.cells n ++ Builtin.zeroCells zcPair.cells (grownCap w n 0 60 - n)).size = grownCap w n 0 60 * 2 := by
      rw [Array.size_append, size_zeroCells, size_zeroCells, ← Nat.add_mul, Nat.add_sub_cancel' hcap]; rfl
    generalize grownCap w n 0 60 = cp at hr hcap hmax hM
    generalize Builtin.zeroCells zcPair.cells n ++ Builtin.zeroCells zcPair.cells (cp - n) = M at hr hM
    have hcp : 0 ≤ (cp : Int) := by omega
    go_enter Tryz.func71, Tryz.ntmps71
    go_wp2_with (refine Go.Lib.wpList_append_run _ rfl _ _ _ _ rfl _ _ rfl rfl _ _ hr ?_)
    go_ret
    refine ⟨_, _, rfl, ?_, (Below.refl _ _).drew.alloc (by simp) _⟩
    refine ⟨by simp [numL], .inr ⟨w.heap.size, cp, M, rfl, Nat.le_refl _, ?_, Nat.zero_le _, hmax, hM, by simp [numL]⟩⟩
    exact Go.Deep.blk_alloc_new w.drew (.cells M 60)
def catSPair (L : Nat → Nat) (X : Nat → Nat → Int) : Nat → Nat → Int
  | 0 => fun _ => 0
  | k + 1 => cat (lenS L k * 2) (catSPair L X k) (X k)
set_option maxRecDepth 20000 in
set_option maxHeartbeats 4000000 in
theorem concatPair (b0 r c0 : Nat) (A : Nat → Option Addr) (L C : Nat → Nat) (X : Nat → Nat → Int) (w : World) (hb0 : b0 < w.heap.size) (hr : r ≤ 3)
    (hc : ∀ j, j < r → w.cell? ⟨b0, j, none⟩ = some (.slice (A j) (L j) (C j))) (hF : ∀ j, j < r → Flat w (A j) (L j * 2) (X j)) (hL : lenS L r ≤ 2097152) :
    Calls Tryz.prog 39 #[.slice (some ⟨b0, 0, none⟩) r c0] w fun e w' => ∃ a c, e = .returned (.slice a (lenS L r) c) ∧ OwnL w' w.heap.size 60 2 (.slice a (lenS L r) c) (lenS L r) (catSPair L X r) ∧ Below w.heap.size w w' := by
  go_enter Tryz.func39, Tryz.ntmps39
  go_wp2
  go_loop [3, 11] (fun s i => ∃ k : Nat, k ≤ r ∧ i = .int .i64 (k : Int) ∧ s = .int .i64 (lenS L k : Int)) (fun _ i => r - (intOf i).toNat)
  case atStart => exact ⟨0, Nat.zero_le _, rfl, rfl⟩
  case round =>
    obtain ⟨k, hk, rfl, rfl⟩ := hrel
    by_cases hlt : k < r
    · have hkr : (k : Int) < (r : Int) := by omega
      have c1 := hc k hlt
      have hm := lenS_mono L (k + 1) r (by omega)
      have hs : lenS L (k + 1) = lenS L k + L k := rfl
      have hnn : ¬ ((lenS L k : Int) + (L k : Int) < 0) := by omega
      go_wp2
      go_round
      case rel => exact ⟨k + 1, by omega, by go_num, by rw [hs]; go_num⟩
      case measure => simp [intOf]; omega
    · obtain rfl : k = r := by omega
      go_wp2_with (go_at_call 71; refine (growPair _ _ (by omega) (fun _ => 0)).mono ?_; rintro e w1 ⟨a1, c1, rfl, ho1, hb1⟩)
      go_loopw [6, 27] (fun s i wr => ∃ (j : Nat) (a c : _) , j ≤ k ∧ i = .int .i64 (j : Int) ∧ s = .slice a (lenS L j) c ∧ OwnL wr w.heap.size 60 2 (.slice a (lenS L j) c) (lenS L j) (catSPair L X j) ∧ Below w.heap.size w wr) (fun _ i _ => k - (intOf i).toNat)
      case atStart => exact ⟨0, a1, c1, Nat.zero_le _, rfl, rfl, ho1, hb1⟩
      case round =>
        obtain ⟨j, a, c, hj, rfl, rfl, ho, hB⟩ := hrel
        have hsz := hB.size
        by_cases hlt2 : j < k
        · have hkr : (j : Int) < (k : Int) := by omega
          have c2 : wr.cell? ⟨b0, j, none⟩ = some (.slice (A j) (L j) (C j)) := (hB.cell (p := ⟨b0, j, none⟩) hb0).trans (hc j hlt2)
          have hm := lenS_mono L (j + 1) k (by omega)
          have hs : lenS L (j + 1) = lenS L j + L j := rfl
          have hFj : Flat wr (A j) (L j * 2) (X j) := (hF j hlt2).below hB
          have HS : Shut (lenS L (j + 1) = lenS L j + L j) := hs
          clear hs
          go_wp2_with (refine wpList_app rfl _ _ _ rfl w.heap.size 60 2 16 zcPair Tryz.underlying24 infoItPair rfl (by decide) _ _ _ rfl ho _ _ _ _ rfl hFj (by unfold maxLen; have := HS.out; omega) (by have := HS.out; omega) hsz ?_; intro a2 c2 w2 ho2 hg2)
          go_roundw
          case rel => exact ⟨j + 1, a2, c2, by omega, by go_num, by rw [HS.out], by have := HS.out; rw [this]; exact ho2, hB.grown hg2 hsz (fun b hb => (ho.lt b hb).1)⟩
          case measure => simp [intOf]; omega
        · obtain rfl : j = k := by omega
          go_wp2
          go_ret
          exact ⟨a, c, rfl, ho, hB⟩
theorem cat0Pair (X Y : Nat → Int) : ∀ q, cat (0 * 2) X Y q = Y q := by intro q; simp [cat]
theorem concat1Pair (b0 c0 : Nat) (a : Option Addr) (n c : Nat) (U : Nat → Int) (w : World) (hb0 : b0 < w.heap.size) (hc : w.cell? ⟨b0, 0, none⟩ = some (.slice a n c)) (hF : Flat w a (n * 2) U) (hn : n ≤ 2097152) :
    Calls Tryz.prog 39 #[.slice (some ⟨b0, 0, none⟩) 1 c0] w fun e w' => ∃ a' c', e = .returned (.slice a' n c') ∧ OwnL w' w.heap.size 60 2 (.slice a' n c') n U ∧ Below w.heap.size w w' := by
  have e : lenS (fun _ => n) 1 = n := by simp [lenS]
  have q := concatPair b0 1 c0 (fun _ => a) (fun _ => n) (fun _ => c) (fun _ => U) w hb0 (by omega) (fun j hj => by obtain rfl : j = 0 := (by omega); exact hc) (fun j _ => hF) (by omega)
  rw [e] at q
  refine q.mono ?_
  rintro e w' ⟨a', c', h1, h2, h3⟩
  exact ⟨a', c', h1, h2.congr fun q _ => by simp only [catSPair, lenS]; exact cat0Pair _ _ q, h3⟩
end Go.Proofs.YtneacpfdmocifaaGreat
namespace Go.Proofs.YtneacpfdmocifaaGreat
open Go.RowKit
set_option linter.unusedVariables false
set_option linter.unusedSimpArgs false
theorem OwnL.fresh0 (w : World) (base t k : Nat) (U : Nat → Int) (s : Nat) (e : w.heap.size = s) (h : base ≤ w.heap.size) : OwnL (w.alloc (.cells #[] t)) base t k (.slice (Option.some ⟨s, 0, none⟩) 0 0) 0 U := by
  subst e
  exact ⟨by simp [numL], .inr ⟨w.heap.size, 0, #[], rfl, h, Go.Deep.blk_alloc_new _ _, Nat.le_refl _, Nat.zero_le _, by simp, by simp [numL]⟩⟩
theorem OwnL.drewO {w : World} {base t k n : Nat} {v : Value} {U : Nat → Int} (h : OwnL w base t k v n U) : OwnL w.drew base t k v n U := World.ownsRow.drew h
theorem cat_0 (k : Nat) (X Y : Nat → Int) : ∀ q, cat (0 * k) X Y q = Y q := by intro q; simp [cat]
section
variable {P : Program} {ops : Array Oper} {o : Oper} {a : Act} {w : World} {Q : Exit → Act → World → Prop}
theorem wpList_app0 {rest : List Oper} (hgd : o.guard = none) (s x : Operand) (t : TypeId) (ho : o.op = .call { callee := .builtin .append, args := #[s, x], argTypes := #[t, t] })
    (base e k bytes : Nat) (z : Value) (ht : P.underlying t = some (.slice e)) (hinfo : (P.info? e).map (fun i => (i.zero, i.size, i.bytes)) = some (some z, k, bytes)) (hzs : z.cells.size = k) (hk : 0 < k)
    (v : Value) (U : Nat → Int) (hs : a.eval s = v) (h : OwnL w base e k v 0 U) (ad : Option Addr) (m c : Nat) (X : Nat → Int) (hxx : a.eval x = .slice ad m c) (hx : Flat w ad (m * k) X)
    (h63 : m ≤ maxLen) (hbytes : m * bytes ≤ 140737488355328) (hbase : base ≤ w.heap.size)
    (hK : ∀ a' c' w', OwnL w' base e k (.slice a' m c') m X → w.grownBy w' v.ownBlock → wpList P ops Q rest (a.put o.dst (.slice a' m c')) w') : wpList P ops Q (o :: rest) a w :=
  wpList_app hgd s x t ho base e k bytes z ht hinfo hzs hk v 0 U hs h ad m c X hxx hx (by rw [Nat.zero_add]; exact h63) (by rw [Nat.zero_add]; exact hbytes) hbase fun a' c' w' h1 h2 => by
    rw [Nat.zero_add] at h1 ⊢
    exact hK a' c' w' (h1.congr fun q _ => cat_0 k _ _ q) h2
theorem step_app0 {K : Act → World → Prop} {E : Prop} (hgd : o.guard = none) (s x : Operand) (t : TypeId) (ho : o.op = .call { callee := .builtin .append, args := #[s, x], argTypes := #[t, t] })
    (base e k bytes : Nat) (z : Value) (ht : P.underlying t = some (.slice e)) (hinfo : (P.info? e).map (fun i => (i.zero, i.size, i.bytes)) = some (some z, k, bytes)) (hzs : z.cells.size = k) (hk : 0 < k)
    (v : Value) (U : Nat → Int) (hs : a.eval s = v) (h : OwnL w base e k v 0 U) (ad : Option Addr) (m c : Nat) (X : Nat → Int) (hxx : a.eval x = .slice ad m c) (hx : Flat w ad (m * k) X)
    (h63 : m ≤ maxLen) (hbytes : m * bytes ≤ 140737488355328) (hbase : base ≤ w.heap.size)
    (hK : ∀ a' c' w', OwnL w' base e k (.slice a' m c') m X → w.grownBy w' v.ownBlock → K (a.put o.dst (.slice a' m c')) w') :
    if Region.wanted o (yielded ops a.tmps) = true then Oper.wp P o a w K Q else E :=
  step_app hgd s x t ho base e k bytes z ht hinfo hzs hk v 0 U hs h ad m c X hxx hx (by rw [Nat.zero_add]; exact h63) (by rw [Nat.zero_add]; exact hbytes) hbase fun a' c' w' h1 h2 => by
    rw [Nat.zero_add] at h1 ⊢
    exact hK a' c' w' (h1.congr fun q _ => cat_0 k _ _ q) h2
end
set_option maxRecDepth 20000 in
set_option maxHeartbeats 4000000 in
theorem l8Copy_any (a : Option Addr) (n c : Nat) (U : Nat → Int) (w : World) (h : Flat w a (n * 12) U) (hn : n ≤ 1048576) :
    Calls Tryz.prog 44 #[.slice a n c] w fun e w' => ∃ a1 c1, e = .returned (.slice a1 n c1) ∧ OutL w w' 38 12 a1 n c1 U := by
  have hset := cset_map
  have hE : Below w.heap.size w (w.alloc (.cells #[] 38)) := (Below.refl _ _).alloc (Nat.le_refl _) _
  have ho := OwnL.fresh0 w w.heap.size 38 12 (fun _ => 0) _ rfl (Nat.le_refl _)
  go_enter Tryz.func44, Tryz.ntmps44
  go_wp2_with (refine wpList_app0 rfl _ _ _ rfl w.heap.size 38 12 96 zcBody Tryz.underlying23 infoItBody rfl (by decide) _ (fun _ => 0) rfl ho _ n _ U rfl (h.below hE) (by unfold maxLen; omega) (by omega) (by simp) ?_; intro a1 c1 w1 ho1 hg1)
  go_ret
  exact ⟨_, _, rfl, hE.grown hg1 (by simp) (fun b e => (ho.lt b e).1), ho1⟩

/-- a list of which one thing was replaced -/
def putRow (U : Nat → Int) (p : Nat) (V : Nat → Int) : Nat → Int := fun q => if p * 12 ≤ q ∧ q < p * 12 + 12 then V (q - p * 12) else U q
theorem put12 {w4 : World} {base n g c p : Nat} {U : Nat → Int} (h : OwnL w4 base 38 12 (.slice (some ⟨g, 0, none⟩) n c) n U) (hp : p < n) (V : Nat → Int) :
    OwnL ((((((((((((w4.setCell ⟨g, p * 12, none⟩ (.int .i64 (V 0))).setCell ⟨g, p * 12 + 1, none⟩ (.int .i64 (V 1))).setCell ⟨g, p * 12 + 2, none⟩ (.int .i64 (V 2))).setCell ⟨g, p * 12 + 3, none⟩ (.int .i64 (V 3))).setCell ⟨g, p * 12 + 4, none⟩ (.int .i64 (V 4))).setCell ⟨g, p * 12 + 5, none⟩ (.int .i64 (V 5))).setCell ⟨g, p * 12 + 6, none⟩ (.int .i64 (V 6))).setCell ⟨g, p * 12 + 7, none⟩ (.int .i64 (V 7))).setCell ⟨g, p * 12 + 8, none⟩ (.int .i64 (V 8))).setCell ⟨g, p * 12 + 9, none⟩ (.int .i64 (V 9))).setCell ⟨g, p * 12 + 10, none⟩ (.int .i64 (V 10))).setCell ⟨g, p * 12 + 11, none⟩ (.int .i64 (V 11))) base 38 12 (.slice (some ⟨g, 0, none⟩) n c) n (putRow U p V) := by
  have q1 := h.setq (p * 12) (by omega) (V 0)
  have q2 := q1.setq (p * 12 + 1) (by omega) (V 1)
  have q3 := q2.setq (p * 12 + 2) (by omega) (V 2)
  have q4 := q3.setq (p * 12 + 3) (by omega) (V 3)
  have q5 := q4.setq (p * 12 + 4) (by omega) (V 4)
  have q6 := q5.setq (p * 12 + 5) (by omega) (V 5)
  have q7 := q6.setq (p * 12 + 6) (by omega) (V 6)
  have q8 := q7.setq (p * 12 + 7) (by omega) (V 7)
  have q9 := q8.setq (p * 12 + 8) (by omega) (V 8)
  have q10 := q9.setq (p * 12 + 9) (by omega) (V 9)
  have q11 := q10.setq (p * 12 + 10) (by omega) (V 10)
  have q12 := q11.setq (p * 12 + 11) (by omega) (V 11)
  refine q12.congr fun q _ => ?_
  unfold putRow
  by_cases e : p * 12 ≤ q ∧ q < p * 12 + 12
  · rw [if_pos e]
    obtain ⟨d, rfl⟩ : ∃ d, q = p * 12 + d := ⟨q - p * 12, by omega⟩
    rw [Nat.add_sub_cancel_left]
    rcases (show d = 0 ∨ d = 1 ∨ d = 2 ∨ d = 3 ∨ d = 4 ∨ d = 5 ∨ d = 6 ∨ d = 7 ∨ d = 8 ∨ d = 9 ∨ d = 10 ∨ d = 11 by omega) with rfl | rfl | rfl | rfl | rfl | rfl | rfl | rfl | rfl | rfl | rfl | rfl <;> simp
  · rw [if_neg e]
    repeat rw [if_neg (by omega)]
theorem putFr {w4 : World} {g p : Nat} (V : Nat → Int) : Fr (fun b => b = g) w4 ((((((((((((w4.setCell ⟨g, p * 12, none⟩ (.int .i64 (V 0))).setCell ⟨g, p * 12 + 1, none⟩ (.int .i64 (V 1))).setCell ⟨g, p * 12 + 2, none⟩ (.int .i64 (V 2))).setCell ⟨g, p * 12 + 3, none⟩ (.int .i64 (V 3))).setCell ⟨g, p * 12 + 4, none⟩ (.int .i64 (V 4))).setCell ⟨g, p * 12 + 5, none⟩ (.int .i64 (V 5))).setCell ⟨g, p * 12 + 6, none⟩ (.int .i64 (V 6))).setCell ⟨g, p * 12 + 7, none⟩ (.int .i64 (V 7))).setCell ⟨g, p * 12 + 8, none⟩ (.int .i64 (V 8))).setCell ⟨g, p * 12 + 9, none⟩ (.int .i64 (V 9))).setCell ⟨g, p * 12 + 10, none⟩ (.int .i64 (V 10))).setCell ⟨g, p * 12 + 11, none⟩ (.int .i64 (V 11))) :=
  (((((((((((((Fr.refl (fun b => b = g) w4).trans (Fr.setCell (X := fun b => b = g) rfl _)).trans (Fr.setCell (X := fun b => b = g) rfl _)).trans (Fr.setCell (X := fun b => b = g) rfl _)).trans (Fr.setCell (X := fun b => b = g) rfl _)).trans (Fr.setCell (X := fun b => b = g) rfl _)).trans (Fr.setCell (X := fun b => b = g) rfl _)).trans (Fr.setCell (X := fun b => b = g) rfl _)).trans (Fr.setCell (X := fun b => b = g) rfl _)).trans (Fr.setCell (X := fun b => b = g) rfl _)).trans (Fr.setCell (X := fun b => b = g) rfl _)).trans (Fr.setCell (X := fun b => b = g) rfl _)).trans (Fr.setCell (X := fun b => b = g) rfl _))
theorem OutL.on {w w1 w2 : World} {t k n c : Nat} {a : Option Addr} {R : Nat → Int} (h : OutL w w1 t k a n c R) (hb : Below w1.heap.size w1 w2) : OutL w w2 t k a n c R := ⟨h.bel.trans (hb.mono h.bel.size), h.own.below hb⟩
set_option maxHeartbeats 2000000 in
theorem l6Sleeps_k (V : Nat → Int) (w : World) (b : Bool) (e : decide (8 ≤ V 11) = b) :
    Calls Tryz.prog 108 #[bodyW V] w fun e w' => e = .returned (.bool b) ∧ Below w.heap.size w w' := by
  have hset := cset_map
  subst e
  go_enter Tryz.func108, Tryz.ntmps108
  go_wp2_with fail
  go_ret
  exact ⟨ret_bool (by simp), bel_a⟩
set_option maxHeartbeats 4000000 in
theorem l6Speed_any (V : Nat → Int) (w : World) (b6 : -20000000 ≤ V 6 ∧ V 6 ≤ 20000000) (b7 : -20000000 ≤ V 7 ∧ V 7 ≤ 20000000) :
    Calls Tryz.prog 112 #[bodyW V] w fun e w' => e = .returned (vv (spX V) (spY V)) ∧ Below w.heap.size w w' := by
  have t6 := tdiv_bd (x := V 6) (B := 20000000) (V 8) (by omega)
  have t7 := tdiv_bd (x := V 7) (B := 20000000) (V 8) (by omega)
  have e6 : IntKind.i64.wrap ((V 6).tdiv (V 8)) = (V 6).tdiv (V 8) := i64w (by omega)
  have e7 : IntKind.i64.wrap ((V 7).tdiv (V 8)) = (V 7).tdiv (V 8) := i64w (by omega)
  have hset := cset_map
  unfold spX spY
  by_cases m : V 8 = 0
  · rw [if_pos m, if_pos m]
    go_enter Tryz.func112, Tryz.ntmps112
    go_wp2_with fail
    exact bodyPost_ret (v := vv 0 0) (by simp [results, Tryz.results112, go_sem, *]) rfl ⟨rfl, bel_a⟩
  · rw [if_neg m, if_neg m]
    go_enter Tryz.func112, Tryz.ntmps112
    go_upto_region 3 with fail
    refine wp_region_held_drew (S := fun w' => w'.cell? ⟨w.heap.size, 0, none⟩ = some (.int .i64 (V 0)) ∧ w'.cell? ⟨w.heap.size, 1, none⟩ = some (.int .i64 (V 1)) ∧ w'.cell? ⟨w.heap.size, 2, none⟩ = some (.int .i64 (V 2)) ∧ w'.cell? ⟨w.heap.size, 3, none⟩ = some (.int .i64 (V 3)) ∧ w'.cell? ⟨w.heap.size, 4, none⟩ = some (.int .i64 (V 4)) ∧ w'.cell? ⟨w.heap.size, 5, none⟩ = some (.int .i64 (V 5)) ∧ w'.cell? ⟨w.heap.size, 6, none⟩ = some (.int .i64 (V 6)) ∧ w'.cell? ⟨w.heap.size, 7, none⟩ = some (.int .i64 (V 7)) ∧ w'.cell? ⟨w.heap.size, 8, none⟩ = some (.int .i64 (V 8)) ∧ w'.cell? ⟨w.heap.size, 9, none⟩ = some (.int .i64 (V 9)) ∧ w'.cell? ⟨w.heap.size, 10, none⟩ = some (.int .i64 (V 10)) ∧ w'.cell? ⟨w.heap.size, 11, none⟩ = some (.int .i64 (V 11))) (by kernel_rfl) ?_ (fun hHeld => ?_)
    · (try dsimp only)
      (first | (go_simp; done) | (go_keep; done))
    refine tq 0 hHeld ?_
    refine tq 1 hHeld ?_
    refine tq 2 hHeld ?_
    refine tq 3 hHeld ?_
    refine tq 4 hHeld ?_
    refine tq 5 hHeld ?_
    refine tq 6 hHeld ?_
    refine tq 7 hHeld ?_
    refine tq 8 hHeld ?_
    refine tq 9 hHeld ?_
    refine tq 10 hHeld ?_
    refine tq 11 hHeld ?_
    refine tq 12 hHeld ?_
    (refine tc 13 fun K hK => ?_; go_simp; refine tr hK (fun hHeld => ?_); clear hK K)
    refine wpAnyH_done (by kernel_rfl) ?_ _
    go_wp2_with fail
    exact bodyPost_ret (v := vv ((V 6).tdiv (V 8)) ((V 7).tdiv (V 8))) (by simp [results, Tryz.results112, go_sem, *]) rfl ⟨rfl, bel_a⟩

end Go.Proofs.YtneacpfdmocifaaGreat
namespace Go.Proofs.YtneacpfdmocifaaGreat
open Go.RowKit
set_option linter.unusedVariables false
set_option linter.unusedSimpArgs false
/-- the first k rows changed -/
def mapR (f : Nat → (Nat → Int) → Nat → Int) (U : Nat → Int) (k : Nat) : Nat → Int := fun q => if q < k * 12 then f (q / 12) (fun j => U (q / 12 * 12 + j)) (q % 12) else U q
theorem mapR_0 (f : Nat → (Nat → Int) → Nat → Int) (U : Nat → Int) : mapR f U 0 = U := by funext q; unfold mapR; rw [if_neg (by omega)]
theorem mapR_row (f : Nat → (Nat → Int) → Nat → Int) (U : Nat → Int) (k j : Nat) : mapR f U k (k * 12 + j) = U (k * 12 + j) := by unfold mapR; rw [if_neg (by omega)]
theorem mapR_in {f : Nat → (Nat → Int) → Nat → Int} {U : Nat → Int} {k n j : Nat} (h : k < n) (hj : j < 12) : mapR f U n (k * 12 + j) = f k (fun j => U (k * 12 + j)) j := by
  unfold mapR
  rw [if_pos (by omega), show (k * 12 + j) / 12 = k by omega, show (k * 12 + j) % 12 = j by omega]
theorem mapR_set (f : Nat → (Nat → Int) → Nat → Int) (U : Nat → Int) (k : Nat) : putRow (mapR f U k) k (f k (fun j => U (k * 12 + j))) = mapR f U (k + 1) := by
  funext q
  unfold putRow
  by_cases h : k * 12 ≤ q ∧ q < k * 12 + 12
  · rw [if_pos h]
    obtain ⟨d, rfl⟩ : ∃ d, q = k * 12 + d := ⟨q - k * 12, by omega⟩
    rw [mapR_in (by omega) (by omega), Nat.add_sub_cancel_left]
  · rw [if_neg h]
    unfold mapR
    by_cases l : q < k * 12
    · rw [if_pos l, if_pos (by omega)]
    · rw [if_neg l, if_neg (by omega)]
theorem mapR_same {f : Nat → (Nat → Int) → Nat → Int} {U : Nat → Int} {k : Nat} (h : ∀ j, j < 12 → f k (fun j => U (k * 12 + j)) j = U (k * 12 + j)) : mapR f U (k + 1) = mapR f U k := by
  rw [← mapR_set]
  funext q
  unfold putRow
  by_cases e : k * 12 ≤ q ∧ q < k * 12 + 12
  · rw [if_pos e]
    obtain ⟨d, rfl⟩ : ∃ d, q = k * 12 + d := ⟨q - k * 12, by omega⟩
    rw [Nat.add_sub_cancel_left, h d (by omega), mapR_row]
  · rw [if_neg e]
theorem mapR_one {f : Nat → (Nat → Int) → Nat → Int} {U : Nat → Int} {k j : Nat} {x : Int} (hj : j < 12) (h : ∀ i, i < 12 → f k (fun j => U (k * 12 + j)) i = if i = j then x else U (k * 12 + i)) : (fun r => if r = k * 12 + j then x else mapR f U k r) = mapR f U (k + 1) := by
  rw [← mapR_set]
  funext q
  unfold putRow
  by_cases e : k * 12 ≤ q ∧ q < k * 12 + 12
  · rw [if_pos e]
    obtain ⟨d, rfl⟩ : ∃ d, q = k * 12 + d := ⟨q - k * 12, by omega⟩
    rw [Nat.add_sub_cancel_left, h d (by omega), mapR_row]
    by_cases e2 : d = j
    · rw [if_pos e2, if_pos (by omega)]
    · rw [if_neg e2, if_neg (by omega)]
  · rw [if_neg e, if_neg (by omega)]
theorem bodyB_cong {V W : Nat → Int} (h : ∀ j, j < 12 → V j = W j) : bodyB V = bodyB W := by
  unfold bodyB restB
  simp only [h 0 (by omega), h 1 (by omega), h 2 (by omega), h 3 (by omega), h 4 (by omega), h 5 (by omega), h 6 (by omega), h 7 (by omega), h 8 (by omega), h 9 (by omega), h 10 (by omega), h 11 (by omega)]
/-- bodies that are ok, said row by row -/
structure Bods (n : Nat) (U : Nat → Int) : Prop where
  le : n ≤ 12
  ok : ∀ k, k < n → bodyB (fun j => U (k * 12 + j)) = true
  asc : ∀ k, k + 1 < n → U (k * 12) < U ((k + 1) * 12)
theorem Bods.of {n : Nat} {U : Nat → Int} (h : bodsB n U = true) : Bods n U := by
  unfold bodsB at h
  rw [Bool.and_eq_true] at h
  have key : ∀ m, allBB U m = true → ∀ k, k < m → stepBB U k = true := by
    intro m
    induction m with
    | zero => intro _ k l; omega
    | succ m ih =>
      intro hm k l
      unfold allBB at hm
      rw [Bool.and_eq_true] at hm
      by_cases e : k = m
      · subst e; exact hm.2
      · exact ih hm.1 k (by omega)
  refine ⟨of_decide_eq_true h.1, fun k hk => ?_, fun k hk => ?_⟩
  · have := key n h.2 k hk
    unfold stepBB at this
    rw [Bool.and_eq_true] at this
    exact this.1
  · have := key n h.2 (k + 1) hk
    unfold stepBB at this
    simp at this
    exact this.2
theorem Bods.to {n : Nat} {U : Nat → Int} (h : Bods n U) : bodsB n U = true := by
  have key : ∀ m, m ≤ n → allBB U m = true := by
    intro m
    induction m with
    | zero => intro _; rfl
    | succ m ih =>
      intro hm
      unfold allBB
      rw [ih (by omega), Bool.true_and]
      unfold stepBB
      rw [h.ok m (by omega), Bool.true_and]
      by_cases e : m = 0
      · simp [e]
      · obtain ⟨k, rfl⟩ : ∃ k, m = k + 1 := ⟨m - 1, by omega⟩
        have := h.asc k (by omega)
        simp
        exact this
  unfold bodsB
  rw [key n (Nat.le_refl _), decide_eq_true h.le]
  rfl
/-- rows changed, each still a body, its number kept -/
theorem Bods.map {n : Nat} {U : Nat → Int} {f : Nat → (Nat → Int) → Nat → Int} (h : Bods n U) (hf : ∀ k, k < n → bodyB (f k (fun j => U (k * 12 + j))) = true) (h0 : ∀ k, k < n → f k (fun j => U (k * 12 + j)) 0 = U (k * 12)) : Bods n (mapR f U n) := by
  refine ⟨h.le, fun k hk => ?_, fun k hk => ?_⟩
  · rw [bodyB_cong (W := f k (fun j => U (k * 12 + j))) (fun j hj => mapR_in hk hj)]; exact hf k hk
  · have e1 := mapR_in (f := f) (U := U) (k := k) (n := n) (j := 0) (by omega) (by omega)
    have e2 := mapR_in (f := f) (U := U) (k := k + 1) (n := n) (j := 0) hk (by omega)
    rw [Nat.add_zero] at e1 e2
    rw [e1, e2, h0 k (by omega), h0 (k + 1) hk]
    exact h.asc k hk
end Go.Proofs.YtneacpfdmocifaaGreat
namespace Go.Proofs.YtneacpfdmocifaaGreat
open Go.RowKit
set_option linter.unusedVariables false
set_option linter.unusedSimpArgs false

set_option maxHeartbeats 4000000 in
theorem kSetQuiet {cb n k : Nat} {C : Nat → Nat → Int} {S : Nat → Value} {w : World} (h : Cs w cb n C S) (hk : k < n) (hn : n ≤ 1048576) (y : Int) :
    Calls Tryz.prog 55 #[hdk cb k, .int .i64 y] w fun e w' => e = .returned (.tuple #[]) ∧ Cs w' cb n (setC C 11 k y) S ∧ Fr (Xc S) w w' := by
  have hset := cset_map
  have l1 := h.lt
  have hkn : (k : Int) < (n : Int) := by omega
  obtain ⟨g11, c11, e11, hc11, hv11, hf11, l11g, lc11⟩ := h.at (i := 11) (by omega) hk
  go_enter Tryz.func55, Tryz.ntmps55
  go_upto_region 1 with fail
  refine wp_region_held_drew (S := fun w' => w'.cell? ⟨w.heap.size, 0, none⟩ = some (.int .i64 (k : Int)) ∧ w'.cell? ⟨w.heap.size, 1, none⟩ = some (.pointer (some ⟨cb, 0, none⟩)) ∧ w'.cell? ⟨cb, 11, none⟩ = some (.slice (some ⟨g11, 0, none⟩) n c11)) (by kernel_rfl) ?_ (fun hHeld => ?_)
  · (try dsimp only)
    (first | (go_simp; done) | (go_keep; done))
  refine tq 0 hHeld ?_
  refine tq 1 hHeld ?_
  refine tq 2 hHeld ?_
  refine tq 3 hHeld ?_
  refine tq 4 hHeld ?_
  refine tq 5 hHeld ?_
  refine tq 6 hHeld ?_
  refine tq 7 hHeld ?_
  refine tq 8 hHeld ?_
  (refine tc 9 fun K hK => ?_; go_simp; refine tr hK (fun hHeld => ?_); clear hK K)
  refine wpAnyH_done (by kernel_rfl) ?_ _
  go_wp2_with fail
  go_end0
  have hE : Below (w.setCell ⟨g11, k, none⟩ (.int .i64 y)).heap.size (w.setCell ⟨g11, k, none⟩ (.int .i64 y)) ((w.setCell ⟨g11, k, none⟩ (.int .i64 y)).alloc (Obj.cells #[.int .i64 (k : Int), .pointer (some ⟨cb, 0, none⟩)] 65)).drew := bel_a
  exact ⟨rfl, (h.set (i := 11) (by omega) hk e11 y).below hE, ((Fr.refl (Xc S) w).trans (Fr.setCell (X := Xc S) (p := ⟨g11, k, none⟩) ⟨11, by omega, by rw [e11]; rfl⟩ (.int .i64 y))).trans (Fr.of_below hE)⟩

set_option maxHeartbeats 4000000 in
theorem kSetDrive {cb n k : Nat} {C : Nat → Nat → Int} {S : Nat → Value} {w : World} (h : Cs w cb n C S) (hk : k < n) (hn : n ≤ 1048576) (x y : Int) :
    Calls Tryz.prog 51 #[hdk cb k, vv x y] w fun e w' => e = .returned (.tuple #[]) ∧ Cs w' cb n (setC (setC C 6 k x) 7 k y) S ∧ Fr (Xc S) w w' := by
  have hset := cset_map
  have l1 := h.lt
  have hkn : (k : Int) < (n : Int) := by omega
  obtain ⟨g6, c6, e6, hc6, hv6, hf6, l6g, lc6⟩ := h.at (i := 6) (by omega) hk
  obtain ⟨g7, c7, e7, hc7, hv7, hf7, l7g, lc7⟩ := h.at (i := 7) (by omega) hk
  have ne : g6 ≠ g7 := fun q => h.dis 6 7 (by omega) (by omega) (by omega) g6 (by rw [e6]; rfl) (by rw [e7, q]; rfl)
  go_enter Tryz.func51, Tryz.ntmps51
  go_upto_region 1 with fail
  refine wp_region_held_drew (S := fun w' => w'.cell? ⟨w.heap.size, 0, none⟩ = some (.int .i64 (k : Int)) ∧ w'.cell? ⟨w.heap.size, 1, none⟩ = some (.pointer (some ⟨cb, 0, none⟩)) ∧ w'.cell? ⟨cb, 6, none⟩ = some (.slice (some ⟨g6, 0, none⟩) n c6) ∧ w'.cell? ⟨cb, 7, none⟩ = some (.slice (some ⟨g7, 0, none⟩) n c7) ∧ w'.cell? ⟨w.heap.size + 1, 0, none⟩ = some (.int .i64 x) ∧ w'.cell? ⟨w.heap.size + 1, 1, none⟩ = some (.int .i64 y)) (by kernel_rfl) ?_ (fun hHeld => ?_)
  · (try dsimp only)
    (first | (go_simp; done) | (go_keep; done))
  refine tq 0 hHeld ?_
  refine tq 1 hHeld ?_
  refine tq 2 hHeld ?_
  refine tq 3 hHeld ?_
  refine tq 4 hHeld ?_
  refine tq 5 hHeld ?_
  refine tq 6 hHeld ?_
  refine tq 7 hHeld ?_
  refine tq 8 hHeld ?_
  refine tq 9 hHeld ?_
  refine tq 10 hHeld ?_
  refine tq 11 hHeld ?_
  refine tq 12 hHeld ?_
  refine tq 13 hHeld ?_
  refine tq 14 hHeld ?_
  refine tq 15 hHeld ?_
  refine tq 16 hHeld ?_
  refine tq 17 hHeld ?_
  refine tq 18 hHeld ?_
  (refine tc 19 fun K hK => ?_; go_simp; refine tr hK (fun hHeld => ?_); clear hK K)
  refine tq 20 hHeld ?_
  (refine tc 21 fun K hK => ?_; go_simp; refine tr hK (fun hHeld => ?_); clear hK K)
  refine wpAnyH_done (by kernel_rfl) ?_ _
  go_wp2_with fail
  go_end0
  have hE : Below ((w.setCell ⟨g6, k, none⟩ (.int .i64 x)).setCell ⟨g7, k, none⟩ (.int .i64 y)).heap.size ((w.setCell ⟨g6, k, none⟩ (.int .i64 x)).setCell ⟨g7, k, none⟩ (.int .i64 y)) ((((w.setCell ⟨g6, k, none⟩ (.int .i64 x)).setCell ⟨g7, k, none⟩ (.int .i64 y)).alloc (Obj.cells #[.int .i64 (k : Int), .pointer (some ⟨cb, 0, none⟩)] 65)).alloc (Obj.cells #[.int .i64 x, .int .i64 y] 71)).drew := bel_a
  exact ⟨rfl, ((h.set (i := 6) (by omega) hk e6 x).set (i := 7) (by omega) hk e7 y).below hE, (((Fr.refl (Xc S) w).trans (Fr.setCell (X := Xc S) (p := ⟨g6, k, none⟩) ⟨6, by omega, by rw [e6]; rfl⟩ (.int .i64 x))).trans (Fr.setCell (X := Xc S) (p := ⟨g7, k, none⟩) ⟨7, by omega, by rw [e7]; rfl⟩ (.int .i64 y))).trans (Fr.of_below hE)⟩
end Go.Proofs.YtneacpfdmocifaaGreat
namespace Go.Proofs.YtneacpfdmocifaaGreat
open Go.RowKit
set_option linter.unusedVariables false
set_option linter.unusedSimpArgs false

set_option maxRecDepth 20000 in
set_option maxHeartbeats 8000000 in
theorem kBody {cb n k : Nat} {V : Nat → Int} {G : Nat → Nat} {w : World} (h : HAt w cb n k V G) :
    Calls Tryz.prog 32 #[hdk cb k] w fun e w' => e = .returned (bodyW V) ∧ Below w.heap.size w w' := by
  have hset := cset_map
  have l1 := h.cbl
  have hkn := h.kn
  have hnl := h.nl
  obtain ⟨c0, hc0, hv0, _, l0g, q0⟩ := h.col 0 (by omega)
  generalize hG0 : G 0 = g0 at hc0 hv0 l0g q0
  clear hG0 q0
  go_enter Tryz.func32, Tryz.ntmps32
  go_upto_region 1 with fail
  refine wp_region_held_drew (S := fun w' => w'.cell? ⟨w.heap.size, 0, none⟩ = some (.int .i64 (k : Int)) ∧ w'.cell? ⟨w.heap.size, 1, none⟩ = some (.pointer (some ⟨cb, 0, none⟩)) ∧ w'.cell? ⟨cb, 0, none⟩ = some (.slice (some ⟨g0, 0, none⟩) n c0) ∧ w'.cell? ⟨g0, k, none⟩ = some (.int .i64 (V 0))) (by kernel_rfl) ?_ (fun hHeld => ?_)
  · (try dsimp only)
    (first | (go_simp; done) | (go_keep; done))
  refine tq 0 hHeld ?_
  refine tq 1 hHeld ?_
  refine tq 2 hHeld ?_
  refine tq 3 hHeld ?_
  refine tq 4 hHeld ?_
  refine tq 5 hHeld ?_
  refine tq 6 hHeld ?_
  refine tq 7 hHeld ?_
  refine tq 8 hHeld ?_
  refine tq 9 hHeld ?_
  refine tq 11 hHeld ?_
  refine tq 14 hHeld ?_
  refine tq 17 hHeld ?_
  refine tq 19 hHeld ?_
  refine tq 21 hHeld ?_
  refine tq 23 hHeld ?_
  (refine tc 10 fun K hK => ?_; go_simp; (go_at_call 56; refine (kShape (HAt.below h (bel_a))).mono ?_; rintro e w1 ⟨rfl, hb1⟩; obtain ⟨hc1, hf1⟩ := bcell hb1; have hz1 := hb1.size; (try simp only [World.size_drew, World.size_alloc, World.size_setCell] at hc1 hf1 hz1); have hk1x0 := fun o => hc1 (w.heap.size) o (by omega); have hj1x0 := fun o => hf1 (w.heap.size) o (by omega); have hq1x0 : w.heap.size < w1.heap.size := (by omega); have hk1x1 := fun o => hc1 (w.heap.size + 1) o (by omega); have hj1x1 := fun o => hf1 (w.heap.size + 1) o (by omega); have hq1x1 : w.heap.size + 1 < w1.heap.size := (by omega); have hk1x2 := fun o => hc1 (cb) o (by omega); have hj1x2 := fun o => hf1 (cb) o (by omega); have hq1x2 : cb < w1.heap.size := (by omega); have hk1x3 := fun o => hc1 (g0) o (by omega); have hj1x3 := fun o => hf1 (g0) o (by omega); have hq1x3 : g0 < w1.heap.size := (by omega); clear hc1 hf1); (try go_wp2_with fail); refine tr hK (fun hHeld => ?_); clear hK K)
  (refine tc 12 fun K hK => ?_; go_simp; (go_at_call 57; refine (kAt (HAt.below h (bel_a))).mono ?_; rintro e w2 ⟨rfl, hb2⟩; obtain ⟨hc2, hf2⟩ := bcell hb2; have hz2 := hb2.size; (try simp only [World.size_drew, World.size_alloc, World.size_setCell] at hc2 hf2 hz2); have hk2x0 := fun o => hc2 (w.heap.size) o (by omega); have hj2x0 := fun o => hf2 (w.heap.size) o (by omega); have hq2x0 : w.heap.size < w2.heap.size := (by omega); have hk2x1 := fun o => hc2 (w.heap.size + 1) o (by omega); have hj2x1 := fun o => hf2 (w.heap.size + 1) o (by omega); have hq2x1 : w.heap.size + 1 < w2.heap.size := (by omega); have hk2x2 := fun o => hc2 (cb) o (by omega); have hj2x2 := fun o => hf2 (cb) o (by omega); have hq2x2 : cb < w2.heap.size := (by omega); have hk2x3 := fun o => hc2 (g0) o (by omega); have hj2x3 := fun o => hf2 (g0) o (by omega); have hq2x3 : g0 < w2.heap.size := (by omega); clear hc2 hf2); (try go_wp2_with fail); refine tr hK (fun hHeld => ?_); clear hK K)
  (refine tc 13 fun K hK => ?_; go_simp; (go_at_call 58; refine (vec_any _ _ _).mono ?_; rintro e w3 ⟨rfl, hb3⟩; obtain ⟨hc3, hf3⟩ := bcell hb3; have hz3 := hb3.size; (try simp only [World.size_drew, World.size_alloc, World.size_setCell] at hc3 hf3 hz3); have hk3x0 := fun o => hc3 (w.heap.size) o (by omega); have hj3x0 := fun o => hf3 (w.heap.size) o (by omega); have hq3x0 : w.heap.size < w3.heap.size := (by omega); have hk3x1 := fun o => hc3 (w.heap.size + 1) o (by omega); have hj3x1 := fun o => hf3 (w.heap.size + 1) o (by omega); have hq3x1 : w.heap.size + 1 < w3.heap.size := (by omega); have hk3x2 := fun o => hc3 (cb) o (by omega); have hj3x2 := fun o => hf3 (cb) o (by omega); have hq3x2 : cb < w3.heap.size := (by omega); have hk3x3 := fun o => hc3 (g0) o (by omega); have hj3x3 := fun o => hf3 (g0) o (by omega); have hq3x3 : g0 < w3.heap.size := (by omega); clear hc3 hf3); (try go_wp2_with fail); refine tr hK (fun hHeld => ?_); clear hK K)
  (refine tc 15 fun K hK => ?_; go_simp; (go_at_call 52; refine (kDrive (HAt.below h (bel_a))).mono ?_; rintro e w4 ⟨rfl, hb4⟩; obtain ⟨hc4, hf4⟩ := bcell hb4; have hz4 := hb4.size; (try simp only [World.size_drew, World.size_alloc, World.size_setCell] at hc4 hf4 hz4); have hk4x0 := fun o => hc4 (w.heap.size) o (by omega); have hj4x0 := fun o => hf4 (w.heap.size) o (by omega); have hq4x0 : w.heap.size < w4.heap.size := (by omega); have hk4x1 := fun o => hc4 (w.heap.size + 1) o (by omega); have hj4x1 := fun o => hf4 (w.heap.size + 1) o (by omega); have hq4x1 : w.heap.size + 1 < w4.heap.size := (by omega); have hk4x2 := fun o => hc4 (cb) o (by omega); have hj4x2 := fun o => hf4 (cb) o (by omega); have hq4x2 : cb < w4.heap.size := (by omega); have hk4x3 := fun o => hc4 (g0) o (by omega); have hj4x3 := fun o => hf4 (g0) o (by omega); have hq4x3 : g0 < w4.heap.size := (by omega); clear hc4 hf4); (try go_wp2_with fail); refine tr hK (fun hHeld => ?_); clear hK K)
  (refine tc 16 fun K hK => ?_; go_simp; (go_at_call 58; refine (vec_any _ _ _).mono ?_; rintro e w5 ⟨rfl, hb5⟩; obtain ⟨hc5, hf5⟩ := bcell hb5; have hz5 := hb5.size; (try simp only [World.size_drew, World.size_alloc, World.size_setCell] at hc5 hf5 hz5); have hk5x0 := fun o => hc5 (w.heap.size) o (by omega); have hj5x0 := fun o => hf5 (w.heap.size) o (by omega); have hq5x0 : w.heap.size < w5.heap.size := (by omega); have hk5x1 := fun o => hc5 (w.heap.size + 1) o (by omega); have hj5x1 := fun o => hf5 (w.heap.size + 1) o (by omega); have hq5x1 : w.heap.size + 1 < w5.heap.size := (by omega); have hk5x2 := fun o => hc5 (cb) o (by omega); have hj5x2 := fun o => hf5 (cb) o (by omega); have hq5x2 : cb < w5.heap.size := (by omega); have hk5x3 := fun o => hc5 (g0) o (by omega); have hj5x3 := fun o => hf5 (g0) o (by omega); have hq5x3 : g0 < w5.heap.size := (by omega); clear hc5 hf5); (try go_wp2_with fail); refine tr hK (fun hHeld => ?_); clear hK K)
  (refine tc 18 fun K hK => ?_; go_simp; (go_at_call 59; refine (kMass (HAt.below h (bel_a))).mono ?_; rintro e w6 ⟨rfl, hb6⟩; obtain ⟨hc6, hf6⟩ := bcell hb6; have hz6 := hb6.size; (try simp only [World.size_drew, World.size_alloc, World.size_setCell] at hc6 hf6 hz6); have hk6x0 := fun o => hc6 (w.heap.size) o (by omega); have hj6x0 := fun o => hf6 (w.heap.size) o (by omega); have hq6x0 : w.heap.size < w6.heap.size := (by omega); have hk6x1 := fun o => hc6 (w.heap.size + 1) o (by omega); have hj6x1 := fun o => hf6 (w.heap.size + 1) o (by omega); have hq6x1 : w.heap.size + 1 < w6.heap.size := (by omega); have hk6x2 := fun o => hc6 (cb) o (by omega); have hj6x2 := fun o => hf6 (cb) o (by omega); have hq6x2 : cb < w6.heap.size := (by omega); have hk6x3 := fun o => hc6 (g0) o (by omega); have hj6x3 := fun o => hf6 (g0) o (by omega); have hq6x3 : g0 < w6.heap.size := (by omega); clear hc6 hf6); (try go_wp2_with fail); refine tr hK (fun hHeld => ?_); clear hK K)
  (refine tc 20 fun K hK => ?_; go_simp; (go_at_call 60; refine (kBounce (HAt.below h (bel_a))).mono ?_; rintro e w7 ⟨rfl, hb7⟩; obtain ⟨hc7, hf7⟩ := bcell hb7; have hz7 := hb7.size; (try simp only [World.size_drew, World.size_alloc, World.size_setCell] at hc7 hf7 hz7); have hk7x0 := fun o => hc7 (w.heap.size) o (by omega); have hj7x0 := fun o => hf7 (w.heap.size) o (by omega); have hq7x0 : w.heap.size < w7.heap.size := (by omega); have hk7x1 := fun o => hc7 (w.heap.size + 1) o (by omega); have hj7x1 := fun o => hf7 (w.heap.size + 1) o (by omega); have hq7x1 : w.heap.size + 1 < w7.heap.size := (by omega); have hk7x2 := fun o => hc7 (cb) o (by omega); have hj7x2 := fun o => hf7 (cb) o (by omega); have hq7x2 : cb < w7.heap.size := (by omega); have hk7x3 := fun o => hc7 (g0) o (by omega); have hj7x3 := fun o => hf7 (g0) o (by omega); have hq7x3 : g0 < w7.heap.size := (by omega); clear hc7 hf7); (try go_wp2_with fail); refine tr hK (fun hHeld => ?_); clear hK K)
  (refine tc 22 fun K hK => ?_; go_simp; (go_at_call 61; refine (kRub (HAt.below h (bel_a))).mono ?_; rintro e w8 ⟨rfl, hb8⟩; obtain ⟨hc8, hf8⟩ := bcell hb8; have hz8 := hb8.size; (try simp only [World.size_drew, World.size_alloc, World.size_setCell] at hc8 hf8 hz8); have hk8x0 := fun o => hc8 (w.heap.size) o (by omega); have hj8x0 := fun o => hf8 (w.heap.size) o (by omega); have hq8x0 : w.heap.size < w8.heap.size := (by omega); have hk8x1 := fun o => hc8 (w.heap.size + 1) o (by omega); have hj8x1 := fun o => hf8 (w.heap.size + 1) o (by omega); have hq8x1 : w.heap.size + 1 < w8.heap.size := (by omega); have hk8x2 := fun o => hc8 (cb) o (by omega); have hj8x2 := fun o => hf8 (cb) o (by omega); have hq8x2 : cb < w8.heap.size := (by omega); have hk8x3 := fun o => hc8 (g0) o (by omega); have hj8x3 := fun o => hf8 (g0) o (by omega); have hq8x3 : g0 < w8.heap.size := (by omega); clear hc8 hf8); (try go_wp2_with fail); refine tr hK (fun hHeld => ?_); clear hK K)
  (refine tc 24 fun K hK => ?_; go_simp; (go_at_call 62; refine (kQuiet (HAt.below h (bel_a))).mono ?_; rintro e w9 ⟨rfl, hb9⟩; obtain ⟨hc9, hf9⟩ := bcell hb9; have hz9 := hb9.size; (try simp only [World.size_drew, World.size_alloc, World.size_setCell] at hc9 hf9 hz9); have hk9x0 := fun o => hc9 (w.heap.size) o (by omega); have hj9x0 := fun o => hf9 (w.heap.size) o (by omega); have hq9x0 : w.heap.size < w9.heap.size := (by omega); have hk9x1 := fun o => hc9 (w.heap.size + 1) o (by omega); have hj9x1 := fun o => hf9 (w.heap.size + 1) o (by omega); have hq9x1 : w.heap.size + 1 < w9.heap.size := (by omega); have hk9x2 := fun o => hc9 (cb) o (by omega); have hj9x2 := fun o => hf9 (cb) o (by omega); have hq9x2 : cb < w9.heap.size := (by omega); have hk9x3 := fun o => hc9 (g0) o (by omega); have hj9x3 := fun o => hf9 (g0) o (by omega); have hq9x3 : g0 < w9.heap.size := (by omega); clear hc9 hf9); (try go_wp2_with fail); refine tr hK (fun hHeld => ?_); clear hK K)
  refine tq 25 hHeld ?_
  (refine tc 26 fun K hK => ?_; go_simp; refine tr hK (fun hHeld => ?_); clear hK K)
  refine wpAnyH_done (by kernel_rfl) ?_ _
  go_wp2_with fail
  exact bodyPost_ret (v := bodyW V) (by simp [results, Tryz.results32, go_sem, *]) rfl ⟨rfl, bel_a⟩

/-- columns of which a row was pushed -/
def pushC (C : Nat → Nat → Int) (k : Nat) (p q : Int) : Nat → Nat → Int := if C 8 k = 0 then C else setC (setC (setC C 6 k (clampZ 20000000 (C 6 k + p))) 7 k (clampZ 20000000 (C 7 k + q))) 11 k 0
set_option maxHeartbeats 4000000 in
theorem kPush {cb n k : Nat} {C : Nat → Nat → Int} {S : Nat → Value} {w : World} (h : Cs w cb n C S) (hk : k < n) (hn : n ≤ 1048576) (p q : Int) (b6 : -20000000 ≤ C 6 k ∧ C 6 k ≤ 20000000) (b7 : -20000000 ≤ C 7 k ∧ C 7 k ≤ 20000000) (bp : -4000000000 ≤ p ∧ p ≤ 4000000000) (bq : -4000000000 ≤ q ∧ q ≤ 4000000000) :
    Calls Tryz.prog 30 #[hdk cb k, vv p q] w fun e w' => e = .returned (.tuple #[]) ∧ Cs w' cb n (pushC C k p q) S ∧ Fr (Xc S) w w' := by
  have hset := cset_map
  have h0 := h.hat hk hn
  have hx : ∀ b, w.heap.size ≤ b → ¬ Xc S b := fun b hb x => by have := (h.xlt x).2; omega
  unfold pushC
  by_cases m : C 8 k = 0
  · rw [if_pos m]
    have md : decide (C 8 k = 0) = true := decide_eq_true m
    go_enter Tryz.func30, Tryz.ntmps30
    go_wp2_with (go_at_call 50; refine (kFixed (h0.below (bel_a))).mono ?_; rintro e w1 ⟨rfl, hb1⟩; obtain ⟨hc1, hf1⟩ := bcell hb1; have hz1 := hb1.size; (try simp only [World.size_drew, World.size_alloc, World.size_setCell] at hc1 hf1 hz1); have hk1x0 := fun o => hc1 (w.heap.size) o (by omega); have hj1x0 := fun o => hf1 (w.heap.size) o (by omega); have hq1x0 : w.heap.size < w1.heap.size := (by omega); have hk1x1 := fun o => hc1 (w.heap.size + 1) o (by omega); have hj1x1 := fun o => hf1 (w.heap.size + 1) o (by omega); have hq1x1 : w.heap.size + 1 < w1.heap.size := (by omega); clear hc1 hf1)
    refine bodyPost_ret (results_none rfl _ _ _) rfl ?_
    exact ⟨rfl, (h.below (bel_a)), Fr.of_below (bel_a)⟩
  · rw [if_neg m]
    have md : decide (C 8 k = 0) = false := decide_eq_false m
    go_enter Tryz.func30, Tryz.ntmps30
    go_upto_region 2 with (go_at_call 50; refine (kFixed (h0.below (bel_a))).mono ?_; rintro e w1 ⟨rfl, hb1⟩; obtain ⟨hc1, hf1⟩ := bcell hb1; have hz1 := hb1.size; (try simp only [World.size_drew, World.size_alloc, World.size_setCell] at hc1 hf1 hz1); have hk1x0 := fun o => hc1 (w.heap.size) o (by omega); have hj1x0 := fun o => hf1 (w.heap.size) o (by omega); have hq1x0 : w.heap.size < w1.heap.size := (by omega); have hk1x1 := fun o => hc1 (w.heap.size + 1) o (by omega); have hj1x1 := fun o => hf1 (w.heap.size + 1) o (by omega); have hq1x1 : w.heap.size + 1 < w1.heap.size := (by omega); clear hc1 hf1)
    refine wp_region_held_drew (S := fun w' => w'.cell? ⟨w.heap.size, 0, none⟩ = some (.int .i64 (k : Int)) ∧ w'.cell? ⟨w.heap.size, 1, none⟩ = some (.pointer (some ⟨cb, 0, none⟩)) ∧ w'.cell? ⟨w.heap.size + 1, 0, none⟩ = some (.int .i64 p) ∧ w'.cell? ⟨w.heap.size + 1, 1, none⟩ = some (.int .i64 q)) (by kernel_rfl) ?_ (fun hHeld => ?_)
    · (try dsimp only)
      (first | (go_simp; done) | (go_keep; done))
    refine tq 0 hHeld ?_
    refine tq 1 hHeld ?_
    refine tq 3 hHeld ?_
    (refine tc 2 fun K hK => ?_; go_simp; (go_at_call 52; refine (kDrive (h0.below (bel_a))).mono ?_; rintro e w2 ⟨rfl, hb2⟩; obtain ⟨hc2, hf2⟩ := bcell hb2; have hz2 := hb2.size; (try simp only [World.size_drew, World.size_alloc, World.size_setCell] at hc2 hf2 hz2); have hk2x0 := fun o => hc2 (w.heap.size) o (by omega); have hj2x0 := fun o => hf2 (w.heap.size) o (by omega); have hq2x0 : w.heap.size < w2.heap.size := (by omega); have hk2x1 := fun o => hc2 (w.heap.size + 1) o (by omega); have hj2x1 := fun o => hf2 (w.heap.size + 1) o (by omega); have hq2x1 : w.heap.size + 1 < w2.heap.size := (by omega); clear hc2 hf2); (try go_wp2_with fail); refine tr hK (fun hHeld => ?_); clear hK K)
    (refine tc 4 fun K hK => ?_; go_simp; (go_at_call 53; refine (plus_any _ _ _ _ _ (by omega) (by omega) (by omega) (by omega)).mono ?_; rintro e w3 ⟨rfl, hb3⟩; obtain ⟨hc3, hf3⟩ := bcell hb3; have hz3 := hb3.size; (try simp only [World.size_drew, World.size_alloc, World.size_setCell] at hc3 hf3 hz3); have hk3x0 := fun o => hc3 (w.heap.size) o (by omega); have hj3x0 := fun o => hf3 (w.heap.size) o (by omega); have hq3x0 : w.heap.size < w3.heap.size := (by omega); have hk3x1 := fun o => hc3 (w.heap.size + 1) o (by omega); have hj3x1 := fun o => hf3 (w.heap.size + 1) o (by omega); have hq3x1 : w.heap.size + 1 < w3.heap.size := (by omega); clear hc3 hf3); (try go_wp2_with fail); refine tr hK (fun hHeld => ?_); clear hK K)
    (refine tc 5 fun K hK => ?_; go_simp; (go_at_call 54; refine (wayHeld_any _ _ _ _ (by omega) (by omega)).mono ?_; rintro e w4 ⟨rfl, hb4⟩; obtain ⟨hc4, hf4⟩ := bcell hb4; have hz4 := hb4.size; (try simp only [World.size_drew, World.size_alloc, World.size_setCell] at hc4 hf4 hz4); have hk4x0 := fun o => hc4 (w.heap.size) o (by omega); have hj4x0 := fun o => hf4 (w.heap.size) o (by omega); have hq4x0 : w.heap.size < w4.heap.size := (by omega); have hk4x1 := fun o => hc4 (w.heap.size + 1) o (by omega); have hj4x1 := fun o => hf4 (w.heap.size + 1) o (by omega); have hq4x1 : w.heap.size + 1 < w4.heap.size := (by omega); clear hc4 hf4); (try go_wp2_with fail); refine tr hK (fun hHeld => ?_); clear hK K)
    (refine tc 6 fun K hK => ?_; go_simp; (go_at_call 51; refine (kSetDrive (h.below (bel_a)) hk hn _ _).mono ?_; rintro e w5 ⟨rfl, hr5, hF5⟩; have hz5 := hF5.size; (try simp only [World.size_drew, World.size_alloc, World.size_setCell] at hz5); have hk5x0 := fun o => hF5.cell (p := ⟨w.heap.size, o, none⟩) (by first | omega | (simp; done) | (simp; omega)) (hx _ (by first | omega | (simp; done) | (simp; omega))); have hj5x0 := fun o => hF5.frozen (p := ⟨w.heap.size, o, none⟩) (by first | omega | (simp; done) | (simp; omega)) (hx _ (by first | omega | (simp; done) | (simp; omega))); have hq5x0 : w.heap.size < w5.heap.size := (by omega); have hk5x1 := fun o => hF5.cell (p := ⟨w.heap.size + 1, o, none⟩) (by first | omega | (simp; done) | (simp; omega)) (hx _ (by first | omega | (simp; done) | (simp; omega))); have hj5x1 := fun o => hF5.frozen (p := ⟨w.heap.size + 1, o, none⟩) (by first | omega | (simp; done) | (simp; omega)) (hx _ (by first | omega | (simp; done) | (simp; omega))); have hq5x1 : w.heap.size + 1 < w5.heap.size := (by omega)); (try go_wp2_with fail); refine tr hK (fun hHeld => ?_); clear hK K)
    refine wpAnyH_done (by kernel_rfl) ?_ _
    go_wp2_with (go_at_call 55; refine (kSetQuiet hr5 hk hn 0).mono ?_; rintro e w6 ⟨rfl, hr6, hF6⟩)
    go_end0
    exact ⟨rfl, hr6, ((Fr.of_below (bel_a)).trans hF5).trans hF6⟩
end Go.Proofs.YtneacpfdmocifaaGreat
namespace Go.Proofs.YtneacpfdmocifaaGreat
open Go.RowKit
set_option linter.unusedVariables false
set_option linter.unusedSimpArgs false

theorem flatB (w : World) (V : Nat → Int) (t : TypeId) (s : Nat) (e : w.heap.size = s) : Flat (w.alloc (Obj.cells #[.int .i64 (V 0), .int .i64 (V 1), .int .i64 (V 2), .int .i64 (V 3), .int .i64 (V 4), .int .i64 (V 5), .int .i64 (V 6), .int .i64 (V 7), .int .i64 (V 8), .int .i64 (V 9), .int .i64 (V 10), .int .i64 (V 11)] t)) (some ⟨s, 0, none⟩) (1 * 12) V := by
  subst e
  intro _
  refine ⟨w.heap.size, 0, rfl, by simp, fun j hj => ?_⟩
  rw [Nat.zero_add]
  rcases (show j = 0 ∨ j = 1 ∨ j = 2 ∨ j = 3 ∨ j = 4 ∨ j = 5 ∨ j = 6 ∨ j = 7 ∨ j = 8 ∨ j = 9 ∨ j = 10 ∨ j = 11 by omega) with rfl | rfl | rfl | rfl | rfl | rfl | rfl | rfl | rfl | rfl | rfl | rfl <;> go_simp
theorem handle_0 (cb : Nat) (w : World) : Calls Tryz.prog 48 #[.pointer (some ⟨cb, 0, none⟩), .int .i64 0] w fun e w' => e = .returned (.agg #[.int .i64 0, .pointer (some ⟨cb, 0, none⟩)]) ∧ Below w.heap.size w w' := handle_any cb 0 w
theorem kOk_z {cb n : Nat} {V : Nat → Int} {G : Nat → Nat} {w : World} (h : HAt w cb n 0 V G) (b : Bool) (e : bodyB V = b) :
    Calls Tryz.prog 49 #[.agg #[.int .i64 0, .pointer (some ⟨cb, 0, none⟩)]] w fun e w' => e = .returned (.bool b) ∧ Below w.heap.size w w' := kOk_q h b e
theorem Cs.setO {w : World} {cb n b o : Nat} {C : Nat → Nat → Int} {S : Nat → Value} (h : Cs w cb n C S) (hb : b < cb) (v : Value) : Cs (w.setCell ⟨b, o, none⟩ v) cb n C S :=
  h.frame (X := fun x => x = b) (Fr.setCell (X := fun x => x = b) rfl _) (by show ¬ cb = b; omega) (fun x hx e => by have := (h.xlt hx).1; omega)
set_option maxRecDepth 20000 in
set_option maxHeartbeats 2000000 in
theorem handleOf_k (V : Nat → Int) (w : World) (KB : Bool) (eK : bodyB V = KB) :
    Calls Tryz.prog 29 #[bodyW V] w fun e w' => ∃ cb S, e = .returned (.tuple #[hdk cb 0, .bool KB]) ∧ w.heap.size + 1 < cb ∧ Cs w' cb 1 (fun i _ => V i) S ∧ Below w.heap.size w w' := by
  have hset := cset_map
  go_enter Tryz.func29, Tryz.ntmps29
  go_upto_region 2 with (first
    | (go_at_call 48; refine (handle_0 _ _).mono ?_; rintro e w2 ⟨rfl, hb2⟩; obtain ⟨hc2, hf2⟩ := bcell hb2; have hz2 := hb2.size; (try simp only [World.size_drew, World.size_alloc, World.size_setCell] at hc2 hf2 hz2); have hk2x0 := fun o => hc2 (w.heap.size + 1) o (by omega); have hj2x0 := fun o => hf2 (w.heap.size + 1) o (by omega); have hq2x0 : w.heap.size + 1 < w2.heap.size := (by omega); clear hc2 hf2)
    | (go_at_call 47; refine (rowsOf_any _ 1 _ V _ (flatB _ V _ _ (by simp)) (by omega)).mono ?_; rintro e w1 ⟨rfl, hb1, S, hC1⟩; obtain ⟨hc1, hf1⟩ := bcell hb1; have hz1 := hb1.size; (try simp only [World.size_drew, World.size_alloc, World.size_setCell] at hc1 hf1 hz1 hC1); have hC1 := hC1.congr (C' := fun i _ => V i) (fun i k _ hk => (by obtain rfl : k = 0 := (by omega); simp [colOf])); have hk1x0 := fun o => hc1 (w.heap.size + 1) o (by omega); have hj1x0 := fun o => hf1 (w.heap.size + 1) o (by omega); have hq1x0 : w.heap.size + 1 < w1.heap.size := (by omega); clear hc1 hf1))
  refine wp_region_held_drew (S := fun w' => w'.cell? ⟨w2.heap.size, 0, none⟩ = some (.int .i64 (0 : Int)) ∧ w'.cell? ⟨w2.heap.size, 1, none⟩ = some (.pointer (some ⟨w.heap.size + 1 + 1 + 1, 0, none⟩))) (by kernel_rfl) ?_ (fun hHeld => ?_)
  · (try dsimp only)
    (first | (go_simp; done) | (go_keep; done))
  refine tq 0 hHeld ?_
  refine tq 1 hHeld ?_
  (refine tc 2 fun K hK => ?_; go_simp; (go_at_call 49; refine (kOk_z ((hC1.below (bel_a)).hat (by omega) (by omega)) KB eK).mono ?_; rintro e w3 ⟨rfl, hb3⟩; obtain ⟨hc3, hf3⟩ := bcell hb3; have hz3 := hb3.size; (try simp only [World.size_drew, World.size_alloc, World.size_setCell] at hc3 hf3 hz3); have hk3x0 := fun o => hc3 (w.heap.size + 1) o (by omega); have hj3x0 := fun o => hf3 (w.heap.size + 1) o (by omega); have hq3x0 : w.heap.size + 1 < w3.heap.size := (by omega); have hk3x1 := fun o => hc3 (w2.heap.size) o (by omega); have hj3x1 := fun o => hf3 (w2.heap.size) o (by omega); have hq3x1 : w2.heap.size < w3.heap.size := (by omega); clear hc3 hf3); (try go_wp2_with fail); refine tr hK (fun hHeld => ?_); clear hK K)
  (refine tc 3 fun K hK => ?_; go_simp; refine tr hK (fun hHeld => ?_); clear hK K)
  refine tq 4 hHeld ?_
  refine wpAnyH_done (by kernel_rfl) ?_ _
  go_wp2_with fail
  exact bodyPost_ret (v := .tuple #[.agg #[.int .i64 0, .pointer (some ⟨w.heap.size + 1 + 1 + 1, 0, none⟩)], .bool KB]) (by simp [results, Tryz.results29, go_sem, *]) rfl ⟨w.heap.size + 1 + 1 + 1, S, rfl, by omega, ((hC1.below (w' := w3) (bel_a)).setO (by omega) _).setO (by omega) _, bel_a⟩
end Go.Proofs.YtneacpfdmocifaaGreat
