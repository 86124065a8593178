/- Texts of a proof. -/
import Derived.Test.YtlbpmmjckoaleaaGreatCsOf
import Derived.Test.YtlbpmmjckoaleaaGreatB22
import Derived.Deep.RegionHeld3
import Derived.Deep.DeepCutAuto
import Derived.Test.YtlbpmmjckoaleaaGreatWfx
import Derived.Test.YtlbpmmjckoaleaaGreatLst
import Derived.LoopNIn
import Derived.LoopIn
import Derived.OwnWalkIn
set_option maxHeartbeats 16000000
set_option maxRecDepth 20000
namespace Go.Proofs.YtlbpmmjckoaleaaGreat
open Go.RowKit
set_option linter.unusedVariables false
set_option linter.unusedSimpArgs false
theorem sBodiesOk_any (a : Option Addr) (n c : Nat) (U : Nat → Int) (w : World) (h : Flat w a (n * 12) U) (hn : n ≤ 1048576) :
    Calls Tryz.prog 23 #[.slice a n c] w fun e w' => e = .returned (.bool (bodsB n U)) ∧ Below w.heap.size w w' := by
  have hset := cset_map
  go_enter Tryz.func23, Tryz.ntmps23
  go_wp2
  go_loopw [3] (fun i wr => ∃ k : Nat, k ≤ n ∧ i = .int .i64 (k : Int) ∧ Below w.heap.size w wr ∧ allBB U k = true) (fun i _ => n - (intOf i).toNat)
  case atStart => exact ⟨0, Nat.zero_le _, rfl, Below.refl _ _, rfl⟩
  case round =>
      obtain ⟨k, hk, rfl, hB, hall0⟩ := hrel
      have hall : Shut (allBB U k = true) := hall0
      clear hall0
      by_cases hlt : k < n
      · have hkn : (k : Int) < (n : Int) := by omega
        obtain ⟨b, o, rfl, hbl, hc⟩ := (h.below hB) (by omega)
        have c0 := hc (k * 12) (by omega)
        have c1 := hc (k * 12 + 1) (by omega)
        have c2 := hc (k * 12 + 2) (by omega)
        have c3 := hc (k * 12 + 3) (by omega)
        have c4 := hc (k * 12 + 4) (by omega)
        have c5 := hc (k * 12 + 5) (by omega)
        have c6 := hc (k * 12 + 6) (by omega)
        have c7 := hc (k * 12 + 7) (by omega)
        have c8 := hc (k * 12 + 8) (by omega)
        have c9 := hc (k * 12 + 9) (by omega)
        have c10 := hc (k * 12 + 10) (by omega)
        have c11 := hc (k * 12 + 11) (by omega)
        simp only [← Nat.add_assoc] at c0 c1 c2 c3 c4 c5 c6 c7 c8 c9 c10 c11
        go_upto_region 4 with fail
        cases hi : bodyB (fun j => U (k * 12 + j)) with
        | false =>
          have hno : Shut (stepBB U k = false) := by show stepBB U k = false; rw [stepBB, hi]; rfl
          clear hc
          refine wp_region_held_drew (S := fun w' => w'.cell? ⟨b, o + k * 12, none⟩ = some (.int .i64 (U (k * 12))) ∧ w'.cell? ⟨b, o + k * 12 + 1, none⟩ = some (.int .i64 (U (k * 12 + 1))) ∧ w'.cell? ⟨b, o + k * 12 + 2, none⟩ = some (.int .i64 (U (k * 12 + 2))) ∧ w'.cell? ⟨b, o + k * 12 + 3, none⟩ = some (.int .i64 (U (k * 12 + 3))) ∧ w'.cell? ⟨b, o + k * 12 + 4, none⟩ = some (.int .i64 (U (k * 12 + 4))) ∧ w'.cell? ⟨b, o + k * 12 + 5, none⟩ = some (.int .i64 (U (k * 12 + 5))) ∧ w'.cell? ⟨b, o + k * 12 + 6, none⟩ = some (.int .i64 (U (k * 12 + 6))) ∧ w'.cell? ⟨b, o + k * 12 + 7, none⟩ = some (.int .i64 (U (k * 12 + 7))) ∧ w'.cell? ⟨b, o + k * 12 + 8, none⟩ = some (.int .i64 (U (k * 12 + 8))) ∧ w'.cell? ⟨b, o + k * 12 + 9, none⟩ = some (.int .i64 (U (k * 12 + 9))) ∧ w'.cell? ⟨b, o + k * 12 + 10, none⟩ = some (.int .i64 (U (k * 12 + 10))) ∧ w'.cell? ⟨b, o + k * 12 + 11, none⟩ = some (.int .i64 (U (k * 12 + 11)))) (by kernel_rfl) ?_ (fun hHeld => ?_)
          · (try dsimp only)
            (first | (go_simp; done) | (go_keep; done))
          refine tq 0 hHeld ?_
          refine tq 1 hHeld ?_
          refine tq 2 hHeld ?_
          refine tq 3 hHeld ?_
          (refine tc 4 fun K hK => ?_; go_simp; (go_at_call 35; refine (sBodyOk_q (fun j => U (k * 12 + j)) _ _ (by exact hi)).mono ?_; rintro e w2 ⟨rfl, hb2⟩; obtain ⟨hc2, hf2⟩ := bcell hb2; have hz2 := hb2.size; (try simp only [World.size_drew, World.size_alloc, World.size_setCell] at hc2 hf2 hz2); have hk3 := fun o => hc2 b o (by omega); clear hc2 hf2); (try go_wp2_with fail); refine tr hK (fun hHeld => ?_); clear hK K)
          refine tq 5 hHeld ?_
          refine tq 6 hHeld ?_
          refine tn 7 hHeld ?_
          refine tn 8 hHeld ?_
          refine tn 9 hHeld ?_
          refine tn 10 hHeld ?_
          refine tn 11 hHeld ?_
          refine tn 12 hHeld ?_
          refine tn 13 hHeld ?_
          refine tn 14 hHeld ?_
          refine tn 15 hHeld ?_
          refine tn 16 hHeld ?_
          refine tn 17 hHeld ?_
          refine tn 18 hHeld ?_
          refine tn 19 hHeld ?_
          refine tn 20 hHeld ?_
          refine tn 21 hHeld ?_
          refine tn 22 hHeld ?_
          refine tq 23 hHeld ?_
          refine wpAnyH_done (by kernel_rfl) ?_ _
          go_wp2_with fail
          go_ret
          exact ⟨by rw [bodsB, allBB_no hno.out n hlt, Bool.and_false]; rfl, hB.trans (hb2.ofDr.mono hB.size)⟩
        | true =>
          by_cases hk0 : 0 < k
          · have hd0 : decide (0 < k) = true := decide_eq_true hk0
            obtain ⟨j, hj⟩ : ∃ j, j + 1 = k := ⟨k - 1, by omega⟩
            have hj' : (k : Int) - 1 = (j : Int) := by omega
            have hjn : j < n := by omega
            have hwj : IntKind.i64.wrap (j : Int) = (j : Int) := i64w (by omega)
            have HJ : Shut (j + 1 = k) := hj
            clear hj
            have p0 := hc (j * 12) (by omega)
            clear hc
            by_cases hge : U (j * 12) < U (k * 12)
            · have hdg : decide (U (k * 12) ≤ U (j * 12)) = false := decide_eq_false (by omega)
              have hyes : Shut (stepBB U k = true) := by show stepBB U k = true; rw [stepBB, hi, show k - 1 = j from by have := HJ.out; omega]; simp [hge]
              refine wp_region_held_drew (S := fun w' => w'.cell? ⟨b, o + k * 12, none⟩ = some (.int .i64 (U (k * 12))) ∧ w'.cell? ⟨b, o + k * 12 + 1, none⟩ = some (.int .i64 (U (k * 12 + 1))) ∧ w'.cell? ⟨b, o + k * 12 + 2, none⟩ = some (.int .i64 (U (k * 12 + 2))) ∧ w'.cell? ⟨b, o + k * 12 + 3, none⟩ = some (.int .i64 (U (k * 12 + 3))) ∧ w'.cell? ⟨b, o + k * 12 + 4, none⟩ = some (.int .i64 (U (k * 12 + 4))) ∧ w'.cell? ⟨b, o + k * 12 + 5, none⟩ = some (.int .i64 (U (k * 12 + 5))) ∧ w'.cell? ⟨b, o + k * 12 + 6, none⟩ = some (.int .i64 (U (k * 12 + 6))) ∧ w'.cell? ⟨b, o + k * 12 + 7, none⟩ = some (.int .i64 (U (k * 12 + 7))) ∧ w'.cell? ⟨b, o + k * 12 + 8, none⟩ = some (.int .i64 (U (k * 12 + 8))) ∧ w'.cell? ⟨b, o + k * 12 + 9, none⟩ = some (.int .i64 (U (k * 12 + 9))) ∧ w'.cell? ⟨b, o + k * 12 + 10, none⟩ = some (.int .i64 (U (k * 12 + 10))) ∧ w'.cell? ⟨b, o + k * 12 + 11, none⟩ = some (.int .i64 (U (k * 12 + 11))) ∧ w'.cell? ⟨b, o + j * 12, none⟩ = some (.int .i64 (U (j * 12)))) (by kernel_rfl) ?_ (fun hHeld => ?_)
              · (try dsimp only)
                (first | (go_simp; done) | (go_keep; done))
              refine tq 0 hHeld ?_
              refine tq 1 hHeld ?_
              refine tq 2 hHeld ?_
              refine tq 3 hHeld ?_
              (refine tc 4 fun K hK => ?_; go_simp; (go_at_call 35; refine (sBodyOk_q (fun j => U (k * 12 + j)) _ _ (by exact hi)).mono ?_; rintro e w2 ⟨rfl, hb2⟩; obtain ⟨hc2, hf2⟩ := bcell hb2; have hz2 := hb2.size; (try simp only [World.size_drew, World.size_alloc, World.size_setCell] at hc2 hf2 hz2); have hk3 := fun o => hc2 b o (by omega); clear hc2 hf2); (try go_wp2_with fail); refine tr hK (fun hHeld => ?_); clear hK K)
              refine tq 5 hHeld ?_
              refine tq 6 hHeld ?_
              refine tq 7 hHeld ?_
              refine tq 8 hHeld ?_
              refine tq 9 hHeld ?_
              refine tq 10 hHeld ?_
              refine tq 11 hHeld ?_
              refine tq 12 hHeld ?_
              refine tq 13 hHeld ?_
              refine tq 14 hHeld ?_
              refine tq 15 hHeld ?_
              refine tq 16 hHeld ?_
              refine tq 17 hHeld ?_
              refine tq 18 hHeld ?_
              refine tq 19 hHeld ?_
              refine tq 20 hHeld ?_
              refine tq 21 hHeld ?_
              refine tq 22 hHeld ?_
              refine tq 23 hHeld ?_
              refine wpAnyH_done (by kernel_rfl) ?_ _
              go_wp2_with fail
              go_roundw
              case rel => exact ⟨k + 1, by omega, by go_num, hB.trans (hb2.ofDr.mono hB.size), by rw [allBB, hall.out, hyes.out]; rfl⟩
              case measure => simp [intOf]; omega
            · have hdg : decide (U (k * 12) ≤ U (j * 12)) = true := decide_eq_true (by omega)
              have hno : Shut (stepBB U k = false) := by show stepBB U k = false; rw [stepBB, show k - 1 = j from by have := HJ.out; omega]; have := HJ.out; simp [hge]; omega
              refine wp_region_held_drew (S := fun w' => w'.cell? ⟨b, o + k * 12, none⟩ = some (.int .i64 (U (k * 12))) ∧ w'.cell? ⟨b, o + k * 12 + 1, none⟩ = some (.int .i64 (U (k * 12 + 1))) ∧ w'.cell? ⟨b, o + k * 12 + 2, none⟩ = some (.int .i64 (U (k * 12 + 2))) ∧ w'.cell? ⟨b, o + k * 12 + 3, none⟩ = some (.int .i64 (U (k * 12 + 3))) ∧ w'.cell? ⟨b, o + k * 12 + 4, none⟩ = some (.int .i64 (U (k * 12 + 4))) ∧ w'.cell? ⟨b, o + k * 12 + 5, none⟩ = some (.int .i64 (U (k * 12 + 5))) ∧ w'.cell? ⟨b, o + k * 12 + 6, none⟩ = some (.int .i64 (U (k * 12 + 6))) ∧ w'.cell? ⟨b, o + k * 12 + 7, none⟩ = some (.int .i64 (U (k * 12 + 7))) ∧ w'.cell? ⟨b, o + k * 12 + 8, none⟩ = some (.int .i64 (U (k * 12 + 8))) ∧ w'.cell? ⟨b, o + k * 12 + 9, none⟩ = some (.int .i64 (U (k * 12 + 9))) ∧ w'.cell? ⟨b, o + k * 12 + 10, none⟩ = some (.int .i64 (U (k * 12 + 10))) ∧ w'.cell? ⟨b, o + k * 12 + 11, none⟩ = some (.int .i64 (U (k * 12 + 11))) ∧ w'.cell? ⟨b, o + j * 12, none⟩ = some (.int .i64 (U (j * 12)))) (by kernel_rfl) ?_ (fun hHeld => ?_)
              · (try dsimp only)
                (first | (go_simp; done) | (go_keep; done))
              refine tq 0 hHeld ?_
              refine tq 1 hHeld ?_
              refine tq 2 hHeld ?_
              refine tq 3 hHeld ?_
              (refine tc 4 fun K hK => ?_; go_simp; (go_at_call 35; refine (sBodyOk_q (fun j => U (k * 12 + j)) _ _ (by exact hi)).mono ?_; rintro e w2 ⟨rfl, hb2⟩; obtain ⟨hc2, hf2⟩ := bcell hb2; have hz2 := hb2.size; (try simp only [World.size_drew, World.size_alloc, World.size_setCell] at hc2 hf2 hz2); have hk3 := fun o => hc2 b o (by omega); clear hc2 hf2); (try go_wp2_with fail); refine tr hK (fun hHeld => ?_); clear hK K)
              refine tq 5 hHeld ?_
              refine tq 6 hHeld ?_
              refine tq 7 hHeld ?_
              refine tq 8 hHeld ?_
              refine tq 9 hHeld ?_
              refine tq 10 hHeld ?_
              refine tq 11 hHeld ?_
              refine tq 12 hHeld ?_
              refine tq 13 hHeld ?_
              refine tq 14 hHeld ?_
              refine tq 15 hHeld ?_
              refine tq 16 hHeld ?_
              refine tq 17 hHeld ?_
              refine tq 18 hHeld ?_
              refine tq 19 hHeld ?_
              refine tq 20 hHeld ?_
              refine tq 21 hHeld ?_
              refine tq 22 hHeld ?_
              refine tq 23 hHeld ?_
              refine wpAnyH_done (by kernel_rfl) ?_ _
              go_wp2_with fail
              go_ret
              exact ⟨by rw [bodsB, allBB_no hno.out n hlt, Bool.and_false]; rfl, hB.trans (hb2.ofDr.mono hB.size)⟩
          · have hd0 : decide (0 < k) = false := decide_eq_false hk0
            have HK : Shut (k = 0) := (by omega : k = 0)
            clear hk0 hc
            have hyes : Shut (stepBB U k = true) := by show stepBB U k = true; rw [stepBB, hi, HK.out]; rfl
            refine wp_region_held_drew (S := fun w' => w'.cell? ⟨b, o + k * 12, none⟩ = some (.int .i64 (U (k * 12))) ∧ w'.cell? ⟨b, o + k * 12 + 1, none⟩ = some (.int .i64 (U (k * 12 + 1))) ∧ w'.cell? ⟨b, o + k * 12 + 2, none⟩ = some (.int .i64 (U (k * 12 + 2))) ∧ w'.cell? ⟨b, o + k * 12 + 3, none⟩ = some (.int .i64 (U (k * 12 + 3))) ∧ w'.cell? ⟨b, o + k * 12 + 4, none⟩ = some (.int .i64 (U (k * 12 + 4))) ∧ w'.cell? ⟨b, o + k * 12 + 5, none⟩ = some (.int .i64 (U (k * 12 + 5))) ∧ w'.cell? ⟨b, o + k * 12 + 6, none⟩ = some (.int .i64 (U (k * 12 + 6))) ∧ w'.cell? ⟨b, o + k * 12 + 7, none⟩ = some (.int .i64 (U (k * 12 + 7))) ∧ w'.cell? ⟨b, o + k * 12 + 8, none⟩ = some (.int .i64 (U (k * 12 + 8))) ∧ w'.cell? ⟨b, o + k * 12 + 9, none⟩ = some (.int .i64 (U (k * 12 + 9))) ∧ w'.cell? ⟨b, o + k * 12 + 10, none⟩ = some (.int .i64 (U (k * 12 + 10))) ∧ w'.cell? ⟨b, o + k * 12 + 11, none⟩ = some (.int .i64 (U (k * 12 + 11)))) (by kernel_rfl) ?_ (fun hHeld => ?_)
            · (try dsimp only)
              (first | (go_simp; done) | (go_keep; done))
            refine tq 0 hHeld ?_
            refine tq 1 hHeld ?_
            refine tq 2 hHeld ?_
            refine tq 3 hHeld ?_
            (refine tc 4 fun K hK => ?_; go_simp; (go_at_call 35; refine (sBodyOk_q (fun j => U (k * 12 + j)) _ _ (by exact hi)).mono ?_; rintro e w2 ⟨rfl, hb2⟩; obtain ⟨hc2, hf2⟩ := bcell hb2; have hz2 := hb2.size; (try simp only [World.size_drew, World.size_alloc, World.size_setCell] at hc2 hf2 hz2); have hk3 := fun o => hc2 b o (by omega); clear hc2 hf2); (try go_wp2_with fail); refine tr hK (fun hHeld => ?_); clear hK K)
            refine tq 5 hHeld ?_
            refine tq 6 hHeld ?_
            refine tq 7 hHeld ?_
            refine tq 8 hHeld ?_
            refine tq 9 hHeld ?_
            refine tn 10 hHeld ?_
            refine tn 11 hHeld ?_
            refine tn 12 hHeld ?_
            refine tn 13 hHeld ?_
            refine tn 14 hHeld ?_
            refine tn 15 hHeld ?_
            refine tn 16 hHeld ?_
            refine tn 17 hHeld ?_
            refine tn 18 hHeld ?_
            refine tn 19 hHeld ?_
            refine tn 20 hHeld ?_
            refine tn 21 hHeld ?_
            refine tq 22 hHeld ?_
            refine tq 23 hHeld ?_
            refine wpAnyH_done (by kernel_rfl) ?_ _
            go_wp2_with fail
            go_roundw
            case rel => exact ⟨k + 1, by omega, by go_num, hB.trans (hb2.ofDr.mono hB.size), by rw [allBB, hall.out, hyes.out]; rfl⟩
            case measure => simp [intOf]; omega
      · obtain rfl : k = n := by omega
        by_cases h12 : k ≤ 12
        · have h12' : (k : Int) ≤ 12 := by omega
          go_wp2
          go_ret
          exact ⟨by rw [bodsB, hall.out, decide_eq_true h12]; rfl, hB⟩
        · have h12' : ¬ (k : Int) ≤ 12 := by omega
          go_wp2
          go_ret
          exact ⟨by rw [bodsB, decide_eq_false h12]; rfl, hB⟩
theorem sBodiesOk_q (a : Option Addr) (n c : Nat) (U : Nat → Int) (b : Bool) (w : World) (h : Flat w a (n * 12) U) (hn : n ≤ 1048576) (e : bodsB n U = b) :
    Calls Tryz.prog 23 #[.slice a n c] w fun e w' => e = .returned (.bool b) ∧ Below w.heap.size w w' := by subst e; exact sBodiesOk_any a n c U w h hn
theorem columnsOf_ok (a : Option Addr) (n c : Nat) (U : Nat → Int) (w : World) (h : Flat w a (n * 12) U) (hn : n ≤ 1048576) (e : bodsB n U = true) :
    Calls Tryz.prog 27 #[.slice a n c] w fun e w' => ∃ cb S, e = .returned (.tuple #[.pointer (some ⟨cb, 0, none⟩), .bool true]) ∧ w.heap.size ≤ cb ∧ Cs w' cb n (colOf U) S ∧ Below w.heap.size w w' :=
  (columnsOf_any a n c U w h hn).mono fun e' w' q => by
    obtain ⟨q1, (⟨_, cb, S, q2, q3, q4⟩ | ⟨q2, _⟩)⟩ := q
    · exact ⟨cb, S, q2, q3, q4, q1⟩
    · rw [e] at q2; cases q2
theorem columnsOf_no (a : Option Addr) (n c : Nat) (U : Nat → Int) (w : World) (h : Flat w a (n * 12) U) (hn : n ≤ 1048576) (e : bodsB n U = false) :
    Calls Tryz.prog 27 #[.slice a n c] w fun e w' => e = .returned (.tuple #[.pointer none, .bool false]) ∧ Below w.heap.size w w' :=
  (columnsOf_any a n c U w h hn).mono fun e' w' q => by
    obtain ⟨q1, (⟨q2, _⟩ | ⟨_, q2⟩)⟩ := q
    · rw [e] at q2; cases q2
    · exact ⟨q2, q1⟩
end Go.Proofs.YtlbpmmjckoaleaaGreat
namespace Go.Proofs.YtlbpmmjckoaleaaGreat
open Go.RowKit
set_option linter.unusedVariables false
set_option linter.unusedSimpArgs false
theorem selL_congr {p q : Nat → Bool} : ∀ n, (∀ j, j < n → p j = q j) → selL p n = selL q n
  | 0, _ => rfl
  | n + 1, h => by rw [selL, selL, selL_congr n (fun j hj => h j (by omega)), h n (by omega)]
def gofP (fx : Nat → Bool) (L : Nat → Nat) (q : Int) (j : Nat) : Bool := fx j || decide (gnum fx L j = q)
theorem mem_gnum {fx : Nat → Bool} {L : Nat → Nat} (hT : Tops fx L) {i k : Nat} (hf : fstB fx L i = true) (hk : cntp (fstB fx L) i = k) (j : Nat) : L j = i ↔ gnum fx L j = (k : Int) := by
  have hfi : fx i = false := by
    unfold fstB at hf
    cases h : fx i with
    | false => rfl
    | true => rw [h] at hf; cases hf
  unfold gnum
  constructor
  · intro h
    have hx : fx j = false := by rw [← hT.fx, h]; exact hfi
    rw [if_neg (by rw [hx]; simp), h, hk]
  · intro h
    by_cases hx : fx j = true
    · rw [if_pos hx] at h; omega
    · rw [if_neg hx] at h
      exact cntp_inj _ (hT.fst (by simpa using hx)) hf (by omega)
structure Fv (w A : World) (H fb gb cb : Nat) (q : Int) (v : Value) (ms : List Nat) : Prop where
  bel : Below w.heap.size w A
  box : A.cell? ⟨fb, 0, none⟩ = some v
  nf : A.frozen? ⟨fb, 0, none⟩ = false
  gb : A.cell? ⟨gb, 0, none⟩ = some (.int .i64 q)
  own : HL A H cb v ms
  lo : w.heap.size ≤ fb
section
variable {w A A' : World} {H fb gb cb : Nat} {q : Int} {v v' : Value} {ms ms' : List Nat}
theorem Fv.lt (h : Fv w A H fb gb cb q v ms) : fb < A.heap.size := cell_lt (a := ⟨fb, 0, none⟩) h.box
theorem Fv.kx {B : Nat} (h : Fv w A H fb gb cb q v ms) (k : Kx B H A A') (hB : w.heap.size ≤ B) (h1 : fb < B) (h2 : gb < B) : Fv w A' H fb gb cb q v ms :=
  ⟨h.bel.trans (k.below.mono hB), (k.below.cell (p := ⟨fb, 0, none⟩) h1).trans h.box, (k.below.frozen (p := ⟨fb, 0, none⟩) h1).trans h.nf, (k.below.cell (p := ⟨gb, 0, none⟩) h2).trans h.gb, h.own.kx k (Nat.le_refl _), h.lo⟩
theorem Fv.sm {B : Nat} (h : Fv w A H fb gb cb q v ms) (k : Sm B A A') (hB : w.heap.size ≤ B) : Fv w A' H fb gb cb q v ms :=
  ⟨h.bel.trans (k.below.mono hB), k.cell h.box, k.frozen h.box h.nf, k.cell h.gb, h.own.sm k, h.lo⟩
theorem Fv.put (h : Fv w A H fb gb cb q v ms) (hn : gb ≠ fb) (hH : fb < H) (ho : HL A H cb v' ms') : Fv w (A.setCell ⟨fb, 0, none⟩ v') H fb gb cb q v' ms' :=
  ⟨h.bel.setCell h.lo _, by rw [cset_map, h.box]; rfl, by rw [World.frozen?_setCell]; exact h.nf, by rw [cset_far (by simp; exact hn)]; exact h.gb, ho.frame (X := fun b => b = fb) (Fr.setCell (X := fun b => b = fb) (p := ⟨fb, 0, none⟩) rfl _) (fun b e z => by have := (ho.lt b e).1; omega), h.lo⟩
end
theorem groupOf_any (a : Option Addr) (n c : Nat) (U : Nat → Int) (q : Int) (M : Nat) (w : World) (h : Flat w a (n * 12) U) (hok : bodsB n U = true) (hn : n ≤ 12) (hM : (conL (colOf U) n).length = M * 5) (hMk : M ≤ 1000) (hq : 0 ≤ q)
    (sel : List Nat) (hsel : selL (gofP (fxU U) (lab (edg U (ofL (conL (colOf U) n))) M) q) n = sel) :
    Calls Tryz.prog 21 #[.slice a n c, .int .i64 q] w fun e w' => ∃ a' c', e = .returned (.slice a' sel.length c') ∧ OutL w w' 48 12 a' sel.length c' (fun z => selC (colOf U) sel (z % 12) (z / 12)) := by
  have hset := cset_map
  obtain ⟨L, hL⟩ : ∃ L, (lab (edg U (ofL (conL (colOf U) n))) M) = L := ⟨_, rfl⟩
  have hT : Shut (Tops (fxU U) L) := hL ▸ lab_tops U _ M
  have hGr : ∀ cb S w1, Cs w1 cb n (colOf U) S → ItG Tryz.prog 31 #[.pointer (some ⟨cb, 0, none⟩)] (ColF cb n (fxU U)) (GrE cb n (fxU U) L) (cntp (fstB (fxU U) L) n) w1 := fun cb S w1 hC => groups_any cb n U S M w1 hC hn hM hMk L (fun j => by rw [← hL]) (fxU U)
  rw [hL] at hsel
  clear hL hM hMk
  have hsl := selL_le (gofP (fxU U) L q) n
  rw [hsel] at hsl
  have hn20 : n ≤ 1048576 := by omega
  have hq0 : ¬ q < 0 := by omega
  have hEg : Below w.heap.size w (w.alloc (Obj.cells #[.int .i64 q] 3)) := (Below.refl _ _).alloc (Nat.le_refl _) _
  have g0 : (w.alloc (Obj.cells #[.int .i64 q] 3)).cell? ⟨w.heap.size, 0, none⟩ = some (.int .i64 q) := by go_simp
  have hzg : (w.alloc (Obj.cells #[.int .i64 q] 3)).heap.size = w.heap.size + 1 := by simp
  have hfl := h.below hEg
  refine calls_of_wp_marks Tryz.func21 rfl ?_
  simp only [Tryz.ntmps21, List.size_toArray, List.length_cons, List.length_nil, Nat.reduceAdd, Nat.reduceSub, Array.replicate_succ, Array.replicate_zero, List.push_toArray, List.append_toArray, List.nil_append, List.cons_append]
  go_wp2_with (go_at_call 27; refine (columnsOf_ok a n c U _ hfl hn20 hok).mono ?_; rintro e w1 ⟨cb, S, rfl, hcb, hC, hb1⟩; have g1 := (hb1.cell (p := ⟨w.heap.size, 0, none⟩) (by show w.heap.size < (w.alloc (Obj.cells #[.int .i64 q] 3)).heap.size; omega)).trans g0)
  have hb01 : Below w.heap.size w w1 := hEg.trans (hb1.mono (by omega))
  have hz1 : w.heap.size + 1 ≤ w1.heap.size := by have := hb1.size; omega
  have hE1 : Below w1.heap.size w1 (w1.alloc (Obj.cells #[.slice none 0 0] 61)) := (Below.refl _ _).alloc (Nat.le_refl _) _
  have x1 : (w1.alloc (Obj.cells #[.slice none 0 0] 61)).cell? ⟨w1.heap.size, 0, none⟩ = some (.slice none 0 0) := by go_simp
  have f1 : (w1.alloc (Obj.cells #[.slice none 0 0] 61)).frozen? ⟨w1.heap.size, 0, none⟩ = false := by go_simp
  have hz2 : (w1.alloc (Obj.cells #[.slice none 0 0] 61)).heap.size = w1.heap.size + 1 := by simp
  have g2 := (hE1.cell (p := ⟨w.heap.size, 0, none⟩) (by show w.heap.size < w1.heap.size; omega)).trans g1
  generalize (w1.alloc (Obj.cells #[.slice none 0 0] 61)) = w2 at hE1 x1 f1 hz2 g2 ⊢
  have hG2 := hGr cb S w2 (hC.below hE1)
  have hCA : ∀ A, Below w1.heap.size w1 A → Cs A cb n (colOf U) S := fun A hb => hC.below hb
  clear hGr g0 g1 hzg hEg hfl hb1
  refine wp_range_outG (gf := 31) (bound := #[.pointer (some ⟨cb, 0, none⟩)]) rfl groups_enters hG2 (fun H k args A hE => by obtain ⟨i, v, _, _, _, rfl, _⟩ := hE; rfl)
    (fun H k A => w2.heap.size ≤ H ∧ ∃ v ms, Fv w1 A H w1.heap.size w.heap.size cb q v ms ∧ ms.length ≤ 12 ∧ ∀ j, j ∈ ms ↔ j < n ∧ gnum (fxU U) L j = q ∧ q < (k : Int)) ?hI ?hIs ?hcol ?h0 ?round ?done
  case hI => rintro H k A B' ⟨h0, v, ms, h1, h2⟩ hk; exact ⟨h0, v, ms, h1.kx hk (by omega) (by omega) (by omega), h2⟩
  case hIs => rintro H k A B' ⟨h0, v, ms, h1, h2⟩ hs; exact ⟨h0, v, ms, h1.sm hs (by omega), h2⟩
  case hcol => rintro H k A ⟨_, v, ms, h1, h2⟩; exact ⟨_, _, hCA A h1.bel, fun j _ => rfl⟩
  case h0 =>
    intro W0 hb hz
    exact ⟨by omega, .slice none 0 0, [], ⟨hE1.trans (hb.mono (by omega)), (hb.cell (p := ⟨w1.heap.size, 0, none⟩) (by show w1.heap.size < w2.heap.size; omega)).trans x1, (hb.frozen (p := ⟨w1.heap.size, 0, none⟩) (by show w1.heap.size < w2.heap.size; omega)).trans f1, (hb.cell (p := ⟨w.heap.size, 0, none⟩) (by show w.heap.size < w2.heap.size; omega)).trans g2, HL.nil _ _ _, Nat.le_refl _⟩, by simp, fun j => ⟨(fun z => by cases z), (fun z => by omega)⟩⟩
  case round =>
    rintro lr H k W args hlr1 hlr2 hWz ⟨hHz, v, ms, hV1, hml, hmem⟩ hkk ⟨i, vv, hi, hfi, hck, rfl, hHL⟩
    clear hG2 x1 f1 g2
    obtain ⟨va, vc, rfl⟩ := hHL.is
    simp only [List.zip_toArray, List.zip_cons_cons, List.zip_nil_left, List.foldl_toArray, List.foldl_cons, List.foldl_nil, List.setIfInBounds_toArray, List.set_cons_succ, List.set_cons_zero]
    refine wpIn_seq_k fun K1 hK1 => ?_
    refine wpIn_region_plain (by rintro ⟨_, _, h⟩; exact h) (by kernel_rfl) ?_
    go_wp2
    refine wpIn_region_plain (by rintro ⟨_, _, h⟩; exact h) (by kernel_rfl) ?_
    go_wp2
    refine ⟨KeepsFrom.refl _ _, fun W2 hS hKc hr => ?_⟩
    have hV2 := hV1.sm hS (by omega)
    have hHL2 := hHL.sm hS
    have hKc2 : Kc (w2.heap.size + 2) H W W2 := hKc _ _ hlr2
    clear hV1 hHL hKc hS hr
    have x0 := hV2.box
    have xf := hV2.nf
    have y0 := hV2.gb
    refine wpIn_block ?_
    refine wpIn_seq_k fun K2 hK2 => ?_
    refine wpIn_region_plain (by rintro ⟨_, _, h⟩; exact h) (by kernel_rfl) ?_
    go_wp2
    obtain ⟨be, hbe⟩ : ∃ b, ((k : Int) == q) = b := ⟨_, rfl⟩
    cases be with
    | true =>
      have hkq : (k : Int) = q := beq_iff_eq.1 hbe
      refine wpIn_cond_true (by simp [go_sem, hbe]) ?_
      refine wpIn_region_plain (by rintro ⟨_, _, h⟩; exact h) (by kernel_rfl) ?_
      have hP := hV2.put (by omega) (by omega) hHL2
      go_wp2
      refine ⟨(KeepsOthers.setCell _ _ _).from _, ⟨hHz, _, _, hP, Nat.le_trans (memL_le L i n) hn, fun j => ?_⟩, hKc2.trans (Kc.fr (Fr.setCell (X := fun b => b = w1.heap.size) (p := ⟨w1.heap.size, 0, none⟩) rfl _) (fun b e => .inl (by omega)))⟩
      rw [memL_mem, mem_gnum hT.out hfi hck j]
      constructor
      · rintro ⟨z1, z2⟩; exact ⟨z1, by omega, by omega⟩
      · rintro ⟨z1, z2, _⟩; exact ⟨z1, by omega⟩
    | false =>
      have hkq : (k : Int) ≠ q := beq_eq_false_iff_ne.1 hbe
      refine wpIn_cond_false (by simp [go_sem, hbe]) ?_
      refine wpIn_skip ?_
      refine ⟨KeepsFrom.refl _ _, ⟨hHz, v, ms, hV2, hml, fun j => ?_⟩, hKc2⟩
      rw [hmem j]
      constructor
      · rintro ⟨z1, z2, z3⟩; exact ⟨z1, z2, by omega⟩
      · rintro ⟨z1, z2, z3⟩; exact ⟨z1, z2, by omega⟩
  case done =>
    rintro D H W hD ⟨h0, v, ms, h1, hml, hmem⟩ hK
    have hbx := h1.box
    have hsel2 : Shut (selL (fun j => fxU U j || decide (j ∈ ms)) n = sel) := by
      show _ = _
      rw [← hsel]
      refine selL_congr n fun j hj => ?_
      unfold gofP
      cases hx : fxU U j with
      | true => rfl
      | false =>
        have : (j ∈ ms) ↔ gnum (fxU U) L j = q := by
          rw [hmem j]
          constructor
          · exact fun z => z.2.1
          · intro z
            refine ⟨hj, z, ?_⟩
            have hg := cntp_in (fstB (fxU U) L) (show L j < n by have := hT.out.le j; omega) (hT.out.fst hx)
            unfold gnum at z
            rw [if_neg (by rw [hx]; simp)] at z
            omega
        rw [decide_eq_decide.2 this]
    have hDl : D < W.heap.size := (Array.getElem?_eq_some_iff.1 hK).1
    go_wp2_with (first
      | (have _ := hb11; go_at_call 34; refine (list_any pb sel.length (selC (colOf U) sel) S11 _ hC11 (by omega)).mono ?_; rintro e w12 ⟨a12, c12, rfl, hO12⟩)
      | (go_at_call 33; refine (withFixed_any cb n (colOf U) S H v ms _ (hCA _ h1.bel) hn h1.own hml (fun j => fxU U j || decide (j ∈ ms)) (fun j _ => rfl)).mono ?_; rintro e w11 ⟨pb, S11, rfl, hC11, hb11⟩; rw [hsel2.out] at hC11))
    have hK2 := (hO12.bel.block D (Nat.lt_of_lt_of_le hDl hb11.size)).trans ((hb11.block D hDl).trans hK)
    refine marks_ret (B := w2.heap.size) hD rfl hK2 fun W' hS => ⟨.slice a12 sel.length c12, ?_, a12, c12, rfl, ?_, ?_⟩
    · simp [results, Tryz.results21, go_sem, *]
    · have k1 := hb01.trans ((h1.bel.trans ((hb11.trans (hO12.bel.mono hb11.size)).mono h1.bel.size)).mono hb01.size)
      exact k1.trans (hS.below.mono (by omega))
    · exact (hO12.own.sm hS).base (by have := hb11.size; have := h1.bel.size; omega)
end Go.Proofs.YtlbpmmjckoaleaaGreat
