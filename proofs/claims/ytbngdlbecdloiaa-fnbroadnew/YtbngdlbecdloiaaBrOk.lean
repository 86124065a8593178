/- Whether boxes by number are ok: both sides. -/
import Derived.Test.YtbngdlbecdloiaaB10
import Derived.Test.YtbngdlbecdloiaaB4
import Derived.Deep.RegionHeld3
import Derived.Deep.DeepCutAuto
set_option maxHeartbeats 16000000
set_option maxRecDepth 20000
namespace Go.Proofs.Ytbngdlbecdloiaa
open Go.RowKit
set_option linter.unusedVariables false
set_option linter.unusedSimpArgs false
def itemB (V : Nat → Int) : Bool := decide (0 ≤ V 0 ∧ V 0 ≤ 1000000000) && bokB (V 1) (V 2) (V 3) (V 4)
/-- the thing of place k is ok, and behind the one ahead of it -/
def stepB (U : Nat → Int) (k : Nat) : Bool := itemB (fun j => U (k * 5 + j)) && (decide (k = 0) || decide (U ((k - 1) * 5) < U (k * 5)))
def allB (U : Nat → Int) : Nat → Bool
  | 0 => true
  | k + 1 => allB U k && stepB U k
theorem allB_no {U : Nat → Int} {k : Nat} (h : stepB U k = false) : ∀ n, k < n → allB U n = false
  | 0, l => absurd l (Nat.not_lt_zero _)
  | n + 1, l => by
    unfold allB
    rcases Nat.lt_succ_iff_lt_or_eq.1 l with l | rfl
    · rw [allB_no h n l]; rfl
    · rw [h, Bool.and_false]
def broadB (n : Nat) (U : Nat → Int) : Bool := decide (n ≤ 24) && allB U n
theorem itemOk_any (V : Nat → Int) (w : World) :
    Calls Try.prog 39 #[itemW V] w fun e w' => e = .returned (.bool (itemB V)) ∧ Below w.heap.size w w' := by
  have hset := cset_map
  by_cases h : 0 ≤ V 0 ∧ V 0 ≤ 1000000000
  · obtain ⟨h1, h2⟩ := h
    go_enter Try.func39, Try.ntmps39
    go_wp2_with (go_at_call 45; refine (boxOk_any _ _ _ _ _).mono ?_; rintro e w1 ⟨rfl, hb1⟩; obtain ⟨hc1, hf1⟩ := bcell hb1; have hz1 := hb1.size; (try simp only [World.size_drew, World.size_alloc, World.size_setCell] at hc1 hf1 hz1))
    go_ret
    exact ⟨by simp [itemB, h1, h2], bel_a⟩
  · have hd : itemB V = false := by unfold itemB; rw [decide_eq_false h]; rfl
    by_cases h1 : 0 ≤ V 0
    · have h2 : ¬ V 0 ≤ 1000000000 := fun q => h ⟨h1, q⟩
      go_enter Try.func39, Try.ntmps39
      go_wp2
      go_ret
      exact ⟨by first | rfl | (rw [hd]; rfl), bel_a⟩
    · go_enter Try.func39, Try.ntmps39
      go_wp2
      go_ret
      exact ⟨by first | rfl | (rw [hd]; rfl), bel_a⟩
theorem itemOk_q (V : Nat → Int) (b : Bool) (w : World) (e : itemB V = b) :
    Calls Try.prog 39 #[itemW V] w fun e w' => e = .returned (.bool b) ∧ Below w.heap.size w w' := by subst e; exact itemOk_any V w
theorem sBox_q (a b c d : Int) (r : Bool) (w : World) (e : bokB a b c d = r) :
    Calls Try.prog 28 #[b4 a b c d] w fun e w' => e = .returned (.bool r) ∧ Below w.heap.size w w' := by subst e; exact sBoxOk_any a b c d w
theorem l1In_q (n l h : Int) (r : Bool) (w : World) (e : decide (l ≤ n ∧ n ≤ h) = r) :
    Calls Try.prog 42 #[.int .i64 n, .int .i64 l, .int .i64 h] w fun e w' => e = .returned (.bool r) ∧ w' = w := by subst e; exact l1In_any n l h w

theorem _root_.Go.RowKit.Below.ofDrew {B : Nat} {w w' : World} (h : Below B w.drew w') : Below B w w' := ⟨h.os, h.tape, h.output, h.size, h.block⟩
/-- what a round begins with -/
structure BrR (w : World) (a : Option Addr) (n c : Nat) (U : Nat → Int) (wr : World) : Prop where
  bel : Below w.heap.size w wr
  big : w.heap.size < wr.heap.size
  box : wr.cell? ⟨w.heap.size, 0, none⟩ = some (.slice a n c)
theorem BrR.on {w wr w' : World} {a : Option Addr} {n c : Nat} {U : Nat → Int} (h : BrR w a n c U wr) (hb : Below wr.heap.size wr w') : BrR w a n c U w' :=
  ⟨h.bel.trans (hb.mono (Nat.le_of_lt h.big)), Nat.lt_of_lt_of_le h.big hb.size, (hb.cell (p := ⟨w.heap.size, 0, none⟩) h.big).trans h.box⟩
set_option maxRecDepth 20000 in
set_option maxHeartbeats 4000000 in
theorem broadOk_any (a : Option Addr) (n c : Nat) (U : Nat → Int) (w : World) (h : Flat w a (n * 5) U) (hn : n ≤ 1048576) :
    Calls Try.prog 13 #[.agg #[.slice a n c]] w fun e w' => e = .returned (.bool (broadB n U)) ∧ Below w.heap.size w w' := by
  have hset := cset_map
  by_cases h24 : n ≤ 24
  · have h24' : ¬ (24 : Int) < (n : Int) := by omega
    go_enter Try.func13, Try.ntmps13
    go_wp2
    go_loopw [3, 4, 12] (fun _ _ i wr => ∃ k : Nat, k ≤ n ∧ i = .int .i64 (k : Int) ∧ BrR w a n c U wr ∧ allB U k = true) (fun _ _ i _ => n - (intOf i).toNat)
    case atStart => exact ⟨0, Nat.zero_le _, rfl, ⟨(Below.refl _ _).alloc (Nat.le_refl _) _, by simp, by go_simp⟩, rfl⟩
    case round =>
      obtain ⟨k, hk, rfl, hB, hall0⟩ := hrel
      have hall : Shut (allB U k = true) := hall0
      clear hall0
      have hbig := hB.big
      have hbox := hB.box
      by_cases hlt : k < n
      · obtain ⟨b, o, rfl, hbl, hc⟩ := (h.below hB.bel) (by omega)
        have hbl0 : b < w.heap.size := by obtain ⟨b', o', e, l, _⟩ := h (by omega); simp only [Option.some.injEq, Addr.mk.injEq] at e; omega
        have c0 := hc (k * 5) (by omega)
        have c1 := hc (k * 5 + 1) (by omega)
        have c2 := hc (k * 5 + 2) (by omega)
        have c3 := hc (k * 5 + 3) (by omega)
        have c4 := hc (k * 5 + 4) (by omega)
        simp only [← Nat.add_assoc] at c0 c1 c2 c3 c4
        go_upto_region 6 with fail
        have hE : Below wr.heap.size wr (wr.alloc (Obj.cells #[.int .i64 (U (k * 5)), .int .i64 (U (k * 5 + 1)), .int .i64 (U (k * 5 + 2)), .int .i64 (U (k * 5 + 3)), .int .i64 (U (k * 5 + 4))] 31)) := (Below.refl _ _).alloc (Nat.le_refl _) _
        have hB2 := hB.on hE
        have hx := hB2.box
        have hz : (wr.alloc (Obj.cells #[.int .i64 (U (k * 5)), .int .i64 (U (k * 5 + 1)), .int .i64 (U (k * 5 + 2)), .int .i64 (U (k * 5 + 3)), .int .i64 (U (k * 5 + 4))] 31)).heap.size = wr.heap.size + 1 := by simp
        have x0 : (wr.alloc (Obj.cells #[.int .i64 (U (k * 5)), .int .i64 (U (k * 5 + 1)), .int .i64 (U (k * 5 + 2)), .int .i64 (U (k * 5 + 3)), .int .i64 (U (k * 5 + 4))] 31)).cell? ⟨wr.heap.size, 0, none⟩ = some (.int .i64 (U (k * 5))) := by go_simp
        have x1 : (wr.alloc (Obj.cells #[.int .i64 (U (k * 5)), .int .i64 (U (k * 5 + 1)), .int .i64 (U (k * 5 + 2)), .int .i64 (U (k * 5 + 3)), .int .i64 (U (k * 5 + 4))] 31)).cell? ⟨wr.heap.size, 1, none⟩ = some (.int .i64 (U (k * 5 + 1))) := by go_simp
        have x2 : (wr.alloc (Obj.cells #[.int .i64 (U (k * 5)), .int .i64 (U (k * 5 + 1)), .int .i64 (U (k * 5 + 2)), .int .i64 (U (k * 5 + 3)), .int .i64 (U (k * 5 + 4))] 31)).cell? ⟨wr.heap.size, 2, none⟩ = some (.int .i64 (U (k * 5 + 2))) := by go_simp
        have x3 : (wr.alloc (Obj.cells #[.int .i64 (U (k * 5)), .int .i64 (U (k * 5 + 1)), .int .i64 (U (k * 5 + 2)), .int .i64 (U (k * 5 + 3)), .int .i64 (U (k * 5 + 4))] 31)).cell? ⟨wr.heap.size, 3, none⟩ = some (.int .i64 (U (k * 5 + 3))) := by go_simp
        have x4 : (wr.alloc (Obj.cells #[.int .i64 (U (k * 5)), .int .i64 (U (k * 5 + 1)), .int .i64 (U (k * 5 + 2)), .int .i64 (U (k * 5 + 3)), .int .i64 (U (k * 5 + 4))] 31)).cell? ⟨wr.heap.size, 4, none⟩ = some (.int .i64 (U (k * 5 + 4))) := by go_simp
        have y0 : ∀ q, q < n * 5 → (wr.alloc (Obj.cells #[.int .i64 (U (k * 5)), .int .i64 (U (k * 5 + 1)), .int .i64 (U (k * 5 + 2)), .int .i64 (U (k * 5 + 3)), .int .i64 (U (k * 5 + 4))] 31)).cell? ⟨b, o + q, none⟩ = some (.int .i64 (U q)) := fun q hq => (hE.cell (p := ⟨b, o + q, none⟩) hbl).trans (hc q hq)
        generalize (wr.alloc (Obj.cells #[.int .i64 (U (k * 5)), .int .i64 (U (k * 5 + 1)), .int .i64 (U (k * 5 + 2)), .int .i64 (U (k * 5 + 3)), .int .i64 (U (k * 5 + 4))] 31)) = wx at hE hB2 hx hz x0 x1 x2 x3 x4 y0 ⊢
        clear c0 c1 c2 c3 c4 hc hE hbox
        cases hi : itemB (fun j => U (k * 5 + j)) with
        | false =>
          have hno : Shut (stepB U k = false) := by show stepB U k = false; simp [stepB, hi]
          refine wp_region_held_drew (S := fun w' => w'.cell? ⟨wr.heap.size, 0, none⟩ = some (.int .i64 (U (k * 5))) ∧ w'.cell? ⟨wr.heap.size, 1, none⟩ = some (.int .i64 (U (k * 5 + 1))) ∧ w'.cell? ⟨wr.heap.size, 2, none⟩ = some (.int .i64 (U (k * 5 + 2))) ∧ w'.cell? ⟨wr.heap.size, 3, none⟩ = some (.int .i64 (U (k * 5 + 3))) ∧ w'.cell? ⟨wr.heap.size, 4, none⟩ = some (.int .i64 (U (k * 5 + 4))) ∧ w'.cell? ⟨w.heap.size, 0, none⟩ = some (.slice (some ⟨b, o, none⟩) n c)) (by kernel_rfl) ?_ (fun hHeld => ?_)
          · (try dsimp only)
            (first | (go_simp; done) | (go_keep; done))
          refine tq 0 hHeld ?_
          (refine tc 1 fun K hK => ?_; go_simp; (go_at_call 39; refine (itemOk_q (fun j => U (k * 5 + j)) _ _ (by exact hi)).mono ?_; rintro e w1 ⟨rfl, hb1⟩; obtain ⟨hc1, hf1⟩ := bcell hb1; have hz1 := hb1.size; (try simp only [World.size_drew, World.size_alloc, World.size_setCell] at hc1 hf1 hz1); have hk1 := fun o => hc1 (wr.heap.size) o (by omega); have hk2 := fun o => hc1 w.heap.size o (by omega); have hk3 := fun o => hc1 b o (by omega); clear hc1 hf1); (try go_wp2_with fail); refine tr hK (fun hHeld => ?_); clear hK K)
          refine tq 2 hHeld ?_
          refine tq 3 hHeld ?_
          refine tn 4 hHeld ?_
          refine tn 5 hHeld ?_
          refine tn 6 hHeld ?_
          refine tn 7 hHeld ?_
          refine tn 8 hHeld ?_
          refine tn 9 hHeld ?_
          refine tn 10 hHeld ?_
          refine tn 11 hHeld ?_
          refine tn 12 hHeld ?_
          refine tn 13 hHeld ?_
          refine tn 14 hHeld ?_
          refine tn 15 hHeld ?_
          refine tn 16 hHeld ?_
          refine tn 17 hHeld ?_
          refine tq 18 hHeld ?_
          refine wpAnyH_done (by kernel_rfl) ?_ _
          go_wp2_with fail
          go_ret
          exact ⟨by rw [broadB, allB_no hno.out n hlt, Bool.and_false]; rfl, (hB2.on (hb1.ofDrew)).bel⟩
        | true =>
          by_cases hk0 : 0 < k
          · have hd0 : decide (0 < k) = true := decide_eq_true hk0
            obtain ⟨j, hj⟩ : ∃ j, j + 1 = k := ⟨k - 1, by omega⟩
            have hj' : (k : Int) - 1 = (j : Int) := by omega
            have hjn : j < n := by omega
            have hwj : IntKind.i64.wrap (j : Int) = (j : Int) := i64w (by omega)
            have HJ : Shut (j + 1 = k) := hj
            clear hj
            have p0 := y0 (j * 5) (by omega)
            by_cases hge : U (j * 5) < U (k * 5)
            · have hdg : decide (U (k * 5) ≤ U (j * 5)) = false := decide_eq_false (by omega)
              have hyes : Shut (stepB U k = true) := by show stepB U k = true; rw [stepB, hi, show k - 1 = j from by have := HJ.out; omega]; simp [hge]
              refine wp_region_held_drew (S := fun w' => w'.cell? ⟨wr.heap.size, 0, none⟩ = some (.int .i64 (U (k * 5))) ∧ w'.cell? ⟨wr.heap.size, 1, none⟩ = some (.int .i64 (U (k * 5 + 1))) ∧ w'.cell? ⟨wr.heap.size, 2, none⟩ = some (.int .i64 (U (k * 5 + 2))) ∧ w'.cell? ⟨wr.heap.size, 3, none⟩ = some (.int .i64 (U (k * 5 + 3))) ∧ w'.cell? ⟨wr.heap.size, 4, none⟩ = some (.int .i64 (U (k * 5 + 4))) ∧ w'.cell? ⟨w.heap.size, 0, none⟩ = some (.slice (some ⟨b, o, none⟩) n c) ∧ w'.cell? ⟨b, o + j * 5, none⟩ = some (.int .i64 (U (j * 5)))) (by kernel_rfl) ?_ (fun hHeld => ?_)
              · (try dsimp only)
                (first | (go_simp; done) | (go_keep; done))
              refine tq 0 hHeld ?_
              (refine tc 1 fun K hK => ?_; go_simp; (go_at_call 39; refine (itemOk_q (fun j => U (k * 5 + j)) _ _ (by exact hi)).mono ?_; rintro e w1 ⟨rfl, hb1⟩; obtain ⟨hc1, hf1⟩ := bcell hb1; have hz1 := hb1.size; (try simp only [World.size_drew, World.size_alloc, World.size_setCell] at hc1 hf1 hz1); have hk1 := fun o => hc1 (wr.heap.size) o (by omega); have hk2 := fun o => hc1 w.heap.size o (by omega); have hk3 := fun o => hc1 b o (by omega); clear hc1 hf1); (try go_wp2_with fail); refine tr hK (fun hHeld => ?_); clear hK K)
              refine tq 2 hHeld ?_
              refine tq 3 hHeld ?_
              refine tq 4 hHeld ?_
              refine tq 5 hHeld ?_
              refine tq 6 hHeld ?_
              refine tq 7 hHeld ?_
              refine tq 8 hHeld ?_
              refine tq 9 hHeld ?_
              refine tq 10 hHeld ?_
              refine tq 11 hHeld ?_
              refine tq 12 hHeld ?_
              refine tq 13 hHeld ?_
              refine tq 14 hHeld ?_
              refine tq 15 hHeld ?_
              refine tq 16 hHeld ?_
              refine tq 17 hHeld ?_
              refine tq 18 hHeld ?_
              refine wpAnyH_done (by kernel_rfl) ?_ _
              go_wp2_with fail
              go_roundw
              case rel => exact ⟨k + 1, by omega, by go_num, hB2.on (hb1.ofDrew), by rw [allB, hall.out, hyes.out]; rfl⟩
              case measure => simp [intOf]; omega
            · have hdg : decide (U (k * 5) ≤ U (j * 5)) = true := decide_eq_true (by omega)
              have hno : Shut (stepB U k = false) := by show stepB U k = false; rw [stepB, show k - 1 = j from by have := HJ.out; omega]; have := HJ.out; simp [hge]; omega
              refine wp_region_held_drew (S := fun w' => w'.cell? ⟨wr.heap.size, 0, none⟩ = some (.int .i64 (U (k * 5))) ∧ w'.cell? ⟨wr.heap.size, 1, none⟩ = some (.int .i64 (U (k * 5 + 1))) ∧ w'.cell? ⟨wr.heap.size, 2, none⟩ = some (.int .i64 (U (k * 5 + 2))) ∧ w'.cell? ⟨wr.heap.size, 3, none⟩ = some (.int .i64 (U (k * 5 + 3))) ∧ w'.cell? ⟨wr.heap.size, 4, none⟩ = some (.int .i64 (U (k * 5 + 4))) ∧ w'.cell? ⟨w.heap.size, 0, none⟩ = some (.slice (some ⟨b, o, none⟩) n c) ∧ w'.cell? ⟨b, o + j * 5, none⟩ = some (.int .i64 (U (j * 5)))) (by kernel_rfl) ?_ (fun hHeld => ?_)
              · (try dsimp only)
                (first | (go_simp; done) | (go_keep; done))
              refine tq 0 hHeld ?_
              (refine tc 1 fun K hK => ?_; go_simp; (go_at_call 39; refine (itemOk_q (fun j => U (k * 5 + j)) _ _ (by exact hi)).mono ?_; rintro e w1 ⟨rfl, hb1⟩; obtain ⟨hc1, hf1⟩ := bcell hb1; have hz1 := hb1.size; (try simp only [World.size_drew, World.size_alloc, World.size_setCell] at hc1 hf1 hz1); have hk1 := fun o => hc1 (wr.heap.size) o (by omega); have hk2 := fun o => hc1 w.heap.size o (by omega); have hk3 := fun o => hc1 b o (by omega); clear hc1 hf1); (try go_wp2_with fail); refine tr hK (fun hHeld => ?_); clear hK K)
              refine tq 2 hHeld ?_
              refine tq 3 hHeld ?_
              refine tq 4 hHeld ?_
              refine tq 5 hHeld ?_
              refine tq 6 hHeld ?_
              refine tq 7 hHeld ?_
              refine tq 8 hHeld ?_
              refine tq 9 hHeld ?_
              refine tq 10 hHeld ?_
              refine tq 11 hHeld ?_
              refine tq 12 hHeld ?_
              refine tq 13 hHeld ?_
              refine tq 14 hHeld ?_
              refine tq 15 hHeld ?_
              refine tq 16 hHeld ?_
              refine tq 17 hHeld ?_
              refine tq 18 hHeld ?_
              refine wpAnyH_done (by kernel_rfl) ?_ _
              go_wp2_with fail
              go_ret
              exact ⟨by rw [broadB, allB_no hno.out n hlt, Bool.and_false]; rfl, (hB2.on (hb1.ofDrew)).bel⟩
          · have hd0 : decide (0 < k) = false := decide_eq_false hk0
            have HK : Shut (k = 0) := (by omega : k = 0)
            clear hk0
            have hyes : Shut (stepB U k = true) := by show stepB U k = true; rw [stepB, hi, HK.out]; rfl
            refine wp_region_held_drew (S := fun w' => w'.cell? ⟨wr.heap.size, 0, none⟩ = some (.int .i64 (U (k * 5))) ∧ w'.cell? ⟨wr.heap.size, 1, none⟩ = some (.int .i64 (U (k * 5 + 1))) ∧ w'.cell? ⟨wr.heap.size, 2, none⟩ = some (.int .i64 (U (k * 5 + 2))) ∧ w'.cell? ⟨wr.heap.size, 3, none⟩ = some (.int .i64 (U (k * 5 + 3))) ∧ w'.cell? ⟨wr.heap.size, 4, none⟩ = some (.int .i64 (U (k * 5 + 4))) ∧ w'.cell? ⟨w.heap.size, 0, none⟩ = some (.slice (some ⟨b, o, none⟩) n c)) (by kernel_rfl) ?_ (fun hHeld => ?_)
            · (try dsimp only)
              (first | (go_simp; done) | (go_keep; done))
            refine tq 0 hHeld ?_
            (refine tc 1 fun K hK => ?_; go_simp; (go_at_call 39; refine (itemOk_q (fun j => U (k * 5 + j)) _ _ (by exact hi)).mono ?_; rintro e w1 ⟨rfl, hb1⟩; obtain ⟨hc1, hf1⟩ := bcell hb1; have hz1 := hb1.size; (try simp only [World.size_drew, World.size_alloc, World.size_setCell] at hc1 hf1 hz1); have hk1 := fun o => hc1 (wr.heap.size) o (by omega); have hk2 := fun o => hc1 w.heap.size o (by omega); have hk3 := fun o => hc1 b o (by omega); clear hc1 hf1); (try go_wp2_with fail); refine tr hK (fun hHeld => ?_); clear hK K)
            refine tq 2 hHeld ?_
            refine tq 3 hHeld ?_
            refine tq 4 hHeld ?_
            refine tq 5 hHeld ?_
            refine tq 6 hHeld ?_
            refine tn 7 hHeld ?_
            refine tn 8 hHeld ?_
            refine tn 9 hHeld ?_
            refine tn 10 hHeld ?_
            refine tn 11 hHeld ?_
            refine tn 12 hHeld ?_
            refine tn 13 hHeld ?_
            refine tn 14 hHeld ?_
            refine tn 15 hHeld ?_
            refine tn 16 hHeld ?_
            refine tq 17 hHeld ?_
            refine tq 18 hHeld ?_
            refine wpAnyH_done (by kernel_rfl) ?_ _
            go_wp2_with fail
            go_roundw
            case rel => exact ⟨k + 1, by omega, by go_num, hB2.on (hb1.ofDrew), by rw [allB, hall.out, hyes.out]; rfl⟩
            case measure => simp [intOf]; omega
      · go_wp2
        go_ret
        obtain rfl : k = n := by omega
        exact ⟨by rw [broadB, hall.out, decide_eq_true h24]; rfl, hB.bel⟩
  · have h24' : (24 : Int) < (n : Int) := by omega
    go_enter Try.func13, Try.ntmps13
    go_wp2
    go_ret
    exact ⟨by rw [broadB, decide_eq_false h24]; rfl, bel_a⟩

set_option maxRecDepth 20000 in
set_option maxHeartbeats 4000000 in
theorem sBroadOk_any (a : Option Addr) (n c : Nat) (U : Nat → Int) (w : World) (h : Flat w a (n * 5) U) (hn : n ≤ 1048576) :
    Calls Try.prog 14 #[.agg #[.slice a n c]] w fun e w' => e = .returned (.bool (broadB n U)) ∧ Below w.heap.size w w' := by
  have hset := cset_map
  go_enter Try.func14, Try.ntmps14
  go_wp2
  go_loopw [3] (fun i wr => ∃ k : Nat, k ≤ n ∧ i = .int .i64 (k : Int) ∧ BrR w a n c U wr ∧ allB U k = true) (fun i _ => n - (intOf i).toNat)
  case atStart => exact ⟨0, Nat.zero_le _, rfl, ⟨(Below.refl _ _).alloc (Nat.le_refl _) _, by simp, by go_simp⟩, rfl⟩
  case round =>
      obtain ⟨k, hk, rfl, hB, hall0⟩ := hrel
      have hall : Shut (allB U k = true) := hall0
      clear hall0
      have hbig := hB.big
      have hbox := hB.box
      by_cases hlt : k < n
      · have hkn : (k : Int) < (n : Int) := by omega
        obtain ⟨b, o, rfl, hbl, hc⟩ := (h.below hB.bel) (by omega)
        have hbl0 : b < w.heap.size := by obtain ⟨b', o', e, l, _⟩ := h (by omega); simp only [Option.some.injEq, Addr.mk.injEq] at e; omega
        have c0 := hc (k * 5) (by omega)
        have c1 := hc (k * 5 + 1) (by omega)
        have c2 := hc (k * 5 + 2) (by omega)
        have c3 := hc (k * 5 + 3) (by omega)
        have c4 := hc (k * 5 + 4) (by omega)
        simp only [← Nat.add_assoc] at c0 c1 c2 c3 c4
        go_upto_region 4 with fail
        cases hl : decide (0 ≤ U (k * 5) ∧ U (k * 5) ≤ 1000000000) with
        | false =>
          have hno : Shut (stepB U k = false) := by show stepB U k = false; unfold stepB itemB; simp only [Nat.add_zero]; rw [hl]; rfl
          clear hc
          refine wp_region_held_drew (S := fun w' => w'.cell? ⟨b, o + k * 5, none⟩ = some (.int .i64 (U (k * 5))) ∧ w'.cell? ⟨b, o + k * 5 + 1, none⟩ = some (.int .i64 (U (k * 5 + 1))) ∧ w'.cell? ⟨b, o + k * 5 + 2, none⟩ = some (.int .i64 (U (k * 5 + 2))) ∧ w'.cell? ⟨b, o + k * 5 + 3, none⟩ = some (.int .i64 (U (k * 5 + 3))) ∧ w'.cell? ⟨b, o + k * 5 + 4, none⟩ = some (.int .i64 (U (k * 5 + 4))) ∧ w'.cell? ⟨w.heap.size, 0, none⟩ = some (.slice (some ⟨b, o, none⟩) n c)) (by kernel_rfl) ?_ (fun hHeld => ?_)
          · (try dsimp only)
            (first | (go_simp; done) | (go_keep; done))
          refine tq 0 hHeld ?_
          refine tq 1 hHeld ?_
          refine tq 2 hHeld ?_
          refine tq 3 hHeld ?_
          refine tq 4 hHeld ?_
          refine tq 5 hHeld ?_
          (refine tc 6 fun K hK => ?_; go_simp; (go_at_call 42; refine (l1In_q _ _ _ _ _ (by with_reducible assumption)).mono ?_; rintro e w1 ⟨rfl, rfl⟩); (try go_wp2_with fail); refine tr hK (fun hHeld => ?_); clear hK K)
          refine tq 7 hHeld ?_
          refine tq 8 hHeld ?_
          refine tn 9 hHeld ?_
          refine tn 10 hHeld ?_
          refine tn 11 hHeld ?_
          refine tn 12 hHeld ?_
          refine tn 13 hHeld ?_
          refine tn 14 hHeld ?_
          refine tn 15 hHeld ?_
          refine tn 16 hHeld ?_
          refine tq 17 hHeld ?_
          refine tq 18 hHeld ?_
          refine tn 19 hHeld ?_
          refine tn 20 hHeld ?_
          refine tn 21 hHeld ?_
          refine tn 22 hHeld ?_
          refine tn 23 hHeld ?_
          refine tn 24 hHeld ?_
          refine tn 25 hHeld ?_
          refine tn 26 hHeld ?_
          refine tn 27 hHeld ?_
          refine tn 28 hHeld ?_
          refine tn 29 hHeld ?_
          refine tn 30 hHeld ?_
          refine tn 31 hHeld ?_
          refine tn 32 hHeld ?_
          refine tn 33 hHeld ?_
          refine tn 34 hHeld ?_
          refine tn 35 hHeld ?_
          refine tn 36 hHeld ?_
          refine tq 37 hHeld ?_
          refine wpAnyH_done (by kernel_rfl) ?_ _
          go_wp2_with fail
          go_ret
          exact ⟨by rw [broadB, allB_no hno.out n hlt, Bool.and_false]; rfl, hB.bel.drew⟩
        | true =>
          cases hi : bokB (U (k * 5 + 1)) (U (k * 5 + 2)) (U (k * 5 + 3)) (U (k * 5 + 4)) with
          | false =>
            have hno : Shut (stepB U k = false) := by show stepB U k = false; unfold stepB itemB; simp only [Nat.add_zero]; rw [hl, hi]; rfl
            clear hc
            refine wp_region_held_drew (S := fun w' => w'.cell? ⟨b, o + k * 5, none⟩ = some (.int .i64 (U (k * 5))) ∧ w'.cell? ⟨b, o + k * 5 + 1, none⟩ = some (.int .i64 (U (k * 5 + 1))) ∧ w'.cell? ⟨b, o + k * 5 + 2, none⟩ = some (.int .i64 (U (k * 5 + 2))) ∧ w'.cell? ⟨b, o + k * 5 + 3, none⟩ = some (.int .i64 (U (k * 5 + 3))) ∧ w'.cell? ⟨b, o + k * 5 + 4, none⟩ = some (.int .i64 (U (k * 5 + 4))) ∧ w'.cell? ⟨w.heap.size, 0, none⟩ = some (.slice (some ⟨b, o, none⟩) n c)) (by kernel_rfl) ?_ (fun hHeld => ?_)
            · (try dsimp only)
              (first | (go_simp; done) | (go_keep; done))
            refine tq 0 hHeld ?_
            refine tq 1 hHeld ?_
            refine tq 2 hHeld ?_
            refine tq 3 hHeld ?_
            refine tq 4 hHeld ?_
            refine tq 5 hHeld ?_
            (refine tc 6 fun K hK => ?_; go_simp; (go_at_call 42; refine (l1In_q _ _ _ _ _ (by with_reducible assumption)).mono ?_; rintro e w1 ⟨rfl, rfl⟩); (try go_wp2_with fail); refine tr hK (fun hHeld => ?_); clear hK K)
            refine tq 7 hHeld ?_
            refine tq 8 hHeld ?_
            refine tq 9 hHeld ?_
            refine tq 10 hHeld ?_
            refine tq 11 hHeld ?_
            refine tq 12 hHeld ?_
            refine tq 13 hHeld ?_
            refine tq 14 hHeld ?_
            (refine tc 15 fun K hK => ?_; go_simp; (go_at_call 28; refine (sBox_q _ _ _ _ _ _ (by with_reducible assumption)).mono ?_; rintro e w2 ⟨rfl, hb2⟩; obtain ⟨hc2, hf2⟩ := bcell hb2; have hz2 := hb2.size; (try simp only [World.size_drew, World.size_alloc, World.size_setCell] at hc2 hf2 hz2); have hk1 := fun o => hc2 (wr.heap.size) o; have hk2 := fun o => hc2 w.heap.size o (by omega); have hk3 := fun o => hc2 b o (by omega); clear hc2 hf2); (try go_wp2_with fail); refine tr hK (fun hHeld => ?_); clear hK K)
            refine tq 16 hHeld ?_
            refine tq 17 hHeld ?_
            refine tq 18 hHeld ?_
            refine tn 19 hHeld ?_
            refine tn 20 hHeld ?_
            refine tn 21 hHeld ?_
            refine tn 22 hHeld ?_
            refine tn 23 hHeld ?_
            refine tn 24 hHeld ?_
            refine tn 25 hHeld ?_
            refine tn 26 hHeld ?_
            refine tn 27 hHeld ?_
            refine tn 28 hHeld ?_
            refine tn 29 hHeld ?_
            refine tn 30 hHeld ?_
            refine tn 31 hHeld ?_
            refine tn 32 hHeld ?_
            refine tn 33 hHeld ?_
            refine tn 34 hHeld ?_
            refine tn 35 hHeld ?_
            refine tn 36 hHeld ?_
            refine tq 37 hHeld ?_
            refine wpAnyH_done (by kernel_rfl) ?_ _
            go_wp2_with fail
            go_ret
            exact ⟨by rw [broadB, allB_no hno.out n hlt, Bool.and_false]; rfl, (hB.on hb2.ofDrew).bel⟩
          | true =>
            have hii : Shut (itemB (fun j => U (k * 5 + j)) = true) := by show itemB (fun j => U (k * 5 + j)) = true; unfold itemB; simp only [Nat.add_zero]; rw [hl, hi]; rfl
            by_cases hk0 : 0 < k
            · have hd0 : decide (0 < k) = true := decide_eq_true hk0
              obtain ⟨j, hj⟩ : ∃ j, j + 1 = k := ⟨k - 1, by omega⟩
              have hj' : (k : Int) - 1 = (j : Int) := by omega
              have hjn : j < n := by omega
              have hwj : IntKind.i64.wrap (j : Int) = (j : Int) := i64w (by omega)
              have HJ : Shut (j + 1 = k) := hj
              clear hj
              have p0 := hc (j * 5) (by omega)
              clear hc
              by_cases hge : U (j * 5) < U (k * 5)
              · have hdg : decide (U (k * 5) ≤ U (j * 5)) = false := decide_eq_false (by omega)
                have hyes : Shut (stepB U k = true) := by show stepB U k = true; rw [stepB, hii.out, show k - 1 = j from by have := HJ.out; omega]; simp [hge]
                refine wp_region_held_drew (S := fun w' => w'.cell? ⟨b, o + k * 5, none⟩ = some (.int .i64 (U (k * 5))) ∧ w'.cell? ⟨b, o + k * 5 + 1, none⟩ = some (.int .i64 (U (k * 5 + 1))) ∧ w'.cell? ⟨b, o + k * 5 + 2, none⟩ = some (.int .i64 (U (k * 5 + 2))) ∧ w'.cell? ⟨b, o + k * 5 + 3, none⟩ = some (.int .i64 (U (k * 5 + 3))) ∧ w'.cell? ⟨b, o + k * 5 + 4, none⟩ = some (.int .i64 (U (k * 5 + 4))) ∧ w'.cell? ⟨w.heap.size, 0, none⟩ = some (.slice (some ⟨b, o, none⟩) n c) ∧ w'.cell? ⟨b, o + j * 5, none⟩ = some (.int .i64 (U (j * 5)))) (by kernel_rfl) ?_ (fun hHeld => ?_)
                · (try dsimp only)
                  (first | (go_simp; done) | (go_keep; done))
                refine tq 0 hHeld ?_
                refine tq 1 hHeld ?_
                refine tq 2 hHeld ?_
                refine tq 3 hHeld ?_
                refine tq 4 hHeld ?_
                refine tq 5 hHeld ?_
                (refine tc 6 fun K hK => ?_; go_simp; (go_at_call 42; refine (l1In_q _ _ _ _ _ (by with_reducible assumption)).mono ?_; rintro e w1 ⟨rfl, rfl⟩); (try go_wp2_with fail); refine tr hK (fun hHeld => ?_); clear hK K)
                refine tq 7 hHeld ?_
                refine tq 8 hHeld ?_
                refine tq 9 hHeld ?_
                refine tq 10 hHeld ?_
                refine tq 11 hHeld ?_
                refine tq 12 hHeld ?_
                refine tq 13 hHeld ?_
                refine tq 14 hHeld ?_
                (refine tc 15 fun K hK => ?_; go_simp; (go_at_call 28; refine (sBox_q _ _ _ _ _ _ (by with_reducible assumption)).mono ?_; rintro e w2 ⟨rfl, hb2⟩; obtain ⟨hc2, hf2⟩ := bcell hb2; have hz2 := hb2.size; (try simp only [World.size_drew, World.size_alloc, World.size_setCell] at hc2 hf2 hz2); have hk1 := fun o => hc2 (wr.heap.size) o; have hk2 := fun o => hc2 w.heap.size o (by omega); have hk3 := fun o => hc2 b o (by omega); clear hc2 hf2); (try go_wp2_with fail); refine tr hK (fun hHeld => ?_); clear hK K)
                refine tq 16 hHeld ?_
                refine tq 17 hHeld ?_
                refine tq 18 hHeld ?_
                refine tq 19 hHeld ?_
                refine tq 20 hHeld ?_
                refine tq 21 hHeld ?_
                refine tq 22 hHeld ?_
                refine tq 23 hHeld ?_
                refine tq 24 hHeld ?_
                refine tq 25 hHeld ?_
                refine tq 26 hHeld ?_
                refine tq 27 hHeld ?_
                refine tq 28 hHeld ?_
                refine tq 29 hHeld ?_
                refine tq 30 hHeld ?_
                refine tq 31 hHeld ?_
                refine tq 32 hHeld ?_
                refine tq 33 hHeld ?_
                refine tq 34 hHeld ?_
                refine tq 35 hHeld ?_
                refine tq 36 hHeld ?_
                refine tq 37 hHeld ?_
                refine wpAnyH_done (by kernel_rfl) ?_ _
                go_wp2_with fail
                go_roundw
                case rel => exact ⟨k + 1, by omega, by go_num, hB.on hb2.ofDrew, by rw [allB, hall.out, hyes.out]; rfl⟩
                case measure => simp [intOf]; omega
              · have hdg : decide (U (k * 5) ≤ U (j * 5)) = true := decide_eq_true (by omega)
                have hno : Shut (stepB U k = false) := by show stepB U k = false; rw [stepB, show k - 1 = j from by have := HJ.out; omega]; have := HJ.out; simp [hge]; omega
                refine wp_region_held_drew (S := fun w' => w'.cell? ⟨b, o + k * 5, none⟩ = some (.int .i64 (U (k * 5))) ∧ w'.cell? ⟨b, o + k * 5 + 1, none⟩ = some (.int .i64 (U (k * 5 + 1))) ∧ w'.cell? ⟨b, o + k * 5 + 2, none⟩ = some (.int .i64 (U (k * 5 + 2))) ∧ w'.cell? ⟨b, o + k * 5 + 3, none⟩ = some (.int .i64 (U (k * 5 + 3))) ∧ w'.cell? ⟨b, o + k * 5 + 4, none⟩ = some (.int .i64 (U (k * 5 + 4))) ∧ w'.cell? ⟨w.heap.size, 0, none⟩ = some (.slice (some ⟨b, o, none⟩) n c) ∧ w'.cell? ⟨b, o + j * 5, none⟩ = some (.int .i64 (U (j * 5)))) (by kernel_rfl) ?_ (fun hHeld => ?_)
                · (try dsimp only)
                  (first | (go_simp; done) | (go_keep; done))
                refine tq 0 hHeld ?_
                refine tq 1 hHeld ?_
                refine tq 2 hHeld ?_
                refine tq 3 hHeld ?_
                refine tq 4 hHeld ?_
                refine tq 5 hHeld ?_
                (refine tc 6 fun K hK => ?_; go_simp; (go_at_call 42; refine (l1In_q _ _ _ _ _ (by with_reducible assumption)).mono ?_; rintro e w1 ⟨rfl, rfl⟩); (try go_wp2_with fail); refine tr hK (fun hHeld => ?_); clear hK K)
                refine tq 7 hHeld ?_
                refine tq 8 hHeld ?_
                refine tq 9 hHeld ?_
                refine tq 10 hHeld ?_
                refine tq 11 hHeld ?_
                refine tq 12 hHeld ?_
                refine tq 13 hHeld ?_
                refine tq 14 hHeld ?_
                (refine tc 15 fun K hK => ?_; go_simp; (go_at_call 28; refine (sBox_q _ _ _ _ _ _ (by with_reducible assumption)).mono ?_; rintro e w2 ⟨rfl, hb2⟩; obtain ⟨hc2, hf2⟩ := bcell hb2; have hz2 := hb2.size; (try simp only [World.size_drew, World.size_alloc, World.size_setCell] at hc2 hf2 hz2); have hk1 := fun o => hc2 (wr.heap.size) o; have hk2 := fun o => hc2 w.heap.size o (by omega); have hk3 := fun o => hc2 b o (by omega); clear hc2 hf2); (try go_wp2_with fail); refine tr hK (fun hHeld => ?_); clear hK K)
                refine tq 16 hHeld ?_
                refine tq 17 hHeld ?_
                refine tq 18 hHeld ?_
                refine tq 19 hHeld ?_
                refine tq 20 hHeld ?_
                refine tq 21 hHeld ?_
                refine tq 22 hHeld ?_
                refine tq 23 hHeld ?_
                refine tq 24 hHeld ?_
                refine tq 25 hHeld ?_
                refine tq 26 hHeld ?_
                refine tq 27 hHeld ?_
                refine tq 28 hHeld ?_
                refine tq 29 hHeld ?_
                refine tq 30 hHeld ?_
                refine tq 31 hHeld ?_
                refine tq 32 hHeld ?_
                refine tq 33 hHeld ?_
                refine tq 34 hHeld ?_
                refine tq 35 hHeld ?_
                refine tq 36 hHeld ?_
                refine tq 37 hHeld ?_
                refine wpAnyH_done (by kernel_rfl) ?_ _
                go_wp2_with fail
                go_ret
                exact ⟨by rw [broadB, allB_no hno.out n hlt, Bool.and_false]; rfl, (hB.on hb2.ofDrew).bel⟩
            · have hd0 : decide (0 < k) = false := decide_eq_false hk0
              have HK : Shut (k = 0) := (by omega : k = 0)
              clear hk0 hc
              have hyes : Shut (stepB U k = true) := by show stepB U k = true; rw [stepB, hii.out, HK.out]; rfl
              refine wp_region_held_drew (S := fun w' => w'.cell? ⟨b, o + k * 5, none⟩ = some (.int .i64 (U (k * 5))) ∧ w'.cell? ⟨b, o + k * 5 + 1, none⟩ = some (.int .i64 (U (k * 5 + 1))) ∧ w'.cell? ⟨b, o + k * 5 + 2, none⟩ = some (.int .i64 (U (k * 5 + 2))) ∧ w'.cell? ⟨b, o + k * 5 + 3, none⟩ = some (.int .i64 (U (k * 5 + 3))) ∧ w'.cell? ⟨b, o + k * 5 + 4, none⟩ = some (.int .i64 (U (k * 5 + 4))) ∧ w'.cell? ⟨w.heap.size, 0, none⟩ = some (.slice (some ⟨b, o, none⟩) n c)) (by kernel_rfl) ?_ (fun hHeld => ?_)
              · (try dsimp only)
                (first | (go_simp; done) | (go_keep; done))
              refine tq 0 hHeld ?_
              refine tq 1 hHeld ?_
              refine tq 2 hHeld ?_
              refine tq 3 hHeld ?_
              refine tq 4 hHeld ?_
              refine tq 5 hHeld ?_
              (refine tc 6 fun K hK => ?_; go_simp; (go_at_call 42; refine (l1In_q _ _ _ _ _ (by with_reducible assumption)).mono ?_; rintro e w1 ⟨rfl, rfl⟩); (try go_wp2_with fail); refine tr hK (fun hHeld => ?_); clear hK K)
              refine tq 7 hHeld ?_
              refine tq 8 hHeld ?_
              refine tq 9 hHeld ?_
              refine tq 10 hHeld ?_
              refine tq 11 hHeld ?_
              refine tq 12 hHeld ?_
              refine tq 13 hHeld ?_
              refine tq 14 hHeld ?_
              (refine tc 15 fun K hK => ?_; go_simp; (go_at_call 28; refine (sBox_q _ _ _ _ _ _ (by with_reducible assumption)).mono ?_; rintro e w2 ⟨rfl, hb2⟩; obtain ⟨hc2, hf2⟩ := bcell hb2; have hz2 := hb2.size; (try simp only [World.size_drew, World.size_alloc, World.size_setCell] at hc2 hf2 hz2); have hk1 := fun o => hc2 (wr.heap.size) o; have hk2 := fun o => hc2 w.heap.size o (by omega); have hk3 := fun o => hc2 b o (by omega); clear hc2 hf2); (try go_wp2_with fail); refine tr hK (fun hHeld => ?_); clear hK K)
              refine tq 16 hHeld ?_
              refine tq 17 hHeld ?_
              refine tq 18 hHeld ?_
              refine tq 19 hHeld ?_
              refine tq 20 hHeld ?_
              refine tq 21 hHeld ?_
              refine tn 22 hHeld ?_
              refine tn 23 hHeld ?_
              refine tn 24 hHeld ?_
              refine tn 25 hHeld ?_
              refine tn 26 hHeld ?_
              refine tn 27 hHeld ?_
              refine tn 28 hHeld ?_
              refine tn 29 hHeld ?_
              refine tn 30 hHeld ?_
              refine tn 31 hHeld ?_
              refine tn 32 hHeld ?_
              refine tn 33 hHeld ?_
              refine tn 34 hHeld ?_
              refine tn 35 hHeld ?_
              refine tq 36 hHeld ?_
              refine tq 37 hHeld ?_
              refine wpAnyH_done (by kernel_rfl) ?_ _
              go_wp2_with fail
              go_roundw
              case rel => exact ⟨k + 1, by omega, by go_num, hB.on hb2.ofDrew, by rw [allB, hall.out, hyes.out]; rfl⟩
              case measure => simp [intOf]; omega
      · obtain rfl : k = n := by omega
        by_cases h24 : k ≤ 24
        · have h24' : (k : Int) ≤ 24 := by omega
          go_wp2
          go_ret
          exact ⟨by rw [broadB, hall.out, decide_eq_true h24]; rfl, hB.bel⟩
        · have h24' : ¬ (k : Int) ≤ 24 := by omega
          go_wp2
          go_ret
          exact ⟨by rw [broadB, decide_eq_false h24]; rfl, hB.bel⟩
end Go.Proofs.Ytbngdlbecdloiaa
