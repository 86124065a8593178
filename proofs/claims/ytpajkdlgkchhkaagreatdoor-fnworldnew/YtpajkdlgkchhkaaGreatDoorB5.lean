/- Where a body stands in a world, by the program; whether a world is ok. WorldNew, by the program and by the specification, and what its exact law calls. Two ways held against each other. A body held against itself. Two pairs held against each other. Lists put together in new memory: slices.Concat. A world in new memory, by the program. -/
import Derived.Test.YtpajkdlgkchhkaaGreatDoorB4
import Derived.Test.YtpajkdlgkchhkaaGreatDoorB2
import Derived.Test.YtpajkdlgkchhkaaGreatDoorB1
import Derived.Deep.RegionHeld3
import Derived.Deep.DeepCutAuto
import Derived.Handy
import Derived.Lib.AppendZeros
namespace Go.Proofs.YtpajkdlgkchhkaaGreatDoor
open Go.RowKit
set_option linter.unusedVariables false
set_option linter.unusedSimpArgs false

theorem isNaN_any (x : Int) (w : World) :
    Calls Tryz.prog 100 #[.int .i64 x] w fun e w' => e = .returned (.bool false) ∧ w' = w := by
  go_enter Tryz.func100, Tryz.ntmps100
  go_wp2
  go_ret
  exact ⟨rfl, rfl⟩
theorem compare_any (x y : Int) (w : World) :
    Calls Tryz.prog 83 #[.int .i64 x, .int .i64 y] w fun e w' => e = .returned (.int .i64 (cmpI x y)) ∧ w' = w := by
  unfold cmpI
  by_cases h1 : x < y
  · rw [if_pos h1]
    go_enter Tryz.func83, Tryz.ntmps83
    go_wp2_with (go_at_call 100; refine (isNaN_any _ _).mono ?_; rintro e w1 ⟨rfl, rfl⟩)
    go_ret
    exact ⟨rfl, rfl⟩
  · rw [if_neg h1]
    by_cases h2 : y < x
    · rw [if_pos h2]
      go_enter Tryz.func83, Tryz.ntmps83
      go_wp2_with (go_at_call 100; refine (isNaN_any _ _).mono ?_; rintro e w1 ⟨rfl, rfl⟩)
      go_ret
      exact ⟨rfl, rfl⟩
    · rw [if_neg h2]
      go_enter Tryz.func83, Tryz.ntmps83
      go_wp2_with (go_at_call 100; refine (isNaN_any _ _).mono ?_; rintro e w1 ⟨rfl, rfl⟩)
      go_ret
      exact ⟨rfl, rfl⟩
theorem place1_q (V : Nat → Int) (id z : Int) (w : World) (e : cmpI (V 0) id = z) :
    Calls Tryz.prog 82 #[bodyW V, .int .i64 id] w fun e w' => e = .returned (.int .i64 z) ∧ Below w.heap.size w w' := by
  subst e
  have hset := cset_map
  go_enter Tryz.func82, Tryz.ntmps82
  go_wp2_with (go_at_call 83; refine (compare_any _ _ _).mono ?_; rintro e w1 ⟨rfl, rfl⟩)
  go_ret
  exact ⟨rfl, bel_a⟩
theorem tupB {x : Int} {a b : Bool} (h : a = b) : Ending.returned (.tuple #[.int .i64 x, .bool a]) = .returned (.tuple #[.int .i64 x, .bool b]) := by rw [h]
theorem cmpI_lt {x y : Int} : cmpI x y < 0 ↔ x < y := by unfold cmpI; split <;> (try split) <;> omega
theorem cmpI_eq {x y : Int} : cmpI x y = 0 ↔ x = y := by unfold cmpI; split <;> (try split) <;> omega
set_option maxRecDepth 20000 in
set_option maxHeartbeats 4000000 in
theorem bsf_any (a : Option Addr) (n c : Nat) (U : Nat → Int) (id : Int) (p : Nat) (w : World) (h : Flat w a (n * 12) U) (hn : n ≤ 1048576) (ha : ascU U n) (hp : idP U n id p) :
    Calls Tryz.prog 81 #[.slice a n c, .int .i64 id, .func (.func 82) #[] #[]] w fun e w' => e = .returned (.tuple #[.int .i64 (p : Int), .bool (decide (p < n ∧ U (p * 12) = id))]) ∧ Below w.heap.size w w' := by
  have hset := cset_map
  go_enter Tryz.func81, Tryz.ntmps81
  go_wp2
  go_loopw [9, 10, 11] (fun i j _ wr => ∃ x y : Nat, x ≤ p ∧ p ≤ y ∧ y ≤ n ∧ i = .int .i64 (x : Int) ∧ j = .int .i64 (y : Int) ∧ Below w.heap.size w wr) (fun i j _ _ => (intOf j).toNat - (intOf i).toNat)
  case atStart => exact ⟨0, n, Nat.zero_le _, hp.le, Nat.le_refl _, rfl, rfl, Below.refl _ _⟩
  case round =>
    obtain ⟨x, y, hx, hy, hyn, rfl, rfl, hB⟩ := hrel
    by_cases hlt : x < y
    · have hxy : (x : Int) < (y : Int) := by omega
      obtain ⟨m, hm⟩ : ∃ m, m = (x + y) / 2 := ⟨_, rfl⟩
      have hm1 : x ≤ m ∧ m < y := by omega
      obtain ⟨b, o, rfl, hbl, hc⟩ := (h.below hB) (by omega)
      have c0 := hc (m * 12) (by omega)
      have c1 := hc (m * 12 + 1) (by omega)
      have c2 := hc (m * 12 + 2) (by omega)
      have c3 := hc (m * 12 + 3) (by omega)
      have c4 := hc (m * 12 + 4) (by omega)
      have c5 := hc (m * 12 + 5) (by omega)
      have c6 := hc (m * 12 + 6) (by omega)
      have c7 := hc (m * 12 + 7) (by omega)
      have c8 := hc (m * 12 + 8) (by omega)
      have c9 := hc (m * 12 + 9) (by omega)
      have c10 := hc (m * 12 + 10) (by omega)
      have c11 := hc (m * 12 + 11) (by omega)
      simp only [← Nat.add_assoc] at c0 c1 c2 c3 c4 c5 c6 c7 c8 c9 c10 c11
      clear hc
      go_upto_region 4 with fail
      go_cut [11] (fun s wc => s = .int .i64 (m : Int) ∧ wr = wc)
      case first =>
        go_wp2
        go_meet
        exact ⟨congrArg (Value.int .i64) (by omega), rfl⟩
      case rest =>
      obtain ⟨rfl, rfl⟩ := hcut
      clear hm
      have hmn : (m : Int) < (n : Int) := by omega
      obtain ⟨z, hz⟩ : ∃ z, cmpI (U (m * 12)) id = z := ⟨_, rfl⟩
      by_cases hl : U (m * 12) < id
      · have hz0 : z < 0 := by rw [← hz]; exact cmpI_lt.2 hl
        have hmp : Shut (m < p) := (by
          rcases Nat.lt_or_ge m p with q | q
          · exact q
          · have h1 := hp.hi (by omega)
            rcases Nat.lt_or_eq_of_le q with q | q
            · have := ha p m q (by omega); omega
            · subst q; omega : m < p)
        have HZ : Shut (cmpI (U (m * 12)) id = z) := hz
        clear hz
        go_wp2_with (go_at_call 82; refine (place1_q (fun j => U (m * 12 + j)) id z _ (by exact HZ.out)).mono ?_; rintro e w1 ⟨rfl, hb1⟩)
        go_roundw
        case rel => exact ⟨m + 1, y, by have := hmp.out; omega, hy, hyn, by go_num, rfl, hB.trans (hb1.mono hB.size)⟩
        case measure => simp [intOf]; omega
      · have hz0 : ¬ z < 0 := by rw [← hz]; exact fun q => hl (cmpI_lt.1 q)
        have hmp : Shut (p ≤ m) := (by
          rcases Nat.lt_or_ge m p with q | q
          · exact absurd (hp.lo m q) hl
          · exact q : p ≤ m)
        have HZ : Shut (cmpI (U (m * 12)) id = z) := hz
        clear hz
        go_wp2_with (go_at_call 82; refine (place1_q (fun j => U (m * 12 + j)) id z _ (by exact HZ.out)).mono ?_; rintro e w1 ⟨rfl, hb1⟩)
        go_roundw
        case rel => exact ⟨x, m, hx, hmp.out, by omega, rfl, rfl, hB.trans (hb1.mono hB.size)⟩
        case measure => simp [intOf]; omega
    · obtain rfl : x = p := by omega
      have hxy : ¬ (x : Int) < (y : Int) := by omega
      by_cases hpn : x < n
      · have hpn' : (x : Int) < (n : Int) := by omega
        obtain ⟨b, o, rfl, hbl, hc⟩ := (h.below hB) (by omega)
        have c0 := hc (x * 12) (by omega)
        have c1 := hc (x * 12 + 1) (by omega)
        have c2 := hc (x * 12 + 2) (by omega)
        have c3 := hc (x * 12 + 3) (by omega)
        have c4 := hc (x * 12 + 4) (by omega)
        have c5 := hc (x * 12 + 5) (by omega)
        have c6 := hc (x * 12 + 6) (by omega)
        have c7 := hc (x * 12 + 7) (by omega)
        have c8 := hc (x * 12 + 8) (by omega)
        have c9 := hc (x * 12 + 9) (by omega)
        have c10 := hc (x * 12 + 10) (by omega)
        have c11 := hc (x * 12 + 11) (by omega)
        simp only [← Nat.add_assoc] at c0 c1 c2 c3 c4 c5 c6 c7 c8 c9 c10 c11
        clear hc
        obtain ⟨z, hz⟩ : ∃ z, cmpI (U (x * 12)) id = z := ⟨_, rfl⟩
        have hd : Shut (decide (z = 0) = decide (x < n ∧ U (x * 12) = id)) := (by rw [decide_eq_decide, ← hz, cmpI_eq]; exact ⟨fun q => ⟨hpn, q⟩, fun q => q.2⟩ : decide (z = 0) = decide (x < n ∧ U (x * 12) = id))
        have HZ : Shut (cmpI (U (x * 12)) id = z) := hz
        clear hz
        go_wp2_with (go_at_call 82; refine (place1_q (fun j => U (x * 12 + j)) id z _ (by exact HZ.out)).mono ?_; rintro e w1 ⟨rfl, hb1⟩)
        exact bodyPost_ret (v := .tuple #[.int .i64 (x : Int), .bool (z == 0)]) (by simp [results, Tryz.results81, go_sem, *]) rfl ⟨by rw [← hd.out]; exact tupB (by by_cases q : z = 0 <;> simp [q]), hB.trans (hb1.mono hB.size)⟩
      · have hpn' : ¬ (x : Int) < (n : Int) := by omega
        have hd : decide (x < n ∧ U (x * 12) = id) = false := decide_eq_false (fun q => hpn q.1)
        have HD : Shut (decide (x < n ∧ U (x * 12) = id) = false) := hd
        clear hd
        go_wp2
        exact bodyPost_ret (v := .tuple #[.int .i64 (x : Int), .bool false]) (by simp [results, Tryz.results81, go_sem, *]) rfl ⟨by first | rfl | rw [HD.out], hB⟩

set_option maxHeartbeats 2000000 in
theorem wplace_any (T P : Int) (a : Option Addr) (n c : Nat) (U : Nat → Int) (a' : Option Addr) (m c' : Nat) (id : Int) (p : Nat) (w : World) (h : Flat w a (n * 12) U) (hn : n ≤ 1048576) (ha : ascU U n) (hp : idP U n id p) (b : Bool) (eb : decide (p < n ∧ U (p * 12) = id) = b) :
    Calls Tryz.prog 67 #[worldW T P a n c a' m c', .int .i64 id] w fun e w' => e = .returned (.tuple #[.int .i64 (p : Int), .bool b]) ∧ Below w.heap.size w w' := by
  subst eb
  have hset := cset_map
  go_enter Tryz.func67, Tryz.ntmps67
  go_wp2_with (go_at_call 81; refine (bsf_any a n c U id p _ (h.below (bel_a)) hn ha hp).mono ?_; rintro e w1 ⟨rfl, hb1⟩)
  exact bodyPost_ret (v := .tuple #[.int .i64 (p : Int), .bool (decide (p < n ∧ U (p * 12) = id))]) (by simp [results, Tryz.results67, go_sem, *]) rfl ⟨rfl, bel_a⟩
set_option maxHeartbeats 2000000 in
theorem whas_q (T P : Int) (a : Option Addr) (n c : Nat) (U : Nat → Int) (a' : Option Addr) (m c' : Nat) (id : Int) (w : World) (h : Flat w a (n * 12) U) (hn : n ≤ 1048576) (ha : ascU U n) (b : Bool) (eb : hasF U n id = b) :
    Calls Tryz.prog 39 #[worldW T P a n c a' m c', .int .i64 id] w fun e w' => e = .returned (.bool b) ∧ Below w.heap.size w w' := by
  have hset := cset_map
  obtain ⟨p, hp⟩ := idP_ex U id n
  have eb' := (hasF_at ha hp).symm.trans eb
  go_enter Tryz.func39, Tryz.ntmps39
  go_wp2_with (go_at_call 67; refine (wplace_any T P a n c U a' m c' id p _ (h.below (bel_a)) hn ha hp b eb').mono ?_; rintro e w1 ⟨rfl, hb1⟩)
  go_ret
  exact ⟨rfl, bel_a⟩
set_option maxHeartbeats 2000000 in
theorem before_q (p q r s : Int) (w : World) (b : Bool) (eb : aheadB p q r s = b) :
    Calls Tryz.prog 40 #[.agg #[.int .i64 p, .int .i64 q], .agg #[.int .i64 r, .int .i64 s]] w fun e w' => e = .returned (.bool b) ∧ Below w.heap.size w w' := by
  subst eb
  have hset := cset_map
  unfold aheadB
  by_cases h1 : p < r
  · have e0 : decide (p < r ∨ p = r ∧ q < s) = true := decide_eq_true (.inl h1)
    rw [e0]
    go_enter Tryz.func40, Tryz.ntmps40
    go_wp2
    go_ret
    exact ⟨rfl, bel_a⟩
  · by_cases h2 : p = r
    · have h2' : (p == r) = true := by simp [h2]
      by_cases h3 : q < s
      · have e0 : decide (p < r ∨ p = r ∧ q < s) = true := decide_eq_true (.inr ⟨h2, h3⟩)
        rw [e0]
        subst h2
        go_enter Tryz.func40, Tryz.ntmps40
        go_wp2
        go_ret
        exact ⟨rfl, bel_a⟩
      · have e0 : decide (p < r ∨ p = r ∧ q < s) = false := decide_eq_false (by omega)
        rw [e0]
        subst h2
        go_enter Tryz.func40, Tryz.ntmps40
        go_wp2
        go_ret
        exact ⟨rfl, bel_a⟩
    · have e0 : decide (p < r ∨ p = r ∧ q < s) = false := decide_eq_false (by omega)
      have h2' : (p == r) = false := by simp [h2]
      rw [e0]
      go_enter Tryz.func40, Tryz.ntmps40
      go_wp2
      go_ret
      exact ⟨rfl, bel_a⟩

/-- what a round over pairs begins with -/
structure WdR (w : World) (T P : Int) (a : Option Addr) (n c : Nat) (a' : Option Addr) (m c' : Nat) (wr : World) : Prop where
  bel : Below w.heap.size w wr
  big : w.heap.size < wr.heap.size
  c0 : wr.cell? ⟨w.heap.size, 0, none⟩ = some (.int .i64 T)
  c1 : wr.cell? ⟨w.heap.size, 1, none⟩ = some (.int .i64 P)
  c2 : wr.cell? ⟨w.heap.size, 2, none⟩ = some (.slice a n c)
  c3 : wr.cell? ⟨w.heap.size, 3, none⟩ = some (.slice a' m c')
theorem WdR.on {w wr w' : World} {T P : Int} {a a' : Option Addr} {n c m c' : Nat} (h : WdR w T P a n c a' m c' wr) (hb : Below wr.heap.size wr w') : WdR w T P a n c a' m c' w' :=
  ⟨h.bel.trans (hb.mono (Nat.le_of_lt h.big)), Nat.lt_of_lt_of_le h.big hb.size, (hb.cell (p := ⟨w.heap.size, 0, none⟩) h.big).trans h.c0, (hb.cell (p := ⟨w.heap.size, 1, none⟩) h.big).trans h.c1, (hb.cell (p := ⟨w.heap.size, 2, none⟩) h.big).trans h.c2, (hb.cell (p := ⟨w.heap.size, 3, none⟩) h.big).trans h.c3⟩
set_option maxRecDepth 20000 in
set_option maxHeartbeats 8000000 in
theorem pairsOk_any (T P : Int) (a : Option Addr) (n c : Nat) (U : Nat → Int) (a' : Option Addr) (m c' : Nat) (Q : Nat → Int) (w : World) (h : Flat w a (n * 12) U) (h' : Flat w a' (m * 2) Q) (hn : n ≤ 1048576) (hm : m ≤ 1048576) (ha : ascU U n) (bb : Bool) (ebb : allPB U n Q m = bb) :
    Calls Tryz.prog 23 #[worldW T P a n c a' m c'] w fun e w' => e = .returned (.bool bb) ∧ Below w.heap.size w w' := by
  subst ebb
  have hset := cset_map
  go_enter Tryz.func23, Tryz.ntmps23
  go_wp2
  go_loopw [3, 4, 8] (fun _ _ i wr => ∃ k : Nat, k ≤ m ∧ i = .int .i64 (k : Int) ∧ WdR w T P a n c a' m c' wr ∧ allPB U n Q k = true) (fun _ _ i _ => m - (intOf i).toNat)
  case atStart => exact ⟨0, Nat.zero_le _, rfl, ⟨(Below.refl _ _).alloc (Nat.le_refl _) _, by simp, by go_simp, by go_simp, by go_simp, by go_simp⟩, rfl⟩
  case round =>
    obtain ⟨i, hi, rfl, hB, hall0⟩ := hrel
    have hall : Shut (allPB U n Q i = true) := hall0
    clear hall0
    have hbig := hB.big
    by_cases hlt : i < m
    · obtain ⟨b, o, rfl, hbl, hc⟩ := (h'.below hB.bel) (by omega)
      have hbl0 : b < w.heap.size := by obtain ⟨b', o', e, l, _⟩ := h' (by omega); simp only [Option.some.injEq, Addr.mk.injEq] at e; omega
      have x0 := hc (i * 2) (by omega)
      have x1 := hc (i * 2 + 1) (by omega)
      simp only [← Nat.add_assoc] at x0 x1
      go_upto_region 4 with fail
      have hE : Below wr.heap.size wr (wr.alloc (Obj.cells #[.int .i64 (Q (i * 2)), .int .i64 (Q (i * 2 + 1))] 65)) := (Below.refl _ _).alloc (Nat.le_refl _) _
      have hB2 := hB.on hE
      have y0 : (wr.alloc (Obj.cells #[.int .i64 (Q (i * 2)), .int .i64 (Q (i * 2 + 1))] 65)).cell? ⟨wr.heap.size, 0, none⟩ = some (.int .i64 (Q (i * 2))) := by go_simp
      have y1 : (wr.alloc (Obj.cells #[.int .i64 (Q (i * 2)), .int .i64 (Q (i * 2 + 1))] 65)).cell? ⟨wr.heap.size, 1, none⟩ = some (.int .i64 (Q (i * 2 + 1))) := by go_simp
      have yc : ∀ q, q < m * 2 → (wr.alloc (Obj.cells #[.int .i64 (Q (i * 2)), .int .i64 (Q (i * 2 + 1))] 65)).cell? ⟨b, o + q, none⟩ = some (.int .i64 (Q q)) := fun q hq => (hE.cell (p := ⟨b, o + q, none⟩) hbl).trans (hc q hq)
      have hz : (wr.alloc (Obj.cells #[.int .i64 (Q (i * 2)), .int .i64 (Q (i * 2 + 1))] 65)).heap.size = wr.heap.size + 1 := by simp
      generalize (wr.alloc (Obj.cells #[.int .i64 (Q (i * 2)), .int .i64 (Q (i * 2 + 1))] 65)) = wx at hE hB2 y0 y1 yc hz ⊢
      clear x0 x1 hc
      have z0 := hB2.c0
      have z1 := hB2.c1
      have z2 := hB2.c2
      have z3 := hB2.c3
      have hbel := hB2.bel
      by_cases hAB : Q (i * 2) < Q (i * 2 + 1)
      · have hd1 : decide (Q (i * 2 + 1) ≤ Q (i * 2)) = false := decide_eq_false (by omega)
        cases eA : hasF U n (Q (i * 2)) with
        | false =>
          have hno : Shut (stepPB U n Q i = false) := (by unfold stepPB; rw [eA]; simp : stepPB U n Q i = false)
          clear yc
          refine wp_region_held_drew (S := fun w' => w'.cell? ⟨w.heap.size, 0, none⟩ = some (.int .i64 T) ∧ w'.cell? ⟨w.heap.size, 1, none⟩ = some (.int .i64 P) ∧ w'.cell? ⟨w.heap.size, 2, none⟩ = some (.slice a n c) ∧ w'.cell? ⟨w.heap.size, 3, none⟩ = some (.slice (some ⟨b, o, none⟩) m c') ∧ w'.cell? ⟨wr.heap.size, 0, none⟩ = some (.int .i64 (Q (i * 2))) ∧ w'.cell? ⟨wr.heap.size, 1, none⟩ = some (.int .i64 (Q (i * 2 + 1)))) (by kernel_rfl) ?_ (fun hHeld => ?_)
          · (try dsimp only)
            (first | (go_simp; done) | (go_keep; done))
          refine tq 0 hHeld ?_
          refine tq 1 hHeld ?_
          refine tq 2 hHeld ?_
          refine tq 3 hHeld ?_
          refine tq 4 hHeld ?_
          refine tq 5 hHeld ?_
          refine tq 6 hHeld ?_
          refine tq 7 hHeld ?_
          refine tq 8 hHeld ?_
          (refine tc 9 fun K hK => ?_; go_simp; (go_at_call 39; refine (whas_q T P a n c U _ m c' _ _ (h.below (bel_a)) hn ha _ eA).mono ?_; rintro e w4 ⟨rfl, hb4⟩; obtain ⟨hc4, hf4⟩ := bcell hb4; have hz4 := hb4.size; (try simp only [World.size_drew, World.size_alloc, World.size_setCell] at hc4 hf4 hz4); have hk4x0 := fun o => hc4 (w.heap.size) o (by omega); have hj4x0 := fun o => hf4 (w.heap.size) o (by omega); have hq4x0 : w.heap.size < w4.heap.size := (by omega); have hk4x1 := fun o => hc4 (wr.heap.size) o (by omega); have hj4x1 := fun o => hf4 (wr.heap.size) o (by omega); have hq4x1 : wr.heap.size < w4.heap.size := (by omega); have hk4x2 := fun o => hc4 (b) o (by omega); have hj4x2 := fun o => hf4 (b) o (by omega); have hq4x2 : b < w4.heap.size := (by omega); clear hc4 hf4); (try go_wp2_with fail); refine tr hK (fun hHeld => ?_); clear hK K)
          refine tq 10 hHeld ?_
          refine tq 11 hHeld ?_
          refine tq 12 hHeld ?_
          refine tn 13 hHeld ?_
          refine tn 14 hHeld ?_
          refine tn 15 hHeld ?_
          refine tn 16 hHeld ?_
          refine tn 17 hHeld ?_
          refine tq 18 hHeld ?_
          refine tq 19 hHeld ?_
          refine tn 20 hHeld ?_
          refine tn 21 hHeld ?_
          refine tn 22 hHeld ?_
          refine tn 23 hHeld ?_
          refine tn 24 hHeld ?_
          refine tn 25 hHeld ?_
          refine tn 26 hHeld ?_
          refine tn 27 hHeld ?_
          refine tn 28 hHeld ?_
          refine tn 29 hHeld ?_
          refine tn 30 hHeld ?_
          refine tn 31 hHeld ?_
          refine tn 32 hHeld ?_
          refine tq 33 hHeld ?_
          refine wpAnyH_done (by kernel_rfl) ?_ _
          go_wp2_with fail
          go_ret
          exact ⟨by rw [allPB_no hno.out m hlt]; rfl, hB2.bel.trans ((hb4.ofDr).mono hB2.bel.size)⟩
        | true =>
          cases eB : hasF U n (Q (i * 2 + 1)) with
          | false =>
            have hno : Shut (stepPB U n Q i = false) := (by unfold stepPB; rw [eB]; simp : stepPB U n Q i = false)
            clear yc
            refine wp_region_held_drew (S := fun w' => w'.cell? ⟨w.heap.size, 0, none⟩ = some (.int .i64 T) ∧ w'.cell? ⟨w.heap.size, 1, none⟩ = some (.int .i64 P) ∧ w'.cell? ⟨w.heap.size, 2, none⟩ = some (.slice a n c) ∧ w'.cell? ⟨w.heap.size, 3, none⟩ = some (.slice (some ⟨b, o, none⟩) m c') ∧ w'.cell? ⟨wr.heap.size, 0, none⟩ = some (.int .i64 (Q (i * 2))) ∧ w'.cell? ⟨wr.heap.size, 1, none⟩ = some (.int .i64 (Q (i * 2 + 1)))) (by kernel_rfl) ?_ (fun hHeld => ?_)
            · (try dsimp only)
              (first | (go_simp; done) | (go_keep; done))
            refine tq 0 hHeld ?_
            refine tq 1 hHeld ?_
            refine tq 2 hHeld ?_
            refine tq 3 hHeld ?_
            refine tq 4 hHeld ?_
            refine tq 5 hHeld ?_
            refine tq 6 hHeld ?_
            refine tq 7 hHeld ?_
            refine tq 8 hHeld ?_
            (refine tc 9 fun K hK => ?_; go_simp; (go_at_call 39; refine (whas_q T P a n c U _ m c' _ _ (h.below (bel_a)) hn ha _ eA).mono ?_; rintro e w4 ⟨rfl, hb4⟩; obtain ⟨hc4, hf4⟩ := bcell hb4; have hz4 := hb4.size; (try simp only [World.size_drew, World.size_alloc, World.size_setCell] at hc4 hf4 hz4); have hk4x0 := fun o => hc4 (w.heap.size) o (by omega); have hj4x0 := fun o => hf4 (w.heap.size) o (by omega); have hq4x0 : w.heap.size < w4.heap.size := (by omega); have hk4x1 := fun o => hc4 (wr.heap.size) o (by omega); have hj4x1 := fun o => hf4 (wr.heap.size) o (by omega); have hq4x1 : wr.heap.size < w4.heap.size := (by omega); have hk4x2 := fun o => hc4 (b) o (by omega); have hj4x2 := fun o => hf4 (b) o (by omega); have hq4x2 : b < w4.heap.size := (by omega); clear hc4 hf4); (try go_wp2_with fail); refine tr hK (fun hHeld => ?_); clear hK K)
            refine tq 10 hHeld ?_
            refine tq 11 hHeld ?_
            refine tq 12 hHeld ?_
            refine tq 13 hHeld ?_
            refine tq 14 hHeld ?_
            refine tq 15 hHeld ?_
            (refine tc 16 fun K hK => ?_; go_simp; (go_at_call 39; refine (whas_q T P a n c U _ m c' _ _ (h.below (bel_a)) hn ha _ eB).mono ?_; rintro e w5 ⟨rfl, hb5⟩; obtain ⟨hc5, hf5⟩ := bcell hb5; have hz5 := hb5.size; (try simp only [World.size_drew, World.size_alloc, World.size_setCell] at hc5 hf5 hz5); have hk5x0 := fun o => hc5 (w.heap.size) o (by omega); have hj5x0 := fun o => hf5 (w.heap.size) o (by omega); have hq5x0 : w.heap.size < w5.heap.size := (by omega); have hk5x1 := fun o => hc5 (wr.heap.size) o (by omega); have hj5x1 := fun o => hf5 (wr.heap.size) o (by omega); have hq5x1 : wr.heap.size < w5.heap.size := (by omega); have hk5x2 := fun o => hc5 (b) o (by omega); have hj5x2 := fun o => hf5 (b) o (by omega); have hq5x2 : b < w5.heap.size := (by omega); clear hc5 hf5); (try go_wp2_with fail); refine tr hK (fun hHeld => ?_); clear hK K)
            refine tq 17 hHeld ?_
            refine tq 18 hHeld ?_
            refine tq 19 hHeld ?_
            refine tn 20 hHeld ?_
            refine tn 21 hHeld ?_
            refine tn 22 hHeld ?_
            refine tn 23 hHeld ?_
            refine tn 24 hHeld ?_
            refine tn 25 hHeld ?_
            refine tn 26 hHeld ?_
            refine tn 27 hHeld ?_
            refine tn 28 hHeld ?_
            refine tn 29 hHeld ?_
            refine tn 30 hHeld ?_
            refine tn 31 hHeld ?_
            refine tn 32 hHeld ?_
            refine tq 33 hHeld ?_
            refine wpAnyH_done (by kernel_rfl) ?_ _
            go_wp2_with fail
            go_ret
            exact ⟨by rw [allPB_no hno.out m hlt]; rfl, hB2.bel.trans (((hb4.ofDr).trans (hb5.mono (hb4.ofDr).size)).mono hB2.bel.size)⟩
          | true =>
            by_cases hk0 : 0 < i
            · have hd0 : decide (0 < i) = true := decide_eq_true hk0
              obtain ⟨j, hj⟩ : ∃ j, j + 1 = i := ⟨i - 1, by omega⟩
              have hj' : (i : Int) - 1 = (j : Int) := by omega
              have hjn : j < m := by omega
              have hwj : IntKind.i64.wrap (j : Int) = (j : Int) := i64w (by omega)
              have p0 := yc (j * 2) (by omega)
              have p1 := yc (j * 2 + 1) (by omega)
              simp only [← Nat.add_assoc] at p0 p1
              clear yc
              have HJ : Shut (j + 1 = i) := hj
              clear hj
              cases eC : aheadB (Q (j * 2)) (Q (j * 2 + 1)) (Q (i * 2)) (Q (i * 2 + 1)) with
              | false =>
                have hno : Shut (stepPB U n Q i = false) := (by unfold stepPB; rw [show i - 1 = j from by have := HJ.out; omega, eC, decide_eq_false (by omega : ¬ i = 0)]; simp : stepPB U n Q i = false)
                refine wp_region_held_drew (S := fun w' => w'.cell? ⟨w.heap.size, 0, none⟩ = some (.int .i64 T) ∧ w'.cell? ⟨w.heap.size, 1, none⟩ = some (.int .i64 P) ∧ w'.cell? ⟨w.heap.size, 2, none⟩ = some (.slice a n c) ∧ w'.cell? ⟨w.heap.size, 3, none⟩ = some (.slice (some ⟨b, o, none⟩) m c') ∧ w'.cell? ⟨wr.heap.size, 0, none⟩ = some (.int .i64 (Q (i * 2))) ∧ w'.cell? ⟨wr.heap.size, 1, none⟩ = some (.int .i64 (Q (i * 2 + 1))) ∧ w'.cell? ⟨b, o + j * 2, none⟩ = some (.int .i64 (Q (j * 2))) ∧ w'.cell? ⟨b, o + j * 2 + 1, none⟩ = some (.int .i64 (Q (j * 2 + 1)))) (by kernel_rfl) ?_ (fun hHeld => ?_)
                · (try dsimp only)
                  (first | (go_simp; done) | (go_keep; done))
                refine tq 0 hHeld ?_
                refine tq 1 hHeld ?_
                refine tq 2 hHeld ?_
                refine tq 3 hHeld ?_
                refine tq 4 hHeld ?_
                refine tq 5 hHeld ?_
                refine tq 6 hHeld ?_
                refine tq 7 hHeld ?_
                refine tq 8 hHeld ?_
                (refine tc 9 fun K hK => ?_; go_simp; (go_at_call 39; refine (whas_q T P a n c U _ m c' _ _ (h.below (bel_a)) hn ha _ eA).mono ?_; rintro e w4 ⟨rfl, hb4⟩; obtain ⟨hc4, hf4⟩ := bcell hb4; have hz4 := hb4.size; (try simp only [World.size_drew, World.size_alloc, World.size_setCell] at hc4 hf4 hz4); have hk4x0 := fun o => hc4 (w.heap.size) o (by omega); have hj4x0 := fun o => hf4 (w.heap.size) o (by omega); have hq4x0 : w.heap.size < w4.heap.size := (by omega); have hk4x1 := fun o => hc4 (wr.heap.size) o (by omega); have hj4x1 := fun o => hf4 (wr.heap.size) o (by omega); have hq4x1 : wr.heap.size < w4.heap.size := (by omega); have hk4x2 := fun o => hc4 (b) o (by omega); have hj4x2 := fun o => hf4 (b) o (by omega); have hq4x2 : b < w4.heap.size := (by omega); clear hc4 hf4); (try go_wp2_with fail); refine tr hK (fun hHeld => ?_); clear hK K)
                refine tq 10 hHeld ?_
                refine tq 11 hHeld ?_
                refine tq 12 hHeld ?_
                refine tq 13 hHeld ?_
                refine tq 14 hHeld ?_
                refine tq 15 hHeld ?_
                (refine tc 16 fun K hK => ?_; go_simp; (go_at_call 39; refine (whas_q T P a n c U _ m c' _ _ (h.below (bel_a)) hn ha _ eB).mono ?_; rintro e w5 ⟨rfl, hb5⟩; obtain ⟨hc5, hf5⟩ := bcell hb5; have hz5 := hb5.size; (try simp only [World.size_drew, World.size_alloc, World.size_setCell] at hc5 hf5 hz5); have hk5x0 := fun o => hc5 (w.heap.size) o (by omega); have hj5x0 := fun o => hf5 (w.heap.size) o (by omega); have hq5x0 : w.heap.size < w5.heap.size := (by omega); have hk5x1 := fun o => hc5 (wr.heap.size) o (by omega); have hj5x1 := fun o => hf5 (wr.heap.size) o (by omega); have hq5x1 : wr.heap.size < w5.heap.size := (by omega); have hk5x2 := fun o => hc5 (b) o (by omega); have hj5x2 := fun o => hf5 (b) o (by omega); have hq5x2 : b < w5.heap.size := (by omega); clear hc5 hf5); (try go_wp2_with fail); refine tr hK (fun hHeld => ?_); clear hK K)
                refine tq 17 hHeld ?_
                refine tq 18 hHeld ?_
                refine tq 19 hHeld ?_
                refine tq 20 hHeld ?_
                refine tq 21 hHeld ?_
                refine tq 22 hHeld ?_
                refine tq 23 hHeld ?_
                refine tq 24 hHeld ?_
                refine tq 25 hHeld ?_
                refine tq 26 hHeld ?_
                refine tq 27 hHeld ?_
                refine tq 28 hHeld ?_
                refine tq 29 hHeld ?_
                (refine tc 30 fun K hK => ?_; go_simp; (go_at_call 40; refine (before_q _ _ _ _ _ _ eC).mono ?_; rintro e w6 ⟨rfl, hb6⟩; obtain ⟨hc6, hf6⟩ := bcell hb6; have hz6 := hb6.size; (try simp only [World.size_drew, World.size_alloc, World.size_setCell] at hc6 hf6 hz6); have hk6x0 := fun o => hc6 (w.heap.size) o (by omega); have hj6x0 := fun o => hf6 (w.heap.size) o (by omega); have hq6x0 : w.heap.size < w6.heap.size := (by omega); have hk6x1 := fun o => hc6 (wr.heap.size) o (by omega); have hj6x1 := fun o => hf6 (wr.heap.size) o (by omega); have hq6x1 : wr.heap.size < w6.heap.size := (by omega); have hk6x2 := fun o => hc6 (b) o (by omega); have hj6x2 := fun o => hf6 (b) o (by omega); have hq6x2 : b < w6.heap.size := (by omega); clear hc6 hf6); (try go_wp2_with fail); refine tr hK (fun hHeld => ?_); clear hK K)
                refine tq 31 hHeld ?_
                refine tq 32 hHeld ?_
                refine tq 33 hHeld ?_
                refine wpAnyH_done (by kernel_rfl) ?_ _
                go_wp2_with fail
                go_ret
                exact ⟨by rw [allPB_no hno.out m hlt]; rfl, hB2.bel.trans ((((hb4.ofDr).trans (hb5.mono (hb4.ofDr).size)).trans (hb6.mono ((hb4.ofDr).trans (hb5.mono (hb4.ofDr).size)).size)).mono hB2.bel.size)⟩
              | true =>
                have hyes : Shut (stepPB U n Q i = true) := (by unfold stepPB; rw [show i - 1 = j from by have := HJ.out; omega, eC, eA, eB, decide_eq_true hAB]; simp : stepPB U n Q i = true)
                refine wp_region_held_drew (S := fun w' => w'.cell? ⟨w.heap.size, 0, none⟩ = some (.int .i64 T) ∧ w'.cell? ⟨w.heap.size, 1, none⟩ = some (.int .i64 P) ∧ w'.cell? ⟨w.heap.size, 2, none⟩ = some (.slice a n c) ∧ w'.cell? ⟨w.heap.size, 3, none⟩ = some (.slice (some ⟨b, o, none⟩) m c') ∧ w'.cell? ⟨wr.heap.size, 0, none⟩ = some (.int .i64 (Q (i * 2))) ∧ w'.cell? ⟨wr.heap.size, 1, none⟩ = some (.int .i64 (Q (i * 2 + 1))) ∧ w'.cell? ⟨b, o + j * 2, none⟩ = some (.int .i64 (Q (j * 2))) ∧ w'.cell? ⟨b, o + j * 2 + 1, none⟩ = some (.int .i64 (Q (j * 2 + 1)))) (by kernel_rfl) ?_ (fun hHeld => ?_)
                · (try dsimp only)
                  (first | (go_simp; done) | (go_keep; done))
                refine tq 0 hHeld ?_
                refine tq 1 hHeld ?_
                refine tq 2 hHeld ?_
                refine tq 3 hHeld ?_
                refine tq 4 hHeld ?_
                refine tq 5 hHeld ?_
                refine tq 6 hHeld ?_
                refine tq 7 hHeld ?_
                refine tq 8 hHeld ?_
                (refine tc 9 fun K hK => ?_; go_simp; (go_at_call 39; refine (whas_q T P a n c U _ m c' _ _ (h.below (bel_a)) hn ha _ eA).mono ?_; rintro e w4 ⟨rfl, hb4⟩; obtain ⟨hc4, hf4⟩ := bcell hb4; have hz4 := hb4.size; (try simp only [World.size_drew, World.size_alloc, World.size_setCell] at hc4 hf4 hz4); have hk4x0 := fun o => hc4 (w.heap.size) o (by omega); have hj4x0 := fun o => hf4 (w.heap.size) o (by omega); have hq4x0 : w.heap.size < w4.heap.size := (by omega); have hk4x1 := fun o => hc4 (wr.heap.size) o (by omega); have hj4x1 := fun o => hf4 (wr.heap.size) o (by omega); have hq4x1 : wr.heap.size < w4.heap.size := (by omega); have hk4x2 := fun o => hc4 (b) o (by omega); have hj4x2 := fun o => hf4 (b) o (by omega); have hq4x2 : b < w4.heap.size := (by omega); clear hc4 hf4); (try go_wp2_with fail); refine tr hK (fun hHeld => ?_); clear hK K)
                refine tq 10 hHeld ?_
                refine tq 11 hHeld ?_
                refine tq 12 hHeld ?_
                refine tq 13 hHeld ?_
                refine tq 14 hHeld ?_
                refine tq 15 hHeld ?_
                (refine tc 16 fun K hK => ?_; go_simp; (go_at_call 39; refine (whas_q T P a n c U _ m c' _ _ (h.below (bel_a)) hn ha _ eB).mono ?_; rintro e w5 ⟨rfl, hb5⟩; obtain ⟨hc5, hf5⟩ := bcell hb5; have hz5 := hb5.size; (try simp only [World.size_drew, World.size_alloc, World.size_setCell] at hc5 hf5 hz5); have hk5x0 := fun o => hc5 (w.heap.size) o (by omega); have hj5x0 := fun o => hf5 (w.heap.size) o (by omega); have hq5x0 : w.heap.size < w5.heap.size := (by omega); have hk5x1 := fun o => hc5 (wr.heap.size) o (by omega); have hj5x1 := fun o => hf5 (wr.heap.size) o (by omega); have hq5x1 : wr.heap.size < w5.heap.size := (by omega); have hk5x2 := fun o => hc5 (b) o (by omega); have hj5x2 := fun o => hf5 (b) o (by omega); have hq5x2 : b < w5.heap.size := (by omega); clear hc5 hf5); (try go_wp2_with fail); refine tr hK (fun hHeld => ?_); clear hK K)
                refine tq 17 hHeld ?_
                refine tq 18 hHeld ?_
                refine tq 19 hHeld ?_
                refine tq 20 hHeld ?_
                refine tq 21 hHeld ?_
                refine tq 22 hHeld ?_
                refine tq 23 hHeld ?_
                refine tq 24 hHeld ?_
                refine tq 25 hHeld ?_
                refine tq 26 hHeld ?_
                refine tq 27 hHeld ?_
                refine tq 28 hHeld ?_
                refine tq 29 hHeld ?_
                (refine tc 30 fun K hK => ?_; go_simp; (go_at_call 40; refine (before_q _ _ _ _ _ _ eC).mono ?_; rintro e w6 ⟨rfl, hb6⟩; obtain ⟨hc6, hf6⟩ := bcell hb6; have hz6 := hb6.size; (try simp only [World.size_drew, World.size_alloc, World.size_setCell] at hc6 hf6 hz6); have hk6x0 := fun o => hc6 (w.heap.size) o (by omega); have hj6x0 := fun o => hf6 (w.heap.size) o (by omega); have hq6x0 : w.heap.size < w6.heap.size := (by omega); have hk6x1 := fun o => hc6 (wr.heap.size) o (by omega); have hj6x1 := fun o => hf6 (wr.heap.size) o (by omega); have hq6x1 : wr.heap.size < w6.heap.size := (by omega); have hk6x2 := fun o => hc6 (b) o (by omega); have hj6x2 := fun o => hf6 (b) o (by omega); have hq6x2 : b < w6.heap.size := (by omega); clear hc6 hf6); (try go_wp2_with fail); refine tr hK (fun hHeld => ?_); clear hK K)
                refine tq 31 hHeld ?_
                refine tq 32 hHeld ?_
                refine tq 33 hHeld ?_
                refine wpAnyH_done (by kernel_rfl) ?_ _
                go_wp2_with fail
                go_roundw
                case rel => exact ⟨i + 1, by omega, by go_num, hB2.on (((hb4.ofDr).trans (hb5.mono (hb4.ofDr).size)).trans (hb6.mono ((hb4.ofDr).trans (hb5.mono (hb4.ofDr).size)).size)), by rw [allPB, hall.out, hyes.out]; rfl⟩
                case measure => simp [intOf]; omega
            · have hd0 : decide (0 < i) = false := decide_eq_false hk0
              have HK : Shut (i = 0) := (by omega : i = 0)
              clear hk0 yc
              have hyes : Shut (stepPB U n Q i = true) := (by unfold stepPB; rw [eA, eB, decide_eq_true hAB, decide_eq_true HK.out]; rfl : stepPB U n Q i = true)
              refine wp_region_held_drew (S := fun w' => w'.cell? ⟨w.heap.size, 0, none⟩ = some (.int .i64 T) ∧ w'.cell? ⟨w.heap.size, 1, none⟩ = some (.int .i64 P) ∧ w'.cell? ⟨w.heap.size, 2, none⟩ = some (.slice a n c) ∧ w'.cell? ⟨w.heap.size, 3, none⟩ = some (.slice (some ⟨b, o, none⟩) m c') ∧ w'.cell? ⟨wr.heap.size, 0, none⟩ = some (.int .i64 (Q (i * 2))) ∧ w'.cell? ⟨wr.heap.size, 1, none⟩ = some (.int .i64 (Q (i * 2 + 1)))) (by kernel_rfl) ?_ (fun hHeld => ?_)
              · (try dsimp only)
                (first | (go_simp; done) | (go_keep; done))
              refine tq 0 hHeld ?_
              refine tq 1 hHeld ?_
              refine tq 2 hHeld ?_
              refine tq 3 hHeld ?_
              refine tq 4 hHeld ?_
              refine tq 5 hHeld ?_
              refine tq 6 hHeld ?_
              refine tq 7 hHeld ?_
              refine tq 8 hHeld ?_
              (refine tc 9 fun K hK => ?_; go_simp; (go_at_call 39; refine (whas_q T P a n c U _ m c' _ _ (h.below (bel_a)) hn ha _ eA).mono ?_; rintro e w4 ⟨rfl, hb4⟩; obtain ⟨hc4, hf4⟩ := bcell hb4; have hz4 := hb4.size; (try simp only [World.size_drew, World.size_alloc, World.size_setCell] at hc4 hf4 hz4); have hk4x0 := fun o => hc4 (w.heap.size) o (by omega); have hj4x0 := fun o => hf4 (w.heap.size) o (by omega); have hq4x0 : w.heap.size < w4.heap.size := (by omega); have hk4x1 := fun o => hc4 (wr.heap.size) o (by omega); have hj4x1 := fun o => hf4 (wr.heap.size) o (by omega); have hq4x1 : wr.heap.size < w4.heap.size := (by omega); have hk4x2 := fun o => hc4 (b) o (by omega); have hj4x2 := fun o => hf4 (b) o (by omega); have hq4x2 : b < w4.heap.size := (by omega); clear hc4 hf4); (try go_wp2_with fail); refine tr hK (fun hHeld => ?_); clear hK K)
              refine tq 10 hHeld ?_
              refine tq 11 hHeld ?_
              refine tq 12 hHeld ?_
              refine tq 13 hHeld ?_
              refine tq 14 hHeld ?_
              refine tq 15 hHeld ?_
              (refine tc 16 fun K hK => ?_; go_simp; (go_at_call 39; refine (whas_q T P a n c U _ m c' _ _ (h.below (bel_a)) hn ha _ eB).mono ?_; rintro e w5 ⟨rfl, hb5⟩; obtain ⟨hc5, hf5⟩ := bcell hb5; have hz5 := hb5.size; (try simp only [World.size_drew, World.size_alloc, World.size_setCell] at hc5 hf5 hz5); have hk5x0 := fun o => hc5 (w.heap.size) o (by omega); have hj5x0 := fun o => hf5 (w.heap.size) o (by omega); have hq5x0 : w.heap.size < w5.heap.size := (by omega); have hk5x1 := fun o => hc5 (wr.heap.size) o (by omega); have hj5x1 := fun o => hf5 (wr.heap.size) o (by omega); have hq5x1 : wr.heap.size < w5.heap.size := (by omega); have hk5x2 := fun o => hc5 (b) o (by omega); have hj5x2 := fun o => hf5 (b) o (by omega); have hq5x2 : b < w5.heap.size := (by omega); clear hc5 hf5); (try go_wp2_with fail); refine tr hK (fun hHeld => ?_); clear hK K)
              refine tq 17 hHeld ?_
              refine tq 18 hHeld ?_
              refine tq 19 hHeld ?_
              refine tq 20 hHeld ?_
              refine tq 21 hHeld ?_
              refine tq 22 hHeld ?_
              refine tn 23 hHeld ?_
              refine tn 24 hHeld ?_
              refine tn 25 hHeld ?_
              refine tn 26 hHeld ?_
              refine tn 27 hHeld ?_
              refine tn 28 hHeld ?_
              refine tn 29 hHeld ?_
              refine tn 30 hHeld ?_
              refine tn 31 hHeld ?_
              refine tq 32 hHeld ?_
              refine tq 33 hHeld ?_
              refine wpAnyH_done (by kernel_rfl) ?_ _
              go_wp2_with fail
              go_roundw
              case rel => exact ⟨i + 1, by omega, by go_num, hB2.on ((hb4.ofDr).trans (hb5.mono (hb4.ofDr).size)), by rw [allPB, hall.out, hyes.out]; rfl⟩
              case measure => simp [intOf]; omega
      · have hd1 : decide (Q (i * 2 + 1) ≤ Q (i * 2)) = true := decide_eq_true (by omega)
        have hno : Shut (stepPB U n Q i = false) := (by unfold stepPB; rw [decide_eq_false hAB]; rfl : stepPB U n Q i = false)
        clear yc
        refine wp_region_held_drew (S := fun w' => w'.cell? ⟨w.heap.size, 0, none⟩ = some (.int .i64 T) ∧ w'.cell? ⟨w.heap.size, 1, none⟩ = some (.int .i64 P) ∧ w'.cell? ⟨w.heap.size, 2, none⟩ = some (.slice a n c) ∧ w'.cell? ⟨w.heap.size, 3, none⟩ = some (.slice (some ⟨b, o, none⟩) m c') ∧ w'.cell? ⟨wr.heap.size, 0, none⟩ = some (.int .i64 (Q (i * 2))) ∧ w'.cell? ⟨wr.heap.size, 1, none⟩ = some (.int .i64 (Q (i * 2 + 1)))) (by kernel_rfl) ?_ (fun hHeld => ?_)
        · (try dsimp only)
          (first | (go_simp; done) | (go_keep; done))
        refine tq 0 hHeld ?_
        refine tq 1 hHeld ?_
        refine tq 2 hHeld ?_
        refine tq 3 hHeld ?_
        refine tq 4 hHeld ?_
        refine tq 5 hHeld ?_
        refine tn 6 hHeld ?_
        refine tn 7 hHeld ?_
        refine tn 8 hHeld ?_
        refine tn 9 hHeld ?_
        refine tn 10 hHeld ?_
        refine tq 11 hHeld ?_
        refine tq 12 hHeld ?_
        refine tn 13 hHeld ?_
        refine tn 14 hHeld ?_
        refine tn 15 hHeld ?_
        refine tn 16 hHeld ?_
        refine tn 17 hHeld ?_
        refine tq 18 hHeld ?_
        refine tq 19 hHeld ?_
        refine tn 20 hHeld ?_
        refine tn 21 hHeld ?_
        refine tn 22 hHeld ?_
        refine tn 23 hHeld ?_
        refine tn 24 hHeld ?_
        refine tn 25 hHeld ?_
        refine tn 26 hHeld ?_
        refine tn 27 hHeld ?_
        refine tn 28 hHeld ?_
        refine tn 29 hHeld ?_
        refine tn 30 hHeld ?_
        refine tn 31 hHeld ?_
        refine tn 32 hHeld ?_
        refine tq 33 hHeld ?_
        refine wpAnyH_done (by kernel_rfl) ?_ _
        go_wp2_with fail
        go_ret
        exact ⟨by rw [allPB_no hno.out m hlt]; rfl, hB2.bel.trans ((Below.drew (Below.refl _ _)).mono hB2.bel.size)⟩
    · obtain rfl : i = m := by omega
      go_wp2
      go_ret
      exact ⟨by rw [hall.out]; rfl, hB.bel⟩

set_option maxRecDepth 20000 in
set_option maxHeartbeats 4000000 in
theorem worldOk_q (T P : Int) (a : Option Addr) (n c : Nat) (U : Nat → Int) (a' : Option Addr) (m c' : Nat) (Q : Nat → Int) (w : World) (h : Flat w a (n * 12) U) (h' : Flat w a' (m * 2) Q) (hn : n ≤ 1048576) (hm : m ≤ 1048576) (bb : Bool) (ebb : worldB T P n U m Q = bb) :
    Calls Tryz.prog 9 #[worldW T P a n c a' m c'] w fun e w' => e = .returned (.bool bb) ∧ Below w.heap.size w w' := by
  subst ebb
  have hset := cset_map
  unfold worldB
  cases k1 : decide (0 ≤ T ∧ T ≤ 100000) with
  | false =>
    go_enter Tryz.func9, Tryz.ntmps9
    go_wp2_with (go_at_call 12; refine (upTo_q _ _ _ _ k1).mono ?_; rintro e w1 ⟨rfl, hb1⟩; obtain ⟨hc1, hf1⟩ := bcell hb1; have hz1 := hb1.size; (try simp only [World.size_drew, World.size_alloc, World.size_setCell] at hc1 hf1 hz1); have hk1x0 := fun o => hc1 (w.heap.size) o (by omega); have hj1x0 := fun o => hf1 (w.heap.size) o (by omega); have hq1x0 : w.heap.size < w1.heap.size := (by omega); clear hc1 hf1)
    go_ret
    exact ⟨rfl, bel_a⟩
  | true =>
    cases k2 : decide (0 ≤ P ∧ P ≤ 2560) with
    | false =>
      go_enter Tryz.func9, Tryz.ntmps9
      go_wp2_with (first
        | (have _ := hz1; (go_at_call 12; refine (upTo_q _ _ _ _ k2).mono ?_; rintro e w2 ⟨rfl, hb2⟩; obtain ⟨hc2, hf2⟩ := bcell hb2; have hz2 := hb2.size; (try simp only [World.size_drew, World.size_alloc, World.size_setCell] at hc2 hf2 hz2); have hk2x0 := fun o => hc2 (w.heap.size) o (by omega); have hj2x0 := fun o => hf2 (w.heap.size) o (by omega); have hq2x0 : w.heap.size < w2.heap.size := (by omega); clear hc2 hf2))
        | (go_at_call 12; refine (upTo_q _ _ _ _ k1).mono ?_; rintro e w1 ⟨rfl, hb1⟩; obtain ⟨hc1, hf1⟩ := bcell hb1; have hz1 := hb1.size; (try simp only [World.size_drew, World.size_alloc, World.size_setCell] at hc1 hf1 hz1); have hk1x0 := fun o => hc1 (w.heap.size) o (by omega); have hj1x0 := fun o => hf1 (w.heap.size) o (by omega); have hq1x0 : w.heap.size < w1.heap.size := (by omega); clear hc1 hf1))
      go_ret
      exact ⟨rfl, bel_a⟩
    | true =>
      cases k3 : bodsB n U with
      | false =>
        go_enter Tryz.func9, Tryz.ntmps9
        go_wp2_with (first
          | (have _ := hz1; (go_at_call 12; refine (upTo_q _ _ _ _ k2).mono ?_; rintro e w2 ⟨rfl, hb2⟩; obtain ⟨hc2, hf2⟩ := bcell hb2; have hz2 := hb2.size; (try simp only [World.size_drew, World.size_alloc, World.size_setCell] at hc2 hf2 hz2); have hk2x0 := fun o => hc2 (w.heap.size) o (by omega); have hj2x0 := fun o => hf2 (w.heap.size) o (by omega); have hq2x0 : w.heap.size < w2.heap.size := (by omega); clear hc2 hf2))
          | (go_at_call 12; refine (upTo_q _ _ _ _ k1).mono ?_; rintro e w1 ⟨rfl, hb1⟩; obtain ⟨hc1, hf1⟩ := bcell hb1; have hz1 := hb1.size; (try simp only [World.size_drew, World.size_alloc, World.size_setCell] at hc1 hf1 hz1); have hk1x0 := fun o => hc1 (w.heap.size) o (by omega); have hj1x0 := fun o => hf1 (w.heap.size) o (by omega); have hq1x0 : w.heap.size < w1.heap.size := (by omega); clear hc1 hf1)
          | (go_at_call 22; refine (bodiesOk_q a n c U _ _ (h.below (bel_a)) hn k3).mono ?_; rintro e w3 ⟨rfl, hb3⟩; obtain ⟨hc3, hf3⟩ := bcell hb3; have hz3 := hb3.size; (try simp only [World.size_drew, World.size_alloc, World.size_setCell] at hc3 hf3 hz3); have hk3x0 := fun o => hc3 (w.heap.size) o (by omega); have hj3x0 := fun o => hf3 (w.heap.size) o (by omega); have hq3x0 : w.heap.size < w3.heap.size := (by omega); clear hc3 hf3))
        go_ret
        exact ⟨rfl, bel_a⟩
      | true =>
        simp only [Bool.true_and]
        generalize k4 : allPB U n Q m = r
        go_enter Tryz.func9, Tryz.ntmps9
        go_wp2_with (first
          | (have _ := hz1; (go_at_call 12; refine (upTo_q _ _ _ _ k2).mono ?_; rintro e w2 ⟨rfl, hb2⟩; obtain ⟨hc2, hf2⟩ := bcell hb2; have hz2 := hb2.size; (try simp only [World.size_drew, World.size_alloc, World.size_setCell] at hc2 hf2 hz2); have hk2x0 := fun o => hc2 (w.heap.size) o (by omega); have hj2x0 := fun o => hf2 (w.heap.size) o (by omega); have hq2x0 : w.heap.size < w2.heap.size := (by omega); clear hc2 hf2))
          | (go_at_call 12; refine (upTo_q _ _ _ _ k1).mono ?_; rintro e w1 ⟨rfl, hb1⟩; obtain ⟨hc1, hf1⟩ := bcell hb1; have hz1 := hb1.size; (try simp only [World.size_drew, World.size_alloc, World.size_setCell] at hc1 hf1 hz1); have hk1x0 := fun o => hc1 (w.heap.size) o (by omega); have hj1x0 := fun o => hf1 (w.heap.size) o (by omega); have hq1x0 : w.heap.size < w1.heap.size := (by omega); clear hc1 hf1)
          | (go_at_call 22; refine (bodiesOk_q a n c U _ _ (h.below (bel_a)) hn k3).mono ?_; rintro e w3 ⟨rfl, hb3⟩; obtain ⟨hc3, hf3⟩ := bcell hb3; have hz3 := hb3.size; (try simp only [World.size_drew, World.size_alloc, World.size_setCell] at hc3 hf3 hz3); have hk3x0 := fun o => hc3 (w.heap.size) o (by omega); have hj3x0 := fun o => hf3 (w.heap.size) o (by omega); have hq3x0 : w.heap.size < w3.heap.size := (by omega); clear hc3 hf3)
          | (go_at_call 23; refine (pairsOk_any T P a n c U a' m c' Q _ (h.below (bel_a)) (h'.below (bel_a)) hn hm (bodsB_asc k3) _ k4).mono ?_; rintro e w4 ⟨rfl, hb4⟩; obtain ⟨hc4, hf4⟩ := bcell hb4; have hz4 := hb4.size; (try simp only [World.size_drew, World.size_alloc, World.size_setCell] at hc4 hf4 hz4); have hk4x0 := fun o => hc4 (w.heap.size) o (by omega); have hj4x0 := fun o => hf4 (w.heap.size) o (by omega); have hq4x0 : w.heap.size < w4.heap.size := (by omega); clear hc4 hf4))
        go_ret
        exact ⟨rfl, bel_a⟩
end Go.Proofs.YtpajkdlgkchhkaaGreatDoor
namespace Go.Proofs.YtpajkdlgkchhkaaGreatDoor
open Go.RowKit
set_option linter.unusedVariables false
set_option linter.unusedSimpArgs false

abbrev wl (n : Int) : Value := .agg #[.int .i64 0, .int .i64 n, .slice none 0 0, .slice none 0 0]
theorem upTo_w (n l : Int) (w : World) :
    Calls Tryz.prog 12 #[.int .i64 n, .int .i64 l] w fun e w' => e = .returned (.bool (decide (0 ≤ n ∧ n ≤ l))) ∧ w' = w := by
  go_enter Tryz.func12, Tryz.ntmps12
  go_wp2
  all_goals
    go_ret
    refine ⟨ret_bool ?_, rfl⟩
    first | (simp [*]; done) | (simp at *; omega) | (simp [*]; omega)
def pl (n : Int) : Int := if 0 ≤ n ∧ n ≤ 2560 then n else 0

set_option maxHeartbeats 4000000 in
theorem worldNew_any (n m : Int) (w : World) (e : pl n = m) : Calls Tryz.prog 5 #[.int .i64 n] w fun e w' => e = .returned (wl m) ∧ Below w.heap.size w w' := by
  have hset := cset_map
  subst e
  unfold pl
  by_cases h : 0 ≤ n ∧ n ≤ 2560
  · have d : decide (0 ≤ n ∧ n ≤ 2560) = true := decide_eq_true h
    rw [if_pos h]
    clear h
    go_enter Tryz.func5, Tryz.ntmps5
    go_wp2_with (go_at_call 12; refine (upTo_w _ _ _).mono ?_; rintro e w' ⟨rfl, rfl⟩)
    exact bodyPost_ret (v := wl n) (by simp [results, Tryz.results5, go_sem, *]) rfl ⟨rfl, bel_a⟩
  · have d : decide (0 ≤ n ∧ n ≤ 2560) = false := decide_eq_false h
    rw [if_neg h]
    clear h
    go_enter Tryz.func5, Tryz.ntmps5
    go_wp2_with (go_at_call 12; refine (upTo_w _ _ _).mono ?_; rintro e w' ⟨rfl, rfl⟩)
    exact bodyPost_ret (v := wl 0) (by simp [results, Tryz.results5, go_sem, *]) rfl ⟨rfl, bel_a⟩

set_option maxHeartbeats 4000000 in
theorem sWorldNew_any (n m : Int) (w : World) (e : pl n = m) : Calls Tryz.prog 8 #[.int .i64 n] w fun e w' => e = .returned (wl m) ∧ Below w.heap.size w w' := by
  have hset := cset_map
  subst e
  unfold pl
  by_cases h : 0 ≤ n ∧ n ≤ 2560
  · have d : decide (0 ≤ n ∧ n ≤ 2560) = true := decide_eq_true h
    rw [if_pos h]
    clear h
    go_enter Tryz.func8, Tryz.ntmps8
    go_wp2_with (go_at_call 21; refine (l1In_any _ _ _ _).mono ?_; rintro e w' ⟨rfl, rfl⟩)
    exact bodyPost_ret (v := wl n) (by simp [results, Tryz.results8, go_sem, *]) rfl ⟨rfl, bel_a⟩
  · have d : decide (0 ≤ n ∧ n ≤ 2560) = false := decide_eq_false h
    rw [if_neg h]
    clear h
    go_enter Tryz.func8, Tryz.ntmps8
    go_wp2_with (go_at_call 21; refine (l1In_any _ _ _ _).mono ?_; rintro e w' ⟨rfl, rfl⟩)
    exact bodyPost_ret (v := wl 0) (by simp [results, Tryz.results8, go_sem, *]) rfl ⟨rfl, bel_a⟩

end Go.Proofs.YtpajkdlgkchhkaaGreatDoor
namespace Go.Proofs.YtpajkdlgkchhkaaGreatDoor
open Go.RowKit
set_option linter.unusedVariables false
set_option linter.unusedSimpArgs false
theorem run_eq_vec (n d : Nat) (hn : n = d + 1) (a b x y : Int) (w : World) : (Op.equalIn (n + 1) 60 (.agg #[.int .i64 a, .int .i64 b]) (.agg #[.int .i64 x, .int .i64 y])).run Tryz.prog w = .ok (a == x && b == y) w := by
  have hi : Tryz.prog.underlying 3 = some (.int .i64) := by kernel_rfl
  have hs : Tryz.prog.stoodInHeld 60 = false := by kernel_rfl
  have hp : ∀ w, (program).run Tryz.prog w = .ok Tryz.prog w := fun w => by rfl
  have p0 : ∀ (a b : Int) w, (part 3 #[.int .i64 a, .int .i64 b] 0).run Tryz.prog w = .ok (.int .i64 a) w := fun a b w => by kernel_rfl
  have p1 : ∀ (a b : Int) w, (part 3 #[.int .i64 a, .int .i64 b] 1).run Tryz.prog w = .ok (.int .i64 b) w := fun a b w => by kernel_rfl
  simp only [Op.equalIn, Sem.run_bind, run_underlying Tryz.underlying60, Result.andThen_ok, hp, hs, Bool.false_eq_true, if_false, Sem.run_pure]
  subst hn
  have h0 : ∀ w, (Op.equalIn (d + 1) 3 (.int .i64 a) (.int .i64 x)).run Tryz.prog w = .ok (a == x) w := fun w => run_equalIn_int w d 3 .i64 .i64 a x hi
  have h1 : ∀ w, (Op.equalIn (d + 1) 3 (.int .i64 b) (.int .i64 y)).run Tryz.prog w = .ok (b == y) w := fun w => run_equalIn_int w d 3 .i64 .i64 b y hi
  simp only [List.forIn_toArray, List.forIn_cons, List.forIn_nil, Sem.run_bind, p0, h0, Result.andThen_ok, Sem.run_ite, Sem.run_pure]
  cases hx : (a == x) <;> cases hy : (b == y) <;> simp [Sem.run_bind, p0, p1, h0, h1, Sem.run_ite, hx, hy]
theorem eq_vec0 (a b x y : Int) (w : World) : (Op.equalIn 10000 60 (.agg #[.int .i64 a, .int .i64 b]) (.agg #[.int .i64 x, .int .i64 y])).run Tryz.prog w = .ok (a == x && b == y) w := run_eq_vec 9999 9998 rfl a b x y w
end Go.Proofs.YtpajkdlgkchhkaaGreatDoor
namespace Go.Proofs.YtpajkdlgkchhkaaGreatDoor
open Go.RowKit
set_option linter.unusedVariables false
set_option linter.unusedSimpArgs false
theorem run_eq_shape (n d : Nat) (hn : n = d + 1) (a b c : Int) (w : World) : (Op.equalIn (n + 1) 58 (.agg #[.int .i64 a, .int .i64 b, .int .i64 c]) (.agg #[.int .i64 a, .int .i64 b, .int .i64 c])).run Tryz.prog w = .ok true w := by
  have hi : Tryz.prog.underlying 3 = some (.int .i64) := by kernel_rfl
  have hs : Tryz.prog.stoodInHeld 58 = false := by kernel_rfl
  have hp : ∀ w, (program).run Tryz.prog w = .ok Tryz.prog w := fun w => by rfl
  have p0 : ∀ (a b c : Int) w, (part 3 #[.int .i64 a, .int .i64 b, .int .i64 c] 0).run Tryz.prog w = .ok (.int .i64 a) w := fun a b c w => by kernel_rfl
  have p1 : ∀ (a b c : Int) w, (part 3 #[.int .i64 a, .int .i64 b, .int .i64 c] 1).run Tryz.prog w = .ok (.int .i64 b) w := fun a b c w => by kernel_rfl
  have p2 : ∀ (a b c : Int) w, (part 3 #[.int .i64 a, .int .i64 b, .int .i64 c] 2).run Tryz.prog w = .ok (.int .i64 c) w := fun a b c w => by kernel_rfl
  simp only [Op.equalIn, Sem.run_bind, run_underlying Tryz.underlying58, Result.andThen_ok, hp, hs, Bool.false_eq_true, if_false, Sem.run_pure]
  subst hn
  have h0 : ∀ w, (Op.equalIn (d + 1) 3 (.int .i64 a) (.int .i64 a)).run Tryz.prog w = .ok true w := fun w => by rw [run_equalIn_int w (d + 0) 3 .i64 .i64 a a hi]; simp
  have h1 : ∀ w, (Op.equalIn (d + 1) 3 (.int .i64 b) (.int .i64 b)).run Tryz.prog w = .ok true w := fun w => by rw [run_equalIn_int w (d + 0) 3 .i64 .i64 b b hi]; simp
  have h2 : ∀ w, (Op.equalIn (d + 1) 3 (.int .i64 c) (.int .i64 c)).run Tryz.prog w = .ok true w := fun w => by rw [run_equalIn_int w (d + 0) 3 .i64 .i64 c c hi]; simp
  simp only [List.forIn_toArray, List.forIn_cons, List.forIn_nil, Sem.run_bind, p0, h0, Result.andThen_ok, Sem.run_ite, Sem.run_pure]
  simp [Sem.run_bind, p0, h0, p1, h1, p2, h2, Sem.run_ite]
theorem run_eq_body (n d : Nat) (hn : n = d + 3) (x0 x1 x2 x3 x4 x5 x6 x7 x8 x9 x10 x11 : Int) (w : World) : (Op.equalIn (n + 1) 62 (.agg #[.int .i64 x0, .int .i64 x1, .int .i64 x2, .int .i64 x3, .int .i64 x4, .int .i64 x5, .int .i64 x6, .int .i64 x7, .int .i64 x8, .int .i64 x9, .int .i64 x10, .int .i64 x11]) (.agg #[.int .i64 x0, .int .i64 x1, .int .i64 x2, .int .i64 x3, .int .i64 x4, .int .i64 x5, .int .i64 x6, .int .i64 x7, .int .i64 x8, .int .i64 x9, .int .i64 x10, .int .i64 x11])).run Tryz.prog w = .ok true w := by
  have hi : Tryz.prog.underlying 3 = some (.int .i64) := by kernel_rfl
  have hs : Tryz.prog.stoodInHeld 62 = false := by kernel_rfl
  have hp : ∀ w, (program).run Tryz.prog w = .ok Tryz.prog w := fun w => by rfl
  have p0 : ∀ (x0 x1 x2 x3 x4 x5 x6 x7 x8 x9 x10 x11 : Int) w, (part 3 #[.int .i64 x0, .int .i64 x1, .int .i64 x2, .int .i64 x3, .int .i64 x4, .int .i64 x5, .int .i64 x6, .int .i64 x7, .int .i64 x8, .int .i64 x9, .int .i64 x10, .int .i64 x11] 0).run Tryz.prog w = .ok (.int .i64 x0) w := fun x0 x1 x2 x3 x4 x5 x6 x7 x8 x9 x10 x11 w => by kernel_rfl
  have p1 : ∀ (x0 x1 x2 x3 x4 x5 x6 x7 x8 x9 x10 x11 : Int) w, (part 58 #[.int .i64 x0, .int .i64 x1, .int .i64 x2, .int .i64 x3, .int .i64 x4, .int .i64 x5, .int .i64 x6, .int .i64 x7, .int .i64 x8, .int .i64 x9, .int .i64 x10, .int .i64 x11] 1).run Tryz.prog w = .ok (.agg #[.int .i64 x1, .int .i64 x2, .int .i64 x3]) w := fun x0 x1 x2 x3 x4 x5 x6 x7 x8 x9 x10 x11 w => by kernel_rfl
  have p2 : ∀ (x0 x1 x2 x3 x4 x5 x6 x7 x8 x9 x10 x11 : Int) w, (part 60 #[.int .i64 x0, .int .i64 x1, .int .i64 x2, .int .i64 x3, .int .i64 x4, .int .i64 x5, .int .i64 x6, .int .i64 x7, .int .i64 x8, .int .i64 x9, .int .i64 x10, .int .i64 x11] 4).run Tryz.prog w = .ok (.agg #[.int .i64 x4, .int .i64 x5]) w := fun x0 x1 x2 x3 x4 x5 x6 x7 x8 x9 x10 x11 w => by kernel_rfl
  have p3 : ∀ (x0 x1 x2 x3 x4 x5 x6 x7 x8 x9 x10 x11 : Int) w, (part 60 #[.int .i64 x0, .int .i64 x1, .int .i64 x2, .int .i64 x3, .int .i64 x4, .int .i64 x5, .int .i64 x6, .int .i64 x7, .int .i64 x8, .int .i64 x9, .int .i64 x10, .int .i64 x11] 6).run Tryz.prog w = .ok (.agg #[.int .i64 x6, .int .i64 x7]) w := fun x0 x1 x2 x3 x4 x5 x6 x7 x8 x9 x10 x11 w => by kernel_rfl
  have p4 : ∀ (x0 x1 x2 x3 x4 x5 x6 x7 x8 x9 x10 x11 : Int) w, (part 3 #[.int .i64 x0, .int .i64 x1, .int .i64 x2, .int .i64 x3, .int .i64 x4, .int .i64 x5, .int .i64 x6, .int .i64 x7, .int .i64 x8, .int .i64 x9, .int .i64 x10, .int .i64 x11] 8).run Tryz.prog w = .ok (.int .i64 x8) w := fun x0 x1 x2 x3 x4 x5 x6 x7 x8 x9 x10 x11 w => by kernel_rfl
  have p5 : ∀ (x0 x1 x2 x3 x4 x5 x6 x7 x8 x9 x10 x11 : Int) w, (part 3 #[.int .i64 x0, .int .i64 x1, .int .i64 x2, .int .i64 x3, .int .i64 x4, .int .i64 x5, .int .i64 x6, .int .i64 x7, .int .i64 x8, .int .i64 x9, .int .i64 x10, .int .i64 x11] 9).run Tryz.prog w = .ok (.int .i64 x9) w := fun x0 x1 x2 x3 x4 x5 x6 x7 x8 x9 x10 x11 w => by kernel_rfl
  have p6 : ∀ (x0 x1 x2 x3 x4 x5 x6 x7 x8 x9 x10 x11 : Int) w, (part 3 #[.int .i64 x0, .int .i64 x1, .int .i64 x2, .int .i64 x3, .int .i64 x4, .int .i64 x5, .int .i64 x6, .int .i64 x7, .int .i64 x8, .int .i64 x9, .int .i64 x10, .int .i64 x11] 10).run Tryz.prog w = .ok (.int .i64 x10) w := fun x0 x1 x2 x3 x4 x5 x6 x7 x8 x9 x10 x11 w => by kernel_rfl
  have p7 : ∀ (x0 x1 x2 x3 x4 x5 x6 x7 x8 x9 x10 x11 : Int) w, (part 3 #[.int .i64 x0, .int .i64 x1, .int .i64 x2, .int .i64 x3, .int .i64 x4, .int .i64 x5, .int .i64 x6, .int .i64 x7, .int .i64 x8, .int .i64 x9, .int .i64 x10, .int .i64 x11] 11).run Tryz.prog w = .ok (.int .i64 x11) w := fun x0 x1 x2 x3 x4 x5 x6 x7 x8 x9 x10 x11 w => by kernel_rfl
  simp only [Op.equalIn, Sem.run_bind, run_underlying Tryz.underlying62, Result.andThen_ok, hp, hs, Bool.false_eq_true, if_false, Sem.run_pure]
  subst hn
  have h0 : ∀ w, (Op.equalIn (d + 3) 3 (.int .i64 x0) (.int .i64 x0)).run Tryz.prog w = .ok true w := fun w => by rw [run_equalIn_int w (d + 2) 3 .i64 .i64 x0 x0 hi]; simp
  have h1 : ∀ w, (Op.equalIn (d + 3) 58 (.agg #[.int .i64 x1, .int .i64 x2, .int .i64 x3]) (.agg #[.int .i64 x1, .int .i64 x2, .int .i64 x3])).run Tryz.prog w = .ok true w := fun w => run_eq_shape (d + 2) (d + 1) rfl x1 x2 x3 w
  have h2 : ∀ w, (Op.equalIn (d + 3) 60 (.agg #[.int .i64 x4, .int .i64 x5]) (.agg #[.int .i64 x4, .int .i64 x5])).run Tryz.prog w = .ok true w := fun w => by rw [run_eq_vec (d + 2) (d + 1) rfl]; simp
  have h3 : ∀ w, (Op.equalIn (d + 3) 60 (.agg #[.int .i64 x6, .int .i64 x7]) (.agg #[.int .i64 x6, .int .i64 x7])).run Tryz.prog w = .ok true w := fun w => by rw [run_eq_vec (d + 2) (d + 1) rfl]; simp
  have h4 : ∀ w, (Op.equalIn (d + 3) 3 (.int .i64 x8) (.int .i64 x8)).run Tryz.prog w = .ok true w := fun w => by rw [run_equalIn_int w (d + 2) 3 .i64 .i64 x8 x8 hi]; simp
  have h5 : ∀ w, (Op.equalIn (d + 3) 3 (.int .i64 x9) (.int .i64 x9)).run Tryz.prog w = .ok true w := fun w => by rw [run_equalIn_int w (d + 2) 3 .i64 .i64 x9 x9 hi]; simp
  have h6 : ∀ w, (Op.equalIn (d + 3) 3 (.int .i64 x10) (.int .i64 x10)).run Tryz.prog w = .ok true w := fun w => by rw [run_equalIn_int w (d + 2) 3 .i64 .i64 x10 x10 hi]; simp
  have h7 : ∀ w, (Op.equalIn (d + 3) 3 (.int .i64 x11) (.int .i64 x11)).run Tryz.prog w = .ok true w := fun w => by rw [run_equalIn_int w (d + 2) 3 .i64 .i64 x11 x11 hi]; simp
  simp only [List.forIn_toArray, List.forIn_cons, List.forIn_nil, Sem.run_bind, p0, h0, Result.andThen_ok, Sem.run_ite, Sem.run_pure]
  simp [Sem.run_bind, p0, h0, p1, h1, p2, h2, p3, h3, p4, h4, p5, h5, p6, h6, p7, h7, Sem.run_ite]
theorem eq_body0 (x0 x1 x2 x3 x4 x5 x6 x7 x8 x9 x10 x11 : Int) (w : World) : (Op.equalIn 10000 62 (.agg #[.int .i64 x0, .int .i64 x1, .int .i64 x2, .int .i64 x3, .int .i64 x4, .int .i64 x5, .int .i64 x6, .int .i64 x7, .int .i64 x8, .int .i64 x9, .int .i64 x10, .int .i64 x11]) (.agg #[.int .i64 x0, .int .i64 x1, .int .i64 x2, .int .i64 x3, .int .i64 x4, .int .i64 x5, .int .i64 x6, .int .i64 x7, .int .i64 x8, .int .i64 x9, .int .i64 x10, .int .i64 x11])).run Tryz.prog w = .ok true w := run_eq_body 9999 9996 rfl x0 x1 x2 x3 x4 x5 x6 x7 x8 x9 x10 x11 w
end Go.Proofs.YtpajkdlgkchhkaaGreatDoor
namespace Go.Proofs.YtpajkdlgkchhkaaGreatDoor
open Go.RowKit
set_option linter.unusedVariables false
set_option linter.unusedSimpArgs false
theorem run_eq_pair (n d : Nat) (hn : n = d + 1) (a b x y : Int) (w : World) : (Op.equalIn (n + 1) 65 (.agg #[.int .i64 a, .int .i64 b]) (.agg #[.int .i64 x, .int .i64 y])).run Tryz.prog w = .ok (a == x && b == y) w := by
  have hi : Tryz.prog.underlying 3 = some (.int .i64) := by kernel_rfl
  have hs : Tryz.prog.stoodInHeld 65 = false := by kernel_rfl
  have hp : ∀ w, (program).run Tryz.prog w = .ok Tryz.prog w := fun w => by rfl
  have p0 : ∀ (a b : Int) w, (part 3 #[.int .i64 a, .int .i64 b] 0).run Tryz.prog w = .ok (.int .i64 a) w := fun a b w => by kernel_rfl
  have p1 : ∀ (a b : Int) w, (part 3 #[.int .i64 a, .int .i64 b] 1).run Tryz.prog w = .ok (.int .i64 b) w := fun a b w => by kernel_rfl
  simp only [Op.equalIn, Sem.run_bind, run_underlying Tryz.underlying65, Result.andThen_ok, hp, hs, Bool.false_eq_true, if_false, Sem.run_pure]
  subst hn
  have h0 : ∀ w, (Op.equalIn (d + 1) 3 (.int .i64 a) (.int .i64 x)).run Tryz.prog w = .ok (a == x) w := fun w => run_equalIn_int w d 3 .i64 .i64 a x hi
  have h1 : ∀ w, (Op.equalIn (d + 1) 3 (.int .i64 b) (.int .i64 y)).run Tryz.prog w = .ok (b == y) w := fun w => run_equalIn_int w d 3 .i64 .i64 b y hi
  simp only [List.forIn_toArray, List.forIn_cons, List.forIn_nil, Sem.run_bind, p0, h0, Result.andThen_ok, Sem.run_ite, Sem.run_pure]
  cases hx : (a == x) <;> cases hy : (b == y) <;> simp [Sem.run_bind, p0, p1, h0, h1, Sem.run_ite, hx, hy]
theorem eq_pair0 (a b x y : Int) (w : World) : (Op.equalIn 10000 65 (.agg #[.int .i64 a, .int .i64 b]) (.agg #[.int .i64 x, .int .i64 y])).run Tryz.prog w = .ok (a == x && b == y) w := run_eq_pair 9999 9998 rfl a b x y w
end Go.Proofs.YtpajkdlgkchhkaaGreatDoor
namespace Go.Proofs.YtpajkdlgkchhkaaGreatDoor
open Go.RowKit
set_option linter.unusedVariables false
set_option linter.unusedSimpArgs false
def lenS (L : Nat → Nat) : Nat → Nat
  | 0 => 0
  | k + 1 => lenS L k + L k
theorem lenS_mono (L : Nat → Nat) : ∀ (k r : Nat), k ≤ r → lenS L k ≤ lenS L r
  | k, 0, h => by rw [Nat.le_zero.1 h]; exact Nat.le_refl _
  | k, r + 1, h => by
    rcases Nat.lt_or_eq_of_le h with h | h
    · exact Nat.le_trans (lenS_mono L k r (by omega)) (show lenS L r ≤ lenS L r + L r by omega)
    · rw [h]; exact Nat.le_refl _
abbrev zcBody : Value := .agg #[.int .i64 0, .int .i64 0, .int .i64 0, .int .i64 0, .int .i64 0, .int .i64 0, .int .i64 0, .int .i64 0, .int .i64 0, .int .i64 0, .int .i64 0, .int .i64 0]
theorem infoItBody : (Tryz.prog.info? 62).map (fun i => (i.zero, i.size, i.bytes)) = some (some zcBody, 12, 96) := by kernel_rfl
set_option maxRecDepth 20000 in
theorem growBody (n : Nat) (w : World) (hn : n ≤ 2097152) (U : Nat → Int) :
    Calls Tryz.prog 41 #[.slice none 0 0, .int .i64 (n : Int)] w fun e w' => ∃ a c, e = .returned (.slice a 0 c) ∧ OwnL w' w.heap.size 62 12 (.slice a 0 c) 0 U ∧ Below w.heap.size w w' := by
  by_cases h0 : n = 0
  · subst h0
    go_enter Tryz.func41, Tryz.ntmps41
    go_wp2
    go_ret
    exact ⟨none, 0, rfl, OwnL.nil _ _ _ _ _, Below.refl _ _⟩
  · have hp : (0 : Int) < (n : Int) := by omega
    have hnn : ¬ ((n : Int) < 0) := by omega
    obtain ⟨i, hi, hzz⟩ := Option.map_eq_some_iff.1 infoItBody
    simp only [Prod.mk.injEq] at hzz
    obtain ⟨hz, hs, hb⟩ := hzz
    have hr := Go.Lib.run_append_nil_zeros (P := Tryz.prog) w 24 3 24 62 i zcBody .i64 .i64 Tryz.underlying24 Tryz.underlying3 hi hz n (by omega) (by rw [hs]; decide) (by omega) (by rw [hb]; omega)
    have hcap := grownCap_ge w n 0 62
    have hmax := grownCap_le_maxLen w n 0 62 (by unfold maxLen; omega)
    have hM : (Builtin.zeroCells zcBody.cells n ++ Builtin.zeroCells zcBody.cells (grownCap w n 0 62 - n)).size = grownCap w n 0 62 * 12 := by
      rw [Array.size_append, size_zeroCells, size_zeroCells, ← Nat.add_mul, Nat.add_sub_cancel' hcap]; rfl
    generalize grownCap w n 0 62 = cp at hr hcap hmax hM
    generalize Builtin.zeroCells zcBody.cells n ++ Builtin.zeroCells zcBody.cells (cp - n) = M at hr hM
    have hcp : 0 ≤ (cp : Int) := by omega
    go_enter Tryz.func41, Tryz.ntmps41
    go_wp2_with (refine Go.Lib.wpList_append_run _ rfl _ _ _ _ rfl _ _ rfl rfl _ _ hr ?_)
    go_ret
    refine ⟨_, _, rfl, ?_, (Below.refl _ _).drew.alloc (by simp) _⟩
    refine ⟨by simp [numL], .inr ⟨w.heap.size, cp, M, rfl, Nat.le_refl _, ?_, Nat.zero_le _, hmax, hM, by simp [numL]⟩⟩
    exact Go.Deep.blk_alloc_new w.drew (.cells M 62)
def catSBody (L : Nat → Nat) (X : Nat → Nat → Int) : Nat → Nat → Int
  | 0 => fun _ => 0
  | k + 1 => cat (lenS L k * 12) (catSBody L X k) (X k)
set_option maxRecDepth 20000 in
set_option maxHeartbeats 4000000 in
theorem concatBody (b0 r c0 : Nat) (A : Nat → Option Addr) (L C : Nat → Nat) (X : Nat → Nat → Int) (w : World) (hb0 : b0 < w.heap.size) (hr : r ≤ 3)
    (hc : ∀ j, j < r → w.cell? ⟨b0, j, none⟩ = some (.slice (A j) (L j) (C j))) (hF : ∀ j, j < r → Flat w (A j) (L j * 12) (X j)) (hL : lenS L r ≤ 2097152) :
    Calls Tryz.prog 25 #[.slice (some ⟨b0, 0, none⟩) r c0] w fun e w' => ∃ a c, e = .returned (.slice a (lenS L r) c) ∧ OwnL w' w.heap.size 62 12 (.slice a (lenS L r) c) (lenS L r) (catSBody L X r) ∧ Below w.heap.size w w' := by
  go_enter Tryz.func25, Tryz.ntmps25
  go_wp2
  go_loop [3, 11] (fun s i => ∃ k : Nat, k ≤ r ∧ i = .int .i64 (k : Int) ∧ s = .int .i64 (lenS L k : Int)) (fun _ i => r - (intOf i).toNat)
  case atStart => exact ⟨0, Nat.zero_le _, rfl, rfl⟩
  case round =>
    obtain ⟨k, hk, rfl, rfl⟩ := hrel
    by_cases hlt : k < r
    · have hkr : (k : Int) < (r : Int) := by omega
      have c1 := hc k hlt
      have hm := lenS_mono L (k + 1) r (by omega)
      have hs : lenS L (k + 1) = lenS L k + L k := rfl
      have hnn : ¬ ((lenS L k : Int) + (L k : Int) < 0) := by omega
      go_wp2
      go_round
      case rel => exact ⟨k + 1, by omega, by go_num, by rw [hs]; go_num⟩
      case measure => simp [intOf]; omega
    · obtain rfl : k = r := by omega
      go_wp2_with (go_at_call 41; refine (growBody _ _ (by omega) (fun _ => 0)).mono ?_; rintro e w1 ⟨a1, c1, rfl, ho1, hb1⟩)
      go_loopw [6, 27] (fun s i wr => ∃ (j : Nat) (a c : _) , j ≤ k ∧ i = .int .i64 (j : Int) ∧ s = .slice a (lenS L j) c ∧ OwnL wr w.heap.size 62 12 (.slice a (lenS L j) c) (lenS L j) (catSBody L X j) ∧ Below w.heap.size w wr) (fun _ i _ => k - (intOf i).toNat)
      case atStart => exact ⟨0, a1, c1, Nat.zero_le _, rfl, rfl, ho1, hb1⟩
      case round =>
        obtain ⟨j, a, c, hj, rfl, rfl, ho, hB⟩ := hrel
        have hsz := hB.size
        by_cases hlt2 : j < k
        · have hkr : (j : Int) < (k : Int) := by omega
          have c2 : wr.cell? ⟨b0, j, none⟩ = some (.slice (A j) (L j) (C j)) := (hB.cell (p := ⟨b0, j, none⟩) hb0).trans (hc j hlt2)
          have hm := lenS_mono L (j + 1) k (by omega)
          have hs : lenS L (j + 1) = lenS L j + L j := rfl
          have hFj : Flat wr (A j) (L j * 12) (X j) := (hF j hlt2).below hB
          have HS : Shut (lenS L (j + 1) = lenS L j + L j) := hs
          clear hs
          go_wp2_with (refine wpList_app rfl _ _ _ rfl w.heap.size 62 12 96 zcBody Tryz.underlying24 infoItBody rfl (by decide) _ _ _ rfl ho _ _ _ _ rfl hFj (by unfold maxLen; have := HS.out; omega) (by have := HS.out; omega) hsz ?_; intro a2 c2 w2 ho2 hg2)
          go_roundw
          case rel => exact ⟨j + 1, a2, c2, by omega, by go_num, by rw [HS.out], by have := HS.out; rw [this]; exact ho2, hB.grown hg2 hsz (fun b hb => (ho.lt b hb).1)⟩
          case measure => simp [intOf]; omega
        · obtain rfl : j = k := by omega
          go_wp2
          go_ret
          exact ⟨a, c, rfl, ho, hB⟩
theorem cat0Body (X Y : Nat → Int) : ∀ q, cat (0 * 12) X Y q = Y q := by intro q; simp [cat]
theorem concat1Body (b0 c0 : Nat) (a : Option Addr) (n c : Nat) (U : Nat → Int) (w : World) (hb0 : b0 < w.heap.size) (hc : w.cell? ⟨b0, 0, none⟩ = some (.slice a n c)) (hF : Flat w a (n * 12) U) (hn : n ≤ 2097152) :
    Calls Tryz.prog 25 #[.slice (some ⟨b0, 0, none⟩) 1 c0] w fun e w' => ∃ a' c', e = .returned (.slice a' n c') ∧ OwnL w' w.heap.size 62 12 (.slice a' n c') n U ∧ Below w.heap.size w w' := by
  have e : lenS (fun _ => n) 1 = n := by simp [lenS]
  have q := concatBody b0 1 c0 (fun _ => a) (fun _ => n) (fun _ => c) (fun _ => U) w hb0 (by omega) (fun j hj => by obtain rfl : j = 0 := (by omega); exact hc) (fun j _ => hF) (by omega)
  rw [e] at q
  refine q.mono ?_
  rintro e w' ⟨a', c', h1, h2, h3⟩
  exact ⟨a', c', h1, h2.congr fun q _ => by simp only [catSBody, lenS]; exact cat0Body _ _ q, h3⟩
theorem concat2Body (b0 c0 : Nat) (a1 a2 : Option Addr) (n1 n2 c1 c2 : Nat) (U1 U2 : Nat → Int) (w : World) (hb0 : b0 < w.heap.size) (hc1 : w.cell? ⟨b0, 0, none⟩ = some (.slice a1 n1 c1)) (hc2 : w.cell? ⟨b0, 1, none⟩ = some (.slice a2 n2 c2)) (hF1 : Flat w a1 (n1 * 12) U1) (hF2 : Flat w a2 (n2 * 12) U2) (hn : n1 + n2 ≤ 2097152) :
    Calls Tryz.prog 25 #[.slice (some ⟨b0, 0, none⟩) 2 c0] w fun e w' => ∃ a' c', e = .returned (.slice a' (n1 + n2) c') ∧ OwnL w' w.heap.size 62 12 (.slice a' (n1 + n2) c') (n1 + n2) (cat (n1 * 12) U1 U2) ∧ Below w.heap.size w w' := by
  have e : lenS (fun j => if j = 0 then n1 else n2) 2 = n1 + n2 := by simp [lenS]
  have q := concatBody b0 2 c0 (fun j => if j = 0 then a1 else a2) (fun j => if j = 0 then n1 else n2) (fun j => if j = 0 then c1 else c2) (fun j => if j = 0 then U1 else U2) w hb0 (by omega)
    (fun j hj => by rcases (show j = 0 ∨ j = 1 by omega) with rfl | rfl; exact hc1; exact hc2) (fun j hj => by rcases (show j = 0 ∨ j = 1 by omega) with rfl | rfl; exact hF1; exact hF2) (by omega)
  rw [e] at q
  refine q.mono ?_
  rintro e w' ⟨a', c', h1, h2, h3⟩
  exact ⟨a', c', h1, h2.congr fun q _ => by simp [catSBody, lenS, cat], h3⟩
abbrev zcPair : Value := .agg #[.int .i64 0, .int .i64 0]
theorem infoItPair : (Tryz.prog.info? 65).map (fun i => (i.zero, i.size, i.bytes)) = some (some zcPair, 2, 16) := by kernel_rfl
set_option maxRecDepth 20000 in
theorem growPair (n : Nat) (w : World) (hn : n ≤ 2097152) (U : Nat → Int) :
    Calls Tryz.prog 42 #[.slice none 0 0, .int .i64 (n : Int)] w fun e w' => ∃ a c, e = .returned (.slice a 0 c) ∧ OwnL w' w.heap.size 65 2 (.slice a 0 c) 0 U ∧ Below w.heap.size w w' := by
  by_cases h0 : n = 0
  · subst h0
    go_enter Tryz.func42, Tryz.ntmps42
    go_wp2
    go_ret
    exact ⟨none, 0, rfl, OwnL.nil _ _ _ _ _, Below.refl _ _⟩
  · have hp : (0 : Int) < (n : Int) := by omega
    have hnn : ¬ ((n : Int) < 0) := by omega
    obtain ⟨i, hi, hzz⟩ := Option.map_eq_some_iff.1 infoItPair
    simp only [Prod.mk.injEq] at hzz
    obtain ⟨hz, hs, hb⟩ := hzz
    have hr := Go.Lib.run_append_nil_zeros (P := Tryz.prog) w 25 3 25 65 i zcPair .i64 .i64 Tryz.underlying25 Tryz.underlying3 hi hz n (by omega) (by rw [hs]; decide) (by omega) (by rw [hb]; omega)
    have hcap := grownCap_ge w n 0 65
    have hmax := grownCap_le_maxLen w n 0 65 (by unfold maxLen; omega)
    have hM : (Builtin.zeroCells zcPair.cells n ++ Builtin.zeroCells zcPair.cells (grownCap w n 0 65 - n)).size = grownCap w n 0 65 * 2 := by
      rw [Array.size_append, size_zeroCells, size_zeroCells, ← Nat.add_mul, Nat.add_sub_cancel' hcap]; rfl
    generalize grownCap w n 0 65 = cp at hr hcap hmax hM
    generalize Builtin.zeroCells zcPair.cells n ++ Builtin.zeroCells zcPair.cells (cp - n) = M at hr hM
    have hcp : 0 ≤ (cp : Int) := by omega
    go_enter Tryz.func42, Tryz.ntmps42
    go_wp2_with (refine Go.Lib.wpList_append_run _ rfl _ _ _ _ rfl _ _ rfl rfl _ _ hr ?_)
    go_ret
    refine ⟨_, _, rfl, ?_, (Below.refl _ _).drew.alloc (by simp) _⟩
    refine ⟨by simp [numL], .inr ⟨w.heap.size, cp, M, rfl, Nat.le_refl _, ?_, Nat.zero_le _, hmax, hM, by simp [numL]⟩⟩
    exact Go.Deep.blk_alloc_new w.drew (.cells M 65)
def catSPair (L : Nat → Nat) (X : Nat → Nat → Int) : Nat → Nat → Int
  | 0 => fun _ => 0
  | k + 1 => cat (lenS L k * 2) (catSPair L X k) (X k)
set_option maxRecDepth 20000 in
set_option maxHeartbeats 4000000 in
theorem concatPair (b0 r c0 : Nat) (A : Nat → Option Addr) (L C : Nat → Nat) (X : Nat → Nat → Int) (w : World) (hb0 : b0 < w.heap.size) (hr : r ≤ 3)
    (hc : ∀ j, j < r → w.cell? ⟨b0, j, none⟩ = some (.slice (A j) (L j) (C j))) (hF : ∀ j, j < r → Flat w (A j) (L j * 2) (X j)) (hL : lenS L r ≤ 2097152) :
    Calls Tryz.prog 26 #[.slice (some ⟨b0, 0, none⟩) r c0] w fun e w' => ∃ a c, e = .returned (.slice a (lenS L r) c) ∧ OwnL w' w.heap.size 65 2 (.slice a (lenS L r) c) (lenS L r) (catSPair L X r) ∧ Below w.heap.size w w' := by
  go_enter Tryz.func26, Tryz.ntmps26
  go_wp2
  go_loop [3, 11] (fun s i => ∃ k : Nat, k ≤ r ∧ i = .int .i64 (k : Int) ∧ s = .int .i64 (lenS L k : Int)) (fun _ i => r - (intOf i).toNat)
  case atStart => exact ⟨0, Nat.zero_le _, rfl, rfl⟩
  case round =>
    obtain ⟨k, hk, rfl, rfl⟩ := hrel
    by_cases hlt : k < r
    · have hkr : (k : Int) < (r : Int) := by omega
      have c1 := hc k hlt
      have hm := lenS_mono L (k + 1) r (by omega)
      have hs : lenS L (k + 1) = lenS L k + L k := rfl
      have hnn : ¬ ((lenS L k : Int) + (L k : Int) < 0) := by omega
      go_wp2
      go_round
      case rel => exact ⟨k + 1, by omega, by go_num, by rw [hs]; go_num⟩
      case measure => simp [intOf]; omega
    · obtain rfl : k = r := by omega
      go_wp2_with (go_at_call 42; refine (growPair _ _ (by omega) (fun _ => 0)).mono ?_; rintro e w1 ⟨a1, c1, rfl, ho1, hb1⟩)
      go_loopw [6, 27] (fun s i wr => ∃ (j : Nat) (a c : _) , j ≤ k ∧ i = .int .i64 (j : Int) ∧ s = .slice a (lenS L j) c ∧ OwnL wr w.heap.size 65 2 (.slice a (lenS L j) c) (lenS L j) (catSPair L X j) ∧ Below w.heap.size w wr) (fun _ i _ => k - (intOf i).toNat)
      case atStart => exact ⟨0, a1, c1, Nat.zero_le _, rfl, rfl, ho1, hb1⟩
      case round =>
        obtain ⟨j, a, c, hj, rfl, rfl, ho, hB⟩ := hrel
        have hsz := hB.size
        by_cases hlt2 : j < k
        · have hkr : (j : Int) < (k : Int) := by omega
          have c2 : wr.cell? ⟨b0, j, none⟩ = some (.slice (A j) (L j) (C j)) := (hB.cell (p := ⟨b0, j, none⟩) hb0).trans (hc j hlt2)
          have hm := lenS_mono L (j + 1) k (by omega)
          have hs : lenS L (j + 1) = lenS L j + L j := rfl
          have hFj : Flat wr (A j) (L j * 2) (X j) := (hF j hlt2).below hB
          have HS : Shut (lenS L (j + 1) = lenS L j + L j) := hs
          clear hs
          go_wp2_with (refine wpList_app rfl _ _ _ rfl w.heap.size 65 2 16 zcPair Tryz.underlying25 infoItPair rfl (by decide) _ _ _ rfl ho _ _ _ _ rfl hFj (by unfold maxLen; have := HS.out; omega) (by have := HS.out; omega) hsz ?_; intro a2 c2 w2 ho2 hg2)
          go_roundw
          case rel => exact ⟨j + 1, a2, c2, by omega, by go_num, by rw [HS.out], by have := HS.out; rw [this]; exact ho2, hB.grown hg2 hsz (fun b hb => (ho.lt b hb).1)⟩
          case measure => simp [intOf]; omega
        · obtain rfl : j = k := by omega
          go_wp2
          go_ret
          exact ⟨a, c, rfl, ho, hB⟩
theorem cat0Pair (X Y : Nat → Int) : ∀ q, cat (0 * 2) X Y q = Y q := by intro q; simp [cat]
theorem concat1Pair (b0 c0 : Nat) (a : Option Addr) (n c : Nat) (U : Nat → Int) (w : World) (hb0 : b0 < w.heap.size) (hc : w.cell? ⟨b0, 0, none⟩ = some (.slice a n c)) (hF : Flat w a (n * 2) U) (hn : n ≤ 2097152) :
    Calls Tryz.prog 26 #[.slice (some ⟨b0, 0, none⟩) 1 c0] w fun e w' => ∃ a' c', e = .returned (.slice a' n c') ∧ OwnL w' w.heap.size 65 2 (.slice a' n c') n U ∧ Below w.heap.size w w' := by
  have e : lenS (fun _ => n) 1 = n := by simp [lenS]
  have q := concatPair b0 1 c0 (fun _ => a) (fun _ => n) (fun _ => c) (fun _ => U) w hb0 (by omega) (fun j hj => by obtain rfl : j = 0 := (by omega); exact hc) (fun j _ => hF) (by omega)
  rw [e] at q
  refine q.mono ?_
  rintro e w' ⟨a', c', h1, h2, h3⟩
  exact ⟨a', c', h1, h2.congr fun q _ => by simp only [catSPair, lenS]; exact cat0Pair _ _ q, h3⟩
theorem concat2Pair (b0 c0 : Nat) (a1 a2 : Option Addr) (n1 n2 c1 c2 : Nat) (U1 U2 : Nat → Int) (w : World) (hb0 : b0 < w.heap.size) (hc1 : w.cell? ⟨b0, 0, none⟩ = some (.slice a1 n1 c1)) (hc2 : w.cell? ⟨b0, 1, none⟩ = some (.slice a2 n2 c2)) (hF1 : Flat w a1 (n1 * 2) U1) (hF2 : Flat w a2 (n2 * 2) U2) (hn : n1 + n2 ≤ 2097152) :
    Calls Tryz.prog 26 #[.slice (some ⟨b0, 0, none⟩) 2 c0] w fun e w' => ∃ a' c', e = .returned (.slice a' (n1 + n2) c') ∧ OwnL w' w.heap.size 65 2 (.slice a' (n1 + n2) c') (n1 + n2) (cat (n1 * 2) U1 U2) ∧ Below w.heap.size w w' := by
  have e : lenS (fun j => if j = 0 then n1 else n2) 2 = n1 + n2 := by simp [lenS]
  have q := concatPair b0 2 c0 (fun j => if j = 0 then a1 else a2) (fun j => if j = 0 then n1 else n2) (fun j => if j = 0 then c1 else c2) (fun j => if j = 0 then U1 else U2) w hb0 (by omega)
    (fun j hj => by rcases (show j = 0 ∨ j = 1 by omega) with rfl | rfl; exact hc1; exact hc2) (fun j hj => by rcases (show j = 0 ∨ j = 1 by omega) with rfl | rfl; exact hF1; exact hF2) (by omega)
  rw [e] at q
  refine q.mono ?_
  rintro e w' ⟨a', c', h1, h2, h3⟩
  exact ⟨a', c', h1, h2.congr fun q _ => by simp [catSPair, lenS, cat], h3⟩
end Go.Proofs.YtpajkdlgkchhkaaGreatDoor
namespace Go.Proofs.YtpajkdlgkchhkaaGreatDoor
open Go.RowKit
set_option linter.unusedVariables false
set_option linter.unusedSimpArgs false

theorem OwnL.setO {w : World} {base t k n b o : Nat} {v : Value} {U : Nat → Int} (h : OwnL w base t k v n U) (hb : b < base) (x : Value) : OwnL (w.setCell ⟨b, o, none⟩ x) base t k v n U :=
  h.frame (X := fun y => y = b) (Fr.setCell (X := fun y => y = b) rfl _) (fun y hy e => by have := (h.lt y hy).1; omega)
/-- what a function hands out that makes a world -/
structure OutW (w w' : World) (a : Option Addr) (n c : Nat) (U : Nat → Int) (a' : Option Addr) (m c' : Nat) (Q : Nat → Int) : Prop where
  bel : Below w.heap.size w w'
  ob : OwnL w' w.heap.size 62 12 (.slice a n c) n U
  op : OwnL w' w.heap.size 65 2 (.slice a' m c') m Q
  ne : ∀ b, (Value.slice a n c).ownBlock = some b → (Value.slice a' m c').ownBlock ≠ some b
theorem OutW.under {w0 w w' : World} {a a' : Option Addr} {n c m c' : Nat} {U Q : Nat → Int} (h : OutW w w' a n c U a' m c' Q) (hb : Below w0.heap.size w0 w) : OutW w0 w' a n c U a' m c' Q := ⟨hb.trans (h.bel.mono hb.size), h.ob.base hb.size, h.op.base hb.size, h.ne⟩
theorem OutW.on {w w' w2 : World} {a a' : Option Addr} {n c m c' : Nat} {U Q : Nat → Int} (h : OutW w w' a n c U a' m c' Q) (hb : Below w'.heap.size w' w2) : OutW w w2 a n c U a' m c' Q := ⟨h.bel.trans (hb.mono h.bel.size), h.ob.below hb, h.op.below hb, h.ne⟩

set_option maxRecDepth 20000 in
set_option maxHeartbeats 8000000 in
theorem copied_any (T P : Int) (a : Option Addr) (n c : Nat) (U : Nat → Int) (a' : Option Addr) (m c' : Nat) (Q : Nat → Int) (w : World) (h : Flat w a (n * 12) U) (h' : Flat w a' (m * 2) Q) (hn : n ≤ 1048576) (hm : m ≤ 1048576) :
    Calls Tryz.prog 13 #[worldW T P a n c a' m c'] w fun e w' => ∃ a1 c1 a2 c2, e = .returned (worldW T P a1 n c1 a2 m c2) ∧ OutW w w' a1 n c1 U a2 m c2 Q := by
  have hset := cset_map
  go_enter Tryz.func13, Tryz.ntmps13
  go_upto_region 1 with fail
  refine wp_region_held_drew (S := fun w' => w'.cell? ⟨w.heap.size, 0, none⟩ = some (.int .i64 T) ∧ w'.cell? ⟨w.heap.size, 1, none⟩ = some (.int .i64 P) ∧ w'.cell? ⟨w.heap.size, 2, none⟩ = some (.slice a n c) ∧ w'.cell? ⟨w.heap.size, 3, none⟩ = some (.slice a' m c')) (by kernel_rfl) ?_ (fun hHeld => ?_)
  · (try dsimp only)
    (first | (go_simp; done) | (go_keep; done))
  refine tq 0 hHeld ?_
  refine tq 1 hHeld ?_
  refine tq 2 hHeld ?_
  refine tq 3 hHeld ?_
  refine tq 4 hHeld ?_
  refine tq 5 hHeld ?_
  refine tq 8 hHeld ?_
  refine tq 9 hHeld ?_
  refine wpAnyH_ready (rs := [6, 10]) (by kernel_rfl) (by simp) ?_
  refine AllReadyH.cons rfl (fun K hK => ?_) (AllReadyH.cons rfl (fun K hK => ?_) AllReadyH.nil)
  · (go_simp; refine tr hK (fun hHeld => ?_); clear hK K)
    refine wpAnyH_ready (rs := [7, 10]) (by kernel_rfl) (by simp) ?_
    refine AllReadyH.cons rfl (fun K hK => ?_) (AllReadyH.cons rfl (fun K hK => ?_) AllReadyH.nil)
    · (go_simp; (go_at_call 25; refine (concat1Body _ _ a n c U _ (by first | omega | (simp; done) | (simp; omega)) (by go_simp) (h.below (bel_a)) (by omega)).mono ?_; rintro e w1 ⟨a1, c1, rfl, ho1, hb1⟩; obtain ⟨hc1, hf1⟩ := bcell hb1; have hz1 := hb1.size; (try simp only [World.size_drew, World.size_alloc, World.size_setCell] at hc1 hf1 hz1); have hk1x0 := fun o => hc1 (w.heap.size) o (by omega); have hk1x1 := fun o => hc1 (w.heap.size + 1) o (by omega); have hj1x1 := fun o => hf1 (w.heap.size + 1) o (by omega); have hq1x1 : w.heap.size + 1 < w1.heap.size := (by omega)); (try go_wp2_with fail); refine tr hK (fun hHeld => ?_); clear hK K)
      refine tc 10 fun K hK => ?_
      (go_simp; refine tr hK (fun hHeld => ?_); clear hK K)
      refine tc 11 fun K hK => ?_
      (go_simp; (go_at_call 26; refine (concat1Pair _ _ a' m c' Q _ (by first | omega | (simp; done) | (simp; omega)) (by go_simp) (h'.below (bel_a)) (by omega)).mono ?_; rintro e w2 ⟨a2, c2, rfl, ho2, hb2⟩; obtain ⟨hc2, hf2⟩ := bcell hb2; have hz2 := hb2.size; (try simp only [World.size_drew, World.size_alloc, World.size_setCell] at hc2 hf2 hz2); have hk2x0 := fun o => hc2 (w.heap.size) o (by omega); have hk2x1 := fun o => hc2 (w.heap.size + 1) o (by omega); have hj2x1 := fun o => hf2 (w.heap.size + 1) o (by omega); have hq2x1 : w.heap.size + 1 < w2.heap.size := (by omega)); (try go_wp2_with fail); refine tr hK (fun hHeld => ?_); clear hK K)
      refine tq 12 hHeld ?_
      refine tc 13 fun K hK => ?_
      (go_simp; refine tr hK (fun hHeld => ?_); clear hK K)
      refine wpAnyH_done (by kernel_rfl) ?_ _
      go_wp2_with fail
      have k1 := ho1.lt
      have k2 := ho2.lt
      exact bodyPost_ret (v := worldW T P a1 n c1 a2 m c2) (by simp [results, Tryz.results13, go_sem, *]) rfl ⟨_, _, _, _, rfl, bel_a, (((((ho1.below (w' := w2) (bel_a)).setO (by first | omega | (simp; done) | (simp; omega)) _).setO (by first | omega | (simp; done) | (simp; omega)) _).setO (by first | omega | (simp; done) | (simp; omega)) _).setO (by first | omega | (simp; done) | (simp; omega)) _).base (by first | omega | (simp; done) | (simp; omega)), ((((ho2.setO (by first | omega | (simp; done) | (simp; omega)) _).setO (by first | omega | (simp; done) | (simp; omega)) _).setO (by first | omega | (simp; done) | (simp; omega)) _).setO (by first | omega | (simp; done) | (simp; omega)) _).base (by first | omega | (simp; done) | (simp; omega)), fun b e1 e2 => by have q1 := (k1 b e1).2; have q2 := (k2 b e2).1; (try simp at q2); omega⟩
    · (go_simp; refine tr hK (fun hHeld => ?_); clear hK K)
      refine tc 7 fun K hK => ?_
      (go_simp; (go_at_call 25; refine (concat1Body _ _ a n c U _ (by first | omega | (simp; done) | (simp; omega)) (by go_simp) (h.below (bel_a)) (by omega)).mono ?_; rintro e w1 ⟨a1, c1, rfl, ho1, hb1⟩; obtain ⟨hc1, hf1⟩ := bcell hb1; have hz1 := hb1.size; (try simp only [World.size_drew, World.size_alloc, World.size_setCell] at hc1 hf1 hz1); have hk1x0 := fun o => hc1 (w.heap.size) o (by omega); have hk1x1 := fun o => hc1 (w.heap.size + 1) o (by omega); have hj1x1 := fun o => hf1 (w.heap.size + 1) o (by omega); have hq1x1 : w.heap.size + 1 < w1.heap.size := (by omega)); (try go_wp2_with fail); refine tr hK (fun hHeld => ?_); clear hK K)
      refine tc 11 fun K hK => ?_
      (go_simp; (go_at_call 26; refine (concat1Pair _ _ a' m c' Q _ (by first | omega | (simp; done) | (simp; omega)) (by go_simp) (h'.below (bel_a)) (by omega)).mono ?_; rintro e w2 ⟨a2, c2, rfl, ho2, hb2⟩; obtain ⟨hc2, hf2⟩ := bcell hb2; have hz2 := hb2.size; (try simp only [World.size_drew, World.size_alloc, World.size_setCell] at hc2 hf2 hz2); have hk2x0 := fun o => hc2 (w.heap.size) o (by omega); have hk2x1 := fun o => hc2 (w.heap.size + 1) o (by omega); have hj2x1 := fun o => hf2 (w.heap.size + 1) o (by omega); have hq2x1 : w.heap.size + 1 < w2.heap.size := (by omega)); (try go_wp2_with fail); refine tr hK (fun hHeld => ?_); clear hK K)
      refine tq 12 hHeld ?_
      refine tc 13 fun K hK => ?_
      (go_simp; refine tr hK (fun hHeld => ?_); clear hK K)
      refine wpAnyH_done (by kernel_rfl) ?_ _
      go_wp2_with fail
      have k1 := ho1.lt
      have k2 := ho2.lt
      exact bodyPost_ret (v := worldW T P a1 n c1 a2 m c2) (by simp [results, Tryz.results13, go_sem, *]) rfl ⟨_, _, _, _, rfl, bel_a, (((((ho1.below (w' := w2) (bel_a)).setO (by first | omega | (simp; done) | (simp; omega)) _).setO (by first | omega | (simp; done) | (simp; omega)) _).setO (by first | omega | (simp; done) | (simp; omega)) _).setO (by first | omega | (simp; done) | (simp; omega)) _).base (by first | omega | (simp; done) | (simp; omega)), ((((ho2.setO (by first | omega | (simp; done) | (simp; omega)) _).setO (by first | omega | (simp; done) | (simp; omega)) _).setO (by first | omega | (simp; done) | (simp; omega)) _).setO (by first | omega | (simp; done) | (simp; omega)) _).base (by first | omega | (simp; done) | (simp; omega)), fun b e1 e2 => by have q1 := (k1 b e1).2; have q2 := (k2 b e2).1; (try simp at q2); omega⟩
  · (go_simp; refine tr hK (fun hHeld => ?_); clear hK K)
    refine tc 6 fun K hK => ?_
    (go_simp; refine tr hK (fun hHeld => ?_); clear hK K)
    refine tc 7 fun K hK => ?_
    (go_simp; (go_at_call 25; refine (concat1Body _ _ a n c U _ (by first | omega | (simp; done) | (simp; omega)) (by go_simp) (h.below (bel_a)) (by omega)).mono ?_; rintro e w1 ⟨a1, c1, rfl, ho1, hb1⟩; obtain ⟨hc1, hf1⟩ := bcell hb1; have hz1 := hb1.size; (try simp only [World.size_drew, World.size_alloc, World.size_setCell] at hc1 hf1 hz1); have hk1x0 := fun o => hc1 (w.heap.size) o (by omega); have hk1x1 := fun o => hc1 (w.heap.size + 1) o (by omega); have hj1x1 := fun o => hf1 (w.heap.size + 1) o (by omega); have hq1x1 : w.heap.size + 1 < w1.heap.size := (by omega)); (try go_wp2_with fail); refine tr hK (fun hHeld => ?_); clear hK K)
    refine tc 11 fun K hK => ?_
    (go_simp; (go_at_call 26; refine (concat1Pair _ _ a' m c' Q _ (by first | omega | (simp; done) | (simp; omega)) (by go_simp) (h'.below (bel_a)) (by omega)).mono ?_; rintro e w2 ⟨a2, c2, rfl, ho2, hb2⟩; obtain ⟨hc2, hf2⟩ := bcell hb2; have hz2 := hb2.size; (try simp only [World.size_drew, World.size_alloc, World.size_setCell] at hc2 hf2 hz2); have hk2x0 := fun o => hc2 (w.heap.size) o (by omega); have hk2x1 := fun o => hc2 (w.heap.size + 1) o (by omega); have hj2x1 := fun o => hf2 (w.heap.size + 1) o (by omega); have hq2x1 : w.heap.size + 1 < w2.heap.size := (by omega)); (try go_wp2_with fail); refine tr hK (fun hHeld => ?_); clear hK K)
    refine tq 12 hHeld ?_
    refine tc 13 fun K hK => ?_
    (go_simp; refine tr hK (fun hHeld => ?_); clear hK K)
    refine wpAnyH_done (by kernel_rfl) ?_ _
    go_wp2_with fail
    have k1 := ho1.lt
    have k2 := ho2.lt
    exact bodyPost_ret (v := worldW T P a1 n c1 a2 m c2) (by simp [results, Tryz.results13, go_sem, *]) rfl ⟨_, _, _, _, rfl, bel_a, (((((ho1.below (w' := w2) (bel_a)).setO (by first | omega | (simp; done) | (simp; omega)) _).setO (by first | omega | (simp; done) | (simp; omega)) _).setO (by first | omega | (simp; done) | (simp; omega)) _).setO (by first | omega | (simp; done) | (simp; omega)) _).base (by first | omega | (simp; done) | (simp; omega)), ((((ho2.setO (by first | omega | (simp; done) | (simp; omega)) _).setO (by first | omega | (simp; done) | (simp; omega)) _).setO (by first | omega | (simp; done) | (simp; omega)) _).setO (by first | omega | (simp; done) | (simp; omega)) _).base (by first | omega | (simp; done) | (simp; omega)), fun b e1 e2 => by have q1 := (k1 b e1).2; have q2 := (k2 b e2).1; (try simp at q2); omega⟩
theorem OwnL.neT {w : World} {b1 b2 t1 t2 k1 k2 n1 n2 : Nat} {v1 v2 : Value} {U1 U2 : Nat → Int} (h1 : OwnL w b1 t1 k1 v1 n1 U1) (h2 : OwnL w b2 t2 k2 v2 n2 U2) (ht : t1 ≠ t2) : ∀ b, v1.ownBlock = Option.some b → v2.ownBlock ≠ Option.some b := by
  intro b e1 e2
  rcases h1.2 with ⟨hv, _⟩ | ⟨g, cap, cur, hv, hb, hg, _⟩
  · subst hv; simp [Value.ownBlock] at e1
  · rcases h2.2 with ⟨hv', _⟩ | ⟨g', cap', cur', hv', hb', hg', _⟩
    · subst hv'; simp [Value.ownBlock] at e2
    · subst hv hv'
      simp [Value.ownBlock] at e1 e2
      subst e1 e2
      rw [hg] at hg'
      simp only [Option.some.injEq, Obj.cells.injEq] at hg'
      exact ht hg'.2.1
end Go.Proofs.YtpajkdlgkchhkaaGreatDoor
