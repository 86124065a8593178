/- Texts of a proof. -/
import Derived.Test.YthijeiehcdoidaaGreatB3
import Derived.Test.YthijeiehcdoidaaGreatB21
import Derived.Test.YthijeiehcdoidaaGreatB7
import Derived.Test.YthijeiehcdoidaaGreatB14
import Derived.Test.YthijeiehcdoidaaGreatB6
import Derived.Test.YthijeiehcdoidaaGreatB1
import Derived.Deep.RegionHeld3
import Derived.Deep.DeepCutAuto
set_option maxHeartbeats 16000000
set_option maxRecDepth 20000
namespace Go.Proofs.YthijeiehcdoidaaGreat
open Go.RowKit
set_option linter.unusedVariables false
set_option linter.unusedSimpArgs false
theorem isNaN_any (x : Int) (w : World) :
 Calls Tryz.prog 97 #[.int .i64 x] w fun e w' => e = .returned (.bool false) ∧ w' = w := by
 go_enter Tryz.func97, Tryz.ntmps97
 go_wp2
 go_ret
 exact ⟨rfl, rfl⟩
theorem compare_any (x y : Int) (w : World) :
 Calls Tryz.prog 67 #[.int .i64 x, .int .i64 y] w fun e w' => e = .returned (.int .i64 (cmpI x y)) ∧ w' = w := by
 unfold cmpI
 by_cases h1 : x < y
 · rw [if_pos h1]
   go_enter Tryz.func67, Tryz.ntmps67
   go_wp2_with (go_at_call 97; refine (isNaN_any _ _).mono ?_; rintro e w1 ⟨rfl, rfl⟩)
   go_ret
   exact ⟨rfl, rfl⟩
 · rw [if_neg h1]
   by_cases h2 : y < x
   · rw [if_pos h2]
     go_enter Tryz.func67, Tryz.ntmps67
     go_wp2_with (go_at_call 97; refine (isNaN_any _ _).mono ?_; rintro e w1 ⟨rfl, rfl⟩)
     go_ret
     exact ⟨rfl, rfl⟩
   · rw [if_neg h2]
     go_enter Tryz.func67, Tryz.ntmps67
     go_wp2_with (go_at_call 97; refine (isNaN_any _ _).mono ?_; rintro e w1 ⟨rfl, rfl⟩)
     go_ret
     exact ⟨rfl, rfl⟩
theorem place1_q (V : Nat → Int) (id z : Int) (w : World) (e : cmpI (V 0) id = z) :
 Calls Tryz.prog 66 #[bodyW V, .int .i64 id] w fun e w' => e = .returned (.int .i64 z) ∧ Below w.heap.size w w' := by
 subst e
 have hset := cset_map
 go_enter Tryz.func66, Tryz.ntmps66
 go_wp2_with (go_at_call 67; refine (compare_any _ _ _).mono ?_; rintro e w1 ⟨rfl, rfl⟩)
 go_ret
 exact ⟨rfl, bel_a⟩
theorem tupB {x : Int} {a b : Bool} (h : a = b) : Ending.returned (.tuple #[.int .i64 x, .bool a]) = .returned (.tuple #[.int .i64 x, .bool b]) := by rw [h]
theorem cmpI_lt {x y : Int} : cmpI x y < 0 ↔ x < y := by unfold cmpI; split <;> (try split) <;> omega
theorem cmpI_eq {x y : Int} : cmpI x y = 0 ↔ x = y := by unfold cmpI; split <;> (try split) <;> omega
theorem bsf_any (a : Option Addr) (n c : Nat) (U : Nat → Int) (id : Int) (p : Nat) (w : World) (h : Flat w a (n * 12) U) (hn : n ≤ 1048576) (ha : ascU U n) (hp : idP U n id p) :
 Calls Tryz.prog 65 #[.slice a n c, .int .i64 id, .func (.func 66) #[] #[]] w fun e w' => e = .returned (.tuple #[.int .i64 (p : Int), .bool (decide (p < n ∧ U (p * 12) = id))]) ∧ Below w.heap.size w w' := by
 have hset := cset_map
 go_enter Tryz.func65, Tryz.ntmps65
 go_wp2
 go_loopw [9, 10, 11] (fun i j _ wr => ∃ x y : Nat, x ≤ p ∧ p ≤ y ∧ y ≤ n ∧ i = .int .i64 (x : Int) ∧ j = .int .i64 (y : Int) ∧ Below w.heap.size w wr) (fun i j _ _ => (intOf j).toNat - (intOf i).toNat)
 case atStart => exact ⟨0, n, Nat.zero_le _, hp.le, Nat.le_refl _, rfl, rfl, Below.refl _ _⟩
 case round =>
  obtain ⟨x, y, hx, hy, hyn, rfl, rfl, hB⟩ := hrel
  by_cases hlt : x < y
  · have hxy : (x : Int) < (y : Int) := by omega
    obtain ⟨m, hm⟩ : ∃ m, m = (x + y) / 2 := ⟨_, rfl⟩
    have hm1 : x ≤ m ∧ m < y := by omega
    obtain ⟨b, o, rfl, hbl, hc⟩ := (h.below hB) (by omega)
    have c0 := hc (m * 12) (by omega)
    have c1 := hc (m * 12 + 1) (by omega)
    have c2 := hc (m * 12 + 2) (by omega)
    have c3 := hc (m * 12 + 3) (by omega)
    have c4 := hc (m * 12 + 4) (by omega)
    have c5 := hc (m * 12 + 5) (by omega)
    have c6 := hc (m * 12 + 6) (by omega)
    have c7 := hc (m * 12 + 7) (by omega)
    have c8 := hc (m * 12 + 8) (by omega)
    have c9 := hc (m * 12 + 9) (by omega)
    have c10 := hc (m * 12 + 10) (by omega)
    have c11 := hc (m * 12 + 11) (by omega)
    simp only [← Nat.add_assoc] at c0 c1 c2 c3 c4 c5 c6 c7 c8 c9 c10 c11
    clear hc
    go_upto_region 4 with fail
    go_cut [11] (fun s wc => s = .int .i64 (m : Int) ∧ wr = wc)
    case first =>
     go_wp2
     go_meet
     exact ⟨congrArg (Value.int .i64) (by omega), rfl⟩
    case rest =>
    obtain ⟨rfl, rfl⟩ := hcut
    clear hm
    have hmn : (m : Int) < (n : Int) := by omega
    obtain ⟨z, hz⟩ : ∃ z, cmpI (U (m * 12)) id = z := ⟨_, rfl⟩
    by_cases hl : U (m * 12) < id
    · have hz0 : z < 0 := by rw [← hz]; exact cmpI_lt.2 hl
      have hmp : Shut (m < p) := (by
       rcases Nat.lt_or_ge m p with q | q
       · exact q
       · have h1 := hp.hi (by omega)
         rcases Nat.lt_or_eq_of_le q with q | q
         · have := ha p m q (by omega); omega
         · subst q; omega : m < p)
      have HZ : Shut (cmpI (U (m * 12)) id = z) := hz
      clear hz
      go_wp2_with (go_at_call 66; refine (place1_q (fun j => U (m * 12 + j)) id z _ (by exact HZ.out)).mono ?_; rintro e w1 ⟨rfl, hb1⟩)
      go_roundw
      case rel => exact ⟨m + 1, y, by have := hmp.out; omega, hy, hyn, by go_num, rfl, hB.trans (hb1.mono hB.size)⟩
      case measure => simp [intOf]; omega
    · have hz0 : ¬ z < 0 := by rw [← hz]; exact fun q => hl (cmpI_lt.1 q)
      have hmp : Shut (p ≤ m) := (by
       rcases Nat.lt_or_ge m p with q | q
       · exact absurd (hp.lo m q) hl
       · exact q : p ≤ m)
      have HZ : Shut (cmpI (U (m * 12)) id = z) := hz
      clear hz
      go_wp2_with (go_at_call 66; refine (place1_q (fun j => U (m * 12 + j)) id z _ (by exact HZ.out)).mono ?_; rintro e w1 ⟨rfl, hb1⟩)
      go_roundw
      case rel => exact ⟨x, m, hx, hmp.out, by omega, rfl, rfl, hB.trans (hb1.mono hB.size)⟩
      case measure => simp [intOf]; omega
  · obtain rfl : x = p := by omega
    have hxy : ¬ (x : Int) < (y : Int) := by omega
    by_cases hpn : x < n
    · have hpn' : (x : Int) < (n : Int) := by omega
      obtain ⟨b, o, rfl, hbl, hc⟩ := (h.below hB) (by omega)
      have c0 := hc (x * 12) (by omega)
      have c1 := hc (x * 12 + 1) (by omega)
      have c2 := hc (x * 12 + 2) (by omega)
      have c3 := hc (x * 12 + 3) (by omega)
      have c4 := hc (x * 12 + 4) (by omega)
      have c5 := hc (x * 12 + 5) (by omega)
      have c6 := hc (x * 12 + 6) (by omega)
      have c7 := hc (x * 12 + 7) (by omega)
      have c8 := hc (x * 12 + 8) (by omega)
      have c9 := hc (x * 12 + 9) (by omega)
      have c10 := hc (x * 12 + 10) (by omega)
      have c11 := hc (x * 12 + 11) (by omega)
      simp only [← Nat.add_assoc] at c0 c1 c2 c3 c4 c5 c6 c7 c8 c9 c10 c11
      clear hc
      obtain ⟨z, hz⟩ : ∃ z, cmpI (U (x * 12)) id = z := ⟨_, rfl⟩
      have hd : Shut (decide (z = 0) = decide (x < n ∧ U (x * 12) = id)) := (by rw [decide_eq_decide, ← hz, cmpI_eq]; exact ⟨fun q => ⟨hpn, q⟩, fun q => q.2⟩ : decide (z = 0) = decide (x < n ∧ U (x * 12) = id))
      have HZ : Shut (cmpI (U (x * 12)) id = z) := hz
      clear hz
      go_wp2_with (go_at_call 66; refine (place1_q (fun j => U (x * 12 + j)) id z _ (by exact HZ.out)).mono ?_; rintro e w1 ⟨rfl, hb1⟩)
      exact bodyPost_ret (v := .tuple #[.int .i64 (x : Int), .bool (z == 0)]) (by simp [results, Tryz.results65, go_sem, *]) rfl ⟨by rw [← hd.out]; exact tupB (by by_cases q : z = 0 <;> simp [q]), hB.trans (hb1.mono hB.size)⟩
    · have hpn' : ¬ (x : Int) < (n : Int) := by omega
      have hd : decide (x < n ∧ U (x * 12) = id) = false := decide_eq_false (fun q => hpn q.1)
      have HD : Shut (decide (x < n ∧ U (x * 12) = id) = false) := hd
      clear hd
      go_wp2
      exact bodyPost_ret (v := .tuple #[.int .i64 (x : Int), .bool false]) (by simp [results, Tryz.results65, go_sem, *]) rfl ⟨by first | rfl | rw [HD.out], hB⟩
theorem wplace_any (T P : Int) (a : Option Addr) (n c : Nat) (U : Nat → Int) (a' : Option Addr) (m c' : Nat) (id : Int) (p : Nat) (w : World) (h : Flat w a (n * 12) U) (hn : n ≤ 1048576) (ha : ascU U n) (hp : idP U n id p) (b : Bool) (eb : decide (p < n ∧ U (p * 12) = id) = b) :
 Calls Tryz.prog 33 #[worldW T P a n c a' m c', .int .i64 id] w fun e w' => e = .returned (.tuple #[.int .i64 (p : Int), .bool b]) ∧ Below w.heap.size w w' := by
 subst eb
 have hset := cset_map
 go_enter Tryz.func33, Tryz.ntmps33
 go_wp2_with (go_at_call 65; refine (bsf_any a n c U id p _ (h.below (bel_a)) hn ha hp).mono ?_; rintro e w1 ⟨rfl, hb1⟩)
 exact bodyPost_ret (v := .tuple #[.int .i64 (p : Int), .bool (decide (p < n ∧ U (p * 12) = id))]) (by simp [results, Tryz.results33, go_sem, *]) rfl ⟨rfl, bel_a⟩
theorem whas_q (T P : Int) (a : Option Addr) (n c : Nat) (U : Nat → Int) (a' : Option Addr) (m c' : Nat) (id : Int) (w : World) (h : Flat w a (n * 12) U) (hn : n ≤ 1048576) (ha : ascU U n) (b : Bool) (eb : hasF U n id = b) :
 Calls Tryz.prog 74 #[worldW T P a n c a' m c', .int .i64 id] w fun e w' => e = .returned (.bool b) ∧ Below w.heap.size w w' := by
 have hset := cset_map
 obtain ⟨p, hp⟩ := idP_ex U id n
 have eb' := (hasF_at ha hp).symm.trans eb
 go_enter Tryz.func74, Tryz.ntmps74
 go_wp2_with (go_at_call 33; refine (wplace_any T P a n c U a' m c' id p _ (h.below (bel_a)) hn ha hp b eb').mono ?_; rintro e w1 ⟨rfl, hb1⟩)
 go_ret
 exact ⟨rfl, bel_a⟩
theorem before_q (p q r s : Int) (w : World) (b : Bool) (eb : aheadB p q r s = b) :
 Calls Tryz.prog 75 #[.agg #[.int .i64 p, .int .i64 q], .agg #[.int .i64 r, .int .i64 s]] w fun e w' => e = .returned (.bool b) ∧ Below w.heap.size w w' := by
 subst eb
 have hset := cset_map
 unfold aheadB
 by_cases h1 : p < r
 · have e0 : decide (p < r ∨ p = r ∧ q < s) = true := decide_eq_true (.inl h1)
   rw [e0]
   go_enter Tryz.func75, Tryz.ntmps75
   go_wp2
   go_ret
   exact ⟨rfl, bel_a⟩
 · by_cases h2 : p = r
   · have h2' : (p == r) = true := by simp [h2]
     by_cases h3 : q < s
     · have e0 : decide (p < r ∨ p = r ∧ q < s) = true := decide_eq_true (.inr ⟨h2, h3⟩)
       rw [e0]
       subst h2
       go_enter Tryz.func75, Tryz.ntmps75
       go_wp2
       go_ret
       exact ⟨rfl, bel_a⟩
     · have e0 : decide (p < r ∨ p = r ∧ q < s) = false := decide_eq_false (by omega)
       rw [e0]
       subst h2
       go_enter Tryz.func75, Tryz.ntmps75
       go_wp2
       go_ret
       exact ⟨rfl, bel_a⟩
   · have e0 : decide (p < r ∨ p = r ∧ q < s) = false := decide_eq_false (by omega)
     have h2' : (p == r) = false := by simp [h2]
     rw [e0]
     go_enter Tryz.func75, Tryz.ntmps75
     go_wp2
     go_ret
     exact ⟨rfl, bel_a⟩
structure WdR (w : World) (T P : Int) (a : Option Addr) (n c : Nat) (a' : Option Addr) (m c' : Nat) (wr : World) : Prop where
 bel : Below w.heap.size w wr
 big : w.heap.size < wr.heap.size
 c0 : wr.cell? ⟨w.heap.size, 0, none⟩ = some (.int .i64 T)
 c1 : wr.cell? ⟨w.heap.size, 1, none⟩ = some (.int .i64 P)
 c2 : wr.cell? ⟨w.heap.size, 2, none⟩ = some (.slice a n c)
 c3 : wr.cell? ⟨w.heap.size, 3, none⟩ = some (.slice a' m c')
theorem WdR.on {w wr w' : World} {T P : Int} {a a' : Option Addr} {n c m c' : Nat} (h : WdR w T P a n c a' m c' wr) (hb : Below wr.heap.size wr w') : WdR w T P a n c a' m c' w' :=
 ⟨h.bel.trans (hb.mono (Nat.le_of_lt h.big)), Nat.lt_of_lt_of_le h.big hb.size, (hb.cell (p := ⟨w.heap.size, 0, none⟩) h.big).trans h.c0, (hb.cell (p := ⟨w.heap.size, 1, none⟩) h.big).trans h.c1, (hb.cell (p := ⟨w.heap.size, 2, none⟩) h.big).trans h.c2, (hb.cell (p := ⟨w.heap.size, 3, none⟩) h.big).trans h.c3⟩
theorem pairsOk_any (T P : Int) (a : Option Addr) (n c : Nat) (U : Nat → Int) (a' : Option Addr) (m c' : Nat) (Q : Nat → Int) (w : World) (h : Flat w a (n * 12) U) (h' : Flat w a' (m * 2) Q) (hn : n ≤ 1048576) (hm : m ≤ 1048576) (ha : ascU U n) (bb : Bool) (ebb : allPB U n Q m = bb) :
 Calls Tryz.prog 42 #[worldW T P a n c a' m c'] w fun e w' => e = .returned (.bool bb) ∧ Below w.heap.size w w' := by
 subst ebb
 have hset := cset_map
 go_enter Tryz.func42, Tryz.ntmps42
 go_wp2
 go_loopw [3, 4, 8] (fun _ _ i wr => ∃ k : Nat, k ≤ m ∧ i = .int .i64 (k : Int) ∧ WdR w T P a n c a' m c' wr ∧ allPB U n Q k = true) (fun _ _ i _ => m - (intOf i).toNat)
 case atStart => exact ⟨0, Nat.zero_le _, rfl, ⟨(Below.refl _ _).alloc (Nat.le_refl _) _, by simp, by go_simp, by go_simp, by go_simp, by go_simp⟩, rfl⟩
 case round =>
  obtain ⟨i, hi, rfl, hB, hall0⟩ := hrel
  have hall : Shut (allPB U n Q i = true) := hall0
  clear hall0
  have hbig := hB.big
  by_cases hlt : i < m
  · obtain ⟨b, o, rfl, hbl, hc⟩ := (h'.below hB.bel) (by omega)
    have hbl0 : b < w.heap.size := by obtain ⟨b', o', e, l, _⟩ := h' (by omega); simp only [Option.some.injEq, Addr.mk.injEq] at e; omega
    have x0 := hc (i * 2) (by omega)
    have x1 := hc (i * 2 + 1) (by omega)
    simp only [← Nat.add_assoc] at x0 x1
    go_upto_region 4 with fail
    have hE : Below wr.heap.size wr (wr.alloc (Obj.cells #[.int .i64 (Q (i * 2)), .int .i64 (Q (i * 2 + 1))] 58)) := (Below.refl _ _).alloc (Nat.le_refl _) _
    have hB2 := hB.on hE
    have y0 : (wr.alloc (Obj.cells #[.int .i64 (Q (i * 2)), .int .i64 (Q (i * 2 + 1))] 58)).cell? ⟨wr.heap.size, 0, none⟩ = some (.int .i64 (Q (i * 2))) := by go_simp
    have y1 : (wr.alloc (Obj.cells #[.int .i64 (Q (i * 2)), .int .i64 (Q (i * 2 + 1))] 58)).cell? ⟨wr.heap.size, 1, none⟩ = some (.int .i64 (Q (i * 2 + 1))) := by go_simp
    have yc : ∀ q, q < m * 2 → (wr.alloc (Obj.cells #[.int .i64 (Q (i * 2)), .int .i64 (Q (i * 2 + 1))] 58)).cell? ⟨b, o + q, none⟩ = some (.int .i64 (Q q)) := fun q hq => (hE.cell (p := ⟨b, o + q, none⟩) hbl).trans (hc q hq)
    have hz : (wr.alloc (Obj.cells #[.int .i64 (Q (i * 2)), .int .i64 (Q (i * 2 + 1))] 58)).heap.size = wr.heap.size + 1 := by simp
    generalize (wr.alloc (Obj.cells #[.int .i64 (Q (i * 2)), .int .i64 (Q (i * 2 + 1))] 58)) = wx at hE hB2 y0 y1 yc hz ⊢
    clear x0 x1 hc
    have z0 := hB2.c0
    have z1 := hB2.c1
    have z2 := hB2.c2
    have z3 := hB2.c3
    have hbel := hB2.bel
    by_cases hAB : Q (i * 2) < Q (i * 2 + 1)
    · have hd1 : decide (Q (i * 2 + 1) ≤ Q (i * 2)) = false := decide_eq_false (by omega)
      cases eA : hasF U n (Q (i * 2)) with
      | false =>
       have hno : Shut (stepPB U n Q i = false) := (by unfold stepPB; rw [eA]; simp : stepPB U n Q i = false)
       clear yc
       refine wp_region_held_drew (S := fun w' => w'.cell? ⟨w.heap.size, 0, none⟩ = some (.int .i64 T) ∧ w'.cell? ⟨w.heap.size, 1, none⟩ = some (.int .i64 P) ∧ w'.cell? ⟨w.heap.size, 2, none⟩ = some (.slice a n c) ∧ w'.cell? ⟨w.heap.size, 3, none⟩ = some (.slice (some ⟨b, o, none⟩) m c') ∧ w'.cell? ⟨wr.heap.size, 0, none⟩ = some (.int .i64 (Q (i * 2))) ∧ w'.cell? ⟨wr.heap.size, 1, none⟩ = some (.int .i64 (Q (i * 2 + 1)))) (by kernel_rfl) ?_ (fun hHeld => ?_)
       · (try dsimp only)
         (first | (go_simp; done) | (go_keep; done))
       refine tq 0 hHeld ?_
       refine tq 1 hHeld ?_
       refine tq 2 hHeld ?_
       refine tq 3 hHeld ?_
       refine tq 4 hHeld ?_
       refine tq 5 hHeld ?_
       refine tq 6 hHeld ?_
       refine tq 7 hHeld ?_
       refine tq 8 hHeld ?_
       (refine tc 9 fun K hK => ?_; go_simp; (go_at_call 74; refine (whas_q T P a n c U _ m c' _ _ (h.below (bel_a)) hn ha _ eA).mono ?_; rintro e w4 ⟨rfl, hb4⟩; obtain ⟨hc4, hf4⟩ := bcell hb4; have hz4 := hb4.size; (try simp only [zz] at hc4 hf4 hz4); have hk4x0 := fun o => hc4 (w.heap.size) o (by omega); have hj4x0 := fun o => hf4 (w.heap.size) o (by omega); have hq4x0 : w.heap.size < w4.heap.size := (by omega); have hk4x1 := fun o => hc4 (wr.heap.size) o (by omega); have hj4x1 := fun o => hf4 (wr.heap.size) o (by omega); have hq4x1 : wr.heap.size < w4.heap.size := (by omega); have hk4x2 := fun o => hc4 (b) o (by omega); have hj4x2 := fun o => hf4 (b) o (by omega); have hq4x2 : b < w4.heap.size := (by omega); clear hc4 hf4); (try go_wp2_with fail); refine tr hK (fun hHeld => ?_); clear hK K)
       refine tq 10 hHeld ?_
       refine tq 11 hHeld ?_
       refine tq 12 hHeld ?_
       refine tn 13 hHeld ?_
       refine tn 14 hHeld ?_
       refine tn 15 hHeld ?_
       refine tn 16 hHeld ?_
       refine tn 17 hHeld ?_
       refine tq 18 hHeld ?_
       refine tq 19 hHeld ?_
       refine tn 20 hHeld ?_
       refine tn 21 hHeld ?_
       refine tn 22 hHeld ?_
       refine tn 23 hHeld ?_
       refine tn 24 hHeld ?_
       refine tn 25 hHeld ?_
       refine tn 26 hHeld ?_
       refine tn 27 hHeld ?_
       refine tn 28 hHeld ?_
       refine tn 29 hHeld ?_
       refine tn 30 hHeld ?_
       refine tn 31 hHeld ?_
       refine tn 32 hHeld ?_
       refine tq 33 hHeld ?_
       refine wpAnyH_done (by kernel_rfl) ?_ _
       go_wp2_with fail
       go_ret
       exact ⟨by rw [allPB_no hno.out m hlt]; rfl, hB2.bel.trans ((hb4.ofDr).mono hB2.bel.size)⟩
      | true =>
       cases eB : hasF U n (Q (i * 2 + 1)) with
       | false =>
        have hno : Shut (stepPB U n Q i = false) := (by unfold stepPB; rw [eB]; simp : stepPB U n Q i = false)
        clear yc
        refine wp_region_held_drew (S := fun w' => w'.cell? ⟨w.heap.size, 0, none⟩ = some (.int .i64 T) ∧ w'.cell? ⟨w.heap.size, 1, none⟩ = some (.int .i64 P) ∧ w'.cell? ⟨w.heap.size, 2, none⟩ = some (.slice a n c) ∧ w'.cell? ⟨w.heap.size, 3, none⟩ = some (.slice (some ⟨b, o, none⟩) m c') ∧ w'.cell? ⟨wr.heap.size, 0, none⟩ = some (.int .i64 (Q (i * 2))) ∧ w'.cell? ⟨wr.heap.size, 1, none⟩ = some (.int .i64 (Q (i * 2 + 1)))) (by kernel_rfl) ?_ (fun hHeld => ?_)
        · (try dsimp only)
          (first | (go_simp; done) | (go_keep; done))
        refine tq 0 hHeld ?_
        refine tq 1 hHeld ?_
        refine tq 2 hHeld ?_
        refine tq 3 hHeld ?_
        refine tq 4 hHeld ?_
        refine tq 5 hHeld ?_
        refine tq 6 hHeld ?_
        refine tq 7 hHeld ?_
        refine tq 8 hHeld ?_
        (refine tc 9 fun K hK => ?_; go_simp; (go_at_call 74; refine (whas_q T P a n c U _ m c' _ _ (h.below (bel_a)) hn ha _ eA).mono ?_; rintro e w4 ⟨rfl, hb4⟩; obtain ⟨hc4, hf4⟩ := bcell hb4; have hz4 := hb4.size; (try simp only [zz] at hc4 hf4 hz4); have hk4x0 := fun o => hc4 (w.heap.size) o (by omega); have hj4x0 := fun o => hf4 (w.heap.size) o (by omega); have hq4x0 : w.heap.size < w4.heap.size := (by omega); have hk4x1 := fun o => hc4 (wr.heap.size) o (by omega); have hj4x1 := fun o => hf4 (wr.heap.size) o (by omega); have hq4x1 : wr.heap.size < w4.heap.size := (by omega); have hk4x2 := fun o => hc4 (b) o (by omega); have hj4x2 := fun o => hf4 (b) o (by omega); have hq4x2 : b < w4.heap.size := (by omega); clear hc4 hf4); (try go_wp2_with fail); refine tr hK (fun hHeld => ?_); clear hK K)
        refine tq 10 hHeld ?_
        refine tq 11 hHeld ?_
        refine tq 12 hHeld ?_
        refine tq 13 hHeld ?_
        refine tq 14 hHeld ?_
        refine tq 15 hHeld ?_
        (refine tc 16 fun K hK => ?_; go_simp; (go_at_call 74; refine (whas_q T P a n c U _ m c' _ _ (h.below (bel_a)) hn ha _ eB).mono ?_; rintro e w5 ⟨rfl, hb5⟩; obtain ⟨hc5, hf5⟩ := bcell hb5; have hz5 := hb5.size; (try simp only [zz] at hc5 hf5 hz5); have hk5x0 := fun o => hc5 (w.heap.size) o (by omega); have hj5x0 := fun o => hf5 (w.heap.size) o (by omega); have hq5x0 : w.heap.size < w5.heap.size := (by omega); have hk5x1 := fun o => hc5 (wr.heap.size) o (by omega); have hj5x1 := fun o => hf5 (wr.heap.size) o (by omega); have hq5x1 : wr.heap.size < w5.heap.size := (by omega); have hk5x2 := fun o => hc5 (b) o (by omega); have hj5x2 := fun o => hf5 (b) o (by omega); have hq5x2 : b < w5.heap.size := (by omega); clear hc5 hf5); (try go_wp2_with fail); refine tr hK (fun hHeld => ?_); clear hK K)
        refine tq 17 hHeld ?_
        refine tq 18 hHeld ?_
        refine tq 19 hHeld ?_
        refine tn 20 hHeld ?_
        refine tn 21 hHeld ?_
        refine tn 22 hHeld ?_
        refine tn 23 hHeld ?_
        refine tn 24 hHeld ?_
        refine tn 25 hHeld ?_
        refine tn 26 hHeld ?_
        refine tn 27 hHeld ?_
        refine tn 28 hHeld ?_
        refine tn 29 hHeld ?_
        refine tn 30 hHeld ?_
        refine tn 31 hHeld ?_
        refine tn 32 hHeld ?_
        refine tq 33 hHeld ?_
        refine wpAnyH_done (by kernel_rfl) ?_ _
        go_wp2_with fail
        go_ret
        exact ⟨by rw [allPB_no hno.out m hlt]; rfl, hB2.bel.trans (((hb4.ofDr).trans (hb5.mono (hb4.ofDr).size)).mono hB2.bel.size)⟩
       | true =>
        by_cases hk0 : 0 < i
        · have hd0 : decide (0 < i) = true := decide_eq_true hk0
          obtain ⟨j, hj⟩ : ∃ j, j + 1 = i := ⟨i - 1, by omega⟩
          have hj' : (i : Int) - 1 = (j : Int) := by omega
          have hjn : j < m := by omega
          have hwj : IntKind.i64.wrap (j : Int) = (j : Int) := i64w (by omega)
          have p0 := yc (j * 2) (by omega)
          have p1 := yc (j * 2 + 1) (by omega)
          simp only [← Nat.add_assoc] at p0 p1
          clear yc
          have HJ : Shut (j + 1 = i) := hj
          clear hj
          cases eC : aheadB (Q (j * 2)) (Q (j * 2 + 1)) (Q (i * 2)) (Q (i * 2 + 1)) with
          | false =>
           have hno : Shut (stepPB U n Q i = false) := (by unfold stepPB; rw [show i - 1 = j from by have := HJ.out; omega, eC, decide_eq_false (by omega : ¬ i = 0)]; simp : stepPB U n Q i = false)
           refine wp_region_held_drew (S := fun w' => w'.cell? ⟨w.heap.size, 0, none⟩ = some (.int .i64 T) ∧ w'.cell? ⟨w.heap.size, 1, none⟩ = some (.int .i64 P) ∧ w'.cell? ⟨w.heap.size, 2, none⟩ = some (.slice a n c) ∧ w'.cell? ⟨w.heap.size, 3, none⟩ = some (.slice (some ⟨b, o, none⟩) m c') ∧ w'.cell? ⟨wr.heap.size, 0, none⟩ = some (.int .i64 (Q (i * 2))) ∧ w'.cell? ⟨wr.heap.size, 1, none⟩ = some (.int .i64 (Q (i * 2 + 1))) ∧ w'.cell? ⟨b, o + j * 2, none⟩ = some (.int .i64 (Q (j * 2))) ∧ w'.cell? ⟨b, o + j * 2 + 1, none⟩ = some (.int .i64 (Q (j * 2 + 1)))) (by kernel_rfl) ?_ (fun hHeld => ?_)
           · (try dsimp only)
             (first | (go_simp; done) | (go_keep; done))
           refine tq 0 hHeld ?_
           refine tq 1 hHeld ?_
           refine tq 2 hHeld ?_
           refine tq 3 hHeld ?_
           refine tq 4 hHeld ?_
           refine tq 5 hHeld ?_
           refine tq 6 hHeld ?_
           refine tq 7 hHeld ?_
           refine tq 8 hHeld ?_
           (refine tc 9 fun K hK => ?_; go_simp; (go_at_call 74; refine (whas_q T P a n c U _ m c' _ _ (h.below (bel_a)) hn ha _ eA).mono ?_; rintro e w4 ⟨rfl, hb4⟩; obtain ⟨hc4, hf4⟩ := bcell hb4; have hz4 := hb4.size; (try simp only [zz] at hc4 hf4 hz4); have hk4x0 := fun o => hc4 (w.heap.size) o (by omega); have hj4x0 := fun o => hf4 (w.heap.size) o (by omega); have hq4x0 : w.heap.size < w4.heap.size := (by omega); have hk4x1 := fun o => hc4 (wr.heap.size) o (by omega); have hj4x1 := fun o => hf4 (wr.heap.size) o (by omega); have hq4x1 : wr.heap.size < w4.heap.size := (by omega); have hk4x2 := fun o => hc4 (b) o (by omega); have hj4x2 := fun o => hf4 (b) o (by omega); have hq4x2 : b < w4.heap.size := (by omega); clear hc4 hf4); (try go_wp2_with fail); refine tr hK (fun hHeld => ?_); clear hK K)
           refine tq 10 hHeld ?_
           refine tq 11 hHeld ?_
           refine tq 12 hHeld ?_
           refine tq 13 hHeld ?_
           refine tq 14 hHeld ?_
           refine tq 15 hHeld ?_
           (refine tc 16 fun K hK => ?_; go_simp; (go_at_call 74; refine (whas_q T P a n c U _ m c' _ _ (h.below (bel_a)) hn ha _ eB).mono ?_; rintro e w5 ⟨rfl, hb5⟩; obtain ⟨hc5, hf5⟩ := bcell hb5; have hz5 := hb5.size; (try simp only [zz] at hc5 hf5 hz5); have hk5x0 := fun o => hc5 (w.heap.size) o (by omega); have hj5x0 := fun o => hf5 (w.heap.size) o (by omega); have hq5x0 : w.heap.size < w5.heap.size := (by omega); have hk5x1 := fun o => hc5 (wr.heap.size) o (by omega); have hj5x1 := fun o => hf5 (wr.heap.size) o (by omega); have hq5x1 : wr.heap.size < w5.heap.size := (by omega); have hk5x2 := fun o => hc5 (b) o (by omega); have hj5x2 := fun o => hf5 (b) o (by omega); have hq5x2 : b < w5.heap.size := (by omega); clear hc5 hf5); (try go_wp2_with fail); refine tr hK (fun hHeld => ?_); clear hK K)
           refine tq 17 hHeld ?_
           refine tq 18 hHeld ?_
           refine tq 19 hHeld ?_
           refine tq 20 hHeld ?_
           refine tq 21 hHeld ?_
           refine tq 22 hHeld ?_
           refine tq 23 hHeld ?_
           refine tq 24 hHeld ?_
           refine tq 25 hHeld ?_
           refine tq 26 hHeld ?_
           refine tq 27 hHeld ?_
           refine tq 28 hHeld ?_
           refine tq 29 hHeld ?_
           (refine tc 30 fun K hK => ?_; go_simp; (go_at_call 75; refine (before_q _ _ _ _ _ _ eC).mono ?_; rintro e w6 ⟨rfl, hb6⟩; obtain ⟨hc6, hf6⟩ := bcell hb6; have hz6 := hb6.size; (try simp only [zz] at hc6 hf6 hz6); have hk6x0 := fun o => hc6 (w.heap.size) o (by omega); have hj6x0 := fun o => hf6 (w.heap.size) o (by omega); have hq6x0 : w.heap.size < w6.heap.size := (by omega); have hk6x1 := fun o => hc6 (wr.heap.size) o (by omega); have hj6x1 := fun o => hf6 (wr.heap.size) o (by omega); have hq6x1 : wr.heap.size < w6.heap.size := (by omega); have hk6x2 := fun o => hc6 (b) o (by omega); have hj6x2 := fun o => hf6 (b) o (by omega); have hq6x2 : b < w6.heap.size := (by omega); clear hc6 hf6); (try go_wp2_with fail); refine tr hK (fun hHeld => ?_); clear hK K)
           refine tq 31 hHeld ?_
           refine tq 32 hHeld ?_
           refine tq 33 hHeld ?_
           refine wpAnyH_done (by kernel_rfl) ?_ _
           go_wp2_with fail
           go_ret
           exact ⟨by rw [allPB_no hno.out m hlt]; rfl, hB2.bel.trans ((((hb4.ofDr).trans (hb5.mono (hb4.ofDr).size)).trans (hb6.mono ((hb4.ofDr).trans (hb5.mono (hb4.ofDr).size)).size)).mono hB2.bel.size)⟩
          | true =>
           have hyes : Shut (stepPB U n Q i = true) := (by unfold stepPB; rw [show i - 1 = j from by have := HJ.out; omega, eC, eA, eB, decide_eq_true hAB]; simp : stepPB U n Q i = true)
           refine wp_region_held_drew (S := fun w' => w'.cell? ⟨w.heap.size, 0, none⟩ = some (.int .i64 T) ∧ w'.cell? ⟨w.heap.size, 1, none⟩ = some (.int .i64 P) ∧ w'.cell? ⟨w.heap.size, 2, none⟩ = some (.slice a n c) ∧ w'.cell? ⟨w.heap.size, 3, none⟩ = some (.slice (some ⟨b, o, none⟩) m c') ∧ w'.cell? ⟨wr.heap.size, 0, none⟩ = some (.int .i64 (Q (i * 2))) ∧ w'.cell? ⟨wr.heap.size, 1, none⟩ = some (.int .i64 (Q (i * 2 + 1))) ∧ w'.cell? ⟨b, o + j * 2, none⟩ = some (.int .i64 (Q (j * 2))) ∧ w'.cell? ⟨b, o + j * 2 + 1, none⟩ = some (.int .i64 (Q (j * 2 + 1)))) (by kernel_rfl) ?_ (fun hHeld => ?_)
           · (try dsimp only)
             (first | (go_simp; done) | (go_keep; done))
           refine tq 0 hHeld ?_
           refine tq 1 hHeld ?_
           refine tq 2 hHeld ?_
           refine tq 3 hHeld ?_
           refine tq 4 hHeld ?_
           refine tq 5 hHeld ?_
           refine tq 6 hHeld ?_
           refine tq 7 hHeld ?_
           refine tq 8 hHeld ?_
           (refine tc 9 fun K hK => ?_; go_simp; (go_at_call 74; refine (whas_q T P a n c U _ m c' _ _ (h.below (bel_a)) hn ha _ eA).mono ?_; rintro e w4 ⟨rfl, hb4⟩; obtain ⟨hc4, hf4⟩ := bcell hb4; have hz4 := hb4.size; (try simp only [zz] at hc4 hf4 hz4); have hk4x0 := fun o => hc4 (w.heap.size) o (by omega); have hj4x0 := fun o => hf4 (w.heap.size) o (by omega); have hq4x0 : w.heap.size < w4.heap.size := (by omega); have hk4x1 := fun o => hc4 (wr.heap.size) o (by omega); have hj4x1 := fun o => hf4 (wr.heap.size) o (by omega); have hq4x1 : wr.heap.size < w4.heap.size := (by omega); have hk4x2 := fun o => hc4 (b) o (by omega); have hj4x2 := fun o => hf4 (b) o (by omega); have hq4x2 : b < w4.heap.size := (by omega); clear hc4 hf4); (try go_wp2_with fail); refine tr hK (fun hHeld => ?_); clear hK K)
           refine tq 10 hHeld ?_
           refine tq 11 hHeld ?_
           refine tq 12 hHeld ?_
           refine tq 13 hHeld ?_
           refine tq 14 hHeld ?_
           refine tq 15 hHeld ?_
           (refine tc 16 fun K hK => ?_; go_simp; (go_at_call 74; refine (whas_q T P a n c U _ m c' _ _ (h.below (bel_a)) hn ha _ eB).mono ?_; rintro e w5 ⟨rfl, hb5⟩; obtain ⟨hc5, hf5⟩ := bcell hb5; have hz5 := hb5.size; (try simp only [zz] at hc5 hf5 hz5); have hk5x0 := fun o => hc5 (w.heap.size) o (by omega); have hj5x0 := fun o => hf5 (w.heap.size) o (by omega); have hq5x0 : w.heap.size < w5.heap.size := (by omega); have hk5x1 := fun o => hc5 (wr.heap.size) o (by omega); have hj5x1 := fun o => hf5 (wr.heap.size) o (by omega); have hq5x1 : wr.heap.size < w5.heap.size := (by omega); have hk5x2 := fun o => hc5 (b) o (by omega); have hj5x2 := fun o => hf5 (b) o (by omega); have hq5x2 : b < w5.heap.size := (by omega); clear hc5 hf5); (try go_wp2_with fail); refine tr hK (fun hHeld => ?_); clear hK K)
           refine tq 17 hHeld ?_
           refine tq 18 hHeld ?_
           refine tq 19 hHeld ?_
           refine tq 20 hHeld ?_
           refine tq 21 hHeld ?_
           refine tq 22 hHeld ?_
           refine tq 23 hHeld ?_
           refine tq 24 hHeld ?_
           refine tq 25 hHeld ?_
           refine tq 26 hHeld ?_
           refine tq 27 hHeld ?_
           refine tq 28 hHeld ?_
           refine tq 29 hHeld ?_
           (refine tc 30 fun K hK => ?_; go_simp; (go_at_call 75; refine (before_q _ _ _ _ _ _ eC).mono ?_; rintro e w6 ⟨rfl, hb6⟩; obtain ⟨hc6, hf6⟩ := bcell hb6; have hz6 := hb6.size; (try simp only [zz] at hc6 hf6 hz6); have hk6x0 := fun o => hc6 (w.heap.size) o (by omega); have hj6x0 := fun o => hf6 (w.heap.size) o (by omega); have hq6x0 : w.heap.size < w6.heap.size := (by omega); have hk6x1 := fun o => hc6 (wr.heap.size) o (by omega); have hj6x1 := fun o => hf6 (wr.heap.size) o (by omega); have hq6x1 : wr.heap.size < w6.heap.size := (by omega); have hk6x2 := fun o => hc6 (b) o (by omega); have hj6x2 := fun o => hf6 (b) o (by omega); have hq6x2 : b < w6.heap.size := (by omega); clear hc6 hf6); (try go_wp2_with fail); refine tr hK (fun hHeld => ?_); clear hK K)
           refine tq 31 hHeld ?_
           refine tq 32 hHeld ?_
           refine tq 33 hHeld ?_
           refine wpAnyH_done (by kernel_rfl) ?_ _
           go_wp2_with fail
           go_roundw
           case rel => exact ⟨i + 1, by omega, by go_num, hB2.on (((hb4.ofDr).trans (hb5.mono (hb4.ofDr).size)).trans (hb6.mono ((hb4.ofDr).trans (hb5.mono (hb4.ofDr).size)).size)), by rw [allPB, hall.out, hyes.out]; rfl⟩
           case measure => simp [intOf]; omega
        · have hd0 : decide (0 < i) = false := decide_eq_false hk0
          have HK : Shut (i = 0) := (by omega : i = 0)
          clear hk0 yc
          have hyes : Shut (stepPB U n Q i = true) := (by unfold stepPB; rw [eA, eB, decide_eq_true hAB, decide_eq_true HK.out]; rfl : stepPB U n Q i = true)
          refine wp_region_held_drew (S := fun w' => w'.cell? ⟨w.heap.size, 0, none⟩ = some (.int .i64 T) ∧ w'.cell? ⟨w.heap.size, 1, none⟩ = some (.int .i64 P) ∧ w'.cell? ⟨w.heap.size, 2, none⟩ = some (.slice a n c) ∧ w'.cell? ⟨w.heap.size, 3, none⟩ = some (.slice (some ⟨b, o, none⟩) m c') ∧ w'.cell? ⟨wr.heap.size, 0, none⟩ = some (.int .i64 (Q (i * 2))) ∧ w'.cell? ⟨wr.heap.size, 1, none⟩ = some (.int .i64 (Q (i * 2 + 1)))) (by kernel_rfl) ?_ (fun hHeld => ?_)
          · (try dsimp only)
            (first | (go_simp; done) | (go_keep; done))
          refine tq 0 hHeld ?_
          refine tq 1 hHeld ?_
          refine tq 2 hHeld ?_
          refine tq 3 hHeld ?_
          refine tq 4 hHeld ?_
          refine tq 5 hHeld ?_
          refine tq 6 hHeld ?_
          refine tq 7 hHeld ?_
          refine tq 8 hHeld ?_
          (refine tc 9 fun K hK => ?_; go_simp; (go_at_call 74; refine (whas_q T P a n c U _ m c' _ _ (h.below (bel_a)) hn ha _ eA).mono ?_; rintro e w4 ⟨rfl, hb4⟩; obtain ⟨hc4, hf4⟩ := bcell hb4; have hz4 := hb4.size; (try simp only [zz] at hc4 hf4 hz4); have hk4x0 := fun o => hc4 (w.heap.size) o (by omega); have hj4x0 := fun o => hf4 (w.heap.size) o (by omega); have hq4x0 : w.heap.size < w4.heap.size := (by omega); have hk4x1 := fun o => hc4 (wr.heap.size) o (by omega); have hj4x1 := fun o => hf4 (wr.heap.size) o (by omega); have hq4x1 : wr.heap.size < w4.heap.size := (by omega); have hk4x2 := fun o => hc4 (b) o (by omega); have hj4x2 := fun o => hf4 (b) o (by omega); have hq4x2 : b < w4.heap.size := (by omega); clear hc4 hf4); (try go_wp2_with fail); refine tr hK (fun hHeld => ?_); clear hK K)
          refine tq 10 hHeld ?_
          refine tq 11 hHeld ?_
          refine tq 12 hHeld ?_
          refine tq 13 hHeld ?_
          refine tq 14 hHeld ?_
          refine tq 15 hHeld ?_
          (refine tc 16 fun K hK => ?_; go_simp; (go_at_call 74; refine (whas_q T P a n c U _ m c' _ _ (h.below (bel_a)) hn ha _ eB).mono ?_; rintro e w5 ⟨rfl, hb5⟩; obtain ⟨hc5, hf5⟩ := bcell hb5; have hz5 := hb5.size; (try simp only [zz] at hc5 hf5 hz5); have hk5x0 := fun o => hc5 (w.heap.size) o (by omega); have hj5x0 := fun o => hf5 (w.heap.size) o (by omega); have hq5x0 : w.heap.size < w5.heap.size := (by omega); have hk5x1 := fun o => hc5 (wr.heap.size) o (by omega); have hj5x1 := fun o => hf5 (wr.heap.size) o (by omega); have hq5x1 : wr.heap.size < w5.heap.size := (by omega); have hk5x2 := fun o => hc5 (b) o (by omega); have hj5x2 := fun o => hf5 (b) o (by omega); have hq5x2 : b < w5.heap.size := (by omega); clear hc5 hf5); (try go_wp2_with fail); refine tr hK (fun hHeld => ?_); clear hK K)
          refine tq 17 hHeld ?_
          refine tq 18 hHeld ?_
          refine tq 19 hHeld ?_
          refine tq 20 hHeld ?_
          refine tq 21 hHeld ?_
          refine tq 22 hHeld ?_
          refine tn 23 hHeld ?_
          refine tn 24 hHeld ?_
          refine tn 25 hHeld ?_
          refine tn 26 hHeld ?_
          refine tn 27 hHeld ?_
          refine tn 28 hHeld ?_
          refine tn 29 hHeld ?_
          refine tn 30 hHeld ?_
          refine tn 31 hHeld ?_
          refine tq 32 hHeld ?_
          refine tq 33 hHeld ?_
          refine wpAnyH_done (by kernel_rfl) ?_ _
          go_wp2_with fail
          go_roundw
          case rel => exact ⟨i + 1, by omega, by go_num, hB2.on ((hb4.ofDr).trans (hb5.mono (hb4.ofDr).size)), by rw [allPB, hall.out, hyes.out]; rfl⟩
          case measure => simp [intOf]; omega
    · have hd1 : decide (Q (i * 2 + 1) ≤ Q (i * 2)) = true := decide_eq_true (by omega)
      have hno : Shut (stepPB U n Q i = false) := (by unfold stepPB; rw [decide_eq_false hAB]; rfl : stepPB U n Q i = false)
      clear yc
      refine wp_region_held_drew (S := fun w' => w'.cell? ⟨w.heap.size, 0, none⟩ = some (.int .i64 T) ∧ w'.cell? ⟨w.heap.size, 1, none⟩ = some (.int .i64 P) ∧ w'.cell? ⟨w.heap.size, 2, none⟩ = some (.slice a n c) ∧ w'.cell? ⟨w.heap.size, 3, none⟩ = some (.slice (some ⟨b, o, none⟩) m c') ∧ w'.cell? ⟨wr.heap.size, 0, none⟩ = some (.int .i64 (Q (i * 2))) ∧ w'.cell? ⟨wr.heap.size, 1, none⟩ = some (.int .i64 (Q (i * 2 + 1)))) (by kernel_rfl) ?_ (fun hHeld => ?_)
      · (try dsimp only)
        (first | (go_simp; done) | (go_keep; done))
      refine tq 0 hHeld ?_
      refine tq 1 hHeld ?_
      refine tq 2 hHeld ?_
      refine tq 3 hHeld ?_
      refine tq 4 hHeld ?_
      refine tq 5 hHeld ?_
      refine tn 6 hHeld ?_
      refine tn 7 hHeld ?_
      refine tn 8 hHeld ?_
      refine tn 9 hHeld ?_
      refine tn 10 hHeld ?_
      refine tq 11 hHeld ?_
      refine tq 12 hHeld ?_
      refine tn 13 hHeld ?_
      refine tn 14 hHeld ?_
      refine tn 15 hHeld ?_
      refine tn 16 hHeld ?_
      refine tn 17 hHeld ?_
      refine tq 18 hHeld ?_
      refine tq 19 hHeld ?_
      refine tn 20 hHeld ?_
      refine tn 21 hHeld ?_
      refine tn 22 hHeld ?_
      refine tn 23 hHeld ?_
      refine tn 24 hHeld ?_
      refine tn 25 hHeld ?_
      refine tn 26 hHeld ?_
      refine tn 27 hHeld ?_
      refine tn 28 hHeld ?_
      refine tn 29 hHeld ?_
      refine tn 30 hHeld ?_
      refine tn 31 hHeld ?_
      refine tn 32 hHeld ?_
      refine tq 33 hHeld ?_
      refine wpAnyH_done (by kernel_rfl) ?_ _
      go_wp2_with fail
      go_ret
      exact ⟨by rw [allPB_no hno.out m hlt]; rfl, hB2.bel.trans ((Below.drew (Below.refl _ _)).mono hB2.bel.size)⟩
  · obtain rfl : i = m := by omega
    go_wp2
    go_ret
    exact ⟨by rw [hall.out]; rfl, hB.bel⟩
theorem worldOk_q (T P : Int) (a : Option Addr) (n c : Nat) (U : Nat → Int) (a' : Option Addr) (m c' : Nat) (Q : Nat → Int) (w : World) (h : Flat w a (n * 12) U) (h' : Flat w a' (m * 2) Q) (hn : n ≤ 1048576) (hm : m ≤ 1048576) (bb : Bool) (ebb : worldB T P n U m Q = bb) :
 Calls Tryz.prog 14 #[worldW T P a n c a' m c'] w fun e w' => e = .returned (.bool bb) ∧ Below w.heap.size w w' := by
 subst ebb
 have hset := cset_map
 unfold worldB
 cases k1 : decide (0 ≤ T ∧ T ≤ 100000) with
 | false =>
  go_enter Tryz.func14, Tryz.ntmps14
  go_wp2_with (go_at_call 40; refine (upTo_q _ _ _ _ k1).mono ?_; rintro e w1 ⟨rfl, hb1⟩; obtain ⟨hc1, hf1⟩ := bcell hb1; have hz1 := hb1.size; (try simp only [zz] at hc1 hf1 hz1); have hk1x0 := fun o => hc1 (w.heap.size) o (by omega); have hj1x0 := fun o => hf1 (w.heap.size) o (by omega); have hq1x0 : w.heap.size < w1.heap.size := (by omega); clear hc1 hf1)
  go_ret
  exact ⟨rfl, bel_a⟩
 | true =>
  cases k2 : decide (0 ≤ P ∧ P ≤ 2560) with
  | false =>
   go_enter Tryz.func14, Tryz.ntmps14
   go_wp2_with (first
    | (have _ := hz1; (go_at_call 40; refine (upTo_q _ _ _ _ k2).mono ?_; rintro e w2 ⟨rfl, hb2⟩; obtain ⟨hc2, hf2⟩ := bcell hb2; have hz2 := hb2.size; (try simp only [zz] at hc2 hf2 hz2); have hk2x0 := fun o => hc2 (w.heap.size) o (by omega); have hj2x0 := fun o => hf2 (w.heap.size) o (by omega); have hq2x0 : w.heap.size < w2.heap.size := (by omega); clear hc2 hf2))
    | (go_at_call 40; refine (upTo_q _ _ _ _ k1).mono ?_; rintro e w1 ⟨rfl, hb1⟩; obtain ⟨hc1, hf1⟩ := bcell hb1; have hz1 := hb1.size; (try simp only [zz] at hc1 hf1 hz1); have hk1x0 := fun o => hc1 (w.heap.size) o (by omega); have hj1x0 := fun o => hf1 (w.heap.size) o (by omega); have hq1x0 : w.heap.size < w1.heap.size := (by omega); clear hc1 hf1))
   go_ret
   exact ⟨rfl, bel_a⟩
  | true =>
   cases k3 : bodsB n U with
   | false =>
    go_enter Tryz.func14, Tryz.ntmps14
    go_wp2_with (first
     | (have _ := hz1; (go_at_call 40; refine (upTo_q _ _ _ _ k2).mono ?_; rintro e w2 ⟨rfl, hb2⟩; obtain ⟨hc2, hf2⟩ := bcell hb2; have hz2 := hb2.size; (try simp only [zz] at hc2 hf2 hz2); have hk2x0 := fun o => hc2 (w.heap.size) o (by omega); have hj2x0 := fun o => hf2 (w.heap.size) o (by omega); have hq2x0 : w.heap.size < w2.heap.size := (by omega); clear hc2 hf2))
     | (go_at_call 40; refine (upTo_q _ _ _ _ k1).mono ?_; rintro e w1 ⟨rfl, hb1⟩; obtain ⟨hc1, hf1⟩ := bcell hb1; have hz1 := hb1.size; (try simp only [zz] at hc1 hf1 hz1); have hk1x0 := fun o => hc1 (w.heap.size) o (by omega); have hj1x0 := fun o => hf1 (w.heap.size) o (by omega); have hq1x0 : w.heap.size < w1.heap.size := (by omega); clear hc1 hf1)
     | (go_at_call 41; refine (bodiesOk_q a n c U _ _ (h.below (bel_a)) hn k3).mono ?_; rintro e w3 ⟨rfl, hb3⟩; obtain ⟨hc3, hf3⟩ := bcell hb3; have hz3 := hb3.size; (try simp only [zz] at hc3 hf3 hz3); have hk3x0 := fun o => hc3 (w.heap.size) o (by omega); have hj3x0 := fun o => hf3 (w.heap.size) o (by omega); have hq3x0 : w.heap.size < w3.heap.size := (by omega); clear hc3 hf3))
    go_ret
    exact ⟨rfl, bel_a⟩
   | true =>
    simp only [Bool.true_and]
    generalize k4 : allPB U n Q m = r
    go_enter Tryz.func14, Tryz.ntmps14
    go_wp2_with (first
     | (have _ := hz1; (go_at_call 40; refine (upTo_q _ _ _ _ k2).mono ?_; rintro e w2 ⟨rfl, hb2⟩; obtain ⟨hc2, hf2⟩ := bcell hb2; have hz2 := hb2.size; (try simp only [zz] at hc2 hf2 hz2); have hk2x0 := fun o => hc2 (w.heap.size) o (by omega); have hj2x0 := fun o => hf2 (w.heap.size) o (by omega); have hq2x0 : w.heap.size < w2.heap.size := (by omega); clear hc2 hf2))
     | (go_at_call 40; refine (upTo_q _ _ _ _ k1).mono ?_; rintro e w1 ⟨rfl, hb1⟩; obtain ⟨hc1, hf1⟩ := bcell hb1; have hz1 := hb1.size; (try simp only [zz] at hc1 hf1 hz1); have hk1x0 := fun o => hc1 (w.heap.size) o (by omega); have hj1x0 := fun o => hf1 (w.heap.size) o (by omega); have hq1x0 : w.heap.size < w1.heap.size := (by omega); clear hc1 hf1)
     | (go_at_call 41; refine (bodiesOk_q a n c U _ _ (h.below (bel_a)) hn k3).mono ?_; rintro e w3 ⟨rfl, hb3⟩; obtain ⟨hc3, hf3⟩ := bcell hb3; have hz3 := hb3.size; (try simp only [zz] at hc3 hf3 hz3); have hk3x0 := fun o => hc3 (w.heap.size) o (by omega); have hj3x0 := fun o => hf3 (w.heap.size) o (by omega); have hq3x0 : w.heap.size < w3.heap.size := (by omega); clear hc3 hf3)
     | (go_at_call 42; refine (pairsOk_any T P a n c U a' m c' Q _ (h.below (bel_a)) (h'.below (bel_a)) hn hm (bodsB_asc k3) _ k4).mono ?_; rintro e w4 ⟨rfl, hb4⟩; obtain ⟨hc4, hf4⟩ := bcell hb4; have hz4 := hb4.size; (try simp only [zz] at hc4 hf4 hz4); have hk4x0 := fun o => hc4 (w.heap.size) o (by omega); have hj4x0 := fun o => hf4 (w.heap.size) o (by omega); have hq4x0 : w.heap.size < w4.heap.size := (by omega); clear hc4 hf4))
    go_ret
    exact ⟨rfl, bel_a⟩
end Go.Proofs.YthijeiehcdoidaaGreat
