/- The comparison by which the tree sorts: it reads, and lays new blocks alone. -/
import Derived.Test.YtcbgcochpflblaaBrRo
import Derived.Test.YtcbgcochpflblaaBrOk
import Derived.Test.YtcbgcochpflblaaB16
import Derived.Test.YtcbgcochpflblaaB5
import Derived.Deep.RegionHeld3
import Derived.Deep.DeepCutAuto
namespace Go.Proofs.Ytcbgcochpflblaa
open Go.RowKit
set_option linter.unusedVariables false
set_option linter.unusedSimpArgs false
theorem isNaN_any (a : Int) (w : World) : Calls Try.prog 65 #[.int .i64 a] w fun e w' => e = .returned (.bool false) ∧ w' = w := by
  go_enter Try.func65, Try.ntmps65
  go_wp2
  go_ret
  exact ⟨ret_bool (by simp), rfl⟩
theorem compare_any (a b : Int) (w : World) : Calls Try.prog 57 #[.int .i64 a, .int .i64 b] w fun e w' => (∃ r : Int, e = .returned (.int .i64 r)) ∧ Below w.heap.size w w' := by
  by_cases h1 : a < b
  · go_enter Try.func57, Try.ntmps57
    go_wp2_with (go_at_call 65; refine (isNaN_any _ _).mono ?_; rintro e w1 ⟨rfl, rfl⟩)
    go_ret
    exact ⟨⟨_, rfl⟩, Below.refl _ _⟩
  · by_cases h2 : b < a
    · go_enter Try.func57, Try.ntmps57
      go_wp2_with (go_at_call 65; refine (isNaN_any _ _).mono ?_; rintro e w1 ⟨rfl, rfl⟩)
      go_ret
      exact ⟨⟨_, rfl⟩, Below.refl _ _⟩
    · go_enter Try.func57, Try.ntmps57
      go_wp2_with (go_at_call 65; refine (isNaN_any _ _).mono ?_; rintro e w1 ⟨rfl, rfl⟩)
      go_ret
      exact ⟨⟨_, rfl⟩, Below.refl _ _⟩
theorem box_cells {w : World} {b o N p : Nat} {U : Nat → Int} (hc : ∀ q, q < N * 5 → w.cell? ⟨b, o + q, none⟩ = some (.int .i64 (U q))) (hp : p < N) :
    w.cell? ⟨b, o + p * 5, none⟩ = some (.int .i64 (U (p * 5))) ∧ w.cell? ⟨b, o + p * 5 + 1, none⟩ = some (.int .i64 (U (p * 5 + 1))) ∧ w.cell? ⟨b, o + p * 5 + 1 + 1, none⟩ = some (.int .i64 (U (p * 5 + 2))) ∧ w.cell? ⟨b, o + p * 5 + 1 + 2, none⟩ = some (.int .i64 (U (p * 5 + 3))) ∧ w.cell? ⟨b, o + p * 5 + 1 + 3, none⟩ = some (.int .i64 (U (p * 5 + 4))) := by
  refine ⟨?_, ?_, ?_, ?_, ?_⟩
  · exact hc (p * 5) (by omega)
  · exact hc (p * 5 + 1) (by omega)
  · rw [show o + p * 5 + 1 + 1 = o + (p * 5 + 2) from by omega]; exact hc (p * 5 + 2) (by omega)
  · rw [show o + p * 5 + 1 + 2 = o + (p * 5 + 3) from by omega]; exact hc (p * 5 + 3) (by omega)
  · rw [show o + p * 5 + 1 + 3 = o + (p * 5 + 4) from by omega]; exact hc (p * 5 + 4) (by omega)
set_option maxRecDepth 20000 in
set_option maxHeartbeats 1000000 in
theorem twice_any (bx tb sb : Nat) (ai : Option Addr) (N ci : Nat) (U : Nat → Int) (s : Int) (hs : s = 0 ∨ s = 1) (p : Nat) (hp : p < N) (w : World) (h : Flat w ai (N * 5) U)
    (c0 : w.cell? ⟨bx, 0, none⟩ = some (.pointer (some ⟨tb, 0, none⟩))) (c1 : w.cell? ⟨tb, 0, none⟩ = some (.slice ai N ci)) (c2 : w.cell? ⟨sb, 0, none⟩ = some (.int .i64 s)) :
    Calls Try.prog 54 #[.int .i64 (p : Int), .pointer (some ⟨bx, 0, none⟩), .pointer (some ⟨sb, 0, none⟩)] w fun e w' => (∃ r : Int, e = .returned (.int .i64 r)) ∧ Below w.heap.size w w' := by
  have hset := cset_map
  obtain ⟨b, o, rfl, hbl, hc⟩ := h (by omega)
  obtain ⟨k0, k1, k2, k3, k4⟩ := box_cells hc hp
  have l2 := cell_lt c2
  have hpi : (p : Int) < (N : Int) := by omega
  simp only at l2
  go_enter Try.func54, Try.ntmps54
  go_upto_region 1 with fail
  go_cut [5] (fun v wc => ∃ x : Nat, v = .pointer (some ⟨x, 0, none⟩) ∧ Below w.heap.size w wc ∧ wc.cell? ⟨x, 0, none⟩ = some (.int .i64 (U (p * 5 + 1))) ∧ wc.cell? ⟨x, 1, none⟩ = some (.int .i64 (U (p * 5 + 2))) ∧ wc.cell? ⟨x, 2, none⟩ = some (.int .i64 (U (p * 5 + 3))) ∧ wc.cell? ⟨x, 3, none⟩ = some (.int .i64 (U (p * 5 + 4))))
  case first =>
    go_wp2_with (go_at_call 35; refine (spanOf_any _ _ _ _ _).mono ?_; rintro e w1 ⟨rfl, hb1⟩; obtain ⟨hc1, hf1⟩ := bcell hb1; have hz1 := hb1.size; (try simp only [World.size_drew, World.size_alloc, World.size_setCell] at hc1 hf1 hz1))
    go_meet
    exact ⟨w1.heap.size, rfl, bel_a, by go_simp, by go_simp, by go_simp, by go_simp⟩
  case rest =>
  obtain ⟨x, rfl, hB, m0, m1, m2, m3⟩ := hcut
  have e2 := (hB.cell (p := ⟨sb, 0, none⟩) l2).trans c2
  go_upto_region 2 with fail
  obtain rfl | rfl := hs
  · refine wp_region_held_drew (S := fun w' => w'.cell? ⟨sb, 0, none⟩ = some (.int .i64 0) ∧ w'.cell? ⟨x, 0, none⟩ = some (.int .i64 (U (p * 5 + 1))) ∧ w'.cell? ⟨x, 1, none⟩ = some (.int .i64 (U (p * 5 + 2))) ∧ w'.cell? ⟨x, 2, none⟩ = some (.int .i64 (U (p * 5 + 3))) ∧ w'.cell? ⟨x, 3, none⟩ = some (.int .i64 (U (p * 5 + 4)))) (by kernel_rfl) ?_ (fun hHeld => ?_)
    · (try dsimp only)
      (first | (go_simp; done) | (go_keep; done))
    refine tq 0 hHeld ?_
    refine tq 1 hHeld ?_
    refine tq 2 hHeld ?_
    refine tq 3 hHeld ?_
    refine tq 4 hHeld ?_
    refine tq 5 hHeld ?_
    refine tq 6 hHeld ?_
    refine tq 7 hHeld ?_
    refine tq 8 hHeld ?_
    refine tq 9 hHeld ?_
    refine wpAnyH_done (by kernel_rfl) ?_ _
    go_wp2_with fail
    go_ret
    exact ⟨⟨_, rfl⟩, hB.drew⟩
  · refine wp_region_held_drew (S := fun w' => w'.cell? ⟨sb, 0, none⟩ = some (.int .i64 1) ∧ w'.cell? ⟨x, 0, none⟩ = some (.int .i64 (U (p * 5 + 1))) ∧ w'.cell? ⟨x, 1, none⟩ = some (.int .i64 (U (p * 5 + 2))) ∧ w'.cell? ⟨x, 2, none⟩ = some (.int .i64 (U (p * 5 + 3))) ∧ w'.cell? ⟨x, 3, none⟩ = some (.int .i64 (U (p * 5 + 4)))) (by kernel_rfl) ?_ (fun hHeld => ?_)
    · (try dsimp only)
      (first | (go_simp; done) | (go_keep; done))
    refine tq 0 hHeld ?_
    refine tq 1 hHeld ?_
    refine tq 2 hHeld ?_
    refine tq 3 hHeld ?_
    refine tq 4 hHeld ?_
    refine tq 5 hHeld ?_
    refine tq 6 hHeld ?_
    refine tq 7 hHeld ?_
    refine tq 8 hHeld ?_
    refine tq 9 hHeld ?_
    refine wpAnyH_done (by kernel_rfl) ?_ _
    go_wp2_with fail
    go_ret
    exact ⟨⟨_, rfl⟩, hB.drew⟩
set_option maxRecDepth 20000 in
set_option maxHeartbeats 1000000 in
theorem cmp2_any (fb bx tb sb : Nat) (ai : Option Addr) (N ci : Nat) (U : Nat → Int) (s : Int) (hs : s = 0 ∨ s = 1) (p q : Nat) (hp : p < N) (hq : q < N) (w : World) (h : Flat w ai (N * 5) U)
    (c0 : w.cell? ⟨bx, 0, none⟩ = some (.pointer (some ⟨tb, 0, none⟩))) (c1 : w.cell? ⟨tb, 0, none⟩ = some (.slice ai N ci)) (c2 : w.cell? ⟨sb, 0, none⟩ = some (.int .i64 s)) (c3 : w.cell? ⟨fb, 0, none⟩ = some (.func (.func 54) #[] #[.pointer (some ⟨bx, 0, none⟩), .pointer (some ⟨sb, 0, none⟩)])) :
    Calls Try.prog 56 #[.int .i64 (p : Int), .int .i64 (q : Int), .pointer (some ⟨fb, 0, none⟩)] w fun e w' => (∃ r : Int, e = .returned (.int .i64 r)) ∧ Below w.heap.size w w' := by
  have l0 := cell_lt c0
  have l1 := cell_lt c1
  have l2 := cell_lt c2
  have l3 := cell_lt c3
  go_enter Try.func56, Try.ntmps56
  go_upto_region 1 with fail
  refine wp_region_held_drew (S := fun w' => w'.cell? ⟨fb, 0, none⟩ = some (.func (.func 54) #[] #[.pointer (some ⟨bx, 0, none⟩), .pointer (some ⟨sb, 0, none⟩)]) ∧ Below w.heap.size w w') (by kernel_rfl) ⟨c3, (Below.refl _ _).drew⟩ (fun hHeld => ?_)
  refine tq 0 hHeld ?_
  refine tq 1 hHeld ?_
  refine tq 3 hHeld ?_
  refine tq 4 hHeld ?_
  refine tc 2 fun K hK => ?_
  (go_simp; (go_at_call 54; refine (twice_any bx tb sb ai N ci U s hs _ hp _ (h.below hHeld.2) ((hHeld.2.cell (p := ⟨bx, 0, none⟩) l0).trans c0) ((hHeld.2.cell (p := ⟨tb, 0, none⟩) l1).trans c1) ((hHeld.2.cell (p := ⟨sb, 0, none⟩) l2).trans c2)).mono ?_; rintro e w2 ⟨⟨r2, rfl⟩, hb2⟩); (try go_wp2_with fail); refine tr hK (fun hHeld => ?_) ⟨(hb2.cell (p := ⟨fb, 0, none⟩) (Nat.lt_of_lt_of_le l3 hHeld.2.size)).trans hHeld.1, hHeld.2.trans (hb2.mono hHeld.2.size)⟩; clear hK K)
  refine tc 5 fun K hK => ?_
  (go_simp; (go_at_call 54; refine (twice_any bx tb sb ai N ci U s hs _ hq _ (h.below hHeld.2) ((hHeld.2.cell (p := ⟨bx, 0, none⟩) l0).trans c0) ((hHeld.2.cell (p := ⟨tb, 0, none⟩) l1).trans c1) ((hHeld.2.cell (p := ⟨sb, 0, none⟩) l2).trans c2)).mono ?_; rintro e w5 ⟨⟨r5, rfl⟩, hb5⟩); (try go_wp2_with fail); refine tr hK (fun hHeld => ?_) ⟨(hb5.cell (p := ⟨fb, 0, none⟩) (Nat.lt_of_lt_of_le l3 hHeld.2.size)).trans hHeld.1, hHeld.2.trans (hb5.mono hHeld.2.size)⟩; clear hK K)
  refine tc 6 fun K hK => ?_
  (go_simp; (go_at_call 57; refine (compare_any _ _ _).mono ?_; rintro e w9 ⟨⟨r9, rfl⟩, hb9⟩); (try go_wp2_with fail); refine tr hK (fun hHeld => ?_) ⟨(hb9.cell (p := ⟨fb, 0, none⟩) (Nat.lt_of_lt_of_le l3 hHeld.2.size)).trans hHeld.1, hHeld.2.trans (hb9.mono hHeld.2.size)⟩; clear hK K)
  refine tq 7 hHeld ?_
  refine wpAnyH_done (by kernel_rfl) ?_ _
  go_wp2_with fail
  go_ret
  exact ⟨⟨_, rfl⟩, hHeld.2⟩
theorem cmp_of (lb off n fb bx tb sb : Nat) (ai : Option Addr) (N ci : Nat) (U : Nat → Int) (s : Int) (hs : s = 0 ∨ s = 1) (w : World) (h : ∀ wr, Trn lb off n w wr → Flat wr ai (N * 5) U) (n0 : bx ≠ lb) (n1 : tb ≠ lb) (n2 : sb ≠ lb) (n3 : fb ≠ lb)
    (c0 : w.cell? ⟨bx, 0, none⟩ = some (.pointer (some ⟨tb, 0, none⟩))) (c1 : w.cell? ⟨tb, 0, none⟩ = some (.slice ai N ci)) (c2 : w.cell? ⟨sb, 0, none⟩ = some (.int .i64 s)) (c3 : w.cell? ⟨fb, 0, none⟩ = some (.func (.func 54) #[] #[.pointer (some ⟨bx, 0, none⟩), .pointer (some ⟨sb, 0, none⟩)])) :
    Cmp lb off n (N : Int) (.pointer (some ⟨fb, 0, none⟩)) w := by
  intro wr hT p q ⟨hp0, hp⟩ ⟨hq0, hq⟩
  obtain ⟨p', rfl⟩ := Int.eq_ofNat_of_zero_le hp0
  obtain ⟨q', rfl⟩ := Int.eq_ofNat_of_zero_le hq0
  exact cmp2_any fb bx tb sb ai N ci U s hs p' q' (by omega) (by omega) wr (h wr hT) ((hT.but.cell (p := ⟨bx, 0, none⟩) (cell_lt c0) n0).trans c0) ((hT.but.cell (p := ⟨tb, 0, none⟩) (cell_lt c1) n1).trans c1) ((hT.but.cell (p := ⟨sb, 0, none⟩) (cell_lt c2) n2).trans c2) ((hT.but.cell (p := ⟨fb, 0, none⟩) (cell_lt c3) n3).trans c3)
end Go.Proofs.Ytcbgcochpflblaa
