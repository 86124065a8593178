/- The comparison by which the tree sorts: it reads, and lays new blocks alone. A contract of spans. The tree's sort of places along a side. A tree over places, and what is found in it: plain mathematics. -/
import Derived.Test.YtcbgcochpflblaaB3
import Derived.Test.YtcbgcochpflblaaB6
import Derived.Test.YtcbgcochpflblaaB1
import Derived.Deep.RegionHeld3
import Derived.Deep.DeepCutAuto
import Derived.Deep.QuietTactic
import Derived.BigQuiet
import Derived.Deep.RegionWith
import Derived.Test.YtcbgcochpflblaaB5
namespace Go.Proofs.Ytcbgcochpflblaa
open Go.RowKit
set_option linter.unusedVariables false
set_option linter.unusedSimpArgs false
theorem isNaN_any (a : Int) (w : World) : Calls Try.prog 65 #[.int .i64 a] w fun e w' => e = .returned (.bool false) ∧ w' = w := by
  go_enter Try.func65, Try.ntmps65
  go_wp2
  go_ret
  exact ⟨ret_bool (by simp), rfl⟩
theorem compare_any (a b : Int) (w : World) : Calls Try.prog 57 #[.int .i64 a, .int .i64 b] w fun e w' => (∃ r : Int, e = .returned (.int .i64 r)) ∧ Below w.heap.size w w' := by
  by_cases h1 : a < b
  · go_enter Try.func57, Try.ntmps57
    go_wp2_with (go_at_call 65; refine (isNaN_any _ _).mono ?_; rintro e w1 ⟨rfl, rfl⟩)
    go_ret
    exact ⟨⟨_, rfl⟩, Below.refl _ _⟩
  · by_cases h2 : b < a
    · go_enter Try.func57, Try.ntmps57
      go_wp2_with (go_at_call 65; refine (isNaN_any _ _).mono ?_; rintro e w1 ⟨rfl, rfl⟩)
      go_ret
      exact ⟨⟨_, rfl⟩, Below.refl _ _⟩
    · go_enter Try.func57, Try.ntmps57
      go_wp2_with (go_at_call 65; refine (isNaN_any _ _).mono ?_; rintro e w1 ⟨rfl, rfl⟩)
      go_ret
      exact ⟨⟨_, rfl⟩, Below.refl _ _⟩
theorem box_cells {w : World} {b o N p : Nat} {U : Nat → Int} (hc : ∀ q, q < N * 5 → w.cell? ⟨b, o + q, none⟩ = some (.int .i64 (U q))) (hp : p < N) :
    w.cell? ⟨b, o + p * 5, none⟩ = some (.int .i64 (U (p * 5))) ∧ w.cell? ⟨b, o + p * 5 + 1, none⟩ = some (.int .i64 (U (p * 5 + 1))) ∧ w.cell? ⟨b, o + p * 5 + 1 + 1, none⟩ = some (.int .i64 (U (p * 5 + 2))) ∧ w.cell? ⟨b, o + p * 5 + 1 + 2, none⟩ = some (.int .i64 (U (p * 5 + 3))) ∧ w.cell? ⟨b, o + p * 5 + 1 + 3, none⟩ = some (.int .i64 (U (p * 5 + 4))) := by
  refine ⟨?_, ?_, ?_, ?_, ?_⟩
  · exact hc (p * 5) (by omega)
  · exact hc (p * 5 + 1) (by omega)
  · rw [show o + p * 5 + 1 + 1 = o + (p * 5 + 2) from by omega]; exact hc (p * 5 + 2) (by omega)
  · rw [show o + p * 5 + 1 + 2 = o + (p * 5 + 3) from by omega]; exact hc (p * 5 + 3) (by omega)
  · rw [show o + p * 5 + 1 + 3 = o + (p * 5 + 4) from by omega]; exact hc (p * 5 + 4) (by omega)
set_option maxRecDepth 20000 in
set_option maxHeartbeats 1000000 in
theorem twice_any (bx tb sb : Nat) (ai : Option Addr) (N ci : Nat) (U : Nat → Int) (s : Int) (hs : s = 0 ∨ s = 1) (p : Nat) (hp : p < N) (w : World) (h : Flat w ai (N * 5) U)
    (c0 : w.cell? ⟨bx, 0, none⟩ = some (.pointer (some ⟨tb, 0, none⟩))) (c1 : w.cell? ⟨tb, 0, none⟩ = some (.slice ai N ci)) (c2 : w.cell? ⟨sb, 0, none⟩ = some (.int .i64 s)) :
    Calls Try.prog 54 #[.int .i64 (p : Int), .pointer (some ⟨bx, 0, none⟩), .pointer (some ⟨sb, 0, none⟩)] w fun e w' => (∃ r : Int, e = .returned (.int .i64 r)) ∧ Below w.heap.size w w' := by
  have hset := cset_map
  obtain ⟨b, o, rfl, hbl, hc⟩ := h (by omega)
  obtain ⟨k0, k1, k2, k3, k4⟩ := box_cells hc hp
  have l2 := cell_lt c2
  have hpi : (p : Int) < (N : Int) := by omega
  simp only at l2
  go_enter Try.func54, Try.ntmps54
  go_upto_region 1 with fail
  go_cut [5] (fun v wc => ∃ x : Nat, v = .pointer (some ⟨x, 0, none⟩) ∧ Below w.heap.size w wc ∧ wc.cell? ⟨x, 0, none⟩ = some (.int .i64 (U (p * 5 + 1))) ∧ wc.cell? ⟨x, 1, none⟩ = some (.int .i64 (U (p * 5 + 2))) ∧ wc.cell? ⟨x, 2, none⟩ = some (.int .i64 (U (p * 5 + 3))) ∧ wc.cell? ⟨x, 3, none⟩ = some (.int .i64 (U (p * 5 + 4))))
  case first =>
    go_wp2_with (go_at_call 35; refine (spanOf_any _ _ _ _ _).mono ?_; rintro e w1 ⟨rfl, hb1⟩; obtain ⟨hc1, hf1⟩ := bcell hb1; have hz1 := hb1.size; (try simp only [World.size_drew, World.size_alloc, World.size_setCell] at hc1 hf1 hz1))
    go_meet
    exact ⟨w1.heap.size, rfl, bel_a, by go_simp, by go_simp, by go_simp, by go_simp⟩
  case rest =>
  obtain ⟨x, rfl, hB, m0, m1, m2, m3⟩ := hcut
  have e2 := (hB.cell (p := ⟨sb, 0, none⟩) l2).trans c2
  go_upto_region 2 with fail
  obtain rfl | rfl := hs
  · refine wp_region_held_drew (S := fun w' => w'.cell? ⟨sb, 0, none⟩ = some (.int .i64 0) ∧ w'.cell? ⟨x, 0, none⟩ = some (.int .i64 (U (p * 5 + 1))) ∧ w'.cell? ⟨x, 1, none⟩ = some (.int .i64 (U (p * 5 + 2))) ∧ w'.cell? ⟨x, 2, none⟩ = some (.int .i64 (U (p * 5 + 3))) ∧ w'.cell? ⟨x, 3, none⟩ = some (.int .i64 (U (p * 5 + 4)))) (by kernel_rfl) ?_ (fun hHeld => ?_)
    · (try dsimp only)
      (first | (go_simp; done) | (go_keep; done))
    refine tq 0 hHeld ?_
    refine tq 1 hHeld ?_
    refine tq 2 hHeld ?_
    refine tq 3 hHeld ?_
    refine tq 4 hHeld ?_
    refine tq 5 hHeld ?_
    refine tq 6 hHeld ?_
    refine tq 7 hHeld ?_
    refine tq 8 hHeld ?_
    refine tq 9 hHeld ?_
    refine wpAnyH_done (by kernel_rfl) ?_ _
    go_wp2_with fail
    go_ret
    exact ⟨⟨_, rfl⟩, hB.drew⟩
  · refine wp_region_held_drew (S := fun w' => w'.cell? ⟨sb, 0, none⟩ = some (.int .i64 1) ∧ w'.cell? ⟨x, 0, none⟩ = some (.int .i64 (U (p * 5 + 1))) ∧ w'.cell? ⟨x, 1, none⟩ = some (.int .i64 (U (p * 5 + 2))) ∧ w'.cell? ⟨x, 2, none⟩ = some (.int .i64 (U (p * 5 + 3))) ∧ w'.cell? ⟨x, 3, none⟩ = some (.int .i64 (U (p * 5 + 4)))) (by kernel_rfl) ?_ (fun hHeld => ?_)
    · (try dsimp only)
      (first | (go_simp; done) | (go_keep; done))
    refine tq 0 hHeld ?_
    refine tq 1 hHeld ?_
    refine tq 2 hHeld ?_
    refine tq 3 hHeld ?_
    refine tq 4 hHeld ?_
    refine tq 5 hHeld ?_
    refine tq 6 hHeld ?_
    refine tq 7 hHeld ?_
    refine tq 8 hHeld ?_
    refine tq 9 hHeld ?_
    refine wpAnyH_done (by kernel_rfl) ?_ _
    go_wp2_with fail
    go_ret
    exact ⟨⟨_, rfl⟩, hB.drew⟩
set_option maxRecDepth 20000 in
set_option maxHeartbeats 1000000 in
theorem cmp2_any (fb bx tb sb : Nat) (ai : Option Addr) (N ci : Nat) (U : Nat → Int) (s : Int) (hs : s = 0 ∨ s = 1) (p q : Nat) (hp : p < N) (hq : q < N) (w : World) (h : Flat w ai (N * 5) U)
    (c0 : w.cell? ⟨bx, 0, none⟩ = some (.pointer (some ⟨tb, 0, none⟩))) (c1 : w.cell? ⟨tb, 0, none⟩ = some (.slice ai N ci)) (c2 : w.cell? ⟨sb, 0, none⟩ = some (.int .i64 s)) (c3 : w.cell? ⟨fb, 0, none⟩ = some (.func (.func 54) #[] #[.pointer (some ⟨bx, 0, none⟩), .pointer (some ⟨sb, 0, none⟩)])) :
    Calls Try.prog 56 #[.int .i64 (p : Int), .int .i64 (q : Int), .pointer (some ⟨fb, 0, none⟩)] w fun e w' => (∃ r : Int, e = .returned (.int .i64 r)) ∧ Below w.heap.size w w' := by
  have l0 := cell_lt c0
  have l1 := cell_lt c1
  have l2 := cell_lt c2
  have l3 := cell_lt c3
  go_enter Try.func56, Try.ntmps56
  go_upto_region 1 with fail
  refine wp_region_held_drew (S := fun w' => w'.cell? ⟨fb, 0, none⟩ = some (.func (.func 54) #[] #[.pointer (some ⟨bx, 0, none⟩), .pointer (some ⟨sb, 0, none⟩)]) ∧ Below w.heap.size w w') (by kernel_rfl) ⟨c3, (Below.refl _ _).drew⟩ (fun hHeld => ?_)
  refine tq 0 hHeld ?_
  refine tq 1 hHeld ?_
  refine tq 3 hHeld ?_
  refine tq 4 hHeld ?_
  refine tc 2 fun K hK => ?_
  (go_simp; (go_at_call 54; refine (twice_any bx tb sb ai N ci U s hs _ hp _ (h.below hHeld.2) ((hHeld.2.cell (p := ⟨bx, 0, none⟩) l0).trans c0) ((hHeld.2.cell (p := ⟨tb, 0, none⟩) l1).trans c1) ((hHeld.2.cell (p := ⟨sb, 0, none⟩) l2).trans c2)).mono ?_; rintro e w2 ⟨⟨r2, rfl⟩, hb2⟩); (try go_wp2_with fail); refine tr hK (fun hHeld => ?_) ⟨(hb2.cell (p := ⟨fb, 0, none⟩) (Nat.lt_of_lt_of_le l3 hHeld.2.size)).trans hHeld.1, hHeld.2.trans (hb2.mono hHeld.2.size)⟩; clear hK K)
  refine tc 5 fun K hK => ?_
  (go_simp; (go_at_call 54; refine (twice_any bx tb sb ai N ci U s hs _ hq _ (h.below hHeld.2) ((hHeld.2.cell (p := ⟨bx, 0, none⟩) l0).trans c0) ((hHeld.2.cell (p := ⟨tb, 0, none⟩) l1).trans c1) ((hHeld.2.cell (p := ⟨sb, 0, none⟩) l2).trans c2)).mono ?_; rintro e w5 ⟨⟨r5, rfl⟩, hb5⟩); (try go_wp2_with fail); refine tr hK (fun hHeld => ?_) ⟨(hb5.cell (p := ⟨fb, 0, none⟩) (Nat.lt_of_lt_of_le l3 hHeld.2.size)).trans hHeld.1, hHeld.2.trans (hb5.mono hHeld.2.size)⟩; clear hK K)
  refine tc 6 fun K hK => ?_
  (go_simp; (go_at_call 57; refine (compare_any _ _ _).mono ?_; rintro e w9 ⟨⟨r9, rfl⟩, hb9⟩); (try go_wp2_with fail); refine tr hK (fun hHeld => ?_) ⟨(hb9.cell (p := ⟨fb, 0, none⟩) (Nat.lt_of_lt_of_le l3 hHeld.2.size)).trans hHeld.1, hHeld.2.trans (hb9.mono hHeld.2.size)⟩; clear hK K)
  refine tq 7 hHeld ?_
  refine wpAnyH_done (by kernel_rfl) ?_ _
  go_wp2_with fail
  go_ret
  exact ⟨⟨_, rfl⟩, hHeld.2⟩
theorem cmp_of (lb off n fb bx tb sb : Nat) (ai : Option Addr) (N ci : Nat) (U : Nat → Int) (s : Int) (hs : s = 0 ∨ s = 1) (w : World) (h : ∀ wr, Trn lb off n w wr → Flat wr ai (N * 5) U) (n0 : bx ≠ lb) (n1 : tb ≠ lb) (n2 : sb ≠ lb) (n3 : fb ≠ lb)
    (c0 : w.cell? ⟨bx, 0, none⟩ = some (.pointer (some ⟨tb, 0, none⟩))) (c1 : w.cell? ⟨tb, 0, none⟩ = some (.slice ai N ci)) (c2 : w.cell? ⟨sb, 0, none⟩ = some (.int .i64 s)) (c3 : w.cell? ⟨fb, 0, none⟩ = some (.func (.func 54) #[] #[.pointer (some ⟨bx, 0, none⟩), .pointer (some ⟨sb, 0, none⟩)])) :
    Cmp lb off n (N : Int) (.pointer (some ⟨fb, 0, none⟩)) w := by
  intro wr hT p q ⟨hp0, hp⟩ ⟨hq0, hq⟩
  obtain ⟨p', rfl⟩ := Int.eq_ofNat_of_zero_le hp0
  obtain ⟨q', rfl⟩ := Int.eq_ofNat_of_zero_le hq0
  exact cmp2_any fb bx tb sb ai N ci U s hs p' q' (by omega) (by omega) wr (h wr hT) ((hT.but.cell (p := ⟨bx, 0, none⟩) (cell_lt c0) n0).trans c0) ((hT.but.cell (p := ⟨tb, 0, none⟩) (cell_lt c1) n1).trans c1) ((hT.but.cell (p := ⟨sb, 0, none⟩) (cell_lt c2) n2).trans c2) ((hT.but.cell (p := ⟨fb, 0, none⟩) (cell_lt c3) n3).trans c3)
end Go.Proofs.Ytcbgcochpflblaa
namespace Go.Proofs.Ytcbgcochpflblaa
open Go.RowKit
set_option linter.unusedVariables false
set_option linter.unusedSimpArgs false

set_option maxHeartbeats 8000000 in
theorem spanBoth_any (a b c d r s t u : Int) (w : World) :
    Calls Try.prog 44 #[b4 a b c d, b4 r s t u] w fun e w' => e = .returned (b4 (mn a r) (mn b s) (mx c t) (mx d u)) ∧ Below w.heap.size w w' := by
  have hset := cset_map
  go_enter Try.func44, Try.ntmps44
  go_wp2
  go_region_held3 (fun w' => w'.cell? ⟨w.heap.size, 0, none⟩ = some (.int .i64 a) ∧ w'.cell? ⟨w.heap.size, 1, none⟩ = some (.int .i64 b) ∧ w'.cell? ⟨w.heap.size, 2, none⟩ = some (.int .i64 c) ∧ w'.cell? ⟨w.heap.size, 3, none⟩ = some (.int .i64 d) ∧ w'.cell? ⟨w.heap.size + 1, 0, none⟩ = some (.int .i64 r) ∧ w'.cell? ⟨w.heap.size + 1, 1, none⟩ = some (.int .i64 s) ∧ w'.cell? ⟨w.heap.size + 1, 2, none⟩ = some (.int .i64 t) ∧ w'.cell? ⟨w.heap.size + 1, 3, none⟩ = some (.int .i64 u)) (first | (go_simp; done) | (go_keep; done)) (first
    | (go_at_call 58; refine (least_any _ _ _ _ _).mono ?_; rintro e w1 ⟨rfl, hb1⟩; obtain ⟨hc1, hf1⟩ := bcell hb1; have hl1 := blt hb1; have hz1 := hb1.size; (try simp only [World.size_drew, World.size_alloc, World.size_setCell] at hc1 hf1 hl1 hz1); (try have hq1x0 : w.heap.size < w1.heap.size := (by omega)); (try have hq1x1 : w.heap.size + 1 < w1.heap.size := (by omega)); (try have hq1x2 : w.heap.size + 1 + 1 < w1.heap.size := (by omega)))
    | (go_at_call 59; refine (greatest_any _ _ _ _ _).mono ?_; rintro e w1 ⟨rfl, hb1⟩; obtain ⟨hc1, hf1⟩ := bcell hb1; have hl1 := blt hb1; have hz1 := hb1.size; (try simp only [World.size_drew, World.size_alloc, World.size_setCell] at hc1 hf1 hl1 hz1); (try have hq1x0 : w.heap.size < w1.heap.size := (by omega)); (try have hq1x1 : w.heap.size + 1 < w1.heap.size := (by omega)); (try have hq1x2 : w.heap.size + 1 + 1 < w1.heap.size := (by omega))))
  all_goals
    go_wp2
    exact bodyPost_ret (v := b4 (mn a r) (mn b s) (mx c t) (mx d u)) (by simp [results, Try.results44, go_sem, *]) rfl ⟨rfl, bel_a⟩

end Go.Proofs.Ytcbgcochpflblaa
namespace Go.Proofs.Ytcbgcochpflblaa
open Go.RowKit
set_option linter.unusedVariables false
set_option linter.unusedSimpArgs false
/-- four numbers of a span in a block -/
structure Sp4 (w : World) (x : Nat) (a b c d : Int) : Prop where
  a0 : w.cell? ⟨x, 0, none⟩ = some (.int .i64 a)
  a1 : w.cell? ⟨x, 1, none⟩ = some (.int .i64 b)
  a2 : w.cell? ⟨x, 2, none⟩ = some (.int .i64 c)
  a3 : w.cell? ⟨x, 3, none⟩ = some (.int .i64 d)
def Bd (a : Int) : Prop := -4000000000 ≤ a ∧ a ≤ 4000000000
/-- what the sort along a side begins with, and keeps -/
structure Sal (tb : Nat) (w wc : World) (x : Nat) : Prop where
  bel : Below w.heap.size w wc
  box : wc.cell? ⟨w.heap.size, 0, none⟩ = some (.pointer (some ⟨tb, 0, none⟩))
  lt : w.heap.size < x
  sp : ∃ a b c d, Sp4 wc x a b c d ∧ Bd a ∧ Bd b ∧ Bd c ∧ Bd d
  fr : wc.frozen? ⟨x, 0, none⟩ = false ∧ wc.frozen? ⟨x, 1, none⟩ = false ∧ wc.frozen? ⟨x, 2, none⟩ = false ∧ wc.frozen? ⟨x, 3, none⟩ = false
theorem keepB {x : Nat} {w w' : World} {p : Addr} {v : Value} (hb : But x w w') (h : w.cell? p = some v) (hne : p.block ≠ x) : w'.cell? p = some v := (hb.cell (cell_lt h) hne).trans h
theorem keepc {w w' : World} {p : Addr} {v : Value} (hb : Below w.heap.size w w') (h : w.cell? p = some v) : w'.cell? p = some v := (hb.cell (cell_lt h)).trans h
set_option maxRecDepth 20000 in
set_option maxHeartbeats 1000000 in
theorem sortAlong_any (tb lb off n cap : Nat) (ai : Option Addr) (N ci : Nat) (U V : Nat → Int) (w : World) (h : Flat w ai (N * 5) U) (hR : Rwo w lb off n V) (hV : ∀ i, i < n → 0 ≤ V i ∧ V i < (N : Int)) (hlb : lb < w.heap.size) (hn : n ≤ 1000) (h1 : 1 ≤ n)
    (hF : ∀ wr, Trn lb off n w wr → Flat wr ai (N * 5) U) (hU : ∀ q, q < N * 5 → Bd (U q)) (c1 : w.cell? ⟨tb, 0, none⟩ = some (.slice ai N ci)) (hne : tb ≠ lb) :
    Calls Try.prog 43 #[.pointer (some ⟨tb, 0, none⟩), .slice (some ⟨lb, off, none⟩) n cap] w fun e w' => e = .returned (.tuple #[]) ∧ Srt lb off n V w w' := by
  have hset := cset_map
  have l1 := cell_lt c1
  obtain ⟨hV0, hV1⟩ := hV 0 (by omega)
  have hN : 0 < N := by omega
  obtain ⟨b, o, rfl, hbl, hc⟩ := h (by omega)
  have hni : (0 : Int) < (n : Int) := by omega
  have hnn : 0 < n := h1
  go_enter Try.func43, Try.ntmps43
  go_upto_region 1 with fail
  have hE : Below w.heap.size w (w.alloc (.cells #[.pointer (some ⟨tb, 0, none⟩)] 71)) := (Below.refl _ _).alloc (Nat.le_refl _) _
  have hx : (w.alloc (.cells #[.pointer (some ⟨tb, 0, none⟩)] 71)).cell? ⟨w.heap.size, 0, none⟩ = some (.pointer (some ⟨tb, 0, none⟩)) := by go_simp
  have hz : (w.alloc (.cells #[.pointer (some ⟨tb, 0, none⟩)] 71)).heap.size = w.heap.size + 1 := by simp
  generalize w.alloc (.cells #[.pointer (some ⟨tb, 0, none⟩)] 71) = w0 at hE hx hz ⊢
  go_cut [4] (fun v wc => ∃ x, v = .pointer (some ⟨x, 0, none⟩) ∧ Sal tb w wc x)
  case first =>
    obtain ⟨p, hp⟩ := Int.eq_ofNat_of_zero_le hV0
    have hpN : p < N := by omega
    have hpi : (p : Int) < (N : Int) := by omega
    have r0 := hR.cell 0 (by omega)
    rw [hp] at r0
    obtain ⟨k0, k1, k2, k3, k4⟩ := box_cells hc hpN
    have FF : ∀ w', Below w0.heap.size w0 w' → w'.cell? ⟨w.heap.size, 0, none⟩ = some (.pointer (some ⟨tb, 0, none⟩)) ∧ w'.cell? ⟨tb, 0, none⟩ = some (.slice (some ⟨b, o, none⟩) N ci) ∧ w'.cell? ⟨lb, off, none⟩ = some (.int .i64 (p : Int)) ∧ w'.cell? ⟨b, o + p * 5 + 1, none⟩ = some (.int .i64 (U (p * 5 + 1))) ∧ w'.cell? ⟨b, o + p * 5 + 1 + 1, none⟩ = some (.int .i64 (U (p * 5 + 2))) ∧ w'.cell? ⟨b, o + p * 5 + 1 + 2, none⟩ = some (.int .i64 (U (p * 5 + 3))) ∧ w'.cell? ⟨b, o + p * 5 + 1 + 3, none⟩ = some (.int .i64 (U (p * 5 + 4))) :=
      fun w' s => ⟨keepc s hx, keepc s (keepc hE c1), keepc s (keepc hE r0), keepc s (keepc hE k1), keepc s (keepc hE k2), keepc s (keepc hE k3), keepc s (keepc hE k4)⟩
    refine wp_region_held_drew (S := fun w' => Below w0.heap.size w0 w') (by kernel_rfl) ((Below.refl _ _).drew) (fun hHeld => ?_)
    refine tq 0 hHeld ?_ (hv := by (intro w' s; obtain ⟨q1, q2, q3, q4, q5, q6, q7⟩ := FF w' s; go_simp; (try with_reducible rfl)))
    refine tq 1 hHeld ?_
    refine tq 2 hHeld ?_
    refine tq 3 hHeld ?_ (hv := by (intro w' s; obtain ⟨q1, q2, q3, q4, q5, q6, q7⟩ := FF w' s; go_simp; (try with_reducible rfl)))
    refine tq 4 hHeld ?_
    refine tq 5 hHeld ?_
    refine tq 6 hHeld ?_ (hv := by (intro w' s; obtain ⟨q1, q2, q3, q4, q5, q6, q7⟩ := FF w' s; go_simp; (try with_reducible rfl)))
    refine tq 7 hHeld ?_
    refine tq 8 hHeld ?_
    refine tq 9 hHeld ?_ (hv := by (intro w' s; obtain ⟨q1, q2, q3, q4, q5, q6, q7⟩ := FF w' s; go_simp; (try with_reducible rfl)))
    refine wpAnyH_ready (rs := [10, 11]) (by kernel_rfl) (by simp) ?_
    refine AllReadyH.cons rfl (fun K hK => ?_) (AllReadyH.cons rfl (fun K hK => ?_) AllReadyH.nil)
    · (go_simp; (go_at_call 35; refine (spanOf_any _ _ _ _ _).mono ?_; rintro e w1 ⟨rfl, hb1⟩; obtain ⟨hc1, hf1⟩ := bcell hb1; have hz1 := hb1.size; (try simp only [World.size_drew, World.size_alloc, World.size_setCell] at hc1 hf1 hz1); (try have hc2 := fun o => hc1 (w.heap.size + 1) o (by omega)); (try have hf2 := fun o => hf1 (w.heap.size + 1) o (by omega)); clear hc1 hf1); (try go_wp2_with fail); refine tr hK (fun hHeld => ?_) (hHeld.trans (hb1.mono hHeld.size)); clear hK K)
      refine tc 11 fun K hK => ?_
      (go_simp; refine tr hK (fun hHeld => ?_) (hHeld.alloc hHeld.size _); clear hK K)
      refine tc 12 fun K hK => ?_
      (go_simp; refine tr hK (fun hHeld => ?_) bel_a; clear hK K)
      refine wpAnyH_done (by kernel_rfl) ?_ _
      go_wp2_with fail
      go_meet
      exact ⟨_, rfl, ⟨hE.trans (hHeld.mono (by omega)), keepc hHeld hx, (by omega), ⟨U (p * 5 + 1), U (p * 5 + 2), U (p * 5 + 3), U (p * 5 + 4), ⟨by go_simp, by go_simp, by go_simp, by go_simp⟩, hU _ (by omega), hU _ (by omega), hU _ (by omega), hU _ (by omega)⟩, ⟨by go_simp, by go_simp, by go_simp, by go_simp⟩⟩⟩
    · (go_simp; refine tr hK (fun hHeld => ?_) (hHeld.alloc hHeld.size _); clear hK K)
      refine tc 10 fun K hK => ?_
      (go_simp; (go_at_call 35; refine (spanOf_any _ _ _ _ _).mono ?_; rintro e w1 ⟨rfl, hb1⟩; obtain ⟨hc1, hf1⟩ := bcell hb1; have hz1 := hb1.size; (try simp only [World.size_drew, World.size_alloc, World.size_setCell] at hc1 hf1 hz1); (try have hc2 := fun o => hc1 (w.heap.size + 1) o (by omega)); (try have hf2 := fun o => hf1 (w.heap.size + 1) o (by omega)); clear hc1 hf1); (try go_wp2_with fail); refine tr hK (fun hHeld => ?_) (hHeld.trans (hb1.mono hHeld.size)); clear hK K)
      refine tc 12 fun K hK => ?_
      (go_simp; refine tr hK (fun hHeld => ?_) bel_a; clear hK K)
      refine wpAnyH_done (by kernel_rfl) ?_ _
      go_wp2_with fail
      go_meet
      exact ⟨_, rfl, ⟨hE.trans (hHeld.mono (by omega)), keepc hHeld hx, (by omega), ⟨U (p * 5 + 1), U (p * 5 + 2), U (p * 5 + 3), U (p * 5 + 4), ⟨by go_simp, by go_simp, by go_simp, by go_simp⟩, hU _ (by omega), hU _ (by omega), hU _ (by omega), hU _ (by omega)⟩, ⟨by go_simp, by go_simp, by go_simp, by go_simp⟩⟩⟩
  case rest =>
  clear hx
  obtain ⟨x, rfl, hS⟩ := hcut
  clear hE hz
  go_wp2
  go_loopg [23] n (fun g vi wr => ∃ k : Nat, k ≤ n ∧ n - k ≤ g ∧ vi = .int .i64 (k : Int) ∧ Sal tb w wr x)
  case atStart => exact ⟨0, by omega, by omega, rfl, hS⟩
  case round =>
    clear hS
    obtain ⟨k, hk, hg, rfl, hS⟩ := hrel
    by_cases hlt : k < n
    · have hlt1 : (k : Int) < (n : Int) := by omega
      obtain ⟨hp0, hp1⟩ := hV k hlt
      obtain ⟨p, hp⟩ := Int.eq_ofNat_of_zero_le hp0
      have hpN : p < N := by omega
      have hpi : (p : Int) < (N : Int) := by omega
      have r0 := (hR.below hlb hS.bel).cell k hlt
      rw [hp] at r0
      obtain ⟨k0, k1, k2, k3, k4⟩ := box_cells hc hpN
      obtain ⟨sa, sb, sc, sd, ⟨s0, s1, s2, s3⟩, ba, bb, bc, bd⟩ := hS.sp
      obtain ⟨f0, f1, f2, f3⟩ := hS.fr
      have hxl := cell_lt s0
      simp only at hxl
      have hwx := hS.lt
      have hbx := hS.box
      have FF : ∀ w', But x wr w' → w'.cell? ⟨w.heap.size, 0, none⟩ = some (.pointer (some ⟨tb, 0, none⟩)) ∧ w'.cell? ⟨tb, 0, none⟩ = some (.slice (some ⟨b, o, none⟩) N ci) ∧ w'.cell? ⟨b, o + p * 5 + 1, none⟩ = some (.int .i64 (U (p * 5 + 1))) ∧ w'.cell? ⟨b, o + p * 5 + 1 + 1, none⟩ = some (.int .i64 (U (p * 5 + 2))) ∧ w'.cell? ⟨b, o + p * 5 + 1 + 2, none⟩ = some (.int .i64 (U (p * 5 + 3))) ∧ w'.cell? ⟨b, o + p * 5 + 1 + 3, none⟩ = some (.int .i64 (U (p * 5 + 4))) :=
        fun w' s => ⟨keepB s hS.box (by simp only; omega), keepB s (keepc hS.bel c1) (by simp only; omega), keepB s (keepc hS.bel k1) (by simp only; omega), keepB s (keepc hS.bel k2) (by simp only; omega), keepB s (keepc hS.bel k3) (by simp only; omega), keepB s (keepc hS.bel k4) (by simp only; omega)⟩
      go_upto_region 5 with fail
      refine wp_region_held_drew (S := fun w' => But x wr w') (by kernel_rfl) ((But.refl _ _).drew) (fun hHeld => ?_)
      refine tq 1 hHeld ?_ (hv := by (intro w' s; obtain ⟨q1, q2, q3, q4, q5, q6⟩ := FF w' s; go_simp; (try with_reducible rfl)))
      refine tq 2 hHeld ?_
      refine tq 3 hHeld ?_
      refine tq 4 hHeld ?_ (hv := by (intro w' s; obtain ⟨q1, q2, q3, q4, q5, q6⟩ := FF w' s; go_simp; (try with_reducible rfl)))
      refine tq 5 hHeld ?_
      refine tq 6 hHeld ?_
      refine tq 7 hHeld ?_
      refine tq 8 hHeld ?_ (hv := by (intro w' s; obtain ⟨q1, q2, q3, q4, q5, q6⟩ := FF w' s; go_simp; (try with_reducible rfl)))
      refine wpAnyH_ready (rs := [0, 9]) (by kernel_rfl) (by simp) ?_
      refine AllReadyH.cons rfl (fun K hK => ?_) (AllReadyH.cons rfl (fun K hK => ?_) AllReadyH.nil)
      · (go_simp; refine tr hK (fun hHeld => ?_) hHeld; clear hK K)
        refine tc 9 fun K hK => ?_
        (go_simp; (go_at_call 35; refine (spanOf_any _ _ _ _ _).mono ?_; rintro e w1 ⟨rfl, hb1⟩; obtain ⟨hc1, hf1⟩ := bcell hb1; have hz1 := hb1.size; (try simp only [World.size_drew, World.size_alloc, World.size_setCell] at hc1 hf1 hz1); have hc2 := fun o => hc1 x o (by omega); have hf2 := fun o => hf1 x o (by omega); have hz2 : x < w1.heap.size := (by omega); clear hc1 hf1); (try go_wp2_with fail); refine tr hK (fun hHeld => ?_) (hHeld.trans (But.of_below hb1)); clear hK K)
        refine tc 10 fun K hK => ?_
        (go_simp; (go_at_call 44; refine (spanBoth_any _ _ _ _ _ _ _ _ _).mono ?_; rintro e w2 ⟨rfl, hb2⟩; obtain ⟨hc3, hf3⟩ := bcell hb2; have hz3 := hb2.size; (try simp only [World.size_drew, World.size_alloc, World.size_setCell] at hc3 hf3 hz3); have hc4 := fun o => hc3 x o (by omega); have hf4 := fun o => hf3 x o (by omega); clear hc3 hf3); (try go_wp2_with fail); refine tr hK (fun hHeld => ?_) (hHeld.trans (But.of_below hb2)); clear hK K)
        refine tc 11 fun K hK => ?_
        (go_simp; refine tr hK (fun hHeld => ?_) ((((hHeld.setCell rfl _).setCell rfl _).setCell rfl _).setCell rfl _); clear hK K)
        refine wpAnyH_done (by kernel_rfl) ?_ _
        go_wp2_with fail
        go_roundg (n - k - 1)
        case measure => omega
        case rel => exact ⟨k + 1, by omega, by omega, by go_num, ⟨hS.bel.trans (hHeld.below (Nat.le_of_lt hwx) (by omega)), keepB hHeld hbx (by show w.heap.size ≠ x; omega), hwx, ⟨mn sa (U (p * 5 + 1)), mn sb (U (p * 5 + 2)), mx sc (U (p * 5 + 3)), mx sd (U (p * 5 + 4)), ⟨by go_simp, by go_simp, by go_simp, by go_simp⟩, mn_bd ba (hU _ (by omega)), mn_bd bb (hU _ (by omega)), mx_bd bc (hU _ (by omega)), mx_bd bd (hU _ (by omega))⟩, ⟨by go_simp, by go_simp, by go_simp, by go_simp⟩⟩⟩
      · (go_simp; (go_at_call 35; refine (spanOf_any _ _ _ _ _).mono ?_; rintro e w1 ⟨rfl, hb1⟩; obtain ⟨hc1, hf1⟩ := bcell hb1; have hz1 := hb1.size; (try simp only [World.size_drew, World.size_alloc, World.size_setCell] at hc1 hf1 hz1); have hc2 := fun o => hc1 x o (by omega); have hf2 := fun o => hf1 x o (by omega); have hz2 : x < w1.heap.size := (by omega); clear hc1 hf1); (try go_wp2_with fail); refine tr hK (fun hHeld => ?_) (hHeld.trans (But.of_below hb1)); clear hK K)
        refine tc 0 fun K hK => ?_
        (go_simp; refine tr hK (fun hHeld => ?_) hHeld; clear hK K)
        refine tc 10 fun K hK => ?_
        (go_simp; (go_at_call 44; refine (spanBoth_any _ _ _ _ _ _ _ _ _).mono ?_; rintro e w2 ⟨rfl, hb2⟩; obtain ⟨hc3, hf3⟩ := bcell hb2; have hz3 := hb2.size; (try simp only [World.size_drew, World.size_alloc, World.size_setCell] at hc3 hf3 hz3); have hc4 := fun o => hc3 x o (by omega); have hf4 := fun o => hf3 x o (by omega); clear hc3 hf3); (try go_wp2_with fail); refine tr hK (fun hHeld => ?_) (hHeld.trans (But.of_below hb2)); clear hK K)
        refine tc 11 fun K hK => ?_
        (go_simp; refine tr hK (fun hHeld => ?_) ((((hHeld.setCell rfl _).setCell rfl _).setCell rfl _).setCell rfl _); clear hK K)
        refine wpAnyH_done (by kernel_rfl) ?_ _
        go_wp2_with fail
        go_roundg (n - k - 1)
        case measure => omega
        case rel => exact ⟨k + 1, by omega, by omega, by go_num, ⟨hS.bel.trans (hHeld.below (Nat.le_of_lt hwx) (by omega)), keepB hHeld hbx (by show w.heap.size ≠ x; omega), hwx, ⟨mn sa (U (p * 5 + 1)), mn sb (U (p * 5 + 2)), mx sc (U (p * 5 + 3)), mx sd (U (p * 5 + 4)), ⟨by go_simp, by go_simp, by go_simp, by go_simp⟩, mn_bd ba (hU _ (by omega)), mn_bd bb (hU _ (by omega)), mx_bd bc (hU _ (by omega)), mx_bd bd (hU _ (by omega))⟩, ⟨by go_simp, by go_simp, by go_simp, by go_simp⟩⟩⟩
    · have hlt1 : ¬ ((k : Int) < (n : Int)) := by omega
      obtain ⟨sa, sb, sc, sd, ⟨s0, s1, s2, s3⟩, ba, bb, bc, bd⟩ := hS.sp
      have hxl := cell_lt s0
      simp only at hxl
      have hwx := hS.lt
      have hbx := hS.box
      go_upto_region 7 with fail
      go_cut [7, 8] (fun u v wc => ∃ y z l0 l1, u = .pointer (some ⟨y, 0, none⟩) ∧ v = .pointer (some ⟨z, 0, none⟩) ∧ w.heap.size < z ∧ Below w.heap.size w wc ∧ wc.cell? ⟨w.heap.size, 0, none⟩ = some (.pointer (some ⟨tb, 0, none⟩)) ∧ wc.cell? ⟨y, 0, none⟩ = some (.int .i64 l0) ∧ wc.cell? ⟨y, 1, none⟩ = some (.int .i64 l1) ∧ wc.cell? ⟨z, 0, none⟩ = some (.int .i64 0) ∧ wc.frozen? ⟨z, 0, none⟩ = false)
      case first =>
        have hbel := hS.bel
        go_wp2_with fail
        refine (less_any _ _ _ _ _ bc bd ba bb).mono ?_; rintro e w1 ⟨rfl, hb1⟩; obtain ⟨hc1, hf1⟩ := bcell hb1; have hz1 := hb1.size; (try simp only [World.size_drew, World.size_alloc, World.size_setCell] at hc1 hf1 hz1); have hc2 := fun o => hc1 w.heap.size o (by omega); have hz2 : w.heap.size < w1.heap.size := (by omega); clear hc1 hf1
        go_wp2_with fail
        go_meet
        exact ⟨_, _, sc - sa, sd - sb, rfl, rfl, by omega, hbel.trans bel_a, by go_simp, by go_simp, by go_simp, by go_simp, by go_simp⟩
      case rest =>
      clear hS hbx hwx hxl s0 s1 s2 s3
      obtain ⟨y, z, e0, e1, rfl, rfl, hzl, hB, hbx, y0, y1, z0, zf⟩ := hcut
      go_upto_if 48 with fail
      go_cut [] (fun wc => ∃ s : Int, (s = 0 ∨ s = 1) ∧ Below w.heap.size w wc ∧ wc.cell? ⟨w.heap.size, 0, none⟩ = some (.pointer (some ⟨tb, 0, none⟩)) ∧ wc.cell? ⟨z, 0, none⟩ = some (.int .i64 s))
      case first =>
        by_cases hl : e0 < e1
        · go_wp2_with fail
          go_meet
          exact ⟨1, .inr rfl, hB.setCell (by simp only; omega) _, by rw [cset_other (by intro q; injection q with q1 q2; omega)]; exact hbx, by go_simp⟩
        · go_wp2_with fail
          go_meet
          exact ⟨0, .inl rfl, hB, hbx, z0⟩
      case rest =>
      clear hB hbx y0 y1 z0 zf
      obtain ⟨s, hs, hB, hbx, z0⟩ := hcut
      have zl := cell_lt z0
      simp only at zl
      have lw : w.heap.size < wc.heap.size := by have := hB.size; omega
      have hst : ∀ w', (store ⟨wc.heap.size, 0, none⟩ (.func (.func 54) #[] #[.pointer (some ⟨w.heap.size, 0, none⟩), .pointer (some ⟨z, 0, none⟩)])).run Try.prog w' = stored Try.prog w' ⟨wc.heap.size, 0, none⟩ (.func (.func 54) #[] #[.pointer (some ⟨w.heap.size, 0, none⟩), .pointer (some ⟨z, 0, none⟩)]) .plain := fun w' => run_store _ _ _ _ _ rfl
      go_upto_region 11 with fail
      have hE : Below wc.heap.size wc (wc.alloc (.cells #[.func (.func 54) #[] #[.pointer (some ⟨w.heap.size, 0, none⟩), .pointer (some ⟨z, 0, none⟩)]] 95)) := (Below.refl _ _).alloc (Nat.le_refl _) _
      have hfb : (wc.alloc (.cells #[.func (.func 54) #[] #[.pointer (some ⟨w.heap.size, 0, none⟩), .pointer (some ⟨z, 0, none⟩)]] 95)).cell? ⟨wc.heap.size, 0, none⟩ = some (.func (.func 54) #[] #[.pointer (some ⟨w.heap.size, 0, none⟩), .pointer (some ⟨z, 0, none⟩)]) := by go_simp
      generalize wc.alloc (.cells #[.func (.func 54) #[] #[.pointer (some ⟨w.heap.size, 0, none⟩), .pointer (some ⟨z, 0, none⟩)]] 95) = w9 at hE hfb ⊢
      have hB9 := hB.trans (hE.mono (Nat.le_of_lt lw))
      have hT9 : Trn lb off n w w9 := (Trn.refl lb off n w).below hlb hB9
      have hCm : Cmp lb off n (N : Int) (.pointer (some ⟨wc.heap.size, 0, none⟩)) w9 := cmp_of lb off n wc.heap.size w.heap.size tb z (some ⟨b, o, none⟩) N ci U s hs w9 (fun wr hr => hF wr (hT9.trans hr)) (by omega) hne (by omega) (by omega) (keepc hE hbx) (keepc hB9 c1) (keepc hE z0) hfb
      go_wp2_with fail
      refine (sortStable_any lb off n cap (N : Int) _ V _ (hR.below hlb hB9) hV hCm (hT9.lt hlb) hn).mono ?_; rintro e w2 ⟨rfl, hS2⟩
      go_wp2_with fail
      go_end0
      exact ⟨rfl, Srt.trans hT9 (Sw.refl _ _) hS2⟩
end Go.Proofs.Ytcbgcochpflblaa
namespace Go.Proofs.Ytcbgcochpflblaa
set_option linter.unusedVariables false
/-- a table of nodes: a leaf's item; or the two nodes under it -/
structure Tab4 where
  leaf : Nat → Option Nat
  left : Nat → Nat
  right : Nat → Nat
/-- the items under a node, in the tree's order -/
inductive Cov (T : Tab4) : Nat → List Nat → Prop
  | leaf {k i} : T.leaf k = some i → Cov T k [i]
  | node {k a b} : T.leaf k = none → Cov T (T.left k) a → Cov T (T.right k) b → Cov T k (a ++ b)
theorem Cov.pos {T : Tab4} {k : Nat} {c : List Nat} (h : Cov T k c) : 0 < c.length := by
  induction h with
  | leaf _ => simp
  | node _ _ _ ha hb => simp; omega
/-- tables that agree at all nodes below m -/
structure Same4 (m : Nat) (T U : Tab4) : Prop where
  leaf : ∀ k, k < m → T.leaf k = U.leaf k
  left : ∀ k, k < m → T.left k = U.left k
  right : ∀ k, k < m → T.right k = U.right k
/-- each node stands behind those under it -/
def Down (m : Nat) (T : Tab4) : Prop := ∀ k, k < m → T.leaf k = none → T.left k < k ∧ T.right k < k
theorem Cov.same {T U : Tab4} {m : Nat} (s : Same4 m T U) (d : Down m T) {k : Nat} {c : List Nat} (h : Cov T k c) (hk : k < m) : Cov U k c := by
  induction h with
  | leaf e => exact .leaf (by rw [← s.leaf _ hk]; exact e)
  | node e _ _ ha hb =>
    obtain ⟨d1, d2⟩ := d _ hk e
    refine .node (by rw [← s.leaf _ hk]; exact e) ?_ ?_
    · rw [← s.left _ hk]; exact ha (by omega)
    · rw [← s.right _ hk]; exact hb (by omega)
/-- what is under the nodes of a stack, the top first -/
inductive Covs (T : Tab4) : List Nat → List (List Nat) → Prop
  | nil : Covs T [] []
  | cons {k o c cs} : Cov T k c → Covs T o cs → Covs T (k :: o) (c :: cs)
/-- how much is left to do -/
def todo : List (List Nat) → Nat
  | [] => 0
  | c :: cs => (2 * c.length - 1) + todo cs
/-- while it is looked for: what is found, and what is under the stack, is what is wanted -/
structure Look (T : Tab4) (M : Nat → Bool) (want found open_ : List Nat) (cs : List (List Nat)) : Prop where
  cov : Covs T open_ cs
  perm : (found ++ cs.flatten.filter M).Perm want
theorem Look.start {T : Tab4} {M : Nat → Bool} {k : Nat} {c : List Nat} (h : Cov T k c) : Look T M (c.filter M) [] [k] [c] :=
  ⟨.cons h .nil, by simp⟩
theorem Look.done {T : Tab4} {M : Nat → Bool} {want found : List Nat} {cs : List (List Nat)} (h : Look T M want found [] cs) : found.Perm want := by
  obtain ⟨hc, hp⟩ := h
  cases hc
  simpa using hp
/-- nothing of it meets -/
theorem Look.skip {T : Tab4} {M : Nat → Bool} {want found o : List Nat} {k : Nat} {cs : List (List Nat)} (h : Look T M want found (k :: o) cs) (hA : ∀ c, Cov T k c → ∀ i ∈ c, M i = false) :
    ∃ cs', Look T M want found o cs' ∧ todo cs' < todo cs := by
  obtain ⟨hc, hp⟩ := h
  cases hc with
  | @cons _ _ c cs hk ho =>
    refine ⟨cs, ⟨ho, ?_⟩, by have := hk.pos; simp only [todo]; omega⟩
    have e : c.filter M = [] := by
      rw [List.filter_eq_nil_iff]
      intro i hi
      rw [hA c hk i hi]; simp
    simpa [e] using hp
/-- a leaf that meets, or does not -/
theorem Look.leaf {T : Tab4} {M : Nat → Bool} {want found o : List Nat} {k i : Nat} {cs : List (List Nat)} (h : Look T M want found (k :: o) cs) (hl : T.leaf k = some i) :
    ∃ cs', Look T M want (if M i then found ++ [i] else found) o cs' ∧ todo cs' < todo cs := by
  obtain ⟨hc, hp⟩ := h
  cases hc with
  | @cons _ _ c cs hk ho =>
    cases hk with
    | node e _ _ => rw [hl] at e; cases e
    | leaf e =>
      rw [hl] at e
      obtain rfl := Option.some.inj e
      refine ⟨cs, ⟨ho, ?_⟩, by simp only [todo, List.length_cons, List.length_nil]; omega⟩
      cases hM : M i with
      | false => simpa [hM] using hp
      | true => simpa [hM] using hp
/-- a node: both under it are put on the stack, the right one on top -/
theorem Look.node {T : Tab4} {M : Nat → Bool} {want found o : List Nat} {k : Nat} {cs : List (List Nat)} (h : Look T M want found (k :: o) cs) (hl : T.leaf k = none) :
    ∃ cs', Look T M want found (T.right k :: T.left k :: o) cs' ∧ todo cs' < todo cs := by
  obtain ⟨hc, hp⟩ := h
  cases hc with
  | @cons _ _ c cs hk ho =>
    cases hk with
    | leaf e => rw [hl] at e; cases e
    | @node _ a b e ha hb =>
      refine ⟨b :: a :: cs, ⟨.cons hb (.cons ha ho), ?_⟩, ?_⟩
      · refine List.Perm.trans ?_ hp
        simp only [List.flatten_cons, List.filter_append, ← List.append_assoc]
        refine List.Perm.append_right _ ?_
        rw [List.append_assoc, List.append_assoc]
        exact List.Perm.append_left _ List.perm_append_comm
      · have p1 := ha.pos
        have p2 := hb.pos
        simp only [todo, List.length_append]
        omega
/-- ascending without the same twice: one list alone -/
theorem asc_eq : ∀ {l m : List Nat}, l.Pairwise (· < ·) → m.Pairwise (· < ·) → l.Perm m → l = m
  | [], m, _, _, h => by rw [List.nil_perm.1 h]
  | a :: l, [], _, _, h => by simpa using h.length_eq
  | a :: l, b :: m, hl, hm, h => by
    rw [List.pairwise_cons] at hl hm
    have hab : a = b := by
      have h1 : a ∈ b :: m := h.subset (List.mem_cons_self ..)
      have h2 : b ∈ a :: l := h.symm.subset (List.mem_cons_self ..)
      rcases List.mem_cons.1 h1 with e | e
      · exact e
      · rcases List.mem_cons.1 h2 with f | f
        · exact f.symm
        · have := hl.1 b f
          have := hm.1 a e
          omega
    subst hab
    rw [asc_eq hl.2 hm.2 (List.Perm.cons_inv h)]
/-- what is found, put in order, is what the specification goes over -/
theorem found_eq {M : Nat → Bool} {n : Nat} {c found out : List Nat} (hc : c.Perm (List.range n)) (hf : found.Perm (c.filter M)) (ho : out.Perm found) (hs : out.Pairwise (· ≤ ·)) : out = (List.range n).filter M := by
  have hp : out.Perm ((List.range n).filter M) := ho.trans (hf.trans (hc.filter M))
  have hr : ((List.range n).filter M).Pairwise (· < ·) := List.Pairwise.filter _ List.pairwise_lt_range
  have hn : out.Nodup := hp.nodup_iff.2 (hr.imp (fun h => Nat.ne_of_lt h))
  refine asc_eq ?_ hr hp
  exact (hs.and hn).imp (fun h => Nat.lt_of_le_of_ne h.1 h.2)
end Go.Proofs.Ytcbgcochpflblaa
