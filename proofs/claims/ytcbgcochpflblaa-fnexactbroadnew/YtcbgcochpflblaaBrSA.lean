/- The tree's sort of places along a side. -/
import Derived.Test.YtcbgcochpflblaaB13
import Derived.Test.YtcbgcochpflblaaBrCm
import Derived.Test.YtcbgcochpflblaaB19
import Derived.Deep.RegionHeld3
import Derived.Deep.DeepCutAuto
namespace Go.Proofs.Ytcbgcochpflblaa
open Go.RowKit
set_option linter.unusedVariables false
set_option linter.unusedSimpArgs false
/-- four numbers of a span in a block -/
structure Sp4 (w : World) (x : Nat) (a b c d : Int) : Prop where
  a0 : w.cell? ⟨x, 0, none⟩ = some (.int .i64 a)
  a1 : w.cell? ⟨x, 1, none⟩ = some (.int .i64 b)
  a2 : w.cell? ⟨x, 2, none⟩ = some (.int .i64 c)
  a3 : w.cell? ⟨x, 3, none⟩ = some (.int .i64 d)
def Bd (a : Int) : Prop := -4000000000 ≤ a ∧ a ≤ 4000000000
/-- what the sort along a side begins with, and keeps -/
structure Sal (tb : Nat) (w wc : World) (x : Nat) : Prop where
  bel : Below w.heap.size w wc
  box : wc.cell? ⟨w.heap.size, 0, none⟩ = some (.pointer (some ⟨tb, 0, none⟩))
  lt : w.heap.size < x
  sp : ∃ a b c d, Sp4 wc x a b c d ∧ Bd a ∧ Bd b ∧ Bd c ∧ Bd d
  fr : wc.frozen? ⟨x, 0, none⟩ = false ∧ wc.frozen? ⟨x, 1, none⟩ = false ∧ wc.frozen? ⟨x, 2, none⟩ = false ∧ wc.frozen? ⟨x, 3, none⟩ = false
theorem keepB {x : Nat} {w w' : World} {p : Addr} {v : Value} (hb : But x w w') (h : w.cell? p = some v) (hne : p.block ≠ x) : w'.cell? p = some v := (hb.cell (cell_lt h) hne).trans h
theorem keepc {w w' : World} {p : Addr} {v : Value} (hb : Below w.heap.size w w') (h : w.cell? p = some v) : w'.cell? p = some v := (hb.cell (cell_lt h)).trans h
set_option maxRecDepth 20000 in
set_option maxHeartbeats 1000000 in
theorem sortAlong_any (tb lb off n cap : Nat) (ai : Option Addr) (N ci : Nat) (U V : Nat → Int) (w : World) (h : Flat w ai (N * 5) U) (hR : Rwo w lb off n V) (hV : ∀ i, i < n → 0 ≤ V i ∧ V i < (N : Int)) (hlb : lb < w.heap.size) (hn : n ≤ 1000) (h1 : 1 ≤ n)
    (hF : ∀ wr, Trn lb off n w wr → Flat wr ai (N * 5) U) (hU : ∀ q, q < N * 5 → Bd (U q)) (c1 : w.cell? ⟨tb, 0, none⟩ = some (.slice ai N ci)) (hne : tb ≠ lb) :
    Calls Try.prog 43 #[.pointer (some ⟨tb, 0, none⟩), .slice (some ⟨lb, off, none⟩) n cap] w fun e w' => e = .returned (.tuple #[]) ∧ Srt lb off n V w w' := by
  have hset := cset_map
  have l1 := cell_lt c1
  obtain ⟨hV0, hV1⟩ := hV 0 (by omega)
  have hN : 0 < N := by omega
  obtain ⟨b, o, rfl, hbl, hc⟩ := h (by omega)
  have hni : (0 : Int) < (n : Int) := by omega
  have hnn : 0 < n := h1
  go_enter Try.func43, Try.ntmps43
  go_upto_region 1 with fail
  have hE : Below w.heap.size w (w.alloc (.cells #[.pointer (some ⟨tb, 0, none⟩)] 71)) := (Below.refl _ _).alloc (Nat.le_refl _) _
  have hx : (w.alloc (.cells #[.pointer (some ⟨tb, 0, none⟩)] 71)).cell? ⟨w.heap.size, 0, none⟩ = some (.pointer (some ⟨tb, 0, none⟩)) := by go_simp
  have hz : (w.alloc (.cells #[.pointer (some ⟨tb, 0, none⟩)] 71)).heap.size = w.heap.size + 1 := by simp
  generalize w.alloc (.cells #[.pointer (some ⟨tb, 0, none⟩)] 71) = w0 at hE hx hz ⊢
  go_cut [4] (fun v wc => ∃ x, v = .pointer (some ⟨x, 0, none⟩) ∧ Sal tb w wc x)
  case first =>
    obtain ⟨p, hp⟩ := Int.eq_ofNat_of_zero_le hV0
    have hpN : p < N := by omega
    have hpi : (p : Int) < (N : Int) := by omega
    have r0 := hR.cell 0 (by omega)
    rw [hp] at r0
    obtain ⟨k0, k1, k2, k3, k4⟩ := box_cells hc hpN
    have FF : ∀ w', Below w0.heap.size w0 w' → w'.cell? ⟨w.heap.size, 0, none⟩ = some (.pointer (some ⟨tb, 0, none⟩)) ∧ w'.cell? ⟨tb, 0, none⟩ = some (.slice (some ⟨b, o, none⟩) N ci) ∧ w'.cell? ⟨lb, off, none⟩ = some (.int .i64 (p : Int)) ∧ w'.cell? ⟨b, o + p * 5 + 1, none⟩ = some (.int .i64 (U (p * 5 + 1))) ∧ w'.cell? ⟨b, o + p * 5 + 1 + 1, none⟩ = some (.int .i64 (U (p * 5 + 2))) ∧ w'.cell? ⟨b, o + p * 5 + 1 + 2, none⟩ = some (.int .i64 (U (p * 5 + 3))) ∧ w'.cell? ⟨b, o + p * 5 + 1 + 3, none⟩ = some (.int .i64 (U (p * 5 + 4))) :=
      fun w' s => ⟨keepc s hx, keepc s (keepc hE c1), keepc s (keepc hE r0), keepc s (keepc hE k1), keepc s (keepc hE k2), keepc s (keepc hE k3), keepc s (keepc hE k4)⟩
    refine wp_region_held_drew (S := fun w' => Below w0.heap.size w0 w') (by kernel_rfl) ((Below.refl _ _).drew) (fun hHeld => ?_)
    refine tq 0 hHeld ?_ (hv := by (intro w' s; obtain ⟨q1, q2, q3, q4, q5, q6, q7⟩ := FF w' s; go_simp; (try with_reducible rfl)))
    refine tq 1 hHeld ?_
    refine tq 2 hHeld ?_
    refine tq 3 hHeld ?_ (hv := by (intro w' s; obtain ⟨q1, q2, q3, q4, q5, q6, q7⟩ := FF w' s; go_simp; (try with_reducible rfl)))
    refine tq 4 hHeld ?_
    refine tq 5 hHeld ?_
    refine tq 6 hHeld ?_ (hv := by (intro w' s; obtain ⟨q1, q2, q3, q4, q5, q6, q7⟩ := FF w' s; go_simp; (try with_reducible rfl)))
    refine tq 7 hHeld ?_
    refine tq 8 hHeld ?_
    refine tq 9 hHeld ?_ (hv := by (intro w' s; obtain ⟨q1, q2, q3, q4, q5, q6, q7⟩ := FF w' s; go_simp; (try with_reducible rfl)))
    refine wpAnyH_ready (rs := [10, 11]) (by kernel_rfl) (by simp) ?_
    refine AllReadyH.cons rfl (fun K hK => ?_) (AllReadyH.cons rfl (fun K hK => ?_) AllReadyH.nil)
    · (go_simp; (go_at_call 35; refine (spanOf_any _ _ _ _ _).mono ?_; rintro e w1 ⟨rfl, hb1⟩; obtain ⟨hc1, hf1⟩ := bcell hb1; have hz1 := hb1.size; (try simp only [World.size_drew, World.size_alloc, World.size_setCell] at hc1 hf1 hz1); (try have hc2 := fun o => hc1 (w.heap.size + 1) o (by omega)); (try have hf2 := fun o => hf1 (w.heap.size + 1) o (by omega)); clear hc1 hf1); (try go_wp2_with fail); refine tr hK (fun hHeld => ?_) (hHeld.trans (hb1.mono hHeld.size)); clear hK K)
      refine tc 11 fun K hK => ?_
      (go_simp; refine tr hK (fun hHeld => ?_) (hHeld.alloc hHeld.size _); clear hK K)
      refine tc 12 fun K hK => ?_
      (go_simp; refine tr hK (fun hHeld => ?_) bel_a; clear hK K)
      refine wpAnyH_done (by kernel_rfl) ?_ _
      go_wp2_with fail
      go_meet
      exact ⟨_, rfl, ⟨hE.trans (hHeld.mono (by omega)), keepc hHeld hx, (by omega), ⟨U (p * 5 + 1), U (p * 5 + 2), U (p * 5 + 3), U (p * 5 + 4), ⟨by go_simp, by go_simp, by go_simp, by go_simp⟩, hU _ (by omega), hU _ (by omega), hU _ (by omega), hU _ (by omega)⟩, ⟨by go_simp, by go_simp, by go_simp, by go_simp⟩⟩⟩
    · (go_simp; refine tr hK (fun hHeld => ?_) (hHeld.alloc hHeld.size _); clear hK K)
      refine tc 10 fun K hK => ?_
      (go_simp; (go_at_call 35; refine (spanOf_any _ _ _ _ _).mono ?_; rintro e w1 ⟨rfl, hb1⟩; obtain ⟨hc1, hf1⟩ := bcell hb1; have hz1 := hb1.size; (try simp only [World.size_drew, World.size_alloc, World.size_setCell] at hc1 hf1 hz1); (try have hc2 := fun o => hc1 (w.heap.size + 1) o (by omega)); (try have hf2 := fun o => hf1 (w.heap.size + 1) o (by omega)); clear hc1 hf1); (try go_wp2_with fail); refine tr hK (fun hHeld => ?_) (hHeld.trans (hb1.mono hHeld.size)); clear hK K)
      refine tc 12 fun K hK => ?_
      (go_simp; refine tr hK (fun hHeld => ?_) bel_a; clear hK K)
      refine wpAnyH_done (by kernel_rfl) ?_ _
      go_wp2_with fail
      go_meet
      exact ⟨_, rfl, ⟨hE.trans (hHeld.mono (by omega)), keepc hHeld hx, (by omega), ⟨U (p * 5 + 1), U (p * 5 + 2), U (p * 5 + 3), U (p * 5 + 4), ⟨by go_simp, by go_simp, by go_simp, by go_simp⟩, hU _ (by omega), hU _ (by omega), hU _ (by omega), hU _ (by omega)⟩, ⟨by go_simp, by go_simp, by go_simp, by go_simp⟩⟩⟩
  case rest =>
  clear hx
  obtain ⟨x, rfl, hS⟩ := hcut
  clear hE hz
  go_wp2
  go_loopg [23] n (fun g vi wr => ∃ k : Nat, k ≤ n ∧ n - k ≤ g ∧ vi = .int .i64 (k : Int) ∧ Sal tb w wr x)
  case atStart => exact ⟨0, by omega, by omega, rfl, hS⟩
  case round =>
    clear hS
    obtain ⟨k, hk, hg, rfl, hS⟩ := hrel
    by_cases hlt : k < n
    · have hlt1 : (k : Int) < (n : Int) := by omega
      obtain ⟨hp0, hp1⟩ := hV k hlt
      obtain ⟨p, hp⟩ := Int.eq_ofNat_of_zero_le hp0
      have hpN : p < N := by omega
      have hpi : (p : Int) < (N : Int) := by omega
      have r0 := (hR.below hlb hS.bel).cell k hlt
      rw [hp] at r0
      obtain ⟨k0, k1, k2, k3, k4⟩ := box_cells hc hpN
      obtain ⟨sa, sb, sc, sd, ⟨s0, s1, s2, s3⟩, ba, bb, bc, bd⟩ := hS.sp
      obtain ⟨f0, f1, f2, f3⟩ := hS.fr
      have hxl := cell_lt s0
      simp only at hxl
      have hwx := hS.lt
      have hbx := hS.box
      have FF : ∀ w', But x wr w' → w'.cell? ⟨w.heap.size, 0, none⟩ = some (.pointer (some ⟨tb, 0, none⟩)) ∧ w'.cell? ⟨tb, 0, none⟩ = some (.slice (some ⟨b, o, none⟩) N ci) ∧ w'.cell? ⟨b, o + p * 5 + 1, none⟩ = some (.int .i64 (U (p * 5 + 1))) ∧ w'.cell? ⟨b, o + p * 5 + 1 + 1, none⟩ = some (.int .i64 (U (p * 5 + 2))) ∧ w'.cell? ⟨b, o + p * 5 + 1 + 2, none⟩ = some (.int .i64 (U (p * 5 + 3))) ∧ w'.cell? ⟨b, o + p * 5 + 1 + 3, none⟩ = some (.int .i64 (U (p * 5 + 4))) :=
        fun w' s => ⟨keepB s hS.box (by simp only; omega), keepB s (keepc hS.bel c1) (by simp only; omega), keepB s (keepc hS.bel k1) (by simp only; omega), keepB s (keepc hS.bel k2) (by simp only; omega), keepB s (keepc hS.bel k3) (by simp only; omega), keepB s (keepc hS.bel k4) (by simp only; omega)⟩
      go_upto_region 5 with fail
      refine wp_region_held_drew (S := fun w' => But x wr w') (by kernel_rfl) ((But.refl _ _).drew) (fun hHeld => ?_)
      refine tq 1 hHeld ?_ (hv := by (intro w' s; obtain ⟨q1, q2, q3, q4, q5, q6⟩ := FF w' s; go_simp; (try with_reducible rfl)))
      refine tq 2 hHeld ?_
      refine tq 3 hHeld ?_
      refine tq 4 hHeld ?_ (hv := by (intro w' s; obtain ⟨q1, q2, q3, q4, q5, q6⟩ := FF w' s; go_simp; (try with_reducible rfl)))
      refine tq 5 hHeld ?_
      refine tq 6 hHeld ?_
      refine tq 7 hHeld ?_
      refine tq 8 hHeld ?_ (hv := by (intro w' s; obtain ⟨q1, q2, q3, q4, q5, q6⟩ := FF w' s; go_simp; (try with_reducible rfl)))
      refine wpAnyH_ready (rs := [0, 9]) (by kernel_rfl) (by simp) ?_
      refine AllReadyH.cons rfl (fun K hK => ?_) (AllReadyH.cons rfl (fun K hK => ?_) AllReadyH.nil)
      · (go_simp; refine tr hK (fun hHeld => ?_) hHeld; clear hK K)
        refine tc 9 fun K hK => ?_
        (go_simp; (go_at_call 35; refine (spanOf_any _ _ _ _ _).mono ?_; rintro e w1 ⟨rfl, hb1⟩; obtain ⟨hc1, hf1⟩ := bcell hb1; have hz1 := hb1.size; (try simp only [World.size_drew, World.size_alloc, World.size_setCell] at hc1 hf1 hz1); have hc2 := fun o => hc1 x o (by omega); have hf2 := fun o => hf1 x o (by omega); have hz2 : x < w1.heap.size := (by omega); clear hc1 hf1); (try go_wp2_with fail); refine tr hK (fun hHeld => ?_) (hHeld.trans (But.of_below hb1)); clear hK K)
        refine tc 10 fun K hK => ?_
        (go_simp; (go_at_call 44; refine (spanBoth_any _ _ _ _ _ _ _ _ _).mono ?_; rintro e w2 ⟨rfl, hb2⟩; obtain ⟨hc3, hf3⟩ := bcell hb2; have hz3 := hb2.size; (try simp only [World.size_drew, World.size_alloc, World.size_setCell] at hc3 hf3 hz3); have hc4 := fun o => hc3 x o (by omega); have hf4 := fun o => hf3 x o (by omega); clear hc3 hf3); (try go_wp2_with fail); refine tr hK (fun hHeld => ?_) (hHeld.trans (But.of_below hb2)); clear hK K)
        refine tc 11 fun K hK => ?_
        (go_simp; refine tr hK (fun hHeld => ?_) ((((hHeld.setCell rfl _).setCell rfl _).setCell rfl _).setCell rfl _); clear hK K)
        refine wpAnyH_done (by kernel_rfl) ?_ _
        go_wp2_with fail
        go_roundg (n - k - 1)
        case measure => omega
        case rel => exact ⟨k + 1, by omega, by omega, by go_num, ⟨hS.bel.trans (hHeld.below (Nat.le_of_lt hwx) (by omega)), keepB hHeld hbx (by show w.heap.size ≠ x; omega), hwx, ⟨mn sa (U (p * 5 + 1)), mn sb (U (p * 5 + 2)), mx sc (U (p * 5 + 3)), mx sd (U (p * 5 + 4)), ⟨by go_simp, by go_simp, by go_simp, by go_simp⟩, mn_bd ba (hU _ (by omega)), mn_bd bb (hU _ (by omega)), mx_bd bc (hU _ (by omega)), mx_bd bd (hU _ (by omega))⟩, ⟨by go_simp, by go_simp, by go_simp, by go_simp⟩⟩⟩
      · (go_simp; (go_at_call 35; refine (spanOf_any _ _ _ _ _).mono ?_; rintro e w1 ⟨rfl, hb1⟩; obtain ⟨hc1, hf1⟩ := bcell hb1; have hz1 := hb1.size; (try simp only [World.size_drew, World.size_alloc, World.size_setCell] at hc1 hf1 hz1); have hc2 := fun o => hc1 x o (by omega); have hf2 := fun o => hf1 x o (by omega); have hz2 : x < w1.heap.size := (by omega); clear hc1 hf1); (try go_wp2_with fail); refine tr hK (fun hHeld => ?_) (hHeld.trans (But.of_below hb1)); clear hK K)
        refine tc 0 fun K hK => ?_
        (go_simp; refine tr hK (fun hHeld => ?_) hHeld; clear hK K)
        refine tc 10 fun K hK => ?_
        (go_simp; (go_at_call 44; refine (spanBoth_any _ _ _ _ _ _ _ _ _).mono ?_; rintro e w2 ⟨rfl, hb2⟩; obtain ⟨hc3, hf3⟩ := bcell hb2; have hz3 := hb2.size; (try simp only [World.size_drew, World.size_alloc, World.size_setCell] at hc3 hf3 hz3); have hc4 := fun o => hc3 x o (by omega); have hf4 := fun o => hf3 x o (by omega); clear hc3 hf3); (try go_wp2_with fail); refine tr hK (fun hHeld => ?_) (hHeld.trans (But.of_below hb2)); clear hK K)
        refine tc 11 fun K hK => ?_
        (go_simp; refine tr hK (fun hHeld => ?_) ((((hHeld.setCell rfl _).setCell rfl _).setCell rfl _).setCell rfl _); clear hK K)
        refine wpAnyH_done (by kernel_rfl) ?_ _
        go_wp2_with fail
        go_roundg (n - k - 1)
        case measure => omega
        case rel => exact ⟨k + 1, by omega, by omega, by go_num, ⟨hS.bel.trans (hHeld.below (Nat.le_of_lt hwx) (by omega)), keepB hHeld hbx (by show w.heap.size ≠ x; omega), hwx, ⟨mn sa (U (p * 5 + 1)), mn sb (U (p * 5 + 2)), mx sc (U (p * 5 + 3)), mx sd (U (p * 5 + 4)), ⟨by go_simp, by go_simp, by go_simp, by go_simp⟩, mn_bd ba (hU _ (by omega)), mn_bd bb (hU _ (by omega)), mx_bd bc (hU _ (by omega)), mx_bd bd (hU _ (by omega))⟩, ⟨by go_simp, by go_simp, by go_simp, by go_simp⟩⟩⟩
    · have hlt1 : ¬ ((k : Int) < (n : Int)) := by omega
      obtain ⟨sa, sb, sc, sd, ⟨s0, s1, s2, s3⟩, ba, bb, bc, bd⟩ := hS.sp
      have hxl := cell_lt s0
      simp only at hxl
      have hwx := hS.lt
      have hbx := hS.box
      go_upto_region 7 with fail
      go_cut [7, 8] (fun u v wc => ∃ y z l0 l1, u = .pointer (some ⟨y, 0, none⟩) ∧ v = .pointer (some ⟨z, 0, none⟩) ∧ w.heap.size < z ∧ Below w.heap.size w wc ∧ wc.cell? ⟨w.heap.size, 0, none⟩ = some (.pointer (some ⟨tb, 0, none⟩)) ∧ wc.cell? ⟨y, 0, none⟩ = some (.int .i64 l0) ∧ wc.cell? ⟨y, 1, none⟩ = some (.int .i64 l1) ∧ wc.cell? ⟨z, 0, none⟩ = some (.int .i64 0) ∧ wc.frozen? ⟨z, 0, none⟩ = false)
      case first =>
        have hbel := hS.bel
        go_wp2_with fail
        refine (less_any _ _ _ _ _ bc bd ba bb).mono ?_; rintro e w1 ⟨rfl, hb1⟩; obtain ⟨hc1, hf1⟩ := bcell hb1; have hz1 := hb1.size; (try simp only [World.size_drew, World.size_alloc, World.size_setCell] at hc1 hf1 hz1); have hc2 := fun o => hc1 w.heap.size o (by omega); have hz2 : w.heap.size < w1.heap.size := (by omega); clear hc1 hf1
        go_wp2_with fail
        go_meet
        exact ⟨_, _, sc - sa, sd - sb, rfl, rfl, by omega, hbel.trans bel_a, by go_simp, by go_simp, by go_simp, by go_simp, by go_simp⟩
      case rest =>
      clear hS hbx hwx hxl s0 s1 s2 s3
      obtain ⟨y, z, e0, e1, rfl, rfl, hzl, hB, hbx, y0, y1, z0, zf⟩ := hcut
      go_upto_if 48 with fail
      go_cut [] (fun wc => ∃ s : Int, (s = 0 ∨ s = 1) ∧ Below w.heap.size w wc ∧ wc.cell? ⟨w.heap.size, 0, none⟩ = some (.pointer (some ⟨tb, 0, none⟩)) ∧ wc.cell? ⟨z, 0, none⟩ = some (.int .i64 s))
      case first =>
        by_cases hl : e0 < e1
        · go_wp2_with fail
          go_meet
          exact ⟨1, .inr rfl, hB.setCell (by simp only; omega) _, by rw [cset_other (by intro q; injection q with q1 q2; omega)]; exact hbx, by go_simp⟩
        · go_wp2_with fail
          go_meet
          exact ⟨0, .inl rfl, hB, hbx, z0⟩
      case rest =>
      clear hB hbx y0 y1 z0 zf
      obtain ⟨s, hs, hB, hbx, z0⟩ := hcut
      have zl := cell_lt z0
      simp only at zl
      have lw : w.heap.size < wc.heap.size := by have := hB.size; omega
      have hst : ∀ w', (store ⟨wc.heap.size, 0, none⟩ (.func (.func 54) #[] #[.pointer (some ⟨w.heap.size, 0, none⟩), .pointer (some ⟨z, 0, none⟩)])).run Try.prog w' = stored Try.prog w' ⟨wc.heap.size, 0, none⟩ (.func (.func 54) #[] #[.pointer (some ⟨w.heap.size, 0, none⟩), .pointer (some ⟨z, 0, none⟩)]) .plain := fun w' => run_store _ _ _ _ _ rfl
      go_upto_region 11 with fail
      have hE : Below wc.heap.size wc (wc.alloc (.cells #[.func (.func 54) #[] #[.pointer (some ⟨w.heap.size, 0, none⟩), .pointer (some ⟨z, 0, none⟩)]] 95)) := (Below.refl _ _).alloc (Nat.le_refl _) _
      have hfb : (wc.alloc (.cells #[.func (.func 54) #[] #[.pointer (some ⟨w.heap.size, 0, none⟩), .pointer (some ⟨z, 0, none⟩)]] 95)).cell? ⟨wc.heap.size, 0, none⟩ = some (.func (.func 54) #[] #[.pointer (some ⟨w.heap.size, 0, none⟩), .pointer (some ⟨z, 0, none⟩)]) := by go_simp
      generalize wc.alloc (.cells #[.func (.func 54) #[] #[.pointer (some ⟨w.heap.size, 0, none⟩), .pointer (some ⟨z, 0, none⟩)]] 95) = w9 at hE hfb ⊢
      have hB9 := hB.trans (hE.mono (Nat.le_of_lt lw))
      have hT9 : Trn lb off n w w9 := (Trn.refl lb off n w).below hlb hB9
      have hCm : Cmp lb off n (N : Int) (.pointer (some ⟨wc.heap.size, 0, none⟩)) w9 := cmp_of lb off n wc.heap.size w.heap.size tb z (some ⟨b, o, none⟩) N ci U s hs w9 (fun wr hr => hF wr (hT9.trans hr)) (by omega) hne (by omega) (by omega) (keepc hE hbx) (keepc hB9 c1) (keepc hE z0) hfb
      go_wp2_with fail
      refine (sortStable_any lb off n cap (N : Int) _ V _ (hR.below hlb hB9) hV hCm (hT9.lt hlb) hn).mono ?_; rintro e w2 ⟨rfl, hS2⟩
      go_wp2_with fail
      go_end0
      exact ⟨rfl, Srt.trans hT9 (Sw.refl _ _) hS2⟩
end Go.Proofs.Ytcbgcochpflblaa
